/- What is proved here: plain facts and contracts that the claimed theorem stands on. No condition but those that each names. -/
import Derived.Test.YtnidfceinoiboaaGreatG09
import Derived.Lib.SliceRun
namespace Go.Proofs.YtnidfceinoiboaaGreat
open Go.RowKit
set_option maxHeartbeats 1000000
set_option maxRecDepth 100000
theorem gE(w:World)(s0 s1 b c d e:Value)(t1 t2 a:TypeId):Below w.heap.size w (((w.alloc (.cells #[s0,s1] t1)).alloc (.cells #[b,c,d,e] t2)).alloc (.cells #[.int .i64 0,.int .i64 0,.string .empty,.slice none 0 0] a))/\ mC (w.heap.size+1+1) (((w.alloc (.cells #[s0,s1] t1)).alloc (.cells #[b,c,d,e] t2)).alloc (.cells #[.int .i64 0,.int .i64 0,.string .empty,.slice none 0 0] a)):=by
 refine⟨(((ah _ _).alloc (ag _) _).alloc (by simp) _).alloc (by simp;omega) _,⟨?_,?_,?_,?_⟩,⟨?_,?_,?_,?_⟩,?_⟩<;>simp[go_sem]
theorem IH{w W:World}{s0 s1 d e f g y0 y1 y2 a:Value}{t1 t2 c t4:TypeId}(b:(((w.alloc (.cells #[s0,s1] t1)).alloc (.cells #[d,e,f,g] t2)).alloc (.cells #[.int .i64 0,.int .i64 0,.string .empty,.slice none 0 0] c)).alloc (.cells #[y0,y1,y2,a] t4)=W):Below w.heap.size w W/\mC (w.heap.size+1+1) W/\ (W.cell? ⟨w.heap.size+1+1+1,0,none⟩=some y0/\W.cell? ⟨w.heap.size+1+1+1,1,none⟩=some y1/\W.cell? ⟨w.heap.size+1+1+1,2,none⟩=some y2/\W.cell? ⟨w.heap.size+1+1+1,3,none⟩=some a)/\w.heap.size+1+1+1<W.heap.size:=by
 subst b;refine⟨lY _ _ _ _ _,⟨⟨?_,?_,?_,?_⟩,⟨?_,?_,?_,?_⟩,?_⟩,⟨?_,?_,?_,?_⟩,?_⟩<;>simp[go_sem]
theorem LD(N:Nat)(o:Option (Tm (N+1)))(a:Option Addr)(d:Int)(e:ByteArray)(xa:Option Addr)(f xc:Nat)(c:Nat)(self:Int)(w:World)(b:Hid (o=none)):Calls Tryz.prog 150 #[.agg #[.slice a 4 c,.int .i64 self],.agg #[.int .i64 6,.int .i64 d,.string e,.slice xa f xc]] w (jr (N+1) o w):=by
 go_enter Tryz.func150,Tryz.ntmps150;go_wp2_with fail;rw[b.out];exact ao (v:=.tuple #[.agg #[.int .i64 0,.int .i64 0,.string .empty,.slice none 0 0],.bool false]) (by simp[results,Tryz.results150,go_sem];rfl) rfl (jK (gE w _ _ _ _ _ _ _ _ _).1)
theorem LF(N:Nat)(o:Option (Tm (N+1)))(a:Option Addr)(p:Int)(q:ByteArray)(xa:Option Addr)(g xc:Nat)(c:Nat)(self:Int)(w:World)(e:Hid (∀w1,Below w.heap.size w w1->Calls Tryz.prog 161 #[.agg #[.slice a 4 c,.int .i64 self],.slice xa g xc] w1 (jr (N+1) o w1))):Calls Tryz.prog 150 #[.agg #[.slice a 4 c,.int .i64 self],.agg #[.int .i64 4,.int .i64 p,.string q,.slice xa g xc]] w (jr (N+1) o w):=by
 go_enter Tryz.func150,Tryz.ntmps150;go_wp2_with fail;refine(e.out _ (gE w _ _ _ _ _ _ _ _ _).1).mono ?_;rintro x D ⟨b,j,rfl,d⟩;have h:=ai ((gE w _ _ _ _ _ _ _ _ _).2.below d.out.1);have i:=λk l m n=>ai (uj (gE w _ _ _ _ _ _ _ _ _).1 (io w.heap.size 2) (gE w _ _ _ _ _ _ _ _ _).2.2.2 d.out k l m n);obtain⟨⟨r,s,t,u⟩,⟨y,z,A,B⟩,C⟩:=h.out;have f:dg (N+1) b=.agg #[.int .i64 b.1.1,.int .i64 b.1.2.1,.string b.1.2.2,.slice b.2.1.1 b.2.2.length b.2.1.2]:=rfl;rw[f];clear d e f;go_wp2_with fail;exact ao (v:=.tuple #[.agg #[.int .i64 b.1.1,.int .i64 b.1.2.1,.string b.1.2.2,.slice b.2.1.1 b.2.2.length b.2.1.2],.bool j]) (by simp[results,Tryz.results150,go_sem,r,s,t,u]) rfl (i _ _ _ _).out
theorem KO(N:Nat)(o:Option (Tm (N+1)))(a:Option Addr)(b:Int)(h:Int)(i:ByteArray)(xa:Option Addr)(j xc:Nat)(n:Nat)(r:n<=N)(x:Tm (n+1))(c:Nat)(self:Int)(w:World)(I:¬b=4)(J:¬b=5)(K:¬b=6)(m:Hid (aB ⟨n+1,x⟩))(f:Hid (∀w1,Below w.heap.size w w1->Calls Tryz.prog 45 #[.agg #[.int .i64 b,.int .i64 h,.string i,.slice xa j xc]] w1 λe w'=>∃y:Tm (n+1),e=.returned (dg (n+1) y)/\Hid (Below w1.heap.size w1 w'/\In w'.heap.size w' (n+1) y/\ch (λq=>w1.heap.size<=q) (n+1) y/\aw (n+1) y (n+1) x=true)))(l:Hid (o=some (aI (N+1) (n+1) x))):Calls Tryz.prog 150 #[.agg #[.slice a 4 c,.int .i64 self],.agg #[.int .i64 b,.int .i64 h,.string i,.slice xa j xc]] w (jr (N+1) o w):=by
 go_enter Tryz.func150,Tryz.ntmps150;go_wp2_with fail;refine(f.out _ (gE w _ _ _ _ _ _ _ _ _).1).mono ?_;rintro e M ⟨y,rfl,d⟩;have k:=ai ((gE w _ _ _ _ _ _ _ _ _).2.below d.out.1);have p:=λs t u z=>ai (uk r m.out (gE w _ _ _ _ _ _ _ _ _).1 (io w.heap.size 2) (gE w _ _ _ _ _ _ _ _ _).2.2.2 d.out (ah _ _) true s t u z);obtain⟨⟨A,B,C,D⟩,⟨E,F,G,H⟩,L⟩:=k.out;have g:dg (n+1) y=.agg #[.int .i64 y.1.1,.int .i64 y.1.2.1,.string y.1.2.2,.slice y.2.1.1 y.2.2.length y.2.1.2]:=rfl;rw[g];clear d f g;go_wp2_with fail;rw[l.out];exact ao (v:=.tuple #[.agg #[.int .i64 y.1.1,.int .i64 y.1.2.1,.string y.1.2.2,.slice y.2.1.1 y.2.2.length y.2.1.2],.bool true]) (by simp[results,Tryz.results150,go_sem,A,B,C,D]) rfl (p _ _ _ _).out
theorem LG(N:Nat)(o:Option (Tm (N+1)))(b bo:Nat)(k:Nat)(l:Int)(M:ByteArray)(xa:Option Addr)(Q xc:Nat)(n:Nat)(E:n<=N)(x:Tm (n+1))(c:Nat)(self:Int)(w:World)(A:l=(k:Int))(am:k<4)(al:b<w.heap.size)(F:dr w b (bo+k*4) (n+1) x)(t:Hid (aB ⟨n+1,x⟩))(s:Hid (∀w1,Below w.heap.size w w1->Calls Tryz.prog 45 #[.agg #[.int .i64 x.1.1,.int .i64 x.1.2.1,.string x.1.2.2,.slice x.2.1.1 x.2.2.length x.2.1.2]] w1 λe w'=>∃y:Tm (n+1),e=.returned (dg (n+1) y)/\Hid (Below w1.heap.size w1 w'/\In w'.heap.size w' (n+1) y/\ch (λq=>w1.heap.size<=q) (n+1) y/\aw (n+1) y (n+1) x=true)))(p:Hid (∀w1,Calls Tryz.prog 156 #[.agg #[.int .i64 x.1.1,.int .i64 x.1.2.1,.string x.1.2.2,.slice x.2.1.1 x.2.2.length x.2.1.2]] w1 λe w'=>e=.returned (.bool (!(x.1.1==6)))/\Below w1.heap.size w1 w'))(r:Hid (o=if (!(x.1.1==6))=true then some (aI (N+1) (n+1) x)else none)):Calls Tryz.prog 150 #[.agg #[.slice (some ⟨b,bo,none⟩) 4 c,.int .i64 self],.agg #[.int .i64 5,.int .i64 l,.string M,.slice xa Q xc]] w (jr (N+1) o w):=by
 go_enter Tryz.func150,Tryz.ntmps150;obtain⟨K,L,O,P⟩:=F;subst A;generalize x.2.2.length=R at*;generalize (!(x.1.1==6))=cl at*;have an:(0:Int)<=(k:Int):=by omega
 have ap:(k:Int)<4:=by omega
 have ah:b<w.heap.size+1:=by omega
 have ak:b<w.heap.size+1+1:=by omega
 go_wp2_with fail;generalize i:World.alloc (World.alloc (World.alloc (World.alloc w _) _) _) _=X;obtain⟨g,h,⟨Y,Z,aa,ab⟩,B⟩:=IH i;have HB:=ai g;have f:=ai h;clear i g h K L O P;have z:∀y:Tm (n+1),dg (n+1) y=.agg #[.int .i64 y.1.1,.int .i64 y.1.2.1,.string y.1.2.2,.slice y.2.1.1 y.2.2.length y.2.1.2]:=λ_=>rfl
 go_region_held3 (λw'=>w'.cell? ⟨w.heap.size+1+1+1,0,none⟩=some (.int .i64 x.1.1)/\w'.cell? ⟨w.heap.size+1+1+1,1,none⟩=some (.int .i64 x.1.2.1)/\w'.cell? ⟨w.heap.size+1+1+1,2,none⟩=some (.string x.1.2.2)/\w'.cell? ⟨w.heap.size+1+1+1,3,none⟩=some (.slice x.2.1.1 R x.2.1.2))
  (go_keep) ((first|(go_at_call 45;refine(s.out _ HB.out.drew).mono ?_;rintro e j ⟨y,rfl,a⟩;rw[z];have C:=aj (co a.out.1);have W:Hid (Below w.heap.size w j):=(HB.out.drew).trans (a.out.1.mono HB.out.size);have aq:w.heap.size+1+1+1<j.heap.size:=aL B a.out.1.size)|(go_at_call 156;refine(p.out _).mono ?_;rintro e au ⟨rfl,d⟩;have D:=aj d;have m:=ai ((f.out.below (co a.out.1)).below d);obtain⟨⟨S,T,U,V⟩,⟨ad,ae,af,ag⟩,ar⟩:=m.out)))
 have u:=λG H I J=>ai (uk E t.out HB.out.drew (io w.heap.size 2) f.out.2.2 a.out d cl G H I J);clear a C D d;go_wp2_with fail;rw[r.out];exact ao (v:=.tuple #[.agg #[.int .i64 y.1.1,.int .i64 y.1.2.1,.string y.1.2.2,.slice y.2.1.1 y.2.2.length y.2.1.2],.bool cl]) (by simp[results,Tryz.results150,go_sem,S,T,U,V]) rfl (u _ _ _ _).out
def uH(m n:Nat)(self:Int)(f:Tm n->Option (Tm (m+n)))(p:List (Tm n)):Option (Tm (m+n+1)):=
 if rs n p ni 0 then some (aS 3 self (m+n))
 else if rs n p qU 2 then (p[1]?).bind λa=>(p[2]?).bind λc=>(f a).bind λa=>(f c).bind λc=>rU (m+n) a c
 else if rs n p qV 1 then (p[1]?).bind λa=>if aF n a then some (aI (m+n+1) n a)else none
 else (cF f p).map (cM (m+n))
theorem Hi(m:Nat)(b:List (Tm m))(self:Int)(n:Nat)(x:Tm (n+1))(a:x.1.1=4):vl m b self (n+1) x=uH m n self (λy=>vl m b self n y) x.2.2:=by simp[vl,a,uH]
theorem Hh(m:Nat)(b:List (Tm m))(self:Int)(n:Nat)(x:Tm (n+1))(a:x.1.1=6):vl m b self (n+1) x=none:=by simp[vl,a]
theorem CV(m:Nat)(b:List (Tm m))(self:Int)(n:Nat)(x:Tm (n+1))(a:x.1.1≠4)(c:x.1.1≠5)(d:x.1.1≠6):vl m b self (n+1) x=some (aI (m+n+1) (n+1) x):=by simp[vl,a,c,d]
theorem KR(m:Nat)(b:List (Tm m))(self:Int)(n:Nat)(x:Tm (n+1))(y:Tm m)(k:Nat)(a:x.1.1=5)(c:x.1.2.1=(k:Int))(d:b[k]?=some y):vl m b self (n+1) x=if bE ⟨m,y⟩=6 then none else some (aI (m+n+1) m y):=by
 simp[vl,a,c,d]
theorem yM{n:Nat}{p:List (Tm n)}{s:ByteArray}{k:Nat}(a:rs n p s k=true):p.length=1+k:=by
 by_cases b:p.length=1+k
 ·exact b
 ·rw[CA b]at a;cases a
theorem F6{N:Nat}{o:Option (Tm N)}(c:∀z,o=some z->aB ⟨N,z⟩):Le o:=by
 intro z f d;have b:=c z f;cases N with
 | zero=>exact(cX b).elim
 | succ N=>
  have a:=b (bm N z) (by simp[aq,bm]);have e:z.1.1=1:=d;simp only[bT,bm,e,kK,az,cI]at a;exact⟨eR a.1.2.1,eR a.1.2.2⟩
theorem B4(m:Nat)(b:List (Tm m))(self:Int)(O:fG m b=true)(N:1<=self/\self<=99)(n:Nat)(ih:J6 m b self n)(p:List (Tm n))(pa:Option Addr)(pc:Nat)(a:Option Addr)(c B:Nat)(w:World)(L:p.length<=8)(g:eY B w n p pa)(v:∀y∈p,aB ⟨n,y⟩)(C:eY B w m b a)(f:B<=w.heap.size):Calls Tryz.prog 161 #[.agg #[.slice a 4 c,.int .i64 self],.slice pa p.length pc] w (jr (m+n+1) (uH m n self (λy=>vl m b self n y) p) w):=by
 have D:=λW k (Q:k<=8) h (e:Below w.heap.size w h)=>A2 n p pa pc B W k h (g.below (e.mono f)) L Q;have j:=D ni 0 (by omega);have o:=D qU 2 (by omega);have r:=D qV 1 (by omega);have K:∀y∈b,aB ⟨m,y⟩:=λy i=>((gu O).2 y i).2.1;cases e1:rs n p ni 0
 ·rw[e1]at j;cases e2:rs n p qU 2
  ·rw[e2]at o;cases e3:rs n p qV 1
   ·rw[e3]at r;refine Jv (m+n) _ a c self pa p.length pc w j o r ?_;intro h e;have P:=Ae m b self n ih p p.length rfl pa pc a c B h L (g.below (e.mono f)) v (C.below (e.mono f)) (au f e.size);simpa [uH,e1,e2,e3]using P
   ·rw[e3]at r;have s:=yM e3;rcases g with g|⟨G,po,rfl,R,g⟩
    ·rw[g]at s;simp at s
    ·obtain⟨y,i⟩:∃y,p[1]?=some y:=⟨p[1]'(by omega),aA _⟩;obtain⟨u,x⟩:=g 1 y i;have t:=v y (ay i);have z:uH m n self (λy=>vl m b self n y) p=if aF n y=true then some (aI (m+n+1) n y)else none:=by simp[uH,e1,e2,e3,i]
     rw[z];cases n with
     | zero=>exact u.elim
     | succ n=>
     rw[show p.length=2 by omega]at j o r ⊢;refine KT (m+(n+1)) _ a c self G po n (by omega) y (aF (n+1) y) pc w j o r (by omega) (by simpa using u) t ?_ ?_ rfl
     ·intro h e;exact gz (n+1) y B h (x.below (e.mono f)) (au f e.size) t
     ·intro h e;exact gX (n+1) y B h (x.below (e.mono f)) (au f e.size)
  ·rw[e2]at o;have s:=yM e2;rcases g with g|⟨G,po,rfl,R,g⟩
   ·rw[g]at s;simp at s
   ·obtain⟨d,E⟩:∃d,p[1]?=some d:=⟨p[1]'(by omega),aA _⟩;obtain⟨y,i⟩:∃y,p[2]?=some y:=⟨p[2]'(by omega),aA _⟩;obtain⟨S,T⟩:=g 1 d E;obtain⟨u,x⟩:=g 2 y i;have M:=v d (ay E);have t:=v y (ay i);have z:uH m n self (λy=>vl m b self n y) p=uF (vl m b self n d) (vl m b self n y):=by simp[uH,e1,e2,E,i,uF]
    rw[z];have U:=F6 λJ F=>ui m b self N K n d M J F;have V:=F6 λJ F=>ui m b self N K n y t J F;cases n with
    | zero=>exact u.elim
    | succ n=>
    rw[show p.length=3 by omega]at j o ⊢;refine KS (m+(n+1)) _ a c self G po d.1.1 d.1.2.1 d.1.2.2 d.2.1.1 d.2.2.length d.2.1.2 y.1.1 y.1.2.1 y.1.2.2 y.2.1.1 y.2.2.length y.2.1.2 pc w j o (by omega) (by simpa [dr]using S) (by simpa [dr]using u) ?_;intro h e;refine GW (m+(n+1)) _ _ U V a c self d.1.1 d.1.2.1 d.1.2.2 d.2.1.1 d.2.2.length d.2.1.2 y.1.1 y.1.2.1 y.1.2.2 y.2.1.1 y.2.2.length y.2.1.2 h ?_ ?_
    ·intro H q;refine rD (m+n) _ a c self d.1.1 d.1.2.1 d.1.2.2 d.2.1.1 d.2.2.length d.2.1.2 H ?_;intro I A;have l:=(e.trans ((q.trans (A.mono q.size)).mono e.size));exact ih d a c B I (T.below (l.mono f)) M (C.below (l.mono f)) (au f l.size)
    ·intro H q;refine rD (m+n) _ a c self y.1.1 y.1.2.1 y.1.2.2 y.2.1.1 y.2.2.length y.2.1.2 H ?_;intro I A;have l:=(e.trans ((q.trans (A.mono q.size)).mono e.size));exact ih y a c B I (x.below (l.mono f)) t (C.below (l.mono f)) (au f l.size)
 ·rw[e1]at j;exact Jw (m+n) _ a c self ⟨by omega,by omega⟩ pa p.length pc w j (by simp[Hid,uH,e1])
theorem EO(m:Nat)(b:List (Tm m))(self:Int)(z:fG m b=true)(J:1<=self/\self<=99)(n:Nat):J6 m b self n:=by
 induction n with
 | zero=>intro a j c q p v;exact v.elim
 | succ n ih=>
  intro a j c q p v u h g;obtain⟨y,H⟩:=gu z;have t:=u (bm n a) (by simp[aq,bm]);have I:a.2.2.length<=8:=lp (bm n a) t;by_cases s:a.1.1=6
  ·have f:=LD (m+n) (vl m b self (n+1) a) j a.1.2.1 a.1.2.2 a.2.1.1 a.2.2.length a.2.1.2 c self p (Hh m b self n a s);rw[<-s]at f;exact f
  ·by_cases l:a.1.1=5
   ·have O:0<=a.1.2.1/\a.1.2.1<=3:=by
      have D:¬(5:Int)=1:=by decide
      have E:¬(5:Int)=2:=by decide
      have F:¬(5:Int)=3:=by decide
      have G:¬(5:Int)=4:=by decide
      simp only[bT,bm,l,kK,az,cI,D,E,F,G,if_false]at t;exact⟨eR t.1.2.1,eR t.1.2.2⟩
    obtain⟨k,A⟩:∃k:Nat,a.1.2.1=(k:Int):=⟨a.1.2.1.toNat,by omega⟩;obtain⟨d,o⟩:∃d,b[k]?=some d:=⟨b[k]'(by omega),aA _⟩;have w:=(H d (ay o)).2.1;have C:=KR m b self n a d k l A o;have M:=h;rcases h with h|⟨B,bo,rfl,N,h⟩
    ·rw[h]at y;simp at y
    ·obtain⟨K,L⟩:=h k d o;cases m with
     | zero=>exact(cX w).elim
     | succ m=>
     have f:=LG (m+1+n) (vl (m+1) b self (n+1) a) B bo k a.1.2.1 a.1.2.2 a.2.1.1 a.2.2.length a.2.1.2 m (by omega) d c self p A (by omega) (by omega) K w
      (λi e=>gz (m+1) d q i (L.below (e.mono g)) (au g e.size) w)
      (λi=>iD d.1.1 d.1.2.1 d.1.2.2 d.2.1.1 d.2.2.length d.2.1.2 i)
      (by
       show vl (m+1) b self (n+1) a=_;rw[C];by_cases x:d.1.1=6
       ·simp[bE,x]
       ·simp[bE,x])
     rw[<-l]at f;exact f
   ·by_cases r:a.1.1=4
    ·have f:=LF (m+n) (vl m b self (n+1) a) j a.1.2.1 a.1.2.2 a.2.1.1 a.2.2.length a.2.1.2 c self p (by
       intro i e;rw[Hi m b self n a r]
       exact B4 m b self z J n ih a.2.2 a.2.1.1 a.2.1.2 j c q i I (eY.below (e.mono g) v.2) (λd o=>aU n a d u o) (h.below (e.mono g)) (au g e.size))
     rw[<-r]at f;exact f
    ·exact KO (m+n) (vl m b self (n+1) a) j a.1.1 a.1.2.1 a.1.2.2 a.2.1.1 a.2.2.length a.2.1.2 n (by omega) a c self p r l s u
       (λi e=>gz (n+1) a q i (v.below (e.mono g)) (au g e.size) u) (CV m b self n a r l s)
def uo(N:Nat):Tm (N+1):=aS 0 0 N
def xM(N:Nat)(E:Int)(o:Option (Tm (N+1)))(w:World)(e:Ending)(w':World):Prop:=
 ∃a:Tm (N+1),e=.returned (.tuple #[dg (N+1) a,.int .i64 (CO E (mF E o))])/\Hid (Below w.heap.size w w'/\In w'.heap.size w' (N+1) a/\ch (λb=>w.heap.size<=b) (N+1) a/\aw (N+1) a (N+1) ((mF E o).getD (uo N))=true)
theorem nK{N:Nat}{E:Int}{o:Option (Tm (N+1))}{w w':World}{u:Int}(b:Below w.heap.size w w')(a:mF E o=none)(c:u=CO E (mF E o)):xM N E o w (.returned (.tuple #[.agg #[.int .i64 0,.int .i64 0,.string .empty,.slice none 0 0],.int .i64 u])) w':=by
 refine⟨uo N,by rw[c];rfl,b,(ko N 0 0 iC iC _ _ (λ_=>True)).1,(ko N 0 0 iC iC 0 w _).2,?_⟩;rw[a];exact vb N 0 0
theorem Jh{N:Nat}{E:Int}{o:Option (Tm (N+1))}{z:Tm (N+1)}{w w1 w2 i:World}{y:Tm (N+1)}{q:Nat}(d:E=0)(m:o=some z)(k:bA (N+1) z=0)(e:Below w.heap.size w w1)(n:w.heap.size<=q)(s:q<w1.heap.size)(g:Below w1.heap.size w1 w2)(p:In w2.heap.size w2 (N+1) y)(h:ch (λq=>w1.heap.size<=q) (N+1) y)(r:aw (N+1) y (N+1) z=true)(a:Below w2.heap.size w2 i)(v0 v1 v2 v3:Value):xM N E o w (.returned (.tuple #[.agg #[.int .i64 y.1.1,.int .i64 y.1.2.1,.string y.1.2.2,.slice y.2.1.1 y.2.2.length y.2.1.2],.int .i64 0])) (cP i q 0 v0 v1 v2 v3):=by
 have f:=e.size;have j:=(e.trans (g.mono f)).trans (a.mono (au f g.size));have c:mF E o=some z:=by simp[mF,d,m,k]
 refine⟨y,by rw[c];simp[CO,d,dg],cQ j n _ _ _ _,?_,h.mono λb l=>by omega,by rw[c];exact r⟩;rw[aZ];exact In.off (P:=λb=>w1.heap.size<=b) (λb l=>aO (by omega) _ _ _ _) h ((p.below a).mono a.size)
theorem zK{c:Int}{bd:Bool}{self:Int}(a:CP c bd self=0):c=0/\bd=true/\1<=self/\self<=99:=by
 unfold CP at a;split at a
 ·split at a
  ·split at a
   ·rename_i b d e;exact⟨b,d,e⟩
   ·cases a
  ·cases a
 ·rename_i b;exact absurd a b
theorem EN{m n:Nat}{b:List (Tm m)}{self:Int}{x:Tm (n+1)}{z:Tm (m+n+1)}(a:bA (n+1) x=0)(c:fG m b=true)(g:vl m b self (n+1) x=some z):(aq (m+n+1) z).length<=2097152:=by
 have e:=mI a;have d:=Ai m b self 201 (by omega) (λh f=>mI ((gu c).2 h f).1) (n+1) x z g;have:201*(aq (n+1) x).length<=201*201:=Nat.mul_le_mul_left 201 e;exact au d (by omega)
theorem sr(w:World)(a b c d:Value)(t1 t2:TypeId):Below w.heap.size w ((w.alloc (.cells #[a,b,c,d] t1)).alloc (.cells #[.int .i64 0,.int .i64 0,.string .empty,.slice none 0 0] t2))/\mC (w.heap.size+1) ((w.alloc (.cells #[a,b,c,d] t1)).alloc (.cells #[.int .i64 0,.int .i64 0,.string .empty,.slice none 0 0] t2)):=by
 refine⟨((ah _ _).alloc (ag _) _).alloc (by simp) _,⟨?_,?_,?_,?_⟩,⟨?_,?_,?_,?_⟩,?_⟩<;>simp[go_sem]
theorem BY{w w':World}{b c d e y0 y1 y2 f:Value}{t1 t2:TypeId}(g:Below ((w.alloc (.cells #[b,c,d,e] t1)).alloc (.cells #[y0,y1,y2,f] t2)).heap.size ((w.alloc (.cells #[b,c,d,e] t1)).alloc (.cells #[y0,y1,y2,f] t2)) w'):w'.cell? ⟨w.heap.size,0,none⟩=some b/\w'.cell? ⟨w.heap.size,1,none⟩=some c/\w'.cell? ⟨w.heap.size,2,none⟩=some d/\w'.cell? ⟨w.heap.size,3,none⟩=some e:=by
 have a:=λo=>g.cell (p:=⟨w.heap.size,o,none⟩) (by simp;omega);exact⟨(a 0).trans (by simp[go_sem]),(a 1).trans (by simp[go_sem]),(a 2).trans (by simp[go_sem]),(a 3).trans (by simp[go_sem])⟩
theorem zL(N:Nat)(o:Option (Tm (N+1)))(a:Option Addr)(Y c:Nat)(self:Int)(ae af:Int)(aj:ByteArray)(xa:Option Addr)(ak xc:Nat)(k:Int)(bd:Bool)(w:World)(am:Hid (∀w1,Below w.heap.size w w1->Calls Tryz.prog 42 #[.agg #[.int .i64 ae,.int .i64 af,.string aj,.slice xa ak xc]] w1 λe w'=>e=.returned (.int .i64 k)/\Below w1.heap.size w1 w'))(al:Hid (∀w1,Below w.heap.size w w1->Calls Tryz.prog 144 #[.slice a Y c] w1 λe w'=>e=.returned (.bool bd)/\Below w1.heap.size w1 w'))(r:Hid (CP k bd self=0->∀w1,Below w.heap.size w w1->Calls Tryz.prog 150 #[.agg #[.slice a Y c,.int .i64 self],.agg #[.int .i64 ae,.int .i64 af,.string aj,.slice xa ak xc]] w1 (jr (N+1) o w1)))(p:Hid (CP k bd self=0->∀(y z:Tm (N+1))(w1:World),o=some z->aw (N+1) y (N+1) z=true->In w1.heap.size w1 (N+1) y->Calls Tryz.prog 42 #[.agg #[.int .i64 y.1.1,.int .i64 y.1.2.1,.string y.1.2.2,.slice y.2.1.1 y.2.2.length y.2.1.2]] w1 λe w'=>e=.returned (.int .i64 (bA (N+1) z))/\Below w1.heap.size w1 w')):Calls Tryz.prog 120 #[.agg #[.int .i64 ae,.int .i64 af,.string aj,.slice xa ak xc],.slice a Y c,.int .i64 self] w (xM N (CP k bd self) o w):=by
 obtain⟨E,U⟩:∃E,E=CP k bd self:=⟨_,rfl⟩;rw[<-U]at r p ⊢;have l:=ai U;clear U;go_enter Tryz.func120,Tryz.ntmps120;go_wp2_with fail;refine(am.out _ (sr w _ _ _ _ _ _).1).mono ?_;rintro e w1 ⟨rfl,M⟩;have ar:=ai (BY M);have A:Hid (Below w.heap.size w w1):=(sr w _ _ _ _ _ _).1.trans (M.mono (sr w _ _ _ _ _ _).1.size);have J:=ai ((sr w _ _ _ _ _ _).2.below M);clear M am;by_cases d:k=0
 case neg=>
  have aH:(k !=0)=true:=by simpa using d
  have b:Hid (E=k/\k≠0):=⟨by rw[l.out];simp[CP,d],d⟩;obtain⟨⟨f,g,h,i⟩,⟨C,D,F,G⟩,x⟩:=J.out;clear r l d p;go_wp2_with fail;exact ao (v:=.tuple #[.agg #[.int .i64 0,.int .i64 0,.string .empty,.slice none 0 0],.int .i64 k]) (by simp[results,Tryz.results120,go_sem,f,g,h,i];rfl) rfl (nK (cQ A.out (by omega) _ _ _ _) (by simp[mF,b.out.1,b.out.2]) (by simp[CO,b.out.1,b.out.2]))
 have aH:(k !=0)=false:=by simp[d]
 go_wp2_with fail;refine(al.out _ A.out).mono ?_;rintro e az ⟨rfl,O⟩;have au:=ai (mH (Nat.lt_of_succ_lt J.out.2.2) O ar.out);have n:Hid (Below w.heap.size w az):=A.out.trans (O.mono A.out.size);have q:=ai (J.out.below O);clear O al A ar J;cases bd
 ·have b:Hid (E=5):=by rw[Hid,l.out];simp[CP,d]
  obtain⟨⟨f,g,h,i⟩,⟨C,D,F,G⟩,x⟩:=q.out;clear r l d p;go_wp2_with fail;exact ao (v:=.tuple #[.agg #[.int .i64 0,.int .i64 0,.string .empty,.slice none 0 0],.int .i64 5]) (by simp[results,Tryz.results120,go_sem,f,g,h,i];rfl) rfl (nK (cQ n.out (by omega) _ _ _ _) (by simp[mF,b.out]) (by simp[CO,b.out]))
 ·by_cases ax:self<1
  ·have aD:decide (self<1)=true:=by simpa using ax
   have b:Hid (E=1):=by rw[Hid,l.out];simp only[CP,d,cI];rw[if_neg (by omega)]
   obtain⟨⟨f,g,h,i⟩,⟨C,D,F,G⟩,x⟩:=q.out;clear r l d p;go_wp2_with fail;exact ao (v:=.tuple #[.agg #[.int .i64 0,.int .i64 0,.string .empty,.slice none 0 0],.int .i64 1]) (by simp[results,Tryz.results120,go_sem,f,g,h,i];rfl) rfl (nK (cQ n.out (by omega) _ _ _ _) (by simp[mF,b.out]) (by simp[CO,b.out]))
  ·have aD:decide (self<1)=false:=by simpa using ax
   by_cases ay:99<self
   ·have aE:decide (99<self)=true:=by simpa using ay
    have b:Hid (E=1):=by rw[Hid,l.out];simp only[CP,d,cI];rw[if_neg (by omega)]
    obtain⟨⟨f,g,h,i⟩,⟨C,D,F,G⟩,x⟩:=q.out;clear r l d p;go_wp2_with fail;exact ao (v:=.tuple #[.agg #[.int .i64 0,.int .i64 0,.string .empty,.slice none 0 0],.int .i64 1]) (by simp[results,Tryz.results120,go_sem,f,g,h,i];rfl) rfl (nK (cQ n.out (by omega) _ _ _ _) (by simp[mF,b.out]) (by simp[CO,b.out]))
   ·have aE:decide (99<self)=false:=by simpa using ay
    have B:Hid (E=0):=by rw[Hid,l.out];simp only[CP,d,cI];rw[if_pos (by omega)]
    obtain⟨aL,aM,aN,aO⟩:=au.out;have aQ:w.heap.size<az.heap.size:=Nat.lt_of_succ_lt q.out.2.2;clear l d;go_wp2_with fail;refine(r.out B.out _ n.out).mono ?_;rintro e m ⟨y,aK,rfl,j⟩;have P:Hid (Below w.heap.size w m):=n.out.trans (j.out.1.mono n.out.size);have K:=ai (q.out.below j.out.1);have av:dg (N+1) y=.agg #[.int .i64 y.1.1,.int .i64 y.1.2.1,.string y.1.2.2,.slice y.2.1.1 y.2.2.length y.2.1.2]:=rfl;rw[av];clear r av aL aM aN aO au;cases aK
    ·have an:Hid (o=none):=by
       have:=j.out.2.2.2.1;cases o with
       | none=>rfl
       | some z=>cases this
     obtain⟨⟨f,g,h,i⟩,⟨C,D,F,G⟩,x⟩:=K.out;clear j p;go_wp2_with fail;exact ao (v:=.tuple #[.agg #[.int .i64 0,.int .i64 0,.string .empty,.slice none 0 0],.int .i64 7]) (by simp[results,Tryz.results120,go_sem,f,g,h,i,x];rfl) rfl (nK ((cQ P.out (by omega) _ _ _ _).alloc (by rw[aZ];omega) _) (by simp[mF,an.out]) (by simp[CO,mF,an.out,B.out]))
    ·obtain⟨z,X⟩:∃z,o=some z:=by
       have:=j.out.2.2.2.1;cases o with
       | none=>cases this
       | some z=>exact⟨z,rfl⟩
     have L:=ai X;have aq:=ai (j.out.2.2.2.2 z X)
     have S:Hid (∀w1,Below m.heap.size m w1->Calls Tryz.prog 42 #[.agg #[.int .i64 y.1.1,.int .i64 y.1.2.1,.string y.1.2.2,.slice y.2.1.1 y.2.2.length y.2.1.2]] w1 λe w'=>e=.returned (.int .i64 (bA (N+1) z))/\Below w1.heap.size w1 w'):=
      λw1 t=>p.out B.out y z w1 L.out aq.out ((j.out.2.1.below t).mono t.size)
     obtain⟨s,W⟩:∃s,s=bA (N+1) z:=⟨_,rfl⟩;rw[<-W]at S;have R:=ai W;have T:=λ(I:World)(aG:Below m.heap.size m I)(aF:s=0) Z aa ab ad=>ai (Jh (E:=E) B.out L.out (R.out.symm.trans aF) n.out (io _ 1) q.out.2.2 j.out.1 j.out.2.1 j.out.2.2.1 aq.out aG Z aa ab ad);clear X W p j q n;go_wp2_with fail;refine(S.out _ ((ah _ _).alloc (ag _) _)).mono ?_;rintro e I ⟨rfl,V⟩;obtain⟨⟨aR,aS,aT,aU⟩,_⟩:=Ch V;have Q:Hid (Below m.heap.size m I):=((ah _ _).alloc (ag _) _).trans (V.mono (by simp));have aA:=ai (K.out.below Q.out);have aC:Hid (Below w.heap.size w I):=P.out.trans (Q.out.mono P.out.size);obtain⟨⟨f,g,h,i⟩,⟨C,D,F,G⟩,x⟩:=aA.out;have aJ:¬(w.heap.size+1=m.heap.size):=by have:=K.out.2.2;omega
     have aP:¬(m.heap.size=w.heap.size+1):=λe=>aJ e.symm;clear V S K;by_cases u:s=0
     ·have aI:(s !=0)=false:=by simp[u]
      have aB:=λZ aa ab ad=>T I Q.out u Z aa ab ad;clear T u;go_wp2_with fail;exact ao (v:=.tuple #[.agg #[.int .i64 y.1.1,.int .i64 y.1.2.1,.string y.1.2.2,.slice y.2.1.1 y.2.2.length y.2.1.2],.int .i64 0]) (by simp[results,Tryz.results120,go_sem,f,g,h,i]) rfl (aB _ _ _ _).out
     ·have aI:(s !=0)=true:=by simpa using u
      have ap:=ai u;clear T u;go_wp2_with fail;exact ao (v:=.tuple #[.agg #[.int .i64 0,.int .i64 0,.string .empty,.slice none 0 0],.int .i64 7]) (by simp[results,Tryz.results120,go_sem,f,g,h,i];rfl) rfl (nK (cQ aC.out (by omega) _ _ _ _) (by have t:=R.out;have H:=ap.out;rw[t]at H;simp[mF,L.out,H]) (by have t:=R.out;have H:=ap.out;rw[t]at H;simp[CO,mF,L.out,B.out,H]))
theorem Bz(n m:Nat)(x:Tm (n+1))(b:List (Tm m))(a:Option Addr)(c B:Nat)(self:Int)(w:World)(p:In B w (n+1) x)(k:eY B w m b a)(f:B<=w.heap.size)(r:(aq (n+1) x).length<=2097152)(t:b.length<=9223372036854775807)(s:∀y∈b,(aq m y).length<=2097152):Calls Tryz.prog 120 #[dg (n+1) x,.slice a b.length c,.int .i64 self] w (xM (m+n) (CP (bA (n+1) x) (fG m b) self) (vl m b self (n+1) x) w):=by
 refine zL (m+n) _ a b.length c self x.1.1 x.1.2.1 x.1.2.2 x.2.1.1 x.2.2.length x.2.1.2 (bA (n+1) x) (fG m b) w ?_ ?_ ?_ ?_
 ·intro e d;exact dL (n+1) x B e (p.below (d.mono f)) (au f d.size) r
 ·intro e d;exact xR m b a c B e (k.below (d.mono f)) t s (au f d.size)
 ·intro i e d;obtain⟨h,g,j⟩:=zK i;have q:=(gu g).1;rw[q];exact EO m b self g j (n+1) x a c B e (p.below (d.mono f)) (aJ.2 (bv.1 h).1) (k.below (d.mono f)) (au f d.size)
 ·intro i y A e z o u;obtain⟨h,g,j⟩:=zK i;have v:=EN h g z;have l:=dL (m+n+1) y e.heap.size e u (ag _) (by rw[jI _ _ _ _ o];exact v);rw[bI o]at l;exact l
theorem zO{n m b a:Nat}{x:Tm n}{y:Tm m}{x':Tm b}{c:Tm a}(e:aw n x b x'=true)(k:aw m y a c=true):aw n x m y=aw b x' a c:=by
 cases d:aw b x' a c with
 | true=>exact bP _ _ _ _ _ _ e (bP _ _ _ _ _ _ d (dU _ _ _ _ k))
 | false=>
  cases e2:aw n x m y with
  | false=>rfl
  | true=>
   have f:=bP _ _ _ _ _ _ (dU _ _ _ _ e) (bP _ _ _ _ _ _ e2 k);rw[d]at f;cases f
def mZ:Option (List An)->Option (List An)->Prop
 | none,none=>True
 | some b,some c=>av dR b c=true
 | _,_=>False
theorem tm{x y:An}(a:dR x y=true):bE x=bE y:=by
 obtain⟨n,x⟩:=x;obtain⟨b,y⟩:=y;cases n with
 | zero=>simp[dR,aw]at a
 | succ n=>
  cases b with
  | zero=>simp[dR,aw]at a
  | succ b=>
   simp only[dR,aw,az,ci]at a;exact a.1.1.1
theorem sE{c d:Type}{f:c->d->Bool}{a:c}{b:d}(e:f a b=true):(p:List c)->(q:List d)->(i:Nat)->av f p q=true->av f (p.set i a) (q.set i b)=true
 | [],[],_,_=>by simp[av]
 | [],_::_,_,h=>by simp[av]at h
 | _::_,[],_,h=>by simp[av]at h
 | x::p,y::q,0,h=>by
  simp only[av,az]at h;simp[av,e,h.2]
 | x::p,y::q,i+1,h=>by
  simp only[av,az]at h;simp[av,h.1,sE e p q i h.2]
theorem AP{b c:List An}{i:Nat}{t u:An}(f:av dR b c=true)(h:dR t u=true):mZ (sZ b i t) (sZ c i u):=by
 have n:=cV _ _ _ f;unfold sZ;cases e:b[i]? with
 | none=>
  have a:c[i]?=none:=by
   rw[List.getElem?_eq_none_iff]at e ⊢;omega
  rw[a];trivial
 | some g=>
  obtain⟨m,l⟩:=aK.1 e;have a:c[i]?=some c[i]:=aA (by omega);rw[a];have j:dR g c[i]=true:=ku _ _ _ f i _ _ e a;simp only;rw[<-tm j];by_cases d:bE g=6
  ·rw[if_pos d,if_pos d];exact sE h _ _ _ f
  ·rw[if_neg d,if_neg d];have k:dR g t=dR c[i] u:=zO j h;rw[<-k];cases dR g t
   ·simp[mZ]
   ·simpa [mZ]using f
theorem sY{n r o s:Type}(f:n->r->List An->Option (List An))(g:o->s->List An->Option (List An))(P:n->o->Bool)(Q:r->s->Bool):(p:List n)->(q:List r)->(a:List o)->(h:List s)->(∀x∈p,∀y∈q,∀x' k b c,P x x'=true->Q y k=true->av dR b c=true->mZ (f x y b) (g x' k c))->av P p a=true->av Q q h=true->∀b c,av dR b c=true->mZ (gT f p q b) (gT g a h c)
 | [],_,a,_,_,i,_,b,c,l=>by
  cases a with
  | nil=>simpa [gT,mZ]using l
  | cons _ _=>simp[av]at i
 | x::p,[],a,h,_,i,j,b,c,l=>by
  cases h with
  | nil=>cases a<;>simpa [gT,mZ]using l
  | cons _ _=>simp[av]at j
 | x::p,y::q,a,h,hf,i,j,b,c,l=>by
  cases a with
  | nil=>simp[av]at i
  | cons x' a=>
   cases h with
   | nil=>simp[av]at j
   | cons k h=>
    simp only[av,az]at i j;have e:=hf x (by simp) y (by simp) x' k b c i.1 j.1 l;simp only[gT];cases e1:f x y b with
    | none=>
     rw[e1]at e;cases m:g x' k c with
     | none=>simp[mZ]
     | some _=>rw[m]at e;exact e.elim
    | some d=>
     rw[e1]at e;cases m:g x' k c with
     | none=>rw[m]at e;exact e.elim
     | some t=>
      rw[m]at e;simp only[dk];exact sY f g P Q p q a h (λx u y v=>hf x (by simp[u]) y (by simp[v])) i.2 j.2 d t e
theorem qB:(n:Nat)->(p:Tm n)->(m:Nat)->(t:Tm m)->(d:Nat)->(j:Tm d)->(a:Nat)->(k:Tm a)->(b c:List An)->aw n p d j=true->aw m t a k=true->av dR b c=true->mZ (fY n p m t b) (fY d j a k c)
 | 0,_,_,_,_,_,_,_,_,_,h,_,_=>by simp[aw]at h
 | _+1,_,_,_,0,_,_,_,_,_,h,_,_=>by simp[aw]at h
 | _+1,_,0,_,_+1,_,_,_,_,_,_,h,_=>by simp[aw]at h
 | _+1,_,_+1,_,_+1,_,0,_,_,_,_,h,_=>by simp[aw]at h
 | n+1,p,m+1,t,d+1,j,a+1,k,b,c,hp,ht,hb=>by
  have u:=hp;have l:=ht;simp only[aw,az,ci]at hp ht;obtain⟨⟨⟨v,w⟩,A⟩,o⟩:=hp;obtain⟨⟨⟨t1,t2⟩,B⟩,t4⟩:=ht;unfold fY;rw[<-v,<-w,<-t1,<-cV _ _ _ o,<-cV _ _ _ t4];by_cases g:p.1.1=6
  ·rw[if_pos g,if_pos g];exact hb
  ·rw[if_neg g,if_neg g];by_cases f:p.1.1=5
   ·rw[if_pos f,if_pos f];exact AP hb l
   ·rw[if_neg f,if_neg f];by_cases e:p.1.1=4
    ·rw[if_pos e,if_pos e];by_cases i:t.1.1=4/\p.2.2.length=t.2.2.length
     ·rw[if_pos i,if_pos i];exact sY _ _ (λx y=>aw n x d y) (λx y=>aw m x a y) p.2.2 t.2.2 j.2.2 k.2.2 (λx _ y _ x' z b c q r s=>qB n x m y d x' a z b c q r s) o t4 b c hb
     ·rw[if_neg i,if_neg i];trivial
    ·rw[if_neg e,if_neg e,<-zO u l];cases aw (n+1) p (m+1) t
     ·simp[mZ]
     ·simpa [mZ]using hb
theorem yH{w w':World}{g:Nat}(c:w.grownBy w' (some g)):∀b o,b<w.heap.size->b≠g->w'.cell? ⟨b,o,none⟩=w.cell? ⟨b,o,none⟩:=
 λb o d e=>World.cell?_of_block (a:=⟨b,o,none⟩) (c.block b d (by simpa using e))
theorem pH{w w':World}{row:Option Nat}(a:w.drew.grownBy w' row):w.grownBy w' row:=⟨a.os,a.tape,a.output,a.size,a.block⟩
theorem Dq(p q:Nat)(a d:Option Addr)(pc h:Nat)(g c:Nat)(base:Nat)(w:World)(_hpc:p<=9223372036854775807)(_hqc:q<=9223372036854775807)(f:((p:Int)==(q:Int))=false):Calls Tryz.prog 158 #[.slice (some ⟨g,0,none⟩) 4 c,.slice a p pc,.slice d q h] w (eu base g c none w):=by
 have i:((p:Int) !=(q:Int))=true:=by simpa using f
 go_enter Tryz.func158,Tryz.ntmps158;go_wp2_with fail
 go_ret
 exact⟨rfl,ir _ _,λb e=>by cases e⟩
theorem sX(a e:Option Addr)(pc i:Nat)(g c:Nat)(base:Nat)(b:List An)(w:World)(H:lR base g c b w):Calls Tryz.prog 158 #[.slice (some ⟨g,0,none⟩) 4 c,.slice a 0 pc,.slice e 0 i] w (eu base g c (some b) w):=by
 have d:=ai H;clear H;go_enter Tryz.func158,Tryz.ntmps158;go_wp2_with fail
 go_loop [16] (λh=>h=.int .i64 0) (λ_=>0)
 case atStart=>rfl
 case round=>
  obtain rfl:=hrel;go_wp2_with fail
  go_ret
  exact⟨rfl,ir _ _,λj f=>by obtain rfl:=ap f;exact d.out⟩
theorem Dp(n m:Nat)(ih:J4 n)(p:List (Tm n))(q:List (Tm m))(len:Nat)(ab:Hid (p.length=len))(aw:Hid (q.length=len))(K po d j pc ax:Nat)(b:List An)(base g c B:Nat)(w:World)(aF:len<=9223372036854775807)(ar:K<B)(av:d<B)(aa:∀(i:Nat)(y:Tm n),p[i]?=some y->dr w K (po+i*4) n y/\In B w n y)(ad:∀(i:Nat)(y:Tm m),q[i]?=some y->dr w d (j+i*4) m y/\In B w m y)(ae:∀y∈p,aB ⟨n,y⟩)(af:∀y∈q,aB ⟨m,y⟩)(V:Hid (Ap B w b))(U:B<=base)(H:Hid (lR base g c b w)):Calls Tryz.prog 158 #[.slice (some ⟨g,0,none⟩) 4 c,.slice (some ⟨K,po,none⟩) len pc,.slice (some ⟨d,j,none⟩) len ax] w (eu base g c (gT (λx y b=>fY n x m y b) p q b) w):=by
 have W:B<=g:=au U H.out.lt.1;have X:g<w.heap.size:=H.out.lt.2;go_enter Tryz.func158,Tryz.ntmps158;go_wp2_with fail;go_loopw [16] (λi wr=>∃k:Nat,k<=len/\i=.int .i64 k/\Hid (w.grownBy wr (some g)/\∃a,lR base g c a wr/\Ap B wr a/\gT (λx y b=>fY n x m y b) (p.drop k) (q.drop k) a=gT (λx y b=>fY n x m y b) p q b)) (λi _=>len-(intOf i).toNat)
 case atStart=>exact⟨0,by omega,rfl,ir _ _,b,H.out,V.out,rfl⟩
 case round=>
  obtain⟨k,aC,rfl,v⟩:=hrel;by_cases Z:k<len
  ·obtain⟨x,E⟩:∃x,p[k]?=some x:=⟨p[k]'(by rw[ab.out];exact Z),aA _⟩;obtain⟨y,I⟩:∃y,q[k]?=some y:=⟨q[k]'(by rw[aw.out];exact Z),aA _⟩;obtain⟨l,a,L,u,t⟩:Hid (w.grownBy wr (some g))/\∃a,Hid (lR base g c a wr)/\Hid (Ap B wr a)/\Hid (gT (λx y b=>fY n x m y b) (p.drop k) (q.drop k) a=gT (λx y b=>fY n x m y b) p q b):=v.out;clear v;obtain⟨F,G⟩:=aa k x E;obtain⟨J,r⟩:=ad k y I;have z:=ai (Dr (λx y b=>fY n x m y b) p q k x y E I a);have T:=ai (ae x (ay E));have N:=ai (af y (ay I));have o:=mP l.out W X;replace F:=F.below o ar;replace J:=J.below o av;replace G:=G.below o;replace r:=r.below o;have az:g<wr.heap.size:=aL X l.out.size;have D:B<=wr.heap.size:=by omega
   clear aa ad E I ae af V H o;cases n with
   | zero=>exact F.elim
   | succ n=>
   cases m with
   | zero=>exact J.elim
   | succ m=>
   obtain⟨aM,aN,aO,aP⟩:=F;obtain⟨y0,y1,y2,aQ⟩:=J
   have Q:Hid (∀(h:World),Below wr.heap.size wr h->Calls Tryz.prog 146 #[.slice (some ⟨g,0,none⟩) 4 c,.agg #[.int .i64 x.1.1,.int .i64 x.1.2.1,.string x.1.2.2,.slice x.2.1.1 x.2.2.length x.2.1.2],.agg #[.int .i64 y.1.1,.int .i64 y.1.2.1,.string y.1.2.2,.slice y.2.1.1 y.2.2.length y.2.1.2]] h (eu base g c (fY (n+1) x (m+1) y a) h)):=
    λh C=>ih x (m+1) y a base g c B h (G.below (C.mono D)) (r.below (C.mono D)) T.out N.out (u.out.below (C.mono D)) U (L.out.below C)
   have M:Hid (∀s e,fY (n+1) x (m+1) y a=s->s=some e->Ap B wr e):=λs e an ao=>u.out.fit r N.out (an.trans ao);clear ih G r T N u;replace z:Hid (gT (λx y b=>fY (n+1) x (m+1) y b) (p.drop k) (q.drop k) a=(fY (n+1) x (m+1) y a).bind (gT (λx y b=>fY (n+1) x (m+1) y b) (p.drop (k+1)) (q.drop (k+1)))):=z;generalize fY (n+1) x (m+1) y a=s at*;generalize x.2.2.length=aj at*;generalize y.2.2.length=yl at*;have aD:(0:Int)<=(k:Int):=by omega
   have aE:(k:Int)<(len:Int):=by omega
   have aG:K<wr.heap.size:=by omega
   have aI:d<wr.heap.size:=by omega
   have aJ:d<wr.heap.size+1:=by omega
   have aH:d≠g:=by omega
   have aK:wr.heap.size≠g:=by omega
   have ak:=ai (Q.out (wr.alloc (.cells #[.int .i64 x.1.1,.int .i64 x.1.2.1,.string x.1.2.2,.slice x.2.1.1 aj x.2.1.2] 30)).drew (((ah _ _).alloc (ag _) _).drew));clear Q;go_wp2_with fail
   go_region_held3 (λf=>f.cell? ⟨wr.heap.size,0,none⟩=some (.int .i64 x.1.1)/\f.cell? ⟨wr.heap.size,1,none⟩=some (.int .i64 x.1.2.1)/\f.cell? ⟨wr.heap.size,2,none⟩=some (.string x.1.2.2)/\f.cell? ⟨wr.heap.size,3,none⟩=some (.slice x.2.1.1 aj x.2.1.2)
       /\f.cell? ⟨d,j+k*4,none⟩=some (.int .i64 y.1.1)/\f.cell? ⟨d,j+k*4+1,none⟩=some (.int .i64 y.1.2.1)/\f.cell? ⟨d,j+k*4+2,none⟩=some (.string y.1.2.2)/\f.cell? ⟨d,j+k*4+3,none⟩=some (.slice y.2.1.1 yl y.2.1.2))
    (go_keep) ((go_at_call 146;refine ak.out.mono ?_;rintro A h ⟨rfl,O,Y⟩;have aq:=yH (pH O);have R:=ai (pH O);have al:=ai Y;clear O Y))
   have S:Hid (w.grownBy h (some g)):=kI l.out (kI (dq wr _ _) R.out);clear aq;cases s with
   | some e=>
    have am:Hid (Ap B h e):=(M.out _ e rfl rfl).below ((((ah _ _).alloc (ag _) _).mono D).trans (mP R.out W (by simp;omega)));clear M;simp only[jU];go_wp2_with fail;go_roundw
    case rel=>exact⟨k+1,by omega,by go_num,S.out,e,al.out e rfl,am.out,by rw[<-t.out,z.out];rfl⟩
    case measure=>simp[intOf];omega
   | none=>
    clear M;simp only[lO];go_wp2_with fail
    go_ret
    have P:gT (λx y b=>fY (n+1) x (m+1) y b) p q b=none:=by rw[<-t.out,z.out];rfl
    rw[P];exact⟨rfl,S.out,λa A=>by cases A⟩
  ·obtain⟨l,a,L,u,t⟩:Hid (w.grownBy wr (some g))/\∃a,Hid (lR base g c a wr)/\Hid (Ap B wr a)/\Hid (gT (λx y b=>fY n x m y b) (p.drop k) (q.drop k) a=gT (λx y b=>fY n x m y b) p q b):=v.out;clear v;go_wp2_with fail
   go_ret
   have P:gT (λx y b=>fY n x m y b) p q b=some a:=by rw[<-t.out,fJ (by rw[ab.out];omega)];rfl
   rw[P];exact⟨rfl,l.out,λe A=>by obtain rfl:=ap A;exact L.out⟩
theorem AO(n m:Nat)(ih:J4 n)(p:List (Tm n))(q:List (Tm m))(a e:Option Addr)(pc j:Nat)(b:List An)(base g c B:Nat)(w:World)(f:p=[]\/∃b o,a=some ⟨b,o,none⟩/\b<B/\∀(i:Nat)(y:Tm n),p[i]?=some y->dr w b (o+i*4) n y/\In B w n y)(h:q=[]\/∃b o,e=some ⟨b,o,none⟩/\b<B/\∀(i:Nat)(y:Tm m),q[i]?=some y->dr w b (o+i*4) m y/\In B w m y)(u:p.length<=9223372036854775807)(A:q.length<=9223372036854775807)(C:∀y∈p,aB ⟨n,y⟩)(D:∀y∈q,aB ⟨m,y⟩)(r:Ap B w b)(l:B<=base)(H:lR base g c b w):Calls Tryz.prog 158 #[.slice (some ⟨g,0,none⟩) 4 c,.slice a p.length pc,.slice e q.length j] w (eu base g c (if p.length=q.length then gT (λx y b=>fY n x m y b) p q b else none) w):=by
 by_cases d:p.length=q.length
 ·rw[if_pos d];rcases f with f|⟨E,po,rfl,t,f⟩
  ·subst f;have v:q=[]:=bK d.symm;subst v;exact sX a e pc j g c base b w H
  ·rcases h with h|⟨F,G,rfl,z,h⟩
   ·subst h;have s:p=[]:=bK d;subst s;exact sX _ e pc j g c base b w H
   ·have k:=Dp n m ih p q p.length rfl d.symm E po F G pc j b base g c B w (by omega) t z f h C D r l H;rw[<-d];exact k
 ·rw[if_neg d];exact Dq p.length q.length a e pc j g c base w u A (by simp;omega)
theorem eu.from{base g c:Nat}{o:Option (List An)}{w w1:World}(a:w.grownBy w1 (some g)){e:Ending}{w2:World}(k:eu base g c o w1 e w2):eu base g c o w e w2:=
 ⟨k.1,kI a k.2.1,k.2.2⟩
theorem Dt(k u j F:Int)(s D:ByteArray)(a t:Option Addr)(l v pc x:Nat)(base g c:Nat)(b:List An)(o p:Option (List An))(E:Bool)(w:World)(I:Hid (lR base g c b w))(q:Hid (k=5->∀w1,Below w.heap.size w w1->Calls Tryz.prog 157 #[.slice (some ⟨g,0,none⟩) 4 c,.int .i64 u,.agg #[.int .i64 j,.int .i64 F,.string D,.slice t v x]] w1 (eu base g c o w1)))(H:Hid (∀w1,Below w.heap.size w w1->Calls Tryz.prog 158 #[.slice (some ⟨g,0,none⟩) 4 c,.slice a l pc,.slice t v x] w1 (eu base g c p w1)))(N:Hid (∀w1,Below w.heap.size w w1->Calls Tryz.prog 159 #[.agg #[.int .i64 k,.int .i64 u,.string s,.slice a l pc],.agg #[.int .i64 j,.int .i64 F,.string D,.slice t v x]] w1 λe w'=>∃r,e=.returned (.int .i64 r)/\Hid ((r==0)=E)/\Below w1.heap.size w1 w')):Calls Tryz.prog 146 #[.slice (some ⟨g,0,none⟩) 4 c,.agg #[.int .i64 k,.int .i64 u,.string s,.slice a l pc],.agg #[.int .i64 j,.int .i64 F,.string D,.slice t v x]] w (eu base g c (if k=6 then some b else if k=5 then o else if k=4 then (if j=4 then p else none)else if E then some b else none) w):=by
 have L:∀o p,Below w.heap.size w ((w.alloc o).alloc p):=λo p=>((ah _ _).alloc (ag _) _).alloc (by simp) _;have f:=ai L;clear L;by_cases i:k=6
 ·rw[if_pos i];subst i;go_enter Tryz.func146,Tryz.ntmps146;go_wp2_with fail
  go_ret
  exact⟨rfl,cu (f.out _ _) _,λB e=>by obtain rfl:=ap e;exact I.out.below (f.out _ _)⟩
 rw[if_neg i];have S:(k==6)=false:=by simpa using i
 by_cases d:k=5
 ·rw[if_pos d];have O:=ai (q.out d);have R:(k==5)=true:=by simpa using d
  clear d i q;go_enter Tryz.func146,Tryz.ntmps146;go_wp2_with fail;refine(O.out _ (f.out _ _)).mono ?_;rintro e w1 n;have y:=ai (eu.from (cu (f.out _ _) _) n);obtain⟨rfl,_,_⟩:=n;go_wp2_with fail
  go_ret
  exact y.out
 rw[if_neg d];have R:(k==5)=false:=by simpa using d
 by_cases h:k=4
 ·rw[if_pos h];have P:(k==4)=true:=by simpa using h
  clear d i q;by_cases m:j=4
  ·rw[if_pos m];have Q:(j==4)=true:=by simpa using m
   clear h m;go_enter Tryz.func146,Tryz.ntmps146;go_wp2_with fail;refine(H.out _ (f.out _ _)).mono ?_;rintro e w1 n;have y:=ai (eu.from (cu (f.out _ _) _) n);obtain⟨rfl,_,_⟩:=n;go_wp2_with fail
   all_goals go_ret
   all_goals exact y.out
  ·rw[if_neg m];have Q:(j==4)=false:=by simpa using m
   clear h m;go_enter Tryz.func146,Tryz.ntmps146;go_wp2_with fail
   go_ret
   exact⟨rfl,cu (f.out _ _) _,λB e=>by cases e⟩
 rw[if_neg h];have P:(k==4)=false:=by simpa using h
 clear h d i q H;obtain⟨M,C⟩:∃M,M=if E then some b else none:=⟨_,rfl⟩
 rw[<-C];have G:=ai C;clear C;go_enter Tryz.func146,Tryz.ntmps146;go_wp2_with fail;refine(N.out _ (f.out _ _)).mono ?_;rintro e w1 ⟨r,rfl,J,K⟩;have A:Hid (Below w.heap.size w w1):=(f.out _ _).trans (K.mono (f.out _ _).size);have z:=ai G.out;rw[Hid,<-J.out]at z;clear K J G;cases h0:r==0
 ·go_wp2_with fail
  go_ret
  have d:=z;rw[h0]at d;simp only[lH,if_false]at d;subst d;exact⟨rfl,cu A.out _,λB e=>by cases e⟩
 ·go_wp2_with fail
  go_ret
  have d:=z;rw[h0]at d;simp only[cI]at d;subst d;exact⟨rfl,cu A.out _,λB e=>by obtain rfl:=ap e;exact I.out.below A.out⟩
theorem Km(n:Nat)(p:Tm (n+1))(m:Nat)(t:Tm (m+1))(b:List An):fY (n+1) p (m+1) t b=if p.1.1=6 then some b else if p.1.1=5 then sZ b p.1.2.1.toNat ⟨m+1,t⟩else if p.1.1=4 then (if t.1.1=4 then (if p.2.2.length=t.2.2.length then gT (λx y b=>fY n x m y b) p.2.2 t.2.2 b else none)else none)else if aw (n+1) p (m+1) t then some b else none:=by
 simp only[fY];by_cases a:t.1.1=4<;>by_cases c:p.2.2.length=t.2.2.length<;>simp[a,c]
theorem KP(n:Nat)(p:Tm (n+1))(d:aB ⟨n+1,p⟩)(e:p.1.1=5):∃k:Nat,k<4/\p.1.2.1=k:=by
 have a:=d (bm n p) (by simp[aq,bm]);have b:(bm n p).1.1=5:=e;have c:(bm n p).1.2.1=p.1.2.1:=rfl;simp[bT,b,kK]at a;rw[c]at a;exact⟨p.1.2.1.toNat,by omega,by omega⟩
theorem FG(n:Nat):J4 n:=by
 induction n with
 | zero=>intro e j t b s u c l y d;exact d.elim
 | succ n ih=>
  intro e j t b s u c l y d v w x i z r;cases j with
  | zero=>exact v.elim
  | succ j=>
  have f:l<=y.heap.size:=by have:=r.lt;omega
  have C:=d;have H:=v;obtain⟨⟨_,_,_,I,D⟩,E⟩:=C;obtain⟨⟨_,_,_,J,F⟩,G⟩:=H;unfold maxLen at D F;rw[Km];refine Dt e.1.1 e.1.2.1 t.1.1 t.1.2.1 e.1.2.2 t.1.2.2 e.2.1.1 t.2.1.1 e.2.2.length t.2.2.length e.2.1.2 t.2.1.2 s u c b _ _ _ y r ?_ ?_ ?_
  ·intro A q a;obtain⟨k,B,m⟩:=KP n e w A;rw[m];exact FL b s u c l q k B j t (i.below (a.mono f)) (v.below (a.mono f)) x z (r.below a)
  ·intro q a;refine AO n j ih e.2.2 t.2.2 e.2.1.1 t.2.1.1 e.2.1.2 t.2.1.2 b s u c l q ?_ ?_ (by omega) (by omega) (λh g=>aU n e h w g) (λh g=>aU j t h x g) (i.below (a.mono f)) z (r.below a)
   ·rcases E with d|⟨b,o,m,i,d⟩
    ·exact ae d
    ·exact af ⟨b,o,m,i,λp h g=>⟨(d p h g).1.below (a.mono f) i,(d p h g).2.below (a.mono f)⟩⟩
   ·rcases G with d|⟨b,o,m,i,d⟩
    ·exact ae d
    ·exact af ⟨b,o,m,i,λp h g=>⟨(d p h g).1.below (a.mono f) i,(d p h g).2.below (a.mono f)⟩⟩
  ·intro q a;exact zr ⟨n+1,e⟩ ⟨j+1,t⟩ l q (d.below (a.mono f)) (v.below (a.mono f)) (au f a.size) w x
def mE(n:Nat)(q:List (Tm n)):List An:=q.map λx=>⟨n,x⟩
theorem lV(n:Nat)(q:List (Tm n)):(mE n q).length=q.length:=by simp[mE]
theorem AW{n:Nat}{q:List (Tm n)}{w:World}{e po:Nat}(p:∀(i:Nat)(y:Tm n),q[i]?=some y->dr w e (po+i*4) n y):∀j u,(fz (mE n q))[j]?=some u->w.cell? ((⟨e,po,none⟩:Addr).add j)=some u:=by
 intro j u a;have c:=j8 (mE n q);have r:j<q.length*4:=by
  rw[lV]at c;rw[<-c];exact(aK.1 a).1
 obtain⟨k,i,o,rfl⟩:∃k i,i<4/\j=k*4+i:=⟨j / 4,j % 4,Nat.mod_lt _ (by decide),by omega⟩;obtain⟨y,d⟩:∃y,q[k]?=some y:=⟨q[k]'(by omega),aA _⟩;have f:(fz (mE n q))[k*4+i]?=(vj (rz ⟨n,y⟩))[i]? :=ia _ k (rz ⟨n,y⟩) (by simp[mE,d]) i o;rw[f]at a;have b:=p k y d;cases n with
 | zero=>exact b.elim
 | succ n=>
 obtain⟨g,h,l,m⟩:=b;rw[eE,<-Nat.add_assoc];have:i=0\/i=1\/i=2\/i=3:=by omega
 rcases this with rfl|rfl|rfl|rfl
 all_goals simp[vj,rz,iv,bm]at a;subst a
 ·exact g
 ·exact h
 ·exact l
 ·exact m
theorem AF(n:Nat)(q:List (Tm n))(len l po pc:Nat)(w:World)(p:Hid (q.length=len))(F:0<len)(G:len<=1048576)(y:Hid (∀w1,Below w.heap.size w w1->∀j u,(fz (mE n q))[j]?=some u->w1.cell? ((⟨l,po,none⟩:Addr).add j)=some u)):Calls Tryz.prog 145 #[.slice (some ⟨l,po,none⟩) len pc] w λe w'=>∃g c,e=.returned (.slice (some ⟨g,0,none⟩) len c)/\Hid (Below w.heap.size w w'/\lR w.heap.size g c (mE n q) w'):=by
 obtain⟨C,o,r,s,t⟩:=bM gA;have a:=ai (⟨o,r,s,t⟩:_/\_/\_/\_);clear o r s t;have I:∀(w:World)(b:Option Addr)(n c i f:Nat),(binOp .eql 28 (.slice b n c) (.slice none i f)).run Tryz.prog w=.ok (.bool b.isNone) w:=λw b n c i f=>Lib.run_eql_slice_nil w _ _ b n c i f Tryz.underlying28;go_enter Tryz.func145,Tryz.ntmps145;go_wp2_with (at_builtin;refine wpList_append_own _ rfl _ _ 28 rfl w.heap.size 30 C _ 4 56 Tryz.underlying28 a.out.1 a.out.2.1 a.out.2.2.1 a.out.2.2.2 rfl (by decide) _ _ _ rfl (World.ownsRow_made w #[] 0 (ag _) (aD _) (by simp)) ⟨l,po,none⟩ len pc (fz (mE n q)) rfl ?qc1 ?qc2 ?qc3 ?qc4 ?qc5 ?qc6 ?_)
 case qc1=>rw[j8,lV,p.out]
 case qc2=>exact y.out _ ((ah _ _).alloc (ag _) _)
 case qc3=>exact xO _
 case qc4=>unfold maxLen;omega
 case qc5=>omega
 case qc6=>simp
 intro D w1 h m B;have v:Hid (∃g c,D=.slice (some ⟨g,0,none⟩) len c/\Below w.heap.size w w1/\lR w.heap.size g c (mE n q) w1):=by
  have z:Below w.heap.size w w1:=Below.grown ((ah _ _).alloc (ag _) _) m (by simp) (by intro k A;simp[Value.ownBlock]at A;omega);have d:=h;obtain⟨_,d⟩:=d;rcases d with⟨_,d⟩|⟨g,cap,E,rfl,H,_⟩
  ·omega
  ·refine⟨g,cap,rfl,z,?_⟩;unfold lR;rw[lV,p.out];exact h
 clear h m B;obtain⟨g,c,rfl,x⟩:=v.out;go_wp2_with fail
 go_ret
 exact⟨g,c,rfl,x⟩
end Go.Proofs.YtnidfceinoiboaaGreat
