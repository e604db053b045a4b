/- What is proved here: plain facts and contracts that the claimed theorem stands on. No condition but those that each names. -/
import Derived.Test.YtmbjgiaebneodaaGreatG09
import Derived.Lib.SliceRun
namespace Go.Proofs.YtmbjgiaebneodaaGreat
open Go.RowKit
set_option maxHeartbeats 1000000
set_option maxRecDepth 100000
theorem gj(w:World)(s0 s1 b c d e:Value)(t1 t2 a:TypeId):Below w.heap.size w (((w.alloc (.cells #[s0,s1] t1)).alloc (.cells #[b,c,d,e] t2)).alloc (.cells #[.int .i64 0,.int .i64 0,.string .empty,.slice none 0 0] a))/\ mf (w.heap.size+1+1) (((w.alloc (.cells #[s0,s1] t1)).alloc (.cells #[b,c,d,e] t2)).alloc (.cells #[.int .i64 0,.int .i64 0,.string .empty,.slice none 0 0] a)):=by
 refine⟨(((ah _ _).alloc (ag _) _).alloc (by simp) _).alloc (by simp;omega) _,⟨?_,?_,?_,?_⟩,⟨?_,?_,?_,?_⟩,?_⟩<;>simp[go_sem]
theorem Ig{w W:World}{s0 s1 d e f g y0 y1 y2 a:Value}{t1 t2 c t4:TypeId}(b:(((w.alloc (.cells #[s0,s1] t1)).alloc (.cells #[d,e,f,g] t2)).alloc (.cells #[.int .i64 0,.int .i64 0,.string .empty,.slice none 0 0] c)).alloc (.cells #[y0,y1,y2,a] t4)=W):Below w.heap.size w W/\mf (w.heap.size+1+1) W/\ (W.cell? ⟨w.heap.size+1+1+1,0,none⟩=some y0/\W.cell? ⟨w.heap.size+1+1+1,1,none⟩=some y1/\W.cell? ⟨w.heap.size+1+1+1,2,none⟩=some y2/\W.cell? ⟨w.heap.size+1+1+1,3,none⟩=some a)/\w.heap.size+1+1+1<W.heap.size:=by
 subst b;refine⟨lI _ _ _ _ _,⟨⟨?_,?_,?_,?_⟩,⟨?_,?_,?_,?_⟩,?_⟩,⟨?_,?_,?_,?_⟩,?_⟩<;>simp[go_sem]
theorem Lc(N:Nat)(o:Option (Tm (N+1)))(a:Option Addr)(d:Int)(e:ByteArray)(xa:Option Addr)(f xc:Nat)(c:Nat)(self:Int)(w:World)(b:Hid (o=none)):Calls Tryz.prog 127 #[.agg #[.slice a 4 c,.int .i64 self],.agg #[.int .i64 6,.int .i64 d,.string e,.slice xa f xc]] w (jf (N+1) o w):=by
 go_enter Tryz.func127,Tryz.ntmps127;go_wp2_with fail;rw[b.out];exact ao (v:=.tuple #[.agg #[.int .i64 0,.int .i64 0,.string .empty,.slice none 0 0],.bool false]) (by simp[results,Tryz.results127,go_sem];rfl) rfl (jy (gj w _ _ _ _ _ _ _ _ _).1)
theorem Ld(N:Nat)(o:Option (Tm (N+1)))(a:Option Addr)(p:Int)(q:ByteArray)(xa:Option Addr)(g xc:Nat)(c:Nat)(self:Int)(w:World)(e:Hid (∀w1,Below w.heap.size w w1->Calls Tryz.prog 137 #[.agg #[.slice a 4 c,.int .i64 self],.slice xa g xc] w1 (jf (N+1) o w1))):Calls Tryz.prog 127 #[.agg #[.slice a 4 c,.int .i64 self],.agg #[.int .i64 4,.int .i64 p,.string q,.slice xa g xc]] w (jf (N+1) o w):=by
 go_enter Tryz.func127,Tryz.ntmps127;go_wp2_with fail;refine(e.out _ (gj w _ _ _ _ _ _ _ _ _).1).mono ?_;rintro x D ⟨b,j,rfl,d⟩;have h:=ai ((gj w _ _ _ _ _ _ _ _ _).2.below d.out.1);have i:=λk l m n=>ai (tS (gj w _ _ _ _ _ _ _ _ _).1 (g9 w.heap.size 2) (gj w _ _ _ _ _ _ _ _ _).2.2.2 d.out k l m n);obtain⟨⟨r,s,t,u⟩,⟨y,z,A,B⟩,C⟩:=h.out;have f:de (N+1) b=.agg #[.int .i64 b.1.1,.int .i64 b.1.2.1,.string b.1.2.2,.slice b.2.1.1 b.2.2.length b.2.1.2]:=rfl;rw[f];clear d e f;go_wp2_with fail;exact ao (v:=.tuple #[.agg #[.int .i64 b.1.1,.int .i64 b.1.2.1,.string b.1.2.2,.slice b.2.1.1 b.2.2.length b.2.1.2],.bool j]) (by simp[results,Tryz.results127,go_sem,r,s,t,u]) rfl (i _ _ _ _).out
theorem Ko(N:Nat)(o:Option (Tm (N+1)))(a:Option Addr)(b:Int)(h:Int)(i:ByteArray)(xa:Option Addr)(j xc:Nat)(n:Nat)(r:n<=N)(x:Tm (n+1))(c:Nat)(self:Int)(w:World)(I:¬b=4)(J:¬b=5)(K:¬b=6)(m:Hid (aA ⟨n+1,x⟩))(f:Hid (∀w1,Below w.heap.size w w1->Calls Tryz.prog 45 #[.agg #[.int .i64 b,.int .i64 h,.string i,.slice xa j xc]] w1 λe w'=>∃y:Tm (n+1),e=.returned (de (n+1) y)/\Hid (Below w1.heap.size w1 w'/\In w'.heap.size w' (n+1) y/\cg (λq=>w1.heap.size<=q) (n+1) y/\aw (n+1) y (n+1) x=true)))(l:Hid (o=some (aH (N+1) (n+1) x))):Calls Tryz.prog 127 #[.agg #[.slice a 4 c,.int .i64 self],.agg #[.int .i64 b,.int .i64 h,.string i,.slice xa j xc]] w (jf (N+1) o w):=by
 go_enter Tryz.func127,Tryz.ntmps127;go_wp2_with fail;refine(f.out _ (gj w _ _ _ _ _ _ _ _ _).1).mono ?_;rintro e M ⟨y,rfl,d⟩;have k:=ai ((gj w _ _ _ _ _ _ _ _ _).2.below d.out.1);have p:=λs t u z=>ai (tT r m.out (gj w _ _ _ _ _ _ _ _ _).1 (g9 w.heap.size 2) (gj w _ _ _ _ _ _ _ _ _).2.2.2 d.out (ah _ _) true s t u z);obtain⟨⟨A,B,C,D⟩,⟨E,F,G,H⟩,L⟩:=k.out;have g:de (n+1) y=.agg #[.int .i64 y.1.1,.int .i64 y.1.2.1,.string y.1.2.2,.slice y.2.1.1 y.2.2.length y.2.1.2]:=rfl;rw[g];clear d f g;go_wp2_with fail;rw[l.out];exact ao (v:=.tuple #[.agg #[.int .i64 y.1.1,.int .i64 y.1.2.1,.string y.1.2.2,.slice y.2.1.1 y.2.2.length y.2.1.2],.bool true]) (by simp[results,Tryz.results127,go_sem,A,B,C,D]) rfl (p _ _ _ _).out
theorem Le(N:Nat)(o:Option (Tm (N+1)))(b bo:Nat)(k:Nat)(l:Int)(M:ByteArray)(xa:Option Addr)(Q xc:Nat)(n:Nat)(E:n<=N)(x:Tm (n+1))(c:Nat)(self:Int)(w:World)(A:l=(k:Int))(am:k<4)(al:b<w.heap.size)(F:dk w b (bo+k*4) (n+1) x)(t:Hid (aA ⟨n+1,x⟩))(s:Hid (∀w1,Below w.heap.size w w1->Calls Tryz.prog 45 #[.agg #[.int .i64 x.1.1,.int .i64 x.1.2.1,.string x.1.2.2,.slice x.2.1.1 x.2.2.length x.2.1.2]] w1 λe w'=>∃y:Tm (n+1),e=.returned (de (n+1) y)/\Hid (Below w1.heap.size w1 w'/\In w'.heap.size w' (n+1) y/\cg (λq=>w1.heap.size<=q) (n+1) y/\aw (n+1) y (n+1) x=true)))(p:Hid (∀w1,Calls Tryz.prog 132 #[.agg #[.int .i64 x.1.1,.int .i64 x.1.2.1,.string x.1.2.2,.slice x.2.1.1 x.2.2.length x.2.1.2]] w1 λe w'=>e=.returned (.bool (!(x.1.1==6)))/\Below w1.heap.size w1 w'))(r:Hid (o=if (!(x.1.1==6))=true then some (aH (N+1) (n+1) x)else none)):Calls Tryz.prog 127 #[.agg #[.slice (some ⟨b,bo,none⟩) 4 c,.int .i64 self],.agg #[.int .i64 5,.int .i64 l,.string M,.slice xa Q xc]] w (jf (N+1) o w):=by
 go_enter Tryz.func127,Tryz.ntmps127;obtain⟨K,L,O,P⟩:=F;subst A;generalize x.2.2.length=R at*;generalize (!(x.1.1==6))=cl at*;have an:(0:Int)<=(k:Int):=by omega
 have ap:(k:Int)<4:=by omega
 have ah:b<w.heap.size+1:=by omega
 have ak:b<w.heap.size+1+1:=by omega
 go_wp2_with fail;generalize i:World.alloc (World.alloc (World.alloc (World.alloc w _) _) _) _=X;obtain⟨g,h,⟨Y,Z,aa,ab⟩,B⟩:=Ig i;have HB:=ai g;have f:=ai h;clear i g h K L O P;have z:∀y:Tm (n+1),de (n+1) y=.agg #[.int .i64 y.1.1,.int .i64 y.1.2.1,.string y.1.2.2,.slice y.2.1.1 y.2.2.length y.2.1.2]:=λ_=>rfl
 go_region_held3 (λw'=>w'.cell? ⟨w.heap.size+1+1+1,0,none⟩=some (.int .i64 x.1.1)/\w'.cell? ⟨w.heap.size+1+1+1,1,none⟩=some (.int .i64 x.1.2.1)/\w'.cell? ⟨w.heap.size+1+1+1,2,none⟩=some (.string x.1.2.2)/\w'.cell? ⟨w.heap.size+1+1+1,3,none⟩=some (.slice x.2.1.1 R x.2.1.2))
  (go_keep) ((first|(go_at_call 45;refine(s.out _ HB.out.drew).mono ?_;rintro e j ⟨y,rfl,a⟩;rw[z];have C:=aj (ci a.out.1);have W:Hid (Below w.heap.size w j):=(HB.out.drew).trans (a.out.1.mono HB.out.size);have aq:w.heap.size+1+1+1<j.heap.size:=aM B a.out.1.size)|(go_at_call 132;refine(p.out _).mono ?_;rintro e au ⟨rfl,d⟩;have D:=aj d;have m:=ai ((f.out.below (ci a.out.1)).below d);obtain⟨⟨S,T,U,V⟩,⟨ad,ae,af,ag⟩,ar⟩:=m.out)))
 have u:=λG H I J=>ai (tT E t.out HB.out.drew (g9 w.heap.size 2) f.out.2.2 a.out d cl G H I J);clear a C D d;go_wp2_with fail;rw[r.out];exact ao (v:=.tuple #[.agg #[.int .i64 y.1.1,.int .i64 y.1.2.1,.string y.1.2.2,.slice y.2.1.1 y.2.2.length y.2.1.2],.bool cl]) (by simp[results,Tryz.results127,go_sem,S,T,U,V]) rfl (u _ _ _ _).out
def uq(m n:Nat)(self:Int)(f:Tm n->Option (Tm (m+n)))(p:List (Tm n)):Option (Tm (m+n+1)):=
 if qY n p mS 0 then some (aS 3 self (m+n))
 else if qY n p qI 2 then (p[1]?).bind λa=>(p[2]?).bind λc=>(f a).bind λa=>(f c).bind λc=>rJ (m+n) a c
 else if qY n p qJ 1 then (p[1]?).bind λa=>if aF n a then some (aH (m+n+1) n a)else none
 else (cB f p).map (cI (m+n))
theorem GV(m:Nat)(b:List (Tm m))(self:Int)(n:Nat)(x:Tm (n+1))(a:x.1.1=4):vl m b self (n+1) x=uq m n self (λy=>vl m b self n y) x.2.2:=by simp[vl,a,uq]
theorem GU(m:Nat)(b:List (Tm m))(self:Int)(n:Nat)(x:Tm (n+1))(a:x.1.1=6):vl m b self (n+1) x=none:=by simp[vl,a]
theorem Cz(m:Nat)(b:List (Tm m))(self:Int)(n:Nat)(x:Tm (n+1))(a:x.1.1≠4)(c:x.1.1≠5)(d:x.1.1≠6):vl m b self (n+1) x=some (aH (m+n+1) (n+1) x):=by simp[vl,a,c,d]
theorem Kr(m:Nat)(b:List (Tm m))(self:Int)(n:Nat)(x:Tm (n+1))(y:Tm m)(k:Nat)(a:x.1.1=5)(c:x.1.2.1=(k:Int))(d:b[k]?=some y):vl m b self (n+1) x=if bD ⟨m,y⟩=6 then none else some (aH (m+n+1) m y):=by
 simp[vl,a,c,d]
theorem yq{n:Nat}{p:List (Tm n)}{s:ByteArray}{k:Nat}(a:qY n p s k=true):p.length=1+k:=by
 by_cases b:p.length=1+k
 ·exact b
 ·rw[Cf b]at a;cases a
theorem FH{N:Nat}{o:Option (Tm N)}(d:∀a,o=some a->aA ⟨N,a⟩):KG o:=by
 intro a g e;have c:=d a g;cases N with
 | zero=>exact(cU c).elim
 | succ N=>
  have b:=c (bm N a) (by simp[ap,bm]);have f:a.1.1=1:=e;simp only[bQ,bm,f,kC,aB,cR]at b;exact⟨eE b.1.2.1,eE b.1.2.2⟩
theorem BG(m:Nat)(b:List (Tm m))(self:Int)(O:fy m b=true)(N:1<=self/\self<=99)(n:Nat)(ih:JF m b self n)(p:List (Tm n))(pa:Option Addr)(pc:Nat)(a:Option Addr)(c B:Nat)(w:World)(L:p.length<=8)(g:eS B w n p pa)(v:∀y∈p,aA ⟨n,y⟩)(C:eS B w m b a)(f:B<=w.heap.size):Calls Tryz.prog 137 #[.agg #[.slice a 4 c,.int .i64 self],.slice pa p.length pc] w (jf (m+n+1) (uq m n self (λy=>vl m b self n y) p) w):=by
 have D:=λW k (Q:k<=8) h (e:Below w.heap.size w h)=>AH n p pa pc B W k h (g.below (e.mono f)) L Q;have j:=D mS 0 (by omega);have o:=D qI 2 (by omega);have r:=D qJ 1 (by omega);have K:∀y∈b,aA ⟨m,y⟩:=λy i=>((gd O).2 y i).2.1;cases e1:qY n p mS 0
 ·rw[e1]at j;cases e2:qY n p qI 2
  ·rw[e2]at o;cases e3:qY n p qJ 1
   ·rw[e3]at r;refine I8 (m+n) _ a c self pa p.length pc w j o r ?_;intro h e;have P:=zK m b self n ih p p.length rfl pa pc a c B h L (g.below (e.mono f)) v (C.below (e.mono f)) (au f e.size);simpa [uq,e1,e2,e3]using P
   ·rw[e3]at r;have s:=yq e3;rcases g with g|⟨G,po,rfl,R,g⟩
    ·rw[g]at s;simp at s
    ·obtain⟨y,i⟩:∃y,p[1]?=some y:=⟨p[1]'(by omega),az _⟩;obtain⟨u,x⟩:=g 1 y i;have t:=v y (ax i);have z:uq m n self (λy=>vl m b self n y) p=if aF n y=true then some (aH (m+n+1) n y)else none:=by simp[uq,e1,e2,e3,i]
     rw[z];cases n with
     | zero=>exact u.elim
     | succ n=>
     rw[show p.length=2 by omega]at j o r ⊢;refine Kt (m+(n+1)) _ a c self G po n (by omega) y (aF (n+1) y) pc w j o r (by omega) (by simpa using u) t ?_ ?_ rfl
     ·intro h e;exact gf (n+1) y B h (x.below (e.mono f)) (au f e.size) t
     ·intro h e;exact gK (n+1) y B h (x.below (e.mono f)) (au f e.size)
  ·rw[e2]at o;have s:=yq e2;rcases g with g|⟨G,po,rfl,R,g⟩
   ·rw[g]at s;simp at s
   ·obtain⟨d,E⟩:∃d,p[1]?=some d:=⟨p[1]'(by omega),az _⟩;obtain⟨y,i⟩:∃y,p[2]?=some y:=⟨p[2]'(by omega),az _⟩;obtain⟨S,T⟩:=g 1 d E;obtain⟨u,x⟩:=g 2 y i;have M:=v d (ax E);have t:=v y (ax i);have z:uq m n self (λy=>vl m b self n y) p=um (vl m b self n d) (vl m b self n y):=by simp[uq,e1,e2,E,i,um]
    rw[z];have U:=FH λJ F=>tR m b self N K n d M J F;have V:=FH λJ F=>tR m b self N K n y t J F;cases n with
    | zero=>exact u.elim
    | succ n=>
    rw[show p.length=3 by omega]at j o ⊢;refine Ks (m+(n+1)) _ a c self G po d.1.1 d.1.2.1 d.1.2.2 d.2.1.1 d.2.2.length d.2.1.2 y.1.1 y.1.2.1 y.1.2.2 y.2.1.1 y.2.2.length y.2.1.2 pc w j o (by omega) (by simpa [dk]using S) (by simpa [dk]using u) ?_;intro h e;refine Gw (m+(n+1)) _ _ U V a c self d.1.1 d.1.2.1 d.1.2.2 d.2.1.1 d.2.2.length d.2.1.2 y.1.1 y.1.2.1 y.1.2.2 y.2.1.1 y.2.2.length y.2.1.2 h ?_ ?_
    ·intro H q;refine ri (m+n) _ a c self d.1.1 d.1.2.1 d.1.2.2 d.2.1.1 d.2.2.length d.2.1.2 H ?_;intro I A;have l:=(e.trans ((q.trans (A.mono q.size)).mono e.size));exact ih d a c B I (T.below (l.mono f)) M (C.below (l.mono f)) (au f l.size)
    ·intro H q;refine ri (m+n) _ a c self y.1.1 y.1.2.1 y.1.2.2 y.2.1.1 y.2.2.length y.2.1.2 H ?_;intro I A;have l:=(e.trans ((q.trans (A.mono q.size)).mono e.size));exact ih y a c B I (x.below (l.mono f)) t (C.below (l.mono f)) (au f l.size)
 ·rw[e1]at j;exact I9 (m+n) _ a c self ⟨by omega,by omega⟩ pa p.length pc w j (by simp[Hid,uq,e1])
theorem Ex(m:Nat)(b:List (Tm m))(self:Int)(z:fy m b=true)(J:1<=self/\self<=99)(n:Nat):JF m b self n:=by
 induction n with
 | zero=>intro a j c q p v;exact v.elim
 | succ n ih=>
  intro a j c q p v u h g;obtain⟨y,H⟩:=gd z;have t:=u (bm n a) (by simp[ap,bm]);have I:a.2.2.length<=8:=kM (bm n a) t;by_cases s:a.1.1=6
  ·have f:=Lc (m+n) (vl m b self (n+1) a) j a.1.2.1 a.1.2.2 a.2.1.1 a.2.2.length a.2.1.2 c self p (GU m b self n a s);rw[<-s]at f;exact f
  ·by_cases l:a.1.1=5
   ·have O:0<=a.1.2.1/\a.1.2.1<=3:=by
      have D:¬(5:Int)=1:=by decide
      have E:¬(5:Int)=2:=by decide
      have F:¬(5:Int)=3:=by decide
      have G:¬(5:Int)=4:=by decide
      simp only[bQ,bm,l,kC,aB,cR,D,E,F,G,if_false]at t;exact⟨eE t.1.2.1,eE t.1.2.2⟩
    obtain⟨k,A⟩:∃k:Nat,a.1.2.1=(k:Int):=⟨a.1.2.1.toNat,by omega⟩;obtain⟨d,o⟩:∃d,b[k]?=some d:=⟨b[k]'(by omega),az _⟩;have w:=(H d (ax o)).2.1;have C:=Kr m b self n a d k l A o;have M:=h;rcases h with h|⟨B,bo,rfl,N,h⟩
    ·rw[h]at y;simp at y
    ·obtain⟨K,L⟩:=h k d o;cases m with
     | zero=>exact(cU w).elim
     | succ m=>
     have f:=Le (m+1+n) (vl (m+1) b self (n+1) a) B bo k a.1.2.1 a.1.2.2 a.2.1.1 a.2.2.length a.2.1.2 m (by omega) d c self p A (by omega) (by omega) K w
      (λi e=>gf (m+1) d q i (L.below (e.mono g)) (au g e.size) w)
      (λi=>il d.1.1 d.1.2.1 d.1.2.2 d.2.1.1 d.2.2.length d.2.1.2 i)
      (by
       show vl (m+1) b self (n+1) a=_;rw[C];by_cases x:d.1.1=6
       ·simp[bD,x]
       ·simp[bD,x])
     rw[<-l]at f;exact f
   ·by_cases r:a.1.1=4
    ·have f:=Ld (m+n) (vl m b self (n+1) a) j a.1.2.1 a.1.2.2 a.2.1.1 a.2.2.length a.2.1.2 c self p (by
       intro i e;rw[GV m b self n a r]
       exact BG m b self z J n ih a.2.2 a.2.1.1 a.2.1.2 j c q i I (eS.below (e.mono g) v.2) (λd o=>aU n a d u o) (h.below (e.mono g)) (au g e.size))
     rw[<-r]at f;exact f
    ·exact Ko (m+n) (vl m b self (n+1) a) j a.1.1 a.1.2.1 a.1.2.2 a.2.1.1 a.2.2.length a.2.1.2 n (by omega) a c self p r l s u
       (λi e=>gf (n+1) a q i (v.below (e.mono g)) (au g e.size) u) (Cz m b self n a r l s)
def tW(N:Nat):Tm (N+1):=aS 0 0 N
def xu(N:Nat)(E:Int)(o:Option (Tm (N+1)))(w:World)(e:Ending)(w':World):Prop:=
 ∃a:Tm (N+1),e=.returned (.tuple #[de (N+1) a,.int .i64 (Cs E (mj E o))])/\Hid (Below w.heap.size w w'/\In w'.heap.size w' (N+1) a/\cg (λb=>w.heap.size<=b) (N+1) a/\aw (N+1) a (N+1) ((mj E o).getD (tW N))=true)
theorem ny{N:Nat}{E:Int}{o:Option (Tm (N+1))}{w w':World}{u:Int}(b:Below w.heap.size w w')(a:mj E o=none)(c:u=Cs E (mj E o)):xu N E o w (.returned (.tuple #[.agg #[.int .i64 0,.int .i64 0,.string .empty,.slice none 0 0],.int .i64 u])) w':=by
 refine⟨tW N,by rw[c];rfl,b,(jR N 0 0 ik ik _ _ (λ_=>True)).1,(jR N 0 0 ik ik 0 w _).2,?_⟩;rw[a];exact uI N 0 0
theorem IT{N:Nat}{E:Int}{o:Option (Tm (N+1))}{a:Tm (N+1)}{w w1 w2 j:World}{y:Tm (N+1)}{q:Nat}(e:E=0)(n:o=some a)(l:bv (N+1) a=0)(f:Below w.heap.size w w1)(p:w.heap.size<=q)(t:q<w1.heap.size)(h:Below w1.heap.size w1 w2)(r:In w2.heap.size w2 (N+1) y)(i:cg (λq=>w1.heap.size<=q) (N+1) y)(s:aw (N+1) y (N+1) a=true)(c:Below w2.heap.size w2 j)(v0 v1 v2 v3:Value):xu N E o w (.returned (.tuple #[.agg #[.int .i64 y.1.1,.int .i64 y.1.2.1,.string y.1.2.2,.slice y.2.1.1 y.2.2.length y.2.1.2],.int .i64 0])) (cM j q 0 v0 v1 v2 v3):=by
 have g:=f.size;have k:=(f.trans (h.mono g)).trans (c.mono (au g h.size));have d:mj E o=some a:=by simp[mj,e,n,l]
 refine⟨y,by rw[d];simp[Cs,e,de],cN k p _ _ _ _,?_,i.mono λb m=>by omega,by rw[d];exact s⟩;rw[aY];exact In.off (P:=λb=>w1.heap.size<=b) (λb m=>aO (by omega) _ _ _ _) i ((r.below c).mono c.size)
theorem zn{c:Int}{bd:Bool}{self:Int}(a:Ct c bd self=0):c=0/\bd=true/\1<=self/\self<=99:=by
 unfold Ct at a;split at a
 ·split at a
  ·split at a
   ·rename_i b d e;exact⟨b,d,e⟩
   ·cases a
  ·cases a
 ·rename_i b;exact absurd a b
theorem Ew{m n:Nat}{b:List (Tm m)}{self:Int}{x:Tm (n+1)}{a:Tm (m+n+1)}(c:bv (n+1) x=0)(d:fy m b=true)(h:vl m b self (n+1) x=some a):(ap (m+n+1) a).length<=2097152:=by
 have f:=mw c;have e:=zO m b self 201 (by omega) (λi g=>mw ((gd d).2 i g).1) (n+1) x a h;have:201*(ap (n+1) x).length<=201*201:=Nat.mul_le_mul_left 201 f;exact au e (by omega)
theorem rY(w:World)(a b c d:Value)(t1 t2:TypeId):Below w.heap.size w ((w.alloc (.cells #[a,b,c,d] t1)).alloc (.cells #[.int .i64 0,.int .i64 0,.string .empty,.slice none 0 0] t2))/\mf (w.heap.size+1) ((w.alloc (.cells #[a,b,c,d] t1)).alloc (.cells #[.int .i64 0,.int .i64 0,.string .empty,.slice none 0 0] t2)):=by
 refine⟨((ah _ _).alloc (ag _) _).alloc (by simp) _,⟨?_,?_,?_,?_⟩,⟨?_,?_,?_,?_⟩,?_⟩<;>simp[go_sem]
theorem BE{w w':World}{b c d e y0 y1 y2 f:Value}{t1 t2:TypeId}(g:Below ((w.alloc (.cells #[b,c,d,e] t1)).alloc (.cells #[y0,y1,y2,f] t2)).heap.size ((w.alloc (.cells #[b,c,d,e] t1)).alloc (.cells #[y0,y1,y2,f] t2)) w'):w'.cell? ⟨w.heap.size,0,none⟩=some b/\w'.cell? ⟨w.heap.size,1,none⟩=some c/\w'.cell? ⟨w.heap.size,2,none⟩=some d/\w'.cell? ⟨w.heap.size,3,none⟩=some e:=by
 have a:=λo=>g.cell (p:=⟨w.heap.size,o,none⟩) (by simp;omega);exact⟨(a 0).trans (by simp[go_sem]),(a 1).trans (by simp[go_sem]),(a 2).trans (by simp[go_sem]),(a 3).trans (by simp[go_sem])⟩
theorem zo(N:Nat)(o:Option (Tm (N+1)))(a:Option Addr)(Y c:Nat)(self:Int)(ae af:Int)(aj:ByteArray)(xa:Option Addr)(ak xc:Nat)(l:Int)(bd:Bool)(w:World)(am:Hid (∀w1,Below w.heap.size w w1->Calls Tryz.prog 42 #[.agg #[.int .i64 ae,.int .i64 af,.string aj,.slice xa ak xc]] w1 λe w'=>e=.returned (.int .i64 l)/\Below w1.heap.size w1 w'))(al:Hid (∀w1,Below w.heap.size w w1->Calls Tryz.prog 121 #[.slice a Y c] w1 λe w'=>e=.returned (.bool bd)/\Below w1.heap.size w1 w'))(s:Hid (Ct l bd self=0->∀w1,Below w.heap.size w w1->Calls Tryz.prog 127 #[.agg #[.slice a Y c,.int .i64 self],.agg #[.int .i64 ae,.int .i64 af,.string aj,.slice xa ak xc]] w1 (jf (N+1) o w1)))(q:Hid (Ct l bd self=0->∀(y f:Tm (N+1))(w1:World),o=some f->aw (N+1) y (N+1) f=true->In w1.heap.size w1 (N+1) y->Calls Tryz.prog 42 #[.agg #[.int .i64 y.1.1,.int .i64 y.1.2.1,.string y.1.2.2,.slice y.2.1.1 y.2.2.length y.2.1.2]] w1 λe w'=>e=.returned (.int .i64 (bv (N+1) f))/\Below w1.heap.size w1 w')):Calls Tryz.prog 103 #[.agg #[.int .i64 ae,.int .i64 af,.string aj,.slice xa ak xc],.slice a Y c,.int .i64 self] w (xu N (Ct l bd self) o w):=by
 obtain⟨E,U⟩:∃E,E=Ct l bd self:=⟨_,rfl⟩;rw[<-U]at s q ⊢;have m:=ai U;clear U;go_enter Tryz.func103,Tryz.ntmps103;go_wp2_with fail;refine(am.out _ (rY w _ _ _ _ _ _).1).mono ?_;rintro e w1 ⟨rfl,M⟩;have ar:=ai (BE M);have A:Hid (Below w.heap.size w w1):=(rY w _ _ _ _ _ _).1.trans (M.mono (rY w _ _ _ _ _ _).1.size);have J:=ai ((rY w _ _ _ _ _ _).2.below M);clear M am;by_cases d:l=0
 case neg=>
  have aH:(l !=0)=true:=by simpa using d
  have b:Hid (E=l/\l≠0):=⟨by rw[m.out];simp[Ct,d],d⟩;obtain⟨⟨g,h,i,j⟩,⟨C,D,F,G⟩,z⟩:=J.out;clear s m d q;go_wp2_with fail;exact ao (v:=.tuple #[.agg #[.int .i64 0,.int .i64 0,.string .empty,.slice none 0 0],.int .i64 l]) (by simp[results,Tryz.results103,go_sem,g,h,i,j];rfl) rfl (ny (cN A.out (by omega) _ _ _ _) (by simp[mj,b.out.1,b.out.2]) (by simp[Cs,b.out.1,b.out.2]))
 have aH:(l !=0)=false:=by simp[d]
 go_wp2_with fail;refine(al.out _ A.out).mono ?_;rintro e az ⟨rfl,O⟩;have au:=ai (mu (Nat.lt_of_succ_lt J.out.2.2) O ar.out);have p:Hid (Below w.heap.size w az):=A.out.trans (O.mono A.out.size);have r:=ai (J.out.below O);clear O al A ar J;cases bd
 ·have b:Hid (E=5):=by rw[Hid,m.out];simp[Ct,d]
  obtain⟨⟨g,h,i,j⟩,⟨C,D,F,G⟩,z⟩:=r.out;clear s m d q;go_wp2_with fail;exact ao (v:=.tuple #[.agg #[.int .i64 0,.int .i64 0,.string .empty,.slice none 0 0],.int .i64 5]) (by simp[results,Tryz.results103,go_sem,g,h,i,j];rfl) rfl (ny (cN p.out (by omega) _ _ _ _) (by simp[mj,b.out]) (by simp[Cs,b.out]))
 ·by_cases ax:self<1
  ·have aD:decide (self<1)=true:=by simpa using ax
   have b:Hid (E=1):=by rw[Hid,m.out];simp only[Ct,d,cR];rw[if_neg (by omega)]
   obtain⟨⟨g,h,i,j⟩,⟨C,D,F,G⟩,z⟩:=r.out;clear s m d q;go_wp2_with fail;exact ao (v:=.tuple #[.agg #[.int .i64 0,.int .i64 0,.string .empty,.slice none 0 0],.int .i64 1]) (by simp[results,Tryz.results103,go_sem,g,h,i,j];rfl) rfl (ny (cN p.out (by omega) _ _ _ _) (by simp[mj,b.out]) (by simp[Cs,b.out]))
  ·have aD:decide (self<1)=false:=by simpa using ax
   by_cases ay:99<self
   ·have aE:decide (99<self)=true:=by simpa using ay
    have b:Hid (E=1):=by rw[Hid,m.out];simp only[Ct,d,cR];rw[if_neg (by omega)]
    obtain⟨⟨g,h,i,j⟩,⟨C,D,F,G⟩,z⟩:=r.out;clear s m d q;go_wp2_with fail;exact ao (v:=.tuple #[.agg #[.int .i64 0,.int .i64 0,.string .empty,.slice none 0 0],.int .i64 1]) (by simp[results,Tryz.results103,go_sem,g,h,i,j];rfl) rfl (ny (cN p.out (by omega) _ _ _ _) (by simp[mj,b.out]) (by simp[Cs,b.out]))
   ·have aE:decide (99<self)=false:=by simpa using ay
    have B:Hid (E=0):=by rw[Hid,m.out];simp only[Ct,d,cR];rw[if_pos (by omega)]
    obtain⟨aL,aM,aN,aO⟩:=au.out;have aQ:w.heap.size<az.heap.size:=Nat.lt_of_succ_lt r.out.2.2;clear m d;go_wp2_with fail;refine(s.out B.out _ p.out).mono ?_;rintro e n ⟨y,aK,rfl,k⟩;have P:Hid (Below w.heap.size w n):=p.out.trans (k.out.1.mono p.out.size);have K:=ai (r.out.below k.out.1);have av:de (N+1) y=.agg #[.int .i64 y.1.1,.int .i64 y.1.2.1,.string y.1.2.2,.slice y.2.1.1 y.2.2.length y.2.1.2]:=rfl;rw[av];clear s av aL aM aN aO au;cases aK
    ·have an:Hid (o=none):=by
       have:=k.out.2.2.2.1;cases o with
       | none=>rfl
       | some f=>cases this
     obtain⟨⟨g,h,i,j⟩,⟨C,D,F,G⟩,z⟩:=K.out;clear k q;go_wp2_with fail;exact ao (v:=.tuple #[.agg #[.int .i64 0,.int .i64 0,.string .empty,.slice none 0 0],.int .i64 7]) (by simp[results,Tryz.results103,go_sem,g,h,i,j,z];rfl) rfl (ny ((cN P.out (by omega) _ _ _ _).alloc (by rw[aY];omega) _) (by simp[mj,an.out]) (by simp[Cs,mj,an.out,B.out]))
    ·obtain⟨f,X⟩:∃f,o=some f:=by
       have:=k.out.2.2.2.1;cases o with
       | none=>cases this
       | some f=>exact⟨f,rfl⟩
     have L:=ai X;have aq:=ai (k.out.2.2.2.2 f X)
     have S:Hid (∀w1,Below n.heap.size n w1->Calls Tryz.prog 42 #[.agg #[.int .i64 y.1.1,.int .i64 y.1.2.1,.string y.1.2.2,.slice y.2.1.1 y.2.2.length y.2.1.2]] w1 λe w'=>e=.returned (.int .i64 (bv (N+1) f))/\Below w1.heap.size w1 w'):=
      λw1 u=>q.out B.out y f w1 L.out aq.out ((k.out.2.1.below u).mono u.size)
     obtain⟨t,W⟩:∃t,t=bv (N+1) f:=⟨_,rfl⟩;rw[<-W]at S;have R:=ai W;have T:=λ(I:World)(aG:Below n.heap.size n I)(aF:t=0) Z aa ab ad=>ai (IT (E:=E) B.out L.out (R.out.symm.trans aF) p.out (g9 _ 1) r.out.2.2 k.out.1 k.out.2.1 k.out.2.2.1 aq.out aG Z aa ab ad);clear X W q k r p;go_wp2_with fail;refine(S.out _ ((ah _ _).alloc (ag _) _)).mono ?_;rintro e I ⟨rfl,V⟩;obtain⟨⟨aR,aS,aT,aU⟩,_⟩:=BS V;have Q:Hid (Below n.heap.size n I):=((ah _ _).alloc (ag _) _).trans (V.mono (by simp));have aA:=ai (K.out.below Q.out);have aC:Hid (Below w.heap.size w I):=P.out.trans (Q.out.mono P.out.size);obtain⟨⟨g,h,i,j⟩,⟨C,D,F,G⟩,z⟩:=aA.out;have aJ:¬(w.heap.size+1=n.heap.size):=by have:=K.out.2.2;omega
     have aP:¬(n.heap.size=w.heap.size+1):=λe=>aJ e.symm;clear V S K;by_cases x:t=0
     ·have aI:(t !=0)=false:=by simp[x]
      have aB:=λZ aa ab ad=>T I Q.out x Z aa ab ad;clear T x;go_wp2_with fail;exact ao (v:=.tuple #[.agg #[.int .i64 y.1.1,.int .i64 y.1.2.1,.string y.1.2.2,.slice y.2.1.1 y.2.2.length y.2.1.2],.int .i64 0]) (by simp[results,Tryz.results103,go_sem,g,h,i,j]) rfl (aB _ _ _ _).out
     ·have aI:(t !=0)=true:=by simpa using x
      have ap:=ai x;clear T x;go_wp2_with fail;exact ao (v:=.tuple #[.agg #[.int .i64 0,.int .i64 0,.string .empty,.slice none 0 0],.int .i64 7]) (by simp[results,Tryz.results103,go_sem,g,h,i,j];rfl) rfl (ny (cN aC.out (by omega) _ _ _ _) (by have u:=R.out;have H:=ap.out;rw[u]at H;simp[mj,L.out,H]) (by have u:=R.out;have H:=ap.out;rw[u]at H;simp[Cs,mj,L.out,B.out,H]))
theorem Bc(n m:Nat)(x:Tm (n+1))(b:List (Tm m))(a:Option Addr)(c B:Nat)(self:Int)(w:World)(p:In B w (n+1) x)(k:eS B w m b a)(f:B<=w.heap.size)(r:(ap (n+1) x).length<=2097152)(t:b.length<=9223372036854775807)(s:∀y∈b,(ap m y).length<=2097152):Calls Tryz.prog 103 #[de (n+1) x,.slice a b.length c,.int .i64 self] w (xu (m+n) (Ct (bv (n+1) x) (fy m b) self) (vl m b self (n+1) x) w):=by
 refine zo (m+n) _ a b.length c self x.1.1 x.1.2.1 x.1.2.2 x.2.1.1 x.2.2.length x.2.1.2 (bv (n+1) x) (fy m b) w ?_ ?_ ?_ ?_
 ·intro e d;exact dJ (n+1) x B e (p.below (d.mono f)) (au f d.size) r
 ·intro e d;exact xz m b a c B e (k.below (d.mono f)) t s (au f d.size)
 ·intro i e d;obtain⟨h,g,j⟩:=zn i;have q:=(gd g).1;rw[q];exact Ex m b self g j (n+1) x a c B e (p.below (d.mono f)) (aI.2 (bt.1 h).1) (k.below (d.mono f)) (au f d.size)
 ·intro i y A e z o u;obtain⟨h,g,j⟩:=zn i;have v:=Ew h g z;have l:=dJ (m+n+1) y e.heap.size e u (ag _) (by rw[jw _ _ _ _ o];exact v);rw[bI o]at l;exact l
theorem zu{n m b a:Nat}{x:Tm n}{y:Tm m}{x':Tm b}{c:Tm a}(e:aw n x b x'=true)(k:aw m y a c=true):aw n x m y=aw b x' a c:=by
 cases d:aw b x' a c with
 | true=>exact bJ _ _ _ _ _ _ e (bJ _ _ _ _ _ _ d (dD _ _ _ _ k))
 | false=>
  cases e2:aw n x m y with
  | false=>rfl
  | true=>
   have f:=bJ _ _ _ _ _ _ (dD _ _ _ _ e) (bJ _ _ _ _ _ _ e2 k);rw[d]at f;cases f
def mO:Option (List An)->Option (List An)->Prop
 | none,none=>True
 | some b,some c=>av dQ b c=true
 | _,_=>False
theorem sT{x y:An}(a:dQ x y=true):bD x=bD y:=by
 obtain⟨n,x⟩:=x;obtain⟨b,y⟩:=y;cases n with
 | zero=>simp[dQ,aw]at a
 | succ n=>
  cases b with
  | zero=>simp[dQ,aw]at a
  | succ b=>
   simp only[dQ,aw,aB,cr]at a;exact a.1.1.1
theorem sg{c d:Type}{f:c->d->Bool}{a:c}{b:d}(e:f a b=true):(p:List c)->(q:List d)->(i:Nat)->av f p q=true->av f (p.set i a) (q.set i b)=true
 | [],[],_,_=>by simp[av]
 | [],_::_,_,h=>by simp[av]at h
 | _::_,[],_,h=>by simp[av]at h
 | x::p,y::q,0,h=>by
  simp only[av,aB]at h;simp[av,e,h.2]
 | x::p,y::q,i+1,h=>by
  simp only[av,aB]at h;simp[av,h.1,sg e p q i h.2]
theorem As{b c:List An}{i:Nat}{t u:An}(f:av dQ b c=true)(h:dQ t u=true):mO (sI b i t) (sI c i u):=by
 have n:=cS _ _ _ f;unfold sI;cases e:b[i]? with
 | none=>
  have a:c[i]?=none:=by
   rw[List.getElem?_eq_none_iff]at e ⊢;omega
  rw[a];trivial
 | some g=>
  obtain⟨m,l⟩:=aK.1 e;have a:c[i]?=some c[i]:=az (by omega);rw[a];have j:dQ g c[i]=true:=jV _ _ _ f i _ _ e a;simp only;rw[<-sT j];by_cases d:bD g=6
  ·rw[if_pos d,if_pos d];exact sg h _ _ _ f
  ·rw[if_neg d,if_neg d];have k:dQ g t=dQ c[i] u:=zu j h;rw[<-k];cases dQ g t
   ·simp[mO]
   ·simpa [mO]using f
theorem sH{n r o s:Type}(f:n->r->List An->Option (List An))(g:o->s->List An->Option (List An))(P:n->o->Bool)(Q:r->s->Bool):(p:List n)->(q:List r)->(a:List o)->(h:List s)->(∀x∈p,∀y∈q,∀x' k b c,P x x'=true->Q y k=true->av dQ b c=true->mO (f x y b) (g x' k c))->av P p a=true->av Q q h=true->∀b c,av dQ b c=true->mO (gG f p q b) (gG g a h c)
 | [],_,a,_,_,i,_,b,c,l=>by
  cases a with
  | nil=>simpa [gG,mO]using l
  | cons _ _=>simp[av]at i
 | x::p,[],a,h,_,i,j,b,c,l=>by
  cases h with
  | nil=>cases a<;>simpa [gG,mO]using l
  | cons _ _=>simp[av]at j
 | x::p,y::q,a,h,hf,i,j,b,c,l=>by
  cases a with
  | nil=>simp[av]at i
  | cons x' a=>
   cases h with
   | nil=>simp[av]at j
   | cons k h=>
    simp only[av,aB]at i j;have e:=hf x (by simp) y (by simp) x' k b c i.1 j.1 l;simp only[gG];cases e1:f x y b with
    | none=>
     rw[e1]at e;cases m:g x' k c with
     | none=>simp[mO]
     | some _=>rw[m]at e;exact e.elim
    | some d=>
     rw[e1]at e;cases m:g x' k c with
     | none=>rw[m]at e;exact e.elim
     | some t=>
      rw[m]at e;simp only[dr];exact sH f g P Q p q a h (λx u y v=>hf x (by simp[u]) y (by simp[v])) i.2 j.2 d t e
theorem qr:(n:Nat)->(p:Tm n)->(m:Nat)->(t:Tm m)->(d:Nat)->(j:Tm d)->(a:Nat)->(k:Tm a)->(b c:List An)->aw n p d j=true->aw m t a k=true->av dQ b c=true->mO (fM n p m t b) (fM d j a k c)
 | 0,_,_,_,_,_,_,_,_,_,h,_,_=>by simp[aw]at h
 | _+1,_,_,_,0,_,_,_,_,_,h,_,_=>by simp[aw]at h
 | _+1,_,0,_,_+1,_,_,_,_,_,_,h,_=>by simp[aw]at h
 | _+1,_,_+1,_,_+1,_,0,_,_,_,_,h,_=>by simp[aw]at h
 | n+1,p,m+1,t,d+1,j,a+1,k,b,c,hp,ht,hb=>by
  have u:=hp;have l:=ht;simp only[aw,aB,cr]at hp ht;obtain⟨⟨⟨v,w⟩,A⟩,o⟩:=hp;obtain⟨⟨⟨t1,t2⟩,B⟩,t4⟩:=ht;unfold fM;rw[<-v,<-w,<-t1,<-cS _ _ _ o,<-cS _ _ _ t4];by_cases g:p.1.1=6
  ·rw[if_pos g,if_pos g];exact hb
  ·rw[if_neg g,if_neg g];by_cases f:p.1.1=5
   ·rw[if_pos f,if_pos f];exact As hb l
   ·rw[if_neg f,if_neg f];by_cases e:p.1.1=4
    ·rw[if_pos e,if_pos e];by_cases i:t.1.1=4/\p.2.2.length=t.2.2.length
     ·rw[if_pos i,if_pos i];exact sH _ _ (λx y=>aw n x d y) (λx y=>aw m x a y) p.2.2 t.2.2 j.2.2 k.2.2 (λx _ y _ x' z b c q r s=>qr n x m y d x' a z b c q r s) o t4 b c hb
     ·rw[if_neg i,if_neg i];trivial
    ·rw[if_neg e,if_neg e,<-zu u l];cases aw (n+1) p (m+1) t
     ·simp[mO]
     ·simpa [mO]using hb
theorem yk{w w':World}{g:Nat}(c:w.grownBy w' (some g)):∀b o,b<w.heap.size->b≠g->w'.cell? ⟨b,o,none⟩=w.cell? ⟨b,o,none⟩:=
 λb o d e=>World.cell?_of_block (a:=⟨b,o,none⟩) (c.block b d (by simpa using e))
theorem pt{w w':World}{row:Option Nat}(a:w.drew.grownBy w' row):w.grownBy w' row:=⟨a.os,a.tape,a.output,a.size,a.block⟩
theorem C3(p q:Nat)(a d:Option Addr)(pc h:Nat)(g c:Nat)(base:Nat)(w:World)(_hpc:p<=9223372036854775807)(_hqc:q<=9223372036854775807)(f:((p:Int)==(q:Int))=false):Calls Tryz.prog 134 #[.slice (some ⟨g,0,none⟩) 4 c,.slice a p pc,.slice d q h] w (en base g c none w):=by
 have i:((p:Int) !=(q:Int))=true:=by simpa using f
 go_enter Tryz.func134,Tryz.ntmps134;go_wp2_with fail
 go_ret
 exact⟨rfl,ia _ _,λb e=>by cases e⟩
theorem sG(a e:Option Addr)(pc i:Nat)(g c:Nat)(base:Nat)(b:List An)(w:World)(H:lB base g c b w):Calls Tryz.prog 134 #[.slice (some ⟨g,0,none⟩) 4 c,.slice a 0 pc,.slice e 0 i] w (en base g c (some b) w):=by
 have d:=ai H;clear H;go_enter Tryz.func134,Tryz.ntmps134;go_wp2_with fail
 go_loop [16] (λh=>h=.int .i64 0) (λ_=>0)
 case atStart=>rfl
 case round=>
  obtain rfl:=hrel;go_wp2_with fail
  go_ret
  exact⟨rfl,ia _ _,λj f=>by obtain rfl:=aq f;exact d.out⟩
theorem C0(n m:Nat)(ih:JD n)(p:List (Tm n))(q:List (Tm m))(len:Nat)(ab:Hid (p.length=len))(aw:Hid (q.length=len))(K po d j pc ay:Nat)(b:List An)(base g c B:Nat)(w:World)(aF:len<=9223372036854775807)(ar:K<B)(av:d<B)(aa:∀(i:Nat)(y:Tm n),p[i]?=some y->dk w K (po+i*4) n y/\In B w n y)(ad:∀(i:Nat)(y:Tm m),q[i]?=some y->dk w d (j+i*4) m y/\In B w m y)(ae:∀y∈p,aA ⟨n,y⟩)(af:∀y∈q,aA ⟨m,y⟩)(V:Hid (zV B w b))(U:B<=base)(H:Hid (lB base g c b w)):Calls Tryz.prog 134 #[.slice (some ⟨g,0,none⟩) 4 c,.slice (some ⟨K,po,none⟩) len pc,.slice (some ⟨d,j,none⟩) len ay] w (en base g c (gG (λx y b=>fM n x m y b) p q b) w):=by
 have W:B<=g:=au U H.out.lt.1;have X:g<w.heap.size:=H.out.lt.2;go_enter Tryz.func134,Tryz.ntmps134;go_wp2_with fail;go_loopw [16] (λi wr=>∃k:Nat,k<=len/\i=.int .i64 k/\Hid (w.grownBy wr (some g)/\∃a,lB base g c a wr/\zV B wr a/\gG (λx y b=>fM n x m y b) (p.drop k) (q.drop k) a=gG (λx y b=>fM n x m y b) p q b)) (λi _=>len-(intOf i).toNat)
 case atStart=>exact⟨0,by omega,rfl,ia _ _,b,H.out,V.out,rfl⟩
 case round=>
  obtain⟨k,aC,rfl,v⟩:=hrel;by_cases Z:k<len
  ·obtain⟨x,E⟩:∃x,p[k]?=some x:=⟨p[k]'(by rw[ab.out];exact Z),az _⟩;obtain⟨y,I⟩:∃y,q[k]?=some y:=⟨q[k]'(by rw[aw.out];exact Z),az _⟩;obtain⟨l,a,L,u,t⟩:Hid (w.grownBy wr (some g))/\∃a,Hid (lB base g c a wr)/\Hid (zV B wr a)/\Hid (gG (λx y b=>fM n x m y b) (p.drop k) (q.drop k) a=gG (λx y b=>fM n x m y b) p q b):=v.out;clear v;obtain⟨F,G⟩:=aa k x E;obtain⟨J,r⟩:=ad k y I;have z:=ai (C4 (λx y b=>fM n x m y b) p q k x y E I a);have T:=ai (ae x (ax E));have N:=ai (af y (ax I));have o:=mD l.out W X;replace F:=F.below o ar;replace J:=J.below o av;replace G:=G.below o;replace r:=r.below o;have aB:g<wr.heap.size:=aM X l.out.size;have D:B<=wr.heap.size:=by omega
   clear aa ad E I ae af V H o;cases n with
   | zero=>exact F.elim
   | succ n=>
   cases m with
   | zero=>exact J.elim
   | succ m=>
   obtain⟨aL,aN,aO,aP⟩:=F;obtain⟨y0,y1,y2,aQ⟩:=J
   have Q:Hid (∀(h:World),Below wr.heap.size wr h->Calls Tryz.prog 123 #[.slice (some ⟨g,0,none⟩) 4 c,.agg #[.int .i64 x.1.1,.int .i64 x.1.2.1,.string x.1.2.2,.slice x.2.1.1 x.2.2.length x.2.1.2],.agg #[.int .i64 y.1.1,.int .i64 y.1.2.1,.string y.1.2.2,.slice y.2.1.1 y.2.2.length y.2.1.2]] h (en base g c (fM (n+1) x (m+1) y a) h)):=
    λh C=>ih x (m+1) y a base g c B h (G.below (C.mono D)) (r.below (C.mono D)) T.out N.out (u.out.below (C.mono D)) U (L.out.below C)
   have M:Hid (∀s e,fM (n+1) x (m+1) y a=s->s=some e->zV B wr e):=λs e an ao=>u.out.fit r N.out (an.trans ao);clear ih G r T N u;replace z:Hid (gG (λx y b=>fM (n+1) x (m+1) y b) (p.drop k) (q.drop k) a=(fM (n+1) x (m+1) y a).bind (gG (λx y b=>fM (n+1) x (m+1) y b) (p.drop (k+1)) (q.drop (k+1)))):=z;generalize fM (n+1) x (m+1) y a=s at*;generalize x.2.2.length=aj at*;generalize y.2.2.length=yl at*;have aD:(0:Int)<=(k:Int):=by omega
   have aE:(k:Int)<(len:Int):=by omega
   have aG:K<wr.heap.size:=by omega
   have aI:d<wr.heap.size:=by omega
   have aJ:d<wr.heap.size+1:=by omega
   have aH:d≠g:=by omega
   have aK:wr.heap.size≠g:=by omega
   have ak:=ai (Q.out (wr.alloc (.cells #[.int .i64 x.1.1,.int .i64 x.1.2.1,.string x.1.2.2,.slice x.2.1.1 aj x.2.1.2] 30)).drew (((ah _ _).alloc (ag _) _).drew));clear Q;go_wp2_with fail
   go_region_held3 (λf=>f.cell? ⟨wr.heap.size,0,none⟩=some (.int .i64 x.1.1)/\f.cell? ⟨wr.heap.size,1,none⟩=some (.int .i64 x.1.2.1)/\f.cell? ⟨wr.heap.size,2,none⟩=some (.string x.1.2.2)/\f.cell? ⟨wr.heap.size,3,none⟩=some (.slice x.2.1.1 aj x.2.1.2)
       /\f.cell? ⟨d,j+k*4,none⟩=some (.int .i64 y.1.1)/\f.cell? ⟨d,j+k*4+1,none⟩=some (.int .i64 y.1.2.1)/\f.cell? ⟨d,j+k*4+2,none⟩=some (.string y.1.2.2)/\f.cell? ⟨d,j+k*4+3,none⟩=some (.slice y.2.1.1 yl y.2.1.2))
    (go_keep) ((go_at_call 123;refine ak.out.mono ?_;rintro A h ⟨rfl,O,Y⟩;have ap:=yk (pt O);have R:=ai (pt O);have al:=ai Y;clear O Y))
   have S:Hid (w.grownBy h (some g)):=ko l.out (ko (dj wr _ _) R.out);clear ap;cases s with
   | some e=>
    have am:Hid (zV B h e):=(M.out _ e rfl rfl).below ((((ah _ _).alloc (ag _) _).mono D).trans (mD R.out W (by simp;omega)));clear M;simp only[jF];go_wp2_with fail;go_roundw
    case rel=>exact⟨k+1,by omega,by go_num,S.out,e,al.out e rfl,am.out,by rw[<-t.out,z.out];rfl⟩
    case measure=>simp[intOf];omega
   | none=>
    clear M;simp only[lq];go_wp2_with fail
    go_ret
    have P:gG (λx y b=>fM (n+1) x (m+1) y b) p q b=none:=by rw[<-t.out,z.out];rfl
    rw[P];exact⟨rfl,S.out,λa A=>by cases A⟩
  ·obtain⟨l,a,L,u,t⟩:Hid (w.grownBy wr (some g))/\∃a,Hid (lB base g c a wr)/\Hid (zV B wr a)/\Hid (gG (λx y b=>fM n x m y b) (p.drop k) (q.drop k) a=gG (λx y b=>fM n x m y b) p q b):=v.out;clear v;go_wp2_with fail
   go_ret
   have P:gG (λx y b=>fM n x m y b) p q b=some a:=by rw[<-t.out,fC (by rw[ab.out];omega)];rfl
   rw[P];exact⟨rfl,l.out,λe A=>by obtain rfl:=aq A;exact L.out⟩
theorem Ar(n m:Nat)(ih:JD n)(p:List (Tm n))(q:List (Tm m))(a e:Option Addr)(pc j:Nat)(b:List An)(base g c B:Nat)(w:World)(f:p=[]\/∃b o,a=some ⟨b,o,none⟩/\b<B/\∀(i:Nat)(y:Tm n),p[i]?=some y->dk w b (o+i*4) n y/\In B w n y)(h:q=[]\/∃b o,e=some ⟨b,o,none⟩/\b<B/\∀(i:Nat)(y:Tm m),q[i]?=some y->dk w b (o+i*4) m y/\In B w m y)(u:p.length<=9223372036854775807)(A:q.length<=9223372036854775807)(C:∀y∈p,aA ⟨n,y⟩)(D:∀y∈q,aA ⟨m,y⟩)(r:zV B w b)(l:B<=base)(H:lB base g c b w):Calls Tryz.prog 134 #[.slice (some ⟨g,0,none⟩) 4 c,.slice a p.length pc,.slice e q.length j] w (en base g c (if p.length=q.length then gG (λx y b=>fM n x m y b) p q b else none) w):=by
 by_cases d:p.length=q.length
 ·rw[if_pos d];rcases f with f|⟨E,po,rfl,t,f⟩
  ·subst f;have v:q=[]:=bL d.symm;subst v;exact sG a e pc j g c base b w H
  ·rcases h with h|⟨F,G,rfl,z,h⟩
   ·subst h;have s:p=[]:=bL d;subst s;exact sG _ e pc j g c base b w H
   ·have k:=C0 n m ih p q p.length rfl d.symm E po F G pc j b base g c B w (by omega) t z f h C D r l H;rw[<-d];exact k
 ·rw[if_neg d];exact C3 p.length q.length a e pc j g c base w u A (by simp;omega)
theorem en.from{base g c:Nat}{o:Option (List An)}{w w1:World}(a:w.grownBy w1 (some g)){e:Ending}{w2:World}(k:en base g c o w1 e w2):en base g c o w e w2:=
 ⟨k.1,ko a k.2.1,k.2.2⟩
theorem C6(k u j F:Int)(s D:ByteArray)(a t:Option Addr)(l v pc x:Nat)(base g c:Nat)(b:List An)(o p:Option (List An))(E:Bool)(w:World)(I:Hid (lB base g c b w))(q:Hid (k=5->∀w1,Below w.heap.size w w1->Calls Tryz.prog 133 #[.slice (some ⟨g,0,none⟩) 4 c,.int .i64 u,.agg #[.int .i64 j,.int .i64 F,.string D,.slice t v x]] w1 (en base g c o w1)))(H:Hid (∀w1,Below w.heap.size w w1->Calls Tryz.prog 134 #[.slice (some ⟨g,0,none⟩) 4 c,.slice a l pc,.slice t v x] w1 (en base g c p w1)))(N:Hid (∀w1,Below w.heap.size w w1->Calls Tryz.prog 135 #[.agg #[.int .i64 k,.int .i64 u,.string s,.slice a l pc],.agg #[.int .i64 j,.int .i64 F,.string D,.slice t v x]] w1 λe w'=>∃r,e=.returned (.int .i64 r)/\Hid ((r==0)=E)/\Below w1.heap.size w1 w')):Calls Tryz.prog 123 #[.slice (some ⟨g,0,none⟩) 4 c,.agg #[.int .i64 k,.int .i64 u,.string s,.slice a l pc],.agg #[.int .i64 j,.int .i64 F,.string D,.slice t v x]] w (en base g c (if k=6 then some b else if k=5 then o else if k=4 then (if j=4 then p else none)else if E then some b else none) w):=by
 have L:∀o p,Below w.heap.size w ((w.alloc o).alloc p):=λo p=>((ah _ _).alloc (ag _) _).alloc (by simp) _;have f:=ai L;clear L;by_cases i:k=6
 ·rw[if_pos i];subst i;go_enter Tryz.func123,Tryz.ntmps123;go_wp2_with fail
  go_ret
  exact⟨rfl,cu (f.out _ _) _,λB e=>by obtain rfl:=aq e;exact I.out.below (f.out _ _)⟩
 rw[if_neg i];have S:(k==6)=false:=by simpa using i
 by_cases d:k=5
 ·rw[if_pos d];have O:=ai (q.out d);have R:(k==5)=true:=by simpa using d
  clear d i q;go_enter Tryz.func123,Tryz.ntmps123;go_wp2_with fail;refine(O.out _ (f.out _ _)).mono ?_;rintro e w1 n;have y:=ai (en.from (cu (f.out _ _) _) n);obtain⟨rfl,_,_⟩:=n;go_wp2_with fail
  go_ret
  exact y.out
 rw[if_neg d];have R:(k==5)=false:=by simpa using d
 by_cases h:k=4
 ·rw[if_pos h];have P:(k==4)=true:=by simpa using h
  clear d i q;by_cases m:j=4
  ·rw[if_pos m];have Q:(j==4)=true:=by simpa using m
   clear h m;go_enter Tryz.func123,Tryz.ntmps123;go_wp2_with fail;refine(H.out _ (f.out _ _)).mono ?_;rintro e w1 n;have y:=ai (en.from (cu (f.out _ _) _) n);obtain⟨rfl,_,_⟩:=n;go_wp2_with fail
   all_goals go_ret
   all_goals exact y.out
  ·rw[if_neg m];have Q:(j==4)=false:=by simpa using m
   clear h m;go_enter Tryz.func123,Tryz.ntmps123;go_wp2_with fail
   go_ret
   exact⟨rfl,cu (f.out _ _) _,λB e=>by cases e⟩
 rw[if_neg h];have P:(k==4)=false:=by simpa using h
 clear h d i q H;obtain⟨M,C⟩:∃M,M=if E then some b else none:=⟨_,rfl⟩
 rw[<-C];have G:=ai C;clear C;go_enter Tryz.func123,Tryz.ntmps123;go_wp2_with fail;refine(N.out _ (f.out _ _)).mono ?_;rintro e w1 ⟨r,rfl,J,K⟩;have A:Hid (Below w.heap.size w w1):=(f.out _ _).trans (K.mono (f.out _ _).size);have z:=ai G.out;rw[Hid,<-J.out]at z;clear K J G;cases h0:r==0
 ·go_wp2_with fail
  go_ret
  have d:=z;rw[h0]at d;simp only[nB,if_false]at d;subst d;exact⟨rfl,cu A.out _,λB e=>by cases e⟩
 ·go_wp2_with fail
  go_ret
  have d:=z;rw[h0]at d;simp only[cR]at d;subst d;exact⟨rfl,cu A.out _,λB e=>by obtain rfl:=aq e;exact I.out.below A.out⟩
theorem JV(n:Nat)(p:Tm (n+1))(m:Nat)(t:Tm (m+1))(b:List An):fM (n+1) p (m+1) t b=if p.1.1=6 then some b else if p.1.1=5 then sI b p.1.2.1.toNat ⟨m+1,t⟩else if p.1.1=4 then (if t.1.1=4 then (if p.2.2.length=t.2.2.length then gG (λx y b=>fM n x m y b) p.2.2 t.2.2 b else none)else none)else if aw (n+1) p (m+1) t then some b else none:=by
 simp only[fM];by_cases a:t.1.1=4<;>by_cases c:p.2.2.length=t.2.2.length<;>simp[a,c]
theorem Kp(n:Nat)(p:Tm (n+1))(d:aA ⟨n+1,p⟩)(e:p.1.1=5):∃k:Nat,k<4/\p.1.2.1=k:=by
 have a:=d (bm n p) (by simp[ap,bm]);have b:(bm n p).1.1=5:=e;have c:(bm n p).1.2.1=p.1.2.1:=rfl;simp[bQ,b,kC]at a;rw[c]at a;exact⟨p.1.2.1.toNat,by omega,by omega⟩
theorem Fm(n:Nat):JD n:=by
 induction n with
 | zero=>intro e j t b s u c l y d;exact d.elim
 | succ n ih=>
  intro e j t b s u c l y d v w x i z r;cases j with
  | zero=>exact v.elim
  | succ j=>
  have f:l<=y.heap.size:=by have:=r.lt;omega
  have C:=d;have H:=v;obtain⟨⟨_,_,_,I,D⟩,E⟩:=C;obtain⟨⟨_,_,_,J,F⟩,G⟩:=H;unfold maxLen at D F;rw[JV];refine C6 e.1.1 e.1.2.1 t.1.1 t.1.2.1 e.1.2.2 t.1.2.2 e.2.1.1 t.2.1.1 e.2.2.length t.2.2.length e.2.1.2 t.2.1.2 s u c b _ _ _ y r ?_ ?_ ?_
  ·intro A q a;obtain⟨k,B,m⟩:=Kp n e w A;rw[m];exact Ft b s u c l q k B j t (i.below (a.mono f)) (v.below (a.mono f)) x z (r.below a)
  ·intro q a;refine Ar n j ih e.2.2 t.2.2 e.2.1.1 t.2.1.1 e.2.1.2 t.2.1.2 b s u c l q ?_ ?_ (by omega) (by omega) (λh g=>aU n e h w g) (λh g=>aU j t h x g) (i.below (a.mono f)) z (r.below a)
   ·rcases E with d|⟨b,o,m,i,d⟩
    ·exact ae d
    ·exact af ⟨b,o,m,i,λp h g=>⟨(d p h g).1.below (a.mono f) i,(d p h g).2.below (a.mono f)⟩⟩
   ·rcases G with d|⟨b,o,m,i,d⟩
    ·exact ae d
    ·exact af ⟨b,o,m,i,λp h g=>⟨(d p h g).1.below (a.mono f) i,(d p h g).2.below (a.mono f)⟩⟩
  ·intro q a;exact yS ⟨n+1,e⟩ ⟨j+1,t⟩ l q (d.below (a.mono f)) (v.below (a.mono f)) (au f a.size) w x
def mi(n:Nat)(q:List (Tm n)):List An:=q.map λx=>⟨n,x⟩
theorem lF(n:Nat)(q:List (Tm n)):(mi n q).length=q.length:=by simp[mi]
theorem AB{n:Nat}{q:List (Tm n)}{w:World}{e po:Nat}(p:∀(i:Nat)(y:Tm n),q[i]?=some y->dk w e (po+i*4) n y):∀j u,(fo (mi n q))[j]?=some u->w.cell? ((⟨e,po,none⟩:Addr).add j)=some u:=by
 intro j u a;have c:=jK (mi n q);have r:j<q.length*4:=by
  rw[lF]at c;rw[<-c];exact(aK.1 a).1
 obtain⟨k,i,o,rfl⟩:∃k i,i<4/\j=k*4+i:=⟨j / 4,j % 4,Nat.mod_lt _ (by decide),by omega⟩;obtain⟨y,d⟩:∃y,q[k]?=some y:=⟨q[k]'(by omega),az _⟩;have f:(fo (mi n q))[k*4+i]?=(uQ (rd ⟨n,y⟩))[i]? :=gQ _ k (rd ⟨n,y⟩) (by simp[mi,d]) i o;rw[f]at a;have b:=p k y d;cases n with
 | zero=>exact b.elim
 | succ n=>
 obtain⟨g,h,l,m⟩:=b;rw[ez,<-Nat.add_assoc];have:i=0\/i=1\/i=2\/i=3:=by omega
 rcases this with rfl|rfl|rfl|rfl
 all_goals simp[uQ,rd,ib,bm]at a;subst a
 ·exact g
 ·exact h
 ·exact l
 ·exact m
theorem Ak(n:Nat)(q:List (Tm n))(len l po pc:Nat)(w:World)(p:Hid (q.length=len))(F:0<len)(G:len<=1048576)(y:Hid (∀w1,Below w.heap.size w w1->∀j u,(fo (mi n q))[j]?=some u->w1.cell? ((⟨l,po,none⟩:Addr).add j)=some u)):Calls Tryz.prog 122 #[.slice (some ⟨l,po,none⟩) len pc] w λe w'=>∃g c,e=.returned (.slice (some ⟨g,0,none⟩) len c)/\Hid (Below w.heap.size w w'/\lB w.heap.size g c (mi n q) w'):=by
 obtain⟨C,o,r,s,t⟩:=bN gg;have a:=ai (⟨o,r,s,t⟩:_/\_/\_/\_);clear o r s t;have I:∀(w:World)(b:Option Addr)(n c i f:Nat),(binOp .eql 28 (.slice b n c) (.slice none i f)).run Tryz.prog w=.ok (.bool b.isNone) w:=λw b n c i f=>Lib.run_eql_slice_nil w _ _ b n c i f Tryz.underlying28;go_enter Tryz.func122,Tryz.ntmps122;go_wp2_with (at_builtin;refine wpList_append_own _ rfl _ _ 28 rfl w.heap.size 30 C _ 4 56 Tryz.underlying28 a.out.1 a.out.2.1 a.out.2.2.1 a.out.2.2.2 rfl (by decide) _ _ _ rfl (World.ownsRow_made w #[] 0 (ag _) (aD _) (by simp)) ⟨l,po,none⟩ len pc (fo (mi n q)) rfl ?qc1 ?qc2 ?qc3 ?qc4 ?qc5 ?qc6 ?_)
 case qc1=>rw[jK,lF,p.out]
 case qc2=>exact y.out _ ((ah _ _).alloc (ag _) _)
 case qc3=>exact xw _
 case qc4=>unfold maxLen;omega
 case qc5=>omega
 case qc6=>simp
 intro D w1 h m B;have v:Hid (∃g c,D=.slice (some ⟨g,0,none⟩) len c/\Below w.heap.size w w1/\lB w.heap.size g c (mi n q) w1):=by
  have z:Below w.heap.size w w1:=Below.grown ((ah _ _).alloc (ag _) _) m (by simp) (by intro k A;simp[Value.ownBlock]at A;omega);have d:=h;obtain⟨_,d⟩:=d;rcases d with⟨_,d⟩|⟨g,cap,E,rfl,H,_⟩
  ·omega
  ·refine⟨g,cap,rfl,z,?_⟩;unfold lB;rw[lF,p.out];exact h
 clear h m B;obtain⟨g,c,rfl,x⟩:=v.out;go_wp2_with fail
 go_ret
 exact⟨g,c,rfl,x⟩
end Go.Proofs.YtmbjgiaebneodaaGreat
