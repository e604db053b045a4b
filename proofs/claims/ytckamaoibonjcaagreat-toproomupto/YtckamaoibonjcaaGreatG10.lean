/- What is proved here: plain facts and contracts that the claimed theorem stands on. No condition but those that each names. -/
import Derived.Test.YtckamaoibonjcaaGreatG09
import Derived.Lib.SliceRun
namespace Go.Proofs.YtckamaoibonjcaaGreat
open Go.RowKit
set_option maxHeartbeats 1000000
set_option maxRecDepth 100000
theorem gQ(w:World)(s0 s1 b c d e:Value)(t1 t2 a:TypeId):ag w (((w.alloc (.cells #[s0,s1] t1)).alloc (.cells #[b,c,d,e] t2)).alloc (.cells #[.int .i64 0,.int .i64 0,.string .empty,.slice none 0 0] a))/\ mV (w.heap.size+1+1) (((w.alloc (.cells #[s0,s1] t1)).alloc (.cells #[b,c,d,e] t2)).alloc (.cells #[.int .i64 0,.int .i64 0,.string .empty,.slice none 0 0] a)):=by
 refine⟨(((ak _ _).alloc (ai _) _).alloc (by simp) _).alloc (by simp;omega) _,⟨?_,?_,?_,?_⟩,⟨?_,?_,?_,?_⟩,?_⟩<;>simp[go_sem]
theorem Ky{w W:World}{s0 s1 e f g h y0 y1 y2 a:Value}{t1 t2 c d:TypeId}(b:(((w.alloc (.cells #[s0,s1] t1)).alloc (.cells #[e,f,g,h] t2)).alloc (.cells #[.int .i64 0,.int .i64 0,.string .empty,.slice none 0 0] c)).alloc (.cells #[y0,y1,y2,a] d)=W):ag w W/\mV (w.heap.size+1+1) W/\ (W.cell? ⟨w.heap.size+1+1+1,0,none⟩=some y0/\W.cell? ⟨w.heap.size+1+1+1,1,none⟩=some y1/\W.cell? ⟨w.heap.size+1+1+1,2,none⟩=some y2/\W.cell? ⟨w.heap.size+1+1+1,3,none⟩=some a)/\w.heap.size+1+1+1<W.heap.size:=by
 subst b;refine⟨mB _ _ _ _ _,⟨⟨?_,?_,?_,?_⟩,⟨?_,?_,?_,?_⟩,?_⟩,⟨?_,?_,?_,?_⟩,?_⟩<;>simp[go_sem]
theorem NC(N:Nat)(o:Option (Tm (N+1)))(a:Option Addr)(d:Int)(e:ByteArray)(xa:Option Addr)(f xc:Nat)(c:Nat)(self:Int)(w:World)(b:Hid (o=none)):ah 164 #[.agg #[.slice a 4 c,.int .i64 self],.agg #[.int .i64 6,.int .i64 d,.string e,.slice xa f xc]] w (jA (N+1) o w):=by
 go_enter Tryz.func164,Tryz.ntmps164;go_wp2_with fail;rw[b.out];exact ap (v:=.tuple #[.agg #[.int .i64 0,.int .i64 0,.string .empty,.slice none 0 0],.bool false]) (by simp[results,Tryz.results164,go_sem];rfl) rfl (jU (gQ w _ _ _ _ _ _ _ _ _).1)
theorem ND(N:Nat)(o:Option (Tm (N+1)))(a:Option Addr)(p:Int)(q:ByteArray)(xa:Option Addr)(g xc:Nat)(c:Nat)(self:Int)(w:World)(e:Hid (∀w1,ag w w1->ah 175 #[.agg #[.slice a 4 c,.int .i64 self],.slice xa g xc] w1 (jA (N+1) o w1))):ah 164 #[.agg #[.slice a 4 c,.int .i64 self],.agg #[.int .i64 4,.int .i64 p,.string q,.slice xa g xc]] w (jA (N+1) o w):=by
 go_enter Tryz.func164,Tryz.ntmps164;go_wp2_with fail;refine(e.out _ (gQ w _ _ _ _ _ _ _ _ _).1).mono ?_;rintro x D ⟨b,j,rfl,d⟩;have h:=aj ((gQ w _ _ _ _ _ _ _ _ _).2.below d.out.1);have i:=λk l m n=>aj (uU (gQ w _ _ _ _ _ _ _ _ _).1 (jh w.heap.size 2) (gQ w _ _ _ _ _ _ _ _ _).2.2.2 d.out k l m n);obtain⟨⟨r,s,t,u⟩,⟨y,z,A,B⟩,C⟩:=h.out;have f:dd (N+1) b=.agg #[.int .i64 b.1.1,.int .i64 b.1.2.1,.string b.1.2.2,.slice b.2.1.1 b.2.2.length b.2.1.2]:=rfl;rw[f];clear d e f;go_wp2_with fail;exact ap (v:=.tuple #[.agg #[.int .i64 b.1.1,.int .i64 b.1.2.1,.string b.1.2.2,.slice b.2.1.1 b.2.2.length b.2.1.2],.bool j]) (by simp[results,Tryz.results164,go_sem,r,s,t,u]) rfl (i _ _ _ _).out
theorem MS(N:Nat)(o:Option (Tm (N+1)))(a:Option Addr)(b:Int)(h:Int)(i:ByteArray)(xa:Option Addr)(j xc:Nat)(n:Nat)(r:n<=N)(x:Tm (n+1))(c:Nat)(self:Int)(w:World)(I:¬b=4)(J:¬b=5)(K:¬b=6)(m:Hid (av ⟨n+1,x⟩))(f:Hid (∀w1,ag w w1->ah 54 #[.agg #[.int .i64 b,.int .i64 h,.string i,.slice xa j xc]] w1 λe w'=>∃y:Tm (n+1),e=.returned (dd (n+1) y)/\Hid (ag w1 w'/\In w'.heap.size w' (n+1) y/\bV (λq=>w1.heap.size<=q) (n+1) y/\au (n+1) y (n+1) x=true)))(l:Hid (o=some (aK (N+1) (n+1) x))):ah 164 #[.agg #[.slice a 4 c,.int .i64 self],.agg #[.int .i64 b,.int .i64 h,.string i,.slice xa j xc]] w (jA (N+1) o w):=by
 go_enter Tryz.func164,Tryz.ntmps164;go_wp2_with fail;refine(f.out _ (gQ w _ _ _ _ _ _ _ _ _).1).mono ?_;rintro e M ⟨y,rfl,d⟩;have k:=aj ((gQ w _ _ _ _ _ _ _ _ _).2.below d.out.1);have p:=λs t u z=>aj (uV r m.out (gQ w _ _ _ _ _ _ _ _ _).1 (jh w.heap.size 2) (gQ w _ _ _ _ _ _ _ _ _).2.2.2 d.out (ak _ _) true s t u z);obtain⟨⟨A,B,C,D⟩,⟨E,F,G,H⟩,L⟩:=k.out;have g:dd (n+1) y=.agg #[.int .i64 y.1.1,.int .i64 y.1.2.1,.string y.1.2.2,.slice y.2.1.1 y.2.2.length y.2.1.2]:=rfl;rw[g];clear d f g;go_wp2_with fail;rw[l.out];exact ap (v:=.tuple #[.agg #[.int .i64 y.1.1,.int .i64 y.1.2.1,.string y.1.2.2,.slice y.2.1.1 y.2.2.length y.2.1.2],.bool true]) (by simp[results,Tryz.results164,go_sem,A,B,C,D]) rfl (p _ _ _ _).out
theorem NE(N:Nat)(o:Option (Tm (N+1)))(b bo:Nat)(k:Nat)(l:Int)(M:ByteArray)(xa:Option Addr)(Q xc:Nat)(n:Nat)(E:n<=N)(x:Tm (n+1))(c:Nat)(self:Int)(w:World)(A:l=(k:Int))(ao:k<4)(an:b<w.heap.size)(F:dy w b (bo+k*4) (n+1) x)(t:Hid (av ⟨n+1,x⟩))(s:Hid (∀w1,ag w w1->ah 54 #[.agg #[.int .i64 x.1.1,.int .i64 x.1.2.1,.string x.1.2.2,.slice x.2.1.1 x.2.2.length x.2.1.2]] w1 λe w'=>∃y:Tm (n+1),e=.returned (dd (n+1) y)/\Hid (ag w1 w'/\In w'.heap.size w' (n+1) y/\bV (λq=>w1.heap.size<=q) (n+1) y/\au (n+1) y (n+1) x=true)))(p:Hid (∀w1,ah 170 #[.agg #[.int .i64 x.1.1,.int .i64 x.1.2.1,.string x.1.2.2,.slice x.2.1.1 x.2.2.length x.2.1.2]] w1 λe w'=>e=.returned (.bool (!(x.1.1==6)))/\ag w1 w'))(r:Hid (o=if (!(x.1.1==6))=true then some (aK (N+1) (n+1) x)else none)):ah 164 #[.agg #[.slice (some ⟨b,bo,none⟩) 4 c,.int .i64 self],.agg #[.int .i64 5,.int .i64 l,.string M,.slice xa Q xc]] w (jA (N+1) o w):=by
 go_enter Tryz.func164,Tryz.ntmps164;obtain⟨K,L,O,P⟩:=F;subst A;generalize x.2.2.length=R at*;generalize (!(x.1.1==6))=cl at*;have aq:(0:Int)<=(k:Int):=by omega
 have ar:(k:Int)<4:=by omega
 have ak:b<w.heap.size+1:=by omega
 have al:b<w.heap.size+1+1:=by omega
 go_wp2_with fail;generalize i:World.alloc (World.alloc (World.alloc (World.alloc w _) _) _) _=X;obtain⟨g,h,⟨Y,Z,aa,ab⟩,B⟩:=Ky i;have HB:=aj g;have f:=aj h;clear i g h K L O P;have z:∀y:Tm (n+1),dd (n+1) y=.agg #[.int .i64 y.1.1,.int .i64 y.1.2.1,.string y.1.2.2,.slice y.2.1.1 y.2.2.length y.2.1.2]:=λ_=>rfl
 go_region_held3 (λw'=>w'.cell? ⟨w.heap.size+1+1+1,0,none⟩=some (.int .i64 x.1.1)/\w'.cell? ⟨w.heap.size+1+1+1,1,none⟩=some (.int .i64 x.1.2.1)/\w'.cell? ⟨w.heap.size+1+1+1,2,none⟩=some (.string x.1.2.2)/\w'.cell? ⟨w.heap.size+1+1+1,3,none⟩=some (.slice x.2.1.1 R x.2.1.2))
  (go_keep) ((first|(go_at_call 54;refine(s.out _ HB.out.drew).mono ?_;rintro e j ⟨y,rfl,a⟩;rw[z];have C:=am (cB a.out.1);have W:Hid (ag w j):=(HB.out.drew).trans (a.out.1.mono HB.out.size);have aw:w.heap.size+1+1+1<j.heap.size:=aJ B a.out.1.size)|(go_at_call 170;refine(p.out _).mono ?_;rintro e ay ⟨rfl,d⟩;have D:=am d;have m:=aj ((f.out.below (cB a.out.1)).below d);obtain⟨⟨S,T,U,V⟩,⟨ad,ae,af,ai⟩,ax⟩:=m.out)))
 have u:=λG H I J=>aj (uV E t.out HB.out.drew (jh w.heap.size 2) f.out.2.2 a.out d cl G H I J);clear a C D d;go_wp2_with fail;rw[r.out];exact ap (v:=.tuple #[.agg #[.int .i64 y.1.1,.int .i64 y.1.2.1,.string y.1.2.2,.slice y.2.1.1 y.2.2.length y.2.1.2],.bool cl]) (by simp[results,Tryz.results164,go_sem,S,T,U,V]) rfl (u _ _ _ _).out
def vx(m n:Nat)(self:Int)(f:Tm n->Option (Tm (m+n)))(p:List (Tm n)):Option (Tm (m+n+1)):=
 if sY n p oZ 0 then some (bF 3 self (m+n))
 else if sY n p uW 2 then (p[1]?).bind λa=>(p[2]?).bind λc=>(f a).bind λa=>(f c).bind λc=>sQ (m+n) a c
 else if sY n p Bt 1 then (p[1]?).bind λa=>if aF n a then some (aK (m+n+1) n a)else none
 else (cw f p).map (cR (m+n))
theorem JH(m:Nat)(b:List (Tm m))(self:Int)(n:Nat)(x:Tm (n+1))(a:x.1.1=4):vl m b self (n+1) x=vx m n self (λy=>vl m b self n y) x.2.2:=by simp[vl,a,vx]
theorem JG(m:Nat)(b:List (Tm m))(self:Int)(n:Nat)(x:Tm (n+1))(a:x.1.1=6):vl m b self (n+1) x=none:=by simp[vl,a]
theorem Es(m:Nat)(b:List (Tm m))(self:Int)(n:Nat)(x:Tm (n+1))(a:x.1.1≠4)(c:x.1.1≠5)(d:x.1.1≠6):vl m b self (n+1) x=some (aK (m+n+1) (n+1) x):=by simp[vl,a,c,d]
theorem MV(m:Nat)(b:List (Tm m))(self:Int)(n:Nat)(x:Tm (n+1))(y:Tm m)(k:Nat)(a:x.1.1=5)(c:x.1.2.1=(k:Int))(d:b[k]?=some y):vl m b self (n+1) x=if bK ⟨m,y⟩=6 then none else some (aK (m+n+1) m y):=by
 simp[vl,a,c,d]
theorem Ag{n:Nat}{p:List (Tm n)}{s:ByteArray}{k:Nat}(a:sY n p s k=true):p.length=1+k:=by
 by_cases b:p.length=1+k
 ·exact b
 ·rw[D5 b]at a;cases a
theorem Iy{N:Nat}{o:Option (Tm N)}(d:∀a,o=some a->av ⟨N,a⟩):Na o:=by
 intro a g e;have c:=d a g;cases N with
 | zero=>exact(cY c).elim
 | succ N=>
  have b:=c (bu N a) (by simp[ar,bu]);have f:a.1.1=1:=e;simp only[cm,bu,f,pT,ay,cH]at b;exact⟨fD b.1.2.1,fD b.1.2.2⟩
theorem Dt(m:Nat)(b:List (Tm m))(self:Int)(O:fO m b=true)(N:1<=self/\self<=99)(n:Nat)(ih:L5 m b self n)(p:List (Tm n))(pa:Option Addr)(pc:Nat)(a:Option Addr)(c B:Nat)(w:World)(L:p.length<=8)(g:fe B w n p pa)(v:∀y∈p,av ⟨n,y⟩)(C:fe B w m b a)(f:B<=w.heap.size):ah 175 #[.agg #[.slice a 4 c,.int .i64 self],.slice pa p.length pc] w (jA (m+n+1) (vx m n self (λy=>vl m b self n y) p) w):=by
 have D:=λW k (Q:k<=8) h (e:ag w h)=>Cp n p pa pc B W k h (g.below (e.mono f)) L Q;have j:=D oZ 0 (by omega);have o:=D uW 2 (by omega);have r:=D Bt 1 (by omega);have K:∀y∈b,av ⟨m,y⟩:=λy i=>((gK O).2 y i).2.1;cases e1:sY n p oZ 0
 ·rw[e1]at j;cases e2:sY n p uW 2
  ·rw[e2]at o;cases e3:sY n p Bt 1
   ·rw[e3]at r;refine Lr (m+n) _ a c self pa p.length pc w j o r ?_;intro h e;have P:=Bm m b self n ih p p.length rfl pa pc a c B h L (g.below (e.mono f)) v (C.below (e.mono f)) (aw f e.size);simpa [vx,e1,e2,e3]using P
   ·rw[e3]at r;have s:=Ag e3;rcases g with g|⟨G,po,rfl,R,g⟩
    ·rw[g]at s;simp at s
    ·obtain⟨y,i⟩:∃y,p[1]?=some y:=⟨p[1]'(by omega),aD _⟩;obtain⟨u,x⟩:=g 1 y i;have t:=v y (aC i);have z:vx m n self (λy=>vl m b self n y) p=if aF n y=true then some (aK (m+n+1) n y)else none:=by simp[vx,e1,e2,e3,i]
     rw[z];cases n with
     | zero=>exact u.elim
     | succ n=>
     rw[show p.length=2 by omega]at j o r ⊢;refine MX (m+(n+1)) _ a c self G po n (by omega) y (aF (n+1) y) pc w j o r (by omega) (by simpa using u) t ?_ ?_ rfl
     ·intro h e;exact gM (n+1) y B h (x.below (e.mono f)) (aw f e.size) t
     ·intro h e;exact ie (n+1) y B h (x.below (e.mono f)) (aw f e.size)
  ·rw[e2]at o;have s:=Ag e2;rcases g with g|⟨G,po,rfl,R,g⟩
   ·rw[g]at s;simp at s
   ·obtain⟨d,E⟩:∃d,p[1]?=some d:=⟨p[1]'(by omega),aD _⟩;obtain⟨y,i⟩:∃y,p[2]?=some y:=⟨p[2]'(by omega),aD _⟩;obtain⟨S,T⟩:=g 1 d E;obtain⟨u,x⟩:=g 2 y i;have M:=v d (aC E);have t:=v y (aC i);have z:vx m n self (λy=>vl m b self n y) p=vu (vl m b self n d) (vl m b self n y):=by simp[vx,e1,e2,E,i,vu]
    rw[z];have U:=Iy λJ F=>uT m b self N K n d M J F;have V:=Iy λJ F=>uT m b self N K n y t J F;cases n with
    | zero=>exact u.elim
    | succ n=>
    rw[show p.length=3 by omega]at j o ⊢;refine MW (m+(n+1)) _ a c self G po d.1.1 d.1.2.1 d.1.2.2 d.2.1.1 d.2.2.length d.2.1.2 y.1.1 y.1.2.1 y.1.2.2 y.2.1.1 y.2.2.length y.2.1.2 pc w j o (by omega) (by simpa [dy]using S) (by simpa [dy]using u) ?_;intro h e;refine Jo (m+(n+1)) _ _ U V a c self d.1.1 d.1.2.1 d.1.2.2 d.2.1.1 d.2.2.length d.2.1.2 y.1.1 y.1.2.1 y.1.2.2 y.2.1.1 y.2.2.length y.2.1.2 h ?_ ?_
    ·intro H q;refine si (m+n) _ a c self d.1.1 d.1.2.1 d.1.2.2 d.2.1.1 d.2.2.length d.2.1.2 H ?_;intro I A;have l:=(e.trans ((q.trans (A.mono q.size)).mono e.size));exact ih d a c B I (T.below (l.mono f)) M (C.below (l.mono f)) (aw f l.size)
    ·intro H q;refine si (m+n) _ a c self y.1.1 y.1.2.1 y.1.2.2 y.2.1.1 y.2.2.length y.2.1.2 H ?_;intro I A;have l:=(e.trans ((q.trans (A.mono q.size)).mono e.size));exact ih y a c B I (x.below (l.mono f)) t (C.below (l.mono f)) (aw f l.size)
 ·rw[e1]at j;exact Ls (m+n) _ a c self ⟨by omega,by omega⟩ pa p.length pc w j (by simp[Hid,vx,e1])
theorem GD(m:Nat)(b:List (Tm m))(self:Int)(z:fO m b=true)(J:1<=self/\self<=99)(n:Nat):L5 m b self n:=by
 induction n with
 | zero=>intro a j c q p v;exact v.elim
 | succ n ih=>
  intro a j c q p v u h g;obtain⟨y,H⟩:=gK z;have t:=u (bu n a) (by simp[ar,bu]);have I:a.2.2.length<=8:=lF (bu n a) t;by_cases s:a.1.1=6
  ·have f:=NC (m+n) (vl m b self (n+1) a) j a.1.2.1 a.1.2.2 a.2.1.1 a.2.2.length a.2.1.2 c self p (JG m b self n a s);rw[<-s]at f;exact f
  ·by_cases l:a.1.1=5
   ·have O:0<=a.1.2.1/\a.1.2.1<=3:=by
      have D:¬(5:Int)=1:=by decide
      have E:¬(5:Int)=2:=by decide
      have F:¬(5:Int)=3:=by decide
      have G:¬(5:Int)=4:=by decide
      simp only[cm,bu,l,pT,ay,cH,D,E,F,G,if_false]at t;exact⟨fD t.1.2.1,fD t.1.2.2⟩
    obtain⟨k,A⟩:∃k:Nat,a.1.2.1=(k:Int):=⟨a.1.2.1.toNat,by omega⟩;obtain⟨d,o⟩:∃d,b[k]?=some d:=⟨b[k]'(by omega),aD _⟩;have w:=(H d (aC o)).2.1;have C:=MV m b self n a d k l A o;have M:=h;rcases h with h|⟨B,bo,rfl,N,h⟩
    ·rw[h]at y;simp at y
    ·obtain⟨K,L⟩:=h k d o;cases m with
     | zero=>exact(cY w).elim
     | succ m=>
     have f:=NE (m+1+n) (vl (m+1) b self (n+1) a) B bo k a.1.2.1 a.1.2.2 a.2.1.1 a.2.2.length a.2.1.2 m (by omega) d c self p A (by omega) (by omega) K w
      (λi e=>gM (m+1) d q i (L.below (e.mono g)) (aw g e.size) w)
      (λi=>iQ d.1.1 d.1.2.1 d.1.2.2 d.2.1.1 d.2.2.length d.2.1.2 i)
      (by
       show vl (m+1) b self (n+1) a=_;rw[C];by_cases x:d.1.1=6
       ·simp[bK,x]
       ·simp[bK,x])
     rw[<-l]at f;exact f
   ·by_cases r:a.1.1=4
    ·have f:=ND (m+n) (vl m b self (n+1) a) j a.1.2.1 a.1.2.2 a.2.1.1 a.2.2.length a.2.1.2 c self p (by
       intro i e;rw[JH m b self n a r]
       exact Dt m b self z J n ih a.2.2 a.2.1.1 a.2.1.2 j c q i I (fe.below (e.mono g) v.2) (λd o=>aN n a d u o) (h.below (e.mono g)) (aw g e.size))
     rw[<-r]at f;exact f
    ·exact MS (m+n) (vl m b self (n+1) a) j a.1.1 a.1.2.1 a.1.2.2 a.2.1.1 a.2.2.length a.2.1.2 n (by omega) a c self p r l s u
       (λi e=>gM (n+1) a q i (v.below (e.mono g)) (aw g e.size) u) (Es m b self n a r l s)
def uZ(N:Nat):Tm (N+1):=bF 0 0 N
def yW(N:Nat)(E:Int)(o:Option (Tm (N+1)))(w:World)(e:Ending)(w':World):Prop:=
 ∃a:Tm (N+1),e=.returned (.tuple #[dd (N+1) a,.int .i64 (Ei E (nb E o))])/\Hid (ag w w'/\In w'.heap.size w' (N+1) a/\bV (λb=>w.heap.size<=b) (N+1) a/\au (N+1) a (N+1) ((nb E o).getD (uZ N))=true)
theorem oe{N:Nat}{E:Int}{o:Option (Tm (N+1))}{w w':World}{a:Int}(c:ag w w')(b:nb E o=none)(d:a=Ei E (nb E o)):yW N E o w (.returned (.tuple #[.agg #[.int .i64 0,.int .i64 0,.string .empty,.slice none 0 0],.int .i64 a])) w':=by
 refine⟨uZ N,by rw[d];rfl,c,(kB N 0 0 iP iP _ _ (λ_=>True)).1,(kB N 0 0 iP iP 0 w _).2,?_⟩;rw[b];exact vQ N 0 0
theorem La{N:Nat}{E:Int}{o:Option (Tm (N+1))}{a:Tm (N+1)}{w w1 w2 j:World}{y:Tm (N+1)}{q:Nat}(e:E=0)(n:o=some a)(l:bm (N+1) a=0)(f:ag w w1)(p:w.heap.size<=q)(t:q<w1.heap.size)(h:ag w1 w2)(r:In w2.heap.size w2 (N+1) y)(i:bV (λq=>w1.heap.size<=q) (N+1) y)(s:au (N+1) y (N+1) a=true)(c:ag w2 j)(v0 v1 v2 v3:Value):yW N E o w (.returned (.tuple #[.agg #[.int .i64 y.1.1,.int .i64 y.1.2.1,.string y.1.2.2,.slice y.2.1.1 y.2.2.length y.2.1.2],.int .i64 0])) (cE j q 0 v0 v1 v2 v3):=by
 have g:=f.size;have k:=(f.trans (h.mono g)).trans (c.mono (aw g h.size));have d:nb E o=some a:=by simp[nb,e,n,l]
 refine⟨y,by rw[d];simp[Ei,e,dd],cQ k p _ _ _ _,?_,i.mono λb m=>by omega,by rw[d];exact s⟩;rw[bf];exact In.off (P:=λb=>w1.heap.size<=b) (λb m=>aR (by omega) _ _ _ _) i ((r.below c).mono c.size)
theorem AX{c:Int}{bd:Bool}{self:Int}(a:Ej c bd self=0):c=0/\bd=true/\1<=self/\self<=99:=by
 unfold Ej at a;split at a
 ·split at a
  ·split at a
   ·rename_i b d e;exact⟨b,d,e⟩
   ·cases a
  ·cases a
 ·rename_i b;exact absurd a b
theorem GC{m n:Nat}{b:List (Tm m)}{self:Int}{x:Tm (n+1)}{a:Tm (m+n+1)}(c:bm (n+1) x=0)(d:fO m b=true)(h:vl m b self (n+1) x=some a):(ar (m+n+1) a).length<=2097152:=by
 have f:=ni c;have e:=Bq m b self 201 (by omega) (λi g=>ni ((gK d).2 i g).1) (n+1) x a h;have:201*(ar (n+1) x).length<=201*201:=Nat.mul_le_mul_left 201 f;exact aw e (by omega)
theorem th(w:World)(a b c d:Value)(t1 t2:TypeId):ag w ((w.alloc (.cells #[a,b,c,d] t1)).alloc (.cells #[.int .i64 0,.int .i64 0,.string .empty,.slice none 0 0] t2))/\mV (w.heap.size+1) ((w.alloc (.cells #[a,b,c,d] t1)).alloc (.cells #[.int .i64 0,.int .i64 0,.string .empty,.slice none 0 0] t2)):=by
 refine⟨((ak _ _).alloc (ai _) _).alloc (by simp) _,⟨?_,?_,?_,?_⟩,⟨?_,?_,?_,?_⟩,?_⟩<;>simp[go_sem]
theorem Dr{w w':World}{b c d e y0 y1 y2 f:Value}{t1 t2:TypeId}(g:Below ((w.alloc (.cells #[b,c,d,e] t1)).alloc (.cells #[y0,y1,y2,f] t2)).heap.size ((w.alloc (.cells #[b,c,d,e] t1)).alloc (.cells #[y0,y1,y2,f] t2)) w'):w'.cell? ⟨w.heap.size,0,none⟩=some b/\w'.cell? ⟨w.heap.size,1,none⟩=some c/\w'.cell? ⟨w.heap.size,2,none⟩=some d/\w'.cell? ⟨w.heap.size,3,none⟩=some e:=by
 have a:=λo=>g.cell (p:=⟨w.heap.size,o,none⟩) (by simp;omega);exact⟨(a 0).trans (by simp[go_sem]),(a 1).trans (by simp[go_sem]),(a 2).trans (by simp[go_sem]),(a 3).trans (by simp[go_sem])⟩
theorem AY(N:Nat)(o:Option (Tm (N+1)))(a:Option Addr)(Y c:Nat)(self:Int)(ae af:Int)(al:ByteArray)(xa:Option Addr)(am xc:Nat)(l:Int)(bd:Bool)(w:World)(ao:Hid (∀w1,ag w w1->ah 51 #[.agg #[.int .i64 ae,.int .i64 af,.string al,.slice xa am xc]] w1 λe w'=>e=.returned (.int .i64 l)/\ag w1 w'))(an:Hid (∀w1,ag w w1->ah 158 #[.slice a Y c] w1 λe w'=>e=.returned (.bool bd)/\ag w1 w'))(r:Hid (Ej l bd self=0->∀w1,ag w w1->ah 164 #[.agg #[.slice a Y c,.int .i64 self],.agg #[.int .i64 ae,.int .i64 af,.string al,.slice xa am xc]] w1 (jA (N+1) o w1)))(p:Hid (Ej l bd self=0->∀(y f:Tm (N+1))(w1:World),o=some f->au (N+1) y (N+1) f=true->In w1.heap.size w1 (N+1) y->ah 51 #[.agg #[.int .i64 y.1.1,.int .i64 y.1.2.1,.string y.1.2.2,.slice y.2.1.1 y.2.2.length y.2.1.2]] w1 λe w'=>e=.returned (.int .i64 (bm (N+1) f))/\ag w1 w')):ah 139 #[.agg #[.int .i64 ae,.int .i64 af,.string al,.slice xa am xc],.slice a Y c,.int .i64 self] w (yW N (Ej l bd self) o w):=by
 obtain⟨E,U⟩:∃E,E=Ej l bd self:=⟨_,rfl⟩;rw[<-U]at r p ⊢;have m:=aj U;clear U;go_enter Tryz.func139,Tryz.ntmps139;go_wp2_with fail;refine(ao.out _ (th w _ _ _ _ _ _).1).mono ?_;rintro e w1 ⟨rfl,M⟩;have aw:=aj (Dr M);have A:Hid (ag w w1):=(th w _ _ _ _ _ _).1.trans (M.mono (th w _ _ _ _ _ _).1.size);have J:=aj ((th w _ _ _ _ _ _).2.below M);clear M ao;by_cases d:l=0
 case neg=>
  have aJ:(l !=0)=true:=by simpa using d
  have b:Hid (E=l/\l≠0):=⟨by rw[m.out];simp[Ej,d],d⟩;obtain⟨⟨g,h,i,j⟩,⟨C,D,F,G⟩,x⟩:=J.out;clear r m d p;go_wp2_with fail;exact ap (v:=.tuple #[.agg #[.int .i64 0,.int .i64 0,.string .empty,.slice none 0 0],.int .i64 l]) (by simp[results,Tryz.results139,go_sem,g,h,i,j];rfl) rfl (oe (cQ A.out (by omega) _ _ _ _) (by simp[nb,b.out.1,b.out.2]) (by simp[Ei,b.out.1,b.out.2]))
 have aJ:(l !=0)=false:=by simp[d]
 go_wp2_with fail;refine(an.out _ A.out).mono ?_;rintro e aB ⟨rfl,O⟩;have ax:=aj (nh (Nat.lt_of_succ_lt J.out.2.2) O aw.out);have n:Hid (ag w aB):=A.out.trans (O.mono A.out.size);have q:=aj (J.out.below O);clear O an A aw J;cases bd
 ·have b:Hid (E=5):=by rw[Hid,m.out];simp[Ej,d]
  obtain⟨⟨g,h,i,j⟩,⟨C,D,F,G⟩,x⟩:=q.out;clear r m d p;go_wp2_with fail;exact ap (v:=.tuple #[.agg #[.int .i64 0,.int .i64 0,.string .empty,.slice none 0 0],.int .i64 5]) (by simp[results,Tryz.results139,go_sem,g,h,i,j];rfl) rfl (oe (cQ n.out (by omega) _ _ _ _) (by simp[nb,b.out]) (by simp[Ei,b.out]))
 ·by_cases az:self<1
  ·have aF:decide (self<1)=true:=by simpa using az
   have b:Hid (E=1):=by rw[Hid,m.out];simp only[Ej,d,cH];rw[if_neg (by omega)]
   obtain⟨⟨g,h,i,j⟩,⟨C,D,F,G⟩,x⟩:=q.out;clear r m d p;go_wp2_with fail;exact ap (v:=.tuple #[.agg #[.int .i64 0,.int .i64 0,.string .empty,.slice none 0 0],.int .i64 1]) (by simp[results,Tryz.results139,go_sem,g,h,i,j];rfl) rfl (oe (cQ n.out (by omega) _ _ _ _) (by simp[nb,b.out]) (by simp[Ei,b.out]))
  ·have aF:decide (self<1)=false:=by simpa using az
   by_cases aA:99<self
   ·have aG:decide (99<self)=true:=by simpa using aA
    have b:Hid (E=1):=by rw[Hid,m.out];simp only[Ej,d,cH];rw[if_neg (by omega)]
    obtain⟨⟨g,h,i,j⟩,⟨C,D,F,G⟩,x⟩:=q.out;clear r m d p;go_wp2_with fail;exact ap (v:=.tuple #[.agg #[.int .i64 0,.int .i64 0,.string .empty,.slice none 0 0],.int .i64 1]) (by simp[results,Tryz.results139,go_sem,g,h,i,j];rfl) rfl (oe (cQ n.out (by omega) _ _ _ _) (by simp[nb,b.out]) (by simp[Ei,b.out]))
   ·have aG:decide (99<self)=false:=by simpa using aA
    have B:Hid (E=0):=by rw[Hid,m.out];simp only[Ej,d,cH];rw[if_pos (by omega)]
    obtain⟨aN,aO,aP,aQ⟩:=ax.out;have aS:w.heap.size<aB.heap.size:=Nat.lt_of_succ_lt q.out.2.2;clear m d;go_wp2_with fail;refine(r.out B.out _ n.out).mono ?_;rintro e z ⟨y,aM,rfl,k⟩;have P:Hid (ag w z):=n.out.trans (k.out.1.mono n.out.size);have K:=aj (q.out.below k.out.1);have ay:dd (N+1) y=.agg #[.int .i64 y.1.1,.int .i64 y.1.2.1,.string y.1.2.2,.slice y.2.1.1 y.2.2.length y.2.1.2]:=rfl;rw[ay];clear r ay aN aO aP aQ ax;cases aM
    ·have aq:Hid (o=none):=by
       have:=k.out.2.2.2.1;cases o with
       | none=>rfl
       | some f=>cases this
     obtain⟨⟨g,h,i,j⟩,⟨C,D,F,G⟩,x⟩:=K.out;clear k p;go_wp2_with fail;exact ap (v:=.tuple #[.agg #[.int .i64 0,.int .i64 0,.string .empty,.slice none 0 0],.int .i64 7]) (by simp[results,Tryz.results139,go_sem,g,h,i,j,x];rfl) rfl (oe ((cQ P.out (by omega) _ _ _ _).alloc (by rw[bf];omega) _) (by simp[nb,aq.out]) (by simp[Ei,nb,aq.out,B.out]))
    ·obtain⟨f,X⟩:∃f,o=some f:=by
       have:=k.out.2.2.2.1;cases o with
       | none=>cases this
       | some f=>exact⟨f,rfl⟩
     have L:=aj X;have av:=aj (k.out.2.2.2.2 f X)
     have S:Hid (∀w1,ag z w1->ah 51 #[.agg #[.int .i64 y.1.1,.int .i64 y.1.2.1,.string y.1.2.2,.slice y.2.1.1 y.2.2.length y.2.1.2]] w1 λe w'=>e=.returned (.int .i64 (bm (N+1) f))/\ag w1 w'):=
      λw1 t=>p.out B.out y f w1 L.out av.out ((k.out.2.1.below t).mono t.size)
     obtain⟨s,W⟩:∃s,s=bm (N+1) f:=⟨_,rfl⟩;rw[<-W]at S;have R:=aj W;have T:=λ(I:World)(aI:ag z I)(aH:s=0) Z aa ab ad=>aj (La (E:=E) B.out L.out (R.out.symm.trans aH) n.out (jh _ 1) q.out.2.2 k.out.1 k.out.2.1 k.out.2.2.1 av.out aI Z aa ab ad);clear X W p k q n;go_wp2_with fail;refine(S.out _ ((ak _ _).alloc (ai _) _)).mono ?_;rintro e I ⟨rfl,V⟩;obtain⟨⟨aT,aU,aV,aW⟩,_⟩:=DF V;have Q:Hid (ag z I):=((ak _ _).alloc (ai _) _).trans (V.mono (by simp));have aC:=aj (K.out.below Q.out);have aE:Hid (ag w I):=P.out.trans (Q.out.mono P.out.size);obtain⟨⟨g,h,i,j⟩,⟨C,D,F,G⟩,x⟩:=aC.out;have aL:¬(w.heap.size+1=z.heap.size):=by have:=K.out.2.2;omega
     have aR:¬(z.heap.size=w.heap.size+1):=λe=>aL e.symm;clear V S K;by_cases u:s=0
     ·have aK:(s !=0)=false:=by simp[u]
      have aD:=λZ aa ab ad=>T I Q.out u Z aa ab ad;clear T u;go_wp2_with fail;exact ap (v:=.tuple #[.agg #[.int .i64 y.1.1,.int .i64 y.1.2.1,.string y.1.2.2,.slice y.2.1.1 y.2.2.length y.2.1.2],.int .i64 0]) (by simp[results,Tryz.results139,go_sem,g,h,i,j]) rfl (aD _ _ _ _).out
     ·have aK:(s !=0)=true:=by simpa using u
      have ar:=aj u;clear T u;go_wp2_with fail;exact ap (v:=.tuple #[.agg #[.int .i64 0,.int .i64 0,.string .empty,.slice none 0 0],.int .i64 7]) (by simp[results,Tryz.results139,go_sem,g,h,i,j];rfl) rfl (oe (cQ aE.out (by omega) _ _ _ _) (by have t:=R.out;have H:=ar.out;rw[t]at H;simp[nb,L.out,H]) (by have t:=R.out;have H:=ar.out;rw[t]at H;simp[Ei,nb,L.out,B.out,H]))
theorem CX(n m:Nat)(x:Tm (n+1))(b:List (Tm m))(a:Option Addr)(c B:Nat)(self:Int)(w:World)(p:In B w (n+1) x)(k:fe B w m b a)(f:B<=w.heap.size)(r:(ar (n+1) x).length<=2097152)(t:b.length<=9223372036854775807)(s:∀y∈b,(ar m y).length<=2097152):ah 139 #[dd (n+1) x,.slice a b.length c,.int .i64 self] w (yW (m+n) (Ej (bm (n+1) x) (fO m b) self) (vl m b self (n+1) x) w):=by
 refine AY (m+n) _ a b.length c self x.1.1 x.1.2.1 x.1.2.2 x.2.1.1 x.2.2.length x.2.1.2 (bm (n+1) x) (fO m b) w ?_ ?_ ?_ ?_
 ·intro e d;exact dx (n+1) x B e (p.below (d.mono f)) (aw f d.size) r
 ·intro e d;exact zh m b a c B e (k.below (d.mono f)) t s (aw f d.size)
 ·intro i e d;obtain⟨h,g,j⟩:=AX i;have q:=(gK g).1;rw[q];exact GD m b self g j (n+1) x a c B e (p.below (d.mono f)) (aG.2 (br.1 h).1) (k.below (d.mono f)) (aw f d.size)
 ·intro i y A e z o u;obtain⟨h,g,j⟩:=AX i;have v:=GC h g z;have l:=dx (m+n+1) y e.heap.size e u (ai _) (by rw[jS _ _ _ _ o];exact v);rw[bH o]at l;exact l
theorem A1{n m b a:Nat}{x:Tm n}{y:Tm m}{x':Tm b}{c:Tm a}(e:au n x b x'=true)(k:au m y a c=true):au n x m y=au b x' a c:=by
 cases d:au b x' a c with
 | true=>exact bM _ _ _ _ _ _ e (bM _ _ _ _ _ _ d (dF _ _ _ _ k))
 | false=>
  cases e2:au n x m y with
  | false=>rfl
  | true=>
   have f:=bM _ _ _ _ _ _ (dF _ _ _ _ e) (bM _ _ _ _ _ _ e2 k);rw[d]at f;cases f
def nE:Option (List An)->Option (List An)->Prop
 | none,none=>True
 | some b,some c=>az dO b c=true
 | _,_=>False
theorem t8{x y:An}(a:dO x y=true):bK x=bK y:=by
 obtain⟨n,x⟩:=x;obtain⟨b,y⟩:=y;cases n with
 | zero=>simp[dO,au]at a
 | succ n=>
  cases b with
  | zero=>simp[dO,au]at a
  | succ b=>
   simp only[dO,au,ay,b9]at a;exact a.1.1.1
theorem tr{c d:Type}{f:c->d->Bool}{a:c}{b:d}(e:f a b=true):(p:List c)->(q:List d)->(i:Nat)->az f p q=true->az f (p.set i a) (q.set i b)=true
 | [],[],_,_=>by simp[az]
 | [],_::_,_,h=>by simp[az]at h
 | _::_,[],_,h=>by simp[az]at h
 | x::p,y::q,0,h=>by
  simp only[az,ay]at h;simp[az,e,h.2]
 | x::p,y::q,i+1,h=>by
  simp only[az,ay]at h;simp[az,h.1,tr e p q i h.2]
theorem B9{b c:List An}{i:Nat}{t h:An}(f:az dO b c=true)(j:dO t h=true):nE (tQ b i t) (tQ c i h):=by
 have o:=cu _ _ _ f;unfold tQ;cases e:b[i]? with
 | none=>
  have a:c[i]?=none:=by
   rw[List.getElem?_eq_none_iff]at e ⊢;omega
  rw[a];trivial
 | some g=>
  obtain⟨n,m⟩:=aL.1 e;have a:c[i]?=some c[i]:=aD (by omega);rw[a];have k:dO g c[i]=true:=iV _ _ _ f i _ _ e a;simp only;rw[<-t8 k];by_cases d:bK g=6
  ·rw[if_pos d,if_pos d];exact tr j _ _ _ f
  ·rw[if_neg d,if_neg d];have l:dO g t=dO c[i] h:=A1 k j;rw[<-l];cases dO g t
   ·simp[nE]
   ·simpa [nE]using f
theorem tP{n r o s:Type}(f:n->r->List An->Option (List An))(g:o->s->List An->Option (List An))(P:n->o->Bool)(Q:r->s->Bool):(p:List n)->(q:List r)->(a:List o)->(h:List s)->(∀x∈p,∀y∈q,∀x' k b c,P x x'=true->Q y k=true->az dO b c=true->nE (f x y b) (g x' k c))->az P p a=true->az Q q h=true->∀b c,az dO b c=true->nE (hU f p q b) (hU g a h c)
 | [],_,a,_,_,i,_,b,c,l=>by
  cases a with
  | nil=>simpa [hU,nE]using l
  | cons _ _=>simp[az]at i
 | x::p,[],a,h,_,i,j,b,c,l=>by
  cases h with
  | nil=>cases a<;>simpa [hU,nE]using l
  | cons _ _=>simp[az]at j
 | x::p,y::q,a,h,hf,i,j,b,c,l=>by
  cases a with
  | nil=>simp[az]at i
  | cons x' a=>
   cases h with
   | nil=>simp[az]at j
   | cons k h=>
    simp only[az,ay]at i j;have e:=hf x (by simp) y (by simp) x' k b c i.1 j.1 l;simp only[hU];cases e1:f x y b with
    | none=>
     rw[e1]at e;cases m:g x' k c with
     | none=>simp[nE]
     | some _=>rw[m]at e;exact e.elim
    | some d=>
     rw[e1]at e;cases m:g x' k c with
     | none=>rw[m]at e;exact e.elim
     | some t=>
      rw[m]at e;simp only[dl];exact tP f g P Q p q a h (λx u y v=>hf x (by simp[u]) y (by simp[v])) i.2 j.2 d t e
theorem lE:(n:Nat)->(p:Tm n)->(m:Nat)->(t:Tm m)->(d:Nat)->(j:Tm d)->(a:Nat)->(k:Tm a)->(b c:List An)->au n p d j=true->au m t a k=true->az dO b c=true->nE (gG n p m t b) (gG d j a k c)
 | 0,_,_,_,_,_,_,_,_,_,h,_,_=>by simp[au]at h
 | _+1,_,_,_,0,_,_,_,_,_,h,_,_=>by simp[au]at h
 | _+1,_,0,_,_+1,_,_,_,_,_,_,h,_=>by simp[au]at h
 | _+1,_,_+1,_,_+1,_,0,_,_,_,_,h,_=>by simp[au]at h
 | n+1,p,m+1,t,d+1,j,a+1,k,b,c,hp,ht,hb=>by
  have v:=hp;have l:=ht;simp only[au,ay,b9]at hp ht;obtain⟨⟨⟨w,z⟩,B⟩,o⟩:=hp;obtain⟨⟨⟨t1,t2⟩,C⟩,q⟩:=ht;unfold gG;rw[<-w,<-z,<-t1,<-cu _ _ _ o,<-cu _ _ _ q];by_cases g:p.1.1=6
  ·rw[if_pos g,if_pos g];exact hb
  ·rw[if_neg g,if_neg g];by_cases f:p.1.1=5
   ·rw[if_pos f,if_pos f];exact B9 hb l
   ·rw[if_neg f,if_neg f];by_cases e:p.1.1=4
    ·rw[if_pos e,if_pos e];by_cases i:t.1.1=4/\p.2.2.length=t.2.2.length
     ·rw[if_pos i,if_pos i];exact tP _ _ (λx y=>au n x d y) (λx y=>au m x a y) p.2.2 t.2.2 j.2.2 k.2.2 (λx _ y _ x' A b c r s u=>lE n x m y d x' a A b c r s u) o q b c hb
     ·rw[if_neg i,if_neg i];trivial
    ·rw[if_neg e,if_neg e,<-A1 v l];cases au (n+1) p (m+1) t
     ·simp[nE]
     ·simpa [nE]using hb
theorem zZ{w w':World}{g:Nat}(c:w.grownBy w' (some g)):∀b o,b<w.heap.size->b≠g->w'.cell? ⟨b,o,none⟩=w.cell? ⟨b,o,none⟩:=
 λb o d e=>World.cell?_of_block (a:=⟨b,o,none⟩) (c.block b d (by simpa using e))
theorem qq{w w':World}{row:Option Nat}(a:w.drew.grownBy w' row):w.grownBy w' row:=⟨a.os,a.tape,a.output,a.size,a.block⟩
theorem EX(p q:Nat)(a d:Option Addr)(pc h:Nat)(g c:Nat)(base:Nat)(w:World)(_hpc:p<=9223372036854775807)(_hqc:q<=9223372036854775807)(f:((p:Int)==(q:Int))=false):ah 172 #[.slice (some ⟨g,0,none⟩) 4 c,.slice a p pc,.slice d q h] w (en base g c none w):=by
 have i:((p:Int) !=(q:Int))=true:=by simpa using f
 go_enter Tryz.func172,Tryz.ntmps172;go_wp2_with fail
 go_ret
 exact⟨rfl,fZ _ _,λb e=>by cases e⟩
theorem tO(a e:Option Addr)(pc i:Nat)(g c:Nat)(base:Nat)(b:List An)(w:World)(H:mn base g c b w):ah 172 #[.slice (some ⟨g,0,none⟩) 4 c,.slice a 0 pc,.slice e 0 i] w (en base g c (some b) w):=by
 have d:=aj H;clear H;go_enter Tryz.func172,Tryz.ntmps172;go_wp2_with fail
 go_loop [16] (λh=>h=.int .i64 0) (λ_=>0)
 case atStart=>rfl
 case round=>
  obtain rfl:=hrel;go_wp2_with fail
  go_ret
  exact⟨rfl,fZ _ _,λj f=>by obtain rfl:=aq f;exact d.out⟩
theorem EW(n m:Nat)(ih:LZ n)(p:List (Tm n))(q:List (Tm m))(len:Nat)(ab:Hid (p.length=len))(az:Hid (q.length=len))(K po d j pc aA:Nat)(b:List An)(base g c B:Nat)(w:World)(aH:len<=9223372036854775807)(ax:K<B)(ay:d<B)(aa:∀(i:Nat)(y:Tm n),p[i]?=some y->dy w K (po+i*4) n y/\In B w n y)(ad:∀(i:Nat)(y:Tm m),q[i]?=some y->dy w d (j+i*4) m y/\In B w m y)(ae:∀y∈p,av ⟨n,y⟩)(af:∀y∈q,av ⟨m,y⟩)(V:Hid (BD B w b))(U:B<=base)(H:Hid (mn base g c b w)):ah 172 #[.slice (some ⟨g,0,none⟩) 4 c,.slice (some ⟨K,po,none⟩) len pc,.slice (some ⟨d,j,none⟩) len aA] w (en base g c (hU (λx y b=>gG n x m y b) p q b) w):=by
 have W:B<=g:=aw U H.out.lt.1;have X:g<w.heap.size:=H.out.lt.2;go_enter Tryz.func172,Tryz.ntmps172;go_wp2_with fail;go_loopw [16] (λi wr=>∃k:Nat,k<=len/\i=.int .i64 k/\Hid (w.grownBy wr (some g)/\∃a,mn base g c a wr/\BD B wr a/\hU (λx y b=>gG n x m y b) (p.drop k) (q.drop k) a=hU (λx y b=>gG n x m y b) p q b)) (λi _=>len-(intOf i).toNat)
 case atStart=>exact⟨0,by omega,rfl,fZ _ _,b,H.out,V.out,rfl⟩
 case round=>
  obtain⟨k,aE,rfl,v⟩:=hrel;by_cases Z:k<len
  ·obtain⟨x,E⟩:∃x,p[k]?=some x:=⟨p[k]'(by rw[ab.out];exact Z),aD _⟩;obtain⟨y,I⟩:∃y,q[k]?=some y:=⟨q[k]'(by rw[az.out];exact Z),aD _⟩;obtain⟨l,a,L,u,t⟩:Hid (w.grownBy wr (some g))/\∃a,Hid (mn base g c a wr)/\Hid (BD B wr a)/\Hid (hU (λx y b=>gG n x m y b) (p.drop k) (q.drop k) a=hU (λx y b=>gG n x m y b) p q b):=v.out;clear v;obtain⟨F,G⟩:=aa k x E;obtain⟨J,r⟩:=ad k y I;have z:=aj (EZ (λx y b=>gG n x m y b) p q k x y E I a);have T:=aj (ae x (aC E));have N:=aj (af y (aC I));have o:=ns l.out W X;replace F:=F.below o ax;replace J:=J.below o ay;replace G:=G.below o;replace r:=r.below o;have aB:g<wr.heap.size:=aJ X l.out.size;have D:B<=wr.heap.size:=by omega
   clear aa ad E I ae af V H o;cases n with
   | zero=>exact F.elim
   | succ n=>
   cases m with
   | zero=>exact J.elim
   | succ m=>
   obtain⟨aO,aP,aQ,aR⟩:=F;obtain⟨y0,y1,y2,aS⟩:=J
   have Q:Hid (∀(h:World),ag wr h->ah 160 #[.slice (some ⟨g,0,none⟩) 4 c,.agg #[.int .i64 x.1.1,.int .i64 x.1.2.1,.string x.1.2.2,.slice x.2.1.1 x.2.2.length x.2.1.2],.agg #[.int .i64 y.1.1,.int .i64 y.1.2.1,.string y.1.2.2,.slice y.2.1.1 y.2.2.length y.2.1.2]] h (en base g c (gG (n+1) x (m+1) y a) h)):=
    λh C=>ih x (m+1) y a base g c B h (G.below (C.mono D)) (r.below (C.mono D)) T.out N.out (u.out.below (C.mono D)) U (L.out.below C)
   have M:Hid (∀s e,gG (n+1) x (m+1) y a=s->s=some e->BD B wr e):=λs e ap ar=>u.out.fit r N.out (ap.trans ar);clear ih G r T N u;replace z:Hid (hU (λx y b=>gG (n+1) x (m+1) y b) (p.drop k) (q.drop k) a=(gG (n+1) x (m+1) y a).bind (hU (λx y b=>gG (n+1) x (m+1) y b) (p.drop (k+1)) (q.drop (k+1)))):=z;generalize gG (n+1) x (m+1) y a=s at*;generalize x.2.2.length=al at*;generalize y.2.2.length=yl at*;have aF:(0:Int)<=(k:Int):=by omega
   have aG:(k:Int)<(len:Int):=by omega
   have aI:K<wr.heap.size:=by omega
   have aL:d<wr.heap.size:=by omega
   have aM:d<wr.heap.size+1:=by omega
   have aK:d≠g:=by omega
   have aN:wr.heap.size≠g:=by omega
   have am:=aj (Q.out (wr.alloc (.cells #[.int .i64 x.1.1,.int .i64 x.1.2.1,.string x.1.2.2,.slice x.2.1.1 al x.2.1.2] 30)).drew (((ak _ _).alloc (ai _) _).drew));clear Q;go_wp2_with fail
   go_region_held3 (λf=>f.cell? ⟨wr.heap.size,0,none⟩=some (.int .i64 x.1.1)/\f.cell? ⟨wr.heap.size,1,none⟩=some (.int .i64 x.1.2.1)/\f.cell? ⟨wr.heap.size,2,none⟩=some (.string x.1.2.2)/\f.cell? ⟨wr.heap.size,3,none⟩=some (.slice x.2.1.1 al x.2.1.2)
       /\f.cell? ⟨d,j+k*4,none⟩=some (.int .i64 y.1.1)/\f.cell? ⟨d,j+k*4+1,none⟩=some (.int .i64 y.1.2.1)/\f.cell? ⟨d,j+k*4+2,none⟩=some (.string y.1.2.2)/\f.cell? ⟨d,j+k*4+3,none⟩=some (.slice y.2.1.1 yl y.2.1.2))
    (go_keep) ((go_at_call 160;refine am.out.mono ?_;rintro A h ⟨rfl,O,Y⟩;have au:=zZ (qq O);have R:=aj (qq O);have an:=aj Y;clear O Y))
   have S:Hid (w.grownBy h (some g)):=kN l.out (kN (cV wr _ _) R.out);clear au;cases s with
   | some e=>
    have ao:Hid (BD B h e):=(M.out _ e rfl rfl).below ((((ak _ _).alloc (ai _) _).mono D).trans (ns R.out W (by simp;omega)));clear M;simp only[mi];go_wp2_with fail;go_roundw
    case rel=>exact⟨k+1,by omega,by go_num,S.out,e,an.out e rfl,ao.out,by rw[<-t.out,z.out];rfl⟩
    case measure=>simp[intOf];omega
   | none=>
    clear M;simp only[mh];go_wp2_with fail
    go_ret
    have P:hU (λx y b=>gG (n+1) x (m+1) y b) p q b=none:=by rw[<-t.out,z.out];rfl
    rw[P];exact⟨rfl,S.out,λa A=>by cases A⟩
  ·obtain⟨l,a,L,u,t⟩:Hid (w.grownBy wr (some g))/\∃a,Hid (mn base g c a wr)/\Hid (BD B wr a)/\Hid (hU (λx y b=>gG n x m y b) (p.drop k) (q.drop k) a=hU (λx y b=>gG n x m y b) p q b):=v.out;clear v;go_wp2_with fail
   go_ret
   have P:hU (λx y b=>gG n x m y b) p q b=some a:=by rw[<-t.out,ja (by rw[ab.out];omega)];rfl
   rw[P];exact⟨rfl,l.out,λe A=>by obtain rfl:=aq A;exact L.out⟩
theorem B8(n m:Nat)(ih:LZ n)(p:List (Tm n))(q:List (Tm m))(a e:Option Addr)(pc j:Nat)(b:List An)(base g c B:Nat)(w:World)(f:p=[]\/∃b o,a=some ⟨b,o,none⟩/\b<B/\∀(i:Nat)(y:Tm n),p[i]?=some y->dy w b (o+i*4) n y/\In B w n y)(h:q=[]\/∃b o,e=some ⟨b,o,none⟩/\b<B/\∀(i:Nat)(y:Tm m),q[i]?=some y->dy w b (o+i*4) m y/\In B w m y)(u:p.length<=9223372036854775807)(A:q.length<=9223372036854775807)(C:∀y∈p,av ⟨n,y⟩)(D:∀y∈q,av ⟨m,y⟩)(r:BD B w b)(l:B<=base)(H:mn base g c b w):ah 172 #[.slice (some ⟨g,0,none⟩) 4 c,.slice a p.length pc,.slice e q.length j] w (en base g c (if p.length=q.length then hU (λx y b=>gG n x m y b) p q b else none) w):=by
 by_cases d:p.length=q.length
 ·rw[if_pos d];rcases f with f|⟨E,po,rfl,t,f⟩
  ·subst f;have v:q=[]:=bD d.symm;subst v;exact tO a e pc j g c base b w H
  ·rcases h with h|⟨F,G,rfl,z,h⟩
   ·subst h;have s:p=[]:=bD d;subst s;exact tO _ e pc j g c base b w H
   ·have k:=EW n m ih p q p.length rfl d.symm E po F G pc j b base g c B w (by omega) t z f h C D r l H;rw[<-d];exact k
 ·rw[if_neg d];exact EX p.length q.length a e pc j g c base w u A (by simp;omega)
theorem en.from{base g c:Nat}{o:Option (List An)}{w w1:World}(a:w.grownBy w1 (some g)){e:Ending}{w2:World}(k:en base g c o w1 e w2):en base g c o w e w2:=
 ⟨k.1,kN a k.2.1,k.2.2⟩
theorem E5(k E j F:Int)(s C:ByteArray)(a t:Option Addr)(l u pc v:Nat)(base g c:Nat)(b:List An)(o p:Option (List An))(D:Bool)(w:World)(I:Hid (mn base g c b w))(q:Hid (k=5->∀w1,ag w w1->ah 171 #[.slice (some ⟨g,0,none⟩) 4 c,.int .i64 E,.agg #[.int .i64 j,.int .i64 F,.string C,.slice t u v]] w1 (en base g c o w1)))(H:Hid (∀w1,ag w w1->ah 172 #[.slice (some ⟨g,0,none⟩) 4 c,.slice a l pc,.slice t u v] w1 (en base g c p w1)))(N:Hid (∀w1,ag w w1->ah 173 #[.agg #[.int .i64 k,.int .i64 E,.string s,.slice a l pc],.agg #[.int .i64 j,.int .i64 F,.string C,.slice t u v]] w1 λe w'=>∃r,e=.returned (.int .i64 r)/\Hid ((r==0)=D)/\ag w1 w')):ah 160 #[.slice (some ⟨g,0,none⟩) 4 c,.agg #[.int .i64 k,.int .i64 E,.string s,.slice a l pc],.agg #[.int .i64 j,.int .i64 F,.string C,.slice t u v]] w (en base g c (if k=6 then some b else if k=5 then o else if k=4 then (if j=4 then p else none)else if D then some b else none) w):=by
 have L:∀o p,ag w ((w.alloc o).alloc p):=λo p=>((ak _ _).alloc (ai _) _).alloc (by simp) _;have f:=aj L;clear L;by_cases i:k=6
 ·rw[if_pos i];subst i;go_enter Tryz.func160,Tryz.ntmps160;go_wp2_with fail
  go_ret
  exact⟨rfl,cF (f.out _ _) _,λA e=>by obtain rfl:=aq e;exact I.out.below (f.out _ _)⟩
 rw[if_neg i];have S:(k==6)=false:=by simpa using i
 by_cases d:k=5
 ·rw[if_pos d];have O:=aj (q.out d);have R:(k==5)=true:=by simpa using d
  clear d i q;go_enter Tryz.func160,Tryz.ntmps160;go_wp2_with fail;refine(O.out _ (f.out _ _)).mono ?_;rintro e w1 n;have x:=aj (en.from (cF (f.out _ _) _) n);obtain⟨rfl,_,_⟩:=n;go_wp2_with fail
  go_ret
  exact x.out
 rw[if_neg d];have R:(k==5)=false:=by simpa using d
 by_cases h:k=4
 ·rw[if_pos h];have P:(k==4)=true:=by simpa using h
  clear d i q;by_cases m:j=4
  ·rw[if_pos m];have Q:(j==4)=true:=by simpa using m
   clear h m;go_enter Tryz.func160,Tryz.ntmps160;go_wp2_with fail;refine(H.out _ (f.out _ _)).mono ?_;rintro e w1 n;have x:=aj (en.from (cF (f.out _ _) _) n);obtain⟨rfl,_,_⟩:=n;go_wp2_with fail
   all_goals go_ret
   all_goals exact x.out
  ·rw[if_neg m];have Q:(j==4)=false:=by simpa using m
   clear h m;go_enter Tryz.func160,Tryz.ntmps160;go_wp2_with fail
   go_ret
   exact⟨rfl,cF (f.out _ _) _,λA e=>by cases e⟩
 rw[if_neg h];have P:(k==4)=false:=by simpa using h
 clear h d i q H;obtain⟨M,B⟩:∃M,M=if D then some b else none:=⟨_,rfl⟩
 rw[<-B];have G:=aj B;clear B;go_enter Tryz.func160,Tryz.ntmps160;go_wp2_with fail;refine(N.out _ (f.out _ _)).mono ?_;rintro e w1 ⟨r,rfl,J,K⟩;have z:Hid (ag w w1):=(f.out _ _).trans (K.mono (f.out _ _).size);have y:=aj G.out;rw[Hid,<-J.out]at y;clear K J G;cases h0:r==0
 ·go_wp2_with fail
  go_ret
  have d:=y;rw[h0]at d;simp only[oo,if_false]at d;subst d;exact⟨rfl,cF z.out _,λA e=>by cases e⟩
 ·go_wp2_with fail
  go_ret
  have d:=y;rw[h0]at d;simp only[cH]at d;subst d;exact⟨rfl,cF z.out _,λA e=>by obtain rfl:=aq e;exact I.out.below z.out⟩
theorem Mt(n:Nat)(p:Tm (n+1))(m:Nat)(t:Tm (m+1))(b:List An):gG (n+1) p (m+1) t b=if p.1.1=6 then some b else if p.1.1=5 then tQ b p.1.2.1.toNat ⟨m+1,t⟩else if p.1.1=4 then (if t.1.1=4 then (if p.2.2.length=t.2.2.length then hU (λx y b=>gG n x m y b) p.2.2 t.2.2 b else none)else none)else if au (n+1) p (m+1) t then some b else none:=by
 simp only[gG];by_cases a:t.1.1=4<;>by_cases c:p.2.2.length=t.2.2.length<;>simp[a,c]
theorem MT(n:Nat)(p:Tm (n+1))(d:av ⟨n+1,p⟩)(e:p.1.1=5):∃k:Nat,k<4/\p.1.2.1=k:=by
 have a:=d (bu n p) (by simp[ar,bu]);have b:(bu n p).1.1=5:=e;have c:(bu n p).1.2.1=p.1.2.1:=rfl;simp[cm,b,pT]at a;rw[c]at a;exact⟨p.1.2.1.toNat,by omega,by omega⟩
theorem Hx(n:Nat):LZ n:=by
 induction n with
 | zero=>intro e j t b s u c l y d;exact d.elim
 | succ n ih=>
  intro e j t b s u c l y d v w x i z r;cases j with
  | zero=>exact v.elim
  | succ j=>
  have f:l<=y.heap.size:=by have:=r.lt;omega
  have C:=d;have H:=v;obtain⟨⟨_,_,_,I,D⟩,E⟩:=C;obtain⟨⟨_,_,_,J,F⟩,G⟩:=H;unfold maxLen at D F;rw[Mt];refine E5 e.1.1 e.1.2.1 t.1.1 t.1.2.1 e.1.2.2 t.1.2.2 e.2.1.1 t.2.1.1 e.2.2.length t.2.2.length e.2.1.2 t.2.1.2 s u c b _ _ _ y r ?_ ?_ ?_
  ·intro A q a;obtain⟨k,B,m⟩:=MT n e w A;rw[m];exact Ib b s u c l q k B j t (i.below (a.mono f)) (v.below (a.mono f)) x z (r.below a)
  ·intro q a;refine B8 n j ih e.2.2 t.2.2 e.2.1.1 t.2.1.1 e.2.1.2 t.2.1.2 b s u c l q ?_ ?_ (by omega) (by omega) (λh g=>aN n e h w g) (λh g=>aN j t h x g) (i.below (a.mono f)) z (r.below a)
   ·rcases E with d|⟨b,o,m,i,d⟩
    ·exact ae d
    ·exact af ⟨b,o,m,i,λp h g=>⟨(d p h g).1.below (a.mono f) i,(d p h g).2.below (a.mono f)⟩⟩
   ·rcases G with d|⟨b,o,m,i,d⟩
    ·exact ae d
    ·exact af ⟨b,o,m,i,λp h g=>⟨(d p h g).1.below (a.mono f) i,(d p h g).2.below (a.mono f)⟩⟩
  ·intro q a;exact AH ⟨n+1,e⟩ ⟨j+1,t⟩ l q (d.below (a.mono f)) (v.below (a.mono f)) (aw f a.size) w x
def mX(n:Nat)(q:List (Tm n)):List An:=q.map λx=>⟨n,x⟩
theorem mr(n:Nat)(q:List (Tm n)):(mX n q).length=q.length:=by simp[mX]
theorem Ch{n:Nat}{q:List (Tm n)}{w:World}{f po:Nat}(r:∀(i:Nat)(y:Tm n),q[i]?=some y->dy w f (po+i*4) n y):∀j b,(fF (mX n q))[j]?=some b->w.cell? ((⟨f,po,none⟩:Addr).add j)=some b:=by
 intro j b a;have d:=kj (mX n q);have s:j<q.length*4:=by
  rw[mr]at d;rw[<-d];exact(aL.1 a).1
 obtain⟨k,i,p,rfl⟩:∃k i,i<4/\j=k*4+i:=⟨j / 4,j % 4,Nat.mod_lt _ (by decide),by omega⟩;obtain⟨y,e⟩:∃y,q[k]?=some y:=⟨q[k]'(by omega),aD _⟩;have g:(fF (mX n q))[k*4+i]?=(ur (r9 ⟨n,y⟩))[i]? :=io _ k (r9 ⟨n,y⟩) (by simp[mX,e]) i p;rw[g]at a;have c:=r k y e;cases n with
 | zero=>exact c.elim
 | succ n=>
 obtain⟨h,l,m,o⟩:=c;rw[ez,<-Nat.add_assoc];have:i=0\/i=1\/i=2\/i=3:=by omega
 rcases this with rfl|rfl|rfl|rfl
 all_goals simp[ur,r9,fQ,bu]at a;subst a
 ·exact h
 ·exact l
 ·exact m
 ·exact o
theorem BW(n:Nat)(q:List (Tm n))(len l po pc:Nat)(w:World)(p:Hid (q.length=len))(F:0<len)(G:len<=1048576)(y:Hid (∀w1,ag w w1->∀j u,(fF (mX n q))[j]?=some u->w1.cell? ((⟨l,po,none⟩:Addr).add j)=some u)):ah 159 #[.slice (some ⟨l,po,none⟩) len pc] w λe w'=>∃g c,e=.returned (.slice (some ⟨g,0,none⟩) len c)/\Hid (ag w w'/\mn w.heap.size g c (mX n q) w'):=by
 obtain⟨C,o,r,s,t⟩:=bO fR;have a:=aj (⟨o,r,s,t⟩:_/\_/\_/\_);clear o r s t;have I:∀(w:World)(b:Option Addr)(n c i f:Nat),(binOp .eql 28 (.slice b n c) (.slice none i f)).run Tryz.prog w=.ok (.bool b.isNone) w:=λw b n c i f=>Lib.run_eql_slice_nil w _ _ b n c i f Tryz.underlying28;go_enter Tryz.func159,Tryz.ntmps159;go_wp2_with (at_builtin;refine wpList_append_own _ rfl _ _ 28 rfl w.heap.size 30 C _ 4 56 Tryz.underlying28 a.out.1 a.out.2.1 a.out.2.2.1 a.out.2.2.2 rfl (by decide) _ _ _ rfl (World.ownsRow_made w #[] 0 (ai _) (aB _) (by simp)) ⟨l,po,none⟩ len pc (fF (mX n q)) rfl ?qc1 ?qc2 ?qc3 ?qc4 ?qc5 ?qc6 ?_)
 case qc1=>rw[kj,mr,p.out]
 case qc2=>exact y.out _ ((ak _ _).alloc (ai _) _)
 case qc3=>exact zb _
 case qc4=>unfold maxLen;omega
 case qc5=>omega
 case qc6=>simp
 intro D w1 h m B;have v:Hid (∃g c,D=.slice (some ⟨g,0,none⟩) len c/\ag w w1/\mn w.heap.size g c (mX n q) w1):=by
  have z:ag w w1:=Below.grown ((ak _ _).alloc (ai _) _) m (by simp) (by intro k A;simp[Value.ownBlock]at A;omega);have d:=h;obtain⟨_,d⟩:=d;rcases d with⟨_,d⟩|⟨g,cap,E,rfl,H,_⟩
  ·omega
  ·refine⟨g,cap,rfl,z,?_⟩;unfold mn;rw[mr,p.out];exact h
 clear h m B;obtain⟨g,c,rfl,x⟩:=v.out;go_wp2_with fail
 go_ret
 exact⟨g,c,rfl,x⟩
end Go.Proofs.YtckamaoibonjcaaGreat
