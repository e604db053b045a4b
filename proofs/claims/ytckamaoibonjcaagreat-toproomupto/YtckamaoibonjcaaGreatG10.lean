/- What is proved here: plain facts and contracts that the claimed theorem stands on. No condition but those that each names. -/
import Derived.Test.YtckamaoibonjcaaGreatG09
import Derived.Lib.SliceRun
namespace Go.Proofs.YtckamaoibonjcaaGreat
open Go.RowKit
set_option maxHeartbeats 1000000
set_option maxRecDepth 100000
theorem g9(w:World)(s0 s1 b c d e:Value)(t1 t2 a:TypeId):aj w (((w.alloc (.cells #[s0,s1] t1)).alloc (.cells #[b,c,d,e] t2)).alloc (.cells #[ab 0,ab 0,af .empty,ae none 0 0] a))/\ np (w.heap.size+1+1) (((w.alloc (.cells #[s0,s1] t1)).alloc (.cells #[b,c,d,e] t2)).alloc (.cells #[ab 0,ab 0,af .empty,ae none 0 0] a)):=by
 refine⟨(((ap _ _).alloc (ak _) _).alloc (by simp) _).alloc (by simp;omega) _,⟨?_,?_,?_,?_⟩,⟨?_,?_,?_,?_⟩,?_⟩<;>simp[go_sem]
theorem KR{w W:World}{s0 s1 e f g h y0 y1 y2 a:Value}{t1 t2 c d:TypeId}(b:(((w.alloc (.cells #[s0,s1] t1)).alloc (.cells #[e,f,g,h] t2)).alloc (.cells #[ab 0,ab 0,af .empty,ae none 0 0] c)).alloc (.cells #[y0,y1,y2,a] d)=W):aj w W/\np (w.heap.size+1+1) W/\ (W.cell? ⟨w.heap.size+1+1+1,0,none⟩=some y0/\W.cell? ⟨w.heap.size+1+1+1,1,none⟩=some y1/\W.cell? ⟨w.heap.size+1+1+1,2,none⟩=some y2/\W.cell? ⟨w.heap.size+1+1+1,3,none⟩=some a)/\w.heap.size+1+1+1<W.heap.size:=by
 subst b;refine⟨mL _ _ _ _ _,⟨⟨?_,?_,?_,?_⟩,⟨?_,?_,?_,?_⟩,?_⟩,⟨?_,?_,?_,?_⟩,?_⟩<;>simp[go_sem]
theorem NW(N:Nat)(o:Option (Tm (N+1)))(a:Option Addr)(d:Int)(e:ByteArray)(xa:Option Addr)(f xc:Nat)(c:Nat)(self:Int)(w:World)(b:Hid (o=none)):am 164 #[.agg #[ae a 4 c,ab self],.agg #[ab 6,ab d,af e,ae xa f xc]] w (jJ (N+1) o w):=by
 go_enter Tryz.func164,Tryz.ntmps164;go_wp2_with fail;rw[b.out];exact av (v:=.tuple #[.agg #[ab 0,ab 0,af .empty,ae none 0 0],.bool false]) (by simp[results,Tryz.results164,go_sem];rfl) rfl (ke (g9 w _ _ _ _ _ _ _ _ _).1)
theorem NX(N:Nat)(o:Option (Tm (N+1)))(a:Option Addr)(p:Int)(q:ByteArray)(xa:Option Addr)(g xc:Nat)(c:Nat)(self:Int)(w:World)(e:Hid (∀w1,aj w w1->am 175 #[.agg #[ae a 4 c,ab self],ae xa g xc] w1 (jJ (N+1) o w1))):am 164 #[.agg #[ae a 4 c,ab self],.agg #[ab 4,ab p,af q,ae xa g xc]] w (jJ (N+1) o w):=by
 go_enter Tryz.func164,Tryz.ntmps164;go_wp2_with fail;refine(e.out _ (g9 w _ _ _ _ _ _ _ _ _).1).mono ?_;rintro x D ⟨b,j,rfl,d⟩;have h:=ao ((g9 w _ _ _ _ _ _ _ _ _).2.below d.out.1);have i:=λk l m n=>ao (vj (g9 w _ _ _ _ _ _ _ _ _).1 (jr w.heap.size 2) (g9 w _ _ _ _ _ _ _ _ _).2.2.2 d.out k l m n);obtain⟨⟨r,s,t,u⟩,⟨y,z,A,B⟩,C⟩:=h.out;have f:dj (N+1) b=.agg #[ab b.1.1,ab b.1.2.1,af b.1.2.2,ae b.2.1.1 b.2.2.length b.2.1.2]:=rfl;rw[f];clear d e f;go_wp2_with fail;exact av (v:=.tuple #[.agg #[ab b.1.1,ab b.1.2.1,af b.1.2.2,ae b.2.1.1 b.2.2.length b.2.1.2],.bool j]) (by simp[results,Tryz.results164,go_sem,r,s,t,u]) rfl (i _ _ _ _).out
theorem Nf(N:Nat)(o:Option (Tm (N+1)))(a:Option Addr)(b:Int)(h:Int)(i:ByteArray)(xa:Option Addr)(j xc:Nat)(n:Nat)(r:n<=N)(x:Tm (n+1))(c:Nat)(self:Int)(w:World)(I:¬b=4)(J:¬b=5)(K:¬b=6)(m:Hid (az ⟨n+1,x⟩))(f:Hid (∀w1,aj w w1->am 54 #[.agg #[ab b,ab h,af i,ae xa j xc]] w1 λe w'=>∃y:Tm (n+1),e=.returned (dj (n+1) y)/\Hid (aj w1 w'/\In w'.heap.size w' (n+1) y/\bZ (λq=>w1.heap.size<=q) (n+1) y/\ax (n+1) y (n+1) x=true)))(l:Hid (o=some (aO (N+1) (n+1) x))):am 164 #[.agg #[ae a 4 c,ab self],.agg #[ab b,ab h,af i,ae xa j xc]] w (jJ (N+1) o w):=by
 go_enter Tryz.func164,Tryz.ntmps164;go_wp2_with fail;refine(f.out _ (g9 w _ _ _ _ _ _ _ _ _).1).mono ?_;rintro e M ⟨y,rfl,d⟩;have k:=ao ((g9 w _ _ _ _ _ _ _ _ _).2.below d.out.1);have p:=λs t u z=>ao (vk r m.out (g9 w _ _ _ _ _ _ _ _ _).1 (jr w.heap.size 2) (g9 w _ _ _ _ _ _ _ _ _).2.2.2 d.out (ap _ _) true s t u z);obtain⟨⟨A,B,C,D⟩,⟨E,F,G,H⟩,L⟩:=k.out;have g:dj (n+1) y=.agg #[ab y.1.1,ab y.1.2.1,af y.1.2.2,ae y.2.1.1 y.2.2.length y.2.1.2]:=rfl;rw[g];clear d f g;go_wp2_with fail;rw[l.out];exact av (v:=.tuple #[.agg #[ab y.1.1,ab y.1.2.1,af y.1.2.2,ae y.2.1.1 y.2.2.length y.2.1.2],.bool true]) (by simp[results,Tryz.results164,go_sem,A,B,C,D]) rfl (p _ _ _ _).out
theorem NY(N:Nat)(o:Option (Tm (N+1)))(b bo:Nat)(k:Nat)(l:Int)(M:ByteArray)(xa:Option Addr)(Q xc:Nat)(n:Nat)(E:n<=N)(x:Tm (n+1))(c:Nat)(self:Int)(w:World)(A:l=(k:Int))(ar:k<4)(ap:b<w.heap.size)(F:dE w b (bo+k*4) (n+1) x)(t:Hid (az ⟨n+1,x⟩))(s:Hid (∀w1,aj w w1->am 54 #[.agg #[ab x.1.1,ab x.1.2.1,af x.1.2.2,ae x.2.1.1 x.2.2.length x.2.1.2]] w1 λe w'=>∃y:Tm (n+1),e=.returned (dj (n+1) y)/\Hid (aj w1 w'/\In w'.heap.size w' (n+1) y/\bZ (λq=>w1.heap.size<=q) (n+1) y/\ax (n+1) y (n+1) x=true)))(p:Hid (∀w1,am 170 #[.agg #[ab x.1.1,ab x.1.2.1,af x.1.2.2,ae x.2.1.1 x.2.2.length x.2.1.2]] w1 λe w'=>e=.returned (.bool (!(x.1.1==6)))/\aj w1 w'))(r:Hid (o=if (!(x.1.1==6))=true then some (aO (N+1) (n+1) x)else none)):am 164 #[.agg #[ae (some ⟨b,bo,none⟩) 4 c,ab self],.agg #[ab 5,ab l,af M,ae xa Q xc]] w (jJ (N+1) o w):=by
 go_enter Tryz.func164,Tryz.ntmps164;obtain⟨K,L,O,P⟩:=F;subst A;generalize x.2.2.length=R at*;generalize (!(x.1.1==6))=cl at*;have au:(0:Int)<=(k:Int):=by omega
 have aw:(k:Int)<4:=by omega
 have al:b<w.heap.size+1:=by omega
 have an:b<w.heap.size+1+1:=by omega
 go_wp2_with fail;generalize i:World.alloc (World.alloc (World.alloc (World.alloc w _) _) _) _=X;obtain⟨g,h,⟨Y,Z,aa,ad⟩,B⟩:=KR i;have HB:=ao g;have f:=ao h;clear i g h K L O P;have z:∀y:Tm (n+1),dj (n+1) y=.agg #[ab y.1.1,ab y.1.2.1,af y.1.2.2,ae y.2.1.1 y.2.2.length y.2.1.2]:=λ_=>rfl
 go_region_held3 (λw'=>w'.cell? ⟨w.heap.size+1+1+1,0,none⟩=some (ab x.1.1)/\w'.cell? ⟨w.heap.size+1+1+1,1,none⟩=some (ab x.1.2.1)/\w'.cell? ⟨w.heap.size+1+1+1,2,none⟩=some (af x.1.2.2)/\w'.cell? ⟨w.heap.size+1+1+1,3,none⟩=some (ae x.2.1.1 R x.2.1.2))
  (go_keep) ((first|(go_at_call 54;refine(s.out _ HB.out.drew).mono ?_;rintro e j ⟨y,rfl,a⟩;rw[z];have C:=aq (cF a.out.1);have W:Hid (aj w j):=(HB.out.drew).trans (a.out.1.mono HB.out.size);have ay:w.heap.size+1+1+1<j.heap.size:=aN B a.out.1.size)|(go_at_call 170;refine(p.out _).mono ?_;rintro e aB ⟨rfl,d⟩;have D:=aq d;have m:=ao ((f.out.below (cF a.out.1)).below d);obtain⟨⟨S,T,U,V⟩,⟨ag,ah,ai,ak⟩,aA⟩:=m.out)))
 have u:=λG H I J=>ao (vk E t.out HB.out.drew (jr w.heap.size 2) f.out.2.2 a.out d cl G H I J);clear a C D d;go_wp2_with fail;rw[r.out];exact av (v:=.tuple #[.agg #[ab y.1.1,ab y.1.2.1,af y.1.2.2,ae y.2.1.1 y.2.2.length y.2.1.2],.bool cl]) (by simp[results,Tryz.results164,go_sem,S,T,U,V]) rfl (u _ _ _ _).out
def vL(m n:Nat)(self:Int)(f:Tm n->Option (Tm (m+n)))(p:List (Tm n)):Option (Tm (m+n+1)):=
 if tj n p pn 0 then some (bK 3 self (m+n))
 else if tj n p vm 2 then (p[1]?).bind λa=>(p[2]?).bind λc=>(f a).bind λa=>(f c).bind λc=>s9 (m+n) a c
 else if tj n p BI 1 then (p[1]?).bind λa=>if aJ n a then some (aO (m+n+1) n a)else none
 else (cE f p).map (cX (m+n))
theorem JZ(m:Nat)(b:List (Tm m))(self:Int)(n:Nat)(x:Tm (n+1))(a:x.1.1=4):vl m b self (n+1) x=vL m n self (λy=>vl m b self n y) x.2.2:=by simp[vl,a,vL]
theorem JY(m:Nat)(b:List (Tm m))(self:Int)(n:Nat)(x:Tm (n+1))(a:x.1.1=6):vl m b self (n+1) x=none:=by simp[vl,a]
theorem EI(m:Nat)(b:List (Tm m))(self:Int)(n:Nat)(x:Tm (n+1))(a:x.1.1≠4)(c:x.1.1≠5)(d:x.1.1≠6):vl m b self (n+1) x=some (aO (m+n+1) (n+1) x):=by simp[vl,a,c,d]
theorem Ni(m:Nat)(b:List (Tm m))(self:Int)(n:Nat)(x:Tm (n+1))(y:Tm m)(k:Nat)(a:x.1.1=5)(c:x.1.2.1=(k:Int))(d:b[k]?=some y):vl m b self (n+1) x=if bO ⟨m,y⟩=6 then none else some (aO (m+n+1) m y):=by
 simp[vl,a,c,d]
theorem Aw{n:Nat}{p:List (Tm n)}{s:ByteArray}{k:Nat}(a:tj n p s k=true):p.length=1+k:=by
 by_cases b:p.length=1+k
 ·exact b
 ·rw[Ek b]at a;cases a
theorem IR{N:Nat}{o:Option (Tm N)}(d:∀a,o=some a->az ⟨N,a⟩):Nz o:=by
 intro a g e;have c:=d a g;cases N with
 | zero=>exact(dd c).elim
 | succ N=>
  have b:=c (bA N a) (by simp[aw,bA]);have f:a.1.1=1:=e;simp only[cv,bA,f,qd,aA,cI]at b;exact⟨fN b.1.2.1,fN b.1.2.2⟩
theorem DG(m:Nat)(b:List (Tm m))(self:Int)(O:fY m b=true)(N:1<=self/\self<=99)(n:Nat)(ih:Mq m b self n)(p:List (Tm n))(pa:Option Addr)(pc:Nat)(a:Option Addr)(c B:Nat)(w:World)(L:p.length<=8)(g:fp B w n p pa)(v:∀y∈p,az ⟨n,y⟩)(C:fp B w m b a)(f:B<=w.heap.size):am 175 #[.agg #[ae a 4 c,ab self],ae pa p.length pc] w (jJ (m+n+1) (vL m n self (λy=>vl m b self n y) p) w):=by
 have D:=λW k (Q:k<=8) h (e:aj w h)=>CD n p pa pc B W k h (g.below (e.mono f)) L Q;have j:=D pn 0 (by omega);have o:=D vm 2 (by omega);have r:=D BI 1 (by omega);have K:∀y∈b,az ⟨m,y⟩:=λy i=>((gU O).2 y i).2.1;cases e1:tj n p pn 0
 ·rw[e1]at j;cases e2:tj n p vm 2
  ·rw[e2]at o;cases e3:tj n p BI 1
   ·rw[e3]at r;refine LK (m+n) _ a c self pa p.length pc w j o r ?_;intro h e;have P:=BC m b self n ih p p.length rfl pa pc a c B h L (g.below (e.mono f)) v (C.below (e.mono f)) (ay f e.size);simpa [vL,e1,e2,e3]using P
   ·rw[e3]at r;have s:=Aw e3;rcases g with g|⟨G,po,rfl,R,g⟩
    ·rw[g]at s;simp at s
    ·obtain⟨y,i⟩:∃y,p[1]?=some y:=⟨p[1]'(by omega),aH _⟩;obtain⟨u,x⟩:=g 1 y i;have t:=v y (aG i);have z:vL m n self (λy=>vl m b self n y) p=if aJ n y=true then some (aO (m+n+1) n y)else none:=by simp[vL,e1,e2,e3,i]
     rw[z];cases n with
     | zero=>exact u.elim
     | succ n=>
     rw[show p.length=2 by omega]at j o r ⊢;refine Nk (m+(n+1)) _ a c self G po n (by omega) y (aJ (n+1) y) pc w j o r (by omega) (by simpa using u) t ?_ ?_ rfl
     ·intro h e;exact gW (n+1) y B h (x.below (e.mono f)) (ay f e.size) t
     ·intro h e;exact iu (n+1) y B h (x.below (e.mono f)) (ay f e.size)
  ·rw[e2]at o;have s:=Aw e2;rcases g with g|⟨G,po,rfl,R,g⟩
   ·rw[g]at s;simp at s
   ·obtain⟨d,E⟩:∃d,p[1]?=some d:=⟨p[1]'(by omega),aH _⟩;obtain⟨y,i⟩:∃y,p[2]?=some y:=⟨p[2]'(by omega),aH _⟩;obtain⟨S,T⟩:=g 1 d E;obtain⟨u,x⟩:=g 2 y i;have M:=v d (aG E);have t:=v y (aG i);have z:vL m n self (λy=>vl m b self n y) p=vI (vl m b self n d) (vl m b self n y):=by simp[vL,e1,e2,E,i,vI]
    rw[z];have U:=IR λJ F=>vi m b self N K n d M J F;have V:=IR λJ F=>vi m b self N K n y t J F;cases n with
    | zero=>exact u.elim
    | succ n=>
    rw[show p.length=3 by omega]at j o ⊢;refine Nj (m+(n+1)) _ a c self G po d.1.1 d.1.2.1 d.1.2.2 d.2.1.1 d.2.2.length d.2.1.2 y.1.1 y.1.2.1 y.1.2.2 y.2.1.1 y.2.2.length y.2.1.2 pc w j o (by omega) (by simpa [dE]using S) (by simpa [dE]using u) ?_;intro h e;refine JG (m+(n+1)) _ _ U V a c self d.1.1 d.1.2.1 d.1.2.2 d.2.1.1 d.2.2.length d.2.1.2 y.1.1 y.1.2.1 y.1.2.2 y.2.1.1 y.2.2.length y.2.1.2 h ?_ ?_
    ·intro H q;refine sE (m+n) _ a c self d.1.1 d.1.2.1 d.1.2.2 d.2.1.1 d.2.2.length d.2.1.2 H ?_;intro I A;have l:=(e.trans ((q.trans (A.mono q.size)).mono e.size));exact ih d a c B I (T.below (l.mono f)) M (C.below (l.mono f)) (ay f l.size)
    ·intro H q;refine sE (m+n) _ a c self y.1.1 y.1.2.1 y.1.2.2 y.2.1.1 y.2.2.length y.2.1.2 H ?_;intro I A;have l:=(e.trans ((q.trans (A.mono q.size)).mono e.size));exact ih y a c B I (x.below (l.mono f)) t (C.below (l.mono f)) (ay f l.size)
 ·rw[e1]at j;exact LM (m+n) _ a c self ⟨by omega,by omega⟩ pa p.length pc w j (by simp[Hid,vL,e1])
theorem GX(m:Nat)(b:List (Tm m))(self:Int)(z:fY m b=true)(J:1<=self/\self<=99)(n:Nat):Mq m b self n:=by
 induction n with
 | zero=>intro a j c q p v;exact v.elim
 | succ n ih=>
  intro a j c q p v u h g;obtain⟨y,H⟩:=gU z;have t:=u (bA n a) (by simp[aw,bA]);have I:a.2.2.length<=8:=lO (bA n a) t;by_cases s:a.1.1=6
  ·have f:=NW (m+n) (vl m b self (n+1) a) j a.1.2.1 a.1.2.2 a.2.1.1 a.2.2.length a.2.1.2 c self p (JY m b self n a s);rw[<-s]at f;exact f
  ·by_cases l:a.1.1=5
   ·have O:0<=a.1.2.1/\a.1.2.1<=3:=by
      have D:¬(5:Int)=1:=by decide
      have E:¬(5:Int)=2:=by decide
      have F:¬(5:Int)=3:=by decide
      have G:¬(5:Int)=4:=by decide
      simp only[cv,bA,l,qd,aA,cI,D,E,F,G,if_false]at t;exact⟨fN t.1.2.1,fN t.1.2.2⟩
    obtain⟨k,A⟩:∃k:Nat,a.1.2.1=(k:Int):=⟨a.1.2.1.toNat,by omega⟩;obtain⟨d,o⟩:∃d,b[k]?=some d:=⟨b[k]'(by omega),aH _⟩;have w:=(H d (aG o)).2.1;have C:=Ni m b self n a d k l A o;have M:=h;rcases h with h|⟨B,bo,rfl,N,h⟩
    ·rw[h]at y;simp at y
    ·obtain⟨K,L⟩:=h k d o;cases m with
     | zero=>exact(dd w).elim
     | succ m=>
     have f:=NY (m+1+n) (vl (m+1) b self (n+1) a) B bo k a.1.2.1 a.1.2.2 a.2.1.1 a.2.2.length a.2.1.2 m (by omega) d c self p A (by omega) (by omega) K w
      (λi e=>gW (m+1) d q i (L.below (e.mono g)) (ay g e.size) w)
      (λi=>iZ d.1.1 d.1.2.1 d.1.2.2 d.2.1.1 d.2.2.length d.2.1.2 i)
      (by
       show vl (m+1) b self (n+1) a=_;rw[C];by_cases x:d.1.1=6
       ·simp[bO,x]
       ·simp[bO,x])
     rw[<-l]at f;exact f
   ·by_cases r:a.1.1=4
    ·have f:=NX (m+n) (vl m b self (n+1) a) j a.1.2.1 a.1.2.2 a.2.1.1 a.2.2.length a.2.1.2 c self p (by
       intro i e;rw[JZ m b self n a r]
       exact DG m b self z J n ih a.2.2 a.2.1.1 a.2.1.2 j c q i I (fp.below (e.mono g) v.2) (λd o=>aT n a d u o) (h.below (e.mono g)) (ay g e.size))
     rw[<-r]at f;exact f
    ·exact Nf (m+n) (vl m b self (n+1) a) j a.1.1 a.1.2.1 a.1.2.2 a.2.1.1 a.2.2.length a.2.1.2 n (by omega) a c self p r l s u
       (λi e=>gW (n+1) a q i (v.below (e.mono g)) (ay g e.size) u) (EI m b self n a r l s)
def vq(N:Nat):Tm (N+1):=bK 0 0 N
def zq(N:Nat)(E:Int)(o:Option (Tm (N+1)))(w:World)(e:Ending)(w':World):Prop:=
 ∃a:Tm (N+1),e=.returned (.tuple #[dj (N+1) a,ab (Ez E (nu E o))])/\Hid (aj w w'/\In w'.heap.size w' (N+1) a/\bZ (λb=>w.heap.size<=b) (N+1) a/\ax (N+1) a (N+1) ((nu E o).getD (vq N))=true)
theorem oz{N:Nat}{E:Int}{o:Option (Tm (N+1))}{w w':World}{a:Int}(c:aj w w')(b:nu E o=none)(d:a=Ez E (nu E o)):zq N E o w (.returned (.tuple #[.agg #[ab 0,ab 0,af .empty,ae none 0 0],ab a])) w':=by
 refine⟨vq N,by rw[d];rfl,c,(kL N 0 0 iY iY _ _ (λ_=>True)).1,(kL N 0 0 iY iY 0 w _).2,?_⟩;rw[b];exact wh N 0 0
theorem Lt{N:Nat}{E:Int}{o:Option (Tm (N+1))}{a:Tm (N+1)}{w w1 w2 j:World}{y:Tm (N+1)}{q:Nat}(e:E=0)(n:o=some a)(l:bu (N+1) a=0)(f:aj w w1)(p:w.heap.size<=q)(t:q<w1.heap.size)(h:aj w1 w2)(r:In w2.heap.size w2 (N+1) y)(i:bZ (λq=>w1.heap.size<=q) (N+1) y)(s:ax (N+1) y (N+1) a=true)(c:aj w2 j)(v0 v1 v2 v3:Value):zq N E o w (.returned (.tuple #[.agg #[ab y.1.1,ab y.1.2.1,af y.1.2.2,ae y.2.1.1 y.2.2.length y.2.1.2],ab 0])) (cJ j q 0 v0 v1 v2 v3):=by
 have g:=f.size;have k:=(f.trans (h.mono g)).trans (c.mono (ay g h.size));have d:nu E o=some a:=by simp[nu,e,n,l]
 refine⟨y,by rw[d];simp[Ez,e,dj],cW k p _ _ _ _,?_,i.mono λb m=>by omega,by rw[d];exact s⟩;rw[bm];exact In.off (P:=λb=>w1.heap.size<=b) (λb m=>aV (by omega) _ _ _ _) i ((r.below c).mono c.size)
theorem Bb{c:Int}{bd:Bool}{self:Int}(a:EA c bd self=0):c=0/\bd=true/\1<=self/\self<=99:=by
 unfold EA at a;split at a
 ·split at a
  ·split at a
   ·rename_i b d e;exact⟨b,d,e⟩
   ·cases a
  ·cases a
 ·rename_i b;exact absurd a b
theorem GW{m n:Nat}{b:List (Tm m)}{self:Int}{x:Tm (n+1)}{a:Tm (m+n+1)}(c:bu (n+1) x=0)(d:fY m b=true)(h:vl m b self (n+1) x=some a):(aw (m+n+1) a).length<=2097152:=by
 have f:=nz c;have e:=BG m b self 201 (by omega) (λi g=>nz ((gU d).2 i g).1) (n+1) x a h;have:201*(aw (n+1) x).length<=201*201:=Nat.mul_le_mul_left 201 f;exact ay e (by omega)
theorem tz(w:World)(a b c d:Value)(t1 t2:TypeId):aj w ((w.alloc (.cells #[a,b,c,d] t1)).alloc (.cells #[ab 0,ab 0,af .empty,ae none 0 0] t2))/\np (w.heap.size+1) ((w.alloc (.cells #[a,b,c,d] t1)).alloc (.cells #[ab 0,ab 0,af .empty,ae none 0 0] t2)):=by
 refine⟨((ap _ _).alloc (ak _) _).alloc (by simp) _,⟨?_,?_,?_,?_⟩,⟨?_,?_,?_,?_⟩,?_⟩<;>simp[go_sem]
theorem DE{w w':World}{b c d e y0 y1 y2 f:Value}{t1 t2:TypeId}(g:Below ((w.alloc (.cells #[b,c,d,e] t1)).alloc (.cells #[y0,y1,y2,f] t2)).heap.size ((w.alloc (.cells #[b,c,d,e] t1)).alloc (.cells #[y0,y1,y2,f] t2)) w'):w'.cell? ⟨w.heap.size,0,none⟩=some b/\w'.cell? ⟨w.heap.size,1,none⟩=some c/\w'.cell? ⟨w.heap.size,2,none⟩=some d/\w'.cell? ⟨w.heap.size,3,none⟩=some e:=by
 have a:=λo=>g.cell (p:=⟨w.heap.size,o,none⟩) (by simp;omega);exact⟨(a 0).trans (by simp[go_sem]),(a 1).trans (by simp[go_sem]),(a 2).trans (by simp[go_sem]),(a 3).trans (by simp[go_sem])⟩
theorem Bc(N:Nat)(o:Option (Tm (N+1)))(a:Option Addr)(Y c:Nat)(self:Int)(ah ai:Int)(al:ByteArray)(xa:Option Addr)(an xc:Nat)(l:Int)(bd:Bool)(w:World)(ar:Hid (∀w1,aj w w1->am 51 #[.agg #[ab ah,ab ai,af al,ae xa an xc]] w1 λe w'=>e=.returned (ab l)/\aj w1 w'))(aq:Hid (∀w1,aj w w1->am 158 #[ae a Y c] w1 λe w'=>e=.returned (.bool bd)/\aj w1 w'))(r:Hid (EA l bd self=0->∀w1,aj w w1->am 164 #[.agg #[ae a Y c,ab self],.agg #[ab ah,ab ai,af al,ae xa an xc]] w1 (jJ (N+1) o w1)))(p:Hid (EA l bd self=0->∀(y f:Tm (N+1))(w1:World),o=some f->ax (N+1) y (N+1) f=true->In w1.heap.size w1 (N+1) y->am 51 #[.agg #[ab y.1.1,ab y.1.2.1,af y.1.2.2,ae y.2.1.1 y.2.2.length y.2.1.2]] w1 λe w'=>e=.returned (ab (bu (N+1) f))/\aj w1 w')):am 139 #[.agg #[ab ah,ab ai,af al,ae xa an xc],ae a Y c,ab self] w (zq N (EA l bd self) o w):=by
 obtain⟨E,U⟩:∃E,E=EA l bd self:=⟨_,rfl⟩;rw[<-U]at r p ⊢;have m:=ao U;clear U;go_enter Tryz.func139,Tryz.ntmps139;go_wp2_with fail;refine(ar.out _ (tz w _ _ _ _ _ _).1).mono ?_;rintro e w1 ⟨rfl,M⟩;have az:=ao (DE M);have A:Hid (aj w w1):=(tz w _ _ _ _ _ _).1.trans (M.mono (tz w _ _ _ _ _ _).1.size);have J:=ao ((tz w _ _ _ _ _ _).2.below M);clear M ar;by_cases d:l=0
 case neg=>
  have aM:(l !=0)=true:=by simpa using d
  have b:Hid (E=l/\l≠0):=⟨by rw[m.out];simp[EA,d],d⟩;obtain⟨⟨g,h,i,j⟩,⟨C,D,F,G⟩,x⟩:=J.out;clear r m d p;go_wp2_with fail;exact av (v:=.tuple #[.agg #[ab 0,ab 0,af .empty,ae none 0 0],ab l]) (by simp[results,Tryz.results139,go_sem,g,h,i,j];rfl) rfl (oz (cW A.out (by omega) _ _ _ _) (by simp[nu,b.out.1,b.out.2]) (by simp[Ez,b.out.1,b.out.2]))
 have aM:(l !=0)=false:=by simp[d]
 go_wp2_with fail;refine(aq.out _ A.out).mono ?_;rintro e aE ⟨rfl,O⟩;have aA:=ao (ny (Nat.lt_of_succ_lt J.out.2.2) O az.out);have n:Hid (aj w aE):=A.out.trans (O.mono A.out.size);have q:=ao (J.out.below O);clear O aq A az J;cases bd
 ·have b:Hid (E=5):=by rw[Hid,m.out];simp[EA,d]
  obtain⟨⟨g,h,i,j⟩,⟨C,D,F,G⟩,x⟩:=q.out;clear r m d p;go_wp2_with fail;exact av (v:=.tuple #[.agg #[ab 0,ab 0,af .empty,ae none 0 0],ab 5]) (by simp[results,Tryz.results139,go_sem,g,h,i,j];rfl) rfl (oz (cW n.out (by omega) _ _ _ _) (by simp[nu,b.out]) (by simp[Ez,b.out]))
 ·by_cases aC:self<1
  ·have aI:decide (self<1)=true:=by simpa using aC
   have b:Hid (E=1):=by rw[Hid,m.out];simp only[EA,d,cI];rw[if_neg (by omega)]
   obtain⟨⟨g,h,i,j⟩,⟨C,D,F,G⟩,x⟩:=q.out;clear r m d p;go_wp2_with fail;exact av (v:=.tuple #[.agg #[ab 0,ab 0,af .empty,ae none 0 0],ab 1]) (by simp[results,Tryz.results139,go_sem,g,h,i,j];rfl) rfl (oz (cW n.out (by omega) _ _ _ _) (by simp[nu,b.out]) (by simp[Ez,b.out]))
  ·have aI:decide (self<1)=false:=by simpa using aC
   by_cases aD:99<self
   ·have aJ:decide (99<self)=true:=by simpa using aD
    have b:Hid (E=1):=by rw[Hid,m.out];simp only[EA,d,cI];rw[if_neg (by omega)]
    obtain⟨⟨g,h,i,j⟩,⟨C,D,F,G⟩,x⟩:=q.out;clear r m d p;go_wp2_with fail;exact av (v:=.tuple #[.agg #[ab 0,ab 0,af .empty,ae none 0 0],ab 1]) (by simp[results,Tryz.results139,go_sem,g,h,i,j];rfl) rfl (oz (cW n.out (by omega) _ _ _ _) (by simp[nu,b.out]) (by simp[Ez,b.out]))
   ·have aJ:decide (99<self)=false:=by simpa using aD
    have B:Hid (E=0):=by rw[Hid,m.out];simp only[EA,d,cI];rw[if_pos (by omega)]
    obtain⟨aQ,aR,aS,aT⟩:=aA.out;have aV:w.heap.size<aE.heap.size:=Nat.lt_of_succ_lt q.out.2.2;clear m d;go_wp2_with fail;refine(r.out B.out _ n.out).mono ?_;rintro e z ⟨y,aP,rfl,k⟩;have P:Hid (aj w z):=n.out.trans (k.out.1.mono n.out.size);have K:=ao (q.out.below k.out.1);have aB:dj (N+1) y=.agg #[ab y.1.1,ab y.1.2.1,af y.1.2.2,ae y.2.1.1 y.2.2.length y.2.1.2]:=rfl;rw[aB];clear r aB aQ aR aS aT aA;cases aP
    ·have au:Hid (o=none):=by
       have:=k.out.2.2.2.1;cases o with
       | none=>rfl
       | some f=>cases this
     obtain⟨⟨g,h,i,j⟩,⟨C,D,F,G⟩,x⟩:=K.out;clear k p;go_wp2_with fail;exact av (v:=.tuple #[.agg #[ab 0,ab 0,af .empty,ae none 0 0],ab 7]) (by simp[results,Tryz.results139,go_sem,g,h,i,j,x];rfl) rfl (oz ((cW P.out (by omega) _ _ _ _).alloc (by rw[bm];omega) _) (by simp[nu,au.out]) (by simp[Ez,nu,au.out,B.out]))
    ·obtain⟨f,X⟩:∃f,o=some f:=by
       have:=k.out.2.2.2.1;cases o with
       | none=>cases this
       | some f=>exact⟨f,rfl⟩
     have L:=ao X;have ay:=ao (k.out.2.2.2.2 f X)
     have S:Hid (∀w1,aj z w1->am 51 #[.agg #[ab y.1.1,ab y.1.2.1,af y.1.2.2,ae y.2.1.1 y.2.2.length y.2.1.2]] w1 λe w'=>e=.returned (ab (bu (N+1) f))/\aj w1 w'):=
      λw1 t=>p.out B.out y f w1 L.out ay.out ((k.out.2.1.below t).mono t.size)
     obtain⟨s,W⟩:∃s,s=bu (N+1) f:=⟨_,rfl⟩;rw[<-W]at S;have R:=ao W;have T:=λ(I:World)(aL:aj z I)(aK:s=0) Z aa ad ag=>ao (Lt (E:=E) B.out L.out (R.out.symm.trans aK) n.out (jr _ 1) q.out.2.2 k.out.1 k.out.2.1 k.out.2.2.1 ay.out aL Z aa ad ag);clear X W p k q n;go_wp2_with fail;refine(S.out _ ((ap _ _).alloc (ak _) _)).mono ?_;rintro e I ⟨rfl,V⟩;obtain⟨⟨aW,aX,aY,aZ⟩,_⟩:=DT V;have Q:Hid (aj z I):=((ap _ _).alloc (ak _) _).trans (V.mono (by simp));have aF:=ao (K.out.below Q.out);have aH:Hid (aj w I):=P.out.trans (Q.out.mono P.out.size);obtain⟨⟨g,h,i,j⟩,⟨C,D,F,G⟩,x⟩:=aF.out;have aO:¬(w.heap.size+1=z.heap.size):=by have:=K.out.2.2;omega
     have aU:¬(z.heap.size=w.heap.size+1):=λe=>aO e.symm;clear V S K;by_cases u:s=0
     ·have aN:(s !=0)=false:=by simp[u]
      have aG:=λZ aa ad ag=>T I Q.out u Z aa ad ag;clear T u;go_wp2_with fail;exact av (v:=.tuple #[.agg #[ab y.1.1,ab y.1.2.1,af y.1.2.2,ae y.2.1.1 y.2.2.length y.2.1.2],ab 0]) (by simp[results,Tryz.results139,go_sem,g,h,i,j]) rfl (aG _ _ _ _).out
     ·have aN:(s !=0)=true:=by simpa using u
      have aw:=ao u;clear T u;go_wp2_with fail;exact av (v:=.tuple #[.agg #[ab 0,ab 0,af .empty,ae none 0 0],ab 7]) (by simp[results,Tryz.results139,go_sem,g,h,i,j];rfl) rfl (oz (cW aH.out (by omega) _ _ _ _) (by have t:=R.out;have H:=aw.out;rw[t]at H;simp[nu,L.out,H]) (by have t:=R.out;have H:=aw.out;rw[t]at H;simp[Ez,nu,L.out,B.out,H]))
theorem Dc(n m:Nat)(x:Tm (n+1))(b:List (Tm m))(a:Option Addr)(c B:Nat)(self:Int)(w:World)(p:In B w (n+1) x)(k:fp B w m b a)(f:B<=w.heap.size)(r:(aw (n+1) x).length<=2097152)(t:b.length<=9223372036854775807)(s:∀y∈b,(aw m y).length<=2097152):am 139 #[dj (n+1) x,ae a b.length c,ab self] w (zq (m+n) (EA (bu (n+1) x) (fY m b) self) (vl m b self (n+1) x) w):=by
 refine Bc (m+n) _ a b.length c self x.1.1 x.1.2.1 x.1.2.2 x.2.1.1 x.2.2.length x.2.1.2 (bu (n+1) x) (fY m b) w ?_ ?_ ?_ ?_
 ·intro e d;exact dD (n+1) x B e (p.below (d.mono f)) (ay f d.size) r
 ·intro e d;exact zy m b a c B e (k.below (d.mono f)) t s (ay f d.size)
 ·intro i e d;obtain⟨h,g,j⟩:=Bb i;have q:=(gU g).1;rw[q];exact GX m b self g j (n+1) x a c B e (p.below (d.mono f)) (aL.2 (bw.1 h).1) (k.below (d.mono f)) (ay f d.size)
 ·intro i y A e z o u;obtain⟨h,g,j⟩:=Bb i;have v:=GW h g z;have l:=dD (m+n+1) y e.heap.size e u (ak _) (by rw[j8 _ _ _ _ o];exact v);rw[bM o]at l;exact l
theorem Bg{n m b a:Nat}{x:Tm n}{y:Tm m}{x':Tm b}{c:Tm a}(e:ax n x b x'=true)(k:ax m y a c=true):ax n x m y=ax b x' a c:=by
 cases d:ax b x' a c with
 | true=>exact bQ _ _ _ _ _ _ e (bQ _ _ _ _ _ _ d (dK _ _ _ _ k))
 | false=>
  cases e2:ax n x m y with
  | false=>rfl
  | true=>
   have f:=bQ _ _ _ _ _ _ (dK _ _ _ _ e) (bQ _ _ _ _ _ _ e2 k);rw[d]at f;cases f
def nO:Option (List An)->Option (List An)->Prop
 | none,none=>True
 | some b,some c=>aC dT b c=true
 | _,_=>False
theorem uo{x y:An}(a:dT x y=true):bO x=bO y:=by
 obtain⟨n,x⟩:=x;obtain⟨b,y⟩:=y;cases n with
 | zero=>simp[dT,ax]at a
 | succ n=>
  cases b with
  | zero=>simp[dT,ax]at a
  | succ b=>
   simp only[dT,ax,aA,cm]at a;exact a.1.1.1
theorem tG{c d:Type}{f:c->d->Bool}{a:c}{b:d}(e:f a b=true):(p:List c)->(q:List d)->(i:Nat)->aC f p q=true->aC f (p.set i a) (q.set i b)=true
 | [],[],_,_=>by simp[aC]
 | [],_::_,_,h=>by simp[aC]at h
 | _::_,[],_,h=>by simp[aC]at h
 | x::p,y::q,0,h=>by
  simp only[aC,aA]at h;simp[aC,e,h.2]
 | x::p,y::q,i+1,h=>by
  simp only[aC,aA]at h;simp[aC,h.1,tG e p q i h.2]
theorem Cn{b c:List An}{i:Nat}{t h:An}(f:aC dT b c=true)(j:dT t h=true):nO (ub b i t) (ub c i h):=by
 have o:=cD _ _ _ f;unfold ub;cases e:b[i]? with
 | none=>
  have a:c[i]?=none:=by
   rw[List.getElem?_eq_none_iff]at e ⊢;omega
  rw[a];trivial
 | some g=>
  obtain⟨n,m⟩:=aR.1 e;have a:c[i]?=some c[i]:=aH (by omega);rw[a];have k:dT g c[i]=true:=je _ _ _ f i _ _ e a;simp only;rw[<-uo k];by_cases d:bO g=6
  ·rw[if_pos d,if_pos d];exact tG j _ _ _ f
  ·rw[if_neg d,if_neg d];have l:dT g t=dT c[i] h:=Bg k j;rw[<-l];cases dT g t
   ·simp[nO]
   ·simpa [nO]using f
theorem ua{n r o s:Type}(f:n->r->List An->Option (List An))(g:o->s->List An->Option (List An))(P:n->o->Bool)(Q:r->s->Bool):(p:List n)->(q:List r)->(a:List o)->(h:List s)->(∀x∈p,∀y∈q,∀x' k b c,P x x'=true->Q y k=true->aC dT b c=true->nO (f x y b) (g x' k c))->aC P p a=true->aC Q q h=true->∀b c,aC dT b c=true->nO (im f p q b) (im g a h c)
 | [],_,a,_,_,i,_,b,c,l=>by
  cases a with
  | nil=>simpa [im,nO]using l
  | cons _ _=>simp[aC]at i
 | x::p,[],a,h,_,i,j,b,c,l=>by
  cases h with
  | nil=>cases a<;>simpa [im,nO]using l
  | cons _ _=>simp[aC]at j
 | x::p,y::q,a,h,hf,i,j,b,c,l=>by
  cases a with
  | nil=>simp[aC]at i
  | cons x' a=>
   cases h with
   | nil=>simp[aC]at j
   | cons k h=>
    simp only[aC,aA]at i j;have e:=hf x (by simp) y (by simp) x' k b c i.1 j.1 l;simp only[im];cases e1:f x y b with
    | none=>
     rw[e1]at e;cases m:g x' k c with
     | none=>simp[nO]
     | some _=>rw[m]at e;exact e.elim
    | some d=>
     rw[e1]at e;cases m:g x' k c with
     | none=>rw[m]at e;exact e.elim
     | some t=>
      rw[m]at e;simp only[dh];exact ua f g P Q p q a h (λx u y v=>hf x (by simp[u]) y (by simp[v])) i.2 j.2 d t e
theorem lN:(n:Nat)->(p:Tm n)->(m:Nat)->(t:Tm m)->(d:Nat)->(j:Tm d)->(a:Nat)->(k:Tm a)->(b c:List An)->ax n p d j=true->ax m t a k=true->aC dT b c=true->nO (gQ n p m t b) (gQ d j a k c)
 | 0,_,_,_,_,_,_,_,_,_,h,_,_=>by simp[ax]at h
 | _+1,_,_,_,0,_,_,_,_,_,h,_,_=>by simp[ax]at h
 | _+1,_,0,_,_+1,_,_,_,_,_,_,h,_=>by simp[ax]at h
 | _+1,_,_+1,_,_+1,_,0,_,_,_,_,h,_=>by simp[ax]at h
 | n+1,p,m+1,t,d+1,j,a+1,k,b,c,hp,ht,hb=>by
  have v:=hp;have l:=ht;simp only[ax,aA,cm]at hp ht;obtain⟨⟨⟨w,z⟩,B⟩,o⟩:=hp;obtain⟨⟨⟨t1,t2⟩,C⟩,q⟩:=ht;unfold gQ;rw[<-w,<-z,<-t1,<-cD _ _ _ o,<-cD _ _ _ q];by_cases g:p.1.1=6
  ·rw[if_pos g,if_pos g];exact hb
  ·rw[if_neg g,if_neg g];by_cases f:p.1.1=5
   ·rw[if_pos f,if_pos f];exact Cn hb l
   ·rw[if_neg f,if_neg f];by_cases e:p.1.1=4
    ·rw[if_pos e,if_pos e];by_cases i:t.1.1=4/\p.2.2.length=t.2.2.length
     ·rw[if_pos i,if_pos i];exact ua _ _ (λx y=>ax n x d y) (λx y=>ax m x a y) p.2.2 t.2.2 j.2.2 k.2.2 (λx _ y _ x' A b c r s u=>lN n x m y d x' a A b c r s u) o q b c hb
     ·rw[if_neg i,if_neg i];trivial
    ·rw[if_neg e,if_neg e,<-Bg v l];cases ax (n+1) p (m+1) t
     ·simp[nO]
     ·simpa [nO]using hb
theorem Ap{w w':World}{g:Nat}(c:w.grownBy w' (some g)):∀b o,b<w.heap.size->b≠g->w'.cell? ⟨b,o,none⟩=w.cell? ⟨b,o,none⟩:=
 λb o d e=>World.cell?_of_block (a:=⟨b,o,none⟩) (c.block b d (by simpa using e))
theorem qA{w w':World}{row:Option Nat}(a:w.drew.grownBy w' row):w.grownBy w' row:=⟨a.os,a.tape,a.output,a.size,a.block⟩
theorem Fj(p q:Nat)(a d:Option Addr)(pc h:Nat)(g c:Nat)(base:Nat)(w:World)(_hpc:p<=9223372036854775807)(_hqc:q<=9223372036854775807)(f:((p:Int)==(q:Int))=false):am 172 #[ae (some ⟨g,0,none⟩) 4 c,ae a p pc,ae d q h] w (ey base g c none w):=by
 have i:((p:Int) !=(q:Int))=true:=by simpa using f
 go_enter Tryz.func172,Tryz.ntmps172;go_wp2_with fail
 go_ret
 exact⟨rfl,gm _ _,λb e=>by cases e⟩
theorem t8(a e:Option Addr)(pc i:Nat)(g c:Nat)(base:Nat)(b:List An)(w:World)(H:mD base g c b w):am 172 #[ae (some ⟨g,0,none⟩) 4 c,ae a 0 pc,ae e 0 i] w (ey base g c (some b) w):=by
 have d:=ao H;clear H;go_enter Tryz.func172,Tryz.ntmps172;go_wp2_with fail
 go_loop [16] (λh=>h=ab 0) (λ_=>0)
 case atStart=>rfl
 case round=>
  obtain rfl:=hrel;go_wp2_with fail
  go_ret
  exact⟨rfl,gm _ _,λj f=>by obtain rfl:=au f;exact d.out⟩
theorem Fi(n m:Nat)(ih:Mo n)(p:List (Tm n))(q:List (Tm m))(len:Nat)(ad:Hid (p.length=len))(aC:Hid (q.length=len))(K po d j pc aD:Nat)(b:List An)(base g c B:Nat)(w:World)(aK:len<=9223372036854775807)(aA:K<B)(aB:d<B)(aa:∀(i:Nat)(y:Tm n),p[i]?=some y->dE w K (po+i*4) n y/\In B w n y)(ag:∀(i:Nat)(y:Tm m),q[i]?=some y->dE w d (j+i*4) m y/\In B w m y)(ah:∀y∈p,az ⟨n,y⟩)(ai:∀y∈q,az ⟨m,y⟩)(V:Hid (BS B w b))(U:B<=base)(H:Hid (mD base g c b w)):am 172 #[ae (some ⟨g,0,none⟩) 4 c,ae (some ⟨K,po,none⟩) len pc,ae (some ⟨d,j,none⟩) len aD] w (ey base g c (im (λx y b=>gQ n x m y b) p q b) w):=by
 have W:B<=g:=ay U H.out.lt.1;have X:g<w.heap.size:=H.out.lt.2;go_enter Tryz.func172,Tryz.ntmps172;go_wp2_with fail;go_loopw [16] (λi wr=>∃k:Nat,k<=len/\i=ab k/\Hid (w.grownBy wr (some g)/\∃a,mD base g c a wr/\BS B wr a/\im (λx y b=>gQ n x m y b) (p.drop k) (q.drop k) a=im (λx y b=>gQ n x m y b) p q b)) (λi _=>len-(intOf i).toNat)
 case atStart=>exact⟨0,by omega,rfl,gm _ _,b,H.out,V.out,rfl⟩
 case round=>
  obtain⟨k,aF,rfl,v⟩:=hrel;by_cases Z:k<len
  ·obtain⟨x,E⟩:∃x,p[k]?=some x:=⟨p[k]'(by rw[ad.out];exact Z),aH _⟩;obtain⟨y,I⟩:∃y,q[k]?=some y:=⟨q[k]'(by rw[aC.out];exact Z),aH _⟩;obtain⟨l,a,L,u,t⟩:Hid (w.grownBy wr (some g))/\∃a,Hid (mD base g c a wr)/\Hid (BS B wr a)/\Hid (im (λx y b=>gQ n x m y b) (p.drop k) (q.drop k) a=im (λx y b=>gQ n x m y b) p q b):=v.out;clear v;obtain⟨F,G⟩:=aa k x E;obtain⟨J,r⟩:=ag k y I;have z:=ao (Fl (λx y b=>gQ n x m y b) p q k x y E I a);have T:=ao (ah x (aG E));have N:=ao (ai y (aG I));have o:=nD l.out W X;replace F:=F.below o aA;replace J:=J.below o aB;replace G:=G.below o;replace r:=r.below o;have aE:g<wr.heap.size:=aN X l.out.size;have D:B<=wr.heap.size:=by omega
   clear aa ag E I ah ai V H o;cases n with
   | zero=>exact F.elim
   | succ n=>
   cases m with
   | zero=>exact J.elim
   | succ m=>
   obtain⟨aR,aS,aT,aU⟩:=F;obtain⟨y0,y1,y2,aV⟩:=J
   have Q:Hid (∀(h:World),aj wr h->am 160 #[ae (some ⟨g,0,none⟩) 4 c,.agg #[ab x.1.1,ab x.1.2.1,af x.1.2.2,ae x.2.1.1 x.2.2.length x.2.1.2],.agg #[ab y.1.1,ab y.1.2.1,af y.1.2.2,ae y.2.1.1 y.2.2.length y.2.1.2]] h (ey base g c (gQ (n+1) x (m+1) y a) h)):=
    λh C=>ih x (m+1) y a base g c B h (G.below (C.mono D)) (r.below (C.mono D)) T.out N.out (u.out.below (C.mono D)) U (L.out.below C)
   have M:Hid (∀s e,gQ (n+1) x (m+1) y a=s->s=some e->BS B wr e):=λs e av aw=>u.out.fit r N.out (av.trans aw);clear ih G r T N u;replace z:Hid (im (λx y b=>gQ (n+1) x (m+1) y b) (p.drop k) (q.drop k) a=(gQ (n+1) x (m+1) y a).bind (im (λx y b=>gQ (n+1) x (m+1) y b) (p.drop (k+1)) (q.drop (k+1)))):=z;generalize gQ (n+1) x (m+1) y a=s at*;generalize x.2.2.length=al at*;generalize y.2.2.length=yl at*;have aI:(0:Int)<=(k:Int):=by omega
   have aJ:(k:Int)<(len:Int):=by omega
   have aL:K<wr.heap.size:=by omega
   have aO:d<wr.heap.size:=by omega
   have aP:d<wr.heap.size+1:=by omega
   have aM:d≠g:=by omega
   have aQ:wr.heap.size≠g:=by omega
   have an:=ao (Q.out (wr.alloc (.cells #[ab x.1.1,ab x.1.2.1,af x.1.2.2,ae x.2.1.1 al x.2.1.2] 30)).drew (((ap _ _).alloc (ak _) _).drew));clear Q;go_wp2_with fail
   go_region_held3 (λf=>f.cell? ⟨wr.heap.size,0,none⟩=some (ab x.1.1)/\f.cell? ⟨wr.heap.size,1,none⟩=some (ab x.1.2.1)/\f.cell? ⟨wr.heap.size,2,none⟩=some (af x.1.2.2)/\f.cell? ⟨wr.heap.size,3,none⟩=some (ae x.2.1.1 al x.2.1.2)
       /\f.cell? ⟨d,j+k*4,none⟩=some (ab y.1.1)/\f.cell? ⟨d,j+k*4+1,none⟩=some (ab y.1.2.1)/\f.cell? ⟨d,j+k*4+2,none⟩=some (af y.1.2.2)/\f.cell? ⟨d,j+k*4+3,none⟩=some (ae y.2.1.1 yl y.2.1.2))
    (go_keep) ((go_at_call 160;refine an.out.mono ?_;rintro A h ⟨rfl,O,Y⟩;have ax:=Ap (qA O);have R:=ao (qA O);have aq:=ao Y;clear O Y))
   have S:Hid (w.grownBy h (some g)):=kY l.out (kY (cZ wr _ _) R.out);clear ax;cases s with
   | some e=>
    have ar:Hid (BS B h e):=(M.out _ e rfl rfl).below ((((ap _ _).alloc (ak _) _).mono D).trans (nD R.out W (by simp;omega)));clear M;simp only[mA];go_wp2_with fail;go_roundw
    case rel=>exact⟨k+1,by omega,by go_num,S.out,e,aq.out e rfl,ar.out,by rw[<-t.out,z.out];rfl⟩
    case measure=>simp[intOf];omega
   | none=>
    clear M;simp only[mx];go_wp2_with fail
    go_ret
    have P:im (λx y b=>gQ (n+1) x (m+1) y b) p q b=none:=by rw[<-t.out,z.out];rfl
    rw[P];exact⟨rfl,S.out,λa A=>by cases A⟩
  ·obtain⟨l,a,L,u,t⟩:Hid (w.grownBy wr (some g))/\∃a,Hid (mD base g c a wr)/\Hid (BS B wr a)/\Hid (im (λx y b=>gQ n x m y b) (p.drop k) (q.drop k) a=im (λx y b=>gQ n x m y b) p q b):=v.out;clear v;go_wp2_with fail
   go_ret
   have P:im (λx y b=>gQ n x m y b) p q b=some a:=by rw[<-t.out,jj (by rw[ad.out];omega)];rfl
   rw[P];exact⟨rfl,l.out,λe A=>by obtain rfl:=au A;exact L.out⟩
theorem Cm(n m:Nat)(ih:Mo n)(p:List (Tm n))(q:List (Tm m))(a e:Option Addr)(pc j:Nat)(b:List An)(base g c B:Nat)(w:World)(f:p=[]\/∃b o,a=some ⟨b,o,none⟩/\b<B/\∀(i:Nat)(y:Tm n),p[i]?=some y->dE w b (o+i*4) n y/\In B w n y)(h:q=[]\/∃b o,e=some ⟨b,o,none⟩/\b<B/\∀(i:Nat)(y:Tm m),q[i]?=some y->dE w b (o+i*4) m y/\In B w m y)(u:p.length<=9223372036854775807)(A:q.length<=9223372036854775807)(C:∀y∈p,az ⟨n,y⟩)(D:∀y∈q,az ⟨m,y⟩)(r:BS B w b)(l:B<=base)(H:mD base g c b w):am 172 #[ae (some ⟨g,0,none⟩) 4 c,ae a p.length pc,ae e q.length j] w (ey base g c (if p.length=q.length then im (λx y b=>gQ n x m y b) p q b else none) w):=by
 by_cases d:p.length=q.length
 ·rw[if_pos d];rcases f with f|⟨E,po,rfl,t,f⟩
  ·subst f;have v:q=[]:=bH d.symm;subst v;exact t8 a e pc j g c base b w H
  ·rcases h with h|⟨F,G,rfl,z,h⟩
   ·subst h;have s:p=[]:=bH d;subst s;exact t8 _ e pc j g c base b w H
   ·have k:=Fi n m ih p q p.length rfl d.symm E po F G pc j b base g c B w (by omega) t z f h C D r l H;rw[<-d];exact k
 ·rw[if_neg d];exact Fj p.length q.length a e pc j g c base w u A (by simp;omega)
theorem ey.from{base g c:Nat}{o:Option (List An)}{w w1:World}(a:w.grownBy w1 (some g)){e:Ending}{w2:World}(k:ey base g c o w1 e w2):ey base g c o w e w2:=
 ⟨k.1,kY a k.2.1,k.2.2⟩
theorem Fp(k E j F:Int)(s C:ByteArray)(a t:Option Addr)(l u pc v:Nat)(base g c:Nat)(b:List An)(o p:Option (List An))(D:Bool)(w:World)(I:Hid (mD base g c b w))(q:Hid (k=5->∀w1,aj w w1->am 171 #[ae (some ⟨g,0,none⟩) 4 c,ab E,.agg #[ab j,ab F,af C,ae t u v]] w1 (ey base g c o w1)))(H:Hid (∀w1,aj w w1->am 172 #[ae (some ⟨g,0,none⟩) 4 c,ae a l pc,ae t u v] w1 (ey base g c p w1)))(N:Hid (∀w1,aj w w1->am 173 #[.agg #[ab k,ab E,af s,ae a l pc],.agg #[ab j,ab F,af C,ae t u v]] w1 λe w'=>∃r,e=.returned (ab r)/\Hid ((r==0)=D)/\aj w1 w')):am 160 #[ae (some ⟨g,0,none⟩) 4 c,.agg #[ab k,ab E,af s,ae a l pc],.agg #[ab j,ab F,af C,ae t u v]] w (ey base g c (if k=6 then some b else if k=5 then o else if k=4 then (if j=4 then p else none)else if D then some b else none) w):=by
 have L:∀o p,aj w ((w.alloc o).alloc p):=λo p=>((ap _ _).alloc (ak _) _).alloc (by simp) _;have f:=ao L;clear L;by_cases i:k=6
 ·rw[if_pos i];subst i;go_enter Tryz.func160,Tryz.ntmps160;go_wp2_with fail
  go_ret
  exact⟨rfl,cM (f.out _ _) _,λA e=>by obtain rfl:=au e;exact I.out.below (f.out _ _)⟩
 rw[if_neg i];have S:(k==6)=false:=by simpa using i
 by_cases d:k=5
 ·rw[if_pos d];have O:=ao (q.out d);have R:(k==5)=true:=by simpa using d
  clear d i q;go_enter Tryz.func160,Tryz.ntmps160;go_wp2_with fail;refine(O.out _ (f.out _ _)).mono ?_;rintro e w1 n;have x:=ao (ey.from (cM (f.out _ _) _) n);obtain⟨rfl,_,_⟩:=n;go_wp2_with fail
  go_ret
  exact x.out
 rw[if_neg d];have R:(k==5)=false:=by simpa using d
 by_cases h:k=4
 ·rw[if_pos h];have P:(k==4)=true:=by simpa using h
  clear d i q;by_cases m:j=4
  ·rw[if_pos m];have Q:(j==4)=true:=by simpa using m
   clear h m;go_enter Tryz.func160,Tryz.ntmps160;go_wp2_with fail;refine(H.out _ (f.out _ _)).mono ?_;rintro e w1 n;have x:=ao (ey.from (cM (f.out _ _) _) n);obtain⟨rfl,_,_⟩:=n;go_wp2_with fail
   all_goals go_ret
   all_goals exact x.out
  ·rw[if_neg m];have Q:(j==4)=false:=by simpa using m
   clear h m;go_enter Tryz.func160,Tryz.ntmps160;go_wp2_with fail
   go_ret
   exact⟨rfl,cM (f.out _ _) _,λA e=>by cases e⟩
 rw[if_neg h];have P:(k==4)=false:=by simpa using h
 clear h d i q H;obtain⟨M,B⟩:∃M,M=if D then some b else none:=⟨_,rfl⟩
 rw[<-B];have G:=ao B;clear B;go_enter Tryz.func160,Tryz.ntmps160;go_wp2_with fail;refine(N.out _ (f.out _ _)).mono ?_;rintro e w1 ⟨r,rfl,J,K⟩;have z:Hid (aj w w1):=(f.out _ _).trans (K.mono (f.out _ _).size);have y:=ao G.out;rw[Hid,<-J.out]at y;clear K J G;cases h0:r==0
 ·go_wp2_with fail
  go_ret
  have d:=y;rw[h0]at d;simp only[oE,if_false]at d;subst d;exact⟨rfl,cM z.out _,λA e=>by cases e⟩
 ·go_wp2_with fail
  go_ret
  have d:=y;rw[h0]at d;simp only[cI]at d;subst d;exact⟨rfl,cM z.out _,λA e=>by obtain rfl:=au e;exact I.out.below z.out⟩
theorem MM(n:Nat)(p:Tm (n+1))(m:Nat)(t:Tm (m+1))(b:List An):gQ (n+1) p (m+1) t b=if p.1.1=6 then some b else if p.1.1=5 then ub b p.1.2.1.toNat ⟨m+1,t⟩else if p.1.1=4 then (if t.1.1=4 then (if p.2.2.length=t.2.2.length then im (λx y b=>gQ n x m y b) p.2.2 t.2.2 b else none)else none)else if ax (n+1) p (m+1) t then some b else none:=by
 simp only[gQ];by_cases a:t.1.1=4<;>by_cases c:p.2.2.length=t.2.2.length<;>simp[a,c]
theorem Ng(n:Nat)(p:Tm (n+1))(d:az ⟨n+1,p⟩)(e:p.1.1=5):∃k:Nat,k<4/\p.1.2.1=k:=by
 have a:=d (bA n p) (by simp[aw,bA]);have b:(bA n p).1.1=5:=e;have c:(bA n p).1.2.1=p.1.2.1:=rfl;simp[cv,b,qd]at a;rw[c]at a;exact⟨p.1.2.1.toNat,by omega,by omega⟩
theorem Ir(n:Nat):Mo n:=by
 induction n with
 | zero=>intro e j t b s u c l y d;exact d.elim
 | succ n ih=>
  intro e j t b s u c l y d v w x i z r;cases j with
  | zero=>exact v.elim
  | succ j=>
  have f:l<=y.heap.size:=by have:=r.lt;omega
  have C:=d;have H:=v;obtain⟨⟨_,_,_,I,D⟩,E⟩:=C;obtain⟨⟨_,_,_,J,F⟩,G⟩:=H;unfold maxLen at D F;rw[MM];refine Fp e.1.1 e.1.2.1 t.1.1 t.1.2.1 e.1.2.2 t.1.2.2 e.2.1.1 t.2.1.1 e.2.2.length t.2.2.length e.2.1.2 t.2.1.2 s u c b _ _ _ y r ?_ ?_ ?_
  ·intro A q a;obtain⟨k,B,m⟩:=Ng n e w A;rw[m];exact Ix b s u c l q k B j t (i.below (a.mono f)) (v.below (a.mono f)) x z (r.below a)
  ·intro q a;refine Cm n j ih e.2.2 t.2.2 e.2.1.1 t.2.1.1 e.2.1.2 t.2.1.2 b s u c l q ?_ ?_ (by omega) (by omega) (λh g=>aT n e h w g) (λh g=>aT j t h x g) (i.below (a.mono f)) z (r.below a)
   ·rcases E with d|⟨b,o,m,i,d⟩
    ·exact ah d
    ·exact ai ⟨b,o,m,i,λp h g=>⟨(d p h g).1.below (a.mono f) i,(d p h g).2.below (a.mono f)⟩⟩
   ·rcases G with d|⟨b,o,m,i,d⟩
    ·exact ah d
    ·exact ai ⟨b,o,m,i,λp h g=>⟨(d p h g).1.below (a.mono f) i,(d p h g).2.below (a.mono f)⟩⟩
  ·intro q a;exact AV ⟨n+1,e⟩ ⟨j+1,t⟩ l q (d.below (a.mono f)) (v.below (a.mono f)) (ay f a.size) w x
def ns(n:Nat)(q:List (Tm n)):List An:=q.map λx=>⟨n,x⟩
theorem mF(n:Nat)(q:List (Tm n)):(ns n q).length=q.length:=by simp[ns]
theorem Cv{n:Nat}{q:List (Tm n)}{w:World}{f po:Nat}(r:∀(i:Nat)(y:Tm n),q[i]?=some y->dE w f (po+i*4) n y):∀j b,(fP (ns n q))[j]?=some b->w.cell? ((⟨f,po,none⟩:Addr).add j)=some b:=by
 intro j b a;have d:=kB (ns n q);have s:j<q.length*4:=by
  rw[mF]at d;rw[<-d];exact(aR.1 a).1
 obtain⟨k,i,p,rfl⟩:∃k i,i<4/\j=k*4+i:=⟨j / 4,j % 4,Nat.mod_lt _ (by decide),by omega⟩;obtain⟨y,e⟩:∃y,q[k]?=some y:=⟨q[k]'(by omega),aH _⟩;have g:(fP (ns n q))[k*4+i]?=(uF (sA ⟨n,y⟩))[i]? :=iC _ k (sA ⟨n,y⟩) (by simp[ns,e]) i p;rw[g]at a;have c:=r k y e;cases n with
 | zero=>exact c.elim
 | succ n=>
 obtain⟨h,l,m,o⟩:=c;rw[eF,<-Nat.add_assoc];have:i=0\/i=1\/i=2\/i=3:=by omega
 rcases this with rfl|rfl|rfl|rfl
 all_goals simp[uF,sA,gd,bA]at a;subst a
 ·exact h
 ·exact l
 ·exact m
 ·exact o
theorem Ce(n:Nat)(q:List (Tm n))(len l po pc:Nat)(w:World)(p:Hid (q.length=len))(F:0<len)(G:len<=1048576)(y:Hid (∀w1,aj w w1->∀j u,(fP (ns n q))[j]?=some u->w1.cell? ((⟨l,po,none⟩:Addr).add j)=some u)):am 159 #[ae (some ⟨l,po,none⟩) len pc] w λe w'=>∃g c,e=.returned (ae (some ⟨g,0,none⟩) len c)/\Hid (aj w w'/\mD w.heap.size g c (ns n q) w'):=by
 obtain⟨C,o,r,s,t⟩:=bS ge;have a:=ao (⟨o,r,s,t⟩:_/\_/\_/\_);clear o r s t;have I:∀(w:World)(b:Option Addr)(n c i f:Nat),(binOp .eql 28 (ae b n c) (ae none i f)).run Tryz.prog w=.ok (.bool b.isNone) w:=λw b n c i f=>Lib.run_eql_slice_nil w _ _ b n c i f Tryz.underlying28;go_enter Tryz.func159,Tryz.ntmps159;go_wp2_with (at_builtin;refine wpList_append_own _ rfl _ _ 28 rfl w.heap.size 30 C _ 4 56 Tryz.underlying28 a.out.1 a.out.2.1 a.out.2.2.1 a.out.2.2.2 rfl (by decide) _ _ _ rfl (World.ownsRow_made w #[] 0 (ak _) (aE _) (by simp)) ⟨l,po,none⟩ len pc (fP (ns n q)) rfl ?qc1 ?qc2 ?qc3 ?qc4 ?qc5 ?qc6 ?_)
 case qc1=>rw[kB,mF,p.out]
 case qc2=>exact y.out _ ((ap _ _).alloc (ak _) _)
 case qc3=>exact zv _
 case qc4=>unfold maxLen;omega
 case qc5=>omega
 case qc6=>simp
 intro D w1 h m B;have v:Hid (∃g c,D=ae (some ⟨g,0,none⟩) len c/\aj w w1/\mD w.heap.size g c (ns n q) w1):=by
  have z:aj w w1:=Below.grown ((ap _ _).alloc (ak _) _) m (by simp) (by intro k A;simp[Value.ownBlock]at A;omega);have d:=h;obtain⟨_,d⟩:=d;rcases d with⟨_,d⟩|⟨g,cap,E,rfl,H,_⟩
  ·omega
  ·refine⟨g,cap,rfl,z,?_⟩;unfold mD;rw[mF,p.out];exact h
 clear h m B;obtain⟨g,c,rfl,x⟩:=v.out;go_wp2_with fail
 go_ret
 exact⟨g,c,rfl,x⟩
end Go.Proofs.YtckamaoibonjcaaGreat
