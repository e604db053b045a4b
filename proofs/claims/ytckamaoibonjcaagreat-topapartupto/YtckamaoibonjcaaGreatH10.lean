/- What is proved here: plain facts and contracts that the claimed theorem stands on. No condition but those that each names. -/
import Derived.Test.YtckamaoibonjcaaGreatH09
import Derived.Lib.SliceRun
namespace Go.Proofs.YtckamaoibonjcaaGreat
open Go.RowKit
set_option maxHeartbeats 1000000
set_option maxRecDepth 100000
theorem gW(w:World)(s0 s1 b c d e:Value)(t1 t2 a:TypeId):ai w (((w.alloc (.cells #[s0,s1] t1)).alloc (.cells #[b,c,d,e] t2)).alloc (.cells #[ab 0,ab 0,ae .empty,.slice none 0 0] a))/\ ng (w.heap.size+1+1) (((w.alloc (.cells #[s0,s1] t1)).alloc (.cells #[b,c,d,e] t2)).alloc (.cells #[ab 0,ab 0,ae .empty,.slice none 0 0] a)):=by
 refine⟨(((am _ _).alloc (aj _) _).alloc (by simp) _).alloc (by simp;omega) _,⟨?_,?_,?_,?_⟩,⟨?_,?_,?_,?_⟩,?_⟩<;>simp[go_sem]
theorem KS{w W:World}{s0 s1 e f g h y0 y1 y2 a:Value}{t1 t2 c d:TypeId}(b:(((w.alloc (.cells #[s0,s1] t1)).alloc (.cells #[e,f,g,h] t2)).alloc (.cells #[ab 0,ab 0,ae .empty,.slice none 0 0] c)).alloc (.cells #[y0,y1,y2,a] d)=W):ai w W/\ng (w.heap.size+1+1) W/\ (W.cell? ⟨w.heap.size+1+1+1,0,none⟩=some y0/\W.cell? ⟨w.heap.size+1+1+1,1,none⟩=some y1/\W.cell? ⟨w.heap.size+1+1+1,2,none⟩=some y2/\W.cell? ⟨w.heap.size+1+1+1,3,none⟩=some a)/\w.heap.size+1+1+1<W.heap.size:=by
 subst b;refine⟨mG _ _ _ _ _,⟨⟨?_,?_,?_,?_⟩,⟨?_,?_,?_,?_⟩,?_⟩,⟨?_,?_,?_,?_⟩,?_⟩<;>simp[go_sem]
theorem NZ(N:Nat)(o:Option (Tm (N+1)))(a:Option Addr)(d:Int)(e:ByteArray)(xa:Option Addr)(f xc:Nat)(c:Nat)(self:Int)(w:World)(b:Hid (o=none)):ak 164 #[.agg #[.slice a 4 c,ab self],.agg #[ab 6,ab d,ae e,.slice xa f xc]] w (jA (N+1) o w):=by
 go_enter Tryz.func164,Tryz.ntmps164;go_wp2_with fail;rw[b.out];exact ar (v:=.tuple #[.agg #[ab 0,ab 0,ae .empty,.slice none 0 0],.bool false]) (by simp[results,Tryz.results164,go_sem];rfl) rfl (jU (gW w _ _ _ _ _ _ _ _ _).1)
theorem N0(N:Nat)(o:Option (Tm (N+1)))(a:Option Addr)(p:Int)(q:ByteArray)(xa:Option Addr)(g xc:Nat)(c:Nat)(self:Int)(w:World)(e:Hid (∀w1,ai w w1->ak 175 #[.agg #[.slice a 4 c,ab self],.slice xa g xc] w1 (jA (N+1) o w1))):ak 164 #[.agg #[.slice a 4 c,ab self],.agg #[ab 4,ab p,ae q,.slice xa g xc]] w (jA (N+1) o w):=by
 go_enter Tryz.func164,Tryz.ntmps164;go_wp2_with fail;refine(e.out _ (gW w _ _ _ _ _ _ _ _ _).1).mono ?_;rintro x D ⟨b,j,rfl,d⟩;have h:=ao ((gW w _ _ _ _ _ _ _ _ _).2.below d.out.1);have i:=λk l m n=>ao (vj (gW w _ _ _ _ _ _ _ _ _).1 (jk w.heap.size 2) (gW w _ _ _ _ _ _ _ _ _).2.2.2 d.out k l m n);obtain⟨⟨r,s,t,u⟩,⟨y,z,A,B⟩,C⟩:=h.out;have f:df (N+1) b=.agg #[ab b.1.1,ab b.1.2.1,ae b.1.2.2,.slice b.2.1.1 b.2.2.length b.2.1.2]:=rfl;rw[f];clear d e f;go_wp2_with fail;exact ar (v:=.tuple #[.agg #[ab b.1.1,ab b.1.2.1,ae b.1.2.2,.slice b.2.1.1 b.2.2.length b.2.1.2],.bool j]) (by simp[results,Tryz.results164,go_sem,r,s,t,u]) rfl (i _ _ _ _).out
theorem Nh(N:Nat)(o:Option (Tm (N+1)))(a:Option Addr)(b:Int)(h:Int)(i:ByteArray)(xa:Option Addr)(j xc:Nat)(n:Nat)(r:n<=N)(x:Tm (n+1))(c:Nat)(self:Int)(w:World)(I:¬b=4)(J:¬b=5)(K:¬b=6)(m:Hid (aA ⟨n+1,x⟩))(f:Hid (∀w1,ai w w1->ak 54 #[.agg #[ab b,ab h,ae i,.slice xa j xc]] w1 λe w'=>∃y:Tm (n+1),e=.returned (df (n+1) y)/\Hid (ai w1 w'/\In w'.heap.size w' (n+1) y/\bZ (λq=>w1.heap.size<=q) (n+1) y/\aw (n+1) y (n+1) x=true)))(l:Hid (o=some (aN (N+1) (n+1) x))):ak 164 #[.agg #[.slice a 4 c,ab self],.agg #[ab b,ab h,ae i,.slice xa j xc]] w (jA (N+1) o w):=by
 go_enter Tryz.func164,Tryz.ntmps164;go_wp2_with fail;refine(f.out _ (gW w _ _ _ _ _ _ _ _ _).1).mono ?_;rintro e M ⟨y,rfl,d⟩;have k:=ao ((gW w _ _ _ _ _ _ _ _ _).2.below d.out.1);have p:=λs t u z=>ao (vk r m.out (gW w _ _ _ _ _ _ _ _ _).1 (jk w.heap.size 2) (gW w _ _ _ _ _ _ _ _ _).2.2.2 d.out (am _ _) true s t u z);obtain⟨⟨A,B,C,D⟩,⟨E,F,G,H⟩,L⟩:=k.out;have g:df (n+1) y=.agg #[ab y.1.1,ab y.1.2.1,ae y.1.2.2,.slice y.2.1.1 y.2.2.length y.2.1.2]:=rfl;rw[g];clear d f g;go_wp2_with fail;rw[l.out];exact ar (v:=.tuple #[.agg #[ab y.1.1,ab y.1.2.1,ae y.1.2.2,.slice y.2.1.1 y.2.2.length y.2.1.2],.bool true]) (by simp[results,Tryz.results164,go_sem,A,B,C,D]) rfl (p _ _ _ _).out
theorem N1(N:Nat)(o:Option (Tm (N+1)))(b bo:Nat)(k:Nat)(l:Int)(M:ByteArray)(xa:Option Addr)(Q xc:Nat)(n:Nat)(E:n<=N)(x:Tm (n+1))(c:Nat)(self:Int)(w:World)(A:l=(k:Int))(aq:k<4)(an:b<w.heap.size)(F:dr w b (bo+k*4) (n+1) x)(t:Hid (aA ⟨n+1,x⟩))(s:Hid (∀w1,ai w w1->ak 54 #[.agg #[ab x.1.1,ab x.1.2.1,ae x.1.2.2,.slice x.2.1.1 x.2.2.length x.2.1.2]] w1 λe w'=>∃y:Tm (n+1),e=.returned (df (n+1) y)/\Hid (ai w1 w'/\In w'.heap.size w' (n+1) y/\bZ (λq=>w1.heap.size<=q) (n+1) y/\aw (n+1) y (n+1) x=true)))(p:Hid (∀w1,ak 170 #[.agg #[ab x.1.1,ab x.1.2.1,ae x.1.2.2,.slice x.2.1.1 x.2.2.length x.2.1.2]] w1 λe w'=>e=.returned (.bool (!(x.1.1==6)))/\ai w1 w'))(r:Hid (o=if (!(x.1.1==6))=true then some (aN (N+1) (n+1) x)else none)):ak 164 #[.agg #[.slice (some ⟨b,bo,none⟩) 4 c,ab self],.agg #[ab 5,ab l,ae M,.slice xa Q xc]] w (jA (N+1) o w):=by
 go_enter Tryz.func164,Tryz.ntmps164;obtain⟨K,L,O,P⟩:=F;subst A;generalize x.2.2.length=R at*;generalize (!(x.1.1==6))=cl at*;have au:(0:Int)<=(k:Int):=by omega
 have av:(k:Int)<4:=by omega
 have al:b<w.heap.size+1:=by omega
 have am:b<w.heap.size+1+1:=by omega
 go_wp2_with fail;generalize i:World.alloc (World.alloc (World.alloc (World.alloc w _) _) _) _=X;obtain⟨g,h,⟨Y,Z,aa,ad⟩,B⟩:=KS i;have HB:=ao g;have f:=ao h;clear i g h K L O P;have z:∀y:Tm (n+1),df (n+1) y=.agg #[ab y.1.1,ab y.1.2.1,ae y.1.2.2,.slice y.2.1.1 y.2.2.length y.2.1.2]:=λ_=>rfl
 go_region_held3 (λw'=>w'.cell? ⟨w.heap.size+1+1+1,0,none⟩=some (ab x.1.1)/\w'.cell? ⟨w.heap.size+1+1+1,1,none⟩=some (ab x.1.2.1)/\w'.cell? ⟨w.heap.size+1+1+1,2,none⟩=some (ae x.1.2.2)/\w'.cell? ⟨w.heap.size+1+1+1,3,none⟩=some (.slice x.2.1.1 R x.2.1.2))
  (go_keep) ((first|(go_at_call 54;refine(s.out _ HB.out.drew).mono ?_;rintro e j ⟨y,rfl,a⟩;rw[z];have C:=ap (cD a.out.1);have W:Hid (ai w j):=(HB.out.drew).trans (a.out.1.mono HB.out.size);have ax:w.heap.size+1+1+1<j.heap.size:=aL B a.out.1.size)|(go_at_call 170;refine(p.out _).mono ?_;rintro e az ⟨rfl,d⟩;have D:=ap d;have m:=ao ((f.out.below (cD a.out.1)).below d);obtain⟨⟨S,T,U,V⟩,⟨af,ag,ah,aj⟩,ay⟩:=m.out)))
 have u:=λG H I J=>ao (vk E t.out HB.out.drew (jk w.heap.size 2) f.out.2.2 a.out d cl G H I J);clear a C D d;go_wp2_with fail;rw[r.out];exact ar (v:=.tuple #[.agg #[ab y.1.1,ab y.1.2.1,ae y.1.2.2,.slice y.2.1.1 y.2.2.length y.2.1.2],.bool cl]) (by simp[results,Tryz.results164,go_sem,S,T,U,V]) rfl (u _ _ _ _).out
def vJ(m n:Nat)(self:Int)(f:Tm n->Option (Tm (m+n)))(p:List (Tm n)):Option (Tm (m+n+1)):=
 if tm n p pf 0 then some (bJ 3 self (m+n))
 else if tm n p vm 2 then (p[1]?).bind λa=>(p[2]?).bind λc=>(f a).bind λa=>(f c).bind λc=>s8 (m+n) a c
 else if tm n p BC 1 then (p[1]?).bind λa=>if aH n a then some (aN (m+n+1) n a)else none
 else (cC f p).map (cU (m+n))
theorem J0(m:Nat)(b:List (Tm m))(self:Int)(n:Nat)(x:Tm (n+1))(a:x.1.1=4):vl m b self (n+1) x=vJ m n self (λy=>vl m b self n y) x.2.2:=by simp[vl,a,vJ]
theorem JZ(m:Nat)(b:List (Tm m))(self:Int)(n:Nat)(x:Tm (n+1))(a:x.1.1=6):vl m b self (n+1) x=none:=by simp[vl,a]
theorem EC(m:Nat)(b:List (Tm m))(self:Int)(n:Nat)(x:Tm (n+1))(a:x.1.1≠4)(c:x.1.1≠5)(d:x.1.1≠6):vl m b self (n+1) x=some (aN (m+n+1) (n+1) x):=by simp[vl,a,c,d]
theorem Nk(m:Nat)(b:List (Tm m))(self:Int)(n:Nat)(x:Tm (n+1))(y:Tm m)(k:Nat)(a:x.1.1=5)(c:x.1.2.1=(k:Int))(d:b[k]?=some y):vl m b self (n+1) x=if bN ⟨m,y⟩=6 then none else some (aN (m+n+1) m y):=by
 simp[vl,a,c,d]
theorem Ao{n:Nat}{p:List (Tm n)}{s:ByteArray}{k:Nat}(a:tm n p s k=true):p.length=1+k:=by
 by_cases b:p.length=1+k
 ·exact b
 ·rw[Ef b]at a;cases a
theorem IU{N:Nat}{o:Option (Tm N)}(d:∀a,o=some a->aA ⟨N,a⟩):ND o:=by
 intro a g e;have c:=d a g;cases N with
 | zero=>exact(cZ c).elim
 | succ N=>
  have b:=c (bu N a) (by simp[av,bu]);have f:a.1.1=1:=e;simp only[cq,bu,f,pY,aB,cM]at b;exact⟨eN b.1.2.1,eN b.1.2.2⟩
theorem DC(m:Nat)(b:List (Tm m))(self:Int)(O:fV m b=true)(N:1<=self/\self<=99)(n:Nat)(ih:Ms m b self n)(p:List (Tm n))(pa:Option Addr)(pc:Nat)(a:Option Addr)(c B:Nat)(w:World)(L:p.length<=8)(g:ft B w n p pa)(v:∀y∈p,aA ⟨n,y⟩)(C:ft B w m b a)(f:B<=w.heap.size):ak 175 #[.agg #[.slice a 4 c,ab self],.slice pa p.length pc] w (jA (m+n+1) (vJ m n self (λy=>vl m b self n y) p) w):=by
 have D:=λW k (Q:k<=8) h (e:ai w h)=>Cy n p pa pc B W k h (g.below (e.mono f)) L Q;have j:=D pf 0 (by omega);have o:=D vm 2 (by omega);have r:=D BC 1 (by omega);have K:∀y∈b,aA ⟨m,y⟩:=λy i=>((gQ O).2 y i).2.1;cases e1:tm n p pf 0
 ·rw[e1]at j;cases e2:tm n p vm 2
  ·rw[e2]at o;cases e3:tm n p BC 1
   ·rw[e3]at r;refine LO (m+n) _ a c self pa p.length pc w j o r ?_;intro h e;have P:=Bv m b self n ih p p.length rfl pa pc a c B h L (g.below (e.mono f)) v (C.below (e.mono f)) (ax f e.size);simpa [vJ,e1,e2,e3]using P
   ·rw[e3]at r;have s:=Ao e3;rcases g with g|⟨G,po,rfl,R,g⟩
    ·rw[g]at s;simp at s
    ·obtain⟨y,i⟩:∃y,p[1]?=some y:=⟨p[1]'(by omega),aE _⟩;obtain⟨u,x⟩:=g 1 y i;have t:=v y (aG i);have z:vJ m n self (λy=>vl m b self n y) p=if aH n y=true then some (aN (m+n+1) n y)else none:=by simp[vJ,e1,e2,e3,i]
     rw[z];cases n with
     | zero=>exact u.elim
     | succ n=>
     rw[show p.length=2 by omega]at j o r ⊢;refine Nm (m+(n+1)) _ a c self G po n (by omega) y (aH (n+1) y) pc w j o r (by omega) (by simpa using u) t ?_ ?_ rfl
     ·intro h e;exact gS (n+1) y B h (x.below (e.mono f)) (ax f e.size) t
     ·intro h e;exact im (n+1) y B h (x.below (e.mono f)) (ax f e.size)
  ·rw[e2]at o;have s:=Ao e2;rcases g with g|⟨G,po,rfl,R,g⟩
   ·rw[g]at s;simp at s
   ·obtain⟨d,E⟩:∃d,p[1]?=some d:=⟨p[1]'(by omega),aE _⟩;obtain⟨y,i⟩:∃y,p[2]?=some y:=⟨p[2]'(by omega),aE _⟩;obtain⟨S,T⟩:=g 1 d E;obtain⟨u,x⟩:=g 2 y i;have M:=v d (aG E);have t:=v y (aG i);have z:vJ m n self (λy=>vl m b self n y) p=vF (vl m b self n d) (vl m b self n y):=by simp[vJ,e1,e2,E,i,vF]
    rw[z];have U:=IU λJ F=>vi m b self N K n d M J F;have V:=IU λJ F=>vi m b self N K n y t J F;cases n with
    | zero=>exact u.elim
    | succ n=>
    rw[show p.length=3 by omega]at j o ⊢;refine Nl (m+(n+1)) _ a c self G po d.1.1 d.1.2.1 d.1.2.2 d.2.1.1 d.2.2.length d.2.1.2 y.1.1 y.1.2.1 y.1.2.2 y.2.1.1 y.2.2.length y.2.1.2 pc w j o (by omega) (by simpa [dr]using S) (by simpa [dr]using u) ?_;intro h e;refine JG (m+(n+1)) _ _ U V a c self d.1.1 d.1.2.1 d.1.2.2 d.2.1.1 d.2.2.length d.2.1.2 y.1.1 y.1.2.1 y.1.2.2 y.2.1.1 y.2.2.length y.2.1.2 h ?_ ?_
    ·intro H q;refine sy (m+n) _ a c self d.1.1 d.1.2.1 d.1.2.2 d.2.1.1 d.2.2.length d.2.1.2 H ?_;intro I A;have l:=(e.trans ((q.trans (A.mono q.size)).mono e.size));exact ih d a c B I (T.below (l.mono f)) M (C.below (l.mono f)) (ax f l.size)
    ·intro H q;refine sy (m+n) _ a c self y.1.1 y.1.2.1 y.1.2.2 y.2.1.1 y.2.2.length y.2.1.2 H ?_;intro I A;have l:=(e.trans ((q.trans (A.mono q.size)).mono e.size));exact ih y a c B I (x.below (l.mono f)) t (C.below (l.mono f)) (ax f l.size)
 ·rw[e1]at j;exact LP (m+n) _ a c self ⟨by omega,by omega⟩ pa p.length pc w j (by simp[Hid,vJ,e1])
theorem GY(m:Nat)(b:List (Tm m))(self:Int)(z:fV m b=true)(J:1<=self/\self<=99)(n:Nat):Ms m b self n:=by
 induction n with
 | zero=>intro a j c q p v;exact v.elim
 | succ n ih=>
  intro a j c q p v u h g;obtain⟨y,H⟩:=gQ z;have t:=u (bu n a) (by simp[av,bu]);have I:a.2.2.length<=8:=lH (bu n a) t;by_cases s:a.1.1=6
  ·have f:=NZ (m+n) (vl m b self (n+1) a) j a.1.2.1 a.1.2.2 a.2.1.1 a.2.2.length a.2.1.2 c self p (JZ m b self n a s);rw[<-s]at f;exact f
  ·by_cases l:a.1.1=5
   ·have O:0<=a.1.2.1/\a.1.2.1<=3:=by
      have D:¬(5:Int)=1:=by decide
      have E:¬(5:Int)=2:=by decide
      have F:¬(5:Int)=3:=by decide
      have G:¬(5:Int)=4:=by decide
      simp only[cq,bu,l,pY,aB,cM,D,E,F,G,if_false]at t;exact⟨eN t.1.2.1,eN t.1.2.2⟩
    obtain⟨k,A⟩:∃k:Nat,a.1.2.1=(k:Int):=⟨a.1.2.1.toNat,by omega⟩;obtain⟨d,o⟩:∃d,b[k]?=some d:=⟨b[k]'(by omega),aE _⟩;have w:=(H d (aG o)).2.1;have C:=Nk m b self n a d k l A o;have M:=h;rcases h with h|⟨B,bo,rfl,N,h⟩
    ·rw[h]at y;simp at y
    ·obtain⟨K,L⟩:=h k d o;cases m with
     | zero=>exact(cZ w).elim
     | succ m=>
     have f:=N1 (m+1+n) (vl (m+1) b self (n+1) a) B bo k a.1.2.1 a.1.2.2 a.2.1.1 a.2.2.length a.2.1.2 m (by omega) d c self p A (by omega) (by omega) K w
      (λi e=>gS (m+1) d q i (L.below (e.mono g)) (ax g e.size) w)
      (λi=>iU d.1.1 d.1.2.1 d.1.2.2 d.2.1.1 d.2.2.length d.2.1.2 i)
      (by
       show vl (m+1) b self (n+1) a=_;rw[C];by_cases x:d.1.1=6
       ·simp[bN,x]
       ·simp[bN,x])
     rw[<-l]at f;exact f
   ·by_cases r:a.1.1=4
    ·have f:=N0 (m+n) (vl m b self (n+1) a) j a.1.2.1 a.1.2.2 a.2.1.1 a.2.2.length a.2.1.2 c self p (by
       intro i e;rw[J0 m b self n a r]
       exact DC m b self z J n ih a.2.2 a.2.1.1 a.2.1.2 j c q i I (ft.below (e.mono g) v.2) (λd o=>aR n a d u o) (h.below (e.mono g)) (ax g e.size))
     rw[<-r]at f;exact f
    ·exact Nh (m+n) (vl m b self (n+1) a) j a.1.1 a.1.2.1 a.1.2.2 a.2.1.1 a.2.2.length a.2.1.2 n (by omega) a c self p r l s u
       (λi e=>gS (n+1) a q i (v.below (e.mono g)) (ax g e.size) u) (EC m b self n a r l s)
def vp(N:Nat):Tm (N+1):=bJ 0 0 N
def zi(N:Nat)(E:Int)(o:Option (Tm (N+1)))(w:World)(e:Ending)(w':World):Prop:=
 ∃a:Tm (N+1),e=.returned (.tuple #[df (N+1) a,ab (Et E (np E o))])/\Hid (ai w w'/\In w'.heap.size w' (N+1) a/\bZ (λb=>w.heap.size<=b) (N+1) a/\aw (N+1) a (N+1) ((np E o).getD (vp N))=true)
theorem ot{N:Nat}{E:Int}{o:Option (Tm (N+1))}{w w':World}{a:Int}(c:ai w w')(b:np E o=none)(d:a=Et E (np E o)):zi N E o w (.returned (.tuple #[.agg #[ab 0,ab 0,ae .empty,.slice none 0 0],ab a])) w':=by
 refine⟨vp N,by rw[d];rfl,c,(kE N 0 0 iT iT _ _ (λ_=>True)).1,(kE N 0 0 iT iT 0 w _).2,?_⟩;rw[b];exact wb N 0 0
theorem Lw{N:Nat}{E:Int}{o:Option (Tm (N+1))}{a:Tm (N+1)}{w w1 w2 j:World}{y:Tm (N+1)}{q:Nat}(e:E=0)(n:o=some a)(l:bq (N+1) a=0)(f:ai w w1)(p:w.heap.size<=q)(t:q<w1.heap.size)(h:ai w1 w2)(r:In w2.heap.size w2 (N+1) y)(i:bZ (λq=>w1.heap.size<=q) (N+1) y)(s:aw (N+1) y (N+1) a=true)(c:ai w2 j)(v0 v1 v2 v3:Value):zi N E o w (.returned (.tuple #[.agg #[ab y.1.1,ab y.1.2.1,ae y.1.2.2,.slice y.2.1.1 y.2.2.length y.2.1.2],ab 0])) (cG j q 0 v0 v1 v2 v3):=by
 have g:=f.size;have k:=(f.trans (h.mono g)).trans (c.mono (ax g h.size));have d:np E o=some a:=by simp[np,e,n,l]
 refine⟨y,by rw[d];simp[Et,e,df],cT k p _ _ _ _,?_,i.mono λb m=>by omega,by rw[d];exact s⟩;rw[bj];exact In.off (P:=λb=>w1.heap.size<=b) (λb m=>aT (by omega) _ _ _ _) i ((r.below c).mono c.size)
theorem A5{c:Int}{bd:Bool}{self:Int}(a:Eu c bd self=0):c=0/\bd=true/\1<=self/\self<=99:=by
 unfold Eu at a;split at a
 ·split at a
  ·split at a
   ·rename_i b d e;exact⟨b,d,e⟩
   ·cases a
  ·cases a
 ·rename_i b;exact absurd a b
theorem GX{m n:Nat}{b:List (Tm m)}{self:Int}{x:Tm (n+1)}{a:Tm (m+n+1)}(c:bq (n+1) x=0)(d:fV m b=true)(h:vl m b self (n+1) x=some a):(av (m+n+1) a).length<=2097152:=by
 have f:=nu c;have e:=BA m b self 201 (by omega) (λi g=>nu ((gQ d).2 i g).1) (n+1) x a h;have:201*(av (n+1) x).length<=201*201:=Nat.mul_le_mul_left 201 f;exact ax e (by omega)
theorem tA(w:World)(a b c d:Value)(t1 t2:TypeId):ai w ((w.alloc (.cells #[a,b,c,d] t1)).alloc (.cells #[ab 0,ab 0,ae .empty,.slice none 0 0] t2))/\ng (w.heap.size+1) ((w.alloc (.cells #[a,b,c,d] t1)).alloc (.cells #[ab 0,ab 0,ae .empty,.slice none 0 0] t2)):=by
 refine⟨((am _ _).alloc (aj _) _).alloc (by simp) _,⟨?_,?_,?_,?_⟩,⟨?_,?_,?_,?_⟩,?_⟩<;>simp[go_sem]
theorem DA{w w':World}{b c d e y0 y1 y2 f:Value}{t1 t2:TypeId}(g:Below ((w.alloc (.cells #[b,c,d,e] t1)).alloc (.cells #[y0,y1,y2,f] t2)).heap.size ((w.alloc (.cells #[b,c,d,e] t1)).alloc (.cells #[y0,y1,y2,f] t2)) w'):w'.cell? ⟨w.heap.size,0,none⟩=some b/\w'.cell? ⟨w.heap.size,1,none⟩=some c/\w'.cell? ⟨w.heap.size,2,none⟩=some d/\w'.cell? ⟨w.heap.size,3,none⟩=some e:=by
 have a:=λo=>g.cell (p:=⟨w.heap.size,o,none⟩) (by simp;omega);exact⟨(a 0).trans (by simp[go_sem]),(a 1).trans (by simp[go_sem]),(a 2).trans (by simp[go_sem]),(a 3).trans (by simp[go_sem])⟩
theorem A6(N:Nat)(o:Option (Tm (N+1)))(a:Option Addr)(Y c:Nat)(self:Int)(ag ah:Int)(al:ByteArray)(xa:Option Addr)(an xc:Nat)(l:Int)(bd:Bool)(w:World)(aq:Hid (∀w1,ai w w1->ak 51 #[.agg #[ab ag,ab ah,ae al,.slice xa an xc]] w1 λe w'=>e=.returned (ab l)/\ai w1 w'))(ap:Hid (∀w1,ai w w1->ak 158 #[.slice a Y c] w1 λe w'=>e=.returned (.bool bd)/\ai w1 w'))(r:Hid (Eu l bd self=0->∀w1,ai w w1->ak 164 #[.agg #[.slice a Y c,ab self],.agg #[ab ag,ab ah,ae al,.slice xa an xc]] w1 (jA (N+1) o w1)))(p:Hid (Eu l bd self=0->∀(y f:Tm (N+1))(w1:World),o=some f->aw (N+1) y (N+1) f=true->In w1.heap.size w1 (N+1) y->ak 51 #[.agg #[ab y.1.1,ab y.1.2.1,ae y.1.2.2,.slice y.2.1.1 y.2.2.length y.2.1.2]] w1 λe w'=>e=.returned (ab (bq (N+1) f))/\ai w1 w')):ak 139 #[.agg #[ab ag,ab ah,ae al,.slice xa an xc],.slice a Y c,ab self] w (zi N (Eu l bd self) o w):=by
 obtain⟨E,U⟩:∃E,E=Eu l bd self:=⟨_,rfl⟩;rw[<-U]at r p ⊢;have m:=ao U;clear U;go_enter Tryz.func139,Tryz.ntmps139;go_wp2_with fail;refine(aq.out _ (tA w _ _ _ _ _ _).1).mono ?_;rintro e w1 ⟨rfl,M⟩;have ay:=ao (DA M);have A:Hid (ai w w1):=(tA w _ _ _ _ _ _).1.trans (M.mono (tA w _ _ _ _ _ _).1.size);have J:=ao ((tA w _ _ _ _ _ _).2.below M);clear M aq;by_cases d:l=0
 case neg=>
  have aL:(l !=0)=true:=by simpa using d
  have b:Hid (E=l/\l≠0):=⟨by rw[m.out];simp[Eu,d],d⟩;obtain⟨⟨g,h,i,j⟩,⟨C,D,F,G⟩,x⟩:=J.out;clear r m d p;go_wp2_with fail;exact ar (v:=.tuple #[.agg #[ab 0,ab 0,ae .empty,.slice none 0 0],ab l]) (by simp[results,Tryz.results139,go_sem,g,h,i,j];rfl) rfl (ot (cT A.out (by omega) _ _ _ _) (by simp[np,b.out.1,b.out.2]) (by simp[Et,b.out.1,b.out.2]))
 have aL:(l !=0)=false:=by simp[d]
 go_wp2_with fail;refine(ap.out _ A.out).mono ?_;rintro e aD ⟨rfl,O⟩;have az:=ao (nt (Nat.lt_of_succ_lt J.out.2.2) O ay.out);have n:Hid (ai w aD):=A.out.trans (O.mono A.out.size);have q:=ao (J.out.below O);clear O ap A ay J;cases bd
 ·have b:Hid (E=5):=by rw[Hid,m.out];simp[Eu,d]
  obtain⟨⟨g,h,i,j⟩,⟨C,D,F,G⟩,x⟩:=q.out;clear r m d p;go_wp2_with fail;exact ar (v:=.tuple #[.agg #[ab 0,ab 0,ae .empty,.slice none 0 0],ab 5]) (by simp[results,Tryz.results139,go_sem,g,h,i,j];rfl) rfl (ot (cT n.out (by omega) _ _ _ _) (by simp[np,b.out]) (by simp[Et,b.out]))
 ·by_cases aB:self<1
  ·have aH:decide (self<1)=true:=by simpa using aB
   have b:Hid (E=1):=by rw[Hid,m.out];simp only[Eu,d,cM];rw[if_neg (by omega)]
   obtain⟨⟨g,h,i,j⟩,⟨C,D,F,G⟩,x⟩:=q.out;clear r m d p;go_wp2_with fail;exact ar (v:=.tuple #[.agg #[ab 0,ab 0,ae .empty,.slice none 0 0],ab 1]) (by simp[results,Tryz.results139,go_sem,g,h,i,j];rfl) rfl (ot (cT n.out (by omega) _ _ _ _) (by simp[np,b.out]) (by simp[Et,b.out]))
  ·have aH:decide (self<1)=false:=by simpa using aB
   by_cases aC:99<self
   ·have aI:decide (99<self)=true:=by simpa using aC
    have b:Hid (E=1):=by rw[Hid,m.out];simp only[Eu,d,cM];rw[if_neg (by omega)]
    obtain⟨⟨g,h,i,j⟩,⟨C,D,F,G⟩,x⟩:=q.out;clear r m d p;go_wp2_with fail;exact ar (v:=.tuple #[.agg #[ab 0,ab 0,ae .empty,.slice none 0 0],ab 1]) (by simp[results,Tryz.results139,go_sem,g,h,i,j];rfl) rfl (ot (cT n.out (by omega) _ _ _ _) (by simp[np,b.out]) (by simp[Et,b.out]))
   ·have aI:decide (99<self)=false:=by simpa using aC
    have B:Hid (E=0):=by rw[Hid,m.out];simp only[Eu,d,cM];rw[if_pos (by omega)]
    obtain⟨aP,aQ,aR,aS⟩:=az.out;have aU:w.heap.size<aD.heap.size:=Nat.lt_of_succ_lt q.out.2.2;clear m d;go_wp2_with fail;refine(r.out B.out _ n.out).mono ?_;rintro e z ⟨y,aO,rfl,k⟩;have P:Hid (ai w z):=n.out.trans (k.out.1.mono n.out.size);have K:=ao (q.out.below k.out.1);have aA:df (N+1) y=.agg #[ab y.1.1,ab y.1.2.1,ae y.1.2.2,.slice y.2.1.1 y.2.2.length y.2.1.2]:=rfl;rw[aA];clear r aA aP aQ aR aS az;cases aO
    ·have au:Hid (o=none):=by
       have:=k.out.2.2.2.1;cases o with
       | none=>rfl
       | some f=>cases this
     obtain⟨⟨g,h,i,j⟩,⟨C,D,F,G⟩,x⟩:=K.out;clear k p;go_wp2_with fail;exact ar (v:=.tuple #[.agg #[ab 0,ab 0,ae .empty,.slice none 0 0],ab 7]) (by simp[results,Tryz.results139,go_sem,g,h,i,j,x];rfl) rfl (ot ((cT P.out (by omega) _ _ _ _).alloc (by rw[bj];omega) _) (by simp[np,au.out]) (by simp[Et,np,au.out,B.out]))
    ·obtain⟨f,X⟩:∃f,o=some f:=by
       have:=k.out.2.2.2.1;cases o with
       | none=>cases this
       | some f=>exact⟨f,rfl⟩
     have L:=ao X;have ax:=ao (k.out.2.2.2.2 f X)
     have S:Hid (∀w1,ai z w1->ak 51 #[.agg #[ab y.1.1,ab y.1.2.1,ae y.1.2.2,.slice y.2.1.1 y.2.2.length y.2.1.2]] w1 λe w'=>e=.returned (ab (bq (N+1) f))/\ai w1 w'):=
      λw1 t=>p.out B.out y f w1 L.out ax.out ((k.out.2.1.below t).mono t.size)
     obtain⟨s,W⟩:∃s,s=bq (N+1) f:=⟨_,rfl⟩;rw[<-W]at S;have R:=ao W;have T:=λ(I:World)(aK:ai z I)(aJ:s=0) Z aa ad af=>ao (Lw (E:=E) B.out L.out (R.out.symm.trans aJ) n.out (jk _ 1) q.out.2.2 k.out.1 k.out.2.1 k.out.2.2.1 ax.out aK Z aa ad af);clear X W p k q n;go_wp2_with fail;refine(S.out _ ((am _ _).alloc (aj _) _)).mono ?_;rintro e I ⟨rfl,V⟩;obtain⟨⟨aV,aW,aX,aY⟩,_⟩:=DO V;have Q:Hid (ai z I):=((am _ _).alloc (aj _) _).trans (V.mono (by simp));have aE:=ao (K.out.below Q.out);have aG:Hid (ai w I):=P.out.trans (Q.out.mono P.out.size);obtain⟨⟨g,h,i,j⟩,⟨C,D,F,G⟩,x⟩:=aE.out;have aN:¬(w.heap.size+1=z.heap.size):=by have:=K.out.2.2;omega
     have aT:¬(z.heap.size=w.heap.size+1):=λe=>aN e.symm;clear V S K;by_cases u:s=0
     ·have aM:(s !=0)=false:=by simp[u]
      have aF:=λZ aa ad af=>T I Q.out u Z aa ad af;clear T u;go_wp2_with fail;exact ar (v:=.tuple #[.agg #[ab y.1.1,ab y.1.2.1,ae y.1.2.2,.slice y.2.1.1 y.2.2.length y.2.1.2],ab 0]) (by simp[results,Tryz.results139,go_sem,g,h,i,j]) rfl (aF _ _ _ _).out
     ·have aM:(s !=0)=true:=by simpa using u
      have av:=ao u;clear T u;go_wp2_with fail;exact ar (v:=.tuple #[.agg #[ab 0,ab 0,ae .empty,.slice none 0 0],ab 7]) (by simp[results,Tryz.results139,go_sem,g,h,i,j];rfl) rfl (ot (cT aG.out (by omega) _ _ _ _) (by have t:=R.out;have H:=av.out;rw[t]at H;simp[np,L.out,H]) (by have t:=R.out;have H:=av.out;rw[t]at H;simp[Et,np,L.out,B.out,H]))
theorem C7(n m:Nat)(x:Tm (n+1))(b:List (Tm m))(a:Option Addr)(c B:Nat)(self:Int)(w:World)(p:In B w (n+1) x)(k:ft B w m b a)(f:B<=w.heap.size)(r:(av (n+1) x).length<=2097152)(t:b.length<=9223372036854775807)(s:∀y∈b,(av m y).length<=2097152):ak 139 #[df (n+1) x,.slice a b.length c,ab self] w (zi (m+n) (Eu (bq (n+1) x) (fV m b) self) (vl m b self (n+1) x) w):=by
 refine A6 (m+n) _ a b.length c self x.1.1 x.1.2.1 x.1.2.2 x.2.1.1 x.2.2.length x.2.1.2 (bq (n+1) x) (fV m b) w ?_ ?_ ?_ ?_
 ·intro e d;exact dB (n+1) x B e (p.below (d.mono f)) (ax f d.size) r
 ·intro e d;exact zr m b a c B e (k.below (d.mono f)) t s (ax f d.size)
 ·intro i e d;obtain⟨h,g,j⟩:=A5 i;have q:=(gQ g).1;rw[q];exact GY m b self g j (n+1) x a c B e (p.below (d.mono f)) (aJ.2 (bz.1 h).1) (k.below (d.mono f)) (ax f d.size)
 ·intro i y A e z o u;obtain⟨h,g,j⟩:=A5 i;have v:=GX h g z;have l:=dB (m+n+1) y e.heap.size e u (aj _) (by rw[jS _ _ _ _ o];exact v);rw[bL o]at l;exact l
theorem A9{n m b a:Nat}{x:Tm n}{y:Tm m}{x':Tm b}{c:Tm a}(e:aw n x b x'=true)(k:aw m y a c=true):aw n x m y=aw b x' a c:=by
 cases d:aw b x' a c with
 | true=>exact bD _ _ _ _ _ _ e (bD _ _ _ _ _ _ d (dq _ _ _ _ k))
 | false=>
  cases e2:aw n x m y with
  | false=>rfl
  | true=>
   have f:=bD _ _ _ _ _ _ (dq _ _ _ _ e) (bD _ _ _ _ _ _ e2 k);rw[d]at f;cases f
def nL:Option (List An)->Option (List An)->Prop
 | none,none=>True
 | some b,some c=>ay dQ b c=true
 | _,_=>False
theorem uo{x y:An}(a:dQ x y=true):bN x=bN y:=by
 obtain⟨n,x⟩:=x;obtain⟨b,y⟩:=y;cases n with
 | zero=>simp[dQ,aw]at a
 | succ n=>
  cases b with
  | zero=>simp[dQ,aw]at a
  | succ b=>
   simp only[dQ,aw,aB,bV]at a;exact a.1.1.1
theorem tH{c d:Type}{f:c->d->Bool}{a:c}{b:d}(e:f a b=true):(p:List c)->(q:List d)->(i:Nat)->ay f p q=true->ay f (p.set i a) (q.set i b)=true
 | [],[],_,_=>by simp[ay]
 | [],_::_,_,h=>by simp[ay]at h
 | _::_,[],_,h=>by simp[ay]at h
 | x::p,y::q,0,h=>by
  simp only[ay,aB]at h;simp[ay,e,h.2]
 | x::p,y::q,i+1,h=>by
  simp only[ay,aB]at h;simp[ay,h.1,tH e p q i h.2]
theorem Ci{b c:List An}{i:Nat}{t h:An}(f:ay dQ b c=true)(j:dQ t h=true):nL (uc b i t) (uc c i h):=by
 have o:=cw _ _ _ f;unfold uc;cases e:b[i]? with
 | none=>
  have a:c[i]?=none:=by
   rw[List.getElem?_eq_none_iff]at e ⊢;omega
  rw[a];trivial
 | some g=>
  obtain⟨n,m⟩:=aM.1 e;have a:c[i]?=some c[i]:=aE (by omega);rw[a];have k:dQ g c[i]=true:=iZ _ _ _ f i _ _ e a;simp only;rw[<-uo k];by_cases d:bN g=6
  ·rw[if_pos d,if_pos d];exact tH j _ _ _ f
  ·rw[if_neg d,if_neg d];have l:dQ g t=dQ c[i] h:=A9 k j;rw[<-l];cases dQ g t
   ·simp[nL]
   ·simpa [nL]using f
theorem ub{n r o s:Type}(f:n->r->List An->Option (List An))(g:o->s->List An->Option (List An))(P:n->o->Bool)(Q:r->s->Bool):(p:List n)->(q:List r)->(a:List o)->(h:List s)->(∀x∈p,∀y∈q,∀x' k b c,P x x'=true->Q y k=true->ay dQ b c=true->nL (f x y b) (g x' k c))->ay P p a=true->ay Q q h=true->∀b c,ay dQ b c=true->nL (ii f p q b) (ii g a h c)
 | [],_,a,_,_,i,_,b,c,l=>by
  cases a with
  | nil=>simpa [ii,nL]using l
  | cons _ _=>simp[ay]at i
 | x::p,[],a,h,_,i,j,b,c,l=>by
  cases h with
  | nil=>cases a<;>simpa [ii,nL]using l
  | cons _ _=>simp[ay]at j
 | x::p,y::q,a,h,hf,i,j,b,c,l=>by
  cases a with
  | nil=>simp[ay]at i
  | cons x' a=>
   cases h with
   | nil=>simp[ay]at j
   | cons k h=>
    simp only[ay,aB]at i j;have e:=hf x (by simp) y (by simp) x' k b c i.1 j.1 l;simp only[ii];cases e1:f x y b with
    | none=>
     rw[e1]at e;cases m:g x' k c with
     | none=>simp[nL]
     | some _=>rw[m]at e;exact e.elim
    | some d=>
     rw[e1]at e;cases m:g x' k c with
     | none=>rw[m]at e;exact e.elim
     | some t=>
      rw[m]at e;simp only[dn];exact ub f g P Q p q a h (λx u y v=>hf x (by simp[u]) y (by simp[v])) i.2 j.2 d t e
theorem lG:(n:Nat)->(p:Tm n)->(m:Nat)->(t:Tm m)->(d:Nat)->(j:Tm d)->(a:Nat)->(k:Tm a)->(b c:List An)->aw n p d j=true->aw m t a k=true->ay dQ b c=true->nL (gN n p m t b) (gN d j a k c)
 | 0,_,_,_,_,_,_,_,_,_,h,_,_=>by simp[aw]at h
 | _+1,_,_,_,0,_,_,_,_,_,h,_,_=>by simp[aw]at h
 | _+1,_,0,_,_+1,_,_,_,_,_,_,h,_=>by simp[aw]at h
 | _+1,_,_+1,_,_+1,_,0,_,_,_,_,h,_=>by simp[aw]at h
 | n+1,p,m+1,t,d+1,j,a+1,k,b,c,hp,ht,hb=>by
  have v:=hp;have l:=ht;simp only[aw,aB,bV]at hp ht;obtain⟨⟨⟨w,z⟩,B⟩,o⟩:=hp;obtain⟨⟨⟨t1,t2⟩,C⟩,q⟩:=ht;unfold gN;rw[<-w,<-z,<-t1,<-cw _ _ _ o,<-cw _ _ _ q];by_cases g:p.1.1=6
  ·rw[if_pos g,if_pos g];exact hb
  ·rw[if_neg g,if_neg g];by_cases f:p.1.1=5
   ·rw[if_pos f,if_pos f];exact Ci hb l
   ·rw[if_neg f,if_neg f];by_cases e:p.1.1=4
    ·rw[if_pos e,if_pos e];by_cases i:t.1.1=4/\p.2.2.length=t.2.2.length
     ·rw[if_pos i,if_pos i];exact ub _ _ (λx y=>aw n x d y) (λx y=>aw m x a y) p.2.2 t.2.2 j.2.2 k.2.2 (λx _ y _ x' A b c r s u=>lG n x m y d x' a A b c r s u) o q b c hb
     ·rw[if_neg i,if_neg i];trivial
    ·rw[if_neg e,if_neg e,<-A9 v l];cases aw (n+1) p (m+1) t
     ·simp[nL]
     ·simpa [nL]using hb
theorem Ai{w w':World}{g:Nat}(c:w.grownBy w' (some g)):∀b o,b<w.heap.size->b≠g->w'.cell? ⟨b,o,none⟩=w.cell? ⟨b,o,none⟩:=
 λb o d e=>World.cell?_of_block (a:=⟨b,o,none⟩) (c.block b d (by simpa using e))
theorem qv{w w':World}{row:Option Nat}(a:w.drew.grownBy w' row):w.grownBy w' row:=⟨a.os,a.tape,a.output,a.size,a.block⟩
theorem Fi(p q:Nat)(a d:Option Addr)(pc h:Nat)(g c:Nat)(base:Nat)(w:World)(_hpc:p<=9223372036854775807)(_hqc:q<=9223372036854775807)(f:((p:Int)==(q:Int))=false):ak 172 #[.slice (some ⟨g,0,none⟩) 4 c,.slice a p pc,.slice d q h] w (ez base g c none w):=by
 have i:((p:Int) !=(q:Int))=true:=by simpa using f
 go_enter Tryz.func172,Tryz.ntmps172;go_wp2_with fail
 go_ret
 exact⟨rfl,gh _ _,λb e=>by cases e⟩
theorem ua(a e:Option Addr)(pc i:Nat)(g c:Nat)(base:Nat)(b:List An)(w:World)(H:mu base g c b w):ak 172 #[.slice (some ⟨g,0,none⟩) 4 c,.slice a 0 pc,.slice e 0 i] w (ez base g c (some b) w):=by
 have d:=ao H;clear H;go_enter Tryz.func172,Tryz.ntmps172;go_wp2_with fail
 go_loop [16] (λh=>h=ab 0) (λ_=>0)
 case atStart=>rfl
 case round=>
  obtain rfl:=hrel;go_wp2_with fail
  go_ret
  exact⟨rfl,gh _ _,λj f=>by obtain rfl:=au f;exact d.out⟩
theorem Fh(n m:Nat)(ih:Mq n)(p:List (Tm n))(q:List (Tm m))(len:Nat)(ad:Hid (p.length=len))(aB:Hid (q.length=len))(K po d j pc aC:Nat)(b:List An)(base g c B:Nat)(w:World)(aJ:len<=9223372036854775807)(ay:K<B)(az:d<B)(aa:∀(i:Nat)(y:Tm n),p[i]?=some y->dr w K (po+i*4) n y/\In B w n y)(af:∀(i:Nat)(y:Tm m),q[i]?=some y->dr w d (j+i*4) m y/\In B w m y)(ag:∀y∈p,aA ⟨n,y⟩)(ah:∀y∈q,aA ⟨m,y⟩)(V:Hid (BM B w b))(U:B<=base)(H:Hid (mu base g c b w)):ak 172 #[.slice (some ⟨g,0,none⟩) 4 c,.slice (some ⟨K,po,none⟩) len pc,.slice (some ⟨d,j,none⟩) len aC] w (ez base g c (ii (λx y b=>gN n x m y b) p q b) w):=by
 have W:B<=g:=ax U H.out.lt.1;have X:g<w.heap.size:=H.out.lt.2;go_enter Tryz.func172,Tryz.ntmps172;go_wp2_with fail;go_loopw [16] (λi wr=>∃k:Nat,k<=len/\i=ab k/\Hid (w.grownBy wr (some g)/\∃a,mu base g c a wr/\BM B wr a/\ii (λx y b=>gN n x m y b) (p.drop k) (q.drop k) a=ii (λx y b=>gN n x m y b) p q b)) (λi _=>len-(intOf i).toNat)
 case atStart=>exact⟨0,by omega,rfl,gh _ _,b,H.out,V.out,rfl⟩
 case round=>
  obtain⟨k,aF,rfl,v⟩:=hrel;by_cases Z:k<len
  ·obtain⟨x,E⟩:∃x,p[k]?=some x:=⟨p[k]'(by rw[ad.out];exact Z),aE _⟩;obtain⟨y,I⟩:∃y,q[k]?=some y:=⟨q[k]'(by rw[aB.out];exact Z),aE _⟩;obtain⟨l,a,L,u,t⟩:Hid (w.grownBy wr (some g))/\∃a,Hid (mu base g c a wr)/\Hid (BM B wr a)/\Hid (ii (λx y b=>gN n x m y b) (p.drop k) (q.drop k) a=ii (λx y b=>gN n x m y b) p q b):=v.out;clear v;obtain⟨F,G⟩:=aa k x E;obtain⟨J,r⟩:=af k y I;have z:=ao (Fk (λx y b=>gN n x m y b) p q k x y E I a);have T:=ao (ag x (aG E));have N:=ao (ah y (aG I));have o:=nA l.out W X;replace F:=F.below o ay;replace J:=J.below o az;replace G:=G.below o;replace r:=r.below o;have aD:g<wr.heap.size:=aL X l.out.size;have D:B<=wr.heap.size:=by omega
   clear aa af E I ag ah V H o;cases n with
   | zero=>exact F.elim
   | succ n=>
   cases m with
   | zero=>exact J.elim
   | succ m=>
   obtain⟨aQ,aR,aS,aT⟩:=F;obtain⟨y0,y1,y2,aU⟩:=J
   have Q:Hid (∀(h:World),ai wr h->ak 160 #[.slice (some ⟨g,0,none⟩) 4 c,.agg #[ab x.1.1,ab x.1.2.1,ae x.1.2.2,.slice x.2.1.1 x.2.2.length x.2.1.2],.agg #[ab y.1.1,ab y.1.2.1,ae y.1.2.2,.slice y.2.1.1 y.2.2.length y.2.1.2]] h (ez base g c (gN (n+1) x (m+1) y a) h)):=
    λh C=>ih x (m+1) y a base g c B h (G.below (C.mono D)) (r.below (C.mono D)) T.out N.out (u.out.below (C.mono D)) U (L.out.below C)
   have M:Hid (∀s e,gN (n+1) x (m+1) y a=s->s=some e->BM B wr e):=λs e ar av=>u.out.fit r N.out (ar.trans av);clear ih G r T N u;replace z:Hid (ii (λx y b=>gN (n+1) x (m+1) y b) (p.drop k) (q.drop k) a=(gN (n+1) x (m+1) y a).bind (ii (λx y b=>gN (n+1) x (m+1) y b) (p.drop (k+1)) (q.drop (k+1)))):=z;generalize gN (n+1) x (m+1) y a=s at*;generalize x.2.2.length=al at*;generalize y.2.2.length=yl at*;have aH:(0:Int)<=(k:Int):=by omega
   have aI:(k:Int)<(len:Int):=by omega
   have aK:K<wr.heap.size:=by omega
   have aN:d<wr.heap.size:=by omega
   have aO:d<wr.heap.size+1:=by omega
   have aM:d≠g:=by omega
   have aP:wr.heap.size≠g:=by omega
   have an:=ao (Q.out (wr.alloc (.cells #[ab x.1.1,ab x.1.2.1,ae x.1.2.2,.slice x.2.1.1 al x.2.1.2] 30)).drew (((am _ _).alloc (aj _) _).drew));clear Q;go_wp2_with fail
   go_region_held3 (λf=>f.cell? ⟨wr.heap.size,0,none⟩=some (ab x.1.1)/\f.cell? ⟨wr.heap.size,1,none⟩=some (ab x.1.2.1)/\f.cell? ⟨wr.heap.size,2,none⟩=some (ae x.1.2.2)/\f.cell? ⟨wr.heap.size,3,none⟩=some (.slice x.2.1.1 al x.2.1.2)
       /\f.cell? ⟨d,j+k*4,none⟩=some (ab y.1.1)/\f.cell? ⟨d,j+k*4+1,none⟩=some (ab y.1.2.1)/\f.cell? ⟨d,j+k*4+2,none⟩=some (ae y.1.2.2)/\f.cell? ⟨d,j+k*4+3,none⟩=some (.slice y.2.1.1 yl y.2.1.2))
    (go_keep) ((go_at_call 160;refine an.out.mono ?_;rintro A h ⟨rfl,O,Y⟩;have aw:=Ai (qv O);have R:=ao (qv O);have ap:=ao Y;clear O Y))
   have S:Hid (w.grownBy h (some g)):=kR l.out (kR (cW wr _ _) R.out);clear aw;cases s with
   | some e=>
    have aq:Hid (BM B h e):=(M.out _ e rfl rfl).below ((((am _ _).alloc (aj _) _).mono D).trans (nA R.out W (by simp;omega)));clear M;simp only[mn];go_wp2_with fail;go_roundw
    case rel=>exact⟨k+1,by omega,by go_num,S.out,e,ap.out e rfl,aq.out,by rw[<-t.out,z.out];rfl⟩
    case measure=>simp[intOf];omega
   | none=>
    clear M;simp only[mm];go_wp2_with fail
    go_ret
    have P:ii (λx y b=>gN (n+1) x (m+1) y b) p q b=none:=by rw[<-t.out,z.out];rfl
    rw[P];exact⟨rfl,S.out,λa A=>by cases A⟩
  ·obtain⟨l,a,L,u,t⟩:Hid (w.grownBy wr (some g))/\∃a,Hid (mu base g c a wr)/\Hid (BM B wr a)/\Hid (ii (λx y b=>gN n x m y b) (p.drop k) (q.drop k) a=ii (λx y b=>gN n x m y b) p q b):=v.out;clear v;go_wp2_with fail
   go_ret
   have P:ii (λx y b=>gN n x m y b) p q b=some a:=by rw[<-t.out,gd (by rw[ad.out];omega)];rfl
   rw[P];exact⟨rfl,l.out,λe A=>by obtain rfl:=au A;exact L.out⟩
theorem Ch(n m:Nat)(ih:Mq n)(p:List (Tm n))(q:List (Tm m))(a e:Option Addr)(pc j:Nat)(b:List An)(base g c B:Nat)(w:World)(f:p=[]\/∃b o,a=some ⟨b,o,none⟩/\b<B/\∀(i:Nat)(y:Tm n),p[i]?=some y->dr w b (o+i*4) n y/\In B w n y)(h:q=[]\/∃b o,e=some ⟨b,o,none⟩/\b<B/\∀(i:Nat)(y:Tm m),q[i]?=some y->dr w b (o+i*4) m y/\In B w m y)(u:p.length<=9223372036854775807)(A:q.length<=9223372036854775807)(C:∀y∈p,aA ⟨n,y⟩)(D:∀y∈q,aA ⟨m,y⟩)(r:BM B w b)(l:B<=base)(H:mu base g c b w):ak 172 #[.slice (some ⟨g,0,none⟩) 4 c,.slice a p.length pc,.slice e q.length j] w (ez base g c (if p.length=q.length then ii (λx y b=>gN n x m y b) p q b else none) w):=by
 by_cases d:p.length=q.length
 ·rw[if_pos d];rcases f with f|⟨E,po,rfl,t,f⟩
  ·subst f;have v:q=[]:=bB d.symm;subst v;exact ua a e pc j g c base b w H
  ·rcases h with h|⟨F,G,rfl,z,h⟩
   ·subst h;have s:p=[]:=bB d;subst s;exact ua _ e pc j g c base b w H
   ·have k:=Fh n m ih p q p.length rfl d.symm E po F G pc j b base g c B w (by omega) t z f h C D r l H;rw[<-d];exact k
 ·rw[if_neg d];exact Fi p.length q.length a e pc j g c base w u A (by simp;omega)
theorem ez.from{base g c:Nat}{o:Option (List An)}{w w1:World}(a:w.grownBy w1 (some g)){e:Ending}{w2:World}(k:ez base g c o w1 e w2):ez base g c o w e w2:=
 ⟨k.1,kR a k.2.1,k.2.2⟩
theorem Fm(k E j F:Int)(s C:ByteArray)(a t:Option Addr)(l u pc v:Nat)(base g c:Nat)(b:List An)(o p:Option (List An))(D:Bool)(w:World)(I:Hid (mu base g c b w))(q:Hid (k=5->∀w1,ai w w1->ak 171 #[.slice (some ⟨g,0,none⟩) 4 c,ab E,.agg #[ab j,ab F,ae C,.slice t u v]] w1 (ez base g c o w1)))(H:Hid (∀w1,ai w w1->ak 172 #[.slice (some ⟨g,0,none⟩) 4 c,.slice a l pc,.slice t u v] w1 (ez base g c p w1)))(N:Hid (∀w1,ai w w1->ak 173 #[.agg #[ab k,ab E,ae s,.slice a l pc],.agg #[ab j,ab F,ae C,.slice t u v]] w1 λe w'=>∃r,e=.returned (ab r)/\Hid ((r==0)=D)/\ai w1 w')):ak 160 #[.slice (some ⟨g,0,none⟩) 4 c,.agg #[ab k,ab E,ae s,.slice a l pc],.agg #[ab j,ab F,ae C,.slice t u v]] w (ez base g c (if k=6 then some b else if k=5 then o else if k=4 then (if j=4 then p else none)else if D then some b else none) w):=by
 have L:∀o p,ai w ((w.alloc o).alloc p):=λo p=>((am _ _).alloc (aj _) _).alloc (by simp) _;have f:=ao L;clear L;by_cases i:k=6
 ·rw[if_pos i];subst i;go_enter Tryz.func160,Tryz.ntmps160;go_wp2_with fail
  go_ret
  exact⟨rfl,cH (f.out _ _) _,λA e=>by obtain rfl:=au e;exact I.out.below (f.out _ _)⟩
 rw[if_neg i];have S:(k==6)=false:=by simpa using i
 by_cases d:k=5
 ·rw[if_pos d];have O:=ao (q.out d);have R:(k==5)=true:=by simpa using d
  clear d i q;go_enter Tryz.func160,Tryz.ntmps160;go_wp2_with fail;refine(O.out _ (f.out _ _)).mono ?_;rintro e w1 n;have x:=ao (ez.from (cH (f.out _ _) _) n);obtain⟨rfl,_,_⟩:=n;go_wp2_with fail
  go_ret
  exact x.out
 rw[if_neg d];have R:(k==5)=false:=by simpa using d
 by_cases h:k=4
 ·rw[if_pos h];have P:(k==4)=true:=by simpa using h
  clear d i q;by_cases m:j=4
  ·rw[if_pos m];have Q:(j==4)=true:=by simpa using m
   clear h m;go_enter Tryz.func160,Tryz.ntmps160;go_wp2_with fail;refine(H.out _ (f.out _ _)).mono ?_;rintro e w1 n;have x:=ao (ez.from (cH (f.out _ _) _) n);obtain⟨rfl,_,_⟩:=n;go_wp2_with fail
   all_goals go_ret
   all_goals exact x.out
  ·rw[if_neg m];have Q:(j==4)=false:=by simpa using m
   clear h m;go_enter Tryz.func160,Tryz.ntmps160;go_wp2_with fail
   go_ret
   exact⟨rfl,cH (f.out _ _) _,λA e=>by cases e⟩
 rw[if_neg h];have P:(k==4)=false:=by simpa using h
 clear h d i q H;obtain⟨M,B⟩:∃M,M=if D then some b else none:=⟨_,rfl⟩
 rw[<-B];have G:=ao B;clear B;go_enter Tryz.func160,Tryz.ntmps160;go_wp2_with fail;refine(N.out _ (f.out _ _)).mono ?_;rintro e w1 ⟨r,rfl,J,K⟩;have z:Hid (ai w w1):=(f.out _ _).trans (K.mono (f.out _ _).size);have y:=ao G.out;rw[Hid,<-J.out]at y;clear K J G;cases h0:r==0
 ·go_wp2_with fail
  go_ret
  have d:=y;rw[h0]at d;simp only[oA,if_false]at d;subst d;exact⟨rfl,cH z.out _,λA e=>by cases e⟩
 ·go_wp2_with fail
  go_ret
  have d:=y;rw[h0]at d;simp only[cM]at d;subst d;exact⟨rfl,cH z.out _,λA e=>by obtain rfl:=au e;exact I.out.below z.out⟩
theorem MO(n:Nat)(p:Tm (n+1))(m:Nat)(t:Tm (m+1))(b:List An):gN (n+1) p (m+1) t b=if p.1.1=6 then some b else if p.1.1=5 then uc b p.1.2.1.toNat ⟨m+1,t⟩else if p.1.1=4 then (if t.1.1=4 then (if p.2.2.length=t.2.2.length then ii (λx y b=>gN n x m y b) p.2.2 t.2.2 b else none)else none)else if aw (n+1) p (m+1) t then some b else none:=by
 simp only[gN];by_cases a:t.1.1=4<;>by_cases c:p.2.2.length=t.2.2.length<;>simp[a,c]
theorem Ni(n:Nat)(p:Tm (n+1))(d:aA ⟨n+1,p⟩)(e:p.1.1=5):∃k:Nat,k<4/\p.1.2.1=k:=by
 have a:=d (bu n p) (by simp[av,bu]);have b:(bu n p).1.1=5:=e;have c:(bu n p).1.2.1=p.1.2.1:=rfl;simp[cq,b,pY]at a;rw[c]at a;exact⟨p.1.2.1.toNat,by omega,by omega⟩
theorem Iw(n:Nat):Mq n:=by
 induction n with
 | zero=>intro e j t b s u c l y d;exact d.elim
 | succ n ih=>
  intro e j t b s u c l y d v w x i z r;cases j with
  | zero=>exact v.elim
  | succ j=>
  have f:l<=y.heap.size:=by have:=r.lt;omega
  have C:=d;have H:=v;obtain⟨⟨_,_,_,I,D⟩,E⟩:=C;obtain⟨⟨_,_,_,J,F⟩,G⟩:=H;unfold maxLen at D F;rw[MO];refine Fm e.1.1 e.1.2.1 t.1.1 t.1.2.1 e.1.2.2 t.1.2.2 e.2.1.1 t.2.1.1 e.2.2.length t.2.2.length e.2.1.2 t.2.1.2 s u c b _ _ _ y r ?_ ?_ ?_
  ·intro A q a;obtain⟨k,B,m⟩:=Ni n e w A;rw[m];exact IA b s u c l q k B j t (i.below (a.mono f)) (v.below (a.mono f)) x z (r.below a)
  ·intro q a;refine Ch n j ih e.2.2 t.2.2 e.2.1.1 t.2.1.1 e.2.1.2 t.2.1.2 b s u c l q ?_ ?_ (by omega) (by omega) (λh g=>aR n e h w g) (λh g=>aR j t h x g) (i.below (a.mono f)) z (r.below a)
   ·rcases E with d|⟨b,o,m,i,d⟩
    ·exact ag d
    ·exact ah ⟨b,o,m,i,λp h g=>⟨(d p h g).1.below (a.mono f) i,(d p h g).2.below (a.mono f)⟩⟩
   ·rcases G with d|⟨b,o,m,i,d⟩
    ·exact ag d
    ·exact ah ⟨b,o,m,i,λp h g=>⟨(d p h g).1.below (a.mono f) i,(d p h g).2.below (a.mono f)⟩⟩
  ·intro q a;exact AP ⟨n+1,e⟩ ⟨j+1,t⟩ l q (d.below (a.mono f)) (v.below (a.mono f)) (ax f a.size) w x
def ni(n:Nat)(q:List (Tm n)):List An:=q.map λx=>⟨n,x⟩
theorem mA(n:Nat)(q:List (Tm n)):(ni n q).length=q.length:=by simp[ni]
theorem Cr{n:Nat}{q:List (Tm n)}{w:World}{f po:Nat}(r:∀(i:Nat)(y:Tm n),q[i]?=some y->dr w f (po+i*4) n y):∀j b,(fL (ni n q))[j]?=some b->w.cell? ((⟨f,po,none⟩:Addr).add j)=some b:=by
 intro j b a;have d:=kp (ni n q);have s:j<q.length*4:=by
  rw[mA]at d;rw[<-d];exact(aM.1 a).1
 obtain⟨k,i,p,rfl⟩:∃k i,i<4/\j=k*4+i:=⟨j / 4,j % 4,Nat.mod_lt _ (by decide),by omega⟩;obtain⟨y,e⟩:∃y,q[k]?=some y:=⟨q[k]'(by omega),aE _⟩;have g:(fL (ni n q))[k*4+i]?=(uF (sq ⟨n,y⟩))[i]? :=iw _ k (sq ⟨n,y⟩) (by simp[ni,e]) i p;rw[g]at a;have c:=r k y e;cases n with
 | zero=>exact c.elim
 | succ n=>
 obtain⟨h,l,m,o⟩:=c;rw[eI,<-Nat.add_assoc];have:i=0\/i=1\/i=2\/i=3:=by omega
 rcases this with rfl|rfl|rfl|rfl
 all_goals simp[uF,sq,fX,bu]at a;subst a
 ·exact h
 ·exact l
 ·exact m
 ·exact o
theorem Ca(n:Nat)(q:List (Tm n))(len l po pc:Nat)(w:World)(p:Hid (q.length=len))(F:0<len)(G:len<=1048576)(y:Hid (∀w1,ai w w1->∀j u,(fL (ni n q))[j]?=some u->w1.cell? ((⟨l,po,none⟩:Addr).add j)=some u)):ak 159 #[.slice (some ⟨l,po,none⟩) len pc] w λe w'=>∃g c,e=.returned (.slice (some ⟨g,0,none⟩) len c)/\Hid (ai w w'/\mu w.heap.size g c (ni n q) w'):=by
 obtain⟨C,o,r,s,t⟩:=bQ fY;have a:=ao (⟨o,r,s,t⟩:_/\_/\_/\_);clear o r s t;have I:∀(w:World)(b:Option Addr)(n c i f:Nat),(binOp .eql 28 (.slice b n c) (.slice none i f)).run Tryz.prog w=.ok (.bool b.isNone) w:=λw b n c i f=>Lib.run_eql_slice_nil w _ _ b n c i f Tryz.underlying28;go_enter Tryz.func159,Tryz.ntmps159;go_wp2_with (at_builtin;refine wpList_append_own _ rfl _ _ 28 rfl w.heap.size 30 C _ 4 56 Tryz.underlying28 a.out.1 a.out.2.1 a.out.2.2.1 a.out.2.2.2 rfl (by decide) _ _ _ rfl (World.ownsRow_made w #[] 0 (aj _) (aF _) (by simp)) ⟨l,po,none⟩ len pc (fL (ni n q)) rfl ?qc1 ?qc2 ?qc3 ?qc4 ?qc5 ?qc6 ?_)
 case qc1=>rw[kp,mA,p.out]
 case qc2=>exact y.out _ ((am _ _).alloc (aj _) _)
 case qc3=>exact zm _
 case qc4=>unfold maxLen;omega
 case qc5=>omega
 case qc6=>simp
 intro D w1 h m B;have v:Hid (∃g c,D=.slice (some ⟨g,0,none⟩) len c/\ai w w1/\mu w.heap.size g c (ni n q) w1):=by
  have z:ai w w1:=Below.grown ((am _ _).alloc (aj _) _) m (by simp) (by intro k A;simp[Value.ownBlock]at A;omega);have d:=h;obtain⟨_,d⟩:=d;rcases d with⟨_,d⟩|⟨g,cap,E,rfl,H,_⟩
  ·omega
  ·refine⟨g,cap,rfl,z,?_⟩;unfold mu;rw[mA,p.out];exact h
 clear h m B;obtain⟨g,c,rfl,x⟩:=v.out;go_wp2_with fail
 go_ret
 exact⟨g,c,rfl,x⟩
end Go.Proofs.YtckamaoibonjcaaGreat
