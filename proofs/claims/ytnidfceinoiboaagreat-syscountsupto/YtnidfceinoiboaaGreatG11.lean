/- What is proved here: plain facts and contracts that the claimed theorem stands on. No condition but those that each names. -/
import Derived.Test.YtnidfceinoiboaaGreatG10
import Derived.Deep.RegionLaw
import Derived.Laws.CopyRow
import Derived.Maps.RangeWalk
import Derived.WideKeyPair
import Derived.WideKeyEntry
namespace Go.Proofs.YtnidfceinoiboaaGreat
open Go.RowKit
open Go.RowKit Go.Maps
set_option maxHeartbeats 2000000
set_option maxRecDepth 100000
def rM(a b:Int)(cl bd:Bool):Int:=if a=0 then if b=0 then if cl && bd then 0 else 5 else b else a
def vP(a:Int)(o:Option (List An))(w:World)(e:Ending)(w':World):Prop:=
 ∃f len c d,e=.returned (.tuple #[.slice f len c,.bool d,.int .i64 a])/\Hid (Below w.heap.size w w'/\
  ((¬(a=0/\o.isSome=true)->len=0/\d=false)/\∀b,a=0->o=some b->d=true/\len=4/\b.length=4/\∃g l,w.heap.size<=g.heap.size/\fV (lQ b) (Ag b) g w' f c l))
def JW(w:World)(v0 v1 v2 v3 a b c d:Value)(w':World):Prop:=
 Below w.heap.size w w'/\w.heap.size+2<=w'.heap.size/\
 (w'.cell? ⟨w.heap.size,0,none⟩=some v0/\w'.cell? ⟨w.heap.size,1,none⟩=some v1/\w'.cell? ⟨w.heap.size,2,none⟩=some v2/\w'.cell? ⟨w.heap.size,3,none⟩=some v3)/\
 (w'.cell? ⟨w.heap.size+1,0,none⟩=some a/\w'.cell? ⟨w.heap.size+1,1,none⟩=some b/\w'.cell? ⟨w.heap.size+1,2,none⟩=some c/\w'.cell? ⟨w.heap.size+1,3,none⟩=some d)
theorem JW.new(w:World)(v0 v1 v2 v3 a b c d:Value)(t e:TypeId):JW w v0 v1 v2 v3 a b c d ((w.alloc (.cells #[v0,v1,v2,v3] t)).alloc (.cells #[a,b,c,d] e)):=
 ⟨((ah _ _).alloc (ag _) _).alloc (by simp) _,by simp,⟨by simp[go_sem],by simp[go_sem],by simp[go_sem],by simp[go_sem]⟩,by simp[go_sem],by simp[go_sem],by simp[go_sem],by simp[go_sem]⟩
theorem JW.next{w:World}{v0 v1 v2 v3 c d e f:Value}{w1 w2:World}(a:JW w v0 v1 v2 v3 c d e f w1)(b:Below w1.heap.size w1 w2):JW w v0 v1 v2 v3 c d e f w2:=
 ⟨a.1.trans (b.mono a.1.size),au a.2.1 b.size,mH (by have:=a.2.1;omega) b a.2.2.1,mH (by have:=a.2.1;omega) b a.2.2.2⟩
theorem A9(w:World)(k u A E:Int)(s D:ByteArray)(a n:Option Addr)(l pc B C:Nat)(W:Option Addr)(Y X:Nat)(i j:Int)(cl bd:Bool)(o:Option (List An))(T:List An)(al:Hid (∀w1,Below w.heap.size w w1->Calls Tryz.prog 42 #[.agg #[.int .i64 k,.int .i64 u,.string s,.slice a l pc]] w1 λe w'=>e=.returned (.int .i64 i)/\Below w1.heap.size w1 w'))(am:Hid (∀w1,Below w.heap.size w w1->Calls Tryz.prog 42 #[.agg #[.int .i64 A,.int .i64 E,.string D,.slice n B C]] w1 λe w'=>e=.returned (.int .i64 j)/\Below w1.heap.size w1 w'))(ah:Hid (∀w1,Below w.heap.size w w1->Calls Tryz.prog 43 #[.agg #[.int .i64 A,.int .i64 E,.string D,.slice n B C]] w1 λe w'=>e=.returned (.bool cl)/\Below w1.heap.size w1 w'))(ae:Hid (∀w1,Below w.heap.size w w1->Calls Tryz.prog 144 #[.slice W Y X] w1 λe w'=>e=.returned (.bool bd)/\Below w1.heap.size w1 w'))(aj:Hid (bd=true->∀w1,Below w.heap.size w w1->Calls Tryz.prog 145 #[.slice W Y X] w1 λe w'=>∃g c,e=.returned (.slice (some ⟨g,0,none⟩) 4 c)/\Hid (Below w1.heap.size w1 w'/\lR w1.heap.size g c T w')))(S:Hid (rM i j cl bd=0->∀w1 base g c,Below w.heap.size w w1->w.heap.size<=base->lR base g c T w1->Calls Tryz.prog 146 #[.slice (some ⟨g,0,none⟩) 4 c,.agg #[.int .i64 k,.int .i64 u,.string s,.slice a l pc],.agg #[.int .i64 A,.int .i64 E,.string D,.slice n B C]] w1 (eu base g c o w1)))(R:Hid (rM i j cl bd=0->∀w1 base g c b,o=some b->Below w.heap.size w w1->lR base g c b w1->b.length=4/\Calls Tryz.prog 71 #[.slice (some ⟨g,0,none⟩) 4 c] w1 λe w'=>∃n av l,e=.returned (.slice n 4 av)/\Hid (fV (lQ b) (Ag b) w1 w' n av l))):Calls Tryz.prog 117 #[.agg #[.int .i64 k,.int .i64 u,.string s,.slice a l pc],.agg #[.int .i64 A,.int .i64 E,.string D,.slice n B C],.slice W Y X] w (vP (rM i j cl bd) o w):=by
 obtain⟨f,V⟩:∃f,f=rM i j cl bd:=⟨_,rfl⟩;rw[<-V]at S R ⊢;have q:=ai V;clear V;go_enter Tryz.func117,Tryz.ntmps117;go_wp2_with fail;refine(al.out _ (JW.new w _ _ _ _ _ _ _ _ _ _).1).mono ?_;rintro e w1 ⟨rfl,ax⟩;have t:=ai ((JW.new w (.int .i64 k) (.int .i64 u) (.string s) (.slice a l pc) (.int .i64 A) (.int .i64 E) (.string D) (.slice n B C) 30 30).next ax);clear ax al;by_cases m:i=0
 case neg=>
  have aE:(i !=0)=true:=by simpa using m
  have d:Hid (f=i/\¬f=0):=by have:=q.out;unfold rM at this;rw[if_neg m]at this;exact⟨this,by rw[this];exact m⟩
  clear m q;go_wp2_with fail;exact ao (v:=.tuple #[.slice none 0 0,.bool false,.int .i64 i]) (by simp[results,Tryz.results117,go_sem]) rfl ⟨none,0,0,false,by rw[d.out.1],t.out.1,λ_=>⟨rfl,rfl⟩,λb h=>absurd h d.out.2⟩
 have aE:(i !=0)=false:=by simp[m]
 obtain⟨⟨L,M,N,O⟩,H,I,J,K⟩:=t.out.2.2;go_wp2_with fail;refine(am.out _ t.out.1).mono ?_;rintro e aJ ⟨rfl,ay⟩;have x:=ai (t.out.next ay);clear ay am t L M N O H I J K;by_cases p:j=0
 case neg=>
  have aF:(j !=0)=true:=by simpa using p
  have d:Hid (f=j/\¬f=0):=by have:=q.out;unfold rM at this;rw[if_pos m,if_neg p]at this;exact⟨this,by rw[this];exact p⟩
  clear p m q;go_wp2_with fail;exact ao (v:=.tuple #[.slice none 0 0,.bool false,.int .i64 j]) (by simp[results,Tryz.results117,go_sem]) rfl ⟨none,0,0,false,by rw[d.out.1],x.out.1,λ_=>⟨rfl,rfl⟩,λb h=>absurd h d.out.2⟩
 have aF:(j !=0)=false:=by simp[p]
 have r:Hid (f=if cl && bd then 0 else 5):=by have:=q.out;unfold rM at this;rw[if_pos m,if_pos p]at this;exact this
 clear p m q;obtain⟨⟨L,M,N,O⟩,H,I,J,K⟩:=x.out.2.2;go_wp2_with fail;refine(ah.out _ x.out.1).mono ?_;rintro e aK ⟨rfl,az⟩;have F:=ai (x.out.next az);clear az ah x L M N O H I J K;cases cl with
 | false=>
  have d:Hid (f=5/\¬f=0):=by have:=r.out;simp at this;exact⟨this,by rw[this];decide⟩
  clear r;go_wp2_with fail;exact ao (v:=.tuple #[.slice none 0 0,.bool false,.int .i64 5]) (by simp[results,Tryz.results117,go_sem]) rfl ⟨none,0,0,false,by rw[d.out.1],F.out.1,λ_=>⟨rfl,rfl⟩,λb h=>absurd h d.out.2⟩
 | true=>
 go_wp2_with fail;refine(ae.out _ F.out.1).mono ?_;rintro e Z ⟨rfl,aA⟩;have y:=ai (F.out.next aA);clear aA ae F;cases bd with
 | false=>
  have d:Hid (f=5/\¬f=0):=by have:=r.out;simp at this;exact⟨this,by rw[this];decide⟩
  clear r;go_wp2_with fail;exact ao (v:=.tuple #[.slice none 0 0,.bool false,.int .i64 5]) (by simp[results,Tryz.results117,go_sem]) rfl ⟨none,0,0,false,by rw[d.out.1],y.out.1,λ_=>⟨rfl,rfl⟩,λb h=>absurd h d.out.2⟩
 | true=>
 have d:Hid (f=0):=by have:=r.out;simp at this;exact this
 have an:=ai (S.out d.out);have af:=ai (R.out d.out);have ak:=ai (aj.out rfl);clear r S R aj;go_wp2_with fail;refine(ak.out _ y.out.1).mono ?_;rintro e aB ⟨g,c,rfl,Q⟩;have P:=ai (y.out.next Q.out.1);have G:Hid (lR Z.heap.size g c T aB):=Q.out.2;have aq:Hid (w.heap.size<=Z.heap.size):=y.out.1.size;obtain⟨⟨L,M,N,O⟩,H,I,J,K⟩:=P.out.2.2;clear y Q ak;go_wp2_with fail;refine(an.out aB Z.heap.size g c P.out.1 aq.out G.out).mono ?_;rintro e aa U;have z:Hid (Below w.heap.size w aa):=P.out.1.trans (mP U.2.1 (au aq.out G.out.lt.1) G.out.lt.2);have ab:=ai U.2.2;obtain⟨rfl,_,_⟩:=U;clear G an;cases o with
 | none=>
  simp only[lO];go_wp2_with fail;exact ao (v:=.tuple #[.slice none 0 0,.bool false,.int .i64 0]) (by simp[results,Tryz.results117,go_sem]) rfl ⟨none,0,0,false,by rw[d.out],z.out,λ_=>⟨rfl,rfl⟩,λb _ h=>by cases h⟩
 | some b=>
  simp only[jU];have aD:=ai (ab.out b rfl);have ag:=ai (af.out aa _ g c b rfl z.out aD.out);clear ab af;go_wp2_with fail;refine ag.out.2.mono ?_;rintro e aH ⟨ar,aw,aG,rfl,ad⟩;have aC:Hid (Below w.heap.size w aH):=z.out.trans (ad.out.1.mono z.out.size);go_wp2_with fail;exact ao (v:=.tuple #[.slice ar 4 aw,.bool true,.int .i64 0]) (by simp[results,Tryz.results117,go_sem]) rfl ⟨ar,4,aw,true,by rw[d.out],aC.out,λh=>absurd ⟨d.out,rfl⟩ h,λaI _ e=>by obtain rfl:=ap e;exact⟨rfl,rfl,ag.out.1,aa,aG,z.out.size,ad.out⟩⟩
theorem uV{e f:Int}{cl bd:Bool}(a:rM e f cl bd=0):e=0/\f=0/\cl=true/\bd=true:=by
 unfold rM at a;split at a
 ·split at a
  ·split at a
   ·rename_i b c d;simp at d;exact⟨b,c,d.1,d.2⟩
   ·cases a
  ·rename_i b c;exact absurd a c
 ·rename_i b;exact absurd a b
theorem xV{n:Nat}{q:List (Tm n)}(a:fG n q=true):q.length=4:=by
 unfold fG at a;simp at a;exact a.1
theorem C9{n:Nat}{q:List (Tm n)}(a:fG n q=true):∀y∈mE n q,aB y:=by
 intro y c;simp only[mE,cC]at c;obtain⟨d,e,rfl⟩:=c;unfold fG at a;simp only[az,bS]at a;have b:=a.2 d e;unfold zm at b;simp only[az,ci]at b;exact pC n d b.1
theorem IT{B:Nat}{w:World}{n:Nat}{q:List (Tm n)}{a:Option Addr}(c:eY B w n q a):∀y∈mE n q,CX B w y:=by
 intro y e;simp only[mE,cC]at e;obtain⟨h,d,rfl⟩:=e;rcases c with c|⟨b,o,_,_,c⟩
 ·rw[c]at d;cases d
 ·obtain⟨g,f⟩:=cB d;exact(c g h f).2
theorem yR{B:Nat}{w:World}{n:Nat}{q:List (Tm n)}{a:Option Addr}(d:eY B w n q a)(k:fG n q=true):Ap B w (mE n q):=
 ⟨by rw[lV];exact xV k,λc b=>⟨IT d c b,C9 k c b⟩⟩
theorem vf(n m o:Nat)(p:Tm n)(t:Tm m)(q:List (Tm o))(a:Option Addr)(c B:Nat)(w:World)(A:In B w n p)(j:In B w m t)(g:eY B w o q a)(e:B<=w.heap.size)(I:(aq n p).length<=2097152)(K:(aq m t).length<=2097152)(J:∀y∈q,(aq o y).length<=2097152)(R:q.length<=9223372036854775807):Calls Tryz.prog 117 #[dg n p,dg m t,.slice a q.length c] w (vP (rM (bA n p) (bA m t) (jt m t) (fG o q)) (fY n p m t (mE o q)) w):=by
 cases n with
 | zero=>exact A.elim
 | succ n=>
 cases m with
 | zero=>exact j.elim
 | succ m=>
 refine A9 w p.1.1 p.1.2.1 t.1.1 t.1.2.1 p.1.2.2 t.1.2.2 p.2.1.1 t.2.1.1 p.2.2.length p.2.1.2 t.2.2.length t.2.1.2 a q.length c _ _ _ _ _ (mE o q) ?_ ?_ ?_ ?_ ?_ ?_ ?_
 ·exact λf d=>dL (n+1) p B f (A.below (d.mono e)) (au e d.size) I
 ·exact λf d=>dL (m+1) t B f (j.below (d.mono e)) (au e d.size) K
 ·intro f d;rw[<-eT];exact gX (m+1) t B f (j.below (d.mono e)) (au e d.size)
 ·exact λf d=>xR o q a c B f (g.below (d.mono e)) R J (au e d.size)
 ·intro M f d;have k:=xV M;rcases g with g|⟨T,po,rfl,F,g⟩
  ·rw[g]at k;simp at k
  ·have l:=AF o q 4 T po c f k (by decide) (by decide) (λV H=>AW λS y h=>((g S y h).1.below (d.mono e) F).below (H.mono (au e d.size)) F);rw[k];exact l
 ·intro x f C v r d L z;obtain⟨D,s,G,u⟩:=uV x;exact FG (n+1) p (m+1) t (mE o q) C v r B f (A.below (d.mono e)) (j.below (d.mono e)) (pC _ _ D) (pC _ _ s) ((yR g u).below (d.mono e)) (au e L) z
 ·intro x f C v r b N d z;obtain⟨D,s,G,u⟩:=uV x;have i:=((yR g u).fit j (pC _ _ s) N).below (d.mono e);have P:=Hc z (λy h=>(i.2 y h).1) (au e d.size);have Q:(Ag b).length=4:=by simp[Ag,i.1]
  have l:=rj (lQ b) (gz _) (Ag b) (some ⟨v,0,none⟩) r f.heap.size f P (by omega) (EM λy h=>⟨(i.2 y h).2,λE=>by
   have O:=(i.2 y h).1;obtain⟨U,W⟩:=y;simp only at E;subst E
   exact O.elim⟩) (ag _)
  rw[Q]at l;exact⟨i.1,l⟩
theorem wj{n:Nat}{x:Tm (n+1)}(a:aF (n+1) x=true):x.1.1≠5/\x.1.1≠6/\∀y∈x.2.2,aF n y=true:=by
 simp only[aF,az,nO,bS]at a;exact⟨by simpa using a.1.1,by simpa using a.1.2,a.2⟩
def Mc:(n:Nat)->Tm n->Bool
 | 0,_=>true
 | n+1,x=> !(x.1.1==5) && x.2.2.all λy=>Mc n y
def Au(D:Nat)(l:List (Tm D))(d:List An):Prop:=∀(i:Nat)(z:An),d[i]?=some z->∃y,l[i]?=some y/\aw D y z.1 z.2=true/\aB ⟨D,y⟩
theorem uX{n m:Nat}:(p:List (Tm n))->(q:List (Tm m))->(b c:List An)->gT (λx y b=>fY n x m y b) p q b=some c->∀(i:Nat)(x:Tm n)(y:Tm m),p[i]?=some x->q[i]?=some y->∃a e,fY n x m y a=some e
 | [],_,_,_,_,i,x,y,hx,_=>by simp at hx
 | _::_,[],_,_,_,i,x,y,_,hy=>by simp at hy
 | x::p,y::q,b,c,h,i,x',y',hx,hy=>by
  simp only[gT]at h;obtain⟨d,f,g⟩:=bz.1 h;cases i with
  | zero=>
   simp at hx hy;subst hx hy;exact⟨b,d,f⟩
  | succ i=>exact uX p q d c g i x' y' (by simpa using hx) (by simpa using hy)
theorem GV{a b:Type}(f:a->Int)(g:b->Int):(p:List a)->(q:List b)->p.length=q.length->(∀(i:Nat)(x:a)(y:b),p[i]?=some x->q[i]?=some y->f x<=g y)->(p.map f).sum<=(q.map g).sum
 | [],[],_,_=>by simp
 | [],_::_,h,_=>by simp at h
 | _::_,[],h,_=>by simp at h
 | x::p,y::q,h,hf=>by
  have j:=hf 0 x y (by simp) (by simp);have k:=GV f g p q (by simpa using h) λi x' e c d=>hf (i+1) x' e (by simpa using c) (by simpa using d);simp only[aH,bt];omega
theorem Cr{a b:Type}(f:a->Int)(g:b->Int):(p:List a)->(q:List b)->(i j:Int)->i<=j->p.length=q.length->(∀(i:Nat)(x:a)(y:b),p[i]?=some x->q[i]?=some y->f x<=g y)->p.foldl (λm y=>max m (f y)) i<=q.foldl (λm y=>max m (g y)) j
 | [],[],_,_,h,_,_=>h
 | [],_::_,_,_,_,h,_=>by simp at h
 | _::_,[],_,_,_,h,_=>by simp at h
 | x::p,y::q,i,j,hij,h,hf=>by
  have k:=hf 0 x y (by simp) (by simp);simp only[gK];exact Cr f g p q _ _ (by omega) (by simpa using h) λi x' e c d=>hf (i+1) x' e (by simpa using c) (by simpa using d)
theorem sh{c:Type}(f:c->Int)(b:∀x,0<=f x):(p:List c)->(y:c)->y∈p->f y<=(p.map f).sum/\0<=(p.map f).sum
 | [],y,a=>by cases a
 | x::p,y,a=>by
  have g:=b x;have e:0<=(p.map f).sum:=by
   cases p with
   | nil=>simp
   | cons d p=>exact(sh f b (d::p) d (by simp)).2
  simp only[aH,bt];rcases br.1 a with rfl|a
  ·omega
  ·have:=sh f b p y a;omega
theorem Cq{a:Type}(f:a->Int):(p:List a)->(i:Int)->i<=p.foldl (λm y=>max m (f y)) i
 | [],_=>il _
 | x::p,i=>by
  simp only[gK];have:=Cq f p (max i (f x));omega
theorem yW{b:Type}(f:b->Int):(p:List b)->(i:Int)->(y:b)->y∈p->f y<=p.foldl (λm y=>max m (f y)) i
 | [],_,y,a=>by cases a
 | x::p,i,y,a=>by
  simp only[gK];rcases br.1 a with rfl|a
  ·have:=Cq f p (max i (f y));omega
  ·exact yW f p _ y a
theorem Kn:(n:Nat)->(x:Tm n)->(m:Nat)->(t:Tm m)->(b c:List An)->Mc n x=true->fY n x m t b=some c->sz n x<=sz m t/\eW n x<=eW m t
 | 0,_,_,_,_,_,_,h=>by simp[fY]at h
 | _+1,_,0,_,_,_,_,h=>by simp[fY]at h
 | n+1,x,m+1,t,b,c,hv,h=>by
  have s0:=(eC (m+1) t).1;have k:=(fB (m+1) t).1;simp only[Mc,az,bS]at hv;have r:¬x.1.1=5:=by simpa using hv.1
  by_cases i:x.1.1=4
  ·have s:¬x.1.1=6:=by omega
   simp only[fY,if_neg s,if_neg r,if_pos i]at h;split at h
   ·rename_i j;have p:=uX _ _ b c h;have key:∀(e:Nat)(a:Tm n)(d:Tm m),x.2.2[e]?=some a->t.2.2[e]?=some d->sz n a<=sz m d/\eW n a<=eW m d:=λe a d f g=>by
     obtain⟨l,o,q⟩:=p e a d f g;exact Kn n a m d l o (hv.2 a (ay f)) q
    have u:=GV (λa=>1+sz n a) (λa=>1+sz m a) x.2.2 t.2.2 j.2 λe a d f g=>by have:=key e a d f g;omega
    have v:=Cr (λa=>eW n a) (λa=>eW m a) x.2.2 t.2.2 0 0 (il _) j.2 λe a d f g=>(key e a d f g).2;simp only[sz,eW,if_pos i,if_pos j.1];omega
   ·cases h
  ·simp only[sz,eW,if_neg i];simp only[sz,eW]at s0 k;exact⟨s0,k⟩
theorem sP{n:Nat}{x:Tm n}:bA n x=0 ↔ bO n x=true/\eW n x<=12/\sz n x<=200:=by
 rw[<-iK];unfold xu;constructor
 ·intro a;split at a
  ·rename_i c;split at a
   ·cases a
   ·rename_i f;exact⟨c,by omega,by omega⟩
  ·cases a
 ·rintro ⟨b,d,e⟩;rw[if_pos b,if_neg (by omega)]
def ES(a:An):Prop:=bA a.1 a.2=0/\(bE a=6\/aF a.1 a.2=true)
theorem tL:sB ES:=by
 intro n b a k c;obtain⟨l,d⟩:=k;obtain⟨g,h,i⟩:=sP.1 l;have f:aB ⟨n+1,b⟩:=aJ.2 g;have j:=eh (bm n b) (f (bm n b) (by simp[aq,bm]));have e:b.1.1=4:=by
  by_cases e:b.1.1=4
  ·exact e
  ·have:b.2.2=[]:=bK (j.2.2.2.2 e);rw[this]at c;cases c
 have o:=sh (λa=>1+sz n a) (λa=>by have:=(eC n a).1;omega) b.2.2 a c;have m:=yW (λa=>eW n a) b.2.2 0 a c;simp only[sz,eW,if_pos e]at h i;refine⟨sP.2 ⟨aJ.1 (aU n b a f c),by simp only at m ⊢;omega,by simp only at o ⊢;omega⟩,af ?_⟩;rcases d with d|d
 ·simp only[bE]at d;omega
 ·exact(wj d).2.2 a c
theorem vH{D:Nat}{l:List (Tm D)}{c:List An}(g:∀y∈c,ES y)(h:l.length=4)(n:c.length=4)(j:Au D l c):fG D l=true:=by
 unfold fG;rw[h];simp only[decide_true,ed,bS];intro y k;obtain⟨a,e⟩:=cB k;have i:a<c.length:=by have:=(aK.1 e).1;omega
 obtain⟨o,f,d,_⟩:=j a c[a] (aA i);rw[e]at f;obtain rfl:=ap f;obtain⟨m,b⟩:=g c[a] (iS _);unfold zm;rw[bI d,m,jH d,<-eT,cw _ _ _ _ d];rcases b with b|b
 ·have:bE (⟨(c[a]).1,(c[a]).2⟩:An)=6:=b;rw[this];rfl
 ·rw[b];simp
theorem Cp{b:List An}{w1 w':World}{a:Option Addr}{c:Nat}{l:List (Tm (lQ b))}(q:fV (lQ b) (Ag b) w1 w' a c l)(j:∀y∈b,aB y)(r:b.length=4):eY w'.heap.size w' (lQ b) l a/\l.length=4/\Au (lQ b) l b/\∀y∈l,aB ⟨lQ b,y⟩:=by
 obtain⟨E,F,G,H,A,f⟩:=q;have D:(Ag b).length=4:=by simp[Ag,r]
 have t:eY w'.heap.size w' (lQ b) l a:=by
  rcases f with f|⟨B,o,p,C,v,f⟩
  ·exact ae f
  ·exact af ⟨B,o,p,v,λd y i=>⟨(f d y i).1,(f d y i).2.1⟩⟩
 have m:Au (lQ b) l b:=by
  intro d e h;have g:d<l.length:=by have:=(aK.1 h).1;omega
  have z:(Ag b)[d]?=some (aI (lQ b) e.1 e.2):=by simp[Ag,h]
  have x:=ku _ _ _ A d l[d] _ (aA g) z;have u:=gd (lQ b) e.1 (xz b e (ay h)) e.2 (j e (ay h));have k:=bP _ _ _ _ _ _ x u;exact⟨l[d],aA g,k,aJ.2 (by rw[iJ _ _ _ _ k];exact aJ.1 (j e (ay h)))⟩
 refine⟨t,by omega,m,λy i=>?_⟩;obtain⟨d,g⟩:=cB i;have s:d<b.length:=by have:=(aK.1 g).1;omega
 obtain⟨I,n,_,w⟩:=m d b[d] (aA s);rw[g]at n;obtain rfl:=ap n;exact w
def dG:Tm 1:=((6,0,.empty),(none,0),[])
theorem Kf(B:Nat)(w:World):In B w 1 dG:=⟨⟨by simp[dG,dc],by simp[dG,dc],aD _,by simp[dG],by simp[dG]⟩,ae rfl⟩
theorem Lt:bO 1 dG=true:=by
 have:(ByteArray.empty).toList=[]:=by rw[du];rfl
 simp[bO,dG,bT,bm,this]
theorem d1(x:Tm 1)(a:x.1.1≠4):eW 1 x=0/\sz 1 x=0:=by simp[eW,sz,a]
theorem vZ:bA 1 dG=0:=by
 rw[sP];have a:=d1 dG (by simp[dG]);exact⟨Lt,by rw[a.1];decide,by rw[a.2];decide⟩
theorem Fh:fG 1 (List.replicate 4 dG)=true:=by
 have:zm 1 dG=true:=by
  unfold zm;rw[vZ];rfl
 unfold fG;simp only[List.length_replicate,decide_true,ed,bS];intro b a;rw[List.eq_of_mem_replicate a];exact this
theorem ze(w:World):Calls Tryz.prog 118 #[] w λe w'=>e=.returned (.slice (some ⟨w.heap.size,0,none⟩) 4 4)/\Hid (fV 1 (List.replicate 4 dG) w w' (some ⟨w.heap.size,0,none⟩) 4 (List.replicate 4 dG)):=by
 obtain⟨A,l,q,r,s⟩:=bM gA;go_enter Tryz.func118,Tryz.ntmps118;go_wp2_with (at_make;refine jZ _ rfl _ _ 28 rfl w.heap.size 30 A _ 4 Tryz.underlying28 l q r _ _ _ _ 4 rfl rfl rfl rfl (by rw[s];omega) (by unfold maxLen;omega) (ag _) ?_;intro C p b);have i:=ai (pD 1 (List.replicate 4 dG) 4 p);have h:Hid (Below w.heap.size w C):=⟨b.os,b.tape,b.output,b.size,λk m=>b.block k m (by simp)⟩;clear p b l q r s;go_loopw [6] (λd wr=>∃k:Nat,k<=4/\d=.int .i64 k/\Hid (Below w.heap.size w wr/\sx 1 (List.replicate 4 dG) 4 w.heap.size k (List.replicate k dG) wr)) (λd _=>4-(intOf d).toNat)
 case atStart=>exact⟨0,by omega,rfl,h.out,i.out⟩
 case round=>
  obtain⟨k,m,rfl,a⟩:=hrel;clear i h;by_cases n:k<4
  ·have t:(List.replicate 4 dG)[k]?=some dG:=by rw[List.getElem?_replicate,if_pos n]
   have j:In wr.heap.size wr 1 dG:=Kf _ _;have o:ch (λf=>w.heap.size<f) 1 dG:=by simp[ch,dG]
   have y:=ai (a.out.2.step n dG t (ah _ _) dG j o (by simp[aw,dG,av]));have v:Hid (Below w.heap.size w (iH wr w.heap.size (k*4) (iv 1 dG))):=by
    have c:=a.out.1;exact⟨c.os,c.tape,c.output,au c.size (dp (aZ _ _ _ _).symm),λf z=>(aO (by omega) _ _ _ _).trans (c.block f z)⟩
   obtain⟨g,u⟩:∃g,((List.replicate k dG).map (λD=>(⟨1,D⟩:An))++List.replicate (4-k) zA)[k]?=some g:=⟨_,aA (by simp;omega)⟩;obtain⟨E,F,G,H⟩:=a.out.2.2.1.cells k g u;have I:=λB=>a.out.2.2.1.free B;have J:(0:Int)<=(k:Int):=by omega
   have K:(k:Int)<4:=by omega
   have L:(k:Int)<=4:=by omega
   clear t j o u a;go_wp2_with fail;go_roundw
   case rel=>
    refine⟨k+1,by omega,by go_num,v.out,?_⟩;have e:List.replicate (k+1) dG=List.replicate k dG++ [dG]:=List.replicate_succ';rw[e];exact y.out
   case measure=>simp[intOf];omega
  ·obtain rfl:k=4:=by omega
   have x:=ai (a.out.2.done rfl (by omega) a.out.1 (by unfold maxLen;omega));go_wp2_with fail
   go_ret
   exact⟨rfl,x.out⟩
structure bf (S:Nat->Prop) (w w':World):Prop where
 os:w'.os=w.os
 tape:w'.tape=w.tape
 output:w'.output=w.output
 size:w.heap.size<=w'.heap.size
 block:∀b,b<w.heap.size->¬S b->w'.heap[b]?=w.heap[b]?
theorem bf.refl(S:Nat->Prop)(w:World):bf S w w:=⟨rfl,rfl,rfl,ag _,λ_ _ _=>rfl⟩
theorem bf.trans{S T:Nat->Prop}{w w1 w2:World}(a:bf S w w1)(k:bf T w1 w2)(e:∀b,b<w.heap.size->T b->S b):bf S w w2:=
 ⟨k.os.trans a.os,k.tape.trans a.tape,k.output.trans a.output,au a.size k.size,λb c d=>(k.block b (aL c a.size) (λf=>d (e b c f))).trans (a.block b c d)⟩
theorem bf.mono{S T:Nat->Prop}{w w1:World}(a:bf S w w1)(d:∀b,b<w.heap.size->S b->T b):bf T w w1:=⟨a.os,a.tape,a.output,a.size,λb c e=>a.block b c λk=>e (d b c k)⟩
theorem aC{w w':World}(a:Below w.heap.size w w')(S:Nat->Prop):bf S w w':=⟨a.os,a.tape,a.output,a.size,λb c _=>a.block b c⟩
theorem dS{w w':World}{row:Option Nat}(a:w.grownBy w' row):bf (λb=>row=some b) w w':=⟨a.os,a.tape,a.output,a.size,λb c d=>a.block b c λe=>d e.symm⟩
theorem bH(w:World)(q o:Nat)(v:Value):bf (λb=>b=q) w (w.setCell ⟨q,o,none⟩ v):=
 ⟨rfl,rfl,rfl,by simp[World.setCell],λb _ c=>by
  have:q≠b:=λa=>c a.symm
  simp[World.setCell,bJ,this]⟩
theorem bf.below{S:Nat->Prop}{w w':World}{B:Nat}(a:bf S w w')(e:B<=w.heap.size)(c:∀b,b<B->¬S b):Below B w w':=⟨a.os,a.tape,a.output,a.size,λb d=>a.block b (by omega) (c b d)⟩
theorem bf.cell{S:Nat->Prop}{w w':World}(a:bf S w w'){b:Nat}(o:Nat)(d:b<w.heap.size)(c:¬S b):w'.cell? ⟨b,o,none⟩=w.cell? ⟨b,o,none⟩:=by
 simp only[World.cell?,a.block b d c]
theorem aT{base:Nat}{e:TypeId}{sz:Nat}{v:Value}{n:Nat}{xs:List Value}{w w':World}{S:Nat->Prop}(c:w.ownsRow base e sz v n xs)(k:bf S w w')(h:∀b,v.ownBlock=some b->¬S b):w'.ownsRow base e sz v n xs:=by
 refine⟨c.1,?_⟩;rcases c.2 with⟨e,g⟩|⟨a,cap,f,e,i,d,j⟩
 ·exact ae ⟨e,g⟩
 ·exact af ⟨a,cap,f,e,i,(k.block a (aE.1 d).1 (h a (by rw[e];rfl))).trans d,j⟩
theorem dr.kee{S:Nat->Prop}{w w':World}(a:bf S w w'){b o:Nat}(d:b<w.heap.size)(c:¬S b):{n:Nat}->{x:Tm n}->dr w b o n x->dr w' b o n x
 | 0,_,k=>k
 | _+1,_,k=>by
  obtain⟨e,f,g,h⟩:=k;exact⟨(a.cell _ d c).trans e,(a.cell _ d c).trans f,(a.cell _ d c).trans g,(a.cell _ d c).trans h⟩
theorem In.kee{S:Nat->Prop}{w w':World}(d:bf S w w'):{n:Nat}->{x:Tm n}->In w.heap.size w n x->ch (λb=>¬S b) n x->In w'.heap.size w' n x
 | 0,_,k,_=>k
 | _+1,x,k,o=>by
  obtain⟨p,a⟩:=k;refine⟨p,?_⟩;rcases a with a|⟨b,f,e,h,a⟩
  ·exact ae a
  ·rcases o with o|⟨q,r,c,m,o⟩
   ·exact ae o
   ·rw[e]at c;injection c with c;injection c with j l;subst j l;exact af ⟨b,f,e,aL h d.size,λi y g=>⟨(a i y g).1.kee d h m,(a i y g).2.kee d (o i y g)⟩⟩
/-! ### the keys -/
theorem wT:WideMaps.ArrKey Tryz.prog 155 3 2:=⟨Tryz.underlying155,by kernel_rfl,by kernel_rfl,by kernel_rfl⟩
theorem eM:Keyed Tryz.prog 155:=Keyed.of_law wT.law
theorem BZ:∃m,Tryz.prog.types.size=m+1:=by
 have a:(Tryz.prog.types.size==0)=false:=by kernel_rfl
 have b:Tryz.prog.types.size≠0:=gP.1 a;exact⟨Tryz.prog.types.size-1,by omega⟩
def pk(k:Int×Int):Value:=.agg #[.int .i64 k.1,.int .i64 k.2]
def kl(k:Int×Int):Lit:=.string (keyBytes [.int .i64 k.1,.int .i64 k.2])
def I2(k:Int×Int):Prop:=dc k.1/\dc k.2
theorem JP{a:Int}(b:dc a):(Lit.int .i64 a).wf=true:=gO (by unfold dc at b;omega)
theorem fl{k:Int×Int}(a:I2 k):keyOf Tryz.prog 155 (pk k)=some (kl k):=WideMaps.keyOf_pair wT Tryz.underlying3 BZ (JP a.1) (JP a.2)
theorem oM{k b:Int×Int}(c:I2 k)(d:I2 b)(e:kl k=kl b):k=b:=by
 have a:=eM.inj (fl c) (e▸fl d);simp only[pk,Value.agg.injEq,Array.mk.injEq,List.cons.injEq,Value.int.injEq,true_and,and_true]at a;exact gM a.1 a.2
def pW(v:Value):Option (DataW Value×List MemPlace):=some (.held v,[])
def fT{a:Type}(f:Int×Int->a)(k:Int×Int)(x:a):Int×Int->a:=λj=>if j=k then x else f j
theorem cr{a:Type}(f:Int×Int->a)(k:Int×Int)(x:a):fT f k x k=x:=if_pos rfl
theorem bC{a:Type}(f:Int×Int->a){k j:Int×Int}(x:a)(b:j≠k):fT f k x j=f j:=if_neg b
def lw:Value:=.slice none 0 0
def dd(N:Nat)(l:List (Tm N)):List Value:=cO (l.map (iv N))
theorem oz(N:Nat)(l:List (Tm N)):(dd N l).length=l.length*4:=by simp[dd,mU]
theorem oy(N:Nat)(l r:List (Tm N)):dd N (l++r)=dd N l++dd N r:=by simp[dd,tD]
def mG(base N:Nat)(v:Value)(l:List (Tm N))(w:World):Prop:=w.ownsRow base 30 4 v l.length (dd N l)
structure GM (base mb n N:Nat) (f:Int×Int->List (Tm N)) (sl:Int×Int->Value) (w:World):Prop where
 lo:base<=mb
 map:∃D,w.ownsMap Tryz.prog 155 pW mb n D/\(∀k,I2 k->D.atKey (kl k) (.held lw)=.held (sl k))/\∀x,has D x=true ↔∃k,I2 k/\x=kl k/\f k≠[]
 row:∀k,I2 k->mG base N (sl k) (f k) w
 apart:∀k j,I2 k->I2 j->k≠j->∀b,(sl k).ownBlock=some b->(sl j).ownBlock≠some b
def JM(a:Nat)(sl:Int×Int->Value)(b:Nat):Prop:=b=a\/∃k,I2 k/\(sl k).ownBlock=some b
theorem dT{w:World}{base:Nat}{e:TypeId}{sz:Nat}{v:Value}{n:Nat}{xs:List Value}(d:w.ownsRow base e sz v n xs)(b:Nat)(c:v.ownBlock=some b):∃a,w.heap[b]?=some (.cells a e (0,0)):=by
 rcases d.2 with⟨rfl,_⟩|⟨g,cap,a,rfl,_,f,_⟩
 ·simp[Value.ownBlock]at c
 ·simp[Value.ownBlock]at c;subst c;exact⟨a,f⟩
variable {base mb n N:Nat} {f:Int×Int->List (Tm N)} {sl:Int×Int->Value} {w:World}
theorem GM.lt(a:GM base mb n N f sl w)(b:Nat)(c:JM mb sl b):base<=b/\b<w.heap.size:=by
 rcases c with rfl|⟨k,e,c⟩
 ·obtain⟨g,d,_⟩:=a.map;exact⟨a.lo,d.lt⟩
 ·exact(a.row k e).lt b c
theorem GM.ne(a:GM base mb n N f sl w){k:Int×Int}(g:I2 k):(sl k).ownBlock≠some mb:=by
 intro d;obtain⟨c,b⟩:=dT (a.row k g) mb d;obtain⟨h,⟨es,i,e,_⟩,_⟩:=a.map;rw[e]at b;cases b
theorem GM.kee{S:Nat->Prop}{w':World}(a:GM base mb n N f sl w)(k:bf S w w')(e:∀b,JM mb sl b->¬S b):GM base mb n N f sl w':=by
 refine⟨a.lo,?_,λh g=>aT (a.row h g) k λb c=>e b (af ⟨h,g,c⟩),a.apart⟩;obtain⟨i,d,l⟩:=a.map;refine⟨i,?_,l⟩;have m:=d.lt;obtain⟨es,j,c,o⟩:=d;exact⟨es,j,(k.block mb m (e mb (ae rfl))).trans c,o⟩
theorem GM.mono(b:GM base mb n N f sl w){m:Nat}(i:n<=m):GM base mb m N f sl w:=by
 obtain⟨c,⟨a,d,e⟩,g,h⟩:=b;exact⟨c,⟨a,d.mono i,e⟩,g,h⟩
theorem GM.new(w:World)(N:Nat):GM w.heap.size w.heap.size 0 N (λ_=> []) (λ_=>lw) (w.alloc (.map #[] 0)):=
 ⟨ag _,⟨.map [],oc w _ _ _,λk _=>by simp[DataW.atKey],λe=>⟨λa=>by simp[has]at a,λ⟨k,_,_,a⟩=>absurd rfl a⟩⟩,
  λk _=>⟨by simp[dd,cO],ae ⟨rfl,rfl⟩⟩,λk d _ _ _ b c=>by simp[lw,Value.ownBlock]at c⟩
theorem mG.rebase{a:Nat}{v:Value}{l:List (Tm N)}(b:mG base N v l w)(c:a<=base):mG a N v l w:=pT b c
theorem GM.rebase{b:Nat}(a:GM base mb n N f sl w)(c:b<=base):GM b mb n N f sl w:=
 ⟨au c a.lo,a.map,λk d=>(a.row k d).rebase c,a.apart⟩
theorem Gp{v:Value}{d:DataW Value}{ps:List MemPlace}(a:pW v=some (d,ps)):d=.held v:=by
 unfold pW at a;injection a with a;injection a with b c;exact b.symm
theorem qi(w:World):(zeroValue 28).run Tryz.prog w=.ok (.slice none 0 0) w:=by kernel_rfl
theorem GM.look(d:GM base mb n N f sl w){k:Int×Int}(b:I2 k):(Instr.lookup 66 (.map (some mb)) (pk k) false).run Tryz.prog w=.ok (sl k) w:=by
 obtain⟨i,e,g,_⟩:=d.map;obtain⟨j,ps,h,c⟩:=e.lookup eM Tryz.underlying66 (qi w) (zd:=.held lw) (zp:=[]) rfl (fl b);rw[g k b]at c;have a:=Gp c;injection a with a;rw[h,a]
theorem DK(w:World){k:Int×Int}(b:I2 k):(Instr.lookup 66 (.map none) (pk k) false).run Tryz.prog w=.ok (.slice none 0 0) w:=by
 have a:=look_nil (P:=Tryz.prog) (w:=w) false eM Tryz.underlying66 (qi w) (fl b);simpa using a
theorem C3{D:DataW Value}(e:IsMap D){k j:Int×Int}(d:I2 k)(b:I2 j)(v:Value)(z:DataW Value):(D.put (kl k) (.held v)).atKey (kl j) z=if j=k then .held v else D.atKey (kl j) z:=by
 by_cases a:j=k
 ·subst a;rw[if_pos rfl,atKey_put_same e (eM.key (fl b))]
 ·rw[if_neg a,atKey_put_other λc=>a (oM b d c)]
theorem GM.put_of(h:GM base mb n N f sl w){k:Int×Int}(i:I2 k){w1 w2:World}(E:bf (λb=>b=mb\/(sl k).ownBlock=some b) w w1){v:Value}{l:List (Tm N)}(H:l≠[])(J:mG base N v l w1)(y:∀b,v.ownBlock=some b->(sl k).ownBlock=some b\/w.heap.size<=b)(x:bf (λb=>b=mb) w1 w2)(K:∀D,w.ownsMap Tryz.prog 155 pW mb n D->w2.ownsMap Tryz.prog 155 pW mb (n+1) (D.put (kl k) (.held v))):GM base mb (n+1) N (fT f k l) (fT sl k v) w2:=by
 obtain⟨D,j,C,t⟩:=h.map;have M:=j.lt;have I:∀b,v.ownBlock=some b->b≠mb:=λb e a=>by
  subst a;rcases y b e with a|a
  ·exact h.ne i a
  ·omega
 have z:∀c,I2 c->c≠k->∀b,(sl c).ownBlock=some b->v.ownBlock≠some b:=λc d G b e L=>by
  rcases y b L with a|a
  ·exact h.apart c k d i G b e a
  ·have:=((h.row c d).lt b e).2;omega
 refine⟨h.lo,⟨_,K D j,λc d=>?_,λB=>?_⟩,λc d=>?_,λp c u d o b=>?_⟩
 ·rw[C3 j.isMap i d];unfold fT;split
  ·rfl
  ·exact C c d
 ·constructor
  ·intro A;by_cases a:B=kl k
   ·exact⟨k,i,a,by rw[cr];exact H⟩
   ·rw[has_put_other a]at A;obtain⟨c,d,s,m⟩:=(t B).1 A;refine⟨c,d,s,?_⟩;rw[bC _ _ λg=>a (by rw[s,g])];exact m
  ·rintro ⟨c,d,rfl,m⟩;by_cases a:c=k
   ·rw[a,has_put_same j.isMap (eM.key (fl i))]
   ·rw[has_put_other λg=>a (oM d i g)];rw[bC _ _ a]at m;exact(t _).2 ⟨c,d,rfl,m⟩
 ·by_cases a:c=k
  ·subst a;rw[cr,cr];exact aT J x λb e a=>I b e a
  ·rw[bC _ _ a,bC _ _ a];refine aT (aT (h.row c d) E λb e g=>?_) x λb e g=>h.ne d (by rw[e,g]);rcases g with g|g
   ·exact h.ne d (by rw[e,g])
   ·exact h.apart c k d i a b e g
 ·by_cases q:p=k
  ·subst q;rw[cr,bC _ _ λa=>o a.symm];exact λe F=>z c d (λa=>o a.symm) b F e
  ·rw[bC _ _ q];by_cases r:c=k
   ·subst r;rw[cr];exact λe=>z p u o b e
   ·rw[bC _ _ r];exact h.apart p c u d o b
theorem ig{w2:World}(a:w.mapTurned w2 mb):bf (λb=>b=mb) w w2/\w2.heap.size=w.heap.size:=by
 refine⟨(dS a.grown).mono λb _ c=>(ap c).symm,?_⟩;obtain⟨_,_,_,_,_,rfl⟩:=a;simp[ChangeMaps.setBlock]
theorem GM.store(g:GM base mb n N f sl w){k:Int×Int}(h:I2 k){w1:World}(i:bf (λb=>(sl k).ownBlock=some b) w w1){v:Value}{l:List (Tm N)}(x:l≠[])(A:mG base N v l w1)(y:∀b,v.ownBlock=some b->(sl k).ownBlock=some b\/w.heap.size<=b)(F:n<1000000):∃w2,(Instr.mapUpdate 66 (.map (some mb)) (pk k) v).run Tryz.prog w1=.ok () w2/\GM base mb (n+1) N (fT f k l) (fT sl k v) w2/\bf (λb=>b=mb) w1 w2/\w2.heap.size=w1.heap.size:=by
 have p:∀a,w.ownsMap Tryz.prog 155 pW mb n a->∃w2,(Instr.mapUpdate 66 (.map (some mb)) (pk k) v).run Tryz.prog w1=.ok () w2/\w2.ownsMap Tryz.prog 155 pW mb (n+1) (a.put (kl k) (.held v))/\w1.mapTurned w2 mb:=by
  intro a c;have z:=c.lt;have t:w1.ownsMap Tryz.prog 155 pW mb n a:=by
   obtain⟨es,r,u,C⟩:=c;exact⟨es,r,(i.block mb z (g.ne h)).trans u,C⟩
  exact t.store (d:=.held v) (ps:=[]) eM Tryz.underlying66 (by unfold maxLen;omega) (fl h) rfl
 obtain⟨a,c,_⟩:=g.map;obtain⟨w2,m,_,E⟩:=p a c;obtain⟨j,D⟩:=ig E;refine⟨w2,m,g.put_of h (i.mono λb _ e=>af e) x A y j (λq s=>?_),j,D⟩;obtain⟨G,o,B,_⟩:=p q s;rw[m]at o;injection o with _ e;rw[e];exact B
theorem GM.entry(s:GM base mb n N f sl w){k:Int×Int}(g:I2 k)(ak:n<1000000):∃(q:Nat)(w1:World),(Instr.mapEntry 66 (.map (some mb)) (pk k)).run Tryz.prog w=.ok (.tuple #[sl k,goInt q]) w1/\bf (λb=>b=mb) w w1/\w1.heap.size=w.heap.size/\ ∀(w2:World)(v:Value)(l:List (Tm N)),w2.heap[mb]?=w1.heap[mb]? ->bf (λb=>b=mb\/(sl k).ownBlock=some b) w w2->l≠[]->mG base N v l w2->(∀b,v.ownBlock=some b->(sl k).ownBlock=some b\/w.heap.size<=b)-> ∃i,(Instr.entryStore 66 (.map (some mb)) (goInt q) v).run Tryz.prog w2=.ok () i/\GM base mb (n+1) N (fT f k l) (fT sl k v) i/\bf (λb=>b=mb) w2 i/\i.heap.size=w2.heap.size:=by
 obtain⟨I,t,aj,_⟩:=s.map;obtain⟨es,r,c,j,Z,P⟩:=t;have t:w.ownsMap Tryz.prog 155 pW mb n I:=⟨es,r,c,j,Z,P⟩;obtain⟨ah,q,o,m,X,H,aa⟩:=WideElems.entry_then_store (e:=28) wT.law Tryz.underlying66 qi c j (fl g);have K:ah=sl k:=by
  have x:=s.look g;obtain⟨am,ps,Y,al⟩:=t.lookup eM Tryz.underlying66 (qi w) (zd:=.held lw) (zp:=[]) rfl (fl g);rw[x]at Y;rcases Maps.fit_look false eM Tryz.underlying66 (qi w) c j (fl g)with⟨a,z,_⟩|⟨L,an,E,p,a,_⟩
  ·rw[x]at a;injection a with a _;rcases H with⟨B,y,h,_⟩|⟨_,rfl⟩
   ·exact absurd h (z B y)
   ·exact a.symm
  ·rw[x]at a;injection a with a _;rcases H with⟨B,y,h,rfl⟩|⟨z,_⟩
   ·have:=entry_eq_of_key ((MapKept.stamped_iff es r).1 j.stamped).2.2 E y (p.trans h.symm);simp at a;rw[a,this]
   ·exact absurd p (z L E)
 subst K;have ab:w.mapTurned (ChangeMaps.setBlock w mb (.map o m)) mb:=⟨es,r,o,m,c,rfl⟩;obtain⟨p,af⟩:=ig ab;refine⟨q,_,X,p,af,λw2 v l ae Q R T S=>?_⟩;have u:w2.heap[mb]?=some (.map o m):=ae.trans (qX c _);obtain⟨C,A,U,V⟩:=aa w2 v u;have ad:w2.mapTurned (ChangeMaps.setBlock w2 mb (.map C A)) mb:=⟨o,m,C,A,u,rfl⟩;obtain⟨h,ag⟩:=ig ad;refine⟨_,U,s.put_of g Q R T S h (λai O=>?_),h,ag⟩;obtain⟨i,G,F,_⟩:=O.store (d:=.held v) (ps:=[]) eM Tryz.underlying66 (by unfold maxLen;omega) (fl g) rfl;rw[V]at G;injection G with _ e;rw[<-e]at F;obtain⟨M,J,D,W⟩:=F;rw[qX c]at D;exact⟨M,J,(qX u _).trans D,W⟩
theorem GM.drop(h:GM base mb n N f sl w){k:Int×Int}(l:I2 k)(ty:TypeId):∃w2,(Builtin.delete_ #[66,155] ty #[.map (some mb),pk k]).run Tryz.prog w=.ok (.tuple #[]) w2/\GM base mb n N (fT f k []) (fT sl k lw) w2/\bf (λb=>b=mb) w w2/\w2.heap.size=w.heap.size:=by
 obtain⟨D,u,v,q⟩:=h.map;obtain⟨w2,A,z,C⟩:=u.drop eM Tryz.underlying66 (fl l) ty;obtain⟨r,B⟩:=ig C;refine⟨w2,A,⟨h.lo,⟨_,z,λc d=>?_,λt=>?_⟩,λc d=>?_,λs c x d y b=>?_⟩,r,B⟩
 ·by_cases a:c=k
  ·subst a;rw[cr,atKey_del_same]
  ·rw[bC _ _ a,atKey_del_other λe=>a (oM d l e)];exact v c d
 ·constructor
  ·intro j;by_cases a:t=kl k
   ·rw[a,has_del_same]at j;cases j
   ·rw[has_del_other a]at j;obtain⟨c,d,p,g⟩:=(q t).1 j;refine⟨c,d,p,?_⟩;rw[bC _ _ λe=>a (by rw[p,e])];exact g
  ·rintro ⟨c,d,rfl,g⟩;by_cases a:c=k
   ·rw[a,cr]at g;exact absurd rfl g
   ·rw[has_del_other λe=>a (oM d l e)];rw[bC _ _ a]at g;exact(q _).2 ⟨c,d,rfl,g⟩
 ·by_cases a:c=k
  ·subst a;rw[cr,cr];exact⟨by simp[dd,cO],ae ⟨rfl,rfl⟩⟩
  ·rw[bC _ _ a,bC _ _ a];exact aT (h.row c d) r λb i e=>h.ne d (by rw[i,e])
 ·by_cases m:s=k
  ·subst m;rw[cr];intro i;simp[lw,Value.ownBlock]at i
  ·rw[bC _ _ m];by_cases o:c=k
   ·subst o;rw[cr];intro _ i;simp[lw,Value.ownBlock]at i
   ·rw[bC _ _ o];exact h.apart s c x d y b
theorem uA{P:Program}(w:World)(t ty e:TypeId)(i:TypeInfo)(x:P.underlying t=some (.slice e))(q:P.info? e=some i)(g d h:Nat)(f:Array Value)(p:w.heap[g]?=some (.cells f e (0,0)))(a:Addr)(m c:Nat)(b:List Value)(r:b.length=m*i.size)(s:∀j u,b[j]?=some u->w.cell? (a.add j)=some u)(l:∀u∈b,u.oneCell'=true)(v:d+m<=h)(o:d*i.size+b.length<=f.size):(Builtin.append_ #[t,t] ty #[.slice (some ⟨g,0,none⟩) d h,.slice (some a) m c]).run P w= .ok (.slice (some ⟨g,0,none⟩) (d+m) h) (w.setRow g (f.toList.take (d*i.size)++b++f.toList.drop (d*i.size+b.length)).toArray):=by
 have n:=run_firstCells_some (P:=P) w i.size m a m c b r s;have k:=oe P g (d*i.size) e b 0 f w p (by simpa using o) l;simp only[iY]at k;simp[Builtin.append_,bV x,sizeOf,typeInfo,q,Builtin.lenOf,v,n,eE,k]
theorem DA:(Tryz.prog.info? 30).map (λi=>(i.zero,i.size,i.bytes))=some (some (.agg #[.int .i64 0,.int .i64 0,.string ⟨#[]⟩,.slice none 0 0]),4,56):=by kernel_rfl
def oD:List Value:=[.int .i64 0,.int .i64 0,.string ⟨#[]⟩,.slice none 0 0]
theorem uC(w:World)(ty:TypeId)(g o c:Nat)(a:Array Value)(e:w.heap[g]?=some (.cells a 30 (0,0)))(d:o+4<=a.size):(Builtin.clear_ #[28] ty #[.slice (some ⟨g,o,none⟩) 1 c]).run Tryz.prog w=.ok (.tuple #[]) (w.setRow g (a.toList.take o++oD++a.toList.drop (o+4)).toArray):=by
 have b:=oe Tryz.prog g o 30 oD 0 a w e (by simpa [oD]using d) (by simp[oD,Value.oneCell']);have h:(Builtin.zeroCells (Value.agg #[.int .i64 0,.int .i64 0,.string ⟨#[]⟩,.slice none 0 0]).cells 1).toList=oD:=by
  simp[Builtin.zeroCells,Value.cells,oD];rfl
 simp only[iY]at b;have f:oD.length=4:=rfl;rw[f]at b;simp[Builtin.clear_,bV Tryz.underlying28,h,b]
theorem GK(w:World)(g L c:Nat)(b:L<=c)(d:1<=L):(Instr.slice 28 (.slice (some ⟨g,0,none⟩) L c) (some (.int .i64 0)) (some (.int .i64 1)) (some (.int .i64 L))).run Tryz.prog w=.ok (.slice (some ⟨g,0,none⟩) 1 L) w:=by
 have a:(1:Int)<=(L:Int):=by omega
 simp[Instr.slice,bV Tryz.underlying28,Instr.sliceBounds,Instr.sliceBound,asIntOf,a,b,go_sem]
theorem BE(w:World)(g L c:Nat):(Instr.slice 28 (.slice (some ⟨g,0,none⟩) L c) none (some (.int .i64 0)) none).run Tryz.prog w=.ok (.slice (some ⟨g,0,none⟩) 0 c) w:=by
 simp[Instr.slice,bV Tryz.underlying28,Instr.sliceBounds,Instr.sliceBound,asIntOf,go_sem]
theorem BF(w:World)(g L c:Nat)(d:L<=c)(e:2<=L):(Instr.slice 28 (.slice (some ⟨g,0,none⟩) L c) (some (.int .i64 1)) none none).run Tryz.prog w=.ok (.slice (some ⟨g,4,none⟩) (L-1) (c-1)) w:=by
 have a:(1:Int)<=(L:Int):=by omega
 have b:¬c=1:=by omega
 simp[Instr.slice,bV Tryz.underlying28,Instr.sliceBounds,Instr.sliceBound,asIntOf,a,b,go_sem,eE]
theorem BD(w:World)(g m c:Nat)(e:m+1<=c):(Instr.slice 28 (.slice (some ⟨g,0,none⟩) m c) (some (.int .i64 m)) (some (.int .i64 ((m:Int)+1))) none).run Tryz.prog w=.ok (.slice (some ⟨g,m*4,none⟩) 1 (c-m)) w:=by
 have a:¬c=m:=by omega
 have b:(m:Int)+1<=(c:Int):=by omega
 have d:(0:Int)<=(m:Int)+1:=by omega
 simp[Instr.slice,bV Tryz.underlying28,Instr.sliceBounds,Instr.sliceBound,asIntOf,a,b,d,go_sem,eE]
theorem rT{w w':World}{v x' c:Value}{b:Array Oper}{o:Oper}{a:Act}{K:Act->World->Prop}{Q:Exit->Act->World->Prop}{E:Prop}(e:o.guard=none)(s x:Operand)(f:o.op=.call {callee:=.builtin .append,args:= #[s,x],argTypes:= #[28,28]})(h:a.eval s=v)(j:a.eval x=x')(g:(Builtin.append_ #[28,28] o.type #[v,x']).run Tryz.prog w=.ok c w')(d:K (a.put o.dst c) w'):if Region.wanted o (yielded b a.tmps)=true then Oper.wp Tryz.prog o a w K Q else E:=by
 have i:Region.wanted o (yielded b a.tmps)=true:=by simp[Region.wanted,e]
 rw[if_pos i];unfold Oper.wp execOp;simp only[f,resolve,invoke,builtin,Sem.run_bind,Sem.run_pure,lP,lK,aH,bQ,h,j,g];exact d
theorem ab{w:World}{g:Nat}{a:Array Value}{e:TypeId}(b:w.heap[g]?=some (.cells a e (0,0)))(j:Nat):w.cell? ⟨g,j,none⟩=a.toList[j]? :=by
 simp[World.cell?,b]
theorem AI{N:Nat}(base g c m:Nat)(y:Tm N)(l:List (Tm N))(w:World)(j:l.length=m)(C:mG base N (.slice (some ⟨g,0,none⟩) (m+1) c) (y::l) w)(D:l≠[]):Calls Tryz.prog 66 #[.slice (some ⟨g,0,none⟩) ((m:Nat)+1) c,.int .i64 0,.int .i64 1] w λe w'=>e=.returned (.slice (some ⟨g,0,none⟩) m c)/\mG base N (.slice (some ⟨g,0,none⟩) m c) l w'/\w.grownBy w' (some g)/\w'.heap.size=w.heap.size:=by
 obtain⟨R,K,Z,O,aa⟩:=bM DA;have Y:0<m:=by
  rw[<-j];exact List.length_pos_iff.2 D
 obtain⟨E,F⟩:=C;rcases F with⟨e,_⟩|⟨V,cap,d,e,J,r,H,I,u,t⟩
 ·cases e
 ·injection e with i A B;injection i with i;injection i with i _;subst i B;simp only[aW,j]at E H t A;have q:d.toList.length=c*4:=by rw[gG,u]
  have M:d.toList.take ((m+1)*4)=dd N [y]++dd N l:=by
   rw[t,<-oy];rfl
  have S:(dd N [y]).length=4:=by rw[oz];rfl
  have f:(dd N l).length=m*4:=by rw[oz,j]
  have z:Hid (∀a:World,a.heap[g]?=some (.cells d 30 (0,0))->∀n o,(dd N l)[n]?=some o->a.cell? ((⟨g,4,none⟩:Addr).add n)=some o):=by
   intro a h n o s;have X:=(aK.1 s).1;rw[eE,ab h];have e:(d.toList.take ((m+1)*4))[4+n]?=some o:=by
    rw[M,dN (by omega),S,Nat.add_sub_cancel_left];exact s
   rw[jP]at e;split at e
   ·exact e
   ·cases e
  have v:Hid (∀(a:World)(ty:TypeId),a.heap[g]?=some (.cells d 30 (0,0))->(Builtin.append_ #[28,28] ty #[.slice (some ⟨g,0,none⟩) 0 c,.slice (some ⟨g,4,none⟩) m (c-1)]).run Tryz.prog a=
   .ok (.slice (some ⟨g,0,none⟩) m c) (a.setRow g (dd N l++d.toList.drop (m*4)).toArray)):=by
   intro a ty h;have p:=uA (P:=Tryz.prog) a 28 ty 30 R Tryz.underlying28 K g 0 c d h ⟨g,4,none⟩ m (c-1) (dd N l) (by rw[f,O]) (z.out a h) (rA _) (by omega) (by rw[f,u];omega);simpa [f]using p
  have x:Hid (∀(a:World)(ty:TypeId),a.heap[g]?=some (.cells (dd N l++d.toList.drop (m*4)).toArray 30 (0,0))->(Builtin.clear_ #[28] ty #[.slice (some ⟨g,m*4,none⟩) 1 (c-m)]).run Tryz.prog a=
   .ok (.tuple #[]) (a.setRow g (dd N l++oD++d.toList.drop ((m+1)*4)).toArray)):=by
   intro a ty h;have p:=uC a ty g (m*4) (c-m) _ h (by simp only[eQ,aX,eG,f,q];omega);rw[p];refine congrArg (λU=>Result.ok (Value.tuple #[]) (a.setRow g (List.toArray U))) ?_;rw[nX,iX (by omega),bk (by omega),List.drop_append,List.drop_of_length_le (by omega),f,List.drop_drop,lM];rw[show m*4+(m*4+4-m*4)=(m+1)*4 by omega]
  have G:=v.out w.drew 28 r;have HB:Hid ((w.drew.setRow g (dd N l++d.toList.drop (m*4)).toArray).heap[g]?=some (.cells (dd N l++d.toList.drop (m*4)).toArray 30 (0,0))):=setRow_heap w.drew g d _ _ _ r;have W:=λty:TypeId=>x.out _ ty HB.out;have ad:=λa:World=>GK a g (m+1) c (by omega) (by omega);have ae:=λa:World=>BE a g (m+1) c;have T:=λa:World=>BF a g (m+1) c (by omega) (by omega);have ag:=λa:World=>BD a g m c (by omega);rw[eI]at T;go_enter Tryz.func66,Tryz.ntmps66;go_wp2_with fail;go_region_held3 (λ_=>True) (trivial) ((first|(refine rT rfl _ _ rfl (by simp[Act.eval]) (by simp[Act.eval]) G ?_)));go_wp2_with fail
  go_ret
  have k:∀b,b≠g->((w.drew.setRow g (dd N l++d.toList.drop (m*4)).toArray).setRow g (dd N l++(oD++d.toList.drop ((m+1)*4))).toArray).heap[b]?=w.heap[b]? :=λb k=>(setRow_other _ _ _ _ k).trans (setRow_other _ _ _ _ k);refine⟨rfl,⟨by rw[f,j],af ⟨g,c,_,by rw[j],J,setRow_heap _ _ _ _ _ _ HB.out,by omega,I,?_,?_⟩⟩,⟨rfl,rfl,rfl,by simp,λb _ L=>k b λe=>L (by rw[e])⟩,by simp⟩
  ·have Q:oD.length=4:=rfl;simp only[eQ,aX,eG,f,q,Q];omega
  ·rw[nX,iX (by omega),bk (by omega)]
end Go.Proofs.YtnidfceinoiboaaGreat
