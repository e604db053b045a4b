/- What is proved here: plain facts and contracts that the claimed theorem stands on. No condition but those that each names. -/
import Derived.Test.YtckamaoibonjcaaGreatG10
import Derived.Deep.RegionLaw
import Derived.Laws.CopyRow
import Derived.Maps.RangeWalk
import Derived.WideKeyPair
import Derived.WideKeyEntry
namespace Go.Proofs.YtckamaoibonjcaaGreat
open Go.RowKit
open Go.RowKit Go.Maps
set_option maxHeartbeats 2000000
set_option maxRecDepth 100000
def sS(a b:Int)(cl bd:Bool):Int:=if a=0 then if b=0 then if cl && bd then 0 else 5 else b else a
def xx(a:Int)(o:Option (List An))(w:World)(e:Ending)(w':World):Prop:=
 ∃f len c d,e=.returned (.tuple #[ae f len c,.bool d,ab a])/\Hid (aj w w'/\
  ((¬(a=0/\o.isSome=true)->len=0/\d=false)/\∀b,a=0->o=some b->d=true/\len=4/\b.length=4/\∃g l,w.heap.size<=g.heap.size/\gD (mC b) (BE b) g w' f c l))
def Mj(w:World)(v0 v1 v2 v3 a b c d:Value)(w':World):Prop:=
 aj w w'/\w.heap.size+2<=w'.heap.size/\
 (w'.cell? ⟨w.heap.size,0,none⟩=some v0/\w'.cell? ⟨w.heap.size,1,none⟩=some v1/\w'.cell? ⟨w.heap.size,2,none⟩=some v2/\w'.cell? ⟨w.heap.size,3,none⟩=some v3)/\
 (w'.cell? ⟨w.heap.size+1,0,none⟩=some a/\w'.cell? ⟨w.heap.size+1,1,none⟩=some b/\w'.cell? ⟨w.heap.size+1,2,none⟩=some c/\w'.cell? ⟨w.heap.size+1,3,none⟩=some d)
theorem Mj.new(w:World)(v0 v1 v2 v3 a b c d:Value)(t e:TypeId):Mj w v0 v1 v2 v3 a b c d ((w.alloc (.cells #[v0,v1,v2,v3] t)).alloc (.cells #[a,b,c,d] e)):=
 ⟨((ap _ _).alloc (ak _) _).alloc (by simp) _,by simp,⟨by simp[go_sem],by simp[go_sem],by simp[go_sem],by simp[go_sem]⟩,by simp[go_sem],by simp[go_sem],by simp[go_sem],by simp[go_sem]⟩
theorem Mj.next{w:World}{v0 v1 v2 v3 c d e f:Value}{w1 w2:World}(a:Mj w v0 v1 v2 v3 c d e f w1)(b:aj w1 w2):Mj w v0 v1 v2 v3 c d e f w2:=
 ⟨a.1.trans (b.mono a.1.size),ay a.2.1 b.size,ny (by have:=a.2.1;omega) b a.2.2.1,ny (by have:=a.2.1;omega) b a.2.2.2⟩
theorem CK(w:World)(k G z D:Int)(s C:ByteArray)(a n:Option Addr)(l pc A B:Nat)(W:Option Addr)(Y X:Nat)(i j:Int)(cl bd:Bool)(o:Option (List An))(T:List An)(aq:Hid (∀w1,aj w w1->am 51 #[.agg #[ab k,ab G,af s,ae a l pc]] w1 λe w'=>e=.returned (ab i)/\aj w1 w'))(ar:Hid (∀w1,aj w w1->am 51 #[.agg #[ab z,ab D,af C,ae n A B]] w1 λe w'=>e=.returned (ab j)/\aj w1 w'))(al:Hid (∀w1,aj w w1->am 52 #[.agg #[ab z,ab D,af C,ae n A B]] w1 λe w'=>e=.returned (.bool cl)/\aj w1 w'))(ah:Hid (∀w1,aj w w1->am 158 #[ae W Y X] w1 λe w'=>e=.returned (.bool bd)/\aj w1 w'))(an:Hid (bd=true->∀w1,aj w w1->am 159 #[ae W Y X] w1 λe w'=>∃g c,e=.returned (ae (some ⟨g,0,none⟩) 4 c)/\Hid (aj w1 w'/\mD w1.heap.size g c T w')))(S:Hid (sS i j cl bd=0->∀w1 base g c,aj w w1->w.heap.size<=base->mD base g c T w1->am 160 #[ae (some ⟨g,0,none⟩) 4 c,.agg #[ab k,ab G,af s,ae a l pc],.agg #[ab z,ab D,af C,ae n A B]] w1 (ey base g c o w1)))(R:Hid (sS i j cl bd=0->∀w1 base g c b,o=some b->aj w w1->mD base g c b w1->b.length=4/\am 82 #[ae (some ⟨g,0,none⟩) 4 c] w1 λe w'=>∃n aA l,e=.returned (ae n 4 aA)/\Hid (gD (mC b) (BE b) w1 w' n aA l))):am 136 #[.agg #[ab k,ab G,af s,ae a l pc],.agg #[ab z,ab D,af C,ae n A B],ae W Y X] w (xx (sS i j cl bd) o w):=by
 obtain⟨f,V⟩:∃f,f=sS i j cl bd:=⟨_,rfl⟩;rw[<-V]at S R ⊢;have q:=ao V;clear V;go_enter Tryz.func136,Tryz.ntmps136;go_wp2_with fail;refine(aq.out _ (Mj.new w _ _ _ _ _ _ _ _ _ _).1).mono ?_;rintro e w1 ⟨rfl,aC⟩;have t:=ao ((Mj.new w (ab k) (ab G) (af s) (ae a l pc) (ab z) (ab D) (af C) (ae n A B) 30 30).next aC);clear aC aq;by_cases m:i=0
 case neg=>
  have aJ:(i !=0)=true:=by simpa using m
  have d:Hid (f=i/\¬f=0):=by have:=q.out;unfold sS at this;rw[if_neg m]at this;exact⟨this,by rw[this];exact m⟩
  clear m q;go_wp2_with fail;exact av (v:=.tuple #[ae none 0 0,.bool false,ab i]) (by simp[results,Tryz.results136,go_sem]) rfl ⟨none,0,0,false,by rw[d.out.1],t.out.1,λ_=>⟨rfl,rfl⟩,λb h=>absurd h d.out.2⟩
 have aJ:(i !=0)=false:=by simp[m]
 obtain⟨⟨L,M,N,O⟩,H,I,J,K⟩:=t.out.2.2;go_wp2_with fail;refine(ar.out _ t.out.1).mono ?_;rintro e aO ⟨rfl,aD⟩;have u:=ao (t.out.next aD);clear aD ar t L M N O H I J K;by_cases p:j=0
 case neg=>
  have aK:(j !=0)=true:=by simpa using p
  have d:Hid (f=j/\¬f=0):=by have:=q.out;unfold sS at this;rw[if_pos m,if_neg p]at this;exact⟨this,by rw[this];exact p⟩
  clear p m q;go_wp2_with fail;exact av (v:=.tuple #[ae none 0 0,.bool false,ab j]) (by simp[results,Tryz.results136,go_sem]) rfl ⟨none,0,0,false,by rw[d.out.1],u.out.1,λ_=>⟨rfl,rfl⟩,λb h=>absurd h d.out.2⟩
 have aK:(j !=0)=false:=by simp[p]
 have r:Hid (f=if cl && bd then 0 else 5):=by have:=q.out;unfold sS at this;rw[if_pos m,if_pos p]at this;exact this
 clear p m q;obtain⟨⟨L,M,N,O⟩,H,I,J,K⟩:=u.out.2.2;go_wp2_with fail;refine(al.out _ u.out.1).mono ?_;rintro e aP ⟨rfl,aE⟩;have E:=ao (u.out.next aE);clear aE al u L M N O H I J K;cases cl with
 | false=>
  have d:Hid (f=5/\¬f=0):=by have:=r.out;simp at this;exact⟨this,by rw[this];decide⟩
  clear r;go_wp2_with fail;exact av (v:=.tuple #[ae none 0 0,.bool false,ab 5]) (by simp[results,Tryz.results136,go_sem]) rfl ⟨none,0,0,false,by rw[d.out.1],E.out.1,λ_=>⟨rfl,rfl⟩,λb h=>absurd h d.out.2⟩
 | true=>
 go_wp2_with fail;refine(ah.out _ E.out.1).mono ?_;rintro e Z ⟨rfl,aF⟩;have x:=ao (E.out.next aF);clear aF ah E;cases bd with
 | false=>
  have d:Hid (f=5/\¬f=0):=by have:=r.out;simp at this;exact⟨this,by rw[this];decide⟩
  clear r;go_wp2_with fail;exact av (v:=.tuple #[ae none 0 0,.bool false,ab 5]) (by simp[results,Tryz.results136,go_sem]) rfl ⟨none,0,0,false,by rw[d.out.1],x.out.1,λ_=>⟨rfl,rfl⟩,λb h=>absurd h d.out.2⟩
 | true=>
 have d:Hid (f=0):=by have:=r.out;simp at this;exact this
 have aw:=ao (S.out d.out);have ai:=ao (R.out d.out);have ap:=ao (an.out rfl);clear r S R an;go_wp2_with fail;refine(ap.out _ x.out.1).mono ?_;rintro e aG ⟨g,c,rfl,Q⟩;have P:=ao (x.out.next Q.out.1);have F:Hid (mD Z.heap.size g c T aG):=Q.out.2;have ax:Hid (w.heap.size<=Z.heap.size):=x.out.1.size;obtain⟨⟨L,M,N,O⟩,H,I,J,K⟩:=P.out.2.2;clear x Q ap;go_wp2_with fail;refine(aw.out aG Z.heap.size g c P.out.1 ax.out F.out).mono ?_;rintro e aa U;have y:Hid (aj w aa):=P.out.1.trans (nD U.2.1 (ay ax.out F.out.lt.1) F.out.lt.2);have ad:=ao U.2.2;obtain⟨rfl,_,_⟩:=U;clear F aw;cases o with
 | none=>
  simp only[mx];go_wp2_with fail;exact av (v:=.tuple #[ae none 0 0,.bool false,ab 0]) (by simp[results,Tryz.results136,go_sem]) rfl ⟨none,0,0,false,by rw[d.out],y.out,λ_=>⟨rfl,rfl⟩,λb _ h=>by cases h⟩
 | some b=>
  simp only[mA];have aI:=ao (ad.out b rfl);have ak:=ao (ai.out aa _ g c b rfl y.out aI.out);clear ad ai;go_wp2_with fail;refine ak.out.2.mono ?_;rintro e aM ⟨az,aB,aL,rfl,ag⟩;have aH:Hid (aj w aM):=y.out.trans (ag.out.1.mono y.out.size);go_wp2_with fail;exact av (v:=.tuple #[ae az 4 aB,.bool true,ab 0]) (by simp[results,Tryz.results136,go_sem]) rfl ⟨az,4,aB,true,by rw[d.out],aH.out,λh=>absurd ⟨d.out,rfl⟩ h,λaN _ e=>by obtain rfl:=au e;exact⟨rfl,rfl,ak.out.1,aa,aL,y.out.size,ag.out⟩⟩
theorem vZ{e f:Int}{cl bd:Bool}(a:sS e f cl bd=0):e=0/\f=0/\cl=true/\bd=true:=by
 unfold sS at a;split at a
 ·split at a
  ·split at a
   ·rename_i b c d;simp at d;exact⟨b,c,d.1,d.2⟩
   ·cases a
  ·rename_i b c;exact absurd a c
 ·rename_i b;exact absurd a b
theorem zE{n:Nat}{q:List (Tm n)}(a:fY n q=true):q.length=4:=by
 unfold fY at a;simp at a;exact a.1
theorem EX{n:Nat}{q:List (Tm n)}(a:fY n q=true):∀y∈ns n q,az y:=by
 intro y c;simp only[ns,ci]at c;obtain⟨d,e,rfl⟩:=c;unfold fY at a;simp only[aA,b9]at a;have b:=a.2 d e;unfold AR at b;simp only[aA,cm]at b;exact qv n d b.1
theorem K9{B:Nat}{w:World}{n:Nat}{q:List (Tm n)}{a:Option Addr}(c:fp B w n q a):∀y∈ns n q,EK B w y:=by
 intro y e;simp only[ns,ci]at e;obtain⟨h,d,rfl⟩:=e;rcases c with c|⟨b,o,_,_,c⟩
 ·rw[c]at d;cases d
 ·obtain⟨g,f⟩:=cO d;exact(c g h f).2
theorem AB{B:Nat}{w:World}{n:Nat}{q:List (Tm n)}{a:Option Addr}(d:fp B w n q a)(k:fY n q=true):BS B w (ns n q):=
 ⟨by rw[mF];exact zE k,λc b=>⟨K9 d c b,EX k c b⟩⟩
theorem wk(n m o:Nat)(p:Tm n)(t:Tm m)(q:List (Tm o))(a:Option Addr)(c B:Nat)(w:World)(A:In B w n p)(j:In B w m t)(g:fp B w o q a)(e:B<=w.heap.size)(I:(aw n p).length<=2097152)(K:(aw m t).length<=2097152)(J:∀y∈q,(aw o y).length<=2097152)(R:q.length<=9223372036854775807):am 136 #[dj n p,dj m t,ae a q.length c] w (xx (sS (bu n p) (bu m t) (jM m t) (fY o q)) (gQ n p m t (ns o q)) w):=by
 cases n with
 | zero=>exact A.elim
 | succ n=>
 cases m with
 | zero=>exact j.elim
 | succ m=>
 refine CK w p.1.1 p.1.2.1 t.1.1 t.1.2.1 p.1.2.2 t.1.2.2 p.2.1.1 t.2.1.1 p.2.2.length p.2.1.2 t.2.2.length t.2.1.2 a q.length c _ _ _ _ _ (ns o q) ?_ ?_ ?_ ?_ ?_ ?_ ?_
 ·exact λf d=>dD (n+1) p B f (A.below (d.mono e)) (ay e d.size) I
 ·exact λf d=>dD (m+1) t B f (j.below (d.mono e)) (ay e d.size) K
 ·intro f d;rw[<-eY];exact iu (m+1) t B f (j.below (d.mono e)) (ay e d.size)
 ·exact λf d=>zy o q a c B f (g.below (d.mono e)) R J (ay e d.size)
 ·intro M f d;have k:=zE M;rcases g with g|⟨T,po,rfl,F,g⟩
  ·rw[g]at k;simp at k
  ·have l:=Ce o q 4 T po c f k (by decide) (by decide) (λV H=>Cv λS y h=>((g S y h).1.below (d.mono e) F).below (H.mono (ay e d.size)) F);rw[k];exact l
 ·intro x f C v r d L z;obtain⟨D,s,G,u⟩:=vZ x;exact Ir (n+1) p (m+1) t (ns o q) C v r B f (A.below (d.mono e)) (j.below (d.mono e)) (qv _ _ D) (qv _ _ s) ((AB g u).below (d.mono e)) (ay e L) z
 ·intro x f C v r b N d z;obtain⟨D,s,G,u⟩:=vZ x;have i:=((AB g u).fit j (qv _ _ s) N).below (d.mono e);have P:=JT z (λy h=>(i.2 y h).1) (ay e d.size);have Q:(BE b).length=4:=by simp[BE,i.1]
  have l:=sj (mC b) (gW _) (BE b) (some ⟨v,0,none⟩) r f.heap.size f P (by omega) (GV λy h=>⟨(i.2 y h).2,λE=>by
   have O:=(i.2 y h).1;obtain⟨U,W⟩:=y;simp only at E;subst E
   exact O.elim⟩) (ak _)
  rw[Q]at l;exact⟨i.1,l⟩
theorem xM{n:Nat}{x:Tm (n+1)}(a:aJ (n+1) x=true):x.1.1≠5/\x.1.1≠6/\∀y∈x.2.2,aJ n y=true:=by
 simp only[aJ,aA,oF,b9]at a;exact⟨by simpa using a.1.1,by simpa using a.1.2,a.2⟩
def Ow:(n:Nat)->Tm n->Bool
 | 0,_=>true
 | n+1,x=> !(x.1.1==5) && x.2.2.all λy=>Ow n y
def BZ(D:Nat)(l:List (Tm D))(d:List An):Prop:=∀(i:Nat)(a:An),d[i]?=some a->∃y,l[i]?=some y/\ax D y a.1 a.2=true/\az ⟨D,y⟩
theorem wb{n m:Nat}:(p:List (Tm n))->(q:List (Tm m))->(b c:List An)->im (λx y b=>gQ n x m y b) p q b=some c->∀(i:Nat)(x:Tm n)(y:Tm m),p[i]?=some x->q[i]?=some y->∃a e,gQ n x m y a=some e
 | [],_,_,_,_,i,x,y,hx,_=>by simp at hx
 | _::_,[],_,_,_,i,x,y,_,hy=>by simp at hy
 | x::p,y::q,b,c,h,i,x',y',hx,hy=>by
  simp only[im]at h;obtain⟨d,f,g⟩:=br.1 h;cases i with
  | zero=>
   simp at hx hy;subst hx hy;exact⟨b,d,f⟩
  | succ i=>exact wb p q d c g i x' y' (by simpa using hx) (by simpa using hy)
theorem JF{a b:Type}(f:a->Int)(g:b->Int):(p:List a)->(q:List b)->p.length=q.length->(∀(i:Nat)(x:a)(y:b),p[i]?=some x->q[i]?=some y->f x<=g y)->(p.map f).sum<=(q.map g).sum
 | [],[],_,_=>by simp
 | [],_::_,h,_=>by simp at h
 | _::_,[],h,_=>by simp at h
 | x::p,y::q,h,hf=>by
  have j:=hf 0 x y (by simp) (by simp);have k:=JF f g p q (by simpa using h) λi x' e c d=>hf (i+1) x' e (by simpa using c) (by simpa using d);simp only[aK,bv];omega
theorem Eb{a b:Type}(f:a->Int)(g:b->Int):(p:List a)->(q:List b)->(i j:Int)->i<=j->p.length=q.length->(∀(i:Nat)(x:a)(y:b),p[i]?=some x->q[i]?=some y->f x<=g y)->p.foldl (λm y=>max m (f y)) i<=q.foldl (λm y=>max m (g y)) j
 | [],[],_,_,h,_,_=>h
 | [],_::_,_,_,_,h,_=>by simp at h
 | _::_,[],_,_,_,h,_=>by simp at h
 | x::p,y::q,i,j,hij,h,hf=>by
  have k:=hf 0 x y (by simp) (by simp);simp only[fH];exact Eb f g p q _ _ (by omega) (by simpa using h) λi x' e c d=>hf (i+1) x' e (by simpa using c) (by simpa using d)
theorem tp{c:Type}(f:c->Int)(b:∀x,0<=f x):(p:List c)->(y:c)->y∈p->f y<=(p.map f).sum/\0<=(p.map f).sum
 | [],y,a=>by cases a
 | x::p,y,a=>by
  have g:=b x;have e:0<=(p.map f).sum:=by
   cases p with
   | nil=>simp
   | cons d p=>exact(tp f b (d::p) d (by simp)).2
  simp only[aK,bv];rcases ch.1 a with rfl|a
  ·omega
  ·have:=tp f b p y a;omega
theorem Ea{a:Type}(f:a->Int):(p:List a)->(i:Int)->i<=p.foldl (λm y=>max m (f y)) i
 | [],_=>iN _
 | x::p,i=>by
  simp only[fH];have:=Ea f p (max i (f x));omega
theorem AG{b:Type}(f:b->Int):(p:List b)->(i:Int)->(y:b)->y∈p->f y<=p.foldl (λm y=>max m (f y)) i
 | [],_,y,a=>by cases a
 | x::p,i,y,a=>by
  simp only[fH];rcases ch.1 a with rfl|a
  ·have:=Ea f p (max i (f y));omega
  ·exact AG f p _ y a
theorem MN:(n:Nat)->(x:Tm n)->(m:Nat)->(t:Tm m)->(b c:List An)->Ow n x=true->gQ n x m t b=some c->sz n x<=sz m t/\fh n x<=fh m t
 | 0,_,_,_,_,_,_,h=>by simp[gQ]at h
 | _+1,_,0,_,_,_,_,h=>by simp[gQ]at h
 | n+1,x,m+1,t,b,c,hv,h=>by
  have s0:=(eE (m+1) t).1;have k:=(fR (m+1) t).1;simp only[Ow,aA,b9]at hv;have r:¬x.1.1=5:=by simpa using hv.1
  by_cases i:x.1.1=4
  ·have s:¬x.1.1=6:=by omega
   simp only[gQ,if_neg s,if_neg r,if_pos i]at h;split at h
   ·rename_i j;have p:=wb _ _ b c h;have key:∀(e:Nat)(a:Tm n)(d:Tm m),x.2.2[e]?=some a->t.2.2[e]?=some d->sz n a<=sz m d/\fh n a<=fh m d:=λe a d f g=>by
     obtain⟨l,o,q⟩:=p e a d f g;exact MN n a m d l o (hv.2 a (aG f)) q
    have u:=JF (λa=>1+sz n a) (λa=>1+sz m a) x.2.2 t.2.2 j.2 λe a d f g=>by have:=key e a d f g;omega
    have v:=Eb (λa=>fh n a) (λa=>fh m a) x.2.2 t.2.2 0 0 (iN _) j.2 λe a d f g=>(key e a d f g).2;simp only[sz,fh,if_pos i,if_pos j.1];omega
   ·cases h
  ·simp only[sz,fh,if_neg i];simp only[sz,fh]at s0 k;exact⟨s0,k⟩
theorem tQ{n:Nat}{x:Tm n}:bu n x=0 ↔ bV n x=true/\fh n x<=12/\sz n x<=200:=by
 rw[<-gf];unfold vJ;constructor
 ·intro a;split at a
  ·rename_i c;split at a
   ·cases a
   ·rename_i f;exact⟨c,by omega,by omega⟩
  ·cases a
 ·rintro ⟨b,d,e⟩;rw[if_pos b,if_neg (by omega)]
def BY(a:An):Prop:=bu a.1 a.2=0/\(bO a=6\/aJ a.1 a.2=true)
theorem nK:tD BY:=by
 intro n b a k c;obtain⟨l,d⟩:=k;obtain⟨g,h,i⟩:=tQ.1 l;have f:az ⟨n+1,b⟩:=aL.2 g;have j:=eq (bA n b) (f (bA n b) (by simp[aw,bA]));have e:b.1.1=4:=by
  by_cases e:b.1.1=4
  ·exact e
  ·have:b.2.2=[]:=bH (j.2.2.2.2 e);rw[this]at c;cases c
 have o:=tp (λa=>1+sz n a) (λa=>by have:=(eE n a).1;omega) b.2.2 a c;have m:=AG (λa=>fh n a) b.2.2 0 a c;simp only[sz,fh,if_pos e]at h i;refine⟨tQ.2 ⟨aL.1 (aT n b a f c),by simp only at m ⊢;omega,by simp only at o ⊢;omega⟩,ai ?_⟩;rcases d with d|d
 ·simp only[bO]at d;omega
 ·exact(xM d).2.2 a c
theorem xf{D:Nat}{l:List (Tm D)}{c:List An}(g:∀y∈c,BY y)(h:l.length=4)(n:c.length=4)(j:BZ D l c):fY D l=true:=by
 unfold fY;rw[h];simp only[decide_true,eg,b9];intro y k;obtain⟨a,e⟩:=cO k;have i:a<c.length:=by have:=(aR.1 e).1;omega
 obtain⟨o,f,d,_⟩:=j a c[a] (aH i);rw[e]at f;obtain rfl:=au f;obtain⟨m,b⟩:=g c[a] (jl _);unfold AR;rw[bM d,m,j0 d,<-eY,cw _ _ _ _ d];rcases b with b|b
 ·have:bO (⟨(c[a]).1,(c[a]).2⟩:An)=6:=b;rw[this];rfl
 ·rw[b];simp
theorem D9{b:List An}{w1 w':World}{a:Option Addr}{c:Nat}{l:List (Tm (mC b))}(q:gD (mC b) (BE b) w1 w' a c l)(j:∀y∈b,az y)(r:b.length=4):fp w'.heap.size w' (mC b) l a/\l.length=4/\BZ (mC b) l b/\∀y∈l,az ⟨mC b,y⟩:=by
 obtain⟨E,F,G,H,A,f⟩:=q;have D:(BE b).length=4:=by simp[BE,r]
 have t:fp w'.heap.size w' (mC b) l a:=by
  rcases f with f|⟨B,o,p,C,v,f⟩
  ·exact ah f
  ·exact ai ⟨B,o,p,v,λd y i=>⟨(f d y i).1,(f d y i).2.1⟩⟩
 have m:BZ (mC b) l b:=by
  intro d e h;have g:d<l.length:=by have:=(aR.1 h).1;omega
  have z:(BE b)[d]?=some (aO (mC b) e.1 e.2):=by simp[BE,h]
  have x:=je _ _ _ A d l[d] _ (aH g) z;have u:=eZ (mC b) e.1 (yV b e (aG h)) e.2 (j e (aG h));have k:=bQ _ _ _ _ _ _ x u;exact⟨l[d],aH g,k,aL.2 (by rw[jf _ _ _ _ k];exact aL.1 (j e (aG h)))⟩
 refine⟨t,by omega,m,λy i=>?_⟩;obtain⟨d,g⟩:=cO i;have s:d<b.length:=by have:=(aR.1 g).1;omega
 obtain⟨I,n,_,w⟩:=m d b[d] (aH s);rw[g]at n;obtain rfl:=au n;exact w
def eT:Tm 1:=((6,0,.empty),(none,0),[])
theorem MB(B:Nat)(w:World):In B w 1 eT:=⟨⟨by simp[eT,dn],by simp[eT,dn],aE _,by simp[eT],by simp[eT]⟩,ah rfl⟩
theorem NN:bV 1 eT=true:=by
 have:(ByteArray.empty).toList=[]:=by rw[b8];rfl
 simp[bV,eT,cv,bA,this]
theorem d1(x:Tm 1)(a:x.1.1≠4):fh 1 x=0/\sz 1 x=0:=by simp[fh,sz,a]
theorem xJ:bu 1 eT=0:=by
 rw[tQ];have a:=d1 eT (by simp[eT]);exact⟨NN,by rw[a.1];decide,by rw[a.2];decide⟩
theorem Hm:fY 1 (List.replicate 4 eT)=true:=by
 have:AR 1 eT=true:=by
  unfold AR;rw[xJ];rfl
 unfold fY;simp only[List.length_replicate,decide_true,eg,b9];intro b a;rw[List.eq_of_mem_replicate a];exact this
theorem AL(w:World):am 137 #[] w λe w'=>e=.returned (ae (some ⟨w.heap.size,0,none⟩) 4 4)/\Hid (gD 1 (List.replicate 4 eT) w w' (some ⟨w.heap.size,0,none⟩) 4 (List.replicate 4 eT)):=by
 obtain⟨A,l,q,r,s⟩:=bS ge;go_enter Tryz.func137,Tryz.ntmps137;go_wp2_with (at_make;refine ky _ rfl _ _ 28 rfl w.heap.size 30 A _ 4 Tryz.underlying28 l q r _ _ _ _ 4 rfl rfl rfl rfl (by rw[s];omega) (by unfold maxLen;omega) (ak _) ?_;intro C p b);have i:=ao (qw 1 (List.replicate 4 eT) 4 p);have h:Hid (aj w C):=⟨b.os,b.tape,b.output,b.size,λk m=>b.block k m (by simp)⟩;clear p b l q r s;go_loopw [6] (λd wr=>∃k:Nat,k<=4/\d=ab k/\Hid (aj w wr/\tB 1 (List.replicate 4 eT) 4 w.heap.size k (List.replicate k eT) wr)) (λd _=>4-(intOf d).toNat)
 case atStart=>exact⟨0,by omega,rfl,h.out,i.out⟩
 case round=>
  obtain⟨k,m,rfl,a⟩:=hrel;clear i h;by_cases n:k<4
  ·have t:(List.replicate 4 eT)[k]?=some eT:=by rw[List.getElem?_replicate,if_pos n]
   have j:In wr.heap.size wr 1 eT:=MB _ _;have o:bZ (λf=>w.heap.size<f) 1 eT:=by simp[bZ,eT]
   have y:=ao (a.out.2.step n eT t (ap _ _) eT j o (by simp[ax,eT,aC]));have v:Hid (aj w (jc wr w.heap.size (k*4) (gd 1 eT))):=by
    have c:=a.out.1;exact⟨c.os,c.tape,c.output,ay c.size (dt (bm _ _ _ _).symm),λf z=>(aV (by omega) _ _ _ _).trans (c.block f z)⟩
   obtain⟨g,u⟩:∃g,((List.replicate k eT).map (λD=>(⟨1,D⟩:An))++List.replicate (4-k) zA)[k]?=some g:=⟨_,aH (by simp;omega)⟩;obtain⟨E,F,G,H⟩:=a.out.2.2.1.cells k g u;have I:=λB=>a.out.2.2.1.free B;have J:(0:Int)<=(k:Int):=by omega
   have K:(k:Int)<4:=by omega
   have L:(k:Int)<=4:=by omega
   clear t j o u a;go_wp2_with fail;go_roundw
   case rel=>
    refine⟨k+1,by omega,by go_num,v.out,?_⟩;have e:List.replicate (k+1) eT=List.replicate k eT++ [eT]:=List.replicate_succ';rw[e];exact y.out
   case measure=>simp[intOf];omega
  ·obtain rfl:k=4:=by omega
   have x:=ao (a.out.2.done rfl (by omega) a.out.1 (by unfold maxLen;omega));go_wp2_with fail
   go_ret
   exact⟨rfl,x.out⟩
structure bq (S:Nat->Prop) (w w':World):Prop where
 os:w'.os=w.os
 tape:w'.tape=w.tape
 output:w'.output=w.output
 size:w.heap.size<=w'.heap.size
 block:∀b,b<w.heap.size->¬S b->w'.heap[b]?=w.heap[b]?
theorem bq.refl(S:Nat->Prop)(w:World):bq S w w:=⟨rfl,rfl,rfl,ak _,λ_ _ _=>rfl⟩
theorem bq.trans{S T:Nat->Prop}{w w1 w2:World}(a:bq S w w1)(k:bq T w1 w2)(e:∀b,b<w.heap.size->T b->S b):bq S w w2:=
 ⟨k.os.trans a.os,k.tape.trans a.tape,k.output.trans a.output,ay a.size k.size,λb c d=>(k.block b (aN c a.size) (λf=>d (e b c f))).trans (a.block b c d)⟩
theorem bq.mono{S T:Nat->Prop}{w w1:World}(a:bq S w w1)(d:∀b,b<w.heap.size->S b->T b):bq T w w1:=⟨a.os,a.tape,a.output,a.size,λb c e=>a.block b c λk=>e (d b c k)⟩
theorem aI{w w':World}(a:Below w.heap.size w w')(S:Nat->Prop):bq S w w':=⟨a.os,a.tape,a.output,a.size,λb c _=>a.block b c⟩
theorem dU{w w':World}{row:Option Nat}(a:w.grownBy w' row):bq (λb=>row=some b) w w':=⟨a.os,a.tape,a.output,a.size,λb c d=>a.block b c λe=>d e.symm⟩
theorem bz(w:World)(q o:Nat)(v:Value):bq (λb=>b=q) w (w.setCell ⟨q,o,none⟩ v):=
 ⟨rfl,rfl,rfl,by simp[World.setCell],λb _ c=>by
  have:q≠b:=λa=>c a.symm
  simp[World.setCell,bG,this]⟩
theorem bq.below{S:Nat->Prop}{w w':World}{B:Nat}(a:bq S w w')(e:B<=w.heap.size)(c:∀b,b<B->¬S b):Below B w w':=⟨a.os,a.tape,a.output,a.size,λb d=>a.block b (by omega) (c b d)⟩
theorem bq.cell{S:Nat->Prop}{w w':World}(a:bq S w w'){b:Nat}(o:Nat)(d:b<w.heap.size)(c:¬S b):w'.cell? ⟨b,o,none⟩=w.cell? ⟨b,o,none⟩:=by
 simp only[World.cell?,a.block b d c]
theorem bf{base:Nat}{e:TypeId}{sz:Nat}{v:Value}{n:Nat}{xs:List Value}{w w':World}{S:Nat->Prop}(c:w.ownsRow base e sz v n xs)(k:bq S w w')(h:∀b,v.ownBlock=some b->¬S b):w'.ownsRow base e sz v n xs:=by
 refine⟨c.1,?_⟩;rcases c.2 with⟨e,g⟩|⟨a,cap,f,e,i,d,j⟩
 ·exact ah ⟨e,g⟩
 ·exact ai ⟨a,cap,f,e,i,(k.block a (aD.1 d).1 (h a (by rw[e];rfl))).trans d,j⟩
theorem dE.kee{S:Nat->Prop}{w w':World}(a:bq S w w'){b o:Nat}(d:b<w.heap.size)(c:¬S b):{n:Nat}->{x:Tm n}->dE w b o n x->dE w' b o n x
 | 0,_,k=>k
 | _+1,_,k=>by
  obtain⟨e,f,g,h⟩:=k;exact⟨(a.cell _ d c).trans e,(a.cell _ d c).trans f,(a.cell _ d c).trans g,(a.cell _ d c).trans h⟩
theorem In.kee{S:Nat->Prop}{w w':World}(d:bq S w w'):{n:Nat}->{x:Tm n}->In w.heap.size w n x->bZ (λb=>¬S b) n x->In w'.heap.size w' n x
 | 0,_,k,_=>k
 | _+1,x,k,o=>by
  obtain⟨p,a⟩:=k;refine⟨p,?_⟩;rcases a with a|⟨b,f,e,h,a⟩
  ·exact ah a
  ·rcases o with o|⟨q,r,c,m,o⟩
   ·exact ah o
   ·rw[e]at c;injection c with c;injection c with j l;subst j l;exact ai ⟨b,f,e,aN h d.size,λi y g=>⟨(a i y g).1.kee d h m,(a i y g).2.kee d (o i y g)⟩⟩
/-! ### the keys -/
theorem yv:WideMaps.ArrKey Tryz.prog 164 3 2:=⟨Tryz.underlying164,by kernel_rfl,by kernel_rfl,by kernel_rfl⟩
theorem eQ:Keyed Tryz.prog 164:=Keyed.of_law yv.law
theorem DF:∃m,Tryz.prog.types.size=m+1:=by
 have a:(Tryz.prog.types.size==0)=false:=by kernel_rfl
 have b:Tryz.prog.types.size≠0:=gn.1 a;exact⟨Tryz.prog.types.size-1,by omega⟩
def pk(k:Int×Int):Value:=.agg #[.int .i64 k.1,.int .i64 k.2]
def kl(k:Int×Int):Lit:=.string (keyBytes [.int .i64 k.1,.int .i64 k.2])
def I2(k:Int×Int):Prop:=dn k.1/\dn k.2
theorem Mb{a:Int}(b:dn a):(Lit.int .i64 a).wf=true:=ii (by unfold dn at b;omega)
theorem fz{k:Int×Int}(a:I2 k):keyOf Tryz.prog 164 (pk k)=some (kl k):=WideMaps.keyOf_pair yv Tryz.underlying3 DF (Mb a.1) (Mb a.2)
theorem pI{k b:Int×Int}(c:I2 k)(d:I2 b)(e:kl k=kl b):k=b:=by
 have a:=eQ.inj (fz c) (e▸fz d);simp only[pk,Value.agg.injEq,Array.mk.injEq,List.cons.injEq,Value.int.injEq,true_and,and_true]at a;exact ig a.1 a.2
def qR(v:Value):Option (DataW Value×List MemPlace):=some (.held v,[])
def gK{a:Type}(f:Int×Int->a)(k:Int×Int)(x:a):Int×Int->a:=λj=>if j=k then x else f j
theorem cH{a:Type}(f:Int×Int->a)(k:Int×Int)(x:a):gK f k x k=x:=if_pos rfl
theorem bN{a:Type}(f:Int×Int->a){k j:Int×Int}(x:a)(b:j≠k):gK f k x j=f j:=if_neg b
def lT:Value:=.slice none 0 0
def di(N:Nat)(l:List (Tm N)):List Value:=cr (l.map (gd N))
theorem ph(N:Nat)(l:List (Tm N)):(di N l).length=l.length*4:=by simp[di,nH]
theorem pf(N:Nat)(l r:List (Tm N)):di N (l++r)=di N l++di N r:=by simp[di,uG]
def nw(base N:Nat)(v:Value)(l:List (Tm N))(w:World):Prop:=w.ownsRow base 30 4 v l.length (di N l)
structure GM (base mb n N:Nat) (f:Int×Int->List (Tm N)) (sl:Int×Int->Value) (w:World):Prop where
 lo:base<=mb
 map:∃D,w.ownsMap Tryz.prog 164 qR mb n D/\(∀k,I2 k->D.atKey (kl k) (.held lT)=.held (sl k))/\∀x,has D x=true ↔∃k,I2 k/\x=kl k/\f k≠[]
 row:∀k,I2 k->nw base N (sl k) (f k) w
 apart:∀k j,I2 k->I2 j->k≠j->∀b,(sl k).ownBlock=some b->(sl j).ownBlock≠some b
def L8(a:Nat)(sl:Int×Int->Value)(b:Nat):Prop:=b=a\/∃k,I2 k/\(sl k).ownBlock=some b
theorem dV{w:World}{base:Nat}{e:TypeId}{sz:Nat}{v:Value}{n:Nat}{xs:List Value}(d:w.ownsRow base e sz v n xs)(b:Nat)(c:v.ownBlock=some b):∃a,w.heap[b]?=some (.cells a e (0,0)):=by
 rcases d.2 with⟨rfl,_⟩|⟨g,cap,a,rfl,_,f,_⟩
 ·simp[Value.ownBlock]at c
 ·simp[Value.ownBlock]at c;subst c;exact⟨a,f⟩
variable {base mb n N:Nat} {f:Int×Int->List (Tm N)} {sl:Int×Int->Value} {w:World}
theorem GM.lt(a:GM base mb n N f sl w)(b:Nat)(c:L8 mb sl b):base<=b/\b<w.heap.size:=by
 rcases c with rfl|⟨k,e,c⟩
 ·obtain⟨g,d,_⟩:=a.map;exact⟨a.lo,d.lt⟩
 ·exact(a.row k e).lt b c
theorem GM.ne(a:GM base mb n N f sl w){k:Int×Int}(g:I2 k):(sl k).ownBlock≠some mb:=by
 intro d;obtain⟨c,b⟩:=dV (a.row k g) mb d;obtain⟨h,⟨es,i,e,_⟩,_⟩:=a.map;rw[e]at b;cases b
theorem GM.kee{S:Nat->Prop}{w':World}(a:GM base mb n N f sl w)(k:bq S w w')(e:∀b,L8 mb sl b->¬S b):GM base mb n N f sl w':=by
 refine⟨a.lo,?_,λh g=>bf (a.row h g) k λb c=>e b (ai ⟨h,g,c⟩),a.apart⟩;obtain⟨i,d,l⟩:=a.map;refine⟨i,?_,l⟩;have m:=d.lt;obtain⟨es,j,c,o⟩:=d;exact⟨es,j,(k.block mb m (e mb (ah rfl))).trans c,o⟩
theorem GM.mono(b:GM base mb n N f sl w){m:Nat}(i:n<=m):GM base mb m N f sl w:=by
 obtain⟨c,⟨a,d,e⟩,g,h⟩:=b;exact⟨c,⟨a,d.mono i,e⟩,g,h⟩
theorem GM.new(w:World)(N:Nat):GM w.heap.size w.heap.size 0 N (λ_=> []) (λ_=>lT) (w.alloc (.map #[] 0)):=
 ⟨ak _,⟨.map [],oR w _ _ _,λk _=>by simp[DataW.atKey],λe=>⟨λa=>by simp[has]at a,λ⟨k,_,_,a⟩=>absurd rfl a⟩⟩,
  λk _=>⟨by simp[di,cr],ah ⟨rfl,rfl⟩⟩,λk d _ _ _ b c=>by simp[lT,Value.ownBlock]at c⟩
theorem nw.rebase{a:Nat}{v:Value}{l:List (Tm N)}(b:nw base N v l w)(c:a<=base):nw a N v l w:=qO b c
theorem GM.rebase{b:Nat}(a:GM base mb n N f sl w)(c:b<=base):GM b mb n N f sl w:=
 ⟨ay c a.lo,a.map,λk d=>(a.row k d).rebase c,a.apart⟩
theorem Jh{v:Value}{d:DataW Value}{ps:List MemPlace}(a:qR v=some (d,ps)):d=.held v:=by
 unfold qR at a;injection a with a;injection a with b c;exact b.symm
theorem rk(w:World):(zeroValue 28).run Tryz.prog w=.ok (.slice none 0 0) w:=by kernel_rfl
theorem GM.look(d:GM base mb n N f sl w){k:Int×Int}(b:I2 k):(Instr.lookup 63 (.map (some mb)) (pk k) false).run Tryz.prog w=.ok (sl k) w:=by
 obtain⟨i,e,g,_⟩:=d.map;obtain⟨j,ps,h,c⟩:=e.lookup eQ Tryz.underlying63 (rk w) (zd:=.held lT) (zp:=[]) rfl (fz b);rw[g k b]at c;have a:=Jh c;injection a with a;rw[h,a]
theorem FI(w:World){k:Int×Int}(b:I2 k):(Instr.lookup 63 (.map none) (pk k) false).run Tryz.prog w=.ok (.slice none 0 0) w:=by
 have a:=look_nil (P:=Tryz.prog) (w:=w) false eQ Tryz.underlying63 (rk w) (fz b);simpa using a
theorem EQ{D:DataW Value}(f:IsMap D){k j:Int×Int}(e:I2 k)(b:I2 j)(v:Value)(c:DataW Value):(D.put (kl k) (.held v)).atKey (kl j) c=if j=k then .held v else D.atKey (kl j) c:=by
 by_cases a:j=k
 ·subst a;rw[if_pos rfl,atKey_put_same f (eQ.key (fz b))]
 ·rw[if_neg a,atKey_put_other λd=>a (pI b e d)]
theorem GM.put_of(h:GM base mb n N f sl w){k:Int×Int}(i:I2 k){w1 w2:World}(E:bq (λb=>b=mb\/(sl k).ownBlock=some b) w w1){v:Value}{l:List (Tm N)}(H:l≠[])(J:nw base N v l w1)(y:∀b,v.ownBlock=some b->(sl k).ownBlock=some b\/w.heap.size<=b)(x:bq (λb=>b=mb) w1 w2)(K:∀D,w.ownsMap Tryz.prog 164 qR mb n D->w2.ownsMap Tryz.prog 164 qR mb (n+1) (D.put (kl k) (.held v))):GM base mb (n+1) N (gK f k l) (gK sl k v) w2:=by
 obtain⟨D,j,C,t⟩:=h.map;have M:=j.lt;have I:∀b,v.ownBlock=some b->b≠mb:=λb e a=>by
  subst a;rcases y b e with a|a
  ·exact h.ne i a
  ·omega
 have z:∀c,I2 c->c≠k->∀b,(sl c).ownBlock=some b->v.ownBlock≠some b:=λc d G b e L=>by
  rcases y b L with a|a
  ·exact h.apart c k d i G b e a
  ·have:=((h.row c d).lt b e).2;omega
 refine⟨h.lo,⟨_,K D j,λc d=>?_,λB=>?_⟩,λc d=>?_,λp c u d o b=>?_⟩
 ·rw[EQ j.isMap i d];unfold gK;split
  ·rfl
  ·exact C c d
 ·constructor
  ·intro A;by_cases a:B=kl k
   ·exact⟨k,i,a,by rw[cH];exact H⟩
   ·rw[has_put_other a]at A;obtain⟨c,d,s,m⟩:=(t B).1 A;refine⟨c,d,s,?_⟩;rw[bN _ _ λg=>a (by rw[s,g])];exact m
  ·rintro ⟨c,d,rfl,m⟩;by_cases a:c=k
   ·rw[a,has_put_same j.isMap (eQ.key (fz i))]
   ·rw[has_put_other λg=>a (pI d i g)];rw[bN _ _ a]at m;exact(t _).2 ⟨c,d,rfl,m⟩
 ·by_cases a:c=k
  ·subst a;rw[cH,cH];exact bf J x λb e a=>I b e a
  ·rw[bN _ _ a,bN _ _ a];refine bf (bf (h.row c d) E λb e g=>?_) x λb e g=>h.ne d (by rw[e,g]);rcases g with g|g
   ·exact h.ne d (by rw[e,g])
   ·exact h.apart c k d i a b e g
 ·by_cases q:p=k
  ·subst q;rw[cH,bN _ _ λa=>o a.symm];exact λe F=>z c d (λa=>o a.symm) b F e
  ·rw[bN _ _ q];by_cases r:c=k
   ·subst r;rw[cH];exact λe=>z p u o b e
   ·rw[bN _ _ r];exact h.apart p c u d o b
theorem iH{w2:World}(a:w.mapTurned w2 mb):bq (λb=>b=mb) w w2/\w2.heap.size=w.heap.size:=by
 refine⟨(dU a.grown).mono λb _ c=>(au c).symm,?_⟩;obtain⟨_,_,_,_,_,rfl⟩:=a;simp[ChangeMaps.setBlock]
theorem GM.store(g:GM base mb n N f sl w){k:Int×Int}(h:I2 k){w1:World}(i:bq (λb=>(sl k).ownBlock=some b) w w1){v:Value}{l:List (Tm N)}(x:l≠[])(A:nw base N v l w1)(y:∀b,v.ownBlock=some b->(sl k).ownBlock=some b\/w.heap.size<=b)(F:n<1000000):∃w2,(Instr.mapUpdate 63 (.map (some mb)) (pk k) v).run Tryz.prog w1=.ok () w2/\GM base mb (n+1) N (gK f k l) (gK sl k v) w2/\bq (λb=>b=mb) w1 w2/\w2.heap.size=w1.heap.size:=by
 have p:∀a,w.ownsMap Tryz.prog 164 qR mb n a->∃w2,(Instr.mapUpdate 63 (.map (some mb)) (pk k) v).run Tryz.prog w1=.ok () w2/\w2.ownsMap Tryz.prog 164 qR mb (n+1) (a.put (kl k) (.held v))/\w1.mapTurned w2 mb:=by
  intro a c;have z:=c.lt;have t:w1.ownsMap Tryz.prog 164 qR mb n a:=by
   obtain⟨es,r,u,C⟩:=c;exact⟨es,r,(i.block mb z (g.ne h)).trans u,C⟩
  exact t.store (d:=.held v) (ps:=[]) eQ Tryz.underlying63 (by unfold maxLen;omega) (fz h) rfl
 obtain⟨a,c,_⟩:=g.map;obtain⟨w2,m,_,E⟩:=p a c;obtain⟨j,D⟩:=iH E;refine⟨w2,m,g.put_of h (i.mono λb _ e=>ai e) x A y j (λq s=>?_),j,D⟩;obtain⟨G,o,B,_⟩:=p q s;rw[m]at o;injection o with _ e;rw[e];exact B
theorem GM.entry(s:GM base mb n N f sl w){k:Int×Int}(g:I2 k)(ak:n<1000000):∃(q:Nat)(w1:World),(Instr.mapEntry 63 (.map (some mb)) (pk k)).run Tryz.prog w=.ok (.tuple #[sl k,goInt q]) w1/\bq (λb=>b=mb) w w1/\w1.heap.size=w.heap.size/\ ∀(w2:World)(v:Value)(l:List (Tm N)),w2.heap[mb]?=w1.heap[mb]? ->bq (λb=>b=mb\/(sl k).ownBlock=some b) w w2->l≠[]->nw base N v l w2->(∀b,v.ownBlock=some b->(sl k).ownBlock=some b\/w.heap.size<=b)-> ∃i,(Instr.entryStore 63 (.map (some mb)) (goInt q) v).run Tryz.prog w2=.ok () i/\GM base mb (n+1) N (gK f k l) (gK sl k v) i/\bq (λb=>b=mb) w2 i/\i.heap.size=w2.heap.size:=by
 obtain⟨I,t,aj,_⟩:=s.map;obtain⟨es,r,c,j,Z,P⟩:=t;have t:w.ownsMap Tryz.prog 164 qR mb n I:=⟨es,r,c,j,Z,P⟩;obtain⟨ah,q,o,m,X,H,aa⟩:=WideElems.entry_then_store (e:=28) yv.law Tryz.underlying63 rk c j (fz g);have K:ah=sl k:=by
  have x:=s.look g;obtain⟨am,ps,Y,al⟩:=t.lookup eQ Tryz.underlying63 (rk w) (zd:=.held lT) (zp:=[]) rfl (fz g);rw[x]at Y;rcases Maps.fit_look false eQ Tryz.underlying63 (rk w) c j (fz g)with⟨a,z,_⟩|⟨L,an,E,p,a,_⟩
  ·rw[x]at a;injection a with a _;rcases H with⟨B,y,h,_⟩|⟨_,rfl⟩
   ·exact absurd h (z B y)
   ·exact a.symm
  ·rw[x]at a;injection a with a _;rcases H with⟨B,y,h,rfl⟩|⟨z,_⟩
   ·have:=entry_eq_of_key ((MapKept.stamped_iff es r).1 j.stamped).2.2 E y (p.trans h.symm);simp at a;rw[a,this]
   ·exact absurd p (z L E)
 subst K;have ab:w.mapTurned (ChangeMaps.setBlock w mb (.map o m)) mb:=⟨es,r,o,m,c,rfl⟩;obtain⟨p,af⟩:=iH ab;refine⟨q,_,X,p,af,λw2 v l ae Q R T S=>?_⟩;have u:w2.heap[mb]?=some (.map o m):=ae.trans (r7 c _);obtain⟨C,A,U,V⟩:=aa w2 v u;have ad:w2.mapTurned (ChangeMaps.setBlock w2 mb (.map C A)) mb:=⟨o,m,C,A,u,rfl⟩;obtain⟨h,ag⟩:=iH ad;refine⟨_,U,s.put_of g Q R T S h (λai O=>?_),h,ag⟩;obtain⟨i,G,F,_⟩:=O.store (d:=.held v) (ps:=[]) eQ Tryz.underlying63 (by unfold maxLen;omega) (fz g) rfl;rw[V]at G;injection G with _ e;rw[<-e]at F;obtain⟨M,J,D,W⟩:=F;rw[r7 c]at D;exact⟨M,J,(r7 u _).trans D,W⟩
theorem GM.drop(h:GM base mb n N f sl w){k:Int×Int}(l:I2 k)(ty:TypeId):∃w2,(Builtin.delete_ #[63,164] ty #[.map (some mb),pk k]).run Tryz.prog w=.ok (.tuple #[]) w2/\GM base mb n N (gK f k []) (gK sl k lT) w2/\bq (λb=>b=mb) w w2/\w2.heap.size=w.heap.size:=by
 obtain⟨D,u,v,q⟩:=h.map;obtain⟨w2,A,z,C⟩:=u.drop eQ Tryz.underlying63 (fz l) ty;obtain⟨r,B⟩:=iH C;refine⟨w2,A,⟨h.lo,⟨_,z,λc d=>?_,λt=>?_⟩,λc d=>?_,λs c x d y b=>?_⟩,r,B⟩
 ·by_cases a:c=k
  ·subst a;rw[cH,atKey_del_same]
  ·rw[bN _ _ a,atKey_del_other λe=>a (pI d l e)];exact v c d
 ·constructor
  ·intro j;by_cases a:t=kl k
   ·rw[a,has_del_same]at j;cases j
   ·rw[has_del_other a]at j;obtain⟨c,d,p,g⟩:=(q t).1 j;refine⟨c,d,p,?_⟩;rw[bN _ _ λe=>a (by rw[p,e])];exact g
  ·rintro ⟨c,d,rfl,g⟩;by_cases a:c=k
   ·rw[a,cH]at g;exact absurd rfl g
   ·rw[has_del_other λe=>a (pI d l e)];rw[bN _ _ a]at g;exact(q _).2 ⟨c,d,rfl,g⟩
 ·by_cases a:c=k
  ·subst a;rw[cH,cH];exact⟨by simp[di,cr],ah ⟨rfl,rfl⟩⟩
  ·rw[bN _ _ a,bN _ _ a];exact bf (h.row c d) r λb i e=>h.ne d (by rw[i,e])
 ·by_cases m:s=k
  ·subst m;rw[cH];intro i;simp[lT,Value.ownBlock]at i
  ·rw[bN _ _ m];by_cases o:c=k
   ·subst o;rw[cH];intro _ i;simp[lT,Value.ownBlock]at i
   ·rw[bN _ _ o];exact h.apart s c x d y b
theorem vE{P:Program}(w:World)(t ty e:TypeId)(i:TypeInfo)(x:P.underlying t=some (.slice e))(r:P.info? e=some i)(g d k:Nat)(f:Array Value)(q:w.heap[g]?=some (.cells f e (0,0)))(a:Addr)(m c:Nat)(b:List Value)(s:b.length=m*i.size)(u:∀j h,b[j]?=some h->w.cell? (a.add j)=some h)(n:∀h∈b,h.oneCell'=true)(v:d+m<=k)(p:d*i.size+b.length<=f.size):(Builtin.append_ #[t,t] ty #[ae (some ⟨g,0,none⟩) d k,ae (some a) m c]).run P w= .ok (ae (some ⟨g,0,none⟩) (d+m) k) (w.setRow g (f.toList.take (d*i.size)++b++f.toList.drop (d*i.size+b.length)).toArray):=by
 have o:=run_firstCells_some (P:=P) w i.size m a m c b s u;have l:=oT P g (d*i.size) e b 0 f w q (by simpa using p) n;simp only[iR]at l;simp[Builtin.append_,co x,sizeOf,typeInfo,r,Builtin.lenOf,v,o,eF,l]
theorem Fy:(Tryz.prog.info? 30).map (λi=>(i.zero,i.size,i.bytes))=some (some (.agg #[ab 0,ab 0,af ⟨#[]⟩,ae none 0 0]),4,56):=by kernel_rfl
def pr:List Value:=[ab 0,ab 0,af ⟨#[]⟩,ae none 0 0]
theorem vG(w:World)(ty:TypeId)(g o c:Nat)(a:Array Value)(e:w.heap[g]?=some (.cells a 30 (0,0)))(d:o+4<=a.size):(Builtin.clear_ #[28] ty #[ae (some ⟨g,o,none⟩) 1 c]).run Tryz.prog w=.ok (.tuple #[]) (w.setRow g (a.toList.take o++pr++a.toList.drop (o+4)).toArray):=by
 have b:=oT Tryz.prog g o 30 pr 0 a w e (by simpa [pr]using d) (by simp[pr,Value.oneCell']);have h:(Builtin.zeroCells (Value.agg #[ab 0,ab 0,af ⟨#[]⟩,ae none 0 0]).cells 1).toList=pr:=by
  simp[Builtin.zeroCells,Value.cells,pr];rfl
 simp only[iR]at b;have f:pr.length=4:=rfl;rw[f]at b;simp[Builtin.clear_,co Tryz.underlying28,h,b]
theorem Jy(w:World)(g L c:Nat)(b:L<=c)(d:1<=L):(Instr.slice 28 (ae (some ⟨g,0,none⟩) L c) (some (ab 0)) (some (ab 1)) (some (ab L))).run Tryz.prog w=.ok (ae (some ⟨g,0,none⟩) 1 L) w:=by
 have a:(1:Int)<=(L:Int):=by omega
 simp[Instr.slice,co Tryz.underlying28,Instr.sliceBounds,Instr.sliceBound,asIntOf,a,b,go_sem]
theorem Dh(w:World)(g L c:Nat):(Instr.slice 28 (ae (some ⟨g,0,none⟩) L c) none (some (ab 0)) none).run Tryz.prog w=.ok (ae (some ⟨g,0,none⟩) 0 c) w:=by
 simp[Instr.slice,co Tryz.underlying28,Instr.sliceBounds,Instr.sliceBound,asIntOf,go_sem]
theorem Di(w:World)(g L c:Nat)(d:L<=c)(e:2<=L):(Instr.slice 28 (ae (some ⟨g,0,none⟩) L c) (some (ab 1)) none none).run Tryz.prog w=.ok (ae (some ⟨g,4,none⟩) (L-1) (c-1)) w:=by
 have a:(1:Int)<=(L:Int):=by omega
 have b:¬c=1:=by omega
 simp[Instr.slice,co Tryz.underlying28,Instr.sliceBounds,Instr.sliceBound,asIntOf,a,b,go_sem,eF]
theorem Df(w:World)(g m c:Nat)(e:m+1<=c):(Instr.slice 28 (ae (some ⟨g,0,none⟩) m c) (some (ab m)) (some (ab ((m:Int)+1))) none).run Tryz.prog w=.ok (ae (some ⟨g,m*4,none⟩) 1 (c-m)) w:=by
 have a:¬c=m:=by omega
 have b:(m:Int)+1<=(c:Int):=by omega
 have d:(0:Int)<=(m:Int)+1:=by omega
 simp[Instr.slice,co Tryz.underlying28,Instr.sliceBounds,Instr.sliceBound,asIntOf,a,b,d,go_sem,eF]
theorem s8{w w':World}{v x' c:Value}{b:Array Oper}{o:Oper}{a:Act}{K:Act->World->Prop}{Q:Exit->Act->World->Prop}{E:Prop}(e:o.guard=none)(s x:Operand)(f:o.op=.call {callee:=.builtin .append,args:= #[s,x],argTypes:= #[28,28]})(h:a.eval s=v)(j:a.eval x=x')(g:(Builtin.append_ #[28,28] o.type #[v,x']).run Tryz.prog w=.ok c w')(d:K (a.put o.dst c) w'):if Region.wanted o (yielded b a.tmps)=true then Oper.wp Tryz.prog o a w K Q else E:=by
 have i:Region.wanted o (yielded b a.tmps)=true:=by simp[Region.wanted,e]
 rw[if_pos i];unfold Oper.wp execOp;simp only[f,resolve,invoke,builtin,Sem.run_bind,Sem.run_pure,mB,mq,aK,bX,h,j,g];exact d
theorem ag{w:World}{g:Nat}{a:Array Value}{e:TypeId}(b:w.heap[g]?=some (.cells a e (0,0)))(j:Nat):w.cell? ⟨g,j,none⟩=a.toList[j]? :=by
 simp[World.cell?,b]
theorem Cg{N:Nat}(base g c m:Nat)(y:Tm N)(l:List (Tm N))(w:World)(j:l.length=m)(C:nw base N (ae (some ⟨g,0,none⟩) (m+1) c) (y::l) w)(D:l≠[]):am 77 #[ae (some ⟨g,0,none⟩) ((m:Nat)+1) c,ab 0,ab 1] w λe w'=>e=.returned (ae (some ⟨g,0,none⟩) m c)/\nw base N (ae (some ⟨g,0,none⟩) m c) l w'/\w.grownBy w' (some g)/\w'.heap.size=w.heap.size:=by
 obtain⟨R,K,Z,O,aa⟩:=bS Fy;have Y:0<m:=by
  rw[<-j];exact List.length_pos_iff.2 D
 obtain⟨E,F⟩:=C;rcases F with⟨e,_⟩|⟨V,cap,d,e,J,r,H,I,u,t⟩
 ·cases e
 ·injection e with i A B;injection i with i;injection i with i _;subst i B;simp only[aZ,j]at E H t A;have q:d.toList.length=c*4:=by rw[ia,u]
  have M:d.toList.take ((m+1)*4)=di N [y]++di N l:=by
   rw[t,<-pf];rfl
  have S:(di N [y]).length=4:=by rw[ph];rfl
  have f:(di N l).length=m*4:=by rw[ph,j]
  have z:Hid (∀a:World,a.heap[g]?=some (.cells d 30 (0,0))->∀n o,(di N l)[n]?=some o->a.cell? ((⟨g,4,none⟩:Addr).add n)=some o):=by
   intro a h n o s;have X:=(aR.1 s).1;rw[eF,ag h];have e:(d.toList.take ((m+1)*4))[4+n]?=some o:=by
    rw[M,ei (by omega),S,Nat.add_sub_cancel_left];exact s
   rw[ko]at e;split at e
   ·exact e
   ·cases e
  have v:Hid (∀(a:World)(ty:TypeId),a.heap[g]?=some (.cells d 30 (0,0))->(Builtin.append_ #[28,28] ty #[ae (some ⟨g,0,none⟩) 0 c,ae (some ⟨g,4,none⟩) m (c-1)]).run Tryz.prog a=
   .ok (ae (some ⟨g,0,none⟩) m c) (a.setRow g (di N l++d.toList.drop (m*4)).toArray)):=by
   intro a ty h;have p:=vE (P:=Tryz.prog) a 28 ty 30 R Tryz.underlying28 K g 0 c d h ⟨g,4,none⟩ m (c-1) (di N l) (by rw[f,O]) (z.out a h) (sB _) (by omega) (by rw[f,u];omega);simpa [f]using p
  have x:Hid (∀(a:World)(ty:TypeId),a.heap[g]?=some (.cells (di N l++d.toList.drop (m*4)).toArray 30 (0,0))->(Builtin.clear_ #[28] ty #[ae (some ⟨g,m*4,none⟩) 1 (c-m)]).run Tryz.prog a=
   .ok (.tuple #[]) (a.setRow g (di N l++pr++d.toList.drop ((m+1)*4)).toArray)):=by
   intro a ty h;have p:=vG a ty g (m*4) (c-m) _ h (by simp only[eW,bj,eH,f,q];omega);rw[p];refine congrArg (λU=>Result.ok (Value.tuple #[]) (a.setRow g (List.toArray U))) ?_;rw[oO,jq (by omega),bC (by omega),List.drop_append,oI (by omega),f,List.drop_drop,mu];rw[show m*4+(m*4+4-m*4)=(m+1)*4 by omega]
  have G:=v.out w.drew 28 r;have HB:Hid ((w.drew.setRow g (di N l++d.toList.drop (m*4)).toArray).heap[g]?=some (.cells (di N l++d.toList.drop (m*4)).toArray 30 (0,0))):=setRow_heap w.drew g d _ _ _ r;have W:=λty:TypeId=>x.out _ ty HB.out;have ad:=λa:World=>Jy a g (m+1) c (by omega) (by omega);have af:=λa:World=>Dh a g (m+1) c;have T:=λa:World=>Di a g (m+1) c (by omega) (by omega);have ah:=λa:World=>Df a g m c (by omega);rw[eJ]at T;go_enter Tryz.func77,Tryz.ntmps77;go_wp2_with fail;go_region_held3 (λ_=>True) (trivial) ((first|(refine s8 rfl _ _ rfl (by simp[Act.eval]) (by simp[Act.eval]) G ?_)));go_wp2_with fail
  go_ret
  have k:∀b,b≠g->((w.drew.setRow g (di N l++d.toList.drop (m*4)).toArray).setRow g (di N l++(pr++d.toList.drop ((m+1)*4))).toArray).heap[b]?=w.heap[b]? :=λb k=>(setRow_other _ _ _ _ k).trans (setRow_other _ _ _ _ k);refine⟨rfl,⟨by rw[f,j],ai ⟨g,c,_,by rw[j],J,setRow_heap _ _ _ _ _ _ HB.out,by omega,I,?_,?_⟩⟩,⟨rfl,rfl,rfl,by simp,λb _ L=>k b λe=>L (by rw[e])⟩,by simp⟩
  ·have Q:pr.length=4:=rfl;simp only[eW,bj,eH,f,q,Q];omega
  ·rw[oO,jq (by omega),bC (by omega)]
end Go.Proofs.YtckamaoibonjcaaGreat
