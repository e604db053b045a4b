/- What is proved here: plain facts and contracts that the claimed theorem stands on. No condition but those that each names. -/
import Derived.Test.YtckamaoibonjcaaGreatH10
import Derived.Deep.RegionLaw
import Derived.Laws.CopyRow
import Derived.Maps.RangeWalk
import Derived.WideKeyPair
import Derived.WideKeyEntry
namespace Go.Proofs.YtckamaoibonjcaaGreat
open Go.RowKit
open Go.RowKit Go.Maps
set_option maxHeartbeats 2000000
set_option maxRecDepth 100000
def sR(a b:Int)(cl bd:Bool):Int:=if a=0 then if b=0 then if cl && bd then 0 else 5 else b else a
def xu(a:Int)(o:Option (List An))(w:World)(e:Ending)(w':World):Prop:=
 ∃f len c d,e=.returned (.tuple #[.slice f len c,.bool d,ab a])/\Hid (ai w w'/\
  ((¬(a=0/\o.isSome=true)->len=0/\d=false)/\∀b,a=0->o=some b->d=true/\len=4/\b.length=4/\∃g l,w.heap.size<=g.heap.size/\gA (mr b) (By b) g w' f c l))
def Ml(w:World)(v0 v1 v2 v3 a b c d:Value)(w':World):Prop:=
 ai w w'/\w.heap.size+2<=w'.heap.size/\
 (w'.cell? ⟨w.heap.size,0,none⟩=some v0/\w'.cell? ⟨w.heap.size,1,none⟩=some v1/\w'.cell? ⟨w.heap.size,2,none⟩=some v2/\w'.cell? ⟨w.heap.size,3,none⟩=some v3)/\
 (w'.cell? ⟨w.heap.size+1,0,none⟩=some a/\w'.cell? ⟨w.heap.size+1,1,none⟩=some b/\w'.cell? ⟨w.heap.size+1,2,none⟩=some c/\w'.cell? ⟨w.heap.size+1,3,none⟩=some d)
theorem Ml.new(w:World)(v0 v1 v2 v3 a b c d:Value)(t e:TypeId):Ml w v0 v1 v2 v3 a b c d ((w.alloc (.cells #[v0,v1,v2,v3] t)).alloc (.cells #[a,b,c,d] e)):=
 ⟨((am _ _).alloc (aj _) _).alloc (by simp) _,by simp,⟨by simp[go_sem],by simp[go_sem],by simp[go_sem],by simp[go_sem]⟩,by simp[go_sem],by simp[go_sem],by simp[go_sem],by simp[go_sem]⟩
theorem Ml.next{w:World}{v0 v1 v2 v3 c d e f:Value}{w1 w2:World}(a:Ml w v0 v1 v2 v3 c d e f w1)(b:ai w1 w2):Ml w v0 v1 v2 v3 c d e f w2:=
 ⟨a.1.trans (b.mono a.1.size),ax a.2.1 b.size,nt (by have:=a.2.1;omega) b a.2.2.1,nt (by have:=a.2.1;omega) b a.2.2.2⟩
theorem CG(w:World)(k G z D:Int)(s C:ByteArray)(a n:Option Addr)(l pc A B:Nat)(W:Option Addr)(Y X:Nat)(i j:Int)(cl bd:Bool)(o:Option (List An))(T:List An)(ap:Hid (∀w1,ai w w1->ak 51 #[.agg #[ab k,ab G,ae s,.slice a l pc]] w1 λe w'=>e=.returned (ab i)/\ai w1 w'))(aq:Hid (∀w1,ai w w1->ak 51 #[.agg #[ab z,ab D,ae C,.slice n A B]] w1 λe w'=>e=.returned (ab j)/\ai w1 w'))(al:Hid (∀w1,ai w w1->ak 52 #[.agg #[ab z,ab D,ae C,.slice n A B]] w1 λe w'=>e=.returned (.bool cl)/\ai w1 w'))(ag:Hid (∀w1,ai w w1->ak 158 #[.slice W Y X] w1 λe w'=>e=.returned (.bool bd)/\ai w1 w'))(am:Hid (bd=true->∀w1,ai w w1->ak 159 #[.slice W Y X] w1 λe w'=>∃g c,e=.returned (.slice (some ⟨g,0,none⟩) 4 c)/\Hid (ai w1 w'/\mu w1.heap.size g c T w')))(S:Hid (sR i j cl bd=0->∀w1 base g c,ai w w1->w.heap.size<=base->mu base g c T w1->ak 160 #[.slice (some ⟨g,0,none⟩) 4 c,.agg #[ab k,ab G,ae s,.slice a l pc],.agg #[ab z,ab D,ae C,.slice n A B]] w1 (ez base g c o w1)))(R:Hid (sR i j cl bd=0->∀w1 base g c b,o=some b->ai w w1->mu base g c b w1->b.length=4/\ak 82 #[.slice (some ⟨g,0,none⟩) 4 c] w1 λe w'=>∃n az l,e=.returned (.slice n 4 az)/\Hid (gA (mr b) (By b) w1 w' n az l))):ak 136 #[.agg #[ab k,ab G,ae s,.slice a l pc],.agg #[ab z,ab D,ae C,.slice n A B],.slice W Y X] w (xu (sR i j cl bd) o w):=by
 obtain⟨f,V⟩:∃f,f=sR i j cl bd:=⟨_,rfl⟩;rw[<-V]at S R ⊢;have q:=ao V;clear V;go_enter Tryz.func136,Tryz.ntmps136;go_wp2_with fail;refine(ap.out _ (Ml.new w _ _ _ _ _ _ _ _ _ _).1).mono ?_;rintro e w1 ⟨rfl,aB⟩;have t:=ao ((Ml.new w (ab k) (ab G) (ae s) (.slice a l pc) (ab z) (ab D) (ae C) (.slice n A B) 30 30).next aB);clear aB ap;by_cases m:i=0
 case neg=>
  have aI:(i !=0)=true:=by simpa using m
  have d:Hid (f=i/\¬f=0):=by have:=q.out;unfold sR at this;rw[if_neg m]at this;exact⟨this,by rw[this];exact m⟩
  clear m q;go_wp2_with fail;exact ar (v:=.tuple #[.slice none 0 0,.bool false,ab i]) (by simp[results,Tryz.results136,go_sem]) rfl ⟨none,0,0,false,by rw[d.out.1],t.out.1,λ_=>⟨rfl,rfl⟩,λb h=>absurd h d.out.2⟩
 have aI:(i !=0)=false:=by simp[m]
 obtain⟨⟨L,M,N,O⟩,H,I,J,K⟩:=t.out.2.2;go_wp2_with fail;refine(aq.out _ t.out.1).mono ?_;rintro e aN ⟨rfl,aC⟩;have u:=ao (t.out.next aC);clear aC aq t L M N O H I J K;by_cases p:j=0
 case neg=>
  have aJ:(j !=0)=true:=by simpa using p
  have d:Hid (f=j/\¬f=0):=by have:=q.out;unfold sR at this;rw[if_pos m,if_neg p]at this;exact⟨this,by rw[this];exact p⟩
  clear p m q;go_wp2_with fail;exact ar (v:=.tuple #[.slice none 0 0,.bool false,ab j]) (by simp[results,Tryz.results136,go_sem]) rfl ⟨none,0,0,false,by rw[d.out.1],u.out.1,λ_=>⟨rfl,rfl⟩,λb h=>absurd h d.out.2⟩
 have aJ:(j !=0)=false:=by simp[p]
 have r:Hid (f=if cl && bd then 0 else 5):=by have:=q.out;unfold sR at this;rw[if_pos m,if_pos p]at this;exact this
 clear p m q;obtain⟨⟨L,M,N,O⟩,H,I,J,K⟩:=u.out.2.2;go_wp2_with fail;refine(al.out _ u.out.1).mono ?_;rintro e aO ⟨rfl,aD⟩;have E:=ao (u.out.next aD);clear aD al u L M N O H I J K;cases cl with
 | false=>
  have d:Hid (f=5/\¬f=0):=by have:=r.out;simp at this;exact⟨this,by rw[this];decide⟩
  clear r;go_wp2_with fail;exact ar (v:=.tuple #[.slice none 0 0,.bool false,ab 5]) (by simp[results,Tryz.results136,go_sem]) rfl ⟨none,0,0,false,by rw[d.out.1],E.out.1,λ_=>⟨rfl,rfl⟩,λb h=>absurd h d.out.2⟩
 | true=>
 go_wp2_with fail;refine(ag.out _ E.out.1).mono ?_;rintro e Z ⟨rfl,aE⟩;have x:=ao (E.out.next aE);clear aE ag E;cases bd with
 | false=>
  have d:Hid (f=5/\¬f=0):=by have:=r.out;simp at this;exact⟨this,by rw[this];decide⟩
  clear r;go_wp2_with fail;exact ar (v:=.tuple #[.slice none 0 0,.bool false,ab 5]) (by simp[results,Tryz.results136,go_sem]) rfl ⟨none,0,0,false,by rw[d.out.1],x.out.1,λ_=>⟨rfl,rfl⟩,λb h=>absurd h d.out.2⟩
 | true=>
 have d:Hid (f=0):=by have:=r.out;simp at this;exact this
 have av:=ao (S.out d.out);have ah:=ao (R.out d.out);have an:=ao (am.out rfl);clear r S R am;go_wp2_with fail;refine(an.out _ x.out.1).mono ?_;rintro e aF ⟨g,c,rfl,Q⟩;have P:=ao (x.out.next Q.out.1);have F:Hid (mu Z.heap.size g c T aF):=Q.out.2;have aw:Hid (w.heap.size<=Z.heap.size):=x.out.1.size;obtain⟨⟨L,M,N,O⟩,H,I,J,K⟩:=P.out.2.2;clear x Q an;go_wp2_with fail;refine(av.out aF Z.heap.size g c P.out.1 aw.out F.out).mono ?_;rintro e aa U;have y:Hid (ai w aa):=P.out.1.trans (nA U.2.1 (ax aw.out F.out.lt.1) F.out.lt.2);have ad:=ao U.2.2;obtain⟨rfl,_,_⟩:=U;clear F av;cases o with
 | none=>
  simp only[mm];go_wp2_with fail;exact ar (v:=.tuple #[.slice none 0 0,.bool false,ab 0]) (by simp[results,Tryz.results136,go_sem]) rfl ⟨none,0,0,false,by rw[d.out],y.out,λ_=>⟨rfl,rfl⟩,λb _ h=>by cases h⟩
 | some b=>
  simp only[mn];have aH:=ao (ad.out b rfl);have aj:=ao (ah.out aa _ g c b rfl y.out aH.out);clear ad ah;go_wp2_with fail;refine aj.out.2.mono ?_;rintro e aL ⟨ay,aA,aK,rfl,af⟩;have aG:Hid (ai w aL):=y.out.trans (af.out.1.mono y.out.size);go_wp2_with fail;exact ar (v:=.tuple #[.slice ay 4 aA,.bool true,ab 0]) (by simp[results,Tryz.results136,go_sem]) rfl ⟨ay,4,aA,true,by rw[d.out],aG.out,λh=>absurd ⟨d.out,rfl⟩ h,λaM _ e=>by obtain rfl:=au e;exact⟨rfl,rfl,aj.out.1,aa,aK,y.out.size,af.out⟩⟩
theorem vW{e f:Int}{cl bd:Bool}(a:sR e f cl bd=0):e=0/\f=0/\cl=true/\bd=true:=by
 unfold sR at a;split at a
 ·split at a
  ·split at a
   ·rename_i b c d;simp at d;exact⟨b,c,d.1,d.2⟩
   ·cases a
  ·rename_i b c;exact absurd a c
 ·rename_i b;exact absurd a b
theorem zw{n:Nat}{q:List (Tm n)}(a:fV n q=true):q.length=4:=by
 unfold fV at a;simp at a;exact a.1
theorem EU{n:Nat}{q:List (Tm n)}(a:fV n q=true):∀y∈ni n q,aA y:=by
 intro y c;simp only[ni,bU]at c;obtain⟨d,e,rfl⟩:=c;unfold fV at a;simp only[aB,b9]at a;have b:=a.2 d e;unfold AL at b;simp only[aB,bV]at b;exact qq n d b.1
theorem La{B:Nat}{w:World}{n:Nat}{q:List (Tm n)}{a:Option Addr}(c:ft B w n q a):∀y∈ni n q,EF B w y:=by
 intro y e;simp only[ni,bU]at e;obtain⟨h,d,rfl⟩:=e;rcases c with c|⟨b,o,_,_,c⟩
 ·rw[c]at d;cases d
 ·obtain⟨g,f⟩:=cJ d;exact(c g h f).2
theorem Au{B:Nat}{w:World}{n:Nat}{q:List (Tm n)}{a:Option Addr}(d:ft B w n q a)(k:fV n q=true):BM B w (ni n q):=
 ⟨by rw[mA];exact zw k,λc b=>⟨La d c b,EU k c b⟩⟩
theorem wh(n m o:Nat)(p:Tm n)(t:Tm m)(q:List (Tm o))(a:Option Addr)(c B:Nat)(w:World)(A:In B w n p)(j:In B w m t)(g:ft B w o q a)(e:B<=w.heap.size)(I:(av n p).length<=2097152)(K:(av m t).length<=2097152)(J:∀y∈q,(av o y).length<=2097152)(R:q.length<=9223372036854775807):ak 136 #[df n p,df m t,.slice a q.length c] w (xu (sR (bq n p) (bq m t) (jD m t) (fV o q)) (gN n p m t (ni o q)) w):=by
 cases n with
 | zero=>exact A.elim
 | succ n=>
 cases m with
 | zero=>exact j.elim
 | succ m=>
 refine CG w p.1.1 p.1.2.1 t.1.1 t.1.2.1 p.1.2.2 t.1.2.2 p.2.1.1 t.2.1.1 p.2.2.length p.2.1.2 t.2.2.length t.2.1.2 a q.length c _ _ _ _ _ (ni o q) ?_ ?_ ?_ ?_ ?_ ?_ ?_
 ·exact λf d=>dB (n+1) p B f (A.below (d.mono e)) (ax e d.size) I
 ·exact λf d=>dB (m+1) t B f (j.below (d.mono e)) (ax e d.size) K
 ·intro f d;rw[<-fj];exact im (m+1) t B f (j.below (d.mono e)) (ax e d.size)
 ·exact λf d=>zr o q a c B f (g.below (d.mono e)) R J (ax e d.size)
 ·intro M f d;have k:=zw M;rcases g with g|⟨T,po,rfl,F,g⟩
  ·rw[g]at k;simp at k
  ·have l:=Ca o q 4 T po c f k (by decide) (by decide) (λV H=>Cr λS y h=>((g S y h).1.below (d.mono e) F).below (H.mono (ax e d.size)) F);rw[k];exact l
 ·intro x f C v r d L z;obtain⟨D,s,G,u⟩:=vW x;exact Iw (n+1) p (m+1) t (ni o q) C v r B f (A.below (d.mono e)) (j.below (d.mono e)) (qq _ _ D) (qq _ _ s) ((Au g u).below (d.mono e)) (ax e L) z
 ·intro x f C v r b N d z;obtain⟨D,s,G,u⟩:=vW x;have i:=((Au g u).fit j (qq _ _ s) N).below (d.mono e);have P:=JU z (λy h=>(i.2 y h).1) (ax e d.size);have Q:(By b).length=4:=by simp[By,i.1]
  have l:=r9 (mr b) (gS _) (By b) (some ⟨v,0,none⟩) r f.heap.size f P (by omega) (GW λy h=>⟨(i.2 y h).2,λE=>by
   have O:=(i.2 y h).1;obtain⟨U,W⟩:=y;simp only at E;subst E
   exact O.elim⟩) (aj _)
  rw[Q]at l;exact⟨i.1,l⟩
theorem xJ{n:Nat}{x:Tm (n+1)}(a:aH (n+1) x=true):x.1.1≠5/\x.1.1≠6/\∀y∈x.2.2,aH n y=true:=by
 simp only[aH,aB,oB,b9]at a;exact⟨by simpa using a.1.1,by simpa using a.1.2,a.2⟩
def Oz:(n:Nat)->Tm n->Bool
 | 0,_=>true
 | n+1,x=> !(x.1.1==5) && x.2.2.all λy=>Oz n y
def BT(D:Nat)(l:List (Tm D))(d:List An):Prop:=∀(i:Nat)(a:An),d[i]?=some a->∃y,l[i]?=some y/\aw D y a.1 a.2=true/\aA ⟨D,y⟩
theorem vY{n m:Nat}:(p:List (Tm n))->(q:List (Tm m))->(b c:List An)->ii (λx y b=>gN n x m y b) p q b=some c->∀(i:Nat)(x:Tm n)(y:Tm m),p[i]?=some x->q[i]?=some y->∃a e,gN n x m y a=some e
 | [],_,_,_,_,i,x,y,hx,_=>by simp at hx
 | _::_,[],_,_,_,i,x,y,_,hy=>by simp at hy
 | x::p,y::q,b,c,h,i,x',y',hx,hy=>by
  simp only[ii]at h;obtain⟨d,f,g⟩:=br.1 h;cases i with
  | zero=>
   simp at hx hy;subst hx hy;exact⟨b,d,f⟩
  | succ i=>exact vY p q d c g i x' y' (by simpa using hx) (by simpa using hy)
theorem JF{a b:Type}(f:a->Int)(g:b->Int):(p:List a)->(q:List b)->p.length=q.length->(∀(i:Nat)(x:a)(y:b),p[i]?=some x->q[i]?=some y->f x<=g y)->(p.map f).sum<=(q.map g).sum
 | [],[],_,_=>by simp
 | [],_::_,h,_=>by simp at h
 | _::_,[],h,_=>by simp at h
 | x::p,y::q,h,hf=>by
  have j:=hf 0 x y (by simp) (by simp);have k:=JF f g p q (by simpa using h) λi x' e c d=>hf (i+1) x' e (by simpa using c) (by simpa using d);simp only[aI,bC];omega
theorem D6{a b:Type}(f:a->Int)(g:b->Int):(p:List a)->(q:List b)->(i j:Int)->i<=j->p.length=q.length->(∀(i:Nat)(x:a)(y:b),p[i]?=some x->q[i]?=some y->f x<=g y)->p.foldl (λm y=>max m (f y)) i<=q.foldl (λm y=>max m (g y)) j
 | [],[],_,_,h,_,_=>h
 | [],_::_,_,_,_,h,_=>by simp at h
 | _::_,[],_,_,_,h,_=>by simp at h
 | x::p,y::q,i,j,hij,h,hf=>by
  have k:=hf 0 x y (by simp) (by simp);simp only[ge];exact D6 f g p q _ _ (by omega) (by simpa using h) λi x' e c d=>hf (i+1) x' e (by simpa using c) (by simpa using d)
theorem tq{c:Type}(f:c->Int)(b:∀x,0<=f x):(p:List c)->(y:c)->y∈p->f y<=(p.map f).sum/\0<=(p.map f).sum
 | [],y,a=>by cases a
 | x::p,y,a=>by
  have g:=b x;have e:0<=(p.map f).sum:=by
   cases p with
   | nil=>simp
   | cons d p=>exact(tq f b (d::p) d (by simp)).2
  simp only[aI,bC];rcases cB.1 a with rfl|a
  ·omega
  ·have:=tq f b p y a;omega
theorem D5{a:Type}(f:a->Int):(p:List a)->(i:Int)->i<=p.foldl (λm y=>max m (f y)) i
 | [],_=>iJ _
 | x::p,i=>by
  simp only[ge];have:=D5 f p (max i (f x));omega
theorem AA{b:Type}(f:b->Int):(p:List b)->(i:Int)->(y:b)->y∈p->f y<=p.foldl (λm y=>max m (f y)) i
 | [],_,y,a=>by cases a
 | x::p,i,y,a=>by
  simp only[ge];rcases cB.1 a with rfl|a
  ·have:=D5 f p (max i (f y));omega
  ·exact AA f p _ y a
theorem MP:(n:Nat)->(x:Tm n)->(m:Nat)->(t:Tm m)->(b c:List An)->Oz n x=true->gN n x m t b=some c->sz n x<=sz m t/\fm n x<=fm m t
 | 0,_,_,_,_,_,_,h=>by simp[gN]at h
 | _+1,_,0,_,_,_,_,h=>by simp[gN]at h
 | n+1,x,m+1,t,b,c,hv,h=>by
  have s0:=(eH (m+1) t).1;have k:=(fN (m+1) t).1;simp only[Oz,aB,b9]at hv;have r:¬x.1.1=5:=by simpa using hv.1
  by_cases i:x.1.1=4
  ·have s:¬x.1.1=6:=by omega
   simp only[gN,if_neg s,if_neg r,if_pos i]at h;split at h
   ·rename_i j;have p:=vY _ _ b c h;have key:∀(e:Nat)(a:Tm n)(d:Tm m),x.2.2[e]?=some a->t.2.2[e]?=some d->sz n a<=sz m d/\fm n a<=fm m d:=λe a d f g=>by
     obtain⟨l,o,q⟩:=p e a d f g;exact MP n a m d l o (hv.2 a (aG f)) q
    have u:=JF (λa=>1+sz n a) (λa=>1+sz m a) x.2.2 t.2.2 j.2 λe a d f g=>by have:=key e a d f g;omega
    have v:=D6 (λa=>fm n a) (λa=>fm m a) x.2.2 t.2.2 0 0 (iJ _) j.2 λe a d f g=>(key e a d f g).2;simp only[sz,fm,if_pos i,if_pos j.1];omega
   ·cases h
  ·simp only[sz,fm,if_neg i];simp only[sz,fm]at s0 k;exact⟨s0,k⟩
theorem tR{n:Nat}{x:Tm n}:bq n x=0 ↔ bT n x=true/\fm n x<=12/\sz n x<=200:=by
 rw[<-fZ];unfold vH;constructor
 ·intro a;split at a
  ·rename_i c;split at a
   ·cases a
   ·rename_i f;exact⟨c,by omega,by omega⟩
  ·cases a
 ·rintro ⟨b,d,e⟩;rw[if_pos b,if_neg (by omega)]
def BS(a:An):Prop:=bq a.1 a.2=0/\(bN a=6\/aH a.1 a.2=true)
theorem nH:tE BS:=by
 intro n b a k c;obtain⟨l,d⟩:=k;obtain⟨g,h,i⟩:=tR.1 l;have f:aA ⟨n+1,b⟩:=aJ.2 g;have j:=eq (bu n b) (f (bu n b) (by simp[av,bu]));have e:b.1.1=4:=by
  by_cases e:b.1.1=4
  ·exact e
  ·have:b.2.2=[]:=bB (j.2.2.2.2 e);rw[this]at c;cases c
 have o:=tq (λa=>1+sz n a) (λa=>by have:=(eH n a).1;omega) b.2.2 a c;have m:=AA (λa=>fm n a) b.2.2 0 a c;simp only[sz,fm,if_pos e]at h i;refine⟨tR.2 ⟨aJ.1 (aR n b a f c),by simp only at m ⊢;omega,by simp only at o ⊢;omega⟩,ah ?_⟩;rcases d with d|d
 ·simp only[bN]at d;omega
 ·exact(xJ d).2.2 a c
theorem xb{D:Nat}{l:List (Tm D)}{c:List An}(g:∀y∈c,BS y)(h:l.length=4)(n:c.length=4)(j:BT D l c):fV D l=true:=by
 unfold fV;rw[h];simp only[decide_true,dZ,b9];intro y k;obtain⟨a,e⟩:=cJ k;have i:a<c.length:=by have:=(aM.1 e).1;omega
 obtain⟨o,f,d,_⟩:=j a c[a] (aE i);rw[e]at f;obtain rfl:=au f;obtain⟨m,b⟩:=g c[a] (je _);unfold AL;rw[bL d,m,jR d,<-fj,cr _ _ _ _ d];rcases b with b|b
 ·have:bN (⟨(c[a]).1,(c[a]).2⟩:An)=6:=b;rw[this];rfl
 ·rw[b];simp
theorem D0{b:List An}{w1 w':World}{a:Option Addr}{c:Nat}{l:List (Tm (mr b))}(q:gA (mr b) (By b) w1 w' a c l)(j:∀y∈b,aA y)(r:b.length=4):ft w'.heap.size w' (mr b) l a/\l.length=4/\BT (mr b) l b/\∀y∈l,aA ⟨mr b,y⟩:=by
 obtain⟨E,F,G,H,A,f⟩:=q;have D:(By b).length=4:=by simp[By,r]
 have t:ft w'.heap.size w' (mr b) l a:=by
  rcases f with f|⟨B,o,p,C,v,f⟩
  ·exact ag f
  ·exact ah ⟨B,o,p,v,λd y i=>⟨(f d y i).1,(f d y i).2.1⟩⟩
 have m:BT (mr b) l b:=by
  intro d e h;have g:d<l.length:=by have:=(aM.1 h).1;omega
  have z:(By b)[d]?=some (aN (mr b) e.1 e.2):=by simp[By,h]
  have x:=iZ _ _ _ A d l[d] _ (aE g) z;have u:=fk (mr b) e.1 (yP b e (aG h)) e.2 (j e (aG h));have k:=bD _ _ _ _ _ _ x u;exact⟨l[d],aE g,k,aJ.2 (by rw[ja _ _ _ _ k];exact aJ.1 (j e (aG h)))⟩
 refine⟨t,by omega,m,λy i=>?_⟩;obtain⟨d,g⟩:=cJ i;have s:d<b.length:=by have:=(aM.1 g).1;omega
 obtain⟨I,n,_,w⟩:=m d b[d] (aE s);rw[g]at n;obtain rfl:=au n;exact w
def eW:Tm 1:=((6,0,.empty),(none,0),[])
theorem ME(B:Nat)(w:World):In B w 1 eW:=⟨⟨by simp[eW,dk],by simp[eW,dk],aF _,by simp[eW],by simp[eW]⟩,ag rfl⟩
theorem NP:bT 1 eW=true:=by
 have:(ByteArray.empty).toList=[]:=by rw[b8];rfl
 simp[bT,eW,cq,bu,this]
theorem d1(x:Tm 1)(a:x.1.1≠4):fm 1 x=0/\sz 1 x=0:=by simp[fm,sz,a]
theorem xG:bq 1 eW=0:=by
 rw[tR];have a:=d1 eW (by simp[eW]);exact⟨NP,by rw[a.1];decide,by rw[a.2];decide⟩
theorem Ho:fV 1 (List.replicate 4 eW)=true:=by
 have:AL 1 eW=true:=by
  unfold AL;rw[xG];rfl
 unfold fV;simp only[List.length_replicate,decide_true,dZ,b9];intro b a;rw[List.eq_of_mem_replicate a];exact this
theorem AF(w:World):ak 137 #[] w λe w'=>e=.returned (.slice (some ⟨w.heap.size,0,none⟩) 4 4)/\Hid (gA 1 (List.replicate 4 eW) w w' (some ⟨w.heap.size,0,none⟩) 4 (List.replicate 4 eW)):=by
 obtain⟨A,l,q,r,s⟩:=bQ fY;go_enter Tryz.func137,Tryz.ntmps137;go_wp2_with (at_make;refine km _ rfl _ _ 28 rfl w.heap.size 30 A _ 4 Tryz.underlying28 l q r _ _ _ _ 4 rfl rfl rfl rfl (by rw[s];omega) (by unfold maxLen;omega) (aj _) ?_;intro C p b);have i:=ao (qr 1 (List.replicate 4 eW) 4 p);have h:Hid (ai w C):=⟨b.os,b.tape,b.output,b.size,λk m=>b.block k m (by simp)⟩;clear p b l q r s;go_loopw [6] (λd wr=>∃k:Nat,k<=4/\d=ab k/\Hid (ai w wr/\tC 1 (List.replicate 4 eW) 4 w.heap.size k (List.replicate k eW) wr)) (λd _=>4-(intOf d).toNat)
 case atStart=>exact⟨0,by omega,rfl,h.out,i.out⟩
 case round=>
  obtain⟨k,m,rfl,a⟩:=hrel;clear i h;by_cases n:k<4
  ·have t:(List.replicate 4 eW)[k]?=some eW:=by rw[List.getElem?_replicate,if_pos n]
   have j:In wr.heap.size wr 1 eW:=ME _ _;have o:bZ (λf=>w.heap.size<f) 1 eW:=by simp[bZ,eW]
   have y:=ao (a.out.2.step n eW t (am _ _) eW j o (by simp[aw,eW,ay]));have v:Hid (ai w (iX wr w.heap.size (k*4) (fX 1 eW))):=by
    have c:=a.out.1;exact⟨c.os,c.tape,c.output,ax c.size (dm (bj _ _ _ _).symm),λf z=>(aT (by omega) _ _ _ _).trans (c.block f z)⟩
   obtain⟨g,u⟩:∃g,((List.replicate k eW).map (λD=>(⟨1,D⟩:An))++List.replicate (4-k) zA)[k]?=some g:=⟨_,aE (by simp;omega)⟩;obtain⟨E,F,G,H⟩:=a.out.2.2.1.cells k g u;have I:=λB=>a.out.2.2.1.free B;have J:(0:Int)<=(k:Int):=by omega
   have K:(k:Int)<4:=by omega
   have L:(k:Int)<=4:=by omega
   clear t j o u a;go_wp2_with fail;go_roundw
   case rel=>
    refine⟨k+1,by omega,by go_num,v.out,?_⟩;have e:List.replicate (k+1) eW=List.replicate k eW++ [eW]:=List.replicate_succ';rw[e];exact y.out
   case measure=>simp[intOf];omega
  ·obtain rfl:k=4:=by omega
   have x:=ao (a.out.2.done rfl (by omega) a.out.1 (by unfold maxLen;omega));go_wp2_with fail
   go_ret
   exact⟨rfl,x.out⟩
structure bk (S:Nat->Prop) (w w':World):Prop where
 os:w'.os=w.os
 tape:w'.tape=w.tape
 output:w'.output=w.output
 size:w.heap.size<=w'.heap.size
 block:∀b,b<w.heap.size->¬S b->w'.heap[b]?=w.heap[b]?
theorem bk.refl(S:Nat->Prop)(w:World):bk S w w:=⟨rfl,rfl,rfl,aj _,λ_ _ _=>rfl⟩
theorem bk.trans{S T:Nat->Prop}{w w1 w2:World}(a:bk S w w1)(k:bk T w1 w2)(e:∀b,b<w.heap.size->T b->S b):bk S w w2:=
 ⟨k.os.trans a.os,k.tape.trans a.tape,k.output.trans a.output,ax a.size k.size,λb c d=>(k.block b (aL c a.size) (λf=>d (e b c f))).trans (a.block b c d)⟩
theorem bk.mono{S T:Nat->Prop}{w w1:World}(a:bk S w w1)(d:∀b,b<w.heap.size->S b->T b):bk T w w1:=⟨a.os,a.tape,a.output,a.size,λb c e=>a.block b c λk=>e (d b c k)⟩
theorem aD{w w':World}(a:Below w.heap.size w w')(S:Nat->Prop):bk S w w':=⟨a.os,a.tape,a.output,a.size,λb c _=>a.block b c⟩
theorem dR{w w':World}{row:Option Nat}(a:w.grownBy w' row):bk (λb=>row=some b) w w':=⟨a.os,a.tape,a.output,a.size,λb c d=>a.block b c λe=>d e.symm⟩
theorem bt(w:World)(q o:Nat)(v:Value):bk (λb=>b=q) w (w.setCell ⟨q,o,none⟩ v):=
 ⟨rfl,rfl,rfl,by simp[World.setCell],λb _ c=>by
  have:q≠b:=λa=>c a.symm
  simp[World.setCell,bG,this]⟩
theorem bk.below{S:Nat->Prop}{w w':World}{B:Nat}(a:bk S w w')(e:B<=w.heap.size)(c:∀b,b<B->¬S b):Below B w w':=⟨a.os,a.tape,a.output,a.size,λb d=>a.block b (by omega) (c b d)⟩
theorem bk.cell{S:Nat->Prop}{w w':World}(a:bk S w w'){b:Nat}(o:Nat)(d:b<w.heap.size)(c:¬S b):w'.cell? ⟨b,o,none⟩=w.cell? ⟨b,o,none⟩:=by
 simp only[World.cell?,a.block b d c]
theorem aY{base:Nat}{e:TypeId}{sz:Nat}{v:Value}{n:Nat}{xs:List Value}{w w':World}{S:Nat->Prop}(c:w.ownsRow base e sz v n xs)(k:bk S w w')(h:∀b,v.ownBlock=some b->¬S b):w'.ownsRow base e sz v n xs:=by
 refine⟨c.1,?_⟩;rcases c.2 with⟨e,g⟩|⟨a,cap,f,e,i,d,j⟩
 ·exact ag ⟨e,g⟩
 ·exact ah ⟨a,cap,f,e,i,(k.block a (aC.1 d).1 (h a (by rw[e];rfl))).trans d,j⟩
theorem dr.kee{S:Nat->Prop}{w w':World}(a:bk S w w'){b o:Nat}(d:b<w.heap.size)(c:¬S b):{n:Nat}->{x:Tm n}->dr w b o n x->dr w' b o n x
 | 0,_,k=>k
 | _+1,_,k=>by
  obtain⟨e,f,g,h⟩:=k;exact⟨(a.cell _ d c).trans e,(a.cell _ d c).trans f,(a.cell _ d c).trans g,(a.cell _ d c).trans h⟩
theorem In.kee{S:Nat->Prop}{w w':World}(d:bk S w w'):{n:Nat}->{x:Tm n}->In w.heap.size w n x->bZ (λb=>¬S b) n x->In w'.heap.size w' n x
 | 0,_,k,_=>k
 | _+1,x,k,o=>by
  obtain⟨p,a⟩:=k;refine⟨p,?_⟩;rcases a with a|⟨b,f,e,h,a⟩
  ·exact ag a
  ·rcases o with o|⟨q,r,c,m,o⟩
   ·exact ag o
   ·rw[e]at c;injection c with c;injection c with j l;subst j l;exact ah ⟨b,f,e,aL h d.size,λi y g=>⟨(a i y g).1.kee d h m,(a i y g).2.kee d (o i y g)⟩⟩
/-! ### the keys -/
theorem yp:WideMaps.ArrKey Tryz.prog 164 3 2:=⟨Tryz.underlying164,by kernel_rfl,by kernel_rfl,by kernel_rfl⟩
theorem eT:Keyed Tryz.prog 164:=Keyed.of_law yp.law
theorem DB:∃m,Tryz.prog.types.size=m+1:=by
 have a:(Tryz.prog.types.size==0)=false:=by kernel_rfl
 have b:Tryz.prog.types.size≠0:=gi.1 a;exact⟨Tryz.prog.types.size-1,by omega⟩
def pk(k:Int×Int):Value:=.agg #[.int .i64 k.1,.int .i64 k.2]
def kl(k:Int×Int):Lit:=.string (keyBytes [.int .i64 k.1,.int .i64 k.2])
def I2(k:Int×Int):Prop:=dk k.1/\dk k.2
theorem Mc{a:Int}(b:dk a):(Lit.int .i64 a).wf=true:=ib (by unfold dk at b;omega)
theorem fA{k:Int×Int}(a:I2 k):keyOf Tryz.prog 164 (pk k)=some (kl k):=WideMaps.keyOf_pair yp Tryz.underlying3 DB (Mc a.1) (Mc a.2)
theorem pD{k b:Int×Int}(c:I2 k)(d:I2 b)(e:kl k=kl b):k=b:=by
 have a:=eT.inj (fA c) (e▸fA d);simp only[pk,Value.agg.injEq,Array.mk.injEq,l6,Value.int.injEq,true_and,and_true]at a;exact ia a.1 a.2
def qN(v:Value):Option (DataW Value×List MemPlace):=some (.held v,[])
def gY{a:Type}(f:Int×Int->a)(k:Int×Int)(x:a):Int×Int->a:=λj=>if j=k then x else f j
theorem cF{a:Type}(f:Int×Int->a)(k:Int×Int)(x:a):gY f k x k=x:=if_pos rfl
theorem bM{a:Type}(f:Int×Int->a){k j:Int×Int}(x:a)(b:j≠k):gY f k x j=f j:=if_neg b
def lM:Value:=.slice none 0 0
def de(N:Nat)(l:List (Tm N)):List Value:=cm (l.map (fX N))
theorem o9(N:Nat)(l:List (Tm N)):(de N l).length=l.length*4:=by simp[de,nE]
theorem o8(N:Nat)(l r:List (Tm N)):de N (l++r)=de N l++de N r:=by simp[de,uG]
def ns(base N:Nat)(v:Value)(l:List (Tm N))(w:World):Prop:=w.ownsRow base 30 4 v l.length (de N l)
structure GM (base mb n N:Nat) (f:Int×Int->List (Tm N)) (sl:Int×Int->Value) (w:World):Prop where
 lo:base<=mb
 map:∃D,w.ownsMap Tryz.prog 164 qN mb n D/\(∀k,I2 k->D.atKey (kl k) (.held lM)=.held (sl k))/\∀x,has D x=true ↔∃k,I2 k/\x=kl k/\f k≠[]
 row:∀k,I2 k->ns base N (sl k) (f k) w
 apart:∀k j,I2 k->I2 j->k≠j->∀b,(sl k).ownBlock=some b->(sl j).ownBlock≠some b
def L9(a:Nat)(sl:Int×Int->Value)(b:Nat):Prop:=b=a\/∃k,I2 k/\(sl k).ownBlock=some b
theorem dS{w:World}{base:Nat}{e:TypeId}{sz:Nat}{v:Value}{n:Nat}{xs:List Value}(d:w.ownsRow base e sz v n xs)(b:Nat)(c:v.ownBlock=some b):∃a,w.heap[b]?=some (.cells a e (0,0)):=by
 rcases d.2 with⟨rfl,_⟩|⟨g,cap,a,rfl,_,f,_⟩
 ·simp[Value.ownBlock]at c
 ·simp[Value.ownBlock]at c;subst c;exact⟨a,f⟩
variable {base mb n N:Nat} {f:Int×Int->List (Tm N)} {sl:Int×Int->Value} {w:World}
theorem GM.lt(a:GM base mb n N f sl w)(b:Nat)(c:L9 mb sl b):base<=b/\b<w.heap.size:=by
 rcases c with rfl|⟨k,e,c⟩
 ·obtain⟨g,d,_⟩:=a.map;exact⟨a.lo,d.lt⟩
 ·exact(a.row k e).lt b c
theorem GM.ne(a:GM base mb n N f sl w){k:Int×Int}(g:I2 k):(sl k).ownBlock≠some mb:=by
 intro d;obtain⟨c,b⟩:=dS (a.row k g) mb d;obtain⟨h,⟨es,i,e,_⟩,_⟩:=a.map;rw[e]at b;cases b
theorem GM.kee{S:Nat->Prop}{w':World}(a:GM base mb n N f sl w)(k:bk S w w')(e:∀b,L9 mb sl b->¬S b):GM base mb n N f sl w':=by
 refine⟨a.lo,?_,λh g=>aY (a.row h g) k λb c=>e b (ah ⟨h,g,c⟩),a.apart⟩;obtain⟨i,d,l⟩:=a.map;refine⟨i,?_,l⟩;have m:=d.lt;obtain⟨es,j,c,o⟩:=d;exact⟨es,j,(k.block mb m (e mb (ag rfl))).trans c,o⟩
theorem GM.mono(b:GM base mb n N f sl w){m:Nat}(i:n<=m):GM base mb m N f sl w:=by
 obtain⟨c,⟨a,d,e⟩,g,h⟩:=b;exact⟨c,⟨a,d.mono i,e⟩,g,h⟩
theorem GM.new(w:World)(N:Nat):GM w.heap.size w.heap.size 0 N (λ_=> []) (λ_=>lM) (w.alloc (.map #[] 0)):=
 ⟨aj _,⟨.map [],oM w _ _ _,λk _=>by simp[DataW.atKey],λe=>⟨λa=>by simp[has]at a,λ⟨k,_,_,a⟩=>absurd rfl a⟩⟩,
  λk _=>⟨by simp[de,cm],ag ⟨rfl,rfl⟩⟩,λk d _ _ _ b c=>by simp[lM,Value.ownBlock]at c⟩
theorem ns.rebase{a:Nat}{v:Value}{l:List (Tm N)}(b:ns base N v l w)(c:a<=base):ns a N v l w:=qK b c
theorem GM.rebase{b:Nat}(a:GM base mb n N f sl w)(c:b<=base):GM b mb n N f sl w:=
 ⟨ax c a.lo,a.map,λk d=>(a.row k d).rebase c,a.apart⟩
theorem Jj{v:Value}{d:DataW Value}{ps:List MemPlace}(a:qN v=some (d,ps)):d=.held v:=by
 unfold qN at a;injection a with a;injection a with b c;exact b.symm
theorem qZ(w:World):(zeroValue 28).run Tryz.prog w=.ok (.slice none 0 0) w:=by kernel_rfl
theorem GM.look(d:GM base mb n N f sl w){k:Int×Int}(b:I2 k):(Instr.lookup 63 (.map (some mb)) (pk k) false).run Tryz.prog w=.ok (sl k) w:=by
 obtain⟨i,e,g,_⟩:=d.map;obtain⟨j,ps,h,c⟩:=e.lookup eT Tryz.underlying63 (qZ w) (zd:=.held lM) (zp:=[]) rfl (fA b);rw[g k b]at c;have a:=Jj c;injection a with a;rw[h,a]
theorem FH(w:World){k:Int×Int}(b:I2 k):(Instr.lookup 63 (.map none) (pk k) false).run Tryz.prog w=.ok (.slice none 0 0) w:=by
 have a:=look_nil (P:=Tryz.prog) (w:=w) false eT Tryz.underlying63 (qZ w) (fA b);simpa using a
theorem EN{D:DataW Value}(f:IsMap D){k j:Int×Int}(e:I2 k)(b:I2 j)(v:Value)(c:DataW Value):(D.put (kl k) (.held v)).atKey (kl j) c=if j=k then .held v else D.atKey (kl j) c:=by
 by_cases a:j=k
 ·subst a;rw[if_pos rfl,atKey_put_same f (eT.key (fA b))]
 ·rw[if_neg a,atKey_put_other λd=>a (pD b e d)]
theorem GM.put_of(h:GM base mb n N f sl w){k:Int×Int}(i:I2 k){w1 w2:World}(E:bk (λb=>b=mb\/(sl k).ownBlock=some b) w w1){v:Value}{l:List (Tm N)}(H:l≠[])(J:ns base N v l w1)(y:∀b,v.ownBlock=some b->(sl k).ownBlock=some b\/w.heap.size<=b)(x:bk (λb=>b=mb) w1 w2)(K:∀D,w.ownsMap Tryz.prog 164 qN mb n D->w2.ownsMap Tryz.prog 164 qN mb (n+1) (D.put (kl k) (.held v))):GM base mb (n+1) N (gY f k l) (gY sl k v) w2:=by
 obtain⟨D,j,C,t⟩:=h.map;have M:=j.lt;have I:∀b,v.ownBlock=some b->b≠mb:=λb e a=>by
  subst a;rcases y b e with a|a
  ·exact h.ne i a
  ·omega
 have z:∀c,I2 c->c≠k->∀b,(sl c).ownBlock=some b->v.ownBlock≠some b:=λc d G b e L=>by
  rcases y b L with a|a
  ·exact h.apart c k d i G b e a
  ·have:=((h.row c d).lt b e).2;omega
 refine⟨h.lo,⟨_,K D j,λc d=>?_,λB=>?_⟩,λc d=>?_,λp c u d o b=>?_⟩
 ·rw[EN j.isMap i d];unfold gY;split
  ·rfl
  ·exact C c d
 ·constructor
  ·intro A;by_cases a:B=kl k
   ·exact⟨k,i,a,by rw[cF];exact H⟩
   ·rw[has_put_other a]at A;obtain⟨c,d,s,m⟩:=(t B).1 A;refine⟨c,d,s,?_⟩;rw[bM _ _ λg=>a (by rw[s,g])];exact m
  ·rintro ⟨c,d,rfl,m⟩;by_cases a:c=k
   ·rw[a,has_put_same j.isMap (eT.key (fA i))]
   ·rw[has_put_other λg=>a (pD d i g)];rw[bM _ _ a]at m;exact(t _).2 ⟨c,d,rfl,m⟩
 ·by_cases a:c=k
  ·subst a;rw[cF,cF];exact aY J x λb e a=>I b e a
  ·rw[bM _ _ a,bM _ _ a];refine aY (aY (h.row c d) E λb e g=>?_) x λb e g=>h.ne d (by rw[e,g]);rcases g with g|g
   ·exact h.ne d (by rw[e,g])
   ·exact h.apart c k d i a b e g
 ·by_cases q:p=k
  ·subst q;rw[cF,bM _ _ λa=>o a.symm];exact λe F=>z c d (λa=>o a.symm) b F e
  ·rw[bM _ _ q];by_cases r:c=k
   ·subst r;rw[cF];exact λe=>z p u o b e
   ·rw[bM _ _ r];exact h.apart p c u d o b
theorem iD{w2:World}(a:w.mapTurned w2 mb):bk (λb=>b=mb) w w2/\w2.heap.size=w.heap.size:=by
 refine⟨(dR a.grown).mono λb _ c=>(au c).symm,?_⟩;obtain⟨_,_,_,_,_,rfl⟩:=a;simp[ChangeMaps.setBlock]
theorem GM.store(g:GM base mb n N f sl w){k:Int×Int}(h:I2 k){w1:World}(i:bk (λb=>(sl k).ownBlock=some b) w w1){v:Value}{l:List (Tm N)}(x:l≠[])(A:ns base N v l w1)(y:∀b,v.ownBlock=some b->(sl k).ownBlock=some b\/w.heap.size<=b)(F:n<1000000):∃w2,(Instr.mapUpdate 63 (.map (some mb)) (pk k) v).run Tryz.prog w1=.ok () w2/\GM base mb (n+1) N (gY f k l) (gY sl k v) w2/\bk (λb=>b=mb) w1 w2/\w2.heap.size=w1.heap.size:=by
 have p:∀a,w.ownsMap Tryz.prog 164 qN mb n a->∃w2,(Instr.mapUpdate 63 (.map (some mb)) (pk k) v).run Tryz.prog w1=.ok () w2/\w2.ownsMap Tryz.prog 164 qN mb (n+1) (a.put (kl k) (.held v))/\w1.mapTurned w2 mb:=by
  intro a c;have z:=c.lt;have t:w1.ownsMap Tryz.prog 164 qN mb n a:=by
   obtain⟨es,r,u,C⟩:=c;exact⟨es,r,(i.block mb z (g.ne h)).trans u,C⟩
  exact t.store (d:=.held v) (ps:=[]) eT Tryz.underlying63 (by unfold maxLen;omega) (fA h) rfl
 obtain⟨a,c,_⟩:=g.map;obtain⟨w2,m,_,E⟩:=p a c;obtain⟨j,D⟩:=iD E;refine⟨w2,m,g.put_of h (i.mono λb _ e=>ah e) x A y j (λq s=>?_),j,D⟩;obtain⟨G,o,B,_⟩:=p q s;rw[m]at o;injection o with _ e;rw[e];exact B
theorem GM.entry(s:GM base mb n N f sl w){k:Int×Int}(g:I2 k)(ak:n<1000000):∃(q:Nat)(w1:World),(Instr.mapEntry 63 (.map (some mb)) (pk k)).run Tryz.prog w=.ok (.tuple #[sl k,goInt q]) w1/\bk (λb=>b=mb) w w1/\w1.heap.size=w.heap.size/\ ∀(w2:World)(v:Value)(l:List (Tm N)),w2.heap[mb]?=w1.heap[mb]? ->bk (λb=>b=mb\/(sl k).ownBlock=some b) w w2->l≠[]->ns base N v l w2->(∀b,v.ownBlock=some b->(sl k).ownBlock=some b\/w.heap.size<=b)-> ∃i,(Instr.entryStore 63 (.map (some mb)) (goInt q) v).run Tryz.prog w2=.ok () i/\GM base mb (n+1) N (gY f k l) (gY sl k v) i/\bk (λb=>b=mb) w2 i/\i.heap.size=w2.heap.size:=by
 obtain⟨I,t,aj,_⟩:=s.map;obtain⟨es,r,c,j,Z,P⟩:=t;have t:w.ownsMap Tryz.prog 164 qN mb n I:=⟨es,r,c,j,Z,P⟩;obtain⟨ah,q,o,m,X,H,aa⟩:=WideElems.entry_then_store (e:=28) yp.law Tryz.underlying63 qZ c j (fA g);have K:ah=sl k:=by
  have x:=s.look g;obtain⟨am,ps,Y,al⟩:=t.lookup eT Tryz.underlying63 (qZ w) (zd:=.held lM) (zp:=[]) rfl (fA g);rw[x]at Y;rcases Maps.fit_look false eT Tryz.underlying63 (qZ w) c j (fA g)with⟨a,z,_⟩|⟨L,an,E,p,a,_⟩
  ·rw[x]at a;injection a with a _;rcases H with⟨B,y,h,_⟩|⟨_,rfl⟩
   ·exact absurd h (z B y)
   ·exact a.symm
  ·rw[x]at a;injection a with a _;rcases H with⟨B,y,h,rfl⟩|⟨z,_⟩
   ·have:=entry_eq_of_key ((MapKept.stamped_iff es r).1 j.stamped).2.2 E y (p.trans h.symm);simp at a;rw[a,this]
   ·exact absurd p (z L E)
 subst K;have ab:w.mapTurned (ChangeMaps.setBlock w mb (.map o m)) mb:=⟨es,r,o,m,c,rfl⟩;obtain⟨p,af⟩:=iD ab;refine⟨q,_,X,p,af,λw2 v l ae Q R T S=>?_⟩;have u:w2.heap[mb]?=some (.map o m):=ae.trans (rU c _);obtain⟨C,A,U,V⟩:=aa w2 v u;have ad:w2.mapTurned (ChangeMaps.setBlock w2 mb (.map C A)) mb:=⟨o,m,C,A,u,rfl⟩;obtain⟨h,ag⟩:=iD ad;refine⟨_,U,s.put_of g Q R T S h (λai O=>?_),h,ag⟩;obtain⟨i,G,F,_⟩:=O.store (d:=.held v) (ps:=[]) eT Tryz.underlying63 (by unfold maxLen;omega) (fA g) rfl;rw[V]at G;injection G with _ e;rw[<-e]at F;obtain⟨M,J,D,W⟩:=F;rw[rU c]at D;exact⟨M,J,(rU u _).trans D,W⟩
theorem GM.drop(h:GM base mb n N f sl w){k:Int×Int}(l:I2 k)(ty:TypeId):∃w2,(Builtin.delete_ #[63,164] ty #[.map (some mb),pk k]).run Tryz.prog w=.ok (.tuple #[]) w2/\GM base mb n N (gY f k []) (gY sl k lM) w2/\bk (λb=>b=mb) w w2/\w2.heap.size=w.heap.size:=by
 obtain⟨D,u,v,q⟩:=h.map;obtain⟨w2,A,z,C⟩:=u.drop eT Tryz.underlying63 (fA l) ty;obtain⟨r,B⟩:=iD C;refine⟨w2,A,⟨h.lo,⟨_,z,λc d=>?_,λt=>?_⟩,λc d=>?_,λs c x d y b=>?_⟩,r,B⟩
 ·by_cases a:c=k
  ·subst a;rw[cF,atKey_del_same]
  ·rw[bM _ _ a,atKey_del_other λe=>a (pD d l e)];exact v c d
 ·constructor
  ·intro j;by_cases a:t=kl k
   ·rw[a,has_del_same]at j;cases j
   ·rw[has_del_other a]at j;obtain⟨c,d,p,g⟩:=(q t).1 j;refine⟨c,d,p,?_⟩;rw[bM _ _ λe=>a (by rw[p,e])];exact g
  ·rintro ⟨c,d,rfl,g⟩;by_cases a:c=k
   ·rw[a,cF]at g;exact absurd rfl g
   ·rw[has_del_other λe=>a (pD d l e)];rw[bM _ _ a]at g;exact(q _).2 ⟨c,d,rfl,g⟩
 ·by_cases a:c=k
  ·subst a;rw[cF,cF];exact⟨by simp[de,cm],ag ⟨rfl,rfl⟩⟩
  ·rw[bM _ _ a,bM _ _ a];exact aY (h.row c d) r λb i e=>h.ne d (by rw[i,e])
 ·by_cases m:s=k
  ·subst m;rw[cF];intro i;simp[lM,Value.ownBlock]at i
  ·rw[bM _ _ m];by_cases o:c=k
   ·subst o;rw[cF];intro _ i;simp[lM,Value.ownBlock]at i
   ·rw[bM _ _ o];exact h.apart s c x d y b
theorem vB{P:Program}(w:World)(t ty e:TypeId)(i:TypeInfo)(x:P.underlying t=some (.slice e))(r:P.info? e=some i)(g d k:Nat)(f:Array Value)(q:w.heap[g]?=some (.cells f e (0,0)))(a:Addr)(m c:Nat)(b:List Value)(s:b.length=m*i.size)(u:∀j h,b[j]?=some h->w.cell? (a.add j)=some h)(n:∀h∈b,h.oneCell'=true)(v:d+m<=k)(p:d*i.size+b.length<=f.size):(Builtin.append_ #[t,t] ty #[.slice (some ⟨g,0,none⟩) d k,.slice (some a) m c]).run P w= .ok (.slice (some ⟨g,0,none⟩) (d+m) k) (w.setRow g (f.toList.take (d*i.size)++b++f.toList.drop (d*i.size+b.length)).toArray):=by
 have o:=run_firstCells_some (P:=P) w i.size m a m c b s u;have l:=oO P g (d*i.size) e b 0 f w q (by simpa using p) n;simp only[iL]at l;simp[Builtin.append_,ch x,sizeOf,typeInfo,r,Builtin.lenOf,v,o,eI,l]
theorem Fx:(Tryz.prog.info? 30).map (λi=>(i.zero,i.size,i.bytes))=some (some (.agg #[ab 0,ab 0,ae ⟨#[]⟩,.slice none 0 0]),4,56):=by kernel_rfl
def pi:List Value:=[ab 0,ab 0,ae ⟨#[]⟩,.slice none 0 0]
theorem vD(w:World)(ty:TypeId)(g o c:Nat)(a:Array Value)(e:w.heap[g]?=some (.cells a 30 (0,0)))(d:o+4<=a.size):(Builtin.clear_ #[28] ty #[.slice (some ⟨g,o,none⟩) 1 c]).run Tryz.prog w=.ok (.tuple #[]) (w.setRow g (a.toList.take o++pi++a.toList.drop (o+4)).toArray):=by
 have b:=oO Tryz.prog g o 30 pi 0 a w e (by simpa [pi]using d) (by simp[pi,Value.oneCell']);have h:(Builtin.zeroCells (Value.agg #[ab 0,ab 0,ae ⟨#[]⟩,.slice none 0 0]).cells 1).toList=pi:=by
  simp[Builtin.zeroCells,Value.cells,pi];rfl
 simp only[iL]at b;have f:pi.length=4:=rfl;rw[f]at b;simp[Builtin.clear_,ch Tryz.underlying28,h,b]
theorem Jz(w:World)(g L c:Nat)(b:L<=c)(d:1<=L):(Instr.slice 28 (.slice (some ⟨g,0,none⟩) L c) (some (ab 0)) (some (ab 1)) (some (ab L))).run Tryz.prog w=.ok (.slice (some ⟨g,0,none⟩) 1 L) w:=by
 have a:(1:Int)<=(L:Int):=by omega
 simp[Instr.slice,ch Tryz.underlying28,Instr.sliceBounds,Instr.sliceBound,asIntOf,a,b,go_sem]
theorem Dd(w:World)(g L c:Nat):(Instr.slice 28 (.slice (some ⟨g,0,none⟩) L c) none (some (ab 0)) none).run Tryz.prog w=.ok (.slice (some ⟨g,0,none⟩) 0 c) w:=by
 simp[Instr.slice,ch Tryz.underlying28,Instr.sliceBounds,Instr.sliceBound,asIntOf,go_sem]
theorem De(w:World)(g L c:Nat)(d:L<=c)(e:2<=L):(Instr.slice 28 (.slice (some ⟨g,0,none⟩) L c) (some (ab 1)) none none).run Tryz.prog w=.ok (.slice (some ⟨g,4,none⟩) (L-1) (c-1)) w:=by
 have a:(1:Int)<=(L:Int):=by omega
 have b:¬c=1:=by omega
 simp[Instr.slice,ch Tryz.underlying28,Instr.sliceBounds,Instr.sliceBound,asIntOf,a,b,go_sem,eI]
theorem Dc(w:World)(g m c:Nat)(e:m+1<=c):(Instr.slice 28 (.slice (some ⟨g,0,none⟩) m c) (some (ab m)) (some (ab ((m:Int)+1))) none).run Tryz.prog w=.ok (.slice (some ⟨g,m*4,none⟩) 1 (c-m)) w:=by
 have a:¬c=m:=by omega
 have b:(m:Int)+1<=(c:Int):=by omega
 have d:(0:Int)<=(m:Int)+1:=by omega
 simp[Instr.slice,ch Tryz.underlying28,Instr.sliceBounds,Instr.sliceBound,asIntOf,a,b,d,go_sem,eI]
theorem sZ{w w':World}{v x' c:Value}{b:Array Oper}{o:Oper}{a:Act}{K:Act->World->Prop}{Q:Exit->Act->World->Prop}{E:Prop}(e:o.guard=none)(s x:Operand)(f:o.op=.call {callee:=.builtin .append,args:= #[s,x],argTypes:= #[28,28]})(h:a.eval s=v)(j:a.eval x=x')(g:(Builtin.append_ #[28,28] o.type #[v,x']).run Tryz.prog w=.ok c w')(d:K (a.put o.dst c) w'):if Region.wanted o (yielded b a.tmps)=true then Oper.wp Tryz.prog o a w K Q else E:=by
 have i:Region.wanted o (yielded b a.tmps)=true:=by simp[Region.wanted,e]
 rw[if_pos i];unfold Oper.wp execOp;simp only[f,resolve,invoke,builtin,Sem.run_bind,Sem.run_pure,mq,mg,aI,bR,h,j,g];exact d
theorem af{w:World}{g:Nat}{a:Array Value}{e:TypeId}(b:w.heap[g]?=some (.cells a e (0,0)))(j:Nat):w.cell? ⟨g,j,none⟩=a.toList[j]? :=by
 simp[World.cell?,b]
theorem Cc{N:Nat}(base g c m:Nat)(y:Tm N)(l:List (Tm N))(w:World)(j:l.length=m)(C:ns base N (.slice (some ⟨g,0,none⟩) (m+1) c) (y::l) w)(D:l≠[]):ak 77 #[.slice (some ⟨g,0,none⟩) ((m:Nat)+1) c,ab 0,ab 1] w λe w'=>e=.returned (.slice (some ⟨g,0,none⟩) m c)/\ns base N (.slice (some ⟨g,0,none⟩) m c) l w'/\w.grownBy w' (some g)/\w'.heap.size=w.heap.size:=by
 obtain⟨R,K,Z,O,aa⟩:=bQ Fx;have Y:0<m:=by
  rw[<-j];exact List.length_pos_iff.2 D
 obtain⟨E,F⟩:=C;rcases F with⟨e,_⟩|⟨V,cap,d,e,J,r,H,I,u,t⟩
 ·cases e
 ·injection e with i A B;injection i with i;injection i with i _;subst i B;simp only[aZ,j]at E H t A;have q:d.toList.length=c*4:=by rw[gZ,u]
  have M:d.toList.take ((m+1)*4)=de N [y]++de N l:=by
   rw[t,<-o8];rfl
  have S:(de N [y]).length=4:=by rw[o9];rfl
  have f:(de N l).length=m*4:=by rw[o9,j]
  have z:Hid (∀a:World,a.heap[g]?=some (.cells d 30 (0,0))->∀n o,(de N l)[n]?=some o->a.cell? ((⟨g,4,none⟩:Addr).add n)=some o):=by
   intro a h n o s;have X:=(aM.1 s).1;rw[eI,af h];have e:(d.toList.take ((m+1)*4))[4+n]?=some o:=by
    rw[M,dN (by omega),S,Nat.add_sub_cancel_left];exact s
   rw[jY]at e;split at e
   ·exact e
   ·cases e
  have v:Hid (∀(a:World)(ty:TypeId),a.heap[g]?=some (.cells d 30 (0,0))->(Builtin.append_ #[28,28] ty #[.slice (some ⟨g,0,none⟩) 0 c,.slice (some ⟨g,4,none⟩) m (c-1)]).run Tryz.prog a=
   .ok (.slice (some ⟨g,0,none⟩) m c) (a.setRow g (de N l++d.toList.drop (m*4)).toArray)):=by
   intro a ty h;have p:=vB (P:=Tryz.prog) a 28 ty 30 R Tryz.underlying28 K g 0 c d h ⟨g,4,none⟩ m (c-1) (de N l) (by rw[f,O]) (z.out a h) (sr _) (by omega) (by rw[f,u];omega);simpa [f]using p
  have x:Hid (∀(a:World)(ty:TypeId),a.heap[g]?=some (.cells (de N l++d.toList.drop (m*4)).toArray 30 (0,0))->(Builtin.clear_ #[28] ty #[.slice (some ⟨g,m*4,none⟩) 1 (c-m)]).run Tryz.prog a=
   .ok (.tuple #[]) (a.setRow g (de N l++pi++d.toList.drop ((m+1)*4)).toArray)):=by
   intro a ty h;have p:=vD a ty g (m*4) (c-m) _ h (by simp only[e9,bf,eK,f,q];omega);rw[p];refine congrArg (λU=>Result.ok (Value.tuple #[]) (a.setRow g (List.toArray U))) ?_;rw[oJ,jj (by omega),bw (by omega),List.drop_append,oE (by omega),f,List.drop_drop,mi];rw[show m*4+(m*4+4-m*4)=(m+1)*4 by omega]
  have G:=v.out w.drew 28 r;have HB:Hid ((w.drew.setRow g (de N l++d.toList.drop (m*4)).toArray).heap[g]?=some (.cells (de N l++d.toList.drop (m*4)).toArray 30 (0,0))):=setRow_heap w.drew g d _ _ _ r;have W:=λty:TypeId=>x.out _ ty HB.out;have ad:=λa:World=>Jz a g (m+1) c (by omega) (by omega);have ae:=λa:World=>Dd a g (m+1) c;have T:=λa:World=>De a g (m+1) c (by omega) (by omega);have ag:=λa:World=>Dc a g m c (by omega);rw[eM]at T;go_enter Tryz.func77,Tryz.ntmps77;go_wp2_with fail;go_region_held3 (λ_=>True) (trivial) ((first|(refine sZ rfl _ _ rfl (by simp[Act.eval]) (by simp[Act.eval]) G ?_)));go_wp2_with fail
  go_ret
  have k:∀b,b≠g->((w.drew.setRow g (de N l++d.toList.drop (m*4)).toArray).setRow g (de N l++(pi++d.toList.drop ((m+1)*4))).toArray).heap[b]?=w.heap[b]? :=λb k=>(setRow_other _ _ _ _ k).trans (setRow_other _ _ _ _ k);refine⟨rfl,⟨by rw[f,j],ah ⟨g,c,_,by rw[j],J,setRow_heap _ _ _ _ _ _ HB.out,by omega,I,?_,?_⟩⟩,⟨rfl,rfl,rfl,by simp,λb _ L=>k b λe=>L (by rw[e])⟩,by simp⟩
  ·have Q:pi.length=4:=rfl;simp only[e9,bf,eK,f,q,Q];omega
  ·rw[oJ,jj (by omega),bw (by omega)]
end Go.Proofs.YtckamaoibonjcaaGreat
