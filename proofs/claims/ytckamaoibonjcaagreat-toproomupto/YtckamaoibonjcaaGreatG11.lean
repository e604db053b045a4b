/- What is proved here: plain facts and contracts that the claimed theorem stands on. No condition but those that each names. -/
import Derived.Test.YtckamaoibonjcaaGreatG10
import Derived.Deep.RegionLaw
import Derived.Laws.CopyRow
import Derived.Maps.RangeWalk
import Derived.WideKeyPair
import Derived.WideKeyEntry
namespace Go.Proofs.YtckamaoibonjcaaGreat
open Go.RowKit
open Go.RowKit Go.Maps
set_option maxHeartbeats 2000000
set_option maxRecDepth 100000
def sH(a b:Int)(cl bd:Bool):Int:=if a=0 then if b=0 then if cl && bd then 0 else 5 else b else a
def xe(a:Int)(o:Option (List An))(w:World)(e:Ending)(w':World):Prop:=
 ∃f len c d,e=.returned (.tuple #[.slice f len c,.bool d,.int .i64 a])/\Hid (ag w w'/\
  ((¬(a=0/\o.isSome=true)->len=0/\d=false)/\∀b,a=0->o=some b->d=true/\len=4/\b.length=4/\∃g l,w.heap.size<=g.heap.size/\gn (mm b) (Bo b) g w' f c l))
def LV(w:World)(v0 v1 v2 v3 a b c d:Value)(w':World):Prop:=
 ag w w'/\w.heap.size+2<=w'.heap.size/\
 (w'.cell? ⟨w.heap.size,0,none⟩=some v0/\w'.cell? ⟨w.heap.size,1,none⟩=some v1/\w'.cell? ⟨w.heap.size,2,none⟩=some v2/\w'.cell? ⟨w.heap.size,3,none⟩=some v3)/\
 (w'.cell? ⟨w.heap.size+1,0,none⟩=some a/\w'.cell? ⟨w.heap.size+1,1,none⟩=some b/\w'.cell? ⟨w.heap.size+1,2,none⟩=some c/\w'.cell? ⟨w.heap.size+1,3,none⟩=some d)
theorem LV.new(w:World)(v0 v1 v2 v3 a b c d:Value)(t e:TypeId):LV w v0 v1 v2 v3 a b c d ((w.alloc (.cells #[v0,v1,v2,v3] t)).alloc (.cells #[a,b,c,d] e)):=
 ⟨((ak _ _).alloc (ai _) _).alloc (by simp) _,by simp,⟨by simp[go_sem],by simp[go_sem],by simp[go_sem],by simp[go_sem]⟩,by simp[go_sem],by simp[go_sem],by simp[go_sem],by simp[go_sem]⟩
theorem LV.next{w:World}{v0 v1 v2 v3 c d e f:Value}{w1 w2:World}(a:LV w v0 v1 v2 v3 c d e f w1)(b:ag w1 w2):LV w v0 v1 v2 v3 c d e f w2:=
 ⟨a.1.trans (b.mono a.1.size),aw a.2.1 b.size,nh (by have:=a.2.1;omega) b a.2.2.1,nh (by have:=a.2.1;omega) b a.2.2.2⟩
theorem Cw(w:World)(k G z D:Int)(s C:ByteArray)(a n:Option Addr)(l pc A B:Nat)(W:Option Addr)(Y X:Nat)(i j:Int)(cl bd:Bool)(o:Option (List An))(T:List An)(an:Hid (∀w1,ag w w1->ah 51 #[.agg #[.int .i64 k,.int .i64 G,.string s,.slice a l pc]] w1 λe w'=>e=.returned (.int .i64 i)/\ag w1 w'))(ao:Hid (∀w1,ag w w1->ah 51 #[.agg #[.int .i64 z,.int .i64 D,.string C,.slice n A B]] w1 λe w'=>e=.returned (.int .i64 j)/\ag w1 w'))(ak:Hid (∀w1,ag w w1->ah 52 #[.agg #[.int .i64 z,.int .i64 D,.string C,.slice n A B]] w1 λe w'=>e=.returned (.bool cl)/\ag w1 w'))(ae:Hid (∀w1,ag w w1->ah 158 #[.slice W Y X] w1 λe w'=>e=.returned (.bool bd)/\ag w1 w'))(al:Hid (bd=true->∀w1,ag w w1->ah 159 #[.slice W Y X] w1 λe w'=>∃g c,e=.returned (.slice (some ⟨g,0,none⟩) 4 c)/\Hid (ag w1 w'/\mn w1.heap.size g c T w')))(S:Hid (sH i j cl bd=0->∀w1 base g c,ag w w1->w.heap.size<=base->mn base g c T w1->ah 160 #[.slice (some ⟨g,0,none⟩) 4 c,.agg #[.int .i64 k,.int .i64 G,.string s,.slice a l pc],.agg #[.int .i64 z,.int .i64 D,.string C,.slice n A B]] w1 (en base g c o w1)))(R:Hid (sH i j cl bd=0->∀w1 base g c b,o=some b->ag w w1->mn base g c b w1->b.length=4/\ah 82 #[.slice (some ⟨g,0,none⟩) 4 c] w1 λe w'=>∃n ax l,e=.returned (.slice n 4 ax)/\Hid (gn (mm b) (Bo b) w1 w' n ax l))):ah 136 #[.agg #[.int .i64 k,.int .i64 G,.string s,.slice a l pc],.agg #[.int .i64 z,.int .i64 D,.string C,.slice n A B],.slice W Y X] w (xe (sH i j cl bd) o w):=by
 obtain⟨f,V⟩:∃f,f=sH i j cl bd:=⟨_,rfl⟩;rw[<-V]at S R ⊢;have q:=aj V;clear V;go_enter Tryz.func136,Tryz.ntmps136;go_wp2_with fail;refine(an.out _ (LV.new w _ _ _ _ _ _ _ _ _ _).1).mono ?_;rintro e w1 ⟨rfl,az⟩;have t:=aj ((LV.new w (.int .i64 k) (.int .i64 G) (.string s) (.slice a l pc) (.int .i64 z) (.int .i64 D) (.string C) (.slice n A B) 30 30).next az);clear az an;by_cases m:i=0
 case neg=>
  have aG:(i !=0)=true:=by simpa using m
  have d:Hid (f=i/\¬f=0):=by have:=q.out;unfold sH at this;rw[if_neg m]at this;exact⟨this,by rw[this];exact m⟩
  clear m q;go_wp2_with fail;exact ap (v:=.tuple #[.slice none 0 0,.bool false,.int .i64 i]) (by simp[results,Tryz.results136,go_sem]) rfl ⟨none,0,0,false,by rw[d.out.1],t.out.1,λ_=>⟨rfl,rfl⟩,λb h=>absurd h d.out.2⟩
 have aG:(i !=0)=false:=by simp[m]
 obtain⟨⟨L,M,N,O⟩,H,I,J,K⟩:=t.out.2.2;go_wp2_with fail;refine(ao.out _ t.out.1).mono ?_;rintro e aL ⟨rfl,aA⟩;have u:=aj (t.out.next aA);clear aA ao t L M N O H I J K;by_cases p:j=0
 case neg=>
  have aH:(j !=0)=true:=by simpa using p
  have d:Hid (f=j/\¬f=0):=by have:=q.out;unfold sH at this;rw[if_pos m,if_neg p]at this;exact⟨this,by rw[this];exact p⟩
  clear p m q;go_wp2_with fail;exact ap (v:=.tuple #[.slice none 0 0,.bool false,.int .i64 j]) (by simp[results,Tryz.results136,go_sem]) rfl ⟨none,0,0,false,by rw[d.out.1],u.out.1,λ_=>⟨rfl,rfl⟩,λb h=>absurd h d.out.2⟩
 have aH:(j !=0)=false:=by simp[p]
 have r:Hid (f=if cl && bd then 0 else 5):=by have:=q.out;unfold sH at this;rw[if_pos m,if_pos p]at this;exact this
 clear p m q;obtain⟨⟨L,M,N,O⟩,H,I,J,K⟩:=u.out.2.2;go_wp2_with fail;refine(ak.out _ u.out.1).mono ?_;rintro e aM ⟨rfl,aB⟩;have E:=aj (u.out.next aB);clear aB ak u L M N O H I J K;cases cl with
 | false=>
  have d:Hid (f=5/\¬f=0):=by have:=r.out;simp at this;exact⟨this,by rw[this];decide⟩
  clear r;go_wp2_with fail;exact ap (v:=.tuple #[.slice none 0 0,.bool false,.int .i64 5]) (by simp[results,Tryz.results136,go_sem]) rfl ⟨none,0,0,false,by rw[d.out.1],E.out.1,λ_=>⟨rfl,rfl⟩,λb h=>absurd h d.out.2⟩
 | true=>
 go_wp2_with fail;refine(ae.out _ E.out.1).mono ?_;rintro e Z ⟨rfl,aC⟩;have x:=aj (E.out.next aC);clear aC ae E;cases bd with
 | false=>
  have d:Hid (f=5/\¬f=0):=by have:=r.out;simp at this;exact⟨this,by rw[this];decide⟩
  clear r;go_wp2_with fail;exact ap (v:=.tuple #[.slice none 0 0,.bool false,.int .i64 5]) (by simp[results,Tryz.results136,go_sem]) rfl ⟨none,0,0,false,by rw[d.out.1],x.out.1,λ_=>⟨rfl,rfl⟩,λb h=>absurd h d.out.2⟩
 | true=>
 have d:Hid (f=0):=by have:=r.out;simp at this;exact this
 have ar:=aj (S.out d.out);have af:=aj (R.out d.out);have am:=aj (al.out rfl);clear r S R al;go_wp2_with fail;refine(am.out _ x.out.1).mono ?_;rintro e aD ⟨g,c,rfl,Q⟩;have P:=aj (x.out.next Q.out.1);have F:Hid (mn Z.heap.size g c T aD):=Q.out.2;have au:Hid (w.heap.size<=Z.heap.size):=x.out.1.size;obtain⟨⟨L,M,N,O⟩,H,I,J,K⟩:=P.out.2.2;clear x Q am;go_wp2_with fail;refine(ar.out aD Z.heap.size g c P.out.1 au.out F.out).mono ?_;rintro e aa U;have y:Hid (ag w aa):=P.out.1.trans (ns U.2.1 (aw au.out F.out.lt.1) F.out.lt.2);have ab:=aj U.2.2;obtain⟨rfl,_,_⟩:=U;clear F ar;cases o with
 | none=>
  simp only[mh];go_wp2_with fail;exact ap (v:=.tuple #[.slice none 0 0,.bool false,.int .i64 0]) (by simp[results,Tryz.results136,go_sem]) rfl ⟨none,0,0,false,by rw[d.out],y.out,λ_=>⟨rfl,rfl⟩,λb _ h=>by cases h⟩
 | some b=>
  simp only[mi];have aF:=aj (ab.out b rfl);have ai:=aj (af.out aa _ g c b rfl y.out aF.out);clear ab af;go_wp2_with fail;refine ai.out.2.mono ?_;rintro e aJ ⟨av,ay,aI,rfl,ad⟩;have aE:Hid (ag w aJ):=y.out.trans (ad.out.1.mono y.out.size);go_wp2_with fail;exact ap (v:=.tuple #[.slice av 4 ay,.bool true,.int .i64 0]) (by simp[results,Tryz.results136,go_sem]) rfl ⟨av,4,ay,true,by rw[d.out],aE.out,λh=>absurd ⟨d.out,rfl⟩ h,λaK _ e=>by obtain rfl:=aq e;exact⟨rfl,rfl,ai.out.1,aa,aI,y.out.size,ad.out⟩⟩
theorem vL{e f:Int}{cl bd:Bool}(a:sH e f cl bd=0):e=0/\f=0/\cl=true/\bd=true:=by
 unfold sH at a;split at a
 ·split at a
  ·split at a
   ·rename_i b c d;simp at d;exact⟨b,c,d.1,d.2⟩
   ·cases a
  ·rename_i b c;exact absurd a c
 ·rename_i b;exact absurd a b
theorem zm{n:Nat}{q:List (Tm n)}(a:fO n q=true):q.length=4:=by
 unfold fO at a;simp at a;exact a.1
theorem EH{n:Nat}{q:List (Tm n)}(a:fO n q=true):∀y∈mX n q,av y:=by
 intro y c;simp only[mX,bZ]at c;obtain⟨d,e,rfl⟩:=c;unfold fO at a;simp only[ay,bX]at a;have b:=a.2 d e;unfold AD at b;simp only[ay,b9]at b;exact qj n d b.1
theorem KM{B:Nat}{w:World}{n:Nat}{q:List (Tm n)}{a:Option Addr}(c:fe B w n q a):∀y∈mX n q,Eu B w y:=by
 intro y e;simp only[mX,bZ]at e;obtain⟨h,d,rfl⟩:=e;rcases c with c|⟨b,o,_,_,c⟩
 ·rw[c]at d;cases d
 ·obtain⟨g,f⟩:=cM d;exact(c g h f).2
theorem Al{B:Nat}{w:World}{n:Nat}{q:List (Tm n)}{a:Option Addr}(d:fe B w n q a)(k:fO n q=true):BD B w (mX n q):=
 ⟨by rw[mr];exact zm k,λc b=>⟨KM d c b,EH k c b⟩⟩
theorem vT(n m o:Nat)(p:Tm n)(t:Tm m)(q:List (Tm o))(a:Option Addr)(c B:Nat)(w:World)(A:In B w n p)(j:In B w m t)(g:fe B w o q a)(e:B<=w.heap.size)(I:(ar n p).length<=2097152)(K:(ar m t).length<=2097152)(J:∀y∈q,(ar o y).length<=2097152)(R:q.length<=9223372036854775807):ah 136 #[dd n p,dd m t,.slice a q.length c] w (xe (sH (bm n p) (bm m t) (jD m t) (fO o q)) (gG n p m t (mX o q)) w):=by
 cases n with
 | zero=>exact A.elim
 | succ n=>
 cases m with
 | zero=>exact j.elim
 | succ m=>
 refine Cw w p.1.1 p.1.2.1 t.1.1 t.1.2.1 p.1.2.2 t.1.2.2 p.2.1.1 t.2.1.1 p.2.2.length p.2.1.2 t.2.2.length t.2.1.2 a q.length c _ _ _ _ _ (mX o q) ?_ ?_ ?_ ?_ ?_ ?_ ?_
 ·exact λf d=>dx (n+1) p B f (A.below (d.mono e)) (aw e d.size) I
 ·exact λf d=>dx (m+1) t B f (j.below (d.mono e)) (aw e d.size) K
 ·intro f d;rw[<-eT];exact ie (m+1) t B f (j.below (d.mono e)) (aw e d.size)
 ·exact λf d=>zh o q a c B f (g.below (d.mono e)) R J (aw e d.size)
 ·intro M f d;have k:=zm M;rcases g with g|⟨T,po,rfl,F,g⟩
  ·rw[g]at k;simp at k
  ·have l:=BW o q 4 T po c f k (by decide) (by decide) (λV H=>Ch λS y h=>((g S y h).1.below (d.mono e) F).below (H.mono (aw e d.size)) F);rw[k];exact l
 ·intro x f C v r d L z;obtain⟨D,s,G,u⟩:=vL x;exact Hx (n+1) p (m+1) t (mX o q) C v r B f (A.below (d.mono e)) (j.below (d.mono e)) (qj _ _ D) (qj _ _ s) ((Al g u).below (d.mono e)) (aw e L) z
 ·intro x f C v r b N d z;obtain⟨D,s,G,u⟩:=vL x;have i:=((Al g u).fit j (qj _ _ s) N).below (d.mono e);have P:=JB z (λy h=>(i.2 y h).1) (aw e d.size);have Q:(Bo b).length=4:=by simp[Bo,i.1]
  have l:=rU (mm b) (gM _) (Bo b) (some ⟨v,0,none⟩) r f.heap.size f P (by omega) (GB λy h=>⟨(i.2 y h).2,λE=>by
   have O:=(i.2 y h).1;obtain⟨U,W⟩:=y;simp only at E;subst E
   exact O.elim⟩) (ai _)
  rw[Q]at l;exact⟨i.1,l⟩
theorem xx{n:Nat}{x:Tm (n+1)}(a:aF (n+1) x=true):x.1.1≠5/\x.1.1≠6/\∀y∈x.2.2,aF n y=true:=by
 simp only[aF,ay,oq,bX]at a;exact⟨by simpa using a.1.1,by simpa using a.1.2,a.2⟩
def N7:(n:Nat)->Tm n->Bool
 | 0,_=>true
 | n+1,x=> !(x.1.1==5) && x.2.2.all λy=>N7 n y
def BK(D:Nat)(l:List (Tm D))(d:List An):Prop:=∀(i:Nat)(a:An),d[i]?=some a->∃y,l[i]?=some y/\au D y a.1 a.2=true/\av ⟨D,y⟩
theorem vN{n m:Nat}:(p:List (Tm n))->(q:List (Tm m))->(b c:List An)->hU (λx y b=>gG n x m y b) p q b=some c->∀(i:Nat)(x:Tm n)(y:Tm m),p[i]?=some x->q[i]?=some y->∃a e,gG n x m y a=some e
 | [],_,_,_,_,i,x,y,hx,_=>by simp at hx
 | _::_,[],_,_,_,i,x,y,_,hy=>by simp at hy
 | x::p,y::q,b,c,h,i,x',y',hx,hy=>by
  simp only[hU]at h;obtain⟨d,f,g⟩:=bj.1 h;cases i with
  | zero=>
   simp at hx hy;subst hx hy;exact⟨b,d,f⟩
  | succ i=>exact vN p q d c g i x' y' (by simpa using hx) (by simpa using hy)
theorem Jn{a b:Type}(f:a->Int)(g:b->Int):(p:List a)->(q:List b)->p.length=q.length->(∀(i:Nat)(x:a)(y:b),p[i]?=some x->q[i]?=some y->f x<=g y)->(p.map f).sum<=(q.map g).sum
 | [],[],_,_=>by simp
 | [],_::_,h,_=>by simp at h
 | _::_,[],h,_=>by simp at h
 | x::p,y::q,h,hf=>by
  have j:=hf 0 x y (by simp) (by simp);have k:=Jn f g p q (by simpa using h) λi x' e c d=>hf (i+1) x' e (by simpa using c) (by simpa using d);simp only[aH,bq];omega
theorem DS{a b:Type}(f:a->Int)(g:b->Int):(p:List a)->(q:List b)->(i j:Int)->i<=j->p.length=q.length->(∀(i:Nat)(x:a)(y:b),p[i]?=some x->q[i]?=some y->f x<=g y)->p.foldl (λm y=>max m (f y)) i<=q.foldl (λm y=>max m (g y)) j
 | [],[],_,_,h,_,_=>h
 | [],_::_,_,_,_,h,_=>by simp at h
 | _::_,[],_,_,_,h,_=>by simp at h
 | x::p,y::q,i,j,hij,h,hf=>by
  have k:=hf 0 x y (by simp) (by simp);simp only[fU];exact DS f g p q _ _ (by omega) (by simpa using h) λi x' e c d=>hf (i+1) x' e (by simpa using c) (by simpa using d)
theorem s9{c:Type}(f:c->Int)(b:∀x,0<=f x):(p:List c)->(y:c)->y∈p->f y<=(p.map f).sum/\0<=(p.map f).sum
 | [],y,a=>by cases a
 | x::p,y,a=>by
  have g:=b x;have e:0<=(p.map f).sum:=by
   cases p with
   | nil=>simp
   | cons d p=>exact(s9 f b (d::p) d (by simp)).2
  simp only[aH,bq];rcases cv.1 a with rfl|a
  ·omega
  ·have:=s9 f b p y a;omega
theorem DR{a:Type}(f:a->Int):(p:List a)->(i:Int)->i<=p.foldl (λm y=>max m (f y)) i
 | [],_=>iD _
 | x::p,i=>by
  simp only[fU];have:=DR f p (max i (f x));omega
theorem Ar{b:Type}(f:b->Int):(p:List b)->(i:Int)->(y:b)->y∈p->f y<=p.foldl (λm y=>max m (f y)) i
 | [],_,y,a=>by cases a
 | x::p,i,y,a=>by
  simp only[fU];rcases cv.1 a with rfl|a
  ·have:=DR f p (max i (f y));omega
  ·exact Ar f p _ y a
theorem Mu:(n:Nat)->(x:Tm n)->(m:Nat)->(t:Tm m)->(b c:List An)->N7 n x=true->gG n x m t b=some c->sz n x<=sz m t/\eW n x<=eW m t
 | 0,_,_,_,_,_,_,h=>by simp[gG]at h
 | _+1,_,0,_,_,_,_,h=>by simp[gG]at h
 | n+1,x,m+1,t,b,c,hv,h=>by
  have s0:=(ey (m+1) t).1;have k:=(fH (m+1) t).1;simp only[N7,ay,bX]at hv;have r:¬x.1.1=5:=by simpa using hv.1
  by_cases i:x.1.1=4
  ·have s:¬x.1.1=6:=by omega
   simp only[gG,if_neg s,if_neg r,if_pos i]at h;split at h
   ·rename_i j;have p:=vN _ _ b c h;have key:∀(e:Nat)(a:Tm n)(d:Tm m),x.2.2[e]?=some a->t.2.2[e]?=some d->sz n a<=sz m d/\eW n a<=eW m d:=λe a d f g=>by
     obtain⟨l,o,q⟩:=p e a d f g;exact Mu n a m d l o (hv.2 a (aC f)) q
    have u:=Jn (λa=>1+sz n a) (λa=>1+sz m a) x.2.2 t.2.2 j.2 λe a d f g=>by have:=key e a d f g;omega
    have v:=DS (λa=>eW n a) (λa=>eW m a) x.2.2 t.2.2 0 0 (iD _) j.2 λe a d f g=>(key e a d f g).2;simp only[sz,eW,if_pos i,if_pos j.1];omega
   ·cases h
  ·simp only[sz,eW,if_neg i];simp only[sz,eW]at s0 k;exact⟨s0,k⟩
theorem tF{n:Nat}{x:Tm n}:bm n x=0 ↔ bQ n x=true/\eW n x<=12/\sz n x<=200:=by
 rw[<-fS];unfold vv;constructor
 ·intro a;split at a
  ·rename_i c;split at a
   ·cases a
   ·rename_i f;exact⟨c,by omega,by omega⟩
  ·cases a
 ·rintro ⟨b,d,e⟩;rw[if_pos b,if_neg (by omega)]
def BJ(a:An):Prop:=bm a.1 a.2=0/\(bK a=6\/aF a.1 a.2=true)
theorem nA:tn BJ:=by
 intro n b a k c;obtain⟨l,d⟩:=k;obtain⟨g,h,i⟩:=tF.1 l;have f:av ⟨n+1,b⟩:=aG.2 g;have j:=eg (bu n b) (f (bu n b) (by simp[ar,bu]));have e:b.1.1=4:=by
  by_cases e:b.1.1=4
  ·exact e
  ·have:b.2.2=[]:=bD (j.2.2.2.2 e);rw[this]at c;cases c
 have o:=s9 (λa=>1+sz n a) (λa=>by have:=(ey n a).1;omega) b.2.2 a c;have m:=Ar (λa=>eW n a) b.2.2 0 a c;simp only[sz,eW,if_pos e]at h i;refine⟨tF.2 ⟨aG.1 (aN n b a f c),by simp only at m ⊢;omega,by simp only at o ⊢;omega⟩,af ?_⟩;rcases d with d|d
 ·simp only[bK]at d;omega
 ·exact(xx d).2.2 a c
theorem wP{D:Nat}{l:List (Tm D)}{c:List An}(g:∀y∈c,BJ y)(h:l.length=4)(n:c.length=4)(j:BK D l c):fO D l=true:=by
 unfold fO;rw[h];simp only[decide_true,dX,bX];intro y k;obtain⟨a,e⟩:=cM k;have i:a<c.length:=by have:=(aL.1 e).1;omega
 obtain⟨o,f,d,_⟩:=j a c[a] (aD i);rw[e]at f;obtain rfl:=aq f;obtain⟨m,b⟩:=g c[a] (jc _);unfold AD;rw[bH d,m,jR d,<-eT,co _ _ _ _ d];rcases b with b|b
 ·have:bK (⟨(c[a]).1,(c[a]).2⟩:An)=6:=b;rw[this];rfl
 ·rw[b];simp
theorem DQ{b:List An}{w1 w':World}{a:Option Addr}{c:Nat}{l:List (Tm (mm b))}(q:gn (mm b) (Bo b) w1 w' a c l)(j:∀y∈b,av y)(r:b.length=4):fe w'.heap.size w' (mm b) l a/\l.length=4/\BK (mm b) l b/\∀y∈l,av ⟨mm b,y⟩:=by
 obtain⟨E,F,G,H,A,f⟩:=q;have D:(Bo b).length=4:=by simp[Bo,r]
 have t:fe w'.heap.size w' (mm b) l a:=by
  rcases f with f|⟨B,o,p,C,v,f⟩
  ·exact ae f
  ·exact af ⟨B,o,p,v,λd y i=>⟨(f d y i).1,(f d y i).2.1⟩⟩
 have m:BK (mm b) l b:=by
  intro d e h;have g:d<l.length:=by have:=(aL.1 h).1;omega
  have z:(Bo b)[d]?=some (aK (mm b) e.1 e.2):=by simp[Bo,h]
  have x:=iV _ _ _ A d l[d] _ (aD g) z;have u:=eU (mm b) e.1 (yF b e (aC h)) e.2 (j e (aC h));have k:=bM _ _ _ _ _ _ x u;exact⟨l[d],aD g,k,aG.2 (by rw[iW _ _ _ _ k];exact aG.1 (j e (aC h)))⟩
 refine⟨t,by omega,m,λy i=>?_⟩;obtain⟨d,g⟩:=cM i;have s:d<b.length:=by have:=(aL.1 g).1;omega
 obtain⟨I,n,_,w⟩:=m d b[d] (aD s);rw[g]at n;obtain rfl:=aq n;exact w
def eN:Tm 1:=((6,0,.empty),(none,0),[])
theorem Mg(B:Nat)(w:World):In B w 1 eN:=⟨⟨by simp[eN,dh],by simp[eN,dh],aB _,by simp[eN],by simp[eN]⟩,ae rfl⟩
theorem Nr:bQ 1 eN=true:=by
 have:(ByteArray.empty).toList=[]:=by rw[bW];rfl
 simp[bQ,eN,cm,bu,this]
theorem d1(x:Tm 1)(a:x.1.1≠4):eW 1 x=0/\sz 1 x=0:=by simp[eW,sz,a]
theorem xu:bm 1 eN=0:=by
 rw[tF];have a:=d1 eN (by simp[eN]);exact⟨Nr,by rw[a.1];decide,by rw[a.2];decide⟩
theorem G5:fO 1 (List.replicate 4 eN)=true:=by
 have:AD 1 eN=true:=by
  unfold AD;rw[xu];rfl
 unfold fO;simp only[List.length_replicate,decide_true,dX,bX];intro b a;rw[List.eq_of_mem_replicate a];exact this
theorem Ax(w:World):ah 137 #[] w λe w'=>e=.returned (.slice (some ⟨w.heap.size,0,none⟩) 4 4)/\Hid (gn 1 (List.replicate 4 eN) w w' (some ⟨w.heap.size,0,none⟩) 4 (List.replicate 4 eN)):=by
 obtain⟨A,l,q,r,s⟩:=bO fR;go_enter Tryz.func137,Tryz.ntmps137;go_wp2_with (at_make;refine ke _ rfl _ _ 28 rfl w.heap.size 30 A _ 4 Tryz.underlying28 l q r _ _ _ _ 4 rfl rfl rfl rfl (by rw[s];omega) (by unfold maxLen;omega) (ai _) ?_;intro C p b);have i:=aj (qk 1 (List.replicate 4 eN) 4 p);have h:Hid (ag w C):=⟨b.os,b.tape,b.output,b.size,λk m=>b.block k m (by simp)⟩;clear p b l q r s;go_loopw [6] (λd wr=>∃k:Nat,k<=4/\d=.int .i64 k/\Hid (ag w wr/\tj 1 (List.replicate 4 eN) 4 w.heap.size k (List.replicate k eN) wr)) (λd _=>4-(intOf d).toNat)
 case atStart=>exact⟨0,by omega,rfl,h.out,i.out⟩
 case round=>
  obtain⟨k,m,rfl,a⟩:=hrel;clear i h;by_cases n:k<4
  ·have t:(List.replicate 4 eN)[k]?=some eN:=by rw[List.getElem?_replicate,if_pos n]
   have j:In wr.heap.size wr 1 eN:=Mg _ _;have o:bV (λf=>w.heap.size<f) 1 eN:=by simp[bV,eN]
   have y:=aj (a.out.2.step n eN t (ak _ _) eN j o (by simp[au,eN,az]));have v:Hid (ag w (iT wr w.heap.size (k*4) (fQ 1 eN))):=by
    have c:=a.out.1;exact⟨c.os,c.tape,c.output,aw c.size (dk (bf _ _ _ _).symm),λf z=>(aR (by omega) _ _ _ _).trans (c.block f z)⟩
   obtain⟨g,u⟩:∃g,((List.replicate k eN).map (λD=>(⟨1,D⟩:An))++List.replicate (4-k) zA)[k]?=some g:=⟨_,aD (by simp;omega)⟩;obtain⟨E,F,G,H⟩:=a.out.2.2.1.cells k g u;have I:=λB=>a.out.2.2.1.free B;have J:(0:Int)<=(k:Int):=by omega
   have K:(k:Int)<4:=by omega
   have L:(k:Int)<=4:=by omega
   clear t j o u a;go_wp2_with fail;go_roundw
   case rel=>
    refine⟨k+1,by omega,by go_num,v.out,?_⟩;have e:List.replicate (k+1) eN=List.replicate k eN++ [eN]:=List.replicate_succ';rw[e];exact y.out
   case measure=>simp[intOf];omega
  ·obtain rfl:k=4:=by omega
   have x:=aj (a.out.2.done rfl (by omega) a.out.1 (by unfold maxLen;omega));go_wp2_with fail
   go_ret
   exact⟨rfl,x.out⟩
structure bi (S:Nat->Prop) (w w':World):Prop where
 os:w'.os=w.os
 tape:w'.tape=w.tape
 output:w'.output=w.output
 size:w.heap.size<=w'.heap.size
 block:∀b,b<w.heap.size->¬S b->w'.heap[b]?=w.heap[b]?
theorem bi.refl(S:Nat->Prop)(w:World):bi S w w:=⟨rfl,rfl,rfl,ai _,λ_ _ _=>rfl⟩
theorem bi.trans{S T:Nat->Prop}{w w1 w2:World}(a:bi S w w1)(k:bi T w1 w2)(e:∀b,b<w.heap.size->T b->S b):bi S w w2:=
 ⟨k.os.trans a.os,k.tape.trans a.tape,k.output.trans a.output,aw a.size k.size,λb c d=>(k.block b (aJ c a.size) (λf=>d (e b c f))).trans (a.block b c d)⟩
theorem bi.mono{S T:Nat->Prop}{w w1:World}(a:bi S w w1)(d:∀b,b<w.heap.size->S b->T b):bi T w w1:=⟨a.os,a.tape,a.output,a.size,λb c e=>a.block b c λk=>e (d b c k)⟩
theorem aE{w w':World}(a:ag w w')(S:Nat->Prop):bi S w w':=⟨a.os,a.tape,a.output,a.size,λb c _=>a.block b c⟩
theorem dP{w w':World}{row:Option Nat}(a:w.grownBy w' row):bi (λb=>row=some b) w w':=⟨a.os,a.tape,a.output,a.size,λb c d=>a.block b c λe=>d e.symm⟩
theorem bt(w:World)(q o:Nat)(v:Value):bi (λb=>b=q) w (w.setCell ⟨q,o,none⟩ v):=
 ⟨rfl,rfl,rfl,by simp[World.setCell],λb _ c=>by
  have:q≠b:=λa=>c a.symm
  simp[World.setCell,bC,this]⟩
theorem bi.below{S:Nat->Prop}{w w':World}{B:Nat}(a:bi S w w')(e:B<=w.heap.size)(c:∀b,b<B->¬S b):Below B w w':=⟨a.os,a.tape,a.output,a.size,λb d=>a.block b (by omega) (c b d)⟩
theorem bi.cell{S:Nat->Prop}{w w':World}(a:bi S w w'){b:Nat}(o:Nat)(d:b<w.heap.size)(c:¬S b):w'.cell? ⟨b,o,none⟩=w.cell? ⟨b,o,none⟩:=by
 simp only[World.cell?,a.block b d c]
theorem aW{base:Nat}{e:TypeId}{sz:Nat}{v:Value}{n:Nat}{xs:List Value}{w w':World}{S:Nat->Prop}(c:w.ownsRow base e sz v n xs)(k:bi S w w')(h:∀b,v.ownBlock=some b->¬S b):w'.ownsRow base e sz v n xs:=by
 refine⟨c.1,?_⟩;rcases c.2 with⟨e,g⟩|⟨a,cap,f,e,i,d,j⟩
 ·exact ae ⟨e,g⟩
 ·exact af ⟨a,cap,f,e,i,(k.block a (aA.1 d).1 (h a (by rw[e];rfl))).trans d,j⟩
theorem dy.kee{S:Nat->Prop}{w w':World}(a:bi S w w'){b o:Nat}(d:b<w.heap.size)(c:¬S b):{n:Nat}->{x:Tm n}->dy w b o n x->dy w' b o n x
 | 0,_,k=>k
 | _+1,_,k=>by
  obtain⟨e,f,g,h⟩:=k;exact⟨(a.cell _ d c).trans e,(a.cell _ d c).trans f,(a.cell _ d c).trans g,(a.cell _ d c).trans h⟩
theorem In.kee{S:Nat->Prop}{w w':World}(d:bi S w w'):{n:Nat}->{x:Tm n}->In w.heap.size w n x->bV (λb=>¬S b) n x->In w'.heap.size w' n x
 | 0,_,k,_=>k
 | _+1,x,k,o=>by
  obtain⟨p,a⟩:=k;refine⟨p,?_⟩;rcases a with a|⟨b,f,e,h,a⟩
  ·exact ae a
  ·rcases o with o|⟨q,r,c,m,o⟩
   ·exact ae o
   ·rw[e]at c;injection c with c;injection c with j l;subst j l;exact af ⟨b,f,e,aJ h d.size,λi y g=>⟨(a i y g).1.kee d h m,(a i y g).2.kee d (o i y g)⟩⟩
/-! ### the keys -/
theorem xZ:WideMaps.ArrKey Tryz.prog 164 3 2:=⟨Tryz.underlying164,by kernel_rfl,by kernel_rfl,by kernel_rfl⟩
theorem eK:Keyed Tryz.prog 164:=Keyed.of_law xZ.law
theorem Ds:∃m,Tryz.prog.types.size=m+1:=by
 have a:(Tryz.prog.types.size==0)=false:=by kernel_rfl
 have b:Tryz.prog.types.size≠0:=f9.1 a;exact⟨Tryz.prog.types.size-1,by omega⟩
def pk(k:Int×Int):Value:=.agg #[.int .i64 k.1,.int .i64 k.2]
def kl(k:Int×Int):Lit:=.string (keyBytes [.int .i64 k.1,.int .i64 k.2])
def I2(k:Int×Int):Prop:=dh k.1/\dh k.2
theorem LM{a:Int}(b:dh a):(Lit.int .i64 a).wf=true:=gY (by unfold dh at b;omega)
theorem fp{k:Int×Int}(a:I2 k):keyOf Tryz.prog 164 (pk k)=some (kl k):=WideMaps.keyOf_pair xZ Tryz.underlying3 Ds (LM a.1) (LM a.2)
theorem px{k b:Int×Int}(c:I2 k)(d:I2 b)(e:kl k=kl b):k=b:=by
 have a:=eK.inj (fp c) (e▸fp d);simp only[pk,Value.agg.injEq,Array.mk.injEq,List.cons.injEq,Value.int.injEq,true_and,and_true]at a;exact gX a.1 a.2
def qH(v:Value):Option (DataW Value×List MemPlace):=some (.held v,[])
def gH{a:Type}(f:Int×Int->a)(k:Int×Int)(x:a):Int×Int->a:=λj=>if j=k then x else f j
theorem cD{a:Type}(f:Int×Int->a)(k:Int×Int)(x:a):gH f k x k=x:=if_pos rfl
theorem bJ{a:Type}(f:Int×Int->a){k j:Int×Int}(x:a)(b:j≠k):gH f k x j=f j:=if_neg b
def lK:Value:=.slice none 0 0
def dc(N:Nat)(l:List (Tm N)):List Value:=ch (l.map (fQ N))
theorem oW(N:Nat)(l:List (Tm N)):(dc N l).length=l.length*4:=by simp[dc,nw]
theorem oV(N:Nat)(l r:List (Tm N)):dc N (l++r)=dc N l++dc N r:=by simp[dc,ut]
def ng(base N:Nat)(v:Value)(l:List (Tm N))(w:World):Prop:=w.ownsRow base 30 4 v l.length (dc N l)
structure GM (base mb n N:Nat) (f:Int×Int->List (Tm N)) (sl:Int×Int->Value) (w:World):Prop where
 lo:base<=mb
 map:∃D,w.ownsMap Tryz.prog 164 qH mb n D/\(∀k,I2 k->D.atKey (kl k) (.held lK)=.held (sl k))/\∀x,has D x=true ↔∃k,I2 k/\x=kl k/\f k≠[]
 row:∀k,I2 k->ng base N (sl k) (f k) w
 apart:∀k j,I2 k->I2 j->k≠j->∀b,(sl k).ownBlock=some b->(sl j).ownBlock≠some b
def LI(a:Nat)(sl:Int×Int->Value)(b:Nat):Prop:=b=a\/∃k,I2 k/\(sl k).ownBlock=some b
theorem dQ{w:World}{base:Nat}{e:TypeId}{sz:Nat}{v:Value}{n:Nat}{xs:List Value}(d:w.ownsRow base e sz v n xs)(b:Nat)(c:v.ownBlock=some b):∃a,w.heap[b]?=some (.cells a e (0,0)):=by
 rcases d.2 with⟨rfl,_⟩|⟨g,cap,a,rfl,_,f,_⟩
 ·simp[Value.ownBlock]at c
 ·simp[Value.ownBlock]at c;subst c;exact⟨a,f⟩
variable {base mb n N:Nat} {f:Int×Int->List (Tm N)} {sl:Int×Int->Value} {w:World}
theorem GM.lt(a:GM base mb n N f sl w)(b:Nat)(c:LI mb sl b):base<=b/\b<w.heap.size:=by
 rcases c with rfl|⟨k,e,c⟩
 ·obtain⟨g,d,_⟩:=a.map;exact⟨a.lo,d.lt⟩
 ·exact(a.row k e).lt b c
theorem GM.ne(a:GM base mb n N f sl w){k:Int×Int}(g:I2 k):(sl k).ownBlock≠some mb:=by
 intro d;obtain⟨c,b⟩:=dQ (a.row k g) mb d;obtain⟨h,⟨es,i,e,_⟩,_⟩:=a.map;rw[e]at b;cases b
theorem GM.kee{S:Nat->Prop}{w':World}(a:GM base mb n N f sl w)(k:bi S w w')(e:∀b,LI mb sl b->¬S b):GM base mb n N f sl w':=by
 refine⟨a.lo,?_,λh g=>aW (a.row h g) k λb c=>e b (af ⟨h,g,c⟩),a.apart⟩;obtain⟨i,d,l⟩:=a.map;refine⟨i,?_,l⟩;have m:=d.lt;obtain⟨es,j,c,o⟩:=d;exact⟨es,j,(k.block mb m (e mb (ae rfl))).trans c,o⟩
theorem GM.mono(b:GM base mb n N f sl w){m:Nat}(i:n<=m):GM base mb m N f sl w:=by
 obtain⟨c,⟨a,d,e⟩,g,h⟩:=b;exact⟨c,⟨a,d.mono i,e⟩,g,h⟩
theorem GM.new(w:World)(N:Nat):GM w.heap.size w.heap.size 0 N (λ_=> []) (λ_=>lK) (w.alloc (.map #[] 0)):=
 ⟨ai _,⟨.map [],oG w _ _ _,λk _=>by simp[DataW.atKey],λe=>⟨λa=>by simp[has]at a,λ⟨k,_,_,a⟩=>absurd rfl a⟩⟩,
  λk _=>⟨by simp[dc,ch],ae ⟨rfl,rfl⟩⟩,λk d _ _ _ b c=>by simp[lK,Value.ownBlock]at c⟩
theorem ng.rebase{a:Nat}{v:Value}{l:List (Tm N)}(b:ng base N v l w)(c:a<=base):ng a N v l w:=qE b c
theorem GM.rebase{b:Nat}(a:GM base mb n N f sl w)(c:b<=base):GM b mb n N f sl w:=
 ⟨aw c a.lo,a.map,λk d=>(a.row k d).rebase c,a.apart⟩
theorem IY{v:Value}{d:DataW Value}{ps:List MemPlace}(a:qH v=some (d,ps)):d=.held v:=by
 unfold qH at a;injection a with a;injection a with b c;exact b.symm
theorem qT(w:World):(zeroValue 28).run Tryz.prog w=.ok (.slice none 0 0) w:=by kernel_rfl
theorem GM.look(d:GM base mb n N f sl w){k:Int×Int}(b:I2 k):(Instr.lookup 63 (.map (some mb)) (pk k) false).run Tryz.prog w=.ok (sl k) w:=by
 obtain⟨i,e,g,_⟩:=d.map;obtain⟨j,ps,h,c⟩:=e.lookup eK Tryz.underlying63 (qT w) (zd:=.held lK) (zp:=[]) rfl (fp b);rw[g k b]at c;have a:=IY c;injection a with a;rw[h,a]
theorem Fr(w:World){k:Int×Int}(b:I2 k):(Instr.lookup 63 (.map none) (pk k) false).run Tryz.prog w=.ok (.slice none 0 0) w:=by
 have a:=look_nil (P:=Tryz.prog) (w:=w) false eK Tryz.underlying63 (qT w) (fp b);simpa using a
theorem EA{D:DataW Value}(f:IsMap D){k j:Int×Int}(e:I2 k)(b:I2 j)(v:Value)(c:DataW Value):(D.put (kl k) (.held v)).atKey (kl j) c=if j=k then .held v else D.atKey (kl j) c:=by
 by_cases a:j=k
 ·subst a;rw[if_pos rfl,atKey_put_same f (eK.key (fp b))]
 ·rw[if_neg a,atKey_put_other λd=>a (px b e d)]
theorem GM.put_of(h:GM base mb n N f sl w){k:Int×Int}(i:I2 k){w1 w2:World}(E:bi (λb=>b=mb\/(sl k).ownBlock=some b) w w1){v:Value}{l:List (Tm N)}(H:l≠[])(J:ng base N v l w1)(y:∀b,v.ownBlock=some b->(sl k).ownBlock=some b\/w.heap.size<=b)(x:bi (λb=>b=mb) w1 w2)(K:∀D,w.ownsMap Tryz.prog 164 qH mb n D->w2.ownsMap Tryz.prog 164 qH mb (n+1) (D.put (kl k) (.held v))):GM base mb (n+1) N (gH f k l) (gH sl k v) w2:=by
 obtain⟨D,j,C,t⟩:=h.map;have M:=j.lt;have I:∀b,v.ownBlock=some b->b≠mb:=λb e a=>by
  subst a;rcases y b e with a|a
  ·exact h.ne i a
  ·omega
 have z:∀c,I2 c->c≠k->∀b,(sl c).ownBlock=some b->v.ownBlock≠some b:=λc d G b e L=>by
  rcases y b L with a|a
  ·exact h.apart c k d i G b e a
  ·have:=((h.row c d).lt b e).2;omega
 refine⟨h.lo,⟨_,K D j,λc d=>?_,λB=>?_⟩,λc d=>?_,λp c u d o b=>?_⟩
 ·rw[EA j.isMap i d];unfold gH;split
  ·rfl
  ·exact C c d
 ·constructor
  ·intro A;by_cases a:B=kl k
   ·exact⟨k,i,a,by rw[cD];exact H⟩
   ·rw[has_put_other a]at A;obtain⟨c,d,s,m⟩:=(t B).1 A;refine⟨c,d,s,?_⟩;rw[bJ _ _ λg=>a (by rw[s,g])];exact m
  ·rintro ⟨c,d,rfl,m⟩;by_cases a:c=k
   ·rw[a,has_put_same j.isMap (eK.key (fp i))]
   ·rw[has_put_other λg=>a (px d i g)];rw[bJ _ _ a]at m;exact(t _).2 ⟨c,d,rfl,m⟩
 ·by_cases a:c=k
  ·subst a;rw[cD,cD];exact aW J x λb e a=>I b e a
  ·rw[bJ _ _ a,bJ _ _ a];refine aW (aW (h.row c d) E λb e g=>?_) x λb e g=>h.ne d (by rw[e,g]);rcases g with g|g
   ·exact h.ne d (by rw[e,g])
   ·exact h.apart c k d i a b e g
 ·by_cases q:p=k
  ·subst q;rw[cD,bJ _ _ λa=>o a.symm];exact λe F=>z c d (λa=>o a.symm) b F e
  ·rw[bJ _ _ q];by_cases r:c=k
   ·subst r;rw[cD];exact λe=>z p u o b e
   ·rw[bJ _ _ r];exact h.apart p c u d o b
theorem iw{w2:World}(a:w.mapTurned w2 mb):bi (λb=>b=mb) w w2/\w2.heap.size=w.heap.size:=by
 refine⟨(dP a.grown).mono λb _ c=>(aq c).symm,?_⟩;obtain⟨_,_,_,_,_,rfl⟩:=a;simp[ChangeMaps.setBlock]
theorem GM.store(g:GM base mb n N f sl w){k:Int×Int}(h:I2 k){w1:World}(i:bi (λb=>(sl k).ownBlock=some b) w w1){v:Value}{l:List (Tm N)}(x:l≠[])(A:ng base N v l w1)(y:∀b,v.ownBlock=some b->(sl k).ownBlock=some b\/w.heap.size<=b)(F:n<1000000):∃w2,(Instr.mapUpdate 63 (.map (some mb)) (pk k) v).run Tryz.prog w1=.ok () w2/\GM base mb (n+1) N (gH f k l) (gH sl k v) w2/\bi (λb=>b=mb) w1 w2/\w2.heap.size=w1.heap.size:=by
 have p:∀a,w.ownsMap Tryz.prog 164 qH mb n a->∃w2,(Instr.mapUpdate 63 (.map (some mb)) (pk k) v).run Tryz.prog w1=.ok () w2/\w2.ownsMap Tryz.prog 164 qH mb (n+1) (a.put (kl k) (.held v))/\w1.mapTurned w2 mb:=by
  intro a c;have z:=c.lt;have t:w1.ownsMap Tryz.prog 164 qH mb n a:=by
   obtain⟨es,r,u,C⟩:=c;exact⟨es,r,(i.block mb z (g.ne h)).trans u,C⟩
  exact t.store (d:=.held v) (ps:=[]) eK Tryz.underlying63 (by unfold maxLen;omega) (fp h) rfl
 obtain⟨a,c,_⟩:=g.map;obtain⟨w2,m,_,E⟩:=p a c;obtain⟨j,D⟩:=iw E;refine⟨w2,m,g.put_of h (i.mono λb _ e=>af e) x A y j (λq s=>?_),j,D⟩;obtain⟨G,o,B,_⟩:=p q s;rw[m]at o;injection o with _ e;rw[e];exact B
theorem GM.entry(s:GM base mb n N f sl w){k:Int×Int}(g:I2 k)(ak:n<1000000):∃(q:Nat)(w1:World),(Instr.mapEntry 63 (.map (some mb)) (pk k)).run Tryz.prog w=.ok (.tuple #[sl k,goInt q]) w1/\bi (λb=>b=mb) w w1/\w1.heap.size=w.heap.size/\ ∀(w2:World)(v:Value)(l:List (Tm N)),w2.heap[mb]?=w1.heap[mb]? ->bi (λb=>b=mb\/(sl k).ownBlock=some b) w w2->l≠[]->ng base N v l w2->(∀b,v.ownBlock=some b->(sl k).ownBlock=some b\/w.heap.size<=b)-> ∃i,(Instr.entryStore 63 (.map (some mb)) (goInt q) v).run Tryz.prog w2=.ok () i/\GM base mb (n+1) N (gH f k l) (gH sl k v) i/\bi (λb=>b=mb) w2 i/\i.heap.size=w2.heap.size:=by
 obtain⟨I,t,aj,_⟩:=s.map;obtain⟨es,r,c,j,Z,P⟩:=t;have t:w.ownsMap Tryz.prog 164 qH mb n I:=⟨es,r,c,j,Z,P⟩;obtain⟨ah,q,o,m,X,H,aa⟩:=WideElems.entry_then_store (e:=28) xZ.law Tryz.underlying63 qT c j (fp g);have K:ah=sl k:=by
  have x:=s.look g;obtain⟨am,ps,Y,al⟩:=t.lookup eK Tryz.underlying63 (qT w) (zd:=.held lK) (zp:=[]) rfl (fp g);rw[x]at Y;rcases Maps.fit_look false eK Tryz.underlying63 (qT w) c j (fp g)with⟨a,z,_⟩|⟨L,an,E,p,a,_⟩
  ·rw[x]at a;injection a with a _;rcases H with⟨B,y,h,_⟩|⟨_,rfl⟩
   ·exact absurd h (z B y)
   ·exact a.symm
  ·rw[x]at a;injection a with a _;rcases H with⟨B,y,h,rfl⟩|⟨z,_⟩
   ·have:=entry_eq_of_key ((MapKept.stamped_iff es r).1 j.stamped).2.2 E y (p.trans h.symm);simp at a;rw[a,this]
   ·exact absurd p (z L E)
 subst K;have ab:w.mapTurned (ChangeMaps.setBlock w mb (.map o m)) mb:=⟨es,r,o,m,c,rfl⟩;obtain⟨p,af⟩:=iw ab;refine⟨q,_,X,p,af,λw2 v l ae Q R T S=>?_⟩;have u:w2.heap[mb]?=some (.map o m):=ae.trans (rO c _);obtain⟨C,A,U,V⟩:=aa w2 v u;have ad:w2.mapTurned (ChangeMaps.setBlock w2 mb (.map C A)) mb:=⟨o,m,C,A,u,rfl⟩;obtain⟨h,ag⟩:=iw ad;refine⟨_,U,s.put_of g Q R T S h (λai O=>?_),h,ag⟩;obtain⟨i,G,F,_⟩:=O.store (d:=.held v) (ps:=[]) eK Tryz.underlying63 (by unfold maxLen;omega) (fp g) rfl;rw[V]at G;injection G with _ e;rw[<-e]at F;obtain⟨M,J,D,W⟩:=F;rw[rO c]at D;exact⟨M,J,(rO u _).trans D,W⟩
theorem GM.drop(h:GM base mb n N f sl w){k:Int×Int}(l:I2 k)(ty:TypeId):∃w2,(Builtin.delete_ #[63,164] ty #[.map (some mb),pk k]).run Tryz.prog w=.ok (.tuple #[]) w2/\GM base mb n N (gH f k []) (gH sl k lK) w2/\bi (λb=>b=mb) w w2/\w2.heap.size=w.heap.size:=by
 obtain⟨D,u,v,q⟩:=h.map;obtain⟨w2,A,z,C⟩:=u.drop eK Tryz.underlying63 (fp l) ty;obtain⟨r,B⟩:=iw C;refine⟨w2,A,⟨h.lo,⟨_,z,λc d=>?_,λt=>?_⟩,λc d=>?_,λs c x d y b=>?_⟩,r,B⟩
 ·by_cases a:c=k
  ·subst a;rw[cD,atKey_del_same]
  ·rw[bJ _ _ a,atKey_del_other λe=>a (px d l e)];exact v c d
 ·constructor
  ·intro j;by_cases a:t=kl k
   ·rw[a,has_del_same]at j;cases j
   ·rw[has_del_other a]at j;obtain⟨c,d,p,g⟩:=(q t).1 j;refine⟨c,d,p,?_⟩;rw[bJ _ _ λe=>a (by rw[p,e])];exact g
  ·rintro ⟨c,d,rfl,g⟩;by_cases a:c=k
   ·rw[a,cD]at g;exact absurd rfl g
   ·rw[has_del_other λe=>a (px d l e)];rw[bJ _ _ a]at g;exact(q _).2 ⟨c,d,rfl,g⟩
 ·by_cases a:c=k
  ·subst a;rw[cD,cD];exact⟨by simp[dc,ch],ae ⟨rfl,rfl⟩⟩
  ·rw[bJ _ _ a,bJ _ _ a];exact aW (h.row c d) r λb i e=>h.ne d (by rw[i,e])
 ·by_cases m:s=k
  ·subst m;rw[cD];intro i;simp[lK,Value.ownBlock]at i
  ·rw[bJ _ _ m];by_cases o:c=k
   ·subst o;rw[cD];intro _ i;simp[lK,Value.ownBlock]at i
   ·rw[bJ _ _ o];exact h.apart s c x d y b
theorem vo{P:Program}(w:World)(t ty e:TypeId)(i:TypeInfo)(x:P.underlying t=some (.slice e))(r:P.info? e=some i)(g d k:Nat)(f:Array Value)(q:w.heap[g]?=some (.cells f e (0,0)))(a:Addr)(m c:Nat)(b:List Value)(s:b.length=m*i.size)(u:∀j h,b[j]?=some h->w.cell? (a.add j)=some h)(n:∀h∈b,h.oneCell'=true)(v:d+m<=k)(p:d*i.size+b.length<=f.size):(Builtin.append_ #[t,t] ty #[.slice (some ⟨g,0,none⟩) d k,.slice (some a) m c]).run P w= .ok (.slice (some ⟨g,0,none⟩) (d+m) k) (w.setRow g (f.toList.take (d*i.size)++b++f.toList.drop (d*i.size+b.length)).toArray):=by
 have o:=run_firstCells_some (P:=P) w i.size m a m c b s u;have l:=oI P g (d*i.size) e b 0 f w q (by simpa using p) n;simp only[iI]at l;simp[Builtin.append_,cd x,sizeOf,typeInfo,r,Builtin.lenOf,v,o,ez,l]
theorem Ff:(Tryz.prog.info? 30).map (λi=>(i.zero,i.size,i.bytes))=some (some (.agg #[.int .i64 0,.int .i64 0,.string ⟨#[]⟩,.slice none 0 0]),4,56):=by kernel_rfl
def o8:List Value:=[.int .i64 0,.int .i64 0,.string ⟨#[]⟩,.slice none 0 0]
theorem vq(w:World)(ty:TypeId)(g o c:Nat)(a:Array Value)(e:w.heap[g]?=some (.cells a 30 (0,0)))(d:o+4<=a.size):(Builtin.clear_ #[28] ty #[.slice (some ⟨g,o,none⟩) 1 c]).run Tryz.prog w=.ok (.tuple #[]) (w.setRow g (a.toList.take o++o8++a.toList.drop (o+4)).toArray):=by
 have b:=oI Tryz.prog g o 30 o8 0 a w e (by simpa [o8]using d) (by simp[o8,Value.oneCell']);have h:(Builtin.zeroCells (Value.agg #[.int .i64 0,.int .i64 0,.string ⟨#[]⟩,.slice none 0 0]).cells 1).toList=o8:=by
  simp[Builtin.zeroCells,Value.cells,o8];rfl
 simp only[iI]at b;have f:o8.length=4:=rfl;rw[f]at b;simp[Builtin.clear_,cd Tryz.underlying28,h,b]
theorem Jg(w:World)(g L c:Nat)(b:L<=c)(d:1<=L):(Instr.slice 28 (.slice (some ⟨g,0,none⟩) L c) (some (.int .i64 0)) (some (.int .i64 1)) (some (.int .i64 L))).run Tryz.prog w=.ok (.slice (some ⟨g,0,none⟩) 1 L) w:=by
 have a:(1:Int)<=(L:Int):=by omega
 simp[Instr.slice,cd Tryz.underlying28,Instr.sliceBounds,Instr.sliceBound,asIntOf,a,b,go_sem]
theorem C3(w:World)(g L c:Nat):(Instr.slice 28 (.slice (some ⟨g,0,none⟩) L c) none (some (.int .i64 0)) none).run Tryz.prog w=.ok (.slice (some ⟨g,0,none⟩) 0 c) w:=by
 simp[Instr.slice,cd Tryz.underlying28,Instr.sliceBounds,Instr.sliceBound,asIntOf,go_sem]
theorem C4(w:World)(g L c:Nat)(d:L<=c)(e:2<=L):(Instr.slice 28 (.slice (some ⟨g,0,none⟩) L c) (some (.int .i64 1)) none none).run Tryz.prog w=.ok (.slice (some ⟨g,4,none⟩) (L-1) (c-1)) w:=by
 have a:(1:Int)<=(L:Int):=by omega
 have b:¬c=1:=by omega
 simp[Instr.slice,cd Tryz.underlying28,Instr.sliceBounds,Instr.sliceBound,asIntOf,a,b,go_sem,ez]
theorem C0(w:World)(g m c:Nat)(e:m+1<=c):(Instr.slice 28 (.slice (some ⟨g,0,none⟩) m c) (some (.int .i64 m)) (some (.int .i64 ((m:Int)+1))) none).run Tryz.prog w=.ok (.slice (some ⟨g,m*4,none⟩) 1 (c-m)) w:=by
 have a:¬c=m:=by omega
 have b:(m:Int)+1<=(c:Int):=by omega
 have d:(0:Int)<=(m:Int)+1:=by omega
 simp[Instr.slice,cd Tryz.underlying28,Instr.sliceBounds,Instr.sliceBound,asIntOf,a,b,d,go_sem,ez]
theorem sP{w w':World}{v x' c:Value}{b:Array Oper}{o:Oper}{a:Act}{K:Act->World->Prop}{Q:Exit->Act->World->Prop}{E:Prop}(e:o.guard=none)(s x:Operand)(f:o.op=.call {callee:=.builtin .append,args:= #[s,x],argTypes:= #[28,28]})(h:a.eval s=v)(j:a.eval x=x')(g:(Builtin.append_ #[28,28] o.type #[v,x']).run Tryz.prog w=.ok c w')(d:K (a.put o.dst c) w'):if Region.wanted o (yielded b a.tmps)=true then Oper.wp Tryz.prog o a w K Q else E:=by
 have i:Region.wanted o (yielded b a.tmps)=true:=by simp[Region.wanted,e]
 rw[if_pos i];unfold Oper.wp execOp;simp only[f,resolve,invoke,builtin,Sem.run_bind,Sem.run_pure,mj,l7,aH,bS,h,j,g];exact d
theorem ab{w:World}{g:Nat}{a:Array Value}{e:TypeId}(b:w.heap[g]?=some (.cells a e (0,0)))(j:Nat):w.cell? ⟨g,j,none⟩=a.toList[j]? :=by
 simp[World.cell?,b]
theorem BY{N:Nat}(base g c m:Nat)(y:Tm N)(l:List (Tm N))(w:World)(j:l.length=m)(C:ng base N (.slice (some ⟨g,0,none⟩) (m+1) c) (y::l) w)(D:l≠[]):ah 77 #[.slice (some ⟨g,0,none⟩) ((m:Nat)+1) c,.int .i64 0,.int .i64 1] w λe w'=>e=.returned (.slice (some ⟨g,0,none⟩) m c)/\ng base N (.slice (some ⟨g,0,none⟩) m c) l w'/\w.grownBy w' (some g)/\w'.heap.size=w.heap.size:=by
 obtain⟨R,K,Z,O,aa⟩:=bO Ff;have Y:0<m:=by
  rw[<-j];exact List.length_pos_iff.2 D
 obtain⟨E,F⟩:=C;rcases F with⟨e,_⟩|⟨V,cap,d,e,J,r,H,I,u,t⟩
 ·cases e
 ·injection e with i A B;injection i with i;injection i with i _;subst i B;simp only[aV,j]at E H t A;have q:d.toList.length=c*4:=by rw[gS,u]
  have M:d.toList.take ((m+1)*4)=dc N [y]++dc N l:=by
   rw[t,<-oV];rfl
  have S:(dc N [y]).length=4:=by rw[oW];rfl
  have f:(dc N l).length=m*4:=by rw[oW,j]
  have z:Hid (∀a:World,a.heap[g]?=some (.cells d 30 (0,0))->∀n o,(dc N l)[n]?=some o->a.cell? ((⟨g,4,none⟩:Addr).add n)=some o):=by
   intro a h n o s;have X:=(aL.1 s).1;rw[ez,ab h];have e:(d.toList.take ((m+1)*4))[4+n]?=some o:=by
    rw[M,dZ (by omega),S,Nat.add_sub_cancel_left];exact s
   rw[jY]at e;split at e
   ·exact e
   ·cases e
  have v:Hid (∀(a:World)(ty:TypeId),a.heap[g]?=some (.cells d 30 (0,0))->(Builtin.append_ #[28,28] ty #[.slice (some ⟨g,0,none⟩) 0 c,.slice (some ⟨g,4,none⟩) m (c-1)]).run Tryz.prog a=
   .ok (.slice (some ⟨g,0,none⟩) m c) (a.setRow g (dc N l++d.toList.drop (m*4)).toArray)):=by
   intro a ty h;have p:=vo (P:=Tryz.prog) a 28 ty 30 R Tryz.underlying28 K g 0 c d h ⟨g,4,none⟩ m (c-1) (dc N l) (by rw[f,O]) (z.out a h) (sf _) (by omega) (by rw[f,u];omega);simpa [f]using p
  have x:Hid (∀(a:World)(ty:TypeId),a.heap[g]?=some (.cells (dc N l++d.toList.drop (m*4)).toArray 30 (0,0))->(Builtin.clear_ #[28] ty #[.slice (some ⟨g,m*4,none⟩) 1 (c-m)]).run Tryz.prog a=
   .ok (.tuple #[]) (a.setRow g (dc N l++o8++d.toList.drop ((m+1)*4)).toArray)):=by
   intro a ty h;have p:=vq a ty g (m*4) (c-m) _ h (by simp only[eR,aY,eC,f,q];omega);rw[p];refine congrArg (λU=>Result.ok (Value.tuple #[]) (a.setRow g (List.toArray U))) ?_;rw[oD,jg (by omega),bw (by omega),List.drop_append,ov (by omega),f,List.drop_drop,l9];rw[show m*4+(m*4+4-m*4)=(m+1)*4 by omega]
  have G:=v.out w.drew 28 r;have HB:Hid ((w.drew.setRow g (dc N l++d.toList.drop (m*4)).toArray).heap[g]?=some (.cells (dc N l++d.toList.drop (m*4)).toArray 30 (0,0))):=setRow_heap w.drew g d _ _ _ r;have W:=λty:TypeId=>x.out _ ty HB.out;have ad:=λa:World=>Jg a g (m+1) c (by omega) (by omega);have ae:=λa:World=>C3 a g (m+1) c;have T:=λa:World=>C4 a g (m+1) c (by omega) (by omega);have ag:=λa:World=>C0 a g m c (by omega);rw[eD]at T;go_enter Tryz.func77,Tryz.ntmps77;go_wp2_with fail;go_region_held3 (λ_=>True) (trivial) ((first|(refine sP rfl _ _ rfl (by simp[Act.eval]) (by simp[Act.eval]) G ?_)));go_wp2_with fail
  go_ret
  have k:∀b,b≠g->((w.drew.setRow g (dc N l++d.toList.drop (m*4)).toArray).setRow g (dc N l++(o8++d.toList.drop ((m+1)*4))).toArray).heap[b]?=w.heap[b]? :=λb k=>(setRow_other _ _ _ _ k).trans (setRow_other _ _ _ _ k);refine⟨rfl,⟨by rw[f,j],af ⟨g,c,_,by rw[j],J,setRow_heap _ _ _ _ _ _ HB.out,by omega,I,?_,?_⟩⟩,⟨rfl,rfl,rfl,by simp,λb _ L=>k b λe=>L (by rw[e])⟩,by simp⟩
  ·have Q:o8.length=4:=rfl;simp only[eR,aY,eC,f,q,Q];omega
  ·rw[oD,jg (by omega),bw (by omega)]
end Go.Proofs.YtckamaoibonjcaaGreat
