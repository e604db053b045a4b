/- Proved here: plain facts and contracts. No condition but what each names. -/
import Derived.Test.YtmmahddlcldmiaaGreatJ11
import Derived.Lib.SliceRun
import Derived.Deep.RegionLaw
import Derived.Laws.CopyRow
namespace Go.Proofs.YtmmahddlcldmiaaGreat
open Go.RowKit Tryz
set_option maxHeartbeats 2000000
set_option maxRecDepth 100000
def wG(N:Nat):Tm (N+1):=bT 0 0 N
def Ax(N:Nat)(E:Int)(o:Option (Tm (N+1)))(w:ag)(e:Ending)(w':ag):Prop:=
 ∃a:Tm (N+1),e=.returned (.tuple #[dw (N+1) a,ab (FA E (nZ E o))])/\Hid (ak w w'/\In w'.heap.size w' (N+1) a/\cr (λb=>w.heap.size<=b) (N+1) a/\aB (N+1) a (N+1) ((nZ E o).getD (wG N))=true)
variable{y:An}{bd:Bool}{i E self:Int}{b c:List An}{l B N base g k m n:Nat}{h:Type}{T:TypeId}{w w' w0 w1 w2 wr:ag}{j q r s v:av}{a:aw}{f:h->List av}{d:(Nat->Prop)->h->Prop}{xs:List h}{e:Nat->ag->h->Prop}
theorem pe{o:Option (Tm (N+1))}{u:Int}(b:ak w w')(a:nZ E o=none)(c:u=FA E (nZ E o)):Ax N E o w (.returned (.tuple #[.agg #[ab 0,ab 0,af .empty,ae none 0 0],ab u])) w':=by
 refine⟨wG N,by rw[c];rfl,b,(lA N 0 0 jz jz _ _ (λ_=>True)).1,(lA N 0 0 jz jz 0 w _).2,?_⟩;rw[a];exact xy N 0 0
theorem MU{o:Option (Tm (N+1))}{a:Tm (N+1)}{j:ag}{y:Tm (N+1)}{q:Nat}(e:E=0)(n:o=some a)(l:bE (N+1) a=0)(f:ak w w1)(p:w.heap.size<=q)(t:q<w1.heap.size)(h:ak w1 w2)(r:In w2.heap.size w2 (N+1) y)(i:cr (λq=>w1.heap.size<=q) (N+1) y)(s:aB (N+1) y (N+1) a=true)(c:ak w2 j)(v0 v1 v2 v3:av):Ax N E o w (.returned (.tuple #[.agg #[ab y.1.1,ab y.1.2.1,af y.1.2.2,ae y.2.1.1 y.2.2.length y.2.1.2],ab 0])) (di j q 0 v0 v1 v2 v3):=by
 have g:=f.size;have k:=(f.trans (h.mono g)).trans (c.mono (aD g h.size));have d:nZ E o=some a:=by simp[nZ,e,n,l]
 refine⟨y,by rw[d];simp[FA,e,dw],dj k p _ _ _ _,?_,i.mono λb m=>by omega,by rw[d];exact s⟩;rw[bA];exact In.off (P:=λb=>w1.heap.size<=b) (λb m=>bj (by omega) _ _ _ _) i ((r.below c).mono c.size)
theorem Ca(a:FB i bd self=0):i=0/\bd=true/\1<=self/\self<=99:=by
 unfold FB at a;split at a
 ·split at a
  ·split at a
   ·rename_i b c d;exact⟨b,c,d⟩
   ·cases a
  ·cases a
 ·rename_i b;exact absurd a b
theorem IH{b:List (Tm m)}{x:Tm (n+1)}{a:Tm (m+n+1)}(c:bE (n+1) x=0)(d:gn m b=true)(h:vl m b self (n+1) x=some a):(aC (m+n+1) a).length<=2097152:=by
 have f:=oe c;have e:=CE m b self 201 (by omega) (λi g=>oe ((im d).2 i g).1) (n+1) x a h;have:201*(aC (n+1) x).length<=201*201:=Nat.mul_le_mul_left 201 f;exact aD e (by omega)
theorem uo(w:ag)(a b c d:av)(t1 t2:TypeId):ak w ((w.alloc (.cells #[a,b,c,d] t1)).alloc (.cells #[ab 0,ab 0,af .empty,ae none 0 0] t2))/\nV (w.heap.size+1) ((w.alloc (.cells #[a,b,c,d] t1)).alloc (.cells #[ab 0,ab 0,af .empty,ae none 0 0] t2)):=by
 refine⟨((aq _ _).alloc (ao _) _).alloc (by simp) _,⟨?_,?_,?_,?_⟩,⟨?_,?_,?_,?_⟩,?_⟩<;>simp[go_sem]
theorem EE{y0 y1 y2 b:av}{t1 t2:TypeId}(c:Below ((w.alloc (.cells #[j,q,r,s] t1)).alloc (.cells #[y0,y1,y2,b] t2)).heap.size ((w.alloc (.cells #[j,q,r,s] t1)).alloc (.cells #[y0,y1,y2,b] t2)) w'):w'.cell? ⟨w.heap.size,0,none⟩=some j/\w'.cell? ⟨w.heap.size,1,none⟩=some q/\w'.cell? ⟨w.heap.size,2,none⟩=some r/\w'.cell? ⟨w.heap.size,3,none⟩=some s:=by
 have a:=λo=>c.cell (p:=⟨w.heap.size,o,none⟩) (by simp;omega);exact⟨(a 0).trans (by simp[go_sem]),(a 1).trans (by simp[go_sem]),(a 2).trans (by simp[go_sem]),(a 3).trans (by simp[go_sem])⟩
theorem Cb(N:Nat)(o:Option (Tm (N+1)))(a:aw)(Y c:Nat)(self:Int)(ai aj:Int)(al:ap)(xa:aw)(an xc:Nat)(l:Int)(bd:Bool)(w:ag)(av:Hid (∀w1,ak w w1->am 53 #[.agg #[ab ai,ab aj,af al,ae xa an xc]] w1 λe w'=>e=.returned (ab l)/\ak w1 w'))(ar:Hid (∀w1,ak w w1->am 183 #[ae a Y c] w1 λe w'=>e=.returned (.bool bd)/\ak w1 w'))(r:Hid (FB l bd self=0->∀w1,ak w w1->am 189 #[.agg #[ae a Y c,ab self],.agg #[ab ai,ab aj,af al,ae xa an xc]] w1 (kh (N+1) o w1)))(p:Hid (FB l bd self=0->∀(y f:Tm (N+1))(w1:ag),o=some f->aB (N+1) y (N+1) f=true->In w1.heap.size w1 (N+1) y->am 53 #[.agg #[ab y.1.1,ab y.1.2.1,af y.1.2.2,ae y.2.1.1 y.2.2.length y.2.1.2]] w1 λe w'=>e=.returned (ab (bE (N+1) f))/\ak w1 w')):am 155 #[.agg #[ab ai,ab aj,af al,ae xa an xc],ae a Y c,ab self] w (Ax N (FB l bd self) o w):=by
 obtain⟨E,U⟩:∃E,E=FB l bd self:=⟨_,rfl⟩;rw[<-U]at r p ⊢;have m:=au U;clear U;go_enter func155,ntmps155;go_wp2_with fail;refine(av _ (uo w _ _ _ _ _ _).1).mono ?_;rintro e w1 ⟨rfl,M⟩;have aC:=au (EE M);have A:Hid (ak w w1):=(uo w _ _ _ _ _ _).1.trans (M.mono (uo w _ _ _ _ _ _).1.size);have J:=au ((uo w _ _ _ _ _ _).2.below M);clear M av;by_cases d:l=0
 case neg=>
  have aP:(l !=0)=true:=by simpa using d
  have b:Hid (E=l/\l≠0):=⟨by rw[m.out];simp[FB,d],d⟩;obtain⟨⟨g,h,i,j⟩,⟨C,D,F,G⟩,x⟩:=J.out;clear r m d p;go_wp2_with fail;exact az (v:=.tuple #[.agg #[ab 0,ab 0,af .empty,ae none 0 0],ab l]) (by simp[results,results155,go_sem,g,h,i,j];rfl) rfl (pe (dj A (by omega) _ _ _ _) (by simp[nZ,b.out.1,b.out.2]) (by simp[FA,b.out.1,b.out.2]))
 have aP:(l !=0)=false:=by simp[d]
 go_wp2_with fail;refine(ar _ A).mono ?_;rintro e aH ⟨rfl,O⟩;have aD:=au (od (Nat.lt_of_succ_lt J.2.2) O aC);have n:Hid (ak w aH):=A.trans (O.mono A.size);have q:=au (J.below O);clear O ar A aC J;cases bd
 ·have b:Hid (E=5):=by rw[Hid,m.out];simp[FB,d]
  obtain⟨⟨g,h,i,j⟩,⟨C,D,F,G⟩,x⟩:=q.out;clear r m d p;go_wp2_with fail;exact az (v:=.tuple #[.agg #[ab 0,ab 0,af .empty,ae none 0 0],ab 5]) (by simp[results,results155,go_sem,g,h,i,j];rfl) rfl (pe (dj n (by omega) _ _ _ _) (by simp[nZ,b.out]) (by simp[FA,b.out]))
 ·by_cases aF:self<1
  ·have aL:decide (self<1)=true:=by simpa using aF
   have b:Hid (E=1):=by rw[Hid,m.out];simp only[FB,d,cY];rw[if_neg (by omega)]
   obtain⟨⟨g,h,i,j⟩,⟨C,D,F,G⟩,x⟩:=q.out;clear r m d p;go_wp2_with fail;exact az (v:=.tuple #[.agg #[ab 0,ab 0,af .empty,ae none 0 0],ab 1]) (by simp[results,results155,go_sem,g,h,i,j];rfl) rfl (pe (dj n (by omega) _ _ _ _) (by simp[nZ,b.out]) (by simp[FA,b.out]))
  ·have aL:decide (self<1)=false:=by simpa using aF
   by_cases aG:99<self
   ·have aM:decide (99<self)=true:=by simpa using aG
    have b:Hid (E=1):=by rw[Hid,m.out];simp only[FB,d,cY];rw[if_neg (by omega)]
    obtain⟨⟨g,h,i,j⟩,⟨C,D,F,G⟩,x⟩:=q.out;clear r m d p;go_wp2_with fail;exact az (v:=.tuple #[.agg #[ab 0,ab 0,af .empty,ae none 0 0],ab 1]) (by simp[results,results155,go_sem,g,h,i,j];rfl) rfl (pe (dj n (by omega) _ _ _ _) (by simp[nZ,b.out]) (by simp[FA,b.out]))
   ·have aM:decide (99<self)=false:=by simpa using aG
    have B:Hid (E=0):=by rw[Hid,m.out];simp only[FB,d,cY];rw[if_pos (by omega)]
    obtain⟨aT,aU,aV,aW⟩:=aD.out;have aY:w.heap.size<aH.heap.size:=Nat.lt_of_succ_lt q.2.2;clear m d;go_wp2_with fail;refine(r B _ n).mono ?_;rintro e z ⟨y,aS,rfl,k⟩;have P:Hid (ak w z):=n.trans (k.1.mono n.size);have K:=au (q.below k.1);have aE:dw (N+1) y=.agg #[ab y.1.1,ab y.1.2.1,af y.1.2.2,ae y.2.1.1 y.2.2.length y.2.1.2]:=rfl;rw[aE];clear r aE aT aU aV aW aD;cases aS
    ·have ax:Hid (o=none):=by
       have:=k.2.2.2.1;cases o with
       | none=>rfl
       | some f=>cases this
     obtain⟨⟨g,h,i,j⟩,⟨C,D,F,G⟩,x⟩:=K.out;clear k p;go_wp2_with fail;exact az (v:=.tuple #[.agg #[ab 0,ab 0,af .empty,ae none 0 0],ab 7]) (by simp[results,results155,go_sem,g,h,i,j,x];rfl) rfl (pe ((dj P (by omega) _ _ _ _).alloc (by rw[bA];omega) _) (by simp[nZ,ax.out]) (by simp[FA,nZ,ax.out,B.out]))
    ·obtain⟨f,X⟩:∃f,o=some f:=by
       have:=k.2.2.2.1;cases o with
       | none=>cases this
       | some f=>exact⟨f,rfl⟩
     have L:=au X;have aA:=au (k.2.2.2.2 f X)
     have S:Hid (∀w1,ak z w1->am 53 #[.agg #[ab y.1.1,ab y.1.2.1,af y.1.2.2,ae y.2.1.1 y.2.2.length y.2.1.2]] w1 λe w'=>e=.returned (ab (bE (N+1) f))/\ak w1 w'):=
      λw1 t=>p B y f w1 L aA ((k.2.1.below t).mono t.size)
     obtain⟨s,W⟩:∃s,s=bE (N+1) f:=⟨_,rfl⟩;rw[<-W]at S;have R:=au W;have T:=λ(I:ag)(aO:ak z I)(aN:s=0) Z aa ad ah=>au (MU (E:=E) B L (R.symm.trans aN) n (g9 _ 1) q.2.2 k.1 k.2.1 k.2.2.1 aA aO Z aa ad ah);clear X W p k q n;go_wp2_with fail;refine(S _ ((aq _ _).alloc (ao _) _)).mono ?_;rintro e I ⟨rfl,V⟩;obtain⟨⟨aZ,a0,a1,a2⟩,_⟩:=ES V;have Q:Hid (ak z I):=((aq _ _).alloc (ao _) _).trans (V.mono (by simp));have aI:=au (K.below Q);have aK:Hid (ak w I):=P.trans (Q.mono P.size);obtain⟨⟨g,h,i,j⟩,⟨C,D,F,G⟩,x⟩:=aI;have aR:¬(w.heap.size+1=z.heap.size):=by have:=K.2.2;omega
     have aX:¬(z.heap.size=w.heap.size+1):=λe=>aR e.symm;clear V S K;by_cases u:s=0
     ·have aQ:(s !=0)=false:=by simp[u]
      have aJ:=λZ aa ad ah=>T I Q u Z aa ad ah;clear T u;go_wp2_with fail;exact az (v:=.tuple #[.agg #[ab y.1.1,ab y.1.2.1,af y.1.2.2,ae y.2.1.1 y.2.2.length y.2.1.2],ab 0]) (by simp[results,results155,go_sem,g,h,i,j]) rfl (aJ _ _ _ _)
     ·have aQ:(s !=0)=true:=by simpa using u
      have ay:=au u;clear T u;go_wp2_with fail;exact az (v:=.tuple #[.agg #[ab 0,ab 0,af .empty,ae none 0 0],ab 7]) (by simp[results,results155,go_sem,g,h,i,j];rfl) rfl (pe (dj aK (by omega) _ _ _ _) (by have t:=R.out;have H:=ay.out;rw[t]at H;simp[nZ,L.out,H]) (by have t:=R.out;have H:=ay.out;rw[t]at H;simp[FA,nZ,L.out,B.out,H]))
theorem Ea(n m:Nat)(x:Tm (n+1))(b:List (Tm m))(a:aw)(c B:Nat)(self:Int)(w:ag)(p:In B w (n+1) x)(k:fM B w m b a)(f:B<=w.heap.size)(r:(aC (n+1) x).length<=2097152)(t:b.length<=9223372036854775807)(s:∀y∈b,(aC m y).length<=2097152):am 155 #[dw (n+1) x,ae a b.length c,ab self] w (Ax (m+n) (FB (bE (n+1) x) (gn m b) self) (vl m b self (n+1) x) w):=by
 refine Cb (m+n) _ a b.length c self x.1.1 x.1.2.1 x.1.2.2 x.2.1.1 x.2.2.length x.2.1.2 (bE (n+1) x) (gn m b) w ?_ ?_ ?_ ?_
 ·intro e d;exact dQ (n+1) x B e (p.below (d.mono f)) (aD f d.size) r
 ·intro e d;exact AE m b a c B e (k.below (d.mono f)) t s (aD f d.size)
 ·intro i e d;obtain⟨h,g,j⟩:=Ca i;have q:=(im g).1;rw[q];exact II m b self g j (n+1) x a c B e (p.below (d.mono f)) (aT.2 (bG.1 h).1) (k.below (d.mono f)) (aD f d.size)
 ·intro i y A e z o u;obtain⟨h,g,j⟩:=Ca i;have v:=IH h g z;have l:=dQ (m+n+1) y e.heap.size e u (ao _) (by rw[kI _ _ _ _ o];exact v);rw[bV o]at l;exact l
theorem Cd{a:Nat}{x:Tm n}{y:Tm m}{x':Tm l}{b:Tm a}(d:aB n x l x'=true)(k:aB m y a b=true):aB n x m y=aB l x' a b:=by
 cases c:aB l x' a b with
 | true=>exact bM _ _ _ _ _ _ d (bM _ _ _ _ _ _ c (dB _ _ _ _ k))
 | false=>
  cases e2:aB n x m y with
  | false=>rfl
  | true=>
   have e:=bM _ _ _ _ _ _ (dB _ _ _ _ d) (bM _ _ _ _ _ _ e2 k);rw[c]at e;cases e
def oF:Option (List An)->Option (List An)->Prop
 | none,none=>True
 | some b,some c=>aG ez b c=true
 | _,_=>False
theorem vh{x:An}(a:ez x y=true):b8 x=b8 y:=by
 obtain⟨n,x⟩:=x;obtain⟨b,y⟩:=y;cases n with
 | zero=>simp[ez,aB]at a
 | succ n=>
  cases b with
  | zero=>simp[ez,aB]at a
  | succ b=>
   simp only[ez,aB,aK,cF]at a;exact a.1.1.1
theorem uy{c β:Type}{f:c->β->Bool}{a:c}{b:β}(d:f a b=true):(p:List c)->(q:List β)->(i:Nat)->aG f p q=true->aG f (p.set i a) (q.set i b)=true
 | [],[],_,_=>by simp[aG]
 | [],_::_,_,h=>by simp[aG]at h
 | _::_,[],_,h=>by simp[aG]at h
 | x::p,y::q,0,h=>by
  simp only[aG,aK]at h;simp[aG,d,h.2]
 | x::p,y::q,i+1,h=>by
  simp only[aG,aK]at h;simp[aG,h.1,uy d p q i h.2]
theorem Dj{i:Nat}{t u:An}(f:aG ez b c=true)(h:ez t u=true):oF (uS b i t) (uS c i u):=by
 have n:=cP _ _ _ f;unfold uS;cases e:b[i]? with
 | none=>
  have a:c[i]?=none:=by
   rw[List.getElem?_eq_none_iff]at e ⊢;omega
  rw[a];trivial
 | some g=>
  obtain⟨m,l⟩:=aX.1 e;have a:c[i]?=some c[i]:=aM (by omega);rw[a];have j:ez g c[i]=true:=jF _ _ _ f i _ _ e a;simp only;rw[<-vh j];by_cases d:b8 g=6
  ·rw[if_pos d,if_pos d];exact uy h _ _ _ f
  ·rw[if_neg d,if_neg d];have k:ez g t=ez c[i] u:=Cd j h;rw[<-k];cases ez g t
   ·simp[oF]
   ·simpa [oF]using f
theorem uR{n β o r:Type}(f:n->β->List An->Option (List An))(g:o->r->List An->Option (List An))(P:n->o->Bool)(Q:β->r->Bool):(p:List n)->(q:List β)->(a:List o)->(h:List r)->(∀x∈p,∀y∈q,∀x' k b c,P x x'=true->Q y k=true->aG ez b c=true->oF (f x y b) (g x' k c))->aG P p a=true->aG Q q h=true->∀b c,aG ez b c=true->oF (iM f p q b) (iM g a h c)
 | [],_,a,_,_,i,_,b,c,l=>by
  cases a with
  | nil=>simpa [iM,oF]using l
  | cons _ _=>simp[aG]at i
 | x::p,[],a,h,_,i,j,b,c,l=>by
  cases h with
  | nil=>cases a<;>simpa [iM,oF]using l
  | cons _ _=>simp[aG]at j
 | x::p,y::q,a,h,hf,i,j,b,c,l=>by
  cases a with
  | nil=>simp[aG]at i
  | cons x' a=>
   cases h with
   | nil=>simp[aG]at j
   | cons k h=>
    simp only[aG,aK]at i j;have e:=hf x (by simp) y (by simp) x' k b c i.1 j.1 l;simp only[iM];cases e1:f x y b with
    | none=>
     rw[e1]at e;cases m:g x' k c with
     | none=>simp[oF]
     | some _=>rw[m]at e;exact e.elim
    | some d=>
     rw[e1]at e;cases m:g x' k c with
     | none=>rw[m]at e;exact e.elim
     | some s=>
      rw[m]at e;simp only[dG];exact uR f g P Q p q a h (λx t y u=>hf x (by simp[t]) y (by simp[u])) i.2 j.2 d s e
theorem mx:(n:Nat)->(p:Tm n)->(m:Nat)->(t:Tm m)->(d:Nat)->(j:Tm d)->(a:Nat)->(k:Tm a)->(b c:List An)->aB n p d j=true->aB m t a k=true->aG ez b c=true->oF (ij n p m t b) (ij d j a k c)
 | 0,_,_,_,_,_,_,_,_,_,h,_,_=>by simp[aB]at h
 | _+1,_,_,_,0,_,_,_,_,_,h,_,_=>by simp[aB]at h
 | _+1,_,0,_,_+1,_,_,_,_,_,_,h,_=>by simp[aB]at h
 | _+1,_,_+1,_,_+1,_,0,_,_,_,_,h,_=>by simp[aB]at h
 | n+1,p,m+1,t,d+1,j,a+1,k,b,c,hp,ht,hb=>by
  have v:=hp;have l:=ht;simp only[aB,aK,cF]at hp ht;obtain⟨⟨⟨w,z⟩,B⟩,o⟩:=hp;obtain⟨⟨⟨t1,t2⟩,C⟩,q⟩:=ht;unfold ij;rw[<-w,<-z,<-t1,<-cP _ _ _ o,<-cP _ _ _ q];by_cases g:p.1.1=6
  ·rw[if_pos g,if_pos g];exact hb
  ·rw[if_neg g,if_neg g];by_cases f:p.1.1=5
   ·rw[if_pos f,if_pos f];exact Dj hb l
   ·rw[if_neg f,if_neg f];by_cases e:p.1.1=4
    ·rw[if_pos e,if_pos e];by_cases i:t.1.1=4/\p.2.2.length=t.2.2.length
     ·rw[if_pos i,if_pos i];exact uR _ _ (λx y=>aB n x d y) (λx y=>aB m x a y) p.2.2 t.2.2 j.2.2 k.2.2 (λx _ y _ x' A b c r s u=>mx n x m y d x' a A b c r s u) o q b c hb
     ·rw[if_neg i,if_neg i];trivial
    ·rw[if_neg e,if_neg e,<-Cd v l];cases aB (n+1) p (m+1) t
     ·simp[oF]
     ·simpa [oF]using hb
theorem Bf(c:w.grownBy w' (some g)):∀b o,b<w.heap.size->b≠g->w'.cell? ⟨b,o,none⟩=w.cell? ⟨b,o,none⟩:=
 λb o d e=>World.cell?_of_block (a:=⟨b,o,none⟩) (c.block b d (by simpa using e))
theorem rA{row:Option Nat}(a:w.drew.grownBy w' row):w.grownBy w' row:=⟨a.os,a.tape,a.output,a.size,a.block⟩
theorem Gp(p q:Nat)(a d:aw)(pc h:Nat)(g c:Nat)(base:Nat)(w:ag)(_hpc:p<=9223372036854775807)(_hqc:q<=9223372036854775807)(f:((p:Int)==(q:Int))=false):am 199 #[ae (some ⟨g,0,none⟩) 4 c,ae a p pc,ae d q h] w (eV base g c none w):=by
 have i:((p:Int) !=(q:Int))=true:=by simpa using f
 go_enter func199,ntmps199;go_wp2_with fail
 go_ret
 exact⟨rfl,gI _ _,λb e=>by cases e⟩
theorem uQ(a e:aw)(pc i:Nat)(g c:Nat)(base:Nat)(b:List An)(w:ag)(H:ns base g c b w):am 199 #[ae (some ⟨g,0,none⟩) 4 c,ae a 0 pc,ae e 0 i] w (eV base g c (some b) w):=by
 have d:=au H;clear H;go_enter func199,ntmps199;go_wp2_with fail
 go_loop [16] (λh=>h=ab 0) (λ_=>0)
 case atStart=>rfl
 case round=>
  obtain rfl:=hrel;go_wp2_with fail
  go_ret
  exact⟨rfl,gI _ _,λj f=>by obtain rfl:=aA f;exact d⟩
theorem Gn(n m:Nat)(ih:NO n)(p:List (Tm n))(q:List (Tm m))(len:Nat)(ad:Hid (p.length=len))(aB:Hid (q.length=len))(K po d j pc aC:Nat)(b:List An)(base g c B:Nat)(w:ag)(aJ:len<=9223372036854775807)(ay:K<B)(az:d<B)(aa:∀(i:Nat)(y:Tm n),p[i]?=some y->dH w K (po+i*4) n y/\In B w n y)(ah:∀(i:Nat)(y:Tm m),q[i]?=some y->dH w d (j+i*4) m y/\In B w m y)(ai:∀y∈p,aI ⟨n,y⟩)(aj:∀y∈q,aI ⟨m,y⟩)(V:Hid (CP B w b))(U:B<=base)(H:Hid (ns base g c b w)):am 199 #[ae (some ⟨g,0,none⟩) 4 c,ae (some ⟨K,po,none⟩) len pc,ae (some ⟨d,j,none⟩) len aC] w (eV base g c (iM (λx y b=>ij n x m y b) p q b) w):=by
 have W:B<=g:=aD U H.out.lt.1;have X:g<w.heap.size:=H.out.lt.2;go_enter func199,ntmps199;go_wp2_with fail;go_loopw [16] (λi wr=>∃k:Nat,k<=len/\i=ab k/\Hid (w.grownBy wr (some g)/\∃a,ns base g c a wr/\CP B wr a/\iM (λx y b=>ij n x m y b) (p.drop k) (q.drop k) a=iM (λx y b=>ij n x m y b) p q b)) (λi _=>len-(intOf i).toNat)
 case atStart=>exact⟨0,by omega,rfl,gI _ _,b,H.out,V.out,rfl⟩
 case round=>
  obtain⟨k,aF,rfl,v⟩:=hrel;by_cases Z:k<len
  ·obtain⟨x,E⟩:∃x,p[k]?=some x:=⟨p[k]'(by rw[ad.out];exact Z),aM _⟩;obtain⟨y,I⟩:∃y,q[k]?=some y:=⟨q[k]'(by rw[aB.out];exact Z),aM _⟩;obtain⟨l,a,L,u,t⟩:Hid (w.grownBy wr (some g))/\∃a,Hid (ns base g c a wr)/\Hid (CP B wr a)/\Hid (iM (λx y b=>ij n x m y b) (p.drop k) (q.drop k) a=iM (λx y b=>ij n x m y b) p q b):=v.out;clear v;obtain⟨F,G⟩:=aa k x E;obtain⟨J,r⟩:=ah k y I;have z:=au (Gr (λx y b=>ij n x m y b) p q k x y E I a);have T:=au (ai x (aN E));have N:=au (aj y (aN I));have o:=oq l.out W X;replace F:=F.below o ay;replace J:=J.below o az;replace G:=G.below o;replace r:=r.below o;have aE:g<wr.heap.size:=aW X l.out.size;have D:B<=wr.heap.size:=by omega
   clear aa ah E I ai aj V H o;cases n with
   | zero=>exact F.elim
   | succ n=>
   cases m with
   | zero=>exact J.elim
   | succ m=>
   obtain⟨aR,aS,aT,aU⟩:=F;obtain⟨y0,y1,y2,aV⟩:=J
   have Q:Hid (∀(h:ag),ak wr h->am 185 #[ae (some ⟨g,0,none⟩) 4 c,.agg #[ab x.1.1,ab x.1.2.1,af x.1.2.2,ae x.2.1.1 x.2.2.length x.2.1.2],.agg #[ab y.1.1,ab y.1.2.1,af y.1.2.2,ae y.2.1.1 y.2.2.length y.2.1.2]] h (eV base g c (ij (n+1) x (m+1) y a) h)):=
    λh C=>ih x (m+1) y a base g c B h (G.below (C.mono D)) (r.below (C.mono D)) T.out N.out (u.out.below (C.mono D)) U (L.out.below C)
   have M:Hid (∀s e,ij (n+1) x (m+1) y a=s->s=some e->CP B wr e):=λs e av aw=>u.out.fit r N.out (av.trans aw);clear ih G r T N u;replace z:Hid (iM (λx y b=>ij (n+1) x (m+1) y b) (p.drop k) (q.drop k) a=(ij (n+1) x (m+1) y a).bind (iM (λx y b=>ij (n+1) x (m+1) y b) (p.drop (k+1)) (q.drop (k+1)))):=z;generalize ij (n+1) x (m+1) y a=s at*;generalize x.2.2.length=al at*;generalize y.2.2.length=yl at*;have aG:(0:Int)<=(k:Int):=by omega
   have aH:(k:Int)<(len:Int):=by omega
   have aK:K<wr.heap.size:=by omega
   have aO:d<wr.heap.size:=by omega
   have aP:d<wr.heap.size+1:=by omega
   have aL:d≠g:=by omega
   have aQ:wr.heap.size≠g:=by omega
   have an:=au (Q.out (wr.alloc (.cells #[ab x.1.1,ab x.1.2.1,af x.1.2.2,ae x.2.1.1 al x.2.1.2] 31)).drew (((aq _ _).alloc (ao _) _).drew));clear Q;go_wp2_with fail
   go_region_held3 (λf=>f.cell? ⟨wr.heap.size,0,none⟩=some (ab x.1.1)/\f.cell? ⟨wr.heap.size,1,none⟩=some (ab x.1.2.1)/\f.cell? ⟨wr.heap.size,2,none⟩=some (af x.1.2.2)/\f.cell? ⟨wr.heap.size,3,none⟩=some (ae x.2.1.1 al x.2.1.2)
       /\f.cell? ⟨d,j+k*4,none⟩=some (ab y.1.1)/\f.cell? ⟨d,j+k*4+1,none⟩=some (ab y.1.2.1)/\f.cell? ⟨d,j+k*4+2,none⟩=some (af y.1.2.2)/\f.cell? ⟨d,j+k*4+3,none⟩=some (ae y.2.1.1 yl y.2.1.2))
    (go_keep) ((go_at_call 185;refine an.out.mono ?_;rintro A h ⟨rfl,O,Y⟩;have ax:=Bf (rA O);have R:=au (rA O);have ap:=au Y;clear O Y))
   have S:Hid (w.grownBy h (some g)):=lO l.out (lO (cX wr _ _) R.out);clear ax;cases s with
   | some e=>
    have ar:Hid (CP B h e):=(M.out _ e rfl rfl).below ((((aq _ _).alloc (ao _) _).mono D).trans (oq R.out W (by simp;omega)));clear M;simp only[nh];go_wp2_with fail;go_roundw
    case rel=>exact⟨k+1,by omega,by go_num,S.out,e,ap.out e rfl,ar.out,by rw[<-t.out,z.out];rfl⟩
    case measure=>simp[intOf];omega
   | none=>
    clear M;simp only[ng];go_wp2_with fail
    go_ret
    have P:iM (λx y b=>ij (n+1) x (m+1) y b) p q b=none:=by rw[<-t.out,z.out];rfl
    rw[P];exact⟨rfl,S.out,λa A=>by cases A⟩
  ·obtain⟨l,a,L,u,t⟩:Hid (w.grownBy wr (some g))/\∃a,Hid (ns base g c a wr)/\Hid (CP B wr a)/\Hid (iM (λx y b=>ij n x m y b) (p.drop k) (q.drop k) a=iM (λx y b=>ij n x m y b) p q b):=v.out;clear v;go_wp2_with fail
   go_ret
   have P:iM (λx y b=>ij n x m y b) p q b=some a:=by rw[<-t.out,gC (by rw[ad.out];omega)];rfl
   rw[P];exact⟨rfl,l.out,λe A=>by obtain rfl:=aA A;exact L.out⟩
theorem Di(n m:Nat)(ih:NO n)(p:List (Tm n))(q:List (Tm m))(a e:aw)(pc j:Nat)(b:List An)(base g c B:Nat)(w:ag)(f:p=[]\/∃b o,a=some ⟨b,o,none⟩/\b<B/\∀(i:Nat)(y:Tm n),p[i]?=some y->dH w b (o+i*4) n y/\In B w n y)(h:q=[]\/∃b o,e=some ⟨b,o,none⟩/\b<B/\∀(i:Nat)(y:Tm m),q[i]?=some y->dH w b (o+i*4) m y/\In B w m y)(u:p.length<=9223372036854775807)(A:q.length<=9223372036854775807)(C:∀y∈p,aI ⟨n,y⟩)(D:∀y∈q,aI ⟨m,y⟩)(r:CP B w b)(l:B<=base)(H:ns base g c b w):am 199 #[ae (some ⟨g,0,none⟩) 4 c,ae a p.length pc,ae e q.length j] w (eV base g c (if p.length=q.length then iM (λx y b=>ij n x m y b) p q b else none) w):=by
 by_cases d:p.length=q.length
 ·rw[if_pos d];rcases f with f|⟨E,po,rfl,t,f⟩
  ·subst f;have v:q=[]:=bJ d.symm;subst v;exact uQ a e pc j g c base b w H
  ·rcases h with h|⟨F,G,rfl,z,h⟩
   ·subst h;have s:p=[]:=bJ d;subst s;exact uQ _ e pc j g c base b w H
   ·have k:=Gn n m ih p q p.length rfl d.symm E po F G pc j b base g c B w (by omega) t z f h C D r l H;rw[<-d];exact k
 ·rw[if_neg d];exact Gp p.length q.length a e pc j g c base w u A (by simp;omega)
theorem eV.from{c:Nat}{o:Option (List An)}(a:w.grownBy w1 (some g)){e:Ending}(k:eV base g c o w1 e w2):eV base g c o w e w2:=
 ⟨k.1,lO a k.2.1,k.2.2⟩
theorem Gt(k u j F:Int)(s D:ap)(a t:aw)(l v pc x:Nat)(base g c:Nat)(b:List An)(o p:Option (List An))(E:Bool)(w:ag)(I:Hid (ns base g c b w))(q:Hid (k=5->∀w1,ak w w1->am 198 #[ae (some ⟨g,0,none⟩) 4 c,ab u,.agg #[ab j,ab F,af D,ae t v x]] w1 (eV base g c o w1)))(H:Hid (∀w1,ak w w1->am 199 #[ae (some ⟨g,0,none⟩) 4 c,ae a l pc,ae t v x] w1 (eV base g c p w1)))(N:Hid (∀w1,ak w w1->am 200 #[.agg #[ab k,ab u,af s,ae a l pc],.agg #[ab j,ab F,af D,ae t v x]] w1 λe w'=>∃r,e=.returned (ab r)/\Hid ((r==0)=E)/\ak w1 w')):am 185 #[ae (some ⟨g,0,none⟩) 4 c,.agg #[ab k,ab u,af s,ae a l pc],.agg #[ab j,ab F,af D,ae t v x]] w (eV base g c (if k=6 then some b else if k=5 then o else if k=4 then (if j=4 then p else none)else if E then some b else none) w):=by
 have L:∀o p,ak w ((w.alloc o).alloc p):=λo p=>((aq _ _).alloc (ao _) _).alloc (by simp) _;have f:=au L;clear L;by_cases i:k=6
 ·rw[if_pos i];subst i;go_enter func185,ntmps185;go_wp2_with fail
  go_ret
  exact⟨rfl,cV (f _ _) _,λB e=>by obtain rfl:=aA e;exact I.below (f _ _)⟩
 rw[if_neg i];have S:(k==6)=false:=by simpa using i
 by_cases d:k=5
 ·rw[if_pos d];have O:=au (q d);have R:(k==5)=true:=by simpa using d
  clear d i q;go_enter func185,ntmps185;go_wp2_with fail;refine(O _ (f _ _)).mono ?_;rintro e w1 n;have y:=au (eV.from (cV (f _ _) _) n);obtain⟨rfl,_,_⟩:=n;go_wp2_with fail
  go_ret
  exact y
 rw[if_neg d];have R:(k==5)=false:=by simpa using d
 by_cases h:k=4
 ·rw[if_pos h];have P:(k==4)=true:=by simpa using h
  clear d i q;by_cases m:j=4
  ·rw[if_pos m];have Q:(j==4)=true:=by simpa using m
   clear h m;go_enter func185,ntmps185;go_wp2_with fail;refine(H _ (f _ _)).mono ?_;rintro e w1 n;have y:=au (eV.from (cV (f _ _) _) n);obtain⟨rfl,_,_⟩:=n;go_wp2_with fail
   all_goals go_ret
   all_goals exact y
  ·rw[if_neg m];have Q:(j==4)=false:=by simpa using m
   clear h m;go_enter func185,ntmps185;go_wp2_with fail
   go_ret
   exact⟨rfl,cV (f _ _) _,λB e=>by cases e⟩
 rw[if_neg h];have P:(k==4)=false:=by simpa using h
 clear h d i q H;obtain⟨M,C⟩:∃M,M=if E then some b else none:=⟨_,rfl⟩
 rw[<-C];have G:=au C;clear C;go_enter func185,ntmps185;go_wp2_with fail;refine(N _ (f _ _)).mono ?_;rintro e w1 ⟨r,rfl,J,K⟩;have A:Hid (ak w w1):=(f _ _).trans (K.mono (f _ _).size);have z:=au G.out;rw[Hid,<-J.out]at z;clear K J G;cases h0:r==0
 ·go_wp2_with fail
  go_ret
  have d:=z;rw[h0]at d;simp only[pr,if_false]at d;subst d;exact⟨rfl,cV A _,λB e=>by cases e⟩
 ·go_wp2_with fail
  go_ret
  have d:=z;rw[h0]at d;simp only[cY]at d;subst d;exact⟨rfl,cV A _,λB e=>by obtain rfl:=aA e;exact I.below A⟩
theorem Oc(n:Nat)(p:Tm (n+1))(m:Nat)(t:Tm (m+1))(b:List An):ij (n+1) p (m+1) t b=if p.1.1=6 then some b else if p.1.1=5 then uS b p.1.2.1.toNat ⟨m+1,t⟩else if p.1.1=4 then (if t.1.1=4 then (if p.2.2.length=t.2.2.length then iM (λx y b=>ij n x m y b) p.2.2 t.2.2 b else none)else none)else if aB (n+1) p (m+1) t then some b else none:=by
 simp only[ij];by_cases a:t.1.1=4<;>by_cases c:p.2.2.length=t.2.2.length<;>simp[a,c]
theorem OL(n:Nat)(p:Tm (n+1))(d:aI ⟨n+1,p⟩)(e:p.1.1=5):∃k:Nat,k<4/\p.1.2.1=k:=by
 have a:=d (bI n p) (by simp[aC,bI]);have b:(bI n p).1.1=5:=e;have c:(bI n p).1.2.1=p.1.2.1:=rfl;simp[cJ,b,qP]at a;rw[c]at a;exact⟨p.1.2.1.toNat,by omega,by omega⟩
theorem JI(n:Nat):NO n:=by
 induction n with
 | zero=>intro e j t b s u c l y d;exact d.elim
 | succ n ih=>
  intro e j t b s u c l y d v w x i z r;cases j with
  | zero=>exact v.elim
  | succ j=>
  have f:l<=y.heap.size:=by have:=r.lt;omega
  have C:=d;have H:=v;obtain⟨⟨_,_,_,I,D⟩,E⟩:=C;obtain⟨⟨_,_,_,J,F⟩,G⟩:=H;unfold maxLen at D F;rw[Oc];refine Gt e.1.1 e.1.2.1 t.1.1 t.1.2.1 e.1.2.2 t.1.2.2 e.2.1.1 t.2.1.1 e.2.2.length t.2.2.length e.2.1.2 t.2.1.2 s u c b _ _ _ y r ?_ ?_ ?_
  ·intro A q a;obtain⟨k,B,m⟩:=OL n e w A;rw[m];exact JM b s u c l q k B j t (i.below (a.mono f)) (v.below (a.mono f)) x z (r.below a)
  ·intro q a;refine Di n j ih e.2.2 t.2.2 e.2.1.1 t.2.1.1 e.2.1.2 t.2.1.2 b s u c l q ?_ ?_ (by omega) (by omega) (λh g=>bf n e h w g) (λh g=>bf j t h x g) (i.below (a.mono f)) z (r.below a)
   ·rcases E with d|⟨b,o,m,i,d⟩
    ·exact ai d
    ·exact aj ⟨b,o,m,i,λp h g=>⟨(d p h g).1.below (a.mono f) i,(d p h g).2.below (a.mono f)⟩⟩
   ·rcases G with d|⟨b,o,m,i,d⟩
    ·exact ai d
    ·exact aj ⟨b,o,m,i,λp h g=>⟨(d p h g).1.below (a.mono f) i,(d p h g).2.below (a.mono f)⟩⟩
  ·intro q a;exact BQ ⟨n+1,e⟩ ⟨j+1,t⟩ l q (d.below (a.mono f)) (v.below (a.mono f)) (aD f a.size) w x
def nX(n:Nat)(q:List (Tm n)):List An:=q.map λx=>⟨n,x⟩
theorem nv(n:Nat)(q:List (Tm n)):(nX n q).length=q.length:=by simp[nX]
theorem Ds{q:List (Tm n)}{po:Nat}(p:∀(i:Nat)(y:Tm n),q[i]?=some y->dH w l (po+i*4) n y):∀j u,(fZ (nX n q))[j]?=some u->w.cell? ((⟨l,po,none⟩:Addr).add j)=some u:=by
 intro j u a;have c:=lf (nX n q);have r:j<q.length*4:=by
  rw[nv]at c;rw[<-c];exact(aX.1 a).1
 obtain⟨k,i,o,rfl⟩:∃k i,i<4/\j=k*4+i:=⟨j / 4,j % 4,Nat.mod_lt _ (by decide),by omega⟩;obtain⟨y,d⟩:∃y,q[k]?=some y:=⟨q[k]'(by omega),aM _⟩;have e:(fZ (nX n q))[k*4+i]?=(vA (tm ⟨n,y⟩))[i]? :=iZ _ k (tm ⟨n,y⟩) (by simp[nX,d]) i o;rw[e]at a;have b:=p k y d;cases n with
 | zero=>exact b.elim
 | succ n=>
 obtain⟨f,g,h,m⟩:=b;rw[en,<-Nat.add_assoc];have:i=0\/i=1\/i=2\/i=3:=by omega
 rcases this with rfl|rfl|rfl|rfl
 all_goals simp[vA,tm,gu,bI]at a;subst a
 ·exact f
 ·exact g
 ·exact h
 ·exact m
theorem C9(n:Nat)(q:List (Tm n))(len l po pc:Nat)(w:ag)(p:Hid (q.length=len))(F:0<len)(G:len<=1048576)(y:Hid (∀w1,ak w w1->∀j u,(fZ (nX n q))[j]?=some u->w1.cell? ((⟨l,po,none⟩:Addr).add j)=some u)):am 184 #[ae (some ⟨l,po,none⟩) len pc] w λe w'=>∃g c,e=.returned (ae (some ⟨g,0,none⟩) len c)/\Hid (ak w w'/\ns w.heap.size g c (nX n q) w'):=by
 obtain⟨C,o,r,s,t⟩:=bW gw;have a:=au (⟨o,r,s,t⟩:_/\_/\_/\_);clear o r s t;have I:∀(w:ag)(b:aw)(n c i f:Nat),(binOp .eql 29 (ae b n c) (ae none i f)).run Tryz.prog w=.ok (.bool b.isNone) w:=λw b n c i f=>Lib.run_eql_slice_nil w _ _ b n c i f underlying29;go_enter func184,ntmps184;go_wp2_with (at_builtin;refine wpList_append_own _ rfl _ _ 29 rfl w.heap.size 31 C _ 4 56 underlying29 a.1 a.2.1 a.2.2.1 a.2.2.2 rfl (by decide) _ _ _ rfl (World.ownsRow_made w #[] 0 (ao _) (aL _) (by simp)) ⟨l,po,none⟩ len pc (fZ (nX n q)) rfl ?qc1 ?qc2 ?qc3 ?qc4 ?qc5 ?qc6 ?_)
 case qc1=>rw[lf,nv,p.out]
 case qc2=>exact y _ ((aq _ _).alloc (ao _) _)
 case qc3=>exact AA _
 case qc4=>unfold maxLen;omega
 case qc5=>omega
 case qc6=>simp
 intro D w1 h m B;have v:Hid (∃g c,D=ae (some ⟨g,0,none⟩) len c/\ak w w1/\ns w.heap.size g c (nX n q) w1):=by
  have z:ak w w1:=Below.grown ((aq _ _).alloc (ao _) _) m (by simp) (by intro k A;simp[Value.ownBlock]at A;omega);have d:=h;obtain⟨_,d⟩:=d;rcases d with⟨_,d⟩|⟨g,cap,E,rfl,H,_⟩
  ·omega
  ·refine⟨g,cap,rfl,z,?_⟩;unfold ns;rw[nv,p.out];exact h
 clear h m B;obtain⟨g,c,rfl,x⟩:=v;go_wp2_with fail
 go_ret
 exact⟨g,c,rfl,x⟩
def tL(a b:Int)(cl bd:Bool):Int:=if a=0 then if b=0 then if cl && bd then 0 else 5 else b else a
def yE(a:Int)(o:Option (List An))(w:ag)(e:Ending)(w':ag):Prop:=
 ∃f len c d,e=.returned (.tuple #[ae f len c,.bool d,ab a])/\Hid (ak w w'/\
  ((¬(a=0/\o.isSome=true)->len=0/\d=false)/\∀b,a=0->o=some b->d=true/\len=4/\b.length=4/\∃g l,w.heap.size<=g.heap.size/\gQ (np b) (CC b) g w' f c l))
def NK(w:ag)(v0 v1 v2 v3 a b c d:av)(w':ag):Prop:=
 ak w w'/\w.heap.size+2<=w'.heap.size/\
 (w'.cell? ⟨w.heap.size,0,none⟩=some v0/\w'.cell? ⟨w.heap.size,1,none⟩=some v1/\w'.cell? ⟨w.heap.size,2,none⟩=some v2/\w'.cell? ⟨w.heap.size,3,none⟩=some v3)/\
 (w'.cell? ⟨w.heap.size+1,0,none⟩=some a/\w'.cell? ⟨w.heap.size+1,1,none⟩=some b/\w'.cell? ⟨w.heap.size+1,2,none⟩=some c/\w'.cell? ⟨w.heap.size+1,3,none⟩=some d)
theorem NK.new(w:ag)(v0 v1 v2 v3 a b c d:av)(t e:TypeId):NK w v0 v1 v2 v3 a b c d ((w.alloc (.cells #[v0,v1,v2,v3] t)).alloc (.cells #[a,b,c,d] e)):=
 ⟨((aq _ _).alloc (ao _) _).alloc (by simp) _,by simp,⟨by simp[go_sem],by simp[go_sem],by simp[go_sem],by simp[go_sem]⟩,by simp[go_sem],by simp[go_sem],by simp[go_sem],by simp[go_sem]⟩
theorem NK.next{v0 v1 v2 v3:av}(a:NK w v0 v1 v2 v3 j q r s w1)(b:ak w1 w2):NK w v0 v1 v2 v3 j q r s w2:=
 ⟨a.1.trans (b.mono a.1.size),aD a.2.1 b.size,od (by have:=a.2.1;omega) b a.2.2.1,od (by have:=a.2.1;omega) b a.2.2.2⟩
theorem DH(w:ag)(k u A E:Int)(s D:ap)(a n:aw)(l pc B C:Nat)(W:aw)(Y X:Nat)(i j:Int)(cl bd:Bool)(o:Option (List An))(T:List An)(ar:Hid (∀w1,ak w w1->am 53 #[.agg #[ab k,ab u,af s,ae a l pc]] w1 λe w'=>e=.returned (ab i)/\ak w1 w'))(av:Hid (∀w1,ak w w1->am 53 #[.agg #[ab A,ab E,af D,ae n B C]] w1 λe w'=>e=.returned (ab j)/\ak w1 w'))(an:Hid (∀w1,ak w w1->am 54 #[.agg #[ab A,ab E,af D,ae n B C]] w1 λe w'=>e=.returned (.bool cl)/\ak w1 w'))(ai:Hid (∀w1,ak w w1->am 183 #[ae W Y X] w1 λe w'=>e=.returned (.bool bd)/\ak w1 w'))(ao:Hid (bd=true->∀w1,ak w w1->am 184 #[ae W Y X] w1 λe w'=>∃g c,e=.returned (ae (some ⟨g,0,none⟩) 4 c)/\Hid (ak w1 w'/\ns w1.heap.size g c T w')))(S:Hid (tL i j cl bd=0->∀w1 base g c,ak w w1->w.heap.size<=base->ns base g c T w1->am 185 #[ae (some ⟨g,0,none⟩) 4 c,.agg #[ab k,ab u,af s,ae a l pc],.agg #[ab A,ab E,af D,ae n B C]] w1 (eV base g c o w1)))(R:Hid (tL i j cl bd=0->∀w1 base g c b,o=some b->ak w w1->ns base g c b w1->b.length=4/\am 89 #[ae (some ⟨g,0,none⟩) 4 c] w1 λe w'=>∃n aC l,e=.returned (ae n 4 aC)/\Hid (gQ (np b) (CC b) w1 w' n aC l))):am 152 #[.agg #[ab k,ab u,af s,ae a l pc],.agg #[ab A,ab E,af D,ae n B C],ae W Y X] w (yE (tL i j cl bd) o w):=by
 obtain⟨f,V⟩:∃f,f=tL i j cl bd:=⟨_,rfl⟩;rw[<-V]at S R ⊢;have q:=au V;clear V;go_enter func152,ntmps152;go_wp2_with fail;refine(ar _ (NK.new w _ _ _ _ _ _ _ _ _ _).1).mono ?_;rintro e w1 ⟨rfl,aF⟩;have t:=au ((NK.new w (ab k) (ab u) (af s) (ae a l pc) (ab A) (ab E) (af D) (ae n B C) 31 31).next aF);clear aF ar;by_cases m:i=0
 case neg=>
  have aM:(i !=0)=true:=by simpa using m
  have d:Hid (f=i/\¬f=0):=by have:=q.out;unfold tL at this;rw[if_neg m]at this;exact⟨this,by rw[this];exact m⟩
  clear m q;go_wp2_with fail;exact az (v:=.tuple #[ae none 0 0,.bool false,ab i]) (by simp[results,results152,go_sem]) rfl ⟨none,0,0,false,by rw[d.out.1],t.1,λ_=>⟨rfl,rfl⟩,λb h=>absurd h d.2⟩
 have aM:(i !=0)=false:=by simp[m]
 obtain⟨⟨L,M,N,O⟩,H,I,J,K⟩:=t.out.2.2;go_wp2_with fail;refine(av _ t.1).mono ?_;rintro e aR ⟨rfl,aG⟩;have x:=au (t.next aG);clear aG av t L M N O H I J K;by_cases p:j=0
 case neg=>
  have aN:(j !=0)=true:=by simpa using p
  have d:Hid (f=j/\¬f=0):=by have:=q.out;unfold tL at this;rw[if_pos m,if_neg p]at this;exact⟨this,by rw[this];exact p⟩
  clear p m q;go_wp2_with fail;exact az (v:=.tuple #[ae none 0 0,.bool false,ab j]) (by simp[results,results152,go_sem]) rfl ⟨none,0,0,false,by rw[d.out.1],x.1,λ_=>⟨rfl,rfl⟩,λb h=>absurd h d.2⟩
 have aN:(j !=0)=false:=by simp[p]
 have r:Hid (f=if cl && bd then 0 else 5):=by have:=q.out;unfold tL at this;rw[if_pos m,if_pos p]at this;exact this
 clear p m q;obtain⟨⟨L,M,N,O⟩,H,I,J,K⟩:=x.out.2.2;go_wp2_with fail;refine(an _ x.1).mono ?_;rintro e aS ⟨rfl,aH⟩;have F:=au (x.next aH);clear aH an x L M N O H I J K;cases cl with
 | false=>
  have d:Hid (f=5/\¬f=0):=by have:=r.out;simp at this;exact⟨this,by rw[this];decide⟩
  clear r;go_wp2_with fail;exact az (v:=.tuple #[ae none 0 0,.bool false,ab 5]) (by simp[results,results152,go_sem]) rfl ⟨none,0,0,false,by rw[d.out.1],F.1,λ_=>⟨rfl,rfl⟩,λb h=>absurd h d.2⟩
 | true=>
 go_wp2_with fail;refine(ai _ F.1).mono ?_;rintro e Z ⟨rfl,aI⟩;have y:=au (F.next aI);clear aI ai F;cases bd with
 | false=>
  have d:Hid (f=5/\¬f=0):=by have:=r.out;simp at this;exact⟨this,by rw[this];decide⟩
  clear r;go_wp2_with fail;exact az (v:=.tuple #[ae none 0 0,.bool false,ab 5]) (by simp[results,results152,go_sem]) rfl ⟨none,0,0,false,by rw[d.out.1],y.1,λ_=>⟨rfl,rfl⟩,λb h=>absurd h d.2⟩
 | true=>
 have d:Hid (f=0):=by have:=r.out;simp at this;exact this
 have ax:=au (S d);have aj:=au (R d);have aq:=au (ao rfl);clear r S R ao;go_wp2_with fail;refine(aq _ y.1).mono ?_;rintro e aJ ⟨g,c,rfl,Q⟩;have P:=au (y.next Q.1);have G:Hid (ns Z.heap.size g c T aJ):=Q.2;have ay:Hid (w.heap.size<=Z.heap.size):=y.1.size;obtain⟨⟨L,M,N,O⟩,H,I,J,K⟩:=P.out.2.2;clear y Q aq;go_wp2_with fail;refine(ax aJ Z.heap.size g c P.1 ay G).mono ?_;rintro e aa U;have z:Hid (ak w aa):=P.1.trans (oq U.2.1 (aD ay G.lt.1) G.lt.2);have ad:=au U.2.2;obtain⟨rfl,_,_⟩:=U;clear G ax;cases o with
 | none=>
  simp only[ng];go_wp2_with fail;exact az (v:=.tuple #[ae none 0 0,.bool false,ab 0]) (by simp[results,results152,go_sem]) rfl ⟨none,0,0,false,by rw[d.out],z,λ_=>⟨rfl,rfl⟩,λb _ h=>by cases h⟩
 | some b=>
  simp only[nh];have aL:=au (ad b rfl);have al:=au (aj aa _ g c b rfl z aL);clear ad aj;go_wp2_with fail;refine al.2.mono ?_;rintro e aP ⟨aB,aE,aO,rfl,ah⟩;have aK:Hid (ak w aP):=z.trans (ah.1.mono z.size);go_wp2_with fail;exact az (v:=.tuple #[ae aB 4 aE,.bool true,ab 0]) (by simp[results,results152,go_sem]) rfl ⟨aB,4,aE,true,by rw[d.out],aK,λh=>absurd ⟨d,rfl⟩ h,λaQ _ e=>by obtain rfl:=aA e;exact⟨rfl,rfl,al.1,aa,aO,z.size,ah⟩⟩
theorem xt{e:Int}{cl:Bool}(a:tL i e cl bd=0):i=0/\e=0/\cl=true/\bd=true:=by
 unfold tL at a;split at a
 ·split at a
  ·split at a
   ·rename_i b c d;simp at d;exact⟨b,c,d.1,d.2⟩
   ·cases a
  ·rename_i b c;exact absurd a c
 ·rename_i b;exact absurd a b
theorem AI{q:List (Tm n)}(a:gn n q=true):q.length=4:=by
 unfold gn at a;simp at a;exact a.1
theorem F6{q:List (Tm n)}(a:gn n q=true):∀y∈nX n q,aI y:=by
 intro y c;simp only[nX,cm]at c;obtain⟨d,e,rfl⟩:=c;unfold gn at a;simp only[aK,cu]at a;have b:=a.2 d e;unfold BM at b;simp only[aK,cF]at b;exact rm n d b.1
theorem Mz{q:List (Tm n)}(c:fM B w n q a):∀y∈nX n q,FO B w y:=by
 intro y e;simp only[nX,cm]at e;obtain⟨h,d,rfl⟩:=e;rcases c with c|⟨b,o,_,_,c⟩
 ·rw[c]at d;cases d
 ·obtain⟨g,f⟩:=dd d;exact(c g h f).2
theorem Br{q:List (Tm n)}(d:fM B w n q a)(k:gn n q=true):CP B w (nX n q):=
 ⟨by rw[nv];exact AI k,λc b=>⟨Mz d c b,F6 k c b⟩⟩
theorem xB(n m o:Nat)(p:Tm n)(t:Tm m)(q:List (Tm o))(a:aw)(c B:Nat)(w:ag)(A:In B w n p)(j:In B w m t)(g:fM B w o q a)(e:B<=w.heap.size)(I:(aC n p).length<=2097152)(K:(aC m t).length<=2097152)(J:∀y∈q,(aC o y).length<=2097152)(R:q.length<=9223372036854775807):am 152 #[dw n p,dw m t,ae a q.length c] w (yE (tL (bE n p) (bE m t) (km m t) (gn o q)) (ij n p m t (nX o q)) w):=by
 cases n with
 | zero=>exact A.elim
 | succ n=>
 cases m with
 | zero=>exact j.elim
 | succ m=>
 refine DH w p.1.1 p.1.2.1 t.1.1 t.1.2.1 p.1.2.2 t.1.2.2 p.2.1.1 t.2.1.1 p.2.2.length p.2.1.2 t.2.2.length t.2.1.2 a q.length c _ _ _ _ _ (nX o q) ?_ ?_ ?_ ?_ ?_ ?_ ?_
 ·exact λf d=>dQ (n+1) p B f (A.below (d.mono e)) (aD e d.size) I
 ·exact λf d=>dQ (m+1) t B f (j.below (d.mono e)) (aD e d.size) K
 ·intro f d;rw[<-fF];exact iS (m+1) t B f (j.below (d.mono e)) (aD e d.size)
 ·exact λf d=>AE o q a c B f (g.below (d.mono e)) R J (aD e d.size)
 ·intro M f d;have k:=AI M;rcases g with g|⟨T,po,rfl,F,g⟩
  ·rw[g]at k;simp at k
  ·have l:=C9 o q 4 T po c f k (by decide) (by decide) (λV H=>Ds λS y h=>((g S y h).1.below (d.mono e) F).below (H.mono (aD e d.size)) F);rw[k];exact l
 ·intro x f C v r d L z;obtain⟨D,s,G,u⟩:=xt x;exact JI (n+1) p (m+1) t (nX o q) C v r B f (A.below (d.mono e)) (j.below (d.mono e)) (rm _ _ D) (rm _ _ s) ((Br g u).below (d.mono e)) (aD e L) z
 ·intro x f C v r b N d z;obtain⟨D,s,G,u⟩:=xt x;have i:=((Br g u).fit j (rm _ _ s) N).below (d.mono e);have P:=Lf z (λy h=>(i.2 y h).1) (aD e d.size);have Q:(CC b).length=4:=by simp[CC,i.1]
  have l:=tb (np b) (ip _) (CC b) (some ⟨v,0,none⟩) r f.heap.size f P (by omega) (IG λy h=>⟨(i.2 y h).2,λE=>by
   have O:=(i.2 y h).1;obtain⟨U,W⟩:=y;simp only at E;subst E
   exact O.elim⟩) (ao _)
  rw[Q]at l;exact⟨i.1,l⟩
theorem yV{x:Tm (n+1)}(a:aS (n+1) x=true):x.1.1≠5/\x.1.1≠6/\∀y∈x.2.2,aS n y=true:=by
 simp only[aS,aK,kL,cu]at a;exact⟨by simpa using a.1.1,by simpa using a.1.2,a.2⟩
def PZ:(n:Nat)->Tm n->Bool
 | 0,_=>true
 | n+1,x=> !(x.1.1==5) && x.2.2.all λy=>PZ n y
def CW(D:Nat)(l:List (Tm D))(d:List An):Prop:=∀(i:Nat)(a:An),d[i]?=some a->∃y,l[i]?=some y/\aB D y a.1 a.2=true/\aI ⟨D,y⟩
theorem xv{n m:Nat}:(p:List (Tm n))->(q:List (Tm m))->(b c:List An)->iM (λx y b=>ij n x m y b) p q b=some c->∀(i:Nat)(x:Tm n)(y:Tm m),p[i]?=some x->q[i]?=some y->∃a e,ij n x m y a=some e
 | [],_,_,_,_,i,x,y,hx,_=>by simp at hx
 | _::_,[],_,_,_,i,x,y,_,hy=>by simp at hy
 | x::p,y::q,b,c,h,i,x',y',hx,hy=>by
  simp only[iM]at h;obtain⟨d,f,g⟩:=bC.1 h;cases i with
  | zero=>
   simp at hx hy;subst hx hy;exact⟨b,d,f⟩
  | succ i=>exact xv p q d c g i x' y' (by simpa using hx) (by simpa using hy)
theorem KX{a β:Type}(f:a->Int)(g:β->Int):(p:List a)->(q:List β)->p.length=q.length->(∀(i:Nat)(x:a)(y:β),p[i]?=some x->q[i]?=some y->f x<=g y)->(p.map f).sum<=(q.map g).sum
 | [],[],_,_=>by simp
 | [],_::_,h,_=>by simp at h
 | _::_,[],h,_=>by simp at h
 | x::p,y::q,h,hf=>by
  have e:=hf 0 x y (by simp) (by simp);have j:=KX f g p q (by simpa using h) λi x' d b c=>hf (i+1) x' d (by simpa using b) (by simpa using c);simp only[aU,bN];omega
theorem Fb{a β:Type}(f:a->Int)(g:β->Int):(p:List a)->(q:List β)->(i j:Int)->i<=j->p.length=q.length->(∀(i:Nat)(x:a)(y:β),p[i]?=some x->q[i]?=some y->f x<=g y)->p.foldl (λm y=>max m (f y)) i<=q.foldl (λm y=>max m (g y)) j
 | [],[],_,_,h,_,_=>h
 | [],_::_,_,_,_,h,_=>by simp at h
 | _::_,[],_,_,_,h,_=>by simp at h
 | x::p,y::q,i,j,hij,h,hf=>by
  have e:=hf 0 x y (by simp) (by simp);simp only[gD];exact Fb f g p q _ _ (by omega) (by simpa using h) λi x' d b c=>hf (i+1) x' d (by simpa using b) (by simpa using c)
theorem uh{c:Type}(f:c->Int)(b:∀x,0<=f x):(p:List c)->(y:c)->y∈p->f y<=(p.map f).sum/\0<=(p.map f).sum
 | [],y,a=>by cases a
 | x::p,y,a=>by
  have g:=b x;have e:0<=(p.map f).sum:=by
   cases p with
   | nil=>simp
   | cons d p=>exact(uh f b (d::p) d (by simp)).2
  simp only[aU,bN];rcases cv.1 a with rfl|a
  ·omega
  ·have:=uh f b p y a;omega
theorem Fa{a:Type}(f:a->Int):(p:List a)->(i:Int)->i<=p.foldl (λm y=>max m (f y)) i
 | [],_=>jm _
 | x::p,i=>by
  simp only[gD];have:=Fa f p (max i (f x));omega
theorem BA{b:Type}(f:b->Int):(p:List b)->(i:Int)->(y:b)->y∈p->f y<=p.foldl (λm y=>max m (f y)) i
 | [],_,y,a=>by cases a
 | x::p,i,y,a=>by
  simp only[gD];rcases cv.1 a with rfl|a
  ·have:=Fa f p (max i (f y));omega
  ·exact BA f p _ y a
theorem Od:(n:Nat)->(x:Tm n)->(m:Nat)->(t:Tm m)->(b c:List An)->PZ n x=true->ij n x m t b=some c->sz n x<=sz m t/\fI n x<=fI m t
 | 0,_,_,_,_,_,_,h=>by simp[ij]at h
 | _+1,_,0,_,_,_,_,h=>by simp[ij]at h
 | n+1,x,m+1,t,b,c,hv,h=>by
  have s0:=(fh (m+1) t).1;have k:=(gd (m+1) t).1;simp only[PZ,aK,cu]at hv;have r:¬x.1.1=5:=by simpa using hv.1
  by_cases i:x.1.1=4
  ·have s:¬x.1.1=6:=by omega
   simp only[ij,if_neg s,if_neg r,if_pos i]at h;split at h
   ·rename_i j;have p:=xv _ _ b c h;have key:∀(e:Nat)(a:Tm n)(d:Tm m),x.2.2[e]?=some a->t.2.2[e]?=some d->sz n a<=sz m d/\fI n a<=fI m d:=λe a d f g=>by
     obtain⟨l,o,q⟩:=p e a d f g;exact Od n a m d l o (hv.2 a (aN f)) q
    have u:=KX (λa=>1+sz n a) (λa=>1+sz m a) x.2.2 t.2.2 j.2 λe a d f g=>by have:=key e a d f g;omega
    have v:=Fb (λa=>fI n a) (λa=>fI m a) x.2.2 t.2.2 0 0 (jm _) j.2 λe a d f g=>(key e a d f g).2;simp only[sz,fI,if_pos i,if_pos j.1];omega
   ·cases h
  ·simp only[sz,fI,if_neg i];simp only[sz,fI]at s0 k;exact⟨s0,k⟩
theorem uH{x:Tm n}:bE n x=0 ↔ ch n x=true/\fI n x<=12/\sz n x<=200:=by
 rw[<-gz];unfold wX;constructor
 ·intro a;split at a
  ·rename_i c;split at a
   ·cases a
   ·rename_i f;exact⟨c,by omega,by omega⟩
  ·cases a
 ·rintro ⟨b,d,e⟩;rw[if_pos b,if_neg (by omega)]
def CV(a:An):Prop:=bE a.1 a.2=0/\(b8 a=6\/aS a.1 a.2=true)
theorem oB:uv CV:=by
 intro n b a k c;obtain⟨l,d⟩:=k;obtain⟨g,h,i⟩:=uH.1 l;have f:aI ⟨n+1,b⟩:=aT.2 g;have j:=eR (bI n b) (f (bI n b) (by simp[aC,bI]));have e:b.1.1=4:=by
  by_cases e:b.1.1=4
  ·exact e
  ·have:b.2.2=[]:=bJ (j.2.2.2.2 e);rw[this]at c;cases c
 have o:=uh (λa=>1+sz n a) (λa=>by have:=(fh n a).1;omega) b.2.2 a c;have m:=BA (λa=>fI n a) b.2.2 0 a c;simp only[sz,fI,if_pos e]at h i;refine⟨uH.2 ⟨aT.1 (bf n b a f c),by simp only at m ⊢;omega,by simp only at o ⊢;omega⟩,aj ?_⟩;rcases d with d|d
 ·simp only[b8]at d;omega
 ·exact(yV d).2.2 a c
theorem yq{D:Nat}{l:List (Tm D)}(g:∀y∈c,CV y)(h:l.length=4)(n:c.length=4)(j:CW D l c):gn D l=true:=by
 unfold gn;rw[h];simp only[decide_true,eJ,cu];intro y k;obtain⟨a,e⟩:=dd k;have i:a<c.length:=by have:=(aX.1 e).1;omega
 obtain⟨o,f,d,_⟩:=j a c[a] (aM i);rw[e]at f;obtain rfl:=aA f;obtain⟨m,b⟩:=g c[a] (jM _);unfold BM;rw[bV d,m,kH d,<-fF,cM _ _ _ _ d];rcases b with b|b
 ·have:b8 (⟨(c[a]).1,(c[a]).2⟩:An)=6:=b;rw[this];rfl
 ·rw[b];simp
theorem E9{c:Nat}{l:List (Tm (np b))}(q:gQ (np b) (CC b) w1 w' a c l)(j:∀y∈b,aI y)(r:b.length=4):fM w'.heap.size w' (np b) l a/\l.length=4/\CW (np b) l b/\∀y∈l,aI ⟨np b,y⟩:=by
 obtain⟨E,F,G,H,A,f⟩:=q;have D:(CC b).length=4:=by simp[CC,r]
 have t:fM w'.heap.size w' (np b) l a:=by
  rcases f with f|⟨B,o,p,C,v,f⟩
  ·exact ai f
  ·exact aj ⟨B,o,p,v,λd y i=>⟨(f d y i).1,(f d y i).2.1⟩⟩
 have m:CW (np b) l b:=by
  intro d e h;have g:d<l.length:=by have:=(aX.1 h).1;omega
  have z:(CC b)[d]?=some (aY (np b) e.1 e.2):=by simp[CC,h]
  have x:=jF _ _ _ A d l[d] _ (aM g) z;have u:=fG (np b) e.1 (Af b e (aN h)) e.2 (j e (aN h));have k:=bM _ _ _ _ _ _ x u;exact⟨l[d],aM g,k,aT.2 (by rw[jG _ _ _ _ k];exact aT.1 (j e (aN h)))⟩
 refine⟨t,by omega,m,λy i=>?_⟩;obtain⟨d,g⟩:=dd i;have s:d<b.length:=by have:=(aX.1 g).1;omega
 obtain⟨I,n,_,w⟩:=m d b[d] (aM s);rw[g]at n;obtain rfl:=aA n;exact w
def fw:Tm 1:=((6,0,.empty),(none,0),[])
theorem N2(B:Nat)(w:ag):In B w 1 fw:=⟨⟨by simp[fw,dC],by simp[fw,dC],aL _,by simp[fw],by simp[fw]⟩,ai rfl⟩
theorem Pe:ch 1 fw=true:=by
 have:(ByteArray.empty).toList=[]:=by rw[cE];rfl
 simp[ch,fw,cJ,bI,this]
theorem d1(x:Tm 1)(a:x.1.1≠4):fI 1 x=0/\sz 1 x=0:=by simp[fI,sz,a]
theorem yS:bE 1 fw=0:=by
 rw[uH];have a:=d1 fw (by simp[fw]);exact⟨Pe,by rw[a.1];decide,by rw[a.2];decide⟩
theorem Jb:gn 1 (List.replicate 4 fw)=true:=by
 have:BM 1 fw=true:=by
  unfold BM;rw[yS];rfl
 unfold gn;simp only[List.length_replicate,decide_true,eJ,cu];intro b a;rw[List.eq_of_mem_replicate a];exact this
theorem BF(w:ag):am 153 #[] w λe w'=>e=.returned (ae (some ⟨w.heap.size,0,none⟩) 4 4)/\Hid (gQ 1 (List.replicate 4 fw) w w' (some ⟨w.heap.size,0,none⟩) 4 (List.replicate 4 fw)):=by
 obtain⟨A,l,q,r,s⟩:=bW gw;go_enter func153,ntmps153;go_wp2_with (at_make;refine kY _ rfl _ _ 29 rfl w.heap.size 31 A _ 4 underlying29 l q r _ _ _ _ 4 rfl rfl rfl rfl (by rw[s];omega) (by unfold maxLen;omega) (ao _) ?_;intro C p b);have i:=au (rq 1 (List.replicate 4 fw) 4 p);have h:Hid (ak w C):=⟨b.os,b.tape,b.output,b.size,λk m=>b.block k m (by simp)⟩;clear p b l q r s;go_loopw [6] (λd wr=>∃k:Nat,k<=4/\d=ab k/\Hid (ak w wr/\ur 1 (List.replicate 4 fw) 4 w.heap.size k (List.replicate k fw) wr)) (λd _=>4-(intOf d).toNat)
 case atStart=>exact⟨0,by omega,rfl,h,i⟩
 case round=>
  obtain⟨k,m,rfl,a⟩:=hrel;clear i h;by_cases n:k<4
  ·have t:(List.replicate 4 fw)[k]?=some fw:=by rw[List.getElem?_replicate,if_pos n]
   have j:In wr.heap.size wr 1 fw:=N2 _ _;have o:cr (λf=>w.heap.size<f) 1 fw:=by simp[cr,fw]
   have y:=au (a.2.step n fw t (aq _ _) fw j o (by simp[aB,fw,aG]));have v:Hid (ak w (jD wr w.heap.size (k*4) (gu 1 fw))):=by
    have c:=a.1;exact⟨c.os,c.tape,c.output,aD c.size (dF (bA _ _ _ _).symm),λf z=>(bj (by omega) _ _ _ _).trans (c.block f z)⟩
   obtain⟨g,u⟩:∃g,((List.replicate k fw).map (λD=>(⟨1,D⟩:An))++List.replicate (4-k) zA)[k]?=some g:=⟨_,aM (by simp;omega)⟩;obtain⟨E,F,G,H⟩:=a.out.2.2.1.cells k g u;have I:=λB=>a.2.2.1.free B;have J:(0:Int)<=(k:Int):=by omega
   have K:(k:Int)<4:=by omega
   have L:(k:Int)<=4:=by omega
   clear t j o u a;go_wp2_with fail;go_roundw
   case rel=>
    refine⟨k+1,by omega,by go_num,v,?_⟩;have e:List.replicate (k+1) fw=List.replicate k fw++ [fw]:=List.replicate_succ';rw[e];exact y
   case measure=>simp[intOf];omega
  ·obtain rfl:k=4:=by omega
   have x:=au (a.2.done rfl (by omega) a.1 (by unfold maxLen;omega));go_wp2_with fail
   go_ret
   exact⟨rfl,x⟩
abbrev Ac(n:Nat):Type:=Int×(Tm n×Tm n)×(ap×Int)
abbrev Cl(n:Nat):Type:=(Tm n×Tm n×Tm n)×(aw×Nat)×List (Ac n)
abbrev Bh(n:Nat):Type:=ap×(aw×Nat)×List (Cl n)
def iy(n:Nat)(x:Tm n):List av:=vA (gu n x)
def gi(n:Nat)(a:Ac n):List av:=ab a.1::(iy n a.2.1.1++iy n a.2.1.2++ [af a.2.2.1,ab a.2.2.2])
def fk(n:Nat)(c:Cl n):List av:=iy n c.1.1++iy n c.1.2.1++(ae c.2.1.1 c.2.2.length c.2.1.2::iy n c.1.2.2)
def pN(n:Nat)(b:Bh n):List av:=[af b.1,ae b.2.1.1 b.2.2.length b.2.1.2]
def qi{c:Type}(B:Nat)(w:ag)(k:Nat)(f:c->List av)(i:c->Prop)(a:aw)(l:List c):Prop:=
 l=[]\/∃b o,a=some ⟨b,o,none⟩/\b<B/\∀(e:Nat)(d:c),l[e]?=some d->(∀(g:Nat)(h:av),(f d)[g]?=some h->w.cell? ⟨b,o+e*k+g,none⟩=some h)/\i d
def iJ(n:Nat)(B:Nat)(w:ag)(a:Ac n):Prop:=dC a.1/\In B w n a.2.1.1/\In B w n a.2.1.2/\a.2.2.1.size<=maxLen/\dC a.2.2.2
def ig(n:Nat)(B:Nat)(w:ag)(c:Cl n):Prop:=(In B w n c.1.1/\In B w n c.1.2.1/\In B w n c.1.2.2)/\(c.2.2.length<=c.2.1.2/\c.2.1.2<=maxLen)/\qi B w 11 (gi n) (iJ n B w) c.2.1.1 c.2.2
def pJ(n:Nat)(B:Nat)(w:ag)(b:Bh n):Prop:=b.1.size<=maxLen/\(b.2.2.length<=b.2.1.2/\b.2.1.2<=maxLen)/\qi B w 13 (fk n) (ig n B w) b.2.1.1 b.2.2
def tI{c:Type}(d:c->Prop)(P:aR)(a:aw)(l:List c):Prop:=l=[]\/∃b o,a=some ⟨b,o,none⟩/\P b/\∀y∈l,d y
def mg(n:Nat)(P:aR)(a:Ac n):Prop:=cr P n a.2.1.1/\cr P n a.2.1.2
def jY(n:Nat)(P:aR)(c:Cl n):Prop:=(cr P n c.1.1/\cr P n c.1.2.1/\cr P n c.1.2.2)/\tI (mg n P) P c.2.1.1 c.2.2
def jX(n:Nat)(P:aR)(b:Bh n):Prop:=tI (jY n P) P b.2.1.1 b.2.2
def jZ{f:Type}(g:Nat->ag->f->Prop)(h:(Nat->Prop)->f->Prop):Prop:=
 (∀(e j:aR)(a:f),(∀b,e b->j b)->h e a->h j a)/\(∀(e:aR)(c:Nat)(d:ag)(a:f),h e a->g c d a->h (λb=>e b/\b<c) a)/\
 (∀(e:aR)(c:Nat)(d k:ag)(a:f),(∀b,e b->k.heap[b]?=d.heap[b]?)->h e a->g c d a->g c k a)/\(∀(c i:Nat)(d:ag)(a:f),c<=i->g c d a->g i d a)/\
 (∀(c:Nat)(d:ag)(a:f),g c d a->h (λb=>b<c) a)
theorem oU{B:Nat}{w:ag}:{n:Nat}->{x:Tm n}->In B w n x->cr (λb=>b<B) n x
 | 0,_,k=>k
 | _+1,_,k=>by
  obtain⟨_,a⟩:=k;rcases a with a|⟨b,o,e,c,a⟩
  ·exact ai a
  ·exact aj ⟨b,o,e,c,λi y d=>oU (a i y d).2⟩
theorem ei(n:Nat):jZ (λB w x=>In B w n x) (λP x=>cr P n x):=
 ⟨λ_ _ _ a k=>k.mono a,λ_ _ _ _ a k=>In.offB a k,λ_ _ _ _ _ a b k=>In.off a b k,λ_ _ _ _ a k=>k.mono a,λ_ _ _ k=>oU k⟩
theorem fO(n:Nat):jZ (iJ n) (mg n):=by
 obtain⟨i,j,l,m,o⟩:=ei n
 exact⟨λd g e b k=>⟨i d g _ b k.1,i d g _ b k.2⟩,λd a c e b k=>⟨j d a c _ b.1 k.2.1,j d a c _ b.2 k.2.2.1⟩,
  λd a c p e b h k=>⟨k.1,l d a c p _ b h.1 k.2.1,l d a c p _ b h.2 k.2.2.1,k.2.2.2⟩,λa f c e b k=>⟨k.1,m a f c _ b k.2.1,m a f c _ b k.2.2.1,k.2.2.2⟩,
  λa c e k=>⟨o a c _ k.2.1,o a c _ k.2.2.1⟩⟩
theorem cN(g:jZ e d)(k:Nat)(f:h->List av)(a:aw):jZ (λB w l=>qi B w k f (e B w) a l) (λP l=>tI (d P) P a l):=by
 obtain⟨C,D,E,F,G⟩:=g;refine⟨λP v r g k=>?_,λP B w r g k=>?_,λP B w I r g q k=>?_,λB u w r g k=>?_,λB w r k=>?_⟩
 ·rcases k with k|⟨b,o,j,n,k⟩
  ·exact ai k
  ·exact aj ⟨b,o,j,g b n,λc i=>C P v c g (k c i)⟩
 ·rcases k with k|⟨b,o,j,n,k⟩
  ·exact ai k
  ·rcases g with g|⟨x,A,p,s,g⟩
   ·exact ai g
   ·rw[j]at p;simp at p;obtain⟨rfl,rfl⟩:=p;refine aj ⟨b,o,j,⟨s,n⟩,λc i=>?_⟩;obtain⟨m,t⟩:=dd i;exact D P B w c (g c i) (k m c t).2
 ·rcases k with k|⟨b,o,j,n,k⟩
  ·exact ai k
  ·rcases q with q|⟨x,A,p,s,q⟩
   ·exact ai q
   ·rw[j]at p;simp at p;obtain⟨rfl,rfl⟩:=p;exact aj ⟨b,o,j,n,λm c i=>⟨λz H y=>(bD (g b s) _).trans ((k m c i).1 z H y),E P B w I c g (q c (aN i)) (k m c i).2⟩⟩
 ·rcases k with k|⟨b,o,j,n,k⟩
  ·exact ai k
  ·exact aj ⟨b,o,j,by omega,λm c i=>⟨(k m c i).1,F B u w c g (k m c i).2⟩⟩
 ·rcases k with k|⟨b,o,j,n,k⟩
  ·exact ai k
  ·refine aj ⟨b,o,j,n,λc i=>?_⟩;obtain⟨m,t⟩:=dd i;exact G B w c (k m c t).2
theorem eE(n:Nat):jZ (ig n) (jY n):=by
 obtain⟨l,m,o,p,q⟩:=ei n;have e:=λr=>cN (fO n) 11 (gi n) r
 exact⟨λd g j b k=>⟨⟨l d g _ b k.1.1,l d g _ b k.1.2.1,l d g _ b k.1.2.2⟩,(e _).1 d g _ b k.2⟩,
  λd a c j b k=>⟨⟨m d a c _ b.1.1 k.1.1,m d a c _ b.1.2.1 k.1.2.1,m d a c _ b.1.2.2 k.1.2.2⟩,(e _).2.1 d a c _ b.2 k.2.2⟩,
  λd a c i j b h k=>⟨⟨o d a c i _ b h.1.1 k.1.1,o d a c i _ b h.1.2.1 k.1.2.1,o d a c i _ b h.1.2.2 k.1.2.2⟩,k.2.1,(e _).2.2.1 d a c i _ b h.2 k.2.2⟩,
  λa f c j b k=>⟨⟨p a f c _ b k.1.1,p a f c _ b k.1.2.1,p a f c _ b k.1.2.2⟩,k.2.1,(e _).2.2.2.1 a f c _ b k.2.2⟩,
  λa c j k=>⟨⟨q a c _ k.1.1,q a c _ k.1.2.1,q a c _ k.1.2.2⟩,(e _).2.2.2.2 a c _ k.2.2⟩⟩
theorem ed(n:Nat):jZ (pJ n) (jX n):=by
 have d:=λi=>cN (eE n) 13 (fk n) i
 exact⟨λe h f b k=>(d _).1 e h _ b k,λe a c f b k=>(d _).2.1 e a c _ b k.2.2,λe a c l f b j k=>⟨k.1,k.2.1,(d _).2.2.1 e a c l _ b j k.2.2⟩,
  λa g c f b k=>⟨k.1,k.2.1,(d _).2.2.2.1 a g c _ b k.2.2⟩,λa c f k=>(d _).2.2.2.2 a c _ k.2.2⟩
def gq(n:Nat)(B:Nat)(w:ag)(a:aw)(l:List (Bh n)):Prop:=qi B w 2 (pN n) (pJ n B w) a l
theorem jZ.below(a:jZ e d)(c:Below B w w'){x:h}(k:e B w x):e B w' x:=
 a.2.2.1 (λb=>b<B) B w w' x (λb f=>c.block b f) (a.2.2.2.2 B w x k) k
theorem jZ.mono(a:jZ e d){C:Nat}(b:B<=C){x:h}(k:e B w x):e C w x:=a.2.2.2.1 B C w x b k
theorem gq.below{n B:Nat}{w w':ag}{a:aw}{l:List (Bh n)}(b:Below B w w')(k:gq n B w a l):gq n B w' a l:=(cN (ed n) 2 (pN n) a).below b k
theorem gq.mono{n B C:Nat}(b:B<=C){w:ag}{a:aw}{l:List (Bh n)}(k:gq n B w a l):gq n C w a l:=(cN (ed n) 2 (pN n) a).mono b k
def ft{a:Type}(d:Nat->ag->a->Prop)(e:(Nat->Prop)->a->Prop)(f:a->List av)(k:Nat)(T:TypeId)(B base:Nat)(xs:List a)(v:av)(w0 wr:ag):Prop:=
 Below base w0 wr/\wr.ownsRow base T k v xs.length (xs.flatMap f)/\∀c∈xs,d wr.heap.size wr c/\e (λb=>(b<B\/base<=b)/\v.ownBlock≠some b) c
theorem ft.nil(w:ag):ft e d f k T B base [] (ae none 0 0) w w:=
 ⟨aq _ _,eP _ _ _ _,λb a=>by cases a⟩
theorem ft.later(b:jZ e d)(j:ft e d f k T B base xs v w0 wr)(l:base<=wr.heap.size)(a:ak wr w1):ft e d f k T B base xs v w0 w1:=by
 obtain⟨m,n,g⟩:=j;exact⟨m.trans (a.mono l),dY n a,λi c=>⟨b.mono a.size (b.below a (g i c).1),(g i c).2⟩⟩
theorem ft.step(j:jZ e d)(D:ft e d f k T B base xs v w0 wr)(L:B<=base)(y:base<=wr.heap.size)(n:ak wr w1)(l:h)(w:e w1.heap.size w1 l)(F:d (λb=>b<B\/wr.heap.size<=b) l){c:Nat}(H:w2.ownsRow base T k (ae (some ⟨g,0,none⟩) (xs.length+1) c) (xs.length+1) (xs.flatMap f++f l))(p:w1.grownBy w2 v.ownBlock)(x:v.ownBlock=some g\/g=w1.heap.size):ft e d f k T B base (xs++ [l]) (ae (some ⟨g,0,none⟩) (xs.length+1) c) w0 w2:=by
 obtain⟨r,J,K⟩:=D;have u:∀b,v.ownBlock=some b->base<=b/\b<wr.heap.size:=λb i=>J.lt b i;have t:∀b,b<w1.heap.size->v.ownBlock≠some b->w2.heap[b]?=w1.heap[b]? :=λb y G=>p.block b y (λi=>G i.symm);have E:=n.size;have z:=p.size;refine⟨⟨(p.os.trans n.os).trans r.os,(p.tape.trans n.tape).trans r.tape,(p.output.trans n.output).trans r.output,by have:=r.size;omega,λb a=>?_⟩,?_,?_⟩
 ·exact(t b (by omega) (λi=>by have:=(u b i).1;omega)).trans ((n.block b (by omega)).trans (r.block b a))
 ·have C:(xs++ [l]).length=xs.length+1:=by simp
  have m:(xs++ [l]).flatMap f=xs.flatMap f++f l:=by simp
  rw[C,m];exact H
 ·intro s o;rcases dr.1 o with o|o
  ·obtain⟨A,I⟩:=K s o;have q:=j.2.1 _ _ _ _ I A;refine⟨j.mono z (j.2.2.1 _ _ w1 w2 s (λb a=>t b ?_ a.1.2) q (j.mono E (j.below n A))),j.1 _ _ s (λb a=>⟨a.1.1,?_⟩) q⟩
   ·have:=a.2;omega
   ·simp only[Value.ownBlock];intro i;injection i with i;rcases x with m|m
    ·exact a.1.2 (by rw[m,i])
    ·have:=a.2;omega
  ·simp only[dS]at o;subst o;have q:=j.2.1 _ _ _ _ F w;refine⟨j.mono z (j.2.2.1 _ _ w1 w2 s (λb a=>t b a.2 (λi=>?_)) q w),j.1 _ _ s (λb a=>⟨?_,?_⟩) q⟩
   ·have:=u b i;have:=a.1;omega
   ·have:=a.1;omega
   ·simp only[Value.ownBlock];intro i;injection i with i;rcases x with m|m
    ·have:=u g m;have:=a.1;omega
    ·have:=a.2;omega
theorem ft.lit(a:jZ e d)(xs:List h){cs:Array av}(i:cs.toList=xs.flatMap f)(r:∀x,(f x).length=k)(p:xs.length<=maxLen)(m:base<=w1.heap.size)(q:Below base w0 w1)(c:∀y∈xs,e w1.heap.size w1 y/\d (λb=>b<B\/base<=b) y):ft e d f k T B base xs (ae (some ⟨w1.heap.size,0,none⟩) xs.length xs.length) w0 (w1.alloc (.cells cs T)):=by
 have g:ak w1 (w1.alloc (.cells cs T)):=(aq _ _).alloc (ao _) _;have o:(xs.flatMap f).length=xs.length*k:=by
  clear i c p
  induction xs with
  | nil=>simp
  | cons x xs ih=>rw[bK,bw,ih,r,br,Nat.succ_mul];omega
 have s:cs.size=xs.length*k:=by rw[<-o,<-i];simp
 refine⟨q.trans (g.mono m),⟨by rw[o],aj ⟨w1.heap.size,xs.length,cs,rfl,m,aF w1 _,ao _,p,by omega,?_⟩⟩,λy j=>⟨a.mono g.size (a.below g (c y j).1),?_⟩⟩
 ·rw[i,bF (by omega)]
 ·refine a.1 _ _ y (λb n=>⟨n.1,?_⟩) (a.2.1 _ _ _ _ (c y j).2 (c y j).1);simp only[Value.ownBlock];intro l;injection l with l;have:=n.2;omega
theorem ft.lay(y:jZ e d)(u:∀x,(f x).length=k)(m:ft e d f k T B base xs v w0 wr):∃a c,v=ae a xs.length c/\(xs.length<=c/\c<=maxLen)/\qi wr.heap.size wr k f (e wr.heap.size wr) a xs/\tI (d (λb=>b<B\/base<=b)) (λb=>b<B\/base<=b) a xs:=by
 obtain⟨M,H,w⟩:=m;rcases H.2 with⟨r,J⟩|⟨s,cap,I,r,E,t,C,F,L,D⟩
 ·have G:xs=[]:=bJ (by omega);subst G;exact⟨none,0,r,⟨ao _,aL _⟩,ai rfl,ai rfl⟩
 ·refine⟨some ⟨s,0,none⟩,cap,r,⟨C,F⟩,aj ⟨s,0,rfl,(aJ.1 t).1,λg i q=>⟨λj o p=>?_,(w i (aN q)).1⟩⟩,aj ⟨s,0,rfl,aj E,λi q=>y.1 _ _ i (λb A=>A.1) (w i q).2⟩⟩;have z:∀(l:List h)(g j:Nat)(i:h)(o:av),l[g]?=some i->(f i)[j]?=some o->(l.flatMap f)[g*k+j]?=some o:=by
   intro l
   induction l with
   | nil=>intro g j i o m;simp at m
   | cons x l ih=>
    intro g j i o m p;rw[bK];cases g with
    | zero=>
     simp at m;subst m;rw[dx (by have:=(aX.1 p).1;omega)];simpa using p
    | succ g=>
     rw[eq (by rw[u,Nat.succ_mul];omega),u,Nat.succ_mul,show g*k+k+j-k=g*k+j by omega];exact ih g j i o (by simpa using m) p
  have n:=z xs g j i o q p;have K:=(aX.1 n).1;rw[<-D]at n;rw[jp]at n;split at n
  ·rw[de];simp only[World.cell?,t];rw[mT]at n;simpa using n
  ·cases n
def IU(i:Option (List An))(f:List An->Option (List An))(w:ag)(e:Ending)(w':ag):Prop:=
 ∃h len c d,e=.returned (.tuple #[ae h len c,.bool d])/\Hid (ak w w'/\(i=none->d=false)/\∀b,i=some b->∃g:List (Tm (np b)),aG (λk m=>aB (np b) k (np b) m) g (CC b)=true/\(f (nX (np b) g)=none->d=false)/\
  ∀a,f (nX (np b) g)=some a->d=true/\len=4/\a.length=4/\∃j l,w.heap.size<=j.heap.size/\gQ (np a) (CC a) j w' h c l)
theorem DX(g h j k v x s0 s1 K t1:Int)(i m y q t2:ap)(pa n z sa L t:aw)(pl pc p o B A sl sc N M cl u:Nat)(S:Option (List An))(f:List An->Option (List An))(w:ag)(Y:Hid (∀E W,ak w E->gQ 1 (List.replicate 4 fw) E W (some ⟨E.heap.size,0,none⟩) 4 (List.replicate 4 fw)->am 152 #[.agg #[ab g,ab h,af i,ae pa pl pc],.agg #[ab s0,ab s1,af q,ae sa sl sc],ae (some ⟨E.heap.size,0,none⟩) 4 4] W (yE 0 S W)))(aG:Hid (∀(b:List An)(l:List (Tm (np b)))(a:aw)(c:Nat)(E W:ag),ak w W->S=some b->b.length=4->gQ (np b) (CC b) E W a c l->am 152 #[.agg #[ab j,ab k,af m,ae n p o],.agg #[ab K,ab t1,af t2,ae L N M],ae a 4 c] W (yE 0 (f (nX (np b) l)) W))):am 115 #[.agg #[ab g,ab h,af i,ae pa pl pc,ab j,ab k,af m,ae n p o,ae t cl u,ab v,ab x,af y,ae z B A],.agg #[ab s0,ab s1,af q,ae sa sl sc],.agg #[ab K,ab t1,af t2,ae L N M]] w (IU S f w):=by
 go_enter func115,ntmps115;go_wp2_with fail;have Z:Hid (∃s d e F,(s=((w.alloc (.cells #[ab g,ab h,af i,ae pa pl pc,ab j,ab k,af m,ae n p o,ae t cl u,ab v,ab x,af y,ae z B A] 162)).alloc (.cells #[ab s0,ab s1,af q,ae sa sl sc] 31)).alloc (.cells #[ab K,ab t1,af t2,ae L N M] 31)/\d=w.heap.size/\e=w.heap.size+1/\F=w.heap.size+2)/\ak w s/\∀W,ak s W->(W.cell? ⟨d,0,none⟩=some (ab g)/\W.cell? ⟨d,1,none⟩=some (ab h)/\W.cell? ⟨d,2,none⟩=some (af i)/\W.cell? ⟨d,3,none⟩=some (ae pa pl pc))/\(W.cell? ⟨d,4,none⟩=some (ab j)/\W.cell? ⟨d,5,none⟩=some (ab k)/\W.cell? ⟨d,6,none⟩=some (af m)/\W.cell? ⟨d,7,none⟩=some (ae n p o))/\(W.cell? ⟨e,0,none⟩=some (ab s0)/\W.cell? ⟨e,1,none⟩=some (ab s1)/\W.cell? ⟨e,2,none⟩=some (af q)/\W.cell? ⟨e,3,none⟩=some (ae sa sl sc))/\(W.cell? ⟨F,0,none⟩=some (ab K)/\W.cell? ⟨F,1,none⟩=some (ab t1)/\W.cell? ⟨F,2,none⟩=some (af t2)/\W.cell? ⟨F,3,none⟩=some (ae L N M))):=by
  have aV:(w.alloc (.cells #[ab g,ab h,af i,ae pa pl pc,ab j,ab k,af m,ae n p o,ae t cl u,ab v,ab x,af y,ae z B A] 162)).heap.size=w.heap.size+1:=by simp
  have aW:((w.alloc (.cells #[ab g,ab h,af i,ae pa pl pc,ab j,ab k,af m,ae n p o,ae t cl u,ab v,ab x,af y,ae z B A] 162)).alloc (.cells #[ab s0,ab s1,af q,ae sa sl sc] 31)).heap.size=w.heap.size+2:=by simp
  refine⟨_,_,_,_,⟨rfl,rfl,rfl,rfl⟩,(((aq _ _).alloc (ao _) _).alloc (by simp) _).alloc (by simp;omega) _,λW G=>?_⟩;have r:=(G.block w.heap.size (by simp;omega)).trans ((((aq _ _).alloc (ao _) _).block w.heap.size (by simp;omega)).trans ((((aq _ _).alloc (ao _) _).block w.heap.size (by simp)).trans (aF w (.cells #[ab g,ab h,af i,ae pa pl pc,ab j,ab k,af m,ae n p o,ae t cl u,ab v,ab x,af y,ae z B A] 162))));have av:=aF (w.alloc (.cells #[ab g,ab h,af i,ae pa pl pc,ab j,ab k,af m,ae n p o,ae t cl u,ab v,ab x,af y,ae z B A] 162)) (.cells #[ab s0,ab s1,af q,ae sa sl sc] 31);rw[aV]at av;have Q:=(G.block (w.heap.size+1) (by simp)).trans ((((aq _ _).alloc (ao _) _).block (w.heap.size+1) (by simp)).trans av);have ax:=aF ((w.alloc (.cells #[ab g,ab h,af i,ae pa pl pc,ab j,ab k,af m,ae n p o,ae t cl u,ab v,ab x,af y,ae z B A] 162)).alloc (.cells #[ab s0,ab s1,af q,ae sa sl sc] 31)) (.cells #[ab K,ab t1,af t2,ae L N M] 31);rw[aW]at ax;have R:=(G.block (w.heap.size+2) (by simp)).trans ax;exact⟨⟨ah r 0,ah r 1,ah r 2,ah r 3⟩,⟨ah r 4,ah r 5,ah r 6,ah r 7⟩,⟨ah Q 0,ah Q 1,ah Q 2,ah Q 3⟩,ah R 0,ah R 1,ah R 2,ah R 3⟩
 obtain⟨s,d,e,F,⟨an,ai,aj,al⟩,C,D⟩:=Z.out;rw[<-an,<-al,<-aj,<-ai];replace C:=au C;replace D:=au D;clear an ai aj al Z;obtain⟨⟨az,aA,aB,aC⟩,_,⟨y0,y1,y2,aE⟩,_⟩:=D.out s (aq _ _);have I:Hid (ak s s.drew):=(aq _ _).drew;have P:Hid (∀W,ak s W->(W.cell? ⟨d,0,none⟩=some (ab g)/\W.cell? ⟨d,1,none⟩=some (ab h)/\W.cell? ⟨d,2,none⟩=some (af i)/\W.cell? ⟨d,3,none⟩=some (ae pa pl pc))/\(W.cell? ⟨e,0,none⟩=some (ab s0)/\W.cell? ⟨e,1,none⟩=some (ab s1)/\W.cell? ⟨e,2,none⟩=some (af q)/\W.cell? ⟨e,3,none⟩=some (ae sa sl sc))):=λW G=>⟨(D W G).1,(D W G).2.2.1⟩
 go_region_held3 (λW=>(W.cell? ⟨d,0,none⟩=some (ab g)/\W.cell? ⟨d,1,none⟩=some (ab h)/\W.cell? ⟨d,2,none⟩=some (af i)/\W.cell? ⟨d,3,none⟩=some (ae pa pl pc))/\(W.cell? ⟨e,0,none⟩=some (ab s0)/\W.cell? ⟨e,1,none⟩=some (ab s1)/\W.cell? ⟨e,2,none⟩=some (af q)/\W.cell? ⟨e,3,none⟩=some (ae sa sl sc)))
  (first|(go_keep;done)|exact P _ I|exact P _ T|exact P _ O) ((first
   | (go_at_call 153;refine(BF _).mono ?_;rintro aa ba ⟨rfl,V⟩;have O:=au (I.trans (V.1.mono I.size)))
   | (go_at_call 152;refine(Y _ _ (C.trans (I.mono C.size)) V).mono ?_;rintro aa ay ⟨aJ,a2,aM,a5,rfl,J⟩;have T:=au (O.trans (J.1.mono O.size)))))
 have H:=au (C.trans (T.mono C.size));clear az aA aB aC y0 y1 y2 aE P V O I Y;cases S with
 | none=>
  obtain⟨rfl,rfl⟩:a2=0/\a5=false:=J.out.2.1 (by simp);clear J;go_wp2_with fail
  go_ret2
  exact⟨none,0,0,false,rfl,H,λ_=>rfl,λb aP=>by cases aP⟩
 | some b=>
  obtain⟨aU,aS,ad,a7,ar,aX,X⟩:=J.out.2.2 b trivial rfl;subst aU aS;have aI:=au (aG b ar aJ aM a7 ay H rfl ad X);have aH:=au X.2.2.2.2.1;obtain⟨_,⟨az,aA,aB,aC⟩,_,y0,y1,y2,aE⟩:=D ay T;clear X J ad aX;go_wp2_with fail;refine aI.mono ?_;rintro aa bb ⟨aK,a3,aN,a6,rfl,U⟩;go_wp2_with fail
  go_ret2
  refine⟨aK,a3,aN,a6,rfl,H.trans (U.1.mono H.size),(λaO=>by cases aO),λa9 aQ=>?_⟩;cases aQ;refine⟨ar,aH,λaT=>(U.2.1 (by simp[aT])).2,λaL aR=>?_⟩;obtain⟨aY,aZ,a0,a8,a4,a1,kc⟩:=U.2.2 aL trivial aR;exact⟨aY,aZ,a0,a8,a4,aD H.size a1,kc⟩
theorem L7{p l:List (Tm n)}{c:Nat}(i:gQ n p w w' a c l):fM w'.heap.size w' n l a:=by
 obtain⟨_,_,_,_,_,k⟩:=i;rcases k with d|⟨b,o,d,_,j,e⟩
 ·exact ai d
 ·exact aj ⟨b,o,d,j,λg h f=>⟨(e g h f).1,(e g h f).2.1⟩⟩
theorem rL(a:CV y):aI y:=aT.2 (bG.1 a.1).1
theorem CY:∀y∈nX 1 (List.replicate 4 fw),CV y:=by
 intro y a;simp only[nX,cm,List.mem_replicate]at a;obtain⟨b,⟨_,rfl⟩,rfl⟩:=a;exact⟨yS,ai rfl⟩
theorem fo{x:Tm n}(a:bE n x=0):(aC n x).length<=2097152:=aD (oe a) (by omega)
theorem Hh(n m k:Nat)(c:Cl (n+1))(s:Tm (m+1))(t:Tm (k+1))(B:Nat)(w:ag)(C:ig (n+1) B w c)(K:In B w (m+1) s)(L:In B w (k+1) t)(a:B<=w.heap.size)(u:bE (n+1) c.1.1=0)(v:bE (n+1) c.1.2.1=0)(p:bE (m+1) s=0)(x:km (m+1) s=true)(y:bE (k+1) t=0)(H:km (k+1) t=true):am 115 #[.agg (fk (n+1) c).toArray,dw (m+1) s,dw (k+1) t] w (IU (ij (n+1) c.1.1 (m+1) s (nX 1 (List.replicate 4 fw))) (ij (n+1) c.1.2.1 (k+1) t) w):=by
 refine DX c.1.1.1.1 c.1.1.1.2.1 c.1.2.1.1.1 c.1.2.1.1.2.1 c.1.2.2.1.1 c.1.2.2.1.2.1 s.1.1 s.1.2.1 t.1.1 t.1.2.1 c.1.1.1.2.2 c.1.2.1.1.2.2 c.1.2.2.1.2.2 s.1.2.2 t.1.2.2 c.1.1.2.1.1 c.1.2.1.2.1.1 c.1.2.2.2.1.1 s.2.1.1 t.2.1.1 c.2.1.1
  c.1.1.2.2.length c.1.1.2.1.2 c.1.2.1.2.2.length c.1.2.1.2.1.2 c.1.2.2.2.2.length c.1.2.2.2.1.2 s.2.2.length s.2.1.2 t.2.2.length t.2.1.2 c.2.2.length c.2.1.2 _ _ w ?_ ?_
 ·intro r d z i;have h:=z.trans (i.1.mono z.size)
  have e:=xB (n+1) (m+1) 1 c.1.1 s (List.replicate 4 fw) (some ⟨r.heap.size,0,none⟩) 4 d.heap.size d ((C.1.1.below (h.mono a)).mono (aD a h.size)) ((K.below (h.mono a)).mono (aD a h.size)) (L7 i) (ao _) (fo u) (fo p) (λj f=>by
   rw[(List.mem_replicate.1 f).2]
   exact fo yS) (by simp)
  have o:tL (bE (n+1) c.1.1) (bE (m+1) s) (km (m+1) s) (gn 1 (List.replicate 4 fw))=0:=by
   rw[u,p,x,Jb];rfl
  rw[o]at e;exact e
 ·intro b l E F r d g J G i;have q:=lh CV oB (n+1) c.1.1 (m+1) s ⟨p,aj (by rw[fF];exact x)⟩ (nX 1 (List.replicate 4 fw)) b ⟨by simp[nX],CY⟩ J;obtain⟨I,D,M,N⟩:=E9 i (λj f=>rL (q.2 j f)) G;have A:=yq q.2 D q.1 M;have e:=xB (n+1) (k+1) (np b) c.1.2.1 t l E F d.heap.size d ((C.1.2.1.below (g.mono a)).mono (aD a g.size)) ((L.below (g.mono a)).mono (aD a g.size)) I (ao _) (fo v) (fo y) (λj f=>fo ((im A).2 j f).1) (by omega);have o:tL (bE (n+1) c.1.2.1) (bE (k+1) t) (km (k+1) t) (gn (np b) l)=0:=by
   rw[v,y,H,A];rfl
  rw[o,D]at e;exact e
end Go.Proofs.YtmmahddlcldmiaaGreat
