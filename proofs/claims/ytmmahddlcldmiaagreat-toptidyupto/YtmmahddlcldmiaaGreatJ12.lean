/- Proved here: plain facts and contracts. No condition but what each names. -/
import Derived.Lib.SliceRun
import Derived.Deep.RegionLaw
import Derived.Laws.CopyRow
import Derived.Test.YtmmahddlcldmiaaGreatJ11
import Derived.OrdersHeld
namespace Go.Proofs.YtmmahddlcldmiaaGreat
open Go.RowKit Go.Proofs.Tryz
set_option maxHeartbeats 4000000
set_option maxRecDepth 100000
theorem B8{n m b a:Nat}{x:Tm n}{y:Tm m}{x':Tm b}{c:Tm a}(e:ax n x b x'=true)(k:ax m y a c=true):ax n x m y=ax b x' a c:=by
 cases d:ax b x' a c with
 | true=>exact bH _ _ _ _ _ _ e (bH _ _ _ _ _ _ d (dw _ _ _ _ k))
 | false=>
  cases e2:ax n x m y with
  | false=>rfl
  | true=>
   have f:=bH _ _ _ _ _ _ (dw _ _ _ _ e) (bH _ _ _ _ _ _ e2 k);rw[d]at f;cases f
def oA:Option (List An)->Option (List An)->Prop
 | none,none=>True
 | some b,some c=>aB eq b c=true
 | _,_=>False
theorem vb{x y:An}(a:eq x y=true):bU x=bU y:=by
 obtain⟨n,x⟩:=x;obtain⟨b,y⟩:=y;cases n with
 | zero=>simp[eq,ax]at a
 | succ n=>
  cases b with
  | zero=>simp[eq,ax]at a
  | succ b=>
   simp only[eq,ax,aG,cv]at a;exact a.1.1.1
theorem ut{c β:Type}{f:c->β->Bool}{a:c}{b:β}(d:f a b=true):(p:List c)->(q:List β)->(i:Nat)->aB f p q=true->aB f (p.set i a) (q.set i b)=true
 | [],[],_,_=>by simp[aB]
 | [],_::_,_,h=>by simp[aB]at h
 | _::_,[],_,h=>by simp[aB]at h
 | x::p,y::q,0,h=>by
  simp only[aB,aG]at h;simp[aB,d,h.2]
 | x::p,y::q,i+1,h=>by
  simp only[aB,aG]at h;simp[aB,h.1,ut d p q i h.2]
theorem Dd{b c:List An}{i:Nat}{t u:An}(f:aB eq b c=true)(h:eq t u=true):oA (uN b i t) (uN c i u):=by
 have n:=cI _ _ _ f;unfold uN;cases e:b[i]? with
 | none=>
  have a:c[i]?=none:=by
   rw[List.getElem?_eq_none_iff]at e ⊢;omega
  rw[a];trivial
 | some g=>
  obtain⟨m,l⟩:=aS.1 e;have a:c[i]?=some c[i]:=aI (by omega);rw[a];have j:eq g c[i]=true:=jA _ _ _ f i _ _ e a;simp only;rw[<-vb j];by_cases d:bU g=6
  ·rw[if_pos d,if_pos d];exact ut h _ _ _ f
  ·rw[if_neg d,if_neg d];have k:eq g t=eq c[i] u:=B8 j h;rw[<-k];cases eq g t
   ·simp[oA]
   ·simpa [oA]using f
theorem uM{n β o r:Type}(f:n->β->List An->Option (List An))(g:o->r->List An->Option (List An))(P:n->o->Bool)(Q:β->r->Bool):(p:List n)->(q:List β)->(a:List o)->(h:List r)->(∀x∈p,∀y∈q,∀x' k b c,P x x'=true->Q y k=true->aB eq b c=true->oA (f x y b) (g x' k c))->aB P p a=true->aB Q q h=true->∀b c,aB eq b c=true->oA (iH f p q b) (iH g a h c)
 | [],_,a,_,_,i,_,b,c,l=>by
  cases a with
  | nil=>simpa [iH,oA]using l
  | cons _ _=>simp[aB]at i
 | x::p,[],a,h,_,i,j,b,c,l=>by
  cases h with
  | nil=>cases a<;>simpa [iH,oA]using l
  | cons _ _=>simp[aB]at j
 | x::p,y::q,a,h,hf,i,j,b,c,l=>by
  cases a with
  | nil=>simp[aB]at i
  | cons x' a=>
   cases h with
   | nil=>simp[aB]at j
   | cons k h=>
    simp only[aB,aG]at i j;have e:=hf x (by simp) y (by simp) x' k b c i.1 j.1 l;simp only[iH];cases e1:f x y b with
    | none=>
     rw[e1]at e;cases m:g x' k c with
     | none=>simp[oA]
     | some _=>rw[m]at e;exact e.elim
    | some d=>
     rw[e1]at e;cases m:g x' k c with
     | none=>rw[m]at e;exact e.elim
     | some s=>
      rw[m]at e;simp only[dB];exact uM f g P Q p q a h (λx t y u=>hf x (by simp[t]) y (by simp[u])) i.2 j.2 d s e
theorem mn:(n:Nat)->(p:Tm n)->(m:Nat)->(t:Tm m)->(d:Nat)->(j:Tm d)->(a:Nat)->(k:Tm a)->(b c:List An)->ax n p d j=true->ax m t a k=true->aB eq b c=true->oA (hU n p m t b) (hU d j a k c)
 | 0,_,_,_,_,_,_,_,_,_,h,_,_=>by simp[ax]at h
 | _+1,_,_,_,0,_,_,_,_,_,h,_,_=>by simp[ax]at h
 | _+1,_,0,_,_+1,_,_,_,_,_,_,h,_=>by simp[ax]at h
 | _+1,_,_+1,_,_+1,_,0,_,_,_,_,h,_=>by simp[ax]at h
 | n+1,p,m+1,t,d+1,j,a+1,k,b,c,hp,ht,hb=>by
  have u:=hp;have l:=ht;simp only[ax,aG,cv]at hp ht;obtain⟨⟨⟨v,w⟩,A⟩,o⟩:=hp;obtain⟨⟨⟨t1,t2⟩,t3⟩,t4⟩:=ht;unfold hU;rw[<-v,<-w,<-t1,<-cI _ _ _ o,<-cI _ _ _ t4];by_cases g:p.1.1=6
  ·rw[if_pos g,if_pos g];exact hb
  ·rw[if_neg g,if_neg g];by_cases f:p.1.1=5
   ·rw[if_pos f,if_pos f];exact Dd hb l
   ·rw[if_neg f,if_neg f];by_cases e:p.1.1=4
    ·rw[if_pos e,if_pos e];by_cases i:t.1.1=4/\p.2.2.length=t.2.2.length
     ·rw[if_pos i,if_pos i];exact uM _ _ (λx y=>ax n x d y) (λx y=>ax m x a y) p.2.2 t.2.2 j.2.2 k.2.2 (λx _ y _ x' z b c q r s=>mn n x m y d x' a z b c q r s) o t4 b c hb
     ·rw[if_neg i,if_neg i];trivial
    ·rw[if_neg e,if_neg e,<-B8 u l];cases ax (n+1) p (m+1) t
     ·simp[oA]
     ·simpa [oA]using hb
theorem A9{w w':World}{g:Nat}(c:w.grownBy w' (some g)):∀b o,b<w.heap.size->b≠g->w'.cell? ⟨b,o,none⟩=w.cell? ⟨b,o,none⟩:=
 λb o d e=>World.cell?_of_block (a:=⟨b,o,none⟩) (c.block b d (by simpa using e))
theorem rn{w w':World}{row:Option Nat}(a:w.drew.grownBy w' row):w.grownBy w' row:=⟨a.os,a.tape,a.output,a.size,a.block⟩
theorem Gj(p q:Nat)(a d:Option Addr)(pc h:Nat)(g c:Nat)(base:Nat)(w:World)(_hpc:p<=9223372036854775807)(_hqc:q<=9223372036854775807)(f:((p:Int)==(q:Int))=false):ak 199 #[ae (some ⟨g,0,none⟩) 4 c,ae a p pc,ae d q h] w (eQ base g c none w):=by
 have i:((p:Int) !=(q:Int))=true:=by simpa using f
 go_enter func199,ntmps199;go_wp2_with fail
 go_ret
 exact⟨rfl,gD _ _,λb e=>by cases e⟩
theorem uL(a e:Option Addr)(pc i:Nat)(g c:Nat)(base:Nat)(b:List An)(w:World)(H:nh base g c b w):ak 199 #[ae (some ⟨g,0,none⟩) 4 c,ae a 0 pc,ae e 0 i] w (eQ base g c (some b) w):=by
 have d:=ap H;clear H;go_enter func199,ntmps199;go_wp2_with fail
 go_loop [16] (λh=>h=ab 0) (λ_=>0)
 case atStart=>rfl
 case round=>
  obtain rfl:=hrel;go_wp2_with fail
  go_ret
  exact⟨rfl,gD _ _,λj f=>by obtain rfl:=aw f;exact d⟩
theorem Gi(n m:Nat)(ih:NJ n)(p:List (Tm n))(q:List (Tm m))(len:Nat)(ad:Hid (p.length=len))(aB:Hid (q.length=len))(K po d j pc aC:Nat)(b:List An)(base g c B:Nat)(w:World)(aK:len<=9223372036854775807)(ay:K<B)(aA:d<B)(aa:∀(i:Nat)(y:Tm n),p[i]?=some y->dC w K (po+i*4) n y/\In B w n y)(ag:∀(i:Nat)(y:Tm m),q[i]?=some y->dC w d (j+i*4) m y/\In B w m y)(ah:∀y∈p,aD ⟨n,y⟩)(ai:∀y∈q,aD ⟨m,y⟩)(V:Hid (CK B w b))(U:B<=base)(H:Hid (nh base g c b w)):ak 199 #[ae (some ⟨g,0,none⟩) 4 c,ae (some ⟨K,po,none⟩) len pc,ae (some ⟨d,j,none⟩) len aC] w (eQ base g c (iH (λx y b=>hU n x m y b) p q b) w):=by
 have W:B<=g:=az U H.out.lt.1;have X:g<w.heap.size:=H.out.lt.2;go_enter func199,ntmps199;go_wp2_with fail;go_loopw [16] (λi wr=>∃k:Nat,k<=len/\i=ab k/\Hid (w.grownBy wr (some g)/\∃a,nh base g c a wr/\CK B wr a/\iH (λx y b=>hU n x m y b) (p.drop k) (q.drop k) a=iH (λx y b=>hU n x m y b) p q b)) (λi _=>len-(intOf i).toNat)
 case atStart=>exact⟨0,by omega,rfl,gD _ _,b,H.out,V.out,rfl⟩
 case round=>
  obtain⟨k,aF,rfl,v⟩:=hrel;by_cases Z:k<len
  ·obtain⟨x,E⟩:∃x,p[k]?=some x:=⟨p[k]'(by rw[ad.out];exact Z),aI _⟩;obtain⟨y,I⟩:∃y,q[k]?=some y:=⟨q[k]'(by rw[aB.out];exact Z),aI _⟩;obtain⟨l,a,L,u,t⟩:Hid (w.grownBy wr (some g))/\∃a,Hid (nh base g c a wr)/\Hid (CK B wr a)/\Hid (iH (λx y b=>hU n x m y b) (p.drop k) (q.drop k) a=iH (λx y b=>hU n x m y b) p q b):=v.out;clear v;obtain⟨F,G⟩:=aa k x E;obtain⟨J,r⟩:=ag k y I;have z:=ap (Gl (λx y b=>hU n x m y b) p q k x y E I a);have T:=ap (ah x (aJ E));have N:=ap (ai y (aJ I));have o:=og l.out W X;replace F:=F.below o ay;replace J:=J.below o aA;replace G:=G.below o;replace r:=r.below o;have aE:g<wr.heap.size:=aR X l.out.size;have D:B<=wr.heap.size:=by omega
   clear aa ag E I ah ai V H o;cases n with
   | zero=>exact F.elim
   | succ n=>
   cases m with
   | zero=>exact J.elim
   | succ m=>
   obtain⟨aQ,aS,aT,aU⟩:=F;obtain⟨y0,y1,y2,aV⟩:=J
   have Q:Hid (∀(h:World),aj wr h->ak 185 #[ae (some ⟨g,0,none⟩) 4 c,.agg #[ab x.1.1,ab x.1.2.1,af x.1.2.2,ae x.2.1.1 x.2.2.length x.2.1.2],.agg #[ab y.1.1,ab y.1.2.1,af y.1.2.2,ae y.2.1.1 y.2.2.length y.2.1.2]] h (eQ base g c (hU (n+1) x (m+1) y a) h)):=
    λh C=>ih x (m+1) y a base g c B h (G.below (C.mono D)) (r.below (C.mono D)) T.out N.out (u.out.below (C.mono D)) U (L.out.below C)
   have M:Hid (∀s e,hU (n+1) x (m+1) y a=s->s=some e->CK B wr e):=λs e au av=>u.out.fit r N.out (au.trans av);clear ih G r T N u;replace z:Hid (iH (λx y b=>hU (n+1) x (m+1) y b) (p.drop k) (q.drop k) a=(hU (n+1) x (m+1) y a).bind (iH (λx y b=>hU (n+1) x (m+1) y b) (p.drop (k+1)) (q.drop (k+1)))):=z;generalize hU (n+1) x (m+1) y a=s at*;generalize x.2.2.length=al at*;generalize y.2.2.length=yl at*;have aG:(0:Int)<=(k:Int):=by omega
   have aH:(k:Int)<(len:Int):=by omega
   have aL:K<wr.heap.size:=by omega
   have aN:d<wr.heap.size:=by omega
   have aO:d<wr.heap.size+1:=by omega
   have aM:d≠g:=by omega
   have aP:wr.heap.size≠g:=by omega
   have an:=ap (Q.out (wr.alloc (.cells #[ab x.1.1,ab x.1.2.1,af x.1.2.2,ae x.2.1.1 al x.2.1.2] 31)).drew (((ao _ _).alloc (am _) _).drew));clear Q;go_wp2_with fail
   go_region_held3 (λf=>f.cell? ⟨wr.heap.size,0,none⟩=some (ab x.1.1)/\f.cell? ⟨wr.heap.size,1,none⟩=some (ab x.1.2.1)/\f.cell? ⟨wr.heap.size,2,none⟩=some (af x.1.2.2)/\f.cell? ⟨wr.heap.size,3,none⟩=some (ae x.2.1.1 al x.2.1.2)
       /\f.cell? ⟨d,j+k*4,none⟩=some (ab y.1.1)/\f.cell? ⟨d,j+k*4+1,none⟩=some (ab y.1.2.1)/\f.cell? ⟨d,j+k*4+2,none⟩=some (af y.1.2.2)/\f.cell? ⟨d,j+k*4+3,none⟩=some (ae y.2.1.1 yl y.2.1.2))
    (go_keep) ((go_at_call 185;refine an.out.mono ?_;rintro A h ⟨rfl,O,Y⟩;have ax:=A9 (rn O);have R:=ap (rn O);have aq:=ap Y;clear O Y))
   have S:Hid (w.grownBy h (some g)):=lJ l.out (lJ (cR wr _ _) R.out);clear ax;cases s with
   | some e=>
    have ar:Hid (CK B h e):=(M.out _ e rfl rfl).below ((((ao _ _).alloc (am _) _).mono D).trans (og R.out W (by simp;omega)));clear M;simp only[mY];go_wp2_with fail;go_roundw
    case rel=>exact⟨k+1,by omega,by go_num,S.out,e,aq.out e rfl,ar.out,by rw[<-t.out,z.out];rfl⟩
    case measure=>simp[intOf];omega
   | none=>
    clear M;simp only[mX];go_wp2_with fail
    go_ret
    have P:iH (λx y b=>hU (n+1) x (m+1) y b) p q b=none:=by rw[<-t.out,z.out];rfl
    rw[P];exact⟨rfl,S.out,λa A=>by cases A⟩
  ·obtain⟨l,a,L,u,t⟩:Hid (w.grownBy wr (some g))/\∃a,Hid (nh base g c a wr)/\Hid (CK B wr a)/\Hid (iH (λx y b=>hU n x m y b) (p.drop k) (q.drop k) a=iH (λx y b=>hU n x m y b) p q b):=v.out;clear v;go_wp2_with fail
   go_ret
   have P:iH (λx y b=>hU n x m y b) p q b=some a:=by rw[<-t.out,gu (by rw[ad.out];omega)];rfl
   rw[P];exact⟨rfl,l.out,λe A=>by obtain rfl:=aw A;exact L.out⟩
theorem Dc(n m:Nat)(ih:NJ n)(p:List (Tm n))(q:List (Tm m))(a e:Option Addr)(pc j:Nat)(b:List An)(base g c B:Nat)(w:World)(f:p=[]\/∃b o,a=some ⟨b,o,none⟩/\b<B/\∀(i:Nat)(y:Tm n),p[i]?=some y->dC w b (o+i*4) n y/\In B w n y)(h:q=[]\/∃b o,e=some ⟨b,o,none⟩/\b<B/\∀(i:Nat)(y:Tm m),q[i]?=some y->dC w b (o+i*4) m y/\In B w m y)(u:p.length<=9223372036854775807)(A:q.length<=9223372036854775807)(C:∀y∈p,aD ⟨n,y⟩)(D:∀y∈q,aD ⟨m,y⟩)(r:CK B w b)(l:B<=base)(H:nh base g c b w):ak 199 #[ae (some ⟨g,0,none⟩) 4 c,ae a p.length pc,ae e q.length j] w (eQ base g c (if p.length=q.length then iH (λx y b=>hU n x m y b) p q b else none) w):=by
 by_cases d:p.length=q.length
 ·rw[if_pos d];rcases f with f|⟨E,po,rfl,t,f⟩
  ·subst f;have v:q=[]:=bE d.symm;subst v;exact uL a e pc j g c base b w H
  ·rcases h with h|⟨F,G,rfl,z,h⟩
   ·subst h;have s:p=[]:=bE d;subst s;exact uL _ e pc j g c base b w H
   ·have k:=Gi n m ih p q p.length rfl d.symm E po F G pc j b base g c B w (by omega) t z f h C D r l H;rw[<-d];exact k
 ·rw[if_neg d];exact Gj p.length q.length a e pc j g c base w u A (by simp;omega)
theorem eQ.from{base g c:Nat}{o:Option (List An)}{w w1:World}(a:w.grownBy w1 (some g)){e:Ending}{w2:World}(k:eQ base g c o w1 e w2):eQ base g c o w e w2:=
 ⟨k.1,lJ a k.2.1,k.2.2⟩
theorem Gn(k u j F:Int)(s D:ByteArray)(a t:Option Addr)(l v pc x:Nat)(base g c:Nat)(b:List An)(o p:Option (List An))(E:Bool)(w:World)(I:Hid (nh base g c b w))(q:Hid (k=5->∀w1,aj w w1->ak 198 #[ae (some ⟨g,0,none⟩) 4 c,ab u,.agg #[ab j,ab F,af D,ae t v x]] w1 (eQ base g c o w1)))(H:Hid (∀w1,aj w w1->ak 199 #[ae (some ⟨g,0,none⟩) 4 c,ae a l pc,ae t v x] w1 (eQ base g c p w1)))(N:Hid (∀w1,aj w w1->ak 200 #[.agg #[ab k,ab u,af s,ae a l pc],.agg #[ab j,ab F,af D,ae t v x]] w1 λe w'=>∃r,e=.returned (ab r)/\Hid ((r==0)=E)/\aj w1 w')):ak 185 #[ae (some ⟨g,0,none⟩) 4 c,.agg #[ab k,ab u,af s,ae a l pc],.agg #[ab j,ab F,af D,ae t v x]] w (eQ base g c (if k=6 then some b else if k=5 then o else if k=4 then (if j=4 then p else none)else if E then some b else none) w):=by
 have L:∀o p,aj w ((w.alloc o).alloc p):=λo p=>((ao _ _).alloc (am _) _).alloc (by simp) _;have f:=ap L;clear L;by_cases i:k=6
 ·rw[if_pos i];subst i;go_enter func185,ntmps185;go_wp2_with fail
  go_ret
  exact⟨rfl,cP (f _ _) _,λB e=>by obtain rfl:=aw e;exact I.below (f _ _)⟩
 rw[if_neg i];have S:(k==6)=false:=by simpa using i
 by_cases d:k=5
 ·rw[if_pos d];have O:=ap (q d);have R:(k==5)=true:=by simpa using d
  clear d i q;go_enter func185,ntmps185;go_wp2_with fail;refine(O _ (f _ _)).mono ?_;rintro e w1 n;have y:=ap (eQ.from (cP (f _ _) _) n);obtain⟨rfl,_,_⟩:=n;go_wp2_with fail
  go_ret
  exact y
 rw[if_neg d];have R:(k==5)=false:=by simpa using d
 by_cases h:k=4
 ·rw[if_pos h];have P:(k==4)=true:=by simpa using h
  clear d i q;by_cases m:j=4
  ·rw[if_pos m];have Q:(j==4)=true:=by simpa using m
   clear h m;go_enter func185,ntmps185;go_wp2_with fail;refine(H _ (f _ _)).mono ?_;rintro e w1 n;have y:=ap (eQ.from (cP (f _ _) _) n);obtain⟨rfl,_,_⟩:=n;go_wp2_with fail
   all_goals go_ret
   all_goals exact y
  ·rw[if_neg m];have Q:(j==4)=false:=by simpa using m
   clear h m;go_enter func185,ntmps185;go_wp2_with fail
   go_ret
   exact⟨rfl,cP (f _ _) _,λB e=>by cases e⟩
 rw[if_neg h];have P:(k==4)=false:=by simpa using h
 clear h d i q H;obtain⟨M,C⟩:∃M,M=if E then some b else none:=⟨_,rfl⟩
 rw[<-C];have G:=ap C;clear C;go_enter func185,ntmps185;go_wp2_with fail;refine(N _ (f _ _)).mono ?_;rintro e w1 ⟨r,rfl,J,K⟩;have A:Hid (aj w w1):=(f _ _).trans (K.mono (f _ _).size);have z:=ap G.out;rw[Hid,<-J.out]at z;clear K J G;cases h0:r==0
 ·go_wp2_with fail
  go_ret
  have d:=z;rw[h0]at d;simp only[ph,if_false]at d;subst d;exact⟨rfl,cP A _,λB e=>by cases e⟩
 ·go_wp2_with fail
  go_ret
  have d:=z;rw[h0]at d;simp only[cT]at d;subst d;exact⟨rfl,cP A _,λB e=>by obtain rfl:=aw e;exact I.below A⟩
theorem N7(n:Nat)(p:Tm (n+1))(m:Nat)(t:Tm (m+1))(b:List An):hU (n+1) p (m+1) t b=if p.1.1=6 then some b else if p.1.1=5 then uN b p.1.2.1.toNat ⟨m+1,t⟩else if p.1.1=4 then (if t.1.1=4 then (if p.2.2.length=t.2.2.length then iH (λx y b=>hU n x m y b) p.2.2 t.2.2 b else none)else none)else if ax (n+1) p (m+1) t then some b else none:=by
 simp only[hU];by_cases a:t.1.1=4<;>by_cases c:p.2.2.length=t.2.2.length<;>simp[a,c]
theorem OF(n:Nat)(p:Tm (n+1))(d:aD ⟨n+1,p⟩)(e:p.1.1=5):∃k:Nat,k<4/\p.1.2.1=k:=by
 have a:=d (bD n p) (by simp[ay,bD]);have b:(bD n p).1.1=5:=e;have c:(bD n p).1.2.1=p.1.2.1:=rfl;simp[cE,b,qK]at a;rw[c]at a;exact⟨p.1.2.1.toNat,by omega,by omega⟩
theorem JD(n:Nat):NJ n:=by
 induction n with
 | zero=>intro e j t b s u c l y d;exact d.elim
 | succ n ih=>
  intro e j t b s u c l y d v w x i z r;cases j with
  | zero=>exact v.elim
  | succ j=>
  have f:l<=y.heap.size:=by have:=r.lt;omega
  have C:=d;have H:=v;obtain⟨⟨_,_,_,I,D⟩,E⟩:=C;obtain⟨⟨_,_,_,J,F⟩,G⟩:=H;unfold maxLen at D F;rw[N7];refine Gn e.1.1 e.1.2.1 t.1.1 t.1.2.1 e.1.2.2 t.1.2.2 e.2.1.1 t.2.1.1 e.2.2.length t.2.2.length e.2.1.2 t.2.1.2 s u c b _ _ _ y r ?_ ?_ ?_
  ·intro A q a;obtain⟨k,B,m⟩:=OF n e w A;rw[m];exact JH b s u c l q k B j t (i.below (a.mono f)) (v.below (a.mono f)) x z (r.below a)
  ·intro q a;refine Dc n j ih e.2.2 t.2.2 e.2.1.1 t.2.1.1 e.2.1.2 t.2.1.2 b s u c l q ?_ ?_ (by omega) (by omega) (λh g=>aV n e h w g) (λh g=>aV j t h x g) (i.below (a.mono f)) z (r.below a)
   ·rcases E with d|⟨b,o,m,i,d⟩
    ·exact ah d
    ·exact ai ⟨b,o,m,i,λp h g=>⟨(d p h g).1.below (a.mono f) i,(d p h g).2.below (a.mono f)⟩⟩
   ·rcases G with d|⟨b,o,m,i,d⟩
    ·exact ah d
    ·exact ai ⟨b,o,m,i,λp h g=>⟨(d p h g).1.below (a.mono f) i,(d p h g).2.below (a.mono f)⟩⟩
  ·intro q a;exact BK ⟨n+1,e⟩ ⟨j+1,t⟩ l q (d.below (a.mono f)) (v.below (a.mono f)) (az f a.size) w x
def nS(n:Nat)(q:List (Tm n)):List An:=q.map λx=>⟨n,x⟩
theorem np(n:Nat)(q:List (Tm n)):(nS n q).length=q.length:=by simp[nS]
theorem Dm{n:Nat}{q:List (Tm n)}{w:World}{e po:Nat}(p:∀(i:Nat)(y:Tm n),q[i]?=some y->dC w e (po+i*4) n y):∀j u,(fU (nS n q))[j]?=some u->w.cell? ((⟨e,po,none⟩:Addr).add j)=some u:=by
 intro j u a;have c:=kV (nS n q);have r:j<q.length*4:=by
  rw[np]at c;rw[<-c];exact(aS.1 a).1
 obtain⟨k,i,o,rfl⟩:∃k i,i<4/\j=k*4+i:=⟨j / 4,j % 4,Nat.mod_lt _ (by decide),by omega⟩;obtain⟨y,d⟩:∃y,q[k]?=some y:=⟨q[k]'(by omega),aI _⟩;have f:(fU (nS n q))[k*4+i]?=(vv (tf ⟨n,y⟩))[i]? :=iU _ k (tf ⟨n,y⟩) (by simp[nS,d]) i o;rw[f]at a;have b:=p k y d;cases n with
 | zero=>exact b.elim
 | succ n=>
 obtain⟨g,h,l,m⟩:=b;rw[dZ,<-Nat.add_assoc];have:i=0\/i=1\/i=2\/i=3:=by omega
 rcases this with rfl|rfl|rfl|rfl
 all_goals simp[vv,tf,gj,bD]at a;subst a
 ·exact g
 ·exact h
 ·exact l
 ·exact m
theorem C4(n:Nat)(q:List (Tm n))(len l po pc:Nat)(w:World)(p:Hid (q.length=len))(F:0<len)(G:len<=1048576)(y:Hid (∀w1,aj w w1->∀j u,(fU (nS n q))[j]?=some u->w1.cell? ((⟨l,po,none⟩:Addr).add j)=some u)):ak 184 #[ae (some ⟨l,po,none⟩) len pc] w λe w'=>∃g c,e=.returned (ae (some ⟨g,0,none⟩) len c)/\Hid (aj w w'/\nh w.heap.size g c (nS n q) w'):=by
 obtain⟨C,o,r,s,t⟩:=bR gm;have a:=ap (⟨o,r,s,t⟩:_/\_/\_/\_);clear o r s t;have I:∀(w:World)(b:Option Addr)(n c i f:Nat),(binOp .eql 29 (ae b n c) (ae none i f)).run Tryz.prog w=.ok (.bool b.isNone) w:=λw b n c i f=>Lib.run_eql_slice_nil w _ _ b n c i f underlying29;go_enter func184,ntmps184;go_wp2_with (at_builtin;refine wpList_append_own _ rfl _ _ 29 rfl w.heap.size 31 C _ 4 56 underlying29 a.1 a.2.1 a.2.2.1 a.2.2.2 rfl (by decide) _ _ _ rfl (World.ownsRow_made w #[] 0 (am _) (aH _) (by simp)) ⟨l,po,none⟩ len pc (fU (nS n q)) rfl ?qc1 ?qc2 ?qc3 ?qc4 ?qc5 ?qc6 ?_)
 case qc1=>rw[kV,np,p.out]
 case qc2=>exact y _ ((ao _ _).alloc (am _) _)
 case qc3=>exact Av _
 case qc4=>unfold maxLen;omega
 case qc5=>omega
 case qc6=>simp
 intro D w1 h m B;have v:Hid (∃g c,D=ae (some ⟨g,0,none⟩) len c/\aj w w1/\nh w.heap.size g c (nS n q) w1):=by
  have z:aj w w1:=Below.grown ((ao _ _).alloc (am _) _) m (by simp) (by intro k A;simp[Value.ownBlock]at A;omega);have d:=h;obtain⟨_,d⟩:=d;rcases d with⟨_,d⟩|⟨g,cap,E,rfl,H,_⟩
  ·omega
  ·refine⟨g,cap,rfl,z,?_⟩;unfold nh;rw[np,p.out];exact h
 clear h m B;obtain⟨g,c,rfl,x⟩:=v;go_wp2_with fail
 go_ret
 exact⟨g,c,rfl,x⟩
def tG(a b:Int)(cl bd:Bool):Int:=if a=0 then if b=0 then if cl && bd then 0 else 5 else b else a
def yz(a:Int)(o:Option (List An))(w:World)(e:Ending)(w':World):Prop:=
 ∃f len c d,e=.returned (.tuple #[ae f len c,.bool d,ab a])/\Hid (aj w w'/\
  ((¬(a=0/\o.isSome=true)->len=0/\d=false)/\∀b,a=0->o=some b->d=true/\len=4/\b.length=4/\∃g l,w.heap.size<=g.heap.size/\gL (nd b) (Cw b) g w' f c l))
def NF(w:World)(v0 v1 v2 v3 a b c d:Value)(w':World):Prop:=
 aj w w'/\w.heap.size+2<=w'.heap.size/\
 (w'.cell? ⟨w.heap.size,0,none⟩=some v0/\w'.cell? ⟨w.heap.size,1,none⟩=some v1/\w'.cell? ⟨w.heap.size,2,none⟩=some v2/\w'.cell? ⟨w.heap.size,3,none⟩=some v3)/\
 (w'.cell? ⟨w.heap.size+1,0,none⟩=some a/\w'.cell? ⟨w.heap.size+1,1,none⟩=some b/\w'.cell? ⟨w.heap.size+1,2,none⟩=some c/\w'.cell? ⟨w.heap.size+1,3,none⟩=some d)
theorem NF.new(w:World)(v0 v1 v2 v3 a b c d:Value)(t e:TypeId):NF w v0 v1 v2 v3 a b c d ((w.alloc (.cells #[v0,v1,v2,v3] t)).alloc (.cells #[a,b,c,d] e)):=
 ⟨((ao _ _).alloc (am _) _).alloc (by simp) _,by simp,⟨by simp[go_sem],by simp[go_sem],by simp[go_sem],by simp[go_sem]⟩,by simp[go_sem],by simp[go_sem],by simp[go_sem],by simp[go_sem]⟩
theorem NF.next{w:World}{v0 v1 v2 v3 c d e f:Value}{w1 w2:World}(a:NF w v0 v1 v2 v3 c d e f w1)(b:aj w1 w2):NF w v0 v1 v2 v3 c d e f w2:=
 ⟨a.1.trans (b.mono a.1.size),az a.2.1 b.size,nW (by have:=a.2.1;omega) b a.2.2.1,nW (by have:=a.2.1;omega) b a.2.2.2⟩
theorem DC(w:World)(k u A E:Int)(s D:ByteArray)(a n:Option Addr)(l pc B C:Nat)(W:Option Addr)(Y X:Nat)(i j:Int)(cl bd:Bool)(o:Option (List An))(T:List An)(aq:Hid (∀w1,aj w w1->ak 53 #[.agg #[ab k,ab u,af s,ae a l pc]] w1 λe w'=>e=.returned (ab i)/\aj w1 w'))(ar:Hid (∀w1,aj w w1->ak 53 #[.agg #[ab A,ab E,af D,ae n B C]] w1 λe w'=>e=.returned (ab j)/\aj w1 w'))(am:Hid (∀w1,aj w w1->ak 54 #[.agg #[ab A,ab E,af D,ae n B C]] w1 λe w'=>e=.returned (.bool cl)/\aj w1 w'))(ah:Hid (∀w1,aj w w1->ak 183 #[ae W Y X] w1 λe w'=>e=.returned (.bool bd)/\aj w1 w'))(an:Hid (bd=true->∀w1,aj w w1->ak 184 #[ae W Y X] w1 λe w'=>∃g c,e=.returned (ae (some ⟨g,0,none⟩) 4 c)/\Hid (aj w1 w'/\nh w1.heap.size g c T w')))(S:Hid (tG i j cl bd=0->∀w1 base g c,aj w w1->w.heap.size<=base->nh base g c T w1->ak 185 #[ae (some ⟨g,0,none⟩) 4 c,.agg #[ab k,ab u,af s,ae a l pc],.agg #[ab A,ab E,af D,ae n B C]] w1 (eQ base g c o w1)))(R:Hid (tG i j cl bd=0->∀w1 base g c b,o=some b->aj w w1->nh base g c b w1->b.length=4/\ak 89 #[ae (some ⟨g,0,none⟩) 4 c] w1 λe w'=>∃n aA l,e=.returned (ae n 4 aA)/\Hid (gL (nd b) (Cw b) w1 w' n aA l))):ak 152 #[.agg #[ab k,ab u,af s,ae a l pc],.agg #[ab A,ab E,af D,ae n B C],ae W Y X] w (yz (tG i j cl bd) o w):=by
 obtain⟨f,V⟩:∃f,f=tG i j cl bd:=⟨_,rfl⟩;rw[<-V]at S R ⊢;have q:=ap V;clear V;go_enter func152,ntmps152;go_wp2_with fail;refine(aq _ (NF.new w _ _ _ _ _ _ _ _ _ _).1).mono ?_;rintro e w1 ⟨rfl,aC⟩;have t:=ap ((NF.new w (ab k) (ab u) (af s) (ae a l pc) (ab A) (ab E) (af D) (ae n B C) 31 31).next aC);clear aC aq;by_cases m:i=0
 case neg=>
  have aJ:(i !=0)=true:=by simpa using m
  have d:Hid (f=i/\¬f=0):=by have:=q.out;unfold tG at this;rw[if_neg m]at this;exact⟨this,by rw[this];exact m⟩
  clear m q;go_wp2_with fail;exact av (v:=.tuple #[ae none 0 0,.bool false,ab i]) (by simp[results,results152,go_sem]) rfl ⟨none,0,0,false,by rw[d.out.1],t.1,λ_=>⟨rfl,rfl⟩,λb h=>absurd h d.2⟩
 have aJ:(i !=0)=false:=by simp[m]
 obtain⟨⟨L,M,N,O⟩,H,I,J,K⟩:=t.out.2.2;go_wp2_with fail;refine(ar _ t.1).mono ?_;rintro e aO ⟨rfl,aD⟩;have x:=ap (t.next aD);clear aD ar t L M N O H I J K;by_cases p:j=0
 case neg=>
  have aK:(j !=0)=true:=by simpa using p
  have d:Hid (f=j/\¬f=0):=by have:=q.out;unfold tG at this;rw[if_pos m,if_neg p]at this;exact⟨this,by rw[this];exact p⟩
  clear p m q;go_wp2_with fail;exact av (v:=.tuple #[ae none 0 0,.bool false,ab j]) (by simp[results,results152,go_sem]) rfl ⟨none,0,0,false,by rw[d.out.1],x.1,λ_=>⟨rfl,rfl⟩,λb h=>absurd h d.2⟩
 have aK:(j !=0)=false:=by simp[p]
 have r:Hid (f=if cl && bd then 0 else 5):=by have:=q.out;unfold tG at this;rw[if_pos m,if_pos p]at this;exact this
 clear p m q;obtain⟨⟨L,M,N,O⟩,H,I,J,K⟩:=x.out.2.2;go_wp2_with fail;refine(am _ x.1).mono ?_;rintro e aP ⟨rfl,aE⟩;have F:=ap (x.next aE);clear aE am x L M N O H I J K;cases cl with
 | false=>
  have d:Hid (f=5/\¬f=0):=by have:=r.out;simp at this;exact⟨this,by rw[this];decide⟩
  clear r;go_wp2_with fail;exact av (v:=.tuple #[ae none 0 0,.bool false,ab 5]) (by simp[results,results152,go_sem]) rfl ⟨none,0,0,false,by rw[d.out.1],F.1,λ_=>⟨rfl,rfl⟩,λb h=>absurd h d.2⟩
 | true=>
 go_wp2_with fail;refine(ah _ F.1).mono ?_;rintro e Z ⟨rfl,aF⟩;have y:=ap (F.next aF);clear aF ah F;cases bd with
 | false=>
  have d:Hid (f=5/\¬f=0):=by have:=r.out;simp at this;exact⟨this,by rw[this];decide⟩
  clear r;go_wp2_with fail;exact av (v:=.tuple #[ae none 0 0,.bool false,ab 5]) (by simp[results,results152,go_sem]) rfl ⟨none,0,0,false,by rw[d.out.1],y.1,λ_=>⟨rfl,rfl⟩,λb h=>absurd h d.2⟩
 | true=>
 have d:Hid (f=0):=by have:=r.out;simp at this;exact this
 have au:=ap (S d);have ai:=ap (R d);have ao:=ap (an rfl);clear r S R an;go_wp2_with fail;refine(ao _ y.1).mono ?_;rintro e aG ⟨g,c,rfl,Q⟩;have P:=ap (y.next Q.1);have G:Hid (nh Z.heap.size g c T aG):=Q.2;have ax:Hid (w.heap.size<=Z.heap.size):=y.1.size;obtain⟨⟨L,M,N,O⟩,H,I,J,K⟩:=P.out.2.2;clear y Q ao;go_wp2_with fail;refine(au aG Z.heap.size g c P.1 ax G).mono ?_;rintro e aa U;have z:Hid (aj w aa):=P.1.trans (og U.2.1 (az ax G.lt.1) G.lt.2);have ad:=ap U.2.2;obtain⟨rfl,_,_⟩:=U;clear G au;cases o with
 | none=>
  simp only[mX];go_wp2_with fail;exact av (v:=.tuple #[ae none 0 0,.bool false,ab 0]) (by simp[results,results152,go_sem]) rfl ⟨none,0,0,false,by rw[d.out],z,λ_=>⟨rfl,rfl⟩,λb _ h=>by cases h⟩
 | some b=>
  simp only[mY];have aI:=ap (ad b rfl);have al:=ap (ai aa _ g c b rfl z aI);clear ad ai;go_wp2_with fail;refine al.2.mono ?_;rintro e aM ⟨ay,aB,aL,rfl,ag⟩;have aH:Hid (aj w aM):=z.trans (ag.1.mono z.size);go_wp2_with fail;exact av (v:=.tuple #[ae ay 4 aB,.bool true,ab 0]) (by simp[results,results152,go_sem]) rfl ⟨ay,4,aB,true,by rw[d.out],aH,λh=>absurd ⟨d,rfl⟩ h,λaN _ e=>by obtain rfl:=aw e;exact⟨rfl,rfl,al.1,aa,aL,z.size,ag⟩⟩
theorem xj{e f:Int}{cl bd:Bool}(a:tG e f cl bd=0):e=0/\f=0/\cl=true/\bd=true:=by
 unfold tG at a;split at a
 ·split at a
  ·split at a
   ·rename_i b c d;simp at d;exact⟨b,c,d.1,d.2⟩
   ·cases a
  ·rename_i b c;exact absurd a c
 ·rename_i b;exact absurd a b
theorem AD{n:Nat}{q:List (Tm n)}(a:gg n q=true):q.length=4:=by
 unfold gg at a;simp at a;exact a.1
theorem FX{n:Nat}{q:List (Tm n)}(a:gg n q=true):∀y∈nS n q,aD y:=by
 intro y c;simp only[nS,b9]at c;obtain⟨d,e,rfl⟩:=c;unfold gg at a;simp only[aG,ci]at a;have b:=a.2 d e;unfold BG at b;simp only[aG,cv]at b;exact re n d b.1
theorem Mu{B:Nat}{w:World}{n:Nat}{q:List (Tm n)}{a:Option Addr}(c:fH B w n q a):∀y∈nS n q,FJ B w y:=by
 intro y e;simp only[nS,b9]at e;obtain⟨h,d,rfl⟩:=e;rcases c with c|⟨b,o,_,_,c⟩
 ·rw[c]at d;cases d
 ·obtain⟨g,f⟩:=cW d;exact(c g h f).2
theorem Bl{B:Nat}{w:World}{n:Nat}{q:List (Tm n)}{a:Option Addr}(d:fH B w n q a)(k:gg n q=true):CK B w (nS n q):=
 ⟨by rw[np];exact AD k,λc b=>⟨Mu d c b,FX k c b⟩⟩
theorem xw(n m o:Nat)(p:Tm n)(t:Tm m)(q:List (Tm o))(a:Option Addr)(c B:Nat)(w:World)(A:In B w n p)(j:In B w m t)(g:fH B w o q a)(e:B<=w.heap.size)(I:(ay n p).length<=2097152)(K:(ay m t).length<=2097152)(J:∀y∈q,(ay o y).length<=2097152)(R:q.length<=9223372036854775807):ak 152 #[dq n p,dq m t,ae a q.length c] w (yz (tG (bz n p) (bz m t) (j9 m t) (gg o q)) (hU n p m t (nS o q)) w):=by
 cases n with
 | zero=>exact A.elim
 | succ n=>
 cases m with
 | zero=>exact j.elim
 | succ m=>
 refine DC w p.1.1 p.1.2.1 t.1.1 t.1.2.1 p.1.2.2 t.1.2.2 p.2.1.1 t.2.1.1 p.2.2.length p.2.1.2 t.2.2.length t.2.1.2 a q.length c _ _ _ _ _ (nS o q) ?_ ?_ ?_ ?_ ?_ ?_ ?_
 ·exact λf d=>dL (n+1) p B f (A.below (d.mono e)) (az e d.size) I
 ·exact λf d=>dL (m+1) t B f (j.below (d.mono e)) (az e d.size) K
 ·intro f d;rw[<-fz];exact iN (m+1) t B f (j.below (d.mono e)) (az e d.size)
 ·exact λf d=>Az o q a c B f (g.below (d.mono e)) R J (az e d.size)
 ·intro M f d;have k:=AD M;rcases g with g|⟨T,po,rfl,F,g⟩
  ·rw[g]at k;simp at k
  ·have l:=C4 o q 4 T po c f k (by decide) (by decide) (λV H=>Dm λS y h=>((g S y h).1.below (d.mono e) F).below (H.mono (az e d.size)) F);rw[k];exact l
 ·intro x f C v r d L z;obtain⟨D,s,G,u⟩:=xj x;exact JD (n+1) p (m+1) t (nS o q) C v r B f (A.below (d.mono e)) (j.below (d.mono e)) (re _ _ D) (re _ _ s) ((Bl g u).below (d.mono e)) (az e L) z
 ·intro x f C v r b N d z;obtain⟨D,s,G,u⟩:=xj x;have i:=((Bl g u).fit j (re _ _ s) N).below (d.mono e);have P:=La z (λy h=>(i.2 y h).1) (az e d.size);have Q:(Cw b).length=4:=by simp[Cw,i.1]
  have l:=sX (nd b) (ij _) (Cw b) (some ⟨v,0,none⟩) r f.heap.size f P (by omega) (IB λy h=>⟨(i.2 y h).2,λE=>by
   have O:=(i.2 y h).1;obtain⟨U,W⟩:=y;simp only at E;subst E
   exact O.elim⟩) (am _)
  rw[Q]at l;exact⟨i.1,l⟩
theorem yQ{n:Nat}{x:Tm (n+1)}(a:aL (n+1) x=true):x.1.1≠5/\x.1.1≠6/\∀y∈x.2.2,aL n y=true:=by
 simp only[aL,aG,kG,ci]at a;exact⟨by simpa using a.1.1,by simpa using a.1.2,a.2⟩
def PU:(n:Nat)->Tm n->Bool
 | 0,_=>true
 | n+1,x=> !(x.1.1==5) && x.2.2.all λy=>PU n y
def CR(D:Nat)(l:List (Tm D))(d:List An):Prop:=∀(i:Nat)(a:An),d[i]?=some a->∃y,l[i]?=some y/\ax D y a.1 a.2=true/\aD ⟨D,y⟩
theorem xo{n m:Nat}:(p:List (Tm n))->(q:List (Tm m))->(b c:List An)->iH (λx y b=>hU n x m y b) p q b=some c->∀(i:Nat)(x:Tm n)(y:Tm m),p[i]?=some x->q[i]?=some y->∃a e,hU n x m y a=some e
 | [],_,_,_,_,i,x,y,hx,_=>by simp at hx
 | _::_,[],_,_,_,i,x,y,_,hy=>by simp at hy
 | x::p,y::q,b,c,h,i,x',y',hx,hy=>by
  simp only[iH]at h;obtain⟨d,f,g⟩:=bu.1 h;cases i with
  | zero=>
   simp at hx hy;subst hx hy;exact⟨b,d,f⟩
  | succ i=>exact xo p q d c g i x' y' (by simpa using hx) (by simpa using hy)
theorem KS{a β:Type}(f:a->Int)(g:β->Int):(p:List a)->(q:List β)->p.length=q.length->(∀(i:Nat)(x:a)(y:β),p[i]?=some x->q[i]?=some y->f x<=g y)->(p.map f).sum<=(q.map g).sum
 | [],[],_,_=>by simp
 | [],_::_,h,_=>by simp at h
 | _::_,[],h,_=>by simp at h
 | x::p,y::q,h,hf=>by
  have e:=hf 0 x y (by simp) (by simp);have j:=KS f g p q (by simpa using h) λi x' d b c=>hf (i+1) x' d (by simpa using b) (by simpa using c);simp only[aN,bI];omega
theorem E6{a β:Type}(f:a->Int)(g:β->Int):(p:List a)->(q:List β)->(i j:Int)->i<=j->p.length=q.length->(∀(i:Nat)(x:a)(y:β),p[i]?=some x->q[i]?=some y->f x<=g y)->p.foldl (λm y=>max m (f y)) i<=q.foldl (λm y=>max m (g y)) j
 | [],[],_,_,h,_,_=>h
 | [],_::_,_,_,_,h,_=>by simp at h
 | _::_,[],_,_,_,h,_=>by simp at h
 | x::p,y::q,i,j,hij,h,hf=>by
  have e:=hf 0 x y (by simp) (by simp);simp only[gw];exact E6 f g p q _ _ (by omega) (by simpa using h) λi x' d b c=>hf (i+1) x' d (by simpa using b) (by simpa using c)
theorem ub{c:Type}(f:c->Int)(b:∀x,0<=f x):(p:List c)->(y:c)->y∈p->f y<=(p.map f).sum/\0<=(p.map f).sum
 | [],y,a=>by cases a
 | x::p,y,a=>by
  have g:=b x;have e:0<=(p.map f).sum:=by
   cases p with
   | nil=>simp
   | cons d p=>exact(ub f b (d::p) d (by simp)).2
  simp only[aN,bI];rcases cm.1 a with rfl|a
  ·omega
  ·have:=ub f b p y a;omega
theorem E5{a:Type}(f:a->Int):(p:List a)->(i:Int)->i<=p.foldl (λm y=>max m (f y)) i
 | [],_=>jh _
 | x::p,i=>by
  simp only[gw];have:=E5 f p (max i (f x));omega
theorem Bu{b:Type}(f:b->Int):(p:List b)->(i:Int)->(y:b)->y∈p->f y<=p.foldl (λm y=>max m (f y)) i
 | [],_,y,a=>by cases a
 | x::p,i,y,a=>by
  simp only[gw];rcases cm.1 a with rfl|a
  ·have:=E5 f p (max i (f y));omega
  ·exact Bu f p _ y a
theorem N8:(n:Nat)->(x:Tm n)->(m:Nat)->(t:Tm m)->(b c:List An)->PU n x=true->hU n x m t b=some c->sz n x<=sz m t/\fD n x<=fD m t
 | 0,_,_,_,_,_,_,h=>by simp[hU]at h
 | _+1,_,0,_,_,_,_,h=>by simp[hU]at h
 | n+1,x,m+1,t,b,c,hv,h=>by
  have s0:=(eX (m+1) t).1;have d0:=(fW (m+1) t).1;simp only[PU,aG,ci]at hv;have q:¬x.1.1=5:=by simpa using hv.1
  by_cases i:x.1.1=4
  ·have r:¬x.1.1=6:=by omega
   simp only[hU,if_neg r,if_neg q,if_pos i]at h;split at h
   ·rename_i j;have o:=xo _ _ b c h;have key:∀(e:Nat)(a:Tm n)(d:Tm m),x.2.2[e]?=some a->t.2.2[e]?=some d->sz n a<=sz m d/\fD n a<=fD m d:=λe a d f g=>by
     obtain⟨k,l,p⟩:=o e a d f g;exact N8 n a m d k l (hv.2 a (aJ f)) p
    have s:=KS (λa=>1+sz n a) (λa=>1+sz m a) x.2.2 t.2.2 j.2 λe a d f g=>by have:=key e a d f g;omega
    have u:=E6 (λa=>fD n a) (λa=>fD m a) x.2.2 t.2.2 0 0 (jh _) j.2 λe a d f g=>(key e a d f g).2;simp only[sz,fD,if_pos i,if_pos j.1];omega
   ·cases h
  ·simp only[sz,fD,if_neg i];simp only[sz,fD]at s0 d0;exact⟨s0,d0⟩
theorem uC{n:Nat}{x:Tm n}:bz n x=0 ↔ bZ n x=true/\fD n x<=12/\sz n x<=200:=by
 rw[<-gn];unfold wS;constructor
 ·intro a;split at a
  ·rename_i c;split at a
   ·cases a
   ·rename_i f;exact⟨c,by omega,by omega⟩
  ·cases a
 ·rintro ⟨b,d,e⟩;rw[if_pos b,if_neg (by omega)]
def CQ(a:An):Prop:=bz a.1 a.2=0/\(bU a=6\/aL a.1 a.2=true)
theorem ou:uo CQ:=by
 intro n b a h c;obtain⟨i,d⟩:=h;obtain⟨f1,f2,f3⟩:=uC.1 i;have f:aD ⟨n+1,b⟩:=aM.2 f1;have g:=eM (bD n b) (f (bD n b) (by simp[ay,bD]));have e:b.1.1=4:=by
  by_cases e:b.1.1=4
  ·exact e
  ·have:b.2.2=[]:=bE (g.2.2.2.2 e);rw[this]at c;cases c
 have k:=ub (λa=>1+sz n a) (λa=>by have:=(eX n a).1;omega) b.2.2 a c;have j:=Bu (λa=>fD n a) b.2.2 0 a c;simp only[sz,fD,if_pos e]at f2 f3;refine⟨uC.2 ⟨aM.1 (aV n b a f c),by simp only at j ⊢;omega,by simp only at k ⊢;omega⟩,ai ?_⟩;rcases d with d|d
 ·simp only[bU]at d;omega
 ·exact(yQ d).2.2 a c
theorem yh{D:Nat}{l:List (Tm D)}{c:List An}(g:∀y∈c,CQ y)(h:l.length=4)(n:c.length=4)(j:CR D l c):gg D l=true:=by
 unfold gg;rw[h];simp only[decide_true,eE,ci];intro y k;obtain⟨a,e⟩:=cW k;have i:a<c.length:=by have:=(aS.1 e).1;omega
 obtain⟨o,f,d,_⟩:=j a c[a] (aI i);rw[e]at f;obtain rfl:=aw f;obtain⟨m,b⟩:=g c[a] (jH _);unfold BG;rw[bQ d,m,kC d,<-fz,cF _ _ _ _ d];rcases b with b|b
 ·have:bU (⟨(c[a]).1,(c[a]).2⟩:An)=6:=b;rw[this];rfl
 ·rw[b];simp
theorem E0{b:List An}{w1 w':World}{a:Option Addr}{c:Nat}{l:List (Tm (nd b))}(q:gL (nd b) (Cw b) w1 w' a c l)(j:∀y∈b,aD y)(r:b.length=4):fH w'.heap.size w' (nd b) l a/\l.length=4/\CR (nd b) l b/\∀y∈l,aD ⟨nd b,y⟩:=by
 obtain⟨E,F,G,H,A,f⟩:=q;have D:(Cw b).length=4:=by simp[Cw,r]
 have t:fH w'.heap.size w' (nd b) l a:=by
  rcases f with f|⟨B,o,p,C,v,f⟩
  ·exact ah f
  ·exact ai ⟨B,o,p,v,λd y i=>⟨(f d y i).1,(f d y i).2.1⟩⟩
 have m:CR (nd b) l b:=by
  intro d e h;have g:d<l.length:=by have:=(aS.1 h).1;omega
  have z:(Cw b)[d]?=some (aT (nd b) e.1 e.2):=by simp[Cw,h]
  have x:=jA _ _ _ A d l[d] _ (aI g) z;have u:=fA (nd b) e.1 (zZ b e (aJ h)) e.2 (j e (aJ h));have k:=bH _ _ _ _ _ _ x u;exact⟨l[d],aI g,k,aM.2 (by rw[jB _ _ _ _ k];exact aM.1 (j e (aJ h)))⟩
 refine⟨t,by omega,m,λy i=>?_⟩;obtain⟨d,g⟩:=cW i;have s:d<b.length:=by have:=(aS.1 g).1;omega
 obtain⟨I,n,_,w⟩:=m d b[d] (aI s);rw[g]at n;obtain rfl:=aw n;exact w
def fo:Tm 1:=((6,0,.empty),(none,0),[])
theorem NW(B:Nat)(w:World):In B w 1 fo:=⟨⟨by simp[fo,dx],by simp[fo,dx],aH _,by simp[fo],by simp[fo]⟩,ah rfl⟩
theorem O9:bZ 1 fo=true:=by
 have:(ByteArray.empty).toList=[]:=by rw[cu];rfl
 simp[bZ,fo,cE,bD,this]
theorem d1(x:Tm 1)(a:x.1.1≠4):fD 1 x=0/\sz 1 x=0:=by simp[fD,sz,a]
theorem yN:bz 1 fo=0:=by
 rw[uC];have a:=d1 fo (by simp[fo]);exact⟨O9,by rw[a.1];decide,by rw[a.2];decide⟩
theorem I6:gg 1 (List.replicate 4 fo)=true:=by
 have:BG 1 fo=true:=by
  unfold BG;rw[yN];rfl
 unfold gg;simp only[List.length_replicate,decide_true,eE,ci];intro b a;rw[List.eq_of_mem_replicate a];exact this
theorem BA(w:World):ak 153 #[] w λe w'=>e=.returned (ae (some ⟨w.heap.size,0,none⟩) 4 4)/\Hid (gL 1 (List.replicate 4 fo) w w' (some ⟨w.heap.size,0,none⟩) 4 (List.replicate 4 fo)):=by
 obtain⟨A,l,q,r,s⟩:=bR gm;go_enter func153,ntmps153;go_wp2_with (at_make;refine kS _ rfl _ _ 29 rfl w.heap.size 31 A _ 4 underlying29 l q r _ _ _ _ 4 rfl rfl rfl rfl (by rw[s];omega) (by unfold maxLen;omega) (am _) ?_;intro C p b);have i:=ap (ri 1 (List.replicate 4 fo) 4 p);have h:Hid (aj w C):=⟨b.os,b.tape,b.output,b.size,λk m=>b.block k m (by simp)⟩;clear p b l q r s;go_loopw [6] (λd wr=>∃k:Nat,k<=4/\d=ab k/\Hid (aj w wr/\uk 1 (List.replicate 4 fo) 4 w.heap.size k (List.replicate k fo) wr)) (λd _=>4-(intOf d).toNat)
 case atStart=>exact⟨0,by omega,rfl,h,i⟩
 case round=>
  obtain⟨k,m,rfl,a⟩:=hrel;clear i h;by_cases n:k<4
  ·have t:(List.replicate 4 fo)[k]?=some fo:=by rw[List.getElem?_replicate,if_pos n]
   have j:In wr.heap.size wr 1 fo:=NW _ _;have o:ch (λf=>w.heap.size<f) 1 fo:=by simp[ch,fo]
   have y:=ap (a.2.step n fo t (ao _ _) fo j o (by simp[ax,fo,aB]));have v:Hid (aj w (jy wr w.heap.size (k*4) (gj 1 fo))):=by
    have c:=a.1;exact⟨c.os,c.tape,c.output,az c.size (dA (br _ _ _ _).symm),λf z=>(aX (by omega) _ _ _ _).trans (c.block f z)⟩
   obtain⟨g,u⟩:∃g,((List.replicate k fo).map (λD=>(⟨1,D⟩:An))++List.replicate (4-k) zA)[k]?=some g:=⟨_,aI (by simp;omega)⟩;obtain⟨E,F,G,H⟩:=a.out.2.2.1.cells k g u;have I:=λB=>a.2.2.1.free B;have J:(0:Int)<=(k:Int):=by omega
   have K:(k:Int)<4:=by omega
   have L:(k:Int)<=4:=by omega
   clear t j o u a;go_wp2_with fail;go_roundw
   case rel=>
    refine⟨k+1,by omega,by go_num,v,?_⟩;have e:List.replicate (k+1) fo=List.replicate k fo++ [fo]:=List.replicate_succ';rw[e];exact y
   case measure=>simp[intOf];omega
  ·obtain rfl:k=4:=by omega
   have x:=ap (a.2.done rfl (by omega) a.1 (by unfold maxLen;omega));go_wp2_with fail
   go_ret
   exact⟨rfl,x⟩
abbrev Ac(n:Nat):Type:=Int×(Tm n×Tm n)×(ByteArray×Int)
abbrev Cl(n:Nat):Type:=(Tm n×Tm n×Tm n)×(Option Addr×Nat)×List (Ac n)
abbrev Bh(n:Nat):Type:=ByteArray×(Option Addr×Nat)×List (Cl n)
def iq(n:Nat)(x:Tm n):List Value:=vv (gj n x)
def f9(n:Nat)(a:Ac n):List Value:=ab a.1::(iq n a.2.1.1++iq n a.2.1.2++ [af a.2.2.1,ab a.2.2.2])
def e9(n:Nat)(c:Cl n):List Value:=iq n c.1.1++iq n c.1.2.1++(ae c.2.1.1 c.2.2.length c.2.1.2::iq n c.1.2.2)
def pH(n:Nat)(b:Bh n):List Value:=[af b.1,ae b.2.1.1 b.2.2.length b.2.1.2]
def p8{c:Type}(B:Nat)(w:World)(k:Nat)(f:c->List Value)(i:c->Prop)(a:Option Addr)(l:List c):Prop:=
 l=[]\/∃b o,a=some ⟨b,o,none⟩/\b<B/\∀(e:Nat)(d:c),l[e]?=some d->(∀(g:Nat)(h:Value),(f d)[g]?=some h->w.cell? ⟨b,o+e*k+g,none⟩=some h)/\i d
def iE(n:Nat)(B:Nat)(w:World)(a:Ac n):Prop:=dx a.1/\In B w n a.2.1.1/\In B w n a.2.1.2/\a.2.2.1.size<=maxLen/\dx a.2.2.2
def g8(n:Nat)(B:Nat)(w:World)(c:Cl n):Prop:=(In B w n c.1.1/\In B w n c.1.2.1/\In B w n c.1.2.2)/\(c.2.2.length<=c.2.1.2/\c.2.1.2<=maxLen)/\p8 B w 11 (f9 n) (iE n B w) c.2.1.1 c.2.2
def pE(n:Nat)(B:Nat)(w:World)(b:Bh n):Prop:=b.1.size<=maxLen/\(b.2.2.length<=b.2.1.2/\b.2.1.2<=maxLen)/\p8 B w 13 (e9 n) (g8 n B w) b.2.1.1 b.2.2
def tD{c:Type}(d:c->Prop)(P:Nat->Prop)(a:Option Addr)(l:List c):Prop:=l=[]\/∃b o,a=some ⟨b,o,none⟩/\P b/\∀y∈l,d y
def lZ(n:Nat)(P:Nat->Prop)(a:Ac n):Prop:=ch P n a.2.1.1/\ch P n a.2.1.2
def jT(n:Nat)(P:Nat->Prop)(c:Cl n):Prop:=(ch P n c.1.1/\ch P n c.1.2.1/\ch P n c.1.2.2)/\tD (lZ n P) P c.2.1.1 c.2.2
def jS(n:Nat)(P:Nat->Prop)(b:Bh n):Prop:=tD (jT n P) P b.2.1.1 b.2.2
def jU{f:Type}(g:Nat->World->f->Prop)(h:(Nat->Prop)->f->Prop):Prop:=
 (∀(e j:Nat->Prop)(a:f),(∀b,e b->j b)->h e a->h j a)/\(∀(e:Nat->Prop)(c:Nat)(d:World)(a:f),h e a->g c d a->h (λb=>e b/\b<c) a)/\
 (∀(e:Nat->Prop)(c:Nat)(d k:World)(a:f),(∀b,e b->k.heap[b]?=d.heap[b]?)->h e a->g c d a->g c k a)/\(∀(c i:Nat)(d:World)(a:f),c<=i->g c d a->g i d a)/\
 (∀(c:Nat)(d:World)(a:f),g c d a->h (λb=>b<c) a)
theorem oP{B:Nat}{w:World}:{n:Nat}->{x:Tm n}->In B w n x->ch (λb=>b<B) n x
 | 0,_,k=>k
 | _+1,_,k=>by
  obtain⟨_,a⟩:=k;rcases a with a|⟨b,o,e,c,a⟩
  ·exact ah a
  ·exact ai ⟨b,o,e,c,λi y d=>oP (a i y d).2⟩
theorem dY(n:Nat):jU (λB w x=>In B w n x) (λP x=>ch P n x):=
 ⟨λ_ _ _ a k=>k.mono a,λ_ _ _ _ a k=>In.offB a k,λ_ _ _ _ _ a b k=>In.off a b k,λ_ _ _ _ a k=>k.mono a,λ_ _ _ k=>oP k⟩
theorem fJ(n:Nat):jU (iE n) (lZ n):=by
 obtain⟨t1,t2,t3,t4,t5⟩:=dY n
 exact⟨λd g e b k=>⟨t1 d g _ b k.1,t1 d g _ b k.2⟩,λd a c e b k=>⟨t2 d a c _ b.1 k.2.1,t2 d a c _ b.2 k.2.2.1⟩,
  λd a c i e b h k=>⟨k.1,t3 d a c i _ b h.1 k.2.1,t3 d a c i _ b h.2 k.2.2.1,k.2.2.2⟩,λa f c e b k=>⟨k.1,t4 a f c _ b k.2.1,t4 a f c _ b k.2.2.1,k.2.2.2⟩,
  λa c e k=>⟨t5 a c _ k.2.1,t5 a c _ k.2.2.1⟩⟩
theorem cG{r:Type}{s:Nat->World->r->Prop}{t:(Nat->Prop)->r->Prop}(d:jU s t)(k:Nat)(f:r->List Value)(a:Option Addr):jU (λB w l=>p8 B w k f (s B w) a l) (λP l=>tD (t P) P a l):=by
 obtain⟨t1,t2,t3,t4,t5⟩:=d;refine⟨λP v n d k=>?_,λP B w n d k=>?_,λP B w D n d m k=>?_,λB u w n d k=>?_,λB w n k=>?_⟩
 ·rcases k with k|⟨b,o,g,i,k⟩
  ·exact ah k
  ·exact ai ⟨b,o,g,d b i,λc e=>t1 P v c d (k c e)⟩
 ·rcases k with k|⟨b,o,g,i,k⟩
  ·exact ah k
  ·rcases d with d|⟨x,A,j,p,d⟩
   ·exact ah d
   ·rw[g]at j;simp at j;obtain⟨rfl,rfl⟩:=j;refine ai ⟨b,o,g,⟨p,i⟩,λc e=>?_⟩;obtain⟨h,q⟩:=cW e;exact t2 P B w c (d c e) (k h c q).2
 ·rcases k with k|⟨b,o,g,i,k⟩
  ·exact ah k
  ·rcases m with m|⟨x,A,j,p,m⟩
   ·exact ah m
   ·rw[g]at j;simp at j;obtain⟨rfl,rfl⟩:=j;exact ai ⟨b,o,g,i,λh c e=>⟨λz C y=>(bw (d b p) _).trans ((k h c e).1 z C y),t3 P B w D c d (m c (aJ e)) (k h c e).2⟩⟩
 ·rcases k with k|⟨b,o,g,i,k⟩
  ·exact ah k
  ·exact ai ⟨b,o,g,by omega,λh c e=>⟨(k h c e).1,t4 B u w c d (k h c e).2⟩⟩
 ·rcases k with k|⟨b,o,g,i,k⟩
  ·exact ah k
  ·refine ai ⟨b,o,g,i,λc e=>?_⟩;obtain⟨h,q⟩:=cW e;exact t5 B w c (k h c q).2
theorem ey(n:Nat):jU (g8 n) (jT n):=by
 obtain⟨t1,t2,t3,t4,t5⟩:=dY n;have e:=λl=>cG (fJ n) 11 (f9 n) l
 exact⟨λd g j b k=>⟨⟨t1 d g _ b k.1.1,t1 d g _ b k.1.2.1,t1 d g _ b k.1.2.2⟩,(e _).1 d g _ b k.2⟩,
  λd a c j b k=>⟨⟨t2 d a c _ b.1.1 k.1.1,t2 d a c _ b.1.2.1 k.1.2.1,t2 d a c _ b.1.2.2 k.1.2.2⟩,(e _).2.1 d a c _ b.2 k.2.2⟩,
  λd a c i j b h k=>⟨⟨t3 d a c i _ b h.1.1 k.1.1,t3 d a c i _ b h.1.2.1 k.1.2.1,t3 d a c i _ b h.1.2.2 k.1.2.2⟩,k.2.1,(e _).2.2.1 d a c i _ b h.2 k.2.2⟩,
  λa f c j b k=>⟨⟨t4 a f c _ b k.1.1,t4 a f c _ b k.1.2.1,t4 a f c _ b k.1.2.2⟩,k.2.1,(e _).2.2.2.1 a f c _ b k.2.2⟩,
  λa c j k=>⟨⟨t5 a c _ k.1.1,t5 a c _ k.1.2.1,t5 a c _ k.1.2.2⟩,(e _).2.2.2.2 a c _ k.2.2⟩⟩
theorem dV(n:Nat):jU (pE n) (jS n):=by
 have d:=λi=>cG (ey n) 13 (e9 n) i
 exact⟨λe h f b k=>(d _).1 e h _ b k,λe a c f b k=>(d _).2.1 e a c _ b k.2.2,λe a c l f b j k=>⟨k.1,k.2.1,(d _).2.2.1 e a c l _ b j k.2.2⟩,
  λa g c f b k=>⟨k.1,k.2.1,(d _).2.2.2.1 a g c _ b k.2.2⟩,λa c f k=>(d _).2.2.2.2 a c _ k.2.2⟩
def gh(n:Nat)(B:Nat)(w:World)(a:Option Addr)(l:List (Bh n)):Prop:=p8 B w 2 (pH n) (pE n B w) a l
theorem jU.below{c:Type}{a:Nat->World->c->Prop}{e:(Nat->Prop)->c->Prop}(d:jU a e){B:Nat}{w w':World}(f:Below B w w'){x:c}(k:a B w x):a B w' x:=
 d.2.2.1 (λb=>b<B) B w w' x (λb g=>f.block b g) (d.2.2.2.2 B w x k) k
theorem jU.mono{b:Type}{a:Nat->World->b->Prop}{c:(Nat->Prop)->b->Prop}(d:jU a c){B C:Nat}(e:B<=C){w:World}{x:b}(k:a B w x):a C w x:=d.2.2.2.1 B C w x e k
theorem gh.below{n B:Nat}{w w':World}{a:Option Addr}{l:List (Bh n)}(b:Below B w w')(k:gh n B w a l):gh n B w' a l:=(cG (dV n) 2 (pH n) a).below b k
theorem gh.mono{n B C:Nat}(b:B<=C){w:World}{a:Option Addr}{l:List (Bh n)}(k:gh n B w a l):gh n C w a l:=(cG (dV n) 2 (pH n) a).mono b k
def fl{a:Type}(d:Nat->World->a->Prop)(e:(Nat->Prop)->a->Prop)(f:a->List Value)(k:Nat)(T:TypeId)(B base:Nat)(xs:List a)(v:Value)(w0 wr:World):Prop:=
 Below base w0 wr/\wr.ownsRow base T k v xs.length (xs.flatMap f)/\∀c∈xs,d wr.heap.size wr c/\e (λb=>(b<B\/base<=b)/\v.ownBlock≠some b) c
theorem fl.nil{a:Type}{b:Nat->World->a->Prop}{c:(Nat->Prop)->a->Prop}{f:a->List Value}{k:Nat}{T:TypeId}{B base:Nat}(w:World):fl b c f k T B base [] (ae none 0 0) w w:=
 ⟨ao _ _,eK _ _ _ _,λe d=>by cases d⟩
theorem fl.later{b:Type}{c:Nat->World->b->Prop}{d:(Nat->Prop)->b->Prop}(e:jU c d){f:b->List Value}{k:Nat}{T:TypeId}{B base:Nat}{xs:List b}{v:Value}{w0 wr w1:World}(j:fl c d f k T B base xs v w0 wr)(l:base<=wr.heap.size)(a:aj wr w1):fl c d f k T B base xs v w0 w1:=by
 obtain⟨m,n,h⟩:=j;exact⟨m.trans (a.mono l),dT n a,λi g=>⟨e.mono a.size (e.below a (h i g).1),(h i g).2⟩⟩
theorem fl.step{q:Type}{r:Nat->World->q->Prop}{s:(Nat->Prop)->q->Prop}(e:jU r s){f:q->List Value}{k:Nat}{T:TypeId}{B base:Nat}{xs:List q}{v:Value}{w0 wr w1 w2:World}(D:fl r s f k T B base xs v w0 wr)(L:B<=base)(y:base<=wr.heap.size)(j:aj wr w1)(h:q)(w:r w1.heap.size w1 h)(F:s (λb=>b<B\/wr.heap.size<=b) h){g c:Nat}(H:w2.ownsRow base T k (ae (some ⟨g,0,none⟩) (xs.length+1) c) (xs.length+1) (xs.flatMap f++f h))(m:w1.grownBy w2 v.ownBlock)(x:v.ownBlock=some g\/g=w1.heap.size):fl r s f k T B base (xs++ [h]) (ae (some ⟨g,0,none⟩) (xs.length+1) c) w0 w2:=by
 obtain⟨o,J,K⟩:=D;have u:∀b,v.ownBlock=some b->base<=b/\b<wr.heap.size:=λb d=>J.lt b d;have t:∀b,b<w1.heap.size->v.ownBlock≠some b->w2.heap[b]?=w1.heap[b]? :=λb y G=>m.block b y (λd=>G d.symm);have E:=j.size;have z:=m.size;refine⟨⟨(m.os.trans j.os).trans o.os,(m.tape.trans j.tape).trans o.tape,(m.output.trans j.output).trans o.output,by have:=o.size;omega,λb a=>?_⟩,?_,?_⟩
 ·exact(t b (by omega) (λd=>by have:=(u b d).1;omega)).trans ((j.block b (by omega)).trans (o.block b a))
 ·have C:(xs++ [h]).length=xs.length+1:=by simp
  have i:(xs++ [h]).flatMap f=xs.flatMap f++f h:=by simp
  rw[C,i];exact H
 ·intro p l;rcases dl.1 l with l|l
  ·obtain⟨A,I⟩:=K p l;have n:=e.2.1 _ _ _ _ I A;refine⟨e.mono z (e.2.2.1 _ _ w1 w2 p (λb a=>t b ?_ a.1.2) n (e.mono E (e.below j A))),e.1 _ _ p (λb a=>⟨a.1.1,?_⟩) n⟩
   ·have:=a.2;omega
   ·simp only[Value.ownBlock];intro d;injection d with d;rcases x with i|i
    ·exact a.1.2 (by rw[i,d])
    ·have:=a.2;omega
  ·simp only[dN]at l;subst l;have n:=e.2.1 _ _ _ _ F w;refine⟨e.mono z (e.2.2.1 _ _ w1 w2 p (λb a=>t b a.2 (λd=>?_)) n w),e.1 _ _ p (λb a=>⟨?_,?_⟩) n⟩
   ·have:=u b d;have:=a.1;omega
   ·have:=a.1;omega
   ·simp only[Value.ownBlock];intro d;injection d with d;rcases x with i|i
    ·have:=u g i;have:=a.1;omega
    ·have:=a.2;omega
theorem fl.lit{d:Type}{e:Nat->World->d->Prop}{g:(Nat->Prop)->d->Prop}(a:jU e g){f:d->List Value}{k:Nat}{T:TypeId}{B base:Nat}(xs:List d){w0 w1:World}{cs:Array Value}(i:cs.toList=xs.flatMap f)(r:∀x,(f x).length=k)(p:xs.length<=maxLen)(m:base<=w1.heap.size)(q:Below base w0 w1)(c:∀y∈xs,e w1.heap.size w1 y/\g (λb=>b<B\/base<=b) y):fl e g f k T B base xs (ae (some ⟨w1.heap.size,0,none⟩) xs.length xs.length) w0 (w1.alloc (.cells cs T)):=by
 have h:aj w1 (w1.alloc (.cells cs T)):=(ao _ _).alloc (am _) _;have o:(xs.flatMap f).length=xs.length*k:=by
  clear i c p
  induction xs with
  | nil=>simp
  | cons x xs ih=>rw[bF,bm,ih,r,bi,Nat.succ_mul];omega
 have s:cs.size=xs.length*k:=by rw[<-o,<-i];simp
 refine⟨q.trans (h.mono m),⟨by rw[o],ai ⟨w1.heap.size,xs.length,cs,rfl,m,aA w1 _,am _,p,by omega,?_⟩⟩,λy j=>⟨a.mono h.size (a.below h (c y j).1),?_⟩⟩
 ·rw[i,bA (by omega)]
 ·refine a.1 _ _ y (λb n=>⟨n.1,?_⟩) (a.2.1 _ _ _ _ (c y j).2 (c y j).1);simp only[Value.ownBlock];intro l;injection l with l;have:=n.2;omega
theorem fl.lay{m:Type}{p:Nat->World->m->Prop}{q:(Nat->Prop)->m->Prop}(y:jU p q){f:m->List Value}{k:Nat}{T:TypeId}{B base:Nat}{xs:List m}{v:Value}{w0 wr:World}(u:∀x,(f x).length=k)(h:fl p q f k T B base xs v w0 wr):∃a c,v=ae a xs.length c/\(xs.length<=c/\c<=maxLen)/\p8 wr.heap.size wr k f (p wr.heap.size wr) a xs/\tD (q (λb=>b<B\/base<=b)) (λb=>b<B\/base<=b) a xs:=by
 obtain⟨M,H,w⟩:=h;rcases H.2 with⟨r,J⟩|⟨s,cap,I,r,E,t,C,F,L,D⟩
 ·have G:xs=[]:=bE (by omega);subst G;exact⟨none,0,r,⟨am _,aH _⟩,ah rfl,ah rfl⟩
 ·refine⟨some ⟨s,0,none⟩,cap,r,⟨C,F⟩,ai ⟨s,0,rfl,(aF.1 t).1,λd e o=>⟨λg j n=>?_,(w e (aJ o)).1⟩⟩,ai ⟨s,0,rfl,ai E,λe o=>y.1 _ _ e (λb A=>A.1) (w e o).2⟩⟩;have z:∀(l:List m)(d g:Nat)(e:m)(j:Value),l[d]?=some e->(f e)[g]?=some j->(l.flatMap f)[d*k+g]?=some j:=by
   intro l
   induction l with
   | nil=>intro d g e j h;simp at h
   | cons x l ih=>
    intro d g e j h n;rw[bF];cases d with
    | zero=>
     simp at h;subst h;rw[dr (by have:=(aS.1 n).1;omega)];simpa using n
    | succ d=>
     rw[ed (by rw[u,Nat.succ_mul];omega),u,Nat.succ_mul,show d*k+k+g-k=d*k+g by omega];exact ih d g e j (by simpa using h) n
  have i:=z xs d g e j o n;have K:=(aS.1 i).1;rw[<-D]at i;rw[jk]at i;split at i
  ·rw[cX];simp only[World.cell?,t];rw[mO]at i;simpa using i
  ·cases i
def IP(i:Option (List An))(f:List An->Option (List An))(w:World)(e:Ending)(w':World):Prop:=
 ∃h len c d,e=.returned (.tuple #[ae h len c,.bool d])/\Hid (aj w w'/\(i=none->d=false)/\∀b,i=some b->∃g:List (Tm (nd b)),aB (λk m=>ax (nd b) k (nd b) m) g (Cw b)=true/\(f (nS (nd b) g)=none->d=false)/\
  ∀a,f (nS (nd b) g)=some a->d=true/\len=4/\a.length=4/\∃j l,w.heap.size<=j.heap.size/\gL (nd a) (Cw a) j w' h c l)
theorem DS(g h j k v x s0 s1 t0 t1:Int)(i m y q t2:ByteArray)(pa n z sa K t:Option Addr)(pl pc p o B A sl sc M L cl u:Nat)(R:Option (List An))(f:List An->Option (List An))(w:World)(X:Hid (∀E W,aj w E->gL 1 (List.replicate 4 fo) E W (some ⟨E.heap.size,0,none⟩) 4 (List.replicate 4 fo)->ak 152 #[.agg #[ab g,ab h,af i,ae pa pl pc],.agg #[ab s0,ab s1,af q,ae sa sl sc],ae (some ⟨E.heap.size,0,none⟩) 4 4] W (yz 0 R W)))(aC:Hid (∀(b:List An)(l:List (Tm (nd b)))(a:Option Addr)(c:Nat)(E W:World),aj w W->R=some b->b.length=4->gL (nd b) (Cw b) E W a c l->ak 152 #[.agg #[ab j,ab k,af m,ae n p o],.agg #[ab t0,ab t1,af t2,ae K M L],ae a 4 c] W (yz 0 (f (nS (nd b) l)) W))):ak 115 #[.agg #[ab g,ab h,af i,ae pa pl pc,ab j,ab k,af m,ae n p o,ae t cl u,ab v,ab x,af y,ae z B A],.agg #[ab s0,ab s1,af q,ae sa sl sc],.agg #[ab t0,ab t1,af t2,ae K M L]] w (IP R f w):=by
 go_enter func115,ntmps115;go_wp2_with fail;have Y:Hid (∃s d e F,(s=((w.alloc (.cells #[ab g,ab h,af i,ae pa pl pc,ab j,ab k,af m,ae n p o,ae t cl u,ab v,ab x,af y,ae z B A] 162)).alloc (.cells #[ab s0,ab s1,af q,ae sa sl sc] 31)).alloc (.cells #[ab t0,ab t1,af t2,ae K M L] 31)/\d=w.heap.size/\e=w.heap.size+1/\F=w.heap.size+2)/\aj w s/\∀W,aj s W->(W.cell? ⟨d,0,none⟩=some (ab g)/\W.cell? ⟨d,1,none⟩=some (ab h)/\W.cell? ⟨d,2,none⟩=some (af i)/\W.cell? ⟨d,3,none⟩=some (ae pa pl pc))/\(W.cell? ⟨d,4,none⟩=some (ab j)/\W.cell? ⟨d,5,none⟩=some (ab k)/\W.cell? ⟨d,6,none⟩=some (af m)/\W.cell? ⟨d,7,none⟩=some (ae n p o))/\(W.cell? ⟨e,0,none⟩=some (ab s0)/\W.cell? ⟨e,1,none⟩=some (ab s1)/\W.cell? ⟨e,2,none⟩=some (af q)/\W.cell? ⟨e,3,none⟩=some (ae sa sl sc))/\(W.cell? ⟨F,0,none⟩=some (ab t0)/\W.cell? ⟨F,1,none⟩=some (ab t1)/\W.cell? ⟨F,2,none⟩=some (af t2)/\W.cell? ⟨F,3,none⟩=some (ae K M L))):=by
  have aR:(w.alloc (.cells #[ab g,ab h,af i,ae pa pl pc,ab j,ab k,af m,ae n p o,ae t cl u,ab v,ab x,af y,ae z B A] 162)).heap.size=w.heap.size+1:=by simp
  have aS:((w.alloc (.cells #[ab g,ab h,af i,ae pa pl pc,ab j,ab k,af m,ae n p o,ae t cl u,ab v,ab x,af y,ae z B A] 162)).alloc (.cells #[ab s0,ab s1,af q,ae sa sl sc] 31)).heap.size=w.heap.size+2:=by simp
  refine⟨_,_,_,_,⟨rfl,rfl,rfl,rfl⟩,(((ao _ _).alloc (am _) _).alloc (by simp) _).alloc (by simp;omega) _,λW G=>?_⟩;have r:=(G.block w.heap.size (by simp;omega)).trans ((((ao _ _).alloc (am _) _).block w.heap.size (by simp;omega)).trans ((((ao _ _).alloc (am _) _).block w.heap.size (by simp)).trans (aA w (.cells #[ab g,ab h,af i,ae pa pl pc,ab j,ab k,af m,ae n p o,ae t cl u,ab v,ab x,af y,ae z B A] 162))));have aq:=aA (w.alloc (.cells #[ab g,ab h,af i,ae pa pl pc,ab j,ab k,af m,ae n p o,ae t cl u,ab v,ab x,af y,ae z B A] 162)) (.cells #[ab s0,ab s1,af q,ae sa sl sc] 31);rw[aR]at aq;have P:=(G.block (w.heap.size+1) (by simp)).trans ((((ao _ _).alloc (am _) _).block (w.heap.size+1) (by simp)).trans aq);have ar:=aA ((w.alloc (.cells #[ab g,ab h,af i,ae pa pl pc,ab j,ab k,af m,ae n p o,ae t cl u,ab v,ab x,af y,ae z B A] 162)).alloc (.cells #[ab s0,ab s1,af q,ae sa sl sc] 31)) (.cells #[ab t0,ab t1,af t2,ae K M L] 31);rw[aS]at ar;have Q:=(G.block (w.heap.size+2) (by simp)).trans ar;exact⟨⟨ag r 0,ag r 1,ag r 2,ag r 3⟩,⟨ag r 4,ag r 5,ag r 6,ag r 7⟩,⟨ag P 0,ag P 1,ag P 2,ag P 3⟩,ag Q 0,ag Q 1,ag Q 2,ag Q 3⟩
 obtain⟨s,d,e,F,⟨al,ad,ah,ai⟩,C,D⟩:=Y.out;rw[<-al,<-ai,<-ah,<-ad];replace C:=ap C;replace D:=ap D;clear al ad ah ai Y;obtain⟨⟨av,aw,ax,ay⟩,_,⟨y0,y1,y2,aB⟩,_⟩:=D.out s (ao _ _);have I:Hid (aj s s.drew):=(ao _ _).drew;have O:Hid (∀W,aj s W->(W.cell? ⟨d,0,none⟩=some (ab g)/\W.cell? ⟨d,1,none⟩=some (ab h)/\W.cell? ⟨d,2,none⟩=some (af i)/\W.cell? ⟨d,3,none⟩=some (ae pa pl pc))/\(W.cell? ⟨e,0,none⟩=some (ab s0)/\W.cell? ⟨e,1,none⟩=some (ab s1)/\W.cell? ⟨e,2,none⟩=some (af q)/\W.cell? ⟨e,3,none⟩=some (ae sa sl sc))):=λW G=>⟨(D W G).1,(D W G).2.2.1⟩
 go_region_held3 (λW=>(W.cell? ⟨d,0,none⟩=some (ab g)/\W.cell? ⟨d,1,none⟩=some (ab h)/\W.cell? ⟨d,2,none⟩=some (af i)/\W.cell? ⟨d,3,none⟩=some (ae pa pl pc))/\(W.cell? ⟨e,0,none⟩=some (ab s0)/\W.cell? ⟨e,1,none⟩=some (ab s1)/\W.cell? ⟨e,2,none⟩=some (af q)/\W.cell? ⟨e,3,none⟩=some (ae sa sl sc)))
  (first|(go_keep;done)|exact O _ I|exact O _ S|exact O _ N) ((first
   | (go_at_call 153;refine(BA _).mono ?_;rintro Z a6 ⟨rfl,U⟩;have N:=ap (I.trans (U.1.mono I.size)))
   | (go_at_call 152;refine(X _ _ (C.trans (I.mono C.size)) U).mono ?_;rintro Z au ⟨aF,aY,aI,a1,rfl,J⟩;have S:=ap (N.trans (J.1.mono N.size)))))
 have H:=ap (C.trans (S.mono C.size));clear av aw ax ay y0 y1 y2 aB O U N I X;cases R with
 | none=>
  obtain⟨rfl,rfl⟩:aY=0/\a1=false:=J.out.2.1 (by simp);clear J;go_wp2_with fail
  go_ret2
  exact⟨none,0,0,false,rfl,H,λ_=>rfl,λb aL=>by cases aL⟩
 | some b=>
  obtain⟨aQ,aO,aa,a3,an,aT,V⟩:=J.out.2.2 b trivial rfl;subst aQ aO;have aE:=ap (aC b an aF aI a3 au H rfl aa V);have aD:=ap V.2.2.2.2.1;obtain⟨_,⟨av,aw,ax,ay⟩,_,y0,y1,y2,aB⟩:=D au S;clear V J aa aT;go_wp2_with fail;refine aE.mono ?_;rintro Z a7 ⟨aG,aZ,aJ,a2,rfl,T⟩;go_wp2_with fail
  go_ret2
  refine⟨aG,aZ,aJ,a2,rfl,H.trans (T.1.mono H.size),(λaK=>by cases aK),λa5 aM=>?_⟩;cases aM;refine⟨an,aD,λaP=>(T.2.1 (by simp[aP])).2,λaH aN=>?_⟩;obtain⟨aU,aV,aW,a4,a0,aX,kc⟩:=T.2.2 aH trivial aN;exact⟨aU,aV,aW,a4,a0,az H.size aX,kc⟩
theorem LY{n:Nat}{p l:List (Tm n)}{w w':World}{a:Option Addr}{c:Nat}(i:gL n p w w' a c l):fH w'.heap.size w' n l a:=by
 obtain⟨_,_,_,_,_,k⟩:=i;rcases k with d|⟨b,o,d,_,j,e⟩
 ·exact ah d
 ·exact ai ⟨b,o,d,j,λg h f=>⟨(e g h f).1,(e g h f).2.1⟩⟩
theorem rG{y:An}(a:CQ y):aD y:=aM.2 (bB.1 a.1).1
theorem CT:∀y∈nS 1 (List.replicate 4 fo),CQ y:=by
 intro y a;simp only[nS,b9,List.mem_replicate]at a;obtain⟨b,⟨_,rfl⟩,rfl⟩:=a;exact⟨yN,ah rfl⟩
theorem fi{n:Nat}{x:Tm n}(a:bz n x=0):(ay n x).length<=2097152:=az (nX a) (by omega)
theorem Hc(n m k:Nat)(c:Cl (n+1))(s:Tm (m+1))(t:Tm (k+1))(B:Nat)(w:World)(C:g8 (n+1) B w c)(K:In B w (m+1) s)(L:In B w (k+1) t)(a:B<=w.heap.size)(u:bz (n+1) c.1.1=0)(v:bz (n+1) c.1.2.1=0)(p:bz (m+1) s=0)(x:j9 (m+1) s=true)(y:bz (k+1) t=0)(H:j9 (k+1) t=true):ak 115 #[.agg (e9 (n+1) c).toArray,dq (m+1) s,dq (k+1) t] w (IP (hU (n+1) c.1.1 (m+1) s (nS 1 (List.replicate 4 fo))) (hU (n+1) c.1.2.1 (k+1) t) w):=by
 refine DS c.1.1.1.1 c.1.1.1.2.1 c.1.2.1.1.1 c.1.2.1.1.2.1 c.1.2.2.1.1 c.1.2.2.1.2.1 s.1.1 s.1.2.1 t.1.1 t.1.2.1 c.1.1.1.2.2 c.1.2.1.1.2.2 c.1.2.2.1.2.2 s.1.2.2 t.1.2.2 c.1.1.2.1.1 c.1.2.1.2.1.1 c.1.2.2.2.1.1 s.2.1.1 t.2.1.1 c.2.1.1
  c.1.1.2.2.length c.1.1.2.1.2 c.1.2.1.2.2.length c.1.2.1.2.1.2 c.1.2.2.2.2.length c.1.2.2.2.1.2 s.2.2.length s.2.1.2 t.2.2.length t.2.1.2 c.2.2.length c.2.1.2 _ _ w ?_ ?_
 ·intro r d z i;have h:=z.trans (i.1.mono z.size)
  have e:=xw (n+1) (m+1) 1 c.1.1 s (List.replicate 4 fo) (some ⟨r.heap.size,0,none⟩) 4 d.heap.size d ((C.1.1.below (h.mono a)).mono (az a h.size)) ((K.below (h.mono a)).mono (az a h.size)) (LY i) (am _) (fi u) (fi p) (λj f=>by
   rw[(List.mem_replicate.1 f).2]
   exact fi yN) (by simp)
  have o:tG (bz (n+1) c.1.1) (bz (m+1) s) (j9 (m+1) s) (gg 1 (List.replicate 4 fo))=0:=by
   rw[u,p,x,I6];rfl
  rw[o]at e;exact e
 ·intro b l E F r d g J G i;have q:=kY CQ ou (n+1) c.1.1 (m+1) s ⟨p,ai (by rw[fz];exact x)⟩ (nS 1 (List.replicate 4 fo)) b ⟨by simp[nS],CT⟩ J;obtain⟨I,D,M,N⟩:=E0 i (λj f=>rG (q.2 j f)) G;have A:=yh q.2 D q.1 M;have e:=xw (n+1) (k+1) (nd b) c.1.2.1 t l E F d.heap.size d ((C.1.2.1.below (g.mono a)).mono (az a g.size)) ((L.below (g.mono a)).mono (az a g.size)) I (am _) (fi v) (fi y) (λj f=>fi ((ig A).2 j f).1) (by omega);have o:tG (bz (n+1) c.1.2.1) (bz (k+1) t) (j9 (k+1) t) (gg (nd b) l)=0:=by
   rw[v,y,H,A];rfl
  rw[o,D]at e;exact e
def wY(N:Nat)(o:Option (Tm (N+1)))(w:World)(e:Ending)(w':World):Prop:=
 ∃a:Tm (N+1),e=.returned (.tuple #[.agg #[ab a.1.1,ab a.1.2.1,af a.1.2.2,ae a.2.1.1 a.2.2.length a.2.1.2],.bool o.isSome])/\Hid (aj w w'/\In w'.heap.size w' (N+1) a/\ch (λb=>w.heap.size<=b) (N+1) a/\ax (N+1) a (N+1) (o.getD (wv N))=true)
theorem KC{N:Nat}{E:Int}{o:Option (Tm N)}:(Fv E (nU E o)==0)=(nU E o).isSome:=by
 unfold Fv;by_cases a:E=0
 ·rw[if_pos a];cases (nU E o).isSome<;>simp
 ·rw[if_neg a];have:nU E o=none:=by unfold nU;rw[if_neg a]
  rw[this];simp[a]
theorem Cx{N:Nat}(y:Tm (N+1)):dq (N+1) y=.agg #[ab y.1.1,ab y.1.2.1,af y.1.2.2,ae y.2.1.1 y.2.2.length y.2.1.2]:=rfl
theorem Ls{w w':World}{t:TypeId}{v0 v1 v2 v3:Value}(b:Below (w.alloc (.cells #[v0,v1,v2,v3] t)).drew.heap.size (w.alloc (.cells #[v0,v1,v2,v3] t)).drew w'):w'.cell? ⟨w.heap.size,0,none⟩=some v0/\w'.cell? ⟨w.heap.size,1,none⟩=some v1/\w'.cell? ⟨w.heap.size,2,none⟩=some v2/\w'.cell? ⟨w.heap.size,3,none⟩=some v3/\w'.frozen? ⟨w.heap.size,0,none⟩=false/\w'.frozen? ⟨w.heap.size,1,none⟩=false/\w'.frozen? ⟨w.heap.size,2,none⟩=false/\w'.frozen? ⟨w.heap.size,3,none⟩=false:=by
 have a:=(b.block w.heap.size (by simp[World.drew])).trans (aA w (.cells #[v0,v1,v2,v3] t));exact⟨ag a 0,ag a 1,ag a 2,ag a 3,by simp[World.frozen?,a],by simp[World.frozen?,a],by simp[World.frozen?,a],by simp[World.frozen?,a]⟩
theorem N2{w w':World}{t:TypeId}{v0 v1 v2 v3:Value}(a:Below (w.alloc (.cells #[v0,v1,v2,v3] t)).drew.heap.size (w.alloc (.cells #[v0,v1,v2,v3] t)).drew w'):w'.heap[w.heap.size]?=some (.cells #[v0,v1,v2,v3] t):=
 (a.block w.heap.size (by simp[World.drew])).trans (aA w (.cells #[v0,v1,v2,v3] t))
theorem xM{w:World}{g:Nat}{t:TypeId}{b c d e:Value}(a:w.heap[g]?=some (.cells #[b,c,d,e] t))(v0 v1 v2 v3:Value):(dd w g 0 v0 v1 v2 v3).heap[g]?=some (.cells #[v0,v1,v2,v3] t):=by
 simp[dd,World.setCell,bJ,a]
def wX(N:Nat)(y:Tm (N+1))(w0:World)(q p:Nat)(w2 b:World):Prop:=
 aj w0 b/\b.heap[p]?=some (.cells #[ab y.1.1,ab y.1.2.1,af y.1.2.2,ae y.2.1.1 y.2.2.length y.2.1.2] 31)/\p≠q/\(∀a,a<w2.heap.size->a≠p->b.heap[a]?=w2.heap[a]?)/\ch (λa=>w0.heap.size<=a/\a<w2.heap.size/\a≠p) (N+1) y
theorem wX.cells{N:Nat}{y:Tm (N+1)}{w0 w2 a:World}{q p:Nat}(c:wX N y w0 q p w2 a)(d:q<w0.heap.size){t:TypeId}{v0 v1 v2 v3:Value}(e:w0.heap[q]?=some (.cells #[v0,v1,v2,v3] t)):(a.cell? ⟨p,0,none⟩=some (ab y.1.1)/\a.cell? ⟨p,1,none⟩=some (ab y.1.2.1)/\a.cell? ⟨p,2,none⟩=some (af y.1.2.2)/\a.cell? ⟨p,3,none⟩=some (ae y.2.1.1 y.2.2.length y.2.1.2))/\ (a.cell? ⟨q,0,none⟩=some v0/\a.cell? ⟨q,1,none⟩=some v1/\a.cell? ⟨q,2,none⟩=some v2/\a.cell? ⟨q,3,none⟩=some v3)/\a.frozen? ⟨q,0,none⟩=false/\a.frozen? ⟨q,1,none⟩=false/\a.frozen? ⟨q,2,none⟩=false/\a.frozen? ⟨q,3,none⟩=false/\p≠q:=by
 have b:=(c.1.block q d).trans e;exact⟨⟨ag c.2.1 0,ag c.2.1 1,ag c.2.1 2,ag c.2.1 3⟩,⟨ag b 0,ag b 1,ag b 2,ag b 3⟩,by simp[World.frozen?,b],by simp[World.frozen?,b],by simp[World.frozen?,b],by simp[World.frozen?,b],c.2.2.1⟩
theorem wX.close{N:Nat}{y:Tm (N+1)}{E:Int}{o:Option (Tm (N+1))}{w w0 w2 d:World}{q p:Nat}(f:wX N y w0 q p w2 d)(b:aj w w0)(k:w.heap.size<=q)(t:q<w0.heap.size)(j:In w2.heap.size w2 (N+1) y)(l:ax (N+1) y (N+1) ((nU E o).getD (wv N))=true){v0 v1 v2 v3:Value}(m:w2.heap.size<=d.heap.size):wY N (nU E o) w (.returned (.tuple #[.agg #[ab y.1.1,ab y.1.2.1,af y.1.2.2,ae y.2.1.1 y.2.2.length y.2.1.2],.bool (Fv E (nU E o)==0)])) (dd d q 0 v0 v1 v2 v3):=by
 obtain⟨g,n,r,h,e⟩:=f;have i:=b.trans (g.mono b.size);have s:=b.size;refine⟨y,by rw[KC],de i k _ _ _ _,?_,e.mono λa c=>by omega,l⟩;rw[br];exact(In.off (P:=λa=>w0.heap.size<=a/\a<w2.heap.size/\a≠p) (λa c=>(aX (by omega) _ _ _ _).trans (h a c.2.1 c.2.2)) e j).mono m
theorem yZ(N:Nat)(E:Int)(o:Option (Tm (N+1)))(r s:Int)(t:ByteArray)(xa:Option Addr)(u xc:Nat)(a:Option Addr)(c:Nat)(self:Int)(f:Nat)(w:World)(ad:f<w.heap.size)(d0:w.cell? ⟨f,0,none⟩=some (ae a 4 c))(d1:w.cell? ⟨f,1,none⟩=some (ab self))(J:Hid (∀W,aj w W->ak 155 #[.agg #[ab r,ab s,af t,ae xa u xc],ae a 4 c,ab self] W (Ar N E o W))):ak 117 #[aC f,.agg #[ab r,ab s,af t,ae xa u xc]] w (wY N (nU E o) w):=by
 have S:Hid (∃d g y,(d=(w.alloc (.cells #[ab r,ab s,af t,ae xa u xc] 31)).alloc (.cells #[ab 0,ab 0,af ⟨#[]⟩,ae none 0 0] 31)/\g=w.heap.size/\y=w.heap.size+1)/\(g<d.heap.size/\f<d.heap.size/\y<d.heap.size/\w.heap.size<=y)/\aj w d/\d.heap[y]?=some (.cells #[ab 0,ab 0,af ⟨#[]⟩,ae none 0 0] 31)/\∀W,aj d W->(W.cell? ⟨g,0,none⟩=some (ab r)/\W.cell? ⟨g,1,none⟩=some (ab s)/\W.cell? ⟨g,2,none⟩=some (af t)/\W.cell? ⟨g,3,none⟩=some (ae xa u xc))/\W.cell? ⟨f,0,none⟩=some (ae a 4 c)/\W.cell? ⟨f,1,none⟩=some (ab self)):=by
  have aa:aj w ((w.alloc (.cells #[ab r,ab s,af t,ae xa u xc] 31)).alloc (.cells #[ab 0,ab 0,af ⟨#[]⟩,ae none 0 0] 31)):=((ao _ _).alloc (am _) _).alloc (by simp) _;have an:=aA (w.alloc (.cells #[ab r,ab s,af t,ae xa u xc] 31)) (.cells #[ab 0,ab 0,af ⟨#[]⟩,ae none 0 0] 31);rw[iB]at an;refine⟨_,_,_,⟨rfl,rfl,rfl⟩,⟨by simp;omega,by simp;omega,by simp,by omega⟩,aa,an,λW Y=>?_⟩;have K:=(Y.block w.heap.size (by simp;omega)).trans ((((ao _ _).alloc (am _) _).block w.heap.size (by simp)).trans (aA w (.cells #[ab r,ab s,af t,ae xa u xc] 31)));have Z:aj w W:=aa.trans (Y.mono (by simp;omega));exact⟨⟨ag K 0,ag K 1,ag K 2,ag K 3⟩,(Z.cell (p:=⟨f,0,none⟩) ad).trans d0,(Z.cell (p:=⟨f,1,none⟩) ad).trans d1⟩
 go_enter func117,ntmps117;go_wp2_with fail;obtain⟨d,g,y,⟨al,ah,ai⟩,i,n,I,h⟩:=S.out;rw[<-al,<-ai,<-ah];replace i:=ap i;replace n:=ap n;replace I:=ap I;replace h:=ap h;clear al ah ai S d0 d1;obtain⟨⟨T,U,V,X⟩,d0,d1⟩:=h.out d (ao _ _);have x:Hid (aj d d.drew):=(ao _ _).drew;have z:Hid (∀o:Obj,aj d (d.alloc o).drew):=λo=>((ao _ _).alloc (am _) o).drew;have M:Hid (∀o:Obj,aj w (d.alloc o).drew):=λo=>n.trans ((z o).mono n.size);have O:=ap (n.trans (x.mono n.size))
 go_region_held3 (λW=>(W.cell? ⟨g,0,none⟩=some (ab r)/\W.cell? ⟨g,1,none⟩=some (ab s)/\W.cell? ⟨g,2,none⟩=some (af t)/\W.cell? ⟨g,3,none⟩=some (ae xa u xc))/\W.cell? ⟨f,0,none⟩=some (ae a 4 c)/\W.cell? ⟨f,1,none⟩=some (ab self))
  (first|(go_keep;done)|exact h _ x|exact h _ (z _)|exact h _ (j.alloc j.size _)|exact h _ ((((j.setCell (am _) _).setCell (am _) _).setCell (am _) _).setCell (am _) _)|exact h _ j) ((first
   | (go_at_call 155;refine(J _ O).mono ?_;rintro ay q ⟨b,rfl,e⟩;rw[Cx];have j:=ap (x.trans (e.1.mono x.size)))
   | (go_at_call 155;refine(J _ (M _)).mono ?_;rintro ay q ⟨b,rfl,e⟩;rw[Cx];have j:=ap ((z _).trans (e.1.mono (z _).size));have aq:=ap (N2 e.1);obtain⟨D,F,G,H,f0,f1,f2,f3⟩:=Ls e.1)))
 ·have B:Hid (∃m p,(m=q.alloc (.cells #[ab b.1.1,ab b.1.2.1,af b.1.2.2,ae b.2.1.1 b.2.2.length b.2.1.2] 31)/\p=q.heap.size)/\wX N b d y p q m):=by
    refine⟨_,_,⟨rfl,rfl⟩,j.alloc j.size _,aA _ _,?_,λL A _=>((ao _ _).alloc (am _) _).block L A,?_⟩
    ·have:=i.2.2.1;have:=j.size;omega
    ·exact(In.offB e.2.2.1 e.2.1).mono λL A=>by have:=x.size;omega
  obtain⟨m,p,⟨l,C⟩,k⟩:=B.out;rw[<-l,<-C];replace k:=ap k;have P:=ap e.2.1;have Q:=ap e.2.2.2;have R:Hid (q.heap.size<=m.heap.size):=by
   rw[l];simp[Hid]
  clear l C B e J h z M O x T U V X d0 d1;obtain⟨⟨ar,au,aw,ax⟩,⟨D,F,G,H⟩,f0,f1,f2,f3,az⟩:=k.out.cells i.2.2.1 I;go_wp2_with fail;exact av (v:=.tuple #[.agg #[ab b.1.1,ab b.1.2.1,af b.1.2.2,ae b.2.1.1 b.2.2.length b.2.1.2],.bool (Fv E (nU E o)==0)]) (by simp[results,results117,go_sem,D,F,G,H]) rfl (k.close n i.2.2.2 i.2.2.1 P Q R)
 ·have B:Hid (∃m p,(m=dd q d.heap.size 0 (ab b.1.1) (ab b.1.2.1) (af b.1.2.2) (ae b.2.1.1 b.2.2.length b.2.1.2)/\p=d.heap.size)/\wX N b d y p q m):=by
    refine⟨_,_,⟨rfl,rfl⟩,((((j.setCell (am _) _).setCell (am _) _).setCell (am _) _).setCell (am _) _),?_,?_,λL _ A=>aX A _ _ _ _,?_⟩
    ·exact xM aq _ _ _ _
    ·have:=i.2.2.1;omega
    ·exact(In.offB e.2.2.1 e.2.1).mono λL A=>by
       have:=A.1;simp[World.drew]at this;omega
  obtain⟨m,p,⟨l,C⟩,k⟩:=B.out;replace k:=ap k;have P:=ap e.2.1;have Q:=ap e.2.2.2;have R:Hid (q.heap.size<=m.heap.size):=by
   rw[l,br];exact am _
  unfold dd at l;simp only[cX]at l;rw[<-l,<-C];clear l C B e J h z M O x T U V X d0 d1 D F G H f0 f1 f2 f3;obtain⟨⟨ar,au,aw,ax⟩,⟨D,F,G,H⟩,f0,f1,f2,f3,az⟩:=k.out.cells i.2.2.1 I;go_wp2_with fail;exact av (v:=.tuple #[.agg #[ab b.1.1,ab b.1.2.1,af b.1.2.2,ae b.2.1.1 b.2.2.length b.2.1.2],.bool (Fv E (nU E o)==0)]) (by simp[results,results117,go_sem,D,F,G,H]) rfl (k.close n i.2.2.2 i.2.2.1 P Q R)
def Ff{N:Nat}:Option (Tm (N+1))->Bool
 | some a=>a.1.1==3
 | none=>false
theorem AW(N:Nat)(o:Option (Tm (N+1)))(a d:Int)(f:ByteArray)(xa:Option Addr)(g xc:Nat)(q:Nat)(w:World)(p:Hid (∀W,aj w W->ak 117 #[aC q,.agg #[ab a,ab d,af f,ae xa g xc]] W (wY N o W))):ak 201 #[aC q,.agg #[ab a,ab d,af f,ae xa g xc]] w λe w'=>∃u,e=.returned (.tuple #[ab u,.bool (Ff o)])/\Hid (aj w w'/\∀b,o=some b->u=b.1.2.1):=by
 have h:Hid (∀o:Obj,aj w (w.alloc o)):=λo=>(ao _ _).alloc (am _) o;have r:(w.alloc (.cells #[ab a,ab d,af f,ae xa g xc] 31)).cell? ⟨w.heap.size,0,none⟩=some (ab a):=ag (aA w _) 0;go_enter func201,ntmps201;go_wp2_with fail;refine(p _ (h _)).mono ?_;rintro e v ⟨x,rfl,i⟩;have l:=ap ((h (.cells #[ab a,ab d,af f,ae xa g xc] 31)).trans (i.1.mono (h _).size));have n:=ap i.2.2.2;have m:Hid (∀k:Obj,aj w (v.alloc k).drew):=λk=>(l.alloc l.size k).drew;clear i p r;cases o with
 | none=>
  simp only[mX];go_wp2_with fail;go_region
  all_goals
   go_wp2_with fail
   go_ret2
   exact⟨_,rfl,m _,λb j=>by cases j⟩
 | some b=>
  simp only[mY];have c:=n.out;simp only[Option.getD_some,ax,aG,cv]at c;have s:Hid (Ff (some b)=(x.1.1==3)):=by
   show _=_;rw[c.1.1.1];rfl
  have t:=ap c.1.1.2;clear c n;go_wp2_with fail;go_region
  all_goals
   go_wp2_with fail
   go_ret2
   rw[s.out];exact⟨_,rfl,m _,λy j=>by cases j;exact t⟩
theorem Mq:(Tryz.prog.info? 3).map (λi=>(i.zero,i.size,i.bytes))=some (some (ab 0),1,8):=by kernel_rfl
def OX(base i:Nat)(f:Option Addr)(L g:Nat)(xs:List Value)(t:Bool)(h:Int->Prop)(w:World)(e:Ending)(w':World):Prop:=
 e=.returned (.bool t)/\(t=false->aj w w')/\
  (t=true->∃d a c b,h d/\b.ownsRow base 3 1 (ae (some ⟨a,0,none⟩) (L+1) c) (L+1) (xs++ [ab d])/\bt (λj=>(Value.slice f L g).ownBlock=some j) w b/\((Value.slice f L g).ownBlock=some a\/w.heap.size<=a)/\w'=b.setCell ⟨i,5,none⟩ (ae (some ⟨a,0,none⟩) (L+1) c))
theorem GI(k s v:Int)(x:ByteArray)(xa:Option Addr)(y xc:Nat)(y0 y1:Int)(y2:ByteArray)(ya:Option Addr)(yl yc:Nat)(nm:ByteArray)(O:Int)(base a:Nat)(b:Option Addr)(L c:Nat)(xs:List Value)(w:World)(t:Bool)(z:Int->Prop)(ag:L<=10000)(G:a<w.heap.size)(al:base<=w.heap.size)(A:Hid (w.cell? ⟨a,5,none⟩=some (ae b L c)/\w.frozen? ⟨a,5,none⟩=false))(V:Hid (w.ownsRow base 3 1 (ae b L c) L xs))(B:Hid ((Value.slice b L c).ownBlock≠some a))(C:Hid (∀W,aj w W->ak 201 #[aC a,.agg #[ab s,ab v,af x,ae xa y xc]] W λe w'=>∃u,e=.returned (.tuple #[ab u,.bool t])/\Hid (aj W w'/\z u))):ak 188 #[aC a,.agg #[ab k,ab s,ab v,af x,ae xa y xc,ab y0,ab y1,af y2,ae ya yl yc,af nm,ab O]] w (OX base a b L c xs t z w):=by
 obtain⟨i,H,J,K,M⟩:=bR Mq;have m:Hid (Tryz.prog.info? 3=some i/\i.zero=some (ab 0)/\i.size=1/\i.bytes=8):=⟨H,J,K,M⟩;clear H J K M;have D:Hid (∃q,q=w.alloc (.cells #[ab k,ab s,ab v,af x,ae xa y xc,ab y0,ab y1,af y2,ae ya yl yc,af nm,ab O] 248)/\aj w q):=⟨_,rfl,(ao _ _).alloc (am _) _⟩;go_enter func188,ntmps188;go_wp2_with fail;obtain⟨q,N,F⟩:=D.out;rw[<-N];have l:=ap F;clear N F D;refine(C _ l).mono ?_;rintro e j ⟨u,rfl,o⟩;have d:=ap (l.trans (o.1.mono l.size));have Q:=ap o.2;clear o C l;cases t
 ·go_wp2_with fail
  go_ret
  exact⟨rfl,λ_=>d,λg=>(by cases g)⟩
 ·have X:j.cell? ⟨a,5,none⟩=some (ae b L c):=(d.cell (p:=⟨a,5,none⟩) G).trans A.1;have T:Hid (j.ownsRow base 3 1 (ae b L c) L xs):=bk V (aK d λ_=>False) λ_ _ g=>g;have f:=ap d.size;have R:Hid (j.frozen? ⟨a,5,none⟩=false):=by
   have h:=A.2;unfold World.frozen? at h ⊢;rw[d.out.block a G];exact h
  go_wp2_with (first
   | (at_builtin;refine wpList_append_lies _ rfl _ _ 25 rfl base 3 i _ 1 8 underlying25 m.1 m.2.1 m.2.2.1 m.2.2.2 rfl (by decide) (ae b L c) L xs rfl (T.alloc _) ⟨j.heap.size,0,none⟩ 1 1 [ab u] rfl rfl (World.news_of_block (cs:= #[ab u]) (t:=3) (fr:=(0,0)) (aA j _)) (by simp[Value.oneCell']) (by decide) (by unfold maxLen;omega) (by omega) (by have:=f.out;simp;omega) _ rfl ?_;intro Z Y r I n E aa;have U:=ap I;have S:=ap n;have P:=ap E;have ad:r.cell? ⟨a,5,none⟩=some (ae b L c):=(n.cell_far ⟨a,5,none⟩ (by show a<_;have:=f.out;simp;omega) (λe=>B e.symm)).trans (((ao _ _).alloc (am _) _ |>.cell (p:=⟨a,5,none⟩) (by show a<_;have:=f.out;omega)).trans X);have f5:r.frozen? ⟨a,5,none⟩=false:=(n.frozen_far ⟨a,5,none⟩ (by show a<_;have:=f.out;simp;omega) (λe=>B e.symm)).trans (by have h:=R.out;unfold World.frozen? at h ⊢;rw[((ao _ _).alloc (am _) (.cells #[ab u] 3)).block a (by have:=f.out;omega)];exact h);clear I n E aa))
  go_ret
  refine⟨rfl,λg=>(by cases g),λ_=>⟨u,Z,Y,r,Q.out,U.out,?_,?_,rfl⟩⟩
  ·exact bt.trans (aK (d.alloc d.size _) _) (eu S) λ_ _ e=>e
  ·rcases P with e|e
   ·exact ah e
   ·have:=f.out;simp at e;exact ai (by omega)
section
variable {P:Program} {ops:Array Oper} {Q:Exit->Act->World->Prop} {md:Region.Mode} {S:World->Prop} {X:Nat}
def jR(P:Program)(md:Region.Mode)(ops:Array Oper)(Q:Exit->Act->World->Prop)(S:World->Prop)(X:Nat):Nat->Array Bool->Act->World->Prop
 | 0,listed,a,w=>Region.ready md ops listed=[]/\Q .normal a w
 | fuel+1,listed,a,w=>
  (Region.ready md ops listed=[]->Q .normal a w)/\
  ∀i∈Region.ready md ops listed,wpOp P ops Q i (λb w'=>(i≠X->S w')/\jR P md ops Q S X fuel (listed.setIfInBounds i true) b w') a w
theorem wm:∀(fuel:Nat)(b:Array Bool)(a:Act)(w:World),jR P md ops Q S X fuel b a w->wpAny P md ops Q fuel b a w
 | 0,_,_,_,h=>h
 | fuel+1,_,_,_,h=>⟨h.1,λi e=>wpOp_mono (λc w' d=>wm fuel _ c w' d.2) (h.2 i e)⟩
theorem Ai{i:Nat}{m:Oper}{v:Value}(z:ops[i]?=some m)(G:∀(j:Nat)(o:Oper) cs b,ops[j]?=some o->o.op≠.select cs b)(L:∀c a w,Q (.panic c) (a.put m.dst v) w->Q (.panic c) a w)(M:∀d,ops[X]?=some d->∃e∈d.after,Region.binds md e=true/\e.on=i):∀(p:Nat)(f:Array Bool)(a:Act)(w:World),(∀j d,ops[j]?=some d->j≠i->f.getD j true=false->(∀e∈d.after,Region.binds md e=true->e.on≠i)->m.apart ops d=true)-> i∈Region.ready md ops f->YieldsIf P ops S m v a->S w-> jR P md ops Q S X p (f.setIfInBounds i true) (a.put m.dst v) w->jR P md ops Q S X (p+1) f a w:=by
 intro p
 induction p with
 | zero=>
  intro f a w _ l u q n;refine⟨λx=>(by rw[x]at l;cases l),λj s=>?_⟩;by_cases g:j=i
  ·subst g;exact u.wpOp z q ⟨λ_=>q,n⟩
  ·have:=ready_mono s g;rw[n.1]at this;cases this
 | succ p ih=>
  intro f a w B l u q n;refine⟨λx=>(by rw[x]at l;cases l),λj s=>?_⟩;by_cases g:j=i
  ·subst g;exact u.wpOp z q ⟨λ_=>q,n⟩
  ·have h:=n.2 j (ready_mono s g);obtain⟨D,d,t,N⟩:=mem_ready.1 s;have F:∀e∈d.after,Region.binds md e=true->e.on≠i:=λe T O V=>by
    have h:=N e T O;have A:=(mem_ready.1 l).1;rw[V]at h;rcases Nat.lt_or_ge i f.size with y|y
    ·simp[y]at A h;rw[A]at h;cases h
    ·simp[Array.getElem?_eq_none y]at h
   have E:j≠X:=λe=>by
    obtain⟨J,U,R,ab⟩:=M d (by rw[<-e];exact t);exact F J U R ab
   have K:=wpOp_putIf t (B j d t g D F) (λcs b=>G i m cs b z) (λcs b=>G j d cs b t) L u h
   have W:∀k ok,ops[k]?=some ok->k≠i->(f.setIfInBounds j true).getD k true=false->
     (∀e∈ok.after,Region.binds md e=true->e.on≠i)->m.apart ops ok=true:=λk ok Y Z H aa=>by
    refine B k ok Y Z ?_ aa;by_cases C:j=k
    ·subst C;exact D
    ·rw[getD_set_ne true C]at H;exact H
   refine wpOp_mono (λI ad r=>⟨λ_=>r.2.1 E,ih (f.setIfInBounds j true) I ad W (ready_mono l (Ne.symm g)) r.1 (r.2.1 E) ?_⟩) K;rw[Array.setIfInBounds_comm _ _ g];exact r.2.2
def Ag(md:Region.Mode)(ops:Array Oper)(X i:Nat):Bool:=((ops[X]?).map λo=>o.after.any λe=>Region.binds md e && e.on==i).getD false
theorem EB{i:Nat}(a:Ag md ops X i=true):∀b,ops[X]?=some b->∃e∈b.after,Region.binds md e=true/\e.on=i:=λb c=>by
 unfold Ag at a;rw[c]at a;simp only[mZ,Option.getD_some,Array.any_eq_true]at a;obtain⟨k,d,a⟩:=a;simp only[aG,cv]at a;exact⟨_,Array.getElem_mem d,a.1,a.2⟩
theorem aU{i:Nat}{d:Oper}{v:Value}{e:Nat}{b:Array Bool}{a:Act}{w:World}(f:ops[i]?=some d)(n:Region.noSelect ops=true)(k:Region.free md ops b i=true)(m:(Region.ready md ops b).contains i=true)(o:Ag md ops X i=true)(h:∀c a w,Q (.panic c) (a.put d.dst v) w->Q (.panic c) a w)(l:d.guard=none)(p:∀w,S w->(execOp a.eval d).run P w=.ok (.value v) w)(j:S w)(g:jR P md ops Q S X e (b.setIfInBounds i true) (a.put d.dst v) w):jR P md ops Q S X (e+1) b a w:=
 Ai f (Region.noSelect_spec n) h (EB o) e b a w (Region.free_spec f k) (by simpa using m) (ah ⟨by simp[Region.wanted,l],p⟩) j g
theorem cZ{i:Nat}{o:Oper}{d:Nat}{c:Array Bool}{a:Act}{w:World}(h:Region.ready md ops c=[i])(n:ops[i]?=some o)(l:o.guard=none)(j:∀K:Act->World->Prop,Hid (∀b w',(i≠X->S w')->(S w'->jR P md ops Q S X d (c.setIfInBounds i true) b w')->K b w')->o.wp P a w K Q)(m:i≠X):jR P md ops Q S X (d+1) c a w:=by
 refine⟨λe=>(by rw[h]at e;cases e),λq g=>?_⟩;rw[h]at g;obtain rfl:q=i:=by simpa using g
 unfold wpOp;simp only[n];have p:Region.wanted o (yielded ops a.tmps)=true:=by simp[Region.wanted,l]
 simp only[p,cT];exact ah (j _ λb w' f k=>⟨f,k (f m)⟩)
theorem jD{o:Oper}{c:Nat}{d:Array Bool}{a:Act}{w:World}(i:Region.ready md ops d=[X])(m:ops[X]?=some o)(l:o.guard=none)(g:Region.ready md ops (d.setIfInBounds X true)=[])(j:∀K:Act->World->Prop,Hid (∀b w',Q .normal b w'->K b w')->o.wp P a w K Q):jR P md ops Q S X (c+1) d a w:=by
 refine⟨λe=>(by rw[i]at e;cases e),λp h=>?_⟩;rw[i]at h;obtain rfl:p=X:=by simpa using h
 unfold wpOp;simp only[m];have n:Region.wanted o (yielded ops a.tmps)=true:=by simp[Region.wanted,l]
 simp only[n,cT];refine ah (j _ λb w' f=>⟨λk=>absurd rfl k,?_⟩);cases c with
 | zero=>exact⟨g,f⟩
 | succ c=>exact⟨λ_=>f,by rw[g];simp⟩
theorem jE(S:World->Prop)(X:Nat){id:Nat}{a:Act}{w:World}(c:P.follows .mixedOrders=true)(b:jR P .any ops Q S X ops.size (Array.replicate ops.size false) a w.drew):(Code.region id ops true).wp P Q a w:=
 wp_region_any c (wm _ _ _ _ b)
end
end Go.Proofs.YtmmahddlcldmiaaGreat
