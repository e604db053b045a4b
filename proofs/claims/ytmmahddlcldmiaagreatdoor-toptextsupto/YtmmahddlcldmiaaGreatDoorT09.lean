/- Proved here: plain facts and contracts. No condition but what each names. -/
import Derived.Test.YtmmahddlcldmiaaGreatDoorT08
import Derived.Lib.SliceRun
import Derived.Deep.RegionLaw
import Derived.Laws.CopyRow
import Derived.Maps.RangeWalk
import Derived.WideKeyPair
import Derived.WideKeyEntry
namespace Go.Proofs.YtmmahddlcldmiaaGreatDoor
open Go.RowKit Go.Proofs.Tryz
open Go.RowKit Go.Maps
set_option maxHeartbeats 2000000
set_option maxRecDepth 100000
theorem Df(n m:Nat)(ih:N7 n)(p:List (Tm n))(q:List (Tm m))(a e:Option Addr)(pc j:Nat)(b:List An)(base g c B:Nat)(w:World)(f:p=[]\/∃b o,a=some ⟨b,o,none⟩/\b<B/\∀(i:Nat)(y:Tm n),p[i]?=some y->dB w b (o+i*4) n y/\In B w n y)(h:q=[]\/∃b o,e=some ⟨b,o,none⟩/\b<B/\∀(i:Nat)(y:Tm m),q[i]?=some y->dB w b (o+i*4) m y/\In B w m y)(u:p.length<=9223372036854775807)(A:q.length<=9223372036854775807)(C:∀y∈p,aD ⟨n,y⟩)(D:∀y∈q,aD ⟨m,y⟩)(r:CQ B w b)(l:B<=base)(H:nb base g c b w):am 190 #[ae (some ⟨g,0,none⟩) 4 c,ae a p.length pc,ae e q.length j] w (eM base g c (if p.length=q.length then iD (λx y b=>gZ n x m y b) p q b else none) w):=by
 by_cases d:p.length=q.length
 ·rw[if_pos d];rcases f with f|⟨E,po,rfl,t,f⟩
  ·subst f;have v:q=[]:=bF d.symm;subst v;exact uU a e pc j g c base b w H
  ·rcases h with h|⟨F,G,rfl,z,h⟩
   ·subst h;have s:p=[]:=bF d;subst s;exact uU _ e pc j g c base b w H
   ·have k:=Gu n m ih p q p.length rfl d.symm E po F G pc j b base g c B w (by omega) t z f h C D r l H;rw[<-d];exact k
 ·rw[if_neg d];exact Gv p.length q.length a e pc j g c base w u A (by simp;omega)
theorem eM.from{base g c:Nat}{o:Option (List An)}{w w1:World}(a:w.grownBy w1 (some g)){e:Ending}{w2:World}(k:eM base g c o w1 e w2):eM base g c o w e w2:=
 ⟨k.1,lD a k.2.1,k.2.2⟩
theorem Gz(k D j E:Int)(s C:ByteArray)(a t:Option Addr)(l u pc v:Nat)(base g c:Nat)(b:List An)(o p:Option (List An))(sm:Bool)(w:World)(H:Hid (nb base g c b w))(q:Hid (k=5->∀w1,aj w w1->am 189 #[ae (some ⟨g,0,none⟩) 4 c,ab D,.agg #[ab j,ab E,af C,ae t u v]] w1 (eM base g c o w1)))(G:Hid (∀w1,aj w w1->am 190 #[ae (some ⟨g,0,none⟩) 4 c,ae a l pc,ae t u v] w1 (eM base g c p w1)))(M:Hid (∀w1,aj w w1->am 191 #[.agg #[ab k,ab D,af s,ae a l pc],.agg #[ab j,ab E,af C,ae t u v]] w1 λe w'=>∃r,e=.returned (ab r)/\Hid ((r==0)=sm)/\aj w1 w')):am 179 #[ae (some ⟨g,0,none⟩) 4 c,.agg #[ab k,ab D,af s,ae a l pc],.agg #[ab j,ab E,af C,ae t u v]] w (eM base g c (if k=6 then some b else if k=5 then o else if k=4 then (if j=4 then p else none)else if sm then some b else none) w):=by
 have K:∀o p,aj w ((w.alloc o).alloc p):=λo p=>((ap _ _).alloc (ak _) _).alloc (by simp) _;have f:=aq K;clear K;by_cases i:k=6
 ·rw[if_pos i];subst i;go_enter func179,ntmps179;go_wp2_with fail
  go_ret
  exact⟨rfl,cO (f _ _) _,λA e=>by obtain rfl:=aw e;exact H.below (f _ _)⟩
 rw[if_neg i];have R:(k==6)=false:=by simpa using i
 by_cases d:k=5
 ·rw[if_pos d];have N:=aq (q d);have Q:(k==5)=true:=by simpa using d
  clear d i q;go_enter func179,ntmps179;go_wp2_with fail;refine(N _ (f _ _)).mono ?_;rintro e w1 n;have x:=aq (eM.from (cO (f _ _) _) n);obtain⟨rfl,_,_⟩:=n;go_wp2_with fail
  go_ret
  exact x
 rw[if_neg d];have Q:(k==5)=false:=by simpa using d
 by_cases h:k=4
 ·rw[if_pos h];have O:(k==4)=true:=by simpa using h
  clear d i q;by_cases m:j=4
  ·rw[if_pos m];have P:(j==4)=true:=by simpa using m
   clear h m;go_enter func179,ntmps179;go_wp2_with fail;refine(G _ (f _ _)).mono ?_;rintro e w1 n;have x:=aq (eM.from (cO (f _ _) _) n);obtain⟨rfl,_,_⟩:=n;go_wp2_with fail
   all_goals go_ret
   all_goals exact x
  ·rw[if_neg m];have P:(j==4)=false:=by simpa using m
   clear h m;go_enter func179,ntmps179;go_wp2_with fail
   go_ret
   exact⟨rfl,cO (f _ _) _,λA e=>by cases e⟩
 rw[if_neg h];have O:(k==4)=false:=by simpa using h
 clear h d i q G;obtain⟨L,B⟩:∃L,L=if sm then some b else none:=⟨_,rfl⟩
 rw[<-B];have F:=aq B;clear B;go_enter func179,ntmps179;go_wp2_with fail;refine(M _ (f _ _)).mono ?_;rintro e w1 ⟨r,rfl,I,J⟩;have z:Hid (aj w w1):=(f _ _).trans (J.mono (f _ _).size);have y:=aq F.out;rw[Hid,<-I.out]at y;clear J I F;cases h0:r==0
 ·go_wp2_with fail
  go_ret
  have d:=y;rw[h0]at d;simp only[pf,if_false]at d;subst d;exact⟨rfl,cO z _,λA e=>by cases e⟩
 ·go_wp2_with fail
  go_ret
  have d:=y;rw[h0]at d;simp only[cF]at d;subst d;exact⟨rfl,cO z _,λA e=>by obtain rfl:=aw e;exact H.below z⟩
theorem Oz(n:Nat)(p:Tm (n+1))(m:Nat)(t:Tm (m+1))(b:List An):gZ (n+1) p (m+1) t b=if p.1.1=6 then some b else if p.1.1=5 then uW b p.1.2.1.toNat ⟨m+1,t⟩else if p.1.1=4 then (if t.1.1=4 then (if p.2.2.length=t.2.2.length then iD (λx y b=>gZ n x m y b) p.2.2 t.2.2 b else none)else none)else if ay (n+1) p (m+1) t then some b else none:=by
 simp only[gZ];by_cases a:t.1.1=4<;>by_cases c:p.2.2.length=t.2.2.length<;>simp[a,c]
theorem O4(n:Nat)(p:Tm (n+1))(d:aD ⟨n+1,p⟩)(e:p.1.1=5):∃k:Nat,k<4/\p.1.2.1=k:=by
 have a:=d (bw n p) (by simp[ax,bw]);have b:(bw n p).1.1=5:=e;have c:(bw n p).1.2.1=p.1.2.1:=rfl;simp[cg,b,oe]at a;rw[c]at a;exact⟨p.1.2.1.toNat,by omega,by omega⟩
theorem J0(n:Nat):N7 n:=by
 induction n with
 | zero=>intro e j t b s u c l y d;exact d.elim
 | succ n ih=>
  intro e j t b s u c l y d v w x i z r;cases j with
  | zero=>exact v.elim
  | succ j=>
  have f:l<=y.heap.size:=by have:=r.lt;omega
  have C:=d;have H:=v;obtain⟨⟨_,_,_,I,D⟩,E⟩:=C;obtain⟨⟨_,_,_,J,F⟩,G⟩:=H;unfold maxLen at D F;rw[Oz];refine Gz e.1.1 e.1.2.1 t.1.1 t.1.2.1 e.1.2.2 t.1.2.2 e.2.1.1 t.2.1.1 e.2.2.length t.2.2.length e.2.1.2 t.2.1.2 s u c b _ _ _ y r ?_ ?_ ?_
  ·intro A q a;obtain⟨k,B,m⟩:=O4 n e w A;rw[m];exact J7 b s u c l q k B j t (i.below (a.mono f)) (v.below (a.mono f)) x z (r.below a)
  ·intro q a;refine Df n j ih e.2.2 t.2.2 e.2.1.1 t.2.1.1 e.2.1.2 t.2.1.2 b s u c l q ?_ ?_ (by omega) (by omega) (λh g=>aU n e h w g) (λh g=>aU j t h x g) (i.below (a.mono f)) z (r.below a)
   ·rcases E with d|⟨b,o,m,i,d⟩
    ·exact ah d
    ·exact ai ⟨b,o,m,i,λp h g=>⟨(d p h g).1.below (a.mono f) i,(d p h g).2.below (a.mono f)⟩⟩
   ·rcases G with d|⟨b,o,m,i,d⟩
    ·exact ah d
    ·exact ai ⟨b,o,m,i,λp h g=>⟨(d p h g).1.below (a.mono f) i,(d p h g).2.below (a.mono f)⟩⟩
  ·intro q a;exact BU ⟨n+1,e⟩ ⟨j+1,t⟩ l q (d.below (a.mono f)) (v.below (a.mono f)) (az f a.size) w x
def nO(n:Nat)(q:List (Tm n)):List An:=q.map λx=>⟨n,x⟩
theorem nh(n:Nat)(q:List (Tm n)):(nO n q).length=q.length:=by simp[nO]
theorem Dr{n:Nat}{q:List (Tm n)}{w:World}{f po:Nat}(r:∀(i:Nat)(y:Tm n),q[i]?=some y->dB w f (po+i*4) n y):∀j b,(fT (nO n q))[j]?=some b->w.cell? ((⟨f,po,none⟩:Addr).add j)=some b:=by
 intro j b a;have d:=kS (nO n q);have s:j<q.length*4:=by
  rw[nh]at d;rw[<-d];exact(aO.1 a).1
 obtain⟨k,i,p,rfl⟩:∃k i,i<4/\j=k*4+i:=⟨j / 4,j % 4,Nat.mod_lt _ (by decide),by omega⟩;obtain⟨y,e⟩:∃y,q[k]?=some y:=⟨q[k]'(by omega),aG _⟩;have g:(fT (nO n q))[k*4+i]?=(vC (te ⟨n,y⟩))[i]? :=iP _ k (te ⟨n,y⟩) (by simp[nO,e]) i p;rw[g]at a;have c:=r k y e;cases n with
 | zero=>exact c.elim
 | succ n=>
 obtain⟨h,l,m,o⟩:=c;rw[eU,<-Nat.add_assoc];have:i=0\/i=1\/i=2\/i=3:=by omega
 rcases this with rfl|rfl|rfl|rfl
 all_goals simp[vC,te,gg,bw]at a;subst a
 ·exact h
 ·exact l
 ·exact m
 ·exact o
theorem C8(n:Nat)(q:List (Tm n))(len l po pc:Nat)(w:World)(p:Hid (q.length=len))(F:0<len)(G:len<=1048576)(y:Hid (∀w1,aj w w1->∀j u,(fT (nO n q))[j]?=some u->w1.cell? ((⟨l,po,none⟩:Addr).add j)=some u)):am 178 #[ae (some ⟨l,po,none⟩) len pc] w λe w'=>∃g c,e=.returned (ae (some ⟨g,0,none⟩) len c)/\Hid (aj w w'/\nb w.heap.size g c (nO n q) w'):=by
 obtain⟨C,o,r,s,t⟩:=bP gh;have a:=aq (⟨o,r,s,t⟩:_/\_/\_/\_);clear o r s t;have I:∀(w:World)(b:Option Addr)(n c i f:Nat),(binOp .eql 26 (ae b n c) (ae none i f)).run Tryz.prog w=.ok (.bool b.isNone) w:=λw b n c i f=>Lib.run_eql_slice_nil w _ _ b n c i f underlying26;go_enter func178,ntmps178;go_wp2_with (at_builtin;refine wpList_append_own _ rfl _ _ 26 rfl w.heap.size 28 C _ 4 56 underlying26 a.1 a.2.1 a.2.2.1 a.2.2.2 rfl (by decide) _ _ _ rfl (World.ownsRow_made w #[] 0 (ak _) (aI _) (by simp)) ⟨l,po,none⟩ len pc (fT (nO n q)) rfl ?qc1 ?qc2 ?qc3 ?qc4 ?qc5 ?qc6 ?_)
 case qc1=>rw[kS,nh,p.out]
 case qc2=>exact y _ ((ap _ _).alloc (ak _) _)
 case qc3=>exact AF _
 case qc4=>unfold maxLen;omega
 case qc5=>omega
 case qc6=>simp
 intro D w1 h m B;have v:Hid (∃g c,D=ae (some ⟨g,0,none⟩) len c/\aj w w1/\nb w.heap.size g c (nO n q) w1):=by
  have z:aj w w1:=Below.grown ((ap _ _).alloc (ak _) _) m (by simp) (by intro k A;simp[Value.ownBlock]at A;omega);have d:=h;obtain⟨_,d⟩:=d;rcases d with⟨_,d⟩|⟨g,cap,E,rfl,H,_⟩
  ·omega
  ·refine⟨g,cap,rfl,z,?_⟩;unfold nb;rw[nh,p.out];exact h
 clear h m B;obtain⟨g,c,rfl,x⟩:=v;go_wp2_with fail
 go_ret
 exact⟨g,c,rfl,x⟩
def tI(a b:Int)(cl bd:Bool):Int:=if a=0 then if b=0 then if cl && bd then 0 else 5 else b else a
def yF(a:Int)(o:Option (List An))(w:World)(e:Ending)(w':World):Prop:=
 ∃f len c d,e=.returned (.tuple #[ae f len c,.bool d,ab a])/\Hid (aj w w'/\
  ((¬(a=0/\o.isSome=true)->len=0/\d=false)/\∀b,a=0->o=some b->d=true/\len=4/\b.length=4/\∃g l,w.heap.size<=g.heap.size/\gJ (mZ b) (CC b) g w' f c l))
def N3(w:World)(v0 v1 v2 v3 a b c d:Value)(w':World):Prop:=
 aj w w'/\w.heap.size+2<=w'.heap.size/\
 (w'.cell? ⟨w.heap.size,0,none⟩=some v0/\w'.cell? ⟨w.heap.size,1,none⟩=some v1/\w'.cell? ⟨w.heap.size,2,none⟩=some v2/\w'.cell? ⟨w.heap.size,3,none⟩=some v3)/\
 (w'.cell? ⟨w.heap.size+1,0,none⟩=some a/\w'.cell? ⟨w.heap.size+1,1,none⟩=some b/\w'.cell? ⟨w.heap.size+1,2,none⟩=some c/\w'.cell? ⟨w.heap.size+1,3,none⟩=some d)
theorem N3.new(w:World)(v0 v1 v2 v3 a b c d:Value)(t e:TypeId):N3 w v0 v1 v2 v3 a b c d ((w.alloc (.cells #[v0,v1,v2,v3] t)).alloc (.cells #[a,b,c,d] e)):=
 ⟨((ap _ _).alloc (ak _) _).alloc (by simp) _,by simp,⟨by simp[go_sem],by simp[go_sem],by simp[go_sem],by simp[go_sem]⟩,by simp[go_sem],by simp[go_sem],by simp[go_sem],by simp[go_sem]⟩
theorem N3.next{w:World}{v0 v1 v2 v3 c d e f:Value}{w1 w2:World}(a:N3 w v0 v1 v2 v3 c d e f w1)(b:aj w1 w2):N3 w v0 v1 v2 v3 c d e f w2:=
 ⟨a.1.trans (b.mono a.1.size),az a.2.1 b.size,nT (by have:=a.2.1;omega) b a.2.2.1,nT (by have:=a.2.1;omega) b a.2.2.2⟩
theorem DG(w:World)(k G z D:Int)(s C:ByteArray)(a n:Option Addr)(l pc A B:Nat)(W:Option Addr)(Y X:Nat)(i j:Int)(cl bd:Bool)(o:Option (List An))(T:List An)(ap:Hid (∀w1,aj w w1->am 23 #[.agg #[ab k,ab G,af s,ae a l pc]] w1 λe w'=>e=.returned (ab i)/\aj w1 w'))(ar:Hid (∀w1,aj w w1->am 23 #[.agg #[ab z,ab D,af C,ae n A B]] w1 λe w'=>e=.returned (ab j)/\aj w1 w'))(al:Hid (∀w1,aj w w1->am 75 #[.agg #[ab z,ab D,af C,ae n A B]] w1 λe w'=>e=.returned (.bool cl)/\aj w1 w'))(ah:Hid (∀w1,aj w w1->am 177 #[ae W Y X] w1 λe w'=>e=.returned (.bool bd)/\aj w1 w'))(an:Hid (bd=true->∀w1,aj w w1->am 178 #[ae W Y X] w1 λe w'=>∃g c,e=.returned (ae (some ⟨g,0,none⟩) 4 c)/\Hid (aj w1 w'/\nb w1.heap.size g c T w')))(S:Hid (tI i j cl bd=0->∀w1 base g c,aj w w1->w.heap.size<=base->nb base g c T w1->am 179 #[ae (some ⟨g,0,none⟩) 4 c,.agg #[ab k,ab G,af s,ae a l pc],.agg #[ab z,ab D,af C,ae n A B]] w1 (eM base g c o w1)))(R:Hid (tI i j cl bd=0->∀w1 base g c b,o=some b->aj w w1->nb base g c b w1->b.length=4/\am 56 #[ae (some ⟨g,0,none⟩) 4 c] w1 λe w'=>∃n aA l,e=.returned (ae n 4 aA)/\Hid (gJ (mZ b) (CC b) w1 w' n aA l))):am 150 #[.agg #[ab k,ab G,af s,ae a l pc],.agg #[ab z,ab D,af C,ae n A B],ae W Y X] w (yF (tI i j cl bd) o w):=by
 obtain⟨f,V⟩:∃f,f=tI i j cl bd:=⟨_,rfl⟩;rw[<-V]at S R ⊢;have q:=aq V;clear V;go_enter func150,ntmps150;go_wp2_with fail;refine(ap _ (N3.new w _ _ _ _ _ _ _ _ _ _).1).mono ?_;rintro e w1 ⟨rfl,aC⟩;have t:=aq ((N3.new w (ab k) (ab G) (af s) (ae a l pc) (ab z) (ab D) (af C) (ae n A B) 28 28).next aC);clear aC ap;by_cases m:i=0
 case neg=>
  have aJ:(i !=0)=true:=by simpa using m
  have d:Hid (f=i/\¬f=0):=by have:=q.out;unfold tI at this;rw[if_neg m]at this;exact⟨this,by rw[this];exact m⟩
  clear m q;go_wp2_with fail;exact av (v:=.tuple #[ae none 0 0,.bool false,ab i]) (by simp[results,results150,go_sem]) rfl ⟨none,0,0,false,by rw[d.out.1],t.1,λ_=>⟨rfl,rfl⟩,λb h=>absurd h d.2⟩
 have aJ:(i !=0)=false:=by simp[m]
 obtain⟨⟨L,M,N,O⟩,H,I,J,K⟩:=t.out.2.2;go_wp2_with fail;refine(ar _ t.1).mono ?_;rintro e aO ⟨rfl,aD⟩;have u:=aq (t.next aD);clear aD ar t L M N O H I J K;by_cases p:j=0
 case neg=>
  have aK:(j !=0)=true:=by simpa using p
  have d:Hid (f=j/\¬f=0):=by have:=q.out;unfold tI at this;rw[if_pos m,if_neg p]at this;exact⟨this,by rw[this];exact p⟩
  clear p m q;go_wp2_with fail;exact av (v:=.tuple #[ae none 0 0,.bool false,ab j]) (by simp[results,results150,go_sem]) rfl ⟨none,0,0,false,by rw[d.out.1],u.1,λ_=>⟨rfl,rfl⟩,λb h=>absurd h d.2⟩
 have aK:(j !=0)=false:=by simp[p]
 have r:Hid (f=if cl && bd then 0 else 5):=by have:=q.out;unfold tI at this;rw[if_pos m,if_pos p]at this;exact this
 clear p m q;obtain⟨⟨L,M,N,O⟩,H,I,J,K⟩:=u.out.2.2;go_wp2_with fail;refine(al _ u.1).mono ?_;rintro e aP ⟨rfl,aE⟩;have E:=aq (u.next aE);clear aE al u L M N O H I J K;cases cl with
 | false=>
  have d:Hid (f=5/\¬f=0):=by have:=r.out;simp at this;exact⟨this,by rw[this];decide⟩
  clear r;go_wp2_with fail;exact av (v:=.tuple #[ae none 0 0,.bool false,ab 5]) (by simp[results,results150,go_sem]) rfl ⟨none,0,0,false,by rw[d.out.1],E.1,λ_=>⟨rfl,rfl⟩,λb h=>absurd h d.2⟩
 | true=>
 go_wp2_with fail;refine(ah _ E.1).mono ?_;rintro e Z ⟨rfl,aF⟩;have x:=aq (E.next aF);clear aF ah E;cases bd with
 | false=>
  have d:Hid (f=5/\¬f=0):=by have:=r.out;simp at this;exact⟨this,by rw[this];decide⟩
  clear r;go_wp2_with fail;exact av (v:=.tuple #[ae none 0 0,.bool false,ab 5]) (by simp[results,results150,go_sem]) rfl ⟨none,0,0,false,by rw[d.out.1],x.1,λ_=>⟨rfl,rfl⟩,λb h=>absurd h d.2⟩
 | true=>
 have d:Hid (f=0):=by have:=r.out;simp at this;exact this
 have au:=aq (S d);have ai:=aq (R d);have ao:=aq (an rfl);clear r S R an;go_wp2_with fail;refine(ao _ x.1).mono ?_;rintro e aG ⟨g,c,rfl,Q⟩;have P:=aq (x.next Q.1);have F:Hid (nb Z.heap.size g c T aG):=Q.2;have ax:Hid (w.heap.size<=Z.heap.size):=x.1.size;obtain⟨⟨L,M,N,O⟩,H,I,J,K⟩:=P.out.2.2;clear x Q ao;go_wp2_with fail;refine(au aG Z.heap.size g c P.1 ax F).mono ?_;rintro e aa U;have y:Hid (aj w aa):=P.1.trans (od U.2.1 (az ax F.lt.1) F.lt.2);have ad:=aq U.2.2;obtain⟨rfl,_,_⟩:=U;clear F au;cases o with
 | none=>
  simp only[mV];go_wp2_with fail;exact av (v:=.tuple #[ae none 0 0,.bool false,ab 0]) (by simp[results,results150,go_sem]) rfl ⟨none,0,0,false,by rw[d.out],y,λ_=>⟨rfl,rfl⟩,λb _ h=>by cases h⟩
 | some b=>
  simp only[mW];have aI:=aq (ad b rfl);have ak:=aq (ai aa _ g c b rfl y aI);clear ad ai;go_wp2_with fail;refine ak.2.mono ?_;rintro e aM ⟨ay,aB,aL,rfl,ag⟩;have aH:Hid (aj w aM):=y.trans (ag.1.mono y.size);go_wp2_with fail;exact av (v:=.tuple #[ae ay 4 aB,.bool true,ab 0]) (by simp[results,results150,go_sem]) rfl ⟨ay,4,aB,true,by rw[d.out],aH,λh=>absurd ⟨d,rfl⟩ h,λaN _ e=>by obtain rfl:=aw e;exact⟨rfl,rfl,ak.1,aa,aL,y.size,ag⟩⟩
theorem xu{e f:Int}{cl bd:Bool}(a:tI e f cl bd=0):e=0/\f=0/\cl=true/\bd=true:=by
 unfold tI at a;split at a
 ·split at a
  ·split at a
   ·rename_i b c d;simp at d;exact⟨b,c,d.1,d.2⟩
   ·cases a
  ·rename_i b c;exact absurd a c
 ·rename_i b;exact absurd a b
theorem AM{n:Nat}{q:List (Tm n)}(a:ge n q=true):q.length=4:=by
 unfold ge at a;simp at a;exact a.1
theorem Gc{n:Nat}{q:List (Tm n)}(a:ge n q=true):∀y∈nO n q,aD y:=by
 intro y c;simp only[nO,cC]at c;obtain⟨d,e,rfl⟩:=c;unfold ge at a;simp only[aA,bZ]at a;have b:=a.2 d e;unfold BQ at b;simp only[aA,cm]at b;exact l6 n d b.1
theorem MQ{B:Nat}{w:World}{n:Nat}{q:List (Tm n)}{a:Option Addr}(c:fC B w n q a):∀y∈nO n q,FS B w y:=by
 intro y e;simp only[nO,cC]at e;obtain⟨h,d,rfl⟩:=e;rcases c with c|⟨b,o,_,_,c⟩
 ·rw[c]at d;cases d
 ·obtain⟨g,f⟩:=cM d;exact(c g h f).2
theorem Bz{B:Nat}{w:World}{n:Nat}{q:List (Tm n)}{a:Option Addr}(d:fC B w n q a)(k:ge n q=true):CQ B w (nO n q):=
 ⟨by rw[nh];exact AM k,λc b=>⟨MQ d c b,Gc k c b⟩⟩
theorem xG(n m o:Nat)(p:Tm n)(t:Tm m)(q:List (Tm o))(a:Option Addr)(c B:Nat)(w:World)(A:In B w n p)(j:In B w m t)(g:fC B w o q a)(e:B<=w.heap.size)(I:(ax n p).length<=2097152)(K:(ax m t).length<=2097152)(J:∀y∈q,(ax o y).length<=2097152)(R:q.length<=9223372036854775807):am 150 #[df n p,df m t,ae a q.length c] w (yF (tI (bv n p) (bv m t) (jZ m t) (ge o q)) (gZ n p m t (nO o q)) w):=by
 cases n with
 | zero=>exact A.elim
 | succ n=>
 cases m with
 | zero=>exact j.elim
 | succ m=>
 refine DG w p.1.1 p.1.2.1 t.1.1 t.1.2.1 p.1.2.2 t.1.2.2 p.2.1.1 t.2.1.1 p.2.2.length p.2.1.2 t.2.2.length t.2.1.2 a q.length c _ _ _ _ _ (nO o q) ?_ ?_ ?_ ?_ ?_ ?_ ?_
 ·exact λf d=>dC (n+1) p B f (A.below (d.mono e)) (az e d.size) I
 ·exact λf d=>dC (m+1) t B f (j.below (d.mono e)) (az e d.size) K
 ·intro f d;rw[<-fw];exact iH (m+1) t B f (j.below (d.mono e)) (az e d.size)
 ·exact λf d=>AI o q a c B f (g.below (d.mono e)) R J (az e d.size)
 ·intro M f d;have k:=AM M;rcases g with g|⟨T,po,rfl,F,g⟩
  ·rw[g]at k;simp at k
  ·have l:=C8 o q 4 T po c f k (by decide) (by decide) (λV H=>Dr λS y h=>((g S y h).1.below (d.mono e) F).below (H.mono (az e d.size)) F);rw[k];exact l
 ·intro x f C v r d L z;obtain⟨D,s,G,u⟩:=xu x;exact J0 (n+1) p (m+1) t (nO o q) C v r B f (A.below (d.mono e)) (j.below (d.mono e)) (l6 _ _ D) (l6 _ _ s) ((Bz g u).below (d.mono e)) (az e L) z
 ·intro x f C v r b N d z;obtain⟨D,s,G,u⟩:=xu x;have i:=((Bz g u).fit j (l6 _ _ s) N).below (d.mono e);have P:=Lz z (λy h=>(i.2 y h).1) (az e d.size);have Q:(CC b).length=4:=by simp[CC,i.1]
  have l:=sW (mZ b) (ie _) (CC b) (some ⟨v,0,none⟩) r f.heap.size f P (by omega) (IU λy h=>⟨(i.2 y h).2,λE=>by
   have O:=(i.2 y h).1;obtain⟨U,W⟩:=y;simp only at E;subst E
   exact O.elim⟩) (ak _)
  rw[Q]at l;exact⟨i.1,l⟩
theorem yV{n:Nat}{x:Tm (n+1)}(a:aK (n+1) x=true):x.1.1≠5/\x.1.1≠6/\∀y∈x.2.2,aK n y=true:=by
 simp only[aK,aA,ph,bZ]at a;exact⟨by simpa using a.1.1,by simpa using a.1.2,a.2⟩
def Qi:(n:Nat)->Tm n->Bool
 | 0,_=>true
 | n+1,x=> !(x.1.1==5) && x.2.2.all λy=>Qi n y
def CV(D:Nat)(l:List (Tm D))(d:List An):Prop:=∀(i:Nat)(a:An),d[i]?=some a->∃y,l[i]?=some y/\ay D y a.1 a.2=true/\aD ⟨D,y⟩
theorem xw{n m:Nat}:(p:List (Tm n))->(q:List (Tm m))->(b c:List An)->iD (λx y b=>gZ n x m y b) p q b=some c->∀(i:Nat)(x:Tm n)(y:Tm m),p[i]?=some x->q[i]?=some y->∃a e,gZ n x m y a=some e
 | [],_,_,_,_,i,x,y,hx,_=>by simp at hx
 | _::_,[],_,_,_,i,x,y,_,hy=>by simp at hy
 | x::p,y::q,b,c,h,i,x',y',hx,hy=>by
  simp only[iD]at h;obtain⟨d,f,g⟩:=bB.1 h;cases i with
  | zero=>
   simp at hx hy;subst hx hy;exact⟨b,d,f⟩
  | succ i=>exact xw p q d c g i x' y' (by simpa using hx) (by simpa using hy)
theorem Lj{a b:Type}(f:a->Int)(g:b->Int):(p:List a)->(q:List b)->p.length=q.length->(∀(i:Nat)(x:a)(y:b),p[i]?=some x->q[i]?=some y->f x<=g y)->(p.map f).sum<=(q.map g).sum
 | [],[],_,_=>by simp
 | [],_::_,h,_=>by simp at h
 | _::_,[],h,_=>by simp at h
 | x::p,y::q,h,hf=>by
  have j:=hf 0 x y (by simp) (by simp);have k:=Lj f g p q (by simpa using h) λi x' e c d=>hf (i+1) x' e (by simpa using c) (by simpa using d);simp only[aM,bA];omega
theorem Fe{a b:Type}(f:a->Int)(g:b->Int):(p:List a)->(q:List b)->(i j:Int)->i<=j->p.length=q.length->(∀(i:Nat)(x:a)(y:b),p[i]?=some x->q[i]?=some y->f x<=g y)->p.foldl (λm y=>max m (f y)) i<=q.foldl (λm y=>max m (g y)) j
 | [],[],_,_,h,_,_=>h
 | [],_::_,_,_,_,h,_=>by simp at h
 | _::_,[],_,_,_,h,_=>by simp at h
 | x::p,y::q,i,j,hij,h,hf=>by
  have k:=hf 0 x y (by simp) (by simp);simp only[fo];exact Fe f g p q _ _ (by omega) (by simpa using h) λi x' e c d=>hf (i+1) x' e (by simpa using c) (by simpa using d)
theorem ue{c:Type}(f:c->Int)(b:∀x,0<=f x):(p:List c)->(y:c)->y∈p->f y<=(p.map f).sum/\0<=(p.map f).sum
 | [],y,a=>by cases a
 | x::p,y,a=>by
  have g:=b x;have e:0<=(p.map f).sum:=by
   cases p with
   | nil=>simp
   | cons d p=>exact(ue f b (d::p) d (by simp)).2
  simp only[aM,bA];rcases ch.1 a with rfl|a
  ·omega
  ·have:=ue f b p y a;omega
theorem Fc{a:Type}(f:a->Int):(p:List a)->(i:Int)->i<=p.foldl (λm y=>max m (f y)) i
 | [],_=>jf _
 | x::p,i=>by
  simp only[fo];have:=Fc f p (max i (f x));omega
theorem BE{b:Type}(f:b->Int):(p:List b)->(i:Int)->(y:b)->y∈p->f y<=p.foldl (λm y=>max m (f y)) i
 | [],_,y,a=>by cases a
 | x::p,i,y,a=>by
  simp only[fo];rcases ch.1 a with rfl|a
  ·have:=Fc f p (max i (f y));omega
  ·exact BE f p _ y a
theorem OA:(n:Nat)->(x:Tm n)->(m:Nat)->(t:Tm m)->(b c:List An)->Qi n x=true->gZ n x m t b=some c->sz n x<=sz m t/\fA n x<=fA m t
 | 0,_,_,_,_,_,_,h=>by simp[gZ]at h
 | _+1,_,0,_,_,_,_,h=>by simp[gZ]at h
 | n+1,x,m+1,t,b,c,hv,h=>by
  have s0:=(eT (m+1) t).1;have d0:=(fV (m+1) t).1;simp only[Qi,aA,bZ]at hv;have q:¬x.1.1=5:=by simpa using hv.1
  by_cases i:x.1.1=4
  ·have r:¬x.1.1=6:=by omega
   simp only[gZ,if_neg r,if_neg q,if_pos i]at h;split at h
   ·rename_i j;have o:=xw _ _ b c h;have key:∀(e:Nat)(a:Tm n)(d:Tm m),x.2.2[e]?=some a->t.2.2[e]?=some d->sz n a<=sz m d/\fA n a<=fA m d:=λe a d f g=>by
     obtain⟨k,l,p⟩:=o e a d f g;exact OA n a m d k l (hv.2 a (aH f)) p
    have s:=Lj (λa=>1+sz n a) (λa=>1+sz m a) x.2.2 t.2.2 j.2 λe a d f g=>by have:=key e a d f g;omega
    have u:=Fe (λa=>fA n a) (λa=>fA m a) x.2.2 t.2.2 0 0 (jf _) j.2 λe a d f g=>(key e a d f g).2;simp only[sz,fA,if_pos i,if_pos j.1];omega
   ·cases h
  ·simp only[sz,fA,if_neg i];simp only[sz,fA]at s0 d0;exact⟨s0,d0⟩
theorem uH{n:Nat}{x:Tm n}:bv n x=0 ↔ bI n x=true/\fA n x<=12/\sz n x<=200:=by
 rw[<-gj];unfold wV;constructor
 ·intro a;split at a
  ·rename_i c;split at a
   ·cases a
   ·rename_i f;exact⟨c,by omega,by omega⟩
  ·cases a
 ·rintro ⟨b,d,e⟩;rw[if_pos b,if_neg (by omega)]
def CU(a:An):Prop:=bv a.1 a.2=0/\(bU a=6\/aK a.1 a.2=true)
theorem ou:uu CU:=by
 intro n b a h c;obtain⟨i,d⟩:=h;obtain⟨f1,f2,f3⟩:=uH.1 i;have f:aD ⟨n+1,b⟩:=aL.2 f1;have g:=eI (bw n b) (f (bw n b) (by simp[ax,bw]));have e:b.1.1=4:=by
  by_cases e:b.1.1=4
  ·exact e
  ·have:b.2.2=[]:=bF (g.2.2.2.2 e);rw[this]at c;cases c
 have k:=ue (λa=>1+sz n a) (λa=>by have:=(eT n a).1;omega) b.2.2 a c;have j:=BE (λa=>fA n a) b.2.2 0 a c;simp only[sz,fA,if_pos e]at f2 f3;refine⟨uH.2 ⟨aL.1 (aU n b a f c),by simp only at j ⊢;omega,by simp only at k ⊢;omega⟩,ai ?_⟩;rcases d with d|d
 ·simp only[bU]at d;omega
 ·exact(yV d).2.2 a c
theorem yq{D:Nat}{l:List (Tm D)}{c:List An}(g:∀y∈c,CU y)(h:l.length=4)(n:c.length=4)(j:CV D l c):ge D l=true:=by
 unfold ge;rw[h];simp only[decide_true,ez,bZ];intro y k;obtain⟨a,e⟩:=cM k;have i:a<c.length:=by have:=(aO.1 e).1;omega
 obtain⟨o,f,d,_⟩:=j a c[a] (aG i);rw[e]at f;obtain rfl:=aw f;obtain⟨m,b⟩:=g c[a] (jE _);unfold BQ;rw[bJ d,m,kB d,<-fw,cB _ _ _ _ d];rcases b with b|b
 ·have:bU (⟨(c[a]).1,(c[a]).2⟩:An)=6:=b;rw[this];rfl
 ·rw[b];simp
theorem Fb{b:List An}{w1 w':World}{a:Option Addr}{c:Nat}{l:List (Tm (mZ b))}(q:gJ (mZ b) (CC b) w1 w' a c l)(j:∀y∈b,aD y)(r:b.length=4):fC w'.heap.size w' (mZ b) l a/\l.length=4/\CV (mZ b) l b/\∀y∈l,aD ⟨mZ b,y⟩:=by
 obtain⟨E,F,G,H,A,f⟩:=q;have D:(CC b).length=4:=by simp[CC,r]
 have t:fC w'.heap.size w' (mZ b) l a:=by
  rcases f with f|⟨B,o,p,C,v,f⟩
  ·exact ah f
  ·exact ai ⟨B,o,p,v,λd y i=>⟨(f d y i).1,(f d y i).2.1⟩⟩
 have m:CV (mZ b) l b:=by
  intro d e h;have g:d<l.length:=by have:=(aO.1 h).1;omega
  have z:(CC b)[d]?=some (aS (mZ b) e.1 e.2):=by simp[CC,h]
  have x:=jx _ _ _ A d l[d] _ (aG g) z;have u:=fx (mZ b) e.1 (Ai b e (aH h)) e.2 (j e (aH h));have k:=bH _ _ _ _ _ _ x u;exact⟨l[d],aG g,k,aL.2 (by rw[jy _ _ _ _ k];exact aL.1 (j e (aH h)))⟩
 refine⟨t,by omega,m,λy i=>?_⟩;obtain⟨d,g⟩:=cM i;have s:d<b.length:=by have:=(aO.1 g).1;omega
 obtain⟨I,n,_,w⟩:=m d b[d] (aG s);rw[g]at n;obtain rfl:=aw n;exact w
def fk:Tm 1:=((6,0,.empty),(none,0),[])
theorem Om(B:Nat)(w:World):In B w 1 fk:=⟨⟨by simp[fk,dt],by simp[fk,dt],aI _,by simp[fk],by simp[fk]⟩,ah rfl⟩
theorem Px:bI 1 fk=true:=by
 have:(ByteArray.empty).toList=[]:=by rw[bE];rfl
 simp[bI,fk,cg,bw,this]
theorem d1(x:Tm 1)(a:x.1.1≠4):fA 1 x=0/\sz 1 x=0:=by simp[fA,sz,a]
theorem yS:bv 1 fk=0:=by
 rw[uH];have a:=d1 fk (by simp[fk]);exact⟨Px,by rw[a.1];decide,by rw[a.2];decide⟩
theorem Jr:ge 1 (List.replicate 4 fk)=true:=by
 have:BQ 1 fk=true:=by
  unfold BQ;rw[yS];rfl
 unfold ge;simp only[List.length_replicate,decide_true,ez,bZ];intro b a;rw[List.eq_of_mem_replicate a];exact this
theorem BJ(w:World):am 151 #[] w λe w'=>e=.returned (ae (some ⟨w.heap.size,0,none⟩) 4 4)/\Hid (gJ 1 (List.replicate 4 fk) w w' (some ⟨w.heap.size,0,none⟩) 4 (List.replicate 4 fk)):=by
 obtain⟨A,l,q,r,s⟩:=bP gh;go_enter func151,ntmps151;go_wp2_with (at_make;refine kO _ rfl _ _ 26 rfl w.heap.size 28 A _ 4 underlying26 l q r _ _ _ _ 4 rfl rfl rfl rfl (by rw[s];omega) (by unfold maxLen;omega) (ak _) ?_;intro C p b);have i:=aq (qV 1 (List.replicate 4 fk) 4 p);have h:Hid (aj w C):=⟨b.os,b.tape,b.output,b.size,λk m=>b.block k m (by simp)⟩;clear p b l q r s;go_loopw [6] (λd wr=>∃k:Nat,k<=4/\d=ab k/\Hid (aj w wr/\uq 1 (List.replicate 4 fk) 4 w.heap.size k (List.replicate k fk) wr)) (λd _=>4-(intOf d).toNat)
 case atStart=>exact⟨0,by omega,rfl,h,i⟩
 case round=>
  obtain⟨k,m,rfl,a⟩:=hrel;clear i h;by_cases n:k<4
  ·have t:(List.replicate 4 fk)[k]?=some fk:=by rw[List.getElem?_replicate,if_pos n]
   have j:In wr.heap.size wr 1 fk:=Om _ _;have o:cd (λf=>w.heap.size<f) 1 fk:=by simp[cd,fk]
   have y:=aq (a.2.step n fk t (ap _ _) fk j o (by simp[ay,fk,aC]));have v:Hid (aj w (jv wr w.heap.size (k*4) (gg 1 fk))):=by
    have c:=a.1;exact⟨c.os,c.tape,c.output,az c.size (dz (bq _ _ _ _).symm),λf z=>(aW (by omega) _ _ _ _).trans (c.block f z)⟩
   obtain⟨g,u⟩:∃g,((List.replicate k fk).map (λD=>(⟨1,D⟩:An))++List.replicate (4-k) zA)[k]?=some g:=⟨_,aG (by simp;omega)⟩;obtain⟨E,F,G,H⟩:=a.out.2.2.1.cells k g u;have I:=λB=>a.2.2.1.free B;have J:(0:Int)<=(k:Int):=by omega
   have K:(k:Int)<4:=by omega
   have L:(k:Int)<=4:=by omega
   clear t j o u a;go_wp2_with fail;go_roundw
   case rel=>
    refine⟨k+1,by omega,by go_num,v,?_⟩;have e:List.replicate (k+1) fk=List.replicate k fk++ [fk]:=List.replicate_succ';rw[e];exact y
   case measure=>simp[intOf];omega
  ·obtain rfl:k=4:=by omega
   have x:=aq (a.2.done rfl (by omega) a.1 (by unfold maxLen;omega));go_wp2_with fail
   go_ret
   exact⟨rfl,x⟩
structure br (S:Nat->Prop) (w w':World):Prop where
 os:w'.os=w.os
 tape:w'.tape=w.tape
 output:w'.output=w.output
 size:w.heap.size<=w'.heap.size
 block:∀b,b<w.heap.size->¬S b->w'.heap[b]?=w.heap[b]?
theorem br.refl(S:Nat->Prop)(w:World):br S w w:=⟨rfl,rfl,rfl,ak _,λ_ _ _=>rfl⟩
theorem br.trans{S T:Nat->Prop}{w w1 w2:World}(a:br S w w1)(k:br T w1 w2)(e:∀b,b<w.heap.size->T b->S b):br S w w2:=
 ⟨k.os.trans a.os,k.tape.trans a.tape,k.output.trans a.output,az a.size k.size,λb c d=>(k.block b (aR c a.size) (λf=>d (e b c f))).trans (a.block b c d)⟩
theorem br.mono{S T:Nat->Prop}{w w1:World}(a:br S w w1)(d:∀b,b<w.heap.size->S b->T b):br T w w1:=⟨a.os,a.tape,a.output,a.size,λb c e=>a.block b c λk=>e (d b c k)⟩
theorem aJ{w w':World}(a:Below w.heap.size w w')(S:Nat->Prop):br S w w':=⟨a.os,a.tape,a.output,a.size,λb c _=>a.block b c⟩
theorem eh{w w':World}{row:Option Nat}(a:w.grownBy w' row):br (λb=>row=some b) w w':=⟨a.os,a.tape,a.output,a.size,λb c d=>a.block b c λe=>d e.symm⟩
theorem bD(w:World)(q o:Nat)(v:Value):br (λb=>b=q) w (w.setCell ⟨q,o,none⟩ v):=
 ⟨rfl,rfl,rfl,by simp[World.setCell],λb _ c=>by
  have:q≠b:=λa=>c a.symm
  simp[World.setCell,bN,this]⟩
theorem br.below{S:Nat->Prop}{w w':World}{B:Nat}(a:br S w w')(e:B<=w.heap.size)(c:∀b,b<B->¬S b):Below B w w':=⟨a.os,a.tape,a.output,a.size,λb d=>a.block b (by omega) (c b d)⟩
theorem br.cell{S:Nat->Prop}{w w':World}(a:br S w w'){b:Nat}(o:Nat)(d:b<w.heap.size)(c:¬S b):w'.cell? ⟨b,o,none⟩=w.cell? ⟨b,o,none⟩:=by
 simp only[World.cell?,a.block b d c]
theorem bi{base:Nat}{e:TypeId}{sz:Nat}{v:Value}{n:Nat}{xs:List Value}{w w':World}{S:Nat->Prop}(c:w.ownsRow base e sz v n xs)(k:br S w w')(h:∀b,v.ownBlock=some b->¬S b):w'.ownsRow base e sz v n xs:=by
 refine⟨c.1,?_⟩;rcases c.2 with⟨e,g⟩|⟨a,cap,f,e,i,d,j⟩
 ·exact ah ⟨e,g⟩
 ·exact ai ⟨a,cap,f,e,i,(k.block a (aF.1 d).1 (h a (by rw[e];rfl))).trans d,j⟩
theorem dB.kee{S:Nat->Prop}{w w':World}(a:br S w w'){b o:Nat}(d:b<w.heap.size)(c:¬S b):{n:Nat}->{x:Tm n}->dB w b o n x->dB w' b o n x
 | 0,_,k=>k
 | _+1,_,k=>by
  obtain⟨e,f,g,h⟩:=k;exact⟨(a.cell _ d c).trans e,(a.cell _ d c).trans f,(a.cell _ d c).trans g,(a.cell _ d c).trans h⟩
theorem In.kee{S:Nat->Prop}{w w':World}(d:br S w w'):{n:Nat}->{x:Tm n}->In w.heap.size w n x->cd (λb=>¬S b) n x->In w'.heap.size w' n x
 | 0,_,k,_=>k
 | _+1,x,k,o=>by
  obtain⟨p,a⟩:=k;refine⟨p,?_⟩;rcases a with a|⟨b,f,e,h,a⟩
  ·exact ah a
  ·rcases o with o|⟨q,r,c,m,o⟩
   ·exact ah o
   ·rw[e]at c;injection c with c;injection c with j l;subst j l;exact ai ⟨b,f,e,aR h d.size,λi y g=>⟨(a i y g).1.kee d h m,(a i y g).2.kee d (o i y g)⟩⟩
/-! ### the keys -/
theorem zG:WideMaps.ArrKey Tryz.prog 198 3 2:=⟨underlying198,by kernel_rfl,by kernel_rfl,by kernel_rfl⟩
theorem fh:Keyed Tryz.prog 198:=Keyed.of_law zG.law
theorem EE:∃m,Tryz.prog.types.size=m+1:=by
 have a:(Tryz.prog.types.size==0)=false:=by kernel_rfl
 have b:Tryz.prog.types.size≠0:=iz.1 a;exact⟨Tryz.prog.types.size-1,by omega⟩
def pk(k:Int×Int):Value:=.agg #[.int .i64 k.1,.int .i64 k.2]
def kl(k:Int×Int):Lit:=.string (keyBytes [.int .i64 k.1,.int .i64 k.2])
def I2(k:Int×Int):Prop:=dt k.1/\dt k.2
theorem NU{a:Int}(b:dt a):(Lit.int .i64 a).wf=true:=iw (by unfold dt at b;omega)
theorem fL{k:Int×Int}(a:I2 k):keyOf Tryz.prog 198 (pk k)=some (kl k):=WideMaps.keyOf_pair zG underlying3 EE (NU a.1) (NU a.2)
theorem qk{k b:Int×Int}(c:I2 k)(d:I2 b)(e:kl k=kl b):k=b:=by
 have a:=fh.inj (fL c) (e▸fL d);simp only[pk,Value.agg.injEq,Array.mk.injEq,List.cons.injEq,Value.int.injEq,true_and,and_true]at a;exact iv a.1 a.2
def rI(v:Value):Option (DataW Value×List MemPlace):=some (.held v,[])
def iE{a:Type}(f:Int×Int->a)(k:Int×Int)(x:a):Int×Int->a:=λj=>if j=k then x else f j
theorem cJ{a:Type}(f:Int×Int->a)(k:Int×Int)(x:a):iE f k x k=x:=if_pos rfl
theorem bT{a:Type}(f:Int×Int->a){k j:Int×Int}(x:a)(b:j≠k):iE f k x j=f j:=if_neg b
def mu:Value:=.slice none 0 0
def dk(N:Nat)(l:List (Tm N)):List Value:=cv (l.map (gg N))
theorem pQ(N:Nat)(l:List (Tm N)):(dk N l).length=l.length*4:=by simp[dk,oo]
theorem pP(N:Nat)(l r:List (Tm N)):dk N (l++r)=dk N l++dk N r:=by simp[dk,vD]
def nS(base N:Nat)(v:Value)(l:List (Tm N))(w:World):Prop:=w.ownsRow base 28 4 v l.length (dk N l)
structure GM (base mb n N:Nat) (f:Int×Int->List (Tm N)) (sl:Int×Int->Value) (w:World):Prop where
 lo:base<=mb
 map:∃D,w.ownsMap Tryz.prog 198 rI mb n D/\(∀k,I2 k->D.atKey (kl k) (.held mu)=.held (sl k))/\∀x,has D x=true ↔∃k,I2 k/\x=kl k/\f k≠[]
 row:∀k,I2 k->nS base N (sl k) (f k) w
 apart:∀k j,I2 k->I2 j->k≠j->∀b,(sl k).ownBlock=some b->(sl j).ownBlock≠some b
def NQ(a:Nat)(sl:Int×Int->Value)(b:Nat):Prop:=b=a\/∃k,I2 k/\(sl k).ownBlock=some b
theorem ei{w:World}{base:Nat}{e:TypeId}{sz:Nat}{v:Value}{n:Nat}{xs:List Value}(d:w.ownsRow base e sz v n xs)(b:Nat)(c:v.ownBlock=some b):∃a,w.heap[b]?=some (.cells a e (0,0)):=by
 rcases d.2 with⟨rfl,_⟩|⟨g,cap,a,rfl,_,f,_⟩
 ·simp[Value.ownBlock]at c
 ·simp[Value.ownBlock]at c;subst c;exact⟨a,f⟩
variable {base mb n N:Nat} {f:Int×Int->List (Tm N)} {sl:Int×Int->Value} {w:World}
theorem GM.lt(a:GM base mb n N f sl w)(b:Nat)(c:NQ mb sl b):base<=b/\b<w.heap.size:=by
 rcases c with rfl|⟨k,e,c⟩
 ·obtain⟨g,d,_⟩:=a.map;exact⟨a.lo,d.lt⟩
 ·exact(a.row k e).lt b c
theorem GM.ne(a:GM base mb n N f sl w){k:Int×Int}(g:I2 k):(sl k).ownBlock≠some mb:=by
 intro d;obtain⟨c,b⟩:=ei (a.row k g) mb d;obtain⟨h,⟨es,i,e,_⟩,_⟩:=a.map;rw[e]at b;cases b
theorem GM.kee{S:Nat->Prop}{w':World}(a:GM base mb n N f sl w)(k:br S w w')(e:∀b,NQ mb sl b->¬S b):GM base mb n N f sl w':=by
 refine⟨a.lo,?_,λh g=>bi (a.row h g) k λb c=>e b (ai ⟨h,g,c⟩),a.apart⟩;obtain⟨i,d,l⟩:=a.map;refine⟨i,?_,l⟩;have m:=d.lt;obtain⟨es,j,c,o⟩:=d;exact⟨es,j,(k.block mb m (e mb (ah rfl))).trans c,o⟩
theorem GM.mono(b:GM base mb n N f sl w){m:Nat}(i:n<=m):GM base mb m N f sl w:=by
 obtain⟨c,⟨a,d,e⟩,g,h⟩:=b;exact⟨c,⟨a,d.mono i,e⟩,g,h⟩
theorem GM.new(w:World)(N:Nat):GM w.heap.size w.heap.size 0 N (λ_=> []) (λ_=>mu) (w.alloc (.map #[] 0)):=
 ⟨ak _,⟨.map [],py w _ _ _,λk _=>by simp[DataW.atKey],λe=>⟨λa=>by simp[has]at a,λ⟨k,_,_,a⟩=>absurd rfl a⟩⟩,
  λk _=>⟨by simp[dk,cv],ah ⟨rfl,rfl⟩⟩,λk d _ _ _ b c=>by simp[mu,Value.ownBlock]at c⟩
theorem nS.rebase{a:Nat}{v:Value}{l:List (Tm N)}(b:nS base N v l w)(c:a<=base):nS a N v l w:=rF b c
theorem GM.rebase{b:Nat}(a:GM base mb n N f sl w)(c:b<=base):GM b mb n N f sl w:=
 ⟨az c a.lo,a.map,λk d=>(a.row k d).rebase c,a.apart⟩
theorem KR{v:Value}{d:DataW Value}{ps:List MemPlace}(a:rI v=some (d,ps)):d=.held v:=by
 unfold rI at a;injection a with a;injection a with b c;exact b.symm
theorem rW(w:World):(zeroValue 26).run Tryz.prog w=.ok (.slice none 0 0) w:=by kernel_rfl
theorem GM.look(d:GM base mb n N f sl w){k:Int×Int}(b:I2 k):(Instr.lookup 87 (.map (some mb)) (pk k) false).run Tryz.prog w=.ok (sl k) w:=by
 obtain⟨i,e,g,_⟩:=d.map;obtain⟨j,ps,h,c⟩:=e.lookup fh underlying87 (rW w) (zd:=.held mu) (zp:=[]) rfl (fL b);rw[g k b]at c;have a:=KR c;injection a with a;rw[h,a]
theorem GY(w:World){k:Int×Int}(b:I2 k):(Instr.lookup 87 (.map none) (pk k) false).run Tryz.prog w=.ok (.slice none 0 0) w:=by
 have a:=look_nil (P:=Tryz.prog) (w:=w) false fh underlying87 (rW w) (fL b);simpa using a
theorem FZ{D:DataW Value}(f:IsMap D){k j:Int×Int}(e:I2 k)(b:I2 j)(v:Value)(c:DataW Value):(D.put (kl k) (.held v)).atKey (kl j) c=if j=k then .held v else D.atKey (kl j) c:=by
 by_cases a:j=k
 ·subst a;rw[if_pos rfl,atKey_put_same f (fh.key (fL b))]
 ·rw[if_neg a,atKey_put_other λd=>a (qk b e d)]
theorem GM.put_of(h:GM base mb n N f sl w){k:Int×Int}(i:I2 k){w1 w2:World}(E:br (λb=>b=mb\/(sl k).ownBlock=some b) w w1){v:Value}{l:List (Tm N)}(H:l≠[])(J:nS base N v l w1)(y:∀b,v.ownBlock=some b->(sl k).ownBlock=some b\/w.heap.size<=b)(x:br (λb=>b=mb) w1 w2)(K:∀D,w.ownsMap Tryz.prog 198 rI mb n D->w2.ownsMap Tryz.prog 198 rI mb (n+1) (D.put (kl k) (.held v))):GM base mb (n+1) N (iE f k l) (iE sl k v) w2:=by
 obtain⟨D,j,C,t⟩:=h.map;have M:=j.lt;have I:∀b,v.ownBlock=some b->b≠mb:=λb e a=>by
  subst a;rcases y b e with a|a
  ·exact h.ne i a
  ·omega
 have z:∀c,I2 c->c≠k->∀b,(sl c).ownBlock=some b->v.ownBlock≠some b:=λc d G b e L=>by
  rcases y b L with a|a
  ·exact h.apart c k d i G b e a
  ·have:=((h.row c d).lt b e).2;omega
 refine⟨h.lo,⟨_,K D j,λc d=>?_,λB=>?_⟩,λc d=>?_,λp c u d o b=>?_⟩
 ·rw[FZ j.isMap i d];unfold iE;split
  ·rfl
  ·exact C c d
 ·constructor
  ·intro A;by_cases a:B=kl k
   ·exact⟨k,i,a,by rw[cJ];exact H⟩
   ·rw[has_put_other a]at A;obtain⟨c,d,s,m⟩:=(t B).1 A;refine⟨c,d,s,?_⟩;rw[bT _ _ λg=>a (by rw[s,g])];exact m
  ·rintro ⟨c,d,rfl,m⟩;by_cases a:c=k
   ·rw[a,has_put_same j.isMap (fh.key (fL i))]
   ·rw[has_put_other λg=>a (qk d i g)];rw[bT _ _ a]at m;exact(t _).2 ⟨c,d,rfl,m⟩
 ·by_cases a:c=k
  ·subst a;rw[cJ,cJ];exact bi J x λb e a=>I b e a
  ·rw[bT _ _ a,bT _ _ a];refine bi (bi (h.row c d) E λb e g=>?_) x λb e g=>h.ne d (by rw[e,g]);rcases g with g|g
   ·exact h.ne d (by rw[e,g])
   ·exact h.apart c k d i a b e g
 ·by_cases q:p=k
  ·subst q;rw[cJ,bT _ _ λa=>o a.symm];exact λe F=>z c d (λa=>o a.symm) b F e
  ·rw[bT _ _ q];by_cases r:c=k
   ·subst r;rw[cJ];exact λe=>z p u o b e
   ·rw[bT _ _ r];exact h.apart p c u d o b
theorem iV{w2:World}(a:w.mapTurned w2 mb):br (λb=>b=mb) w w2/\w2.heap.size=w.heap.size:=by
 refine⟨(eh a.grown).mono λb _ c=>(aw c).symm,?_⟩;obtain⟨_,_,_,_,_,rfl⟩:=a;simp[ChangeMaps.setBlock]
theorem GM.store(g:GM base mb n N f sl w){k:Int×Int}(h:I2 k){w1:World}(i:br (λb=>(sl k).ownBlock=some b) w w1){v:Value}{l:List (Tm N)}(x:l≠[])(A:nS base N v l w1)(y:∀b,v.ownBlock=some b->(sl k).ownBlock=some b\/w.heap.size<=b)(F:n<1000000):∃w2,(Instr.mapUpdate 87 (.map (some mb)) (pk k) v).run Tryz.prog w1=.ok () w2/\GM base mb (n+1) N (iE f k l) (iE sl k v) w2/\br (λb=>b=mb) w1 w2/\w2.heap.size=w1.heap.size:=by
 have p:∀a,w.ownsMap Tryz.prog 198 rI mb n a->∃w2,(Instr.mapUpdate 87 (.map (some mb)) (pk k) v).run Tryz.prog w1=.ok () w2/\w2.ownsMap Tryz.prog 198 rI mb (n+1) (a.put (kl k) (.held v))/\w1.mapTurned w2 mb:=by
  intro a c;have z:=c.lt;have t:w1.ownsMap Tryz.prog 198 rI mb n a:=by
   obtain⟨es,r,u,C⟩:=c;exact⟨es,r,(i.block mb z (g.ne h)).trans u,C⟩
  exact t.store (d:=.held v) (ps:=[]) fh underlying87 (by unfold maxLen;omega) (fL h) rfl
 obtain⟨a,c,_⟩:=g.map;obtain⟨w2,m,_,E⟩:=p a c;obtain⟨j,D⟩:=iV E;refine⟨w2,m,g.put_of h (i.mono λb _ e=>ai e) x A y j (λq s=>?_),j,D⟩;obtain⟨G,o,B,_⟩:=p q s;rw[m]at o;injection o with _ e;rw[e];exact B
theorem GM.entry(s:GM base mb n N f sl w){k:Int×Int}(g:I2 k)(ak:n<1000000):∃(q:Nat)(w1:World),(Instr.mapEntry 87 (.map (some mb)) (pk k)).run Tryz.prog w=.ok (.tuple #[sl k,goInt q]) w1/\br (λb=>b=mb) w w1/\w1.heap.size=w.heap.size/\ ∀(w2:World)(v:Value)(l:List (Tm N)),w2.heap[mb]?=w1.heap[mb]? ->br (λb=>b=mb\/(sl k).ownBlock=some b) w w2->l≠[]->nS base N v l w2->(∀b,v.ownBlock=some b->(sl k).ownBlock=some b\/w.heap.size<=b)-> ∃i,(Instr.entryStore 87 (.map (some mb)) (goInt q) v).run Tryz.prog w2=.ok () i/\GM base mb (n+1) N (iE f k l) (iE sl k v) i/\br (λb=>b=mb) w2 i/\i.heap.size=w2.heap.size:=by
 obtain⟨I,t,aj,_⟩:=s.map;obtain⟨es,r,c,j,Z,P⟩:=t;have t:w.ownsMap Tryz.prog 198 rI mb n I:=⟨es,r,c,j,Z,P⟩;obtain⟨ah,q,o,m,X,H,aa⟩:=WideElems.entry_then_store (e:=26) zG.law underlying87 rW c j (fL g);have K:ah=sl k:=by
  have x:=s.look g;obtain⟨am,ps,Y,al⟩:=t.lookup fh underlying87 (rW w) (zd:=.held mu) (zp:=[]) rfl (fL g);rw[x]at Y;rcases Maps.fit_look false fh underlying87 (rW w) c j (fL g)with⟨a,z,_⟩|⟨L,an,E,p,a,_⟩
  ·rw[x]at a;injection a with a _;rcases H with⟨B,y,h,_⟩|⟨_,rfl⟩
   ·exact absurd h (z B y)
   ·exact a.symm
  ·rw[x]at a;injection a with a _;rcases H with⟨B,y,h,rfl⟩|⟨z,_⟩
   ·have:=entry_eq_of_key ((MapKept.stamped_iff es r).1 j.stamped).2.2 E y (p.trans h.symm);simp at a;rw[a,this]
   ·exact absurd p (z L E)
 subst K;have ab:w.mapTurned (ChangeMaps.setBlock w mb (.map o m)) mb:=⟨es,r,o,m,c,rfl⟩;obtain⟨p,af⟩:=iV ab;refine⟨q,_,X,p,af,λw2 v l ae Q R T S=>?_⟩;have u:w2.heap[mb]?=some (.map o m):=ae.trans (sQ c _);obtain⟨C,A,U,V⟩:=aa w2 v u;have ad:w2.mapTurned (ChangeMaps.setBlock w2 mb (.map C A)) mb:=⟨o,m,C,A,u,rfl⟩;obtain⟨h,ag⟩:=iV ad;refine⟨_,U,s.put_of g Q R T S h (λai O=>?_),h,ag⟩;obtain⟨i,G,F,_⟩:=O.store (d:=.held v) (ps:=[]) fh underlying87 (by unfold maxLen;omega) (fL g) rfl;rw[V]at G;injection G with _ e;rw[<-e]at F;obtain⟨M,J,D,W⟩:=F;rw[sQ c]at D;exact⟨M,J,(sQ u _).trans D,W⟩
theorem GM.drop(h:GM base mb n N f sl w){k:Int×Int}(l:I2 k)(ty:TypeId):∃w2,(Builtin.delete_ #[87,198] ty #[.map (some mb),pk k]).run Tryz.prog w=.ok (.tuple #[]) w2/\GM base mb n N (iE f k []) (iE sl k mu) w2/\br (λb=>b=mb) w w2/\w2.heap.size=w.heap.size:=by
 obtain⟨D,u,v,q⟩:=h.map;obtain⟨w2,A,z,C⟩:=u.drop fh underlying87 (fL l) ty;obtain⟨r,B⟩:=iV C;refine⟨w2,A,⟨h.lo,⟨_,z,λc d=>?_,λt=>?_⟩,λc d=>?_,λs c x d y b=>?_⟩,r,B⟩
 ·by_cases a:c=k
  ·subst a;rw[cJ,atKey_del_same]
  ·rw[bT _ _ a,atKey_del_other λe=>a (qk d l e)];exact v c d
 ·constructor
  ·intro j;by_cases a:t=kl k
   ·rw[a,has_del_same]at j;cases j
   ·rw[has_del_other a]at j;obtain⟨c,d,p,g⟩:=(q t).1 j;refine⟨c,d,p,?_⟩;rw[bT _ _ λe=>a (by rw[p,e])];exact g
  ·rintro ⟨c,d,rfl,g⟩;by_cases a:c=k
   ·rw[a,cJ]at g;exact absurd rfl g
   ·rw[has_del_other λe=>a (qk d l e)];rw[bT _ _ a]at g;exact(q _).2 ⟨c,d,rfl,g⟩
 ·by_cases a:c=k
  ·subst a;rw[cJ,cJ];exact⟨by simp[dk,cv],ah ⟨rfl,rfl⟩⟩
  ·rw[bT _ _ a,bT _ _ a];exact bi (h.row c d) r λb i e=>h.ne d (by rw[i,e])
 ·by_cases m:s=k
  ·subst m;rw[cJ];intro i;simp[mu,Value.ownBlock]at i
  ·rw[bT _ _ m];by_cases o:c=k
   ·subst o;rw[cJ];intro _ i;simp[mu,Value.ownBlock]at i
   ·rw[bT _ _ o];exact h.apart s c x d y b
theorem wP{P:Program}(w:World)(t ty e:TypeId)(i:TypeInfo)(x:P.underlying t=some (.slice e))(r:P.info? e=some i)(g d k:Nat)(f:Array Value)(q:w.heap[g]?=some (.cells f e (0,0)))(a:Addr)(m c:Nat)(b:List Value)(s:b.length=m*i.size)(u:∀j h,b[j]?=some h->w.cell? (a.add j)=some h)(n:∀h∈b,h.oneCell'=true)(v:d+m<=k)(p:d*i.size+b.length<=f.size):(Builtin.append_ #[t,t] ty #[ae (some ⟨g,0,none⟩) d k,ae (some a) m c]).run P w= .ok (ae (some ⟨g,0,none⟩) (d+m) k) (w.setRow g (f.toList.take (d*i.size)++b++f.toList.drop (d*i.size+b.length)).toArray):=by
 have o:=run_firstCells_some (P:=P) w i.size m a m c b s u;have l:=pB P g (d*i.size) e b 0 f w q (by simpa using p) n;simp only[iu]at l;simp[Builtin.append_,cr x,sizeOf,typeInfo,r,Builtin.lenOf,v,o,eU,l]
theorem GJ:(Tryz.prog.info? 28).map (λi=>(i.zero,i.size,i.bytes))=some (some (.agg #[ab 0,ab 0,af ⟨#[]⟩,ae none 0 0]),4,56):=by kernel_rfl
def pV:List Value:=[ab 0,ab 0,af ⟨#[]⟩,ae none 0 0]
theorem wR(w:World)(ty:TypeId)(g o c:Nat)(a:Array Value)(e:w.heap[g]?=some (.cells a 28 (0,0)))(d:o+4<=a.size):(Builtin.clear_ #[26] ty #[ae (some ⟨g,o,none⟩) 1 c]).run Tryz.prog w=.ok (.tuple #[]) (w.setRow g (a.toList.take o++pV++a.toList.drop (o+4)).toArray):=by
 have b:=pB Tryz.prog g o 28 pV 0 a w e (by simpa [pV]using d) (by simp[pV,Value.oneCell']);have h:(Builtin.zeroCells (Value.agg #[ab 0,ab 0,af ⟨#[]⟩,ae none 0 0]).cells 1).toList=pV:=by
  simp[Builtin.zeroCells,Value.cells,pV];rfl
 simp only[iu]at b;have f:pV.length=4:=rfl;rw[f]at b;simp[Builtin.clear_,cr underlying26,h,b]
theorem Lc(w:World)(g L c:Nat)(b:L<=c)(d:1<=L):(Instr.slice 26 (ae (some ⟨g,0,none⟩) L c) (some (ab 0)) (some (ab 1)) (some (ab L))).run Tryz.prog w=.ok (ae (some ⟨g,0,none⟩) 1 L) w:=by
 have a:(1:Int)<=(L:Int):=by omega
 simp[Instr.slice,cr underlying26,Instr.sliceBounds,Instr.sliceBound,asIntOf,a,b,go_sem]
theorem Ef(w:World)(g L c:Nat):(Instr.slice 26 (ae (some ⟨g,0,none⟩) L c) none (some (ab 0)) none).run Tryz.prog w=.ok (ae (some ⟨g,0,none⟩) 0 c) w:=by
 simp[Instr.slice,cr underlying26,Instr.sliceBounds,Instr.sliceBound,asIntOf,go_sem]
theorem Eg(w:World)(g L c:Nat)(d:L<=c)(e:2<=L):(Instr.slice 26 (ae (some ⟨g,0,none⟩) L c) (some (ab 1)) none none).run Tryz.prog w=.ok (ae (some ⟨g,4,none⟩) (L-1) (c-1)) w:=by
 have a:(1:Int)<=(L:Int):=by omega
 have b:¬c=1:=by omega
 simp[Instr.slice,cr underlying26,Instr.sliceBounds,Instr.sliceBound,asIntOf,a,b,go_sem,eU]
theorem Ee(w:World)(g m c:Nat)(e:m+1<=c):(Instr.slice 26 (ae (some ⟨g,0,none⟩) m c) (some (ab m)) (some (ab ((m:Int)+1))) none).run Tryz.prog w=.ok (ae (some ⟨g,m*4,none⟩) 1 (c-m)) w:=by
 have a:¬c=m:=by omega
 have b:(m:Int)+1<=(c:Int):=by omega
 have d:(0:Int)<=(m:Int)+1:=by omega
 simp[Instr.slice,cr underlying26,Instr.sliceBounds,Instr.sliceBound,asIntOf,a,b,d,go_sem,eU]
theorem tQ{w w':World}{v x' c:Value}{b:Array Oper}{o:Oper}{a:Act}{K:Act->World->Prop}{Q:Exit->Act->World->Prop}{E:Prop}(e:o.guard=none)(s x:Operand)(f:o.op=.call {callee:=.builtin .append,args:= #[s,x],argTypes:= #[26,26]})(h:a.eval s=v)(j:a.eval x=x')(g:(Builtin.append_ #[26,26] o.type #[v,x']).run Tryz.prog w=.ok c w')(d:K (a.put o.dst c) w'):if Region.wanted o (yielded b a.tmps)=true then Oper.wp Tryz.prog o a w K Q else E:=by
 have i:Region.wanted o (yielded b a.tmps)=true:=by simp[Region.wanted,e]
 rw[if_pos i];unfold Oper.wp execOp;simp only[f,resolve,invoke,builtin,Sem.run_bind,Sem.run_pure,mY,mP,aM,b8,h,j,g];exact d
theorem ag{w:World}{g:Nat}{a:Array Value}{e:TypeId}(b:w.heap[g]?=some (.cells a e (0,0)))(j:Nat):w.cell? ⟨g,j,none⟩=a.toList[j]? :=by
 simp[World.cell?,b]
theorem Da{N:Nat}(base g c m:Nat)(y:Tm N)(l:List (Tm N))(w:World)(j:l.length=m)(C:nS base N (ae (some ⟨g,0,none⟩) (m+1) c) (y::l) w)(D:l≠[]):am 104 #[ae (some ⟨g,0,none⟩) ((m:Nat)+1) c,ab 0,ab 1] w λe w'=>e=.returned (ae (some ⟨g,0,none⟩) m c)/\nS base N (ae (some ⟨g,0,none⟩) m c) l w'/\w.grownBy w' (some g)/\w'.heap.size=w.heap.size:=by
 obtain⟨R,K,Z,O,aa⟩:=bP GJ;have Y:0<m:=by
  rw[<-j];exact List.length_pos_iff.2 D
 obtain⟨E,F⟩:=C;rcases F with⟨e,_⟩|⟨V,cap,d,e,J,r,H,I,u,t⟩
 ·cases e
 ·injection e with i A B;injection i with i;injection i with i _;subst i B;simp only[bf,j]at E H t A;have q:d.toList.length=c*4:=by rw[gn,u]
  have M:d.toList.take ((m+1)*4)=dk N [y]++dk N l:=by
   rw[t,<-pP];rfl
  have S:(dk N [y]).length=4:=by rw[pQ];rfl
  have f:(dk N l).length=m*4:=by rw[pQ,j]
  have z:Hid (∀a:World,a.heap[g]?=some (.cells d 28 (0,0))->∀n o,(dk N l)[n]?=some o->a.cell? ((⟨g,4,none⟩:Addr).add n)=some o):=by
   intro a h n o s;have X:=(aO.1 s).1;rw[eU,ag h];have e:(d.toList.take ((m+1)*4))[4+n]?=some o:=by
    rw[M,eC (by omega),S,Nat.add_sub_cancel_left];exact s
   rw[jh]at e;split at e
   ·exact e
   ·cases e
  have v:Hid (∀(a:World)(ty:TypeId),a.heap[g]?=some (.cells d 28 (0,0))->(Builtin.append_ #[26,26] ty #[ae (some ⟨g,0,none⟩) 0 c,ae (some ⟨g,4,none⟩) m (c-1)]).run Tryz.prog a=
   .ok (ae (some ⟨g,0,none⟩) m c) (a.setRow g (dk N l++d.toList.drop (m*4)).toArray)):=by
   intro a ty h;have p:=wP (P:=Tryz.prog) a 26 ty 28 R underlying26 K g 0 c d h ⟨g,4,none⟩ m (c-1) (dk N l) (by rw[f,O]) (z a h) (tf _) (by omega) (by rw[f,u];omega);simpa [f]using p
  have x:Hid (∀(a:World)(ty:TypeId),a.heap[g]?=some (.cells (dk N l++d.toList.drop (m*4)).toArray 28 (0,0))->(Builtin.clear_ #[26] ty #[ae (some ⟨g,m*4,none⟩) 1 (c-m)]).run Tryz.prog a=
   .ok (.tuple #[]) (a.setRow g (dk N l++pV++d.toList.drop ((m+1)*4)).toArray)):=by
   intro a ty h;have p:=wR a ty g (m*4) (c-m) _ h (by simp only[fq,bk,eX,f,q];omega);rw[p];refine congrArg (λU=>Result.ok (Value.tuple #[]) (a.setRow g (List.toArray U))) ?_;rw[pu,gS (by omega),bu (by omega),List.drop_append,pn (by omega),f,List.drop_drop,mR];rw[show m*4+(m*4+4-m*4)=(m+1)*4 by omega]
  have G:=v w.drew 26 r;have HB:Hid ((w.drew.setRow g (dk N l++d.toList.drop (m*4)).toArray).heap[g]?=some (.cells (dk N l++d.toList.drop (m*4)).toArray 28 (0,0))):=setRow_heap w.drew g d _ _ _ r;have W:=λty:TypeId=>x _ ty HB;have ad:=λa:World=>Lc a g (m+1) c (by omega) (by omega);have af:=λa:World=>Ef a g (m+1) c;have T:=λa:World=>Eg a g (m+1) c (by omega) (by omega);have ah:=λa:World=>Ee a g m c (by omega);rw[eY]at T;go_enter func104,ntmps104;go_wp2_with fail;go_region_held3 (λ_=>True) (trivial) ((first|(refine tQ rfl _ _ rfl (by simp[Act.eval]) (by simp[Act.eval]) G ?_)));go_wp2_with fail
  go_ret
  have k:∀b,b≠g->((w.drew.setRow g (dk N l++d.toList.drop (m*4)).toArray).setRow g (dk N l++(pV++d.toList.drop ((m+1)*4))).toArray).heap[b]?=w.heap[b]? :=λb k=>(setRow_other _ _ _ _ k).trans (setRow_other _ _ _ _ k);refine⟨rfl,⟨by rw[f,j],ai ⟨g,c,_,by rw[j],J,setRow_heap _ _ _ _ _ _ HB,by omega,I,?_,?_⟩⟩,⟨rfl,rfl,rfl,by simp,λb _ L=>k b λe=>L (by rw[e])⟩,by simp⟩
  ·have Q:pV.length=4:=rfl;simp only[fq,bk,eX,f,q,Q];omega
  ·rw[pu,gS (by omega),bu (by omega)]
abbrev Ac(n:Nat):Type:=Int×(Tm n×Tm n)×(ByteArray×Int)
abbrev Cl(n:Nat):Type:=(Tm n×Tm n×Tm n)×(Option Addr×Nat)×List (Ac n)
abbrev Bh(n:Nat):Type:=ByteArray×(Option Addr×Nat)×List (Cl n)
def il(n:Nat)(x:Tm n):List Value:=vC (gg n x)
def fZ(n:Nat)(a:Ac n):List Value:=ab a.1::(il n a.2.1.1++il n a.2.1.2++ [af a.2.2.1,ab a.2.2.2])
def eZ(n:Nat)(c:Cl n):List Value:=il n c.1.1++il n c.1.2.1++(ae c.2.1.1 c.2.2.length c.2.1.2::il n c.1.2.2)
def oI(n:Nat)(b:Bh n):List Value:=[af b.1,ae b.2.1.1 b.2.2.length b.2.1.2]
def pY{c:Type}(B:Nat)(w:World)(k:Nat)(f:c->List Value)(i:c->Prop)(a:Option Addr)(l:List c):Prop:=
 l=[]\/∃b o,a=some ⟨b,o,none⟩/\b<B/\∀(e:Nat)(d:c),l[e]?=some d->(∀(g:Nat)(h:Value),(f d)[g]?=some h->w.cell? ⟨b,o+e*k+g,none⟩=some h)/\i d
def iA(n:Nat)(B:Nat)(w:World)(a:Ac n):Prop:=dt a.1/\In B w n a.2.1.1/\In B w n a.2.1.2/\a.2.2.1.size<=maxLen/\dt a.2.2.2
def gY(n:Nat)(B:Nat)(w:World)(c:Cl n):Prop:=(In B w n c.1.1/\In B w n c.1.2.1/\In B w n c.1.2.2)/\(c.2.2.length<=c.2.1.2/\c.2.1.2<=maxLen)/\pY B w 11 (fZ n) (iA n B w) c.2.1.1 c.2.2
def pC(n:Nat)(B:Nat)(w:World)(b:Bh n):Prop:=b.1.size<=maxLen/\(b.2.2.length<=b.2.1.2/\b.2.1.2<=maxLen)/\pY B w 13 (eZ n) (gY n B w) b.2.1.1 b.2.2
def tD{c:Type}(d:c->Prop)(P:Nat->Prop)(a:Option Addr)(l:List c):Prop:=l=[]\/∃b o,a=some ⟨b,o,none⟩/\P b/\∀y∈l,d y
def lT(n:Nat)(P:Nat->Prop)(a:Ac n):Prop:=cd P n a.2.1.1/\cd P n a.2.1.2
def jR(n:Nat)(P:Nat->Prop)(c:Cl n):Prop:=(cd P n c.1.1/\cd P n c.1.2.1/\cd P n c.1.2.2)/\tD (lT n P) P c.2.1.1 c.2.2
def jQ(n:Nat)(P:Nat->Prop)(b:Bh n):Prop:=tD (jR n P) P b.2.1.1 b.2.2
def jS{e:Type}(f:Nat->World->e->Prop)(g:(Nat->Prop)->e->Prop):Prop:=
 (∀(d i:Nat->Prop)(a:e),(∀b,d b->i b)->g d a->g i a)/\(∀(d:Nat->Prop)(c:Nat)(w:World)(a:e),g d a->f c w a->g (λb=>d b/\b<c) a)/\
 (∀(d:Nat->Prop)(c:Nat)(w j:World)(a:e),(∀b,d b->j.heap[b]?=w.heap[b]?)->g d a->f c w a->f c j a)/\(∀(c h:Nat)(w:World)(a:e),c<=h->f c w a->f h w a)/\
 (∀(c:Nat)(w:World)(a:e),f c w a->g (λb=>b<c) a)
theorem oR{B:Nat}{w:World}:{n:Nat}->{x:Tm n}->In B w n x->cd (λb=>b<B) n x
 | 0,_,k=>k
 | _+1,_,k=>by
  obtain⟨_,a⟩:=k;rcases a with a|⟨b,o,e,c,a⟩
  ·exact ah a
  ·exact ai ⟨b,o,e,c,λi y d=>oR (a i y d).2⟩
theorem dX(n:Nat):jS (λB w x=>In B w n x) (λP x=>cd P n x):=
 ⟨λ_ _ _ a k=>k.mono a,λ_ _ _ _ a k=>In.offB a k,λ_ _ _ _ _ a b k=>In.off a b k,λ_ _ _ _ a k=>k.mono a,λ_ _ _ k=>oR k⟩
theorem fD(n:Nat):jS (iA n) (lT n):=by
 obtain⟨t1,t2,t3,t4,t5⟩:=dX n
 exact⟨λc f d b k=>⟨t1 c f _ b k.1,t1 c f _ b k.2⟩,λc a w d b k=>⟨t2 c a w _ b.1 k.2.1,t2 c a w _ b.2 k.2.2.1⟩,
  λc a w h d b g k=>⟨k.1,t3 c a w h _ b g.1 k.2.1,t3 c a w h _ b g.2 k.2.2.1,k.2.2.2⟩,λa e w d b k=>⟨k.1,t4 a e w _ b k.2.1,t4 a e w _ b k.2.2.1,k.2.2.2⟩,
  λa w d k=>⟨t5 a w _ k.2.1,t5 a w _ k.2.2.1⟩⟩
theorem cq{r:Type}{s:Nat->World->r->Prop}{t:(Nat->Prop)->r->Prop}(d:jS s t)(k:Nat)(f:r->List Value)(a:Option Addr):jS (λB w l=>pY B w k f (s B w) a l) (λP l=>tD (t P) P a l):=by
 obtain⟨t1,t2,t3,t4,t5⟩:=d;refine⟨λP v n d k=>?_,λP B w n d k=>?_,λP B w D n d m k=>?_,λB u w n d k=>?_,λB w n k=>?_⟩
 ·rcases k with k|⟨b,o,g,i,k⟩
  ·exact ah k
  ·exact ai ⟨b,o,g,d b i,λc e=>t1 P v c d (k c e)⟩
 ·rcases k with k|⟨b,o,g,i,k⟩
  ·exact ah k
  ·rcases d with d|⟨x,A,j,p,d⟩
   ·exact ah d
   ·rw[g]at j;simp at j;obtain⟨rfl,rfl⟩:=j;refine ai ⟨b,o,g,⟨p,i⟩,λc e=>?_⟩;obtain⟨h,q⟩:=cM e;exact t2 P B w c (d c e) (k h c q).2
 ·rcases k with k|⟨b,o,g,i,k⟩
  ·exact ah k
  ·rcases m with m|⟨x,A,j,p,m⟩
   ·exact ah m
   ·rw[g]at j;simp at j;obtain⟨rfl,rfl⟩:=j;exact ai ⟨b,o,g,i,λh c e=>⟨λz C y=>(bt (d b p) _).trans ((k h c e).1 z C y),t3 P B w D c d (m c (aH e)) (k h c e).2⟩⟩
 ·rcases k with k|⟨b,o,g,i,k⟩
  ·exact ah k
  ·exact ai ⟨b,o,g,by omega,λh c e=>⟨(k h c e).1,t4 B u w c d (k h c e).2⟩⟩
 ·rcases k with k|⟨b,o,g,i,k⟩
  ·exact ah k
  ·refine ai ⟨b,o,g,i,λc e=>?_⟩;obtain⟨h,q⟩:=cM e;exact t5 B w c (k h c q).2
theorem en(n:Nat):jS (gY n) (jR n):=by
 obtain⟨t1,t2,t3,t4,t5⟩:=dX n;have d:=λj=>cq (fD n) 11 (fZ n) j
 exact⟨λc f i b k=>⟨⟨t1 c f _ b k.1.1,t1 c f _ b k.1.2.1,t1 c f _ b k.1.2.2⟩,(d _).1 c f _ b k.2⟩,
  λc a w i b k=>⟨⟨t2 c a w _ b.1.1 k.1.1,t2 c a w _ b.1.2.1 k.1.2.1,t2 c a w _ b.1.2.2 k.1.2.2⟩,(d _).2.1 c a w _ b.2 k.2.2⟩,
  λc a w h i b g k=>⟨⟨t3 c a w h _ b g.1.1 k.1.1,t3 c a w h _ b g.1.2.1 k.1.2.1,t3 c a w h _ b g.1.2.2 k.1.2.2⟩,k.2.1,(d _).2.2.1 c a w h _ b g.2 k.2.2⟩,
  λa e w i b k=>⟨⟨t4 a e w _ b k.1.1,t4 a e w _ b k.1.2.1,t4 a e w _ b k.1.2.2⟩,k.2.1,(d _).2.2.2.1 a e w _ b k.2.2⟩,
  λa w i k=>⟨⟨t5 a w _ k.1.1,t5 a w _ k.1.2.1,t5 a w _ k.1.2.2⟩,(d _).2.2.2.2 a w _ k.2.2⟩⟩
theorem dP(n:Nat):jS (pC n) (jQ n):=by
 have c:=λh=>cq (en n) 13 (eZ n) h
 exact⟨λd g e b k=>(c _).1 d g _ b k,λd a w e b k=>(c _).2.1 d a w _ b k.2.2,λd a w j e b i k=>⟨k.1,k.2.1,(c _).2.2.1 d a w j _ b i k.2.2⟩,
  λa f w e b k=>⟨k.1,k.2.1,(c _).2.2.2.1 a f w _ b k.2.2⟩,λa w e k=>(c _).2.2.2.2 a w _ k.2.2⟩
def fR(n:Nat)(B:Nat)(w:World)(a:Option Addr)(l:List (Bh n)):Prop:=pY B w 2 (oI n) (pC n B w) a l
theorem jS.below{c:Type}{a:Nat->World->c->Prop}{e:(Nat->Prop)->c->Prop}(d:jS a e){B:Nat}{w w':World}(f:Below B w w'){x:c}(k:a B w x):a B w' x:=
 d.2.2.1 (λb=>b<B) B w w' x (λb g=>f.block b g) (d.2.2.2.2 B w x k) k
theorem jS.mono{b:Type}{a:Nat->World->b->Prop}{c:(Nat->Prop)->b->Prop}(d:jS a c){B C:Nat}(e:B<=C){w:World}{x:b}(k:a B w x):a C w x:=d.2.2.2.1 B C w x e k
theorem fR.below{n B:Nat}{w w':World}{a:Option Addr}{l:List (Bh n)}(b:Below B w w')(k:fR n B w a l):fR n B w' a l:=(cq (dP n) 2 (oI n) a).below b k
theorem fR.mono{n B C:Nat}(b:B<=C){w:World}{a:Option Addr}{l:List (Bh n)}(k:fR n B w a l):fR n C w a l:=(cq (dP n) 2 (oI n) a).mono b k
def fi{a:Type}(d:Nat->World->a->Prop)(e:(Nat->Prop)->a->Prop)(f:a->List Value)(k:Nat)(T:TypeId)(B base:Nat)(xs:List a)(v:Value)(w0 wr:World):Prop:=
 Below base w0 wr/\wr.ownsRow base T k v xs.length (xs.flatMap f)/\∀c∈xs,d wr.heap.size wr c/\e (λb=>(b<B\/base<=b)/\v.ownBlock≠some b) c
theorem fi.nil{a:Type}{b:Nat->World->a->Prop}{c:(Nat->Prop)->a->Prop}{f:a->List Value}{k:Nat}{T:TypeId}{B base:Nat}(w:World):fi b c f k T B base [] (ae none 0 0) w w:=
 ⟨ap _ _,eH _ _ _ _,λe d=>by cases d⟩
theorem fi.later{b:Type}{c:Nat->World->b->Prop}{d:(Nat->Prop)->b->Prop}(e:jS c d){f:b->List Value}{k:Nat}{T:TypeId}{B base:Nat}{xs:List b}{v:Value}{w0 wr w1:World}(j:fi c d f k T B base xs v w0 wr)(l:base<=wr.heap.size)(a:aj wr w1):fi c d f k T B base xs v w0 w1:=by
 obtain⟨m,n,h⟩:=j;exact⟨m.trans (a.mono l),dS n a,λi g=>⟨e.mono a.size (e.below a (h i g).1),(h i g).2⟩⟩
theorem fi.step{q:Type}{r:Nat->World->q->Prop}{s:(Nat->Prop)->q->Prop}(e:jS r s){f:q->List Value}{k:Nat}{T:TypeId}{B base:Nat}{xs:List q}{v:Value}{w0 wr w1 w2:World}(D:fi r s f k T B base xs v w0 wr)(L:B<=base)(y:base<=wr.heap.size)(j:aj wr w1)(h:q)(w:r w1.heap.size w1 h)(F:s (λb=>b<B\/wr.heap.size<=b) h){g c:Nat}(H:w2.ownsRow base T k (ae (some ⟨g,0,none⟩) (xs.length+1) c) (xs.length+1) (xs.flatMap f++f h))(m:w1.grownBy w2 v.ownBlock)(x:v.ownBlock=some g\/g=w1.heap.size):fi r s f k T B base (xs++ [h]) (ae (some ⟨g,0,none⟩) (xs.length+1) c) w0 w2:=by
 obtain⟨o,J,K⟩:=D;have u:∀b,v.ownBlock=some b->base<=b/\b<wr.heap.size:=λb d=>J.lt b d;have t:∀b,b<w1.heap.size->v.ownBlock≠some b->w2.heap[b]?=w1.heap[b]? :=λb y G=>m.block b y (λd=>G d.symm);have E:=j.size;have z:=m.size;refine⟨⟨(m.os.trans j.os).trans o.os,(m.tape.trans j.tape).trans o.tape,(m.output.trans j.output).trans o.output,by have:=o.size;omega,λb a=>?_⟩,?_,?_⟩
 ·exact(t b (by omega) (λd=>by have:=(u b d).1;omega)).trans ((j.block b (by omega)).trans (o.block b a))
 ·have C:(xs++ [h]).length=xs.length+1:=by simp
  have i:(xs++ [h]).flatMap f=xs.flatMap f++f h:=by simp
  rw[C,i];exact H
 ·intro p l;rcases dp.1 l with l|l
  ·obtain⟨A,I⟩:=K p l;have n:=e.2.1 _ _ _ _ I A;refine⟨e.mono z (e.2.2.1 _ _ w1 w2 p (λb a=>t b ?_ a.1.2) n (e.mono E (e.below j A))),e.1 _ _ p (λb a=>⟨a.1.1,?_⟩) n⟩
   ·have:=a.2;omega
   ·simp only[Value.ownBlock];intro d;injection d with d;rcases x with i|i
    ·exact a.1.2 (by rw[i,d])
    ·have:=a.2;omega
  ·simp only[eF]at l;subst l;have n:=e.2.1 _ _ _ _ F w;refine⟨e.mono z (e.2.2.1 _ _ w1 w2 p (λb a=>t b a.2 (λd=>?_)) n w),e.1 _ _ p (λb a=>⟨?_,?_⟩) n⟩
   ·have:=u b d;have:=a.1;omega
   ·have:=a.1;omega
   ·simp only[Value.ownBlock];intro d;injection d with d;rcases x with i|i
    ·have:=u g i;have:=a.1;omega
    ·have:=a.2;omega
theorem fi.lit{d:Type}{e:Nat->World->d->Prop}{g:(Nat->Prop)->d->Prop}(a:jS e g){f:d->List Value}{k:Nat}{T:TypeId}{B base:Nat}(xs:List d){w0 w1:World}{cs:Array Value}(i:cs.toList=xs.flatMap f)(r:∀x,(f x).length=k)(p:xs.length<=maxLen)(m:base<=w1.heap.size)(q:Below base w0 w1)(c:∀y∈xs,e w1.heap.size w1 y/\g (λb=>b<B\/base<=b) y):fi e g f k T B base xs (ae (some ⟨w1.heap.size,0,none⟩) xs.length xs.length) w0 (w1.alloc (.cells cs T)):=by
 have h:aj w1 (w1.alloc (.cells cs T)):=(ap _ _).alloc (ak _) _;have o:(xs.flatMap f).length=xs.length*k:=by
  clear i c p
  induction xs with
  | nil=>simp
  | cons x xs ih=>rw[bz,bk,ih,r,bf,Nat.succ_mul];omega
 have s:cs.size=xs.length*k:=by rw[<-o,<-i];simp
 refine⟨q.trans (h.mono m),⟨by rw[o],ai ⟨w1.heap.size,xs.length,cs,rfl,m,aE w1 _,ak _,p,by omega,?_⟩⟩,λy j=>⟨a.mono h.size (a.below h (c y j).1),?_⟩⟩
 ·rw[i,bu (by omega)]
 ·refine a.1 _ _ y (λb n=>⟨n.1,?_⟩) (a.2.1 _ _ _ _ (c y j).2 (c y j).1);simp only[Value.ownBlock];intro l;injection l with l;have:=n.2;omega
theorem fi.lay{m:Type}{p:Nat->World->m->Prop}{q:(Nat->Prop)->m->Prop}(y:jS p q){f:m->List Value}{k:Nat}{T:TypeId}{B base:Nat}{xs:List m}{v:Value}{w0 wr:World}(u:∀x,(f x).length=k)(h:fi p q f k T B base xs v w0 wr):∃a c,v=ae a xs.length c/\(xs.length<=c/\c<=maxLen)/\pY wr.heap.size wr k f (p wr.heap.size wr) a xs/\tD (q (λb=>b<B\/base<=b)) (λb=>b<B\/base<=b) a xs:=by
 obtain⟨M,H,w⟩:=h;rcases H.2 with⟨r,J⟩|⟨s,cap,I,r,E,t,C,F,L,D⟩
 ·have G:xs=[]:=bF (by omega);subst G;exact⟨none,0,r,⟨ak _,aI _⟩,ah rfl,ah rfl⟩
 ·refine⟨some ⟨s,0,none⟩,cap,r,⟨C,F⟩,ai ⟨s,0,rfl,(aF.1 t).1,λd e o=>⟨λg j n=>?_,(w e (aH o)).1⟩⟩,ai ⟨s,0,rfl,ai E,λe o=>y.1 _ _ e (λb A=>A.1) (w e o).2⟩⟩;have z:∀(l:List m)(d g:Nat)(e:m)(j:Value),l[d]?=some e->(f e)[g]?=some j->(l.flatMap f)[d*k+g]?=some j:=by
   intro l
   induction l with
   | nil=>intro d g e j h;simp at h
   | cons x l ih=>
    intro d g e j h n;rw[bz];cases d with
    | zero=>
     simp at h;subst h;rw[dm (by have:=(aO.1 n).1;omega)];simpa using n
    | succ d=>
     rw[eC (by rw[u,Nat.succ_mul];omega),u,Nat.succ_mul,show d*k+k+g-k=d*k+g by omega];exact ih d g e j (by simpa using h) n
  have i:=z xs d g e j o n;have K:=(aO.1 i).1;rw[<-D]at i;rw[jh]at i;split at i
  ·rw[dc];simp only[World.cell?,t];rw[mK]at i;simpa using i
  ·cases i
def Jb(i:Option (List An))(f:List An->Option (List An))(w:World)(e:Ending)(w':World):Prop:=
 ∃h len c d,e=.returned (.tuple #[ae h len c,.bool d])/\Hid (aj w w'/\(i=none->d=false)/\∀b,i=some b->∃g:List (Tm (mZ b)),aC (λk m=>ay (mZ b) k (mZ b) m) g (CC b)=true/\(f (nO (mZ b) g)=none->d=false)/\
  ∀a,f (nO (mZ b) g)=some a->d=true/\len=4/\a.length=4/\∃j l,w.heap.size<=j.heap.size/\gJ (mZ a) (CC a) j w' h c l)
theorem DW(g h j k v x s0 s1 t0 t1:Int)(i m y q t2:ByteArray)(pa n z sa K t:Option Addr)(pl pc p o B A sl sc M L cl u:Nat)(R:Option (List An))(f:List An->Option (List An))(w:World)(X:Hid (∀E W,aj w E->gJ 1 (List.replicate 4 fk) E W (some ⟨E.heap.size,0,none⟩) 4 (List.replicate 4 fk)->am 150 #[.agg #[ab g,ab h,af i,ae pa pl pc],.agg #[ab s0,ab s1,af q,ae sa sl sc],ae (some ⟨E.heap.size,0,none⟩) 4 4] W (yF 0 R W)))(aB:Hid (∀(b:List An)(l:List (Tm (mZ b)))(a:Option Addr)(c:Nat)(E W:World),aj w W->R=some b->b.length=4->gJ (mZ b) (CC b) E W a c l->am 150 #[.agg #[ab j,ab k,af m,ae n p o],.agg #[ab t0,ab t1,af t2,ae K M L],ae a 4 c] W (yF 0 (f (nO (mZ b) l)) W))):am 119 #[.agg #[ab g,ab h,af i,ae pa pl pc,ab j,ab k,af m,ae n p o,ae t cl u,ab v,ab x,af y,ae z B A],.agg #[ab s0,ab s1,af q,ae sa sl sc],.agg #[ab t0,ab t1,af t2,ae K M L]] w (Jb R f w):=by
 go_enter func119,ntmps119;go_wp2_with fail;have Y:Hid (∃s d e F,(s=((w.alloc (.cells #[ab g,ab h,af i,ae pa pl pc,ab j,ab k,af m,ae n p o,ae t cl u,ab v,ab x,af y,ae z B A] 171)).alloc (.cells #[ab s0,ab s1,af q,ae sa sl sc] 28)).alloc (.cells #[ab t0,ab t1,af t2,ae K M L] 28)/\d=w.heap.size/\e=w.heap.size+1/\F=w.heap.size+2)/\aj w s/\∀W,aj s W->(W.cell? ⟨d,0,none⟩=some (ab g)/\W.cell? ⟨d,1,none⟩=some (ab h)/\W.cell? ⟨d,2,none⟩=some (af i)/\W.cell? ⟨d,3,none⟩=some (ae pa pl pc))/\(W.cell? ⟨d,4,none⟩=some (ab j)/\W.cell? ⟨d,5,none⟩=some (ab k)/\W.cell? ⟨d,6,none⟩=some (af m)/\W.cell? ⟨d,7,none⟩=some (ae n p o))/\(W.cell? ⟨e,0,none⟩=some (ab s0)/\W.cell? ⟨e,1,none⟩=some (ab s1)/\W.cell? ⟨e,2,none⟩=some (af q)/\W.cell? ⟨e,3,none⟩=some (ae sa sl sc))/\(W.cell? ⟨F,0,none⟩=some (ab t0)/\W.cell? ⟨F,1,none⟩=some (ab t1)/\W.cell? ⟨F,2,none⟩=some (af t2)/\W.cell? ⟨F,3,none⟩=some (ae K M L))):=by
  have aR:(w.alloc (.cells #[ab g,ab h,af i,ae pa pl pc,ab j,ab k,af m,ae n p o,ae t cl u,ab v,ab x,af y,ae z B A] 171)).heap.size=w.heap.size+1:=by simp
  have aS:((w.alloc (.cells #[ab g,ab h,af i,ae pa pl pc,ab j,ab k,af m,ae n p o,ae t cl u,ab v,ab x,af y,ae z B A] 171)).alloc (.cells #[ab s0,ab s1,af q,ae sa sl sc] 28)).heap.size=w.heap.size+2:=by simp
  refine⟨_,_,_,_,⟨rfl,rfl,rfl,rfl⟩,(((ap _ _).alloc (ak _) _).alloc (by simp) _).alloc (by simp;omega) _,λW G=>?_⟩;have r:=(G.block w.heap.size (by simp;omega)).trans ((((ap _ _).alloc (ak _) _).block w.heap.size (by simp;omega)).trans ((((ap _ _).alloc (ak _) _).block w.heap.size (by simp)).trans (aE w (.cells #[ab g,ab h,af i,ae pa pl pc,ab j,ab k,af m,ae n p o,ae t cl u,ab v,ab x,af y,ae z B A] 171))));have ao:=aE (w.alloc (.cells #[ab g,ab h,af i,ae pa pl pc,ab j,ab k,af m,ae n p o,ae t cl u,ab v,ab x,af y,ae z B A] 171)) (.cells #[ab s0,ab s1,af q,ae sa sl sc] 28);rw[aR]at ao;have P:=(G.block (w.heap.size+1) (by simp)).trans ((((ap _ _).alloc (ak _) _).block (w.heap.size+1) (by simp)).trans ao);have ar:=aE ((w.alloc (.cells #[ab g,ab h,af i,ae pa pl pc,ab j,ab k,af m,ae n p o,ae t cl u,ab v,ab x,af y,ae z B A] 171)).alloc (.cells #[ab s0,ab s1,af q,ae sa sl sc] 28)) (.cells #[ab t0,ab t1,af t2,ae K M L] 28);rw[aS]at ar;have Q:=(G.block (w.heap.size+2) (by simp)).trans ar;exact⟨⟨ag r 0,ag r 1,ag r 2,ag r 3⟩,⟨ag r 4,ag r 5,ag r 6,ag r 7⟩,⟨ag P 0,ag P 1,ag P 2,ag P 3⟩,ag Q 0,ag Q 1,ag Q 2,ag Q 3⟩
 obtain⟨s,d,e,F,⟨al,ad,ah,ai⟩,C,D⟩:=Y.out;rw[<-al,<-ai,<-ah,<-ad];replace C:=aq C;replace D:=aq D;clear al ad ah ai Y;obtain⟨⟨av,aw,ax,ay⟩,_,⟨y0,y1,y2,aA⟩,_⟩:=D.out s (ap _ _);have I:Hid (aj s s.drew):=(ap _ _).drew;have O:Hid (∀W,aj s W->(W.cell? ⟨d,0,none⟩=some (ab g)/\W.cell? ⟨d,1,none⟩=some (ab h)/\W.cell? ⟨d,2,none⟩=some (af i)/\W.cell? ⟨d,3,none⟩=some (ae pa pl pc))/\(W.cell? ⟨e,0,none⟩=some (ab s0)/\W.cell? ⟨e,1,none⟩=some (ab s1)/\W.cell? ⟨e,2,none⟩=some (af q)/\W.cell? ⟨e,3,none⟩=some (ae sa sl sc))):=λW G=>⟨(D W G).1,(D W G).2.2.1⟩
 go_region_held3 (λW=>(W.cell? ⟨d,0,none⟩=some (ab g)/\W.cell? ⟨d,1,none⟩=some (ab h)/\W.cell? ⟨d,2,none⟩=some (af i)/\W.cell? ⟨d,3,none⟩=some (ae pa pl pc))/\(W.cell? ⟨e,0,none⟩=some (ab s0)/\W.cell? ⟨e,1,none⟩=some (ab s1)/\W.cell? ⟨e,2,none⟩=some (af q)/\W.cell? ⟨e,3,none⟩=some (ae sa sl sc)))
  (first|(go_keep;done)|exact O _ I|exact O _ S|exact O _ N) ((first
   | (go_at_call 151;refine(BJ _).mono ?_;rintro Z a6 ⟨rfl,U⟩;have N:=aq (I.trans (U.1.mono I.size)))
   | (go_at_call 150;refine(X _ _ (C.trans (I.mono C.size)) U).mono ?_;rintro Z au ⟨aF,aY,aI,a1,rfl,J⟩;have S:=aq (N.trans (J.1.mono N.size)))))
 have H:=aq (C.trans (S.mono C.size));clear av aw ax ay y0 y1 y2 aA O U N I X;cases R with
 | none=>
  obtain⟨rfl,rfl⟩:aY=0/\a1=false:=J.out.2.1 (by simp);clear J;go_wp2_with fail
  go_ret2
  exact⟨none,0,0,false,rfl,H,λ_=>rfl,λb aL=>by cases aL⟩
 | some b=>
  obtain⟨aQ,aO,aa,a3,an,aT,V⟩:=J.out.2.2 b trivial rfl;subst aQ aO;have aD:=aq (aB b an aF aI a3 au H rfl aa V);have aC:=aq V.2.2.2.2.1;obtain⟨_,⟨av,aw,ax,ay⟩,_,y0,y1,y2,aA⟩:=D au S;clear V J aa aT;go_wp2_with fail;refine aD.mono ?_;rintro Z a7 ⟨aG,aZ,aJ,a2,rfl,T⟩;go_wp2_with fail
  go_ret2
  refine⟨aG,aZ,aJ,a2,rfl,H.trans (T.1.mono H.size),(λaK=>by cases aK),λa5 aM=>?_⟩;cases aM;refine⟨an,aC,λaP=>(T.2.1 (by simp[aP])).2,λaH aN=>?_⟩;obtain⟨aU,aV,aW,a4,a0,aX,kc⟩:=T.2.2 aH trivial aN;exact⟨aU,aV,aW,a4,a0,az H.size aX,kc⟩
theorem Mp{n:Nat}{p l:List (Tm n)}{w w':World}{a:Option Addr}{c:Nat}(i:gJ n p w w' a c l):fC w'.heap.size w' n l a:=by
 obtain⟨_,_,_,_,_,k⟩:=i;rcases k with d|⟨b,o,d,_,j,e⟩
 ·exact ah d
 ·exact ai ⟨b,o,d,j,λg h f=>⟨(e g h f).1,(e g h f).2.1⟩⟩
theorem rC{y:An}(a:CU y):aD y:=aL.2 (bC.1 a.1).1
theorem CX:∀y∈nO 1 (List.replicate 4 fk),CU y:=by
 intro y a;simp only[nO,cC,List.mem_replicate]at a;obtain⟨b,⟨_,rfl⟩,rfl⟩:=a;exact⟨yS,ah rfl⟩
theorem eg{n:Nat}{x:Tm n}(a:bv n x=0):(ax n x).length<=2097152:=az (l7 a) (by omega)
theorem Ho(n m k:Nat)(c:Cl (n+1))(s:Tm (m+1))(t:Tm (k+1))(B:Nat)(w:World)(C:gY (n+1) B w c)(K:In B w (m+1) s)(L:In B w (k+1) t)(a:B<=w.heap.size)(u:bv (n+1) c.1.1=0)(v:bv (n+1) c.1.2.1=0)(p:bv (m+1) s=0)(x:jZ (m+1) s=true)(y:bv (k+1) t=0)(H:jZ (k+1) t=true):am 119 #[.agg (eZ (n+1) c).toArray,df (m+1) s,df (k+1) t] w (Jb (gZ (n+1) c.1.1 (m+1) s (nO 1 (List.replicate 4 fk))) (gZ (n+1) c.1.2.1 (k+1) t) w):=by
 refine DW c.1.1.1.1 c.1.1.1.2.1 c.1.2.1.1.1 c.1.2.1.1.2.1 c.1.2.2.1.1 c.1.2.2.1.2.1 s.1.1 s.1.2.1 t.1.1 t.1.2.1 c.1.1.1.2.2 c.1.2.1.1.2.2 c.1.2.2.1.2.2 s.1.2.2 t.1.2.2 c.1.1.2.1.1 c.1.2.1.2.1.1 c.1.2.2.2.1.1 s.2.1.1 t.2.1.1 c.2.1.1
  c.1.1.2.2.length c.1.1.2.1.2 c.1.2.1.2.2.length c.1.2.1.2.1.2 c.1.2.2.2.2.length c.1.2.2.2.1.2 s.2.2.length s.2.1.2 t.2.2.length t.2.1.2 c.2.2.length c.2.1.2 _ _ w ?_ ?_
 ·intro r d z i;have h:=z.trans (i.1.mono z.size)
  have e:=xG (n+1) (m+1) 1 c.1.1 s (List.replicate 4 fk) (some ⟨r.heap.size,0,none⟩) 4 d.heap.size d ((C.1.1.below (h.mono a)).mono (az a h.size)) ((K.below (h.mono a)).mono (az a h.size)) (Mp i) (ak _) (eg u) (eg p) (λj f=>by
   rw[(List.mem_replicate.1 f).2]
   exact eg yS) (by simp)
  have o:tI (bv (n+1) c.1.1) (bv (m+1) s) (jZ (m+1) s) (ge 1 (List.replicate 4 fk))=0:=by
   rw[u,p,x,Jr];rfl
  rw[o]at e;exact e
 ·intro b l E F r d g J G i;have q:=kU CU ou (n+1) c.1.1 (m+1) s ⟨p,ai (by rw[fw];exact x)⟩ (nO 1 (List.replicate 4 fk)) b ⟨by simp[nO],CX⟩ J;obtain⟨I,D,M,N⟩:=Fb i (λj f=>rC (q.2 j f)) G;have A:=yq q.2 D q.1 M;have e:=xG (n+1) (k+1) (mZ b) c.1.2.1 t l E F d.heap.size d ((C.1.2.1.below (g.mono a)).mono (az a g.size)) ((L.below (g.mono a)).mono (az a g.size)) I (ak _) (eg v) (eg y) (λj f=>eg ((hU A).2 j f).1) (by omega);have o:tI (bv (n+1) c.1.2.1) (bv (k+1) t) (jZ (k+1) t) (ge (mZ b) l)=0:=by
   rw[v,y,H,A];rfl
  rw[o,D]at e;exact e
def xf(N:Nat)(o:Option (Tm (N+1)))(w:World)(e:Ending)(w':World):Prop:=
 ∃a:Tm (N+1),e=.returned (.tuple #[.agg #[ab a.1.1,ab a.1.2.1,af a.1.2.2,ae a.2.1.1 a.2.2.length a.2.1.2],.bool o.isSome])/\Hid (aj w w'/\In w'.heap.size w' (N+1) a/\cd (λb=>w.heap.size<=b) (N+1) a/\ay (N+1) a (N+1) (o.getD (wC N))=true)
theorem KZ{N:Nat}{E:Int}{o:Option (Tm N)}:(FD E (nQ E o)==0)=(nQ E o).isSome:=by
 unfold FD;by_cases a:E=0
 ·rw[if_pos a];cases (nQ E o).isSome<;>simp
 ·rw[if_neg a];have:nQ E o=none:=by unfold nQ;rw[if_neg a]
  rw[this];simp[a]
theorem CD{N:Nat}(y:Tm (N+1)):df (N+1) y=.agg #[ab y.1.1,ab y.1.2.1,af y.1.2.2,ae y.2.1.1 y.2.2.length y.2.1.2]:=rfl
theorem LR{w w':World}{t:TypeId}{v0 v1 v2 v3:Value}(b:Below (w.alloc (.cells #[v0,v1,v2,v3] t)).drew.heap.size (w.alloc (.cells #[v0,v1,v2,v3] t)).drew w'):w'.cell? ⟨w.heap.size,0,none⟩=some v0/\w'.cell? ⟨w.heap.size,1,none⟩=some v1/\w'.cell? ⟨w.heap.size,2,none⟩=some v2/\w'.cell? ⟨w.heap.size,3,none⟩=some v3/\w'.frozen? ⟨w.heap.size,0,none⟩=false/\w'.frozen? ⟨w.heap.size,1,none⟩=false/\w'.frozen? ⟨w.heap.size,2,none⟩=false/\w'.frozen? ⟨w.heap.size,3,none⟩=false:=by
 have a:=(b.block w.heap.size (by simp[World.drew])).trans (aE w (.cells #[v0,v1,v2,v3] t));exact⟨ag a 0,ag a 1,ag a 2,ag a 3,by simp[World.frozen?,a],by simp[World.frozen?,a],by simp[World.frozen?,a],by simp[World.frozen?,a]⟩
theorem Ot{w w':World}{t:TypeId}{v0 v1 v2 v3:Value}(a:Below (w.alloc (.cells #[v0,v1,v2,v3] t)).drew.heap.size (w.alloc (.cells #[v0,v1,v2,v3] t)).drew w'):w'.heap[w.heap.size]?=some (.cells #[v0,v1,v2,v3] t):=
 (a.block w.heap.size (by simp[World.drew])).trans (aE w (.cells #[v0,v1,v2,v3] t))
theorem xU{w:World}{g:Nat}{t:TypeId}{b c d e:Value}(a:w.heap[g]?=some (.cells #[b,c,d,e] t))(v0 v1 v2 v3:Value):(cW w g 0 v0 v1 v2 v3).heap[g]?=some (.cells #[v0,v1,v2,v3] t):=by
 simp[cW,World.setCell,bN,a]
def xe(N:Nat)(y:Tm (N+1))(w0:World)(q p:Nat)(w2 b:World):Prop:=
 aj w0 b/\b.heap[p]?=some (.cells #[ab y.1.1,ab y.1.2.1,af y.1.2.2,ae y.2.1.1 y.2.2.length y.2.1.2] 28)/\p≠q/\(∀a,a<w2.heap.size->a≠p->b.heap[a]?=w2.heap[a]?)/\cd (λa=>w0.heap.size<=a/\a<w2.heap.size/\a≠p) (N+1) y
theorem xe.cells{N:Nat}{y:Tm (N+1)}{w0 w2 a:World}{q p:Nat}(c:xe N y w0 q p w2 a)(d:q<w0.heap.size){t:TypeId}{v0 v1 v2 v3:Value}(e:w0.heap[q]?=some (.cells #[v0,v1,v2,v3] t)):(a.cell? ⟨p,0,none⟩=some (ab y.1.1)/\a.cell? ⟨p,1,none⟩=some (ab y.1.2.1)/\a.cell? ⟨p,2,none⟩=some (af y.1.2.2)/\a.cell? ⟨p,3,none⟩=some (ae y.2.1.1 y.2.2.length y.2.1.2))/\ (a.cell? ⟨q,0,none⟩=some v0/\a.cell? ⟨q,1,none⟩=some v1/\a.cell? ⟨q,2,none⟩=some v2/\a.cell? ⟨q,3,none⟩=some v3)/\a.frozen? ⟨q,0,none⟩=false/\a.frozen? ⟨q,1,none⟩=false/\a.frozen? ⟨q,2,none⟩=false/\a.frozen? ⟨q,3,none⟩=false/\p≠q:=by
 have b:=(c.1.block q d).trans e;exact⟨⟨ag c.2.1 0,ag c.2.1 1,ag c.2.1 2,ag c.2.1 3⟩,⟨ag b 0,ag b 1,ag b 2,ag b 3⟩,by simp[World.frozen?,b],by simp[World.frozen?,b],by simp[World.frozen?,b],by simp[World.frozen?,b],c.2.2.1⟩
theorem xe.close{N:Nat}{y:Tm (N+1)}{E:Int}{o:Option (Tm (N+1))}{w w0 w2 d:World}{q p:Nat}(f:xe N y w0 q p w2 d)(b:aj w w0)(k:w.heap.size<=q)(t:q<w0.heap.size)(j:In w2.heap.size w2 (N+1) y)(l:ay (N+1) y (N+1) ((nQ E o).getD (wC N))=true){v0 v1 v2 v3:Value}(m:w2.heap.size<=d.heap.size):xf N (nQ E o) w (.returned (.tuple #[.agg #[ab y.1.1,ab y.1.2.1,af y.1.2.2,ae y.2.1.1 y.2.2.length y.2.1.2],.bool (FD E (nQ E o)==0)])) (cW d q 0 v0 v1 v2 v3):=by
 obtain⟨g,n,r,h,e⟩:=f;have i:=b.trans (g.mono b.size);have s:=b.size;refine⟨y,by rw[KZ],cX i k _ _ _ _,?_,e.mono λa c=>by omega,l⟩;rw[bq];exact(In.off (P:=λa=>w0.heap.size<=a/\a<w2.heap.size/\a≠p) (λa c=>(aW (by omega) _ _ _ _).trans (h a c.2.1 c.2.2)) e j).mono m
theorem zj(N:Nat)(E:Int)(o:Option (Tm (N+1)))(r s:Int)(t:ByteArray)(xa:Option Addr)(u xc:Nat)(a:Option Addr)(c:Nat)(self:Int)(f:Nat)(w:World)(ad:f<w.heap.size)(d0:w.cell? ⟨f,0,none⟩=some (ae a 4 c))(d1:w.cell? ⟨f,1,none⟩=some (ab self))(J:Hid (∀W,aj w W->am 153 #[.agg #[ab r,ab s,af t,ae xa u xc],ae a 4 c,ab self] W (AC N E o W))):am 121 #[aB f,.agg #[ab r,ab s,af t,ae xa u xc]] w (xf N (nQ E o) w):=by
 have S:Hid (∃d g y,(d=(w.alloc (.cells #[ab r,ab s,af t,ae xa u xc] 28)).alloc (.cells #[ab 0,ab 0,af ⟨#[]⟩,ae none 0 0] 28)/\g=w.heap.size/\y=w.heap.size+1)/\(g<d.heap.size/\f<d.heap.size/\y<d.heap.size/\w.heap.size<=y)/\aj w d/\d.heap[y]?=some (.cells #[ab 0,ab 0,af ⟨#[]⟩,ae none 0 0] 28)/\∀W,aj d W->(W.cell? ⟨g,0,none⟩=some (ab r)/\W.cell? ⟨g,1,none⟩=some (ab s)/\W.cell? ⟨g,2,none⟩=some (af t)/\W.cell? ⟨g,3,none⟩=some (ae xa u xc))/\W.cell? ⟨f,0,none⟩=some (ae a 4 c)/\W.cell? ⟨f,1,none⟩=some (ab self)):=by
  have aa:aj w ((w.alloc (.cells #[ab r,ab s,af t,ae xa u xc] 28)).alloc (.cells #[ab 0,ab 0,af ⟨#[]⟩,ae none 0 0] 28)):=((ap _ _).alloc (ak _) _).alloc (by simp) _;have an:=aE (w.alloc (.cells #[ab r,ab s,af t,ae xa u xc] 28)) (.cells #[ab 0,ab 0,af ⟨#[]⟩,ae none 0 0] 28);rw[iy]at an;refine⟨_,_,_,⟨rfl,rfl,rfl⟩,⟨by simp;omega,by simp;omega,by simp,by omega⟩,aa,an,λW Y=>?_⟩;have K:=(Y.block w.heap.size (by simp;omega)).trans ((((ap _ _).alloc (ak _) _).block w.heap.size (by simp)).trans (aE w (.cells #[ab r,ab s,af t,ae xa u xc] 28)));have Z:aj w W:=aa.trans (Y.mono (by simp;omega));exact⟨⟨ag K 0,ag K 1,ag K 2,ag K 3⟩,(Z.cell (p:=⟨f,0,none⟩) ad).trans d0,(Z.cell (p:=⟨f,1,none⟩) ad).trans d1⟩
 go_enter func121,ntmps121;go_wp2_with fail;obtain⟨d,g,y,⟨al,ah,ai⟩,i,n,I,h⟩:=S.out;rw[<-al,<-ai,<-ah];replace i:=aq i;replace n:=aq n;replace I:=aq I;replace h:=aq h;clear al ah ai S d0 d1;obtain⟨⟨T,U,V,X⟩,d0,d1⟩:=h.out d (ap _ _);have x:Hid (aj d d.drew):=(ap _ _).drew;have z:Hid (∀o:Obj,aj d (d.alloc o).drew):=λo=>((ap _ _).alloc (ak _) o).drew;have M:Hid (∀o:Obj,aj w (d.alloc o).drew):=λo=>n.trans ((z o).mono n.size);have O:=aq (n.trans (x.mono n.size))
 go_region_held3 (λW=>(W.cell? ⟨g,0,none⟩=some (ab r)/\W.cell? ⟨g,1,none⟩=some (ab s)/\W.cell? ⟨g,2,none⟩=some (af t)/\W.cell? ⟨g,3,none⟩=some (ae xa u xc))/\W.cell? ⟨f,0,none⟩=some (ae a 4 c)/\W.cell? ⟨f,1,none⟩=some (ab self))
  (first|(go_keep;done)|exact h _ x|exact h _ (z _)|exact h _ (j.alloc j.size _)|exact h _ ((((j.setCell (ak _) _).setCell (ak _) _).setCell (ak _) _).setCell (ak _) _)|exact h _ j) ((first
   | (go_at_call 153;refine(J _ O).mono ?_;rintro ay q ⟨b,rfl,e⟩;rw[CD];have j:=aq (x.trans (e.1.mono x.size)))
   | (go_at_call 153;refine(J _ (M _)).mono ?_;rintro ay q ⟨b,rfl,e⟩;rw[CD];have j:=aq ((z _).trans (e.1.mono (z _).size));have ao:=aq (Ot e.1);obtain⟨D,F,G,H,f0,f1,f2,f3⟩:=LR e.1)))
 ·have B:Hid (∃m p,(m=q.alloc (.cells #[ab b.1.1,ab b.1.2.1,af b.1.2.2,ae b.2.1.1 b.2.2.length b.2.1.2] 28)/\p=q.heap.size)/\xe N b d y p q m):=by
    refine⟨_,_,⟨rfl,rfl⟩,j.alloc j.size _,aE _ _,?_,λL A _=>((ap _ _).alloc (ak _) _).block L A,?_⟩
    ·have:=i.2.2.1;have:=j.size;omega
    ·exact(In.offB e.2.2.1 e.2.1).mono λL A=>by have:=x.size;omega
  obtain⟨m,p,⟨l,C⟩,k⟩:=B.out;rw[<-l,<-C];replace k:=aq k;have P:=aq e.2.1;have Q:=aq e.2.2.2;have R:Hid (q.heap.size<=m.heap.size):=by
   rw[l];simp[Hid]
  clear l C B e J h z M O x T U V X d0 d1;obtain⟨⟨ar,au,aw,ax⟩,⟨D,F,G,H⟩,f0,f1,f2,f3,az⟩:=k.out.cells i.2.2.1 I;go_wp2_with fail;exact av (v:=.tuple #[.agg #[ab b.1.1,ab b.1.2.1,af b.1.2.2,ae b.2.1.1 b.2.2.length b.2.1.2],.bool (FD E (nQ E o)==0)]) (by simp[results,results121,go_sem,D,F,G,H]) rfl (k.close n i.2.2.2 i.2.2.1 P Q R)
 ·have B:Hid (∃m p,(m=cW q d.heap.size 0 (ab b.1.1) (ab b.1.2.1) (af b.1.2.2) (ae b.2.1.1 b.2.2.length b.2.1.2)/\p=d.heap.size)/\xe N b d y p q m):=by
    refine⟨_,_,⟨rfl,rfl⟩,((((j.setCell (ak _) _).setCell (ak _) _).setCell (ak _) _).setCell (ak _) _),?_,?_,λL _ A=>aW A _ _ _ _,?_⟩
    ·exact xU ao _ _ _ _
    ·have:=i.2.2.1;omega
    ·exact(In.offB e.2.2.1 e.2.1).mono λL A=>by
       have:=A.1;simp[World.drew]at this;omega
  obtain⟨m,p,⟨l,C⟩,k⟩:=B.out;replace k:=aq k;have P:=aq e.2.1;have Q:=aq e.2.2.2;have R:Hid (q.heap.size<=m.heap.size):=by
   rw[l,bq];exact ak _
  unfold cW at l;simp only[dc]at l;rw[<-l,<-C];clear l C B e J h z M O x T U V X d0 d1 D F G H f0 f1 f2 f3;obtain⟨⟨ar,au,aw,ax⟩,⟨D,F,G,H⟩,f0,f1,f2,f3,az⟩:=k.out.cells i.2.2.1 I;go_wp2_with fail;exact av (v:=.tuple #[.agg #[ab b.1.1,ab b.1.2.1,af b.1.2.2,ae b.2.1.1 b.2.2.length b.2.1.2],.bool (FD E (nQ E o)==0)]) (by simp[results,results121,go_sem,D,F,G,H]) rfl (k.close n i.2.2.2 i.2.2.1 P Q R)
def Fp{N:Nat}:Option (Tm (N+1))->Bool
 | some a=>a.1.1==3
 | none=>false
theorem A6(N:Nat)(o:Option (Tm (N+1)))(a d:Int)(f:ByteArray)(xa:Option Addr)(g xc:Nat)(q:Nat)(w:World)(p:Hid (∀W,aj w W->am 121 #[aB q,.agg #[ab a,ab d,af f,ae xa g xc]] W (xf N o W))):am 192 #[aB q,.agg #[ab a,ab d,af f,ae xa g xc]] w λe w'=>∃r,e=.returned (.tuple #[ab r,.bool (Fp o)])/\Hid (aj w w'/\∀b,o=some b->r=b.1.2.1):=by
 have h:Hid (∀o:Obj,aj w (w.alloc o)):=λo=>(ap _ _).alloc (ak _) o;have s:(w.alloc (.cells #[ab a,ab d,af f,ae xa g xc] 28)).cell? ⟨w.heap.size,0,none⟩=some (ab a):=ag (aE w _) 0;go_enter func192,ntmps192;go_wp2_with fail;refine(p _ (h _)).mono ?_;rintro e v ⟨x,rfl,i⟩;have l:=aq ((h (.cells #[ab a,ab d,af f,ae xa g xc] 28)).trans (i.1.mono (h _).size));have n:=aq i.2.2.2;have m:Hid (∀k:Obj,aj w (v.alloc k).drew):=λk=>(l.alloc l.size k).drew;clear i p s;cases o with
 | none=>
  simp only[mV];go_wp2_with fail;go_region
  all_goals
   go_wp2_with fail
   go_ret2
   exact⟨_,rfl,m _,λb j=>by cases j⟩
 | some b=>
  simp only[mW];have c:=n.out;simp only[Option.getD_some,ay,aA,cm]at c;have t:Hid (Fp (some b)=(x.1.1==3)):=by
   show _=_;rw[c.1.1.1];rfl
  have u:=aq c.1.1.2;clear c n;go_wp2_with fail;go_region
  all_goals
   go_wp2_with fail
   go_ret2
   rw[t.out];exact⟨_,rfl,m _,λy j=>by cases j;exact u⟩
end Go.Proofs.YtmmahddlcldmiaaGreatDoor
