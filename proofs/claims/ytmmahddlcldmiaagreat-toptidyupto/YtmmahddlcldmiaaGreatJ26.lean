/- Proved here: plain facts and contracts. No condition but what each names. -/
import Derived.Test.YtmmahddlcldmiaaGreatJ25
namespace Go.Proofs.YtmmahddlcldmiaaGreat
open Go.RowKit Go.Proofs.Tryz
set_option maxRecDepth 100000
set_option maxHeartbeats 4000000
theorem L8{m:Nat}{x:Tm m}(a:bz m x=0)(room:Int)(s:Tc)(ms:List Tc):nt m x room s ms=nt 13 (cn m x) room s ms:=by
 have b:=ei a;unfold nt;rw[bQ b,cF _ _ _ _ b,ES a]
theorem BQ{d:Type}(k:Int)(v:d):(l:List (Int×d))->(l.map (·.1)).Nodup->(l.find? λp=>p.1==k).map (·.2)=some v->(l.map λp=>if p.1=k then (k,v)else p)=l
 | [],_,_=>rfl
 | a::l,hn,h=>by
  rw[aN,mU]at hn;rw[jG]at h;rw[aN];by_cases b:a.1=k
  ·have c:(a.1==k)=true:=by simpa using b
   rw[c]at h;have f:a.2=v:=by simpa using h
   rw[if_pos b];congr 1
   ·rw[<-f,<-b]
   ·refine(jl λi g=>?_).trans (List.map_id l);rw[if_neg λe=>hn.1 (b9.2 ⟨i,g,e.trans b.symm⟩)];rfl
  ·have c:(a.1==k)=false:=by simpa using b
   rw[c]at h;rw[if_neg b,BQ k v l hn.2 h]
theorem rM{s:Sy}{k:Int}{v:ByteArray×Tc×List Tc}(b:(s.ps.map (·.1)).Nodup)(a:s.get k=some v):s.put k v=s:=by
 unfold Sy.put;rw[BQ k v s.ps b a]
section
variable {p:jY} {s:Sy} {d:fT} {w:World}
theorem bj.deliver(h:bj p s d w){a b:Int}(W:dx b){nm:ByteArray}{cs:Tc}{r:List Tc}(j:s.get b=some (nm,cs,r)){m:Nat}(x:Tm (m+1))(K:In w.heap.size w (m+1) x/\ch (λq=>¬1<=d.ow q) (m+1) x)(B:bz (m+1) x=0)(Z:d.k<=47000)(Y:d.es.length<=98000):ak 52 #[aC p.b,ab a,ab b,dq (m+1) x] w λe w'=>e=.returned (.tuple #[])/\Hid (∃z,bj p (s.deliver p.room a b (cn (m+1) x)) z w'/\fI 100 201 d z w w'):=by
 obtain⟨v,H⟩:∃v,cU d.l b=some v:=by
  have:=h.alive b;rw[j]at this;cases e:cU d.l b with
  | none=>rw[e]at this;cases this
  | some v=>exact⟨v,rfl⟩
 obtain⟨X,P,O,G,S,T⟩:=h.ps b v H;rw[j]at G;obtain⟨rfl,rfl,rfl⟩:nm=X/\cs=P/\r=O:=by
  injection G with G;injection G with I A;injection A with A R;exact⟨I,A,R⟩
 have M:=(h.key H).1;obtain⟨y,C⟩:∃y,y=nt 13 (cn (m+1) x) p.room cs r:=⟨_,rfl⟩;have aa:bz 13 (cn (m+1) x)=0:=(bQ (ei B)).trans B;refine Hs p.b v d.po a b x.1.1 x.1.2.1 x.1.2.2 x.2.1.1 x.2.2.length x.2.1.2 y w (λg=>∃d1,bj p (if y=0 then s.put b (nm,cs,r++ [cn (m+1) x])else s.put b (nm,cs,r)) d1 g/\fI 0 201 d d1 w g/\In g.heap.size g (m+1) x) (λg=>∃z,bj p (s.deliver p.room a b (cn (m+1) x)) z g/\fI 100 201 d z w g) h.lo.2 h.cells.2.2.2 (λg f=>?_) (λg f=>?_) (λe g f=>?_) (λe g f=>?_) λI A g f=>?_
 ·have:=(h.later f).look b false;rw[H]at this;exact this
 ·have V:=S.later f;have N:=(K.1.below f).mono f.size;refine(V.deliver x N (K.2.mono λq t F=>t (by rw[show d.ow q=b from F];exact M)) (fi B) (by omega) (by omega) (az h.lo.1 f.size)).mono ?_;rintro e w' ⟨rfl,u⟩;rw[L8 B,<-C]at u ⊢;obtain⟨c,n⟩:=u.out;have J:bt (λq=>d.ow q=b) g w':=⟨c.os,c.tape,c.output,c.size,c.block⟩;have U:(if y=0 then r++ [cn (m+1) x]else r).length<=20:=by
   split
   ·rename_i i;rw[C]at i;unfold nt at i;split at i
    ·cases i
    ·simp;omega
   ·exact T
  obtain⟨o,E⟩:=(h.later f).turnP H j J (λq t=>t.1) (show d.k<=d.k+201 by omega) n U;refine⟨rfl,⟨_,?_,(((dS.later d f).un.trans E).mono (am _) (by omega)),?_⟩,λq ad F=>J.block q F λt=>?_⟩
  ·split
   ·rename_i i;rw[if_pos i]at o;exact o
   ·rename_i i;rw[if_neg i]at o;exact o
  ·exact(eS J (D:=λq=>¬1<=d.ow q) (λq t F=>t (by rw[F];exact M)) ⟨N,K.2⟩).1
  ·have:=(h.low q (by rw[t];omega)).2;omega
 ·obtain⟨d1,c,n,L⟩:=f;rw[if_neg (by rw[e];decide),rM h.keys.2.1 j]at c;refine(c.tell oc a b x.1.1 x.1.2.1 x.1.2.2 x.2.1.1 x.2.2.length x.2.1.2 (cn (m+1) x) (ku L B) (by have:=n.2.2.2.1;omega)).mono ?_;rintro Q w' ⟨rfl,u⟩;obtain⟨d2,o,E⟩:=u.out.up c;refine⟨rfl,d2,?_,(n.trans E.un).mono (by omega) (by omega)⟩;unfold Sy.deliver;rw[j];simp only;rw[<-C,if_pos e];exact o
 ·obtain⟨d1,c,n,L⟩:=f;rw[if_neg (by rw[e];decide),rM h.keys.2.1 j]at c;refine(c.fin (how:=3) W (by have:=n.2.2.2.1;omega)).mono ?_;rintro Q w' ⟨rfl,u⟩;obtain⟨d2,o,E⟩:=u;refine⟨rfl,d2,?_,(n.trans E.un).mono (by omega) (by omega)⟩;unfold Sy.deliver;rw[j];simp only;rw[<-C,if_neg (by rw[e];decide),if_pos e];exact o
 ·obtain⟨d1,c,n,L⟩:=f;refine⟨d1,?_,n.mono (by omega) (am _)⟩;unfold Sy.deliver;rw[j];simp only;rw[<-C,if_neg I,if_neg A];by_cases i:y=0
  ·rw[if_pos i]at c ⊢;exact c
  ·rw[if_neg i]at c ⊢;rw[rM h.keys.2.1 j]at c;exact c
end
theorem En(a:Nat)(w:World)(P:Value->World->Prop)(c:Hid (ak 32 #[.pointer (some ⟨a,4,none⟩)] w λe w'=>∃v,e=.returned v/\Hid (P v w'))):ak 14 #[aC a] w λe w'=>∃v,e=.returned v/\Hid (P v w'):=by
 go_enter func14,ntmps14;go_wp2_with fail;refine c.mono ?_;rintro e d ⟨v,rfl,b⟩;go_wp2_with fail
 go_ret
 exact⟨v,rfl,b⟩
theorem bj.ways{p:jY}{s:Sy}{d:fT}{w:World}(a:bj p s d w)(m:d.wn<=1000000):ak 14 #[aC p.b] w λe w'=>∃v,e=.returned v/\Hid ((∃l,l.Pairwise Bq/\(∀k,k∈l ↔ I2 k/\s.ways k≠[])/\yC v l w'/\l.length<=1000000)/\aj w w'):=by
 refine En p.b w _ ((Lh a.wy.1 m).mono ?_);rintro e w' ⟨v,l,rfl,c⟩;obtain⟨⟨f,g⟩,h,i,j⟩:=c;refine⟨v,rfl,⟨l,f,λk=>(g k).trans (and_congr_right λ_=>not_congr ?_),h,j⟩,i⟩;rw[<-a.wy.2.2.1 k,List.map_eq_nil_iff]
theorem Be(x:Nat)(a i j:Int)(k:ByteArray)(xa:Option Addr)(l xc:Nat)(g cl:Bool)(b:Int)(w:World)(R:Int->World->Prop)(z:Hid (∀W,aj w W->ak 51 #[aC x,ab a] W λe w'=>e=.returned (.bool g)/\w'=W))(G:Hid (∀W,aj w W->ak 53 #[.agg #[ab i,ab j,af k,ae xa l xc]] W λe w'=>e=.returned (ab b)/\aj W w'))(E:Hid (∀W,aj w W->ak 54 #[.agg #[ab i,ab j,af k,ae xa l xc]] W λe w'=>e=.returned (.bool cl)/\aj W w'))(F:Hid (g=true->b=0->cl=true->∀W,aj w W->ak 52 #[aC x,ab 0,ab a,.agg #[ab i,ab j,af k,ae xa l xc]] W λe w'=>e=.returned (.tuple #[])/\Hid (R 0 w')))(r:Hid (∀W,aj w W->(g=false->R 4 W)/\(g=true->b≠0->R b W)/\(g=true->b=0->cl=false->R 5 W))):ak 26 #[aC x,ab a,.agg #[ab i,ab j,af k,ae xa l xc]] w λe w'=>∃v,e=.returned (ab v)/\Hid (R v w'):=by
 go_enter func26,ntmps26;go_upto_region 1 with fail;generalize A:w.alloc _=y;have d:Hid (aj w y/\y.heap[w.heap.size]?=some (.cells #[ab i,ab j,af k,ae xa l xc] 31)):=by
  rw[<-A];exact⟨(ao _ _).alloc (am _) _,aA _ _⟩
 clear A;go_wp2_with fail;refine(z _ d.1).mono ?_;rintro e K ⟨rfl,B⟩;obtain rfl:=B.symm;clear B z;cases g
 ·have h:=ap ((r y d.1).1 rfl);go_wp2_with fail
  go_ret
  exact⟨4,rfl,h⟩
 have c:=d.2;obtain⟨m,n,o,p⟩:=PS c;clear c;go_wp2_with fail;refine(G _ d.1).mono ?_;rintro e I ⟨rfl,s⟩;have f:=ap (⟨d.1.trans (s.mono d.1.size),ge s d.2⟩:_/\_);clear m n o p s;by_cases u:b=0;rotate_left
 ·have h:=ap ((r I f.1).2.1 (by simp) u);have J:(b !=0)=true:=by simpa using u
  go_wp2_with fail
  go_ret
  exact⟨b,rfl,h⟩
 subst u;have c:=f.2;obtain⟨m,n,o,p⟩:=PS c;clear c;go_wp2_with fail;refine(E _ f.1).mono ?_;rintro e C ⟨rfl,t⟩;have q:=ap (⟨f.1.trans (t.mono f.1.size),ge t f.2⟩:_/\_);clear m n o p t;cases cl
 ·have h:=ap ((r C q.1).2.2 (by simp) (by simp) (by simp));go_wp2_with fail
  go_ret
  exact⟨5,rfl,h⟩
 have c:=q.2;obtain⟨m,n,o,p⟩:=PS c;have H:=ap (F (by simp) (by simp) (by simp) C q.1);clear c;go_wp2_with fail;refine H.mono ?_;rintro e L ⟨rfl,D⟩;go_wp2_with fail
 go_ret
 exact⟨0,rfl,D⟩
section
variable {p:jY} {s:Sy} {d:fT} {w:World}
theorem bj.inject(j:bj p s d w){a:Int}(y:dx a){m:Nat}(x:Tm (m+1))(l:In w.heap.size w (m+1) x/\ch (λq=>¬1<=d.ow q) (m+1) x)(u:(ay (m+1) x).length<=2097152)(A:d.k<=47000)(t:d.es.length<=98000):ak 26 #[aC p.b,ab a,dq (m+1) x] w λe w'=>∃v,e=.returned (ab v)/\Hid (v=(s.inject p.room a (m+1) x).2/\∃g,bj p (s.inject p.room a (m+1) x).1 g w'/\fI 100 201 d g w w'):=by
 have o:∀f,aj w f->fI 100 201 d d w f:=λf c=>(dS.later d c).un.mono (aH _) (aH _);refine Be p.b a x.1.1 x.1.2.1 x.1.2.2 x.2.1.1 x.2.2.length x.2.1.2 (s.get a).isSome (aL (m+1) x) (bz (m+1) x) w (λv w'=>v=(s.inject p.room a (m+1) x).2/\∃g,bj p (s.inject p.room a (m+1) x).1 g w'/\fI 100 201 d g w w') (λf c=>(j.later c).isAlive a) (λf c=>dL (m+1) x w.heap.size f (l.1.below c) c.size u) (λf c=>iN (m+1) x w.heap.size f (l.1.below c) c.size) (λh i n f c=>?_) λf c=>⟨λe=>?_,λh i=>?_,λh i n=>?_⟩
 ·obtain⟨v,z⟩:=fu.1 h;obtain⟨F,E,D⟩:=v;refine((j.later c).deliver y z x ⟨(l.1.below c).mono c.size,l.2⟩ i A t).mono ?_;rintro e w' ⟨rfl,r⟩;obtain⟨g,B,C⟩:=r;have e:s.inject p.room a (m+1) x=(s.deliver p.room 0 a (cn (m+1) x),0):=by
   unfold Sy.inject;rw[if_neg (by rw[h];decide),if_neg (by rw[i];decide),if_neg (by rw[n];decide)]
  rw[e];exact⟨rfl,rfl,g,B,((dS.later d c).un.trans C).mono (by omega) (by omega)⟩
 ·have e:s.inject p.room a (m+1) x=(s,4):=if_pos e;rw[e];exact⟨rfl,d,j.later c,o f c⟩
 ·have e:s.inject p.room a (m+1) x=(s,bz (m+1) x):=by
    unfold Sy.inject;rw[if_neg (by rw[h];decide),if_pos i]
  rw[e];exact⟨rfl,d,j.later c,o f c⟩
 ·have e:s.inject p.room a (m+1) x=(s,5):=by
    unfold Sy.inject;rw[if_neg (by rw[h];decide),if_neg (by rw[i];decide),if_pos n]
  rw[e];exact⟨rfl,d,j.later c,o f c⟩
end
section
variable {p:jY} {s:Sy} {d:fT} {w:World}
theorem bj.takeW(h:bj p s d w){a b:Int}(X:I2 (a,b))(Z:d.wn<999999):ak 50 #[.pointer (some ⟨p.b,4,none⟩),ab a,ab b] w λe w'=> (s.ways (a,b)=[]->e=.returned (.tuple #[.agg #[ab 0,ab 0,af ⟨#[]⟩,ae none 0 0],ab 4])/\aj w w')/\ ∀t l,s.ways (a,b)=t::l->∃y:Tc,e=.returned (.tuple #[dq 13 y,ab 0])/\cn 13 y=t/\bz 13 y=0/\aL 13 y=true/\∃z,bj p {s with ways:=iI s.ways (a,b) l} z w'/\dS 1 d z w w'/\In w'.heap.size w' 13 y/\ch (λq=>¬1<=z.ow q) 13 y:=by
 have n:=h.wy.2.2.1 (a,b);refine(KU (N:=12) h.wy.1 X Z (by have:=h.wy.2.2.2.1 (a,b);omega)).mono ?_;rintro e w' ⟨B,V⟩;refine⟨λA=>B ?_,λt l A=>?_⟩
 ·rw[A]at n;simpa using n
 ·rw[A]at n;obtain⟨y,i,v,P,Q⟩:∃y i,d.f (a,b)=y::i/\cn 13 y=t/\i.map (cn 13)=l:=by
   cases I:d.f (a,b)with
   | nil=>rw[I]at n;simp at n
   | cons y i=>
    rw[I,aN]at n;injection n with ag ah;exact⟨y,i,rfl,ag,ah⟩
  obtain⟨Y,sl,L,m,M⟩:=V y i v;have u:=h.wy.2.1;have r:∀b,d.ow b≠0->d.ow b=d.ow b:=λ_ _=>rfl;have J:∀b,d.ow b≠0->p.lo<=b/\b<w'.heap.size:=λb q=>⟨(h.low b q).1,aR (h.low b q).2 m.size⟩;have x:∀{t:Int},t≠ -1->t≠ -5->∀b,d.ow b=t->¬rX (Am p s d) d.wo d.sl b:=λB W b e g=>by
   rcases u b g with g|g
   ·rw[g,h.own]at e;exact W e.symm
   ·exact B (e.symm.trans g)
  have H:w'.heap[p.b]?=some (.cells (dX p s d) 74):=by
   have:=L.2.1.2;simpa [Am,dX]using this
  have K:∀C,∀g∈d.f C,bz 13 g=0/\aL 13 g=true/\In w'.heap.size w' 13 g/\ch (λq=>d.ow q=-1/\¬rX (Am p s d) d.wo d.sl q) 13 g:=λC g o=>by
   obtain⟨D,E,F⟩:=h.wy.2.2.2.2 C g o;exact⟨D,E,eS m (λq an G=>an.2 G) F⟩
  obtain⟨y1,y2,ai,al⟩:=K (a,b) y (by rw[v];simp);obtain⟨R,S⟩:=h.evK m (x (by decide) (by decide)) r;refine⟨y,Y,P,y1,y2,{d with wn:=d.wn+1,f:=iI d.f (a,b) i,sl:=sl},⟨J,H,h.own,⟨h.pgK m (x (by decide) (by decide)) r,h.pg.2⟩,h.pmK m (λq T U g=>?_) r,h.keys,λk c q=>h.psK m (am _) (x (by have:=(h.key q).1;omega) (by have:=(h.key q).1;omega)) r J q,⟨L,λq g=>u q (M q g),λk=>?_,λk=>?_,λk g o=>?_⟩,h.bdK m (x (by decide) (by decide)) r rfl (qB H).2,R,h.evt.1,S⟩,⟨m.mono λq _ g=>?_,λ_ _=>rfl,rfl,fS _,am _,fS _⟩,ai,al.mono λq g=>by show¬1<=d.ow q;rw[g.1];decide⟩
  ·rcases u q g with g|g
   ·exact U g
   ·rw[T]at g;cases g
  ·by_cases j:k=(a,b)
   ·subst j;show (iI d.f (a,b) i (a,b)).map (cn 13)=iI s.ways (a,b) l (a,b);rw[cO,cO,Q]
   ·show (iI d.f (a,b) i k).map (cn 13)=iI s.ways (a,b) l k;rw[bS _ _ j,bS _ _ j];exact h.wy.2.2.1 k
  ·by_cases j:k=(a,b)
   ·subst j;show (iI d.f (a,b) i (a,b)).length<=20;rw[cO];have:=h.wy.2.2.2.1 (a,b);rw[v]at this;simp at this;omega
   ·show (iI d.f (a,b) i k).length<=20;rw[bS _ _ j];exact h.wy.2.2.2.1 k
  ·have o:g∈iI d.f (a,b) i k:=o;have aa:g∈d.f k:=by
    by_cases j:k=(a,b)
    ·subst j;rw[cO]at o;rw[v];exact bM _ o
    ·rwa [bS _ _ j]at o
   obtain⟨D,E,F,ad⟩:=K k g aa;exact⟨D,E,F,ad.mono λq O=>⟨O.1,λG=>O.2 (M q G)⟩⟩
  ·rcases u q g with g|g
   ·rw[g,h.own];decide
   ·rw[g];decide
end
theorem sV(d:Nat)(a b:Int)(s i:Bool)(w:World)(p:Int->Int->ByteArray->Option Addr->Nat->Nat->World->Prop)(R:Int->World->Prop)(n:Hid (ak 50 #[.pointer (some ⟨d,4,none⟩),ab a,ab b] w λe w'=>(s=true->e=.returned (.tuple #[.agg #[ab 0,ab 0,af ⟨#[]⟩,ae none 0 0],ab 4])/\Hid (∀W,aj w' W->R 4 W))/\(s=false->∃y0 y1 y2 ya yl yc,e=.returned (.tuple #[.agg #[ab y0,ab y1,af y2,ae ya yl yc],ab 0])/\Hid (p y0 y1 y2 ya yl yc w'))))(k:Hid (∀y0 y1 y2 ya yl yc W c,p y0 y1 y2 ya yl yc W->aj W c->ak 51 #[aC d,ab b] c λe w'=>e=.returned (.bool i)/\w'=c))(l:Hid (∀y0 y1 y2 ya yl yc W c,p y0 y1 y2 ya yl yc W->aj W c->(i=true->ak 52 #[aC d,ab a,ab b,.agg #[ab y0,ab y1,af y2,ae ya yl yc]] c λe w'=>e=.returned (.tuple #[])/\Hid (R 0 w'))/\(i=false->ak 46 #[aC d,af ⟨#[108,111,115,116]⟩,ab a,ab b,.agg #[ab y0,ab y1,af y2,ae ya yl yc]] c λe w'=>e=.returned (.tuple #[])/\Hid (R 0 w')))):ak 25 #[aC d,ab a,ab b] w λe w'=>∃v,e=.returned (ab v)/\Hid (R v w'):=by
 go_enter func25,ntmps25;go_wp2_with fail;refine n.mono ?_;rintro e f ⟨q,r⟩;cases s;rotate_left
 ·obtain⟨rfl,g⟩:=q rfl;clear q r n k l;go_wp2_with fail
  go_ret
  exact⟨4,rfl,g _ ((ao _ _).alloc (am _) _)⟩
 obtain⟨y0,y1,y2,ya,yl,yc,rfl,g⟩:=r rfl;clear q r n;have HB:Hid (∀o,aj f (f.alloc o)):=λo=>(ao _ _).alloc (am _) o;have x:Hid (∀o,(f.alloc o).heap[f.heap.size]?=some o):=λo=>aA f o;go_wp2_with fail;refine(k _ _ _ _ _ _ _ _ g (HB _)).mono ?_;rintro e y ⟨rfl,t⟩;obtain rfl:=t.symm;clear t;have h:=ap (l _ _ _ _ _ _ _ _ g (HB (.cells #[ab y0,ab y1,af y2,ae ya yl yc] 31)));clear k l;cases i
 ·have m:=ap (h.2 rfl);clear h;go_wp2_with fail;refine m.mono ?_;rintro e u ⟨rfl,j⟩;go_wp2_with fail
  go_ret
  exact⟨0,rfl,j⟩
 ·have m:=ap (h.1 rfl);clear h;go_wp2_with fail;refine m.mono ?_;rintro e u ⟨rfl,j⟩;go_wp2_with fail
  go_ret
  exact⟨0,rfl,j⟩
section
variable {p:jY} {s:Sy} {d:fT} {w:World}
theorem bj.arrive(y:bj p s d w){a b:Int}(z:I2 (a,b))(B:d.wn<999999)(U:d.k<=47000)(S:d.es.length<=97000):ak 25 #[aC p.b,ab a,ab b] w λe w'=>∃v,e=.returned (ab v)/\Hid (v=(s.arrive p.room a b).2/\∃c,bj p (s.arrive p.room a b).1 c w'/\fI 101 201 d c w w'):=by
 cases hw:s.ways (a,b)with
 | nil=>
  have e:s.arrive p.room a b=(s,4):=by unfold Sy.arrive;rw[hw]
  rw[e];refine sV p.b a b true false w (λ_ _ _ _ _ _ _=>False) (λv w'=>v=4/\∃c,bj p s c w'/\fI 101 201 d c w w') ((y.takeW z B).mono λe w' j=>⟨λ_=>⟨(j.1 hw).1,λi g=>?_⟩,(λm=>by cases m)⟩) (λ_ _ _ _ _ _ _ _ m=>m.elim) λ_ _ _ _ _ _ _ _ m=>m.elim;have A:=(j.1 hw).2.trans (g.mono (j.1 hw).2.size);exact⟨rfl,d,y.later A,(dS.later d A).un.mono (aH _) (aH _)⟩
 | cons t l=>
  obtain⟨h,C⟩:∃h,h={s with ways:=iI s.ways (a,b) l}:=⟨_,rfl⟩;have e:s.arrive p.room a b=(if (h.get b).isSome then h.deliver p.room a b t else h.tell oc a b t,0):=by unfold Sy.arrive;rw[hw,C]
  rw[e];refine sV p.b a b false (h.get b).isSome w (λy0 y1 y2 ya yl yc i=>∃f:Tc,(f.1=(y0,y1,y2)/\f.2.1=(ya,yc)/\f.2.2.length=yl)/\cn 13 f=t/\bz 13 f=0/\∃c,bj p h c i/\dS 1 d c w i/\In i.heap.size i 13 f/\ch (λj=>¬1<=c.ow j) 13 f) (λv w'=>v=0/\∃c,bj p (if (h.get b).isSome then h.deliver p.room a b t else h.tell oc a b t) c w'/\fI 101 201 d c w w') ((y.takeW z B).mono λe w' j=>⟨(λm=>by cases m),λ_=>?_⟩) ?_ ?_
  ·obtain⟨f,J,K,L,X,c,M,N,O,P⟩:=j.2 t l hw;exact⟨f.1.1,f.1.2.1,f.1.2.2,f.2.1.1,f.2.2.length,f.2.1.2,J,f,⟨rfl,rfl,rfl⟩,K,L,c,by rw[C];exact M,N,O,P⟩
  ·rintro y0 y1 y2 ya yl yc i F ⟨f,_,_,_,c,o,_⟩ g;exact(o.later g).isAlive b
  ·rintro y0 y1 y2 ya yl yc i F ⟨f,⟨f1,f2,f3⟩,D,kc,c,o,r,E,I⟩ g;obtain⟨⟨Y,Z,aa⟩,⟨ad,ae⟩,af⟩:=f;simp only[eh]at f1 f2;obtain⟨rfl,rfl,rfl⟩:=f1;obtain⟨rfl,rfl⟩:=f2;subst f3;have T:=r.2.2.2.1;have V:=r.2.2.1;refine⟨λq=>?_,λq=>?_⟩
   ·obtain⟨v,H⟩:=fu.1 q;obtain⟨W,R,Q⟩:=v;refine((o.later g).deliver z.2 H _ ⟨(E.below g).mono g.size,I⟩ kc (by omega) (by omega)).mono ?_;rintro G w' ⟨rfl,u⟩;obtain⟨d2,n,x⟩:=u.out;rw[D]at n;rw[if_pos q];exact⟨rfl,rfl,d2,n,((r.un.trans (dS.later c g).un).trans x).mono (by omega) (by omega)⟩
   ·refine((o.later g).tell oc a b _ _ _ _ _ _ _ (ku ((E.below g).mono g.size) kc) (by omega)).mono ?_;rintro G w' ⟨rfl,u⟩;obtain⟨d2,n,x⟩:=u.up (o.later g);rw[D]at n;rw[if_neg (by rw[q];decide)];exact⟨rfl,rfl,d2,n,((r.un.trans (dS.later c g).un).trans x.un).mono (by omega) (by omega)⟩
end
theorem MJ(a:Nat)(W:World):(binOp .eql 67 (.map (some a)) (.map none)).run Tryz.prog W=.ok (.bool false) W:=by kernel_rfl
theorem MI(W:World):(binOp .eql 67 (.map none) (.map none)).run Tryz.prog W=.ok (.bool true) W:=by kernel_rfl
theorem Ho(b o d:Nat)(n:Option Nat)(a F c:Int)(w w1 w2:World)(y:Int->Int->ByteArray->Option Addr->Nat->Nat->World->Prop)(k R:World->Prop)(N:IntKind.i64.wrap (F+1)=c)(O:b<w.heap.size)(C:Hid (w.cell? ⟨b,3,none⟩=some (.map n)/\w.frozen? ⟨b,3,none⟩=false))(L:(n=none/\d=w.heap.size/\w1=(w.setCell ⟨b,3,none⟩ (.map (some d))).alloc (.map #[] 0))\/(n=some d/\w1=w))(p:Hid (w1.cell? ⟨b,2,none⟩=some (ab F)/\w1.frozen? ⟨b,2,none⟩=false))(z:w2=w1.setCell ⟨b,2,none⟩ (ab c))(j:Hid (∀W,aj w2 W->W.cell? ⟨b,2,none⟩=some (ab c)/\W.cell? ⟨b,3,none⟩=some (.map (some d))))(u:Hid (∀W,aj w2 W->∃f,(Instr.mapUpdate 67 (.map (some d)) (ab c) (Al o)).run Tryz.prog W=.ok () f/\(f.cell? ⟨b,2,none⟩=some (ab c)/\f.cell? ⟨b,3,none⟩=some (.map (some d)))/\Hid (k f)))(s:Hid (∀W g,k W->aj W g->g.cell? ⟨b,2,none⟩=some (ab c)))(H:Hid (∀W g,k W->aj W g->ak 34 #[aC o] g λe w'=>∃y0 y1 y2 ya yl yc,e=.returned (.agg #[ab y0,ab y1,af y2,ae ya yl yc])/\Hid (aj g w'/\y y0 y1 y2 ya yl yc w')))(I:Hid (∀y0 y1 y2 ya yl yc W,y y0 y1 y2 ya yl yc W->ak 46 #[aC b,af ⟨#[115,112,97,119,110]⟩,ab a,ab c,.agg #[ab y0,ab y1,af y2,ae ya yl yc]] W λe w'=>e=.returned (.tuple #[])/\Hid (R w'/\w'.cell? ⟨b,2,none⟩=some (ab c)))):ak 43 #[aC b,ab a,aC o] w λe w'=>e=.returned (.tuple #[])/\Hid (R w'):=by
 obtain⟨K,f3⟩:=C.out;have M:= @run_makeMap Tryz.prog;have m:Hid (aj w2 w2.drew):=(ao _ _).drew;have h:Hid (∀W:World,aj W W.drew):=λW=>(ao _ _).drew;go_enter func43,ntmps43;rcases L with⟨rfl,B,i⟩|⟨rfl,i⟩
 case' inl=>
  have D:=MI;go_upto_region 2 with fail;rw[<-B,<-i];clear B
 case' inr=>
  have D:=MJ d;go_upto_region 2 with fail;rw[<-i]
 all_goals
  clear K f3 i C D M;obtain⟨J,f2⟩:=p.out;go_upto_region 3 with fail;rw[<-z];clear z J f2 p;obtain⟨d2,d3⟩:=j.out _ m;obtain⟨f,E,A,l⟩:=u.out _ m;unfold Al at E;have t:=ap A;have r:=ap (j _ m);clear u j;go_region_held3 (λW=>W.cell? ⟨b,2,none⟩=some (ab c)/\W.cell? ⟨b,3,none⟩=some (.map (some d))) (first|exact r|exact t) (fail);clear E r A d2 d3;have d2:=t.1;go_upto_region 4 with fail
  go_region_held3 (λW=>W.cell? ⟨b,2,none⟩=some (ab c)) (first|exact s _ _ l (h _)|exact s _ _ l G|exact q.2) ((first
   | (go_at_call 34;refine(H _ _ l (h _)).mono ?_;rintro e P ⟨y0,y1,y2,ya,yl,yc,rfl,x⟩;have G:=ap ((h f).trans (x.1.mono (h f).size)))
   | (go_at_call 46;refine(I _ _ _ _ _ _ _ x.2).mono ?_;rintro e Q ⟨rfl,q⟩)))
  go_wp2_with fail;exact dh (v:=.tuple #[]) (by simp[results]) rfl ⟨rfl,q.1⟩
section
variable {p:jY} {s:Sy} {d:fT} {w:World}
def NT(M:Nat->Prop)(a:Nat)(d b:fT)(w w':World):Prop:=bt (λq=>d.ow q<0) w w'/\(∀q,q<w.heap.size->¬M q->b.ow q=d.ow q)/\(∀q,M q->1<=b.ow q)/\b.k=d.k/\b.es.length<=d.es.length+a/\b.wn<=d.wn+a/\b.bn<=d.bn+a
theorem oO{b:Type}(l:List (Int×b))(k j:Int)(v:b)(c:∀q∈l,q.1≠k):((l++ [(k,v)]).find? λq=>q.1==j)=if j=k then some (k,v)else l.find? λq=>q.1==j:=by
 rw[List.find?_append];by_cases a:j=k
 ·subst a;rw[if_pos rfl,pr.2 λq d=>by simpa using c q d];simp
 ·rw[if_neg a];have:(k==j)=false:=by simpa using λe:k=j=>a e.symm
  simp[this]
def Oj(d:fT)(M:Nat->Prop)[DecidablePred M](a:Nat)(k:Int)(q:Nat):Int:=if M q then k else if q=a then -5 else d.ow q
theorem bj.addG(e:bj p s d w){m c:Nat}{nm:ByteArray}{cs:Tc}{M:Nat->Prop}[DecidablePred M](B:P1 p.lo m nm p.room cs [] (d.k+201) M w)(A:∀q,M q->d.ow q=0)(aa:s.ps.length<12/\s.last<90){w':World}(f:bt (λq=>d.ow q=-5) w w')(P:d.ow c≠0->d.ow c=-5)(N:¬M c)(O:p.lo<=c/\c<w'.heap.size)(Q:c≠p.b)(o:w'.heap[p.b]?=some (.cells (dX p {s with last:=s.last+1} {d with po:=some c}) 74))(L:IM w' c (d.l++ [(s.last+1,m)])):bj p {s with last:=s.last+1,ps:=s.ps++ [(s.last+1,nm,cs,[])]} {d with ow:=Oj d M c (s.last+1),po:=some c,l:=d.l++ [(s.last+1,m)]} w':=by
 obtain⟨y,J,z,X,Y,Z⟩:=e.keys;have i:∀b,d.ow b≠0->Oj d M c (s.last+1) b=d.ow b:=λb h=>by
  unfold Oj;rw[if_neg λa=>h (A b a)];by_cases g:b=c
  ·subst g;rw[if_pos rfl,P h]
  ·rw[if_neg g]
 have r:∀b,Oj d M c (s.last+1) b≠0->p.lo<=b/\b<w'.heap.size:=λb h=>by
  unfold Oj at h;split at h
  ·rename_i a;have:=P1.lie2 B b a;exact⟨this.1,aR this.2 f.size⟩
  ·split at h
   ·rename_i a;subst a;exact O
   ·exact⟨(e.low b h).1,aR (e.low b h).2 f.size⟩
 have t:∀{t:Int},t≠ -5->∀b,d.ow b=t->¬d.ow b=-5:=λT b g a=>T (g.symm.trans a);have n:∀q∈s.ps,q.1≠s.last+1:=λq j=>by have:=(z q j).2;omega
 have R:∀q∈d.l,q.1≠s.last+1:=λq j=>by
  have K:q.1∈s.ps.map (·.1):=by rw[<-y];exact b9.2 ⟨q,j,rfl⟩
  obtain⟨v,u,g⟩:=b9.1 K;rw[<-g];exact n v u
 obtain⟨y1,y2,W⟩:=e.wyK f (t (by decide)) i (q:=Am p {s with last:=s.last+1} {d with po:=some c}) rfl (qB o).1;obtain⟨H,I⟩:=e.evK f (t (by decide)) i;refine⟨r,o,(i p.b (by rw[e.own];decide)).trans e.own,⟨e.pgK f (t (by decide)) i,e.pg.2⟩,ai ⟨c,rfl,(if_neg N).trans (if_pos rfl),Q,L⟩,⟨by simp[y],?_,λq j=>?_,by show 0<=s.last+1;omega,by show s.last+1<=90;omega,by simp;omega⟩,λk b q=>?_,⟨y1,y2,e.wy.2.2.1,e.wy.2.2.2.1,W⟩,e.bdK f (t (by decide)) i rfl (qB o).2,H,e.evt.1,I⟩
 ·simp only[iy,aN,b8];refine ft.2 ⟨J,by simp,λab U ad V=>?_⟩;obtain⟨v,u,rfl⟩:=b9.1 U;rw[dN.1 V];exact n v u
 ·show 1<=q.1/\q.1<=s.last+1;rcases dl.1 j with a|a
  ·have:=z q a;omega
  ·rw[dN.1 a];show 1<=s.last+1/\s.last+1<=s.last+1;omega
 ·have q:cU (d.l++ [(s.last+1,m)]) k=some b:=q;unfold cU at q;rw[oO _ _ _ _ R]at q;by_cases g:k=s.last+1
  ·subst g;rw[if_pos rfl]at q;obtain rfl:m=b:=by simpa using q
   refine⟨nm,cs,[],?_,(B.kept (S:=λq=>d.ow q=-5) ⟨f.os,f.tape,f.output,f.size,f.block⟩ λb a=>by rw[A b a];decide).mono (λb a=>if_pos a) (am _) λb a=>r b (by have a:Oj d M c (s.last+1) b=s.last+1:=a;rw[a];omega),aH _⟩;unfold Sy.get;simp only;rw[oO _ _ _ _ n,if_pos rfl];rfl
  ·rw[if_neg g]at q;have C:cU d.l k=some b:=q;have:=(e.key C).1;obtain⟨D,E,F,x,G⟩:=e.psK f (am _) (t (by omega)) i r C;refine⟨D,E,F,?_,G⟩;unfold Sy.get at x ⊢;simp only;rw[oO _ _ _ _ n,if_neg g];exact x
open Classical in
theorem bj.add(n:bj p s d w)(a:Int){y:Nat}{nm:ByteArray}{cs:Tc}{M:Nat->Prop}(H:P1 p.lo y nm p.room cs [] (d.k+201) M w)(V:∀q,M q->d.ow q=0)(aS:s.ps.length<12/\s.last<90)(aa:d.k<=47000)(a9:d.es.length<=99000):ak 43 #[aC p.b,ab a,aC y] w λe w'=>e=.returned (.tuple #[])/\Hid (∃B,bj p (s.add a nm cs) B w'/\NT M 1 d B w w'):=by
 obtain⟨aQ,aj⟩:=n.lo;have L:=n.box;obtain⟨a4,a5,a6,ax⟩:=n.cells;obtain⟨_,_,aD,a7,a8,_⟩:=n.keys;have Z:∀{h:World}{cs:Array Value}{o:Nat},h.heap[p.b]?=some (.cells cs 74)->h.frozen? ⟨p.b,o,none⟩=false:=λe=>by simp[World.frozen?,e]
 obtain⟨c,m,aT,I,aE,aM,N,aH,O,af⟩:∃c m,((d.po=none/\c=w.heap.size/\m=(w.setCell ⟨p.b,3,none⟩ (.map (some c))).alloc (.map #[] 0))\/(d.po=some c/\m=w))/\m.heap[p.b]?=some (.cells (dX p s {d with po:=some c}) 74)/\IM m c d.l/\bt (λq=>d.ow q=-5) w m/\(c<w.heap.size->d.ow c=-5)/\¬M c/\c≠p.b/\p.lo<=c/\c<m.heap.size:=by
  rcases n.pm with⟨z,t⟩|⟨c,z,t,G,aB⟩
  ·have aJ:(w.setCell ⟨p.b,3,none⟩ (.map (some w.heap.size))).heap[p.b]?=some (.cells (dX p s {d with po:=some w.heap.size}) 74):=by
     simp[World.setCell,bJ,L,dX]
   have Q:(w.setCell ⟨p.b,3,none⟩ (.map (some w.heap.size))).heap.size=w.heap.size:=by simp[World.setCell]
   have aa:bt (λq=>d.ow q=-5) w ((w.setCell ⟨p.b,3,none⟩ (.map (some w.heap.size))).alloc (.map #[] 0)):=((bC w p.b 3 _).mono λq _ e=>by rw[e];exact n.own).trans (aK ((ao _ _).alloc (am _) _) λ_=>False) λ_ _ e=>e.elim;refine⟨w.heap.size,_,ah ⟨z,rfl,rfl⟩,(heap_alloc_old _ _ (by rw[Q];exact aj)).trans aJ,?_,aa,λg=>by omega,λg=>?_,by omega,aQ,?_⟩
   ·rw[t];have:=ww.new (f:=Al) (w.setCell ⟨p.b,3,none⟩ (.map (some w.heap.size)));rw[Q]at this;exact this
   ·have:=(P1.lie2 H _ g).2;omega
   ·have:=aA (w.setCell ⟨p.b,3,none⟩ (.map (some w.heap.size))) (.map #[] 0);rw[Q]at this;exact(aF.1 this).1
  ·refine⟨c,w,ai ⟨z,rfl⟩,?_,aB,bt.refl _ _,λ_=>t,λg=>?_,G,n.low c (by rw[t];decide)⟩
   ·rw[L];unfold dX;rw[z]
   ·have:=V c g;rw[t]at this;cases this
 obtain⟨x,E⟩:∃x,x=m.setCell ⟨p.b,2,none⟩ (ab (s.last+1)):=⟨_,rfl⟩;have J:x.heap[p.b]?=some (.cells (dX p {s with last:=s.last+1} {d with po:=some c}) 74):=by
  rw[E];simp[World.setCell,bJ,I,dX]
 have bc:x.heap.size=m.heap.size:=by rw[E];simp[World.setCell]
 have ad:bt (λq=>q=p.b) m x:=by rw[E];exact bC m p.b 2 _
 have aN:bt (λq=>d.ow q=-5) w x:=aM.trans ad λq _ e=>by rw[e];exact n.own
 have aG:IM x c d.l:=aE.kept (ad.block c af.2 O);obtain⟨A,D⟩:∃A:Sy,A={s with last:=s.last+1,ps:=s.ps++ [(s.last+1,nm,cs,[])]}:=⟨_,rfl⟩;obtain⟨d3,u⟩:∃d3:fT,d3={d with ow:=Oj d M c (s.last+1),po:=some c,l:=d.l++ [(s.last+1,y)]}:=⟨_,rfl⟩;have P:cU d.l (s.last+1)=none:=by
  cases e:cU d.l (s.last+1)with
  | none=>rfl
  | some b=>have:=(n.key e).2;omega
 have aL:cU d3.l (s.last+1)=some y:=by
  rw[u];show cU (d.l++ [(s.last+1,y)]) (s.last+1)=_;unfold cU at P ⊢;rw[List.find?_append,Option.map_eq_none_iff.1 P];simp
 have aP:A.last=s.last+1:=by rw[D]
 refine Ho p.b y c d.po a s.last (s.last+1) w m x (λy0 y1 y2 ya yl yc h=>∃i:Tc,(i.1=(y0,y1,y2)/\i.2.1=(ya,yc)/\i.2.2.length=yl)/\In h.heap.size h 13 i/\bz 13 i=0/\cn 13 i=cs/\bj p A d3 h/\bt (λq=>d.ow q=-5) w h) (λh=>bj p A d3 h/\bt (λq=>d.ow q=-5) w h) (λw'=>∃B,bj p (s.add a nm cs) B w'/\NT M 1 d B w w') (by rw[IntKind.wrap];simp[IntKind.bits,IntKind.signed];omega) aj ⟨ax,Z L⟩ aT ⟨ag I 2,Z I⟩ E (λh j=>?_) (λh j=>?_) (λh aw C j=>?_) (λh aw C j=>?_) (λy0 y1 y2 ya yl yc h aI=>?_)
 ·have X:=ge j J;exact⟨ag X 2,ag X 3⟩
 ·obtain⟨S,aY,aZ,ap,be⟩:=(ww.put (aG.kept (j.block c (by omega))) underlying67 P y);have K:S.heap[p.b]?=_:=(ap.block p.b (aR (aF.1 J).1 j.size) O.symm).trans (ge j J);have ae:bt (λq=>d.ow q=-5) w S:=by
   have aO:bt (λq=>d.ow q=-5) w h:=aN.trans (aK j λ_=>False) λ_ _ e=>e.elim;exact aO.trans ap λq r e=>by rw[e]at r ⊢;exact N r
  refine⟨S,aY,⟨ag K 2,ag K 3⟩,?_,ae⟩;rw[D,u];exact n.addG H V aS ae (λg=>N (n.low _ g).2) aH ⟨af.1,by have:=j.size;omega⟩ O K aZ
 ·have:=(C.1.later j).cells.2.2.1;rw[aP]at this;exact this
 ·have W:=C.1.later j;obtain⟨aX,az,ay,v,R,bd⟩:=W.ps _ _ aL;have e:A.get (s.last+1)=some (nm,cs,[]):=by
   rw[D];unfold Sy.get;simp only;rw[oO _ _ _ _ λq r=>by have:=(aD q r).2;omega,if_pos rfl];rfl
  rw[e]at v;obtain⟨rfl,rfl,rfl⟩:nm=aX/\cs=az/\[]=ay:=by
   injection v with v;injection v with z t;injection t with t G;exact⟨z,t,G⟩
  have bb:d3.k=d.k:=by rw[u]
  refine(R.state (by omega)).mono ?_;rintro e w' ⟨i,rfl,F⟩;obtain⟨y1,y2,bf,a2,a3⟩:=F.out;exact⟨i.1.1,i.1.2.1,i.1.2.2,i.2.1.1,i.2.2.length,i.2.1.2,rfl,y1,i,⟨rfl,rfl,rfl⟩,y2,a2,a3,W.later y1,(C.2.trans (aK j λ_=>False) λ_ _ e=>e.elim).trans (aK y1 λ_=>False) λ_ _ e=>e.elim⟩
 ·obtain⟨i,⟨f1,f2,f3⟩,aU,aV,aW,al,an⟩:=aI;obtain⟨⟨bg,bh,bi⟩,⟨bk,bl⟩,bm⟩:=i;simp only[eh]at f1 f2;obtain⟨rfl,rfl,rfl⟩:=f1;obtain⟨rfl,rfl⟩:=f2;subst f3;have Y:d3.es=d.es:=by rw[u]
  refine(al.tell EZ a (s.last+1) _ _ _ _ _ _ _ (ku aU aV) (by rw[Y];omega)).mono ?_;rintro e w' ⟨rfl,F⟩;obtain⟨d4,v,R⟩:=F.up al;rw[aW,D]at v;refine⟨rfl,⟨d4,v,?_⟩,?_⟩
  ·obtain⟨a0,aq,a1,ar,au,av⟩:=R;have T:∀q,q<w.heap.size->¬M q->d3.ow q=d.ow q:=λq r g=>by
    rw[u];refine(if_neg g).trans ?_;by_cases e:q=c
    ·rw[if_pos e,e];exact(N (e▸r)).symm
    ·exact if_neg e
   have U:∀q,M q->d3.ow q=s.last+1:=λq g=>by
    rw[u];exact if_pos g
   have ba:=an.size;refine⟨(an.mono λq _ e=>by rw[e];decide).trans a0 λq r e=>?_,λq r g=>(aq q (by omega)).trans (T q r g),λq g=>?_,by rw[a1,u],by rw[Y]at ar;exact ar,by rw[u]at au;exact au,by rw[u]at av;exact av⟩
   ·by_cases g:M q
    ·rw[U q g]at e;omega
    ·rw[T q r g]at e;exact e
   ·have:=(P1.lie2 H q g).2;rw[aq q (by omega),U q g];omega
  ·have:=v.cells.2.2.1;exact this
end
theorem Ek(c:Nat)(nm:ByteArray)(f g:Int)(h:ByteArray)(xa:Option Addr)(i xc:Nat)(room ne t:Int)(may o:Bool)(w:World)(D:Nat->World->Prop)(R:Int->Int->World->Prop)(ai:c<w.heap.size)(T:Hid (w.cell? ⟨c,1,none⟩=some (ab room)))(K:Hid (∀W,aj w W->ak 40 #[aC c,ab 1] W λe w'=>e=.returned (.bool may)/\w'=W))(A:Hid (∀W,aj w W->ak 41 #[aC c,af nm] W λe w'=>e=.returned (.bool o)/\aj W w'))(r:Hid (∀W,aj w W->ak 42 #[af nm,.agg #[ab f,ab g,af h,ae xa i xc],ab room] W λe w'=>∃p:Option Addr,e=.returned (.tuple #[.pointer p,ab ne])/\Hid (aj W w'/\(ne=0->∃b,p=some ⟨b,0,none⟩/\D b w'))))(l:Hid (∀b W,(may && o)=true->ne=0->D b W->ak 43 #[aC c,ab 0,aC b] W λe w'=>e=.returned (.tuple #[])/\Hid (R t 0 w'/\w'.cell? ⟨c,2,none⟩=some (ab t))))(j:Hid (∀W,aj w W->(may=false->R 0 2 W)/\((may && !o)=true->R 0 4 W)/\((may && o)=true->ne≠0->R 0 ne W))):ak 20 #[aC c,af nm,.agg #[ab f,ab g,af h,ae xa i xc]] w λe w'=>∃v u,e=.returned (.tuple #[ab v,ab u])/\Hid (R v u w'):=by
 go_enter func20,ntmps20;go_upto_region 1 with fail;generalize P:w.alloc _=H;have x:Hid (aj w H/\H.heap[w.heap.size]?=some (.cells #[ab f,ab g,af h,ae xa i xc] 31)):=by
  rw[<-P];exact⟨(ao _ _).alloc (am _) _,aA _ _⟩
 clear P;obtain⟨a,F⟩:∃a,a=w.heap.size:=⟨_,rfl⟩;rw[<-F];have L:Hid (H.heap[a]?=some (.cells #[ab f,ab g,af h,ae xa i xc] 31)):=by rw[F];exact x.2
 have HB:=ap x.1;clear F x;go_wp2_with fail;refine(K _ HB).mono ?_;rintro e ar ⟨rfl,Q⟩;obtain rfl:=Q.symm;clear Q K;cases may
 ·have d:=ap ((j _ HB).1 rfl);clear l j r A;go_wp2_with fail;exact av (v:=.tuple #[ab 0,ab 2]) (by simp[results,results20,go_sem]) rfl ⟨0,2,rfl,d⟩
 go_wp2_with fail;refine(A _ HB).mono ?_;rintro e I ⟨rfl,E⟩;have m:=ap (HB.trans (E.mono HB.size));have B:=ap (ge E L);clear A L HB E;cases o
 ·have d:=ap ((j _ m).2.1 rfl);clear l j r;go_wp2_with fail;exact av (v:=.tuple #[ab 0,ab 4]) (by simp[results,results20,go_sem]) rfl ⟨0,4,rfl,d⟩
 have z:Hid (aj I I.drew):=(ao _ _).drew;have n:=ap (m.trans (z.mono m.size));have C:=ap (ge z B);have q:Hid (∀W:World,aj w W->W.heap[a]?=some (.cells #[ab f,ab g,af h,ae xa i xc] 31)->W.cell? ⟨c,1,none⟩=some (ab room)/\W.cell? ⟨a,0,none⟩=some (ab f)/\W.cell? ⟨a,1,none⟩=some (ab g)/\W.cell? ⟨a,2,none⟩=some (af h)/\W.cell? ⟨a,3,none⟩=some (ae xa i xc)):=λW ah s=>⟨(ah.cell (p:=⟨c,1,none⟩) ai).trans T,ag s 0,ag s 1,ag s 2,ag s 3⟩;obtain⟨Z,V,X,O,Y⟩:=q.out I m B;go_upto_region 5 with fail
 go_region_held3 (λW=>W.cell? ⟨c,1,none⟩=some (ab room)/\W.cell? ⟨a,0,none⟩=some (ab f)/\W.cell? ⟨a,1,none⟩=some (ab g)/\W.cell? ⟨a,2,none⟩=some (af h)/\W.cell? ⟨a,3,none⟩=some (ae xa i xc))
  (first|exact q _ n C|exact q _ y M) ((first
   | (go_at_call 42;refine(r _ n).mono ?_;rintro e an ⟨al,rfl,k⟩;have M:=ap (ge k.1 C);have y:=ap (n.trans (k.1.mono n.size)))))
 have d:=ap (j _ y);clear Z V X O Y q C n z B m j r M y;by_cases G:ne=0
 ·subst G;obtain⟨b,rfl,N⟩:∃b,al=some ⟨b,0,none⟩/\Hid (D b an):=by
   obtain⟨b,aa,ad⟩:=k.out.2 rfl;exact⟨b,aa,ad⟩
  have S:=ap (l _ _ rfl rfl N);clear l N k d;go_wp2_with fail;refine S.mono ?_;rintro e au ⟨rfl,J⟩;have O:=J.2;go_wp2_with fail;exact av (v:=.tuple #[ab t,ab 0]) (by simp[results,results20,go_sem]) rfl ⟨t,0,rfl,J.1⟩
 ·have U:=ap (d.2.2 rfl G);have aq:(ne==0)=false:=by simpa using G
  clear l k d;go_wp2_with fail;exact av (v:=.tuple #[ab 0,ab ne]) (by simp[results,results20,go_sem]) rfl ⟨0,ne,rfl,U⟩
section
variable {p:jY} {s:Sy} {d:fT} {w:World}
theorem J9{n:Nat}(a:s.may n=true):s.ps.length+n<=12/\s.last+n<=90:=by
 unfold Sy.may at a;simp only[aG,cd]at a;omega
theorem bj.start(j:bj p s d w)(nm:ByteArray)(O:nm.size<=9223372036854775807){m:Nat}(x:Tm (m+1))(P:In w.heap.size w (m+1) x)(K:(ay (m+1) x).length<=2097152)(M:d.k<=47000)(J:d.es.length<=99000):ak 20 #[aC p.b,af nm,dq (m+1) x] w λe w'=>∃v u,e=.returned (.tuple #[ab v,ab u])/\Hid ((u=(s.start p.n p.prog p.room nm (m+1) x).2/\(u=0->v=s.last+1))/\∃i,bj p (s.start p.n p.prog p.room nm (m+1) x).1 i w'/\fI 1 0 d i w w'):=by
 obtain⟨q,f⟩:∃q,q=s.start p.n p.prog p.room nm (m+1) x:=⟨_,rfl⟩;rw[<-f];unfold Sy.start at f;have B:∀a,aj w a->q.1=s->∃i,bj p q.1 i a/\fI 1 0 d i w a:=λa c e=>⟨d,by rw[e];exact j.later c,(dS.later d c).un.mono (aH _) (am _)⟩;refine Ek p.b nm x.1.1 x.1.2.1 x.1.2.2 x.2.1.1 x.2.2.length x.2.1.2 p.room (fY (m+1) x p.room nm) (s.last+1) (s.may 1) (lj p.n p.prog nm) w (λy a=>∃t,aj w t/\aj t a/\P1 p.lo y nm p.room (cn (m+1) x) [] (d.k+201) (λb=>t.heap.size<=b/\b<a.heap.size) a) (λv u w'=>(u=q.2/\(u=0->v=s.last+1))/\∃i,bj p q.1 i w'/\fI 1 0 d i w w') j.lo.2 j.cells.2.1 (λa c=>(j.later c).mayHave 1 (by decide)) (λa c=>(j.later c).knows nm) (λa c=>?_) (λy a l r L=>?_) λa c=>⟨λe=>?_,λe=>?_,λe r=>?_⟩
 ·refine(P1.new m x p.room nm a O ((P.below c).mono c.size) K).mono ?_;rintro e w' ⟨g,rfl,z⟩;obtain⟨o,E,C⟩:=z.out;refine⟨g,rfl,o,λe=>?_⟩;obtain⟨y,l,r,V,G⟩:=C e;have:=j.lo.1;have:=c.size;exact⟨y,l,a,c,o,G.mono (λb h=>h) (by omega) λb h=>⟨by omega,h.2⟩⟩
 ·simp only[aG]at l;rw[if_neg (by rw[l.1];decide),if_neg (by rw[l.2];decide),if_neg (by rw[r];decide)]at f;obtain⟨t,o,E,C⟩:=L;have A:=o.trans (E.mono o.size);have I:=j.later A;have Z:=o.size;have W:=J9 l.1;refine(I.add 0 C (λg h=>?_) (by omega) M J).mono ?_
  ·have:=j.low g;by_cases F:d.ow g=0
   ·exact F
   ·have:=(this F).2;omega
  ·rintro e w' ⟨rfl,z⟩;obtain⟨i,D,H⟩:=z;refine⟨rfl,⟨⟨by rw[f],λ_=>rfl⟩,i,by rw[f];exact D,?_⟩,D.cells.2.2.1⟩;obtain⟨Q,R,aa,S,U⟩:=H;have N:bt (λg=>d.ow g≠0) w a:=aK A _;have Y:=A.size;exact⟨N.trans (Q.mono (T:=λg=>d.ow g≠0) λg _ e=>by omega) λg _ e=>e,λg X=>R g (by omega) λh=>by omega,dA S,U⟩
 ·rw[if_pos e]at f;exact⟨⟨by rw[f],(λh=>by cases h)⟩,B a c (by rw[f])⟩
 ·simp only[aG,kG]at e;rw[if_neg (by rw[e.1];decide),if_pos e.2]at f;exact⟨⟨by rw[f],(λh=>by cases h)⟩,B a c (by rw[f])⟩
 ·simp only[aG]at e;rw[if_neg (by rw[e.1];decide),if_neg (by rw[e.2];decide),if_pos r]at f;exact⟨⟨by rw[f],λh=>absurd h r⟩,B a c (by rw[f])⟩
end
theorem Oc:(Tryz.prog.info? 65).map (λi=>(i.zero,i.size,i.bytes))=some (some (.pointer none),1,8):=by kernel_rfl
theorem GN(m:Nat)(pa:Option Addr)(pl pc:Nat)(may:Bool)(room:Int)(w:World)(u x y:Nat->Int)(nm z:Nat->ByteArray)(xa:Nat->Option Addr)(A xc:Nat->Nat)(l:Nat->Bool)(ne:Nat->Int)(r:Nat->List Nat->Value->World->Prop)(N:Nat->Nat->List Nat->Value->World->Prop)(R:Value->Bool->World->Prop)(bF:pl<=1000)(bz:m<w.heap.size)(aQ:Hid (w.cell? ⟨m,1,none⟩=some (ab room)))(X:Hid (∀j,j<pl->∃g,pa=some ⟨g,0,none⟩/\g<w.heap.size/\Hid (w.cell? ⟨g,j*6,none⟩=some (ab (u j))/\w.cell? ⟨g,j*6+1,none⟩=some (af (nm j))/\w.cell? ⟨g,j*6+2,none⟩=some (ab (x j))/\w.cell? ⟨g,j*6+3,none⟩=some (ab (y j))/\w.cell? ⟨g,j*6+4,none⟩=some (af (z j))/\w.cell? ⟨g,j*6+5,none⟩=some (ae (xa j) (A j) (xc j)))))(aT:Hid (ak 40 #[aC m,ab pl] w λe w'=>e=.returned (.bool may)/\w'=w))(Z:Hid (∀j W,j<pl->aj w W->ak 41 #[aC m,af (nm j)] W λe w'=>e=.returned (.bool (l j))/\aj W w'))(aa:Hid (∀j d v W,j<pl->l j=true->aj w W->r j d v W->ak 42 #[af (nm j),.agg #[ab (x j),ab (y j),af (z j),ae (xa j) (A j) (xc j)],ab room] W λe w'=>∃p:Option Addr,e=.returned (.tuple #[.pointer p,ab (ne j)])/\Hid (aj W w'/\(ne j=0->∃k,p=some ⟨k,0,none⟩/\N j k d v w'))))(aq:Hid (r 0 [] (ae none 0 0) w))(q:Hid (∀j d v W E,r j d v W->aj W E->r j d v E))(O:Hid (∀j k d a c g bo W aG E,j<pl->N j k d (ae a j c) W->aj W aG->aG.grownBy E (Value.slice a j c).ownBlock->((Value.slice a j c).ownBlock=some g\/g=aG.heap.size)->g<E.heap.size->r (j+1) (d++ [k]) (ae (some ⟨g,0,none⟩) (j+1) bo) E))(L:Hid (∀W,aj w W->(may=false\/∃j,j<pl/\(l j=false\/ne j≠0))->R (ae none 0 0) false W))(al:Hid (∀W d a c,aj w W->may=true->(∀j,j<pl->l j=true/\ne j=0)->d.length=pl->W.ownsRow w.heap.size 65 1 (ae a pl c) pl (d.map Al)->r pl d (ae a pl c) W->R (ae a pl c) true W)):ak 47 #[aC m,ae pa pl pc] w λe w'=>∃v b,e=.returned (.tuple #[v,.bool b])/\Hid (R v b w'):=by
 obtain⟨bA,a8,bb,bc,bd⟩:=bR Oc;have Y:=ap (⟨a8,bb,bc,bd⟩:_/\_/\_/\_);clear a8 bb bc bd;go_enter func47,ntmps47;go_wp2_with fail;refine aT.mono ?_;rintro e bJ ⟨rfl,be⟩;obtain rfl:=be.symm;clear be aT;cases may
 ·have n:=ap (L _ (ao _ _) (ah rfl));clear L al O aq q aa Z X;go_wp2_with fail;exact av (v:=.tuple #[ae none 0 0,.bool false]) (by simp[results,results47,go_sem]) rfl ⟨_,_,rfl,n⟩
 go_wp2_with fail;go_loopw [6,18] (λo i wr=>∃(j:Nat)(a:Option Addr)(c:Nat),j<=pl/\i=ab j/\o=ae a j c/\Hid (∃d,d.length=j/\wr.ownsRow w.heap.size 65 1 (ae a j c) j (d.map Al)/\r j d (ae a j c) wr/\aj w wr/\∀i,i<j->l i=true/\ne i=0)) (λ_ i _=>pl-(intOf i).toNat)
 case atStart=>exact⟨0,none,0,aH _,rfl,rfl,[],rfl,eK _ _ _ _,aq,ao _ _,λi h=>by omega⟩
 case round=>
 obtain⟨j,a,c,bE,rfl,rfl,ad⟩:=hrel;by_cases S:j<pl
 ·obtain⟨g,rfl,bx,aR⟩:=X.out j S;obtain⟨d,Q,T,V,F,U⟩:=ad.out;have aY:=ap T;have a2:=ap V;have HB:=ap F;have aX:=ap U;have bw:=ap Q;have s:∀{f:Nat}{v:Value},w.cell? ⟨g,f,none⟩=some v->wr.cell? ⟨g,f,none⟩=some v:=λ{f v} h=>(F.cell (p:=⟨g,f,none⟩) bx).trans h;obtain⟨a3,au,aw,a4,a5,a6⟩:=aR.out;have f0:=s a3;have f1:=s au;have f2:=s aw;have f3:=s a4;have f4:=s a5;have f5:=s a6;have bH:(0:Int)<=(j:Int):=by omega
  have bI:(j:Int)<(pl:Int):=by omega
  clear s a3 au aw a4 a5 a6 aR X T V F U Q ad;go_upto_region 7 with fail;generalize bf:wr.alloc _=ax;have G:Hid (aj wr ax/\ax.heap[wr.heap.size]?=some (.cells #[ab (u j),af (nm j),ab (x j),ab (y j),af (z j),ae (xa j) (A j) (xc j)] 174)):=by
   rw[<-bf];exact⟨(ao _ _).alloc (am _) _,aA _ _⟩
  clear bf f0 f1 f2 f3 f4 f5;obtain⟨f,aM⟩:∃f,f=wr.heap.size:=⟨_,rfl⟩;rw[<-aM];have aD:Hid (ax.heap[f]?=some (.cells #[ab (u j),af (nm j),ab (x j),ab (y j),af (z j),ae (xa j) (A j) (xc j)] 174)):=by rw[aM];exact G.2
  have H:=ap (HB.trans (G.1.mono HB.size));have a0:=ap (q _ _ _ _ _ a2 G.1);have aU:=ap (bk aY (aK G.1 λ_=>False) λ_ _ h=>h);clear aM G aY a2 HB;have D:Hid (∀W:World,aj w W->W.heap[f]?=some (.cells #[ab (u j),af (nm j),ab (x j),ab (y j),af (z j),ae (xa j) (A j) (xc j)] 174)->W.cell? ⟨m,1,none⟩=some (ab room)/\W.cell? ⟨f,1,none⟩=some (af (nm j))/\W.cell? ⟨f,2,none⟩=some (ab (x j))/\W.cell? ⟨f,3,none⟩=some (ab (y j))/\W.cell? ⟨f,4,none⟩=some (af (z j))/\W.cell? ⟨f,5,none⟩=some (ae (xa j) (A j) (xc j))):=λW aJ h=>⟨(aJ.cell (p:=⟨m,1,none⟩) bz).trans aQ,ag h 1,ag h 2,ag h 3,ag h 4,ag h 5⟩;have aI:=(D ax H aD).2.1;have aS:=ap (λW=>Z j W S);have ay:=ap (λd v W=>aa j d v W S);have M:=ap (λW aJ e=>L W aJ (ai ⟨j,S,e⟩));have aB:Hid (l j=true->ne j=0->∀i,i<j+1->l i=true/\ne i=0):=λbu bv i bD=>by
   by_cases e:i=j
   ·subst e;exact⟨bu,bv⟩
   ·exact aX i (by omega)
  clear Z aa L al aQ aX aq;generalize l j=bB at*;generalize ne j=bg at*;go_wp2_with fail;refine(aS _ H).mono ?_;rintro e aO ⟨rfl,P⟩;have C:=ap (H.trans (P.mono H.size));have an:=ap (ge P aD);have aF:=ap (q _ _ _ _ _ a0 P);have az:=ap (bk aU (aK P λ_=>False) λ_ _ h=>h);clear aS H aD a0 aU P aI;cases bB
  ·have n:=ap (M _ C (ah rfl));clear M ay D aF az an C O q aB;go_wp2_with fail;exact av (v:=.tuple #[ae none 0 0,.bool false]) (by simp[results,results47,go_sem]) rfl ⟨_,_,rfl,n⟩
  have K:Hid (aj aO aO.drew):=(ao _ _).drew;have J:=ap (C.trans (K.mono C.size));have aE:=ap (ge K an);have a1:=ap (q _ _ _ _ _ aF K);have aW:=ap (bk az (aK K λ_=>False) λ_ _ h=>h);obtain⟨bs,aI,bp,bq,br,ar⟩:=D.out aO C an;clear az aF;go_upto_region 9 with fail
  go_region_held3 (λW=>W.cell? ⟨m,1,none⟩=some (ab room)/\W.cell? ⟨f,1,none⟩=some (af (nm j))/\W.cell? ⟨f,2,none⟩=some (ab (x j))/\W.cell? ⟨f,3,none⟩=some (ab (y j))/\W.cell? ⟨f,4,none⟩=some (af (z j))/\W.cell? ⟨f,5,none⟩=some (ae (xa j) (A j) (xc j)))
   (first|exact D _ J aE|exact D _ I aZ) ((first
    | (go_at_call 42;refine(ay _ _ _ (by first|rfl|trivial) J a1).mono ?_;rintro e aP ⟨bC,rfl,B⟩;have aZ:=ap (ge B.1 aE);have I:=ap (J.trans (B.1.mono J.size));have aV:=ap (bk aW (aK B.1 λ_=>False) λ_ _ h=>h))))
  clear bs aI bp bq br ar D aE J K an C ay aZ a1 aW;by_cases aN:bg=0
  ·subst aN;obtain⟨k,rfl,bl⟩:∃k,bC=some ⟨k,0,none⟩/\Hid (N j k d (ae a j c) aP):=by
    obtain⟨k,au,aw⟩:=B.out.2 rfl;exact⟨k,au,aw⟩
   have bj:=ap I.size;clear M B
   go_wp2_with (first
    | (at_builtin;refine wpList_append_lies _ rfl _ _ 121 rfl w.heap.size 65 bA _ 1 8 underlying121 Y.1 Y.2.1 Y.2.2.1 Y.2.2.2 rfl (by decide) (ae a j c) j (d.map Al) rfl (aV.alloc _) ⟨aP.heap.size,0,none⟩ 1 1 [aC k] rfl rfl (World.news_of_block (cs:= #[aC k]) (t:=65) (fr:=(0,0)) (aA aP _)) (by simp[Value.oneCell']) (by decide) (by unfold maxLen;omega) (by omega) (by have:=bj.out;simp;omega) _ rfl ?_;intro bt ar bK ba aL a7 a9;have bi:=ap ba;have bn:=ap (O _ _ _ _ _ _ ar _ _ _ S bl ((ao _ _).alloc (am _) _) aL a7 a9);have bh:=ap (I.trans (j0 aV aL I.size));clear ba aL a7 a9))
   go_roundw
   case rel=>exact⟨j+1,some ⟨bt,0,none⟩,ar,by omega,by go_num,rfl,d++ [k],by rw[bm,bw.out];rfl,by rw[iy];exact bi,bn,bh,aB trivial rfl⟩
   case measure=>simp[intOf];omega
  ·have n:=ap (M _ I (ai aN));have bG:(bg==0)=false:=by simpa using aN
   clear M B O q aB;go_wp2_with fail;exact av (v:=.tuple #[ae none 0 0,.bool false]) (by simp[results,results47,go_sem]) rfl ⟨_,_,rfl,n⟩
 ·obtain rfl:j=pl:=by omega
  obtain⟨d,Q,T,V,F,U⟩:=ad.out;have n:=ap (al _ d _ _ F trivial U Q T V);clear L al O aq q aa Z X ad Q T V F U;go_wp2_with fail;exact av (v:=.tuple #[ae a j c,.bool true]) (by simp[results,results47,go_sem]) rfl ⟨_,_,rfl,n⟩
def Ao(K:Nat)(b:List (Int×Tc))(c:List (Int×ByteArray×Tc))(a:List Int):Prop:=(b.length<=K/\c.length<=K/\a.length<=K)/\(∀x∈b,dx x.1)/\∀x∈a,dx x
theorem Fr{b:List Tc}{self:Int}{n:Nat}{x:Tm n}{u:Int}(a:nA b self n x=some u):dx u:=by
 unfold nA sO at a;cases f:vl 13 b self n x with
 | none=>rw[f]at a;cases a
 | some e=>
  rw[f,dB]at a;by_cases d:bz (13+n) e=0
  ·rw[if_pos d,dB]at a;by_cases c:(cn (13+n) e).1.1=3
   ·rw[if_pos c]at a;obtain rfl:=aw a;have h:aD ⟨13,cn (13+n) e⟩:=aM.2 (bB.1 (nY d)).1;have g:=h _ (mT);simp only[cE,c]at g;simp[qK]at g;unfold dx;omega
   ·rw[if_neg c]at a;cases a
  ·rw[if_neg d]at a;cases a
theorem N6{self:Int}{n K:Nat}{a:Ac (n+1)}{d e:Dg}(b:rm self a d=some e)(k:Ao K d.sends d.spawns d.links):Ao (K+1) e.sends e.spawns e.links:=by
 unfold rm at b;obtain⟨⟨o,p,q⟩,f,g⟩:=k;split at b
 ·obtain⟨m,h,b⟩:=bu.1 b;obtain⟨t,l,rfl⟩:=co.1 b;refine⟨⟨by simp;omega,by simp;omega,by simp;omega⟩,λj i=>?_,g⟩;rcases dl.1 i with c|c
  ·exact f j c
  ·rw[dN.1 c];exact Fr h
 ·split at b
  ·obtain⟨t,l,b⟩:=bu.1 b;split at b
   ·obtain rfl:=aw b;exact⟨⟨by simp;omega,by simp;omega,by simp;omega⟩,f,g⟩
   ·cases b
  ·split at b
   ·obtain⟨m,h,rfl⟩:=co.1 b;refine⟨⟨by simp;omega,by simp;omega,by simp;omega⟩,f,λj i=>?_⟩;rcases dl.1 i with c|c
    ·exact g j c
    ·rw[dN.1 c];exact Fr h
   ·obtain rfl:=aw b;exact⟨⟨by simp;omega,by simp;omega,by simp;omega⟩,f,g⟩
theorem Js{self:Int}{n:Nat}:(l:List (Ac (n+1)))->{K:Nat}->{d b:Dg}->qj self l d=some b->Ao K d.sends d.spawns d.links->Ao (K+l.length) b.sends b.spawns b.links
 | [],K,d,b,c,hk=>by
  obtain rfl:=aw c;exact hk
 | a::l,K,d,b,c,hk=>by
  unfold qj at c;obtain⟨e,f,c⟩:=bu.1 c;have:=Js l c (N6 f hk);rw[bi,show K+(l.length+1)=K+1+l.length by omega];exact this
theorem clsC_mem{n:Nat}{s m:Tc}:(l:List (Cl (n+1)))->{y:Cl (n+1)×List Tc}->mi s m l=some y->y.1∈l
 | [],y,h=>by simp[mi]at h
 | c::l,y,h=>by
  unfold mi at h;cases e:lC c s m with
  | none=>
   rw[e]at h;exact bM _ (clsC_mem l h)
  | some b=>
   rw[e]at h;obtain rfl:=aw h;exact mT
theorem EQ{n:Nat}{l:List (Cl (n+1))}{s:Tc}:(ms:List Tc)->(i:Nat)->{x:Nat×Cl (n+1)×List Tc}->sj l s ms i=some x->x.2.1∈l
 | [],i,x,h=>by simp[sj]at h
 | m::ms,i,x,h=>by
  unfold sj at h;cases e:mi s m l with
  | none=>
   rw[e]at h;exact EQ ms (i+1) h
  | some y=>
   rw[e]at h;obtain rfl:=aw h;exact clsC_mem l e
theorem qW{n:Nat}{name:ByteArray}:(l:List (Bh n))->{b:Bh n}->gd n name l=some b->b∈l/\b.1=name
 | [],b,h=>by simp[gd]at h
 | c::l,b,h=>by
  unfold gd at h;split at h
  ·rename_i e;obtain rfl:=aw h;exact⟨mT,e⟩
  ·exact⟨bM _ (qW l h).1,(qW l h).2⟩
theorem Dw{n:Nat}{prog:List (Bh (n+1))}(c:kA (n+1) prog=true){nm:ByteArray}(d:lj n prog nm=true):nm.size<=2048:=by
 obtain⟨b,g⟩:=fu.1 d;obtain⟨e,f⟩:=qW prog g;unfold kA at c;simp only[aG,ci]at c;have a:=c.2 b e;unfold wC at a;simp only[aG]at a;rw[<-f];exact xy a.1.1.1
theorem KP{n:Nat}{room:Int}{l:List (Bh (n+1))}(j:kA (n+1) l=true){name:ByteArray}{self next:Int}{s:Tc}{ms:List Tc}{f:Tk}(e:nE room l name self next s ms=some f):Ao 8 f.sends f.spawns f.links:=by
 unfold nE at e;obtain⟨c,p,e⟩:=bu.1 e;obtain⟨y,u,rfl⟩:=co.1 e;have a:=EQ ms 0 p;have r:c.2.1.2.2.length<=8:=by
  unfold gi at a;cases g:gd (n+1) name l with
  | none=>rw[g]at a;simp at a
  | some b=>
   rw[g]at a;have a:c.2.1∈b.2.2:=a;unfold kA at j;simp only[aG,ci]at j;have h:=j.2 b (qW l g).1;unfold wC at h;simp only[aG,ci]at h;have k:=h.2 _ a;unfold tE at k;simp only[aG,cd]at k;omega
 have i:Ao 8 [] [] []:=⟨⟨by simp,by simp,by simp⟩,by simp,by simp⟩;unfold fp;cases hd:qj self c.2.1.2.2 ⟨c.2.2,next,[],[],[],false⟩with
 | none=>exact i
 | some d=>
  have o:Ao 8 d.sends d.spawns d.links:=by
   obtain⟨⟨v,w,x⟩,q⟩:=Js _ (K:=0) hd ⟨⟨by simp,by simp,by simp⟩,by simp,by simp⟩;exact⟨⟨by omega,by omega,by omega⟩,q⟩
  cases m:sO d.b self (n+1) c.2.1.1.2.2 with
  | none=>simp only[m];exact i
  | some t=>
   simp only[m];split
   ·exact o
   ·exact i
theorem vz{c:Type}(f:c->List Value)(k:Nat)(b:∀a,(f a).length=k):(l:List c)->(i:Nat)->(a:c)->l[i]?=some a->∀(t:Nat)(u:Value),(f a)[t]?=some u->(l.flatMap f)[i*k+t]?=some u
 | [],i,a,h,_,_,_=>by simp at h
 | x::l,0,a,h,t,u,hu=>by
  simp at h;subst h;rw[bF,dr (by have:=(aS.1 hu).1;omega)];simpa using hu
 | x::l,i+1,a,h,t,u,hu=>by
  rw[bF,ed (by rw[b,Nat.succ_mul];omega),b,show (i+1)*k+t-k=i*k+t by rw[Nat.succ_mul];omega];exact vz f k b l i a (by simpa using h) t u hu
theorem rI{w:World}{base:Nat}{e:TypeId}{k:Nat}{v:Value}{n:Nat}{p:Type}{f:p->List Value}{l:List p}(j:w.ownsRow base e k v n (l.flatMap f))(A:0<k)(m:∀d,(f d).length=k):∃a c,v=ae a n c/\(∀b,a=some b->v.ownBlock=some b.block)/\∀(i:Nat)(d:p),l[i]?=some d->∃g,a=some ⟨g,0,none⟩/\g<w.heap.size/\∀(t:Nat)(u:Value),(f d)[t]?=some u->w.cell? ⟨g,i*k+t,none⟩=some u:=by
 have r:=j;rcases j.2 with⟨rfl,q⟩|⟨g,c,C,rfl,D,z,F⟩
 ·refine⟨none,0,by rw[q],(λb e=>by cases e),λi d o=>?_⟩;have s:=vz f k m l i d o 0 _ (aI (by rw[m];exact A));have E:=(aS.1 s).1;have x:=j.1;rw[q,Nat.zero_mul]at x;omega
 ·refine⟨_,c,rfl,(λb e=>by cases e;rfl),λi d o=>⟨g,rfl,(aF.1 z).1,λt u B=>?_⟩⟩;have y:=World.ownsRow.cells r (g:=g) rfl _ _ (vz f k m l i d o t u B);rwa [show∀h,(⟨g,0,none⟩:Addr).add h=⟨g,h,none⟩from λh=>by cases h<;>simp[Addr.add]]at y
def fe(n:Nat)(x:Tm (n+1)):ByteArray:=if x.1.1=4 then match x.2.2[0]? with|some a=>if bU ⟨n,a⟩=2 then (gj n a).1.2.2 else .empty|none=> .empty else .empty
def bN(n:Nat)(x:Tm (n+1)):List (Tm n):=if x.1.1=4 then match x.2.2[0]? with|some a=>if bU ⟨n,a⟩=2 then x.2.2.drop 1 else []|none=> []else []
def s9(a s:ByteArray):Bool:=a.toList==s.toList
def EM:(n:Nat)->Tm n->List (Tm (n-1))
 | 0,_=> []
 | _+1,x=>x.2.2
def xx(n:Nat)(x:Tm n):ByteArray:=(gj n x).1.2.2
def zG(M n:Nat)(a b c:Tm n):Option (Ac (M+1)):=if bU ⟨n,a⟩=2/\bU ⟨n,c⟩=5 then some (2,(zT M,aT (M+1) n b),(xx n a,pI n c))else none
def jO(M n:Nat)(d:ByteArray)(q:List (Tm n)):Option (Ac (M+1)):=
 if (s9 d mL && decide (q.length=2))=true then (q[0]?).bind λa=>(q[1]?).bind λb=>some (1,(aT (M+1) n a,aT (M+1) n b),(.empty,0))
 else if (s9 d je && decide (q.length=3))=true then (q[0]?).bind λa=>(q[1]?).bind λb=>(q[2]?).bind λc=>zG M n a b c
 else if (s9 d mK && decide (q.length=1))=true then (q[0]?).bind λa=>some (3,(aT (M+1) n a,zT M),(.empty,0))
 else if (s9 d lR && decide (q.length=0))=true then some (4,(zT M,zT M),(.empty,0))else none
def sF(M:Nat):(n:Nat)->Tm n->Option (Ac (M+1))
 | 0,_=>none
 | n+1,x=>jO M n (fe n x) (bN n x)
def sG(M n:Nat)(e:ByteArray)(q:List (Tm n)):Option (Cl (M+1)):=
 if (s9 e Lw && decide (q.length=4))=true then (q[0]?).bind λa=>(q[1]?).bind λb=>(q[2]?).bind λc=>(q[3]?).bind λd=>
  if bU ⟨n,c⟩=4 then (cJ (sF M (n-1)) (EM n c)).map λl=>((aT (M+1) n a,aT (M+1) n b,aT (M+1) n d),(none,0),l)else none
 else none
def zF(M:Nat):(n:Nat)->Tm n->Option (Cl (M+1))
 | 0,_=>none
 | n+1,x=>sG M n (fe n x) (bN n x)
def tJ(M n:Nat)(b:ByteArray)(q:List (Tm n)):Option (Bh (M+1)):=
 if s9 b tT=true then (q[0]?).bind λa=>if bU ⟨n,a⟩=2 then (cJ (zF M n) (q.drop 1)).map λl=>(xx n a,(none,0),l)else none
 else none
def zD(M:Nat):(n:Nat)->Tm n->Option (Bh (M+1))
 | 0,_=>none
 | n+1,x=>tJ M n (fe n x) (bN n x)
def BS(M:Nat):(n:Nat)->Tm n->Option (List (Bh (M+1)))
 | 0,_=>none
 | n+1,x=>if s9 (fe n x) nP=true then cJ (zD M n) (bN n x)else none
def qR{a:Type}(f:a->List Value)(h:Nat->World->a->Prop)(i:(Nat->Prop)->a->Prop)(S:a->a->Prop)(o:Option a)(w:World)(e:Ending)(w':World):Prop:=
 ∃(c:a)(d:Bool),e=.returned (.tuple #[.agg (f c).toArray,.bool d])/\Hid (aj w w'/\d=o.isSome/\h w'.heap.size w' c/\i (λb=>w.heap.size<=b) c/\∀g,o=some g->S c g)
def lF{a:Type}(k:Nat)(f:a->List Value)(i:Nat->World->a->Prop)(j:(Nat->Prop)->a->Prop)(S:a->a->Prop)(o:Option (List a))(w:World)(e:Ending)(w':World):Prop:=
 ∃(l:List a)(d:Option Addr)(c:Nat)(g:Bool),e=.returned (.tuple #[ae d l.length c,.bool g])/\Hid (aj w w'/\g=o.isSome/\(l.length<=c/\c<=maxLen)/\p8 w'.heap.size w' k f (i w'.heap.size w') d l/\tD (j (λb=>w.heap.size<=b)) (λb=>w.heap.size<=b) d l/\∀h,o=some h->eT S l h)
theorem r9{d β:Type}(f:d->Option β)(p:List d)(k:Nat)(x:d)(h:p[k]?=some x)(l:List β)(y:β)(a:cJ f (p.take k)=some l)(i:f x=some y):cJ f (p.take (k+1))=some (l++ [y]):=by
 rw[du,h];have key:∀(c:List d)(l:List β),cJ f c=some l->cJ f (c++ [x])=some (l++ [y]):=by
  intro c
  induction c with
  | nil=>intro l a;simp[cJ]at a;subst a;simp[cJ,i]
  | cons m c ih=>
   intro l a;simp only[cJ]at a;obtain⟨b,e,a⟩:=bu.1 a;obtain⟨j,g,rfl⟩:=co.1 a;simp only[eG,cJ,e,ih j g];rfl
 exact key _ _ a
end Go.Proofs.YtmmahddlcldmiaaGreat
