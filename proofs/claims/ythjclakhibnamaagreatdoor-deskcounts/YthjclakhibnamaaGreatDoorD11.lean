/- Proved here: plain facts and contracts. No condition but what each names. -/
import Derived.Test.YthjclakhibnamaaGreatDoorD10
import Derived.Deep.DeepCutAuto
import Derived.BigRegion
namespace Go.Proofs.YthjclakhibnamaaGreatDoor
open Go.RowKit Go.Proofs.Tryz
set_option maxRecDepth 100000
set_option maxHeartbeats 8000000
variable{ok:Bool}{d:Int}{j u B L b base c e g k m n q r:Nat}{o:Obj}{p:UInt8->Bool}{h w w' w1 w2 wr:ah}{s x:aq}{v a:ay}{v0 v1 v2 v3:az}
theorem M4{x:Tm m}(a:bK m x=0)(room:Int)(s:Tc)(ms:List Tc):nW m x room s ms=nW 13 (cn m x) room s ms:=by
 have b:=eG a;unfold nW;rw[bO b,cG _ _ _ _ b,Gb a]
theorem CW{d:Type}(k:Int)(v:d):(l:List (Int×d))->(l.map (·.1)).Nodup->(l.find? λp=>p.1==k).map (·.2)=some v->(l.map λp=>if p.1=k then (k,v)else p)=l
 | [],_,_=>rfl
 | a::l,hn,h=>by
  rw[bA,nL]at hn;rw[ko]at h;rw[bA];by_cases b:a.1=k
  ·have c:(a.1==k)=true:=by simpa using b
   rw[c]at h;have f:a.2=v:=by simpa using h
   rw[if_pos b];congr 1
   ·rw[<-f,<-b]
   ·refine(lE λi g=>?_).trans (List.map_id l);rw[if_neg λe=>hn.1 (cd.2 ⟨i,g,e.trans b.symm⟩)];rfl
  ·have c:(a.1==k)=false:=by simpa using b
   rw[c]at h;rw[if_neg b,CW k v l hn.2 h]
theorem wS{s:Sy}{k:Int}{v:aq×Tc×List Tc}(b:(s.ps.map (·.1)).Nodup)(a:s.get k=some v):s.put k v=s:=by
 unfold Sy.put;rw[CW k v s.ps b a]
section
variable {p:mN} {s:Sy} {d:gX} {w:ah}
theorem bE.deliver(h:bE p s d w){a b:Int}(W:dn b){nm:aq}{cs:Tc}{r:List Tc}(j:s.get b=some (nm,cs,r)){m:Nat}(x:Tm (m+1))(K:In w.heap.size w (m+1) x/\cF (λq=>¬1<=d.ow q) (m+1) x)(B:bK (m+1) x=0)(Z:d.k<=92000)(Y:d.es.length<=98000):au 131 #[aE p.b,ae a,ae b,dF (m+1) x] w λe w'=>e=aw (ax #[])/\Hid (∃z,bE p (s.deliver p.room a b (cn (m+1) x)) z w'/\gE 100 201 d z w w'):=by
 obtain⟨v,H⟩:∃v,dp d.l b=some v:=by
  have:=h.alive b;rw[j]at this;cases e:dp d.l b with
  | none=>rw[e]at this;cases this
  | some v=>exact⟨v,rfl⟩
 obtain⟨X,P,O,G,S,T⟩:=h.ps b v H;rw[j]at G;obtain⟨rfl,rfl,rfl⟩:nm=X/\cs=P/\r=O:=by
  injection G with G;injection G with I A;injection A with A R;exact⟨I,A,R⟩
 have M:=(h.key H).1;obtain⟨y,C⟩:∃y,y=nW 13 (cn (m+1) x) p.room cs r:=⟨_,rfl⟩;have aa:bK 13 (cn (m+1) x)=0:=(bO (eG B)).trans B;refine Jh p.b v d.po a b x.1.1 x.1.2.1 x.1.2.2 x.2.1.1 x.2.2.length x.2.1.2 y w (λg=>∃d1,bE p (if y=0 then s.put b (nm,cs,r++ [cn (m+1) x])else s.put b (nm,cs,r)) d1 g/\gE 0 201 d d1 w g/\In g.heap.size g (m+1) x) (λg=>∃z,bE p (s.deliver p.room a b (cn (m+1) x)) z g/\gE 100 201 d z w g) h.lo.2 h.cells.2.2.2 (λg f=>?_) (λg f=>?_) (λe g f=>?_) (λe g f=>?_) λI A g f=>?_
 ·have:=(h.later f).look b false;rw[H]at this;exact this
 ·have V:=S.later f;have N:=(K.1.below f).mono f.size;refine(V.deliver x N (K.2.mono λq t F=>t (by rw[show d.ow q=b from F];exact M)) (gH B) (by omega) (by omega) (aF h.lo.1 f.size)).mono ?_;rintro e w' ⟨rfl,u⟩;rw[M4 B,<-C]at u ⊢;obtain⟨c,n⟩:=u.out;have J:bH (λq=>d.ow q=b) g w':=⟨c.os,c.tape,c.output,c.size,c.block⟩;have U:(if y=0 then r++ [cn (m+1) x]else r).length<=20:=by
   split
   ·rename_i i;rw[C]at i;unfold nW at i;split at i
    ·cases i
    ·simp;omega
   ·exact T
  obtain⟨o,E⟩:=(h.later f).turnP H j J (λq t=>t.1) (show d.k<=d.k+201 by omega) n U;refine⟨rfl,⟨_,?_,(((ex.later d f).un.trans E).mono (aA _) (by omega)),?_⟩,λq ab F=>J.block q F λt=>?_⟩
  ·split
   ·rename_i i;rw[if_pos i]at o;exact o
   ·rename_i i;rw[if_neg i]at o;exact o
  ·exact(fB J (D:=λq=>¬1<=d.ow q) (λq t F=>t (by rw[F];exact M)) ⟨N,K.2⟩).1
  ·have:=(h.low q (by rw[t];omega)).2;omega
 ·obtain⟨d1,c,n,L⟩:=f;rw[if_neg (by rw[e];decide),wS h.keys.2.1 j]at c;refine(c.tell oX a b x.1.1 x.1.2.1 x.1.2.2 x.2.1.1 x.2.2.length x.2.1.2 (cn (m+1) x) (lf L B) (by have:=n.2.2.2.1;omega)).mono ?_;rintro Q w' ⟨rfl,u⟩;obtain⟨d2,o,E⟩:=u.out.up c;refine⟨rfl,d2,?_,(n.trans E.un).mono (by omega) (by omega)⟩;unfold Sy.deliver;rw[j];simp only;rw[<-C,if_pos e];exact o
 ·obtain⟨d1,c,n,L⟩:=f;rw[if_neg (by rw[e];decide),wS h.keys.2.1 j]at c;refine(c.fin (how:=3) W (by have:=n.2.2.2.1;omega)).mono ?_;rintro Q w' ⟨rfl,u⟩;obtain⟨d2,o,E⟩:=u;refine⟨rfl,d2,?_,(n.trans E.un).mono (by omega) (by omega)⟩;unfold Sy.deliver;rw[j];simp only;rw[<-C,if_neg (by rw[e];decide),if_pos e];exact o
 ·obtain⟨d1,c,n,L⟩:=f;refine⟨d1,?_,n.mono (by omega) (aA _)⟩;unfold Sy.deliver;rw[j];simp only;rw[<-C,if_neg I,if_neg A];by_cases i:y=0
  ·rw[if_pos i]at c ⊢;exact c
  ·rw[if_neg i]at c ⊢;rw[wS h.keys.2.1 j]at c;exact c
end
theorem Cp(x:Nat)(a i j:Int)(k:aq)(xa:ay)(l xc:Nat)(g cl:Bool)(b:Int)(w:ah)(R:Int->bF)(z:Hid (∀W,ap w W->au 130 #[aE x,ae a] W λe w'=>e=aw (.bool g)/\w'=W))(G:Hid (∀W,ap w W->au 53 #[.agg #[ae i,ae j,af k,ag xa l xc]] W λe w'=>e=aw (ae b)/\ap W w'))(E:Hid (∀W,ap w W->au 132 #[.agg #[ae i,ae j,af k,ag xa l xc]] W λe w'=>e=aw (.bool cl)/\ap W w'))(F:Hid (g=true->b=0->cl=true->∀W,ap w W->au 131 #[aE x,ae 0,ae a,.agg #[ae i,ae j,af k,ag xa l xc]] W λe w'=>e=aw (ax #[])/\Hid (R 0 w')))(r:Hid (∀W,ap w W->(g=false->R 4 W)/\(g=true->b≠0->R b W)/\(g=true->b=0->cl=false->R 5 W))):au 89 #[aE x,ae a,.agg #[ae i,ae j,af k,ag xa l xc]] w λe w'=>∃v,e=aw (ae v)/\Hid (R v w'):=by
 go_enter func89,ntmps89;go_upto_region 1 with fail;generalize A:w.alloc _=y;have d:Hid (ap w y/\y.heap[w.heap.size]?=some (.cells #[ae i,ae j,af k,ag xa l xc] 54)):=by
  rw[<-A];exact⟨aV _ _,aK _ _⟩
 clear A;go_wp2_with fail;refine(z _ d.1).mono ?_;rintro e K ⟨rfl,B⟩;obtain rfl:=B.symm;clear B z;cases g
 ·have h:=av ((r y d.1).1 rfl);go_wp2_with fail
  go_ret
  exact⟨4,rfl,h⟩
 have c:=d.2;obtain⟨m,n,o,p⟩:=QP c;clear c;go_wp2_with fail;refine(G _ d.1).mono ?_;rintro e I ⟨rfl,s⟩;have f:=av (⟨d.1.trans (s.mono d.1.size),fj s d.2⟩:_/\_);clear m n o p s;by_cases u:b=0;rotate_left
 ·have h:=av ((r I f.1).2.1 (by simp) u);have J:(b !=0)=true:=by simpa using u
  go_wp2_with fail
  go_ret
  exact⟨b,rfl,h⟩
 subst u;have c:=f.2;obtain⟨m,n,o,p⟩:=QP c;clear c;go_wp2_with fail;refine(E _ f.1).mono ?_;rintro e C ⟨rfl,t⟩;have q:=av (⟨f.1.trans (t.mono f.1.size),fj t f.2⟩:_/\_);clear m n o p t;cases cl
 ·have h:=av ((r C q.1).2.2 (by simp) (by simp) (by simp));go_wp2_with fail
  go_ret
  exact⟨5,rfl,h⟩
 have c:=q.2;obtain⟨m,n,o,p⟩:=QP c;have H:=av (F (by simp) (by simp) (by simp) C q.1);clear c;go_wp2_with fail;refine H.mono ?_;rintro e L ⟨rfl,D⟩;go_wp2_with fail
 go_ret
 exact⟨0,rfl,D⟩
section
variable {p:mN} {s:Sy} {d:gX} {w:ah}
theorem bE.inject(j:bE p s d w){a:Int}(y:dn a){m:Nat}(x:Tm (m+1))(l:In w.heap.size w (m+1) x/\cF (λq=>¬1<=d.ow q) (m+1) x)(u:(aH (m+1) x).length<=2097152)(A:d.k<=92000)(t:d.es.length<=98000):au 89 #[aE p.b,ae a,dF (m+1) x] w λe w'=>∃v,e=aw (ae v)/\Hid (v=(s.inject p.room a (m+1) x).2/\∃g,bE p (s.inject p.room a (m+1) x).1 g w'/\gE 100 201 d g w w'):=by
 have o:∀f,ap w f->gE 100 201 d d w f:=λf c=>(ex.later d c).un.mono (aM _) (aM _);refine Cp p.b a x.1.1 x.1.2.1 x.1.2.2 x.2.1.1 x.2.2.length x.2.1.2 (s.get a).isSome (aX (m+1) x) (bK (m+1) x) w (λv w'=>v=(s.inject p.room a (m+1) x).2/\∃g,bE p (s.inject p.room a (m+1) x).1 g w'/\gE 100 201 d g w w') (λf c=>(j.later c).isAlive a) (λf c=>dW (m+1) x w.heap.size f (l.1.below c) c.size u) (λf c=>ja (m+1) x w.heap.size f (l.1.below c) c.size) (λh i n f c=>?_) λf c=>⟨λe=>?_,λh i=>?_,λh i n=>?_⟩
 ·obtain⟨v,z⟩:=gj.1 h;obtain⟨F,E,D⟩:=v;refine((j.later c).deliver y z x ⟨(l.1.below c).mono c.size,l.2⟩ i A t).mono ?_;rintro e w' ⟨rfl,r⟩;obtain⟨g,B,C⟩:=r;have e:s.inject p.room a (m+1) x=(s.deliver p.room 0 a (cn (m+1) x),0):=by
   unfold Sy.inject;rw[if_neg (by rw[h];decide),if_neg (by rw[i];decide),if_neg (by rw[n];decide)]
  rw[e];exact⟨rfl,rfl,g,B,((ex.later d c).un.trans C).mono (by omega) (by omega)⟩
 ·have e:s.inject p.room a (m+1) x=(s,4):=if_pos e;rw[e];exact⟨rfl,d,j.later c,o f c⟩
 ·have e:s.inject p.room a (m+1) x=(s,bK (m+1) x):=by
    unfold Sy.inject;rw[if_neg (by rw[h];decide),if_pos i]
  rw[e];exact⟨rfl,d,j.later c,o f c⟩
 ·have e:s.inject p.room a (m+1) x=(s,5):=by
    unfold Sy.inject;rw[if_neg (by rw[h];decide),if_neg (by rw[i];decide),if_pos n]
  rw[e];exact⟨rfl,d,j.later c,o f c⟩
end
section
variable {p:mN} {s:Sy} {d:gX} {w:ah}
theorem bE.takeW(h:bE p s d w){a b:Int}(X:I2 (a,b))(Z:d.wn<999999):au 129 #[.pointer (some ⟨p.b,4,none⟩),ae a,ae b] w λe w'=> (s.ways (a,b)=[]->e=aw (ax #[.agg #[ae 0,ae 0,af ⟨#[]⟩,ag none 0 0],ae 4])/\ap w w')/\ ∀t l,s.ways (a,b)=t::l->∃y:Tc,e=aw (ax #[dF 13 y,ae 0])/\cn 13 y=t/\bK 13 y=0/\aX 13 y=true/\∃z,bE p {s with ways:=iy s.ways (a,b) l} z w'/\ex 1 d z w w'/\In w'.heap.size w' 13 y/\cF (λq=>¬1<=z.ow q) 13 y:=by
 have n:=h.wy.2.2.1 (a,b);refine(Mb (N:=12) h.wy.1 X Z (by have:=h.wy.2.2.2.1 (a,b);omega)).mono ?_;rintro e w' ⟨B,V⟩;refine⟨λA=>B ?_,λt l A=>?_⟩
 ·rw[A]at n;simpa using n
 ·rw[A]at n;obtain⟨y,i,v,P,Q⟩:∃y i,d.f (a,b)=y::i/\cn 13 y=t/\i.map (cn 13)=l:=by
   cases I:d.f (a,b)with
   | nil=>rw[I]at n;simp at n
   | cons y i=>
    rw[I,bA]at n;injection n with ad ah;exact⟨y,i,rfl,ad,ah⟩
  obtain⟨Y,sl,L,m,M⟩:=V y i v;have u:=h.wy.2.1;have r:∀b,d.ow b≠0->d.ow b=d.ow b:=λ_ _=>rfl;have J:∀b,d.ow b≠0->p.lo<=b/\b<w'.heap.size:=λb q=>⟨(h.low b q).1,bf (h.low b q).2 m.size⟩;have x:∀{t:Int},t≠ -1->t≠ -5->∀b,d.ow b=t->¬sS (Bg p s d) d.wo d.sl b:=λB W b e g=>by
   rcases u b g with g|g
   ·rw[g,h.own]at e;exact W e.symm
   ·exact B (e.symm.trans g)
  have H:w'.heap[p.b]?=some (.cells (eA p s d) 139):=by
   have:=L.2.1.2;simpa [Bg,eA]using this
  have K:∀C,∀g∈d.f C,bK 13 g=0/\aX 13 g=true/\In w'.heap.size w' 13 g/\cF (λq=>d.ow q=-1/\¬sS (Bg p s d) d.wo d.sl q) 13 g:=λC g o=>by
   obtain⟨D,E,F⟩:=h.wy.2.2.2.2 C g o;exact⟨D,E,fB m (λq ak G=>ak.2 G) F⟩
  obtain⟨y1,y2,ai,aj⟩:=K (a,b) y (by rw[v];simp);obtain⟨R,S⟩:=h.evK m (x (by decide) (by decide)) r;refine⟨y,Y,P,y1,y2,{d with wn:=d.wn+1,f:=iy d.f (a,b) i,sl:=sl},⟨J,H,h.own,⟨h.pgK m (x (by decide) (by decide)) r,h.pg.2⟩,h.pmK m (λq T U g=>?_) r,h.keys,λk c q=>h.psK m (aA _) (x (by have:=(h.key q).1;omega) (by have:=(h.key q).1;omega)) r J q,⟨L,λq g=>u q (M q g),λk=>?_,λk=>?_,λk g o=>?_⟩,h.bdK m (x (by decide) (by decide)) r rfl (rC H).2,R,h.evt.1,S⟩,⟨m.mono λq _ g=>?_,λ_ _=>rfl,rfl,fN _,aA _,fN _⟩,ai,aj.mono λq g=>by show¬1<=d.ow q;rw[g.1];decide⟩
  ·rcases u q g with g|g
   ·exact U g
   ·rw[T]at g;cases g
  ·by_cases j:k=(a,b)
   ·subst j;show (iy d.f (a,b) i (a,b)).map (cn 13)=iy s.ways (a,b) l (a,b);rw[df,df,Q]
   ·show (iy d.f (a,b) i k).map (cn 13)=iy s.ways (a,b) l k;rw[cg _ _ j,cg _ _ j];exact h.wy.2.2.1 k
  ·by_cases j:k=(a,b)
   ·subst j;show (iy d.f (a,b) i (a,b)).length<=20;rw[df];have:=h.wy.2.2.2.1 (a,b);rw[v]at this;simp at this;omega
   ·show (iy d.f (a,b) i k).length<=20;rw[cg _ _ j];exact h.wy.2.2.2.1 k
  ·have o:g∈iy d.f (a,b) i k:=o;have aa:g∈d.f k:=by
    by_cases j:k=(a,b)
    ·subst j;rw[df]at o;rw[v];exact b9 _ o
    ·rwa [cg _ _ j]at o
   obtain⟨D,E,F,ab⟩:=K k g aa;exact⟨D,E,F,ab.mono λq O=>⟨O.1,λG=>O.2 (M q G)⟩⟩
  ·rcases u q g with g|g
   ·rw[g,h.own];decide
   ·rw[g];decide
end
theorem t8(d:Nat)(a b:Int)(s i:Bool)(w:ah)(p:Int->Int->aq->ay->Nat->Nat->bF)(R:Int->bF)(n:Hid (au 129 #[.pointer (some ⟨d,4,none⟩),ae a,ae b] w λe w'=>(s=true->e=aw (ax #[.agg #[ae 0,ae 0,af ⟨#[]⟩,ag none 0 0],ae 4])/\Hid (∀W,ap w' W->R 4 W))/\(s=false->∃y0 y1 y2 ya yl yc,e=aw (ax #[.agg #[ae y0,ae y1,af y2,ag ya yl yc],ae 0])/\Hid (p y0 y1 y2 ya yl yc w'))))(k:Hid (∀y0 y1 y2 ya yl yc W c,p y0 y1 y2 ya yl yc W->ap W c->au 130 #[aE d,ae b] c λe w'=>e=aw (.bool i)/\w'=c))(l:Hid (∀y0 y1 y2 ya yl yc W c,p y0 y1 y2 ya yl yc W->ap W c->(i=true->au 131 #[aE d,ae a,ae b,.agg #[ae y0,ae y1,af y2,ag ya yl yc]] c λe w'=>e=aw (ax #[])/\Hid (R 0 w'))/\(i=false->au 124 #[aE d,af ⟨#[108,111,115,116]⟩,ae a,ae b,.agg #[ae y0,ae y1,af y2,ag ya yl yc]] c λe w'=>e=aw (ax #[])/\Hid (R 0 w')))):au 88 #[aE d,ae a,ae b] w λe w'=>∃v,e=aw (ae v)/\Hid (R v w'):=by
 go_enter func88,ntmps88;go_wp2_with fail;refine n.mono ?_;rintro e f ⟨q,r⟩;cases s;rotate_left
 ·obtain⟨rfl,g⟩:=q rfl;clear q r n k l;go_wp2_with fail
  go_ret
  exact⟨4,rfl,g _ (aV _ _)⟩
 obtain⟨y0,y1,y2,ya,yl,yc,rfl,g⟩:=r rfl;clear q r n;have HB:Hid (∀o,ap f (f.alloc o)):=λo=>aV _ o;have x:Hid (∀o,(f.alloc o).heap[f.heap.size]?=some o):=λo=>aK f o;go_wp2_with fail;refine(k _ _ _ _ _ _ _ _ g (HB _)).mono ?_;rintro e y ⟨rfl,t⟩;obtain rfl:=t.symm;clear t;have h:=av (l _ _ _ _ _ _ _ _ g (HB (.cells #[ae y0,ae y1,af y2,ag ya yl yc] 54)));clear k l;cases i
 ·have m:=av (h.2 rfl);clear h;go_wp2_with fail;refine m.mono ?_;rintro e u ⟨rfl,j⟩;go_wp2_with fail
  go_ret
  exact⟨0,rfl,j⟩
 ·have m:=av (h.1 rfl);clear h;go_wp2_with fail;refine m.mono ?_;rintro e u ⟨rfl,j⟩;go_wp2_with fail
  go_ret
  exact⟨0,rfl,j⟩
section
variable {p:mN} {s:Sy} {d:gX} {w:ah}
theorem bE.arrive(y:bE p s d w){a b:Int}(z:I2 (a,b))(B:d.wn<999999)(U:d.k<=92000)(S:d.es.length<=97000):au 88 #[aE p.b,ae a,ae b] w λe w'=>∃v,e=aw (ae v)/\Hid (v=(s.arrive p.room a b).2/\∃c,bE p (s.arrive p.room a b).1 c w'/\gE 101 201 d c w w'):=by
 cases hw:s.ways (a,b)with
 | nil=>
  have e:s.arrive p.room a b=(s,4):=by unfold Sy.arrive;rw[hw]
  rw[e];refine t8 p.b a b true false w (λ_ _ _ _ _ _ _=>False) (λv w'=>v=4/\∃c,bE p s c w'/\gE 101 201 d c w w') ((y.takeW z B).mono λe w' j=>⟨λ_=>⟨(j.1 hw).1,λi g=>?_⟩,(λm=>by cases m)⟩) (λ_ _ _ _ _ _ _ _ m=>m.elim) λ_ _ _ _ _ _ _ _ m=>m.elim;have A:=(j.1 hw).2.trans (g.mono (j.1 hw).2.size);exact⟨rfl,d,y.later A,(ex.later d A).un.mono (aM _) (aM _)⟩
 | cons t l=>
  obtain⟨h,C⟩:∃h,h={s with ways:=iy s.ways (a,b) l}:=⟨_,rfl⟩;have e:s.arrive p.room a b=(if (h.get b).isSome then h.deliver p.room a b t else h.tell oX a b t,0):=by unfold Sy.arrive;rw[hw,C]
  rw[e];refine t8 p.b a b false (h.get b).isSome w (λy0 y1 y2 ya yl yc i=>∃f:Tc,(f.1=(y0,y1,y2)/\f.2.1=(ya,yc)/\f.2.2.length=yl)/\cn 13 f=t/\bK 13 f=0/\∃c,bE p h c i/\ex 1 d c w i/\In i.heap.size i 13 f/\cF (λj=>¬1<=c.ow j) 13 f) (λv w'=>v=0/\∃c,bE p (if (h.get b).isSome then h.deliver p.room a b t else h.tell oX a b t) c w'/\gE 101 201 d c w w') ((y.takeW z B).mono λe w' j=>⟨(λm=>by cases m),λ_=>?_⟩) ?_ ?_
  ·obtain⟨f,J,K,L,X,c,M,N,O,P⟩:=j.2 t l hw;exact⟨f.1.1,f.1.2.1,f.1.2.2,f.2.1.1,f.2.2.length,f.2.1.2,J,f,⟨rfl,rfl,rfl⟩,K,L,c,by rw[C];exact M,N,O,P⟩
  ·rintro y0 y1 y2 ya yl yc i F ⟨f,_,_,_,c,o,_⟩ g;exact(o.later g).isAlive b
  ·rintro y0 y1 y2 ya yl yc i F ⟨f,⟨f1,f2,f3⟩,D,kc,c,o,r,E,I⟩ g;obtain⟨⟨Y,Z,aa⟩,⟨ab,ad⟩,af⟩:=f;simp only[gR]at f1 f2;obtain⟨rfl,rfl,rfl⟩:=f1;obtain⟨rfl,rfl⟩:=f2;subst f3;have T:=r.2.2.2.1;have V:=r.2.2.1;refine⟨λq=>?_,λq=>?_⟩
   ·obtain⟨v,H⟩:=gj.1 q;obtain⟨W,R,Q⟩:=v;refine((o.later g).deliver z.2 H _ ⟨(E.below g).mono g.size,I⟩ kc (by omega) (by omega)).mono ?_;rintro G w' ⟨rfl,u⟩;obtain⟨d2,n,x⟩:=u.out;rw[D]at n;rw[if_pos q];exact⟨rfl,rfl,d2,n,((r.un.trans (ex.later c g).un).trans x).mono (by omega) (by omega)⟩
   ·refine((o.later g).tell oX a b _ _ _ _ _ _ _ (lf ((E.below g).mono g.size) kc) (by omega)).mono ?_;rintro G w' ⟨rfl,u⟩;obtain⟨d2,n,x⟩:=u.up (o.later g);rw[D]at n;rw[if_neg (by rw[q];decide)];exact⟨rfl,rfl,d2,n,((r.un.trans (ex.later c g).un).trans x.un).mono (by omega) (by omega)⟩
end
theorem NN(a:Nat)(W:ah):(binOp .eql 131 (.map (some a)) (.map none)).run Tryz.prog W=.ok (.bool false) W:=by kernel_rfl
theorem NM(W:ah):(binOp .eql 131 (.map none) (.map none)).run Tryz.prog W=.ok (.bool true) W:=by kernel_rfl
theorem Jf(b o d:Nat)(n:dc)(a F c:Int)(w w1 w2:ah)(y:Int->Int->aq->ay->Nat->Nat->bF)(k R:bF)(N:IntKind.i64.wrap (F+1)=c)(O:b<w.heap.size)(C:Hid (ai w b 3 (.map n)/\w.frozen? ⟨b,3,none⟩=false))(L:(n=none/\d=w.heap.size/\w1=(w.setCell ⟨b,3,none⟩ (.map (some d))).alloc (.map #[] 0))\/(n=some d/\w1=w))(p:Hid (ai w1 b 2 (ae F)/\w1.frozen? ⟨b,2,none⟩=false))(z:w2=w1.setCell ⟨b,2,none⟩ (ae c))(j:Hid (∀W,ap w2 W->ai W b 2 (ae c)/\ai W b 3 (.map (some d))))(u:Hid (∀W,ap w2 W->∃f,(Instr.mapUpdate 131 (.map (some d)) (ae c) (Be o)).run Tryz.prog W=.ok () f/\(ai f b 2 (ae c)/\ai f b 3 (.map (some d)))/\Hid (k f)))(s:Hid (∀W g,k W->ap W g->ai g b 2 (ae c)))(H:Hid (∀W g,k W->ap W g->au 93 #[aE o] g λe w'=>∃y0 y1 y2 ya yl yc,e=aw (.agg #[ae y0,ae y1,af y2,ag ya yl yc])/\Hid (ap g w'/\y y0 y1 y2 ya yl yc w')))(I:Hid (∀y0 y1 y2 ya yl yc W,y y0 y1 y2 ya yl yc W->au 124 #[aE b,af ⟨#[115,112,97,119,110]⟩,ae a,ae c,.agg #[ae y0,ae y1,af y2,ag ya yl yc]] W λe w'=>e=aw (ax #[])/\Hid (R w'/\ai w' b 2 (ae c)))):au 86 #[aE b,ae a,aE o] w λe w'=>e=aw (ax #[])/\Hid (R w'):=by
 obtain⟨K,f3⟩:=C.out;have M:= @run_makeMap Tryz.prog;have m:Hid (ap w2 w2.drew):=(aG _ _).drew;have h:Hid (∀W:ah,ap W W.drew):=λW=>(aG _ _).drew;go_enter func86,ntmps86;rcases L with⟨rfl,B,i⟩|⟨rfl,i⟩
 case' inl=>
  have D:=NM;go_upto_region 2 with fail;rw[<-B,<-i];clear B
 case' inr=>
  have D:=NN d;go_upto_region 2 with fail;rw[<-i]
 all_goals
  clear K f3 i C D M;obtain⟨J,f2⟩:=p.out;go_upto_region 3 with fail;rw[<-z];clear z J f2 p;obtain⟨d2,d3⟩:=j.out _ m;obtain⟨f,E,A,l⟩:=u.out _ m;unfold Be at E;have t:=av A;have r:=av (j _ m);clear u j;go_region_held3 (λW=>W.cell? ⟨b,2,none⟩=some (ae c)/\W.cell? ⟨b,3,none⟩=some (.map (some d))) (first|exact r|exact t) (fail);clear E r A d2 d3;have d2:=t.1;go_upto_region 4 with fail
  go_region_held3 (λW=>W.cell? ⟨b,2,none⟩=some (ae c)) (first|exact s _ _ l (h _)|exact s _ _ l G|exact q.2) ((first
   | (go_at_call 93;refine(H _ _ l (h _)).mono ?_;rintro e P ⟨y0,y1,y2,ya,yl,yc,rfl,x⟩;have G:=av ((h f).trans (x.1.mono (h f).size)))
   | (go_at_call 124;refine(I _ _ _ _ _ _ _ x.2).mono ?_;rintro e Q ⟨rfl,q⟩)))
  go_wp2_with fail;exact eF (v:=ax #[]) (by simp[results]) rfl ⟨rfl,q.1⟩
section
variable {p:mN} {s:Sy} {d:gX} {w:ah}
def OT(M:aW)(a:Nat)(d b:gX)(w w':ah):Prop:=bH (λq=>d.ow q<0) w w'/\(∀q,q<w.heap.size->¬M q->b.ow q=d.ow q)/\(∀q,M q->1<=b.ow q)/\b.k=d.k/\b.es.length<=d.es.length+a/\b.wn<=d.wn+a/\b.bn<=d.bn+a
theorem pL{b:Type}(l:List (Int×b))(k j:Int)(v:b)(c:∀q∈l,q.1≠k):((l++ [(k,v)]).find? λq=>q.1==j)=if j=k then some (k,v)else l.find? λq=>q.1==j:=by
 rw[List.find?_append];by_cases a:j=k
 ·subst a;rw[if_pos rfl,qe.2 λq d=>by simpa using c q d];simp
 ·rw[if_neg a];have:(k==j)=false:=by simpa using λe:k=j=>a e.symm
  simp[this]
def Pj(d:gX)(M:aW)[DecidablePred M](a:Nat)(k:Int)(q:Nat):Int:=if M q then k else if q=a then -5 else d.ow q
theorem bE.addG(e:bE p s d w){m c:Nat}{nm:aq}{cs:Tc}{M:aW}[DecidablePred M](B:P1 p.lo m nm p.room cs [] (d.k+201) M w)(A:∀q,M q->d.ow q=0)(aa:s.ps.length<12/\s.last<90){w':ah}(f:bH (λq=>d.ow q=-5) w w')(P:d.ow c≠0->d.ow c=-5)(N:¬M c)(O:p.lo<=c/\c<w'.heap.size)(Q:c≠p.b)(o:w'.heap[p.b]?=some (.cells (eA p {s with last:=s.last+1} {d with po:=some c}) 139))(L:IM w' c (d.l++ [(s.last+1,m)])):bE p {s with last:=s.last+1,ps:=s.ps++ [(s.last+1,nm,cs,[])]} {d with ow:=Pj d M c (s.last+1),po:=some c,l:=d.l++ [(s.last+1,m)]} w':=by
 obtain⟨y,J,z,X,Y,Z⟩:=e.keys;have i:∀b,d.ow b≠0->Pj d M c (s.last+1) b=d.ow b:=λb h=>by
  unfold Pj;rw[if_neg λa=>h (A b a)];by_cases g:b=c
  ·subst g;rw[if_pos rfl,P h]
  ·rw[if_neg g]
 have r:∀b,Pj d M c (s.last+1) b≠0->p.lo<=b/\b<w'.heap.size:=λb h=>by
  unfold Pj at h;split at h
  ·rename_i a;have:=P1.lie2 B b a;exact⟨this.1,bf this.2 f.size⟩
  ·split at h
   ·rename_i a;subst a;exact O
   ·exact⟨(e.low b h).1,bf (e.low b h).2 f.size⟩
 have t:∀{t:Int},t≠ -5->∀b,d.ow b=t->¬d.ow b=-5:=λT b g a=>T (g.symm.trans a);have n:∀q∈s.ps,q.1≠s.last+1:=λq j=>by have:=(z q j).2;omega
 have R:∀q∈d.l,q.1≠s.last+1:=λq j=>by
  have K:q.1∈s.ps.map (·.1):=by rw[<-y];exact cd.2 ⟨q,j,rfl⟩
  obtain⟨v,u,g⟩:=cd.1 K;rw[<-g];exact n v u
 obtain⟨y1,y2,W⟩:=e.wyK f (t (by decide)) i (q:=Bg p {s with last:=s.last+1} {d with po:=some c}) rfl (rC o).1;obtain⟨H,I⟩:=e.evK f (t (by decide)) i;refine⟨r,o,(i p.b (by rw[e.own];decide)).trans e.own,⟨e.pgK f (t (by decide)) i,e.pg.2⟩,am ⟨c,rfl,(if_neg N).trans (if_pos rfl),Q,L⟩,⟨by simp[y],?_,λq j=>?_,by show 0<=s.last+1;omega,by show s.last+1<=90;omega,by simp;omega⟩,λk b q=>?_,⟨y1,y2,e.wy.2.2.1,e.wy.2.2.2.1,W⟩,e.bdK f (t (by decide)) i rfl (rC o).2,H,e.evt.1,I⟩
 ·simp only[fu,bA,dA];refine fL.2 ⟨J,by simp,λab U ad V=>?_⟩;obtain⟨v,u,rfl⟩:=cd.1 U;rw[dO.1 V];exact n v u
 ·show 1<=q.1/\q.1<=s.last+1;rcases du.1 j with a|a
  ·have:=z q a;omega
  ·rw[dO.1 a];show 1<=s.last+1/\s.last+1<=s.last+1;omega
 ·have q:dp (d.l++ [(s.last+1,m)]) k=some b:=q;unfold dp at q;rw[pL _ _ _ _ R]at q;by_cases g:k=s.last+1
  ·subst g;rw[if_pos rfl]at q;obtain rfl:m=b:=by simpa using q
   refine⟨nm,cs,[],?_,(B.kept (S:=λq=>d.ow q=-5) ⟨f.os,f.tape,f.output,f.size,f.block⟩ λb a=>by rw[A b a];decide).mono (λb a=>if_pos a) (aA _) λb a=>r b (by have a:Pj d M c (s.last+1) b=s.last+1:=a;rw[a];omega),aM _⟩;unfold Sy.get;simp only;rw[pL _ _ _ _ n,if_pos rfl];rfl
  ·rw[if_neg g]at q;have C:dp d.l k=some b:=q;have:=(e.key C).1;obtain⟨D,E,F,x,G⟩:=e.psK f (aA _) (t (by omega)) i r C;refine⟨D,E,F,?_,G⟩;unfold Sy.get at x ⊢;simp only;rw[pL _ _ _ _ n,if_neg g];exact x
open Classical in
theorem bE.add(n:bE p s d w)(a:Int){y:Nat}{nm:aq}{cs:Tc}{M:aW}(H:P1 p.lo y nm p.room cs [] (d.k+201) M w)(V:∀q,M q->d.ow q=0)(aU:s.ps.length<12/\s.last<90)(aa:d.k<=92000)(bd:d.es.length<=99000):au 86 #[aE p.b,ae a,aE y] w λe w'=>e=aw (ax #[])/\Hid (∃B,bE p (s.add a nm cs) B w'/\OT M 1 d B w w'):=by
 obtain⟨aT,ag⟩:=n.lo;have L:=n.box;obtain⟨a8,a9,ba,aA⟩:=n.cells;obtain⟨_,_,aF,bb,bc,_⟩:=n.keys;have Z:∀{h:ah}{cs:Array az}{o:Nat},h.heap[p.b]?=some (.cells cs 139)->h.frozen? ⟨p.b,o,none⟩=false:=λe=>by simp[World.frozen?,e]
 obtain⟨c,m,aX,I,aG,aN,N,aI,O,af⟩:∃c m,((d.po=none/\c=w.heap.size/\m=(w.setCell ⟨p.b,3,none⟩ (.map (some c))).alloc (.map #[] 0))\/(d.po=some c/\m=w))/\m.heap[p.b]?=some (.cells (eA p s {d with po:=some c}) 139)/\IM m c d.l/\bH (λq=>d.ow q=-5) w m/\(c<w.heap.size->d.ow c=-5)/\¬M c/\c≠p.b/\p.lo<=c/\c<m.heap.size:=by
  rcases n.pm with⟨z,t⟩|⟨c,z,t,G,aD⟩
  ·have aL:(w.setCell ⟨p.b,3,none⟩ (.map (some w.heap.size))).heap[p.b]?=some (.cells (eA p s {d with po:=some w.heap.size}) 139):=by
     simp[World.setCell,bR,L,eA]
   have Q:(w.setCell ⟨p.b,3,none⟩ (.map (some w.heap.size))).heap.size=w.heap.size:=by simp[World.setCell]
   have aa:bH (λq=>d.ow q=-5) w ((w.setCell ⟨p.b,3,none⟩ (.map (some w.heap.size))).alloc (.map #[] 0)):=((bN w p.b 3 _).mono λq _ e=>by rw[e];exact n.own).trans (aO (aV _ _) λ_=>False) λ_ _ e=>e.elim;refine⟨w.heap.size,_,ak ⟨z,rfl,rfl⟩,(heap_alloc_old _ _ (by rw[Q];exact ag)).trans aL,?_,aa,λg=>by omega,λg=>?_,by omega,aT,?_⟩
   ·rw[t];have:=xy.new (f:=Be) (w.setCell ⟨p.b,3,none⟩ (.map (some w.heap.size)));rw[Q]at this;exact this
   ·have:=(P1.lie2 H _ g).2;omega
   ·have:=aK (w.setCell ⟨p.b,3,none⟩ (.map (some w.heap.size))) (.map #[] 0);rw[Q]at this;exact(aR.1 this).1
  ·refine⟨c,w,am ⟨z,rfl⟩,?_,aD,bH.refl _ _,λ_=>t,λg=>?_,G,n.low c (by rw[t];decide)⟩
   ·rw[L];unfold eA;rw[z]
   ·have:=V c g;rw[t]at this;cases this
 obtain⟨x,E⟩:∃x,x=m.setCell ⟨p.b,2,none⟩ (ae (s.last+1)):=⟨_,rfl⟩;have J:x.heap[p.b]?=some (.cells (eA p {s with last:=s.last+1} {d with po:=some c}) 139):=by
  rw[E];simp[World.setCell,bR,I,eA]
 have bh:x.heap.size=m.heap.size:=by rw[E];simp[World.setCell]
 have ab:bH (λq=>q=p.b) m x:=by rw[E];exact bN m p.b 2 _
 have aP:bH (λq=>d.ow q=-5) w x:=aN.trans ab λq _ e=>by rw[e];exact n.own
 have aH:IM x c d.l:=aG.kept (ab.block c af.2 O);obtain⟨A,D⟩:∃A:Sy,A={s with last:=s.last+1,ps:=s.ps++ [(s.last+1,nm,cs,[])]}:=⟨_,rfl⟩;obtain⟨d3,u⟩:∃d3:gX,d3={d with ow:=Pj d M c (s.last+1),po:=some c,l:=d.l++ [(s.last+1,y)]}:=⟨_,rfl⟩;have P:dp d.l (s.last+1)=none:=by
  cases e:dp d.l (s.last+1)with
  | none=>rfl
  | some b=>have:=(n.key e).2;omega
 have aM:dp d3.l (s.last+1)=some y:=by
  rw[u];show dp (d.l++ [(s.last+1,y)]) (s.last+1)=_;unfold dp at P ⊢;rw[List.find?_append,Option.map_eq_none_iff.1 P];simp
 have aS:A.last=s.last+1:=by rw[D]
 refine Jf p.b y c d.po a s.last (s.last+1) w m x (λy0 y1 y2 ya yl yc h=>∃i:Tc,(i.1=(y0,y1,y2)/\i.2.1=(ya,yc)/\i.2.2.length=yl)/\In h.heap.size h 13 i/\bK 13 i=0/\cn 13 i=cs/\bE p A d3 h/\bH (λq=>d.ow q=-5) w h) (λh=>bE p A d3 h/\bH (λq=>d.ow q=-5) w h) (λw'=>∃B,bE p (s.add a nm cs) B w'/\OT M 1 d B w w') (by rw[IntKind.wrap];simp[IntKind.bits,IntKind.signed];omega) ag ⟨aA,Z L⟩ aX ⟨aj I 2,Z I⟩ E (λh j=>?_) (λh j=>?_) (λh ay C j=>?_) (λh ay C j=>?_) (λy0 y1 y2 ya yl yc h aJ=>?_)
 ·have X:=fj j J;exact⟨aj X 2,aj X 3⟩
 ·obtain⟨S,a2,a3,an,bj⟩:=(xy.put (aH.kept (j.block c (by omega))) underlying131 P y);have K:S.heap[p.b]?=_:=(an.block p.b (bf (aR.1 J).1 j.size) O.symm).trans (fj j J);have ad:bH (λq=>d.ow q=-5) w S:=by
   have aQ:bH (λq=>d.ow q=-5) w h:=aP.trans (aO j λ_=>False) λ_ _ e=>e.elim;exact aQ.trans an λq r e=>by rw[e]at r ⊢;exact N r
  refine⟨S,a2,⟨aj K 2,aj K 3⟩,?_,ad⟩;rw[D,u];exact n.addG H V aU ad (λg=>N (n.low _ g).2) aI ⟨af.1,by have:=j.size;omega⟩ O K a3
 ·have:=(C.1.later j).cells.2.2.1;rw[aS]at this;exact this
 ·have W:=C.1.later j;obtain⟨a1,aC,aB,v,R,bi⟩:=W.ps _ _ aM;have e:A.get (s.last+1)=some (nm,cs,[]):=by
   rw[D];unfold Sy.get;simp only;rw[pL _ _ _ _ λq r=>by have:=(aF q r).2;omega,if_pos rfl];rfl
  rw[e]at v;obtain⟨rfl,rfl,rfl⟩:nm=a1/\cs=aC/\[]=aB:=by
   injection v with v;injection v with z t;injection t with t G;exact⟨z,t,G⟩
  have bg:d3.k=d.k:=by rw[u]
  refine(R.state (by omega)).mono ?_;rintro e w' ⟨i,rfl,F⟩;obtain⟨y1,y2,bk,a6,a7⟩:=F.out;exact⟨i.1.1,i.1.2.1,i.1.2.2,i.2.1.1,i.2.2.length,i.2.1.2,rfl,y1,i,⟨rfl,rfl,rfl⟩,y2,a6,a7,W.later y1,(C.2.trans (aO j λ_=>False) λ_ _ e=>e.elim).trans (aO y1 λ_=>False) λ_ _ e=>e.elim⟩
 ·obtain⟨i,⟨f1,f2,f3⟩,aY,aZ,a0,ai,al⟩:=aJ;obtain⟨⟨bl,bm,bn⟩,⟨bo,bp⟩,bq⟩:=i;simp only[gR]at f1 f2;obtain⟨rfl,rfl,rfl⟩:=f1;obtain⟨rfl,rfl⟩:=f2;subst f3;have Y:d3.es=d.es:=by rw[u]
  refine(ai.tell Am a (s.last+1) _ _ _ _ _ _ _ (lf aY aZ) (by rw[Y];omega)).mono ?_;rintro e w' ⟨rfl,F⟩;obtain⟨d4,v,R⟩:=F.up ai;rw[a0,D]at v;refine⟨rfl,⟨d4,v,?_⟩,?_⟩
  ·obtain⟨a4,ao,a5,ap,ar,av⟩:=R;have T:∀q,q<w.heap.size->¬M q->d3.ow q=d.ow q:=λq r g=>by
    rw[u];refine(if_neg g).trans ?_;by_cases e:q=c
    ·rw[if_pos e,e];exact(N (e▸r)).symm
    ·exact if_neg e
   have U:∀q,M q->d3.ow q=s.last+1:=λq g=>by
    rw[u];exact if_pos g
   have be:=al.size;refine⟨(al.mono λq _ e=>by rw[e];decide).trans a4 λq r e=>?_,λq r g=>(ao q (by omega)).trans (T q r g),λq g=>?_,by rw[a5,u],by rw[Y]at ap;exact ap,by rw[u]at ar;exact ar,by rw[u]at av;exact av⟩
   ·by_cases g:M q
    ·rw[U q g]at e;omega
    ·rw[T q r g]at e;exact e
   ·have:=(P1.lie2 H q g).2;rw[ao q (by omega),U q g];omega
  ·have:=v.cells.2.2.1;exact this
end
theorem FA(c:Nat)(nm:aq)(f g:Int)(h:aq)(xa:ay)(i xc:Nat)(room ne t:Int)(may o:Bool)(w:ah)(C:Nat->bF)(R:Int->Int->bF)(ak:c<w.heap.size)(T:Hid (ai w c 1 (ae room)))(J:Hid (∀W,ap w W->au 83 #[aE c,ae 1] W λe w'=>e=aw (.bool may)/\w'=W))(z:Hid (∀W,ap w W->au 84 #[aE c,af nm] W λe w'=>e=aw (.bool o)/\ap W w'))(r:Hid (∀W,ap w W->au 85 #[af nm,.agg #[ae f,ae g,af h,ag xa i xc],ae room] W λe w'=>∃p:ay,e=aw (ax #[.pointer p,ae ne])/\Hid (ap W w'/\(ne=0->∃b,p=some ⟨b,0,none⟩/\C b w'))))(l:Hid (∀b W,(may && o)=true->ne=0->C b W->au 86 #[aE c,ae 0,aE b] W λe w'=>e=aw (ax #[])/\Hid (R t 0 w'/\ai w' c 2 (ae t))))(j:Hid (∀W,ap w W->(may=false->R 0 2 W)/\((may && !o)=true->R 0 4 W)/\((may && o)=true->ne≠0->R 0 ne W))):au 56 #[aE c,af nm,.agg #[ae f,ae g,af h,ag xa i xc]] w λe w'=>∃v Q,e=aw (ax #[ae v,ae Q])/\Hid (R v Q w'):=by
 go_enter func56,ntmps56;go_upto_region 1 with fail;generalize O:w.alloc _=G;have u:Hid (ap w G/\G.heap[w.heap.size]?=some (.cells #[ae f,ae g,af h,ag xa i xc] 54)):=by
  rw[<-O];exact⟨aV _ _,aK _ _⟩
 clear O;obtain⟨a,E⟩:∃a,a=w.heap.size:=⟨_,rfl⟩;rw[<-E];have K:Hid (G.heap[a]?=some (.cells #[ae f,ae g,af h,ag xa i xc] 54)):=by rw[E];exact u.2
 have HB:=av u.1;clear E u;go_wp2_with fail;refine(J _ HB).mono ?_;rintro e ao ⟨rfl,P⟩;obtain rfl:=P.symm;clear P J;cases may
 ·have d:=av ((j _ HB).1 rfl);clear l j r z;go_wp2_with fail;exact aD (v:=ax #[ae 0,ae 2]) (by simp[results,results56,go_sem]) rfl ⟨0,2,rfl,d⟩
 go_wp2_with fail;refine(z _ HB).mono ?_;rintro e H ⟨rfl,D⟩;have m:=av (HB.trans (D.mono HB.size));have A:=av (fj D K);clear z K HB D;cases o
 ·have d:=av ((j _ m).2.1 rfl);clear l j r;go_wp2_with fail;exact aD (v:=ax #[ae 0,ae 4]) (by simp[results,results56,go_sem]) rfl ⟨0,4,rfl,d⟩
 have y:Hid (ap H H.drew):=(aG _ _).drew;have n:=av (m.trans (y.mono m.size));have B:=av (fj y A);have q:Hid (∀W:ah,ap w W->W.heap[a]?=some (.cells #[ae f,ae g,af h,ag xa i xc] 54)->ai W c 1 (ae room)/\ai W a 0 (ae f)/\ai W a 1 (ae g)/\ai W a 2 (af h)/\ai W a 3 (ag xa i xc)):=λW ad s=>⟨(ad.cell (p:=⟨c,1,none⟩) ak).trans T,aj s 0,aj s 1,aj s 2,aj s 3⟩;obtain⟨Z,V,X,N,Y⟩:=q.out H m A;go_upto_region 5 with fail
 go_region_held3 (λW=>W.cell? ⟨c,1,none⟩=some (ae room)/\W.cell? ⟨a,0,none⟩=some (ae f)/\W.cell? ⟨a,1,none⟩=some (ae g)/\W.cell? ⟨a,2,none⟩=some (af h)/\W.cell? ⟨a,3,none⟩=some (ag xa i xc))
  (first|exact q _ n B|exact q _ x L) ((first
   | (go_at_call 85;refine(r _ n).mono ?_;rintro e am ⟨al,rfl,k⟩;have L:=av (fj k.1 B);have x:=av (n.trans (k.1.mono n.size)))))
 have d:=av (j _ x);clear Z V X N Y q B n y A m j r L x;by_cases F:ne=0
 ·subst F;obtain⟨b,rfl,M⟩:∃b,al=some ⟨b,0,none⟩/\Hid (C b am):=by
   obtain⟨b,aa,ab⟩:=k.out.2 rfl;exact⟨b,aa,ab⟩
  have S:=av (l _ _ rfl rfl M);clear l M k d;go_wp2_with fail;refine S.mono ?_;rintro e ar ⟨rfl,I⟩;have N:=I.2;go_wp2_with fail;exact aD (v:=ax #[ae t,ae 0]) (by simp[results,results56,go_sem]) rfl ⟨t,0,rfl,I.1⟩
 ·have U:=av (d.2.2 rfl F);have an:(ne==0)=false:=by simpa using F
  clear l k d;go_wp2_with fail;exact aD (v:=ax #[ae 0,ae ne]) (by simp[results,results56,go_sem]) rfl ⟨0,ne,rfl,U⟩
section
variable {p:mN} {s:Sy} {d:gX} {w:ah}
theorem Lm{n:Nat}(a:s.may n=true):s.ps.length+n<=12/\s.last+n<=90:=by
 unfold Sy.may at a;simp only[aS,cU]at a;omega
theorem bE.start(j:bE p s d w)(nm:aq)(O:nm.size<=9223372036854775807){m:Nat}(x:Tm (m+1))(P:In w.heap.size w (m+1) x)(K:(aH (m+1) x).length<=2097152)(M:d.k<=92000)(J:d.es.length<=99000):au 56 #[aE p.b,af nm,dF (m+1) x] w λe w'=>∃v r,e=aw (ax #[ae v,ae r])/\Hid ((r=(s.start p.n p.prog p.room nm (m+1) x).2/\(r=0->v=s.last+1))/\∃i,bE p (s.start p.n p.prog p.room nm (m+1) x).1 i w'/\gE 1 0 d i w w'):=by
 obtain⟨q,f⟩:∃q,q=s.start p.n p.prog p.room nm (m+1) x:=⟨_,rfl⟩;rw[<-f];unfold Sy.start at f;have B:∀a,ap w a->q.1=s->∃i,bE p q.1 i a/\gE 1 0 d i w a:=λa c e=>⟨d,by rw[e];exact j.later c,(ex.later d c).un.mono (aM _) (aA _)⟩;refine FA p.b nm x.1.1 x.1.2.1 x.1.2.2 x.2.1.1 x.2.2.length x.2.1.2 p.room (fw (m+1) x p.room nm) (s.last+1) (s.may 1) (lW p.n p.prog nm) w (λy a=>∃u,ap w u/\ap u a/\P1 p.lo y nm p.room (cn (m+1) x) [] (d.k+201) (λb=>u.heap.size<=b/\b<a.heap.size) a) (λv r w'=>(r=q.2/\(r=0->v=s.last+1))/\∃i,bE p q.1 i w'/\gE 1 0 d i w w') j.lo.2 j.cells.2.1 (λa c=>(j.later c).mayHave 1 (by decide)) (λa c=>(j.later c).knows nm) (λa c=>?_) (λy a l t L=>?_) λa c=>⟨λe=>?_,λe=>?_,λe t=>?_⟩
 ·refine(P1.new m x p.room nm a O ((P.below c).mono c.size) K).mono ?_;rintro e w' ⟨g,rfl,z⟩;obtain⟨o,E,C⟩:=z.out;refine⟨g,rfl,o,λe=>?_⟩;obtain⟨y,l,t,V,G⟩:=C e;have:=j.lo.1;have:=c.size;exact⟨y,l,a,c,o,G.mono (λb h=>h) (by omega) λb h=>⟨by omega,h.2⟩⟩
 ·simp only[aS]at l;rw[if_neg (by rw[l.1];decide),if_neg (by rw[l.2];decide),if_neg (by rw[t];decide)]at f;obtain⟨u,o,E,C⟩:=L;have A:=o.trans (E.mono o.size);have I:=j.later A;have Z:=o.size;have W:=Lm l.1;refine(I.add 0 C (λg h=>?_) (by omega) M J).mono ?_
  ·have:=j.low g;by_cases F:d.ow g=0
   ·exact F
   ·have:=(this F).2;omega
  ·rintro e w' ⟨rfl,z⟩;obtain⟨i,D,H⟩:=z;refine⟨rfl,⟨⟨by rw[f],λ_=>rfl⟩,i,by rw[f];exact D,?_⟩,D.cells.2.2.1⟩;obtain⟨Q,R,aa,S,U⟩:=H;have N:bH (λg=>d.ow g≠0) w a:=aO A _;have Y:=A.size;exact⟨N.trans (Q.mono (T:=λg=>d.ow g≠0) λg _ e=>by omega) λg _ e=>e,λg X=>R g (by omega) λh=>by omega,cR S,U⟩
 ·rw[if_pos e]at f;exact⟨⟨by rw[f],(λh=>by cases h)⟩,B a c (by rw[f])⟩
 ·simp only[aS,p8]at e;rw[if_neg (by rw[e.1];decide),if_pos e.2]at f;exact⟨⟨by rw[f],(λh=>by cases h)⟩,B a c (by rw[f])⟩
 ·simp only[aS]at e;rw[if_neg (by rw[e.1];decide),if_neg (by rw[e.2];decide),if_pos t]at f;exact⟨⟨by rw[f],λh=>absurd h t⟩,B a c (by rw[f])⟩
end
theorem Pd:(Tryz.prog.info? 141).map (λi=>(i.zero,i.size,i.bytes))=some (some (.pointer none),1,8):=by kernel_rfl
theorem IC(m:Nat)(pa:ay)(pl pc:Nat)(may:Bool)(room:Int)(w:ah)(aA u x:Nat->Int)(nm y:Nat->aq)(xa:Nat->ay)(z xc:Nat->Nat)(l:Nat->Bool)(ne:Nat->Int)(r:Nat->List Nat->az->bF)(N:Nat->Nat->List Nat->az->bF)(R:az->Bool->bF)(bM:pl<=1000)(bG:m<w.heap.size)(aX:Hid (ai w m 1 (ae room)))(V:Hid (∀j,j<pl->∃g,pa=some ⟨g,0,none⟩/\g<w.heap.size/\Hid (ai w g (j*6) (ae (aA j))/\ai w g (j*6+1) (af (nm j))/\ai w g (j*6+2) (ae (u j))/\ai w g (j*6+3) (ae (x j))/\ai w g (j*6+4) (af (y j))/\ai w g (j*6+5) (ag (xa j) (z j) (xc j)))))(a0:Hid (au 83 #[aE m,ae pl] w λe w'=>e=aw (.bool may)/\w'=w))(Y:Hid (∀j W,j<pl->ap w W->au 84 #[aE m,af (nm j)] W λe w'=>e=aw (.bool (l j))/\ap W w'))(Z:Hid (∀j d v W,j<pl->l j=true->ap w W->r j d v W->au 85 #[af (nm j),.agg #[ae (u j),ae (x j),af (y j),ag (xa j) (z j) (xc j)],ae room] W λe w'=>∃p:ay,e=aw (ax #[.pointer p,ae (ne j)])/\Hid (ap W w'/\(ne j=0->∃k,p=some ⟨k,0,none⟩/\N j k d v w'))))(al:Hid (r 0 [] (ag none 0 0) w))(q:Hid (∀j d v W D,r j d v W->ap W D->r j d v D))(M:Hid (∀j k d a c g bt W aN D,j<pl->N j k d (ag a j c) W->ap W aN->aN.grownBy D (Value.slice a j c).ownBlock->((Value.slice a j c).ownBlock=some g\/g=aN.heap.size)->g<D.heap.size->r (j+1) (d++ [k]) (ag (some ⟨g,0,none⟩) (j+1) bt) D))(K:Hid (∀W,ap w W->(may=false\/∃j,j<pl/\(l j=false\/ne j≠0))->R (ag none 0 0) false W))(ab:Hid (∀W d a c,ap w W->may=true->(∀j,j<pl->l j=true/\ne j=0)->d.length=pl->W.ownsRow w.heap.size 141 1 (ag a pl c) pl (d.map Be)->r pl d (ag a pl c) W->R (ag a pl c) true W)):au 126 #[aE m,ag pa pl pc] w λe w'=>∃v b,e=aw (ax #[v,.bool b])/\Hid (R v b w'):=by
 obtain⟨bH,hit,bh,bi,bj⟩:=bS Pd;have X:=av (⟨hit,bh,bi,bj⟩:_/\_/\_/\_);clear hit bh bi bj;go_enter func126,ntmps126;go_wp2_with fail;refine a0.mono ?_;rintro e bQ ⟨rfl,bk⟩;obtain rfl:=bk.symm;clear bk a0;cases may
 ·have n:=av (K _ (aG _ _) (ak rfl));clear K ab M al q Z Y V;go_wp2_with fail;exact aD (v:=ax #[ag none 0 0,.bool false]) (by simp[results,results126,go_sem]) rfl ⟨_,_,rfl,n⟩
 go_wp2_with fail;go_loopw [6,18] (λo i wr=>∃(j:Nat)(a:ay)(c:Nat),j<=pl/\i=ae j/\o=ag a j c/\Hid (∃d,d.length=j/\wr.ownsRow w.heap.size 141 1 (ag a j c) j (d.map Be)/\r j d (ag a j c) wr/\ap w wr/\∀i,i<j->l i=true/\ne i=0)) (λ_ i _=>pl-(intOf i).toNat)
 case atStart=>exact⟨0,none,0,aM _,rfl,rfl,[],rfl,eW _ _ _ _,al,aG _ _,λi h=>by omega⟩
 case round=>
 obtain⟨j,a,c,bL,rfl,rfl,aa⟩:=hrel;by_cases Q:j<pl
 ·obtain⟨g,rfl,bE,aY⟩:=V.out j Q;obtain⟨d,P,S,U,E,T⟩:=aa.out;have a5:=av S;have a9:=av U;have HB:=av E;have a4:=av T;have bD:=av P;have s:∀{f:Nat}{v:az},ai w g f v->ai wr g f v:=λ{f v} h=>(E.cell (p:=⟨g,f,none⟩) bE).trans h;obtain⟨ba,ao,ar,bb,bc,bd⟩:=aY.out;have f0:=s ba;have f1:=s ao;have f2:=s ar;have f3:=s bb;have f4:=s bc;have f5:=s bd;have bO:(0:Int)<=(j:Int):=by omega
  have bP:(j:Int)<(pl:Int):=by omega
  clear s ba ao ar bb bc bd aY V S U E T P aa;go_upto_region 7 with fail;generalize bl:wr.alloc _=aB;have F:Hid (ap wr aB/\aB.heap[wr.heap.size]?=some (.cells #[ae (aA j),af (nm j),ae (u j),ae (x j),af (y j),ag (xa j) (z j) (xc j)] 247)):=by
   rw[<-bl];exact⟨aV _ _,aK _ _⟩
  clear bl f0 f1 f2 f3 f4 f5;obtain⟨f,aS⟩:∃f,f=wr.heap.size:=⟨_,rfl⟩;rw[<-aS];have aI:Hid (aB.heap[f]?=some (.cells #[ae (aA j),af (nm j),ae (u j),ae (x j),af (y j),ag (xa j) (z j) (xc j)] 247)):=by rw[aS];exact F.2
  have G:=av (HB.trans (F.1.mono HB.size));have a7:=av (q _ _ _ _ _ a9 F.1);have a1:=av (bC a5 (aO F.1 λ_=>False) λ_ _ h=>h);clear aS F a5 a9 HB;have C:Hid (∀W:ah,ap w W->W.heap[f]?=some (.cells #[ae (aA j),af (nm j),ae (u j),ae (x j),af (y j),ag (xa j) (z j) (xc j)] 247)->ai W m 1 (ae room)/\ai W f 1 (af (nm j))/\ai W f 2 (ae (u j))/\ai W f 3 (ae (x j))/\ai W f 4 (af (y j))/\ai W f 5 (ag (xa j) (z j) (xc j))):=λW aQ h=>⟨(aQ.cell (p:=⟨m,1,none⟩) bG).trans aX,aj h 1,aj h 2,aj h 3,aj h 4,aj h 5⟩;have aP:=(C aB G aI).2.1;have aZ:=av (λW=>Y j W Q);have aC:=av (λd v W=>Z j d v W Q);have L:=av (λW aQ e=>K W aQ (am ⟨j,Q,e⟩));have aH:Hid (l j=true->ne j=0->∀i,i<j+1->l i=true/\ne i=0):=λbA bB i bK=>by
   by_cases e:i=j
   ·subst e;exact⟨bA,bB⟩
   ·exact a4 i (by omega)
  clear Y Z K ab aX a4 al;generalize l j=bI at*;generalize ne j=bm at*;go_wp2_with fail;refine(aZ _ G).mono ?_;rintro e aU ⟨rfl,O⟩;have B:=av (G.trans (O.mono G.size));have ad:=av (fj O aI);have aL:=av (q _ _ _ _ _ a7 O);have aF:=av (bC a1 (aO O λ_=>False) λ_ _ h=>h);clear aZ G aI a7 a1 O aP;cases bI
  ·have n:=av (L _ B (ak rfl));clear L aC C aL aF ad B M q aH;go_wp2_with fail;exact aD (v:=ax #[ag none 0 0,.bool false]) (by simp[results,results126,go_sem]) rfl ⟨_,_,rfl,n⟩
  have J:Hid (ap aU aU.drew):=(aG _ _).drew;have I:=av (B.trans (J.mono B.size));have aJ:=av (fj J ad);have a8:=av (q _ _ _ _ _ aL J);have a3:=av (bC aF (aO J λ_=>False) λ_ _ h=>h);obtain⟨bx,aP,bu,bv,bw,an⟩:=C.out aU B ad;clear aF aL;go_upto_region 9 with fail
  go_region_held3 (λW=>W.cell? ⟨m,1,none⟩=some (ae room)/\W.cell? ⟨f,1,none⟩=some (af (nm j))/\W.cell? ⟨f,2,none⟩=some (ae (u j))/\W.cell? ⟨f,3,none⟩=some (ae (x j))/\W.cell? ⟨f,4,none⟩=some (af (y j))/\W.cell? ⟨f,5,none⟩=some (ag (xa j) (z j) (xc j)))
   (first|exact C _ I aJ|exact C _ H a6) ((first
    | (go_at_call 85;refine(aC _ _ _ (by first|rfl|trivial) I a8).mono ?_;rintro e aW ⟨bJ,rfl,A⟩;have a6:=av (fj A.1 aJ);have H:=av (I.trans (A.1.mono I.size));have a2:=av (bC a3 (aO A.1 λ_=>False) λ_ _ h=>h))))
  clear bx aP bu bv bw an C aJ I J ad B aC a6 a8 a3;by_cases aT:bm=0
  ·subst aT;obtain⟨k,rfl,br⟩:∃k,bJ=some ⟨k,0,none⟩/\Hid (N j k d (ag a j c) aW):=by
    obtain⟨k,ao,ar⟩:=A.out.2 rfl;exact⟨k,ao,ar⟩
   have bp:=av H.size;clear L A
   go_wp2_with (first
    | (at_builtin;refine wpList_append_lies _ rfl _ _ 203 rfl w.heap.size 141 bH _ 1 8 underlying203 X.1 X.2.1 X.2.2.1 X.2.2.2 rfl (by decide) (ag a j c) j (d.map Be) rfl (a2.alloc _) ⟨aW.heap.size,0,none⟩ 1 1 [aE k] rfl rfl (World.news_of_block (cs:= #[aE k]) (t:=141) (fr:=(0,0)) (aK aW _)) (by simp[Value.oneCell']) (by decide) (by unfold maxLen;omega) (by omega) (by have:=bp.out;simp;omega) _ rfl ?_;intro bz an bR bg aR be bf;have bo:=av bg;have bs:=av (M _ _ _ _ _ _ an _ _ _ Q br (aV _ _) aR be bf);have bn:=av (H.trans (kO a2 aR H.size));clear bg aR be bf))
   go_roundw
   case rel=>exact⟨j+1,some ⟨bz,0,none⟩,an,by omega,by go_num,rfl,d++ [k],by rw[bq,bD.out];rfl,by rw[fu];exact bo,bs,bn,aH trivial rfl⟩
   case measure=>simp[intOf];omega
  ·have n:=av (L _ H (am aT));have bN:(bm==0)=false:=by simpa using aT
   clear L A M q aH;go_wp2_with fail;exact aD (v:=ax #[ag none 0 0,.bool false]) (by simp[results,results126,go_sem]) rfl ⟨_,_,rfl,n⟩
 ·obtain rfl:j=pl:=by omega
  obtain⟨d,P,S,U,E,T⟩:=aa.out;have n:=av (ab _ d _ _ E trivial T P S U);clear K ab M al q Z Y V aa P S U E T;go_wp2_with fail;exact aD (v:=ax #[ag a j c,.bool true]) (by simp[results,results126,go_sem]) rfl ⟨_,_,rfl,n⟩
theorem wP{d:Type}(f:d->List az)(k:Nat)(c:∀a,(f a).length=k):(l:List d)->(i:Nat)->(a:d)->l[i]?=some a->∀(t:Nat)(b:az),(f a)[t]?=some b->(l.flatMap f)[i*k+t]?=some b
 | [],i,a,h,_,_,_=>by simp at h
 | x::l,0,a,h,t,b,hu=>by
  simp at h;subst h;rw[bL,dN (by have:=(bi.1 hu).1;omega)];simpa using hu
 | x::l,i+1,a,h,t,b,hu=>by
  rw[bL,fq (by rw[c,Nat.succ_mul];omega),c,show (i+1)*k+t-k=i*k+t by rw[Nat.succ_mul];omega];exact wP f k c l i a (by simpa using h) t b hu
theorem sE{e:TypeId}{v:az}{q:Type}{f:q->List az}{l:List q}(m:w.ownsRow base e k v n (l.flatMap f))(A:0<k)(o:∀d,(f d).length=k):∃a c,v=ag a n c/\(∀b,a=some b->v.ownBlock=some b.block)/\∀(i:Nat)(d:q),l[i]?=some d->∃g,a=some ⟨g,0,none⟩/\g<w.heap.size/\∀(t:Nat)(j:az),(f d)[t]?=some j->ai w g (i*k+t) j:=by
 have s:=m;rcases m.2 with⟨rfl,r⟩|⟨g,c,C,rfl,D,z,F⟩
 ·refine⟨none,0,by rw[r],(λb e=>by cases e),λi d p=>?_⟩;have u:=wP f k o l i d p 0 _ (aU (by rw[o];exact A));have E:=(bi.1 u).1;have x:=m.1;rw[r,Nat.zero_mul]at x;omega
 ·refine⟨_,c,rfl,(λb e=>by cases e;rfl),λi d p=>⟨g,rfl,(aR.1 z).1,λt j B=>?_⟩⟩;have y:=World.ownsRow.cells s (g:=g) rfl _ _ (wP f k o l i d p t j B);rwa [show∀h,(⟨g,0,none⟩:Addr).add h=⟨g,h,none⟩from λh=>by cases h<;>simp[Addr.add]]at y
def mQ(lo:Nat)(room:Int)(K:Nat)(e:aW)(B:Nat)(w:ah):List (Int×aq×Tc)->List Nat->Nat->Prop
 | [],[],c=>c<=B
 | x::l,b::bs,c=>∃a d,(c<=a/\a<=d)/\P1 lo b x.2.1 room x.2.2 [] K (λq=>a<=q/\q<d) w/\(∀q,a<=q->q<d->¬e q)/\mQ lo room K e B w l bs d
 | _,_,_=>False
section
variable {lo K:Nat} {room:Int} {X:aW} {B:Nat} {w:ah}
theorem mQ.le:{l:List (Int×aq×Tc)}->{a:List Nat}->{c:Nat}->mQ lo room K X B w l a c->c<=B
 | [],[],_,h=>h
 | [],_::_,_,h=>h.elim
 | _::_,[],_,h=>h.elim
 | _::_,_::_,_,⟨c1,c2,h1,_,_,h4⟩=>by have:=h4.le;omega
theorem mQ.kept2{w':ah}{S f:aW}{e c0:Nat}(a:bH S w w')(j:∀q,c0<=q->q<B->S q->X q)(k:∀q,q<B->f q->X q)(i:B<=e):{l:List (Int×aq×Tc)}->{g:List Nat}->{c:Nat}->c0<=c->mQ lo room K X B w l g c->mQ lo room K f e w' l g c
 | [],[],_,_,h=>aF h i
 | [],_::_,_,_,h=>h.elim
 | _::_,[],_,_,h=>h.elim
 | _::_,_::_,_,hc,⟨c1,c2,h1,h2,h3,h4⟩=>by
  have o:=h4.le;exact⟨c1,c2,h1,h2.kept (S:=S) ⟨a.os,a.tape,a.output,a.size,a.block⟩ λb q d=>h3 b q.1 q.2 (j b (by omega) (by omega) d),λq m n d=>h3 q m n (k q (by omega) d),h4.kept2 a j k i (by omega)⟩
theorem mQ.kept{w':ah}{S b:aW}{a:Nat}(i:bH S w w')(g:∀q,q<B->S q->X q)(h:∀q,q<B->b q->X q)(f:B<=a){l:List (Int×aq×Tc)}{d:List Nat}{c:Nat}(e:mQ lo room K X B w l d c):mQ lo room K b a w' l d c:=e.kept2 (c0:=0) i (λq _=>g q) h f (aM _)
theorem mQ.snoc{a B2 e b:Nat}{x:Int×aq×Tc}(g:B<=a)(d:a<=B2/\B2<=e)(i:P1 lo b x.2.1 room x.2.2 [] K (λq=>a<=q/\q<B2) w)(j:∀q,a<=q->q<B2->¬X q):{l:List (Int×aq×Tc)}->{f:List Nat}->{c:Nat}->mQ lo room K X B w l f c->mQ lo room K X e w (l++ [x]) (f++ [b]) c
 | [],[],_,h=>⟨a,B2,⟨aF h g,d.1⟩,i,j,d.2⟩
 | [],_::_,_,h=>h.elim
 | _::_,[],_,h=>h.elim
 | _::_,_::_,_,⟨c1,c2,h1,h2,h3,h4⟩=>⟨c1,c2,h1,h2,h3,h4.snoc g d i j⟩
end
section
variable {p:mN} {s:Sy} {d:gX} {w:ah}
theorem NA{n:Nat}{x:Tm n}(room:Int)(nm:aq)(b:bK n x=0):fw 13 (cn n x) room nm=fw n x room nm:=by
 have a:=eG b;unfold fw jm;rw[bO a,cG _ _ _ _ a,kX _ _ _ _ a]
theorem bE.made(z:bE p s d w){N ad:Nat}{pa:ay}{pl pc:Nat}{t:List (Int×aq×Tm (N+1))}(aF:w.ownsRow ad 247 6 (ag pa pl pc) pl (t.flatMap λg=>Pw g.1 g.2.1 g.2.2))(az:t.length=pl)(Y:pl<=1000)(aG:∀g∈t,bK _ g.2.2=0/\In w.heap.size w _ g.2.2):au 126 #[aE p.b,ag pa pl pc] w λe w'=>∃v b,e=aw (ax #[v,.bool b])/\Hid (ap w w'/\b=s.made p.n p.prog p.room (t.map λg=>(g.1,g.2.1,cn _ g.2.2))/\(b=true->∃m a c,v=ag a pl c/\m.length=pl/\w'.ownsRow w.heap.size 141 1 v pl (m.map Be)/\mQ p.lo p.room (d.k+201) (λq=>v.ownBlock=some q) w'.heap.size w' (t.map λg=>(g.1,g.2.1,cn _ g.2.2)) m w.heap.size)):=by
 have aC:lk (p.n+1) p.prog=true:=(gP z.pg.2.2.2.1).1;obtain⟨aR,O,ae,_,an⟩:=sE aF (by decide) λg=>rfl;injection ae with ah el aV;subst ah;have F:∀f,f<pl->t[f]?=some (t.getD f (0,⟨#[]⟩,((0,0,⟨#[]⟩),(none,0),[]))):=λf i=>by
  rw[nI,aU (by omega)];rfl
 generalize T:(λf=>t.getD f (0,⟨#[]⟩,((0,0,⟨#[]⟩),(none,0),[])))=h;have F:∀f,f<pl->t[f]?=some (h f):=λf i=>by rw[F f i,<-T]
 clear T;obtain⟨o,J⟩:∃o,o=t.map λg=>(g.1,g.2.1,cn _ g.2.2):=⟨_,rfl⟩;rw[<-J];have U:o.length=pl:=by rw[J,cE,az]
 have K:∀f,f<pl->o[f]?=some ((h f).1,(h f).2.1,cn _ (h f).2.2):=λf i=>by rw[J,dh,F f i];rfl
 have W:∀f,f<pl->bK _ (h f).2.2=0/\In w.heap.size w _ (h f).2.2:=λf i=>aG _ (aT (F f i));have X:∀f,f<pl->fw 13 (cn _ (h f).2.2) p.room (h f).2.1=fw _ (h f).2.2 p.room (h f).2.1:=λf i=>NA _ _ (W f i).1;have aH:∀f,f<pl->o.take (f+1)=o.take f++ [((h f).1,(h f).2.1,cn _ (h f).2.2)]:=λf i=>by
  rw[dK,K f i];rfl
 refine IC p.b pa pl pc (s.may pl) p.room w (λf=>(h f).1) (λf=>(h f).2.2.1.1) (λf=>(h f).2.2.1.2.1) (λf=>(h f).2.1) (λf=>(h f).2.2.1.2.2) (λf=>(h f).2.2.2.1.1) (λf=>(h f).2.2.2.2.length) (λf=>(h f).2.2.2.1.2) (λf=>lW p.n p.prog (h f).2.1) (λf=>fw _ (h f).2.2 p.room (h f).2.1) (λf m v j=>mQ p.lo p.room (d.k+201) (λq=>v.ownBlock=some q) j.heap.size j (o.take f) m w.heap.size/\∀q,v.ownBlock=some q->q<j.heap.size)
  (λf G m v j=>∃x,(w.heap.size<=x/\x<=j.heap.size)/\(mQ p.lo p.room (d.k+201) (λq=>v.ownBlock=some q) x j (o.take f) m w.heap.size)/\(∀q,v.ownBlock=some q->q<x)/\P1 p.lo G (h f).2.1 p.room (cn _ (h f).2.2) [] (d.k+201) (λq=>x<=q/\q<j.heap.size) j) (λv b w'=>ap w w'/\b=s.made p.n p.prog p.room o/\(b=true->∃m a c,v=ag a pl c/\m.length=pl/\w'.ownsRow w.heap.size 141 1 v pl (m.map Be)/\mQ p.lo p.room (d.k+201) (λq=>v.ownBlock=some q) w'.heap.size w' o m w.heap.size)) Y z.lo.2 z.cells.2.1 (λf i=>?_) (z.mayHave pl Y) (λf j i l=>(z.later l).knows _) (λf m v j i r l E=>?_) ?_ (λf m v j H E l=>?_) (λf G m a c D O j ab H B al l A ao ar=>?_) (λj l u=>?_) λj m a c l ai Q aj ak R=>?_
 ·obtain⟨D,I,P,y⟩:=an f _ (F f i);exact⟨D,I,P,y 0 _ rfl,y 1 _ rfl,y 2 _ rfl,y 3 _ rfl,y 4 _ rfl,y 5 _ rfl⟩
 ·have aY:=EI aC r;obtain⟨aK,aL⟩:=W f i;refine(P1.new _ (h f).2.2 p.room (h f).2.1 j (by omega) ((aL.below l).mono l.size) (gH aK)).mono ?_;rintro e w' ⟨q,rfl,aa⟩;obtain⟨L,aZ,aM⟩:=aa;refine⟨q,rfl,L,λe=>?_⟩;obtain⟨G,I,P,y,af⟩:=aM e;have:=z.lo.1;have:=l.size;refine⟨G,I,j.heap.size,⟨l.size,L.size⟩,E.1.kept (aO L λ_=>False) (λ_ _ g=>g.elim) (λ_ _ g=>g) (aA _),E.2,af.mono (λb g=>g) (by omega) λb g=>⟨by omega,g.2⟩⟩
 ·exact⟨aA _,(λq g=>by cases g)⟩
 ·exact⟨E.1.kept (aO l λ_=>False) (λ_ _ g=>g.elim) (λ_ _ g=>g) l.size,λq g=>bf (E.2 q g) l.size⟩
 ·obtain⟨x,⟨a0,a1⟩,aN,Z,aP⟩:=al;have av:bH (λq=>(Value.slice a f c).ownBlock=some q) ab H:=⟨A.os,A.tape,A.output,A.size,λk r aB=>A.block k r λe=>aB e.symm⟩;have r:bH (λq=>(Value.slice a f c).ownBlock=some q) j H:=(aO l _).trans av λ_ _ e=>e;have aW:=l.size;have aX:=A.size;have V:∀q,q<j.heap.size->(Value.slice (some ⟨D,0,none⟩) (f+1) O).ownBlock=some q->(Value.slice a f c).ownBlock=some q:=λq aD g=>by
   obtain rfl:D=q:=aI g;rcases ao with e|e
   ·exact e
   ·omega
  refine⟨?_,λq g=>?_⟩
  ·rw[aH f B];refine mQ.snoc (aA x) (B2:=j.heap.size) (by omega) ?_ ?_ (aN.kept r (λq _ g=>g) (λq aD g=>V q (by omega) g) (aA _))
   ·exact aP.kept (S:=λq=>(Value.slice a f c).ownBlock=some q) ⟨r.os,r.tape,r.output,r.size,r.block⟩ λb g C=>by have:=Z b C;omega
   ·exact λq M C aQ=>by have:=Z q (V q C aQ);omega
  ·obtain rfl:D=q:=aI g;exact ar
 ·refine⟨l,?_,(λg=>by cases g)⟩;unfold Sy.made;rw[U];rcases u with u|⟨f,i,u⟩
  ·rw[u];rfl
  ·refine Eq.symm (Bool.and_eq_false_iff.2 (am ?_));rw[List.all_eq_false];refine⟨_,aT (K f i),?_⟩;simp only[aS,cT,not_and];intro M C;rw[X f i]at C;rcases u with u|u
   ·rw[u]at M;cases M
   ·exact u C
 ·refine⟨l,?_,λ_=>⟨m,a,c,rfl,aj,ak,?_⟩⟩
  ·unfold Sy.made;rw[U,ai,eT,eq_comm,cY];intro a2 aJ;obtain⟨f,i⟩:=List.mem_iff_getElem?.1 aJ;have B:f<pl:=by have:=(bi.1 i).1;omega
   rw[K f B]at i;obtain rfl:=aI i;simp only[aS,cT];exact⟨(Q f B).1,(X f B).trans (Q f B).2⟩
  ·rw[bG (by omega)]at R;exact R.1
end
theorem AU(x:Nat)(a O P:Int)(Q:aq)(ma:ay)(T S:Nat)(f:Int)(sa:ay)(sl sc:Nat)(pa:ay)(pl pc:Nat)(ka:ay)(kl kc:Nat)(ao:ay)(vl aG:Nat)(aa:Nat->Nat)(C D E:Nat->Int)(F:Nat->aq)(xa:Nat->ay)(G xc:Nat->Nat)(an:Nat->Int)(w:ah)(k o p:Nat->Nat->bF)(R:bF)(aL:vl<=1000)(aJ:sl<=1000)(aI:kl<=1000)(X:Hid (∀q W,ap w W->w.heap.size<=q->W.heap[q]?=some (.cells #[ae O,ae P,af Q,ag ma T S,ae f,ag sa sl sc,ag pa pl pc,ag ka kl kc] 200)->k q 0 W))(H:Hid (∀q W,k q vl W->o q 0 W))(y:Hid (∀q W,o q sl W->p q 0 W))(i:Hid (∀q j W,(k q j W\/o q j W\/p q j W)->W.heap[q]?=some (.cells #[ae O,ae P,af Q,ag ma T S,ae f,ag sa sl sc,ag pa pl pc,ag ka kl kc] 200)))(I:Hid (∀q j W,j<vl->k q j W->(∃g,ao=some ⟨g,0,none⟩/\ai W g j (.pointer (some ⟨aa j,0,none⟩)))/\Hid (au 86 #[aE x,ae a,.pointer (some ⟨aa j,0,none⟩)] W λe w'=>e=aw (ax #[])/\Hid (k q (j+1) w'))))(z:Hid (∀q j W,j<sl->o q j W->(∃g,sa=some ⟨g,0,none⟩/\ai W g (j*5) (ae (C j))/\ai W g (j*5+1) (ae (D j))/\ai W g (j*5+2) (ae (E j))/\ai W g (j*5+3) (af (F j))/\ai W g (j*5+4) (ag (xa j) (G j) (xc j)))/\Hid (∀Z,ap W Z->au 159 #[aE x,ae a,ae (C j),.agg #[ae (D j),ae (E j),af (F j),ag (xa j) (G j) (xc j)]] Z λe w'=>e=aw (ax #[])/\Hid (o q (j+1) w'))))(t:Hid (∀q j W,j<kl->p q j W->(∃g,ka=some ⟨g,0,none⟩/\ai W g j (ae (an j)))/\Hid (au 160 #[aE x,ae a,ae (an j)] W λe w'=>e=aw (ax #[])/\Hid (p q (j+1) w'))))(s:Hid (∀q W,p q kl W->(f=1->au 127 #[aE x,ae a,ae 1] W λe w'=>e=aw (ax #[])/\Hid (R w'))/\(f≠1->R W))):au 128 #[aE x,ae a,.agg #[ae O,ae P,af Q,ag ma T S,ae f,ag sa sl sc,ag pa pl pc,ag ka kl kc],ag ao vl aG] w λe w'=>e=aw (ax #[])/\Hid (R w'):=by
 go_enter func128,ntmps128;go_upto_region 1 with fail;generalize m:w.alloc _=ar;obtain⟨q,B⟩:∃q,q=w.heap.size:=⟨_,rfl⟩;rw[<-B];have V:Hid (k q 0 ar):=X q ar (by rw[<-m];exact aV _ _) (cR B.symm) (by rw[<-m,B];exact aK _ _);clear m B X;go_wp2_with fail;go_loopw [9,16] (λ_ c wr=>∃(j:Nat),j<=vl/\c=ae j/\Hid (k q j wr)) (λ_ c _=>vl-(intOf c).toNat)
 case atStart=>exact⟨0,aM _,rfl,V⟩
 case round=>
 obtain⟨j,A,rfl,b⟩:=hrel;by_cases l:j<vl
 ·obtain⟨⟨g,rfl,M⟩,n⟩:=I.out q j wr l b;have ad:(0:Int)<=(j:Int):=by omega
  have al:(j:Int)<(vl:Int):=by omega
  clear H y i I z t s b;go_wp2_with fail;refine n.mono ?_;rintro e d ⟨rfl,h⟩;go_wp2_with fail;go_roundw
  case rel=>exact⟨j+1,by omega,by go_num,h⟩
  case measure=>simp[intOf];omega
 obtain rfl:j=vl:=by omega
 have K:=av (H _ _ b);clear b I H V A l;have aD:ai wr q 5 (ag sa sl sc):=aj (i q 0 wr (am (ak K))) 5;go_wp2_with fail;clear aD;go_loopw [11,28] (λ_ c U=>∃(j:Nat),j<=sl/\c=ae j/\Hid (o q j U)) (λ_ c _=>sl-(intOf c).toNat)
 case atStart=>exact⟨0,aM _,rfl,K⟩
 case round=>
 clear K;obtain⟨j,A,rfl,b⟩:=hrel;by_cases l:j<sl
 ·obtain⟨⟨g,rfl,M,aA,aB,aC,ab⟩,n⟩:=z.out q j _ l b;have ad:(0:Int)<=(j:Int):=by omega
  have al:(j:Int)<(sl:Int):=by omega
  clear y i z t s b;go_upto_region 9 with fail;generalize m:World.alloc _ _=d;have r:d.heap[wr.heap.size]?=some (.cells #[ae (C j),ae (D j),ae (E j),af (F j),ag (xa j) (G j) (xc j)] 250):=by
   rw[<-m];exact aK _ _
  have az:=av (n d (by rw[<-m];exact aV _ _));generalize wr.heap.size=u at*;have d0:ai d u 0 (ae (C j)):=aj r 0;have d1:ai d u 1 (ae (D j)):=aj r 1;have d2:ai d u 2 (ae (E j)):=aj r 2;have d3:ai d u 3 (af (F j)):=aj r 3;have d4:ai d u 4 (ag (xa j) (G j) (xc j)):=aj r 4;clear m r n M aA aB aC ab;go_wp2_with fail;refine az.mono ?_;rintro e aN ⟨rfl,h⟩;go_wp2_with fail;go_roundw
  case rel=>exact⟨j+1,by omega,by go_num,h⟩
  case measure=>simp[intOf];omega
 obtain rfl:j=sl:=by omega
 have L:=av (y _ _ b);clear b z y A l;have aF:ai wr q 7 (ag ka kl kc):=aj (i q 0 wr (am (am L))) 7;go_wp2_with fail;clear aF;go_loopw [13,43] (λ_ c U=>∃(j:Nat),j<=kl/\c=ae j/\Hid (p q j U)) (λ_ c _=>kl-(intOf c).toNat)
 case atStart=>exact⟨0,aM _,rfl,L⟩
 case round=>
 clear L;obtain⟨j,A,rfl,b⟩:=hrel;by_cases l:j<kl
 ·obtain⟨⟨g,rfl,M⟩,n⟩:=t.out q j _ l b;have ad:(0:Int)<=(j:Int):=by omega
  have al:(j:Int)<(kl:Int):=by omega
  clear i t s b;go_wp2_with fail;refine n.mono ?_;rintro e d ⟨rfl,h⟩;go_wp2_with fail;go_roundw
  case rel=>exact⟨j+1,by omega,by go_num,h⟩
  case measure=>simp[intOf];omega
 obtain rfl:j=kl:=by omega
 have ab:ai wr q 4 (ae f):=aj (i q _ wr (am (am b))) 4;have Y:=av (s q _ b);clear b t i s;by_cases N:f=1
 ·subst N;have J:=av (Y.1 rfl);go_wp2_with fail;refine J.mono ?_;rintro e d ⟨rfl,h⟩;go_wp2_with fail;exact eF (v:=ax #[]) (by simp[results]) rfl ⟨rfl,h⟩
 ·have J:=av (Y.2 N);have aH:(f==1)=false:=by simpa using N
  go_wp2_with fail;exact eF (v:=ax #[]) (by simp[results]) rfl ⟨rfl,J⟩
def qM(M:aW)(a:Nat)(d b:gX)(w w':ah):Prop:=bH (λq=>d.ow q<0) w w'/\(∀q,q<w.heap.size->¬M q->b.ow q=d.ow q)/\(∀q,q<w.heap.size->M q->0<=b.ow q)/\b.k=d.k/\b.es.length<=d.es.length+a/\b.wn<=d.wn+a/\b.bn<=d.bn+a
section
variable {p:mN} {s:Sy} {d d1 d2:gX} {w w1 w2:ah} {M:aW} {a b:Nat}
theorem qM.up(m:qM M a d d1 w w1)(k:ex b d1 d2 w1 w2):qM M (a+b) d d2 w w2:=by
 obtain⟨h,i,j,n,q,r,s⟩:=m;obtain⟨o,l,p,u,v,x⟩:=k;have t:=h.size;refine⟨h.trans o λc e g=>?_,λc e f=>(l c (by omega)).trans (i c e f),λc e f=>by rw[l c (by omega)];exact j c e f,p.trans n,by omega,by omega,by omega⟩;by_cases f:M c
 ·have:=j c e f;omega
 ·rw[i c e f]at g;exact g
theorem qM.ad{M':aW}(m:qM M a d d1 w w1)(k:OT M' b d1 d2 w1 w2)(o:∀q,M' q->M q):qM M (a+b) d d2 w w2:=by
 obtain⟨h,i,j,n,t,u,v⟩:=m;obtain⟨p,l,r,s,y,z,A⟩:=k;have x:=h.size;refine⟨h.trans p λq e g=>?_,λq e c=>(l q (by omega) λf=>c (o q f)).trans (i q e c),λq e c=>?_,s.trans n,by omega,by omega,by omega⟩
 ·by_cases c:M q
  ·have:=j q e c;omega
  ·rw[i q e c]at g;exact g
 ·by_cases f:M' q
  ·have:=r q f;omega
  ·rw[l q (by omega) f];exact j q e c
theorem qM.mono(c:qM M a d d1 w w1)(l:a<=b):qM M b d d1 w w1:=by
 obtain⟨e,f,g,h,i,j,k⟩:=c;exact⟨e,f,g,h,by omega,by omega,by omega⟩
theorem GV.ug{m:Nat}{x:Tm m}(e:GV d w x)(k:qM M a d d1 w w1):GV d1 w1 x:=by
 have g:=fB k.1 (D:=λb=>0<=d.ow b/\b<w.heap.size) (λb c f=>by omega) ⟨e.1,In.offB e.2 e.1⟩;refine⟨g.1,g.2.mono λb c=>?_⟩;by_cases f:M b
 ·exact k.2.2.1 b c.2 f
 ·rw[k.2.1 b c.2 f];exact c.1
theorem Cc(a:Int):(l:List (Int×aq×Tc))->(s:Sy)->(l.foldl (λs x=>s.add a x.2.1 x.2.2) s).ps.length=s.ps.length+l.length/\(l.foldl (λs x=>s.add a x.2.1 x.2.2) s).last=s.last+l.length
 | [],s=>by simp
 | x::l,s=>by
  have b:=Cc a l (s.add a x.2.1 x.2.2);rw[gg,b.1,b.2];simp only[Sy.add,Sy.tell,bq,bu,eV];omega
theorem bE.follow(aK:bE p s d w){a:Int}(ao:dn a)(i:Tk)(bc:Bi 8 i.sends i.spawns i.links)(y0 y1:Int)(y2:aq)(ya:ay)(yl yc:Nat){N aH a3 c B:Nat}{sa:ay}{sl sc:Nat}{pa:ay}{pl pc:Nat}{ka:ay}{kl kc:Nat}{L:ay}{vl R:Nat}{K:List (Int×Tm (N+1))}{J:List Nat}{aG:aW}(bm:w.ownsRow aH 250 5 (ag sa sl sc) sl (K.flatMap λg=>Ov g.1 g.2))(be:w.ownsRow aH 3 1 (ag ka kl kc) kl (i.links.map λX=>ae X))(bp:w.ownsRow a3 141 1 (ag L vl R) vl (J.map Be))(bf:K.length=sl/\i.links.length=kl/\J.length=vl/\i.spawns.length=vl)(ar:K.map (λg=>(g.1,cn _ g.2))=i.sends)(bo:∀g∈K,bK _ g.2=0/\GV d w g.2)(bh:∀q,((Value.slice sa sl sc).ownBlock=some q\/(Value.slice ka kl kc).ownBlock=some q\/(Value.slice L vl R).ownBlock=some q)->0<=d.ow q)(a9:mQ p.lo p.room (d.k+201) aG B w i.spawns J c)(bz:B<=w.heap.size)(how:∀q,c<=q->q<B->d.ow q=0)(bg:s.may vl=true)(bD:d.k<=92000)(bA:d.es.length<=97000)(bM:d.wn<=900000)(bB:d.bn<=900000):au 128 #[aE p.b,ae a,PI y0 y1 y2 ya yl yc i.fate sa sl sc pa pl pc ka kl kc,ag L vl R] w λe w'=>e=aw (ax #[])/\Hid (∃O,bE p (s.follow a i) O w'/\qM (λq=>c<=q/\q<B) 200 d O w w'):=by
 obtain⟨bq,bN,bO,bP⟩:=bf;obtain⟨⟨aJ,bw,bx⟩,a5,a6⟩:=bc;have bJ:=Lm bg;have bL:sl<=8:=by rw[<-bq];rw[<-ar,cE]at aJ;exact aJ
 have T:∀{D:Type}(l:List D)(g:D)(f:Nat),f<l.length->l[f]?=some (l.getD f g):=λl g f j=>by
  rw[nI,aU j];rfl
 obtain⟨n,ab⟩:∃n:Nat->Int×Tm (N+1),∀f,f<sl->K[f]?=some (n f):=⟨_,λf j=>T K (0,((0,0,⟨#[]⟩),(none,0),[])) f (by omega)⟩;obtain⟨aF,aj⟩:∃n:Nat->Int,∀f,f<kl->i.links[f]?=some (n f):=⟨_,λf j=>T i.links 0 f (by omega)⟩;obtain⟨aC,aL⟩:∃n:Nat->Nat,∀f,f<vl->J[f]?=some (n f):=⟨_,λf j=>T J 0 f (by omega)⟩;obtain⟨bt,aM⟩:∃n:Nat->Int×aq×Tc,∀f,f<vl->i.spawns[f]?=some (n f):=⟨_,λf j=>T i.spawns (0,⟨#[]⟩,tU) f (by omega)⟩;have ap:∀q,((Value.slice sa sl sc).ownBlock=some q\/(Value.slice ka kl kc).ownBlock=some q\/(Value.slice L vl R).ownBlock=some q)->¬d.ow q<0:=λq g=>by have:=bh q g;omega
 have ba:∀h,bH (λq=>d.ow q<0) w h->∀f,f<sl->∃o,sa=some ⟨o,0,none⟩/\∀(t:Nat)(X:az),(Ov (n f).1 (n f).2)[t]?=some X->ai h o (f*5+t) X:=λh P f j=>by
  obtain⟨_,_,x,_,C⟩:=sE (bC bm P λq g=>ap q (ak g)) (by decide) λg=>rfl;injection x with x;subst x;obtain⟨o,z,_,A⟩:=C f _ (ab f j);exact⟨o,z,A⟩
 have a8:∀h,bH (λq=>d.ow q<0) w h->∀f,f<kl->∃o,ka=some ⟨o,0,none⟩/\ai h o f (ae (aF f)):=λh P f j=>by
  have Q:=bC be P λq g=>ap q (am (ak g));rw[List.map_eq_flatMap]at Q;obtain⟨_,_,x,_,C⟩:=sE Q (by decide) λg=>rfl;injection x with x;subst x;obtain⟨o,z,_,A⟩:=C f _ (aj f j);have:=A 0 _ rfl;simp only[Nat.mul_one,jC]at this;exact⟨o,z,this⟩
 have bb:∀h,bH (λq=>d.ow q<0) w h->∀f,f<vl->∃o,L=some ⟨o,0,none⟩/\ai h o f (.pointer (some ⟨aC f,0,none⟩)):=λh P f j=>by
  have Q:=bC bp P λq g=>ap q (am (am g));rw[List.map_eq_flatMap]at Q;obtain⟨_,_,x,_,C⟩:=sE Q (by decide) λg=>rfl;injection x with x;subst x;obtain⟨o,z,_,A⟩:=C f _ (aL f j);have:=A 0 _ rfl;simp only[Nat.mul_one,jC]at this;exact⟨o,z,this⟩
 have aP:∀{D:Type}{l:List D}{f:Nat}{g:D},l[f]?=some g->l.drop f=g::l.drop (f+1):=λ{D l f g} e=>by
  obtain⟨a7,rfl⟩:=bi.1 e;exact fp a7
 have av:∀{D:Type}{l:List D}{f:Nat}{g:D},l[f]?=some g->l.take (f+1)=l.take f++ [g]:=λ{D l f g} e=>by
  rw[dK,e];rfl
 obtain⟨U,aV⟩:∃U,U=i.spawns.foldl (λs v=>s.add a v.2.1 v.2.2) s:=⟨_,rfl⟩;obtain⟨V,aX⟩:∃V,V=i.sends.foldl (λs v=>s.send a v.1 v.2) U:=⟨_,rfl⟩;obtain⟨W,aY⟩:∃W,W=i.links.foldl (λs v=>s.link a v) V:=⟨_,rfl⟩;have bl:s.follow a i=if i.fate=1 then W.fin a 1 else W:=by rw[aY,aX,aV];rfl
 let aI:Obj:=.cells #[ae y0,ae y1,af y2,ag ya yl yc,ae i.fate,ag sa sl sc,ag pa pl pc,ag ka kl kc] 200;let Z:Nat->Prop:=λq=>c<=q/\q<B;let aD:Sy->Nat->Nat->ah->Prop:=λbr k q h=>∃d1,bE p br d1 h/\qM Z k d d1 w h/\(w.heap.size<=q/\q<h.heap.size/\h.heap[q]?=some aI/\d1.ow q=0)
 refine AU p.b a y0 y1 y2 ya yl yc i.fate sa sl sc pa pl pc ka kl kc L vl R aC (λf=>(n f).1) (λf=>(n f).2.1.1) (λf=>(n f).2.1.2.1) (λf=>(n f).2.1.2.2) (λf=>(n f).2.2.1.1) (λf=>(n f).2.2.2.length) (λf=>(n f).2.2.1.2) aF w
  (λq f h=>∃d1,bE p ((i.spawns.take f).foldl (λs v=>s.add a v.2.1 v.2.2) s) d1 h/\qM Z f d d1 w h/\(w.heap.size<=q/\q<h.heap.size/\h.heap[q]?=some aI/\d1.ow q=0)/\∃S,c<=S/\mQ p.lo p.room (d.k+201) aG B h (i.spawns.drop f) (J.drop f) S/\∀q,S<=q->q<B->d1.ow q=0)
  (λq f h=>aD ((i.sends.take f).foldl (λs v=>s.send a v.1 v.2) U) (vl+2*f) q h) (λq f h=>aD ((i.links.take f).foldl (λs v=>s.link a v) V) (vl+2*sl+f) q h) (λw'=>∃O,bE p (s.follow a i) O w'/\qM Z 200 d O w w') (by omega) (by omega) (by omega) (λq h al aQ aN=>?_) (λq h y=>?_) (λq h y=>?_) (λq f h y=>?_) (λq f h j y=>?_) (λq f h j y=>?_) (λq f h j y=>?_) λq h y=>?_
 ·have bk:=(aR.1 aN).1;refine⟨d,aK.later al,⟨aO al _,λ_ _ _=>rfl,λq _ g=>by rw[how q g.1 g.2];exact kj 0,rfl,aA _,aA _,aA _⟩,⟨aQ,bk,aN,?_⟩,c,aA _,a9.kept (aO al λ_=>False) (λ_ _ g=>g.elim) (λ_ _ g=>g) (aA _),how⟩;by_cases g:d.ow q=0
  ·exact g
  ·have:=(aK.low q g).2;omega
 ·obtain⟨d1,r,m,E,_⟩:=y;rw[bG (by omega),<-aV]at r;exact⟨d1,r,m,E⟩
 ·obtain⟨d1,r,m,E⟩:=y;rw[bG (by rw[<-ar,cE];omega),<-aX]at r;exact⟨d1,r,m,E⟩
 ·rcases y with⟨d1,_,_,E,_⟩|⟨d1,_,_,E⟩|⟨d1,_,_,E⟩
  ·exact E.2.2.1
  ·exact E.2.2.1
  ·exact E.2.2.1
 ·obtain⟨d1,r,m,⟨z,F,A,G⟩,S,bQ,a0,aB⟩:=y;refine⟨bb h m.1 f j,?_⟩;rw[aP (aM f j),aP (aL f j)]at a0;obtain⟨a4,aa,bR,a1,_,a2⟩:=a0;have bd:=Cc a (i.spawns.take f) s;rw[dt]at bd;have bI:=a2.le;have bF:=m.2.2.2.1;refine(r.add a (M:=λq=>a4<=q/\q<aa) (a1.mono (λ_ g=>g) (by omega) (P1.lie2 a1)) (λq g=>aB q (by omega) (by omega)) (by omega) (by omega) (by have:=m.2.2.2.2.1;omega)).mono ?_;rintro e w' ⟨rfl,H⟩;obtain⟨d2,I,u⟩:=H.out;have aS:=u.1.size;refine⟨rfl,d2,?_,m.ad u λq g=>⟨by omega,by omega⟩,⟨z,by omega,?_,?_⟩,aa,by omega,a2.kept2 (c0:=aa) u.1 (λq aQ bj g=>?_) (λ_ _ g=>g) (aA _) (aA _),λq bS bs=>?_⟩
  ·rw[av (aM f j),nH];exact I
  ·rw[u.1.block q F (by rw[G];decide)];exact A
  ·rw[u.2.1 q F λg=>by omega];exact G
  ·have:=aB q (by omega) bj;omega
  ·have:=m.1.size;rw[u.2.1 q (by omega) λg=>by omega];exact aB q (by omega) bs
 ·obtain⟨d1,r,m,z,F,A,G⟩:=y;obtain⟨o,x,C⟩:=ba h m.1 f j;refine⟨⟨o,x,C 0 _ rfl,C 1 _ rfl,C 2 _ rfl,C 3 _ rfl,C 4 _ rfl⟩,λbu an=>?_⟩;obtain⟨f1,f2⟩:=bo _ (aT (ab f j));have aZ:i.sends[f]?=some ((n f).1,cn _ (n f).2):=by rw[<-ar,dh,ab f j];rfl
  refine((r.later an).send ⟨ao,a5 _ (aT aZ)⟩ (n f).2 ((f2.ug m).up (ex.later d1 an)) f1 (by have:=m.2.2.2.2.2.1;omega) (by have:=m.2.2.2.2.1;omega)).mono ?_;rintro e w' ⟨rfl,H⟩;obtain⟨d2,I,u⟩:=H.out;have Y:=(ex.later d1 an).trans u;have aS:=Y.1.size;refine⟨rfl,d2,?_,(m.up Y).mono (by omega),z,by omega,?_,?_⟩
  ·rw[av aZ,nH];exact I
  ·rw[Y.1.block q F (by rw[G];decide)];exact A
  ·rw[Y.2.1 q F];exact G
 ·obtain⟨d1,r,m,z,F,A,G⟩:=y;refine⟨a8 h m.1 f j,?_⟩;refine(r.link ao (a6 _ (aT (aj f j))) (by have:=m.2.2.2.2.2.2;omega)).mono ?_;rintro e w' ⟨rfl,H⟩;obtain⟨d2,I,u⟩:=H.out;have aS:=u.1.size;refine⟨rfl,d2,?_,(m.up u).mono (by omega),z,by omega,?_,?_⟩
  ·rw[av (aj f j),nH];exact I
  ·rw[u.1.block q F (by rw[G];decide)];exact A
  ·rw[u.2.1 q F];exact G
 ·obtain⟨d1,r,m,z,F,A,G⟩:=y;rw[bG (by omega),<-aY]at r;rw[bl];refine⟨λe=>?_,λe=>⟨d1,by rw[if_neg e];exact r,m.mono (by omega)⟩⟩;refine(r.fin ao (by have:=m.2.2.2.2.1;omega)).mono ?_;rintro bv w' ⟨rfl,H⟩;obtain⟨d2,I,u⟩:=H;exact⟨rfl,d2,by rw[if_pos e];exact I,(m.up u).mono (by omega)⟩
end
structure T8 where
 y0:Int
 y1:Int
 y2:aq
 ya:ay
 yl:Nat
 yc:Nat
 f:Int
 sa:ay
 sl:Nat
 sc:Nat
 pa:ay
 pl:Nat
 pc:Nat
 ka:ay
 kl:Nat
 kc:Nat
theorem Qd{g:Array az}{T:TypeId}{fr:Nat×Nat}(h:w.heap[q]?=some (.cells g T fr))(j:g.size=8)(v0 v1 v2 v3 c d e f:az):((((((((w.setCell ⟨q,0,none⟩ v0).setCell ⟨q,1,none⟩ v1).setCell ⟨q,2,none⟩ v2).setCell ⟨q,3,none⟩ v3).setCell ⟨q,4,none⟩ c).setCell ⟨q,5,none⟩ d).setCell ⟨q,6,none⟩ e).setCell ⟨q,7,none⟩ f).heap[q]?=some (.cells #[v0,v1,v2,v3,c,d,e,f] T fr)/\bH (λb=>b=q) w ((((((((w.setCell ⟨q,0,none⟩ v0).setCell ⟨q,1,none⟩ v1).setCell ⟨q,2,none⟩ v2).setCell ⟨q,3,none⟩ v3).setCell ⟨q,4,none⟩ c).setCell ⟨q,5,none⟩ d).setCell ⟨q,6,none⟩ e).setCell ⟨q,7,none⟩ f):=by
 refine⟨?_,(((((((bN w q 0 v0).trans (bN _ q 1 v1) λ_ _ a=>a).trans (bN _ q 2 v2) λ_ _ a=>a).trans (bN _ q 3 v3) λ_ _ a=>a).trans (bN _ q 4 c) λ_ _ a=>a).trans (bN _ q 5 d) λ_ _ a=>a).trans (bN _ q 6 e) λ_ _ a=>a).trans (bN _ q 7 f) λ_ _ a=>a⟩;obtain⟨l⟩:=g;have i:l.length=8:=by simpa using j
 match l,i with
 | [a0,a1,a2,a3,a4,a5,a6,a7],_=>simp[World.setCell,bR,h]
def OS(e:T8->Int->ah->bF)(w:ah)(q:Nat)(t:T8)(g:Int)(d:ah):Prop:=
 ∃a c,ap w a/\e t g a c/\(w.heap.size<=q/\(q<a.heap.size\/c.heap.size<=q))/\d.heap[q]?=some (.cells #[ae t.y0,ae t.y1,af t.y2,ag t.ya t.yl t.yc,ae t.f,ag t.sa t.sl t.sc,ag t.pa t.pl t.pc,ag t.ka t.kl t.kc] 200)/\bH (λb=>b=q) c d
theorem zm(g:Nat)(Z:dc)(a S Y:Int)(N:ay)(P O:Nat)(aa:az)(F:Bool)(w:ah)(E:T8->Int->ah->bF)(M:Nat->T8->bF)(C:Nat->T8->az->Bool->bF)(R:Int->bF)(a0:IntKind.i64.wrap (S+1)=Y)(a6:g<w.heap.size)(ab:Hid (ai w g 0 (ag N P O)/\ai w g 2 (ae S)/\ai w g 3 (.map Z)))(aq:(Instr.lookup 131 (.map Z) (ae a) true).run Tryz.prog w=.ok (ax #[aa,.bool F]) w)(J:Hid (F=false->R 4 w))(L:Hid (F=true->∀W,ap w W->au 125 #[aa,ag N P O,ae a,ae Y] W λe w'=>∃(t:T8)(h:Int),e=aw (ax #[.agg #[ae t.y0,ae t.y1,af t.y2,ag t.ya t.yl t.yc,ae t.f,ag t.sa t.sl t.sc,ag t.pa t.pl t.pc,ag t.ka t.kl t.kc],ae h])/\Hid (E t h W w'/\(∀q,w.heap.size<=q->q<W.heap.size->w'.heap[q]?=W.heap[q]?)/\W.heap.size<=w'.heap.size/\(ai w' g 0 (ag N P O)/\ai w' g 2 (ae S)))))(HB:Hid (∀q t h W,OS E w q t h W->h≠0->R h W))(B:Hid (∀q t W,OS E w q t 0 W->au 124 #[aE g,af ⟨#[116,97,107,101]⟩,ae a,ae 0,.agg #[ae t.y0,ae t.y1,af t.y2,ag t.ya t.yl t.yc]] W λe w'=>e=aw (ax #[])/\Hid (M q t w')))(x:Hid (∀q t W,M q t W->au 126 #[aE g,ag t.pa t.pl t.pc] W λe w'=>∃v b,e=aw (ax #[v,.bool b])/\Hid (C q t v b w')))(y:Hid (∀q t W,M q t W->W.heap[q]?=some (.cells #[ae t.y0,ae t.y1,af t.y2,ag t.ya t.yl t.yc,ae t.f,ag t.sa t.sl t.sc,ag t.pa t.pl t.pc,ag t.ka t.kl t.kc] 200)))(z:Hid (∀q t v b W,C q t v b W->W.heap[q]?=some (.cells #[ae t.y0,ae t.y1,af t.y2,ag t.ya t.yl t.yc,ae t.f,ag t.sa t.sl t.sc,ag t.pa t.pl t.pc,ag t.ka t.kl t.kc] 200)))(m:Hid (∀q t v b W,C q t v b W->(t.f=2\/t.f=3)->au 127 #[aE g,ae a,ae t.f] W λe w'=>e=aw (ax #[])/\Hid (R 0 w')))(n:Hid (∀q t v W,C q t v false W->¬(t.f=2\/t.f=3)->au 127 #[aE g,ae a,ae 2] W λe w'=>e=aw (ax #[])/\Hid (R 0 w')))(p:Hid (∀q t v W,C q t v true W->¬(t.f=2\/t.f=3)->au 128 #[aE g,ae a,.agg #[ae t.y0,ae t.y1,af t.y2,ag t.ya t.yl t.yc,ae t.f,ag t.sa t.sl t.sc,ag t.pa t.pl t.pc,ag t.ka t.kl t.kc],v] W λe w'=>e=aw (ax #[])/\Hid (R 0 w'))):au 87 #[aE g,ae a] w λe w'=>∃v,e=aw (ae v)/\Hid (R v w'):=by
 obtain⟨al,an,ao⟩:=ab;go_enter func87,ntmps87;go_upto_region 2 with fail;cases F
 ·have K:=av (J rfl);clear L J HB B x y z m n p;go_wp2_with fail
  go_ret
  exact⟨4,rfl,K⟩
 have V:=av (L rfl);clear L J aq ao;have H:Hid (ap w w.drew):=(aG _ _).drew;have I:Hid (∀o,ap w (w.drew.alloc o)):=λo=>(aG _ _).drew.alloc (aA _) o;have a1:¬(w.heap.size=g):=by omega
 have a2:¬(g=w.heap.size):=by omega
 go_upto_region 4 with fail;go_cut [7,8] (λar aB aD=>∃(q:Nat)(t:T8)(h:Int),ar=aE q/\aB=ae h/\Hid (OS E w q t h aD))
 case first=>
  clear HB B x y z m n p
  go_region_with ((first
   | (go_at_call 125;refine(V _ (by first|exact H|exact I _)).mono ?_;rintro e c ⟨t,h,rfl,r⟩;have a5:g<c.heap.size:=(by have:=r.2.2.1;simp at this;omega);have a3:¬(c.heap.size=g):=(by omega);have a4:¬(g=c.heap.size):=(by omega);obtain⟨a8,a9⟩:=r.out.2.2.2;(first|(have d:c.heap[w.heap.size]?=some (.cells #[ae 0,ae 0,af ⟨#[]⟩,ag none 0 0,ae 0,ag none 0 0,ag none 0 0,ag none 0 0] 200):=((r.2.1 w.heap.size (aA _) (by simp)).trans (aK w.drew _));obtain⟨ba,bb,bc,bd,be,bf,bg,bh⟩:ai c w.heap.size 0 (ae 0)/\ai c w.heap.size 1 (ae 0)/\ai c w.heap.size 2 (af ⟨#[]⟩)/\ai c w.heap.size 3 (ag none 0 0)/\ai c w.heap.size 4 (ae 0)/\ai c w.heap.size 5 (ag none 0 0)/\ai c w.heap.size 6 (ag none 0 0)/\ai c w.heap.size 7 (ag none 0 0):=⟨aj d 0,aj d 1,aj d 2,aj d 3,aj d 4,aj d 5,aj d 6,aj d 7⟩;have aF:c.frozen? ⟨w.heap.size,0,none⟩=false:=(by simp[World.frozen?,d]);have aH:c.frozen? ⟨w.heap.size,1,none⟩=false:=(by simp[World.frozen?,d]);have aI:c.frozen? ⟨w.heap.size,2,none⟩=false:=(by simp[World.frozen?,d]);have aJ:c.frozen? ⟨w.heap.size,3,none⟩=false:=(by simp[World.frozen?,d]);have aL:c.frozen? ⟨w.heap.size,4,none⟩=false:=(by simp[World.frozen?,d]);have aM:c.frozen? ⟨w.heap.size,5,none⟩=false:=(by simp[World.frozen?,d]);have aN:c.frozen? ⟨w.heap.size,6,none⟩=false:=(by simp[World.frozen?,d]);have aP:c.frozen? ⟨w.heap.size,7,none⟩=false:=(by simp[World.frozen?,d]);have ad:=av d;clear d)|skip))))
  all_goals (go_wp2_with fail;go_meet)
  all_goals (refine⟨_,t,h,rfl,rfl,?_⟩)
  all_goals (first
   | exact⟨_,c,H,r.1,⟨by have:=r.2.2.1;simpa using this,am (aA _)⟩,aK _ _,aO (aV _ _) _⟩
   | exact⟨_,c,I _,r.1,⟨aA _,ak (by simp)⟩,Qd ad rfl _ _ _ _ _ _ _ _⟩)
 case rest=>
 obtain⟨q,t,h,rfl,rfl,A⟩:=hcut;clear V H I al an;by_cases Q:h=0;rotate_left
 ·have K:=av (HB _ _ _ _ A Q);have a7:(h==0)=false:=by simpa using Q
  clear A HB B x y z m n p;go_wp2_with fail
  go_ret
  exact⟨h,rfl,K⟩
 subst Q;have X:=av (B _ _ _ A);obtain⟨_,_,_,_,_,D,_⟩:=A.out;have d0:ai wc q 0 (ae t.y0):=aj D 0;have d1:ai wc q 1 (ae t.y1):=aj D 1;have d2:ai wc q 2 (af t.y2):=aj D 2;have d3:ai wc q 3 (ag t.ya t.yl t.yc):=aj D 3;clear D A HB B;go_wp2_with fail;refine X.mono ?_;rintro e aC ⟨rfl,G⟩;have U:=av (x _ _ _ G);have d6:ai aC q 6 (ag t.pa t.pl t.pc):=aj (y _ _ _ G) 6;clear X x y G d0 d1 d2 d3;go_wp2_with fail;refine U.mono ?_;rintro e j ⟨v,b,rfl,k⟩;have i:=av (z _ _ _ _ _ k);have f4:ai j q 4 (ae t.f):=aj i 4;clear d6 U z;by_cases u:t.f=2\/t.f=3
 ·have s:=av (m _ _ _ _ _ k u);clear n p m k i;generalize t.f=f at*;rcases u with rfl|rfl
  ·go_wp2_with fail;refine s.mono ?_;rintro e T ⟨rfl,l⟩;go_wp2_with fail
   go_ret
   exact⟨0,rfl,l⟩
  ·go_wp2_with fail;refine s.mono ?_;rintro e T ⟨rfl,l⟩;go_wp2_with fail
   go_ret
   exact⟨0,rfl,l⟩
 have aY:(t.f==2)=false:=by simpa using λe=>u (ak e)
 have aZ:(t.f==3)=false:=by simpa using λe=>u (am e)
 cases b
 ·have s:=av (n _ _ _ _ k u);clear n p m k i;go_wp2_with fail;refine s.mono ?_;rintro e T ⟨rfl,l⟩;go_wp2_with fail
  go_ret
  exact⟨0,rfl,l⟩
 ·have s:=av (p _ _ _ _ k u);have aQ:ai j q 0 (ae t.y0):=aj i 0;have aR:ai j q 1 (ae t.y1):=aj i 1;have aS:ai j q 2 (af t.y2):=aj i 2;have aT:ai j q 3 (ag t.ya t.yl t.yc):=aj i 3;have aU:ai j q 5 (ag t.sa t.sl t.sc):=aj i 5;have aW:ai j q 6 (ag t.pa t.pl t.pc):=aj i 6;have aX:ai j q 7 (ag t.ka t.kl t.kc):=aj i 7;clear n p m k i;go_wp2_with fail;refine s.mono ?_;rintro e T ⟨rfl,l⟩;go_wp2_with fail
  go_ret
  exact⟨0,rfl,l⟩
def GZ(f:Tk)(t:T8)(d:gX)(W:ah):Prop:=
 ∃(h g:Nat)(c:List (Int×Tm (h+1)))(e:List (Int×aq×Tm (h+1))),(c.length=t.sl/\e.length=t.pl/\f.links.length=t.kl)/\W.ownsRow g 250 5 (ag t.sa t.sl t.sc) t.sl (c.flatMap λa=>Ov a.1 a.2)/\W.ownsRow g 247 6 (ag t.pa t.pl t.pc) t.pl (e.flatMap λa=>Pw a.1 a.2.1 a.2.2)/\W.ownsRow g 3 1 (ag t.ka t.kl t.kc) t.kl (f.links.map λi=>ae i)/\
  c.map (λa=>(a.1,cn _ a.2))=f.sends/\e.map (λa=>(a.1,a.2.1,cn _ a.2.2))=f.spawns/\(∀a∈c,bK _ a.2=0/\GV d W a.2)/\(∀a∈e,bK _ a.2.2=0/\GV d W a.2.2)/\∀b,((Value.slice t.sa t.sl t.sc).ownBlock=some b\/(Value.slice t.pa t.pl t.pc).ownBlock=some b\/(Value.slice t.ka t.kl t.kc).ownBlock=some b)->b<W.heap.size/\0<=d.ow b
theorem GZ.kee{n:Tk}{t:T8}{d g:gX}{W:ah}(s:GZ n t d W)(b:bH (λq=>d.ow q<0) W h)(m:∀q,q<W.heap.size->g.ow q=d.ow q):GZ n t g h:=by
 obtain⟨p,r,A,B,e,u,v,w,x,y,k,l,f⟩:=s;have hF:∀{z:Nat}{o:Tm z},GV d W o->GV g h o:=λj=>by
  have e:=fB b (D:=λq=>0<=d.ow q/\q<W.heap.size) (λq a C=>by omega) ⟨j.1,In.offB j.2 j.1⟩;exact⟨e.1,e.2.mono λq a=>by rw[m q a.2];exact a.1⟩
 have i:∀q,((Value.slice t.sa t.sl t.sc).ownBlock=some q\/(Value.slice t.pa t.pl t.pc).ownBlock=some q\/(Value.slice t.ka t.kl t.kc).ownBlock=some q)->¬d.ow q<0:=λq a=>by have:=(f q a).2;omega
 exact⟨p,r,A,B,e,bC u b λq a=>i q (ak a),bC v b λq a=>i q (am (ak a)),bC w b λq a=>i q (am (am a)),x,y,λa c=>⟨(k a c).1,hF (k a c).2⟩,λa c=>⟨(l a c).1,hF (l a c).2⟩,λq a=>⟨bf (f q a).1 b.size,by rw[m q (f q a).1];exact(f q a).2⟩⟩
def Q2(t:T8):Obj:=.cells #[ae t.y0,ae t.y1,af t.y2,ag t.ya t.yl t.yc,ae t.f,ag t.sa t.sl t.sc,ag t.pa t.pl t.pc,ag t.ka t.kl t.kc] 200
section
variable {p:mN} {s:Sy} {d:gX} {w:ah}
theorem gE.ug{M:aW}{k b c:Nat}{d1 d2:gX}{w1 w2:ah}(l:gE k c d d1 w w1)(g:qM M b d1 d2 w1 w2)(m:∀q,M q->w.heap.size<=q):gE (k+b) c d d2 w w2:=by
 obtain⟨e,f,t,u,v,x⟩:=l;obtain⟨i,j,_,o,p,r,s⟩:=g;have y:=e.size;exact⟨e.trans i λq a h=>by rw[f q a]at h;omega,λq a=>(j q (by omega) λn=>by have:=m q n;omega).trans (f q a),by omega,by omega,by omega,by omega⟩
def PV(p:mN)(s:Sy)(d:gX)(w:ah)(a:Tk)(q:Nat)(t:T8)(d1:gX)(W:ah):Prop:=
 bE p s d1 W/\gE 1 402 d d1 w W/\(w.heap.size<=q/\q<W.heap.size/\d1.ow q=0/\W.heap[q]?=some (Q2 t))/\t.f=a.fate/\GZ a t d1 W
theorem bE.run(q:bE p s d w){a:Int}(aT:dn a)(cr:d.k<=91000)(co:d.es.length<=96000)(cx:d.wn<=800000)(cq:d.bn<=800000):au 87 #[aE p.b,ae a] w λe w'=>∃v,e=aw (ae v)/\Hid (v=(s.run p.n p.prog p.room a).2/\∃E,bE p (s.run p.n p.prog p.room a).1 E w'/\gE 201 402 d E w w'):=by
 obtain⟨bP,aX⟩:=q.lo;obtain⟨a8,ci,a9,ba⟩:=q.cells;obtain⟨_,_,_,ck,cl,_⟩:=q.keys;have bh:lk (p.n+1) p.prog=true:=(gP q.pg.2.2.2.1).1;have be:IntKind.i64.wrap (s.last+1)=s.last+1:=by rw[IntKind.wrap];simp[IntKind.bits,IntKind.signed];omega
 have ab:=q.look a true;have ay:=q.alive a;rw[if_pos rfl]at ab;obtain⟨P,m⟩:∃P,P=s.run p.n p.prog p.room a:=⟨_,rfl⟩;rw[<-m];unfold Sy.run at m;cases hg:s.get a with
 | none=>
  rw[hg]at m ay;rw[ay]at ab;have bz:(4:Int)=P.2/\∃E,bE p P.1 E w/\gE 201 402 d E w w:=by
   rw[m];exact⟨rfl,d,q,(ex.later d (aG _ _)).un.mono (aM _) (aM _)⟩
  exact zm p.b d.po a s.last (s.last+1) p.pa p.prog.length p.pc _ false w (λ_ _ _ _=>False) (λ_ _ _=>False) (λ_ _ _ _ _=>False) (λv w'=>v=P.2/\∃E,bE p P.1 E w'/\gE 201 402 d E w w') be aX ⟨a8,a9,ba⟩ ab (λ_=>bz) ((λg=>by cases g)) (λ_ _ _ _ ⟨_,_,_,g,_⟩=>g.elim) (λ_ _ _ ⟨_,_,_,g,_⟩=>g.elim) (λ_ _ _ g=>g.elim) (λ_ _ _ g=>g.elim) (λ_ _ _ _ _ g=>g.elim) (λ_ _ _ _ _ g=>g.elim) (λ_ _ _ _ g=>g.elim) λ_ _ _ _ g=>g.elim
 | some an=>
  obtain⟨B,aa,V⟩:=an;rw[hg]at m ay;obtain⟨bt,aC⟩:=gj.1 ay;rw[aC]at ab;obtain⟨b7,bF,bD,aq,bI,cj⟩:=q.ps a bt aC;rw[hg]at aq;obtain⟨rfl,rfl,rfl⟩:B=b7/\aa=bF/\V=bD:=by
   injection aq with aq;injection aq with z u;injection u with u bG;exact⟨z,u,bG⟩
  have cp:=(q.key aC).1;obtain⟨T,aS⟩:∃T,T=rB p.n p.room p.prog B a (s.last+1) aa V:=⟨_,rfl⟩;simp only[<-aS]at m;have aB:∀h,w.heap.size<=h->d.ow h=0:=λh aV=>by
   by_cases g:d.ow h=0
   ·exact g
   ·have:=(q.low h g).2;omega
  refine zm p.b d.po a s.last (s.last+1) p.pa p.prog.length p.pc _ true w
   (λt Z l w'=>(Z≠0/\Z=T/\ap l w')\/(Z=0/\T=0/\∃(r:Tc)(i:Tk)(J:Nat),(r.1=(t.y0,t.y1,t.y2)/\r.2.1=(t.ya,t.yc)/\r.2.2.length=t.yl)/\ov p.room p.prog B a (s.last+1) aa V=some i/\t.f=i.fate/\cn 13 r=i.message/\bK 13 r=0/\In w'.heap.size w' 13 r/\cF (λh=>l.heap.size<=h/\h<J) 13 r/\cm (λh=>d.ow h=a) l w'/\l.heap.size<J/\P1 p.lo bt B p.room i.state i.mail (d.k+201+402) (λb=>(d.ow b=a\/J<=b)/\b<w'.heap.size) w'/\i.mail.length<=V.length/\mG (l.heap.size+1) i.sends i.spawns i.links t.sa t.sl t.sc t.pa t.pl t.pc t.ka t.kl t.kc (λ_=>True) w'))
   (λh t l=>∃i d1,T=0/\ov p.room p.prog B a (s.last+1) aa V=some i/\PV p ((s.put a (B,i.state,i.mail)).tell nX a 0 i.message) d w i h t d1 l)
   (λh t v b l=>∃i d1,T=0/\ov p.room p.prog B a (s.last+1) aa V=some i/\PV p ((s.put a (B,i.state,i.mail)).tell nX a 0 i.message) d w i h t d1 l/\b=Sy.made p.n p.prog p.room ((s.put a (B,i.state,i.mail)).tell nX a 0 i.message) i.spawns/\(b=true->∃U aN aP c,v=ag aN t.pl aP/\U.length=t.pl/\w.heap.size<=c/\(∀h,c<=h->d1.ow h=0)/\l.ownsRow c 141 1 v t.pl (U.map Be)/\mQ p.lo p.room (d1.k+201) (λh=>v.ownBlock=some h) l.heap.size l i.spawns U c))
   (λv w'=>v=P.2/\∃E,bE p P.1 E w'/\gE 201 402 d E w w') be aX ⟨a8,a9,ba⟩ (by rw[ab];rfl) ((λg=>by cases g)) (λ_ l ax=>?_) (λh t Z l aQ bo=>?_) (λh t l aQ=>?_) (λh t l F=>?_) (λh t l F=>?_) (λh t v b l F=>?_) (λh t v b l F N=>?_) (λh t v l F N=>?_) λh t v l F N=>?_
  ·have W:=q.later ax;have J:=da (eL (p.n+1)) 2 (rK (p.n+1)) p.pa;refine((bI.later ax).step p.prog p.pa p.pc l.heap.size W.pg.1.1 (aA _) q.pg.2.1 q.pg.2.2.1 (λ_=>q.pg.2.2.2.2) (λbA av=>J.2.2.1 _ _ _ bA _ (λb h=>av.block b h.2 λg=>by have:=h.1;rw[g]at this;omega) (J.2.1 _ _ _ _ W.pg.1.2 W.pg.1.1) W.pg.1.1) (aF bP ax.size) (by omega) (by omega) a (s.last+1)).mono ?_;rintro e w' (⟨Z,rfl,y⟩|⟨r,f,sa,sl,sc,pa,pl,pc,ka,kl,kc,rfl,y⟩)
   ·obtain⟨K,R,G⟩:=y.out;have bc:=(W.later G).cells;exact⟨⟨0,0,⟨#[]⟩,none,0,0,0,none,0,0,none,0,0,none,0,0⟩,Z,rfl,ak ⟨K,R.trans aS.symm,G⟩,λh _ aV=>G.block h aV,G.size,bc.1,bc.2.2.1⟩
   ·obtain⟨i,J,K,R,G,af,L,bW,bX,aI,bY,bV⟩:=y.out;have bb:w'.heap[p.b]?=some (.cells (eA p s d) 139):=(aI.block p.b (bf aX ax.size) (by rw[q.own];omega)).trans W.box;exact⟨⟨r.1.1,r.1.2.1,r.1.2.2,r.2.1.1,r.2.2.length,r.2.1.2,f,sa,sl,sc,pa,pl,pc,ka,kl,kc⟩,0,rfl,am ⟨rfl,aS.trans K,r,i,J,⟨rfl,rfl,rfl⟩,R,G,af,L,bW,bX,aI,bY,bV⟩,λh ar bJ=>aI.block h bJ (by rw[aB h ar];omega),aI.size,aj bb 0,aj bb 2⟩
  ·obtain⟨Q,al,K,R,G,af,L⟩:=aQ;rcases R with⟨_,e,bZ⟩|⟨e,_⟩
   ·rw[if_neg (by rw[<-e];exact bo)]at m;have av:bH (λb=>b=h) w l:=((aO K λb=>b=h).trans (aO bZ λb=>b=h) λ_ _ e=>e).trans L λ_ _ e=>e;rw[m];exact⟨e,d,q.kept av λb g=>by rw[g];exact aB h G.1,av.mono λb az g=>by omega,λ_ _=>rfl,by omega,by omega,by omega,by omega⟩
   ·exact absurd e bo
  ·obtain⟨Q,al,K,R,G,af,L⟩:=aQ;rcases R with⟨e,_⟩|⟨_,bL,r,i,J,⟨f1,f2,f3⟩,b0,b2,b3,b4,bp,b5,Y,cz,bq,cy,b1⟩
   ·exact absurd rfl e
   have bO:bH (λh=>d.ow h=a) Q al:=⟨Y.os,Y.tape,Y.output,Y.size,Y.block⟩;have ct:=K.size;have cu:=Y.size;have cv:=L.size
   obtain⟨bu,bv⟩:=(q.later K).turnP aC hg bO (j:=d.k+402) (λh g=>by
    rcases g.1 with g|g
    ·exact ak g
    ·exact am (by omega)) (by omega) (bq.mono (λ_ g=>g) (by omega) (P1.lie2 bq)) (by omega)
   generalize aU:({d with ow:=GB d Q al a,k:=d.k+402}:gX)=d1 at bu bv;have bg:∀b,d1.ow b=if Q.heap.size<=b/\b<al.heap.size then a else d.ow b:=λb=>by rw[<-aU];rfl
   have aW:d1.ow h=0:=by
    rw[bg,if_neg (by omega)];exact aB h G.1
   have bi:∀b,Q.heap.size<=b->0<=d1.ow b:=λb az=>by
    rw[bg];split
    ·omega
    ·rw[aB b (by omega)];exact kj 0
   have ar:bE p (s.put a (B,i.state,i.mail)) d1 l:=bu.kept L λb g=>by rw[g];exact aW
   have bT:gE 0 402 d d1 w l:=by
    have z:=((ex.later d K).un.trans bv);obtain⟨ca,cb,cc,cd,ce,cf⟩:=z;exact⟨ca.trans L λb az g=>by omega,cb,by rw[<-aU]at cc ⊢;show d.k+402<=_;omega,cd,ce,cf⟩
   have bU:=fB L (D:=λb=>Q.heap.size<=b/\b<al.heap.size) (λb g ch=>by omega) ⟨bp,In.offB (b5.mono λb g=>g.1) bp⟩;have bM:GZ i t d1 l:=by
    obtain⟨ao,aK,aL,A,o,x,H,S,O,ah,a5,b6⟩:=b1.kept L λb cg _ cB cC=>by omega
    have bd:∀{a4:Nat}{an:Tm a4},In l.heap.size l a4 an->cF (λb=>Q.heap.size+1<=b/\True) a4 an->GV d1 l an:=λbB bC=>⟨bB,bC.mono λb g=>bi b (by omega)⟩;refine⟨ao,_,aK,aL,A,o,x,H,S,O,λg I=>⟨(ah g I).1,bd (ah g I).2.1 (ah g I).2.2⟩,λg I=>⟨(a5 g I).1,bd (a5 g I).2.1 (a5 g I).2.2⟩,λb g=>⟨?_,bi b (by have:=(b6 b g).1;omega)⟩⟩;rcases g with g|g|g
    ·exact(o.lt b g).2
    ·exact(x.lt b g).2
    ·exact(H.lt b g).2
   obtain⟨⟨cA,cg,ch⟩,⟨cD,cG⟩,cH⟩:=r;simp only[gR]at f1 f2;obtain⟨rfl,rfl,rfl⟩:=f1;obtain⟨rfl,rfl⟩:=f2;rw[<-f3];have bN:d1.es=d.es:=by rw[<-aU]
   refine(ar.tell nX a 0 _ _ _ _ _ _ _ (lf bU.1 b4) (by rw[bN];omega)).mono ?_;rintro e w' ⟨rfl,y⟩;obtain⟨d2,M,C⟩:=y.out.up ar;have bj:=(aR.1 af).1;have cw:=C.1.size;rw[b3]at M;refine⟨rfl,i,d2,bL,b0,M,(bT.trans C.un).mono (by omega) (by omega),⟨G.1,by omega,by rw[C.2.1 h bj];exact aW,?_⟩,b2,bM.kee C.1 C.2.1⟩;rw[C.1.block h bj (by rw[aW];decide)];exact af
  ·obtain⟨i,d1,z,u,⟨A,o,x,H,S⟩⟩:=F;obtain⟨ao,a7,aK,aL,X,aZ,a0,a1,a2,ad,a3,aD,aH⟩:=S;have aY:=FD bh u;have cs:t.pl<=8:=by
    have:=aY.1.2.1;rw[<-ad,cE]at this;omega
   refine(A.made a0 X.2.1 (by omega) λg I=>⟨(aD g I).1,(aD g I).2.1⟩).mono ?_;rintro e w' ⟨v,b,rfl,y⟩;obtain⟨ai,br,bs⟩:=y.out;rw[ad]at br bs;have bR:∀h,l.heap.size<=h->d1.ow h=0:=λh aV=>by
    by_cases g:d1.ow h=0
    ·exact g
    ·have:=(A.low h g).2;omega
   refine⟨v,b,rfl,i,d1,z,u,⟨A.later ai,(o.trans (ex.later d1 ai).un).mono (aA _) (aA _),⟨x.1,bf x.2.1 ai.size,x.2.2.1,fj ai x.2.2.2⟩,H,GZ.kee ⟨ao,a7,aK,aL,X,aZ,a0,a1,a2,ad,a3,aD,aH⟩ (aO ai _) λ_ _=>rfl⟩,br,λaz=>?_⟩;obtain⟨U,aN,aP,b8,a6,bw,aJ⟩:=bs az;exact⟨U,aN,aP,l.heap.size,b8,a6,o.1.size,bR,bw,aJ⟩
  ·obtain⟨i,d1,z,u,A,o,x,_⟩:=F;exact x.2.2.2
  ·obtain⟨i,d1,z,u,⟨A,o,x,_⟩,_⟩:=F;exact x.2.2.2
  ·obtain⟨i,d1,z,u,⟨A,o,x,H,S⟩,_⟩:=F;rw[if_pos z,u]at m;simp only at m;rw[H]at N ⊢;rw[if_pos N]at m;refine(A.fin aT (by have:=o.2.2.2.1;omega)).mono ?_;rintro e w' ⟨rfl,y⟩;obtain⟨d2,M,C⟩:=y.out;rw[m];exact⟨rfl,rfl,d2,M,(o.trans C.un).mono (by omega) (by omega)⟩
  ·obtain⟨i,d1,z,u,⟨A,o,x,H,S⟩,O,_⟩:=F;rw[if_pos z,u]at m;simp only at m;rw[H]at N;rw[if_neg N,if_pos O.symm]at m;have bk:=congrArg Prod.fst m;have bl:=congrArg Prod.snd m;dsimp only at bk bl;refine(A.fin (how:=2) aT (by have:=o.2.2.2.1;omega)).mono ?_;rintro e w' ⟨rfl,y⟩;obtain⟨d2,M,C⟩:=y.out;rw[<-bk]at M;exact⟨rfl,bl.symm,d2,M,(o.trans C.un).mono (by omega) (by omega)⟩
  ·obtain⟨i,d1,z,u,⟨A,o,x,H,S⟩,O,ah⟩:=F;rw[if_pos z,u]at m;simp only at m;rw[H]at N;have bS:¬Sy.made p.n p.prog p.room ((s.put a (B,i.state,i.mail)).tell nX a 0 i.message) i.spawns=false:=λg=>Bool.noConfusion (O.trans g);rw[if_neg N,if_neg bS]at m;obtain⟨U,aN,aP,c,rfl,a6,bw,aJ,bx,b9⟩:=ah rfl;obtain⟨ao,a7,aK,aL,X,aZ,a0,a1,a2,ad,a3,aD,aH⟩:=S;have aY:=FD bh u;have bm:i.spawns.length=t.pl:=by rw[<-ad,cE];exact X.2.1
   have bQ:Sy.may ((s.put a (B,i.state,i.mail)).tell nX a 0 i.message) t.pl=true:=by
    unfold Sy.made at O;rw[bm]at O;exact(Bool.and_eq_true_iff.1 O.symm).1
   have hF:=A.follow (pa:=t.pa) (pl:=t.pl) (pc:=t.pc) aT i aY t.y0 t.y1 t.y2 t.ya t.yl t.yc aZ a1 bx ⟨X.1,X.2.2,a6,bm⟩ a2 a3 (λb g=>?_) b9 (aA _) (λh g _=>aJ h g) bQ (by have:=o.2.2.1;omega) (by have:=o.2.2.2.1;omega) (by have:=o.2.2.2.2.1;omega) (by have:=o.2.2.2.2.2;omega)
   ·rw[<-H]at hF;refine hF.mono ?_;rintro e w' ⟨rfl,y⟩;obtain⟨d2,M,C⟩:=y;rw[m];exact⟨rfl,rfl,d2,M,o.ug C λh g=>by omega⟩
   ·rcases g with g|g|g
    ·exact(aH b (ak g)).2
    ·exact(aH b (am (am g))).2
    ·rw[aJ b (bx.lt b g).1];exact kj 0
end
theorem LS(p:Nat)(c a b q r:Int)(s:aq)(xa:ay)(t xc:Nat)(w:ah)(R:Int->bF)(m:Hid (c=1->∀W,ap w W->au 87 #[aE p,ae a] W λe w'=>∃v,e=aw (ae v)/\Hid (R v w')))(i:Hid (c=2->∀W,ap w W->au 88 #[aE p,ae a,ae b] W λe w'=>∃v,e=aw (ae v)/\Hid (R v w')))(l:Hid (c=3->∀W,ap w W->au 89 #[aE p,ae a,.agg #[ae q,ae r,af s,ag xa t xc]] W λe w'=>∃v,e=aw (ae v)/\Hid (R v w')))(k:Hid (¬(c=1\/c=2\/c=3)->∀W,ap w W->R 1 W)):au 58 #[aE p,.agg #[ae c,ae a,ae b,ae q,ae r,af s,ag xa t xc]] w λe w'=>∃v,e=aw (ae v)/\Hid (R v w'):=by
 go_enter func58,ntmps58;go_upto_region 1 with fail;generalize x:w.alloc _=d;have HB:Hid (ap w d):=by
  rw[<-x];exact aV _ _
 have f:d.heap[w.heap.size]?=some (.cells #[ae c,ae a,ae b,ae q,ae r,af s,ag xa t xc] 78):=by
  rw[<-x];exact aK _ _
 generalize w.heap.size=g at*;clear x;have d0:ai d g 0 (ae c):=aj f 0;have d1:ai d g 1 (ae a):=aj f 1;have d2:ai d g 2 (ae b):=aj f 2;have d3:ai d g 3 (ae q):=aj f 3;have d4:ai d g 4 (ae r):=aj f 4;have d5:ai d g 5 (af s):=aj f 5;have d6:ai d g 6 (ag xa t xc):=aj f 6;clear f;by_cases n:c=1
 ·have j:=av (m n _ HB);subst n;clear m i l k;go_wp2_with fail;refine j.mono ?_;rintro e z ⟨v,rfl,h⟩;go_wp2_with fail
  go_ret
  exact⟨v,rfl,h⟩
 have y:(c==1)=false:=by simpa using n
 by_cases o:c=2
 ·have j:=av (i o _ HB);subst o;clear m i l k n y;go_wp2_with fail;refine j.mono ?_;rintro e z ⟨v,rfl,h⟩;go_wp2_with fail
  go_ret
  exact⟨v,rfl,h⟩
 have B:(c==2)=false:=by simpa using o
 by_cases u:c=3
 ·have j:=av (l u _ HB);subst u;clear m i l k n y o B;go_wp2_with fail;refine j.mono ?_;rintro e z ⟨v,rfl,h⟩;go_wp2_with fail
  go_ret
  exact⟨v,rfl,h⟩
 have C:(c==3)=false:=by simpa using u
 have A:=av (k (by omega) _ HB);clear m i l k;go_wp2_with fail
 go_ret
 exact⟨1,rfl,A⟩
section
variable {p:mN} {s:Sy} {d:gX} {w:ah}
theorem bE.do(r:bE p s d w){o a b:Int}(y:I2 (a,b)){m:Nat}(x:Tm (m+1))(z:In w.heap.size w (m+1) x/\cF (λq=>¬1<=d.ow q) (m+1) x)(B:(aH (m+1) x).length<=2097152)(D:d.k<=91000)(A:d.es.length<=96000)(E:d.wn<=800000)(C:d.bn<=800000):au 58 #[aE p.b,.agg #[ae o,ae a,ae b,ae x.1.1,ae x.1.2.1,af x.1.2.2,ag x.2.1.1 x.2.2.length x.2.1.2]] w λe w'=>∃v,e=aw (ae v)/\Hid (v=(s.do p.n p.prog p.room o a b (m+1) x).2/\∃f,bE p (s.do p.n p.prog p.room o a b (m+1) x).1 f w'/\gE 201 402 d f w w'):=by
 obtain⟨t,g⟩:∃t,t=s.do p.n p.prog p.room o a b (m+1) x:=⟨_,rfl⟩;rw[<-g];unfold Sy.do at g;refine LS p.b o a b x.1.1 x.1.2.1 x.1.2.2 x.2.1.1 x.2.2.length x.2.1.2 w (λv w'=>v=t.2/\∃f,bE p t.1 f w'/\gE 201 402 d f w w') (λe u c=>?_) (λe u c=>?_) (λe u c=>?_) λe u c=>?_
 ·rw[if_pos e]at g;refine((r.later c).run y.1 D A E C).mono ?_;rintro e w' ⟨v,rfl,h⟩;obtain⟨i,f,j,l⟩:=h.out;rw[g];exact⟨v,rfl,i,f,j,((ex.later d c).un.trans l).mono (by omega) (by omega)⟩
 ·rw[if_neg (by omega),if_pos e]at g;refine((r.later c).arrive y (by omega) (by omega) (by omega)).mono ?_;rintro e w' ⟨v,rfl,h⟩;obtain⟨i,f,j,l⟩:=h.out;rw[g];exact⟨v,rfl,i,f,j,((ex.later d c).un.trans l).mono (by omega) (by omega)⟩
 ·rw[if_neg (by omega),if_neg (by omega),if_pos e]at g;refine((r.later c).inject y.1 x ⟨(z.1.below c).mono c.size,z.2⟩ B (by omega) (by omega)).mono ?_;rintro e w' ⟨v,rfl,h⟩;obtain⟨i,f,j,l⟩:=h;rw[g];exact⟨v,rfl,i,f,j,((ex.later d c).un.trans l).mono (by omega) (by omega)⟩
 ·rw[if_neg (by omega),if_neg (by omega),if_neg (by omega)]at g;rw[g];exact⟨rfl,d,r.later c,(ex.later d c).un.mono (by omega) (by omega)⟩
end
theorem Jj(y:ay)(A z:Nat)(room E:Int)(w:ah)(n:Int->Int->aq->ay->Nat->Nat->bF)(r:ay->Nat->Nat->bF)(R:az->Int->bF)(x:Hid (au 82 #[ag y A z] w λe w'=>∃y0 y1 y2 ya yl yc,e=aw (ax #[.agg #[ae y0,ae y1,af y2,ag ya yl yc],ae E])/\Hid (n y0 y1 y2 ya yl yc w')))(j:Hid (E=0->(0<=room/\room<=1000)->∀y0 y1 y2 ya yl yc W b,n y0 y1 y2 ya yl yc W->ap W b->au 54 #[.agg #[ae y0,ae y1,af y2,ag ya yl yc]] b λe w'=>∃a l c h,e=aw (ax #[ag a l c,ae h])/\Hid (r a l c w')))(g:Hid (∀y0 y1 y2 ya yl yc W b,n y0 y1 y2 ya yl yc W->ap W b->(E≠0->R (.pointer none) E b)/\(E=0->¬(0<=room/\room<=1000)->R (.pointer none) 1 b)))(k:Hid (∀a l c W,E=0->(0<=room/\room<=1000)->r a l c W->R (aE W.heap.size) 0 (W.alloc (.cells #[ag a l c,ae room,ae 0,.map none,.map none,.map none,ag none 0 0] 139)))):au 55 #[ag y A z,ae room] w λe w'=>∃v h,e=aw (ax #[v,ae h])/\Hid (R v h w'):=by
 go_enter func55,ntmps55;go_wp2_with fail;refine x.mono ?_;rintro e i ⟨y0,y1,y2,ya,yl,yc,rfl,d⟩;clear x;have m:Hid (∀o,ap i (i.alloc o)):=λo=>aV _ o;by_cases p:E=0;rotate_left
 ·have f:Hid (∀o,R (.pointer none) E (i.alloc o)):=λo=>(g _ _ _ _ _ _ _ _ d (m o)).1 p;have F:(E==0)=false:=by simpa using p
  clear j g k d;go_wp2_with fail;exact aD (v:=ax #[.pointer none,ae E]) (by simp[results,results55,go_sem]) rfl ⟨_,_,rfl,f _⟩
 subst p;by_cases q:0<=room/\room<=1000;rotate_left
 ·have f:Hid (∀o,R (.pointer none) 1 (i.alloc o)):=λo=>(g _ _ _ _ _ _ _ _ d (m o)).2 rfl q;clear j g k d;by_cases B:room<0
  ·go_wp2_with fail;exact aD (v:=ax #[.pointer none,ae 1]) (by simp[results,results55,go_sem]) rfl ⟨_,_,rfl,f _⟩
  ·have C:1000<room:=by omega
   go_wp2_with fail;exact aD (v:=ax #[.pointer none,ae 1]) (by simp[results,results55,go_sem]) rfl ⟨_,_,rfl,f _⟩
 have t:=av (λb=>j rfl q y0 y1 y2 ya yl yc i b d);have u:=av (λa l c W=>k a l c W rfl q);have B:¬room<0:=by omega
 have C:¬1000<room:=by omega
 clear j k g d;go_wp2_with fail;refine(t _ (m _)).mono ?_;rintro e D ⟨a,l,c,h,rfl,s⟩;have f:=av (u _ _ _ _ s);clear t u s;go_wp2_with fail;exact aD (v:=ax #[aE D.heap.size,ae 0]) (by simp[results,results55,go_sem]) rfl ⟨_,_,rfl,f⟩
def Qe:Sy:=⟨0,[],λ_=> [],λ_=>false,[]⟩
def Dj(n:Nat)(l:List (Bh (n+1)))(room:Int):Int:=if oJ n l≠0 then oJ n l else if 0<=room/\room<=1000 then 0 else 1
def PW(n:Nat)(l:List (Bh (n+1)))(room:Int)(w:ah)(v:az)(d:Int)(w':ah):Prop:=
 d=Dj n l room/\ap w w'/\(d≠0->v=.pointer none)/\(d=0->∃(a:mN)(c:gX),v=aE a.b/\bE a Qe c w'/\(c.k=0/\c.es=[]/\c.wn=0/\c.bn=0)/\a.room=room/\a.lo=w.heap.size/\a.n=n+5/\aJ (a.n+6) (cX a.n a.prog) (n+6) (cX n l)=true)
theorem L0(n:Nat)(l:List (Bh (n+1)))(y:ay)(q:Nat)(room:Int)(w:ah)(U:iW (n+1) w.heap.size w y l)(V:l.length<=q)(W:q<=maxLen)(F:lk (n+1) l=true->(aH (n+6) (cX n l)).length<=2097152):au 55 #[ag y l.length q,ae room] w λe w'=>∃v M,e=aw (ax #[v,ae M])/\Hid (PW n l room w v M w'):=by
 refine Jj y l.length q room (oJ n l) w (λy0 y1 y2 ya yl yc d=>ap w d/\∃f:Tm (n+6),(f.1=(y0,y1,y2)/\f.2.1=(ya,yc)/\f.2.2.length=yl)/\In d.heap.size d (n+6) f/\aJ (n+6) f (n+6) (Ju n l)=true)
  (λi h c d=>∃g:List (Bh (n+6)),g.length=h/\(∃A,ap w A/\ap A d)/\(h<=c/\c<=maxLen)/\iW (n+6) d.heap.size d i g/\uE (kF (n+6) λb=>w.heap.size<=b) (λb=>w.heap.size<=b) i g/\oJ (n+5) g=0/\aJ (n+11) (cX (n+5) g) (n+6) (cX n l)=true) (PW n l room w) ?_ (λj u y0 y1 y2 ya yl yc d r p o=>?_) (λy0 y1 y2 ya yl yc d r p o=>⟨λj=>?_,λj u=>?_⟩) λi h c d j u hF=>?_
 ·refine(Mf n l y q V W w.heap.size w U (aA _) F).mono ?_;rintro e w' ⟨f,rfl,z⟩;obtain⟨O,P,aj,Q⟩:=z.out;exact⟨f.1.1,f.1.2.1,f.1.2.2,f.2.1.1,f.2.2.length,f.2.1.2,rfl,O,f,⟨rfl,rfl,rfl⟩,P,Q⟩
 ·obtain⟨m,f,⟨f1,f2,f3⟩,D,x⟩:=p;obtain⟨⟨av,az,aB⟩,⟨aC,aD⟩,aE⟩:=f;simp only[gR]at f1 f2;obtain⟨rfl,rfl,rfl⟩:=f1;obtain⟨rfl,rfl⟩:=f2;subst f3;obtain⟨t1,t2,t3⟩:=Jw j x;refine(Ci (n+5) (n+6) (aA _) _ r.heap.size r ((D.below o).mono o.size) (gH t1) (aA _)).mono ?_;rintro e w' ⟨g,i,c,rfl,z⟩;obtain⟨aa,ab,ad,af,an,ai⟩:=z;obtain⟨a,Y,Z⟩:=ai t2;obtain⟨ao,K,L,aq,ar⟩:=t3 a g Y Z;have G:=m.trans (o.mono m.size);have am:=G.size;have h:=da (eL (n+6)) 2 (rK (n+6)) i;rw[(gP K).2.2,(gP j).2.2]at L;exact⟨i,g.length,c,_,rfl,g,rfl,⟨r,G,aa⟩,ab,ad,h.1 _ _ _ (λb a=>by omega) af,K,L⟩
 ·have m:=p.1.trans (o.mono p.1.size);exact⟨by unfold Dj;rw[if_pos j],m,λ_=>rfl,λa=>absurd a j⟩
 ·have m:=p.1.trans (o.mono p.1.size);exact⟨by unfold Dj;rw[if_neg (by rw[j];decide),if_neg u],m,λ_=>rfl,(λa=>by cases a)⟩
 ·obtain⟨g,rfl,⟨A,E,N⟩,H,C,I,X,x⟩:=hF;have m:=E.trans (N.mono E.size);have J:=m.size;have s:ap d (d.alloc (.cells #[ag i g.length c,ae room,ae 0,.map none,.map none,.map none,ag none 0 0] 139)):=aV _ _;generalize R:d.alloc (.cells #[ag i g.length c,ae room,ae 0,.map none,.map none,.map none,ag none 0 0] 139)=B at s;have t:B.heap[d.heap.size]?=some (.cells #[ag i g.length c,ae room,ae 0,.map none,.map none,.map none,ag none 0 0] 139):=by
   rw[<-R];exact aK _ _
  have al:=(aR.1 t).1;refine⟨by unfold Dj;rw[if_neg (by rw[j];decide),if_pos u],m.trans (s.mono m.size),λa=>absurd rfl a,λ_=>⟨⟨w.heap.size,d.heap.size,room,n+5,g,i,c⟩,⟨λb=>if b=d.heap.size then -5 else if w.heap.size<=b/\b<d.heap.size then -4 else 0,none,[],none,0,λ_=> [],λ_=>ns,none,0,ag none 0 0,[],0⟩,rfl,?_,⟨rfl,rfl,rfl,rfl⟩,rfl,rfl,rfl,x⟩⟩;have h:=da (eL (n+6)) 2 (rK (n+6)) i;refine⟨λb a=>?_,t,if_pos rfl,⟨⟨?_,?_⟩,H.1,H.2,X,?_⟩,ak ⟨rfl,rfl⟩,⟨rfl,List.nodup_nil,by simp[Qe],by decide,by decide,by simp[Qe]⟩,?_,⟨⟨J,(rC t).1,ak ⟨rfl,rfl,rfl⟩⟩,?_,λ_=>rfl,λ_=>aM _,?_⟩,⟨⟨J,(rC t).2,ak ⟨rfl,rfl⟩⟩,?_,(λb a=>by cases a)⟩,⟨eW _ _ _ _,(λb a=>by cases a)⟩,rfl,(λe S=>by cases S)⟩
  ·have a:(if b=d.heap.size then (-5:Int)else if w.heap.size<=b/\b<d.heap.size then -4 else 0)≠0:=a;show w.heap.size<=b/\b<B.heap.size;split at a
   ·omega
   ·split at a
    ·omega
    ·exact absurd rfl a
  ·exact h.2.2.2.1 _ _ _ _ s.size (h.2.2.1 _ _ _ B _ (λb a=>s.block b a.2) (h.2.1 _ _ _ _ I C) C)
  ·refine h.1 _ _ _ (λb a=>?_) (h.2.1 _ _ _ _ I C);exact(if_neg (by omega)).trans (if_pos ⟨a.1,a.2⟩)
  ·rw[lp _ _ _ _ x];exact F (gP j).1
  ·intro k b a;cases a
  ·intro b a;rcases a with a|a|⟨k,_,a⟩
   ·exact ak a
   ·cases a
   ·cases a
  ·intro k f D;cases D
  ·intro k T;cases T
theorem M6{P:List (Bh (n+1))}{Q:List (Bh (m+1))}(d:aJ (n+6) (cX n P) (m+6) (cX m Q)=true)(f:oJ n P=0)(g:oJ m Q=0){s:Sy}(q:∀a nm cs c,s.get a=some (nm,cs,c)->(bK 13 cs=0/\aX 13 cs=true)/\∀t∈c,bK 13 t=0/\aX 13 t=true)(v:0<=s.last/\s.last<=90)(room i a b:Int)(k:Nat)(x:Tm k):s.do n P room i a b k x=s.do m Q room i a b k x:=by
 have p:lW n P=lW m Q:=funext λnm=>wk d nm;have r:s.run n P room a=s.run m Q room a:=by
  unfold Sy.run;cases e:s.get a with
  | none=>rfl
  | some u=>
   obtain⟨nm,cs,c⟩:=u;obtain⟨j,l⟩:=q a nm cs c e;have h:=Jm d f g room nm a (s.last+1) ⟨by omega,by omega⟩ j l;have o:rB n room P nm a (s.last+1) cs c=rB m room Q nm a (s.last+1) cs c:=by
    unfold rB;rw[h,f,g]
   simp only[o,h,Sy.made,p];split
   ·cases ov room Q nm a (s.last+1) cs c<;>rfl
   ·rfl
 unfold Sy.do;rw[r]
theorem Fz{P:List (Bh (n+1))}{Q:List (Bh (m+1))}(a:aJ (n+6) (cX n P) (m+6) (cX m Q)=true)(s:Sy)(room:Int)(nm:aq)(k:Nat)(x:Tm k):s.start n P room nm k x=s.start m Q room nm k x:=by
 unfold Sy.start;rw[wk a]
theorem KW{P:List (Bh (n+1))}{x:Tm k}{y:Tm j}(c:aJ k x j y=true)(s:Sy)(room a b:Int):s.do n P room 3 a b k x=s.do n P room 3 a b j y:=by
 unfold Sy.do Sy.inject;rw[bO c,cG _ _ _ _ c,gB c]
def wA:aq:=⟨#[97]⟩
def vL(c:UInt8):Bool:=decide (48<=(c.toNat:Int)) && decide ((c.toNat:Int)<=57)
def iV(l:List UInt8):Bool:=l.all vL
def mm(l:List UInt8):Int:=l.foldl (λn c=>10*n+((c.toNat:Int)-48)) 0
def fl(s:aq)(m:Int):Bool:=decide (1<=(s.size:Int)) && decide ((s.size:Int)<=m) && !(s.data.toList[0]?==some 48 && decide (1<(s.size:Int))) && iV s.data.toList
theorem vM(s:aq)(k:Nat)(a:k<s.size):iV (s.data.toList.take (k+1))=(iV (s.data.toList.take k) && vL s[k]):=by
 rw[tO s k a];simp[iV]
theorem IN(s:aq)(k:Nat)(a:k<s.size):mm (s.data.toList.take (k+1))=10*mm (s.data.toList.take k)+((s[k].toNat:Int)-48):=by
 rw[tO s k a];simp[mm]
theorem EQ(l:List UInt8):iV l=true->0<=mm l/\mm l<10 ^ l.length:=by
 suffices g:∀(l:List UInt8)(a:Int)(b:Nat),iV l=true->0<=a->a<10 ^ b->0<=l.foldl (λn c=>10*n+((c.toNat:Int)-48)) a/\l.foldl (λn c=>10*n+((c.toNat:Int)-48)) a<10 ^ (b+l.length) by
  intro d;have:=g l 0 0 d (by omega) (by simp);simpa [mm]using this
 intro l
 induction l with
 | nil=>intro a b _ e f;exact⟨e,f⟩
 | cons c l ih=>
  intro a b d e f;simp only[iV,jw,aS,vL,cU]at d;have:=ih (10*a+((c.toNat:Int)-48)) (b+1) (by simp only[iV];exact d.2) (by omega) (by rw[Int.pow_succ];omega);simp only[gg,bu];rw[show b+(l.length+1)=b+1+l.length by omega];exact this
theorem ER(s:aq)(k:Nat)(d:k<=14)(c:iV (s.data.toList.take k)=true):0<=mm (s.data.toList.take k)/\mm (s.data.toList.take k)<100000000000000:=by
 have a:=EQ _ c;refine⟨a.1,Int.lt_of_lt_of_le a.2 ?_⟩;have:(10:Int) ^ (s.data.toList.take k).length<=10 ^ 14:=by
  have b:(10:Nat) ^ (s.data.toList.take k).length<=10 ^ 14:=Nat.pow_le_pow_right (by omega) (by simp;omega)
  exact_mod_cast b
 simpa using this
theorem yj(s:aq)(k:Nat)(a:k<s.size)(c:vL s[k]=false):iV s.data.toList=false:=by
 have b:iV s.data.toList=(iV (s.data.toList.take (k+1)) && iV (s.data.toList.drop (k+1))):=by
  conv=>lhs;rw[<-iM (k+1) s.data.toList]
  simp only[iV,lw]
 rw[b,vM s k a,c];simp
theorem sj(s:aq)(a:0<s.size):s.data.toList[0]?=some s[0]:=by
 rw[aU (by simpa using a)];rfl
theorem Ph(s:aq)(e:0<s.size)(f:s[0]=48):(s.toList==[48])=decide (¬1<s.size):=by
 rw[cD];have b:=sj s e;rw[f]at b;have a:s.data.toList.length=s.size:=by simp
 cases d:s.data.toList with
 | nil=>rw[d]at a;simp at a;omega
 | cons c l=>
  rw[d]at b a;simp at b;subst b;cases l with
  | nil=>simp at a;simp;omega
  | cons g l=>simp at a;simp;omega
theorem Dh(b:0<s.size):s.toList.isEmpty=false:=by
 rw[cD,List.isEmpty_eq_false_iff];intro a;have:s.data.toList.length=s.size:=by simp
 rw[a]at this;simp at this;omega
theorem Df(a:¬0<s.size):s.toList.isEmpty=true:=by
 rw[cD,List.isEmpty_iff];apply b8;have:s.data.toList.length=s.size:=by simp
 omega
theorem kP{c:UInt8}{d:UInt8}(b:d.toNat=k)(a:¬c=d):¬((c.toNat:Int)=k):=λe=>a (UInt8.toNat.inj (by omega))
def OP(s:aq)(m:Int)(e:Ending):Prop:=
 ∃(a:Int)(b:Bool),e=aw (ax #[ae a,.bool b])/\Hid (b=fl s m/\0<=a/\a<100000000000000/\(b=true->a=mm s.data.toList))
theorem pf(s:aq)(m:Int)(w:ah)(E:s.size<=9223372036854775807)(D:m<=13):au 111 #[af s,ae m] w λe w'=>OP s m e/\w'=w:=by
 go_enter func111,ntmps111;by_cases g:0<s.size
 ·have n:=Dh g;have A:(s.toList=[])=False:=by simpa using n
  by_cases l:(s.size:Int)<=m
  ·have z:decide (m<(s.size:Int))=false:=by simp;omega
   have i:s[0]=48->(s.toList==[48])=decide (¬1<s.size):=Ph s g;by_cases c:s[0]=48/\1<s.size
   ·obtain⟨c,a⟩:=c;have j:(s.toList==[48])=false:=by rw[i c];simp;omega
    have b:Hid (fl s m=false):=by simp[Hid,fl,sj s g,c];omega
    clear i;go_wp2_with fail
    all_goals go_ret2
    all_goals exact⟨⟨0,false,rfl,b.symm,by omega,by omega,by simp⟩,rfl⟩
   ·have b:Hid (fl s m=iV s.data.toList):=by
      simp only[Hid,fl];rw[sj s g];by_cases a:s[0]=48
      ·have:¬1<s.size:=λf=>c ⟨a,f⟩;simp[l];omega
      ·simp[l,a];omega
    have j:(s[0]=48/\(s.toList==[48])=true)\/¬((s[0].toNat:Int)=48):=by
     by_cases a:s[0]=48
     ·have B:¬1<s.size:=λf=>c ⟨a,f⟩;exact ak ⟨a,by rw[i a];simp;omega⟩
     ·exact am (kP (k:=48) rfl a)
    clear i c;rcases j with⟨a,j⟩|j
    all_goals
     go_wp2_with fail
     go_loop [6,7] (λt p=>∃k:Nat,∃h:Int,k<=s.size/\p=ae k/\t=ae h/\Hid (h=mm (s.data.toList.take k)/\iV (s.data.toList.take k)=true)) (λ_ p=>s.size-(intOf p).toNat)
     case atStart=>exact⟨0,0,aM _,rfl,rfl,by simp[Hid,iV,mm]⟩
     case round=>
      obtain⟨k,h,C,rfl,rfl,d⟩:=hrel;have r:=ER s k (by omega) d.2;rw[<-d.out.1]at r;obtain⟨F,G⟩:=r;by_cases o:k<s.size
      ·have x:=av (vM s k o);have y:=av (IN s k o);have q:Hid (vL s[k]=false->false=fl s m):=λf=>by rw[b.out,yj s k o f]
       by_cases d1:48<=(s[k].toNat:Int)
       ·by_cases d2:(s[k].toNat:Int)<=57
        ·go_wp2_with fail
         go_round
         case rel=>exact⟨k+1,10*h+((s[k].toNat:Int)-48),by omega,by go_num,by go_num,by rw[y.out,d.out.1],by rw[x.out,d.out.2];simp[vL,d1,d2]⟩
         case measure=>simp[intOf];omega
        ·go_wp2_with fail
         go_ret2
         exact⟨⟨0,false,rfl,q (by simp[vL,d2]),by omega,by omega,by simp⟩,rfl⟩
       ·go_wp2_with fail
        go_ret2
        exact⟨⟨0,false,rfl,q (by simp[vL];omega),by omega,by omega,by simp⟩,rfl⟩
      ·go_wp2_with fail
       go_ret2
       have u:s.data.toList.take k=s.data.toList:=bG (by simp;omega);refine⟨⟨h,true,rfl,?_,by omega,by omega,λ_=>?_⟩,rfl⟩
       ·rw[b.out,<-u,d.out.2]
       ·rw[d.out.1,u]
  ·have z:m<(s.size:Int):=by omega
   have b:Hid (fl s m=false):=by simp[Hid,fl,l]
   go_wp2_with fail
   all_goals go_ret2
   all_goals exact⟨⟨0,false,rfl,b.symm,by omega,by omega,by simp⟩,rfl⟩
 ·have n:=Df g;have A:(s.toList=[])=True:=by simpa using n
  have v:s.size=0:=by omega
  have b:Hid (fl s m=false):=by simp[Hid,fl,v]
  clear v;go_wp2_with fail
  all_goals go_ret2
  all_goals exact⟨⟨0,false,rfl,b.symm,by omega,by omega,by simp⟩,rfl⟩
def iG(s:aq):aq:=s.extract 1 s.size
def gC(s:aq):Bool:=
 if s.data.toList[0]?=some 35 then fl (iG s) 2
 else if s.data.toList[0]?=some 36 then fl (iG s) 2
 else if s.data.toList[0]?=some 45 then fl (iG s) 13 && !(mm (iG s).data.toList==0)
 else if s.toList==[95]then true
 else if fl s 13 then true
 else decide (0<s.size) && gD s.data.toList
def nh(s:aq):Int×Int×aq:=
 if s.data.toList[0]?=some 35 then (3,mm (iG s).data.toList,⟨#[]⟩)
 else if s.data.toList[0]?=some 36 then (5,mm (iG s).data.toList,⟨#[]⟩)
 else if s.data.toList[0]?=some 45 then (1,-mm (iG s).data.toList,⟨#[]⟩)
 else if s.toList==[95]then (6,0,⟨#[]⟩)
 else if fl s 13 then (1,mm s.data.toList,⟨#[]⟩)
 else (2,0,s)
def MC(s:aq)(e:Ending):Prop:=
 ∃(k a:Int)(t:aq)(b:Bool),e=aw (ax #[.agg #[ae k,ae a,af t,ag none 0 0],.bool b])/\Hid (b=gC s/\(b=true->(k,a,t)=nh s)/\t.size<=s.size/\dn k/\dn a)
theorem FE(s:aq):(iG s).size<=s.size:=by simp[iG]
def ON(k:Int)(s:aq)(e:Ending):Prop:=
 ∃(a:Int)(b:Bool),e=aw (ax #[.agg #[ae k,ae a,af ⟨#[]⟩,ag none 0 0],.bool b])/\Hid (b=fl s 2/\0<=a/\a<100000000000000/\(b=true->a=mm s.data.toList))
theorem sA(k:Int)(s:aq)(w:ah)(c:s.size<=9223372036854775807):au 110 #[ae k,af s] w λe w'=>ON k s e/\ap w w':=by
 go_enter func110,ntmps110;go_wp2_with (go_at_call 111;refine(pf _ _ _ c (by omega)).mono ?_;rintro e w' ⟨⟨v,b,rfl,a⟩,rfl⟩);exact aD (v:=ax #[.agg #[ae k,ae v,af ⟨#[]⟩,ag none 0 0],.bool b]) (by simp[results,results110,go_sem]) rfl ⟨⟨v,b,rfl,a⟩,by go_grown⟩
theorem Hf(s:aq)(w:ah)(b:s.size<=2048):au 112 #[af s] w λe w'=>e=aw (af s)/\ap w w':=by
 go_enter func112,ntmps112;go_wp2_with (go_at_call 143;refine(Tryz.stringslite_Clone s w (by omega)).mono ?_;rintro e w' ⟨rfl,a⟩)
 go_ret
 exact⟨rfl,a⟩
theorem Hm(s:aq)(a:0<s.size)(b:vL s[0]=false)(m:Int):fl s m=false:=by simp[fl,yj s 0 a b]
theorem IB(s:aq)(a:0<s.size)(c:Av s[0]=false):gD s.data.toList=false:=by
 have b:gD s.data.toList=(gD (s.data.toList.take 1) && gD (s.data.toList.drop 1)):=by
  conv=>lhs;rw[<-iM 1 s.data.toList]
  simp only[gD,lw]
 rw[b,wF s 0 a,c];simp
theorem OX(s:aq)(d:0<s.size)(b:¬s[0]=95):(s.toList==[95])=false:=by
 rw[cD];have a:=sj s d;cases hl:s.data.toList with
 | nil=>rfl
 | cons c l=>
  rw[hl]at a;simp at a;rw[<-a]at b;simp[b]
def qq(k a:Int)(t:aq):az:=.agg #[ae k,ae a,af t,ag none 0 0]
theorem dP(a: -100000000000000<=d)(b:d<=100000000000000):dn d:=⟨by omega,by omega⟩
theorem zM{t:TypeId}(c:Below (w.alloc (.cells #[v0,v1,v2,v3] t)).heap.size (w.alloc (.cells #[v0,v1,v2,v3] t)) w'):(ai w' w.heap.size 0 v0/\ai w' w.heap.size 1 v1/\ai w' w.heap.size 2 v2/\ai w' w.heap.size 3 v3)/\ (w'.frozen? ⟨w.heap.size,0,none⟩=false/\w'.frozen? ⟨w.heap.size,1,none⟩=false/\w'.frozen? ⟨w.heap.size,2,none⟩=false/\w'.frozen? ⟨w.heap.size,3,none⟩=false):=by
 have a:=λo=>c.cell (p:=⟨w.heap.size,o,none⟩) (by simp);have b:=λo=>c.frozen (p:=⟨w.heap.size,o,none⟩) (by simp);exact⟨⟨(a 0).trans (by simp[go_sem]),(a 1).trans (by simp[go_sem]),(a 2).trans (by simp[go_sem]),(a 3).trans (by simp[go_sem])⟩,(b 0).trans (by simp[go_sem]),(b 1).trans (by simp[go_sem]),(b 2).trans (by simp[go_sem]),(b 3).trans (by simp[go_sem])⟩
theorem Ey(e:Below (w.alloc o).heap.size (w.alloc o) w')(a b c d:az):ap w ((((w'.setCell ⟨w.heap.size,0,none⟩ a).setCell ⟨w.heap.size,1,none⟩ b).setCell ⟨w.heap.size,2,none⟩ c).setCell ⟨w.heap.size,3,none⟩ d):=by
 have f:ap w w':=(aV _ _).trans (e.mono (by simp))
 go_grown
theorem I7(s:aq)(w:ah)(y:s.size<=2048):au 76 #[af s] w λe w'=>MC s e/\ap w w':=by
 have D:=FE s;by_cases g:0<s.size
 ·have p:=Dh g;have u:(s.toList=[])=False:=by simpa using p
  have i:=av (sj s g);have C:(1:Int)<=s.size:=by omega
  by_cases j:s[0]=95
  ·have c:Hid (gC s=(s.toList==[95])/\((s.toList==[95])=true->nh s=(6,0,⟨#[]⟩))):=by
     simp only[Hid,gC,nh,i.out,j,Hm s g (by simp[vL,j]) 13,IB s g (by simp[Av,j])];cases h:(s.toList==[95])<;>simp
   go_enter func76,ntmps76;go_wp2_with fail;exact aD (v:=ax #[qq 6 0 ⟨#[]⟩,.bool (s.toList==[95])]) (by simp[results,results76,go_sem,qq]) rfl ⟨⟨6,0,⟨#[]⟩,_,rfl,c.1.symm,λh=>(c.2 h).symm,aM _,dP (by omega) (by omega),dP (by omega) (by omega)⟩,by go_grown⟩
  ·have d1:=kP (k:=95) (d:=95) rfl j;by_cases q:s[0]=35
   ·have c:Hid (gC s=fl (iG s) 2/\nh s=(3,mm (iG s).data.toList,⟨#[]⟩)):=by
      simp[Hid,gC,nh,i.out,q]
    go_enter func76,ntmps76;go_wp2_with (go_at_call 110;refine(sA 3 (iG s) _ (by omega)).mono ?_;rintro e w' ⟨⟨v,b,rfl,a⟩,f⟩;obtain⟨⟨l,m,n,o⟩,f0,f1,f2,f3⟩:=zM f;have HB:=av (Ey f);clear f);exact aD (v:=ax #[qq 3 v ⟨#[]⟩,.bool b]) (by simp[results,results76,go_sem,qq,l,m,n,o]) rfl ⟨⟨3,v,⟨#[]⟩,_,rfl,by rw[c.out.1,a.out.1],λh=>by rw[c.out.2,a.out.2.2.2 h],aM _,dP (by omega) (by omega),dP (by have:=a.2.1;omega) (by have:=a.2.2.1;omega)⟩,HB _ _ _ _⟩
   ·have d2:=kP (k:=35) (d:=35) rfl q;by_cases r:s[0]=36
    ·have c:Hid (gC s=fl (iG s) 2/\nh s=(5,mm (iG s).data.toList,⟨#[]⟩)):=by
       simp[Hid,gC,nh,i.out,r]
     go_enter func76,ntmps76;go_wp2_with (go_at_call 110;refine(sA 5 (iG s) _ (by omega)).mono ?_;rintro e w' ⟨⟨v,b,rfl,a⟩,f⟩;obtain⟨⟨l,m,n,o⟩,f0,f1,f2,f3⟩:=zM f;have HB:=av (Ey f);clear f);exact aD (v:=ax #[qq 5 v ⟨#[]⟩,.bool b]) (by simp[results,results76,go_sem,qq,l,m,n,o]) rfl ⟨⟨5,v,⟨#[]⟩,_,rfl,by rw[c.out.1,a.out.1],λh=>by rw[c.out.2,a.out.2.2.2 h],aM _,dP (by omega) (by omega),dP (by have:=a.2.1;omega) (by have:=a.2.2.1;omega)⟩,HB _ _ _ _⟩
    ·have d3:=kP (k:=36) (d:=36) rfl r;by_cases t:s[0]=45
     ·have c:Hid (gC s=(fl (iG s) 13 && !(mm (iG s).data.toList==0))/\nh s=(1,-mm (iG s).data.toList,⟨#[]⟩)):=by
        simp[Hid,gC,nh,i.out,t]
      go_enter func76,ntmps76;go_wp2_with (go_at_call 111;refine(pf (iG s) 13 _ (by omega) (by omega)).mono ?_;rintro e w' ⟨⟨v,b,rfl,a⟩,rfl⟩;obtain⟨A,B⟩:=(⟨a.2.1,a.2.2.1⟩:0<=v/\v<100000000000000);cases b)
      ·exact aD (v:=ax #[qq 1 (-v) ⟨#[]⟩,.bool false]) (by simp[results,results76,go_sem,qq]) rfl ⟨⟨1,-v,⟨#[]⟩,_,rfl,by rw[c.out.1,<-a.out.1];rfl,by simp,aM _,dP (by omega) (by omega),dP (by omega) (by omega)⟩,by go_grown⟩
      ·exact aD (v:=ax #[qq 1 (-v) ⟨#[]⟩,.bool (v !=0)]) (by simp[results,results76,go_sem,qq]) rfl ⟨⟨1,-v,⟨#[]⟩,_,rfl,by rw[c.out.1,<-a.out.1,<-a.out.2.2.2 (by trivial)];simp[bne],λ_=>by rw[c.out.2,a.out.2.2.2 (by trivial)],aM _,dP (by omega) (by omega),dP (by omega) (by omega)⟩,by go_grown⟩
     ·have d4:=kP (k:=45) (d:=45) rfl t;have c:Hid (gC s=(fl s 13 || gD s.data.toList)/\(nh s=if fl s 13=true then (1,mm s.data.toList,⟨#[]⟩)else (2,0,s))):=by
       simp only[Hid,gC,nh,i.out,OX s g j];simp[q,r,t];cases fl s 13<;>simp[g]
      go_enter func76,ntmps76
      go_wp2_with (first
       | (go_at_call 111;refine(pf s 13 _ (by omega) (by omega)).mono ?_;rintro e w' ⟨⟨v,b,rfl,a⟩,rfl⟩;obtain⟨A,B⟩:=(⟨a.2.1,a.2.2.1⟩:0<=v/\v<100000000000000);cases b)
       | (go_at_call 112;refine(Hf s _ y).mono ?_;rintro e E ⟨rfl,f⟩;obtain⟨⟨l,m,n,o⟩,f0,f1,f2,f3⟩:=zM f;have HB:=av (Ey f);clear f)
       | (go_at_call 113;refine(uk s _ (by omega)).mono ?_;rintro e F ⟨rfl,rfl⟩))
      ·exact aD (v:=ax #[qq 2 0 s,.bool (gD s.data.toList)]) (by simp[results,results76,go_sem,qq,l,m,n,o]) rfl ⟨⟨2,0,s,_,rfl,by rw[c.out.1,<-a.out.1];rfl,λ_=>by rw[c.out.2,<-a.out.1];rfl,aA _,dP (by omega) (by omega),dP (by omega) (by omega)⟩,HB _ _ _ _⟩
      ·exact aD (v:=ax #[qq 1 v ⟨#[]⟩,.bool true]) (by simp[results,results76,go_sem,qq]) rfl ⟨⟨1,v,⟨#[]⟩,_,rfl,by rw[c.out.1,<-a.out.1];rfl,λ_=>by rw[c.out.2,<-a.out.1,a.out.2.2.2 (by trivial)];rfl,aM _,dP (by omega) (by omega),dP (by omega) (by omega)⟩,by go_grown⟩
 ·have p:=Df g;have u:(s.toList=[])=True:=by simpa using p
  have c:Hid (gC s=false):=by
   have z:s.size=0:=by omega
   have x:s.data.toList=[]:=by rw[<-cD];simpa using p
   simp[Hid,gC,cD,fl,x,z]
  go_enter func76,ntmps76;go_wp2_with fail;exact aD (v:=ax #[qq 0 0 ⟨#[]⟩,.bool false]) (by simp[results,results76,go_sem,qq]) rfl ⟨⟨0,0,⟨#[]⟩,_,rfl,c.symm,by simp,aM _,dP (by omega) (by omega),dP (by omega) (by omega)⟩,by go_grown⟩
def OZ(c:UInt8):Bool:=c==32
def Af(c:UInt8):Bool:=c==32 || c==40 || c==41
def ge(p:UInt8->Bool)(s:aq)(i:Nat):Nat:=i+((s.data.toList.drop i).takeWhile p).length
theorem Gf(s:aq)(k:Nat)(a:k<s.size):s.data.toList.drop k=s[k]::s.data.toList.drop (k+1):=by
 rw[fp (by simpa using a)];rfl
theorem zi(a:k<s.size)(b:p s[k]=true):ge p s (k+1)=ge p s k:=by
 unfold ge;rw[Gf s k a,List.takeWhile_cons,if_pos b,bu];omega
theorem zj(a:k<s.size)(b:p s[k]=false):ge p s k=k:=by
 unfold ge;rw[Gf s k a,List.takeWhile_cons,if_neg (by simp[b])];rfl
theorem Di(a:¬k<s.size):ge p s k=k:=by
 unfold ge;rw[qd (by simp;omega)];rfl
theorem AV(p:UInt8->Bool)(s:aq)(k:Nat):k<=ge p s k:=ku _ _
theorem GK(p:UInt8->Bool)(s:aq)(k:Nat)(a:k<=s.size):ge p s k<=s.size:=by
 unfold ge;have b:=(List.takeWhile_sublist (l:=s.data.toList.drop k) p).length_le;have c:(s.data.toList.drop k).length=s.size-k:=by simp
 omega
def dY(s:aq)(i:Nat):Nat:=ge OZ s i
def eR(s:aq)(i:Nat):Nat:=if ge (λc=> !Af c) s (dY s i)=dY s i/\dY s i<s.size then dY s i+1 else ge (λc=> !Af c) s (dY s i)
theorem nD(s:aq)(i:Nat):i<=dY s i:=AV _ _ _
theorem DE(s:aq)(i:Nat)(a:i<=s.size):dY s i<=s.size:=GK _ _ _ a
theorem DF(s:aq)(i:Nat):dY s i<=eR s i:=by
 unfold eR;have:=AV (λc=> !Af c) s (dY s i);split<;>omega
theorem DG(s:aq)(i:Nat)(a:i<=s.size):eR s i<=s.size:=by
 unfold eR;have:=GK (λc=> !Af c) s (dY s i) (DE s i a);split<;>omega
theorem sR(s:aq)(i:Nat)(a:dY s i<s.size):dY s i<eR s i:=by
 unfold eR;have:=AV (λc=> !Af c) s (dY s i);split<;>omega
theorem JM(s:aq)(i:Nat)(a:i<=s.size)(b:¬dY s i<s.size):dY s i=s.size/\eR s i=s.size:=by
 have c:=DE s i a;have d:=DG s i a;have e:=DF s i;omega
def Rd(r:Nat)(s:aq)(b e:Nat)(w:ah):Prop:=w.heap[r]?=some (.cells #[af s,ae b,ae e] 85)
theorem Rd.cells(a:Rd r s b e w):(w.cell? ⟨r,0,none⟩=some (af s)/\w.cell? ⟨r,1,none⟩=some (ae b)/\w.cell? ⟨r,2,none⟩=some (ae e))/\w.frozen? ⟨r,1,none⟩=false/\w.frozen? ⟨r,2,none⟩=false:=by
 unfold Rd at a;exact⟨⟨by simp[World.cell?,a],by simp[World.cell?,a],by simp[World.cell?,a]⟩,by simp[World.frozen?,a],by simp[World.frozen?,a]⟩
theorem Rd.set1(a:Rd r s b e w)(k:Nat):Rd r s k e (w.setCell ⟨r,1,none⟩ (ae k)):=by
 unfold Rd at*;simp[World.setCell,bR,a]
theorem Rd.set2(a:Rd r s b e w)(k:Nat):Rd r s b k (w.setCell ⟨r,2,none⟩ (ae k)):=by
 unfold Rd at*;simp[World.setCell,bR,a]
theorem Rd.drew(a:Rd r s b e w)(n:Nat):Rd r s b e (w.drewN n):=a
theorem Rd.lt(a:Rd r s b e w):r<w.heap.size:=(aR.1 a).1
theorem nr(w:ah)(r o:Nat)(v:az):w.grownBy (w.setCell ⟨r,o,none⟩ v) (some r):=
 ⟨rfl,rfl,rfl,by simp[World.setCell],λk _ b=>ek w _ v k (λa=>b (by rw[a]))⟩
theorem eY(w:ah)(n:Nat)(q:dc):w.grownBy (w.drewN n) q:=⟨rfl,rfl,rfl,aA _,λ_ _ _=>rfl⟩
theorem co{q:dc}(a:w.grownBy w1 q)(k:w1.grownBy w2 q):w.grownBy w2 q:=
 ⟨k.os.trans a.os,k.tape.trans a.tape,k.output.trans a.output,aF a.size k.size,λd b c=>(k.block d (bf b a.size) c).trans (a.block d b c)⟩
theorem KI(c:UInt8)(w:ah):au 74 #[.int .u8 c.toNat] w λe w'=>e=aw (.bool (Af c))/\w'=w:=by
 by_cases a:c=32
 ·subst a;go_enter func74,ntmps74;go_wp2_with fail
  all_goals go_ret
  all_goals exact⟨rfl,rfl⟩
 ·have d1:=kP (k:=32) (d:=32) rfl a;by_cases b:c=40
  ·subst b;go_enter func74,ntmps74;go_wp2_with fail
   all_goals go_ret
   all_goals exact⟨rfl,rfl⟩
  ·have d2:=kP (k:=40) (d:=40) rfl b;by_cases f:c=41
   ·subst f;go_enter func74,ntmps74;go_wp2_with fail
    all_goals go_ret
    all_goals exact⟨rfl,rfl⟩
   ·have d3:=kP (k:=41) (d:=41) rfl f;go_enter func74,ntmps74;go_wp2_with fail
    all_goals go_ret
    all_goals exact⟨bZ (by rw[show Af c=false by simp[Af,a,b,f]];simp;omega),rfl⟩
theorem Mw(r:Nat)(s:aq)(b e:Nat)(w:ah)(a:Rd r s b e w)(h:b<=e)(j:e<=s.size):au 52 #[aE r] w λc w'=>c=aw (af (s.extract b e))/\∃n,w'=w.drewN n:=by
 obtain⟨⟨d,f,g⟩,f1,f2⟩:=a.cells;clear a;have i:(b:Int)<=e:=by omega
 have k:(e:Int)<=s.size:=by omega
 go_enter func52,ntmps52;go_wp2_with fail
 go_quiet (fail)
 go_wp2_with fail
 go_ret
 exact⟨by simp,_,rfl⟩
theorem ri{q:dc}(a:w.grownBy w1 q)(c:w2.os=w1.os)(d:w2.tape=w1.tape)(e:w2.output=w1.output)(b:w2.heap=w1.heap):w.grownBy w2 q:=
 ⟨c.trans a.os,d.trans a.tape,e.trans a.output,by rw[b];exact a.size,λk f g=>by rw[b];exact a.block k f g⟩
theorem Gg(c:UInt8)(w:ah)(b:Bool)(a:Af c=b):au 74 #[.int .u8 c.toNat] w λe w'=>e=aw (.bool b)/\w'=w:=by
 rw[<-a];exact KI c w
theorem sy(r:Nat)(s:aq)(F g:Nat)(w:ah)(e:Rd r s F g w)(J:g<=s.size)(V:s.size<=2048):au 50 #[aE r] w λG w'=>G=aw (ax #[])/\Hid (Rd r s (dY s g) (eR s g) w'/\w.grownBy w' (some r)):=by
 obtain⟨⟨B,v,x⟩,f1,f2⟩:=e.cells;have z:=av (⟨e.set1 g,nr w r 1 (ae g)⟩:_/\_);clear e;go_enter func50,ntmps50;go_wp2_with fail;go_loopw [] (λwr=>∃k:Nat,k<=s.size/\Hid (Rd r s k g wr/\w.grownBy wr (some r)/\ge OZ s k=dY s g)/\True) (λwr=>s.size-(intOf ((wr.cell? ⟨r,1,none⟩).getD undef)).toNat)
 case atStart=>exact⟨g,J,⟨z.1,z.2,rfl⟩,trivial⟩
 case round=>
  obtain⟨k,K,j,_⟩:=hrel;obtain⟨⟨B,v,x⟩,f1,f2⟩:=j.out.1.cells;by_cases h:∃e:k<s.size,s[k]=32
  ·obtain⟨b,H⟩:=h;have L:(k:Int)<s.size:=by omega
   have C:decide ((k:Int)<s.size)=true:=by simp;omega
   have u:=av (zi (p:=OZ) b (by simp[OZ,H]));go_wp2_with fail
   go_quiet (fail)
   go_wp2_with fail;go_roundw
   case rel=>exact⟨k+1,by omega,⟨(j.1.drew nq).set1 (k+1),co j.2.1 (co (eY wr nq _) (nr _ _ _ _)),by rw[u.out];exact j.2.2⟩,trivial⟩
   case measure=>simp[go_sem,v,intOf];omega
  ·have i:Hid (dY s g=k):=by
     rw[<-j.out.2.2];by_cases b:k<s.size
     ·exact zj (p:=OZ) b (by simp[OZ];exact λe=>h ⟨b,e⟩)
     ·exact Di (p:=OZ) b
   have I:((¬k<s.size)/\decide ((k:Int)<s.size)=false)\/((k:Int)<s.size/\decide ((k:Int)<s.size)=true/\∃e:k<s.size,((s[k].toNat:Int)==32)=false):=by
    by_cases b:k<s.size
    ·have S:=kP (k:=32) (d:=32) rfl (λe=>h ⟨b,e⟩);exact am ⟨by omega,by simp;omega,b,by simp;omega⟩
    ·exact ak ⟨b,by simp;omega⟩
   clear h;rcases I with⟨b,C⟩|⟨L,C,b,T⟩
   all_goals
    go_wp2_with fail
    go_quiet (fail)
    have A:=av (show Rd r s k k ((wr.drewN nq).setCell ⟨r,2,none⟩ (ae k))/\w.grownBy ((wr.drewN nq).setCell ⟨r,2,none⟩ (ae k)) (some r)from⟨(j.1.drew nq).set2 k,co j.2.1 (co (eY wr nq _) (nr _ _ _ _))⟩);go_wp2_with fail;go_loopw [] (λq=>∃a:Nat,a<=s.size/\k<=a/\Hid (Rd r s k a q/\w.grownBy q (some r)/\ge (λc=> !Af c) s a=ge (λc=> !Af c) s k)/\True) (λq=>s.size-(intOf ((q.cell? ⟨r,2,none⟩).getD undef)).toNat)
    case atStart=>exact⟨k,K,aA _,⟨A.1,A.2,rfl⟩,trivial⟩
    case round=>
     obtain⟨a,U,D,f,_⟩:=hrel;obtain⟨⟨B,v,x⟩,f1,f2⟩:=f.out.1.cells;by_cases h:∃e:a<s.size,Af s[a]=false
     ·obtain⟨n,o⟩:=h;have y:k<s.size:=Nat.lt_of_le_of_lt D n
      first|exact absurd y b|skip
      all_goals
       have R:(a:Int)<s.size:=by omega
       have E:decide ((a:Int)<s.size)=true:=by simp;omega
       have u:=av (zi (p:=λc=> !Af c) n (by simp[o]));go_wp2_with fail
       go_quiet ((go_at_call 74;exact Calls.quiet_of_same (Gg s[a] _ _ o)))
       go_wp2_with fail;go_roundw
       case rel=>exact⟨a+1,by omega,by omega,⟨(f.1.drew _).set2 (a+1),co f.2.1 (co (eY _ _ _) (nr _ _ _ _)),by rw[u.out];exact f.2.2⟩,trivial⟩
       case measure=>simp[go_sem,x,intOf];omega
     ·have t:Hid (ge (λc=> !Af c) s k=a):=by
        rw[<-f.out.2.2];by_cases b:a<s.size
        ·exact zj (p:=λc=> !Af c) b (by simp;cases e:Af s[a];exact absurd ⟨b,e⟩ h;rfl)
        ·exact Di (p:=λc=> !Af c) b
      have Q:((¬a<s.size)/\decide ((a:Int)<s.size)=false)\/((a:Int)<s.size/\decide ((a:Int)<s.size)=true/\∃e:a<s.size,Af s[a]=true):=by
       by_cases b:a<s.size
       ·exact am ⟨by omega,by simp;omega,b,by cases e:Af s[a];exact absurd ⟨b,e⟩ h;rfl⟩
       ·exact ak ⟨b,by simp;omega⟩
      clear h;rcases Q with⟨n,E⟩|⟨R,E,n,o⟩
      ·have m:Hid (eR s g=a):=by
         simp only[Hid,eR,i.out,t.out];rw[if_neg (by omega)]
       go_wp2_with fail
       go_quiet (fail)
       go_wp2_with fail;by_cases l:a=k
       ·first|exact absurd (show a<s.size by omega) n|skip
        all_goals
         subst l
         go_quiet (fail)
         go_wp2_with fail
         go_end0
         refine⟨rfl,?_,ri f.2.1 rfl rfl rfl rfl⟩;rw[i.out,m.out];exact f.1
       ·first|exact absurd (show a=k by omega) l|skip
        all_goals
         have M:((a:Int)==k)=false:=by simp;omega
         have N:(a==k)=false:=by simp;omega
         have O:decide (a=k)=false:=by simp;omega
         have P:decide ((a:Int)=k)=false:=by simp;omega
         clear l
         go_quiet (fail)
         go_wp2_with fail
         go_end0
         refine⟨rfl,?_,ri f.2.1 rfl rfl rfl rfl⟩;rw[i.out,m.out];exact f.1
      ·have y:k<s.size:=Nat.lt_of_le_of_lt D n
       first|exact absurd y b|skip
       all_goals
        go_wp2_with fail
        go_quiet ((go_at_call 74;exact Calls.quiet_of_same (Gg s[a] _ _ o)))
        go_wp2_with fail;by_cases l:a=k
        ·have m:Hid (eR s g=a+1):=by
           simp only[Hid,eR,i.out,t.out];rw[if_pos ⟨l,by omega⟩];omega
         subst l
         go_quiet (fail)
         go_wp2_with fail
         go_end0
         refine⟨rfl,?_,co f.2.1 (co (eY _ _ _) (nr _ _ _ _))⟩;rw[i.out,m.out];exact Rd.set2 f.1 (a+1)
        ·have m:Hid (eR s g=a):=by
           simp only[Hid,eR,i.out,t.out];rw[if_neg (by omega)]
         have M:((a:Int)==k)=false:=by simp;omega
         have N:(a==k)=false:=by simp;omega
         have O:decide (a=k)=false:=by simp;omega
         have P:decide ((a:Int)=k)=false:=by simp;omega
         clear l
         go_quiet (fail)
         go_wp2_with fail
         go_end0
         refine⟨rfl,?_,ri f.2.1 rfl rfl rfl rfl⟩;rw[i.out,m.out];exact f.1
abbrev Tok:Type:=Nat×aq
def Gr(x:aq):Bool:=x.toList==[40]
def Cq(x:aq):Bool:=x.toList==[41]
theorem Nk{c:UInt8}(a:(x.toList==[c])=true):x.data.toList=[c]/\x.size=1:=by
 rw[cD]at a;have b:x.data.toList=[c]:=by simpa using a
 refine⟨b,?_⟩;have:x.data.toList.length=x.size:=by simp
 rw[b]at this;simpa using this.symm
theorem ww(a:Cq x=true):gC x=false/\Gr x=false:=by
 obtain⟨b,c⟩:=Nk a;simp[gC,Gr,fl,cD,b,iV,vL,gD,Av]
def GX{a:Type}(f:a->List Tok->List Tok->Prop):List a->List Tok->List Tok->Prop
 | [],ts,r=>ts=r
 | x::l,ts,r=>∃m,f x ts m/\GX f l m r
def Is:(n:Nat)->Tm n->List Tok->List Tok->Prop
 | 0,_,_,_=>False
 | n+1,x,ts,r=>∃t a,ts=t::a/\((Gr t.2=false/\gC t.2=true/\x.1=nh t.2/\x.2.2=[]/\r=a)\/
    (Gr t.2=true/\x.1=(4,0,⟨#[]⟩)/\∃c,GX (Is n) x.2.2 a (c::r)/\Cq c.2=true))
theorem GX.snoc{b:Type}{f:b->List Tok->List Tok->Prop}{x:b}{r:List Tok}:{l:List b}->{a m:List Tok}->GX f l a m->f x m r->GX f (l++ [x]) a r
 | [],a,m,h,hx=>by
  have e:a=m:=h;subst e;exact⟨r,hx,rfl⟩
 | y::l,a,m,h,hx=>by
  obtain⟨q,c,d⟩:=h;exact⟨q,c,d.snoc hx⟩
variable{f:List Tok}
theorem Is.head{x:Tm n}{r:List Tok}(a:Is n x f r):∃t b,f=t::b/\Cq t.2=false:=by
 cases n with
 | zero=>exact a.elim
 | succ n=>
  obtain⟨t,b,rfl,a⟩:=a;refine⟨t,b,rfl,?_⟩;cases hc:Cq t.2
  ·rfl
  ·have:=ww hc;rcases a with a|a
   ·rw[this.1]at a;exact absurd a.2.1 (by simp)
   ·rw[this.2]at a;exact absurd a.1 (by simp)
theorem GX.one{n m:Nat}(ih:∀(x:Tm n)(y:Tm m)(d r f:List Tok),Is n x d r->Is m y d f->aJ n x m y=true/\r=f):(p:List (Tm n))->(q:List (Tm m))->(d:List Tok)->(c i:Tok)->(r f:List Tok)->Cq c.2=true->Cq i.2=true->GX (Is n) p d (c::r)->GX (Is m) q d (i::f)->aN (λa b=>aJ n a m b) p q=true/\r=f
 | [],[],d,c,i,r,f,hc,hc',h,h'=>by
  have j:d=c::r:=h;have g:d=i::f:=h';rw[j]at g;injection g with _ e;exact⟨rfl,e⟩
 | [],y::q,d,c,i,r,f,hc,hc',h,h'=>by
  have j:d=c::r:=h;obtain⟨A,k,_⟩:=h';obtain⟨t,C,g,l⟩:=k.head;rw[j]at g;injection g with e _;rw[<-e,hc]at l;exact absurd l (by simp)
 | x::p,[],d,c,i,r,f,hc,hc',h,h'=>by
  have j:d=i::f:=h';obtain⟨A,k,_⟩:=h;obtain⟨t,C,g,l⟩:=k.head;rw[j]at g;injection g with e _;rw[<-e,hc']at l;exact absurd l (by simp)
 | x::p,y::q,d,c,i,r,f,hc,hc',h,h'=>by
  obtain⟨o,k,v⟩:=h;obtain⟨B,w,z⟩:=h';obtain⟨j,g⟩:=ih x y d o B k w;subst g;obtain⟨s,u⟩:=GX.one ih p q o c i r f hc hc' v z;exact⟨by simp only[aN];rw[j,s];rfl,u⟩
theorem Is.one:(n:Nat)->(m:Nat)->(x:Tm n)->(y:Tm m)->(f r b:List Tok)->Is n x f r->Is m y f b->aJ n x m y=true/\r=b
 | 0,_,_,_,_,_,_,a,_=>a.elim
 | _+1,0,_,_,_,_,_,_,a=>a.elim
 | n+1,m+1,x,y,f,r,b,a,g=>by
  obtain⟨t,z,rfl,a⟩:=a;obtain⟨t2,A,e,g⟩:=g;injection e with h i;subst h i;rcases a with⟨o,_,l,j,v⟩|⟨o,l,c,j,s⟩
  ·rcases g with⟨_,_,p,k,w⟩|⟨d,_⟩
   ·refine⟨?_,v.trans w.symm⟩;simp only[aJ,l,p,j,k,aN];simp
   ·rw[o]at d;exact absurd d (by simp)
  ·rcases g with⟨d,_⟩|⟨_,p,q,k,u⟩
   ·rw[o]at d;exact absurd d (by simp)
   ·obtain⟨h,i⟩:=GX.one (λx y f r b=>Is.one n m x y f r b) x.2.2 y.2.2 z c q r b s u j k;refine⟨?_,i⟩;simp only[aJ,l,p,h];simp
theorem uX:(n:Nat)->(x:Tm n)->(a r:List Tok)->Is n x a r->(aH n x).length+r.length<=a.length
 | 0,_,_,_,b=>b.elim
 | n+1,x,a,r,b=>by
  have key:∀(l:List (Tm n))(a r:List Tok),GX (Is n) l a r->(l.flatMap λy=>aH n y).length+r.length<=a.length:=by
   intro l
   induction l with
   | nil=>intro a r b;have f:a=r:=b;subst f;simp
   | cons y l ih=>
    intro a r b;obtain⟨e,g,h⟩:=b;have:=uX n y a e g;have:=ih e r h;simp only[bL,bq];omega
  obtain⟨t,k,rfl,b⟩:=b;simp only[aH,bu];rcases b with⟨o,_,j,d,i⟩|⟨o,j,c,d,m⟩
  ·rw[d,i];simp;omega
  ·have:=key x.2.2 k (c::r) d;simp only[bu]at this;omega
def kK(L:Nat):List Tok->Nat->Option Nat
 | [],0=>none
 | [],_+1=>some L
 | t::_,0=>some t.1
 | t::ts,d+1=>if Gr t.2 then kK L ts (d+2)else if Cq t.2 then kK L ts d else if gC t.2 then kK L ts (d+1)else some t.1
def B9(L:Nat):List Tok->Nat->Option Nat
 | [],_=>some L
 | t::ts,d=>if Gr t.2 then kK L ts (d+1)else if gC t.2 then kK L ts d else some t.1
def LG(L:Nat):List Tok->Nat
 | []=>L
 | t::_=>t.1
theorem Dc(L:Nat)(a:List Tok)(d:Nat)(b:∀t c,a=t::c->Cq t.2=false):kK L a (d+1)=B9 L a (d+1):=by
 cases a with
 | nil=>rfl
 | cons t a=>simp only[kK,B9];rw[b t a rfl];simp
theorem Fm(L:Nat)(t:Tok)(b:List Tok)(d:Nat)(a:Cq t.2=true):kK L (t::b) (d+1)=kK L b d:=by
 simp only[kK];rw[(ww a).2,a];simp
theorem pV{c d:Type}(f:c->d->Bool):(p:List c)->(q:List d)->aN f p q=true->p.length=q.length
 | [],[],_=>rfl
 | [],_::_,h=>by simp[aN]at h
 | _::_,[],h=>by simp[aN]at h
 | a::p,b::q,h=>by
  simp only[aN,aS]at h;simp[pV f p q h.2]
theorem Nh{k e f:Int}{b:aq}{l:Nat}(g:k=d)(h:e=f)(i:s=b)(m:l=j):cM ((k,e,s),(a,l,c))=cM ((d,f,b),(v,j,u)):=by
 subst g h i m;rfl
theorem uw:(n m:Nat)->(x:Tm n)->(y:Tm m)->aJ n x m y=true->cv n x=cv m y/\gJ n x=gJ m y/\sz n x=sz m y
 | 0,_,_,_,c=>by simp[aJ]at c
 | _+1,0,_,_,c=>by simp[aJ]at c
 | n+1,m+1,x,y,c=>by
  have key:∀(p:List (Tm n))(q:List (Tm m)),aN (λa b=>aJ n a m b) p q=true->
    (p.all λy=>cv n y)=(q.all λy=>cv m y)/\(∀a,p.foldl (λm y=>max m (gJ n y)) a=q.foldl (λk y=>max k (gJ m y)) a)/\(p.map λy=>1+sz n y).sum=(q.map λy=>1+sz m y).sum:=by
   intro p
   induction p with
   | nil=>
    intro q c;cases q with
    | nil=>simp
    | cons b q=>simp[aN]at c
   | cons a p ih=>
    intro q c;cases q with
    | nil=>simp[aN]at c
    | cons b q=>
     simp only[aN,aS]at c;obtain⟨j,l,o⟩:=uw n m a b c.1;obtain⟨e,f,g⟩:=ih q c.2;refine⟨by simp only[jw,j,e],λv=>?_,by simp only[bA,dj,o,g]⟩;simp only[gg,l];exact f _
  simp only[aJ,aS,cT]at c;obtain⟨⟨⟨d,r⟩,h⟩,i⟩:=c;obtain⟨e,f,g⟩:=key _ _ i;have t:=pV _ _ _ i;have u:x.1.2.2=y.1.2.2:=by
   rw[cD,cD]at h;exact ByteArray.ext (Array.toList_inj.1 h)
  refine⟨?_,?_,?_⟩
  ·have s:cM (bQ n x)=cM (bQ m y):=Nh d r u t;simp only[cv,s,d,e]
  ·simp only[gJ,d,f]
  ·simp only[sz,d,g]
theorem Jg(n m:Nat)(x:Tm n)(y:Tm m)(a:aJ n x m y=true):bK n x=bK m y:=by
 obtain⟨b,c,d⟩:=uw n m x y a;rw[<-gN,<-gN];simp only[xO,b,c,d]
def sN:Nat->aq->Nat->List Tok
 | 0,_,_=> []
 | f+1,s,i=>if dY s i<s.size then (dY s i,s.extract (dY s i) (eR s i))::sN f s (eR s i)else []
def j8(s:aq)(i:Nat):List Tok:=sN (s.size-i) s i
theorem oy(s:aq):(f g i:Nat)->s.size-i<=f->s.size-i<=g->sN f s i=sN g s i
 | 0,0,_,_,_=>rfl
 | 0,g+1,i,h,_=>by
  have:=nD s i;simp only[sN];rw[if_neg (by omega)]
 | f+1,0,i,_,h=>by
  have:=nD s i;simp only[sN];rw[if_neg (by omega)]
 | f+1,g+1,i,h,h'=>by
  simp only[sN];by_cases a:dY s i<s.size
  ·rw[if_pos a,if_pos a];have b:=sR s i a;have c:=nD s i;rw[oy s f g (eR s i) (by omega) (by omega)]
  ·rw[if_neg a,if_neg a]
theorem zt(s:aq)(i:Nat)(a:dY s i<s.size):j8 s i=(dY s i,s.extract (dY s i) (eR s i))::j8 s (eR s i):=by
 have b:=sR s i a;have c:=nD s i;unfold j8;rw[oy s (s.size-i) (s.size-i+1) i (by omega) (by omega)];simp only[sN];rw[if_pos a,oy s (s.size-i) (s.size-eR s i) (eR s i) (by omega) (by omega)]
theorem xk(s:aq)(i:Nat)(a:¬dY s i<s.size):j8 s i=[]:=by
 unfold j8;rw[oy s (s.size-i) (s.size-i+1) i (by omega) (by omega)];simp only[sN];rw[if_neg a]
theorem mC(s:aq):(f i:Nat)->s.size-i<=f->(j8 s i).length<=s.size-i
 | 0,i,h=>by
  have:=nD s i;rw[xk s i (by omega)];simp
 | f+1,i,h=>by
  by_cases a:dY s i<s.size
  ·have b:=sR s i a;have c:=nD s i;rw[zt s i a];have:=mC s f (eR s i) (by omega);simp only[bu];omega
  ·rw[xk s i a];simp
def At(s:aq)(b e:Nat)(a:List Tok):Prop:=
 b<=e/\e<=s.size/\((b=s.size/\a=[])\/(b<e/\a=(b,s.extract b e)::j8 s e))
theorem At.next{i:Nat}(b:i<=s.size):At s (dY s i) (eR s i) (j8 s i):=by
 refine⟨DF s i,DG s i b,?_⟩;by_cases a:dY s i<s.size
 ·exact am ⟨sR s i a,zt s i a⟩
 ·exact ak ⟨(JM s i b a).1,xk s i a⟩
theorem At.pos(a:At s b e f):LG s.size f=b:=by
 rcases a.2.2 with⟨c,rfl⟩|⟨_,rfl⟩
 ·exact c.symm
 ·rfl
theorem At.nil(a:At s b e []):(s.extract b e).toList=[]:=by
 rcases a.2.2 with⟨d,_⟩|⟨_,c⟩
 ·rw[cD];apply b8;have:=a.2.1;simp;omega
 ·exact absurd c (by simp)
theorem At.cons{s:aq}{b e:Nat}{t:Tok}{d:List Tok}(c:At s b e (t::d)):t=(b,s.extract b e)/\d=j8 s e/\0<(s.extract b e).size:=by
 rcases c.2.2 with⟨_,a⟩|⟨h,a⟩
 ·exact absurd a (by simp)
 ·injection a with f g;refine⟨f,g,?_⟩;have:=c.2.1;simp;omega
-- Sign by sign:what a sign does to the words ahead.
theorem fY{q:dc}(a:w.grownBy w1 q)(o:Obj):w.grownBy (w1.alloc o) q:=
 ⟨a.os,a.tape,a.output,by have:=a.size;simp;omega,λk b c=>by
  exact(((aG w1.heap.size w1).alloc (aA _) o).block k (bf b a.size)).trans (a.block k b c)⟩
theorem np{q:dc}(a:w.grownBy w1 q)(e:w.heap.size<=b)(o:Nat)(v:az):w.grownBy (w1.setCell ⟨b,o,none⟩ v) q:=
 ⟨a.os,a.tape,a.output,by simpa [World.setCell]using a.size,λk c d=>(ek w1 ⟨b,o,none⟩ v k (by simp;omega)).trans (a.block k c d)⟩
theorem IH{q:dc}(a:w.grownBy w1 q){g:dc}(k:w1.grownBy w2 g)(f:∀b,g=some b->w.heap.size<=b):w.grownBy w2 q:=
 ⟨k.os.trans a.os,k.tape.trans a.tape,k.output.trans a.output,aF a.size k.size,λc d h=>(k.block c (bf d a.size) (λe=>by have:=f c e.symm;omega)).trans (a.block c d h)⟩
theorem o9{q:dc}(a:w.grownBy w1 q)(k:ap w1 w2):w.grownBy w2 q:=
 ⟨k.os.trans a.os,k.tape.trans a.tape,k.output.trans a.output,aF a.size k.size,λc b d=>(k.block c (bf b a.size)).trans (a.block c b d)⟩
theorem Rd.block(a:Rd r s b e w)(k:w'.heap[r]?=w.heap[r]?):Rd r s b e w':=k.trans a
theorem Rd.alloc{r:Nat}{s:aq}{b e:Nat}{w:ah}(a:Rd r s b e w)(o:Obj):Rd r s b e (w.alloc o):=
 a.block (((aG w.heap.size w).alloc (aA _) o).block r a.lt)
theorem Rd.far(a:Rd r s b e w)(c:r<g)(o:Nat)(v:az):Rd r s b e (w.setCell ⟨g,o,none⟩ v):=
 a.block (ek w ⟨g,o,none⟩ v r (by simp;omega))
def ahead(s:aq)(b e:Nat):List Tok:=if b<s.size then (b,s.extract b e)::j8 s e else []
def Qa(r:Nat)(s:aq)(w:ah):Nat:=(ahead s (intOf ((w.cell? ⟨r,1,none⟩).getD undef)).toNat (intOf ((w.cell? ⟨r,2,none⟩).getD undef)).toNat).length
theorem Ln(d:Rd r s b e w)(k:At s b e f):Qa r s w=f.length:=by
 obtain⟨⟨h,a,c⟩,f1,f2⟩:=d.cells;simp only[Qa,a,c,Option.getD_some,intOf,Int.toNat_natCast,ahead];rcases k.2.2 with⟨g,rfl⟩|⟨g,rfl⟩
 ·rw[if_neg (by omega)]
 ·rw[if_pos (by have:=k.2.1;omega)]
def mE(n:Nat)(s:aq)(r:Nat)(e:List Tok)(w w':ah)(v:az)(ok:Bool):Prop:=
 w.grownBy w' (some r)/\∃b f c,Rd r s b f w'/\At s b f c/\
  (ok=true->(∃d:Tm n,dF n d=v/\Is n d e c/\In w'.heap.size w' n d/\cF (λg=>w.heap.size<=g) n d)/\∀a,B9 s.size e a=kK s.size c a)/\
  (ok=false->∀a,B9 s.size e a=some (LG s.size c))
def ME(n:Nat)(s:aq)(r:Nat)(d:List Tok)(w w':ah)(e:Ending):Prop:=
 ∃(k b:Int)(t:aq)(a:ay)(l c:Nat)(ok:Bool),e=aw (ax #[.agg #[ae k,ae b,af t,ag a l c],.bool ok])/\
  Hid (mE n s r d w w' (.agg #[ae k,ae b,af t,ag a l c]) ok)
def Ol(n:Nat):Prop:=∀(r:Nat)(s:aq)(b e:Nat)(a:List Tok)(w:ah),Rd r s b e w->At s b e a->s.size<=2048->a.length<=n->
 au 51 #[aE r] w λc w'=>ME (n+1) s r a w w' c
theorem pZ(r:Nat)(s:aq)(b e:Nat)(x:aq)(w:ah)(c:Rd r s b e w)(d:b<=e)(f:e<=s.size)(g:s.extract b e=x):au 52 #[aE r] w λa w'=>a=aw (af x)/\∃n,w'=w.drewN n:=by
 subst g;exact Mw r s b e w c d f
def Bx(q:Nat)(v0 v1 v2 v3:az)(w:ah):Prop:=w.heap[q]?=some (.cells #[v0,v1,v2,v3] 54)
theorem Bx.cells(a:Bx q v0 v1 v2 v3 w):(w.cell? ⟨q,0,none⟩=some v0/\w.cell? ⟨q,1,none⟩=some v1/\w.cell? ⟨q,2,none⟩=some v2/\w.cell? ⟨q,3,none⟩=some v3)/\ (w.frozen? ⟨q,0,none⟩=false/\w.frozen? ⟨q,1,none⟩=false/\w.frozen? ⟨q,2,none⟩=false/\w.frozen? ⟨q,3,none⟩=false):=by
 unfold Bx at a;exact⟨⟨by simp[World.cell?,a],by simp[World.cell?,a],by simp[World.cell?,a],by simp[World.cell?,a]⟩,by simp[World.frozen?,a],by simp[World.frozen?,a],by simp[World.frozen?,a],by simp[World.frozen?,a]⟩
theorem Bx.block(a:Bx q v0 v1 v2 v3 w)(k:w'.heap[q]?=w.heap[q]?):Bx q v0 v1 v2 v3 w':=k.trans a
theorem Bx.lt(a:Bx q v0 v1 v2 v3 w):q<w.heap.size:=(aR.1 a).1
theorem Bx.set3(a:Bx q v0 v1 v2 v3 w)(v:az):Bx q v0 v1 v2 v (w.setCell ⟨q,3,none⟩ v):=by
 unfold Bx at*;simp[World.setCell,bR,a]
theorem Bx.new(w:ah)(v0 v1 v2 v3:az):Bx w.heap.size v0 v1 v2 v3 (w.alloc (.cells #[v0,v1,v2,v3] 54)):=aK w _
def J0(n:Nat)(r:Nat)(s:aq)(c:List Tok)(w:ah)(b e:Nat)(v:az)(wr:ah)(l:List (Tm (n+1)))(a:List Tok):Prop:=
 Rd r s b e wr/\At s b e a/\(w.alloc (.cells #[ae 0,ae 0,af ⟨#[]⟩,ag none 0 0] 54)).grownBy wr (some r)/\rT (w.heap.size+2) (n+1) l v wr/\
  Bx w.heap.size (ae 0) (ae 0) (af ⟨#[]⟩) (ag none 0 0) wr/\Bx (w.heap.size+1) (ae 4) (ae 0) (af ⟨#[]⟩) v wr/\
  GX (Is (n+1)) l c a/\a.length<=c.length/\∀d,kK s.size c (d+1)=kK s.size a (d+1)
def MG(n:Nat)(r:Nat)(s:aq)(c:List Tok)(w:ah)(b e:Nat)(v:az)(wr:ah):Prop:=
 ∃(l:List (Tm (n+1)))(a:List Tok),J0 n r s c w b e v wr l a
theorem fx(w:ah)(o:Obj)(a:q<w.heap.size):(w.alloc o).heap[q]?=w.heap[q]? :=(dB w o none).block q a (by simp)
variable{t0:Tok}
theorem JC(h:Rd r s b e w)(a:At s b e (t0::f))(k:Rd r s (dY s e) (eR s e) w1)(g:((w.alloc (.cells #[ae 0,ae 0,af ⟨#[]⟩,ag none 0 0] 54)).alloc (.cells #[ae 4,ae 0,af ⟨#[]⟩,ag none 0 0] 54)).grownBy w1 (some r)):MG n r s f w (dY s e) (eR s e) (ag none 0 0) w1:=by
 have i:=h.lt;have c:=(At.cons a).2.1;refine⟨[],f,k,by rw[c];exact At.next a.2.1,co (dB _ _ _) g,⟨⟨rfl,ak ⟨rfl,rfl⟩⟩,by simp⟩,?_,?_,rfl,aA _,λ_=>rfl⟩
 ·exact((Bx.new w _ _ _ _).block (fx _ _ (by simp))).block (g.block _ (by simp;omega) (by simp;omega))
 ·have:=Bx.new (w.alloc (.cells #[ae 0,ae 0,af ⟨#[]⟩,ag none 0 0] 54)) (ae 4) (ae 0) (af ⟨#[]⟩) (ag none 0 0);have d:(w.alloc (.cells #[ae 0,ae 0,af ⟨#[]⟩,ag none 0 0] 54)).heap.size=w.heap.size+1:=by simp
  rw[d]at this;exact this.block (g.block _ (by simp) (by simp;omega))
theorem rT.kept{base n:Nat}{l:List (Tm n)}{v:az}{w w':ah}(a:rT base n l v w){r:Nat}(g:w.grownBy w' (some r))(k:r<base):rT base n l v w':=by
 refine⟨a.1.kept g (am λf=>by have:=a.1.lt r f;omega),λe d=>⟨?_,(a.2 e d).2⟩⟩;obtain⟨c,h⟩:=a.2 e d;have i:=In.offB h c;exact(In.off (λb j=>g.block b j.2 (by simp;omega)) i c).mono g.size
theorem rT.snoc{l:List (Tm (n+1))}{v:az}{w0:ah}(h:rT base (n+1) l v w0)(i:w0.grownBy w (some r))(A:r<base){x:Tm (n+1)}(C:In w.heap.size w (n+1) x)(y:cF (λq=>w0.heap.size<=q) (n+1) x)(D:base<=w0.heap.size)(j:w.grownBy w1 none)(z:w2.ownsRow base 54 4 (ag (some ⟨g,0,none⟩) (l.length+1) c) (l.length+1) (cN (l.map (gL (n+1)))++wL (gL (n+1) x)))(k:w1.grownBy w2 v.ownBlock)(u:v.ownBlock=some g\/g=w1.heap.size):rT base (n+1) (l++ [x]) (ag (some ⟨g,0,none⟩) (l.length+1) c) w2:=by
 have p:=h.kept i A;have E:=i.size;have F:=j.size;have G:=k.size;have B:∀b,v.ownBlock=some b->b<w0.heap.size:=λb d=>(h.1.lt b d).2;refine⟨by simpa [cN]using z,λa f=>?_⟩
 have key:∀a:Tm (n+1),In w.heap.size w (n+1) a->cF (λb=>base<=b/\v.ownBlock≠some b) (n+1) a->
   In w2.heap.size w2 (n+1) a/\cF (λb=>base<=b/\(Value.slice (some ⟨g,0,none⟩) (l.length+1) c).ownBlock≠some b) (n+1) a:=by
  intro a m t;have o:=In.offB t m;refine⟨(In.off (λb e=>(k.block b (by omega) (λd=>e.1.2 d.symm)).trans (j.block b e.2 (by simp))) o m).mono (by omega),o.mono λb e=>⟨e.1.1,?_⟩⟩;intro d;have s:g=b:=by simpa [Value.ownBlock]using d
  rcases u with h|h
  ·exact e.1.2 (by rw[h,s])
  ·omega
 rcases du.1 f with f|f
 ·exact key a (p.2 a f).1 (p.2 a f).2
 ·have d:a=x:=by simpa using f
  subst d;exact key a C (y.mono λb e=>⟨by omega,λd=>by have:=B b d;omega⟩)
theorem Jz(N:r<w.heap.size)(x:Gr t0.2=true)(A:MG n r s f w b e (ag a L c) wr)(o:Cq (s.extract b e)=true)(k:Rd r s (dY s e) (eR s e) w2)(g:(wr.drewN m).grownBy w2 (some r)):mE (n+2) s r (t0::f) (w.alloc (.cells #[ae 0,ae 0,af ⟨#[]⟩,ag none 0 0] 54)) w2 (.agg #[ae 4,ae 0,af ⟨#[]⟩,ag a L c]) true/\ Bx w.heap.size (ae 0) (ae 0) (af ⟨#[]⟩) (ag none 0 0) w2/\Bx (w.heap.size+1) (ae 4) (ae 0) (af ⟨#[]⟩) (ag a L c) w2:=by
 obtain⟨l,p,J,i,q,B,u,v,C,K,D⟩:=A;have P:=q.size;have G:=v.lt;have j:wr.grownBy w2 (some r):=co (eY wr m _) g;obtain⟨H,I,ev,F,E⟩:=(B.kept j (by omega)).tup;injection ev with d h z;subst d h z;refine⟨⟨co q j,dY s e,eR s e,j8 s e,k,At.next i.2.1,λ_=>⟨⟨_,rfl,?_,E,F.mono λO M=>by simp;omega⟩,?_⟩,by simp⟩,u.block (j.block _ u.lt (by simp;omega)),v.block (j.block _ G (by simp;omega))⟩
 ·cases p with
  | nil=>simp[Cq,i.nil]at o
  | cons t p=>
   obtain⟨d,h,_⟩:=i.cons;subst d h;exact⟨t0,f,rfl,am ⟨x,rfl,_,C,o⟩⟩
 ·intro y;cases p with
  | nil=>simp[Cq,i.nil]at o
  | cons t p=>
   obtain⟨d,h,_⟩:=i.cons;subst d h;simp only[B9,x,cC];rw[D y,Fm _ _ _ _ o]
theorem mE.box{v:az}(a:r<w.heap.size)(g:mE n s r f (w.alloc o) w1 v ok)(v0 v1 v2 v3:az):mE n s r f w ((((w1.setCell ⟨w.heap.size,0,none⟩ v0).setCell ⟨w.heap.size,1,none⟩ v1).setCell ⟨w.heap.size,2,none⟩ v2).setCell ⟨w.heap.size,3,none⟩ v3) v ok:=by
 obtain⟨h,b,e,q,i,j,k,l⟩:=g;refine⟨np (np (np (np (co (dB _ _ _) h) (aA _) _ _) (aA _) _ _) (aA _) _ _) (aA _) _ _,b,e,q,(((i.far a _ _).far a _ _).far a _ _).far a _ _,j,λm=>?_,l⟩;obtain⟨⟨t,u,x,y,d⟩,z⟩:=k m;have c:∀b,(w.alloc o).heap.size<=b->((((w1.setCell ⟨w.heap.size,0,none⟩ v0).setCell ⟨w.heap.size,1,none⟩ v1).setCell ⟨w.heap.size,2,none⟩ v2).setCell ⟨w.heap.size,3,none⟩ v3).heap[b]?=w1.heap[b]? :=λb c=>by
  have A:w.heap.size<b:=by simp at c;omega
  rw[ek _ _ _ _ (by simp;omega),ek _ _ _ _ (by simp;omega),ek _ _ _ _ (by simp;omega),ek _ _ _ _ (by simp;omega)]
 refine⟨⟨t,u,x,(In.off c d y).mono (by simp[World.setCell]),d.mono λB p=>by simp at p;omega⟩,z⟩
theorem mE.alloc{n r:Nat}{s:aq}{a:List Tok}{w w1:ah}{v:az}{ok:Bool}(f:mE n s r a w w1 v ok)(o:Obj):mE n s r a w (w1.alloc o) v ok:=by
 obtain⟨g,b,e,p,h,i,j,k⟩:=f;refine⟨fY g o,b,e,p,h.alloc o,i,λm=>?_,k⟩;obtain⟨⟨q,t,u,c,d⟩,x⟩:=j m;exact⟨⟨q,t,u,(In.off (λb l=>fx w1 o l.2) (In.offB d c) c).mono (by simp),d⟩,x⟩
theorem At.no(c:At s b e f)(d:Cq (s.extract b e)=false):∀t a,f=t::a->Cq t.2=false:=by
 intro t a e;subst e;rw[c.cons.1];exact d
variable{i:List Tok}
theorem zw{v:az}{l:List (Tm (n+1))}(u:r<w.heap.size)(a:J0 n r s f w b e v wr l i)(g:(wr.drewN m).grownBy w1 (some r)):Bx w.heap.size (ae 0) (ae 0) (af ⟨#[]⟩) (ag none 0 0) w1/\Bx (w.heap.size+1) (ae 4) (ae 0) (af ⟨#[]⟩) v w1/\w.heap.size+1<w1.heap.size:=by
 obtain⟨h,j,k,o,c,d,p,q,t⟩:=a;have a:=d.block (g.block _ d.lt (by simp;omega));exact⟨c.block (g.block _ c.lt (by simp;omega)),a,a.lt⟩
theorem JA{v A:az}{l:List (Tm (n+1))}(q:Gr t0.2=true)(h:J0 n r s f w b e v wr l i)(p:Cq (s.extract b e)=false)(R:mE (n+1) s r i (wr.drewN m) w1 A false)(z:az):mE (n+2) s r (t0::f) (w.alloc (.cells #[ae 0,ae 0,af ⟨#[]⟩,ag none 0 0] 54)) w1 z false:=by
 obtain⟨B,j,k,C,D,E,F,G,o⟩:=h;obtain⟨g,c,d,y,t,u,_,x⟩:=R;refine⟨co k (co (eY wr m _) g),c,d,y,t,u,by simp,λ_ a=>?_⟩;simp only[B9,q,cC];rw[o a,Dc _ _ _ (j.no p)];exact x rfl (a+1)
theorem Gu{n:Nat}:(l:List (Tm n))->(a r:List Tok)->GX (Is n) l a r->l.length+r.length<=a.length
 | [],a,r,h=>by have e:a=r:=h;subst e;simp
 | x::l,a,r,h=>by
  obtain⟨m,b,c⟩:=h;have d:=Gu l m r c;have f:=uX n x a m b;have g:0<(aH n x).length:=by
   cases n with
   | zero=>exact b.elim
   | succ n=>simp[aH]
  simp only[bu];omega
theorem N7{l:List (Tm (n+1))}(F:r<w.heap.size)(q:J0 n r s f w b e (ag a L c) wr l i)(g:(wr.drewN m).grownBy w1 (some r))(E:f.length<=2048):l.length=L/\L<=2048/\∀d h,((w1.alloc d).alloc h).ownsRow (w.heap.size+2) 54 4 (ag a L c) L (cN (l.map (gL (n+1)))):=by
 obtain⟨x,y,z,o,A,B,t,C,D⟩:=q;have p:wr.grownBy w1 (some r):=co (eY wr m _) g;obtain⟨u,v,ev,_⟩:=o.tup;injection ev with _ j _;have:=Gu l f i t;have k:=(o.kept p (by omega)).1;rw[<-j]at k;exact⟨j.symm,by omega,λd h=>(k.alloc d).alloc h⟩
theorem JB{l:List (Tm (n+1))}(am:r<w.heap.size)(E:J0 n r s f w b e (ag a L c) wr l i)(ai:Cq (s.extract b e)=false){k:Int}{t:aq}(R:mE (n+1) s r i (wr.drewN m) w1 (.agg #[ae k,ae d,af t,ag v j u]) true){P Q:Obj}{p:Nat}(ad:l.length=L)(J:h.ownsRow (w.heap.size+2) 54 4 (ag (some ⟨g,0,none⟩) (L+1) p) (L+1) (cN (l.map (gL (n+1)))++ [ae k,ae d,af t,ag v j u]))(A:((w1.alloc P).alloc Q).grownBy h (Value.slice a L c).ownBlock)(aj:(Value.slice a L c).ownBlock=some g\/g=w1.heap.size+2):(Bx (w.heap.size+1) (ae 4) (ae 0) (af ⟨#[]⟩) (ag a L c) h/\ ∃x y,MG n r s f w x y (ag (some ⟨g,0,none⟩) (L+1) p) (h.setCell ⟨w.heap.size+1,3,none⟩ (ag (some ⟨g,0,none⟩) (L+1) p))/\Qa r s (h.setCell ⟨w.heap.size+1,3,none⟩ (ag (some ⟨g,0,none⟩) (L+1) p))<Qa r s wr):=by
 subst ad;obtain⟨au,av,aG⟩:=zw am E R.1;obtain⟨X,F,Y,G,aC,Z,aa,aD,ab⟩:=E;obtain⟨W,x,y,T,ao,N,ap,_⟩:=R;have D:wr.grownBy w1 (some r):=co (eY wr m _) W;obtain⟨⟨q,z,U,aw,ax⟩,az⟩:=ap rfl;have I:∀b,(Value.slice a l.length c).ownBlock=some b->w.heap.size+2<=b:=λb e=>(G.1.lt b e).1;have ak:wL (gL (n+1) q)=[ae k,ae d,af t,ag v j u]:=by
  have V:dF (n+1) q=.agg (wL (gL (n+1) q)).toArray:=rfl;rw[V]at z;injection z with z;exact Array.toList_inj.2 z
 rw[<-ak]at J;have M:=G.snoc D (by omega) aw ax (by have:=Z.lt;simp;omega) (w1:=(w1.alloc P).alloc Q) (fY (fY (eY w1 0 _) _) _) J A (by simpa using aj);have al:∀o,o<w.heap.size+2->some o≠(Value.slice a l.length c).ownBlock:=λo K e=>by have:=I o e.symm;omega
 have B:∀o,o<w.heap.size+2->h.heap[o]?=w1.heap[o]? :=λo K=>(A.block o (by simp;omega) (al o K)).trans ((fx _ _ (by simp;omega)).trans (fx _ _ (by omega)));have S:=av.block (B (w.heap.size+1) (by omega));have ar:Rd r s x y h:=ao.block (B r (by omega));have aB:h.heap.size=(h.setCell ⟨w.heap.size+1,3,none⟩ (ag (some ⟨g,0,none⟩) (l.length+1) p)).heap.size:=by simp[World.setCell]
 have O:=ar.far (g:=w.heap.size+1) (by omega) 3 (ag (some ⟨g,0,none⟩) (l.length+1) p);have aE:=uX (n+1) q i T U;have aF:0<(aH (n+1) q).length:=by simp[aH]
 refine⟨S,x,y,⟨l++ [q],T,O,N,?_,?_,?_,S.set3 _,aa.snoc U,by omega,λC=>?_⟩,?_⟩
 ·refine np (IH (fY (fY (co Y D) _) _) A λb H=>?_) (by simp) _ _;have:=I b H;simp;omega
 ·refine⟨ownsRow_setCell_below (by simpa using M.1) (by simp) _,λaA an=>?_⟩;obtain⟨y1,y2⟩:=M.2 aA an;refine⟨?_,y2⟩;rw[<-aB];exact In.off (λb H=>ek _ _ _ _ (by simp;omega)) y2 y1
 ·exact(au.block (B w.heap.size (by omega))).block (ek _ _ _ _ (by simp))
 ·rw[ab C,Dc _ _ _ (F.no ai)];exact az (C+1)
 ·rw[Ln O N,Ln X F];omega
theorem Ig(w:ah)(o:Obj)(v0 v1 v2 v3:az)(e:TypeId):∀(j:Nat)(a:az),[v0,v1,v2,v3][j]?=some a->((w.alloc o).alloc (.cells #[v0,v1,v2,v3] e)).cell? ((⟨w.heap.size+1,0,none⟩:Addr).add j)=some a:=by
 intro j a b;rw[fE];rw[World.cell?_alloc_at _ _ _ _ (by simp)];simpa using b
theorem KP(k d:Int)(t:aq)(a:ay)(l c:Nat):∀v∈[Value.int .i64 k,ae d,af t,ag a l c],v.oneCell'=true:=by
 intro v b;simp at b;rcases b with rfl|rfl|rfl|rfl<;>rfl
theorem FJ(n:Nat)(ih:Ol n)(r:Nat)(s:aq)(b e:Nat)(t0:Tok)(y:List Tok)(w:ah)(G:Rd r s b e w)(Q:At s b e (t0::y))(E:s.size<=2048)(T:y.length<=n)(U:Gr t0.2=true):au 75 #[aE r] w λg w'=>ME (n+2) s r (t0::y) w w' g:=by
 have q:=G.lt;obtain⟨ar,hit,W,X,Y⟩:=bS gM;have B:=av (⟨hit,W,X,Y⟩:_/\_/\_/\_);clear hit W X Y;have d:=av (⟨G,Q,E,T,U⟩:_/\_/\_/\_/\_);have aj:=av ih;clear G Q T U ih;go_enter func75,ntmps75;go_wp2_with (go_at_call 50;refine(sy r s b e _ ((d.1.alloc _).alloc _) d.2.1.2.1 E).mono ?_;rintro g ad ⟨rfl,m⟩);go_loopw [] (λwr=>∃(b e:Nat)(D:ay)(u c:Nat),Hid (MG n r s y w b e (ag D u c) wr)/\True) (λwr=>Qa r s wr)
 case atStart=>exact⟨_,_,_,_,_,JC d.1 d.2.1 m.1 m.2,trivial⟩
 case round=>
  obtain⟨f,h,D,u,c,P,_⟩:=hrel;clear m;obtain⟨l,I,i⟩:=P.out;replace i:=av i;obtain⟨j,Z⟩:∃j,s.extract f h=j:=⟨_,rfl⟩;have C:=av Z;clear Z;have a:Hid (Rd r s f h wr/\At s f h I/\I.length<=n/\y.length<=2048):=by
   obtain⟨o,p,H,aL,aM,aN,aO,an,aP⟩:=i.out;refine⟨o,p,aF an d.2.2.2.1,?_⟩;have:=mC s (s.size-e) e (aA _);rw[<-d.out.2.1.cons.2.1]at this;omega
  cases hc:(j.toList==[41])
  ·have aQ:(j.toList=[41])=False:=by simpa using hc
   have aR:(j.toList !=[41])=true:=by simpa using hc
   have O:Hid (Cq (s.extract f h)=false):=by rw[C.out];exact hc
   go_wp2_with (first
    | (go_at_call 52;refine(pZ r s f h j wr a.1 a.2.1.1 a.2.1.2.1 C).mono ?_;rintro g ad ⟨rfl,x,rfl⟩)
    | (go_at_call 51;refine(aj r s f h I (wr.drewN x) (a.1.drew x) a.2.1 E a.2.2.1).mono ?_;rintro g F ⟨k,aH,t,ak,aG,am,ok,rfl,A⟩;obtain⟨aa,ab,aS⟩:=zw q i A.1;have ao:w.heap.size<F.heap.size:=(by omega);obtain⟨⟨J,K,L,M⟩,f0,f1,f2,f3⟩:=aa.cells;obtain⟨⟨y0,y1,y2,aI⟩,aw,az,aB,aC⟩:=ab.cells;clear aa ab;cases ok)
    | (at_builtin;have z:=av (N7 q i A.1 a.2.2.2);refine wpList_append_lies _ rfl _ _ 52 rfl (w.heap.size+2) 54 ar _ 4 56 underlying52 B.1 B.2.1 B.2.2.1 B.2.2.2 rfl (by decide) _ u _ rfl (z.2.2 _ _) ⟨F.heap.size+1,0,none⟩ 1 1 [ae k,ae aH,af t,ag ak aG am] rfl rfl (Ig _ _ _ _ _ _ _) (KP _ _ _ _ _ _) (by decide) (by have:=z.2.1;unfold maxLen;omega) (by have:=z.2.1;omega) (by simp;omega) (F.heap.size+2) (by simp) ?_;intro aK aJ aX V S R ap;have N:=av (JB q i O A z.1 V S R);obtain⟨⟨aY,aZ,a0,a1⟩,aT,aU,aV,aW⟩:=N.out.1.cells;clear V S R ap))
   ·exact aD (v:=ax #[.agg #[ae 0,ae 0,af ⟨#[]⟩,ag none 0 0],.bool false]) (by simp[results,results75,go_sem,J,K,L,M,ao]) rfl ⟨0,0,⟨#[]⟩,none,0,0,false,rfl,(mE.box q (JA d.2.2.2.2 i O A _) _ _ _ _).alloc _⟩
   ·obtain⟨al,g,o,p⟩:=N.2;go_roundw
    case rel=>exact⟨al,g,_,_,_,o,trivial⟩
    case measure=>exact p
  ·go_wp2_with (first
     | (go_at_call 52;refine(pZ r s f h j wr a.1 a.2.1.1 a.2.1.2.1 C).mono ?_;rintro g ad ⟨rfl,x,rfl⟩)
     | (go_at_call 50;refine(sy r s f h (wr.drewN x) (a.1.drew x) a.2.1.2.1 E).mono ?_;rintro g F ⟨rfl,m⟩;obtain⟨o,p,H⟩:=Jz q d.2.2.2.2 P (by rw[C.out];exact hc) m.1 m.2;obtain⟨⟨J,K,L,M⟩,f0,f1,f2,f3⟩:=p.cells;obtain⟨⟨y0,y1,y2,aI⟩,aw,az,aB,aC⟩:=H.cells;have ai:=av (mE.box q o);clear o p H))
   exact aD (v:=ax #[.agg #[ae 4,ae 0,af ⟨#[]⟩,ag D u c],.bool true]) (by simp[results,results75,go_sem,J,K,L,M]) rfl ⟨4,0,⟨#[]⟩,D,u,c,true,rfl,ai _ _ _ _⟩
theorem Ld(a:x.toList=[]):gC x=false:=by
 rw[cD]at a;have b:x.size=0:=by
  have:x.data.toList.length=x.size:=by simp
  rw[a]at this;exact this.symm
 simp[gC,cD,fl,a,b]
theorem mE.undrew{v:az}(a:mE n s r f (w.drewN m) w1 v ok):mE n s r f w w1 v ok:=by
 obtain⟨b,c⟩:=a;exact⟨co (eY w m _) b,c⟩
theorem Le(a:At s b e f)(h:s.extract b e=x)(z:s.size<=2048)(i:Gr x=false){k:Int}{t:aq}(c:gC x=true)(u:(k,d,t)=nh x)(A:t.size<=x.size)(p:dn k)(q:dn d)(m:ap w w1)(v:Rd r s (dY s e) (eR s e) w2)(g:(w1.alloc o).grownBy w2 (some r)):mE (n+1) s r f w w2 (.agg #[ae k,ae d,af t,ag none 0 0]) true:=by
 have B:x.size<=2048:=by rw[<-h];simp;have:=a.2.1;omega
 refine⟨co (fY (o9 (gS w _) m) o) g,dY s e,eR s e,j8 s e,v,At.next a.2.1,λ_=>?_,by simp⟩;cases f with
 | nil=>
  have:=a.nil;rw[h]at this;rw[Ld this]at c;exact absurd c (by simp)
 | cons t0 f=>
  obtain⟨j,l,_⟩:=a.cons;subst j l;rw[h];refine⟨⟨((k,d,t),(none,0),[]),rfl,⟨_,_,rfl,ak ⟨i,c,u,rfl,rfl⟩⟩,⟨⟨p,q,by unfold maxLen;simp only;omega,aM _,aM _⟩,ak rfl⟩,ak rfl⟩,λy=>?_⟩;simp only[B9,i,c];simp
theorem Nv(c:At s b e f)(k:s.extract b e=x)(j:Gr x=false)(i:gC x=false)(a:Rd r s b e w)(d:ap w w1)(v:az):mE (n+1) s r f w w1 v false:=by
 refine⟨o9 (gS w _) d,b,e,f,a.block (d.block r a.lt),c,by simp,λ_ l=>?_⟩;cases f with
 | nil=>rfl
 | cons t0 f=>
  obtain⟨g,h,_⟩:=c.cons;subst g h;simp only[B9,k,j,i];simp[LG]
theorem G6(a:Below (w.drewN m).heap.size (w.drewN m) w1):ap w w1:=⟨a.os,a.tape,a.output,a.size,a.block⟩
theorem vy(a:r<w.heap.size)(g:(w.alloc (.cells #[v0,v1,v2,v3] 54)).grownBy w2 (some r)):Bx w.heap.size v0 v1 v2 v3 w2:=
 (Bx.new w v0 v1 v2 v3).block (g.block _ (by simp) (by simp;omega))
theorem zr(n:Nat)(r:Nat)(s:aq)(b e:Nat)(p:List Tok)(w:ah)(l:Rd r s b e w)(D:At s b e p)(E:s.size<=2048)(ih:∀w':ah,Rd r s b e w'->Gr (s.extract b e)=true->au 75 #[aE r] w' λd S=>ME (n+1) s r p w' S d):au 51 #[aE r] w λd w'=>ME (n+1) s r p w w' d:=by
 have h:=l.lt;have a:=av (⟨l,D⟩:_/\_);have O:=av ih;clear l D ih;obtain⟨c,m⟩:∃c,s.extract b e=c:=⟨_,rfl⟩;have g:=av m;have R:c.size<=2048:=by rw[<-m];simp;have:=a.2.2.1;omega
 clear m;cases hc:(c.toList==[40])
 ·have X:(c.toList=[40])=False:=by simpa using hc
  have Y:(c.toList !=[40])=true:=by simpa using hc
  go_enter func51,ntmps51
  go_wp2_with (first
   | (go_at_call 52;refine(pZ r s b e c _ (a.1.alloc _) a.2.1 a.2.2.1 g).mono ?_;rintro d L ⟨rfl,o,rfl⟩)
   | (go_at_call 52;refine(pZ r s b e c _ ((a.1.alloc _).drew o) a.2.1 a.2.2.1 g).mono ?_;rintro d L ⟨rfl,ai,rfl⟩)
   | (go_at_call 76;refine(I7 c _ R).mono ?_;rintro d q ⟨⟨k,f,t,ok,rfl,A⟩,HB⟩;replace HB:=G6 HB;obtain⟨⟨u,x,y,z⟩,f0,f1,f2,f3⟩:=zM HB;have P:w.heap.size<q.heap.size:=(by have:=HB.size;simp at this;omega);have Q:r<q.heap.size:=(by omega);replace HB:=av HB;cases ok)
   | (go_at_call 50;refine(sy r s b e _ ((((a.1.alloc _).block (HB.block r (by simp;omega)))).alloc _) a.2.2.1 E).mono ?_;rintro d an ⟨rfl,i⟩;have N:=av (co (fY (o9 (gS _ _) HB) _) i.2);obtain⟨⟨T,U,V,W⟩,aj,ak,al,am⟩:=(vy h N).cells;obtain⟨⟨y0,y1,y2,ao⟩,Z,aa,ab,ad⟩:=(vy Q i.2).cells;obtain⟨G,H,I,J,K⟩:=A.out;have M:=av (mE.box h (Le (n:=n) a.2 g E hc G.symm (H (by trivial)) I J K HB i.1 i.2));clear G H I J K))
  ·exact aD (v:=ax #[.agg #[ae k,ae f,af t,ag none 0 0],.bool false]) (by simp[results,results51,go_sem,u,x,y,z,P]) rfl ⟨k,f,t,none,0,0,false,rfl,(mE.box h (Nv a.2 g hc A.1.symm (a.1.alloc _) HB _) _ _ _ _).alloc _⟩
  ·exact aD (v:=ax #[.agg #[ae k,ae f,af t,ag none 0 0],.bool true]) (by simp[results,results51,go_sem,T,U,V,W]) rfl ⟨k,f,t,none,0,0,true,rfl,M _ _ _ _⟩
 ·go_enter func51,ntmps51
  go_wp2_with (first
   | (go_at_call 52;refine(pZ r s b e c _ (a.1.alloc _) a.2.1 a.2.2.1 g).mono ?_;rintro d L ⟨rfl,o,rfl⟩)
   | (go_at_call 75;refine(O _ ((a.1.alloc _).drew o) (by rw[g.out];exact hc)).mono ?_;rintro d q ⟨k,f,t,B,F,C,ok,rfl,j⟩;replace j:=av j.undrew;obtain⟨⟨u,x,y,z⟩,f0,f1,f2,f3⟩:=(vy h j.1).cells))
  exact aD (v:=ax #[.agg #[ae k,ae f,af t,ag B F C],.bool ok]) (by simp[results,results51,go_sem,u,x,y,z]) rfl ⟨k,f,t,B,F,C,ok,rfl,mE.box h j _ _ _ _⟩
theorem Ja(n:Nat):Ol n:=by
 induction n with
 | zero=>
  intro g h b d c k j a f l;refine zr 0 g h b d c k j a f λm _ e=>?_;have i:c=[]:=b8 (by omega);subst i;simp[Gr,a.nil]at e
 | succ n ih=>
  intro g h b d c k j a f l;refine zr (n+1) g h b d c k j a f λm o e=>?_;cases c with
  | nil=>simp[Gr,a.nil]at e
  | cons t c=>
   have i:=a.cons.1;refine FJ n ih g h b d t c m o a f (by simp at l;omega) ?_;rw[i];exact e
def pB:az:=.agg #[ae 0,ae 0,af ⟨#[]⟩,ag none 0 0]
def QB(s:aq)(w w':ah)(v:az)(pos b:Int):Prop:=
 (2048<s.size/\v=pB/\pos=0/\b=2)\/(∃c:Nat,s.size<=2048/\B9 s.size (j8 s 0) 0=some c/\v=pB/\pos=c/\b=3)\/
  (s.size<=2048/\B9 s.size (j8 s 0) 0=none/\∃(n:Nat)(a:Tm n),Is n a (j8 s 0) []/\In w'.heap.size w' n a/\cF (λd=>w.heap.size<=d) n a/\pos=0/\b=bK n a/\((bK n a≠0/\v=pB)\/(bK n a=0/\v=dF n a)))
def QA(s:aq)(w w':ah)(e:Ending):Prop:=
 ∃(k d:Int)(t:aq)(a:ay)(l c:Nat)(pos b:Int),e=aw (ax #[.agg #[ae k,ae d,af t,ag a l c],ae pos,ae b])/\
  Hid (QB s w w' (.agg #[ae k,ae d,af t,ag a l c]) pos b/\ap w w')
theorem wX(a:b≠q)(v0 v1 v2 v3:az):((((w.setCell ⟨q,0,none⟩ v0).setCell ⟨q,1,none⟩ v1).setCell ⟨q,2,none⟩ v2).setCell ⟨q,3,none⟩ v3).heap[b]?=w.heap[b]? :=by
 rw[ek _ _ _ _ (by simpa using a),ek _ _ _ _ (by simpa using a),ek _ _ _ _ (by simpa using a),ek _ _ _ _ (by simpa using a)]
theorem ze(v0 v1 v2 v3:az):((((w.setCell ⟨q,0,none⟩ v0).setCell ⟨q,1,none⟩ v1).setCell ⟨q,2,none⟩ v2).setCell ⟨q,3,none⟩ v3).heap.size=w.heap.size:=by simp[World.setCell]
theorem IZ(g:((w.alloc (.cells #[ae 0,ae 0,af ⟨#[]⟩,ag none 0 0] 54)).alloc (.cells #[af s,ae 0,ae 0] 85)).grownBy w2 (some (w.heap.size+1)))(a:w2.grownBy h (some (w.heap.size+1))):Bx w.heap.size (ae 0) (ae 0) (af ⟨#[]⟩) (ag none 0 0) h/\w.heap.size+1<h.heap.size/\ap w h/\w.heap.size+2<=w2.heap.size:=by
 have b:=co g a;have d:=g.size;have f:=a.size;simp at d;refine⟨((Bx.new w _ _ _ _).block (fx _ _ (by simp))).block (b.block _ (by simp;omega) (by simp)),by omega,?_,by omega⟩;exact((aV _ _).alloc (by simp) _).grown b (by simp;omega) (λe c=>by simp at c;omega)
theorem In.drewN{B:Nat}{w:ah}{n:Nat}{x:Tm n}(m:Nat){P:aW}(k:cF P n x)(a:In B w n x):In B (w.drewN m) n x:=In.off (w:=w) (w':=w.drewN m) (λ_ _=>rfl) k a
theorem LA{v:az}(A:s.extract b e=x)(z:(x.toList==[])=true)(D:s.size<=2048)(r:At s b e f)(E:w.heap.size+2<=w2.heap.size)(l:(∃x:Tm 2049,dF 2049 x=v/\Is 2049 x (j8 s 0) f/\In h.heap.size h 2049 x/\cF (λq=>w2.heap.size<=q) 2049 x)/\∀d,B9 s.size (j8 s 0) d=kK s.size f d)(o:Obj)(m:Nat):∃y:Tm 2049,v=dF 2049 y/\Is 2049 y (j8 s 0) []/\In ((h.alloc o).drewN m).heap.size ((h.alloc o).drewN m) 2049 y/\cF (λq=>w.heap.size+2<=q) 2049 y/\(aH 2049 y).length<=2097152/\B9 s.size (j8 s 0) 0=none:=by
 obtain⟨⟨y,n,g,i,a⟩,p⟩:=l;have j:f=[]:=by
  cases f with
  | nil=>rfl
  | cons t f=>
   have k:=r.cons.2.2;rw[A]at k;have c:x.toList=[]:=by simpa using z
   rw[cD]at c;have:x.data.toList.length=x.size:=by simp
   rw[c]at this;simp at this;omega
 subst j;have B:=uX 2049 y (j8 s 0) [] g;have c:=mC s s.size 0 (by omega);refine⟨y,n.symm,g,In.drewN m a ((In.off (λb u=>fx h o u.2) (In.offB a i) i).mono (by simp)),a.mono λq C=>by omega,by simp at B;omega,p 0⟩
theorem Ly{a:ah}(c:Bx w.heap.size (ae 0) (ae 0) (af ⟨#[]⟩) (ag none 0 0) h)(b:Below ((h.alloc (.cells #[v0,v1,v2,v3] 54)).drewN m).heap.size ((h.alloc (.cells #[v0,v1,v2,v3] 54)).drewN m) a):Bx w.heap.size (ae 0) (ae 0) (af ⟨#[]⟩) (ag none 0 0) a/\Bx h.heap.size v0 v1 v2 v3 a:=by
 have d:=c.lt;exact⟨(c.block (fx _ _ d)).block (b.block _ (by simp;omega)),(Bx.new h v0 v1 v2 v3).block (b.block _ (by simp))⟩
theorem Lz(g:s.extract b e=x)(c:(x.toList==[])=false)(a:At s b e f)(d:B9 s.size (j8 s 0) 0=kK s.size f 0):B9 s.size (j8 s 0) 0=some b:=by
 rw[d,<-a.pos];cases f with
 | nil=>rw[<-g]at c;simp[a.nil]at c
 | cons t f=>rfl
theorem Lx{w4:ah}{y:Tm n}(a:In w4.heap.size w4 n y)(k:cF (λq=>w.heap.size+2<=q) n y)(b:ap w4 h)(v0 v1 v2 v3:az):In ((((h.setCell ⟨w.heap.size,0,none⟩ v0).setCell ⟨w.heap.size,1,none⟩ v1).setCell ⟨w.heap.size,2,none⟩ v2).setCell ⟨w.heap.size,3,none⟩ v3).heap.size ((((h.setCell ⟨w.heap.size,0,none⟩ v0).setCell ⟨w.heap.size,1,none⟩ v1).setCell ⟨w.heap.size,2,none⟩ v2).setCell ⟨w.heap.size,3,none⟩ v3) n y:=by
 rw[ze];exact In.off (λq c=>wX (by omega) _ _ _ _) k ((a.below b).mono b.size)
theorem qO(a:ap w w1)(v0 v1 v2 v3:az):ap w ((((w1.setCell ⟨w.heap.size,0,none⟩ v0).setCell ⟨w.heap.size,1,none⟩ v1).setCell ⟨w.heap.size,2,none⟩ v2).setCell ⟨w.heap.size,3,none⟩ v3):=
 ⟨a.os,a.tape,a.output,by rw[ze];exact a.size,λk b=>(wX (by omega) _ _ _ _).trans (a.block k b)⟩
theorem iX(a:Below B w w1)(m:Nat):Below B w (w1.drewN m):=⟨a.os,a.tape,a.output,a.size,a.block⟩
theorem mT(a:ap w w1)(o:Obj):ap w (w1.alloc o):=a.alloc a.size o
theorem yO(s:aq)(w:ah)(S:s.size<=maxLen):au 35 #[af s] w λe w'=>QA s w w' e:=by
 unfold maxLen at S;by_cases D:2048<s.size
 ·have Q:(2048:Int)<s.size:=by omega
  go_enter func35,ntmps35;go_wp2_with fail;exact aD (v:=ax #[pB,ae 0,ae 2]) (by simp[results,results35,go_sem,pB]) rfl ⟨0,0,⟨#[]⟩,none,0,0,0,2,rfl,ak ⟨D,rfl,rfl,rfl⟩,by go_grown⟩
 ·have Q:(s.size:Int)<=2048:=by omega
  have i:s.size<=2048:=by omega
  clear D;have P:Hid (Rd (w.heap.size+1) s 0 0 ((w.alloc (.cells #[ae 0,ae 0,af ⟨#[]⟩,ag none 0 0] 54)).alloc (.cells #[af s,ae 0,ae 0] 85))):=by
   have:=aK (w.alloc (.cells #[ae 0,ae 0,af ⟨#[]⟩,ag none 0 0] 54)) (.cells #[af s,ae 0,ae 0] 85);simpa [Hid,Rd]using this
  go_enter func35,ntmps35
  go_wp2_with (first
   | (go_at_call 50;refine(sy (w.heap.size+1) s 0 0 _ P (aM _) i).mono ?_;rintro o U ⟨rfl,B⟩)
   | (go_at_call 51;refine(Ja 2048 (w.heap.size+1) s _ _ (j8 s 0) U B.1 (At.next (aM _)) i (aF (mC s s.size 0 (by omega)) (by omega))).mono ?_;rintro o V ⟨k,A,t,y,l,c,ok,rfl,C⟩;obtain⟨q,al,G,H⟩:=IZ B.2 C.1;obtain⟨⟨K,L,M,N⟩,f0,f1,f2,f3⟩:=q.cells;have E:w.heap.size<V.heap.size:=(by omega);obtain⟨_,d,o,az,b⟩:=C;replace b:=av b;obtain⟨⟨W,X,Y⟩,an,ao⟩:=b.out.1.cells;have HB:=av (⟨G,H⟩:_/\_);replace q:=av q;clear G H;obtain⟨r,F⟩:∃r,s.extract d o=r:=⟨_,rfl⟩;have x:=av F;clear F;cases ok)
   | (go_at_call 52;refine(pZ (w.heap.size+1) s d o r _ (b.1.alloc _) b.2.1.1 b.2.1.2.1 x).mono ?_;rintro Z aB ⟨rfl,m,rfl⟩;cases hc:(r.toList==[]))
   | (go_at_call 53;obtain⟨u,p,a⟩:=LA x hc i b.2.1 HB.2 (b.2.2.1 (by trivial)) _ m;replace a:=av a;refine(show Calls _ _ #[.agg #[ae k,ae A,af t,ag y l c]] _ _ from p▸dW 2049 u _ _ a.2.1 (aA _) a.2.2.2.1).mono ?_;rintro aa aC ⟨rfl,h⟩;obtain⟨I,J⟩:=Ly q h;obtain⟨⟨y0,y1,y2,O⟩,ab,ad,ai,aj⟩:=I.cells;obtain⟨⟨aE,aG,aH,aI⟩,ap,ar,aw,ay⟩:=J.cells;have n:=av h;clear I J h;replace p:=av p;obtain⟨j,g⟩:∃j,bK 2049 u=j:=⟨_,rfl⟩;rw[g];replace g:=av g;by_cases z:j=0))
  ·go_region;go_wp2_with fail;have f:=HB.1;exact aD (v:=ax #[pB,ae d,ae 3]) (by simp[results,results35,go_sem,pB,E,K,L,M,N]) rfl ⟨0,0,⟨#[]⟩,none,0,0,d,3,rfl,am (ak ⟨d,i,by rw[<-b.out.2.1.pos];exact b.2.2.2 (by trivial) 0,rfl,rfl,rfl⟩),by go_grown⟩
  ·go_region;go_wp2_with fail;have f:=HB.1;exact aD (v:=ax #[pB,ae d,ae 3]) (by simp[results,results35,go_sem,pB,E,K,L,M,N]) rfl ⟨0,0,⟨#[]⟩,none,0,0,d,3,rfl,am (ak ⟨d,i,Lz x hc b.2.1 ((b.2.2.1 (by trivial)).2 0),rfl,rfl,rfl⟩),qO (iX (mT f _) _) _ _ _ _⟩
  ·have f:=HB.1;have h:=n.out;exact aD (v:=ax #[.agg #[ae k,ae A,af t,ag y l c],ae 0,ae 0]) (by simp[results,results35,go_sem,y0,y1,y2,O]) rfl ⟨k,A,t,y,l,c,0,0,rfl,am (am ⟨i,a.2.2.2.2,2049,u,a.1,Lx a.2.1 a.2.2.1 n _ _ _ _,a.2.2.1.mono (λT R=>by omega),rfl,(g.trans z).symm,am ⟨g.trans z,p⟩⟩),qO ((iX (mT f _) m).trans (h.mono (iX (mT f _) m).size)) _ _ _ _⟩
  ·have f:=HB.1;have h:=n.out;exact aD (v:=ax #[pB,ae 0,ae j]) (by simp[results,results35,go_sem,pB,y0,y1,y2,O]) rfl ⟨0,0,⟨#[]⟩,none,0,0,0,j,rfl,am (am ⟨i,a.2.2.2.2,2049,u,a.1,Lx a.2.1 a.2.2.1 n _ _ _ _,a.2.2.1.mono (λT R=>by omega),rfl,g.symm,ak ⟨by rw[g.out];exact z,rfl⟩⟩),qO ((iX (mT f _) m).trans (h.mono (iX (mT f _) m).size)) _ _ _ _⟩
def wt:(n:Nat)->Tm n->Nat
 | 0,_=>1
 | n+1,x=>1+x.1.2.2.size+(x.2.2.map λy=>wt n y).sum
def jn(l:List (List UInt8)):List UInt8:=((l.map λa=>32::a).flatten).tail
theorem Ns(l:List (List UInt8))(a:List UInt8):jn (l++ [a])=if l=[]then a else jn l++32::a:=by
 unfold jn;cases l with
 | nil=>simp
 | cons b l=>simp
def fJ:(n:Nat)->Tm n->List UInt8
 | 0,_=> []
 | n+1,x=>
  if x.1.1=1 then Lib.itoa x.1.2.1 else if x.1.1=2 then x.1.2.2.data.toList else if x.1.1=3 then 35::Lib.itoa x.1.2.1
  else if x.1.1=4 then 40::jn (x.2.2.map λy=>fJ n y)++ [41]else if x.1.1=5 then 36::Lib.itoa x.1.2.1 else if x.1.1=6 then [95]else []
theorem KY(n:Nat)(f:Tm n->List UInt8)(l:List (Tm n))(a:∀y∈l,(f y).length+1<=24*wt n y):(jn (l.map f)).length<=24*(l.map λy=>wt n y).sum:=by
 have key:∀l:List (Tm n),(∀y∈l,(f y).length+1<=24*wt n y)->(((l.map f).map λb=>32::b).flatten).length<=24*(l.map λy=>wt n y).sum:=by
  intro l
  induction l with
  | nil=>simp
  | cons y l ih=>
   intro a;have g:=a y (by simp);have e:=ih (λd c=>a d (by simp[c]));simp only[bA,List.flatten_cons,bq,bu,dj];omega
 unfold jn;rw[List.length_tail];have:=key l a;omega
theorem Pc{x:Tm (n+1)}(a:In B w (n+1) x){y:Tm n}(c:y∈x.2.2):In B w n y:=by
 rcases a.2 with a|⟨b,o,_,_,a⟩
 ·rw[a]at c;cases c
 ·obtain⟨e,d⟩:=di c;exact(a e y d).2
theorem tT:(n:Nat)->(x:Tm n)->(B:Nat)->(w:ah)->In B w n x->(fJ n x).length+1<=24*wt n x
 | 0,_,_,_,h=>h.elim
 | n+1,x,B,w,h=>by
  have e:=KY n (λy=>fJ n y) x.2.2 (λy f=>tT n y B w (Pc h f));have d:dn x.1.2.1:=h.1.2.1;obtain⟨⟨k,b,s⟩,⟨a,c⟩,p⟩:=x;have g:=Lib.itoa_length_le b d.1 d.2;have i:s.data.toList.length=s.size:=by rw[lu];rfl
  simp only at e
  show (if k=1 then Lib.itoa b else if k=2 then s.data.toList else if k=3 then 35::Lib.itoa b
   else if k=4 then 40::jn (p.map λy=>fJ n y)++ [41]else if k=5 then 36::Lib.itoa b else if k=6 then [95]else []).length+1<=24*(1+s.size+(p.map λy=>wt n y).sum)
  repeat' split
  all_goals (try simp only[bu,bq,eV])
  all_goals omega
theorem dD.trans{B b:Nat}{l d:List UInt8}{w w1 w2:ah}(c:dD B b l w w1)(a:dD B b d w1 w2):dD B b d w w2:=⟨a.1,c.2.1.trans a.2.1,c.2.2.trans a.2.2⟩
theorem dD.old{B b:Nat}{l:List UInt8}{w w':ah}(c:Bu B b l w)(a:ap w w')(d:B<=w.heap.size):dD B b l w w':=⟨c.old a,a.mono d,KZ a⟩
def FW(n:Nat):Prop:=∀(x:Tm n)(C B b:Nat)(l:List UInt8)(w:ah),In C w n x->C<=B->Bu B b l w->B<=w.heap.size->xA B w->l.length+24*wt n x<=140737488355328->
 au 135 #[aE b,dF n x] w λe w'=>e=aw (ax #[])/\dD B b (l++fJ n x) w w'
theorem iJ(B b:Nat)(l:List UInt8)(c:Int)(a:UInt8)(g:(a.toNat:Int)=c)(w:ah)(d:Bu B b l w)(h:l.length+1<=140737488355328)(f:B<=w.heap.size):au 14 #[aE b,.int .u8 c] w λe w'=>e=.returned .nilIface/\dD B b (l++ [a]) w w':=by
 rw[<-g];exact xS B b l a w d h f
theorem GS(w:ah)(cs:Array az)(t:TypeId):(w.alloc (.cells cs t)).heap[w.heap.size]?=some (.cells cs t (0,0)):=aK w _
theorem zD(k d:Int)(s:aq)(a:ay)(n c:Nat)(B b:Nat)(l:List UInt8)(w:ah)(g:dn d)(j:Bu B b l w)(E:B<=w.heap.size)(x:xA B w)(I:l.length+24<=140737488355328)(i:UInt8)(F:(k=3/\i=35)\/(k=5/\i=36)):au 135 #[aE b,.agg #[ae k,ae d,af s,ag a n c]] w λe w'=>e=aw (ax #[])/\dD B b (l++i::Lib.itoa d) w w':=by
 have A:=av (Lib.itoa_length_le d g.1 g.2);have r:Hid (∀o,dD B b l w (w.alloc o)):=λo=>dD.old j (aV _ o) E;have C:=av x;have q:=av g;have J:=j.lt;clear j x g;rcases F with⟨rfl,rfl⟩|⟨rfl,rfl⟩
 all_goals
  go_enter func135,ntmps135;go_wp2_with fail;refine(iJ B b l _ _ (by first|exact(rfl:(((35:UInt8).toNat:Nat):Int)=35)|exact(rfl:(((36:UInt8).toNat:Nat):Int)=36)) _ (r.out _).1 (by omega) (by simp;omega)).mono ?_;rintro e y ⟨rfl,f⟩;have h:=av ((r.out _).trans f);have v:=yw f.2.2 (GS w _ 54) (by omega) (by decide);have H:ai y w.heap.size 1 (ae d):=by rw[fo v];rfl
  have t:Hid (B<=y.heap.size):=by have:=f.2.1.size;simp at this;simp only[Hid];omega
  clear f v;go_wp2_with fail;refine(jT d q.out.1 q.out.2 B _ (C.out.on h.out.2.1)).mono ?_;rintro e G ⟨rfl,m⟩;have p:=av (dD.old h.out.1 m t.out);have D:Hid (B<=G.heap.size):=aF t.out m.size;clear m;go_wp2_with fail;refine(kE B b _ _ _ p.out.1 (by have:=A.out;simp[ByteArray.size];omega) D.out).mono ?_;rintro e K ⟨rfl,u⟩;have z:=av ((h.out.trans p.out).trans u);clear u;go_wp2_with fail
  go_end0
  exact⟨rfl,by have:=z.out;simpa using this⟩
theorem rz:(n:Nat)->(x:Tm n)->(m:Nat)->(y:Tm m)->aJ n x m y=true->fJ n x=fJ m y
 | 0,_,_,_,h=>by simp[aJ]at h
 | _+1,_,0,_,h=>by simp[aJ]at h
 | n+1,x,m+1,y,h=>by
  obtain⟨c,d⟩:=bU h;simp only[fJ,c];rw[jo _ _ _ _ _ (λa _ b e=>rz n a m b e) d]
end Go.Proofs.YthjclakhibnamaaGreatDoor
