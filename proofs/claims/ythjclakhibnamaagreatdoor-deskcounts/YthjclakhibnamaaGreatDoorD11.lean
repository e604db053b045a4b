/- Proved here: plain facts and contracts. No condition but what each names. -/
import Derived.Test.YthjclakhibnamaaGreatDoorD10
import Derived.Deep.DeepCutAuto
import Derived.BigRegion
namespace Go.Proofs.YthjclakhibnamaaGreatDoor
open Go.RowKit Go.Proofs.Tryz
set_option maxRecDepth 100000
set_option maxHeartbeats 8000000
variable{ok:Bool}{d:Int}{j u B L b base c e g k m n q r:Nat}{o:Obj}{p:UInt8->Bool}{h w w' w1 w2 wr:ah}{s x:aq}{v a:aw}{v0 v1 v2 v3:ax}
theorem M3{x:Tm m}(a:bJ m x=0)(room:Int)(s:Tc)(ms:List Tc):nV m x room s ms=nV 13 (cn m x) room s ms:=by
 have b:=eF a;unfold nV;rw[bN b,cF _ _ _ _ b,Ga a]
theorem CV{d:Type}(k:Int)(v:d):(l:List (Int×d))->(l.map (·.1)).Nodup->(l.find? λp=>p.1==k).map (·.2)=some v->(l.map λp=>if p.1=k then (k,v)else p)=l
 | [],_,_=>rfl
 | a::l,hn,h=>by
  rw[bz,nK]at hn;rw[km]at h;rw[bz];by_cases b:a.1=k
  ·have c:(a.1==k)=true:=by simpa using b
   rw[c]at h;have f:a.2=v:=by simpa using h
   rw[if_pos b];congr 1
   ·rw[<-f,<-b]
   ·refine(lD λi g=>?_).trans (List.map_id l);rw[if_neg λe=>hn.1 (b9.2 ⟨i,g,e.trans b.symm⟩)];rfl
  ·have c:(a.1==k)=false:=by simpa using b
   rw[c]at h;rw[if_neg b,CV k v l hn.2 h]
theorem wR{s:Sy}{k:Int}{v:aq×Tc×List Tc}(b:(s.ps.map (·.1)).Nodup)(a:s.get k=some v):s.put k v=s:=by
 unfold Sy.put;rw[CV k v s.ps b a]
section
variable {p:mL} {s:Sy} {d:gW} {w:ah}
theorem bD.deliver(h:bD p s d w){a b:Int}(W:dm b){nm:aq}{cs:Tc}{r:List Tc}(j:s.get b=some (nm,cs,r)){m:Nat}(x:Tm (m+1))(K:In w.heap.size w (m+1) x/\cE (λq=>¬1<=d.ow q) (m+1) x)(B:bJ (m+1) x=0)(Z:d.k<=92000)(Y:d.es.length<=98000):au 131 #[aC p.b,ae a,ae b,dE (m+1) x] w λe w'=>e=.returned (.tuple #[])/\Hid (∃z,bD p (s.deliver p.room a b (cn (m+1) x)) z w'/\gD 100 201 d z w w'):=by
 obtain⟨v,H⟩:∃v,dn d.l b=some v:=by
  have:=h.alive b;rw[j]at this;cases e:dn d.l b with
  | none=>rw[e]at this;cases this
  | some v=>exact⟨v,rfl⟩
 obtain⟨X,P,O,G,S,T⟩:=h.ps b v H;rw[j]at G;obtain⟨rfl,rfl,rfl⟩:nm=X/\cs=P/\r=O:=by
  injection G with G;injection G with I A;injection A with A R;exact⟨I,A,R⟩
 have M:=(h.key H).1;obtain⟨y,C⟩:∃y,y=nV 13 (cn (m+1) x) p.room cs r:=⟨_,rfl⟩;have aa:bJ 13 (cn (m+1) x)=0:=(bN (eF B)).trans B;refine Jg p.b v d.po a b x.1.1 x.1.2.1 x.1.2.2 x.2.1.1 x.2.2.length x.2.1.2 y w (λg=>∃d1,bD p (if y=0 then s.put b (nm,cs,r++ [cn (m+1) x])else s.put b (nm,cs,r)) d1 g/\gD 0 201 d d1 w g/\In g.heap.size g (m+1) x) (λg=>∃z,bD p (s.deliver p.room a b (cn (m+1) x)) z g/\gD 100 201 d z w g) h.lo.2 h.cells.2.2.2 (λg f=>?_) (λg f=>?_) (λe g f=>?_) (λe g f=>?_) λI A g f=>?_
 ·have:=(h.later f).look b false;rw[H]at this;exact this
 ·have V:=S.later f;have N:=(K.1.below f).mono f.size;refine(V.deliver x N (K.2.mono λq t F=>t (by rw[show d.ow q=b from F];exact M)) (gG B) (by omega) (by omega) (aD h.lo.1 f.size)).mono ?_;rintro e w' ⟨rfl,u⟩;rw[M3 B,<-C]at u ⊢;obtain⟨c,n⟩:=u.out;have J:bG (λq=>d.ow q=b) g w':=⟨c.os,c.tape,c.output,c.size,c.block⟩;have U:(if y=0 then r++ [cn (m+1) x]else r).length<=20:=by
   split
   ·rename_i i;rw[C]at i;unfold nV at i;split at i
    ·cases i
    ·simp;omega
   ·exact T
  obtain⟨o,E⟩:=(h.later f).turnP H j J (λq t=>t.1) (show d.k<=d.k+201 by omega) n U;refine⟨rfl,⟨_,?_,(((ew.later d f).un.trans E).mono (ay _) (by omega)),?_⟩,λq ab F=>J.block q F λt=>?_⟩
  ·split
   ·rename_i i;rw[if_pos i]at o;exact o
   ·rename_i i;rw[if_neg i]at o;exact o
  ·exact(fA J (D:=λq=>¬1<=d.ow q) (λq t F=>t (by rw[F];exact M)) ⟨N,K.2⟩).1
  ·have:=(h.low q (by rw[t];omega)).2;omega
 ·obtain⟨d1,c,n,L⟩:=f;rw[if_neg (by rw[e];decide),wR h.keys.2.1 j]at c;refine(c.tell oW a b x.1.1 x.1.2.1 x.1.2.2 x.2.1.1 x.2.2.length x.2.1.2 (cn (m+1) x) (ld L B) (by have:=n.2.2.2.1;omega)).mono ?_;rintro Q w' ⟨rfl,u⟩;obtain⟨d2,o,E⟩:=u.out.up c;refine⟨rfl,d2,?_,(n.trans E.un).mono (by omega) (by omega)⟩;unfold Sy.deliver;rw[j];simp only;rw[<-C,if_pos e];exact o
 ·obtain⟨d1,c,n,L⟩:=f;rw[if_neg (by rw[e];decide),wR h.keys.2.1 j]at c;refine(c.fin (how:=3) W (by have:=n.2.2.2.1;omega)).mono ?_;rintro Q w' ⟨rfl,u⟩;obtain⟨d2,o,E⟩:=u;refine⟨rfl,d2,?_,(n.trans E.un).mono (by omega) (by omega)⟩;unfold Sy.deliver;rw[j];simp only;rw[<-C,if_neg (by rw[e];decide),if_pos e];exact o
 ·obtain⟨d1,c,n,L⟩:=f;refine⟨d1,?_,n.mono (by omega) (ay _)⟩;unfold Sy.deliver;rw[j];simp only;rw[<-C,if_neg I,if_neg A];by_cases i:y=0
  ·rw[if_pos i]at c ⊢;exact c
  ·rw[if_neg i]at c ⊢;rw[wR h.keys.2.1 j]at c;exact c
end
theorem Co(x:Nat)(a i j:Int)(k:aq)(xa:aw)(l xc:Nat)(g cl:Bool)(b:Int)(w:ah)(R:Int->bE)(z:Hid (∀W,ap w W->au 130 #[aC x,ae a] W λe w'=>e=.returned (.bool g)/\w'=W))(G:Hid (∀W,ap w W->au 53 #[.agg #[ae i,ae j,ag k,af xa l xc]] W λe w'=>e=.returned (ae b)/\ap W w'))(E:Hid (∀W,ap w W->au 132 #[.agg #[ae i,ae j,ag k,af xa l xc]] W λe w'=>e=.returned (.bool cl)/\ap W w'))(F:Hid (g=true->b=0->cl=true->∀W,ap w W->au 131 #[aC x,ae 0,ae a,.agg #[ae i,ae j,ag k,af xa l xc]] W λe w'=>e=.returned (.tuple #[])/\Hid (R 0 w')))(r:Hid (∀W,ap w W->(g=false->R 4 W)/\(g=true->b≠0->R b W)/\(g=true->b=0->cl=false->R 5 W))):au 89 #[aC x,ae a,.agg #[ae i,ae j,ag k,af xa l xc]] w λe w'=>∃v,e=.returned (ae v)/\Hid (R v w'):=by
 go_enter func89,ntmps89;go_upto_region 1 with fail;generalize A:w.alloc _=y;have d:Hid (ap w y/\y.heap[w.heap.size]?=some (.cells #[ae i,ae j,ag k,af xa l xc] 54)):=by
  rw[<-A];exact⟨aT _ _,aI _ _⟩
 clear A;go_wp2_with fail;refine(z _ d.1).mono ?_;rintro e K ⟨rfl,B⟩;obtain rfl:=B.symm;clear B z;cases g
 ·have h:=av ((r y d.1).1 rfl);go_wp2_with fail
  go_ret
  exact⟨4,rfl,h⟩
 have c:=d.2;obtain⟨m,n,o,p⟩:=QO c;clear c;go_wp2_with fail;refine(G _ d.1).mono ?_;rintro e I ⟨rfl,s⟩;have f:=av (⟨d.1.trans (s.mono d.1.size),fi s d.2⟩:_/\_);clear m n o p s;by_cases u:b=0;rotate_left
 ·have h:=av ((r I f.1).2.1 (by simp) u);have J:(b !=0)=true:=by simpa using u
  go_wp2_with fail
  go_ret
  exact⟨b,rfl,h⟩
 subst u;have c:=f.2;obtain⟨m,n,o,p⟩:=QO c;clear c;go_wp2_with fail;refine(E _ f.1).mono ?_;rintro e C ⟨rfl,t⟩;have q:=av (⟨f.1.trans (t.mono f.1.size),fi t f.2⟩:_/\_);clear m n o p t;cases cl
 ·have h:=av ((r C q.1).2.2 (by simp) (by simp) (by simp));go_wp2_with fail
  go_ret
  exact⟨5,rfl,h⟩
 have c:=q.2;obtain⟨m,n,o,p⟩:=QO c;have H:=av (F (by simp) (by simp) (by simp) C q.1);clear c;go_wp2_with fail;refine H.mono ?_;rintro e L ⟨rfl,D⟩;go_wp2_with fail
 go_ret
 exact⟨0,rfl,D⟩
section
variable {p:mL} {s:Sy} {d:gW} {w:ah}
theorem bD.inject(j:bD p s d w){a:Int}(y:dm a){m:Nat}(x:Tm (m+1))(l:In w.heap.size w (m+1) x/\cE (λq=>¬1<=d.ow q) (m+1) x)(u:(aF (m+1) x).length<=2097152)(A:d.k<=92000)(t:d.es.length<=98000):au 89 #[aC p.b,ae a,dE (m+1) x] w λe w'=>∃v,e=.returned (ae v)/\Hid (v=(s.inject p.room a (m+1) x).2/\∃g,bD p (s.inject p.room a (m+1) x).1 g w'/\gD 100 201 d g w w'):=by
 have o:∀f,ap w f->gD 100 201 d d w f:=λf c=>(ew.later d c).un.mono (aK _) (aK _);refine Co p.b a x.1.1 x.1.2.1 x.1.2.2 x.2.1.1 x.2.2.length x.2.1.2 (s.get a).isSome (aV (m+1) x) (bJ (m+1) x) w (λv w'=>v=(s.inject p.room a (m+1) x).2/\∃g,bD p (s.inject p.room a (m+1) x).1 g w'/\gD 100 201 d g w w') (λf c=>(j.later c).isAlive a) (λf c=>dV (m+1) x w.heap.size f (l.1.below c) c.size u) (λf c=>iZ (m+1) x w.heap.size f (l.1.below c) c.size) (λh i n f c=>?_) λf c=>⟨λe=>?_,λh i=>?_,λh i n=>?_⟩
 ·obtain⟨v,z⟩:=gi.1 h;obtain⟨F,E,D⟩:=v;refine((j.later c).deliver y z x ⟨(l.1.below c).mono c.size,l.2⟩ i A t).mono ?_;rintro e w' ⟨rfl,r⟩;obtain⟨g,B,C⟩:=r;have e:s.inject p.room a (m+1) x=(s.deliver p.room 0 a (cn (m+1) x),0):=by
   unfold Sy.inject;rw[if_neg (by rw[h];decide),if_neg (by rw[i];decide),if_neg (by rw[n];decide)]
  rw[e];exact⟨rfl,rfl,g,B,((ew.later d c).un.trans C).mono (by omega) (by omega)⟩
 ·have e:s.inject p.room a (m+1) x=(s,4):=if_pos e;rw[e];exact⟨rfl,d,j.later c,o f c⟩
 ·have e:s.inject p.room a (m+1) x=(s,bJ (m+1) x):=by
    unfold Sy.inject;rw[if_neg (by rw[h];decide),if_pos i]
  rw[e];exact⟨rfl,d,j.later c,o f c⟩
 ·have e:s.inject p.room a (m+1) x=(s,5):=by
    unfold Sy.inject;rw[if_neg (by rw[h];decide),if_neg (by rw[i];decide),if_pos n]
  rw[e];exact⟨rfl,d,j.later c,o f c⟩
end
section
variable {p:mL} {s:Sy} {d:gW} {w:ah}
theorem bD.takeW(h:bD p s d w){a b:Int}(X:I2 (a,b))(Z:d.wn<999999):au 129 #[.pointer (some ⟨p.b,4,none⟩),ae a,ae b] w λe w'=> (s.ways (a,b)=[]->e=.returned (.tuple #[.agg #[ae 0,ae 0,ag ⟨#[]⟩,af none 0 0],ae 4])/\ap w w')/\ ∀t l,s.ways (a,b)=t::l->∃y:Tc,e=.returned (.tuple #[dE 13 y,ae 0])/\cn 13 y=t/\bJ 13 y=0/\aV 13 y=true/\∃z,bD p {s with ways:=iw s.ways (a,b) l} z w'/\ew 1 d z w w'/\In w'.heap.size w' 13 y/\cE (λq=>¬1<=z.ow q) 13 y:=by
 have n:=h.wy.2.2.1 (a,b);refine(Ma (N:=12) h.wy.1 X Z (by have:=h.wy.2.2.2.1 (a,b);omega)).mono ?_;rintro e w' ⟨B,V⟩;refine⟨λA=>B ?_,λt l A=>?_⟩
 ·rw[A]at n;simpa using n
 ·rw[A]at n;obtain⟨y,i,v,P,Q⟩:∃y i,d.f (a,b)=y::i/\cn 13 y=t/\i.map (cn 13)=l:=by
   cases I:d.f (a,b)with
   | nil=>rw[I]at n;simp at n
   | cons y i=>
    rw[I,bz]at n;injection n with ad ah;exact⟨y,i,rfl,ad,ah⟩
  obtain⟨Y,sl,L,m,M⟩:=V y i v;have u:=h.wy.2.1;have r:∀b,d.ow b≠0->d.ow b=d.ow b:=λ_ _=>rfl;have J:∀b,d.ow b≠0->p.lo<=b/\b<w'.heap.size:=λb q=>⟨(h.low b q).1,aY (h.low b q).2 m.size⟩;have x:∀{t:Int},t≠ -1->t≠ -5->∀b,d.ow b=t->¬sR (Bf p s d) d.wo d.sl b:=λB W b e g=>by
   rcases u b g with g|g
   ·rw[g,h.own]at e;exact W e.symm
   ·exact B (e.symm.trans g)
  have H:w'.heap[p.b]?=some (.cells (ez p s d) 139):=by
   have:=L.2.1.2;simpa [Bf,ez]using this
  have K:∀C,∀g∈d.f C,bJ 13 g=0/\aV 13 g=true/\In w'.heap.size w' 13 g/\cE (λq=>d.ow q=-1/\¬sR (Bf p s d) d.wo d.sl q) 13 g:=λC g o=>by
   obtain⟨D,E,F⟩:=h.wy.2.2.2.2 C g o;exact⟨D,E,fA m (λq ak G=>ak.2 G) F⟩
  obtain⟨y1,y2,ai,aj⟩:=K (a,b) y (by rw[v];simp);obtain⟨R,S⟩:=h.evK m (x (by decide) (by decide)) r;refine⟨y,Y,P,y1,y2,{d with wn:=d.wn+1,f:=iw d.f (a,b) i,sl:=sl},⟨J,H,h.own,⟨h.pgK m (x (by decide) (by decide)) r,h.pg.2⟩,h.pmK m (λq T U g=>?_) r,h.keys,λk c q=>h.psK m (ay _) (x (by have:=(h.key q).1;omega) (by have:=(h.key q).1;omega)) r J q,⟨L,λq g=>u q (M q g),λk=>?_,λk=>?_,λk g o=>?_⟩,h.bdK m (x (by decide) (by decide)) r rfl (rB H).2,R,h.evt.1,S⟩,⟨m.mono λq _ g=>?_,λ_ _=>rfl,rfl,fM _,ay _,fM _⟩,ai,aj.mono λq g=>by show¬1<=d.ow q;rw[g.1];decide⟩
  ·rcases u q g with g|g
   ·exact U g
   ·rw[T]at g;cases g
  ·by_cases j:k=(a,b)
   ·subst j;show (iw d.f (a,b) i (a,b)).map (cn 13)=iw s.ways (a,b) l (a,b);rw[de,de,Q]
   ·show (iw d.f (a,b) i k).map (cn 13)=iw s.ways (a,b) l k;rw[cd _ _ j,cd _ _ j];exact h.wy.2.2.1 k
  ·by_cases j:k=(a,b)
   ·subst j;show (iw d.f (a,b) i (a,b)).length<=20;rw[de];have:=h.wy.2.2.2.1 (a,b);rw[v]at this;simp at this;omega
   ·show (iw d.f (a,b) i k).length<=20;rw[cd _ _ j];exact h.wy.2.2.2.1 k
  ·have o:g∈iw d.f (a,b) i k:=o;have aa:g∈d.f k:=by
    by_cases j:k=(a,b)
    ·subst j;rw[de]at o;rw[v];exact b8 _ o
    ·rwa [cd _ _ j]at o
   obtain⟨D,E,F,ab⟩:=K k g aa;exact⟨D,E,F,ab.mono λq O=>⟨O.1,λG=>O.2 (M q G)⟩⟩
  ·rcases u q g with g|g
   ·rw[g,h.own];decide
   ·rw[g];decide
end
theorem tZ(d:Nat)(a b:Int)(s i:Bool)(w:ah)(p:Int->Int->aq->aw->Nat->Nat->bE)(R:Int->bE)(n:Hid (au 129 #[.pointer (some ⟨d,4,none⟩),ae a,ae b] w λe w'=>(s=true->e=.returned (.tuple #[.agg #[ae 0,ae 0,ag ⟨#[]⟩,af none 0 0],ae 4])/\Hid (∀W,ap w' W->R 4 W))/\(s=false->∃y0 y1 y2 ya yl yc,e=.returned (.tuple #[.agg #[ae y0,ae y1,ag y2,af ya yl yc],ae 0])/\Hid (p y0 y1 y2 ya yl yc w'))))(k:Hid (∀y0 y1 y2 ya yl yc W c,p y0 y1 y2 ya yl yc W->ap W c->au 130 #[aC d,ae b] c λe w'=>e=.returned (.bool i)/\w'=c))(l:Hid (∀y0 y1 y2 ya yl yc W c,p y0 y1 y2 ya yl yc W->ap W c->(i=true->au 131 #[aC d,ae a,ae b,.agg #[ae y0,ae y1,ag y2,af ya yl yc]] c λe w'=>e=.returned (.tuple #[])/\Hid (R 0 w'))/\(i=false->au 124 #[aC d,ag ⟨#[108,111,115,116]⟩,ae a,ae b,.agg #[ae y0,ae y1,ag y2,af ya yl yc]] c λe w'=>e=.returned (.tuple #[])/\Hid (R 0 w')))):au 88 #[aC d,ae a,ae b] w λe w'=>∃v,e=.returned (ae v)/\Hid (R v w'):=by
 go_enter func88,ntmps88;go_wp2_with fail;refine n.mono ?_;rintro e f ⟨q,r⟩;cases s;rotate_left
 ·obtain⟨rfl,g⟩:=q rfl;clear q r n k l;go_wp2_with fail
  go_ret
  exact⟨4,rfl,g _ (aT _ _)⟩
 obtain⟨y0,y1,y2,ya,yl,yc,rfl,g⟩:=r rfl;clear q r n;have HB:Hid (∀o,ap f (f.alloc o)):=λo=>aT _ o;have x:Hid (∀o,(f.alloc o).heap[f.heap.size]?=some o):=λo=>aI f o;go_wp2_with fail;refine(k _ _ _ _ _ _ _ _ g (HB _)).mono ?_;rintro e y ⟨rfl,t⟩;obtain rfl:=t.symm;clear t;have h:=av (l _ _ _ _ _ _ _ _ g (HB (.cells #[ae y0,ae y1,ag y2,af ya yl yc] 54)));clear k l;cases i
 ·have m:=av (h.2 rfl);clear h;go_wp2_with fail;refine m.mono ?_;rintro e u ⟨rfl,j⟩;go_wp2_with fail
  go_ret
  exact⟨0,rfl,j⟩
 ·have m:=av (h.1 rfl);clear h;go_wp2_with fail;refine m.mono ?_;rintro e u ⟨rfl,j⟩;go_wp2_with fail
  go_ret
  exact⟨0,rfl,j⟩
section
variable {p:mL} {s:Sy} {d:gW} {w:ah}
theorem bD.arrive(y:bD p s d w){a b:Int}(z:I2 (a,b))(B:d.wn<999999)(U:d.k<=92000)(S:d.es.length<=97000):au 88 #[aC p.b,ae a,ae b] w λe w'=>∃v,e=.returned (ae v)/\Hid (v=(s.arrive p.room a b).2/\∃c,bD p (s.arrive p.room a b).1 c w'/\gD 101 201 d c w w'):=by
 cases hw:s.ways (a,b)with
 | nil=>
  have e:s.arrive p.room a b=(s,4):=by unfold Sy.arrive;rw[hw]
  rw[e];refine tZ p.b a b true false w (λ_ _ _ _ _ _ _=>False) (λv w'=>v=4/\∃c,bD p s c w'/\gD 101 201 d c w w') ((y.takeW z B).mono λe w' j=>⟨λ_=>⟨(j.1 hw).1,λi g=>?_⟩,(λm=>by cases m)⟩) (λ_ _ _ _ _ _ _ _ m=>m.elim) λ_ _ _ _ _ _ _ _ m=>m.elim;have A:=(j.1 hw).2.trans (g.mono (j.1 hw).2.size);exact⟨rfl,d,y.later A,(ew.later d A).un.mono (aK _) (aK _)⟩
 | cons t l=>
  obtain⟨h,C⟩:∃h,h={s with ways:=iw s.ways (a,b) l}:=⟨_,rfl⟩;have e:s.arrive p.room a b=(if (h.get b).isSome then h.deliver p.room a b t else h.tell oW a b t,0):=by unfold Sy.arrive;rw[hw,C]
  rw[e];refine tZ p.b a b false (h.get b).isSome w (λy0 y1 y2 ya yl yc i=>∃f:Tc,(f.1=(y0,y1,y2)/\f.2.1=(ya,yc)/\f.2.2.length=yl)/\cn 13 f=t/\bJ 13 f=0/\∃c,bD p h c i/\ew 1 d c w i/\In i.heap.size i 13 f/\cE (λj=>¬1<=c.ow j) 13 f) (λv w'=>v=0/\∃c,bD p (if (h.get b).isSome then h.deliver p.room a b t else h.tell oW a b t) c w'/\gD 101 201 d c w w') ((y.takeW z B).mono λe w' j=>⟨(λm=>by cases m),λ_=>?_⟩) ?_ ?_
  ·obtain⟨f,J,K,L,X,c,M,N,O,P⟩:=j.2 t l hw;exact⟨f.1.1,f.1.2.1,f.1.2.2,f.2.1.1,f.2.2.length,f.2.1.2,J,f,⟨rfl,rfl,rfl⟩,K,L,c,by rw[C];exact M,N,O,P⟩
  ·rintro y0 y1 y2 ya yl yc i F ⟨f,_,_,_,c,o,_⟩ g;exact(o.later g).isAlive b
  ·rintro y0 y1 y2 ya yl yc i F ⟨f,⟨f1,f2,f3⟩,D,kc,c,o,r,E,I⟩ g;obtain⟨⟨Y,Z,aa⟩,⟨ab,ad⟩,af⟩:=f;simp only[gQ]at f1 f2;obtain⟨rfl,rfl,rfl⟩:=f1;obtain⟨rfl,rfl⟩:=f2;subst f3;have T:=r.2.2.2.1;have V:=r.2.2.1;refine⟨λq=>?_,λq=>?_⟩
   ·obtain⟨v,H⟩:=gi.1 q;obtain⟨W,R,Q⟩:=v;refine((o.later g).deliver z.2 H _ ⟨(E.below g).mono g.size,I⟩ kc (by omega) (by omega)).mono ?_;rintro G w' ⟨rfl,u⟩;obtain⟨d2,n,x⟩:=u.out;rw[D]at n;rw[if_pos q];exact⟨rfl,rfl,d2,n,((r.un.trans (ew.later c g).un).trans x).mono (by omega) (by omega)⟩
   ·refine((o.later g).tell oW a b _ _ _ _ _ _ _ (ld ((E.below g).mono g.size) kc) (by omega)).mono ?_;rintro G w' ⟨rfl,u⟩;obtain⟨d2,n,x⟩:=u.up (o.later g);rw[D]at n;rw[if_neg (by rw[q];decide)];exact⟨rfl,rfl,d2,n,((r.un.trans (ew.later c g).un).trans x.un).mono (by omega) (by omega)⟩
end
theorem NM(a:Nat)(W:ah):(binOp .eql 131 (.map (some a)) (.map none)).run Tryz.prog W=.ok (.bool false) W:=by kernel_rfl
theorem NL(W:ah):(binOp .eql 131 (.map none) (.map none)).run Tryz.prog W=.ok (.bool true) W:=by kernel_rfl
theorem Je(b o d:Nat)(n:da)(a F c:Int)(w w1 w2:ah)(y:Int->Int->aq->aw->Nat->Nat->bE)(k R:bE)(N:IntKind.i64.wrap (F+1)=c)(O:b<w.heap.size)(C:Hid (ai w b 3 (.map n)/\w.frozen? ⟨b,3,none⟩=false))(L:(n=none/\d=w.heap.size/\w1=(w.setCell ⟨b,3,none⟩ (.map (some d))).alloc (.map #[] 0))\/(n=some d/\w1=w))(p:Hid (ai w1 b 2 (ae F)/\w1.frozen? ⟨b,2,none⟩=false))(z:w2=w1.setCell ⟨b,2,none⟩ (ae c))(j:Hid (∀W,ap w2 W->ai W b 2 (ae c)/\ai W b 3 (.map (some d))))(u:Hid (∀W,ap w2 W->∃f,(Instr.mapUpdate 131 (.map (some d)) (ae c) (Bc o)).run Tryz.prog W=.ok () f/\(ai f b 2 (ae c)/\ai f b 3 (.map (some d)))/\Hid (k f)))(s:Hid (∀W g,k W->ap W g->ai g b 2 (ae c)))(H:Hid (∀W g,k W->ap W g->au 93 #[aC o] g λe w'=>∃y0 y1 y2 ya yl yc,e=.returned (.agg #[ae y0,ae y1,ag y2,af ya yl yc])/\Hid (ap g w'/\y y0 y1 y2 ya yl yc w')))(I:Hid (∀y0 y1 y2 ya yl yc W,y y0 y1 y2 ya yl yc W->au 124 #[aC b,ag ⟨#[115,112,97,119,110]⟩,ae a,ae c,.agg #[ae y0,ae y1,ag y2,af ya yl yc]] W λe w'=>e=.returned (.tuple #[])/\Hid (R w'/\ai w' b 2 (ae c)))):au 86 #[aC b,ae a,aC o] w λe w'=>e=.returned (.tuple #[])/\Hid (R w'):=by
 obtain⟨K,f3⟩:=C.out;have M:= @run_makeMap Tryz.prog;have m:Hid (ap w2 w2.drew):=(aE _ _).drew;have h:Hid (∀W:ah,ap W W.drew):=λW=>(aE _ _).drew;go_enter func86,ntmps86;rcases L with⟨rfl,B,i⟩|⟨rfl,i⟩
 case' inl=>
  have D:=NL;go_upto_region 2 with fail;rw[<-B,<-i];clear B
 case' inr=>
  have D:=NM d;go_upto_region 2 with fail;rw[<-i]
 all_goals
  clear K f3 i C D M;obtain⟨J,f2⟩:=p.out;go_upto_region 3 with fail;rw[<-z];clear z J f2 p;obtain⟨d2,d3⟩:=j.out _ m;obtain⟨f,E,A,l⟩:=u.out _ m;unfold Bc at E;have t:=av A;have r:=av (j _ m);clear u j;go_region_held3 (λW=>W.cell? ⟨b,2,none⟩=some (ae c)/\W.cell? ⟨b,3,none⟩=some (.map (some d))) (first|exact r|exact t) (fail);clear E r A d2 d3;have d2:=t.1;go_upto_region 4 with fail
  go_region_held3 (λW=>W.cell? ⟨b,2,none⟩=some (ae c)) (first|exact s _ _ l (h _)|exact s _ _ l G|exact q.2) ((first
   | (go_at_call 93;refine(H _ _ l (h _)).mono ?_;rintro e P ⟨y0,y1,y2,ya,yl,yc,rfl,x⟩;have G:=av ((h f).trans (x.1.mono (h f).size)))
   | (go_at_call 124;refine(I _ _ _ _ _ _ _ x.2).mono ?_;rintro e Q ⟨rfl,q⟩)))
  go_wp2_with fail;exact eE (v:=.tuple #[]) (by simp[results]) rfl ⟨rfl,q.1⟩
section
variable {p:mL} {s:Sy} {d:gW} {w:ah}
def OS(M:aU)(a:Nat)(d b:gW)(w w':ah):Prop:=bG (λq=>d.ow q<0) w w'/\(∀q,q<w.heap.size->¬M q->b.ow q=d.ow q)/\(∀q,M q->1<=b.ow q)/\b.k=d.k/\b.es.length<=d.es.length+a/\b.wn<=d.wn+a/\b.bn<=d.bn+a
theorem pK{b:Type}(l:List (Int×b))(k j:Int)(v:b)(c:∀q∈l,q.1≠k):((l++ [(k,v)]).find? λq=>q.1==j)=if j=k then some (k,v)else l.find? λq=>q.1==j:=by
 rw[List.find?_append];by_cases a:j=k
 ·subst a;rw[if_pos rfl,qd.2 λq d=>by simpa using c q d];simp
 ·rw[if_neg a];have:(k==j)=false:=by simpa using λe:k=j=>a e.symm
  simp[this]
def Ph(d:gW)(M:aU)[DecidablePred M](a:Nat)(k:Int)(q:Nat):Int:=if M q then k else if q=a then -5 else d.ow q
theorem bD.addG(e:bD p s d w){m c:Nat}{nm:aq}{cs:Tc}{M:aU}[DecidablePred M](B:P1 p.lo m nm p.room cs [] (d.k+201) M w)(A:∀q,M q->d.ow q=0)(aa:s.ps.length<12/\s.last<90){w':ah}(f:bG (λq=>d.ow q=-5) w w')(P:d.ow c≠0->d.ow c=-5)(N:¬M c)(O:p.lo<=c/\c<w'.heap.size)(Q:c≠p.b)(o:w'.heap[p.b]?=some (.cells (ez p {s with last:=s.last+1} {d with po:=some c}) 139))(L:IM w' c (d.l++ [(s.last+1,m)])):bD p {s with last:=s.last+1,ps:=s.ps++ [(s.last+1,nm,cs,[])]} {d with ow:=Ph d M c (s.last+1),po:=some c,l:=d.l++ [(s.last+1,m)]} w':=by
 obtain⟨y,J,z,X,Y,Z⟩:=e.keys;have i:∀b,d.ow b≠0->Ph d M c (s.last+1) b=d.ow b:=λb h=>by
  unfold Ph;rw[if_neg λa=>h (A b a)];by_cases g:b=c
  ·subst g;rw[if_pos rfl,P h]
  ·rw[if_neg g]
 have r:∀b,Ph d M c (s.last+1) b≠0->p.lo<=b/\b<w'.heap.size:=λb h=>by
  unfold Ph at h;split at h
  ·rename_i a;have:=P1.lie2 B b a;exact⟨this.1,aY this.2 f.size⟩
  ·split at h
   ·rename_i a;subst a;exact O
   ·exact⟨(e.low b h).1,aY (e.low b h).2 f.size⟩
 have t:∀{t:Int},t≠ -5->∀b,d.ow b=t->¬d.ow b=-5:=λT b g a=>T (g.symm.trans a);have n:∀q∈s.ps,q.1≠s.last+1:=λq j=>by have:=(z q j).2;omega
 have R:∀q∈d.l,q.1≠s.last+1:=λq j=>by
  have K:q.1∈s.ps.map (·.1):=by rw[<-y];exact b9.2 ⟨q,j,rfl⟩
  obtain⟨v,u,g⟩:=b9.1 K;rw[<-g];exact n v u
 obtain⟨y1,y2,W⟩:=e.wyK f (t (by decide)) i (q:=Bf p {s with last:=s.last+1} {d with po:=some c}) rfl (rB o).1;obtain⟨H,I⟩:=e.evK f (t (by decide)) i;refine⟨r,o,(i p.b (by rw[e.own];decide)).trans e.own,⟨e.pgK f (t (by decide)) i,e.pg.2⟩,am ⟨c,rfl,(if_neg N).trans (if_pos rfl),Q,L⟩,⟨by simp[y],?_,λq j=>?_,by show 0<=s.last+1;omega,by show s.last+1<=90;omega,by simp;omega⟩,λk b q=>?_,⟨y1,y2,e.wy.2.2.1,e.wy.2.2.2.1,W⟩,e.bdK f (t (by decide)) i rfl (rB o).2,H,e.evt.1,I⟩
 ·simp only[ft,bz,dz];refine fK.2 ⟨J,by simp,λab U ad V=>?_⟩;obtain⟨v,u,rfl⟩:=b9.1 U;rw[dN.1 V];exact n v u
 ·show 1<=q.1/\q.1<=s.last+1;rcases dt.1 j with a|a
  ·have:=z q a;omega
  ·rw[dN.1 a];show 1<=s.last+1/\s.last+1<=s.last+1;omega
 ·have q:dn (d.l++ [(s.last+1,m)]) k=some b:=q;unfold dn at q;rw[pK _ _ _ _ R]at q;by_cases g:k=s.last+1
  ·subst g;rw[if_pos rfl]at q;obtain rfl:m=b:=by simpa using q
   refine⟨nm,cs,[],?_,(B.kept (S:=λq=>d.ow q=-5) ⟨f.os,f.tape,f.output,f.size,f.block⟩ λb a=>by rw[A b a];decide).mono (λb a=>if_pos a) (ay _) λb a=>r b (by have a:Ph d M c (s.last+1) b=s.last+1:=a;rw[a];omega),aK _⟩;unfold Sy.get;simp only;rw[pK _ _ _ _ n,if_pos rfl];rfl
  ·rw[if_neg g]at q;have C:dn d.l k=some b:=q;have:=(e.key C).1;obtain⟨D,E,F,x,G⟩:=e.psK f (ay _) (t (by omega)) i r C;refine⟨D,E,F,?_,G⟩;unfold Sy.get at x ⊢;simp only;rw[pK _ _ _ _ n,if_neg g];exact x
open Classical in
theorem bD.add(n:bD p s d w)(a:Int){y:Nat}{nm:aq}{cs:Tc}{M:aU}(H:P1 p.lo y nm p.room cs [] (d.k+201) M w)(V:∀q,M q->d.ow q=0)(aS:s.ps.length<12/\s.last<90)(aa:d.k<=92000)(bc:d.es.length<=99000):au 86 #[aC p.b,ae a,aC y] w λe w'=>e=.returned (.tuple #[])/\Hid (∃B,bD p (s.add a nm cs) B w'/\OS M 1 d B w w'):=by
 obtain⟨aR,ag⟩:=n.lo;have L:=n.box;obtain⟨a7,a8,a9,ay⟩:=n.cells;obtain⟨_,_,aD,ba,bb,_⟩:=n.keys;have Z:∀{h:ah}{cs:Array ax}{o:Nat},h.heap[p.b]?=some (.cells cs 139)->h.frozen? ⟨p.b,o,none⟩=false:=λe=>by simp[World.frozen?,e]
 obtain⟨c,m,aV,I,aE,aL,N,aG,O,af⟩:∃c m,((d.po=none/\c=w.heap.size/\m=(w.setCell ⟨p.b,3,none⟩ (.map (some c))).alloc (.map #[] 0))\/(d.po=some c/\m=w))/\m.heap[p.b]?=some (.cells (ez p s {d with po:=some c}) 139)/\IM m c d.l/\bG (λq=>d.ow q=-5) w m/\(c<w.heap.size->d.ow c=-5)/\¬M c/\c≠p.b/\p.lo<=c/\c<m.heap.size:=by
  rcases n.pm with⟨z,t⟩|⟨c,z,t,G,aB⟩
  ·have aJ:(w.setCell ⟨p.b,3,none⟩ (.map (some w.heap.size))).heap[p.b]?=some (.cells (ez p s {d with po:=some w.heap.size}) 139):=by
     simp[World.setCell,bQ,L,ez]
   have Q:(w.setCell ⟨p.b,3,none⟩ (.map (some w.heap.size))).heap.size=w.heap.size:=by simp[World.setCell]
   have aa:bG (λq=>d.ow q=-5) w ((w.setCell ⟨p.b,3,none⟩ (.map (some w.heap.size))).alloc (.map #[] 0)):=((bM w p.b 3 _).mono λq _ e=>by rw[e];exact n.own).trans (aM (aT _ _) λ_=>False) λ_ _ e=>e.elim;refine⟨w.heap.size,_,ak ⟨z,rfl,rfl⟩,(heap_alloc_old _ _ (by rw[Q];exact ag)).trans aJ,?_,aa,λg=>by omega,λg=>?_,by omega,aR,?_⟩
   ·rw[t];have:=xx.new (f:=Bc) (w.setCell ⟨p.b,3,none⟩ (.map (some w.heap.size)));rw[Q]at this;exact this
   ·have:=(P1.lie2 H _ g).2;omega
   ·have:=aI (w.setCell ⟨p.b,3,none⟩ (.map (some w.heap.size))) (.map #[] 0);rw[Q]at this;exact(aN.1 this).1
  ·refine⟨c,w,am ⟨z,rfl⟩,?_,aB,bG.refl _ _,λ_=>t,λg=>?_,G,n.low c (by rw[t];decide)⟩
   ·rw[L];unfold ez;rw[z]
   ·have:=V c g;rw[t]at this;cases this
 obtain⟨x,E⟩:∃x,x=m.setCell ⟨p.b,2,none⟩ (ae (s.last+1)):=⟨_,rfl⟩;have J:x.heap[p.b]?=some (.cells (ez p {s with last:=s.last+1} {d with po:=some c}) 139):=by
  rw[E];simp[World.setCell,bQ,I,ez]
 have bf:x.heap.size=m.heap.size:=by rw[E];simp[World.setCell]
 have ab:bG (λq=>q=p.b) m x:=by rw[E];exact bM m p.b 2 _
 have aO:bG (λq=>d.ow q=-5) w x:=aL.trans ab λq _ e=>by rw[e];exact n.own
 have aF:IM x c d.l:=aE.kept (ab.block c af.2 O);obtain⟨A,D⟩:∃A:Sy,A={s with last:=s.last+1,ps:=s.ps++ [(s.last+1,nm,cs,[])]}:=⟨_,rfl⟩;obtain⟨d3,u⟩:∃d3:gW,d3={d with ow:=Ph d M c (s.last+1),po:=some c,l:=d.l++ [(s.last+1,y)]}:=⟨_,rfl⟩;have P:dn d.l (s.last+1)=none:=by
  cases e:dn d.l (s.last+1)with
  | none=>rfl
  | some b=>have:=(n.key e).2;omega
 have aK:dn d3.l (s.last+1)=some y:=by
  rw[u];show dn (d.l++ [(s.last+1,y)]) (s.last+1)=_;unfold dn at P ⊢;rw[List.find?_append,Option.map_eq_none_iff.1 P];simp
 have aQ:A.last=s.last+1:=by rw[D]
 refine Je p.b y c d.po a s.last (s.last+1) w m x (λy0 y1 y2 ya yl yc h=>∃i:Tc,(i.1=(y0,y1,y2)/\i.2.1=(ya,yc)/\i.2.2.length=yl)/\In h.heap.size h 13 i/\bJ 13 i=0/\cn 13 i=cs/\bD p A d3 h/\bG (λq=>d.ow q=-5) w h) (λh=>bD p A d3 h/\bG (λq=>d.ow q=-5) w h) (λw'=>∃B,bD p (s.add a nm cs) B w'/\OS M 1 d B w w') (by rw[IntKind.wrap];simp[IntKind.bits,IntKind.signed];omega) ag ⟨ay,Z L⟩ aV ⟨aj I 2,Z I⟩ E (λh j=>?_) (λh j=>?_) (λh aw C j=>?_) (λh aw C j=>?_) (λy0 y1 y2 ya yl yc h aH=>?_)
 ·have X:=fi j J;exact⟨aj X 2,aj X 3⟩
 ·obtain⟨S,a1,a2,an,bh⟩:=(xx.put (aF.kept (j.block c (by omega))) underlying131 P y);have K:S.heap[p.b]?=_:=(an.block p.b (aY (aN.1 J).1 j.size) O.symm).trans (fi j J);have ad:bG (λq=>d.ow q=-5) w S:=by
   have aP:bG (λq=>d.ow q=-5) w h:=aO.trans (aM j λ_=>False) λ_ _ e=>e.elim;exact aP.trans an λq r e=>by rw[e]at r ⊢;exact N r
  refine⟨S,a1,⟨aj K 2,aj K 3⟩,?_,ad⟩;rw[D,u];exact n.addG H V aS ad (λg=>N (n.low _ g).2) aG ⟨af.1,by have:=j.size;omega⟩ O K a2
 ·have:=(C.1.later j).cells.2.2.1;rw[aQ]at this;exact this
 ·have W:=C.1.later j;obtain⟨a0,aA,az,v,R,bg⟩:=W.ps _ _ aK;have e:A.get (s.last+1)=some (nm,cs,[]):=by
   rw[D];unfold Sy.get;simp only;rw[pK _ _ _ _ λq r=>by have:=(aD q r).2;omega,if_pos rfl];rfl
  rw[e]at v;obtain⟨rfl,rfl,rfl⟩:nm=a0/\cs=aA/\[]=az:=by
   injection v with v;injection v with z t;injection t with t G;exact⟨z,t,G⟩
  have be:d3.k=d.k:=by rw[u]
  refine(R.state (by omega)).mono ?_;rintro e w' ⟨i,rfl,F⟩;obtain⟨y1,y2,bi,a5,a6⟩:=F.out;exact⟨i.1.1,i.1.2.1,i.1.2.2,i.2.1.1,i.2.2.length,i.2.1.2,rfl,y1,i,⟨rfl,rfl,rfl⟩,y2,a5,a6,W.later y1,(C.2.trans (aM j λ_=>False) λ_ _ e=>e.elim).trans (aM y1 λ_=>False) λ_ _ e=>e.elim⟩
 ·obtain⟨i,⟨f1,f2,f3⟩,aW,aX,aZ,ai,al⟩:=aH;obtain⟨⟨bj,bk,bl⟩,⟨bm,bn⟩,bo⟩:=i;simp only[gQ]at f1 f2;obtain⟨rfl,rfl,rfl⟩:=f1;obtain⟨rfl,rfl⟩:=f2;subst f3;have Y:d3.es=d.es:=by rw[u]
  refine(ai.tell Al a (s.last+1) _ _ _ _ _ _ _ (ld aW aX) (by rw[Y];omega)).mono ?_;rintro e w' ⟨rfl,F⟩;obtain⟨d4,v,R⟩:=F.up ai;rw[aZ,D]at v;refine⟨rfl,⟨d4,v,?_⟩,?_⟩
  ·obtain⟨a3,ao,a4,ap,ar,av⟩:=R;have T:∀q,q<w.heap.size->¬M q->d3.ow q=d.ow q:=λq r g=>by
    rw[u];refine(if_neg g).trans ?_;by_cases e:q=c
    ·rw[if_pos e,e];exact(N (e▸r)).symm
    ·exact if_neg e
   have U:∀q,M q->d3.ow q=s.last+1:=λq g=>by
    rw[u];exact if_pos g
   have bd:=al.size;refine⟨(al.mono λq _ e=>by rw[e];decide).trans a3 λq r e=>?_,λq r g=>(ao q (by omega)).trans (T q r g),λq g=>?_,by rw[a4,u],by rw[Y]at ap;exact ap,by rw[u]at ar;exact ar,by rw[u]at av;exact av⟩
   ·by_cases g:M q
    ·rw[U q g]at e;omega
    ·rw[T q r g]at e;exact e
   ·have:=(P1.lie2 H q g).2;rw[ao q (by omega),U q g];omega
  ·have:=v.cells.2.2.1;exact this
end
theorem Fz(c:Nat)(nm:aq)(f g:Int)(h:aq)(xa:aw)(i xc:Nat)(room ne t:Int)(may o:Bool)(w:ah)(C:Nat->bE)(R:Int->Int->bE)(ak:c<w.heap.size)(T:Hid (ai w c 1 (ae room)))(J:Hid (∀W,ap w W->au 83 #[aC c,ae 1] W λe w'=>e=.returned (.bool may)/\w'=W))(z:Hid (∀W,ap w W->au 84 #[aC c,ag nm] W λe w'=>e=.returned (.bool o)/\ap W w'))(r:Hid (∀W,ap w W->au 85 #[ag nm,.agg #[ae f,ae g,ag h,af xa i xc],ae room] W λe w'=>∃p:aw,e=.returned (.tuple #[.pointer p,ae ne])/\Hid (ap W w'/\(ne=0->∃b,p=some ⟨b,0,none⟩/\C b w'))))(l:Hid (∀b W,(may && o)=true->ne=0->C b W->au 86 #[aC c,ae 0,aC b] W λe w'=>e=.returned (.tuple #[])/\Hid (R t 0 w'/\ai w' c 2 (ae t))))(j:Hid (∀W,ap w W->(may=false->R 0 2 W)/\((may && !o)=true->R 0 4 W)/\((may && o)=true->ne≠0->R 0 ne W))):au 56 #[aC c,ag nm,.agg #[ae f,ae g,ag h,af xa i xc]] w λe w'=>∃v Q,e=.returned (.tuple #[ae v,ae Q])/\Hid (R v Q w'):=by
 go_enter func56,ntmps56;go_upto_region 1 with fail;generalize O:w.alloc _=G;have u:Hid (ap w G/\G.heap[w.heap.size]?=some (.cells #[ae f,ae g,ag h,af xa i xc] 54)):=by
  rw[<-O];exact⟨aT _ _,aI _ _⟩
 clear O;obtain⟨a,E⟩:∃a,a=w.heap.size:=⟨_,rfl⟩;rw[<-E];have K:Hid (G.heap[a]?=some (.cells #[ae f,ae g,ag h,af xa i xc] 54)):=by rw[E];exact u.2
 have HB:=av u.1;clear E u;go_wp2_with fail;refine(J _ HB).mono ?_;rintro e ao ⟨rfl,P⟩;obtain rfl:=P.symm;clear P J;cases may
 ·have d:=av ((j _ HB).1 rfl);clear l j r z;go_wp2_with fail;exact aB (v:=.tuple #[ae 0,ae 2]) (by simp[results,results56,go_sem]) rfl ⟨0,2,rfl,d⟩
 go_wp2_with fail;refine(z _ HB).mono ?_;rintro e H ⟨rfl,D⟩;have m:=av (HB.trans (D.mono HB.size));have A:=av (fi D K);clear z K HB D;cases o
 ·have d:=av ((j _ m).2.1 rfl);clear l j r;go_wp2_with fail;exact aB (v:=.tuple #[ae 0,ae 4]) (by simp[results,results56,go_sem]) rfl ⟨0,4,rfl,d⟩
 have y:Hid (ap H H.drew):=(aE _ _).drew;have n:=av (m.trans (y.mono m.size));have B:=av (fi y A);have q:Hid (∀W:ah,ap w W->W.heap[a]?=some (.cells #[ae f,ae g,ag h,af xa i xc] 54)->ai W c 1 (ae room)/\ai W a 0 (ae f)/\ai W a 1 (ae g)/\ai W a 2 (ag h)/\ai W a 3 (af xa i xc)):=λW ad s=>⟨(ad.cell (p:=⟨c,1,none⟩) ak).trans T,aj s 0,aj s 1,aj s 2,aj s 3⟩;obtain⟨Z,V,X,N,Y⟩:=q.out H m A;go_upto_region 5 with fail
 go_region_held3 (λW=>W.cell? ⟨c,1,none⟩=some (ae room)/\W.cell? ⟨a,0,none⟩=some (ae f)/\W.cell? ⟨a,1,none⟩=some (ae g)/\W.cell? ⟨a,2,none⟩=some (ag h)/\W.cell? ⟨a,3,none⟩=some (af xa i xc))
  (first|exact q _ n B|exact q _ x L) ((first
   | (go_at_call 85;refine(r _ n).mono ?_;rintro e am ⟨al,rfl,k⟩;have L:=av (fi k.1 B);have x:=av (n.trans (k.1.mono n.size)))))
 have d:=av (j _ x);clear Z V X N Y q B n y A m j r L x;by_cases F:ne=0
 ·subst F;obtain⟨b,rfl,M⟩:∃b,al=some ⟨b,0,none⟩/\Hid (C b am):=by
   obtain⟨b,aa,ab⟩:=k.out.2 rfl;exact⟨b,aa,ab⟩
  have S:=av (l _ _ rfl rfl M);clear l M k d;go_wp2_with fail;refine S.mono ?_;rintro e ar ⟨rfl,I⟩;have N:=I.2;go_wp2_with fail;exact aB (v:=.tuple #[ae t,ae 0]) (by simp[results,results56,go_sem]) rfl ⟨t,0,rfl,I.1⟩
 ·have U:=av (d.2.2 rfl F);have an:(ne==0)=false:=by simpa using F
  clear l k d;go_wp2_with fail;exact aB (v:=.tuple #[ae 0,ae ne]) (by simp[results,results56,go_sem]) rfl ⟨0,ne,rfl,U⟩
section
variable {p:mL} {s:Sy} {d:gW} {w:ah}
theorem Ll{n:Nat}(a:s.may n=true):s.ps.length+n<=12/\s.last+n<=90:=by
 unfold Sy.may at a;simp only[aO,cT]at a;omega
theorem bD.start(j:bD p s d w)(nm:aq)(O:nm.size<=9223372036854775807){m:Nat}(x:Tm (m+1))(P:In w.heap.size w (m+1) x)(K:(aF (m+1) x).length<=2097152)(M:d.k<=92000)(J:d.es.length<=99000):au 56 #[aC p.b,ag nm,dE (m+1) x] w λe w'=>∃v r,e=.returned (.tuple #[ae v,ae r])/\Hid ((r=(s.start p.n p.prog p.room nm (m+1) x).2/\(r=0->v=s.last+1))/\∃i,bD p (s.start p.n p.prog p.room nm (m+1) x).1 i w'/\gD 1 0 d i w w'):=by
 obtain⟨q,f⟩:∃q,q=s.start p.n p.prog p.room nm (m+1) x:=⟨_,rfl⟩;rw[<-f];unfold Sy.start at f;have B:∀a,ap w a->q.1=s->∃i,bD p q.1 i a/\gD 1 0 d i w a:=λa c e=>⟨d,by rw[e];exact j.later c,(ew.later d c).un.mono (aK _) (ay _)⟩;refine Fz p.b nm x.1.1 x.1.2.1 x.1.2.2 x.2.1.1 x.2.2.length x.2.1.2 p.room (fu (m+1) x p.room nm) (s.last+1) (s.may 1) (lV p.n p.prog nm) w (λy a=>∃u,ap w u/\ap u a/\P1 p.lo y nm p.room (cn (m+1) x) [] (d.k+201) (λb=>u.heap.size<=b/\b<a.heap.size) a) (λv r w'=>(r=q.2/\(r=0->v=s.last+1))/\∃i,bD p q.1 i w'/\gD 1 0 d i w w') j.lo.2 j.cells.2.1 (λa c=>(j.later c).mayHave 1 (by decide)) (λa c=>(j.later c).knows nm) (λa c=>?_) (λy a l t L=>?_) λa c=>⟨λe=>?_,λe=>?_,λe t=>?_⟩
 ·refine(P1.new m x p.room nm a O ((P.below c).mono c.size) K).mono ?_;rintro e w' ⟨g,rfl,z⟩;obtain⟨o,E,C⟩:=z.out;refine⟨g,rfl,o,λe=>?_⟩;obtain⟨y,l,t,V,G⟩:=C e;have:=j.lo.1;have:=c.size;exact⟨y,l,a,c,o,G.mono (λb h=>h) (by omega) λb h=>⟨by omega,h.2⟩⟩
 ·simp only[aO]at l;rw[if_neg (by rw[l.1];decide),if_neg (by rw[l.2];decide),if_neg (by rw[t];decide)]at f;obtain⟨u,o,E,C⟩:=L;have A:=o.trans (E.mono o.size);have I:=j.later A;have Z:=o.size;have W:=Ll l.1;refine(I.add 0 C (λg h=>?_) (by omega) M J).mono ?_
  ·have:=j.low g;by_cases F:d.ow g=0
   ·exact F
   ·have:=(this F).2;omega
  ·rintro e w' ⟨rfl,z⟩;obtain⟨i,D,H⟩:=z;refine⟨rfl,⟨⟨by rw[f],λ_=>rfl⟩,i,by rw[f];exact D,?_⟩,D.cells.2.2.1⟩;obtain⟨Q,R,aa,S,U⟩:=H;have N:bG (λg=>d.ow g≠0) w a:=aM A _;have Y:=A.size;exact⟨N.trans (Q.mono (T:=λg=>d.ow g≠0) λg _ e=>by omega) λg _ e=>e,λg X=>R g (by omega) λh=>by omega,cQ S,U⟩
 ·rw[if_pos e]at f;exact⟨⟨by rw[f],(λh=>by cases h)⟩,B a c (by rw[f])⟩
 ·simp only[aO,p7]at e;rw[if_neg (by rw[e.1];decide),if_pos e.2]at f;exact⟨⟨by rw[f],(λh=>by cases h)⟩,B a c (by rw[f])⟩
 ·simp only[aO]at e;rw[if_neg (by rw[e.1];decide),if_neg (by rw[e.2];decide),if_pos t]at f;exact⟨⟨by rw[f],λh=>absurd h t⟩,B a c (by rw[f])⟩
end
theorem Pc:(Tryz.prog.info? 141).map (λi=>(i.zero,i.size,i.bytes))=some (some (.pointer none),1,8):=by kernel_rfl
theorem IB(m:Nat)(pa:aw)(pl pc:Nat)(may:Bool)(room:Int)(w:ah)(ay u x:Nat->Int)(nm y:Nat->aq)(xa:Nat->aw)(z xc:Nat->Nat)(l:Nat->Bool)(ne:Nat->Int)(r:Nat->List Nat->ax->bE)(N:Nat->Nat->List Nat->ax->bE)(R:ax->Bool->bE)(bK:pl<=1000)(bD:m<w.heap.size)(aV:Hid (ai w m 1 (ae room)))(V:Hid (∀j,j<pl->∃g,pa=some ⟨g,0,none⟩/\g<w.heap.size/\Hid (ai w g (j*6) (ae (ay j))/\ai w g (j*6+1) (ag (nm j))/\ai w g (j*6+2) (ae (u j))/\ai w g (j*6+3) (ae (x j))/\ai w g (j*6+4) (ag (y j))/\ai w g (j*6+5) (af (xa j) (z j) (xc j)))))(aY:Hid (au 83 #[aC m,ae pl] w λe w'=>e=.returned (.bool may)/\w'=w))(Y:Hid (∀j W,j<pl->ap w W->au 84 #[aC m,ag (nm j)] W λe w'=>e=.returned (.bool (l j))/\ap W w'))(Z:Hid (∀j d v W,j<pl->l j=true->ap w W->r j d v W->au 85 #[ag (nm j),.agg #[ae (u j),ae (x j),ag (y j),af (xa j) (z j) (xc j)],ae room] W λe w'=>∃p:aw,e=.returned (.tuple #[.pointer p,ae (ne j)])/\Hid (ap W w'/\(ne j=0->∃k,p=some ⟨k,0,none⟩/\N j k d v w'))))(al:Hid (r 0 [] (af none 0 0) w))(q:Hid (∀j d v W D,r j d v W->ap W D->r j d v D))(M:Hid (∀j k d a c g br W aL D,j<pl->N j k d (af a j c) W->ap W aL->aL.grownBy D (Value.slice a j c).ownBlock->((Value.slice a j c).ownBlock=some g\/g=aL.heap.size)->g<D.heap.size->r (j+1) (d++ [k]) (af (some ⟨g,0,none⟩) (j+1) br) D))(K:Hid (∀W,ap w W->(may=false\/∃j,j<pl/\(l j=false\/ne j≠0))->R (af none 0 0) false W))(ab:Hid (∀W d a c,ap w W->may=true->(∀j,j<pl->l j=true/\ne j=0)->d.length=pl->W.ownsRow w.heap.size 141 1 (af a pl c) pl (d.map Bc)->r pl d (af a pl c) W->R (af a pl c) true W)):au 126 #[aC m,af pa pl pc] w λe w'=>∃v b,e=.returned (.tuple #[v,.bool b])/\Hid (R v b w'):=by
 obtain⟨bF,hit,bf,bg,bh⟩:=bR Pc;have X:=av (⟨hit,bf,bg,bh⟩:_/\_/\_/\_);clear hit bf bg bh;go_enter func126,ntmps126;go_wp2_with fail;refine aY.mono ?_;rintro e bO ⟨rfl,bi⟩;obtain rfl:=bi.symm;clear bi aY;cases may
 ·have n:=av (K _ (aE _ _) (ak rfl));clear K ab M al q Z Y V;go_wp2_with fail;exact aB (v:=.tuple #[af none 0 0,.bool false]) (by simp[results,results126,go_sem]) rfl ⟨_,_,rfl,n⟩
 go_wp2_with fail;go_loopw [6,18] (λo i wr=>∃(j:Nat)(a:aw)(c:Nat),j<=pl/\i=ae j/\o=af a j c/\Hid (∃d,d.length=j/\wr.ownsRow w.heap.size 141 1 (af a j c) j (d.map Bc)/\r j d (af a j c) wr/\ap w wr/\∀i,i<j->l i=true/\ne i=0)) (λ_ i _=>pl-(intOf i).toNat)
 case atStart=>exact⟨0,none,0,aK _,rfl,rfl,[],rfl,eV _ _ _ _,al,aE _ _,λi h=>by omega⟩
 case round=>
 obtain⟨j,a,c,bJ,rfl,rfl,aa⟩:=hrel;by_cases Q:j<pl
 ·obtain⟨g,rfl,bC,aW⟩:=V.out j Q;obtain⟨d,P,S,U,E,T⟩:=aa.out;have a3:=av S;have a7:=av U;have HB:=av E;have a2:=av T;have bA:=av P;have s:∀{f:Nat}{v:ax},ai w g f v->ai wr g f v:=λ{f v} h=>(E.cell (p:=⟨g,f,none⟩) bC).trans h;obtain⟨a8,ao,ar,a9,ba,bb⟩:=aW.out;have f0:=s a8;have f1:=s ao;have f2:=s ar;have f3:=s a9;have f4:=s ba;have f5:=s bb;have bM:(0:Int)<=(j:Int):=by omega
  have bN:(j:Int)<(pl:Int):=by omega
  clear s a8 ao ar a9 ba bb aW V S U E T P aa;go_upto_region 7 with fail;generalize bj:wr.alloc _=az;have F:Hid (ap wr az/\az.heap[wr.heap.size]?=some (.cells #[ae (ay j),ag (nm j),ae (u j),ae (x j),ag (y j),af (xa j) (z j) (xc j)] 247)):=by
   rw[<-bj];exact⟨aT _ _,aI _ _⟩
  clear bj f0 f1 f2 f3 f4 f5;obtain⟨f,aQ⟩:∃f,f=wr.heap.size:=⟨_,rfl⟩;rw[<-aQ];have aG:Hid (az.heap[f]?=some (.cells #[ae (ay j),ag (nm j),ae (u j),ae (x j),ag (y j),af (xa j) (z j) (xc j)] 247)):=by rw[aQ];exact F.2
  have G:=av (HB.trans (F.1.mono HB.size));have a5:=av (q _ _ _ _ _ a7 F.1);have aZ:=av (bB a3 (aM F.1 λ_=>False) λ_ _ h=>h);clear aQ F a3 a7 HB;have C:Hid (∀W:ah,ap w W->W.heap[f]?=some (.cells #[ae (ay j),ag (nm j),ae (u j),ae (x j),ag (y j),af (xa j) (z j) (xc j)] 247)->ai W m 1 (ae room)/\ai W f 1 (ag (nm j))/\ai W f 2 (ae (u j))/\ai W f 3 (ae (x j))/\ai W f 4 (ag (y j))/\ai W f 5 (af (xa j) (z j) (xc j))):=λW aO h=>⟨(aO.cell (p:=⟨m,1,none⟩) bD).trans aV,aj h 1,aj h 2,aj h 3,aj h 4,aj h 5⟩;have aN:=(C az G aG).2.1;have aX:=av (λW=>Y j W Q);have aA:=av (λd v W=>Z j d v W Q);have L:=av (λW aO e=>K W aO (am ⟨j,Q,e⟩));have aF:Hid (l j=true->ne j=0->∀i,i<j+1->l i=true/\ne i=0):=λbx bz i bI=>by
   by_cases e:i=j
   ·subst e;exact⟨bx,bz⟩
   ·exact a2 i (by omega)
  clear Y Z K ab aV a2 al;generalize l j=bG at*;generalize ne j=bk at*;go_wp2_with fail;refine(aX _ G).mono ?_;rintro e aS ⟨rfl,O⟩;have B:=av (G.trans (O.mono G.size));have ad:=av (fi O aG);have aJ:=av (q _ _ _ _ _ a5 O);have aD:=av (bB aZ (aM O λ_=>False) λ_ _ h=>h);clear aX G aG a5 aZ O aN;cases bG
  ·have n:=av (L _ B (ak rfl));clear L aA C aJ aD ad B M q aF;go_wp2_with fail;exact aB (v:=.tuple #[af none 0 0,.bool false]) (by simp[results,results126,go_sem]) rfl ⟨_,_,rfl,n⟩
  have J:Hid (ap aS aS.drew):=(aE _ _).drew;have I:=av (B.trans (J.mono B.size));have aH:=av (fi J ad);have a6:=av (q _ _ _ _ _ aJ J);have a1:=av (bB aD (aM J λ_=>False) λ_ _ h=>h);obtain⟨bv,aN,bs,bt,bu,an⟩:=C.out aS B ad;clear aD aJ;go_upto_region 9 with fail
  go_region_held3 (λW=>W.cell? ⟨m,1,none⟩=some (ae room)/\W.cell? ⟨f,1,none⟩=some (ag (nm j))/\W.cell? ⟨f,2,none⟩=some (ae (u j))/\W.cell? ⟨f,3,none⟩=some (ae (x j))/\W.cell? ⟨f,4,none⟩=some (ag (y j))/\W.cell? ⟨f,5,none⟩=some (af (xa j) (z j) (xc j)))
   (first|exact C _ I aH|exact C _ H a4) ((first
    | (go_at_call 85;refine(aA _ _ _ (by first|rfl|trivial) I a6).mono ?_;rintro e aU ⟨bH,rfl,A⟩;have a4:=av (fi A.1 aH);have H:=av (I.trans (A.1.mono I.size));have a0:=av (bB a1 (aM A.1 λ_=>False) λ_ _ h=>h))))
  clear bv aN bs bt bu an C aH I J ad B aA a4 a6 a1;by_cases aR:bk=0
  ·subst aR;obtain⟨k,rfl,bp⟩:∃k,bH=some ⟨k,0,none⟩/\Hid (N j k d (af a j c) aU):=by
    obtain⟨k,ao,ar⟩:=A.out.2 rfl;exact⟨k,ao,ar⟩
   have bo:=av H.size;clear L A
   go_wp2_with (first
    | (at_builtin;refine wpList_append_lies _ rfl _ _ 203 rfl w.heap.size 141 bF _ 1 8 underlying203 X.1 X.2.1 X.2.2.1 X.2.2.2 rfl (by decide) (af a j c) j (d.map Bc) rfl (a0.alloc _) ⟨aU.heap.size,0,none⟩ 1 1 [aC k] rfl rfl (World.news_of_block (cs:= #[aC k]) (t:=141) (fr:=(0,0)) (aI aU _)) (by simp[Value.oneCell']) (by decide) (by unfold maxLen;omega) (by omega) (by have:=bo.out;simp;omega) _ rfl ?_;intro bw an bP be aP bc bd;have bn:=av be;have bq:=av (M _ _ _ _ _ _ an _ _ _ Q bp (aT _ _) aP bc bd);have bl:=av (H.trans (kN a0 aP H.size));clear be aP bc bd))
   go_roundw
   case rel=>exact⟨j+1,some ⟨bw,0,none⟩,an,by omega,by go_num,rfl,d++ [k],by rw[bm,bA.out];rfl,by rw[ft];exact bn,bq,bl,aF trivial rfl⟩
   case measure=>simp[intOf];omega
  ·have n:=av (L _ H (am aR));have bL:(bk==0)=false:=by simpa using aR
   clear L A M q aF;go_wp2_with fail;exact aB (v:=.tuple #[af none 0 0,.bool false]) (by simp[results,results126,go_sem]) rfl ⟨_,_,rfl,n⟩
 ·obtain rfl:j=pl:=by omega
  obtain⟨d,P,S,U,E,T⟩:=aa.out;have n:=av (ab _ d _ _ E trivial T P S U);clear K ab M al q Z Y V aa P S U E T;go_wp2_with fail;exact aB (v:=.tuple #[af a j c,.bool true]) (by simp[results,results126,go_sem]) rfl ⟨_,_,rfl,n⟩
theorem wO{d:Type}(f:d->List ax)(k:Nat)(c:∀a,(f a).length=k):(l:List d)->(i:Nat)->(a:d)->l[i]?=some a->∀(t:Nat)(b:ax),(f a)[t]?=some b->(l.flatMap f)[i*k+t]?=some b
 | [],i,a,h,_,_,_=>by simp at h
 | x::l,0,a,h,t,b,hu=>by
  simp at h;subst h;rw[bK,dM (by have:=(aZ.1 hu).1;omega)];simpa using hu
 | x::l,i+1,a,h,t,b,hu=>by
  rw[bK,fp (by rw[c,Nat.succ_mul];omega),c,show (i+1)*k+t-k=i*k+t by rw[Nat.succ_mul];omega];exact wO f k c l i a (by simpa using h) t b hu
theorem sD{e:TypeId}{v:ax}{q:Type}{f:q->List ax}{l:List q}(m:w.ownsRow base e k v n (l.flatMap f))(A:0<k)(o:∀d,(f d).length=k):∃a c,v=af a n c/\(∀b,a=some b->v.ownBlock=some b.block)/\∀(i:Nat)(d:q),l[i]?=some d->∃g,a=some ⟨g,0,none⟩/\g<w.heap.size/\∀(t:Nat)(j:ax),(f d)[t]?=some j->ai w g (i*k+t) j:=by
 have s:=m;rcases m.2 with⟨rfl,r⟩|⟨g,c,C,rfl,D,z,F⟩
 ·refine⟨none,0,by rw[r],(λb e=>by cases e),λi d p=>?_⟩;have u:=wO f k o l i d p 0 _ (aS (by rw[o];exact A));have E:=(aZ.1 u).1;have x:=m.1;rw[r,Nat.zero_mul]at x;omega
 ·refine⟨_,c,rfl,(λb e=>by cases e;rfl),λi d p=>⟨g,rfl,(aN.1 z).1,λt j B=>?_⟩⟩;have y:=World.ownsRow.cells s (g:=g) rfl _ _ (wO f k o l i d p t j B);rwa [show∀h,(⟨g,0,none⟩:Addr).add h=⟨g,h,none⟩from λh=>by cases h<;>simp[Addr.add]]at y
def mP(lo:Nat)(room:Int)(K:Nat)(e:aU)(B:Nat)(w:ah):List (Int×aq×Tc)->List Nat->Nat->Prop
 | [],[],c=>c<=B
 | x::l,b::bs,c=>∃a d,(c<=a/\a<=d)/\P1 lo b x.2.1 room x.2.2 [] K (λq=>a<=q/\q<d) w/\(∀q,a<=q->q<d->¬e q)/\mP lo room K e B w l bs d
 | _,_,_=>False
section
variable {lo K:Nat} {room:Int} {X:aU} {B:Nat} {w:ah}
theorem mP.le:{l:List (Int×aq×Tc)}->{a:List Nat}->{c:Nat}->mP lo room K X B w l a c->c<=B
 | [],[],_,h=>h
 | [],_::_,_,h=>h.elim
 | _::_,[],_,h=>h.elim
 | _::_,_::_,_,⟨c1,c2,h1,_,_,h4⟩=>by have:=h4.le;omega
theorem mP.kept2{w':ah}{S f:aU}{e c0:Nat}(a:bG S w w')(j:∀q,c0<=q->q<B->S q->X q)(k:∀q,q<B->f q->X q)(i:B<=e):{l:List (Int×aq×Tc)}->{g:List Nat}->{c:Nat}->c0<=c->mP lo room K X B w l g c->mP lo room K f e w' l g c
 | [],[],_,_,h=>aD h i
 | [],_::_,_,_,h=>h.elim
 | _::_,[],_,_,h=>h.elim
 | _::_,_::_,_,hc,⟨c1,c2,h1,h2,h3,h4⟩=>by
  have o:=h4.le;exact⟨c1,c2,h1,h2.kept (S:=S) ⟨a.os,a.tape,a.output,a.size,a.block⟩ λb q d=>h3 b q.1 q.2 (j b (by omega) (by omega) d),λq m n d=>h3 q m n (k q (by omega) d),h4.kept2 a j k i (by omega)⟩
theorem mP.kept{w':ah}{S b:aU}{a:Nat}(i:bG S w w')(g:∀q,q<B->S q->X q)(h:∀q,q<B->b q->X q)(f:B<=a){l:List (Int×aq×Tc)}{d:List Nat}{c:Nat}(e:mP lo room K X B w l d c):mP lo room K b a w' l d c:=e.kept2 (c0:=0) i (λq _=>g q) h f (aK _)
theorem mP.snoc{a B2 e b:Nat}{x:Int×aq×Tc}(g:B<=a)(d:a<=B2/\B2<=e)(i:P1 lo b x.2.1 room x.2.2 [] K (λq=>a<=q/\q<B2) w)(j:∀q,a<=q->q<B2->¬X q):{l:List (Int×aq×Tc)}->{f:List Nat}->{c:Nat}->mP lo room K X B w l f c->mP lo room K X e w (l++ [x]) (f++ [b]) c
 | [],[],_,h=>⟨a,B2,⟨aD h g,d.1⟩,i,j,d.2⟩
 | [],_::_,_,h=>h.elim
 | _::_,[],_,h=>h.elim
 | _::_,_::_,_,⟨c1,c2,h1,h2,h3,h4⟩=>⟨c1,c2,h1,h2,h3,h4.snoc g d i j⟩
end
section
variable {p:mL} {s:Sy} {d:gW} {w:ah}
theorem Nz{n:Nat}{x:Tm n}(room:Int)(nm:aq)(b:bJ n x=0):fu 13 (cn n x) room nm=fu n x room nm:=by
 have a:=eF b;unfold fu jl;rw[bN a,cF _ _ _ _ a,kV _ _ _ _ a]
theorem bD.made(z:bD p s d w){N ad:Nat}{pa:aw}{pl pc:Nat}{t:List (Int×aq×Tm (N+1))}(aD:w.ownsRow ad 247 6 (af pa pl pc) pl (t.flatMap λg=>Pv g.1 g.2.1 g.2.2))(ax:t.length=pl)(Y:pl<=1000)(aE:∀g∈t,bJ _ g.2.2=0/\In w.heap.size w _ g.2.2):au 126 #[aC p.b,af pa pl pc] w λe w'=>∃v b,e=.returned (.tuple #[v,.bool b])/\Hid (ap w w'/\b=s.made p.n p.prog p.room (t.map λg=>(g.1,g.2.1,cn _ g.2.2))/\(b=true->∃m a c,v=af a pl c/\m.length=pl/\w'.ownsRow w.heap.size 141 1 v pl (m.map Bc)/\mP p.lo p.room (d.k+201) (λq=>v.ownBlock=some q) w'.heap.size w' (t.map λg=>(g.1,g.2.1,cn _ g.2.2)) m w.heap.size)):=by
 have aA:lj (p.n+1) p.prog=true:=(gO z.pg.2.2.2.1).1;obtain⟨aQ,O,ae,_,an⟩:=sD aD (by decide) λg=>rfl;injection ae with ah el aT;subst ah;have F:∀f,f<pl->t[f]?=some (t.getD f (0,⟨#[]⟩,((0,0,⟨#[]⟩),(none,0),[]))):=λf i=>by
  rw[nH,aS (by omega)];rfl
 generalize T:(λf=>t.getD f (0,⟨#[]⟩,((0,0,⟨#[]⟩),(none,0),[])))=h;have F:∀f,f<pl->t[f]?=some (h f):=λf i=>by rw[F f i,<-T]
 clear T;obtain⟨o,J⟩:∃o,o=t.map λg=>(g.1,g.2.1,cn _ g.2.2):=⟨_,rfl⟩;rw[<-J];have U:o.length=pl:=by rw[J,cD,ax]
 have K:∀f,f<pl->o[f]?=some ((h f).1,(h f).2.1,cn _ (h f).2.2):=λf i=>by rw[J,df,F f i];rfl
 have W:∀f,f<pl->bJ _ (h f).2.2=0/\In w.heap.size w _ (h f).2.2:=λf i=>aE _ (aR (F f i));have X:∀f,f<pl->fu 13 (cn _ (h f).2.2) p.room (h f).2.1=fu _ (h f).2.2 p.room (h f).2.1:=λf i=>Nz _ _ (W f i).1;have aF:∀f,f<pl->o.take (f+1)=o.take f++ [((h f).1,(h f).2.1,cn _ (h f).2.2)]:=λf i=>by
  rw[dJ,K f i];rfl
 refine IB p.b pa pl pc (s.may pl) p.room w (λf=>(h f).1) (λf=>(h f).2.2.1.1) (λf=>(h f).2.2.1.2.1) (λf=>(h f).2.1) (λf=>(h f).2.2.1.2.2) (λf=>(h f).2.2.2.1.1) (λf=>(h f).2.2.2.2.length) (λf=>(h f).2.2.2.1.2) (λf=>lV p.n p.prog (h f).2.1) (λf=>fu _ (h f).2.2 p.room (h f).2.1) (λf m v j=>mP p.lo p.room (d.k+201) (λq=>v.ownBlock=some q) j.heap.size j (o.take f) m w.heap.size/\∀q,v.ownBlock=some q->q<j.heap.size)
  (λf G m v j=>∃x,(w.heap.size<=x/\x<=j.heap.size)/\(mP p.lo p.room (d.k+201) (λq=>v.ownBlock=some q) x j (o.take f) m w.heap.size)/\(∀q,v.ownBlock=some q->q<x)/\P1 p.lo G (h f).2.1 p.room (cn _ (h f).2.2) [] (d.k+201) (λq=>x<=q/\q<j.heap.size) j) (λv b w'=>ap w w'/\b=s.made p.n p.prog p.room o/\(b=true->∃m a c,v=af a pl c/\m.length=pl/\w'.ownsRow w.heap.size 141 1 v pl (m.map Bc)/\mP p.lo p.room (d.k+201) (λq=>v.ownBlock=some q) w'.heap.size w' o m w.heap.size)) Y z.lo.2 z.cells.2.1 (λf i=>?_) (z.mayHave pl Y) (λf j i l=>(z.later l).knows _) (λf m v j i r l E=>?_) ?_ (λf m v j H E l=>?_) (λf G m a c D O j ab H B al l A ao ar=>?_) (λj l u=>?_) λj m a c l ai Q aj ak R=>?_
 ·obtain⟨D,I,P,y⟩:=an f _ (F f i);exact⟨D,I,P,y 0 _ rfl,y 1 _ rfl,y 2 _ rfl,y 3 _ rfl,y 4 _ rfl,y 5 _ rfl⟩
 ·have aW:=EH aA r;obtain⟨aI,aJ⟩:=W f i;refine(P1.new _ (h f).2.2 p.room (h f).2.1 j (by omega) ((aJ.below l).mono l.size) (gG aI)).mono ?_;rintro e w' ⟨q,rfl,aa⟩;obtain⟨L,aX,aK⟩:=aa;refine⟨q,rfl,L,λe=>?_⟩;obtain⟨G,I,P,y,ag⟩:=aK e;have:=z.lo.1;have:=l.size;refine⟨G,I,j.heap.size,⟨l.size,L.size⟩,E.1.kept (aM L λ_=>False) (λ_ _ g=>g.elim) (λ_ _ g=>g) (ay _),E.2,ag.mono (λb g=>g) (by omega) λb g=>⟨by omega,g.2⟩⟩
 ·exact⟨ay _,(λq g=>by cases g)⟩
 ·exact⟨E.1.kept (aM l λ_=>False) (λ_ _ g=>g.elim) (λ_ _ g=>g) l.size,λq g=>aY (E.2 q g) l.size⟩
 ·obtain⟨x,⟨a0,a1⟩,aL,Z,aN⟩:=al;have av:bG (λq=>(Value.slice a f c).ownBlock=some q) ab H:=⟨A.os,A.tape,A.output,A.size,λk r az=>A.block k r λe=>az e.symm⟩;have r:bG (λq=>(Value.slice a f c).ownBlock=some q) j H:=(aM l _).trans av λ_ _ e=>e;have aU:=l.size;have aV:=A.size;have V:∀q,q<j.heap.size->(Value.slice (some ⟨D,0,none⟩) (f+1) O).ownBlock=some q->(Value.slice a f c).ownBlock=some q:=λq aB g=>by
   obtain rfl:D=q:=aG g;rcases ao with e|e
   ·exact e
   ·omega
  refine⟨?_,λq g=>?_⟩
  ·rw[aF f B];refine mP.snoc (ay x) (B2:=j.heap.size) (by omega) ?_ ?_ (aL.kept r (λq _ g=>g) (λq aB g=>V q (by omega) g) (ay _))
   ·exact aN.kept (S:=λq=>(Value.slice a f c).ownBlock=some q) ⟨r.os,r.tape,r.output,r.size,r.block⟩ λb g C=>by have:=Z b C;omega
   ·exact λq M C aP=>by have:=Z q (V q C aP);omega
  ·obtain rfl:D=q:=aG g;exact ar
 ·refine⟨l,?_,(λg=>by cases g)⟩;unfold Sy.made;rw[U];rcases u with u|⟨f,i,u⟩
  ·rw[u];rfl
  ·refine Eq.symm (Bool.and_eq_false_iff.2 (am ?_));rw[List.all_eq_false];refine⟨_,aR (K f i),?_⟩;simp only[aO,cR,not_and];intro M C;rw[X f i]at C;rcases u with u|u
   ·rw[u]at M;cases M
   ·exact u C
 ·refine⟨l,?_,λ_=>⟨m,a,c,rfl,aj,ak,?_⟩⟩
  ·unfold Sy.made;rw[U,ai,eS,eq_comm,cX];intro a2 aH;obtain⟨f,i⟩:=List.mem_iff_getElem?.1 aH;have B:f<pl:=by have:=(aZ.1 i).1;omega
   rw[K f B]at i;obtain rfl:=aG i;simp only[aO,cR];exact⟨(Q f B).1,(X f B).trans (Q f B).2⟩
  ·rw[bF (by omega)]at R;exact R.1
end
theorem AT(x:Nat)(a O P:Int)(Q:aq)(ma:aw)(T S:Nat)(f:Int)(sa:aw)(sl sc:Nat)(pa:aw)(pl pc:Nat)(ka:aw)(kl kc:Nat)(ao:aw)(vl aE:Nat)(aa:Nat->Nat)(C D E:Nat->Int)(F:Nat->aq)(xa:Nat->aw)(G xc:Nat->Nat)(an:Nat->Int)(w:ah)(k o p:Nat->Nat->bE)(R:bE)(aJ:vl<=1000)(aH:sl<=1000)(aG:kl<=1000)(X:Hid (∀q W,ap w W->w.heap.size<=q->W.heap[q]?=some (.cells #[ae O,ae P,ag Q,af ma T S,ae f,af sa sl sc,af pa pl pc,af ka kl kc] 200)->k q 0 W))(H:Hid (∀q W,k q vl W->o q 0 W))(y:Hid (∀q W,o q sl W->p q 0 W))(i:Hid (∀q j W,(k q j W\/o q j W\/p q j W)->W.heap[q]?=some (.cells #[ae O,ae P,ag Q,af ma T S,ae f,af sa sl sc,af pa pl pc,af ka kl kc] 200)))(I:Hid (∀q j W,j<vl->k q j W->(∃g,ao=some ⟨g,0,none⟩/\ai W g j (.pointer (some ⟨aa j,0,none⟩)))/\Hid (au 86 #[aC x,ae a,.pointer (some ⟨aa j,0,none⟩)] W λe w'=>e=.returned (.tuple #[])/\Hid (k q (j+1) w'))))(z:Hid (∀q j W,j<sl->o q j W->(∃g,sa=some ⟨g,0,none⟩/\ai W g (j*5) (ae (C j))/\ai W g (j*5+1) (ae (D j))/\ai W g (j*5+2) (ae (E j))/\ai W g (j*5+3) (ag (F j))/\ai W g (j*5+4) (af (xa j) (G j) (xc j)))/\Hid (∀Z,ap W Z->au 159 #[aC x,ae a,ae (C j),.agg #[ae (D j),ae (E j),ag (F j),af (xa j) (G j) (xc j)]] Z λe w'=>e=.returned (.tuple #[])/\Hid (o q (j+1) w'))))(t:Hid (∀q j W,j<kl->p q j W->(∃g,ka=some ⟨g,0,none⟩/\ai W g j (ae (an j)))/\Hid (au 160 #[aC x,ae a,ae (an j)] W λe w'=>e=.returned (.tuple #[])/\Hid (p q (j+1) w'))))(s:Hid (∀q W,p q kl W->(f=1->au 127 #[aC x,ae a,ae 1] W λe w'=>e=.returned (.tuple #[])/\Hid (R w'))/\(f≠1->R W))):au 128 #[aC x,ae a,.agg #[ae O,ae P,ag Q,af ma T S,ae f,af sa sl sc,af pa pl pc,af ka kl kc],af ao vl aE] w λe w'=>e=.returned (.tuple #[])/\Hid (R w'):=by
 go_enter func128,ntmps128;go_upto_region 1 with fail;generalize m:w.alloc _=ar;obtain⟨q,B⟩:∃q,q=w.heap.size:=⟨_,rfl⟩;rw[<-B];have V:Hid (k q 0 ar):=X q ar (by rw[<-m];exact aT _ _) (cQ B.symm) (by rw[<-m,B];exact aI _ _);clear m B X;go_wp2_with fail;go_loopw [9,16] (λ_ c wr=>∃(j:Nat),j<=vl/\c=ae j/\Hid (k q j wr)) (λ_ c _=>vl-(intOf c).toNat)
 case atStart=>exact⟨0,aK _,rfl,V⟩
 case round=>
 obtain⟨j,A,rfl,b⟩:=hrel;by_cases l:j<vl
 ·obtain⟨⟨g,rfl,M⟩,n⟩:=I.out q j wr l b;have ad:(0:Int)<=(j:Int):=by omega
  have al:(j:Int)<(vl:Int):=by omega
  clear H y i I z t s b;go_wp2_with fail;refine n.mono ?_;rintro e d ⟨rfl,h⟩;go_wp2_with fail;go_roundw
  case rel=>exact⟨j+1,by omega,by go_num,h⟩
  case measure=>simp[intOf];omega
 obtain rfl:j=vl:=by omega
 have K:=av (H _ _ b);clear b I H V A l;have aB:ai wr q 5 (af sa sl sc):=aj (i q 0 wr (am (ak K))) 5;go_wp2_with fail;clear aB;go_loopw [11,28] (λ_ c U=>∃(j:Nat),j<=sl/\c=ae j/\Hid (o q j U)) (λ_ c _=>sl-(intOf c).toNat)
 case atStart=>exact⟨0,aK _,rfl,K⟩
 case round=>
 clear K;obtain⟨j,A,rfl,b⟩:=hrel;by_cases l:j<sl
 ·obtain⟨⟨g,rfl,M,ay,az,aA,ab⟩,n⟩:=z.out q j _ l b;have ad:(0:Int)<=(j:Int):=by omega
  have al:(j:Int)<(sl:Int):=by omega
  clear y i z t s b;go_upto_region 9 with fail;generalize m:World.alloc _ _=d;have r:d.heap[wr.heap.size]?=some (.cells #[ae (C j),ae (D j),ae (E j),ag (F j),af (xa j) (G j) (xc j)] 250):=by
   rw[<-m];exact aI _ _
  have ax:=av (n d (by rw[<-m];exact aT _ _));generalize wr.heap.size=u at*;have d0:ai d u 0 (ae (C j)):=aj r 0;have d1:ai d u 1 (ae (D j)):=aj r 1;have d2:ai d u 2 (ae (E j)):=aj r 2;have d3:ai d u 3 (ag (F j)):=aj r 3;have d4:ai d u 4 (af (xa j) (G j) (xc j)):=aj r 4;clear m r n M ay az aA ab;go_wp2_with fail;refine ax.mono ?_;rintro e aL ⟨rfl,h⟩;go_wp2_with fail;go_roundw
  case rel=>exact⟨j+1,by omega,by go_num,h⟩
  case measure=>simp[intOf];omega
 obtain rfl:j=sl:=by omega
 have L:=av (y _ _ b);clear b z y A l;have aD:ai wr q 7 (af ka kl kc):=aj (i q 0 wr (am (am L))) 7;go_wp2_with fail;clear aD;go_loopw [13,43] (λ_ c U=>∃(j:Nat),j<=kl/\c=ae j/\Hid (p q j U)) (λ_ c _=>kl-(intOf c).toNat)
 case atStart=>exact⟨0,aK _,rfl,L⟩
 case round=>
 clear L;obtain⟨j,A,rfl,b⟩:=hrel;by_cases l:j<kl
 ·obtain⟨⟨g,rfl,M⟩,n⟩:=t.out q j _ l b;have ad:(0:Int)<=(j:Int):=by omega
  have al:(j:Int)<(kl:Int):=by omega
  clear i t s b;go_wp2_with fail;refine n.mono ?_;rintro e d ⟨rfl,h⟩;go_wp2_with fail;go_roundw
  case rel=>exact⟨j+1,by omega,by go_num,h⟩
  case measure=>simp[intOf];omega
 obtain rfl:j=kl:=by omega
 have ab:ai wr q 4 (ae f):=aj (i q _ wr (am (am b))) 4;have Y:=av (s q _ b);clear b t i s;by_cases N:f=1
 ·subst N;have J:=av (Y.1 rfl);go_wp2_with fail;refine J.mono ?_;rintro e d ⟨rfl,h⟩;go_wp2_with fail;exact eE (v:=.tuple #[]) (by simp[results]) rfl ⟨rfl,h⟩
 ·have J:=av (Y.2 N);have aF:(f==1)=false:=by simpa using N
  go_wp2_with fail;exact eE (v:=.tuple #[]) (by simp[results]) rfl ⟨rfl,J⟩
def qL(M:aU)(a:Nat)(d b:gW)(w w':ah):Prop:=bG (λq=>d.ow q<0) w w'/\(∀q,q<w.heap.size->¬M q->b.ow q=d.ow q)/\(∀q,q<w.heap.size->M q->0<=b.ow q)/\b.k=d.k/\b.es.length<=d.es.length+a/\b.wn<=d.wn+a/\b.bn<=d.bn+a
section
variable {p:mL} {s:Sy} {d d1 d2:gW} {w w1 w2:ah} {M:aU} {a b:Nat}
theorem qL.up(m:qL M a d d1 w w1)(k:ew b d1 d2 w1 w2):qL M (a+b) d d2 w w2:=by
 obtain⟨h,i,j,n,q,r,s⟩:=m;obtain⟨o,l,p,u,v,x⟩:=k;have t:=h.size;refine⟨h.trans o λc e g=>?_,λc e f=>(l c (by omega)).trans (i c e f),λc e f=>by rw[l c (by omega)];exact j c e f,p.trans n,by omega,by omega,by omega⟩;by_cases f:M c
 ·have:=j c e f;omega
 ·rw[i c e f]at g;exact g
theorem qL.ad{M':aU}(m:qL M a d d1 w w1)(k:OS M' b d1 d2 w1 w2)(o:∀q,M' q->M q):qL M (a+b) d d2 w w2:=by
 obtain⟨h,i,j,n,t,u,v⟩:=m;obtain⟨p,l,r,s,y,z,A⟩:=k;have x:=h.size;refine⟨h.trans p λq e g=>?_,λq e c=>(l q (by omega) λf=>c (o q f)).trans (i q e c),λq e c=>?_,s.trans n,by omega,by omega,by omega⟩
 ·by_cases c:M q
  ·have:=j q e c;omega
  ·rw[i q e c]at g;exact g
 ·by_cases f:M' q
  ·have:=r q f;omega
  ·rw[l q (by omega) f];exact j q e c
theorem qL.mono(c:qL M a d d1 w w1)(l:a<=b):qL M b d d1 w w1:=by
 obtain⟨e,f,g,h,i,j,k⟩:=c;exact⟨e,f,g,h,by omega,by omega,by omega⟩
theorem GU.ug{m:Nat}{x:Tm m}(e:GU d w x)(k:qL M a d d1 w w1):GU d1 w1 x:=by
 have g:=fA k.1 (D:=λb=>0<=d.ow b/\b<w.heap.size) (λb c f=>by omega) ⟨e.1,In.offB e.2 e.1⟩;refine⟨g.1,g.2.mono λb c=>?_⟩;by_cases f:M b
 ·exact k.2.2.1 b c.2 f
 ·rw[k.2.1 b c.2 f];exact c.1
theorem Cb(a:Int):(l:List (Int×aq×Tc))->(s:Sy)->(l.foldl (λs x=>s.add a x.2.1 x.2.2) s).ps.length=s.ps.length+l.length/\(l.foldl (λs x=>s.add a x.2.1 x.2.2) s).last=s.last+l.length
 | [],s=>by simp
 | x::l,s=>by
  have b:=Cb a l (s.add a x.2.1 x.2.2);rw[gf,b.1,b.2];simp only[Sy.add,Sy.tell,bm,bt,eU];omega
theorem bD.follow(aI:bD p s d w){a:Int}(ao:dm a)(i:Tk)(bb:Bg 8 i.sends i.spawns i.links)(y0 y1:Int)(y2:aq)(ya:aw)(yl yc:Nat){N aF a2 c B:Nat}{sa:aw}{sl sc:Nat}{pa:aw}{pl pc:Nat}{ka:aw}{kl kc:Nat}{L:aw}{vl R:Nat}{K:List (Int×Tm (N+1))}{J:List Nat}{aE:aU}(bk:w.ownsRow aF 250 5 (af sa sl sc) sl (K.flatMap λg=>Ou g.1 g.2))(bd:w.ownsRow aF 3 1 (af ka kl kc) kl (i.links.map λX=>ae X))(bm:w.ownsRow a2 141 1 (af L vl R) vl (J.map Bc))(be:K.length=sl/\i.links.length=kl/\J.length=vl/\i.spawns.length=vl)(ar:K.map (λg=>(g.1,cn _ g.2))=i.sends)(bl:∀g∈K,bJ _ g.2=0/\GU d w g.2)(bg:∀q,((Value.slice sa sl sc).ownBlock=some q\/(Value.slice ka kl kc).ownBlock=some q\/(Value.slice L vl R).ownBlock=some q)->0<=d.ow q)(a8:mP p.lo p.room (d.k+201) aE B w i.spawns J c)(bw:B<=w.heap.size)(how:∀q,c<=q->q<B->d.ow q=0)(bf:s.may vl=true)(bA:d.k<=92000)(bx:d.es.length<=97000)(bK:d.wn<=900000)(bz:d.bn<=900000):au 128 #[aC p.b,ae a,PH y0 y1 y2 ya yl yc i.fate sa sl sc pa pl pc ka kl kc,af L vl R] w λe w'=>e=.returned (.tuple #[])/\Hid (∃O,bD p (s.follow a i) O w'/\qL (λq=>c<=q/\q<B) 200 d O w w'):=by
 obtain⟨bo,bL,bM,bN⟩:=be;obtain⟨⟨aH,bu,bv⟩,a4,a5⟩:=bb;have bH:=Ll bf;have bI:sl<=8:=by rw[<-bo];rw[<-ar,cD]at aH;exact aH
 have T:∀{D:Type}(l:List D)(g:D)(f:Nat),f<l.length->l[f]?=some (l.getD f g):=λl g f j=>by
  rw[nH,aS j];rfl
 obtain⟨n,ab⟩:∃n:Nat->Int×Tm (N+1),∀f,f<sl->K[f]?=some (n f):=⟨_,λf j=>T K (0,((0,0,⟨#[]⟩),(none,0),[])) f (by omega)⟩;obtain⟨aD,aj⟩:∃n:Nat->Int,∀f,f<kl->i.links[f]?=some (n f):=⟨_,λf j=>T i.links 0 f (by omega)⟩;obtain⟨aA,aJ⟩:∃n:Nat->Nat,∀f,f<vl->J[f]?=some (n f):=⟨_,λf j=>T J 0 f (by omega)⟩;obtain⟨br,aK⟩:∃n:Nat->Int×aq×Tc,∀f,f<vl->i.spawns[f]?=some (n f):=⟨_,λf j=>T i.spawns (0,⟨#[]⟩,tT) f (by omega)⟩;have ap:∀q,((Value.slice sa sl sc).ownBlock=some q\/(Value.slice ka kl kc).ownBlock=some q\/(Value.slice L vl R).ownBlock=some q)->¬d.ow q<0:=λq g=>by have:=bg q g;omega
 have a9:∀h,bG (λq=>d.ow q<0) w h->∀f,f<sl->∃o,sa=some ⟨o,0,none⟩/\∀(t:Nat)(X:ax),(Ou (n f).1 (n f).2)[t]?=some X->ai h o (f*5+t) X:=λh P f j=>by
  obtain⟨_,_,x,_,C⟩:=sD (bB bk P λq g=>ap q (ak g)) (by decide) λg=>rfl;injection x with x;subst x;obtain⟨o,z,_,A⟩:=C f _ (ab f j);exact⟨o,z,A⟩
 have a7:∀h,bG (λq=>d.ow q<0) w h->∀f,f<kl->∃o,ka=some ⟨o,0,none⟩/\ai h o f (ae (aD f)):=λh P f j=>by
  have Q:=bB bd P λq g=>ap q (am (ak g));rw[List.map_eq_flatMap]at Q;obtain⟨_,_,x,_,C⟩:=sD Q (by decide) λg=>rfl;injection x with x;subst x;obtain⟨o,z,_,A⟩:=C f _ (aj f j);have:=A 0 _ rfl;simp only[Nat.mul_one,jB]at this;exact⟨o,z,this⟩
 have ba:∀h,bG (λq=>d.ow q<0) w h->∀f,f<vl->∃o,L=some ⟨o,0,none⟩/\ai h o f (.pointer (some ⟨aA f,0,none⟩)):=λh P f j=>by
  have Q:=bB bm P λq g=>ap q (am (am g));rw[List.map_eq_flatMap]at Q;obtain⟨_,_,x,_,C⟩:=sD Q (by decide) λg=>rfl;injection x with x;subst x;obtain⟨o,z,_,A⟩:=C f _ (aJ f j);have:=A 0 _ rfl;simp only[Nat.mul_one,jB]at this;exact⟨o,z,this⟩
 have aO:∀{D:Type}{l:List D}{f:Nat}{g:D},l[f]?=some g->l.drop f=g::l.drop (f+1):=λ{D l f g} e=>by
  obtain⟨a6,rfl⟩:=aZ.1 e;exact fo a6
 have av:∀{D:Type}{l:List D}{f:Nat}{g:D},l[f]?=some g->l.take (f+1)=l.take f++ [g]:=λ{D l f g} e=>by
  rw[dJ,e];rfl
 obtain⟨U,aT⟩:∃U,U=i.spawns.foldl (λs v=>s.add a v.2.1 v.2.2) s:=⟨_,rfl⟩;obtain⟨V,aV⟩:∃V,V=i.sends.foldl (λs v=>s.send a v.1 v.2) U:=⟨_,rfl⟩;obtain⟨W,aW⟩:∃W,W=i.links.foldl (λs v=>s.link a v) V:=⟨_,rfl⟩;have bj:s.follow a i=if i.fate=1 then W.fin a 1 else W:=by rw[aW,aV,aT];rfl
 let aG:Obj:=.cells #[ae y0,ae y1,ag y2,af ya yl yc,ae i.fate,af sa sl sc,af pa pl pc,af ka kl kc] 200;let Z:Nat->Prop:=λq=>c<=q/\q<B;let aB:Sy->Nat->Nat->ah->Prop:=λbp k q h=>∃d1,bD p bp d1 h/\qL Z k d d1 w h/\(w.heap.size<=q/\q<h.heap.size/\h.heap[q]?=some aG/\d1.ow q=0)
 refine AT p.b a y0 y1 y2 ya yl yc i.fate sa sl sc pa pl pc ka kl kc L vl R aA (λf=>(n f).1) (λf=>(n f).2.1.1) (λf=>(n f).2.1.2.1) (λf=>(n f).2.1.2.2) (λf=>(n f).2.2.1.1) (λf=>(n f).2.2.2.length) (λf=>(n f).2.2.1.2) aD w
  (λq f h=>∃d1,bD p ((i.spawns.take f).foldl (λs v=>s.add a v.2.1 v.2.2) s) d1 h/\qL Z f d d1 w h/\(w.heap.size<=q/\q<h.heap.size/\h.heap[q]?=some aG/\d1.ow q=0)/\∃S,c<=S/\mP p.lo p.room (d.k+201) aE B h (i.spawns.drop f) (J.drop f) S/\∀q,S<=q->q<B->d1.ow q=0)
  (λq f h=>aB ((i.sends.take f).foldl (λs v=>s.send a v.1 v.2) U) (vl+2*f) q h) (λq f h=>aB ((i.links.take f).foldl (λs v=>s.link a v) V) (vl+2*sl+f) q h) (λw'=>∃O,bD p (s.follow a i) O w'/\qL Z 200 d O w w') (by omega) (by omega) (by omega) (λq h al aP aL=>?_) (λq h y=>?_) (λq h y=>?_) (λq f h y=>?_) (λq f h j y=>?_) (λq f h j y=>?_) (λq f h j y=>?_) λq h y=>?_
 ·have bi:=(aN.1 aL).1;refine⟨d,aI.later al,⟨aM al _,λ_ _ _=>rfl,λq _ g=>by rw[how q g.1 g.2];exact ki 0,rfl,ay _,ay _,ay _⟩,⟨aP,bi,aL,?_⟩,c,ay _,a8.kept (aM al λ_=>False) (λ_ _ g=>g.elim) (λ_ _ g=>g) (ay _),how⟩;by_cases g:d.ow q=0
  ·exact g
  ·have:=(aI.low q g).2;omega
 ·obtain⟨d1,r,m,E,_⟩:=y;rw[bF (by omega),<-aT]at r;exact⟨d1,r,m,E⟩
 ·obtain⟨d1,r,m,E⟩:=y;rw[bF (by rw[<-ar,cD];omega),<-aV]at r;exact⟨d1,r,m,E⟩
 ·rcases y with⟨d1,_,_,E,_⟩|⟨d1,_,_,E⟩|⟨d1,_,_,E⟩
  ·exact E.2.2.1
  ·exact E.2.2.1
  ·exact E.2.2.1
 ·obtain⟨d1,r,m,⟨z,F,A,G⟩,S,bO,aY,az⟩:=y;refine⟨ba h m.1 f j,?_⟩;rw[aO (aK f j),aO (aJ f j)]at aY;obtain⟨a3,aa,bP,a0,_,a1⟩:=aY;have bc:=Cb a (i.spawns.take f) s;rw[dr]at bc;have bE:=a1.le;have bC:=m.2.2.2.1;refine(r.add a (M:=λq=>a3<=q/\q<aa) (a0.mono (λ_ g=>g) (by omega) (P1.lie2 a0)) (λq g=>az q (by omega) (by omega)) (by omega) (by omega) (by have:=m.2.2.2.2.1;omega)).mono ?_;rintro e w' ⟨rfl,H⟩;obtain⟨d2,I,u⟩:=H.out;have aQ:=u.1.size;refine⟨rfl,d2,?_,m.ad u λq g=>⟨by omega,by omega⟩,⟨z,by omega,?_,?_⟩,aa,by omega,a1.kept2 (c0:=aa) u.1 (λq aP bh g=>?_) (λ_ _ g=>g) (ay _) (ay _),λq bQ bq=>?_⟩
  ·rw[av (aK f j),nG];exact I
  ·rw[u.1.block q F (by rw[G];decide)];exact A
  ·rw[u.2.1 q F λg=>by omega];exact G
  ·have:=az q (by omega) bh;omega
  ·have:=m.1.size;rw[u.2.1 q (by omega) λg=>by omega];exact az q (by omega) bq
 ·obtain⟨d1,r,m,z,F,A,G⟩:=y;obtain⟨o,x,C⟩:=a9 h m.1 f j;refine⟨⟨o,x,C 0 _ rfl,C 1 _ rfl,C 2 _ rfl,C 3 _ rfl,C 4 _ rfl⟩,λbs an=>?_⟩;obtain⟨f1,f2⟩:=bl _ (aR (ab f j));have aX:i.sends[f]?=some ((n f).1,cn _ (n f).2):=by rw[<-ar,df,ab f j];rfl
  refine((r.later an).send ⟨ao,a4 _ (aR aX)⟩ (n f).2 ((f2.ug m).up (ew.later d1 an)) f1 (by have:=m.2.2.2.2.2.1;omega) (by have:=m.2.2.2.2.1;omega)).mono ?_;rintro e w' ⟨rfl,H⟩;obtain⟨d2,I,u⟩:=H.out;have Y:=(ew.later d1 an).trans u;have aQ:=Y.1.size;refine⟨rfl,d2,?_,(m.up Y).mono (by omega),z,by omega,?_,?_⟩
  ·rw[av aX,nG];exact I
  ·rw[Y.1.block q F (by rw[G];decide)];exact A
  ·rw[Y.2.1 q F];exact G
 ·obtain⟨d1,r,m,z,F,A,G⟩:=y;refine⟨a7 h m.1 f j,?_⟩;refine(r.link ao (a5 _ (aR (aj f j))) (by have:=m.2.2.2.2.2.2;omega)).mono ?_;rintro e w' ⟨rfl,H⟩;obtain⟨d2,I,u⟩:=H.out;have aQ:=u.1.size;refine⟨rfl,d2,?_,(m.up u).mono (by omega),z,by omega,?_,?_⟩
  ·rw[av (aj f j),nG];exact I
  ·rw[u.1.block q F (by rw[G];decide)];exact A
  ·rw[u.2.1 q F];exact G
 ·obtain⟨d1,r,m,z,F,A,G⟩:=y;rw[bF (by omega),<-aW]at r;rw[bj];refine⟨λe=>?_,λe=>⟨d1,by rw[if_neg e];exact r,m.mono (by omega)⟩⟩;refine(r.fin ao (by have:=m.2.2.2.2.1;omega)).mono ?_;rintro bt w' ⟨rfl,H⟩;obtain⟨d2,I,u⟩:=H;exact⟨rfl,d2,by rw[if_pos e];exact I,(m.up u).mono (by omega)⟩
end
structure T8 where
 y0:Int
 y1:Int
 y2:aq
 ya:aw
 yl:Nat
 yc:Nat
 f:Int
 sa:aw
 sl:Nat
 sc:Nat
 pa:aw
 pl:Nat
 pc:Nat
 ka:aw
 kl:Nat
 kc:Nat
theorem Qc{g:Array ax}{T:TypeId}{fr:Nat×Nat}(h:w.heap[q]?=some (.cells g T fr))(j:g.size=8)(v0 v1 v2 v3 c d e f:ax):((((((((w.setCell ⟨q,0,none⟩ v0).setCell ⟨q,1,none⟩ v1).setCell ⟨q,2,none⟩ v2).setCell ⟨q,3,none⟩ v3).setCell ⟨q,4,none⟩ c).setCell ⟨q,5,none⟩ d).setCell ⟨q,6,none⟩ e).setCell ⟨q,7,none⟩ f).heap[q]?=some (.cells #[v0,v1,v2,v3,c,d,e,f] T fr)/\bG (λb=>b=q) w ((((((((w.setCell ⟨q,0,none⟩ v0).setCell ⟨q,1,none⟩ v1).setCell ⟨q,2,none⟩ v2).setCell ⟨q,3,none⟩ v3).setCell ⟨q,4,none⟩ c).setCell ⟨q,5,none⟩ d).setCell ⟨q,6,none⟩ e).setCell ⟨q,7,none⟩ f):=by
 refine⟨?_,(((((((bM w q 0 v0).trans (bM _ q 1 v1) λ_ _ a=>a).trans (bM _ q 2 v2) λ_ _ a=>a).trans (bM _ q 3 v3) λ_ _ a=>a).trans (bM _ q 4 c) λ_ _ a=>a).trans (bM _ q 5 d) λ_ _ a=>a).trans (bM _ q 6 e) λ_ _ a=>a).trans (bM _ q 7 f) λ_ _ a=>a⟩;obtain⟨l⟩:=g;have i:l.length=8:=by simpa using j
 match l,i with
 | [a0,a1,a2,a3,a4,a5,a6,a7],_=>simp[World.setCell,bQ,h]
def OR(e:T8->Int->ah->bE)(w:ah)(q:Nat)(t:T8)(g:Int)(d:ah):Prop:=
 ∃a c,ap w a/\e t g a c/\(w.heap.size<=q/\(q<a.heap.size\/c.heap.size<=q))/\d.heap[q]?=some (.cells #[ae t.y0,ae t.y1,ag t.y2,af t.ya t.yl t.yc,ae t.f,af t.sa t.sl t.sc,af t.pa t.pl t.pc,af t.ka t.kl t.kc] 200)/\bG (λb=>b=q) c d
theorem zk(g:Nat)(Z:da)(a S Y:Int)(N:aw)(P O:Nat)(aa:ax)(F:Bool)(w:ah)(E:T8->Int->ah->bE)(M:Nat->T8->bE)(C:Nat->T8->ax->Bool->bE)(R:Int->bE)(aY:IntKind.i64.wrap (S+1)=Y)(a4:g<w.heap.size)(ab:Hid (ai w g 0 (af N P O)/\ai w g 2 (ae S)/\ai w g 3 (.map Z)))(aq:(Instr.lookup 131 (.map Z) (ae a) true).run Tryz.prog w=.ok (.tuple #[aa,.bool F]) w)(J:Hid (F=false->R 4 w))(L:Hid (F=true->∀W,ap w W->au 125 #[aa,af N P O,ae a,ae Y] W λe w'=>∃(t:T8)(h:Int),e=.returned (.tuple #[.agg #[ae t.y0,ae t.y1,ag t.y2,af t.ya t.yl t.yc,ae t.f,af t.sa t.sl t.sc,af t.pa t.pl t.pc,af t.ka t.kl t.kc],ae h])/\Hid (E t h W w'/\(∀q,w.heap.size<=q->q<W.heap.size->w'.heap[q]?=W.heap[q]?)/\W.heap.size<=w'.heap.size/\(ai w' g 0 (af N P O)/\ai w' g 2 (ae S)))))(HB:Hid (∀q t h W,OR E w q t h W->h≠0->R h W))(B:Hid (∀q t W,OR E w q t 0 W->au 124 #[aC g,ag ⟨#[116,97,107,101]⟩,ae a,ae 0,.agg #[ae t.y0,ae t.y1,ag t.y2,af t.ya t.yl t.yc]] W λe w'=>e=.returned (.tuple #[])/\Hid (M q t w')))(x:Hid (∀q t W,M q t W->au 126 #[aC g,af t.pa t.pl t.pc] W λe w'=>∃v b,e=.returned (.tuple #[v,.bool b])/\Hid (C q t v b w')))(y:Hid (∀q t W,M q t W->W.heap[q]?=some (.cells #[ae t.y0,ae t.y1,ag t.y2,af t.ya t.yl t.yc,ae t.f,af t.sa t.sl t.sc,af t.pa t.pl t.pc,af t.ka t.kl t.kc] 200)))(z:Hid (∀q t v b W,C q t v b W->W.heap[q]?=some (.cells #[ae t.y0,ae t.y1,ag t.y2,af t.ya t.yl t.yc,ae t.f,af t.sa t.sl t.sc,af t.pa t.pl t.pc,af t.ka t.kl t.kc] 200)))(m:Hid (∀q t v b W,C q t v b W->(t.f=2\/t.f=3)->au 127 #[aC g,ae a,ae t.f] W λe w'=>e=.returned (.tuple #[])/\Hid (R 0 w')))(n:Hid (∀q t v W,C q t v false W->¬(t.f=2\/t.f=3)->au 127 #[aC g,ae a,ae 2] W λe w'=>e=.returned (.tuple #[])/\Hid (R 0 w')))(p:Hid (∀q t v W,C q t v true W->¬(t.f=2\/t.f=3)->au 128 #[aC g,ae a,.agg #[ae t.y0,ae t.y1,ag t.y2,af t.ya t.yl t.yc,ae t.f,af t.sa t.sl t.sc,af t.pa t.pl t.pc,af t.ka t.kl t.kc],v] W λe w'=>e=.returned (.tuple #[])/\Hid (R 0 w'))):au 87 #[aC g,ae a] w λe w'=>∃v,e=.returned (ae v)/\Hid (R v w'):=by
 obtain⟨al,an,ao⟩:=ab;go_enter func87,ntmps87;go_upto_region 2 with fail;cases F
 ·have K:=av (J rfl);clear L J HB B x y z m n p;go_wp2_with fail
  go_ret
  exact⟨4,rfl,K⟩
 have V:=av (L rfl);clear L J aq ao;have H:Hid (ap w w.drew):=(aE _ _).drew;have I:Hid (∀o,ap w (w.drew.alloc o)):=λo=>(aE _ _).drew.alloc (ay _) o;have aZ:¬(w.heap.size=g):=by omega
 have a0:¬(g=w.heap.size):=by omega
 go_upto_region 4 with fail;go_cut [7,8] (λar az aB=>∃(q:Nat)(t:T8)(h:Int),ar=aC q/\az=ae h/\Hid (OR E w q t h aB))
 case first=>
  clear HB B x y z m n p
  go_region_with ((first
   | (go_at_call 125;refine(V _ (by first|exact H|exact I _)).mono ?_;rintro e c ⟨t,h,rfl,r⟩;have a3:g<c.heap.size:=(by have:=r.2.2.1;simp at this;omega);have a1:¬(c.heap.size=g):=(by omega);have a2:¬(g=c.heap.size):=(by omega);obtain⟨a6,a7⟩:=r.out.2.2.2;(first|(have d:c.heap[w.heap.size]?=some (.cells #[ae 0,ae 0,ag ⟨#[]⟩,af none 0 0,ae 0,af none 0 0,af none 0 0,af none 0 0] 200):=((r.2.1 w.heap.size (ay _) (by simp)).trans (aI w.drew _));obtain⟨a8,a9,ba,bb,bc,bd,be,bf⟩:ai c w.heap.size 0 (ae 0)/\ai c w.heap.size 1 (ae 0)/\ai c w.heap.size 2 (ag ⟨#[]⟩)/\ai c w.heap.size 3 (af none 0 0)/\ai c w.heap.size 4 (ae 0)/\ai c w.heap.size 5 (af none 0 0)/\ai c w.heap.size 6 (af none 0 0)/\ai c w.heap.size 7 (af none 0 0):=⟨aj d 0,aj d 1,aj d 2,aj d 3,aj d 4,aj d 5,aj d 6,aj d 7⟩;have aD:c.frozen? ⟨w.heap.size,0,none⟩=false:=(by simp[World.frozen?,d]);have aF:c.frozen? ⟨w.heap.size,1,none⟩=false:=(by simp[World.frozen?,d]);have aG:c.frozen? ⟨w.heap.size,2,none⟩=false:=(by simp[World.frozen?,d]);have aH:c.frozen? ⟨w.heap.size,3,none⟩=false:=(by simp[World.frozen?,d]);have aJ:c.frozen? ⟨w.heap.size,4,none⟩=false:=(by simp[World.frozen?,d]);have aK:c.frozen? ⟨w.heap.size,5,none⟩=false:=(by simp[World.frozen?,d]);have aL:c.frozen? ⟨w.heap.size,6,none⟩=false:=(by simp[World.frozen?,d]);have aN:c.frozen? ⟨w.heap.size,7,none⟩=false:=(by simp[World.frozen?,d]);have ad:=av d;clear d)|skip))))
  all_goals (go_wp2_with fail;go_meet)
  all_goals (refine⟨_,t,h,rfl,rfl,?_⟩)
  all_goals (first
   | exact⟨_,c,H,r.1,⟨by have:=r.2.2.1;simpa using this,am (ay _)⟩,aI _ _,aM (aT _ _) _⟩
   | exact⟨_,c,I _,r.1,⟨ay _,ak (by simp)⟩,Qc ad rfl _ _ _ _ _ _ _ _⟩)
 case rest=>
 obtain⟨q,t,h,rfl,rfl,A⟩:=hcut;clear V H I al an;by_cases Q:h=0;rotate_left
 ·have K:=av (HB _ _ _ _ A Q);have a5:(h==0)=false:=by simpa using Q
  clear A HB B x y z m n p;go_wp2_with fail
  go_ret
  exact⟨h,rfl,K⟩
 subst Q;have X:=av (B _ _ _ A);obtain⟨_,_,_,_,_,D,_⟩:=A.out;have d0:ai wc q 0 (ae t.y0):=aj D 0;have d1:ai wc q 1 (ae t.y1):=aj D 1;have d2:ai wc q 2 (ag t.y2):=aj D 2;have d3:ai wc q 3 (af t.ya t.yl t.yc):=aj D 3;clear D A HB B;go_wp2_with fail;refine X.mono ?_;rintro e aA ⟨rfl,G⟩;have U:=av (x _ _ _ G);have d6:ai aA q 6 (af t.pa t.pl t.pc):=aj (y _ _ _ G) 6;clear X x y G d0 d1 d2 d3;go_wp2_with fail;refine U.mono ?_;rintro e j ⟨v,b,rfl,k⟩;have i:=av (z _ _ _ _ _ k);have f4:ai j q 4 (ae t.f):=aj i 4;clear d6 U z;by_cases u:t.f=2\/t.f=3
 ·have s:=av (m _ _ _ _ _ k u);clear n p m k i;generalize t.f=f at*;rcases u with rfl|rfl
  ·go_wp2_with fail;refine s.mono ?_;rintro e T ⟨rfl,l⟩;go_wp2_with fail
   go_ret
   exact⟨0,rfl,l⟩
  ·go_wp2_with fail;refine s.mono ?_;rintro e T ⟨rfl,l⟩;go_wp2_with fail
   go_ret
   exact⟨0,rfl,l⟩
 have aW:(t.f==2)=false:=by simpa using λe=>u (ak e)
 have aX:(t.f==3)=false:=by simpa using λe=>u (am e)
 cases b
 ·have s:=av (n _ _ _ _ k u);clear n p m k i;go_wp2_with fail;refine s.mono ?_;rintro e T ⟨rfl,l⟩;go_wp2_with fail
  go_ret
  exact⟨0,rfl,l⟩
 ·have s:=av (p _ _ _ _ k u);have aO:ai j q 0 (ae t.y0):=aj i 0;have aP:ai j q 1 (ae t.y1):=aj i 1;have aQ:ai j q 2 (ag t.y2):=aj i 2;have aR:ai j q 3 (af t.ya t.yl t.yc):=aj i 3;have aS:ai j q 5 (af t.sa t.sl t.sc):=aj i 5;have aU:ai j q 6 (af t.pa t.pl t.pc):=aj i 6;have aV:ai j q 7 (af t.ka t.kl t.kc):=aj i 7;clear n p m k i;go_wp2_with fail;refine s.mono ?_;rintro e T ⟨rfl,l⟩;go_wp2_with fail
  go_ret
  exact⟨0,rfl,l⟩
def GY(f:Tk)(t:T8)(d:gW)(W:ah):Prop:=
 ∃(h g:Nat)(c:List (Int×Tm (h+1)))(e:List (Int×aq×Tm (h+1))),(c.length=t.sl/\e.length=t.pl/\f.links.length=t.kl)/\W.ownsRow g 250 5 (af t.sa t.sl t.sc) t.sl (c.flatMap λa=>Ou a.1 a.2)/\W.ownsRow g 247 6 (af t.pa t.pl t.pc) t.pl (e.flatMap λa=>Pv a.1 a.2.1 a.2.2)/\W.ownsRow g 3 1 (af t.ka t.kl t.kc) t.kl (f.links.map λi=>ae i)/\
  c.map (λa=>(a.1,cn _ a.2))=f.sends/\e.map (λa=>(a.1,a.2.1,cn _ a.2.2))=f.spawns/\(∀a∈c,bJ _ a.2=0/\GU d W a.2)/\(∀a∈e,bJ _ a.2.2=0/\GU d W a.2.2)/\∀b,((Value.slice t.sa t.sl t.sc).ownBlock=some b\/(Value.slice t.pa t.pl t.pc).ownBlock=some b\/(Value.slice t.ka t.kl t.kc).ownBlock=some b)->b<W.heap.size/\0<=d.ow b
theorem GY.kee{n:Tk}{t:T8}{d g:gW}{W:ah}(s:GY n t d W)(b:bG (λq=>d.ow q<0) W h)(m:∀q,q<W.heap.size->g.ow q=d.ow q):GY n t g h:=by
 obtain⟨p,r,A,B,e,u,v,w,x,y,k,l,f⟩:=s;have hF:∀{z:Nat}{o:Tm z},GU d W o->GU g h o:=λj=>by
  have e:=fA b (D:=λq=>0<=d.ow q/\q<W.heap.size) (λq a C=>by omega) ⟨j.1,In.offB j.2 j.1⟩;exact⟨e.1,e.2.mono λq a=>by rw[m q a.2];exact a.1⟩
 have i:∀q,((Value.slice t.sa t.sl t.sc).ownBlock=some q\/(Value.slice t.pa t.pl t.pc).ownBlock=some q\/(Value.slice t.ka t.kl t.kc).ownBlock=some q)->¬d.ow q<0:=λq a=>by have:=(f q a).2;omega
 exact⟨p,r,A,B,e,bB u b λq a=>i q (ak a),bB v b λq a=>i q (am (ak a)),bB w b λq a=>i q (am (am a)),x,y,λa c=>⟨(k a c).1,hF (k a c).2⟩,λa c=>⟨(l a c).1,hF (l a c).2⟩,λq a=>⟨aY (f q a).1 b.size,by rw[m q (f q a).1];exact(f q a).2⟩⟩
def Q1(t:T8):Obj:=.cells #[ae t.y0,ae t.y1,ag t.y2,af t.ya t.yl t.yc,ae t.f,af t.sa t.sl t.sc,af t.pa t.pl t.pc,af t.ka t.kl t.kc] 200
section
variable {p:mL} {s:Sy} {d:gW} {w:ah}
theorem gD.ug{M:aU}{k b c:Nat}{d1 d2:gW}{w1 w2:ah}(l:gD k c d d1 w w1)(g:qL M b d1 d2 w1 w2)(m:∀q,M q->w.heap.size<=q):gD (k+b) c d d2 w w2:=by
 obtain⟨e,f,t,u,v,x⟩:=l;obtain⟨i,j,_,o,p,r,s⟩:=g;have y:=e.size;exact⟨e.trans i λq a h=>by rw[f q a]at h;omega,λq a=>(j q (by omega) λn=>by have:=m q n;omega).trans (f q a),by omega,by omega,by omega,by omega⟩
def PU(p:mL)(s:Sy)(d:gW)(w:ah)(a:Tk)(q:Nat)(t:T8)(d1:gW)(W:ah):Prop:=
 bD p s d1 W/\gD 1 402 d d1 w W/\(w.heap.size<=q/\q<W.heap.size/\d1.ow q=0/\W.heap[q]?=some (Q1 t))/\t.f=a.fate/\GY a t d1 W
theorem bD.run(q:bD p s d w){a:Int}(aS:dm a)(cq:d.k<=91000)(cm:d.es.length<=96000)(cw:d.wn<=800000)(cp:d.bn<=800000):au 87 #[aC p.b,ae a] w λe w'=>∃v,e=.returned (ae v)/\Hid (v=(s.run p.n p.prog p.room a).2/\∃E,bD p (s.run p.n p.prog p.room a).1 E w'/\gD 201 402 d E w w'):=by
 obtain⟨bO,aW⟩:=q.lo;obtain⟨a8,ch,a9,ba⟩:=q.cells;obtain⟨_,_,_,ck,cl,_⟩:=q.keys;have bg:lj (p.n+1) p.prog=true:=(gO q.pg.2.2.2.1).1;have be:IntKind.i64.wrap (s.last+1)=s.last+1:=by rw[IntKind.wrap];simp[IntKind.bits,IntKind.signed];omega
 have ab:=q.look a true;have ax:=q.alive a;rw[if_pos rfl]at ab;obtain⟨P,m⟩:∃P,P=s.run p.n p.prog p.room a:=⟨_,rfl⟩;rw[<-m];unfold Sy.run at m;cases hg:s.get a with
 | none=>
  rw[hg]at m ax;rw[ax]at ab;have bx:(4:Int)=P.2/\∃E,bD p P.1 E w/\gD 201 402 d E w w:=by
   rw[m];exact⟨rfl,d,q,(ew.later d (aE _ _)).un.mono (aK _) (aK _)⟩
  exact zk p.b d.po a s.last (s.last+1) p.pa p.prog.length p.pc _ false w (λ_ _ _ _=>False) (λ_ _ _=>False) (λ_ _ _ _ _=>False) (λv w'=>v=P.2/\∃E,bD p P.1 E w'/\gD 201 402 d E w w') be aW ⟨a8,a9,ba⟩ ab (λ_=>bx) ((λg=>by cases g)) (λ_ _ _ _ ⟨_,_,_,g,_⟩=>g.elim) (λ_ _ _ ⟨_,_,_,g,_⟩=>g.elim) (λ_ _ _ g=>g.elim) (λ_ _ _ g=>g.elim) (λ_ _ _ _ _ g=>g.elim) (λ_ _ _ _ _ g=>g.elim) (λ_ _ _ _ g=>g.elim) λ_ _ _ _ g=>g.elim
 | some an=>
  obtain⟨B,aa,V⟩:=an;rw[hg]at m ax;obtain⟨bs,aB⟩:=gi.1 ax;rw[aB]at ab;obtain⟨b6,bE,bC,aq,bH,cj⟩:=q.ps a bs aB;rw[hg]at aq;obtain⟨rfl,rfl,rfl⟩:B=b6/\aa=bE/\V=bC:=by
   injection aq with aq;injection aq with z u;injection u with u bF;exact⟨z,u,bF⟩
  have co:=(q.key aB).1;obtain⟨T,aR⟩:∃T,T=rA p.n p.room p.prog B a (s.last+1) aa V:=⟨_,rfl⟩;simp only[<-aR]at m;have aA:∀h,w.heap.size<=h->d.ow h=0:=λh aU=>by
   by_cases g:d.ow h=0
   ·exact g
   ·have:=(q.low h g).2;omega
  refine zk p.b d.po a s.last (s.last+1) p.pa p.prog.length p.pc _ true w
   (λt Z l w'=>(Z≠0/\Z=T/\ap l w')\/(Z=0/\T=0/\∃(r:Tc)(i:Tk)(J:Nat),(r.1=(t.y0,t.y1,t.y2)/\r.2.1=(t.ya,t.yc)/\r.2.2.length=t.yl)/\ou p.room p.prog B a (s.last+1) aa V=some i/\t.f=i.fate/\cn 13 r=i.message/\bJ 13 r=0/\In w'.heap.size w' 13 r/\cE (λh=>l.heap.size<=h/\h<J) 13 r/\ci (λh=>d.ow h=a) l w'/\l.heap.size<J/\P1 p.lo bs B p.room i.state i.mail (d.k+201+402) (λb=>(d.ow b=a\/J<=b)/\b<w'.heap.size) w'/\i.mail.length<=V.length/\mF (l.heap.size+1) i.sends i.spawns i.links t.sa t.sl t.sc t.pa t.pl t.pc t.ka t.kl t.kc (λ_=>True) w'))
   (λh t l=>∃i d1,T=0/\ou p.room p.prog B a (s.last+1) aa V=some i/\PU p ((s.put a (B,i.state,i.mail)).tell nW a 0 i.message) d w i h t d1 l)
   (λh t v b l=>∃i d1,T=0/\ou p.room p.prog B a (s.last+1) aa V=some i/\PU p ((s.put a (B,i.state,i.mail)).tell nW a 0 i.message) d w i h t d1 l/\b=Sy.made p.n p.prog p.room ((s.put a (B,i.state,i.mail)).tell nW a 0 i.message) i.spawns/\(b=true->∃U aO aP c,v=af aO t.pl aP/\U.length=t.pl/\w.heap.size<=c/\(∀h,c<=h->d1.ow h=0)/\l.ownsRow c 141 1 v t.pl (U.map Bc)/\mP p.lo p.room (d1.k+201) (λh=>v.ownBlock=some h) l.heap.size l i.spawns U c))
   (λv w'=>v=P.2/\∃E,bD p P.1 E w'/\gD 201 402 d E w w') be aW ⟨a8,a9,ba⟩ (by rw[ab];rfl) ((λg=>by cases g)) (λ_ l aw=>?_) (λh t Z l aQ bm=>?_) (λh t l aQ=>?_) (λh t l F=>?_) (λh t l F=>?_) (λh t v b l F=>?_) (λh t v b l F N=>?_) (λh t v l F N=>?_) λh t v l F N=>?_
  ·have W:=q.later aw;have J:=cZ (eK (p.n+1)) 2 (rJ (p.n+1)) p.pa;refine((bH.later aw).step p.prog p.pa p.pc l.heap.size W.pg.1.1 (ay _) q.pg.2.1 q.pg.2.2.1 (λ_=>q.pg.2.2.2.2) (λbz av=>J.2.2.1 _ _ _ bz _ (λb h=>av.block b h.2 λg=>by have:=h.1;rw[g]at this;omega) (J.2.1 _ _ _ _ W.pg.1.2 W.pg.1.1) W.pg.1.1) (aD bO aw.size) (by omega) (by omega) a (s.last+1)).mono ?_;rintro e w' (⟨Z,rfl,y⟩|⟨r,f,sa,sl,sc,pa,pl,pc,ka,kl,kc,rfl,y⟩)
   ·obtain⟨K,R,G⟩:=y.out;have bc:=(W.later G).cells;exact⟨⟨0,0,⟨#[]⟩,none,0,0,0,none,0,0,none,0,0,none,0,0⟩,Z,rfl,ak ⟨K,R.trans aR.symm,G⟩,λh _ aU=>G.block h aU,G.size,bc.1,bc.2.2.1⟩
   ·obtain⟨i,J,K,R,G,ag,L,bV,bW,aH,bX,bU⟩:=y.out;have bb:w'.heap[p.b]?=some (.cells (ez p s d) 139):=(aH.block p.b (aY aW aw.size) (by rw[q.own];omega)).trans W.box;exact⟨⟨r.1.1,r.1.2.1,r.1.2.2,r.2.1.1,r.2.2.length,r.2.1.2,f,sa,sl,sc,pa,pl,pc,ka,kl,kc⟩,0,rfl,am ⟨rfl,aR.trans K,r,i,J,⟨rfl,rfl,rfl⟩,R,G,ag,L,bV,bW,aH,bX,bU⟩,λh ar bI=>aH.block h bI (by rw[aA h ar];omega),aH.size,aj bb 0,aj bb 2⟩
  ·obtain⟨Q,al,K,R,G,ag,L⟩:=aQ;rcases R with⟨_,e,bY⟩|⟨e,_⟩
   ·rw[if_neg (by rw[<-e];exact bm)]at m;have av:bG (λb=>b=h) w l:=((aM K λb=>b=h).trans (aM bY λb=>b=h) λ_ _ e=>e).trans L λ_ _ e=>e;rw[m];exact⟨e,d,q.kept av λb g=>by rw[g];exact aA h G.1,av.mono λb az g=>by omega,λ_ _=>rfl,by omega,by omega,by omega,by omega⟩
   ·exact absurd e bm
  ·obtain⟨Q,al,K,R,G,ag,L⟩:=aQ;rcases R with⟨e,_⟩|⟨_,bK,r,i,J,⟨f1,f2,f3⟩,bZ,b1,b2,b3,bo,b4,Y,cy,bp,cx,b0⟩
   ·exact absurd rfl e
   have bN:bG (λh=>d.ow h=a) Q al:=⟨Y.os,Y.tape,Y.output,Y.size,Y.block⟩;have cs:=K.size;have ct:=Y.size;have cu:=L.size
   obtain⟨bt,bu⟩:=(q.later K).turnP aB hg bN (j:=d.k+402) (λh g=>by
    rcases g.1 with g|g
    ·exact ak g
    ·exact am (by omega)) (by omega) (bp.mono (λ_ g=>g) (by omega) (P1.lie2 bp)) (by omega)
   generalize aT:({d with ow:=GA d Q al a,k:=d.k+402}:gW)=d1 at bt bu;have bf:∀b,d1.ow b=if Q.heap.size<=b/\b<al.heap.size then a else d.ow b:=λb=>by rw[<-aT];rfl
   have aV:d1.ow h=0:=by
    rw[bf,if_neg (by omega)];exact aA h G.1
   have bh:∀b,Q.heap.size<=b->0<=d1.ow b:=λb az=>by
    rw[bf];split
    ·omega
    ·rw[aA b (by omega)];exact ki 0
   have ar:bD p (s.put a (B,i.state,i.mail)) d1 l:=bt.kept L λb g=>by rw[g];exact aV
   have bS:gD 0 402 d d1 w l:=by
    have z:=((ew.later d K).un.trans bu);obtain⟨b9,ca,cb,cc,cd,ce⟩:=z;exact⟨b9.trans L λb az g=>by omega,ca,by rw[<-aT]at cb ⊢;show d.k+402<=_;omega,cc,cd,ce⟩
   have bT:=fA L (D:=λb=>Q.heap.size<=b/\b<al.heap.size) (λb g cg=>by omega) ⟨bo,In.offB (b4.mono λb g=>g.1) bo⟩;have bL:GY i t d1 l:=by
    obtain⟨ao,aJ,aL,A,o,x,H,S,O,ah,a5,b5⟩:=b0.kept L λb cf _ cA cB=>by omega
    have bd:∀{a4:Nat}{an:Tm a4},In l.heap.size l a4 an->cE (λb=>Q.heap.size+1<=b/\True) a4 an->GU d1 l an:=λbA bB=>⟨bA,bB.mono λb g=>bh b (by omega)⟩;refine⟨ao,_,aJ,aL,A,o,x,H,S,O,λg I=>⟨(ah g I).1,bd (ah g I).2.1 (ah g I).2.2⟩,λg I=>⟨(a5 g I).1,bd (a5 g I).2.1 (a5 g I).2.2⟩,λb g=>⟨?_,bh b (by have:=(b5 b g).1;omega)⟩⟩;rcases g with g|g|g
    ·exact(o.lt b g).2
    ·exact(x.lt b g).2
    ·exact(H.lt b g).2
   obtain⟨⟨cz,cf,cg⟩,⟨cC,cF⟩,cG⟩:=r;simp only[gQ]at f1 f2;obtain⟨rfl,rfl,rfl⟩:=f1;obtain⟨rfl,rfl⟩:=f2;rw[<-f3];have bM:d1.es=d.es:=by rw[<-aT]
   refine(ar.tell nW a 0 _ _ _ _ _ _ _ (ld bT.1 b3) (by rw[bM];omega)).mono ?_;rintro e w' ⟨rfl,y⟩;obtain⟨d2,M,C⟩:=y.out.up ar;have bi:=(aN.1 ag).1;have cv:=C.1.size;rw[b2]at M;refine⟨rfl,i,d2,bK,bZ,M,(bS.trans C.un).mono (by omega) (by omega),⟨G.1,by omega,by rw[C.2.1 h bi];exact aV,?_⟩,b1,bL.kee C.1 C.2.1⟩;rw[C.1.block h bi (by rw[aV];decide)];exact ag
  ·obtain⟨i,d1,z,u,⟨A,o,x,H,S⟩⟩:=F;obtain⟨ao,a7,aJ,aL,X,aZ,a0,a1,a2,ad,a3,aF,aG⟩:=S;have aX:=FC bg u;have cr:t.pl<=8:=by
    have:=aX.1.2.1;rw[<-ad,cD]at this;omega
   refine(A.made a0 X.2.1 (by omega) λg I=>⟨(aF g I).1,(aF g I).2.1⟩).mono ?_;rintro e w' ⟨v,b,rfl,y⟩;obtain⟨ai,bq,br⟩:=y.out;rw[ad]at bq br;have bQ:∀h,l.heap.size<=h->d1.ow h=0:=λh aU=>by
    by_cases g:d1.ow h=0
    ·exact g
    ·have:=(A.low h g).2;omega
   refine⟨v,b,rfl,i,d1,z,u,⟨A.later ai,(o.trans (ew.later d1 ai).un).mono (ay _) (ay _),⟨x.1,aY x.2.1 ai.size,x.2.2.1,fi ai x.2.2.2⟩,H,GY.kee ⟨ao,a7,aJ,aL,X,aZ,a0,a1,a2,ad,a3,aF,aG⟩ (aM ai _) λ_ _=>rfl⟩,bq,λaz=>?_⟩;obtain⟨U,aO,aP,b7,a6,bv,aI⟩:=br az;exact⟨U,aO,aP,l.heap.size,b7,a6,o.1.size,bQ,bv,aI⟩
  ·obtain⟨i,d1,z,u,A,o,x,_⟩:=F;exact x.2.2.2
  ·obtain⟨i,d1,z,u,⟨A,o,x,_⟩,_⟩:=F;exact x.2.2.2
  ·obtain⟨i,d1,z,u,⟨A,o,x,H,S⟩,_⟩:=F;rw[if_pos z,u]at m;simp only at m;rw[H]at N ⊢;rw[if_pos N]at m;refine(A.fin aS (by have:=o.2.2.2.1;omega)).mono ?_;rintro e w' ⟨rfl,y⟩;obtain⟨d2,M,C⟩:=y.out;rw[m];exact⟨rfl,rfl,d2,M,(o.trans C.un).mono (by omega) (by omega)⟩
  ·obtain⟨i,d1,z,u,⟨A,o,x,H,S⟩,O,_⟩:=F;rw[if_pos z,u]at m;simp only at m;rw[H]at N;rw[if_neg N,if_pos O.symm]at m;have bj:=congrArg Prod.fst m;have bk:=congrArg Prod.snd m;dsimp only at bj bk;refine(A.fin (how:=2) aS (by have:=o.2.2.2.1;omega)).mono ?_;rintro e w' ⟨rfl,y⟩;obtain⟨d2,M,C⟩:=y.out;rw[<-bj]at M;exact⟨rfl,bk.symm,d2,M,(o.trans C.un).mono (by omega) (by omega)⟩
  ·obtain⟨i,d1,z,u,⟨A,o,x,H,S⟩,O,ah⟩:=F;rw[if_pos z,u]at m;simp only at m;rw[H]at N;have bR:¬Sy.made p.n p.prog p.room ((s.put a (B,i.state,i.mail)).tell nW a 0 i.message) i.spawns=false:=λg=>Bool.noConfusion (O.trans g);rw[if_neg N,if_neg bR]at m;obtain⟨U,aO,aP,c,rfl,a6,bv,aI,bw,b8⟩:=ah rfl;obtain⟨ao,a7,aJ,aL,X,aZ,a0,a1,a2,ad,a3,aF,aG⟩:=S;have aX:=FC bg u;have bl:i.spawns.length=t.pl:=by rw[<-ad,cD];exact X.2.1
   have bP:Sy.may ((s.put a (B,i.state,i.mail)).tell nW a 0 i.message) t.pl=true:=by
    unfold Sy.made at O;rw[bl]at O;exact(Bool.and_eq_true_iff.1 O.symm).1
   have hF:=A.follow (pa:=t.pa) (pl:=t.pl) (pc:=t.pc) aS i aX t.y0 t.y1 t.y2 t.ya t.yl t.yc aZ a1 bw ⟨X.1,X.2.2,a6,bl⟩ a2 a3 (λb g=>?_) b8 (ay _) (λh g _=>aI h g) bP (by have:=o.2.2.1;omega) (by have:=o.2.2.2.1;omega) (by have:=o.2.2.2.2.1;omega) (by have:=o.2.2.2.2.2;omega)
   ·rw[<-H]at hF;refine hF.mono ?_;rintro e w' ⟨rfl,y⟩;obtain⟨d2,M,C⟩:=y;rw[m];exact⟨rfl,rfl,d2,M,o.ug C λh g=>by omega⟩
   ·rcases g with g|g|g
    ·exact(aG b (ak g)).2
    ·exact(aG b (am (am g))).2
    ·rw[aI b (bw.lt b g).1];exact ki 0
end
theorem LR(p:Nat)(c a b q r:Int)(s:aq)(xa:aw)(t xc:Nat)(w:ah)(R:Int->bE)(m:Hid (c=1->∀W,ap w W->au 87 #[aC p,ae a] W λe w'=>∃v,e=.returned (ae v)/\Hid (R v w')))(i:Hid (c=2->∀W,ap w W->au 88 #[aC p,ae a,ae b] W λe w'=>∃v,e=.returned (ae v)/\Hid (R v w')))(l:Hid (c=3->∀W,ap w W->au 89 #[aC p,ae a,.agg #[ae q,ae r,ag s,af xa t xc]] W λe w'=>∃v,e=.returned (ae v)/\Hid (R v w')))(k:Hid (¬(c=1\/c=2\/c=3)->∀W,ap w W->R 1 W)):au 58 #[aC p,.agg #[ae c,ae a,ae b,ae q,ae r,ag s,af xa t xc]] w λe w'=>∃v,e=.returned (ae v)/\Hid (R v w'):=by
 go_enter func58,ntmps58;go_upto_region 1 with fail;generalize x:w.alloc _=d;have HB:Hid (ap w d):=by
  rw[<-x];exact aT _ _
 have f:d.heap[w.heap.size]?=some (.cells #[ae c,ae a,ae b,ae q,ae r,ag s,af xa t xc] 78):=by
  rw[<-x];exact aI _ _
 generalize w.heap.size=g at*;clear x;have d0:ai d g 0 (ae c):=aj f 0;have d1:ai d g 1 (ae a):=aj f 1;have d2:ai d g 2 (ae b):=aj f 2;have d3:ai d g 3 (ae q):=aj f 3;have d4:ai d g 4 (ae r):=aj f 4;have d5:ai d g 5 (ag s):=aj f 5;have d6:ai d g 6 (af xa t xc):=aj f 6;clear f;by_cases n:c=1
 ·have j:=av (m n _ HB);subst n;clear m i l k;go_wp2_with fail;refine j.mono ?_;rintro e z ⟨v,rfl,h⟩;go_wp2_with fail
  go_ret
  exact⟨v,rfl,h⟩
 have y:(c==1)=false:=by simpa using n
 by_cases o:c=2
 ·have j:=av (i o _ HB);subst o;clear m i l k n y;go_wp2_with fail;refine j.mono ?_;rintro e z ⟨v,rfl,h⟩;go_wp2_with fail
  go_ret
  exact⟨v,rfl,h⟩
 have B:(c==2)=false:=by simpa using o
 by_cases u:c=3
 ·have j:=av (l u _ HB);subst u;clear m i l k n y o B;go_wp2_with fail;refine j.mono ?_;rintro e z ⟨v,rfl,h⟩;go_wp2_with fail
  go_ret
  exact⟨v,rfl,h⟩
 have C:(c==3)=false:=by simpa using u
 have A:=av (k (by omega) _ HB);clear m i l k;go_wp2_with fail
 go_ret
 exact⟨1,rfl,A⟩
section
variable {p:mL} {s:Sy} {d:gW} {w:ah}
theorem bD.do(r:bD p s d w){o a b:Int}(y:I2 (a,b)){m:Nat}(x:Tm (m+1))(z:In w.heap.size w (m+1) x/\cE (λq=>¬1<=d.ow q) (m+1) x)(B:(aF (m+1) x).length<=2097152)(D:d.k<=91000)(A:d.es.length<=96000)(E:d.wn<=800000)(C:d.bn<=800000):au 58 #[aC p.b,.agg #[ae o,ae a,ae b,ae x.1.1,ae x.1.2.1,ag x.1.2.2,af x.2.1.1 x.2.2.length x.2.1.2]] w λe w'=>∃v,e=.returned (ae v)/\Hid (v=(s.do p.n p.prog p.room o a b (m+1) x).2/\∃f,bD p (s.do p.n p.prog p.room o a b (m+1) x).1 f w'/\gD 201 402 d f w w'):=by
 obtain⟨t,g⟩:∃t,t=s.do p.n p.prog p.room o a b (m+1) x:=⟨_,rfl⟩;rw[<-g];unfold Sy.do at g;refine LR p.b o a b x.1.1 x.1.2.1 x.1.2.2 x.2.1.1 x.2.2.length x.2.1.2 w (λv w'=>v=t.2/\∃f,bD p t.1 f w'/\gD 201 402 d f w w') (λe u c=>?_) (λe u c=>?_) (λe u c=>?_) λe u c=>?_
 ·rw[if_pos e]at g;refine((r.later c).run y.1 D A E C).mono ?_;rintro e w' ⟨v,rfl,h⟩;obtain⟨i,f,j,l⟩:=h.out;rw[g];exact⟨v,rfl,i,f,j,((ew.later d c).un.trans l).mono (by omega) (by omega)⟩
 ·rw[if_neg (by omega),if_pos e]at g;refine((r.later c).arrive y (by omega) (by omega) (by omega)).mono ?_;rintro e w' ⟨v,rfl,h⟩;obtain⟨i,f,j,l⟩:=h.out;rw[g];exact⟨v,rfl,i,f,j,((ew.later d c).un.trans l).mono (by omega) (by omega)⟩
 ·rw[if_neg (by omega),if_neg (by omega),if_pos e]at g;refine((r.later c).inject y.1 x ⟨(z.1.below c).mono c.size,z.2⟩ B (by omega) (by omega)).mono ?_;rintro e w' ⟨v,rfl,h⟩;obtain⟨i,f,j,l⟩:=h;rw[g];exact⟨v,rfl,i,f,j,((ew.later d c).un.trans l).mono (by omega) (by omega)⟩
 ·rw[if_neg (by omega),if_neg (by omega),if_neg (by omega)]at g;rw[g];exact⟨rfl,d,r.later c,(ew.later d c).un.mono (by omega) (by omega)⟩
end
theorem Ji(y:aw)(A z:Nat)(room E:Int)(w:ah)(n:Int->Int->aq->aw->Nat->Nat->bE)(r:aw->Nat->Nat->bE)(R:ax->Int->bE)(x:Hid (au 82 #[af y A z] w λe w'=>∃y0 y1 y2 ya yl yc,e=.returned (.tuple #[.agg #[ae y0,ae y1,ag y2,af ya yl yc],ae E])/\Hid (n y0 y1 y2 ya yl yc w')))(j:Hid (E=0->(0<=room/\room<=1000)->∀y0 y1 y2 ya yl yc W b,n y0 y1 y2 ya yl yc W->ap W b->au 54 #[.agg #[ae y0,ae y1,ag y2,af ya yl yc]] b λe w'=>∃a l c h,e=.returned (.tuple #[af a l c,ae h])/\Hid (r a l c w')))(g:Hid (∀y0 y1 y2 ya yl yc W b,n y0 y1 y2 ya yl yc W->ap W b->(E≠0->R (.pointer none) E b)/\(E=0->¬(0<=room/\room<=1000)->R (.pointer none) 1 b)))(k:Hid (∀a l c W,E=0->(0<=room/\room<=1000)->r a l c W->R (aC W.heap.size) 0 (W.alloc (.cells #[af a l c,ae room,ae 0,.map none,.map none,.map none,af none 0 0] 139)))):au 55 #[af y A z,ae room] w λe w'=>∃v h,e=.returned (.tuple #[v,ae h])/\Hid (R v h w'):=by
 go_enter func55,ntmps55;go_wp2_with fail;refine x.mono ?_;rintro e i ⟨y0,y1,y2,ya,yl,yc,rfl,d⟩;clear x;have m:Hid (∀o,ap i (i.alloc o)):=λo=>aT _ o;by_cases p:E=0;rotate_left
 ·have f:Hid (∀o,R (.pointer none) E (i.alloc o)):=λo=>(g _ _ _ _ _ _ _ _ d (m o)).1 p;have F:(E==0)=false:=by simpa using p
  clear j g k d;go_wp2_with fail;exact aB (v:=.tuple #[.pointer none,ae E]) (by simp[results,results55,go_sem]) rfl ⟨_,_,rfl,f _⟩
 subst p;by_cases q:0<=room/\room<=1000;rotate_left
 ·have f:Hid (∀o,R (.pointer none) 1 (i.alloc o)):=λo=>(g _ _ _ _ _ _ _ _ d (m o)).2 rfl q;clear j g k d;by_cases B:room<0
  ·go_wp2_with fail;exact aB (v:=.tuple #[.pointer none,ae 1]) (by simp[results,results55,go_sem]) rfl ⟨_,_,rfl,f _⟩
  ·have C:1000<room:=by omega
   go_wp2_with fail;exact aB (v:=.tuple #[.pointer none,ae 1]) (by simp[results,results55,go_sem]) rfl ⟨_,_,rfl,f _⟩
 have t:=av (λb=>j rfl q y0 y1 y2 ya yl yc i b d);have u:=av (λa l c W=>k a l c W rfl q);have B:¬room<0:=by omega
 have C:¬1000<room:=by omega
 clear j k g d;go_wp2_with fail;refine(t _ (m _)).mono ?_;rintro e D ⟨a,l,c,h,rfl,s⟩;have f:=av (u _ _ _ _ s);clear t u s;go_wp2_with fail;exact aB (v:=.tuple #[aC D.heap.size,ae 0]) (by simp[results,results55,go_sem]) rfl ⟨_,_,rfl,f⟩
def Qd:Sy:=⟨0,[],λ_=> [],λ_=>false,[]⟩
def Di(n:Nat)(l:List (Bh (n+1)))(room:Int):Int:=if oI n l≠0 then oI n l else if 0<=room/\room<=1000 then 0 else 1
def PV(n:Nat)(l:List (Bh (n+1)))(room:Int)(w:ah)(v:ax)(d:Int)(w':ah):Prop:=
 d=Di n l room/\ap w w'/\(d≠0->v=.pointer none)/\(d=0->∃(a:mL)(c:gW),v=aC a.b/\bD a Qd c w'/\(c.k=0/\c.es=[]/\c.wn=0/\c.bn=0)/\a.room=room/\a.lo=w.heap.size/\a.n=n+5/\aH (a.n+6) (cW a.n a.prog) (n+6) (cW n l)=true)
theorem LZ(n:Nat)(l:List (Bh (n+1)))(y:aw)(q:Nat)(room:Int)(w:ah)(U:iV (n+1) w.heap.size w y l)(V:l.length<=q)(W:q<=maxLen)(F:lj (n+1) l=true->(aF (n+6) (cW n l)).length<=2097152):au 55 #[af y l.length q,ae room] w λe w'=>∃v M,e=.returned (.tuple #[v,ae M])/\Hid (PV n l room w v M w'):=by
 refine Ji y l.length q room (oI n l) w (λy0 y1 y2 ya yl yc d=>ap w d/\∃f:Tm (n+6),(f.1=(y0,y1,y2)/\f.2.1=(ya,yc)/\f.2.2.length=yl)/\In d.heap.size d (n+6) f/\aH (n+6) f (n+6) (Jt n l)=true)
  (λi h c d=>∃g:List (Bh (n+6)),g.length=h/\(∃A,ap w A/\ap A d)/\(h<=c/\c<=maxLen)/\iV (n+6) d.heap.size d i g/\uD (kE (n+6) λb=>w.heap.size<=b) (λb=>w.heap.size<=b) i g/\oI (n+5) g=0/\aH (n+11) (cW (n+5) g) (n+6) (cW n l)=true) (PV n l room w) ?_ (λj u y0 y1 y2 ya yl yc d r p o=>?_) (λy0 y1 y2 ya yl yc d r p o=>⟨λj=>?_,λj u=>?_⟩) λi h c d j u hF=>?_
 ·refine(Me n l y q V W w.heap.size w U (ay _) F).mono ?_;rintro e w' ⟨f,rfl,z⟩;obtain⟨O,P,aj,Q⟩:=z.out;exact⟨f.1.1,f.1.2.1,f.1.2.2,f.2.1.1,f.2.2.length,f.2.1.2,rfl,O,f,⟨rfl,rfl,rfl⟩,P,Q⟩
 ·obtain⟨m,f,⟨f1,f2,f3⟩,D,x⟩:=p;obtain⟨⟨av,ax,az⟩,⟨aA,aB⟩,aC⟩:=f;simp only[gQ]at f1 f2;obtain⟨rfl,rfl,rfl⟩:=f1;obtain⟨rfl,rfl⟩:=f2;subst f3;obtain⟨t1,t2,t3⟩:=Jv j x;refine(Ch (n+5) (n+6) (ay _) _ r.heap.size r ((D.below o).mono o.size) (gG t1) (ay _)).mono ?_;rintro e w' ⟨g,i,c,rfl,z⟩;obtain⟨aa,ab,ad,ag,an,ai⟩:=z;obtain⟨a,Y,Z⟩:=ai t2;obtain⟨ao,K,L,aq,ar⟩:=t3 a g Y Z;have G:=m.trans (o.mono m.size);have am:=G.size;have h:=cZ (eK (n+6)) 2 (rJ (n+6)) i;rw[(gO K).2.2,(gO j).2.2]at L;exact⟨i,g.length,c,_,rfl,g,rfl,⟨r,G,aa⟩,ab,ad,h.1 _ _ _ (λb a=>by omega) ag,K,L⟩
 ·have m:=p.1.trans (o.mono p.1.size);exact⟨by unfold Di;rw[if_pos j],m,λ_=>rfl,λa=>absurd a j⟩
 ·have m:=p.1.trans (o.mono p.1.size);exact⟨by unfold Di;rw[if_neg (by rw[j];decide),if_neg u],m,λ_=>rfl,(λa=>by cases a)⟩
 ·obtain⟨g,rfl,⟨A,E,N⟩,H,C,I,X,x⟩:=hF;have m:=E.trans (N.mono E.size);have J:=m.size;have s:ap d (d.alloc (.cells #[af i g.length c,ae room,ae 0,.map none,.map none,.map none,af none 0 0] 139)):=aT _ _;generalize R:d.alloc (.cells #[af i g.length c,ae room,ae 0,.map none,.map none,.map none,af none 0 0] 139)=B at s;have t:B.heap[d.heap.size]?=some (.cells #[af i g.length c,ae room,ae 0,.map none,.map none,.map none,af none 0 0] 139):=by
   rw[<-R];exact aI _ _
  have al:=(aN.1 t).1;refine⟨by unfold Di;rw[if_neg (by rw[j];decide),if_pos u],m.trans (s.mono m.size),λa=>absurd rfl a,λ_=>⟨⟨w.heap.size,d.heap.size,room,n+5,g,i,c⟩,⟨λb=>if b=d.heap.size then -5 else if w.heap.size<=b/\b<d.heap.size then -4 else 0,none,[],none,0,λ_=> [],λ_=>nr,none,0,af none 0 0,[],0⟩,rfl,?_,⟨rfl,rfl,rfl,rfl⟩,rfl,rfl,rfl,x⟩⟩;have h:=cZ (eK (n+6)) 2 (rJ (n+6)) i;refine⟨λb a=>?_,t,if_pos rfl,⟨⟨?_,?_⟩,H.1,H.2,X,?_⟩,ak ⟨rfl,rfl⟩,⟨rfl,List.nodup_nil,by simp[Qd],by decide,by decide,by simp[Qd]⟩,?_,⟨⟨J,(rB t).1,ak ⟨rfl,rfl,rfl⟩⟩,?_,λ_=>rfl,λ_=>aK _,?_⟩,⟨⟨J,(rB t).2,ak ⟨rfl,rfl⟩⟩,?_,(λb a=>by cases a)⟩,⟨eV _ _ _ _,(λb a=>by cases a)⟩,rfl,(λe S=>by cases S)⟩
  ·have a:(if b=d.heap.size then (-5:Int)else if w.heap.size<=b/\b<d.heap.size then -4 else 0)≠0:=a;show w.heap.size<=b/\b<B.heap.size;split at a
   ·omega
   ·split at a
    ·omega
    ·exact absurd rfl a
  ·exact h.2.2.2.1 _ _ _ _ s.size (h.2.2.1 _ _ _ B _ (λb a=>s.block b a.2) (h.2.1 _ _ _ _ I C) C)
  ·refine h.1 _ _ _ (λb a=>?_) (h.2.1 _ _ _ _ I C);exact(if_neg (by omega)).trans (if_pos ⟨a.1,a.2⟩)
  ·rw[lm _ _ _ _ x];exact F (gO j).1
  ·intro k b a;cases a
  ·intro b a;rcases a with a|a|⟨k,_,a⟩
   ·exact ak a
   ·cases a
   ·cases a
  ·intro k f D;cases D
  ·intro k T;cases T
theorem M4{P:List (Bh (n+1))}{Q:List (Bh (m+1))}(d:aH (n+6) (cW n P) (m+6) (cW m Q)=true)(f:oI n P=0)(g:oI m Q=0){s:Sy}(q:∀a nm cs c,s.get a=some (nm,cs,c)->(bJ 13 cs=0/\aV 13 cs=true)/\∀t∈c,bJ 13 t=0/\aV 13 t=true)(v:0<=s.last/\s.last<=90)(room i a b:Int)(k:Nat)(x:Tm k):s.do n P room i a b k x=s.do m Q room i a b k x:=by
 have p:lV n P=lV m Q:=funext λnm=>wj d nm;have r:s.run n P room a=s.run m Q room a:=by
  unfold Sy.run;cases e:s.get a with
  | none=>rfl
  | some u=>
   obtain⟨nm,cs,c⟩:=u;obtain⟨j,l⟩:=q a nm cs c e;have h:=Jl d f g room nm a (s.last+1) ⟨by omega,by omega⟩ j l;have o:rA n room P nm a (s.last+1) cs c=rA m room Q nm a (s.last+1) cs c:=by
    unfold rA;rw[h,f,g]
   simp only[o,h,Sy.made,p];split
   ·cases ou room Q nm a (s.last+1) cs c<;>rfl
   ·rfl
 unfold Sy.do;rw[r]
theorem Fy{P:List (Bh (n+1))}{Q:List (Bh (m+1))}(a:aH (n+6) (cW n P) (m+6) (cW m Q)=true)(s:Sy)(room:Int)(nm:aq)(k:Nat)(x:Tm k):s.start n P room nm k x=s.start m Q room nm k x:=by
 unfold Sy.start;rw[wj a]
theorem KV{P:List (Bh (n+1))}{x:Tm k}{y:Tm j}(c:aH k x j y=true)(s:Sy)(room a b:Int):s.do n P room 3 a b k x=s.do n P room 3 a b j y:=by
 unfold Sy.do Sy.inject;rw[bN c,cF _ _ _ _ c,gA c]
def wA:aq:=⟨#[97]⟩
def vK(c:UInt8):Bool:=decide (48<=(c.toNat:Int)) && decide ((c.toNat:Int)<=57)
def iU(l:List UInt8):Bool:=l.all vK
def mj(l:List UInt8):Int:=l.foldl (λn c=>10*n+((c.toNat:Int)-48)) 0
def fk(s:aq)(m:Int):Bool:=decide (1<=(s.size:Int)) && decide ((s.size:Int)<=m) && !(s.data.toList[0]?==some 48 && decide (1<(s.size:Int))) && iU s.data.toList
theorem vL(s:aq)(k:Nat)(a:k<s.size):iU (s.data.toList.take (k+1))=(iU (s.data.toList.take k) && vK s[k]):=by
 rw[tN s k a];simp[iU]
theorem IL(s:aq)(k:Nat)(a:k<s.size):mj (s.data.toList.take (k+1))=10*mj (s.data.toList.take k)+((s[k].toNat:Int)-48):=by
 rw[tN s k a];simp[mj]
theorem EP(l:List UInt8):iU l=true->0<=mj l/\mj l<10 ^ l.length:=by
 suffices g:∀(l:List UInt8)(a:Int)(b:Nat),iU l=true->0<=a->a<10 ^ b->0<=l.foldl (λn c=>10*n+((c.toNat:Int)-48)) a/\l.foldl (λn c=>10*n+((c.toNat:Int)-48)) a<10 ^ (b+l.length) by
  intro d;have:=g l 0 0 d (by omega) (by simp);simpa [mj]using this
 intro l
 induction l with
 | nil=>intro a b _ e f;exact⟨e,f⟩
 | cons c l ih=>
  intro a b d e f;simp only[iU,jv,aO,vK,cT]at d;have:=ih (10*a+((c.toNat:Int)-48)) (b+1) (by simp only[iU];exact d.2) (by omega) (by rw[Int.pow_succ];omega);simp only[gf,bt];rw[show b+(l.length+1)=b+1+l.length by omega];exact this
theorem EQ(s:aq)(k:Nat)(d:k<=14)(c:iU (s.data.toList.take k)=true):0<=mj (s.data.toList.take k)/\mj (s.data.toList.take k)<100000000000000:=by
 have a:=EP _ c;refine⟨a.1,Int.lt_of_lt_of_le a.2 ?_⟩;have:(10:Int) ^ (s.data.toList.take k).length<=10 ^ 14:=by
  have b:(10:Nat) ^ (s.data.toList.take k).length<=10 ^ 14:=Nat.pow_le_pow_right (by omega) (by simp;omega)
  exact_mod_cast b
 simpa using this
theorem yh(s:aq)(k:Nat)(a:k<s.size)(c:vK s[k]=false):iU s.data.toList=false:=by
 have b:iU s.data.toList=(iU (s.data.toList.take (k+1)) && iU (s.data.toList.drop (k+1))):=by
  conv=>lhs;rw[<-iL (k+1) s.data.toList]
  simp only[iU,lu]
 rw[b,vL s k a,c];simp
theorem si(s:aq)(a:0<s.size):s.data.toList[0]?=some s[0]:=by
 rw[aS (by simpa using a)];rfl
theorem Pg(s:aq)(e:0<s.size)(f:s[0]=48):(s.toList==[48])=decide (¬1<s.size):=by
 rw[cC];have b:=si s e;rw[f]at b;have a:s.data.toList.length=s.size:=by simp
 cases d:s.data.toList with
 | nil=>rw[d]at a;simp at a;omega
 | cons c l=>
  rw[d]at b a;simp at b;subst b;cases l with
  | nil=>simp at a;simp;omega
  | cons g l=>simp at a;simp;omega
theorem Df(b:0<s.size):s.toList.isEmpty=false:=by
 rw[cC,List.isEmpty_eq_false_iff];intro a;have:s.data.toList.length=s.size:=by simp
 rw[a]at this;simp at this;omega
theorem De(a:¬0<s.size):s.toList.isEmpty=true:=by
 rw[cC,List.isEmpty_iff];apply bZ;have:s.data.toList.length=s.size:=by simp
 omega
theorem kO{c:UInt8}{d:UInt8}(b:d.toNat=k)(a:¬c=d):¬((c.toNat:Int)=k):=λe=>a (UInt8.toNat.inj (by omega))
def OO(s:aq)(m:Int)(e:Ending):Prop:=
 ∃(a:Int)(b:Bool),e=.returned (.tuple #[ae a,.bool b])/\Hid (b=fk s m/\0<=a/\a<100000000000000/\(b=true->a=mj s.data.toList))
theorem pd(s:aq)(m:Int)(w:ah)(E:s.size<=9223372036854775807)(D:m<=13):au 111 #[ag s,ae m] w λe w'=>OO s m e/\w'=w:=by
 go_enter func111,ntmps111;by_cases g:0<s.size
 ·have n:=Df g;have A:(s.toList=[])=False:=by simpa using n
  by_cases l:(s.size:Int)<=m
  ·have z:decide (m<(s.size:Int))=false:=by simp;omega
   have i:s[0]=48->(s.toList==[48])=decide (¬1<s.size):=Pg s g;by_cases c:s[0]=48/\1<s.size
   ·obtain⟨c,a⟩:=c;have j:(s.toList==[48])=false:=by rw[i c];simp;omega
    have b:Hid (fk s m=false):=by simp[Hid,fk,si s g,c];omega
    clear i;go_wp2_with fail
    all_goals go_ret2
    all_goals exact⟨⟨0,false,rfl,b.symm,by omega,by omega,by simp⟩,rfl⟩
   ·have b:Hid (fk s m=iU s.data.toList):=by
      simp only[Hid,fk];rw[si s g];by_cases a:s[0]=48
      ·have:¬1<s.size:=λf=>c ⟨a,f⟩;simp[l];omega
      ·simp[l,a];omega
    have j:(s[0]=48/\(s.toList==[48])=true)\/¬((s[0].toNat:Int)=48):=by
     by_cases a:s[0]=48
     ·have B:¬1<s.size:=λf=>c ⟨a,f⟩;exact ak ⟨a,by rw[i a];simp;omega⟩
     ·exact am (kO (k:=48) rfl a)
    clear i c;rcases j with⟨a,j⟩|j
    all_goals
     go_wp2_with fail
     go_loop [6,7] (λt p=>∃k:Nat,∃h:Int,k<=s.size/\p=ae k/\t=ae h/\Hid (h=mj (s.data.toList.take k)/\iU (s.data.toList.take k)=true)) (λ_ p=>s.size-(intOf p).toNat)
     case atStart=>exact⟨0,0,aK _,rfl,rfl,by simp[Hid,iU,mj]⟩
     case round=>
      obtain⟨k,h,C,rfl,rfl,d⟩:=hrel;have r:=EQ s k (by omega) d.2;rw[<-d.out.1]at r;obtain⟨F,G⟩:=r;by_cases o:k<s.size
      ·have x:=av (vL s k o);have y:=av (IL s k o);have q:Hid (vK s[k]=false->false=fk s m):=λf=>by rw[b.out,yh s k o f]
       by_cases d1:48<=(s[k].toNat:Int)
       ·by_cases d2:(s[k].toNat:Int)<=57
        ·go_wp2_with fail
         go_round
         case rel=>exact⟨k+1,10*h+((s[k].toNat:Int)-48),by omega,by go_num,by go_num,by rw[y.out,d.out.1],by rw[x.out,d.out.2];simp[vK,d1,d2]⟩
         case measure=>simp[intOf];omega
        ·go_wp2_with fail
         go_ret2
         exact⟨⟨0,false,rfl,q (by simp[vK,d2]),by omega,by omega,by simp⟩,rfl⟩
       ·go_wp2_with fail
        go_ret2
        exact⟨⟨0,false,rfl,q (by simp[vK];omega),by omega,by omega,by simp⟩,rfl⟩
      ·go_wp2_with fail
       go_ret2
       have u:s.data.toList.take k=s.data.toList:=bF (by simp;omega);refine⟨⟨h,true,rfl,?_,by omega,by omega,λ_=>?_⟩,rfl⟩
       ·rw[b.out,<-u,d.out.2]
       ·rw[d.out.1,u]
  ·have z:m<(s.size:Int):=by omega
   have b:Hid (fk s m=false):=by simp[Hid,fk,l]
   go_wp2_with fail
   all_goals go_ret2
   all_goals exact⟨⟨0,false,rfl,b.symm,by omega,by omega,by simp⟩,rfl⟩
 ·have n:=De g;have A:(s.toList=[])=True:=by simpa using n
  have v:s.size=0:=by omega
  have b:Hid (fk s m=false):=by simp[Hid,fk,v]
  clear v;go_wp2_with fail
  all_goals go_ret2
  all_goals exact⟨⟨0,false,rfl,b.symm,by omega,by omega,by simp⟩,rfl⟩
def iF(s:aq):aq:=s.extract 1 s.size
def gB(s:aq):Bool:=
 if s.data.toList[0]?=some 35 then fk (iF s) 2
 else if s.data.toList[0]?=some 36 then fk (iF s) 2
 else if s.data.toList[0]?=some 45 then fk (iF s) 13 && !(mj (iF s).data.toList==0)
 else if s.toList==[95]then true
 else if fk s 13 then true
 else decide (0<s.size) && gC s.data.toList
def ng(s:aq):Int×Int×aq:=
 if s.data.toList[0]?=some 35 then (3,mj (iF s).data.toList,⟨#[]⟩)
 else if s.data.toList[0]?=some 36 then (5,mj (iF s).data.toList,⟨#[]⟩)
 else if s.data.toList[0]?=some 45 then (1,-mj (iF s).data.toList,⟨#[]⟩)
 else if s.toList==[95]then (6,0,⟨#[]⟩)
 else if fk s 13 then (1,mj s.data.toList,⟨#[]⟩)
 else (2,0,s)
def MB(s:aq)(e:Ending):Prop:=
 ∃(k a:Int)(t:aq)(b:Bool),e=.returned (.tuple #[.agg #[ae k,ae a,ag t,af none 0 0],.bool b])/\Hid (b=gB s/\(b=true->(k,a,t)=ng s)/\t.size<=s.size/\dm k/\dm a)
theorem FD(s:aq):(iF s).size<=s.size:=by simp[iF]
def OM(k:Int)(s:aq)(e:Ending):Prop:=
 ∃(a:Int)(b:Bool),e=.returned (.tuple #[.agg #[ae k,ae a,ag ⟨#[]⟩,af none 0 0],.bool b])/\Hid (b=fk s 2/\0<=a/\a<100000000000000/\(b=true->a=mj s.data.toList))
theorem sy(k:Int)(s:aq)(w:ah)(c:s.size<=9223372036854775807):au 110 #[ae k,ag s] w λe w'=>OM k s e/\ap w w':=by
 go_enter func110,ntmps110;go_wp2_with (go_at_call 111;refine(pd _ _ _ c (by omega)).mono ?_;rintro e w' ⟨⟨v,b,rfl,a⟩,rfl⟩);exact aB (v:=.tuple #[.agg #[ae k,ae v,ag ⟨#[]⟩,af none 0 0],.bool b]) (by simp[results,results110,go_sem]) rfl ⟨⟨v,b,rfl,a⟩,by go_grown⟩
theorem He(s:aq)(w:ah)(b:s.size<=2048):au 112 #[ag s] w λe w'=>e=.returned (ag s)/\ap w w':=by
 go_enter func112,ntmps112;go_wp2_with (go_at_call 143;refine(Tryz.stringslite_Clone s w (by omega)).mono ?_;rintro e w' ⟨rfl,a⟩)
 go_ret
 exact⟨rfl,a⟩
theorem Hl(s:aq)(a:0<s.size)(b:vK s[0]=false)(m:Int):fk s m=false:=by simp[fk,yh s 0 a b]
theorem IA(s:aq)(a:0<s.size)(c:Au s[0]=false):gC s.data.toList=false:=by
 have b:gC s.data.toList=(gC (s.data.toList.take 1) && gC (s.data.toList.drop 1)):=by
  conv=>lhs;rw[<-iL 1 s.data.toList]
  simp only[gC,lu]
 rw[b,wE s 0 a,c];simp
theorem OW(s:aq)(d:0<s.size)(b:¬s[0]=95):(s.toList==[95])=false:=by
 rw[cC];have a:=si s d;cases hl:s.data.toList with
 | nil=>rfl
 | cons c l=>
  rw[hl]at a;simp at a;rw[<-a]at b;simp[b]
def qp(k a:Int)(t:aq):ax:=.agg #[ae k,ae a,ag t,af none 0 0]
theorem dO(a: -100000000000000<=d)(b:d<=100000000000000):dm d:=⟨by omega,by omega⟩
theorem zL{t:TypeId}(c:Below (w.alloc (.cells #[v0,v1,v2,v3] t)).heap.size (w.alloc (.cells #[v0,v1,v2,v3] t)) w'):(ai w' w.heap.size 0 v0/\ai w' w.heap.size 1 v1/\ai w' w.heap.size 2 v2/\ai w' w.heap.size 3 v3)/\ (w'.frozen? ⟨w.heap.size,0,none⟩=false/\w'.frozen? ⟨w.heap.size,1,none⟩=false/\w'.frozen? ⟨w.heap.size,2,none⟩=false/\w'.frozen? ⟨w.heap.size,3,none⟩=false):=by
 have a:=λo=>c.cell (p:=⟨w.heap.size,o,none⟩) (by simp);have b:=λo=>c.frozen (p:=⟨w.heap.size,o,none⟩) (by simp);exact⟨⟨(a 0).trans (by simp[go_sem]),(a 1).trans (by simp[go_sem]),(a 2).trans (by simp[go_sem]),(a 3).trans (by simp[go_sem])⟩,(b 0).trans (by simp[go_sem]),(b 1).trans (by simp[go_sem]),(b 2).trans (by simp[go_sem]),(b 3).trans (by simp[go_sem])⟩
theorem Ex(e:Below (w.alloc o).heap.size (w.alloc o) w')(a b c d:ax):ap w ((((w'.setCell ⟨w.heap.size,0,none⟩ a).setCell ⟨w.heap.size,1,none⟩ b).setCell ⟨w.heap.size,2,none⟩ c).setCell ⟨w.heap.size,3,none⟩ d):=by
 have f:ap w w':=(aT _ _).trans (e.mono (by simp))
 go_grown
theorem I6(s:aq)(w:ah)(y:s.size<=2048):au 76 #[ag s] w λe w'=>MB s e/\ap w w':=by
 have D:=FD s;by_cases g:0<s.size
 ·have p:=Df g;have u:(s.toList=[])=False:=by simpa using p
  have i:=av (si s g);have C:(1:Int)<=s.size:=by omega
  by_cases j:s[0]=95
  ·have c:Hid (gB s=(s.toList==[95])/\((s.toList==[95])=true->ng s=(6,0,⟨#[]⟩))):=by
     simp only[Hid,gB,ng,i.out,j,Hl s g (by simp[vK,j]) 13,IA s g (by simp[Au,j])];cases h:(s.toList==[95])<;>simp
   go_enter func76,ntmps76;go_wp2_with fail;exact aB (v:=.tuple #[qp 6 0 ⟨#[]⟩,.bool (s.toList==[95])]) (by simp[results,results76,go_sem,qp]) rfl ⟨⟨6,0,⟨#[]⟩,_,rfl,c.1.symm,λh=>(c.2 h).symm,aK _,dO (by omega) (by omega),dO (by omega) (by omega)⟩,by go_grown⟩
  ·have d1:=kO (k:=95) (d:=95) rfl j;by_cases q:s[0]=35
   ·have c:Hid (gB s=fk (iF s) 2/\ng s=(3,mj (iF s).data.toList,⟨#[]⟩)):=by
      simp[Hid,gB,ng,i.out,q]
    go_enter func76,ntmps76;go_wp2_with (go_at_call 110;refine(sy 3 (iF s) _ (by omega)).mono ?_;rintro e w' ⟨⟨v,b,rfl,a⟩,f⟩;obtain⟨⟨l,m,n,o⟩,f0,f1,f2,f3⟩:=zL f;have HB:=av (Ex f);clear f);exact aB (v:=.tuple #[qp 3 v ⟨#[]⟩,.bool b]) (by simp[results,results76,go_sem,qp,l,m,n,o]) rfl ⟨⟨3,v,⟨#[]⟩,_,rfl,by rw[c.out.1,a.out.1],λh=>by rw[c.out.2,a.out.2.2.2 h],aK _,dO (by omega) (by omega),dO (by have:=a.2.1;omega) (by have:=a.2.2.1;omega)⟩,HB _ _ _ _⟩
   ·have d2:=kO (k:=35) (d:=35) rfl q;by_cases r:s[0]=36
    ·have c:Hid (gB s=fk (iF s) 2/\ng s=(5,mj (iF s).data.toList,⟨#[]⟩)):=by
       simp[Hid,gB,ng,i.out,r]
     go_enter func76,ntmps76;go_wp2_with (go_at_call 110;refine(sy 5 (iF s) _ (by omega)).mono ?_;rintro e w' ⟨⟨v,b,rfl,a⟩,f⟩;obtain⟨⟨l,m,n,o⟩,f0,f1,f2,f3⟩:=zL f;have HB:=av (Ex f);clear f);exact aB (v:=.tuple #[qp 5 v ⟨#[]⟩,.bool b]) (by simp[results,results76,go_sem,qp,l,m,n,o]) rfl ⟨⟨5,v,⟨#[]⟩,_,rfl,by rw[c.out.1,a.out.1],λh=>by rw[c.out.2,a.out.2.2.2 h],aK _,dO (by omega) (by omega),dO (by have:=a.2.1;omega) (by have:=a.2.2.1;omega)⟩,HB _ _ _ _⟩
    ·have d3:=kO (k:=36) (d:=36) rfl r;by_cases t:s[0]=45
     ·have c:Hid (gB s=(fk (iF s) 13 && !(mj (iF s).data.toList==0))/\ng s=(1,-mj (iF s).data.toList,⟨#[]⟩)):=by
        simp[Hid,gB,ng,i.out,t]
      go_enter func76,ntmps76;go_wp2_with (go_at_call 111;refine(pd (iF s) 13 _ (by omega) (by omega)).mono ?_;rintro e w' ⟨⟨v,b,rfl,a⟩,rfl⟩;obtain⟨A,B⟩:=(⟨a.2.1,a.2.2.1⟩:0<=v/\v<100000000000000);cases b)
      ·exact aB (v:=.tuple #[qp 1 (-v) ⟨#[]⟩,.bool false]) (by simp[results,results76,go_sem,qp]) rfl ⟨⟨1,-v,⟨#[]⟩,_,rfl,by rw[c.out.1,<-a.out.1];rfl,by simp,aK _,dO (by omega) (by omega),dO (by omega) (by omega)⟩,by go_grown⟩
      ·exact aB (v:=.tuple #[qp 1 (-v) ⟨#[]⟩,.bool (v !=0)]) (by simp[results,results76,go_sem,qp]) rfl ⟨⟨1,-v,⟨#[]⟩,_,rfl,by rw[c.out.1,<-a.out.1,<-a.out.2.2.2 (by trivial)];simp[bne],λ_=>by rw[c.out.2,a.out.2.2.2 (by trivial)],aK _,dO (by omega) (by omega),dO (by omega) (by omega)⟩,by go_grown⟩
     ·have d4:=kO (k:=45) (d:=45) rfl t;have c:Hid (gB s=(fk s 13 || gC s.data.toList)/\(ng s=if fk s 13=true then (1,mj s.data.toList,⟨#[]⟩)else (2,0,s))):=by
       simp only[Hid,gB,ng,i.out,OW s g j];simp[q,r,t];cases fk s 13<;>simp[g]
      go_enter func76,ntmps76
      go_wp2_with (first
       | (go_at_call 111;refine(pd s 13 _ (by omega) (by omega)).mono ?_;rintro e w' ⟨⟨v,b,rfl,a⟩,rfl⟩;obtain⟨A,B⟩:=(⟨a.2.1,a.2.2.1⟩:0<=v/\v<100000000000000);cases b)
       | (go_at_call 112;refine(He s _ y).mono ?_;rintro e E ⟨rfl,f⟩;obtain⟨⟨l,m,n,o⟩,f0,f1,f2,f3⟩:=zL f;have HB:=av (Ex f);clear f)
       | (go_at_call 113;refine(uj s _ (by omega)).mono ?_;rintro e F ⟨rfl,rfl⟩))
      ·exact aB (v:=.tuple #[qp 2 0 s,.bool (gC s.data.toList)]) (by simp[results,results76,go_sem,qp,l,m,n,o]) rfl ⟨⟨2,0,s,_,rfl,by rw[c.out.1,<-a.out.1];rfl,λ_=>by rw[c.out.2,<-a.out.1];rfl,ay _,dO (by omega) (by omega),dO (by omega) (by omega)⟩,HB _ _ _ _⟩
      ·exact aB (v:=.tuple #[qp 1 v ⟨#[]⟩,.bool true]) (by simp[results,results76,go_sem,qp]) rfl ⟨⟨1,v,⟨#[]⟩,_,rfl,by rw[c.out.1,<-a.out.1];rfl,λ_=>by rw[c.out.2,<-a.out.1,a.out.2.2.2 (by trivial)];rfl,aK _,dO (by omega) (by omega),dO (by omega) (by omega)⟩,by go_grown⟩
 ·have p:=De g;have u:(s.toList=[])=True:=by simpa using p
  have c:Hid (gB s=false):=by
   have z:s.size=0:=by omega
   have x:s.data.toList=[]:=by rw[<-cC];simpa using p
   simp[Hid,gB,cC,fk,x,z]
  go_enter func76,ntmps76;go_wp2_with fail;exact aB (v:=.tuple #[qp 0 0 ⟨#[]⟩,.bool false]) (by simp[results,results76,go_sem,qp]) rfl ⟨⟨0,0,⟨#[]⟩,_,rfl,c.symm,by simp,aK _,dO (by omega) (by omega),dO (by omega) (by omega)⟩,by go_grown⟩
def OY(c:UInt8):Bool:=c==32
def Ae(c:UInt8):Bool:=c==32 || c==40 || c==41
def gd(p:UInt8->Bool)(s:aq)(i:Nat):Nat:=i+((s.data.toList.drop i).takeWhile p).length
theorem Ge(s:aq)(k:Nat)(a:k<s.size):s.data.toList.drop k=s[k]::s.data.toList.drop (k+1):=by
 rw[fo (by simpa using a)];rfl
theorem zh(a:k<s.size)(b:p s[k]=true):gd p s (k+1)=gd p s k:=by
 unfold gd;rw[Ge s k a,List.takeWhile_cons,if_pos b,bt];omega
theorem zi(a:k<s.size)(b:p s[k]=false):gd p s k=k:=by
 unfold gd;rw[Ge s k a,List.takeWhile_cons,if_neg (by simp[b])];rfl
theorem Dh(a:¬k<s.size):gd p s k=k:=by
 unfold gd;rw[p9 (by simp;omega)];rfl
theorem AU(p:UInt8->Bool)(s:aq)(k:Nat):k<=gd p s k:=kt _ _
theorem GJ(p:UInt8->Bool)(s:aq)(k:Nat)(a:k<=s.size):gd p s k<=s.size:=by
 unfold gd;have b:=(List.takeWhile_sublist (l:=s.data.toList.drop k) p).length_le;have c:(s.data.toList.drop k).length=s.size-k:=by simp
 omega
def dX(s:aq)(i:Nat):Nat:=gd OY s i
def eQ(s:aq)(i:Nat):Nat:=if gd (λc=> !Ae c) s (dX s i)=dX s i/\dX s i<s.size then dX s i+1 else gd (λc=> !Ae c) s (dX s i)
theorem nC(s:aq)(i:Nat):i<=dX s i:=AU _ _ _
theorem DD(s:aq)(i:Nat)(a:i<=s.size):dX s i<=s.size:=GJ _ _ _ a
theorem DE(s:aq)(i:Nat):dX s i<=eQ s i:=by
 unfold eQ;have:=AU (λc=> !Ae c) s (dX s i);split<;>omega
theorem DF(s:aq)(i:Nat)(a:i<=s.size):eQ s i<=s.size:=by
 unfold eQ;have:=GJ (λc=> !Ae c) s (dX s i) (DD s i a);split<;>omega
theorem sQ(s:aq)(i:Nat)(a:dX s i<s.size):dX s i<eQ s i:=by
 unfold eQ;have:=AU (λc=> !Ae c) s (dX s i);split<;>omega
theorem JL(s:aq)(i:Nat)(a:i<=s.size)(b:¬dX s i<s.size):dX s i=s.size/\eQ s i=s.size:=by
 have c:=DD s i a;have d:=DF s i a;have e:=DE s i;omega
def Rd(r:Nat)(s:aq)(b e:Nat)(w:ah):Prop:=w.heap[r]?=some (.cells #[ag s,ae b,ae e] 85)
theorem Rd.cells(a:Rd r s b e w):(w.cell? ⟨r,0,none⟩=some (ag s)/\w.cell? ⟨r,1,none⟩=some (ae b)/\w.cell? ⟨r,2,none⟩=some (ae e))/\w.frozen? ⟨r,1,none⟩=false/\w.frozen? ⟨r,2,none⟩=false:=by
 unfold Rd at a;exact⟨⟨by simp[World.cell?,a],by simp[World.cell?,a],by simp[World.cell?,a]⟩,by simp[World.frozen?,a],by simp[World.frozen?,a]⟩
theorem Rd.set1(a:Rd r s b e w)(k:Nat):Rd r s k e (w.setCell ⟨r,1,none⟩ (ae k)):=by
 unfold Rd at*;simp[World.setCell,bQ,a]
theorem Rd.set2(a:Rd r s b e w)(k:Nat):Rd r s b k (w.setCell ⟨r,2,none⟩ (ae k)):=by
 unfold Rd at*;simp[World.setCell,bQ,a]
theorem Rd.drew(a:Rd r s b e w)(n:Nat):Rd r s b e (w.drewN n):=a
theorem Rd.lt(a:Rd r s b e w):r<w.heap.size:=(aN.1 a).1
theorem np(w:ah)(r o:Nat)(v:ax):w.grownBy (w.setCell ⟨r,o,none⟩ v) (some r):=
 ⟨rfl,rfl,rfl,by simp[World.setCell],λk _ b=>ei w _ v k (λa=>b (by rw[a]))⟩
theorem eX(w:ah)(n:Nat)(q:da):w.grownBy (w.drewN n) q:=⟨rfl,rfl,rfl,ay _,λ_ _ _=>rfl⟩
theorem cm{q:da}(a:w.grownBy w1 q)(k:w1.grownBy w2 q):w.grownBy w2 q:=
 ⟨k.os.trans a.os,k.tape.trans a.tape,k.output.trans a.output,aD a.size k.size,λd b c=>(k.block d (aY b a.size) c).trans (a.block d b c)⟩
theorem KH(c:UInt8)(w:ah):au 74 #[.int .u8 c.toNat] w λe w'=>e=.returned (.bool (Ae c))/\w'=w:=by
 by_cases a:c=32
 ·subst a;go_enter func74,ntmps74;go_wp2_with fail
  all_goals go_ret
  all_goals exact⟨rfl,rfl⟩
 ·have d1:=kO (k:=32) (d:=32) rfl a;by_cases b:c=40
  ·subst b;go_enter func74,ntmps74;go_wp2_with fail
   all_goals go_ret
   all_goals exact⟨rfl,rfl⟩
  ·have d2:=kO (k:=40) (d:=40) rfl b;by_cases f:c=41
   ·subst f;go_enter func74,ntmps74;go_wp2_with fail
    all_goals go_ret
    all_goals exact⟨rfl,rfl⟩
   ·have d3:=kO (k:=41) (d:=41) rfl f;go_enter func74,ntmps74;go_wp2_with fail
    all_goals go_ret
    all_goals exact⟨bY (by rw[show Ae c=false by simp[Ae,a,b,f]];simp;omega),rfl⟩
theorem Mv(r:Nat)(s:aq)(b e:Nat)(w:ah)(a:Rd r s b e w)(h:b<=e)(j:e<=s.size):au 52 #[aC r] w λc w'=>c=.returned (ag (s.extract b e))/\∃n,w'=w.drewN n:=by
 obtain⟨⟨d,f,g⟩,f1,f2⟩:=a.cells;clear a;have i:(b:Int)<=e:=by omega
 have k:(e:Int)<=s.size:=by omega
 go_enter func52,ntmps52;go_wp2_with fail
 go_quiet (fail)
 go_wp2_with fail
 go_ret
 exact⟨by simp,_,rfl⟩
theorem rh{q:da}(a:w.grownBy w1 q)(c:w2.os=w1.os)(d:w2.tape=w1.tape)(e:w2.output=w1.output)(b:w2.heap=w1.heap):w.grownBy w2 q:=
 ⟨c.trans a.os,d.trans a.tape,e.trans a.output,by rw[b];exact a.size,λk f g=>by rw[b];exact a.block k f g⟩
theorem Gf(c:UInt8)(w:ah)(b:Bool)(a:Ae c=b):au 74 #[.int .u8 c.toNat] w λe w'=>e=.returned (.bool b)/\w'=w:=by
 rw[<-a];exact KH c w
theorem sx(r:Nat)(s:aq)(F g:Nat)(w:ah)(e:Rd r s F g w)(J:g<=s.size)(V:s.size<=2048):au 50 #[aC r] w λG w'=>G=.returned (.tuple #[])/\Hid (Rd r s (dX s g) (eQ s g) w'/\w.grownBy w' (some r)):=by
 obtain⟨⟨B,v,x⟩,f1,f2⟩:=e.cells;have z:=av (⟨e.set1 g,np w r 1 (ae g)⟩:_/\_);clear e;go_enter func50,ntmps50;go_wp2_with fail;go_loopw [] (λwr=>∃k:Nat,k<=s.size/\Hid (Rd r s k g wr/\w.grownBy wr (some r)/\gd OY s k=dX s g)/\True) (λwr=>s.size-(intOf ((wr.cell? ⟨r,1,none⟩).getD undef)).toNat)
 case atStart=>exact⟨g,J,⟨z.1,z.2,rfl⟩,trivial⟩
 case round=>
  obtain⟨k,K,j,_⟩:=hrel;obtain⟨⟨B,v,x⟩,f1,f2⟩:=j.out.1.cells;by_cases h:∃e:k<s.size,s[k]=32
  ·obtain⟨b,H⟩:=h;have L:(k:Int)<s.size:=by omega
   have C:decide ((k:Int)<s.size)=true:=by simp;omega
   have u:=av (zh (p:=OY) b (by simp[OY,H]));go_wp2_with fail
   go_quiet (fail)
   go_wp2_with fail;go_roundw
   case rel=>exact⟨k+1,by omega,⟨(j.1.drew nq).set1 (k+1),cm j.2.1 (cm (eX wr nq _) (np _ _ _ _)),by rw[u.out];exact j.2.2⟩,trivial⟩
   case measure=>simp[go_sem,v,intOf];omega
  ·have i:Hid (dX s g=k):=by
     rw[<-j.out.2.2];by_cases b:k<s.size
     ·exact zi (p:=OY) b (by simp[OY];exact λe=>h ⟨b,e⟩)
     ·exact Dh (p:=OY) b
   have I:((¬k<s.size)/\decide ((k:Int)<s.size)=false)\/((k:Int)<s.size/\decide ((k:Int)<s.size)=true/\∃e:k<s.size,((s[k].toNat:Int)==32)=false):=by
    by_cases b:k<s.size
    ·have S:=kO (k:=32) (d:=32) rfl (λe=>h ⟨b,e⟩);exact am ⟨by omega,by simp;omega,b,by simp;omega⟩
    ·exact ak ⟨b,by simp;omega⟩
   clear h;rcases I with⟨b,C⟩|⟨L,C,b,T⟩
   all_goals
    go_wp2_with fail
    go_quiet (fail)
    have A:=av (show Rd r s k k ((wr.drewN nq).setCell ⟨r,2,none⟩ (ae k))/\w.grownBy ((wr.drewN nq).setCell ⟨r,2,none⟩ (ae k)) (some r)from⟨(j.1.drew nq).set2 k,cm j.2.1 (cm (eX wr nq _) (np _ _ _ _))⟩);go_wp2_with fail;go_loopw [] (λq=>∃a:Nat,a<=s.size/\k<=a/\Hid (Rd r s k a q/\w.grownBy q (some r)/\gd (λc=> !Ae c) s a=gd (λc=> !Ae c) s k)/\True) (λq=>s.size-(intOf ((q.cell? ⟨r,2,none⟩).getD undef)).toNat)
    case atStart=>exact⟨k,K,ay _,⟨A.1,A.2,rfl⟩,trivial⟩
    case round=>
     obtain⟨a,U,D,f,_⟩:=hrel;obtain⟨⟨B,v,x⟩,f1,f2⟩:=f.out.1.cells;by_cases h:∃e:a<s.size,Ae s[a]=false
     ·obtain⟨n,o⟩:=h;have y:k<s.size:=Nat.lt_of_le_of_lt D n
      first|exact absurd y b|skip
      all_goals
       have R:(a:Int)<s.size:=by omega
       have E:decide ((a:Int)<s.size)=true:=by simp;omega
       have u:=av (zh (p:=λc=> !Ae c) n (by simp[o]));go_wp2_with fail
       go_quiet ((go_at_call 74;exact Calls.quiet_of_same (Gf s[a] _ _ o)))
       go_wp2_with fail;go_roundw
       case rel=>exact⟨a+1,by omega,by omega,⟨(f.1.drew _).set2 (a+1),cm f.2.1 (cm (eX _ _ _) (np _ _ _ _)),by rw[u.out];exact f.2.2⟩,trivial⟩
       case measure=>simp[go_sem,x,intOf];omega
     ·have t:Hid (gd (λc=> !Ae c) s k=a):=by
        rw[<-f.out.2.2];by_cases b:a<s.size
        ·exact zi (p:=λc=> !Ae c) b (by simp;cases e:Ae s[a];exact absurd ⟨b,e⟩ h;rfl)
        ·exact Dh (p:=λc=> !Ae c) b
      have Q:((¬a<s.size)/\decide ((a:Int)<s.size)=false)\/((a:Int)<s.size/\decide ((a:Int)<s.size)=true/\∃e:a<s.size,Ae s[a]=true):=by
       by_cases b:a<s.size
       ·exact am ⟨by omega,by simp;omega,b,by cases e:Ae s[a];exact absurd ⟨b,e⟩ h;rfl⟩
       ·exact ak ⟨b,by simp;omega⟩
      clear h;rcases Q with⟨n,E⟩|⟨R,E,n,o⟩
      ·have m:Hid (eQ s g=a):=by
         simp only[Hid,eQ,i.out,t.out];rw[if_neg (by omega)]
       go_wp2_with fail
       go_quiet (fail)
       go_wp2_with fail;by_cases l:a=k
       ·first|exact absurd (show a<s.size by omega) n|skip
        all_goals
         subst l
         go_quiet (fail)
         go_wp2_with fail
         go_end0
         refine⟨rfl,?_,rh f.2.1 rfl rfl rfl rfl⟩;rw[i.out,m.out];exact f.1
       ·first|exact absurd (show a=k by omega) l|skip
        all_goals
         have M:((a:Int)==k)=false:=by simp;omega
         have N:(a==k)=false:=by simp;omega
         have O:decide (a=k)=false:=by simp;omega
         have P:decide ((a:Int)=k)=false:=by simp;omega
         clear l
         go_quiet (fail)
         go_wp2_with fail
         go_end0
         refine⟨rfl,?_,rh f.2.1 rfl rfl rfl rfl⟩;rw[i.out,m.out];exact f.1
      ·have y:k<s.size:=Nat.lt_of_le_of_lt D n
       first|exact absurd y b|skip
       all_goals
        go_wp2_with fail
        go_quiet ((go_at_call 74;exact Calls.quiet_of_same (Gf s[a] _ _ o)))
        go_wp2_with fail;by_cases l:a=k
        ·have m:Hid (eQ s g=a+1):=by
           simp only[Hid,eQ,i.out,t.out];rw[if_pos ⟨l,by omega⟩];omega
         subst l
         go_quiet (fail)
         go_wp2_with fail
         go_end0
         refine⟨rfl,?_,cm f.2.1 (cm (eX _ _ _) (np _ _ _ _))⟩;rw[i.out,m.out];exact Rd.set2 f.1 (a+1)
        ·have m:Hid (eQ s g=a):=by
           simp only[Hid,eQ,i.out,t.out];rw[if_neg (by omega)]
         have M:((a:Int)==k)=false:=by simp;omega
         have N:(a==k)=false:=by simp;omega
         have O:decide (a=k)=false:=by simp;omega
         have P:decide ((a:Int)=k)=false:=by simp;omega
         clear l
         go_quiet (fail)
         go_wp2_with fail
         go_end0
         refine⟨rfl,?_,rh f.2.1 rfl rfl rfl rfl⟩;rw[i.out,m.out];exact f.1
abbrev Tok:Type:=Nat×aq
def Gq(x:aq):Bool:=x.toList==[40]
def Cp(x:aq):Bool:=x.toList==[41]
theorem Nj{c:UInt8}(a:(x.toList==[c])=true):x.data.toList=[c]/\x.size=1:=by
 rw[cC]at a;have b:x.data.toList=[c]:=by simpa using a
 refine⟨b,?_⟩;have:x.data.toList.length=x.size:=by simp
 rw[b]at this;simpa using this.symm
theorem wv(a:Cp x=true):gB x=false/\Gq x=false:=by
 obtain⟨b,c⟩:=Nj a;simp[gB,Gq,fk,cC,b,iU,vK,gC,Au]
def GW{a:Type}(f:a->List Tok->List Tok->Prop):List a->List Tok->List Tok->Prop
 | [],ts,r=>ts=r
 | x::l,ts,r=>∃m,f x ts m/\GW f l m r
def Is:(n:Nat)->Tm n->List Tok->List Tok->Prop
 | 0,_,_,_=>False
 | n+1,x,ts,r=>∃t a,ts=t::a/\((Gq t.2=false/\gB t.2=true/\x.1=ng t.2/\x.2.2=[]/\r=a)\/
    (Gq t.2=true/\x.1=(4,0,⟨#[]⟩)/\∃c,GW (Is n) x.2.2 a (c::r)/\Cp c.2=true))
theorem GW.snoc{b:Type}{f:b->List Tok->List Tok->Prop}{x:b}{r:List Tok}:{l:List b}->{a m:List Tok}->GW f l a m->f x m r->GW f (l++ [x]) a r
 | [],a,m,h,hx=>by
  have e:a=m:=h;subst e;exact⟨r,hx,rfl⟩
 | y::l,a,m,h,hx=>by
  obtain⟨q,c,d⟩:=h;exact⟨q,c,d.snoc hx⟩
variable{f:List Tok}
theorem Is.head{x:Tm n}{r:List Tok}(a:Is n x f r):∃t b,f=t::b/\Cp t.2=false:=by
 cases n with
 | zero=>exact a.elim
 | succ n=>
  obtain⟨t,b,rfl,a⟩:=a;refine⟨t,b,rfl,?_⟩;cases hc:Cp t.2
  ·rfl
  ·have:=wv hc;rcases a with a|a
   ·rw[this.1]at a;exact absurd a.2.1 (by simp)
   ·rw[this.2]at a;exact absurd a.1 (by simp)
theorem GW.one{n m:Nat}(ih:∀(x:Tm n)(y:Tm m)(d r f:List Tok),Is n x d r->Is m y d f->aH n x m y=true/\r=f):(p:List (Tm n))->(q:List (Tm m))->(d:List Tok)->(c i:Tok)->(r f:List Tok)->Cp c.2=true->Cp i.2=true->GW (Is n) p d (c::r)->GW (Is m) q d (i::f)->aL (λa b=>aH n a m b) p q=true/\r=f
 | [],[],d,c,i,r,f,hc,hc',h,h'=>by
  have j:d=c::r:=h;have g:d=i::f:=h';rw[j]at g;injection g with _ e;exact⟨rfl,e⟩
 | [],y::q,d,c,i,r,f,hc,hc',h,h'=>by
  have j:d=c::r:=h;obtain⟨A,k,_⟩:=h';obtain⟨t,C,g,l⟩:=k.head;rw[j]at g;injection g with e _;rw[<-e,hc]at l;exact absurd l (by simp)
 | x::p,[],d,c,i,r,f,hc,hc',h,h'=>by
  have j:d=i::f:=h';obtain⟨A,k,_⟩:=h;obtain⟨t,C,g,l⟩:=k.head;rw[j]at g;injection g with e _;rw[<-e,hc']at l;exact absurd l (by simp)
 | x::p,y::q,d,c,i,r,f,hc,hc',h,h'=>by
  obtain⟨o,k,v⟩:=h;obtain⟨B,w,z⟩:=h';obtain⟨j,g⟩:=ih x y d o B k w;subst g;obtain⟨s,u⟩:=GW.one ih p q o c i r f hc hc' v z;exact⟨by simp only[aL];rw[j,s];rfl,u⟩
theorem Is.one:(n:Nat)->(m:Nat)->(x:Tm n)->(y:Tm m)->(f r b:List Tok)->Is n x f r->Is m y f b->aH n x m y=true/\r=b
 | 0,_,_,_,_,_,_,a,_=>a.elim
 | _+1,0,_,_,_,_,_,_,a=>a.elim
 | n+1,m+1,x,y,f,r,b,a,g=>by
  obtain⟨t,z,rfl,a⟩:=a;obtain⟨t2,A,e,g⟩:=g;injection e with h i;subst h i;rcases a with⟨o,_,l,j,v⟩|⟨o,l,c,j,s⟩
  ·rcases g with⟨_,_,p,k,w⟩|⟨d,_⟩
   ·refine⟨?_,v.trans w.symm⟩;simp only[aH,l,p,j,k,aL];simp
   ·rw[o]at d;exact absurd d (by simp)
  ·rcases g with⟨d,_⟩|⟨_,p,q,k,u⟩
   ·rw[o]at d;exact absurd d (by simp)
   ·obtain⟨h,i⟩:=GW.one (λx y f r b=>Is.one n m x y f r b) x.2.2 y.2.2 z c q r b s u j k;refine⟨?_,i⟩;simp only[aH,l,p,h];simp
theorem uW:(n:Nat)->(x:Tm n)->(a r:List Tok)->Is n x a r->(aF n x).length+r.length<=a.length
 | 0,_,_,_,b=>b.elim
 | n+1,x,a,r,b=>by
  have key:∀(l:List (Tm n))(a r:List Tok),GW (Is n) l a r->(l.flatMap λy=>aF n y).length+r.length<=a.length:=by
   intro l
   induction l with
   | nil=>intro a r b;have f:a=r:=b;subst f;simp
   | cons y l ih=>
    intro a r b;obtain⟨e,g,h⟩:=b;have:=uW n y a e g;have:=ih e r h;simp only[bK,bm];omega
  obtain⟨t,k,rfl,b⟩:=b;simp only[aF,bt];rcases b with⟨o,_,j,d,i⟩|⟨o,j,c,d,m⟩
  ·rw[d,i];simp;omega
  ·have:=key x.2.2 k (c::r) d;simp only[bt]at this;omega
def kJ(L:Nat):List Tok->Nat->Option Nat
 | [],0=>none
 | [],_+1=>some L
 | t::_,0=>some t.1
 | t::ts,d+1=>if Gq t.2 then kJ L ts (d+2)else if Cp t.2 then kJ L ts d else if gB t.2 then kJ L ts (d+1)else some t.1
def B8(L:Nat):List Tok->Nat->Option Nat
 | [],_=>some L
 | t::ts,d=>if Gq t.2 then kJ L ts (d+1)else if gB t.2 then kJ L ts d else some t.1
def LF(L:Nat):List Tok->Nat
 | []=>L
 | t::_=>t.1
theorem Db(L:Nat)(a:List Tok)(d:Nat)(b:∀t c,a=t::c->Cp t.2=false):kJ L a (d+1)=B8 L a (d+1):=by
 cases a with
 | nil=>rfl
 | cons t a=>simp only[kJ,B8];rw[b t a rfl];simp
theorem Fl(L:Nat)(t:Tok)(b:List Tok)(d:Nat)(a:Cp t.2=true):kJ L (t::b) (d+1)=kJ L b d:=by
 simp only[kJ];rw[(wv a).2,a];simp
theorem pU{c d:Type}(f:c->d->Bool):(p:List c)->(q:List d)->aL f p q=true->p.length=q.length
 | [],[],_=>rfl
 | [],_::_,h=>by simp[aL]at h
 | _::_,[],h=>by simp[aL]at h
 | a::p,b::q,h=>by
  simp only[aL,aO]at h;simp[pU f p q h.2]
theorem Ng{k e f:Int}{b:aq}{l:Nat}(g:k=d)(h:e=f)(i:s=b)(m:l=j):cJ ((k,e,s),(a,l,c))=cJ ((d,f,b),(v,j,u)):=by
 subst g h i m;rfl
theorem uv:(n m:Nat)->(x:Tm n)->(y:Tm m)->aH n x m y=true->cu n x=cu m y/\gI n x=gI m y/\sz n x=sz m y
 | 0,_,_,_,c=>by simp[aH]at c
 | _+1,0,_,_,c=>by simp[aH]at c
 | n+1,m+1,x,y,c=>by
  have key:∀(p:List (Tm n))(q:List (Tm m)),aL (λa b=>aH n a m b) p q=true->
    (p.all λy=>cu n y)=(q.all λy=>cu m y)/\(∀a,p.foldl (λm y=>max m (gI n y)) a=q.foldl (λk y=>max k (gI m y)) a)/\(p.map λy=>1+sz n y).sum=(q.map λy=>1+sz m y).sum:=by
   intro p
   induction p with
   | nil=>
    intro q c;cases q with
    | nil=>simp
    | cons b q=>simp[aL]at c
   | cons a p ih=>
    intro q c;cases q with
    | nil=>simp[aL]at c
    | cons b q=>
     simp only[aL,aO]at c;obtain⟨j,l,o⟩:=uv n m a b c.1;obtain⟨e,f,g⟩:=ih q c.2;refine⟨by simp only[jv,j,e],λv=>?_,by simp only[bz,di,o,g]⟩;simp only[gf,l];exact f _
  simp only[aH,aO,cR]at c;obtain⟨⟨⟨d,r⟩,h⟩,i⟩:=c;obtain⟨e,f,g⟩:=key _ _ i;have t:=pU _ _ _ i;have u:x.1.2.2=y.1.2.2:=by
   rw[cC,cC]at h;exact ByteArray.ext (Array.toList_inj.1 h)
  refine⟨?_,?_,?_⟩
  ·have s:cJ (bP n x)=cJ (bP m y):=Ng d r u t;simp only[cu,s,d,e]
  ·simp only[gI,d,f]
  ·simp only[sz,d,g]
theorem Jf(n m:Nat)(x:Tm n)(y:Tm m)(a:aH n x m y=true):bJ n x=bJ m y:=by
 obtain⟨b,c,d⟩:=uv n m x y a;rw[<-gM,<-gM];simp only[xN,b,c,d]
def sM:Nat->aq->Nat->List Tok
 | 0,_,_=> []
 | f+1,s,i=>if dX s i<s.size then (dX s i,s.extract (dX s i) (eQ s i))::sM f s (eQ s i)else []
def j0(s:aq)(i:Nat):List Tok:=sM (s.size-i) s i
theorem ov(s:aq):(f g i:Nat)->s.size-i<=f->s.size-i<=g->sM f s i=sM g s i
 | 0,0,_,_,_=>rfl
 | 0,g+1,i,h,_=>by
  have:=nC s i;simp only[sM];rw[if_neg (by omega)]
 | f+1,0,i,_,h=>by
  have:=nC s i;simp only[sM];rw[if_neg (by omega)]
 | f+1,g+1,i,h,h'=>by
  simp only[sM];by_cases a:dX s i<s.size
  ·rw[if_pos a,if_pos a];have b:=sQ s i a;have c:=nC s i;rw[ov s f g (eQ s i) (by omega) (by omega)]
  ·rw[if_neg a,if_neg a]
theorem zr(s:aq)(i:Nat)(a:dX s i<s.size):j0 s i=(dX s i,s.extract (dX s i) (eQ s i))::j0 s (eQ s i):=by
 have b:=sQ s i a;have c:=nC s i;unfold j0;rw[ov s (s.size-i) (s.size-i+1) i (by omega) (by omega)];simp only[sM];rw[if_pos a,ov s (s.size-i) (s.size-eQ s i) (eQ s i) (by omega) (by omega)]
theorem xj(s:aq)(i:Nat)(a:¬dX s i<s.size):j0 s i=[]:=by
 unfold j0;rw[ov s (s.size-i) (s.size-i+1) i (by omega) (by omega)];simp only[sM];rw[if_neg a]
theorem mB(s:aq):(f i:Nat)->s.size-i<=f->(j0 s i).length<=s.size-i
 | 0,i,h=>by
  have:=nC s i;rw[xj s i (by omega)];simp
 | f+1,i,h=>by
  by_cases a:dX s i<s.size
  ·have b:=sQ s i a;have c:=nC s i;rw[zr s i a];have:=mB s f (eQ s i) (by omega);simp only[bt];omega
  ·rw[xj s i a];simp
def At(s:aq)(b e:Nat)(a:List Tok):Prop:=
 b<=e/\e<=s.size/\((b=s.size/\a=[])\/(b<e/\a=(b,s.extract b e)::j0 s e))
theorem At.next{i:Nat}(b:i<=s.size):At s (dX s i) (eQ s i) (j0 s i):=by
 refine⟨DE s i,DF s i b,?_⟩;by_cases a:dX s i<s.size
 ·exact am ⟨sQ s i a,zr s i a⟩
 ·exact ak ⟨(JL s i b a).1,xj s i a⟩
theorem At.pos(a:At s b e f):LF s.size f=b:=by
 rcases a.2.2 with⟨c,rfl⟩|⟨_,rfl⟩
 ·exact c.symm
 ·rfl
theorem At.nil(a:At s b e []):(s.extract b e).toList=[]:=by
 rcases a.2.2 with⟨d,_⟩|⟨_,c⟩
 ·rw[cC];apply bZ;have:=a.2.1;simp;omega
 ·exact absurd c (by simp)
theorem At.cons{s:aq}{b e:Nat}{t:Tok}{d:List Tok}(c:At s b e (t::d)):t=(b,s.extract b e)/\d=j0 s e/\0<(s.extract b e).size:=by
 rcases c.2.2 with⟨_,a⟩|⟨h,a⟩
 ·exact absurd a (by simp)
 ·injection a with f g;refine⟨f,g,?_⟩;have:=c.2.1;simp;omega
-- Sign by sign:what a sign does to the words ahead.
theorem fX{q:da}(a:w.grownBy w1 q)(o:Obj):w.grownBy (w1.alloc o) q:=
 ⟨a.os,a.tape,a.output,by have:=a.size;simp;omega,λk b c=>by
  exact(((aE w1.heap.size w1).alloc (ay _) o).block k (aY b a.size)).trans (a.block k b c)⟩
theorem nj{q:da}(a:w.grownBy w1 q)(e:w.heap.size<=b)(o:Nat)(v:ax):w.grownBy (w1.setCell ⟨b,o,none⟩ v) q:=
 ⟨a.os,a.tape,a.output,by simpa [World.setCell]using a.size,λk c d=>(ei w1 ⟨b,o,none⟩ v k (by simp;omega)).trans (a.block k c d)⟩
theorem IG{q:da}(a:w.grownBy w1 q){g:da}(k:w1.grownBy w2 g)(f:∀b,g=some b->w.heap.size<=b):w.grownBy w2 q:=
 ⟨k.os.trans a.os,k.tape.trans a.tape,k.output.trans a.output,aD a.size k.size,λc d h=>(k.block c (aY d a.size) (λe=>by have:=f c e.symm;omega)).trans (a.block c d h)⟩
theorem o8{q:da}(a:w.grownBy w1 q)(k:ap w1 w2):w.grownBy w2 q:=
 ⟨k.os.trans a.os,k.tape.trans a.tape,k.output.trans a.output,aD a.size k.size,λc b d=>(k.block c (aY b a.size)).trans (a.block c b d)⟩
theorem Rd.block(a:Rd r s b e w)(k:w'.heap[r]?=w.heap[r]?):Rd r s b e w':=k.trans a
theorem Rd.alloc{r:Nat}{s:aq}{b e:Nat}{w:ah}(a:Rd r s b e w)(o:Obj):Rd r s b e (w.alloc o):=
 a.block (((aE w.heap.size w).alloc (ay _) o).block r a.lt)
theorem Rd.far(a:Rd r s b e w)(c:r<g)(o:Nat)(v:ax):Rd r s b e (w.setCell ⟨g,o,none⟩ v):=
 a.block (ei w ⟨g,o,none⟩ v r (by simp;omega))
def ahead(s:aq)(b e:Nat):List Tok:=if b<s.size then (b,s.extract b e)::j0 s e else []
def P9(r:Nat)(s:aq)(w:ah):Nat:=(ahead s (intOf ((w.cell? ⟨r,1,none⟩).getD undef)).toNat (intOf ((w.cell? ⟨r,2,none⟩).getD undef)).toNat).length
theorem Lm(d:Rd r s b e w)(k:At s b e f):P9 r s w=f.length:=by
 obtain⟨⟨h,a,c⟩,f1,f2⟩:=d.cells;simp only[P9,a,c,Option.getD_some,intOf,Int.toNat_natCast,ahead];rcases k.2.2 with⟨g,rfl⟩|⟨g,rfl⟩
 ·rw[if_neg (by omega)]
 ·rw[if_pos (by have:=k.2.1;omega)]
def mD(n:Nat)(s:aq)(r:Nat)(e:List Tok)(w w':ah)(v:ax)(ok:Bool):Prop:=
 w.grownBy w' (some r)/\∃b f c,Rd r s b f w'/\At s b f c/\
  (ok=true->(∃d:Tm n,dE n d=v/\Is n d e c/\In w'.heap.size w' n d/\cE (λg=>w.heap.size<=g) n d)/\∀a,B8 s.size e a=kJ s.size c a)/\
  (ok=false->∀a,B8 s.size e a=some (LF s.size c))
def MD(n:Nat)(s:aq)(r:Nat)(d:List Tok)(w w':ah)(e:Ending):Prop:=
 ∃(k b:Int)(t:aq)(a:aw)(l c:Nat)(ok:Bool),e=.returned (.tuple #[.agg #[ae k,ae b,ag t,af a l c],.bool ok])/\
  Hid (mD n s r d w w' (.agg #[ae k,ae b,ag t,af a l c]) ok)
def Oj(n:Nat):Prop:=∀(r:Nat)(s:aq)(b e:Nat)(a:List Tok)(w:ah),Rd r s b e w->At s b e a->s.size<=2048->a.length<=n->
 au 51 #[aC r] w λc w'=>MD (n+1) s r a w w' c
theorem pY(r:Nat)(s:aq)(b e:Nat)(x:aq)(w:ah)(c:Rd r s b e w)(d:b<=e)(f:e<=s.size)(g:s.extract b e=x):au 52 #[aC r] w λa w'=>a=.returned (ag x)/\∃n,w'=w.drewN n:=by
 subst g;exact Mv r s b e w c d f
def Bx(q:Nat)(v0 v1 v2 v3:ax)(w:ah):Prop:=w.heap[q]?=some (.cells #[v0,v1,v2,v3] 54)
theorem Bx.cells(a:Bx q v0 v1 v2 v3 w):(w.cell? ⟨q,0,none⟩=some v0/\w.cell? ⟨q,1,none⟩=some v1/\w.cell? ⟨q,2,none⟩=some v2/\w.cell? ⟨q,3,none⟩=some v3)/\ (w.frozen? ⟨q,0,none⟩=false/\w.frozen? ⟨q,1,none⟩=false/\w.frozen? ⟨q,2,none⟩=false/\w.frozen? ⟨q,3,none⟩=false):=by
 unfold Bx at a;exact⟨⟨by simp[World.cell?,a],by simp[World.cell?,a],by simp[World.cell?,a],by simp[World.cell?,a]⟩,by simp[World.frozen?,a],by simp[World.frozen?,a],by simp[World.frozen?,a],by simp[World.frozen?,a]⟩
theorem Bx.block(a:Bx q v0 v1 v2 v3 w)(k:w'.heap[q]?=w.heap[q]?):Bx q v0 v1 v2 v3 w':=k.trans a
theorem Bx.lt(a:Bx q v0 v1 v2 v3 w):q<w.heap.size:=(aN.1 a).1
theorem Bx.set3(a:Bx q v0 v1 v2 v3 w)(v:ax):Bx q v0 v1 v2 v (w.setCell ⟨q,3,none⟩ v):=by
 unfold Bx at*;simp[World.setCell,bQ,a]
theorem Bx.new(w:ah)(v0 v1 v2 v3:ax):Bx w.heap.size v0 v1 v2 v3 (w.alloc (.cells #[v0,v1,v2,v3] 54)):=aI w _
def JZ(n:Nat)(r:Nat)(s:aq)(c:List Tok)(w:ah)(b e:Nat)(v:ax)(wr:ah)(l:List (Tm (n+1)))(a:List Tok):Prop:=
 Rd r s b e wr/\At s b e a/\(w.alloc (.cells #[ae 0,ae 0,ag ⟨#[]⟩,af none 0 0] 54)).grownBy wr (some r)/\rS (w.heap.size+2) (n+1) l v wr/\
  Bx w.heap.size (ae 0) (ae 0) (ag ⟨#[]⟩) (af none 0 0) wr/\Bx (w.heap.size+1) (ae 4) (ae 0) (ag ⟨#[]⟩) v wr/\
  GW (Is (n+1)) l c a/\a.length<=c.length/\∀d,kJ s.size c (d+1)=kJ s.size a (d+1)
def MF(n:Nat)(r:Nat)(s:aq)(c:List Tok)(w:ah)(b e:Nat)(v:ax)(wr:ah):Prop:=
 ∃(l:List (Tm (n+1)))(a:List Tok),JZ n r s c w b e v wr l a
theorem fw(w:ah)(o:Obj)(a:q<w.heap.size):(w.alloc o).heap[q]?=w.heap[q]? :=(dA w o none).block q a (by simp)
variable{t0:Tok}
theorem JB(h:Rd r s b e w)(a:At s b e (t0::f))(k:Rd r s (dX s e) (eQ s e) w1)(g:((w.alloc (.cells #[ae 0,ae 0,ag ⟨#[]⟩,af none 0 0] 54)).alloc (.cells #[ae 4,ae 0,ag ⟨#[]⟩,af none 0 0] 54)).grownBy w1 (some r)):MF n r s f w (dX s e) (eQ s e) (af none 0 0) w1:=by
 have i:=h.lt;have c:=(At.cons a).2.1;refine⟨[],f,k,by rw[c];exact At.next a.2.1,cm (dA _ _ _) g,⟨⟨rfl,ak ⟨rfl,rfl⟩⟩,by simp⟩,?_,?_,rfl,ay _,λ_=>rfl⟩
 ·exact((Bx.new w _ _ _ _).block (fw _ _ (by simp))).block (g.block _ (by simp;omega) (by simp;omega))
 ·have:=Bx.new (w.alloc (.cells #[ae 0,ae 0,ag ⟨#[]⟩,af none 0 0] 54)) (ae 4) (ae 0) (ag ⟨#[]⟩) (af none 0 0);have d:(w.alloc (.cells #[ae 0,ae 0,ag ⟨#[]⟩,af none 0 0] 54)).heap.size=w.heap.size+1:=by simp
  rw[d]at this;exact this.block (g.block _ (by simp) (by simp;omega))
theorem rS.kept{base n:Nat}{l:List (Tm n)}{v:ax}{w w':ah}(a:rS base n l v w){r:Nat}(g:w.grownBy w' (some r))(k:r<base):rS base n l v w':=by
 refine⟨a.1.kept g (am λf=>by have:=a.1.lt r f;omega),λe d=>⟨?_,(a.2 e d).2⟩⟩;obtain⟨c,h⟩:=a.2 e d;have i:=In.offB h c;exact(In.off (λb j=>g.block b j.2 (by simp;omega)) i c).mono g.size
theorem rS.snoc{l:List (Tm (n+1))}{v:ax}{w0:ah}(h:rS base (n+1) l v w0)(i:w0.grownBy w (some r))(A:r<base){x:Tm (n+1)}(C:In w.heap.size w (n+1) x)(y:cE (λq=>w0.heap.size<=q) (n+1) x)(D:base<=w0.heap.size)(j:w.grownBy w1 none)(z:w2.ownsRow base 54 4 (af (some ⟨g,0,none⟩) (l.length+1) c) (l.length+1) (cM (l.map (gK (n+1)))++wK (gK (n+1) x)))(k:w1.grownBy w2 v.ownBlock)(u:v.ownBlock=some g\/g=w1.heap.size):rS base (n+1) (l++ [x]) (af (some ⟨g,0,none⟩) (l.length+1) c) w2:=by
 have p:=h.kept i A;have E:=i.size;have F:=j.size;have G:=k.size;have B:∀b,v.ownBlock=some b->b<w0.heap.size:=λb d=>(h.1.lt b d).2;refine⟨by simpa [cM]using z,λa f=>?_⟩
 have key:∀a:Tm (n+1),In w.heap.size w (n+1) a->cE (λb=>base<=b/\v.ownBlock≠some b) (n+1) a->
   In w2.heap.size w2 (n+1) a/\cE (λb=>base<=b/\(Value.slice (some ⟨g,0,none⟩) (l.length+1) c).ownBlock≠some b) (n+1) a:=by
  intro a m t;have o:=In.offB t m;refine⟨(In.off (λb e=>(k.block b (by omega) (λd=>e.1.2 d.symm)).trans (j.block b e.2 (by simp))) o m).mono (by omega),o.mono λb e=>⟨e.1.1,?_⟩⟩;intro d;have s:g=b:=by simpa [Value.ownBlock]using d
  rcases u with h|h
  ·exact e.1.2 (by rw[h,s])
  ·omega
 rcases dt.1 f with f|f
 ·exact key a (p.2 a f).1 (p.2 a f).2
 ·have d:a=x:=by simpa using f
  subst d;exact key a C (y.mono λb e=>⟨by omega,λd=>by have:=B b d;omega⟩)
theorem Jy(N:r<w.heap.size)(x:Gq t0.2=true)(A:MF n r s f w b e (af a L c) wr)(o:Cp (s.extract b e)=true)(k:Rd r s (dX s e) (eQ s e) w2)(g:(wr.drewN m).grownBy w2 (some r)):mD (n+2) s r (t0::f) (w.alloc (.cells #[ae 0,ae 0,ag ⟨#[]⟩,af none 0 0] 54)) w2 (.agg #[ae 4,ae 0,ag ⟨#[]⟩,af a L c]) true/\ Bx w.heap.size (ae 0) (ae 0) (ag ⟨#[]⟩) (af none 0 0) w2/\Bx (w.heap.size+1) (ae 4) (ae 0) (ag ⟨#[]⟩) (af a L c) w2:=by
 obtain⟨l,p,J,i,q,B,u,v,C,K,D⟩:=A;have P:=q.size;have G:=v.lt;have j:wr.grownBy w2 (some r):=cm (eX wr m _) g;obtain⟨H,I,ev,F,E⟩:=(B.kept j (by omega)).tup;injection ev with d h z;subst d h z;refine⟨⟨cm q j,dX s e,eQ s e,j0 s e,k,At.next i.2.1,λ_=>⟨⟨_,rfl,?_,E,F.mono λO M=>by simp;omega⟩,?_⟩,by simp⟩,u.block (j.block _ u.lt (by simp;omega)),v.block (j.block _ G (by simp;omega))⟩
 ·cases p with
  | nil=>simp[Cp,i.nil]at o
  | cons t p=>
   obtain⟨d,h,_⟩:=i.cons;subst d h;exact⟨t0,f,rfl,am ⟨x,rfl,_,C,o⟩⟩
 ·intro y;cases p with
  | nil=>simp[Cp,i.nil]at o
  | cons t p=>
   obtain⟨d,h,_⟩:=i.cons;subst d h;simp only[B8,x,cB];rw[D y,Fl _ _ _ _ o]
theorem mD.box{v:ax}(a:r<w.heap.size)(g:mD n s r f (w.alloc o) w1 v ok)(v0 v1 v2 v3:ax):mD n s r f w ((((w1.setCell ⟨w.heap.size,0,none⟩ v0).setCell ⟨w.heap.size,1,none⟩ v1).setCell ⟨w.heap.size,2,none⟩ v2).setCell ⟨w.heap.size,3,none⟩ v3) v ok:=by
 obtain⟨h,b,e,q,i,j,k,l⟩:=g;refine⟨nj (nj (nj (nj (cm (dA _ _ _) h) (ay _) _ _) (ay _) _ _) (ay _) _ _) (ay _) _ _,b,e,q,(((i.far a _ _).far a _ _).far a _ _).far a _ _,j,λm=>?_,l⟩;obtain⟨⟨t,u,x,y,d⟩,z⟩:=k m;have c:∀b,(w.alloc o).heap.size<=b->((((w1.setCell ⟨w.heap.size,0,none⟩ v0).setCell ⟨w.heap.size,1,none⟩ v1).setCell ⟨w.heap.size,2,none⟩ v2).setCell ⟨w.heap.size,3,none⟩ v3).heap[b]?=w1.heap[b]? :=λb c=>by
  have A:w.heap.size<b:=by simp at c;omega
  rw[ei _ _ _ _ (by simp;omega),ei _ _ _ _ (by simp;omega),ei _ _ _ _ (by simp;omega),ei _ _ _ _ (by simp;omega)]
 refine⟨⟨t,u,x,(In.off c d y).mono (by simp[World.setCell]),d.mono λB p=>by simp at p;omega⟩,z⟩
theorem mD.alloc{n r:Nat}{s:aq}{a:List Tok}{w w1:ah}{v:ax}{ok:Bool}(f:mD n s r a w w1 v ok)(o:Obj):mD n s r a w (w1.alloc o) v ok:=by
 obtain⟨g,b,e,p,h,i,j,k⟩:=f;refine⟨fX g o,b,e,p,h.alloc o,i,λm=>?_,k⟩;obtain⟨⟨q,t,u,c,d⟩,x⟩:=j m;exact⟨⟨q,t,u,(In.off (λb l=>fw w1 o l.2) (In.offB d c) c).mono (by simp),d⟩,x⟩
theorem At.no(c:At s b e f)(d:Cp (s.extract b e)=false):∀t a,f=t::a->Cp t.2=false:=by
 intro t a e;subst e;rw[c.cons.1];exact d
variable{i:List Tok}
theorem zv{v:ax}{l:List (Tm (n+1))}(u:r<w.heap.size)(a:JZ n r s f w b e v wr l i)(g:(wr.drewN m).grownBy w1 (some r)):Bx w.heap.size (ae 0) (ae 0) (ag ⟨#[]⟩) (af none 0 0) w1/\Bx (w.heap.size+1) (ae 4) (ae 0) (ag ⟨#[]⟩) v w1/\w.heap.size+1<w1.heap.size:=by
 obtain⟨h,j,k,o,c,d,p,q,t⟩:=a;have a:=d.block (g.block _ d.lt (by simp;omega));exact⟨c.block (g.block _ c.lt (by simp;omega)),a,a.lt⟩
theorem Jz{v A:ax}{l:List (Tm (n+1))}(q:Gq t0.2=true)(h:JZ n r s f w b e v wr l i)(p:Cp (s.extract b e)=false)(R:mD (n+1) s r i (wr.drewN m) w1 A false)(z:ax):mD (n+2) s r (t0::f) (w.alloc (.cells #[ae 0,ae 0,ag ⟨#[]⟩,af none 0 0] 54)) w1 z false:=by
 obtain⟨B,j,k,C,D,E,F,G,o⟩:=h;obtain⟨g,c,d,y,t,u,_,x⟩:=R;refine⟨cm k (cm (eX wr m _) g),c,d,y,t,u,by simp,λ_ a=>?_⟩;simp only[B8,q,cB];rw[o a,Db _ _ _ (j.no p)];exact x rfl (a+1)
theorem Gt{n:Nat}:(l:List (Tm n))->(a r:List Tok)->GW (Is n) l a r->l.length+r.length<=a.length
 | [],a,r,h=>by have e:a=r:=h;subst e;simp
 | x::l,a,r,h=>by
  obtain⟨m,b,c⟩:=h;have d:=Gt l m r c;have f:=uW n x a m b;have g:0<(aF n x).length:=by
   cases n with
   | zero=>exact b.elim
   | succ n=>simp[aF]
  simp only[bt];omega
theorem N6{l:List (Tm (n+1))}(F:r<w.heap.size)(q:JZ n r s f w b e (af a L c) wr l i)(g:(wr.drewN m).grownBy w1 (some r))(E:f.length<=2048):l.length=L/\L<=2048/\∀d h,((w1.alloc d).alloc h).ownsRow (w.heap.size+2) 54 4 (af a L c) L (cM (l.map (gK (n+1)))):=by
 obtain⟨x,y,z,o,A,B,t,C,D⟩:=q;have p:wr.grownBy w1 (some r):=cm (eX wr m _) g;obtain⟨u,v,ev,_⟩:=o.tup;injection ev with _ j _;have:=Gt l f i t;have k:=(o.kept p (by omega)).1;rw[<-j]at k;exact⟨j.symm,by omega,λd h=>(k.alloc d).alloc h⟩
theorem JA{l:List (Tm (n+1))}(am:r<w.heap.size)(E:JZ n r s f w b e (af a L c) wr l i)(ai:Cp (s.extract b e)=false){k:Int}{t:aq}(R:mD (n+1) s r i (wr.drewN m) w1 (.agg #[ae k,ae d,ag t,af v j u]) true){P Q:Obj}{p:Nat}(ad:l.length=L)(J:h.ownsRow (w.heap.size+2) 54 4 (af (some ⟨g,0,none⟩) (L+1) p) (L+1) (cM (l.map (gK (n+1)))++ [ae k,ae d,ag t,af v j u]))(A:((w1.alloc P).alloc Q).grownBy h (Value.slice a L c).ownBlock)(aj:(Value.slice a L c).ownBlock=some g\/g=w1.heap.size+2):(Bx (w.heap.size+1) (ae 4) (ae 0) (ag ⟨#[]⟩) (af a L c) h/\ ∃x y,MF n r s f w x y (af (some ⟨g,0,none⟩) (L+1) p) (h.setCell ⟨w.heap.size+1,3,none⟩ (af (some ⟨g,0,none⟩) (L+1) p))/\P9 r s (h.setCell ⟨w.heap.size+1,3,none⟩ (af (some ⟨g,0,none⟩) (L+1) p))<P9 r s wr):=by
 subst ad;obtain⟨au,av,aH⟩:=zv am E R.1;obtain⟨X,F,Y,G,aC,Z,aa,aD,ab⟩:=E;obtain⟨W,x,y,T,ao,N,ap,_⟩:=R;have D:wr.grownBy w1 (some r):=cm (eX wr m _) W;obtain⟨⟨q,z,U,ax,ay⟩,az⟩:=ap rfl;have I:∀b,(Value.slice a l.length c).ownBlock=some b->w.heap.size+2<=b:=λb e=>(G.1.lt b e).1;have ak:wK (gK (n+1) q)=[ae k,ae d,ag t,af v j u]:=by
  have V:dE (n+1) q=.agg (wK (gK (n+1) q)).toArray:=rfl;rw[V]at z;injection z with z;exact Array.toList_inj.2 z
 rw[<-ak]at J;have M:=G.snoc D (by omega) ax ay (by have:=Z.lt;simp;omega) (w1:=(w1.alloc P).alloc Q) (fX (fX (eX w1 0 _) _) _) J A (by simpa using aj);have al:∀o,o<w.heap.size+2->some o≠(Value.slice a l.length c).ownBlock:=λo K e=>by have:=I o e.symm;omega
 have B:∀o,o<w.heap.size+2->h.heap[o]?=w1.heap[o]? :=λo K=>(A.block o (by simp;omega) (al o K)).trans ((fw _ _ (by simp;omega)).trans (fw _ _ (by omega)));have S:=av.block (B (w.heap.size+1) (by omega));have ar:Rd r s x y h:=ao.block (B r (by omega));have aB:h.heap.size=(h.setCell ⟨w.heap.size+1,3,none⟩ (af (some ⟨g,0,none⟩) (l.length+1) p)).heap.size:=by simp[World.setCell]
 have O:=ar.far (g:=w.heap.size+1) (by omega) 3 (af (some ⟨g,0,none⟩) (l.length+1) p);have aE:=uW (n+1) q i T U;have aG:0<(aF (n+1) q).length:=by simp[aF]
 refine⟨S,x,y,⟨l++ [q],T,O,N,?_,?_,?_,S.set3 _,aa.snoc U,by omega,λC=>?_⟩,?_⟩
 ·refine nj (IG (fX (fX (cm Y D) _) _) A λb H=>?_) (by simp) _ _;have:=I b H;simp;omega
 ·refine⟨ownsRow_setCell_below (by simpa using M.1) (by simp) _,λaA an=>?_⟩;obtain⟨y1,y2⟩:=M.2 aA an;refine⟨?_,y2⟩;rw[<-aB];exact In.off (λb H=>ei _ _ _ _ (by simp;omega)) y2 y1
 ·exact(au.block (B w.heap.size (by omega))).block (ei _ _ _ _ (by simp))
 ·rw[ab C,Db _ _ _ (F.no ai)];exact az (C+1)
 ·rw[Lm O N,Lm X F];omega
theorem If(w:ah)(o:Obj)(v0 v1 v2 v3:ax)(e:TypeId):∀(j:Nat)(a:ax),[v0,v1,v2,v3][j]?=some a->((w.alloc o).alloc (.cells #[v0,v1,v2,v3] e)).cell? ((⟨w.heap.size+1,0,none⟩:Addr).add j)=some a:=by
 intro j a b;rw[fD];rw[World.cell?_alloc_at _ _ _ _ (by simp)];simpa using b
theorem KO(k d:Int)(t:aq)(a:aw)(l c:Nat):∀v∈[Value.int .i64 k,ae d,ag t,af a l c],v.oneCell'=true:=by
 intro v b;simp at b;rcases b with rfl|rfl|rfl|rfl<;>rfl
theorem FI(n:Nat)(ih:Oj n)(r:Nat)(s:aq)(b e:Nat)(t0:Tok)(y:List Tok)(w:ah)(G:Rd r s b e w)(Q:At s b e (t0::y))(E:s.size<=2048)(T:y.length<=n)(U:Gq t0.2=true):au 75 #[aC r] w λg w'=>MD (n+2) s r (t0::y) w w' g:=by
 have q:=G.lt;obtain⟨ar,hit,W,X,Y⟩:=bR gL;have B:=av (⟨hit,W,X,Y⟩:_/\_/\_/\_);clear hit W X Y;have d:=av (⟨G,Q,E,T,U⟩:_/\_/\_/\_/\_);have aj:=av ih;clear G Q T U ih;go_enter func75,ntmps75;go_wp2_with (go_at_call 50;refine(sx r s b e _ ((d.1.alloc _).alloc _) d.2.1.2.1 E).mono ?_;rintro g ad ⟨rfl,m⟩);go_loopw [] (λwr=>∃(b e:Nat)(D:aw)(u c:Nat),Hid (MF n r s y w b e (af D u c) wr)/\True) (λwr=>P9 r s wr)
 case atStart=>exact⟨_,_,_,_,_,JB d.1 d.2.1 m.1 m.2,trivial⟩
 case round=>
  obtain⟨f,h,D,u,c,P,_⟩:=hrel;clear m;obtain⟨l,I,i⟩:=P.out;replace i:=av i;obtain⟨j,Z⟩:∃j,s.extract f h=j:=⟨_,rfl⟩;have C:=av Z;clear Z;have a:Hid (Rd r s f h wr/\At s f h I/\I.length<=n/\y.length<=2048):=by
   obtain⟨o,p,H,aK,aL,aM,aN,an,aO⟩:=i.out;refine⟨o,p,aD an d.2.2.2.1,?_⟩;have:=mB s (s.size-e) e (ay _);rw[<-d.out.2.1.cons.2.1]at this;omega
  cases hc:(j.toList==[41])
  ·have aP:(j.toList=[41])=False:=by simpa using hc
   have aQ:(j.toList !=[41])=true:=by simpa using hc
   have O:Hid (Cp (s.extract f h)=false):=by rw[C.out];exact hc
   go_wp2_with (first
    | (go_at_call 52;refine(pY r s f h j wr a.1 a.2.1.1 a.2.1.2.1 C).mono ?_;rintro g ad ⟨rfl,x,rfl⟩)
    | (go_at_call 51;refine(aj r s f h I (wr.drewN x) (a.1.drew x) a.2.1 E a.2.2.1).mono ?_;rintro g F ⟨k,aG,t,ak,aF,am,ok,rfl,A⟩;obtain⟨aa,ab,aR⟩:=zv q i A.1;have ao:w.heap.size<F.heap.size:=(by omega);obtain⟨⟨J,K,L,M⟩,f0,f1,f2,f3⟩:=aa.cells;obtain⟨⟨y0,y1,y2,aH⟩,ax,az,aA,aE⟩:=ab.cells;clear aa ab;cases ok)
    | (at_builtin;have z:=av (N6 q i A.1 a.2.2.2);refine wpList_append_lies _ rfl _ _ 52 rfl (w.heap.size+2) 54 ar _ 4 56 underlying52 B.1 B.2.1 B.2.2.1 B.2.2.2 rfl (by decide) _ u _ rfl (z.2.2 _ _) ⟨F.heap.size+1,0,none⟩ 1 1 [ae k,ae aG,ag t,af ak aF am] rfl rfl (If _ _ _ _ _ _ _) (KO _ _ _ _ _ _) (by decide) (by have:=z.2.1;unfold maxLen;omega) (by have:=z.2.1;omega) (by simp;omega) (F.heap.size+2) (by simp) ?_;intro aJ aI aW V S R ap;have N:=av (JA q i O A z.1 V S R);obtain⟨⟨aX,aY,aZ,a0⟩,aS,aT,aU,aV⟩:=N.out.1.cells;clear V S R ap))
   ·exact aB (v:=.tuple #[.agg #[ae 0,ae 0,ag ⟨#[]⟩,af none 0 0],.bool false]) (by simp[results,results75,go_sem,J,K,L,M,ao]) rfl ⟨0,0,⟨#[]⟩,none,0,0,false,rfl,(mD.box q (Jz d.2.2.2.2 i O A _) _ _ _ _).alloc _⟩
   ·obtain⟨al,g,o,p⟩:=N.2;go_roundw
    case rel=>exact⟨al,g,_,_,_,o,trivial⟩
    case measure=>exact p
  ·go_wp2_with (first
     | (go_at_call 52;refine(pY r s f h j wr a.1 a.2.1.1 a.2.1.2.1 C).mono ?_;rintro g ad ⟨rfl,x,rfl⟩)
     | (go_at_call 50;refine(sx r s f h (wr.drewN x) (a.1.drew x) a.2.1.2.1 E).mono ?_;rintro g F ⟨rfl,m⟩;obtain⟨o,p,H⟩:=Jy q d.2.2.2.2 P (by rw[C.out];exact hc) m.1 m.2;obtain⟨⟨J,K,L,M⟩,f0,f1,f2,f3⟩:=p.cells;obtain⟨⟨y0,y1,y2,aH⟩,ax,az,aA,aE⟩:=H.cells;have ai:=av (mD.box q o);clear o p H))
   exact aB (v:=.tuple #[.agg #[ae 4,ae 0,ag ⟨#[]⟩,af D u c],.bool true]) (by simp[results,results75,go_sem,J,K,L,M]) rfl ⟨4,0,⟨#[]⟩,D,u,c,true,rfl,ai _ _ _ _⟩
theorem Lc(a:x.toList=[]):gB x=false:=by
 rw[cC]at a;have b:x.size=0:=by
  have:x.data.toList.length=x.size:=by simp
  rw[a]at this;exact this.symm
 simp[gB,cC,fk,a,b]
theorem mD.undrew{v:ax}(a:mD n s r f (w.drewN m) w1 v ok):mD n s r f w w1 v ok:=by
 obtain⟨b,c⟩:=a;exact⟨cm (eX w m _) b,c⟩
theorem Ld(a:At s b e f)(h:s.extract b e=x)(z:s.size<=2048)(i:Gq x=false){k:Int}{t:aq}(c:gB x=true)(u:(k,d,t)=ng x)(A:t.size<=x.size)(p:dm k)(q:dm d)(m:ap w w1)(v:Rd r s (dX s e) (eQ s e) w2)(g:(w1.alloc o).grownBy w2 (some r)):mD (n+1) s r f w w2 (.agg #[ae k,ae d,ag t,af none 0 0]) true:=by
 have B:x.size<=2048:=by rw[<-h];simp;have:=a.2.1;omega
 refine⟨cm (fX (o8 (gR w _) m) o) g,dX s e,eQ s e,j0 s e,v,At.next a.2.1,λ_=>?_,by simp⟩;cases f with
 | nil=>
  have:=a.nil;rw[h]at this;rw[Lc this]at c;exact absurd c (by simp)
 | cons t0 f=>
  obtain⟨j,l,_⟩:=a.cons;subst j l;rw[h];refine⟨⟨((k,d,t),(none,0),[]),rfl,⟨_,_,rfl,ak ⟨i,c,u,rfl,rfl⟩⟩,⟨⟨p,q,by unfold maxLen;simp only;omega,aK _,aK _⟩,ak rfl⟩,ak rfl⟩,λy=>?_⟩;simp only[B8,i,c];simp
theorem Nu(c:At s b e f)(k:s.extract b e=x)(j:Gq x=false)(i:gB x=false)(a:Rd r s b e w)(d:ap w w1)(v:ax):mD (n+1) s r f w w1 v false:=by
 refine⟨o8 (gR w _) d,b,e,f,a.block (d.block r a.lt),c,by simp,λ_ l=>?_⟩;cases f with
 | nil=>rfl
 | cons t0 f=>
  obtain⟨g,h,_⟩:=c.cons;subst g h;simp only[B8,k,j,i];simp[LF]
theorem G5(a:Below (w.drewN m).heap.size (w.drewN m) w1):ap w w1:=⟨a.os,a.tape,a.output,a.size,a.block⟩
theorem vx(a:r<w.heap.size)(g:(w.alloc (.cells #[v0,v1,v2,v3] 54)).grownBy w2 (some r)):Bx w.heap.size v0 v1 v2 v3 w2:=
 (Bx.new w v0 v1 v2 v3).block (g.block _ (by simp) (by simp;omega))
theorem zq(n:Nat)(r:Nat)(s:aq)(b e:Nat)(p:List Tok)(w:ah)(l:Rd r s b e w)(D:At s b e p)(E:s.size<=2048)(ih:∀w':ah,Rd r s b e w'->Gq (s.extract b e)=true->au 75 #[aC r] w' λd S=>MD (n+1) s r p w' S d):au 51 #[aC r] w λd w'=>MD (n+1) s r p w w' d:=by
 have h:=l.lt;have a:=av (⟨l,D⟩:_/\_);have O:=av ih;clear l D ih;obtain⟨c,m⟩:∃c,s.extract b e=c:=⟨_,rfl⟩;have g:=av m;have R:c.size<=2048:=by rw[<-m];simp;have:=a.2.2.1;omega
 clear m;cases hc:(c.toList==[40])
 ·have X:(c.toList=[40])=False:=by simpa using hc
  have Y:(c.toList !=[40])=true:=by simpa using hc
  go_enter func51,ntmps51
  go_wp2_with (first
   | (go_at_call 52;refine(pY r s b e c _ (a.1.alloc _) a.2.1 a.2.2.1 g).mono ?_;rintro d L ⟨rfl,o,rfl⟩)
   | (go_at_call 52;refine(pY r s b e c _ ((a.1.alloc _).drew o) a.2.1 a.2.2.1 g).mono ?_;rintro d L ⟨rfl,ai,rfl⟩)
   | (go_at_call 76;refine(I6 c _ R).mono ?_;rintro d q ⟨⟨k,f,t,ok,rfl,A⟩,HB⟩;replace HB:=G5 HB;obtain⟨⟨u,x,y,z⟩,f0,f1,f2,f3⟩:=zL HB;have P:w.heap.size<q.heap.size:=(by have:=HB.size;simp at this;omega);have Q:r<q.heap.size:=(by omega);replace HB:=av HB;cases ok)
   | (go_at_call 50;refine(sx r s b e _ ((((a.1.alloc _).block (HB.block r (by simp;omega)))).alloc _) a.2.2.1 E).mono ?_;rintro d an ⟨rfl,i⟩;have N:=av (cm (fX (o8 (gR _ _) HB) _) i.2);obtain⟨⟨T,U,V,W⟩,aj,ak,al,am⟩:=(vx h N).cells;obtain⟨⟨y0,y1,y2,ao⟩,Z,aa,ab,ad⟩:=(vx Q i.2).cells;obtain⟨G,H,I,J,K⟩:=A.out;have M:=av (mD.box h (Ld (n:=n) a.2 g E hc G.symm (H (by trivial)) I J K HB i.1 i.2));clear G H I J K))
  ·exact aB (v:=.tuple #[.agg #[ae k,ae f,ag t,af none 0 0],.bool false]) (by simp[results,results51,go_sem,u,x,y,z,P]) rfl ⟨k,f,t,none,0,0,false,rfl,(mD.box h (Nu a.2 g hc A.1.symm (a.1.alloc _) HB _) _ _ _ _).alloc _⟩
  ·exact aB (v:=.tuple #[.agg #[ae k,ae f,ag t,af none 0 0],.bool true]) (by simp[results,results51,go_sem,T,U,V,W]) rfl ⟨k,f,t,none,0,0,true,rfl,M _ _ _ _⟩
 ·go_enter func51,ntmps51
  go_wp2_with (first
   | (go_at_call 52;refine(pY r s b e c _ (a.1.alloc _) a.2.1 a.2.2.1 g).mono ?_;rintro d L ⟨rfl,o,rfl⟩)
   | (go_at_call 75;refine(O _ ((a.1.alloc _).drew o) (by rw[g.out];exact hc)).mono ?_;rintro d q ⟨k,f,t,B,F,C,ok,rfl,j⟩;replace j:=av j.undrew;obtain⟨⟨u,x,y,z⟩,f0,f1,f2,f3⟩:=(vx h j.1).cells))
  exact aB (v:=.tuple #[.agg #[ae k,ae f,ag t,af B F C],.bool ok]) (by simp[results,results51,go_sem,u,x,y,z]) rfl ⟨k,f,t,B,F,C,ok,rfl,mD.box h j _ _ _ _⟩
theorem I9(n:Nat):Oj n:=by
 induction n with
 | zero=>
  intro g h b d c k j a f l;refine zq 0 g h b d c k j a f λm _ e=>?_;have i:c=[]:=bZ (by omega);subst i;simp[Gq,a.nil]at e
 | succ n ih=>
  intro g h b d c k j a f l;refine zq (n+1) g h b d c k j a f λm o e=>?_;cases c with
  | nil=>simp[Gq,a.nil]at e
  | cons t c=>
   have i:=a.cons.1;refine FI n ih g h b d t c m o a f (by simp at l;omega) ?_;rw[i];exact e
def pA:ax:=.agg #[ae 0,ae 0,ag ⟨#[]⟩,af none 0 0]
def QA(s:aq)(w w':ah)(v:ax)(pos b:Int):Prop:=
 (2048<s.size/\v=pA/\pos=0/\b=2)\/(∃c:Nat,s.size<=2048/\B8 s.size (j0 s 0) 0=some c/\v=pA/\pos=c/\b=3)\/
  (s.size<=2048/\B8 s.size (j0 s 0) 0=none/\∃(n:Nat)(a:Tm n),Is n a (j0 s 0) []/\In w'.heap.size w' n a/\cE (λd=>w.heap.size<=d) n a/\pos=0/\b=bJ n a/\((bJ n a≠0/\v=pA)\/(bJ n a=0/\v=dE n a)))
def Qz(s:aq)(w w':ah)(e:Ending):Prop:=
 ∃(k d:Int)(t:aq)(a:aw)(l c:Nat)(pos b:Int),e=.returned (.tuple #[.agg #[ae k,ae d,ag t,af a l c],ae pos,ae b])/\
  Hid (QA s w w' (.agg #[ae k,ae d,ag t,af a l c]) pos b/\ap w w')
theorem wW(a:b≠q)(v0 v1 v2 v3:ax):((((w.setCell ⟨q,0,none⟩ v0).setCell ⟨q,1,none⟩ v1).setCell ⟨q,2,none⟩ v2).setCell ⟨q,3,none⟩ v3).heap[b]?=w.heap[b]? :=by
 rw[ei _ _ _ _ (by simpa using a),ei _ _ _ _ (by simpa using a),ei _ _ _ _ (by simpa using a),ei _ _ _ _ (by simpa using a)]
theorem zb(v0 v1 v2 v3:ax):((((w.setCell ⟨q,0,none⟩ v0).setCell ⟨q,1,none⟩ v1).setCell ⟨q,2,none⟩ v2).setCell ⟨q,3,none⟩ v3).heap.size=w.heap.size:=by simp[World.setCell]
theorem IY(g:((w.alloc (.cells #[ae 0,ae 0,ag ⟨#[]⟩,af none 0 0] 54)).alloc (.cells #[ag s,ae 0,ae 0] 85)).grownBy w2 (some (w.heap.size+1)))(a:w2.grownBy h (some (w.heap.size+1))):Bx w.heap.size (ae 0) (ae 0) (ag ⟨#[]⟩) (af none 0 0) h/\w.heap.size+1<h.heap.size/\ap w h/\w.heap.size+2<=w2.heap.size:=by
 have b:=cm g a;have d:=g.size;have f:=a.size;simp at d;refine⟨((Bx.new w _ _ _ _).block (fw _ _ (by simp))).block (b.block _ (by simp;omega) (by simp)),by omega,?_,by omega⟩;exact((aT _ _).alloc (by simp) _).grown b (by simp;omega) (λe c=>by simp at c;omega)
theorem In.drewN{B:Nat}{w:ah}{n:Nat}{x:Tm n}(m:Nat){P:aU}(k:cE P n x)(a:In B w n x):In B (w.drewN m) n x:=In.off (w:=w) (w':=w.drewN m) (λ_ _=>rfl) k a
theorem Lz{v:ax}(A:s.extract b e=x)(z:(x.toList==[])=true)(D:s.size<=2048)(r:At s b e f)(E:w.heap.size+2<=w2.heap.size)(l:(∃x:Tm 2049,dE 2049 x=v/\Is 2049 x (j0 s 0) f/\In h.heap.size h 2049 x/\cE (λq=>w2.heap.size<=q) 2049 x)/\∀d,B8 s.size (j0 s 0) d=kJ s.size f d)(o:Obj)(m:Nat):∃y:Tm 2049,v=dE 2049 y/\Is 2049 y (j0 s 0) []/\In ((h.alloc o).drewN m).heap.size ((h.alloc o).drewN m) 2049 y/\cE (λq=>w.heap.size+2<=q) 2049 y/\(aF 2049 y).length<=2097152/\B8 s.size (j0 s 0) 0=none:=by
 obtain⟨⟨y,n,g,i,a⟩,p⟩:=l;have j:f=[]:=by
  cases f with
  | nil=>rfl
  | cons t f=>
   have k:=r.cons.2.2;rw[A]at k;have c:x.toList=[]:=by simpa using z
   rw[cC]at c;have:x.data.toList.length=x.size:=by simp
   rw[c]at this;simp at this;omega
 subst j;have B:=uW 2049 y (j0 s 0) [] g;have c:=mB s s.size 0 (by omega);refine⟨y,n.symm,g,In.drewN m a ((In.off (λb u=>fw h o u.2) (In.offB a i) i).mono (by simp)),a.mono λq C=>by omega,by simp at B;omega,p 0⟩
theorem Lx{a:ah}(c:Bx w.heap.size (ae 0) (ae 0) (ag ⟨#[]⟩) (af none 0 0) h)(b:Below ((h.alloc (.cells #[v0,v1,v2,v3] 54)).drewN m).heap.size ((h.alloc (.cells #[v0,v1,v2,v3] 54)).drewN m) a):Bx w.heap.size (ae 0) (ae 0) (ag ⟨#[]⟩) (af none 0 0) a/\Bx h.heap.size v0 v1 v2 v3 a:=by
 have d:=c.lt;exact⟨(c.block (fw _ _ d)).block (b.block _ (by simp;omega)),(Bx.new h v0 v1 v2 v3).block (b.block _ (by simp))⟩
theorem Ly(g:s.extract b e=x)(c:(x.toList==[])=false)(a:At s b e f)(d:B8 s.size (j0 s 0) 0=kJ s.size f 0):B8 s.size (j0 s 0) 0=some b:=by
 rw[d,<-a.pos];cases f with
 | nil=>rw[<-g]at c;simp[a.nil]at c
 | cons t f=>rfl
theorem Lw{w4:ah}{y:Tm n}(a:In w4.heap.size w4 n y)(k:cE (λq=>w.heap.size+2<=q) n y)(b:ap w4 h)(v0 v1 v2 v3:ax):In ((((h.setCell ⟨w.heap.size,0,none⟩ v0).setCell ⟨w.heap.size,1,none⟩ v1).setCell ⟨w.heap.size,2,none⟩ v2).setCell ⟨w.heap.size,3,none⟩ v3).heap.size ((((h.setCell ⟨w.heap.size,0,none⟩ v0).setCell ⟨w.heap.size,1,none⟩ v1).setCell ⟨w.heap.size,2,none⟩ v2).setCell ⟨w.heap.size,3,none⟩ v3) n y:=by
 rw[zb];exact In.off (λq c=>wW (by omega) _ _ _ _) k ((a.below b).mono b.size)
theorem qN(a:ap w w1)(v0 v1 v2 v3:ax):ap w ((((w1.setCell ⟨w.heap.size,0,none⟩ v0).setCell ⟨w.heap.size,1,none⟩ v1).setCell ⟨w.heap.size,2,none⟩ v2).setCell ⟨w.heap.size,3,none⟩ v3):=
 ⟨a.os,a.tape,a.output,by rw[zb];exact a.size,λk b=>(wW (by omega) _ _ _ _).trans (a.block k b)⟩
theorem iW(a:Below B w w1)(m:Nat):Below B w (w1.drewN m):=⟨a.os,a.tape,a.output,a.size,a.block⟩
theorem mS(a:ap w w1)(o:Obj):ap w (w1.alloc o):=a.alloc a.size o
theorem yN(s:aq)(w:ah)(S:s.size<=maxLen):au 35 #[ag s] w λe w'=>Qz s w w' e:=by
 unfold maxLen at S;by_cases D:2048<s.size
 ·have Q:(2048:Int)<s.size:=by omega
  go_enter func35,ntmps35;go_wp2_with fail;exact aB (v:=.tuple #[pA,ae 0,ae 2]) (by simp[results,results35,go_sem,pA]) rfl ⟨0,0,⟨#[]⟩,none,0,0,0,2,rfl,ak ⟨D,rfl,rfl,rfl⟩,by go_grown⟩
 ·have Q:(s.size:Int)<=2048:=by omega
  have i:s.size<=2048:=by omega
  clear D;have P:Hid (Rd (w.heap.size+1) s 0 0 ((w.alloc (.cells #[ae 0,ae 0,ag ⟨#[]⟩,af none 0 0] 54)).alloc (.cells #[ag s,ae 0,ae 0] 85))):=by
   have:=aI (w.alloc (.cells #[ae 0,ae 0,ag ⟨#[]⟩,af none 0 0] 54)) (.cells #[ag s,ae 0,ae 0] 85);simpa [Hid,Rd]using this
  go_enter func35,ntmps35
  go_wp2_with (first
   | (go_at_call 50;refine(sx (w.heap.size+1) s 0 0 _ P (aK _) i).mono ?_;rintro o U ⟨rfl,B⟩)
   | (go_at_call 51;refine(I9 2048 (w.heap.size+1) s _ _ (j0 s 0) U B.1 (At.next (aK _)) i (aD (mB s s.size 0 (by omega)) (by omega))).mono ?_;rintro o V ⟨k,A,t,y,l,c,ok,rfl,C⟩;obtain⟨q,al,G,H⟩:=IY B.2 C.1;obtain⟨⟨K,L,M,N⟩,f0,f1,f2,f3⟩:=q.cells;have E:w.heap.size<V.heap.size:=(by omega);obtain⟨_,d,o,az,b⟩:=C;replace b:=av b;obtain⟨⟨W,X,Y⟩,an,ao⟩:=b.out.1.cells;have HB:=av (⟨G,H⟩:_/\_);replace q:=av q;clear G H;obtain⟨r,F⟩:∃r,s.extract d o=r:=⟨_,rfl⟩;have x:=av F;clear F;cases ok)
   | (go_at_call 52;refine(pY (w.heap.size+1) s d o r _ (b.1.alloc _) b.2.1.1 b.2.1.2.1 x).mono ?_;rintro Z aA ⟨rfl,m,rfl⟩;cases hc:(r.toList==[]))
   | (go_at_call 53;obtain⟨u,p,a⟩:=Lz x hc i b.2.1 HB.2 (b.2.2.1 (by trivial)) _ m;replace a:=av a;refine(show Calls _ _ #[.agg #[ae k,ae A,ag t,af y l c]] _ _ from p▸dV 2049 u _ _ a.2.1 (ay _) a.2.2.2.1).mono ?_;rintro aa aC ⟨rfl,h⟩;obtain⟨I,J⟩:=Lx q h;obtain⟨⟨y0,y1,y2,O⟩,ab,ad,ai,aj⟩:=I.cells;obtain⟨⟨aE,aF,aG,aH⟩,ap,ar,aw,ax⟩:=J.cells;have n:=av h;clear I J h;replace p:=av p;obtain⟨j,g⟩:∃j,bJ 2049 u=j:=⟨_,rfl⟩;rw[g];replace g:=av g;by_cases z:j=0))
  ·go_region;go_wp2_with fail;have f:=HB.1;exact aB (v:=.tuple #[pA,ae d,ae 3]) (by simp[results,results35,go_sem,pA,E,K,L,M,N]) rfl ⟨0,0,⟨#[]⟩,none,0,0,d,3,rfl,am (ak ⟨d,i,by rw[<-b.out.2.1.pos];exact b.2.2.2 (by trivial) 0,rfl,rfl,rfl⟩),by go_grown⟩
  ·go_region;go_wp2_with fail;have f:=HB.1;exact aB (v:=.tuple #[pA,ae d,ae 3]) (by simp[results,results35,go_sem,pA,E,K,L,M,N]) rfl ⟨0,0,⟨#[]⟩,none,0,0,d,3,rfl,am (ak ⟨d,i,Ly x hc b.2.1 ((b.2.2.1 (by trivial)).2 0),rfl,rfl,rfl⟩),qN (iW (mS f _) _) _ _ _ _⟩
  ·have f:=HB.1;have h:=n.out;exact aB (v:=.tuple #[.agg #[ae k,ae A,ag t,af y l c],ae 0,ae 0]) (by simp[results,results35,go_sem,y0,y1,y2,O]) rfl ⟨k,A,t,y,l,c,0,0,rfl,am (am ⟨i,a.2.2.2.2,2049,u,a.1,Lw a.2.1 a.2.2.1 n _ _ _ _,a.2.2.1.mono (λT R=>by omega),rfl,(g.trans z).symm,am ⟨g.trans z,p⟩⟩),qN ((iW (mS f _) m).trans (h.mono (iW (mS f _) m).size)) _ _ _ _⟩
  ·have f:=HB.1;have h:=n.out;exact aB (v:=.tuple #[pA,ae 0,ae j]) (by simp[results,results35,go_sem,pA,y0,y1,y2,O]) rfl ⟨0,0,⟨#[]⟩,none,0,0,0,j,rfl,am (am ⟨i,a.2.2.2.2,2049,u,a.1,Lw a.2.1 a.2.2.1 n _ _ _ _,a.2.2.1.mono (λT R=>by omega),rfl,g.symm,ak ⟨by rw[g.out];exact z,rfl⟩⟩),qN ((iW (mS f _) m).trans (h.mono (iW (mS f _) m).size)) _ _ _ _⟩
def wt:(n:Nat)->Tm n->Nat
 | 0,_=>1
 | n+1,x=>1+x.1.2.2.size+(x.2.2.map λy=>wt n y).sum
def jn(l:List (List UInt8)):List UInt8:=((l.map λa=>32::a).flatten).tail
theorem Nr(l:List (List UInt8))(a:List UInt8):jn (l++ [a])=if l=[]then a else jn l++32::a:=by
 unfold jn;cases l with
 | nil=>simp
 | cons b l=>simp
def fI:(n:Nat)->Tm n->List UInt8
 | 0,_=> []
 | n+1,x=>
  if x.1.1=1 then Lib.itoa x.1.2.1 else if x.1.1=2 then x.1.2.2.data.toList else if x.1.1=3 then 35::Lib.itoa x.1.2.1
  else if x.1.1=4 then 40::jn (x.2.2.map λy=>fI n y)++ [41]else if x.1.1=5 then 36::Lib.itoa x.1.2.1 else if x.1.1=6 then [95]else []
theorem KX(n:Nat)(f:Tm n->List UInt8)(l:List (Tm n))(a:∀y∈l,(f y).length+1<=24*wt n y):(jn (l.map f)).length<=24*(l.map λy=>wt n y).sum:=by
 have key:∀l:List (Tm n),(∀y∈l,(f y).length+1<=24*wt n y)->(((l.map f).map λb=>32::b).flatten).length<=24*(l.map λy=>wt n y).sum:=by
  intro l
  induction l with
  | nil=>simp
  | cons y l ih=>
   intro a;have g:=a y (by simp);have e:=ih (λd c=>a d (by simp[c]));simp only[bz,List.flatten_cons,bm,bt,di];omega
 unfold jn;rw[List.length_tail];have:=key l a;omega
theorem Pb{x:Tm (n+1)}(a:In B w (n+1) x){y:Tm n}(c:y∈x.2.2):In B w n y:=by
 rcases a.2 with a|⟨b,o,_,_,a⟩
 ·rw[a]at c;cases c
 ·obtain⟨e,d⟩:=dh c;exact(a e y d).2
theorem tS:(n:Nat)->(x:Tm n)->(B:Nat)->(w:ah)->In B w n x->(fI n x).length+1<=24*wt n x
 | 0,_,_,_,h=>h.elim
 | n+1,x,B,w,h=>by
  have e:=KX n (λy=>fI n y) x.2.2 (λy f=>tS n y B w (Pb h f));have d:dm x.1.2.1:=h.1.2.1;obtain⟨⟨k,b,s⟩,⟨a,c⟩,p⟩:=x;have g:=Lib.itoa_length_le b d.1 d.2;have i:s.data.toList.length=s.size:=by rw[ls];rfl
  simp only at e
  show (if k=1 then Lib.itoa b else if k=2 then s.data.toList else if k=3 then 35::Lib.itoa b
   else if k=4 then 40::jn (p.map λy=>fI n y)++ [41]else if k=5 then 36::Lib.itoa b else if k=6 then [95]else []).length+1<=24*(1+s.size+(p.map λy=>wt n y).sum)
  repeat' split
  all_goals (try simp only[bt,bm,eU])
  all_goals omega
theorem dC.trans{B b:Nat}{l d:List UInt8}{w w1 w2:ah}(c:dC B b l w w1)(a:dC B b d w1 w2):dC B b d w w2:=⟨a.1,c.2.1.trans a.2.1,c.2.2.trans a.2.2⟩
theorem dC.old{B b:Nat}{l:List UInt8}{w w':ah}(c:Bu B b l w)(a:ap w w')(d:B<=w.heap.size):dC B b l w w':=⟨c.old a,a.mono d,KY a⟩
def FW(n:Nat):Prop:=∀(x:Tm n)(C B b:Nat)(l:List UInt8)(w:ah),In C w n x->C<=B->Bu B b l w->B<=w.heap.size->xz B w->l.length+24*wt n x<=140737488355328->
 au 135 #[aC b,dE n x] w λe w'=>e=.returned (.tuple #[])/\dC B b (l++fI n x) w w'
theorem iI(B b:Nat)(l:List UInt8)(c:Int)(a:UInt8)(g:(a.toNat:Int)=c)(w:ah)(d:Bu B b l w)(h:l.length+1<=140737488355328)(f:B<=w.heap.size):au 14 #[aC b,.int .u8 c] w λe w'=>e=.returned .nilIface/\dC B b (l++ [a]) w w':=by
 rw[<-g];exact xR B b l a w d h f
theorem GR(w:ah)(cs:Array ax)(t:TypeId):(w.alloc (.cells cs t)).heap[w.heap.size]?=some (.cells cs t (0,0)):=aI w _
theorem zC(k d:Int)(s:aq)(a:aw)(n c:Nat)(B b:Nat)(l:List UInt8)(w:ah)(g:dm d)(j:Bu B b l w)(E:B<=w.heap.size)(x:xz B w)(I:l.length+24<=140737488355328)(i:UInt8)(F:(k=3/\i=35)\/(k=5/\i=36)):au 135 #[aC b,.agg #[ae k,ae d,ag s,af a n c]] w λe w'=>e=.returned (.tuple #[])/\dC B b (l++i::Lib.itoa d) w w':=by
 have A:=av (Lib.itoa_length_le d g.1 g.2);have r:Hid (∀o,dC B b l w (w.alloc o)):=λo=>dC.old j (aT _ o) E;have C:=av x;have q:=av g;have J:=j.lt;clear j x g;rcases F with⟨rfl,rfl⟩|⟨rfl,rfl⟩
 all_goals
  go_enter func135,ntmps135;go_wp2_with fail;refine(iI B b l _ _ (by first|exact(rfl:(((35:UInt8).toNat:Nat):Int)=35)|exact(rfl:(((36:UInt8).toNat:Nat):Int)=36)) _ (r.out _).1 (by omega) (by simp;omega)).mono ?_;rintro e y ⟨rfl,f⟩;have h:=av ((r.out _).trans f);have v:=yv f.2.2 (GR w _ 54) (by omega) (by decide);have H:ai y w.heap.size 1 (ae d):=by rw[fm v];rfl
  have t:Hid (B<=y.heap.size):=by have:=f.2.1.size;simp at this;simp only[Hid];omega
  clear f v;go_wp2_with fail;refine(jS d q.out.1 q.out.2 B _ (C.out.on h.out.2.1)).mono ?_;rintro e G ⟨rfl,m⟩;have p:=av (dC.old h.out.1 m t.out);have D:Hid (B<=G.heap.size):=aD t.out m.size;clear m;go_wp2_with fail;refine(kD B b _ _ _ p.out.1 (by have:=A.out;simp[ByteArray.size];omega) D.out).mono ?_;rintro e K ⟨rfl,u⟩;have z:=av ((h.out.trans p.out).trans u);clear u;go_wp2_with fail
  go_end0
  exact⟨rfl,by have:=z.out;simpa using this⟩
theorem ru:(n:Nat)->(x:Tm n)->(m:Nat)->(y:Tm m)->aH n x m y=true->fI n x=fI m y
 | 0,_,_,_,h=>by simp[aH]at h
 | _+1,_,0,_,h=>by simp[aH]at h
 | n+1,x,m+1,y,h=>by
  obtain⟨c,d⟩:=bT h;simp only[fI,c];rw[jm _ _ _ _ _ (λa _ b e=>ru n a m b e) d]
end Go.Proofs.YthjclakhibnamaaGreatDoor
