/- Proved here: plain facts and contracts. No condition but what each names. -/
import Derived.Test.YtmmahddlcldmiaaGreatJ25
namespace Go.Proofs.YtmmahddlcldmiaaGreat
open Go.RowKit Tryz
set_option maxRecDepth 100000
set_option maxHeartbeats 4000000
def fN(a c:Nat)(d b:fY)(w w':ag):Prop:=bB (λq=>d.ow q≠0) w w'/\(∀q,q<w.heap.size->b.ow q=d.ow q)/\b.k<=d.k+c/\b.es.length<=d.es.length+a/\b.wn<=d.wn+a/\b.bn<=d.bn+a
theorem fN.trans{a b c e:Nat}{d d1 h:fY}{w w1 w2:ag}(l:fN a c d d1 w w1)(k:fN b e d1 h w1 w2):fN (a+b) (c+e) d h w w2:=by
 obtain⟨i,j,o,p,q,r⟩:=l;obtain⟨m,n,t,u,v,x⟩:=k;have s:=i.size;exact⟨i.trans m λf g e=>by rw[j f g]at e;exact e,λf g=>(n f (by omega)).trans (j f g),by omega,by omega,by omega,by omega⟩
variable{room self:Int}{a k n:Nat}{h:Type}{w w1:ag}{name:ap}{d d1:fY}
theorem fN.mono{b c e:Nat}(f:fN a c d d1 w w1)(m:a<=b)(n:c<=e):fN b e d d1 w w1:=by
 obtain⟨g,h,i,j,k,l⟩:=f;exact⟨g,h,by omega,by omega,by omega,by omega⟩
theorem dX.un(b:dX a d d1 w w1):fN a 0 d d1 w w1:=⟨b.1.mono λq _ e=>by omega,b.2.1,by have:=b.2.2.1;omega,b.2.2.2⟩
theorem A4{c:Type}(k j:Int)(v:c):(l:List (Int×c))->(l.map λp=>if p.1=k then (k,v)else p).find? (λp=>p.1==j)=(l.find? λp=>p.1==j).map λp=>if p.1=k then (k,v)else p
 | []=>rfl
 | a::l=>by
  rw[aU,jL,jL,A4 k j v l];by_cases b:a.1=k
  ·rw[if_pos b];simp only[b];cases k==j<;>simp[b]
  ·rw[if_neg b];cases a.1==j<;>simp[b]
theorem P1.lie2{a f:Nat}{cs:Tc}{c:List Tc}{M:aR}(d:P1 a f name room cs c k M w):∀b,M b->a<=b/\b<w.heap.size:=by
 obtain⟨h,q,o,t,p,r,s,m,n,g,i,j,l,e⟩:=d;exact e
section
variable {p:ke} {s:Sy} {d:fY} {w:ag}
theorem Fe(s:Sy)(k j:Int)(v:ap×Tc×List Tc):(s.put k v).get j=if j=k then (s.get k).map λ_=>v else s.get j:=by
 unfold Sy.put Sy.get;simp only;rw[A4];by_cases a:j=k
 ·subst a;rw[if_pos rfl];cases e:s.ps.find? (λp=>p.1==j)with
  | none=>rfl
  | some b=>
   have:=List.find?_some e;simp only[cF]at this;simp[this]
 ·rw[if_neg a];cases e:s.ps.find? (λp=>p.1==j)with
  | none=>rfl
  | some b=>
   have:=List.find?_some e;simp only[cF]at this;simp[this,a]
theorem vg(s:Sy)(k:Int)(v:ap×Tc×List Tc):(s.put k v).ps.map (·.1)=s.ps.map (·.1):=by
 unfold Sy.put;simp only[gE];refine jq λb _=>?_;by_cases a:b.1=k
 ·simp[a]
 ·simp[a]
theorem bt.turnP(a:bt p s d w){k:Int}{b:Nat}(y:cZ d.l k=some b){nm:ap}{cs m:Tc}{F i:List Tc}(S:s.get k=some (nm,cs,F)){w':ag}(e:bB (λq=>d.ow q=k) w w'){N:aR}{j:Nat}(Q:∀q,N q->d.ow q=k\/w.heap.size<=q)(T:d.k<=j)(x:P1 p.lo b nm p.room m i (j+201) N w')(P:i.length<=20):bt p (s.put k (nm,m,i)) {d with ow:=Fv d w w' k,k:=j} w'/\fN 0 (j-d.k) d {d with ow:=Fv d w w' k,k:=j} w w':=by
 have Z:=(a.key y).1;have v:=ui (t:=k) a e.size a.lo.1;have f:=uj (w':=w') (t:=k) a;have R:∀q,N q->p.lo<=q/\q<w'.heap.size:=P1.lie2 x;have t:∀{t:Int},t≠k->∀q,d.ow q=t->¬d.ow q=k:=λW q h g=>W (h.symm.trans g);have r:w'.heap[p.b]?=some (.cells (eh p s d) 74):=(e.block p.b a.lo.2 (t (by omega) p.b a.own)).trans a.box;obtain⟨y1,y2,Y⟩:=a.wyK e (t (by omega)) f rfl (qG r).1;obtain⟨G,H⟩:=a.evK e (t (by omega)) f;obtain⟨I,J,K,L,M,O⟩:=a.keys;have U:∀q∈(s.put k (nm,m,i)).ps,1<=q.1/\q.1<=s.last:=λq z=>by
  have:q.1∈(s.put k (nm,m,i)).ps.map (·.1):=cm.2 ⟨q,z,rfl⟩;rw[vg]at this;obtain⟨X,V,h⟩:=cm.1 this;rw[<-h];exact K X V
 refine⟨⟨v,r,(f p.b (by rw[a.own];decide)).trans a.own,⟨a.pgK e (t (by omega)) f,a.pg.2⟩,a.pmK e (λq h _=>t (by omega) q h) f,⟨by rw[vg];exact I,by rw[vg];exact J,U,L,M,by unfold Sy.put;simpa using O⟩,λn c q=>?_,⟨y1,y2,a.wy.2.2.1,a.wy.2.2.2.1,Y⟩,a.bdK e (t (by omega)) f rfl (qG r).2,G,a.evt.1,H⟩,e.mono λq _ h=>by rw[h];omega,λq z=>if_neg (by omega),by show j<=_;omega,ao _,ao _,ao _⟩;by_cases u:n=k
 ·subst u;have q:cZ d.l n=some c:=q;rw[y]at q;obtain rfl:=aA q;refine⟨nm,m,i,by rw[Fe,if_pos rfl,S];rfl,x.mono (λq g=>?_) (ao _) λq g=>v q (by have g:Fv d w w' n q=n:=g;rw[g];omega),P⟩;rcases Q q g with o|o
  ·exact(f q (by rw[o];omega)).trans o
  ·exact if_pos ⟨o,(R q g).2⟩
 ·obtain⟨A,B,C,D,E⟩:=a.psK e T (t u) f v q;exact⟨A,B,C,by rw[Fe,if_neg u];exact D,E⟩
end
theorem Hx(i L:Nat)(G:Option Nat)(a b d f:Int)(g:ap)(xa:aw)(h xc:Nat)(v:Int)(w:ag)(o R:ag->Prop)(V:i<w.heap.size)(M:Hid (w.cell? ⟨i,3,none⟩=some (.map G)))(H:Hid (∀W,ak w W->(Instr.lookup 67 (.map G) (ab b) false).run Tryz.prog W=.ok (aH L) W))(I:Hid (∀W,ak w W->am 85 #[aH L,.agg #[ab d,ab f,af g,ae xa h xc]] W λe w'=>e=.returned (ab v)/\Hid (o w'/\∀q,w.heap.size<=q->q<W.heap.size->w'.heap[q]?=W.heap[q]?)))(n:Hid (v=2->∀W,o W->am 46 #[aH i,af ⟨#[108,111,115,116]⟩,ab a,ab b,.agg #[ab d,ab f,af g,ae xa h xc]] W λe w'=>e=.returned (.tuple #[])/\Hid (R w')))(l:Hid (v=6->∀W,o W->am 48 #[aH i,ab b,ab 3] W λe w'=>e=.returned (.tuple #[])/\Hid (R w')))(m:Hid (v≠2->v≠6->∀W,o W->R W)):am 52 #[aH i,ab a,ab b,.agg #[ab d,ab f,af g,ae xa h xc]] w λe w'=>e=.returned (.tuple #[])/\Hid (R w'):=by
 go_enter func52,ntmps52;go_upto_region 1 with fail;generalize K:w.alloc _=c;have t:Hid (ak w c/\c.heap[w.heap.size]?=some (.cells #[ab d,ab f,af g,ae xa h xc] 31)):=by
  rw[<-K];exact⟨(aq _ _).alloc (ao _) _,aF _ _⟩
 clear K;obtain⟨q,s⟩:∃q,q=w.heap.size:=⟨_,rfl⟩;rw[<-s];have C:Hid (c.heap[q]?=some (.cells #[ab d,ab f,af g,ae xa h xc] 31)):=by rw[s];exact t.2
 have HB:=au t.1;have N:=au s;clear s t;have A:Hid (ak c c.drew):=(aq _ _).drew;have y:=au (HB.trans (A.mono HB.size));have D:=au (gm A C);have z:Hid (∀W:ag,W.heap[q]?=some (.cells #[ab d,ab f,af g,ae xa h xc] 31)->W.cell? ⟨q,0,none⟩=some (ab d)/\W.cell? ⟨q,1,none⟩=some (ab f)/\W.cell? ⟨q,2,none⟩=some (af g)/\W.cell? ⟨q,3,none⟩=some (ae xa h xc)):=λW r=>⟨ah r 0,ah r 1,ah r 2,ah r 3⟩;obtain⟨O,P,Q,S⟩:=z.out c C;have T:c.cell? ⟨i,3,none⟩=some (.map G):=(HB.cell (p:=⟨i,3,none⟩) V).trans M;have U:=H c.drew y
 go_region_with ((first
     | (go_at_call 85;refine(I _ y).mono ?_;rintro e k ⟨rfl,u⟩;have J:Hid (k.heap[q]?=some (.cells #[ab d,ab f,af g,ae xa h xc] 31)):=(u.2 q (by have:=N.out;omega) (aJ.1 D).1).trans D)))
 all_goals
  obtain⟨Y,d1,Z,aa⟩:=z.out k J;have B:=au u.1;clear O P Q S T U H I z u J D y A HB C;by_cases E:v=2
  ·subst E;have j:=au (n (by simp) k B);clear n l m;go_wp2_with fail;refine j.mono ?_;rintro e X ⟨rfl,x⟩;go_wp2_with fail;exact dn (v:=.tuple #[]) (by simp[results]) rfl ⟨rfl,x⟩
  ·have ad:(v==2)=false:=by simpa using E
   by_cases F:v=6
   ·subst F;have j:=au (l (by simp) k B);clear n l m;go_wp2_with fail;refine j.mono ?_;rintro e X ⟨rfl,x⟩;go_wp2_with fail;exact dn (v:=.tuple #[]) (by simp[results]) rfl ⟨rfl,x⟩
   ·have ai:(v==6)=false:=by simpa using F
    have j:=au (m E F k B);clear n l m;go_wp2_with fail;exact dn (v:=.tuple #[]) (by simp[results]) rfl ⟨rfl,j⟩
theorem Md{m:Nat}{x:Tm m}(a:bE m x=0)(room:Int)(s:Tc)(ms:List Tc):nz m x room s ms=nz 13 (cn m x) room s ms:=by
 have b:=ex a;unfold nz;rw[bV b,cM _ _ _ _ b,EX a]
theorem BV{d:Type}(k:Int)(v:d):(l:List (Int×d))->(l.map (·.1)).Nodup->(l.find? λp=>p.1==k).map (·.2)=some v->(l.map λp=>if p.1=k then (k,v)else p)=l
 | [],_,_=>rfl
 | a::l,hn,h=>by
  rw[aU,mZ]at hn;rw[jL]at h;rw[aU];by_cases b:a.1=k
  ·have c:(a.1==k)=true:=by simpa using b
   rw[c]at h;have f:a.2=v:=by simpa using h
   rw[if_pos b];congr 1
   ·rw[<-f,<-b]
   ·refine(jq λi g=>?_).trans (List.map_id l);rw[if_neg λe=>hn.1 (cm.2 ⟨i,g,e.trans b.symm⟩)];rfl
  ·have c:(a.1==k)=false:=by simpa using b
   rw[c]at h;rw[if_neg b,BV k v l hn.2 h]
theorem rR{s:Sy}{k:Int}{v:ap×Tc×List Tc}(b:(s.ps.map (·.1)).Nodup)(a:s.get k=some v):s.put k v=s:=by
 unfold Sy.put;rw[BV k v s.ps b a]
section
variable {p:ke} {s:Sy} {d:fY} {w:ag}
theorem bt.deliver(h:bt p s d w){a b:Int}(X:dC b){nm:ap}{cs:Tc}{r:List Tc}(j:s.get b=some (nm,cs,r)){m:Nat}(x:Tm (m+1))(L:In w.heap.size w (m+1) x/\cr (λq=>¬1<=d.ow q) (m+1) x)(B:bE (m+1) x=0)(aa:d.k<=47000)(Z:d.es.length<=98000):am 52 #[aH p.b,ab a,ab b,dw (m+1) x] w λe w'=>e=.returned (.tuple #[])/\Hid (∃z,bt p (s.deliver p.room a b (cn (m+1) x)) z w'/\fN 100 201 d z w w'):=by
 obtain⟨v,H⟩:∃v,cZ d.l b=some v:=by
  have:=h.alive b;rw[j]at this;cases e:cZ d.l b with
  | none=>rw[e]at this;cases this
  | some v=>exact⟨v,rfl⟩
 obtain⟨Y,Q,P,G,T,U⟩:=h.ps b v H;rw[j]at G;obtain⟨rfl,rfl,rfl⟩:nm=Y/\cs=Q/\r=P:=by
  injection G with G;injection G with J A;injection A with A S;exact⟨J,A,S⟩
 have N:=(h.key H).1;obtain⟨y,C⟩:∃y,y=nz 13 (cn (m+1) x) p.room cs r:=⟨_,rfl⟩;have ad:bE 13 (cn (m+1) x)=0:=(bV (ex B)).trans B;refine Hx p.b v d.po a b x.1.1 x.1.2.1 x.1.2.2 x.2.1.1 x.2.2.length x.2.1.2 y w (λg=>∃d1,bt p (if y=0 then s.put b (nm,cs,r++ [cn (m+1) x])else s.put b (nm,cs,r)) d1 g/\fN 0 201 d d1 w g/\In g.heap.size g (m+1) x) (λg=>∃z,bt p (s.deliver p.room a b (cn (m+1) x)) z g/\fN 100 201 d z w g) h.lo.2 h.cells.2.2.2 (λg f=>?_) (λg f=>?_) (λe g f=>?_) (λe g f=>?_) λJ A g f=>?_
 ·have:=(h.later f).look b false;rw[H]at this;exact this
 ·have W:=T.later f;have O:=(L.1.below f).mono f.size;refine(W.deliver x O (L.2.mono λq t F=>t (by rw[show d.ow q=b from F];exact N)) (fo B) (by omega) (by omega) (aD h.lo.1 f.size)).mono ?_;rintro e w' ⟨rfl,u⟩;rw[Md B,<-C]at u ⊢;obtain⟨c,n⟩:=u.out;have K:bB (λq=>d.ow q=b) g w':=⟨c.os,c.tape,c.output,c.size,c.block⟩;have V:(if y=0 then r++ [cn (m+1) x]else r).length<=20:=by
   split
   ·rename_i i;rw[C]at i;unfold nz at i;split at i
    ·cases i
    ·simp;omega
   ·exact U
  obtain⟨o,E⟩:=(h.later f).turnP H j K (λq t=>t.1) (show d.k<=d.k+201 by omega) n V;refine⟨rfl,⟨_,?_,(((dX.later d f).un.trans E).mono (ao _) (by omega)),?_⟩,λq ae F=>K.block q F λt=>?_⟩
  ·split
   ·rename_i i;rw[if_pos i]at o;exact o
   ·rename_i i;rw[if_neg i]at o;exact o
  ·exact(eX K (D:=λq=>¬1<=d.ow q) (λq t F=>t (by rw[F];exact N)) ⟨O,L.2⟩).1
  ·have:=(h.low q (by rw[t];omega)).2;omega
 ·obtain⟨d1,c,n,M⟩:=f;rw[if_neg (by rw[e];decide),rR h.keys.2.1 j]at c;refine(c.tell ol a b x.1.1 x.1.2.1 x.1.2.2 x.2.1.1 x.2.2.length x.2.1.2 (cn (m+1) x) (kB M B) (by have:=n.2.2.2.1;omega)).mono ?_;rintro R w' ⟨rfl,u⟩;obtain⟨I,o,E⟩:=u.out.up c;refine⟨rfl,I,?_,(n.trans E.un).mono (by omega) (by omega)⟩;unfold Sy.deliver;rw[j];simp only;rw[<-C,if_pos e];exact o
 ·obtain⟨d1,c,n,M⟩:=f;rw[if_neg (by rw[e];decide),rR h.keys.2.1 j]at c;refine(c.fin (how:=3) X (by have:=n.2.2.2.1;omega)).mono ?_;rintro R w' ⟨rfl,u⟩;obtain⟨I,o,E⟩:=u;refine⟨rfl,I,?_,(n.trans E.un).mono (by omega) (by omega)⟩;unfold Sy.deliver;rw[j];simp only;rw[<-C,if_neg (by rw[e];decide),if_pos e];exact o
 ·obtain⟨d1,c,n,M⟩:=f;refine⟨d1,?_,n.mono (by omega) (ao _)⟩;unfold Sy.deliver;rw[j];simp only;rw[<-C,if_neg J,if_neg A];by_cases i:y=0
  ·rw[if_pos i]at c ⊢;exact c
  ·rw[if_neg i]at c ⊢;rw[rR h.keys.2.1 j]at c;exact c
end
theorem Et(a:Nat)(w:ag)(P:av->ag->Prop)(c:Hid (am 32 #[.pointer (some ⟨a,4,none⟩)] w λe w'=>∃v,e=.returned v/\Hid (P v w'))):am 14 #[aH a] w λe w'=>∃v,e=.returned v/\Hid (P v w'):=by
 go_enter func14,ntmps14;go_wp2_with fail;refine c.mono ?_;rintro e d ⟨v,rfl,b⟩;go_wp2_with fail
 go_ret
 exact⟨v,rfl,b⟩
theorem bt.ways{p:ke}{s:Sy}{d:fY}{w:ag}(a:bt p s d w)(m:d.wn<=1000000):am 14 #[aH p.b] w λe w'=>∃v,e=.returned v/\Hid ((∃l,l.Pairwise Bw/\(∀k,k∈l ↔ I2 k/\s.ways k≠[])/\yH v l w'/\l.length<=1000000)/\ak w w'):=by
 refine Et p.b w _ ((Ln a.wy.1 m).mono ?_);rintro e w' ⟨v,l,rfl,c⟩;obtain⟨⟨f,g⟩,h,i,j⟩:=c;refine⟨v,rfl,⟨l,f,λk=>(g k).trans (and_congr_right λ_=>not_congr ?_),h,j⟩,i⟩;rw[<-a.wy.2.2.1 k,List.map_eq_nil_iff]
theorem Bk(x:Nat)(a i j:Int)(k:ap)(xa:aw)(l xc:Nat)(g cl:Bool)(b:Int)(w:ag)(R:Int->ag->Prop)(z:Hid (∀W,ak w W->am 51 #[aH x,ab a] W λe w'=>e=.returned (.bool g)/\w'=W))(G:Hid (∀W,ak w W->am 53 #[.agg #[ab i,ab j,af k,ae xa l xc]] W λe w'=>e=.returned (ab b)/\ak W w'))(E:Hid (∀W,ak w W->am 54 #[.agg #[ab i,ab j,af k,ae xa l xc]] W λe w'=>e=.returned (.bool cl)/\ak W w'))(F:Hid (g=true->b=0->cl=true->∀W,ak w W->am 52 #[aH x,ab 0,ab a,.agg #[ab i,ab j,af k,ae xa l xc]] W λe w'=>e=.returned (.tuple #[])/\Hid (R 0 w')))(r:Hid (∀W,ak w W->(g=false->R 4 W)/\(g=true->b≠0->R b W)/\(g=true->b=0->cl=false->R 5 W))):am 26 #[aH x,ab a,.agg #[ab i,ab j,af k,ae xa l xc]] w λe w'=>∃v,e=.returned (ab v)/\Hid (R v w'):=by
 go_enter func26,ntmps26;go_upto_region 1 with fail;generalize A:w.alloc _=y;have d:Hid (ak w y/\y.heap[w.heap.size]?=some (.cells #[ab i,ab j,af k,ae xa l xc] 31)):=by
  rw[<-A];exact⟨(aq _ _).alloc (ao _) _,aF _ _⟩
 clear A;go_wp2_with fail;refine(z _ d.1).mono ?_;rintro e K ⟨rfl,B⟩;obtain rfl:=B.symm;clear B z;cases g
 ·have h:=au ((r y d.1).1 rfl);go_wp2_with fail
  go_ret
  exact⟨4,rfl,h⟩
 have c:=d.2;obtain⟨m,n,o,p⟩:=PX c;clear c;go_wp2_with fail;refine(G _ d.1).mono ?_;rintro e I ⟨rfl,s⟩;have f:=au (⟨d.1.trans (s.mono d.1.size),gm s d.2⟩:_/\_);clear m n o p s;by_cases u:b=0;rotate_left
 ·have h:=au ((r I f.1).2.1 (by simp) u);have J:(b !=0)=true:=by simpa using u
  go_wp2_with fail
  go_ret
  exact⟨b,rfl,h⟩
 subst u;have c:=f.2;obtain⟨m,n,o,p⟩:=PX c;clear c;go_wp2_with fail;refine(E _ f.1).mono ?_;rintro e C ⟨rfl,t⟩;have q:=au (⟨f.1.trans (t.mono f.1.size),gm t f.2⟩:_/\_);clear m n o p t;cases cl
 ·have h:=au ((r C q.1).2.2 (by simp) (by simp) (by simp));go_wp2_with fail
  go_ret
  exact⟨5,rfl,h⟩
 have c:=q.2;obtain⟨m,n,o,p⟩:=PX c;have H:=au (F (by simp) (by simp) (by simp) C q.1);clear c;go_wp2_with fail;refine H.mono ?_;rintro e L ⟨rfl,D⟩;go_wp2_with fail
 go_ret
 exact⟨0,rfl,D⟩
section
variable {p:ke} {s:Sy} {d:fY} {w:ag}
theorem bt.inject(j:bt p s d w){a:Int}(y:dC a){m:Nat}(x:Tm (m+1))(l:In w.heap.size w (m+1) x/\cr (λq=>¬1<=d.ow q) (m+1) x)(u:(aC (m+1) x).length<=2097152)(A:d.k<=47000)(t:d.es.length<=98000):am 26 #[aH p.b,ab a,dw (m+1) x] w λe w'=>∃v,e=.returned (ab v)/\Hid (v=(s.inject p.room a (m+1) x).2/\∃g,bt p (s.inject p.room a (m+1) x).1 g w'/\fN 100 201 d g w w'):=by
 have o:∀f,ak w f->fN 100 201 d d w f:=λf c=>(dX.later d c).un.mono (aL _) (aL _);refine Bk p.b a x.1.1 x.1.2.1 x.1.2.2 x.2.1.1 x.2.2.length x.2.1.2 (s.get a).isSome (aS (m+1) x) (bE (m+1) x) w (λv w'=>v=(s.inject p.room a (m+1) x).2/\∃g,bt p (s.inject p.room a (m+1) x).1 g w'/\fN 100 201 d g w w') (λf c=>(j.later c).isAlive a) (λf c=>dQ (m+1) x w.heap.size f (l.1.below c) c.size u) (λf c=>iS (m+1) x w.heap.size f (l.1.below c) c.size) (λh i n f c=>?_) λf c=>⟨λe=>?_,λh i=>?_,λh i n=>?_⟩
 ·obtain⟨v,z⟩:=fA.1 h;obtain⟨F,E,D⟩:=v;refine((j.later c).deliver y z x ⟨(l.1.below c).mono c.size,l.2⟩ i A t).mono ?_;rintro e w' ⟨rfl,r⟩;obtain⟨g,B,C⟩:=r;have e:s.inject p.room a (m+1) x=(s.deliver p.room 0 a (cn (m+1) x),0):=by
   unfold Sy.inject;rw[if_neg (by rw[h];decide),if_neg (by rw[i];decide),if_neg (by rw[n];decide)]
  rw[e];exact⟨rfl,rfl,g,B,((dX.later d c).un.trans C).mono (by omega) (by omega)⟩
 ·have e:s.inject p.room a (m+1) x=(s,4):=if_pos e;rw[e];exact⟨rfl,d,j.later c,o f c⟩
 ·have e:s.inject p.room a (m+1) x=(s,bE (m+1) x):=by
    unfold Sy.inject;rw[if_neg (by rw[h];decide),if_pos i]
  rw[e];exact⟨rfl,d,j.later c,o f c⟩
 ·have e:s.inject p.room a (m+1) x=(s,5):=by
    unfold Sy.inject;rw[if_neg (by rw[h];decide),if_neg (by rw[i];decide),if_pos n]
  rw[e];exact⟨rfl,d,j.later c,o f c⟩
end
section
variable {p:ke} {s:Sy} {d:fY} {w:ag}
theorem bt.takeW(h:bt p s d w){a b:Int}(X:I2 (a,b))(Z:d.wn<999999):am 50 #[.pointer (some ⟨p.b,4,none⟩),ab a,ab b] w λe w'=> (s.ways (a,b)=[]->e=.returned (.tuple #[.agg #[ab 0,ab 0,af ⟨#[]⟩,ae none 0 0],ab 4])/\ak w w')/\ ∀t l,s.ways (a,b)=t::l->∃y:Tc,e=.returned (.tuple #[dw 13 y,ab 0])/\cn 13 y=t/\bE 13 y=0/\aS 13 y=true/\∃z,bt p {s with ways:=iN s.ways (a,b) l} z w'/\dX 1 d z w w'/\In w'.heap.size w' 13 y/\cr (λq=>¬1<=z.ow q) 13 y:=by
 have n:=h.wy.2.2.1 (a,b);refine(KZ (N:=12) h.wy.1 X Z (by have:=h.wy.2.2.2.1 (a,b);omega)).mono ?_;rintro e w' ⟨B,V⟩;refine⟨λA=>B ?_,λt l A=>?_⟩
 ·rw[A]at n;simpa using n
 ·rw[A]at n;obtain⟨y,i,v,P,Q⟩:∃y i,d.f (a,b)=y::i/\cn 13 y=t/\i.map (cn 13)=l:=by
   cases I:d.f (a,b)with
   | nil=>rw[I]at n;simp at n
   | cons y i=>
    rw[I,aU]at n;injection n with ag ah;exact⟨y,i,rfl,ag,ah⟩
  obtain⟨Y,sl,L,m,M⟩:=V y i v;have u:=h.wy.2.1;have r:∀b,d.ow b≠0->d.ow b=d.ow b:=λ_ _=>rfl;have J:∀b,d.ow b≠0->p.lo<=b/\b<w'.heap.size:=λb q=>⟨(h.low b q).1,aW (h.low b q).2 m.size⟩;have x:∀{t:Int},t≠ -1->t≠ -5->∀b,d.ow b=t->¬r9 (As p s d) d.wo d.sl b:=λB W b e g=>by
   rcases u b g with g|g
   ·rw[g,h.own]at e;exact W e.symm
   ·exact B (e.symm.trans g)
  have H:w'.heap[p.b]?=some (.cells (eh p s d) 74):=by
   have:=L.2.1.2;simpa [As,eh]using this
  have K:∀C,∀g∈d.f C,bE 13 g=0/\aS 13 g=true/\In w'.heap.size w' 13 g/\cr (λq=>d.ow q=-1/\¬r9 (As p s d) d.wo d.sl q) 13 g:=λC g o=>by
   obtain⟨D,E,F⟩:=h.wy.2.2.2.2 C g o;exact⟨D,E,eX m (λq al G=>al.2 G) F⟩
  obtain⟨y1,y2,ai,aj⟩:=K (a,b) y (by rw[v];simp);obtain⟨R,S⟩:=h.evK m (x (by decide) (by decide)) r;refine⟨y,Y,P,y1,y2,{d with wn:=d.wn+1,f:=iN d.f (a,b) i,sl:=sl},⟨J,H,h.own,⟨h.pgK m (x (by decide) (by decide)) r,h.pg.2⟩,h.pmK m (λq T U g=>?_) r,h.keys,λk c q=>h.psK m (ao _) (x (by have:=(h.key q).1;omega) (by have:=(h.key q).1;omega)) r J q,⟨L,λq g=>u q (M q g),λk=>?_,λk=>?_,λk g o=>?_⟩,h.bdK m (x (by decide) (by decide)) r rfl (qG H).2,R,h.evt.1,S⟩,⟨m.mono λq _ g=>?_,λ_ _=>rfl,rfl,fX _,ao _,fX _⟩,ai,aj.mono λq g=>by show¬1<=d.ow q;rw[g.1];decide⟩
  ·rcases u q g with g|g
   ·exact U g
   ·rw[T]at g;cases g
  ·by_cases j:k=(a,b)
   ·subst j;show (iN d.f (a,b) i (a,b)).map (cn 13)=iN s.ways (a,b) l (a,b);rw[cU,cU,Q]
   ·show (iN d.f (a,b) i k).map (cn 13)=iN s.ways (a,b) l k;rw[bY _ _ j,bY _ _ j];exact h.wy.2.2.1 k
  ·by_cases j:k=(a,b)
   ·subst j;show (iN d.f (a,b) i (a,b)).length<=20;rw[cU];have:=h.wy.2.2.2.1 (a,b);rw[v]at this;simp at this;omega
   ·show (iN d.f (a,b) i k).length<=20;rw[bY _ _ j];exact h.wy.2.2.2.1 k
  ·have o:g∈iN d.f (a,b) i k:=o;have aa:g∈d.f k:=by
    by_cases j:k=(a,b)
    ·subst j;rw[cU]at o;rw[v];exact bR _ o
    ·rwa [bY _ _ j]at o
   obtain⟨D,E,F,ad⟩:=K k g aa;exact⟨D,E,F,ad.mono λq O=>⟨O.1,λG=>O.2 (M q G)⟩⟩
  ·rcases u q g with g|g
   ·rw[g,h.own];decide
   ·rw[g];decide
end
theorem s8(d:Nat)(a b:Int)(s i:Bool)(w:ag)(p:Int->Int->ap->aw->Nat->Nat->ag->Prop)(R:Int->ag->Prop)(n:Hid (am 50 #[.pointer (some ⟨d,4,none⟩),ab a,ab b] w λe w'=>(s=true->e=.returned (.tuple #[.agg #[ab 0,ab 0,af ⟨#[]⟩,ae none 0 0],ab 4])/\Hid (∀W,ak w' W->R 4 W))/\(s=false->∃y0 y1 y2 ya yl yc,e=.returned (.tuple #[.agg #[ab y0,ab y1,af y2,ae ya yl yc],ab 0])/\Hid (p y0 y1 y2 ya yl yc w'))))(k:Hid (∀y0 y1 y2 ya yl yc W c,p y0 y1 y2 ya yl yc W->ak W c->am 51 #[aH d,ab b] c λe w'=>e=.returned (.bool i)/\w'=c))(l:Hid (∀y0 y1 y2 ya yl yc W c,p y0 y1 y2 ya yl yc W->ak W c->(i=true->am 52 #[aH d,ab a,ab b,.agg #[ab y0,ab y1,af y2,ae ya yl yc]] c λe w'=>e=.returned (.tuple #[])/\Hid (R 0 w'))/\(i=false->am 46 #[aH d,af ⟨#[108,111,115,116]⟩,ab a,ab b,.agg #[ab y0,ab y1,af y2,ae ya yl yc]] c λe w'=>e=.returned (.tuple #[])/\Hid (R 0 w')))):am 25 #[aH d,ab a,ab b] w λe w'=>∃v,e=.returned (ab v)/\Hid (R v w'):=by
 go_enter func25,ntmps25;go_wp2_with fail;refine n.mono ?_;rintro e f ⟨q,r⟩;cases s;rotate_left
 ·obtain⟨rfl,g⟩:=q rfl;clear q r n k l;go_wp2_with fail
  go_ret
  exact⟨4,rfl,g _ ((aq _ _).alloc (ao _) _)⟩
 obtain⟨y0,y1,y2,ya,yl,yc,rfl,g⟩:=r rfl;clear q r n;have HB:Hid (∀o,ak f (f.alloc o)):=λo=>(aq _ _).alloc (ao _) o;have x:Hid (∀o,(f.alloc o).heap[f.heap.size]?=some o):=λo=>aF f o;go_wp2_with fail;refine(k _ _ _ _ _ _ _ _ g (HB _)).mono ?_;rintro e y ⟨rfl,t⟩;obtain rfl:=t.symm;clear t;have h:=au (l _ _ _ _ _ _ _ _ g (HB (.cells #[ab y0,ab y1,af y2,ae ya yl yc] 31)));clear k l;cases i
 ·have m:=au (h.2 rfl);clear h;go_wp2_with fail;refine m.mono ?_;rintro e u ⟨rfl,j⟩;go_wp2_with fail
  go_ret
  exact⟨0,rfl,j⟩
 ·have m:=au (h.1 rfl);clear h;go_wp2_with fail;refine m.mono ?_;rintro e u ⟨rfl,j⟩;go_wp2_with fail
  go_ret
  exact⟨0,rfl,j⟩
section
variable {p:ke} {s:Sy} {d:fY} {w:ag}
theorem bt.arrive(z:bt p s d w){a b:Int}(A:I2 (a,b))(E:d.wn<999999)(Y:d.k<=47000)(W:d.es.length<=97000):am 25 #[aH p.b,ab a,ab b] w λe w'=>∃v,e=.returned (ab v)/\Hid (v=(s.arrive p.room a b).2/\∃c,bt p (s.arrive p.room a b).1 c w'/\fN 101 201 d c w w'):=by
 cases hw:s.ways (a,b)with
 | nil=>
  have e:s.arrive p.room a b=(s,4):=by unfold Sy.arrive;rw[hw]
  rw[e];refine s8 p.b a b true false w (λ_ _ _ _ _ _ _=>False) (λv w'=>v=4/\∃c,bt p s c w'/\fN 101 201 d c w w') ((z.takeW A E).mono λe w' j=>⟨λ_=>⟨(j.1 hw).1,λi g=>?_⟩,(λm=>by cases m)⟩) (λ_ _ _ _ _ _ _ _ m=>m.elim) λ_ _ _ _ _ _ _ _ m=>m.elim;have D:=(j.1 hw).2.trans (g.mono (j.1 hw).2.size);exact⟨rfl,d,z.later D,(dX.later d D).un.mono (aL _) (aL _)⟩
 | cons t l=>
  obtain⟨h,F⟩:∃h,h={s with ways:=iN s.ways (a,b) l}:=⟨_,rfl⟩;have e:s.arrive p.room a b=(if (h.get b).isSome then h.deliver p.room a b t else h.tell ol a b t,0):=by unfold Sy.arrive;rw[hw,F]
  rw[e];refine s8 p.b a b false (h.get b).isSome w (λy0 y1 y2 ya yl yc i=>∃f:Tc,(f.1=(y0,y1,y2)/\f.2.1=(ya,yc)/\f.2.2.length=yl)/\cn 13 f=t/\bE 13 f=0/\∃c,bt p h c i/\dX 1 d c w i/\In i.heap.size i 13 f/\cr (λj=>¬1<=c.ow j) 13 f) (λv w'=>v=0/\∃c,bt p (if (h.get b).isSome then h.deliver p.room a b t else h.tell ol a b t) c w'/\fN 101 201 d c w w') ((z.takeW A E).mono λe w' j=>⟨(λm=>by cases m),λ_=>?_⟩) ?_ ?_
  ·obtain⟨f,N,O,P,ad,c,Q,R,S,T⟩:=j.2 t l hw;exact⟨f.1.1,f.1.2.1,f.1.2.2,f.2.1.1,f.2.2.length,f.2.1.2,N,f,⟨rfl,rfl,rfl⟩,O,P,c,by rw[F];exact Q,R,S,T⟩
  ·rintro y0 y1 y2 ya yl yc i I ⟨f,_,_,_,c,o,_⟩ g;exact(o.later g).isAlive b
  ·rintro y0 y1 y2 ya yl yc i I ⟨f,⟨B,C,K⟩,G,kc,c,o,r,H,M⟩ g;obtain⟨⟨ae,af,ag⟩,⟨ah,ai⟩,aj⟩:=f;simp only[ew]at B C;obtain⟨rfl,rfl,rfl⟩:=B;obtain⟨rfl,rfl⟩:=C;subst K;have X:=r.2.2.2.1;have Z:=r.2.2.1;refine⟨λq=>?_,λq=>?_⟩
   ·obtain⟨v,L⟩:=fA.1 q;obtain⟨aa,V,U⟩:=v;refine((o.later g).deliver A.2 L _ ⟨(H.below g).mono g.size,M⟩ kc (by omega) (by omega)).mono ?_;rintro J w' ⟨rfl,u⟩;obtain⟨x,n,y⟩:=u.out;rw[G]at n;rw[if_pos q];exact⟨rfl,rfl,x,n,((r.un.trans (dX.later c g).un).trans y).mono (by omega) (by omega)⟩
   ·refine((o.later g).tell ol a b _ _ _ _ _ _ _ (kB ((H.below g).mono g.size) kc) (by omega)).mono ?_;rintro J w' ⟨rfl,u⟩;obtain⟨x,n,y⟩:=u.up (o.later g);rw[G]at n;rw[if_neg (by rw[q];decide)];exact⟨rfl,rfl,x,n,((r.un.trans (dX.later c g).un).trans y.un).mono (by omega) (by omega)⟩
end
theorem MO(a:Nat)(W:ag):(binOp .eql 67 (.map (some a)) (.map none)).run Tryz.prog W=.ok (.bool false) W:=by kernel_rfl
theorem MN(W:ag):(binOp .eql 67 (.map none) (.map none)).run Tryz.prog W=.ok (.bool true) W:=by kernel_rfl
theorem Ht(b o d:Nat)(n:Option Nat)(a G c:Int)(w w1 w2:ag)(y:Int->Int->ap->aw->Nat->Nat->ag->Prop)(k R:ag->Prop)(S:IntKind.i64.wrap (G+1)=c)(T:b<w.heap.size)(C:Hid (w.cell? ⟨b,3,none⟩=some (.map n)/\w.frozen? ⟨b,3,none⟩=false))(P:(n=none/\d=w.heap.size/\w1=(w.setCell ⟨b,3,none⟩ (.map (some d))).alloc (.map #[] 0))\/(n=some d/\w1=w))(p:Hid (w1.cell? ⟨b,2,none⟩=some (ab G)/\w1.frozen? ⟨b,2,none⟩=false))(A:w2=w1.setCell ⟨b,2,none⟩ (ab c))(j:Hid (∀W,ak w2 W->W.cell? ⟨b,2,none⟩=some (ab c)/\W.cell? ⟨b,3,none⟩=some (.map (some d))))(u:Hid (∀W,ak w2 W->∃f,(Instr.mapUpdate 67 (.map (some d)) (ab c) (Ar o)).run Tryz.prog W=.ok () f/\(f.cell? ⟨b,2,none⟩=some (ab c)/\f.cell? ⟨b,3,none⟩=some (.map (some d)))/\Hid (k f)))(s:Hid (∀W g,k W->ak W g->g.cell? ⟨b,2,none⟩=some (ab c)))(I:Hid (∀W g,k W->ak W g->am 34 #[aH o] g λe w'=>∃y0 y1 y2 ya yl yc,e=.returned (.agg #[ab y0,ab y1,af y2,ae ya yl yc])/\Hid (ak g w'/\y y0 y1 y2 ya yl yc w')))(J:Hid (∀y0 y1 y2 ya yl yc W,y y0 y1 y2 ya yl yc W->am 46 #[aH b,af ⟨#[115,112,97,119,110]⟩,ab a,ab c,.agg #[ab y0,ab y1,af y2,ae ya yl yc]] W λe w'=>e=.returned (.tuple #[])/\Hid (R w'/\w'.cell? ⟨b,2,none⟩=some (ab c)))):am 43 #[aH b,ab a,aH o] w λe w'=>e=.returned (.tuple #[])/\Hid (R w'):=by
 obtain⟨L,O⟩:=C.out;have Q:= @run_makeMap Tryz.prog;have m:Hid (ak w2 w2.drew):=(aq _ _).drew;have h:Hid (∀W:ag,ak W W.drew):=λW=>(aq _ _).drew;go_enter func43,ntmps43;rcases P with⟨rfl,D,i⟩|⟨rfl,i⟩
 case' inl=>
  have E:=MN;go_upto_region 2 with fail;rw[<-D,<-i];clear D
 case' inr=>
  have E:=MO d;go_upto_region 2 with fail;rw[<-i]
 all_goals
  clear L O i C E Q;obtain⟨K,N⟩:=p.out;go_upto_region 3 with fail;rw[<-A];clear A K N p;obtain⟨z,M⟩:=j.out _ m;obtain⟨f,F,B,l⟩:=u.out _ m;unfold Ar at F;have t:=au B;have r:=au (j _ m);clear u j;go_region_held3 (λW=>W.cell? ⟨b,2,none⟩=some (ab c)/\W.cell? ⟨b,3,none⟩=some (.map (some d))) (first|exact r|exact t) (fail);clear F r B z M;have z:=t.1;go_upto_region 4 with fail
  go_region_held3 (λW=>W.cell? ⟨b,2,none⟩=some (ab c)) (first|exact s _ _ l (h _)|exact s _ _ l H|exact q.2) ((first
   | (go_at_call 34;refine(I _ _ l (h _)).mono ?_;rintro e U ⟨y0,y1,y2,ya,yl,yc,rfl,x⟩;have H:=au ((h f).trans (x.1.mono (h f).size)))
   | (go_at_call 46;refine(J _ _ _ _ _ _ _ x.2).mono ?_;rintro e V ⟨rfl,q⟩)))
  go_wp2_with fail;exact dn (v:=.tuple #[]) (by simp[results]) rfl ⟨rfl,q.1⟩
section
variable {p:ke} {s:Sy} {d:fY} {w:ag}
def NY(M:aR)(a:Nat)(d b:fY)(w w':ag):Prop:=bB (λq=>d.ow q<0) w w'/\(∀q,q<w.heap.size->¬M q->b.ow q=d.ow q)/\(∀q,M q->1<=b.ow q)/\b.k=d.k/\b.es.length<=d.es.length+a/\b.wn<=d.wn+a/\b.bn<=d.bn+a
theorem oT{b:Type}(l:List (Int×b))(k j:Int)(v:b)(c:∀q∈l,q.1≠k):((l++ [(k,v)]).find? λq=>q.1==j)=if j=k then some (k,v)else l.find? λq=>q.1==j:=by
 rw[List.find?_append];by_cases a:j=k
 ·subst a;rw[if_pos rfl,py.2 λq d=>by simpa using c q d];simp
 ·rw[if_neg a];have:(k==j)=false:=by simpa using λe:k=j=>a e.symm
  simp[this]
def Oq(d:fY)(M:aR)[DecidablePred M](a:Nat)(k:Int)(q:Nat):Int:=if M q then k else if q=a then -5 else d.ow q
theorem bt.addG(e:bt p s d w){m c:Nat}{nm:ap}{cs:Tc}{M:aR}[DecidablePred M](B:P1 p.lo m nm p.room cs [] (d.k+201) M w)(A:∀q,M q->d.ow q=0)(aa:s.ps.length<12/\s.last<90){w':ag}(f:bB (λq=>d.ow q=-5) w w')(P:d.ow c≠0->d.ow c=-5)(N:¬M c)(O:p.lo<=c/\c<w'.heap.size)(Q:c≠p.b)(o:w'.heap[p.b]?=some (.cells (eh p {s with last:=s.last+1} {d with po:=some c}) 74))(L:IM w' c (d.l++ [(s.last+1,m)])):bt p {s with last:=s.last+1,ps:=s.ps++ [(s.last+1,nm,cs,[])]} {d with ow:=Oq d M c (s.last+1),po:=some c,l:=d.l++ [(s.last+1,m)]} w':=by
 obtain⟨y,J,z,X,Y,Z⟩:=e.keys;have i:∀b,d.ow b≠0->Oq d M c (s.last+1) b=d.ow b:=λb h=>by
  unfold Oq;rw[if_neg λa=>h (A b a)];by_cases g:b=c
  ·subst g;rw[if_pos rfl,P h]
  ·rw[if_neg g]
 have r:∀b,Oq d M c (s.last+1) b≠0->p.lo<=b/\b<w'.heap.size:=λb h=>by
  unfold Oq at h;split at h
  ·rename_i a;have:=P1.lie2 B b a;exact⟨this.1,aW this.2 f.size⟩
  ·split at h
   ·rename_i a;subst a;exact O
   ·exact⟨(e.low b h).1,aW (e.low b h).2 f.size⟩
 have t:∀{t:Int},t≠ -5->∀b,d.ow b=t->¬d.ow b=-5:=λT b g a=>T (g.symm.trans a);have n:∀q∈s.ps,q.1≠s.last+1:=λq j=>by have:=(z q j).2;omega
 have R:∀q∈d.l,q.1≠s.last+1:=λq j=>by
  have K:q.1∈s.ps.map (·.1):=by rw[<-y];exact cm.2 ⟨q,j,rfl⟩
  obtain⟨v,u,g⟩:=cm.1 K;rw[<-g];exact n v u
 obtain⟨y1,y2,W⟩:=e.wyK f (t (by decide)) i (q:=As p {s with last:=s.last+1} {d with po:=some c}) rfl (qG o).1;obtain⟨H,I⟩:=e.evK f (t (by decide)) i;refine⟨r,o,(i p.b (by rw[e.own];decide)).trans e.own,⟨e.pgK f (t (by decide)) i,e.pg.2⟩,aj ⟨c,rfl,(if_neg N).trans (if_pos rfl),Q,L⟩,⟨by simp[y],?_,λq j=>?_,by show 0<=s.last+1;omega,by show s.last+1<=90;omega,by simp;omega⟩,λk b q=>?_,⟨y1,y2,e.wy.2.2.1,e.wy.2.2.2.1,W⟩,e.bdK f (t (by decide)) i rfl (qG o).2,H,e.evt.1,I⟩
 ·simp only[iD,aU,ci];refine fz.2 ⟨J,by simp,λab U ad V=>?_⟩;obtain⟨v,u,rfl⟩:=cm.1 U;rw[dS.1 V];exact n v u
 ·show 1<=q.1/\q.1<=s.last+1;rcases dr.1 j with a|a
  ·have:=z q a;omega
  ·rw[dS.1 a];show 1<=s.last+1/\s.last+1<=s.last+1;omega
 ·have q:cZ (d.l++ [(s.last+1,m)]) k=some b:=q;unfold cZ at q;rw[oT _ _ _ _ R]at q;by_cases g:k=s.last+1
  ·subst g;rw[if_pos rfl]at q;obtain rfl:m=b:=by simpa using q
   refine⟨nm,cs,[],?_,(B.kept (S:=λq=>d.ow q=-5) ⟨f.os,f.tape,f.output,f.size,f.block⟩ λb a=>by rw[A b a];decide).mono (λb a=>if_pos a) (ao _) λb a=>r b (by have a:Oq d M c (s.last+1) b=s.last+1:=a;rw[a];omega),aL _⟩;unfold Sy.get;simp only;rw[oT _ _ _ _ n,if_pos rfl];rfl
  ·rw[if_neg g]at q;have C:cZ d.l k=some b:=q;have:=(e.key C).1;obtain⟨D,E,F,x,G⟩:=e.psK f (ao _) (t (by omega)) i r C;refine⟨D,E,F,?_,G⟩;unfold Sy.get at x ⊢;simp only;rw[oT _ _ _ _ n,if_neg g];exact x
open Classical in
theorem bt.add(n:bt p s d w)(a:Int){z:Nat}{nm:ap}{cs:Tc}{M:aR}(I:P1 p.lo z nm p.room cs [] (d.k+201) M w)(Y:∀q,M q->d.ow q=0)(a1:s.ps.length<12/\s.last<90)(af:d.k<=47000)(bi:d.es.length<=99000):am 43 #[aH p.b,ab a,aH z] w λe w'=>e=.returned (.tuple #[])/\Hid (∃C,bt p (s.add a nm cs) C w'/\NY M 1 d C w w'):=by
 obtain⟨a0,ar⟩:=n.lo;have N:=n.box;obtain⟨bd,be,bf,aD⟩:=n.cells;obtain⟨_,_,aM,bg,bh,_⟩:=n.keys;have ae:∀{h:ag}{cs:Array av}{o:Nat},h.heap[p.b]?=some (.cells cs 74)->h.frozen? ⟨p.b,o,none⟩=false:=λe=>by simp[World.frozen?,e]
 obtain⟨c,m,a2,J,aN,aV,O,aQ,P,an⟩:∃c m,((d.po=none/\c=w.heap.size/\m=(w.setCell ⟨p.b,3,none⟩ (.map (some c))).alloc (.map #[] 0))\/(d.po=some c/\m=w))/\m.heap[p.b]?=some (.cells (eh p s {d with po:=some c}) 74)/\IM m c d.l/\bB (λq=>d.ow q=-5) w m/\(c<w.heap.size->d.ow c=-5)/\¬M c/\c≠p.b/\p.lo<=c/\c<m.heap.size:=by
  rcases n.pm with⟨A,u⟩|⟨c,A,u,H,aK⟩
  ·have aT:(w.setCell ⟨p.b,3,none⟩ (.map (some w.heap.size))).heap[p.b]?=some (.cells (eh p s {d with po:=some w.heap.size}) 74):=by
     simp[World.setCell,bO,N,eh]
   have R:(w.setCell ⟨p.b,3,none⟩ (.map (some w.heap.size))).heap.size=w.heap.size:=by simp[World.setCell]
   have af:bB (λq=>d.ow q=-5) w ((w.setCell ⟨p.b,3,none⟩ (.map (some w.heap.size))).alloc (.map #[] 0)):=((bH w p.b 3 _).mono λq _ e=>by rw[e];exact n.own).trans (aO ((aq _ _).alloc (ao _) _) λ_=>False) λ_ _ e=>e.elim;refine⟨w.heap.size,_,ai ⟨A,rfl,rfl⟩,(heap_alloc_old _ _ (by rw[R];exact ar)).trans aT,?_,af,λg=>by omega,λg=>?_,by omega,a0,?_⟩
   ·rw[u];have:=wH.new (f:=Ar) (w.setCell ⟨p.b,3,none⟩ (.map (some w.heap.size)));rw[R]at this;exact this
   ·have:=(P1.lie2 I _ g).2;omega
   ·have:=aF (w.setCell ⟨p.b,3,none⟩ (.map (some w.heap.size))) (.map #[] 0);rw[R]at this;exact(aJ.1 this).1
  ·refine⟨c,w,aj ⟨A,rfl⟩,?_,aK,bB.refl _ _,λ_=>u,λg=>?_,H,n.low c (by rw[u];decide)⟩
   ·rw[N];unfold eh;rw[A]
   ·have:=Y c g;rw[u]at this;cases this
 obtain⟨y,F⟩:∃y,y=m.setCell ⟨p.b,2,none⟩ (ab (s.last+1)):=⟨_,rfl⟩;have K:y.heap[p.b]?=some (.cells (eh p {s with last:=s.last+1} {d with po:=some c}) 74):=by
  rw[F];simp[World.setCell,bO,J,eh]
 have bl:y.heap.size=m.heap.size:=by rw[F];simp[World.setCell]
 have ak:bB (λq=>q=p.b) m y:=by rw[F];exact bH m p.b 2 _
 have aX:bB (λq=>d.ow q=-5) w y:=aV.trans ak λq _ e=>by rw[e];exact n.own
 have aP:IM y c d.l:=aN.kept (ak.block c an.2 P);obtain⟨B,E⟩:∃B:Sy,B={s with last:=s.last+1,ps:=s.ps++ [(s.last+1,nm,cs,[])]}:=⟨_,rfl⟩;obtain⟨t,v⟩:∃t:fY,t={d with ow:=Oq d M c (s.last+1),po:=some c,l:=d.l++ [(s.last+1,z)]}:=⟨_,rfl⟩;have Q:cZ d.l (s.last+1)=none:=by
  cases e:cZ d.l (s.last+1)with
  | none=>rfl
  | some b=>have:=(n.key e).2;omega
 have aU:cZ t.l (s.last+1)=some z:=by
  rw[v];show cZ (d.l++ [(s.last+1,z)]) (s.last+1)=_;unfold cZ at Q ⊢;rw[List.find?_append,Option.map_eq_none_iff.1 Q];simp
 have aZ:B.last=s.last+1:=by rw[E]
 refine Ht p.b z c d.po a s.last (s.last+1) w m y (λy0 y1 y2 ya yl yc h=>∃i:Tc,(i.1=(y0,y1,y2)/\i.2.1=(ya,yc)/\i.2.2.length=yl)/\In h.heap.size h 13 i/\bE 13 i=0/\cn 13 i=cs/\bt p B t h/\bB (λq=>d.ow q=-5) w h) (λh=>bt p B t h/\bB (λq=>d.ow q=-5) w h) (λw'=>∃C,bt p (s.add a nm cs) C w'/\NY M 1 d C w w') (by rw[IntKind.wrap];simp[IntKind.bits,IntKind.signed];omega) ar ⟨aD,ae N⟩ a2 ⟨ah J 2,ae J⟩ F (λh j=>?_) (λh j=>?_) (λh aC D j=>?_) (λh aC D j=>?_) (λy0 y1 y2 ya yl yc h aS=>?_)
 ·have aa:=gm j K;exact⟨ah aa 2,ah aa 3⟩
 ·obtain⟨T,a7,a8,ax,bn⟩:=(wH.put (aP.kept (j.block c (by omega))) underlying67 Q z);have L:T.heap[p.b]?=_:=(ax.block p.b (aW (aJ.1 K).1 j.size) P.symm).trans (gm j K);have al:bB (λq=>d.ow q=-5) w T:=by
   have aY:bB (λq=>d.ow q=-5) w h:=aX.trans (aO j λ_=>False) λ_ _ e=>e.elim;exact aY.trans ax λq r e=>by rw[e]at r ⊢;exact O r
  refine⟨T,a7,⟨ah L 2,ah L 3⟩,?_,al⟩;rw[E,v];exact n.addG I Y a1 al (λg=>O (n.low _ g).2) aQ ⟨an.1,by have:=j.size;omega⟩ P L a8
 ·have:=(D.1.later j).cells.2.2.1;rw[aZ]at this;exact this
 ·have Z:=D.1.later j;obtain⟨a6,aG,aE,x,S,bm⟩:=Z.ps _ _ aU;have e:B.get (s.last+1)=some (nm,cs,[]):=by
   rw[E];unfold Sy.get;simp only;rw[oT _ _ _ _ λq r=>by have:=(aM q r).2;omega,if_pos rfl];rfl
  rw[e]at x;obtain⟨rfl,rfl,rfl⟩:nm=a6/\cs=aG/\[]=aE:=by
   injection x with x;injection x with A u;injection u with u H;exact⟨A,u,H⟩
  have bk:t.k=d.k:=by rw[v]
  refine(S.state (by omega)).mono ?_;rintro e w' ⟨i,rfl,G⟩;obtain⟨y1,y2,bo,bb,bc⟩:=G.out;exact⟨i.1.1,i.1.2.1,i.1.2.2,i.2.1.1,i.2.2.length,i.2.1.2,rfl,y1,i,⟨rfl,rfl,rfl⟩,y2,bb,bc,Z.later y1,(D.2.trans (aO j λ_=>False) λ_ _ e=>e.elim).trans (aO y1 λ_=>False) λ_ _ e=>e.elim⟩
 ·obtain⟨i,⟨U,V,aL⟩,a3,a4,a5,au,aw⟩:=aS;obtain⟨⟨bp,bq,br⟩,⟨bs,bu⟩,bv⟩:=i;simp only[ew]at U V;obtain⟨rfl,rfl,rfl⟩:=U;obtain⟨rfl,rfl⟩:=V;subst aL;have ad:t.es=d.es:=by rw[v]
  refine(au.tell E8 a (s.last+1) _ _ _ _ _ _ _ (kB a3 a4) (by rw[ad];omega)).mono ?_;rintro e w' ⟨rfl,G⟩;obtain⟨aI,x,S⟩:=G.up au;rw[a5,E]at x;refine⟨rfl,⟨aI,x,?_⟩,?_⟩
  ·obtain⟨a9,ay,ba,az,aA,aB⟩:=S;have W:∀q,q<w.heap.size->¬M q->t.ow q=d.ow q:=λq r g=>by
    rw[v];refine(if_neg g).trans ?_;by_cases e:q=c
    ·rw[if_pos e,e];exact(O (e▸r)).symm
    ·exact if_neg e
   have X:∀q,M q->t.ow q=s.last+1:=λq g=>by
    rw[v];exact if_pos g
   have bj:=aw.size;refine⟨(aw.mono λq _ e=>by rw[e];decide).trans a9 λq r e=>?_,λq r g=>(ay q (by omega)).trans (W q r g),λq g=>?_,by rw[ba,v],by rw[ad]at az;exact az,by rw[v]at aA;exact aA,by rw[v]at aB;exact aB⟩
   ·by_cases g:M q
    ·rw[X q g]at e;omega
    ·rw[W q r g]at e;exact e
   ·have:=(P1.lie2 I q g).2;rw[ay q (by omega),X q g];omega
  ·have:=x.cells.2.2.1;exact this
end
theorem Ep(c:Nat)(nm:ap)(f g:Int)(h:ap)(xa:aw)(i xc:Nat)(room ne t:Int)(may o:Bool)(w:ag)(D:Nat->ag->Prop)(R:Int->Int->ag->Prop)(aj:c<w.heap.size)(T:Hid (w.cell? ⟨c,1,none⟩=some (ab room)))(K:Hid (∀W,ak w W->am 40 #[aH c,ab 1] W λe w'=>e=.returned (.bool may)/\w'=W))(A:Hid (∀W,ak w W->am 41 #[aH c,af nm] W λe w'=>e=.returned (.bool o)/\ak W w'))(r:Hid (∀W,ak w W->am 42 #[af nm,.agg #[ab f,ab g,af h,ae xa i xc],ab room] W λe w'=>∃p:aw,e=.returned (.tuple #[.pointer p,ab ne])/\Hid (ak W w'/\(ne=0->∃b,p=some ⟨b,0,none⟩/\D b w'))))(l:Hid (∀b W,(may && o)=true->ne=0->D b W->am 43 #[aH c,ab 0,aH b] W λe w'=>e=.returned (.tuple #[])/\Hid (R t 0 w'/\w'.cell? ⟨c,2,none⟩=some (ab t))))(j:Hid (∀W,ak w W->(may=false->R 0 2 W)/\((may && !o)=true->R 0 4 W)/\((may && o)=true->ne≠0->R 0 ne W))):am 20 #[aH c,af nm,.agg #[ab f,ab g,af h,ae xa i xc]] w λe w'=>∃v u,e=.returned (.tuple #[ab v,ab u])/\Hid (R v u w'):=by
 go_enter func20,ntmps20;go_upto_region 1 with fail;generalize P:w.alloc _=H;have x:Hid (ak w H/\H.heap[w.heap.size]?=some (.cells #[ab f,ab g,af h,ae xa i xc] 31)):=by
  rw[<-P];exact⟨(aq _ _).alloc (ao _) _,aF _ _⟩
 clear P;obtain⟨a,F⟩:∃a,a=w.heap.size:=⟨_,rfl⟩;rw[<-F];have L:Hid (H.heap[a]?=some (.cells #[ab f,ab g,af h,ae xa i xc] 31)):=by rw[F];exact x.2
 have HB:=au x.1;clear F x;go_wp2_with fail;refine(K _ HB).mono ?_;rintro e av ⟨rfl,Q⟩;obtain rfl:=Q.symm;clear Q K;cases may
 ·have d:=au ((j _ HB).1 rfl);clear l j r A;go_wp2_with fail;exact az (v:=.tuple #[ab 0,ab 2]) (by simp[results,results20,go_sem]) rfl ⟨0,2,rfl,d⟩
 go_wp2_with fail;refine(A _ HB).mono ?_;rintro e I ⟨rfl,E⟩;have m:=au (HB.trans (E.mono HB.size));have B:=au (gm E L);clear A L HB E;cases o
 ·have d:=au ((j _ m).2.1 rfl);clear l j r;go_wp2_with fail;exact az (v:=.tuple #[ab 0,ab 4]) (by simp[results,results20,go_sem]) rfl ⟨0,4,rfl,d⟩
 have z:Hid (ak I I.drew):=(aq _ _).drew;have n:=au (m.trans (z.mono m.size));have C:=au (gm z B);have q:Hid (∀W:ag,ak w W->W.heap[a]?=some (.cells #[ab f,ab g,af h,ae xa i xc] 31)->W.cell? ⟨c,1,none⟩=some (ab room)/\W.cell? ⟨a,0,none⟩=some (ab f)/\W.cell? ⟨a,1,none⟩=some (ab g)/\W.cell? ⟨a,2,none⟩=some (af h)/\W.cell? ⟨a,3,none⟩=some (ae xa i xc)):=λW ai s=>⟨(ai.cell (p:=⟨c,1,none⟩) aj).trans T,ah s 0,ah s 1,ah s 2,ah s 3⟩;obtain⟨Z,V,X,O,Y⟩:=q.out I m B;go_upto_region 5 with fail
 go_region_held3 (λW=>W.cell? ⟨c,1,none⟩=some (ab room)/\W.cell? ⟨a,0,none⟩=some (ab f)/\W.cell? ⟨a,1,none⟩=some (ab g)/\W.cell? ⟨a,2,none⟩=some (af h)/\W.cell? ⟨a,3,none⟩=some (ae xa i xc))
  (first|exact q _ n C|exact q _ y M) ((first
   | (go_at_call 42;refine(r _ n).mono ?_;rintro e an ⟨al,rfl,k⟩;have M:=au (gm k.1 C);have y:=au (n.trans (k.1.mono n.size)))))
 have d:=au (j _ y);clear Z V X O Y q C n z B m j r M y;by_cases G:ne=0
 ·subst G;obtain⟨b,rfl,N⟩:∃b,al=some ⟨b,0,none⟩/\Hid (D b an):=by
   obtain⟨b,aa,ad⟩:=k.out.2 rfl;exact⟨b,aa,ad⟩
  have S:=au (l _ _ rfl rfl N);clear l N k d;go_wp2_with fail;refine S.mono ?_;rintro e ax ⟨rfl,J⟩;have O:=J.2;go_wp2_with fail;exact az (v:=.tuple #[ab t,ab 0]) (by simp[results,results20,go_sem]) rfl ⟨t,0,rfl,J.1⟩
 ·have U:=au (d.2.2 rfl G);have ar:(ne==0)=false:=by simpa using G
  clear l k d;go_wp2_with fail;exact az (v:=.tuple #[ab 0,ab ne]) (by simp[results,results20,go_sem]) rfl ⟨0,ne,rfl,U⟩
section
variable {p:ke} {s:Sy} {d:fY} {w:ag}
theorem Ke{n:Nat}(a:s.may n=true):s.ps.length+n<=12/\s.last+n<=90:=by
 unfold Sy.may at a;simp only[aK,co]at a;omega
theorem bt.start(j:bt p s d w)(nm:ap)(O:nm.size<=9223372036854775807){m:Nat}(x:Tm (m+1))(P:In w.heap.size w (m+1) x)(K:(aC (m+1) x).length<=2097152)(M:d.k<=47000)(J:d.es.length<=99000):am 20 #[aH p.b,af nm,dw (m+1) x] w λe w'=>∃v u,e=.returned (.tuple #[ab v,ab u])/\Hid ((u=(s.start p.n p.prog p.room nm (m+1) x).2/\(u=0->v=s.last+1))/\∃i,bt p (s.start p.n p.prog p.room nm (m+1) x).1 i w'/\fN 1 0 d i w w'):=by
 obtain⟨q,f⟩:∃q,q=s.start p.n p.prog p.room nm (m+1) x:=⟨_,rfl⟩;rw[<-f];unfold Sy.start at f;have B:∀a,ak w a->q.1=s->∃i,bt p q.1 i a/\fN 1 0 d i w a:=λa c e=>⟨d,by rw[e];exact j.later c,(dX.later d c).un.mono (aL _) (ao _)⟩;refine Ep p.b nm x.1.1 x.1.2.1 x.1.2.2 x.2.1.1 x.2.2.length x.2.1.2 p.room (gg (m+1) x p.room nm) (s.last+1) (s.may 1) (lu p.n p.prog nm) w (λy a=>∃t,ak w t/\ak t a/\P1 p.lo y nm p.room (cn (m+1) x) [] (d.k+201) (λb=>t.heap.size<=b/\b<a.heap.size) a) (λv u w'=>(u=q.2/\(u=0->v=s.last+1))/\∃i,bt p q.1 i w'/\fN 1 0 d i w w') j.lo.2 j.cells.2.1 (λa c=>(j.later c).mayHave 1 (by decide)) (λa c=>(j.later c).knows nm) (λa c=>?_) (λy a l r L=>?_) λa c=>⟨λe=>?_,λe=>?_,λe r=>?_⟩
 ·refine(P1.new m x p.room nm a O ((P.below c).mono c.size) K).mono ?_;rintro e w' ⟨g,rfl,z⟩;obtain⟨o,E,C⟩:=z.out;refine⟨g,rfl,o,λe=>?_⟩;obtain⟨y,l,r,V,G⟩:=C e;have:=j.lo.1;have:=c.size;exact⟨y,l,a,c,o,G.mono (λb h=>h) (by omega) λb h=>⟨by omega,h.2⟩⟩
 ·simp only[aK]at l;rw[if_neg (by rw[l.1];decide),if_neg (by rw[l.2];decide),if_neg (by rw[r];decide)]at f;obtain⟨t,o,E,C⟩:=L;have A:=o.trans (E.mono o.size);have I:=j.later A;have Z:=o.size;have W:=Ke l.1;refine(I.add 0 C (λg h=>?_) (by omega) M J).mono ?_
  ·have:=j.low g;by_cases F:d.ow g=0
   ·exact F
   ·have:=(this F).2;omega
  ·rintro e w' ⟨rfl,z⟩;obtain⟨i,D,H⟩:=z;refine⟨rfl,⟨⟨by rw[f],λ_=>rfl⟩,i,by rw[f];exact D,?_⟩,D.cells.2.2.1⟩;obtain⟨Q,R,aa,S,U⟩:=H;have N:bB (λg=>d.ow g≠0) w a:=aO A _;have Y:=A.size;exact⟨N.trans (Q.mono (T:=λg=>d.ow g≠0) λg _ e=>by omega) λg _ e=>e,λg X=>R g (by omega) λh=>by omega,dF S,U⟩
 ·rw[if_pos e]at f;exact⟨⟨by rw[f],(λh=>by cases h)⟩,B a c (by rw[f])⟩
 ·simp only[aK,kL]at e;rw[if_neg (by rw[e.1];decide),if_pos e.2]at f;exact⟨⟨by rw[f],(λh=>by cases h)⟩,B a c (by rw[f])⟩
 ·simp only[aK]at e;rw[if_neg (by rw[e.1];decide),if_neg (by rw[e.2];decide),if_pos r]at f;exact⟨⟨by rw[f],λh=>absurd h r⟩,B a c (by rw[f])⟩
end
theorem Oi:(Tryz.prog.info? 65).map (λi=>(i.zero,i.size,i.bytes))=some (some (.pointer none),1,8):=by kernel_rfl
theorem GS(m:Nat)(pa:aw)(pl pc:Nat)(may:Bool)(room:Int)(w:ag)(u x y:Nat->Int)(nm z:Nat->ap)(xa:Nat->aw)(A xc:Nat->Nat)(l:Nat->Bool)(ne:Nat->Int)(r:Nat->List Nat->av->ag->Prop)(N:Nat->Nat->List Nat->av->ag->Prop)(R:av->Bool->ag->Prop)(bP:pl<=1000)(bJ:m<w.heap.size)(aU:Hid (w.cell? ⟨m,1,none⟩=some (ab room)))(X:Hid (∀j,j<pl->∃g,pa=some ⟨g,0,none⟩/\g<w.heap.size/\Hid (w.cell? ⟨g,j*6,none⟩=some (ab (u j))/\w.cell? ⟨g,j*6+1,none⟩=some (af (nm j))/\w.cell? ⟨g,j*6+2,none⟩=some (ab (x j))/\w.cell? ⟨g,j*6+3,none⟩=some (ab (y j))/\w.cell? ⟨g,j*6+4,none⟩=some (af (z j))/\w.cell? ⟨g,j*6+5,none⟩=some (ae (xa j) (A j) (xc j)))))(aX:Hid (am 40 #[aH m,ab pl] w λe w'=>e=.returned (.bool may)/\w'=w))(Z:Hid (∀j W,j<pl->ak w W->am 41 #[aH m,af (nm j)] W λe w'=>e=.returned (.bool (l j))/\ak W w'))(aa:Hid (∀j d v W,j<pl->l j=true->ak w W->r j d v W->am 42 #[af (nm j),.agg #[ab (x j),ab (y j),af (z j),ae (xa j) (A j) (xc j)],ab room] W λe w'=>∃p:aw,e=.returned (.tuple #[.pointer p,ab (ne j)])/\Hid (ak W w'/\(ne j=0->∃k,p=some ⟨k,0,none⟩/\N j k d v w'))))(ar:Hid (r 0 [] (ae none 0 0) w))(q:Hid (∀j d v W E,r j d v W->ak W E->r j d v E))(O:Hid (∀j k d a c g bq W aK E,j<pl->N j k d (ae a j c) W->ak W aK->aK.grownBy E (Value.slice a j c).ownBlock->((Value.slice a j c).ownBlock=some g\/g=aK.heap.size)->g<E.heap.size->r (j+1) (d++ [k]) (ae (some ⟨g,0,none⟩) (j+1) bq) E))(L:Hid (∀W,ak w W->(may=false\/∃j,j<pl/\(l j=false\/ne j≠0))->R (ae none 0 0) false W))(al:Hid (∀W d a c,ak w W->may=true->(∀j,j<pl->l j=true/\ne j=0)->d.length=pl->W.ownsRow w.heap.size 65 1 (ae a pl c) pl (d.map Ar)->r pl d (ae a pl c) W->R (ae a pl c) true W)):am 47 #[aH m,ae pa pl pc] w λe w'=>∃v b,e=.returned (.tuple #[v,.bool b])/\Hid (R v b w'):=by
 obtain⟨bK,bc,bf,bg,bh⟩:=bW Oi;have Y:=au (⟨bc,bf,bg,bh⟩:_/\_/\_/\_);clear bc bf bg bh;go_enter func47,ntmps47;go_wp2_with fail;refine aX.mono ?_;rintro e bT ⟨rfl,bi⟩;obtain rfl:=bi.symm;clear bi aX;cases may
 ·have n:=au (L _ (aq _ _) (ai rfl));clear L al O ar q aa Z X;go_wp2_with fail;exact az (v:=.tuple #[ae none 0 0,.bool false]) (by simp[results,results47,go_sem]) rfl ⟨_,_,rfl,n⟩
 go_wp2_with fail;go_loopw [6,18] (λo i wr=>∃(j:Nat)(a:aw)(c:Nat),j<=pl/\i=ab j/\o=ae a j c/\Hid (∃d,d.length=j/\wr.ownsRow w.heap.size 65 1 (ae a j c) j (d.map Ar)/\r j d (ae a j c) wr/\ak w wr/\∀i,i<j->l i=true/\ne i=0)) (λ_ i _=>pl-(intOf i).toNat)
 case atStart=>exact⟨0,none,0,aL _,rfl,rfl,[],rfl,eP _ _ _ _,ar,aq _ _,λi h=>by omega⟩
 case round=>
 obtain⟨j,a,c,bO,rfl,rfl,ad⟩:=hrel;by_cases S:j<pl
 ·obtain⟨g,rfl,bI,aV⟩:=X.out j S;obtain⟨d,Q,T,V,F,U⟩:=ad.out;have a2:=au T;have a6:=au V;have HB:=au F;have a1:=au U;have bH:=au Q;have s:∀{f:Nat}{v:av},w.cell? ⟨g,f,none⟩=some v->wr.cell? ⟨g,f,none⟩=some v:=λ{f v} h=>(F.cell (p:=⟨g,f,none⟩) bI).trans h;obtain⟨a7,ay,aA,a8,a9,ba⟩:=aV.out;have bx:=s a7;have bz:=s ay;have bA:=s aA;have bB:=s a8;have bC:=s a9;have bD:=s ba;have bR:(0:Int)<=(j:Int):=by omega
  have bS:(j:Int)<(pl:Int):=by omega
  clear s a7 ay aA a8 a9 ba aV X T V F U Q ad;go_upto_region 7 with fail;generalize bj:wr.alloc _=aB;have G:Hid (ak wr aB/\aB.heap[wr.heap.size]?=some (.cells #[ab (u j),af (nm j),ab (x j),ab (y j),af (z j),ae (xa j) (A j) (xc j)] 174)):=by
   rw[<-bj];exact⟨(aq _ _).alloc (ao _) _,aF _ _⟩
  clear bj bx bz bA bB bC bD;obtain⟨f,aQ⟩:∃f,f=wr.heap.size:=⟨_,rfl⟩;rw[<-aQ];have aG:Hid (aB.heap[f]?=some (.cells #[ab (u j),af (nm j),ab (x j),ab (y j),af (z j),ae (xa j) (A j) (xc j)] 174)):=by rw[aQ];exact G.2
  have H:=au (HB.trans (G.1.mono HB.size));have a4:=au (q _ _ _ _ _ a6 G.1);have aY:=au (bu a2 (aO G.1 λ_=>False) λ_ _ h=>h);clear aQ G a2 a6 HB;have D:Hid (∀W:ag,ak w W->W.heap[f]?=some (.cells #[ab (u j),af (nm j),ab (x j),ab (y j),af (z j),ae (xa j) (A j) (xc j)] 174)->W.cell? ⟨m,1,none⟩=some (ab room)/\W.cell? ⟨f,1,none⟩=some (af (nm j))/\W.cell? ⟨f,2,none⟩=some (ab (x j))/\W.cell? ⟨f,3,none⟩=some (ab (y j))/\W.cell? ⟨f,4,none⟩=some (af (z j))/\W.cell? ⟨f,5,none⟩=some (ae (xa j) (A j) (xc j))):=λW aN h=>⟨(aN.cell (p:=⟨m,1,none⟩) bJ).trans aU,ah h 1,ah h 2,ah h 3,ah h 4,ah h 5⟩;have aM:=(D aB H aG).2.1;have aW:=au (λW=>Z j W S);have aC:=au (λd v W=>aa j d v W S);have M:=au (λW aN e=>L W aN (aj ⟨j,S,e⟩));have aE:Hid (l j=true->ne j=0->∀i,i<j+1->l i=true/\ne i=0):=λbF bG i bN=>by
   by_cases e:i=j
   ·subst e;exact⟨bF,bG⟩
   ·exact a1 i (by omega)
  clear Z aa L al aU a1 ar;generalize l j=bL at*;generalize ne j=bk at*;go_wp2_with fail;refine(aW _ H).mono ?_;rintro e aS ⟨rfl,P⟩;have C:=au (H.trans (P.mono H.size));have an:=au (gm P aG);have aJ:=au (q _ _ _ _ _ a4 P);have aD:=au (bu aY (aO P λ_=>False) λ_ _ h=>h);clear aW H aG a4 aY P aM;cases bL
  ·have n:=au (M _ C (ai rfl));clear M aC D aJ aD an C O q aE;go_wp2_with fail;exact az (v:=.tuple #[ae none 0 0,.bool false]) (by simp[results,results47,go_sem]) rfl ⟨_,_,rfl,n⟩
  have K:Hid (ak aS aS.drew):=(aq _ _).drew;have J:=au (C.trans (K.mono C.size));have aI:=au (gm K an);have a5:=au (q _ _ _ _ _ aJ K);have a0:=au (bu aD (aO K λ_=>False) λ_ _ h=>h);obtain⟨bv,aM,br,bs,bt,ax⟩:=D.out aS C an;clear aD aJ;go_upto_region 9 with fail
  go_region_held3 (λW=>W.cell? ⟨m,1,none⟩=some (ab room)/\W.cell? ⟨f,1,none⟩=some (af (nm j))/\W.cell? ⟨f,2,none⟩=some (ab (x j))/\W.cell? ⟨f,3,none⟩=some (ab (y j))/\W.cell? ⟨f,4,none⟩=some (af (z j))/\W.cell? ⟨f,5,none⟩=some (ae (xa j) (A j) (xc j)))
   (first|exact D _ J aI|exact D _ I a3) ((first
    | (go_at_call 42;refine(aC _ _ _ (by first|rfl|trivial) J a5).mono ?_;rintro e aT ⟨bM,rfl,B⟩;have a3:=au (gm B.1 aI);have I:=au (J.trans (B.1.mono J.size));have aZ:=au (bu a0 (aO B.1 λ_=>False) λ_ _ h=>h))))
  clear bv aM br bs bt ax D aI J K an C aC a3 a5 a0;by_cases aR:bk=0
  ·subst aR;obtain⟨k,rfl,bo⟩:∃k,bM=some ⟨k,0,none⟩/\Hid (N j k d (ae a j c) aT):=by
    obtain⟨k,ay,aA⟩:=B.out.2 rfl;exact⟨k,ay,aA⟩
   have bn:=au I.size;clear M B
   go_wp2_with (first
    | (at_builtin;refine wpList_append_lies _ rfl _ _ 121 rfl w.heap.size 65 bK _ 1 8 underlying121 Y.1 Y.2.1 Y.2.2.1 Y.2.2.2 rfl (by decide) (ae a j c) j (d.map Ar) rfl (aZ.alloc _) ⟨aT.heap.size,0,none⟩ 1 1 [aH k] rfl rfl (World.news_of_block (cs:= #[aH k]) (t:=65) (fr:=(0,0)) (aF aT _)) (by simp[Value.oneCell']) (by decide) (by unfold maxLen;omega) (by omega) (by have:=bn.out;simp;omega) _ rfl ?_;intro bE ax bU be aP bb bd;have bm:=au be;have bp:=au (O _ _ _ _ _ _ ax _ _ _ S bo ((aq _ _).alloc (ao _) _) aP bb bd);have bl:=au (I.trans (ki aZ aP I.size));clear be aP bb bd))
   go_roundw
   case rel=>exact⟨j+1,some ⟨bE,0,none⟩,ax,by omega,by go_num,rfl,d++ [k],by rw[bw,bH.out];rfl,by rw[iD];exact bm,bp,bl,aE trivial rfl⟩
   case measure=>simp[intOf];omega
  ·have n:=au (M _ I (aj aR));have bQ:(bk==0)=false:=by simpa using aR
   clear M B O q aE;go_wp2_with fail;exact az (v:=.tuple #[ae none 0 0,.bool false]) (by simp[results,results47,go_sem]) rfl ⟨_,_,rfl,n⟩
 ·obtain rfl:j=pl:=by omega
  obtain⟨d,Q,T,V,F,U⟩:=ad.out;have n:=au (al _ d _ _ F trivial U Q T V);clear L al O ar q aa Z X ad Q T V F U;go_wp2_with fail;exact az (v:=.tuple #[ae a j c,.bool true]) (by simp[results,results47,go_sem]) rfl ⟨_,_,rfl,n⟩
def Au(K:Nat)(b:List (Int×Tc))(c:List (Int×ap×Tc))(a:List Int):Prop:=(b.length<=K/\c.length<=K/\a.length<=K)/\(∀x∈b,dC x.1)/\∀x∈a,dC x
theorem Fw{b:List Tc}{x:Tm n}{u:Int}(a:nF b self n x=some u):dC u:=by
 unfold nF sT at a;cases f:vl 13 b self n x with
 | none=>rw[f]at a;cases a
 | some e=>
  rw[f,dG]at a;by_cases d:bE (13+n) e=0
  ·rw[if_pos d,dG]at a;by_cases c:(cn (13+n) e).1.1=3
   ·rw[if_pos c]at a;obtain rfl:=aA a;have h:aI ⟨13,cn (13+n) e⟩:=aT.2 (bG.1 (og d)).1;have g:=h _ (mY);simp only[cJ,c]at g;simp[qP]at g;unfold dC;omega
   ·rw[if_neg c]at a;cases a
  ·rw[if_neg d]at a;cases a
theorem Ob{K:Nat}{a:Ac (n+1)}{d e:Dg}(b:rz self a d=some e)(k:Au K d.sends d.spawns d.links):Au (K+1) e.sends e.spawns e.links:=by
 unfold rz at b;obtain⟨⟨o,p,q⟩,f,g⟩:=k;split at b
 ·obtain⟨m,h,b⟩:=bC.1 b;obtain⟨t,l,rfl⟩:=cw.1 b;refine⟨⟨by simp;omega,by simp;omega,by simp;omega⟩,λj i=>?_,g⟩;rcases dr.1 i with c|c
  ·exact f j c
  ·rw[dS.1 c];exact Fw h
 ·split at b
  ·obtain⟨t,l,b⟩:=bC.1 b;split at b
   ·obtain rfl:=aA b;exact⟨⟨by simp;omega,by simp;omega,by simp;omega⟩,f,g⟩
   ·cases b
  ·split at b
   ·obtain⟨m,h,rfl⟩:=cw.1 b;refine⟨⟨by simp;omega,by simp;omega,by simp;omega⟩,f,λj i=>?_⟩;rcases dr.1 i with c|c
    ·exact g j c
    ·rw[dS.1 c];exact Fw h
   ·obtain rfl:=aA b;exact⟨⟨by simp;omega,by simp;omega,by simp;omega⟩,f,g⟩
theorem Jy{self:Int}{n:Nat}:(l:List (Ac (n+1)))->{K:Nat}->{d b:Dg}->qq self l d=some b->Au K d.sends d.spawns d.links->Au (K+l.length) b.sends b.spawns b.links
 | [],K,d,b,c,hk=>by
  obtain rfl:=aA c;exact hk
 | a::l,K,d,b,c,hk=>by
  unfold qq at c;obtain⟨e,f,c⟩:=bC.1 c;have:=Jy l c (Ob f hk);rw[br,show K+(l.length+1)=K+1+l.length by omega];exact this
theorem clsC_mem{n:Nat}{s m:Tc}:(l:List (Cl (n+1)))->{y:Cl (n+1)×List Tc}->mr s m l=some y->y.1∈l
 | [],y,h=>by simp[mr]at h
 | c::l,y,h=>by
  unfold mr at h;cases e:lH c s m with
  | none=>
   rw[e]at h;exact bR _ (clsC_mem l h)
  | some b=>
   rw[e]at h;obtain rfl:=aA h;exact mY
theorem EV{n:Nat}{l:List (Cl (n+1))}{s:Tc}:(ms:List Tc)->(i:Nat)->{x:Nat×Cl (n+1)×List Tc}->sw l s ms i=some x->x.2.1∈l
 | [],i,x,h=>by simp[sw]at h
 | m::ms,i,x,h=>by
  unfold sw at h;cases e:mr s m l with
  | none=>
   rw[e]at h;exact EV ms (i+1) h
  | some y=>
   rw[e]at h;obtain rfl:=aA h;exact clsC_mem l e
theorem rh{n:Nat}{name:ap}:(l:List (Bh n))->{b:Bh n}->gj n name l=some b->b∈l/\b.1=name
 | [],b,h=>by simp[gj]at h
 | c::l,b,h=>by
  unfold gj at h;split at h
  ·rename_i e;obtain rfl:=aA h;exact⟨mY,e⟩
  ·exact⟨bR _ (rh l h).1,(rh l h).2⟩
theorem DB{prog:List (Bh (n+1))}(c:kF (n+1) prog=true){nm:ap}(d:lu n prog nm=true):nm.size<=2048:=by
 obtain⟨b,g⟩:=fA.1 d;obtain⟨e,f⟩:=rh prog g;unfold kF at c;simp only[aK,cu]at c;have a:=c.2 b e;unfold wI at a;simp only[aK]at a;rw[<-f];exact xD a.1.1.1
theorem KU{l:List (Bh (n+1))}(j:kF (n+1) l=true){next:Int}{s:Tc}{ms:List Tc}{f:Tk}(e:nJ room l name self next s ms=some f):Au 8 f.sends f.spawns f.links:=by
 unfold nJ at e;obtain⟨c,p,e⟩:=bC.1 e;obtain⟨y,u,rfl⟩:=cw.1 e;have a:=EV ms 0 p;have r:c.2.1.2.2.length<=8:=by
  unfold gt at a;cases g:gj (n+1) name l with
  | none=>rw[g]at a;simp at a
  | some b=>
   rw[g]at a;have a:c.2.1∈b.2.2:=a;unfold kF at j;simp only[aK,cu]at j;have h:=j.2 b (rh l g).1;unfold wI at h;simp only[aK,cu]at h;have k:=h.2 _ a;unfold tJ at k;simp only[aK,co]at k;omega
 have i:Au 8 [] [] []:=⟨⟨by simp,by simp,by simp⟩,by simp,by simp⟩;unfold fx;cases hd:qq self c.2.1.2.2 ⟨c.2.2,next,[],[],[],false⟩with
 | none=>exact i
 | some d=>
  have o:Au 8 d.sends d.spawns d.links:=by
   obtain⟨⟨v,w,x⟩,q⟩:=Jy _ (K:=0) hd ⟨⟨by simp,by simp,by simp⟩,by simp,by simp⟩;exact⟨⟨by omega,by omega,by omega⟩,q⟩
  cases m:sT d.b self (n+1) c.2.1.1.2.2 with
  | none=>simp only[m];exact i
  | some t=>
   simp only[m];split
   ·exact o
   ·exact i
theorem vE{c:Type}(f:c->List av)(k:Nat)(b:∀a,(f a).length=k):(l:List c)->(i:Nat)->(a:c)->l[i]?=some a->∀(t:Nat)(u:av),(f a)[t]?=some u->(l.flatMap f)[i*k+t]?=some u
 | [],i,a,h,_,_,_=>by simp at h
 | x::l,0,a,h,t,u,hu=>by
  simp at h;subst h;rw[bK,dx (by have:=(aX.1 hu).1;omega)];simpa using hu
 | x::l,i+1,a,h,t,u,hu=>by
  rw[bK,eq (by rw[b,Nat.succ_mul];omega),b,show (i+1)*k+t-k=i*k+t by rw[Nat.succ_mul];omega];exact vE f k b l i a (by simpa using h) t u hu
theorem rN{base:Nat}{e:TypeId}{v:av}{f:h->List av}{l:List h}(m:w.ownsRow base e k v n (l.flatMap f))(A:0<k)(o:∀d,(f d).length=k):∃a c,v=ae a n c/\(∀b,a=some b->v.ownBlock=some b.block)/\∀(i:Nat)(d:h),l[i]?=some d->∃g,a=some ⟨g,0,none⟩/\g<w.heap.size/\∀(t:Nat)(u:av),(f d)[t]?=some u->w.cell? ⟨g,i*k+t,none⟩=some u:=by
 have r:=m;rcases m.2 with⟨rfl,q⟩|⟨g,c,C,rfl,D,z,F⟩
 ·refine⟨none,0,by rw[q],(λb e=>by cases e),λi d p=>?_⟩;have s:=vE f k o l i d p 0 _ (aM (by rw[o];exact A));have E:=(aX.1 s).1;have x:=m.1;rw[q,Nat.zero_mul]at x;omega
 ·refine⟨_,c,rfl,(λb e=>by cases e;rfl),λi d p=>⟨g,rfl,(aJ.1 z).1,λt u B=>?_⟩⟩;have y:=World.ownsRow.cells r (g:=g) rfl _ _ (vE f k o l i d p t u B);rwa [show∀j,(⟨g,0,none⟩:Addr).add j=⟨g,j,none⟩from λj=>by cases j<;>simp[Addr.add]]at y
def fl(n:Nat)(x:Tm (n+1)):ap:=if x.1.1=4 then match x.2.2[0]? with|some a=>if b8 ⟨n,a⟩=2 then (gu n a).1.2.2 else .empty|none=> .empty else .empty
def bS(n:Nat)(x:Tm (n+1)):List (Tm n):=if x.1.1=4 then match x.2.2[0]? with|some a=>if b8 ⟨n,a⟩=2 then x.2.2.drop 1 else []|none=> []else []
def tg(a s:ap):Bool:=a.toList==s.toList
def ER:(n:Nat)->Tm n->List (Tm (n-1))
 | 0,_=> []
 | _+1,x=>x.2.2
def xC(n:Nat)(x:Tm n):ap:=(gu n x).1.2.2
def zM(M n:Nat)(a b c:Tm n):Option (Ac (M+1)):=if b8 ⟨n,a⟩=2/\b8 ⟨n,c⟩=5 then some (2,(zT M,aY (M+1) n b),(xC n a,pO n c))else none
def jT(M n:Nat)(d:ap)(q:List (Tm n)):Option (Ac (M+1)):=
 if (tg d mR && decide (q.length=2))=true then (q[0]?).bind λa=>(q[1]?).bind λb=>some (1,(aY (M+1) n a,aY (M+1) n b),(.empty,0))
 else if (tg d jj && decide (q.length=3))=true then (q[0]?).bind λa=>(q[1]?).bind λb=>(q[2]?).bind λc=>zM M n a b c
 else if (tg d mQ && decide (q.length=1))=true then (q[0]?).bind λa=>some (3,(aY (M+1) n a,zT M),(.empty,0))
 else if (tg d lW && decide (q.length=0))=true then some (4,(zT M,zT M),(.empty,0))else none
def sK(M:Nat):(n:Nat)->Tm n->Option (Ac (M+1))
 | 0,_=>none
 | n+1,x=>jT M n (fl n x) (bS n x)
def sL(M n:Nat)(e:ap)(q:List (Tm n)):Option (Cl (M+1)):=
 if (tg e LB && decide (q.length=4))=true then (q[0]?).bind λa=>(q[1]?).bind λb=>(q[2]?).bind λc=>(q[3]?).bind λd=>
  if b8 ⟨n,c⟩=4 then (cQ (sK M (n-1)) (ER n c)).map λl=>((aY (M+1) n a,aY (M+1) n b,aY (M+1) n d),(none,0),l)else none
 else none
def zK(M:Nat):(n:Nat)->Tm n->Option (Cl (M+1))
 | 0,_=>none
 | n+1,x=>sL M n (fl n x) (bS n x)
def tO(M n:Nat)(b:ap)(q:List (Tm n)):Option (Bh (M+1)):=
 if tg b tY=true then (q[0]?).bind λa=>if b8 ⟨n,a⟩=2 then (cQ (zK M n) (q.drop 1)).map λl=>(xC n a,(none,0),l)else none
 else none
def zJ(M:Nat):(n:Nat)->Tm n->Option (Bh (M+1))
 | 0,_=>none
 | n+1,x=>tO M n (fl n x) (bS n x)
def BX(M:Nat):(n:Nat)->Tm n->Option (List (Bh (M+1)))
 | 0,_=>none
 | n+1,x=>if tg (fl n x) nU=true then cQ (zJ M n) (bS n x)else none
def qW{a:Type}(f:a->List av)(h:Nat->ag->a->Prop)(i:(Nat->Prop)->a->Prop)(S:a->a->Prop)(o:Option a)(w:ag)(e:Ending)(w':ag):Prop:=
 ∃(c:a)(d:Bool),e=.returned (.tuple #[.agg (f c).toArray,.bool d])/\Hid (ak w w'/\d=o.isSome/\h w'.heap.size w' c/\i (λb=>w.heap.size<=b) c/\∀g,o=some g->S c g)
def lK{a:Type}(k:Nat)(f:a->List av)(i:Nat->ag->a->Prop)(j:(Nat->Prop)->a->Prop)(S:a->a->Prop)(o:Option (List a))(w:ag)(e:Ending)(w':ag):Prop:=
 ∃(l:List a)(d:aw)(c:Nat)(g:Bool),e=.returned (.tuple #[ae d l.length c,.bool g])/\Hid (ak w w'/\g=o.isSome/\(l.length<=c/\c<=maxLen)/\qi w'.heap.size w' k f (i w'.heap.size w') d l/\tI (j (λb=>w.heap.size<=b)) (λb=>w.heap.size<=b) d l/\∀h,o=some h->eY S l h)
theorem sj{β:Type}(f:h->Option β)(p:List h)(k:Nat)(x:h)(g:p[k]?=some x)(l:List β)(y:β)(a:cQ f (p.take k)=some l)(i:f x=some y):cQ f (p.take (k+1))=some (l++ [y]):=by
 rw[dz,g];have key:∀(c:List h)(l:List β),cQ f c=some l->cQ f (c++ [x])=some (l++ [y]):=by
  intro c
  induction c with
  | nil=>intro l a;simp[cQ]at a;subst a;simp[cQ,i]
  | cons m c ih=>
   intro l a;simp only[cQ]at a;obtain⟨b,d,a⟩:=bC.1 a;obtain⟨j,e,rfl⟩:=cw.1 a;simp only[eL,cQ,d,ih j e];rfl
 exact key _ _ a
end Go.Proofs.YtmmahddlcldmiaaGreat
