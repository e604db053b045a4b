/- What is proved here: plain facts and contracts that the claimed theorem stands on. No condition but those that each names. -/
import Derived.Test.YtnidfceinoiboaaGreatG32
namespace Go.Proofs.YtnidfceinoiboaaGreat
open Go.RowKit
set_option maxRecDepth 100000
set_option maxHeartbeats 2000000
def fe(a c:Nat)(d b:fW)(w w':World):Prop:=bf (λq=>d.ow q≠0) w w'/\(∀q,q<w.heap.size->b.ow q=d.ow q)/\b.k<=d.k+c/\b.es.length<=d.es.length+a/\b.wn<=d.wn+a/\b.bn<=d.bn+a
theorem fe.trans{a b c e:Nat}{d d1 h:fW}{w w1 w2:World}(l:fe a c d d1 w w1)(k:fe b e d1 h w1 w2):fe (a+b) (c+e) d h w w2:=by
 obtain⟨i,j,o,p,q,r⟩:=l;obtain⟨m,n,t,u,v,x⟩:=k;have s:=i.size;exact⟨i.trans m λf g e=>by rw[j f g]at e;exact e,λf g=>(n f (by omega)).trans (j f g),by omega,by omega,by omega,by omega⟩
theorem fe.mono{a b c e:Nat}{d d1:fW}{w w1:World}(f:fe a c d d1 w w1)(m:a<=b)(n:c<=e):fe b e d d1 w w1:=by
 obtain⟨g,h,i,j,k,l⟩:=f;exact⟨g,h,by omega,by omega,by omega,by omega⟩
theorem dE.un{a:Nat}{d d1:fW}{w w1:World}(b:dE a d d1 w w1):fe a 0 d d1 w w1:=⟨b.1.mono λq _ e=>by omega,b.2.1,by have:=b.2.2.1;omega,b.2.2.2⟩
theorem yA{c:Type}(k j:Int)(v:c):(l:List (Int×c))->(l.map λp=>if p.1=k then (k,v)else p).find? (λp=>p.1==j)=(l.find? λp=>p.1==j).map λp=>if p.1=k then (k,v)else p
 | []=>rfl
 | a::l=>by
  rw[aH,gJ,gJ,yA k j v l];by_cases b:a.1=k
  ·rw[if_pos b];simp only[b];cases k==j<;>simp[b]
  ·rw[if_neg b];cases a.1==j<;>simp[b]
theorem P1.lie2{a f:Nat}{name:ByteArray}{room:Int}{cs:Tc}{c:List Tc}{k:Nat}{M:Nat->Prop}{w:World}(d:P1 a f name room cs c k M w):∀b,M b->a<=b/\b<w.heap.size:=by
 obtain⟨h,q,o,t,p,r,s,m,n,g,i,j,l,e⟩:=d;exact e
section
variable {p:lT} {s:Sy} {d:fW} {w:World}
theorem Cu(s:Sy)(k j:Int)(v:ByteArray×Tc×List Tc):(s.put k v).get j=if j=k then (s.get k).map λ_=>v else s.get j:=by
 unfold Sy.put Sy.get;simp only;rw[yA];by_cases a:j=k
 ·subst a;rw[if_pos rfl];cases e:s.ps.find? (λp=>p.1==j)with
  | none=>rfl
  | some b=>
   have:=List.find?_some e;simp only[ci]at this;simp[this]
 ·rw[if_neg a];cases e:s.ps.find? (λp=>p.1==j)with
  | none=>rfl
  | some b=>
   have:=List.find?_some e;simp only[ci]at this;simp[this,a]
theorem tj(s:Sy)(k:Int)(v:ByteArray×Tc×List Tc):(s.put k v).ps.map (·.1)=s.ps.map (·.1):=by
 unfold Sy.put;simp only[fu];refine iT λb _=>?_;by_cases a:b.1=k
 ·simp[a]
 ·simp[a]
theorem aV.turnP(a:aV p s d w){k:Int}{b:Nat}(y:cE d.l k=some b){nm:ByteArray}{cs m:Tc}{F i:List Tc}(S:s.get k=some (nm,cs,F)){w':World}(e:bf (λq=>d.ow q=k) w w'){N:Nat->Prop}{j:Nat}(Q:∀q,N q->d.ow q=k\/w.heap.size<=q)(T:d.k<=j)(x:P1 p.lo b nm p.room m i (j+201) N w')(P:i.length<=20):aV p (s.put k (nm,m,i)) {d with ow:=CI d w w' k,k:=j} w'/\fe 0 (j-d.k) d {d with ow:=CI d w w' k,k:=j} w w':=by
 have Z:=(a.key y).1;have v:=si (t:=k) a e.size a.lo.1;have f:=sj (w':=w') (t:=k) a;have R:∀q,N q->p.lo<=q/\q<w'.heap.size:=P1.lie2 x;have t:∀{t:Int},t≠k->∀q,d.ow q=t->¬d.ow q=k:=λW q h g=>W (h.symm.trans g);have r:w'.heap[p.b]?=some (.cells (dK p s d) 73):=(e.block p.b a.lo.2 (t (by omega) p.b a.own)).trans a.box;obtain⟨y1,y2,Y⟩:=a.wyK e (t (by omega)) f rfl (o8 r).1;obtain⟨G,H⟩:=a.evK e (t (by omega)) f;obtain⟨I,J,K,L,M,O⟩:=a.keys;have U:∀q∈(s.put k (nm,m,i)).ps,1<=q.1/\q.1<=s.last:=λq z=>by
  have:q.1∈(s.put k (nm,m,i)).ps.map (·.1):=cC.2 ⟨q,z,rfl⟩;rw[tj]at this;obtain⟨X,V,h⟩:=cC.1 this;rw[<-h];exact K X V
 refine⟨⟨v,r,(f p.b (by rw[a.own];decide)).trans a.own,⟨a.pgK e (t (by omega)) f,a.pg.2⟩,a.pmK e (λq h _=>t (by omega) q h) f,⟨by rw[tj];exact I,by rw[tj];exact J,U,L,M,by unfold Sy.put;simpa using O⟩,λn c q=>?_,⟨y1,y2,a.wy.2.2.1,a.wy.2.2.2.1,Y⟩,a.bdK e (t (by omega)) f rfl (o8 r).2,G,a.evt.1,H⟩,e.mono λq _ h=>by rw[h];omega,λq z=>if_neg (by omega),by show j<=_;omega,ag _,ag _,ag _⟩;by_cases u:n=k
 ·subst u;have q:cE d.l n=some c:=q;rw[y]at q;obtain rfl:=ap q;refine⟨nm,m,i,by rw[Cu,if_pos rfl,S];rfl,x.mono (λq g=>?_) (ag _) λq g=>v q (by have g:CI d w w' n q=n:=g;rw[g];omega),P⟩;rcases Q q g with o|o
  ·exact(f q (by rw[o];omega)).trans o
  ·exact if_pos ⟨o,(R q g).2⟩
 ·obtain⟨A,B,C,D,E⟩:=a.psK e T (t u) f v q;exact⟨A,B,C,by rw[Cu,if_neg u];exact D,E⟩
end
theorem Em(i L:Nat)(G:Option Nat)(a b d f:Int)(g:ByteArray)(xa:Option Addr)(h xc:Nat)(v:Int)(w:World)(o R:World->Prop)(V:i<w.heap.size)(M:Hid (w.cell? ⟨i,3,none⟩=some (.map G)))(H:Hid (∀W,Below w.heap.size w W->(Instr.lookup 64 (.map G) (.int .i64 b) false).run Tryz.prog W=.ok (.pointer (some ⟨L,0,none⟩)) W))(I:Hid (∀W,Below w.heap.size w W->Calls Tryz.prog 67 #[.pointer (some ⟨L,0,none⟩),.agg #[.int .i64 d,.int .i64 f,.string g,.slice xa h xc]] W λe w'=>e=.returned (.int .i64 v)/\Hid (o w'/\∀q,w.heap.size<=q->q<W.heap.size->w'.heap[q]?=W.heap[q]?)))(n:Hid (v=2->∀W,o W->Calls Tryz.prog 35 #[.pointer (some ⟨i,0,none⟩),.string ⟨#[108,111,115,116]⟩,.int .i64 a,.int .i64 b,.agg #[.int .i64 d,.int .i64 f,.string g,.slice xa h xc]] W λe w'=>e=.returned (.tuple #[])/\Hid (R w')))(l:Hid (v=6->∀W,o W->Calls Tryz.prog 37 #[.pointer (some ⟨i,0,none⟩),.int .i64 b,.int .i64 3] W λe w'=>e=.returned (.tuple #[])/\Hid (R w')))(m:Hid (v≠2->v≠6->∀W,o W->R W)):Calls Tryz.prog 41 #[.pointer (some ⟨i,0,none⟩),.int .i64 a,.int .i64 b,.agg #[.int .i64 d,.int .i64 f,.string g,.slice xa h xc]] w λe w'=>e=.returned (.tuple #[])/\Hid (R w'):=by
 go_enter Tryz.func41,Tryz.ntmps41;go_upto_region 1 with fail;generalize K:w.alloc _=c;have t:Hid (Below w.heap.size w c/\c.heap[w.heap.size]?=some (.cells #[.int .i64 d,.int .i64 f,.string g,.slice xa h xc] 30)):=by
  rw[<-K];exact⟨(ah _ _).alloc (ag _) _,ax _ _⟩
 clear K;obtain⟨q,s⟩:∃q,q=w.heap.size:=⟨_,rfl⟩;rw[<-s];have C:Hid (c.heap[q]?=some (.cells #[.int .i64 d,.int .i64 f,.string g,.slice xa h xc] 30)):=by rw[s];exact t.out.2
 have HB:=ai t.out.1;have N:=ai s;clear s t;have A:Hid (Below c.heap.size c c.drew):=(ah _ _).drew;have y:=ai (HB.out.trans (A.out.mono HB.out.size));have D:=ai (fF A.out C.out);have z:Hid (∀W:World,W.heap[q]?=some (.cells #[.int .i64 d,.int .i64 f,.string g,.slice xa h xc] 30)->W.cell? ⟨q,0,none⟩=some (.int .i64 d)/\W.cell? ⟨q,1,none⟩=some (.int .i64 f)/\W.cell? ⟨q,2,none⟩=some (.string g)/\W.cell? ⟨q,3,none⟩=some (.slice xa h xc)):=λW r=>⟨ab r 0,ab r 1,ab r 2,ab r 3⟩;obtain⟨O,P,Q,S⟩:=z.out c C.out;have T:c.cell? ⟨i,3,none⟩=some (.map G):=(HB.out.cell (p:=⟨i,3,none⟩) V).trans M.out;have U:=H.out c.drew y.out
 go_region_with ((first
     | (go_at_call 67;refine(I.out _ y.out).mono ?_;rintro e k ⟨rfl,u⟩;have J:Hid (k.heap[q]?=some (.cells #[.int .i64 d,.int .i64 f,.string g,.slice xa h xc] 30)):=(u.out.2 q (by have:=N.out;omega) (aE.1 D.out).1).trans D.out)))
 all_goals
  obtain⟨Y,d1,Z,aa⟩:=z.out k J.out;have B:=ai u.out.1;clear O P Q S T U H I z u J D y A HB C;by_cases E:v=2
  ·subst E;have j:=ai (n.out (by simp) k B.out);clear n l m;go_wp2_with fail;refine j.out.mono ?_;rintro e X ⟨rfl,x⟩;go_wp2_with fail;exact dP (v:=.tuple #[]) (by simp[results]) rfl ⟨rfl,x.out⟩
  ·have ad:(v==2)=false:=by simpa using E
   by_cases F:v=6
   ·subst F;have j:=ai (l.out (by simp) k B.out);clear n l m;go_wp2_with fail;refine j.out.mono ?_;rintro e X ⟨rfl,x⟩;go_wp2_with fail;exact dP (v:=.tuple #[]) (by simp[results]) rfl ⟨rfl,x.out⟩
   ·have ae:(v==6)=false:=by simpa using F
    have j:=ai (m.out E F k B.out);clear n l m;go_wp2_with fail;exact dP (v:=.tuple #[]) (by simp[results]) rfl ⟨rfl,j.out⟩
theorem IC{m:Nat}{x:Tm m}(a:bA m x=0)(room:Int)(s:Tc)(ms:List Tc):j9 m x room s ms=j9 13 (cn m x) room s ms:=by
 have b:=eL a;unfold j9;rw[bI b,cw _ _ _ _ b,Cm a]
theorem zw{d:Type}(k:Int)(v:d):(l:List (Int×d))->(l.map (·.1)).Nodup->(l.find? λp=>p.1==k).map (·.2)=some v->(l.map λp=>if p.1=k then (k,v)else p)=l
 | [],_,_=>rfl
 | a::l,hn,h=>by
  rw[aH,jR]at hn;rw[gJ]at h;rw[aH];by_cases b:a.1=k
  ·have c:(a.1==k)=true:=by simpa using b
   rw[c]at h;have f:a.2=v:=by simpa using h
   rw[if_pos b];congr 1
   ·rw[<-f,<-b]
   ·refine(iT λi g=>?_).trans (List.map_id l);rw[if_neg λe=>hn.1 (cC.2 ⟨i,g,e.trans b.symm⟩)];rfl
  ·have c:(a.1==k)=false:=by simpa using b
   rw[c]at h;rw[if_neg b,zw k v l hn.2 h]
theorem tO{s:Sy}{k:Int}{v:ByteArray×Tc×List Tc}(b:(s.ps.map (·.1)).Nodup)(a:s.get k=some v):s.put k v=s:=by
 unfold Sy.put;rw[zw k v s.ps b a]
section
variable {p:lT} {s:Sy} {d:fW} {w:World}
theorem aV.deliver(h:aV p s d w){a b:Int}(X:dc b){nm:ByteArray}{cs:Tc}{r:List Tc}(j:s.get b=some (nm,cs,r)){m:Nat}(x:Tm (m+1))(L:In w.heap.size w (m+1) x/\ch (λq=>¬1<=d.ow q) (m+1) x)(B:bA (m+1) x=0)(aa:d.k<=47000)(Z:d.es.length<=98000):Calls Tryz.prog 41 #[.pointer (some ⟨p.b,0,none⟩),.int .i64 a,.int .i64 b,dg (m+1) x] w λe w'=>e=.returned (.tuple #[])/\Hid (∃z,aV p (s.deliver p.room a b (cn (m+1) x)) z w'/\fe 100 201 d z w w'):=by
 obtain⟨v,H⟩:∃v,cE d.l b=some v:=by
  have:=h.alive b;rw[j]at this;cases e:cE d.l b with
  | none=>rw[e]at this;cases this
  | some v=>exact⟨v,rfl⟩
 obtain⟨Y,Q,P,G,T,U⟩:=h.ps b v H;rw[j]at G;obtain⟨rfl,rfl,rfl⟩:nm=Y/\cs=Q/\r=P:=by
  injection G with G;injection G with J A;injection A with A S;exact⟨J,A,S⟩
 have N:=(h.key H).1;obtain⟨y,C⟩:∃y,y=j9 13 (cn (m+1) x) p.room cs r:=⟨_,rfl⟩;have ab:bA 13 (cn (m+1) x)=0:=(bI (eL B)).trans B;refine Em p.b v d.po a b x.1.1 x.1.2.1 x.1.2.2 x.2.1.1 x.2.2.length x.2.1.2 y w (λg=>∃d1,aV p (if y=0 then s.put b (nm,cs,r++ [cn (m+1) x])else s.put b (nm,cs,r)) d1 g/\fe 0 201 d d1 w g/\In g.heap.size g (m+1) x) (λg=>∃z,aV p (s.deliver p.room a b (cn (m+1) x)) z g/\fe 100 201 d z w g) h.lo.2 h.cells.2.2.2 (λg f=>?_) (λg f=>?_) (λe g f=>?_) (λe g f=>?_) λJ A g f=>?_
 ·have:=(h.later f).look b false;rw[H]at this;exact this
 ·have W:=T.later f;have O:=(L.1.below f).mono f.size;refine(W.deliver x O (L.2.mono λq t F=>t (by rw[show d.ow q=b from F];exact N)) (eU B) (by omega) (by omega) (au h.lo.1 f.size)).mono ?_;rintro e w' ⟨rfl,u⟩;rw[IC B,<-C]at u ⊢;obtain⟨c,n⟩:=u.out;have K:bf (λq=>d.ow q=b) g w':=⟨c.os,c.tape,c.output,c.size,c.block⟩;have V:(if y=0 then r++ [cn (m+1) x]else r).length<=20:=by
   split
   ·rename_i i;rw[C]at i;unfold j9 at i;split at i
    ·cases i
    ·simp;omega
   ·exact U
  obtain⟨o,E⟩:=(h.later f).turnP H j K (λq t=>t.1) (show d.k<=d.k+201 by omega) n V;refine⟨rfl,⟨_,?_,(((dE.later d f).un.trans E).mono (ag _) (by omega)),?_⟩,λq ad F=>K.block q F λt=>?_⟩
  ·split
   ·rename_i i;rw[if_pos i]at o;exact o
   ·rename_i i;rw[if_neg i]at o;exact o
  ·exact(eX K (D:=λq=>¬1<=d.ow q) (λq t F=>t (by rw[F];exact N)) ⟨O,L.2⟩).1
  ·have:=(h.low q (by rw[t];omega)).2;omega
 ·obtain⟨d1,c,n,M⟩:=f;rw[if_neg (by rw[e];decide),tO h.keys.2.1 j]at c;refine(c.tell fQ a b x.1.1 x.1.2.1 x.1.2.2 x.2.1.1 x.2.2.length x.2.1.2 (cn (m+1) x) (jC M B) (by have:=n.2.2.2.1;omega)).mono ?_;rintro R w' ⟨rfl,u⟩;obtain⟨I,o,E⟩:=u.out.up c;refine⟨rfl,I,?_,(n.trans E.un).mono (by omega) (by omega)⟩;unfold Sy.deliver;rw[j];simp only;rw[<-C,if_pos e];exact o
 ·obtain⟨d1,c,n,M⟩:=f;rw[if_neg (by rw[e];decide),tO h.keys.2.1 j]at c;refine(c.fin (how:=3) X (by have:=n.2.2.2.1;omega)).mono ?_;rintro R w' ⟨rfl,u⟩;obtain⟨I,o,E⟩:=u.out;refine⟨rfl,I,?_,(n.trans E.un).mono (by omega) (by omega)⟩;unfold Sy.deliver;rw[j];simp only;rw[<-C,if_neg (by rw[e];decide),if_pos e];exact o
 ·obtain⟨d1,c,n,M⟩:=f;refine⟨d1,?_,n.mono (by omega) (ag _)⟩;unfold Sy.deliver;rw[j];simp only;rw[<-C,if_neg J,if_neg A];by_cases i:y=0
  ·rw[if_pos i]at c ⊢;exact c
  ·rw[if_neg i]at c ⊢;rw[tO h.keys.2.1 j]at c;exact c
end
theorem yK(x:Nat)(a i j:Int)(k:ByteArray)(xa:Option Addr)(l xc:Nat)(g cl:Bool)(b:Int)(w:World)(R:Int->World->Prop)(z:Hid (∀W,Below w.heap.size w W->Calls Tryz.prog 40 #[.pointer (some ⟨x,0,none⟩),.int .i64 a] W λe w'=>e=.returned (.bool g)/\w'=W))(G:Hid (∀W,Below w.heap.size w W->Calls Tryz.prog 42 #[.agg #[.int .i64 i,.int .i64 j,.string k,.slice xa l xc]] W λe w'=>e=.returned (.int .i64 b)/\Below W.heap.size W w'))(E:Hid (∀W,Below w.heap.size w W->Calls Tryz.prog 43 #[.agg #[.int .i64 i,.int .i64 j,.string k,.slice xa l xc]] W λe w'=>e=.returned (.bool cl)/\Below W.heap.size W w'))(F:Hid (g=true->b=0->cl=true->∀W,Below w.heap.size w W->Calls Tryz.prog 41 #[.pointer (some ⟨x,0,none⟩),.int .i64 0,.int .i64 a,.agg #[.int .i64 i,.int .i64 j,.string k,.slice xa l xc]] W λe w'=>e=.returned (.tuple #[])/\Hid (R 0 w')))(r:Hid (∀W,Below w.heap.size w W->(g=false->R 4 W)/\(g=true->b≠0->R b W)/\(g=true->b=0->cl=false->R 5 W))):Calls Tryz.prog 19 #[.pointer (some ⟨x,0,none⟩),.int .i64 a,.agg #[.int .i64 i,.int .i64 j,.string k,.slice xa l xc]] w λe w'=>∃v,e=.returned (.int .i64 v)/\Hid (R v w'):=by
 go_enter Tryz.func19,Tryz.ntmps19;go_upto_region 1 with fail;generalize A:w.alloc _=y;have d:Hid (Below w.heap.size w y/\y.heap[w.heap.size]?=some (.cells #[.int .i64 i,.int .i64 j,.string k,.slice xa l xc] 30)):=by
  rw[<-A];exact⟨(ah _ _).alloc (ag _) _,ax _ _⟩
 clear A;go_wp2_with fail;refine(z.out _ d.out.1).mono ?_;rintro e K ⟨rfl,B⟩;obtain rfl:=B.symm;clear B z;cases g
 ·have h:=ai ((r.out y d.out.1).1 rfl);go_wp2_with fail
  go_ret
  exact⟨4,rfl,h.out⟩
 have c:=d.out.2;obtain⟨m,n,o,p⟩:=Ma c;clear c;go_wp2_with fail;refine(G.out _ d.out.1).mono ?_;rintro e I ⟨rfl,s⟩;have f:=ai (⟨d.out.1.trans (s.mono d.out.1.size),fF s d.out.2⟩:_/\_);clear m n o p s;by_cases u:b=0;rotate_left
 ·have h:=ai ((r.out I f.out.1).2.1 (by simp) u);have J:(b !=0)=true:=by simpa using u
  go_wp2_with fail
  go_ret
  exact⟨b,rfl,h.out⟩
 subst u;have c:=f.out.2;obtain⟨m,n,o,p⟩:=Ma c;clear c;go_wp2_with fail;refine(E.out _ f.out.1).mono ?_;rintro e C ⟨rfl,t⟩;have q:=ai (⟨f.out.1.trans (t.mono f.out.1.size),fF t f.out.2⟩:_/\_);clear m n o p t;cases cl
 ·have h:=ai ((r.out C q.out.1).2.2 (by simp) (by simp) (by simp));go_wp2_with fail
  go_ret
  exact⟨5,rfl,h.out⟩
 have c:=q.out.2;obtain⟨m,n,o,p⟩:=Ma c;have H:=ai (F.out (by simp) (by simp) (by simp) C q.out.1);clear c;go_wp2_with fail;refine H.out.mono ?_;rintro e L ⟨rfl,D⟩;go_wp2_with fail
 go_ret
 exact⟨0,rfl,D.out⟩
section
variable {p:lT} {s:Sy} {d:fW} {w:World}
theorem aV.inject(j:aV p s d w){a:Int}(y:dc a){m:Nat}(x:Tm (m+1))(l:In w.heap.size w (m+1) x/\ch (λq=>¬1<=d.ow q) (m+1) x)(u:(aq (m+1) x).length<=2097152)(A:d.k<=47000)(t:d.es.length<=98000):Calls Tryz.prog 19 #[.pointer (some ⟨p.b,0,none⟩),.int .i64 a,dg (m+1) x] w λe w'=>∃v,e=.returned (.int .i64 v)/\Hid (v=(s.inject p.room a (m+1) x).2/\∃g,aV p (s.inject p.room a (m+1) x).1 g w'/\fe 100 201 d g w w'):=by
 have o:∀f,Below w.heap.size w f->fe 100 201 d d w f:=λf c=>(dE.later d c).un.mono (aD _) (aD _);refine yK p.b a x.1.1 x.1.2.1 x.1.2.2 x.2.1.1 x.2.2.length x.2.1.2 (s.get a).isSome (aF (m+1) x) (bA (m+1) x) w (λv w'=>v=(s.inject p.room a (m+1) x).2/\∃g,aV p (s.inject p.room a (m+1) x).1 g w'/\fe 100 201 d g w w') (λf c=>(j.later c).isAlive a) (λf c=>dL (m+1) x w.heap.size f (l.1.below c) c.size u) (λf c=>gX (m+1) x w.heap.size f (l.1.below c) c.size) (λh i n f c=>?_) λf c=>⟨λe=>?_,λh i=>?_,λh i n=>?_⟩
 ·obtain⟨v,z⟩:=fL.1 h;obtain⟨F,E,D⟩:=v;refine((j.later c).deliver y z x ⟨(l.1.below c).mono c.size,l.2⟩ i A t).mono ?_;rintro e w' ⟨rfl,r⟩;obtain⟨g,B,C⟩:=r.out;have e:s.inject p.room a (m+1) x=(s.deliver p.room 0 a (cn (m+1) x),0):=by
   unfold Sy.inject;rw[if_neg (by rw[h];decide),if_neg (by rw[i];decide),if_neg (by rw[n];decide)]
  rw[e];exact⟨rfl,rfl,g,B,((dE.later d c).un.trans C).mono (by omega) (by omega)⟩
 ·have e:s.inject p.room a (m+1) x=(s,4):=if_pos e;rw[e];exact⟨rfl,d,j.later c,o f c⟩
 ·have e:s.inject p.room a (m+1) x=(s,bA (m+1) x):=by
    unfold Sy.inject;rw[if_neg (by rw[h];decide),if_pos i]
  rw[e];exact⟨rfl,d,j.later c,o f c⟩
 ·have e:s.inject p.room a (m+1) x=(s,5):=by
    unfold Sy.inject;rw[if_neg (by rw[h];decide),if_neg (by rw[i];decide),if_pos n]
  rw[e];exact⟨rfl,d,j.later c,o f c⟩
end
section
variable {p:lT} {s:Sy} {d:fW} {w:World}
theorem aV.takeW(h:aV p s d w){a b:Int}(X:I2 (a,b))(Z:d.wn<999999):Calls Tryz.prog 39 #[.pointer (some ⟨p.b,4,none⟩),.int .i64 a,.int .i64 b] w λe w'=> (s.ways (a,b)=[]->e=.returned (.tuple #[.agg #[.int .i64 0,.int .i64 0,.string ⟨#[]⟩,.slice none 0 0],.int .i64 4])/\Below w.heap.size w w')/\ ∀t l,s.ways (a,b)=t::l->∃y:Tc,e=.returned (.tuple #[dg 13 y,.int .i64 0])/\cn 13 y=t/\bA 13 y=0/\aF 13 y=true/\∃z,aV p {s with ways:=fT s.ways (a,b) l} z w'/\dE 1 d z w w'/\In w'.heap.size w' 13 y/\ch (λq=>¬1<=z.ow q) 13 y:=by
 have n:=h.wy.2.2.1 (a,b);refine(GZ (N:=12) h.wy.1 X Z (by have:=h.wy.2.2.2.1 (a,b);omega)).mono ?_;rintro e w' ⟨B,V⟩;refine⟨λA=>B ?_,λt l A=>?_⟩
 ·rw[A]at n;simpa using n
 ·rw[A]at n;obtain⟨y,i,v,P,Q⟩:∃y i,d.f (a,b)=y::i/\cn 13 y=t/\i.map (cn 13)=l:=by
   cases I:d.f (a,b)with
   | nil=>rw[I]at n;simp at n
   | cons y i=>
    rw[I,aH]at n;injection n with ad ae;exact⟨y,i,rfl,ad,ae⟩
  obtain⟨Y,sl,L,m,M⟩:=V y i v;have u:=h.wy.2.1;have r:∀b,d.ow b≠0->d.ow b=d.ow b:=λ_ _=>rfl;have J:∀b,d.ow b≠0->p.lo<=b/\b<w'.heap.size:=λb q=>⟨(h.low b q).1,aL (h.low b q).2 m.size⟩;have x:∀{t:Int},t≠ -1->t≠ -5->∀b,d.ow b=t->¬qg (xJ p s d) d.wo d.sl b:=λB W b e g=>by
   rcases u b g with g|g
   ·rw[g,h.own]at e;exact W e.symm
   ·exact B (e.symm.trans g)
  have H:w'.heap[p.b]?=some (.cells (dK p s d) 73):=by
   have:=L.2.1.2;simpa [xJ,dK]using this
  have K:∀C,∀g∈d.f C,bA 13 g=0/\aF 13 g=true/\In w'.heap.size w' 13 g/\ch (λq=>d.ow q=-1/\¬qg (xJ p s d) d.wo d.sl q) 13 g:=λC g o=>by
   obtain⟨D,E,F⟩:=h.wy.2.2.2.2 C g o;exact⟨D,E,eX m (λq ai G=>ai.2 G) F⟩
  obtain⟨y1,y2,af,ah⟩:=K (a,b) y (by rw[v];simp);obtain⟨R,S⟩:=h.evK m (x (by decide) (by decide)) r;refine⟨y,Y,P,y1,y2,{d with wn:=d.wn+1,f:=fT d.f (a,b) i,sl:=sl},⟨J,H,h.own,⟨h.pgK m (x (by decide) (by decide)) r,h.pg.2⟩,h.pmK m (λq T U g=>?_) r,h.keys,λk c q=>h.psK m (ag _) (x (by have:=(h.key q).1;omega) (by have:=(h.key q).1;omega)) r J q,⟨L,λq g=>u q (M q g),λk=>?_,λk=>?_,λk g o=>?_⟩,h.bdK m (x (by decide) (by decide)) r rfl (o8 H).2,R,h.evt.1,S⟩,⟨m.mono λq _ g=>?_,λ_ _=>rfl,rfl,fw _,ag _,fw _⟩,af,ah.mono λq g=>by show¬1<=d.ow q;rw[g.1];decide⟩
  ·rcases u q g with g|g
   ·exact U g
   ·rw[T]at g;cases g
  ·by_cases j:k=(a,b)
   ·subst j;show (fT d.f (a,b) i (a,b)).map (cn 13)=fT s.ways (a,b) l (a,b);rw[cr,cr,Q]
   ·show (fT d.f (a,b) i k).map (cn 13)=fT s.ways (a,b) l k;rw[bC _ _ j,bC _ _ j];exact h.wy.2.2.1 k
  ·by_cases j:k=(a,b)
   ·subst j;show (fT d.f (a,b) i (a,b)).length<=20;rw[cr];have:=h.wy.2.2.2.1 (a,b);rw[v]at this;simp at this;omega
   ·show (fT d.f (a,b) i k).length<=20;rw[bC _ _ j];exact h.wy.2.2.2.1 k
  ·have o:g∈fT d.f (a,b) i k:=o;have aa:g∈d.f k:=by
    by_cases j:k=(a,b)
    ·subst j;rw[cr]at o;rw[v];exact bR _ o
    ·rwa [bC _ _ j]at o
   obtain⟨D,E,F,ab⟩:=K k g aa;exact⟨D,E,F,ab.mono λq O=>⟨O.1,λG=>O.2 (M q G)⟩⟩
  ·rcases u q g with g|g
   ·rw[g,h.own];decide
   ·rw[g];decide
end
theorem re(f:Nat)(a b:Int)(s i:Bool)(w:World)(p:Int->Int->ByteArray->Option Addr->Nat->Nat->World->Prop)(R:Int->World->Prop)(n:Hid (Calls Tryz.prog 39 #[.pointer (some ⟨f,4,none⟩),.int .i64 a,.int .i64 b] w λe w'=>(s=true->e=.returned (.tuple #[.agg #[.int .i64 0,.int .i64 0,.string ⟨#[]⟩,.slice none 0 0],.int .i64 4])/\Hid (∀W,Below w'.heap.size w' W->R 4 W))/\(s=false->∃y0 y1 y2 ya yl yc,e=.returned (.tuple #[.agg #[.int .i64 y0,.int .i64 y1,.string y2,.slice ya yl yc],.int .i64 0])/\Hid (p y0 y1 y2 ya yl yc w'))))(k:Hid (∀y0 y1 y2 ya yl yc W c,p y0 y1 y2 ya yl yc W->Below W.heap.size W c->Calls Tryz.prog 40 #[.pointer (some ⟨f,0,none⟩),.int .i64 b] c λe w'=>e=.returned (.bool i)/\w'=c))(l:Hid (∀y0 y1 y2 ya yl yc W c,p y0 y1 y2 ya yl yc W->Below W.heap.size W c->(i=true->Calls Tryz.prog 41 #[.pointer (some ⟨f,0,none⟩),.int .i64 a,.int .i64 b,.agg #[.int .i64 y0,.int .i64 y1,.string y2,.slice ya yl yc]] c λe w'=>e=.returned (.tuple #[])/\Hid (R 0 w'))/\(i=false->Calls Tryz.prog 35 #[.pointer (some ⟨f,0,none⟩),.string ⟨#[108,111,115,116]⟩,.int .i64 a,.int .i64 b,.agg #[.int .i64 y0,.int .i64 y1,.string y2,.slice ya yl yc]] c λe w'=>e=.returned (.tuple #[])/\Hid (R 0 w')))):Calls Tryz.prog 18 #[.pointer (some ⟨f,0,none⟩),.int .i64 a,.int .i64 b] w λe w'=>∃v,e=.returned (.int .i64 v)/\Hid (R v w'):=by
 go_enter Tryz.func18,Tryz.ntmps18;go_wp2_with fail;refine n.out.mono ?_;rintro e d ⟨q,r⟩;cases s;rotate_left
 ·obtain⟨rfl,g⟩:=q rfl;clear q r n k l;go_wp2_with fail
  go_ret
  exact⟨4,rfl,g.out _ ((ah _ _).alloc (ag _) _)⟩
 obtain⟨y0,y1,y2,ya,yl,yc,rfl,g⟩:=r rfl;clear q r n;have HB:Hid (∀o,Below d.heap.size d (d.alloc o)):=λo=>(ah _ _).alloc (ag _) o;have x:Hid (∀o,(d.alloc o).heap[d.heap.size]?=some o):=λo=>ax d o;go_wp2_with fail;refine(k.out _ _ _ _ _ _ _ _ g.out (HB.out _)).mono ?_;rintro e y ⟨rfl,t⟩;obtain rfl:=t.symm;clear t;have h:=ai (l.out _ _ _ _ _ _ _ _ g.out (HB.out (.cells #[.int .i64 y0,.int .i64 y1,.string y2,.slice ya yl yc] 30)));clear k l;cases i
 ·have m:=ai (h.out.2 rfl);clear h;go_wp2_with fail;refine m.out.mono ?_;rintro e u ⟨rfl,j⟩;go_wp2_with fail
  go_ret
  exact⟨0,rfl,j.out⟩
 ·have m:=ai (h.out.1 rfl);clear h;go_wp2_with fail;refine m.out.mono ?_;rintro e u ⟨rfl,j⟩;go_wp2_with fail
  go_ret
  exact⟨0,rfl,j.out⟩
section
variable {p:lT} {s:Sy} {d:fW} {w:World}
theorem aV.arrive(z:aV p s d w){a b:Int}(A:I2 (a,b))(E:d.wn<999999)(Y:d.k<=47000)(W:d.es.length<=97000):Calls Tryz.prog 18 #[.pointer (some ⟨p.b,0,none⟩),.int .i64 a,.int .i64 b] w λe w'=>∃v,e=.returned (.int .i64 v)/\Hid (v=(s.arrive p.room a b).2/\∃c,aV p (s.arrive p.room a b).1 c w'/\fe 101 201 d c w w'):=by
 cases hw:s.ways (a,b)with
 | nil=>
  have e:s.arrive p.room a b=(s,4):=by unfold Sy.arrive;rw[hw]
  rw[e];refine re p.b a b true false w (λ_ _ _ _ _ _ _=>False) (λv w'=>v=4/\∃c,aV p s c w'/\fe 101 201 d c w w') ((z.takeW A E).mono λe w' j=>⟨λ_=>⟨(j.1 hw).1,λi g=>?_⟩,(λm=>by cases m)⟩) (λ_ _ _ _ _ _ _ _ m=>m.elim) λ_ _ _ _ _ _ _ _ m=>m.elim;have D:=(j.1 hw).2.trans (g.mono (j.1 hw).2.size);exact⟨rfl,d,z.later D,(dE.later d D).un.mono (aD _) (aD _)⟩
 | cons t l=>
  obtain⟨h,F⟩:∃h,h={s with ways:=fT s.ways (a,b) l}:=⟨_,rfl⟩;have e:s.arrive p.room a b=(if (h.get b).isSome then h.deliver p.room a b t else h.tell fQ a b t,0):=by unfold Sy.arrive;rw[hw,F]
  rw[e];refine re p.b a b false (h.get b).isSome w (λy0 y1 y2 ya yl yc i=>∃f:Tc,(f.1=(y0,y1,y2)/\f.2.1=(ya,yc)/\f.2.2.length=yl)/\cn 13 f=t/\bA 13 f=0/\∃c,aV p h c i/\dE 1 d c w i/\In i.heap.size i 13 f/\ch (λj=>¬1<=c.ow j) 13 f) (λv w'=>v=0/\∃c,aV p (if (h.get b).isSome then h.deliver p.room a b t else h.tell fQ a b t) c w'/\fe 101 201 d c w w') ((z.takeW A E).mono λe w' j=>⟨(λm=>by cases m),λ_=>?_⟩) ?_ ?_
  ·obtain⟨f,N,O,P,ab,c,Q,R,S,T⟩:=j.2 t l hw;exact⟨f.1.1,f.1.2.1,f.1.2.2,f.2.1.1,f.2.2.length,f.2.1.2,N,f,⟨rfl,rfl,rfl⟩,O,P,c,by rw[F];exact Q,R,S,T⟩
  ·rintro y0 y1 y2 ya yl yc i I ⟨f,_,_,_,c,o,_⟩ g;exact(o.later g).isAlive b
  ·rintro y0 y1 y2 ya yl yc i I ⟨f,⟨B,C,K⟩,G,kc,c,o,r,H,M⟩ g;obtain⟨⟨ad,ae,af⟩,⟨ag,ah⟩,ai⟩:=f;simp only[gN]at B C;obtain⟨rfl,rfl,rfl⟩:=B;obtain⟨rfl,rfl⟩:=C;subst K;have X:=r.2.2.2.1;have Z:=r.2.2.1;refine⟨λq=>?_,λq=>?_⟩
   ·obtain⟨v,L⟩:=fL.1 q;obtain⟨aa,V,U⟩:=v;refine((o.later g).deliver A.2 L _ ⟨(H.below g).mono g.size,M⟩ kc (by omega) (by omega)).mono ?_;rintro J w' ⟨rfl,u⟩;obtain⟨x,n,y⟩:=u.out;rw[G]at n;rw[if_pos q];exact⟨rfl,rfl,x,n,((r.un.trans (dE.later c g).un).trans y).mono (by omega) (by omega)⟩
   ·refine((o.later g).tell fQ a b _ _ _ _ _ _ _ (jC ((H.below g).mono g.size) kc) (by omega)).mono ?_;rintro J w' ⟨rfl,u⟩;obtain⟨x,n,y⟩:=u.out.up (o.later g);rw[G]at n;rw[if_neg (by rw[q];decide)];exact⟨rfl,rfl,x,n,((r.un.trans (dE.later c g).un).trans y.un).mono (by omega) (by omega)⟩
end
theorem I8(a:Nat)(W:World):(binOp .eql 64 (.map (some a)) (.map none)).run Tryz.prog W=.ok (.bool false) W:=by kernel_rfl
theorem I7(W:World):(binOp .eql 64 (.map none) (.map none)).run Tryz.prog W=.ok (.bool true) W:=by kernel_rfl
theorem Ek(b o d:Nat)(n:Option Nat)(a G c:Int)(w w1 w2:World)(y:Int->Int->ByteArray->Option Addr->Nat->Nat->World->Prop)(k R:World->Prop)(S:IntKind.i64.wrap (G+1)=c)(T:b<w.heap.size)(C:Hid (w.cell? ⟨b,3,none⟩=some (.map n)/\w.frozen? ⟨b,3,none⟩=false))(P:(n=none/\d=w.heap.size/\w1=(w.setCell ⟨b,3,none⟩ (.map (some d))).alloc (.map #[] 0))\/(n=some d/\w1=w))(p:Hid (w1.cell? ⟨b,2,none⟩=some (.int .i64 G)/\w1.frozen? ⟨b,2,none⟩=false))(A:w2=w1.setCell ⟨b,2,none⟩ (.int .i64 c))(j:Hid (∀W,Below w2.heap.size w2 W->W.cell? ⟨b,2,none⟩=some (.int .i64 c)/\W.cell? ⟨b,3,none⟩=some (.map (some d))))(u:Hid (∀W,Below w2.heap.size w2 W->∃g,(Instr.mapUpdate 64 (.map (some d)) (.int .i64 c) (xI o)).run Tryz.prog W=.ok () g/\(g.cell? ⟨b,2,none⟩=some (.int .i64 c)/\g.cell? ⟨b,3,none⟩=some (.map (some d)))/\Hid (k g)))(s:Hid (∀W f,k W->Below W.heap.size W f->f.cell? ⟨b,2,none⟩=some (.int .i64 c)))(I:Hid (∀W f,k W->Below W.heap.size W f->Calls Tryz.prog 24 #[.pointer (some ⟨o,0,none⟩)] f λe w'=>∃y0 y1 y2 ya yl yc,e=.returned (.agg #[.int .i64 y0,.int .i64 y1,.string y2,.slice ya yl yc])/\Hid (Below f.heap.size f w'/\y y0 y1 y2 ya yl yc w')))(J:Hid (∀y0 y1 y2 ya yl yc W,y y0 y1 y2 ya yl yc W->Calls Tryz.prog 35 #[.pointer (some ⟨b,0,none⟩),.string ⟨#[115,112,97,119,110]⟩,.int .i64 a,.int .i64 c,.agg #[.int .i64 y0,.int .i64 y1,.string y2,.slice ya yl yc]] W λe w'=>e=.returned (.tuple #[])/\Hid (R w'/\w'.cell? ⟨b,2,none⟩=some (.int .i64 c)))):Calls Tryz.prog 32 #[.pointer (some ⟨b,0,none⟩),.int .i64 a,.pointer (some ⟨o,0,none⟩)] w λe w'=>e=.returned (.tuple #[])/\Hid (R w'):=by
 obtain⟨L,O⟩:=C.out;have Q:= @jY Tryz.prog;have m:Hid (Below w2.heap.size w2 w2.drew):=(ah _ _).drew;have h:Hid (∀W:World,Below W.heap.size W W.drew):=λW=>(ah _ _).drew;go_enter Tryz.func32,Tryz.ntmps32;rcases P with⟨rfl,D,i⟩|⟨rfl,i⟩
 case' inl=>
  have E:=I7;go_upto_region 2 with fail;rw[<-D,<-i];clear D
 case' inr=>
  have E:=I8 d;go_upto_region 2 with fail;rw[<-i]
 all_goals
  clear L O i C E Q;obtain⟨K,N⟩:=p.out;go_upto_region 3 with fail;rw[<-A];clear A K N p;obtain⟨z,M⟩:=j.out _ m.out;obtain⟨g,F,B,l⟩:=u.out _ m.out;unfold xI at F;have t:=ai B;have r:=ai (j.out _ m.out);clear u j;go_region_held3 (λW=>W.cell? ⟨b,2,none⟩=some (.int .i64 c)/\W.cell? ⟨b,3,none⟩=some (.map (some d))) (first|exact r.out|exact t.out) (fail);clear F r B z M;have z:=t.out.1;go_upto_region 4 with fail
  go_region_held3 (λW=>W.cell? ⟨b,2,none⟩=some (.int .i64 c)) (first|exact s.out _ _ l.out (h.out _)|exact s.out _ _ l.out H.out|exact q.out.2) ((first
   | (go_at_call 24;refine(I.out _ _ l.out (h.out _)).mono ?_;rintro e U ⟨y0,y1,y2,ya,yl,yc,rfl,x⟩;have H:=ai ((h.out g).trans (x.out.1.mono (h.out g).size)))
   | (go_at_call 35;refine(J.out _ _ _ _ _ _ _ x.out.2).mono ?_;rintro e V ⟨rfl,q⟩)))
  go_wp2_with fail;exact dP (v:=.tuple #[]) (by simp[results]) rfl ⟨rfl,q.out.1⟩
section
variable {p:lT} {s:Sy} {d:fW} {w:World}
def Kc(M:Nat->Prop)(a:Nat)(d b:fW)(w w':World):Prop:=bf (λq=>d.ow q<0) w w'/\(∀q,q<w.heap.size->¬M q->b.ow q=d.ow q)/\(∀q,M q->1<=b.ow q)/\b.k=d.k/\b.es.length<=d.es.length+a/\b.wn<=d.wn+a/\b.bn<=d.bn+a
theorem nz{b:Type}(l:List (Int×b))(k j:Int)(v:b)(c:∀q∈l,q.1≠k):((l++ [(k,v)]).find? λq=>q.1==j)=if j=k then some (k,v)else l.find? λq=>q.1==j:=by
 rw[List.find?_append];by_cases a:j=k
 ·subst a;rw[if_pos rfl,nR.2 λq d=>by simpa using c q d];simp
 ·rw[if_neg a];have:(k==j)=false:=by simpa using λe:k=j=>a e.symm
  simp[this]
def Ku(d:fW)(M:Nat->Prop)[DecidablePred M](a:Nat)(k:Int)(q:Nat):Int:=if M q then k else if q=a then -5 else d.ow q
theorem aV.addG(e:aV p s d w){m c:Nat}{nm:ByteArray}{cs:Tc}{M:Nat->Prop}[DecidablePred M](B:P1 p.lo m nm p.room cs [] (d.k+201) M w)(A:∀q,M q->d.ow q=0)(aa:s.ps.length<12/\s.last<90){w':World}(f:bf (λq=>d.ow q=-5) w w')(P:d.ow c≠0->d.ow c=-5)(N:¬M c)(O:p.lo<=c/\c<w'.heap.size)(Q:c≠p.b)(o:w'.heap[p.b]?=some (.cells (dK p {s with last:=s.last+1} {d with po:=some c}) 73))(L:IM w' c (d.l++ [(s.last+1,m)])):aV p {s with last:=s.last+1,ps:=s.ps++ [(s.last+1,nm,cs,[])]} {d with ow:=Ku d M c (s.last+1),po:=some c,l:=d.l++ [(s.last+1,m)]} w':=by
 obtain⟨y,J,z,X,Y,Z⟩:=e.keys;have i:∀b,d.ow b≠0->Ku d M c (s.last+1) b=d.ow b:=λb h=>by
  unfold Ku;rw[if_neg λa=>h (A b a)];by_cases g:b=c
  ·subst g;rw[if_pos rfl,P h]
  ·rw[if_neg g]
 have r:∀b,Ku d M c (s.last+1) b≠0->p.lo<=b/\b<w'.heap.size:=λb h=>by
  unfold Ku at h;split at h
  ·rename_i a;have:=P1.lie2 B b a;exact⟨this.1,aL this.2 f.size⟩
  ·split at h
   ·rename_i a;subst a;exact O
   ·exact⟨(e.low b h).1,aL (e.low b h).2 f.size⟩
 have t:∀{t:Int},t≠ -5->∀b,d.ow b=t->¬d.ow b=-5:=λT b g a=>T (g.symm.trans a);have n:∀q∈s.ps,q.1≠s.last+1:=λq j=>by have:=(z q j).2;omega
 have R:∀q∈d.l,q.1≠s.last+1:=λq j=>by
  have K:q.1∈s.ps.map (·.1):=by rw[<-y];exact cC.2 ⟨q,j,rfl⟩
  obtain⟨v,u,g⟩:=cC.1 K;rw[<-g];exact n v u
 obtain⟨y1,y2,W⟩:=e.wyK f (t (by decide)) i (q:=xJ p {s with last:=s.last+1} {d with po:=some c}) rfl (o8 o).1;obtain⟨H,I⟩:=e.evK f (t (by decide)) i;refine⟨r,o,(i p.b (by rw[e.own];decide)).trans e.own,⟨e.pgK f (t (by decide)) i,e.pg.2⟩,af ⟨c,rfl,(if_neg N).trans (if_pos rfl),Q,L⟩,⟨by simp[y],?_,λq j=>?_,by show 0<=s.last+1;omega,by show s.last+1<=90;omega,by simp;omega⟩,λk b q=>?_,⟨y1,y2,e.wy.2.2.1,e.wy.2.2.2.1,W⟩,e.bdK f (t (by decide)) i rfl (o8 o).2,H,e.evt.1,I⟩
 ·simp only[ft,aH,bQ];refine eH.2 ⟨J,by simp,λab U ad V=>?_⟩;obtain⟨v,u,rfl⟩:=cC.1 U;rw[dj.1 V];exact n v u
 ·show 1<=q.1/\q.1<=s.last+1;rcases di.1 j with a|a
  ·have:=z q a;omega
  ·rw[dj.1 a];show 1<=s.last+1/\s.last+1<=s.last+1;omega
 ·have q:cE (d.l++ [(s.last+1,m)]) k=some b:=q;unfold cE at q;rw[nz _ _ _ _ R]at q;by_cases g:k=s.last+1
  ·subst g;rw[if_pos rfl]at q;obtain rfl:m=b:=by simpa using q
   refine⟨nm,cs,[],?_,(B.kept (S:=λq=>d.ow q=-5) ⟨f.os,f.tape,f.output,f.size,f.block⟩ λb a=>by rw[A b a];decide).mono (λb a=>if_pos a) (ag _) λb a=>r b (by have a:Ku d M c (s.last+1) b=s.last+1:=a;rw[a];omega),aD _⟩;unfold Sy.get;simp only;rw[nz _ _ _ _ n,if_pos rfl];rfl
  ·rw[if_neg g]at q;have C:cE d.l k=some b:=q;have:=(e.key C).1;obtain⟨D,E,F,x,G⟩:=e.psK f (ag _) (t (by omega)) i r C;refine⟨D,E,F,?_,G⟩;unfold Sy.get at x ⊢;simp only;rw[nz _ _ _ _ n,if_neg g];exact x
open Classical in
theorem aV.add(n:aV p s d w)(a:Int){z:Nat}{nm:ByteArray}{cs:Tc}{M:Nat->Prop}(I:P1 p.lo z nm p.room cs [] (d.k+201) M w)(Y:∀q,M q->d.ow q=0)(aU:s.ps.length<12/\s.last<90)(aj:d.k<=47000)(bc:d.es.length<=99000):Calls Tryz.prog 32 #[.pointer (some ⟨p.b,0,none⟩),.int .i64 a,.pointer (some ⟨z,0,none⟩)] w λe w'=>e=.returned (.tuple #[])/\Hid (∃C,aV p (s.add a nm cs) C w'/\Kc M 1 d C w w'):=by
 obtain⟨aT,an⟩:=n.lo;have N:=n.box;obtain⟨a7,a8,a9,az⟩:=n.cells;obtain⟨_,_,aH,ba,bb,_⟩:=n.keys;have ai:∀{h:World}{cs:Array Value}{o:Nat},h.heap[p.b]?=some (.cells cs 73)->h.frozen? ⟨p.b,o,none⟩=false:=λe=>by simp[World.frozen?,e]
 obtain⟨c,m,aW,J,aI,aP,O,aK,P,am⟩:∃c m,((d.po=none/\c=w.heap.size/\m=(w.setCell ⟨p.b,3,none⟩ (.map (some c))).alloc (.map #[] 0))\/(d.po=some c/\m=w))/\m.heap[p.b]?=some (.cells (dK p s {d with po:=some c}) 73)/\IM m c d.l/\bf (λq=>d.ow q=-5) w m/\(c<w.heap.size->d.ow c=-5)/\¬M c/\c≠p.b/\p.lo<=c/\c<m.heap.size:=by
  rcases n.pm with⟨A,u⟩|⟨c,A,u,H,aF⟩
  ·have aN:(w.setCell ⟨p.b,3,none⟩ (.map (some w.heap.size))).heap[p.b]?=some (.cells (dK p s {d with po:=some w.heap.size}) 73):=by
     simp[World.setCell,bJ,N,dK]
   have R:(w.setCell ⟨p.b,3,none⟩ (.map (some w.heap.size))).heap.size=w.heap.size:=by simp[World.setCell]
   have aj:bf (λq=>d.ow q=-5) w ((w.setCell ⟨p.b,3,none⟩ (.map (some w.heap.size))).alloc (.map #[] 0)):=((bH w p.b 3 _).mono λq _ e=>by rw[e];exact n.own).trans (aC ((ah _ _).alloc (ag _) _) λ_=>False) λ_ _ e=>e.elim;refine⟨w.heap.size,_,ae ⟨A,rfl,rfl⟩,(heap_alloc_old _ _ (by rw[R];exact an)).trans aN,?_,aj,λg=>by omega,λg=>?_,by omega,aT,?_⟩
   ·rw[u];have:=qk.new (f:=xI) (w.setCell ⟨p.b,3,none⟩ (.map (some w.heap.size)));rw[R]at this;exact this
   ·have:=(P1.lie2 I _ g).2;omega
   ·have:=ax (w.setCell ⟨p.b,3,none⟩ (.map (some w.heap.size))) (.map #[] 0);rw[R]at this;exact(aE.1 this).1
  ·refine⟨c,w,af ⟨A,rfl⟩,?_,aF,bf.refl _ _,λ_=>u,λg=>?_,H,n.low c (by rw[u];decide)⟩
   ·rw[N];unfold dK;rw[A]
   ·have:=Y c g;rw[u]at this;cases this
 obtain⟨y,F⟩:∃y,y=m.setCell ⟨p.b,2,none⟩ (.int .i64 (s.last+1)):=⟨_,rfl⟩;have K:y.heap[p.b]?=some (.cells (dK p {s with last:=s.last+1} {d with po:=some c}) 73):=by
  rw[F];simp[World.setCell,bJ,J,dK]
 have bg:y.heap.size=m.heap.size:=by rw[F];simp[World.setCell]
 have ak:bf (λq=>q=p.b) m y:=by rw[F];exact bH m p.b 2 _
 have aQ:bf (λq=>d.ow q=-5) w y:=aP.trans ak λq _ e=>by rw[e];exact n.own
 have aJ:IM y c d.l:=aI.kept (ak.block c am.2 P);obtain⟨B,E⟩:∃B:Sy,B={s with last:=s.last+1,ps:=s.ps++ [(s.last+1,nm,cs,[])]}:=⟨_,rfl⟩;obtain⟨t,v⟩:∃t:fW,t={d with ow:=Ku d M c (s.last+1),po:=some c,l:=d.l++ [(s.last+1,z)]}:=⟨_,rfl⟩;have Q:cE d.l (s.last+1)=none:=by
  cases e:cE d.l (s.last+1)with
  | none=>rfl
  | some b=>have:=(n.key e).2;omega
 have aO:cE t.l (s.last+1)=some z:=by
  rw[v];show cE (d.l++ [(s.last+1,z)]) (s.last+1)=_;unfold cE at Q ⊢;rw[List.find?_append,Option.map_eq_none_iff.1 Q];simp
 have aS:B.last=s.last+1:=by rw[E]
 refine Ek p.b z c d.po a s.last (s.last+1) w m y (λy0 y1 y2 ya yl yc h=>∃i:Tc,(i.1=(y0,y1,y2)/\i.2.1=(ya,yc)/\i.2.2.length=yl)/\In h.heap.size h 13 i/\bA 13 i=0/\cn 13 i=cs/\aV p B t h/\bf (λq=>d.ow q=-5) w h) (λh=>aV p B t h/\bf (λq=>d.ow q=-5) w h) (λw'=>∃C,aV p (s.add a nm cs) C w'/\Kc M 1 d C w w') (by rw[IntKind.wrap];simp[IntKind.bits,IntKind.signed];omega) an ⟨az,ai N⟩ aW ⟨ab J 2,ai J⟩ F (λh j=>?_) (λh j=>?_) (λh ay D j=>?_) (λh ay D j=>?_) (λy0 y1 y2 ya yl yc h aM=>?_)
 ·have aa:=fF j K;exact⟨ab aa 2,ab aa 3⟩
 ·obtain⟨T,a1,a2,aq,bi⟩:=(qk.put (aJ.kept (j.block c (by omega))) Tryz.underlying64 Q z);have L:T.heap[p.b]?=_:=(aq.block p.b (aL (aE.1 K).1 j.size) P.symm).trans (fF j K);have al:bf (λq=>d.ow q=-5) w T:=by
   have aR:bf (λq=>d.ow q=-5) w h:=aQ.trans (aC j λ_=>False) λ_ _ e=>e.elim;exact aR.trans aq λq r e=>by rw[e]at r ⊢;exact O r
  refine⟨T,a1,⟨ab L 2,ab L 3⟩,?_,al⟩;rw[E,v];exact n.addG I Y aU al (λg=>O (n.low _ g).2) aK ⟨am.1,by have:=j.size;omega⟩ P L a2
 ·have:=(D.1.later j).cells.2.2.1;rw[aS]at this;exact this
 ·have Z:=D.1.later j;obtain⟨a0,aB,aA,x,S,bh⟩:=Z.ps _ _ aO;have e:B.get (s.last+1)=some (nm,cs,[]):=by
   rw[E];unfold Sy.get;simp only;rw[nz _ _ _ _ λq r=>by have:=(aH q r).2;omega,if_pos rfl];rfl
  rw[e]at x;obtain⟨rfl,rfl,rfl⟩:nm=a0/\cs=aB/\[]=aA:=by
   injection x with x;injection x with A u;injection u with u H;exact⟨A,u,H⟩
  have be:t.k=d.k:=by rw[v]
  refine(S.state (by omega)).mono ?_;rintro e w' ⟨i,rfl,G⟩;obtain⟨y1,y2,bj,a5,a6⟩:=G.out;exact⟨i.1.1,i.1.2.1,i.1.2.2,i.2.1.1,i.2.2.length,i.2.1.2,rfl,y1,i,⟨rfl,rfl,rfl⟩,y2,a5,a6,Z.later y1,(D.2.trans (aC j λ_=>False) λ_ _ e=>e.elim).trans (aC y1 λ_=>False) λ_ _ e=>e.elim⟩
 ·obtain⟨i,⟨U,V,aG⟩,aX,aY,aZ,ao,ap⟩:=aM;obtain⟨⟨bk,bl,bm⟩,⟨bn,bo⟩,bp⟩:=i;simp only[gN]at U V;obtain⟨rfl,rfl,rfl⟩:=U;obtain⟨rfl,rfl⟩:=V;subst aG;have ad:t.es=d.es:=by rw[v]
  refine(ao.tell fM a (s.last+1) _ _ _ _ _ _ _ (jC aX aY) (by rw[ad];omega)).mono ?_;rintro e w' ⟨rfl,G⟩;obtain⟨aD,x,S⟩:=G.out.up ao;rw[aZ,E]at x;refine⟨rfl,⟨aD,x,?_⟩,?_⟩
  ·obtain⟨a3,ar,a4,au,av,aw⟩:=S;have W:∀q,q<w.heap.size->¬M q->t.ow q=d.ow q:=λq r g=>by
    rw[v];refine(if_neg g).trans ?_;by_cases e:q=c
    ·rw[if_pos e,e];exact(O (e▸r)).symm
    ·exact if_neg e
   have X:∀q,M q->t.ow q=s.last+1:=λq g=>by
    rw[v];exact if_pos g
   have bd:=ap.size;refine⟨(ap.mono λq _ e=>by rw[e];decide).trans a3 λq r e=>?_,λq r g=>(ar q (by omega)).trans (W q r g),λq g=>?_,by rw[a4,v],by rw[ad]at au;exact au,by rw[v]at av;exact av,by rw[v]at aw;exact aw⟩
   ·by_cases g:M q
    ·rw[X q g]at e;omega
    ·rw[W q r g]at e;exact e
   ·have:=(P1.lie2 I q g).2;rw[ar q (by omega),X q g];omega
  ·have:=x.cells.2.2.1;exact this
end
theorem BP(c:Nat)(nm:ByteArray)(f g:Int)(h:ByteArray)(xa:Option Addr)(i xc:Nat)(room ne t:Int)(may o:Bool)(w:World)(E:Nat->World->Prop)(R:Int->Int->World->Prop)(af:c<w.heap.size)(T:Hid (w.cell? ⟨c,1,none⟩=some (.int .i64 room)))(K:Hid (∀W,Below w.heap.size w W->Calls Tryz.prog 29 #[.pointer (some ⟨c,0,none⟩),.int .i64 1] W λe w'=>e=.returned (.bool may)/\w'=W))(B:Hid (∀W,Below w.heap.size w W->Calls Tryz.prog 30 #[.pointer (some ⟨c,0,none⟩),.string nm] W λe w'=>e=.returned (.bool o)/\Below W.heap.size W w'))(r:Hid (∀W,Below w.heap.size w W->Calls Tryz.prog 31 #[.string nm,.agg #[.int .i64 f,.int .i64 g,.string h,.slice xa i xc],.int .i64 room] W λe w'=>∃p:Option Addr,e=.returned (.tuple #[.pointer p,.int .i64 ne])/\Hid (Below W.heap.size W w'/\(ne=0->∃b,p=some ⟨b,0,none⟩/\E b w'))))(l:Hid (∀b W,(may && o)=true->ne=0->E b W->Calls Tryz.prog 32 #[.pointer (some ⟨c,0,none⟩),.int .i64 0,.pointer (some ⟨b,0,none⟩)] W λe w'=>e=.returned (.tuple #[])/\Hid (R t 0 w'/\w'.cell? ⟨c,2,none⟩=some (.int .i64 t))))(j:Hid (∀W,Below w.heap.size w W->(may=false->R 0 2 W)/\((may && !o)=true->R 0 4 W)/\((may && o)=true->ne≠0->R 0 ne W))):Calls Tryz.prog 12 #[.pointer (some ⟨c,0,none⟩),.string nm,.agg #[.int .i64 f,.int .i64 g,.string h,.slice xa i xc]] w λe w'=>∃v u,e=.returned (.tuple #[.int .i64 v,.int .i64 u])/\Hid (R v u w'):=by
 go_enter Tryz.func12,Tryz.ntmps12;go_upto_region 1 with fail;generalize P:w.alloc _=I;have y:Hid (Below w.heap.size w I/\I.heap[w.heap.size]?=some (.cells #[.int .i64 f,.int .i64 g,.string h,.slice xa i xc] 30)):=by
  rw[<-P];exact⟨(ah _ _).alloc (ag _) _,ax _ _⟩
 clear P;obtain⟨a,G⟩:∃a,a=w.heap.size:=⟨_,rfl⟩;rw[<-G];have L:Hid (I.heap[a]?=some (.cells #[.int .i64 f,.int .i64 g,.string h,.slice xa i xc] 30)):=by rw[G];exact y.out.2
 have HB:=ai y.out.1;clear G y;go_wp2_with fail;refine(K.out _ HB.out).mono ?_;rintro e am ⟨rfl,Q⟩;obtain rfl:=Q.symm;clear Q K;cases may
 ·have d:=ai ((j.out _ HB.out).1 rfl);clear l j r B;go_wp2_with fail;exact ao (v:=.tuple #[.int .i64 0,.int .i64 2]) (by simp[results,Tryz.results12,go_sem]) rfl ⟨0,2,rfl,d.out⟩
 go_wp2_with fail;refine(B.out _ HB.out).mono ?_;rintro e x ⟨rfl,F⟩;have m:=ai (HB.out.trans (F.mono HB.out.size));have C:=ai (fF F L.out);clear B L HB F;cases o
 ·have d:=ai ((j.out _ m.out).2.1 rfl);clear l j r;go_wp2_with fail;exact ao (v:=.tuple #[.int .i64 0,.int .i64 4]) (by simp[results,Tryz.results12,go_sem]) rfl ⟨0,4,rfl,d.out⟩
 have A:Hid (Below x.heap.size x x.drew):=(ah _ _).drew;have n:=ai (m.out.trans (A.out.mono m.out.size));have D:=ai (fF A.out C.out);have q:Hid (∀W:World,Below w.heap.size w W->W.heap[a]?=some (.cells #[.int .i64 f,.int .i64 g,.string h,.slice xa i xc] 30)->W.cell? ⟨c,1,none⟩=some (.int .i64 room)/\W.cell? ⟨a,0,none⟩=some (.int .i64 f)/\W.cell? ⟨a,1,none⟩=some (.int .i64 g)/\W.cell? ⟨a,2,none⟩=some (.string h)/\W.cell? ⟨a,3,none⟩=some (.slice xa i xc)):=λW ae s=>⟨(ae.cell (p:=⟨c,1,none⟩) af).trans T.out,ab s 0,ab s 1,ab s 2,ab s 3⟩;obtain⟨Z,V,X,O,Y⟩:=q.out x m.out C.out;go_upto_region 5 with fail
 go_region_held3 (λW=>W.cell? ⟨c,1,none⟩=some (.int .i64 room)/\W.cell? ⟨a,0,none⟩=some (.int .i64 f)/\W.cell? ⟨a,1,none⟩=some (.int .i64 g)/\W.cell? ⟨a,2,none⟩=some (.string h)/\W.cell? ⟨a,3,none⟩=some (.slice xa i xc))
  (first|exact q.out _ n.out D.out|exact q.out _ z.out M.out) ((first
   | (go_at_call 31;refine(r.out _ n.out).mono ?_;rintro e ak ⟨aj,rfl,k⟩;have M:=ai (fF k.out.1 D.out);have z:=ai (n.out.trans (k.out.1.mono n.out.size)))))
 have d:=ai (j.out _ z.out);clear Z V X O Y q D n A C m j r M z;by_cases H:ne=0
 ·subst H;obtain⟨b,rfl,N⟩:∃b,aj=some ⟨b,0,none⟩/\Hid (E b ak):=by
   obtain⟨b,aa,ad⟩:=k.out.2 rfl;exact⟨b,aa,ad⟩
  have S:=ai (l.out _ _ rfl rfl N.out);clear l N k d;go_wp2_with fail;refine S.out.mono ?_;rintro e an ⟨rfl,J⟩;have O:=J.out.2;go_wp2_with fail;exact ao (v:=.tuple #[.int .i64 t,.int .i64 0]) (by simp[results,Tryz.results12,go_sem]) rfl ⟨t,0,rfl,J.out.1⟩
 ·have U:=ai (d.out.2.2 rfl H);have al:(ne==0)=false:=by simpa using H
  clear l k d;go_wp2_with fail;exact ao (v:=.tuple #[.int .i64 0,.int .i64 ne]) (by simp[results,Tryz.results12,go_sem]) rfl ⟨0,ne,rfl,U.out⟩
section
variable {p:lT} {s:Sy} {d:fW} {w:World}
theorem Ga{n:Nat}(a:s.may n=true):s.ps.length+n<=12/\s.last+n<=90:=by
 unfold Sy.may at a;simp only[az,bN]at a;omega
theorem aV.start(j:aV p s d w)(nm:ByteArray)(O:nm.size<=9223372036854775807){m:Nat}(x:Tm (m+1))(P:In w.heap.size w (m+1) x)(K:(aq (m+1) x).length<=2097152)(M:d.k<=47000)(J:d.es.length<=99000):Calls Tryz.prog 12 #[.pointer (some ⟨p.b,0,none⟩),.string nm,dg (m+1) x] w λe w'=>∃v u,e=.returned (.tuple #[.int .i64 v,.int .i64 u])/\Hid ((u=(s.start p.n p.prog p.room nm (m+1) x).2/\(u=0->v=s.last+1))/\∃i,aV p (s.start p.n p.prog p.room nm (m+1) x).1 i w'/\fe 1 0 d i w w'):=by
 obtain⟨q,f⟩:∃q,q=s.start p.n p.prog p.room nm (m+1) x:=⟨_,rfl⟩;rw[<-f];unfold Sy.start at f;have B:∀a,Below w.heap.size w a->q.1=s->∃i,aV p q.1 i a/\fe 1 0 d i w a:=λa c e=>⟨d,by rw[e];exact j.later c,(dE.later d c).un.mono (aD _) (ag _)⟩;refine BP p.b nm x.1.1 x.1.2.1 x.1.2.2 x.2.1.1 x.2.2.length x.2.1.2 p.room (eZ (m+1) x p.room nm) (s.last+1) (s.may 1) (mR p.n p.prog nm) w (λy a=>∃r,Below w.heap.size w r/\Below r.heap.size r a/\P1 p.lo y nm p.room (cn (m+1) x) [] (d.k+201) (λb=>r.heap.size<=b/\b<a.heap.size) a) (λv u w'=>(u=q.2/\(u=0->v=s.last+1))/\∃i,aV p q.1 i w'/\fe 1 0 d i w w') j.lo.2 j.cells.2.1 (λa c=>(j.later c).mayHave 1 (by decide)) (λa c=>(j.later c).knows nm) (λa c=>?_) (λy a l t L=>?_) λa c=>⟨λe=>?_,λe=>?_,λe t=>?_⟩
 ·refine(P1.new m x p.room nm a O ((P.below c).mono c.size) K).mono ?_;rintro e w' ⟨g,rfl,z⟩;obtain⟨o,E,C⟩:=z.out;refine⟨g,rfl,o,λe=>?_⟩;obtain⟨y,l,t,V,G⟩:=C e;have:=j.lo.1;have:=c.size;exact⟨y,l,a,c,o,G.mono (λb h=>h) (by omega) λb h=>⟨by omega,h.2⟩⟩
 ·simp only[az]at l;rw[if_neg (by rw[l.1];decide),if_neg (by rw[l.2];decide),if_neg (by rw[t];decide)]at f;obtain⟨r,o,E,C⟩:=L;have A:=o.trans (E.mono o.size);have I:=j.later A;have Z:=o.size;have W:=Ga l.1;refine(I.add 0 C (λg h=>?_) (by omega) M J).mono ?_
  ·have:=j.low g;by_cases F:d.ow g=0
   ·exact F
   ·have:=(this F).2;omega
  ·rintro e w' ⟨rfl,z⟩;obtain⟨i,D,H⟩:=z.out;refine⟨rfl,⟨⟨by rw[f],λ_=>rfl⟩,i,by rw[f];exact D,?_⟩,D.cells.2.2.1⟩;obtain⟨Q,R,aa,S,U⟩:=H;have N:bf (λg=>d.ow g≠0) w a:=aC A _;have Y:=A.size;exact⟨N.trans (Q.mono (T:=λg=>d.ow g≠0) λg _ e=>by omega) λg _ e=>e,λg X=>R g (by omega) λh=>by omega,dp S,U⟩
 ·rw[if_pos e]at f;exact⟨⟨by rw[f],(λh=>by cases h)⟩,B a c (by rw[f])⟩
 ·simp only[az,nO]at e;rw[if_neg (by rw[e.1];decide),if_pos e.2]at f;exact⟨⟨by rw[f],(λh=>by cases h)⟩,B a c (by rw[f])⟩
 ·simp only[az]at e;rw[if_neg (by rw[e.1];decide),if_neg (by rw[e.2];decide),if_pos t]at f;exact⟨⟨by rw[f],λh=>absurd h t⟩,B a c (by rw[f])⟩
end
end Go.Proofs.YtnidfceinoiboaaGreat
