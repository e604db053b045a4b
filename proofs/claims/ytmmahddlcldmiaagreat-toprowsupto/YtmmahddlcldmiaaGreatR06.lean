/- Proved here: plain facts and contracts. No condition but what each names. -/
import Derived.Test.YtmmahddlcldmiaaGreatR05
import Derived.Deep.MidRow
namespace Go.Proofs.YtmmahddlcldmiaaGreat
open Go.RowKit Go.Proofs.Tryz
set_option maxHeartbeats 4000000
set_option maxRecDepth 100000
theorem kA.front{N:Nat}{ws:List Wd}{nm:br}{room:Int}{g t:List Wd}{e f:List (Tm N)}(m:kA N ws nm room (g++t) (e++f))(n:g.length=e.length):kA N ws nm room g e:=by
 obtain⟨i,d,j,k,p,q,r,s⟩:=m;refine⟨⟨n,λo u b h c=>i.2 o u b ?_ ?_⟩,?_,λb c=>j b (List.mem_append_left _ c),?_,p,q,r,s⟩
 ·rw[dB (aZ.1 h).1];exact h
 ·rw[dB (aZ.1 c).1];exact c
 ·rw[lk]at d;exact(fM.1 d).1
 ·rw[gV,List.sum_append]at k;have w:(0:Int)<=(f.map (sz N)).sum:=by
   clear i d k
   induction f with
   | nil=>simp
   | cons b l ih=>
    have x:=ih λv a=>j v (by simp only[de,cY]at a ⊢;rcases a with a|a<;>simp[a]);have y:=(ft N b).1;simp only[aV,bR];omega
  omega
theorem Gn{N:Nat}:(l:List (Tm N))->(l.map λy=>1+sz N y).sum=l.length+(l.map (sz N)).sum
 | []=>by simp
 | y::l=>by
  have a:=Gn l;simp only[aV,bR,bA,a];omega
theorem yv{N:Nat}:(l:List (Tm N))->(∀y∈l,aJ ⟨N,y⟩)->((l.flatMap λy=>aC N y).length:Int)<=(l.map λy=>1+sz N y).sum
 | [],_=>by simp
 | y::l,h=>by
  have c:=yv l λb a=>h b (by simp[a]);have d:=wh N y (h y (by simp));simp only[bP,bz,aV,bR];omega
theorem kA.roots{N:Nat}{ws:List Wd}{nm:br}{room:Int}{d:List Wd}{a:List (Tm N)}(h:kA N ws nm room d a)(i:d.length<=1000):Fx ws nm N d a:=by
 obtain⟨f,m,g,n,o,p,q,r⟩:=h;have e:∀b∈a,aJ ⟨N,b⟩:=λb c=>ph (g b c).1;have j:=Gn a;have k:=yv a e;have l:=f.1;exact⟨f,e,λb c=>(g b c).2,by omega,by omega,i⟩
theorem EB{base n c:Nat}{a:ar}{vs:List Wd}{w:ag}(e:w.ownsRow base 109 2 (ae a n c) n (bq vs))(s:0<n):fk w vs a/\∀b o,a=some ⟨b,o,none⟩->b<w.heap.size:=by
 rcases e.2 with⟨d,q⟩|⟨h,cap,p,d,t,i,_⟩
 ·omega
 ·injection d with f r g;subst f g;have j:=(aI.1 i).1;refine⟨ak ⟨h,0,rfl,j,λl m k=>?_⟩,λb o d=>?_⟩
  ·have:=jz e l m k;rw[cT];exact this
  ·injection d with d;injection d with d;omega
section
variable {base pb:Nat} {name:aq} {room:Int} {N:Nat} {s:Tm (N+1)} {ms:List (Tm (N+1))} {xs:List (Wd×Tm (N+1))} {nk:Nat} {M:aO} {w:ag} {ws:List Wd} {nm:br} {sv:Wd} {vs:List Wd} {ma:ar} {mc:Nat} {Mh:aO}
theorem cV.front(a:cV base pb name room (N+1) s ms xs nk M w ws nm sv vs ma mc Mh):kA (N+1) ws nm room (sv::vs) (s::ms):=
 kA.front a.has (by simp[a.len])
theorem Fk{w:ag}{pb:Nat}{c0 a b c d e f g:au}{t:TypeId}(sv:Wd)(mv:au)(h:w.heap[pb]?=some (.cells #[c0,a,b,c,d,e,f,g] t)):(Dd w pb sv mv).heap[pb]?=some (.cells #[c0,a,b,c,d,ab sv.1,ab sv.2,mv] t):=by
 unfold Dd World.setCell;simp[bT,h]
theorem Jp(w:ag)(pb:Nat)(sv:Wd)(mv:au):ch (λb=>b=pb) w (Dd w pb sv mv).drew:=by
 have c:=bF w pb 5 (ab sv.1);have d:=bF (w.setCell ⟨pb,5,none⟩ (ab sv.1)) pb (5+1) (ab sv.2);have e:=bF ((w.setCell ⟨pb,5,none⟩ (ab sv.1)).setCell ⟨pb,5+1,none⟩ (ab sv.2)) pb 7 mv;have a:=(c.trans d λ_ _ k=>k).trans e λ_ _ k=>k;exact⟨a.os,a.tape,a.output,a.size,a.block⟩
def ME(base pb:Nat)(name:aq)(room:Int)(N:Nat)(s:Tm N)(ms:List (Tm N))(nk:Nat)(M:aO)(nm:br)(w:ag)(e:Ending)(w':ag):Prop:=
 e=.returned (.tuple #[])/\∃c g a f d,cV base pb name room N s ms [] nk (λb=>M b\/w.heap.size<=b) w' c nm g a f a.length d/\Hid (ch M w w'/\(c.length:Int)=((s::ms).map (sz N)).sum)
theorem cV.tidy(e:cV base pb name room (N+1) s ms xs nk M w ws nm sv vs ma mc Mh)(aG:nk<=50000)(aA:ms.length<=999)(aB:base<=w.heap.size):ao 23 #[aH pb] w (ME base pb name room (N+1) s ms nk M nm w):=by
 have C:=e.front;have aE:=e.len;have ah:=e.names;have am:=C.roots (by simp only[bA];omega);obtain⟨L,ap,v⟩:=C.tidied;obtain⟨q,j,B⟩:∃q j,(kj ws (N+1) (sv::vs)).1=q::j:=by
  cases u:(kj ws (N+1) (sv::vs)).1 with
  | nil=>rw[u]at v;simp at v
  | cons n l=>exact⟨n,l,rfl⟩
 rw[B]at L v;simp only[bA]at v;have I:j.length=vs.length:=by omega
 obtain⟨_,_,_,_,aK,_,aL,_⟩:=C;refine(Ja pb sv vs vs.length ma mc w (λa m g r=>m=q/\zj base (PL pb name sv (ae ma vs.length mc)) room (kj ws (N+1) (sv::vs)) nm Mh a g r) rfl (by omega) ?_ ?_ ?_).mono ?_
 ·intro g f;obtain⟨R,P,ar,z,_⟩:=(e.later f).heap.box;obtain⟨_,U,V,W,_⟩:=PL.cells z;exact⟨U,V,W⟩
 ·intro g f;exact(e.later f).mail.words
 ·intro g f n c ai;have an:=f.size;obtain⟨ad,ag⟩:=EB ai (by omega);have af:(sv::vs).length=1+vs.length:=by simp only[bA];omega
  have t:=zX (N+1) (s::ms) (sv::vs) n c base (PL pb name sv (ae ma vs.length mc)) room ws nm Mh g (e.later f).heap am ad ag (by omega) (by omega) (by omega);rw[af]at t;refine t.mono ?_;rintro d r ⟨a,rfl,G⟩;have T:=G.out;obtain⟨E,Q,F,av,aw,x⟩:=T;obtain⟨R,P,ar,z,_⟩:=E.box;obtain⟨_,d5,d6,d7,d8,d9⟩:=PL.cells z;obtain⟨ax,aq,au,A,_⟩:=(e.later f).heap.box;have al:pb<g.heap.size:=(PL.cells A).2.2.2.2.2;refine⟨a,q,rfl,⟨?_,by omega,⟨_,_,_,d5,d6,d7⟩,d8,rfl,G⟩⟩;rw[B]at F;rcases F with d|⟨b,o,d,aC,aa⟩
  ·cases d
  ·injection d with d;injection d with k p;subst k p;have:=aa 0 q rfl;simpa using this
 ·rintro d aM ⟨rfl,a,m,g,r,rfl,S⟩;obtain⟨f,rfl,E,Q,F,av,aw,len,x⟩:=S;have an:=f.size;obtain⟨ax,aq,au,A,_⟩:=(e.later f).heap.box;have al:pb<g.heap.size:=(PL.cells A).2.2.2.2.2;have Y:Mh pb:=by
   obtain⟨_,_,_,_,_,_,i,_⟩:=e.heap;exact i
  have D:=Jp r pb m (ae (vX a vs.length) vs.length vs.length);rw[B]at x;have ab:¬a=pb:=by omega
  refine⟨rfl,(kj ws (N+1) (sv::vs)).2.1,m,j,vX a vs.length,λb=>(Mh b\/g.heap.size<=b)/\b≠a,⟨?_,?_,?_,by omega,ah,?_,?_⟩,?_⟩
  ·rw[I];exact E.turn D λR P mp t=>Fk m _ t
  ·rw[I];rcases x.2 with⟨d,ay⟩|⟨az,cap,y,d,_,u,aD,aF,aJ,O⟩
   ·cases d
   ·injection d with k p X;injection k with k;injection k with k;subst k X;have J:(Dd r pb m (ae (vX a vs.length) vs.length vs.length)).drew.heap[a]?=some (.cells y 109 (0,0)):=(D.block a (aI.1 u).1 ab).trans u;have K:=x.1;rw[cP]at K;simp only[bA]at K;refine ak ?_;by_cases H:vs.length=0
    ·refine⟨a,0,y,by simp[vX,H],by simp,J,by omega,by unfold maxLen;omega,by omega,?_⟩;have:j=[]:=List.length_eq_zero_iff.1 (by omega);simp[this,bq]
    ·refine⟨a,2,y,by simp[vX,H],by simp,J,by omega,by omega,by omega,?_⟩;have d:len*2=2+j.length*2:=by omega
     rw[d]at O;have p:=congrArg (List.drop 2) O;rw[List.drop_take,show 2+j.length*2-2=j.length*2 from by omega]at p;exact p
  ·simpa using L
  ·intro b Z;rcases Z.1 with i|i
   ·exact aj (e.inM b i)
   ·exact ak (by omega)
  ·intro n h;have:n.block=a:=by
    unfold vX at h;split at h
    ·injection h with h;rw[<-h]
    ·injection h with h;rw[<-h]
   exact ak (by omega)
  ·refine⟨?_,ap⟩;refine ch.trans ((bu f M).trans (Q.mono e.inM) λ_ _ i=>i) D λb _ i=>?_;rw[i];exact e.inM pb Y
end
def Up(n:Nat)(w0 w1:ag):Prop:=w0.heap.size<=w1.heap.size/\∀b,n<=b->b<n+3->b<w0.heap.size->w1.heap[b]?=w0.heap[b]?
theorem wM(w:ag){b q:Nat}(c:b≠q)(o:Nat)(v:au):(w.setCell ⟨q,o,none⟩ v).heap[b]?=w.heap[b]? :=by
 have d:¬q=b:=λa=>c a.symm;simp[World.setCell,bT,d]
def wC(w:ag)(g:Nat)(a b:au):ag:=(w.setCell ⟨g,0,none⟩ a).setCell ⟨g,0+1,none⟩ b
theorem lV{w:ag}{g b:Nat}(a:b≠g)(x y:au):(wC w g x y).heap[b]?=w.heap[b]? :=(wM _ a _ _).trans (wM _ a _ _)
theorem IN(w:ag)(g:Nat)(x y:au):(wC w g x y).heap.size=w.heap.size:=by simp[wC,World.setCell]
theorem Cv(al:Nat)(k i:Int)(t:aq)(h:ar)(l j:Nat)(w:ag)(O:Wd->Int->ag->bt)(an:ag->bt)(aJ:Wd->Int->ag->bt)(aL:Hid (∀w0,am w w0->ao 73 #[.pointer (some ⟨al,1,none⟩),.agg #[ab k,ab i,af t,ae h l j]] w0 λe w1=>∃(v:Wd)(g:Int),e=.returned (.tuple #[.agg #[ab v.1,ab v.2],ab g])/\Hid (Up w.heap.size w0 w1/\O v g w0 w1)))(aN:Hid (∀v1 w0 w1 w2,am w w0->O v1 6 w0 w1->ch (λb=>w.heap.size<=b/\b<w0.heap.size) w1 w2->w.heap.size+3<=w2.heap.size->ao 23 #[aH al] w2 λe d=>e=.returned (.tuple #[])/\Hid (Up w.heap.size w2 d/\an w2 d)))(aM:Hid (∀w2 d N,an w2 d->w.heap.size+3<=w2.heap.size->am d N->ao 73 #[.pointer (some ⟨al,1,none⟩),.agg #[ab k,ab i,af t,ae h l j]] N λe w4=>∃(v:Wd)(g:Int),e=.returned (.tuple #[.agg #[ab v.1,ab v.2],ab g])/\Hid (Up w.heap.size N w4/\aJ v g N w4))):ao 123 #[aH al,.agg #[ab k,ab i,af t,ae h l j]] w λe w'=>∃(v:Wd)(g:Int),e=.returned (.tuple #[.agg #[ab v.1,ab v.2],ab g])/\ ((g≠6/\∃w0 w1,am w w0/\O v g w0 w1/\ch (λb=>w.heap.size<=b/\b<w0.heap.size) w1 w')\/∃v1 w0 w1 w2 d N w4,am w w0/\O v1 6 w0 w1/\ch (λb=>w.heap.size<=b/\b<w0.heap.size) w1 w2/\w.heap.size+3<=w2.heap.size/\an w2 d/\am d N/\aJ v g N w4/\ch (λb=>b=w.heap.size+1) w4 w'):=by
 go_enter func123,ntmps123;go_wp2_with fail;have R:=ap (kK w (.cells #[ab k,ab i,af t,ae h l j] 31) (.cells #[ab 0,ab 0] 109));have m:Hid (am w ((w.alloc (.cells #[ab k,ab i,af t,ae h l j] 31)).alloc (.cells #[ab 0,ab 0] 109))/\((w.alloc (.cells #[ab k,ab i,af t,ae h l j] 31)).alloc (.cells #[ab 0,ab 0] 109)).heap.size=w.heap.size+1+1):=⟨by go_grown,by simp⟩;generalize aO:(w.alloc _).alloc _=c;rw[aO]at R m;clear aO;have F:Hid (∀w':ag,w'.heap[w.heap.size]?=c.heap[w.heap.size]? ->ai w' w.heap.size 0 (ab k)/\ai w' w.heap.size 1 (ab i)/\ai w' w.heap.size 2 (af t)/\ai w' w.heap.size 3 (ae h l j)):=λw' T=>by
  have f:=T.trans R.1;exact⟨ax f 0,ax f 1,ax f 2,ax f 3⟩
 obtain⟨aU,aV,aW,aY⟩:=F.out c rfl;have u:Hid (am c c.drew/\c.drew.heap[w.heap.size]?=c.heap[w.heap.size]?):=⟨(aA _ _).drew,rfl⟩;have Q:Hid (am c (c.alloc (.cells #[ab 0,ab 0] 109)).drew/\(c.alloc (.cells #[ab 0,ab 0] 109)).drew.heap[w.heap.size]?=c.heap[w.heap.size]?):=by
  have T:am c (c.alloc (.cells #[ab 0,ab 0] 109)).drew:=by go_grown
  exact⟨T,T.block _ (by have:=m.2;omega)⟩
 have aB:Hid ((c.alloc (.cells #[ab 0,ab 0] 109)).drew.heap[c.heap.size]?=some (.cells #[ab 0,ab 0] 109)/\(c.alloc (.cells #[ab 0,ab 0] 109)).drew.heap.size=c.heap.size+1):=⟨rX c _ rfl,by simp⟩
 go_region_held3 (λw'=>w'.cell? ⟨w.heap.size,0,none⟩=some (ab k)/\w'.cell? ⟨w.heap.size,1,none⟩=some (ab i)/\w'.cell? ⟨w.heap.size,2,none⟩=some (af t)/\w'.cell? ⟨w.heap.size,3,none⟩=some (ae h l j)) (first|(go_keep;done)|with_reducible exact F _ u.2|with_reducible exact F _ Q.2|exact F _ P|exact F _ (ad _)|exact F _ (aw _ _)|exact F _ (aK _ _ _))
  ((first
   | (go_at_call 73;refine(aL _ (m.1.trans (u.1.mono m.1.size))).mono ?_;rintro e w1 ⟨v,g,rfl,p⟩;have P:Hid (w1.heap[w.heap.size]?=c.heap[w.heap.size]?):=(p.1.2 _ (av _) (by omega) (by have f:=u.1.size;have s:=m.2;omega)).trans u.2;have ad:Hid (∀o:Obj,(w1.alloc o).heap[w.heap.size]?=c.heap[w.heap.size]?):=λo=>(ie w1 o (by have f:=p.1.1;have s:=u.1.size;have ah:=m.2;omega)).trans P;have aK:Hid (∀(o:Obj)(n b:au),(wC (w1.alloc o) w1.heap.size n b).heap[w.heap.size]?=c.heap[w.heap.size]?):=λo n b=>(lV (by have f:=p.1.1;have s:=u.1.size;have ah:=m.2;omega) n b).trans (ad o))
   | (go_at_call 73;refine(aL _ (m.1.trans (Q.1.mono m.1.size))).mono ?_;rintro e w1 ⟨v,g,rfl,p⟩;have P:Hid (w1.heap[w.heap.size]?=c.heap[w.heap.size]?):=(p.1.2 _ (av _) (by omega) (by have f:=Q.1.size;have s:=m.2;omega)).trans Q.2;have X:Hid (w1.heap[c.heap.size]?=some (.cells #[ab 0,ab 0] 109)):=(p.1.2 c.heap.size (by have s:=m.2;omega) (by have s:=m.2;omega) (by have s:=aB.2;omega)).trans aB.1;have aR:ai w1 c.heap.size 0 (ab 0):=ax X 0;have aS:ai w1 c.heap.size 1 (ab 0):=ax X 1;have aT:=λz=>dm X z;have aw:Hid (∀n b:au,(wC w1 c.heap.size n b).heap[w.heap.size]?=c.heap[w.heap.size]?):=λn b=>(lV (by have ah:=m.2;omega) n b).trans P)))
 ·have V:Hid (∃w0 r w2,(r=w1.heap.size/\w2=w1.alloc (.cells #[ab v.1,ab v.2] 109))/\am w w0/\O v g w0 w1/\ch (λb=>w.heap.size<=b/\b<w0.heap.size) w1 w2/\w.heap.size+3<=w2.heap.size/\w2.heap[w.heap.size]?=some (.cells #[ab k,ab i,af t,ae h l j] 31)/\w2.heap[w.heap.size+1]?=some (.cells #[ab 0,ab 0] 109)/\w2.heap[r]?=some (.cells #[ab v.1,ab v.2] 109)/\w.heap.size+1≠r/\w.heap.size+2<=w0.heap.size):=by
    have f:=p.1.1;have s:=u.1.size;have ah:=m.2;have aC:∀b,b<w1.heap.size->(w1.alloc (.cells #[ab v.1,ab v.2] 109)).heap[b]?=w1.heap[b]? :=λb aQ=>ie w1 _ aQ;refine⟨c.drew,_,_,⟨rfl,rfl⟩,m.1.trans (u.1.mono m.1.size),p.2,bu aX _,by simp only[ja];omega,(ad _).trans R.1,?_,aD _ _,by omega,by omega⟩;exact(aC _ (by omega)).trans ((p.1.2 _ (by omega) (by omega) (by omega)).trans ((u.1.block _ (by omega)).trans R.2))
  obtain⟨w0,r,w2,⟨S,J⟩,a⟩:=V.out;rw[<-S,<-J];replace a:=ap a;clear S J V ad aK P p;have aG:ai w2 r 0 (ab v.1):=ax a.2.2.2.2.2.2.1 0;have aI:ai w2 r 1 (ab v.2):=ax a.2.2.2.2.2.2.1 1;have A:w2.cell? ⟨w.heap.size+1,0,none⟩=some (ab 0):=ax a.2.2.2.2.2.1 0;have B:w2.cell? ⟨w.heap.size+1,1,none⟩=some (ab 0):=ax a.2.2.2.2.2.1 1;have aa:=λz=>dm a.2.2.2.2.2.1 z;by_cases K:g=6;rotate_left
  ·have aP:¬(6:Int)=g:=λe=>K e.symm;go_wp2_with fail;refine ay (v:=.tuple #[.agg #[ab v.1,ab v.2],ab g]) (by simp[results,results123,go_sem,A,B]) rfl ?_;obtain⟨G,H,I,_,_,_,_,_,Y⟩:=a.out;refine⟨v,g,rfl,aj ⟨K,w0,w1,G,H,ch.trans I ((bF w2 (w.heap.size+1) 0 _).trans (bF _ (w.heap.size+1) _ _) λ_ _ e=>e) λb _ e=>?_⟩⟩;subst e;omega
  ·subst K;have W:=ap (aN v w0 w1 w2 a.1 a.2.1 a.2.2.1 a.2.2.2.1);go_wp2_with fail;refine W.mono ?_;rintro e d ⟨rfl,C⟩;clear aG aI A B aa W;have q:Hid (d.heap[w.heap.size]?=some (.cells #[ab k,ab i,af t,ae h l j] 31)/\d.heap[w.heap.size+1]?=some (.cells #[ab 0,ab 0] 109)/\w.heap.size+3<=d.heap.size):=by
    have aE:=a.2.2.2.1;have L:=C.1;exact⟨(L.2 _ (by omega) (by omega) (by omega)).trans a.2.2.2.2.1,(L.2 _ (by omega) (by omega) (by omega)).trans a.2.2.2.2.2.1,aF aE L.1⟩
   have x:Hid (am d d.drew):=(aA _ _).drew;have y:Hid (∀w':ag,w'.heap[w.heap.size]?=some (.cells #[ab k,ab i,af t,ae h l j] 31)->ai w' w.heap.size 0 (ab k)/\ai w' w.heap.size 1 (ab i)/\ai w' w.heap.size 2 (af t)/\ai w' w.heap.size 3 (ae h l j)):=λw' f=>⟨ax f 0,ax f 1,ax f 2,ax f 3⟩;obtain⟨t0,t1,t2,t3⟩:=y.out d q.1;go_wp2_with fail
   go_region_held3 (λw'=>w'.cell? ⟨w.heap.size,0,none⟩=some (ab k)/\w'.cell? ⟨w.heap.size,1,none⟩=some (ab i)/\w'.cell? ⟨w.heap.size,2,none⟩=some (af t)/\w'.cell? ⟨w.heap.size,3,none⟩=some (ae h l j)) (first|(go_keep;done)|exact y _ q.1|exact y _ U|exact y _ (az _ _))
    ((go_at_call 73;refine(aM w2 d _ C.2 a.2.2.2.1 x).mono ?_;rintro e w4 ⟨M,Z,rfl,D⟩;have U:Hid (w4.heap[w.heap.size]?=some (.cells #[ab k,ab i,af t,ae h l j] 31)):=(D.1.2 _ (av _) (by omega) (by have f:=q.2.2;have s:=x.size;omega)).trans q.1;have E:Hid (w4.heap[w.heap.size+1]?=some (.cells #[ab 0,ab 0] 109)):=(D.1.2 (w.heap.size+1) (by omega) (by omega) (by have f:=q.2.2;have s:=x.size;omega)).trans q.2.1;have A:w4.cell? ⟨w.heap.size+1,0,none⟩=some (ab 0):=ax E 0;have B:w4.cell? ⟨w.heap.size+1,1,none⟩=some (ab 0):=ax E 1;have aa:=λz=>dm E z;have az:Hid (∀n b:au,(wC w4 (w.heap.size+1) n b).heap[w.heap.size]?=some (.cells #[ab k,ab i,af t,ae h l j] 31)):=λn b=>(lV (by omega) n b).trans U))
   go_wp2_with fail;refine ay (v:=.tuple #[.agg #[ab M.1,ab M.2],ab Z]) (by simp[results,results123,go_sem,A,B]) rfl ?_;obtain⟨G,H,I,Y,_⟩:=a.out;exact⟨M,Z,rfl,ak ⟨v,w0,w1,w2,d,d.drew,w4,G,H,I,Y,C.2,x,D.2,(bF w4 (w.heap.size+1) 0 _).trans (bF _ (w.heap.size+1) _ _) λ_ _ e=>e⟩⟩
 ·have V:Hid (∃w0 r w2,(r=c.heap.size/\w2=wC w1 c.heap.size (ab v.1) (ab v.2))/\am w w0/\O v g w0 w1/\ch (λb=>w.heap.size<=b/\b<w0.heap.size) w1 w2/\w.heap.size+3<=w2.heap.size/\w2.heap[w.heap.size]?=some (.cells #[ab k,ab i,af t,ae h l j] 31)/\w2.heap[w.heap.size+1]?=some (.cells #[ab 0,ab 0] 109)/\w2.heap[r]?=some (.cells #[ab v.1,ab v.2] 109)/\w.heap.size+1≠r/\w.heap.size+2<=w0.heap.size):=by
    have f:=p.1.1;have s:=aB.2;have ah:=m.2;have aC:ch (λb=>w.heap.size<=b/\b<(c.alloc (.cells #[ab 0,ab 0] 109)).drew.heap.size) w1 (wC w1 c.heap.size (ab v.1) (ab v.2)):=((bF w1 c.heap.size 0 _).trans (bF _ c.heap.size _ _) λ_ _ e=>e).mono λb e=>by subst e;omega
    refine⟨_,_,_,⟨rfl,rfl⟩,m.1.trans (Q.1.mono m.1.size),p.2,aC,by rw[IN];omega,(aw _ _).trans R.1,?_,?_,by omega,by omega⟩
    ·exact(lV (by omega) _ _).trans ((p.1.2 _ (by omega) (by omega) (by omega)).trans ((Q.1.block _ (by omega)).trans R.2))
    ·have T:=X.out;unfold wC World.setCell;simp[bT,T]
  obtain⟨w0,r,w2,⟨S,J⟩,a⟩:=V.out;unfold wC at J;rw[<-S];rw[<-S]at J;rw[<-J];replace a:=ap a;clear S J V aw P p X aR aS aT;have aG:ai w2 r 0 (ab v.1):=ax a.2.2.2.2.2.2.1 0;have aI:ai w2 r 1 (ab v.2):=ax a.2.2.2.2.2.2.1 1;have A:w2.cell? ⟨w.heap.size+1,0,none⟩=some (ab 0):=ax a.2.2.2.2.2.1 0;have B:w2.cell? ⟨w.heap.size+1,1,none⟩=some (ab 0):=ax a.2.2.2.2.2.1 1;have aa:=λz=>dm a.2.2.2.2.2.1 z;by_cases K:g=6;rotate_left
  ·have aP:¬(6:Int)=g:=λe=>K e.symm;go_wp2_with fail;refine ay (v:=.tuple #[.agg #[ab v.1,ab v.2],ab g]) (by simp[results,results123,go_sem,A,B]) rfl ?_;obtain⟨G,H,I,_,_,_,_,_,Y⟩:=a.out;refine⟨v,g,rfl,aj ⟨K,w0,w1,G,H,ch.trans I ((bF w2 (w.heap.size+1) 0 _).trans (bF _ (w.heap.size+1) _ _) λ_ _ e=>e) λb _ e=>?_⟩⟩;subst e;omega
  ·subst K;have W:=ap (aN v w0 w1 w2 a.1 a.2.1 a.2.2.1 a.2.2.2.1);go_wp2_with fail;refine W.mono ?_;rintro e d ⟨rfl,C⟩;clear aG aI A B aa W;have q:Hid (d.heap[w.heap.size]?=some (.cells #[ab k,ab i,af t,ae h l j] 31)/\d.heap[w.heap.size+1]?=some (.cells #[ab 0,ab 0] 109)/\w.heap.size+3<=d.heap.size):=by
    have aE:=a.2.2.2.1;have L:=C.1;exact⟨(L.2 _ (by omega) (by omega) (by omega)).trans a.2.2.2.2.1,(L.2 _ (by omega) (by omega) (by omega)).trans a.2.2.2.2.2.1,aF aE L.1⟩
   have x:Hid (am d d.drew):=(aA _ _).drew;have y:Hid (∀w':ag,w'.heap[w.heap.size]?=some (.cells #[ab k,ab i,af t,ae h l j] 31)->ai w' w.heap.size 0 (ab k)/\ai w' w.heap.size 1 (ab i)/\ai w' w.heap.size 2 (af t)/\ai w' w.heap.size 3 (ae h l j)):=λw' f=>⟨ax f 0,ax f 1,ax f 2,ax f 3⟩;obtain⟨t0,t1,t2,t3⟩:=y.out d q.1;go_wp2_with fail
   go_region_held3 (λw'=>w'.cell? ⟨w.heap.size,0,none⟩=some (ab k)/\w'.cell? ⟨w.heap.size,1,none⟩=some (ab i)/\w'.cell? ⟨w.heap.size,2,none⟩=some (af t)/\w'.cell? ⟨w.heap.size,3,none⟩=some (ae h l j)) (first|(go_keep;done)|exact y _ q.1|exact y _ U|exact y _ (az _ _))
    ((go_at_call 73;refine(aM w2 d _ C.2 a.2.2.2.1 x).mono ?_;rintro e w4 ⟨M,Z,rfl,D⟩;have U:Hid (w4.heap[w.heap.size]?=some (.cells #[ab k,ab i,af t,ae h l j] 31)):=(D.1.2 _ (av _) (by omega) (by have f:=q.2.2;have s:=x.size;omega)).trans q.1;have E:Hid (w4.heap[w.heap.size+1]?=some (.cells #[ab 0,ab 0] 109)):=(D.1.2 (w.heap.size+1) (by omega) (by omega) (by have f:=q.2.2;have s:=x.size;omega)).trans q.2.1;have A:w4.cell? ⟨w.heap.size+1,0,none⟩=some (ab 0):=ax E 0;have B:w4.cell? ⟨w.heap.size+1,1,none⟩=some (ab 0):=ax E 1;have aa:=λz=>dm E z;have az:Hid (∀n b:au,(wC w4 (w.heap.size+1) n b).heap[w.heap.size]?=some (.cells #[ab k,ab i,af t,ae h l j] 31)):=λn b=>(lV (by omega) n b).trans U))
   go_wp2_with fail;refine ay (v:=.tuple #[.agg #[ab M.1,ab M.2],ab Z]) (by simp[results,results123,go_sem,A,B]) rfl ?_;obtain⟨G,H,I,Y,_⟩:=a;exact⟨M,Z,rfl,ak ⟨v,w0,w1,w2,d,d.drew,w4,G,H,I,Y,C.2,x,D.2,(bF w4 (w.heap.size+1) 0 _).trans (bF _ (w.heap.size+1) _ _) λ_ _ e=>e⟩⟩
theorem kA.lay{N:Nat}{ws:List Wd}{nm:br}{room:Int}{i:List Wd}{q:List (Tm N)}(t:kA N ws nm room i q)(x:Tm N)(j:bJ N x=0/\aT N x=true/\sz N x<=room-ws.length)(y:(bk N x ws nm).2.2.Nodup):kA N (bk N x ws nm).2.1 (bk N x ws nm).2.2 room (i++ [(bk N x ws nm).1]) (q++ [x]):=by
 obtain⟨e,A,B,K,L,C,D,M⟩:=t;have n:=ph j.1;obtain⟨p,F⟩:=mX N x ws nm;have z:=io N x ws nm n;have m:=Aa N x ws nm n;have J:=(jn N x ws nm).1;have l:∀c∈i,pB (bk N x ws nm).2.1 N c=pB ws N c/\∀E∈pB ws N c,E<ws.length:=λc h=>by
  obtain⟨f,_,o⟩:=e.mem h;exact⟨sn p N f c o,Am N f c o⟩
 refine⟨⟨by simp[e.1],λk G f d a=>?_⟩,?_,λf a=>?_,?_,by omega,C,D,y⟩
 ·rcases Nat.lt_or_ge k i.length with g|g
  ·rw[dB g]at d;rw[dB (by rw[<-e.1];exact g)]at a;exact(e.2 k G f d a).mono p F
  ·rw[dR g]at d;rw[dR (by rw[<-e.1];exact g)]at a;have s:k-i.length=0:=by
    have:=(aZ.1 d).1;simp at this;omega
   rw[<-e.1]at a;rw[s]at d a;simp only[dh,gZ]at d a;rw[<-d,<-a];exact z
 ·rw[lk,nS (λc h=>(l c h).1)];simp only[bP,List.flatMap_nil,dQ];refine fM.2 ⟨A,m.1,λr u b w=>?_⟩;obtain⟨c,h,v⟩:=iw.1 u;have H:=(l c h).2 r v;have I:=m.2 b w;omega
 ·rcases de.1 a with a|a
  ·exact B f a
  ·rw[dC.1 a];exact⟨j.1,j.2.1⟩
 ·simp only[gV,List.sum_append,aV,cF,bR,iz];omega
def tf(N:Nat)(x:Tm N)(room:Int)(a:List (Tm N)):Int:=if bJ N x≠0 then bJ N x else if aT N x=false then 5 else if (a.map (sz N)).sum+sz N x<=room then 0 else 6
theorem EK{N:Nat}{x:Tm N}{room:Int}{ws:List Wd}{e:List (Tm N)}(c:kh N x room ws≠6)(f:(e.map (sz N)).sum<=(ws.length:Int)):tf N x room e=kh N x room ws:=by
 unfold tf kh at*;by_cases a:bJ N x≠0
 ·simp[a]
 ·by_cases b:aT N x=false
  ·simp[a,b]
  ·rw[if_neg a,if_neg b]at c;rw[if_neg a,if_neg a,if_neg b,if_neg b];by_cases d:sz N x<=room-ws.length
   ·rw[if_pos (by omega)];simp[d]
   ·simp[d]at c
theorem EJ{N:Nat}{x:Tm N}{room:Int}{ws:List Wd}{a:List (Tm N)}(e:(ws.length:Int)=(a.map (sz N)).sum):tf N x room a=kh N x room ws:=by
 unfold tf kh;have b:((a.map (sz N)).sum+sz N x<=room)=(sz N x<=room-ws.length):=by rw[e];exact propext ⟨λd=>by omega,λd=>by omega⟩
 by_cases c:sz N x<=room-ws.length
 ·simp[c,b]
 ·simp[c,b]
section
variable {base pb:Nat} {name:aq} {room:Int} {N:Nat} {s:Tm (N+1)} {ms:List (Tm (N+1))} {xs:List (Wd×Tm (N+1))} {nk:Nat} {M:aO} {w:ag} {ws:List Wd} {nm:br} {sv:Wd} {vs:List Wd} {ma:ar} {mc:Nat} {Mh:aO}
theorem cV.kept(a:cV base pb name room (N+1) s ms xs nk M w ws nm sv vs ma mc Mh){S:aO}{w1:ag}(k:ch S w w1)(g:∀b,M b->b<w.heap.size->¬S b):cV base pb name room (N+1) s ms xs nk M w1 ws nm sv vs ma mc Mh:=by
 refine⟨a.heap.kept k λb m c=>g b (a.inM b m) c,?_,a.has,a.len,a.names,a.inM,a.mailM⟩;rcases a.mail with i|⟨d,n,h,e,j,f,l⟩
 ·exact aj i
 ·have c:=(aI.1 f).1;exact ak ⟨d,n,h,e,j,(k.block d c (g d (a.mailM _ e) c)).trans f,l⟩
theorem cV.mono(a:cV base pb name room (N+1) s ms xs nk M w ws nm sv vs ma mc Mh){M':aO}{nk':Nat}(c:∀b,M b->M' b)(g:nk<=nk'):cV base pb name room (N+1) s ms xs nk' M' w ws nm sv vs ma mc Mh:=
 ⟨a.heap,a.mail,a.has,a.len,aF a.names g,λb f=>c b (a.inM b f),λd e=>c _ (a.mailM d e)⟩
theorem cV.inside(a:cV base pb name room (N+1) s ms xs nk M w ws nm sv vs ma mc Mh):cV base pb name room (N+1) s ms xs nk (λb=>M b/\b<w.heap.size) w ws nm sv vs ma mc (λb=>Mh b/\b<w.heap.size):=by
 refine⟨a.heap.inside,?_,a.has,a.len,a.names,λb k=>⟨a.inM b k.1,k.2⟩,λm c=>⟨a.mailM m c,?_⟩⟩
 ·rcases a.mail with d|⟨j,l,g,e,h,f,i⟩
  ·exact aj d
  ·exact ak ⟨j,l,g,e,λn=>h n.1,f,i⟩
 ·rcases a.mail with⟨d,_⟩|⟨j,l,g,e,h,f,i⟩
  ·rw[d]at c;cases c
  ·rw[e]at c;injection c with c;rw[<-c];exact(aI.1 f).1
def zr(N:Nat)(x:Tm N)(base:Nat)(b:cN)(room:Int)(ws:List Wd)(nm:br)(M:aO)(v:Wd)(a:Int)(w w':ag):Prop:=
 a=kh N x room ws/\(a≠0->v=(0,0)/\am w w')/\(a=0->(bJ N x=0/\aT N x=true/\sz N x<=room-ws.length)/\v=(bk N x ws nm).1/\mN base b room (bk N x ws nm).2.1 (bk N x ws nm).2.2 M w w')
theorem Aq{N:Nat}{x:Tm N}{h:cN}{e:Ending}{w w':ag}(g:JH N x base h room ws nm M w e w'):∃(v:Wd)(f:Int),e=.returned (.tuple #[.agg #[ab v.1,ab v.2],ab f])/\zr N x base h room ws nm M v f w w':=by
 by_cases a:kh N x room ws=0
 ·obtain⟨b,c,i⟩:=g.2 a;exact⟨_,0,c,a.symm,λd=>absurd rfl d,λ_=>⟨b,rfl,i⟩⟩
 ·obtain⟨b,c⟩:=g.1 a;exact⟨(0,0),_,b,rfl,λ_=>⟨rfl,c⟩,λd=>absurd d a⟩
theorem eh.nodup{c:cN}(a:eh base c room ws nm M w):nm.Nodup:=by
 obtain⟨_,_,_,_,_,b,_⟩:=a;exact b.2.1
theorem cV.put1(d:cV base pb name room (N+1) s ms [] nk M w ws nm sv vs ma mc Mh){x:Tm (N+1)}{v:Wd}{e:Int}{w':ag}(t:zr (N+1) x base (PL pb name sv (ae ma vs.length mc)) room ws nm Mh v e w w'):∃A z m,cV base pb name room (N+1) s ms (if e=0 then [(v,x)]else []) (nk+201) (λb=>M b\/w.heap.size<=b) w' A z sv vs ma mc m/\ch M w w':=by
 obtain⟨f1,f2,f3⟩:=t;by_cases f:e=0
 ·obtain⟨c,rfl,k,l⟩:=f3 f;rw[if_pos f];have D:=(jn (N+1) x ws nm).2;have C:=oG c.1;have B:=d.names;refine⟨_,_,λb=>Mh b\/w.heap.size<=b,⟨k,?_,?_,d.len,by omega,?_,λn r=>aj (d.mailM n r)⟩,l.mono d.inM⟩
  ·rcases d.mail with p|⟨j,y,o,e,h,i,q⟩
   ·exact aj p
   ·have u:=(aI.1 i).1;refine ak ⟨j,y,o,e,λa=>?_,(l.block j u h).trans i,q⟩;rcases a with a|a
    ·exact h a
    ·omega
  ·have:=d.has;simp only[cF,dQ]at this;exact this.lay x c k.nodup
  ·intro b g;rcases g with a|a
   ·exact aj (d.inM b a)
   ·exact ak a
 ·obtain⟨_,g⟩:=f2 f;rw[if_neg f];exact⟨ws,nm,Mh,(d.later g).mono (λb a=>aj a) (by omega),bu g M⟩
def QD(base pb:Nat)(name:aq)(room:Int)(N:Nat)(s:Tm N)(ms:List (Tm N))(x:Tm N)(nk:Nat)(M:aO)(w:ag)(e:Ending)(w':ag):Prop:=
 ∃a:Wd,e=.returned (.tuple #[.agg #[ab a.1,ab a.2],ab (tf N x room (s::ms))])/\Hid (∃j g h i d f c,cV base pb name room N s ms (if tf N x room (s::ms)=0 then [(a,x)]else []) (nk+201) (λb=>M b\/w.heap.size<=b) w' j g h i d f c/\ch M w w')
theorem cV.put(y:cV base pb name room (N+1) s ms [] nk M w ws nm sv vs ma mc Mh)(x:Tm (N+1))(af:In w.heap.size w (N+1) x)(ay:cD (λb=>¬M b) (N+1) x)(ap:(aC (N+1) x).length<=2097152)(G:∀b,M b->b<w.heap.size)(aP:nk<=49000)(al:ms.length<=999)(aM:base<=w.heap.size):ao 123 #[aH pb,dG (N+1) x] w (QD base pb name room (N+1) s ms x nk M w):=by
 have aN:=y.len;have aQ:=y.names;have au:=y.front;obtain⟨_,_,_,aE,aT,aF,aG,_⟩:=au;have Z:=In.offB ay af
 have aa:∀{f:ag}{D:List Wd}{B:Wd}{C:List Wd}{z:ar}{A:Nat}{q P:aO},cV base pb name room (N+1) s ms [] nk P f D nm B C z A q->ch M w f->(∀b,P b->M b\/w.heap.size<=b)->
   ao 73 #[.pointer (some ⟨pb,1,none⟩),dG (N+1) x] f λE g=>∃(e:Wd)(d:Int),E=.returned (.tuple #[.agg #[ab e.1,ab e.2],ab d])/\zr (N+1) x base (PL pb name B (ae z C.length A)) room D nm q e d f g:=by
  intro f D B C z A q P r ah an;have aA:=ah.size;obtain⟨_,_,_,_,aU,aV,aW,_⟩:=r.front;have aB:In f.heap.size f (N+1) x:=(In.off (λb (c:¬M b/\b<w.heap.size)=>ah.block b c.2 c.1) Z af).mono aA;have az:cD (λb=>¬q b) (N+1) x:=Z.mono λb c a=>by
   rcases an b (r.inM b a)with t|t
   ·exact c.1 t
   ·have:=c.2;omega
  exact(vF (N+1) x base (PL pb name B (ae z C.length A)) room D nm q f r.heap aB az ap (by omega) aF aG (by omega) (by omega)).mono λE g a=>Aq a
 have T:∀{n:Nat}{V:aO}{j g:ag},ch V j g->(∀b,n<=b->b<n+3->b<j.heap.size->¬V b)->Up n j g:=λk aq=>⟨k.size,λb u O F=>k.block b F (aq b u O F)⟩;have Y:∀{e:Wd}{d:Int}{j g:ag}{D:List Wd}{B:Wd}{C:List Wd}{z:ar}{A:Nat}{q:aO},zr (N+1) x base (PL pb name B (ae z C.length A)) room D nm q e d j g->ch q j g:=λ{e d j g D B C z A q} a=>by
  by_cases W:d=0
  ·exact(a.2.2 W).2.2.2
  ·exact bu (a.2.1 W).2 _
 refine(Cv pb x.1.1 x.1.2.1 x.1.2.2 x.2.1.1 x.2.2.length x.2.1.2 w (λe d j g=>zr (N+1) x base (PL pb name sv (ae ma vs.length mc)) room ws nm Mh e d j g)
  (λH I=>ch M w I/\H.heap.size<=I.heap.size/\∃l p i o m,cV base pb name room (N+1) s ms [] nk (λb=>M b\/H.heap.size<=b) I l nm p i o i.length m/\(l.length:Int)=((s::ms).map (sz (N+1))).sum)
  (λe d f U=>ch M w f/\w.heap.size+3<=f.heap.size/\∃l p i o m,cV base pb name room (N+1) s ms [] nk (λb=>M b\/w.heap.size+3<=b) f l nm p i o i.length m/\(l.length:Int)=((s::ms).map (sz (N+1))).sum/\zr (N+1) x base (PL pb name p (ae o i.length i.length)) room l nm m e d f U) ?_ ?_ ?_).mono ?_
 ·intro j c;refine(aa (y.later c) (bu c M) λb a=>aj a).mono ?_;rintro E g ⟨e,d,rfl,h⟩;refine⟨e,d,rfl,T (Y h) λb u _ _ a=>?_,h⟩;have:=G b (y.inM b a);omega
 ·intro aK j g H c h v aD;have X:=(h.2.1 (by decide)).2;have ad:=c.size;have O:=((y.later c).later X).kept v λb a _ t=>by
   have:=G b a;omega
  have aw:ch M w H:=ch.trans ((bu c M).trans (bu X M) λ_ _ a=>a) v λb Q a=>by omega
  refine(O.tidy (by omega) al (by omega)).mono ?_;rintro E I ⟨rfl,l,p,i,o,m,F,K,S⟩;refine⟨rfl,T K λb u _ _ a=>?_,aw.trans K λ_ _ a=>a,K.size,l,p,i,o,m,F,S⟩;have:=G b a;omega
 ·rintro H I f ⟨K,aR,l,p,i,o,m,F,S⟩ aD c
  have r:=(F.later c).mono (M':=λb=>M b\/w.heap.size+3<=b) (nk':=nk) (λb a=>by
   rcases a with a|a
   ·exact aj a
   ·exact ak (by omega)) (av _)
  have L:ch M w f:=K.trans (bu c M) λ_ _ a=>a
  refine(aa r L λb a=>by
   rcases a with a|a
   ·exact aj a
   ·exact ak (by omega)).mono ?_
  rintro E U ⟨e,d,rfl,h⟩;refine⟨e,d,rfl,T (Y h) λb u O _ a=>?_,L,by have:=c.size;omega,l,p,i,o,m,r,S,h⟩;rcases r.inM b a with t|t
  ·have:=G b t;omega
  ·omega
 ·rintro E aX ⟨e,d,rfl,⟨am,j,g,c,h,v⟩|⟨aK,j,g,H,I,f,U,_,_,_,_,_,_,⟨L,aS,l,p,i,o,m,r,ax,h⟩,v⟩⟩
  ·have ad:=c.size;have J:d=tf (N+1) x room (s::ms):=by
    rw[EK (ws:=ws) (by rw[<-h.1];exact am) aE];exact h.1
   obtain⟨l,aI,m,u,R⟩:=(y.later c).put1 h;refine⟨e,by rw[<-J],l,aI,sv,vs,ma,mc,m,?_,?_⟩
   ·rw[<-J];refine(u.kept v λb a _ t=>?_).mono (λb a=>?_) (av _)
    ·rcases a with a|a
     ·have:=G b a;omega
     ·omega
    ·rcases a with a|a
     ·exact aj a
     ·exact ak (by omega)
   ·exact ch.trans ((bu c M).trans R λ_ _ a=>a) v λb Q a=>by omega
  ·have ad:=L.size;have J:d=tf (N+1) x room (s::ms):=by
    rw[EJ ax];exact h.1
   obtain⟨aL,aJ,ai,u,R⟩:=r.put1 h;refine⟨e,by rw[<-J],aL,aJ,p,i,o,i.length,ai,?_,?_⟩
   ·rw[<-J];refine(u.kept v λb a _ t=>?_).mono (λb a=>?_) (av _)
    ·subst t;rcases a with(a|a)|a
     ·have:=G _ a;omega
     ·omega
     ·omega
    ·rcases a with(a|a)|a
     ·exact aj a
     ·exact ak (by omega)
     ·exact ak (by omega)
   ·refine ch.trans (L.trans R λb Q a=>?_) v λb Q a=>by omega
    rcases a with a|a
    ·exact a
    ·omega
end
theorem t8(vs:List Wd)(v:Wd):bq (vs++ [v])=bq vs++qv v:=by simp[bq]
theorem oS{P:Program}(w:ag)(t ty e:TypeId)(i:TypeInfo)(y:P.underlying t=some (.slice e))(s:P.info? e=some i)(g f d l:Nat)(h:Array au)(r:w.heap[g]?=some (.cells h e (0,0)))(a:Addr)(m c:Nat)(b:cX)(u:b.length=m*i.size)(v:∀j k,b[j]?=some k->w.cell? (a.add j)=some k)(o:∀k∈b,k.oneCell'=true)(x:d+m<=l)(q:f+d*i.size+b.length<=h.size):(Builtin.append_ #[t,t] ty #[ae (some ⟨g,f,none⟩) d l,ae (some a) m c]).run P w= .ok (ae (some ⟨g,f,none⟩) (d+m) l) (w.setRow g (h.toList.take (f+d*i.size)++b++h.toList.drop (f+d*i.size+b.length)).toArray):=by
 have p:=run_firstCells_some (P:=P) w i.size m a m c b u v;have n:=pX P g (f+d*i.size) e b 0 h w r (by simpa using q) o;simp only[iY]at n;simp[Builtin.append_,cC y,sizeOf,typeInfo,s,Builtin.lenOf,x,p,eU,n]
def ru(Mh:aO)(ma:ar)(vs:List Wd)(w:ag)(d:ar)(e:Nat)(w':ag):Prop:=
 j0 Mh d vs e w'/\ch (λb=>∃a,ma=some a/\b=a.block) w w'/\∀a,d=some a->(∃c,ma=some c/\a.block=c.block)\/a.block=w.heap.size
theorem Lx{S:aO}(w:ag)(g:Nat)(cs:Array au)(a:∀b,b=g->S b):ch S w (w.setRow g cs):=⟨rfl,rfl,rfl,by simp,λ_ _ c=>setRow_other _ _ _ _ λe=>c (a _ e)⟩
theorem vY{Mh:aO}{ma:ar}{w:ag}(a:List Wd)(C c:Nat)(d:au)(l:d.cells.size=2)(p:c=a.length)(f:a.length<=C)(g:C<=maxLen)(h:∀b,Mh b->b<w.heap.size):ru Mh ma a w (some ⟨w.heap.size,0,none⟩) C (w.drew.alloc (.cells ((bq a).toArray++Builtin.zeroCells d.cells (C-c)) 109)):=by
 have e:∀b,b<w.heap.size->(w.drew.alloc (.cells ((bq a).toArray++Builtin.zeroCells d.cells (C-c)) 109)).heap[b]?=w.heap[b]? :=λb e=>Below.heap_alloc w.drew _ b e;have k:(w.drew.alloc (.cells ((bq a).toArray++Builtin.zeroCells d.cells (C-c)) 109)).heap[w.heap.size]?=some (.cells ((bq a).toArray++Builtin.zeroCells d.cells (C-c)) 109):=aD w.drew _;refine⟨ak ⟨w.heap.size,0,_,rfl,λm=>?_,k,f,g,?_,?_⟩,⟨rfl,rfl,rfl,?_,λb j _=>e b j⟩,λn i=>ak (congrArg Addr.block (az i).symm)⟩
 ·have:=h _ m;omega
 ·rw[Array.size_append,size_zeroCells,l,ew,cP];omega
 ·rw[List.drop_zero,Array.toList_append,iW (by rw[pT,cP];omega),pT,bD (by rw[cP];omega)]
 ·have:=ja w.drew (.cells ((bq a).toArray++Builtin.zeroCells d.cells (C-c)) 109);have o:w.drew.heap.size=w.heap.size:=rfl;omega
theorem uu{Mh:aO}{ma:ar}{vs:List Wd}{f:Nat}{w:ag}(ty:TypeId)(l:j0 Mh ma vs f w)(O:vs.length<=1000)(x:∀b,Mh b->b<w.heap.size)(sa:Addr)(c:Nat)(v:Wd)(r:∀j k,(qv v)[j]?=some k->w.cell? (sa.add j)=some k):∃C D w',(Builtin.append_ #[100,100] ty #[ae ma vs.length f,ae (some sa) 1 c]).run Tryz.prog w=.ok (ae C (vs.length+1) D) w'/\ru Mh ma (vs++ [v]) w C D w':=by
 obtain⟨o,q,A,h,B⟩:=bY lO;have L:∀k∈qv v,k.oneCell'=true:=by simp[qv,Value.oneCell']
 have i:(qv v).length=2:=rfl;rcases l with⟨rfl,rfl,rfl⟩|⟨e,a,d,rfl,s,n,F,t,G,u⟩
 ·have m:=run_append_nil (P:=Tryz.prog) w 100 ty 109 o _ underlying100 q A sa 1 c (qv v) (by rw[i,h]) r (by omega) (by omega) (by rw[B];omega);refine⟨_,_,_,m,?_⟩;have l:=vY (Mh:=Mh) (ma:=none) (w:=w) [v] (grownCap w 1 0 109) 1 (.agg #[ab 0,ab 0]) rfl rfl (grownCap_ge w 1 0 _) (grownCap_le_maxLen w 1 0 _ (by unfold maxLen;omega)) x;simpa [bq]using l
 ·have Q:=(aI.1 n).1;by_cases M:vs.length+1<=f
  ·have y:a+vs.length*o.size+(qv v).length<=d.size:=by rw[i,h];omega
   have m:=oS (P:=Tryz.prog) w 100 ty 109 o underlying100 q e a vs.length f d n sa 1 c (qv v) (by rw[i,h]) r L M y;refine⟨_,_,_,m,ak ⟨e,a,_,rfl,s,setRow_heap w e d _ _ _ n,?_,t,?_,?_⟩,?_,λN H=>aj ⟨_,rfl,?_⟩⟩
   ·simp only[bz,bA,iU];omega
   ·have p:d.toList.length=d.size:=iR;rw[h]at y ⊢;simp only[ew,bz,dK,fw,p];omega
   ·rw[h];have R:(d.toList.take (a+vs.length*2)).length=a+vs.length*2:=by
     have p:d.toList.length=d.size:=iR;rw[dK,p];omega
    have J:(d.toList.take (a+vs.length*2)).drop a=bq vs:=by
     rw[List.drop_take,Nat.add_sub_cancel_left];exact u
    rw[t8,lg,ny (by omega),J];have g:(vs++ [v]).length*2=(bq vs).length+2:=by
     rw[cP];simp only[bz,bA,iU];omega
    rw[g,List.take_length_add_append,iW (by rw[i];omega),bD (by rw[i];omega)]
   ·exact Lx w e _ λb g=>⟨_,rfl,g⟩
   ·exact congrArg Addr.block (az H).symm
  ·have m:=run_append_grow (P:=Tryz.prog) w 100 ty 109 o _ underlying100 q A ⟨e,a,none⟩ vs.length f (bq vs) (by rw[cP,h]) (λj k z=>by
     have K:j0 Mh (some ⟨e,a,none⟩) vs f w:=ak ⟨e,a,d,rfl,s,n,F,t,G,u⟩;rcases K.words with g|⟨ad,g,I⟩
     ·subst g;simp[bq]at z
     ·have E:=az g;rw[E]
      exact I j k z) sa 1 c (qv v) (by rw[i,h]) r (by omega) (by omega) (growslice_fits (by omega) (by rw[B];omega))
   refine⟨_,_,_,m,?_⟩;have l:=vY (Mh:=Mh) (ma:=some ⟨e,a,none⟩) (w:=w) (vs++ [v]) (grownCap w (vs.length+1) f 109) (vs.length+1) (.agg #[ab 0,ab 0]) rfl (by simp) (by have:=grownCap_ge w (vs.length+1) f 109;simpa using this) (grownCap_le_maxLen w _ _ _ (by unfold maxLen;omega)) x;simpa [t8]using l
theorem xK{w w':ag}{v x' b:au}{o:Oper}{a:Act}{K:Act->bt}{Q:Exit->Act->bt}(s x:Operand)(d:o.op=.call {callee:=.builtin .append,args:= #[s,x],argTypes:= #[100,100]})(f:a.eval s=v)(g:a.eval x=x')(e:(Builtin.append_ #[100,100] o.type #[v,x']).run Tryz.prog w=.ok b w')(c:K (a.put o.dst b) w'):Oper.wp Tryz.prog o a w K Q:=by
 unfold Oper.wp execOp;simp only[d,resolve,invoke,builtin,Sem.run_bind,Sem.run_pure,nH,nA,aV,cF,f,g,e];exact c
theorem rN(g:Nat)(k i:Int)(t:aq)(B:ar)(D C:Nat)(L aJ:Nat)(ma:ar)(w:ag)(E:Wd->Int->ag->bt)(H:Wd->ag->ag->ar->Nat->bt)(aT:g<w.heap.size)(Z:Hid (∀w1,am w w1->ai w1 g 7 (ae ma L aJ)))(ad:Hid (∀w0,am w w0->ao 123 #[aH g,.agg #[ab k,ab i,af t,ae B D C]] w0 λe w1=>∃(v:Wd)(h:Int),e=.returned (.tuple #[.agg #[ab v.1,ab v.2],ab h])/\Hid (Up w.heap.size w0 w1/\E v h w0 w1)))(ah:Hid (∀v w0 w1,E v 0 w0 w1->∃q r,Hid (∀w2,am w1 w2->ai w2 g 7 (ae q L r)/\∀j,w2.frozen? ⟨g,j,none⟩=false)/\Hid (∀w2,am w1 w2->∀(sa:Addr)(c:Nat),(∀j M,(qv v)[j]?=some M->w2.cell? (sa.add j)=some M)-> ∃m n d,(Builtin.append_ #[100,100] 100 #[ae q L r,ae (some sa) 1 c]).run Tryz.prog w2=.ok (ae m (L+1) n) d/\ai d g 7 (ae q L r)/\(∀j,d.frozen? ⟨g,j,none⟩=false)/\(∀b,w1.heap.size<=b->b<w2.heap.size->d.heap[b]?=w2.heap[b]?)/\H v w0 w2 m n d))):ao 85 #[aH g,.agg #[ab k,ab i,af t,ae B D C]] w λe w'=> (20<=L->e=.returned (ab 2)/\am w w')/\(L<20->∃(v:Wd)(h:Int)(w0 w1:ag),e=.returned (ab h)/\am w w0/\E v h w0 w1/\(h≠0->am w1 w')/\(h=0->∃w2 m n d,am w1 w2/\H v w0 w2 m n d/\w'=(d.setCell ⟨g,7,none⟩ (ae m (L+1) n)))):=by
 have aa:=ap (yt w (.cells #[ab k,ab i,af t,ae B D C] 31) rfl);have F:Hid (am w (w.alloc (.cells #[ab k,ab i,af t,ae B D C] 31))/\(w.alloc (.cells #[ab k,ab i,af t,ae B D C] 31)).heap.size=w.heap.size+1):=⟨by go_grown,by simp⟩;go_enter func85,ntmps85;have T:=Z w (aA _ _);rcases Nat.lt_or_ge L 20 with aw|aw
 ·have az:¬(20:Int)<=(L:Int):=by omega
  have Q:=ap (ad _ F.1);go_wp2_with fail;refine Q.mono ?_;rintro e w1 ⟨v,h,rfl,N⟩;have R:Hid (∃w0,am w w0/\E v h w0 w1):=⟨_,F.1,N.2⟩;obtain⟨w0,s⟩:=R.out;replace s:=ap s;clear R N Q aa F T;by_cases K:h=0;rotate_left
  ·have aR:¬(0:Int)=h:=λe=>K e.symm;go_wp2_with fail;exact ay (v:=ab h) (by simp[results,results85,go_sem]) rfl ⟨λa=>by omega,λ_=>⟨v,h,w0,w1,rfl,s.1,s.2,λ_=>aX,λa=>absurd a K⟩⟩
  ·subst K;obtain⟨q,r,aj,ak⟩:=ah v w0 w1 s.2;have S:Hid (∃w2 f,(w2=w1.alloc (.cells #[ab v.1,ab v.2] 109)/\f=w1.heap.size)/\am w1 w2/\w2.heap[f]?=some (.cells #[ab v.1,ab v.2] 109)/\w1.heap.size<=f):=⟨_,_,⟨rfl,rfl⟩,aX,aD _ _,av _⟩;go_wp2_with fail;obtain⟨w2,f,⟨Y,W⟩,o⟩:=S.out;rw[<-Y,<-W];replace o:=ap o;clear Y W S;have z:Hid (∀w':ag,am w2 w'->(ai w' g 7 (ae q L r)/\∀j,w'.frozen? ⟨g,j,none⟩=false)/\ai w' f 0 (ab v.1)/\ai w' f 1 (ab v.2)):=λw' a=>by
    have A:=(a.block f (aI.1 o.2.1).1).trans o.2.1;exact⟨aj _ (o.1.trans (a.mono o.1.size)),ax A 0,ax A 1⟩
   obtain⟨⟨T,aP⟩,aU,aV⟩:=z.out w2 (aA _ _);have P:Hid (am w2 w2.drew):=(aA _ _).drew;have y:Hid (am w2 (w2.alloc (.cells #[ab v.1,ab v.2] 109)).drew):=(show Below _ _ _ by go_grown);have O:Hid (∃m n d,(Builtin.append_ #[100,100] 100 #[ae q L r,ae (some ⟨w2.heap.size,0,none⟩) 1 1]).run Tryz.prog (w2.alloc (.cells #[ab v.1,ab v.2] 109)).drew=.ok (ae m (L+1) n) d/\ai d g 7 (ae q L r)/\(∀j,d.frozen? ⟨g,j,none⟩=false)/\(ai d f 0 (ab v.1)/\ai d f 1 (ab v.2))/\∃G,am w1 G/\H v w0 G m n d):=by
    have V:=o.1.trans (y.mono o.1.size);have aF:=rX w2 (.cells #[ab v.1,ab v.2] 109) rfl
    obtain⟨m,n,d,aK,aL,aM,aN,aO⟩:=ak _ V ⟨w2.heap.size,0,none⟩ 1 (λj M aE=>by
     rw[eU,cT];refine(ax aF j).trans ?_;rw[<-aE,<-List.getElem?_toArray]
     rfl)
    have X:=(aI.1 o.2.1).1;have A:=(aN f o.2.2 (aW X y.size)).trans ((y.block f X).trans o.2.1);exact⟨m,n,d,aK,aL,aM,⟨ax A 0,ax A 1⟩,_,V,aO⟩
   obtain⟨m,n,d,J,an,au,aG,I⟩:=O.out;replace J:=ap J;replace I:=ap I;clear O;have x:w2.drew.cell? ⟨g,7,none⟩=some (ae q L r)/\w2.drew.cell? ⟨f,0,none⟩=some (ab v.1)/\w2.drew.cell? ⟨f,1,none⟩=some (ab v.2):=⟨(z _ P).1.1,(z _ P).2⟩;have al:Hid ((w2.alloc (.cells #[ab v.1,ab v.2] 109)).drew.cell? ⟨g,7,none⟩=some (ae q L r)/\(w2.alloc (.cells #[ab v.1,ab v.2] 109)).drew.cell? ⟨f,0,none⟩=some (ab v.1)/\(w2.alloc (.cells #[ab v.1,ab v.2] 109)).drew.cell? ⟨f,1,none⟩=some (ab v.2)):=⟨(z _ y).1.1,(z _ y).2⟩;refine wp_region_noPanic ?_;refine jZ (λw'=>ai w' g 7 (ae q L r)/\ai w' f 0 (ab v.1)/\ai w' f 1 (ab v.2)) 10 (by kernel_rfl) ?_
   try simp only[ew]
   refine bi (i:=0) (v:= ?_) rfl (by kernel_rfl) (by kernel_rfl) (by kernel_rfl) (by kernel_rfl) (λ_ _ _ a=>a) rfl ?_ x ?_;rotate_left
   ·intro w' l
    try dsimp only at l
    go_simp
    try with_reducible rfl
   try simp only[Act.put,co]
   refine bi (i:=1) (v:= ?_) rfl (by kernel_rfl) (by kernel_rfl) (by kernel_rfl) (by kernel_rfl) (λ_ _ _ a=>a) rfl ?_ x ?_;rotate_left
   ·intro w' l
    try dsimp only at l
    go_simp
    try with_reducible rfl
   try simp only[Act.put]
   refine bi (i:=2) (v:= ?_) rfl (by kernel_rfl) (by kernel_rfl) (by kernel_rfl) (by kernel_rfl) (λ_ _ _ a=>a) rfl ?_ x ?_;rotate_left
   ·intro w' l
    try dsimp only at l
    go_simp
    try with_reducible rfl
   try simp only[Act.put]
   refine bi (i:=3) (v:= ?_) rfl (by kernel_rfl) (by kernel_rfl) (by kernel_rfl) (by kernel_rfl) (λ_ _ _ a=>a) rfl ?_ x ?_;rotate_left
   ·intro w' l
    try dsimp only at l
    go_simp
    try with_reducible rfl
   try simp only[Act.put]
   refine bi (i:=4) (v:= ?_) rfl (by kernel_rfl) (by kernel_rfl) (by kernel_rfl) (by kernel_rfl) (λ_ _ _ a=>a) rfl ?_ x ?_;rotate_left
   ·intro w' l
    try dsimp only at l
    go_simp
    try with_reducible rfl
   try simp only[Act.put]
   refine bi (i:=5) (v:= ?_) rfl (by kernel_rfl) (by kernel_rfl) (by kernel_rfl) (by kernel_rfl) (λ_ _ _ a=>a) rfl ?_ x ?_;rotate_left
   ·intro w' l
    try dsimp only at l
    go_simp
    try with_reducible rfl
   try simp only[Act.put]
   refine dr (i:=6) (by kernel_rfl) rfl rfl (λu p=>?_) (by decide)
   go_simp
   refine p _ _ (λ_=>al) (λaS=>?_);clear p u
   try simp only[Act.put,co,dE,dD]
   refine dr (i:=7) (by kernel_rfl) rfl rfl (λu p=>?_) (by decide);refine xK (v:=ae q L r) (x':=ae (some ⟨w2.heap.size,0,none⟩) 1 1) _ _ rfl (by simp[Act.eval]) (by simp[Act.eval]) J ?_;refine p _ _ (λ_=>⟨an,aG⟩) (λU=>?_);clear p u
   try simp only[Act.put,co]
   refine dr (i:=8) (by kernel_rfl) rfl rfl (λu p=>?_) (by decide)
   go_simp
   refine p _ _ (λ_=>U) (λ_=>?_);clear p u
   try simp only[Act.put,co,dE,dD]
   refine bi (i:=9) (v:= ?_) rfl (by kernel_rfl) (by kernel_rfl) (by kernel_rfl) (by kernel_rfl) (λ_ _ _ a=>a) rfl ?_ U ?_;rotate_left
   ·intro w' l
    try dsimp only at l
    go_simp
    try with_reducible rfl
   try simp only[Act.put,co]
   have aQ:=au 7;refine jY (by kernel_rfl) rfl rfl (by kernel_rfl) (λu p=>?_)
   go_simp
   refine p _ _ (NoPanic.normal ?_);clear p u
   try simp only[Act.put,co,dE,dD]
   go_wp2_with fail;obtain⟨G,aB,aC⟩:=I;exact ay (v:=ab 0) (by simp[results,results85,go_sem]) rfl ⟨λa=>by omega,λ_=>⟨v,0,w0,w1,rfl,s.1,s.2,λa=>absurd rfl a,λ_=>⟨G,m,n,d,aB,aC,rfl⟩⟩⟩
 ·have az:(20:Int)<=(L:Int):=by omega
  go_wp2_with fail;exact ay (v:=ab 2) (by simp[results,results85,go_sem]) rfl ⟨λ_=>⟨rfl,F.1⟩,λa=>by omega⟩
section
variable {base pb:Nat} {name:aq} {room:Int} {N:Nat} {s:Tm (N+1)} {ms:List (Tm (N+1))} {xs:List (Wd×Tm (N+1))} {nk:Nat} {M:aO} {w:ag} {ws:List Wd} {nm:br} {sv:Wd} {vs:List Wd} {ma:ar} {mc:Nat} {Mh:aO}
def zP(N:Nat)(x:Tm N)(room:Int)(s:Tm N)(ms:List (Tm N)):Int:=if 20<=ms.length then 2 else tf N x room (s::ms)
theorem cV.box0(a:cV base pb name room (N+1) s ms xs nk M w ws nm sv vs ma mc Mh):Mh pb/\pb<w.heap.size:=by
 obtain⟨f,d,e,b,_⟩:=a.heap.box;obtain⟨_,_,_,_,_,_,c,_⟩:=a.heap;exact⟨c,(PL.cells b).2.2.2.2.2⟩
theorem cV.more{v:Wd}{x:Tm (N+1)}(a:cV base pb name room (N+1) s ms [(v,x)] nk M w ws nm sv vs ma mc Mh){g:ar}{h:Nat}{i:ag}(C:ru Mh ma (vs++ [v]) w g h i):cV base pb name room (N+1) s (ms++ [x]) [] nk (λb=>M b\/w.heap.size<=b) (i.setCell ⟨pb,7,none⟩ (.slice g (vs++ [v]).length h)) ws nm sv (vs++ [v]) g h Mh/\ch M w (i.setCell ⟨pb,7,none⟩ (.slice g (vs++ [v]).length h)):=by
 obtain⟨E,r,F⟩:=C;obtain⟨q,G⟩:=a.box0;have D:∀d,ma=some d->¬Mh d.block:=λd c f=>by
  rcases a.mail with⟨e,_⟩|⟨m,t,o,l,j,_⟩
  ·rw[e]at c;cases c
  ·rw[l]at c;rw[<-az c]at f;exact j f
 have A:eh base (PL pb name sv (ae ma vs.length mc)) room ws nm Mh i:=a.heap.kept r λb n _ f=>by
  obtain⟨d,c,rfl⟩:=f;exact D d c n
 have k:=bF i pb 7 (.slice g (vs++ [v]).length h);refine⟨⟨A.turn k λI H mp B=>?_,?_,?_,?_,a.names,λb n=>aj (a.inM b n),λd c=>?_⟩,?_⟩
 ·unfold World.setCell;simp[bT,B]
 ·rcases E with e|⟨m,t,o,l,j,p,y⟩
  ·exact aj e
  ·exact ak ⟨m,t,o,l,j,(k.block m (aI.1 p).1 λe=>j (by rw[e];exact q)).trans p,y⟩
 ·have:=a.has;simpa using this
 ·simp[a.len]
 ·rcases F d c with⟨u,z,e⟩|e
  ·rw[e];exact aj (a.mailM u z)
  ·exact ak (by omega)
 ·refine ch.trans (r.mono λb f=>?_) k λb _ f=>?_
  ·obtain⟨d,c,rfl⟩:=f;exact a.mailM d c
  ·rw[f];exact a.inM pb q
def Qx(base pb:Nat)(name:aq)(room:Int)(N:Nat)(s:Tm N)(ms:List (Tm N))(x:Tm N)(nk:Nat)(M:aO)(w:ag)(e:Ending)(w':ag):Prop:=
 e=.returned (ab (zP N x room s ms))/\Hid (∃i f g h c d a,cV base pb name room N s (if zP N x room s ms=0 then ms++ [x]else ms) [] (nk+201) (λb=>M b\/w.heap.size<=b) w' i f g h c d a/\ch M w w')
theorem cV.deliver(z:cV base pb name room (N+1) s ms [] nk M w ws nm sv vs ma mc Mh)(x:Tm (N+1))(aw:In w.heap.size w (N+1) x)(an:cD (λb=>¬M b) (N+1) x)(ag:(aC (N+1) x).length<=2097152)(L:∀b,M b->b<w.heap.size)(am:nk<=49000)(ad:ms.length<=999)(aK:base<=w.heap.size):ao 85 #[aH pb,dG (N+1) x] w (Qx base pb name room (N+1) s ms x nk M w):=by
 have aN:=z.len;obtain⟨aO,ar⟩:=z.box0
 refine(rN pb x.1.1 x.1.2.1 x.1.2.2 x.2.1.1 x.2.2.length x.2.1.2 vs.length mc ma w
  (λh r p q=>r=tf (N+1) x room (s::ms)/\ch M w q/\w.heap.size<=p.heap.size/\∃o m n i g k j,cV base pb name room (N+1) s ms (if r=0 then [(h,x)]else []) (nk+201) (λb=>(M b\/p.heap.size<=b)/\b<q.heap.size) q o m n i g k j)
  (λh p v E F G=>ch M w v/\w.heap.size<=p.heap.size/\∃o m n i g k j,cV base pb name room (N+1) s ms [(h,x)] (nk+201) (λb=>M b\/p.heap.size<=b) v o m n i g k j/\ru j g (i++ [h]) v E F G) ar ?_ ?_ ?_).mono ?_
 ·intro q e;obtain⟨X,V,W,f,_⟩:=(z.later e).heap.box;exact(PL.cells f).2.2.2.1
 ·intro p e;have D:=e.size;refine((z.later e).put x ((aw.below e).mono D) an ag (λb d=>aW (L b d) D) am ad (by omega)).mono ?_;rintro y q ⟨h,rfl,o,m,n,i,g,k,j,f,u⟩;refine⟨h,_,rfl,⟨u.size,λb ay _ aB=>u.block b aB λd=>?_⟩,rfl,(bu e M).trans u λ_ _ d=>d,D,o,m,n,i,g,k,_,f.inside⟩;have:=L b d;omega
 ·rintro h p q ⟨J,u,T,o,m,n,i,g,k,j,f⟩;rw[if_pos rfl]at f;have aL:=f.len;have I:i.length=vs.length:=by omega
  refine⟨g,k,λv e=>?_,λv e sa c au=>?_⟩
  ·obtain⟨X,V,W,l,_⟩:=(f.later e).heap.box;rw[I]at l;exact⟨(PL.cells l).2.2.2.1,(PL.cells l).2.2.2.2.1⟩
  ·have t:=f.later e;have D:=e.size;obtain⟨E,F,G,S,C⟩:=uu 100 t.mail (by omega) (λb d=>aW (f.inM b d).2 D) sa c h au;rw[I]at S;have R:∀b,(∃a,g=some a/\b=a.block)->¬j b/\b<q.heap.size:=λb d=>by
    obtain⟨a,A,rfl⟩:=d;refine⟨λZ=>?_,(f.mailM a A).2⟩;rcases f.mail with⟨y,_⟩|⟨aG,aS,aF,r,ab,_⟩
    ·rw[y]at A;cases A
    ·rw[r]at A;rw[<-az A]at Z;exact ab Z
   obtain⟨ap,aq⟩:=t.box0;have P:G.heap[pb]?=v.heap[pb]? :=C.2.1.block pb aq λd=>(R pb d).1 ap;obtain⟨X,V,W,l,_⟩:=t.heap.box;rw[I]at l;refine⟨E,F,G,S,(bH P 7).trans (PL.cells l).2.2.2.1,λU=>?_,λb ay aA=>C.2.1.block b aA λd=>?_,?_⟩
   ·exact(jI (a:=⟨pb,U,none⟩) P).trans ((PL.cells l).2.2.2.2.1 U)
   ·have:=(R b d).2;omega
   ·exact⟨u.trans (bu e M) λ_ _ d=>d,T,o,m,n,i,g,k,j,t.mono (λb d=>d.1) (av _),C⟩
 ·rintro y aT ⟨af,l⟩;by_cases K:20<=ms.length
  ·obtain⟨rfl,e⟩:=af (by omega);have B:zP (N+1) x room s ms=2:=by simp[zP,K]
   refine⟨by rw[B],ws,nm,sv,vs,ma,mc,Mh,?_,bu e M⟩;rw[B];exact(z.later e).mono (λb d=>aj d) (by omega)
  ·obtain⟨h,r,p,q,rfl,e,⟨J,u,T,o,m,n,i,g,k,j,f⟩,al,ah⟩:=l (by omega);have B:zP (N+1) x room s ms=r:=by simp[zP,K,J]
   refine⟨by rw[B],?_⟩;rw[B];by_cases H:r=0
   ·obtain⟨v,E,F,G,aJ,⟨Q,_,aE,ax,aD,Y,aQ,aR,aa,t,C⟩,rfl⟩:=ah H;have aM:=t.len;have y:vs.length+1=(Y++ [h]).length:=by simp;omega
    obtain⟨ae,ai⟩:=t.more C;rw[y,if_pos H];have aP:=Q.size;refine⟨aE,ax,aD,Y++ [h],E,F,aa,ae.mono (λb d=>?_) (av _),Q.trans ai λb aI d=>?_⟩
    ·rcases d with(d|d)|d
     ·exact aj d
     ·exact ak (by omega)
     ·exact ak (by omega)
    ·rcases d with d|d
     ·exact d
     ·omega
   ·have O:=al H;rw[if_neg H]at f ⊢;refine⟨o,m,n,i,g,k,j,(f.later O).mono (λb d=>?_) (av _),u.trans (bu O M) λ_ _ d=>d⟩;rcases d.1 with d|d
    ·exact aj d
    ·exact ak (by omega)
end
theorem IK(y:aq)(k i:Int)(t:aq)(l:ar)(n m:Nat)(room:Int)(w:ag)(r:Bool)(C:Wd->Int->ag->bt)(H:Hid (∀w1:ag,ao 71 #[af y] w1 λe w'=>e=.returned (.bool r)/\w'=w1))(Q:Hid (r=true->∀w1:ag,ao 63 #[af y] w1 λe w'=>e=.returned (af y)/\am w1 w'))(P:Hid (0<=room/\room<=1000->∀w2,HB (cN.own (w.heap.size+1)) room (ae none 0 0) (ae none 0 0) (.map none) w2->w2.heap.size=w.heap.size+1+1->am w w2->ao 73 #[.pointer (some ⟨w.heap.size+1,0,none⟩),.agg #[ab k,ab i,af t,ae l n m]] w2 λe b=>∃(v:Wd)(c:Int),e=.returned (.tuple #[.agg #[ab v.1,ab v.2],ab c])/\Hid (∃tv lv mv,b.heap[w.heap.size+1]?=some (.cells #[ab room,tv,lv,mv] 107)/\C v c w2 b))):ao 42 #[af y,.agg #[ab k,ab i,af t,ae l n m],ab room] w λe w'=> (r=false->e=.returned (.tuple #[.pointer none,ab 5])/\am w w')/\(r=true->¬(0<=room/\room<=1000)->e=.returned (.tuple #[.pointer none,ab 1])/\am w w')/\ (r=true->0<=room/\room<=1000->∃(v:Wd)(c:Int)(w2 b:ag),Hid (am w w2/\w2.heap.size=w.heap.size+1+1/\C v c w2 b)/\(c≠0->e=.returned (.tuple #[.pointer none,ab c])/\am b w')/\ (c=0->∃(s:ag)(tv lv mv:au),e=.returned (.tuple #[aH s.heap.size,ab 0])/\am b s/\b.heap[w.heap.size+1]?=some (.cells #[ab room,tv,lv,mv] 107)/\w'=s.alloc (.cells #[af y,ab room,tv,lv,mv,ab v.1,ab v.2,ae none 0 0] 111))):=by
 have O:=ap (yt w (.cells #[ab k,ab i,af t,ae l n m] 31) rfl);have o:Hid (am w (w.alloc (.cells #[ab k,ab i,af t,ae l n m] 31))/\(w.alloc (.cells #[ab k,ab i,af t,ae l n m] 31)).heap.size=w.heap.size+1):=⟨by go_grown,by simp⟩;cases r with
 | false=>
  go_enter func42,ntmps42;go_wp2_with (go_at_call 71;refine(H _).mono ?_;rintro e w1 ⟨rfl,rfl⟩);exact ay (v:=.tuple #[.pointer none,ab 5]) (by simp[results,results42,go_sem]) rfl ⟨λ_=>⟨rfl,o.1⟩,λa=>(by cases a),λa=>(by cases a)⟩
 | true=>
  have R:=ap (Q rfl);go_enter func42,ntmps42;go_wp2_with (go_at_call 71;refine(H _).mono ?_;rintro e w1 ⟨rfl,rfl⟩);refine(NB _ _).mono ?_;rintro e w2 ⟨p,g⟩;by_cases q:0<=room/\room<=1000;rotate_left
  ·obtain⟨rfl,rfl⟩:=p q;clear p g;go_wp2_with fail;exact ay (v:=.tuple #[.pointer none,ab 1]) (by simp[results,results42,go_sem]) rfl ⟨λa=>(by cases a),λ_ _=>⟨rfl,o.out.1⟩,λ_ a=>absurd a q⟩
  ·obtain⟨rfl,d⟩:=g q;clear p g;replace d:=ap d;rw[o.out.2]at d;have G:Hid (am w w2):=o.1.trans (d.2.2.mono (by first|exact fN _|exact o.1.size));have I:=ap (P q w2 d.1 d.2.1 G);have x:Hid (w2.heap[w.heap.size]?=some (.cells #[ab k,ab i,af t,ae l n m] 31)):=(d.2.2.block _ (by have:=o.2;omega)).trans O;have t0:ai w2 w.heap.size 0 (ab k):=ax x 0;have t1:ai w2 w.heap.size 1 (ab i):=ax x 1;have t2:ai w2 w.heap.size 2 (af t):=ax x 2;have t3:ai w2 w.heap.size 3 (ae l n m):=ax x 3;go_wp2_with fail;refine I.mono ?_;rintro e b ⟨v,c,rfl,F⟩;obtain⟨tv,lv,mv,u,z⟩:=F.out;replace u:=ap u;replace z:=ap (show am w w2/\w2.heap.size=w.heap.size+1+1/\C v c w2 b from⟨G,d.2.1,z⟩);clear F I t0 t1 t2 t3 x d;by_cases E:c=0;rotate_left
   ·have S:¬(0:Int)=c:=λe=>E e.symm;go_wp2_with fail;exact ay (v:=.tuple #[.pointer none,ab c]) (by simp[results,results42,go_sem]) rfl ⟨λa=>(by cases a),λ_ a=>absurd q a,λ_ _=>⟨v,c,w2,b,z,λ_=>⟨rfl,aX⟩,λa=>absurd a E⟩⟩
   ·subst E;go_wp2_with fail;have J:Hid (∃j h,(j=b.alloc (.cells #[ab v.1,ab v.2] 109)/\h=b.heap.size)/\am b j/\j.heap[h]?=some (.cells #[ab v.1,ab v.2] 109)):=⟨_,_,⟨rfl,rfl⟩,aX,aD _ _⟩;obtain⟨j,h,⟨N,M⟩,f⟩:=J.out;rw[<-N,<-M];replace f:=ap f;clear N M J;have B:Hid (∀w':ag,am j w'->w'.cell? ⟨w.heap.size+1,0,none⟩=some (ab room)/\w'.cell? ⟨w.heap.size+1,1,none⟩=some tv/\w'.cell? ⟨w.heap.size+1,2,none⟩=some lv/\w'.cell? ⟨w.heap.size+1,3,none⟩=some mv/\ai w' h 0 (ab v.1)/\ai w' h 1 (ab v.2)):=λw' a=>by
     have p:=(a.block h (aI.1 f.2).1).trans f.2;have L:=(aI.1 u).1;have g:=(a.block _ (aW L f.1.size)).trans ((f.1.block _ L).trans u);exact⟨ax g 0,ax g 1,ax g 2,ax g 3,ax p 0,ax p 1⟩
    obtain⟨T,U,V,W,X,Y⟩:=B.out j (aA _ _);have D:Hid (am j j.drew):=(aA _ _).drew
    go_region_held3 (λw'=>w'.cell? ⟨w.heap.size+1,0,none⟩=some (ab room)/\w'.cell? ⟨w.heap.size+1,1,none⟩=some tv/\w'.cell? ⟨w.heap.size+1,2,none⟩=some lv/\w'.cell? ⟨w.heap.size+1,3,none⟩=some mv/\w'.cell? ⟨h,0,none⟩=some (ab v.1)/\w'.cell? ⟨h,1,none⟩=some (ab v.2)) (first|(go_keep;done)|with_reducible exact B _ D|exact B _ A|exact B _ (A.trans (aX.mono A.size)))
     ((go_at_call 63;refine(R _).mono ?_;rintro e s ⟨rfl,K⟩;have A:=ap (D.trans (K.mono D.size));clear K))
    go_wp2_with fail;exact ay (v:=.tuple #[aH s.heap.size,ab 0]) (by simp[results,results42,go_sem]) rfl ⟨λa=>(by cases a),λ_ a=>absurd q a,λ_ _=>⟨v,0,w2,b,z,λa=>absurd rfl a,λ_=>⟨s,tv,lv,mv,rfl,f.out.1.trans (A.out.mono f.out.1.size),u.out,rfl⟩⟩⟩
def gD(N:Nat)(x:Tm N)(room:Int)(name:aq):Int:=if ex name=false then 5 else if¬(0<=room/\room<=1000)then 1 else kh N x room []
def PX(N:Nat)(x:Tm N)(room:Int)(name:aq)(w:ag)(e:Ending)(w':ag):Prop:=
 (gD N x room name≠0->e=.returned (.tuple #[.pointer none,ab (gD N x room name)])/\am w w')/\
 (gD N x room name=0->∃a,e=.returned (.tuple #[aH a,ab 0])/\Hid (w.heap.size<=a/\am w w'/\∃g d f c,cV w.heap.size a name room N x [] [] 201 (λb=>w.heap.size<=b/\b<w'.heap.size) w' g d f [] none 0 c))
theorem yn{s:aq}(a:ex s=true):s.size<=2048:=by
 simp only[ex,rk,aK,cw]at a;omega
theorem In.offBelow{B:Nat}{w:ag}:{n:Nat}->{x:Tm n}->In B w n x->cD (λb=>b<B) n x
 | 0,_,k=>k
 | _+1,_,k=>by
  obtain⟨_,a⟩:=k;rcases a with a|⟨b,o,e,c,a⟩
  ·exact aj a
  ·exact ak ⟨b,o,e,c,λi y d=>(a i y d).2.offBelow⟩
theorem Cs(N:Nat)(x:Tm (N+1))(room:Int)(name:aq)(w:ag)(ax:name.size<=9223372036854775807)(O:In w.heap.size w (N+1) x)(ai:(aC (N+1) x).length<=2097152):ao 42 #[af name,dG (N+1) x,ab room] w (PX (N+1) x room name w):=by
 refine(IK name x.1.1 x.1.2.1 x.1.2.2 x.2.1.1 x.2.2.length x.2.1.2 room w (ex name) (λe l o p=>am w p/\zr (N+1) x w.heap.size (cN.own (w.heap.size+1)) room [] [] (λb=>b=w.heap.size+1) e l o p) ?_ ?_ ?_).mono ?_
 ·intro D;exact jm name D ax
 ·intro a D;exact ey name D (yn a)
 ·intro d o H aL m;have s:=m.size;have aa:eh w.heap.size (cN.own (w.heap.size+1)) room [] [] (λb=>b=w.heap.size+1) o:=⟨ae none 0 0,ae none 0 0,.map none,H,eZ _ _ _ _,⟨eZ _ _ _ _,by simp,aj ⟨rfl,rfl,rfl⟩⟩,rfl,λb f=>by simp[Value.ownBlock]at f,λb f=>by simp[Value.ownBlock]at f,λb f=>by simp[mapBlock]at f⟩;refine(vF (N+1) x w.heap.size (cN.own (w.heap.size+1)) room [] [] (λb=>b=w.heap.size+1) o aa ((O.below m).mono s) ((In.offBelow O).mono λb c f=>by omega) ai s d.1 d.2 (by simp) (by simp)).mono ?_;intro f p aw;obtain⟨e,l,rfl,i⟩:=Aq aw;have I:∀{E:aO},ch E o p->(∀b,E b->w.heap.size<=b)->am w p:=λk al=>⟨k.os.trans m.os,k.tape.trans m.tape,k.output.trans m.output,aF s k.size,λb L=>(k.block b (aW L s) λc=>by have:=al b c;omega).trans (m.block b L)⟩;refine⟨e,l,rfl,?_⟩;by_cases g:l=0
  ·obtain⟨_,_,t,P⟩:=i.2.2 g;obtain⟨C,A,B,ah,_⟩:=t;exact⟨C,A,B,ah.2,I P λb c=>by omega,i⟩
  ·have n:=(i.2.1 g).2;exact⟨_,_,_,(n.block _ (by omega)).trans H.2,I (bu n λ_=>False) λb c=>c.elim,i⟩
 ·rintro f aP ⟨X,Y,Z⟩;cases hn:ex name with
  | false=>
   have h:gD (N+1) x room name=5:=by simp[gD,hn]
   refine⟨λ_=>by rw[h];exact X hn,λa=>by rw[h]at a;cases a⟩
  | true=>
   by_cases d:0<=room/\room<=1000;rotate_left
   ·have h:gD (N+1) x room name=1:=by simp[gD,hn,d]
    refine⟨λ_=>by rw[h];exact Y hn d,λa=>by rw[h]at a;cases a⟩
   ·obtain⟨e,l,o,p,Q,d1,d2⟩:=Z hn d;obtain⟨aH,aM,n,i⟩:=Q;have h:gD (N+1) x room name=l:=by rw[i.1];simp[gD,hn,d]
    have M:=n.size;rw[PX,h];refine⟨λg=>⟨(d1 g).1,n.trans ((d1 g).2.mono M)⟩,λg=>?_⟩;obtain⟨j,C,A,B,rfl,r,J,rfl⟩:=d2 g;have aK:=r.size;obtain⟨K,ay,t,P⟩:=i.2.2 g;have au:=t.nodup;have ad:=(t.later r);obtain⟨y,u,v,R,S,T,aG,U,V,W⟩:=ad;have ap:=(aI.1 J).1;have F:(Obj.cells #[ab room,y,u,v] 107)=(Obj.cells #[ab room,C,A,B] 107):=az (R.2.symm.trans ((r.block _ ap).trans J));simp only[Obj.cells.injEq,Array.mk.injEq,lh,and_true,true_and]at F;obtain⟨rfl,rfl,rfl⟩:=F;have z:am j (j.alloc (.cells #[af name,ab room,y,u,v,ab e.1,ab e.2,ae none 0 0] 111)):=aX;have aA:(j.alloc (.cells #[af name,ab room,y,u,v,ab e.1,ab e.2,ae none 0 0] 111)).heap.size=j.heap.size+1:=by simp
    refine⟨j.heap.size,rfl,by omega,(n.trans (r.mono M)).trans (z.mono (by omega)),(bk (N+1) x [] []).2.1,(bk (N+1) x [] []).2.2,e,λb=>b=j.heap.size\/(w.heap.size<=b/\b<j.heap.size),?_⟩;have an:kA (N+1) [] [] room [] ([]:List (Tm (N+1))):=⟨⟨rfl,λaN e aB a=>by simp at a⟩,by simp,λaB a=>by simp at a,by simp,by simp;exact d.1,d.1,d.2,by simp⟩;have ar:=an.lay x K au;have av:=(jn (N+1) x [] []).2;have aJ:=oG K.1;simp only[iU]at av;refine⟨⟨y,u,v,⟨⟨rfl,ak rfl⟩,aD _ _⟩,eE S (bu z λ_=>False) (λ_ _ c=>c),T.kept (bu z λ_=>False) (λ_ _ c=>c) (λ_ _ c=>c),aj rfl,λb c=>ak ?_,λb c=>ak ?_,λb c=>ak ?_⟩,aj ⟨rfl,rfl,rfl⟩,?_,rfl,by omega,λb c=>?_,λaE a=>by cases a⟩
    ·have a:=U b c;have G:=a.2;rcases a.1 with q|q<;>exact⟨by omega,by omega⟩
    ·have a:=V b c;have G:=a.2;rcases a.1 with q|q<;>exact⟨by omega,by omega⟩
    ·have a:=W b c;have G:=a.2;rcases a.1 with q|q<;>exact⟨by omega,by omega⟩
    ·rw[ay];exact ar
    ·rw[aA];rcases c with c|c<;>exact⟨by omega,by omega⟩
def uO(w:ag)(c:Nat)(a b:Int):ag:=(w.setCell ⟨c,5,none⟩ (ab a)).setCell ⟨c,6,none⟩ (ab b)
def Qv(b d e:Nat)(t0 t1:Int)(t2:aq)(g:ar)(i h:Nat)(s0 s1:Int)(f:aq)(sa:ar)(sl sc:Nat)(W:ag):Prop:=
 W.heap[d]?=some (.cells #[ab t0,ab t1,af t2,ae g i h] 31)/\W.heap[e]?=some (.cells #[ab s0,ab s1,af f,ae sa sl sc] 31)/\(∃a,W.cell? ⟨b,5,none⟩=some (ab a))/\(∃a,W.cell? ⟨b,6,none⟩=some (ab a))/\∀c,W.frozen? ⟨b,c,none⟩=false
theorem Bb(t0 t1:Int)(t2:aq)(m:ar)(o n:Nat)(c:Nat)(w:ag)(S:Int->Int->aq->ar->Nat->Nat->bt)(P1:ag->Wd->Int->bt)(R:Bool->bt)(aK:Hid (∀W,am w W->ao 34 #[aH c] W λe w'=>∃s0 s1 h sa sl sc,e=.returned (.agg #[ab s0,ab s1,af h,ae sa sl sc])/\Hid (am W w'/\S s0 s1 h sa sl sc w')))(aC:Hid (∀W,am w W->(∃a,ai W c 5 (ab a))/\(∃a,ai W c 6 (ab a))/\(∀j,W.frozen? ⟨c,j,none⟩=false)/\c<w.heap.size))(aJ:Hid (∀s0 s1 h sa sl sc aR H g i,S s0 s1 h sa sl sc aR->am aR H->am w H->w.heap.size<=g->w.heap.size<=i->Qv c g i t0 t1 t2 m o n s0 s1 h sa sl sc (uO H c 1 0)->ao 123 #[aH c,.agg #[ab t0,ab t1,af t2,ae m o n]] (uO H c 1 0) λe w'=>∃(v:Wd)(r:Int),e=.returned (.tuple #[.agg #[ab v.1,ab v.2],ab r])/\Hid (Qv c g i t0 t1 t2 m o n s0 s1 h sa sl sc w'/\P1 H v r w'/\ (r=0->∀W,am w' W->R true (uO W c v.1 v.2))/\ (r≠0->∀W d,am w' W->w'.heap.size<=d->d<W.heap.size->ao 123 #[aH c,.agg #[ab s0,ab s1,af h,ae sa sl sc]] W λe L=>∃(v2:Wd)(aT:Int),e=.returned (.tuple #[.agg #[ab v2.1,ab v2.2],ab aT])/\Hid ((∀a8,W.heap[d]?=some a8->L.heap[d]?=some a8)/\((∃a,ai L c 5 (ab a))/\(∃a,ai L c 6 (ab a))/\∀j,L.frozen? ⟨c,j,none⟩=false)/\∀aQ,bE (λb=>b=d) L aQ->R false (uO aQ c v2.1 v2.2)))))):ao 118 #[aH c,.agg #[ab t0,ab t1,af t2,ae m o n]] w λe w'=>∃t,e=.returned (.bool t)/\Hid (R t w'):=by
 have aM:Hid (∃Y l,(Y=w.alloc (.cells #[ab t0,ab t1,af t2,ae m o n] 31)/\l=w.heap.size)/\am w Y/\Y.heap[l]?=some (.cells #[ab t0,ab t1,af t2,ae m o n] 31)/\w.heap.size<=l):=⟨_,_,⟨rfl,rfl⟩,aS _ _,aD _ _,av _⟩;go_enter func118,ntmps118;go_wp2_with fail;obtain⟨Y,g,⟨a4,a3⟩,aV,J,a0⟩:=aM.out;rw[<-a4,<-a3];have aa:=ap aV;have x:=ap J;have aE:=ap a0;clear a4 a3 aV J a0 aM;refine(aK _ aa).mono ?_;rintro e Z ⟨s0,s1,h,sa,sl,sc,rfl,M⟩;have O:=ap (aa.trans (M.1.mono aa.size));have aN:Hid (∃k l,(k=Z.alloc (.cells #[ab s0,ab s1,af h,ae sa sl sc] 31)/\l=Z.heap.size)/\am Z k/\k.heap[l]?=some (.cells #[ab s0,ab s1,af h,ae sa sl sc] 31)/\w.heap.size<=l/\k.heap[g]?=some (.cells #[ab t0,ab t1,af t2,ae m o n] 31)):=by
  have bg:=(aI.1 x).1;have aU:=(M.1.block g bg).trans x;exact⟨_,_,⟨rfl,rfl⟩,aS _ _,aD _ _,O.size,((aS _ _).block g (aI.1 aU).1).trans aU⟩
 have aL:=ap M.2;clear M aK x;go_upto_region 2 with fail;obtain⟨k,i,⟨a5,s⟩,aw,aX,a1,J⟩:=aN.out;rw[<-a5,<-s];have ad:=ap (O.trans (aw.mono O.size));have aB:=ap aw;have al:=ap aX;have x:=ap J;have aF:=ap a1;clear a5 s aw aX a1 J aN;obtain⟨⟨bn,bb⟩,⟨bo,bc⟩,T,bs⟩:=aC.out k ad;have f5:=T 5;have f6:=T 6;have u:Hid (Qv c g i t0 t1 t2 m o n s0 s1 h sa sl sc (uO k c 1 0)):=by
  have aZ:bE (λb=>b=c) k (uO k c 1 0):=bE.trans (bN k c 5 _) (bN _ c 6 _) λ_ _ e=>e;refine⟨(aZ.block g (aI.1 x).1 (by have:=aE.out;omega)).trans x,(aZ.block i (aI.1 al).1 (by have:=aF.out;omega)).trans al,⟨1,?_⟩,⟨0,?_⟩,λj=>?_⟩
  ·exact(dP 5 (by decide)).trans (iD _ _ _ bb)
  ·exact iD _ _ _ ((dP 6 (by decide)).trans bc)
  ·unfold uO;rw[ii,ii];exact T j
 have ak:=ap (aJ s0 s1 h sa sl sc Z k g i aL aB ad aE aF u);clear aJ T aC;go_upto_region 3 with fail;obtain⟨E,V⟩:∃E,E=uO k c 1 0:=⟨_,rfl⟩;rw[<-V]at ak u;unfold uO at V;rw[<-V];have bj:ai E g 0 (ab t0):=ah u.1 0;have bk:ai E g 1 (ab t1):=ah u.1 1;have bl:ai E g 2 (af t2):=ah u.1 2;have bm:ai E g 3 (ae m o n):=ah u.1 3;clear V bb bc f5 f6 x al ad aB O aL u;go_wp2_with fail;refine ak.mono ?_;rintro e F ⟨v,r,rfl,q⟩;have aO:Hid (∃f l,(f=F.alloc (.cells #[ab v.1,ab v.2] 109)/\l=F.heap.size)/\am F f/\f.heap[l]?=some (.cells #[ab v.1,ab v.2] 109)/\F.heap.size<=l):=⟨_,_,⟨rfl,rfl⟩,aS _ _,aD _ _,av _⟩;go_upto_region 4 with fail;obtain⟨f,d,⟨a6,z⟩,aW,aY,a2⟩:=aO.out;rw[<-a6,<-z];have C:=ap aW;have Q:=ap aY;have aG:=ap a2;clear a6 z aW aY a2 aO bj bk bl bm ak;have P:Hid (c<F.heap.size):=by
  obtain⟨a,au⟩:=q.out.1.2.2.1;exact iC F ⟨c,5,none⟩ au
 have bd:Hid ((∃a,ai f c 5 (ab a))/\(∃a,ai f c 6 (ab a))/\∀j,f.frozen? ⟨c,j,none⟩=false):=by
  obtain⟨_,_,⟨a,au⟩,⟨b,bf⟩,y⟩:=q.out.1;refine⟨⟨a,(C.cell (p:=⟨c,5,none⟩) P).trans au⟩,⟨b,(C.cell (p:=⟨c,6,none⟩) P).trans bf⟩,λj=>?_⟩;have y:=y j;unfold World.frozen? at y ⊢;rw[C.out.block c P.out];exact y
 have bp:ai f d 0 (ab v.1):=ah Q 0;have bq:ai f d 1 (ab v.2):=ah Q 1;by_cases I:r=0
 ·have G:=ap (q.2.2.1 I f C);unfold uO at G;obtain⟨⟨a,X⟩,⟨b,az⟩,D⟩:=bd;have f5:=D 5;have f6:=D 6;clear D q;subst I;go_wp2_with fail
  go_ret
  exact⟨true,rfl,G⟩
 ·have br:¬(0:Int)=r:=λe=>I e.symm;have be:=ap (q.2.2.2 I f d C aG (aI.1 Q).1);have s:=(C.block i (aI.1 q.1.2.1).1).trans q.1.2.1;have bw:ai f i 0 (ab s0):=ah s 0;have bx:ai f i 1 (ab s1):=ah s 1;have bz:ai f i 2 (af h):=ah s 2;have bA:ai f i 3 (ae sa sl sc):=ah s 3;clear s q;go_wp2_with fail;refine be.mono ?_;rintro e A ⟨v2,aT,rfl,N⟩;have z:=N.1 _ Q;have a9:ai A d 0 (ab v.1):=ah z 0;have ba:ai A d 1 (ab v.2):=ah z 1;have aA:∀j,A.frozen? ⟨d,j,none⟩=false:=λj=>by simp[World.frozen?,z]
  have bh:=aA 0;have bi:=aA 1;have aP:Hid (∃B,B=(A.setCell ⟨d,0,none⟩ (ab v2.1)).setCell ⟨d,1,none⟩ (ab v2.2)/\(ai B d 0 (ab v2.1)/\ai B d 1 (ab v2.2))/\bE (λb=>b=d) A B):=by
   refine⟨_,rfl,⟨?_,?_⟩,bE.trans (bN A d 0 _) (bN _ d 1 _) λ_ _ e=>e⟩
   ·exact(dP 0 (by decide)).trans (iD _ _ _ a9)
   ·exact iD _ _ _ ((dP 1 (by decide)).trans ba)
  clear aA z;go_upto_region 6 with fail;obtain⟨B,a7,⟨y0,y1⟩,K⟩:=aP.out;rw[<-a7];have G:=ap (N.2.2 B K);unfold uO at G;obtain⟨⟨a,X⟩,⟨b,az⟩,D⟩:=N.out.2.1;have U:=iC A ⟨c,5,none⟩ X;have ax:c≠d:=by have:=P.out;have:=aG.out;omega
  have bu:=(K.cell 5 U ax).trans X;have bv:=(K.cell 6 U ax).trans az;have an:∀j,B.frozen? ⟨c,j,none⟩=false:=λj=>by
   have y:=D j;unfold World.frozen? at y ⊢;rw[K.block c U ax];exact y
  have f5:=an 5;have f6:=an 6;clear a7 aP K X az D an N a9 ba bh bi U;go_wp2_with fail;exact ay (v:=.bool (r==0)) (by simp[results,results118,go_sem]) rfl (aj ⟨b9 (by simpa using I),G.out⟩)
def fW(n m:Nat):Option (Tm n)->Option (Tm m)->Prop
 | none,none=>True
 | some x,some y=>aB n x m y=true
 | _,_=>False
theorem oc{n m k l:Nat}{o:Option (Tm n)}{p:Option (Tm m)}{f:Tm n->Option (Tm k)}{g:Tm m->Option (Tm l)}(a:fW n m o p)(b:∀x y,aB n x m y=true->fW k l (f x) (g y)):fW k l (o.bind f) (p.bind g):=by
 cases o with
 | none=>
  cases p with
  | none=>trivial
  | some _=>exact a.elim
 | some x=>
  cases p with
  | none=>exact a.elim
  | some y=>exact b x y a
theorem jp{n m N M:Nat}(c:n<=N)(b:m<=M){x:Tm n}{y:Tm m}(d:aJ ⟨n,x⟩)(e:aJ ⟨m,y⟩)(a:aB n x m y=true):aB N (bf N n x) M (bf M m y)=true:=
 bS _ _ _ _ _ _ (fS N n c x d) (bS _ _ _ _ _ _ a (dX _ _ _ _ (fS M m b y e)))
theorem lM:(n:Nat)->(x:Tm n)->(m:Nat)->(y:Tm m)->aB n x m y=true->cg ⟨n,x⟩=cg ⟨m,y⟩/\p9 n x=p9 m y
 | 0,_,_,_,h=>by simp[aB]at h
 | _+1,_,0,_,h=>by simp[aB]at h
 | n+1,x,m+1,y,h=>by
  simp only[aB,aK,cv]at h;exact⟨h.1.1.1,h.1.1.2⟩
theorem yS{N M:Nat}{a c:Tm N}{b d:Tm M}(h:aB N a M b=true)(i:aB N c M d=true):fW (N+1) (M+1) (uw N a c) (uw M b d):=by
 have e:=lM _ _ _ _ h;have f:=lM _ _ _ _ i;have g:AH N a c=AH M b d:=by
  unfold AH;rw[e.1,e.2,f.1,f.2]
 unfold uw;rw[<-g,<-e.2,<-f.2];cases AH N a c
 ·simp[fW]
 ·simp[fW,aB,b8,aG]
theorem vd{i:Type}{N M:Nat}(f:i->Option (Tm N))(g:i->Option (Tm M)):(p:List i)->(∀a∈p,fW N M (f a) (g a))->fW (N+1) (M+1) ((cZ f p).map (dx N)) ((cZ g p).map (dx M))/\((cZ f p=none/\cZ g p=none)\/∃l r,cZ f p=some l/\cZ g p=some r/\aG (λx y=>aB N x M y) l r=true)
 | [],_=>⟨by simp[cZ,fW,aB,dx,aG],ak ⟨[],[],rfl,rfl,rfl⟩⟩
 | a::p,h=>by
  have b:=h a (by simp);have n:=(vd f g p λx o=>h x (by simp[o])).2;simp only[cZ];cases e1:f a with
  | none=>
   rw[e1]at b;cases c:g a with
   | none=>simp[fW]
   | some _=>rw[c]at b;exact b.elim
  | some m=>
   rw[e1]at b;cases c:g a with
   | none=>rw[c]at b;exact b.elim
   | some v=>
    rw[c]at b;have j:aB N m M v=true:=b;rcases n with⟨d,e⟩|⟨l,r,d,e,k⟩
    ·rw[d,e];simp[fW]
    ·rw[d,e];exact⟨by simp[fW,aB,dx,aG,j,k],ak ⟨m::l,v::r,rfl,rfl,by simp[aG,j,k]⟩⟩
theorem sE(m:Nat)(b:List (Tm m))(f:Nat)(a:List (Tm f))(self:Int)(i:aG (λx y=>aB m x f y) b a=true)(p:∀y∈b,aJ ⟨m,y⟩)(q:∀y∈a,aJ ⟨f,y⟩):(n:Nat)->(x:Tm n)->aJ ⟨n,x⟩->fW (m+n) (f+n) (vl m b self n x) (vl f a self n x)
 | 0,_,_=>trivial
 | n+1,x,hx=>by
  have z:=cW _ _ _ i;have w:aB (n+1) x (n+1) x=true:=fT _ _ hx;unfold vl;by_cases k:x.1.1=5
  ·rw[if_pos k,if_pos k];cases e:b[x.1.2.1.toNat]? with
   | none=>
    have g:a[x.1.2.1.toNat]?=none:=by
     rw[List.getElem?_eq_none_iff]at e ⊢;omega
    rw[g];trivial
   | some y=>
    obtain⟨u,_⟩:=aZ.1 e;have g:a[x.1.2.1.toNat]?=some a[x.1.2.1.toNat]:=aN (by omega);rw[g];have s:aB m y f a[x.1.2.1.toNat]=true:=jV _ _ _ i _ _ _ e g;simp only[dU];rw[<-(lM _ _ _ _ s).1];by_cases d:cg ⟨m,y⟩=6
    ·rw[if_pos d,if_pos d];trivial
    ·rw[if_neg d,if_neg d];exact jp (by omega) (by omega) (p y (aL e)) (q _ (aL g)) s
  ·rw[if_neg k,if_neg k];by_cases d:x.1.1=6
   ·rw[if_pos d,if_pos d];trivial
   ·rw[if_neg d,if_neg d];by_cases j:x.1.1=4
    ·rw[if_pos j,if_pos j];by_cases r:uF n x.2.2 qu 0=true
     ·rw[if_pos r,if_pos r];simp[fW,aB,b8,aG]
     ·rw[if_neg r,if_neg r];by_cases l:uF n x.2.2 xg 2=true
      ·rw[if_pos l,if_pos l];cases e1:x.2.2[1]? with
       | none=>trivial
       | some h=>
        cases g:x.2.2[2]? with
        | none=>trivial
        | some c=>
         simp only[dU];exact oc (sE m b f a self i p q n h (bj n x h hx (aL e1))) λA C u=>oc (sE m b f a self i p q n c (bj n x c hx (aL g))) λB D v=>yS u v
      ·rw[if_neg l,if_neg l];by_cases o:uF n x.2.2 Dj 1=true
       ·rw[if_pos o,if_pos o];cases e1:x.2.2[1]? with
        | none=>trivial
        | some h=>
         have t:=bj n x h hx (aL e1);simp only[dU];cases aT n h
         ·simp[fW]
         ·exact jp (by omega) (by omega) t t (fT _ _ t)
       ·rw[if_neg o,if_neg o];exact(vd _ _ x.2.2 λy s=>sE m b f a self i p q n y (bj n x y hx s)).1
    ·rw[if_neg j,if_neg j];exact jp (by omega) (by omega) hx hx w
def JB:(D:Nat)->(n:Nat)->Tm n->Tm D
 | 0,_,_=>()
 | _+1,0,_=>((0,0,.empty),(none,0),[])
 | D+1,n+1,x=>(x.1,(none,0),x.2.2.map λy=>JB D n y)
theorem J0:(D:Nat)->(n:Nat)->(x:Tm n)->(m:Nat)->(y:Tm m)->aB n x m y=true->JB D n x=JB D m y
 | 0,_,_,_,_,_=>rfl
 | D+1,0,_,_,_,h=>by simp[aB]at h
 | D+1,n+1,_,0,_,h=>by simp[aB]at h
 | D+1,n+1,x,m+1,y,h=>by
  obtain⟨c,d⟩:=bQ h;have e:=kU _ (λa=>JB D n a) (λb=>JB D m b) _ _ (λa _ b f=>J0 D n a m b f) d;simp only[JB,c,e];rfl
theorem Bz{n:Nat}:(l:List (Tm n))->(m:Int)->m<=l.foldl (λm y=>max m (fU n y)) m/\∀y∈l,fU n y<=l.foldl (λm y=>max m (fU n y)) m
 | [],m=>⟨jD _,λy b=>by simp at b⟩
 | a::l,m=>by
  obtain⟨d,c⟩:=Bz l (max m (fU n a));simp only[gU];refine⟨by omega,λy b=>?_⟩;rcases cY.1 b with rfl|b
  ·omega
  ·exact c y b
theorem oH{n:Nat}{x:Tm (n+1)}(e:aJ ⟨n+1,x⟩){y:Tm n}(c:y∈x.2.2):fU n y+1<=fU (n+1) x:=by
 have d:x.1.1=4:=by
  have b:=e _ (nB ..);simp only[cQ,aK,iT,cv,ld,decide_eq_false_iff_not]at b;rcases b.2 with a|a
  ·exact a
  ·have:=List.length_pos_of_mem c;omega
 have:=(Bz x.2.2 0).2 y c;simp only[fU,if_pos d];omega
theorem Bf:(D:Nat)->(n:Nat)->(x:Tm n)->aJ ⟨n,x⟩->fU n x<D->aB D (JB D n x) n x=true
 | _,0,_,h,_=>(dA h).elim
 | 0,n+1,x,_,h=>by
  have:=(gB (n+1) x).1;omega
 | D+1,n+1,x,hr,h=>dt rfl (jt _ _ _ λy a=>Bf D n y (bj n x y hr a) (by
  have:=oH hr a
  omega))
theorem jS:(D:Nat)->(n:Nat)->(x:Tm n)->aJ ⟨n,x⟩->fU n x<D->aB D (bf D n x) n x=true
 | _,0,_,h,_=>(dA h).elim
 | 0,n+1,x,_,h=>by
  have:=(gB (n+1) x).1;omega
 | D+1,n+1,x,hr,h=>dt rfl (jt _ _ _ λy a=>jS D n y (bj n x y hr a) (by
  have:=oH hr a
  omega))
theorem KY(D n:Nat)(x:Tm n)(w:ag)(b o:Nat)(g:0<D)(k:dH w b o n x):dH w b o D (bf D n x):=by
 cases n with
 | zero=>exact k.elim
 | succ n=>
  obtain⟨D,rfl⟩:∃a,D=a+1:=⟨D-1,by omega⟩;obtain⟨c,d,e,f⟩:=k;exact⟨c,d,e,by simpa [bf]using f⟩
theorem tb:(D n:Nat)->(x:Tm n)->(B:Nat)->(w:ag)->aJ ⟨n,x⟩->fU n x<D->In B w n x->In B w D (bf D n x)
 | _,0,_,_,_,_,_,k=>k.elim
 | 0,n+1,x,_,_,_,h,_=>by
  have:=(gB (n+1) x).1;omega
 | D+1,n+1,x,B,w,hr,h,k=>by
  obtain⟨l,a⟩:=k;refine⟨by simpa [bf]using l,?_⟩;rcases a with a|⟨b,o,e,j,a⟩
  ·exact aj (by simp[bf,a])
  ·refine ak ⟨b,o,e,j,λi y g=>?_⟩;simp only[bf,dn]at g;obtain⟨c,d,rfl⟩:=cG.1 g;have f:=aL d;have p:=oH hr f;have m:=(gB n c).1;exact⟨KY D n c w b _ (by omega) (a i c d).1,tb D n c B w (bj n x c hr f) (by omega) (a i c d).2⟩
theorem Af(D n:Nat)(x:Tm (n+1)):dG (D+1) (bf (D+1) (n+1) x)=dG (n+1) x:=by
 simp[dG,bf]
theorem uH:(D n:Nat)->(x:Tm n)->(P:aO)->aJ ⟨n,x⟩->fU n x<D->cD P n x->cD P D (bf D n x)
 | _,0,_,_,h,_,_=>(dA h).elim
 | 0,n+1,x,_,_,h,_=>by
  have:=(gB (n+1) x).1;omega
 | D+1,n+1,x,P,hr,h,k=>by
  rcases k with k|⟨b,o,e,g,k⟩
  ·exact aj (by simp[bf,k])
  ·refine ak ⟨b,o,e,g,λi y d=>?_⟩;simp only[bf,dn]at d;obtain⟨a,f,rfl⟩:=cG.1 d;have c:=aL f;have j:=oH hr c;exact uH D n a P (bj n x a hr c) (by omega) (k i a f)
abbrev Tc:Type:=Tm 13
def cn(n:Nat)(x:Tm n):Tc:=JB 13 n x
theorem iK{n m:Nat}{x:Tm n}{y:Tm m}(a:aB n x m y=true):cn n x=cn m y:=J0 13 n x m y a
theorem eI{n:Nat}{x:Tm n}(a:bJ n x=0):aB 13 (cn n x) n x=true:=by
 obtain⟨b,c,_⟩:=bM.1 a;exact Bf 13 n x (aU.2 b) (by omega)
theorem MX{n:Nat}{x:Tm n}(a:bJ n x=0):cn 13 (cn n x)=cn n x:=iK (eI a)
theorem nP{n:Nat}{x:Tm n}(a:bJ n x=0):bJ 13 (cn n x)=0:=by rw[cd (eI a),a]
theorem FI{n:Nat}{x:Tm n}(a:bJ n x=0):sz 13 (cn n x)=sz n x:=mw _ _ _ _ (eI a)
theorem kN{n:Nat}{x:Tm n}(a:bJ n x=0):aT 13 (cn n x)=aT n x:=cR _ _ _ _ (eI a)
theorem EP{n m:Nat}{x:Tm n}{y:Tm m}(c:bJ n x=0)(d:bJ m y=0)(b:cn n x=cn m y):aB n x m y=true:=by
 have a:=dX _ _ _ _ (eI c);rw[b]at a;exact bS _ _ _ _ _ _ a (eI d)
theorem QO{n m:Nat}:(p:List (Tm n))->(q:List (Tm m))->aG (λx y=>aB n x m y) p q=true->p.map (cn n)=q.map (cn m):=λp q a=>kU _ _ _ p q (λ_ _ _ b=>iK b) a
theorem tU{n m:Nat}:(p:List (Tm n))->(q:List (Tm m))->(∀x∈p,bJ n x=0)->(∀y∈q,bJ m y=0)->p.map (cn n)=q.map (cn m)->aG (λx y=>aB n x m y) p q=true
 | [],[],_,_,_=>rfl
 | [],_::_,_,_,h=>by simp at h
 | _::_,[],_,_,h=>by simp at h
 | x::p,y::q,hp,hq,h=>by
  simp only[aV,lh]at h;simp only[aG,aK];exact⟨EP (hp x (by simp)) (hq y (by simp)) h.1,tU p q (λa b=>hp a (bW _ b)) (λa b=>hq a (bW _ b)) h.2⟩
def nO:List An:=oC 1 (List.replicate 4 fH)
def P6(a:An):Tc:=cn a.1 a.2
def lY{n:Nat}(c:Cl (n+1))(s m:Tc):Option (List Tc):=(iG (n+1) c.1.1 13 s nO).bind λb=>(iG (n+1) c.1.2.1 13 m b).map λa=>a.map P6
def mT{n:Nat}(s m:Tc):List (Cl (n+1))->Option (Cl (n+1)×List Tc)
 | []=>none
 | c::l=>match lY c s m with
  | some b=>some (c,b)
  | none=>mT s m l
def sS{n:Nat}(l:List (Cl (n+1)))(s:Tc):List Tc->Nat->Option (Nat×Cl (n+1)×List Tc)
 | [],_=>none
 | m::ms,i=>match mT s m l with
  | some x=>some (i,x)
  | none=>sS l s ms (i+1)
theorem Iq{x y:An}(a:eL x y=true)(d:DA y):DA x:=by
 obtain⟨b,c⟩:=d;refine⟨(cd a).trans b,?_⟩;rw[vL a,cR _ _ _ _ a];exact c
theorem tn{d β:Type}(f:d->β->Bool):(p:List d)->(q:List β)->aG f p q=true->∀x∈p,∃y∈q,f x y=true
 | [],_,_,x,c=>by simp at c
 | _::_,[],h,_,_=>by simp[aG]at h
 | a::p,b::q,h,x,c=>by
  simp only[aG,aK]at h;rcases cY.1 c with rfl|c
  ·exact⟨b,by simp,h.1⟩
  ·obtain⟨y,g,e⟩:=tn f p q h.2 x c;exact⟨y,bW _ g,e⟩
theorem Ir{p q:List An}(a:aG eL p q=true)(b:∀y∈q,DA y):∀x∈p,DA x:=λx c=>by
 obtain⟨y,d,e⟩:=tn _ _ _ a x c;exact Iq e (b y d)
theorem sN{n:Nat}:(l:List (Tm n))->(b:List An)->(∀y∈b,aJ y/\y.1<=n)->aG (λx y=>aB n x n y) l (b.map λa=>bf n a.1 a.2)=true->aG eL (oC n l) b=true
 | [],[],_,_=>rfl
 | [],_::_,_,h=>by simp[aG]at h
 | _::_,[],_,h=>by simp[aG]at h
 | x::l,a::b,hb,h=>by
  simp only[aV,aG,aK]at h;simp only[oC,aV,aG,aK];obtain⟨c,d⟩:=hb a (by simp);exact⟨bS _ _ _ _ _ _ h.1 (fS n a.1 d a.2 c),sN l b (λy e=>hb y (bW _ e)) h.2⟩
theorem J9{p q:List An}(a:aG eL p q=true):p.map P6=q.map P6:=kU _ _ _ p q (λ_ _ _ b=>iK b) a
theorem ve:aG eL nO nO=true:=by
 refine ju _ _ λa b=>?_;exact fT _ _ (sg (DD a b))
theorem Ot{n:Nat}{x:Tm n}(a:bJ n x=0)(b:aT n x=true):DA ⟨n,x⟩:=⟨a,ak b⟩
theorem cD.both{P Q:aO}:{n:Nat}->{x:Tm n}->cD P n x->cD Q n x->cD (λb=>P b/\Q b) n x
 | 0,_,p,_=>p
 | _+1,_,p,k=>by
  rcases p with p|⟨b,o,e,g,p⟩
  ·exact aj p
  ·rcases k with k|⟨j,l,a,h,k⟩
   ·exact aj k
   ·rw[e]at a;injection a with a;injection a with d f;subst d f;exact ak ⟨b,o,e,⟨g,h⟩,λi y c=>(p i y c).both (k i y c)⟩
structure rn (D:Nat) (l:List (Tm D)) (B:List Tc) (b0:Nat) (w':ag) (bg bc:Nat):Prop where
 bnd:gJ D l=true
 tells:l.map (cn D)=B
 cap:4<=bc/\bc<=maxLen
 new:b0<=bg/\bg<w'.heap.size
 at':∀(i:Nat)(y:Tm D),l[i]?=some y->dH w' bg (i*4) D y/\In w'.heap.size w' D y/\cD (λq=>b0<=q/\q≠bg) D y
 free:∀j,w'.frozen? ⟨bg,j,none⟩=false
def Om{n:Nat}(c:Cl (n+1))(s m:Tc)(w:ag)(e:Ending)(w':ag):Prop:=
 ∃b len f g,e=.returned (.tuple #[ae b len f,.bool g])/\Hid (am w w'/\g=(lY c s m).isSome/\∀a,lY c s m=some a->len=4/\∃h l d,b=some ⟨d,0,none⟩/\rn h l a w.heap.size w' d f)
theorem Ku{n m k:Nat}(c:Cl (n+1))(s:Tm (m+1))(t:Tm (k+1))(R:bJ (n+1) c.1.1=0)(S:bJ (n+1) c.1.2.1=0)(B:bJ (m+1) s=0)(T:aT (m+1) s=true)(C:bJ (k+1) t=0)(U:aT (k+1) t=true){w w':ag}{e:Ending}(Q:JG (iG (n+1) c.1.1 (m+1) s nO) (iG (n+1) c.1.2.1 (k+1) t) w e w'):Om c (cn (m+1) s) (cn (k+1) t) w e w':=by
 obtain⟨K,len,P,aq,rfl,J⟩:=Q;obtain⟨V,Z,ae⟩:=J;refine⟨K,len,P,aq,rfl,V,?_⟩;have f:=mV (n+1) c.1.1 (m+1) s (n+1) c.1.1 13 (cn (m+1) s) nO nO (fT _ _ (aU.2 (bM.1 R).1)) (dX _ _ _ _ (eI B)) ve;cases e1:iG (n+1) c.1.1 (m+1) s nO with
 | none=>
  rw[e1]at f;cases e2:iG (n+1) c.1.1 13 (cn (m+1) s) nO with
  | some _=>
   rw[e2]at f;exact f.elim
  | none=>
   have j:lY c (cn (m+1) s) (cn (k+1) t)=none:=by simp[lY,e2]
   rw[j];exact⟨Z e1,λA i=>by cases i⟩
 | some b=>
  rw[e1]at f;cases e2:iG (n+1) c.1.1 13 (cn (m+1) s) nO with
  | none=>
   rw[e2]at f;exact f.elim
  | some q=>
   rw[e2]at f;have r:=lK DA oQ (n+1) c.1.1 (m+1) s (Ot B T) nO b ⟨by simp[nO,oC],DD⟩ e1;obtain⟨o,X,aa,af⟩:=ae b e1;have p:aG eL (oC (nJ b) o) b=true:=sN o b (λa d=>⟨sg (r.2 a d),AM b a d⟩) X;have L:aG eL (oC (nJ b) o) q=true:=oU eL eL eL _ _ _ (λx _ a I ak H=>bS x.1 x.2 a.1 a.2 I.1 I.2 ak H) p f;have g:=mV (n+1) c.1.2.1 (k+1) t (n+1) c.1.2.1 13 (cn (k+1) t) _ _ (fT _ _ (aU.2 (bM.1 S).1)) (dX _ _ _ _ (eI C)) L;cases e3:iG (n+1) c.1.2.1 (k+1) t (oC (nJ b) o)with
   | none=>
    rw[e3]at g;cases e4:iG (n+1) c.1.2.1 13 (cn (k+1) t) q with
    | some _=>
     rw[e4]at g;exact g.elim
    | none=>
     have j:lY c (cn (m+1) s) (cn (k+1) t)=none:=by simp[lY,e2,e4]
     rw[j];exact⟨aa e3,λA i=>by cases i⟩
   | some h=>
    rw[e3]at g;cases e4:iG (n+1) c.1.2.1 13 (cn (k+1) t) q with
    | none=>
     rw[e4]at g;exact g.elim
    | some N=>
     rw[e4]at g;have j:lY c (cn (m+1) s) (cn (k+1) t)=some (N.map P6):=by simp[lY,e2,e4]
     rw[j];obtain⟨ai,aj,F,aw,l,ar,G⟩:=af h e3;refine⟨ai,λA i=>⟨aj,nJ h,l,?_⟩⟩;cases i;have ab:=Ir p r.2;have Y:(oC (nJ b) o).length=4:=by rw[cW _ _ _ p];exact r.1
     have D:=lK DA oQ (n+1) c.1.2.1 (k+1) t (Ot C U) _ h ⟨Y,ab⟩ e3;have E:∀a∈h,aJ a:=λa d=>sg (D.2 a d);obtain⟨_,v,ah,_⟩:=FQ G E F;have W:=yU D.2 v F ah;obtain⟨_,_,au,al,am,y⟩:=G;rcases y with y|⟨O,bo,rfl,⟨av,rfl,ao,ap⟩,an,z⟩
     ·rw[y]at v;simp at v
     ·refine⟨O,rfl,W,?_,⟨by omega,al⟩,⟨by omega,an⟩,λu a d=>⟨?_,(z u a d).2.1,(cD.both (z u a d).2.2 (ap a (aL d))).mono λH ad=>⟨by omega,ad.2⟩⟩,ao⟩;rotate_left
      ·have:=(z u a d).1;rw[cT]at this;exact this
      have M:aG eL (oC (nJ h) l) h=true:=sN l h (λa d=>⟨E a d,AM h a d⟩) am;rw[<-J9 g,<-J9 M];simp[oC,P6]
theorem IG{n m k:Nat}(c:Cl (n+1))(s:Tm (m+1))(t:Tm (k+1))(B:Nat)(w:ag)(i:iE (n+1) B w c)(j:In B w (m+1) s)(l:In B w (k+1) t)(h:B<=w.heap.size)(a:bJ (n+1) c.1.1=0)(b:bJ (n+1) c.1.2.1=0)(d:bJ (m+1) s=0)(e:aT (m+1) s=true)(f:bJ (k+1) t=0)(g:aT (k+1) t=true):ao 115 #[.agg (fy (n+1) c).toArray,dG (m+1) s,dG (k+1) t] w (Om c (cn (m+1) s) (cn (k+1) t) w):=
 (IF n m k c s t B w i j l h a b d (by rw[<-fR];exact e) f (by rw[<-fR];exact g)).mono λ_ _ o=>Ku c s t a b d e f g o
theorem mq:(N n:Nat)->n<=N->(x:Tm n)->aT N (bf N n x)=aT n x
 | 0,0,_,_=>rfl
 | _+1,0,_,_=>by simp[bf,aT]
 | 0,n+1,h,_=>by omega
 | N+1,n+1,h,x=>by
  have:(x.2.2.map λy=>bf N n y).all (λy=>aT N y)=x.2.2.all λy=>aT n y:=by
   rw[List.all_map];congr 1;funext y;exact mq N n (by omega) y
  simp only[aT,bf];rw[this]
theorem ze(m:Nat)(b:List (Tm m))(self:Int)(k:∀y∈b,cg ⟨m,y⟩=6\/aT m y=true):(n:Nat)->(x:Tm n)->aJ ⟨n,x⟩->(j:Tm (m+n))->vl m b self n x=some j->aT (m+n) j=true
 | 0,_,_,_,d=>by simp[vl]at d
 | n+1,x,hr,j,d=>by
  have p:=e9 (bO n x) (hr (bO n x) (by simp[aC,bO]));by_cases g:x.1.1=6
  ·rw[Mg m b self n x g]at d;cases d
  ·by_cases f:x.1.1=5
   ·simp only[vl,f,dj]at d;obtain⟨y,h,d⟩:=bI.1 d;split at d
    ·cases d
    ·rename_i t;obtain rfl:=az d;exact(mq (m+n+1) m (by omega) y).trans ((k y (aL h)).resolve_left t)
   ·by_cases e:x.1.1=4
    ·rw[Mi m b self n x e]at d;unfold xJ at d;split at d
     ·obtain rfl:=az d;simp[b8,aT]
     ·split at d
      ·obtain⟨a,q,d⟩:=bI.1 d;obtain⟨c,D,d⟩:=bI.1 d;obtain⟨A,C,d⟩:=bI.1 d;obtain⟨B,E,d⟩:=bI.1 d;unfold uw at d;split at d
       ·obtain rfl:=az d;simp[b8,aT]
       ·cases d
      ·split at d
       ·obtain⟨a,q,d⟩:=bI.1 d;split at d
        ·rename_i r;obtain rfl:=az d;exact(mq (m+n+1) n (by omega) a).trans r
        ·cases d
       ·obtain⟨l,u,rfl⟩:=cG.1 d;obtain⟨w,z⟩:=rC _ _ _ u;show aT (m+n+1) (dx (m+n) l)=true;simp only[aT,dx];simp only[aK,cJ];refine⟨by decide,λy h=>?_⟩;obtain⟨i,o⟩:=dp h;have s:i<x.2.2.length:=by rw[<-w];exact(aZ.1 o).1
        exact ze m b self k n x.2.2[i] (bj n x _ hr (iv _)) y (z i _ y (aN s) o)
    ·rw[Gt m b self n x e f g]at d;obtain rfl:=az d;have v:x.2.2=[]:=bL (p.2.2.2.2 e);refine(mq (m+n+1) (n+1) (by omega) x).trans ?_;simp[aT,f,g,v]
def gI(n:Nat)(name:aq):List (Bh n)->Option (Bh n)
 | []=>none
 | b::l=>if b.1=name then some b else gI n name l
def MV(n:Nat):Option (Bh n)->au
 | none=>ae none 0 0
 | some b=>ae b.2.1.1 b.2.2.length b.2.1.2
theorem pd(n:Nat)(name:aq){l:List (Bh n)}{j:Nat}{b:Bh n}(c:l[j]?=some b):gI n name (l.drop j)=if b.1=name then some b else gI n name (l.drop (j+1)):=by
 obtain⟨d,a⟩:=aZ.1 c;rw[eX d,a];rfl
theorem vq(n:Nat)(name:aq)(l:List (Bh n))(r:ar)(D len B:Nat)(w:ag)(G:l.length=len)(H:len<=9223372036854775807)(z:B<=w.heap.size)(x:Hid (gL n B w r l)):ao 77 #[ae r len D,af name] w λe w'=>e=.returned (MV n (gI n name l))/\am w w':=by
 go_enter func77,ntmps77;go_wp2_with fail;go_loopw [9] (λq wr=>∃a:Nat,a<=len/\q=ab a/\Hid (am w wr/\gI n name l=gI n name (l.drop a))) (λq _=>len-(intOf q).toNat)
 case atStart=>exact⟨0,by omega,rfl,aA _ _,rfl⟩
 case round=>
 obtain⟨a,F,rfl,c⟩:=hrel;by_cases I:a<len
 ·obtain⟨b,d⟩:∃b,l[a]?=some b:=⟨l[a]'(by omega),aN _⟩;obtain⟨k,lo,rfl,C,v⟩:∃g o,r=some ⟨g,o,none⟩/\g<B/\Hid (∀(t:Nat)(f:au),(p7 n b)[t]?=some f->ai w g (o+a*2+t) f):=by
   rcases x with e|⟨g,o,e,A,y⟩
   ·rw[e]at d;simp at d
   ·exact⟨g,o,e,A,(y a _ d).1⟩
  have i:∀(t:Nat)(f:au),(p7 n b)[t]?=some f->ai wr k (lo+a*2+t) f:=λt f u=>(c.1.cell (p:=⟨k,lo+a*2+t,none⟩) (aW C z)).trans (v t f u);have E:ai wr k (lo+a*2) (af b.1):=i 0 _ rfl;have L:ai wr k (lo+a*2+1) (ae b.2.1.1 b.2.2.length b.2.1.2):=i 1 _ rfl;have J:(0:Int)<=(a:Int):=by omega
  have K:(a:Int)<(len:Int):=by omega
  have s:Hid (∀o:Obj,am w (wr.alloc o)):=λo=>c.1.alloc c.1.size o;by_cases j:b.1=name
  ·have h:Hid (gI n name l=some b):=by
     show _=_;rw[c.out.2,pd n name d,if_pos j]
   have m:Hid (MV n (gI n name l)=ae b.2.1.1 b.2.2.length b.2.1.2):=by
    show _=_;rw[h.out];rfl
   rw[j]at E;clear i c h d;go_wp2_with fail
   go_ret
   rw[m.out];exact⟨rfl,s _⟩
  ·have h:Hid (gI n name l=gI n name (l.drop (a+1))):=by
     show _=_;rw[c.out.2,pd n name d,if_neg j]
   have u:(b.1.toList==name.toList)=false:=by
    rw[g9];intro e;rw[cI,cI]at e;exact j (ByteArray.ext (Array.ext' e))
   clear i c d;go_wp2_with fail;go_roundw
   case rel=>exact⟨a+1,by omega,by go_num,s _,h⟩
   case measure=>simp[intOf];omega
 ·obtain rfl:a=len:=by omega
  have m:Hid (MV n (gI n name l)=ae none 0 0):=by
   show _=_;rw[c.out.2,pO (by omega)];rfl
  have HB:=ap c.1;clear c;go_wp2_with fail
  go_ret
  rw[m.out];exact⟨rfl,HB⟩
def tw(b:List Tc)(self:Int)(n:Nat)(x:Tm n):Option Tc:=(vl 13 b self n x).bind λa=>if bJ (13+n) a=0 then some (cn (13+n) a)else none
def nX(b:List Tc)(self:Int)(n:Nat)(x:Tm n):Option Int:=(tw b self n x).bind λt=>if t.1.1=3 then some t.1.2.1 else none
structure Dg where
 b:List Tc
 next:Int
 sends:List (Int×Tc)
 spawns:List (Int×aq×Tc)
 links:List Int
 stops:Bool
def EF(a:Int):Tc:=((3,a,.empty),(none,0),[])
def rO(self:Int){n:Nat}(a:Ac (n+1))(d:Dg):Option Dg:=
 if a.1=1 then (nX d.b self (n+1) a.2.1.1).bind λc=>(tw d.b self (n+1) a.2.1.2).map λt=>{d with sends:=d.sends++ [(c,t)]}
 else if a.1=2 then (tw d.b self (n+1) a.2.1.2).bind λt=>if cg ⟨13,(d.b[a.2.2.2.toNat]?).getD (EF 0)⟩=6 then some {d with b:=d.b.set a.2.2.2.toNat (EF d.next),next:=d.next+1,spawns:=d.spawns++ [(d.next,a.2.2.1,t)]}else none
 else if a.1=3 then (nX d.b self (n+1) a.2.1.1).map λc=>{d with links:=d.links++ [c]}
 else some {d with stops:=true}
def qE(self:Int){n:Nat}:List (Ac (n+1))->Dg->Option Dg
 | [],d=>some d
 | a::l,d=>(rO self a d).bind (qE self l)
structure Tk where
 message:Tc
 fate:Int
 sends:List (Int×Tc)
 spawns:List (Int×aq×Tc)
 links:List Int
 state:Tc
 mail:List Tc
def fI{n:Nat}(room self next:Int)(s m:Tc)(ms:List Tc)(c:Cl (n+1))(b:List Tc):Tk:=
 match qE self c.2.2 ⟨b,next,[],[],[],false⟩with
 | none=>⟨m,2,[],[],[],s,ms⟩
 | some a=>match tw a.b self (n+1) c.1.2.2 with
  | none=>⟨m,2,[],[],[],s,ms⟩
  | some t=>if (ms.map (sz 13)).sum+sz 13 t<=room then ⟨m,if a.stops then 1 else 0,a.sends,a.spawns,a.links,t,ms⟩else ⟨m,3,[],[],[],s,ms⟩
def gM{n:Nat}(name:aq)(l:List (Bh (n+1))):List (Cl (n+1)):=((gI (n+1) name l).map λb=>b.2.2).getD []
def od{n:Nat}(room:Int)(l:List (Bh (n+1)))(name:aq)(self next:Int)(s:Tc)(ms:List Tc):Option Tk:=
 (sS (gM name l) s ms 0).bind λx=>(ms[x.1]?).map λa=>fI room self next s a (ms.eraseIdx x.1) x.2.1 x.2.2
theorem yH{D:Nat}{l:List (Tm D)}{B:List Tc}(c:gJ D l=true)(d:l.map (cn D)=B):aG (λx y=>aB D x 13 y) l B=true:=by
 rw[<-d];refine qT (λy x=>aB 13 y D x) _ _ _ (λf _ b a=>dX _ _ _ _ a) (jt _ _ _ λy e=>?_);exact eI ((iJ c).2 y e).1
theorem Ly{D:Nat}{l:List (Tm D)}{B:List Tc}(b:gJ D l=true)(c:l.map (cn D)=B):gJ 13 B=true:=by
 have e:=yH b c;obtain⟨f,g⟩:=iJ b;unfold gJ;rw[<-cW _ _ _ e,f];simp only[decide_true,eV,cJ];intro k d;rw[<-c]at d;obtain⟨j,i,rfl⟩:=cu.1 d;have a:=g j i;have h:=eI a.1;simp only[Ck,aK,cv,iT];refine⟨nP a.1,?_⟩;rw[kV h,<-fR,kN a.1];exact a.2.2
theorem Mf{D n:Nat}{l:List (Tm D)}{B:List Tc}(b:gJ D l=true)(g:l.map (cn D)=B)(self:Int)(x:Tm n)(k:bJ n x=0):(oE 0 (vl D l self n x)).map (cn (D+n))=tw B self n x:=by
 have j:aJ ⟨n,x⟩:=aU.2 (bM.1 k).1;have i:=Ly b g;have a:=sE D l 13 B self (yH b g) (λd c=>aU.2 (bM.1 ((iJ b).2 d c).1).1) (λd c=>aU.2 (bM.1 ((iJ i).2 d c).1).1) n x j;unfold tw oE;cases e1:vl D l self n x with
 | none=>
  rw[e1]at a;cases e2:vl 13 B self n x with
  | none=>rfl
  | some _=>
   rw[e2]at a;exact a.elim
 | some m=>
  rw[e1]at a;cases e2:vl 13 B self n x with
  | none=>
   rw[e2]at a;exact a.elim
  | some h=>
   rw[e2]at a;have f:aB (D+n) m (13+n) h=true:=a;simp only[dj,dU];rw[cd f];by_cases e:bJ (13+n) h=0
   ·simp[e,iK f]
   ·simp[e]
theorem PE{n:Nat}{B:List Tc}(d:gJ 13 B=true){self:Int}{x:Tm n}(f:bJ n x=0){t:Tc}(a:tw B self n x=some t):bJ 13 t=0/\aT 13 t=true/\cn 13 t=t:=by
 have e:aJ ⟨n,x⟩:=aU.2 (bM.1 f).1;unfold tw at a;obtain⟨c,h,a⟩:=bI.1 a;by_cases b:bJ (13+n) c=0
 ·rw[if_pos b]at a;obtain rfl:=az a;refine⟨nP b,?_,MX b⟩;rw[kN b];exact ze 13 B self (λi g=>((iJ d).2 i g).2.2) n x e c h
 ·rw[if_neg b]at a;cases a
def l9(b a:Nat)(d c lv:au)(q:Nat):Prop:=q=b\/q=a\/d.ownBlock=some q\/c.ownBlock=some q\/lv.ownBlock=some q
def Mv(base b a:Nat)(d c lv:au)(q:Nat):Prop:=base<=q/\¬l9 b a d c lv q
structure eO (base db:Nat) (me:Int) (n D k:Nat) (nx:Int) (d:Dg) (w:ag) (l:List (Tm (D+1))) (bg bc:Nat) (sd:List (Int×Tm (D+1+n+1))) (sp:List (Int×aq×Tm (D+1+n+1))) (sv pv lv:au):Prop where
 box:w.heap[db]?=some (.cells #[ae (some ⟨bg,0,none⟩) 4 bc,ab me,ab d.next,sv,pv,lv,.bool d.stops] 170)
 own:db≠bg/\base<=db/\base<=bg/\bg<w.heap.size/\base<=w.heap.size
 bnd:gJ (D+1) l=true
 tells:l.map (cn (D+1))=d.b
 row:∀(i:Nat)(y:Tm (D+1)),l[i]?=some y->dH w bg (i*4) (D+1) y/\In w.heap.size w (D+1) y/\cD (Mv base db bg sv pv lv) (D+1) y
 free:∀j,w.frozen? ⟨bg,j,none⟩=false
 sRow:w.ownsRow base 177 5 sv sd.length (sd.flatMap λz=>Ov z.1 z.2)
 pRow:w.ownsRow base 174 6 pv sp.length (sp.flatMap λz=>Pw z.1 z.2.1 z.2.2)
 lRow:w.ownsRow base 3 1 lv d.links.length (d.links.map λu=>ab u)
 sIs:sd.map (λz=>(z.1,cn _ z.2))=d.sends
 pIs:sp.map (λz=>(z.1,z.2.1,cn _ z.2.2))=d.spawns
 sIn:∀z∈sd,bJ _ z.2=0/\In w.heap.size w _ z.2/\cD (Mv base db bg sv pv lv) _ z.2
 pIn:∀z∈sp,bJ _ z.2.2=0/\In w.heap.size w _ z.2.2/\cD (Mv base db bg sv pv lv) _ z.2.2
 apart:(sv.ownBlock≠some db/\pv.ownBlock≠some db/\lv.ownBlock≠some db)/\(sv.ownBlock≠some bg/\pv.ownBlock≠some bg/\lv.ownBlock≠some bg)/\∀q,(sv.ownBlock=some q->pv.ownBlock≠some q/\lv.ownBlock≠some q)/\(pv.ownBlock=some q->lv.ownBlock≠some q)
 few:sd.length<=k/\sp.length<=k/\d.links.length<=k/\d.next=nx+sp.length/\1<=nx/\nx<=92
def Do(base b:Nat)(self:Int)(n D k:Nat)(g:Int)(d:Dg)(S:aO)(w0 w:ag):Prop:=∃l a f h i e c lv,eO base b self n D k g d w l a f h i e c lv/\∀q,l9 b a e c lv q->S q\/w0.heap.size<=q
theorem s8{base n:Nat}{x:Tm n}{S c:aO}{w w':ag}(k:bE S w w')(f:∀q,c q->S q\/w.heap.size<=q)(d:In w.heap.size w n x)(e:cD (λq=>base<=q/\¬S q) n x):In w'.heap.size w' n x/\cD (λq=>base<=q/\¬c q) n x:=by
 refine⟨d.kee k (e.mono λq a=>a.2),(In.offB e d).mono λq a=>⟨a.1.1,λb=>?_⟩⟩;rcases f q b with b|b
 ·exact a.1.2 b
 ·have:=a.2;omega
theorem Ek{w w':ag}{n:Nat}{q:List (Tm n)}{a:ar}(c:fZ w.heap.size w n q a)(d:am w w'):fZ w'.heap.size w' n q a:=by
 rcases c.below d with c|⟨b,o,h,i,c⟩
 ·exact aj c
 ·exact ak ⟨b,o,h,aW i d.size,λf g e=>⟨(c f g e).1,(c f g e).2.mono d.size⟩⟩
section
variable {base db:Nat} {self:Int} {n D k:Nat} {nx:Int} {d:Dg} {w:ag} {l:List (Tm (D+1))} {bg bc:Nat} {sd:List (Int×Tm (D+1+n+1))} {sp:List (Int×aq×Tm (D+1+n+1))} {sv pv lv:au}
theorem eO.lt(a:eO base db self n D k nx d w l bg bc sd sp sv pv lv):db<w.heap.size:=(aI.1 a.box).1
theorem eO.high(c:eO base db self n D k nx d w l bg bc sd sp sv pv lv):∀q,l9 db bg sv pv lv q->base<=q:=by
 intro q a;obtain⟨_,i,j,_⟩:=c.own;have f:∀{b:TypeId}{r o:Nat}{g:au}{p:cX},w.ownsRow base b r g o p->g.ownBlock=some q->base<=q:=λm e=>by
  rcases m.2 with⟨b,_⟩|⟨h,cap,s,b,t,_⟩
  ·rw[b]at e;cases e
  ·rw[b]at e;have:h=q:=az e;omega
 rcases a with rfl|rfl|a|a|a
 ·exact i
 ·exact j
 ·exact f c.sRow a
 ·exact f c.pRow a
 ·exact f c.lRow a
theorem eO.later(a:eO base db self n D k nx d w l bg bc sd sp sv pv lv){w':ag}(e:am w w'):eO base db self n D k nx d w' l bg bc sd sp sv pv lv:=by
 have h:=aR e (λ_=>False);have i:=e.size;obtain⟨t,u,v,q,y⟩:=a.own;refine⟨(e.block db a.lt).trans a.box,⟨t,u,v,by omega,by omega⟩,a.bnd,a.tells,λs x r=>?_,λo=>?_,bB a.sRow h λ_ _ g=>g,bB a.pRow h λ_ _ g=>g,bB a.lRow h λ_ _ g=>g,a.sIs,a.pIs,λm j=>?_,λm j=>?_,a.apart,a.few⟩
 ·obtain⟨f,b,c⟩:=a.row s x r;exact⟨f.below e q,(b.below e).mono i,c⟩
 ·exact(e.frozen (p:=⟨bg,o,none⟩) q).trans (a.free o)
 ·obtain⟨f,b,c⟩:=a.sIn m j;exact⟨f,(b.below e).mono i,c⟩
 ·obtain⟨f,b,c⟩:=a.pIn m j;exact⟨f,(b.below e).mono i,c⟩
theorem eO.more(a:eO base db self n D k nx d w l bg bc sd sp sv pv lv){g:Nat}(i:k<=g):eO base db self n D g nx d w l bg bc sd sp sv pv lv:=by
 obtain⟨h,b,c,e,f⟩:=a.few;exact{a with few:=⟨by omega,by omega,by omega,e,f⟩}
theorem eO.lies(a:eO base db self n D k nx d w l bg bc sd sp sv pv lv):fZ w.heap.size w (D+1) l (some ⟨bg,0,none⟩):=ak ⟨bg,0,rfl,a.own.2.2.2.1,λi y b=>by
 rw[cT]
 exact⟨(a.row i y b).1,(a.row i y b).2.1⟩⟩
theorem eO.value(a:eO base db self n D k nx d w l bg bc sd sp sv pv lv)(x:Tm (n+1))(r:In base w (n+1) x)(g:bJ (n+1) x=0)(o:1<=self/\self<=99):∀W,am w W->ao 117 #[aH db,.agg #[ab x.1.1,ab x.1.2.1,af x.1.2.2,ae x.2.1.1 x.2.2.length x.2.1.2]] W (xN (D+1+n) (oE 0 (vl (D+1) l self (n+1) x)) W):=by
 intro W b;have i:Gk (bJ (n+1) x) (gJ (D+1) l) self=0:=by simp[Gk,g,a.bnd,o]
 have f:=(iJ a.bnd).1;have m:=a.lies;have h:=a.own.2.2.2.2;have q:=zQ (D+1+n) 0 (vl (D+1) l self (n+1) x) x.1.1 x.1.2.1 x.1.2.2 x.2.1.1 x.2.2.length x.2.1.2 (some ⟨bg,0,none⟩) bc self db W (aW a.lt b.size) ((b.cell (p:=⟨db,0,none⟩) a.lt).trans (ah a.box 0)) ((b.cell (p:=⟨db,1,none⟩) a.lt).trans (ah a.box 1)) λe j=>by
  have c:=b.trans (j.mono b.size);have:=EN n (D+1) x l (some ⟨bg,0,none⟩) bc e.heap.size self e ((r.below (c.mono h)).mono (aF h c.size)) (Ek m c) (av _) (fD g) (by rw[f];decide) (λt s=>fD ((iJ a.bnd).2 t s).1);rw[i,f]at this;exact this
 exact q
theorem eO.process(i:eO base db self n D k nx d w l bg bc sd sp sv pv lv)(x:Tm (n+1))(z:In base w (n+1) x)(m:bJ (n+1) x=0)(u:1<=self/\self<=99):∀W,am w W->ao 201 #[aH db,.agg #[ab x.1.1,ab x.1.2.1,af x.1.2.2,ae x.2.1.1 x.2.2.length x.2.1.2]] W λe w'=>∃g,e=.returned (.tuple #[ab g,.bool (nX d.b self (n+1) x).isSome])/\Hid (am W w'/\∀v,nX d.b self (n+1) x=some v->g=v):=by
 intro W j;have a:=Mf i.bnd i.tells self x m;refine(BB (D+1+n) _ x.1.1 x.1.2.1 x.1.2.2 x.2.1.1 x.2.2.length x.2.1.2 db W λs t=>i.value x z m u s (j.trans (t.mono j.size))).mono ?_;rintro e w' ⟨g,rfl,p⟩;obtain⟨q,r⟩:=p;have o:F4 (oE 0 (vl (D+1) l self (n+1) x))=(nX d.b self (n+1) x).isSome/\∀v,nX d.b self (n+1) x=some v->g=v:=by
  unfold nX;rw[<-a];cases e:oE 0 (vl (D+1) l self (n+1) x)with
  | none=>exact⟨rfl,λv a=>by cases a⟩
  | some c=>
   have A:(cn (D+1+n+1) c).1=c.1:=rfl;have y:=r c e;simp only[nG,dU,F4];by_cases h:c.1.1=3
   ·have f:(cn (D+1+n+1) c).1.1=3:=h;refine⟨?_,λv a=>?_⟩
    ·erw [if_pos f]
     simp[h]
    ·erw [if_pos f]at a
     rw[y,<-az a];rfl
   ·have f:¬(cn (D+1+n+1) c).1.1=3:=h;refine⟨?_,λv a=>?_⟩
    ·erw [if_neg f]
     simp[h]
    ·erw [if_neg f]at a
     cases a
 exact⟨g,by rw[o.1],q,o.2⟩
end
section
variable {base db:Nat} {self:Int} {n D k:Nat} {nx:Int} {d:Dg} {w:ag} {l:List (Tm (D+1))} {bg bc:Nat} {sd:List (Int×Tm (D+1+n+1))} {sp:List (Int×aq×Tm (D+1+n+1))} {sv pv lv:au}
def zq(base db:Nat)(self:Int)(n D k:Nat)(nx:Int)(d:Dg)(a:Ac (n+1))(S:aO)(w:ag)(t:Bool)(w':ag):Prop:=
 bE S w w'/\t=(rO self a d).isSome/\∀b,rO self a d=some b->Do base db self n D (k+1) nx b S w w'
theorem nr{w:ag}{base:Nat}{e:TypeId}{g m:Nat}{v:au}{xs:cX}(f:w.ownsRow base e g v m xs):∃a c,v=ae a m c:=by
 rcases f.2 with⟨b,d⟩|⟨i,cap,h,b,_⟩
 ·exact⟨none,0,by rw[b,d]⟩
 ·exact⟨_,cap,b⟩
theorem oW{w:ag}{b:Nat}{v0 v1 v2 v3 a c d:au}{t:TypeId}(e:w.heap[b]?=some (.cells #[v0,v1,v2,v3,a,c,d] t)):(∀v,(w.setCell ⟨b,3,none⟩ v).heap[b]?=some (.cells #[v0,v1,v2,v,a,c,d] t))/\(∀v,(w.setCell ⟨b,4,none⟩ v).heap[b]?=some (.cells #[v0,v1,v2,v3,v,c,d] t))/\(∀v,(w.setCell ⟨b,5,none⟩ v).heap[b]?=some (.cells #[v0,v1,v2,v3,a,v,d] t))/\(∀v,(w.setCell ⟨b,2,none⟩ v).heap[b]?=some (.cells #[v0,v1,v,v3,a,c,d] t))/\∀v,(w.setCell ⟨b,6,none⟩ v).heap[b]?=some (.cells #[v0,v1,v2,v3,a,c,v] t):=by
 refine⟨λv=>?_,λv=>?_,λv=>?_,λv=>?_,λv=>?_⟩<;>
 ·unfold World.setCell;simp[bT,e]
theorem uD{w:ag}{b:Nat}{cs:Array au}{t:TypeId}(a:w.heap[b]?=some (.cells cs t))(j:Nat):w.frozen? ⟨b,j,none⟩=false:=by simp[World.frozen?,a]
theorem eO.frame(c:eO base db self n D k nx d w l bg bc sd sp sv pv lv){w':ag}{j h g:au}(f:bE (l9 db bg sv pv lv) w w')(m:∀q,l9 db bg j h g q->l9 db bg sv pv lv q\/w.heap.size<=q):(∀(i:Nat)(y:Tm (D+1)),l[i]?=some y->In w'.heap.size w' (D+1) y/\cD (Mv base db bg j h g) (D+1) y)/\(∀a∈sd,bJ _ a.2=0/\In w'.heap.size w' _ a.2/\cD (Mv base db bg j h g) _ a.2)/\(∀a∈sp,bJ _ a.2.2=0/\In w'.heap.size w' _ a.2.2/\cD (Mv base db bg j h g) _ a.2.2)/\Below base w w':=
 ⟨λi y o=>s8 f m (c.row i y o).2.1 (c.row i y o).2.2,λa e=>⟨(c.sIn a e).1,s8 f m (c.sIn a e).2.1 (c.sIn a e).2.2⟩,λa e=>⟨(c.pIn a e).1,s8 f m (c.pIn a e).2.1 (c.pIn a e).2.2⟩,f.below c.own.2.2.2.2 λb p q=>by
  have:=c.high b q
  omega⟩
theorem eO.link(g:eO base db self n D k nx d w l bg bc sd sp sv pv lv)(a:Ac (n+1))(P:jd (n+1) base w a)(T:bJ (n+1) a.2.1.1=0)(O:a.1=3)(Y:1<=self/\self<=99)(am:k<=1000):ao 188 #[aH db,PM a] w λe w'=>∃t,e=.returned (.bool t)/\Hid (zq base db self n D k nx d a (l9 db bg sv pv lv) w t w'):=by
 have J:=g.lRow;obtain⟨r,s,rfl⟩:=nr J;obtain⟨f1,f2,f3,f4⟩:=g.few;have u:rO self a d=(nX d.b self (n+1) a.2.1.1).map λx=>{d with links:=d.links++ [x]}:=by
  simp[rO,O]
 refine(Hz a.1 a.2.1.1.1.1 a.2.1.1.1.2.1 a.2.1.1.1.2.2 a.2.1.1.2.1.1 a.2.1.1.2.2.length a.2.1.1.2.1.2 a.2.1.2.1.1 a.2.1.2.1.2.1 a.2.1.2.1.2.2 a.2.1.2.2.1.1 a.2.1.2.2.2.length a.2.1.2.2.1.2 a.2.2.1 a.2.2.2 base db r d.links.length s _ w (nX d.b self (n+1) a.2.1.1).isSome (λx=>∀y,nX d.b self (n+1) a.2.1.1=some y->x=y) (by omega) g.lt g.own.2.2.2.2 ⟨ah g.box 5,uD g.box 5⟩ J g.apart.1.2.2 (g.process a.2.1.1 P.2.1 T Y)).mono ?_;rintro e w' ⟨rfl,U,v⟩;refine⟨_,rfl,?_⟩;cases hp:nX d.b self (n+1) a.2.1.1 with
 | none=>
  have Q:=U (by rw[hp];rfl);refine⟨aR Q _,by rw[u,hp];rfl,λN o=>?_⟩;rw[u,hp]at o;cases o
 | some y=>
  obtain⟨x,m,c,z,aa,X,j,i,rfl⟩:=v (by rw[hp];rfl);obtain rfl:=aa y hp;have S:z.heap[db]?=_:=(j.block db g.lt λf=>g.apart.1.2.2 f).trans g.box;have C:bE (l9 db bg sv pv (ae r d.links.length s)) w (z.setCell ⟨db,5,none⟩ (ae (some ⟨m,0,none⟩) (d.links.length+1) c)):=bE.trans (j.mono λf _ h=>ak (ak (ak (ak h)))) (bN _ _ _ _) λf _ h=>aj h;have p:∀f,f<w.heap.size->¬(Value.slice r d.links.length s).ownBlock=some f->m≠f:=λf h V e=>by
   rcases i with i|i
   ·rw[e]at i;exact V i
   ·omega
  have H:∀f,l9 db bg sv pv (ae (some ⟨m,0,none⟩) (d.links.length+1) c) f->l9 db bg sv pv (ae r d.links.length s) f\/w.heap.size<=f:=λf h=>by
   rcases h with h|h|h|h|h
   ·exact aj (aj h)
   ·exact aj (ak (aj h))
   ·exact aj (ak (ak (aj h)))
   ·exact aj (ak (ak (ak (aj h))))
   ·have:m=f:=az h;subst this;rcases i with i|i
    ·exact aj (ak (ak (ak (ak i))))
    ·exact ak i
  obtain⟨ag,ai,al,aq⟩:=g.frame C H;refine⟨C,by rw[u,hp];rfl,λN o=>?_⟩;rw[u,hp]at o;obtain rfl:=az o;have an:=C.size;obtain⟨F,ad,af,G,ap⟩:=g.own;have q:=bN z db 5 (ae (some ⟨m,0,none⟩) (d.links.length+1) c);have Z:∀f,sv.ownBlock=some f->f<w.heap.size:=λf h=>by
   obtain⟨M,B⟩:=eN g.sRow f h;exact(aI.1 B).1
  have W:∀f,pv.ownBlock=some f->f<w.heap.size:=λf h=>by
   obtain⟨M,B⟩:=eN g.pRow f h;exact(aI.1 B).1
  have A:¬(Value.slice r d.links.length s).ownBlock=some bg:=g.apart.2.1.2.2;refine⟨l,bg,bc,sd,sp,sv,pv,_,⟨(oW S).2.2.1 _,⟨F,ad,af,by omega,by omega⟩,g.bnd,g.tells,λK L v=>⟨?_,ag K L v⟩,λab=>?_,?_,?_,?_,g.sIs,g.pIs,ai,al,⟨⟨g.apart.1.1,g.apart.1.2.1,?_⟩,⟨g.apart.2.1.1,g.apart.2.1.2.1,?_⟩,λf=>⟨λh=>⟨((g.apart.2.2 f).1 h).1,?_⟩,λh=>?_⟩⟩,⟨by omega,by omega,by simp;omega,f4⟩⟩,H⟩
  ·exact((g.row K L v).1.kee j G A).kee q (by have:=j.size;omega) (λe=>F e.symm)
  ·have R:(z.setCell ⟨db,5,none⟩ (ae (some ⟨m,0,none⟩) (d.links.length+1) c)).heap[bg]?=w.heap[bg]? :=(q.block bg (by have:=j.size;omega) (λe=>F e.symm)).trans (j.block bg G A);have I:=g.free ab;unfold World.frozen? at I ⊢;rw[R];exact I
  ·exact bB (bB g.sRow j λf h E=>((g.apart.2.2 f).1 h).2 E) q λf h e=>g.apart.1.1 (by rw[h,e])
  ·exact bB (bB g.pRow j λf h E=>(g.apart.2.2 f).2 h E) q λf h e=>g.apart.1.2.1 (by rw[h,e])
  ·have:=bB X q λf h e=>p db g.lt g.apart.1.2.2 (by
     have:m=f:=az h
     rw[this,e])
   simpa using this
  ·exact λe=>p db g.lt g.apart.1.2.2 (az e)
  ·exact λe=>p bg G A (az e)
  ·exact λe=>p f (Z f h) (((g.apart.2.2 f).1 h).2) (az e)
  ·exact λe=>p f (W f h) ((g.apart.2.2 f).2 h) (az e)
end
section
variable {base db:Nat} {self:Int} {n D k:Nat} {nx:Int} {d:Dg} {w:ag} {l:List (Tm (D+1))} {bg bc:Nat} {sd:List (Int×Tm (D+1+n+1))} {sp:List (Int×aq×Tm (D+1+n+1))} {sv pv lv:au}
theorem NS{N:Nat}{o:Option (Tm N)}{c:Tm N}(a:oE 0 o=some c):bJ N c=0:=by
 unfold oE at a;rw[if_pos rfl]at a;obtain⟨d,_,a⟩:=bI.1 a;by_cases b:bJ N d=0
 ·rw[if_pos b]at a;rw[<-az a];exact b
 ·rw[if_neg b]at a;cases a
theorem eO.told(e:eO base db self n D k nx d w l bg bc sd sp sv pv lv)(x:Tm (n+1))(h:bJ (n+1) x=0):(oE 0 (vl (D+1) l self (n+1) x)).isSome=(tw d.b self (n+1) x).isSome/\∀(a:Tm (D+1+n+1)) t,tw d.b self (n+1) x=some t->aB _ a (D+1+n+1) ((oE 0 (vl (D+1) l self (n+1) x)).getD (xj (D+1+n)))=true->bJ _ a=0/\aT _ a=true/\cn _ a=t:=by
 have m:=Mf e.bnd e.tells self x h;refine⟨by rw[<-m,Option.isSome_map],λa t f c=>?_⟩;have p:=PE (Ly e.bnd e.tells) h f;rw[<-m]at f;obtain⟨q,o,rfl⟩:=cG.1 f;rw[o]at c;have c:aB _ a _ q=true:=c;have i:=(cd c).trans (NS o);have j:=iK c;refine⟨i,?_,j⟩;have g:=p.2.1;rw[<-j,kN i]at g;exact g
theorem eO.send(h:eO base db self n D k nx d w l bg bc sd sp sv pv lv)(a:Ac (n+1))(P:jd (n+1) base w a)(ad:bJ (n+1) a.2.1.1=0)(Q:bJ (n+1) a.2.1.2=0)(Z:a.1=1)(V:1<=self/\self<=99)(aC:k<=1000):ao 186 #[aH db,PM a] w λe w'=>∃t,e=.returned (.bool t)/\Hid (zq base db self n D k nx d a (l9 db bg sv pv lv) w t w'):=by
 have U:=h.sRow;obtain⟨y,z,rfl⟩:=nr U;obtain⟨f1,f2,f3,f4⟩:=h.few;have s:rO self a d=(nX d.b self (n+1) a.2.1.1).bind λx=>(tw d.b self (n+1) a.2.1.2).map λt=>{d with sends:=d.sends++ [(x,t)]}:=by
  simp[rO,Z]
 obtain⟨ai,al⟩:=h.told (self:=self) a.2.1.2 Q;refine(IZ (D+1+n) a.1 a.2.1.1.1.1 a.2.1.1.1.2.1 a.2.1.1.1.2.2 a.2.1.1.2.1.1 a.2.1.1.2.2.length a.2.1.1.2.1.2 a.2.1.2.1.1 a.2.1.2.1.2.1 a.2.1.2.1.2.2 a.2.1.2.2.1.1 a.2.1.2.2.2.length a.2.1.2.2.1.2 a.2.2.1 a.2.2.2 base db y sd.length z _ w (nX d.b self (n+1) a.2.1.1).isSome (λx=>∀A,nX d.b self (n+1) a.2.1.1=some A->x=A) (oE 0 (vl (D+1) l self (n+1) a.2.1.2)) (by omega) h.lt h.own.2.2.2.2 ⟨ah h.box 3,uD h.box 3⟩ U h.apart.1.1 (h.process a.2.1.1 P.2.1 ad V) (h.value a.2.1.2 P.2.2.1 Q V)).mono ?_;rintro e w' ⟨rfl,K,i⟩;refine⟨_,rfl,?_⟩;rw[ai]at K i ⊢;cases hp:nX d.b self (n+1) a.2.1.1 with
 | none=>
  have E:=K (by rw[hp];rfl);refine⟨aR E _,by rw[s,hp];rfl,λN p=>?_⟩;rw[s,hp]at p;cases p
 | some A=>
  cases g:tw d.b self (n+1) a.2.1.2 with
  | none=>
   have E:=K (by rw[hp,g];rfl);refine⟨aR E _,by rw[s,hp,g];rfl,λN p=>?_⟩;rw[s,hp,g]at p;cases p
  | some t=>
   obtain⟨x,r,j,c,B,am,ar,ap,W,ag,q,m,rfl⟩:=i (by rw[hp,g];rfl);obtain rfl:=am A hp;obtain⟨an,_,au⟩:=al r t g ar;have ab:B.heap[db]?=_:=(q.block db h.lt λf=>h.apart.1.1 f).trans h.box;have I:bE (l9 db bg (ae y sd.length z) pv lv) w (B.setCell ⟨db,3,none⟩ (ae (some ⟨j,0,none⟩) (sd.length+1) c)):=bE.trans (q.mono λf _ g=>ak (ak (aj g))) (bN _ _ _ _) λf _ g=>aj g;have v:∀f,f<w.heap.size->¬(Value.slice y sd.length z).ownBlock=some f->j≠f:=λf g af e=>by
    rcases m with m|m
    ·rw[e]at m;exact af m
    ·omega
   have O:∀f,l9 db bg (ae (some ⟨j,0,none⟩) (sd.length+1) c) pv lv f->l9 db bg (ae y sd.length z) pv lv f\/w.heap.size<=f:=λf g=>by
    rcases g with g|g|g|g|g
    ·exact aj (aj g)
    ·exact aj (ak (aj g))
    ·have:j=f:=az g;subst this;rcases m with m|m
     ·exact aj (ak (ak (aj m)))
     ·exact ak m
    ·exact aj (ak (ak (ak (aj g))))
    ·exact aj (ak (ak (ak (ak g))))
   obtain⟨ay,aA,aB,aG⟩:=h.frame I O;refine⟨I,by rw[s,hp,g];rfl,λN p=>?_⟩;rw[s,hp,g]at p;obtain rfl:=az p;have aD:=I.size;have aE:=q.size;obtain⟨L,aw,ax,M,aF⟩:=h.own;have u:=bN B db 3 (ae (some ⟨j,0,none⟩) (sd.length+1) c);have S:∀f,lv.ownBlock=some f->f<w.heap.size:=λf g=>by
    obtain⟨Y,G⟩:=eN h.lRow f g;exact(aI.1 G).1
   have T:∀f,pv.ownBlock=some f->f<w.heap.size:=λf g=>by
    obtain⟨Y,G⟩:=eN h.pRow f g;exact(aI.1 G).1
   have F:¬(Value.slice y sd.length z).ownBlock=some bg:=h.apart.2.1.1;have aq:cD (Mv base db bg (ae (some ⟨j,0,none⟩) (sd.length+1) c) pv lv) _ r:=W.mono λf g=>by
    have:=h.lt;refine⟨by omega,λo=>?_⟩;rcases o with o|o|o|o|o
    ·omega
    ·omega
    ·exact g.2 (az o).symm
    ·have:=T f o;omega
    ·have:=S f o;omega
   refine⟨l,bg,bc,sd++ [(x,r)],sp,_,pv,lv,⟨(oW ab).1 _,⟨L,aw,ax,by omega,by omega⟩,h.bnd,h.tells,λX C i=>⟨?_,ay X C i⟩,λav=>?_,?_,?_,?_,?_,h.pIs,λC i=>?_,aB,⟨⟨?_,h.apart.1.2.1,h.apart.1.2.2⟩,⟨?_,h.apart.2.1.2.1,h.apart.2.1.2.2⟩,λf=>⟨λg=>⟨λe=>?_,λe=>?_⟩,(h.apart.2.2 f).2⟩⟩,⟨by simp;omega,by omega,by show d.links.length<=k+1;omega,f4⟩⟩,O⟩
   ·exact((h.row X C i).1.kee q M F).kee u (by omega) (λe=>L e.symm)
   ·have aa:(B.setCell ⟨db,3,none⟩ (ae (some ⟨j,0,none⟩) (sd.length+1) c)).heap[bg]?=w.heap[bg]? :=(u.block bg (by omega) (λe=>L e.symm)).trans (q.block bg M F);have R:=h.free av;unfold World.frozen? at R ⊢;rw[aa];exact R
   ·have:=bB ag u λf g e=>v db h.lt h.apart.1.1 (by
      have:j=f:=az g
      rw[this,e])
    simpa using this
   ·exact bB (bB h.pRow q λf g J=>((h.apart.2.2 f).1 J).1 g) u λf g e=>h.apart.1.2.1 (by rw[g,e])
   ·exact bB (bB h.lRow q λf g J=>((h.apart.2.2 f).1 J).2 g) u λf g e=>h.apart.1.2.2 (by rw[g,e])
   ·simp[h.sIs,au]
   ·rcases de.1 i with i|i
    ·exact aA C i
    ·obtain rfl:=dC.1 i;refine⟨an,?_,aq⟩;refine ap.kee u (W.mono λf g e=>?_);have:=h.lt;omega
   ·exact λe=>v db h.lt h.apart.1.1 (az e)
   ·exact λe=>v bg M F (az e)
   ·have H:j=f:=az g;exact v f (T f e) (λr=>((h.apart.2.2 f).1 r).1 e) H
   ·have H:j=f:=az g;exact v f (S f e) (λr=>((h.apart.2.2 f).1 r).2 e) H
end
theorem oK(w:ag)(g o:Nat)(v0 v1 v2 v3:au):bE (λb=>b=g) w (df w g o v0 v1 v2 v3):=
 bE.trans (bE.trans (bE.trans (bN w g o v0) (bN _ g (o+1) v1) λ_ _ a=>a) (bN _ g (o+2) v2) λ_ _ a=>a) (bN _ g (o+3) v3) λ_ _ a=>a
theorem Ct{w:ag}{g o:Nat}{v0 v1 v2 v3:au}(j:Nat)(a:j<o\/o+4<=j):(df w g o v0 v1 v2 v3).cell? ⟨g,j,none⟩=w.cell? ⟨g,j,none⟩:=by
 unfold df;rw[dP j (by omega),dP j (by omega),dP j (by omega),dP j (by omega)]
theorem yC{w:ag}{g o:Nat}{f h i j:au}(v0 v1 v2 v3:au)(a:ai w g o f/\ai w g (o+1) h/\ai w g (o+2) i/\ai w g (o+3) j):(df w g o v0 v1 v2 v3).cell? ⟨g,o,none⟩=some v0/\(df w g o v0 v1 v2 v3).cell? ⟨g,o+1,none⟩=some v1/\(df w g o v0 v1 v2 v3).cell? ⟨g,o+2,none⟩=some v2/\(df w g o v0 v1 v2 v3).cell? ⟨g,o+3,none⟩=some v3:=by
 obtain⟨b,c,d,e⟩:=a;unfold df;refine⟨?_,?_,?_,?_⟩
 ·rw[dP o (by omega),dP o (by omega),dP o (by omega)];exact iD _ _ _ b
 ·rw[dP (o+1) (by omega),dP (o+1) (by omega)];exact iD _ _ _ ((dP (o+1) (by omega)).trans c)
 ·rw[dP (o+2) (by omega)];exact iD _ _ _ ((dP (o+2) (by omega)).trans ((dP (o+2) (by omega)).trans d))
 ·exact iD _ _ _ ((dP (o+3) (by omega)).trans ((dP (o+3) (by omega)).trans ((dP (o+3) (by omega)).trans e)))
theorem tT{w:ag}{g o:Nat}{v0 v1 v2 v3:au}(j:Nat):(df w g o v0 v1 v2 v3).frozen? ⟨g,j,none⟩=w.frozen? ⟨g,j,none⟩:=by
 unfold df;rw[ii,ii,ii,ii]
theorem G4(w:ag)(p:Addr):w.drew.cell? p=w.cell? p:=rfl
theorem BC(w:ag)(p:Addr):w.drew.frozen? p=w.frozen? p:=rfl
theorem dH.far{w w':ag}{g o:Nat}{n:Nat}{x:Tm n}(b:dH w g o n x)(a:∀j,o<=j->j<o+4->w'.cell? ⟨g,j,none⟩=w.cell? ⟨g,j,none⟩):dH w' g o n x:=by
 cases n with
 | zero=>exact b.elim
 | succ n=>
  obtain⟨c,d,e,f⟩:=b;exact⟨(a _ (by omega) (by omega)).trans c,(a _ (by omega) (by omega)).trans d,(a _ (by omega) (by omega)).trans e,(a _ (by omega) (by omega)).trans f⟩
theorem Pm(a:Int)(D:Nat)(h:1<=a/\a<=99):Ck (D+1) (b8 3 a D)=true/\cn (D+1) (b8 3 a D)=EF a:=by
 refine⟨?_,rfl⟩;have f:cr (D+1) (b8 3 a D)=true:=by
  rw[<-aU];intro b c;have:b=((3,a,.empty),(none,0,0)):=by simpa [aC,b8]using c
  subst this;have g:rk a 1 99=true:=by simp[rk];omega
  simp[cQ,g]
 have d:bJ (D+1) (b8 3 a D)=0:=bM.2 ⟨f,by simp[fU,b8],by simp[sz,b8]⟩;have e:aT (D+1) (b8 3 a D)=true:=by simp[aT,b8]
 simp only[Ck,d,aK,iT];refine⟨rfl,ak ?_⟩;rw[<-fR];exact e
theorem MQ{D:Nat}{l:List (Tm D)}(a:gJ D l=true)(i:Nat){y:Tm D}(c:Ck D y=true):gJ D (l.set i y)=true:=by
 simp only[gJ,List.length_set,aK,cw,cJ]at a ⊢;refine⟨a.1,λx b=>?_⟩;rcases tC b with b|rfl
 ·exact a.2 x b
 ·exact c
section
variable {base db:Nat} {self:Int} {n D k:Nat} {nx:Int} {d:Dg} {w:ag} {l:List (Tm (D+1))} {bg bc:Nat} {sd:List (Int×Tm (D+1+n+1))} {sp:List (Int×aq×Tm (D+1+n+1))} {sv pv lv:au}
theorem eO.spawn(h:eO base db self n D k nx d w l bg bc sd sp sv pv lv)(a:Ac (n+1))(aO:jd (n+1) base w a)(al:bJ (n+1) a.2.1.2=0)(aM:a.1=2)(aZ:ex a.2.2.1=true)(bq:0<=a.2.2.2/\a.2.2.2<4)(a1:1<=self/\self<=99)(bk:k<=7):ao 187 #[aH db,PM a] w λe w'=>∃t,e=.returned (.bool t)/\Hid (zq base db self n D k nx d a (l9 db bg sv pv lv) w t w'):=by
 have au:=h.pRow;obtain⟨N,O,rfl⟩:=nr au;obtain⟨f1,f2,f3,f4,f5,f6⟩:=h.few;obtain⟨m,Z⟩:∃m:Nat,a.2.2.2=(m:Int):=⟨a.2.2.2.toNat,by omega⟩;have a4:m<4:=by omega
 have bj:=(iJ h.bnd).1;obtain⟨p,ay⟩:∃p,l[m]?=some p:=⟨l[m]'(by omega),aN _⟩;obtain⟨y1,y2,bv⟩:=h.row m p ay;have aS:d.b[m]?=some (cn (D+1) p):=by rw[<-h.tells,dn,ay];rfl
 have G:rO self a d=(tw d.b self (n+1) a.2.1.2).bind λt=>if p.1.1=6 then some {d with b:=d.b.set m (EF d.next),next:=d.next+1,spawns:=d.spawns++ [(d.next,a.2.2.1,t)]}else none:=by
  have aW:cg ⟨13,(d.b[a.2.2.2.toNat]?).getD (EF 0)⟩=p.1.1:=by
   rw[Z,Int.toNat_natCast,aS];rfl
  have aX:¬a.1=1:=by omega
  unfold rO;rw[if_neg aX,if_pos aM,aW,Z,Int.toNat_natCast]
 obtain⟨a2,a3⟩:=h.told (self:=self) a.2.1.2 al
 have q:=EY (D+1+n) a.1 a.2.1.1.1.1 a.2.1.1.1.2.1 a.2.1.1.1.2.2 a.2.1.1.2.1.1 a.2.1.1.2.2.length a.2.1.1.2.1.2 a.2.1.2.1.1 a.2.1.2.1.2.1 a.2.1.2.1.2.2 a.2.1.2.2.1.1 a.2.1.2.2.2.length a.2.1.2.2.1.2 a.2.2.1 m base db N sp.length O _ w (oE 0 (vl (D+1) l self (n+1) a.2.1.2)) bg bc d.next p.1.1 p.1.2.1 p.1.2.2 p.2.1.1 p.2.2.length p.2.1.2 a4 (by omega) h.lt h.own.2.2.2.1 h.own.1 h.own.2.2.2.2 (by omega) (by omega) (by
   simp only[ex,rk,aK,cw]at aZ
   omega)
  ⟨ah h.box 4,ah h.box 0,ah h.box 2,λj=>uD h.box j,h.free⟩ au ⟨h.apart.1.2.1,h.apart.2.1.2.1⟩ y1 (λaE=>jQ _ _ _ _ _ _ aE) (h.value a.2.1.2 aO.2.2.1 al a1)
 rw[<-Z]at q;refine q.mono ?_;rintro e w' ⟨rfl,Y,aB⟩;refine⟨_,rfl,?_⟩;rw[a2]at Y aB ⊢;cases f:tw d.b self (n+1) a.2.1.2 with
 | none=>
  have U:=Y (by rw[f];rfl);refine⟨aR U _,by rw[G,f];rfl,λT r=>?_⟩;rw[G,f]at r;cases r
 | some t=>
  by_cases F:p.1.1=6;rotate_left
  ·have U:=Y (by rw[f];simp[F]);refine⟨aR U _,by rw[G,f];simp[F],λT r=>?_⟩;rw[G,f]at r;simp[F]at r
  ·obtain⟨z,g,c,aC,y,E,ba,a8,R,a0,B,s,ax,aa,aw⟩:=aB (by rw[f];simp[F]);obtain⟨a5,_,bb⟩:=a3 z t f ba;have aP:aC.heap[db]?=_:=(B.block db h.lt λi=>h.apart.1.2.1 i).trans h.box;obtain⟨H,bd,be,S,bt⟩:=h.own;have bp:=B.size;have V:=(oW aP).2.1 (ae (some ⟨g,0,none⟩) (sp.length+1) c);rw[<-ax]at V;have u:bE (λb=>b=db) aC y:=by rw[ax];exact bN _ _ _ _
   have C:bE (λb=>b=bg) y E:=by
    rw[aa];exact bE.trans (oK y bg (m*4) _ _ _ _) (aR ((aA _ _).drew) _) λ_ _ e=>e
   have aQ:E.heap[db]?=_:=(C.block db (aI.1 V).1 H).trans V;have v:bE (λb=>b=db) E w':=by rw[aw];exact bN _ _ _ _
   have ai:=(oW aQ).2.2.2.1 (ab (d.next+1));rw[<-aw]at ai;have bm:=u.size;have bn:=C.size;have bo:=v.size;have ap:bE (l9 db bg sv (ae N sp.length O) lv) w w':=bE.trans (bE.trans (bE.trans (B.mono λi _ f=>ak (ak (ak (aj f)))) u λi _ f=>aj f) C λi _ f=>ak (aj f)) v λi _ f=>aj f;have A:∀i,i<w.heap.size->¬(Value.slice N sp.length O).ownBlock=some i->g≠i:=λi f aY e=>by
    rcases s with s|s
    ·rw[e]at s;exact aY s
    ·omega
   have ag:∀i,l9 db bg sv (ae (some ⟨g,0,none⟩) (sp.length+1) c) lv i->l9 db bg sv (ae N sp.length O) lv i\/w.heap.size<=i:=λi f=>by
    rcases f with f|f|f|f|f
    ·exact aj (aj f)
    ·exact aj (ak (aj f))
    ·exact aj (ak (ak (aj f)))
    ·have:g=i:=az f;subst this;rcases s with s|s
     ·exact aj (ak (ak (ak (aj s))))
     ·exact ak s
    ·exact aj (ak (ak (ak (ak f))))
   obtain⟨bf,bh,bi,bu⟩:=h.frame ap ag;refine⟨ap,by rw[G,f];simp[F],λT r=>?_⟩;rw[G,f]at r;have r:some {d with b:=d.b.set m (EF d.next),next:=d.next+1,spawns:=d.spawns++ [(d.next,a.2.2.1,t)]}=some T:=by simpa [F]using r
   obtain rfl:=az r;have aq:∀i,lv.ownBlock=some i->i<w.heap.size:=λi f=>by
    obtain⟨aF,W⟩:=eN h.lRow i f;exact(aI.1 W).1
   have av:∀i,sv.ownBlock=some i->i<w.heap.size:=λi f=>by
    obtain⟨aF,W⟩:=eN h.sRow i f;exact(aI.1 W).1
   have P:¬(Value.slice N sp.length O).ownBlock=some bg:=h.apart.2.1.2.1;have a9:cD (Mv base db bg sv (ae (some ⟨g,0,none⟩) (sp.length+1) c) lv) _ z:=R.mono λi f=>by
    have:=h.lt;refine⟨by omega,λq=>?_⟩;rcases q with q|q|q|q|q
    ·omega
    ·omega
    ·have:=av i q;omega
    ·exact f.2 (az q).symm
    ·have:=aq i q;omega
   have ar:=Pm d.next D (by omega)
   -- the row of what is bound
   have I:∀j,y.cell? ⟨bg,j,none⟩=w.cell? ⟨bg,j,none⟩:=λj=>(u.cell j (by omega) (λe=>H e.symm)).trans (B.cell j S P);have K:∀j,w'.cell? ⟨bg,j,none⟩=E.cell? ⟨bg,j,none⟩:=λj=>v.cell j (by omega) (λe=>H e.symm);have J:∀j,E.cell? ⟨bg,j,none⟩=(df y bg (m*4) (ab 3) (ab d.next) (af ⟨#[]⟩) (ae none 0 0)).cell? ⟨bg,j,none⟩:=λj=>by
    rw[aa,G4]
   have aT:∀j,j<m*4\/m*4+4<=j->w'.cell? ⟨bg,j,none⟩=w.cell? ⟨bg,j,none⟩:=λj aV=>by
    rw[K,J,Ct j aV];exact I j
   have Q:=yC (w:=y) (g:=bg) (o:=m*4) (ab 3) (ab d.next) (af ⟨#[]⟩) (ae none 0 0) ⟨(I _).trans y1.1,(I _).trans y1.2.1,(I _).trans y1.2.2.1,(I _).trans y1.2.2.2⟩;refine⟨l.set m (b8 3 d.next D),bg,bc,sd,sp++ [(d.next,a.2.2.1,z)],sv,_,lv,⟨ai,⟨H,bd,be,by omega,by omega⟩,MQ h.bnd m ar.1,?_,λad aD M=>?_,λj=>?_,?_,?_,?_,h.sIs,?_,bh,λx L=>?_,⟨⟨h.apart.1.1,?_,h.apart.1.2.2⟩,⟨h.apart.2.1.1,?_,h.apart.2.1.2.2⟩,λi=>⟨λf=>⟨λe=>?_,((h.apart.2.2 i).1 f).2⟩,λf e=>?_⟩⟩,⟨by omega,by simp;omega,by show d.links.length<=k+1;omega,by show d.next+1=nx+((sp++ [(d.next,a.2.2.1,z)]).length:Nat);simp;omega,f5,f6⟩⟩,ag⟩
   ·rw[List.map_set,h.tells,ar.2]
   ·by_cases am:m=ad
    ·subst am;rw[List.getElem?_set_self (by omega)]at M;obtain rfl:=az M;have an:=lS D 3 d.next (by unfold dN;omega) (by unfold dN;omega) w'.heap.size w' (Mv base db bg sv (ae (some ⟨g,0,none⟩) (sp.length+1) c) lv);refine⟨⟨?_,?_,?_,?_⟩,an.1,an.2⟩
     ·rw[K,J];exact Q.1
     ·rw[K,J];exact Q.2.1
     ·rw[K,J];exact Q.2.2.1
     ·rw[K,J];exact Q.2.2.2
    ·rw[List.getElem?_set_ne am]at M;exact⟨(h.row ad aD M).1.far λj br bs=>aT j (by omega),bf ad aD M⟩
   ·have aL:w'.frozen? ⟨bg,j,none⟩=E.frozen? ⟨bg,j,none⟩:=by
      unfold World.frozen?;rw[v.block bg (by omega) (λe=>H e.symm)]
    have aJ:E.frozen? ⟨bg,j,none⟩=y.frozen? ⟨bg,j,none⟩:=by
     rw[aa,BC,tT]
    have aG:y.frozen? ⟨bg,j,none⟩=w.frozen? ⟨bg,j,none⟩:=by
     unfold World.frozen?;rw[u.block bg (by omega) (λe=>H e.symm),B.block bg S P]
    rw[aL,aJ,aG];exact h.free j
   ·refine bB (bB (bB (bB h.sRow B λi f X=>((h.apart.2.2 i).1 f).1 X) u λi f e=>h.apart.1.1 (by rw[f,e])) C λi f e=>h.apart.2.1.1 (by rw[f,e])) v λi f e=>h.apart.1.1 (by rw[f,e])
   ·have:=bB (bB (bB a0 u λi f e=>A db h.lt h.apart.1.2.1 (by
      have:g=i:=az f
      rw[this,e])) C λi f e=>A bg S P (by
      have:g=i:=az f
      rw[this,e])) v λi f e=>A db h.lt h.apart.1.2.1 (by
      have:g=i:=az f
      rw[this,e])
    simpa using this
   ·refine bB (bB (bB (bB h.lRow B λi f X=>(h.apart.2.2 i).2 X f) u λi f e=>h.apart.1.2.2 (by rw[f,e])) C λi f e=>h.apart.2.1.2.2 (by rw[f,e])) v λi f e=>h.apart.1.2.2 (by rw[f,e])
   ·simp[h.pIs,bb]
   ·rcases de.1 L with L|L
    ·exact bi x L
    ·obtain rfl:=dC.1 L;have bl:=h.lt;have a6:=a8.kee u (R.mono λi f e=>by omega);have a7:=a6.kee C (R.mono λi f e=>by omega);exact⟨a5,a7.kee v (R.mono λi f e=>by omega),a9⟩
   ·exact λe=>A db h.lt h.apart.1.2.1 (az e)
   ·exact λe=>A bg S P (az e)
   ·exact A i (av i f) (λz=>((h.apart.2.2 i).1 f).1 z) (az e)
   ·have aU:g=i:=az f;exact A i (aq i e) (λz=>(h.apart.2.2 i).2 z e) aU
end
def OD{n:Nat}(a:Ac (n+1)):Prop:=oB (n+1) a=true/\(a.1=1\/a.1=3->bJ (n+1) a.2.1.1=0)/\(a.1=1\/a.1=2->bJ (n+1) a.2.1.2=0)
theorem qF(self:Int){n:Nat}:(p q:List (Ac (n+1)))->(d:Dg)->qE self (p++q) d=(qE self p d).bind (qE self q)
 | [],_,_=>rfl
 | a::p,q,d=>by
  simp only[eW,qE];cases rO self a d with
  | none=>rfl
  | some b=>exact qF self p q b
theorem Ko(self:Int){n:Nat}{l:List (Ac (n+1))}{i:Nat}{a:Ac (n+1)}(b:l[i]?=some a)(d:Dg):qE self (l.take (i+1)) d=(qE self (l.take i) d).bind (rO self a):=by
 rw[dF,b,qF];congr 1;funext x;show qE self [a] x=rO self a x;simp only[qE];cases rO self a x<;>rfl
theorem Km(self:Int){n:Nat}{l:List (Ac (n+1))}{i:Nat}{d:Dg}(a:qE self (l.take i) d=none):qE self l d=none:=by
 rw[<-iA i l,qF,a];rfl
section
variable {base db:Nat} {self:Int} {n D k:Nat} {nx:Int} {d:Dg} {w:ag} {l:List (Tm (D+1))} {bg bc:Nat} {sd:List (Int×Tm (D+1+n+1))} {sp:List (Int×aq×Tm (D+1+n+1))} {sv pv lv:au}
theorem zq.from{a:Ac (n+1)}{S:aO}{W w':ag}{t:Bool}(b:zq base db self n D k nx d a S W t w')(c:am w W):zq base db self n D k nx d a S w t w':=⟨(aR c S).trans b.1 λ_ _ e=>e,b.2.1,λh l=>by
 obtain⟨o,g,f,s,u,v,r,p,i,j⟩:=b.2.2 h l;refine⟨o,g,f,s,u,v,r,p,i,λq m=>?_⟩;rcases j q m with e|e
 ·exact aj e
 ·have:=c.size
  exact ak (by omega)⟩
theorem jd.later{B:Nat}{a:Ac (n+1)}{W:ag}(b:jd (n+1) B w a)(c:Below B w W):jd (n+1) B W a:=⟨b.1,b.2.1.below c,b.2.2.1.below c,b.2.2.2⟩
theorem eO.stop(a:eO base db self n D k nx d w l bg bc sd sp sv pv lv):Do base db self n D (k+1) nx {d with stops:=true} (l9 db bg sv pv lv) w (w.setCell ⟨db,6,none⟩ (.bool true))/\bE (l9 db bg sv pv lv) w (w.setCell ⟨db,6,none⟩ (.bool true)):=by
 have e:=bN w db 6 (.bool true);obtain⟨s,t,u,y⟩:=a.frame (w':=w.setCell ⟨db,6,none⟩ (.bool true)) (e.mono λf _ b=>aj b) λf c=>aj c;obtain⟨g,q,r,m,x⟩:=a.own;have v:=e.size;obtain⟨f1,f2,f3,f4⟩:=a.few;refine⟨⟨l,bg,bc,sd,sp,sv,pv,lv,⟨(oW a.box).2.2.2.2 _,⟨g,q,r,by omega,by omega⟩,a.bnd,a.tells,λj o i=>⟨(a.row j o i).1.kee e m (λb=>g b.symm),s j o i⟩,λp=>?_,bB a.sRow e λf c b=>a.apart.1.1 (by rw[c,b]),bB a.pRow e λf c b=>a.apart.1.2.1 (by rw[c,b]),bB a.lRow e λf c b=>a.apart.1.2.2 (by rw[c,b]),a.sIs,a.pIs,t,u,a.apart,⟨by omega,by omega,by show d.links.length<=k+1;omega,f4⟩⟩,λf c=>aj c⟩,e.mono λf _ b=>aj b⟩;have h:=a.free p;unfold World.frozen? at h ⊢;rw[e.block bg m (λb=>g b.symm)];exact h
theorem eO.one(c:eO base db self n D k nx d w l bg bc sd sp sv pv lv)(a:Ac (n+1))(m:jd (n+1) base w a)(A:OD a)(p:1<=self/\self<=99)(y:k<=7):ao 154 #[aH db,PM a] w λe w'=>∃t,e=.returned (.bool t)/\Hid (zq base db self n D k nx d a (l9 db bg sv pv lv) w t w'):=by
 obtain⟨f,r,s⟩:=A;have o:=c.own.2.2.2.2;refine Ld a.1 a.2.1.1.1.1 a.2.1.1.1.2.1 a.2.1.1.1.2.2 a.2.1.1.2.1.1 a.2.1.1.2.2.length a.2.1.1.2.1.2 a.2.1.2.1.1 a.2.1.2.1.2.1 a.2.1.2.1.2.2 a.2.1.2.2.1.1 a.2.1.2.2.2.length a.2.1.2.2.1.2 a.2.2.1 a.2.2.2 db w (zq base db self n D k nx d a (l9 db bg sv pv lv) w) c.lt ⟨d.stops,ah c.box 6,uD c.box 6⟩ ?_ ?_ ?_ ?_
 ·intro i h b;refine((c.later b).send a (m.later (b.mono o)) (r (aj i)) (s (aj i)) i p (by omega)).mono ?_;rintro e w' ⟨t,rfl,g⟩;exact⟨t,rfl,g.from b⟩
 ·intro j h b;have x:ex a.2.2.1=true/\0<=a.2.2.2/\a.2.2.2<4:=by
   have z:¬a.1=1:=by omega
   unfold oB at f;rw[if_neg z,if_pos j]at f;simp only[aK,cw]at f;exact⟨f.1.1.2,f.1.2,f.2⟩
  refine((c.later b).spawn a (m.later (b.mono o)) (s (ak j)) j x.1 x.2 p y).mono ?_;rintro e w' ⟨t,rfl,g⟩;exact⟨t,rfl,g.from b⟩
 ·intro q h b;refine((c.later b).link a (m.later (b.mono o)) (r (ak q)) q p (by omega)).mono ?_;rintro e w' ⟨t,rfl,g⟩;exact⟨t,rfl,g.from b⟩
 ·intro B C E h b;have u:rO self a d=some {d with stops:=true}:=by
   unfold rO;rw[if_neg B,if_neg C,if_neg E]
  obtain⟨F,G⟩:=(c.later b).stop;refine zq.from ⟨G,by rw[u];rfl,λH v=>?_⟩ b;rw[u]at v;obtain rfl:=az v;exact F
theorem eO.all(G:eO base db self n D 0 nx d w l bg bc sd sp sv pv lv)(ac:List (Ac (n+1)))(K:ar)(T:Nat)(N:qz base w 11 (gH (n+1)) (jd (n+1) base w) K ac)(ab:∀a∈ac,OD a)(W:ac.length<=8)(ad:1<=self/\self<=99):ao 116 #[aH db,ae K ac.length T] w λe w'=>∃t,e=.returned (.bool t)/\Hid (bE (l9 db bg sv pv lv) w w'/\t=(qE self ac d).isSome/\∀g,qE self ac d=some g->Do base db self n D 8 nx g (l9 db bg sv pv lv) w w'):=by
 have aa:=G.own.2.2.2.2;have Q:∀{c:ag},bE (l9 db bg sv pv lv) w c->Below base w c:=λj=>j.below aa λb X k=>by
  have:=G.high b k;omega
 refine(JQ ac K ac.length T db w (λi c=>bE (l9 db bg sv pv lv) w c/\∃g,qE self (ac.take i) d=some g/\Do base db self n D i nx g (l9 db bg sv pv lv) w c) (λc=>bE (l9 db bg sv pv lv) w c/\qE self ac d=none) (by omega) rfl ?_ ?_ ?_ ?_).mono ?_
 ·rintro i a c h ⟨j,_⟩;rcases N with e|⟨b,o,e,R,I⟩
  ·rw[e]at h;simp at h
  ·exact⟨b,o,e,λS ax Z=>((Q j).cell (p:=⟨b,o+i*11+S,none⟩) R).trans ((I i a h).1 S ax Z)⟩
 ·rintro i c ay ⟨j,g,H,z,x,v,C,E,F,B,A,q,m⟩ M;exact⟨j.trans (aR M (λ_=>False)) λ_ _ e=>e.elim,g,H,z,x,v,C,E,F,B,A,q.later M,m⟩
 ·rintro i a c h ⟨j,g,H,z,x,v,C,E,F,B,A,q,m⟩;have aA:=(aZ.1 h).1;have Y:jd (n+1) base c a:=by
   rcases N with e|⟨b,o,e,R,I⟩
   ·rw[e]at h;simp at h
   ·exact((I i a h).2).later (Q j)
  refine(q.one a Y (ab a (aL h)) ad (by omega)).mono ?_;rintro e w' ⟨t,rfl,u⟩;obtain⟨s,f,L⟩:=u.out;have y:=Ko self h d;rw[H]at y;simp only[dU]at y;have P:bE (l9 db bg sv pv lv) w w':=j.trans s λb X k=>by
   rcases m b k with e|e
   ·exact e
   ·omega
  refine⟨t,rfl,λah=>⟨P,?_⟩,λaf=>⟨P,?_⟩⟩
  ·rw[ah]at f;obtain⟨d2,r⟩:=gw.1 f.symm;obtain⟨am,V,U,aq,au,aw,ap,an,ai,al⟩:=L d2 r;refine⟨d2,by rw[y,r],am,V,U,aq,au,aw,ap,an,ai,λk J=>?_⟩;rcases al k J with e|e
   ·exact m k e
   ·have:=j.size;exact ak (by omega)
  ·rw[af]at f;refine Km self (i:=i+1) ?_;rw[y];exact lw.1 (by rw[<-lA,<-f];rfl)
 ·exact⟨bE.refl _ _,d,rfl,l,bg,bc,sd,sp,sv,pv,lv,G,λk J=>aj J⟩
 ·rintro e w' ⟨t,rfl,u⟩;refine⟨t,rfl,?_⟩;cases t
  ·obtain⟨s,f⟩:=u.out.2 rfl;refine⟨s,by rw[f];rfl,λg O=>?_⟩;rw[f]at O;cases O
  ·obtain⟨s,g,f,L⟩:=u.1 rfl;rw[bD (av _)]at f;refine⟨s,by rw[f];rfl,λd2 r=>?_⟩;rw[f]at r;obtain rfl:=az r;obtain⟨z,x,v,C,E,F,B,A,q,m⟩:=L;exact⟨z,x,v,C,E,F,B,A,q.more W,m⟩
end
theorem Gc(N:Nat):bJ (N+1) (b8 1 0 N)=0/\aT (N+1) (b8 1 0 N)=true/\sz (N+1) (b8 1 0 N)=0:=by
 have c:cr (N+1) (b8 1 0 N)=true:=by
  rw[<-aU];intro a b;have:a=((1,0,.empty),(none,0,0)):=by simpa [aC,b8]using b
  subst this;simp[cQ,rk]
 exact⟨bM.2 ⟨c,by simp[fU,b8],by simp[sz,b8]⟩,by simp[aT,b8],by simp[sz,b8]⟩
theorem Cg{ws:List Wd}{nm:br}{N:Nat}:ei ws nm (N+1) (b8 1 0 N) (1,0):=⟨λa=>by simp[b8]at a,λa=>by simp[b8]at a,λ_ _=>rfl⟩
theorem kA.numb{N:Nat}{ws:List Wd}{nm:br}{room:Int}{r:Wd}{h:List Wd}{s:Tm (N+1)}{g:List (Tm (N+1))}(i:kA (N+1) ws nm room (r::h) (s::g)):kA (N+1) ws nm room ((1,0)::h) (b8 1 0 N::g):=by
 obtain⟨e,f,j,k,l,m,n,o⟩:=i;obtain⟨p,q,u⟩:=Gc N;refine⟨⟨by simpa using e.1,λc t d b a=>?_⟩,?_,λd a=>?_,?_,l,m,n,o⟩
 ·cases c with
  | zero=>
   simp only[dh,gZ]at b a;subst b a;exact Cg
  | succ c=>exact e.2 (c+1) t d (by simpa using b) (by simpa using a)
 ·simp only[bP]at f ⊢;rw[nh (by decide),iy];exact(fM.1 f).2.1
 ·rcases cY.1 a with rfl|a
  ·exact⟨p,q⟩
  ·exact j d (bW _ a)
 ·simp only[aV,bR]at k ⊢;have:=(ft (N+1) s).1;omega
theorem kA.turned{N:Nat}{ws:List Wd}{nm:br}{room:Int}{C v:Wd}{vs:List Wd}{s x:Tm (N+1)}{ms:List (Tm (N+1))}(n:kA (N+1) ws nm room (C::vs++ [v]) (s::ms++ [x]))(f:vs.length=ms.length):kA (N+1) ws nm room (v::vs) (x::ms):=by
 obtain⟨g,h,u,w,y,z,A,B⟩:=n;refine⟨⟨by simp[f],λd D e c a=>?_⟩,?_,λe a=>u e ?_,?_,y,z,A,B⟩
 ·cases d with
  | zero=>
   simp only[dh,gZ]at c a;subst c a;exact g.2 (vs.length+1) v x (by simp) (by simp[f])
  | succ d=>
   simp only[dy]at c a;have o:=(aZ.1 c).1;have p:=(aZ.1 a).1;exact g.2 (d+1) D e (by rw[eW,dy,dB o];exact c) (by rw[eW,dy,dB p];exact a)
 ·simp only[eW,bP,lk,List.flatMap_nil,dQ]at h ⊢;obtain⟨_,t,_⟩:=fM.1 h;obtain⟨j,k,l⟩:=fM.1 t;exact fM.2 ⟨k,j,λi q b r m=>l b r i q m.symm⟩
 ·rcases cY.1 a with rfl|a
  ·simp
  ·simp[a]
 ·simp only[eW,aV,gV,bR,List.sum_append,cF,iz]at w ⊢;have:=(ft (N+1) s).1;omega
theorem sx(w:ag)(c:Nat)(a b:Int):ch (λq=>q=c) w (uO w c a b):=(bF w c 5 (ab a)).trans (bF _ c 6 (ab b)) λ_ _ e=>e
theorem LO(w:ag)(c:Nat)(a b:Int):(uO w c a b).heap.size=w.heap.size:=by simp[uO,World.setCell]
theorem iM{S:aO}{w w':ag}(a:ch S w w'):bE S w w':=⟨a.os,a.tape,a.output,a.size,a.block⟩
theorem jR{S:aO}{w w':ag}(a:bE S w w'):ch S w w':=⟨a.os,a.tape,a.output,a.size,a.block⟩
section
variable {base pb:Nat} {name:aq} {room:Int} {N:Nat} {s:Tm (N+1)} {ms:List (Tm (N+1))} {xs:List (Wd×Tm (N+1))} {nk:Nat} {M:aO} {w:ag} {ws:List Wd} {nm:br} {sv:Wd} {vs:List Wd} {ma:ar} {mc:Nat} {Mh:aO}
theorem j0.keptBox{v:Wd}(h:j0 Mh ma vs mc w)(i:Mh pb):j0 Mh ma vs mc (uO w pb v.1 v.2):=by
 rcases h with a|⟨d,j,e,f,b,c,g⟩
 ·exact aj a
 ·exact ak ⟨d,j,e,f,b,((sx w pb v.1 v.2).block d (aI.1 c).1 λa=>b (by rw[a];exact i)).trans c,g⟩
theorem eh.word{mv:au}{v:Wd}(a:eh base (PL pb name sv mv) room ws nm M w):eh base (PL pb name v mv) room ws nm M (uO w pb v.1 v.2):=a.turn (sx w pb v.1 v.2) λtv lv mp b=>by
 unfold uO World.setCell;simp[bT,b]
theorem cV.numb(a:cV base pb name room (N+1) s ms [] nk M w ws nm sv vs ma mc Mh):cV base pb name room (N+1) (b8 1 0 N) ms [] nk M (uO w pb 1 0) ws nm (1,0) vs ma mc Mh/\ch M w (uO w pb 1 0):=by
 obtain⟨d,f⟩:=a.box0;have c:=a.has;simp only[cF,dQ]at c;refine⟨⟨a.heap.word (v:=(1,0)),a.mail.keptBox (v:=(1,0)) d,?_,a.len,a.names,a.inM,a.mailM⟩,(sx w pb 1 0).mono λb e=>?_⟩
 ·simp only[cF,dQ];exact c.numb
 ·rw[e];exact a.inM pb d
theorem cV.turned{v:Wd}{x:Tm (N+1)}(a:cV base pb name room (N+1) s ms [(v,x)] nk M w ws nm sv vs ma mc Mh):cV base pb name room (N+1) x ms [] nk M (uO w pb v.1 v.2) ws nm v vs ma mc Mh/\ch M w (uO w pb v.1 v.2):=by
 obtain⟨d,f⟩:=a.box0;have c:=a.has;simp only[aV,cF]at c;refine⟨⟨a.heap.word,a.mail.keptBox d,?_,a.len,a.names,a.inM,a.mailM⟩,(sx w pb v.1 v.2).mono λb e=>?_⟩
 ·simp only[cF,dQ];exact c.turned a.len
 ·rw[e];exact a.inM pb d
theorem cV.cells56(e:cV base pb name room (N+1) s ms xs nk M w ws nm sv vs ma mc Mh):(∃a,ai w pb 5 (ab a))/\(∃a,ai w pb 6 (ab a))/\∀j,w.frozen? ⟨pb,j,none⟩=false:=by
 obtain⟨i,g,h,f,_⟩:=e.heap.box;obtain⟨_,b,c,_,d,_⟩:=PL.cells f;exact⟨⟨_,b⟩,⟨_,c⟩,d⟩
def PP(base pb:Nat)(name:aq)(room:Int)(N:Nat)(s:Tm (N+1))(ms:List (Tm (N+1)))(x:Tm (N+1))(nk:Nat)(M:aO)(w:ag)(t:Bool)(w':ag):Prop:=
 t=decide ((ms.map (sz (N+1))).sum+sz (N+1) x<=room)/\ch M w w'/\∃a i f g h d e c,cV base pb name room (N+1) a ms [] (nk+402) (λb=>M b\/w.heap.size<=b) w' i f g h d e c/\(t=true->a=x)/\(t=false->aB (N+1) a (N+1) s=true)
theorem yD{x:Tm (N+1)}{ms:List (Tm (N+1))}(a:bJ (N+1) x=0)(b:aT (N+1) x=true):tf (N+1) x room (b8 1 0 N::ms)=if (ms.map (sz (N+1))).sum+sz (N+1) x<=room then 0 else 6:=by
 unfold tf;rw[if_neg (by simp[a]),if_neg (by simp[b])];simp only[aV,bR,(Gc N).2.2,Int.zero_add]
theorem cV.become(k:cV base pb name room (N+1) s ms [] nk M w ws nm sv vs ma mc Mh)(x:Tm (N+1))(aD:In w.heap.size w (N+1) x)(L:cD (λb=>¬M b) (N+1) x)(E:bJ (N+1) x=0)(ai:aT (N+1) x=true)(m:∀b,M b->b<w.heap.size)(a6:nk<=48000)(B:ms.length<=999)(a5:base<=w.heap.size):ao 118 #[aH pb,.agg #[ab x.1.1,ab x.1.2.1,af x.1.2.2,ae x.2.1.1 x.2.2.length x.2.1.2]] w λe w'=>∃t,e=.returned (.bool t)/\Hid (PP base pb name room N s ms x nk M w t w'):=by
 obtain⟨ar,au⟩:=k.box0;have a4:M pb:=k.inM pb ar;have u:=k.front;have P:=u.2.2.1 s (by simp);have aA:(ms.map (sz (N+1))).sum+sz (N+1) s<=room:=by
  have ah:=u.2.2.2.1;have a3:=u.2.2.2.2.1;simp only[aV,bR]at ah;omega
 refine Bb x.1.1 x.1.2.1 x.1.2.2 x.2.1.1 x.2.2.length x.2.1.2 pb w (λT U V sa sl sc f=>∃y0:Tm (N+1),(T=y0.1.1/\U=y0.1.2.1/\V=y0.1.2.2/\sa=y0.2.1.1/\sl=y0.2.2.length/\sc=y0.2.1.2)/\In f.heap.size f (N+1) y0/\cD (λa=>w.heap.size<=a) (N+1) y0/\aB (N+1) y0 (N+1) s=true) (λ_ _ _ _=>True) (PP base pb name room N s ms x nk M w) ?_ ?_ ?_
 ·intro f d;refine((k.later d).state (by omega)).mono ?_;rintro e w' ⟨a0,rfl,o⟩;exact⟨_,_,_,_,_,_,rfl,o.1,a0,⟨rfl,rfl,rfl,rfl,rfl,rfl⟩,o.2.1,o.2.2.1.mono λa O=>by have:=d.size;omega,o.2.2.2⟩
 ·intro f d;obtain⟨ag,b,c⟩:=(k.later d).cells56;exact⟨ag,b,c,au⟩
 ·rintro T U V sa sl sc a2 j aR aS ⟨y0,⟨rfl,rfl,rfl,rfl,rfl,rfl⟩,Q,R,q⟩ D r a7 a8 p;have ba:=r.size;obtain⟨an,I⟩:=(k.later r).numb;have bc:=LO j pb 1 0;have H:ch M w (uO j pb 1 0):=(bu r M).trans I λ_ _ e=>e;have aE:In (uO j pb 1 0).heap.size (uO j pb 1 0) (N+1) x:=aD.kee (iM H) L;have av:=an.put x aE L (fD E) (λb h=>by have:=m b h;omega) (by omega) B (by omega);refine av.mono ?_;rintro e w' ⟨W,rfl,Y⟩;obtain⟨aY,aP,be,aW,aL,aN,aa,i,n⟩:=Y;have F:=yD (room:=room) (ms:=ms) E ai;have K:ch M w w':=H.trans n λ_ _ e=>e;have bb:=n.size;refine⟨W,_,rfl,⟨?_,?_,i.cells56.1,i.cells56.2.1,i.cells56.2.2⟩,trivial,?_,?_⟩
  ·exact(n.block aR (aI.1 p.1).1 λa=>by have:=m _ a;omega).trans p.1
  ·exact(n.block aS (aI.1 p.2.1).1 λa=>by have:=m _ a;omega).trans p.2.1
  ·intro g f d;rw[if_pos g]at i;obtain⟨z,v⟩:=(i.later d).turned;rw[F]at g;have al:(ms.map (sz (N+1))).sum+sz (N+1) x<=room:=by
    by_cases a:(ms.map (sz (N+1))).sum+sz (N+1) x<=room
    ·exact a
    ·rw[if_neg a]at g;cases g
   refine⟨by simp[al],(K.trans (bu d M) λ_ _ e=>e).trans v λb h a=>?_,x,aY,aP,W,aW,aL,aN,aa,z.mono (λb a=>?_) (by omega),λ_=>rfl,λa=>by cases a⟩
   ·rcases a with a|a
    ·exact a
    ·omega
   ·rcases a with a|a
    ·exact aj a
    ·exact ak (by omega)
  ·intro g f aU d a9 aw;rw[if_neg g]at i;have am:¬(ms.map (sz (N+1))).sum+sz (N+1) x<=room:=λa=>g (by rw[F,if_pos a]);have aq:=(i.inside.later d);have az:=d.size;have aK:=In.offB R Q;have ay:=D.size;have A:bJ (N+1) y0=0/\aT (N+1) y0=true:=⟨(cd q).trans P.1,(cR _ _ _ _ q).trans P.2⟩;have aF:In j.heap.size j (N+1) y0:=(Q.below D).mono ay;have S:cD (λb=>¬M b) (N+1) y0:=R.mono λa O l=>by have:=m a l;omega
   have aG:In w'.heap.size w' (N+1) y0:=(aF.kee (iM I) S).kee (iM n) S;have aJ:In f.heap.size f (N+1) y0:=(aG.below d).mono az;have G:=yD (room:=room) (ms:=ms) A.1 A.2;have aC:=mw _ _ _ _ q;rw[if_pos (by rw[aC];exact aA)]at G;refine(aq.put y0 aJ (aK.mono λa O l=>?_) (fD A.1) (λb h=>by have:=h.2;omega) (by omega) B (by omega)).mono ?_
   ·rcases l.1 with l|l
    ·have:=m a l;omega
    ·omega
   ·rintro e bg ⟨X,rfl,Z⟩;obtain⟨aZ,aQ,bf,aX,aM,aO,ad,y,J⟩:=Z;rw[if_pos G]at y;refine⟨X,_,rfl,λbd ap=>(J.block aU aw λa=>by have:=a.2;omega).trans ap,y.cells56,λa1 C=>?_⟩;have ax:=y.kept (jR C) λb a _ e=>by
     rcases a with a|a
     ·have:=a.2;omega
     ·omega
    obtain⟨z,v⟩:=ax.turned;refine⟨by simp[am],?_,y0,aZ,aQ,X,aX,aM,aO,ad,z.mono (λb a=>?_) (by omega),λa=>(by cases a),λ_=>q⟩
    ·refine((((K.trans (bu d M) λ_ _ e=>e).trans J λb h a=>?_).trans (jR C) λb h a=>?_)).trans v λb h a=>?_
     ·rcases a.1 with a|a
      ·exact a
      ·omega
     ·omega
     ·rcases a with a|a
      ·rcases a.1 with a|a
       ·exact a
       ·omega
      ·omega
    ·rcases a with a|a
     ·rcases a.1 with a|a
      ·exact aj a
      ·exact ak (by omega)
     ·exact ak (by omega)
end
theorem ge{n:Nat}{x:Tm (n+1)}(e:bJ (n+1) x=0){y:Tm n}(a:y∈x.2.2):bJ n y=0:=by
 obtain⟨f1,f2,f3⟩:=bM.1 e;have c:aJ ⟨n+1,x⟩:=aU.2 f1;have g:=oH c a;have d:=e9 (bO n x) (c (bO n x) (by simp[aC,bO]));have b:x.1.1=4:=by
  by_cases b:x.1.1=4
  ·exact b
  ·have:x.2.2=[]:=bL (d.2.2.2.2 b);rw[this]at a;cases a
 have f:=uJ (λy=>1+sz n y) (λy=>by have:=(ft n y).1;omega) x.2.2 y a;simp only[sz,if_pos b]at f3
 exact bM.2 ⟨aU.1 (bj n x y c a),by omega,by
  have h:1+sz n y<=(x.2.2.map λy=>1+sz n y).sum:=f.1
  omega⟩
theorem vm{n:Nat}{x:Tm (n+1)}(a:bJ (n+1) x=0)(i:Nat){y:Tm n}(b:x.2.2[i]?=some y):bJ n y=0:=ge a (aL b)
theorem re{n N:Nat}(c:n<=N)(x:Tm (n+1))(a:bJ (N+1) (bf (N+1) (n+1) x)=0):bJ (n+1) x=0:=by
 have e:aJ ⟨n+1,x⟩:=λb d=>(aU.2 (bM.1 a).1) b (by rw[nW N n c x];exact d);rw[<-cd (fS (N+1) (n+1) (by omega) x e)];exact a
def qx{n:Nat}(c:Cl (n+1)):Prop:=bJ (n+1) c.1.1=0/\bJ (n+1) c.1.2.1=0/\bJ (n+1) c.1.2.2=0/\c.2.2.length<=8/\∀a∈c.2.2,OD a
theorem Gg{n:Nat}{p:List (Bh (n+1))}(d:mK n p=0):kT (n+1) p=true/\∀b∈p,b.2.2.length<=6/\∀c∈b.2.2,qx c:=by
 unfold mK at d;cases e:kT (n+1) p with
 | false=>rw[e]at d;cases d
 | true=>
  rw[e,if_pos rfl]at d;refine⟨rfl,λb l=>?_⟩;unfold kT at e;simp only[aK,cJ]at e;have h:=e.2 b l;unfold xo at h;simp only[aK,cJ,cw]at h;refine⟨by omega,λc m=>?_⟩;have i:=h.2 c m;unfold uf at i;simp only[aK,cJ,cw]at i;have o:bJ (n+5) (eu n b)=0:=ge d (by simp only[cm,dx];exact bW _ (lp l));have f:bJ (n+4) (dZ n c)=0:=ge o (by simp only[eu,dx];exact bW _ (bW _ (lp m)));have s:bJ (n+3) (dx (n+2) (c.2.2.map (cH n)))=0:=vm f 3 rfl;refine⟨re (N:=n+2) (by omega) _ (vm f 1 rfl),re (N:=n+2) (by omega) _ (vm f 2 rfl),re (N:=n+2) (by omega) _ (vm f 4 rfl),by omega,λj k=>?_⟩;have g:bJ (n+2) (cH n j)=0:=ge s (by simp only[dx];exact lp k);refine⟨i.2 j k,λr=>?_,λq=>?_⟩
  ·rcases r with a|a
   ·exact ge g (by simp[cH,a,dx])
   ·exact ge g (by simp[cH,a,dx])
  ·rcases q with a|a
   ·exact ge g (by simp[cH,a,dx])
   ·exact ge g (by simp[cH,a,dx])
section
variable {base db:Nat} {self:Int} {n D k:Nat} {nx:Int} {d:Dg} {w:ag} {l:List (Tm (D+1))} {bg bc:Nat} {sd:List (Int×Tm (D+1+n+1))} {sp:List (Int×aq×Tm (D+1+n+1))} {sv pv lv:au}
theorem eO.kept(a:eO base db self n D k nx d w l bg bc sd sp sv pv lv){S:aO}{w':ag}(i:bE S w w')(m:∀b,base<=b->b<w.heap.size->¬S b):eO base db self n D k nx d w' l bg bc sd sp sv pv lv:=by
 have Q:=i.size;obtain⟨L,B,v,p,R⟩:=a.own;have s:∀{g:Nat}{x:Tm g},In w.heap.size w g x->cD (Mv base db bg sv pv lv) g x->In w'.heap.size w' g x:=λG H=>G.kee (i.mono (T:=λb=>S b/\b<w.heap.size) λb E f=>⟨f,E⟩) (H.mono λf h (e:S f/\f<w.heap.size)=>m f h.1 e.2 e.1);have u:∀{q:TypeId}{e g:Nat}{y:au}{z:cX},w.ownsRow base q e y g z->w'.ownsRow base q e y g z:=λ{q e g y z} t=>bB t i λf h o=>by
  obtain⟨N,F⟩:=eN t f h;refine m f ?_ (aI.1 F).1 o;rcases t.2 with⟨r,_⟩|⟨C,cap,O,r,P,_⟩
  ·rw[r]at h;cases h
  ·rw[r]at h;have:C=f:=az h;omega
 refine⟨(i.block db a.lt (m db B a.lt)).trans a.box,⟨L,B,v,by omega,by omega⟩,a.bnd,a.tells,λJ M I=>?_,λK=>?_,u a.sRow,u a.pRow,u a.lRow,a.sIs,a.pIs,λe o=>?_,λe o=>?_,a.apart,a.few⟩
 ·obtain⟨j,b,c⟩:=a.row J M I;exact⟨j.kee i p (m bg v p),s b c,c⟩
 ·have A:=a.free K;unfold World.frozen? at A ⊢;rw[i.block bg p (m bg v p)];exact A
 ·obtain⟨j,b,c⟩:=a.sIn e o;exact⟨j,s b c,c⟩
 ·obtain⟨j,b,c⟩:=a.pIn e o;exact⟨j,s b c,c⟩
theorem eO.low(b:eO base db self n D k nx d w l bg bc sd sp sv pv lv):∀q,l9 db bg sv pv lv q->q<w.heap.size:=by
 have c:∀{f:TypeId}{i g q:Nat}{e:au}{h:cX},w.ownsRow base f i e g h->e.ownBlock=some q->q<w.heap.size:=λ{f i g q e h} m a=>by
  obtain⟨o,j⟩:=eN m q a;exact(aI.1 j).1
 intro q a;rcases a with rfl|rfl|a|a|a
 ·exact b.lt
 ·exact b.own.2.2.2.1
 ·exact c b.sRow a
 ·exact c b.pRow a
 ·exact c b.lRow a
def PU(u t:Nat)(name:aq)(room:Int)(s:Tc)(ms:List Tc)(q:Nat)(M:aO)(base db:Nat)(self:Int)(n D:Nat)(nx:Int)(c:Cl (n+1))(b:List Tc)(S:aO)(w:ag)(f:Int)(w':ag):Prop:=
 f=(fI room self nx (cn 13 s) (cn 13 s) (ms.map (cn 13)) c b).fate/\bE (λa=>M a\/S a) w w'/\(∃j z r e y o p k,cV u t name room 13 j ms [] (q+402) (λa=>M a\/w.heap.size<=a) w' z r e y o p k/\cn 13 j=(fI room self nx (cn 13 s) (cn 13 s) (ms.map (cn 13)) c b).state)/\
  ((f=0\/f=1)->∃d m g l v x e i h,eO base db self n D 8 nx d w' m g l v x e i h/\d.sends=(fI room self nx (cn 13 s) (cn 13 s) (ms.map (cn 13)) c b).sends/\d.spawns=(fI room self nx (cn 13 s) (cn 13 s) (ms.map (cn 13)) c b).spawns/\d.links=(fI room self nx (cn 13 s) (cn 13 s) (ms.map (cn 13)) c b).links/\∀a,l9 db g e i h a->¬(M a\/w'.heap.size<=a))
theorem Py{ms:List Tc}(a:∀y∈ms,bJ 13 y=0):((ms.map (cn 13)).map (sz 13)).sum=(ms.map (sz 13)).sum:=by
 rw[gW];congr 1;exact jH λy b=>FI (a y b)
theorem DW{Q I:Nat}{name:aq}{room:Int}{s:Tc}{ms:List Tc}{P:Nat}{M:aO}{ws:List Wd}{nm:br}{ap:Wd}{vs:List Wd}{ma:ar}{ai:Nat}{Mh:aO}{b:List Tc}(a5:cV Q I name room 13 s ms [] P M w ws nm ap vs ma ai Mh)(T:eO base db self n D 0 nx d w l bg bc sd sp sv pv lv)(aE:d=⟨b,nx,[],[],[],false⟩)(c:Cl (n+1))(a0:iE (n+1) base w c)(bq:qx c)(a6:1<=self/\self<=99)(L:∀q,M q->q<base)(bO:Q<=base)(bp:P<=48000)(bl:ms.length<=999):ao 79 #[aH I,.agg (fy (n+1) c).toArray,aH db] w λe w'=>∃f,e=.returned (ab f)/\PU Q I name room s ms P M base db self n D nx c b (l9 db bg sv pv lv) w f w':=by
 obtain⟨bL,bN,aY,bh,bi⟩:=bq;have aK:=T.own.2.2.2.2;have bn:∀{h:ag},bE (l9 db bg sv pv lv) w h->Below base w h:=λm=>m.below aK λb E q=>by
  have:=T.high b q;omega
 have aL:∀{h:ag},bE (l9 db bg sv pv lv) w h->cV Q I name room 13 s ms [] P M h ws nm ap vs ma ai Mh:=λm=>a5.kept (N:=12) (jR m) λb E _ q=>by
  have:=L b E;have:=T.high b q;omega
 have aF:∀{h:ag},bE (l9 db bg sv pv lv) w h->bE (λq=>M q\/l9 db bg sv pv lv q) w h:=λm=>m.mono λq _ a=>ak a;have bo:∀g∈ms,bJ 13 g=0:=λg bx=>(a5.front.2.2.1 g (bW _ bx)).1
 refine BI (D+1+n) c.1.1.1.1 c.1.1.1.2.1 c.1.1.1.2.2 c.1.1.2.1.1 c.1.1.2.2.length c.1.1.2.1.2 c.1.2.1.1.1 c.1.2.1.1.2.1 c.1.2.1.1.2.2 c.1.2.1.2.1.1 c.1.2.1.2.2.length c.1.2.1.2.1.2 c.2.1.1 c.2.2.length c.2.1.2 c.1.2.2.1.1 c.1.2.2.1.2.1 c.1.2.2.1.2.2 c.1.2.2.2.1.1 c.1.2.2.2.2.length c.1.2.2.2.1.2 I db w
  (λh=>bE (l9 db bg sv pv lv) w h/\∃i x v u A B C z y,qE self c.2.2 d=some i/\eO base db self n D 8 nx i h x v u A B C z y)
  (λt g S=>∃h i x v u A B C z y,bE (l9 db bg sv pv lv) w h/\qE self c.2.2 d=some i/\eO base db self n D 8 nx i h x v u A B C z y/\am h S/\In S.heap.size S (D+1+n+1) g/\cD (λq=>h.heap.size<=q) (D+1+n+1) g/\t=(tw i.b self (n+1) c.1.2.2).isSome/\∀r,tw i.b self (n+1) c.1.2.2=some r->bJ _ g=0/\aT _ g=true/\cn _ g=r)
  (PU Q I name room s ms P M base db self n D nx c b (l9 db bg sv pv lv) w) ?_ ?_ ?_ ?_
 ·intro h Y;refine((T.later Y).all c.2.2 c.2.1.1 c.2.1.2 ?_ bi bh a6).mono ?_
  ·rcases a0.2.2 with e|⟨q,o,e,a,a1⟩
   ·exact aj e
   ·exact ak ⟨q,o,e,a,λaQ aX a3=>⟨λa8 bH bm=>(Y.cell (p:=⟨q,o+aQ*11+a8,none⟩) (aW a aK)).trans ((a1 aQ aX a3).1 a8 bH bm),((a1 aQ aX a3).2).later (Y.mono aK)⟩⟩
  ·rintro e w' ⟨t,rfl,aB⟩;obtain⟨au,J,aS⟩:=aB.out;have m:bE (l9 db bg sv pv lv) w w':=(aR Y _).trans au λ_ _ e=>e;refine⟨t,rfl,λq bR a a4=>(au.block q (aI.1 a4).1 λk=>by have:=T.low q k;omega).trans a4,λG=>⟨m,?_⟩,λaa=>?_⟩
   ·rw[G]at J;obtain⟨d2,a2⟩:=gw.1 J.symm;obtain⟨bA,be,bd,bF,bG,R,bC,bB,bz,_⟩:=aS d2 a2;exact⟨d2,bA,be,bd,bF,bG,R,bC,bB,a2,bz⟩
   ·rw[aa]at J;have Z:qE self c.2.2 d=none:=lw.1 (by rw[<-lA,<-J];rfl);rw[aE]at Z;have j:fI room self nx (cn 13 s) (cn 13 s) (ms.map (cn 13)) c b=⟨cn 13 s,2,[],[],[],cn 13 s,ms.map (cn 13)⟩:=by simp[fI,Z]
    refine⟨by rw[j],aF m,⟨s,ws,nm,ap,vs,ma,ai,Mh,(aL m).mono (N:=12) (λq a=>aj a) (by omega),by rw[j]⟩,λk=>?_⟩;omega
 ·rintro h ⟨m,i,x,v,u,A,B,C,z,y,F,K⟩;obtain⟨t1,t2⟩:=K.told (self:=self) c.1.2.2 aY;refine(K.value c.1.2.2 (a0.1.2.2.below (bn m)) aY a6 h (aA _ _)).mono ?_;rintro e w' ⟨g,rfl,bb⟩;obtain⟨y1,y2,aV,W⟩:=bb;exact⟨g,_,rfl,h,i,x,v,u,A,B,C,z,y,m,F,K,y1,y2,aV,t1,λr G=>t2 g r G W⟩
 ·rintro g S aC ⟨h,i,x,v,u,A,B,C,z,y,m,F,K,y1,_,_,W,_⟩ E;have Z:tw i.b self (n+1) c.1.2.2=none:=lw.1 (by rw[<-lA,<-W];rfl);rw[aE]at F;have j:fI room self nx (cn 13 s) (cn 13 s) (ms.map (cn 13)) c b=⟨cn 13 s,2,[],[],[],cn 13 s,ms.map (cn 13)⟩:=by simp[fI,F,Z]
  have U:bE (l9 db bg sv pv lv) w aC:=(m.trans (aR y1 (λ_=>False)) λ_ _ e=>e.elim).trans (aR E (λ_=>False)) λ_ _ e=>e.elim;refine⟨by rw[j],aF U,⟨s,ws,nm,ap,vs,ma,ai,Mh,(aL U).mono (N:=12) (λq a=>aj a) (by omega),by rw[j]⟩,λk=>?_⟩;omega
 ·rintro g S aC ⟨h,i,x,v,u,A,B,C,z,y,m,F,K,y1,y2,aV,W,bI⟩ E;obtain⟨r,G⟩:=gw.1 W.symm;obtain⟨az,bK,ba⟩:=bI r G;rw[aE]at F;have bQ:=m.size;have bP:=y1.size;have bs:=E.size;have U:bE (l9 db bg sv pv lv) w aC:=(m.trans (aR y1 (λ_=>False)) λ_ _ e=>e.elim).trans (aR E (λ_=>False)) λ_ _ e=>e.elim;have aP:aJ ⟨D+1+n+1,g⟩:=aU.2 (bM.1 az).1;have aN:fU (D+1+n+1) g<13:=by have:=(bM.1 az).2.1;omega
  have ae:=jS 13 (D+1+n+1) g aP aN;have bt:=tb 13 (D+1+n+1) g _ _ aP aN ((y2.below E).mono bs);have bv:=uH 13 (D+1+n+1) g _ aP aN aV;have bu:(bf 13 (D+1+n+1) g).2.2.length=g.2.2.length:=by simp[bf]
  have a7:cn 13 (bf 13 (D+1+n+1) g)=r:=(iK ae).trans ba;have bw:sz 13 (bf 13 (D+1+n+1) g)=sz 13 r:=by
   rw[mw _ _ _ _ ae,<-ba,FI az]
  have aZ:=(aL U).become (N:=12) (bf 13 (D+1+n+1) g) bt (bv.mono λq a k=>by have:=L q k;omega) ((cd ae).trans az) ((cR _ _ _ _ ae).trans bK) (λq k=>by have:=L q k;omega) bp bl (by omega);rw[bu]at aZ;refine aZ.mono ?_;rintro e w' ⟨t,rfl,aB⟩;obtain⟨au,J,aw,ay,an,R,ax,af,al,X,aS,a9,bD⟩:=aB;have O:t=decide (((ms.map (cn 13)).map (sz 13)).sum+sz 13 r<=room):=by
   rw[Py bo,<-bw];exact au
  have aG:bE (λq=>M q\/l9 db bg sv pv lv q) w w':=(aF U).trans (iM J) λq _ a=>aj a
  have aD:cV Q I name room 13 aw ms [] (P+402) (λq=>M q\/w.heap.size<=q) w' ay an R ax af al X:=aS.mono (N:=12) (λq a=>by
   rcases a with a|a
   ·exact aj a
   ·exact ak (by omega)) (av _)
  have H:eO base db self n D 8 nx i w' x v u A B C z y:=((K.later y1).later E).kept (iM J) λq a _ k=>by
   have:=L q k;omega
  refine⟨t,rfl,λaa=>?_,λad=>⟨i.stops,ah H.box 6,λaM=>?_,λaM=>?_⟩⟩
  ·rw[aa]at O;have V:¬((ms.map (cn 13)).map (sz 13)).sum+sz 13 r<=room:=of_decide_eq_false O.symm;have j:fI room self nx (cn 13 s) (cn 13 s) (ms.map (cn 13)) c b=⟨cn 13 s,3,[],[],[],cn 13 s,ms.map (cn 13)⟩:=by
    unfold fI;simp only[F,G];rw[if_neg V]
   refine⟨by rw[j],aG,⟨aw,ay,an,R,ax,af,al,X,aD,by rw[j];exact iK (bD aa)⟩,λk=>?_⟩;omega
  ·rw[ad]at O;have V:((ms.map (cn 13)).map (sz 13)).sum+sz 13 r<=room:=fP O.symm;have j:fI room self nx (cn 13 s) (cn 13 s) (ms.map (cn 13)) c b=⟨cn 13 s,1,i.sends,i.spawns,i.links,r,ms.map (cn 13)⟩:=by
    unfold fI;simp only[F,G];rw[if_pos V,aM];rfl
   refine⟨by rw[j],aG,⟨aw,ay,an,R,ax,af,al,X,aD,by rw[j,a9 ad];exact a7⟩,λ_=>⟨i,x,v,u,A,B,C,z,y,H,by rw[j],by rw[j],by rw[j],λq a k=>?_⟩⟩;have bj:=H.high q a;have bk:=H.low q a;rcases k with k|k
   ·have:=L q k;omega
   ·omega
  ·rw[ad]at O;have V:((ms.map (cn 13)).map (sz 13)).sum+sz 13 r<=room:=fP O.symm;have j:fI room self nx (cn 13 s) (cn 13 s) (ms.map (cn 13)) c b=⟨cn 13 s,0,i.sends,i.spawns,i.links,r,ms.map (cn 13)⟩:=by
    unfold fI;simp only[F,G];rw[if_pos V,aM];rfl
   refine⟨by rw[j],aG,⟨aw,ay,an,R,ax,af,al,X,aD,by rw[j,a9 ad];exact a7⟩,λ_=>⟨i,x,v,u,A,B,C,z,y,H,by rw[j],by rw[j],by rw[j],λq a k=>?_⟩⟩;have bj:=H.high q a;have bk:=H.low q a;rcases k with k|k
   ·have:=L q k;omega
   ·omega
end
def QN{n:Nat}(c:Cl (n+1)):au:=.agg #[ab c.1.1.1.1,ab c.1.1.1.2.1,af c.1.1.1.2.2,ae c.1.1.2.1.1 c.1.1.2.2.length c.1.1.2.1.2,ab c.1.2.1.1.1,ab c.1.2.1.1.2.1,af c.1.2.1.1.2.2,ae c.1.2.1.2.1.1 c.1.2.1.2.2.length c.1.2.1.2.1.2,ae c.2.1.1 c.2.2.length c.2.1.2,ab c.1.2.2.1.1,ab c.1.2.2.1.2.1,af c.1.2.2.1.2.2,ae c.1.2.2.2.1.1 c.1.2.2.2.2.length c.1.2.2.2.1.2]
def QS{N:Nat}(x:Tm (N+1)):List au:=[ab x.1.1,ab x.1.2.1,af x.1.2.2,ae x.2.1.1 x.2.2.length x.2.1.2]
def Qr{N:Nat}(x:Tm (N+1)):au:=.agg #[ab x.1.1,ab x.1.2.1,af x.1.2.2,ae x.2.1.1 x.2.2.length x.2.1.2]
def DJ{n N:Nat}(i:Nat)(y:Tm (N+1))(c:Cl (n+1))(a:ar)(len b:Nat):List au:=ab i::(QS y++fy (n+1) c++ [ae a len b])
def GR:List au:=[ab 0,ab 0,ab 0,af ⟨#[]⟩,ae none 0 0,ab 0,ab 0,af ⟨#[]⟩,ae none 0 0,ab 0,ab 0,af ⟨#[]⟩,ae none 0 0,ae none 0 0,ab 0,ab 0,af ⟨#[]⟩,ae none 0 0,ae none 0 0]
def Q4{n N:Nat}(l:List (Cl (n+1)))(M L:Nat)(g:Nat->Nat->Bool)(R:Tm (N+1)->List (Tm (N+1))->bt)(r:Nat->Nat->ar->Nat->Nat->ag->bt)(w:ag)(e:Ending)(w':ag):Prop:=
 (e=.returned (.tuple #[.agg GR.toArray,.bool false])/\Hid ((∀a d,a<M->d<L->g a d=false)/\am w w'))\/
  ∃(a d:Nat)(p:Tm (N+1))(c:Cl (n+1))(k:ar)(len m:Nat),e=.returned (.tuple #[.agg (DJ a p c k len m).toArray,.bool true])/\Hid (∃s q h i j,R s q h/\q[a]?=some p/\l[d]?=some c/\g a d=true/\(∀o f,o<a->f<L->g o f=false)/\(∀f,f<d->g a f=false)/\am w h/\am h i/\am i j/\r a d k len m i j/\bE (λb=>b=w.heap.size) j w'/\w.heap.size<h.heap.size)
theorem results_cell_tmp{P:Program}{fn:Func}{tmps:Array au}{w:ag}{i j:Nat}{ty:TypeId}{p:Addr}{v x:au}(b:fn.results= #[.cell i ty,.tmp j])(a:tmps.getD i undef=.pointer (some p))(c:(loadVar ty p).run P w=.ok v w)(d:tmps.getD j undef=x):(results fn tmps).run P w=.ok (.tuple #[v,x]) w:=by
 simp only[results,b];rw[<-d];rw[Array.getD_eq_getD_getElem?]at a;simp[a,asAddr,c]
theorem jl:(Tryz.prog.info? 164).map (·.size)=some 19:=by kernel_rfl
theorem FE:(GR.toArray.all (·.oneCell'))=true:=all_oneCell_toArray λv a=>by
 simp only[GR,cY,gX,hU]at a;rcases a with rfl|rfl|rfl|rfl|rfl|rfl|rfl|rfl|rfl|rfl|rfl|rfl|rfl|rfl|rfl|rfl|rfl|rfl|rfl<;>rfl
theorem FF{n N:Nat}(i:Nat)(y:Tm (N+1))(c:Cl (n+1))(a:ar)(len d:Nat):((DJ i y c a len d).toArray.all (·.oneCell'))=true:=all_oneCell_toArray λv b=>by
 have b:v∈[Value.int .i64 i,ab y.1.1,ab y.1.2.1,af y.1.2.2,ae y.2.1.1 y.2.2.length y.2.1.2,ab c.1.1.1.1,ab c.1.1.1.2.1,af c.1.1.1.2.2,ae c.1.1.2.1.1 c.1.1.2.2.length c.1.1.2.1.2,ab c.1.2.1.1.1,ab c.1.2.1.1.2.1,af c.1.2.1.1.2.2,ae c.1.2.1.2.1.1 c.1.2.1.2.2.length c.1.2.1.2.1.2,ae c.2.1.1 c.2.2.length c.2.1.2,ab c.1.2.2.1.1,ab c.1.2.2.1.2.1,af c.1.2.2.1.2.2,ae c.1.2.2.2.1.1 c.1.2.2.2.2.length c.1.2.2.2.1.2,ae a len d]:=b;simp only[cY,gX,hU]at b;rcases b with rfl|rfl|rfl|rfl|rfl|rfl|rfl|rfl|rfl|rfl|rfl|rfl|rfl|rfl|rfl|rfl|rfl|rfl|rfl<;>rfl
theorem dO{w:ag}{b:Nat}{C:Array au}{t:TypeId}(a:w.heap[b]?=some (.cells C t (0,0))):w.there b 0 C.size:=λj c=>by
 simp only[World.cell?,World.frozen?,a,cT];simp[c]
theorem eQ(b:Nat):(cs:cX)->(o:Nat)->(w:ag)->bE (λq=>q=b) w (w.setCells b o cs)/\(w.setCells b o cs).heap.size=w.heap.size
 | [],_,w=>⟨bE.refl _ _,rfl⟩
 | v::cs,o,w=>by
  obtain⟨a,c⟩:=eQ b cs (o+1) (w.setCell ⟨b,o,none⟩ v);rw[World.setCells];exact⟨(bN w b o v).trans a λ_ _ e=>e,c.trans (by simp[World.setCell])⟩
theorem Bk{n N:Nat}(bf:Nat)(l:List (Cl (n+1)))(b2:ar)(L ci M:Nat)(w:ag)(D:Nat->Nat->Bool)(R:Tm (N+1)->List (Tm (N+1))->bt)(bg:Nat->Nat->ar->Nat->Nat->ag->bt)(cx:L<=1000000)(cy:M<=1000000)(b8:Hid (l.length=L))(b7:Hid (∀(i:Nat)(c:Cl (n+1)),l[i]?=some c->∃b o,b2=some ⟨b,o,none⟩/\b<w.heap.size/\∀(j:Nat)(r:au),(fy (n+1) c)[j]?=some r->ai w b (o+i*13+j) r))(bu:Hid (∀W,am w W->w.heap.size<W.heap.size->ao 34 #[aH bf] W λe w'=>∃s:Tm (N+1),e=.returned (Qr s)/\Hid (am W w'/\ ∀a7,am w' a7->ao 35 #[aH bf] a7 λe aZ=>∃ma b3 ys,e=.returned (ae ma M b3)/\Hid (ys.length=M/\am a7 aZ/\(∀(i:Nat)(y:Tm (N+1)),ys[i]?=some y->∃g o,ma=some ⟨g,o,none⟩/\g<aZ.heap.size/\∀(j:Nat)(r:au),(QS y)[j]?=some r->ai aZ g (o+i*4+j) r)/\R s ys aZ))))(b6:Hid (∀s ys w0 W i j y c,R s ys w0->am w0 W->ys[i]?=some y->l[j]?=some c->ao 115 #[QN c,Qr s,Qr y] W λe w'=>∃a len bJ,e=.returned (.tuple #[ae a len bJ,.bool (D i j)])/\Hid (am W w'/\(D i j=true->bg i j a len bJ W w')))):ao 76 #[aH bf,ae b2 L ci] w (Q4 l M L D R bg w):=by
 have bv:Hid (∃w0 k x,(w0=w.alloc x/\k=w.heap.size/\x=.cells #[ab 0,ab 0,ab 0,af ⟨#[]⟩,ae none 0 0,ab 0,ab 0,af ⟨#[]⟩,ae none 0 0,ab 0,ab 0,af ⟨#[]⟩,ae none 0 0,ae none 0 0,ab 0,ab 0,af ⟨#[]⟩,ae none 0 0,ae none 0 0] 164)/\am w w0/\w0.heap[k]?=some x/\w.heap.size<w0.heap.size/\Hid (k=w.heap.size)):=⟨_,_,_,⟨rfl,rfl,rfl⟩,aS _ _,aD _ _,by simp,rfl⟩;go_enter func76,ntmps76;go_wp2_with fail;obtain⟨w0,d,x,⟨bb,bV,ba⟩,bL,bO,bU,br⟩:=bv.out;rw[ba]at bb;rw[<-bb,<-bV];have aU:=ap bL;have a4:=ap bO;have bp:=ap ba;have bm:=ap bU;clear bb bV ba bL bO bU bv;refine(bu _ aU bm).mono ?_;rintro e a0 ⟨s,rfl,X⟩;unfold Qr;have a1:=ap (aU.trans (X.1.mono aU.size));have b9:=ap (aW bm X.1.size);have bo:=ap X.2;have bz:Hid (∃O k,(O=a0.alloc (.cells #[ab s.1.1,ab s.1.2.1,af s.1.2.2,ae s.2.1.1 s.2.2.length s.2.1.2] 31)/\k=a0.heap.size)/\am a0 O/\O.heap[k]?=some (.cells #[ab s.1.1,ab s.1.2.1,af s.1.2.2,ae s.2.1.1 s.2.2.length s.2.1.2] 31)):=⟨_,_,⟨rfl,rfl⟩,aS _ _,aD _ _⟩;have a5:Hid (a0.heap[d]?=some x):=(X.1.block d (aI.1 a4).1).trans a4;clear X bu a4 aU;go_upto_region 2 with fail;obtain⟨O,az,⟨bZ,bW⟩,av,bP⟩:=bz.out;rw[<-bZ,<-bW];have a2:=ap (a1.trans (av.mono a1.size));have Z:Hid (O.heap[d]?=some x/\O.heap[az]?=some (.cells #[ab s.1.1,ab s.1.2.1,af s.1.2.2,ae s.2.1.1 s.2.2.length s.2.1.2] 31)):=⟨(av.block d (aI.1 a5).1).trans a5,bP⟩;have bn:=ap (bo O av);have ca:=ap (aW b9 av.size);clear bZ bW av bP bz bo a5 a1;go_wp2_with fail;refine bn.mono ?_;rintro e U ⟨ma,b3,ys,rfl,E⟩;have Q:=ap (a2.trans (E.2.1.mono a2.size));have cb:=ap (aW ca E.2.1.size);have S:Hid (U.heap[d]?=some x/\U.heap[az]?=some (.cells #[ab s.1.1,ab s.1.2.1,af s.1.2.2,ae s.2.1.1 s.2.2.length s.2.1.2] 31)):=⟨(E.2.1.block d (aI.1 Z.1).1).trans Z.1,(E.2.1.block az (aI.1 Z.2).1).trans Z.2⟩;have cc:=ap E.1;have bB:=ap E.2.2.1;have bs:=ap E.2.2.2;clear E bn Z a2;go_wp2_with fail;go_loopw [18] (λi wr=>∃bd:Nat,bd<=M/\i=ab bd/\Hid (am U wr/\∀a b,a<bd->b<L->D a b=false)) (λi _=>M-(intOf i).toNat)
 case atStart=>exact⟨0,aM _,rfl,aA _ _,λa b cd=>by omega⟩
 case round=>
  obtain⟨i,cz,rfl,A⟩:=hrel;by_cases cf:i<M;rotate_left
  ·obtain rfl:i=M:=by omega
   have K:Hid (wr.there d 0 19):=by
    have aq:wr.heap[d]?=some x:=(A.1.block d (aI.1 S.1).1).trans S.1;rw[bp.out]at aq;exact dO aq
   go_upto_region 13 with fail;go_step;go_step;go_step;go_step;have B:Hid (∃wf,wf=wr.setCells d 0 GR.toArray.toList/\Hid (wf.rangeAt d 0 GR/\bE (λk=>k=d) wr wf)):=⟨_,rfl,World.rangeAt_setCells_same wr d 0 GR K,(eQ d _ 0 wr).1⟩;refine wpList_store_mid rfl 164 (.tmp 4) (.tmp 44) rfl d 0 GR.toArray rfl rfl K jl FE ?_;obtain⟨wf,ax,B⟩:=B.out;rw[<-ax];clear ax K;go_wp2_with fail;have a9:=run_loadVar_mid (P:=Tryz.prog) wf d 0 164 GR _ B.1 underlying164 rfl jl;refine ay (v:=.tuple #[.agg GR.toArray,.bool false]) (results_cell_tmp results76 rfl a9 rfl) rfl ?_;exact aj ⟨rfl,λa b bK T=>A.2 a b bK T,(Q.trans (A.1.mono Q.size)).trans (B.2.below (by have:=Q.size;have:=A.1.size;omega) λb T e=>by have:=br.out;omega)⟩
  ·obtain⟨y,bc⟩:∃y,ys[i]?=some y:=⟨ys[i]'(by rw[cc.out];exact cf),aN _⟩;have bA:=ap bc;obtain⟨g,o,rfl,ce,bi⟩:=bB.out i y bc;have f:∀(j:Nat)(r:au),(QS y)[j]?=some r->ai wr g (o+i*4+j) r:=λj r bS=>(A.1.cell (p:=⟨g,o+i*4+j,none⟩) ce).trans (bi j r bS);have cj:ai wr g (o+i*4) (ab y.1.1):=f 0 _ rfl;have ck:ai wr g (o+i*4+1) (ab y.1.2.1):=f 1 _ rfl;have cl:ai wr g (o+i*4+2) (af y.1.2.2):=f 2 _ rfl;have cm:ai wr g (o+i*4+3) (ae y.2.1.1 y.2.2.length y.2.1.2):=f 3 _ rfl;have cA:(0:Int)<=(i:Int):=by omega
   have cB:(i:Int)<(M:Int):=by omega
   have bx:Hid (∃V k,(V=wr.alloc (.cells #[ab y.1.1,ab y.1.2.1,af y.1.2.2,ae y.2.1.1 y.2.2.length y.2.1.2] 31)/\k=wr.heap.size)/\am wr V/\V.heap[k]?=some (.cells #[ab y.1.1,ab y.1.2.1,af y.1.2.2,ae y.2.1.1 y.2.2.length y.2.1.2] 31)):=⟨_,_,⟨rfl,rfl⟩,aS _ _,aD _ _⟩;clear f bi bc;go_wp2_with fail;obtain⟨V,aY,⟨b0,bX⟩,bM,bQ⟩:=bx.out;rw[<-b0,<-bX];have Y:=ap (A.1.trans (bM.mono A.1.size));have bq:=ap bQ;have bC:=ap A.2;clear b0 bX bM bQ bx cj ck cl cm A bB;go_loopw [25] (λj wr=>∃be:Nat,be<=L/\j=ab be/\Hid (am V wr/\∀b,b<be->D i b=false)) (λj _=>L-(intOf j).toNat)
   case atStart=>exact⟨0,aM _,rfl,aA _ _,λb cd=>by omega⟩
   case round=>
    obtain⟨j,bS,rfl,J⟩:=hrel;by_cases cg:j<L;rotate_left
    ·obtain rfl:j=L:=by omega
     have a3:Hid (am U wr/\∀a b,a<i+1->b<j->D a b=false):=⟨Y.trans (J.1.mono Y.size),λa b bK T=>by
      by_cases e:a=i
      ·rw[e];exact J.2 b T
      ·exact bC a b (by omega) T⟩
     go_wp2_with fail;go_roundw
     case rel=>exact⟨i+1,by omega,by go_num,a3⟩
     case measure=>simp[intOf];omega
    ·obtain⟨c,a8⟩:∃c,l[j]?=some c:=⟨l[j]'(by rw[b8.out];exact cg),aN _⟩;obtain⟨q,lo,rfl,ch,bj⟩:=b7 j c a8;have bk:=ap a8;have bh:=ap (Q.trans (Y.mono Q.size));have b5:=ap (bh.trans (J.1.mono bh.size));have f:∀(t:Nat)(r:au),(fy (n+1) c)[t]?=some r->ai wr q (lo+j*13+t) r:=λt r aw=>(b5.cell (p:=⟨q,lo+j*13+t,none⟩) ch).trans (bj t r aw);have y0:ai wr q (lo+j*13) (ab c.1.1.1.1):=f 0 _ rfl;have y1:ai wr q (lo+j*13+1) (ab c.1.1.1.2.1):=f 1 _ rfl;have y2:ai wr q (lo+j*13+2) (af c.1.1.1.2.2):=f 2 _ rfl;have cq:ai wr q (lo+j*13+3) (ae c.1.1.2.1.1 c.1.1.2.2.length c.1.1.2.1.2):=f 3 _ rfl;have cr:ai wr q (lo+j*13+4) (ab c.1.2.1.1.1):=f 4 _ rfl;have cs:ai wr q (lo+j*13+5) (ab c.1.2.1.1.2.1):=f 5 _ rfl;have ct:ai wr q (lo+j*13+6) (af c.1.2.1.1.2.2):=f 6 _ rfl;have cu:ai wr q (lo+j*13+7) (ae c.1.2.1.2.1.1 c.1.2.1.2.2.length c.1.2.1.2.1.2):=f 7 _ rfl;have cv:ai wr q (lo+j*13+8) (ae c.2.1.1 c.2.2.length c.2.1.2):=f 8 _ rfl;have cw:ai wr q (lo+j*13+9) (ab c.1.2.2.1.1):=f 9 _ rfl;have cn:ai wr q (lo+j*13+10) (ab c.1.2.2.1.2.1):=f 10 _ rfl;have co:ai wr q (lo+j*13+11) (af c.1.2.2.1.2.2):=f 11 _ rfl;have cp:ai wr q (lo+j*13+12) (ae c.1.2.2.2.1.1 c.1.2.2.2.2.length c.1.2.2.2.1.2):=f 12 _ rfl;have cC:(0:Int)<=(j:Int):=by omega
     have cD:(j:Int)<(L:Int):=by omega
     have bw:Hid (∃C k,(C=wr.alloc (.cells #[ab c.1.1.1.1,ab c.1.1.1.2.1,af c.1.1.1.2.2,ae c.1.1.2.1.1 c.1.1.2.2.length c.1.1.2.1.2,ab c.1.2.1.1.1,ab c.1.2.1.1.2.1,af c.1.2.1.1.2.2,ae c.1.2.1.2.1.1 c.1.2.1.2.2.length c.1.2.1.2.1.2,ae c.2.1.1 c.2.2.length c.2.1.2,ab c.1.2.2.1.1,ab c.1.2.2.1.2.1,af c.1.2.2.1.2.2,ae c.1.2.2.2.1.1 c.1.2.2.2.2.length c.1.2.2.2.1.2] 162)/\k=wr.heap.size)/\am wr C/\C.heap[k]?=some (.cells #[ab c.1.1.1.1,ab c.1.1.1.2.1,af c.1.1.1.2.2,ae c.1.1.2.1.1 c.1.1.2.2.length c.1.1.2.1.2,ab c.1.2.1.1.1,ab c.1.2.1.1.2.1,af c.1.2.1.1.2.2,ae c.1.2.1.2.1.1 c.1.2.1.2.2.length c.1.2.1.2.1.2,ae c.2.1.1 c.2.2.length c.2.1.2,ab c.1.2.2.1.1,ab c.1.2.2.1.2.1,af c.1.2.2.1.2.2,ae c.1.2.2.2.1.1 c.1.2.2.2.2.length c.1.2.2.2.1.2] 162)):=⟨_,_,⟨rfl,rfl⟩,aS _ _,aD _ _⟩;clear f bj a8;go_upto_region 8 with fail;obtain⟨C,b4,⟨b1,bY⟩,bN,bR⟩:=bw.out;rw[<-b1,<-bY];have aX:=ap (J.1.trans (bN.mono J.1.size));have aV:=ap (Y.trans (aX.mono Y.size));have m:=ap bR;have bD:=ap J.2;have u:Hid (C.heap[d]?=some x/\C.heap[az]?=some (.cells #[ab s.1.1,ab s.1.2.1,af s.1.2.2,ae s.2.1.1 s.2.2.length s.2.1.2] 31)/\C.heap[aY]?=some (.cells #[ab y.1.1,ab y.1.2.1,af y.1.2.2,ae y.2.1.1 y.2.2.length y.2.1.2] 31)):=⟨(aV.block d (aI.1 S.1).1).trans S.1,(aV.block az (aI.1 S.2).1).trans S.2,(aX.block aY (aI.1 bq).1).trans bq⟩;clear b1 bY bN bR bw J y0 y1 y2 cq cr cs ct cu cv cw cn co cp;have aB:=ah m 0;have aC:=ah m 1;have aJ:=ah m 2;have aK:=ah m 3;have aL:=ah m 4;have aO:=ah m 5;have aP:=ah m 6;have aQ:=ah m 7;have aR:=ah m 8;have aT:=ah m 9;have aE:=ah m 10;have aF:=ah m 11;have aG:=ah m 12;have bF:=ah u.2.1 0;have aa:=ah u.2.2 0;have bG:=ah u.2.1 1;have ad:=ah u.2.2 1;have bH:=ah u.2.1 2;have al:=ah u.2.2 2;have bI:=ah u.2.1 3;have an:=ah u.2.2 3;simp only[dh,dy]at aB aC aJ aK aL aO aP aQ aR aT aE aF aG bF bG bH bI aa ad al an;have bl:=ap (b6 s ys U C i j y c bs aV bA bk);go_wp2_with fail;refine bl.mono ?_;rintro e z ⟨F,H,G,rfl,I⟩;clear aB aC aJ aK aL aO aP aQ aR aT aE aF aG bF bG bH bI aa ad al an bl;obtain⟨t,aw⟩:∃t,t=D i j:=⟨_,rfl⟩;rw[<-aw];have a6:=ap aw;clear aw;cases t
     ·have a3:Hid (am V z/\∀b,b<j+1->D i b=false):=⟨aX.trans (I.1.mono aX.size),λb T=>by
        by_cases e:b=j
        ·rw[e];exact a6.symm
        ·exact bD b (by omega)⟩
      clear I;go_wp2_with fail;go_roundw
      case rel=>exact⟨j+1,by omega,by go_num,a3⟩
      case measure=>simp[intOf];omega
     ·have h:Hid (z.heap[d]?=some x/\z.heap[aY]?=some (.cells #[ab y.1.1,ab y.1.2.1,af y.1.2.2,ae y.2.1.1 y.2.2.length y.2.1.2] 31)/\z.heap[b4]?=some (.cells #[ab c.1.1.1.1,ab c.1.1.1.2.1,af c.1.1.1.2.2,ae c.1.1.2.1.1 c.1.1.2.2.length c.1.1.2.1.2,ab c.1.2.1.1.1,ab c.1.2.1.1.2.1,af c.1.2.1.1.2.2,ae c.1.2.1.2.1.1 c.1.2.1.2.2.length c.1.2.1.2.1.2,ae c.2.1.1 c.2.2.length c.2.1.2,ab c.1.2.2.1.1,ab c.1.2.2.1.2.1,af c.1.2.2.1.2.2,ae c.1.2.2.2.1.1 c.1.2.2.2.2.length c.1.2.2.2.1.2] 162)):=⟨(I.1.block d (aI.1 u.1).1).trans u.1,(I.1.block aY (aI.1 u.2.2).1).trans u.2.2,(I.1.block b4 (aI.1 m).1).trans m⟩;have K:Hid (z.there d 0 19):=by
       have aq:=h.1;rw[bp.out]at aq;exact dO aq
      have aB:=ah h.2.2 0;have aC:=ah h.2.2 1;have aJ:=ah h.2.2 2;have aK:=ah h.2.2 3;have aL:=ah h.2.2 4;have aO:=ah h.2.2 5;have aP:=ah h.2.2 6;have aQ:=ah h.2.2 7;have aR:=ah h.2.2 8;have aT:=ah h.2.2 9;have aE:=ah h.2.2 10;have aF:=ah h.2.2 11;have aG:=ah h.2.2 12;have aa:=ah h.2.1 0;have ad:=ah h.2.1 1;have al:=ah h.2.1 2;have an:=ah h.2.1 3;simp only[dh,dy]at aB aC aJ aK aL aO aP aQ aR aT aE aF aG aa ad al an;go_upto_region 10 with fail
      iterate 16 go_step
      have B:Hid (∃wf,wf=z.setCells d 0 (DJ i y c F H G).toArray.toList/\Hid (wf.rangeAt d 0 (DJ i y c F H G)/\bE (λk=>k=d) z wf)):=⟨_,rfl,World.rangeAt_setCells_same z d 0 (DJ i y c F H G) K,(eQ d _ 0 z).1⟩;refine wpList_store_mid rfl 164 (.tmp 4) (.tmp 41) rfl d 0 (DJ i y c F H G).toArray rfl rfl K jl (FF i y c F H G) ?_;obtain⟨wf,ax,B⟩:=B.out;rw[<-ax];have a9:=ap (run_loadVar_mid (P:=Tryz.prog) wf d 0 164 (DJ i y c F H G) _ B.1 underlying164 rfl jl);clear ax K aB aC aJ aK aL aO aP aQ aR aT aE aF aG aa ad al an;go_wp2_with fail;refine ay (v:=.tuple #[.agg (DJ i y c F H G).toArray,.bool true]) (results_cell_tmp results76 rfl a9 rfl) rfl ?_;refine ak ⟨i,j,y,c,F,H,G,rfl,s,ys,U,C,z,bs,bA,bk,a6.symm,bC,bD,Q,aV,I.1,I.2 a6.symm,?_,cb⟩;have bT:=B.2;rw[br.out]at bT;exact bT
end Go.Proofs.YtmmahddlcldmiaaGreat
