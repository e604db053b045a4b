/- Proved here: plain facts and contracts. No condition but what each names. -/
import Derived.Test.YtmmahddlcldmiaaGreatJ18
namespace Go.Proofs.YtmmahddlcldmiaaGreat
open Go.RowKit Tryz
set_option maxHeartbeats 2000000
set_option maxRecDepth 100000
variable{room:Int}{a vs ws:List Wd}{nm:List ap}{M N b m n:Nat}{Mh:aR}{w:ag}{ma:aw}
theorem j9.front{t:List Wd}{f g:List (Tm N)}(m:j9 N ws nm room (a++t) (f++g))(n:a.length=f.length):j9 N ws nm room a f:=by
 obtain⟨i,e,j,k,p,q,r,s⟩:=m;refine⟨⟨n,λo u c h d=>i.2 o u c ?_ ?_⟩,?_,λc d=>j c (List.mem_append_left _ d),?_,p,q,r,s⟩
 ·rw[dx (aX.1 h).1];exact h
 ·rw[dx (aX.1 d).1];exact d
 ·rw[kO]at e;exact(fz.1 e).1
 ·rw[iD,List.sum_append]at k;have w:(0:Int)<=(g.map (sz N)).sum:=by
   clear i e k
   induction g with
   | nil=>simp
   | cons c l ih=>
    have x:=ih λv b=>j v (by simp only[dr,cv]at b ⊢;rcases b with b|b<;>simp[b]);have y:=(fh N c).1;simp only[aU,bN];omega
  omega
theorem FE{N:Nat}:(l:List (Tm N))->(l.map λy=>1+sz N y).sum=l.length+(l.map (sz N)).sum
 | []=>by simp
 | y::l=>by
  have a:=FE l;simp only[aU,bN,br,a];omega
theorem xJ{N:Nat}:(l:List (Tm N))->(∀y∈l,aI ⟨N,y⟩)->((l.flatMap λy=>aC N y).length:Int)<=(l.map λy=>1+sz N y).sum
 | [],_=>by simp
 | y::l,h=>by
  have c:=xJ l λb a=>h b (by simp[a]);have d:=vC N y (h y (by simp));simp only[bK,bw,aU,bN];omega
theorem j9.roots{b:List (Tm N)}(h:j9 N ws nm room a b)(i:a.length<=1000):EM ws nm N a b:=by
 obtain⟨f,m,g,n,o,p,q,r⟩:=h;have e:∀c∈b,aI ⟨N,c⟩:=λc d=>oQ (g c d).1;have j:=FE b;have k:=xJ b e;have l:=f.1;exact⟨f,e,λc d=>(g c d).2,by omega,by omega,i⟩
theorem DU{base c:Nat}{a:aw}(e:w.ownsRow base 109 2 (ae a n c) n (bk vs))(s:0<n):eW w vs a/\∀b o,a=some ⟨b,o,none⟩->b<w.heap.size:=by
 rcases e.2 with⟨d,q⟩|⟨h,cap,p,d,t,i,_⟩
 ·omega
 ·injection d with f r g;subst f g;have j:=(aJ.1 i).1;refine⟨aj ⟨h,0,rfl,j,λl m k=>?_⟩,λb o d=>?_⟩
  ·have:=jk e l m k;rw[de];exact this
  ·injection d with d;injection d with d;omega
section
variable {base pb:Nat} {name:ap} {room:Int} {N:Nat} {s:Tm (N+1)} {ms:List (Tm (N+1))} {xs:List (Wd×Tm (N+1))} {nk:Nat} {M:aR} {w:ag} {ws:List Wd} {nm:List ap} {sv:Wd} {vs:List Wd} {ma:aw} {mc:Nat} {Mh:aR}
theorem cO.front(a:cO base pb name room (N+1) s ms xs nk M w ws nm sv vs ma mc Mh):j9 (N+1) ws nm room (sv::vs) (s::ms):=
 j9.front a.has (by simp[a.len])
theorem ED{w:ag}{pb:Nat}{c0 a b c d e f g:av}{t:TypeId}(sv:Wd)(mv:av)(h:w.heap[pb]?=some (.cells #[c0,a,b,c,d,e,f,g] t)):(CA w pb sv mv).heap[pb]?=some (.cells #[c0,a,b,c,d,ab sv.1,ab sv.2,mv] t):=by
 unfold CA World.setCell;simp[bO,h]
theorem ID(w:ag)(pb:Nat)(sv:Wd)(mv:av):bZ (λb=>b=pb) w (CA w pb sv mv).drew:=by
 have c:=bz w pb 5 (ab sv.1);have d:=bz (w.setCell ⟨pb,5,none⟩ (ab sv.1)) pb (5+1) (ab sv.2);have e:=bz ((w.setCell ⟨pb,5,none⟩ (ab sv.1)).setCell ⟨pb,5+1,none⟩ (ab sv.2)) pb 7 mv;have a:=(c.trans d λ_ _ k=>k).trans e λ_ _ k=>k;exact⟨a.os,a.tape,a.output,a.size,a.block⟩
def LH(base pb:Nat)(name:ap)(room:Int)(N:Nat)(s:Tm N)(ms:List (Tm N))(nk:Nat)(M:aR)(nm:List ap)(w:ag)(e:Ending)(w':ag):Prop:=
 e=.returned (.tuple #[])/\∃c g a f d,cO base pb name room N s ms [] nk (λb=>M b\/w.heap.size<=b) w' c nm g a f a.length d/\Hid (bZ M w w'/\(c.length:Int)=((s::ms).map (sz N)).sum)
theorem cO.tidy(e:cO base pb name room (N+1) s ms xs nk M w ws nm sv vs ma mc Mh)(aN:nk<=50000)(aF:ms.length<=999)(aG:base<=w.heap.size):am 23 #[aH pb] w (LH base pb name room (N+1) s ms nk M nm w):=by
 have C:=e.front;have aL:=e.len;have ao:=e.names;have ar:=C.roots (by simp only[br];omega);obtain⟨L,av,v⟩:=C.tidied;obtain⟨q,j,B⟩:∃q j,(jU ws (N+1) (sv::vs)).1=q::j:=by
  cases u:(jU ws (N+1) (sv::vs)).1 with
  | nil=>rw[u]at v;simp at v
  | cons n l=>exact⟨n,l,rfl⟩
 rw[B]at L v;simp only[br]at v;have I:j.length=vs.length:=by omega
 obtain⟨_,_,_,_,aP,_,aQ,_⟩:=C;refine(Ik pb sv vs vs.length ma mc w (λa m g r=>m=q/\yB base (PL pb name sv (ae ma vs.length mc)) room (jU ws (N+1) (sv::vs)) nm Mh a g r) rfl (by omega) ?_ ?_ ?_).mono ?_
 ·intro g f;obtain⟨R,P,ax,z,_⟩:=(e.later f).heap.box;obtain⟨_,U,V,W,_⟩:=PL.cells z;exact⟨U,V,W⟩
 ·intro g f;exact(e.later f).mail.words
 ·intro g f n c ap;have au:=f.size;obtain⟨ak,an⟩:=DU ap (by omega);have al:(sv::vs).length=1+vs.length:=by simp only[br];omega
  have t:=zm (N+1) (s::ms) (sv::vs) n c base (PL pb name sv (ae ma vs.length mc)) room ws nm Mh g (e.later f).heap ar ak an (by omega) (by omega) (by omega);rw[al]at t;refine t.mono ?_;rintro d r ⟨a,rfl,G⟩;have T:=G.out;obtain⟨E,Q,F,az,aA,x⟩:=T;obtain⟨R,P,ax,z,_⟩:=E.box;obtain⟨_,X,Y,Z,aa,aC⟩:=PL.cells z;obtain⟨aB,aw,ay,A,_⟩:=(e.later f).heap.box;have aq:pb<g.heap.size:=(PL.cells A).2.2.2.2.2;refine⟨a,q,rfl,⟨?_,by omega,⟨_,_,_,X,Y,Z⟩,aa,rfl,G⟩⟩;rw[B]at F;rcases F with d|⟨b,o,d,aI,ag⟩
  ·cases d
  ·injection d with d;injection d with k p;subst k p;have:=ag 0 q rfl;simpa using this
 ·rintro d aR ⟨rfl,a,m,g,r,rfl,S⟩;obtain⟨f,rfl,E,Q,F,az,aA,len,x⟩:=S;have au:=f.size;obtain⟨aB,aw,ay,A,_⟩:=(e.later f).heap.box;have aq:pb<g.heap.size:=(PL.cells A).2.2.2.2.2;have ad:Mh pb:=by
   obtain⟨_,_,_,_,_,_,i,_⟩:=e.heap;exact i
  have D:=ID r pb m (ae (vw a vs.length) vs.length vs.length);rw[B]at x;have ah:¬a=pb:=by omega
  refine⟨rfl,(jU ws (N+1) (sv::vs)).2.1,m,j,vw a vs.length,λb=>(Mh b\/g.heap.size<=b)/\b≠a,⟨?_,?_,?_,by omega,ao,?_,?_⟩,?_⟩
  ·rw[I];exact E.turn D λR P mp t=>ED m _ t
  ·rw[I];rcases x.2 with⟨d,aD⟩|⟨aE,cap,y,d,_,u,aK,aM,aO,O⟩
   ·cases d
   ·injection d with k p ab;injection k with k;injection k with k;subst k ab;have J:(CA r pb m (ae (vw a vs.length) vs.length vs.length)).drew.heap[a]?=some (.cells y 109 (0,0)):=(D.block a (aJ.1 u).1 ah).trans u;have K:=x.1;rw[cI]at K;simp only[br]at K;refine aj ?_;by_cases H:vs.length=0
    ·refine⟨a,0,y,by simp[vw,H],by simp,J,by omega,by unfold maxLen;omega,by omega,?_⟩;have:j=[]:=List.length_eq_zero_iff.1 (by omega);simp[this,bk]
    ·refine⟨a,2,y,by simp[vw,H],by simp,J,by omega,by omega,by omega,?_⟩;have d:len*2=2+j.length*2:=by omega
     rw[d]at O;have p:=congrArg (List.drop 2) O;rw[List.drop_take,show 2+j.length*2-2=j.length*2 from by omega]at p;exact p
  ·simpa using L
  ·intro b af;rcases af.1 with i|i
   ·exact ai (e.inM b i)
   ·exact aj (by omega)
  ·intro n h;have:n.block=a:=by
    unfold vw at h;split at h
    ·injection h with h;rw[<-h]
    ·injection h with h;rw[<-h]
   exact aj (by omega)
  ·refine⟨?_,av⟩;refine bZ.trans ((bm f M).trans (Q.mono e.inM) λ_ _ i=>i) D λb _ i=>?_;rw[i];exact e.inM pb ad
end
def Up(n:Nat)(w0 w1:ag):Prop:=w0.heap.size<=w1.heap.size/\∀b,n<=b->b<n+3->b<w0.heap.size->w1.heap[b]?=w0.heap[b]?
theorem vT(w:ag){q:Nat}(c:b≠q)(o:Nat)(v:av):(w.setCell ⟨q,o,none⟩ v).heap[b]?=w.heap[b]? :=by
 have d:¬q=b:=λa=>c a.symm;simp[World.setCell,bO,d]
def vK(w:ag)(g:Nat)(a b:av):ag:=(w.setCell ⟨g,0,none⟩ a).setCell ⟨g,0+1,none⟩ b
theorem lD{g:Nat}(a:b≠g)(x y:av):(vK w g x y).heap[b]?=w.heap[b]? :=(vT _ a _ _).trans (vT _ a _ _)
theorem Hp(w:ag)(g:Nat)(x y:av):(vK w g x y).heap.size=w.heap.size:=by simp[vK,World.setCell]
theorem BW(al:Nat)(k i:Int)(t:ap)(h:aw)(l j:Nat)(w:ag)(O:Wd->Int->ag->ag->Prop)(an:ag->ag->Prop)(aI:Wd->Int->ag->ag->Prop)(aK:Hid (∀w0,ak w w0->am 73 #[.pointer (some ⟨al,1,none⟩),.agg #[ab k,ab i,af t,ae h l j]] w0 λe w1=>∃(v:Wd)(g:Int),e=.returned (.tuple #[.agg #[ab v.1,ab v.2],ab g])/\Hid (Up w.heap.size w0 w1/\O v g w0 w1)))(aM:Hid (∀v1 w0 w1 w2,ak w w0->O v1 6 w0 w1->bZ (λb=>w.heap.size<=b/\b<w0.heap.size) w1 w2->w.heap.size+3<=w2.heap.size->am 23 #[aH al] w2 λe d=>e=.returned (.tuple #[])/\Hid (Up w.heap.size w2 d/\an w2 d)))(aL:Hid (∀w2 d N,an w2 d->w.heap.size+3<=w2.heap.size->ak d N->am 73 #[.pointer (some ⟨al,1,none⟩),.agg #[ab k,ab i,af t,ae h l j]] N λe w4=>∃(v:Wd)(g:Int),e=.returned (.tuple #[.agg #[ab v.1,ab v.2],ab g])/\Hid (Up w.heap.size N w4/\aI v g N w4))):am 123 #[aH al,.agg #[ab k,ab i,af t,ae h l j]] w λe w'=>∃(v:Wd)(g:Int),e=.returned (.tuple #[.agg #[ab v.1,ab v.2],ab g])/\ ((g≠6/\∃w0 w1,ak w w0/\O v g w0 w1/\bZ (λb=>w.heap.size<=b/\b<w0.heap.size) w1 w')\/∃v1 w0 w1 w2 d N w4,ak w w0/\O v1 6 w0 w1/\bZ (λb=>w.heap.size<=b/\b<w0.heap.size) w1 w2/\w.heap.size+3<=w2.heap.size/\an w2 d/\ak d N/\aI v g N w4/\bZ (λb=>b=w.heap.size+1) w4 w'):=by
 go_enter func123,ntmps123;go_wp2_with fail;have R:=au (kw w (.cells #[ab k,ab i,af t,ae h l j] 31) (.cells #[ab 0,ab 0] 109));have m:Hid (ak w ((w.alloc (.cells #[ab k,ab i,af t,ae h l j] 31)).alloc (.cells #[ab 0,ab 0] 109))/\((w.alloc (.cells #[ab k,ab i,af t,ae h l j] 31)).alloc (.cells #[ab 0,ab 0] 109)).heap.size=w.heap.size+1+1):=⟨by go_grown,by simp⟩;generalize aN:(w.alloc _).alloc _=c;rw[aN]at R m;clear aN;have F:Hid (∀w':ag,w'.heap[w.heap.size]?=c.heap[w.heap.size]? ->w'.cell? ⟨w.heap.size,0,none⟩=some (ab k)/\w'.cell? ⟨w.heap.size,1,none⟩=some (ab i)/\w'.cell? ⟨w.heap.size,2,none⟩=some (af t)/\w'.cell? ⟨w.heap.size,3,none⟩=some (ae h l j)):=λw' T=>by
  have f:=T.trans R.1;exact⟨ay f 0,ay f 1,ay f 2,ay f 3⟩
 obtain⟨aY,aZ,a0,a1⟩:=F.out c rfl;have u:Hid (ak c c.drew/\c.drew.heap[w.heap.size]?=c.heap[w.heap.size]?):=⟨(aq _ _).drew,rfl⟩;have Q:Hid (ak c (c.alloc (.cells #[ab 0,ab 0] 109)).drew/\(c.alloc (.cells #[ab 0,ab 0] 109)).drew.heap[w.heap.size]?=c.heap[w.heap.size]?):=by
  have T:ak c (c.alloc (.cells #[ab 0,ab 0] 109)).drew:=by go_grown
  exact⟨T,T.block _ (by have:=m.2;omega)⟩
 have aA:Hid ((c.alloc (.cells #[ab 0,ab 0] 109)).drew.heap[c.heap.size]?=some (.cells #[ab 0,ab 0] 109)/\(c.alloc (.cells #[ab 0,ab 0] 109)).drew.heap.size=c.heap.size+1):=⟨rG c _ rfl,by simp⟩
 go_region_held3 (λw'=>w'.cell? ⟨w.heap.size,0,none⟩=some (ab k)/\w'.cell? ⟨w.heap.size,1,none⟩=some (ab i)/\w'.cell? ⟨w.heap.size,2,none⟩=some (af t)/\w'.cell? ⟨w.heap.size,3,none⟩=some (ae h l j)) (first|(go_keep;done)|with_reducible exact F _ u.2|with_reducible exact F _ Q.2|exact F _ P|exact F _ (ad _)|exact F _ (ar _ _)|exact F _ (aJ _ _ _))
  ((first
   | (go_at_call 73;refine(aK _ (m.1.trans (u.1.mono m.1.size))).mono ?_;rintro e w1 ⟨v,g,rfl,p⟩;have P:Hid (w1.heap[w.heap.size]?=c.heap[w.heap.size]?):=(p.1.2 _ (ao _) (by omega) (by have f:=u.1.size;have s:=m.2;omega)).trans u.2;have ad:Hid (∀o:Obj,(w1.alloc o).heap[w.heap.size]?=c.heap[w.heap.size]?):=λo=>(gL w1 o (by have f:=p.1.1;have s:=u.1.size;have ah:=m.2;omega)).trans P;have aJ:Hid (∀(o:Obj)(n b:av),(vK (w1.alloc o) w1.heap.size n b).heap[w.heap.size]?=c.heap[w.heap.size]?):=λo n b=>(lD (by have f:=p.1.1;have s:=u.1.size;have ah:=m.2;omega) n b).trans (ad o))
   | (go_at_call 73;refine(aK _ (m.1.trans (Q.1.mono m.1.size))).mono ?_;rintro e w1 ⟨v,g,rfl,p⟩;have P:Hid (w1.heap[w.heap.size]?=c.heap[w.heap.size]?):=(p.1.2 _ (ao _) (by omega) (by have f:=Q.1.size;have s:=m.2;omega)).trans Q.2;have X:Hid (w1.heap[c.heap.size]?=some (.cells #[ab 0,ab 0] 109)):=(p.1.2 c.heap.size (by have s:=m.2;omega) (by have s:=m.2;omega) (by have s:=aA.2;omega)).trans aA.1;have aQ:w1.cell? ⟨c.heap.size,0,none⟩=some (ab 0):=ay X 0;have aR:w1.cell? ⟨c.heap.size,1,none⟩=some (ab 0):=ay X 1;have aS:=λz=>dc X z;have ar:Hid (∀n b:av,(vK w1 c.heap.size n b).heap[w.heap.size]?=c.heap[w.heap.size]?):=λn b=>(lD (by have ah:=m.2;omega) n b).trans P)))
 ·have V:Hid (∃w0 r w2,(r=w1.heap.size/\w2=w1.alloc (.cells #[ab v.1,ab v.2] 109))/\ak w w0/\O v g w0 w1/\bZ (λb=>w.heap.size<=b/\b<w0.heap.size) w1 w2/\w.heap.size+3<=w2.heap.size/\w2.heap[w.heap.size]?=some (.cells #[ab k,ab i,af t,ae h l j] 31)/\w2.heap[w.heap.size+1]?=some (.cells #[ab 0,ab 0] 109)/\w2.heap[r]?=some (.cells #[ab v.1,ab v.2] 109)/\w.heap.size+1≠r/\w.heap.size+2<=w0.heap.size):=by
    have f:=p.1.1;have s:=u.1.size;have ah:=m.2;have aB:∀b,b<w1.heap.size->(w1.alloc (.cells #[ab v.1,ab v.2] 109)).heap[b]?=w1.heap[b]? :=λb aP=>gL w1 _ aP;refine⟨c.drew,_,_,⟨rfl,rfl⟩,m.1.trans (u.1.mono m.1.size),p.2,bm aV _,by simp only[iG];omega,(ad _).trans R.1,?_,aF _ _,by omega,by omega⟩;exact(aB _ (by omega)).trans ((p.1.2 _ (by omega) (by omega) (by omega)).trans ((u.1.block _ (by omega)).trans R.2))
  obtain⟨w0,r,w2,⟨S,J⟩,a⟩:=V.out;rw[<-S,<-J];replace a:=au a;clear S J V ad aJ P p;have aE:w2.cell? ⟨r,0,none⟩=some (ab v.1):=ay a.2.2.2.2.2.2.1 0;have aG:w2.cell? ⟨r,1,none⟩=some (ab v.2):=ay a.2.2.2.2.2.2.1 1;have A:w2.cell? ⟨w.heap.size+1,0,none⟩=some (ab 0):=ay a.2.2.2.2.2.1 0;have B:w2.cell? ⟨w.heap.size+1,1,none⟩=some (ab 0):=ay a.2.2.2.2.2.1 1;have aa:=λz=>dc a.2.2.2.2.2.1 z;by_cases K:g=6;rotate_left
  ·have aO:¬(6:Int)=g:=λe=>K e.symm;go_wp2_with fail;refine az (v:=.tuple #[.agg #[ab v.1,ab v.2],ab g]) (by simp[results,results123,go_sem,A,B]) rfl ?_;obtain⟨G,H,I,_,_,_,_,_,Y⟩:=a.out;refine⟨v,g,rfl,ai ⟨K,w0,w1,G,H,bZ.trans I ((bz w2 (w.heap.size+1) 0 _).trans (bz _ (w.heap.size+1) _ _) λ_ _ e=>e) λb _ e=>?_⟩⟩;subst e;omega
  ·subst K;have W:=au (aM v w0 w1 w2 a.1 a.2.1 a.2.2.1 a.2.2.2.1);go_wp2_with fail;refine W.mono ?_;rintro e d ⟨rfl,C⟩;clear aE aG A B aa W;have q:Hid (d.heap[w.heap.size]?=some (.cells #[ab k,ab i,af t,ae h l j] 31)/\d.heap[w.heap.size+1]?=some (.cells #[ab 0,ab 0] 109)/\w.heap.size+3<=d.heap.size):=by
    have aC:=a.2.2.2.1;have L:=C.1;exact⟨(L.2 _ (by omega) (by omega) (by omega)).trans a.2.2.2.2.1,(L.2 _ (by omega) (by omega) (by omega)).trans a.2.2.2.2.2.1,aD aC L.1⟩
   have x:Hid (ak d d.drew):=(aq _ _).drew;have y:Hid (∀w':ag,w'.heap[w.heap.size]?=some (.cells #[ab k,ab i,af t,ae h l j] 31)->w'.cell? ⟨w.heap.size,0,none⟩=some (ab k)/\w'.cell? ⟨w.heap.size,1,none⟩=some (ab i)/\w'.cell? ⟨w.heap.size,2,none⟩=some (af t)/\w'.cell? ⟨w.heap.size,3,none⟩=some (ae h l j)):=λw' f=>⟨ay f 0,ay f 1,ay f 2,ay f 3⟩;obtain⟨aT,aU,aW,aX⟩:=y.out d q.1;go_wp2_with fail
   go_region_held3 (λw'=>w'.cell? ⟨w.heap.size,0,none⟩=some (ab k)/\w'.cell? ⟨w.heap.size,1,none⟩=some (ab i)/\w'.cell? ⟨w.heap.size,2,none⟩=some (af t)/\w'.cell? ⟨w.heap.size,3,none⟩=some (ae h l j)) (first|(go_keep;done)|exact y _ q.1|exact y _ U|exact y _ (ax _ _))
    ((go_at_call 73;refine(aL w2 d _ C.2 a.2.2.2.1 x).mono ?_;rintro e w4 ⟨M,Z,rfl,D⟩;have U:Hid (w4.heap[w.heap.size]?=some (.cells #[ab k,ab i,af t,ae h l j] 31)):=(D.1.2 _ (ao _) (by omega) (by have f:=q.2.2;have s:=x.size;omega)).trans q.1;have E:Hid (w4.heap[w.heap.size+1]?=some (.cells #[ab 0,ab 0] 109)):=(D.1.2 (w.heap.size+1) (by omega) (by omega) (by have f:=q.2.2;have s:=x.size;omega)).trans q.2.1;have A:w4.cell? ⟨w.heap.size+1,0,none⟩=some (ab 0):=ay E 0;have B:w4.cell? ⟨w.heap.size+1,1,none⟩=some (ab 0):=ay E 1;have aa:=λz=>dc E z;have ax:Hid (∀n b:av,(vK w4 (w.heap.size+1) n b).heap[w.heap.size]?=some (.cells #[ab k,ab i,af t,ae h l j] 31)):=λn b=>(lD (by omega) n b).trans U))
   go_wp2_with fail;refine az (v:=.tuple #[.agg #[ab M.1,ab M.2],ab Z]) (by simp[results,results123,go_sem,A,B]) rfl ?_;obtain⟨G,H,I,Y,_⟩:=a.out;exact⟨M,Z,rfl,aj ⟨v,w0,w1,w2,d,d.drew,w4,G,H,I,Y,C.2,x,D.2,(bz w4 (w.heap.size+1) 0 _).trans (bz _ (w.heap.size+1) _ _) λ_ _ e=>e⟩⟩
 ·have V:Hid (∃w0 r w2,(r=c.heap.size/\w2=vK w1 c.heap.size (ab v.1) (ab v.2))/\ak w w0/\O v g w0 w1/\bZ (λb=>w.heap.size<=b/\b<w0.heap.size) w1 w2/\w.heap.size+3<=w2.heap.size/\w2.heap[w.heap.size]?=some (.cells #[ab k,ab i,af t,ae h l j] 31)/\w2.heap[w.heap.size+1]?=some (.cells #[ab 0,ab 0] 109)/\w2.heap[r]?=some (.cells #[ab v.1,ab v.2] 109)/\w.heap.size+1≠r/\w.heap.size+2<=w0.heap.size):=by
    have f:=p.1.1;have s:=aA.2;have ah:=m.2;have aB:bZ (λb=>w.heap.size<=b/\b<(c.alloc (.cells #[ab 0,ab 0] 109)).drew.heap.size) w1 (vK w1 c.heap.size (ab v.1) (ab v.2)):=((bz w1 c.heap.size 0 _).trans (bz _ c.heap.size _ _) λ_ _ e=>e).mono λb e=>by subst e;omega
    refine⟨_,_,_,⟨rfl,rfl⟩,m.1.trans (Q.1.mono m.1.size),p.2,aB,by rw[Hp];omega,(ar _ _).trans R.1,?_,?_,by omega,by omega⟩
    ·exact(lD (by omega) _ _).trans ((p.1.2 _ (by omega) (by omega) (by omega)).trans ((Q.1.block _ (by omega)).trans R.2))
    ·have T:=X.out;unfold vK World.setCell;simp[bO,T]
  obtain⟨w0,r,w2,⟨S,J⟩,a⟩:=V.out;unfold vK at J;rw[<-S];rw[<-S]at J;rw[<-J];replace a:=au a;clear S J V ar P p X aQ aR aS;have aE:w2.cell? ⟨r,0,none⟩=some (ab v.1):=ay a.2.2.2.2.2.2.1 0;have aG:w2.cell? ⟨r,1,none⟩=some (ab v.2):=ay a.2.2.2.2.2.2.1 1;have A:w2.cell? ⟨w.heap.size+1,0,none⟩=some (ab 0):=ay a.2.2.2.2.2.1 0;have B:w2.cell? ⟨w.heap.size+1,1,none⟩=some (ab 0):=ay a.2.2.2.2.2.1 1;have aa:=λz=>dc a.2.2.2.2.2.1 z;by_cases K:g=6;rotate_left
  ·have aO:¬(6:Int)=g:=λe=>K e.symm;go_wp2_with fail;refine az (v:=.tuple #[.agg #[ab v.1,ab v.2],ab g]) (by simp[results,results123,go_sem,A,B]) rfl ?_;obtain⟨G,H,I,_,_,_,_,_,Y⟩:=a.out;refine⟨v,g,rfl,ai ⟨K,w0,w1,G,H,bZ.trans I ((bz w2 (w.heap.size+1) 0 _).trans (bz _ (w.heap.size+1) _ _) λ_ _ e=>e) λb _ e=>?_⟩⟩;subst e;omega
  ·subst K;have W:=au (aM v w0 w1 w2 a.1 a.2.1 a.2.2.1 a.2.2.2.1);go_wp2_with fail;refine W.mono ?_;rintro e d ⟨rfl,C⟩;clear aE aG A B aa W;have q:Hid (d.heap[w.heap.size]?=some (.cells #[ab k,ab i,af t,ae h l j] 31)/\d.heap[w.heap.size+1]?=some (.cells #[ab 0,ab 0] 109)/\w.heap.size+3<=d.heap.size):=by
    have aC:=a.2.2.2.1;have L:=C.1;exact⟨(L.2 _ (by omega) (by omega) (by omega)).trans a.2.2.2.2.1,(L.2 _ (by omega) (by omega) (by omega)).trans a.2.2.2.2.2.1,aD aC L.1⟩
   have x:Hid (ak d d.drew):=(aq _ _).drew;have y:Hid (∀w':ag,w'.heap[w.heap.size]?=some (.cells #[ab k,ab i,af t,ae h l j] 31)->w'.cell? ⟨w.heap.size,0,none⟩=some (ab k)/\w'.cell? ⟨w.heap.size,1,none⟩=some (ab i)/\w'.cell? ⟨w.heap.size,2,none⟩=some (af t)/\w'.cell? ⟨w.heap.size,3,none⟩=some (ae h l j)):=λw' f=>⟨ay f 0,ay f 1,ay f 2,ay f 3⟩;obtain⟨aT,aU,aW,aX⟩:=y.out d q.1;go_wp2_with fail
   go_region_held3 (λw'=>w'.cell? ⟨w.heap.size,0,none⟩=some (ab k)/\w'.cell? ⟨w.heap.size,1,none⟩=some (ab i)/\w'.cell? ⟨w.heap.size,2,none⟩=some (af t)/\w'.cell? ⟨w.heap.size,3,none⟩=some (ae h l j)) (first|(go_keep;done)|exact y _ q.1|exact y _ U|exact y _ (ax _ _))
    ((go_at_call 73;refine(aL w2 d _ C.2 a.2.2.2.1 x).mono ?_;rintro e w4 ⟨M,Z,rfl,D⟩;have U:Hid (w4.heap[w.heap.size]?=some (.cells #[ab k,ab i,af t,ae h l j] 31)):=(D.1.2 _ (ao _) (by omega) (by have f:=q.2.2;have s:=x.size;omega)).trans q.1;have E:Hid (w4.heap[w.heap.size+1]?=some (.cells #[ab 0,ab 0] 109)):=(D.1.2 (w.heap.size+1) (by omega) (by omega) (by have f:=q.2.2;have s:=x.size;omega)).trans q.2.1;have A:w4.cell? ⟨w.heap.size+1,0,none⟩=some (ab 0):=ay E 0;have B:w4.cell? ⟨w.heap.size+1,1,none⟩=some (ab 0):=ay E 1;have aa:=λz=>dc E z;have ax:Hid (∀n b:av,(vK w4 (w.heap.size+1) n b).heap[w.heap.size]?=some (.cells #[ab k,ab i,af t,ae h l j] 31)):=λn b=>(lD (by omega) n b).trans U))
   go_wp2_with fail;refine az (v:=.tuple #[.agg #[ab M.1,ab M.2],ab Z]) (by simp[results,results123,go_sem,A,B]) rfl ?_;obtain⟨G,H,I,Y,_⟩:=a;exact⟨M,Z,rfl,aj ⟨v,w0,w1,w2,d,d.drew,w4,G,H,I,Y,C.2,x,D.2,(bz w4 (w.heap.size+1) 0 _).trans (bz _ (w.heap.size+1) _ _) λ_ _ e=>e⟩⟩
theorem j9.lay{q:List (Tm N)}(t:j9 N ws nm room a q)(x:Tm N)(j:bE N x=0/\aS N x=true/\sz N x<=room-ws.length)(y:(bi N x ws nm).2.2.Nodup):j9 N (bi N x ws nm).2.1 (bi N x ws nm).2.2 room (a++ [(bi N x ws nm).1]) (q++ [x]):=by
 obtain⟨f,A,B,K,L,C,D,M⟩:=t;have n:=oQ j.1;obtain⟨p,F⟩:=mC N x ws nm;have z:=gS N x ws nm n;have m:=zq N x ws nm n;have J:=(iV N x ws nm).1;have l:∀d∈a,pd (bi N x ws nm).2.1 N d=pd ws N d/\∀E∈pd ws N d,E<ws.length:=λd i=>by
  obtain⟨g,_,o⟩:=f.mem i;exact⟨rP p N g d o,zF N g d o⟩
 refine⟨⟨by simp[f.1],λk G g e c=>?_⟩,?_,λg c=>?_,?_,by omega,C,D,y⟩
 ·rcases Nat.lt_or_ge k a.length with h|h
  ·rw[dx h]at e;rw[dx (by rw[<-f.1];exact h)]at c;exact(f.2 k G g e c).mono p F
  ·rw[eq h]at e;rw[eq (by rw[<-f.1];exact h)]at c;have s:k-a.length=0:=by
    have:=(aX.1 e).1;simp at this;omega
   rw[<-f.1]at c;rw[s]at e c;simp only[cW,jr]at e c;rw[<-e,<-c];exact z
 ·rw[kO,nA (λd i=>(l d i).1)];simp only[bK,List.flatMap_nil,eK];refine fz.2 ⟨A,m.1,λr u b w=>?_⟩;obtain⟨d,i,v⟩:=jN.1 u;have H:=(l d i).2 r v;have I:=m.2 b w;omega
 ·rcases dr.1 c with c|c
  ·exact B g c
  ·rw[dS.1 c];exact⟨j.1,j.2.1⟩
 ·simp only[iD,List.sum_append,aU,ci,bN,gY];omega
def sJ(N:Nat)(x:Tm N)(room:Int)(a:List (Tm N)):Int:=if bE N x≠0 then bE N x else if aS N x=false then 5 else if (a.map (sz N)).sum+sz N x<=room then 0 else 6
theorem D7{x:Tm N}{e:List (Tm N)}(c:jS N x room ws≠6)(f:(e.map (sz N)).sum<=(ws.length:Int)):sJ N x room e=jS N x room ws:=by
 unfold sJ jS at*;by_cases a:bE N x≠0
 ·simp[a]
 ·by_cases b:aS N x=false
  ·simp[a,b]
  ·rw[if_neg a,if_neg b]at c;rw[if_neg a,if_neg a,if_neg b,if_neg b];by_cases d:sz N x<=room-ws.length
   ·rw[if_pos (by omega)];simp[d]
   ·simp[d]at c
theorem D6{x:Tm N}{a:List (Tm N)}(e:(ws.length:Int)=(a.map (sz N)).sum):sJ N x room a=jS N x room ws:=by
 unfold sJ jS;have b:((a.map (sz N)).sum+sz N x<=room)=(sz N x<=room-ws.length):=by rw[e];exact propext ⟨λd=>by omega,λd=>by omega⟩
 by_cases c:sz N x<=room-ws.length
 ·simp[c,b]
 ·simp[c,b]
section
variable {base pb:Nat} {name:ap} {room:Int} {N:Nat} {s:Tm (N+1)} {ms:List (Tm (N+1))} {xs:List (Wd×Tm (N+1))} {nk:Nat} {M:aR} {w:ag} {ws:List Wd} {nm:List ap} {sv:Wd} {vs:List Wd} {ma:aw} {mc:Nat} {Mh:aR}
theorem cO.kept(a:cO base pb name room (N+1) s ms xs nk M w ws nm sv vs ma mc Mh){S:aR}{w1:ag}(k:bZ S w w1)(g:∀b,M b->b<w.heap.size->¬S b):cO base pb name room (N+1) s ms xs nk M w1 ws nm sv vs ma mc Mh:=by
 refine⟨a.heap.kept k λb m c=>g b (a.inM b m) c,?_,a.has,a.len,a.names,a.inM,a.mailM⟩;rcases a.mail with i|⟨d,n,h,e,j,f,l⟩
 ·exact ai i
 ·have c:=(aJ.1 f).1;exact aj ⟨d,n,h,e,j,(k.block d c (g d (a.mailM _ e) c)).trans f,l⟩
theorem cO.mono(a:cO base pb name room (N+1) s ms xs nk M w ws nm sv vs ma mc Mh){M':aR}{nk':Nat}(c:∀b,M b->M' b)(g:nk<=nk'):cO base pb name room (N+1) s ms xs nk' M' w ws nm sv vs ma mc Mh:=
 ⟨a.heap,a.mail,a.has,a.len,aD a.names g,λb f=>c b (a.inM b f),λd e=>c _ (a.mailM d e)⟩
theorem cO.inside(a:cO base pb name room (N+1) s ms xs nk M w ws nm sv vs ma mc Mh):cO base pb name room (N+1) s ms xs nk (λb=>M b/\b<w.heap.size) w ws nm sv vs ma mc (λb=>Mh b/\b<w.heap.size):=by
 refine⟨a.heap.inside,?_,a.has,a.len,a.names,λb k=>⟨a.inM b k.1,k.2⟩,λm c=>⟨a.mailM m c,?_⟩⟩
 ·rcases a.mail with d|⟨j,l,g,e,h,f,i⟩
  ·exact ai d
  ·exact aj ⟨j,l,g,e,λn=>h n.1,f,i⟩
 ·rcases a.mail with⟨d,_⟩|⟨j,l,g,e,h,f,i⟩
  ·rw[d]at c;cases c
  ·rw[e]at c;injection c with c;rw[<-c];exact(aJ.1 f).1
def yI(N:Nat)(x:Tm N)(base:Nat)(b:cG)(room:Int)(ws:List Wd)(nm:List ap)(M:aR)(v:Wd)(a:Int)(w w':ag):Prop:=
 a=jS N x room ws/\(a≠0->v=(0,0)/\ak w w')/\(a=0->(bE N x=0/\aS N x=true/\sz N x<=room-ws.length)/\v=(bi N x ws nm).1/\mh base b room (bi N x ws nm).2.1 (bi N x ws nm).2.2 M w w')
theorem zI{N:Nat}{x:Tm N}{h:cG}{e:Ending}{w w':ag}(g:IV N x base h room ws nm M w e w'):∃(v:Wd)(f:Int),e=.returned (.tuple #[.agg #[ab v.1,ab v.2],ab f])/\yI N x base h room ws nm M v f w w':=by
 by_cases a:jS N x room ws=0
 ·obtain⟨b,c,i⟩:=g.2 a;exact⟨_,0,c,a.symm,λd=>absurd rfl d,λ_=>⟨b,rfl,i⟩⟩
 ·obtain⟨b,c⟩:=g.1 a;exact⟨(0,0),_,b,rfl,λ_=>⟨rfl,c⟩,λd=>absurd d a⟩
theorem dM.nodup{c:cG}(a:dM base c room ws nm M w):nm.Nodup:=by
 obtain⟨_,_,_,_,_,b,_⟩:=a;exact b.2.1
theorem cO.put1(d:cO base pb name room (N+1) s ms [] nk M w ws nm sv vs ma mc Mh){x:Tm (N+1)}{v:Wd}{e:Int}{w':ag}(y:yI (N+1) x base (PL pb name sv (ae ma vs.length mc)) room ws nm Mh v e w w'):∃C B m,cO base pb name room (N+1) s ms (if e=0 then [(v,x)]else []) (nk+201) (λb=>M b\/w.heap.size<=b) w' C B sv vs ma mc m/\bZ M w w':=by
 obtain⟨D,r,t⟩:=y;by_cases f:e=0
 ·obtain⟨c,rfl,k,l⟩:=t f;rw[if_pos f];have G:=(iV (N+1) x ws nm).2;have F:=oe c.1;have E:=d.names;refine⟨_,_,λb=>Mh b\/w.heap.size<=b,⟨k,?_,?_,d.len,by omega,?_,λn u=>ai (d.mailM n u)⟩,l.mono d.inM⟩
  ·rcases d.mail with p|⟨j,A,o,e,h,i,q⟩
   ·exact ai p
   ·have z:=(aJ.1 i).1;refine aj ⟨j,A,o,e,λa=>?_,(l.block j z h).trans i,q⟩;rcases a with a|a
    ·exact h a
    ·omega
  ·have:=d.has;simp only[ci,eK]at this;exact this.lay x c k.nodup
  ·intro b g;rcases g with a|a
   ·exact ai (d.inM b a)
   ·exact aj a
 ·obtain⟨_,g⟩:=r f;rw[if_neg f];exact⟨ws,nm,Mh,(d.later g).mono (λb a=>ai a) (by omega),bm g M⟩
def PM(base pb:Nat)(name:ap)(room:Int)(N:Nat)(s:Tm N)(ms:List (Tm N))(x:Tm N)(nk:Nat)(M:aR)(w:ag)(e:Ending)(w':ag):Prop:=
 ∃a:Wd,e=.returned (.tuple #[.agg #[ab a.1,ab a.2],ab (sJ N x room (s::ms))])/\Hid (∃j g h i d f c,cO base pb name room N s ms (if sJ N x room (s::ms)=0 then [(a,x)]else []) (nk+201) (λb=>M b\/w.heap.size<=b) w' j g h i d f c/\bZ M w w')
theorem cO.put(y:cO base pb name room (N+1) s ms [] nk M w ws nm sv vs ma mc Mh)(x:Tm (N+1))(af:In w.heap.size w (N+1) x)(ay:cr (λb=>¬M b) (N+1) x)(aq:(aC (N+1) x).length<=2097152)(G:∀b,M b->b<w.heap.size)(aO:nk<=49000)(al:ms.length<=999)(aM:base<=w.heap.size):am 123 #[aH pb,dw (N+1) x] w (PM base pb name room (N+1) s ms x nk M w):=by
 have aN:=y.len;have aP:=y.names;have au:=y.front;obtain⟨_,_,_,aE,aT,aF,aG,_⟩:=au;have Z:=In.offB ay af
 have aa:∀{f:ag}{D:List Wd}{B:Wd}{C:List Wd}{z:aw}{A:Nat}{q P:aR},cO base pb name room (N+1) s ms [] nk P f D nm B C z A q->bZ M w f->(∀b,P b->M b\/w.heap.size<=b)->
   am 73 #[.pointer (some ⟨pb,1,none⟩),dw (N+1) x] f λE g=>∃(e:Wd)(d:Int),E=.returned (.tuple #[.agg #[ab e.1,ab e.2],ab d])/\yI (N+1) x base (PL pb name B (ae z C.length A)) room D nm q e d f g:=by
  intro f D B C z A q P r ah ap;have aA:=ah.size;obtain⟨_,_,_,_,aU,aV,aW,_⟩:=r.front;have aB:In f.heap.size f (N+1) x:=(In.off (λb (c:¬M b/\b<w.heap.size)=>ah.block b c.2 c.1) Z af).mono aA;have az:cr (λb=>¬q b) (N+1) x:=Z.mono λb c a=>by
   rcases ap b (r.inM b a)with t|t
   ·exact c.1 t
   ·have:=c.2;omega
  exact(uY (N+1) x base (PL pb name B (ae z C.length A)) room D nm q f r.heap aB az aq (by omega) aF aG (by omega) (by omega)).mono λE g a=>zI a
 have T:∀{n:Nat}{V:aR}{j g:ag},bZ V j g->(∀b,n<=b->b<n+3->b<j.heap.size->¬V b)->Up n j g:=λk ar=>⟨k.size,λb u O F=>k.block b F (ar b u O F)⟩;have Y:∀{e:Wd}{d:Int}{j g:ag}{D:List Wd}{B:Wd}{C:List Wd}{z:aw}{A:Nat}{q:aR},yI (N+1) x base (PL pb name B (ae z C.length A)) room D nm q e d j g->bZ q j g:=λ{e d j g D B C z A q} a=>by
  by_cases W:d=0
  ·exact(a.2.2 W).2.2.2
  ·exact bm (a.2.1 W).2 _
 refine(BW pb x.1.1 x.1.2.1 x.1.2.2 x.2.1.1 x.2.2.length x.2.1.2 w (λe d j g=>yI (N+1) x base (PL pb name sv (ae ma vs.length mc)) room ws nm Mh e d j g)
  (λH I=>bZ M w I/\H.heap.size<=I.heap.size/\∃l p i o m,cO base pb name room (N+1) s ms [] nk (λb=>M b\/H.heap.size<=b) I l nm p i o i.length m/\(l.length:Int)=((s::ms).map (sz (N+1))).sum)
  (λe d f U=>bZ M w f/\w.heap.size+3<=f.heap.size/\∃l p i o m,cO base pb name room (N+1) s ms [] nk (λb=>M b\/w.heap.size+3<=b) f l nm p i o i.length m/\(l.length:Int)=((s::ms).map (sz (N+1))).sum/\yI (N+1) x base (PL pb name p (ae o i.length i.length)) room l nm m e d f U) ?_ ?_ ?_).mono ?_
 ·intro j c;refine(aa (y.later c) (bm c M) λb a=>ai a).mono ?_;rintro E g ⟨e,d,rfl,h⟩;refine⟨e,d,rfl,T (Y h) λb u _ _ a=>?_,h⟩;have:=G b (y.inM b a);omega
 ·intro aK j g H c h v aD;have X:=(h.2.1 (by decide)).2;have ad:=c.size;have O:=((y.later c).later X).kept v λb a _ t=>by
   have:=G b a;omega
  have av:bZ M w H:=bZ.trans ((bm c M).trans (bm X M) λ_ _ a=>a) v λb Q a=>by omega
  refine(O.tidy (by omega) al (by omega)).mono ?_;rintro E I ⟨rfl,l,p,i,o,m,F,K,S⟩;refine⟨rfl,T K λb u _ _ a=>?_,av.trans K λ_ _ a=>a,K.size,l,p,i,o,m,F,S⟩;have:=G b a;omega
 ·rintro H I f ⟨K,aQ,l,p,i,o,m,F,S⟩ aD c
  have r:=(F.later c).mono (M':=λb=>M b\/w.heap.size+3<=b) (nk':=nk) (λb a=>by
   rcases a with a|a
   ·exact ai a
   ·exact aj (by omega)) (ao _)
  have L:bZ M w f:=K.trans (bm c M) λ_ _ a=>a
  refine(aa r L λb a=>by
   rcases a with a|a
   ·exact ai a
   ·exact aj (by omega)).mono ?_
  rintro E U ⟨e,d,rfl,h⟩;refine⟨e,d,rfl,T (Y h) λb u O _ a=>?_,L,by have:=c.size;omega,l,p,i,o,m,r,S,h⟩;rcases r.inM b a with t|t
  ·have:=G b t;omega
  ·omega
 ·rintro E aX ⟨e,d,rfl,⟨an,j,g,c,h,v⟩|⟨aK,j,g,H,I,f,U,_,_,_,_,_,_,⟨L,aS,l,p,i,o,m,r,ax,h⟩,v⟩⟩
  ·have ad:=c.size;have J:d=sJ (N+1) x room (s::ms):=by
    rw[D7 (ws:=ws) (by rw[<-h.1];exact an) aE];exact h.1
   obtain⟨l,aI,m,u,R⟩:=(y.later c).put1 h;refine⟨e,by rw[<-J],l,aI,sv,vs,ma,mc,m,?_,?_⟩
   ·rw[<-J];refine(u.kept v λb a _ t=>?_).mono (λb a=>?_) (ao _)
    ·rcases a with a|a
     ·have:=G b a;omega
     ·omega
    ·rcases a with a|a
     ·exact ai a
     ·exact aj (by omega)
   ·exact bZ.trans ((bm c M).trans R λ_ _ a=>a) v λb Q a=>by omega
  ·have ad:=L.size;have J:d=sJ (N+1) x room (s::ms):=by
    rw[D6 ax];exact h.1
   obtain⟨aL,aJ,ak,u,R⟩:=r.put1 h;refine⟨e,by rw[<-J],aL,aJ,p,i,o,i.length,ak,?_,?_⟩
   ·rw[<-J];refine(u.kept v λb a _ t=>?_).mono (λb a=>?_) (ao _)
    ·subst t;rcases a with(a|a)|a
     ·have:=G _ a;omega
     ·omega
     ·omega
    ·rcases a with(a|a)|a
     ·exact ai a
     ·exact aj (by omega)
     ·exact aj (by omega)
   ·refine bZ.trans (L.trans R λb Q a=>?_) v λb Q a=>by omega
    rcases a with a|a
    ·exact a
    ·omega
end
theorem tD(vs:List Wd)(v:Wd):bk (vs++ [v])=bk vs++p9 v:=by simp[bk]
theorem oD{P:Program}(w:ag)(t ty e:TypeId)(i:TypeInfo)(y:P.underlying t=some (.slice e))(r:P.info? e=some i)(g f d k:Nat)(h:Array av)(q:w.heap[g]?=some (.cells h e (0,0)))(a:Addr)(m c:Nat)(b:List av)(s:b.length=m*i.size)(v:∀j u,b[j]?=some u->w.cell? (a.add j)=some u)(n:∀u∈b,u.oneCell'=true)(x:d+m<=k)(p:f+d*i.size+b.length<=h.size):(Builtin.append_ #[t,t] ty #[ae (some ⟨g,f,none⟩) d k,ae (some a) m c]).run P w= .ok (ae (some ⟨g,f,none⟩) (d+m) k) (w.setRow g (h.toList.take (f+d*i.size)++b++h.toList.drop (f+d*i.size+b.length)).toArray):=by
 have o:=run_firstCells_some (P:=P) w i.size m a m c b s v;have l:=pI P g (f+d*i.size) e b 0 h w q (by simpa using p) n;simp only[gH]at l;simp[Builtin.append_,cC y,sizeOf,typeInfo,r,Builtin.lenOf,x,o,en,l]
def qU(Mh:aR)(ma:aw)(vs:List Wd)(w:ag)(d:aw)(e:Nat)(w':ag):Prop:=
 jP Mh d vs e w'/\bZ (λb=>∃a,ma=some a/\b=a.block) w w'/\∀a,d=some a->(∃c,ma=some c/\a.block=c.block)\/a.block=w.heap.size
theorem KF{S:aR}(w:ag)(g:Nat)(cs:Array av)(a:∀b,b=g->S b):bZ S w (w.setRow g cs):=⟨rfl,rfl,rfl,by simp,λ_ _ c=>setRow_other _ _ _ _ λe=>c (a _ e)⟩
theorem vx(a:List Wd)(C c:Nat)(d:av)(l:d.cells.size=2)(p:c=a.length)(f:a.length<=C)(g:C<=maxLen)(h:∀b,Mh b->b<w.heap.size):qU Mh ma a w (some ⟨w.heap.size,0,none⟩) C (w.drew.alloc (.cells ((bk a).toArray++Builtin.zeroCells d.cells (C-c)) 109)):=by
 have e:∀b,b<w.heap.size->(w.drew.alloc (.cells ((bk a).toArray++Builtin.zeroCells d.cells (C-c)) 109)).heap[b]?=w.heap[b]? :=λb e=>Below.heap_alloc w.drew _ b e;have k:(w.drew.alloc (.cells ((bk a).toArray++Builtin.zeroCells d.cells (C-c)) 109)).heap[w.heap.size]?=some (.cells ((bk a).toArray++Builtin.zeroCells d.cells (C-c)) 109):=aF w.drew _;refine⟨aj ⟨w.heap.size,0,_,rfl,λm=>?_,k,f,g,?_,?_⟩,⟨rfl,rfl,rfl,?_,λb j _=>e b j⟩,λn i=>aj (congrArg Addr.block (aA i).symm)⟩
 ·have:=h _ m;omega
 ·rw[Array.size_append,size_zeroCells,l,dT,cI];omega
 ·rw[List.drop_zero,Array.toList_append,g8 (by rw[pE,cI];omega),pE,bF (by rw[cI];omega)]
 ·have:=iG w.drew (.cells ((bk a).toArray++Builtin.zeroCells d.cells (C-c)) 109);have o:w.drew.heap.size=w.heap.size:=rfl;omega
theorem tT{f:Nat}(ty:TypeId)(k:jP Mh ma vs f w)(O:vs.length<=1000)(x:∀b,Mh b->b<w.heap.size)(sa:Addr)(c:Nat)(v:Wd)(q:∀j u,(p9 v)[j]?=some u->w.cell? (sa.add j)=some u):∃C D w',(Builtin.append_ #[100,100] ty #[ae ma vs.length f,ae (some sa) 1 c]).run Tryz.prog w=.ok (ae C (vs.length+1) D) w'/\qU Mh ma (vs++ [v]) w C D w':=by
 obtain⟨n,p,A,h,B⟩:=bW lp;have L:∀u∈p9 v,u.oneCell'=true:=by simp[p9,Value.oneCell']
 have i:(p9 v).length=2:=rfl;rcases k with⟨rfl,rfl,rfl⟩|⟨e,a,d,rfl,r,m,F,s,G,t⟩
 ·have l:=run_append_nil (P:=Tryz.prog) w 100 ty 109 n _ underlying100 p A sa 1 c (p9 v) (by rw[i,h]) q (by omega) (by omega) (by rw[B];omega);refine⟨_,_,_,l,?_⟩;have k:=vx (Mh:=Mh) (ma:=none) (w:=w) [v] (grownCap w 1 0 109) 1 (.agg #[ab 0,ab 0]) rfl rfl (grownCap_ge w 1 0 _) (grownCap_le_maxLen w 1 0 _ (by unfold maxLen;omega)) x;simpa [bk]using k
 ·have Q:=(aJ.1 m).1;by_cases M:vs.length+1<=f
  ·have y:a+vs.length*n.size+(p9 v).length<=d.size:=by rw[i,h];omega
   have l:=oD (P:=Tryz.prog) w 100 ty 109 n underlying100 p e a vs.length f d m sa 1 c (p9 v) (by rw[i,h]) q L M y;refine⟨_,_,_,l,aj ⟨e,a,_,rfl,r,setRow_heap w e d _ _ _ m,?_,s,?_,?_⟩,?_,λN H=>ai ⟨_,rfl,?_⟩⟩
   ·simp only[bw,br,iC];omega
   ·have o:d.toList.length=d.size:=iz;rw[h]at y ⊢;simp only[dT,bw,dL,fj,o];omega
   ·rw[h];have R:(d.toList.take (a+vs.length*2)).length=a+vs.length*2:=by
     have o:d.toList.length=d.size:=iz;rw[dL,o];omega
    have J:(d.toList.take (a+vs.length*2)).drop a=bk vs:=by
     rw[List.drop_take,Nat.add_sub_cancel_left];exact t
    rw[tD,mV,pw (by omega),J];have g:(vs++ [v]).length*2=(bk vs).length+2:=by
     rw[cI];simp only[bw,br,iC];omega
    rw[g,List.take_length_add_append,g8 (by rw[i];omega),bF (by rw[i];omega)]
   ·exact KF w e _ λb g=>⟨_,rfl,g⟩
   ·exact congrArg Addr.block (aA H).symm
  ·have l:=run_append_grow (P:=Tryz.prog) w 100 ty 109 n _ underlying100 p A ⟨e,a,none⟩ vs.length f (bk vs) (by rw[cI,h]) (λj u z=>by
     have K:jP Mh (some ⟨e,a,none⟩) vs f w:=aj ⟨e,a,d,rfl,r,m,F,s,G,t⟩;rcases K.words with g|⟨ad,g,I⟩
     ·subst g;simp[bk]at z
     ·have E:=aA g;rw[E]
      exact I j u z) sa 1 c (p9 v) (by rw[i,h]) q (by omega) (by omega) (growslice_fits (by omega) (by rw[B];omega))
   refine⟨_,_,_,l,?_⟩;have k:=vx (Mh:=Mh) (ma:=some ⟨e,a,none⟩) (w:=w) (vs++ [v]) (grownCap w (vs.length+1) f 109) (vs.length+1) (.agg #[ab 0,ab 0]) rfl (by simp) (by have:=grownCap_ge w (vs.length+1) f 109;simpa using this) (grownCap_le_maxLen w _ _ _ (by unfold maxLen;omega)) x;simpa [tD]using k
theorem xb{w':ag}{v x' b:av}{o:Oper}{a:Act}{K:Act->ag->Prop}{Q:Exit->Act->ag->Prop}(s x:Operand)(d:o.op=.call {callee:=.builtin .append,args:= #[s,x],argTypes:= #[100,100]})(f:a.eval s=v)(g:a.eval x=x')(e:(Builtin.append_ #[100,100] o.type #[v,x']).run Tryz.prog w=.ok b w')(c:K (a.put o.dst b) w'):Oper.wp Tryz.prog o a w K Q:=by
 unfold Oper.wp execOp;simp only[d,resolve,invoke,builtin,kV,Sem.run_pure,kU,mX,aU,ci,f,g,e];exact c
theorem rv(g:Nat)(k i:Int)(t:ap)(C:aw)(E D:Nat)(L aG:Nat)(ma:aw)(w:ag)(F:Wd->Int->ag->ag->Prop)(I:Wd->ag->ag->aw->Nat->ag->Prop)(aS:g<w.heap.size)(Z:Hid (∀w1,ak w w1->w1.cell? ⟨g,7,none⟩=some (ae ma L aG)))(ad:Hid (∀w0,ak w w0->am 123 #[aH g,.agg #[ab k,ab i,af t,ae C E D]] w0 λe w1=>∃(v:Wd)(h:Int),e=.returned (.tuple #[.agg #[ab v.1,ab v.2],ab h])/\Hid (Up w.heap.size w0 w1/\F v h w0 w1)))(ah:Hid (∀v w0 w1,F v 0 w0 w1->∃q r,Hid (∀w2,ak w1 w2->w2.cell? ⟨g,7,none⟩=some (ae q L r)/\∀j,w2.frozen? ⟨g,j,none⟩=false)/\Hid (∀w2,ak w1 w2->∀(sa:Addr)(c:Nat),(∀j u,(p9 v)[j]?=some u->w2.cell? (sa.add j)=some u)-> ∃m n d,(Builtin.append_ #[100,100] 100 #[ae q L r,ae (some sa) 1 c]).run Tryz.prog w2=.ok (ae m (L+1) n) d/\d.cell? ⟨g,7,none⟩=some (ae q L r)/\(∀j,d.frozen? ⟨g,j,none⟩=false)/\(∀b,w1.heap.size<=b->b<w2.heap.size->d.heap[b]?=w2.heap[b]?)/\I v w0 w2 m n d))):am 85 #[aH g,.agg #[ab k,ab i,af t,ae C E D]] w λe w'=> (20<=L->e=.returned (ab 2)/\ak w w')/\(L<20->∃(v:Wd)(h:Int)(w0 w1:ag),e=.returned (ab h)/\ak w w0/\F v h w0 w1/\(h≠0->ak w1 w')/\(h=0->∃w2 m n d,ak w1 w2/\I v w0 w2 m n d/\w'=(d.setCell ⟨g,7,none⟩ (ae m (L+1) n)))):=by
 have aa:=au (xH w (.cells #[ab k,ab i,af t,ae C E D] 31) rfl);have G:Hid (ak w (w.alloc (.cells #[ab k,ab i,af t,ae C E D] 31))/\(w.alloc (.cells #[ab k,ab i,af t,ae C E D] 31)).heap.size=w.heap.size+1):=⟨by go_grown,by simp⟩;go_enter func85,ntmps85;have T:=Z w (aq _ _);rcases Nat.lt_or_ge L 20 with av|av
 ·have ax:¬(20:Int)<=(L:Int):=by omega
  have Q:=au (ad _ G.1);go_wp2_with fail;refine Q.mono ?_;rintro e w1 ⟨v,h,rfl,N⟩;have R:Hid (∃w0,ak w w0/\F v h w0 w1):=⟨_,G.1,N.2⟩;obtain⟨w0,s⟩:=R.out;replace s:=au s;clear R N Q aa G T;by_cases M:h=0;rotate_left
  ·have aQ:¬(0:Int)=h:=λe=>M e.symm;go_wp2_with fail;exact az (v:=ab h) (by simp[results,results85,go_sem]) rfl ⟨λa=>by omega,λ_=>⟨v,h,w0,w1,rfl,s.1,s.2,λ_=>aV,λa=>absurd a M⟩⟩
  ·subst M;obtain⟨q,r,ai,aj⟩:=ah v w0 w1 s.2;have S:Hid (∃w2 f,(w2=w1.alloc (.cells #[ab v.1,ab v.2] 109)/\f=w1.heap.size)/\ak w1 w2/\w2.heap[f]?=some (.cells #[ab v.1,ab v.2] 109)/\w1.heap.size<=f):=⟨_,_,⟨rfl,rfl⟩,aV,aF _ _,ao _⟩;go_wp2_with fail;obtain⟨w2,f,⟨Y,W⟩,o⟩:=S.out;rw[<-Y,<-W];replace o:=au o;clear Y W S;have A:Hid (∀w':ag,ak w2 w'->(w'.cell? ⟨g,7,none⟩=some (ae q L r)/\∀j,w'.frozen? ⟨g,j,none⟩=false)/\w'.cell? ⟨f,0,none⟩=some (ab v.1)/\w'.cell? ⟨f,1,none⟩=some (ab v.2)):=λw' a=>by
    have B:=(a.block f (aJ.1 o.2.1).1).trans o.2.1;exact⟨ai _ (o.1.trans (a.mono o.1.size)),ay B 0,ay B 1⟩
   obtain⟨⟨T,aO⟩,aT,aU⟩:=A.out w2 (aq _ _);have P:Hid (ak w2 w2.drew):=(aq _ _).drew;have z:Hid (ak w2 (w2.alloc (.cells #[ab v.1,ab v.2] 109)).drew):=(show Below _ _ _ by go_grown);have O:Hid (∃m n d,(Builtin.append_ #[100,100] 100 #[ae q L r,ae (some ⟨w2.heap.size,0,none⟩) 1 1]).run Tryz.prog (w2.alloc (.cells #[ab v.1,ab v.2] 109)).drew=.ok (ae m (L+1) n) d/\d.cell? ⟨g,7,none⟩=some (ae q L r)/\(∀j,d.frozen? ⟨g,j,none⟩=false)/\(d.cell? ⟨f,0,none⟩=some (ab v.1)/\d.cell? ⟨f,1,none⟩=some (ab v.2))/\∃H,ak w1 H/\I v w0 H m n d):=by
    have V:=o.1.trans (z.mono o.1.size);have aD:=rG w2 (.cells #[ab v.1,ab v.2] 109) rfl
    obtain⟨m,n,d,aI,aK,aL,aM,aN⟩:=aj _ V ⟨w2.heap.size,0,none⟩ 1 (λj u aC=>by
     rw[en,de];refine(ay aD j).trans ?_;rw[<-aC,<-List.getElem?_toArray]
     rfl)
    have X:=(aJ.1 o.2.1).1;have B:=(aM f o.2.2 (aW X z.size)).trans ((z.block f X).trans o.2.1);exact⟨m,n,d,aI,aK,aL,⟨ay B 0,ay B 1⟩,_,V,aN⟩
   obtain⟨m,n,d,K,an,ar,aE,J⟩:=O.out;replace K:=au K;replace J:=au J;clear O;have y:w2.drew.cell? ⟨g,7,none⟩=some (ae q L r)/\w2.drew.cell? ⟨f,0,none⟩=some (ab v.1)/\w2.drew.cell? ⟨f,1,none⟩=some (ab v.2):=⟨(A _ P).1.1,(A _ P).2⟩;have al:Hid ((w2.alloc (.cells #[ab v.1,ab v.2] 109)).drew.cell? ⟨g,7,none⟩=some (ae q L r)/\(w2.alloc (.cells #[ab v.1,ab v.2] 109)).drew.cell? ⟨f,0,none⟩=some (ab v.1)/\(w2.alloc (.cells #[ab v.1,ab v.2] 109)).drew.cell? ⟨f,1,none⟩=some (ab v.2)):=⟨(A _ z).1.1,(A _ z).2⟩;refine wp_region_noPanic ?_;refine jJ (λw'=>w'.cell? ⟨g,7,none⟩=some (ae q L r)/\w'.cell? ⟨f,0,none⟩=some (ab v.1)/\w'.cell? ⟨f,1,none⟩=some (ab v.2)) 10 (by kernel_rfl) ?_
   try simp only[dT]
   refine aZ (i:=0) (v:= ?_) rfl (by kernel_rfl) (by kernel_rfl) (by kernel_rfl) (by kernel_rfl) (λ_ _ _ a=>a) rfl ?_ y ?_;rotate_left
   ·intro w' l
    try dsimp only at l
    go_simp
    try with_reducible rfl
   try simp only[Act.put,cg]
   refine aZ (i:=1) (v:= ?_) rfl (by kernel_rfl) (by kernel_rfl) (by kernel_rfl) (by kernel_rfl) (λ_ _ _ a=>a) rfl ?_ y ?_;rotate_left
   ·intro w' l
    try dsimp only at l
    go_simp
    try with_reducible rfl
   try simp only[Act.put]
   refine aZ (i:=2) (v:= ?_) rfl (by kernel_rfl) (by kernel_rfl) (by kernel_rfl) (by kernel_rfl) (λ_ _ _ a=>a) rfl ?_ y ?_;rotate_left
   ·intro w' l
    try dsimp only at l
    go_simp
    try with_reducible rfl
   try simp only[Act.put]
   refine aZ (i:=3) (v:= ?_) rfl (by kernel_rfl) (by kernel_rfl) (by kernel_rfl) (by kernel_rfl) (λ_ _ _ a=>a) rfl ?_ y ?_;rotate_left
   ·intro w' l
    try dsimp only at l
    go_simp
    try with_reducible rfl
   try simp only[Act.put]
   refine aZ (i:=4) (v:= ?_) rfl (by kernel_rfl) (by kernel_rfl) (by kernel_rfl) (by kernel_rfl) (λ_ _ _ a=>a) rfl ?_ y ?_;rotate_left
   ·intro w' l
    try dsimp only at l
    go_simp
    try with_reducible rfl
   try simp only[Act.put]
   refine aZ (i:=5) (v:= ?_) rfl (by kernel_rfl) (by kernel_rfl) (by kernel_rfl) (by kernel_rfl) (λ_ _ _ a=>a) rfl ?_ y ?_;rotate_left
   ·intro w' l
    try dsimp only at l
    go_simp
    try with_reducible rfl
   try simp only[Act.put]
   refine dg (i:=6) (by kernel_rfl) rfl rfl (λx p=>?_) (by decide)
   go_simp
   refine p _ _ (λ_=>al) (λaR=>?_);clear p x
   try simp only[Act.put,cg,du,dt]
   refine dg (i:=7) (by kernel_rfl) rfl rfl (λx p=>?_) (by decide);refine xb (v:=ae q L r) (x':=ae (some ⟨w2.heap.size,0,none⟩) 1 1) _ _ rfl (by simp[Act.eval]) (by simp[Act.eval]) K ?_;refine p _ _ (λ_=>⟨an,aE⟩) (λU=>?_);clear p x
   try simp only[Act.put,cg]
   refine dg (i:=8) (by kernel_rfl) rfl rfl (λx p=>?_) (by decide)
   go_simp
   refine p _ _ (λ_=>U) (λ_=>?_);clear p x
   try simp only[Act.put,cg,du,dt]
   refine aZ (i:=9) (v:= ?_) rfl (by kernel_rfl) (by kernel_rfl) (by kernel_rfl) (by kernel_rfl) (λ_ _ _ a=>a) rfl ?_ U ?_;rotate_left
   ·intro w' l
    try dsimp only at l
    go_simp
    try with_reducible rfl
   try simp only[Act.put,cg]
   have aP:=ar 7;refine jI (by kernel_rfl) rfl rfl (by kernel_rfl) (λx p=>?_)
   go_simp
   refine p _ _ (NoPanic.normal ?_);clear p x
   try simp only[Act.put,cg,du,dt]
   go_wp2_with fail;obtain⟨H,aA,aB⟩:=J;exact az (v:=ab 0) (by simp[results,results85,go_sem]) rfl ⟨λa=>by omega,λ_=>⟨v,0,w0,w1,rfl,s.1,s.2,λa=>absurd rfl a,λ_=>⟨H,m,n,d,aA,aB,rfl⟩⟩⟩
 ·have ax:(20:Int)<=(L:Int):=by omega
  go_wp2_with fail;exact az (v:=ab 2) (by simp[results,results85,go_sem]) rfl ⟨λ_=>⟨rfl,G.1⟩,λa=>by omega⟩
section
variable {base pb:Nat} {name:ap} {room:Int} {N:Nat} {s:Tm (N+1)} {ms:List (Tm (N+1))} {xs:List (Wd×Tm (N+1))} {nk:Nat} {M:aR} {w:ag} {ws:List Wd} {nm:List ap} {sv:Wd} {vs:List Wd} {ma:aw} {mc:Nat} {Mh:aR}
def zh(N:Nat)(x:Tm N)(room:Int)(s:Tm N)(ms:List (Tm N)):Int:=if 20<=ms.length then 2 else sJ N x room (s::ms)
theorem cO.box0(a:cO base pb name room (N+1) s ms xs nk M w ws nm sv vs ma mc Mh):Mh pb/\pb<w.heap.size:=by
 obtain⟨f,d,e,b,_⟩:=a.heap.box;obtain⟨_,_,_,_,_,_,c,_⟩:=a.heap;exact⟨c,(PL.cells b).2.2.2.2.2⟩
theorem cO.more{v:Wd}{x:Tm (N+1)}(a:cO base pb name room (N+1) s ms [(v,x)] nk M w ws nm sv vs ma mc Mh){g:aw}{h:Nat}{i:ag}(C:qU Mh ma (vs++ [v]) w g h i):cO base pb name room (N+1) s (ms++ [x]) [] nk (λb=>M b\/w.heap.size<=b) (i.setCell ⟨pb,7,none⟩ (.slice g (vs++ [v]).length h)) ws nm sv (vs++ [v]) g h Mh/\bZ M w (i.setCell ⟨pb,7,none⟩ (.slice g (vs++ [v]).length h)):=by
 obtain⟨E,r,F⟩:=C;obtain⟨q,G⟩:=a.box0;have D:∀d,ma=some d->¬Mh d.block:=λd c f=>by
  rcases a.mail with⟨e,_⟩|⟨m,t,o,l,j,_⟩
  ·rw[e]at c;cases c
  ·rw[l]at c;rw[<-aA c]at f;exact j f
 have A:dM base (PL pb name sv (ae ma vs.length mc)) room ws nm Mh i:=a.heap.kept r λb n _ f=>by
  obtain⟨d,c,rfl⟩:=f;exact D d c n
 have k:=bz i pb 7 (.slice g (vs++ [v]).length h);refine⟨⟨A.turn k λI H mp B=>?_,?_,?_,?_,a.names,λb n=>ai (a.inM b n),λd c=>?_⟩,?_⟩
 ·unfold World.setCell;simp[bO,B]
 ·rcases E with e|⟨m,t,o,l,j,p,y⟩
  ·exact ai e
  ·exact aj ⟨m,t,o,l,j,(k.block m (aJ.1 p).1 λe=>j (by rw[e];exact q)).trans p,y⟩
 ·have:=a.has;simpa using this
 ·simp[a.len]
 ·rcases F d c with⟨u,z,e⟩|e
  ·rw[e];exact ai (a.mailM u z)
  ·exact aj (by omega)
 ·refine bZ.trans (r.mono λb f=>?_) k λb _ f=>?_
  ·obtain⟨d,c,rfl⟩:=f;exact a.mailM d c
  ·rw[f];exact a.inM pb q
def PE(base pb:Nat)(name:ap)(room:Int)(N:Nat)(s:Tm N)(ms:List (Tm N))(x:Tm N)(nk:Nat)(M:aR)(w:ag)(e:Ending)(w':ag):Prop:=
 e=.returned (ab (zh N x room s ms))/\Hid (∃i f g h c d a,cO base pb name room N s (if zh N x room s ms=0 then ms++ [x]else ms) [] (nk+201) (λb=>M b\/w.heap.size<=b) w' i f g h c d a/\bZ M w w')
theorem cO.deliver(z:cO base pb name room (N+1) s ms [] nk M w ws nm sv vs ma mc Mh)(x:Tm (N+1))(aw:In w.heap.size w (N+1) x)(ap:cr (λb=>¬M b) (N+1) x)(ag:(aC (N+1) x).length<=2097152)(L:∀b,M b->b<w.heap.size)(an:nk<=49000)(ad:ms.length<=999)(aK:base<=w.heap.size):am 85 #[aH pb,dw (N+1) x] w (PE base pb name room (N+1) s ms x nk M w):=by
 have aN:=z.len;obtain⟨aO,au⟩:=z.box0
 refine(rv pb x.1.1 x.1.2.1 x.1.2.2 x.2.1.1 x.2.2.length x.2.1.2 vs.length mc ma w
  (λh r p q=>r=sJ (N+1) x room (s::ms)/\bZ M w q/\w.heap.size<=p.heap.size/\∃o m n i g k j,cO base pb name room (N+1) s ms (if r=0 then [(h,x)]else []) (nk+201) (λb=>(M b\/p.heap.size<=b)/\b<q.heap.size) q o m n i g k j)
  (λh p v E F G=>bZ M w v/\w.heap.size<=p.heap.size/\∃o m n i g k j,cO base pb name room (N+1) s ms [(h,x)] (nk+201) (λb=>M b\/p.heap.size<=b) v o m n i g k j/\qU j g (i++ [h]) v E F G) au ?_ ?_ ?_).mono ?_
 ·intro q e;obtain⟨X,V,W,f,_⟩:=(z.later e).heap.box;exact(PL.cells f).2.2.2.1
 ·intro p e;have D:=e.size;refine((z.later e).put x ((aw.below e).mono D) ap ag (λb d=>aW (L b d) D) an ad (by omega)).mono ?_;rintro y q ⟨h,rfl,o,m,n,i,g,k,j,f,u⟩;refine⟨h,_,rfl,⟨u.size,λb ay _ aB=>u.block b aB λd=>?_⟩,rfl,(bm e M).trans u λ_ _ d=>d,D,o,m,n,i,g,k,_,f.inside⟩;have:=L b d;omega
 ·rintro h p q ⟨J,u,T,o,m,n,i,g,k,j,f⟩;rw[if_pos rfl]at f;have aL:=f.len;have I:i.length=vs.length:=by omega
  refine⟨g,k,λv e=>?_,λv e sa c av=>?_⟩
  ·obtain⟨X,V,W,l,_⟩:=(f.later e).heap.box;rw[I]at l;exact⟨(PL.cells l).2.2.2.1,(PL.cells l).2.2.2.2.1⟩
  ·have t:=f.later e;have D:=e.size;obtain⟨E,F,G,S,C⟩:=tT 100 t.mail (by omega) (λb d=>aW (f.inM b d).2 D) sa c h av;rw[I]at S;have R:∀b,(∃a,g=some a/\b=a.block)->¬j b/\b<q.heap.size:=λb d=>by
    obtain⟨a,A,rfl⟩:=d;refine⟨λZ=>?_,(f.mailM a A).2⟩;rcases f.mail with⟨y,_⟩|⟨aG,aS,aF,r,ab,_⟩
    ·rw[y]at A;cases A
    ·rw[r]at A;rw[<-aA A]at Z;exact ab Z
   obtain⟨aq,ar⟩:=t.box0;have P:G.heap[pb]?=v.heap[pb]? :=C.2.1.block pb ar λd=>(R pb d).1 aq;obtain⟨X,V,W,l,_⟩:=t.heap.box;rw[I]at l;refine⟨E,F,G,S,(bD P 7).trans (PL.cells l).2.2.2.1,λU=>?_,λb ay az=>C.2.1.block b az λd=>?_,?_⟩
   ·exact(js (a:=⟨pb,U,none⟩) P).trans ((PL.cells l).2.2.2.2.1 U)
   ·have:=(R b d).2;omega
   ·exact⟨u.trans (bm e M) λ_ _ d=>d,T,o,m,n,i,g,k,j,t.mono (λb d=>d.1) (ao _),C⟩
 ·rintro y aT ⟨af,l⟩;by_cases K:20<=ms.length
  ·obtain⟨rfl,e⟩:=af (by omega);have B:zh (N+1) x room s ms=2:=by simp[zh,K]
   refine⟨by rw[B],ws,nm,sv,vs,ma,mc,Mh,?_,bm e M⟩;rw[B];exact(z.later e).mono (λb d=>ai d) (by omega)
  ·obtain⟨h,r,p,q,rfl,e,⟨J,u,T,o,m,n,i,g,k,j,f⟩,al,ah⟩:=l (by omega);have B:zh (N+1) x room s ms=r:=by simp[zh,K,J]
   refine⟨by rw[B],?_⟩;rw[B];by_cases H:r=0
   ·obtain⟨v,E,F,G,aJ,⟨Q,_,aE,ax,aD,Y,aQ,aR,aa,t,C⟩,rfl⟩:=ah H;have aM:=t.len;have y:vs.length+1=(Y++ [h]).length:=by simp;omega
    obtain⟨ae,ak⟩:=t.more C;rw[y,if_pos H];have aP:=Q.size;refine⟨aE,ax,aD,Y++ [h],E,F,aa,ae.mono (λb d=>?_) (ao _),Q.trans ak λb aI d=>?_⟩
    ·rcases d with(d|d)|d
     ·exact ai d
     ·exact aj (by omega)
     ·exact aj (by omega)
    ·rcases d with d|d
     ·exact d
     ·omega
   ·have O:=al H;rw[if_neg H]at f ⊢;refine⟨o,m,n,i,g,k,j,(f.later O).mono (λb d=>?_) (ao _),u.trans (bm O M) λ_ _ d=>d⟩;rcases d.1 with d|d
    ·exact ai d
    ·exact aj (by omega)
end
theorem Hm(y:ap)(k i:Int)(t:ap)(l:aw)(n m:Nat)(room:Int)(w:ag)(r:Bool)(C:Wd->Int->ag->ag->Prop)(H:Hid (∀w1:ag,am 71 #[af y] w1 λe w'=>e=.returned (.bool r)/\w'=w1))(Q:Hid (r=true->∀w1:ag,am 63 #[af y] w1 λe w'=>e=.returned (af y)/\ak w1 w'))(P:Hid (0<=room/\room<=1000->∀w2,HB (cG.own (w.heap.size+1)) room (ae none 0 0) (ae none 0 0) (.map none) w2->w2.heap.size=w.heap.size+1+1->ak w w2->am 73 #[.pointer (some ⟨w.heap.size+1,0,none⟩),.agg #[ab k,ab i,af t,ae l n m]] w2 λe b=>∃(v:Wd)(c:Int),e=.returned (.tuple #[.agg #[ab v.1,ab v.2],ab c])/\Hid (∃tv lv mv,b.heap[w.heap.size+1]?=some (.cells #[ab room,tv,lv,mv] 107)/\C v c w2 b))):am 42 #[af y,.agg #[ab k,ab i,af t,ae l n m],ab room] w λe w'=> (r=false->e=.returned (.tuple #[.pointer none,ab 5])/\ak w w')/\(r=true->¬(0<=room/\room<=1000)->e=.returned (.tuple #[.pointer none,ab 1])/\ak w w')/\ (r=true->0<=room/\room<=1000->∃(v:Wd)(c:Int)(w2 b:ag),Hid (ak w w2/\w2.heap.size=w.heap.size+1+1/\C v c w2 b)/\(c≠0->e=.returned (.tuple #[.pointer none,ab c])/\ak b w')/\ (c=0->∃(s:ag)(tv lv mv:av),e=.returned (.tuple #[aH s.heap.size,ab 0])/\ak b s/\b.heap[w.heap.size+1]?=some (.cells #[ab room,tv,lv,mv] 107)/\w'=s.alloc (.cells #[af y,ab room,tv,lv,mv,ab v.1,ab v.2,ae none 0 0] 111))):=by
 have O:=au (xH w (.cells #[ab k,ab i,af t,ae l n m] 31) rfl);have o:Hid (ak w (w.alloc (.cells #[ab k,ab i,af t,ae l n m] 31))/\(w.alloc (.cells #[ab k,ab i,af t,ae l n m] 31)).heap.size=w.heap.size+1):=⟨by go_grown,by simp⟩;cases r with
 | false=>
  go_enter func42,ntmps42;go_wp2_with (go_at_call 71;refine(H _).mono ?_;rintro e w1 ⟨rfl,rfl⟩);exact az (v:=.tuple #[.pointer none,ab 5]) (by simp[results,results42,go_sem]) rfl ⟨λ_=>⟨rfl,o.1⟩,λa=>(by cases a),λa=>(by cases a)⟩
 | true=>
  have R:=au (Q rfl);go_enter func42,ntmps42;go_wp2_with (go_at_call 71;refine(H _).mono ?_;rintro e w1 ⟨rfl,rfl⟩);refine(MD _ _).mono ?_;rintro e w2 ⟨p,g⟩;by_cases q:0<=room/\room<=1000;rotate_left
  ·obtain⟨rfl,rfl⟩:=p q;clear p g;go_wp2_with fail;exact az (v:=.tuple #[.pointer none,ab 1]) (by simp[results,results42,go_sem]) rfl ⟨λa=>(by cases a),λ_ _=>⟨rfl,o.out.1⟩,λ_ a=>absurd a q⟩
  ·obtain⟨rfl,d⟩:=g q;clear p g;replace d:=au d;rw[o.out.2]at d;have G:Hid (ak w w2):=o.1.trans (d.2.2.mono (by first|exact fX _|exact o.1.size));have I:=au (P q w2 d.1 d.2.1 G);have x:Hid (w2.heap[w.heap.size]?=some (.cells #[ab k,ab i,af t,ae l n m] 31)):=(d.2.2.block _ (by have:=o.2;omega)).trans O;have S:w2.cell? ⟨w.heap.size,0,none⟩=some (ab k):=ay x 0;have T:w2.cell? ⟨w.heap.size,1,none⟩=some (ab i):=ay x 1;have U:w2.cell? ⟨w.heap.size,2,none⟩=some (af t):=ay x 2;have V:w2.cell? ⟨w.heap.size,3,none⟩=some (ae l n m):=ay x 3;go_wp2_with fail;refine I.mono ?_;rintro e b ⟨v,c,rfl,F⟩;obtain⟨tv,lv,mv,u,z⟩:=F.out;replace u:=au u;replace z:=au (show ak w w2/\w2.heap.size=w.heap.size+1+1/\C v c w2 b from⟨G,d.2.1,z⟩);clear F I S T U V x d;by_cases E:c=0;rotate_left
   ·have W:¬(0:Int)=c:=λe=>E e.symm;go_wp2_with fail;exact az (v:=.tuple #[.pointer none,ab c]) (by simp[results,results42,go_sem]) rfl ⟨λa=>(by cases a),λ_ a=>absurd q a,λ_ _=>⟨v,c,w2,b,z,λ_=>⟨rfl,aV⟩,λa=>absurd a E⟩⟩
   ·subst E;go_wp2_with fail;have J:Hid (∃j h,(j=b.alloc (.cells #[ab v.1,ab v.2] 109)/\h=b.heap.size)/\ak b j/\j.heap[h]?=some (.cells #[ab v.1,ab v.2] 109)):=⟨_,_,⟨rfl,rfl⟩,aV,aF _ _⟩;obtain⟨j,h,⟨N,M⟩,f⟩:=J.out;rw[<-N,<-M];replace f:=au f;clear N M J;have B:Hid (∀w':ag,ak j w'->w'.cell? ⟨w.heap.size+1,0,none⟩=some (ab room)/\w'.cell? ⟨w.heap.size+1,1,none⟩=some tv/\w'.cell? ⟨w.heap.size+1,2,none⟩=some lv/\w'.cell? ⟨w.heap.size+1,3,none⟩=some mv/\w'.cell? ⟨h,0,none⟩=some (ab v.1)/\w'.cell? ⟨h,1,none⟩=some (ab v.2)):=λw' a=>by
     have p:=(a.block h (aJ.1 f.2).1).trans f.2;have L:=(aJ.1 u).1;have g:=(a.block _ (aW L f.1.size)).trans ((f.1.block _ L).trans u);exact⟨ay g 0,ay g 1,ay g 2,ay g 3,ay p 0,ay p 1⟩
    obtain⟨X,Y,Z,aa,ad,ah⟩:=B.out j (aq _ _);have D:Hid (ak j j.drew):=(aq _ _).drew
    go_region_held3 (λw'=>w'.cell? ⟨w.heap.size+1,0,none⟩=some (ab room)/\w'.cell? ⟨w.heap.size+1,1,none⟩=some tv/\w'.cell? ⟨w.heap.size+1,2,none⟩=some lv/\w'.cell? ⟨w.heap.size+1,3,none⟩=some mv/\w'.cell? ⟨h,0,none⟩=some (ab v.1)/\w'.cell? ⟨h,1,none⟩=some (ab v.2)) (first|(go_keep;done)|with_reducible exact B _ D|exact B _ A|exact B _ (A.trans (aV.mono A.size)))
     ((go_at_call 63;refine(R _).mono ?_;rintro e s ⟨rfl,K⟩;have A:=au (D.trans (K.mono D.size));clear K))
    go_wp2_with fail;exact az (v:=.tuple #[aH s.heap.size,ab 0]) (by simp[results,results42,go_sem]) rfl ⟨λa=>(by cases a),λ_ a=>absurd q a,λ_ _=>⟨v,0,w2,b,z,λa=>absurd rfl a,λ_=>⟨s,tv,lv,mv,rfl,f.out.1.trans (A.out.mono f.out.1.size),u.out,rfl⟩⟩⟩
def gg(N:Nat)(x:Tm N)(room:Int)(name:ap):Int:=if dV name=false then 5 else if¬(0<=room/\room<=1000)then 1 else jS N x room []
def O3(N:Nat)(x:Tm N)(room:Int)(name:ap)(w:ag)(e:Ending)(w':ag):Prop:=
 (gg N x room name≠0->e=.returned (.tuple #[.pointer none,ab (gg N x room name)])/\ak w w')/\
 (gg N x room name=0->∃a,e=.returned (.tuple #[aH a,ab 0])/\Hid (w.heap.size<=a/\ak w w'/\∃g d f c,cO w.heap.size a name room N x [] [] 201 (λb=>w.heap.size<=b/\b<w'.heap.size) w' g d f [] none 0 c))
theorem xD{s:ap}(a:dV s=true):s.size<=2048:=by
 simp only[dV,qP,aK,co]at a;omega
theorem In.offBelow{B:Nat}{w:ag}:{n:Nat}->{x:Tm n}->In B w n x->cr (λb=>b<B) n x
 | 0,_,k=>k
 | _+1,_,k=>by
  obtain⟨_,a⟩:=k;rcases a with a|⟨b,o,e,c,a⟩
  ·exact ai a
  ·exact aj ⟨b,o,e,c,λi y d=>(a i y d).2.offBelow⟩
theorem BT(N:Nat)(x:Tm (N+1))(room:Int)(name:ap)(w:ag)(ay:name.size<=9223372036854775807)(O:In w.heap.size w (N+1) x)(an:(aC (N+1) x).length<=2097152):am 42 #[af name,dw (N+1) x,ab room] w (O3 (N+1) x room name w):=by
 refine(Hm name x.1.1 x.1.2.1 x.1.2.2 x.2.1.1 x.2.2.length x.2.1.2 room w (dV name) (λe l o p=>ak w p/\yI (N+1) x w.heap.size (cG.own (w.heap.size+1)) room [] [] (λb=>b=w.heap.size+1) e l o p) ?_ ?_ ?_).mono ?_
 ·intro D;exact iU name D ay
 ·intro a D;exact dW name D (xD a)
 ·intro d o H aM m;have s:=m.size;have ad:dM w.heap.size (cG.own (w.heap.size+1)) room [] [] (λb=>b=w.heap.size+1) o:=⟨ae none 0 0,ae none 0 0,.map none,H,eP _ _ _ _,⟨eP _ _ _ _,by simp,ai ⟨rfl,rfl,rfl⟩⟩,rfl,λb f=>by simp[Value.ownBlock]at f,λb f=>by simp[Value.ownBlock]at f,λb f=>by simp[mapBlock]at f⟩;refine(uY (N+1) x w.heap.size (cG.own (w.heap.size+1)) room [] [] (λb=>b=w.heap.size+1) o ad ((O.below m).mono s) ((In.offBelow O).mono λb c f=>by omega) an s d.1 d.2 (by simp) (by simp)).mono ?_;intro f p ax;obtain⟨e,l,rfl,i⟩:=zI ax;have I:∀{E:aR},bZ E o p->(∀b,E b->w.heap.size<=b)->ak w p:=λk ao=>⟨k.os.trans m.os,k.tape.trans m.tape,k.output.trans m.output,aD s k.size,λb L=>(k.block b (aW L s) λc=>by have:=ao b c;omega).trans (m.block b L)⟩;refine⟨e,l,rfl,?_⟩;by_cases g:l=0
  ·obtain⟨_,_,t,P⟩:=i.2.2 g;obtain⟨C,A,B,al,_⟩:=t;exact⟨C,A,B,al.2,I P λb c=>by omega,i⟩
  ·have n:=(i.2.1 g).2;exact⟨_,_,_,(n.block _ (by omega)).trans H.2,I (bm n λ_=>False) λb c=>c.elim,i⟩
 ·rintro f aP ⟨X,Y,Z⟩;cases hn:dV name with
  | false=>
   have h:gg (N+1) x room name=5:=by simp[gg,hn]
   refine⟨λ_=>by rw[h];exact X hn,λa=>by rw[h]at a;cases a⟩
  | true=>
   by_cases d:0<=room/\room<=1000;rotate_left
   ·have h:gg (N+1) x room name=1:=by simp[gg,hn,d]
    refine⟨λ_=>by rw[h];exact Y hn d,λa=>by rw[h]at a;cases a⟩
   ·obtain⟨e,l,o,p,Q,d1,aa⟩:=Z hn d;obtain⟨aI,aN,n,i⟩:=Q;have h:gg (N+1) x room name=l:=by rw[i.1];simp[gg,hn,d]
    have M:=n.size;rw[O3,h];refine⟨λg=>⟨(d1 g).1,n.trans ((d1 g).2.mono M)⟩,λg=>?_⟩;obtain⟨j,C,A,B,rfl,r,J,rfl⟩:=aa g;have aL:=r.size;obtain⟨K,az,t,P⟩:=i.2.2 g;have av:=t.nodup;have ah:=(t.later r);obtain⟨y,u,v,R,S,T,aH,U,V,W⟩:=ah;have ar:=(aJ.1 J).1;have F:(Obj.cells #[ab room,y,u,v] 107)=(Obj.cells #[ab room,C,A,B] 107):=aA (R.2.symm.trans ((r.block _ ar).trans J));simp only[Obj.cells.injEq,Array.mk.injEq,kN,and_true,true_and]at F;obtain⟨rfl,rfl,rfl⟩:=F;have z:ak j (j.alloc (.cells #[af name,ab room,y,u,v,ab e.1,ab e.2,ae none 0 0] 111)):=aV;have aB:(j.alloc (.cells #[af name,ab room,y,u,v,ab e.1,ab e.2,ae none 0 0] 111)).heap.size=j.heap.size+1:=by simp
    refine⟨j.heap.size,rfl,by omega,(n.trans (r.mono M)).trans (z.mono (by omega)),(bi (N+1) x [] []).2.1,(bi (N+1) x [] []).2.2,e,λb=>b=j.heap.size\/(w.heap.size<=b/\b<j.heap.size),?_⟩;have aq:j9 (N+1) [] [] room [] ([]:List (Tm (N+1))):=⟨⟨rfl,λaO e aE a=>by simp at a⟩,by simp,λaE a=>by simp at a,by simp,by simp;exact d.1,d.1,d.2,by simp⟩;have au:=aq.lay x K av;have aw:=(iV (N+1) x [] []).2;have aK:=oe K.1;simp only[iC]at aw;refine⟨⟨y,u,v,⟨⟨rfl,aj rfl⟩,aF _ _⟩,ee S (bm z λ_=>False) (λ_ _ c=>c),T.kept (bm z λ_=>False) (λ_ _ c=>c) (λ_ _ c=>c),ai rfl,λb c=>aj ?_,λb c=>aj ?_,λb c=>aj ?_⟩,ai ⟨rfl,rfl,rfl⟩,?_,rfl,by omega,λb c=>?_,λaG a=>by cases a⟩
    ·have a:=U b c;have G:=a.2;rcases a.1 with q|q<;>exact⟨by omega,by omega⟩
    ·have a:=V b c;have G:=a.2;rcases a.1 with q|q<;>exact⟨by omega,by omega⟩
    ·have a:=W b c;have G:=a.2;rcases a.1 with q|q<;>exact⟨by omega,by omega⟩
    ·rw[az];exact au
    ·rw[aB];rcases c with c|c<;>exact⟨by omega,by omega⟩
def ul(w:ag)(c:Nat)(a b:Int):ag:=(w.setCell ⟨c,5,none⟩ (ab a)).setCell ⟨c,6,none⟩ (ab b)
def PC(b d e:Nat)(g t1:Int)(t2:ap)(h:aw)(j i:Nat)(s0 s1:Int)(f:ap)(sa:aw)(sl sc:Nat)(W:ag):Prop:=
 W.heap[d]?=some (.cells #[ab g,ab t1,af t2,ae h j i] 31)/\W.heap[e]?=some (.cells #[ab s0,ab s1,af f,ae sa sl sc] 31)/\(∃a,W.cell? ⟨b,5,none⟩=some (ab a))/\(∃a,W.cell? ⟨b,6,none⟩=some (ab a))/\∀c,W.frozen? ⟨b,c,none⟩=false
theorem AG(m t1:Int)(t2:ap)(n:aw)(q o:Nat)(c:Nat)(w:ag)(S:Int->Int->ap->aw->Nat->Nat->ag->Prop)(P1:ag->Wd->Int->ag->Prop)(R:Bool->ag->Prop)(aN:Hid (∀W,ak w W->am 34 #[aH c] W λe w'=>∃s0 s1 h sa sl sc,e=.returned (.agg #[ab s0,ab s1,af h,ae sa sl sc])/\Hid (ak W w'/\S s0 s1 h sa sl sc w')))(aG:Hid (∀W,ak w W->(∃a,W.cell? ⟨c,5,none⟩=some (ab a))/\(∃a,W.cell? ⟨c,6,none⟩=some (ab a))/\(∀j,W.frozen? ⟨c,j,none⟩=false)/\c<w.heap.size))(aM:Hid (∀s0 s1 h sa sl sc aU I g i,S s0 s1 h sa sl sc aU->ak aU I->ak w I->w.heap.size<=g->w.heap.size<=i->PC c g i m t1 t2 n q o s0 s1 h sa sl sc (ul I c 1 0)->am 123 #[aH c,.agg #[ab m,ab t1,af t2,ae n q o]] (ul I c 1 0) λe w'=>∃(v:Wd)(s:Int),e=.returned (.tuple #[.agg #[ab v.1,ab v.2],ab s])/\Hid (PC c g i m t1 t2 n q o s0 s1 h sa sl sc w'/\P1 I v s w'/\ (s=0->∀W,ak w' W->R true (ul W c v.1 v.2))/\ (s≠0->∀W d,ak w' W->w'.heap.size<=d->d<W.heap.size->am 123 #[aH c,.agg #[ab s0,ab s1,af h,ae sa sl sc]] W λe M=>∃(v2:Wd)(aV:Int),e=.returned (.tuple #[.agg #[ab v2.1,ab v2.2],ab aV])/\Hid ((∀ba,W.heap[d]?=some ba->M.heap[d]?=some ba)/\((∃a,M.cell? ⟨c,5,none⟩=some (ab a))/\(∃a,M.cell? ⟨c,6,none⟩=some (ab a))/\∀j,M.frozen? ⟨c,j,none⟩=false)/\∀aT,bB (λb=>b=d) M aT->R false (ul aT c v2.1 v2.2)))))):am 118 #[aH c,.agg #[ab m,ab t1,af t2,ae n q o]] w λe w'=>∃t,e=.returned (.bool t)/\Hid (R t w'):=by
 have aP:Hid (∃Z l,(Z=w.alloc (.cells #[ab m,ab t1,af t2,ae n q o] 31)/\l=w.heap.size)/\ak w Z/\Z.heap[l]?=some (.cells #[ab m,ab t1,af t2,ae n q o] 31)/\w.heap.size<=l):=⟨_,_,⟨rfl,rfl⟩,(aq _ _).alloc (ao _) _,aF _ _,ao _⟩;go_enter func118,ntmps118;go_wp2_with fail;obtain⟨Z,g,⟨a6,a5⟩,aX,K,a2⟩:=aP.out;rw[<-a6,<-a5];have ad:=au aX;have y:=au K;have aI:=au a2;clear a6 a5 aX K a2 aP;refine(aN _ ad).mono ?_;rintro e aa ⟨s0,s1,h,sa,sl,sc,rfl,N⟩;have P:=au (ad.trans (N.1.mono ad.size));have aQ:Hid (∃k l,(k=aa.alloc (.cells #[ab s0,ab s1,af h,ae sa sl sc] 31)/\l=aa.heap.size)/\ak aa k/\k.heap[l]?=some (.cells #[ab s0,ab s1,af h,ae sa sl sc] 31)/\w.heap.size<=l/\k.heap[g]?=some (.cells #[ab m,ab t1,af t2,ae n q o] 31)):=by
  have bi:=(aJ.1 y).1;have aW:=(N.1.block g bi).trans y;exact⟨_,_,⟨rfl,rfl⟩,(aq _ _).alloc (ao _) _,aF _ _,P.size,(((aq _ _).alloc (ao _) _).block g (aJ.1 aW).1).trans aW⟩
 have aO:=au N.2;clear N aN y;go_upto_region 2 with fail;obtain⟨k,i,⟨a7,u⟩,aA,aZ,a3,K⟩:=aQ.out;rw[<-a7,<-u];have aj:=au (P.trans (aA.mono P.size));have aE:=au aA;have an:=au aZ;have y:=au K;have aK:=au a3;clear a7 u aA aZ a3 K aQ;obtain⟨⟨bp,bd⟩,⟨bq,be⟩,U,bu⟩:=aG.out k aj;have ar:=U 5;have av:=U 6;have x:Hid (PC c g i m t1 t2 n q o s0 s1 h sa sl sc (ul k c 1 0)):=by
  have a1:bB (λb=>b=c) k (ul k c 1 0):=bB.trans (bH k c 5 _) (bH _ c 6 _) λ_ _ e=>e;refine⟨(a1.block g (aJ.1 y).1 (by have:=aI.out;omega)).trans y,(a1.block i (aJ.1 an).1 (by have:=aK.out;omega)).trans an,⟨1,?_⟩,⟨0,?_⟩,λj=>?_⟩
  ·exact(dE 5 (by decide)).trans (ic _ _ _ bd)
  ·exact ic _ _ _ ((dE 6 (by decide)).trans be)
  ·unfold ul;rw[gN,gN];exact U j
 have al:=au (aM s0 s1 h sa sl sc aa k g i aO aE aj aI aK x);clear aM U aG;go_upto_region 3 with fail;obtain⟨F,X⟩:∃F,F=ul k c 1 0:=⟨_,rfl⟩;rw[<-X]at al x;unfold ul at X;rw[<-X];have bl:F.cell? ⟨g,0,none⟩=some (ab m):=ah x.1 0;have bm:F.cell? ⟨g,1,none⟩=some (ab t1):=ah x.1 1;have bn:F.cell? ⟨g,2,none⟩=some (af t2):=ah x.1 2;have bo:F.cell? ⟨g,3,none⟩=some (ae n q o):=ah x.1 3;clear X bd be ar av y an aj aE P aO x;go_wp2_with fail;refine al.mono ?_;rintro e G ⟨v,s,rfl,r⟩;have aR:Hid (∃f l,(f=G.alloc (.cells #[ab v.1,ab v.2] 109)/\l=G.heap.size)/\ak G f/\f.heap[l]?=some (.cells #[ab v.1,ab v.2] 109)/\G.heap.size<=l):=⟨_,_,⟨rfl,rfl⟩,(aq _ _).alloc (ao _) _,aF _ _,ao _⟩;go_upto_region 4 with fail;obtain⟨f,d,⟨a8,A⟩,aY,a0,a4⟩:=aR.out;rw[<-a8,<-A];have D:=au aY;have T:=au a0;have aL:=au a4;clear a8 A aY a0 a4 aR bl bm bn bo al;have Q:Hid (c<G.heap.size):=by
  obtain⟨a,ay⟩:=r.out.1.2.2.1;exact fD G ⟨c,5,none⟩ ay
 have bf:Hid ((∃a,f.cell? ⟨c,5,none⟩=some (ab a))/\(∃a,f.cell? ⟨c,6,none⟩=some (ab a))/\∀j,f.frozen? ⟨c,j,none⟩=false):=by
  obtain⟨_,_,⟨a,ay⟩,⟨b,bh⟩,z⟩:=r.out.1;refine⟨⟨a,(D.cell (p:=⟨c,5,none⟩) Q).trans ay⟩,⟨b,(D.cell (p:=⟨c,6,none⟩) Q).trans bh⟩,λj=>?_⟩;have z:=z j;unfold World.frozen? at z ⊢;rw[D.out.block c Q.out];exact z
 have br:f.cell? ⟨d,0,none⟩=some (ab v.1):=ah T 0;have bs:f.cell? ⟨d,1,none⟩=some (ab v.2):=ah T 1;by_cases J:s=0
 ·have H:=au (r.2.2.1 J f D);unfold ul at H;obtain⟨⟨a,Y⟩,⟨b,aC⟩,E⟩:=bf;have ar:=E 5;have av:=E 6;clear E r;subst J;go_wp2_with fail
  go_ret
  exact⟨true,rfl,H⟩
 ·have bt:¬(0:Int)=s:=λe=>J e.symm;have bg:=au (r.2.2.2 J f d D aL (aJ.1 T).1);have u:=(D.block i (aJ.1 r.1.2.1).1).trans r.1.2.1;have bx:f.cell? ⟨i,0,none⟩=some (ab s0):=ah u 0;have bz:f.cell? ⟨i,1,none⟩=some (ab s1):=ah u 1;have bA:f.cell? ⟨i,2,none⟩=some (af h):=ah u 2;have bC:f.cell? ⟨i,3,none⟩=some (ae sa sl sc):=ah u 3;clear u r;go_wp2_with fail;refine bg.mono ?_;rintro e B ⟨v2,aV,rfl,O⟩;have A:=O.1 _ T;have bb:B.cell? ⟨d,0,none⟩=some (ab v.1):=ah A 0;have bc:B.cell? ⟨d,1,none⟩=some (ab v.2):=ah A 1;have aD:∀j,B.frozen? ⟨d,j,none⟩=false:=λj=>by simp[World.frozen?,A]
  have bj:=aD 0;have bk:=aD 1;have aS:Hid (∃C,C=(B.setCell ⟨d,0,none⟩ (ab v2.1)).setCell ⟨d,1,none⟩ (ab v2.2)/\(C.cell? ⟨d,0,none⟩=some (ab v2.1)/\C.cell? ⟨d,1,none⟩=some (ab v2.2))/\bB (λb=>b=d) B C):=by
   refine⟨_,rfl,⟨?_,?_⟩,bB.trans (bH B d 0 _) (bH _ d 1 _) λ_ _ e=>e⟩
   ·exact(dE 0 (by decide)).trans (ic _ _ _ bb)
   ·exact ic _ _ _ ((dE 1 (by decide)).trans bc)
  clear aD A;go_upto_region 6 with fail;obtain⟨C,a9,⟨y0,y1⟩,L⟩:=aS.out;rw[<-a9];have H:=au (O.2.2 C L);unfold ul at H;obtain⟨⟨a,Y⟩,⟨b,aC⟩,E⟩:=O.out.2.1;have V:=fD B ⟨c,5,none⟩ Y;have aB:c≠d:=by have:=Q.out;have:=aL.out;omega
  have bv:=(L.cell 5 V aB).trans Y;have bw:=(L.cell 6 V aB).trans aC;have ax:∀j,C.frozen? ⟨c,j,none⟩=false:=λj=>by
   have z:=E j;unfold World.frozen? at z ⊢;rw[L.block c V aB];exact z
  have ar:=ax 5;have av:=ax 6;clear a9 aS L Y aC E ax O bb bc bj bk V;go_wp2_with fail;exact az (v:=.bool (s==0)) (by simp[results,results118,go_sem]) rfl (ai ⟨bU (by simpa using J),H.out⟩)
def fK(n m:Nat):Option (Tm n)->Option (Tm m)->Prop
 | none,none=>True
 | some x,some y=>aB n x m y=true
 | _,_=>False
theorem nI{k l:Nat}{o:Option (Tm n)}{p:Option (Tm m)}{f:Tm n->Option (Tm k)}{g:Tm m->Option (Tm l)}(a:fK n m o p)(b:∀x y,aB n x m y=true->fK k l (f x) (g y)):fK k l (o.bind f) (p.bind g):=by
 cases o with
 | none=>
  cases p with
  | none=>trivial
  | some _=>exact a.elim
 | some x=>
  cases p with
  | none=>exact a.elim
  | some y=>exact b x y a
theorem iX(c:n<=N)(b:m<=M){x:Tm n}{y:Tm m}(d:aI ⟨n,x⟩)(e:aI ⟨m,y⟩)(a:aB n x m y=true):aB N (aY N n x) M (aY M m y)=true:=
 bM _ _ _ _ _ _ (fG N n c x d) (bM _ _ _ _ _ _ a (dB _ _ _ _ (fG M m b y e)))
theorem lk:(n:Nat)->(x:Tm n)->(m:Nat)->(y:Tm m)->aB n x m y=true->b8 ⟨n,x⟩=b8 ⟨m,y⟩/\pO n x=pO m y
 | 0,_,_,_,h=>by simp[aB]at h
 | _+1,_,0,_,h=>by simp[aB]at h
 | n+1,x,m+1,y,h=>by
  simp only[aB,aK,cF]at h;exact⟨h.1.1.1,h.1.1.2⟩
theorem ym{a c:Tm N}{b d:Tm M}(h:aB N a M b=true)(i:aB N c M d=true):fK (N+1) (M+1) (tV N a c) (tV M b d):=by
 have e:=lk _ _ _ _ h;have f:=lk _ _ _ _ i;have g:zZ N a c=zZ M b d:=by
  unfold zZ;rw[e.1,e.2,f.1,f.2]
 unfold tV;rw[<-g,<-e.2,<-f.2];cases zZ N a c
 ·simp[fK]
 ·simp[fK,aB,bT,aG]
theorem uA{i:Type}{N M:Nat}(f:i->Option (Tm N))(g:i->Option (Tm M)):(p:List i)->(∀a∈p,fK N M (f a) (g a))->fK (N+1) (M+1) ((cQ f p).map (dl N)) ((cQ g p).map (dl M))/\((cQ f p=none/\cQ g p=none)\/∃l r,cQ f p=some l/\cQ g p=some r/\aG (λx y=>aB N x M y) l r=true)
 | [],_=>⟨by simp[cQ,fK,aB,dl,aG],aj ⟨[],[],rfl,rfl,rfl⟩⟩
 | a::p,h=>by
  have b:=h a (by simp);have m:=(uA f g p λx n=>h x (by simp[n])).2;simp only[cQ];cases e1:f a with
  | none=>
   rw[e1]at b;cases c:g a with
   | none=>simp[fK]
   | some _=>rw[c]at b;exact b.elim
  | some u=>
   rw[e1]at b;cases c:g a with
   | none=>rw[c]at b;exact b.elim
   | some v=>
    rw[c]at b;have j:aB N u M v=true:=b;rcases m with⟨d,e⟩|⟨l,r,d,e,k⟩
    ·rw[d,e];simp[fK]
    ·rw[d,e];exact⟨by simp[fK,aB,dl,aG,j,k],aj ⟨u::l,v::r,rfl,rfl,by simp[aG,j,k]⟩⟩
theorem r7(m:Nat)(b:List (Tm m))(f:Nat)(a:List (Tm f))(self:Int)(i:aG (λx y=>aB m x f y) b a=true)(p:∀y∈b,aI ⟨m,y⟩)(q:∀y∈a,aI ⟨f,y⟩):(n:Nat)->(x:Tm n)->aI ⟨n,x⟩->fK (m+n) (f+n) (vl m b self n x) (vl f a self n x)
 | 0,_,_=>trivial
 | n+1,x,hx=>by
  have z:=cP _ _ _ i;have w:aB (n+1) x (n+1) x=true:=fH _ _ hx;unfold vl;by_cases k:x.1.1=5
  ·rw[if_pos k,if_pos k];cases e:b[x.1.2.1.toNat]? with
   | none=>
    have g:a[x.1.2.1.toNat]?=none:=by
     rw[List.getElem?_eq_none_iff]at e ⊢;omega
    rw[g];trivial
   | some y=>
    obtain⟨u,_⟩:=aX.1 e;have g:a[x.1.2.1.toNat]?=some a[x.1.2.1.toNat]:=aM (by omega);rw[g];have s:aB m y f a[x.1.2.1.toNat]=true:=jF _ _ _ i _ _ _ e g;simp only[dG];rw[<-(lk _ _ _ _ s).1];by_cases d:b8 ⟨m,y⟩=6
    ·rw[if_pos d,if_pos d];trivial
    ·rw[if_neg d,if_neg d];exact iX (by omega) (by omega) (p y (aN e)) (q _ (aN g)) s
  ·rw[if_neg k,if_neg k];by_cases d:x.1.1=6
   ·rw[if_pos d,if_pos d];trivial
   ·rw[if_neg d,if_neg d];by_cases j:x.1.1=4
    ·rw[if_pos j,if_pos j];by_cases r:ud n x.2.2 p8 0=true
     ·rw[if_pos r,if_pos r];simp[fK,aB,bT,aG]
     ·rw[if_neg r,if_neg r];by_cases l:ud n x.2.2 wC 2=true
      ·rw[if_pos l,if_pos l];cases e1:x.2.2[1]? with
       | none=>trivial
       | some h=>
        cases g:x.2.2[2]? with
        | none=>trivial
        | some c=>
         simp only[dG];exact nI (r7 m b f a self i p q n h (bf n x h hx (aN e1))) λA C u=>nI (r7 m b f a self i p q n c (bf n x c hx (aN g))) λB D v=>ym u v
      ·rw[if_neg l,if_neg l];by_cases o:ud n x.2.2 CG 1=true
       ·rw[if_pos o,if_pos o];cases e1:x.2.2[1]? with
        | none=>trivial
        | some h=>
         have t:=bf n x h hx (aN e1);simp only[dG];cases aS n h
         ·simp[fK]
         ·exact iX (by omega) (by omega) t t (fH _ _ t)
       ·rw[if_neg o,if_neg o];exact(uA _ _ x.2.2 λy s=>r7 m b f a self i p q n y (bf n x y hx s)).1
    ·rw[if_neg j,if_neg j];exact iX (by omega) (by omega) hx hx w
def IQ:(D:Nat)->(n:Nat)->Tm n->Tm D
 | 0,_,_=>()
 | _+1,0,_=>((0,0,.empty),(none,0),[])
 | D+1,n+1,x=>(x.1,(none,0),x.2.2.map λy=>IQ D n y)
theorem Je:(D:Nat)->(n:Nat)->(x:Tm n)->(m:Nat)->(y:Tm m)->aB n x m y=true->IQ D n x=IQ D m y
 | 0,_,_,_,_,_=>rfl
 | D+1,0,_,_,_,h=>by simp[aB]at h
 | D+1,n+1,_,0,_,h=>by simp[aB]at h
 | D+1,n+1,x,m+1,y,h=>by
  obtain⟨c,d⟩:=bL h;have e:=kG _ (λa=>IQ D n a) (λb=>IQ D m b) _ _ (λa _ b f=>Je D n a m b f) d;simp only[IQ,c,e];rfl
theorem AZ{n:Nat}:(l:List (Tm n))->(m:Int)->m<=l.foldl (λm y=>max m (fI n y)) m/\∀y∈l,fI n y<=l.foldl (λm y=>max m (fI n y)) m
 | [],m=>⟨jm _,λy b=>by simp at b⟩
 | a::l,m=>by
  obtain⟨d,c⟩:=AZ l (max m (fI n a));simp only[gD];refine⟨by omega,λy b=>?_⟩;rcases cv.1 b with rfl|b
  ·omega
  ·exact c y b
theorem oh{x:Tm (n+1)}(e:aI ⟨n+1,x⟩){y:Tm n}(c:y∈x.2.2):fI n y+1<=fI (n+1) x:=by
 have d:x.1.1=4:=by
  have b:=e _ (mY ..);simp only[cJ,aK,iB,cF,kL,decide_eq_false_iff_not]at b;rcases b.2 with a|a
  ·exact a
  ·have:=List.length_pos_of_mem c;omega
 have:=(AZ x.2.2 0).2 y c;simp only[fI,if_pos d];omega
theorem AJ:(D:Nat)->(n:Nat)->(x:Tm n)->aI ⟨n,x⟩->fI n x<D->aB D (IQ D n x) n x=true
 | _,0,_,h,_=>(dq h).elim
 | 0,n+1,x,_,h=>by
  have:=(gd (n+1) x).1;omega
 | D+1,n+1,x,hr,h=>dh rfl (jd _ _ _ λy a=>AJ D n y (bf n x y hr a) (by
  have:=oh hr a
  omega))
theorem jC:(D:Nat)->(n:Nat)->(x:Tm n)->aI ⟨n,x⟩->fI n x<D->aB D (aY D n x) n x=true
 | _,0,_,h,_=>(dq h).elim
 | 0,n+1,x,_,h=>by
  have:=(gd (n+1) x).1;omega
 | D+1,n+1,x,hr,h=>dh rfl (jd _ _ _ λy a=>jC D n y (bf n x y hr a) (by
  have:=oh hr a
  omega))
theorem Kd(D n:Nat)(x:Tm n)(w:ag)(b o:Nat)(g:0<D)(k:dH w b o n x):dH w b o D (aY D n x):=by
 cases n with
 | zero=>exact k.elim
 | succ n=>
  obtain⟨D,rfl⟩:∃a,D=a+1:=⟨D-1,by omega⟩;obtain⟨c,d,e,f⟩:=k;exact⟨c,d,e,by simpa [aY]using f⟩
theorem sH:(D n:Nat)->(x:Tm n)->(B:Nat)->(w:ag)->aI ⟨n,x⟩->fI n x<D->In B w n x->In B w D (aY D n x)
 | _,0,_,_,_,_,_,k=>k.elim
 | 0,n+1,x,_,_,_,h,_=>by
  have:=(gd (n+1) x).1;omega
 | D+1,n+1,x,B,w,hr,h,k=>by
  obtain⟨l,a⟩:=k;refine⟨by simpa [aY]using l,?_⟩;rcases a with a|⟨b,o,e,j,a⟩
  ·exact ai (by simp[aY,a])
  ·refine aj ⟨b,o,e,j,λi y g=>?_⟩;simp only[aY,dy]at g;obtain⟨c,d,rfl⟩:=cw.1 g;have f:=aN d;have p:=oh hr f;have m:=(gd n c).1;exact⟨Kd D n c w b _ (by omega) (a i c d).1,sH D n c B w (bf n x c hr f) (by omega) (a i c d).2⟩
theorem zv(D n:Nat)(x:Tm (n+1)):dw (D+1) (aY (D+1) (n+1) x)=dw (n+1) x:=by
 simp[dw,aY]
theorem ue:(D n:Nat)->(x:Tm n)->(P:aR)->aI ⟨n,x⟩->fI n x<D->cr P n x->cr P D (aY D n x)
 | _,0,_,_,h,_,_=>(dq h).elim
 | 0,n+1,x,_,_,h,_=>by
  have:=(gd (n+1) x).1;omega
 | D+1,n+1,x,P,hr,h,k=>by
  rcases k with k|⟨b,o,e,g,k⟩
  ·exact ai (by simp[aY,k])
  ·refine aj ⟨b,o,e,g,λi y d=>?_⟩;simp only[aY,dy]at d;obtain⟨a,f,rfl⟩:=cw.1 d;have c:=aN f;have j:=oh hr c;exact ue D n a P (bf n x a hr c) (by omega) (k i a f)
abbrev Tc:Type:=Tm 13
def cn(n:Nat)(x:Tm n):Tc:=IQ 13 n x
theorem io{x:Tm n}{y:Tm m}(a:aB n x m y=true):cn n x=cn m y:=Je 13 n x m y a
theorem ex{x:Tm n}(a:bE n x=0):aB 13 (cn n x) n x=true:=by
 obtain⟨b,c,_⟩:=bG.1 a;exact AJ 13 n x (aT.2 b) (by omega)
theorem L6{x:Tm n}(a:bE n x=0):cn 13 (cn n x)=cn n x:=io (ex a)
theorem og{x:Tm n}(a:bE n x=0):bE 13 (cn n x)=0:=by rw[bV (ex a),a]
theorem EX{x:Tm n}(a:bE n x=0):sz 13 (cn n x)=sz n x:=lT _ _ _ _ (ex a)
theorem mu{x:Tm n}(a:bE n x=0):aS 13 (cn n x)=aS n x:=cM _ _ _ _ (ex a)
theorem Ed{x:Tm n}{y:Tm m}(c:bE n x=0)(d:bE m y=0)(b:cn n x=cn m y):aB n x m y=true:=by
 have a:=dB _ _ _ _ (ex c);rw[b]at a;exact bM _ _ _ _ _ _ a (ex d)
theorem PT:(p:List (Tm n))->(q:List (Tm m))->aG (λx y=>aB n x m y) p q=true->p.map (cn n)=q.map (cn m):=λp q a=>kG _ _ _ p q (λ_ _ _ b=>io b) a
theorem tw{n m:Nat}:(p:List (Tm n))->(q:List (Tm m))->(∀x∈p,bE n x=0)->(∀y∈q,bE m y=0)->p.map (cn n)=q.map (cn m)->aG (λx y=>aB n x m y) p q=true
 | [],[],_,_,_=>rfl
 | [],_::_,_,_,h=>by simp at h
 | _::_,[],_,_,h=>by simp at h
 | x::p,y::q,hp,hq,h=>by
  simp only[aU,kN]at h;simp only[aG,aK];exact⟨Ed (hp x (by simp)) (hq y (by simp)) h.1,tw p q (λa b=>hp a (bR _ b)) (λa b=>hq a (bR _ b)) h.2⟩
end Go.Proofs.YtmmahddlcldmiaaGreat
