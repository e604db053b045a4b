/- Proved here: plain facts and contracts. No condition but what each names. -/
import Derived.Test.YtmmahddlcldmiaaGreatJ08
import Derived.RangeFuncNested
import Derived.RangeFuncLeaves
import Derived.OwnWalkIn
import Derived.TacticsInMore
import Derived.LoopNIn
import Derived.LoopIn
import Derived.Sort.MapsRangeIn
import Derived.Sort.Grow
namespace Go.Proofs.YtmmahddlcldmiaaGreat
open Go.RowKit Go.Maps Tryz
set_option maxRecDepth 100000
set_option maxHeartbeats 2000000
variable {base n N:Nat} {wp:BL} {mo:Option Nat} {f:Int×Int->List (Tm (N+1))} {sl:Int×Int->av} {w:ag}
def lZ(base:Nat)(wp:BL)(mo:Option Nat)(n N:Nat)(f:Int×Int->List (Tm (N+1)))(sl:Int×Int->av)(k:Int×Int)(l:List (Tm (N+1)))(w w':ag):Prop:=
 ∃a,ii base wp mo (n+1) (N+1) (iN f k l) a w'/\bB (r9 wp mo sl) w w'/\∀b,r9 wp mo a b->r9 wp mo sl b
variable{D:DataW av}{l:List (Tm (N+1))}{left:Lit->Bool}{w w':ag}
theorem lZ.later{k:Int×Int}{w2:ag}(h:ii base wp mo n (N+1) f sl w)(g:lZ base wp mo n N f sl k l w w')(a:Below w.heap.size w' w2):lZ base wp mo n N f sl k l w w2:=by
 obtain⟨o,i,j,d⟩:=g;have e:bB (λb=>w.heap.size<=b) w' w2:=⟨a.os,a.tape,a.output,a.size,λb _ c=>a.block b (by omega)⟩;refine⟨o,i.kee e λb c m=>?_,bB.trans j e λb c m=>?_,d⟩
 ·have:=(h.lt b (d b c)).2;omega
 ·omega
theorem Hs{base g c L:Nat}{y:Tm (N+1)}(b:w.ownsRow base 31 4 (ae (some ⟨g,0,none⟩) L c) L (dv (N+1) (y::l))):w.cell? ⟨g,0,none⟩=some (ab y.1.1)/\w.cell? ⟨g,1,none⟩=some (ab y.1.2.1)/\w.cell? ⟨g,2,none⟩=some (af y.1.2.2)/\w.cell? ⟨g,3,none⟩=some (ae y.2.1.1 y.2.2.length y.2.1.2):=by
 have a:=DT (l:=(y::l).map (gu (N+1))) b 0 (gu (N+1) y) (by simp);simp only[Nat.zero_mul,de]at a;exact a
theorem KZ(d:ii base wp mo n (N+1) f sl w){a b:Int}(m:I2 (a,b))(ar:n<999999)(V:(f (a,b)).length<=1000):am 50 #[.pointer (some ⟨wp.b,wp.o,none⟩),ab a,ab b] w λe w'=> (f (a,b)=[]->e=.returned (.tuple #[.agg #[ab 0,ab 0,af ⟨#[]⟩,ae none 0 0],ab 4])/\ak w w')/\ ∀y l,f (a,b)=y::l->e=.returned (.tuple #[dw (N+1) y,ab 0])/\lZ base wp mo n N f sl (a,b) l w w':=by
 have r:=d.lt wp.b (ai rfl);have z:∀i,ak w i->(Instr.lookup 51 (.map mo) (.agg #[ab a,ab b]) false).run Tryz.prog i=.ok (sl (a,b)) i:=λi g=>(d.later g).look m;cases k:f (a,b)with
 | nil=>
  have t:sl (a,b)=ae none 0 0:=by
   rcases d.2.2 with⟨_,_,rfl⟩|⟨h,rfl,s⟩
   ·rfl
   ·obtain⟨Q,R,G,H⟩:=s.map;have ad:has Q (kl (a,b))=false:=by
     cases hh:has Q (kl (a,b))
     ·rfl
     ·obtain⟨u,x,Z,T⟩:=(H _).1 hh;rw[<-l7 m x Z]at T;exact absurd k T
    have:=G (a,b) m;rw[atKey_of_not_has ad]at this;injection this with this;exact this.symm
  rw[t]at z;refine(Ig wp mo a b w r.2 d.cell.1 z).mono ?_;rintro e w' ⟨rfl,c⟩;exact⟨λ_=>⟨rfl,c⟩,λy l e=>by cases e⟩
 | cons y l=>
  rcases d.2.2 with⟨_,rfl,_⟩|⟨h,rfl,s⟩
  ·cases k
  ·obtain⟨sa,sc,t,A⟩:=(s.row (a,b) m).at;rw[k]at t A V;have W:=s.lt h (ai rfl);obtain⟨j,rfl⟩:∃j,sa=some ⟨j,0,none⟩:=by
    rcases A.2 with⟨e,_⟩|⟨j,cap,aq,e,_⟩
    ·simp at e
    ·simp at e;exact⟨j,e.1⟩
   have U:=A.lt j rfl;have O:wp.b≠j:=λe=>Ap d m (by rw[t,e];rfl);have Y:=Hs A;rw[t]at z;cases hl0:l with
   | nil=>
    subst hl0;refine(yn wp h j sc 0 y.1.1 y.1.2.1 y.1.2.2 y.2.1.1 y.2.2.length y.2.1.2 a b w (λw'=>lZ base wp (some h) n N f sl (a,b) [] w w') (λ_ _=>True) r.2 U.2 W.2 (wF d) O d.cell.1 z Y (ai ⟨rfl,λi g=>?_⟩)).mono ?_
    ·have I:GM base h n (N+1) f sl i:=s.kee (aO g λ_=>False) λ_ _ k=>k;obtain⟨v,P,J,p,X⟩:=I.drop m 3;have ag:∀ty,(Builtin.delete_ #[51,44] ty #[.map (some h),.agg #[ab a,ab b]]).run Tryz.prog i=.ok (.tuple #[]) v:=λty=>P;refine⟨v,ag,p,X,λao K=>?_⟩;have q:lZ base wp (some h) n N f sl (a,b) [] w v:=by
      refine⟨_,⟨d.1,(d.2.1.kept (g.block wp.b r.2)).kept (p.block wp.b (aW r.2 g.size) (wF d)),aj ⟨h,rfl,J.mono (fX n)⟩⟩,bB.trans (aO g _) p λC _ e=>aj (ai (by rw[e])),λC c=>?_⟩;rcases c with c|c|⟨u,x,c⟩
      ·exact ai c
      ·exact aj (ai c)
      ·by_cases e:u=(a,b)
       ·rw[e,cU]at c;simp[mH,Value.ownBlock]at c
       ·rw[bY _ _ e]at c;exact aj (aj ⟨u,x,c⟩)
     exact lZ.later d q K
    ·rintro e w' ⟨rfl,q⟩;refine⟨λe=>(by cases e),λap an e=>?_⟩;injection e with E F;subst E F;exact⟨rfl,q⟩
   | cons y2 av=>
    rw[<-hl0];have M:l≠[]:=by rw[hl0];simp
    have aa:1<=l.length:=List.length_pos_iff.2 M;refine(yn wp h j sc l.length y.1.1 y.1.2.1 y.1.2.2 y.2.1.1 y.2.2.length y.2.1.2 a b w (λw'=>lZ base wp (some h) n N f sl (a,b) l w w') (λi w'=>oc base (N+1) (ae (some ⟨j,0,none⟩) l.length sc) l w'/\w'.heap.size=i.heap.size) r.2 U.2 W.2 (wF d) O d.cell.1 z Y (aj ⟨aa,by simp at V;omega,λi g=>?_,λi D S g L=>?_⟩)).mono ?_
    ·refine(Db base j sc l.length y l i rfl (bu A (aO g λ_=>False) λ_ _ k=>k) M).mono ?_;rintro e w' ⟨rfl,R,G,H⟩;exact⟨rfl,G,R,H⟩
    ·have I:GM base h n (N+1) f sl i:=s.kee (aO g λ_=>False) λ_ _ k=>k;have B:(sl (a,b)).ownBlock=some j:=by rw[t];rfl
     obtain⟨v,P,J,p,X⟩:=I.store m (w1:=D) ((eA L).mono λb _ e=>B.trans e) M S.1 (λb c=>ai (B.trans c)) (by omega);refine⟨v,P,p,λao K=>?_⟩;have al:bB (r9 wp (some h) sl) w D:=bB.trans (aO g _) (eA L) λC _ e=>aj (aj ⟨(a,b),m,B.trans e⟩);have ah:D.heap[wp.b]?=w.heap[wp.b]? :=(L.block wp.b (aW r.2 g.size) (λe=>O (aA e))).trans (g.block wp.b r.2);have au:=g.size;have q:lZ base wp (some h) n N f sl (a,b) l w v:=by
      refine⟨_,⟨d.1,(d.2.1.kept ah).kept (p.block wp.b (by rw[S.2];omega) (wF d)),aj ⟨h,rfl,J⟩⟩,bB.trans al p λC _ e=>aj (ai (by rw[e])),λC c=>?_⟩;rcases c with c|c|⟨u,x,c⟩
      ·exact ai c
      ·exact aj (ai c)
      ·by_cases e:u=(a,b)
       ·rw[e,cU]at c;exact aj (aj ⟨(a,b),m,B.trans c⟩)
       ·rw[bY _ _ e]at c;exact aj (aj ⟨u,x,c⟩)
     exact lZ.later d q K
    ·rintro e w' ⟨rfl,q⟩;refine⟨λe=>(by cases e),λap an e=>?_⟩;injection e with E F;subst E F;exact⟨rfl,q⟩
theorem qz(W:ag)(l:Nat)(o:Obj)(B:Nat)(b:B<=l):Below B W (W.putObj l o):=
 ⟨rfl,rfl,rfl,by simp,λk a=>World.putObj_heap_other (by omega)⟩
theorem D8{P:Program}{t:Tmp}{ps:Array Tmp}{d f:Code}{Q:Exit->Act->ag->Prop}{a:Act}(gf:Nat)(lb:Array av)(y:a.tmps[t]?.getD undef=.func (.func gf) #[] lb)(n:∀args w,(callFunc gf args).run P w=.ok (.enter gf args) w)(z:∀l W,ak w W->Calls P gf (#[.func (.yield l) #[] #[]]++lb) W λe k=>(∃v,e=.returned v)/\ak W k)(r:∀g,ak w g->g.heap[w.heap.size]?=some (.deferred (some []))->Q .normal {a with defers:=[{target:=.collected w.heap.size,args:= #[]}]++a.defers} g):(Code.rangeFunc (.tmp t) ps d f).wpIn Fence.wide 5 P Q a w:=by
 refine wpIn_rangeFunc ?_;intro h C;obtain⟨b,c⟩:∃b,(w.alloc (.deferred (some []))).alloc (.loop {state:=.ready,pending:=none,h,tmps:=a.tmps,params:=ps,d,f,defers:=w.heap.size})=b:=⟨_,rfl⟩;have i:ak w b:=by rw[<-c];exact((aq _ _).alloc (ao _) _).alloc (by simp) _
 have D:b.heap.size=w.heap.size+2:=by rw[<-c];simp
 have s:b.heap[w.heap.size+1]?=some (.loop {state:=.ready,pending:=none,h,tmps:=a.tmps,params:=ps,d,f,defers:=w.heap.size}):=by
  rw[<-c];have:=World.alloc_heap_new (w.alloc (.deferred (some []))) (.loop {state:=.ready,pending:=none,h,tmps:=a.tmps,params:=ps,d,f,defers:=w.heap.size});rwa [iG]at this
 have p:b.heap[w.heap.size]?=some (.deferred (some [])):=by rw[<-c];exact(Below.heap_alloc _ _ _ (by simp)).trans (World.alloc_heap_new w _)
 refine⟨w.heap.size+1,[{target:=.collected w.heap.size,args:= #[]}],b,{target:=.fn (.func gf) lb,args:= #[.func (.yield (w.heap.size+1)) #[] #[]]},b,gf, #[.func (.yield (w.heap.size+1)) #[] #[]]++lb,b,?_,?_,?_,?_,λ_=>by omega,?_⟩
 ·rw[<-c];exact run_enterLoop_outer _ _ _ _ _
 ·simp[resolve,go_sem,y]
 ·intro A B;trivial
 ·simp[invoke,go_sem,n]
 ·refine(kX.2 (z (w.heap.size+1) b i)).mono ?_;rintro e m ⟨⟨E,rfl⟩,j⟩;have u:=(j.block (w.heap.size+1) (by omega)).trans s;have q:=(j.block w.heap.size (by omega)).trans p;have x:=run_endLoop (P:=P) u (by simp);refine⟨none,_,x,?_⟩;have o:=i.trans (j.mono i.size);exact r _ (o.trans ((qz m (w.heap.size+1) _ w.heap.size (by omega)).mono (ao _))) ((World.putObj_heap_other (by omega)).trans q)
theorem AB(g:Nat)(lb:Array av)(k:∀args w,(callFunc g args).run Tryz.prog w=.ok (.enter g args) w)(w:ag)(q:∀l W,ak w W->am g (#[.func (.yield l) #[] #[]]++lb) W λe j=>(∃v,e=.returned v)/\ak W j):am 137 #[ae none 0 0,.func (.func g) #[] lb] w λe w'=>e=.returned (ae none 0 0)/\ak w w':=by
 refine(kX (n:=5)).1 ?_;refine callsIn_of_wp_marks func137 rfl trivial ?_ rfl;simp only[ntmps137,dT,br,iC,Nat.reduceAdd,Nat.reduceSub,pn,pq,pC,pu,jO,eL]
 gi_wp2
 obtain⟨a,b⟩:∃a,w.alloc (.cells #[ae none 0 0] 43)=a:=⟨_,rfl⟩;have h:a.heap.size=w.heap.size+1:=by rw[<-b];simp
 have r:a.heap[w.heap.size]?=some (.cells #[ae none 0 0] 43 (0,0)):=by rw[<-b];exact World.alloc_heap_new w _
 have c:ak w a:=by rw[<-b];exact(aq _ w).alloc (ao _) _
 rw[b];refine D8 g lb rfl k (λl W o=>q l W (c.trans (o.mono c.size))) ?_;intro d f m;have s:d.cell? ⟨w.heap.size,0,none⟩=some (ae none 0 0):=ah ((f.block w.heap.size (by omega)).trans r) 0;have p:=c.trans (f.mono c.size);have i:=au h;clear h b
 gi_wp2
 refine⟨by simp,.inl ⟨_,_,rfl,run_takeDeferred m,?_⟩⟩;exact⟨_,results_tmp rfl _ _ _,rfl,p.trans ((qz d a.heap.size _ w.heap.size (by rw[i.out];omega)).mono (ao _))⟩
theorem tM(a:ak w w'):w.grownBy w' none:=⟨a.os,a.tape,a.output,a.size,λk b _=>a.block k b⟩
theorem yW(g:Nat)(lb:Array av)(b:∀args w,(callFunc g args).run Tryz.prog w=.ok (.enter g args) w)(w:ag)(d:∀l W,ak w W->am g (#[.func (.yield l) #[] #[]]++lb) W λe a=>(∃v,e=.returned v)/\ak W a):am 93 #[.func (.func g) #[] lb] w λe w'=>e=.returned (ae none 0 0)/\ak w w':=by
 go_enter func93,ntmps93;go_wp2_with fail;refine(AB g lb b w d).mono ?_;rintro e w' ⟨rfl,c⟩;go_wp2_with fail
 go_ret
 exact⟨rfl,c⟩
theorem ve(a:av)(w:ag):am 168 #[ae none 0 0,ab 0,ab 0,a] w λe w'=>e=.returned (.tuple #[])/\w'=w:=by
 go_enter func168,ntmps168;go_wp2_with fail;refine kZ 1 ?_;rw[iI];go_wp2_with fail;exact dn (v:=.tuple #[]) (by simp[results]) rfl ⟨rfl,rfl⟩
theorem Ku(c:Int)(a:av)(w:ag):am 138 #[ae none 0 0,ab 0,ab 0,ab c,a] w λe w'=>e=.returned (.tuple #[])/\w'=w:=by
 have b:=ve a;go_enter func138,ntmps138;go_wp2_with fail;refine kZ 1 ?_;rw[iI];go_wp2_with fail;refine(b _).mono ?_;rintro e w' ⟨rfl,rfl⟩;go_wp2_with fail;exact az (v:=.tuple #[]) (by simp[results]) rfl ⟨rfl,rfl⟩
theorem vV(a:av)(w:ag):am 94 #[ae none 0 0,a] w λe w'=>e=.returned (.tuple #[])/\w'=w:=by
 have b:=Tryz.bits_Len 0;go_enter func94,ntmps94;go_wp2_with fail;refine(b _ (by decide) (by decide)).mono ?_;rintro e w' ⟨rfl,rfl⟩;go_wp2_with fail;refine(Ku _ a _).mono ?_;rintro e w' ⟨rfl,rfl⟩;go_wp2_with fail;exact dn (v:=.tuple #[]) (by simp[results]) rfl ⟨rfl,rfl⟩
theorem Cm(g:Nat)(lb:Array av)(c:∀args w,(callFunc g args).run Tryz.prog w=.ok (.enter g args) w)(a:av)(w:ag)(f:∀l W,ak w W->am g (#[.func (.yield l) #[] #[]]++lb) W λe b=>(∃v,e=.returned v)/\ak W b):am 60 #[.func (.func g) #[] lb,a] w λe w'=>e=.returned (ae none 0 0)/\ak w w':=by
 go_enter func60,ntmps60;go_wp2_with fail;refine(yW g lb c w f).mono ?_;rintro e w' ⟨rfl,d⟩;go_wp2_with fail;refine(vV a _).mono ?_;rintro e h ⟨rfl,rfl⟩;go_wp2_with fail
 go_ret
 exact⟨rfl,d⟩
theorem JV(mo:Option Nat)(w:ag):am 61 #[.map mo] w λe w'=>e=.returned (.func (.func 95) #[] #[aH w.heap.size])/\w'=w.alloc (.cells #[.map mo] 51):=by
 go_enter func61,ntmps61;go_wp2_with fail
 go_ret
 exact⟨rfl,rfl⟩
abbrev wJ:Type:={k:Int×Int // I2 k}
def nr(D:DataW av)(c:List wJ):Prop:=c.Pairwise (λa b=>a≠b)/\∀x,has D x=true ↔∃k∈c,x=kl k.1
def ik(D:DataW av)(left:Lit->Bool)(a:List wJ):Prop:=
 a.Pairwise (λd b=>d≠b)/\(∀k∈a,has D (kl k.1)=true/\left (kl k.1)=false)/\∀c,has D c=true->left c=true\/∃k∈a,c=kl k.1
theorem ik.start(D:DataW av):ik D (has D) []:=⟨List.Pairwise.nil,λ_ a=>(by cases a),λ_ a=>ai a⟩
variable{a:List wJ}
theorem ik.step(e:ik D left a)(k:wJ)(h:left (kl k.1)=true)(l:has D (kl k.1)=true):ik D (λx=>left x && !x.sameKey (kl k.1)) (a++ [k]):=by
 have m:WideAt.IsKeyLit (kl k.1):=dU.key (fp k.2);refine⟨List.pairwise_append.2 ⟨e.1,List.pairwise_singleton _ _,λi j b g d=>?_⟩,λf c=>?_,λx o=>?_⟩
 ·simp only[dS]at g;subst g d;rw[(e.2.1 i j).2]at h;cases h
 ·simp only[dr,dS]at c;rcases c with c|rfl
  ·exact⟨(e.2.1 f c).1,by simp[(e.2.1 f c).2]⟩
  ·exact⟨l,by simp[WideAt.sameKey_self m]⟩
 ·rcases e.2.2 x o with n|⟨f,c,d⟩
  ·by_cases d:x=kl k.1
   ·exact aj ⟨k,by simp,d⟩
   ·exact ai (by simp[n,sameKey_ne d])
  ·exact aj ⟨f,by simp[c],d⟩
theorem ik.done(c:ik D left a)(d:∀x,left x=false):nr D a:=by
 refine⟨c.1,λx=>⟨λf=>?_,?_⟩⟩
 ·rcases c.2.2 x f with b|b
  ·rw[d]at b;cases b
  ·exact b
 ·rintro ⟨k,e,rfl⟩;exact(c.2.1 k e).1
theorem DA(o:Fence)(n:Nat)(hF:o.fn 95)(af:o.round=none)(aC:1<=n)(h b i:Nat)(D:DataW av)(w:ag)(L:h<w.heap.size)(Y:w.cell? ⟨h,0,none⟩=some (.map (some b)))(Z:w.ownsMap Tryz.prog 44 mK b i D):SeqStopsK o n Tryz.prog 95 #[aH h] (λx:wJ=>#[pk x.1]) KeepsWalks (nr D) (λ_=>True) (Maps.size D) w:=by
 intro l q ap e B t aw Q K;have aa:e.ownsMap Tryz.prog 44 mK b i D:=Z.kept (tM B) (by simp);have aB:e.cell? ⟨h,0,none⟩=some (.map (some b)):=(B.cell (p:=⟨h,0,none⟩) L).trans Y;refine callsIn_of_wp func95 rfl hF ?_ af;simp only[ntmps95,dT,br,iC,Nat.reduceAdd,Nat.reduceSub,pn,pq,pC,pu,jO,eL]
 gi_wp2_with (first
  | (gi_at_range;refine wpListIn_range_own _ rfl _ 51 rfl 44 29 dU underlying51 _ b i _ rfl aa ?_;intro an ad S aD)
  | gi_in)
 try go_frame
 gi_loopw [3] (λ_ wr=>∃(left:Lit->Bool)(r:Nat)(a:List wJ),wr.ranges Tryz.prog 44 mK b e.heap.size i D left r/\a.length+r<=Maps.size D/\(ik D left a/\∀x,left x=true->has D x=true)/\q a wr)
  (λ_ wr=>wr.rangeLeft b e.heap.size)
 case atStart=>
  exact⟨_,_,[],ad,by simp,⟨ik.start D,λ_ J=>J⟩,t [] e an none K S (λH d=>by cases d)⟩
 case round=>
  obtain⟨left,r,a,z,aA,m,A⟩:=hrel
  gi_wp2_with (first
   | (gi_at_next;refine wpListIn_next_ranges _ rfl _ rfl 44 dU mK pk id (λkey kl T=>by obtain⟨k,_,d,_⟩:=JU T;exact⟨k,d⟩) (λv aG al=>⟨v,rfl⟩) b e.heap.size i _ _ _ rfl z ?_ ?_)
   | gi_in)
  ·intro ay W
   gi_wp2
   exact dn (v:=.tuple #[]) (by simp[results]) rfl ⟨⟨_,rfl⟩,ai ⟨a,m.1.done W,A⟩⟩
  ·intro f g c aE aI aJ j I V E al ax ae X C ah R;obtain⟨k,y,s,rfl⟩:=JU V;obtain rfl:(f,g)=k:=by
    simp only[pk,Value.agg.injEq,Array.mk.injEq,kN,Value.int.injEq,true_and,and_true]at s;exact fC s.1 s.2
   have N:q a j:=t a wr j (some e.heap.size) A C (λH d=>by cases d;exact⟨ao _,z.iter_walk⟩);have O:q a (j.alloc (.cells #[ab f,ab g] 44)):=t a j _ none N (cX j _ none) (λH d=>by cases d);have ak:=m.1.step ⟨(f,g),y⟩ E (m.2 _ E);have M:=m.2;obtain⟨fn,aF,ar,au,am,P⟩:=Q a ⟨(f,g),y⟩ _ O (by omega);simp only[pk]at R am ⊢;clear ah C
   gi_wp2
   refine P.mono ?_;rintro d aq (⟨rfl,u,U⟩|⟨rfl,u⟩)
   ·gi_wp2
    have F:=(ae.alloc (.cells #[ab f,ab g] 44)).of_walks U;go_roundw
    case rel=>exact⟨_,I,a++ [⟨(f,g),y⟩],F,by simp;omega,⟨ak,λx G=>M x (by simp at G;exact G.1)⟩,u⟩
    case measure=>rw[F.left_eq,z.left_eq];exact X
   ·gi_wp2
    exact az (v:=.tuple #[]) (by simp[results]) rfl ⟨⟨_,rfl⟩,aj ⟨_,trivial,u⟩⟩
def fq(l:List wJ):List av:=l.flatMap λk=> [ab k.1.1,ab k.1.2]
theorem vJ(l r:List wJ):fq (l++r)=fq l++fq r:=by simp[fq]
theorem JR:(Tryz.prog.info? 44).map (λi=>(i.zero,i.size,i.bytes))=some (some (.agg #[ab 0,ab 0]),2,16):=by kernel_rfl
theorem Jd{β:Type}(B:Nat)(t:TypeId)(u v:av):Own (λ(_:β) W=>W.heap[B]?=some (.cells #[u,v] t (0,0))):=λ_ h i row a d g=>by
 have f:=(aJ.1 a).1;refine(d.block B f λe=>?_).trans a;obtain⟨o,b,c⟩:=g B e.symm;rw[a]at b;cases b;cases c
theorem FT(j:Fence)(n:Nat)(hF:j.fn 137)(E:j.round=none)(aI:2<=n)(g:Nat)(lb:Array av)(T:j.fn g)(O:∀args w,(callFunc g args).run Tryz.prog w=.ok (.enter g args) w)(S:List wJ->Prop)(N:Nat)(aE:N<=1000000)(w:ag)(aa:SeqStopsK j (n-1) Tryz.prog g lb (λx:wJ=>#[pk x.1]) KeepsWalks S (λ_=>True) N w):CallsIn j n Tryz.prog 137 #[ae none 0 0,.func (.func g) #[] lb] w λe w'=>∃(v:av)(u:List wJ),e=.returned v/\S u/\w'.ownsRow w.heap.size 44 2 v u.length (fq u)/\ak w w':=by
 obtain⟨am,Z,af,aj,al⟩:=bW JR;have Q:1<=n:=by omega
 refine callsIn_of_wp_marks func137 rfl hF ?_ E;simp only[ntmps137,dT,br,iC,Nat.reduceAdd,Nat.reduceSub,pn,pq,pC,pu,jO,eL]
 gi_wp2
 obtain⟨h,k⟩:∃h,w.alloc (.cells #[ae none 0 0] 43)=h:=⟨_,rfl⟩;have aL:h.heap.size=w.heap.size+1:=by rw[<-k];simp
 have ad:Boxed h w.heap.size 43 (ae none 0 0):=by rw[<-k];exact Boxed.new w _ _
 have C:ak w h:=by rw[<-k];exact(aq _ w).alloc (ao _) _
 rw[k];clear k
 refine wpIn_rangeFunc_ownH E Q (gf:=g) (lb:=lb) rfl T O aa walksK_t (walksK_b (w:=h)) C (λ_=>rfl)
  (λpre a=>(∃v,Boxed a w.heap.size 43 v/\a.ownsRow w.heap.size 44 2 v pre.length (fq pre)/\True)/\ak w a)
  (λ_ _ _=>False)
  (OwnFrom.and (Own.from (holdsRow_own w.heap.size w.heap.size 43 44 2 (λpre:List wJ=>pre.length) (λpre=>fq pre) (λ_ _=>True)) _) (ownFrom_below (ao _) (by omega)))
  (λ_ _ _ _ _ s _ _=>s)
  ⟨⟨_,ad,⟨by simp[fq],ai ⟨rfl,rfl⟩⟩,trivial⟩,C⟩
  (λx p a=>∃Bx,w.heap.size<Bx/\a.heap[Bx]?=some (.cells #[ab x.1.1,ab x.1.2] 44 (0,0))/\p={tmps:= #[ae none 0 0,.func (.func g) #[] lb,aH w.heap.size,undef,ae none 0 0,aH Bx,.func (.func g) #[] lb,pk x.1,undef,undef,undef,undef,undef],defers:=[]})
  (λx p _ G H row s W b=>by obtain⟨Bx,an,ap,ar⟩:=s;exact⟨Bx,an,Jd (β:=Unit) Bx _ _ _ () G H row ap W (λF e=>(b F e).2),ar⟩)
  ?assign ?body ?done ?stop
 case assign=>
  rintro l pre x a ax ⟨⟨v,d,b,_⟩,f⟩ B;simp only[pk]at B ⊢
  gi_wp2_with (rw[Oper.semAt_eq _ _ _ (λc q=>by cases q)];go_simp;try go_bits)
  refine B _ _ ((KeepsOthers.alloc _ _).from _) (KeepsOthers.alloc _ _).walks ⟨⟨v,d.alloc _,b.alloc _,trivial⟩,f.alloc f.size _⟩ ⟨a.heap.size,d.lt,World.alloc_heap_new a _,rfl⟩
 case body=>
  rintro l pre x p a aF ⟨F,aK⟩ ⟨⟨v,d,b,_⟩,f⟩ ⟨Bx,aD,A,rfl⟩ aG;have L:=d.cell;have aB:=d.frozen;have aN:a.cell? ⟨Bx,0,none⟩=some (ab x.1.1):=ah A 0;have aO:a.cell? ⟨Bx,1,none⟩=some (ab x.1.2):=ah A 1;simp only[pk]
  gi_wp2_with (first
   | (gi_at_builtin;refine wpListIn_append_own _ rfl _ _ 43 rfl w.heap.size 44 am _ 2 16 underlying43 Z af aj al rfl (by decide) _ _ _ rfl (b.alloc _) ⟨a.heap.size,0,none⟩ 1 1 [ab x.1.1,ab x.1.2] rfl rfl (World.news_of_block (cs:= #[ab x.1.1,ab x.1.2]) (t:=44) (fr:=(0,0)) (World.alloc_heap_new a _)) (by simp[Value.oneCell']) (by unfold maxLen;omega) (by omega) (by have:=f.size;simp;omega) ?_;intro au aM D Y aJ
      obtain⟨i,m,rfl⟩:∃i m,au=ae (some ⟨i,0,none⟩) (pre.length+1) m:=by
       rcases D.2 with⟨_,P⟩|⟨i,m,aA,e,_⟩
       ·exact absurd P (by omega)
       ·exact⟨i,m,e⟩
      obtain⟨y,I,J,z,K⟩:=d.appended (by decide) b f.size (ao _) D Y;have ay:=y.cell;have aC:=y.frozen
      go_frame)
   | (rw[Oper.semAt_eq _ _ _ (λc q=>by cases q)];go_simp;try go_bits))
  refine⟨z.from _,z.walks,⟨_,I,?_,trivial⟩,f.trans (K.mono (ao _))⟩;rw[vJ,bw];exact J
 case done=>
  rintro o aw a R U ⟨⟨v,d,b,_⟩,f⟩ r;have L:=d.cell
  gi_wp2
  refine⟨by simp,.inl ⟨_,_,rfl,run_takeDeferred r,?_⟩⟩;refine⟨_,results_tmp rfl _ _ _,v,aw,rfl,U,b.kept (grownBy_putObj' _ _ _) ?_,f.trans ((qz a o _ w.heap.size (by omega)).mono (ao _))⟩;rcases b.2 with⟨rfl,_⟩|⟨i,cap,az,rfl,_,X,_⟩
  ·exact .inl rfl
  ·refine .inr λM=>?_;have:i=o:=by simpa [Value.ownBlock]using M
   subst this;rw[X]at r;cases r
 case stop=>
  rintro o c pre a R _ V;exact V.elim
def Pz(a b:Int):Int:=if a=0 then b else a
def jx(x y:Int×Int):Int:=Pz (lG x.1 y.1) (lG x.2 y.2)
theorem Oo(a b:Int)(q:Nat)(w:ag)(f:w.cell? ⟨q,0,none⟩=some (ab a))(g:w.cell? ⟨q,1,none⟩=some (ab b)):am 96 #[ae (some ⟨q,0,none⟩) 2 2] w λe w'=>e=.returned (ab (Pz a b))/\w'=w:=by
 unfold Pz;by_cases c:a=0
 ·subst c;rw[if_pos rfl];by_cases d:b=0
  ·subst d;go_enter func96,ntmps96;go_wp2_with fail;refine kZ 3 ?_;rw[iI];go_wp2_with fail;rw[iI];go_wp2_with fail;rw[iI];go_wp2_with fail
   go_ret
   exact⟨rfl,rfl⟩
  ·have i:¬(0:Int)=b:=λe=>d e.symm;go_enter func96,ntmps96;go_wp2_with fail;refine kZ 3 ?_;rw[iI];go_wp2_with fail;rw[iI];go_wp2_with fail
   go_ret
   exact⟨rfl,rfl⟩
 ·have h:¬(0:Int)=a:=λe=>c e.symm;rw[if_neg c];go_enter func96,ntmps96;go_wp2_with fail;refine kZ 3 ?_;rw[iI];go_wp2_with fail
  go_ret
  exact⟨rfl,rfl⟩
theorem EI(x y:Int×Int)(w:ag):am 62 #[.agg #[ab x.1,ab x.2],.agg #[ab y.1,ab y.2]] w λe w'=>e=.returned (ab (jx x y))/\∃q os,w'=Sort.grow (w.drewN q) os:=by
 obtain⟨f,g⟩:=x;obtain⟨y0,y1⟩:=y;go_enter func62,ntmps62;go_wp2_with fail;obtain⟨wr,j⟩:∃wr,wr=(w.alloc (.cells #[ab f,ab g] 44)).alloc (.cells #[ab y0,ab y1] 44):=⟨_,rfl⟩;obtain⟨c,p⟩:∃c,c=w.heap.size:=⟨_,rfl⟩;obtain⟨d,r⟩:∃d,d=w.heap.size+1:=⟨_,rfl⟩;rw[<-j,<-r,<-p];have m:wr.heap[c]?=some (.cells #[ab f,ab g] 44):=by
  rw[j,p];exact(((aq _ _).alloc (ao _) _).block w.heap.size (by simp)).trans (aF w _)
 have n:wr.heap[d]?=some (.cells #[ab y0,ab y1] 44):=by
  rw[j,r];have k:=aF (w.alloc (.cells #[ab f,ab g] 44)) (.cells #[ab y0,ab y1] 44);have e:(w.alloc (.cells #[ab f,ab g] 44)).heap.size=w.heap.size+1:=by simp
  rwa [e]at k
 have z:Hid (∀o,(wr.alloc o).drew=Sort.grow (w.drewN 1) #[.cells #[ab f,ab g] 44,.cells #[ab y0,ab y1] 44,o]):=λo=>by
  rw[j,Sort.alloc_eq_grow,Sort.alloc_eq_grow,Sort.alloc_eq_grow,Sort.grow_grow,Sort.grow_grow];rfl
 have l:Hid (∀a:ag,(∀b,b<wr.heap.size->a.heap[b]?=wr.heap[b]?)->(a.cell? ⟨c,0,none⟩=some (ab f)/\a.cell? ⟨c,1,none⟩=some (ab g))/\a.cell? ⟨d,0,none⟩=some (ab y0)/\a.cell? ⟨d,1,none⟩=some (ab y1)):=λa v=>by
  have t:=(v c (aJ.1 m).1).trans m;have u:=(v d (aJ.1 n).1).trans n;exact⟨⟨ah t 0,ah t 1⟩,ah u 0,ah u 1⟩
 have s:Hid (∀h i:av,((wr.alloc (.cells #[h,i] 3)).drew.cell? ⟨wr.heap.size,0,none⟩=some h/\(wr.alloc (.cells #[h,i] 3)).drew.cell? ⟨wr.heap.size,1,none⟩=some i)):=λh i=>by
  have k:=aF wr (.cells #[h,i] 3);exact⟨ah (w:=(wr.alloc (.cells #[h,i] 3)).drew) k 0,ah (w:=(wr.alloc (.cells #[h,i] 3)).drew) k 1⟩
 obtain⟨⟨B,C⟩,D,E⟩:=l.out wr (λ_ _=>rfl);clear j p r m n;go_wp2_with fail
 go_region_held3 (λa=>(a.cell? ⟨c,0,none⟩=some (ab f)/\a.cell? ⟨c,1,none⟩=some (ab g))/\a.cell? ⟨d,0,none⟩=some (ab y0)/\a.cell? ⟨d,1,none⟩=some (ab y1))
  (first|(go_keep;done)|exact l _ (λ_ _=>rfl)|exact l _ (λb A=>((aq wr.heap.size wr).alloc (ao _) _).block b A)) ((first
   | (go_at_call 97;refine(rn _ _ _).mono ?_;rintro e w' ⟨rfl,rfl⟩)
   | (go_at_call 96;refine(Oo (lG f y0) (lG g y1) wr.heap.size _ (s _ _).1 (s _ _).2).mono ?_;rintro e w' ⟨rfl,rfl⟩)))
 all_goals
  go_wp2_with fail
  go_ret
  exact⟨rfl,1,_,z _⟩
theorem L5(x y:Int×Int):jx x y<0 ↔ x.1<y.1\/x.1=y.1/\x.2<y.2:=by
 unfold jx Pz lG;split<;>split<;>(try split)<;>(try split)<;>(try split)<;>omega
end Go.Proofs.YtmmahddlcldmiaaGreat
