/- Proved here: plain facts and contracts. No condition but what each names. -/
import Derived.Test.YtmmahddlcldmiaaGreatJ08
import Derived.RangeFuncNested
import Derived.RangeFuncLeaves
import Derived.OwnWalkIn
import Derived.TacticsInMore
import Derived.LoopNIn
import Derived.LoopIn
import Derived.Sort.MapsRangeIn
import Derived.Sort.Grow
namespace Go.Proofs.YtmmahddlcldmiaaGreat
open Go.RowKit Go.Maps Go.Proofs.Tryz
set_option maxRecDepth 100000
set_option maxHeartbeats 2000000
theorem qu(W:World)(l:Nat)(o:Obj)(B:Nat)(b:B<=l):Below B W (W.putObj l o):=
 ⟨rfl,rfl,rfl,by simp,λk a=>World.putObj_heap_other (by omega)⟩
theorem DZ{P:Program}{t:Tmp}{ps:Array Tmp}{assign body:Code}{Q:Exit->Act->World->Prop}{a:Act}{w:World}(gf:Nat)(lb:Array Value)(s:a.tmps[t]?.getD undef=.func (.func gf) #[] lb)(j:∀args w,(callFunc gf args).run P w=.ok (.enter gf args) w)(u:∀l W,aj w W->Calls P gf (#[.func (.yield l) #[] #[]]++lb) W λe h=>(∃v,e=.returned v)/\aj W h)(o:∀d,aj w d->d.heap[w.heap.size]?=some (.deferred (some []))->Q .normal {a with defers:=[{target:=.collected w.heap.size,args:= #[]}]++a.defers} d):(Code.rangeFunc (.tmp t) ps assign body).wpIn Fence.wide 5 P Q a w:=by
 refine wpIn_rangeFunc ?_;intro fn z;obtain⟨b,c⟩:∃b,(w.alloc (.deferred (some []))).alloc (.loop {state:=.ready,pending:=none,fn,tmps:=a.tmps,params:=ps,assign,body,defers:=w.heap.size})=b:=⟨_,rfl⟩;have f:aj w b:=by rw[<-c];exact((ao _ _).alloc (am _) _).alloc (by simp) _
 have A:b.heap.size=w.heap.size+2:=by rw[<-c];simp
 have p:b.heap[w.heap.size+1]?=some (.loop {state:=.ready,pending:=none,fn,tmps:=a.tmps,params:=ps,assign,body,defers:=w.heap.size}):=by
  rw[<-c];have:=World.alloc_heap_new (w.alloc (.deferred (some []))) (.loop {state:=.ready,pending:=none,fn,tmps:=a.tmps,params:=ps,assign,body,defers:=w.heap.size});rwa [iB]at this
 have m:b.heap[w.heap.size]?=some (.deferred (some [])):=by rw[<-c];exact(Below.heap_alloc _ _ _ (by simp)).trans (World.alloc_heap_new w _)
 refine⟨w.heap.size+1,[{target:=.collected w.heap.size,args:= #[]}],b,{target:=.fn (.func gf) lb,args:= #[.func (.yield (w.heap.size+1)) #[] #[]]},b,gf, #[.func (.yield (w.heap.size+1)) #[] #[]]++lb,b,?_,?_,?_,?_,λ_=>by omega,?_⟩
 ·rw[<-c];exact run_enterLoop_outer _ _ _ _ _
 ·simp[resolve,go_sem,s]
 ·intro x y;trivial
 ·simp[invoke,go_sem,j]
 ·refine(kR.2 (u (w.heap.size+1) b f)).mono ?_;rintro e i ⟨⟨B,rfl⟩,g⟩;have q:=(g.block (w.heap.size+1) (by omega)).trans p;have n:=(g.block w.heap.size (by omega)).trans m;have r:=run_endLoop (P:=P) q (by simp);refine⟨none,_,r,?_⟩;have k:=f.trans (g.mono f.size);exact o _ (k.trans ((qu i (w.heap.size+1) _ w.heap.size (by omega)).mono (am _))) ((World.putObj_heap_other (by omega)).trans n)
theorem Aw(g:Nat)(lb:Array Value)(k:∀args w,(callFunc g args).run Tryz.prog w=.ok (.enter g args) w)(w:World)(q:∀l W,aj w W->ak g (#[.func (.yield l) #[] #[]]++lb) W λe j=>(∃v,e=.returned v)/\aj W j):ak 137 #[ae none 0 0,.func (.func g) #[] lb] w λe w'=>e=.returned (ae none 0 0)/\aj w w':=by
 refine(kR (n:=5)).1 ?_;refine callsIn_of_wp_marks func137 rfl trivial ?_ rfl;simp only[ntmps137,dO,bi,iw,Nat.reduceAdd,Nat.reduceSub,pe,pf,pw,pj,jJ,eG]
 gi_wp2
 obtain⟨a,b⟩:∃a,w.alloc (.cells #[ae none 0 0] 43)=a:=⟨_,rfl⟩;have h:a.heap.size=w.heap.size+1:=by rw[<-b];simp
 have r:a.heap[w.heap.size]?=some (.cells #[ae none 0 0] 43 (0,0)):=by rw[<-b];exact World.alloc_heap_new w _
 have c:aj w a:=by rw[<-b];exact(ao _ w).alloc (am _) _
 rw[b];refine DZ g lb rfl k (λl W o=>q l W (c.trans (o.mono c.size))) ?_;intro d f m;have s:d.cell? ⟨w.heap.size,0,none⟩=some (ae none 0 0):=ag ((f.block w.heap.size (by omega)).trans r) 0;have p:=c.trans (f.mono c.size);have i:=ap h;clear h b
 gi_wp2
 refine⟨by simp,.inl ⟨_,_,rfl,run_takeDeferred m,?_⟩⟩;exact⟨_,results_tmp rfl _ _ _,rfl,p.trans ((qu d a.heap.size _ w.heap.size (by rw[i.out];omega)).mono (am _))⟩
theorem tH{w w':World}(a:aj w w'):w.grownBy w' none:=⟨a.os,a.tape,a.output,a.size,λk b _=>a.block k b⟩
theorem yR(g:Nat)(lb:Array Value)(b:∀args w,(callFunc g args).run Tryz.prog w=.ok (.enter g args) w)(w:World)(d:∀l W,aj w W->ak g (#[.func (.yield l) #[] #[]]++lb) W λe a=>(∃v,e=.returned v)/\aj W a):ak 93 #[.func (.func g) #[] lb] w λe w'=>e=.returned (ae none 0 0)/\aj w w':=by
 go_enter func93,ntmps93;go_wp2_with fail;refine(Aw g lb b w d).mono ?_;rintro e w' ⟨rfl,c⟩;go_wp2_with fail
 go_ret
 exact⟨rfl,c⟩
theorem uX(a:Value)(w:World):ak 168 #[ae none 0 0,ab 0,ab 0,a] w λe w'=>e=.returned (.tuple #[])/\w'=w:=by
 go_enter func168,ntmps168;go_wp2_with fail;refine kT 1 ?_;rw[iD];go_wp2_with fail;exact dh (v:=.tuple #[]) (by simp[results]) rfl ⟨rfl,rfl⟩
theorem Kp(c:Int)(a:Value)(w:World):ak 138 #[ae none 0 0,ab 0,ab 0,ab c,a] w λe w'=>e=.returned (.tuple #[])/\w'=w:=by
 have b:=uX a;go_enter func138,ntmps138;go_wp2_with fail;refine kT 1 ?_;rw[iD];go_wp2_with fail;refine(b _).mono ?_;rintro e w' ⟨rfl,rfl⟩;go_wp2_with fail;exact av (v:=.tuple #[]) (by simp[results]) rfl ⟨rfl,rfl⟩
theorem vQ(a:Value)(w:World):ak 94 #[ae none 0 0,a] w λe w'=>e=.returned (.tuple #[])/\w'=w:=by
 have b:=Tryz.bits_Len 0;go_enter func94,ntmps94;go_wp2_with fail;refine(b _ (by decide) (by decide)).mono ?_;rintro e w' ⟨rfl,rfl⟩;go_wp2_with fail;refine(Kp _ a _).mono ?_;rintro e w' ⟨rfl,rfl⟩;go_wp2_with fail;exact dh (v:=.tuple #[]) (by simp[results]) rfl ⟨rfl,rfl⟩
theorem Cg(g:Nat)(lb:Array Value)(c:∀args w,(callFunc g args).run Tryz.prog w=.ok (.enter g args) w)(a:Value)(w:World)(f:∀l W,aj w W->ak g (#[.func (.yield l) #[] #[]]++lb) W λe b=>(∃v,e=.returned v)/\aj W b):ak 60 #[.func (.func g) #[] lb,a] w λe w'=>e=.returned (ae none 0 0)/\aj w w':=by
 go_enter func60,ntmps60;go_wp2_with fail;refine(yR g lb c w f).mono ?_;rintro e w' ⟨rfl,d⟩;go_wp2_with fail;refine(vQ a _).mono ?_;rintro e h ⟨rfl,rfl⟩;go_wp2_with fail
 go_ret
 exact⟨rfl,d⟩
theorem JQ(a:Option Nat)(w:World):ak 61 #[.map a] w λe w'=>e=.returned (.func (.func 95) #[] #[aC w.heap.size])/\w'=w.alloc (.cells #[.map a] 51):=by
 go_enter func61,ntmps61;go_wp2_with fail
 go_ret
 exact⟨rfl,rfl⟩
abbrev wE:Type:={k:Int×Int // I2 k}
def ng(D:DataW Value)(c:List wE):Prop:=c.Pairwise (λa b=>a≠b)/\∀x,has D x=true ↔∃k∈c,x=kl k.1
def ic(D:DataW Value)(left:Lit->Bool)(a:List wE):Prop:=
 a.Pairwise (λd b=>d≠b)/\(∀k∈a,has D (kl k.1)=true/\left (kl k.1)=false)/\∀c,has D c=true->left c=true\/∃k∈a,c=kl k.1
theorem ic.start(D:DataW Value):ic D (has D) []:=⟨List.Pairwise.nil,λ_ a=>(by cases a),λ_ a=>ah a⟩
theorem ic.step{D:DataW Value}{left:Lit->Bool}{h:List wE}(d:ic D left h)(k:wE)(g:left (kl k.1)=true)(l:has D (kl k.1)=true):ic D (λx=>left x && !x.sameKey (kl k.1)) (h++ [k]):=by
 have m:WideAt.IsKeyLit (kl k.1):=dP.key (fj k.2);refine⟨List.pairwise_append.2 ⟨d.1,List.pairwise_singleton _ _,λi j b f c=>?_⟩,λe a=>?_,λx o=>?_⟩
 ·simp only[dN]at f;subst f c;rw[(d.2.1 i j).2]at g;cases g
 ·simp only[dl,dN]at a;rcases a with a|rfl
  ·exact⟨(d.2.1 e a).1,by simp[(d.2.1 e a).2]⟩
  ·exact⟨l,by simp[WideAt.sameKey_self m]⟩
 ·rcases d.2.2 x o with n|⟨e,a,c⟩
  ·by_cases c:x=kl k.1
   ·exact ai ⟨k,by simp,c⟩
   ·exact ah (by simp[n,sameKey_ne c])
  ·exact ai ⟨e,by simp[a],c⟩
theorem ic.done{D:DataW Value}{left:Lit->Bool}{c:List wE}(b:ic D left c)(d:∀x,left x=false):ng D c:=by
 refine⟨b.1,λx=>⟨λf=>?_,?_⟩⟩
 ·rcases b.2.2 x f with a|a
  ·rw[d]at a;cases a
  ·exact a
 ·rintro ⟨k,e,rfl⟩;exact(b.2.1 k e).1
theorem Dv(o:Fence)(n:Nat)(hF:o.fn 95)(af:o.round=none)(aA:1<=n)(h b i:Nat)(D:DataW Value)(w:World)(L:h<w.heap.size)(Y:w.cell? ⟨h,0,none⟩=some (.map (some b)))(Z:w.ownsMap Tryz.prog 44 mF b i D):SeqStopsK o n Tryz.prog 95 #[aC h] (λx:wE=>#[pk x.1]) KeepsWalks (ng D) (λ_=>True) (Maps.size D) w:=by
 intro l q ao e B t au Q K;have aa:e.ownsMap Tryz.prog 44 mF b i D:=Z.kept (tH B) (by simp);have az:e.cell? ⟨h,0,none⟩=some (.map (some b)):=(B.cell (p:=⟨h,0,none⟩) L).trans Y;refine callsIn_of_wp func95 rfl hF ?_ af;simp only[ntmps95,dO,bi,iw,Nat.reduceAdd,Nat.reduceSub,pe,pf,pw,pj,jJ,eG]
 gi_wp2_with (first
  | (gi_at_range;refine wpListIn_range_own _ rfl _ 51 rfl 44 29 dP underlying51 _ b i _ rfl aa ?_;intro an ad S aB)
  | gi_in)
 try go_frame
 gi_loopw [3] (λ_ wr=>∃(left:Lit->Bool)(r:Nat)(a:List wE),wr.ranges Tryz.prog 44 mF b e.heap.size i D left r/\a.length+r<=Maps.size D/\(ic D left a/\∀x,left x=true->has D x=true)/\q a wr)
  (λ_ wr=>wr.rangeLeft b e.heap.size)
 case atStart=>
  exact⟨_,_,[],ad,by simp,⟨ic.start D,λ_ J=>J⟩,t [] e an none K S (λH d=>by cases d)⟩
 case round=>
  obtain⟨left,r,a,z,ay,m,A⟩:=hrel
  gi_wp2_with (first
   | (gi_at_next;refine wpListIn_next_ranges _ rfl _ rfl 44 dP mF pk id (λkey kl T=>by obtain⟨k,_,d,_⟩:=JP T;exact⟨k,d⟩) (λv aF ak=>⟨v,rfl⟩) b e.heap.size i _ _ _ rfl z ?_ ?_)
   | gi_in)
  ·intro ax W
   gi_wp2
   exact dh (v:=.tuple #[]) (by simp[results]) rfl ⟨⟨_,rfl⟩,ah ⟨a,m.1.done W,A⟩⟩
  ·intro f g c aD aG aH j I V E ak aw ae X C ag R;obtain⟨k,y,s,rfl⟩:=JP V;obtain rfl:(f,g)=k:=by
    simp only[pk,Value.agg.injEq,Array.mk.injEq,kI,Value.int.injEq,true_and,and_true]at s;exact fw s.1 s.2
   have N:q a j:=t a wr j (some e.heap.size) A C (λH d=>by cases d;exact⟨am _,z.iter_walk⟩);have O:q a (j.alloc (.cells #[ab f,ab g] 44)):=t a j _ none N (cR j _ none) (λH d=>by cases d);have aj:=m.1.step ⟨(f,g),y⟩ E (m.2 _ E);have M:=m.2;obtain⟨fn,aE,aq,ar,al,P⟩:=Q a ⟨(f,g),y⟩ _ O (by omega);simp only[pk]at R al ⊢;clear ag C
   gi_wp2
   refine P.mono ?_;rintro d ap (⟨rfl,u,U⟩|⟨rfl,u⟩)
   ·gi_wp2
    have F:=(ae.alloc (.cells #[ab f,ab g] 44)).of_walks U;go_roundw
    case rel=>exact⟨_,I,a++ [⟨(f,g),y⟩],F,by simp;omega,⟨aj,λx G=>M x (by simp at G;exact G.1)⟩,u⟩
    case measure=>rw[F.left_eq,z.left_eq];exact X
   ·gi_wp2
    exact av (v:=.tuple #[]) (by simp[results]) rfl ⟨⟨_,rfl⟩,ai ⟨_,trivial,u⟩⟩
def fk(l:List wE):List Value:=l.flatMap λk=> [ab k.1.1,ab k.1.2]
theorem vE(l r:List wE):fk (l++r)=fk l++fk r:=by simp[fk]
theorem JM:(Tryz.prog.info? 44).map (λi=>(i.zero,i.size,i.bytes))=some (some (.agg #[ab 0,ab 0]),2,16):=by kernel_rfl
theorem I8{β:Type}(B:Nat)(t:TypeId)(u v:Value):Own (λ(_:β) W=>W.heap[B]?=some (.cells #[u,v] t (0,0))):=λ_ h i row a d g=>by
 have f:=(aF.1 a).1;refine(d.block B f λe=>?_).trans a;obtain⟨o,b,c⟩:=g B e.symm;rw[a]at b;cases b;cases c
theorem FO(j:Fence)(n:Nat)(hF:j.fn 137)(E:j.round=none)(aG:2<=n)(g:Nat)(lb:Array Value)(T:j.fn g)(O:∀args w,(callFunc g args).run Tryz.prog w=.ok (.enter g args) w)(S:List wE->Prop)(N:Nat)(aD:N<=1000000)(w:World)(aa:SeqStopsK j (n-1) Tryz.prog g lb (λx:wE=>#[pk x.1]) KeepsWalks S (λ_=>True) N w):CallsIn j n Tryz.prog 137 #[ae none 0 0,.func (.func g) #[] lb] w λe w'=>∃(v:Value)(u:List wE),e=.returned v/\S u/\w'.ownsRow w.heap.size 44 2 v u.length (fk u)/\aj w w':=by
 obtain⟨al,Z,af,ai,ak⟩:=bR JM;have Q:1<=n:=by omega
 refine callsIn_of_wp_marks func137 rfl hF ?_ E;simp only[ntmps137,dO,bi,iw,Nat.reduceAdd,Nat.reduceSub,pe,pf,pw,pj,jJ,eG]
 gi_wp2
 obtain⟨h,k⟩:∃h,w.alloc (.cells #[ae none 0 0] 43)=h:=⟨_,rfl⟩;have aJ:h.heap.size=w.heap.size+1:=by rw[<-k];simp
 have ad:Boxed h w.heap.size 43 (ae none 0 0):=by rw[<-k];exact Boxed.new w _ _
 have C:aj w h:=by rw[<-k];exact(ao _ w).alloc (am _) _
 rw[k];clear k
 refine wpIn_rangeFunc_ownH E Q (gf:=g) (lb:=lb) rfl T O aa walksK_t (walksK_b (w:=h)) C (λ_=>rfl)
  (λpre a=>(∃v,Boxed a w.heap.size 43 v/\a.ownsRow w.heap.size 44 2 v pre.length (fk pre)/\True)/\aj w a)
  (λ_ _ _=>False)
  (OwnFrom.and (Own.from (holdsRow_own w.heap.size w.heap.size 43 44 2 (λpre:List wE=>pre.length) (λpre=>fk pre) (λ_ _=>True)) _) (ownFrom_below (am _) (by omega)))
  (λ_ _ _ _ _ s _ _=>s)
  ⟨⟨_,ad,⟨by simp[fk],ah ⟨rfl,rfl⟩⟩,trivial⟩,C⟩
  (λx p a=>∃Bx,w.heap.size<Bx/\a.heap[Bx]?=some (.cells #[ab x.1.1,ab x.1.2] 44 (0,0))/\p={tmps:= #[ae none 0 0,.func (.func g) #[] lb,aC w.heap.size,undef,ae none 0 0,aC Bx,.func (.func g) #[] lb,pk x.1,undef,undef,undef,undef,undef],defers:=[]})
  (λx p _ G H row s W b=>by obtain⟨Bx,an,ap,aq⟩:=s;exact⟨Bx,an,I8 (β:=Unit) Bx _ _ _ () G H row ap W (λF e=>(b F e).2),aq⟩)
  ?assign ?body ?done ?stop
 case assign=>
  rintro l pre x a av ⟨⟨v,d,b,_⟩,f⟩ B;simp only[pk]at B ⊢
  gi_wp2_with (rw[Oper.semAt_eq _ _ _ (λc q=>by cases q)];go_simp;try go_bits)
  refine B _ _ ((KeepsOthers.alloc _ _).from _) (KeepsOthers.alloc _ _).walks ⟨⟨v,d.alloc _,b.alloc _,trivial⟩,f.alloc f.size _⟩ ⟨a.heap.size,d.lt,World.alloc_heap_new a _,rfl⟩
 case body=>
  rintro l pre x p a aE ⟨F,aI⟩ ⟨⟨v,d,b,_⟩,f⟩ ⟨Bx,aB,A,rfl⟩ aF;have L:=d.cell;have az:=d.frozen;have aL:a.cell? ⟨Bx,0,none⟩=some (ab x.1.1):=ag A 0;have aM:a.cell? ⟨Bx,1,none⟩=some (ab x.1.2):=ag A 1;simp only[pk]
  gi_wp2_with (first
   | (gi_at_builtin;refine wpListIn_append_own _ rfl _ _ 43 rfl w.heap.size 44 al _ 2 16 underlying43 Z af ai ak rfl (by decide) _ _ _ rfl (b.alloc _) ⟨a.heap.size,0,none⟩ 1 1 [ab x.1.1,ab x.1.2] rfl rfl (World.news_of_block (cs:= #[ab x.1.1,ab x.1.2]) (t:=44) (fr:=(0,0)) (World.alloc_heap_new a _)) (by simp[Value.oneCell']) (by unfold maxLen;omega) (by omega) (by have:=f.size;simp;omega) ?_;intro ar aK D Y aH
      obtain⟨i,m,rfl⟩:∃i m,ar=ae (some ⟨i,0,none⟩) (pre.length+1) m:=by
       rcases D.2 with⟨_,P⟩|⟨i,m,ay,e,_⟩
       ·exact absurd P (by omega)
       ·exact⟨i,m,e⟩
      obtain⟨y,I,J,z,K⟩:=d.appended (by decide) b f.size (am _) D Y;have aw:=y.cell;have aA:=y.frozen
      go_frame)
   | (rw[Oper.semAt_eq _ _ _ (λc q=>by cases q)];go_simp;try go_bits))
  refine⟨z.from _,z.walks,⟨_,I,?_,trivial⟩,f.trans (K.mono (am _))⟩;rw[vE,bm];exact J
 case done=>
  rintro o au a R U ⟨⟨v,d,b,_⟩,f⟩ r;have L:=d.cell
  gi_wp2
  refine⟨by simp,.inl ⟨_,_,rfl,run_takeDeferred r,?_⟩⟩;refine⟨_,results_tmp rfl _ _ _,v,au,rfl,U,b.kept (grownBy_putObj' _ _ _) ?_,f.trans ((qu a o _ w.heap.size (by omega)).mono (am _))⟩;rcases b.2 with⟨rfl,_⟩|⟨i,cap,ax,rfl,_,X,_⟩
  ·exact .inl rfl
  ·refine .inr λM=>?_;have:i=o:=by simpa [Value.ownBlock]using M
   subst this;rw[X]at r;cases r
 case stop=>
  rintro o c pre a R _ V;exact V.elim
def Pu(a b:Int):Int:=if a=0 then b else a
def js(x y:Int×Int):Int:=Pu (lB x.1 y.1) (lB x.2 y.2)
theorem Oi(a b:Int)(q:Nat)(w:World)(f:w.cell? ⟨q,0,none⟩=some (ab a))(g:w.cell? ⟨q,1,none⟩=some (ab b)):ak 96 #[ae (some ⟨q,0,none⟩) 2 2] w λe w'=>e=.returned (ab (Pu a b))/\w'=w:=by
 unfold Pu;by_cases c:a=0
 ·subst c;rw[if_pos rfl];by_cases d:b=0
  ·subst d;go_enter func96,ntmps96;go_wp2_with fail;refine kT 3 ?_;rw[iD];go_wp2_with fail;rw[iD];go_wp2_with fail;rw[iD];go_wp2_with fail
   go_ret
   exact⟨rfl,rfl⟩
  ·have i:¬(0:Int)=b:=λe=>d e.symm;go_enter func96,ntmps96;go_wp2_with fail;refine kT 3 ?_;rw[iD];go_wp2_with fail;rw[iD];go_wp2_with fail
   go_ret
   exact⟨rfl,rfl⟩
 ·have h:¬(0:Int)=a:=λe=>c e.symm;rw[if_neg c];go_enter func96,ntmps96;go_wp2_with fail;refine kT 3 ?_;rw[iD];go_wp2_with fail
  go_ret
  exact⟨rfl,rfl⟩
theorem ED(x y:Int×Int)(w:World):ak 62 #[.agg #[ab x.1,ab x.2],.agg #[ab y.1,ab y.2]] w λe w'=>e=.returned (ab (js x y))/\∃q os,w'=Sort.grow (w.drewN q) os:=by
 obtain⟨f,g⟩:=x;obtain⟨y0,y1⟩:=y;go_enter func62,ntmps62;go_wp2_with fail;obtain⟨wr,j⟩:∃wr,wr=(w.alloc (.cells #[ab f,ab g] 44)).alloc (.cells #[ab y0,ab y1] 44):=⟨_,rfl⟩;obtain⟨c,p⟩:∃c,c=w.heap.size:=⟨_,rfl⟩;obtain⟨d,r⟩:∃d,d=w.heap.size+1:=⟨_,rfl⟩;rw[<-j,<-r,<-p];have m:wr.heap[c]?=some (.cells #[ab f,ab g] 44):=by
  rw[j,p];exact(((ao _ _).alloc (am _) _).block w.heap.size (by simp)).trans (aA w _)
 have n:wr.heap[d]?=some (.cells #[ab y0,ab y1] 44):=by
  rw[j,r];have k:=aA (w.alloc (.cells #[ab f,ab g] 44)) (.cells #[ab y0,ab y1] 44);have e:(w.alloc (.cells #[ab f,ab g] 44)).heap.size=w.heap.size+1:=by simp
  rwa [e]at k
 have u:Hid (∀o,(wr.alloc o).drew=Sort.grow (w.drewN 1) #[.cells #[ab f,ab g] 44,.cells #[ab y0,ab y1] 44,o]):=λo=>by
  rw[j,Sort.alloc_eq_grow,Sort.alloc_eq_grow,Sort.alloc_eq_grow,Sort.grow_grow,Sort.grow_grow];rfl
 have l:Hid (∀a:World,(∀b,b<wr.heap.size->a.heap[b]?=wr.heap[b]?)->(a.cell? ⟨c,0,none⟩=some (ab f)/\a.cell? ⟨c,1,none⟩=some (ab g))/\a.cell? ⟨d,0,none⟩=some (ab y0)/\a.cell? ⟨d,1,none⟩=some (ab y1)):=λa t=>by
  have f0:=(t c (aF.1 m).1).trans m;have f1:=(t d (aF.1 n).1).trans n;exact⟨⟨ag f0 0,ag f0 1⟩,ag f1 0,ag f1 1⟩
 have s:Hid (∀h i:Value,((wr.alloc (.cells #[h,i] 3)).drew.cell? ⟨wr.heap.size,0,none⟩=some h/\(wr.alloc (.cells #[h,i] 3)).drew.cell? ⟨wr.heap.size,1,none⟩=some i)):=λh i=>by
  have k:=aA wr (.cells #[h,i] 3);exact⟨ag (w:=(wr.alloc (.cells #[h,i] 3)).drew) k 0,ag (w:=(wr.alloc (.cells #[h,i] 3)).drew) k 1⟩
 obtain⟨⟨z,A⟩,B,C⟩:=l.out wr (λ_ _=>rfl);clear j p r m n;go_wp2_with fail
 go_region_held3 (λa=>(a.cell? ⟨c,0,none⟩=some (ab f)/\a.cell? ⟨c,1,none⟩=some (ab g))/\a.cell? ⟨d,0,none⟩=some (ab y0)/\a.cell? ⟨d,1,none⟩=some (ab y1))
  (first|(go_keep;done)|exact l _ (λ_ _=>rfl)|exact l _ (λb v=>((ao wr.heap.size wr).alloc (am _) _).block b v)) ((first
   | (go_at_call 97;refine(rh _ _ _).mono ?_;rintro e w' ⟨rfl,rfl⟩)
   | (go_at_call 96;refine(Oi (lB f y0) (lB g y1) wr.heap.size _ (s _ _).1 (s _ _).2).mono ?_;rintro e w' ⟨rfl,rfl⟩)))
 all_goals
  go_wp2_with fail
  go_ret
  exact⟨rfl,1,_,u _⟩
theorem LW(x y:Int×Int):js x y<0 ↔ x.1<y.1\/x.1=y.1/\x.2<y.2:=by
 unfold js Pu lB;split<;>split<;>(try split)<;>(try split)<;>(try split)<;>omega
end Go.Proofs.YtmmahddlcldmiaaGreat
