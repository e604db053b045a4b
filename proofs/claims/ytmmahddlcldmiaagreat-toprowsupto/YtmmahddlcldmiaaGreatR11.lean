/- Proved here: plain facts and contracts. No condition but what each names. -/
import Derived.Test.YtmmahddlcldmiaaGreatR07
import Derived.RangeFuncNested
import Derived.RangeFuncLeaves
import Derived.OwnWalkIn
import Derived.TacticsInMore
import Derived.LoopNIn
import Derived.LoopIn
import Derived.Sort.MapsRangeIn
import Derived.Sort.Grow
namespace Go.Proofs.YtmmahddlcldmiaaGreat
open Go.RowKit Go.Maps Go.Proofs.Tryz
set_option maxRecDepth 100000
set_option maxHeartbeats 2000000
theorem qO(W:ag)(l:Nat)(o:Obj)(B:Nat)(b:B<=l):Below B W (W.putObj l o):=
 ⟨rfl,rfl,rfl,by simp,λk a=>World.putObj_heap_other (by omega)⟩
theorem EL{P:Program}{t:Tmp}{ps:Array Tmp}{assign body:Code}{Q:Exit->Act->bt}{a:Act}{w:ag}(gf:Nat)(lb:Array au)(s:a.tmps[t]?.getD undef=.func (.func gf) #[] lb)(j:∀args w,(callFunc gf args).run P w=.ok (.enter gf args) w)(u:∀l W,am w W->Calls P gf (#[.func (.yield l) #[] #[]]++lb) W λe h=>(∃v,e=.returned v)/\am W h)(o:∀d,am w d->d.heap[w.heap.size]?=some (.deferred (some []))->Q .normal {a with defers:=[{target:=.collected w.heap.size,args:= #[]}]++a.defers} d):(Code.rangeFunc (.tmp t) ps assign body).wpIn Fence.wide 5 P Q a w:=by
 refine wpIn_rangeFunc ?_;intro fn z;obtain⟨b,c⟩:∃b,(w.alloc (.deferred (some []))).alloc (.loop {state:=.ready,pending:=none,fn,tmps:=a.tmps,params:=ps,assign,body,defers:=w.heap.size})=b:=⟨_,rfl⟩;have f:am w b:=by rw[<-c];exact(aS _ _).alloc (by simp) _
 have A:b.heap.size=w.heap.size+2:=by rw[<-c];simp
 have p:b.heap[w.heap.size+1]?=some (.loop {state:=.ready,pending:=none,fn,tmps:=a.tmps,params:=ps,assign,body,defers:=w.heap.size}):=by
  rw[<-c];have:=World.alloc_heap_new (w.alloc (.deferred (some []))) (.loop {state:=.ready,pending:=none,fn,tmps:=a.tmps,params:=ps,assign,body,defers:=w.heap.size});rwa [ja]at this
 have m:b.heap[w.heap.size]?=some (.deferred (some [])):=by rw[<-c];exact(Below.heap_alloc _ _ _ (by simp)).trans (World.alloc_heap_new w _)
 refine⟨w.heap.size+1,[{target:=.collected w.heap.size,args:= #[]}],b,{target:=.fn (.func gf) lb,args:= #[.func (.yield (w.heap.size+1)) #[] #[]]},b,gf, #[.func (.yield (w.heap.size+1)) #[] #[]]++lb,b,?_,?_,?_,?_,λ_=>by omega,?_⟩
 ·rw[<-c];exact run_enterLoop_outer _ _ _ _ _
 ·simp[resolve,go_sem,s]
 ·intro x y;trivial
 ·simp[invoke,go_sem,j]
 ·refine(lB.2 (u (w.heap.size+1) b f)).mono ?_;rintro e i ⟨⟨B,rfl⟩,g⟩;have q:=(g.block (w.heap.size+1) (by omega)).trans p;have n:=(g.block w.heap.size (by omega)).trans m;have r:=run_endLoop (P:=P) q (by simp);refine⟨none,_,r,?_⟩;have k:=f.trans (g.mono f.size);exact o _ (k.trans ((qO i (w.heap.size+1) _ w.heap.size (by omega)).mono (av _))) ((World.putObj_heap_other (by omega)).trans n)
theorem A6(g:Nat)(lb:Array au)(k:∀args w,(callFunc g args).run Tryz.prog w=.ok (.enter g args) w)(w:ag)(q:∀l W,am w W->ao g (#[.func (.yield l) #[] #[]]++lb) W λe j=>(∃v,e=.returned v)/\am W j):ao 137 #[ae none 0 0,.func (.func g) #[] lb] w λe w'=>e=.returned (ae none 0 0)/\am w w':=by
 refine(lB (n:=5)).1 ?_;refine callsIn_of_wp_marks func137 rfl trivial ?_ rfl;simp only[ntmps137,ew,bA,iU,Nat.reduceAdd,Nat.reduceSub,pH,pI,pR,pN,iy,eW]
 gi_wp2
 obtain⟨a,b⟩:∃a,w.alloc (.cells #[ae none 0 0] 43)=a:=⟨_,rfl⟩;have h:a.heap.size=w.heap.size+1:=by rw[<-b];simp
 have r:a.heap[w.heap.size]?=some (.cells #[ae none 0 0] 43 (0,0)):=by rw[<-b];exact World.alloc_heap_new w _
 have c:am w a:=by rw[<-b];exact(aA _ w).alloc (av _) _
 rw[b];refine EL g lb rfl k (λl W o=>q l W (c.trans (o.mono c.size))) ?_;intro d f m;have s:ai d w.heap.size 0 (ae none 0 0):=ah ((f.block w.heap.size (by omega)).trans r) 0;have p:=c.trans (f.mono c.size);have i:=ap h;clear h b
 gi_wp2
 refine⟨by simp,.inl ⟨_,_,rfl,run_takeDeferred m,?_⟩⟩;exact⟨_,results_tmp rfl _ _ _,rfl,p.trans ((qO d a.heap.size _ w.heap.size (by rw[i.out];omega)).mono (av _))⟩
theorem uj{w w':ag}(a:am w w'):w.grownBy w' none:=⟨a.os,a.tape,a.output,a.size,λk b _=>a.block k b⟩
theorem zH(g:Nat)(lb:Array au)(b:∀args w,(callFunc g args).run Tryz.prog w=.ok (.enter g args) w)(w:ag)(d:∀l W,am w W->ao g (#[.func (.yield l) #[] #[]]++lb) W λe a=>(∃v,e=.returned v)/\am W a):ao 93 #[.func (.func g) #[] lb] w λe w'=>e=.returned (ae none 0 0)/\am w w':=by
 go_enter func93,ntmps93;go_wp2_with fail;refine(A6 g lb b w d).mono ?_;rintro e w' ⟨rfl,c⟩;go_wp2_with fail
 go_ret
 exact⟨rfl,c⟩
theorem vI(a:au)(w:ag):ao 168 #[ae none 0 0,ab 0,ab 0,a] w λe w'=>e=.returned (.tuple #[])/\w'=w:=by
 go_enter func168,ntmps168;go_wp2_with fail;refine lE 1 ?_;rw[jc];go_wp2_with fail;exact dL (v:=.tuple #[]) (by simp[results]) rfl ⟨rfl,rfl⟩
theorem Lj(c:Int)(a:au)(w:ag):ao 138 #[ae none 0 0,ab 0,ab 0,ab c,a] w λe w'=>e=.returned (.tuple #[])/\w'=w:=by
 have b:=vI a;go_enter func138,ntmps138;go_wp2_with fail;refine lE 1 ?_;rw[jc];go_wp2_with fail;refine(b _).mono ?_;rintro e w' ⟨rfl,rfl⟩;go_wp2_with fail;exact ay (v:=.tuple #[]) (by simp[results]) rfl ⟨rfl,rfl⟩
theorem wO(a:au)(w:ag):ao 94 #[ae none 0 0,a] w λe w'=>e=.returned (.tuple #[])/\w'=w:=by
 have b:=Tryz.bits_Len 0;go_enter func94,ntmps94;go_wp2_with fail;refine(b _ (by decide) (by decide)).mono ?_;rintro e w' ⟨rfl,rfl⟩;go_wp2_with fail;refine(Lj _ a _).mono ?_;rintro e w' ⟨rfl,rfl⟩;go_wp2_with fail;exact dL (v:=.tuple #[]) (by simp[results]) rfl ⟨rfl,rfl⟩
theorem CX(g:Nat)(lb:Array au)(c:∀args w,(callFunc g args).run Tryz.prog w=.ok (.enter g args) w)(a:au)(w:ag)(f:∀l W,am w W->ao g (#[.func (.yield l) #[] #[]]++lb) W λe b=>(∃v,e=.returned v)/\am W b):ao 60 #[.func (.func g) #[] lb,a] w λe w'=>e=.returned (ae none 0 0)/\am w w':=by
 go_enter func60,ntmps60;go_wp2_with fail;refine(zH g lb c w f).mono ?_;rintro e w' ⟨rfl,d⟩;go_wp2_with fail;refine(wO a _).mono ?_;rintro e h ⟨rfl,rfl⟩;go_wp2_with fail
 go_ret
 exact⟨rfl,d⟩
theorem KI(a:da)(w:ag):ao 61 #[.map a] w λe w'=>e=.returned (.func (.func 95) #[] #[aH w.heap.size])/\w'=w.alloc (.cells #[.map a] 51):=by
 go_enter func61,ntmps61;go_wp2_with fail
 go_ret
 exact⟨rfl,rfl⟩
abbrev xq:Type:={k:Int×Int // I2 k}
def nK(D:DataW au)(c:List xq):Prop:=c.Pairwise (λa b=>a≠b)/\∀x,has D x=true ↔∃k∈c,x=kl k.1
def iH(D:DataW au)(left:Lit->Bool)(a:List xq):Prop:=
 a.Pairwise (λc b=>c≠b)/\(∀k∈a,has D (kl k.1)=true/\left (kl k.1)=false)/\∀x,has D x=true->left x=true\/∃k∈a,x=kl k.1
theorem iH.start(D:DataW au):iH D (has D) []:=⟨List.Pairwise.nil,λ_ a=>(by cases a),λ_ a=>aj a⟩
theorem iH.step{D:DataW au}{left:Lit->Bool}{h:List xq}(d:iH D left h)(k:xq)(g:left (kl k.1)=true)(l:has D (kl k.1)=true):iH D (λx=>left x && !x.sameKey (kl k.1)) (h++ [k]):=by
 have m:WideAt.IsKeyLit (kl k.1):=dI.key (dJ k.2);refine⟨List.pairwise_append.2 ⟨d.1,List.pairwise_singleton _ _,λi j b f c=>?_⟩,λe a=>?_,λx o=>?_⟩
 ·simp only[dC]at f;subst f c;rw[(d.2.1 i j).2]at g;cases g
 ·simp only[de,dC]at a;rcases a with a|rfl
  ·exact⟨(d.2.1 e a).1,by simp[(d.2.1 e a).2]⟩
  ·exact⟨l,by simp[WideAt.sameKey_self m]⟩
 ·rcases d.2.2 x o with n|⟨e,a,c⟩
  ·by_cases c:x=kl k.1
   ·exact ak ⟨k,by simp,c⟩
   ·exact aj (by simp[n,sameKey_ne c])
  ·exact ak ⟨e,by simp[a],c⟩
theorem iH.done{D:DataW au}{left:Lit->Bool}{c:List xq}(b:iH D left c)(d:∀x,left x=false):nK D c:=by
 refine⟨b.1,λx=>⟨λf=>?_,?_⟩⟩
 ·rcases b.2.2 x f with a|a
  ·rw[d]at a;cases a
  ·exact a
 ·rintro ⟨k,e,rfl⟩;exact(b.2.1 k e).1
theorem Eg(o:Fence)(n:Nat)(hF:o.fn 95)(ae:o.round=none)(aC:1<=n)(h b i:Nat)(D:DataW au)(w:ag)(K:h<w.heap.size)(X:ai w h 0 (.map (some b)))(Y:w.ownsMap Tryz.prog 44 l7 b i D):SeqStopsK o n Tryz.prog 95 #[aH h] (λx:xq=>#[pk x.1]) KeepsWalks (nK D) (λ_=>True) (Maps.size D) w:=by
 intro l q ao e A s aw P J;have Z:e.ownsMap Tryz.prog 44 l7 b i D:=Y.kept (uj A) (by simp);have aB:ai e h 0 (.map (some b)):=(A.cell (p:=⟨h,0,none⟩) K).trans X;refine callsIn_of_wp func95 rfl hF ?_ ae;simp only[ntmps95,ew,bA,iU,Nat.reduceAdd,Nat.reduceSub,pH,pI,pR,pN,iy,eW]
 gi_wp2_with (first
  | (gi_at_range;refine wpListIn_range_own _ rfl _ 51 rfl 44 29 dI underlying51 _ b i _ rfl Z ?_;intro an aa R aD)
  | gi_in)
 try go_frame
 gi_loopw [3] (λ_ wr=>∃(left:Lit->Bool)(cnt:Nat)(a:List xq),wr.ranges Tryz.prog 44 l7 b e.heap.size i D left cnt/\a.length+cnt<=Maps.size D/\(iH D left a/\∀x,left x=true->has D x=true)/\q a wr)
  (λ_ wr=>wr.rangeLeft b e.heap.size)
 case atStart=>
  exact⟨_,_,[],aa,by simp,⟨iH.start D,λ_ I=>I⟩,s [] e an none J R (λG d=>by cases d)⟩
 case round=>
  obtain⟨left,cnt,a,y,aA,m,z⟩:=hrel
  gi_wp2_with (first
   | (gi_at_next;refine wpListIn_next_ranges _ rfl _ rfl 44 dI l7 pk id (λkey kl S=>by obtain⟨k,_,d,_⟩:=KH S;exact⟨k,d⟩) (λv aG al=>⟨v,rfl⟩) b e.heap.size i _ _ _ rfl y ?_ ?_)
   | gi_in)
  ·intro az V
   gi_wp2
   exact dL (v:=.tuple #[]) (by simp[results]) rfl ⟨⟨_,rfl⟩,aj ⟨a,m.1.done V,z⟩⟩
  ·intro f g c aE aI aJ j H U C al ax ad W B af Q;obtain⟨k,u,r,rfl⟩:=KH U;obtain rfl:(f,g)=k:=by
    simp only[pk,Value.agg.injEq,Array.mk.injEq,lh,Value.int.injEq,true_and,and_true]at r;exact fO r.1 r.2
   have M:q a j:=s a wr j (some e.heap.size) z B (λG d=>by cases d;exact⟨av _,y.iter_walk⟩);have N:q a (j.alloc (.cells #[ab f,ab g] 44)):=s a j _ none M (di j _ none) (λG d=>by cases d);have ah:=m.1.step ⟨(f,g),u⟩ C (m.2 _ C);have L:=m.2;obtain⟨fn,aF,aq,ar,am,O⟩:=P a ⟨(f,g),u⟩ _ N (by omega);simp only[pk]at Q am ⊢;clear af B
   gi_wp2
   refine O.mono ?_;rintro d ap (⟨rfl,t,T⟩|⟨rfl,t⟩)
   ·gi_wp2
    have E:=(ad.alloc (.cells #[ab f,ab g] 44)).of_walks T;go_roundw
    case rel=>exact⟨_,H,a++ [⟨(f,g),u⟩],E,by simp;omega,⟨ah,λx F=>L x (by simp at F;exact F.1)⟩,t⟩
    case measure=>rw[E.left_eq,y.left_eq];exact W
   ·gi_wp2
    exact ay (v:=.tuple #[]) (by simp[results]) rfl ⟨⟨_,rfl⟩,ak ⟨_,trivial,t⟩⟩
def fE(l:List xq):List au:=l.flatMap λk=> [ab k.1.1,ab k.1.2]
theorem ww(l r:List xq):fE (l++r)=fE l++fE r:=by simp[fE]
theorem KE:(Tryz.prog.info? 44).map (λi=>(i.zero,i.size,i.bytes))=some (some (.agg #[ab 0,ab 0]),2,16):=by kernel_rfl
theorem JZ{β:Type}(B:Nat)(t:TypeId)(h v:au):Own (λ(_:β) W=>W.heap[B]?=some (.cells #[h,v] t (0,0))):=λ_ i j row a d g=>by
 have f:=(aI.1 a).1;refine(d.block B f λe=>?_).trans a;obtain⟨o,b,c⟩:=g B e.symm;rw[a]at b;cases b;cases c
theorem GF(j:Fence)(n:Nat)(hF:j.fn 137)(E:j.round=none)(aJ:2<=n)(g:Nat)(lb:Array au)(T:j.fn g)(O:∀args w,(callFunc g args).run Tryz.prog w=.ok (.enter g args) w)(S:List xq->Prop)(N:Nat)(aF:N<=1000000)(w:ag)(aa:SeqStopsK j (n-1) Tryz.prog g lb (λx:xq=>#[pk x.1]) KeepsWalks S (λ_=>True) N w):CallsIn j n Tryz.prog 137 #[ae none 0 0,.func (.func g) #[] lb] w λe w'=>∃(v:au)(u:List xq),e=.returned v/\S u/\w'.ownsRow w.heap.size 44 2 v u.length (fE u)/\am w w':=by
 obtain⟨an,Z,af,ak,al⟩:=bY KE;have Q:1<=n:=by omega
 refine callsIn_of_wp_marks func137 rfl hF ?_ E;simp only[ntmps137,ew,bA,iU,Nat.reduceAdd,Nat.reduceSub,pH,pI,pR,pN,iy,eW]
 gi_wp2
 obtain⟨h,k⟩:∃h,w.alloc (.cells #[ae none 0 0] 43)=h:=⟨_,rfl⟩;have aM:h.heap.size=w.heap.size+1:=by rw[<-k];simp
 have ad:Boxed h w.heap.size 43 (ae none 0 0):=by rw[<-k];exact Boxed.new w _ _
 have C:am w h:=by rw[<-k];exact(aA _ w).alloc (av _) _
 rw[k];clear k
 refine wpIn_rangeFunc_ownH E Q (gf:=g) (lb:=lb) rfl T O aa walksK_t (walksK_b (w:=h)) C (λ_=>rfl)
  (λpre a=>(∃v,Boxed a w.heap.size 43 v/\a.ownsRow w.heap.size 44 2 v pre.length (fE pre)/\True)/\am w a)
  (λ_ _ _=>False)
  (OwnFrom.and (Own.from (holdsRow_own w.heap.size w.heap.size 43 44 2 (λpre:List xq=>pre.length) (λpre=>fE pre) (λ_ _=>True)) _) (ownFrom_below (av _) (by omega)))
  (λ_ _ _ _ _ s _ _=>s)
  ⟨⟨_,ad,⟨by simp[fE],aj ⟨rfl,rfl⟩⟩,trivial⟩,C⟩
  (λx p a=>∃Bx,w.heap.size<Bx/\a.heap[Bx]?=some (.cells #[ab x.1.1,ab x.1.2] 44 (0,0))/\p={tmps:= #[ae none 0 0,.func (.func g) #[] lb,aH w.heap.size,undef,ae none 0 0,aH Bx,.func (.func g) #[] lb,pk x.1,undef,undef,undef,undef,undef],defers:=[]})
  (λx p _ G H row s W b=>by obtain⟨Bx,ao,ap,aq⟩:=s;exact⟨Bx,ao,JZ (β:=Unit) Bx _ _ _ () G H row ap W (λF e=>(b F e).2),aq⟩)
  ?assign ?body ?done ?stop
 case assign=>
  rintro l pre x a ax ⟨⟨v,d,b,_⟩,f⟩ B;simp only[pk]at B ⊢
  gi_wp2_with (rw[Oper.semAt_eq _ _ _ (λc q=>by cases q)];go_simp;try go_bits)
  refine B _ _ ((KeepsOthers.alloc _ _).from _) (KeepsOthers.alloc _ _).walks ⟨⟨v,d.alloc _,b.alloc _,trivial⟩,f.alloc f.size _⟩ ⟨a.heap.size,d.lt,World.alloc_heap_new a _,rfl⟩
 case body=>
  rintro l pre x p a aG ⟨F,aL⟩ ⟨⟨v,d,b,_⟩,f⟩ ⟨Bx,aE,A,rfl⟩ aI;have L:=d.cell;have aC:=d.frozen;have aO:ai a Bx 0 (ab x.1.1):=ah A 0;have aP:ai a Bx 1 (ab x.1.2):=ah A 1;simp only[pk]
  gi_wp2_with (first
   | (gi_at_builtin;refine wpListIn_append_own _ rfl _ _ 43 rfl w.heap.size 44 an _ 2 16 underlying43 Z af ak al rfl (by decide) _ _ _ rfl (b.alloc _) ⟨a.heap.size,0,none⟩ 1 1 [ab x.1.1,ab x.1.2] rfl rfl (World.news_of_block (cs:= #[ab x.1.1,ab x.1.2]) (t:=44) (fr:=(0,0)) (World.alloc_heap_new a _)) (by simp[Value.oneCell']) (by unfold maxLen;omega) (by omega) (by have:=f.size;simp;omega) ?_;intro ar aN D Y aK
      obtain⟨i,m,rfl⟩:∃i m,ar=ae (some ⟨i,0,none⟩) (pre.length+1) m:=by
       rcases D.2 with⟨_,P⟩|⟨i,m,aB,e,_⟩
       ·exact absurd P (by omega)
       ·exact⟨i,m,e⟩
      obtain⟨y,I,J,z,K⟩:=d.appended (by decide) b f.size (av _) D Y;have ay:=y.cell;have aD:=y.frozen
      go_frame)
   | (rw[Oper.semAt_eq _ _ _ (λc q=>by cases q)];go_simp;try go_bits))
  refine⟨z.from _,z.walks,⟨_,I,?_,trivial⟩,f.trans (K.mono (av _))⟩;rw[ww,bz];exact J
 case done=>
  rintro o aw a R U ⟨⟨v,d,b,_⟩,f⟩ r;have L:=d.cell
  gi_wp2
  refine⟨by simp,.inl ⟨_,_,rfl,run_takeDeferred r,?_⟩⟩;refine⟨_,results_tmp rfl _ _ _,v,aw,rfl,U,b.kept (grownBy_putObj' _ _ _) ?_,f.trans ((qO a o _ w.heap.size (by omega)).mono (av _))⟩;rcases b.2 with⟨rfl,_⟩|⟨i,cap,az,rfl,_,X,_⟩
  ·exact .inl rfl
  ·refine .inr λM=>?_;have:i=o:=by simpa [Value.ownBlock]using M
   subst this;rw[X]at r;cases r
 case stop=>
  rintro o c pre a R _ V;exact V.elim
def Qs(a b:Int):Int:=if a=0 then b else a
def jN(x y:Int×Int):Int:=Qs (lX x.1 y.1) (lX x.2 y.2)
theorem Pk(a b:Int)(q:Nat)(w:ag)(f:ai w q 0 (ab a))(g:ai w q 1 (ab b)):ao 96 #[ae (some ⟨q,0,none⟩) 2 2] w λe w'=>e=.returned (ab (Qs a b))/\w'=w:=by
 unfold Qs;by_cases c:a=0
 ·subst c;rw[if_pos rfl];by_cases d:b=0
  ·subst d;go_enter func96,ntmps96;go_wp2_with fail;refine lE 3 ?_;rw[jc];go_wp2_with fail;rw[jc];go_wp2_with fail;rw[jc];go_wp2_with fail
   go_ret
   exact⟨rfl,rfl⟩
  ·have i:¬(0:Int)=b:=λe=>d e.symm;go_enter func96,ntmps96;go_wp2_with fail;refine lE 3 ?_;rw[jc];go_wp2_with fail;rw[jc];go_wp2_with fail
   go_ret
   exact⟨rfl,rfl⟩
 ·have h:¬(0:Int)=a:=λe=>c e.symm;rw[if_neg c];go_enter func96,ntmps96;go_wp2_with fail;refine lE 3 ?_;rw[jc];go_wp2_with fail
  go_ret
  exact⟨rfl,rfl⟩
theorem Fr(x y:Int×Int)(w:ag):ao 62 #[.agg #[ab x.1,ab x.2],.agg #[ab y.1,ab y.2]] w λe w'=>e=.returned (ab (jN x y))/\∃q os,w'=Sort.grow (w.drewN q) os:=by
 obtain⟨f,g⟩:=x;obtain⟨y0,y1⟩:=y;go_enter func62,ntmps62;go_wp2_with fail;obtain⟨wr,j⟩:∃wr,wr=(w.alloc (.cells #[ab f,ab g] 44)).alloc (.cells #[ab y0,ab y1] 44):=⟨_,rfl⟩;obtain⟨c,p⟩:∃c,c=w.heap.size:=⟨_,rfl⟩;obtain⟨d,r⟩:∃d,d=w.heap.size+1:=⟨_,rfl⟩;rw[<-j,<-r,<-p];have m:wr.heap[c]?=some (.cells #[ab f,ab g] 44):=by
  rw[j,p];exact((aS _ _).block w.heap.size (by simp)).trans (aD w _)
 have n:wr.heap[d]?=some (.cells #[ab y0,ab y1] 44):=by
  rw[j,r];have k:=aD (w.alloc (.cells #[ab f,ab g] 44)) (.cells #[ab y0,ab y1] 44);have e:(w.alloc (.cells #[ab f,ab g] 44)).heap.size=w.heap.size+1:=by simp
  rwa [e]at k
 have u:Hid (∀o,(wr.alloc o).drew=Sort.grow (w.drewN 1) #[.cells #[ab f,ab g] 44,.cells #[ab y0,ab y1] 44,o]):=λo=>by
  rw[j,Sort.alloc_eq_grow,Sort.alloc_eq_grow,Sort.alloc_eq_grow,Sort.grow_grow,Sort.grow_grow];rfl
 have l:Hid (∀a:ag,(∀b,b<wr.heap.size->a.heap[b]?=wr.heap[b]?)->(ai a c 0 (ab f)/\ai a c 1 (ab g))/\ai a d 0 (ab y0)/\ai a d 1 (ab y1)):=λa t=>by
  have f0:=(t c (aI.1 m).1).trans m;have f1:=(t d (aI.1 n).1).trans n;exact⟨⟨ah f0 0,ah f0 1⟩,ah f1 0,ah f1 1⟩
 have s:Hid (∀h i:au,((wr.alloc (.cells #[h,i] 3)).drew.cell? ⟨wr.heap.size,0,none⟩=some h/\(wr.alloc (.cells #[h,i] 3)).drew.cell? ⟨wr.heap.size,1,none⟩=some i)):=λh i=>by
  have k:=aD wr (.cells #[h,i] 3);exact⟨ah (w:=(wr.alloc (.cells #[h,i] 3)).drew) k 0,ah (w:=(wr.alloc (.cells #[h,i] 3)).drew) k 1⟩
 obtain⟨⟨z,A⟩,B,C⟩:=l.out wr (λ_ _=>rfl);clear j p r m n;go_wp2_with fail
 go_region_held3 (λa=>(a.cell? ⟨c,0,none⟩=some (ab f)/\a.cell? ⟨c,1,none⟩=some (ab g))/\a.cell? ⟨d,0,none⟩=some (ab y0)/\a.cell? ⟨d,1,none⟩=some (ab y1))
  (first|(go_keep;done)|exact l _ (λ_ _=>rfl)|exact l _ (λb v=>((aA wr.heap.size wr).alloc (av _) _).block b v)) ((first
   | (go_at_call 97;refine(rJ _ _ _).mono ?_;rintro e w' ⟨rfl,rfl⟩)
   | (go_at_call 96;refine(Pk (lX f y0) (lX g y1) wr.heap.size _ (s _ _).1 (s _ _).2).mono ?_;rintro e w' ⟨rfl,rfl⟩)))
 all_goals
  go_wp2_with fail
  go_ret
  exact⟨rfl,1,_,u _⟩
theorem MW(x y:Int×Int):jN x y<0 ↔ x.1<y.1\/x.1=y.1/\x.2<y.2:=by
 unfold jN Qs lX;split<;>split<;>(try split)<;>(try split)<;>(try split)<;>omega
end Go.Proofs.YtmmahddlcldmiaaGreat
