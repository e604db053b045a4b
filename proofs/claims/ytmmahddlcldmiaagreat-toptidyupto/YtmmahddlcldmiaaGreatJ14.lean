/- What is proved here: proc's doing.spawn: a process is put behind those that are spawned, and its number is bound. No condition but that all lies in memory. -/
import Derived.Test.YtmmahddlcldmiaaGreatJ13
namespace Go.Proofs.YtmmahddlcldmiaaGreat
open Go.RowKit Tryz
set_option maxRecDepth 100000
set_option maxHeartbeats 4000000
theorem GC:(Tryz.prog.info? 174).map (λi=>(i.zero,i.size,i.bytes))=some (some (.agg #[ab 0,af ⟨#[]⟩,ab 0,ab 0,af ⟨#[]⟩,ae none 0 0]),6,80):=by kernel_rfl
variable{b o:Nat}{w:ag}{v:av}
theorem dE(j:Nat)(a:j≠o):(w.setCell ⟨b,o,none⟩ v).cell? ⟨b,j,none⟩=w.cell? ⟨b,j,none⟩:=by
 unfold World.cell? World.setCell;simp only[bO];cases h:w.heap[b]? with
 | none=>simp
 | some c=>cases c<;>simp[Ne.symm a]
theorem gN{j:Nat}:(w.setCell ⟨b,o,none⟩ v).frozen? ⟨b,j,none⟩=w.frozen? ⟨b,j,none⟩:=by
 unfold World.frozen? World.setCell;simp only[bO];cases h:w.heap[b]? with
 | none=>simp
 | some a=>cases a<;>simp
def OC{N:Nat}(u:Int)(nm:ap)(a:Tm (N+1)):List av:=[ab u,af nm,ab a.1.1,ab a.1.2.1,af a.1.2.2,ae a.2.1.1 a.2.2.length a.2.1.2]
def O6(N base g:Nat)(h:aw)(L i:Nat)(xs:List av)(t:Bool)(next:Int)(nm:ap)(l m:Nat)(o:Option (Tm (N+1)))(w:ag)(e:Ending)(w':ag):Prop:=
 e=.returned (.bool (o.isSome && t))/\((o.isSome && t)=false->ak w w')/\
  ((o.isSome && t)=true->∃(f:Tm (N+1))(a c:Nat)(b j k:ag),aB (N+1) f (N+1) (o.getD (wG N))=true/\In b.heap.size b (N+1) f/\cr (λd=>w.heap.size<=d/\d≠a) (N+1) f/\b.ownsRow base 174 6 (ae (some ⟨a,0,none⟩) (L+1) c) (L+1) (xs++OC next nm f)/\bB (λd=>(Value.slice h L i).ownBlock=some d) w b/\((Value.slice h L i).ownBlock=some a\/w.heap.size<=a)/\j=b.setCell ⟨g,4,none⟩ (ae (some ⟨a,0,none⟩) (L+1) c)/\k=(di j l (m*4) (ab 3) (ab next) (af ⟨#[]⟩) (ae none 0 0)).drew/\w'=k.setCell ⟨g,2,none⟩ (ab (next+1)))
theorem Em(N:Nat)(k T U:Int)(V:ap)(xa:aw)(X xc:Nat)(y0 y1:Int)(y2:ap)(ya:aw)(yl yc:Nat)(nm:ap)(g:Nat)(base f:Nat)(r:aw)(L s:Nat)(xs:List av)(w:ag)(o:Option (Tm (N+1)))(d P:Nat)(next:Int)(H ad:Int)(al:ap)(an:aw)(ax ar:Nat)(cW:g<4)(cQ:L<=10000)(aX:f<w.heap.size)(bc:d<w.heap.size)(bN:f≠d)(cR:base<=w.heap.size)(cU:0<=next)(cV:next<=100000)(cD:nm.size<=2048)(K:Hid (w.cell? ⟨f,4,none⟩=some (ae r L s)/\w.cell? ⟨f,0,none⟩=some (ae (some ⟨d,0,none⟩) 4 P)/\w.cell? ⟨f,2,none⟩=some (ab next)/\(∀j,w.frozen? ⟨f,j,none⟩=false)/\∀j,w.frozen? ⟨d,j,none⟩=false))(bs:Hid (w.ownsRow base 174 6 (ae r L s) L xs))(a6:Hid ((Value.slice r L s).ownBlock≠some f/\(Value.slice r L s).ownBlock≠some d))(J:Hid (w.cell? ⟨d,g*4,none⟩=some (ab H)/\w.cell? ⟨d,g*4+1,none⟩=some (ab ad)/\w.cell? ⟨d,g*4+2,none⟩=some (af al)/\w.cell? ⟨d,g*4+3,none⟩=some (ae an ax ar)))(a3:Hid (∀W,am 197 #[.agg #[ab H,ab ad,af al,ae an ax ar]] W λe w'=>e=.returned (.bool (!(H==6)))/\ak W w'))(bt:Hid (∀W,ak w W->am 117 #[aH f,.agg #[ab y0,ab y1,af y2,ae ya yl yc]] W (xf N o W))):am 187 #[aH f,.agg #[ab k,ab T,ab U,af V,ae xa X xc,ab y0,ab y1,af y2,ae ya yl yc,af nm,ab g]] w (O6 N base f r L s xs (H==6) next nm d g o w):=by
 obtain⟨aM,bP,bV,bX,bY⟩:=bW GC;have aQ:Hid (Tryz.prog.info? 174=some aM/\aM.zero=some (.agg #[ab 0,af ⟨#[]⟩,ab 0,ab 0,af ⟨#[]⟩,ae none 0 0])/\aM.size=6/\aM.bytes=80):=⟨bP,bV,bX,bY⟩;clear bP bV bX bY;obtain⟨t,bU⟩:∃t,t=(H==6):=⟨_,rfl⟩;rw[<-bU]at a3 ⊢;clear bU;have bv:Hid (∃aN h,(aN=w.alloc (.cells #[ab k,ab T,ab U,af V,ae xa X xc,ab y0,ab y1,af y2,ae ya yl yc,af nm,ab g] 248)/\h=w.heap.size)/\ak w aN/\aN.heap[h]?=some (.cells #[ab k,ab T,ab U,af V,ae xa X xc,ab y0,ab y1,af y2,ae ya yl yc,af nm,ab g] 248)):=⟨_,_,⟨rfl,rfl⟩,(aq _ _).alloc (ao _) _,aF w _⟩;go_enter func187,ntmps187;go_wp2_with fail;obtain⟨aN,h,⟨bZ,aY⟩,bI,bd⟩:=bv.out;rw[<-bZ,<-aY];have az:=au bI;have bk:=au bd;have aE:Hid (h<aN.heap.size/\w.heap.size<=h):=⟨(aJ.1 bd).1,by omega⟩;clear bZ aY bI bd bv;refine(bt _ az).mono ?_;rintro e E ⟨a,rfl,O⟩;have aA:=au (az.trans (O.1.mono az.size));have b7:Hid (E.heap[h]?=some (.cells #[ab k,ab T,ab U,af V,ae xa X xc,ab y0,ab y1,af y2,ae ya yl yc,af nm,ab g] 248)):=(O.1.block h aE.1).trans bk;have br:Hid (h<E.heap.size):=aW aE.1 O.1.size;have bC:=au O.2.1;have cd:=au O.2.2.1;have ce:=au O.2.2.2;have cc:=au az.size;clear O bt az bk;have bw:Hid (∃z p,(z=E.alloc (.cells #[ab a.1.1,ab a.1.2.1,af a.1.2.2,ae a.2.1.1 a.2.2.length a.2.1.2] 31)/\p=E.heap.size)/\ak E z/\z.heap[p]?=some (.cells #[ab a.1.1,ab a.1.2.1,af a.1.2.2,ae a.2.1.1 a.2.2.length a.2.1.2] 31)/\z.heap.size=E.heap.size+1):=⟨_,_,⟨rfl,rfl⟩,(aq _ _).alloc (ao _) _,aF _ _,by simp⟩;cases o with
 | none=>
  simp only[ng];go_wp2_with fail;go_region
  all_goals
   go_wp2_with fail
   go_ret
   exact⟨rfl,λ_=>(aA.alloc aA.size _).drew,λc=>(by cases c)⟩
 | some c1=>
  simp only[nh];go_wp2_with fail;obtain⟨z,p,⟨b0,M⟩,D⟩:=bw.out;rw[<-b0,<-M];have b8:Hid (p=E.heap.size):=M;replace D:=au D;clear b0 M bw;have I:=au (aA.trans (D.1.mono aA.size));have a4:Hid (∀W:ag,ak z W->W.heap[h]?=some (.cells #[ab k,ab T,ab U,af V,ae xa X xc,ab y0,ab y1,af y2,ae ya yl yc,af nm,ab g] 248)/\W.heap[p]?=some (.cells #[ab a.1.1,ab a.1.2.1,af a.1.2.2,ae a.2.1.1 a.2.2.length a.2.1.2] 31)):=λW c=>⟨(c.block h (by have:=br.out;have:=D.2.2;omega)).trans ((D.1.block h br).trans b7),(c.block p (aJ.1 D.2.1).1).trans D.2.1⟩;have aC:Hid (∀W:ag,ak z W->(W.cell? ⟨f,0,none⟩=some (ae (some ⟨d,0,none⟩) 4 P)/\W.cell? ⟨h,10,none⟩=some (ab g))/\W.cell? ⟨d,g*4,none⟩=some (ab H)/\W.cell? ⟨d,g*4+1,none⟩=some (ab ad)/\W.cell? ⟨d,g*4+2,none⟩=some (af al)/\W.cell? ⟨d,g*4+3,none⟩=some (ae an ax ar)):=λW c=>by
   have R:=I.trans (c.mono I.size);have aV:=λj=>R.cell (p:=⟨d,j,none⟩) bc;exact⟨⟨(R.cell (p:=⟨f,0,none⟩) aX).trans K.2.1,ah (a4 W c).1 10⟩,(aV _).trans J.1,(aV _).trans J.2.1,(aV _).trans J.2.2.1,(aV _).trans J.2.2.2⟩
  obtain⟨⟨cu,cv⟩,cw,cx,cy,cz⟩:=aC.out z (aq _ _);have Z:Hid (ak z z.drew):=(aq _ _).drew;have cZ:(0:Int)<=(g:Int):=by omega
  have c0:(g:Int)<4:=by omega
  have bo:=au (a3 z.drew);clear a3;cases t
  ·go_region_held3 (λW=>(W.cell? ⟨f,0,none⟩=some (ae (some ⟨d,0,none⟩) 4 P)/\W.cell? ⟨h,10,none⟩=some (ab g))/\W.cell? ⟨d,g*4,none⟩=some (ab H)/\W.cell? ⟨d,g*4+1,none⟩=some (ab ad)/\W.cell? ⟨d,g*4+2,none⟩=some (af al)/\W.cell? ⟨d,g*4+3,none⟩=some (ae an ax ar)) (first|(go_keep;done)|exact aC _ Z|exact aC _ A) ((first
     | (go_at_call 197;refine bo.mono ?_;rintro e S ⟨rfl,aI⟩;have A:=au (Z.trans (aI.mono Z.size));clear aI)))
   go_wp2_with fail
   go_ret
   exact⟨rfl,λ_=>I.trans (A.mono I.size),λc=>(by cases c)⟩
  ·go_region_held3 (λW=>(W.cell? ⟨f,0,none⟩=some (ae (some ⟨d,0,none⟩) 4 P)/\W.cell? ⟨h,10,none⟩=some (ab g))/\W.cell? ⟨d,g*4,none⟩=some (ab H)/\W.cell? ⟨d,g*4+1,none⟩=some (ab ad)/\W.cell? ⟨d,g*4+2,none⟩=some (af al)/\W.cell? ⟨d,g*4+3,none⟩=some (ae an ax ar)) (first|(go_keep;done)|exact aC _ Z|exact aC _ A) ((first
     | (go_at_call 197;refine bo.mono ?_;rintro e S ⟨rfl,aI⟩;have A:=au (Z.trans (aI.mono Z.size));clear aI)))
   clear cu cv cw cx cy cz;go_wp2_with fail;have bh:=au (I.trans (A.mono I.size));have aR:Hid (∀W:ag,ak S W->W.cell? ⟨f,4,none⟩=some (ae r L s)/\W.cell? ⟨f,2,none⟩=some (ab next)/\W.cell? ⟨h,9,none⟩=some (af nm)/\W.cell? ⟨p,0,none⟩=some (ab a.1.1)/\W.cell? ⟨p,1,none⟩=some (ab a.1.2.1)/\W.cell? ⟨p,2,none⟩=some (af a.1.2.2)/\W.cell? ⟨p,3,none⟩=some (ae a.2.1.1 a.2.2.length a.2.1.2)):=λW c=>by
    have bG:=A.trans (c.mono A.size);have R:=I.trans (bG.mono I.size);obtain⟨aY,M⟩:=a4.out W bG;exact⟨(R.cell (p:=⟨f,4,none⟩) aX).trans K.1,(R.cell (p:=⟨f,2,none⟩) aX).trans K.2.2.1,ah aY 9,ah M 0,ah M 1,ah M 2,ah M 3⟩
   have x:=aR S.drew (aq _ _).drew;have bn:Hid (ak S S.drew):=(aq _ _).drew;obtain⟨cf,cj,b3,ck,cl,cm,cn⟩:=aR.out S (aq _ _);have b9:=au (dW nm S.drew cD);refine wp_region_noPanic ?_;refine jJ (λW=>W.cell? ⟨f,4,none⟩=some (ae r L s)/\W.cell? ⟨f,2,none⟩=some (ab next)/\W.cell? ⟨h,9,none⟩=some (af nm)/\W.cell? ⟨p,0,none⟩=some (ab a.1.1)/\W.cell? ⟨p,1,none⟩=some (ab a.1.2.1)/\W.cell? ⟨p,2,none⟩=some (af a.1.2.2)/\W.cell? ⟨p,3,none⟩=some (ae a.2.1.1 a.2.2.length a.2.1.2)) 18 (by kernel_rfl) ?_
   try simp only[dT]
   refine aZ (i:=0) (v:= ?_) rfl (by kernel_rfl) (by kernel_rfl) (by kernel_rfl) (by kernel_rfl) (λ_ _ _ c=>c) rfl ?_ x ?_;rotate_left
   ·intro w' l
    try dsimp only at l
    go_simp
    try with_reducible rfl
   try simp only[Act.put,cg]
   refine aZ (i:=1) (v:= ?_) rfl (by kernel_rfl) (by kernel_rfl) (by kernel_rfl) (by kernel_rfl) (λ_ _ _ c=>c) rfl ?_ x ?_;rotate_left
   ·intro w' l
    try dsimp only at l
    go_simp
    try with_reducible rfl
   try simp only[Act.put]
   refine aZ (i:=2) (v:= ?_) rfl (by kernel_rfl) (by kernel_rfl) (by kernel_rfl) (by kernel_rfl) (λ_ _ _ c=>c) rfl ?_ x ?_;rotate_left
   ·intro w' l
    try dsimp only at l
    go_simp
    try with_reducible rfl
   try simp only[Act.put]
   refine aZ (i:=3) (v:= ?_) rfl (by kernel_rfl) (by kernel_rfl) (by kernel_rfl) (by kernel_rfl) (λ_ _ _ c=>c) rfl ?_ x ?_;rotate_left
   ·intro w' l
    try dsimp only at l
    go_simp
    try with_reducible rfl
   try simp only[Act.put]
   refine aZ (i:=4) (v:= ?_) rfl (by kernel_rfl) (by kernel_rfl) (by kernel_rfl) (by kernel_rfl) (λ_ _ _ c=>c) rfl ?_ x ?_;rotate_left
   ·intro w' l
    try dsimp only at l
    go_simp
    try with_reducible rfl
   try simp only[Act.put]
   refine aZ (i:=5) (v:= ?_) rfl (by kernel_rfl) (by kernel_rfl) (by kernel_rfl) (by kernel_rfl) (λ_ _ _ c=>c) rfl ?_ x ?_;rotate_left
   ·intro w' l
    try dsimp only at l
    go_simp
    try with_reducible rfl
   try simp only[Act.put]
   refine aZ (i:=6) (v:= ?_) rfl (by kernel_rfl) (by kernel_rfl) (by kernel_rfl) (by kernel_rfl) (λ_ _ _ c=>c) rfl ?_ x ?_;rotate_left
   ·intro w' l
    try dsimp only at l
    go_simp
    try with_reducible rfl
   try simp only[Act.put]
   refine aZ (i:=7) (v:= ?_) rfl (by kernel_rfl) (by kernel_rfl) (by kernel_rfl) (by kernel_rfl) (λ_ _ _ c=>c) rfl ?_ x ?_;rotate_left
   ·intro w' l
    try dsimp only at l
    go_simp
    try with_reducible rfl
   try simp only[Act.put]
   refine aZ (i:=8) (v:= ?_) rfl (by kernel_rfl) (by kernel_rfl) (by kernel_rfl) (by kernel_rfl) (λ_ _ _ c=>c) rfl ?_ x ?_;rotate_left
   ·intro w' l
    try dsimp only at l
    go_simp
    try with_reducible rfl
   try simp only[Act.put]
   refine aZ (i:=9) (v:= ?_) rfl (by kernel_rfl) (by kernel_rfl) (by kernel_rfl) (by kernel_rfl) (λ_ _ _ c=>c) rfl ?_ x ?_;rotate_left
   ·intro w' l
    try dsimp only at l
    go_simp
    try with_reducible rfl
   try simp only[Act.put]
   refine aZ (i:=10) (v:= ?_) rfl (by kernel_rfl) (by kernel_rfl) (by kernel_rfl) (by kernel_rfl) (λ_ _ _ c=>c) rfl ?_ x ?_;rotate_left
   ·intro w' l
    try dsimp only at l
    go_simp
    try with_reducible rfl
   try simp only[Act.put]
   refine aZ (i:=12) (v:= ?_) rfl (by kernel_rfl) (by kernel_rfl) (by kernel_rfl) (by kernel_rfl) (λ_ _ _ c=>c) rfl ?_ x ?_;rotate_left
   ·intro w' l
    try dsimp only at l
    go_simp
    try with_reducible rfl
   try simp only[Act.put]
   refine dg (i:=11) (by kernel_rfl) rfl rfl (λG q=>?_) (by decide)
   go_simp
   refine b9.mono ?_;rintro e u ⟨rfl,bJ⟩;have F:=au (bn.trans (bJ.mono bn.size));have ba:=aR u F;refine q _ _ (λ_=>ba) (λ_=>?_);clear q G bJ
   try simp only[Act.put,cg,du,dt]
   have bi:=au (bh.trans (F.mono bh.size));obtain⟨y,bQ⟩:∃y:Obj,y=.cells #[ab next,af nm,ab a.1.1,ab a.1.2.1,af a.1.2.2,ae a.2.1.1 a.2.2.length a.2.1.2] 174:=⟨_,rfl⟩;have aB:Hid (ak u (u.alloc y)):=(aq _ _).alloc (ao _) y;have a7:=au (aR _ (F.trans (aB.mono F.size)));have a1:=au (bi.trans (aB.mono bi.size));have bq:Hid ((u.alloc y).ownsRow base 174 6 (ae r L s) L xs):=bu bs (aO a1 λ_=>False) λ_ _ c=>c;have bp:Hid ((u.alloc y).heap[u.heap.size]?=some y):=aF u y;have aa:Hid ((u.alloc y).heap.size=u.heap.size+1):=(show _=_ by simp);have aG:Hid (z.heap.size=E.heap.size+1/\w.heap.size<=E.heap.size/\z.heap.size<=u.heap.size):=⟨D.2.2,aA.size,aD A.size F.size⟩;have bD:Hid (In (u.alloc y).heap.size (u.alloc y) (N+1) a):=(bC.below (D.1.trans ((A.trans ((F.trans (aB.mono F.size)).mono A.size)).mono D.1.size))).mono (by have:=aa.out;have:=aG.out;omega);have a5:Hid ((u.alloc y).heap[h]?=some (.cells #[ab k,ab T,ab U,af V,ae xa X xc,ab y0,ab y1,af y2,ae ya yl yc,af nm,ab g] 248)):=(a4 _ (A.trans ((F.trans (aB.mono F.size)).mono A.size))).1;rw[bQ]at aB a7 a1 bq bp aa bD a5;clear bQ y;refine aZ (i:=13) (v:= ?_) rfl (by kernel_rfl) (by kernel_rfl) (by kernel_rfl) (by kernel_rfl) (λ_ _ _ c=>c) rfl ?_ ba ?_;rotate_left
   ·intro w' l
    try dsimp only at l
    go_simp
    try with_reducible rfl
   try simp only[Act.put]
   refine dg (i:=14) (by kernel_rfl) rfl rfl (λG q=>?_) (by decide)
   go_simp
   refine q _ _ (λ_=>a7) (λcA=>?_);clear q G
   try simp only[Act.put,cg,du,dt]
   refine dg (i:=15) (by kernel_rfl) rfl rfl (λG q=>?_) (by decide);refine wp_append_lies _ _ _ 115 rfl base 174 aM _ 6 80 underlying115 aQ.1 aQ.2.1 aQ.2.2.1 aQ.2.2.2 rfl (by decide) (ae r L s) L xs rfl bq ⟨u.heap.size,0,none⟩ 1 1 (OC next nm a) rfl rfl (World.news_of_block (cs:= #[ab next,af nm,ab a.1.1,ab a.1.2.1,af a.1.2.2,ae a.2.1.1 a.2.2.length a.2.1.2]) (t:=174) (fr:=(0,0)) bp) (by simp[OC,Value.oneCell']) (by decide) (by unfold maxLen;omega) (by omega) (by have:=aa.out;have:=aG.out;omega) _ rfl ?_;intro Q a8 m bS ay bb cC;have aS:Hid (bB (λC=>(Value.slice r L s).ownBlock=some C) w m):=bB.trans (aO a1 _) (eA ay) λ_ _ e=>e;have b4:Hid ((Value.slice r L s).ownBlock=some Q\/w.heap.size<=Q):=by
    rcases bb with e|e
    ·exact ai e
    ·exact aj (by have:=aa.out;have:=aG.out;omega)
   have b6:=au bS;have aT:Hid (∀b,(Value.slice r L s).ownBlock=some b->b<w.heap.size):=λb R=>(bs.lt b R).2;have bA:Hid (In m.heap.size m (N+1) a/\cr (λC=>w.heap.size<=C/\C≠Q) (N+1) a):=by
    have bR:cr (λC=>w.heap.size<=C/\C<E.heap.size) (N+1) a:=(In.offB cd bC).mono λC aL=>⟨aD cc aL.1,aL.2⟩;refine⟨bD.kee (eA ay) (bR.mono λC aL e=>?_),bR.mono λC aL=>⟨aL.1,λe=>?_⟩⟩
    ·have:=aT C e;omega
    ·rcases bb with bE|bE
     ·have:=aT Q bE;omega
     ·have:=aa.out;have:=aG.out;omega
   have Y:Hid (m.heap[f]?=w.heap[f]? /\m.heap[d]?=w.heap[d]? /\m.heap[h]?=some (.cells #[ab k,ab T,ab U,af V,ae xa X xc,ab y0,ab y1,af y2,ae ya yl yc,af nm,ab g] 248)):=by
    refine⟨aS.block f aX a6.1,aS.block d bc a6.2,(ay.block h (aJ.1 a5).1 λe=>?_).trans a5⟩;have:=aT h e.symm;have:=aE.2;omega
   have bl:Hid (m.cell? ⟨f,4,none⟩=some (ae r L s)/\m.cell? ⟨f,2,none⟩=some (ab next)/\m.cell? ⟨h,9,none⟩=some (af nm)/\m.cell? ⟨p,0,none⟩=some (ab a.1.1)/\m.cell? ⟨p,1,none⟩=some (ab a.1.2.1)/\m.cell? ⟨p,2,none⟩=some (af a.1.2.2)/\m.cell? ⟨p,3,none⟩=some (ae a.2.1.1 a.2.2.length a.2.1.2)):=by
    have c2:=aa.out;have c3:=aG.out;have c4:=b8.out;have cE:some p≠(Value.slice r L s).ownBlock:=λe=>by
     have:=aT p e.symm;omega
    have k:=λj=>ay.cell_far ⟨p,j,none⟩ (by show p<_;omega) cE;obtain⟨cK,cL,cY,cM,cN,cO,cP⟩:=a7;have bM:=λj=>ay.cell_far ⟨f,j,none⟩ (by show f<_;omega) λe=>a6.1 e.symm;exact⟨(bM 4).trans cK,(bM 2).trans cL,ah Y.2.2 9,(k 0).trans cM,(k 1).trans cN,(k 2).trans cO,(k 3).trans cP⟩
   clear bS ay bb cC;refine q _ _ (λ_=>bl) (λa9=>?_);clear q G
   try simp only[Act.put,cg]
   refine dg (i:=16) (by kernel_rfl) rfl rfl (λG q=>?_) (by decide)
   go_simp
   refine q _ _ (λ_=>a9) (λ_=>?_);clear q G
   try simp only[Act.put,cg,du,dt]
   refine aZ (i:=17) (v:= ?_) rfl (by kernel_rfl) (by kernel_rfl) (by kernel_rfl) (by kernel_rfl) (λ_ _ _ c=>c) rfl ?_ a9 ?_;rotate_left
   ·intro w' l
    try dsimp only at l
    go_simp
    try with_reducible rfl
   try simp only[Act.put,cg]
   have ci:m.frozen? ⟨f,4,none⟩=false:=by
    have B:=K.2.2.2.1 4;unfold World.frozen? at B ⊢;rw[Y.out.1];exact B
   have ch:=bl.1;refine jI (by kernel_rfl) rfl rfl (by kernel_rfl) (λG q=>?_)
   go_simp
   refine q _ _ (NoPanic.normal ?_);clear q G
   try simp only[Act.put,cg,du,dt]
   have bT:h≠f:=by have:=aE.2;omega
   have cF:h≠d:=by have:=aE.2;omega
   have cS:f≠h:=λe=>bT e.symm;have cT:d≠h:=λe=>cF e.symm;have bO:d≠f:=λe=>bN e.symm;have bm:Hid (∀j,m.cell? ⟨d,j,none⟩=w.cell? ⟨d,j,none⟩/\m.frozen? ⟨d,j,none⟩=false):=λj=>by
    have B:=K.2.2.2.2 j;unfold World.frozen? at B ⊢;unfold World.cell?;rw[Y.out.2.1];exact⟨rfl,B⟩
   have a2:Hid (∀j,m.cell? ⟨f,j,none⟩=w.cell? ⟨f,j,none⟩/\m.frozen? ⟨f,j,none⟩=false):=λj=>by
    have B:=K.2.2.2.1 j;unfold World.frozen? at B ⊢;unfold World.cell?;rw[Y.out.1];exact⟨rfl,B⟩
   have bx:Hid (∃n,n=m.setCell ⟨f,4,none⟩ (ae (some ⟨Q,0,none⟩) (L+1) a8)/\(n.cell? ⟨f,0,none⟩=some (ae (some ⟨d,0,none⟩) 4 P)/\n.cell? ⟨h,10,none⟩=some (ab g)/\n.cell? ⟨f,2,none⟩=some (ab next))/\(n.cell? ⟨d,g*4,none⟩=some (ab H)/\n.cell? ⟨d,g*4+1,none⟩=some (ab ad)/\n.cell? ⟨d,g*4+2,none⟩=some (af al)/\n.cell? ⟨d,g*4+3,none⟩=some (ae an ax ar))/\(∀j,n.frozen? ⟨d,j,none⟩=false)/\n.frozen? ⟨f,2,none⟩=false):=by
    have be:=bH m f 4 (ae (some ⟨Q,0,none⟩) (L+1) a8);have bK:d<m.heap.size:=aW bc aS.size;have cB:=be.block d bK bO;have aU:=λj=>((be.cell j bK bO).trans (bm j).1);refine⟨_,rfl,⟨(dE 0 (by decide)).trans ((a2 0).1.trans K.2.1),(be.cell 10 (aJ.1 Y.2.2).1 bT).trans (ah Y.2.2 10),(dE 2 (by decide)).trans ((a2 2).1.trans K.2.2.1)⟩,⟨(aU _).trans J.1,(aU _).trans J.2.1,(aU _).trans J.2.2.1,(aU _).trans J.2.2.2⟩,λj=>?_,?_⟩
    ·have B:=(bm j).2;unfold World.frozen? at B ⊢;rw[cB];exact B
    ·rw[gN];exact(a2 2).2
   go_wp2_with fail;obtain⟨n,bf,⟨b1,b2,bg⟩,⟨cG,cH,cI,cJ⟩,aK,bF⟩:=bx.out;rw[<-bf];have ca:=au bf;have co:=aK (g*4);have cp:=aK (g*4+1);have cq:=aK (g*4+2);have ct:=aK (g*4+3);clear bf bx aK x ba cA a9 cf cj b3 ck cl cm cn ci ch;have b5:Hid (n.drew.cell? ⟨f,0,none⟩=some (ae (some ⟨d,0,none⟩) 4 P)/\n.drew.cell? ⟨h,10,none⟩=some (ab g)/\n.drew.cell? ⟨f,2,none⟩=some (ab next)):=⟨b1,b2,bg⟩;go_region_held3 (λW=>W.cell? ⟨f,0,none⟩=some (ae (some ⟨d,0,none⟩) 4 P)/\W.cell? ⟨h,10,none⟩=some (ab g)/\W.cell? ⟨f,2,none⟩=some (ab next)) (first|exact b5|(go_keep;done)) (fail);have bz:Hid (∃aP,aP=(di n d (g*4) (ab 3) (ab next) (af ⟨#[]⟩) (ae none 0 0)).drew/\aP.cell? ⟨f,2,none⟩=some (ab next)/\aP.frozen? ⟨f,2,none⟩=false):=by
    have bL:(di n d (g*4) (ab 3) (ab next) (af ⟨#[]⟩) (ae none 0 0)).drew.heap[f]?=n.heap[f]? :=bj (w:=n) (o:=g*4) bN (ab 3) (ab next) (af ⟨#[]⟩) (ae none 0 0);refine⟨_,rfl,?_,?_⟩
    ·have c:=bg;unfold World.cell? at c ⊢;rw[bL];exact c
    ·have c:=bF;unfold World.frozen? at c ⊢;rw[bL];exact c
   obtain⟨aP,a0,cX,b3⟩:=bz.out;have cb:=au a0;unfold di at a0;rw[<-a0];clear a0 bz b1 b2 bg cG cH cI cJ co cp cq ct bF;go_wp2_with fail
   go_ret
   exact⟨rfl,λc=>(by cases c),λ_=>⟨a,Q,a8,m,n,aP,ce.out,bA.out.1,bA.out.2,b6.out,aS.out,b4.out,ca.out,cb.out,rfl⟩⟩
end Go.Proofs.YtmmahddlcldmiaaGreat
