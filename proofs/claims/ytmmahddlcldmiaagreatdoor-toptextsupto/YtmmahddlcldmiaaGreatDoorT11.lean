/- What is proved here: proc's doing.spawn: a process is put behind those that are spawned, and its number is bound. No condition but that all lies in memory. -/
import Derived.Test.YtmmahddlcldmiaaGreatDoorT10
namespace Go.Proofs.YtmmahddlcldmiaaGreatDoor
open Go.RowKit Go.Proofs.Tryz
set_option maxRecDepth 100000
set_option maxHeartbeats 4000000
theorem GI:(Tryz.prog.info? 193).map (λi=>(i.zero,i.size,i.bytes))=some (some (.agg #[ab 0,af ⟨#[]⟩,ab 0,ab 0,af ⟨#[]⟩,ae none 0 0]),6,80):=by kernel_rfl
theorem dw{w:World}{b o:Nat}{v:Value}(j:Nat)(a:j≠o):(w.setCell ⟨b,o,none⟩ v).cell? ⟨b,j,none⟩=w.cell? ⟨b,j,none⟩:=by
 unfold World.cell? World.setCell;simp only[bN];cases h:w.heap[b]? with
 | none=>simp
 | some c=>cases c<;>simp[Ne.symm a]
theorem gG{w:World}{b o j:Nat}{v:Value}:(w.setCell ⟨b,o,none⟩ v).frozen? ⟨b,j,none⟩=w.frozen? ⟨b,j,none⟩:=by
 unfold World.frozen? World.setCell;simp only[bN];cases h:w.heap[b]? with
 | none=>simp
 | some a=>cases a<;>simp
def OW{N:Nat}(b:Int)(nm:ByteArray)(a:Tm (N+1)):List Value:=[ab b,af nm,ab a.1.1,ab a.1.2.1,af a.1.2.2,ae a.2.1.1 a.2.2.length a.2.1.2]
def Pq(N base g:Nat)(h:Option Addr)(L i:Nat)(xs:List Value)(t:Bool)(next:Int)(nm:ByteArray)(l m:Nat)(o:Option (Tm (N+1)))(w:World)(e:Ending)(w':World):Prop:=
 e=.returned (.bool (o.isSome && t))/\((o.isSome && t)=false->aj w w')/\
  ((o.isSome && t)=true->∃(f:Tm (N+1))(a c:Nat)(b j k:World),ay (N+1) f (N+1) (o.getD (wC N))=true/\In b.heap.size b (N+1) f/\cd (λd=>w.heap.size<=d/\d≠a) (N+1) f/\b.ownsRow base 193 6 (ae (some ⟨a,0,none⟩) (L+1) c) (L+1) (xs++OW next nm f)/\br (λd=>(Value.slice h L i).ownBlock=some d) w b/\((Value.slice h L i).ownBlock=some a\/w.heap.size<=a)/\j=b.setCell ⟨g,4,none⟩ (ae (some ⟨a,0,none⟩) (L+1) c)/\k=(cW j l (m*4) (ab 3) (ab next) (af ⟨#[]⟩) (ae none 0 0)).drew/\w'=k.setCell ⟨g,2,none⟩ (ab (next+1)))
theorem Ei(N:Nat)(k T U:Int)(V:ByteArray)(xa:Option Addr)(X xc:Nat)(y0 y1:Int)(y2:ByteArray)(ya:Option Addr)(yl yc:Nat)(nm:ByteArray)(g:Nat)(base f:Nat)(r:Option Addr)(L s:Nat)(xs:List Value)(w:World)(o:Option (Tm (N+1)))(d P:Nat)(next:Int)(H ad:Int)(al:ByteArray)(an:Option Addr)(ar ao:Nat)(cN:g<4)(cH:L<=10000)(aU:f<w.heap.size)(a9:d<w.heap.size)(bJ:f≠d)(cI:base<=w.heap.size)(cL:0<=next)(cM:next<=100000)(cu:nm.size<=2048)(K:Hid (w.cell? ⟨f,4,none⟩=some (ae r L s)/\w.cell? ⟨f,0,none⟩=some (ae (some ⟨d,0,none⟩) 4 P)/\w.cell? ⟨f,2,none⟩=some (ab next)/\(∀j,w.frozen? ⟨f,j,none⟩=false)/\∀j,w.frozen? ⟨d,j,none⟩=false))(bp:Hid (w.ownsRow base 193 6 (ae r L s) L xs))(a3:Hid ((Value.slice r L s).ownBlock≠some f/\(Value.slice r L s).ownBlock≠some d))(J:Hid (w.cell? ⟨d,g*4,none⟩=some (ab H)/\w.cell? ⟨d,g*4+1,none⟩=some (ab ad)/\w.cell? ⟨d,g*4+2,none⟩=some (af al)/\w.cell? ⟨d,g*4+3,none⟩=some (ae an ar ao)))(a0:Hid (∀W,am 188 #[.agg #[ab H,ab ad,af al,ae an ar ao]] W λe w'=>e=.returned (.bool (!(H==6)))/\aj W w'))(bq:Hid (∀W,aj w W->am 121 #[aB f,.agg #[ab y0,ab y1,af y2,ae ya yl yc]] W (xf N o W))):am 181 #[aB f,.agg #[ab k,ab T,ab U,af V,ae xa X xc,ab y0,ab y1,af y2,ae ya yl yc,af nm,ab g]] w (Pq N base f r L s xs (H==6) next nm d g o w):=by
 obtain⟨aI,bL,bS,bT,bU⟩:=bP GI;have aM:Hid (Tryz.prog.info? 193=some aI/\aI.zero=some (.agg #[ab 0,af ⟨#[]⟩,ab 0,ab 0,af ⟨#[]⟩,ae none 0 0])/\aI.size=6/\aI.bytes=80):=⟨bL,bS,bT,bU⟩;clear bL bS bT bU;obtain⟨t,bR⟩:∃t,t=(H==6):=⟨_,rfl⟩;rw[<-bR]at a0 ⊢;clear bR;have bs:Hid (∃aK h,(aK=w.alloc (.cells #[ab k,ab T,ab U,af V,ae xa X xc,ab y0,ab y1,af y2,ae ya yl yc,af nm,ab g] 208)/\h=w.heap.size)/\aj w aK/\aK.heap[h]?=some (.cells #[ab k,ab T,ab U,af V,ae xa X xc,ab y0,ab y1,af y2,ae ya yl yc,af nm,ab g] 208)):=⟨_,_,⟨rfl,rfl⟩,(ap _ _).alloc (ak _) _,aE w _⟩;go_enter func181,ntmps181;go_wp2_with fail;obtain⟨aK,h,⟨bV,aV⟩,bE,ba⟩:=bs.out;rw[<-bV,<-aV];have av:=aq bE;have bg:=aq ba;have aA:Hid (h<aK.heap.size/\w.heap.size<=h):=⟨(aF.1 ba).1,by omega⟩;clear bV aV bE ba bs;refine(bq _ av).mono ?_;rintro e E ⟨a,rfl,O⟩;have aw:=aq (av.trans (O.1.mono av.size));have b4:Hid (E.heap[h]?=some (.cells #[ab k,ab T,ab U,af V,ae xa X xc,ab y0,ab y1,af y2,ae ya yl yc,af nm,ab g] 208)):=(O.1.block h aA.1).trans bg;have bo:Hid (h<E.heap.size):=aR aA.1 O.1.size;have bx:=aq O.2.1;have ca:=aq O.2.2.1;have cb:=aq O.2.2.2;have b9:=aq av.size;clear O bq av bg;have bt:Hid (∃z p,(z=E.alloc (.cells #[ab a.1.1,ab a.1.2.1,af a.1.2.2,ae a.2.1.1 a.2.2.length a.2.1.2] 28)/\p=E.heap.size)/\aj E z/\z.heap[p]?=some (.cells #[ab a.1.1,ab a.1.2.1,af a.1.2.2,ae a.2.1.1 a.2.2.length a.2.1.2] 28)/\z.heap.size=E.heap.size+1):=⟨_,_,⟨rfl,rfl⟩,(ap _ _).alloc (ak _) _,aE _ _,by simp⟩;cases o with
 | none=>
  simp only[mV];go_wp2_with fail;go_region
  all_goals
   go_wp2_with fail
   go_ret
   exact⟨rfl,λ_=>(aw.alloc aw.size _).drew,λc=>(by cases c)⟩
 | some cS=>
  simp only[mW];go_wp2_with fail;obtain⟨z,p,⟨bW,M⟩,D⟩:=bt.out;rw[<-bW,<-M];have b5:Hid (p=E.heap.size):=M;replace D:=aq D;clear bW M bt;have I:=aq (aw.trans (D.1.mono aw.size));have a1:Hid (∀W:World,aj z W->W.heap[h]?=some (.cells #[ab k,ab T,ab U,af V,ae xa X xc,ab y0,ab y1,af y2,ae ya yl yc,af nm,ab g] 208)/\W.heap[p]?=some (.cells #[ab a.1.1,ab a.1.2.1,af a.1.2.2,ae a.2.1.1 a.2.2.length a.2.1.2] 28)):=λW c=>⟨(c.block h (by have:=bo.out;have:=D.2.2;omega)).trans ((D.1.block h bo).trans b4),(c.block p (aF.1 D.2.1).1).trans D.2.1⟩;have ay:Hid (∀W:World,aj z W->(W.cell? ⟨f,0,none⟩=some (ae (some ⟨d,0,none⟩) 4 P)/\W.cell? ⟨h,10,none⟩=some (ab g))/\W.cell? ⟨d,g*4,none⟩=some (ab H)/\W.cell? ⟨d,g*4+1,none⟩=some (ab ad)/\W.cell? ⟨d,g*4+2,none⟩=some (af al)/\W.cell? ⟨d,g*4+3,none⟩=some (ae an ar ao)):=λW c=>by
   have R:=I.trans (c.mono I.size);have aS:=λj=>R.cell (p:=⟨d,j,none⟩) a9;exact⟨⟨(R.cell (p:=⟨f,0,none⟩) aU).trans K.2.1,ag (a1 W c).1 10⟩,(aS _).trans J.1,(aS _).trans J.2.1,(aS _).trans J.2.2.1,(aS _).trans J.2.2.2⟩
  obtain⟨⟨ck,cl⟩,cm,cn,co,cp⟩:=ay.out z (ap _ _);have Z:Hid (aj z z.drew):=(ap _ _).drew;have cQ:(0:Int)<=(g:Int):=by omega
  have cR:(g:Int)<4:=by omega
  have bl:=aq (a0 z.drew);clear a0;cases t
  ·go_region_held3 (λW=>(W.cell? ⟨f,0,none⟩=some (ae (some ⟨d,0,none⟩) 4 P)/\W.cell? ⟨h,10,none⟩=some (ab g))/\W.cell? ⟨d,g*4,none⟩=some (ab H)/\W.cell? ⟨d,g*4+1,none⟩=some (ab ad)/\W.cell? ⟨d,g*4+2,none⟩=some (af al)/\W.cell? ⟨d,g*4+3,none⟩=some (ae an ar ao)) (first|(go_keep;done)|exact ay _ Z|exact ay _ A) ((first
     | (go_at_call 188;refine bl.mono ?_;rintro e S ⟨rfl,aD⟩;have A:=aq (Z.trans (aD.mono Z.size));clear aD)))
   go_wp2_with fail
   go_ret
   exact⟨rfl,λ_=>I.trans (A.mono I.size),λc=>(by cases c)⟩
  ·go_region_held3 (λW=>(W.cell? ⟨f,0,none⟩=some (ae (some ⟨d,0,none⟩) 4 P)/\W.cell? ⟨h,10,none⟩=some (ab g))/\W.cell? ⟨d,g*4,none⟩=some (ab H)/\W.cell? ⟨d,g*4+1,none⟩=some (ab ad)/\W.cell? ⟨d,g*4+2,none⟩=some (af al)/\W.cell? ⟨d,g*4+3,none⟩=some (ae an ar ao)) (first|(go_keep;done)|exact ay _ Z|exact ay _ A) ((first
     | (go_at_call 188;refine bl.mono ?_;rintro e S ⟨rfl,aD⟩;have A:=aq (Z.trans (aD.mono Z.size));clear aD)))
   clear ck cl cm cn co cp;go_wp2_with fail;have be:=aq (I.trans (A.mono I.size));have aN:Hid (∀W:World,aj S W->W.cell? ⟨f,4,none⟩=some (ae r L s)/\W.cell? ⟨f,2,none⟩=some (ab next)/\W.cell? ⟨h,9,none⟩=some (af nm)/\W.cell? ⟨p,0,none⟩=some (ab a.1.1)/\W.cell? ⟨p,1,none⟩=some (ab a.1.2.1)/\W.cell? ⟨p,2,none⟩=some (af a.1.2.2)/\W.cell? ⟨p,3,none⟩=some (ae a.2.1.1 a.2.2.length a.2.1.2)):=λW c=>by
    have bC:=A.trans (c.mono A.size);have R:=I.trans (bC.mono I.size);obtain⟨aV,M⟩:=a1.out W bC;exact⟨(R.cell (p:=⟨f,4,none⟩) aU).trans K.1,(R.cell (p:=⟨f,2,none⟩) aU).trans K.2.2.1,ag aV 9,ag M 0,ag M 1,ag M 2,ag M 3⟩
   have x:=aN S.drew (ap _ _).drew;have bk:Hid (aj S S.drew):=(ap _ _).drew;obtain⟨cc,d3,b0,cg,ch,ci,cj⟩:=aN.out S (ap _ _);have b6:=aq (dR nm S.drew cu);refine wp_region_noPanic ?_;refine jB (λW=>W.cell? ⟨f,4,none⟩=some (ae r L s)/\W.cell? ⟨f,2,none⟩=some (ab next)/\W.cell? ⟨h,9,none⟩=some (af nm)/\W.cell? ⟨p,0,none⟩=some (ab a.1.1)/\W.cell? ⟨p,1,none⟩=some (ab a.1.2.1)/\W.cell? ⟨p,2,none⟩=some (af a.1.2.2)/\W.cell? ⟨p,3,none⟩=some (ae a.2.1.1 a.2.2.length a.2.1.2)) 18 (by kernel_rfl) ?_
   try simp only[fq]
   refine aT (i:=0) (v:= ?_) rfl (by kernel_rfl) (by kernel_rfl) (by kernel_rfl) (by kernel_rfl) (λ_ _ _ c=>c) rfl ?_ x ?_;rotate_left
   ·intro w' l
    try dsimp only at l
    go_simp
    try with_reducible rfl
   try simp only[Act.put,bY]
   refine aT (i:=1) (v:= ?_) rfl (by kernel_rfl) (by kernel_rfl) (by kernel_rfl) (by kernel_rfl) (λ_ _ _ c=>c) rfl ?_ x ?_;rotate_left
   ·intro w' l
    try dsimp only at l
    go_simp
    try with_reducible rfl
   try simp only[Act.put]
   refine aT (i:=2) (v:= ?_) rfl (by kernel_rfl) (by kernel_rfl) (by kernel_rfl) (by kernel_rfl) (λ_ _ _ c=>c) rfl ?_ x ?_;rotate_left
   ·intro w' l
    try dsimp only at l
    go_simp
    try with_reducible rfl
   try simp only[Act.put]
   refine aT (i:=3) (v:= ?_) rfl (by kernel_rfl) (by kernel_rfl) (by kernel_rfl) (by kernel_rfl) (λ_ _ _ c=>c) rfl ?_ x ?_;rotate_left
   ·intro w' l
    try dsimp only at l
    go_simp
    try with_reducible rfl
   try simp only[Act.put]
   refine aT (i:=4) (v:= ?_) rfl (by kernel_rfl) (by kernel_rfl) (by kernel_rfl) (by kernel_rfl) (λ_ _ _ c=>c) rfl ?_ x ?_;rotate_left
   ·intro w' l
    try dsimp only at l
    go_simp
    try with_reducible rfl
   try simp only[Act.put]
   refine aT (i:=5) (v:= ?_) rfl (by kernel_rfl) (by kernel_rfl) (by kernel_rfl) (by kernel_rfl) (λ_ _ _ c=>c) rfl ?_ x ?_;rotate_left
   ·intro w' l
    try dsimp only at l
    go_simp
    try with_reducible rfl
   try simp only[Act.put]
   refine aT (i:=6) (v:= ?_) rfl (by kernel_rfl) (by kernel_rfl) (by kernel_rfl) (by kernel_rfl) (λ_ _ _ c=>c) rfl ?_ x ?_;rotate_left
   ·intro w' l
    try dsimp only at l
    go_simp
    try with_reducible rfl
   try simp only[Act.put]
   refine aT (i:=7) (v:= ?_) rfl (by kernel_rfl) (by kernel_rfl) (by kernel_rfl) (by kernel_rfl) (λ_ _ _ c=>c) rfl ?_ x ?_;rotate_left
   ·intro w' l
    try dsimp only at l
    go_simp
    try with_reducible rfl
   try simp only[Act.put]
   refine aT (i:=8) (v:= ?_) rfl (by kernel_rfl) (by kernel_rfl) (by kernel_rfl) (by kernel_rfl) (λ_ _ _ c=>c) rfl ?_ x ?_;rotate_left
   ·intro w' l
    try dsimp only at l
    go_simp
    try with_reducible rfl
   try simp only[Act.put]
   refine aT (i:=9) (v:= ?_) rfl (by kernel_rfl) (by kernel_rfl) (by kernel_rfl) (by kernel_rfl) (λ_ _ _ c=>c) rfl ?_ x ?_;rotate_left
   ·intro w' l
    try dsimp only at l
    go_simp
    try with_reducible rfl
   try simp only[Act.put]
   refine aT (i:=10) (v:= ?_) rfl (by kernel_rfl) (by kernel_rfl) (by kernel_rfl) (by kernel_rfl) (λ_ _ _ c=>c) rfl ?_ x ?_;rotate_left
   ·intro w' l
    try dsimp only at l
    go_simp
    try with_reducible rfl
   try simp only[Act.put]
   refine aT (i:=12) (v:= ?_) rfl (by kernel_rfl) (by kernel_rfl) (by kernel_rfl) (by kernel_rfl) (λ_ _ _ c=>c) rfl ?_ x ?_;rotate_left
   ·intro w' l
    try dsimp only at l
    go_simp
    try with_reducible rfl
   try simp only[Act.put]
   refine cT (i:=11) (by kernel_rfl) rfl rfl (λG q=>?_) (by decide)
   go_simp
   refine b6.mono ?_;rintro e u ⟨rfl,bF⟩;have F:=aq (bk.trans (bF.mono bk.size));have a7:=aN u F;refine q _ _ (λ_=>a7) (λ_=>?_);clear q G bF
   try simp only[Act.put,bY,dj,di]
   have bf:=aq (be.trans (F.mono be.size));obtain⟨y,bM⟩:∃y:Obj,y=.cells #[ab next,af nm,ab a.1.1,ab a.1.2.1,af a.1.2.2,ae a.2.1.1 a.2.2.length a.2.1.2] 193:=⟨_,rfl⟩;have ax:Hid (aj u (u.alloc y)):=(ap _ _).alloc (ak _) y;have a4:=aq (aN _ (F.trans (ax.mono F.size)));have aY:=aq (bf.trans (ax.mono bf.size));have bn:Hid ((u.alloc y).ownsRow base 193 6 (ae r L s) L xs):=bi bp (aJ aY λ_=>False) λ_ _ c=>c;have bm:Hid ((u.alloc y).heap[u.heap.size]?=some y):=aE u y;have aa:Hid ((u.alloc y).heap.size=u.heap.size+1):=(show _=_ by simp);have aC:Hid (z.heap.size=E.heap.size+1/\w.heap.size<=E.heap.size/\z.heap.size<=u.heap.size):=⟨D.2.2,aw.size,az A.size F.size⟩;have bz:Hid (In (u.alloc y).heap.size (u.alloc y) (N+1) a):=(bx.below (D.1.trans ((A.trans ((F.trans (ax.mono F.size)).mono A.size)).mono D.1.size))).mono (by have:=aa.out;have:=aC.out;omega);have a2:Hid ((u.alloc y).heap[h]?=some (.cells #[ab k,ab T,ab U,af V,ae xa X xc,ab y0,ab y1,af y2,ae ya yl yc,af nm,ab g] 208)):=(a1 _ (A.trans ((F.trans (ax.mono F.size)).mono A.size))).1;rw[bM]at ax a4 aY bn bm aa bz a2;clear bM y;refine aT (i:=13) (v:= ?_) rfl (by kernel_rfl) (by kernel_rfl) (by kernel_rfl) (by kernel_rfl) (λ_ _ _ c=>c) rfl ?_ a7 ?_;rotate_left
   ·intro w' l
    try dsimp only at l
    go_simp
    try with_reducible rfl
   try simp only[Act.put]
   refine cT (i:=14) (by kernel_rfl) rfl rfl (λG q=>?_) (by decide)
   go_simp
   refine q _ _ (λ_=>a4) (λcq=>?_);clear q G
   try simp only[Act.put,bY,dj,di]
   refine cT (i:=15) (by kernel_rfl) rfl rfl (λG q=>?_) (by decide);refine wp_append_lies _ _ _ 135 rfl base 193 aI _ 6 80 underlying135 aM.1 aM.2.1 aM.2.2.1 aM.2.2.2 rfl (by decide) (ae r L s) L xs rfl bn ⟨u.heap.size,0,none⟩ 1 1 (OW next nm a) rfl rfl (World.news_of_block (cs:= #[ab next,af nm,ab a.1.1,ab a.1.2.1,af a.1.2.2,ae a.2.1.1 a.2.2.length a.2.1.2]) (t:=193) (fr:=(0,0)) bm) (by simp[OW,Value.oneCell']) (by decide) (by unfold maxLen;omega) (by omega) (by have:=aa.out;have:=aC.out;omega) _ rfl ?_;intro Q a5 m bO au a8 ct;have aO:Hid (br (λC=>(Value.slice r L s).ownBlock=some C) w m):=br.trans (aJ aY _) (eh au) λ_ _ e=>e;have b1:Hid ((Value.slice r L s).ownBlock=some Q\/w.heap.size<=Q):=by
    rcases a8 with e|e
    ·exact ah e
    ·exact ai (by have:=aa.out;have:=aC.out;omega)
   have b3:=aq bO;have aP:Hid (∀b,(Value.slice r L s).ownBlock=some b->b<w.heap.size):=λb R=>(bp.lt b R).2;have bw:Hid (In m.heap.size m (N+1) a/\cd (λC=>w.heap.size<=C/\C≠Q) (N+1) a):=by
    have bN:cd (λC=>w.heap.size<=C/\C<E.heap.size) (N+1) a:=(In.offB ca bx).mono λC aH=>⟨az b9 aH.1,aH.2⟩;refine⟨bz.kee (eh au) (bN.mono λC aH e=>?_),bN.mono λC aH=>⟨aH.1,λe=>?_⟩⟩
    ·have:=aP C e;omega
    ·rcases a8 with bA|bA
     ·have:=aP Q bA;omega
     ·have:=aa.out;have:=aC.out;omega
   have Y:Hid (m.heap[f]?=w.heap[f]? /\m.heap[d]?=w.heap[d]? /\m.heap[h]?=some (.cells #[ab k,ab T,ab U,af V,ae xa X xc,ab y0,ab y1,af y2,ae ya yl yc,af nm,ab g] 208)):=by
    refine⟨aO.block f aU a3.1,aO.block d a9 a3.2,(au.block h (aF.1 a2).1 λe=>?_).trans a2⟩;have:=aP h e.symm;have:=aA.2;omega
   have bh:Hid (m.cell? ⟨f,4,none⟩=some (ae r L s)/\m.cell? ⟨f,2,none⟩=some (ab next)/\m.cell? ⟨h,9,none⟩=some (af nm)/\m.cell? ⟨p,0,none⟩=some (ab a.1.1)/\m.cell? ⟨p,1,none⟩=some (ab a.1.2.1)/\m.cell? ⟨p,2,none⟩=some (af a.1.2.2)/\m.cell? ⟨p,3,none⟩=some (ae a.2.1.1 a.2.2.length a.2.1.2)):=by
    have cU:=aa.out;have cV:=aC.out;have cX:=b5.out;have cv:some p≠(Value.slice r L s).ownBlock:=λe=>by
     have:=aP p e.symm;omega
    have k:=λj=>au.cell_far ⟨p,j,none⟩ (by show p<_;omega) cv;obtain⟨cB,cC,cP,cD,cE,cF,cG⟩:=a4;have bI:=λj=>au.cell_far ⟨f,j,none⟩ (by show f<_;omega) λe=>a3.1 e.symm;exact⟨(bI 4).trans cB,(bI 2).trans cC,ag Y.2.2 9,(k 0).trans cD,(k 1).trans cE,(k 2).trans cF,(k 3).trans cG⟩
   clear bO au a8 ct;refine q _ _ (λ_=>bh) (λa6=>?_);clear q G
   try simp only[Act.put,bY]
   refine cT (i:=16) (by kernel_rfl) rfl rfl (λG q=>?_) (by decide)
   go_simp
   refine q _ _ (λ_=>a6) (λ_=>?_);clear q G
   try simp only[Act.put,bY,dj,di]
   refine aT (i:=17) (v:= ?_) rfl (by kernel_rfl) (by kernel_rfl) (by kernel_rfl) (by kernel_rfl) (λ_ _ _ c=>c) rfl ?_ a6 ?_;rotate_left
   ·intro w' l
    try dsimp only at l
    go_simp
    try with_reducible rfl
   try simp only[Act.put,bY]
   have cf:m.frozen? ⟨f,4,none⟩=false:=by
    have B:=K.2.2.2.1 4;unfold World.frozen? at B ⊢;rw[Y.out.1];exact B
   have ce:=bh.1;refine jA (by kernel_rfl) rfl rfl (by kernel_rfl) (λG q=>?_)
   go_simp
   refine q _ _ (NoPanic.normal ?_);clear q G
   try simp only[Act.put,bY,dj,di]
   have bQ:h≠f:=by have:=aA.2;omega
   have cw:h≠d:=by have:=aA.2;omega
   have cJ:f≠h:=λe=>bQ e.symm;have cK:d≠h:=λe=>cw e.symm;have bK:d≠f:=λe=>bJ e.symm;have bj:Hid (∀j,m.cell? ⟨d,j,none⟩=w.cell? ⟨d,j,none⟩/\m.frozen? ⟨d,j,none⟩=false):=λj=>by
    have B:=K.2.2.2.2 j;unfold World.frozen? at B ⊢;unfold World.cell?;rw[Y.out.2.1];exact⟨rfl,B⟩
   have aZ:Hid (∀j,m.cell? ⟨f,j,none⟩=w.cell? ⟨f,j,none⟩/\m.frozen? ⟨f,j,none⟩=false):=λj=>by
    have B:=K.2.2.2.1 j;unfold World.frozen? at B ⊢;unfold World.cell?;rw[Y.out.1];exact⟨rfl,B⟩
   have bu:Hid (∃n,n=m.setCell ⟨f,4,none⟩ (ae (some ⟨Q,0,none⟩) (L+1) a5)/\(n.cell? ⟨f,0,none⟩=some (ae (some ⟨d,0,none⟩) 4 P)/\n.cell? ⟨h,10,none⟩=some (ab g)/\n.cell? ⟨f,2,none⟩=some (ab next))/\(n.cell? ⟨d,g*4,none⟩=some (ab H)/\n.cell? ⟨d,g*4+1,none⟩=some (ab ad)/\n.cell? ⟨d,g*4+2,none⟩=some (af al)/\n.cell? ⟨d,g*4+3,none⟩=some (ae an ar ao))/\(∀j,n.frozen? ⟨d,j,none⟩=false)/\n.frozen? ⟨f,2,none⟩=false):=by
    have bb:=bD m f 4 (ae (some ⟨Q,0,none⟩) (L+1) a5);have bG:d<m.heap.size:=aR a9 aO.size;have cr:=bb.block d bG bK;have aQ:=λj=>((bb.cell j bG bK).trans (bj j).1);refine⟨_,rfl,⟨(dw 0 (by decide)).trans ((aZ 0).1.trans K.2.1),(bb.cell 10 (aF.1 Y.2.2).1 bQ).trans (ag Y.2.2 10),(dw 2 (by decide)).trans ((aZ 2).1.trans K.2.2.1)⟩,⟨(aQ _).trans J.1,(aQ _).trans J.2.1,(aQ _).trans J.2.2.1,(aQ _).trans J.2.2.2⟩,λj=>?_,?_⟩
    ·have B:=(bj j).2;unfold World.frozen? at B ⊢;rw[cr];exact B
    ·rw[gG];exact(aZ 2).2
   go_wp2_with fail;obtain⟨n,bc,⟨bX,bZ,bd⟩,⟨cx,cy,cz,cA⟩,aG,bB⟩:=bu.out;rw[<-bc];have b7:=aq bc;have f0:=aG (g*4);have f1:=aG (g*4+1);have f2:=aG (g*4+2);have f3:=aG (g*4+3);clear bc bu aG x a7 cq a6 cc d3 b0 cg ch ci cj cf ce;have b2:Hid (n.drew.cell? ⟨f,0,none⟩=some (ae (some ⟨d,0,none⟩) 4 P)/\n.drew.cell? ⟨h,10,none⟩=some (ab g)/\n.drew.cell? ⟨f,2,none⟩=some (ab next)):=⟨bX,bZ,bd⟩;go_region_held3 (λW=>W.cell? ⟨f,0,none⟩=some (ae (some ⟨d,0,none⟩) 4 P)/\W.cell? ⟨h,10,none⟩=some (ab g)/\W.cell? ⟨f,2,none⟩=some (ab next)) (first|exact b2|(go_keep;done)) (fail);have bv:Hid (∃aL,aL=(cW n d (g*4) (ab 3) (ab next) (af ⟨#[]⟩) (ae none 0 0)).drew/\aL.cell? ⟨f,2,none⟩=some (ab next)/\aL.frozen? ⟨f,2,none⟩=false):=by
    have bH:(cW n d (g*4) (ab 3) (ab next) (af ⟨#[]⟩) (ae none 0 0)).drew.heap[f]?=n.heap[f]? :=aW (w:=n) (o:=g*4) bJ (ab 3) (ab next) (af ⟨#[]⟩) (ae none 0 0);refine⟨_,rfl,?_,?_⟩
    ·have c:=bd;unfold World.cell? at c ⊢;rw[bH];exact c
    ·have c:=bB;unfold World.frozen? at c ⊢;rw[bH];exact c
   obtain⟨aL,aX,cO,b0⟩:=bv.out;have b8:=aq aX;unfold cW at aX;rw[<-aX];clear aX bv bX bZ bd cx cy cz cA f0 f1 f2 f3 bB;go_wp2_with fail
   go_ret
   exact⟨rfl,λc=>(by cases c),λ_=>⟨a,Q,a5,m,n,aL,cb.out,bw.out.1,bw.out.2,b3.out,aO.out,b1.out,b7.out,b8.out,rfl⟩⟩
end Go.Proofs.YtmmahddlcldmiaaGreatDoor
