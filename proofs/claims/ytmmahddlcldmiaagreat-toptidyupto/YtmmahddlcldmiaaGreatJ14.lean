/- What is proved here: proc's doing.spawn: a process is put behind those that are spawned, and its number is bound. No condition but that all lies in memory. -/
import Derived.Test.YtmmahddlcldmiaaGreatJ13
namespace Go.Proofs.YtmmahddlcldmiaaGreat
open Go.RowKit Go.Proofs.Tryz
set_option maxRecDepth 100000
set_option maxHeartbeats 4000000
theorem Gx:(Tryz.prog.info? 174).map (λi=>(i.zero,i.size,i.bytes))=some (some (.agg #[ab 0,af ⟨#[]⟩,ab 0,ab 0,af ⟨#[]⟩,ae none 0 0]),6,80):=by kernel_rfl
theorem dz{w:World}{b o:Nat}{v:Value}(j:Nat)(a:j≠o):(w.setCell ⟨b,o,none⟩ v).cell? ⟨b,j,none⟩=w.cell? ⟨b,j,none⟩:=by
 unfold World.cell? World.setCell;simp only[bJ];cases h:w.heap[b]? with
 | none=>simp
 | some c=>cases c<;>simp[Ne.symm a]
theorem gI{w:World}{b o j:Nat}{v:Value}:(w.setCell ⟨b,o,none⟩ v).frozen? ⟨b,j,none⟩=w.frozen? ⟨b,j,none⟩:=by
 unfold World.frozen? World.setCell;simp only[bJ];cases h:w.heap[b]? with
 | none=>simp
 | some a=>cases a<;>simp
def Ox{N:Nat}(u:Int)(nm:ByteArray)(a:Tm (N+1)):List Value:=[ab u,af nm,ab a.1.1,ab a.1.2.1,af a.1.2.2,ae a.2.1.1 a.2.2.length a.2.1.2]
def O1(N base g:Nat)(h:Option Addr)(L i:Nat)(xs:List Value)(t:Bool)(next:Int)(nm:ByteArray)(l m:Nat)(o:Option (Tm (N+1)))(w:World)(e:Ending)(w':World):Prop:=
 e=.returned (.bool (o.isSome && t))/\((o.isSome && t)=false->aj w w')/\
  ((o.isSome && t)=true->∃(f:Tm (N+1))(a c:Nat)(b j k:World),ax (N+1) f (N+1) (o.getD (wv N))=true/\In b.heap.size b (N+1) f/\ch (λd=>w.heap.size<=d/\d≠a) (N+1) f/\b.ownsRow base 174 6 (ae (some ⟨a,0,none⟩) (L+1) c) (L+1) (xs++Ox next nm f)/\bt (λd=>(Value.slice h L i).ownBlock=some d) w b/\((Value.slice h L i).ownBlock=some a\/w.heap.size<=a)/\j=b.setCell ⟨g,4,none⟩ (ae (some ⟨a,0,none⟩) (L+1) c)/\k=(dd j l (m*4) (ab 3) (ab next) (af ⟨#[]⟩) (ae none 0 0)).drew/\w'=k.setCell ⟨g,2,none⟩ (ab (next+1)))
theorem Eh(N:Nat)(k T U:Int)(V:ByteArray)(xa:Option Addr)(X xc:Nat)(y0 y1:Int)(y2:ByteArray)(ya:Option Addr)(yl yc:Nat)(nm:ByteArray)(g:Nat)(base f:Nat)(r:Option Addr)(L s:Nat)(xs:List Value)(w:World)(o:Option (Tm (N+1)))(d P:Nat)(next:Int)(H ad:Int)(al:ByteArray)(an:Option Addr)(ar aq:Nat)(cN:g<4)(cH:L<=10000)(aT:f<w.heap.size)(a9:d<w.heap.size)(bJ:f≠d)(cI:base<=w.heap.size)(cL:0<=next)(cM:next<=100000)(cu:nm.size<=2048)(K:Hid (w.cell? ⟨f,4,none⟩=some (ae r L s)/\w.cell? ⟨f,0,none⟩=some (ae (some ⟨d,0,none⟩) 4 P)/\w.cell? ⟨f,2,none⟩=some (ab next)/\(∀j,w.frozen? ⟨f,j,none⟩=false)/\∀j,w.frozen? ⟨d,j,none⟩=false))(bp:Hid (w.ownsRow base 174 6 (ae r L s) L xs))(a3:Hid ((Value.slice r L s).ownBlock≠some f/\(Value.slice r L s).ownBlock≠some d))(J:Hid (w.cell? ⟨d,g*4,none⟩=some (ab H)/\w.cell? ⟨d,g*4+1,none⟩=some (ab ad)/\w.cell? ⟨d,g*4+2,none⟩=some (af al)/\w.cell? ⟨d,g*4+3,none⟩=some (ae an ar aq)))(a0:Hid (∀W,ak 197 #[.agg #[ab H,ab ad,af al,ae an ar aq]] W λe w'=>e=.returned (.bool (!(H==6)))/\aj W w'))(bq:Hid (∀W,aj w W->ak 117 #[aC f,.agg #[ab y0,ab y1,af y2,ae ya yl yc]] W (wY N o W))):ak 187 #[aC f,.agg #[ab k,ab T,ab U,af V,ae xa X xc,ab y0,ab y1,af y2,ae ya yl yc,af nm,ab g]] w (O1 N base f r L s xs (H==6) next nm d g o w):=by
 obtain⟨aI,bL,bS,bT,bU⟩:=bR Gx;have aM:Hid (Tryz.prog.info? 174=some aI/\aI.zero=some (.agg #[ab 0,af ⟨#[]⟩,ab 0,ab 0,af ⟨#[]⟩,ae none 0 0])/\aI.size=6/\aI.bytes=80):=⟨bL,bS,bT,bU⟩;clear bL bS bT bU;obtain⟨t,bQ⟩:∃t,t=(H==6):=⟨_,rfl⟩;rw[<-bQ]at a0 ⊢;clear bQ;have br:Hid (∃aJ h,(aJ=w.alloc (.cells #[ab k,ab T,ab U,af V,ae xa X xc,ab y0,ab y1,af y2,ae ya yl yc,af nm,ab g] 248)/\h=w.heap.size)/\aj w aJ/\aJ.heap[h]?=some (.cells #[ab k,ab T,ab U,af V,ae xa X xc,ab y0,ab y1,af y2,ae ya yl yc,af nm,ab g] 248)):=⟨_,_,⟨rfl,rfl⟩,(ao _ _).alloc (am _) _,aA w _⟩;go_enter func187,ntmps187;go_wp2_with fail;obtain⟨aJ,h,⟨bV,aV⟩,bE,ba⟩:=br.out;rw[<-bV,<-aV];have av:=ap bE;have bg:=ap ba;have aB:Hid (h<aJ.heap.size/\w.heap.size<=h):=⟨(aF.1 ba).1,by omega⟩;clear bV aV bE ba br;refine(bq _ av).mono ?_;rintro e E ⟨a,rfl,O⟩;have aw:=ap (av.trans (O.1.mono av.size));have b4:Hid (E.heap[h]?=some (.cells #[ab k,ab T,ab U,af V,ae xa X xc,ab y0,ab y1,af y2,ae ya yl yc,af nm,ab g] 248)):=(O.1.block h aB.1).trans bg;have bo:Hid (h<E.heap.size):=aR aB.1 O.1.size;have bx:=ap O.2.1;have ca:=ap O.2.2.1;have cb:=ap O.2.2.2;have b9:=ap av.size;clear O bq av bg;have bs:Hid (∃z p,(z=E.alloc (.cells #[ab a.1.1,ab a.1.2.1,af a.1.2.2,ae a.2.1.1 a.2.2.length a.2.1.2] 31)/\p=E.heap.size)/\aj E z/\z.heap[p]?=some (.cells #[ab a.1.1,ab a.1.2.1,af a.1.2.2,ae a.2.1.1 a.2.2.length a.2.1.2] 31)/\z.heap.size=E.heap.size+1):=⟨_,_,⟨rfl,rfl⟩,(ao _ _).alloc (am _) _,aA _ _,by simp⟩;cases o with
 | none=>
  simp only[mX];go_wp2_with fail;go_region
  all_goals
   go_wp2_with fail
   go_ret
   exact⟨rfl,λ_=>(aw.alloc aw.size _).drew,λc=>(by cases c)⟩
 | some cS=>
  simp only[mY];go_wp2_with fail;obtain⟨z,p,⟨bW,M⟩,D⟩:=bs.out;rw[<-bW,<-M];have b5:Hid (p=E.heap.size):=M;replace D:=ap D;clear bW M bs;have I:=ap (aw.trans (D.1.mono aw.size));have a1:Hid (∀W:World,aj z W->W.heap[h]?=some (.cells #[ab k,ab T,ab U,af V,ae xa X xc,ab y0,ab y1,af y2,ae ya yl yc,af nm,ab g] 248)/\W.heap[p]?=some (.cells #[ab a.1.1,ab a.1.2.1,af a.1.2.2,ae a.2.1.1 a.2.2.length a.2.1.2] 31)):=λW c=>⟨(c.block h (by have:=bo.out;have:=D.2.2;omega)).trans ((D.1.block h bo).trans b4),(c.block p (aF.1 D.2.1).1).trans D.2.1⟩;have ay:Hid (∀W:World,aj z W->(W.cell? ⟨f,0,none⟩=some (ae (some ⟨d,0,none⟩) 4 P)/\W.cell? ⟨h,10,none⟩=some (ab g))/\W.cell? ⟨d,g*4,none⟩=some (ab H)/\W.cell? ⟨d,g*4+1,none⟩=some (ab ad)/\W.cell? ⟨d,g*4+2,none⟩=some (af al)/\W.cell? ⟨d,g*4+3,none⟩=some (ae an ar aq)):=λW c=>by
   have R:=I.trans (c.mono I.size);have aS:=λj=>R.cell (p:=⟨d,j,none⟩) a9;exact⟨⟨(R.cell (p:=⟨f,0,none⟩) aT).trans K.2.1,ag (a1 W c).1 10⟩,(aS _).trans J.1,(aS _).trans J.2.1,(aS _).trans J.2.2.1,(aS _).trans J.2.2.2⟩
  obtain⟨⟨ck,cl⟩,cm,cn,co,cp⟩:=ay.out z (ao _ _);have Z:Hid (aj z z.drew):=(ao _ _).drew;have cQ:(0:Int)<=(g:Int):=by omega
  have cR:(g:Int)<4:=by omega
  have bl:=ap (a0 z.drew);clear a0;cases t
  ·go_region_held3 (λW=>(W.cell? ⟨f,0,none⟩=some (ae (some ⟨d,0,none⟩) 4 P)/\W.cell? ⟨h,10,none⟩=some (ab g))/\W.cell? ⟨d,g*4,none⟩=some (ab H)/\W.cell? ⟨d,g*4+1,none⟩=some (ab ad)/\W.cell? ⟨d,g*4+2,none⟩=some (af al)/\W.cell? ⟨d,g*4+3,none⟩=some (ae an ar aq)) (first|(go_keep;done)|exact ay _ Z|exact ay _ A) ((first
     | (go_at_call 197;refine bl.mono ?_;rintro e S ⟨rfl,aE⟩;have A:=ap (Z.trans (aE.mono Z.size));clear aE)))
   go_wp2_with fail
   go_ret
   exact⟨rfl,λ_=>I.trans (A.mono I.size),λc=>(by cases c)⟩
  ·go_region_held3 (λW=>(W.cell? ⟨f,0,none⟩=some (ae (some ⟨d,0,none⟩) 4 P)/\W.cell? ⟨h,10,none⟩=some (ab g))/\W.cell? ⟨d,g*4,none⟩=some (ab H)/\W.cell? ⟨d,g*4+1,none⟩=some (ab ad)/\W.cell? ⟨d,g*4+2,none⟩=some (af al)/\W.cell? ⟨d,g*4+3,none⟩=some (ae an ar aq)) (first|(go_keep;done)|exact ay _ Z|exact ay _ A) ((first
     | (go_at_call 197;refine bl.mono ?_;rintro e S ⟨rfl,aE⟩;have A:=ap (Z.trans (aE.mono Z.size));clear aE)))
   clear ck cl cm cn co cp;go_wp2_with fail;have be:=ap (I.trans (A.mono I.size));have aN:Hid (∀W:World,aj S W->W.cell? ⟨f,4,none⟩=some (ae r L s)/\W.cell? ⟨f,2,none⟩=some (ab next)/\W.cell? ⟨h,9,none⟩=some (af nm)/\W.cell? ⟨p,0,none⟩=some (ab a.1.1)/\W.cell? ⟨p,1,none⟩=some (ab a.1.2.1)/\W.cell? ⟨p,2,none⟩=some (af a.1.2.2)/\W.cell? ⟨p,3,none⟩=some (ae a.2.1.1 a.2.2.length a.2.1.2)):=λW c=>by
    have bD:=A.trans (c.mono A.size);have R:=I.trans (bD.mono I.size);obtain⟨aV,M⟩:=a1.out W bD;exact⟨(R.cell (p:=⟨f,4,none⟩) aT).trans K.1,(R.cell (p:=⟨f,2,none⟩) aT).trans K.2.2.1,ag aV 9,ag M 0,ag M 1,ag M 2,ag M 3⟩
   have x:=aN S.drew (ao _ _).drew;have bj:Hid (aj S S.drew):=(ao _ _).drew;obtain⟨cc,d3,b0,cf,cg,ci,cj⟩:=aN.out S (ao _ _);have b6:=ap (dR nm S.drew cu);refine wp_region_noPanic ?_;refine jE (λW=>W.cell? ⟨f,4,none⟩=some (ae r L s)/\W.cell? ⟨f,2,none⟩=some (ab next)/\W.cell? ⟨h,9,none⟩=some (af nm)/\W.cell? ⟨p,0,none⟩=some (ab a.1.1)/\W.cell? ⟨p,1,none⟩=some (ab a.1.2.1)/\W.cell? ⟨p,2,none⟩=some (af a.1.2.2)/\W.cell? ⟨p,3,none⟩=some (ae a.2.1.1 a.2.2.length a.2.1.2)) 18 (by kernel_rfl) ?_
   try simp only[dO]
   refine aU (i:=0) (v:= ?_) rfl (by kernel_rfl) (by kernel_rfl) (by kernel_rfl) (by kernel_rfl) (λ_ _ _ c=>c) rfl ?_ x ?_;rotate_left
   ·intro w' l
    try dsimp only at l
    go_simp
    try with_reducible rfl
   try simp only[Act.put,bY]
   refine aU (i:=1) (v:= ?_) rfl (by kernel_rfl) (by kernel_rfl) (by kernel_rfl) (by kernel_rfl) (λ_ _ _ c=>c) rfl ?_ x ?_;rotate_left
   ·intro w' l
    try dsimp only at l
    go_simp
    try with_reducible rfl
   try simp only[Act.put]
   refine aU (i:=2) (v:= ?_) rfl (by kernel_rfl) (by kernel_rfl) (by kernel_rfl) (by kernel_rfl) (λ_ _ _ c=>c) rfl ?_ x ?_;rotate_left
   ·intro w' l
    try dsimp only at l
    go_simp
    try with_reducible rfl
   try simp only[Act.put]
   refine aU (i:=3) (v:= ?_) rfl (by kernel_rfl) (by kernel_rfl) (by kernel_rfl) (by kernel_rfl) (λ_ _ _ c=>c) rfl ?_ x ?_;rotate_left
   ·intro w' l
    try dsimp only at l
    go_simp
    try with_reducible rfl
   try simp only[Act.put]
   refine aU (i:=4) (v:= ?_) rfl (by kernel_rfl) (by kernel_rfl) (by kernel_rfl) (by kernel_rfl) (λ_ _ _ c=>c) rfl ?_ x ?_;rotate_left
   ·intro w' l
    try dsimp only at l
    go_simp
    try with_reducible rfl
   try simp only[Act.put]
   refine aU (i:=5) (v:= ?_) rfl (by kernel_rfl) (by kernel_rfl) (by kernel_rfl) (by kernel_rfl) (λ_ _ _ c=>c) rfl ?_ x ?_;rotate_left
   ·intro w' l
    try dsimp only at l
    go_simp
    try with_reducible rfl
   try simp only[Act.put]
   refine aU (i:=6) (v:= ?_) rfl (by kernel_rfl) (by kernel_rfl) (by kernel_rfl) (by kernel_rfl) (λ_ _ _ c=>c) rfl ?_ x ?_;rotate_left
   ·intro w' l
    try dsimp only at l
    go_simp
    try with_reducible rfl
   try simp only[Act.put]
   refine aU (i:=7) (v:= ?_) rfl (by kernel_rfl) (by kernel_rfl) (by kernel_rfl) (by kernel_rfl) (λ_ _ _ c=>c) rfl ?_ x ?_;rotate_left
   ·intro w' l
    try dsimp only at l
    go_simp
    try with_reducible rfl
   try simp only[Act.put]
   refine aU (i:=8) (v:= ?_) rfl (by kernel_rfl) (by kernel_rfl) (by kernel_rfl) (by kernel_rfl) (λ_ _ _ c=>c) rfl ?_ x ?_;rotate_left
   ·intro w' l
    try dsimp only at l
    go_simp
    try with_reducible rfl
   try simp only[Act.put]
   refine aU (i:=9) (v:= ?_) rfl (by kernel_rfl) (by kernel_rfl) (by kernel_rfl) (by kernel_rfl) (λ_ _ _ c=>c) rfl ?_ x ?_;rotate_left
   ·intro w' l
    try dsimp only at l
    go_simp
    try with_reducible rfl
   try simp only[Act.put]
   refine aU (i:=10) (v:= ?_) rfl (by kernel_rfl) (by kernel_rfl) (by kernel_rfl) (by kernel_rfl) (λ_ _ _ c=>c) rfl ?_ x ?_;rotate_left
   ·intro w' l
    try dsimp only at l
    go_simp
    try with_reducible rfl
   try simp only[Act.put]
   refine aU (i:=12) (v:= ?_) rfl (by kernel_rfl) (by kernel_rfl) (by kernel_rfl) (by kernel_rfl) (λ_ _ _ c=>c) rfl ?_ x ?_;rotate_left
   ·intro w' l
    try dsimp only at l
    go_simp
    try with_reducible rfl
   try simp only[Act.put]
   refine cZ (i:=11) (by kernel_rfl) rfl rfl (λG q=>?_) (by decide)
   go_simp
   refine b6.mono ?_;rintro e u ⟨rfl,bF⟩;have F:=ap (bj.trans (bF.mono bj.size));have a7:=aN u F;refine q _ _ (λ_=>a7) (λ_=>?_);clear q G bF
   try simp only[Act.put,bY,dn,dm]
   have bf:=ap (be.trans (F.mono be.size));obtain⟨y,bM⟩:∃y:Obj,y=.cells #[ab next,af nm,ab a.1.1,ab a.1.2.1,af a.1.2.2,ae a.2.1.1 a.2.2.length a.2.1.2] 174:=⟨_,rfl⟩;have ax:Hid (aj u (u.alloc y)):=(ao _ _).alloc (am _) y;have a4:=ap (aN _ (F.trans (ax.mono F.size)));have aY:=ap (bf.trans (ax.mono bf.size));have bn:Hid ((u.alloc y).ownsRow base 174 6 (ae r L s) L xs):=bk bp (aK aY λ_=>False) λ_ _ c=>c;have bm:Hid ((u.alloc y).heap[u.heap.size]?=some y):=aA u y;have aa:Hid ((u.alloc y).heap.size=u.heap.size+1):=(show _=_ by simp);have aD:Hid (z.heap.size=E.heap.size+1/\w.heap.size<=E.heap.size/\z.heap.size<=u.heap.size):=⟨D.2.2,aw.size,az A.size F.size⟩;have bz:Hid (In (u.alloc y).heap.size (u.alloc y) (N+1) a):=(bx.below (D.1.trans ((A.trans ((F.trans (ax.mono F.size)).mono A.size)).mono D.1.size))).mono (by have:=aa.out;have:=aD.out;omega);have a2:Hid ((u.alloc y).heap[h]?=some (.cells #[ab k,ab T,ab U,af V,ae xa X xc,ab y0,ab y1,af y2,ae ya yl yc,af nm,ab g] 248)):=(a1 _ (A.trans ((F.trans (ax.mono F.size)).mono A.size))).1;rw[bM]at ax a4 aY bn bm aa bz a2;clear bM y;refine aU (i:=13) (v:= ?_) rfl (by kernel_rfl) (by kernel_rfl) (by kernel_rfl) (by kernel_rfl) (λ_ _ _ c=>c) rfl ?_ a7 ?_;rotate_left
   ·intro w' l
    try dsimp only at l
    go_simp
    try with_reducible rfl
   try simp only[Act.put]
   refine cZ (i:=14) (by kernel_rfl) rfl rfl (λG q=>?_) (by decide)
   go_simp
   refine q _ _ (λ_=>a4) (λcq=>?_);clear q G
   try simp only[Act.put,bY,dn,dm]
   refine cZ (i:=15) (by kernel_rfl) rfl rfl (λG q=>?_) (by decide);refine wp_append_lies _ _ _ 115 rfl base 174 aI _ 6 80 underlying115 aM.1 aM.2.1 aM.2.2.1 aM.2.2.2 rfl (by decide) (ae r L s) L xs rfl bn ⟨u.heap.size,0,none⟩ 1 1 (Ox next nm a) rfl rfl (World.news_of_block (cs:= #[ab next,af nm,ab a.1.1,ab a.1.2.1,af a.1.2.2,ae a.2.1.1 a.2.2.length a.2.1.2]) (t:=174) (fr:=(0,0)) bm) (by simp[Ox,Value.oneCell']) (by decide) (by unfold maxLen;omega) (by omega) (by have:=aa.out;have:=aD.out;omega) _ rfl ?_;intro Q a5 m bO au a8 ct;have aO:Hid (bt (λC=>(Value.slice r L s).ownBlock=some C) w m):=bt.trans (aK aY _) (eu au) λ_ _ e=>e;have b1:Hid ((Value.slice r L s).ownBlock=some Q\/w.heap.size<=Q):=by
    rcases a8 with e|e
    ·exact ah e
    ·exact ai (by have:=aa.out;have:=aD.out;omega)
   have b3:=ap bO;have aP:Hid (∀b,(Value.slice r L s).ownBlock=some b->b<w.heap.size):=λb R=>(bp.lt b R).2;have bw:Hid (In m.heap.size m (N+1) a/\ch (λC=>w.heap.size<=C/\C≠Q) (N+1) a):=by
    have bN:ch (λC=>w.heap.size<=C/\C<E.heap.size) (N+1) a:=(In.offB ca bx).mono λC aH=>⟨az b9 aH.1,aH.2⟩;refine⟨bz.kee (eu au) (bN.mono λC aH e=>?_),bN.mono λC aH=>⟨aH.1,λe=>?_⟩⟩
    ·have:=aP C e;omega
    ·rcases a8 with bA|bA
     ·have:=aP Q bA;omega
     ·have:=aa.out;have:=aD.out;omega
   have Y:Hid (m.heap[f]?=w.heap[f]? /\m.heap[d]?=w.heap[d]? /\m.heap[h]?=some (.cells #[ab k,ab T,ab U,af V,ae xa X xc,ab y0,ab y1,af y2,ae ya yl yc,af nm,ab g] 248)):=by
    refine⟨aO.block f aT a3.1,aO.block d a9 a3.2,(au.block h (aF.1 a2).1 λe=>?_).trans a2⟩;have:=aP h e.symm;have:=aB.2;omega
   have bh:Hid (m.cell? ⟨f,4,none⟩=some (ae r L s)/\m.cell? ⟨f,2,none⟩=some (ab next)/\m.cell? ⟨h,9,none⟩=some (af nm)/\m.cell? ⟨p,0,none⟩=some (ab a.1.1)/\m.cell? ⟨p,1,none⟩=some (ab a.1.2.1)/\m.cell? ⟨p,2,none⟩=some (af a.1.2.2)/\m.cell? ⟨p,3,none⟩=some (ae a.2.1.1 a.2.2.length a.2.1.2)):=by
    have cT:=aa.out;have cU:=aD.out;have cV:=b5.out;have cv:some p≠(Value.slice r L s).ownBlock:=λe=>by
     have:=aP p e.symm;omega
    have k:=λj=>au.cell_far ⟨p,j,none⟩ (by show p<_;omega) cv;obtain⟨cB,cC,cP,cD,cE,cF,cG⟩:=a4;have bI:=λj=>au.cell_far ⟨f,j,none⟩ (by show f<_;omega) λe=>a3.1 e.symm;exact⟨(bI 4).trans cB,(bI 2).trans cC,ag Y.2.2 9,(k 0).trans cD,(k 1).trans cE,(k 2).trans cF,(k 3).trans cG⟩
   clear bO au a8 ct;refine q _ _ (λ_=>bh) (λa6=>?_);clear q G
   try simp only[Act.put,bY]
   refine cZ (i:=16) (by kernel_rfl) rfl rfl (λG q=>?_) (by decide)
   go_simp
   refine q _ _ (λ_=>a6) (λ_=>?_);clear q G
   try simp only[Act.put,bY,dn,dm]
   refine aU (i:=17) (v:= ?_) rfl (by kernel_rfl) (by kernel_rfl) (by kernel_rfl) (by kernel_rfl) (λ_ _ _ c=>c) rfl ?_ a6 ?_;rotate_left
   ·intro w' l
    try dsimp only at l
    go_simp
    try with_reducible rfl
   try simp only[Act.put,bY]
   have ce:m.frozen? ⟨f,4,none⟩=false:=by
    have B:=K.2.2.2.1 4;unfold World.frozen? at B ⊢;rw[Y.out.1];exact B
   have cd:=bh.1;refine jD (by kernel_rfl) rfl rfl (by kernel_rfl) (λG q=>?_)
   go_simp
   refine q _ _ (NoPanic.normal ?_);clear q G
   try simp only[Act.put,bY,dn,dm]
   have bP:h≠f:=by have:=aB.2;omega
   have cw:h≠d:=by have:=aB.2;omega
   have cJ:f≠h:=λe=>bP e.symm;have cK:d≠h:=λe=>cw e.symm;have bK:d≠f:=λe=>bJ e.symm;have bi:Hid (∀j,m.cell? ⟨d,j,none⟩=w.cell? ⟨d,j,none⟩/\m.frozen? ⟨d,j,none⟩=false):=λj=>by
    have B:=K.2.2.2.2 j;unfold World.frozen? at B ⊢;unfold World.cell?;rw[Y.out.2.1];exact⟨rfl,B⟩
   have aZ:Hid (∀j,m.cell? ⟨f,j,none⟩=w.cell? ⟨f,j,none⟩/\m.frozen? ⟨f,j,none⟩=false):=λj=>by
    have B:=K.2.2.2.1 j;unfold World.frozen? at B ⊢;unfold World.cell?;rw[Y.out.1];exact⟨rfl,B⟩
   have bu:Hid (∃n,n=m.setCell ⟨f,4,none⟩ (ae (some ⟨Q,0,none⟩) (L+1) a5)/\(n.cell? ⟨f,0,none⟩=some (ae (some ⟨d,0,none⟩) 4 P)/\n.cell? ⟨h,10,none⟩=some (ab g)/\n.cell? ⟨f,2,none⟩=some (ab next))/\(n.cell? ⟨d,g*4,none⟩=some (ab H)/\n.cell? ⟨d,g*4+1,none⟩=some (ab ad)/\n.cell? ⟨d,g*4+2,none⟩=some (af al)/\n.cell? ⟨d,g*4+3,none⟩=some (ae an ar aq))/\(∀j,n.frozen? ⟨d,j,none⟩=false)/\n.frozen? ⟨f,2,none⟩=false):=by
    have bb:=bC m f 4 (ae (some ⟨Q,0,none⟩) (L+1) a5);have bG:d<m.heap.size:=aR a9 aO.size;have cr:=bb.block d bG bK;have aQ:=λj=>((bb.cell j bG bK).trans (bi j).1);refine⟨_,rfl,⟨(dz 0 (by decide)).trans ((aZ 0).1.trans K.2.1),(bb.cell 10 (aF.1 Y.2.2).1 bP).trans (ag Y.2.2 10),(dz 2 (by decide)).trans ((aZ 2).1.trans K.2.2.1)⟩,⟨(aQ _).trans J.1,(aQ _).trans J.2.1,(aQ _).trans J.2.2.1,(aQ _).trans J.2.2.2⟩,λj=>?_,?_⟩
    ·have B:=(bi j).2;unfold World.frozen? at B ⊢;rw[cr];exact B
    ·rw[gI];exact(aZ 2).2
   go_wp2_with fail;obtain⟨n,bc,⟨bX,bZ,bd⟩,⟨cx,cy,cz,cA⟩,aG,bB⟩:=bu.out;rw[<-bc];have b7:=ap bc;have f0:=aG (g*4);have f1:=aG (g*4+1);have f2:=aG (g*4+2);have f3:=aG (g*4+3);clear bc bu aG x a7 cq a6 cc d3 b0 cf cg ci cj ce cd;have b2:Hid (n.drew.cell? ⟨f,0,none⟩=some (ae (some ⟨d,0,none⟩) 4 P)/\n.drew.cell? ⟨h,10,none⟩=some (ab g)/\n.drew.cell? ⟨f,2,none⟩=some (ab next)):=⟨bX,bZ,bd⟩;go_region_held3 (λW=>W.cell? ⟨f,0,none⟩=some (ae (some ⟨d,0,none⟩) 4 P)/\W.cell? ⟨h,10,none⟩=some (ab g)/\W.cell? ⟨f,2,none⟩=some (ab next)) (first|exact b2|(go_keep;done)) (fail);have bv:Hid (∃aL,aL=(dd n d (g*4) (ab 3) (ab next) (af ⟨#[]⟩) (ae none 0 0)).drew/\aL.cell? ⟨f,2,none⟩=some (ab next)/\aL.frozen? ⟨f,2,none⟩=false):=by
    have bH:(dd n d (g*4) (ab 3) (ab next) (af ⟨#[]⟩) (ae none 0 0)).drew.heap[f]?=n.heap[f]? :=aX (w:=n) (o:=g*4) bJ (ab 3) (ab next) (af ⟨#[]⟩) (ae none 0 0);refine⟨_,rfl,?_,?_⟩
    ·have c:=bd;unfold World.cell? at c ⊢;rw[bH];exact c
    ·have c:=bB;unfold World.frozen? at c ⊢;rw[bH];exact c
   obtain⟨aL,aW,cO,b0⟩:=bv.out;have b8:=ap aW;unfold dd at aW;rw[<-aW];clear aW bv bX bZ bd cx cy cz cA f0 f1 f2 f3 bB;go_wp2_with fail
   go_ret
   exact⟨rfl,λc=>(by cases c),λ_=>⟨a,Q,a5,m,n,aL,cb.out,bw.out.1,bw.out.2,b3.out,aO.out,b1.out,b7.out,b8.out,rfl⟩⟩
end Go.Proofs.YtmmahddlcldmiaaGreat
