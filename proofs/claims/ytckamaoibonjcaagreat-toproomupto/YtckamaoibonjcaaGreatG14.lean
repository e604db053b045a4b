/- What is proved here: proc's doing.spawn: a process is put behind those that are spawned, and its number is bound. No condition but that all lies in memory. -/
import Derived.Test.YtckamaoibonjcaaGreatG13
namespace Go.Proofs.YtckamaoibonjcaaGreat
open Go.RowKit
set_option maxRecDepth 100000
set_option maxHeartbeats 4000000
theorem Fe:(Tryz.prog.info? 159).map (λi=>(i.zero,i.size,i.bytes))=some (some (.agg #[.int .i64 0,.string ⟨#[]⟩,.int .i64 0,.int .i64 0,.string ⟨#[]⟩,.slice none 0 0]),6,80):=by kernel_rfl
theorem di{w:World}{b o:Nat}{v:Value}(j:Nat)(a:j≠o):(w.setCell ⟨b,o,none⟩ v).cell? ⟨b,j,none⟩=w.cell? ⟨b,j,none⟩:=by
 unfold World.cell? World.setCell;simp only[bC];cases h:w.heap[b]? with
 | none=>simp
 | some c=>cases c<;>simp[Ne.symm a]
theorem gi{w:World}{b o j:Nat}{v:Value}:(w.setCell ⟨b,o,none⟩ v).frozen? ⟨b,j,none⟩=w.frozen? ⟨b,j,none⟩:=by
 unfold World.frozen? World.setCell;simp only[bC];cases h:w.heap[b]? with
 | none=>simp
 | some a=>cases a<;>simp
def MM{N:Nat}(b:Int)(nm:ByteArray)(a:Tm (N+1)):List Value:=[.int .i64 b,.string nm,.int .i64 a.1.1,.int .i64 a.1.2.1,.string a.1.2.2,.slice a.2.1.1 a.2.2.length a.2.1.2]
def Ni(N base g:Nat)(h:Option Addr)(L i:Nat)(xs:List Value)(t:Bool)(next:Int)(nm:ByteArray)(l m:Nat)(o:Option (Tm (N+1)))(w:World)(e:Ending)(w':World):Prop:=
 e=.returned (.bool (o.isSome && t))/\((o.isSome && t)=false->ag w w')/\
  ((o.isSome && t)=true->∃(f:Tm (N+1))(a c:Nat)(b j k:World),au (N+1) f (N+1) (o.getD (uZ N))=true/\In b.heap.size b (N+1) f/\bV (λd=>w.heap.size<=d/\d≠a) (N+1) f/\b.ownsRow base 159 6 (.slice (some ⟨a,0,none⟩) (L+1) c) (L+1) (xs++MM next nm f)/\bi (λd=>(Value.slice h L i).ownBlock=some d) w b/\((Value.slice h L i).ownBlock=some a\/w.heap.size<=a)/\j=b.setCell ⟨g,4,none⟩ (.slice (some ⟨a,0,none⟩) (L+1) c)/\k=(cE j l (m*4) (.int .i64 3) (.int .i64 next) (.string ⟨#[]⟩) (.slice none 0 0)).drew/\w'=k.setCell ⟨g,2,none⟩ (.int .i64 (next+1)))
theorem C6(N:Nat)(k T U:Int)(V:ByteArray)(xa:Option Addr)(X xc:Nat)(y0 y1:Int)(y2:ByteArray)(ya:Option Addr)(yl yc:Nat)(nm:ByteArray)(g:Nat)(base f:Nat)(r:Option Addr)(L s:Nat)(xs:List Value)(w:World)(o:Option (Tm (N+1)))(d P:Nat)(next:Int)(H ad:Int)(al:ByteArray)(am:Option Addr)(ao an:Nat)(cQ:g<4)(cJ:L<=10000)(aQ:f<w.heap.size)(a6:d<w.heap.size)(bF:f≠d)(cK:base<=w.heap.size)(cN:0<=next)(cO:next<=100000)(cv:nm.size<=2048)(K:Hid (w.cell? ⟨f,4,none⟩=some (.slice r L s)/\w.cell? ⟨f,0,none⟩=some (.slice (some ⟨d,0,none⟩) 4 P)/\w.cell? ⟨f,2,none⟩=some (.int .i64 next)/\(∀j,w.frozen? ⟨f,j,none⟩=false)/\∀j,w.frozen? ⟨d,j,none⟩=false))(bm:Hid (w.ownsRow base 159 6 (.slice r L s) L xs))(a0:Hid ((Value.slice r L s).ownBlock≠some f/\(Value.slice r L s).ownBlock≠some d))(J:Hid (w.cell? ⟨d,g*4,none⟩=some (.int .i64 H)/\w.cell? ⟨d,g*4+1,none⟩=some (.int .i64 ad)/\w.cell? ⟨d,g*4+2,none⟩=some (.string al)/\w.cell? ⟨d,g*4+3,none⟩=some (.slice am ao an)))(aX:Hid (∀W,ah 170 #[.agg #[.int .i64 H,.int .i64 ad,.string al,.slice am ao an]] W λe w'=>e=.returned (.bool (!(H==6)))/\ag W w'))(bn:Hid (∀W,ag w W->ah 103 #[.pointer (some ⟨f,0,none⟩),.agg #[.int .i64 y0,.int .i64 y1,.string y2,.slice ya yl yc]] W (vB N o W))):ah 162 #[.pointer (some ⟨f,0,none⟩),.agg #[.int .i64 k,.int .i64 T,.int .i64 U,.string V,.slice xa X xc,.int .i64 y0,.int .i64 y1,.string y2,.slice ya yl yc,.string nm,.int .i64 g]] w (Ni N base f r L s xs (H==6) next nm d g o w):=by
 obtain⟨aF,bH,bN,bQ,bR⟩:=bO Fe;have aI:Hid (Tryz.prog.info? 159=some aF/\aF.zero=some (.agg #[.int .i64 0,.string ⟨#[]⟩,.int .i64 0,.int .i64 0,.string ⟨#[]⟩,.slice none 0 0])/\aF.size=6/\aF.bytes=80):=⟨bH,bN,bQ,bR⟩;clear bH bN bQ bR;obtain⟨t,bM⟩:∃t,t=(H==6):=⟨_,rfl⟩;rw[<-bM]at aX ⊢;clear bM;have bo:Hid (∃aG h,(aG=w.alloc (.cells #[.int .i64 k,.int .i64 T,.int .i64 U,.string V,.slice xa X xc,.int .i64 y0,.int .i64 y1,.string y2,.slice ya yl yc,.string nm,.int .i64 g] 224)/\h=w.heap.size)/\ag w aG/\aG.heap[h]?=some (.cells #[.int .i64 k,.int .i64 T,.int .i64 U,.string V,.slice xa X xc,.int .i64 y0,.int .i64 y1,.string y2,.slice ya yl yc,.string nm,.int .i64 g] 224)):=⟨_,_,⟨rfl,rfl⟩,(ak _ _).alloc (ai _) _,ax w _⟩;go_enter Tryz.func162,Tryz.ntmps162;go_wp2_with fail;obtain⟨aG,h,⟨bS,aS⟩,bA,a7⟩:=bo.out;rw[<-bS,<-aS];have aq:=aj bA;have bd:=aj a7;have ay:Hid (h<aG.heap.size/\w.heap.size<=h):=⟨(aA.1 a7).1,by omega⟩;clear bS aS bA a7 bo;refine(bn.out _ aq.out).mono ?_;rintro e E ⟨a,rfl,O⟩;have ar:=aj (aq.out.trans (O.out.1.mono aq.out.size));have b1:Hid (E.heap[h]?=some (.cells #[.int .i64 k,.int .i64 T,.int .i64 U,.string V,.slice xa X xc,.int .i64 y0,.int .i64 y1,.string y2,.slice ya yl yc,.string nm,.int .i64 g] 224)):=(O.out.1.block h ay.out.1).trans bd.out;have bl:Hid (h<E.heap.size):=aJ ay.out.1 O.out.1.size;have bu:=aj O.out.2.1;have b7:=aj O.out.2.2.1;have b8:=aj O.out.2.2.2;have b6:=aj aq.out.size;clear O bn aq bd;have bp:Hid (∃z p,(z=E.alloc (.cells #[.int .i64 a.1.1,.int .i64 a.1.2.1,.string a.1.2.2,.slice a.2.1.1 a.2.2.length a.2.1.2] 30)/\p=E.heap.size)/\ag E z/\z.heap[p]?=some (.cells #[.int .i64 a.1.1,.int .i64 a.1.2.1,.string a.1.2.2,.slice a.2.1.1 a.2.2.length a.2.1.2] 30)/\z.heap.size=E.heap.size+1):=⟨_,_,⟨rfl,rfl⟩,(ak _ _).alloc (ai _) _,ax _ _,by simp⟩;cases o with
 | none=>
  simp only[mh];go_wp2_with fail;go_region
  all_goals
   go_wp2_with fail
   go_ret
   exact⟨rfl,λ_=>(ar.out.alloc ar.out.size _).drew,λc=>(by cases c)⟩
 | some cV=>
  simp only[mi];go_wp2_with fail;obtain⟨z,p,⟨bT,M⟩,D⟩:=bp.out;rw[<-bT,<-M];have b2:Hid (p=E.heap.size):=M;replace D:=aj D;clear bT M bp;have I:=aj (ar.out.trans (D.out.1.mono ar.out.size));have aY:Hid (∀W:World,ag z W->W.heap[h]?=some (.cells #[.int .i64 k,.int .i64 T,.int .i64 U,.string V,.slice xa X xc,.int .i64 y0,.int .i64 y1,.string y2,.slice ya yl yc,.string nm,.int .i64 g] 224)/\W.heap[p]?=some (.cells #[.int .i64 a.1.1,.int .i64 a.1.2.1,.string a.1.2.2,.slice a.2.1.1 a.2.2.length a.2.1.2] 30)):=λW c=>⟨(c.block h (by have:=bl.out;have:=D.out.2.2;omega)).trans ((D.out.1.block h bl.out).trans b1.out),(c.block p (aA.1 D.out.2.1).1).trans D.out.2.1⟩;have av:Hid (∀W:World,ag z W->(W.cell? ⟨f,0,none⟩=some (.slice (some ⟨d,0,none⟩) 4 P)/\W.cell? ⟨h,10,none⟩=some (.int .i64 g))/\W.cell? ⟨d,g*4,none⟩=some (.int .i64 H)/\W.cell? ⟨d,g*4+1,none⟩=some (.int .i64 ad)/\W.cell? ⟨d,g*4+2,none⟩=some (.string al)/\W.cell? ⟨d,g*4+3,none⟩=some (.slice am ao an)):=λW c=>by
   have R:=I.out.trans (c.mono I.out.size);have aP:=λj=>R.cell (p:=⟨d,j,none⟩) a6;exact⟨⟨(R.cell (p:=⟨f,0,none⟩) aQ).trans K.out.2.1,ab (aY.out W c).1 10⟩,(aP _).trans J.out.1,(aP _).trans J.out.2.1,(aP _).trans J.out.2.2.1,(aP _).trans J.out.2.2.2⟩
  obtain⟨⟨cl,cm⟩,cn,co,cp,cq⟩:=av.out z (ak _ _);have Z:Hid (ag z z.drew):=(ak _ _).drew;have cT:(0:Int)<=(g:Int):=by omega
  have cU:(g:Int)<4:=by omega
  have bh:=aj (aX.out z.drew);clear aX;cases t
  ·go_region_held3 (λW=>(W.cell? ⟨f,0,none⟩=some (.slice (some ⟨d,0,none⟩) 4 P)/\W.cell? ⟨h,10,none⟩=some (.int .i64 g))/\W.cell? ⟨d,g*4,none⟩=some (.int .i64 H)/\W.cell? ⟨d,g*4+1,none⟩=some (.int .i64 ad)/\W.cell? ⟨d,g*4+2,none⟩=some (.string al)/\W.cell? ⟨d,g*4+3,none⟩=some (.slice am ao an)) (first|(go_keep;done)|exact av.out _ Z.out|exact av.out _ A.out) ((first
     | (go_at_call 170;refine bh.out.mono ?_;rintro e S ⟨rfl,aB⟩;have A:=aj (Z.out.trans (aB.mono Z.out.size));clear aB)))
   go_wp2_with fail
   go_ret
   exact⟨rfl,λ_=>I.out.trans (A.out.mono I.out.size),λc=>(by cases c)⟩
  ·go_region_held3 (λW=>(W.cell? ⟨f,0,none⟩=some (.slice (some ⟨d,0,none⟩) 4 P)/\W.cell? ⟨h,10,none⟩=some (.int .i64 g))/\W.cell? ⟨d,g*4,none⟩=some (.int .i64 H)/\W.cell? ⟨d,g*4+1,none⟩=some (.int .i64 ad)/\W.cell? ⟨d,g*4+2,none⟩=some (.string al)/\W.cell? ⟨d,g*4+3,none⟩=some (.slice am ao an)) (first|(go_keep;done)|exact av.out _ Z.out|exact av.out _ A.out) ((first
     | (go_at_call 170;refine bh.out.mono ?_;rintro e S ⟨rfl,aB⟩;have A:=aj (Z.out.trans (aB.mono Z.out.size));clear aB)))
   clear cl cm cn co cp cq;go_wp2_with fail;have bb:=aj (I.out.trans (A.out.mono I.out.size));have aK:Hid (∀W:World,ag S W->W.cell? ⟨f,4,none⟩=some (.slice r L s)/\W.cell? ⟨f,2,none⟩=some (.int .i64 next)/\W.cell? ⟨h,9,none⟩=some (.string nm)/\W.cell? ⟨p,0,none⟩=some (.int .i64 a.1.1)/\W.cell? ⟨p,1,none⟩=some (.int .i64 a.1.2.1)/\W.cell? ⟨p,2,none⟩=some (.string a.1.2.2)/\W.cell? ⟨p,3,none⟩=some (.slice a.2.1.1 a.2.2.length a.2.1.2)):=λW c=>by
    have bz:=A.out.trans (c.mono A.out.size);have R:=I.out.trans (bz.mono I.out.size);obtain⟨aS,M⟩:=aY.out W bz;exact⟨(R.cell (p:=⟨f,4,none⟩) aQ).trans K.out.1,(R.cell (p:=⟨f,2,none⟩) aQ).trans K.out.2.2.1,ab aS 9,ab M 0,ab M 1,ab M 2,ab M 3⟩
   have x:=aK.out S.drew (ak _ _).drew;have bg:Hid (ag S S.drew):=(ak _ _).drew;obtain⟨b9,cc,bX,cd,ce,cf,cg⟩:=aK.out S (ak _ _);have b3:=aj (dD nm S.drew cv);refine wp_region_noPanic ?_;refine iZ (λW=>W.cell? ⟨f,4,none⟩=some (.slice r L s)/\W.cell? ⟨f,2,none⟩=some (.int .i64 next)/\W.cell? ⟨h,9,none⟩=some (.string nm)/\W.cell? ⟨p,0,none⟩=some (.int .i64 a.1.1)/\W.cell? ⟨p,1,none⟩=some (.int .i64 a.1.2.1)/\W.cell? ⟨p,2,none⟩=some (.string a.1.2.2)/\W.cell? ⟨p,3,none⟩=some (.slice a.2.1.1 a.2.2.length a.2.1.2)) 18 (by kernel_rfl) ?_
   try simp only[eR]
   refine aM (i:=0) (v:= ?_) rfl (by kernel_rfl) (by kernel_rfl) (by kernel_rfl) (by kernel_rfl) (λ_ _ _ c=>c) rfl ?_ x ?_;rotate_left
   ·intro w' l
    try dsimp only at l
    go_simp
    try with_reducible rfl
   try simp only[Act.put,bP]
   refine aM (i:=1) (v:= ?_) rfl (by kernel_rfl) (by kernel_rfl) (by kernel_rfl) (by kernel_rfl) (λ_ _ _ c=>c) rfl ?_ x ?_;rotate_left
   ·intro w' l
    try dsimp only at l
    go_simp
    try with_reducible rfl
   try simp only[Act.put]
   refine aM (i:=2) (v:= ?_) rfl (by kernel_rfl) (by kernel_rfl) (by kernel_rfl) (by kernel_rfl) (λ_ _ _ c=>c) rfl ?_ x ?_;rotate_left
   ·intro w' l
    try dsimp only at l
    go_simp
    try with_reducible rfl
   try simp only[Act.put]
   refine aM (i:=3) (v:= ?_) rfl (by kernel_rfl) (by kernel_rfl) (by kernel_rfl) (by kernel_rfl) (λ_ _ _ c=>c) rfl ?_ x ?_;rotate_left
   ·intro w' l
    try dsimp only at l
    go_simp
    try with_reducible rfl
   try simp only[Act.put]
   refine aM (i:=4) (v:= ?_) rfl (by kernel_rfl) (by kernel_rfl) (by kernel_rfl) (by kernel_rfl) (λ_ _ _ c=>c) rfl ?_ x ?_;rotate_left
   ·intro w' l
    try dsimp only at l
    go_simp
    try with_reducible rfl
   try simp only[Act.put]
   refine aM (i:=5) (v:= ?_) rfl (by kernel_rfl) (by kernel_rfl) (by kernel_rfl) (by kernel_rfl) (λ_ _ _ c=>c) rfl ?_ x ?_;rotate_left
   ·intro w' l
    try dsimp only at l
    go_simp
    try with_reducible rfl
   try simp only[Act.put]
   refine aM (i:=6) (v:= ?_) rfl (by kernel_rfl) (by kernel_rfl) (by kernel_rfl) (by kernel_rfl) (λ_ _ _ c=>c) rfl ?_ x ?_;rotate_left
   ·intro w' l
    try dsimp only at l
    go_simp
    try with_reducible rfl
   try simp only[Act.put]
   refine aM (i:=7) (v:= ?_) rfl (by kernel_rfl) (by kernel_rfl) (by kernel_rfl) (by kernel_rfl) (λ_ _ _ c=>c) rfl ?_ x ?_;rotate_left
   ·intro w' l
    try dsimp only at l
    go_simp
    try with_reducible rfl
   try simp only[Act.put]
   refine aM (i:=8) (v:= ?_) rfl (by kernel_rfl) (by kernel_rfl) (by kernel_rfl) (by kernel_rfl) (λ_ _ _ c=>c) rfl ?_ x ?_;rotate_left
   ·intro w' l
    try dsimp only at l
    go_simp
    try with_reducible rfl
   try simp only[Act.put]
   refine aM (i:=9) (v:= ?_) rfl (by kernel_rfl) (by kernel_rfl) (by kernel_rfl) (by kernel_rfl) (λ_ _ _ c=>c) rfl ?_ x ?_;rotate_left
   ·intro w' l
    try dsimp only at l
    go_simp
    try with_reducible rfl
   try simp only[Act.put]
   refine aM (i:=10) (v:= ?_) rfl (by kernel_rfl) (by kernel_rfl) (by kernel_rfl) (by kernel_rfl) (λ_ _ _ c=>c) rfl ?_ x ?_;rotate_left
   ·intro w' l
    try dsimp only at l
    go_simp
    try with_reducible rfl
   try simp only[Act.put]
   refine aM (i:=12) (v:= ?_) rfl (by kernel_rfl) (by kernel_rfl) (by kernel_rfl) (by kernel_rfl) (λ_ _ _ c=>c) rfl ?_ x ?_;rotate_left
   ·intro w' l
    try dsimp only at l
    go_simp
    try with_reducible rfl
   try simp only[Act.put]
   refine cP (i:=11) (by kernel_rfl) rfl rfl (λG q=>?_) (by decide)
   go_simp
   refine b3.out.mono ?_;rintro e u ⟨rfl,bB⟩;have F:=aj (bg.out.trans (bB.mono bg.out.size));have a4:=aK.out u F.out;refine q.out _ _ (λ_=>a4) (λ_=>?_);clear q G bB
   try simp only[Act.put,bP,da,cZ]
   have bc:=aj (bb.out.trans (F.out.mono bb.out.size));obtain⟨y,bI⟩:∃y:Obj,y=.cells #[.int .i64 next,.string nm,.int .i64 a.1.1,.int .i64 a.1.2.1,.string a.1.2.2,.slice a.2.1.1 a.2.2.length a.2.1.2] 159:=⟨_,rfl⟩;have au:Hid (ag u (u.alloc y)):=(ak _ _).alloc (ai _) y;have a1:=aj (aK.out _ (F.out.trans (au.out.mono F.out.size)));have aU:=aj (bc.out.trans (au.out.mono bc.out.size));have bk:Hid ((u.alloc y).ownsRow base 159 6 (.slice r L s) L xs):=aW bm.out (aE aU.out λ_=>False) λ_ _ c=>c;have bj:Hid ((u.alloc y).heap[u.heap.size]?=some y):=ax u y;have aa:Hid ((u.alloc y).heap.size=u.heap.size+1):=(show _=_ by simp);have az:Hid (z.heap.size=E.heap.size+1/\w.heap.size<=E.heap.size/\z.heap.size<=u.heap.size):=⟨D.out.2.2,ar.out.size,aw A.out.size F.out.size⟩;have bv:Hid (In (u.alloc y).heap.size (u.alloc y) (N+1) a):=(bu.out.below (D.out.1.trans ((A.out.trans ((F.out.trans (au.out.mono F.out.size)).mono A.out.size)).mono D.out.1.size))).mono (by have:=aa.out;have:=az.out;omega);have aZ:Hid ((u.alloc y).heap[h]?=some (.cells #[.int .i64 k,.int .i64 T,.int .i64 U,.string V,.slice xa X xc,.int .i64 y0,.int .i64 y1,.string y2,.slice ya yl yc,.string nm,.int .i64 g] 224)):=(aY.out _ (A.out.trans ((F.out.trans (au.out.mono F.out.size)).mono A.out.size))).1;rw[bI]at au a1 aU bk bj aa bv aZ;clear bI y;refine aM (i:=13) (v:= ?_) rfl (by kernel_rfl) (by kernel_rfl) (by kernel_rfl) (by kernel_rfl) (λ_ _ _ c=>c) rfl ?_ a4 ?_;rotate_left
   ·intro w' l
    try dsimp only at l
    go_simp
    try with_reducible rfl
   try simp only[Act.put]
   refine cP (i:=14) (by kernel_rfl) rfl rfl (λG q=>?_) (by decide)
   go_simp
   refine q.out _ _ (λ_=>a1.out) (λcr=>?_);clear q G
   try simp only[Act.put,bP,da,cZ]
   refine cP (i:=15) (by kernel_rfl) rfl rfl (λG q=>?_) (by decide);refine wp_append_lies _ _ _ 110 rfl base 159 aF _ 6 80 Tryz.underlying110 aI.out.1 aI.out.2.1 aI.out.2.2.1 aI.out.2.2.2 rfl (by decide) (.slice r L s) L xs rfl bk.out ⟨u.heap.size,0,none⟩ 1 1 (MM next nm a) rfl rfl (World.news_of_block (cs:= #[.int .i64 next,.string nm,.int .i64 a.1.1,.int .i64 a.1.2.1,.string a.1.2.2,.slice a.2.1.1 a.2.2.length a.2.1.2]) (t:=159) (fr:=(0,0)) bj.out) (by simp[MM,Value.oneCell']) (by decide) (by unfold maxLen;omega) (by omega) (by have:=aa.out;have:=az.out;omega) _ rfl ?_;intro Q a2 m bK ap a5 cu;have aL:Hid (bi (λC=>(Value.slice r L s).ownBlock=some C) w m):=bi.trans (aE aU.out _) (dP ap) λ_ _ e=>e;have bY:Hid ((Value.slice r L s).ownBlock=some Q\/w.heap.size<=Q):=by
    rcases a5 with e|e
    ·exact ae e
    ·exact af (by have:=aa.out;have:=az.out;omega)
   have b0:=aj bK;have aN:Hid (∀b,(Value.slice r L s).ownBlock=some b->b<w.heap.size):=λb R=>(bm.out.lt b R).2;have bs:Hid (In m.heap.size m (N+1) a/\bV (λC=>w.heap.size<=C/\C≠Q) (N+1) a):=by
    have bJ:bV (λC=>w.heap.size<=C/\C<E.heap.size) (N+1) a:=(In.offB b7.out bu.out).mono λC aD=>⟨aw b6.out aD.1,aD.2⟩;refine⟨bv.out.kee (dP ap) (bJ.mono λC aD e=>?_),bJ.mono λC aD=>⟨aD.1,λe=>?_⟩⟩
    ·have:=aN.out C e;omega
    ·rcases a5 with bw|bw
     ·have:=aN.out Q bw;omega
     ·have:=aa.out;have:=az.out;omega
   have Y:Hid (m.heap[f]?=w.heap[f]? /\m.heap[d]?=w.heap[d]? /\m.heap[h]?=some (.cells #[.int .i64 k,.int .i64 T,.int .i64 U,.string V,.slice xa X xc,.int .i64 y0,.int .i64 y1,.string y2,.slice ya yl yc,.string nm,.int .i64 g] 224)):=by
    refine⟨aL.out.block f aQ a0.out.1,aL.out.block d a6 a0.out.2,(ap.block h (aA.1 aZ.out).1 λe=>?_).trans aZ.out⟩;have:=aN.out h e.symm;have:=ay.out.2;omega
   have be:Hid (m.cell? ⟨f,4,none⟩=some (.slice r L s)/\m.cell? ⟨f,2,none⟩=some (.int .i64 next)/\m.cell? ⟨h,9,none⟩=some (.string nm)/\m.cell? ⟨p,0,none⟩=some (.int .i64 a.1.1)/\m.cell? ⟨p,1,none⟩=some (.int .i64 a.1.2.1)/\m.cell? ⟨p,2,none⟩=some (.string a.1.2.2)/\m.cell? ⟨p,3,none⟩=some (.slice a.2.1.1 a.2.2.length a.2.1.2)):=by
    have cW:=aa.out;have cX:=az.out;have cY:=b2.out;have cw:some p≠(Value.slice r L s).ownBlock:=λe=>by
     have:=aN.out p e.symm;omega
    have k:=λj=>ap.cell_far ⟨p,j,none⟩ (by show p<_;omega) cw;obtain⟨cC,cD,cS,cF,cG,cH,cI⟩:=a1.out;have bE:=λj=>ap.cell_far ⟨f,j,none⟩ (by show f<_;omega) λe=>a0.out.1 e.symm;exact⟨(bE 4).trans cC,(bE 2).trans cD,ab Y.out.2.2 9,(k 0).trans cF,(k 1).trans cG,(k 2).trans cH,(k 3).trans cI⟩
   clear bK ap a5 cu;refine q.out _ _ (λ_=>be.out) (λa3=>?_);clear q G
   try simp only[Act.put,bP]
   refine cP (i:=16) (by kernel_rfl) rfl rfl (λG q=>?_) (by decide)
   go_simp
   refine q.out _ _ (λ_=>a3) (λ_=>?_);clear q G
   try simp only[Act.put,bP,da,cZ]
   refine aM (i:=17) (v:= ?_) rfl (by kernel_rfl) (by kernel_rfl) (by kernel_rfl) (by kernel_rfl) (λ_ _ _ c=>c) rfl ?_ a3 ?_;rotate_left
   ·intro w' l
    try dsimp only at l
    go_simp
    try with_reducible rfl
   try simp only[Act.put,bP]
   have cb:m.frozen? ⟨f,4,none⟩=false:=by
    have B:=K.out.2.2.2.1 4;unfold World.frozen? at B ⊢;rw[Y.out.1];exact B
   have ca:=be.out.1;refine iY (by kernel_rfl) rfl rfl (by kernel_rfl) (λG q=>?_)
   go_simp
   refine q.out _ _ (NoPanic.normal ?_);clear q G
   try simp only[Act.put,bP,da,cZ]
   have bL:h≠f:=by have:=ay.out.2;omega
   have cx:h≠d:=by have:=ay.out.2;omega
   have cL:f≠h:=λe=>bL e.symm;have cM:d≠h:=λe=>cx e.symm;have bG:d≠f:=λe=>bF e.symm;have bf:Hid (∀j,m.cell? ⟨d,j,none⟩=w.cell? ⟨d,j,none⟩/\m.frozen? ⟨d,j,none⟩=false):=λj=>by
    have B:=K.out.2.2.2.2 j;unfold World.frozen? at B ⊢;unfold World.cell?;rw[Y.out.2.1];exact⟨rfl,B⟩
   have aV:Hid (∀j,m.cell? ⟨f,j,none⟩=w.cell? ⟨f,j,none⟩/\m.frozen? ⟨f,j,none⟩=false):=λj=>by
    have B:=K.out.2.2.2.1 j;unfold World.frozen? at B ⊢;unfold World.cell?;rw[Y.out.1];exact⟨rfl,B⟩
   have bq:Hid (∃n,n=m.setCell ⟨f,4,none⟩ (.slice (some ⟨Q,0,none⟩) (L+1) a2)/\(n.cell? ⟨f,0,none⟩=some (.slice (some ⟨d,0,none⟩) 4 P)/\n.cell? ⟨h,10,none⟩=some (.int .i64 g)/\n.cell? ⟨f,2,none⟩=some (.int .i64 next))/\(n.cell? ⟨d,g*4,none⟩=some (.int .i64 H)/\n.cell? ⟨d,g*4+1,none⟩=some (.int .i64 ad)/\n.cell? ⟨d,g*4+2,none⟩=some (.string al)/\n.cell? ⟨d,g*4+3,none⟩=some (.slice am ao an))/\(∀j,n.frozen? ⟨d,j,none⟩=false)/\n.frozen? ⟨f,2,none⟩=false):=by
    have a8:=bt m f 4 (.slice (some ⟨Q,0,none⟩) (L+1) a2);have bC:d<m.heap.size:=aJ a6 aL.out.size;have ct:=a8.block d bC bG;have aO:=λj=>((a8.cell j bC bG).trans (bf.out j).1);refine⟨_,rfl,⟨(di 0 (by decide)).trans ((aV.out 0).1.trans K.out.2.1),(a8.cell 10 (aA.1 Y.out.2.2).1 bL).trans (ab Y.out.2.2 10),(di 2 (by decide)).trans ((aV.out 2).1.trans K.out.2.2.1)⟩,⟨(aO _).trans J.out.1,(aO _).trans J.out.2.1,(aO _).trans J.out.2.2.1,(aO _).trans J.out.2.2.2⟩,λj=>?_,?_⟩
    ·have B:=(bf.out j).2;unfold World.frozen? at B ⊢;rw[ct];exact B
    ·rw[gi];exact(aV.out 2).2
   go_wp2_with fail;obtain⟨n,a9,⟨bU,bW,ba⟩,⟨cy,cz,cA,cB⟩,aC,bx⟩:=bq.out;rw[<-a9];have b4:=aj a9;have ch:=aC (g*4);have ci:=aC (g*4+1);have cj:=aC (g*4+2);have ck:=aC (g*4+3);clear a9 bq aC x a4 cr a3 b9 cc bX cd ce cf cg cb ca;have bZ:Hid (n.drew.cell? ⟨f,0,none⟩=some (.slice (some ⟨d,0,none⟩) 4 P)/\n.drew.cell? ⟨h,10,none⟩=some (.int .i64 g)/\n.drew.cell? ⟨f,2,none⟩=some (.int .i64 next)):=⟨bU,bW,ba⟩;go_region_held3 (λW=>W.cell? ⟨f,0,none⟩=some (.slice (some ⟨d,0,none⟩) 4 P)/\W.cell? ⟨h,10,none⟩=some (.int .i64 g)/\W.cell? ⟨f,2,none⟩=some (.int .i64 next)) (first|exact bZ.out|(go_keep;done)) (fail);have br:Hid (∃aH,aH=(cE n d (g*4) (.int .i64 3) (.int .i64 next) (.string ⟨#[]⟩) (.slice none 0 0)).drew/\aH.cell? ⟨f,2,none⟩=some (.int .i64 next)/\aH.frozen? ⟨f,2,none⟩=false):=by
    have bD:(cE n d (g*4) (.int .i64 3) (.int .i64 next) (.string ⟨#[]⟩) (.slice none 0 0)).drew.heap[f]?=n.heap[f]? :=aR (w:=n) (o:=g*4) bF (.int .i64 3) (.int .i64 next) (.string ⟨#[]⟩) (.slice none 0 0);refine⟨_,rfl,?_,?_⟩
    ·have c:=ba;unfold World.cell? at c ⊢;rw[bD];exact c
    ·have c:=bx;unfold World.frozen? at c ⊢;rw[bD];exact c
   obtain⟨aH,aT,cR,bX⟩:=br.out;have b5:=aj aT;unfold cE at aT;rw[<-aT];clear aT br bU bW ba cy cz cA cB ch ci cj ck bx;go_wp2_with fail
   go_ret
   exact⟨rfl,λc=>(by cases c),λ_=>⟨a,Q,a2,m,n,aH,b8.out,bs.out.1,bs.out.2,b0.out,aL.out,bY.out,b4.out,b5.out,rfl⟩⟩
end Go.Proofs.YtckamaoibonjcaaGreat
