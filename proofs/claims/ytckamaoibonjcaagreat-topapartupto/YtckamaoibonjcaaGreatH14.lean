/- What is proved here: proc's doing.spawn: a process is put behind those that are spawned, and its number is bound. No condition but that all lies in memory. -/
import Derived.Test.YtckamaoibonjcaaGreatH13
namespace Go.Proofs.YtckamaoibonjcaaGreat
open Go.RowKit
set_option maxRecDepth 100000
set_option maxHeartbeats 4000000
theorem Fw:(Tryz.prog.info? 159).map (λi=>(i.zero,i.size,i.bytes))=some (some (.agg #[ab 0,ae ⟨#[]⟩,ab 0,ab 0,ae ⟨#[]⟩,.slice none 0 0]),6,80):=by kernel_rfl
theorem dl{w:World}{b o:Nat}{v:Value}(j:Nat)(a:j≠o):(w.setCell ⟨b,o,none⟩ v).cell? ⟨b,j,none⟩=w.cell? ⟨b,j,none⟩:=by
 unfold World.cell? World.setCell;simp only[bG];cases h:w.heap[b]? with
 | none=>simp
 | some c=>cases c<;>simp[Ne.symm a]
theorem gu{w:World}{b o j:Nat}{v:Value}:(w.setCell ⟨b,o,none⟩ v).frozen? ⟨b,j,none⟩=w.frozen? ⟨b,j,none⟩:=by
 unfold World.frozen? World.setCell;simp only[bG];cases h:w.heap[b]? with
 | none=>simp
 | some a=>cases a<;>simp
def M9{N:Nat}(b:Int)(nm:ByteArray)(a:Tm (N+1)):List Value:=[ab b,ae nm,ab a.1.1,ab a.1.2.1,ae a.1.2.2,.slice a.2.1.1 a.2.2.length a.2.1.2]
def NI(N base g:Nat)(h:Option Addr)(L i:Nat)(xs:List Value)(t:Bool)(next:Int)(nm:ByteArray)(l m:Nat)(o:Option (Tm (N+1)))(w:World)(e:Ending)(w':World):Prop:=
 e=.returned (.bool (o.isSome && t))/\((o.isSome && t)=false->ai w w')/\
  ((o.isSome && t)=true->∃(f:Tm (N+1))(a c:Nat)(b j k:World),aw (N+1) f (N+1) (o.getD (vp N))=true/\In b.heap.size b (N+1) f/\bZ (λd=>w.heap.size<=d/\d≠a) (N+1) f/\b.ownsRow base 159 6 (.slice (some ⟨a,0,none⟩) (L+1) c) (L+1) (xs++M9 next nm f)/\bk (λd=>(Value.slice h L i).ownBlock=some d) w b/\((Value.slice h L i).ownBlock=some a\/w.heap.size<=a)/\j=b.setCell ⟨g,4,none⟩ (.slice (some ⟨a,0,none⟩) (L+1) c)/\k=(cG j l (m*4) (ab 3) (ab next) (ae ⟨#[]⟩) (.slice none 0 0)).drew/\w'=k.setCell ⟨g,2,none⟩ (ab (next+1)))
theorem Dh(N:Nat)(k T U:Int)(V:ByteArray)(xa:Option Addr)(X xc:Nat)(y0 y1:Int)(y2:ByteArray)(ya:Option Addr)(yl yc:Nat)(nm:ByteArray)(g:Nat)(base f:Nat)(r:Option Addr)(L s:Nat)(xs:List Value)(w:World)(o:Option (Tm (N+1)))(d P:Nat)(next:Int)(H ad:Int)(al:ByteArray)(an:Option Addr)(aq ap:Nat)(cS:g<4)(cL:L<=10000)(aS:f<w.heap.size)(a8:d<w.heap.size)(bH:f≠d)(cM:base<=w.heap.size)(cP:0<=next)(cQ:next<=100000)(cx:nm.size<=2048)(K:Hid (w.cell? ⟨f,4,none⟩=some (.slice r L s)/\w.cell? ⟨f,0,none⟩=some (.slice (some ⟨d,0,none⟩) 4 P)/\w.cell? ⟨f,2,none⟩=some (ab next)/\(∀j,w.frozen? ⟨f,j,none⟩=false)/\∀j,w.frozen? ⟨d,j,none⟩=false))(bo:Hid (w.ownsRow base 159 6 (.slice r L s) L xs))(a2:Hid ((Value.slice r L s).ownBlock≠some f/\(Value.slice r L s).ownBlock≠some d))(J:Hid (w.cell? ⟨d,g*4,none⟩=some (ab H)/\w.cell? ⟨d,g*4+1,none⟩=some (ab ad)/\w.cell? ⟨d,g*4+2,none⟩=some (ae al)/\w.cell? ⟨d,g*4+3,none⟩=some (.slice an aq ap)))(aZ:Hid (∀W,ak 170 #[.agg #[ab H,ab ad,ae al,.slice an aq ap]] W λe w'=>e=.returned (.bool (!(H==6)))/\ai W w'))(bp:Hid (∀W,ai w W->ak 103 #[.pointer (some ⟨f,0,none⟩),.agg #[ab y0,ab y1,ae y2,.slice ya yl yc]] W (vN N o W))):ak 162 #[.pointer (some ⟨f,0,none⟩),.agg #[ab k,ab T,ab U,ae V,.slice xa X xc,ab y0,ab y1,ae y2,.slice ya yl yc,ae nm,ab g]] w (NI N base f r L s xs (H==6) next nm d g o w):=by
 obtain⟨aH,bJ,bP,bR,bT⟩:=bQ Fw;have aK:Hid (Tryz.prog.info? 159=some aH/\aH.zero=some (.agg #[ab 0,ae ⟨#[]⟩,ab 0,ab 0,ae ⟨#[]⟩,.slice none 0 0])/\aH.size=6/\aH.bytes=80):=⟨bJ,bP,bR,bT⟩;clear bJ bP bR bT;obtain⟨t,bO⟩:∃t,t=(H==6):=⟨_,rfl⟩;rw[<-bO]at aZ ⊢;clear bO;have bq:Hid (∃aI h,(aI=w.alloc (.cells #[ab k,ab T,ab U,ae V,.slice xa X xc,ab y0,ab y1,ae y2,.slice ya yl yc,ae nm,ab g] 224)/\h=w.heap.size)/\ai w aI/\aI.heap[h]?=some (.cells #[ab k,ab T,ab U,ae V,.slice xa X xc,ab y0,ab y1,ae y2,.slice ya yl yc,ae nm,ab g] 224)):=⟨_,_,⟨rfl,rfl⟩,(am _ _).alloc (aj _) _,az w _⟩;go_enter Tryz.func162,Tryz.ntmps162;go_wp2_with fail;obtain⟨aI,h,⟨bU,aU⟩,bC,a9⟩:=bq.out;rw[<-bU,<-aU];have au:=ao bC;have bf:=ao a9;have aA:Hid (h<aI.heap.size/\w.heap.size<=h):=⟨(aC.1 a9).1,by omega⟩;clear bU aU bC a9 bq;refine(bp.out _ au.out).mono ?_;rintro e E ⟨a,rfl,O⟩;have av:=ao (au.out.trans (O.out.1.mono au.out.size));have b3:Hid (E.heap[h]?=some (.cells #[ab k,ab T,ab U,ae V,.slice xa X xc,ab y0,ab y1,ae y2,.slice ya yl yc,ae nm,ab g] 224)):=(O.out.1.block h aA.out.1).trans bf.out;have bn:Hid (h<E.heap.size):=aL aA.out.1 O.out.1.size;have bw:=ao O.out.2.1;have b9:=ao O.out.2.2.1;have ca:=ao O.out.2.2.2;have b8:=ao au.out.size;clear O bp au bf;have br:Hid (∃z p,(z=E.alloc (.cells #[ab a.1.1,ab a.1.2.1,ae a.1.2.2,.slice a.2.1.1 a.2.2.length a.2.1.2] 30)/\p=E.heap.size)/\ai E z/\z.heap[p]?=some (.cells #[ab a.1.1,ab a.1.2.1,ae a.1.2.2,.slice a.2.1.1 a.2.2.length a.2.1.2] 30)/\z.heap.size=E.heap.size+1):=⟨_,_,⟨rfl,rfl⟩,(am _ _).alloc (aj _) _,az _ _,by simp⟩;cases o with
 | none=>
  simp only[mm];go_wp2_with fail;go_region
  all_goals
   go_wp2_with fail
   go_ret
   exact⟨rfl,λ_=>(av.out.alloc av.out.size _).drew,λc=>(by cases c)⟩
 | some cX=>
  simp only[mn];go_wp2_with fail;obtain⟨z,p,⟨bV,M⟩,D⟩:=br.out;rw[<-bV,<-M];have b4:Hid (p=E.heap.size):=M;replace D:=ao D;clear bV M br;have I:=ao (av.out.trans (D.out.1.mono av.out.size));have a0:Hid (∀W:World,ai z W->W.heap[h]?=some (.cells #[ab k,ab T,ab U,ae V,.slice xa X xc,ab y0,ab y1,ae y2,.slice ya yl yc,ae nm,ab g] 224)/\W.heap[p]?=some (.cells #[ab a.1.1,ab a.1.2.1,ae a.1.2.2,.slice a.2.1.1 a.2.2.length a.2.1.2] 30)):=λW c=>⟨(c.block h (by have:=bn.out;have:=D.out.2.2;omega)).trans ((D.out.1.block h bn.out).trans b3.out),(c.block p (aC.1 D.out.2.1).1).trans D.out.2.1⟩;have ay:Hid (∀W:World,ai z W->(W.cell? ⟨f,0,none⟩=some (.slice (some ⟨d,0,none⟩) 4 P)/\W.cell? ⟨h,10,none⟩=some (ab g))/\W.cell? ⟨d,g*4,none⟩=some (ab H)/\W.cell? ⟨d,g*4+1,none⟩=some (ab ad)/\W.cell? ⟨d,g*4+2,none⟩=some (ae al)/\W.cell? ⟨d,g*4+3,none⟩=some (.slice an aq ap)):=λW c=>by
   have R:=I.out.trans (c.mono I.out.size);have aR:=λj=>R.cell (p:=⟨d,j,none⟩) a8;exact⟨⟨(R.cell (p:=⟨f,0,none⟩) aS).trans K.out.2.1,af (a0.out W c).1 10⟩,(aR _).trans J.out.1,(aR _).trans J.out.2.1,(aR _).trans J.out.2.2.1,(aR _).trans J.out.2.2.2⟩
  obtain⟨⟨cn,co⟩,cp,cq,cr,ct⟩:=ay.out z (am _ _);have Z:Hid (ai z z.drew):=(am _ _).drew;have cV:(0:Int)<=(g:Int):=by omega
  have cW:(g:Int)<4:=by omega
  have bj:=ao (aZ.out z.drew);clear aZ;cases t
  ·go_region_held3 (λW=>(W.cell? ⟨f,0,none⟩=some (.slice (some ⟨d,0,none⟩) 4 P)/\W.cell? ⟨h,10,none⟩=some (ab g))/\W.cell? ⟨d,g*4,none⟩=some (ab H)/\W.cell? ⟨d,g*4+1,none⟩=some (ab ad)/\W.cell? ⟨d,g*4+2,none⟩=some (ae al)/\W.cell? ⟨d,g*4+3,none⟩=some (.slice an aq ap)) (first|(go_keep;done)|exact ay.out _ Z.out|exact ay.out _ A.out) ((first
     | (go_at_call 170;refine bj.out.mono ?_;rintro e S ⟨rfl,aE⟩;have A:=ao (Z.out.trans (aE.mono Z.out.size));clear aE)))
   go_wp2_with fail
   go_ret
   exact⟨rfl,λ_=>I.out.trans (A.out.mono I.out.size),λc=>(by cases c)⟩
  ·go_region_held3 (λW=>(W.cell? ⟨f,0,none⟩=some (.slice (some ⟨d,0,none⟩) 4 P)/\W.cell? ⟨h,10,none⟩=some (ab g))/\W.cell? ⟨d,g*4,none⟩=some (ab H)/\W.cell? ⟨d,g*4+1,none⟩=some (ab ad)/\W.cell? ⟨d,g*4+2,none⟩=some (ae al)/\W.cell? ⟨d,g*4+3,none⟩=some (.slice an aq ap)) (first|(go_keep;done)|exact ay.out _ Z.out|exact ay.out _ A.out) ((first
     | (go_at_call 170;refine bj.out.mono ?_;rintro e S ⟨rfl,aE⟩;have A:=ao (Z.out.trans (aE.mono Z.out.size));clear aE)))
   clear cn co cp cq cr ct;go_wp2_with fail;have bd:=ao (I.out.trans (A.out.mono I.out.size));have aM:Hid (∀W:World,ai S W->W.cell? ⟨f,4,none⟩=some (.slice r L s)/\W.cell? ⟨f,2,none⟩=some (ab next)/\W.cell? ⟨h,9,none⟩=some (ae nm)/\W.cell? ⟨p,0,none⟩=some (ab a.1.1)/\W.cell? ⟨p,1,none⟩=some (ab a.1.2.1)/\W.cell? ⟨p,2,none⟩=some (ae a.1.2.2)/\W.cell? ⟨p,3,none⟩=some (.slice a.2.1.1 a.2.2.length a.2.1.2)):=λW c=>by
    have bB:=A.out.trans (c.mono A.out.size);have R:=I.out.trans (bB.mono I.out.size);obtain⟨aU,M⟩:=a0.out W bB;exact⟨(R.cell (p:=⟨f,4,none⟩) aS).trans K.out.1,(R.cell (p:=⟨f,2,none⟩) aS).trans K.out.2.2.1,af aU 9,af M 0,af M 1,af M 2,af M 3⟩
   have x:=aM.out S.drew (am _ _).drew;have bi:Hid (ai S S.drew):=(am _ _).drew;obtain⟨cb,ce,bY,cf,cg,ch,ci⟩:=aM.out S (am _ _);have b5:=ao (dF nm S.drew cx);refine wp_region_noPanic ?_;refine jd (λW=>W.cell? ⟨f,4,none⟩=some (.slice r L s)/\W.cell? ⟨f,2,none⟩=some (ab next)/\W.cell? ⟨h,9,none⟩=some (ae nm)/\W.cell? ⟨p,0,none⟩=some (ab a.1.1)/\W.cell? ⟨p,1,none⟩=some (ab a.1.2.1)/\W.cell? ⟨p,2,none⟩=some (ae a.1.2.2)/\W.cell? ⟨p,3,none⟩=some (.slice a.2.1.1 a.2.2.length a.2.1.2)) 18 (by kernel_rfl) ?_
   try simp only[e9]
   refine aO (i:=0) (v:= ?_) rfl (by kernel_rfl) (by kernel_rfl) (by kernel_rfl) (by kernel_rfl) (λ_ _ _ c=>c) rfl ?_ x ?_;rotate_left
   ·intro w' l
    try dsimp only at l
    go_simp
    try with_reducible rfl
   try simp only[Act.put,bS]
   refine aO (i:=1) (v:= ?_) rfl (by kernel_rfl) (by kernel_rfl) (by kernel_rfl) (by kernel_rfl) (λ_ _ _ c=>c) rfl ?_ x ?_;rotate_left
   ·intro w' l
    try dsimp only at l
    go_simp
    try with_reducible rfl
   try simp only[Act.put]
   refine aO (i:=2) (v:= ?_) rfl (by kernel_rfl) (by kernel_rfl) (by kernel_rfl) (by kernel_rfl) (λ_ _ _ c=>c) rfl ?_ x ?_;rotate_left
   ·intro w' l
    try dsimp only at l
    go_simp
    try with_reducible rfl
   try simp only[Act.put]
   refine aO (i:=3) (v:= ?_) rfl (by kernel_rfl) (by kernel_rfl) (by kernel_rfl) (by kernel_rfl) (λ_ _ _ c=>c) rfl ?_ x ?_;rotate_left
   ·intro w' l
    try dsimp only at l
    go_simp
    try with_reducible rfl
   try simp only[Act.put]
   refine aO (i:=4) (v:= ?_) rfl (by kernel_rfl) (by kernel_rfl) (by kernel_rfl) (by kernel_rfl) (λ_ _ _ c=>c) rfl ?_ x ?_;rotate_left
   ·intro w' l
    try dsimp only at l
    go_simp
    try with_reducible rfl
   try simp only[Act.put]
   refine aO (i:=5) (v:= ?_) rfl (by kernel_rfl) (by kernel_rfl) (by kernel_rfl) (by kernel_rfl) (λ_ _ _ c=>c) rfl ?_ x ?_;rotate_left
   ·intro w' l
    try dsimp only at l
    go_simp
    try with_reducible rfl
   try simp only[Act.put]
   refine aO (i:=6) (v:= ?_) rfl (by kernel_rfl) (by kernel_rfl) (by kernel_rfl) (by kernel_rfl) (λ_ _ _ c=>c) rfl ?_ x ?_;rotate_left
   ·intro w' l
    try dsimp only at l
    go_simp
    try with_reducible rfl
   try simp only[Act.put]
   refine aO (i:=7) (v:= ?_) rfl (by kernel_rfl) (by kernel_rfl) (by kernel_rfl) (by kernel_rfl) (λ_ _ _ c=>c) rfl ?_ x ?_;rotate_left
   ·intro w' l
    try dsimp only at l
    go_simp
    try with_reducible rfl
   try simp only[Act.put]
   refine aO (i:=8) (v:= ?_) rfl (by kernel_rfl) (by kernel_rfl) (by kernel_rfl) (by kernel_rfl) (λ_ _ _ c=>c) rfl ?_ x ?_;rotate_left
   ·intro w' l
    try dsimp only at l
    go_simp
    try with_reducible rfl
   try simp only[Act.put]
   refine aO (i:=9) (v:= ?_) rfl (by kernel_rfl) (by kernel_rfl) (by kernel_rfl) (by kernel_rfl) (λ_ _ _ c=>c) rfl ?_ x ?_;rotate_left
   ·intro w' l
    try dsimp only at l
    go_simp
    try with_reducible rfl
   try simp only[Act.put]
   refine aO (i:=10) (v:= ?_) rfl (by kernel_rfl) (by kernel_rfl) (by kernel_rfl) (by kernel_rfl) (λ_ _ _ c=>c) rfl ?_ x ?_;rotate_left
   ·intro w' l
    try dsimp only at l
    go_simp
    try with_reducible rfl
   try simp only[Act.put]
   refine aO (i:=12) (v:= ?_) rfl (by kernel_rfl) (by kernel_rfl) (by kernel_rfl) (by kernel_rfl) (λ_ _ _ c=>c) rfl ?_ x ?_;rotate_left
   ·intro w' l
    try dsimp only at l
    go_simp
    try with_reducible rfl
   try simp only[Act.put]
   refine cR (i:=11) (by kernel_rfl) rfl rfl (λG q=>?_) (by decide)
   go_simp
   refine b5.out.mono ?_;rintro e u ⟨rfl,bD⟩;have F:=ao (bi.out.trans (bD.mono bi.out.size));have a6:=aM.out u F.out;refine q.out _ _ (λ_=>a6) (λ_=>?_);clear q G bD
   try simp only[Act.put,bS,dd,dc]
   have be:=ao (bd.out.trans (F.out.mono bd.out.size));obtain⟨y,bK⟩:∃y:Obj,y=.cells #[ab next,ae nm,ab a.1.1,ab a.1.2.1,ae a.1.2.2,.slice a.2.1.1 a.2.2.length a.2.1.2] 159:=⟨_,rfl⟩;have aw:Hid (ai u (u.alloc y)):=(am _ _).alloc (aj _) y;have a3:=ao (aM.out _ (F.out.trans (aw.out.mono F.out.size)));have aW:=ao (be.out.trans (aw.out.mono be.out.size));have bm:Hid ((u.alloc y).ownsRow base 159 6 (.slice r L s) L xs):=aY bo.out (aD aW.out λ_=>False) λ_ _ c=>c;have bl:Hid ((u.alloc y).heap[u.heap.size]?=some y):=az u y;have aa:Hid ((u.alloc y).heap.size=u.heap.size+1):=(show _=_ by simp);have aB:Hid (z.heap.size=E.heap.size+1/\w.heap.size<=E.heap.size/\z.heap.size<=u.heap.size):=⟨D.out.2.2,av.out.size,ax A.out.size F.out.size⟩;have bx:Hid (In (u.alloc y).heap.size (u.alloc y) (N+1) a):=(bw.out.below (D.out.1.trans ((A.out.trans ((F.out.trans (aw.out.mono F.out.size)).mono A.out.size)).mono D.out.1.size))).mono (by have:=aa.out;have:=aB.out;omega);have a1:Hid ((u.alloc y).heap[h]?=some (.cells #[ab k,ab T,ab U,ae V,.slice xa X xc,ab y0,ab y1,ae y2,.slice ya yl yc,ae nm,ab g] 224)):=(a0.out _ (A.out.trans ((F.out.trans (aw.out.mono F.out.size)).mono A.out.size))).1;rw[bK]at aw a3 aW bm bl aa bx a1;clear bK y;refine aO (i:=13) (v:= ?_) rfl (by kernel_rfl) (by kernel_rfl) (by kernel_rfl) (by kernel_rfl) (λ_ _ _ c=>c) rfl ?_ a6 ?_;rotate_left
   ·intro w' l
    try dsimp only at l
    go_simp
    try with_reducible rfl
   try simp only[Act.put]
   refine cR (i:=14) (by kernel_rfl) rfl rfl (λG q=>?_) (by decide)
   go_simp
   refine q.out _ _ (λ_=>a3.out) (λcu=>?_);clear q G
   try simp only[Act.put,bS,dd,dc]
   refine cR (i:=15) (by kernel_rfl) rfl rfl (λG q=>?_) (by decide);refine wp_append_lies _ _ _ 110 rfl base 159 aH _ 6 80 Tryz.underlying110 aK.out.1 aK.out.2.1 aK.out.2.2.1 aK.out.2.2.2 rfl (by decide) (.slice r L s) L xs rfl bm.out ⟨u.heap.size,0,none⟩ 1 1 (M9 next nm a) rfl rfl (World.news_of_block (cs:= #[ab next,ae nm,ab a.1.1,ab a.1.2.1,ae a.1.2.2,.slice a.2.1.1 a.2.2.length a.2.1.2]) (t:=159) (fr:=(0,0)) bl.out) (by simp[M9,Value.oneCell']) (by decide) (by unfold maxLen;omega) (by omega) (by have:=aa.out;have:=aB.out;omega) _ rfl ?_;intro Q a4 m bM ar a7 cw;have aN:Hid (bk (λC=>(Value.slice r L s).ownBlock=some C) w m):=bk.trans (aD aW.out _) (dR ar) λ_ _ e=>e;have b0:Hid ((Value.slice r L s).ownBlock=some Q\/w.heap.size<=Q):=by
    rcases a7 with e|e
    ·exact ag e
    ·exact ah (by have:=aa.out;have:=aB.out;omega)
   have b2:=ao bM;have aP:Hid (∀b,(Value.slice r L s).ownBlock=some b->b<w.heap.size):=λb R=>(bo.out.lt b R).2;have bv:Hid (In m.heap.size m (N+1) a/\bZ (λC=>w.heap.size<=C/\C≠Q) (N+1) a):=by
    have bL:bZ (λC=>w.heap.size<=C/\C<E.heap.size) (N+1) a:=(In.offB b9.out bw.out).mono λC aG=>⟨ax b8.out aG.1,aG.2⟩;refine⟨bx.out.kee (dR ar) (bL.mono λC aG e=>?_),bL.mono λC aG=>⟨aG.1,λe=>?_⟩⟩
    ·have:=aP.out C e;omega
    ·rcases a7 with bz|bz
     ·have:=aP.out Q bz;omega
     ·have:=aa.out;have:=aB.out;omega
   have Y:Hid (m.heap[f]?=w.heap[f]? /\m.heap[d]?=w.heap[d]? /\m.heap[h]?=some (.cells #[ab k,ab T,ab U,ae V,.slice xa X xc,ab y0,ab y1,ae y2,.slice ya yl yc,ae nm,ab g] 224)):=by
    refine⟨aN.out.block f aS a2.out.1,aN.out.block d a8 a2.out.2,(ar.block h (aC.1 a1.out).1 λe=>?_).trans a1.out⟩;have:=aP.out h e.symm;have:=aA.out.2;omega
   have bg:Hid (m.cell? ⟨f,4,none⟩=some (.slice r L s)/\m.cell? ⟨f,2,none⟩=some (ab next)/\m.cell? ⟨h,9,none⟩=some (ae nm)/\m.cell? ⟨p,0,none⟩=some (ab a.1.1)/\m.cell? ⟨p,1,none⟩=some (ab a.1.2.1)/\m.cell? ⟨p,2,none⟩=some (ae a.1.2.2)/\m.cell? ⟨p,3,none⟩=some (.slice a.2.1.1 a.2.2.length a.2.1.2)):=by
    have cY:=aa.out;have cZ:=aB.out;have c0:=b4.out;have cy:some p≠(Value.slice r L s).ownBlock:=λe=>by
     have:=aP.out p e.symm;omega
    have k:=λj=>ar.cell_far ⟨p,j,none⟩ (by show p<_;omega) cy;obtain⟨cE,cF,cU,cH,cI,cJ,cK⟩:=a3.out;have bG:=λj=>ar.cell_far ⟨f,j,none⟩ (by show f<_;omega) λe=>a2.out.1 e.symm;exact⟨(bG 4).trans cE,(bG 2).trans cF,af Y.out.2.2 9,(k 0).trans cH,(k 1).trans cI,(k 2).trans cJ,(k 3).trans cK⟩
   clear bM ar a7 cw;refine q.out _ _ (λ_=>bg.out) (λa5=>?_);clear q G
   try simp only[Act.put,bS]
   refine cR (i:=16) (by kernel_rfl) rfl rfl (λG q=>?_) (by decide)
   go_simp
   refine q.out _ _ (λ_=>a5) (λ_=>?_);clear q G
   try simp only[Act.put,bS,dd,dc]
   refine aO (i:=17) (v:= ?_) rfl (by kernel_rfl) (by kernel_rfl) (by kernel_rfl) (by kernel_rfl) (λ_ _ _ c=>c) rfl ?_ a5 ?_;rotate_left
   ·intro w' l
    try dsimp only at l
    go_simp
    try with_reducible rfl
   try simp only[Act.put,bS]
   have cd:m.frozen? ⟨f,4,none⟩=false:=by
    have B:=K.out.2.2.2.1 4;unfold World.frozen? at B ⊢;rw[Y.out.1];exact B
   have cc:=bg.out.1;refine jc (by kernel_rfl) rfl rfl (by kernel_rfl) (λG q=>?_)
   go_simp
   refine q.out _ _ (NoPanic.normal ?_);clear q G
   try simp only[Act.put,bS,dd,dc]
   have bN:h≠f:=by have:=aA.out.2;omega
   have cz:h≠d:=by have:=aA.out.2;omega
   have cN:f≠h:=λe=>bN e.symm;have cO:d≠h:=λe=>cz e.symm;have bI:d≠f:=λe=>bH e.symm;have bh:Hid (∀j,m.cell? ⟨d,j,none⟩=w.cell? ⟨d,j,none⟩/\m.frozen? ⟨d,j,none⟩=false):=λj=>by
    have B:=K.out.2.2.2.2 j;unfold World.frozen? at B ⊢;unfold World.cell?;rw[Y.out.2.1];exact⟨rfl,B⟩
   have aX:Hid (∀j,m.cell? ⟨f,j,none⟩=w.cell? ⟨f,j,none⟩/\m.frozen? ⟨f,j,none⟩=false):=λj=>by
    have B:=K.out.2.2.2.1 j;unfold World.frozen? at B ⊢;unfold World.cell?;rw[Y.out.1];exact⟨rfl,B⟩
   have bs:Hid (∃n,n=m.setCell ⟨f,4,none⟩ (.slice (some ⟨Q,0,none⟩) (L+1) a4)/\(n.cell? ⟨f,0,none⟩=some (.slice (some ⟨d,0,none⟩) 4 P)/\n.cell? ⟨h,10,none⟩=some (ab g)/\n.cell? ⟨f,2,none⟩=some (ab next))/\(n.cell? ⟨d,g*4,none⟩=some (ab H)/\n.cell? ⟨d,g*4+1,none⟩=some (ab ad)/\n.cell? ⟨d,g*4+2,none⟩=some (ae al)/\n.cell? ⟨d,g*4+3,none⟩=some (.slice an aq ap))/\(∀j,n.frozen? ⟨d,j,none⟩=false)/\n.frozen? ⟨f,2,none⟩=false):=by
    have ba:=bt m f 4 (.slice (some ⟨Q,0,none⟩) (L+1) a4);have bE:d<m.heap.size:=aL a8 aN.out.size;have cv:=ba.block d bE bI;have aQ:=λj=>((ba.cell j bE bI).trans (bh.out j).1);refine⟨_,rfl,⟨(dl 0 (by decide)).trans ((aX.out 0).1.trans K.out.2.1),(ba.cell 10 (aC.1 Y.out.2.2).1 bN).trans (af Y.out.2.2 10),(dl 2 (by decide)).trans ((aX.out 2).1.trans K.out.2.2.1)⟩,⟨(aQ _).trans J.out.1,(aQ _).trans J.out.2.1,(aQ _).trans J.out.2.2.1,(aQ _).trans J.out.2.2.2⟩,λj=>?_,?_⟩
    ·have B:=(bh.out j).2;unfold World.frozen? at B ⊢;rw[cv];exact B
    ·rw[gu];exact(aX.out 2).2
   go_wp2_with fail;obtain⟨n,bb,⟨bW,bX,bc⟩,⟨cA,cB,cC,cD⟩,aF,bA⟩:=bs.out;rw[<-bb];have b6:=ao bb;have cj:=aF (g*4);have ck:=aF (g*4+1);have cl:=aF (g*4+2);have cm:=aF (g*4+3);clear bb bs aF x a6 cu a5 cb ce bY cf cg ch ci cd cc;have b1:Hid (n.drew.cell? ⟨f,0,none⟩=some (.slice (some ⟨d,0,none⟩) 4 P)/\n.drew.cell? ⟨h,10,none⟩=some (ab g)/\n.drew.cell? ⟨f,2,none⟩=some (ab next)):=⟨bW,bX,bc⟩;go_region_held3 (λW=>W.cell? ⟨f,0,none⟩=some (.slice (some ⟨d,0,none⟩) 4 P)/\W.cell? ⟨h,10,none⟩=some (ab g)/\W.cell? ⟨f,2,none⟩=some (ab next)) (first|exact b1.out|(go_keep;done)) (fail);have bu:Hid (∃aJ,aJ=(cG n d (g*4) (ab 3) (ab next) (ae ⟨#[]⟩) (.slice none 0 0)).drew/\aJ.cell? ⟨f,2,none⟩=some (ab next)/\aJ.frozen? ⟨f,2,none⟩=false):=by
    have bF:(cG n d (g*4) (ab 3) (ab next) (ae ⟨#[]⟩) (.slice none 0 0)).drew.heap[f]?=n.heap[f]? :=aT (w:=n) (o:=g*4) bH (ab 3) (ab next) (ae ⟨#[]⟩) (.slice none 0 0);refine⟨_,rfl,?_,?_⟩
    ·have c:=bc;unfold World.cell? at c ⊢;rw[bF];exact c
    ·have c:=bA;unfold World.frozen? at c ⊢;rw[bF];exact c
   obtain⟨aJ,aV,cT,bY⟩:=bu.out;have b7:=ao aV;unfold cG at aV;rw[<-aV];clear aV bu bW bX bc cA cB cC cD cj ck cl cm bA;go_wp2_with fail
   go_ret
   exact⟨rfl,λc=>(by cases c),λ_=>⟨a,Q,a4,m,n,aJ,ca.out,bv.out.1,bv.out.2,b2.out,aN.out,b0.out,b6.out,b7.out,rfl⟩⟩
end Go.Proofs.YtckamaoibonjcaaGreat
