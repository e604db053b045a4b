/- What is proved here: proc's doing.spawn: a process is put behind those that are spawned, and its number is bound. No condition but that all lies in memory. -/
import Derived.Test.YtckamaoibonjcaaGreatG13
namespace Go.Proofs.YtckamaoibonjcaaGreat
open Go.RowKit
set_option maxRecDepth 100000
set_option maxHeartbeats 4000000
theorem Fx:(Tryz.prog.info? 159).map (λi=>(i.zero,i.size,i.bytes))=some (some (.agg #[.int .i64 0,.string ⟨#[]⟩,.int .i64 0,.int .i64 0,.string ⟨#[]⟩,.slice none 0 0]),6,80):=by kernel_rfl
theorem dp{w:World}{b o:Nat}{v:Value}(j:Nat)(a:j≠o):(w.setCell ⟨b,o,none⟩ v).cell? ⟨b,j,none⟩=w.cell? ⟨b,j,none⟩:=by
 unfold World.cell? World.setCell;simp only[bG];cases h:w.heap[b]? with
 | none=>simp
 | some c=>cases c<;>simp[Ne.symm a]
theorem gA{w:World}{b o j:Nat}{v:Value}:(w.setCell ⟨b,o,none⟩ v).frozen? ⟨b,j,none⟩=w.frozen? ⟨b,j,none⟩:=by
 unfold World.frozen? World.setCell;simp only[bG];cases h:w.heap[b]? with
 | none=>simp
 | some a=>cases a<;>simp
def M7{N:Nat}(b:Int)(nm:ByteArray)(a:Tm (N+1)):List Value:=[.int .i64 b,.string nm,.int .i64 a.1.1,.int .i64 a.1.2.1,.string a.1.2.2,.slice a.2.1.1 a.2.2.length a.2.1.2]
def NG(N base g:Nat)(h:Option Addr)(L i:Nat)(xs:List Value)(t:Bool)(next:Int)(nm:ByteArray)(l m:Nat)(o:Option (Tm (N+1)))(w:World)(e:Ending)(w':World):Prop:=
 e=.returned (.bool (o.isSome && t))/\((o.isSome && t)=false->Below w.heap.size w w')/\
  ((o.isSome && t)=true->∃(f:Tm (N+1))(a c:Nat)(b j k:World),ax (N+1) f (N+1) (o.getD (vq N))=true/\In b.heap.size b (N+1) f/\bZ (λd=>w.heap.size<=d/\d≠a) (N+1) f/\b.ownsRow base 159 6 (.slice (some ⟨a,0,none⟩) (L+1) c) (L+1) (xs++M7 next nm f)/\bq (λd=>(Value.slice h L i).ownBlock=some d) w b/\((Value.slice h L i).ownBlock=some a\/w.heap.size<=a)/\j=b.setCell ⟨g,4,none⟩ (.slice (some ⟨a,0,none⟩) (L+1) c)/\k=(cJ j l (m*4) (.int .i64 3) (.int .i64 next) (.string ⟨#[]⟩) (.slice none 0 0)).drew/\w'=k.setCell ⟨g,2,none⟩ (.int .i64 (next+1)))
theorem Dk(N:Nat)(k T U:Int)(V:ByteArray)(xa:Option Addr)(X xc:Nat)(y0 y1:Int)(y2:ByteArray)(ya:Option Addr)(yl yc:Nat)(nm:ByteArray)(g:Nat)(base f:Nat)(u:Option Addr)(L x:Nat)(xs:List Value)(w:World)(o:Option (Tm (N+1)))(d Q:Nat)(next:Int)(H ab:Int)(ad:ByteArray)(ae:Option Addr)(aj af:Nat)(cN:g<4)(cG:L<=10000)(aM:f<w.heap.size)(a3:d<w.heap.size)(bD:f≠d)(cH:base<=w.heap.size)(cL:0<=next)(cM:next<=100000)(ct:nm.size<=2048)(M:Hid (w.cell? ⟨f,4,none⟩=some (.slice u L x)/\w.cell? ⟨f,0,none⟩=some (.slice (some ⟨d,0,none⟩) 4 Q)/\w.cell? ⟨f,2,none⟩=some (.int .i64 next)/\(∀j,w.frozen? ⟨f,j,none⟩=false)/\∀j,w.frozen? ⟨d,j,none⟩=false))(bj:Hid (w.ownsRow base 159 6 (.slice u L x) L xs))(aX:Hid ((Value.slice u L x).ownBlock≠some f/\(Value.slice u L x).ownBlock≠some d))(K:Hid (w.cell? ⟨d,g*4,none⟩=some (.int .i64 H)/\w.cell? ⟨d,g*4+1,none⟩=some (.int .i64 ab)/\w.cell? ⟨d,g*4+2,none⟩=some (.string ad)/\w.cell? ⟨d,g*4+3,none⟩=some (.slice ae aj af)))(aT:Hid (∀W,Calls Tryz.prog 170 #[.agg #[.int .i64 H,.int .i64 ab,.string ad,.slice ae aj af]] W λe w'=>e=.returned (.bool (!(H==6)))/\Below W.heap.size W w'))(bk:Hid (∀W,Below w.heap.size w W->Calls Tryz.prog 103 #[.pointer (some ⟨f,0,none⟩),.agg #[.int .i64 y0,.int .i64 y1,.string y2,.slice ya yl yc]] W (vP N o W))):Calls Tryz.prog 162 #[.pointer (some ⟨f,0,none⟩),.agg #[.int .i64 k,.int .i64 T,.int .i64 U,.string V,.slice xa X xc,.int .i64 y0,.int .i64 y1,.string y2,.slice ya yl yc,.string nm,.int .i64 g]] w (NG N base f u L x xs (H==6) next nm d g o w):=by
 obtain⟨aA,bF,bL,bM,bN⟩:=bS Fx;have aF:Hid (Tryz.prog.info? 159=some aA/\aA.zero=some (.agg #[.int .i64 0,.string ⟨#[]⟩,.int .i64 0,.int .i64 0,.string ⟨#[]⟩,.slice none 0 0])/\aA.size=6/\aA.bytes=80):=⟨bF,bL,bM,bN⟩;clear bF bL bM bN;obtain⟨t,bK⟩:∃t,t=(H==6):=⟨_,rfl⟩;rw[<-bK]at aT ⊢;clear bK;have bl:Hid (∃aC h,(aC=w.alloc (.cells #[.int .i64 k,.int .i64 T,.int .i64 U,.string V,.slice xa X xc,.int .i64 y0,.int .i64 y1,.string y2,.slice ya yl yc,.string nm,.int .i64 g] 224)/\h=w.heap.size)/\Below w.heap.size w aC/\aC.heap[h]?=some (.cells #[.int .i64 k,.int .i64 T,.int .i64 U,.string V,.slice xa X xc,.int .i64 y0,.int .i64 y1,.string y2,.slice ya yl yc,.string nm,.int .i64 g] 224)):=⟨_,_,⟨rfl,rfl⟩,(ap _ _).alloc (ak _) _,aB w _⟩;go_enter Tryz.func162,Tryz.ntmps162;go_wp2_with fail;obtain⟨aC,h,⟨bO,aO⟩,bw,a4⟩:=bl.out;rw[<-bO,<-aO];have am:=ao bw;have ba:=ao a4;have au:Hid (h<aC.heap.size/\w.heap.size<=h):=⟨(aD.1 a4).1,by omega⟩;clear bO aO bw a4 bl;refine(bk.out _ am.out).mono ?_;rintro e D ⟨a,rfl,P⟩;have an:=ao (am.out.trans (P.out.1.mono am.out.size));have bY:Hid (D.heap[h]?=some (.cells #[.int .i64 k,.int .i64 T,.int .i64 U,.string V,.slice xa X xc,.int .i64 y0,.int .i64 y1,.string y2,.slice ya yl yc,.string nm,.int .i64 g] 224)):=(P.out.1.block h au.out.1).trans ba.out;have bi:Hid (h<D.heap.size):=aN au.out.1 P.out.1.size;have br:=ao P.out.2.1;have b5:=ao P.out.2.2.1;have b6:=ao P.out.2.2.2;have b4:=ao am.out.size;clear P bk am ba;have bm:Hid (∃q p,(q=D.alloc (.cells #[.int .i64 a.1.1,.int .i64 a.1.2.1,.string a.1.2.2,.slice a.2.1.1 a.2.2.length a.2.1.2] 30)/\p=D.heap.size)/\Below D.heap.size D q/\q.heap[p]?=some (.cells #[.int .i64 a.1.1,.int .i64 a.1.2.1,.string a.1.2.2,.slice a.2.1.1 a.2.2.length a.2.1.2] 30)/\q.heap.size=D.heap.size+1):=⟨_,_,⟨rfl,rfl⟩,(ap _ _).alloc (ak _) _,aB _ _,by simp⟩;cases o with
 | none=>
  simp only[mx];go_wp2_with fail;go_region
  all_goals
   go_wp2_with fail
   go_ret
   exact⟨rfl,λ_=>(an.out.alloc an.out.size _).drew,λc=>(by cases c)⟩
 | some cS=>
  simp only[mA];go_wp2_with fail;obtain⟨q,p,⟨bP,O⟩,E⟩:=bm.out;rw[<-bP,<-O];have b0:Hid (p=D.heap.size):=O;replace E:=ao E;clear bP O bm;have J:=ao (an.out.trans (E.out.1.mono an.out.size));have aU:Hid (∀W:World,Below q.heap.size q W->W.heap[h]?=some (.cells #[.int .i64 k,.int .i64 T,.int .i64 U,.string V,.slice xa X xc,.int .i64 y0,.int .i64 y1,.string y2,.slice ya yl yc,.string nm,.int .i64 g] 224)/\W.heap[p]?=some (.cells #[.int .i64 a.1.1,.int .i64 a.1.2.1,.string a.1.2.2,.slice a.2.1.1 a.2.2.length a.2.1.2] 30)):=λW c=>⟨(c.block h (by have:=bi.out;have:=E.out.2.2;omega)).trans ((E.out.1.block h bi.out).trans bY.out),(c.block p (aD.1 E.out.2.1).1).trans E.out.2.1⟩;have ar:Hid (∀W:World,Below q.heap.size q W->(W.cell? ⟨f,0,none⟩=some (.slice (some ⟨d,0,none⟩) 4 Q)/\W.cell? ⟨h,10,none⟩=some (.int .i64 g))/\W.cell? ⟨d,g*4,none⟩=some (.int .i64 H)/\W.cell? ⟨d,g*4+1,none⟩=some (.int .i64 ab)/\W.cell? ⟨d,g*4+2,none⟩=some (.string ad)/\W.cell? ⟨d,g*4+3,none⟩=some (.slice ae aj af)):=λW c=>by
   have S:=J.out.trans (c.mono J.out.size);have aL:=λj=>S.cell (p:=⟨d,j,none⟩) a3;exact⟨⟨(S.cell (p:=⟨f,0,none⟩) aM).trans M.out.2.1,ag (aU.out W c).1 10⟩,(aL _).trans K.out.1,(aL _).trans K.out.2.1,(aL _).trans K.out.2.2.1,(aL _).trans K.out.2.2.2⟩
  obtain⟨⟨cj,ck⟩,cl,cm,cn,co⟩:=ar.out q (ap _ _);have Z:Hid (Below q.heap.size q q.drew):=(ap _ _).drew;have cQ:(0:Int)<=(g:Int):=by omega
  have cR:(g:Int)<4:=by omega
  have be:=ao (aT.out q.drew);clear aT;cases t
  ·go_region_held3 (λW=>(W.cell? ⟨f,0,none⟩=some (.slice (some ⟨d,0,none⟩) 4 Q)/\W.cell? ⟨h,10,none⟩=some (.int .i64 g))/\W.cell? ⟨d,g*4,none⟩=some (.int .i64 H)/\W.cell? ⟨d,g*4+1,none⟩=some (.int .i64 ab)/\W.cell? ⟨d,g*4+2,none⟩=some (.string ad)/\W.cell? ⟨d,g*4+3,none⟩=some (.slice ae aj af)) (first|(go_keep;done)|exact ar.out _ Z.out|exact ar.out _ A.out) ((first
     | (go_at_call 170;refine be.out.mono ?_;rintro e I ⟨rfl,aw⟩;have A:=ao (Z.out.trans (aw.mono Z.out.size));clear aw)))
   go_wp2_with fail
   go_ret
   exact⟨rfl,λ_=>J.out.trans (A.out.mono J.out.size),λc=>(by cases c)⟩
  ·go_region_held3 (λW=>(W.cell? ⟨f,0,none⟩=some (.slice (some ⟨d,0,none⟩) 4 Q)/\W.cell? ⟨h,10,none⟩=some (.int .i64 g))/\W.cell? ⟨d,g*4,none⟩=some (.int .i64 H)/\W.cell? ⟨d,g*4+1,none⟩=some (.int .i64 ab)/\W.cell? ⟨d,g*4+2,none⟩=some (.string ad)/\W.cell? ⟨d,g*4+3,none⟩=some (.slice ae aj af)) (first|(go_keep;done)|exact ar.out _ Z.out|exact ar.out _ A.out) ((first
     | (go_at_call 170;refine be.out.mono ?_;rintro e I ⟨rfl,aw⟩;have A:=ao (Z.out.trans (aw.mono Z.out.size));clear aw)))
   clear cj ck cl cm cn co;go_wp2_with fail;have a8:=ao (J.out.trans (A.out.mono J.out.size));have aG:Hid (∀W:World,Below I.heap.size I W->W.cell? ⟨f,4,none⟩=some (.slice u L x)/\W.cell? ⟨f,2,none⟩=some (.int .i64 next)/\W.cell? ⟨h,9,none⟩=some (.string nm)/\W.cell? ⟨p,0,none⟩=some (.int .i64 a.1.1)/\W.cell? ⟨p,1,none⟩=some (.int .i64 a.1.2.1)/\W.cell? ⟨p,2,none⟩=some (.string a.1.2.2)/\W.cell? ⟨p,3,none⟩=some (.slice a.2.1.1 a.2.2.length a.2.1.2)):=λW c=>by
    have bv:=A.out.trans (c.mono A.out.size);have S:=J.out.trans (bv.mono J.out.size);obtain⟨aO,O⟩:=aU.out W bv;exact⟨(S.cell (p:=⟨f,4,none⟩) aM).trans M.out.1,(S.cell (p:=⟨f,2,none⟩) aM).trans M.out.2.2.1,ag aO 9,ag O 0,ag O 1,ag O 2,ag O 3⟩
   have y:=aG.out I.drew (ap _ _).drew;have bd:Hid (Below I.heap.size I I.drew):=(ap _ _).drew;obtain⟨b7,ca,bU,cb,cc,cd,ce⟩:=aG.out I (ap _ _);have b1:=ao (dH nm I.drew ct);refine wp_region_noPanic ?_;refine ji (λW=>W.cell? ⟨f,4,none⟩=some (.slice u L x)/\W.cell? ⟨f,2,none⟩=some (.int .i64 next)/\W.cell? ⟨h,9,none⟩=some (.string nm)/\W.cell? ⟨p,0,none⟩=some (.int .i64 a.1.1)/\W.cell? ⟨p,1,none⟩=some (.int .i64 a.1.2.1)/\W.cell? ⟨p,2,none⟩=some (.string a.1.2.2)/\W.cell? ⟨p,3,none⟩=some (.slice a.2.1.1 a.2.2.length a.2.1.2)) 18 (by kernel_rfl) ?_
   try simp only[eW]
   refine aS (i:=0) (v:= ?_) rfl (by kernel_rfl) (by kernel_rfl) (by kernel_rfl) (by kernel_rfl) (λ_ _ _ c=>c) rfl ?_ y ?_;rotate_left
   ·intro w' l
    try dsimp only at l
    go_simp
    try with_reducible rfl
   try simp only[Act.put,bT]
   refine aS (i:=1) (v:= ?_) rfl (by kernel_rfl) (by kernel_rfl) (by kernel_rfl) (by kernel_rfl) (λ_ _ _ c=>c) rfl ?_ y ?_;rotate_left
   ·intro w' l
    try dsimp only at l
    go_simp
    try with_reducible rfl
   try simp only[Act.put]
   refine aS (i:=2) (v:= ?_) rfl (by kernel_rfl) (by kernel_rfl) (by kernel_rfl) (by kernel_rfl) (λ_ _ _ c=>c) rfl ?_ y ?_;rotate_left
   ·intro w' l
    try dsimp only at l
    go_simp
    try with_reducible rfl
   try simp only[Act.put]
   refine aS (i:=3) (v:= ?_) rfl (by kernel_rfl) (by kernel_rfl) (by kernel_rfl) (by kernel_rfl) (λ_ _ _ c=>c) rfl ?_ y ?_;rotate_left
   ·intro w' l
    try dsimp only at l
    go_simp
    try with_reducible rfl
   try simp only[Act.put]
   refine aS (i:=4) (v:= ?_) rfl (by kernel_rfl) (by kernel_rfl) (by kernel_rfl) (by kernel_rfl) (λ_ _ _ c=>c) rfl ?_ y ?_;rotate_left
   ·intro w' l
    try dsimp only at l
    go_simp
    try with_reducible rfl
   try simp only[Act.put]
   refine aS (i:=5) (v:= ?_) rfl (by kernel_rfl) (by kernel_rfl) (by kernel_rfl) (by kernel_rfl) (λ_ _ _ c=>c) rfl ?_ y ?_;rotate_left
   ·intro w' l
    try dsimp only at l
    go_simp
    try with_reducible rfl
   try simp only[Act.put]
   refine aS (i:=6) (v:= ?_) rfl (by kernel_rfl) (by kernel_rfl) (by kernel_rfl) (by kernel_rfl) (λ_ _ _ c=>c) rfl ?_ y ?_;rotate_left
   ·intro w' l
    try dsimp only at l
    go_simp
    try with_reducible rfl
   try simp only[Act.put]
   refine aS (i:=7) (v:= ?_) rfl (by kernel_rfl) (by kernel_rfl) (by kernel_rfl) (by kernel_rfl) (λ_ _ _ c=>c) rfl ?_ y ?_;rotate_left
   ·intro w' l
    try dsimp only at l
    go_simp
    try with_reducible rfl
   try simp only[Act.put]
   refine aS (i:=8) (v:= ?_) rfl (by kernel_rfl) (by kernel_rfl) (by kernel_rfl) (by kernel_rfl) (λ_ _ _ c=>c) rfl ?_ y ?_;rotate_left
   ·intro w' l
    try dsimp only at l
    go_simp
    try with_reducible rfl
   try simp only[Act.put]
   refine aS (i:=9) (v:= ?_) rfl (by kernel_rfl) (by kernel_rfl) (by kernel_rfl) (by kernel_rfl) (λ_ _ _ c=>c) rfl ?_ y ?_;rotate_left
   ·intro w' l
    try dsimp only at l
    go_simp
    try with_reducible rfl
   try simp only[Act.put]
   refine aS (i:=10) (v:= ?_) rfl (by kernel_rfl) (by kernel_rfl) (by kernel_rfl) (by kernel_rfl) (λ_ _ _ c=>c) rfl ?_ y ?_;rotate_left
   ·intro w' l
    try dsimp only at l
    go_simp
    try with_reducible rfl
   try simp only[Act.put]
   refine aS (i:=12) (v:= ?_) rfl (by kernel_rfl) (by kernel_rfl) (by kernel_rfl) (by kernel_rfl) (λ_ _ _ c=>c) rfl ?_ y ?_;rotate_left
   ·intro w' l
    try dsimp only at l
    go_simp
    try with_reducible rfl
   try simp only[Act.put]
   refine cV (i:=11) (by kernel_rfl) rfl rfl (λG s=>?_) (by decide)
   go_simp
   refine b1.out.mono ?_;rintro e r ⟨rfl,bx⟩;have F:=ao (bd.out.trans (bx.mono bd.out.size));have a1:=aG.out r F.out;refine s.out _ _ (λ_=>a1) (λ_=>?_);clear s G bx
   try simp only[Act.put,bT,dg,df]
   have a9:=ao (a8.out.trans (F.out.mono a8.out.size));obtain⟨z,bG⟩:∃z:Obj,z=.cells #[.int .i64 next,.string nm,.int .i64 a.1.1,.int .i64 a.1.2.1,.string a.1.2.2,.slice a.2.1.1 a.2.2.length a.2.1.2] 159:=⟨_,rfl⟩;have aq:Hid (Below r.heap.size r (r.alloc z)):=(ap _ _).alloc (ak _) z;have aY:=ao (aG.out _ (F.out.trans (aq.out.mono F.out.size)));have aQ:=ao (a9.out.trans (aq.out.mono a9.out.size));have bh:Hid ((r.alloc z).ownsRow base 159 6 (.slice u L x) L xs):=bf bj.out (aI aQ.out λ_=>False) λ_ _ c=>c;have bg:Hid ((r.alloc z).heap[r.heap.size]?=some z):=aB r z;have aa:Hid ((r.alloc z).heap.size=r.heap.size+1):=(show _=_ by simp);have av:Hid (q.heap.size=D.heap.size+1/\w.heap.size<=D.heap.size/\q.heap.size<=r.heap.size):=⟨E.out.2.2,an.out.size,ay A.out.size F.out.size⟩;have bs:Hid (In (r.alloc z).heap.size (r.alloc z) (N+1) a):=(br.out.below (E.out.1.trans ((A.out.trans ((F.out.trans (aq.out.mono F.out.size)).mono A.out.size)).mono E.out.1.size))).mono (by have:=aa.out;have:=av.out;omega);have aW:Hid ((r.alloc z).heap[h]?=some (.cells #[.int .i64 k,.int .i64 T,.int .i64 U,.string V,.slice xa X xc,.int .i64 y0,.int .i64 y1,.string y2,.slice ya yl yc,.string nm,.int .i64 g] 224)):=(aU.out _ (A.out.trans ((F.out.trans (aq.out.mono F.out.size)).mono A.out.size))).1;rw[bG]at aq aY aQ bh bg aa bs aW;clear bG z;refine aS (i:=13) (v:= ?_) rfl (by kernel_rfl) (by kernel_rfl) (by kernel_rfl) (by kernel_rfl) (λ_ _ _ c=>c) rfl ?_ a1 ?_;rotate_left
   ·intro w' l
    try dsimp only at l
    go_simp
    try with_reducible rfl
   try simp only[Act.put]
   refine cV (i:=14) (by kernel_rfl) rfl rfl (λG s=>?_) (by decide)
   go_simp
   refine s.out _ _ (λ_=>aY.out) (λcp=>?_);clear s G
   try simp only[Act.put,bT,dg,df]
   refine cV (i:=15) (by kernel_rfl) rfl rfl (λG s=>?_) (by decide);refine wp_append_lies _ _ _ 110 rfl base 159 aA _ 6 80 Tryz.underlying110 aF.out.1 aF.out.2.1 aF.out.2.2.1 aF.out.2.2.2 rfl (by decide) (.slice u L x) L xs rfl bh.out ⟨r.heap.size,0,none⟩ 1 1 (M7 next nm a) rfl rfl (World.news_of_block (cs:= #[.int .i64 next,.string nm,.int .i64 a.1.1,.int .i64 a.1.2.1,.string a.1.2.2,.slice a.2.1.1 a.2.2.length a.2.1.2]) (t:=159) (fr:=(0,0)) bg.out) (by simp[M7,Value.oneCell']) (by decide) (by unfold maxLen;omega) (by omega) (by have:=aa.out;have:=av.out;omega) _ rfl ?_;intro R aZ m bI al a2 cr;have aH:Hid (bq (λC=>(Value.slice u L x).ownBlock=some C) w m):=bq.trans (aI aQ.out _) (dU al) λ_ _ e=>e;have bV:Hid ((Value.slice u L x).ownBlock=some R\/w.heap.size<=R):=by
    rcases a2 with e|e
    ·exact ah e
    ·exact ai (by have:=aa.out;have:=av.out;omega)
   have bX:=ao bI;have aJ:Hid (∀b,(Value.slice u L x).ownBlock=some b->b<w.heap.size):=λb S=>(bj.out.lt b S).2;have bp:Hid (In m.heap.size m (N+1) a/\bZ (λC=>w.heap.size<=C/\C≠R) (N+1) a):=by
    have bH:bZ (λC=>w.heap.size<=C/\C<D.heap.size) (N+1) a:=(In.offB b5.out br.out).mono λC az=>⟨ay b4.out az.1,az.2⟩;refine⟨bs.out.kee (dU al) (bH.mono λC az e=>?_),bH.mono λC az=>⟨az.1,λe=>?_⟩⟩
    ·have:=aJ.out C e;omega
    ·rcases a2 with bt|bt
     ·have:=aJ.out R bt;omega
     ·have:=aa.out;have:=av.out;omega
   have Y:Hid (m.heap[f]?=w.heap[f]? /\m.heap[d]?=w.heap[d]? /\m.heap[h]?=some (.cells #[.int .i64 k,.int .i64 T,.int .i64 U,.string V,.slice xa X xc,.int .i64 y0,.int .i64 y1,.string y2,.slice ya yl yc,.string nm,.int .i64 g] 224)):=by
    refine⟨aH.out.block f aM aX.out.1,aH.out.block d a3 aX.out.2,(al.block h (aD.1 aW.out).1 λe=>?_).trans aW.out⟩;have:=aJ.out h e.symm;have:=au.out.2;omega
   have bb:Hid (m.cell? ⟨f,4,none⟩=some (.slice u L x)/\m.cell? ⟨f,2,none⟩=some (.int .i64 next)/\m.cell? ⟨h,9,none⟩=some (.string nm)/\m.cell? ⟨p,0,none⟩=some (.int .i64 a.1.1)/\m.cell? ⟨p,1,none⟩=some (.int .i64 a.1.2.1)/\m.cell? ⟨p,2,none⟩=some (.string a.1.2.2)/\m.cell? ⟨p,3,none⟩=some (.slice a.2.1.1 a.2.2.length a.2.1.2)):=by
    have cT:=aa.out;have cU:=av.out;have cW:=b0.out;have cu:some p≠(Value.slice u L x).ownBlock:=λe=>by
     have:=aJ.out p e.symm;omega
    have k:=λj=>al.cell_far ⟨p,j,none⟩ (by show p<_;omega) cu;obtain⟨cA,cB,cP,cC,cD,cE,cF⟩:=aY.out;have bC:=λj=>al.cell_far ⟨f,j,none⟩ (by show f<_;omega) λe=>aX.out.1 e.symm;exact⟨(bC 4).trans cA,(bC 2).trans cB,ag Y.out.2.2 9,(k 0).trans cC,(k 1).trans cD,(k 2).trans cE,(k 3).trans cF⟩
   clear bI al a2 cr;refine s.out _ _ (λ_=>bb.out) (λa0=>?_);clear s G
   try simp only[Act.put,bT]
   refine cV (i:=16) (by kernel_rfl) rfl rfl (λG s=>?_) (by decide)
   go_simp
   refine s.out _ _ (λ_=>a0) (λ_=>?_);clear s G
   try simp only[Act.put,bT,dg,df]
   refine aS (i:=17) (v:= ?_) rfl (by kernel_rfl) (by kernel_rfl) (by kernel_rfl) (by kernel_rfl) (λ_ _ _ c=>c) rfl ?_ a0 ?_;rotate_left
   ·intro w' l
    try dsimp only at l
    go_simp
    try with_reducible rfl
   try simp only[Act.put,bT]
   have b9:m.frozen? ⟨f,4,none⟩=false:=by
    have B:=M.out.2.2.2.1 4;unfold World.frozen? at B ⊢;rw[Y.out.1];exact B
   have b8:=bb.out.1;refine jh (by kernel_rfl) rfl rfl (by kernel_rfl) (λG s=>?_)
   go_simp
   refine s.out _ _ (NoPanic.normal ?_);clear s G
   try simp only[Act.put,bT,dg,df]
   have bJ:h≠f:=by have:=au.out.2;omega
   have cv:h≠d:=by have:=au.out.2;omega
   have cI:f≠h:=λe=>bJ e.symm;have cK:d≠h:=λe=>cv e.symm;have bE:d≠f:=λe=>bD e.symm;have bc:Hid (∀j,m.cell? ⟨d,j,none⟩=w.cell? ⟨d,j,none⟩/\m.frozen? ⟨d,j,none⟩=false):=λj=>by
    have B:=M.out.2.2.2.2 j;unfold World.frozen? at B ⊢;unfold World.cell?;rw[Y.out.2.1];exact⟨rfl,B⟩
   have aR:Hid (∀j,m.cell? ⟨f,j,none⟩=w.cell? ⟨f,j,none⟩/\m.frozen? ⟨f,j,none⟩=false):=λj=>by
    have B:=M.out.2.2.2.1 j;unfold World.frozen? at B ⊢;unfold World.cell?;rw[Y.out.1];exact⟨rfl,B⟩
   have bn:Hid (∃n,n=m.setCell ⟨f,4,none⟩ (.slice (some ⟨R,0,none⟩) (L+1) aZ)/\(n.cell? ⟨f,0,none⟩=some (.slice (some ⟨d,0,none⟩) 4 Q)/\n.cell? ⟨h,10,none⟩=some (.int .i64 g)/\n.cell? ⟨f,2,none⟩=some (.int .i64 next))/\(n.cell? ⟨d,g*4,none⟩=some (.int .i64 H)/\n.cell? ⟨d,g*4+1,none⟩=some (.int .i64 ab)/\n.cell? ⟨d,g*4+2,none⟩=some (.string ad)/\n.cell? ⟨d,g*4+3,none⟩=some (.slice ae aj af))/\(∀j,n.frozen? ⟨d,j,none⟩=false)/\n.frozen? ⟨f,2,none⟩=false):=by
    have a5:=bz m f 4 (.slice (some ⟨R,0,none⟩) (L+1) aZ);have bA:d<m.heap.size:=aN a3 aH.out.size;have cq:=a5.block d bA bE;have aK:=λj=>((a5.cell j bA bE).trans (bc.out j).1);refine⟨_,rfl,⟨(dp 0 (by decide)).trans ((aR.out 0).1.trans M.out.2.1),(a5.cell 10 (aD.1 Y.out.2.2).1 bJ).trans (ag Y.out.2.2 10),(dp 2 (by decide)).trans ((aR.out 2).1.trans M.out.2.2.1)⟩,⟨(aK _).trans K.out.1,(aK _).trans K.out.2.1,(aK _).trans K.out.2.2.1,(aK _).trans K.out.2.2.2⟩,λj=>?_,?_⟩
    ·have B:=(bc.out j).2;unfold World.frozen? at B ⊢;rw[cq];exact B
    ·rw[gA];exact(aR.out 2).2
   go_wp2_with fail;obtain⟨n,a6,⟨bQ,bR,a7⟩,⟨cw,cx,cy,cz⟩,ax,bu⟩:=bn.out;rw[<-a6];have b2:=ao a6;have cf:=ax (g*4);have cg:=ax (g*4+1);have ch:=ax (g*4+2);have ci:=ax (g*4+3);clear a6 bn ax y a1 cp a0 b7 ca bU cb cc cd ce b9 b8;have bW:Hid (n.drew.cell? ⟨f,0,none⟩=some (.slice (some ⟨d,0,none⟩) 4 Q)/\n.drew.cell? ⟨h,10,none⟩=some (.int .i64 g)/\n.drew.cell? ⟨f,2,none⟩=some (.int .i64 next)):=⟨bQ,bR,a7⟩;go_region_held3 (λW=>W.cell? ⟨f,0,none⟩=some (.slice (some ⟨d,0,none⟩) 4 Q)/\W.cell? ⟨h,10,none⟩=some (.int .i64 g)/\W.cell? ⟨f,2,none⟩=some (.int .i64 next)) (first|exact bW.out|(go_keep;done)) (fail);have bo:Hid (∃aE,aE=(cJ n d (g*4) (.int .i64 3) (.int .i64 next) (.string ⟨#[]⟩) (.slice none 0 0)).drew/\aE.cell? ⟨f,2,none⟩=some (.int .i64 next)/\aE.frozen? ⟨f,2,none⟩=false):=by
    have bB:(cJ n d (g*4) (.int .i64 3) (.int .i64 next) (.string ⟨#[]⟩) (.slice none 0 0)).drew.heap[f]?=n.heap[f]? :=aV (w:=n) (o:=g*4) bD (.int .i64 3) (.int .i64 next) (.string ⟨#[]⟩) (.slice none 0 0);refine⟨_,rfl,?_,?_⟩
    ·have c:=a7;unfold World.cell? at c ⊢;rw[bB];exact c
    ·have c:=bu;unfold World.frozen? at c ⊢;rw[bB];exact c
   obtain⟨aE,aP,cO,bU⟩:=bo.out;have b3:=ao aP;unfold cJ at aP;rw[<-aP];clear aP bo bQ bR a7 cw cx cy cz cf cg ch ci bu;go_wp2_with fail
   go_ret
   exact⟨rfl,λc=>(by cases c),λ_=>⟨a,R,aZ,m,n,aE,b6.out,bp.out.1,bp.out.2,bX.out,aH.out,bV.out,b2.out,b3.out,rfl⟩⟩
end Go.Proofs.YtckamaoibonjcaaGreat
