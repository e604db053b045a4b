/- What is proved here: proc's doing.spawn: a process is put behind those that are spawned, and its number is bound. No condition but that all lies in memory. -/
import Derived.Test.YtnidfceinoiboaaGreatG13
namespace Go.Proofs.YtnidfceinoiboaaGreat
open Go.RowKit
set_option maxRecDepth 100000
set_option maxHeartbeats 4000000
theorem Dz:(Tryz.prog.info? 150).map (λi=>(i.zero,i.size,i.bytes))=some (some (.agg #[.int .i64 0,.string ⟨#[]⟩,.int .i64 0,.int .i64 0,.string ⟨#[]⟩,.slice none 0 0]),6,80):=by kernel_rfl
theorem dm{w:World}{b o:Nat}{v:Value}(j:Nat)(a:j≠o):(w.setCell ⟨b,o,none⟩ v).cell? ⟨b,j,none⟩=w.cell? ⟨b,j,none⟩:=by
 unfold World.cell? World.setCell;simp only[bJ];cases h:w.heap[b]? with
 | none=>simp
 | some c=>cases c<;>simp[Ne.symm a]
theorem fR{w:World}{b o j:Nat}{v:Value}:(w.setCell ⟨b,o,none⟩ v).frozen? ⟨b,j,none⟩=w.frozen? ⟨b,j,none⟩:=by
 unfold World.frozen? World.setCell;simp only[bJ];cases h:w.heap[b]? with
 | none=>simp
 | some a=>cases a<;>simp
def KI{N:Nat}(u:Int)(nm:ByteArray)(z:Tm (N+1)):List Value:=[.int .i64 u,.string nm,.int .i64 z.1.1,.int .i64 z.1.2.1,.string z.1.2.2,.slice z.2.1.1 z.2.2.length z.2.1.2]
def Ll(N base g:Nat)(h:Option Addr)(L i:Nat)(xs:List Value)(t:Bool)(next:Int)(nm:ByteArray)(l m:Nat)(o:Option (Tm (N+1)))(w:World)(e:Ending)(w':World):Prop:=
 e=.returned (.bool (o.isSome && t))/\((o.isSome && t)=false->Below w.heap.size w w')/\
  ((o.isSome && t)=true->∃(f:Tm (N+1))(a c:Nat)(b j k:World),aw (N+1) f (N+1) (o.getD (uo N))=true/\In b.heap.size b (N+1) f/\ch (λd=>w.heap.size<=d/\d≠a) (N+1) f/\b.ownsRow base 150 6 (.slice (some ⟨a,0,none⟩) (L+1) c) (L+1) (xs++KI next nm f)/\bf (λd=>(Value.slice h L i).ownBlock=some d) w b/\((Value.slice h L i).ownBlock=some a\/w.heap.size<=a)/\j=b.setCell ⟨g,4,none⟩ (.slice (some ⟨a,0,none⟩) (L+1) c)/\k=(cP j l (m*4) (.int .i64 3) (.int .i64 next) (.string ⟨#[]⟩) (.slice none 0 0)).drew/\w'=k.setCell ⟨g,2,none⟩ (.int .i64 (next+1)))
theorem BK(N:Nat)(k T U:Int)(V:ByteArray)(xa:Option Addr)(X xc:Nat)(y0 y1:Int)(y2:ByteArray)(ya:Option Addr)(yl yc:Nat)(nm:ByteArray)(g:Nat)(base f:Nat)(u:Option Addr)(L x:Nat)(xs:List Value)(w:World)(o:Option (Tm (N+1)))(d Q:Nat)(next:Int)(H ad:Int)(aj:ByteArray)(ak:Option Addr)(am al:Nat)(cM:g<4)(cG:L<=10000)(aP:f<w.heap.size)(a4:d<w.heap.size)(bC:f≠d)(cH:base<=w.heap.size)(cK:0<=next)(cL:next<=100000)(ct:nm.size<=2048)(M:Hid (w.cell? ⟨f,4,none⟩=some (.slice u L x)/\w.cell? ⟨f,0,none⟩=some (.slice (some ⟨d,0,none⟩) 4 Q)/\w.cell? ⟨f,2,none⟩=some (.int .i64 next)/\(∀j,w.frozen? ⟨f,j,none⟩=false)/\∀j,w.frozen? ⟨d,j,none⟩=false))(bk:Hid (w.ownsRow base 150 6 (.slice u L x) L xs))(aY:Hid ((Value.slice u L x).ownBlock≠some f/\(Value.slice u L x).ownBlock≠some d))(K:Hid (w.cell? ⟨d,g*4,none⟩=some (.int .i64 H)/\w.cell? ⟨d,g*4+1,none⟩=some (.int .i64 ad)/\w.cell? ⟨d,g*4+2,none⟩=some (.string aj)/\w.cell? ⟨d,g*4+3,none⟩=some (.slice ak am al)))(aV:Hid (∀W,Calls Tryz.prog 156 #[.agg #[.int .i64 H,.int .i64 ad,.string aj,.slice ak am al]] W λe w'=>e=.returned (.bool (!(H==6)))/\Below W.heap.size W w'))(bl:Hid (∀W,Below w.heap.size w W->Calls Tryz.prog 89 #[.pointer (some ⟨f,0,none⟩),.agg #[.int .i64 y0,.int .i64 y1,.string y2,.slice ya yl yc]] W (uL N o W))):Calls Tryz.prog 148 #[.pointer (some ⟨f,0,none⟩),.agg #[.int .i64 k,.int .i64 T,.int .i64 U,.string V,.slice xa X xc,.int .i64 y0,.int .i64 y1,.string y2,.slice ya yl yc,.string nm,.int .i64 g]] w (Ll N base f u L x xs (H==6) next nm d g o w):=by
 obtain⟨aB,bE,bN,bO,bP⟩:=bM Dz;have aG:Hid (Tryz.prog.info? 150=some aB/\aB.zero=some (.agg #[.int .i64 0,.string ⟨#[]⟩,.int .i64 0,.int .i64 0,.string ⟨#[]⟩,.slice none 0 0])/\aB.size=6/\aB.bytes=80):=⟨bE,bN,bO,bP⟩;clear bE bN bO bP;obtain⟨t,bK⟩:∃t,t=(H==6):=⟨_,rfl⟩;rw[<-bK]at aV ⊢;clear bK;have bm:Hid (∃aD h,(aD=w.alloc (.cells #[.int .i64 k,.int .i64 T,.int .i64 U,.string V,.slice xa X xc,.int .i64 y0,.int .i64 y1,.string y2,.slice ya yl yc,.string nm,.int .i64 g] 83)/\h=w.heap.size)/\Below w.heap.size w aD/\aD.heap[h]?=some (.cells #[.int .i64 k,.int .i64 T,.int .i64 U,.string V,.slice xa X xc,.int .i64 y0,.int .i64 y1,.string y2,.slice ya yl yc,.string nm,.int .i64 g] 83)):=⟨_,_,⟨rfl,rfl⟩,(ah _ _).alloc (ag _) _,ax w _⟩;go_enter Tryz.func148,Tryz.ntmps148;go_wp2_with fail;obtain⟨aD,h,⟨bQ,aQ⟩,bw,a5⟩:=bm.out;rw[<-bQ,<-aQ];have ao:=ai bw;have bb:=ai a5;have av:Hid (h<aD.heap.size/\w.heap.size<=h):=⟨(aE.1 a5).1,by omega⟩;clear bQ aQ bw a5 bm;refine(bl.out _ ao.out).mono ?_;rintro e D ⟨a,rfl,P⟩;have ap:=ai (ao.out.trans (P.out.1.mono ao.out.size));have bY:Hid (D.heap[h]?=some (.cells #[.int .i64 k,.int .i64 T,.int .i64 U,.string V,.slice xa X xc,.int .i64 y0,.int .i64 y1,.string y2,.slice ya yl yc,.string nm,.int .i64 g] 83)):=(P.out.1.block h av.out.1).trans bb.out;have bj:Hid (h<D.heap.size):=aL av.out.1 P.out.1.size;have br:=ai P.out.2.1;have b4:=ai P.out.2.2.1;have b5:=ai P.out.2.2.2;have b3:=ai ao.out.size;clear P bl ao bb;have bn:Hid (∃q p,(q=D.alloc (.cells #[.int .i64 a.1.1,.int .i64 a.1.2.1,.string a.1.2.2,.slice a.2.1.1 a.2.2.length a.2.1.2] 30)/\p=D.heap.size)/\Below D.heap.size D q/\q.heap[p]?=some (.cells #[.int .i64 a.1.1,.int .i64 a.1.2.1,.string a.1.2.2,.slice a.2.1.1 a.2.2.length a.2.1.2] 30)/\q.heap.size=D.heap.size+1):=⟨_,_,⟨rfl,rfl⟩,(ah _ _).alloc (ag _) _,ax _ _,by simp⟩;cases o with
 | none=>
  simp only[lO];go_wp2_with fail;go_region
  all_goals
   go_wp2_with fail
   go_ret
   exact⟨rfl,λ_=>(ap.out.alloc ap.out.size _).drew,λc=>(by cases c)⟩
 | some cT=>
  simp only[jU];go_wp2_with fail;obtain⟨q,p,⟨bR,O⟩,E⟩:=bn.out;rw[<-bR,<-O];have bZ:Hid (p=D.heap.size):=O;replace E:=ai E;clear bR O bn;have J:=ai (ap.out.trans (E.out.1.mono ap.out.size));have aW:Hid (∀W:World,Below q.heap.size q W->W.heap[h]?=some (.cells #[.int .i64 k,.int .i64 T,.int .i64 U,.string V,.slice xa X xc,.int .i64 y0,.int .i64 y1,.string y2,.slice ya yl yc,.string nm,.int .i64 g] 83)/\W.heap[p]?=some (.cells #[.int .i64 a.1.1,.int .i64 a.1.2.1,.string a.1.2.2,.slice a.2.1.1 a.2.2.length a.2.1.2] 30)):=λW c=>⟨(c.block h (by have:=bj.out;have:=E.out.2.2;omega)).trans ((E.out.1.block h bj.out).trans bY.out),(c.block p (aE.1 E.out.2.1).1).trans E.out.2.1⟩;have ar:Hid (∀W:World,Below q.heap.size q W->(W.cell? ⟨f,0,none⟩=some (.slice (some ⟨d,0,none⟩) 4 Q)/\W.cell? ⟨h,10,none⟩=some (.int .i64 g))/\W.cell? ⟨d,g*4,none⟩=some (.int .i64 H)/\W.cell? ⟨d,g*4+1,none⟩=some (.int .i64 ad)/\W.cell? ⟨d,g*4+2,none⟩=some (.string aj)/\W.cell? ⟨d,g*4+3,none⟩=some (.slice ak am al)):=λW c=>by
   have S:=J.out.trans (c.mono J.out.size);have aN:=λj=>S.cell (p:=⟨d,j,none⟩) a4;exact⟨⟨(S.cell (p:=⟨f,0,none⟩) aP).trans M.out.2.1,ab (aW.out W c).1 10⟩,(aN _).trans K.out.1,(aN _).trans K.out.2.1,(aN _).trans K.out.2.2.1,(aN _).trans K.out.2.2.2⟩
  obtain⟨⟨cj,ck⟩,cl,cm,cn,co⟩:=ar.out q (ah _ _);have Z:Hid (Below q.heap.size q q.drew):=(ah _ _).drew;have cR:(0:Int)<=(g:Int):=by omega
  have cS:(g:Int)<4:=by omega
  have bg:=ai (aV.out q.drew);clear aV;cases t
  ·go_region_held3 (λW=>(W.cell? ⟨f,0,none⟩=some (.slice (some ⟨d,0,none⟩) 4 Q)/\W.cell? ⟨h,10,none⟩=some (.int .i64 g))/\W.cell? ⟨d,g*4,none⟩=some (.int .i64 H)/\W.cell? ⟨d,g*4+1,none⟩=some (.int .i64 ad)/\W.cell? ⟨d,g*4+2,none⟩=some (.string aj)/\W.cell? ⟨d,g*4+3,none⟩=some (.slice ak am al)) (first|(go_keep;done)|exact ar.out _ Z.out|exact ar.out _ A.out) ((first
     | (go_at_call 156;refine bg.out.mono ?_;rintro e I ⟨rfl,ay⟩;have A:=ai (Z.out.trans (ay.mono Z.out.size));clear ay)))
   go_wp2_with fail
   go_ret
   exact⟨rfl,λ_=>J.out.trans (A.out.mono J.out.size),λc=>(by cases c)⟩
  ·go_region_held3 (λW=>(W.cell? ⟨f,0,none⟩=some (.slice (some ⟨d,0,none⟩) 4 Q)/\W.cell? ⟨h,10,none⟩=some (.int .i64 g))/\W.cell? ⟨d,g*4,none⟩=some (.int .i64 H)/\W.cell? ⟨d,g*4+1,none⟩=some (.int .i64 ad)/\W.cell? ⟨d,g*4+2,none⟩=some (.string aj)/\W.cell? ⟨d,g*4+3,none⟩=some (.slice ak am al)) (first|(go_keep;done)|exact ar.out _ Z.out|exact ar.out _ A.out) ((first
     | (go_at_call 156;refine bg.out.mono ?_;rintro e I ⟨rfl,ay⟩;have A:=ai (Z.out.trans (ay.mono Z.out.size));clear ay)))
   clear cj ck cl cm cn co;go_wp2_with fail;have a9:=ai (J.out.trans (A.out.mono J.out.size));have aH:Hid (∀W:World,Below I.heap.size I W->W.cell? ⟨f,4,none⟩=some (.slice u L x)/\W.cell? ⟨f,2,none⟩=some (.int .i64 next)/\W.cell? ⟨h,9,none⟩=some (.string nm)/\W.cell? ⟨p,0,none⟩=some (.int .i64 a.1.1)/\W.cell? ⟨p,1,none⟩=some (.int .i64 a.1.2.1)/\W.cell? ⟨p,2,none⟩=some (.string a.1.2.2)/\W.cell? ⟨p,3,none⟩=some (.slice a.2.1.1 a.2.2.length a.2.1.2)):=λW c=>by
    have bv:=A.out.trans (c.mono A.out.size);have S:=J.out.trans (bv.mono J.out.size);obtain⟨aQ,O⟩:=aW.out W bv;exact⟨(S.cell (p:=⟨f,4,none⟩) aP).trans M.out.1,(S.cell (p:=⟨f,2,none⟩) aP).trans M.out.2.2.1,ab aQ 9,ab O 0,ab O 1,ab O 2,ab O 3⟩
   have y:=aH.out I.drew (ah _ _).drew;have be:Hid (Below I.heap.size I I.drew):=(ah _ _).drew;obtain⟨b6,b9,bU,ca,cb,cc,cd⟩:=aH.out I (ah _ _);have b0:=ai (dD nm I.drew ct);refine wp_region_noPanic ?_;refine iR (λW=>W.cell? ⟨f,4,none⟩=some (.slice u L x)/\W.cell? ⟨f,2,none⟩=some (.int .i64 next)/\W.cell? ⟨h,9,none⟩=some (.string nm)/\W.cell? ⟨p,0,none⟩=some (.int .i64 a.1.1)/\W.cell? ⟨p,1,none⟩=some (.int .i64 a.1.2.1)/\W.cell? ⟨p,2,none⟩=some (.string a.1.2.2)/\W.cell? ⟨p,3,none⟩=some (.slice a.2.1.1 a.2.2.length a.2.1.2)) 18 (by kernel_rfl) ?_
   try simp only[eQ]
   refine aM (i:=0) (v:= ?_) rfl (by kernel_rfl) (by kernel_rfl) (by kernel_rfl) (by kernel_rfl) (λ_ _ _ c=>c) rfl ?_ y ?_;rotate_left
   ·intro w' l
    try dsimp only at l
    go_simp
    try with_reducible rfl
   try simp only[Act.put,bL]
   refine aM (i:=1) (v:= ?_) rfl (by kernel_rfl) (by kernel_rfl) (by kernel_rfl) (by kernel_rfl) (λ_ _ _ c=>c) rfl ?_ y ?_;rotate_left
   ·intro w' l
    try dsimp only at l
    go_simp
    try with_reducible rfl
   try simp only[Act.put]
   refine aM (i:=2) (v:= ?_) rfl (by kernel_rfl) (by kernel_rfl) (by kernel_rfl) (by kernel_rfl) (λ_ _ _ c=>c) rfl ?_ y ?_;rotate_left
   ·intro w' l
    try dsimp only at l
    go_simp
    try with_reducible rfl
   try simp only[Act.put]
   refine aM (i:=3) (v:= ?_) rfl (by kernel_rfl) (by kernel_rfl) (by kernel_rfl) (by kernel_rfl) (λ_ _ _ c=>c) rfl ?_ y ?_;rotate_left
   ·intro w' l
    try dsimp only at l
    go_simp
    try with_reducible rfl
   try simp only[Act.put]
   refine aM (i:=4) (v:= ?_) rfl (by kernel_rfl) (by kernel_rfl) (by kernel_rfl) (by kernel_rfl) (λ_ _ _ c=>c) rfl ?_ y ?_;rotate_left
   ·intro w' l
    try dsimp only at l
    go_simp
    try with_reducible rfl
   try simp only[Act.put]
   refine aM (i:=5) (v:= ?_) rfl (by kernel_rfl) (by kernel_rfl) (by kernel_rfl) (by kernel_rfl) (λ_ _ _ c=>c) rfl ?_ y ?_;rotate_left
   ·intro w' l
    try dsimp only at l
    go_simp
    try with_reducible rfl
   try simp only[Act.put]
   refine aM (i:=6) (v:= ?_) rfl (by kernel_rfl) (by kernel_rfl) (by kernel_rfl) (by kernel_rfl) (λ_ _ _ c=>c) rfl ?_ y ?_;rotate_left
   ·intro w' l
    try dsimp only at l
    go_simp
    try with_reducible rfl
   try simp only[Act.put]
   refine aM (i:=7) (v:= ?_) rfl (by kernel_rfl) (by kernel_rfl) (by kernel_rfl) (by kernel_rfl) (λ_ _ _ c=>c) rfl ?_ y ?_;rotate_left
   ·intro w' l
    try dsimp only at l
    go_simp
    try with_reducible rfl
   try simp only[Act.put]
   refine aM (i:=8) (v:= ?_) rfl (by kernel_rfl) (by kernel_rfl) (by kernel_rfl) (by kernel_rfl) (λ_ _ _ c=>c) rfl ?_ y ?_;rotate_left
   ·intro w' l
    try dsimp only at l
    go_simp
    try with_reducible rfl
   try simp only[Act.put]
   refine aM (i:=9) (v:= ?_) rfl (by kernel_rfl) (by kernel_rfl) (by kernel_rfl) (by kernel_rfl) (λ_ _ _ c=>c) rfl ?_ y ?_;rotate_left
   ·intro w' l
    try dsimp only at l
    go_simp
    try with_reducible rfl
   try simp only[Act.put]
   refine aM (i:=10) (v:= ?_) rfl (by kernel_rfl) (by kernel_rfl) (by kernel_rfl) (by kernel_rfl) (λ_ _ _ c=>c) rfl ?_ y ?_;rotate_left
   ·intro w' l
    try dsimp only at l
    go_simp
    try with_reducible rfl
   try simp only[Act.put]
   refine aM (i:=12) (v:= ?_) rfl (by kernel_rfl) (by kernel_rfl) (by kernel_rfl) (by kernel_rfl) (λ_ _ _ c=>c) rfl ?_ y ?_;rotate_left
   ·intro w' l
    try dsimp only at l
    go_simp
    try with_reducible rfl
   try simp only[Act.put]
   refine cN (i:=11) (by kernel_rfl) rfl rfl (λG s=>?_) (by decide)
   go_simp
   refine b0.out.mono ?_;rintro e r ⟨rfl,bx⟩;have F:=ai (be.out.trans (bx.mono be.out.size));have a2:=aH.out r F.out;refine s.out _ _ (λ_=>a2) (λ_=>?_);clear s G bx
   try simp only[Act.put,bL,da,cZ]
   have ba:=ai (a9.out.trans (F.out.mono a9.out.size));obtain⟨z,bF⟩:∃z:Obj,z=.cells #[.int .i64 next,.string nm,.int .i64 a.1.1,.int .i64 a.1.2.1,.string a.1.2.2,.slice a.2.1.1 a.2.2.length a.2.1.2] 150:=⟨_,rfl⟩;have aq:Hid (Below r.heap.size r (r.alloc z)):=(ah _ _).alloc (ag _) z;have aZ:=ai (aH.out _ (F.out.trans (aq.out.mono F.out.size)));have aS:=ai (ba.out.trans (aq.out.mono ba.out.size));have bi:Hid ((r.alloc z).ownsRow base 150 6 (.slice u L x) L xs):=aT bk.out (aC aS.out λ_=>False) λ_ _ c=>c;have bh:Hid ((r.alloc z).heap[r.heap.size]?=some z):=ax r z;have aa:Hid ((r.alloc z).heap.size=r.heap.size+1):=(show _=_ by simp);have aw:Hid (q.heap.size=D.heap.size+1/\w.heap.size<=D.heap.size/\q.heap.size<=r.heap.size):=⟨E.out.2.2,ap.out.size,au A.out.size F.out.size⟩;have bs:Hid (In (r.alloc z).heap.size (r.alloc z) (N+1) a):=(br.out.below (E.out.1.trans ((A.out.trans ((F.out.trans (aq.out.mono F.out.size)).mono A.out.size)).mono E.out.1.size))).mono (by have:=aa.out;have:=aw.out;omega);have aX:Hid ((r.alloc z).heap[h]?=some (.cells #[.int .i64 k,.int .i64 T,.int .i64 U,.string V,.slice xa X xc,.int .i64 y0,.int .i64 y1,.string y2,.slice ya yl yc,.string nm,.int .i64 g] 83)):=(aW.out _ (A.out.trans ((F.out.trans (aq.out.mono F.out.size)).mono A.out.size))).1;rw[bF]at aq aZ aS bi bh aa bs aX;clear bF z;refine aM (i:=13) (v:= ?_) rfl (by kernel_rfl) (by kernel_rfl) (by kernel_rfl) (by kernel_rfl) (λ_ _ _ c=>c) rfl ?_ a2 ?_;rotate_left
   ·intro w' l
    try dsimp only at l
    go_simp
    try with_reducible rfl
   try simp only[Act.put]
   refine cN (i:=14) (by kernel_rfl) rfl rfl (λG s=>?_) (by decide)
   go_simp
   refine s.out _ _ (λ_=>aZ.out) (λcp=>?_);clear s G
   try simp only[Act.put,bL,da,cZ]
   refine cN (i:=15) (by kernel_rfl) rfl rfl (λG s=>?_) (by decide);refine wp_append_lies _ _ _ 97 rfl base 150 aB _ 6 80 Tryz.underlying97 aG.out.1 aG.out.2.1 aG.out.2.2.1 aG.out.2.2.2 rfl (by decide) (.slice u L x) L xs rfl bi.out ⟨r.heap.size,0,none⟩ 1 1 (KI next nm a) rfl rfl (World.news_of_block (cs:= #[.int .i64 next,.string nm,.int .i64 a.1.1,.int .i64 a.1.2.1,.string a.1.2.2,.slice a.2.1.1 a.2.2.length a.2.1.2]) (t:=150) (fr:=(0,0)) bh.out) (by simp[KI,Value.oneCell']) (by decide) (by unfold maxLen;omega) (by omega) (by have:=aa.out;have:=aw.out;omega) _ rfl ?_;intro R a0 m bI an a3 cr;have aI:Hid (bf (λC=>(Value.slice u L x).ownBlock=some C) w m):=bf.trans (aC aS.out _) (dS an) λ_ _ e=>e;have bV:Hid ((Value.slice u L x).ownBlock=some R\/w.heap.size<=R):=by
    rcases a3 with e|e
    ·exact ae e
    ·exact af (by have:=aa.out;have:=aw.out;omega)
   have bX:=ai bI;have aJ:Hid (∀b,(Value.slice u L x).ownBlock=some b->b<w.heap.size):=λb S=>(bk.out.lt b S).2;have bq:Hid (In m.heap.size m (N+1) a/\ch (λC=>w.heap.size<=C/\C≠R) (N+1) a):=by
    have bG:ch (λC=>w.heap.size<=C/\C<D.heap.size) (N+1) a:=(In.offB b4.out br.out).mono λC aA=>⟨au b3.out aA.1,aA.2⟩;refine⟨bs.out.kee (dS an) (bG.mono λC aA e=>?_),bG.mono λC aA=>⟨aA.1,λe=>?_⟩⟩
    ·have:=aJ.out C e;omega
    ·rcases a3 with bt|bt
     ·have:=aJ.out R bt;omega
     ·have:=aa.out;have:=aw.out;omega
   have Y:Hid (m.heap[f]?=w.heap[f]? /\m.heap[d]?=w.heap[d]? /\m.heap[h]?=some (.cells #[.int .i64 k,.int .i64 T,.int .i64 U,.string V,.slice xa X xc,.int .i64 y0,.int .i64 y1,.string y2,.slice ya yl yc,.string nm,.int .i64 g] 83)):=by
    refine⟨aI.out.block f aP aY.out.1,aI.out.block d a4 aY.out.2,(an.block h (aE.1 aX.out).1 λe=>?_).trans aX.out⟩;have:=aJ.out h e.symm;have:=av.out.2;omega
   have bc:Hid (m.cell? ⟨f,4,none⟩=some (.slice u L x)/\m.cell? ⟨f,2,none⟩=some (.int .i64 next)/\m.cell? ⟨h,9,none⟩=some (.string nm)/\m.cell? ⟨p,0,none⟩=some (.int .i64 a.1.1)/\m.cell? ⟨p,1,none⟩=some (.int .i64 a.1.2.1)/\m.cell? ⟨p,2,none⟩=some (.string a.1.2.2)/\m.cell? ⟨p,3,none⟩=some (.slice a.2.1.1 a.2.2.length a.2.1.2)):=by
    have cU:=aa.out;have cV:=aw.out;have cW:=bZ.out;have cu:some p≠(Value.slice u L x).ownBlock:=λe=>by
     have:=aJ.out p e.symm;omega
    have k:=λj=>an.cell_far ⟨p,j,none⟩ (by show p<_;omega) cu;obtain⟨cA,cB,cQ,cC,cD,cE,cF⟩:=aZ.out;have bB:=λj=>an.cell_far ⟨f,j,none⟩ (by show f<_;omega) λe=>aY.out.1 e.symm;exact⟨(bB 4).trans cA,(bB 2).trans cB,ab Y.out.2.2 9,(k 0).trans cC,(k 1).trans cD,(k 2).trans cE,(k 3).trans cF⟩
   clear bI an a3 cr;refine s.out _ _ (λ_=>bc.out) (λa1=>?_);clear s G
   try simp only[Act.put,bL]
   refine cN (i:=16) (by kernel_rfl) rfl rfl (λG s=>?_) (by decide)
   go_simp
   refine s.out _ _ (λ_=>a1) (λ_=>?_);clear s G
   try simp only[Act.put,bL,da,cZ]
   refine aM (i:=17) (v:= ?_) rfl (by kernel_rfl) (by kernel_rfl) (by kernel_rfl) (by kernel_rfl) (λ_ _ _ c=>c) rfl ?_ a1 ?_;rotate_left
   ·intro w' l
    try dsimp only at l
    go_simp
    try with_reducible rfl
   try simp only[Act.put,bL]
   have b8:m.frozen? ⟨f,4,none⟩=false:=by
    have B:=M.out.2.2.2.1 4;unfold World.frozen? at B ⊢;rw[Y.out.1];exact B
   have b7:=bc.out.1;refine iQ (by kernel_rfl) rfl rfl (by kernel_rfl) (λG s=>?_)
   go_simp
   refine s.out _ _ (NoPanic.normal ?_);clear s G
   try simp only[Act.put,bL,da,cZ]
   have bJ:h≠f:=by have:=av.out.2;omega
   have cv:h≠d:=by have:=av.out.2;omega
   have cI:f≠h:=λe=>bJ e.symm;have cJ:d≠h:=λe=>cv e.symm;have bD:d≠f:=λe=>bC e.symm;have bd:Hid (∀j,m.cell? ⟨d,j,none⟩=w.cell? ⟨d,j,none⟩/\m.frozen? ⟨d,j,none⟩=false):=λj=>by
    have B:=M.out.2.2.2.2 j;unfold World.frozen? at B ⊢;unfold World.cell?;rw[Y.out.2.1];exact⟨rfl,B⟩
   have aU:Hid (∀j,m.cell? ⟨f,j,none⟩=w.cell? ⟨f,j,none⟩/\m.frozen? ⟨f,j,none⟩=false):=λj=>by
    have B:=M.out.2.2.2.1 j;unfold World.frozen? at B ⊢;unfold World.cell?;rw[Y.out.1];exact⟨rfl,B⟩
   have bo:Hid (∃n,n=m.setCell ⟨f,4,none⟩ (.slice (some ⟨R,0,none⟩) (L+1) a0)/\(n.cell? ⟨f,0,none⟩=some (.slice (some ⟨d,0,none⟩) 4 Q)/\n.cell? ⟨h,10,none⟩=some (.int .i64 g)/\n.cell? ⟨f,2,none⟩=some (.int .i64 next))/\(n.cell? ⟨d,g*4,none⟩=some (.int .i64 H)/\n.cell? ⟨d,g*4+1,none⟩=some (.int .i64 ad)/\n.cell? ⟨d,g*4+2,none⟩=some (.string aj)/\n.cell? ⟨d,g*4+3,none⟩=some (.slice ak am al))/\(∀j,n.frozen? ⟨d,j,none⟩=false)/\n.frozen? ⟨f,2,none⟩=false):=by
    have a6:=bH m f 4 (.slice (some ⟨R,0,none⟩) (L+1) a0);have bz:d<m.heap.size:=aL a4 aI.out.size;have cq:=a6.block d bz bD;have aK:=λj=>((a6.cell j bz bD).trans (bd.out j).1);refine⟨_,rfl,⟨(dm 0 (by decide)).trans ((aU.out 0).1.trans M.out.2.1),(a6.cell 10 (aE.1 Y.out.2.2).1 bJ).trans (ab Y.out.2.2 10),(dm 2 (by decide)).trans ((aU.out 2).1.trans M.out.2.2.1)⟩,⟨(aK _).trans K.out.1,(aK _).trans K.out.2.1,(aK _).trans K.out.2.2.1,(aK _).trans K.out.2.2.2⟩,λj=>?_,?_⟩
    ·have B:=(bd.out j).2;unfold World.frozen? at B ⊢;rw[cq];exact B
    ·rw[fR];exact(aU.out 2).2
   go_wp2_with fail;obtain⟨n,a7,⟨bS,bT,a8⟩,⟨cw,cx,cy,cz⟩,az,bu⟩:=bo.out;rw[<-a7];have b1:=ai a7;have ce:=az (g*4);have cf:=az (g*4+1);have cg:=az (g*4+2);have ci:=az (g*4+3);clear a7 bo az y a2 cp a1 b6 b9 bU ca cb cc cd b8 b7;have bW:Hid (n.drew.cell? ⟨f,0,none⟩=some (.slice (some ⟨d,0,none⟩) 4 Q)/\n.drew.cell? ⟨h,10,none⟩=some (.int .i64 g)/\n.drew.cell? ⟨f,2,none⟩=some (.int .i64 next)):=⟨bS,bT,a8⟩;go_region_held3 (λW=>W.cell? ⟨f,0,none⟩=some (.slice (some ⟨d,0,none⟩) 4 Q)/\W.cell? ⟨h,10,none⟩=some (.int .i64 g)/\W.cell? ⟨f,2,none⟩=some (.int .i64 next)) (first|exact bW.out|(go_keep;done)) (fail);have bp:Hid (∃aF,aF=(cP n d (g*4) (.int .i64 3) (.int .i64 next) (.string ⟨#[]⟩) (.slice none 0 0)).drew/\aF.cell? ⟨f,2,none⟩=some (.int .i64 next)/\aF.frozen? ⟨f,2,none⟩=false):=by
    have bA:(cP n d (g*4) (.int .i64 3) (.int .i64 next) (.string ⟨#[]⟩) (.slice none 0 0)).drew.heap[f]?=n.heap[f]? :=aO (w:=n) (o:=g*4) bC (.int .i64 3) (.int .i64 next) (.string ⟨#[]⟩) (.slice none 0 0);refine⟨_,rfl,?_,?_⟩
    ·have c:=a8;unfold World.cell? at c ⊢;rw[bA];exact c
    ·have c:=bu;unfold World.frozen? at c ⊢;rw[bA];exact c
   obtain⟨aF,aR,cO,bU⟩:=bp.out;have b2:=ai aR;unfold cP at aR;rw[<-aR];clear aR bp bS bT a8 cw cx cy cz ce cf cg ci bu;go_wp2_with fail
   go_ret
   exact⟨rfl,λc=>(by cases c),λ_=>⟨a,R,a0,m,n,aF,b5.out,bq.out.1,bq.out.2,bX.out,aI.out,bV.out,b1.out,b2.out,rfl⟩⟩
end Go.Proofs.YtnidfceinoiboaaGreat
