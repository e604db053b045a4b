/- What is proved here: proc's doing.send: a message is put behind those that are sent. No condition but that all lies in memory. -/
import Derived.Test.YtckamaoibonjcaaGreatG12
namespace Go.Proofs.YtckamaoibonjcaaGreat
open Go.RowKit
set_option maxRecDepth 100000
set_option maxHeartbeats 4000000
theorem IB:(Tryz.prog.info? 162).map (λi=>(i.zero,i.size,i.bytes))=some (some (.agg #[ab 0,ab 0,ab 0,af ⟨#[]⟩,ae none 0 0]),5,64):=by kernel_rfl
def L9{N:Nat}(b:Int)(a:Tm (N+1)):List Value:=[ab b,ab a.1.1,ab a.1.2.1,af a.1.2.2,ae a.2.1.1 a.2.2.length a.2.1.2]
def NE(N base k:Nat)(h:Option Addr)(L i:Nat)(xs:List Value)(t:Bool)(j:Int->Prop)(o:Option (Tm (N+1)))(w:World)(e:Ending)(w':World):Prop:=
 e=.returned (.bool (t && o.isSome))/\((t && o.isSome)=false->aj w w')/\
  ((t && o.isSome)=true->∃(g:Int)(f:Tm (N+1))(a c:Nat)(b:World),j g/\ax (N+1) f (N+1) (o.getD (vq N))=true/\In b.heap.size b (N+1) f/\bZ (λd=>w.heap.size<=d/\d≠a) (N+1) f/\b.ownsRow base 162 5 (ae (some ⟨a,0,none⟩) (L+1) c) (L+1) (xs++L9 g f)/\bq (λd=>(Value.slice h L i).ownBlock=some d) w b/\((Value.slice h L i).ownBlock=some a\/w.heap.size<=a)/\w'=b.setCell ⟨k,3,none⟩ (ae (some ⟨a,0,none⟩) (L+1) c))
theorem Gr(N:Nat)(k ad al:Int)(an:ByteArray)(xa:Option Addr)(aq xc:Nat)(y0 y1:Int)(y2:ByteArray)(ya:Option Addr)(yl yc:Nat)(nm:ByteArray)(a2:Int)(base f:Nat)(h:Option Addr)(L j:Nat)(xs:List Value)(w:World)(t:Bool)(ar:Int->Prop)(o:Option (Tm (N+1)))(bB:L<=10000)(aO:f<w.heap.size)(bD:base<=w.heap.size)(au:Hid (w.cell? ⟨f,3,none⟩=some (ae h L j)/\w.frozen? ⟨f,3,none⟩=false))(az:Hid (w.ownsRow base 162 5 (ae h L j) L xs))(a7:Hid ((Value.slice h L j).ownBlock≠some f))(ax:Hid (∀W,aj w W->am 174 #[aF f,.agg #[ab ad,ab al,af an,ae xa aq xc]] W λe w'=>∃y,e=.returned (.tuple #[ab y,.bool t])/\Hid (aj W w'/\ar y)))(aA:Hid (∀W,aj w W->am 103 #[aF f,.agg #[ab y0,ab y1,af y2,ae ya yl yc]] W (vP N o W))):am 161 #[aF f,.agg #[ab k,ab ad,ab al,af an,ae xa aq xc,ab y0,ab y1,af y2,ae ya yl yc,af nm,ab a2]] w (NE N base f h L j xs t ar o w):=by
 obtain⟨I,aQ,aX,aY,aZ⟩:=bS IB;have O:Hid (Tryz.prog.info? 162=some I/\I.zero=some (.agg #[ab 0,ab 0,ab 0,af ⟨#[]⟩,ae none 0 0])/\I.size=5/\I.bytes=64):=⟨aQ,aX,aY,aZ⟩;clear aQ aX aY aZ;have aC:Hid (∃R A,(R=w.alloc (.cells #[ab k,ab ad,ab al,af an,ae xa aq xc,ab y0,ab y1,af y2,ae ya yl yc,af nm,ab a2] 224)/\A=w.heap.size)/\aj w R/\∀W,aj R W->W.cell? ⟨A,5,none⟩=some (ab y0)/\W.cell? ⟨A,6,none⟩=some (ab y1)/\W.cell? ⟨A,7,none⟩=some (af y2)/\W.cell? ⟨A,8,none⟩=some (ae ya yl yc)):=by
  refine⟨_,_,⟨rfl,rfl⟩,(ap _ _).alloc (ak _) _,λW be=>?_⟩;have c:=(be.block w.heap.size (by simp)).trans (aB w _);exact⟨ag c 5,ag c 6,ag c 7,ag c 8⟩
 go_enter Tryz.func161,Tryz.ntmps161;go_wp2_with fail;obtain⟨R,A,⟨a0,aV⟩,aM,aN⟩:=aC.out;rw[<-a0,<-aV];have S:=ao aM;have a4:=ao aN;clear a0 aV aM aN aC;refine(ax.out _ S.out).mono ?_;rintro e bE ⟨y,rfl,J⟩;have C:=ao (S.out.trans (J.out.1.mono S.out.size));have a5:=ao J.out.2;obtain⟨bw,bx,bz,bA⟩:=a4.out _ J.out.1;clear J ax;cases t
 ·go_wp2_with fail
  go_ret
  exact⟨rfl,λ_=>C.out,λc=>(by cases c)⟩
 ·go_wp2_with fail;refine(aA.out _ C.out).mono ?_;rintro e u ⟨a,rfl,B⟩;have D:=ao (C.out.trans (B.out.1.mono C.out.size));cases o with
  | none=>
   simp only[mx];go_wp2_with fail
   go_ret
   exact⟨rfl,λ_=>D.out.alloc D.out.size _,λc=>(by cases c)⟩
  | some bF=>
   simp only[mA];have aH:=ao B.out.2.1;have bb:=ao B.out.2.2.1;have bc:=ao B.out.2.2.2;have ba:=ao C.out.size;have aE:Hid (∃d p,(d=u.alloc (.cells #[ab a.1.1,ab a.1.2.1,af a.1.2.2,ae a.2.1.1 a.2.2.length a.2.1.2] 30)/\p=u.heap.size)/\aj u d/\d.heap[p]?=some (.cells #[ab a.1.1,ab a.1.2.1,af a.1.2.2,ae a.2.1.1 a.2.2.length a.2.1.2] 30)/\d.heap.size=u.heap.size+1):=⟨_,_,⟨rfl,rfl⟩,(ap _ _).alloc (ak _) _,aB _ _,by simp⟩;clear B aA;go_wp2_with fail;obtain⟨d,p,⟨a1,aa⟩,r⟩:=aE.out;rw[<-a1,<-aa];have a9:Hid (p=u.heap.size):=aa;replace r:=ao r;clear a1 aa aE;have M:=ao (D.out.trans (r.out.1.mono D.out.size));obtain⟨l,aR⟩:∃l:Obj,l=.cells #[ab y,ab a.1.1,ab a.1.2.1,af a.1.2.2,ae a.2.1.1 a.2.2.length a.2.1.2] 162:=⟨_,rfl⟩;have U:Hid (∀W:World,aj d W->W.cell? ⟨f,3,none⟩=some (ae h L j)/\W.cell? ⟨p,0,none⟩=some (ab a.1.1)/\W.cell? ⟨p,1,none⟩=some (ab a.1.2.1)/\W.cell? ⟨p,2,none⟩=some (af a.1.2.2)/\W.cell? ⟨p,3,none⟩=some (ae a.2.1.1 a.2.2.length a.2.1.2)):=λW c=>by
    have Q:=(c.block p (aD.1 r.out.2.1).1).trans r.out.2.1;have Z:=M.out.trans (c.mono M.out.size);exact⟨(Z.cell (p:=⟨f,3,none⟩) aO).trans au.out.1,ag Q 0,ag Q 1,ag Q 2,ag Q 3⟩
   have E:Hid (aj d (d.alloc l).drew):=((ap _ _).alloc (ak _) l).drew;have s:=U.out d.drew (ap _ _).drew;have X:=ao (U.out _ E.out);have K:=ao (M.out.trans (E.out.mono M.out.size));have aw:Hid ((d.alloc l).drew.ownsRow base 162 5 (ae h L j) L xs):=bf az.out (aI K.out λ_=>False) λ_ _ c=>c;have av:Hid ((d.alloc l).drew.heap[d.heap.size]?=some l):=aB d l;have F:Hid ((d.alloc l).drew.heap.size=d.heap.size+1):=(show _=_ by simp[World.drew]);have P:Hid (d.heap.size=u.heap.size+1/\w.heap.size<=u.heap.size):=⟨r.out.2.2,D.out.size⟩;have aJ:Hid (In (d.alloc l).drew.heap.size (d.alloc l).drew (N+1) a):=(aH.out.below (r.out.1.trans (E.out.mono r.out.1.size))).mono (by have:=r.out.1.size;have:=E.out.size;omega);rw[aR]at E X K aw av F aJ;clear aR l;obtain⟨bo,bs,bt,bu,bv⟩:=U.out d (ap _ _);refine wp_region_noPanic ?_;refine ji (λW=>W.cell? ⟨f,3,none⟩=some (ae h L j)/\W.cell? ⟨p,0,none⟩=some (ab a.1.1)/\W.cell? ⟨p,1,none⟩=some (ab a.1.2.1)/\W.cell? ⟨p,2,none⟩=some (af a.1.2.2)/\W.cell? ⟨p,3,none⟩=some (ae a.2.1.1 a.2.2.length a.2.1.2)) 12 (by kernel_rfl) ?_
   try simp only[eW]
   refine aS (i:=0) (v:= ?_) rfl (by kernel_rfl) (by kernel_rfl) (by kernel_rfl) (by kernel_rfl) (λ_ _ _ c=>c) rfl ?_ s ?_;rotate_left
   ·intro w' g
    try dsimp only at g
    go_simp
    try with_reducible rfl
   try simp only[Act.put,bT]
   refine aS (i:=1) (v:= ?_) rfl (by kernel_rfl) (by kernel_rfl) (by kernel_rfl) (by kernel_rfl) (λ_ _ _ c=>c) rfl ?_ s ?_;rotate_left
   ·intro w' g
    try dsimp only at g
    go_simp
    try with_reducible rfl
   try simp only[Act.put]
   refine aS (i:=2) (v:= ?_) rfl (by kernel_rfl) (by kernel_rfl) (by kernel_rfl) (by kernel_rfl) (λ_ _ _ c=>c) rfl ?_ s ?_;rotate_left
   ·intro w' g
    try dsimp only at g
    go_simp
    try with_reducible rfl
   try simp only[Act.put]
   refine aS (i:=3) (v:= ?_) rfl (by kernel_rfl) (by kernel_rfl) (by kernel_rfl) (by kernel_rfl) (λ_ _ _ c=>c) rfl ?_ s ?_;rotate_left
   ·intro w' g
    try dsimp only at g
    go_simp
    try with_reducible rfl
   try simp only[Act.put]
   refine aS (i:=4) (v:= ?_) rfl (by kernel_rfl) (by kernel_rfl) (by kernel_rfl) (by kernel_rfl) (λ_ _ _ c=>c) rfl ?_ s ?_;rotate_left
   ·intro w' g
    try dsimp only at g
    go_simp
    try with_reducible rfl
   try simp only[Act.put]
   refine aS (i:=5) (v:= ?_) rfl (by kernel_rfl) (by kernel_rfl) (by kernel_rfl) (by kernel_rfl) (λ_ _ _ c=>c) rfl ?_ s ?_;rotate_left
   ·intro w' g
    try dsimp only at g
    go_simp
    try with_reducible rfl
   try simp only[Act.put]
   refine aS (i:=6) (v:= ?_) rfl (by kernel_rfl) (by kernel_rfl) (by kernel_rfl) (by kernel_rfl) (λ_ _ _ c=>c) rfl ?_ s ?_;rotate_left
   ·intro w' g
    try dsimp only at g
    go_simp
    try with_reducible rfl
   try simp only[Act.put]
   refine aS (i:=7) (v:= ?_) rfl (by kernel_rfl) (by kernel_rfl) (by kernel_rfl) (by kernel_rfl) (λ_ _ _ c=>c) rfl ?_ s ?_;rotate_left
   ·intro w' g
    try dsimp only at g
    go_simp
    try with_reducible rfl
   try simp only[Act.put]
   refine cV (i:=8) (by kernel_rfl) rfl rfl (λx m=>?_) (by decide)
   go_simp
   refine m.out _ _ (λ_=>X.out) (λbC=>?_);clear m x
   try simp only[Act.put,bT,dg,df]
   refine cV (i:=9) (by kernel_rfl) rfl rfl (λx m=>?_) (by decide);refine wp_append_lies _ _ _ 109 rfl base 162 I _ 5 64 Tryz.underlying109 O.out.1 O.out.2.1 O.out.2.2.1 O.out.2.2.2 rfl (by decide) (ae h L j) L xs rfl aw.out ⟨d.heap.size,0,none⟩ 1 1 (L9 y a) rfl rfl (World.news_of_block (cs:= #[ab y,ab a.1.1,ab a.1.2.1,af a.1.2.2,ae a.2.1.1 a.2.2.length a.2.1.2]) (t:=162) (fr:=(0,0)) av.out) (by simp[L9,Value.oneCell']) (by decide) (by unfold maxLen;omega) (by omega) (by have:=F.out;have:=P.out;omega) _ rfl ?_;intro G bd q aU z Y bg;have a6:Hid (bq (λn=>(Value.slice h L j).ownBlock=some n) w q):=bq.trans (aI K.out _) (dU z) λ_ _ e=>e;have a3:Hid ((Value.slice h L j).ownBlock=some G\/w.heap.size<=G):=by
    rcases Y with e|e
    ·exact ah e
    ·exact ai (by have:=F.out;have:=P.out;omega)
   have a8:=ao aU;have V:Hid (∀b,(Value.slice h L j).ownBlock=some b->b<w.heap.size):=λb Z=>(az.out.lt b Z).2;have aG:Hid (In q.heap.size q (N+1) a/\bZ (λn=>w.heap.size<=n/\n≠G) (N+1) a):=by
    have aT:bZ (λn=>w.heap.size<=n/\n<u.heap.size) (N+1) a:=(In.offB bb.out aH.out).mono λn H=>⟨ay ba.out H.1,H.2⟩;refine⟨aJ.out.kee (dU z) (aT.mono λn H e=>?_),aT.mono λn H=>⟨H.1,λe=>?_⟩⟩
    ·have:=V.out n e;omega
    ·rcases Y with aK|aK
     ·have:=V.out G aK;omega
     ·have:=F.out;have:=P.out;omega
   have T:Hid ((q.cell? ⟨f,3,none⟩=some (ae h L j)/\q.cell? ⟨p,0,none⟩=some (ab a.1.1)/\q.cell? ⟨p,1,none⟩=some (ab a.1.2.1)/\q.cell? ⟨p,2,none⟩=some (af a.1.2.2)/\q.cell? ⟨p,3,none⟩=some (ae a.2.1.1 a.2.2.length a.2.1.2))/\q.frozen? ⟨f,3,none⟩=false):=by
    have bG:=F.out;have bH:=P.out;have bI:=a9.out;have bh:some p≠(Value.slice h L j).ownBlock:=λe=>by
     have:=V.out p e.symm;omega
    have aW:some f≠(Value.slice h L j).ownBlock:=λe=>a7.out e.symm;have k:=λbi=>z.cell_far ⟨p,bi,none⟩ (by show p<_;omega) bh;obtain⟨bj,bk,bl,bm,bn⟩:=X.out;refine⟨⟨(z.cell_far ⟨f,3,none⟩ (by show f<_;omega) aW).trans bj,(k 0).trans bk,(k 1).trans bl,(k 2).trans bm,(k 3).trans bn⟩,?_⟩;rw[z.frozen_far ⟨f,3,none⟩ (by show f<_;omega) aW];have aP:=au.out.2;unfold World.frozen? at aP ⊢;rw[K.out.block f aO];exact aP
   clear aU z Y bg;refine m.out _ _ (λ_=>T.out.1) (λaL=>?_);clear m x
   try simp only[Act.put,bT]
   refine cV (i:=10) (by kernel_rfl) rfl rfl (λx m=>?_) (by decide)
   go_simp
   refine m.out _ _ (λ_=>aL) (λ_=>?_);clear m x
   try simp only[Act.put,bT,dg,df]
   refine aS (i:=11) (v:= ?_) rfl (by kernel_rfl) (by kernel_rfl) (by kernel_rfl) (by kernel_rfl) (λ_ _ _ c=>c) rfl ?_ aL ?_;rotate_left
   ·intro w' g
    try dsimp only at g
    go_simp
    try with_reducible rfl
   try simp only[Act.put,bT]
   have br:=T.out.2;have bp:=T.out.1.1;refine jh (by kernel_rfl) rfl rfl (by kernel_rfl) (λx m=>?_)
   go_simp
   refine m.out _ _ (NoPanic.normal ?_);clear m x
   try simp only[Act.put,bT,dg,df]
   go_wp2_with fail
   go_ret
   exact⟨rfl,λc=>(by cases c),λ_=>⟨y,a,G,bd,q,a5.out,bc.out,aG.out.1,aG.out.2,a8.out,a6.out,a3.out,rfl⟩⟩
end Go.Proofs.YtckamaoibonjcaaGreat
