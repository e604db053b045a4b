/- What is proved here: proc's doing.send: a message is put behind those that are sent. No condition but that all lies in memory. -/
import Derived.Test.YtmmahddlcldmiaaGreatJ12
namespace Go.Proofs.YtmmahddlcldmiaaGreat
open Go.RowKit Go.Proofs.Tryz
set_option maxRecDepth 100000
set_option maxHeartbeats 4000000
theorem JN:(Tryz.prog.info? 177).map (λi=>(i.zero,i.size,i.bytes))=some (some (.agg #[ab 0,ab 0,ab 0,af ⟨#[]⟩,ae none 0 0]),5,64):=by kernel_rfl
def Nt{N:Nat}(u:Int)(a:Tm (N+1)):List Value:=[ab u,ab a.1.1,ab a.1.2.1,af a.1.2.2,ae a.2.1.1 a.2.2.length a.2.1.2]
def O0(N base k:Nat)(h:Option Addr)(L i:Nat)(xs:List Value)(t:Bool)(j:Int->Prop)(o:Option (Tm (N+1)))(w:World)(e:Ending)(w':World):Prop:=
 e=.returned (.bool (t && o.isSome))/\((t && o.isSome)=false->aj w w')/\
  ((t && o.isSome)=true->∃(g:Int)(f:Tm (N+1))(a c:Nat)(b:World),j g/\ax (N+1) f (N+1) (o.getD (wv N))=true/\In b.heap.size b (N+1) f/\ch (λd=>w.heap.size<=d/\d≠a) (N+1) f/\b.ownsRow base 177 5 (ae (some ⟨a,0,none⟩) (L+1) c) (L+1) (xs++Nt g f)/\bt (λd=>(Value.slice h L i).ownBlock=some d) w b/\((Value.slice h L i).ownBlock=some a\/w.heap.size<=a)/\w'=b.setCell ⟨k,3,none⟩ (ae (some ⟨a,0,none⟩) (L+1) c))
theorem Ht(N:Nat)(k ad al:Int)(an:ByteArray)(xa:Option Addr)(aq xc:Nat)(y0 y1:Int)(y2:ByteArray)(ya:Option Addr)(yl yc:Nat)(nm:ByteArray)(a2:Int)(base f:Nat)(h:Option Addr)(L j:Nat)(xs:List Value)(w:World)(t:Bool)(ar:Int->Prop)(o:Option (Tm (N+1)))(bB:L<=10000)(aO:f<w.heap.size)(bD:base<=w.heap.size)(au:Hid (w.cell? ⟨f,3,none⟩=some (ae h L j)/\w.frozen? ⟨f,3,none⟩=false))(ay:Hid (w.ownsRow base 177 5 (ae h L j) L xs))(a7:Hid ((Value.slice h L j).ownBlock≠some f))(ax:Hid (∀W,aj w W->ak 201 #[aC f,.agg #[ab ad,ab al,af an,ae xa aq xc]] W λe w'=>∃u,e=.returned (.tuple #[ab u,.bool t])/\Hid (aj W w'/\ar u)))(aB:Hid (∀W,aj w W->ak 117 #[aC f,.agg #[ab y0,ab y1,af y2,ae ya yl yc]] W (wY N o W))):ak 186 #[aC f,.agg #[ab k,ab ad,ab al,af an,ae xa aq xc,ab y0,ab y1,af y2,ae ya yl yc,af nm,ab a2]] w (O0 N base f h L j xs t ar o w):=by
 obtain⟨I,aQ,aX,aY,aZ⟩:=bR JN;have O:Hid (Tryz.prog.info? 177=some I/\I.zero=some (.agg #[ab 0,ab 0,ab 0,af ⟨#[]⟩,ae none 0 0])/\I.size=5/\I.bytes=64):=⟨aQ,aX,aY,aZ⟩;clear aQ aX aY aZ;have aD:Hid (∃R A,(R=w.alloc (.cells #[ab k,ab ad,ab al,af an,ae xa aq xc,ab y0,ab y1,af y2,ae ya yl yc,af nm,ab a2] 248)/\A=w.heap.size)/\aj w R/\∀W,aj R W->W.cell? ⟨A,5,none⟩=some (ab y0)/\W.cell? ⟨A,6,none⟩=some (ab y1)/\W.cell? ⟨A,7,none⟩=some (af y2)/\W.cell? ⟨A,8,none⟩=some (ae ya yl yc)):=by
  refine⟨_,_,⟨rfl,rfl⟩,(ao _ _).alloc (am _) _,λW be=>?_⟩;have c:=(be.block w.heap.size (by simp)).trans (aA w _);exact⟨ag c 5,ag c 6,ag c 7,ag c 8⟩
 go_enter func186,ntmps186;go_wp2_with fail;obtain⟨R,A,⟨a0,aV⟩,aM,aN⟩:=aD.out;rw[<-a0,<-aV];have S:=ap aM;have a4:=ap aN;clear a0 aV aM aN aD;refine(ax _ S).mono ?_;rintro e bE ⟨u,rfl,J⟩;have C:=ap (S.trans (J.1.mono S.size));have a5:=ap J.2;obtain⟨bw,bx,bz,bA⟩:=a4 _ J.1;clear J ax;cases t
 ·go_wp2_with fail
  go_ret
  exact⟨rfl,λ_=>C,λc=>(by cases c)⟩
 ·go_wp2_with fail;refine(aB _ C).mono ?_;rintro e x ⟨a,rfl,B⟩;have D:=ap (C.trans (B.1.mono C.size));cases o with
  | none=>
   simp only[mX];go_wp2_with fail
   go_ret
   exact⟨rfl,λ_=>D.alloc D.size _,λc=>(by cases c)⟩
  | some bF=>
   simp only[mY];have aH:=ap B.2.1;have bb:=ap B.2.2.1;have bc:=ap B.2.2.2;have ba:=ap C.size;have aE:Hid (∃d p,(d=x.alloc (.cells #[ab a.1.1,ab a.1.2.1,af a.1.2.2,ae a.2.1.1 a.2.2.length a.2.1.2] 31)/\p=x.heap.size)/\aj x d/\d.heap[p]?=some (.cells #[ab a.1.1,ab a.1.2.1,af a.1.2.2,ae a.2.1.1 a.2.2.length a.2.1.2] 31)/\d.heap.size=x.heap.size+1):=⟨_,_,⟨rfl,rfl⟩,(ao _ _).alloc (am _) _,aA _ _,by simp⟩;clear B aB;go_wp2_with fail;obtain⟨d,p,⟨a1,aa⟩,r⟩:=aE.out;rw[<-a1,<-aa];have a9:Hid (p=x.heap.size):=aa;replace r:=ap r;clear a1 aa aE;have M:=ap (D.trans (r.1.mono D.size));obtain⟨l,aR⟩:∃l:Obj,l=.cells #[ab u,ab a.1.1,ab a.1.2.1,af a.1.2.2,ae a.2.1.1 a.2.2.length a.2.1.2] 177:=⟨_,rfl⟩;have U:Hid (∀W:World,aj d W->W.cell? ⟨f,3,none⟩=some (ae h L j)/\W.cell? ⟨p,0,none⟩=some (ab a.1.1)/\W.cell? ⟨p,1,none⟩=some (ab a.1.2.1)/\W.cell? ⟨p,2,none⟩=some (af a.1.2.2)/\W.cell? ⟨p,3,none⟩=some (ae a.2.1.1 a.2.2.length a.2.1.2)):=λW c=>by
    have Q:=(c.block p (aF.1 r.2.1).1).trans r.2.1;have Z:=M.trans (c.mono M.size);exact⟨(Z.cell (p:=⟨f,3,none⟩) aO).trans au.1,ag Q 0,ag Q 1,ag Q 2,ag Q 3⟩
   have E:Hid (aj d (d.alloc l).drew):=((ao _ _).alloc (am _) l).drew;have s:=U d.drew (ao _ _).drew;have X:=ap (U _ E);have K:=ap (M.trans (E.mono M.size));have aw:Hid ((d.alloc l).drew.ownsRow base 177 5 (ae h L j) L xs):=bk ay (aK K λ_=>False) λ_ _ c=>c;have av:Hid ((d.alloc l).drew.heap[d.heap.size]?=some l):=aA d l;have F:Hid ((d.alloc l).drew.heap.size=d.heap.size+1):=(show _=_ by simp[World.drew]);have P:Hid (d.heap.size=x.heap.size+1/\w.heap.size<=x.heap.size):=⟨r.2.2,D.size⟩;have aI:Hid (In (d.alloc l).drew.heap.size (d.alloc l).drew (N+1) a):=(aH.below (r.1.trans (E.mono r.1.size))).mono (by have:=r.1.size;have:=E.size;omega);rw[aR]at E X K aw av F aI;clear aR l;obtain⟨bo,br,bs,bu,bv⟩:=U d (ao _ _);refine wp_region_noPanic ?_;refine jE (λW=>W.cell? ⟨f,3,none⟩=some (ae h L j)/\W.cell? ⟨p,0,none⟩=some (ab a.1.1)/\W.cell? ⟨p,1,none⟩=some (ab a.1.2.1)/\W.cell? ⟨p,2,none⟩=some (af a.1.2.2)/\W.cell? ⟨p,3,none⟩=some (ae a.2.1.1 a.2.2.length a.2.1.2)) 12 (by kernel_rfl) ?_
   try simp only[dO]
   refine aU (i:=0) (v:= ?_) rfl (by kernel_rfl) (by kernel_rfl) (by kernel_rfl) (by kernel_rfl) (λ_ _ _ c=>c) rfl ?_ s ?_;rotate_left
   ·intro w' g
    try dsimp only at g
    go_simp
    try with_reducible rfl
   try simp only[Act.put,bY]
   refine aU (i:=1) (v:= ?_) rfl (by kernel_rfl) (by kernel_rfl) (by kernel_rfl) (by kernel_rfl) (λ_ _ _ c=>c) rfl ?_ s ?_;rotate_left
   ·intro w' g
    try dsimp only at g
    go_simp
    try with_reducible rfl
   try simp only[Act.put]
   refine aU (i:=2) (v:= ?_) rfl (by kernel_rfl) (by kernel_rfl) (by kernel_rfl) (by kernel_rfl) (λ_ _ _ c=>c) rfl ?_ s ?_;rotate_left
   ·intro w' g
    try dsimp only at g
    go_simp
    try with_reducible rfl
   try simp only[Act.put]
   refine aU (i:=3) (v:= ?_) rfl (by kernel_rfl) (by kernel_rfl) (by kernel_rfl) (by kernel_rfl) (λ_ _ _ c=>c) rfl ?_ s ?_;rotate_left
   ·intro w' g
    try dsimp only at g
    go_simp
    try with_reducible rfl
   try simp only[Act.put]
   refine aU (i:=4) (v:= ?_) rfl (by kernel_rfl) (by kernel_rfl) (by kernel_rfl) (by kernel_rfl) (λ_ _ _ c=>c) rfl ?_ s ?_;rotate_left
   ·intro w' g
    try dsimp only at g
    go_simp
    try with_reducible rfl
   try simp only[Act.put]
   refine aU (i:=5) (v:= ?_) rfl (by kernel_rfl) (by kernel_rfl) (by kernel_rfl) (by kernel_rfl) (λ_ _ _ c=>c) rfl ?_ s ?_;rotate_left
   ·intro w' g
    try dsimp only at g
    go_simp
    try with_reducible rfl
   try simp only[Act.put]
   refine aU (i:=6) (v:= ?_) rfl (by kernel_rfl) (by kernel_rfl) (by kernel_rfl) (by kernel_rfl) (λ_ _ _ c=>c) rfl ?_ s ?_;rotate_left
   ·intro w' g
    try dsimp only at g
    go_simp
    try with_reducible rfl
   try simp only[Act.put]
   refine aU (i:=7) (v:= ?_) rfl (by kernel_rfl) (by kernel_rfl) (by kernel_rfl) (by kernel_rfl) (λ_ _ _ c=>c) rfl ?_ s ?_;rotate_left
   ·intro w' g
    try dsimp only at g
    go_simp
    try with_reducible rfl
   try simp only[Act.put]
   refine cZ (i:=8) (by kernel_rfl) rfl rfl (λy m=>?_) (by decide)
   go_simp
   refine m _ _ (λ_=>X) (λbC=>?_);clear m y
   try simp only[Act.put,bY,dn,dm]
   refine cZ (i:=9) (by kernel_rfl) rfl rfl (λy m=>?_) (by decide);refine wp_append_lies _ _ _ 114 rfl base 177 I _ 5 64 underlying114 O.1 O.2.1 O.2.2.1 O.2.2.2 rfl (by decide) (ae h L j) L xs rfl aw ⟨d.heap.size,0,none⟩ 1 1 (Nt u a) rfl rfl (World.news_of_block (cs:= #[ab u,ab a.1.1,ab a.1.2.1,af a.1.2.2,ae a.2.1.1 a.2.2.length a.2.1.2]) (t:=177) (fr:=(0,0)) av) (by simp[Nt,Value.oneCell']) (by decide) (by unfold maxLen;omega) (by omega) (by have:=F.out;have:=P.out;omega) _ rfl ?_;intro G bd q aT z Y bf;have a6:Hid (bt (λn=>(Value.slice h L j).ownBlock=some n) w q):=bt.trans (aK K _) (eu z) λ_ _ e=>e;have a3:Hid ((Value.slice h L j).ownBlock=some G\/w.heap.size<=G):=by
    rcases Y with e|e
    ·exact ah e
    ·exact ai (by have:=F.out;have:=P.out;omega)
   have a8:=ap aT;have V:Hid (∀b,(Value.slice h L j).ownBlock=some b->b<w.heap.size):=λb Z=>(ay.lt b Z).2;have aG:Hid (In q.heap.size q (N+1) a/\ch (λn=>w.heap.size<=n/\n≠G) (N+1) a):=by
    have aS:ch (λn=>w.heap.size<=n/\n<x.heap.size) (N+1) a:=(In.offB bb aH).mono λn H=>⟨az ba H.1,H.2⟩;refine⟨aI.kee (eu z) (aS.mono λn H e=>?_),aS.mono λn H=>⟨H.1,λe=>?_⟩⟩
    ·have:=V n e;omega
    ·rcases Y with aJ|aJ
     ·have:=V G aJ;omega
     ·have:=F.out;have:=P.out;omega
   have T:Hid ((q.cell? ⟨f,3,none⟩=some (ae h L j)/\q.cell? ⟨p,0,none⟩=some (ab a.1.1)/\q.cell? ⟨p,1,none⟩=some (ab a.1.2.1)/\q.cell? ⟨p,2,none⟩=some (af a.1.2.2)/\q.cell? ⟨p,3,none⟩=some (ae a.2.1.1 a.2.2.length a.2.1.2))/\q.frozen? ⟨f,3,none⟩=false):=by
    have bG:=F.out;have bH:=P.out;have bI:=a9.out;have bg:some p≠(Value.slice h L j).ownBlock:=λe=>by
     have:=V p e.symm;omega
    have aW:some f≠(Value.slice h L j).ownBlock:=λe=>a7 e.symm;have k:=λbh=>z.cell_far ⟨p,bh,none⟩ (by show p<_;omega) bg;obtain⟨bi,bj,bl,bm,bn⟩:=X;refine⟨⟨(z.cell_far ⟨f,3,none⟩ (by show f<_;omega) aW).trans bi,(k 0).trans bj,(k 1).trans bl,(k 2).trans bm,(k 3).trans bn⟩,?_⟩;rw[z.frozen_far ⟨f,3,none⟩ (by show f<_;omega) aW];have aP:=au.2;unfold World.frozen? at aP ⊢;rw[K.out.block f aO];exact aP
   clear aT z Y bf;refine m _ _ (λ_=>T.1) (λaL=>?_);clear m y
   try simp only[Act.put,bY]
   refine cZ (i:=10) (by kernel_rfl) rfl rfl (λy m=>?_) (by decide)
   go_simp
   refine m _ _ (λ_=>aL) (λ_=>?_);clear m y
   try simp only[Act.put,bY,dn,dm]
   refine aU (i:=11) (v:= ?_) rfl (by kernel_rfl) (by kernel_rfl) (by kernel_rfl) (by kernel_rfl) (λ_ _ _ c=>c) rfl ?_ aL ?_;rotate_left
   ·intro w' g
    try dsimp only at g
    go_simp
    try with_reducible rfl
   try simp only[Act.put,bY]
   have bq:=T.2;have bp:=T.1.1;refine jD (by kernel_rfl) rfl rfl (by kernel_rfl) (λy m=>?_)
   go_simp
   refine m _ _ (NoPanic.normal ?_);clear m y
   try simp only[Act.put,bY,dn,dm]
   go_wp2_with fail
   go_ret
   exact⟨rfl,λc=>(by cases c),λ_=>⟨u,a,G,bd,q,a5.out,bc.out,aG.out.1,aG.out.2,a8.out,a6.out,a3.out,rfl⟩⟩
end Go.Proofs.YtmmahddlcldmiaaGreat
