/- What is proved here: proc's doing.send: a message is put behind those that are sent. No condition but that all lies in memory. -/
import Derived.Test.YtckamaoibonjcaaGreatH12
namespace Go.Proofs.YtckamaoibonjcaaGreat
open Go.RowKit
set_option maxRecDepth 100000
set_option maxHeartbeats 4000000
theorem IE:(Tryz.prog.info? 162).map (λi=>(i.zero,i.size,i.bytes))=some (some (.agg #[ab 0,ab 0,ab 0,ae ⟨#[]⟩,.slice none 0 0]),5,64):=by kernel_rfl
def Ma{N:Nat}(b:Int)(a:Tm (N+1)):List Value:=[ab b,ab a.1.1,ab a.1.2.1,ae a.1.2.2,.slice a.2.1.1 a.2.2.length a.2.1.2]
def NH(N base k:Nat)(h:Option Addr)(L i:Nat)(xs:List Value)(t:Bool)(j:Int->Prop)(o:Option (Tm (N+1)))(w:World)(e:Ending)(w':World):Prop:=
 e=.returned (.bool (t && o.isSome))/\((t && o.isSome)=false->ai w w')/\
  ((t && o.isSome)=true->∃(g:Int)(f:Tm (N+1))(a c:Nat)(b:World),j g/\aw (N+1) f (N+1) (o.getD (vp N))=true/\In b.heap.size b (N+1) f/\bZ (λd=>w.heap.size<=d/\d≠a) (N+1) f/\b.ownsRow base 162 5 (.slice (some ⟨a,0,none⟩) (L+1) c) (L+1) (xs++Ma g f)/\bk (λd=>(Value.slice h L i).ownBlock=some d) w b/\((Value.slice h L i).ownBlock=some a\/w.heap.size<=a)/\w'=b.setCell ⟨k,3,none⟩ (.slice (some ⟨a,0,none⟩) (L+1) c))
theorem Gr(N:Nat)(k ad al:Int)(an:ByteArray)(xa:Option Addr)(ap xc:Nat)(y0 y1:Int)(y2:ByteArray)(ya:Option Addr)(yl yc:Nat)(nm:ByteArray)(a1:Int)(base f:Nat)(h:Option Addr)(L j:Nat)(xs:List Value)(w:World)(t:Bool)(aq:Int->Prop)(o:Option (Tm (N+1)))(bz:L<=10000)(aM:f<w.heap.size)(bB:base<=w.heap.size)(ar:Hid (w.cell? ⟨f,3,none⟩=some (.slice h L j)/\w.frozen? ⟨f,3,none⟩=false))(ay:Hid (w.ownsRow base 162 5 (.slice h L j) L xs))(a6:Hid ((Value.slice h L j).ownBlock≠some f))(aw:Hid (∀W,ai w W->ak 174 #[.pointer (some ⟨f,0,none⟩),.agg #[ab ad,ab al,ae an,.slice xa ap xc]] W λe w'=>∃y,e=.returned (.tuple #[ab y,.bool t])/\Hid (ai W w'/\aq y)))(aA:Hid (∀W,ai w W->ak 103 #[.pointer (some ⟨f,0,none⟩),.agg #[ab y0,ab y1,ae y2,.slice ya yl yc]] W (vN N o W))):ak 161 #[.pointer (some ⟨f,0,none⟩),.agg #[ab k,ab ad,ab al,ae an,.slice xa ap xc,ab y0,ab y1,ae y2,.slice ya yl yc,ae nm,ab a1]] w (NH N base f h L j xs t aq o w):=by
 obtain⟨I,aP,aV,aW,aX⟩:=bQ IE;have O:Hid (Tryz.prog.info? 162=some I/\I.zero=some (.agg #[ab 0,ab 0,ab 0,ae ⟨#[]⟩,.slice none 0 0])/\I.size=5/\I.bytes=64):=⟨aP,aV,aW,aX⟩;clear aP aV aW aX;have aB:Hid (∃R A,(R=w.alloc (.cells #[ab k,ab ad,ab al,ae an,.slice xa ap xc,ab y0,ab y1,ae y2,.slice ya yl yc,ae nm,ab a1] 224)/\A=w.heap.size)/\ai w R/\∀W,ai R W->W.cell? ⟨A,5,none⟩=some (ab y0)/\W.cell? ⟨A,6,none⟩=some (ab y1)/\W.cell? ⟨A,7,none⟩=some (ae y2)/\W.cell? ⟨A,8,none⟩=some (.slice ya yl yc)):=by
  refine⟨_,_,⟨rfl,rfl⟩,(am _ _).alloc (aj _) _,λW bd=>?_⟩;have c:=(bd.block w.heap.size (by simp)).trans (az w _);exact⟨af c 5,af c 6,af c 7,af c 8⟩
 go_enter Tryz.func161,Tryz.ntmps161;go_wp2_with fail;obtain⟨R,A,⟨aZ,aT⟩,aK,aL⟩:=aB.out;rw[<-aZ,<-aT];have S:=ao aK;have a3:=ao aL;clear aZ aT aK aL aB;refine(aw.out _ S.out).mono ?_;rintro e bC ⟨y,rfl,J⟩;have C:=ao (S.out.trans (J.out.1.mono S.out.size));have a4:=ao J.out.2;obtain⟨bu,bv,bw,bx⟩:=a3.out _ J.out.1;clear J aw;cases t
 ·go_wp2_with fail
  go_ret
  exact⟨rfl,λ_=>C.out,λc=>(by cases c)⟩
 ·go_wp2_with fail;refine(aA.out _ C.out).mono ?_;rintro e u ⟨a,rfl,B⟩;have D:=ao (C.out.trans (B.out.1.mono C.out.size));cases o with
  | none=>
   simp only[mm];go_wp2_with fail
   go_ret
   exact⟨rfl,λ_=>D.out.alloc D.out.size _,λc=>(by cases c)⟩
  | some bD=>
   simp only[mn];have aG:=ao B.out.2.1;have ba:=ao B.out.2.2.1;have bb:=ao B.out.2.2.2;have a9:=ao C.out.size;have aE:Hid (∃d p,(d=u.alloc (.cells #[ab a.1.1,ab a.1.2.1,ae a.1.2.2,.slice a.2.1.1 a.2.2.length a.2.1.2] 30)/\p=u.heap.size)/\ai u d/\d.heap[p]?=some (.cells #[ab a.1.1,ab a.1.2.1,ae a.1.2.2,.slice a.2.1.1 a.2.2.length a.2.1.2] 30)/\d.heap.size=u.heap.size+1):=⟨_,_,⟨rfl,rfl⟩,(am _ _).alloc (aj _) _,az _ _,by simp⟩;clear B aA;go_wp2_with fail;obtain⟨d,p,⟨a0,aa⟩,r⟩:=aE.out;rw[<-a0,<-aa];have a8:Hid (p=u.heap.size):=aa;replace r:=ao r;clear a0 aa aE;have M:=ao (D.out.trans (r.out.1.mono D.out.size));obtain⟨l,aQ⟩:∃l:Obj,l=.cells #[ab y,ab a.1.1,ab a.1.2.1,ae a.1.2.2,.slice a.2.1.1 a.2.2.length a.2.1.2] 162:=⟨_,rfl⟩;have U:Hid (∀W:World,ai d W->W.cell? ⟨f,3,none⟩=some (.slice h L j)/\W.cell? ⟨p,0,none⟩=some (ab a.1.1)/\W.cell? ⟨p,1,none⟩=some (ab a.1.2.1)/\W.cell? ⟨p,2,none⟩=some (ae a.1.2.2)/\W.cell? ⟨p,3,none⟩=some (.slice a.2.1.1 a.2.2.length a.2.1.2)):=λW c=>by
    have Q:=(c.block p (aC.1 r.out.2.1).1).trans r.out.2.1;have Z:=M.out.trans (c.mono M.out.size);exact⟨(Z.cell (p:=⟨f,3,none⟩) aM).trans ar.out.1,af Q 0,af Q 1,af Q 2,af Q 3⟩
   have E:Hid (ai d (d.alloc l).drew):=((am _ _).alloc (aj _) l).drew;have s:=U.out d.drew (am _ _).drew;have X:=ao (U.out _ E.out);have K:=ao (M.out.trans (E.out.mono M.out.size));have av:Hid ((d.alloc l).drew.ownsRow base 162 5 (.slice h L j) L xs):=aY ay.out (aD K.out λ_=>False) λ_ _ c=>c;have au:Hid ((d.alloc l).drew.heap[d.heap.size]?=some l):=az d l;have F:Hid ((d.alloc l).drew.heap.size=d.heap.size+1):=(show _=_ by simp[World.drew]);have P:Hid (d.heap.size=u.heap.size+1/\w.heap.size<=u.heap.size):=⟨r.out.2.2,D.out.size⟩;have aH:Hid (In (d.alloc l).drew.heap.size (d.alloc l).drew (N+1) a):=(aG.out.below (r.out.1.trans (E.out.mono r.out.1.size))).mono (by have:=r.out.1.size;have:=E.out.size;omega);rw[aQ]at E X K av au F aH;clear aQ l;obtain⟨bn,bq,br,bs,bt⟩:=U.out d (am _ _);refine wp_region_noPanic ?_;refine jd (λW=>W.cell? ⟨f,3,none⟩=some (.slice h L j)/\W.cell? ⟨p,0,none⟩=some (ab a.1.1)/\W.cell? ⟨p,1,none⟩=some (ab a.1.2.1)/\W.cell? ⟨p,2,none⟩=some (ae a.1.2.2)/\W.cell? ⟨p,3,none⟩=some (.slice a.2.1.1 a.2.2.length a.2.1.2)) 12 (by kernel_rfl) ?_
   try simp only[e9]
   refine aO (i:=0) (v:= ?_) rfl (by kernel_rfl) (by kernel_rfl) (by kernel_rfl) (by kernel_rfl) (λ_ _ _ c=>c) rfl ?_ s ?_;rotate_left
   ·intro w' g
    try dsimp only at g
    go_simp
    try with_reducible rfl
   try simp only[Act.put,bS]
   refine aO (i:=1) (v:= ?_) rfl (by kernel_rfl) (by kernel_rfl) (by kernel_rfl) (by kernel_rfl) (λ_ _ _ c=>c) rfl ?_ s ?_;rotate_left
   ·intro w' g
    try dsimp only at g
    go_simp
    try with_reducible rfl
   try simp only[Act.put]
   refine aO (i:=2) (v:= ?_) rfl (by kernel_rfl) (by kernel_rfl) (by kernel_rfl) (by kernel_rfl) (λ_ _ _ c=>c) rfl ?_ s ?_;rotate_left
   ·intro w' g
    try dsimp only at g
    go_simp
    try with_reducible rfl
   try simp only[Act.put]
   refine aO (i:=3) (v:= ?_) rfl (by kernel_rfl) (by kernel_rfl) (by kernel_rfl) (by kernel_rfl) (λ_ _ _ c=>c) rfl ?_ s ?_;rotate_left
   ·intro w' g
    try dsimp only at g
    go_simp
    try with_reducible rfl
   try simp only[Act.put]
   refine aO (i:=4) (v:= ?_) rfl (by kernel_rfl) (by kernel_rfl) (by kernel_rfl) (by kernel_rfl) (λ_ _ _ c=>c) rfl ?_ s ?_;rotate_left
   ·intro w' g
    try dsimp only at g
    go_simp
    try with_reducible rfl
   try simp only[Act.put]
   refine aO (i:=5) (v:= ?_) rfl (by kernel_rfl) (by kernel_rfl) (by kernel_rfl) (by kernel_rfl) (λ_ _ _ c=>c) rfl ?_ s ?_;rotate_left
   ·intro w' g
    try dsimp only at g
    go_simp
    try with_reducible rfl
   try simp only[Act.put]
   refine aO (i:=6) (v:= ?_) rfl (by kernel_rfl) (by kernel_rfl) (by kernel_rfl) (by kernel_rfl) (λ_ _ _ c=>c) rfl ?_ s ?_;rotate_left
   ·intro w' g
    try dsimp only at g
    go_simp
    try with_reducible rfl
   try simp only[Act.put]
   refine aO (i:=7) (v:= ?_) rfl (by kernel_rfl) (by kernel_rfl) (by kernel_rfl) (by kernel_rfl) (λ_ _ _ c=>c) rfl ?_ s ?_;rotate_left
   ·intro w' g
    try dsimp only at g
    go_simp
    try with_reducible rfl
   try simp only[Act.put]
   refine cR (i:=8) (by kernel_rfl) rfl rfl (λx m=>?_) (by decide)
   go_simp
   refine m.out _ _ (λ_=>X.out) (λbA=>?_);clear m x
   try simp only[Act.put,bS,dd,dc]
   refine cR (i:=9) (by kernel_rfl) rfl rfl (λx m=>?_) (by decide);refine wp_append_lies _ _ _ 109 rfl base 162 I _ 5 64 Tryz.underlying109 O.out.1 O.out.2.1 O.out.2.2.1 O.out.2.2.2 rfl (by decide) (.slice h L j) L xs rfl av.out ⟨d.heap.size,0,none⟩ 1 1 (Ma y a) rfl rfl (World.news_of_block (cs:= #[ab y,ab a.1.1,ab a.1.2.1,ae a.1.2.2,.slice a.2.1.1 a.2.2.length a.2.1.2]) (t:=162) (fr:=(0,0)) au.out) (by simp[Ma,Value.oneCell']) (by decide) (by unfold maxLen;omega) (by omega) (by have:=F.out;have:=P.out;omega) _ rfl ?_;intro G bc q aS z Y be;have a5:Hid (bk (λn=>(Value.slice h L j).ownBlock=some n) w q):=bk.trans (aD K.out _) (dR z) λ_ _ e=>e;have a2:Hid ((Value.slice h L j).ownBlock=some G\/w.heap.size<=G):=by
    rcases Y with e|e
    ·exact ag e
    ·exact ah (by have:=F.out;have:=P.out;omega)
   have a7:=ao aS;have V:Hid (∀b,(Value.slice h L j).ownBlock=some b->b<w.heap.size):=λb Z=>(ay.out.lt b Z).2;have aF:Hid (In q.heap.size q (N+1) a/\bZ (λn=>w.heap.size<=n/\n≠G) (N+1) a):=by
    have aR:bZ (λn=>w.heap.size<=n/\n<u.heap.size) (N+1) a:=(In.offB ba.out aG.out).mono λn H=>⟨ax a9.out H.1,H.2⟩;refine⟨aH.out.kee (dR z) (aR.mono λn H e=>?_),aR.mono λn H=>⟨H.1,λe=>?_⟩⟩
    ·have:=V.out n e;omega
    ·rcases Y with aI|aI
     ·have:=V.out G aI;omega
     ·have:=F.out;have:=P.out;omega
   have T:Hid ((q.cell? ⟨f,3,none⟩=some (.slice h L j)/\q.cell? ⟨p,0,none⟩=some (ab a.1.1)/\q.cell? ⟨p,1,none⟩=some (ab a.1.2.1)/\q.cell? ⟨p,2,none⟩=some (ae a.1.2.2)/\q.cell? ⟨p,3,none⟩=some (.slice a.2.1.1 a.2.2.length a.2.1.2))/\q.frozen? ⟨f,3,none⟩=false):=by
    have bE:=F.out;have bF:=P.out;have bG:=a8.out;have bf:some p≠(Value.slice h L j).ownBlock:=λe=>by
     have:=V.out p e.symm;omega
    have aU:some f≠(Value.slice h L j).ownBlock:=λe=>a6.out e.symm;have k:=λbg=>z.cell_far ⟨p,bg,none⟩ (by show p<_;omega) bf;obtain⟨bh,bi,bj,bl,bm⟩:=X.out;refine⟨⟨(z.cell_far ⟨f,3,none⟩ (by show f<_;omega) aU).trans bh,(k 0).trans bi,(k 1).trans bj,(k 2).trans bl,(k 3).trans bm⟩,?_⟩;rw[z.frozen_far ⟨f,3,none⟩ (by show f<_;omega) aU];have aN:=ar.out.2;unfold World.frozen? at aN ⊢;rw[K.out.block f aM];exact aN
   clear aS z Y be;refine m.out _ _ (λ_=>T.out.1) (λaJ=>?_);clear m x
   try simp only[Act.put,bS]
   refine cR (i:=10) (by kernel_rfl) rfl rfl (λx m=>?_) (by decide)
   go_simp
   refine m.out _ _ (λ_=>aJ) (λ_=>?_);clear m x
   try simp only[Act.put,bS,dd,dc]
   refine aO (i:=11) (v:= ?_) rfl (by kernel_rfl) (by kernel_rfl) (by kernel_rfl) (by kernel_rfl) (λ_ _ _ c=>c) rfl ?_ aJ ?_;rotate_left
   ·intro w' g
    try dsimp only at g
    go_simp
    try with_reducible rfl
   try simp only[Act.put,bS]
   have bp:=T.out.2;have bo:=T.out.1.1;refine jc (by kernel_rfl) rfl rfl (by kernel_rfl) (λx m=>?_)
   go_simp
   refine m.out _ _ (NoPanic.normal ?_);clear m x
   try simp only[Act.put,bS,dd,dc]
   go_wp2_with fail
   go_ret
   exact⟨rfl,λc=>(by cases c),λ_=>⟨y,a,G,bc,q,a4.out,bb.out,aF.out.1,aF.out.2,a7.out,a5.out,a2.out,rfl⟩⟩
end Go.Proofs.YtckamaoibonjcaaGreat
