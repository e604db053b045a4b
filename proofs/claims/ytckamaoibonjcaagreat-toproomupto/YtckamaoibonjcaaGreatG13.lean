/- What is proved here: proc's doing.send: a message is put behind those that are sent. No condition but that all lies in memory. -/
import Derived.Test.YtckamaoibonjcaaGreatG12
namespace Go.Proofs.YtckamaoibonjcaaGreat
open Go.RowKit
set_option maxRecDepth 100000
set_option maxHeartbeats 4000000
theorem Ih:(Tryz.prog.info? 162).map (λi=>(i.zero,i.size,i.bytes))=some (some (.agg #[.int .i64 0,.int .i64 0,.int .i64 0,.string ⟨#[]⟩,.slice none 0 0]),5,64):=by kernel_rfl
def LJ{N:Nat}(b:Int)(a:Tm (N+1)):List Value:=[.int .i64 b,.int .i64 a.1.1,.int .i64 a.1.2.1,.string a.1.2.2,.slice a.2.1.1 a.2.2.length a.2.1.2]
def Ng(N base k:Nat)(h:Option Addr)(L i:Nat)(xs:List Value)(t:Bool)(j:Int->Prop)(o:Option (Tm (N+1)))(w:World)(e:Ending)(w':World):Prop:=
 e=.returned (.bool (t && o.isSome))/\((t && o.isSome)=false->ag w w')/\
  ((t && o.isSome)=true->∃(g:Int)(f:Tm (N+1))(a c:Nat)(b:World),j g/\au (N+1) f (N+1) (o.getD (uZ N))=true/\In b.heap.size b (N+1) f/\bV (λd=>w.heap.size<=d/\d≠a) (N+1) f/\b.ownsRow base 162 5 (.slice (some ⟨a,0,none⟩) (L+1) c) (L+1) (xs++LJ g f)/\bi (λd=>(Value.slice h L i).ownBlock=some d) w b/\((Value.slice h L i).ownBlock=some a\/w.heap.size<=a)/\w'=b.setCell ⟨k,3,none⟩ (.slice (some ⟨a,0,none⟩) (L+1) c))
theorem F9(N:Nat)(k ad al:Int)(am:ByteArray)(xa:Option Addr)(an xc:Nat)(y0 y1:Int)(y2:ByteArray)(ya:Option Addr)(yl yc:Nat)(nm:ByteArray)(aZ:Int)(base f:Nat)(h:Option Addr)(L j:Nat)(xs:List Value)(w:World)(t:Bool)(ao:Int->Prop)(o:Option (Tm (N+1)))(bw:L<=10000)(aK:f<w.heap.size)(bz:base<=w.heap.size)(ap:Hid (w.cell? ⟨f,3,none⟩=some (.slice h L j)/\w.frozen? ⟨f,3,none⟩=false))(av:Hid (w.ownsRow base 162 5 (.slice h L j) L xs))(a4:Hid ((Value.slice h L j).ownBlock≠some f))(au:Hid (∀W,ag w W->ah 174 #[.pointer (some ⟨f,0,none⟩),.agg #[.int .i64 ad,.int .i64 al,.string am,.slice xa an xc]] W λe w'=>∃y,e=.returned (.tuple #[.int .i64 y,.bool t])/\Hid (ag W w'/\ao y)))(ay:Hid (∀W,ag w W->ah 103 #[.pointer (some ⟨f,0,none⟩),.agg #[.int .i64 y0,.int .i64 y1,.string y2,.slice ya yl yc]] W (vB N o W))):ah 161 #[.pointer (some ⟨f,0,none⟩),.agg #[.int .i64 k,.int .i64 ad,.int .i64 al,.string am,.slice xa an xc,.int .i64 y0,.int .i64 y1,.string y2,.slice ya yl yc,.string nm,.int .i64 aZ]] w (Ng N base f h L j xs t ao o w):=by
 obtain⟨I,aN,aT,aU,aV⟩:=bO Ih;have O:Hid (Tryz.prog.info? 162=some I/\I.zero=some (.agg #[.int .i64 0,.int .i64 0,.int .i64 0,.string ⟨#[]⟩,.slice none 0 0])/\I.size=5/\I.bytes=64):=⟨aN,aT,aU,aV⟩;clear aN aT aU aV;have az:Hid (∃R A,(R=w.alloc (.cells #[.int .i64 k,.int .i64 ad,.int .i64 al,.string am,.slice xa an xc,.int .i64 y0,.int .i64 y1,.string y2,.slice ya yl yc,.string nm,.int .i64 aZ] 224)/\A=w.heap.size)/\ag w R/\∀W,ag R W->W.cell? ⟨A,5,none⟩=some (.int .i64 y0)/\W.cell? ⟨A,6,none⟩=some (.int .i64 y1)/\W.cell? ⟨A,7,none⟩=some (.string y2)/\W.cell? ⟨A,8,none⟩=some (.slice ya yl yc)):=by
  refine⟨_,_,⟨rfl,rfl⟩,(ak _ _).alloc (ai _) _,λW bb=>?_⟩;have c:=(bb.block w.heap.size (by simp)).trans (ax w _);exact⟨ab c 5,ab c 6,ab c 7,ab c 8⟩
 go_enter Tryz.func161,Tryz.ntmps161;go_wp2_with fail;obtain⟨R,A,⟨aX,aR⟩,aI,aJ⟩:=az.out;rw[<-aX,<-aR];have S:=aj aI;have a1:=aj aJ;clear aX aR aI aJ az;refine(au.out _ S.out).mono ?_;rintro e bA ⟨y,rfl,J⟩;have C:=aj (S.out.trans (J.out.1.mono S.out.size));have a2:=aj J.out.2;obtain⟨bs,bt,bu,bv⟩:=a1.out _ J.out.1;clear J au;cases t
 ·go_wp2_with fail
  go_ret
  exact⟨rfl,λ_=>C.out,λc=>(by cases c)⟩
 ·go_wp2_with fail;refine(ay.out _ C.out).mono ?_;rintro e u ⟨a,rfl,B⟩;have D:=aj (C.out.trans (B.out.1.mono C.out.size));cases o with
  | none=>
   simp only[mh];go_wp2_with fail
   go_ret
   exact⟨rfl,λ_=>D.out.alloc D.out.size _,λc=>(by cases c)⟩
  | some bB=>
   simp only[mi];have aD:=aj B.out.2.1;have a8:=aj B.out.2.2.1;have a9:=aj B.out.2.2.2;have a7:=aj C.out.size;have aB:Hid (∃d p,(d=u.alloc (.cells #[.int .i64 a.1.1,.int .i64 a.1.2.1,.string a.1.2.2,.slice a.2.1.1 a.2.2.length a.2.1.2] 30)/\p=u.heap.size)/\ag u d/\d.heap[p]?=some (.cells #[.int .i64 a.1.1,.int .i64 a.1.2.1,.string a.1.2.2,.slice a.2.1.1 a.2.2.length a.2.1.2] 30)/\d.heap.size=u.heap.size+1):=⟨_,_,⟨rfl,rfl⟩,(ak _ _).alloc (ai _) _,ax _ _,by simp⟩;clear B ay;go_wp2_with fail;obtain⟨d,p,⟨aY,aa⟩,r⟩:=aB.out;rw[<-aY,<-aa];have a6:Hid (p=u.heap.size):=aa;replace r:=aj r;clear aY aa aB;have M:=aj (D.out.trans (r.out.1.mono D.out.size));obtain⟨l,aO⟩:∃l:Obj,l=.cells #[.int .i64 y,.int .i64 a.1.1,.int .i64 a.1.2.1,.string a.1.2.2,.slice a.2.1.1 a.2.2.length a.2.1.2] 162:=⟨_,rfl⟩;have U:Hid (∀W:World,ag d W->W.cell? ⟨f,3,none⟩=some (.slice h L j)/\W.cell? ⟨p,0,none⟩=some (.int .i64 a.1.1)/\W.cell? ⟨p,1,none⟩=some (.int .i64 a.1.2.1)/\W.cell? ⟨p,2,none⟩=some (.string a.1.2.2)/\W.cell? ⟨p,3,none⟩=some (.slice a.2.1.1 a.2.2.length a.2.1.2)):=λW c=>by
    have Q:=(c.block p (aA.1 r.out.2.1).1).trans r.out.2.1;have Z:=M.out.trans (c.mono M.out.size);exact⟨(Z.cell (p:=⟨f,3,none⟩) aK).trans ap.out.1,ab Q 0,ab Q 1,ab Q 2,ab Q 3⟩
   have E:Hid (ag d (d.alloc l).drew):=((ak _ _).alloc (ai _) l).drew;have s:=U.out d.drew (ak _ _).drew;have X:=aj (U.out _ E.out);have K:=aj (M.out.trans (E.out.mono M.out.size));have ar:Hid ((d.alloc l).drew.ownsRow base 162 5 (.slice h L j) L xs):=aW av.out (aE K.out λ_=>False) λ_ _ c=>c;have aq:Hid ((d.alloc l).drew.heap[d.heap.size]?=some l):=ax d l;have F:Hid ((d.alloc l).drew.heap.size=d.heap.size+1):=(show _=_ by simp[World.drew]);have P:Hid (d.heap.size=u.heap.size+1/\w.heap.size<=u.heap.size):=⟨r.out.2.2,D.out.size⟩;have aF:Hid (In (d.alloc l).drew.heap.size (d.alloc l).drew (N+1) a):=(aD.out.below (r.out.1.trans (E.out.mono r.out.1.size))).mono (by have:=r.out.1.size;have:=E.out.size;omega);rw[aO]at E X K ar aq F aF;clear aO l;obtain⟨bl,bo,bp,bq,br⟩:=U.out d (ak _ _);refine wp_region_noPanic ?_;refine iZ (λW=>W.cell? ⟨f,3,none⟩=some (.slice h L j)/\W.cell? ⟨p,0,none⟩=some (.int .i64 a.1.1)/\W.cell? ⟨p,1,none⟩=some (.int .i64 a.1.2.1)/\W.cell? ⟨p,2,none⟩=some (.string a.1.2.2)/\W.cell? ⟨p,3,none⟩=some (.slice a.2.1.1 a.2.2.length a.2.1.2)) 12 (by kernel_rfl) ?_
   try simp only[eR]
   refine aM (i:=0) (v:= ?_) rfl (by kernel_rfl) (by kernel_rfl) (by kernel_rfl) (by kernel_rfl) (λ_ _ _ c=>c) rfl ?_ s ?_;rotate_left
   ·intro w' g
    try dsimp only at g
    go_simp
    try with_reducible rfl
   try simp only[Act.put,bP]
   refine aM (i:=1) (v:= ?_) rfl (by kernel_rfl) (by kernel_rfl) (by kernel_rfl) (by kernel_rfl) (λ_ _ _ c=>c) rfl ?_ s ?_;rotate_left
   ·intro w' g
    try dsimp only at g
    go_simp
    try with_reducible rfl
   try simp only[Act.put]
   refine aM (i:=2) (v:= ?_) rfl (by kernel_rfl) (by kernel_rfl) (by kernel_rfl) (by kernel_rfl) (λ_ _ _ c=>c) rfl ?_ s ?_;rotate_left
   ·intro w' g
    try dsimp only at g
    go_simp
    try with_reducible rfl
   try simp only[Act.put]
   refine aM (i:=3) (v:= ?_) rfl (by kernel_rfl) (by kernel_rfl) (by kernel_rfl) (by kernel_rfl) (λ_ _ _ c=>c) rfl ?_ s ?_;rotate_left
   ·intro w' g
    try dsimp only at g
    go_simp
    try with_reducible rfl
   try simp only[Act.put]
   refine aM (i:=4) (v:= ?_) rfl (by kernel_rfl) (by kernel_rfl) (by kernel_rfl) (by kernel_rfl) (λ_ _ _ c=>c) rfl ?_ s ?_;rotate_left
   ·intro w' g
    try dsimp only at g
    go_simp
    try with_reducible rfl
   try simp only[Act.put]
   refine aM (i:=5) (v:= ?_) rfl (by kernel_rfl) (by kernel_rfl) (by kernel_rfl) (by kernel_rfl) (λ_ _ _ c=>c) rfl ?_ s ?_;rotate_left
   ·intro w' g
    try dsimp only at g
    go_simp
    try with_reducible rfl
   try simp only[Act.put]
   refine aM (i:=6) (v:= ?_) rfl (by kernel_rfl) (by kernel_rfl) (by kernel_rfl) (by kernel_rfl) (λ_ _ _ c=>c) rfl ?_ s ?_;rotate_left
   ·intro w' g
    try dsimp only at g
    go_simp
    try with_reducible rfl
   try simp only[Act.put]
   refine aM (i:=7) (v:= ?_) rfl (by kernel_rfl) (by kernel_rfl) (by kernel_rfl) (by kernel_rfl) (λ_ _ _ c=>c) rfl ?_ s ?_;rotate_left
   ·intro w' g
    try dsimp only at g
    go_simp
    try with_reducible rfl
   try simp only[Act.put]
   refine cP (i:=8) (by kernel_rfl) rfl rfl (λx m=>?_) (by decide)
   go_simp
   refine m.out _ _ (λ_=>X.out) (λbx=>?_);clear m x
   try simp only[Act.put,bP,da,cZ]
   refine cP (i:=9) (by kernel_rfl) rfl rfl (λx m=>?_) (by decide);refine wp_append_lies _ _ _ 109 rfl base 162 I _ 5 64 Tryz.underlying109 O.out.1 O.out.2.1 O.out.2.2.1 O.out.2.2.2 rfl (by decide) (.slice h L j) L xs rfl ar.out ⟨d.heap.size,0,none⟩ 1 1 (LJ y a) rfl rfl (World.news_of_block (cs:= #[.int .i64 y,.int .i64 a.1.1,.int .i64 a.1.2.1,.string a.1.2.2,.slice a.2.1.1 a.2.2.length a.2.1.2]) (t:=162) (fr:=(0,0)) aq.out) (by simp[LJ,Value.oneCell']) (by decide) (by unfold maxLen;omega) (by omega) (by have:=F.out;have:=P.out;omega) _ rfl ?_;intro G ba q aQ z Y bc;have a3:Hid (bi (λn=>(Value.slice h L j).ownBlock=some n) w q):=bi.trans (aE K.out _) (dP z) λ_ _ e=>e;have a0:Hid ((Value.slice h L j).ownBlock=some G\/w.heap.size<=G):=by
    rcases Y with e|e
    ·exact ae e
    ·exact af (by have:=F.out;have:=P.out;omega)
   have a5:=aj aQ;have V:Hid (∀b,(Value.slice h L j).ownBlock=some b->b<w.heap.size):=λb Z=>(av.out.lt b Z).2;have aC:Hid (In q.heap.size q (N+1) a/\bV (λn=>w.heap.size<=n/\n≠G) (N+1) a):=by
    have aP:bV (λn=>w.heap.size<=n/\n<u.heap.size) (N+1) a:=(In.offB a8.out aD.out).mono λn H=>⟨aw a7.out H.1,H.2⟩;refine⟨aF.out.kee (dP z) (aP.mono λn H e=>?_),aP.mono λn H=>⟨H.1,λe=>?_⟩⟩
    ·have:=V.out n e;omega
    ·rcases Y with aG|aG
     ·have:=V.out G aG;omega
     ·have:=F.out;have:=P.out;omega
   have T:Hid ((q.cell? ⟨f,3,none⟩=some (.slice h L j)/\q.cell? ⟨p,0,none⟩=some (.int .i64 a.1.1)/\q.cell? ⟨p,1,none⟩=some (.int .i64 a.1.2.1)/\q.cell? ⟨p,2,none⟩=some (.string a.1.2.2)/\q.cell? ⟨p,3,none⟩=some (.slice a.2.1.1 a.2.2.length a.2.1.2))/\q.frozen? ⟨f,3,none⟩=false):=by
    have bC:=F.out;have bD:=P.out;have bE:=a6.out;have bd:some p≠(Value.slice h L j).ownBlock:=λe=>by
     have:=V.out p e.symm;omega
    have aS:some f≠(Value.slice h L j).ownBlock:=λe=>a4.out e.symm;have k:=λbe=>z.cell_far ⟨p,be,none⟩ (by show p<_;omega) bd;obtain⟨bf,bg,bh,bj,bk⟩:=X.out;refine⟨⟨(z.cell_far ⟨f,3,none⟩ (by show f<_;omega) aS).trans bf,(k 0).trans bg,(k 1).trans bh,(k 2).trans bj,(k 3).trans bk⟩,?_⟩;rw[z.frozen_far ⟨f,3,none⟩ (by show f<_;omega) aS];have aL:=ap.out.2;unfold World.frozen? at aL ⊢;rw[K.out.block f aK];exact aL
   clear aQ z Y bc;refine m.out _ _ (λ_=>T.out.1) (λaH=>?_);clear m x
   try simp only[Act.put,bP]
   refine cP (i:=10) (by kernel_rfl) rfl rfl (λx m=>?_) (by decide)
   go_simp
   refine m.out _ _ (λ_=>aH) (λ_=>?_);clear m x
   try simp only[Act.put,bP,da,cZ]
   refine aM (i:=11) (v:= ?_) rfl (by kernel_rfl) (by kernel_rfl) (by kernel_rfl) (by kernel_rfl) (λ_ _ _ c=>c) rfl ?_ aH ?_;rotate_left
   ·intro w' g
    try dsimp only at g
    go_simp
    try with_reducible rfl
   try simp only[Act.put,bP]
   have bn:=T.out.2;have bm:=T.out.1.1;refine iY (by kernel_rfl) rfl rfl (by kernel_rfl) (λx m=>?_)
   go_simp
   refine m.out _ _ (NoPanic.normal ?_);clear m x
   try simp only[Act.put,bP,da,cZ]
   go_wp2_with fail
   go_ret
   exact⟨rfl,λc=>(by cases c),λ_=>⟨y,a,G,ba,q,a2.out,a9.out,aC.out.1,aC.out.2,a5.out,a3.out,a0.out,rfl⟩⟩
end Go.Proofs.YtckamaoibonjcaaGreat
