/- What is proved here: proc's doing.send: a message is put behind those that are sent. No condition but that all lies in memory. -/
import Derived.Test.YtnidfceinoiboaaGreatG12
namespace Go.Proofs.YtnidfceinoiboaaGreat
open Go.RowKit
set_option maxRecDepth 100000
set_option maxHeartbeats 4000000
theorem FP:(Tryz.prog.info? 153).map (λi=>(i.zero,i.size,i.bytes))=some (some (.agg #[.int .i64 0,.int .i64 0,.int .i64 0,.string ⟨#[]⟩,.slice none 0 0]),5,64):=by kernel_rfl
def JN{N:Nat}(u:Int)(z:Tm (N+1)):List Value:=[.int .i64 u,.int .i64 z.1.1,.int .i64 z.1.2.1,.string z.1.2.2,.slice z.2.1.1 z.2.2.length z.2.1.2]
def Li(N base k:Nat)(h:Option Addr)(L i:Nat)(xs:List Value)(t:Bool)(j:Int->Prop)(o:Option (Tm (N+1)))(w:World)(e:Ending)(w':World):Prop:=
 e=.returned (.bool (t && o.isSome))/\((t && o.isSome)=false->Below w.heap.size w w')/\
  ((t && o.isSome)=true->∃(g:Int)(f:Tm (N+1))(a c:Nat)(b:World),j g/\aw (N+1) f (N+1) (o.getD (uo N))=true/\In b.heap.size b (N+1) f/\ch (λd=>w.heap.size<=d/\d≠a) (N+1) f/\b.ownsRow base 153 5 (.slice (some ⟨a,0,none⟩) (L+1) c) (L+1) (xs++JN g f)/\bf (λd=>(Value.slice h L i).ownBlock=some d) w b/\((Value.slice h L i).ownBlock=some a\/w.heap.size<=a)/\w'=b.setCell ⟨k,3,none⟩ (.slice (some ⟨a,0,none⟩) (L+1) c))
theorem En(N:Nat)(k ad aj:Int)(ak:ByteArray)(xa:Option Addr)(al xc:Nat)(y0 y1:Int)(y2:ByteArray)(ya:Option Addr)(yl yc:Nat)(nm:ByteArray)(aX:Int)(base f:Nat)(h:Option Addr)(L j:Nat)(xs:List Value)(w:World)(t:Bool)(am:Int->Prop)(o:Option (Tm (N+1)))(bu:L<=10000)(aI:f<w.heap.size)(bw:base<=w.heap.size)(an:Hid (w.cell? ⟨f,3,none⟩=some (.slice h L j)/\w.frozen? ⟨f,3,none⟩=false))(ar:Hid (w.ownsRow base 153 5 (.slice h L j) L xs))(a2:Hid ((Value.slice h L j).ownBlock≠some f))(aq:Hid (∀W,Below w.heap.size w W->Calls Tryz.prog 160 #[.pointer (some ⟨f,0,none⟩),.agg #[.int .i64 ad,.int .i64 aj,.string ak,.slice xa al xc]] W λe w'=>∃u,e=.returned (.tuple #[.int .i64 u,.bool t])/\Hid (Below W.heap.size W w'/\am u)))(av:Hid (∀W,Below w.heap.size w W->Calls Tryz.prog 89 #[.pointer (some ⟨f,0,none⟩),.agg #[.int .i64 y0,.int .i64 y1,.string y2,.slice ya yl yc]] W (uL N o W))):Calls Tryz.prog 147 #[.pointer (some ⟨f,0,none⟩),.agg #[.int .i64 k,.int .i64 ad,.int .i64 aj,.string ak,.slice xa al xc,.int .i64 y0,.int .i64 y1,.string y2,.slice ya yl yc,.string nm,.int .i64 aX]] w (Li N base f h L j xs t am o w):=by
 obtain⟨I,aK,aR,aS,aU⟩:=bM FP;have P:Hid (Tryz.prog.info? 153=some I/\I.zero=some (.agg #[.int .i64 0,.int .i64 0,.int .i64 0,.string ⟨#[]⟩,.slice none 0 0])/\I.size=5/\I.bytes=64):=⟨aK,aR,aS,aU⟩;clear aK aR aS aU;have aw:Hid (∃J A,(J=w.alloc (.cells #[.int .i64 k,.int .i64 ad,.int .i64 aj,.string ak,.slice xa al xc,.int .i64 y0,.int .i64 y1,.string y2,.slice ya yl yc,.string nm,.int .i64 aX] 83)/\A=w.heap.size)/\Below w.heap.size w J/\∀W,Below J.heap.size J W->W.cell? ⟨A,5,none⟩=some (.int .i64 y0)/\W.cell? ⟨A,6,none⟩=some (.int .i64 y1)/\W.cell? ⟨A,7,none⟩=some (.string y2)/\W.cell? ⟨A,8,none⟩=some (.slice ya yl yc)):=by
  refine⟨_,_,⟨rfl,rfl⟩,(ah _ _).alloc (ag _) _,λW a9=>?_⟩;have c:=(a9.block w.heap.size (by simp)).trans (ax w _);exact⟨ab c 5,ab c 6,ab c 7,ab c 8⟩
 go_enter Tryz.func147,Tryz.ntmps147;go_wp2_with fail;obtain⟨J,A,⟨aV,aP⟩,aG,aH⟩:=aw.out;rw[<-aV,<-aP];have S:=ai aG;have aZ:=ai aH;clear aV aP aG aH aw;refine(aq.out _ S.out).mono ?_;rintro e bx ⟨u,rfl,K⟩;have C:=ai (S.out.trans (K.out.1.mono S.out.size));have a0:=ai K.out.2;obtain⟨bq,br,bs,bt⟩:=aZ.out _ K.out.1;clear K aq;cases t
 ·go_wp2_with fail
  go_ret
  exact⟨rfl,λ_=>C.out,λc=>(by cases c)⟩
 ·go_wp2_with fail;refine(av.out _ C.out).mono ?_;rintro e s ⟨a,rfl,B⟩;have D:=ai (C.out.trans (B.out.1.mono C.out.size));cases o with
  | none=>
   simp only[lO];go_wp2_with fail
   go_ret
   exact⟨rfl,λ_=>D.out.alloc D.out.size _,λc=>(by cases c)⟩
  | some bz=>
   simp only[jU];have aA:=ai B.out.2.1;have a6:=ai B.out.2.2.1;have a7:=ai B.out.2.2.2;have a5:=ai C.out.size;have ay:Hid (∃d p,(d=s.alloc (.cells #[.int .i64 a.1.1,.int .i64 a.1.2.1,.string a.1.2.2,.slice a.2.1.1 a.2.2.length a.2.1.2] 30)/\p=s.heap.size)/\Below s.heap.size s d/\d.heap[p]?=some (.cells #[.int .i64 a.1.1,.int .i64 a.1.2.1,.string a.1.2.2,.slice a.2.1.1 a.2.2.length a.2.1.2] 30)/\d.heap.size=s.heap.size+1):=⟨_,_,⟨rfl,rfl⟩,(ah _ _).alloc (ag _) _,ax _ _,by simp⟩;clear B av;go_wp2_with fail;obtain⟨d,p,⟨aW,aa⟩,r⟩:=ay.out;rw[<-aW,<-aa];have a4:Hid (p=s.heap.size):=aa;replace r:=ai r;clear aW aa ay;have O:=ai (D.out.trans (r.out.1.mono D.out.size));obtain⟨l,aL⟩:∃l:Obj,l=.cells #[.int .i64 u,.int .i64 a.1.1,.int .i64 a.1.2.1,.string a.1.2.2,.slice a.2.1.1 a.2.2.length a.2.1.2] 153:=⟨_,rfl⟩;have U:Hid (∀W:World,Below d.heap.size d W->W.cell? ⟨f,3,none⟩=some (.slice h L j)/\W.cell? ⟨p,0,none⟩=some (.int .i64 a.1.1)/\W.cell? ⟨p,1,none⟩=some (.int .i64 a.1.2.1)/\W.cell? ⟨p,2,none⟩=some (.string a.1.2.2)/\W.cell? ⟨p,3,none⟩=some (.slice a.2.1.1 a.2.2.length a.2.1.2)):=λW c=>by
    have R:=(c.block p (aE.1 r.out.2.1).1).trans r.out.2.1;have Z:=O.out.trans (c.mono O.out.size);exact⟨(Z.cell (p:=⟨f,3,none⟩) aI).trans an.out.1,ab R 0,ab R 1,ab R 2,ab R 3⟩
   have E:Hid (Below d.heap.size d (d.alloc l).drew):=((ah _ _).alloc (ag _) l).drew;have x:=U.out d.drew (ah _ _).drew;have X:=ai (U.out _ E.out);have M:=ai (O.out.trans (E.out.mono O.out.size));have ap:Hid ((d.alloc l).drew.ownsRow base 153 5 (.slice h L j) L xs):=aT ar.out (aC M.out λ_=>False) λ_ _ c=>c;have ao:Hid ((d.alloc l).drew.heap[d.heap.size]?=some l):=ax d l;have F:Hid ((d.alloc l).drew.heap.size=d.heap.size+1):=(show _=_ by simp[World.drew]);have Q:Hid (d.heap.size=s.heap.size+1/\w.heap.size<=s.heap.size):=⟨r.out.2.2,D.out.size⟩;have aB:Hid (In (d.alloc l).drew.heap.size (d.alloc l).drew (N+1) a):=(aA.out.below (r.out.1.trans (E.out.mono r.out.1.size))).mono (by have:=r.out.1.size;have:=E.out.size;omega);rw[aL]at E X M ap ao F aB;clear aL l;obtain⟨bj,bm,bn,bo,bp⟩:=U.out d (ah _ _);refine wp_region_noPanic ?_;refine iR (λW=>W.cell? ⟨f,3,none⟩=some (.slice h L j)/\W.cell? ⟨p,0,none⟩=some (.int .i64 a.1.1)/\W.cell? ⟨p,1,none⟩=some (.int .i64 a.1.2.1)/\W.cell? ⟨p,2,none⟩=some (.string a.1.2.2)/\W.cell? ⟨p,3,none⟩=some (.slice a.2.1.1 a.2.2.length a.2.1.2)) 12 (by kernel_rfl) ?_
   try simp only[eQ]
   refine aM (i:=0) (v:= ?_) rfl (by kernel_rfl) (by kernel_rfl) (by kernel_rfl) (by kernel_rfl) (λ_ _ _ c=>c) rfl ?_ x ?_;rotate_left
   ·intro w' g
    try dsimp only at g
    go_simp
    try with_reducible rfl
   try simp only[Act.put,bL]
   refine aM (i:=1) (v:= ?_) rfl (by kernel_rfl) (by kernel_rfl) (by kernel_rfl) (by kernel_rfl) (λ_ _ _ c=>c) rfl ?_ x ?_;rotate_left
   ·intro w' g
    try dsimp only at g
    go_simp
    try with_reducible rfl
   try simp only[Act.put]
   refine aM (i:=2) (v:= ?_) rfl (by kernel_rfl) (by kernel_rfl) (by kernel_rfl) (by kernel_rfl) (λ_ _ _ c=>c) rfl ?_ x ?_;rotate_left
   ·intro w' g
    try dsimp only at g
    go_simp
    try with_reducible rfl
   try simp only[Act.put]
   refine aM (i:=3) (v:= ?_) rfl (by kernel_rfl) (by kernel_rfl) (by kernel_rfl) (by kernel_rfl) (λ_ _ _ c=>c) rfl ?_ x ?_;rotate_left
   ·intro w' g
    try dsimp only at g
    go_simp
    try with_reducible rfl
   try simp only[Act.put]
   refine aM (i:=4) (v:= ?_) rfl (by kernel_rfl) (by kernel_rfl) (by kernel_rfl) (by kernel_rfl) (λ_ _ _ c=>c) rfl ?_ x ?_;rotate_left
   ·intro w' g
    try dsimp only at g
    go_simp
    try with_reducible rfl
   try simp only[Act.put]
   refine aM (i:=5) (v:= ?_) rfl (by kernel_rfl) (by kernel_rfl) (by kernel_rfl) (by kernel_rfl) (λ_ _ _ c=>c) rfl ?_ x ?_;rotate_left
   ·intro w' g
    try dsimp only at g
    go_simp
    try with_reducible rfl
   try simp only[Act.put]
   refine aM (i:=6) (v:= ?_) rfl (by kernel_rfl) (by kernel_rfl) (by kernel_rfl) (by kernel_rfl) (λ_ _ _ c=>c) rfl ?_ x ?_;rotate_left
   ·intro w' g
    try dsimp only at g
    go_simp
    try with_reducible rfl
   try simp only[Act.put]
   refine aM (i:=7) (v:= ?_) rfl (by kernel_rfl) (by kernel_rfl) (by kernel_rfl) (by kernel_rfl) (λ_ _ _ c=>c) rfl ?_ x ?_;rotate_left
   ·intro w' g
    try dsimp only at g
    go_simp
    try with_reducible rfl
   try simp only[Act.put]
   refine cN (i:=8) (by kernel_rfl) rfl rfl (λy m=>?_) (by decide)
   go_simp
   refine m.out _ _ (λ_=>X.out) (λbv=>?_);clear m y
   try simp only[Act.put,bL,da,cZ]
   refine cN (i:=9) (by kernel_rfl) rfl rfl (λy m=>?_) (by decide);refine wp_append_lies _ _ _ 96 rfl base 153 I _ 5 64 Tryz.underlying96 P.out.1 P.out.2.1 P.out.2.2.1 P.out.2.2.2 rfl (by decide) (.slice h L j) L xs rfl ap.out ⟨d.heap.size,0,none⟩ 1 1 (JN u a) rfl rfl (World.news_of_block (cs:= #[.int .i64 u,.int .i64 a.1.1,.int .i64 a.1.2.1,.string a.1.2.2,.slice a.2.1.1 a.2.2.length a.2.1.2]) (t:=153) (fr:=(0,0)) ao.out) (by simp[JN,Value.oneCell']) (by decide) (by unfold maxLen;omega) (by omega) (by have:=F.out;have:=Q.out;omega) _ rfl ?_;intro G a8 q aO z Y ba;have a1:Hid (bf (λn=>(Value.slice h L j).ownBlock=some n) w q):=bf.trans (aC M.out _) (dS z) λ_ _ e=>e;have aY:Hid ((Value.slice h L j).ownBlock=some G\/w.heap.size<=G):=by
    rcases Y with e|e
    ·exact ae e
    ·exact af (by have:=F.out;have:=Q.out;omega)
   have a3:=ai aO;have V:Hid (∀b,(Value.slice h L j).ownBlock=some b->b<w.heap.size):=λb Z=>(ar.out.lt b Z).2;have az:Hid (In q.heap.size q (N+1) a/\ch (λn=>w.heap.size<=n/\n≠G) (N+1) a):=by
    have aN:ch (λn=>w.heap.size<=n/\n<s.heap.size) (N+1) a:=(In.offB a6.out aA.out).mono λn H=>⟨au a5.out H.1,H.2⟩;refine⟨aB.out.kee (dS z) (aN.mono λn H e=>?_),aN.mono λn H=>⟨H.1,λe=>?_⟩⟩
    ·have:=V.out n e;omega
    ·rcases Y with aD|aD
     ·have:=V.out G aD;omega
     ·have:=F.out;have:=Q.out;omega
   have T:Hid ((q.cell? ⟨f,3,none⟩=some (.slice h L j)/\q.cell? ⟨p,0,none⟩=some (.int .i64 a.1.1)/\q.cell? ⟨p,1,none⟩=some (.int .i64 a.1.2.1)/\q.cell? ⟨p,2,none⟩=some (.string a.1.2.2)/\q.cell? ⟨p,3,none⟩=some (.slice a.2.1.1 a.2.2.length a.2.1.2))/\q.frozen? ⟨f,3,none⟩=false):=by
    have bA:=F.out;have bB:=Q.out;have bC:=a4.out;have bb:some p≠(Value.slice h L j).ownBlock:=λe=>by
     have:=V.out p e.symm;omega
    have aQ:some f≠(Value.slice h L j).ownBlock:=λe=>a2.out e.symm;have k:=λbc=>z.cell_far ⟨p,bc,none⟩ (by show p<_;omega) bb;obtain⟨bd,be,bg,bh,bi⟩:=X.out;refine⟨⟨(z.cell_far ⟨f,3,none⟩ (by show f<_;omega) aQ).trans bd,(k 0).trans be,(k 1).trans bg,(k 2).trans bh,(k 3).trans bi⟩,?_⟩;rw[z.frozen_far ⟨f,3,none⟩ (by show f<_;omega) aQ];have aJ:=an.out.2;unfold World.frozen? at aJ ⊢;rw[M.out.block f aI];exact aJ
   clear aO z Y ba;refine m.out _ _ (λ_=>T.out.1) (λaF=>?_);clear m y
   try simp only[Act.put,bL]
   refine cN (i:=10) (by kernel_rfl) rfl rfl (λy m=>?_) (by decide)
   go_simp
   refine m.out _ _ (λ_=>aF) (λ_=>?_);clear m y
   try simp only[Act.put,bL,da,cZ]
   refine aM (i:=11) (v:= ?_) rfl (by kernel_rfl) (by kernel_rfl) (by kernel_rfl) (by kernel_rfl) (λ_ _ _ c=>c) rfl ?_ aF ?_;rotate_left
   ·intro w' g
    try dsimp only at g
    go_simp
    try with_reducible rfl
   try simp only[Act.put,bL]
   have bl:=T.out.2;have bk:=T.out.1.1;refine iQ (by kernel_rfl) rfl rfl (by kernel_rfl) (λy m=>?_)
   go_simp
   refine m.out _ _ (NoPanic.normal ?_);clear m y
   try simp only[Act.put,bL,da,cZ]
   go_wp2_with fail
   go_ret
   exact⟨rfl,λc=>(by cases c),λ_=>⟨u,a,G,a8,q,a0.out,a7.out,az.out.1,az.out.2,a3.out,a1.out,aY.out,rfl⟩⟩
end Go.Proofs.YtnidfceinoiboaaGreat
