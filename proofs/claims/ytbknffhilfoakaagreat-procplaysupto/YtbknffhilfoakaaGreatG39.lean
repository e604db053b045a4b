/- What is proved here: plain facts and contracts that the claimed theorem stands on. No condition but those that each names. -/
import Derived.Test.YtbknffhilfoakaaGreatG38
namespace Go.Proofs.YtbknffhilfoakaaGreat
open Go.RowKit
set_option maxRecDepth 100000
set_option maxHeartbeats 4000000
theorem P1.lie {B0 pb:Nat} {name:ByteArray} {room:Int} {cs:Tc} {cms:List Tc} {k:Nat} {M:Nat->Prop} {w:World} (h:P1 B0 pb name room cs cms k M w):∀b,M b->B0<=b/\b<w.heap.size:=by
 obtain⟨base,s,ms,ws,nm,sv,vs,ma,mc,Mh,h1,h2,h3,h4⟩:=h
 exact h4
theorem P1.used {B0 pb:Nat} {name:ByteArray} {room:Int} {cs:Tc} {cms:List Tc} {k:Nat} {M:Nat->Prop} {w:World} (h:P1 B0 pb name room cs cms k M w):
    ∃u:Int,(((cs::cms).map (sz 13)).sum<=u/\u<=room/\room<=1000)/\∀W,Below w.heap.size w W->Calls Tryz.prog 14 #[.pointer (some ⟨pb,0,none⟩)] W fun e w'=>e=.returned (.int .i64 u)/\w'=W:=by
 obtain⟨base,s,ms,ws,nm,sv,vs,ma,mc,Mh,h1,⟨rfl,rfl⟩,h3,h4⟩:=h
 obtain⟨_,_,k3,k4,k5,k6,k7,_⟩:=h1.front (N:=12)
 have hc:∀y∈s::ms,aP 13 y=0:=fun y hy=>(k3 y hy).1
 have e:((cn 13 s::ms.map (cn 13)).map (sz 13)).sum=((s::ms).map (sz 13)).sum:=lK hc
 exact⟨(ws.length:Int),⟨by rw[e];exact k4,k5,k7⟩,fun W hW=>EQ (h1.later (N:=12) hW)⟩
theorem zW (pb:Nat) (name:ByteArray) (w:World) (h0:w.cell? ⟨pb,0,none⟩=some (.string name)) (HS:Hid (∀w1:World,Calls Tryz.prog 24 #[.string name] w1 fun e w'=>e=.returned (.string name)/\Below w1.heap.size w1 w')):
    Calls Tryz.prog 16 #[.pointer (some ⟨pb,0,none⟩)] w fun e w'=>e=.returned (.string name)/\Below w.heap.size w w':=by
 go_enter Tryz.func16,Tryz.ntmps16
 go_wp2_with fail
 refine(HS.out _).mono ?_
 rintro e w1 ⟨rfl,hb⟩
 have HB:=hide hb
 clear hb
 go_wp2_with fail
 go_ret
 exact⟨rfl,HB.out⟩
theorem P1.name {B0 pb:Nat} {name:ByteArray} {room:Int} {cs:Tc} {cms:List Tc} {k:Nat} {M:Nat->Prop} {w:World} (h:P1 B0 pb name room cs cms k M w) (hn:name.size<=2048):
    Calls Tryz.prog 16 #[.pointer (some ⟨pb,0,none⟩)] w fun e w'=>e=.returned (.string name)/\Below w.heap.size w w':=by
 obtain⟨base,s,ms,ws,nm,sv,vs,ma,mc,Mh,h1,_⟩:=h
 obtain⟨tv,lv,mv,h2,_⟩:=h1.heap.box
 exact zW pb name w (PL.cells h2).1 fun w1=>dX name w1 hn
def I8 (B0:Nat) (F:Nat->Prop) (w w':World):Prop:=Below B0 w w'/\∀b,F b->w'.heap[b]? =w.heap[b]?
def PQ (B0:Nat) (F:Nat->Prop) (pb qb:Nat) (name:ByteArray) (room:Int) (cs:Tc) (cms:List Tc) (ds:Tc) (dms:List Tc) (k:Nat) (M D:Nat->Prop) (w:World):Prop:=
 P1 B0 pb name room cs cms k M w/\(∃x ys ma mc,QA qb name room x ys ma mc D w/\cn 13 x=ds/\ys.map (cn 13)=dms)/\(∀b,M b->¬D b)/\¬M qb/\(∀b,F b->b<w.heap.size/\¬M b/\b≠qb/\¬D b)/\(∀b,b<B0->D b)/\B0<=w.heap.size
section
variable {B0:Nat} {F:Nat->Prop} {pb qb:Nat} {name:ByteArray} {room:Int} {cs ds:Tc} {cms dms:List Tc} {k:Nat} {M D:Nat->Prop} {w:World}
theorem PQ.box (h:PQ B0 F pb qb name room cs cms ds dms k M D w) {W:World} (hb:Below w.heap.size w W):PQ B0 (fun b=>F b∨(w.heap.size<=b/\b<W.heap.size)) pb qb name room cs cms ds dms k M (fun b=>D b/\b<w.heap.size) W:=by
 obtain⟨h1,⟨x,ys,ma,mc,h2,e1,e2⟩,h3,h4,h5,h6,h7⟩:=h
 have hs:=hb.size
 have hl:=h1.lie
 have hq:=(Array.getElem?_eq_some_iff.1 h2.box).1
 refine⟨h1.later hb,⟨x,ys,ma,mc,h2.less.later hb,e1,e2⟩,fun b q z=>h3 b q z.1,h4,fun b q=> ?_,fun b q=>⟨h6 b q,by omega⟩,by omega⟩
 rcases q with q|q
 ·have:=h5 b q
  exact⟨by omega,this.2.1,this.2.2.1,fun z=>this.2.2.2 z.1⟩
 ·exact⟨q.2,fun z=>by have:=(hl b z).2;omega,by omega,fun z=>by omega⟩
theorem PQ.less (h:PQ B0 F pb qb name room cs cms ds dms k M D w) {G:Nat->Prop} (hG:∀b,G b->F b):PQ B0 G pb qb name room cs cms ds dms k M D w:=by
 obtain⟨h1,h2,h3,h4,h5,h6,h7⟩:=h
 exact⟨h1,h2,h3,h4,fun b q=>h5 b (hG b q),h6,h7⟩
theorem PQ.later (h:PQ B0 F pb qb name room cs cms ds dms k M D w) {W:World} (hb:Below w.heap.size w W):PQ B0 F pb qb name room cs cms ds dms k M (fun b=>D b/\b<w.heap.size) W:=(h.box hb).less fun _ q=>Or.inl q
theorem PQ.up (h:PQ B0 F pb qb name room cs cms ds dms k M D w) {j:Nat} (hj:k<=j):PQ B0 F pb qb name room cs cms ds dms j M D w:=by
 obtain⟨h1,h2⟩:=h
 exact⟨h1.mono (fun _ q=>q) hj h1.lie,h2⟩
theorem PQ.size (h:PQ B0 F pb qb name room cs cms ds dms k M D w):B0<=w.heap.size:=h.2.2.2.2.2.2
theorem PQ.turnP (h:PQ B0 F pb qb name room cs cms ds dms k M D w) {w':World} (hk:Keep M w w') {N:Nat->Prop} (hN:∀b,N b->M b∨w.heap.size<=b) {cs':Tc} {cms':List Tc} {j:Nat} (hp:P1 B0 pb name room cs' cms' j N w'):PQ B0 F pb qb name room cs' cms' ds dms j N (fun b=>D b/\b<w.heap.size) w'/\I8 B0 F w w':=by
 obtain⟨h1,⟨x,ys,ma,mc,h2,e1,e2⟩,h3,h4,h5,h6,h7⟩:=h
 have hs:=hk.size
 have hl:=h1.lie
 have hq:=(Array.getElem?_eq_some_iff.1 h2.box).1
 refine⟨⟨hp,⟨x,ys,ma,mc,h2.less.kept hs (hk.block qb hq h4) (fun b e hlt=>hk.block b hlt fun z=>h3 b z e.1) (fun _ e _=>e) (fun e=>h2.out e.1),e1,e2⟩,fun b q z=> ?_,fun q=> ?_,fun b q=> ?_,fun b q=>⟨h6 b q,by omega⟩,by omega⟩,⟨hk.os,hk.tape,hk.output,hs,fun b hb=>hk.block b (by omega) fun z=>by have:=(hl b z).1;omega⟩,fun b q=>hk.block b (h5 b q).1 (h5 b q).2.1⟩
 ·rcases hN b q with y|y
  ·exact h3 b y z.1
  ·omega
 ·rcases hN qb q with y|y
  ·exact h4 y
  ·omega
 ·obtain⟨q1,q2,q3,q4⟩:=h5 b q
  refine⟨by omega,fun z=> ?_,q3,fun z=>q4 z.1⟩
  rcases hN b z with y|y
  ·exact q2 y
  ·omega
theorem PQ.turnQ (h:PQ B0 F pb qb name room cs cms ds dms k M D w) {w':World} (hk:Kee (fun b=>b=qb) w w') {x':Tc} {ys':List Tc} {ma':Option Addr} {mc':Nat} (hq:QA qb name room x' ys' ma' mc' (fun b=>D b∨w.heap.size<=b) w'):PQ B0 F pb qb name room cs cms (cn 13 x') (ys'.map (cn 13)) k M (fun b=>D b∨w.heap.size<=b) w'/\I8 B0 F w w':=by
 obtain⟨h1,⟨x,ys,ma,mc,h2,e1,e2⟩,h3,h4,h5,h6,h7⟩:=h
 have hs:=hk.size
 have hl:=h1.lie
 have hqB:B0<=qb:=Nat.le_of_not_lt fun z=>h2.out (h6 qb z)
 refine⟨⟨(h1.kept (S:=fun b=>b=qb) ⟨hk.os,hk.tape,hk.output,hs,hk.block⟩ fun b q e=>h4 (e▸q)).mono (fun _ q=>q) (Nat.le_refl _) fun b q=>⟨(hl b q).1,by have:=(hl b q).2;omega⟩,⟨x',ys',ma',mc',hq,rfl,rfl⟩,fun b q z=> ?_,h4,fun b q=> ?_,fun b q=>Or.inl (h6 b q),by omega⟩,hk.below h7 fun b hb e=>by omega,fun b q=>hk.block b (h5 b q).1 (h5 b q).2.2.1⟩
 ·rcases z with z|z
  ·exact h3 b q z
  ·have:=(hl b q).2
   omega
 ·obtain⟨q1,q2,q3,q4⟩:=h5 b q
  exact⟨by omega,q2,q3,fun z=>z.elim q4 fun z=>by omega⟩
theorem PQ.store (h:PQ B0 F pb qb name room cs cms ds dms k M D w) {q:Nat} (hF:F q) {w':World} (hk:Kee (fun b=>b=q) w w'):PQ B0 F pb qb name room cs cms ds dms k M D w':=by
 obtain⟨h1,⟨x,ys,ma,mc,h2,e1,e2⟩,h3,h4,h5,h6,h7⟩:=h
 have hs:=hk.size
 have hl:=h1.lie
 obtain⟨q1,q2,q3,q4⟩:=h5 q hF
 exact⟨(h1.kept (S:=fun b=>b=q) ⟨hk.os,hk.tape,hk.output,hs,hk.block⟩ fun b z e=>q2 (e▸z)).mono (fun _ z=>z) (Nat.le_refl _) fun b z=>⟨(hl b z).1,by have:=(hl b z).2;omega⟩,⟨x,ys,ma,mc,h2.kept hs (hk.block qb (Array.getElem?_eq_some_iff.1 h2.box).1 fun e=>q3 e.symm) (fun b e hlt=>hk.block b hlt fun z=>q4 (z▸e)) (fun _ e _=>e) h2.out,e1,e2⟩,h3,h4,fun b z=>⟨by have:=(h5 b z).1;omega,(h5 b z).2⟩,h6,by omega⟩
theorem PQ.deliverP (h:PQ B0 F pb qb name room cs cms ds dms k M D w) {n:Nat} (x:Tm (n+1)) (hx:In B0 w (n+1) x) (hN:(nodes (n+1) x).length<=2097152) (hk:k<=49000) (h20:cms.length<=999):
    Calls Tryz.prog 7 #[.pointer (some ⟨pb,0,none⟩),val (n+1) x] w fun e w'=>e=.returned (.int .i64 (fO (n+1) x room cs cms))/\Hid (∃M' D',PQ B0 F pb qb name room cs (if fO (n+1) x room cs cms=0 then cms++ [cn (n+1) x]else cms) ds dms (k+201) M' D' w'/\I8 B0 F w w'):=by
 have hl:=h.1.lie
 refine(h.1.deliver x (hx.mono h.size) (hx.offBelow.mono fun b q z=>by have:=(hl b z).1;omega) hN hk h20 h.size).mono ?_
 rintro e w' ⟨rfl,H⟩
 obtain⟨k1,k2⟩:=H.out
 exact⟨rfl,_,_,h.turnP k1 (fun b q=>q.1) k2⟩
theorem PQ.deliverQ (h:PQ B0 F pb qb name room cs cms ds dms k M D w) {n:Nat} (x:Tm (n+1)) (hx:In B0 w (n+1) x) (hN:(nodes (n+1) x).length<=2097152):
    Calls Tryz.prog 8 #[.pointer (some ⟨qb,0,none⟩),val (n+1) x] w fun e w'=>e=.returned (.int .i64 (fO (n+1) x room ds dms))/\Hid (∃M' D',PQ B0 F pb qb name room cs cms ds (if fO (n+1) x room ds dms=0 then dms++ [cn (n+1) x]else dms) k M' D' w'/\I8 B0 F w w'):=by
 have h':=h
 obtain⟨h1,⟨y,ys,ma,mc,h2,rfl,rfl⟩,h3,h4,h5,h6,h7⟩:=h
 refine(FR h2 x (hx.mono h7) (hx.offBelow.mono h6) hN).mono ?_
 rintro e w' ⟨rfl,H⟩
 obtain⟨k1,ys',ma',mc',k2,k3⟩:=H.out
 have k4:=h'.turnQ k1 k2
 rw[k3]at k4
 exact⟨rfl,_,_,k4⟩
theorem PQ.tidy (h:PQ B0 F pb qb name room cs cms ds dms k M D w) (hk:k<=50000) (h20:cms.length<=999):
    Calls Tryz.prog 13 #[.pointer (some ⟨pb,0,none⟩)] w fun e w'=>e=.returned (.tuple #[])/\Hid ((∃M' D',PQ B0 F pb qb name room cs cms ds dms k M' D' w'/\I8 B0 F w w')/\Calls Tryz.prog 14 #[.pointer (some ⟨pb,0,none⟩)] w' fun e w''=>e=.returned (.int .i64 ((cs::cms).map (sz 13)).sum)/\w''=w'):=by
 refine(h.1.tidy hk h20 h.size).mono ?_
 rintro e w' ⟨rfl,H⟩
 obtain⟨k1,k2,k3⟩:=H.out
 exact⟨rfl,⟨_,_,h.turnP k1 (fun b q=>q.1) k2⟩,k3⟩
theorem PQ.live (h:PQ B0 F pb qb name room cs cms ds dms k M D w):Calls Tryz.prog 15 #[.pointer (some ⟨qb,0,none⟩)] w fun e w'=>e=.returned (.int .i64 ((ds::dms).map (sz 13)).sum)/\Below w.heap.size w w':=by
 obtain⟨h1,⟨y,ys,ma,mc,h2,rfl,rfl⟩,_⟩:=h
 have e:((cn 13 y::ys.map (cn 13)).map (sz 13)).sum=((y::ys).map (sz 13)).sum:=lK (l:=y::ys) fun z hz=>(h2.ok z hz).1
 rw[e]
 exact FD h2
end
theorem xy (a b:Option Addr) (c d:Nat) (len:Nat) (w:World) (hlen:len<=9223372036854775807)
    (HC:Hid (∀i,i<len->∃g g' k,(a=some ⟨g,0,none⟩/\b=some ⟨g',0,none⟩)/\w.cell? ⟨g,i,none⟩=some (.int .i64 k)/\w.cell? ⟨g',i,none⟩=some (.int .i64 k))):
    Calls Tryz.prog 45 #[.slice a len c,.slice b len d] w fun e w'=>e=.returned (.bool true)/\Below w.heap.size w w':=by
 go_enter Tryz.func45,Tryz.ntmps45
 go_wp2_with fail
 go_loopw [13] (fun i wr=>∃j:Nat,j<=len/\i=.int .i64 j/\Hid (Below w.heap.size w wr)) (fun i _=>len-(intOf i).toNat)
 case atStart=>exact⟨0,Nat.zero_le _,rfl,Below.refl _ _⟩
 case round=>
  obtain⟨j,hj,rfl,HB⟩:=hrel
  by_cases hjl:j<len
  ·obtain⟨g,g',k,⟨rfl,rfl⟩,c1,c2⟩:=HC.out j hjl
   have hg:=World.block_lt_of_cell? w ⟨g,j,none⟩ c1
   have hg':=World.block_lt_of_cell? w ⟨g',j,none⟩ c2
   have cc:=ag HB.out
   replace c1:=(cc _ _ hg).trans c1
   replace c2:=(cc _ _ hg').trans c2
   clear cc
   have j1:(0:Int)<=(j:Int):=by omega
   have j2:(j:Int)<(len:Int):=by omega
   have HD:Hid (Below w.heap.size w wr.drew):=HB.out.drew
   go_wp2_with fail
   go_region_held3 (fun W=>W.cell? ⟨g,j,none⟩=some (.int .i64 k)/\W.cell? ⟨g',j,none⟩=some (.int .i64 k)) (go_keep) (fail)
   go_wp2_with fail
   go_roundw
   case rel=>exact⟨j+1,by omega,by go_num,HD.out⟩
   case measure=>simp[intOf];omega
  ·obtain rfl:j=len:=by omega
   go_wp2_with fail
   go_ret
   exact⟨rfl,HB.out⟩
theorem Er (u k1 m1 k2 m2:Int) (s1 s2:ByteArray) (a1 a2:Option Addr) (l1 c1 l2 c2:Nat) (w:World)
    (HS:Hid (∀W,Below w.heap.size w W->Calls Tryz.prog 17 #[.agg #[.int .i64 k1,.int .i64 m1,.string s1,.slice a1 l1 c1],.agg #[.int .i64 k2,.int .i64 m2,.string s2,.slice a2 l2 c2]] W fun e w'=>e=.returned (.bool true)/\Below W.heap.size W w')):
    Calls Tryz.prog 42 #[.agg #[.int .i64 u,.int .i64 k1,.int .i64 m1,.string s1,.slice a1 l1 c1],.agg #[.int .i64 u,.int .i64 k2,.int .i64 m2,.string s2,.slice a2 l2 c2]] w fun e w'=>e=.returned (.bool true)/\Below w.heap.size w w':=by
 have h0:(u==u)=true:=by simp
 go_enter Tryz.func42,Tryz.ntmps42
 go_wp2_with fail
 refine(HS.out _ (((Below.refl _ _).alloc (Nat.le_refl _) _).alloc (by simp) _)).mono ?_
 rintro e w1 ⟨rfl,hb1⟩
 have HB:Hid (Below w.heap.size w w1):=(((Below.refl _ _).alloc (Nat.le_refl _) _).alloc (by simp) _).trans (hb1.mono (by simp;omega))
 clear hb1
 go_wp2_with fail
 go_ret
 exact⟨rfl,HB.out⟩
theorem zh (a b:Option Addr) (c d:Nat) (len:Nat) (w:World) (hlen:len<=9223372036854775807)
    (HC:Hid (∀j,j<len->∃(g g':Nat) (u k1 m1 k2 m2:Int) (s1 s2:ByteArray) (a1 a2:Option Addr) (l1 c1 l2 c2:Nat),(a=some ⟨g,0,none⟩/\b=some ⟨g',0,none⟩/\g<w.heap.size/\g'<w.heap.size)/\Hid ((w.cell? ⟨g,j*5,none⟩=some (.int .i64 u)/\w.cell? ⟨g,j*5+1,none⟩=some (.int .i64 k1)/\w.cell? ⟨g,j*5+2,none⟩=some (.int .i64 m1)/\w.cell? ⟨g,j*5+3,none⟩=some (.string s1)/\w.cell? ⟨g,j*5+4,none⟩=some (.slice a1 l1 c1))/\w.cell? ⟨g',j*5,none⟩=some (.int .i64 u)/\w.cell? ⟨g',j*5+1,none⟩=some (.int .i64 k2)/\w.cell? ⟨g',j*5+2,none⟩=some (.int .i64 m2)/\w.cell? ⟨g',j*5+3,none⟩=some (.string s2)/\w.cell? ⟨g',j*5+4,none⟩=some (.slice a2 l2 c2))/\Hid (∀W,Below w.heap.size w W->Calls Tryz.prog 42 #[.agg #[.int .i64 u,.int .i64 k1,.int .i64 m1,.string s1,.slice a1 l1 c1],.agg #[.int .i64 u,.int .i64 k2,.int .i64 m2,.string s2,.slice a2 l2 c2]] W fun e w'=>e=.returned (.bool true)/\Below W.heap.size W w'))):
    Calls Tryz.prog 41 #[.slice a len c,.slice b len d,.func (Fn.func 42) #[] #[]] w fun e w'=>e=.returned (.bool true)/\Below w.heap.size w w':=by
 go_enter Tryz.func41,Tryz.ntmps41
 go_wp2_with fail
 go_loopw [17] (fun i wr=>∃j:Nat,j<=len/\i=.int .i64 j/\Hid (Below w.heap.size w wr)) (fun i _=>len-(intOf i).toNat)
 case atStart=>exact⟨0,Nat.zero_le _,rfl,Below.refl _ _⟩
 case round=>
  obtain⟨j,hj,rfl,HB⟩:=hrel
  by_cases hjl:j<len
  ·obtain⟨g,g',u,k1,m1,k2,m2,s1,s2,a1,a2,l1,c1,l2,c2,⟨rfl,rfl,hg,hg'⟩,hc,HK⟩:=HC.out j hjl
   obtain⟨⟨x0,x1,x2,x3,x4⟩,y0,y1,y2,y3,y4⟩:=hc.out
   have cc:=ag HB.out
   replace x0:=(cc _ _ hg).trans x0
   replace y0:=(cc _ _ hg').trans y0
   replace x1:=(cc _ _ hg).trans x1
   replace y1:=(cc _ _ hg').trans y1
   replace x2:=(cc _ _ hg).trans x2
   replace y2:=(cc _ _ hg').trans y2
   replace x3:=(cc _ _ hg).trans x3
   replace y3:=(cc _ _ hg').trans y3
   replace x4:=(cc _ _ hg).trans x4
   replace y4:=(cc _ _ hg').trans y4
   clear cc hc
   have hgw:g<wr.heap.size:=by have:=HB.out.size;omega
   have hgw':g'<wr.heap.size:=by have:=HB.out.size;omega
   have j1:(0:Int)<=(j:Int):=by omega
   have j2:(j:Int)<(len:Int):=by omega
   go_wp2_with fail
   refine(HK.out _ (HB.out.trans (((((Below.refl _ _).alloc (Nat.le_refl _) _).alloc (by simp) _)).mono HB.out.size))).mono ?_
   rintro e w1 ⟨rfl,hb1⟩
   have HB1:Hid (Below w.heap.size w w1):=(HB.out.trans ((((Below.refl _ _).alloc (Nat.le_refl _) _).alloc (by simp) _).mono HB.out.size)).trans (hb1.mono (by have:=HB.out.size;simp;omega))
   clear hb1
   go_wp2_with fail
   go_roundw
   case rel=>exact⟨j+1,by omega,by go_num,HB1.out⟩
   case measure=>simp[intOf];omega
  ·obtain rfl:j=len:=by omega
   go_wp2_with fail
   go_ret
   exact⟨rfl,HB.out⟩
theorem EA (u k1 m1 k2 m2:Int) (nm:ByteArray) (s1 s2:ByteArray) (a1 a2:Option Addr) (l1 c1 l2 c2:Nat) (w:World)
    (HS:Hid (∀W,Below w.heap.size w W->Calls Tryz.prog 17 #[.agg #[.int .i64 k1,.int .i64 m1,.string s1,.slice a1 l1 c1],.agg #[.int .i64 k2,.int .i64 m2,.string s2,.slice a2 l2 c2]] W fun e w'=>e=.returned (.bool true)/\Below W.heap.size W w')):
    Calls Tryz.prog 44 #[.agg #[.int .i64 u,.string nm,.int .i64 k1,.int .i64 m1,.string s1,.slice a1 l1 c1],.agg #[.int .i64 u,.string nm,.int .i64 k2,.int .i64 m2,.string s2,.slice a2 l2 c2]] w fun e w'=>e=.returned (.bool true)/\Below w.heap.size w w':=by
 have h0:(u==u)=true:=by simp
 go_enter Tryz.func44,Tryz.ntmps44
 go_wp2_with fail
 refine(HS.out _ (((Below.refl _ _).alloc (Nat.le_refl _) _).alloc (by simp) _)).mono ?_
 rintro e w1 ⟨rfl,hb1⟩
 have HB:Hid (Below w.heap.size w w1):=(((Below.refl _ _).alloc (Nat.le_refl _) _).alloc (by simp) _).trans (hb1.mono (by simp;omega))
 clear hb1
 go_wp2_with fail
 go_ret
 exact⟨rfl,HB.out⟩
theorem xG (a b:Option Addr) (c d:Nat) (len:Nat) (w:World) (hlen:len<=9223372036854775807)
    (HC:Hid (∀j,j<len->∃(g g':Nat) (u k1 m1 k2 m2:Int) (nm:ByteArray) (s1 s2:ByteArray) (a1 a2:Option Addr) (l1 c1 l2 c2:Nat),(a=some ⟨g,0,none⟩/\b=some ⟨g',0,none⟩/\g<w.heap.size/\g'<w.heap.size)/\Hid ((w.cell? ⟨g,j*6,none⟩=some (.int .i64 u)/\w.cell? ⟨g,j*6+1,none⟩=some (.string nm)/\w.cell? ⟨g,j*6+2,none⟩=some (.int .i64 k1)/\w.cell? ⟨g,j*6+3,none⟩=some (.int .i64 m1)/\w.cell? ⟨g,j*6+4,none⟩=some (.string s1)/\w.cell? ⟨g,j*6+5,none⟩=some (.slice a1 l1 c1))/\w.cell? ⟨g',j*6,none⟩=some (.int .i64 u)/\w.cell? ⟨g',j*6+1,none⟩=some (.string nm)/\w.cell? ⟨g',j*6+2,none⟩=some (.int .i64 k2)/\w.cell? ⟨g',j*6+3,none⟩=some (.int .i64 m2)/\w.cell? ⟨g',j*6+4,none⟩=some (.string s2)/\w.cell? ⟨g',j*6+5,none⟩=some (.slice a2 l2 c2))/\Hid (∀W,Below w.heap.size w W->Calls Tryz.prog 44 #[.agg #[.int .i64 u,.string nm,.int .i64 k1,.int .i64 m1,.string s1,.slice a1 l1 c1],.agg #[.int .i64 u,.string nm,.int .i64 k2,.int .i64 m2,.string s2,.slice a2 l2 c2]] W fun e w'=>e=.returned (.bool true)/\Below W.heap.size W w'))):
    Calls Tryz.prog 43 #[.slice a len c,.slice b len d,.func (Fn.func 44) #[] #[]] w fun e w'=>e=.returned (.bool true)/\Below w.heap.size w w':=by
 go_enter Tryz.func43,Tryz.ntmps43
 go_wp2_with fail
 go_loopw [17] (fun i wr=>∃j:Nat,j<=len/\i=.int .i64 j/\Hid (Below w.heap.size w wr)) (fun i _=>len-(intOf i).toNat)
 case atStart=>exact⟨0,Nat.zero_le _,rfl,Below.refl _ _⟩
 case round=>
  obtain⟨j,hj,rfl,HB⟩:=hrel
  by_cases hjl:j<len
  ·obtain⟨g,g',u,k1,m1,k2,m2,nm,s1,s2,a1,a2,l1,c1,l2,c2,⟨rfl,rfl,hg,hg'⟩,hc,HK⟩:=HC.out j hjl
   obtain⟨⟨x0,x1,x2,x3,x4,x5⟩,y0,y1,y2,y3,y4,y5⟩:=hc.out
   have cc:=ag HB.out
   replace x0:=(cc _ _ hg).trans x0
   replace y0:=(cc _ _ hg').trans y0
   replace x1:=(cc _ _ hg).trans x1
   replace y1:=(cc _ _ hg').trans y1
   replace x2:=(cc _ _ hg).trans x2
   replace y2:=(cc _ _ hg').trans y2
   replace x3:=(cc _ _ hg).trans x3
   replace y3:=(cc _ _ hg').trans y3
   replace x4:=(cc _ _ hg).trans x4
   replace y4:=(cc _ _ hg').trans y4
   replace x5:=(cc _ _ hg).trans x5
   replace y5:=(cc _ _ hg').trans y5
   clear cc hc
   have hgw:g<wr.heap.size:=by have:=HB.out.size;omega
   have hgw':g'<wr.heap.size:=by have:=HB.out.size;omega
   have j1:(0:Int)<=(j:Int):=by omega
   have j2:(j:Int)<(len:Int):=by omega
   go_wp2_with fail
   refine(HK.out _ (HB.out.trans (((((Below.refl _ _).alloc (Nat.le_refl _) _).alloc (by simp) _)).mono HB.out.size))).mono ?_
   rintro e w1 ⟨rfl,hb1⟩
   have HB1:Hid (Below w.heap.size w w1):=(HB.out.trans ((((Below.refl _ _).alloc (Nat.le_refl _) _).alloc (by simp) _).mono HB.out.size)).trans (hb1.mono (by have:=HB.out.size;simp;omega))
   clear hb1
   go_wp2_with fail
   go_roundw
   case rel=>exact⟨j+1,by omega,by go_num,HB1.out⟩
   case measure=>simp[intOf];omega
  ·obtain rfl:j=len:=by omega
   go_wp2_with fail
   go_ret
   exact⟨rfl,HB.out⟩
theorem wu {α:Type} (f:α->List Value) (k:Nat) (hf:∀z,(f z).length=k):(l:List α)->(i:Nat)->(z:α)->l[i]? =some z->∀(t:Nat) (u:Value),(f z)[t]? =some u->(l.flatMap f)[i*k+t]? =some u
 | [],i,z,h,_,_,_=>by simp at h
 | x::l,0,z,h,t,u,hu=>by
  simp at h
  subst h
  rw[List.flatMap_cons,List.getElem?_append_left (by have:=(List.getElem?_eq_some_iff.1 hu).1;omega)]
  simpa using hu
 | x::l,i+1,z,h,t,u,hu=>by
  rw[List.flatMap_cons,List.getElem?_append_right (by rw[hf,Nat.succ_mul];omega),hf,show (i+1)*k+t-k=i*k+t by rw[Nat.succ_mul];omega]
  exact wu f k hf l i z (by simpa using h) t u hu
theorem oO {w:World} {base:Nat} {e:TypeId} {k:Nat} {v:Value} {n:Nat} {α:Type} {f:α->List Value} {l:List α} (h:w.ownsRow base e k v n (l.flatMap f)) (hk:0<k) (hf:∀z,(f z).length=k):∃a c,v=.slice a n c/\(∀b,a=some b->v.ownBlock=some b.block)/\∀(i:Nat) (z:α),l[i]? =some z->∃g,a=some ⟨g,0,none⟩/\g<w.heap.size/\∀(t:Nat) (u:Value),(f z)[t]? =some u->w.cell? ⟨g,i*k+t,none⟩=some u:=by
 have h':=h
 rcases h.2 with⟨rfl,e0⟩|⟨g,c,cur,rfl,h0,hg,hr⟩
 ·refine⟨none,0,by rw[e0],(fun b e=>by cases e),fun i z hz=> ?_⟩
  have h1:=wu f k hf l i z hz 0 _ (List.getElem?_eq_getElem (by rw[hf];exact hk))
  have h2:=(List.getElem?_eq_some_iff.1 h1).1
  have h3:=h.1
  rw[e0,Nat.zero_mul]at h3
  omega
 ·refine⟨_,c,rfl,(fun b e=>by cases e;rfl),fun i z hz=>⟨g,rfl,(Array.getElem?_eq_some_iff.1 hg).1,fun t u hu=> ?_⟩⟩
  have h5:=World.ownsRow.cells h' (g:=g) rfl _ _ (wu f k hf l i z hz t u hu)
  rwa [show∀j,(⟨g,0,none⟩:Addr).add j=⟨g,j,none⟩from fun j=>by cases j<;>simp[Addr.add]]at h5
theorem pq (y0 y1 z0 z1 f:Int) (y2 z2:ByteArray) (ya za sa sb pa pb ka kb:Option Addr) (yl yc zl zc sl sc sd pl pc pd kl kc kd:Nat) (w:World)
    (HS:Hid (∀W,Below w.heap.size w W->Calls Tryz.prog 41 #[.slice sa sl sc,.slice sb sl sd,.func (Fn.func 42) #[] #[]] W fun e w'=>e=.returned (.bool true)/\Below W.heap.size W w'))
    (HP:Hid (∀W,Below w.heap.size w W->Calls Tryz.prog 43 #[.slice pa pl pc,.slice pb pl pd,.func (Fn.func 44) #[] #[]] W fun e w'=>e=.returned (.bool true)/\Below W.heap.size W w'))
    (HM:Hid (∀W,Below w.heap.size w W->Calls Tryz.prog 17 #[.agg #[.int .i64 y0,.int .i64 y1,.string y2,.slice ya yl yc],.agg #[.int .i64 z0,.int .i64 z1,.string z2,.slice za zl zc]] W fun e w'=>e=.returned (.bool true)/\Below W.heap.size W w'))
    (HL:Hid (∀W,Below w.heap.size w W->Calls Tryz.prog 45 #[.slice ka kl kc,.slice kb kl kd] W fun e w'=>e=.returned (.bool true)/\Below W.heap.size W w')):
    Calls Tryz.prog 12 #[.agg #[.int .i64 y0,.int .i64 y1,.string y2,.slice ya yl yc,.int .i64 f,.slice sa sl sc,.slice pa pl pc,.slice ka kl kc],.agg #[.int .i64 z0,.int .i64 z1,.string z2,.slice za zl zc,.int .i64 f,.slice sb sl sd,.slice pb pl pd,.slice kb kl kd]] w fun e w'=>e=.returned (.bool true)/\Below w.heap.size w w':=by
 have h0:(f==f)=true:=by simp
 go_enter Tryz.func12,Tryz.ntmps12
 go_upto_region 1 with fail
 obtain⟨w0,q,hw0,hq,HB0,HX0⟩:∃(w0:World) (q:Nat),w0=(w.alloc (.cells #[.int .i64 y0,.int .i64 y1,.string y2,.slice ya yl yc,.int .i64 f,.slice sa sl sc,.slice pa pl pc,.slice ka kl kc] 50)).alloc (.cells #[.int .i64 z0,.int .i64 z1,.string z2,.slice za zl zc,.int .i64 f,.slice sb sl sd,.slice pb pl pd,.slice kb kl kd] 43)/\q=w.heap.size/\Hid (Below w.heap.size w w0)/\Hid (w0.heap[q]? =some (.cells #[.int .i64 y0,.int .i64 y1,.string y2,.slice ya yl yc,.int .i64 f,.slice sa sl sc,.slice pa pl pc,.slice ka kl kc] 50)/\w0.heap[q+1]? =some (.cells #[.int .i64 z0,.int .i64 z1,.string z2,.slice za zl zc,.int .i64 f,.slice sb sl sd,.slice pb pl pd,.slice kb kl kd] 43)):=by
  refine⟨_,_,rfl,rfl,((Below.refl _ _).alloc (Nat.le_refl _) _).alloc (by simp) _, ?_, ?_⟩
  ·exact(heap_alloc_old _ _ (by simp)).trans (heap_alloc_new _ _)
  ·have:=heap_alloc_new (w.alloc (.cells #[.int .i64 y0,.int .i64 y1,.string y2,.slice ya yl yc,.int .i64 f,.slice sa sl sc,.slice pa pl pc,.slice ka kl kc] 50)) (.cells #[.int .i64 z0,.int .i64 z1,.string z2,.slice za zl zc,.int .i64 f,.slice sb sl sd,.slice pb pl pd,.slice kb kl kd] 43)
   rwa [show (w.alloc (.cells #[.int .i64 y0,.int .i64 y1,.string y2,.slice ya yl yc,.int .i64 f,.slice sa sl sc,.slice pa pl pc,.slice ka kl kc] 50)).heap.size=w.heap.size+1 by simp]at this
 rw[<-hw0,<-hq]
 clear hw0 hq
 obtain⟨x0,x1,x2,x3,x4,x5,x6,x7⟩:=uf HX0.out.1
 obtain⟨u0,u1,u2,u3,u4,u5,u6,u7⟩:=uf HX0.out.2
 go_wp2_with fail
 refine(HS.out _ HB0.out).mono ?_
 rintro e w1 ⟨rfl,hb⟩
 have HB1:=hide (HB0.out.trans (hb.mono HB0.out.size))
 have HX1:=hide (⟨bC hb HX0.out.1,bC hb HX0.out.2⟩:_/\_)
 clear hb x0 u0 x1 u1 x2 u2 x3 u3 x4 u4 x5 u5 x6 u6 x7 u7
 obtain⟨x0,x1,x2,x3,x4,x5,x6,x7⟩:=uf HX1.out.1
 obtain⟨u0,u1,u2,u3,u4,u5,u6,u7⟩:=uf HX1.out.2
 go_wp2_with fail
 refine(HP.out _ HB1.out).mono ?_
 rintro e w2 ⟨rfl,hb⟩
 have HB2:=hide (HB1.out.trans (hb.mono HB1.out.size))
 have HX2:=hide (⟨bC hb HX1.out.1,bC hb HX1.out.2⟩:_/\_)
 clear hb x0 u0 x1 u1 x2 u2 x3 u3 x4 u4 x5 u5 x6 u6 x7 u7
 obtain⟨x0,x1,x2,x3,x4,x5,x6,x7⟩:=uf HX2.out.1
 obtain⟨u0,u1,u2,u3,u4,u5,u6,u7⟩:=uf HX2.out.2
 go_wp2_with fail
 refine(HM.out _ HB2.out).mono ?_
 rintro e w3 ⟨rfl,hb⟩
 have HB3:=hide (HB2.out.trans (hb.mono HB2.out.size))
 have HX3:=hide (⟨bC hb HX2.out.1,bC hb HX2.out.2⟩:_/\_)
 clear hb x0 u0 x1 u1 x2 u2 x3 u3 x4 u4 x5 u5 x6 u6 x7 u7
 obtain⟨x0,x1,x2,x3,x4,x5,x6,x7⟩:=uf HX3.out.1
 obtain⟨u0,u1,u2,u3,u4,u5,u6,u7⟩:=uf HX3.out.2
 go_wp2_with fail
 refine(HL.out _ HB3.out).mono ?_
 rintro e w4 ⟨rfl,hb⟩
 have HB4:=hide (HB3.out.trans (hb.mono HB3.out.size))
 have HX4:=hide (⟨bC hb HX3.out.1,bC hb HX3.out.2⟩:_/\_)
 clear hb x0 u0 x1 u1 x2 u2 x3 u3 x4 u4 x5 u5 x6 u6 x7 u7
 go_wp2_with fail
 go_ret
 exact⟨rfl,HB4.out⟩
theorem qO {n m:Nat} {x:Tm n} {y:Tm m} {w:World} (hx:In w.heap.size w n x) (hy:In w.heap.size w m y) (h1:aP n x=0) (h2:aP m y=0) (h:cn n x=cn m y):∀W,Below w.heap.size w W->Calls Tryz.prog 17 #[val n x,val m y] W fun e w'=>e=.returned (.bool true)/\Below W.heap.size W w':=fun W hW=>by
 have k:=jK n x m y W.heap.size W ((hx.below hW).mono hW.size) ((hy.below hW).mono hW.size) (Nat.le_refl _)
 rw[rF h1 h2 h]at k
 exact k
theorem vE {w:World} {base:Nat} {e:TypeId} {k:Nat} {v:Value} {n:Nat} {xs:List Value} (h:w.ownsRow base e k v n xs):n<=9223372036854775807:=by
 rcases h.2 with⟨_,rfl⟩|⟨g,c,cur,_,_,_,h1,h2,_⟩
 ·exact Nat.zero_le _
 ·exact Nat.le_trans h1 h2
theorem Gu {α β γ:Type} {f:α->γ} {g:β->γ} {l:List α} {r:List β} (h:l.map f=r.map g) {j:Nat} (hj:j<l.length):∃x y,l[j]? =some x/\r[j]? =some y/\f x=g y:=by
 have hl:l.length=r.length:=by
  have:=congrArg List.length h
  simpa using this
 refine⟨l[j],r[j]'(by omega),List.getElem?_eq_getElem _,List.getElem?_eq_getElem _, ?_⟩
 have h2:=congrArg (fun z=>z[j]?) h
 simp only[List.getElem?_map,List.getElem?_eq_getElem hj,List.getElem?_eq_getElem (show j<r.length by omega),Option.map_some,Option.some.injEq]at h2
 exact h2
def Ju (av bv:Array Value) (w:World):Prop:=∀W,Below w.heap.size w W->Calls Tryz.prog 12 #[.agg av,.agg bv] W fun e w'=>e=.returned (.bool true)/\Below W.heap.size W w'
theorem cells5 {w:World} {g o:Nat} {v0 v1 v2 v3 v4:Value} (h:∀(t:Nat) (u:Value),[v0,v1,v2,v3,v4][t]? =some u->w.cell? ⟨g,o+t,none⟩=some u):w.cell? ⟨g,o,none⟩=some v0/\w.cell? ⟨g,o+1,none⟩=some v1/\w.cell? ⟨g,o+2,none⟩=some v2/\w.cell? ⟨g,o+3,none⟩=some v3/\w.cell? ⟨g,o+4,none⟩=some v4:=⟨h 0 _ rfl,h 1 _ rfl,h 2 _ rfl,h 3 _ rfl,h 4 _ rfl⟩
theorem EZ {w:World} {g o:Nat} {v0 v1 v2 v3 v4 v5:Value} (h:∀(t:Nat) (u:Value),[v0,v1,v2,v3,v4,v5][t]? =some u->w.cell? ⟨g,o+t,none⟩=some u):w.cell? ⟨g,o,none⟩=some v0/\w.cell? ⟨g,o+1,none⟩=some v1/\w.cell? ⟨g,o+2,none⟩=some v2/\w.cell? ⟨g,o+3,none⟩=some v3/\w.cell? ⟨g,o+4,none⟩=some v4/\w.cell? ⟨g,o+5,none⟩=some v5:=⟨h 0 _ rfl,h 1 _ rfl,h 2 _ rfl,h 3 _ rfl,h 4 _ rfl,h 5 _ rfl⟩
theorem Dc {y z:Tc} {f:Int} {b0 b1:Nat} {D P:Nat->Prop} {sends:List (Int×Tc)} {spawns:List (Int×ByteArray×Tc)} {links:List Int} {sa:Option Addr} {sl sc:Nat} {pa:Option Addr} {pl pc:Nat} {ka:Option Addr} {kl kc:Nat} {sv pv lv:Value} {w:World}
    (h1:TkRows b0 sends spawns links sa sl sc pa pl pc ka kl kc P w) (h2:DkRows b1 D sends spawns links sv pv lv w) (hy:aP 13 y=0/\In w.heap.size w 13 y) (hz:aP 13 z=0/\In w.heap.size w 13 z) (he:cn 13 y=cn 13 z):
    Ju #[.int .i64 y.1.1,.int .i64 y.1.2.1,.string y.1.2.2,.slice y.2.1.1 y.2.2.length y.2.1.2,.int .i64 f,.slice sa sl sc,.slice pa pl pc,.slice ka kl kc] (fU z f sv pv lv) w:=by
 obtain⟨N,sd,sp,⟨l1,l2,l3⟩,r1,r2,r3,e1,e2,i1,i2,_⟩:=h1
 obtain⟨N',sd',sp',r1',r2',r3',e1',e2',i1',i2'⟩:=h2
 have m1:sd.map (fun z=>(z.1,cn _ z.2))=sd'.map (fun z=>(z.1,cn _ z.2)):=e1.trans e1'.symm
 have m2:sp.map (fun z=>(z.1,z.2.1,cn _ z.2.2))=sp'.map (fun z=>(z.1,z.2.1,cn _ z.2.2)):=e2.trans e2'.symm
 have n1:sd'.length=sl:=by have:=congrArg List.length m1;simp at this;omega
 have n2:sp'.length=pl:=by have:=congrArg List.length m2;simp at this;omega
 rw[n1]at r1'
 rw[n2]at r2'
 rw[l3]at r3'
 have hl1:=vE r1
 have hl2:=vE r2
 have hl3:=vE r3
 obtain⟨a1,c1,q1,_,k1⟩:=oO r1 (by decide) (fun _=>rfl)
 obtain⟨a2,c2,q2,_,k2⟩:=oO r2 (by decide) (fun _=>rfl)
 obtain⟨a1',c1',rfl,_,k1'⟩:=oO r1' (by decide) (fun _=>rfl)
 obtain⟨a2',c2',rfl,_,k2'⟩:=oO r2' (by decide) (fun _=>rfl)
 have r3s:w.ownsRow b0 3 1 (.slice ka kl kc) kl (links.flatMap fun u=> [.int .i64 u]):=by rw[<-List.map_eq_flatMap];exact r3
 have r3t:w.ownsRow b1 3 1 lv kl (links.flatMap fun u=> [.int .i64 u]):=by rw[<-List.map_eq_flatMap];exact r3'
 obtain⟨a3,c3,q3,_,k3⟩:=oO r3s (by decide) (fun _=>rfl)
 obtain⟨a3',c3',rfl,_,k3'⟩:=oO r3t (by decide) (fun _=>rfl)
 injection q1 with q1 _ q1'
 injection q2 with q2 _ q2'
 injection q3 with q3 _ q3'
 subst q1 q1' q2 q2' q3 q3'
 intro W hW
 unfold fU
 refine pq y.1.1 y.1.2.1 z.1.1 z.1.2.1 f y.1.2.2 z.1.2.2 y.2.1.1 z.2.1.1 sa a1' pa a2' ka a3' y.2.2.length y.2.1.2 z.2.2.length z.2.1.2 sl sc c1' pl pc c2' kl kc c3' W (fun W1 h1=> ?_) (fun W1 h1=> ?_) (fun W1 h1=>qO hy.2 hz.2 hy.1 hz.1 he W1 (hW.trans (h1.mono hW.size))) (fun W1 h1=> ?_)
 all_goals
  have h01:=hW.trans (h1.mono hW.size)
  have hs:=h01.size
 ·refine zh sa a1' sc c1' sl W1 hl1 fun j hj=> ?_
  obtain⟨u,u',g1,g2,g3⟩:=Gu m1 (show j<sd.length by omega)
  obtain⟨g,eg,hg,hc⟩:=k1 j u g1
  obtain⟨g',eg',hg',hc'⟩:=k1' j u' g2
  injection g3 with g3 g4
  refine⟨g,g',u.1,u.2.1.1,u.2.1.2.1,u'.2.1.1,u'.2.1.2.1,u.2.1.2.2,u'.2.1.2.2,u.2.2.1.1,u'.2.2.1.1,u.2.2.2.length,u.2.2.1.2,u'.2.2.2.length,u'.2.2.1.2,⟨eg,eg',by omega,by omega⟩,⟨cells5 fun t v ht=>(h01.cell (p:=⟨g,j*5+t,none⟩) hg).trans (hc t v ht),cells5 fun t v ht=>(h01.cell (p:=⟨g',j*5+t,none⟩) hg').trans (hc' t v (by rw[<-g3];exact ht))⟩,fun W2 h2=>Er _ _ _ _ _ _ _ _ _ _ _ _ _ W2 fun W3 h3=> ?_⟩
  obtain⟨c1,c2,_⟩:=i1 u (List.mem_of_getElem? g1)
  obtain⟨d1,d2,_⟩:=i1' u' (List.mem_of_getElem? g2)
  exact qO c2 d2 c1 d1 g4 W3 (h01.trans ((h2.trans (h3.mono h2.size)).mono hs))
 ·refine xG pa a2' pc c2' pl W1 hl2 fun j hj=> ?_
  obtain⟨u,u',g1,g2,g3⟩:=Gu m2 (show j<sp.length by omega)
  obtain⟨g,eg,hg,hc⟩:=k2 j u g1
  obtain⟨g',eg',hg',hc'⟩:=k2' j u' g2
  injection g3 with g3 g4
  injection g4 with g4 g5
  refine⟨g,g',u.1,u.2.2.1.1,u.2.2.1.2.1,u'.2.2.1.1,u'.2.2.1.2.1,u.2.1,u.2.2.1.2.2,u'.2.2.1.2.2,u.2.2.2.1.1,u'.2.2.2.1.1,u.2.2.2.2.length,u.2.2.2.1.2,u'.2.2.2.2.length,u'.2.2.2.1.2,⟨eg,eg',by omega,by omega⟩,⟨EZ fun t v ht=>(h01.cell (p:=⟨g,j*6+t,none⟩) hg).trans (hc t v ht),EZ fun t v ht=>(h01.cell (p:=⟨g',j*6+t,none⟩) hg').trans (hc' t v (by rw[<-g3,<-g4];exact ht))⟩,fun W2 h2=>EA _ _ _ _ _ _ _ _ _ _ _ _ _ _ W2 fun W3 h3=> ?_⟩
  obtain⟨c1,c2,_⟩:=i2 u (List.mem_of_getElem? g1)
  obtain⟨d1,d2,_⟩:=i2' u' (List.mem_of_getElem? g2)
  exact qO c2 d2 c1 d1 g5 W3 (h01.trans ((h2.trans (h3.mono h2.size)).mono hs))
 ·refine xy ka a3' kc c3' kl W1 hl3 fun j hj=> ?_
  have hk:links[j]? =some (links[j]'(by omega)):=List.getElem?_eq_getElem _
  obtain⟨g,eg,hg,hc⟩:=k3 j _ hk
  obtain⟨g',eg',hg',hc'⟩:=k3' j _ hk
  have v1:=hc 0 _ rfl
  have v2:=hc' 0 _ rfl
  simp only[Nat.mul_one,Nat.add_zero]at v1 v2
  exact⟨g,g',_,⟨eg,eg'⟩,(h01.cell (p:=⟨g,j,none⟩) hg).trans v1,(h01.cell (p:=⟨g',j,none⟩) hg').trans v2⟩
theorem lS (w:World):Ju #[.int .i64 0,.int .i64 0,.string ⟨#[]⟩,.slice none 0 0,.int .i64 0,.slice none 0 0,.slice none 0 0,.slice none 0 0] #[.int .i64 0,.int .i64 0,.string ⟨#[]⟩,.slice none 0 0,.int .i64 0,.slice none 0 0,.slice none 0 0,.slice none 0 0] w:=by
 intro W hW
 refine pq 0 0 0 0 0 ⟨#[]⟩ ⟨#[]⟩ none none none none none none none none 0 0 0 0 0 0 0 0 0 0 0 0 0 W (fun W1 h1=> ?_) (fun W1 h1=> ?_) (fun W1 h1=> ?_) (fun W1 h1=> ?_)
 ·exact zh none none 0 0 0 W1 (by decide) fun j hj=>absurd hj (Nat.not_lt_zero _)
 ·exact xG none none 0 0 0 W1 (by decide) fun j hj=>absurd hj (Nat.not_lt_zero _)
 ·have k:=jK 1 ((((0,0,⟨#[]⟩),(none,0),[]):Tm 1)) 1 ((((0,0,⟨#[]⟩),(none,0),[]):Tm 1)) W1.heap.size W1 ?_ ?_ (Nat.le_refl _)
  ·rw[show same 1 ((((0,0,⟨#[]⟩),(none,0),[]):Tm 1)) 1 ((((0,0,⟨#[]⟩),(none,0),[]):Tm 1))=true by simp[same,aj]]at k
   exact k
  all_goals exact⟨⟨by unfold dZ;decide,by unfold dZ;decide,by decide,by decide,by decide⟩,Or.inl rfl⟩
 ·exact xy none none 0 0 0 W1 (by decide) fun j hj=>absurd hj (Nat.not_lt_zero _)
section
variable {B0:Nat} {F:Nat->Prop} {pb qb:Nat} {name:ByteArray} {room:Int} {cs ds:Tc} {cms dms:List Tc} {k:Nat} {M D:Nat->Prop} {w:World}
def QTold (B0:Nat) (F:Nat->Prop) (pb qb:Nat) (name:ByteArray) (room:Int) (cs:Tc) (cms:List Tc) (k:Nat) (M:Nat->Prop) (lo:Nat) (tk:Tk) (z:Tc) (sv pv lv:Value) (w':World):Prop:=
 ∃D',(cn 13 z=tk.message/\aP 13 z=0)/\(In w'.heap.size w' 13 z/\Off D' 13 z)/\PQ B0 F pb qb name room cs cms tk.state tk.mail k M D' w'/\DkRows lo D' tk.sends tk.spawns tk.links sv pv lv w'/\∀b,M b->b<lo
theorem PQ.stepQ (h:PQ B0 F pb qb name room cs cms ds dms k M D w) {n:Nat} (l:List (Bh (n+1))) (la:Option Addr) (lc:Nat) (hl:PgIn (n+1) B0 w la l) (hE:oQ n l=0) {self next:Int} (hs:1<=self/\self<=99) (hn:1<=next/\next<=92):
    Calls Tryz.prog 10 #[.pointer (some ⟨qb,0,none⟩),.slice la l.length lc,.int .i64 self,.int .i64 next] w fun e w'=>
     (gH room l name self next ds dms=none->e=.returned (.tuple #[.agg #[.int .i64 0,.int .i64 0,.string ⟨#[]⟩,.slice none 0 0,.int .i64 0,.slice none 0 0,.slice none 0 0,.slice none 0 0],.int .i64 4])/\Below w.heap.size w w')/\
     ∀tk,gH room l name self next ds dms=some tk->∃z sv pv lv,e=.returned (.tuple #[.agg (fU z tk.fate sv pv lv),.int .i64 0])/\Hid (QTold B0 F pb qb name room cs cms k M w.heap.size tk z sv pv lv w'/\I8 B0 F w w'):=by
 have h':=h
 obtain⟨h1,⟨x,ys,ma,mc,h2,rfl,rfl⟩,h3,h4,h5,h6,h7⟩:=h
 refine(Km h2 l la lc B0 hl h7 hE h6 hs hn).mono ?_
 rintro e w' (⟨rfl,H⟩|⟨z,tk,sv,pv,lv,rfl,H⟩)
 ·exact⟨fun _=>⟨rfl,H.out.2⟩,fun tk ht=>by rw[H.out.1]at ht;cases ht⟩
 ·obtain⟨a1,⟨a2,a3,a4⟩,a5,⟨x',ys',ma',mc',a6,a7,a8⟩,a9⟩:=H.out
  refine⟨(fun ht=>by rw[a1]at ht;cases ht),fun tk' ht=> ?_⟩
  rw[a1]at ht
  obtain rfl:=Option.some.inj ht
  obtain⟨g1,g2⟩:=h'.turnQ a5 a6
  rw[a7,a8]at g1
  exact⟨z,sv,pv,lv,rfl,⟨_,⟨a2,a3⟩,a4,g1,a9,fun b q=>(h1.lie b q).2⟩,g2⟩
theorem QTold.store {lo:Nat} {tk:Tk} {z:Tc} {sv pv lv:Value} (h:QTold B0 F pb qb name room cs cms k M lo tk z sv pv lv w) {q:Nat} (hF:F q) {c:Array Value} (hc:w.heap[q]? =some (.cells c 43)) {w':World} (hk:Kee (fun b=>b=q) w w'):QTold B0 F pb qb name room cs cms k M lo tk z sv pv lv w':=by
 obtain⟨D',a1,a2,a3,a4,a5⟩:=h
 have hd:¬D' q:=(a3.2.2.2.2.1 q hF).2.2.2
 refine⟨D',a1,dn hk.size (fun b e hl=>hk.block b hl fun z=>hd (z▸e)) (fun _ e _=>e) a2,a3.store hF hk,a4.kept (Nat.le_refl _) hk (fun b e _ z=>hd (z▸e)) (fun _ e _=>e) fun b e _ _=> ?_,a5⟩
 rw[e]
 exact⟨c,_,_,hc,by decide,by decide,by decide⟩
theorem PQ.stepP0 (h:PQ B0 F pb qb name room cs cms ds dms k M D w) {n:Nat} (l:List (Bh (n+1))) (la:Option Addr) (lc:Nat) (hl:PgIn (n+1) B0 w la l) (hlc:l.length<=lc) (hmx:lc<=maxLen) (hN:og (n+1) l=true->(nodes (n+6) (dx n l)).length<=2097152) (hk:k<=47000) (h20:cms.length<=999) (self next:Int) (hE:kV n room l name self next cs cms≠0):
    Calls Tryz.prog 11 #[.pointer (some ⟨pb,0,none⟩),.slice la l.length lc,.int .i64 self,.int .i64 next] w fun e w'=>e=.returned (.tuple #[GV,.int .i64 (kV n room l name self next cs cms)])/\Below w.heap.size w w':=by
 have hll:=h.1.lie
 have h5:=h.size
 refine(h.1.step l la lc B0 hl h5 hlc hmx hN (fun W hW=>hl.below (hW.below h5 fun b hb q=>by have:=(hll b q).1;omega)) h5 hk h20 self next).mono ?_
 rintro e w' (⟨u,rfl,H⟩|⟨y,f,sa,sl,sc,qa,pl,pc,ka,kl,kc,rfl,H⟩)
 ·obtain⟨u1,u2,u3⟩:=H.out
  exact⟨by rw[u2],u3⟩
 ·obtain⟨tk,L,a1,_⟩:=H.out
  exact absurd a1 hE
theorem QTold.stepP {lo:Nat} {tk:Tk} {z:Tc} {sv pv lv:Value} (h:QTold B0 F pb qb name room cs cms k M lo tk z sv pv lv w) {n:Nat} (l:List (Bh (n+1))) (la:Option Addr) (lc:Nat) (hl:PgIn (n+1) B0 w la l) (hlc:l.length<=lc) (hmx:lc<=maxLen) (hN:og (n+1) l=true->(nodes (n+6) (dx n l)).length<=2097152) (hk:k<=47000) (h20:cms.length<=999) (self next:Int) (hE:kV n room l name self next cs cms=0) (hC:gH room l name self next cs cms=some tk):
    Calls Tryz.prog 11 #[.pointer (some ⟨pb,0,none⟩),.slice la l.length lc,.int .i64 self,.int .i64 next] w fun e w'=>∃(y:Tc) (sa:Option Addr) (sl sc:Nat) (pa:Option Addr) (pl pc:Nat) (ka:Option Addr) (kl kc:Nat),e=.returned (.tuple #[.agg #[.int .i64 y.1.1,.int .i64 y.1.2.1,.string y.1.2.2,.slice y.2.1.1 y.2.2.length y.2.1.2,.int .i64 tk.fate,.slice sa sl sc,.slice pa pl pc,.slice ka kl kc],.int .i64 0])/\
     Hid (Ju #[.int .i64 y.1.1,.int .i64 y.1.2.1,.string y.1.2.2,.slice y.2.1.1 y.2.2.length y.2.1.2,.int .i64 tk.fate,.slice sa sl sc,.slice pa pl pc,.slice ka kl kc] (fU z tk.fate sv pv lv) w'/\(∃M' D',PQ B0 F pb qb name room tk.state tk.mail tk.state tk.mail (k+402) M' D' w'/\I8 B0 F w w')/\tk.mail.length<=cms.length):=by
 obtain⟨D',⟨z1,z2⟩,z3,hq,hr,hlo⟩:=h
 have hll:=hq.1.lie
 have h5:=hq.size
 have hMD:=hq.2.2.1
 refine(hq.1.step l la lc B0 hl h5 hlc hmx hN (fun W hW=>hl.below (hW.below h5 fun b hb q=>by have:=(hll b q).1;omega)) h5 hk h20 self next).mono ?_
 rintro e w' (⟨u,rfl,H⟩|⟨y,f,sa,sl,sc,qa,pl,pc,ka,kl,kc,rfl,H⟩)
 ·obtain⟨u1,u2,u3⟩:=H.out
  exact absurd (u2.trans hE) u1
 ·obtain⟨tk',L,a1,a2,rfl,a4,a5,a6,a7,a8,a9,a10,a11,a12⟩:=H.out
  rw[hC]at a2
  obtain rfl:=Option.some.inj a2
  have hkk:Kee M w w':=⟨a8.os,a8.tape,a8.output,a8.size,a8.block⟩
  refine⟨y,sa,sl,sc,qa,pl,pc,ka,kl,kc,rfl,Dc a12 (hr.kept (D':=D') (Nat.le_refl _) hkk (fun b e _ q=>hMD b q e) (fun _ e _=>e) fun b q q2 _=>absurd (hlo b q) (by omega)) ⟨a5,a6⟩ ⟨z2,(dn (D':=D') hkk.size (fun b e hl=>hkk.block b hl fun q=>hMD b q e) (fun _ e _=>e) z3).1⟩ (a4.trans z1.symm),⟨_,_,hq.turnP a8 (fun b q=>q.1.imp id fun q=>by omega) a10⟩,a11⟩
end
theorem Gz {n:Nat} {room:Int} {l:List (Bh (n+1))} {name:ByteArray} {self next:Int} {s:Tc} {ms:List Tc} (h:oQ n l≠0):kV n room l name self next s ms=oQ n l:=if_pos h
theorem zi {n:Nat} {room:Int} {l:List (Bh (n+1))} {name:ByteArray} {self next:Int} {s:Tc} {ms:List Tc} (h:oQ n l=0) (h2:eZ self 1 99=false∨eZ next 1 92=false):kV n room l name self next s ms=1:=by
 unfold kV
 rw[if_neg (fun z=>z h),if_pos]
 simp only[eZ,Bool.and_eq_false_iff]at h2
 simp only[Bool.and_eq_false_iff]
 rcases h2 with(h|h)|h|h
 ·exact Or.inl (Or.inl (Or.inl h))
 ·exact Or.inl (Or.inl (Or.inr h))
 ·exact Or.inl (Or.inr h)
 ·exact Or.inr h
theorem G5 {n:Nat} {room:Int} {l:List (Bh (n+1))} {name:ByteArray} {self next:Int} {s:Tc} {ms:List Tc} (h:oQ n l=0) (h2:eZ self 1 99=true) (h3:eZ next 1 92=true):kV n room l name self next s ms=if (gH room l name self next s ms).isSome then 0 else 4:=by
 unfold kV
 rw[if_neg (fun z=>z h),if_neg]
 simp only[eZ,Bool.and_eq_true]at h2 h3
 simp[h2.1,h2.2,h3.1,h3.2]
end Go.Proofs.YtbknffhilfoakaaGreat
