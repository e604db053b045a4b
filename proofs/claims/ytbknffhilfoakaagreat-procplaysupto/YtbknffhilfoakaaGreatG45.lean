/- What is proved here: clerklaw.ProcPlays of what lies in memory returns true, and turns no memory that was there. Condition: at most 2097152 terms in each of the terms handed in, and in the program as it is told. -/
import Derived.Test.YtbknffhilfoakaaGreatG39
import Derived.Test.YtbknffhilfoakaaGreatG43
import Derived.Test.YtbknffhilfoakaaGreatG44
namespace Go.Proofs.YtbknffhilfoakaaGreat
open Go.RowKit Go.Maps
set_option maxHeartbeats 8000000
set_option maxRecDepth 100000
def PX (B0 pb qb:Nat) (name:ByteArray) (room:Int) (k:Nat) (w9 wr:World):Prop:=
 ∃cs cms M D,PQ B0 (fun _=>False) pb qb name room cs cms cs cms k M D wr/\cms.length<=20/\Below B0 w9 wr
def PXC (B0 pb qb:Nat) (name:ByteArray) (room:Int) (k q1:Nat) (o:Obj) (w9 wr:World):Prop:=
 ∃cs cms M D,PQ B0 (fun b=>b=q1) pb qb name room cs cms cs cms k M D wr/\cms.length<=20/\Below B0 w9 wr/\wr.heap[q1]? =some o
theorem PX.start {name:ByteArray} {room:Int} {n:Nat} {x:Tm (n+1)} {w9 w10 w11 w12:World} {pb qb:Nat} (h1:Below w9.heap.size w9 w10) (hc:aP (n+1) x=0) (h2:P1 w9.heap.size pb name room (cn (n+1) x) [] 201 (fun b=>w9.heap.size<=b/\b<w10.heap.size) w10) (h3:Below w10.heap.size w10 w11) (hq:w10.heap.size<=qb) (h4:∀D:Nat->Prop,(∀b,b<w9.heap.size->D b)->QA qb name room (lift 13 (n+1) x) [] none 0 (fun b=>D b/\b≠qb) w11) (h5:Below w11.heap.size w11 w12):PX w9.heap.size pb qb name room 201 w9 w12:=by
 have s1:=h1.size
 have s2:=h3.size
 have e:cn 13 (lift 13 (n+1) x)=cn (n+1) x:=gq (fJ 13 (n+1) x (ax.2 (aN.1 hc).1) (by have:=(aN.1 hc).2.1;omega))
 have hQ:=h4 (fun b=>b<w9.heap.size) fun _ q=>q
 have hQ2:QA qb name room (lift 13 (n+1) x) [] none 0 (fun b=>b<w9.heap.size) w11:=hQ.kept (Nat.le_refl _) rfl (fun _ _ _=>rfl) (fun b q _=>q.1) (by omega)
 have hP:PQ w9.heap.size (fun _=>False) pb qb name room (cn (n+1) x) [] (cn (n+1) x) [] 201 (fun b=>w9.heap.size<=b/\b<w10.heap.size) (fun b=>b<w9.heap.size) w11:=⟨h2.later h3,⟨_,_,_,_,hQ2,e,rfl⟩,fun b q z=>by omega,fun q=>by omega,fun b q=>q.elim,fun _ q=>q,by omega⟩
 exact⟨_,_,_,_,hP.later h5,by simp,(h1.trans (h3.mono s1)).trans (h5.mono (by omega))⟩
theorem PX.box {B0 pb qb:Nat} {name:ByteArray} {room:Int} {k:Nat} {w9 wr:World} (h:PX B0 pb qb name room k w9 wr) (o:Obj):PXC B0 pb qb name room k wr.heap.size o w9 (wr.alloc o):=by
 obtain⟨cs,cms,M,D,h1,h2,h3⟩:=h
 have hb:Below wr.heap.size wr (wr.alloc o):=(Below.refl _ _).alloc (Nat.le_refl _) o
 exact⟨cs,cms,_,_,(h1.box hb).less fun b e=>Or.inr ⟨by omega,by subst e;simp⟩,h2,h3.trans (hb.mono h1.size),heap_alloc_new wr o⟩
theorem PXC.px {B0 pb qb:Nat} {name:ByteArray} {room:Int} {k q1:Nat} {o:Obj} {w9 wr:World} (h:PXC B0 pb qb name room k q1 o w9 wr) {j:Nat} (hj:k<=j):PX B0 pb qb name room j w9 wr:=by
 obtain⟨cs,cms,M,D,h1,h2,h3,_⟩:=h
 exact⟨cs,cms,M,D,(h1.up hj).less fun _ e=>e.elim,h2,h3⟩
theorem EU {ya yb:List Tc} {aa ab:Option Addr} {ac bc L:Nat} {w:World} (ha:Lies w.heap.size w 13 ya aa) (hb:yb=[]∨∃b o,ab=some ⟨b,o,none⟩/\b<w.heap.size/\∀(i:Nat) (y:Tc),yb[i]? =some y->Held w b (o+i*4) 13 y/\In w.heap.size w 13 y) (la:ya.length=L) (lb:yb.length=L) (hL:L<=20) (ca:∀y∈ya,aP 13 y=0) (cb:∀y∈yb,aP 13 y=0) (h:ya.map (cn 13)=yb.map (cn 13)):
    Calls Tryz.prog 19 #[.slice aa L ac,.slice ab L bc] w fun e w'=>e=.returned (.bool true)/\Below w.heap.size w w':=by
 have k:=l5 13 13 (jK 13) ya yb aa ab ac bc w.heap.size w ha hb (by omega) (by omega) (Nat.le_refl _)
 rw[qm ya yb ca cb h,la,lb]at k
 exact k
theorem G7 {w w':World} {n:Nat} {q:List (Tm n)} {a:Option Addr} (h:Lies w.heap.size w n q a) (hb:Below w.heap.size w w'):Lies w'.heap.size w' n q a:=by
 rcases h.below hb with h|⟨b,o,e,hlt,h⟩
 ·exact Or.inl h
 ·exact Or.inr ⟨b,o,e,Nat.lt_of_lt_of_le hlt hb.size,fun i y hy=>⟨(h i y hy).1,(h i y hy).2.mono hb.size⟩⟩
theorem CE {B0:Nat} {F:Nat->Prop} {pb qb:Nat} {name:ByteArray} {room:Int} {cs ds:Tc} {cms dms:List Tc} {k:Nat} {M D:Nat->Prop} {w w9:World} (h:PQ B0 F pb qb name room cs cms ds dms k M D w) {q1 q2:Nat} {o:Obj} (hF:F q2) (hb:Below B0 w9 w) (h1:w.heap[q1]? =some o) {u0 u1 u2 u3 u4 u5 u6 u7:Value} {T:TypeId} (h2:w.heap[q2]? =some (.cells #[u0,u1,u2,u3,u4,u5,u6,u7] T)) (hne:q1≠q2/\B0<=q2) (v0 v1 v2 v3 v4 v5 v6 v7:Value):
    PQ B0 F pb qb name room cs cms ds dms k M D (w.setCells q2 0 [v0,v1,v2,v3,v4,v5,v6,v7])/\(w.setCells q2 0 [v0,v1,v2,v3,v4,v5,v6,v7]).heap[q1]? =some o/\Below B0 w9 (w.setCells q2 0 [v0,v1,v2,v3,v4,v5,v6,v7])/\(w.setCells q2 0 [v0,v1,v2,v3,v4,v5,v6,v7]).heap[q2]? =some (.cells #[v0,v1,v2,v3,v4,v5,v6,v7] T):=by
 have hk:=(aJ q2 [v0,v1,v2,v3,v4,v5,v6,v7] 0 w).1
 refine⟨h.store hF hk,(hk.block q1 (Array.getElem?_eq_some_iff.1 h1).1 hne.1).trans h1,hb.trans (hk.below h.size fun b hl e=>by omega), ?_⟩
 rw[<-iG]
 simp[World.setCell,Array.getElem?_modify,h2]
theorem zF (n:Nat) (l:List (Bh (n+1))) (la:Option Addr) (len lc:Nat) (name:ByteArray) (m:Nat) (x:Tm (m+1)) (room:Int) (q:Nat) (cl:List (Pk q)) (ca:Option Addr) (clen cc:Nat) (w:World)
    (HL:Hid (PgIn (n+1) w.heap.size w la l/\l.length=len/\len<=lc/\lc<=maxLen/\(og (n+1) l=true->(nodes (n+6) (dx n l)).length<=2097152)/\Kn (n+1) 1048576 l)) (hlen:len<=1048576) (HX:Hid (In w.heap.size w (m+1) x/\(nodes (m+1) x).length<=2097152/\name.size<=9223372036854775807))
    (HC:Hid (cl.length=clen/\Lay w.heap.size w 6 (Jw q) (Di q w.heap.size w) ca cl/\∀c∈cl,(nodes (q+1) c.2).length<=2097152)) (hcl:clen<=9223372036854775807):
    Calls Tryz.prog 3 #[.slice la len lc,.string name,.agg #[.int .i64 x.1.1,.int .i64 x.1.2.1,.string x.1.2.2,.slice x.2.1.1 x.2.2.length x.2.1.2],.int .i64 room,.slice ca clen cc] w fun e w'=>e=.returned (.bool true)/\Below w.heap.size w w':=by
 go_enter Tryz.func3,Tryz.ntmps3
 go_upto_region 1 with fail
 obtain⟨w9,hw9⟩:∃w9,w9=w.alloc (.cells #[.int .i64 x.1.1,.int .i64 x.1.2.1,.string x.1.2.2,.slice x.2.1.1 x.2.2.length x.2.1.2] 25):=⟨_,rfl⟩
 rw[<-hw9]
 have HW9:Hid (Below w.heap.size w w9/\w9.heap[w.heap.size]? =some (.cells #[.int .i64 x.1.1,.int .i64 x.1.2.1,.string x.1.2.2,.slice x.2.1.1 x.2.2.length x.2.1.2] 25)):=by
  rw[hw9]
  exact⟨(Below.refl _ _).alloc (Nat.le_refl _) _,heap_alloc_new _ _⟩
 clear hw9
 have HNP:=hide (P1.new m x room name w9 HX.out.2.2 ((HX.out.1.below HW9.out.1).mono HW9.out.1.size) HX.out.2.1)
 have HNQ:Hid (∀W,Below w9.heap.size w9 W->_):=fun W hW=>KH m x room name w9.heap.size W HX.out.2.2 (((HX.out.1.below HW9.out.1).mono HW9.out.1.size).below hW) hW.size HX.out.2.1
 have HNB:Hid (ek (m+1) x room name=0->bJ name=true):=fun h=>by
  obtain⟨h1,_⟩:=Cn (n:=m+1) (x:=x) (room:=room) (name:=name)
  cases e:bJ name with
  | true=>rfl
  | false=>rw[h1 e]at h;cases h
 obtain⟨E,hE⟩:∃E,E=ek (m+1) x room name:=⟨_,rfl⟩
 rw[<-hE]at HNP HNQ HNB
 clear hE
 obtain⟨x0,x1,x2,x3⟩:=KM HW9.out.2
 go_wp2_with fail
 refine HNP.out.mono ?_
 rintro e w10 ⟨pp,rfl,H1⟩
 have hx:=bC H1.out.1 ((by exact HW9.out.2):w9.heap[w.heap.size]? =_)
 clear x0 x1 x2 x3 HNP
 obtain⟨x0,x1,x2,x3⟩:=KM hx
 have HNQ2:=hide (HNQ.out w10 H1.out.1)
 clear hx HNQ
 go_wp2_with fail
 refine HNQ2.out.mono ?_
 rintro e w11 ⟨qp,rfl,H2⟩
 have HB11:Hid (Below w.heap.size w w11):=(HW9.out.1.trans (H1.out.1.mono HW9.out.1.size)).trans (H2.out.1.mono (Nat.le_trans HW9.out.1.size H1.out.1.size))
 clear x0 x1 x2 x3 HNQ2
 by_cases hE0:E=0
 rotate_left
 ·obtain rfl:=H1.out.2.1 hE0
  have e1:(E !=E)=false:=by simp
  have e2:(E !=0)=true:=by simpa using hE0
  have e3:(E==E)=true:=by simp
  go_wp2_with fail
  go_ret
  exact⟨rfl,HB11.out⟩
 subst hE0
 obtain⟨pb,rfl,hpb,hck,hp1⟩:=H1.out.2.2 rfl
 obtain⟨qb,rfl,hqb,hq1⟩:=H2.out.2.2 rfl
 have HPS:Hid (∀w12,Below w11.heap.size w11 w12->PX w9.heap.size pb qb name room 201 w9 w12):=fun w12 h12=>PX.start H1.out.1 hck hp1 H2.out.1 hqb hq1 h12
 have HNZ:Hid (name.size<=2048):=by
  have h:=HNB.out rfl
  unfold bJ at h
  simp only[Bool.and_eq_true]at h
  have h2:=h.1
  simp only[eZ,Bool.and_eq_true,decide_eq_true_eq]at h2
  show name.size<=2048
  omega
 clear hpb hck hp1 hqb hq1 H1 H2 HNB
 by_cases h60:(60:Int)<(clen:Int)
 ·go_wp2_with fail
  go_ret
  exact⟨rfl,HB11.out⟩
 have HW9B:=hide (⟨HW9.out.1,HB11.out⟩:_/\_)
 have HPG:Hid (PgIn (n+1) w9.heap.size w9 la l):=(HL.out.1.below HW9.out.1).mono HW9.out.1.size
 have HTO:=hide (Fv n l len HL.out.2.1 HL.out.2.2.2.2.2 la lc w.heap.size w11 (HL.out.1.below HB11.out) HB11.out.size hlen HL.out.2.2.2.2.1)
 go_wp2_with fail
 refine HTO.out.mono ?_
 rintro e w12 ⟨yt,rfl,H3⟩
 have e3:val (n+6) yt=.agg #[.int .i64 yt.1.1,.int .i64 yt.1.2.1,.string yt.1.2.2,.slice yt.2.1.1 yt.2.2.length yt.2.1.2]:=rfl
 rw[e3]
 clear e3
 obtain⟨bad,hbad⟩:∃bad,bad=oQ n l:=⟨_,rfl⟩
 rw[<-hbad]
 have HBAD:=hide hbad
 have HST:Hid (∀o,PX w9.heap.size pb qb name room 201 w9 (w12.alloc o)):=fun o=>HPS.out _ (H3.out.1.trans ((Below.refl _ _).alloc (Nat.le_refl _) o |>.mono H3.out.1.size))
 clear hbad H3 HTO HPS HB11 HW9
 go_wp2_with fail
 go_loopw [62] (fun i wr=>∃j:Nat,j<=clen/\i=.int .i64 j/\Hid (PX w9.heap.size pb qb name room (201+402*j) w9 wr)) (fun i _=>clen-(intOf i).toNat)
 case atStart=>exact⟨0,Nat.zero_le _,rfl,HST.out _⟩
 case round=>
 obtain⟨j,hj,rfl,HR⟩:=hrel
 by_cases hjl:j<clen
 rotate_left
 ·obtain rfl:j=clen:=by omega
  have HB:Hid (Below w.heap.size w wr):=by
   obtain⟨cs,cms,M,D,_,_,h3⟩:=HR.out
   exact HW9B.out.1.trans (h3.mono HW9B.out.1.size)
  go_wp2_with fail
  go_ret
  exact⟨rfl,HB.out⟩
 obtain⟨c,hc⟩:∃c,cl[j]? =some c:=⟨cl[j]'(by rw[HC.out.1];exact hjl),List.getElem?_eq_getElem _⟩
 obtain⟨⟨ck,cself⟩,ct⟩:=c
 have HCM:=hide (List.mem_of_getElem? hc)
 obtain⟨lb,lo,rfl,hlb,HCC⟩:∃b o,ca=some ⟨b,o,none⟩/\b<w.heap.size/\Hid ((∀(t:Nat) (u:Value),(Jw q ((ck,cself),ct))[t]? =some u->w.cell? ⟨b,o+j*6+t,none⟩=some u)/\Di q w.heap.size w ((ck,cself),ct)):=by
  rcases HC.out.2.1 with e|⟨b,o,e,hb,h⟩
  ·rw[e]at hc
   simp at hc
  ·exact⟨b,o,e,hb,h j _ hc⟩
 have HBR:Hid (Below w.heap.size w wr):=by
  obtain⟨cs,cms,M,D,_,_,h3⟩:=HR.out
  exact HW9B.out.1.trans (h3.mono HW9B.out.1.size)
 have hcell:∀(t:Nat) (u:Value),(Jw q ((ck,cself),ct))[t]? =some u->wr.cell? ⟨lb,lo+j*6+t,none⟩=some u:=fun t u ht=>(HBR.out.cell (p:=⟨lb,lo+j*6+t,none⟩) hlb).trans (HCC.out.1 t u ht)
 have x0:wr.cell? ⟨lb,lo+j*6,none⟩=some (.int .i64 ck):=hcell 0 _ rfl
 have x1:wr.cell? ⟨lb,lo+j*6+1,none⟩=some (.int .i64 cself):=hcell 1 _ rfl
 have x2:wr.cell? ⟨lb,lo+j*6+2,none⟩=some (.int .i64 ct.1.1):=hcell 2 _ rfl
 have x3:wr.cell? ⟨lb,lo+j*6+3,none⟩=some (.int .i64 ct.1.2.1):=hcell 3 _ rfl
 have x4:wr.cell? ⟨lb,lo+j*6+4,none⟩=some (.string ct.1.2.2):=hcell 4 _ rfl
 have x5:wr.cell? ⟨lb,lo+j*6+5,none⟩=some (.slice ct.2.1.1 ct.2.2.length ct.2.1.2):=hcell 5 _ rfl
 have j1:(0:Int)<=(j:Int):=by omega
 have j2:(j:Int)<(clen:Int):=by omega
 have HW2:Hid (∃w2 q1,(w2=wr.alloc (.cells #[.int .i64 ck,.int .i64 cself,.int .i64 ct.1.1,.int .i64 ct.1.2.1,.string ct.1.2.2,.slice ct.2.1.1 ct.2.2.length ct.2.1.2] 37)/\q1=wr.heap.size)/\PXC w9.heap.size pb qb name room (201+402*j) q1 (.cells #[.int .i64 ck,.int .i64 cself,.int .i64 ct.1.1,.int .i64 ct.1.2.1,.string ct.1.2.2,.slice ct.2.1.1 ct.2.2.length ct.2.1.2] 37) w9 w2):=⟨_,_,⟨rfl,rfl⟩,HR.out.box _⟩
 have HCt:Hid (In w9.heap.size w9 (q+1) ct/\(nodes (q+1) ct).length<=2097152):=⟨(HCC.out.2.2.2.below HW9B.out.1).mono HW9B.out.1.size,HC.out.2.2 _ HCM.out⟩
 clear hcell hc HST
 go_upto_region 11 with fail
 obtain⟨w2,q1,⟨hw2,hq1⟩,hC2⟩:=HW2.out
 rw[<-hw2,<-hq1]
 obtain⟨cs,cms,M,D,hT,h20,hB,hbx⟩:=hC2
 have HT:=hide hT
 have HBX:=hide (⟨hB,hbx,h20⟩:_/\_/\_)
 have HPX:Hid (PXC w9.heap.size pb qb name room (201+402*j) q1 (.cells #[.int .i64 ck,.int .i64 cself,.int .i64 ct.1.1,.int .i64 ct.1.2.1,.string ct.1.2.2,.slice ct.2.1.1 ct.2.2.length ct.2.1.2] 37) w9 w2):=⟨cs,cms,M,D,hT,h20,hB,hbx⟩
 have b0:=ae hbx 0
 have b1:=ae hbx 1
 have b2:=ae hbx 2
 have b3:=ae hbx 3
 have b4:=ae hbx 4
 have b5:=ae hbx 5
 simp only[List.getElem?_cons_zero,List.getElem?_cons_succ]at b0 b1 b2 b3 b4 b5
 clear hw2 hq1 HW2 HR HBR x0 x1 x2 x3 x4 x5 hT hB hbx HCC HCM
 obtain⟨k,hk⟩:∃k,k=201+402*j:=⟨_,rfl⟩
 rw[<-hk]at HT HPX
 have hkm:k<=24000:=by omega
 have HKJ:=hide hk
 clear hk
 go_upto_block 2 with fail
 go_cut [19,20,21,22,23] (fun v19 v20 v21 v22 v23 wx=>Hid (PX w9.heap.size pb qb name room (k+402) w9 wx))
 case first=>
  by_cases h0:ck=0
  ·subst h0
   have HD:Hid (Below w2.heap.size w2 w2.drew):=(Below.refl _ _).drew
   have HBC:Hid (∀W:World,W.heap[q1]? =some (.cells #[.int .i64 0,.int .i64 cself,.int .i64 ct.1.1,.int .i64 ct.1.2.1,.string ct.1.2.2,.slice ct.2.1.1 ct.2.2.length ct.2.1.2] 37)->W.cell? ⟨q1,2,none⟩=some (.int .i64 ct.1.1)/\W.cell? ⟨q1,3,none⟩=some (.int .i64 ct.1.2.1)/\W.cell? ⟨q1,4,none⟩=some (.string ct.1.2.2)/\W.cell? ⟨q1,5,none⟩=some (.slice ct.2.1.1 ct.2.2.length ct.2.1.2)):=fun W h=>⟨ae h 2,ae h 3,ae h 4,ae h 5⟩
   have HXD:Hid (w2.drew.heap[q1]? =some (.cells #[.int .i64 0,.int .i64 cself,.int .i64 ct.1.1,.int .i64 ct.1.2.1,.string ct.1.2.2,.slice ct.2.1.1 ct.2.2.length ct.2.1.2] 37)):=(HD.out.block q1 (Array.getElem?_eq_some_iff.1 HBX.out.2.1).1).trans HBX.out.2.1
   have HDA:=hide ((HT.out.later HD.out).deliverP ct (HCt.out.1.below (HBX.out.1.trans (HD.out.mono HT.out.size))) HCt.out.2 (by omega) (by omega))
   have HD2:Hid (∀{mA:List Tc} {M D:Nat->Prop} {W:World},PQ w9.heap.size (fun b=>b=q1) pb qb name room cs mA cs cms (k+201) M D W->Below w9.heap.size w9 W->Calls Tryz.prog 8 #[.pointer (some ⟨qb,0,none⟩),.agg #[.int .i64 ct.1.1,.int .i64 ct.1.2.1,.string ct.1.2.2,.slice ct.2.1.1 ct.2.2.length ct.2.1.2]] W fun e w'=>e=.returned (.int .i64 (fO (q+1) ct room cs cms))/\Hid (∃M' D',PQ w9.heap.size (fun b=>b=q1) pb qb name room cs mA cs (if fO (q+1) ct room cs cms=0 then cms++ [cn (q+1) ct]else cms) (k+201) M' D' w'/\I8 w9.heap.size (fun b=>b=q1) W w')):=fun{mA M D W} h hb=>h.deliverQ ct (HCt.out.1.below hb) HCt.out.2
   have HLN:Hid (fO (q+1) ct room cs cms=0->cms.length<20):=fun h=>by
    unfold fO at h
    split at h
    ·omega
    ·omega
   obtain⟨d,hd⟩:∃d,d=fO (q+1) ct room cs cms:=⟨_,rfl⟩
   rw[<-hd]at HDA HD2 HLN
   obtain⟨mN,hmN⟩:∃mN,mN=if d=0 then cms++ [cn (q+1) ct]else cms:=⟨_,rfl⟩
   rw[<-hmN]at HDA HD2
   have HLM:Hid (mN.length<=20):=by
    rw[hmN]
    split
    ·rename_i h
     have:=HLN.out h
     show (cms++ [cn (q+1) ct]).length<=20
     simp
     omega
    ·exact h20
   have dd:(d !=d)=false:=by simp
   clear hd hmN HLN HPX
   go_upto_region 13 with fail
   go_region_held3 (fun W=>W.cell? ⟨q1,2,none⟩=some (.int .i64 ct.1.1)/\W.cell? ⟨q1,3,none⟩=some (.int .i64 ct.1.2.1)/\W.cell? ⟨q1,4,none⟩=some (.string ct.1.2.2)/\W.cell? ⟨q1,5,none⟩=some (.slice ct.2.1.1 ct.2.2.length ct.2.1.2))
    (first|(go_keep;done)|exact HBC.out _ HXD.out|exact HBC.out _ H3.out.2.2|exact HBC.out _ H4.out.2.2) ((first
     | (go_at_call 7;refine HDA.out.mono ?_;rintro e w3 ⟨rfl,hq3⟩;have H3:Hid ((∃M' D',PQ w9.heap.size (fun b=>b=q1) pb qb name room cs mN cs cms (k+201) M' D' w3)/\Below w9.heap.size w9 w3/\w3.heap[q1]? =some (.cells #[.int .i64 0,.int .i64 cself,.int .i64 ct.1.1,.int .i64 ct.1.2.1,.string ct.1.2.2,.slice ct.2.1.1 ct.2.2.length ct.2.1.2] 37)):=(by obtain⟨M',D',a1,a2⟩:=hq3.out;exact⟨⟨M',D',a1⟩,(HBX.out.1.trans (HD.out.mono HT.out.size)).trans a2.1,(a2.2 q1 rfl).trans HXD.out⟩);clear HDA hq3)
     | (go_at_call 8;obtain⟨⟨M3,D3,h3⟩,h3b⟩:=H3.out;refine(HD2.out h3 h3b.1).mono ?_;rintro e w4 ⟨rfl,hq4⟩;have H4:Hid ((∃M' D',PQ w9.heap.size (fun b=>b=q1) pb qb name room cs mN cs mN (k+201) M' D' w4)/\Below w9.heap.size w9 w4/\w4.heap[q1]? =some (.cells #[.int .i64 0,.int .i64 cself,.int .i64 ct.1.1,.int .i64 ct.1.2.1,.string ct.1.2.2,.slice ct.2.1.1 ct.2.2.length ct.2.1.2] 37)):=(by obtain⟨M',D',a1,a2⟩:=hq4.out;exact⟨⟨M',D',a1⟩,h3b.1.trans a2.1,(a2.2 q1 rfl).trans h3b.2⟩);clear hq4 h3 h3b)))
   all_goals
    have HF:Hid (PX w9.heap.size pb qb name room (k+402) w9 w4):=(by obtain⟨⟨M',D',a1⟩,a2,a3⟩:=H4.out;exact⟨cs,mN,M',D',(a1.up (by omega)).less fun _ e=>e.elim,HLM.out,a2⟩)
    clear H3 H4 HD2 HBC HXD HD HT HBX b0 b1 b2 b3 b4 b5
    go_wp2_with fail
    go_meet
    exact HF.out
  ·by_cases h1:ck=1
   ·subst h1
    obtain⟨nx,hnx⟩:∃nx,nx=IntKind.i64.wrap (cself+1):=⟨_,rfl⟩
    have hwr:IntKind.i64.wrap (cself+1)=nx:=hnx.symm
    clear hnx HPX
    have HQ2:Hid (∃w3 q2,(w3=w2.alloc (.cells #[.int .i64 0,.int .i64 0,.string ⟨#[]⟩,.slice none 0 0,.int .i64 0,.slice none 0 0,.slice none 0 0,.slice none 0 0] 43)/\q2=w2.heap.size)/\Below w2.heap.size w2 w3/\w3.heap[q2]? =some (.cells #[.int .i64 0,.int .i64 0,.string ⟨#[]⟩,.slice none 0 0,.int .i64 0,.slice none 0 0,.slice none 0 0,.slice none 0 0] 43)/\PQ w9.heap.size (fun b=>b=q1∨b=q2) pb qb name room cs cms cs cms k M (fun b=>D b/\b<w2.heap.size) w3/\w3.heap[q1]? =some (.cells #[.int .i64 1,.int .i64 cself,.int .i64 ct.1.1,.int .i64 ct.1.2.1,.string ct.1.2.2,.slice ct.2.1.1 ct.2.2.length ct.2.1.2] 37)/\Below w9.heap.size w9 w3):=by
     have hb:Below w2.heap.size w2 (w2.alloc (.cells #[.int .i64 0,.int .i64 0,.string ⟨#[]⟩,.slice none 0 0,.int .i64 0,.slice none 0 0,.slice none 0 0,.slice none 0 0] 43)):=(Below.refl _ _).alloc (Nat.le_refl _) _
     refine⟨_,_,⟨rfl,rfl⟩,hb,heap_alloc_new _ _,(HT.out.box hb).less fun b e=> ?_,bC hb HBX.out.2.1,HBX.out.1.trans (hb.mono HT.out.size)⟩
     rcases e with e|e
     ·exact Or.inl e
     ·exact Or.inr ⟨by omega,by subst e;simp⟩
    go_upto_region 18 with fail
    obtain⟨w3,q2,⟨hw3,hq2⟩,hb3,hz3,hT3,hx3,hB3⟩:=HQ2.out
    rw[<-hw3,<-hq2]
    have HQN:Hid (q1≠q2/\w9.heap.size<=q2):=⟨fun e=>by have:=(Array.getElem?_eq_some_iff.1 HBX.out.2.1).1;omega,by rw[hq2];exact HT.out.size⟩
    have HT3:=hide (⟨hT3,hx3,hB3,hz3⟩:_/\_/\_/\_)
    clear hw3 hq2 hb3 hT3 hB3 HQ2 b0 b1 b2 b3 b4 b5 HT
    have b1:w3.cell? ⟨q1,1,none⟩=some (.int .i64 cself):=ae hx3 1
    have HNE:Hid (q1≠q2/\w9.heap.size<=q2):=HQN.out
    obtain⟨G,hG⟩:∃G,G=kV n room l name cself nx cs cms:=⟨_,rfl⟩
    have HG:=hide hG
    have gg:(G !=G)=false:=by simp
    have HPZ:Hid (∀(W:World) (D':Nat->Prop),PQ w9.heap.size (fun b=>b=q1∨b=q2) pb qb name room cs cms cs cms k M D' W->Below w9.heap.size w9 W->G≠0->Calls Tryz.prog 11 #[.pointer (some ⟨pb,0,none⟩),.slice la len lc,.int .i64 cself,.int .i64 nx] W fun e w'=>e=.returned (.tuple #[.agg #[.int .i64 0,.int .i64 0,.string ⟨#[]⟩,.slice none 0 0,.int .i64 0,.slice none 0 0,.slice none 0 0,.slice none 0 0],.int .i64 G])/\Below W.heap.size W w'):=fun W D' h hb h0=>by
     have h1:=h.stepP0 l la lc (HPG.out.below hb) (by rw[HL.out.2.1];exact HL.out.2.2.1) HL.out.2.2.2.1 HL.out.2.2.2.2.1 (by omega) (by omega) cself nx (by rw[<-HG.out];exact h0)
     rw[HL.out.2.1,<-HG.out]at h1
     exact h1
    have HQZ:Hid (∀w5:World,∃w6 q3,(w6=w5.alloc (.cells #[.int .i64 0,.int .i64 0,.string ⟨#[]⟩,.slice none 0 0,.int .i64 0,.slice none 0 0,.slice none 0 0,.slice none 0 0] 50)/\q3=w5.heap.size)/\Below w5.heap.size w5 w6/\w6.heap[q3]? =some (.cells #[.int .i64 0,.int .i64 0,.string ⟨#[]⟩,.slice none 0 0,.int .i64 0,.slice none 0 0,.slice none 0 0,.slice none 0 0] 50)):=fun w5=>⟨_,_,⟨rfl,rfl⟩,(Below.refl _ _).alloc (Nat.le_refl _) _,heap_alloc_new _ _⟩
    have HFZ:Hid (∀(W w7:World) (D':Nat->Prop),PQ w9.heap.size (fun b=>b=q1∨b=q2) pb qb name room cs cms cs cms k M D' W->Below w9.heap.size w9 W->Below W.heap.size W w7->PX w9.heap.size pb qb name room (k+402) w9 w7):=fun W w7 D' h hb h7=>⟨cs,cms,M,_,((h.later h7).up (by omega)).less fun _ e=>e.elim,h20,hb.trans (h7.mono h.size)⟩
    clear hG hx3 hz3
    by_cases hb0:bad=0
    rotate_left
    ·have hGb:G=bad:=by
       have h:=HG.out
       rw[Gz (by rw[<-HBAD.out];exact hb0)]at h
       rw[h,HBAD.out]
     subst hGb
     have gb:(G !=0)=true:=by simpa using hb0
     go_upto_region 23 with fail
     have HPW:=hide (HPZ.out w3 _ HT3.out.1 HT3.out.2.2.1 hb0)
     have HQ3:=HQZ
     clear HG HPZ
     go_wp2_with fail
     refine HPW.out.mono ?_
     rintro e w5 ⟨rfl,hb5⟩
     have HB5:=hide hb5
     clear hb5 HPW b1
     go_upto_region 24 with fail
     obtain⟨w6,q3,⟨hw6,hq3⟩,hb6,hz6⟩:=HQ3.out w5
     rw[<-hw6,<-hq3]
     have HB6:=hide (HB5.out.trans (hb6.mono HB5.out.size))
     obtain⟨a0,a1,a2,a3,a4,a5,a6,a7⟩:=uf hz6
     obtain⟨c0,c1,c2,c3,c4,c5,c6,c7⟩:=uf (bC HB6.out HT3.out.2.2.2)
     have HTE:=hide (lS w6 w6 (Below.refl _ _))
     clear hw6 hq3 hb6 hz6 HQ3 HQZ
     go_wp2_with fail
     refine HTE.out.mono ?_
     rintro e w7 ⟨rfl,hb7⟩
     have HF:=hide (HFZ.out w3 w7 _ HT3.out.1 HT3.out.2.2.1 (HB6.out.trans (hb7.mono HB6.out.size)))
     clear hb7 HTE HB6 HB5 a0 a1 a2 a3 a4 a5 a6 a7 c0 c1 c2 c3 c4 c5 c6 c7
     go_wp2_with fail
     go_meet
     exact HF.out
    ·subst hb0
     have HTO:=hide HBAD.out.symm
     have HIN1:=hide (fe cself 1 99)
     have HIN2:=hide (fe nx 1 92)
     cases hi1:eZ cself 1 99 with
     | false=>
      have hG1:G=1:=by
       rw[HG.out]
       exact zi HTO.out (Or.inl hi1)
      subst hG1
      rw[hi1]at HIN1
      clear hi1
      go_upto_region 23 with(go_at_call 9;refine(HIN1.out _).mono ?_;rintro e wz ⟨rfl,hwz⟩;obtain rfl:=hwz.symm;clear hwz)
      have HPW:=hide (HPZ.out w3 _ HT3.out.1 HT3.out.2.2.1 (by decide))
      have HQ3:=HQZ
      clear HG HPZ
      go_wp2_with fail
      refine HPW.out.mono ?_
      rintro e w5 ⟨rfl,hb5⟩
      have HB5:=hide hb5
      clear hb5 HPW b1
      go_upto_region 24 with fail
      obtain⟨w6,q3,⟨hw6,hq3⟩,hb6,hz6⟩:=HQ3.out w5
      rw[<-hw6,<-hq3]
      have HB6:=hide (HB5.out.trans (hb6.mono HB5.out.size))
      obtain⟨a0,a1,a2,a3,a4,a5,a6,a7⟩:=uf hz6
      obtain⟨c0,c1,c2,c3,c4,c5,c6,c7⟩:=uf (bC HB6.out HT3.out.2.2.2)
      have HTE:=hide (lS w6 w6 (Below.refl _ _))
      clear hw6 hq3 hb6 hz6 HQ3 HQZ
      go_wp2_with fail
      refine HTE.out.mono ?_
      rintro e w7 ⟨rfl,hb7⟩
      have HF:=hide (HFZ.out w3 w7 _ HT3.out.1 HT3.out.2.2.1 (HB6.out.trans (hb7.mono HB6.out.size)))
      clear hb7 HTE HB6 HB5 a0 a1 a2 a3 a4 a5 a6 a7 c0 c1 c2 c3 c4 c5 c6 c7
      go_wp2_with fail
      go_meet
      exact HF.out
     | true=>
     cases hi2:eZ nx 1 92 with
     | false=>
      have hG1:G=1:=by
       rw[HG.out]
       exact zi HTO.out (Or.inr hi2)
      subst hG1
      rw[hi1]at HIN1
      rw[hi2]at HIN2
      clear hi1 hi2
      go_upto_region 23 with(first|(go_at_call 9;refine(HIN1.out _).mono ?_;rintro e wz ⟨rfl,hwz⟩;obtain rfl:=hwz.symm;clear hwz HIN1)|(go_at_call 9;refine(HIN2.out _).mono ?_;rintro e wz ⟨rfl,hwz⟩;obtain rfl:=hwz.symm;clear hwz))
      have HPW:=hide (HPZ.out w3 _ HT3.out.1 HT3.out.2.2.1 (by decide))
      have HQ3:=HQZ
      clear HG HPZ
      go_wp2_with fail
      refine HPW.out.mono ?_
      rintro e w5 ⟨rfl,hb5⟩
      have HB5:=hide hb5
      clear hb5 HPW b1
      go_upto_region 24 with fail
      obtain⟨w6,q3,⟨hw6,hq3⟩,hb6,hz6⟩:=HQ3.out w5
      rw[<-hw6,<-hq3]
      have HB6:=hide (HB5.out.trans (hb6.mono HB5.out.size))
      obtain⟨a0,a1,a2,a3,a4,a5,a6,a7⟩:=uf hz6
      obtain⟨c0,c1,c2,c3,c4,c5,c6,c7⟩:=uf (bC HB6.out HT3.out.2.2.2)
      have HTE:=hide (lS w6 w6 (Below.refl _ _))
      clear hw6 hq3 hb6 hz6 HQ3 HQZ
      go_wp2_with fail
      refine HTE.out.mono ?_
      rintro e w7 ⟨rfl,hb7⟩
      have HF:=hide (HFZ.out w3 w7 _ HT3.out.1 HT3.out.2.2.1 (HB6.out.trans (hb7.mono HB6.out.size)))
      clear hb7 HTE HB6 HB5 a0 a1 a2 a3 a4 a5 a6 a7 c0 c1 c2 c3 c4 c5 c6 c7
      go_wp2_with fail
      go_meet
      exact HF.out
     | true=>
     have hG1:G=if (gH room l name cself nx cs cms).isSome then 0 else 4:=by
      rw[HG.out]
      exact G5 HTO.out hi1 hi2
     rw[hi1]at HIN1
     rw[hi2]at HIN2
     have hr1:1<=cself/\cself<=99:=by simpa [eZ]using hi1
     have hr2:1<=nx/\nx<=92:=by simpa [eZ]using hi2
     have HSQ:=hide (HT3.out.1.stepQ l la lc (HPG.out.below HT3.out.2.2.1) HTO.out hr1 hr2)
     rw[HL.out.2.1]at HSQ
     clear hi1 hi2 hr1 hr2
     cases hst:gH room l name cself nx cs cms with
     | none=>
      rw[hst]at hG1
      obtain rfl:G=4:=hG1
      have HSN:=hide hst
      clear hst
      go_wp2_with (first|(go_at_call 9;refine(HIN1.out _).mono ?_;rintro e wz ⟨rfl,hwz⟩;obtain rfl:=hwz.symm;clear hwz HIN1)|(go_at_call 9;refine(HIN2.out _).mono ?_;rintro e wz ⟨rfl,hwz⟩;obtain rfl:=hwz.symm;clear hwz))
      refine HSQ.out.mono ?_
      rintro e w4 ⟨hq,_⟩
      obtain⟨rfl,hb4⟩:=hq HSN.out
      have HB4:=hide hb4
      have HX4:=hide (⟨bC hb4 HT3.out.2.1,bC hb4 HT3.out.2.2.2⟩:_/\_)
      clear hq hb4 HSQ b1
      obtain⟨c0,c1,c2,c3,c4,c5,c6,c7⟩:=uf HX4.out.2
      obtain⟨rf0,rf1,rf2,rf3,rf4,rf5,rf6,rf7⟩:=KA HX4.out.2
      go_upto_region 23 with fail
      rw[iG]
      generalize hw4:w4.setCells q2 0 _=w4b
      have HS4:Hid (PQ w9.heap.size (fun b=>b=q1∨b=q2) pb qb name room cs cms cs cms k M (fun b=>(D b/\b<w2.heap.size)/\b<w3.heap.size) w4b/\w4b.heap[q1]? =some (.cells #[.int .i64 1,.int .i64 cself,.int .i64 ct.1.1,.int .i64 ct.1.2.1,.string ct.1.2.2,.slice ct.2.1.1 ct.2.2.length ct.2.1.2] 37)/\Below w9.heap.size w9 w4b/\w4b.heap[q2]? =some (.cells #[.int .i64 0,.int .i64 0,.string ⟨#[]⟩,.slice none 0 0,.int .i64 0,.slice none 0 0,.slice none 0 0,.slice none 0 0] 43)):=by
       rw[<-hw4]
       exact CE (HT3.out.1.later HB4.out) (Or.inr rfl) (HT3.out.2.2.1.trans (HB4.out.mono HT3.out.1.size)) HX4.out.1 HX4.out.2 HNE.out _ _ _ _ _ _ _ _
      have b1:w4b.cell? ⟨q1,1,none⟩=some (.int .i64 cself):=ae HS4.out.2.1 1
      clear hw4 c0 c1 c2 c3 c4 c5 c6 c7 rf0 rf1 rf2 rf3 rf4 rf5 rf6 rf7
      have HPW:=hide (HPZ.out w4b _ HS4.out.1 HS4.out.2.2.1 (by decide))
      have HQ3:=HQZ
      clear HG HPZ
      go_wp2_with fail
      refine HPW.out.mono ?_
      rintro e w5 ⟨rfl,hb5⟩
      have HB5:=hide hb5
      clear hb5 HPW b1
      go_upto_region 24 with fail
      obtain⟨w6,q3,⟨hw6,hq3⟩,hb6,hz6⟩:=HQ3.out w5
      rw[<-hw6,<-hq3]
      have HB6:=hide (HB5.out.trans (hb6.mono HB5.out.size))
      obtain⟨a0,a1,a2,a3,a4,a5,a6,a7⟩:=uf hz6
      obtain⟨c0,c1,c2,c3,c4,c5,c6,c7⟩:=uf (bC HB6.out HS4.out.2.2.2)
      have HTE:=hide (lS w6 w6 (Below.refl _ _))
      clear hw6 hq3 hb6 hz6 HQ3 HQZ
      go_wp2_with fail
      refine HTE.out.mono ?_
      rintro e w7 ⟨rfl,hb7⟩
      have HF:=hide (HFZ.out w4b w7 _ HS4.out.1 HS4.out.2.2.1 (HB6.out.trans (hb7.mono HB6.out.size)))
      clear hb7 HTE HB6 HB5 a0 a1 a2 a3 a4 a5 a6 a7 c0 c1 c2 c3 c4 c5 c6 c7
      go_wp2_with fail
      go_meet
      exact HF.out
     | some tk=>
      rw[hst]at hG1
      obtain rfl:G=0:=hG1
      have HSN:=hide hst
      clear hst
      go_wp2_with (first|(go_at_call 9;refine(HIN1.out _).mono ?_;rintro e wz ⟨rfl,hwz⟩;obtain rfl:=hwz.symm;clear hwz HIN1)|(go_at_call 9;refine(HIN2.out _).mono ?_;rintro e wz ⟨rfl,hwz⟩;obtain rfl:=hwz.symm;clear hwz))
      refine HSQ.out.mono ?_
      rintro e w4 ⟨_,hq⟩
      obtain⟨z,sv,pv,lv,rfl,HQT⟩:=hq tk HSN.out
      obtain⟨⟨sA,sL,sC,rfl⟩,⟨pA,pL,pC,rfl⟩,kA,kL,kC,rfl⟩:(∃a n c,sv=Value.slice a n c)/\(∃a n c,pv=Value.slice a n c)/\∃a n c,lv=Value.slice a n c:=by
       obtain⟨D',_,_,_,⟨N,sd,sp,r1,r2,r3,_⟩,_⟩:=HQT.out.1
       obtain⟨a1,c1,e1⟩:=jX r1
       obtain⟨a2,c2,e2⟩:=jX r2
       obtain⟨a3,c3,e3⟩:=jX r3
       exact⟨⟨a1,_,c1,e1⟩,⟨a2,_,c2,e2⟩,a3,_,c3,e3⟩
      have HX4:Hid (Below w9.heap.size w9 w4/\w4.heap[q1]? =some (.cells #[.int .i64 1,.int .i64 cself,.int .i64 ct.1.1,.int .i64 ct.1.2.1,.string ct.1.2.2,.slice ct.2.1.1 ct.2.2.length ct.2.1.2] 37)/\w4.heap[q2]? =some (.cells #[.int .i64 0,.int .i64 0,.string ⟨#[]⟩,.slice none 0 0,.int .i64 0,.slice none 0 0,.slice none 0 0,.slice none 0 0] 43)):=by
       have kk:=HQT.out.2
       exact⟨HT3.out.2.2.1.trans kk.1,(kk.2 q1 (Or.inl rfl)).trans HT3.out.2.1,(kk.2 q2 (Or.inr rfl)).trans HT3.out.2.2.2⟩
      obtain⟨fa,hfa⟩:∃fa,fa=tk.fate:=⟨_,rfl⟩
      rw[<-hfa]
      have HFA:=hide hfa
      simp only[fU]
      clear hq HSQ b1 hfa
      obtain⟨c0,c1,c2,c3,c4,c5,c6,c7⟩:=uf HX4.out.2.2
      obtain⟨rf0,rf1,rf2,rf3,rf4,rf5,rf6,rf7⟩:=KA HX4.out.2.2
      go_upto_region 23 with fail
      rw[iG]
      generalize hw4:w4.setCells q2 0 _=w4b
      have HS4:Hid (QTold w9.heap.size (fun b=>b=q1∨b=q2) pb qb name room cs cms k M w3.heap.size tk z (.slice sA sL sC) (.slice pA pL pC) (.slice kA kL kC) w4b/\w4b.heap[q1]? =some (.cells #[.int .i64 1,.int .i64 cself,.int .i64 ct.1.1,.int .i64 ct.1.2.1,.string ct.1.2.2,.slice ct.2.1.1 ct.2.2.length ct.2.1.2] 37)/\Below w9.heap.size w9 w4b/\w4b.heap[q2]? =some (.cells #[.int .i64 z.1.1,.int .i64 z.1.2.1,.string z.1.2.2,.slice z.2.1.1 z.2.2.length z.2.1.2,.int .i64 fa,.slice sA sL sC,.slice pA pL pC,.slice kA kL kC] 43)):=by
       rw[<-hw4]
       obtain⟨D',s1,s2,s3,s4,s5⟩:=HQT.out.1
       obtain⟨_,t2,t3,t4⟩:=CE s3 (Or.inr rfl) HX4.out.1 HX4.out.2.1 HX4.out.2.2 HNE.out _ _ _ _ _ _ _ _
       exact⟨HQT.out.1.store (Or.inr rfl) HX4.out.2.2 (aJ q2 _ 0 w4).1,t2,t3,t4⟩
      have b1:w4b.cell? ⟨q1,1,none⟩=some (.int .i64 cself):=ae HS4.out.2.1 1
      have HPW:=hide (HS4.out.1.stepP l la lc (HPG.out.below HS4.out.2.2.1) (by rw[HL.out.2.1];exact HL.out.2.2.1) HL.out.2.2.2.1 HL.out.2.2.2.2.1 (by omega) (by omega) cself nx HG.out.symm HSN.out)
      rw[HL.out.2.1,<-HFA.out]at HPW
      clear hw4 c0 c1 c2 c3 c4 c5 c6 c7 rf0 rf1 rf2 rf3 rf4 rf5 rf6 rf7 HQT HG HSN
      go_wp2_with fail
      refine HPW.out.mono ?_
      rintro e w5 ⟨y,sa,sl,sc,pa,pl,pc,ka,kl,kc,rfl,H5⟩
      have HQ3:Hid (∃w6 q3,(w6=w5.alloc (.cells #[.int .i64 y.1.1,.int .i64 y.1.2.1,.string y.1.2.2,.slice y.2.1.1 y.2.2.length y.2.1.2,.int .i64 fa,.slice sa sl sc,.slice pa pl pc,.slice ka kl kc] 50)/\q3=w5.heap.size)/\Below w5.heap.size w5 w6/\w6.heap[q3]? =some (.cells #[.int .i64 y.1.1,.int .i64 y.1.2.1,.string y.1.2.2,.slice y.2.1.1 y.2.2.length y.2.1.2,.int .i64 fa,.slice sa sl sc,.slice pa pl pc,.slice ka kl kc] 50)):=⟨_,_,⟨rfl,rfl⟩,(Below.refl _ _).alloc (Nat.le_refl _) _,heap_alloc_new _ _⟩
      clear HPW b1
      go_upto_region 24 with fail
      obtain⟨w6,q3,⟨hw6,hq3⟩,hb6,hz6⟩:=HQ3.out
      rw[<-hw6,<-hq3]
      have HB6:=hide hb6
      have hx6:w6.heap[q2]? =some (.cells #[.int .i64 z.1.1,.int .i64 z.1.2.1,.string z.1.2.2,.slice z.2.1.1 z.2.2.length z.2.1.2,.int .i64 fa,.slice sA sL sC,.slice pA pL pC,.slice kA kL kC] 43):=by
       obtain⟨M',D',_,k2⟩:=H5.out.2.1
       exact bC hb6 ((k2.2 q2 (Or.inr rfl)).trans HS4.out.2.2.2)
      obtain⟨a0,a1,a2,a3,a4,a5,a6,a7⟩:=uf hz6
      obtain⟨c0,c1,c2,c3,c4,c5,c6,c7⟩:=uf hx6
      have HTE:Hid (Calls Tryz.prog 12 #[.agg #[.int .i64 y.1.1,.int .i64 y.1.2.1,.string y.1.2.2,.slice y.2.1.1 y.2.2.length y.2.1.2,.int .i64 fa,.slice sa sl sc,.slice pa pl pc,.slice ka kl kc],.agg #[.int .i64 z.1.1,.int .i64 z.1.2.1,.string z.1.2.2,.slice z.2.1.1 z.2.2.length z.2.1.2,.int .i64 fa,.slice sA sL sC,.slice pA pL pC,.slice kA kL kC]] w6 fun e w'=>e=.returned (.bool true)/\Below w6.heap.size w6 w'):=H5.out.1 w6 hb6
      clear hw6 hq3 hb6 hz6 hx6 HQ3
      go_wp2_with fail
      refine HTE.out.mono ?_
      rintro e w7 ⟨rfl,hb7⟩
      have HF:Hid (PX w9.heap.size pb qb name room (k+402) w9 w7):=by
       have h7:=HB6.out.trans (hb7.mono HB6.out.size)
       obtain⟨_,⟨M',D',k1,k2⟩,k3⟩:=H5.out
       exact⟨tk.state,tk.mail,M',_,(k1.later h7).less fun _ e=>e.elim,by omega,(HS4.out.2.2.1.trans k2.1).trans (h7.mono k1.size)⟩
      clear hb7 HTE HB6 H5 HS4 a0 a1 a2 a3 a4 a5 a6 a7 c0 c1 c2 c3 c4 c5 c6 c7
      go_wp2_with fail
      go_meet
      exact HF.out
   ·by_cases h2:ck=2
    ·subst h2
     have HTI:=hide (HT.out.tidy (by omega) (by omega))
     obtain⟨S,hS⟩:∃S,S=((cs::cms).map (sz 13)).sum:=⟨_,rfl⟩
     rw[<-hS]at HTI
     have HSS:=hide hS
     have hss:(S !=S)=false:=by simp
     clear hS HPX
     go_wp2_with fail
     refine HTI.out.mono ?_
     rintro e w3 ⟨rfl,H3⟩
     obtain⟨⟨M',D',a1,a2⟩,a3⟩:=H3.out
     have HU:=hide a3
     have HLV:=hide a1.live
     rw[<-HSS.out]at HLV
     have H3A:=hide (⟨a1,HBX.out.1.trans a2.1⟩:_/\_)
     clear a1 a2 a3 H3 HTI
     go_wp2_with fail
     refine HU.out.mono ?_
     rintro e w4 ⟨rfl,hw4⟩
     obtain rfl:=hw4.symm
     clear hw4
     go_wp2_with fail
     refine HLV.out.mono ?_
     rintro e w4 ⟨rfl,hb4⟩
     have HF:Hid (PX w9.heap.size pb qb name room (k+402) w9 w4):=⟨cs,cms,M',_,((H3A.out.1.later hb4).up (by omega)).less fun _ e=>e.elim,h20,H3A.out.2.trans (hb4.mono H3A.out.1.size)⟩
     clear hb4 HU HLV H3A HT HBX
     go_wp2_with fail
     go_meet
     exact HF.out
    ·have h0':¬(0:Int)=ck:=fun e=>h0 e.symm
     have h1':¬(1:Int)=ck:=fun e=>h1 e.symm
     have h2':¬(2:Int)=ck:=fun e=>h2 e.symm
     have HF:Hid (PX w9.heap.size pb qb name room (k+402) w9 w2):=HPX.out.px (by omega)
     clear HT HBX HPX b1 b2 b3 b4 b5
     go_wp2_with fail
     go_meet
     exact HF.out
 case rest=>
 obtain⟨ds,dms,M2,D2,hT2,h202,hB2⟩:=hcut.out
 have HT2:=hide (⟨hT2,h202,hB2⟩:_/\_/\_)
 obtain⟨⟨u,⟨u1,u2,u3⟩,hU⟩,⟨y,ys,ma,mc,hQ,ey,eys⟩⟩:=(⟨hT2.1.used,hT2.2.1⟩:_/\_)
 obtain⟨L,hL⟩:∃L,L=dms.length:=⟨_,rfl⟩
 have hLy:L=ys.length:=by rw[hL,<-eys,List.length_map]
 obtain⟨S,hS⟩:∃S,S=((ds::dms).map (sz 13)).sum:=⟨_,rfl⟩
 rw[<-hS]at u1
 have HQC:Hid (∀W,Below wc.heap.size wc W->W.cell? ⟨qb,0,none⟩=some (.string name)/\(W.cell? ⟨qb,2,none⟩=some (.int .i64 y.1.1)/\W.cell? ⟨qb,3,none⟩=some (.int .i64 y.1.2.1)/\W.cell? ⟨qb,4,none⟩=some (.string y.1.2.2)/\W.cell? ⟨qb,5,none⟩=some (.slice y.2.1.1 y.2.2.length y.2.1.2))/\W.cell? ⟨qb,6,none⟩=some (.slice ma L mc)):=fun W hW=>by
  have h:=hQ.cellsB hLy (hW.block qb (Array.getElem?_eq_some_iff.1 hQ.box).1)
  exact⟨h.1,h.2.2.1,h.2.2.2⟩
 have HUS:=hide hU
 have HNM:Hid (∀W,Below wc.heap.size wc W->_):=fun W hW=>(hT2.1.later hW).name HNZ.out
 have HSA:Hid (∀W,Below wc.heap.size wc W->_):=fun W hW=>(hT2.1.later hW).state (by omega)
 have HMA:Hid (∀W,Below wc.heap.size wc W->_):=fun W hW=>(hT2.1.later hW).mails (by omega) (by omega)
 have HLV:Hid (∀W,Below wc.heap.size wc W->_):=fun W hW=>(hT2.later hW).live
 rw[<-hL]at HMA
 rw[<-hS]at HLV
 have HSM:Hid (∀(z:Tc) (W:World),In W.heap.size W 13 z->aP 13 z=0->cn 13 z=ds->Below wc.heap.size wc W->∀W1,Below W.heap.size W W1->Calls Tryz.prog 17 #[.agg #[.int .i64 z.1.1,.int .i64 z.1.2.1,.string z.1.2.2,.slice z.2.1.1 z.2.2.length z.2.1.2],.agg #[.int .i64 y.1.1,.int .i64 y.1.2.1,.string y.1.2.2,.slice y.2.1.1 y.2.2.length y.2.1.2]] W1 fun e w'=>e=.returned (.bool true)/\Below W1.heap.size W1 w'):=fun z W a1 a2 a3 hW=>qO (x:=z) (y:=y) a1 ((hQ.st.1.below hW).mono hW.size) a2 (hQ.ok y (by simp)).1 (a3.trans ey.symm)
 have HMM:Hid (∀(zs:List Tc) (a:Option Addr) (c:Nat) (W:World),zs.length=L->Lies W.heap.size W 13 zs a->zs.map (cn 13)=dms->(∀y∈zs,aP 13 y=0)->Below wc.heap.size wc W->∀W1,Below W.heap.size W W1->Calls Tryz.prog 19 #[.slice a L c,.slice ma L mc] W1 fun e w'=>e=.returned (.bool true)/\Below W1.heap.size W1 w'):=fun zs a c W a1 a2 a3 a4 hW W1 h1=>by
  have hb:=hW.trans (h1.mono hW.size)
  refine EU (G7 a2 h1) ?_ a1 hLy.symm (by omega) a4 (fun z hz=>(hQ.ok z (List.mem_cons_of_mem _ hz)).1) (a3.trans eys.symm)
  have hQ1:=(hQ.later hb).row
  rcases hQ1 with e|⟨b,o,e,h2,h3,h4⟩
  ·exact Or.inl e
  ·exact Or.inr ⟨b,o,e,h2,fun i z hz=>⟨(h4 i z hz).1,(h4 i z hz).2.1⟩⟩
 have v1:decide (u<S)=false:=decide_eq_false (by omega)
 have v2:decide (room<u)=false:=decide_eq_false (by omega)
 have HD:Hid (Below wc.heap.size wc wc.drew):=(Below.refl _ _).drew
 clear hT2 h202 hB2 hcut HT HBX HPX HCt hU hQ ey eys hL hLy hS u1 u2 u3 b0 b1 b2 b3 b4 b5
 go_upto_region 30 with fail
 go_region_held3 (fun W=>W.cell? ⟨qb,0,none⟩=some (.string name)/\(W.cell? ⟨qb,2,none⟩=some (.int .i64 y.1.1)/\W.cell? ⟨qb,3,none⟩=some (.int .i64 y.1.2.1)/\W.cell? ⟨qb,4,none⟩=some (.string y.1.2.2)/\W.cell? ⟨qb,5,none⟩=some (.slice y.2.1.1 y.2.2.length y.2.1.2))/\W.cell? ⟨qb,6,none⟩=some (.slice ma L mc))
  (first|exact HQC.out _ HD.out|exact HQC.out _ HB3.out|exact HQC.out _ HB4.out|exact HQC.out _ HB5.out|exact HQC.out _ HB6.out|exact HQC.out _ HB7.out|exact HQC.out _ HB8.out) ((first
   | (go_at_call 16;refine(HNM.out _ HD.out).mono ?_;rintro e w3 ⟨rfl,hb⟩;have HB3:=hide (HD.out.trans (hb.mono HD.out.size));clear hb HNM)
   | (go_at_call 18;refine(HSA.out _ HB3.out).mono ?_;rintro e w4 ⟨zA,rfl,H4⟩;have HB4:=hide (HB3.out.trans (H4.out.1.mono HB3.out.size));have HS4:=hide (HSM.out zA w4 H4.out.2.1 H4.out.2.2.2.1 H4.out.2.2.2.2 HB4.out);clear HSA HSM H4)
   | (go_at_call 17;refine(HS4.out _ (Below.refl _ _)).mono ?_;rintro e w5 ⟨rfl,hb⟩;have HB5:=hide (HB4.out.trans (hb.mono HB4.out.size));clear hb HS4)
   | (go_at_call 20;refine(HMA.out _ HB5.out).mono ?_;rintro e w6 ⟨zs,aA,cA,rfl,H6⟩;have HB6:=hide (HB5.out.trans (H6.out.2.1.mono HB5.out.size));have HS6:=hide (HMM.out zs aA cA w6 H6.out.1 H6.out.2.2.1 H6.out.2.2.2.1 (fun y hy=>(H6.out.2.2.2.2 y hy).1) HB6.out);clear HMA HMM H6)
   | (go_at_call 19;refine(HS6.out _ (Below.refl _ _)).mono ?_;rintro e w7 ⟨rfl,hb⟩;have HB7:=hide (HB6.out.trans (hb.mono HB6.out.size));clear hb HS6)
   | (go_at_call 14;have hlv:=HLV;clear HLV;refine(HUS.out _ HB7.out).mono ?_;rintro e w8 ⟨rfl,hw8⟩;obtain rfl:=hw8.symm;clear hw8;have HLV:=hlv;clear hlv)
   | (go_at_call 15;refine(HLV.out _ HB7.out).mono ?_;rintro e w8 ⟨rfl,hb⟩;have HB8:=hide (HB7.out.trans (hb.mono HB7.out.size));clear hb HLV)
   | (go_at_call 14;refine(HUS.out _ HB8.out).mono ?_;rintro e w9' ⟨rfl,hw8⟩;obtain rfl:=hw8.symm;clear hw8)))
 have HF:Hid (PX w9.heap.size pb qb name room (201+402*(j+1)) w9 w8):=by
  obtain⟨a1,a2,a3⟩:=HT2.out
  exact⟨ds,dms,M2,_,(a1.later HB8.out).up (by have:=HKJ.out;omega),a2,a3.trans (HB8.out.mono a1.size)⟩
 clear HB3 HB4 HB5 HB6 HB7 HB8 HUS HQC HT2 HD
 go_wp2_with fail
 go_roundw
 case rel=>exact⟨j+1,by omega,by go_num,HF.out⟩
 case measure=>simp[intOf];omega
end Go.Proofs.YtbknffhilfoakaaGreat
