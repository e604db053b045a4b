/- What is proved here: plain facts and contracts that the claimed theorem stands on. No condition but those that each names. -/
import Derived.Test.YtbknffhilfoakaaGreatG29
import Derived.Deep.DeepAppendWide
namespace Go.Proofs.YtbknffhilfoakaaGreat
open Go.RowKit
set_option maxRecDepth 100000
set_option maxHeartbeats 4000000
theorem bC {w w':World} (hb:Below w.heap.size w w') {q:Nat} {o:Obj} (h:w.heap[q]? =some o):w'.heap[q]? =some o:=(hb.block q (Array.getElem?_eq_some_iff.1 h).1).trans h
def kE (n:Nat) (x:Tm n):Int:=if aP n x≠0 then aP n x else if ai n x=false then 5 else 0
theorem tZ (x0 x1:Int) (x2:ByteArray) (xa:Option Addr) (xl xc:Nat) (ck:Int) (cl:Bool) (w:World)
    (HK:Hid (∀w1,Below w.heap.size w w1->Calls Tryz.prog 31 #[.agg #[.int .i64 x0,.int .i64 x1,.string x2,.slice xa xl xc]] w1 fun e w'=>e=.returned (.int .i64 ck)/\Below w1.heap.size w1 w'))
    (HL:Hid (∀w1,Below w.heap.size w w1->Calls Tryz.prog 57 #[.agg #[.int .i64 x0,.int .i64 x1,.string x2,.slice xa xl xc]] w1 fun e w'=>e=.returned (.bool cl)/\Below w1.heap.size w1 w')):
    Calls Tryz.prog 26 #[.agg #[.int .i64 x0,.int .i64 x1,.string x2,.slice xa xl xc]] w fun e w'=>e=.returned (.int .i64 (if ck≠0 then ck else if cl=false then 5 else 0))/\Below w.heap.size w w':=by
 obtain⟨r,hr⟩:∃r,r=(if ck≠0 then ck else if cl=false then 5 else 0):=⟨_,rfl⟩
 rw[<-hr]
 have HR:=hide hr
 clear hr
 go_enter Tryz.func26,Tryz.ntmps26
 go_wp2_with fail
 refine(HK.out _ ((Below.refl _ _).alloc (Nat.le_refl _) _)).mono ?_
 rintro e w1 ⟨rfl,hb1⟩
 obtain⟨⟨t0,t1,t2,t3⟩,_⟩:=boxed hb1
 have HB1:Hid (Below w.heap.size w w1):=((Below.refl _ _).alloc (Nat.le_refl _) _).trans (hb1.mono (by simp))
 have hw1:w.heap.size<w1.heap.size:=by have:=hb1.size;simp at this;omega
 clear hb1
 by_cases hck:ck=0
 ·have b1:(ck !=0)=false:=by simp[hck]
  have HC:=hide hck
  clear hck
  go_wp2_with fail
  refine(HL.out _ HB1.out).mono ?_
  rintro e w2 ⟨rfl,hb2⟩
  have HB2:Hid (Below w.heap.size w w2):=HB1.out.trans (hb2.mono HB1.out.size)
  clear hb2
  cases cl
  ·go_wp2_with fail
   go_ret
   exact⟨bA (by rw[HR.out];simp[HC.out]),HB2.out⟩
  ·go_wp2_with fail
   go_ret
   exact⟨bA (by rw[HR.out];simp[HC.out]),HB2.out⟩
 ·have b1:(ck !=0)=true:=by simpa using hck
  have HC:=hide hck
  clear hck
  go_wp2_with fail
  go_ret
  exact⟨bA (by rw[HR.out];simp[HC.out]),HB1.out⟩
theorem nW (n:Nat) (x:Tm (n+1)) (B:Nat) (w:World) (hx:In B w (n+1) x) (hB:B<=w.heap.size) (hN:(nodes (n+1) x).length<=2097152):
    Calls Tryz.prog 26 #[val (n+1) x] w fun e w'=>e=.returned (.int .i64 (kE (n+1) x))/\Below w.heap.size w w':=by
 refine tZ x.1.1 x.1.2.1 x.1.2.2 x.2.1.1 x.2.2.length x.2.1.2 (aP (n+1) x) (ai (n+1) x) w ?_ ?_
 ·intro w1 h1
  exact jR (n+1) x B w1 (hx.below (h1.mono hB)) (Nat.le_trans hB h1.size) hN
 ·intro w1 h1
  rw[bZ]
  exact qg (n+1) x B w1 (hx.below (h1.mono hB)) (Nat.le_trans hB h1.size) hN
theorem Cn {n:Nat} {x:Tm n} {room:Int} {name:ByteArray}:(bJ name=false->ek n x room name=5)/\(bJ name=true->eZ room 0 1000=false->ek n x room name=1)/\(bJ name=true->eZ room 0 1000=true->kE n x≠0->ek n x room name=kE n x)/\(bJ name=true->eZ room 0 1000=true->kE n x=0->room<sz n x->ek n x room name=6)/\(bJ name=true->eZ room 0 1000=true->kE n x=0->¬room<sz n x->ek n x room name=0/\aP n x=0/\ai n x=true):=by
 have hin:eZ room 0 1000=true ↔ 0<=room/\room<=1000:=by simp[eZ]
 have hinf:eZ room 0 1000=false->¬(0<=room/\room<=1000):=fun h q=>by
  rw[hin.2 q]at h
  cases h
 unfold ek iF kE
 refine⟨fun h=>by rw[if_pos h],fun h h1=>by rw[if_neg (by rw[h];decide),if_pos (hinf h1)],fun h h1 h2=> ?_,fun h h1 h2 h3=> ?_,fun h h1 h2 h3=> ?_⟩
 ·rw[if_neg (by rw[h];decide),if_neg (fun q=>q (hin.1 h1))]
  by_cases c1:aP n x≠0
  ·simp only[if_pos c1]
  ·simp only[if_neg c1]at h2 ⊢
   by_cases c2:ai n x=false
   ·simp only[if_pos c2]
   ·simp only[if_neg c2]at h2
    exact absurd rfl h2
 ·rw[if_neg (by rw[h];decide),if_neg (fun q=>q (hin.1 h1))]
  by_cases c1:aP n x≠0
  ·simp only[if_pos c1]at h2
   exact absurd h2 c1
  ·simp only[if_neg c1]at h2 ⊢
   by_cases c2:ai n x=false
   ·simp only[if_pos c2]at h2
    exact absurd h2 (by decide)
   ·simp only[if_neg c2]
    rw[if_pos (decide_eq_false (by simp;omega))]
 ·rw[if_neg (by rw[h];decide),if_neg (fun q=>q (hin.1 h1))]
  by_cases c1:aP n x≠0
  ·simp only[if_pos c1]at h2
   exact absurd h2 c1
  ·simp only[if_neg c1]at h2 ⊢
   by_cases c2:ai n x=false
   ·simp only[if_pos c2]at h2
    exact absurd h2 (by decide)
   ·simp only[if_neg c2]
    refine⟨?_,by simpa using c1,by simpa using c2⟩
    rw[if_neg (by rw[decide_eq_true (by simp;omega)];decide)]
theorem KH (n:Nat) (x:Tm (n+1)) (room:Int) (name:ByteArray) (B:Nat) (w:World) (hsz:name.size<=9223372036854775807) (hx:In B w (n+1) x) (hB:B<=w.heap.size) (hN:(nodes (n+1) x).length<=2097152):
    Calls Tryz.prog 5 #[.string name,.agg #[.int .i64 x.1.1,.int .i64 x.1.2.1,.string x.1.2.2,.slice x.2.1.1 x.2.2.length x.2.1.2],.int .i64 room] w fun e w'=>∃p:Option Addr,e=.returned (.tuple #[.pointer p,.int .i64 (ek (n+1) x room name)])/\Hid (Below w.heap.size w w'/\(ek (n+1) x room name≠0->p=none)/\(ek (n+1) x room name=0->∃qb,p=some ⟨qb,0,none⟩/\w.heap.size<=qb/\∀D:Nat->Prop,(∀b,b<B->D b)->QA qb name room (lift 13 (n+1) x) [] none 0 (fun b=>D b/\b≠qb) w')):=by
 obtain⟨hE1,hE2,hE3,hE4,hE5⟩:=Cn (n:=n+1) (x:=x) (room:=room) (name:=name)
 obtain⟨E,hE⟩:∃E,E=ek (n+1) x room name:=⟨_,rfl⟩
 obtain⟨P,hP⟩:∃P,P=kE (n+1) x:=⟨_,rfl⟩
 obtain⟨Z,hZ⟩:∃Z,Z=sz (n+1) x:=⟨_,rfl⟩
 obtain⟨nb,hnb⟩:∃nb,nb=bJ name:=⟨_,rfl⟩
 obtain⟨ib,hib⟩:∃ib,ib=eZ room 0 1000:=⟨_,rfl⟩
 have hZ0:0<=Z/\Z<=4194304:=by
  have:=bD (n+1) x
  rw[hZ]
  omega
 rw[<-hE]at hE1 hE2 hE3 hE4 hE5 ⊢
 rw[<-hnb]at hE1 hE2 hE3 hE4 hE5
 rw[<-hib]at hE2 hE3 hE4 hE5
 rw[<-hP]at hE3 hE4 hE5
 rw[<-hZ]at hE4 hE5
 have HNM:=hide (fP name)
 have HIN:=hide (fe room 0 1000)
 rw[<-hnb]at HNM
 rw[<-hib]at HIN
 have HPU:Hid (∀W,Below w.heap.size w W->Calls Tryz.prog 26 #[.agg #[.int .i64 x.1.1,.int .i64 x.1.2.1,.string x.1.2.2,.slice x.2.1.1 x.2.2.length x.2.1.2]] W fun e w'=>e=.returned (.int .i64 P)/\Below W.heap.size W w'):=fun W hW=>by
  rw[hP]
  exact nW n x B W (hx.below (hW.mono hB)) (Nat.le_trans hB hW.size) hN
 have HSZ:Hid (∀W,Below w.heap.size w W->Calls Tryz.prog 27 #[.agg #[.int .i64 x.1.1,.int .i64 x.1.2.1,.string x.1.2.2,.slice x.2.1.1 x.2.2.length x.2.1.2]] W fun e w'=>e=.returned (.int .i64 Z)/\Below W.heap.size W w'):=fun W hW=>by
  rw[hZ]
  exact iP (n+1) x B W (hx.below (hW.mono hB)) (Nat.le_trans hB hW.size) hN
 have HFIN:Hid (nb=true->ib=true->P=0->¬room<Z->∀(W:World),Below w.heap.size w W->∀D:Nat->Prop,(∀b,b<B->D b)->QA W.heap.size name room (lift 13 (n+1) x) [] none 0 (fun b=>D b/\b≠W.heap.size) (W.alloc (.cells #[.string name,.int .i64 room,.int .i64 x.1.1,.int .i64 x.1.2.1,.string x.1.2.2,.slice x.2.1.1 x.2.2.length x.2.1.2,.slice none 0 0] 57))):=fun k1 k2 k3 k4 W hW D hD=>by
  obtain⟨_,hc,hcl⟩:=hE5 k1 k2 k3 k4
  obtain⟨hr13,hd13⟩:ak ⟨n+1,x⟩/\dW (n+1) x<13:=⟨ax.2 (aN.1 hc).1,by have:=(aN.1 hc).2.1;omega⟩
  have hA:Below W.heap.size W (W.alloc (.cells #[.string name,.int .i64 room,.int .i64 x.1.1,.int .i64 x.1.2.1,.string x.1.2.2,.slice x.2.1.1 x.2.2.length x.2.1.2,.slice none 0 0] 57)):=(Below.refl _ _).alloc (Nat.le_refl _) _
  have hb:=hW.trans (hA.mono hW.size)
  have hi:0<=room/\room<=1000:=by
   rw[hib]at k2
   simpa [eZ]using k2
  refine⟨?_,⟨Nat.zero_le _,Nat.zero_le _⟩,⟨mP 13 (n+1) x _ _ hr13 hd13 ((hx.below (hb.mono hB)).mono (Nat.le_trans hB hb.size)),lC 13 (n+1) x _ hr13 hd13 (hx.offBelow.mono fun b q=>⟨hD b q,by have:=hW.size;omega⟩)⟩,Or.inl rfl,fun y hy=> ?_,fun q=>q.2 rfl,hi.1,hi.2,by simp⟩
  ·rw[heap_alloc_new]
   simp[Jy,lift]
  ·simp only[List.mem_singleton]at hy
   subst hy
   have hs:=fJ 13 (n+1) x hr13 hd13
   exact⟨(bu hs).trans hc,(bI _ _ _ _ hs).trans hcl⟩
 clear hE hP hZ hnb hib
 go_enter Tryz.func5,Tryz.ntmps5
 go_upto_region 1 with fail
 generalize hw0:w.alloc _=w0
 have HB0:Hid (Below w.heap.size w w0):=by rw[<-hw0];exact(Below.refl _ _).alloc (Nat.le_refl _) _
 have HX0:Hid (w0.heap[w.heap.size]? =some (.cells #[.int .i64 x.1.1,.int .i64 x.1.2.1,.string x.1.2.2,.slice x.2.1.1 x.2.2.length x.2.1.2] 25)):=by rw[<-hw0];exact heap_alloc_new _ _
 clear hw0
 cases nb with
 | false=>
  have e5:=hE1 rfl
  subst e5
  go_wp2_with (go_at_call 25;refine(HNM.out _ hsz).mono ?_;rintro e w9 ⟨rfl,hw9⟩;obtain rfl:=hw9.symm;clear hw9)
  go_ret2
  exact⟨none,rfl,HB0.out,fun _=>rfl,fun q=>absurd q (by decide)⟩
 | true=>
 cases ib with
 | false=>
  have e5:=hE2 rfl rfl
  subst e5
  go_wp2_with (first|(go_at_call 25;refine(HNM.out _ hsz).mono ?_;rintro e w9 ⟨rfl,hw9⟩;obtain rfl:=hw9.symm;clear hw9)|(go_at_call 9;refine(HIN.out _).mono ?_;rintro e w9 ⟨rfl,hw9⟩;obtain rfl:=hw9.symm;clear hw9))
  go_ret2
  exact⟨none,rfl,HB0.out,fun _=>rfl,fun q=>absurd q (by decide)⟩
 | true=>
 have HEE:=hide (⟨hE3 rfl rfl,hE4 rfl rfl,hE5 rfl rfl⟩:_/\_/\_)
 clear hE1 hE2 hE3 hE4 hE5
 have x0:w0.cell? ⟨w.heap.size,0,none⟩=some (.int .i64 x.1.1):=ae HX0.out 0
 have x1:w0.cell? ⟨w.heap.size,1,none⟩=some (.int .i64 x.1.2.1):=ae HX0.out 1
 have x2:w0.cell? ⟨w.heap.size,2,none⟩=some (.string x.1.2.2):=ae HX0.out 2
 have x3:w0.cell? ⟨w.heap.size,3,none⟩=some (.slice x.2.1.1 x.2.2.length x.2.1.2):=ae HX0.out 3
 go_wp2_with (first|(go_at_call 25;refine(HNM.out _ hsz).mono ?_;rintro e w9 ⟨rfl,hw9⟩;obtain rfl:=hw9.symm;clear hw9)|(go_at_call 9;refine(HIN.out _).mono ?_;rintro e w9 ⟨rfl,hw9⟩;obtain rfl:=hw9.symm;clear hw9))
 refine(HPU.out _ HB0.out).mono ?_
 rintro e w1 ⟨rfl,hb1⟩
 have HB1:=hide (HB0.out.trans (hb1.mono HB0.out.size))
 have HX1:=hide (bC hb1 HX0.out)
 clear x0 x1 x2 x3 hb1
 by_cases hP0:P=0
 rotate_left
 ·have pb:(P !=0)=true:=by simpa using hP0
  have e5:=HEE.out.1 hP0
  subst e5
  go_wp2_with fail
  go_ret2
  exact⟨none,rfl,HB1.out,fun _=>rfl,fun q=>absurd q hP0⟩
 subst hP0
 have x0:w1.cell? ⟨w.heap.size,0,none⟩=some (.int .i64 x.1.1):=ae HX1.out 0
 have x1:w1.cell? ⟨w.heap.size,1,none⟩=some (.int .i64 x.1.2.1):=ae HX1.out 1
 have x2:w1.cell? ⟨w.heap.size,2,none⟩=some (.string x.1.2.2):=ae HX1.out 2
 have x3:w1.cell? ⟨w.heap.size,3,none⟩=some (.slice x.2.1.1 x.2.2.length x.2.1.2):=ae HX1.out 3
 go_wp2_with fail
 refine(HSZ.out _ HB1.out).mono ?_
 rintro e w2 ⟨rfl,hb2⟩
 have HB2:=hide (HB1.out.trans (hb2.mono HB1.out.size))
 have HX2:=hide (bC hb2 HX1.out)
 clear x0 x1 x2 x3 hb2
 by_cases hF:room<Z
 ·have e5:=HEE.out.2.1 (by simp) hF
  subst e5
  go_wp2_with fail
  go_ret2
  exact⟨none,rfl,HB2.out,fun _=>rfl,fun q=>absurd q (by decide)⟩
 have HQ:=hide (HFIN.out (by simp) (by simp) (by simp) (by omega) w2 HB2.out)
 have e5:=(HEE.out.2.2 (by simp) (by omega)).1
 have HE0:=hide e5
 clear e5
 have HA2:Hid (∀o,Below w.heap.size w (w2.alloc o)):=fun o=>HB2.out.alloc HB2.out.size o
 have HS2:=hide HB2.out.size
 have x0:w2.cell? ⟨w.heap.size,0,none⟩=some (.int .i64 x.1.1):=ae HX2.out 0
 have x1:w2.cell? ⟨w.heap.size,1,none⟩=some (.int .i64 x.1.2.1):=ae HX2.out 1
 have x2:w2.cell? ⟨w.heap.size,2,none⟩=some (.string x.1.2.2):=ae HX2.out 2
 have x3:w2.cell? ⟨w.heap.size,3,none⟩=some (.slice x.2.1.1 x.2.2.length x.2.1.2):=ae HX2.out 3
 go_wp2_with fail
 go_ret2
 exact⟨some ⟨w2.heap.size,0,none⟩,by rw[HE0.out];rfl,HA2.out _,fun q=>absurd HE0.out q,fun _=>⟨w2.heap.size,rfl,HS2.out,HQ.out⟩⟩
theorem xk {ys:List Tc} {ma:Option Addr} {mc:Nat} {W:World} (hc:ys.length<=20) (hr:ys=[]∨∃b o,ma=some ⟨b,o,none⟩/\∀(i:Nat) (y:Tc),ys[i]? =some y->Held W b (o+i*4) 13 y) (ty:TypeId):
    ∃v' w',(Builtin.append_ #[23,23] ty #[.slice none 0 0,.slice ma ys.length mc]).run Tryz.prog W=.ok v' w'/\w'.ownsRow W.heap.size 25 4 v' ys.length (aD (ys.map (dF 13)))/\Below W.heap.size W w':=by
 obtain⟨it,hit,htz0,htz1,htz2⟩:=info_parts bP
 cases ma with
 | none=>
  obtain rfl:ys=[]:=by
   rcases hr with h|⟨b,o,e,_⟩
   ·exact h
   ·cases e
  refine⟨.slice none 0 0,W, ?_,World.ownsRow_nil _ _ _ _,Below.refl _ _⟩
  simp[Builtin.append_,run_underlying Tryz.underlying23,sizeOf,typeInfo,hit,Builtin.lenOf,Builtin.firstCells]
 | some ad=>
  have hn:∀j u,(aD (ys.map (dF 13)))[j]? =some u->W.cell? (ad.add j)=some u:=by
   rcases hr with rfl|⟨b,o,e,h⟩
   ·intro j u hu
    simp[aD]at hu
   ·obtain rfl:=Option.some.inj e
    have h1:=mr h
    intro j u hu
    refine h1 j u ?_
    rw[<-hu]
    simp[cK,jZ,iW,Function.comp_def]
  obtain⟨v',w',r1,r2,r3,_⟩:=run_append_own_wide (P:=Tryz.prog) W W.heap.size 23 ty 25 it _ 4 56 Tryz.underlying23 hit htz0 htz1 htz2 rfl (by decide) (.slice none 0 0) 0 [] (World.ownsRow_nil _ _ _ _) ad ys.length mc (aD (ys.map (dF 13))) (by rw[fK,List.length_map]) hn (il _) (by unfold maxLen;omega) (by omega) (Nat.le_refl _)
  refine⟨v',w',r1,by simpa using r2,Below.grown (Below.refl _ _) r3 (Nat.le_refl _) fun k e=>by simp[Value.ownBlock]at e⟩
theorem QA.cellsB {qb:Nat} {name:ByteArray} {room:Int} {x:Tc} {ys:List Tc} {ma:Option Addr} {mc:Nat} {D:Nat->Prop} {w:World} (h:QA qb name room x ys ma mc D w) {L:Nat} (hL:L=ys.length) {W:World} (hW:W.heap[qb]? =w.heap[qb]?):W.cell? ⟨qb,0,none⟩=some (.string name)/\W.cell? ⟨qb,1,none⟩=some (.int .i64 room)/\(W.cell? ⟨qb,2,none⟩=some (.int .i64 x.1.1)/\W.cell? ⟨qb,3,none⟩=some (.int .i64 x.1.2.1)/\W.cell? ⟨qb,4,none⟩=some (.string x.1.2.2)/\W.cell? ⟨qb,5,none⟩=some (.slice x.2.1.1 x.2.2.length x.2.1.2))/\W.cell? ⟨qb,6,none⟩=some (.slice ma L mc):=by
 have hb:=hW.trans h.box
 rw[<-hL]at hb
 exact⟨ae hb 0,ae hb 1,⟨ae hb 2,ae hb 3,ae hb 4,ae hb 5⟩,ae hb 6⟩
theorem QA.mails {qb:Nat} {name:ByteArray} {room:Int} {x:Tc} {ys:List Tc} {ma:Option Addr} {mc:Nat} {D:Nat->Prop} {w W:World} (h:QA qb name room x ys ma mc D w) (hb:Below w.heap.size w W) {zs:List Tc} {v:Value} {B n:Nat} (hB:w.heap.size<=B) (hn:zs.length=n) (ho:W.ownsRow B 25 4 v n (aD (zs.map (dF 13)))) (hz:∀z∈zs,(In w.heap.size w 13 z/\Off D 13 z)/\aP 13 z=0/\ai 13 z=true) (h20:n<=20):
    ∃ma' mc',v=.slice ma' n mc'/\QA qb name room x zs ma' mc' (fun b=>D b∨w.heap.size<=b) (W.setCell ⟨qb,6,none⟩ v)/\Kee (fun b=>b=qb) w (W.setCell ⟨qb,6,none⟩ v):=by
 have hql:=(Array.getElem?_eq_some_iff.1 h.box).1
 have hsz:(W.setCell ⟨qb,6,none⟩ v).heap.size=W.heap.size:=by simp[World.setCell]
 have hset:∀b,b≠qb->(W.setCell ⟨qb,6,none⟩ v).heap[b]? =W.heap[b]? :=fun b hq=>by
  have:qb≠b:=fun e=>hq e.symm
  simp[World.setCell,Array.getElem?_modify,this]
 have hk:Kee (fun b=>b=qb) w (W.setCell ⟨qb,6,none⟩ v):=(aG hb _).trans (aW W qb 6 v) fun _ _ e=>e
 obtain⟨ma',mc',rfl⟩:∃a c,v=.slice a n c:=by
  rcases ho.2 with⟨rfl,rfl⟩|⟨g,c,cur,rfl,_⟩
  ·exact⟨none,0,rfl⟩
  ·exact⟨_,c,rfl⟩
 refine⟨ma',mc',rfl,⟨?_, ?_, ?_, ?_,fun y hy=> ?_,fun e=> ?_,h.bounds.1,h.bounds.2.1,by omega⟩,hk⟩
 ·have h1:=(hb.block qb hql).trans h.box
  simp[World.setCell,Array.getElem?_modify,h1,Jy,hn]
 ·rcases ho.2 with⟨e,e0⟩|⟨g,c,cur,e,_,_,l1,l2,_⟩
  ·injection e with _ _ e
   subst e
   exact⟨by omega,Nat.zero_le _⟩
  ·injection e with _ _ e
   subst e
   exact⟨by omega,l2⟩
 ·exact dn (by rw[hsz];exact hb.size) (fun b hd hl=>(hset b fun e=>h.out (e▸hd)).trans (hb.block b hl)) (fun b hd _=>Or.inl hd) h.st
 ·rcases ho.2 with⟨e,e0⟩|⟨g,c,cur,e,hg0,hg,_⟩
  ·exact Or.inl (List.eq_nil_of_length_eq_zero (by omega))
  ·injection e with e1 _ e3
   subst e1 e3
   have hgl:=(Array.getElem?_eq_some_iff.1 hg).1
   refine Or.inr ⟨g,0,rfl,by rw[hsz];exact hgl,Or.inr (by omega),fun i y hy=> ?_⟩
   have hm:=hz y (List.mem_of_getElem? hy)
   exact⟨eG (hset g fun e=>by omega) (Ck ho i y hy),dn (by rw[hsz];exact hb.size) (fun b hd hl=>(hset b fun e=>h.out (e▸hd)).trans (hb.block b hl)) (fun b hd _=>Or.inl hd) hm.1⟩
 ·rcases List.mem_cons.1 hy with rfl|hy
  ·exact h.ok _ (by simp)
  ·exact(hz y hy).2
 ·rcases e with e|e
  ·exact h.out e
  ·omega
theorem Gf {v:Value} {n base g:Nat} {xs:List Value} {m:Nat} {t:Tm (m+1)} {W:World} (ho:W.ownsRow base 25 4 v n xs) (hb:base<=W.heap.size) (hn:n<=20) (hg:W.heap[g]? =some (.cells #[.int .i64 t.1.1,.int .i64 t.1.2.1,.string t.1.2.2,.slice t.2.1.1 t.2.2.length t.2.1.2] 25)) (ty:TypeId):
    ∃v' w',(Builtin.append_ #[23,23] ty #[v,.slice (some ⟨g,0,none⟩) 1 1]).run Tryz.prog W=.ok v' w'/\w'.ownsRow base 25 4 v' (n+1) (xs++kG (dF (m+1) t))/\Below base W w':=by
 obtain⟨it,hit,htz0,htz1,htz2⟩:=info_parts bP
 obtain⟨v',w',r1,r2,r3,_⟩:=run_append_own_wide (P:=Tryz.prog) W base 23 ty 25 it _ 4 56 Tryz.underlying23 hit htz0 htz1 htz2 rfl (by decide) v n xs ho ⟨g,0,none⟩ 1 1 (kG (dF (m+1) t)) rfl (World.news_of_block (cs:= #[.int .i64 t.1.1,.int .i64 t.1.2.1,.string t.1.2.2,.slice t.2.1.1 t.2.2.length t.2.1.2]) (t:=25) (fr:=(0,0)) hg) (il [dF (m+1) t]) (by unfold maxLen;omega) (by omega) hb
 exact⟨v',w',r1,r2,Below.grown (Below.refl _ _) r3 hb fun k e=>(ho.lt k e).1⟩
theorem Ho {n:Nat} {t:Tm n} {room:Int} {x:Tc} {ys:List Tc} (hc:∀y∈x::ys,aP 13 y=0):(20<=ys.length->fO n t room (cn 13 x) (ys.map (cn 13))=2)/\(¬20<=ys.length->kE n t≠0->fO n t room (cn 13 x) (ys.map (cn 13))=kE n t)/\(¬20<=ys.length->kE n t=0->(room<((x::ys).map (sz 13)).sum+sz n t->fO n t room (cn 13 x) (ys.map (cn 13))=6)/\(¬room<((x::ys).map (sz 13)).sum+sz n t->fO n t room (cn 13 x) (ys.map (cn 13))=0)/\aP n t=0/\ai n t=true):=by
 have e:((cn 13 x::ys.map (cn 13)).map (sz 13)).sum=((x::ys).map (sz 13)).sum:=lK (l:=x::ys) hc
 unfold fO kE
 rw[List.length_map,e]
 refine⟨fun h=>by rw[if_pos h],fun h=> ?_,fun h=> ?_⟩
 ·rw[if_neg h]
  by_cases c1:aP n t≠0
  ·simp only[if_pos c1]
   exact fun _=>trivial
  ·simp only[if_neg c1]
   by_cases c2:ai n t=false
   ·simp only[if_pos c2]
    exact fun _=>trivial
   ·simp only[if_neg c2]
    exact fun q=>absurd rfl q
 ·rw[if_neg h]
  by_cases c1:aP n t≠0
  ·simp only[if_pos c1]
   exact fun q=>absurd q c1
  ·simp only[if_neg c1]
   by_cases c2:ai n t=false
   ·simp only[if_pos c2]
    exact fun q=>absurd q (by decide)
   ·simp only[if_neg c2]
    exact fun _=>⟨fun q=>by rw[if_neg (by omega)],fun q=>by rw[if_pos (by omega)],by simpa using c1,by simpa using c2⟩
theorem dC {w w':World} {v x' v':Value} {o:Oper} {a:Act} {K:Act->World->Prop} {Q:Exit->Act->World->Prop} (s x:Operand) (ho:o.op=.call {callee:=.builtin .append,args:= #[s,x],argTypes:= #[23,23]})
    (hs:a.eval s=v) (hx:a.eval x=x') (hr:(Builtin.append_ #[23,23] o.type #[v,x']).run Tryz.prog w=.ok v' w') (hK:K (a.put o.dst v') w'):Oper.wp Tryz.prog o a w K Q:=by
 unfold Oper.wp execOp
 simp only[ho,resolve,invoke,builtin,Sem.run_bind,Sem.run_pure,Result.andThen_ok,List.map_toArray,List.map_cons,List.map_nil,hs,hx,hr]
 exact hK
theorem jX {w:World} {base:Nat} {e:TypeId} {sz:Nat} {v:Value} {n:Nat} {xs:List Value} (h:w.ownsRow base e sz v n xs):∃a c,v=.slice a n c:=by
 rcases h.2 with⟨rfl,rfl⟩|⟨g,c,cur,rfl,_⟩
 ·exact⟨none,0,rfl⟩
 ·exact⟨_,c,rfl⟩
def Ku (qb:Nat) (name:ByteArray) (room:Int) (x:Tc) (D:Nat->Prop) (w:World) (R:List Tc) (w':World):Prop:=Kee (fun b=>b=qb) w w'/\∃ys' ma' mc',QA qb name room x ys' ma' mc' (fun b=>D b∨w.heap.size<=b) w'/\ys'.map (cn 13)=R
theorem BA {P:Program} {ops:Array Oper} {Q:Exit->Act->World->Prop} {md:Region.Mode} {S:World->Prop} {X:Nat} {i j:Nat} {oi oj:Oper} {fuel:Nat} {listed:Array Bool} {a:Act} {w:World} (hr:Region.ready md ops listed=[i,j]) (hoi:ops[i]? =some oi) (hoj:ops[j]? =some oj) (hgi:oi.guard=none) (hgj:oj.guard=none) (hi:i≠X) (hj:j≠X)
    (h1:∀K:Act->World->Prop,Hid (∀a' w',S w'->gJ P md ops Q S X fuel (listed.setIfInBounds i true) a' w'->K a' w')->oi.wp P a w K Q)
    (h2:∀K:Act->World->Prop,Hid (∀a' w',S w'->gJ P md ops Q S X fuel (listed.setIfInBounds j true) a' w'->K a' w')->oj.wp P a w K Q):gJ P md ops Q S X (fuel+1) listed a w:=by
 refine⟨fun h0=>(by rw[hr]at h0;cases h0),fun k hk=> ?_⟩
 rw[hr]at hk
 unfold wpOp
 rcases List.mem_cons.1 hk with rfl|hk
 ·simp only[hoi]
  have hw:Region.wanted oi (yielded ops a.tmps)=true:=by simp[Region.wanted,hgi]
  simp only[hw,if_true]
  exact Or.inl (h1 _ fun a' w' k1 k2=>⟨fun _=>k1,k2⟩)
 ·obtain rfl:=List.mem_singleton.1 hk
  simp only[hoj]
  have hw:Region.wanted oj (yielded ops a.tmps)=true:=by simp[Region.wanted,hgj]
  simp only[hw,if_true]
  exact Or.inl (h2 _ fun a' w' k1 k2=>⟨fun _=>k1,k2⟩)
theorem FR {qb:Nat} {name:ByteArray} {room:Int} {x:Tc} {ys:List Tc} {ma:Option Addr} {mc:Nat} {D:Nat->Prop} {w:World} (h:QA qb name room x ys ma mc D w) {n:Nat} (t:Tm (n+1)) (ht:In w.heap.size w (n+1) t) (hto:Off D (n+1) t) (hN:(nodes (n+1) t).length<=2097152):
    Calls Tryz.prog 8 #[.pointer (some ⟨qb,0,none⟩),.agg #[.int .i64 t.1.1,.int .i64 t.1.2.1,.string t.1.2.2,.slice t.2.1.1 t.2.2.length t.2.1.2]] w fun e w'=>e=.returned (.int .i64 (fO (n+1) t room (cn 13 x) (ys.map (cn 13))))/\Hid (Ku qb name room x D w (if fO (n+1) t room (cn 13 x) (ys.map (cn 13))=0 then ys.map (cn 13)++ [cn (n+1) t]else ys.map (cn 13)) w'):=by
 obtain⟨hE1,hE2,hE3⟩:=Ho (n:=n+1) (t:=t) (room:=room) fun y hy=>(h.ok y hy).1
 obtain⟨E,hE⟩:∃E,E=fO (n+1) t room (cn 13 x) (ys.map (cn 13)):=⟨_,rfl⟩
 obtain⟨P,hP⟩:∃P,P=kE (n+1) t:=⟨_,rfl⟩
 obtain⟨Z,hZ⟩:∃Z,Z=sz (n+1) t:=⟨_,rfl⟩
 obtain⟨A,hA⟩:∃A,A=((x::ys).map (sz 13)).sum:=⟨_,rfl⟩
 obtain⟨L,hL⟩:∃L,L=ys.length:=⟨_,rfl⟩
 rw[<-hE]at hE1 hE2 hE3 ⊢
 obtain⟨R,hR⟩:∃R,R=if E=0 then ys.map (cn 13)++ [cn (n+1) t]else ys.map (cn 13):=⟨_,rfl⟩
 rw[<-hR]
 rw[<-hL]at hE1 hE2 hE3
 rw[<-hP]at hE2 hE3
 rw[<-hA,<-hZ]at hE3
 have hZ0:0<=Z/\Z<=4194304:=by
  have:=bD (n+1) t
  rw[hZ]
  omega
 have hA0:0<=A/\A<=4400:=by
  have h1:=kQ (ys:=x::ys) (fun y hy=>(h.ok y hy).1) 21
  rw[List.take_of_length_le (by simp only[List.length_cons];have:=h.bounds.2.2;omega),<-hA]at h1
  omega
 have hL20:L<=20:=by rw[hL];exact h.bounds.2.2
 have hr0:0<=room/\room<=1000:=⟨h.bounds.1,h.bounds.2.1⟩
 have hql:=(Array.getElem?_eq_some_iff.1 h.box).1
 have HLV:Hid (∀W,Below w.heap.size w W->Calls Tryz.prog 15 #[.pointer (some ⟨qb,0,none⟩)] W fun e w'=>e=.returned (.int .i64 A)/\Below W.heap.size W w'):=fun W hW=>by
  rw[hA]
  exact FD (h.later hW)
 have HPU:Hid (∀W,Below w.heap.size w W->Calls Tryz.prog 26 #[.agg #[.int .i64 t.1.1,.int .i64 t.1.2.1,.string t.1.2.2,.slice t.2.1.1 t.2.2.length t.2.1.2]] W fun e w'=>e=.returned (.int .i64 P)/\Below W.heap.size W w'):=fun W hW=>by
  rw[hP]
  exact nW n t W.heap.size W ((ht.below hW).mono hW.size) (Nat.le_refl _) hN
 have HSZ:Hid (∀W,Below w.heap.size w W->Calls Tryz.prog 27 #[.agg #[.int .i64 t.1.1,.int .i64 t.1.2.1,.string t.1.2.2,.slice t.2.1.1 t.2.2.length t.2.1.2]] W fun e w'=>e=.returned (.int .i64 Z)/\Below W.heap.size W w'):=fun W hW=>by
  rw[hZ]
  exact iP (n+1) t W.heap.size W ((ht.below hW).mono hW.size) (Nat.le_refl _) hN
 have HQB:Hid (∀W,Below w.heap.size w W->W.cell? ⟨qb,1,none⟩=some (.int .i64 room)/\W.cell? ⟨qb,6,none⟩=some (.slice ma L mc)):=fun W hW=>by
  obtain⟨_,h1,_,h2⟩:=h.cellsB hL (hW.block qb hql)
  exact⟨h1,h2⟩
 have HFZ:Hid (∀W,Below w.heap.size w W->∀j,W.frozen? ⟨qb,j,none⟩=false):=fun W hW j=>by
  have hb:=(hW.block qb hql).trans h.box
  simp[World.frozen?,hb]
 have HNO:Hid (∀W,Below w.heap.size w W->E≠0->Hid (Ku qb name room x D w R W)):=fun W hW h0=>⟨aG hW _,ys,ma,mc,(h.later hW).kept (Nat.le_refl _) rfl (fun _ _ _=>rfl) (fun b q _=>Or.inl q) (fun e=>by rcases e with e|e;exact h.out e;omega),by rw[hR,if_neg h0]⟩
 have HAP:Hid (∀W,Below w.heap.size w W->∃v' w',(Builtin.append_ #[23,23] 23 #[.slice none 0 0,.slice ma L mc]).run Tryz.prog W=.ok v' w'/\w'.ownsRow W.heap.size 25 4 v' L (aD (ys.map (dF 13)))/\Below W.heap.size W w'):=fun W hW=>by
  rw[hL]
  refine xk h.bounds.2.2 ?_ _
  rcases h.row with e|⟨b,o,e,hl,_,hr⟩
  ·exact Or.inl e
  ·exact Or.inr ⟨b,o,e,fun i y hy=>(hr i y hy).1.below hW hl⟩
 have HFN:Hid (∀(W:World) (v:Value) (B:Nat),Below w.heap.size w W->w.heap.size<=B->L<20->P=0->E=0->aP (n+1) t=0->ai (n+1) t=true->W.ownsRow B 25 4 v (L+1) (aD (ys.map (dF 13))++kG (dF (n+1) t))->Hid (Ku qb name room x D w R (W.setCell ⟨qb,6,none⟩ v))):=fun W v B hW hB hlt _ h0 hc hcl ho=>by
  obtain⟨hr13,hd13⟩:ak ⟨n+1,t⟩/\dW (n+1) t<13:=⟨ax.2 (aN.1 hc).1,by have:=(aN.1 hc).2.1;omega⟩
  have hs:=fJ 13 (n+1) t hr13 hd13
  obtain⟨ma',mc',_,h1,h2⟩:=h.mails hW (zs:=ys++ [lift 13 (n+1) t]) (n:=L+1) hB (by simp[hL]) (by simpa [aD,Cf]using ho) (fun z hz=>by
   rcases List.mem_append.1 hz with hz|hz
   ·refine⟨?_,h.ok z (List.mem_cons_of_mem _ hz)⟩
    rcases h.row with e|⟨b,o,e,hl,_,hr⟩
    ·rw[e]at hz
     cases hz
    ·obtain⟨i,hi⟩:=List.getElem?_of_mem hz
     exact(hr i z hi).2
   ·rw[List.mem_singleton.1 hz]
    exact⟨⟨mP 13 (n+1) t _ _ hr13 hd13 ht,lC 13 (n+1) t _ hr13 hd13 hto⟩,(bu hs).trans hc,(bI _ _ _ _ hs).trans hcl⟩) (by omega)
  exact⟨h2,_,ma',mc',h1,by rw[hR,if_pos h0,List.map_append,List.map_singleton,gq hs]⟩
 clear h hE hP hZ hA hL hR ht hto
 go_enter Tryz.func8,Tryz.ntmps8
 go_upto_region 1 with fail
 generalize hw0:w.alloc _=w0
 have HB0:Hid (Below w.heap.size w w0):=by rw[<-hw0];exact(Below.refl _ _).alloc (Nat.le_refl _) _
 have HX0:Hid (w0.heap[w.heap.size]? =some (.cells #[.int .i64 t.1.1,.int .i64 t.1.2.1,.string t.1.2.2,.slice t.2.1.1 t.2.2.length t.2.1.2] 25)):=by rw[<-hw0];exact heap_alloc_new _ _
 clear hw0
 have HTC:Hid (∀W:World,W.heap[w.heap.size]? =some (.cells #[.int .i64 t.1.1,.int .i64 t.1.2.1,.string t.1.2.2,.slice t.2.1.1 t.2.2.length t.2.1.2] 25)->W.cell? ⟨w.heap.size,0,none⟩=some (.int .i64 t.1.1)/\W.cell? ⟨w.heap.size,1,none⟩=some (.int .i64 t.1.2.1)/\W.cell? ⟨w.heap.size,2,none⟩=some (.string t.1.2.2)/\W.cell? ⟨w.heap.size,3,none⟩=some (.slice t.2.1.1 t.2.2.length t.2.1.2)):=fun W hW=>⟨ae hW 0,ae hW 1,ae hW 2,ae hW 3⟩
 obtain⟨q1,q6⟩:=HQB.out _ HB0.out
 by_cases h20:20<=L
 ·have e2:=hE1 h20
  have b2:¬(L:Int)<20:=by omega
  have HR:=hide (HNO.out _ HB0.out (by rw[e2];decide))
  have HE2:=hide e2
  clear e2 hE1 hE2 hE3
  go_wp2_with fail
  go_ret
  exact⟨bA HE2.out.symm,HR.out⟩
 have HE3:=hide (hE3 h20)
 have HE2:=hide (hE2 h20)
 have b2:(L:Int)<20:=by omega
 clear hE1 hE2 hE3
 obtain⟨x0,x1,x2,x3⟩:=HTC.out _ HX0.out
 go_wp2_with fail
 refine(HPU.out _ HB0.out).mono ?_
 rintro e w1 ⟨rfl,hb1⟩
 have HB1:=hide (HB0.out.trans (hb1.mono HB0.out.size))
 have HX1:=hide (bC hb1 HX0.out)
 clear x0 x1 x2 x3 hb1 q1 q6
 by_cases hP0:P=0
 rotate_left
 ·have pb:(P !=0)=true:=by simpa using hP0
  have e2:=HE2.out hP0
  have HR:=hide (HNO.out _ HB1.out (by rw[e2];exact hP0))
  have HEE:=hide e2
  clear e2
  go_wp2_with fail
  go_ret
  exact⟨bA HEE.out.symm,HR.out⟩
 have HP0:=hide hP0
 have pb:(P !=0)=false:=by simpa using hP0
 have HE4:=hide (HE3.out hP0)
 obtain⟨hE4,hE5,hc,hcl⟩:=HE4.out
 have HCC:=hide (⟨hc,hcl⟩:_/\_)
 clear hP0 hc hcl
 have HD1:Hid (Below w1.heap.size w1 w1.drew):=(Below.refl _ _).drew
 have HSS:Hid (∀W,Below w1.heap.size w1 W->W.cell? ⟨qb,1,none⟩=some (.int .i64 room)/\W.cell? ⟨w.heap.size,0,none⟩=some (.int .i64 t.1.1)/\W.cell? ⟨w.heap.size,1,none⟩=some (.int .i64 t.1.2.1)/\W.cell? ⟨w.heap.size,2,none⟩=some (.string t.1.2.2)/\W.cell? ⟨w.heap.size,3,none⟩=some (.slice t.2.1.1 t.2.2.length t.2.1.2)):=fun W hW=>⟨(HQB.out _ (HB1.out.trans (hW.mono HB1.out.size))).1,HTC.out W (bC hW HX1.out)⟩
 obtain⟨q1,x0,x1,x2,x3⟩:=HSS.out w1 (Below.refl _ _)
 go_upto_region 6 with fail
 go_region_held3 (fun W=>W.cell? ⟨qb,1,none⟩=some (.int .i64 room)/\W.cell? ⟨w.heap.size,0,none⟩=some (.int .i64 t.1.1)/\W.cell? ⟨w.heap.size,1,none⟩=some (.int .i64 t.1.2.1)/\W.cell? ⟨w.heap.size,2,none⟩=some (.string t.1.2.2)/\W.cell? ⟨w.heap.size,3,none⟩=some (.slice t.2.1.1 t.2.2.length t.2.1.2))
  (first|(go_keep;done)|exact HSS.out _ HD1.out|exact HSS.out _ HB2.out|exact HSS.out _ HB3.out) ((first
   | (go_at_call 15;refine(HLV.out _ (HB1.out.trans (HD1.out.mono HB1.out.size))).mono ?_;rintro e w2 ⟨rfl,hb2⟩;have HB2:=hide (HD1.out.trans (hb2.mono HD1.out.size));clear hb2)
   | (go_at_call 27;refine(HSZ.out _ (HB1.out.trans (HB2.out.mono HB1.out.size))).mono ?_;rintro e w3 ⟨rfl,hb3⟩;have HB3:=hide (HB2.out.trans (hb3.mono HB2.out.size));clear hb3)))
 have HBW:=hide (HB1.out.trans (HB3.out.mono HB1.out.size))
 have HX3:=hide (bC HB3.out HX1.out)
 clear q1 x0 x1 x2 x3
 have hAZ:IntKind.i64.wrap (A+Z)=A+Z:=by rw[IntKind.wrap];simp[IntKind.bits,IntKind.signed];omega
 by_cases hF:room<A+Z
 ·have e6:=hE4 (by omega)
  have bF:decide (room<A+Z)=true:=by simpa using hF
  have HR:=hide (HNO.out _ HBW.out (by rw[e6];decide))
  have HEE:=hide e6
  clear e6
  go_wp2_with fail
  go_ret
  exact⟨bA HEE.out.symm,HR.out⟩
 have bF:decide (room<A+Z)=false:=by simpa using hF
 have HE0:=hide (hE5 (by omega))
 clear hE4 hE5
 go_upto_region 8 with fail
 refine wp_region_noPanic ?_
 have HS3:Hid (Below w3.heap.size w3 w3.drew):=(Below.refl _ _).drew
 have HSC:Hid (∀W,Below w3.heap.size w3 W->W.cell? ⟨qb,6,none⟩=some (.slice ma L mc)/\W.cell? ⟨w.heap.size,0,none⟩=some (.int .i64 t.1.1)/\W.cell? ⟨w.heap.size,1,none⟩=some (.int .i64 t.1.2.1)/\W.cell? ⟨w.heap.size,2,none⟩=some (.string t.1.2.2)/\W.cell? ⟨w.heap.size,3,none⟩=some (.slice t.2.1.1 t.2.2.length t.2.1.2)):=fun W hW=>⟨(HQB.out _ (HBW.out.trans (hW.mono HBW.out.size))).2,HTC.out W (bC hW HX3.out)⟩
 refine fD (fun W=>Below w3.heap.size w3 W) 11 (by kernel_rfl) ?_
 try simp only[List.size_toArray]
 refine ah (i:=0) (v:=.pointer (some ⟨qb,0,none⟩)) rfl (by kernel_rfl) (by kernel_rfl) (by kernel_rfl) (by kernel_rfl) (fun _ _ _ h=>h) rfl (fun w' hS'=> ?_) HS3.out ?_
 ·go_simp
  try with_reducible rfl
 simp only[Act.put,List.getElem_toArray,List.getElem_cons_zero,List.setIfInBounds_toArray,List.set_cons_zero,List.set_cons_succ]
 refine ah (i:=1) (v:=.pointer (some ⟨qb,0,none⟩)) rfl (by kernel_rfl) (by kernel_rfl) (by kernel_rfl) (by kernel_rfl) (fun _ _ _ h=>h) rfl (fun w' hS'=> ?_) HS3.out ?_
 ·go_simp
  try with_reducible rfl
 simp only[Act.put,List.getElem_toArray,List.getElem_cons_zero,List.getElem_cons_succ,List.setIfInBounds_toArray,List.set_cons_zero,List.set_cons_succ]
 refine ah (i:=2) (v:=.pointer (some ⟨qb,0,none⟩)) rfl (by kernel_rfl) (by kernel_rfl) (by kernel_rfl) (by kernel_rfl) (fun _ _ _ h=>h) rfl (fun w' hS'=> ?_) HS3.out ?_
 ·go_simp
  try with_reducible rfl
 simp only[Act.put,List.getElem_toArray,List.getElem_cons_zero,List.getElem_cons_succ,List.setIfInBounds_toArray,List.set_cons_zero,List.set_cons_succ]
 refine ah (i:=3) (v:=.pointer (some ⟨qb,6,none⟩)) rfl (by kernel_rfl) (by kernel_rfl) (by kernel_rfl) (by kernel_rfl) (fun _ _ _ h=>h) rfl (fun w' hS'=> ?_) HS3.out ?_
 ·go_simp
  try with_reducible rfl
 simp only[Act.put,List.getElem_toArray,List.getElem_cons_zero,List.getElem_cons_succ,List.setIfInBounds_toArray,List.set_cons_zero,List.set_cons_succ]
 refine ah (i:=4) (v:=.slice ma L mc) rfl (by kernel_rfl) (by kernel_rfl) (by kernel_rfl) (by kernel_rfl) (fun _ _ _ h=>h) rfl (fun w' hS'=> ?_) HS3.out ?_
 ·obtain⟨f6,_⟩:=HSC.out w' hS'
  go_simp
  try with_reducible rfl
 simp only[Act.put,List.getElem_toArray,List.getElem_cons_zero,List.getElem_cons_succ,List.setIfInBounds_toArray,List.set_cons_zero,List.set_cons_succ]
 refine ah (i:=6) (v:=.agg #[.int .i64 t.1.1,.int .i64 t.1.2.1,.string t.1.2.2,.slice t.2.1.1 t.2.2.length t.2.1.2]) rfl (by kernel_rfl) (by kernel_rfl) (by kernel_rfl) (by kernel_rfl) (fun _ _ _ h=>h) rfl (fun w' hS'=> ?_) HS3.out ?_
 ·obtain⟨_,f0,f1,f2,f3⟩:=HSC.out w' hS'
  go_simp
  try with_reducible rfl
 simp only[Act.put,List.getElem_toArray,List.getElem_cons_zero,List.getElem_cons_succ,List.setIfInBounds_toArray,List.set_cons_zero,List.set_cons_succ]
 refine BA (i:=5) (j:=7) (by kernel_rfl) rfl rfl rfl rfl (by decide) (by decide) (fun K hK=> ?_) (fun K hK=> ?_)
 ·obtain⟨v5,w5,r5,ho5,hb5⟩:=HAP.out _ (HBW.out.trans (HS3.out.mono HBW.out.size))
  have HBv:Hid (Below w3.heap.size w3 w5):=HS3.out.trans hb5
  refine dC (.const (.slice none 0 0)) (.tmp 31) rfl rfl rfl r5 ?_
  refine hK.out _ _ HBv.out ?_
  have HBL:Hid (w3.heap.size<=w3.drew.heap.size):=Nat.le_refl _
  have HO4:=hide ho5
  clear hK r5 ho5 hb5
  simp only[Act.put,List.getElem_toArray,List.getElem_cons_zero,List.getElem_cons_succ,List.setIfInBounds_toArray,List.set_cons_zero,List.set_cons_succ]
  refine aV (i:=7) (by kernel_rfl) rfl rfl (fun K hK=> ?_) (by decide)
  have HB5:Hid (∀o,Below w3.heap.size w3 (w5.alloc o)):=fun o=>HBv.out.alloc HBv.out.size o
  have HO5:Hid (∀o,(w5.alloc o).ownsRow w3.drew.heap.size 25 4 v5 L (aD (ys.map (dF 13)))):=fun o=>HO4.out.alloc o
  have HG5:=hide (heap_alloc_new w5 (.cells #[.int .i64 t.1.1,.int .i64 t.1.2.1,.string t.1.2.2,.slice t.2.1.1 t.2.2.length t.2.1.2] 25))
  go_simp
  refine hK.out _ _ (fun _=>HB5.out _) fun _=> ?_
  clear hK
  replace HB5:=hide (HB5.out (.cells #[.int .i64 t.1.1,.int .i64 t.1.2.1,.string t.1.2.2,.slice t.2.1.1 t.2.2.length t.2.1.2] 25))
  replace HO5:=hide (HO5.out (.cells #[.int .i64 t.1.1,.int .i64 t.1.2.1,.string t.1.2.2,.slice t.2.1.1 t.2.2.length t.2.1.2] 25))
  have HBB:=hide (HB5.out.size)
  refine aV (i:=8) (by kernel_rfl) rfl rfl (fun K hK=> ?_) (by decide)
  obtain⟨v6,w6,r6,ho6,hb6⟩:=Gf HO5.out (HBB.out) (by omega) HG5.out 23
  have HB6:Hid (Below w3.heap.size w3 w6):=HB5.out.trans (hb6.mono HBL.out)
  obtain⟨a6,c6,rfl⟩:=jX ho6
  have HFI:=hide (HFN.out w6 _ _ (HBW.out.trans (HB6.out.mono HBW.out.size)) (Nat.le_trans HBW.out.size HBL.out) (by omega) HP0.out HE0.out HCC.out.1 HCC.out.2 ho6)
  refine dC (.tmp 32) (.tmp 34) rfl rfl rfl r6 ?_
  refine hK.out _ _ (fun _=>HB6.out) fun _=> ?_
  clear hK r6 ho6 hb6
  simp only[Act.put,List.getElem_toArray,List.getElem_cons_zero,List.getElem_cons_succ,List.setIfInBounds_toArray,List.set_cons_zero,List.set_cons_succ]
  refine aV (i:=9) (by kernel_rfl) rfl rfl (fun K hK=> ?_) (by decide)
  go_simp
  refine hK.out _ _ (fun _=>HB6.out) fun _=> ?_
  clear hK
  try simp only[Act.put,List.getElem_toArray,List.getElem_cons_zero,List.getElem_cons_succ,List.setIfInBounds_toArray,List.set_cons_zero,List.set_cons_succ]
  refine aV (i:=10) (by kernel_rfl) rfl rfl (fun K hK=> ?_) (by decide)
  go_simp
  refine hK.out _ _ (fun _=>HB6.out) fun _=> ?_
  clear hK
  try simp only[Act.put,List.getElem_toArray,List.getElem_cons_zero,List.getElem_cons_succ,List.setIfInBounds_toArray,List.set_cons_zero,List.set_cons_succ]
  refine dU (by kernel_rfl) rfl rfl (by kernel_rfl) fun K hK=> ?_
  obtain⟨f6,_⟩:=HSC.out _ HB6.out
  have cf:w6.frozen? ⟨qb,6,none⟩=false:=HFZ.out _ (HBW.out.trans (HB6.out.mono HBW.out.size)) 6
  go_simp
  refine hK.out _ _ (NoPanic.normal ?_)
  clear hK f6 cf
  try simp only[Act.put,List.setIfInBounds_toArray,List.set_cons_zero,List.set_cons_succ]
  go_wp2_with fail
  go_ret
  exact⟨bA HE0.out.symm,HFI.out⟩
 ·have HGB:Hid (Below w3.heap.size w3 (w3.drew.alloc (.cells #[.int .i64 t.1.1,.int .i64 t.1.2.1,.string t.1.2.2,.slice t.2.1.1 t.2.2.length t.2.1.2] 25))):=HS3.out.alloc (Nat.le_refl _) _
  have HG4:=hide (heap_alloc_new w3.drew (.cells #[.int .i64 t.1.1,.int .i64 t.1.2.1,.string t.1.2.2,.slice t.2.1.1 t.2.2.length t.2.1.2] 25))
  go_simp
  refine hK.out _ _ HGB.out ?_
  clear hK
  try simp only[Act.put,List.setIfInBounds_toArray,List.set_cons_zero,List.set_cons_succ]
  refine aV (i:=5) (by kernel_rfl) rfl rfl (fun K hK=> ?_) (by decide)
  obtain⟨v5,w5,r5,ho5,hb5⟩:=HAP.out _ (HBW.out.trans (HGB.out.mono HBW.out.size))
  refine dC (.const (.slice none 0 0)) (.tmp 31) rfl rfl rfl r5 ?_
  have HB5:Hid (Below w3.heap.size w3 w5):=HGB.out.trans (hb5.mono HGB.out.size)
  refine hK.out _ _ (fun _=>HB5.out) fun _=> ?_
  have HBL:=hide HGB.out.size
  have HO5:=hide ho5
  have HG5:=hide (bC hb5 HG4.out)
  have HBB:=hide hb5.size
  clear hK r5 ho5 hb5
  simp only[Act.put,List.getElem_toArray,List.getElem_cons_zero,List.getElem_cons_succ,List.setIfInBounds_toArray,List.set_cons_zero,List.set_cons_succ]
  refine aV (i:=8) (by kernel_rfl) rfl rfl (fun K hK=> ?_) (by decide)
  obtain⟨v6,w6,r6,ho6,hb6⟩:=Gf HO5.out (HBB.out) (by omega) HG5.out 23
  have HB6:Hid (Below w3.heap.size w3 w6):=HB5.out.trans (hb6.mono HBL.out)
  obtain⟨a6,c6,rfl⟩:=jX ho6
  have HFI:=hide (HFN.out w6 _ _ (HBW.out.trans (HB6.out.mono HBW.out.size)) (Nat.le_trans HBW.out.size HBL.out) (by omega) HP0.out HE0.out HCC.out.1 HCC.out.2 ho6)
  refine dC (.tmp 32) (.tmp 34) rfl rfl rfl r6 ?_
  refine hK.out _ _ (fun _=>HB6.out) fun _=> ?_
  clear hK r6 ho6 hb6
  simp only[Act.put,List.getElem_toArray,List.getElem_cons_zero,List.getElem_cons_succ,List.setIfInBounds_toArray,List.set_cons_zero,List.set_cons_succ]
  refine aV (i:=9) (by kernel_rfl) rfl rfl (fun K hK=> ?_) (by decide)
  go_simp
  refine hK.out _ _ (fun _=>HB6.out) fun _=> ?_
  clear hK
  try simp only[Act.put,List.getElem_toArray,List.getElem_cons_zero,List.getElem_cons_succ,List.setIfInBounds_toArray,List.set_cons_zero,List.set_cons_succ]
  refine aV (i:=10) (by kernel_rfl) rfl rfl (fun K hK=> ?_) (by decide)
  go_simp
  refine hK.out _ _ (fun _=>HB6.out) fun _=> ?_
  clear hK
  try simp only[Act.put,List.getElem_toArray,List.getElem_cons_zero,List.getElem_cons_succ,List.setIfInBounds_toArray,List.set_cons_zero,List.set_cons_succ]
  refine dU (by kernel_rfl) rfl rfl (by kernel_rfl) fun K hK=> ?_
  obtain⟨f6,_⟩:=HSC.out _ HB6.out
  have cf:w6.frozen? ⟨qb,6,none⟩=false:=HFZ.out _ (HBW.out.trans (HB6.out.mono HBW.out.size)) 6
  go_simp
  refine hK.out _ _ (NoPanic.normal ?_)
  clear hK f6 cf
  try simp only[Act.put,List.setIfInBounds_toArray,List.set_cons_zero,List.set_cons_succ]
  go_wp2_with fail
  go_ret
  exact⟨bA HE0.out.symm,HFI.out⟩
theorem mf (w:World) (o:Obj) {b:Nat} (h:b<w.heap.size):(w.alloc o).heap[b]? =w.heap[b]? :=(World.grownBy_alloc w o none).block b h (by simp)
def BoxT (q:Nat) (v0 v1 v2 v3:Value) (w:World):Prop:=w.heap[q]? =some (.cells #[v0,v1,v2,v3] 25)
theorem BoxT.cells {q:Nat} {v0 v1 v2 v3:Value} {w:World} (h:BoxT q v0 v1 v2 v3 w):
    (w.cell? ⟨q,0,none⟩=some v0/\w.cell? ⟨q,1,none⟩=some v1/\w.cell? ⟨q,2,none⟩=some v2/\w.cell? ⟨q,3,none⟩=some v3)/\∀j,w.frozen? ⟨q,j,none⟩=false:=by
 unfold BoxT at h
 refine⟨⟨?_, ?_, ?_, ?_⟩,fun j=> ?_⟩
 all_goals simp[World.cell?,World.frozen?,h]
theorem BoxT.lt {q:Nat} {v0 v1 v2 v3:Value} {w:World} (h:BoxT q v0 v1 v2 v3 w):q<w.heap.size:=(Array.getElem?_eq_some_iff.1 h).1
theorem BoxT.set3 {q:Nat} {v0 v1 v2 v3:Value} {w:World} (h:BoxT q v0 v1 v2 v3 w) (v:Value):BoxT q v0 v1 v2 v (w.setCell ⟨q,3,none⟩ v):=by
 unfold BoxT at*
 simp[World.setCell,Array.getElem?_modify,h]
theorem BoxT.below {q:Nat} {v0 v1 v2 v3:Value} {w w':World} (h:BoxT q v0 v1 v2 v3 w) (hb:Below w.heap.size w w'):BoxT q v0 v1 v2 v3 w':=(hb.block q h.lt).trans h
def RvP (P:Nat->Prop) (B N q:Nat) {n:Nat} (Rel:Tm n->Tm N->Prop) (p:List (Tm n)) (w:World) (v0 v1 v2:Value) (k:Nat) (xs:List (Tm N)) (v:Value) (wr:World):Prop:=
 Below w.heap.size w wr/\BoxT (q) v0 v1 v2 v wr/\xs.length=k/\wr.ownsRow (q+1) 25 4 v k (aD (xs.map (dF N)))/\
 (∀y∈xs,In wr.heap.size wr N y/\Off (fun b=>((P b/\b<B)∨q<b)/\v.ownBlock≠some b) N y)/\
 ∀(i:Nat) (y:Tm n) (e:Tm N),p[i]? =some y->xs[i]? =some e->Rel y e
theorem RvP.step {P:Nat->Prop} {B N q n:Nat} {Rel:Tm n->Tm N->Prop} {p:List (Tm n)} {w:World} {v0 v1 v2:Value} {k:Nat} {xs:List (Tm N)} {v:Value} {wr w1 w2:World} {o1:Obj} {g c:Nat} (hB:B<=w.heap.size) (hq0:w.heap.size<=q)
    (h:RvP P B N q Rel p w v0 v1 v2 k xs v wr) (hb1:Below wr.heap.size wr w1) (X:Tm N) (hX:In w1.heap.size w1 N X) (hoX:Off (fun b=>(P b/\b<B)∨wr.heap.size<=b) N X) (x:Tm n) (hx:p[k]? =some x) (hp:Rel x X)
    (hown:w2.ownsRow (q+1) 25 4 (.slice (some ⟨g,0,none⟩) (k+1) c) (k+1) (aD (xs.map (dF N))++kG (dF N X))) (hg:(w1.alloc o1).grownBy w2 v.ownBlock) (hat:v.ownBlock=some g∨g=w1.heap.size+1):
    RvP P B N q Rel p w v0 v1 v2 (k+1) (xs++ [X]) (.slice (some ⟨g,0,none⟩) (k+1) c) (w2.setCell ⟨q,3,none⟩ (.slice (some ⟨g,0,none⟩) (k+1) c))/\w2.heap.size<=(w2.setCell ⟨q,3,none⟩ (.slice (some ⟨g,0,none⟩) (k+1) c)).heap.size/\
    ∀r u0 u1 u2 u3,r<q->BoxT r u0 u1 u2 u3 wr->BoxT r u0 u1 u2 u3 (w2.setCell ⟨q,3,none⟩ (.slice (some ⟨g,0,none⟩) (k+1) c)):=by
 obtain⟨h1,h2,h3,h4,h5,h6⟩:=h
 have hs1:=h1.size
 have hs2:=h2.lt
 have es1:(w1.alloc o1).heap.size=w1.heap.size+1:=by simp
 have hb1s:=hb1.size
 have hgs:=hg.size
 -- blocks that the append leaves:all of w1's but the row's own
 have hold:∀b,b<w1.heap.size->v.ownBlock≠some b->w2.heap[b]? =w1.heap[b]? :=fun b hb hne=>(hg.block b (by omega) (fun e=>hne e.symm)).trans (mf w1 o1 hb)
 have hvown:∀b,v.ownBlock=some b->q+1<=b/\b<wr.heap.size:=fun b e=>h4.lt b e
 have hg3:q+1<=g:=by
  rcases hat with e|e
  ·exact(hvown g e).1
  ·omega
 have hq:w2.heap[q]? =wr.heap[q]? :=(hold _ (by omega) (fun e=>by have:=(hvown _ e).1;omega)).trans (hb1.block _ (by omega))
 have hbox:BoxT (q) v0 v1 v2 v w2:=hq.trans h2
 have hset:∀b,b≠q->(w2.setCell ⟨q,3,none⟩ (.slice (some ⟨g,0,none⟩) (k+1) c)).heap[b]? =w2.heap[b]? :=fun b hne=>by
  have:q≠b:=fun e=>hne e.symm
  simp[World.setCell,Array.getElem?_modify,this]
 have hsz:(w2.setCell ⟨q,3,none⟩ (.slice (some ⟨g,0,none⟩) (k+1) c)).heap.size=w2.heap.size:=by simp[World.setCell]
 refine⟨⟨⟨?_, ?_, ?_, ?_, ?_⟩,hbox.set3 _,by simp[h3], ?_, ?_, ?_⟩,Nat.le_of_eq hsz.symm,fun r u0 u1 u2 u3 hr hbq=>((hset r (by omega)).trans ((hold r (by have:=hbq.lt;omega) (fun e=>by have:=(hvown _ e).1;omega)).trans (hb1.block r hbq.lt))).trans hbq⟩
 ·exact(hg.os.trans (hb1.os)).trans h1.os
 ·exact(hg.tape.trans (hb1.tape)).trans h1.tape
 ·exact(hg.output.trans (hb1.output)).trans h1.output
 ·rw[hsz];omega
 ·intro b hb'
  exact(hset b (by omega)).trans ((hold b (by omega) (fun e=>by have:=(hvown _ e).1;omega)).trans ((hb1.block b (by omega)).trans (h1.block b hb')))
 ·have e:aD ((xs++ [X]).map (dF N))=aD (xs.map (dF N))++kG (dF N X):=by simp[aD]
  rw[e]
  refine World.ownsRow.kept hown (row:=some (q)) ⟨rfl,rfl,rfl,Nat.le_of_eq hsz.symm,fun b _ hne=>hset b (fun e=>hne (by rw[e]))⟩ (Or.inr ?_)
  simp only[Value.ownBlock]
  intro e
  injection e with e
  omega
 ·intro y hy
  rw[hsz]
  rcases List.mem_append.1 hy with hy|hy
  ·obtain⟨k1,k2⟩:=h5 y hy
   have k4:Off (fun b=>(((P b/\b<B)∨q<b)/\v.ownBlock≠some b)/\b<wr.heap.size) N y:=In.offB k2 k1
   refine⟨?_,k4.mono fun b hb'=>⟨hb'.1.1, ?_⟩⟩
   ·refine In.off (w:=w1) (fun b hb'=> ?_) k4 ((k1.below hb1).mono (by omega))
    exact(hset b (by rcases hb'.1.1 with h|h<;>omega)).trans (hold b (by have:=hb'.2;omega) hb'.1.2)
   ·simp only[Value.ownBlock]
    intro e
    injection e with e
    rcases hat with e2|e2
    ·exact hb'.1.2 (by rw[e2,e])
    ·have:=hb'.2
     omega
  ·simp only[List.mem_singleton]at hy
   subst hy
   have k4:Off (fun b=>((P b/\b<B)∨wr.heap.size<=b)/\b<w1.heap.size) N y:=In.offB hoX hX
   refine⟨?_,k4.mono fun b hb'=>⟨hb'.1.imp id fun h=>by omega, ?_⟩⟩
   ·refine In.off (w:=w1) (fun b hb'=> ?_) k4 (hX.mono (by omega))
    exact(hset b (by rcases hb'.1 with h|h<;>omega)).trans (hold b hb'.2 (fun e=>by have:=hvown _ e;rcases hb'.1 with h|h<;>omega))
   ·simp only[Value.ownBlock]
    intro e
    injection e with e
    rcases hat with e2|e2
    ·have:=hvown g e2
     rcases hb'.1 with h|h<;>omega
    ·have:=hb'.2
     omega
 ·intro i y e hy he
  by_cases hi:i<xs.length
  ·rw[List.getElem?_append_left hi]at he
   exact h6 i y e hy he
  ·rw[List.getElem?_append_right (by omega)]at he
   have h0:i-xs.length=0:=by
    by_cases h0:i-xs.length=0
    ·exact h0
    ·rw[List.getElem?_eq_none (by simp;omega)]at he;cases he
   rw[h0]at he
   have e1:X=e:=by simpa using he
   have e2:i=k:=by omega
   rw[e2,hx]at hy
   obtain rfl:=Option.some.inj hy
   rw[<-e1]
   exact hp
def pO (P:Nat->Prop) (B N:Nat) (o:Option (Tm N)) (w:World) (e:Ending) (w':World):Prop:=
 ∃(y:Tm N) (r:Bool),e=.returned (.tuple #[val N y,.bool r])/\Hid (Below w.heap.size w w'/\In w'.heap.size w' N y/\Off (fun q=>(P q/\q<B)∨w.heap.size<=q) N y/\r=o.isSome/\∀z,o=some z->same N y N z=true)
def LiesT (P:Nat->Prop) (B:Nat) (w:World) (m:Nat) (b:List (Tm m)) (a:Option Addr):Prop:=b=[]∨∃bb o,a=some ⟨bb,o,none⟩/\bb<w.heap.size/\∀(i:Nat) (y:Tm m),b[i]? =some y->Held w bb (o+i*4) m y/\In B w m y/\Off P m y
theorem LiesT.below {P:Nat->Prop} {B:Nat} {w w':World} {m:Nat} {b:List (Tm m)} {a:Option Addr} (h:LiesT P B w m b a) (hb:Below w.heap.size w w') (hB:B<=w.heap.size):LiesT P B w' m b a:=by
 rcases h with h|⟨bb,o,e,hl,h⟩
 ·exact Or.inl h
 ·exact Or.inr ⟨bb,o,e,Nat.lt_of_lt_of_le hl hb.size,fun i y hy=>⟨(h i y hy).1.below hb hl,(h i y hy).2.1.below (hb.mono hB),(h i y hy).2.2⟩⟩
def KP (m:Nat) (b:List (Tm m)) (self:Int) (n:Nat):Prop:=∀(P:Nat->Prop) (x:Tm n) (a:Option Addr) (c B:Nat) (w:World),In B w n x->Off P n x->ak ⟨n,x⟩->(nodes n x).length<=2097152->LiesT P B w m b a->B<=w.heap.size->
 Calls Tryz.prog 74 #[val n x,.slice a 4 c,.int .i64 self] w (pO P B (m+n) (vl m b self n x) w)
theorem BF (self:Int) (x0 x1:Int) (x2:ByteArray) (xa:Option Addr) (xl xc:Nat) (a:Option Addr) (c:Nat) (w:World) (h4:¬x0=4) (h5:¬x0=5) (h6:¬x0=6):
    Calls Tryz.prog 74 #[.agg #[.int .i64 x0,.int .i64 x1,.string x2,.slice xa xl xc],.slice a 4 c,.int .i64 self] w fun e w'=>e=.returned (.tuple #[.agg #[.int .i64 x0,.int .i64 x1,.string x2,.slice xa xl xc],.bool true])/\Below w.heap.size w w':=by
 go_enter Tryz.func74,Tryz.ntmps74
 go_wp2_with fail
 exact bodyPost_ret (v:=.tuple #[.agg #[.int .i64 x0,.int .i64 x1,.string x2,.slice xa xl xc],.bool true]) (by simp[results,Tryz.results74,go_sem]) rfl ⟨rfl,by go_grown⟩
theorem JN (self:Int) (x1:Int) (x2:ByteArray) (xa:Option Addr) (xl xc:Nat) (a:Option Addr) (c:Nat) (w:World):
    Calls Tryz.prog 74 #[.agg #[.int .i64 6,.int .i64 x1,.string x2,.slice xa xl xc],.slice a 4 c,.int .i64 self] w fun e w'=>e=.returned (.tuple #[.agg #[.int .i64 6,.int .i64 x1,.string x2,.slice xa xl xc],.bool false])/\Below w.heap.size w w':=by
 go_enter Tryz.func74,Tryz.ntmps74
 go_wp2_with fail
 exact bodyPost_ret (v:=.tuple #[.agg #[.int .i64 6,.int .i64 x1,.string x2,.slice xa xl xc],.bool false]) (by simp[results,Tryz.results74,go_sem]) rfl ⟨rfl,by go_grown⟩
theorem Jg (self:Int) (x1:Int) (x2:ByteArray) (xa:Option Addr) (xl xc:Nat) (bb bo k:Nat) (c:Nat) (w:World) (y0 y1:Int) (y2:ByteArray) (ya:Option Addr) (yl yc:Nat) (h1:x1=(k:Int)) (hk:k<4) (hbb:bb<w.heap.size)
    (hc:w.cell? ⟨bb,bo+k*4,none⟩=some (.int .i64 y0)/\w.cell? ⟨bb,bo+k*4+1,none⟩=some (.int .i64 y1)/\w.cell? ⟨bb,bo+k*4+2,none⟩=some (.string y2)/\w.cell? ⟨bb,bo+k*4+3,none⟩=some (.slice ya yl yc)):
    Calls Tryz.prog 74 #[.agg #[.int .i64 5,.int .i64 x1,.string x2,.slice xa xl xc],.slice (some ⟨bb,bo,none⟩) 4 c,.int .i64 self] w fun e w'=>e=.returned (.tuple #[.agg #[.int .i64 y0,.int .i64 y1,.string y2,.slice ya yl yc],.bool (y0 !=6)])/\Below w.heap.size w w':=by
 obtain⟨x0',x1',x2',x3'⟩:=hc
 subst h1
 have hk1:(0:Int)<=(k:Int):=by omega
 have hk2:(k:Int)<4:=by omega
 have hb1:bb<w.heap.size+1:=by omega
 have hb2:bb<w.heap.size+1+1:=by omega
 go_enter Tryz.func74,Tryz.ntmps74
 go_wp2_with fail
 go_region
 go_wp2_with fail
 exact bodyPost_ret (v:=.tuple #[.agg #[.int .i64 y0,.int .i64 y1,.string y2,.slice ya yl yc],.bool (y0 !=6)]) (by simp[results,Tryz.results74,go_sem]) rfl ⟨rfl,by go_grown⟩
theorem Iq (self:Int) (x1:Int) (x2:ByteArray) (xa:Option Addr) (xl xc:Nat) (a:Option Addr) (c:Nat) (w:World)
    (HI1:Hid (∀w1,Below w.heap.size w w1->Calls Tryz.prog 89 #[.agg #[.int .i64 4,.int .i64 x1,.string x2,.slice xa xl xc],.string iZ,.int .i64 0] w1 fun e w'=>e=.returned (.bool true)/\Below w1.heap.size w1 w')):
    Calls Tryz.prog 74 #[.agg #[.int .i64 4,.int .i64 x1,.string x2,.slice xa xl xc],.slice a 4 c,.int .i64 self] w fun e w'=>e=.returned (.tuple #[.agg #[.int .i64 3,.int .i64 self,.string .empty,.slice none 0 0],.bool true])/\Below w.heap.size w w':=by
 go_enter Tryz.func74,Tryz.ntmps74
 go_wp2_with fail
 refine(HI1.out _ (bT w _ _ _ _ _ _).1).mono ?_
 rintro e w1 ⟨rfl,hb1⟩
 have HB1:Hid (Below w.heap.size w w1):=(bT w _ _ _ _ _ _).1.trans (hb1.mono (bT w _ _ _ _ _ _).1.size)
 have HBX1:=hide ((bT w _ _ _ _ _ _).2.below hb1)
 obtain⟨⟨z0,z1,z2,z3⟩,⟨f0,f1,f2,f3⟩,hzq⟩:=HBX1.out
 clear hb1
 go_wp2_with fail
 exact bodyPost_ret (v:=.tuple #[.agg #[.int .i64 3,.int .i64 self,.string .empty,.slice none 0 0],.bool true]) (by simp[results,Tryz.results74,go_sem,z0,z1,z2,z3];rfl) rfl ⟨rfl,aR HB1.out (by omega) _ _ _ _⟩
theorem JB (self:Int) (x1:Int) (x2:ByteArray) (pb po:Nat) (xc:Nat) (a:Option Addr) (c:Nat) (w:World) (y0 y1:Int) (y2:ByteArray) (ya:Option Addr) (yl yc:Nat) (cl:Bool) (hpb:pb<w.heap.size)
    (hc:w.cell? ⟨pb,po+4,none⟩=some (.int .i64 y0)/\w.cell? ⟨pb,po+4+1,none⟩=some (.int .i64 y1)/\w.cell? ⟨pb,po+4+2,none⟩=some (.string y2)/\w.cell? ⟨pb,po+4+3,none⟩=some (.slice ya yl yc))
    (HI1:Hid (∀w1,Below w.heap.size w w1->Calls Tryz.prog 89 #[.agg #[.int .i64 4,.int .i64 x1,.string x2,.slice (some ⟨pb,po,none⟩) 2 xc],.string iZ,.int .i64 0] w1 fun e w'=>e=.returned (.bool false)/\Below w1.heap.size w1 w'))
    (HI2:Hid (∀w1,Below w.heap.size w w1->Calls Tryz.prog 89 #[.agg #[.int .i64 4,.int .i64 x1,.string x2,.slice (some ⟨pb,po,none⟩) 2 xc],.string qx,.int .i64 1] w1 fun e w'=>e=.returned (.bool true)/\Below w1.heap.size w1 w'))
    (HL:Hid (∀w1,Below w.heap.size w w1->Calls Tryz.prog 57 #[.agg #[.int .i64 y0,.int .i64 y1,.string y2,.slice ya yl yc]] w1 fun e w'=>e=.returned (.bool cl)/\Below w1.heap.size w1 w')):
    Calls Tryz.prog 74 #[.agg #[.int .i64 4,.int .i64 x1,.string x2,.slice (some ⟨pb,po,none⟩) 2 xc],.slice a 4 c,.int .i64 self] w fun e w'=>e=.returned (.tuple #[.agg #[.int .i64 y0,.int .i64 y1,.string y2,.slice ya yl yc],.bool cl])/\Below w.heap.size w w':=by
 go_enter Tryz.func74,Tryz.ntmps74
 go_wp2_with fail
 refine(HI1.out _ (bT w _ _ _ _ _ _).1).mono ?_
 rintro e w1 ⟨rfl,hb1⟩
 obtain⟨k0,k1,k2,k3⟩:=sQ hb1
 have HB1:Hid (Below w.heap.size w w1):=(bT w _ _ _ _ _ _).1.trans (hb1.mono (bT w _ _ _ _ _ _).1.size)
 have HBX1:=hide ((bT w _ _ _ _ _ _).2.below hb1)
 clear hb1 HI1
 go_wp2_with fail
 refine(HI2.out _ HB1.out).mono ?_
 rintro e w2 ⟨rfl,hb2⟩
 have hlt1:w.heap.size<w1.heap.size:=Nat.lt_of_succ_lt HBX1.out.2.2
 replace k3:=(ag hb2 _ _ hlt1).trans k3
 have HB2:Hid (Below w.heap.size w w2):=HB1.out.trans (hb2.mono HB1.out.size)
 have HBX2:=hide (HBX1.out.below hb2)
 obtain⟨c0,c1,c2,c3⟩:=hc
 have hcc0:=ag HB2.out
 replace c0:=(hcc0 _ _ hpb).trans c0
 replace c1:=(hcc0 _ _ hpb).trans c1
 replace c2:=(hcc0 _ _ hpb).trans c2
 replace c3:=(hcc0 _ _ hpb).trans c3
 have hpw:pb<w2.heap.size:=Nat.lt_of_lt_of_le hpb HB2.out.size
 have hlt2:w.heap.size<w2.heap.size:=Nat.lt_of_lt_of_le hlt1 hb2.size
 have hne1:¬(w.heap.size+1=pb):=by omega
 have hne2:¬(pb=w.heap.size+1):=by omega
 clear hb2 HI2 HB1 HBX1 k0 k1 k2 hcc0
 go_wp2_with fail
 go_region_held3 (fun w'=>w'.cell? ⟨w.heap.size,3,none⟩=some (.slice (some ⟨pb,po,none⟩) 2 xc)/\w'.cell? ⟨pb,po+4,none⟩=some (.int .i64 y0)/\w'.cell? ⟨pb,po+4+1,none⟩=some (.int .i64 y1)/\w'.cell? ⟨pb,po+4+2,none⟩=some (.string y2)/\w'.cell? ⟨pb,po+4+3,none⟩=some (.slice ya yl yc))
  (go_keep) ((go_at_call 57;refine(HL.out _ HB2.out.drew).mono ?_;rintro e w3 ⟨rfl,hb3⟩;have hcc:=ag (bz hb3);have HBX3:=hide (HBX2.out.below (bz hb3));obtain⟨⟨z0,z1,z2,z3⟩,⟨f0,f1,f2,f3⟩,hzq⟩:=HBX3.out))
 have HB3:Hid (Below w.heap.size w w3):=HB2.out.trans ((bz hb3).mono HB2.out.size)
 clear hb3 hcc
 go_wp2_with fail
 exact bodyPost_ret (v:=.tuple #[.agg #[.int .i64 y0,.int .i64 y1,.string y2,.slice ya yl yc],.bool cl]) (by simp[results,Tryz.results74,go_sem,z0,z1,z2,z3]) rfl ⟨rfl,aR HB3.out (by omega) _ _ _ _⟩
end Go.Proofs.YtbknffhilfoakaaGreat
