/- What is proved here: plain facts and contracts that the claimed theorem stands on, several texts in one: what the document's End does where all those end that are with who ends, and so on. No condition but that the system lies in memory. a plain fact: a term has at most as many terms in it as it holds terms and letters. No condition. whatever reads as a term is a tree that lies in memory, no larger than the reading's bulk; and a row over terms follows from what the call does. No condition. whatever reads as a list of calls on bonds is a row of three numbers each, in memory. No condition. what the document's In and End do, in one. No condition but that the system lies in memory. bonds and the document's, side by side: what each call leaves. No condition but that both lie in memory. -/
import Derived.Test.YtdfpjpmdldigdaaG07
import Derived.Test.YtdfpjpmdldigdaaG01
import Derived.ProofKit
import Derived.OpenShut
import Derived.JoinedCond
namespace Go.Proofs.Ytdfpjpmdldigdaa
open Go.RowKit Go.Maps

def addJ (t l : List Int) (j : Nat) : List Int := t ++ newL t (l.take j)
theorem addJ_next {t l : List Int} (hl : l.Nodup) {j : Nat} {y : Int} (hy : l[j]? = some y) : addJ t l (j + 1) = addJ t l j ++ if (addJ t l j).contains y then [] else [y] := by
  unfold addJ
  rw [List.take_add_one, hy]
  rw [show (some y).toList = [y] from rfl, newL_next _ _ _ (nodup_ahead hl hy), List.append_assoc]
theorem addJ_all {g : Int × Int → Bool} {x : Int} {i : Nat} {y : Int} (hy : (seenR g x i)[i]? = some y) : addJ (seenR g x i) (ofL g y) (ofL g y).length = seenR g x (i + 1) := by
  rw [seenR, hy]
  unfold addJ
  rw [List.take_of_length_le (Nat.le_refl _)]
theorem seen_le {g : Int × Int → Bool} (hg : OKg g) (x : Int) : ∀ i, (seenR g x i).length ≤ 100
  | 0 => by simp [seenR]
  | i + 1 => by
    rw [seen_told hg x i, List.length_cons]
    have := (told_told hg x i).le
    omega
theorem seen_mem {g : Int × Int → Bool} (hg : OKg g) {x : Int} (hx : I64 x) : ∀ i, ∀ y ∈ seenR g x i, I64 y
  | 0 => fun y hy => by
    simp [seenR] at hy
    rw [hy]
    exact hx
  | i + 1 => fun y hy => by
    rw [seen_told hg x i] at hy
    rcases List.mem_cons.1 hy with e | e
    · rw [e]
      exact hx
    · have := (told_told hg x i).rng y e
      unfold I64
      omega
theorem addJ_le {g : Int × Int → Bool} (hg : OKg g) {x : Int} {i : Nat} {y : Int} (hy : (seenR g x i)[i]? = some y) (j : Nat) : (addJ (seenR g x i) (ofL g y) j).length ≤ 100 := by
  have h1 := seen_le hg x (i + 1)
  rw [← addJ_all hy] at h1
  refine Nat.le_trans ?_ h1
  unfold addJ
  rw [List.length_append, List.length_append]
  refine Nat.add_le_add_left ?_ _
  rw [List.take_of_length_le (Nat.le_refl _)]
  exact (List.Sublist.filter _ (List.take_sublist j _)).length_le
theorem seen_end {g : Int × Int → Bool} (hg : OKg g) {x : Int} {i : Nat} (h : (seenR g x i).length ≤ i) : seenR g x i = x :: toldL g x := by
  cases i with
  | zero => simp [seenR] at h
  | succ i =>
    rw [seen_told hg x i, List.length_cons] at h
    rw [seen_told hg x i, toldR_end hg (by omega)]
/-- Behind q steps: told so far is t; l is who is come to. -/
def SnJ (t l : List Int) (ra : Option Addr) (rc : Nat) (q : Nat) (a : Option Addr) (L c : Nat) (w W : World) : Prop :=
  (addJ t l q).length = L ∧ NRow w.heap.size (.slice a L c) (addJ t l q) W ∧ NRow w.heap.size (.slice ra l.length rc) l W ∧ (∀ b, (Value.slice a L c).ownBlock = some b → (Value.slice ra l.length rc).ownBlock ≠ some b) ∧ Below w.heap.size w W
theorem SnJ.more {t l : List Int} {ra : Option Addr} {rc q : Nat} {a : Option Addr} {L c : Nat} {w W : World} (h : SnJ t l ra rc q a L c w W) (hl : l.Nodup) {y : Int} (hy : l[q]? = some y) (hn : (addJ t l q).contains y = false) {o : Obj} {g5 c5 : Nat} {w5 : World}
    (ho : w5.ownsRow w.heap.size 3 1 (.slice (some ⟨g5, 0, none⟩) (L + 1) c5) (L + 1) (iCells (addJ t l q) ++ [.int .i64 y])) (hgr : (W.alloc o).grownBy w5 (Value.slice a L c).ownBlock) (hat : (Value.slice a L c).ownBlock = some g5 ∨ g5 = (W.alloc o).heap.size) :
    SnJ t l ra rc (q + 1) (some ⟨g5, 0, none⟩) (L + 1) c5 w w5 := by
  obtain ⟨h1, h2, h3, h4, h5⟩ := h
  have e : addJ t l (q + 1) = addJ t l q ++ [y] := by
    rw [addJ_next hl hy, hn]
    rfl
  have hal : Below W.heap.size W (W.alloc o) := (Below.refl _ _).alloc (Nat.le_refl _) _
  have kg : Kee (fun b => (Value.slice a L c).ownBlock = some b) W w5 := Kee.trans (kee_below hal _) (kee_grown hgr) fun b _ e => e
  have hlo : ∀ b, (Value.slice a L c).ownBlock = some b → w.heap.size ≤ b := fun b hb => (h2.lt b hb).1
  refine ⟨by rw [e, List.length_append, h1]; rfl, ?_, row_kee h3 kg fun b hb e => h4 b e hb, ?_, h5.trans (kg.below h5.size fun b hb e => ?_)⟩
  · unfold NRow
    rw [e, iCells_snoc, List.length_append, h1]
    exact ho
  · intro b hb hb'
    have e1 : g5 = b := Option.some.inj hb
    subst e1
    rcases hat with e2 | e2
    · exact h4 _ e2 hb'
    · have := (h3.lt _ hb').2
      simp at e2
      omega
  · have := hlo b e
    omega
set_option maxRecDepth 100000 in
set_option maxHeartbeats 8000000 in
theorem dend_with (base sp mp mw mb n : Nat) (h g : Int × Int → Bool) (v0 : Value) (x : Int) (w : World) (how : Int) (hh : how ≠ 1) (HDS : Hid (DsAt base sp mp mw mb n h [] v0 w)) (HX : Hid (I64 x)) (HDI : Hid (Dir h g)) :
    Calls Try.prog 53 #[.pointer (some ⟨sp, 0, none⟩), .int .i64 x, .int .i64 how] w fun e w' => e = .returned (.tuple #[]) ∧ Hid (DsUp base sp mp mw mb n (wo h (x :: toldL g x)) (evL how (x :: toldL g x)) v0 w w') := by
  obtain ⟨it, hit, htz0, htz1, htz2⟩ := info_parts infoInt
  have HIT : Hid (Try.prog.info? 3 = some it ∧ it.zero = some (.int .i64 0) ∧ it.size = 1 ∧ it.bytes = 8) := ⟨hit, htz0, htz1, htz2⟩
  clear hit htz0 htz1 htz2
  have HLO : Hid (∀ b, dsM sp mp mb v0 b → b < w.heap.size) := fun b hb => (HDS.out.lt b hb).2
  have HDR := hide HDI.out.rng
  have HG := hide HDI.out.ok
  obtain ⟨TT, hTT⟩ : ∃ T, T = x :: toldL g x := ⟨_, rfl⟩
  rw [← hTT]
  have HTT := hide hTT
  clear hTT
  have HW : Hid (∃ w1 q, (w1 = w.alloc (.cells #[.int .i64 x] 3) ∧ q = w.heap.size) ∧ (NRow w.heap.size (.slice (some ⟨q, 0, none⟩) 1 1) (seenR g x 0) w1 ∧ Below w.heap.size w w1)) := by
    refine ⟨_, _, ⟨rfl, rfl⟩, ?_, (Below.refl _ _).alloc (Nat.le_refl _) _⟩
    exact ⟨rfl, Or.inr ⟨w.heap.size, 1, #[.int .i64 x], rfl, Nat.le_refl _, heap_alloc_new _ _, Nat.le_refl _, by unfold maxLen; omega, rfl, rfl⟩⟩
  have hne : (how != 1) = true := by simpa using hh
  go_enter Try.func53, Try.ntmps53
  clear hh
  go_wp2_with fail
  obtain ⟨w1, q, ⟨hw1, hq⟩, HP⟩ := HW.out
  rw [← hw1, ← hq]
  replace HP := hide HP
  clear hw1 hq HW hne
  go_loopw [6, 7] (fun v i wr => ∃ (j : Nat) (a : Option Addr) (L c : Nat), v = .slice a L c ∧ i = .int .i64 j ∧ j ≤ 100 ∧ L ≤ 100 ∧ Hid ((seenR g x j).length = L ∧ NRow w.heap.size (.slice a L c) (seenR g x j) wr ∧ Below w.heap.size w wr)) (fun _ i _ => 101 - (intOf i).toNat)
  case atStart => exact ⟨0, _, 1, 1, rfl, rfl, by omega, by omega, rfl, HP.out⟩
  case round =>
    clear HP
    obtain ⟨j, a, L, c, rfl, rfl, hj, hL, HJ⟩ := hrel
    by_cases hjl : j < L
    · obtain ⟨y, hy⟩ : ∃ y, (seenR g x j)[j]? = some y := ⟨(seenR g x j)[j]'(by rw [HJ.out.1]; exact hjl), List.getElem?_eq_getElem _⟩
      obtain ⟨gb, o, rfl, c1⟩ := slice_cells HJ.out.2.1.row rfl j y hy
      have HY := hide hy
      have HYI : Hid (I64 y) := seen_mem HG.out HX.out j y (List.mem_of_getElem? hy)
      clear hy
      have j1 : (0 : Int) ≤ (j : Int) := by omega
      have j2 : (j : Int) < (L : Int) := by omega
      have HPL := hide ((HDS.out.later HJ.out.2.2).linked HYI.out)
      go_wp2_with fail
      refine HPL.out.mono ?_
      rintro e w2 ⟨v2, rfl, HV⟩
      obtain ⟨l, hl⟩ : ∃ l, l = ofL g y := ⟨_, rfl⟩
      rw [HDI.out.lnk, ← hl] at HV
      obtain ⟨M, hM⟩ : ∃ M, M = l.length := ⟨_, rfl⟩
      have hM99 : M ≤ 99 := by
        have := ofL_length g y
        rw [hM, hl]
        exact this
      obtain ⟨ra, rc, hv2⟩ : ∃ ra rc, v2 = .slice ra M rc := by
        obtain ⟨a', c', e, _⟩ := HV.out.1.row
        exact ⟨a', c', by rw [hM]; exact e⟩
      subst hv2
      have HND : Hid l.Nodup := by rw [hl]; exact ofL_nodup _ _
      have HTL : Hid (∀ q, (addJ (seenR g x j) l q).length ≤ 100) := by rw [hl]; exact fun q => addJ_le HG.out HY.out q
      have HALL : Hid (addJ (seenR g x j) l M = seenR g x (j + 1)) := by rw [hM, hl]; exact addJ_all HY.out
      have HIN : Hid (SnJ (seenR g x j) l ra rc 0 (some ⟨gb, o, none⟩) L c w w2) := by
        have hV := HV.out
        have e0 : addJ (seenR g x j) l 0 = seenR g x j := by simp [addJ, newL]
        refine ⟨by rw [e0]; exact HJ.out.1, by rw [e0]; exact HJ.out.2.1.later hV.2, ?_, ?_, HJ.out.2.2.trans (hV.2.mono HJ.out.2.2.size)⟩
        · rw [← hM]
          exact own_base hV.1 HJ.out.2.2.size
        · intro b hb hb'
          rw [← hM] at hb'
          have := (hV.1.lt b hb').1
          have := (HJ.out.2.1.lt b hb).2
          omega
      replace hM := hide hM
      clear HV HJ HPL c1 hl
      go_wp2_with fail
      go_loopw [6, 9] (fun v i wr => ∃ (q : Nat) (a : Option Addr) (L c : Nat), v = .slice a L c ∧ i = .int .i64 q ∧ q ≤ M ∧ L ≤ 100 ∧ Hid (SnJ (seenR g x j) l ra rc q a L c w wr)) (fun _ i _ => M - (intOf i).toNat)
      case atStart => exact ⟨0, _, L, c, rfl, rfl, Nat.zero_le _, hL, HIN.out⟩
      case round =>
        clear HIN
        obtain ⟨q, a, L, c, rfl, rfl, hq, hL, HI⟩ := hrel
        by_cases hqM : q < M
        · obtain ⟨z, hz⟩ : ∃ z, l[q]? = some z := ⟨l[q]'(by rw [← hM.out]; exact hqM), List.getElem?_eq_getElem _⟩
          obtain ⟨gr, ro, rfl, c2⟩ := slice_cells HI.out.2.2.1.row rfl q z hz
          have HZ := hide hz
          clear hz
          have q1 : (0 : Int) ≤ (q : Int) := by omega
          have q2 : (q : Int) < (M : Int) := by omega
          have HCN := hide (icontains_any HI.out.2.1.row (by rw [HI.out.1]; omega) z)
          obtain ⟨t, ht⟩ : ∃ t, t = (addJ (seenR g x j) l q).contains z := ⟨_, rfl⟩
          rw [← ht] at HCN
          have HT := hide ht
          clear ht
          go_wp2_with fail
          refine HCN.out.mono ?_
          rintro e w3 ⟨rfl, rfl⟩
          cases t
          · have HL1 : Hid (L + 1 ≤ 100) := by
              have h1 := HTL.out (q + 1)
              have h2 := HI.out.1
              rw [addJ_next HND.out HZ.out, ← HT.out, List.length_append] at h1
              simp at h1
              unfold Hid
              omega
            have HSW : Hid (w.heap.size ≤ w3.heap.size) := HI.out.2.2.2.2.size
            have HOW : Hid (w3.ownsRow w.heap.size 3 1 (.slice a L c) L (iCells (addJ (seenR g x j) l q))) := by
              have h := HI.out.2.1
              unfold NRow at h
              rw [HI.out.1] at h
              exact h
            go_wp2_with (first
              | (at_builtin; refine wpList_append_lies _ rfl _ _ 39 rfl w.heap.size 3 it _ 1 8 Try.underlying39 HIT.out.1 HIT.out.2.1 HIT.out.2.2.1 HIT.out.2.2.2 rfl (by decide) (.slice a L c) L (iCells (addJ (seenR g x j) l q)) rfl (HOW.out.alloc _) ⟨w3.heap.size, 0, none⟩ 1 1 [.int .i64 z] rfl rfl (World.news_of_block (cs := #[.int .i64 z]) (t := 3) (fr := (0, 0)) (heap_alloc_new w3 _)) (by simp [Value.oneCell']) (by decide) (by unfold maxLen; omega) (by omega) (by have := HSW.out; simp; omega) _ rfl ?_; intro g5 c5 w5 hown5 hgrow5 hat5 hlt5; have HO5 := hide (HI.out.more HND.out HZ.out HT.out.symm hown5 hgrow5 hat5); clear hown5 hgrow5 hat5 hlt5))
            go_roundw
            case rel => exact ⟨q + 1, _, L + 1, c5, rfl, by go_num, by omega, HL1.out, HO5.out⟩
            case measure => simp [intOf]; omega
          · have HO5 : Hid (SnJ (seenR g x j) l (some ⟨gr, ro, none⟩) rc (q + 1) a L c w w3) := by
              have h := HI.out
              unfold SnJ at h ⊢
              have e : addJ (seenR g x j) l (q + 1) = addJ (seenR g x j) l q := by
                rw [addJ_next HND.out HZ.out, ← HT.out]
                simp
              rw [e]
              exact h
            go_wp2_with fail
            go_roundw
            case rel => exact ⟨q + 1, _, L, c, rfl, by go_num, by omega, hL, HO5.out⟩
            case measure => simp [intOf]; omega
        · obtain rfl : q = M := by omega
          have HE : Hid ((seenR g x (j + 1)).length = L ∧ NRow w.heap.size (.slice a L c) (seenR g x (j + 1)) wr ∧ Below w.heap.size w wr) := by
            obtain ⟨h1, h2, _, _, h5⟩ := HI.out
            rw [HALL.out] at h1 h2
            exact ⟨h1, h2, h5⟩
          have HJ9 : Hid (j + 1 ≤ 100) := by
            have := seen_le HG.out x j
            have := (List.getElem?_eq_some_iff.1 HY.out).1
            unfold Hid
            omega
          go_wp2_with fail
          go_roundw
          case rel => exact ⟨j + 1, a, L, c, rfl, by go_num, HJ9.out, hL, HE.out⟩
          case measure => simp [intOf]; omega
    · have hjl' : ¬ (j : Int) < (L : Int) := by omega
      obtain ⟨T, hT⟩ : ∃ T, T = seenR g x j := ⟨_, rfl⟩
      have HTT2 : Hid (T = TT) := by
        rw [hT, HTT.out]
        exact seen_end HG.out (by rw [HJ.out.1]; omega)
      have HTL : Hid (T.length = L) := by rw [hT]; exact HJ.out.1
      have HTR : Hid (∀ y ∈ T, I64 y) := by rw [hT]; exact seen_mem HG.out HX.out j
      have HP0 : Hid (P2 base sp mp mw mb n a L c T v0 w (wo h (T.take 0)) (evL how (T.take 0)) wr) := by
        have e : wo h (T.take 0) = h := by funext k; simp [wo]
        rw [e]
        refine ⟨v0, HDS.out.later HJ.out.2.2, by rw [hT]; exact HJ.out.2.1, kee_below HJ.out.2.2 _, fun b hb => Or.inl hb, fun b hb hb' => ?_⟩
        have h1 := (HJ.out.2.1.lt b hb').1
        have h2 := HLO.out b (Or.inr (Or.inr (Or.inr hb)))
        omega
      have hL9 := hL
      clear hT HJ
      go_wp2_with fail
      go_loopw [2, 10] (fun hv i wr => ∃ (i' : Nat) (hw : Int), hv = .int .i64 hw ∧ i = .int .i64 i' ∧ i' ≤ L ∧ Hid (i' = 0 → hw = how) ∧ Hid (P2 base sp mp mw mb n a L c T v0 w (wo h (T.take i')) (evL how (T.take i')) wr)) (fun _ i _ => L - (intOf i).toNat)
      case atStart => exact ⟨0, how, rfl, rfl, Nat.zero_le _, fun _ => rfl, HP0.out⟩
      case round =>
        clear HP0
        obtain ⟨i, hw, rfl, rfl, hi, HW, HI⟩ := hrel
        by_cases hiL : i < L
        · obtain ⟨t, ht⟩ : ∃ t, T[i]? = some t := ⟨T[i]'(by rw [HTL.out]; exact hiL), List.getElem?_eq_getElem _⟩
          obtain ⟨c3, c5, hr⟩ := HI.out.cells
          obtain ⟨gb, o, rfl, ct⟩ := hr i t ht
          have HT := hide ht
          have HTI : Hid (I64 t) := HTR.out t (List.mem_of_getElem? ht)
          clear hr ht
          have i1 : (0 : Int) ≤ (i : Int) := by omega
          have i2 : (i : Int) < (L : Int) := by omega
          have HPD := hide (HI.out.later (Below.refl _ _).drew)
          obtain ⟨wd, hd, hpd⟩ := HPD.out.dropP HLO.out HTI.out
          have HD := hide hpd
          obtain ⟨d3, d5, dr⟩ := hpd.cells
          obtain ⟨_, _, e, dt⟩ := dr i t HT.out
          injection e with e
          injection e with e1 e2
          subst e1 e2
          clear dr hpd HPD
          go_wp2_with fail
          go_region_held3 (fun W => W.cell? ⟨sp, 3, none⟩ = some (.map (some mp)) ∧ W.cell? ⟨gb, o + i, none⟩ = some (.int .i64 t)) (first | (go_keep; done) | exact ⟨d3, dt⟩) (fail)
          have HLN : Hid ((evL how (T.take i)).length ≤ 10000) := by
            rw [evL_length, List.length_take]
            unfold Hid
            omega
          obtain ⟨hn, hhn⟩ : ∃ hn : Int, hn = if i = 0 then how else 4 := ⟨_, rfl⟩
          have HE := hide (HD.out.event HLO.out HLN.out t hn)
          have HEL := hide (evL_next how T i t HT.out)
          rw [← hhn] at HEL
          have HAL : Hid (delL (wo h (T.take i)) t pids = wo h (T.take (i + 1))) := by
            rw [del_all (fun k hk => HDR.out k (wo_iff.1 hk).1), wo_wo, List.take_add_one, HT.out]
            rfl
          have hend : endW = ⟨#[101, 110, 100]⟩ := rfl
          rw [hend] at HE
          by_cases h0 : i = 0
          · have h0' : ¬ (0 : Int) < (i : Int) := by omega
            obtain rfl : hn = hw := by rw [hhn, if_pos h0, HW.out h0]
            clear hhn h0
            go_wp2_with fail
            refine HE.out.mono ?_
            rintro e w5 ⟨rfl, HU⟩
            go_wp2_with fail
            have HY0 : Hid (P2 base sp mp mw mb n (some ⟨gb, o, none⟩) L c T v0 w (delL (wo h (T.take i)) t (pids.take 0)) (evL how (T.take (i + 1))) w5) := by
              rw [HEL.out]
              exact HU.out
            clear HU HE HD c3 c5 ct d3 d5 dt HI HW hd
            go_loopw [11] (fun y wr => ∃ (y' : Nat), 1 ≤ y' ∧ y' ≤ 100 ∧ y = .int .i64 y' ∧ Hid (P2 base sp mp mw mb n (some ⟨gb, o, none⟩) L c T v0 w (delL (wo h (T.take i)) t (pids.take (y' - 1))) (evL how (T.take (i + 1))) wr)) (fun y _ => 100 - (intOf y).toNat)
            case atStart => exact ⟨1, by omega, by omega, rfl, HY0.out⟩
            case round =>
              clear HY0
              obtain ⟨y, hy1, hy2, rfl, HY⟩ := hrel
              by_cases hy : y ≤ 99
              · have hy' : (y : Int) ≤ 99 := by omega
                have HYI : Hid (I64 (y : Int)) := num64 y (by omega)
                have HP1 := hide (HY.out.later (Below.refl _ _).drew)
                obtain ⟨w6, h6, p6⟩ := HP1.out.dropB HLO.out (k := (t, (y : Int))) ⟨HTI.out, HYI.out⟩
                have HP6 := hide p6
                have HP7 := hide (p6.later (Below.refl _ _).drew)
                obtain ⟨w8, h8, p8⟩ := HP7.out.dropB HLO.out (k := ((y : Int), t)) ⟨HYI.out, HTI.out⟩
                have HP8 : Hid (P2 base sp mp mw mb n (some ⟨gb, o, none⟩) L c T v0 w (delL (wo h (T.take i)) t (pids.take y)) (evL how (T.take (i + 1))) w8) := by
                  have e := pids_take (y - 1) (by omega)
                  rw [show y - 1 + 1 = y from by omega, show ((y - 1 : Nat) : Int) + 1 = (y : Int) from by omega] at e
                  rw [e, delL_snoc]
                  exact p8
                obtain ⟨_, a5, ar⟩ := HY.out.cells
                obtain ⟨_, _, e, at'⟩ := ar i t HT.out
                injection e with e
                injection e with e1 e2
                subst e1 e2
                obtain ⟨_, b5, br⟩ := p6.cells
                obtain ⟨_, _, e, bt⟩ := br i t HT.out
                injection e with e
                injection e with e1 e2
                subst e1 e2
                obtain ⟨_, g5, gr⟩ := p8.cells
                obtain ⟨_, _, e, gt⟩ := gr i t HT.out
                injection e with e
                injection e with e1 e2
                subst e1 e2
                clear ar br gr p6 p8
                go_wp2_with fail
                go_region_held3 (fun W => W.cell? ⟨sp, 5, none⟩ = some (.map (some mb)) ∧ W.cell? ⟨gb, o + i, none⟩ = some (.int .i64 t)) (first | (go_keep; done) | exact ⟨b5, bt⟩) (fail)
                go_wp2_with fail
                go_region_held3 (fun W => W.cell? ⟨sp, 5, none⟩ = some (.map (some mb)) ∧ W.cell? ⟨gb, o + i, none⟩ = some (.int .i64 t)) (first | (go_keep; done) | exact ⟨g5, gt⟩) (fail)
                go_wp2_with fail
                go_roundw
                case rel => exact ⟨y + 1, by omega, by omega, by go_num, HP8.out⟩
                case measure => simp [intOf]; omega
              · obtain rfl : y = 100 := by omega
                have HF : Hid (P2 base sp mp mw mb n (some ⟨gb, o, none⟩) L c T v0 w (wo h (T.take (i + 1))) (evL how (T.take (i + 1))) wr) := by
                  have hY := HY.out
                  rw [show 100 - 1 = 99 from rfl, pids_all, HAL.out] at hY
                  exact hY
                go_wp2_with fail
                go_roundw
                case rel => exact ⟨i + 1, hn, rfl, by go_num, by omega, fun h => by omega, HF.out⟩
                case measure => simp [intOf]; omega
          · have h0' : (0 : Int) < (i : Int) := by omega
            obtain rfl : hn = 4 := by rw [hhn, if_neg h0]
            clear hhn h0
            go_wp2_with fail
            refine HE.out.mono ?_
            rintro e w5 ⟨rfl, HU⟩
            go_wp2_with fail
            have HY0 : Hid (P2 base sp mp mw mb n (some ⟨gb, o, none⟩) L c T v0 w (delL (wo h (T.take i)) t (pids.take 0)) (evL how (T.take (i + 1))) w5) := by
              rw [HEL.out]
              exact HU.out
            clear HU HE HD c3 c5 ct d3 d5 dt HI HW hd
            go_loopw [11] (fun y wr => ∃ (y' : Nat), 1 ≤ y' ∧ y' ≤ 100 ∧ y = .int .i64 y' ∧ Hid (P2 base sp mp mw mb n (some ⟨gb, o, none⟩) L c T v0 w (delL (wo h (T.take i)) t (pids.take (y' - 1))) (evL how (T.take (i + 1))) wr)) (fun y _ => 100 - (intOf y).toNat)
            case atStart => exact ⟨1, by omega, by omega, rfl, HY0.out⟩
            case round =>
              clear HY0
              obtain ⟨y, hy1, hy2, rfl, HY⟩ := hrel
              by_cases hy : y ≤ 99
              · have hy' : (y : Int) ≤ 99 := by omega
                have HYI : Hid (I64 (y : Int)) := num64 y (by omega)
                have HP1 := hide (HY.out.later (Below.refl _ _).drew)
                obtain ⟨w6, h6, p6⟩ := HP1.out.dropB HLO.out (k := (t, (y : Int))) ⟨HTI.out, HYI.out⟩
                have HP6 := hide p6
                have HP7 := hide (p6.later (Below.refl _ _).drew)
                obtain ⟨w8, h8, p8⟩ := HP7.out.dropB HLO.out (k := ((y : Int), t)) ⟨HYI.out, HTI.out⟩
                have HP8 : Hid (P2 base sp mp mw mb n (some ⟨gb, o, none⟩) L c T v0 w (delL (wo h (T.take i)) t (pids.take y)) (evL how (T.take (i + 1))) w8) := by
                  have e := pids_take (y - 1) (by omega)
                  rw [show y - 1 + 1 = y from by omega, show ((y - 1 : Nat) : Int) + 1 = (y : Int) from by omega] at e
                  rw [e, delL_snoc]
                  exact p8
                obtain ⟨_, a5, ar⟩ := HY.out.cells
                obtain ⟨_, _, e, at'⟩ := ar i t HT.out
                injection e with e
                injection e with e1 e2
                subst e1 e2
                obtain ⟨_, b5, br⟩ := p6.cells
                obtain ⟨_, _, e, bt⟩ := br i t HT.out
                injection e with e
                injection e with e1 e2
                subst e1 e2
                obtain ⟨_, g5, gr⟩ := p8.cells
                obtain ⟨_, _, e, gt⟩ := gr i t HT.out
                injection e with e
                injection e with e1 e2
                subst e1 e2
                clear ar br gr p6 p8
                go_wp2_with fail
                go_region_held3 (fun W => W.cell? ⟨sp, 5, none⟩ = some (.map (some mb)) ∧ W.cell? ⟨gb, o + i, none⟩ = some (.int .i64 t)) (first | (go_keep; done) | exact ⟨b5, bt⟩) (fail)
                go_wp2_with fail
                go_region_held3 (fun W => W.cell? ⟨sp, 5, none⟩ = some (.map (some mb)) ∧ W.cell? ⟨gb, o + i, none⟩ = some (.int .i64 t)) (first | (go_keep; done) | exact ⟨g5, gt⟩) (fail)
                go_wp2_with fail
                go_roundw
                case rel => exact ⟨y + 1, by omega, by omega, by go_num, HP8.out⟩
                case measure => simp [intOf]; omega
              · obtain rfl : y = 100 := by omega
                have HF : Hid (P2 base sp mp mw mb n (some ⟨gb, o, none⟩) L c T v0 w (wo h (T.take (i + 1))) (evL how (T.take (i + 1))) wr) := by
                  have hY := HY.out
                  rw [show 100 - 1 = 99 from rfl, pids_all, HAL.out] at hY
                  exact hY
                go_wp2_with fail
                go_roundw
                case rel => exact ⟨i + 1, 4, rfl, by go_num, by omega, fun h => by omega, HF.out⟩
                case measure => simp [intOf]; omega
        · obtain rfl : i = L := by omega
          have HF := HI.out
          rw [List.take_of_length_le (by rw [HTL.out]; exact Nat.le_refl _)] at HF
          replace HF := hide HF
          go_wp2_with fail
          exact bodyPost_end (v := .tuple #[]) (by simp [results]) rfl ⟨rfl, by
          obtain ⟨v, p1, _, p3, p4, _⟩ := HF.out
          exact ⟨v, by rw [← HTT2.out]; exact p1, p3, p4⟩⟩
end Go.Proofs.Ytdfpjpmdldigdaa
namespace Go.Proofs.Ytdfpjpmdldigdaa

/-- How much a term holds: its terms, and the letters of their names. -/
def wt : (n : Nat) → Tm n → Nat
  | 0, _ => 1
  | n + 1, x => 1 + x.1.2.2.size + (x.2.2.map fun y => wt n y).sum

theorem nodes_wt : (n : Nat) → (x : Tm n) → (nodes n x).length ≤ wt n x
  | 0, _ => by simp [nodes, wt]
  | n + 1, x => by
    have key : ∀ l : List (Tm n), (l.flatMap fun y => nodes n y).length ≤ (l.map fun y => wt n y).sum := by
      intro l
      induction l with
      | nil => simp
      | cons y l ih =>
        have := nodes_wt n y
        simp only [List.flatMap_cons, List.length_append, List.map_cons, List.sum_cons]
        omega
    have := key x.2.2
    simp only [nodes, wt, List.length_cons]
    omega
end Go.Proofs.Ytdfpjpmdldigdaa
namespace Go.Proofs.Ytdfpjpmdldigdaa
open Go.ChangeShapes Go.WideShapes Go.ChangeAt Go.RowKit

theorem own : ownKnob Try.prog.godebug = none := by kernel_rfl
theorem laidOut : laidOutB Try.prog = true := by kernel_rfl
theorem cellsTerm : Try.prog.cellsOf 24 = 4 := by kernel_rfl
theorem cellsInt : Try.prog.cellsOf 3 = 1 := by kernel_rfl
theorem cellsString : Try.prog.cellsOf 9 = 1 := by kernel_rfl
theorem cellsTerms : Try.prog.cellsOf 22 = 1 := by kernel_rfl

theorem list_of {α : Type} {P : Nat → α → Prop} : (len : Nat) → (∀ i, i < len → ∃ y, P i y) → ∃ l : List α, l.length = len ∧ ∀ i y, l[i]? = some y → P i y
  | 0, _ => ⟨[], rfl, fun i y h => by simp at h⟩
  | len + 1, h => by
    obtain ⟨l, hl, hp⟩ := list_of len (fun i hi => h i (by omega))
    obtain ⟨z, hz⟩ := h len (by omega)
    refine ⟨l ++ [z], by simp [hl], fun i y hy => ?_⟩
    by_cases hi : i < l.length
    · rw [List.getElem?_append_left hi] at hy
      exact hp i y hy
    · rw [List.getElem?_append_right (by omega)] at hy
      have h0 : i - l.length = 0 := by
        by_cases h0 : i - l.length = 0
        · exact h0
        · rw [List.getElem?_eq_none (by simp; omega)] at hy; cases hy
      rw [h0] at hy
      have e1 : z = y := by simpa using hy
      have e2 : i = len := by omega
      rw [e2, ← e1]
      exact hz

theorem wt_le {H : Type} {n : Nat} : (p : List (Tm n)) → (es : List (DataW H)) → (∀ (i : Nat) (y : Tm n) (e : DataW H), p[i]? = some y → es[i]? = some e → wt n y ≤ Rows.uptoBulk e) → p.length = es.length → (p.map fun y => wt n y).sum ≤ Rows.uptoBulkAll es
  | [], es, _, h => by simp
  | y :: p, [], _, h => by simp at h
  | y :: p, e :: es, hp, h => by
    have h0 := hp 0 y e (by simp) (by simp)
    have h1 := wt_le p es (fun i y' e' hy he => hp (i + 1) y' e' (by simpa using hy) (by simpa using he)) (by simpa using h)
    simp only [List.map_cons, List.sum_cons, Rows.uptoBulkAll]
    omega

theorem add_add (b o i j : Nat) : ((⟨b, o, none⟩ : Addr).add i).add j = ⟨b, o + i + j, none⟩ := by
  unfold Addr.add
  split <;> split <;> simp_all
theorem spot_none {w : World} {a : Addr} {v : Value} (h : w.cell? ((a.add 0).add 0) = some v) : a = ⟨a.block, a.off, none⟩ := by
  have e : (a.add 0).add 0 = a := rfl
  rw [e] at h
  unfold World.cell? at h
  split at h
  · split at h
    · cases h
    · rename_i hs
      cases a with
      | mk b o s => cases s with
        | none => rfl
        | some q => simp at hs
  · cases h

theorem wf64 {k : Int} (h : (Lit.int .i64 k).wf = true) : I64 k := by
  have : -9223372036854775808 ≤ k ∧ k ≤ 9223372036854775807 := by simpa [Lit.wf, IntKind.min, IntKind.max, IntKind.signed, IntKind.bits] using h
  exact this

set_option maxRecDepth 100000 in
theorem tree_of {H : Type} (enc : TypeId × Value → H) (w : World) (sp : Nat → Bool) : (n f : Nat) → f ≤ 2 * n + 1 → (cs : List Value) → (x : DataW H × List MemPlace) →
    DataW.trod enc Try.prog w 0 sp true f 24 cs = some x →
    ∃ t : Tm (n + 1), cs = [.int .i64 t.1.1, .int .i64 t.1.2.1, .string t.1.2.2, .slice t.2.1.1 t.2.2.length t.2.1.2] ∧ In w.heap.size w (n + 1) t ∧ wt (n + 1) t ≤ Rows.uptoBulk x.1 := by
  intro n
  induction n with
  | zero =>
    intro f hf cs x h
    obtain ⟨xs, m, rfl, rfl, hl, hx, hg⟩ := DataW.trod_struct Try.underlying24 h
    have h0 : DataW.trod enc Try.prog w 0 sp true m 3 ((cs.drop 0).take (Try.prog.cellsOf 3)) = xs[0]? := hg 0 _ rfl
    obtain rfl : m = 0 := by omega
    have hx' : xs.length = 4 := hx
    rw [List.getElem?_eq_getElem (by omega)] at h0
    cases h0
  | succ n ih =>
    intro f hf cs x h
    obtain ⟨xs, m, rfl, rfl, hl, hx, hg⟩ := DataW.trod_struct Try.underlying24 h
    have h0 : DataW.trod enc Try.prog w 0 sp true m 3 ((cs.drop 0).take (Try.prog.cellsOf 3)) = xs[0]? := hg 0 _ rfl
    have h1 : DataW.trod enc Try.prog w 0 sp true m 3 ((cs.drop 1).take (Try.prog.cellsOf 3)) = xs[1]? := hg 1 _ rfl
    have h2 : DataW.trod enc Try.prog w 0 sp true m 9 ((cs.drop 2).take (Try.prog.cellsOf 9)) = xs[2]? := hg 2 _ rfl
    have h3 : DataW.trod enc Try.prog w 0 sp true m 22 ((cs.drop 3).take (Try.prog.cellsOf 22)) = xs[3]? := hg 3 _ rfl
    rw [cellsInt] at h0 h1
    rw [cellsString] at h2
    rw [cellsTerms] at h3
    rw [cellsTerm] at hl
    obtain ⟨c0, c1, c2, c3, rfl⟩ : ∃ c0 c1 c2 c3, cs = [c0, c1, c2, c3] := by
      match cs, hl with
      | [c0, c1, c2, c3], _ => exact ⟨c0, c1, c2, c3, rfl⟩
    obtain ⟨y0, y1, y2, y3, rfl⟩ : ∃ y0 y1 y2 y3, xs = [y0, y1, y2, y3] := by
      match xs, hx with
      | [y0, y1, y2, y3], _ => exact ⟨y0, y1, y2, y3, rfl⟩
    obtain ⟨k, e0, z0, w0⟩ := DataW.trod_int Try.underlying3 (x := y0) (by simpa using h0)
    obtain ⟨u, e1, z1, w1⟩ := DataW.trod_int Try.underlying3 (x := y1) (by simpa using h1)
    obtain ⟨s, e2, z2, w2⟩ := DataW.trod_string Try.underlying9 (x := y2) (by simpa using h2)
    have h3' : DataW.trod enc Try.prog w 0 sp true m 22 [c3] = some y3 := by simpa using h3
    simp at e0 e1 e2
    subst e0 e1 e2 z0 z1 z2
    rcases DataW.trod_slice Try.underlying22 h3' with ⟨e3, rfl⟩ | ⟨a, len, cap, elems, rest, m', rfl, e3, rfl, _, hlc, hcm, hel, hat, _, _⟩
    · simp at e3
      subst e3
      refine ⟨((k, u, s), (none, 0), []), rfl, ⟨⟨wf64 w0, wf64 w1, w2, Nat.le_refl _, Nat.zero_le _⟩, Or.inl rfl⟩, ?_⟩
      have es : s.data.toList.length = s.size := by rw [Array.length_toList]; rfl
      simp only [wt, Rows.uptoBulk, Rows.uptoBulkAll, List.map_cons, List.map_nil, List.sum_nil]
      omega
    · simp at e3
      subst e3
      simp only [cellsTerm] at hat
      have key : ∀ i, i < len → ∃ t : Tm (n + 1), (∃ b o, a = ⟨b, o, none⟩ ∧ b < w.heap.size ∧ Held w b (o + i * 4) (n + 1) t) ∧ In w.heap.size w (n + 1) t ∧ ∀ e, (elems.map (·.1))[i]? = some e → wt (n + 1) t ≤ Rows.uptoBulk e := by
        intro i hi
        have hi' := hat i hi
        have hi0 := hat 0 (by omega)
        rw [List.getElem?_eq_getElem (by omega)] at hi' hi0
        obtain ⟨cs', hcs, htr⟩ := Option.bind_eq_some_iff.1 hi'
        obtain ⟨cs0, hcs0, htr0⟩ := Option.bind_eq_some_iff.1 hi0
        obtain ⟨_, hlen, hcell⟩ := World.cells?_some hcs
        obtain ⟨_, hlen0, hcell0⟩ := World.cells?_some hcs0
        obtain ⟨t, rfl, hin, hb⟩ := ih m' (by omega) cs' _ htr
        have ha := spot_none (w := w) (a := a) (v := cs0[0]'(by omega)) (by have := hcell0 0 (by omega); rw [List.getElem?_eq_getElem (by omega)] at this; simpa using this)
        have hadd : ∀ j, (a.add (i * 4)).add j = ⟨a.block, a.off + i * 4 + j, none⟩ := fun j => by
          have := add_add a.block a.off (i * 4) j
          rw [← ha] at this
          exact this
        have c0 := hcell 0 (by omega)
        have c1 := hcell 1 (by omega)
        have c2 := hcell 2 (by omega)
        have c3 := hcell 3 (by omega)
        rw [hadd] at c0 c1 c2 c3
        simp at c0 c1 c2 c3
        refine ⟨t, ⟨a.block, a.off, ha, World.block_lt_of_cell? w ⟨a.block, a.off + i * 4, none⟩ c0, c0, c1, c2, c3⟩, hin, fun e he => ?_⟩
        rw [List.getElem?_map, List.getElem?_eq_getElem (by omega)] at he
        have : (elems[i]).1 = e := by simpa using he
        rw [← this]
        exact hb
      obtain ⟨p, hpl, hp⟩ := list_of len key
      refine ⟨((k, u, s), (some a, cap), p), by simp [hpl], ⟨⟨wf64 w0, wf64 w1, w2, by simp only; omega, hcm⟩, ?_⟩, ?_⟩
      · rcases Nat.eq_zero_or_pos len with h | h
        · exact Or.inl (List.eq_nil_of_length_eq_zero (hpl.trans h))
        · obtain ⟨⟨b, o, rfl, hb, _⟩, _, _⟩ := hp 0 (p[0]'(by rw [hpl]; exact h)) (List.getElem?_eq_getElem (by rw [hpl]; exact h))
          refine Or.inr ⟨b, o, rfl, hb, fun i y hy => ?_⟩
          obtain ⟨⟨b', o', e, _, hh⟩, hin, _⟩ := hp i y hy
          simp at e
          obtain ⟨rfl, rfl⟩ := e
          exact ⟨hh, hin⟩
      · have hs := wt_le p (elems.map (·.1)) (fun i y e hy he => (hp i y hy).2.2 e he) (by simp; omega)
        have es : s.data.toList.length = s.size := by rw [Array.length_toList]; rfl
        simp only [wt, Rows.uptoBulk, Rows.uptoBulkAll, List.map_cons, List.map_nil] at hs ⊢
        omega

set_option maxRecDepth 100000 in
theorem open_term {H : Type} {enc : TypeId × Value → H} {W : World} {r : Reach} {b0 : Nat} {v : Value} {d : DataW H} {p : List MemPlace} (hv : Value.okWide Try.prog W r b0 24 v)
    (h : DataW.Trod enc Try.prog W 0 (fun _ => true) true 24 v d p) : ∃ n, ∃ t : Tm (n + 1), v = val (n + 1) t ∧ In W.heap.size W (n + 1) t ∧ wt (n + 1) t ≤ Rows.uptoBulk d := by
  obtain ⟨cs, rfl, _⟩ := okWide_struct Try.underlying24 hv
  obtain ⟨f, hf⟩ := h
  obtain ⟨t, e, hin, hb⟩ := tree_of enc W (fun _ => true) f f (by omega) _ _ hf
  refine ⟨f, t, ?_, hin, hb⟩
  have : cs = #[.int .i64 t.1.1, .int .i64 t.1.2.1, .string t.1.2.2, .slice t.2.1.1 t.2.2.length t.2.1.2] := by
    simp [Value.cells] at e
    exact Array.toList_inj.1 e
  rw [this]
  rfl
end Go.Proofs.Ytdfpjpmdldigdaa
namespace Go.Proofs.Ytdfpjpmdldigdaa
open Go.ChangeShapes Go.WideShapes Go.ChangeAt Go.RowKit

/-- Calls on bonds: kind, x and y. -/
def b3 (c : Int × Int × Int) : List Value := [.int .i64 c.1, .int .i64 c.2.1, .int .i64 c.2.2]
def BcIn (c : Int × Int × Int) : Prop := I64 c.1 ∧ I64 c.2.1 ∧ I64 c.2.2
def Bcs (B : Nat) (w : World) (a : Option Addr) (l : List (Int × Int × Int)) : Prop :=
  l = [] ∨ ∃ b o, a = some ⟨b, o, none⟩ ∧ b < B ∧ ∀ (i : Nat) (y : Int × Int × Int), l[i]? = some y → (∀ (j : Nat) (u : Value), (b3 y)[j]? = some u → w.cell? ⟨b, o + i * 3 + j, none⟩ = some u) ∧ BcIn y
theorem cellsBC : Try.prog.cellsOf 106 = 3 := by kernel_rfl
set_option maxRecDepth 100000 in
theorem bcall_of {H : Type} (enc : TypeId × Value → H) (w : World) (sp : Nat → Bool) (m : Nat) (cs : List Value) (x : DataW H × List MemPlace) (h : DataW.trod enc Try.prog w 0 sp true m 106 cs = some x) : ∃ a : Int × Int × Int, cs = b3 a ∧ BcIn a := by
  obtain ⟨xs, m, rfl, rfl, hl, hx, hg⟩ := DataW.trod_struct Try.underlying106 h
  have h0 : DataW.trod enc Try.prog w 0 sp true m 3 ((cs.drop 0).take (Try.prog.cellsOf 3)) = xs[0]? := hg 0 _ rfl
  have h1 : DataW.trod enc Try.prog w 0 sp true m 3 ((cs.drop 1).take (Try.prog.cellsOf 3)) = xs[1]? := hg 1 _ rfl
  have h2 : DataW.trod enc Try.prog w 0 sp true m 3 ((cs.drop 2).take (Try.prog.cellsOf 3)) = xs[2]? := hg 2 _ rfl
  rw [cellsInt] at h0 h1 h2
  rw [cellsBC] at hl
  obtain ⟨c0, c1, c2, rfl⟩ : ∃ c0 c1 c2, cs = [c0, c1, c2] := by
    match cs, hl with
    | [c0, c1, c2], _ => exact ⟨c0, c1, c2, rfl⟩
  obtain ⟨y0, y1, y2, rfl⟩ : ∃ y0 y1 y2, xs = [y0, y1, y2] := by
    match xs, hx with
    | [y0, y1, y2], _ => exact ⟨y0, y1, y2, rfl⟩
  obtain ⟨k, e0, z0, w0⟩ := DataW.trod_int Try.underlying3 (x := y0) (by simpa using h0)
  obtain ⟨a, e1, z1, w1⟩ := DataW.trod_int Try.underlying3 (x := y1) (by simpa using h1)
  obtain ⟨b, e2, z2, w2⟩ := DataW.trod_int Try.underlying3 (x := y2) (by simpa using h2)
  simp at e0 e1 e2
  subst e0 e1 e2 z0 z1 z2
  exact ⟨(k, a, b), rfl, wf64 w0, wf64 w1, wf64 w2⟩
set_option maxRecDepth 100000 in
theorem open_bcalls {H : Type} {enc : TypeId × Value → H} {w : World} {r : Reach} {b0 : Nat} {v : Value} {d : DataW H} {p : List MemPlace} (hv : Value.okWide Try.prog w r b0 102 v)
    (h : DataW.Trod enc Try.prog w 0 (fun _ => true) true 102 v d p) : ∃ l : List (Int × Int × Int), ∃ a c, v = .slice a l.length c ∧ l.length ≤ c ∧ c ≤ maxLen ∧ Bcs w.heap.size w a l := by
  obtain ⟨a, len, cap, rfl⟩ := okWide_slice Try.underlying102 hv
  obtain ⟨f, hf⟩ := h
  have hf' : DataW.trod enc Try.prog w 0 (fun _ => true) true f 102 [.slice a len cap] = some (d, p) := hf
  rcases DataW.trod_slice Try.underlying102 hf' with ⟨e, e2⟩ | ⟨a, len, cap, elems, rest, m', rfl, e, e2, _, hlc, hcm, hel, hat, _, _⟩
  · simp at e e2
    obtain ⟨rfl, rfl, rfl⟩ := e
    exact ⟨[], none, 0, rfl, Nat.le_refl _, Nat.zero_le _, Or.inl rfl⟩
  · simp at e e2
    obtain ⟨rfl, rfl, rfl⟩ := e
    simp only [cellsBC] at hat
    have key : ∀ i, i < len → ∃ y : Int × Int × Int, (∃ b o, a = ⟨b, o, none⟩ ∧ b < w.heap.size ∧ ∀ (j : Nat) (u : Value), (b3 y)[j]? = some u → w.cell? ⟨b, o + i * 3 + j, none⟩ = some u) ∧ BcIn y := by
      intro i hi
      have hi' := hat i hi
      have hi0 := hat 0 (by omega)
      rw [List.getElem?_eq_getElem (by omega)] at hi' hi0
      obtain ⟨cs', hcs, htr⟩ := Option.bind_eq_some_iff.1 hi'
      obtain ⟨cs0, hcs0, htr0⟩ := Option.bind_eq_some_iff.1 hi0
      obtain ⟨_, hl', hcell⟩ := World.cells?_some hcs
      obtain ⟨_, hl0, hcell0⟩ := World.cells?_some hcs0
      obtain ⟨y, rfl, hin⟩ := bcall_of enc w _ m' cs' _ htr
      have ha := spot_none (w := w) (a := a) (v := cs0[0]'(by omega)) (by have := hcell0 0 (by omega); rw [List.getElem?_eq_getElem (by omega)] at this; simpa using this)
      have hadd : ∀ j, (a.add (i * 3)).add j = ⟨a.block, a.off + i * 3 + j, none⟩ := fun j => by
        have := add_add a.block a.off (i * 3) j
        rw [← ha] at this
        exact this
      have hc : ∀ (j : Nat) (u : Value), (b3 y)[j]? = some u → w.cell? ⟨a.block, a.off + i * 3 + j, none⟩ = some u := fun j u hj => by
        have hjl := (List.getElem?_eq_some_iff.1 hj).1
        have := hcell j (by simpa [b3] using hjl)
        rw [hadd, hj] at this
        exact this
      exact ⟨y, ⟨a.block, a.off, ha, World.block_lt_of_cell? w ⟨a.block, a.off + i * 3 + 0, none⟩ (hc 0 _ rfl), hc⟩, hin⟩
    obtain ⟨l, hpl, hp⟩ := list_of len key
    refine ⟨l, some a, cap, by rw [hpl], by omega, hcm, ?_⟩
    rcases Nat.eq_zero_or_pos len with h | h
    · exact Or.inl (List.eq_nil_of_length_eq_zero (hpl.trans h))
    · obtain ⟨⟨b, o, rfl, hb, _⟩, _⟩ := hp 0 (l[0]'(by rw [hpl]; exact h)) (List.getElem?_eq_getElem (by rw [hpl]; exact h))
      refine Or.inr ⟨b, o, rfl, hb, fun i y hy => ?_⟩
      obtain ⟨⟨b', o', e, _, hh⟩, hin⟩ := hp i y hy
      simp at e
      obtain ⟨rfl, rfl⟩ := e
      exact ⟨hh, hin⟩
end Go.Proofs.Ytdfpjpmdldigdaa
namespace Go.Proofs.Ytdfpjpmdldigdaa
open Go.RowKit Go.Maps

theorem dend_any {base sp mp mw mb n : Nat} {h g : Int × Int → Bool} {v0 : Value} {w : World} (d : DsAt base sp mp mw mb n h [] v0 w) (hd : Dir h g) {x : Int} (hx : I64 x) (how : Int) :
    Calls Try.prog 53 #[.pointer (some ⟨sp, 0, none⟩), .int .i64 x, .int .i64 how] w fun e w' => e = .returned (.tuple #[]) ∧ Hid (DsUp base sp mp mw mb n (wo h (x :: endL g x (how == 1))) (evL how (x :: endL g x (how == 1))) v0 w w') := by
  by_cases hh : how = 1
  · rw [show endL g x (how == 1) = [] from by rw [hh]; exact if_pos rfl]
    exact dend_alone base sp mp mw mb n h v0 x w how hh d hx hd.rng
  · rw [show endL g x (how == 1) = toldL g x from if_neg (by simpa using hh)]
    exact dend_with base sp mp mw mb n h g v0 x w how hh d hx hd
theorem binr_any (a lo hi : Int) (w : World) : Calls Try.prog 18 #[.int .i64 a, .int .i64 lo, .int .i64 hi] w fun e w' => e = .returned (.bool (decide (lo ≤ a) && decide (a ≤ hi))) ∧ w' = w := by
  go_enter Try.func18, Try.ntmps18
  by_cases h1 : lo ≤ a
  · go_wp2_with fail
    go_ret
    exact ⟨ret_bool (by simp [h1]), rfl⟩
  · go_wp2_with fail
    go_ret
    exact ⟨ret_bool (by simp; omega), rfl⟩
end Go.Proofs.Ytdfpjpmdldigdaa
namespace Go.Proofs.Ytdfpjpmdldigdaa
open Go.RowKit Go.Maps

/-- Bonds and the document's system lie apart, and so does the box q of the call that is looked at. -/
structure PB (w : World) (bp : Nat) (mo : Option Nat) (n : Nat) (g : Int × Int → Bool) (sp mp mw mb : Nat) (h : Int × Int → Bool) (l : List (Int × Int)) (v : Value) (W : World) : Prop where
  below : Below w.heap.size w W
  bd : BdAt w.heap.size bp mo n g W
  ds : DsAt w.heap.size sp mp mw mb n h l v W
  far : ∀ b, bdM bp mo b → ¬ dsM sp mp mb v b
variable {w : World} {bp : Nat} {mo : Option Nat} {n : Nat} {g : Int × Int → Bool} {sp mp mw mb : Nat} {h : Int × Int → Bool} {l : List (Int × Int)} {v : Value} {W W' : World}
/-- A box of its own, made after w. -/
def QB (w : World) (bp : Nat) (mo : Option Nat) (sp mp mb : Nat) (v : Value) (q : Nat) (o : Obj) (W : World) : Prop := W.heap[q]? = some o ∧ w.heap.size ≤ q ∧ ¬ bdM bp mo q ∧ ¬ dsM sp mp mb v q
theorem PB.later (p : PB w bp mo n g sp mp mw mb h l v W) (k : Below W.heap.size W W') : PB w bp mo n g sp mp mw mb h l v W' := ⟨p.below.trans (k.mono p.below.size), p.bd.later k, p.ds.later k, p.far⟩
theorem QB.later {q : Nat} {o : Obj} (p : QB w bp mo sp mp mb v q o W) (k : Below W.heap.size W W') : QB w bp mo sp mp mb v q o W' := ⟨(k.block q (Array.getElem?_eq_some_iff.1 p.1).1).trans p.1, p.2⟩
/-- What a call leaves of a box: it stays. -/
def QS (w : World) (bp : Nat) (mo : Option Nat) (sp mp mb : Nat) (v : Value) (mo' : Option Nat) (v' : Value) (W W' : World) : Prop := ∀ q o, QB w bp mo sp mp mb v q o W → QB w bp mo' sp mp mb v' q o W'
theorem PB.new (p : PB w bp mo n g sp mp mw mb h l v W) (o : Obj) : QB w bp mo sp mp mb v W.heap.size o (W.alloc o) := by
  refine ⟨heap_alloc_new _ _, p.below.size, fun hb => ?_, fun hb => ?_⟩
  · have := (p.bd.lt _ hb).2
    omega
  · have := (p.ds.lt _ hb).2
    omega
theorem PB.up_bd (p : PB w bp mo n g sp mp mw mb h l v W) {m : Nat} (hm : n ≤ m) {mo' : Option Nat} {g' : Int × Int → Bool} (h1 : BdAt w.heap.size bp mo' m g' W') (h2 : Kee (bdM bp mo) W W') (h3 : ∀ b, bdM bp mo' b → bdM bp mo b ∨ W.heap.size ≤ b) : PB w bp mo' m g' sp mp mw mb h l v W' ∧ QS w bp mo sp mp mb v mo' v W W' := by
  refine ⟨⟨p.below.trans (h2.below p.below.size fun b hb hd => ?_), h1, (p.ds.kee h2 fun b hb hd => p.far b hd hb).mono hm, fun b hb hd => ?_⟩, fun q o ⟨q1, q2, q3, q4⟩ => ⟨(h2.block q (Array.getElem?_eq_some_iff.1 q1).1 q3).trans q1, q2, fun hb => ?_, q4⟩⟩
  · have := (p.bd.lt b hd).1
    omega
  · rcases h3 b hb with e | e
    · exact p.far b e hd
    · have := (p.ds.lt b hd).2
      omega
  · rcases h3 q hb with e | e
    · exact q3 e
    · have := (Array.getElem?_eq_some_iff.1 q1).1
      omega
theorem PB.up_ds (p : PB w bp mo n g sp mp mw mb h l v W) {m : Nat} (hm : n ≤ m) {h' : Int × Int → Bool} {l' : List (Int × Int)} {v' : Value} (h1 : DsAt w.heap.size sp mp mw mb m h' l' v' W') (h2 : Kee (dsM sp mp mb v) W W') (h3 : ∀ b, v'.ownBlock = some b → v.ownBlock = some b ∨ W.heap.size ≤ b) : PB w bp mo m g sp mp mw mb h' l' v' W' ∧ QS w bp mo sp mp mb v mo v' W W' := by
  have hd : ∀ b, dsM sp mp mb v' b → dsM sp mp mb v b ∨ W.heap.size ≤ b := by
    rintro b (e | e | e | e)
    · exact Or.inl (Or.inl e)
    · exact Or.inl (Or.inr (Or.inl e))
    · exact Or.inl (Or.inr (Or.inr (Or.inl e)))
    · rcases h3 b e with e | e
      · exact Or.inl (Or.inr (Or.inr (Or.inr e)))
      · exact Or.inr e
  refine ⟨⟨p.below.trans (h2.below p.below.size fun b hb hd => ?_), (p.bd.kee h2 fun b hb hd => p.far b hb hd).mono hm, h1, fun b hb hd' => ?_⟩, fun q o ⟨q1, q2, q3, q4⟩ => ⟨(h2.block q (Array.getElem?_eq_some_iff.1 q1).1 q4).trans q1, q2, q3, fun hb => ?_⟩⟩
  · have := (p.ds.lt b hd).1
    omega
  · rcases hd b hd' with e | e
    · exact p.far b hb e
    · have := (p.bd.lt b hb).2
      omega
  · rcases hd q hb with e | e
    · exact q4 e
    · have := (Array.getElem?_eq_some_iff.1 q1).1
      omega
theorem PB.link (p : PB w bp mo n g sp mp mw mb h l v W) {x y : Int} (hx : I64 x) (hy : I64 y) (hn : n < 1000000) :
    Calls Try.prog 52 #[.pointer (some ⟨bp, 0, none⟩), .int .i64 x, .int .i64 y] W fun e w' => e = .returned (.int .i64 (lnkE x y)) ∧ Hid (∃ mo', PB w bp mo' (n + 1) (if lnkE x y = 0 then upd g (prN x y) true else g) sp mp mw mb h l v w' ∧ QS w bp mo sp mp mb v mo' v W w') := by
  refine (blink_any p.bd hx hy hn).mono ?_
  rintro e w' ⟨rfl, HU⟩
  obtain ⟨mo', h1, h2, h3⟩ := HU.out
  exact ⟨rfl, mo', p.up_bd (Nat.le_succ n) h1 h2 h3⟩
theorem PB.endB (p : PB w bp mo n g sp mp mw mb h l v W) (hg : OKg g) {x : Int} (hx : I64 x) (al : Bool) :
    Calls Try.prog 55 #[.pointer (some ⟨bp, 0, none⟩), .int .i64 x, .bool al] W fun e w' => ∃ u, e = .returned u ∧ Hid (NRow W.heap.size u (endL g x al) w' ∧ (PB w bp mo n (wo g (x :: endL g x al)) sp mp mw mb h l v w' ∧ QS w bp mo sp mp mb v mo v W w') ∧ Kee (fun b => mo = some b) W w') := by
  refine (bend_any p.bd hg hx al).mono ?_
  rintro e w' ⟨u, rfl, HU⟩
  obtain ⟨h1, h2, h3⟩ := HU.out
  exact ⟨u, rfl, h1, p.up_bd (Nat.le_refl n) h2 (h3.mono fun b _ e => Or.inr e) fun b hb => Or.inl hb, h3⟩
theorem PB.endD (p : PB w bp mo n g sp mp mw mb h [] v W) (hd : Dir h g) {x : Int} (hx : I64 x) (how : Int) :
    Calls Try.prog 53 #[.pointer (some ⟨sp, 0, none⟩), .int .i64 x, .int .i64 how] W fun e w' => e = .returned (.tuple #[]) ∧ Hid (∃ v', PB w bp mo n g sp mp mw mb (wo h (x :: endL g x (how == 1))) (evL how (x :: endL g x (how == 1))) v' w' ∧ QS w bp mo sp mp mb v mo v' W w') := by
  refine (dend_any p.ds hd hx how).mono ?_
  rintro e w' ⟨rfl, HU⟩
  obtain ⟨v', h1, h2, h3⟩ := HU.out
  exact ⟨rfl, v', p.up_ds (Nat.le_refl n) h1 h2 h3⟩
theorem PB.put (p : PB w bp mo n g sp mp mw mb h l v W) {k : Int × Int} (hk : I2 k) (hn : n < 1000000) : ∃ w2, (Instr.mapUpdate 91 (.map (some mb)) (.agg #[.int .i64 k.1, .int .i64 k.2]) (.bool true)).run Try.prog W = .ok () w2 ∧ Hid (PB w bp mo (n + 1) g sp mp mw mb (upd h k true) l v w2 ∧ QS w bp mo sp mp mb v mo v W w2) := by
  obtain ⟨w2, hr, h1, h2⟩ := p.ds.put hk hn
  exact ⟨w2, hr, p.up_ds (Nat.le_succ n) h1 h2 fun b hb => Or.inl hb⟩
/-- The events are given up. -/
theorem PB.clear (p : PB w bp mo n g sp mp mw mb h l v W) : PB w bp mo n g sp mp mw mb h [] (.slice none 0 0) (W.setCell ⟨sp, 6, none⟩ (.slice none 0 0)) ∧ QS w bp mo sp mp mb v mo (.slice none 0 0) W (W.setCell ⟨sp, 6, none⟩ (.slice none 0 0)) := by
  have d := p.ds
  have hk : Kee (fun b => b = sp) W (W.setCell ⟨sp, 6, none⟩ (.slice none 0 0)) := kee_set W sp 6 _
  have hf := d.far
  refine p.up_ds (Nat.le_refl n) ⟨d.lo, ?_, d.plo, ?_, d.bonds.kee hk fun e => hf.2.1 e.symm, ⟨rfl, Or.inl ⟨rfl, rfl⟩⟩, d.ne⟩ (hk.mono fun b _ e => Or.inl e) fun b hb => by simp [Value.ownBlock] at hb
  · simp [World.setCell, Array.getElem?_modify, d.box]
  · obtain ⟨D, es, clock, hp, hr⟩ := d.procs
    exact ⟨D, es, clock, (hk.block mp (d.lt mp (Or.inr (Or.inl rfl))).2 fun e => hf.1 e.symm).trans hp, hr⟩
theorem bnsys_any (w : World) : Calls Try.prog 44 #[.slice none 0 0, .int .i64 0] w fun e w' => e = .returned (.pointer (some ⟨w.heap.size + 3, 0, none⟩)) ∧ w' = (((w.alloc (.map #[] 0)).alloc (.map #[] 0)).alloc (.map #[] 0)).alloc (.cells #[.slice none 0 0, .int .i64 0, .int .i64 0, .map (some w.heap.size), .map (some (w.heap.size + 1)), .map (some (w.heap.size + 2)), .slice none 0 0] 94) := by
  have hmm := @run_makeMap Try.prog
  go_enter Try.func44, Try.ntmps44
  go_wp2_with fail
  go_ret
  exact ⟨rfl, rfl⟩
theorem PB.start (w : World) {w1 w2 : World} (h1 : w1 = w.alloc (.cells #[.map none] 183)) (h2 : w2 = (((w1.alloc (.map #[] 0)).alloc (.map #[] 0)).alloc (.map #[] 0)).alloc (.cells #[.slice none 0 0, .int .i64 0, .int .i64 0, .map (some w1.heap.size), .map (some (w1.heap.size + 1)), .map (some (w1.heap.size + 2)), .slice none 0 0] 94)) :
    PB w w.heap.size none 0 (fun _ => false) (w1.heap.size + 3) w1.heap.size (w1.heap.size + 1) (w1.heap.size + 2) (fun _ => false) [] (.slice none 0 0) w2 := by
  have z1 : w1.heap.size = w.heap.size + 1 := by rw [h1]; simp
  have b1 : Below w.heap.size w w1 := by rw [h1]; exact (Below.refl _ _).alloc (Nat.le_refl _) _
  have b2 : Below w1.heap.size w1 w2 := by rw [h2]; exact ((((Below.refl _ _).alloc (Nat.le_refl _) _).alloc (by simp) _).alloc (by simp; omega) _).alloc (by simp; omega) _
  have a1 : w1.heap[w.heap.size]? = some (.cells #[.map none] 183 (0, 0)) := by rw [h1]; exact heap_alloc_new _ _
  have m0 := SM.new w1
  refine ⟨b1.trans (b2.mono b1.size), ⟨Nat.le_refl _, (b2.block w.heap.size (by omega)).trans a1, Or.inl ⟨rfl, rfl⟩⟩, ⟨by omega, ?_, by omega, ?_, ?_, ⟨rfl, Or.inl ⟨rfl, rfl⟩⟩, by omega⟩, ?_⟩
  · rw [h2]
    have h := heap_alloc_new (((w1.alloc (.map #[] 0)).alloc (.map #[] 0)).alloc (.map #[] 0)) (.cells #[.slice none 0 0, .int .i64 0, .int .i64 0, .map (some w1.heap.size), .map (some (w1.heap.size + 1)), .map (some (w1.heap.size + 2)), .slice none 0 0] 94)
    simp only [World.size_alloc] at h
    exact h
  · have h := World.ownsMap_made w1 Try.prog 3 rawE
    rw [h2]
    exact ⟨_, ((h.alloc _).alloc _).alloc _⟩
  · have h := BM.new ((w1.alloc (.map #[] 0)).alloc (.map #[] 0))
    simp only [World.size_alloc] at h
    rw [h2]
    exact (h.later ((Below.refl _ _).alloc (Nat.le_refl _) _)).rebase (by omega)
  · rintro b (e | e) (e' | e' | e' | e')
    · omega
    · omega
    · omega
    · simp [Value.ownBlock] at e'
    all_goals cases e
theorem told_none {g : Int × Int → Bool} (hg : OKg g) {x : Int} (hx : ¬ (1 ≤ x ∧ x ≤ 99)) : toldL g x = [] := by
  have h0 : toldR g x 0 = [] := ofL_none hg hx
  have h1 := toldR_end hg (x := x) (i := 0) (by rw [h0]; exact Nat.le_refl _)
  rw [← h1, h0]
theorem end_none {g : Int × Int → Bool} (hg : OKg g) {x : Int} (hx : ¬ (1 ≤ x ∧ x ≤ 99)) (al : Bool) : endL g x al = [] := by
  cases al
  · rw [show endL g x false = toldL g x from if_neg (by decide)]
    exact told_none hg hx
  · rfl
theorem wo_none {g : Int × Int → Bool} (hg : OKg g) {x : Int} (hx : ¬ (1 ≤ x ∧ x ≤ 99)) : wo g [x] = g := by
  funext k
  rw [Bool.eq_iff_iff, wo_iff]
  refine ⟨fun h => h.1, fun h => ⟨h, ?_, ?_⟩⟩
  · have := hg k h
    simp only [List.mem_singleton]
    omega
  · have := hg k h
    simp only [List.mem_singleton]
    omega
theorem end_le {g : Int × Int → Bool} (hg : OKg g) (x : Int) (al : Bool) : (endL g x al).length ≤ 99 := by
  cases al
  · rw [show endL g x false = toldL g x from if_neg (by decide)]
    exact (toldL_told hg x).le
  · simp [endL]
end Go.Proofs.Ytdfpjpmdldigdaa
