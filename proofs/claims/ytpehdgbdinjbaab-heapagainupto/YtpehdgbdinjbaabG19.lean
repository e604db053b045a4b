/- What is proved here: clerkkeep.HeapAgain of a list of terms that lies in memory, and a list of numbers, returns true, and turns no memory that was there. Condition: at most 2097152 terms in each. -/
import Derived.Test.YtpehdgbdinjbaabG18
import Derived.Deep.RegionHeld3
import Derived.Deep.DeepCutAuto
namespace Go.Proofs.Ytpehdgbdinjbaab
open Go.RowKit Go.Maps

set_option maxHeartbeats 80000000 in
set_option maxRecDepth 100000 in
theorem hagain_walk (n : Nat) (l : List (Tm (n + 1))) (la ka : Option Addr) (len lc klen kc : Nat) (B : Nat) (w : World) (hB : B ≤ w.heap.size) (HL : Hid (Lies B w (n + 1) l la)) (HLN : Hid (l.length = len ∧ len ≤ lc)) (hlen : lc ≤ 9223372036854775807) (hklen : kc ≤ 9223372036854775807)
    (HNL : Hid (∀ x ∈ l, (nodes (n + 1) x).length ≤ 2097152))
    (HK : Hid (klen ≤ kc ∧ (klen = 0 ∨ ∃ b o, ka = some ⟨b, o, none⟩ ∧ b < B ∧ ∀ i, i < klen → ∃ u, w.cell? ⟨b, o + i, none⟩ = some (.int .i64 u)))) :
    Calls Try.prog 5 #[.slice la len lc, .slice ka klen kc] w fun e w' => e = .returned (.bool true) ∧ Below w.heap.size w w' := by
  obtain ⟨it, hit, htz0, htz1, htz2⟩ := info_parts infoTerm
  have HIT := hide (⟨hit, htz0, htz1, htz2⟩ : _ ∧ _ ∧ _ ∧ _)
  clear hit htz0 htz1 htz2
  obtain ⟨iw, hit, htz0, htz1, htz2⟩ := info_parts infoWord
  have HIW := hide (⟨hit, htz0, htz1, htz2⟩ : _ ∧ _ ∧ _ ∧ _)
  clear hit htz0 htz1 htz2
  go_enter Try.func5, Try.ntmps5
  go_wp2_with fail
  refine (kept_any _).mono ?_
  rintro e w1 ⟨rfl, hb1⟩
  have HB1 := hide hb1
  clear hb1
  go_wp2_with fail
  refine (new_any 1000 _).mono ?_
  rintro e w2 ⟨_, h2⟩
  obtain ⟨rfl, hn⟩ := h2 (by decide)
  have HH2 := hide (HpS.new (Below.refl w1.heap.size w1) hn)
  clear h2 hn
  obtain ⟨m, hm⟩ : ∃ m : Nat, m = min 20 len := ⟨_, rfl⟩
  have hmi : min (20 : Int) (len : Int) = (m : Int) := by omega
  have hmc : (m : Int) ≤ (lc : Int) := by have := HLN.out.2; omega
  have hm0 : (0 : Int) ≤ (m : Int) := by omega
  have hm20 : m ≤ 20 := by omega
  have hml : m ≤ len := by omega
  clear hm
  have hlen2 : (len : Int) ≤ 9223372036854775807 := by have := HLN.out.2; omega
  go_wp2_with fail
  go_loopw [7, 8, 39] (fun v7 v8 i wr => ∃ (k L : Nat) (wa ta : Option Addr) (wc tc : Nat), k ≤ m ∧ i = .int .i64 k ∧ v7 = .slice wa L wc ∧ v8 = .slice ta L tc ∧ L ≤ k ∧ Hid (∃ ws nm M vs ts, vs.length = L ∧ AgS (n + 1) w1 w1.heap.size k ws nm M vs ts (.slice wa L wc) (.slice ta L tc) wr)) (fun _ _ i _ => m - (intOf i).toNat)
  case atStart => exact ⟨0, 0, none, none, 0, 0, Nat.zero_le _, rfl, rfl, rfl, Nat.le_refl _, ⟨[], [], _, [], [], rfl, AgS.start HH2.out⟩⟩
  case round =>
    obtain ⟨k, L, wa, ta, wc, tc, hk, rfl, rfl, rfl, hL, HA⟩ := hrel
    obtain ⟨ws, nm, M, vs, ts, hvl, hA⟩ := HA.out
    replace HA := hide hA
    have HVL := hide (⟨hvl, (hA.2.1.1.symm.trans hvl : ts.length = L)⟩ : _ ∧ _)
    clear hA hvl
    by_cases hlt : k < m
    · obtain ⟨x, hx⟩ : ∃ x, l[k]? = some x := ⟨l[k]'(by rw [HLN.out.1]; omega), List.getElem?_eq_getElem _⟩
      have hbr : Below w.heap.size w wr := HB1.out.trans (HA.out.1.1.1.mono HB1.out.size)
      obtain ⟨pb, po, hla, hpb, hp⟩ : ∃ b o, la = some ⟨b, o, none⟩ ∧ b < B ∧ ∀ (i : Nat) (y : Tm (n + 1)), l[i]? = some y → Held w b (o + i * 4) (n + 1) y ∧ In B w (n + 1) y := by
        rcases HL.out with h | h
        · rw [h] at hx; simp at hx
        · exact h
      subst hla
      obtain ⟨hx1, hx2⟩ := hp k x hx
      replace hx1 := hx1.below (hbr.mono hB) hpb
      have HXI : Hid (In w1.heap.size w1 (n + 1) x) := (hx2.below (HB1.out.mono hB)).mono (by have := HB1.out.size; omega)
      have HXN := hide (HNL.out x (List.mem_of_getElem? hx))
      obtain ⟨x0, x1, x2, x3⟩ := hx1
      have hpw : pb < wr.heap.size := by have := hbr.size; omega
      clear hp hx hx2 hbr
      have hk1 : (0 : Int) ≤ (k : Int) := by omega
      have hk2 : (k : Int) < (m : Int) := by omega
      have HP : Hid (Calls Try.prog 16 #[.pointer (some ⟨w1.heap.size, 0, none⟩), .agg #[.int .i64 x.1.1, .int .i64 x.1.2.1, .string x.1.2.2, .slice x.2.1.1 x.2.2.length x.2.1.2]] (wr.alloc (.cells #[.int .i64 x.1.1, .int .i64 x.1.2.1, .string x.1.2.2, .slice x.2.1.1 x.2.2.length x.2.1.2] 24)) (PutOut (n + 1) x w1.heap.size w1.heap.size 1000 ws nm M (wr.alloc (.cells #[.int .i64 x.1.1, .int .i64 x.1.2.1, .string x.1.2.2, .slice x.2.1.1 x.2.2.length x.2.1.2] 24)))) := by
        have hA := HA.out.later ((Below.refl wr.heap.size wr).alloc (Nat.le_refl _) (.cells #[.int .i64 x.1.1, .int .i64 x.1.2.1, .string x.1.2.2, .slice x.2.1.1 x.2.2.length x.2.1.2] 24))
        have hs := hA.1.1.1.size
        exact hput_any (n + 1) x w1.heap.size w1.heap.size 1000 ws nm M _ hA.1.1.2.1 ((HXI.out.below hA.1.1.1).mono hs) ((offlow HXI.out).mono fun b hb hm => by have := (hA.1.1.2.2 b hm).1; omega) HXN.out hs (by decide) (by decide) hA.2.2.2.2.1 (by have := hA.2.2.2.2.2; omega)
      go_wp2_with fail
      refine HP.out.mono ?_
      rintro e w3 ⟨h3a, h3b⟩
      by_cases hpe : putE (n + 1) x 1000 ws = 0
      case neg =>
        obtain ⟨rfl, hb3⟩ := h3a hpe
        obtain ⟨pe, hpe2⟩ : ∃ pe, putE (n + 1) x 1000 ws = pe := ⟨_, rfl⟩
        rw [hpe2] at hpe ⊢
        have b1 : (pe == 0) = false := by simpa using hpe
        have ev : wdV (0, 0) = .agg #[.int .i64 0, .int .i64 0] := rfl
        rw [ev]
        have HE : Hid (∀ o, AgS (n + 1) w1 w1.heap.size (k + 1) ws nm M vs ts (.slice wa L wc) (.slice ta L tc) (w3.alloc o)) := fun o => by
          have h1 := (Below.refl wr.heap.size wr).alloc (Nat.le_refl _) (.cells #[.int .i64 x.1.1, .int .i64 x.1.2.1, .string x.1.2.2, .slice x.2.1.1 x.2.2.length x.2.1.2] 24)
          have h2 := h1.trans (hb3.mono h1.size)
          exact (HA.out.later (h2.alloc h2.size o)).more
        clear h3a h3b hb3 hpe hpe2 ev HP x0 x1 x2 x3
        go_wp2_with fail
        go_roundw
        case rel => exact ⟨k + 1, L, wa, ta, wc, tc, by omega, by go_num, rfl, rfl, by omega, ⟨ws, nm, M, vs, ts, HVL.out.1, HE.out _⟩⟩
        case measure => simp [intOf]; omega
      obtain ⟨⟨hck, hcl, hszle⟩, rfl, hl3⟩ := h3b hpe
      have hbx := (Below.refl wr.heap.size wr).alloc (Nat.le_refl _) (.cells #[.int .i64 x.1.1, .int .i64 x.1.2.1, .string x.1.2.2, .slice x.2.1.1 x.2.2.length x.2.1.2] 24)
      obtain ⟨hP, hST⟩ := (HA.out.later hbx).put hl3 hck hszle
      have hT3 : w3.heap[wr.heap.size]? = some (.cells #[.int .i64 x.1.1, .int .i64 x.1.2.1, .string x.1.2.2, .slice x.2.1.1 x.2.2.length x.2.1.2] 24) := (hl3.2.block wr.heap.size (by simp) fun hm => by have := (HA.out.1.1.2.2 _ hm).2; omega).trans (heap_alloc_new wr _)
      have HXC := hide (⟨hck, hcl, HXI.out⟩ : _ ∧ _ ∧ _)
      have HQ1 : Hid (∀ b, (Value.slice wa L wc).ownBlock = some b → b < wr.heap.size) := fun b e => (HA.out.1.2.1.lt b e).2
      have HQ2 : Hid (∀ b, (Value.slice ta L tc).ownBlock = some b → b < wr.heap.size) := fun b e => (HA.out.1.2.2.1.lt b e).2
      have hw3 : wr.heap.size < w3.heap.size := (Array.getElem?_eq_some_iff.1 hT3).1
      generalize (layF (n + 1) x ws nm).2.1 = ws' at *
      generalize (layF (n + 1) x ws nm).2.2 = nm' at *
      generalize (layF (n + 1) x ws nm).1 = v at *
      obtain ⟨M', hP⟩ : ∃ M', AgS (n + 1) w1 w1.heap.size (k + 1) ws' nm' M' vs ts (.slice wa L wc) (.slice ta L tc) w3 := ⟨_, hP⟩
      have HP3 := hide hP
      have HST := hide hST
      have hbw : Below w3.heap.size w3 (w3.alloc (.cells #[.int .i64 v.1, .int .i64 v.2] 37)) := (Below.refl _ _).alloc (Nat.le_refl _) _
      have hP0 := hP.later hbw
      have H0 := hide (App2.start (n := n + 1) hP0.1.2.1 hP0.1.2.2.1)
      have HP0 := hide hP0
      have hs0 : (w3.alloc (.cells #[.int .i64 v.1, .int .i64 v.2] 37)).heap.size = w3.heap.size + 1 := by simp
      have HW0 : Hid (wr.heap.size < (w3.alloc (.cells #[.int .i64 v.1, .int .i64 v.2] 37)).heap.size ∧ w3.heap.size < (w3.alloc (.cells #[.int .i64 v.1, .int .i64 v.2] 37)).heap.size ∧ (w3.alloc (.cells #[.int .i64 v.1, .int .i64 v.2] 37)).heap[wr.heap.size]? = some (.cells #[.int .i64 x.1.1, .int .i64 x.1.2.1, .string x.1.2.2, .slice x.2.1.1 x.2.2.length x.2.1.2] 24) ∧ (w3.alloc (.cells #[.int .i64 v.1, .int .i64 v.2] 37)).heap[w3.heap.size]? = some (.cells #[.int .i64 v.1, .int .i64 v.2] 37)) := ⟨by omega, by omega, (hbw.block _ hw3).trans hT3, heap_alloc_new w3 _⟩
      have HLT : Hid (wr.heap.size ≤ w3.heap.size) := Nat.le_of_lt hw3
      have HZ : Hid (w1.heap.size ≤ w3.heap.size) := hP.1.1.1.size
      have HBa : Hid (∀ c : Obj, Below (w3.alloc (.cells #[.int .i64 v.1, .int .i64 v.2] 37)).heap.size (w3.alloc (.cells #[.int .i64 v.1, .int .i64 v.2] 37)) ((w3.alloc (.cells #[.int .i64 v.1, .int .i64 v.2] 37)).alloc c).drew) := fun c => ((Below.refl _ _).alloc (Nat.le_refl _) c).drew
      have HBb : Hid (∀ c d : Obj, Below (w3.alloc (.cells #[.int .i64 v.1, .int .i64 v.2] 37)).heap.size (w3.alloc (.cells #[.int .i64 v.1, .int .i64 v.2] 37)) (((w3.alloc (.cells #[.int .i64 v.1, .int .i64 v.2] 37)).alloc c).alloc d).drew) := fun c d => (((Below.refl _ _).alloc (Nat.le_refl _) c).alloc (by simp) d).drew
      have NB0 : Hid (∀ c : Obj, ((w3.alloc (.cells #[.int .i64 v.1, .int .i64 v.2] 37)).alloc c).drew.heap[w3.heap.size + 1]? = some c) := fun c => by have h := nb_a (w3.alloc (.cells #[.int .i64 v.1, .int .i64 v.2] 37)) c; rwa [hs0] at h
      have NB1 : Hid (∀ c d : Obj, (((w3.alloc (.cells #[.int .i64 v.1, .int .i64 v.2] 37)).alloc c).alloc d).drew.heap[w3.heap.size + 1]? = some c) := fun c d => by have h := nb_b (w3.alloc (.cells #[.int .i64 v.1, .int .i64 v.2] 37)) c d; rwa [hs0] at h
      have NB2 : Hid (∀ d c : Obj, (((w3.alloc (.cells #[.int .i64 v.1, .int .i64 v.2] 37)).alloc d).alloc c).drew.heap[w3.heap.size + 1 + 1]? = some c) := fun d c => by have h := nb_c (w3.alloc (.cells #[.int .i64 v.1, .int .i64 v.2] 37)) c d; rwa [hs0] at h
      have HPA : Hid (∀ c : Obj, (((w3.alloc (.cells #[.int .i64 v.1, .int .i64 v.2] 37)).alloc c).drew.cell? ⟨wr.heap.size, 0, none⟩ = some (.int .i64 x.1.1) ∧ ((w3.alloc (.cells #[.int .i64 v.1, .int .i64 v.2] 37)).alloc c).drew.cell? ⟨wr.heap.size, 1, none⟩ = some (.int .i64 x.1.2.1) ∧ ((w3.alloc (.cells #[.int .i64 v.1, .int .i64 v.2] 37)).alloc c).drew.cell? ⟨wr.heap.size, 2, none⟩ = some (.string x.1.2.2) ∧ ((w3.alloc (.cells #[.int .i64 v.1, .int .i64 v.2] 37)).alloc c).drew.cell? ⟨wr.heap.size, 3, none⟩ = some (.slice x.2.1.1 x.2.2.length x.2.1.2)) ∧ (((w3.alloc (.cells #[.int .i64 v.1, .int .i64 v.2] 37)).alloc c).drew.cell? ⟨w3.heap.size, 0, none⟩ = some (.int .i64 v.1) ∧ ((w3.alloc (.cells #[.int .i64 v.1, .int .i64 v.2] 37)).alloc c).drew.cell? ⟨w3.heap.size, 1, none⟩ = some (.int .i64 v.2))) := fun c => ⟨box4 (((HBa.out c).block _ HW0.out.1).trans HW0.out.2.2.1), box2 (((HBa.out c).block _ HW0.out.2.1).trans HW0.out.2.2.2)⟩
      have HPB : Hid (∀ c d : Obj, ((((w3.alloc (.cells #[.int .i64 v.1, .int .i64 v.2] 37)).alloc c).alloc d).drew.cell? ⟨wr.heap.size, 0, none⟩ = some (.int .i64 x.1.1) ∧ (((w3.alloc (.cells #[.int .i64 v.1, .int .i64 v.2] 37)).alloc c).alloc d).drew.cell? ⟨wr.heap.size, 1, none⟩ = some (.int .i64 x.1.2.1) ∧ (((w3.alloc (.cells #[.int .i64 v.1, .int .i64 v.2] 37)).alloc c).alloc d).drew.cell? ⟨wr.heap.size, 2, none⟩ = some (.string x.1.2.2) ∧ (((w3.alloc (.cells #[.int .i64 v.1, .int .i64 v.2] 37)).alloc c).alloc d).drew.cell? ⟨wr.heap.size, 3, none⟩ = some (.slice x.2.1.1 x.2.2.length x.2.1.2)) ∧ ((((w3.alloc (.cells #[.int .i64 v.1, .int .i64 v.2] 37)).alloc c).alloc d).drew.cell? ⟨w3.heap.size, 0, none⟩ = some (.int .i64 v.1) ∧ (((w3.alloc (.cells #[.int .i64 v.1, .int .i64 v.2] 37)).alloc c).alloc d).drew.cell? ⟨w3.heap.size, 1, none⟩ = some (.int .i64 v.2))) := fun c d => ⟨box4 (((HBb.out c d).block _ HW0.out.1).trans HW0.out.2.2.1), box2 (((HBb.out c d).block _ HW0.out.2.1).trans HW0.out.2.2.2)⟩
      obtain ⟨t0, t1, t2, t3⟩ := box4 hT3
      have ev : wdV v = .agg #[.int .i64 v.1, .int .i64 v.2] := rfl
      rw [ev]
      clear h3a h3b hpe hl3 hP hP0 hck hcl hszle hbx hST hs0 hbw ev HP x0 x1 x2 x3 hT3
      go_wp2_with fail
      go_region_held3 (fun w' => (w'.cell? ⟨wr.heap.size, 0, none⟩ = some (.int .i64 x.1.1) ∧ w'.cell? ⟨wr.heap.size, 1, none⟩ = some (.int .i64 x.1.2.1) ∧ w'.cell? ⟨wr.heap.size, 2, none⟩ = some (.string x.1.2.2) ∧ w'.cell? ⟨wr.heap.size, 3, none⟩ = some (.slice x.2.1.1 x.2.2.length x.2.1.2)) ∧ (w'.cell? ⟨w3.heap.size, 0, none⟩ = some (.int .i64 v.1) ∧ w'.cell? ⟨w3.heap.size, 1, none⟩ = some (.int .i64 v.2)))
        (first | (go_keep; done) | exact HPA.out _ | exact HPB.out _ _ | exact HPE.out _) ((first
          | (refine step_append_lies _ rfl _ _ 42 rfl w1.heap.size 37 iw _ 2 16 Try.underlying42 HIW.out.1 HIW.out.2.1 HIW.out.2.2.1 HIW.out.2.2.2 rfl (by decide) (.slice wa L wc) L (wCells vs) (by simp [Act.eval]) (H0.out.own1 HVL.out.1 (by first | exact HBa.out _ | exact HBb.out _ _)) ⟨w3.heap.size + 1, 0, none⟩ 1 1 (wd2 v) (by simp [Act.eval]) rfl (World.news_of_block (cs := #[.int .i64 v.1, .int .i64 v.2]) (t := 37) (fr := (0, 0)) (by first | exact NB0.out _ | exact NB1.out _ _)) (wCells_one [v]) (by decide) (by unfold maxLen; omega) (by omega) (by have := HZ.out; simp [World.drew]; omega) _ rfl ?_; intro g5 c5 w5 hown5 hgrow5 hat5 hlt5; have H1w := hide (App2.wordL (H0.out.later (by first | exact HBa.out _ | exact HBb.out _ _)) HVL.out.1 hown5 hgrow5 hat5); obtain ⟨f0, f1, f2, f3⟩ := box4 ((grown_box (by first | exact HBa.out _ | exact HBb.out _ _) hgrow5 wr.heap.size HQ1.out wr.heap.size (Nat.le_refl _) HW0.out.1).trans HW0.out.2.2.1); obtain ⟨h0, h1⟩ := box2 ((grown_box (by first | exact HBa.out _ | exact HBb.out _ _) hgrow5 wr.heap.size HQ1.out w3.heap.size HLT.out HW0.out.2.1).trans HW0.out.2.2.2); have HN5 := hide (grown_new _ hgrow5 wr.heap.size HQ1.out); have HG5 := hide (show w3.heap.size + 1 ≤ w5.heap.size by have h1 := hgrow5.size; simp [World.drew] at h1; omega); have HF5 : Hid (w5.heap[wr.heap.size]? = some (.cells #[.int .i64 x.1.1, .int .i64 x.1.2.1, .string x.1.2.2, .slice x.2.1.1 x.2.2.length x.2.1.2] 24) ∧ w5.heap[w3.heap.size]? = some (.cells #[.int .i64 v.1, .int .i64 v.2] 37)) := ⟨(grown_box (by first | exact HBa.out _ | exact HBb.out _ _) hgrow5 wr.heap.size HQ1.out wr.heap.size (Nat.le_refl _) HW0.out.1).trans HW0.out.2.2.1, (grown_box (by first | exact HBa.out _ | exact HBb.out _ _) hgrow5 wr.heap.size HQ1.out w3.heap.size HLT.out HW0.out.2.1).trans HW0.out.2.2.2⟩; have HPE : Hid (∀ c : Obj, ((w5.alloc c).cell? ⟨wr.heap.size, 0, none⟩ = some (.int .i64 x.1.1) ∧ (w5.alloc c).cell? ⟨wr.heap.size, 1, none⟩ = some (.int .i64 x.1.2.1) ∧ (w5.alloc c).cell? ⟨wr.heap.size, 2, none⟩ = some (.string x.1.2.2) ∧ (w5.alloc c).cell? ⟨wr.heap.size, 3, none⟩ = some (.slice x.2.1.1 x.2.2.length x.2.1.2)) ∧ ((w5.alloc c).cell? ⟨w3.heap.size, 0, none⟩ = some (.int .i64 v.1) ∧ (w5.alloc c).cell? ⟨w3.heap.size, 1, none⟩ = some (.int .i64 v.2))) := (fun c => ⟨box4 ((((Below.refl w5.heap.size w5).alloc (Nat.le_refl _) c).block _ (by have := HG5.out; have := HLT.out; omega)).trans HF5.out.1), box2 ((((Below.refl w5.heap.size w5).alloc (Nat.le_refl _) c).block _ (by have := HG5.out; omega)).trans HF5.out.2)⟩); clear H0 hown5 hgrow5 hat5)
          | (refine step_append_lies _ rfl _ _ 42 rfl w1.heap.size 37 iw _ 2 16 Try.underlying42 HIW.out.1 HIW.out.2.1 HIW.out.2.2.1 HIW.out.2.2.2 rfl (by decide) (.slice wa L wc) L (wCells vs) (by simp [Act.eval]) (H0.out.own1 HVL.out.1 (by first | exact HBa.out _ | exact HBb.out _ _)) ⟨w3.heap.size + 1 + 1, 0, none⟩ 1 1 (wd2 v) (by simp [Act.eval]) rfl (World.news_of_block (cs := #[.int .i64 v.1, .int .i64 v.2]) (t := 37) (fr := (0, 0)) (NB2.out _ _)) (wCells_one [v]) (by decide) (by unfold maxLen; omega) (by omega) (by have := HZ.out; simp [World.drew]; omega) _ rfl ?_; intro g5 c5 w5 hown5 hgrow5 hat5 hlt5; have H1w := hide (App2.wordL (H0.out.later (by first | exact HBa.out _ | exact HBb.out _ _)) HVL.out.1 hown5 hgrow5 hat5); obtain ⟨f0, f1, f2, f3⟩ := box4 ((grown_box (by first | exact HBa.out _ | exact HBb.out _ _) hgrow5 wr.heap.size HQ1.out wr.heap.size (Nat.le_refl _) HW0.out.1).trans HW0.out.2.2.1); obtain ⟨h0, h1⟩ := box2 ((grown_box (by first | exact HBa.out _ | exact HBb.out _ _) hgrow5 wr.heap.size HQ1.out w3.heap.size HLT.out HW0.out.2.1).trans HW0.out.2.2.2); have HN5 := hide (grown_new _ hgrow5 wr.heap.size HQ1.out); have HG5 := hide (show w3.heap.size + 1 ≤ w5.heap.size by have h1 := hgrow5.size; simp [World.drew] at h1; omega); have HF5 : Hid (w5.heap[wr.heap.size]? = some (.cells #[.int .i64 x.1.1, .int .i64 x.1.2.1, .string x.1.2.2, .slice x.2.1.1 x.2.2.length x.2.1.2] 24) ∧ w5.heap[w3.heap.size]? = some (.cells #[.int .i64 v.1, .int .i64 v.2] 37)) := ⟨(grown_box (by first | exact HBa.out _ | exact HBb.out _ _) hgrow5 wr.heap.size HQ1.out wr.heap.size (Nat.le_refl _) HW0.out.1).trans HW0.out.2.2.1, (grown_box (by first | exact HBa.out _ | exact HBb.out _ _) hgrow5 wr.heap.size HQ1.out w3.heap.size HLT.out HW0.out.2.1).trans HW0.out.2.2.2⟩; have HPE : Hid (∀ c : Obj, ((w5.alloc c).cell? ⟨wr.heap.size, 0, none⟩ = some (.int .i64 x.1.1) ∧ (w5.alloc c).cell? ⟨wr.heap.size, 1, none⟩ = some (.int .i64 x.1.2.1) ∧ (w5.alloc c).cell? ⟨wr.heap.size, 2, none⟩ = some (.string x.1.2.2) ∧ (w5.alloc c).cell? ⟨wr.heap.size, 3, none⟩ = some (.slice x.2.1.1 x.2.2.length x.2.1.2)) ∧ ((w5.alloc c).cell? ⟨w3.heap.size, 0, none⟩ = some (.int .i64 v.1) ∧ (w5.alloc c).cell? ⟨w3.heap.size, 1, none⟩ = some (.int .i64 v.2))) := (fun c => ⟨box4 ((((Below.refl w5.heap.size w5).alloc (Nat.le_refl _) c).block _ (by have := HG5.out; have := HLT.out; omega)).trans HF5.out.1), box2 ((((Below.refl w5.heap.size w5).alloc (Nat.le_refl _) c).block _ (by have := HG5.out; omega)).trans HF5.out.2)⟩); clear H0 hown5 hgrow5 hat5)
          | (refine step_append_lies _ rfl _ _ 22 rfl w1.heap.size 24 it _ 4 56 Try.underlying22 HIT.out.1 HIT.out.2.1 HIT.out.2.2.1 HIT.out.2.2.2 rfl (by decide) (.slice ta L tc) L (ndCells (ts.map (hdT (n + 1)))) (by simp [Act.eval]) (H0.out.own2 HVL.out.2 (by first | exact HBa.out _ | exact HBb.out _ _)) ⟨w3.heap.size + 1, 0, none⟩ 1 1 (nd4 (hdT (n + 1) x)) (by simp [Act.eval]) rfl (World.news_of_block (cs := #[.int .i64 x.1.1, .int .i64 x.1.2.1, .string x.1.2.2, .slice x.2.1.1 x.2.2.length x.2.1.2]) (t := 24) (fr := (0, 0)) (by first | exact NB0.out _ | exact NB1.out _ _)) (ndCells_one [hdT (n + 1) x]) (by decide) (by unfold maxLen; omega) (by omega) (by have := HZ.out; simp [World.drew]; omega) _ rfl ?_; intro g5 c5 w5 hown5 hgrow5 hat5 hlt5; have H1t := hide (App2.termL (H0.out.later (by first | exact HBa.out _ | exact HBb.out _ _)) HVL.out.2 hown5 hgrow5 hat5); obtain ⟨f0, f1, f2, f3⟩ := box4 ((grown_box (by first | exact HBa.out _ | exact HBb.out _ _) hgrow5 wr.heap.size HQ2.out wr.heap.size (Nat.le_refl _) HW0.out.1).trans HW0.out.2.2.1); obtain ⟨h0, h1⟩ := box2 ((grown_box (by first | exact HBa.out _ | exact HBb.out _ _) hgrow5 wr.heap.size HQ2.out w3.heap.size HLT.out HW0.out.2.1).trans HW0.out.2.2.2); have HN5 := hide (grown_new _ hgrow5 wr.heap.size HQ2.out); have HG5 := hide (show w3.heap.size + 1 ≤ w5.heap.size by have h1 := hgrow5.size; simp [World.drew] at h1; omega); have HF5 : Hid (w5.heap[wr.heap.size]? = some (.cells #[.int .i64 x.1.1, .int .i64 x.1.2.1, .string x.1.2.2, .slice x.2.1.1 x.2.2.length x.2.1.2] 24) ∧ w5.heap[w3.heap.size]? = some (.cells #[.int .i64 v.1, .int .i64 v.2] 37)) := ⟨(grown_box (by first | exact HBa.out _ | exact HBb.out _ _) hgrow5 wr.heap.size HQ2.out wr.heap.size (Nat.le_refl _) HW0.out.1).trans HW0.out.2.2.1, (grown_box (by first | exact HBa.out _ | exact HBb.out _ _) hgrow5 wr.heap.size HQ2.out w3.heap.size HLT.out HW0.out.2.1).trans HW0.out.2.2.2⟩; have HPE : Hid (∀ c : Obj, ((w5.alloc c).cell? ⟨wr.heap.size, 0, none⟩ = some (.int .i64 x.1.1) ∧ (w5.alloc c).cell? ⟨wr.heap.size, 1, none⟩ = some (.int .i64 x.1.2.1) ∧ (w5.alloc c).cell? ⟨wr.heap.size, 2, none⟩ = some (.string x.1.2.2) ∧ (w5.alloc c).cell? ⟨wr.heap.size, 3, none⟩ = some (.slice x.2.1.1 x.2.2.length x.2.1.2)) ∧ ((w5.alloc c).cell? ⟨w3.heap.size, 0, none⟩ = some (.int .i64 v.1) ∧ (w5.alloc c).cell? ⟨w3.heap.size, 1, none⟩ = some (.int .i64 v.2))) := (fun c => ⟨box4 ((((Below.refl w5.heap.size w5).alloc (Nat.le_refl _) c).block _ (by have := HG5.out; have := HLT.out; omega)).trans HF5.out.1), box2 ((((Below.refl w5.heap.size w5).alloc (Nat.le_refl _) c).block _ (by have := HG5.out; omega)).trans HF5.out.2)⟩); clear H0 hown5 hgrow5 hat5)
          | (refine step_append_lies _ rfl _ _ 22 rfl w1.heap.size 24 it _ 4 56 Try.underlying22 HIT.out.1 HIT.out.2.1 HIT.out.2.2.1 HIT.out.2.2.2 rfl (by decide) (.slice ta L tc) L (ndCells (ts.map (hdT (n + 1)))) (by simp [Act.eval]) (H0.out.own2 HVL.out.2 (by first | exact HBa.out _ | exact HBb.out _ _)) ⟨w3.heap.size + 1 + 1, 0, none⟩ 1 1 (nd4 (hdT (n + 1) x)) (by simp [Act.eval]) rfl (World.news_of_block (cs := #[.int .i64 x.1.1, .int .i64 x.1.2.1, .string x.1.2.2, .slice x.2.1.1 x.2.2.length x.2.1.2]) (t := 24) (fr := (0, 0)) (NB2.out _ _)) (ndCells_one [hdT (n + 1) x]) (by decide) (by unfold maxLen; omega) (by omega) (by have := HZ.out; simp [World.drew]; omega) _ rfl ?_; intro g5 c5 w5 hown5 hgrow5 hat5 hlt5; have H1t := hide (App2.termL (H0.out.later (by first | exact HBa.out _ | exact HBb.out _ _)) HVL.out.2 hown5 hgrow5 hat5); obtain ⟨f0, f1, f2, f3⟩ := box4 ((grown_box (by first | exact HBa.out _ | exact HBb.out _ _) hgrow5 wr.heap.size HQ2.out wr.heap.size (Nat.le_refl _) HW0.out.1).trans HW0.out.2.2.1); obtain ⟨h0, h1⟩ := box2 ((grown_box (by first | exact HBa.out _ | exact HBb.out _ _) hgrow5 wr.heap.size HQ2.out w3.heap.size HLT.out HW0.out.2.1).trans HW0.out.2.2.2); have HN5 := hide (grown_new _ hgrow5 wr.heap.size HQ2.out); have HG5 := hide (show w3.heap.size + 1 ≤ w5.heap.size by have h1 := hgrow5.size; simp [World.drew] at h1; omega); have HF5 : Hid (w5.heap[wr.heap.size]? = some (.cells #[.int .i64 x.1.1, .int .i64 x.1.2.1, .string x.1.2.2, .slice x.2.1.1 x.2.2.length x.2.1.2] 24) ∧ w5.heap[w3.heap.size]? = some (.cells #[.int .i64 v.1, .int .i64 v.2] 37)) := ⟨(grown_box (by first | exact HBa.out _ | exact HBb.out _ _) hgrow5 wr.heap.size HQ2.out wr.heap.size (Nat.le_refl _) HW0.out.1).trans HW0.out.2.2.1, (grown_box (by first | exact HBa.out _ | exact HBb.out _ _) hgrow5 wr.heap.size HQ2.out w3.heap.size HLT.out HW0.out.2.1).trans HW0.out.2.2.2⟩; have HPE : Hid (∀ c : Obj, ((w5.alloc c).cell? ⟨wr.heap.size, 0, none⟩ = some (.int .i64 x.1.1) ∧ (w5.alloc c).cell? ⟨wr.heap.size, 1, none⟩ = some (.int .i64 x.1.2.1) ∧ (w5.alloc c).cell? ⟨wr.heap.size, 2, none⟩ = some (.string x.1.2.2) ∧ (w5.alloc c).cell? ⟨wr.heap.size, 3, none⟩ = some (.slice x.2.1.1 x.2.2.length x.2.1.2)) ∧ ((w5.alloc c).cell? ⟨w3.heap.size, 0, none⟩ = some (.int .i64 v.1) ∧ (w5.alloc c).cell? ⟨w3.heap.size, 1, none⟩ = some (.int .i64 v.2))) := (fun c => ⟨box4 ((((Below.refl w5.heap.size w5).alloc (Nat.le_refl _) c).block _ (by have := HG5.out; have := HLT.out; omega)).trans HF5.out.1), box2 ((((Below.refl w5.heap.size w5).alloc (Nat.le_refl _) c).block _ (by have := HG5.out; omega)).trans HF5.out.2)⟩); clear H0 hown5 hgrow5 hat5)
          | (refine step_append_lies _ rfl _ _ 22 rfl w1.heap.size 24 it _ 4 56 Try.underlying22 HIT.out.1 HIT.out.2.1 HIT.out.2.2.1 HIT.out.2.2.2 rfl (by decide) (.slice ta L tc) L (ndCells (ts.map (hdT (n + 1)))) (by simp [Act.eval]) (H1w.out.own2 HVL.out.2 (by first | exact Below.refl _ _ | exact (Below.refl _ _).alloc (Nat.le_refl _) _)) ⟨w5.heap.size, 0, none⟩ 1 1 (nd4 (hdT (n + 1) x)) (by simp [Act.eval]) rfl (World.news_of_block (cs := #[.int .i64 x.1.1, .int .i64 x.1.2.1, .string x.1.2.2, .slice x.2.1.1 x.2.2.length x.2.1.2]) (t := 24) (fr := (0, 0)) (heap_alloc_new w5 _)) (ndCells_one [hdT (n + 1) x]) (by decide) (by unfold maxLen; omega) (by omega) (by have := HZ.out; have := HG5.out; simp; omega) _ rfl ?_; intro g6 c6 w6 hown6 hgrow6 hat6 hlt6; have H2 := hide (App2.termL (H1w.out.later (by first | exact Below.refl _ _ | exact (Below.refl _ _).alloc (Nat.le_refl _) _)) HVL.out.2 hown6 hgrow6 hat6); obtain ⟨f0, f1, f2, f3⟩ := box4 ((grown_box (by first | exact Below.refl _ _ | exact (Below.refl _ _).alloc (Nat.le_refl _) _) hgrow6 wr.heap.size HQ2.out wr.heap.size (Nat.le_refl _) (by have := HG5.out; have := HLT.out; omega)).trans HF5.out.1); obtain ⟨h0, h1⟩ := box2 ((grown_box (by first | exact Below.refl _ _ | exact (Below.refl _ _).alloc (Nat.le_refl _) _) hgrow6 wr.heap.size HQ2.out w3.heap.size HLT.out (by have := HG5.out; omega)).trans HF5.out.2))
          | (refine step_append_lies _ rfl _ _ 42 rfl w1.heap.size 37 iw _ 2 16 Try.underlying42 HIW.out.1 HIW.out.2.1 HIW.out.2.2.1 HIW.out.2.2.2 rfl (by decide) (.slice wa L wc) L (wCells vs) (by simp [Act.eval]) (H1t.out.own1 HVL.out.1 (by first | exact Below.refl _ _ | exact (Below.refl _ _).alloc (Nat.le_refl _) _)) ⟨w5.heap.size, 0, none⟩ 1 1 (wd2 v) (by simp [Act.eval]) rfl (World.news_of_block (cs := #[.int .i64 v.1, .int .i64 v.2]) (t := 37) (fr := (0, 0)) (heap_alloc_new w5 _)) (wCells_one [v]) (by decide) (by unfold maxLen; omega) (by omega) (by have := HZ.out; have := HG5.out; simp; omega) _ rfl ?_; intro g6 c6 w6 hown6 hgrow6 hat6 hlt6; have H2 := hide (App2.wordL (H1t.out.later (by first | exact Below.refl _ _ | exact (Below.refl _ _).alloc (Nat.le_refl _) _)) HVL.out.1 hown6 hgrow6 hat6); obtain ⟨f0, f1, f2, f3⟩ := box4 ((grown_box (by first | exact Below.refl _ _ | exact (Below.refl _ _).alloc (Nat.le_refl _) _) hgrow6 wr.heap.size HQ1.out wr.heap.size (Nat.le_refl _) (by have := HG5.out; have := HLT.out; omega)).trans HF5.out.1); obtain ⟨h0, h1⟩ := box2 ((grown_box (by first | exact Below.refl _ _ | exact (Below.refl _ _).alloc (Nat.le_refl _) _) hgrow6 wr.heap.size HQ1.out w3.heap.size HLT.out (by have := HG5.out; omega)).trans HF5.out.2))
          | (refine step_append_lies _ rfl _ _ 22 rfl w1.heap.size 24 it _ 4 56 Try.underlying22 HIT.out.1 HIT.out.2.1 HIT.out.2.2.1 HIT.out.2.2.2 rfl (by decide) (.slice ta L tc) L (ndCells (ts.map (hdT (n + 1)))) (by simp [Act.eval]) (H1w.out.own2 HVL.out.2 (by first | exact Below.refl _ _ | exact (Below.refl _ _).alloc (Nat.le_refl _) _)) ⟨w3.heap.size + 1, 0, none⟩ 1 1 (nd4 (hdT (n + 1) x)) (by simp [Act.eval]) rfl (World.news_of_block (cs := #[.int .i64 x.1.1, .int .i64 x.1.2.1, .string x.1.2.2, .slice x.2.1.1 x.2.2.length x.2.1.2]) (t := 24) (fr := (0, 0)) ((HN5.out _ (by have := HLT.out; omega) (by simp [World.drew])).trans (by first | exact NB0.out _ | exact NB1.out _ _))) (ndCells_one [hdT (n + 1) x]) (by decide) (by unfold maxLen; omega) (by omega) (by have := HZ.out; have := HG5.out; simp; omega) _ rfl ?_; intro g6 c6 w6 hown6 hgrow6 hat6 hlt6; have H2 := hide (App2.termL (H1w.out.later (by first | exact Below.refl _ _ | exact (Below.refl _ _).alloc (Nat.le_refl _) _)) HVL.out.2 hown6 hgrow6 hat6); obtain ⟨f0, f1, f2, f3⟩ := box4 ((grown_box (by first | exact Below.refl _ _ | exact (Below.refl _ _).alloc (Nat.le_refl _) _) hgrow6 wr.heap.size HQ2.out wr.heap.size (Nat.le_refl _) (by have := HG5.out; have := HLT.out; omega)).trans HF5.out.1); obtain ⟨h0, h1⟩ := box2 ((grown_box (by first | exact Below.refl _ _ | exact (Below.refl _ _).alloc (Nat.le_refl _) _) hgrow6 wr.heap.size HQ2.out w3.heap.size HLT.out (by have := HG5.out; omega)).trans HF5.out.2))
          | (refine step_append_lies _ rfl _ _ 42 rfl w1.heap.size 37 iw _ 2 16 Try.underlying42 HIW.out.1 HIW.out.2.1 HIW.out.2.2.1 HIW.out.2.2.2 rfl (by decide) (.slice wa L wc) L (wCells vs) (by simp [Act.eval]) (H1t.out.own1 HVL.out.1 (by first | exact Below.refl _ _ | exact (Below.refl _ _).alloc (Nat.le_refl _) _)) ⟨w3.heap.size + 1, 0, none⟩ 1 1 (wd2 v) (by simp [Act.eval]) rfl (World.news_of_block (cs := #[.int .i64 v.1, .int .i64 v.2]) (t := 37) (fr := (0, 0)) ((HN5.out _ (by have := HLT.out; omega) (by simp [World.drew])).trans (by first | exact NB0.out _ | exact NB1.out _ _))) (wCells_one [v]) (by decide) (by unfold maxLen; omega) (by omega) (by have := HZ.out; have := HG5.out; simp; omega) _ rfl ?_; intro g6 c6 w6 hown6 hgrow6 hat6 hlt6; have H2 := hide (App2.wordL (H1t.out.later (by first | exact Below.refl _ _ | exact (Below.refl _ _).alloc (Nat.le_refl _) _)) HVL.out.1 hown6 hgrow6 hat6); obtain ⟨f0, f1, f2, f3⟩ := box4 ((grown_box (by first | exact Below.refl _ _ | exact (Below.refl _ _).alloc (Nat.le_refl _) _) hgrow6 wr.heap.size HQ1.out wr.heap.size (Nat.le_refl _) (by have := HG5.out; have := HLT.out; omega)).trans HF5.out.1); obtain ⟨h0, h1⟩ := box2 ((grown_box (by first | exact Below.refl _ _ | exact (Below.refl _ _).alloc (Nat.le_refl _) _) hgrow6 wr.heap.size HQ1.out w3.heap.size HLT.out (by have := HG5.out; omega)).trans HF5.out.2))
          | (refine step_append_lies _ rfl _ _ 22 rfl w1.heap.size 24 it _ 4 56 Try.underlying22 HIT.out.1 HIT.out.2.1 HIT.out.2.2.1 HIT.out.2.2.2 rfl (by decide) (.slice ta L tc) L (ndCells (ts.map (hdT (n + 1)))) (by simp [Act.eval]) (H1w.out.own2 HVL.out.2 (by first | exact Below.refl _ _ | exact (Below.refl _ _).alloc (Nat.le_refl _) _)) ⟨w3.heap.size + 1 + 1, 0, none⟩ 1 1 (nd4 (hdT (n + 1) x)) (by simp [Act.eval]) rfl (World.news_of_block (cs := #[.int .i64 x.1.1, .int .i64 x.1.2.1, .string x.1.2.2, .slice x.2.1.1 x.2.2.length x.2.1.2]) (t := 24) (fr := (0, 0)) ((HN5.out _ (by have := HLT.out; omega) (by simp [World.drew])).trans (NB2.out _ _))) (ndCells_one [hdT (n + 1) x]) (by decide) (by unfold maxLen; omega) (by omega) (by have := HZ.out; have := HG5.out; simp; omega) _ rfl ?_; intro g6 c6 w6 hown6 hgrow6 hat6 hlt6; have H2 := hide (App2.termL (H1w.out.later (by first | exact Below.refl _ _ | exact (Below.refl _ _).alloc (Nat.le_refl _) _)) HVL.out.2 hown6 hgrow6 hat6); obtain ⟨f0, f1, f2, f3⟩ := box4 ((grown_box (by first | exact Below.refl _ _ | exact (Below.refl _ _).alloc (Nat.le_refl _) _) hgrow6 wr.heap.size HQ2.out wr.heap.size (Nat.le_refl _) (by have := HG5.out; have := HLT.out; omega)).trans HF5.out.1); obtain ⟨h0, h1⟩ := box2 ((grown_box (by first | exact Below.refl _ _ | exact (Below.refl _ _).alloc (Nat.le_refl _) _) hgrow6 wr.heap.size HQ2.out w3.heap.size HLT.out (by have := HG5.out; omega)).trans HF5.out.2))
          | (refine step_append_lies _ rfl _ _ 42 rfl w1.heap.size 37 iw _ 2 16 Try.underlying42 HIW.out.1 HIW.out.2.1 HIW.out.2.2.1 HIW.out.2.2.2 rfl (by decide) (.slice wa L wc) L (wCells vs) (by simp [Act.eval]) (H1t.out.own1 HVL.out.1 (by first | exact Below.refl _ _ | exact (Below.refl _ _).alloc (Nat.le_refl _) _)) ⟨w3.heap.size + 1 + 1, 0, none⟩ 1 1 (wd2 v) (by simp [Act.eval]) rfl (World.news_of_block (cs := #[.int .i64 v.1, .int .i64 v.2]) (t := 37) (fr := (0, 0)) ((HN5.out _ (by have := HLT.out; omega) (by simp [World.drew])).trans (NB2.out _ _))) (wCells_one [v]) (by decide) (by unfold maxLen; omega) (by omega) (by have := HZ.out; have := HG5.out; simp; omega) _ rfl ?_; intro g6 c6 w6 hown6 hgrow6 hat6 hlt6; have H2 := hide (App2.wordL (H1t.out.later (by first | exact Below.refl _ _ | exact (Below.refl _ _).alloc (Nat.le_refl _) _)) HVL.out.1 hown6 hgrow6 hat6); obtain ⟨f0, f1, f2, f3⟩ := box4 ((grown_box (by first | exact Below.refl _ _ | exact (Below.refl _ _).alloc (Nat.le_refl _) _) hgrow6 wr.heap.size HQ1.out wr.heap.size (Nat.le_refl _) (by have := HG5.out; have := HLT.out; omega)).trans HF5.out.1); obtain ⟨h0, h1⟩ := box2 ((grown_box (by first | exact Below.refl _ _ | exact (Below.refl _ _).alloc (Nat.le_refl _) _) hgrow6 wr.heap.size HQ1.out w3.heap.size HLT.out (by have := HG5.out; omega)).trans HF5.out.2))))
      all_goals
        have HE := hide (HP0.out.app (by rw [HVL.out.1]; exact hL) H2.out HST.out HXC.out)
        go_wp2_with fail
        go_roundw
        case rel => exact ⟨k + 1, L + 1, _, _, _, _, by omega, by go_num, rfl, rfl, by omega, ⟨ws', nm', M', vs ++ [v], ts ++ [x], by simp [HVL.out.1], HE.out⟩⟩
        case measure => simp [intOf]; omega
    · obtain rfl : k = m := by omega
      obtain ⟨mk, hmk⟩ : ∃ mk : Nat, mk = min 20 klen := ⟨_, rfl⟩
      have hki : min (20 : Int) (klen : Int) = (mk : Int) := by omega
      have hkc : (mk : Int) ≤ (kc : Int) := by have := HK.out.1; omega
      have hk0 : (0 : Int) ≤ (mk : Int) := by omega
      have hk20 : mk ≤ 20 := by omega
      have hkl : mk ≤ klen := by omega
      have hkl2 : (klen : Int) ≤ 9223372036854775807 := by have := HK.out.1; omega
      clear hmk
      obtain ⟨wq, rfl⟩ : ∃ wq, wq = wr := ⟨_, rfl⟩
      go_wp2_with fail
      go_loopw [13, 14, 66] (fun v13 v14 i wr => ∃ (j L2 : Nat) (sa ga : Option Addr) (sc gc : Nat), j ≤ mk ∧ i = .int .i64 j ∧ v13 = .slice sa L2 sc ∧ v14 = .slice ga L2 gc ∧ L2 ≤ j ∧ Hid (∃ us qs, us.length = L2 ∧ AgT (n + 1) ws nm ts us qs (.slice sa L2 sc) (.slice ga L2 gc) wq wr)) (fun _ _ i _ => mk - (intOf i).toNat)
      case atStart => exact ⟨0, 0, none, none, 0, 0, Nat.zero_le _, rfl, rfl, rfl, Nat.le_refl _, ⟨[], [], rfl, AgT.start wq⟩⟩
      case round =>
        obtain ⟨j, L2, sa, ga, sc, gc, hj, rfl, rfl, rfl, hL2, HT⟩ := hrel
        obtain ⟨us, qs, hul, hT⟩ := HT.out
        replace HT := hide hT
        have HUL := hide (⟨hul, (hT.2.2.2.1.1.symm.trans hul : qs.length = L2)⟩ : _ ∧ _)
        clear hT hul
        by_cases hjl : j < mk
        · obtain ⟨kb, ko, hka, hkb, hkcell⟩ : ∃ b o, ka = some ⟨b, o, none⟩ ∧ b < B ∧ ∀ i, i < klen → ∃ u, w.cell? ⟨b, o + i, none⟩ = some (.int .i64 u) := by
            rcases HK.out.2 with h | h
            · omega
            · exact h
          subst hka
          obtain ⟨u, hu⟩ := hkcell j (by omega)
          have hbr : Below w.heap.size w wr := (HB1.out.trans (HA.out.1.1.1.mono HB1.out.size)).trans (HT.out.1.mono (Nat.le_trans HB1.out.size HA.out.1.1.1.size))
          replace hu := (below_cells hbr _ _ (by omega)).trans hu
          have hkw : kb < wr.heap.size := by have := hbr.size; omega
          have hj1 : (0 : Int) ≤ (j : Int) := by omega
          have hj2 : (j : Int) < (mk : Int) := by omega
          clear hkcell hbr
          by_cases hL0 : L = 0
          · subst hL0
            go_wp2_with fail
            go_roundw
            case rel => exact ⟨j + 1, L2, sa, ga, sc, gc, by omega, by go_num, rfl, rfl, by omega, ⟨us, qs, HUL.out.1, HT.out⟩⟩
            case measure => simp [intOf]; omega
          · have hLp : (0 : Int) < (L : Int) := by omega
            go_wp2_with fail
            refine (rest_m u L (by omega) (by omega) _).mono ?_
            rintro e w3 ⟨r, rfl, hr0, hr1, hw3⟩
            obtain rfl : wr = w3 := hw3.symm
            obtain ⟨i, rfl⟩ : ∃ i : Nat, r = (i : Int) := ⟨r.toNat, by omega⟩
            have hiL : i < L := by omega
            obtain ⟨v, hv⟩ : ∃ v, vs[i]? = some v := ⟨vs[i]'(by rw [HVL.out.1]; exact hiL), List.getElem?_eq_getElem _⟩
            obtain ⟨x, hx⟩ : ∃ x, ts[i]? = some x := ⟨ts[i]'(by rw [HVL.out.2]; exact hiL), List.getElem?_eq_getElem _⟩
            have HSV := hide (HA.out.2.1.2 i v x hv hx)
            have HXM := hide (List.mem_of_getElem? hx)
            have hOW : wq.ownsRow w1.heap.size 37 2 (.slice wa L wc) L (wCells vs) := by have := HA.out.1.2.1; rwa [HVL.out.1] at this
            have hOT : wq.ownsRow w1.heap.size 24 4 (.slice ta L tc) L (ndCells (ts.map (hdT (n + 1)))) := by have := HA.out.1.2.2.1; rwa [HVL.out.2] at this
            obtain ⟨wb, c1, e1, _, hwb⟩ := hOW.form (by omega)
            obtain ⟨tb, c2, e2, _, htb⟩ := hOT.form (by omega)
            injection e1 with e1 _ e3
            injection e2 with e2 _ e4
            subst e1 e2 e3 e4
            have HPW : Hid (∀ W, Below wq.heap.size wq W → (W.cell? ⟨wb, i * 2, none⟩ = some (.int .i64 v.1) ∧ W.cell? ⟨wb, i * 2 + 1, none⟩ = some (.int .i64 v.2)) ∧ (W.cell? ⟨tb, i * 4, none⟩ = some (.int .i64 x.1.1) ∧ W.cell? ⟨tb, i * 4 + 1, none⟩ = some (.int .i64 x.1.2.1) ∧ W.cell? ⟨tb, i * 4 + 2, none⟩ = some (.string x.1.2.2) ∧ W.cell? ⟨tb, i * 4 + 3, none⟩ = some (.slice x.2.1.1 x.2.2.length x.2.1.2))) := fun W hW => by
              have hcc := below_cells hW
              obtain ⟨a0, a1⟩ := word_cells hOW i v hv
              obtain ⟨b0, b1, b2, b3⟩ := own_nd hOT i (hdT (n + 1) x) (by simp [hx])
              exact ⟨⟨(hcc _ _ hwb).trans a0, (hcc _ _ hwb).trans a1⟩, ⟨(hcc _ _ htb).trans b0, (hcc _ _ htb).trans b1, (hcc _ _ htb).trans b2, (hcc _ _ htb).trans b3⟩⟩
            have H0 := hide (App2.start (n := n + 1) HT.out.2.1 HT.out.2.2.1)
            have HQ1 : Hid (∀ b, (Value.slice sa L2 sc).ownBlock = some b → b < wr.heap.size) := fun b e => (HT.out.2.1.lt b e).2
            have HQ2 : Hid (∀ b, (Value.slice ga L2 gc).ownBlock = some b → b < wr.heap.size) := fun b e => (HT.out.2.2.1.lt b e).2
            have HBa : Hid (∀ c : Obj, Below wr.heap.size wr (wr.alloc c).drew) := fun c => ((Below.refl _ _).alloc (Nat.le_refl _) c).drew
            have HBb : Hid (∀ c d : Obj, Below wr.heap.size wr ((wr.alloc c).alloc d).drew) := fun c d => (((Below.refl _ _).alloc (Nat.le_refl _) c).alloc (by simp) d).drew
            have HBq : Hid (∀ W, Below wr.heap.size wr W → Below wq.heap.size wq W) := fun W hW => HT.out.1.trans (hW.mono HT.out.1.size)
            obtain ⟨⟨f0, f1⟩, ⟨h0, h1, h2, h3⟩⟩ := HPW.out wr HT.out.1
            have hwb2 : wb < wr.heap.size := Nat.lt_of_lt_of_le hwb HT.out.1.size
            have htb2 : tb < wr.heap.size := Nat.lt_of_lt_of_le htb HT.out.1.size
            have hi1 : (0 : Int) ≤ (i : Int) := by omega
            have hi2 : (i : Int) < (L : Int) := by omega
            clear hOW hOT hv hx hr0 hr1 hiL
            go_wp2_with fail
            go_region_held3 (fun w' => (w'.cell? ⟨wb, i * 2, none⟩ = some (.int .i64 v.1) ∧ w'.cell? ⟨wb, i * 2 + 1, none⟩ = some (.int .i64 v.2)) ∧ (w'.cell? ⟨tb, i * 4, none⟩ = some (.int .i64 x.1.1) ∧ w'.cell? ⟨tb, i * 4 + 1, none⟩ = some (.int .i64 x.1.2.1) ∧ w'.cell? ⟨tb, i * 4 + 2, none⟩ = some (.string x.1.2.2) ∧ w'.cell? ⟨tb, i * 4 + 3, none⟩ = some (.slice x.2.1.1 x.2.2.length x.2.1.2)))
              (first | (go_keep; done) | exact HPW.out _ (HBq.out _ (HBa.out _)) | exact HPW.out _ (HBq.out _ (HBb.out _ _)) | exact HPW.out _ (HB5.out.alloc HB5.out.size _)) ((first
            | (refine step_append_lies _ rfl _ _ 42 rfl wq.heap.size 37 iw _ 2 16 Try.underlying42 HIW.out.1 HIW.out.2.1 HIW.out.2.2.1 HIW.out.2.2.2 rfl (by decide) (.slice sa L2 sc) L2 (wCells us) (by simp [Act.eval]) (H0.out.own1 HUL.out.1 (by first | exact HBa.out _ | exact HBb.out _ _)) ⟨wr.heap.size, 0, none⟩ 1 1 (wd2 v) (by simp [Act.eval]) rfl (World.news_of_block (cs := #[.int .i64 v.1, .int .i64 v.2]) (t := 37) (fr := (0, 0)) (by first | exact nb_a wr _ | exact nb_b wr _ _)) (wCells_one [v]) (by decide) (by unfold maxLen; omega) (by omega) (by have := HT.out.1.size; simp [World.drew]; omega) _ rfl ?_; intro g5 c5 w5 hown5 hgrow5 hat5 hlt5; have H1w := hide (App2.wordL (H0.out.later (by first | exact HBa.out _ | exact HBb.out _ _)) HUL.out.1 hown5 hgrow5 hat5); have HB5 := hide (H1w.out.below HT.out.1 HT.out.1.size (fun b e => (HT.out.2.1.lt b e).1) (fun b e => (HT.out.2.2.1.lt b e).1)); obtain ⟨⟨f0, f1⟩, ⟨h0, h1, h2, h3⟩⟩ := HPW.out w5 HB5.out; have HN5 := hide (grown_new _ hgrow5 wr.heap.size HQ1.out); clear H0 hown5 hgrow5 hat5)
            | (refine step_append_lies _ rfl _ _ 42 rfl wq.heap.size 37 iw _ 2 16 Try.underlying42 HIW.out.1 HIW.out.2.1 HIW.out.2.2.1 HIW.out.2.2.2 rfl (by decide) (.slice sa L2 sc) L2 (wCells us) (by simp [Act.eval]) (H0.out.own1 HUL.out.1 (by first | exact HBa.out _ | exact HBb.out _ _)) ⟨wr.heap.size + 1, 0, none⟩ 1 1 (wd2 v) (by simp [Act.eval]) rfl (World.news_of_block (cs := #[.int .i64 v.1, .int .i64 v.2]) (t := 37) (fr := (0, 0)) (nb_c wr _ _)) (wCells_one [v]) (by decide) (by unfold maxLen; omega) (by omega) (by have := HT.out.1.size; simp [World.drew]; omega) _ rfl ?_; intro g5 c5 w5 hown5 hgrow5 hat5 hlt5; have H1w := hide (App2.wordL (H0.out.later (by first | exact HBa.out _ | exact HBb.out _ _)) HUL.out.1 hown5 hgrow5 hat5); have HB5 := hide (H1w.out.below HT.out.1 HT.out.1.size (fun b e => (HT.out.2.1.lt b e).1) (fun b e => (HT.out.2.2.1.lt b e).1)); obtain ⟨⟨f0, f1⟩, ⟨h0, h1, h2, h3⟩⟩ := HPW.out w5 HB5.out; have HN5 := hide (grown_new _ hgrow5 wr.heap.size HQ1.out); clear H0 hown5 hgrow5 hat5)
            | (refine step_append_lies _ rfl _ _ 22 rfl wq.heap.size 24 it _ 4 56 Try.underlying22 HIT.out.1 HIT.out.2.1 HIT.out.2.2.1 HIT.out.2.2.2 rfl (by decide) (.slice ga L2 gc) L2 (ndCells (qs.map (hdT (n + 1)))) (by simp [Act.eval]) (H0.out.own2 HUL.out.2 (by first | exact HBa.out _ | exact HBb.out _ _)) ⟨wr.heap.size, 0, none⟩ 1 1 (nd4 (hdT (n + 1) x)) (by simp [Act.eval]) rfl (World.news_of_block (cs := #[.int .i64 x.1.1, .int .i64 x.1.2.1, .string x.1.2.2, .slice x.2.1.1 x.2.2.length x.2.1.2]) (t := 24) (fr := (0, 0)) (by first | exact nb_a wr _ | exact nb_b wr _ _)) (ndCells_one [hdT (n + 1) x]) (by decide) (by unfold maxLen; omega) (by omega) (by have := HT.out.1.size; simp [World.drew]; omega) _ rfl ?_; intro g5 c5 w5 hown5 hgrow5 hat5 hlt5; have H1t := hide (App2.termL (H0.out.later (by first | exact HBa.out _ | exact HBb.out _ _)) HUL.out.2 hown5 hgrow5 hat5); have HB5 := hide (H1t.out.below HT.out.1 HT.out.1.size (fun b e => (HT.out.2.1.lt b e).1) (fun b e => (HT.out.2.2.1.lt b e).1)); obtain ⟨⟨f0, f1⟩, ⟨h0, h1, h2, h3⟩⟩ := HPW.out w5 HB5.out; have HN5 := hide (grown_new _ hgrow5 wr.heap.size HQ2.out); clear H0 hown5 hgrow5 hat5)
            | (refine step_append_lies _ rfl _ _ 22 rfl wq.heap.size 24 it _ 4 56 Try.underlying22 HIT.out.1 HIT.out.2.1 HIT.out.2.2.1 HIT.out.2.2.2 rfl (by decide) (.slice ga L2 gc) L2 (ndCells (qs.map (hdT (n + 1)))) (by simp [Act.eval]) (H0.out.own2 HUL.out.2 (by first | exact HBa.out _ | exact HBb.out _ _)) ⟨wr.heap.size + 1, 0, none⟩ 1 1 (nd4 (hdT (n + 1) x)) (by simp [Act.eval]) rfl (World.news_of_block (cs := #[.int .i64 x.1.1, .int .i64 x.1.2.1, .string x.1.2.2, .slice x.2.1.1 x.2.2.length x.2.1.2]) (t := 24) (fr := (0, 0)) (nb_c wr _ _)) (ndCells_one [hdT (n + 1) x]) (by decide) (by unfold maxLen; omega) (by omega) (by have := HT.out.1.size; simp [World.drew]; omega) _ rfl ?_; intro g5 c5 w5 hown5 hgrow5 hat5 hlt5; have H1t := hide (App2.termL (H0.out.later (by first | exact HBa.out _ | exact HBb.out _ _)) HUL.out.2 hown5 hgrow5 hat5); have HB5 := hide (H1t.out.below HT.out.1 HT.out.1.size (fun b e => (HT.out.2.1.lt b e).1) (fun b e => (HT.out.2.2.1.lt b e).1)); obtain ⟨⟨f0, f1⟩, ⟨h0, h1, h2, h3⟩⟩ := HPW.out w5 HB5.out; have HN5 := hide (grown_new _ hgrow5 wr.heap.size HQ2.out); clear H0 hown5 hgrow5 hat5)
            | (refine step_append_lies _ rfl _ _ 22 rfl wq.heap.size 24 it _ 4 56 Try.underlying22 HIT.out.1 HIT.out.2.1 HIT.out.2.2.1 HIT.out.2.2.2 rfl (by decide) (.slice ga L2 gc) L2 (ndCells (qs.map (hdT (n + 1)))) (by simp [Act.eval]) (H1w.out.own2 HUL.out.2 (by first | exact Below.refl _ _ | exact (Below.refl _ _).alloc (Nat.le_refl _) _)) ⟨w5.heap.size, 0, none⟩ 1 1 (nd4 (hdT (n + 1) x)) (by simp [Act.eval]) rfl (World.news_of_block (cs := #[.int .i64 x.1.1, .int .i64 x.1.2.1, .string x.1.2.2, .slice x.2.1.1 x.2.2.length x.2.1.2]) (t := 24) (fr := (0, 0)) (heap_alloc_new w5 _)) (ndCells_one [hdT (n + 1) x]) (by decide) (by unfold maxLen; omega) (by omega) (by have := HB5.out.size; simp; omega) _ rfl ?_; intro g6 c6 w6 hown6 hgrow6 hat6 hlt6; have H2 := hide (App2.termL (H1w.out.later (by first | exact Below.refl _ _ | exact (Below.refl _ _).alloc (Nat.le_refl _) _)) HUL.out.2 hown6 hgrow6 hat6); have HB6 := hide (H2.out.below HT.out.1 HT.out.1.size (fun b e => (HT.out.2.1.lt b e).1) (fun b e => (HT.out.2.2.1.lt b e).1)); obtain ⟨⟨f0, f1⟩, ⟨h0, h1, h2, h3⟩⟩ := HPW.out w6 HB6.out)
            | (refine step_append_lies _ rfl _ _ 42 rfl wq.heap.size 37 iw _ 2 16 Try.underlying42 HIW.out.1 HIW.out.2.1 HIW.out.2.2.1 HIW.out.2.2.2 rfl (by decide) (.slice sa L2 sc) L2 (wCells us) (by simp [Act.eval]) (H1t.out.own1 HUL.out.1 (by first | exact Below.refl _ _ | exact (Below.refl _ _).alloc (Nat.le_refl _) _)) ⟨w5.heap.size, 0, none⟩ 1 1 (wd2 v) (by simp [Act.eval]) rfl (World.news_of_block (cs := #[.int .i64 v.1, .int .i64 v.2]) (t := 37) (fr := (0, 0)) (heap_alloc_new w5 _)) (wCells_one [v]) (by decide) (by unfold maxLen; omega) (by omega) (by have := HB5.out.size; simp; omega) _ rfl ?_; intro g6 c6 w6 hown6 hgrow6 hat6 hlt6; have H2 := hide (App2.wordL (H1t.out.later (by first | exact Below.refl _ _ | exact (Below.refl _ _).alloc (Nat.le_refl _) _)) HUL.out.1 hown6 hgrow6 hat6); have HB6 := hide (H2.out.below HT.out.1 HT.out.1.size (fun b e => (HT.out.2.1.lt b e).1) (fun b e => (HT.out.2.2.1.lt b e).1)); obtain ⟨⟨f0, f1⟩, ⟨h0, h1, h2, h3⟩⟩ := HPW.out w6 HB6.out)
            | (refine step_append_lies _ rfl _ _ 22 rfl wq.heap.size 24 it _ 4 56 Try.underlying22 HIT.out.1 HIT.out.2.1 HIT.out.2.2.1 HIT.out.2.2.2 rfl (by decide) (.slice ga L2 gc) L2 (ndCells (qs.map (hdT (n + 1)))) (by simp [Act.eval]) (H1w.out.own2 HUL.out.2 (by first | exact Below.refl _ _ | exact (Below.refl _ _).alloc (Nat.le_refl _) _)) ⟨wr.heap.size, 0, none⟩ 1 1 (nd4 (hdT (n + 1) x)) (by simp [Act.eval]) rfl (World.news_of_block (cs := #[.int .i64 x.1.1, .int .i64 x.1.2.1, .string x.1.2.2, .slice x.2.1.1 x.2.2.length x.2.1.2]) (t := 24) (fr := (0, 0)) ((HN5.out _ (by omega) (by simp [World.drew] <;> omega)).trans (by first | exact nb_a wr _ | exact nb_b wr _ _))) (ndCells_one [hdT (n + 1) x]) (by decide) (by unfold maxLen; omega) (by omega) (by have := HB5.out.size; simp; omega) _ rfl ?_; intro g6 c6 w6 hown6 hgrow6 hat6 hlt6; have H2 := hide (App2.termL (H1w.out.later (by first | exact Below.refl _ _ | exact (Below.refl _ _).alloc (Nat.le_refl _) _)) HUL.out.2 hown6 hgrow6 hat6); have HB6 := hide (H2.out.below HT.out.1 HT.out.1.size (fun b e => (HT.out.2.1.lt b e).1) (fun b e => (HT.out.2.2.1.lt b e).1)); obtain ⟨⟨f0, f1⟩, ⟨h0, h1, h2, h3⟩⟩ := HPW.out w6 HB6.out)
            | (refine step_append_lies _ rfl _ _ 42 rfl wq.heap.size 37 iw _ 2 16 Try.underlying42 HIW.out.1 HIW.out.2.1 HIW.out.2.2.1 HIW.out.2.2.2 rfl (by decide) (.slice sa L2 sc) L2 (wCells us) (by simp [Act.eval]) (H1t.out.own1 HUL.out.1 (by first | exact Below.refl _ _ | exact (Below.refl _ _).alloc (Nat.le_refl _) _)) ⟨wr.heap.size, 0, none⟩ 1 1 (wd2 v) (by simp [Act.eval]) rfl (World.news_of_block (cs := #[.int .i64 v.1, .int .i64 v.2]) (t := 37) (fr := (0, 0)) ((HN5.out _ (by omega) (by simp [World.drew] <;> omega)).trans (by first | exact nb_a wr _ | exact nb_b wr _ _))) (wCells_one [v]) (by decide) (by unfold maxLen; omega) (by omega) (by have := HB5.out.size; simp; omega) _ rfl ?_; intro g6 c6 w6 hown6 hgrow6 hat6 hlt6; have H2 := hide (App2.wordL (H1t.out.later (by first | exact Below.refl _ _ | exact (Below.refl _ _).alloc (Nat.le_refl _) _)) HUL.out.1 hown6 hgrow6 hat6); have HB6 := hide (H2.out.below HT.out.1 HT.out.1.size (fun b e => (HT.out.2.1.lt b e).1) (fun b e => (HT.out.2.2.1.lt b e).1)); obtain ⟨⟨f0, f1⟩, ⟨h0, h1, h2, h3⟩⟩ := HPW.out w6 HB6.out)
            | (refine step_append_lies _ rfl _ _ 22 rfl wq.heap.size 24 it _ 4 56 Try.underlying22 HIT.out.1 HIT.out.2.1 HIT.out.2.2.1 HIT.out.2.2.2 rfl (by decide) (.slice ga L2 gc) L2 (ndCells (qs.map (hdT (n + 1)))) (by simp [Act.eval]) (H1w.out.own2 HUL.out.2 (by first | exact Below.refl _ _ | exact (Below.refl _ _).alloc (Nat.le_refl _) _)) ⟨wr.heap.size + 1, 0, none⟩ 1 1 (nd4 (hdT (n + 1) x)) (by simp [Act.eval]) rfl (World.news_of_block (cs := #[.int .i64 x.1.1, .int .i64 x.1.2.1, .string x.1.2.2, .slice x.2.1.1 x.2.2.length x.2.1.2]) (t := 24) (fr := (0, 0)) ((HN5.out _ (by omega) (by simp [World.drew] <;> omega)).trans (nb_c wr _ _))) (ndCells_one [hdT (n + 1) x]) (by decide) (by unfold maxLen; omega) (by omega) (by have := HB5.out.size; simp; omega) _ rfl ?_; intro g6 c6 w6 hown6 hgrow6 hat6 hlt6; have H2 := hide (App2.termL (H1w.out.later (by first | exact Below.refl _ _ | exact (Below.refl _ _).alloc (Nat.le_refl _) _)) HUL.out.2 hown6 hgrow6 hat6); have HB6 := hide (H2.out.below HT.out.1 HT.out.1.size (fun b e => (HT.out.2.1.lt b e).1) (fun b e => (HT.out.2.2.1.lt b e).1)); obtain ⟨⟨f0, f1⟩, ⟨h0, h1, h2, h3⟩⟩ := HPW.out w6 HB6.out)
            | (refine step_append_lies _ rfl _ _ 42 rfl wq.heap.size 37 iw _ 2 16 Try.underlying42 HIW.out.1 HIW.out.2.1 HIW.out.2.2.1 HIW.out.2.2.2 rfl (by decide) (.slice sa L2 sc) L2 (wCells us) (by simp [Act.eval]) (H1t.out.own1 HUL.out.1 (by first | exact Below.refl _ _ | exact (Below.refl _ _).alloc (Nat.le_refl _) _)) ⟨wr.heap.size + 1, 0, none⟩ 1 1 (wd2 v) (by simp [Act.eval]) rfl (World.news_of_block (cs := #[.int .i64 v.1, .int .i64 v.2]) (t := 37) (fr := (0, 0)) ((HN5.out _ (by omega) (by simp [World.drew] <;> omega)).trans (nb_c wr _ _))) (wCells_one [v]) (by decide) (by unfold maxLen; omega) (by omega) (by have := HB5.out.size; simp; omega) _ rfl ?_; intro g6 c6 w6 hown6 hgrow6 hat6 hlt6; have H2 := hide (App2.wordL (H1t.out.later (by first | exact Below.refl _ _ | exact (Below.refl _ _).alloc (Nat.le_refl _) _)) HUL.out.1 hown6 hgrow6 hat6); have HB6 := hide (H2.out.below HT.out.1 HT.out.1.size (fun b e => (HT.out.2.1.lt b e).1) (fun b e => (HT.out.2.2.1.lt b e).1)); obtain ⟨⟨f0, f1⟩, ⟨h0, h1, h2, h3⟩⟩ := HPW.out w6 HB6.out)))
            all_goals
              have HE := hide (HT.out.app H2.out HSV.out HXM.out)
              go_wp2_with fail
              go_roundw
              case rel => exact ⟨j + 1, L2 + 1, _, _, _, _, by omega, by go_num, rfl, rfl, by omega, ⟨us ++ [v], qs ++ [x], by simp [HUL.out.1], HE.out⟩⟩
              case measure => simp [intOf]; omega
        · obtain rfl : j = mk := by omega
          have HQG : Hid (∀ q ∈ qs, chk (n + 1) q = 0 ∧ closedT (n + 1) q = true) := fun q hq => ⟨(HA.out.2.2.1 q (HT.out.2.2.2.2 q hq)).1, (HA.out.2.2.1 q (HT.out.2.2.2.2 q hq)).2.1⟩
          have HQI : Hid (∀ q ∈ qs, In w1.heap.size w1 (n + 1) q) := fun q hq => (HA.out.2.2.1 q (HT.out.2.2.2.2 q hq)).2.2
          have HC0 := hide (AgC.of HA.out HT.out HUL.out.1)
          have hnm : nm.length ≤ 50000 := by have := HA.out.2.2.2.2.2; omega
          have HCA := hide (ag_collect HC0.out HQG.out L2 sc HUL.out.1 (by omega) hnm)
          have hst := HT.out.2.2.2.1
          have hl1 := (roots_standL hst).2.trans HUL.out.1
          have hag := again_len hst
          have hl2 : (rootsR (rootsR ws (n + 1) us).2.1 (n + 1) (rootsR ws (n + 1) us).1).1.length = L2 := (roots_standL (roots_standL hst).1).2.trans hl1
          have HAG := hide (⟨hl1, hag, hl2⟩ : _ ∧ _ ∧ _)
          clear hst hl1 hag hl2 HA HT HVL HC0
          go_wp2_with fail
          refine HCA.out.mono ?_
          rintro e w4 ⟨g4, rfl, H4⟩
          have HU4 := hide (ag_used H4.out)
          have HCB := hide (ag_collect H4.out HQG.out L2 L2 HAG.out.1 (by omega) hnm)
          obtain ⟨hl1, hag, hl2⟩ := HAG.out
          rw [hag] at HCB
          generalize rootsR (rootsR ws (n + 1) us).2.1 (n + 1) (rootsR ws (n + 1) us).1 = R2 at *
          generalize rootsR ws (n + 1) us = R1 at *
          have HL6 := hide hl2
          obtain ⟨N, hN⟩ : ∃ N : Nat, R1.2.1.length = N := ⟨_, rfl⟩
          rw [hN] at HU4
          have HN := hide hN
          clear HCA HAG hl1 hag hl2 H4 hN
          go_wp2_with fail
          refine HU4.out.mono ?_
          rintro e w5 ⟨rfl, hw5⟩
          obtain rfl : w4 = w5 := hw5.symm
          clear hw5
          go_wp2_with fail
          refine HCB.out.mono ?_
          rintro e w6 ⟨g6, rfl, H6⟩
          have HU6 := hide (ag_used H6.out)
          rw [HN.out] at HU6
          have bN : ((N : Int) != (N : Int)) = false := by simp
          have bL : ((L2 : Int) != (L2 : Int)) = false := by simp
          clear HCB HU4
          go_wp2_with fail
          refine HU6.out.mono ?_
          rintro e w7 ⟨rfl, hw7⟩
          obtain rfl : w6 = w7 := hw7.symm
          clear hw7
          go_wp2_with fail
          go_loopw [127] (fun i wx => ∃ j3 : Nat, j3 ≤ L2 ∧ i = .int .i64 j3 ∧ Hid (Below w6.heap.size w6 wx)) (fun i _ => L2 - (intOf i).toNat)
          case atStart => exact ⟨0, Nat.zero_le _, rfl, Below.refl _ _⟩
          case round =>
            obtain ⟨i, hi, rfl, HBR⟩ := hrel
            by_cases hil : i < L2
            · obtain ⟨v, hv⟩ : ∃ v, R2.1[i]? = some v := ⟨R2.1[i]'(by rw [HL6.out]; exact hil), List.getElem?_eq_getElem _⟩
              obtain ⟨q, hq⟩ : ∃ q, qs[i]? = some q := ⟨qs[i]'(by rw [HUL.out.2]; exact hil), List.getElem?_eq_getElem _⟩
              have hA := H6.out.later HBR.out
              have hqm := List.mem_of_getElem? hq
              obtain ⟨p0, p1⟩ : wr.cell? ⟨g6, i * 2, none⟩ = some (.int .i64 v.1) ∧ wr.cell? ⟨g6, i * 2 + 1, none⟩ = some (.int .i64 v.2) := by
                rcases hA.2.2.1 with h | ⟨b, o, e, _, h⟩
                · rw [h] at hv; simp at hv
                · injection e with e
                  injection e with e1 e2
                  subst e1 e2
                  have := h i v hv
                  rwa [Nat.zero_add] at this
              have hOG : wr.ownsRow w1.heap.size 24 4 (.slice ga L2 gc) L2 (ndCells (qs.map (hdT (n + 1)))) := by have := hA.2.1; rwa [HUL.out.2] at this
              obtain ⟨gb, c2, e2, _, hgb⟩ := hOG.form (by omega)
              injection e2 with e2 _ e4
              subst e2 e4
              have HQC : Hid ((wr.cell? ⟨gb, i * 4, none⟩ = some (.int .i64 q.1.1) ∧ wr.cell? ⟨gb, i * 4 + 1, none⟩ = some (.int .i64 q.1.2.1) ∧ wr.cell? ⟨gb, i * 4 + 2, none⟩ = some (.string q.1.2.2) ∧ wr.cell? ⟨gb, i * 4 + 3, none⟩ = some (.slice q.2.1.1 q.2.2.length q.2.1.2))) := own_nd hOG i (hdT (n + 1) q) (by simp [hq])
              have HWR : Hid (Below w1.heap.size w1 wr) := by obtain ⟨⟨M, h1, _⟩, _⟩ := hA; exact h1.1
              have HGT : Hid (Calls Try.prog 25 #[.pointer (some ⟨w1.heap.size, 0, none⟩), .agg #[.int .i64 v.1, .int .i64 v.2]] wr fun e w' => ∃ y : Tm (n + 1), e = .returned (.tuple #[val (n + 1) y, .int .i64 0]) ∧ Hid (Below wr.heap.size wr w' ∧ In w'.heap.size w' (n + 1) y ∧ Off (fun q => wr.heap.size ≤ q) (n + 1) y ∧ same (n + 1) y (n + 1) q = true)) := by
                obtain ⟨⟨M, h1, _⟩, _, _, _, h5, h6⟩ := hA
                exact hget_any (n + 1) q v w1.heap.size w1.heap.size 1000 _ nm M wr h1.2.1 (h5.2 i v q hv hq) (right_formed.2 (chk_iff.1 (HQG.out q hqm).1).1) (HQG.out q hqm).2 (by omega) (by omega)
              have HQN := hide (HQI.out q hqm)
              have hi1 : (0 : Int) ≤ (i : Int) := by omega
              have hi2 : (i : Int) < (L2 : Int) := by omega
              clear hA hqm hOG hv hq
              go_wp2_with fail
              refine HGT.out.mono ?_
              rintro e w8 ⟨y, rfl, HY⟩
              have e3 : val (n + 1) y = .agg #[.int .i64 y.1.1, .int .i64 y.1.2.1, .string y.1.2.2, .slice y.2.1.1 y.2.2.length y.2.1.2] := rfl
              rw [e3]
              have HB8 := hide HY.out.1
              have hgb8 : gb < w8.heap.size := Nat.lt_of_lt_of_le hgb HB8.out.size
              obtain ⟨q0, q1, q2, q3⟩ := HQC.out
              have hcc8 := below_cells HB8.out
              replace q0 := (hcc8 _ _ hgb).trans q0
              replace q1 := (hcc8 _ _ hgb).trans q1
              replace q2 := (hcc8 _ _ hgb).trans q2
              replace q3 := (hcc8 _ _ hgb).trans q3
              have HQ8 := hide (show (w8.cell? ⟨gb, i * 4, none⟩ = some (.int .i64 q.1.1) ∧ w8.cell? ⟨gb, i * 4 + 1, none⟩ = some (.int .i64 q.1.2.1) ∧ w8.cell? ⟨gb, i * 4 + 2, none⟩ = some (.string q.1.2.2) ∧ w8.cell? ⟨gb, i * 4 + 3, none⟩ = some (.slice q.2.1.1 q.2.2.length q.2.1.2)) from ⟨q0, q1, q2, q3⟩)
              have HSM : Hid (∀ W, Below w8.heap.size w8 W → Calls Try.prog 13 #[.agg #[.int .i64 y.1.1, .int .i64 y.1.2.1, .string y.1.2.2, .slice y.2.1.1 y.2.2.length y.2.1.2], .agg #[.int .i64 q.1.1, .int .i64 q.1.2.1, .string q.1.2.2, .slice q.2.1.1 q.2.2.length q.2.1.2]] W fun e w' => e = .returned (.bool true) ∧ Below W.heap.size W w') := by
                intro W hW
                have h1 := HB8.out.trans (hW.mono HB8.out.size)
                have h2 := HWR.out.trans (h1.mono HWR.out.size)
                have h := same_any (n + 1) y (n + 1) q W.heap.size W ((HY.out.2.1.below hW).mono hW.size) ((HQN.out.below h2).mono h2.size) (Nat.le_refl _)
                rw [HY.out.2.2.2] at h
                exact h
              have HA8 : Hid (∀ o : Obj, Below w8.heap.size w8 (w8.alloc o).drew) := fun o => ((Below.refl _ _).alloc (Nat.le_refl _) o).drew
              have bT : (!true) = false := rfl
              clear HGT HY e3 hcc8 p0 p1 HQC
              go_wp2_with fail
              go_region_held3 (fun w' => (w'.cell? ⟨w8.heap.size, 0, none⟩ = some (.int .i64 y.1.1) ∧ w'.cell? ⟨w8.heap.size, 1, none⟩ = some (.int .i64 y.1.2.1) ∧ w'.cell? ⟨w8.heap.size, 2, none⟩ = some (.string y.1.2.2) ∧ w'.cell? ⟨w8.heap.size, 3, none⟩ = some (.slice y.2.1.1 y.2.2.length y.2.1.2)) ∧ (w'.cell? ⟨gb, i * 4, none⟩ = some (.int .i64 q.1.1) ∧ w'.cell? ⟨gb, i * 4 + 1, none⟩ = some (.int .i64 q.1.2.1) ∧ w'.cell? ⟨gb, i * 4 + 2, none⟩ = some (.string q.1.2.2) ∧ w'.cell? ⟨gb, i * 4 + 3, none⟩ = some (.slice q.2.1.1 q.2.2.length q.2.1.2)))
                (go_keep) ((first
                  | (go_at_call 13; refine (HSM.out _ (HA8.out _)).mono ?_; rintro e w9 ⟨rfl, hb9⟩; have HB9 := hide ((HA8.out _).trans (hb9.mono (HA8.out _).size)); obtain ⟨f0, f1, f2, f3⟩ := (boxed (below_undrew hb9)).1; have hc9 := below_cells HB9.out; obtain ⟨h0, h1, h2, h3⟩ := HQ8.out; replace h0 := (hc9 _ _ hgb8).trans h0; replace h1 := (hc9 _ _ hgb8).trans h1; replace h2 := (hc9 _ _ hgb8).trans h2; replace h3 := (hc9 _ _ hgb8).trans h3; clear hc9 hb9)))
              have HE := hide (HBR.out.trans ((HB8.out.trans (HB9.out.mono HB8.out.size)).mono HBR.out.size))
              go_wp2_with fail
              go_roundw
              case rel => exact ⟨i + 1, by omega, by go_num, HE.out⟩
              case measure => simp [intOf]; omega
            · have HNO := hide (ag_none (H6.out.later HBR.out) hnm)
              go_wp2_with fail
              refine HNO.out.mono ?_
              rintro e w8 ⟨g8, rfl, H8⟩
              have HU8 := hide (H8.out.2 _ (Below.refl _ _))
              have HBF := hide (HB1.out.trans (H8.out.1.mono HB1.out.size))
              clear HNO H8
              go_wp2_with fail
              refine HU8.out.mono ?_
              rintro e w9 ⟨rfl, hw9⟩
              obtain rfl : w8 = w9 := hw9.symm
              clear hw9
              go_wp2_with fail
              go_ret
              exact ⟨rfl, HBF.out⟩
end Go.Proofs.Ytpehdgbdinjbaab
