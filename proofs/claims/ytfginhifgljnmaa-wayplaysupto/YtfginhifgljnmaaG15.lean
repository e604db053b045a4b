/- What is proved here: plain facts and contracts that the claimed theorem stands on, several texts in one: All tells the ways that have messages, rising. No condition but that the ways lie in memory. All tells the ways that have messages, rising, wherever they lie. No condition but that the ways lie in memory. plain facts on a map from pairs of numbers to rows of terms that may begin anywhere in their blocks: how it lies in memory, what is looked up in it, and what a store leaves. No condition. a term is appended to a row that may begin anywhere, and to a map's row by its entry; a row's first term is left out. No condition but that the rows lie in memory. what the document's Putable and NewSystem do, and that slices.Equal of two rows of the same pairs is true. No condition but that all lies in memory. -/
import Derived.Test.YtfginhifgljnmaaG13
import Derived.Test.YtfginhifgljnmaaG14
import Derived.Test.YtfginhifgljnmaaG05
import Derived.Test.YtfginhifgljnmaaG10
namespace Go.Proofs.Ytfginhifgljnmaa
open Go.RowKit Go.Maps Go.Shelf Go.Lib Go.Sort

def encP (x : Int × Int) : List Value := [.int .i64 x.1, .int .i64 x.2]
def valP (ks : List Pr) : List (Int × Int) := ks.map (·.1)
theorem pcells_get : (ks : List Pr) → (t : Nat) → t < ks.length * 2 → (prCells ks)[t]? = some ((encP (valP ks).toArray[t / 2]!)[t % 2]!)
  | [], t, h => by simp at h
  | k :: ks, 0, _ => rfl
  | k :: ks, 1, _ => rfl
  | k :: ks, t + 2, h => by
    have ih := pcells_get ks t (by simp at h; omega)
    have e : prCells (k :: ks) = [.int .i64 k.1.1, .int .i64 k.1.2] ++ prCells ks := rfl
    rw [e, List.getElem?_append_right (by simp)]
    have e2 : t + 2 - [Value.int .i64 k.1.1, Value.int .i64 k.1.2].length = t := by simp
    rw [e2, ih, show (t + 2) / 2 = t / 2 + 1 by omega, show (t + 2) % 2 = t % 2 by omega]
    have h3 : (valP (k :: ks)).toArray[t / 2 + 1]! = (valP ks).toArray[t / 2]! := by
      simp [valP]
    rw [h3]
theorem holds_of {base g c : Nat} {ks : List Pr} {w : World} (h : w.ownsRow base 88 2 (.slice (some ⟨g, 0, none⟩) ks.length c) ks.length (prCells ks)) : HoldsK encP 2 w g 0 (valP ks).toArray := by
  intro j hj
  have hs : (flatK encP 2 (valP ks).toArray).size = ks.length * 2 := by simp [flatK, valP]
  rw [hs] at hj
  refine ⟨?_, ?_⟩
  · have h1 := h.cells (g := g) rfl j _ (pcells_get ks j hj)
    rw [Addr.add_lit] at h1
    rw [h1]
    have h2 := get_flatK encP 2 (valP ks).toArray j (by simp [valP]; omega)
    rw [← h2]
    rfl
  · rcases h.2 with ⟨e, _⟩ | ⟨g', cap, cur, e, _, hh, _⟩
    · cases e
    · injection e with e1 _ _
      injection e1 with e1
      injection e1 with e1 _
      subst e1
      simp [World.frozen?, hh]
/-- A row of pairs that can be read. -/
def PRow (v : Value) (l : List (Int × Int)) (w : World) : Prop :=
  ∃ a c, v = .slice a l.length c ∧ (l = [] ∨ ∃ g, a = some ⟨g, 0, none⟩ ∧ g < w.heap.size ∧ ∀ i k, l[i]? = some k → w.cell? ⟨g, i * 2, none⟩ = some (.int .i64 k.1) ∧ w.cell? ⟨g, i * 2 + 1, none⟩ = some (.int .i64 k.2))
theorem PRow.later {v : Value} {l : List (Int × Int)} {w w' : World} (h : PRow v l w) (hb : Below w.heap.size w w') : PRow v l w' := by
  obtain ⟨a, c, e, h⟩ := h
  refine ⟨a, c, e, ?_⟩
  rcases h with h | ⟨g, e, hg, h⟩
  · exact Or.inl h
  · exact Or.inr ⟨g, e, Nat.lt_of_lt_of_le hg hb.size, fun i k hk => ⟨(hb.cell (p := ⟨g, i * 2, none⟩) hg).trans (h i k hk).1, (hb.cell (p := ⟨g, i * 2 + 1, none⟩) hg).trans (h i k hk).2⟩⟩
def ltP (x y : Int × Int) : Prop := x.1 < y.1 ∨ x.1 = y.1 ∧ x.2 < y.2
theorem ltOf_iff (x y : Int × Int) : ltOf cmpP x y = true ↔ ltP x y := by
  unfold ltOf ltP
  rw [decide_eq_true_iff, cmpP_lt]
theorem ltOf_not (x y : Int × Int) : ltOf cmpP x y = false ↔ ¬ ltP x y := by
  rw [← ltOf_iff]
  cases ltOf cmpP x y <;> simp
theorem swoP : SWO (ltOf cmpP) where
  irrefl x := by rw [ltOf_not]; unfold ltP; omega
  trans x y z h1 h2 := by rw [ltOf_iff] at *; unfold ltP at *; omega
  ntrans x y z h1 h2 := by rw [ltOf_not] at *; unfold ltP at *; omega
/-- The ways that have messages, rising. -/
def Risen {N : Nat} (f : Int × Int → List (Tm N)) (l : List (Int × Int)) : Prop := l.Pairwise ltP ∧ ∀ k, k ∈ l ↔ I2 k ∧ f k ≠ []
theorem risen_unique {N M : Nat} {f : Int × Int → List (Tm N)} {g : Int × Int → List (Tm M)} : (l r : List (Int × Int)) → l.Pairwise ltP → r.Pairwise ltP → (∀ k, k ∈ l ↔ k ∈ r) → l = r
  | [], [], _, _, _ => rfl
  | [], b :: r, _, _, h => by have := (h b).2 (by simp); cases this
  | a :: l, [], _, _, h => by have := (h a).1 (by simp); cases this
  | a :: l, b :: r, hl, hr, h => by
    obtain ⟨l1, l2⟩ := List.pairwise_cons.1 hl
    obtain ⟨r1, r2⟩ := List.pairwise_cons.1 hr
    have hab : a = b := by
      have ha := (h a).1 (by simp)
      have hb := (h b).2 (by simp)
      simp only [List.mem_cons] at ha hb
      rcases ha with e | ha
      · exact e
      · rcases hb with e | hb
        · exact e.symm
        · have h1 := l1 b hb
          have h2 := r1 a ha
          unfold ltP at h1 h2
          omega
    subst hab
    rw [risen_unique (f := f) (g := g) l r l2 r2 fun k => ?_]
    constructor
    · intro hk
      have := (h k).1 (by simp [hk])
      simp only [List.mem_cons] at this
      rcases this with e | e
      · subst e
        have h1 := l1 k hk
        unfold ltP at h1
        omega
      · exact e
    · intro hk
      have := (h k).2 (by simp [hk])
      simp only [List.mem_cons] at this
      rcases this with e | e
      · subst e
        have h1 := r1 k hk
        unfold ltP at h1
        omega
      · exact e
theorem sorted_keys {N : Nat} {f : Int × Int → List (Tm N)} {ks : List Pr} (hp : ks.Pairwise (fun a b => a ≠ b)) (hm : ∀ k, (∃ x ∈ ks, x.1 = k) ↔ I2 k ∧ f k ≠ []) : Risen f ((valP ks).mergeSort fun x y => !(ltOf cmpP) y x) := by
  have htr : ∀ a b c : Int × Int, (!(ltOf cmpP) b a) = true → (!(ltOf cmpP) c b) = true → (!(ltOf cmpP) c a) = true := fun a b c h1 h2 => by
    simp only [Bool.not_eq_true', ltOf_not] at *
    unfold ltP at *
    omega
  have hto : ∀ a b : Int × Int, ((!(ltOf cmpP) b a) || (!(ltOf cmpP) a b)) = true := fun a b => by
    cases h : ltOf cmpP b a
    · simp
    · have h1 := (ltOf_iff b a).1 h
      have h2 : ltOf cmpP a b = false := (ltOf_not a b).2 (by unfold ltP at *; omega)
      simp [h2]
  have hs := List.pairwise_mergeSort htr hto (valP ks)
  have hperm := List.mergeSort_perm (valP ks) (fun x y => !(ltOf cmpP) y x)
  have hnd : (valP ks).Pairwise (fun a b => a ≠ b) := List.pairwise_map.2 (hp.imp fun h e => h (Subtype.ext e))
  have hnd2 := (hperm.symm.pairwise_iff (fun {a b} (h : a ≠ b) => h.symm)).1 hnd
  refine ⟨?_, fun k => ?_⟩
  · have hb := hs.and hnd2
    refine hb.imp fun {a b} h => ?_
    obtain ⟨h1, h2⟩ := h
    simp only [Bool.not_eq_true', ltOf_not] at h1
    have : ¬ (a.1 = b.1 ∧ a.2 = b.2) := fun e => h2 (Prod.ext e.1 e.2)
    unfold ltP at *
    omega
  · rw [hperm.mem_iff, ← hm k]
    simp [valP]
end Go.Proofs.Ytfginhifgljnmaa
namespace Go.Proofs.Ytfginhifgljnmaa
open Go.RowKit Go.Maps Go.Shelf Go.Lib Go.Sort

theorem sort_block (w : World) (g n : Nat) (d : Array (Int × Int)) (os : Array Obj) (b : Nat) (hb : b < w.heap.size) (hne : b ≠ g) : (sortWorldK encP 2 w g 0 n d os).heap[b]? = w.heap[b]? := by
  unfold sortWorldK
  have hz : (putRowK encP 2 (Sort.ahead w n) g 0 d).heap.size = w.heap.size := by simp [putRowK, putRow, mapBlock, Sort.ahead]
  rw [heap_grow_old _ _ (by omega)]
  have : g ≠ b := fun e => hne e.symm
  simp [putRowK, putRow, mapBlock, Sort.ahead, Array.getElem?_modify, this]
theorem sort_below (w : World) (g n base : Nat) (d : Array (Int × Int)) (os : Array Obj) (hg : base ≤ g) (hw : base ≤ w.heap.size) : Below base w (sortWorldK encP 2 w g 0 n d os) := by
  refine ⟨rfl, rfl, rfl, ?_, fun b hb => sort_block w g n d os b (by omega) (by omega)⟩
  simp [sortWorldK, grow, putRowK, putRow, mapBlock, Sort.ahead]
theorem aggPair (w : World) : (isAgg 88).run Try.prog w = .ok true w := by kernel_rfl
theorem sizePair (w : World) : (Go.sizeOf 88).run Try.prog w = .ok 2 w := by kernel_rfl
theorem sortf_any (base : Nat) (ks : List Pr) (v : Value) (w : World) (hks : ks.length ≤ 1000000) (hb : base ≤ w.heap.size) (hrow : w.ownsRow base 88 2 v ks.length (prCells ks)) :
    Calls Try.prog 124 #[v, .func (.func 95) #[] #[]] w fun e w' => e = .returned (.tuple #[]) ∧ PRow v ((valP ks).mergeSort fun x y => !(ltOf cmpP) y x) w' ∧ Below base w w' := by
  have hlen : ((valP ks).mergeSort fun x y => !(ltOf cmpP) y x).length = ks.length := by rw [List.length_mergeSort]; simp [valP]
  rcases hrow.2 with ⟨rfl, e⟩ | ⟨g, cap, cur, rfl, hg, hh, hr⟩
  · have hk : ks = [] := List.eq_nil_of_length_eq_zero e
    subst hk
    refine (sortf_none _ w).mono ?_
    rintro e w' ⟨rfl, rfl⟩
    exact ⟨rfl, ⟨none, 0, by simp [valP], Or.inl (by simp [valP])⟩, Below.refl _ _⟩
  · have hgl := (Array.getElem?_eq_some_iff.1 hh).1
    have hsz : (valP ks).toArray.size = ks.length := by simp [valP]
    have hH := holds_of hrow
    have hc := Try.slices_SortFunc_total 2 aggPair sizePair encP (fun _ => rfl) (fun x v hv => by simp [encP] at hv; rcases hv with rfl | rfl <;> rfl) cmpP swoP 95 #[] g 0 cap (valP ks).toArray w (enters_of Try.func95 (by kernel_rfl) rfl) (fun m os dk _ x y => worder_any x y _) hH hgl (by rw [hsz]; omega) (fun x y h1 h2 => by
      rw [ltOf_not] at h1 h2
      unfold ltP at h1 h2
      exact Prod.ext (by omega) (by omega))
    rw [hsz] at hc
    refine hc.mono ?_
    rintro e w' ⟨rfl, n, os, rfl⟩
    have hd : ((valP ks).mergeSort fun x y => !(ltOf cmpP) y x).toArray.size = (valP ks).toArray.size := by
      rw [List.size_toArray, hlen, hsz]
    have hz : (putRowK encP 2 (Sort.ahead w n) g 0 ((valP ks).toArray.toList.mergeSort fun x y => !(ltOf cmpP) y x).toArray).heap.size = w.heap.size := by simp [putRowK, putRow, mapBlock, Sort.ahead]
    have hhold := holdsK_grow (enc := encP) (k := 2) (putRowK encP 2 (Sort.ahead w n) g 0 ((valP ks).toArray.toList.mergeSort fun x y => !(ltOf cmpP) y x).toArray) os g 0 _ (by omega) (holdsK_putRowK (enc := encP) (k := 2) (Sort.ahead w n) g 0 (valP ks).toArray _ hH hd)
    refine ⟨rfl, ⟨some ⟨g, 0, none⟩, cap, by rw [hlen], Or.inr ⟨g, rfl, ?_, fun i k hk => ?_⟩⟩, sort_below w g n base _ os hg hb⟩
    · have := (sort_below w g n base ((valP ks).toArray.toList.mergeSort fun x y => !(ltOf cmpP) y x).toArray os hg hb).size
      omega
    · have hil := (List.getElem?_eq_some_iff.1 hk).1
      have h0 := (hhold.cell (i := i) (c := 0) (by simpa using hil) (by omega)).1
      have h1 := (hhold.cell (i := i) (c := 1) (by simpa using hil) (by omega)).1
      have ek : ((valP ks).toArray.toList.mergeSort fun x y => !(ltOf cmpP) y x).toArray[i]! = k := by
        have h3 : ((valP ks).mergeSort fun x y => !(ltOf cmpP) y x)[i]? = some k := hk
        simp only [List.getElem!_toArray]
        rw [List.getElem!_eq_getElem?_getD, h3]
        rfl
      rw [ek] at h0 h1
      simp only [Nat.zero_add, Nat.add_zero] at h0 h1
      exact ⟨h0, h1⟩
theorem len_subP : (l r : List Lit) → l.Pairwise (fun a b => a ≠ b) → (∀ x ∈ l, x ∈ r) → l.length ≤ r.length := by
  letI : DecidableEq Lit := fun a b => Classical.propDecidable (a = b)
  intro l
  induction l with
  | nil => exact fun _ _ _ => Nat.zero_le _
  | cons a l ih =>
    intro r hp hs
    obtain ⟨h1, h2⟩ := List.pairwise_cons.1 hp
    have ha := hs a (by simp)
    have ih' := ih (r.erase a) h2 fun x hx => (List.mem_erase_of_ne (fun e => h1 x hx e.symm)).2 (hs x (by simp [hx]))
    rw [List.length_erase_of_mem ha] at ih'
    have := List.length_pos_of_mem ha
    simp only [List.length_cons]
    omega
set_option maxRecDepth 100000 in
theorem sorted_any (Bm b nn : Nat) (D : DataW Value) (w : World) (hBm : Bm < w.heap.size) (hm : w.cell? ⟨Bm, 0, none⟩ = some (.map (some b))) (hown : w.ownsMap Try.prog 88 rawE b nn D) (hN : Maps.size D ≤ 1000000) :
    Calls Try.prog 93 #[.func (.func 125) #[] #[.pointer (some ⟨Bm, 0, none⟩)], .func (.func 95) #[] #[]] w fun e w' => ∃ v ks, e = .returned v ∧ Hid (AllKeys D ks ∧ PRow v ((valP ks).mergeSort fun x y => !(ltOf cmpP) y x) w' ∧ Below w.heap.size w w') := by
  have hbnd : ∀ ks : List Pr, AllKeys D ks → ks.length ≤ 1000000 := fun ks h => by
    obtain ⟨es, rfl, hp, hk⟩ := hown.entries pairLaw
    have h1 := @len_subP (ks.map fun k => kl k.1) (es.map (·.1)) (List.pairwise_map.2 (h.1.imp fun {a b} hab e => hab (Subtype.ext (kl_inj a.2 b.2 e)))) fun x hx => by
      obtain ⟨k, hkm, rfl⟩ := List.mem_map.1 hx
      have hh := (h.2 _).2 ⟨k, hkm, rfl⟩
      rw [has_eq] at hh
      obtain ⟨p, hpm, e⟩ := List.any_eq_true.1 hh
      exact List.mem_map.2 ⟨p, hpm, WideAt.sameKey_eq e⟩
    simp [Maps.size] at hN
    simp at h1
    omega
  have HA : Hid (Calls Try.prog 141 #[.slice none 0 0, .func (.func 125) #[] #[.pointer (some ⟨Bm, 0, none⟩)]] w fun e w' => ∃ (v : Value) (ks : List Pr), e = .returned v ∧ AllKeys D ks ∧ w'.ownsRow w.heap.size 88 2 v ks.length (prCells ks) ∧ Below w.heap.size w w') :=
    callsIn_wide.1 (appseq_in Fence.wide 5 trivial rfl (by omega) 125 #[.pointer (some ⟨Bm, 0, none⟩)] trivial (enters_of Try.func125 (by kernel_rfl) rfl) (AllKeys D) (Maps.size D) hN w (keys_stops Fence.wide 4 trivial rfl (by omega) Bm b nn D w hBm hm hown))
  have HC : Hid (Calls Try.prog 123 #[.func (.func 125) #[] #[.pointer (some ⟨Bm, 0, none⟩)]] w fun e w' => ∃ (v : Value) (ks : List Pr), e = .returned v ∧ AllKeys D ks ∧ w'.ownsRow w.heap.size 88 2 v ks.length (prCells ks) ∧ Below w.heap.size w w') := by
    unfold Hid
    go_enter Try.func123, Try.ntmps123
    go_wp2_with fail
    refine HA.out.mono ?_
    rintro e w' ⟨v, ks, rfl, hr⟩
    go_wp2_with fail
    go_ret
    exact ⟨v, ks, rfl, hr⟩
  clear HA hm hown hN
  go_enter Try.func93, Try.ntmps93
  go_wp2_with fail
  refine HC.out.mono ?_
  rintro e w1 ⟨v, ks, rfl, hak, hrow, hb1⟩
  have HK := hide hak
  have HB1 := hide hb1
  have HS := hide (sortf_any w.heap.size ks v w1 (hbnd ks hak) hb1.size hrow)
  clear hak hrow hb1
  go_wp2_with fail
  refine HS.out.mono ?_
  rintro e w2 ⟨rfl, hp2, hb2⟩
  have HR := hide (⟨HK.out, hp2, HB1.out.trans hb2⟩ : _ ∧ _ ∧ _)
  clear hp2 hb2 HS
  go_wp2_with fail
  go_ret
  exact ⟨v, ks, rfl, HR.out⟩
set_option maxRecDepth 100000 in
theorem keys1_nil (l Bm : Nat) (W : World) (hm : W.cell? ⟨Bm, 0, none⟩ = some (.map none)) :
    Calls Try.prog 125 #[.func (.yield l) #[] #[], .pointer (some ⟨Bm, 0, none⟩)] W fun e W' => (∃ v, e = .returned v) ∧ Below W.heap.size W W' := by
  have h1 := fun w => run_range_nilMap (P := Try.prog) w 90 88 22 Try.underlying90
  have h2 := fun ty => run_next_nilMap (P := Try.prog) W ty 0 0 #[]
  go_enter Try.func125, Try.ntmps125
  go_wp2_with fail
  refine wp_loop_rounds 1 ?_
  rw [rounds_succ]
  go_wp2_with fail
  exact bodyPost_end (v := .tuple #[]) (by simp [results]) rfl ⟨⟨_, rfl⟩, (Below.refl _ _).alloc (Nat.le_refl _) _⟩
/-- What All tells. -/
theorem wall_any {base wp n N : Nat} {mo : Option Nat} {f : Int × Int → List (Tm N)} {sl : Int × Int → Value} {w : World} (h : WyAt base wp mo n N f sl w) (hn : n ≤ 1000000) :
    Calls Try.prog 47 #[.pointer (some ⟨wp, 0, none⟩)] w fun e w' => ∃ v l, e = .returned v ∧ Hid (Risen f l ∧ PRow v l w' ∧ Below w.heap.size w w') := by
  have c0 := h.cell.1
  have HO : Hid ((mo = none ∧ f = fun _ => []) ∨ ∃ mb D, mo = some mb ∧ w.ownsMap Try.prog 88 rawE mb n D ∧ ∀ x, has D x = true ↔ ∃ k, I2 k ∧ x = kl k ∧ f k ≠ []) := by
    rcases h.2.2 with ⟨e, e2, _⟩ | ⟨mb, e, hg⟩
    · exact Or.inl ⟨e, e2⟩
    · obtain ⟨D, g1, _, g3⟩ := hg.map
      exact Or.inr ⟨mb, D, e, g1, g3⟩
  clear h
  go_enter Try.func47, Try.ntmps47
  go_wp2_with fail
  refine (keys_any mo w).mono ?_
  rintro e w1 ⟨rfl, hw1⟩
  have HB1 : Hid (Below w.heap.size w w1) := by
    rw [hw1]
    exact (Below.refl _ _).alloc (Nat.le_refl _) _
  have HQ1 : Hid (w1.heap[w.heap.size]? = some (.cells #[.map mo] 90)) := by
    rw [hw1]
    exact heap_alloc_new _ _
  have HG : Hid (w.grownBy w1 none) := by
    rw [hw1]
    exact World.grownBy_alloc w _ none
  clear hw1
  go_wp2_with fail
  rcases HO.out with ⟨rfl, rfl⟩ | ⟨mb, D, rfl, hown, hD⟩
  · refine (sorted_none 125 #[.pointer (some ⟨w.heap.size, 0, none⟩)] (enters_of Try.func125 (by kernel_rfl) rfl) _ w1 (fun l W hW => ?_)).mono ?_
    · exact keys1_nil l w.heap.size W (cell_row ((hW.block w.heap.size (Array.getElem?_eq_some_iff.1 HQ1.out).1).trans HQ1.out) 0)
    · rintro e w2 ⟨rfl, hb2⟩
      go_wp2_with fail
      go_ret
      exact ⟨_, [], rfl, ⟨List.Pairwise.nil, fun k => ⟨fun h => (by cases h), fun h => absurd rfl h.2⟩⟩, ⟨none, 0, rfl, Or.inl rfl⟩, HB1.out.trans (hb2.mono HB1.out.size)⟩
  · have HD := hide hD
    have hsz := hown.size_le
    have HS := hide (sorted_any w.heap.size mb n D w1 (Array.getElem?_eq_some_iff.1 HQ1.out).1 (cell_row HQ1.out 0) (hown.kept HG.out (by simp)) (by omega))
    clear hown hD hsz
    refine HS.out.mono ?_
    rintro e w2 ⟨v, ks, rfl, H2⟩
    go_wp2_with fail
    go_ret
    refine ⟨v, _, rfl, sorted_keys H2.out.1.1 (fun k => ?_), H2.out.2.1, HB1.out.trans (H2.out.2.2.mono HB1.out.size)⟩
    constructor
    · rintro ⟨x, hx, rfl⟩
      obtain ⟨k', hk', e, hf⟩ := (HD.out _).1 ((H2.out.1.2 _).2 ⟨x, hx, rfl⟩)
      rw [kl_inj x.2 hk' e]
      exact ⟨hk', hf⟩
    · rintro ⟨hk, hf⟩
      obtain ⟨x, hx, e⟩ := (H2.out.1.2 _).1 ((HD.out _).2 ⟨k, hk, rfl, hf⟩)
      exact ⟨x, hx, (kl_inj hk x.2 e).symm⟩
end Go.Proofs.Ytfginhifgljnmaa
namespace Go.Proofs.Ytfginhifgljnmaa
open Go.RowKit Go.Maps

/-- A row of terms that may begin anywhere in its block. -/
def ORow (base N : Nat) (v : Value) (l : List (Tm N)) (w : World) : Prop :=
  (v = .slice none 0 0 ∧ l = []) ∨ ∃ (g o cap : Nat) (cur : Array Value), v = .slice (some ⟨g, o, none⟩) l.length cap ∧ base ≤ g ∧ w.heap[g]? = some (.cells cur 24 (0, 0)) ∧ l.length ≤ cap ∧ cap ≤ maxLen ∧ o + cap * 4 ≤ cur.size ∧ (cur.toList.drop o).take (l.length * 4) = tCells N l
theorem ORow.lt {base N : Nat} {v : Value} {l : List (Tm N)} {w : World} (h : ORow base N v l w) (b : Nat) (hb : v.ownBlock = some b) : base ≤ b ∧ b < w.heap.size := by
  rcases h with ⟨rfl, _⟩ | ⟨g, o, cap, cur, rfl, h1, h2, _⟩
  · simp [Value.ownBlock] at hb
  · simp [Value.ownBlock] at hb
    subst hb
    exact ⟨h1, (Array.getElem?_eq_some_iff.1 h2).1⟩
theorem ORow.cells {base N : Nat} {v : Value} {l : List (Tm N)} {w : World} (h : ORow base N v l w) (b : Nat) (hb : v.ownBlock = some b) : ∃ cur, w.heap[b]? = some (.cells cur 24 (0, 0)) := by
  rcases h with ⟨rfl, _⟩ | ⟨g, o, cap, cur, rfl, h1, h2, _⟩
  · simp [Value.ownBlock] at hb
  · simp [Value.ownBlock] at hb
    subst hb
    exact ⟨cur, h2⟩
theorem ORow.kee {base N : Nat} {v : Value} {l : List (Tm N)} {w w' : World} {S : Nat → Prop} (h : ORow base N v l w) (k : Kee S w w') (hS : ∀ b, v.ownBlock = some b → ¬ S b) : ORow base N v l w' := by
  rcases h with h | ⟨g, o, cap, cur, e, h1, h2, h3⟩
  · exact Or.inl h
  · exact Or.inr ⟨g, o, cap, cur, e, h1, (k.block g (Array.getElem?_eq_some_iff.1 h2).1 (hS g (by rw [e]; rfl))).trans h2, h3⟩
theorem ORow.rebase {base base' N : Nat} {v : Value} {l : List (Tm N)} {w : World} (h : ORow base N v l w) (hb : base' ≤ base) : ORow base' N v l w := by
  rcases h with h | ⟨g, o, cap, cur, e, h1, h2⟩
  · exact Or.inl h
  · exact Or.inr ⟨g, o, cap, cur, e, Nat.le_trans hb h1, h2⟩
theorem ORow.sliced {base N : Nat} {v : Value} {l : List (Tm N)} {w : World} (h : ORow base N v l w) : ∃ a c, v = .slice a l.length c := by
  rcases h with ⟨rfl, rfl⟩ | ⟨g, o, cap, cur, rfl, _⟩
  · exact ⟨none, 0, rfl⟩
  · exact ⟨_, _, rfl⟩
/-- Block mb is a map from pairs to rows of terms; no two rows lie in one block; f: the rows; sl: where they lie. -/
structure GO (base mb n N : Nat) (f : Int × Int → List (Tm N)) (sl : Int × Int → Value) (w : World) : Prop where
  lo : base ≤ mb
  map : ∃ D, w.ownsMap Try.prog 88 rawE mb n D ∧ (∀ k, I2 k → D.atKey (kl k) (.held nilS) = .held (sl k))
  row : ∀ k, I2 k → ORow base N (sl k) (f k) w
  apart : ∀ k j, I2 k → I2 j → k ≠ j → ∀ b, (sl k).ownBlock = some b → (sl j).ownBlock ≠ some b
variable {base mb n N : Nat} {f : Int × Int → List (Tm N)} {sl : Int × Int → Value} {w : World}
theorem GO.lt (h : GO base mb n N f sl w) (b : Nat) (hb : gmM mb sl b) : base ≤ b ∧ b < w.heap.size := by
  rcases hb with rfl | ⟨k, hk, hb⟩
  · obtain ⟨D, h1, _⟩ := h.map
    exact ⟨h.lo, h1.lt⟩
  · exact (h.row k hk).lt b hb
theorem GO.ne (h : GO base mb n N f sl w) {k : Int × Int} (hk : I2 k) : (sl k).ownBlock ≠ some mb := by
  intro e
  obtain ⟨c, hc⟩ := (h.row k hk).cells mb e
  obtain ⟨D, ⟨es, clock, hb, _⟩, _⟩ := h.map
  rw [hb] at hc
  cases hc
theorem GO.kee {S : Nat → Prop} {w' : World} (h : GO base mb n N f sl w) (k : Kee S w w') (hS : ∀ b, gmM mb sl b → ¬ S b) : GO base mb n N f sl w' := by
  refine ⟨h.lo, ?_, fun j hj => (h.row j hj).kee k fun b hb => hS b (Or.inr ⟨j, hj, hb⟩), h.apart⟩
  obtain ⟨D, h1, h2⟩ := h.map
  refine ⟨D, ?_, h2⟩
  have hlt := h1.lt
  obtain ⟨es, clock, hb, hr⟩ := h1
  exact ⟨es, clock, (k.block mb hlt (hS mb (Or.inl rfl))).trans hb, hr⟩
theorem GO.mono (h : GO base mb n N f sl w) {m : Nat} (hm : n ≤ m) : GO base mb m N f sl w := by
  obtain ⟨h1, ⟨D, h2, h3⟩, h4, h5⟩ := h
  exact ⟨h1, ⟨D, h2.mono hm, h3⟩, h4, h5⟩
theorem GO.new (w : World) (N : Nat) : GO w.heap.size w.heap.size 0 N (fun _ => []) (fun _ => nilS) (w.alloc (.map #[] 0)) :=
  ⟨Nat.le_refl _, ⟨.map [], World.ownsMap_made w _ _ _, fun k _ => by simp [DataW.atKey]⟩, fun k _ => Or.inl ⟨rfl, rfl⟩, fun k j _ _ _ b hb => by simp [nilS, Value.ownBlock] at hb⟩
theorem GO.rebase {base' : Nat} (h : GO base mb n N f sl w) (hb : base' ≤ base) : GO base' mb n N f sl w :=
  ⟨Nat.le_trans hb h.lo, h.map, fun k hk => (h.row k hk).rebase hb, h.apart⟩
set_option maxRecDepth 100000 in
theorem GO.look (h : GO base mb n N f sl w) {k : Int × Int} (hk : I2 k) : (Instr.lookup 90 (.map (some mb)) (pk k) false).run Try.prog w = .ok (sl k) w := by
  obtain ⟨D, h1, h2⟩ := h.map
  obtain ⟨v, ps, hrun, hv⟩ := h1.lookup pairLaw Try.underlying90 (zeroRow w) (zd := .held nilS) (zp := []) rfl (pk_key hk)
  rw [h2 k hk] at hv
  have e := rawE_inv hv
  injection e with e
  rw [hrun, e]
/-- What is left where a row was laid in at its key. -/
theorem GO.put_of (h : GO base mb n N f sl w) {k : Int × Int} (hk : I2 k) {w1 w2 : World} (hK : Kee (fun b => b = mb ∨ (sl k).ownBlock = some b) w w1) {v : Value} {l : List (Tm N)} (ho : ORow base N v l w1)
    (hloc : ∀ b, v.ownBlock = some b → (sl k).ownBlock = some b ∨ w.heap.size ≤ b) (hkk : Kee (fun b => b = mb) w1 w2)
    (hown : ∀ D, w.ownsMap Try.prog 88 rawE mb n D → w2.ownsMap Try.prog 88 rawE mb (n + 1) (D.put (kl k) (.held v))) : GO base mb (n + 1) N (upd f k l) (upd sl k v) w2 := by
  obtain ⟨D, h1, h2⟩ := h.map
  have hlt := h1.lt
  have hmb : ∀ b, v.ownBlock = some b → b ≠ mb := fun b hb e => by
    subst e
    rcases hloc b hb with e | e
    · exact h.ne hk e
    · omega
  have hneq : ∀ j, I2 j → j ≠ k → ∀ b, (sl j).ownBlock = some b → v.ownBlock ≠ some b := fun j hj hjk b hb hv => by
    rcases hloc b hv with e | e
    · exact h.apart j k hj hk hjk b hb e
    · have := ((h.row j hj).lt b hb).2
      omega
  refine ⟨h.lo, ⟨_, hown D h1, fun j hj => ?_⟩, fun j hj => ?_, fun i j hi hj hij b => ?_⟩
  · rw [atKey_put h1.isMap hk hj]
    unfold upd
    split
    · rfl
    · exact h2 j hj
  · by_cases e : j = k
    · subst e
      rw [upd_same, upd_same]
      exact ho.kee hkk fun b hb e => hmb b hb e
    · rw [upd_other _ _ e, upd_other _ _ e]
      refine ((h.row j hj).kee hK fun b hb e' => ?_).kee hkk fun b hb e' => h.ne hj (by rw [hb, e'])
      rcases e' with e' | e'
      · exact h.ne hj (by rw [hb, e'])
      · exact h.apart j k hj hk e b hb e'
  · by_cases e1 : i = k
    · subst e1
      rw [upd_same, upd_other _ _ fun e => hij e.symm]
      exact fun hb hb' => hneq j hj (fun e => hij e.symm) b hb' hb
    · rw [upd_other _ _ e1]
      by_cases e2 : j = k
      · subst e2
        rw [upd_same]
        exact fun hb => hneq i hi hij b hb
      · rw [upd_other _ _ e2]
        exact h.apart i j hi hj hij b
/-- A row is laid in, at its key. -/
theorem GO.store (h : GO base mb n N f sl w) {k : Int × Int} (hk : I2 k) {w1 : World} (hK : Kee (fun b => (sl k).ownBlock = some b) w w1) {v : Value} {l : List (Tm N)} (ho : ORow base N v l w1)
    (hloc : ∀ b, v.ownBlock = some b → (sl k).ownBlock = some b ∨ w.heap.size ≤ b) (hn : n < 1000000) :
    ∃ w2, (Instr.mapUpdate 90 (.map (some mb)) (pk k) v).run Try.prog w1 = .ok () w2 ∧ GO base mb (n + 1) N (upd f k l) (upd sl k v) w2 ∧ Kee (fun b => b = mb) w1 w2 ∧ w2.heap.size = w1.heap.size := by
  have hstep : ∀ D, w.ownsMap Try.prog 88 rawE mb n D → ∃ w2, (Instr.mapUpdate 90 (.map (some mb)) (pk k) v).run Try.prog w1 = .ok () w2 ∧ w2.ownsMap Try.prog 88 rawE mb (n + 1) (D.put (kl k) (.held v)) ∧ w1.mapTurned w2 mb := by
    intro D h1
    have hlt := h1.lt
    have h1' : w1.ownsMap Try.prog 88 rawE mb n D := by
      obtain ⟨es, clock, hb, hr⟩ := h1
      exact ⟨es, clock, (hK.block mb hlt (h.ne hk)).trans hb, hr⟩
    exact h1'.store (d := .held v) (ps := []) pairLaw Try.underlying90 (by unfold maxLen; omega) (pk_key hk) rfl
  obtain ⟨D, h1, _⟩ := h.map
  obtain ⟨w2, hrun, _, ht⟩ := hstep D h1
  obtain ⟨hkk, hsz⟩ := turned_kee ht
  refine ⟨w2, hrun, h.put_of hk (hK.mono fun b _ e => Or.inr e) ho hloc hkk (fun D' h' => ?_), hkk, hsz⟩
  obtain ⟨w3, hrun3, hown, _⟩ := hstep D' h'
  rw [hrun] at hrun3
  injection hrun3 with _ e
  rw [e]
  exact hown
set_option maxRecDepth 100000 in
/-- The entry at a key is opened, what is at it is appended to, and it is laid in. -/
theorem GO.entry (h : GO base mb n N f sl w) {k : Int × Int} (hk : I2 k) (hn : n < 1000000) : ∃ (st : Nat) (w1 : World), (Instr.mapEntry 90 (.map (some mb)) (pk k)).run Try.prog w = .ok (.tuple #[sl k, goInt st]) w1 ∧ Kee (fun b => b = mb) w w1 ∧ w1.heap.size = w.heap.size ∧
    ∀ (w2 : World) (v : Value) (l : List (Tm N)), w2.heap[mb]? = w1.heap[mb]? → Kee (fun b => b = mb ∨ (sl k).ownBlock = some b) w w2 → ORow base N v l w2 → (∀ b, v.ownBlock = some b → (sl k).ownBlock = some b ∨ w.heap.size ≤ b) →
      ∃ w3, (Instr.entryStore 90 (.map (some mb)) (goInt st) v).run Try.prog w2 = .ok () w3 ∧ GO base mb (n + 1) N (upd f k l) (upd sl k v) w3 ∧ Kee (fun b => b = mb) w2 w3 ∧ w3.heap.size = w2.heap.size := by
  obtain ⟨D, h1, h2⟩ := h.map
  obtain ⟨es, clock, hb, F, hs, hD⟩ := h1
  have h1 : w.ownsMap Try.prog 88 rawE mb n D := ⟨es, clock, hb, F, hs, hD⟩
  obtain ⟨v0, st, es1, c1, hrun, hv0, hst⟩ := WideElems.entry_then_store (e := 22) pairKey.law Try.underlying90 zeroRow hb F (pk_key hk)
  have e0 : v0 = sl k := by
    have hlook := h.look hk
    obtain ⟨v1, ps, hrun1, hv1⟩ := h1.lookup pairLaw Try.underlying90 (zeroRow w) (zd := .held nilS) (zp := []) rfl (pk_key hk)
    rw [hlook] at hrun1
    rcases Maps.fit_look false pairLaw Try.underlying90 (zeroRow w) hb F (pk_key hk) with ⟨hr, hno, _⟩ | ⟨e1, y, hm1, hk1, hr, _⟩
    · rw [hlook] at hr
      injection hr with hr _
      rcases hv0 with ⟨e2, hm2, hk2, _⟩ | ⟨_, rfl⟩
      · exact absurd hk2 (hno e2 hm2)
      · exact hr.symm
    · rw [hlook] at hr
      injection hr with hr _
      rcases hv0 with ⟨e2, hm2, hk2, rfl⟩ | ⟨hno, _⟩
      · have := entry_eq_of_key ((MapKept.stamped_iff es clock).1 F.stamped).2.2 hm1 hm2 (hk1.trans hk2.symm)
        simp at hr
        rw [hr, this]
      · exact absurd hk1 (hno e1 hm1)
  subst e0
  have ht : w.mapTurned (ChangeMaps.setBlock w mb (.map es1 c1)) mb := ⟨es, clock, es1, c1, hb, rfl⟩
  obtain ⟨hk1, hz1⟩ := turned_kee ht
  refine ⟨st, _, hrun, hk1, hz1, fun w2 v l hw2 hK ho hloc => ?_⟩
  have hb2 : w2.heap[mb]? = some (.map es1 c1) := hw2.trans (ChangeMaps.heap_setBlock_same hb _)
  obtain ⟨es', c', hr1, hr2⟩ := hst w2 v hb2
  have ht2 : w2.mapTurned (ChangeMaps.setBlock w2 mb (.map es' c')) mb := ⟨es1, c1, es', c', hb2, rfl⟩
  obtain ⟨hk2, hz2⟩ := turned_kee ht2
  refine ⟨_, hr1, h.put_of hk hK ho hloc hk2 (fun D' h' => ?_), hk2, hz2⟩
  obtain ⟨w3, hrun3, hown, _⟩ := h'.store (d := .held v) (ps := []) pairLaw Try.underlying90 (by unfold maxLen; omega) (pk_key hk) rfl
  rw [hr2] at hrun3
  injection hrun3 with _ e
  rw [← e] at hown
  obtain ⟨es3, c3, hb3, hr3⟩ := hown
  rw [ChangeMaps.heap_setBlock_same hb] at hb3
  exact ⟨es3, c3, (ChangeMaps.heap_setBlock_same hb2 _).trans hb3, hr3⟩
end Go.Proofs.Ytfginhifgljnmaa
namespace Go.Proofs.Ytfginhifgljnmaa
open Go.RowKit Go.Maps

theorem run_append_offT {P : Program} (w : World) (t ty e : TypeId) (i : TypeInfo) (ht : P.underlying t = some (.slice e)) (hi : P.info? e = some i)
    (g mo sLen sCap : Nat) (cur : Array Value) (hg : w.heap[g]? = some (.cells cur e (0, 0)))
    (a : Addr) (m c : Nat) (news : List Value) (hl : news.length = m * i.size) (hnews : ∀ j u, news[j]? = some u → w.cell? (a.add j) = some u) (h1 : ∀ u ∈ news, u.oneCell' = true)
    (hroom : sLen + m ≤ sCap) (hfit : mo + sLen * i.size + news.length ≤ cur.size) :
    (Builtin.append_ #[t, t] ty #[.slice (some ⟨g, mo, none⟩) sLen sCap, .slice (some a) m c]).run P w =
      .ok (.slice (some ⟨g, mo, none⟩) (sLen + m) sCap) (w.setRow g (cur.toList.take (mo + sLen * i.size) ++ news ++ cur.toList.drop (mo + sLen * i.size + news.length)).toArray) := by
  have hf := run_firstCells_some (P := P) w i.size m a m c news hl hnews
  have hst := run_storeCells_at P g (mo + sLen * i.size) e news 0 cur w hg (by simpa using hfit) h1
  simp only [Nat.add_zero] at hst
  simp [Builtin.append_, run_underlying ht, sizeOf, typeInfo, hi, Builtin.lenOf, hroom, hf, Addr.add_lit, hst]
theorem setrow_kee {S : Nat → Prop} (w : World) (g : Nat) (cs : Array Value) (h : ∀ b, b = g → S b) : Kee S w (w.setRow g cs) := ⟨rfl, rfl, rfl, by simp, fun _ _ hb => setRow_other _ _ _ _ fun e => hb (h _ e)⟩
/-- What an append of a term leaves. -/
def OMore (base N : Nat) (v : Value) (l : List (Tm N)) (w : World) (v' : Value) (w' : World) : Prop :=
  ORow base N v' l w' ∧ Kee (fun b => v.ownBlock = some b) w w' ∧ ∀ b, v'.ownBlock = some b → v.ownBlock = some b ∨ w.heap.size ≤ b
theorem orow_fresh {base N : Nat} {v : Value} {w : World} (us : List (Tm N)) (C old : Nat) (z : Value) (hz : z.cells.size = 4) (hold : old = us.length) (hC : us.length ≤ C) (hC2 : C ≤ maxLen) (hb : base ≤ w.heap.size) :
    OMore base N v us w (.slice (some ⟨w.heap.size, 0, none⟩) us.length C) (w.drew.alloc (.cells ((tCells N us).toArray ++ Builtin.zeroCells z.cells (C - old)) 24)) := by
  have hbb : ∀ b, b < w.heap.size → (w.drew.alloc (.cells ((tCells N us).toArray ++ Builtin.zeroCells z.cells (C - old)) 24)).heap[b]? = w.heap[b]? := fun b hb => Below.heap_alloc w.drew _ b hb
  have hn : (w.drew.alloc (.cells ((tCells N us).toArray ++ Builtin.zeroCells z.cells (C - old)) 24)).heap[w.heap.size]? = some (.cells ((tCells N us).toArray ++ Builtin.zeroCells z.cells (C - old)) 24) := heap_alloc_new w.drew _
  refine ⟨Or.inr ⟨w.heap.size, 0, C, _, rfl, hb, hn, hC, hC2, ?_, ?_⟩, ⟨rfl, rfl, rfl, ?_, fun b hl _ => hbb b hl⟩, fun b e => Or.inr ?_⟩
  · rw [Array.size_append, size_zeroCells, hz, List.size_toArray, tCells_length]
    omega
  · rw [List.drop_zero, Array.toList_append, List.take_append_of_le_length (by rw [List.toList_toArray, tCells_length]; omega), List.toList_toArray, List.take_of_length_le (by rw [tCells_length]; omega)]
  · have := World.size_alloc w.drew (.cells ((tCells N us).toArray ++ Builtin.zeroCells z.cells (C - old)) 24)
    have e : w.drew.heap.size = w.heap.size := rfl
    omega
  · simp [Value.ownBlock] at e
    omega
theorem run_append_orow {base N : Nat} {v : Value} {l : List (Tm N)} {w : World} (ty : TypeId) (h : ORow base N v l w) (hl : l.length ≤ 1000) (hb : base ≤ w.heap.size) (sa : Addr) (c : Nat) (x : Tm N) (hs : ∀ j u, (nd4 (hdT N x))[j]? = some u → w.cell? (sa.add j) = some u) :
    ∃ ma' mc' w', (Builtin.append_ #[22, 22] ty #[v, .slice (some sa) 1 c]).run Try.prog w = .ok (.slice ma' (l.length + 1) mc') w' ∧ OMore base N v (l ++ [x]) w (.slice ma' (l.length + 1) mc') w' := by
  obtain ⟨it, hit, htz0, htz1, htz2⟩ := info_parts infoTermW
  have hone : ∀ u ∈ nd4 (hdT N x), u.oneCell' = true := by simp [nd4, Value.oneCell']
  have hl4 : (nd4 (hdT N x)).length = 4 := rfl
  have esn : tCells N (l ++ [x]) = tCells N l ++ nd4 (hdT N x) := by
    rw [tCells_append]
    simp [tCells, ndCells]
  have ell : (l ++ [x]).length = l.length + 1 := by simp
  rcases h with ⟨rfl, rfl⟩ | ⟨g, mo, mc, cur, rfl, e2, e3, e4, e5, e6, e7⟩
  · have hrun := run_append_nil (P := Try.prog) w 22 ty 24 it _ Try.underlying22 hit htz0 sa 1 c (nd4 (hdT N x)) (by rw [hl4, htz1]) hs (by omega) (by omega) (by rw [htz2]; omega)
    refine ⟨_, _, _, hrun, ?_⟩
    have h := orow_fresh (base := base) (N := N) (v := .slice none 0 0) (w := w) [x] (grownCap w 1 0 24) 1 (.agg #[.int .i64 0, .int .i64 0, .string ⟨#[]⟩, .slice none 0 0]) rfl rfl (grownCap_ge w 1 0 _) (grownCap_le_maxLen w 1 0 _ (by unfold maxLen; omega)) hb
    simpa [tCells, ndCells] using h
  · by_cases hr : l.length + 1 ≤ mc
    · have hfit : mo + l.length * it.size + (nd4 (hdT N x)).length ≤ cur.size := by rw [hl4, htz1]; omega
      have hrun := run_append_offT (P := Try.prog) w 22 ty 24 it Try.underlying22 hit g mo l.length mc cur e3 sa 1 c (nd4 (hdT N x)) (by rw [hl4, htz1]) hs hone hr hfit
      refine ⟨_, _, _, hrun, Or.inr ⟨g, mo, mc, _, by rw [ell], e2, setRow_heap w g cur _ _ _ e3, ?_, e5, ?_, ?_⟩, ?_, fun b hb => Or.inl hb⟩
      · rw [ell]
        exact hr
      · have hcl : cur.toList.length = cur.size := Array.length_toList
        rw [htz1] at hfit ⊢
        simp only [List.size_toArray, List.length_append, List.length_take, List.length_drop, hcl]
        omega
      · rw [htz1]
        have ht : (cur.toList.take (mo + l.length * 4)).length = mo + l.length * 4 := by
          have hcl : cur.toList.length = cur.size := Array.length_toList
          rw [List.length_take, hcl]
          omega
        have hd : (cur.toList.take (mo + l.length * 4)).drop mo = tCells N l := by
          rw [List.drop_take, Nat.add_sub_cancel_left]
          exact e7
        rw [esn, ell, List.append_assoc, List.drop_append_of_le_length (by omega), hd]
        have e : (l.length + 1) * 4 = (tCells N l).length + 4 := by
          rw [tCells_length]
          omega
        rw [e, List.take_length_add_append, List.take_append_of_le_length (by rw [hl4]; omega), List.take_of_length_le (by rw [hl4]; omega)]
      · exact setrow_kee w g _ fun b e => by rw [e]; rfl
    · have hcells : ∀ j u, (tCells N l)[j]? = some u → w.cell? ((⟨g, mo, none⟩ : Addr).add j) = some u := fun j u hj => by
        rw [Addr.add_lit, cell_row e3, ← List.getElem?_drop]
        rw [← e7, List.getElem?_take] at hj
        split at hj
        · exact hj
        · cases hj
      have hrun := run_append_grow (P := Try.prog) w 22 ty 24 it _ Try.underlying22 hit htz0 ⟨g, mo, none⟩ l.length mc (tCells N l) (by rw [tCells_length, htz1]) hcells sa 1 c (nd4 (hdT N x)) (by rw [hl4, htz1]) hs (by omega) (by omega) (growslice_fits (by omega) (by rw [htz2]; omega))
      refine ⟨_, _, _, hrun, ?_⟩
      have h := orow_fresh (base := base) (N := N) (v := .slice (some ⟨g, mo, none⟩) l.length mc) (w := w) (l ++ [x]) (grownCap w (l.length + 1) mc 24) (l.length + 1) (.agg #[.int .i64 0, .int .i64 0, .string ⟨#[]⟩, .slice none 0 0]) rfl ell.symm (by have := grownCap_ge w (l.length + 1) mc 24; omega) (grownCap_le_maxLen w _ _ _ (by unfold maxLen; omega)) hb
      rw [esn, ell, show (tCells N l ++ nd4 (hdT N x)).toArray = (tCells N l).toArray ++ (nd4 (hdT N x)).toArray by simp] at h
      exact h
/-- A row without its first term. -/
theorem orow_tail {base N : Nat} {v : Value} {y : Tm N} {l : List (Tm N)} {w : World} (h : ORow base N v (y :: l) w) : ∃ v', (∀ W, (Instr.slice 22 v (some (.int .i64 1)) none none).run Try.prog W = .ok v' W) ∧ ORow base N v' l w ∧ v'.ownBlock = v.ownBlock := by
  rcases h with ⟨_, e⟩ | ⟨g, o, cap, cur, rfl, e2, e3, e4, e5, e6, e7⟩
  · cases e
  · simp only [List.length_cons] at e4 e7
    have ely : (tCells N [y]).length = 4 := by rw [tCells_length]; rfl
    have hsp : tCells N (y :: l) = tCells N [y] ++ tCells N l := by
      rw [← tCells_append]
      rfl
    have hcl : cur.toList.length = cur.size := Array.length_toList
    by_cases hc : cap = 1
    · subst hc
      have hl0 : l = [] := List.eq_nil_of_length_eq_zero (by omega)
      subst hl0
      refine ⟨.slice (some ⟨g, o, none⟩) 0 0, fun W => ?_, Or.inr ⟨g, o, 0, cur, rfl, e2, e3, Nat.le_refl _, Nat.zero_le _, by omega, by simp [tCells, ndCells]⟩, rfl⟩
      simp [Instr.slice, run_underlying Try.underlying22, Instr.sliceBounds, Instr.sliceBound, asIntOf, go_sem]
    · refine ⟨.slice (some ⟨g, o + 4, none⟩) l.length (cap - 1), fun W => ?_, Or.inr ⟨g, o + 4, cap - 1, cur, rfl, e2, e3, by omega, by omega, by omega, ?_⟩, rfl⟩
      · have e2 : (1 : Int) ≤ ((l.length : Nat) : Int) + 1 := by omega
        simp [Instr.slice, run_underlying Try.underlying22, Instr.sliceBounds, Instr.sliceBound, asIntOf, e2, hc, go_sem, Addr.add_lit]
      · rw [hsp] at e7
        rw [← List.drop_drop]
        have h1 : ((cur.toList.drop o).take ((l.length + 1) * 4)).drop 4 = tCells N l := by
          rw [e7, List.drop_append_of_le_length (by omega), List.drop_of_length_le (by omega), List.nil_append]
        rw [← h1, List.drop_take]
        congr 1
        omega
theorem orow_first {base N : Nat} {v : Value} {y : Tm (N + 1)} {l : List (Tm (N + 1))} {w : World} (h : ORow base (N + 1) v (y :: l) w) : ∃ g o cap, v = .slice (some ⟨g, o, none⟩) (l.length + 1) cap ∧ w.cell? ⟨g, o, none⟩ = some (.int .i64 y.1.1) ∧ w.cell? ⟨g, o + 1, none⟩ = some (.int .i64 y.1.2.1) ∧ w.cell? ⟨g, o + 2, none⟩ = some (.string y.1.2.2) ∧ w.cell? ⟨g, o + 3, none⟩ = some (.slice y.2.1.1 y.2.2.length y.2.1.2) := by
  rcases h with ⟨_, e⟩ | ⟨g, o, cap, cur, rfl, e2, e3, e4, e5, e6, e7⟩
  · cases e
  · have hc : ∀ j u, (tCells (N + 1) (y :: l))[j]? = some u → w.cell? ⟨g, o + j, none⟩ = some u := fun j u hj => by
      rw [cell_row e3, ← List.getElem?_drop]
      rw [← e7, List.getElem?_take] at hj
      split at hj
      · exact hj
      · cases hj
    exact ⟨g, o, cap, rfl, hc 0 _ rfl, hc 1 _ rfl, hc 2 _ rfl, hc 3 _ rfl⟩
/-- A term is appended to a map's row, by its entry. -/
theorem GO.append {base mb n N : Nat} {f : Int × Int → List (Tm N)} {sl : Int × Int → Value} {W : World} (h : GO base mb n N f sl W) {k : Int × Int} (hk : I2 k) (hn : n < 999999) (hl : (f k).length ≤ 1000) (x : Tm N) {W2 : World} (hW2 : Below W.heap.size W W2) (sa : Addr) (c : Nat) (hs : ∀ j u, (nd4 (hdT N x))[j]? = some u → W2.cell? (sa.add j) = some u) (hsb : sa.block ≠ mb) (hsb2 : sa.block < W2.heap.size) :
    ∃ (a : Option Addr) (L cap st : Nat) (W1 : World) (a' : Option Addr) (cap' : Nat) (w5 w6 : World), sl k = .slice a L cap ∧ (Instr.mapEntry 90 (.map (some mb)) (pk k)).run Try.prog W2 = .ok (.tuple #[.slice a L cap, goInt st]) W1 ∧ (∀ ty, (Builtin.append_ #[22, 22] ty #[.slice a L cap, .slice (some sa) 1 c]).run Try.prog W1 = .ok (.slice a' (L + 1) cap') w5) ∧
      (Instr.entryStore 90 (.map (some mb)) (goInt st) (.slice a' (L + 1) cap')).run Try.prog w5 = .ok () w6 ∧ Kee (fun b => b = mb) W2 W1 ∧ Kee (fun b => gmM mb sl b) W2 w5 ∧ Kee (fun b => gmM mb sl b) W2 w6 ∧
      GO base mb (n + 1) N (upd f k (f k ++ [x])) (upd sl k (.slice a' (L + 1) cap')) w6 ∧ ∀ b, gmM mb (upd sl k (.slice a' (L + 1) cap')) b → gmM mb sl b ∨ W2.heap.size ≤ b := by
  have h2 : GO base mb n N f sl W2 := h.kee (kee_below hW2 fun _ => False) fun _ _ hf => hf
  have hm := h2.lt mb (Or.inl rfl)
  obtain ⟨a, cap, hsl⟩ := (h2.row k hk).sliced
  obtain ⟨st, W1, hrun, k1, hs1, he⟩ := h2.entry hk (by omega)
  have hrow : ORow base N (sl k) (f k) W1 := (h2.row k hk).kee k1 fun b hb e => h2.ne hk (by rw [hb, e])
  obtain ⟨a', cap', w5, hr5, ho5, hk5, hl5⟩ := run_append_orow 0 hrow hl (by omega) sa c x (fun j u hj => by
    have h1 := hs j u hj
    obtain ⟨bb, oo, ss⟩ := sa
    have e : ((⟨bb, oo, ss⟩ : Addr).add j).block = bb := by
      unfold Addr.add
      split <;> rfl
    rw [← h1]
    unfold World.cell?
    rw [e, k1.block bb hsb2 hsb])
  have hK5 : Kee (fun b => b = mb ∨ (sl k).ownBlock = some b) W2 w5 := Kee.trans (k1.mono fun b _ e => Or.inl e) hk5 fun b _ e => Or.inr e
  obtain ⟨w6, hr6, hG6, hk6, hs6⟩ := he w5 _ (f k ++ [x]) (hk5.block mb (by omega) (h2.ne hk)) hK5 ho5 (fun b hb => by
    rcases hl5 b hb with e | e
    · exact Or.inl e
    · exact Or.inr (by omega))
  have hM : ∀ b, b = mb ∨ (sl k).ownBlock = some b → gmM mb sl b := fun b hb => by
    rcases hb with e | e
    · exact Or.inl e
    · exact Or.inr ⟨k, hk, e⟩
  refine ⟨a, (f k).length, cap, st, W1, a', cap', w5, w6, hsl, by rw [← hsl]; exact hrun, fun ty => ?_, hr6, k1, hK5.mono fun b _ e => hM b e, Kee.trans (hK5.mono fun b _ e => hM b e) hk6 fun b _ e => Or.inl e, hG6, fun b hb => ?_⟩
  · rw [← hsl]
    exact hr5
  · rcases hb with hb | ⟨j, hj, hb⟩
    · exact Or.inl (Or.inl hb)
    · by_cases e : j = k
      · subst e
        rw [upd_same] at hb
        rcases hl5 b hb with e | e
        · exact Or.inl (Or.inr ⟨j, hj, e⟩)
        · exact Or.inr (by omega)
      · rw [upd_other _ _ e] at hb
        exact Or.inl (Or.inr ⟨j, hj, hb⟩)
end Go.Proofs.Ytfginhifgljnmaa
namespace Go.Proofs.Ytfginhifgljnmaa
open Go.RowKit Go.Maps

def gputC (n : Nat) (x : Tm n) : Int := if chk n x ≠ 0 then chk n x else if closedT n x = false then 5 else 0
set_option maxRecDepth 100000 in
theorem gputable_walk (x0 x1 : Int) (x2 : ByteArray) (xa : Option Addr) (xl xc : Nat) (ck : Int) (cl : Bool) (w : World)
    (HK : Hid (∀ w1, Below w.heap.size w w1 → Calls Try.prog 11 #[.agg #[.int .i64 x0, .int .i64 x1, .string x2, .slice xa xl xc]] w1 fun e w' => e = .returned (.int .i64 ck) ∧ Below w1.heap.size w1 w'))
    (HL : Hid (∀ w1, Below w.heap.size w w1 → Calls Try.prog 30 #[.agg #[.int .i64 x0, .int .i64 x1, .string x2, .slice xa xl xc]] w1 fun e w' => e = .returned (.bool cl) ∧ Below w1.heap.size w1 w')) :
    Calls Try.prog 19 #[.agg #[.int .i64 x0, .int .i64 x1, .string x2, .slice xa xl xc]] w fun e w' => e = .returned (.int .i64 (if ck ≠ 0 then ck else if cl = false then 5 else 0)) ∧ Below w.heap.size w w' := by
  obtain ⟨r, hr⟩ : ∃ r, r = (if ck ≠ 0 then ck else if cl = false then 5 else 0) := ⟨_, rfl⟩
  rw [← hr]
  have HR := hide hr
  clear hr
  go_enter Try.func19, Try.ntmps19
  go_wp2_with fail
  refine (HK.out _ ((Below.refl _ _).alloc (Nat.le_refl _) _)).mono ?_
  rintro e w1 ⟨rfl, hb1⟩
  obtain ⟨⟨t0, t1, t2, t3⟩, _⟩ := boxed hb1
  have HB1 : Hid (Below w.heap.size w w1) := ((Below.refl _ _).alloc (Nat.le_refl _) _).trans (hb1.mono (by simp))
  have hw1 : w.heap.size < w1.heap.size := by have := hb1.size; simp at this; omega
  clear hb1
  by_cases hck : ck = 0
  · have b1 : (ck != 0) = false := by simp [hck]
    have HC := hide hck
    clear hck
    go_wp2_with fail
    refine (HL.out _ HB1.out).mono ?_
    rintro e w2 ⟨rfl, hb2⟩
    have HB2 : Hid (Below w.heap.size w w2) := HB1.out.trans (hb2.mono HB1.out.size)
    clear hb2
    cases cl
    · go_wp2_with fail
      go_ret
      exact ⟨ret_int (by rw [HR.out]; simp [HC.out]), HB2.out⟩
    · go_wp2_with fail
      go_ret
      exact ⟨ret_int (by rw [HR.out]; simp [HC.out]), HB2.out⟩
  · have b1 : (ck != 0) = true := by simpa using hck
    have HC := hide hck
    clear hck
    go_wp2_with fail
    go_ret
    exact ⟨ret_int (by rw [HR.out]; simp [HC.out]), HB1.out⟩
theorem gputable_any (n : Nat) (x : Tm (n + 1)) (B : Nat) (w : World) (hx : In B w (n + 1) x) (hB : B ≤ w.heap.size) (hN : (nodes (n + 1) x).length ≤ 2097152) :
    Calls Try.prog 19 #[val (n + 1) x] w fun e w' => e = .returned (.int .i64 (gputC (n + 1) x)) ∧ Below w.heap.size w w' := by
  refine gputable_walk x.1.1 x.1.2.1 x.1.2.2 x.2.1.1 x.2.2.length x.2.1.2 (chk (n + 1) x) (closedT (n + 1) x) w ?_ ?_
  · intro w1 h1
    exact rcheck_any (n + 1) x B w1 (hx.below (h1.mono hB)) (Nat.le_trans hB h1.size) hN
  · intro w1 h1
    rw [closed_eq]
    exact rclosed_any (n + 1) x B w1 (hx.below (h1.mono hB)) (Nat.le_trans hB h1.size) hN
/-- The document's system, with its ways. -/
theorem nsys_any (w : World) (room : Int) : Calls Try.prog 43 #[.slice none 0 0, .int .i64 room] w fun e w' => e = .returned (.pointer (some ⟨w.heap.size + 3, 0, none⟩)) ∧ w' = (((w.alloc (.map #[] 0)).alloc (.map #[] 0)).alloc (.map #[] 0)).alloc (.cells #[.slice none 0 0, .int .i64 room, .int .i64 0, .map (some w.heap.size), .map (some (w.heap.size + 1)), .map (some (w.heap.size + 2)), .slice none 0 0] 94) := by
  have hmm := @run_makeMap Try.prog
  go_enter Try.func43, Try.ntmps43
  go_wp2_with fail
  go_ret
  exact ⟨rfl, rfl⟩
set_option maxRecDepth 100000 in
theorem pair_eq (a b : Int) (w : World) : (Op.equalIn 10000 88 (.agg #[.int .i64 a, .int .i64 b]) (.agg #[.int .i64 a, .int .i64 b])).run Try.prog w = .ok true w := by
  have u3 := Try.underlying3
  have a3 : ∀ w, (isAgg 3).run Try.prog w = .ok false w := fun w => by kernel_rfl
  have z3 : ∀ w, (Go.sizeOf 3).run Try.prog w = .ok 1 w := fun w => by kernel_rfl
  rw [show (10000 : Nat) = 9999 + 1 from rfl, Op.equalIn]
  simp only [Sem.run_bind, run_underlying Try.underlying88, Result.andThen_ok]
  simp only [Std.Legacy.Range.forIn_eq_forIn_range', Std.Legacy.Range.size, Nat.sub_zero, Nat.add_sub_cancel, Nat.div_one, List.range'_succ, List.range'_zero, List.forIn_cons, List.forIn_nil]
  go_simp
set_option maxRecDepth 100000 in
set_option maxHeartbeats 1000000 in
theorem equal_walk (g h : Option Addr) (c d : Nat) (len : Nat) (w : World) (hlen : len ≤ 1000000)
    (HC : Hid (∀ i, i < len → ∃ gb hb k0 k1, g = some ⟨gb, 0, none⟩ ∧ h = some ⟨hb, 0, none⟩ ∧ (w.cell? ⟨gb, i * 2, none⟩ = some (.int .i64 k0) ∧ w.cell? ⟨gb, i * 2 + 1, none⟩ = some (.int .i64 k1)) ∧ (w.cell? ⟨hb, i * 2, none⟩ = some (.int .i64 k0) ∧ w.cell? ⟨hb, i * 2 + 1, none⟩ = some (.int .i64 k1)))) :
    Calls Try.prog 46 #[.slice g len c, .slice h len d] w fun e w' => e = .returned (.bool true) ∧ Below w.heap.size w w' := by
  go_enter Try.func46, Try.ntmps46
  go_wp2_with fail
  go_loopw [13] (fun i wr => ∃ j : Nat, j ≤ len ∧ i = .int .i64 j ∧ Hid (Below w.heap.size w wr)) (fun i _ => len - (intOf i).toNat)
  case atStart => exact ⟨0, Nat.zero_le _, rfl, Below.refl _ _⟩
  case round =>
    obtain ⟨j, hj, rfl, HB⟩ := hrel
    by_cases hjl : j < len
    · obtain ⟨gb, hb, k0, k1, rfl, rfl, ⟨x0, x1⟩, y0, y1⟩ := HC.out j hjl
      have hg := World.block_lt_of_cell? w ⟨gb, j * 2, none⟩ x0
      have hh := World.block_lt_of_cell? w ⟨hb, j * 2, none⟩ y0
      have cc := below_cells HB.out
      replace x0 := (cc _ _ hg).trans x0
      replace x1 := (cc _ _ hg).trans x1
      replace y0 := (cc _ _ hh).trans y0
      replace y1 := (cc _ _ hh).trans y1
      clear cc
      have j1 : (0 : Int) ≤ (j : Int) := by omega
      have j2 : (j : Int) < (len : Int) := by omega
      have HD : Hid (Below w.heap.size w wr.drew) := HB.out.drew
      have he := pair_eq k0 k1
      go_wp2_with fail
      go_region_held3 (fun W => (W.cell? ⟨gb, j * 2, none⟩ = some (.int .i64 k0) ∧ W.cell? ⟨gb, j * 2 + 1, none⟩ = some (.int .i64 k1)) ∧ (W.cell? ⟨hb, j * 2, none⟩ = some (.int .i64 k0) ∧ W.cell? ⟨hb, j * 2 + 1, none⟩ = some (.int .i64 k1))) (go_keep) (fail)
      go_wp2_with fail
      go_roundw
      case rel => exact ⟨j + 1, by omega, by go_num, HD.out⟩
      case measure => simp [intOf]; omega
    · obtain rfl : j = len := by omega
      go_wp2_with fail
      go_ret
      exact ⟨rfl, HB.out⟩
theorem equal_any {v u : Value} {l : List (Int × Int)} {w : World} (h1 : PRow v l w) (h2 : PRow u l w) (hl : l.length ≤ 1000000) : Calls Try.prog 46 #[v, u] w fun e w' => e = .returned (.bool true) ∧ Below w.heap.size w w' := by
  obtain ⟨a, c, rfl, h1⟩ := h1
  obtain ⟨b, d, rfl, h2⟩ := h2
  refine equal_walk a b c d l.length w hl fun i hi => ?_
  rcases h1 with h1 | ⟨g, rfl, _, h1⟩
  · rw [h1] at hi
    simp at hi
  · rcases h2 with h2 | ⟨g', rfl, _, h2⟩
    · rw [h2] at hi
      simp at hi
    · have hk : l[i]? = some (l[i]'hi) := List.getElem?_eq_getElem hi
      exact ⟨g, g', (l[i]'hi).1, (l[i]'hi).2, rfl, rfl, h1 i _ hk, h2 i _ hk⟩
end Go.Proofs.Ytfginhifgljnmaa
