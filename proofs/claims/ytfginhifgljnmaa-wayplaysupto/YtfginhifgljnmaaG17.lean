/- What is proved here: for WayRows: its small try of a Send and a Take, and where it begins. No condition but that all lies in memory. -/
import Derived.Test.YtfginhifgljnmaaG16
namespace Go.Proofs.Ytfginhifgljnmaa
open Go.RowKit Go.Maps

/-- A call: its kind, from whom, to whom, the term. -/
abbrev Wc (N : Nat) : Type := (Int × Int × Int) × Tm (N + 1)
def wc7 (N : Nat) (c : Wc N) : List Value := [.int .i64 c.1.1, .int .i64 c.1.2.1, .int .i64 c.1.2.2, .int .i64 c.2.1.1, .int .i64 c.2.1.2.1, .string c.2.1.2.2, .slice c.2.2.1.1 c.2.2.2.length c.2.2.1.2]
/-- The calls lie in memory. -/
def Wcs (B : Nat) (w : World) (N : Nat) (l : List (Wc N)) (a : Option Addr) : Prop :=
  l = [] ∨ ∃ b o, a = some ⟨b, o, none⟩ ∧ b < B ∧ ∀ (i : Nat) (y : Wc N), l[i]? = some y → (∀ (j : Nat) (u : Value), (wc7 N y)[j]? = some u → w.cell? ⟨b, o + i * 7 + j, none⟩ = some u) ∧ I64 y.1.1 ∧ I2 (y.1.2.1, y.1.2.2) ∧ In B w (N + 1) y.2 ∧ (nodes (N + 1) y.2).length ≤ 2097152
theorem infoTermR : (Try.prog.info? 24).map (fun i => (i.zero, i.size, i.bytes)) = some (some (.agg #[.int .i64 0, .int .i64 0, .string ⟨#[]⟩, .slice none 0 0]), 4, 56) := by kernel_rfl
theorem num5_send : sendE 0 1 2 (numT 5) 0 = 0 := by
  have hc : chk 1 (numT 5) = 0 := by
    have f : formedB 1 (numT 5) = true := by simp [formedB, numT, good, hdOf, inB]
    have d : dep 1 (numT 5) ≤ 12 := by simp [dep, numT]
    have z : sz 1 (numT 5) ≤ 200 := by simp [sz, numT]
    rw [← tchk_chk]
    simp [tchk, f]
    omega
  have hd : closedT 1 (numT 5) = true := by simp [closedT, numT]
  unfold sendE
  rw [show chk (0 + 1) (numT 5) = 0 from hc, show closedT (0 + 1) (numT 5) = true from hd]
  decide
theorem kee_base {base : Nat} {S : Nat → Prop} {w1 w' : World} (k : Kee S w1 w') (hb : base ≤ w1.heap.size) (hS : ∀ b, S b → base ≤ b) : Below base w1 w' := k.below hb fun b hb' hs => by have := hS b hs; omega
/-- Behind the small Send. -/
def Pre1 (base wp : Nat) (y : Tm 1) (w' : World) : Prop :=
  same 1 y 1 (numT 5) = true ∧ In w'.heap.size w' 1 y ∧ ∃ mb sl, WyAt base wp (some mb) 1 1 (upd (fun _ => []) (1, 2) [y]) sl w' ∧ Off (fun b => ¬ wyM wp (some mb) sl b) 1 y
theorem pre_send {base wp : Nat} {w1 : World} (h : WyAt base wp none 0 1 (fun _ => []) (fun _ => nilS) w1) {W : World} (hW : Below w1.heap.size w1 W) : Calls Try.prog 44 #[.pointer (some ⟨wp, 0, none⟩), .int .i64 1, .int .i64 2, .agg #[.int .i64 1, .int .i64 5, .string ⟨#[]⟩, .slice none 0 0]] W fun e w' => e = .returned (.int .i64 0) ∧ Hid (Below base W w' ∧ ∃ y, Pre1 base wp y w') := by
  have h1 := h.later hW
  have hb := (h1.lt wp (Or.inl rfl)).1
  have hl := (h1.lt wp (Or.inl rfl)).2
  refine (send_any (N := 0) h1 (a := 1) (b := 2) ⟨by simp [I64], by simp [I64]⟩ (numT 5) (num_in 5 (by simp [I64]) _ _) (by simp [nodes, numT]) (by omega) (by simp)).mono ?_
  rintro e w' ⟨rfl, _, g2⟩
  have e0 : sendE 0 1 2 (numT 5) ((fun _ : Int × Int => ([] : List (Tm (0 + 1)))) (1, 2)).length = 0 := num5_send
  refine ⟨by rw [e0], ?_⟩
  obtain ⟨y, mo', sl', hs, hwy, hk, hloc, hin, hoff⟩ := g2 e0
  refine ⟨kee_base hk (by omega) fun b hb' => (h1.lt b hb').1, y, hs, hin, ?_⟩
  rcases hwy.2.2 with ⟨_, e, _⟩ | ⟨mb, rfl, _⟩
  · have := congrFun e (1, 2)
    rw [upd_same] at this
    simp at this
  · exact ⟨mb, sl', hwy, hoff.mono fun b hb => hb.2⟩
theorem pre_many {base wp : Nat} {y : Tm 1} {w' : World} (h : Pre1 base wp y w') : (Calls Try.prog 49 #[.pointer (some ⟨wp, 0, none⟩), .int .i64 1, .int .i64 2] w' fun e w2 => e = .returned (.int .i64 1) ∧ w2 = w') ∧ Calls Try.prog 49 #[.pointer (some ⟨wp, 0, none⟩), .int .i64 2, .int .i64 1] w' fun e w2 => e = .returned (.int .i64 0) ∧ w2 = w' := by
  obtain ⟨_, _, mb, sl, hwy, _⟩ := h
  refine ⟨(wmany_any hwy (a := 1) (b := 2) ⟨by simp [I64], by simp [I64]⟩).mono fun e w2 h => ?_, (wmany_any hwy (a := 2) (b := 1) ⟨by simp [I64], by simp [I64]⟩).mono fun e w2 h => ?_⟩
  · rw [upd_same] at h
    exact h
  · rw [upd_other _ _ (by decide)] at h
    exact h
/-- Behind the small Take. -/
def Pre2 (base wp : Nat) (w' : World) : Prop := ∃ mb f sl, WyAt base wp (some mb) 2 1 f sl w' ∧ ∀ k, f k = []
theorem pre_take {base wp : Nat} {y : Tm 1} {W : World} (h : Pre1 base wp y W) : Calls Try.prog 45 #[.pointer (some ⟨wp, 0, none⟩), .int .i64 1, .int .i64 2] W fun e w' => e = .returned (.tuple #[.agg #[.int .i64 y.1.1, .int .i64 y.1.2.1, .string y.1.2.2, .slice y.2.1.1 y.2.2.length y.2.1.2], .int .i64 0]) ∧ Hid (Below base W w' ∧ In w'.heap.size w' 1 y ∧ Pre2 base wp w') := by
  obtain ⟨_, hin, mb, sl, hwy, hoff⟩ := h
  have hl := hwy.lt wp (Or.inl rfl)
  refine (take_any (N := 0) hwy (a := 1) (b := 2) ⟨by simp [I64], by simp [I64]⟩ (by omega) (by rw [upd_same]; simp)).mono ?_
  rintro e w' ⟨_, g2⟩
  obtain ⟨rfl, sl', hwy', hk, hloc⟩ := g2 y [] (by rw [upd_same])
  refine ⟨rfl, kee_base hk (by omega) fun b hb' => (hwy.lt b hb').1, hin.kee hk hoff, mb, _, sl', hwy', fun k => ?_⟩
  by_cases e : k = (1, 2)
  · subst e
    rw [upd_same]
  · rw [upd_other _ _ e, upd_other _ _ e]
theorem WyAt.empty {base wp n N M : Nat} {mo : Option Nat} {f : Int × Int → List (Tm N)} {sl : Int × Int → Value} {w : World} (h : WyAt base wp mo n N f sl w) (h0 : ∀ k, f k = []) : WyAt base wp mo n M (fun _ => []) sl w := by
  obtain ⟨h1, h2, h3⟩ := h
  refine ⟨h1, h2, ?_⟩
  rcases h3 with ⟨e, _, e2⟩ | ⟨mb, e, hg⟩
  · exact Or.inl ⟨e, rfl, e2⟩
  · refine Or.inr ⟨mb, e, hg.lo, ?_, fun k hk => ?_, hg.apart⟩
    · obtain ⟨D, g1, g2, g3⟩ := hg.map
      refine ⟨D, g1, g2, fun x => ⟨fun hx => ?_, fun ⟨k, _, _, hf⟩ => absurd rfl hf⟩⟩
      obtain ⟨k, _, _, hf⟩ := (g3 x).1 hx
      exact absurd (h0 k) hf
    · have h := hg.row k hk
      unfold TRow at h ⊢
      rw [h0 k] at h
      exact h
theorem pre_all {base wp : Nat} {W : World} (h : Pre2 base wp W) : Calls Try.prog 47 #[.pointer (some ⟨wp, 0, none⟩)] W fun e w' => e = .returned (.slice none 0 0) ∧ Below W.heap.size W w' := by
  obtain ⟨mb, f, sl, hwy, h0⟩ := h
  exact all_none hwy h0
theorem Pre2.later {base wp : Nat} {W W' : World} (h : Pre2 base wp W) (hb : Below W.heap.size W W') : Pre2 base wp W' := by
  obtain ⟨mb, f, sl, hwy, h0⟩ := h
  exact ⟨mb, f, sl, hwy.later hb, h0⟩
/-- Where the calls begin. -/
theorem RS.start {w W : World} {wp N : Nat} (hW : Below w.heap.size w W) (h : Pre2 w.heap.size wp W) : RS w wp W.heap.size (W.heap.size + 1) N 2 ((W.alloc (.map #[] 0)).alloc (.map #[] 0)) := by
  obtain ⟨mb, f, sl, hwy, h0⟩ := h
  have hb : Below W.heap.size W ((W.alloc (.map #[] 0)).alloc (.map #[] 0)) := ((Below.refl _ _).alloc (Nat.le_refl _) _).alloc (by simp) _
  have hz := hW.size
  have g1 : GM w.heap.size W.heap.size 2 (N + 1) (fun _ => []) (fun _ => nilS) ((W.alloc (.map #[] 0)).alloc (.map #[] 0)) :=
    (((GM.new W (N + 1)).rebase hz).mono (Nat.zero_le _)).kee (kee_below ((Below.refl _ _).alloc (Nat.le_refl _) _) fun _ => False) fun _ _ hf => hf
  have g2 : GM w.heap.size (W.heap.size + 1) 2 (N + 1) (fun _ => []) (fun _ => nilS) ((W.alloc (.map #[] 0)).alloc (.map #[] 0)) := by
    have := GM.new (W.alloc (.map #[] 0)) (N + 1)
    rw [World.size_alloc] at this
    exact (this.rebase (by omega)).mono (Nat.zero_le _)
  have hno : ∀ (m b : Nat), gmM m (fun _ => nilS) b → b = m := by
    rintro m b (e | ⟨k, _, e⟩)
    · exact e
    · simp [nilS, Value.ownBlock] at e
  have hwy2 := (hwy.empty h0 (M := N + 1)).later hb
  refine ⟨some mb, fun _ => [], fun _ => [], fun _ => [], sl, fun _ => nilS, fun _ => nilS, ⟨hW.trans (hb.mono hz), hwy2, g1, g2, fun b hb hs => ?_, fun b hb hs => ?_, fun b hb hs => ?_, ?_⟩, fun k _ => by simp [sameL], fun k _ => by simp, fun k _ y hy => by cases hy⟩
  · have h1 := (hwy.lt b hb).2
    have := hno _ _ hs
    omega
  · have h1 := (hwy.lt b hb).2
    have := hno _ _ hs
    omega
  · have h1 := hno _ _ hb
    have := hno _ _ hs
    omega
  · rintro y ⟨k, _, hy⟩
    simp at hy
end Go.Proofs.Ytfginhifgljnmaa
