/- What is proved here: term.Copy and term.CopyAll of right terms that lie in memory: what they return is the same, and lies in new memory alone; no memory that was there is turned. No condition but those. -/
import Derived.Test.YtdlckjjfbobmpaaG06
import Derived.Test.YtdlckjjfbobmpaaG07
import Derived.Deep.RegionHeld3
namespace Go.Proofs.Ytdlckjjfbobmpaa
open Go.RowKit

theorem strcopy_any (s : ByteArray) (w : World) (hs : s.size ≤ 2048) :
    Calls Try.prog 48 #[.string s] w fun e w' => e = .returned (.string s) ∧ Below w.heap.size w w' := by
  go_enter Try.func48, Try.ntmps48
  go_wp2_with (go_at_call 51; refine (Try.stringslite_Clone s w (by omega)).mono ?_; rintro e w' ⟨rfl, hb⟩)
  go_ret
  exact ⟨rfl, hb⟩

theorem cp_start (n : Nat) (p : List (Tm n)) (len : Nat) {w w1 : World} (h : w1.ownsRow w.heap.size 32 4 (.slice (some ⟨w.heap.size, 0, none⟩) len len) len (madeCells (Value.agg #[.int .i64 0, .int .i64 0, .string .empty, .slice none 0 0]).cells (len * 4)).toList) : CpP n p len w.heap.size 0 [] w1 := by
  refine ⟨rfl, ?_, (fun y hy => by cases hy), rfl⟩
  have e : (madeCells (Value.agg #[.int .i64 0, .int .i64 0, .string .empty, .slice none 0 0]).cells (len * 4)).toList = anCells (List.replicate len zA) := made_zero len
  rw [e] at h
  unfold Has
  simpa using h

theorem below_two {w w1 : World} {o1 o2 : Obj} (h : Below ((w.alloc o1).alloc o2).drew.heap.size ((w.alloc o1).alloc o2).drew w1) : Below w.heap.size w w1 ∧ w.heap.size < w1.heap.size ∧ w.heap.size + 1 < w1.heap.size := by
  have h2 : Below w.heap.size w ((w.alloc o1).alloc o2).drew := (((Below.refl _ _).alloc (Nat.le_refl _) _).alloc (by simp) _).drew
  have h3 := h.size
  have e : ((w.alloc o1).alloc o2).drew.heap.size = w.heap.size + 2 := by simp [World.drew]
  exact ⟨h2.trans (h.mono h2.size), by omega, by omega⟩

theorem below_free {B : Nat} {w w1 : World} (h : Below B w w1) : ∀ b o, b < B → w1.frozen? ⟨b, o, none⟩ = w.frozen? ⟨b, o, none⟩ := fun b o hb => h.frozen (p := ⟨b, o, none⟩) hb
theorem two_boxes {w w' : World} {v0 v1 v2 v3 u0 u1 u2 u3 : Value} {t t' : TypeId} (hb : Below ((w.alloc (.cells #[v0, v1, v2, v3] t)).alloc (.cells #[u0, u1, u2, u3] t')).drew.heap.size ((w.alloc (.cells #[v0, v1, v2, v3] t)).alloc (.cells #[u0, u1, u2, u3] t')).drew w') :
    (w'.cell? ⟨w.heap.size, 0, none⟩ = some v0 ∧ w'.cell? ⟨w.heap.size, 1, none⟩ = some v1 ∧ w'.cell? ⟨w.heap.size, 2, none⟩ = some v2 ∧ w'.cell? ⟨w.heap.size, 3, none⟩ = some v3) ∧
    w'.cell? ⟨w.heap.size + 1, 0, none⟩ = some u0 ∧ w'.cell? ⟨w.heap.size + 1, 1, none⟩ = some u1 ∧ w'.cell? ⟨w.heap.size + 1, 2, none⟩ = some u2 ∧ w'.cell? ⟨w.heap.size + 1, 3, none⟩ = some u3 ∧
    w'.frozen? ⟨w.heap.size + 1, 0, none⟩ = false ∧ w'.frozen? ⟨w.heap.size + 1, 1, none⟩ = false ∧ w'.frozen? ⟨w.heap.size + 1, 2, none⟩ = false ∧ w'.frozen? ⟨w.heap.size + 1, 3, none⟩ = false := by
  have hc := fun o => hb.cell (p := ⟨w.heap.size, o, none⟩) (by simp [World.drew]; try omega)
  have hd := fun o => hb.cell (p := ⟨w.heap.size + 1, o, none⟩) (by simp [World.drew]; try omega)
  have hf := fun o => hb.frozen (p := ⟨w.heap.size + 1, o, none⟩) (by simp [World.drew]; try omega)
  exact ⟨⟨(hc 0).trans (by simp [go_sem]), (hc 1).trans (by simp [go_sem]), (hc 2).trans (by simp [go_sem]), (hc 3).trans (by simp [go_sem])⟩, (hd 0).trans (by simp [go_sem]), (hd 1).trans (by simp [go_sem]), (hd 2).trans (by simp [go_sem]), (hd 3).trans (by simp [go_sem]), (hf 0).trans (by simp [go_sem]), (hf 1).trans (by simp [go_sem]), (hf 2).trans (by simp [go_sem]), (hf 3).trans (by simp [go_sem])⟩

theorem boxes_next {w1 w2 : World} {q : Nat} {u0 u1 u2 u3 : Value} (hq : q < w1.heap.size) (h : Below w1.heap.size w1 w2)
    (k : w1.cell? ⟨q, 0, none⟩ = some u0 ∧ w1.cell? ⟨q, 1, none⟩ = some u1 ∧ w1.cell? ⟨q, 2, none⟩ = some u2 ∧ w1.cell? ⟨q, 3, none⟩ = some u3 ∧
    w1.frozen? ⟨q, 0, none⟩ = false ∧ w1.frozen? ⟨q, 1, none⟩ = false ∧ w1.frozen? ⟨q, 2, none⟩ = false ∧ w1.frozen? ⟨q, 3, none⟩ = false) :
    w2.cell? ⟨q, 0, none⟩ = some u0 ∧ w2.cell? ⟨q, 1, none⟩ = some u1 ∧ w2.cell? ⟨q, 2, none⟩ = some u2 ∧ w2.cell? ⟨q, 3, none⟩ = some u3 ∧
    w2.frozen? ⟨q, 0, none⟩ = false ∧ w2.frozen? ⟨q, 1, none⟩ = false ∧ w2.frozen? ⟨q, 2, none⟩ = false ∧ w2.frozen? ⟨q, 3, none⟩ = false := by
  obtain ⟨b0, b1, b2, b3, d0, d1, d2, d3⟩ := k
  have hcc := below_cells h
  have hff := below_free h
  exact ⟨(hcc _ _ hq).trans b0, (hcc _ _ hq).trans b1, (hcc _ _ hq).trans b2, (hcc _ _ hq).trans b3, (hff _ _ hq).trans d0, (hff _ _ hq).trans d1, (hff _ _ hq).trans d2, (hff _ _ hq).trans d3⟩

theorem CpRow.box {n : Nat} {p : List (Tm n)} {w w1 w2 : World} {a : Option Addr} {c : Nat} {l : List (Tm n)} (h : CpRow n p w1 w2 a c l) (hb : Below w.heap.size w w1) (hq : w.heap.size + 1 < w1.heap.size) (v0 v1 v2 v3 : Value) :
    CpRow n p w (put4 w2 (w.heap.size + 1) 0 v0 v1 v2 v3) a c l := by
  obtain ⟨h1, h2, h3, h4, h5, h6⟩ := h
  have hb2 := hb.trans (h1.mono hb.size)
  have hbs := hb.size
  refine ⟨⟨hb2.os, hb2.tape, hb2.output, Nat.le_trans hb2.size (Nat.le_of_eq (put4_size _ _ _ _).symm), fun q hq => (put4_block (by omega) _ _ _ _).trans (hb2.block q hq)⟩, h2, h3, h4, h5, ?_⟩
  rcases h6 with h6 | ⟨b, o, e, hb3, hb4, h6⟩
  · exact Or.inl h6
  · refine Or.inr ⟨b, o, e, ⟨by omega, hb3.2.1, fun j => ?_, hb3.2.2.2⟩, by rw [put4_size]; exact hb4, fun i y hy => ?_⟩
    · have hf := hb3.2.2.1 j
      unfold World.frozen? at hf ⊢
      rw [put4_block (w := w2) (g := w.heap.size + 1) (b := b) (o := 0) (by omega) v0 v1 v2 v3]
      exact hf
    obtain ⟨k1, k2, k3⟩ := h6 i y hy
    refine ⟨k1.block (put4_block (by omega) _ _ _ _), ?_, k3.mono fun q hq => by omega⟩
    rw [put4_size]
    exact In.off (fun q hq => put4_block (by omega) _ _ _ _) k3 k2

theorem good_len (x : Nd) (h : good x = true) : x.2.2.1 ≤ 8 := by
  by_cases h4 : x.1.1 = 4
  · simp [good, h4] at h
    omega
  · have := (good_parts x h).2.2.2.2 h4
    omega
theorem good_name (x : Nd) (h : good x = true) : x.1.2.2.size ≤ 8 := by
  by_cases h2 : x.1.1 = 2
  · simp [good, h2, nameB, inB] at h
    omega
  · have h1 := (good_parts x h).1 h2
    have h3 : x.1.2.2.data.toList = [] := by rw [ByteArray.toList_eq] at h1; exact h1
    have : x.1.2.2.size = 0 := by
      have e : x.1.2.2.size = x.1.2.2.data.toList.length := by rw [Array.length_toList]; rfl
      rw [e, h3]; rfl
    omega

end Go.Proofs.Ytdlckjjfbobmpaa
