/- What is proved here: heap.tuples' reached, of words that stand for right terms: the copies. No condition but sizes. -/
import Derived.Test.YtfaoeccnhbcjgabHp21
namespace Go.Proofs.Ytfaoeccnhbcjgab
open Go.RowKit Go.Maps

theorem cp_made (w : World) (fv : Value) : CpAt w.heap.size (w.heap.size + 1) fv ([], []) (fun b => w.heap.size ≤ b) ((w.alloc (.map #[] 0)).alloc (.cells #[fv, .slice none 0 0, .map (some w.heap.size)] 111)) := by
  have hm := World.ownsMap_made w Try.prog 3 (plainElem (H := Unit) Try.prog 3)
  have es : ∀ o, (w.alloc o).heap.size = w.heap.size + 1 := fun o => by simp
  have hb := heap_alloc_new (w.alloc (.map #[] 0)) (.cells #[fv, .slice none 0 0, .map (some w.heap.size)] 111)
  rw [es] at hb
  exact ⟨.slice none 0 0, w.heap.size, .map [], hb, World.ownsRow_nil _ _ _ _, hm.alloc _, went_nil, by omega, fun b e => by simp [Value.ownBlock] at e, Nat.le_refl _⟩

/-- What reached leaves. -/
def ReachOut (R : List Wd × List Wd × Went) (len g : Nat) (tv : Value) (w w' : World) : Prop :=
  Below w.heap.size w w' ∧ w'.ownsRow w.heap.size 37 2 tv R.2.1.length (wCells R.2.1) ∧ w'.ownsRow g 37 2 (.slice (some ⟨g, 0, none⟩) len len) len (wCells R.1) ∧ w.heap.size ≤ g ∧ tv.ownBlock ≠ some g
set_option maxHeartbeats 1000000 in
set_option maxRecDepth 100000 in
theorem reached_walk (R : List Wd × List Wd × Went) (fv : Value) (ta : Option Addr) (L tc : Nat) (a : Option Addr) (len pc : Nat) (w : World) (hfv : fv = .slice ta L tc)
    (HC : Hid (Calls Try.prog 66 #[.pointer (some ⟨w.heap.size + 1, 0, none⟩), .slice a len pc] ((w.alloc (.map #[] 0)).alloc (.cells #[.slice ta L tc, .slice none 0 0, .map (some w.heap.size)] 111)) fun e w' => ∃ g tv, e = .returned (.slice (some ⟨g, 0, none⟩) len len) ∧ w'.cell? ⟨w.heap.size + 1, 1, none⟩ = some tv ∧ Hid (ReachOut R len g tv w w'))) :
    Calls Try.prog 50 #[fv, .slice a len pc] w fun e w' => ∃ g tv, e = .returned (.tuple #[tv, .slice (some ⟨g, 0, none⟩) len len]) ∧ Hid (ReachOut R len g tv w w') := by
  subst hfv
  have hmm := @run_makeMap Try.prog
  go_enter Try.func50, Try.ntmps50
  go_wp2_with fail
  refine HC.out.mono ?_
  rintro e w1 ⟨g, tv, rfl, c1, H⟩
  clear HC hmm
  go_wp2_with fail
  exact bodyPost_ret (v := .tuple #[tv, .slice (some ⟨g, 0, none⟩) len len]) (by simp [results, Try.results50, go_sem]) rfl ⟨g, tv, rfl, H⟩

theorem reached_any (ws : List Wd) (nm : List ByteArray) (n : Nat) (vs : List Wd) (p : List (Tm n)) (b0 : Nat) (fv : Value) (a : Option Addr) (pc : Nat) (w : World) (hrow : w.ownsRow b0 37 2 fv ws.length (wCells ws)) (hst : StandL ws nm n vs p) (hr : ∀ y ∈ p, RightA ⟨n, y⟩) (hws : ws.length ≤ 100000) (hlen : vs.length ≤ 100000)
    (hz : (p.map fun y => 1 + sz n y).sum ≤ 90000) (hn : (p.flatMap fun y => nodes n y).length ≤ 90000) (hin : WordsIn w vs a) (hoff : ∀ b o, a = some ⟨b, o, none⟩ → b < w.heap.size) :
    Calls Try.prog 50 #[fv, .slice a vs.length pc] w fun e w' => ∃ g tv, e = .returned (.tuple #[tv, .slice (some ⟨g, 0, none⟩) vs.length vs.length]) ∧ Hid (ReachOut (cpL (cpF ws n) vs ([], [])) vs.length g tv w w') := by
  obtain ⟨ta, tc, hfv⟩ : ∃ ta tc, fv = .slice ta ws.length tc := by
    rcases hrow.2 with ⟨e, e0⟩ | ⟨g, c, cur, e, _⟩
    · exact ⟨none, 0, by rw [e, e0]⟩
    · exact ⟨_, c, e⟩
  refine reached_walk _ fv ta ws.length tc a vs.length pc w hfv ?_
  have hA : Below w.heap.size w ((w.alloc (.map #[] 0)).alloc (.cells #[fv, .slice none 0 0, .map (some w.heap.size)] 111)) := ((Below.refl _ _).alloc (Nat.le_refl _) _).alloc (by simp) _
  have hc := cp_made w fv
  have hsA : ((w.alloc (.map #[] 0)).alloc (.cells #[fv, .slice none 0 0, .map (some w.heap.size)] 111)).heap.size = w.heap.size + 2 := by simp
  rw [← hfv]
  generalize (w.alloc (.map #[] 0)).alloc (.cells #[fv, .slice none 0 0, .map (some w.heap.size)] 111) = wA at *
  have hinA : WordsIn wA vs a := by
    rcases hin with hin | ⟨b, o, e, hb, hin⟩
    · exact Or.inl hin
    · exact Or.inr ⟨b, o, e, by omega, fun i v hv => ⟨(below_cells hA b _ hb).trans (hin i v hv).1, (below_cells hA b _ hb).trans (hin i v hv).2⟩⟩
  refine (copyall_any ws nm n (one_any ws nm n) vs p w.heap.size (w.heap.size + 1) b0 fv ([], []) _ a pc wA hc (own_below hrow hA) (fun b e hm => by have := (hrow.lt b e).2; omega) (by omega) hst hr hws hlen (by simpa using hz) (by simpa using hn) hinA ?_).mono ?_
  · intro b o e hm
    have := hoff b o e
    omega
  · rintro e w' ⟨g, rfl, H⟩
    obtain ⟨M', k1, k2, k3, k4, k5, k6⟩ := H.out
    obtain ⟨tv, mb, D, j1, j2, j3, j4, j5, j6, j7⟩ := k1
    refine ⟨g, tv, rfl, j1.cells.1.2.1, ⟨?_, ?_, ?_, ?_, ?_⟩, j2, k6, by omega, fun e => k4 (j6 g e)⟩
    · exact k2.os.trans hA.os
    · exact k2.tape.trans hA.tape
    · exact k2.output.trans hA.output
    · have := k2.size; omega
    · intro b hb
      exact (k2.block b (by omega) (by omega)).trans (hA.block b hb)
end Go.Proofs.Ytfaoeccnhbcjgab
