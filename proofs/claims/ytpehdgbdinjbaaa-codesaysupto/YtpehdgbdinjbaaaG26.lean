/- What is proved: clerklaw.CodeSays returns true, and leaves its arguments as they were, for every term and every list of behaviours: code.From and code.To answer what the document says. Condition: the arguments together hold at most 1048576 values and letters (the statement's own second form). -/
import Derived.Test.YtpehdgbdinjbaaaG25
namespace Go.Proofs.Ytpehdgbdinjbaaa
open Go.ChangeShapes Go.WideShapes Go.ChangeAt Go.RowKit

theorem sum_of {α : Type} (f : α → Nat) : (l : List α) → ∀ y ∈ l, f y ≤ (l.map f).sum
  | [], _, h => by cases h
  | a :: l, y, h => by
    simp only [List.mem_cons] at h
    simp only [List.map_cons, List.sum_cons]
    rcases h with rfl | h
    · omega
    · have := sum_of f l y h
      omega
theorem len_of {α : Type} (f : α → Nat) (hf : ∀ y, 1 ≤ f y) : (l : List α) → l.length ≤ (l.map f).sum
  | [] => by simp
  | a :: l => by
    have := len_of f hf l
    have := hf a
    simp only [List.length_cons, List.map_cons, List.sum_cons]
    omega
theorem few_of {n : Nat} {p : List (Bh (n + 1))} (h : (p.map (wtB (n + 1))).sum ≤ 1048576) : Few (n + 1) 1048576 p := by
  refine ⟨Nat.le_trans (len_of (wtB (n + 1)) (fun y => by unfold wtB; omega) p) h, fun b hb => ?_⟩
  have h1 := sum_of (wtB (n + 1)) p b hb
  have h2 : (b.2.2.map (wtC (n + 1))).sum ≤ wtB (n + 1) b := by unfold wtB; omega
  refine ⟨Nat.le_trans (len_of (wtC (n + 1)) (fun y => by unfold wtC; omega) b.2.2) (by omega), fun c hc => ?_⟩
  have h3 := sum_of (wtC (n + 1)) b.2.2 c hc
  have h4 : (c.2.2.map (wtA (n + 1))).sum ≤ wtC (n + 1) c := by unfold wtC; omega
  exact Nat.le_trans (len_of (wtA (n + 1)) (fun y => by unfold wtA; omega) c.2.2) (by omega)

set_option maxRecDepth 100000 in
theorem csays_contract (H : Type) (enc : TypeId × Value → H) (W : World) (base : Nat) (args : Array Value) (ds gs : List (DataW H)) (before : List MemPlace)
    (hval : ∀ (j : Nat) t v, Try.f8.params[j]? = some t → args[j]? = some v → Value.okWide Try.prog W .any base t v)
    (hW : DataW.Whole enc Try.prog Try.f8.params.toList Rows.codeSaysSpec.vars false W args.toList ds gs before) (hk : Rows.uptoSmall H (ds ++ gs) = true) :
    Calls Try.prog 8 args W fun e W' => ∃ v, e = .returned v ∧ Rows.codeSaysSpec.post enc Try.prog Try.f8 false true false false W args v W' := by
  have hW' := hW
  obtain ⟨p, q, hA0, hV, rfl, hfz, hnd⟩ := hW
  have hA : DataW.TrodAll enc Try.prog W 0 (fun _ => true) true Try.f8.params.toList args.toList ds p := hA0
  rw [Try.params8] at hA hval
  obtain ⟨v0, vs0, d0, ds0, p0, q0, hargs, rfl, rfl, h0, r0⟩ := trodAll_cons hA
  obtain ⟨v1, vs1, d1, ds1, p1, q1, rfl, rfl, rfl, h1, r1⟩ := trodAll_cons r0
  obtain ⟨rfl, rfl, rfl⟩ := trodAll_nil r1
  obtain rfl : args = #[v0, v1] := by cases args; simp_all
  obtain ⟨rfl, rfl⟩ := trodVars_none hV
  have hlt0 : ∀ x ∈ p0, x.block < W.heap.size := fun x hx => by simpa using hW'.lt x (by simp [hx])
  have hlt1 : ∀ x ∈ p1, x.block < W.heap.size := fun x hx => by simpa using hW'.lt x (by simp [hx])
  obtain ⟨n, x, ev0, hx, wx⟩ := open_term (hval 0 24 v0 rfl rfl) h0
  obtain ⟨o, l, la, lc, ev1, hl, hlc, hli, wl⟩ := open_prog (hval 1 75 v1 rfl rfl) h1
  have hb : Rows.uptoBulkAll ([d0, d1] ++ []) ≤ 1048576 := of_decide_eq_true hk
  simp only [List.append_nil, Rows.uptoBulkAll] at hb
  have nx := nodes_wt (n + 1) x
  clear hA0 hk
  have hxl := lift_in (n + 6) (n + 1) (by omega) x W.heap.size W hx
  have hxn : (nodes (n + 6) (lift (n + 6) (n + 1) x)).length ≤ 2097152 := by
    rw [same_nlen _ _ _ _ (lift_self (n + 6) (n + 1) (by omega) x (in_self hx))]
    omega
  have hf := few_of (p := l) (by omega)
  have walk := csays_walk n (lift (n + 6) (n + 1) x) o l l.length la lc W.heap.size W rfl hl hlc hf.1 hf hxl hli (Nat.le_refl _) hxn (fun h => nodes_tellP o l h (by omega))
  have ev0' : v0 = .agg #[.int .i64 (lift (n + 6) (n + 1) x).1.1, .int .i64 (lift (n + 6) (n + 1) x).1.2.1, .string (lift (n + 6) (n + 1) x).1.2.2, .slice (lift (n + 6) (n + 1) x).2.1.1 (lift (n + 6) (n + 1) x).2.2.length (lift (n + 6) (n + 1) x).2.1.2] := by
    rw [ev0]
    show val (n + 1) x = _
    simp [val, lift]
  rw [← ev0', ← ev1] at walk
  refine walk.mono fun e W' ⟨he, hg⟩ => ?_
  subst he
  refine ⟨_, rfl, _, _, _, [], p0 ++ (p1 ++ []), [], hW', ?_, ?_, rfl, hg.frame _, fun h => by cases h⟩
  · exact trodAll_cons_mk (shut_bool Try.underlying4 _) trodAll_mk0
  · exact trodAll_cons_mk (Below.trod laidOut (by kernel_rfl) (of_decide_eq_true (by kernel_rfl)) h0 hg hlt0) (trodAll_cons_mk (Below.trod laidOut (by kernel_rfl) (of_decide_eq_true (by kernel_rfl)) h1 hg hlt1) trodAll_mk0)

set_option maxRecDepth 100000 in
theorem csays_lifted (os : Os) (started : os.Started) (H : Type) (enc : TypeId × Value → H) (F : Stop.Interp) :
    ReturnsInHanded {} Try.checked os 8 .any ((Rows.OpenSpec.upto Rows.codeSaysSpec).pre6 enc Try.prog Try.f8 Rows.codeSaysUptoRow.domain false) (((Rows.OpenSpec.upto Rows.codeSaysSpec).at F).post enc Try.prog Try.f8 false true false false) := by
  refine returnsInHanded_of_cond (C := Try.checked) (s := Rows.OpenSpec.upto Rows.codeSaysSpec) (k := Rows.uptoSmall) rfl own started (by kernel_rfl) Try.func8
    (OpenSpec.witness (enc := enc) (C := Try.checked) (s := Rows.OpenSpec.upto Rows.codeSaysSpec) (k := Rows.uptoSmall) rfl false ⟨#[], #[.agg #[.int .i64 0, .int .i64 0, .string .empty, .slice none 0 0], .slice none 0 0], []⟩ 8 (by kernel_rfl) (by kernel_rfl) (by kernel_rfl)
      (x := ([.agg [.lit (.int .i64 0), .lit (.int .i64 0), .lit (.string []), .nil], .nil], [], [])) (by kernel_rfl) rfl (by kernel_rfl)) ?_
  intro W base args ds gs before hval hW _ hk _
  exact csays_contract H enc W base args ds gs before hval hW hk

theorem csays_holds : Rows.CodeSaysUptoSaid :=
  OpenClaim.holds_of_cond 8 Try.f8 rfl rfl rfl rfl rfl rfl rfl ⟨rfl, rfl, rfl, rfl, rfl⟩ rfl rfl rfl rfl rfl (by kernel_rfl) Try.func8 (by kernel_rfl)
    (of_decide_eq_true (by kernel_rfl)) (by unfold Func.isWrapper; first | (rw [if_pos (by decide +kernel)]; kernel_rfl) | (rw [if_neg (by decide +kernel)]; exact ⟨rfl, rfl⟩))
    (fun os started H enc _ F => csays_lifted os started H enc F)
end Go.Proofs.Ytpehdgbdinjbaaa
