/- What is proved here: plain facts and contracts that the claimed theorem stands on, several texts in one: what Take does, as one contract. No condition but that the ways lie in memory. All of ways that have no messages tells none. No condition but that the ways lie in memory. the keys of a map from pairs to rows come each once, in some order. No condition but that the map lies in memory. what a function gives, a pair a time, is appended to a row that is new. No condition but that its contract holds. the order of two ways: by from whom, then by to whom; it is an order. No condition. -/
import Derived.Test.YtfginhifgljnmaaG12
import Derived.Test.YtfginhifgljnmaaG08
import Derived.RangeFuncNested
import Derived.RangeFuncLeaves
import Derived.OwnWalkIn
import Derived.TacticsInMore
import Derived.LoopNIn
import Derived.LoopIn
import Derived.Sort.MapsRangeIn
import Derived.Test.YtfginhifgljnmaaG10
import Derived.Sort.Grow
namespace Go.Proofs.Ytfginhifgljnmaa
open Go.RowKit Go.Maps

variable {base wp n N : Nat} {mo : Option Nat} {f : Int × Int → List (Tm (N + 1))} {sl : Int × Int → Value} {w : World}
/-- What a Take that is OK leaves. -/
def TakeUp (base wp : Nat) (mo : Option Nat) (n N : Nat) (f : Int × Int → List (Tm (N + 1))) (sl : Int × Int → Value) (k : Int × Int) (l : List (Tm (N + 1))) (w w' : World) : Prop :=
  ∃ sl', WyAt base wp mo (n + 1) (N + 1) (upd f k l) sl' w' ∧ Kee (wyM wp mo sl) w w' ∧ ∀ b, wyM wp mo sl' b → wyM wp mo sl b
theorem TakeUp.later {k : Int × Int} {l : List (Tm (N + 1))} {w' w2 : World} (h0 : WyAt base wp mo n (N + 1) f sl w) (h : TakeUp base wp mo n N f sl k l w w') (hb : Below w.heap.size w' w2) : TakeUp base wp mo n N f sl k l w w2 := by
  obtain ⟨sl', h1, h2, h3⟩ := h
  have hk : Kee (fun b => w.heap.size ≤ b) w' w2 := ⟨hb.os, hb.tape, hb.output, hb.size, fun b _ hb' => hb.block b (by omega)⟩
  refine ⟨sl', h1.kee hk fun b hb' hs => ?_, Kee.trans h2 hk fun b hb' hs => ?_, h3⟩
  · have := (h0.lt b (h3 b hb')).2
    omega
  · omega
theorem row_first {base g c L : Nat} {y : Tm (N + 1)} {l : List (Tm (N + 1))} (h : w.ownsRow base 24 4 (.slice (some ⟨g, 0, none⟩) L c) L (tCells (N + 1) (y :: l))) : w.cell? ⟨g, 0, none⟩ = some (.int .i64 y.1.1) ∧ w.cell? ⟨g, 1, none⟩ = some (.int .i64 y.1.2.1) ∧ w.cell? ⟨g, 2, none⟩ = some (.string y.1.2.2) ∧ w.cell? ⟨g, 3, none⟩ = some (.slice y.2.1.1 y.2.2.length y.2.1.2) := by
  have h1 := own_nd (l := (y :: l).map (hdT (N + 1))) h 0 (hdT (N + 1) y) (by simp)
  simp only [Nat.zero_mul, Nat.zero_add] at h1
  exact h1
set_option maxRecDepth 100000 in
theorem take_any (h : WyAt base wp mo n (N + 1) f sl w) {a b : Int} (hk : I2 (a, b)) (hn : n < 999999) (hl : (f (a, b)).length ≤ 1000) :
    Calls Try.prog 45 #[.pointer (some ⟨wp, 0, none⟩), .int .i64 a, .int .i64 b] w fun e w' =>
      (f (a, b) = [] → e = .returned (.tuple #[.agg #[.int .i64 0, .int .i64 0, .string ⟨#[]⟩, .slice none 0 0], .int .i64 4]) ∧ Below w.heap.size w w') ∧
      ∀ y l, f (a, b) = y :: l → e = .returned (.tuple #[val (N + 1) y, .int .i64 0]) ∧ TakeUp base wp mo n N f sl (a, b) l w w' := by
  have hwp := h.lt wp (Or.inl rfl)
  have hlook : ∀ W, Below w.heap.size w W → (Instr.lookup 90 (.map mo) (.agg #[.int .i64 a, .int .i64 b]) false).run Try.prog W = .ok (sl (a, b)) W := fun W hW => (h.later hW).look hk
  cases hf : f (a, b) with
  | nil =>
    have hs : sl (a, b) = .slice none 0 0 := by
      rcases h.2.2 with ⟨_, _, rfl⟩ | ⟨mb, rfl, hg⟩
      · rfl
      · obtain ⟨D, h1, h2, h3⟩ := hg.map
        have hno : has D (kl (a, b)) = false := by
          cases hh : has D (kl (a, b))
          · rfl
          · obtain ⟨j, hj, ej, hfj⟩ := (h3 _).1 hh
            rw [← kl_inj hk hj ej] at hfj
            exact absurd hf hfj
        have := h2 (a, b) hk
        rw [atKey_of_not_has hno] at this
        injection this with this
        exact this.symm
    rw [hs] at hlook
    refine (take_none wp mo a b w hwp.2 h.cell.1 hlook).mono ?_
    rintro e w' ⟨rfl, hb⟩
    exact ⟨fun _ => ⟨rfl, hb⟩, fun y l e => by cases e⟩
  | cons y l =>
    rcases h.2.2 with ⟨_, rfl, _⟩ | ⟨mb, rfl, hg⟩
    · cases hf
    · obtain ⟨sa, sc, hs, hrow⟩ := (hg.row (a, b) hk).at
      rw [hf] at hs hrow hl
      have hmb := hg.lt mb (Or.inl rfl)
      obtain ⟨g, rfl⟩ : ∃ g, sa = some ⟨g, 0, none⟩ := by
        rcases hrow.2 with ⟨e, _⟩ | ⟨g, cap, cur, e, _⟩
        · simp at e
        · simp at e
          exact ⟨g, e.1⟩
      have hgl := hrow.lt g rfl
      have hpg : wp ≠ g := fun e => wp_row h hk (by rw [hs, e]; rfl)
      have hy := row_first hrow
      rw [hs] at hlook
      cases hl0 : l with
      | nil =>
        subst hl0
        refine (take_one wp mb g sc y.1.1 y.1.2.1 y.1.2.2 y.2.1.1 y.2.2.length y.2.1.2 a b w (fun w' => TakeUp base wp (some mb) n N f sl (a, b) [] w w') hwp.2 hgl.2 hmb.2 (wp_ne h) hpg h.cell.1 hlook hy fun W hW => ?_).mono ?_
        · have hG : GM base mb n (N + 1) f sl W := hg.kee (kee_below hW fun _ => False) fun _ _ hf => hf
          obtain ⟨w2, hrun, hG2, hk2, hs2⟩ := hG.drop hk 3
          have hrun' : ∀ ty, (Builtin.delete_ #[90, 88] ty #[.map (some mb), .agg #[.int .i64 a, .int .i64 b]]).run Try.prog W = .ok (.tuple #[]) w2 := fun ty => hrun
          refine ⟨w2, hrun', hk2, hs2, fun w3 hb3 => ?_⟩
          have ht : TakeUp base wp (some mb) n N f sl (a, b) [] w w2 := by
            refine ⟨_, ⟨h.1, (hk2.block wp (Nat.lt_of_lt_of_le hwp.2 hW.size) (wp_ne h)).trans ((hW.block wp hwp.2).trans h.2.1), Or.inr ⟨mb, rfl, hG2.mono (Nat.le_succ n)⟩⟩, Kee.trans (kee_below hW _) hk2 fun q _ e => Or.inr (Or.inl (by rw [e])), fun q hb => ?_⟩
            rcases hb with hb | hb | ⟨j, hj, hb⟩
            · exact Or.inl hb
            · exact Or.inr (Or.inl hb)
            · by_cases e : j = (a, b)
              · rw [e, upd_same] at hb
                simp [nilS, Value.ownBlock] at hb
              · rw [upd_other _ _ e] at hb
                exact Or.inr (Or.inr ⟨j, hj, hb⟩)
          exact TakeUp.later h ht hb3
        · rintro e w' ⟨rfl, ht⟩
          refine ⟨fun e => (by cases e), fun y' l' e => ?_⟩
          injection e with e1 e2
          subst e1 e2
          exact ⟨rfl, ht⟩
      | cons y2 l2 =>
        rw [← hl0]
        have hlne : l ≠ [] := by rw [hl0]; simp
        have hlm : 1 ≤ l.length := List.length_pos_iff.2 hlne
        refine (take_more wp mb g sc l.length y.1.1 y.1.2.1 y.1.2.2 y.2.1.1 y.2.2.length y.2.1.2 a b w (fun w' => TakeUp base wp (some mb) n N f sl (a, b) l w w') (fun W w' => TRow base (N + 1) (.slice (some ⟨g, 0, none⟩) l.length sc) l w' ∧ w'.heap.size = W.heap.size) hlm (by simp at hl; omega) hwp.2 hgl.2 hmb.2 (wp_ne h) hpg h.cell.1 hlook hy (fun W hW => ?_) (fun W W1 hR hW hg1 => ?_)).mono ?_
        · refine (delete_row base g sc l.length y l W rfl (row_kee hrow (kee_below hW fun _ => False) fun _ _ hf => hf) hlne).mono ?_
          rintro e w' ⟨rfl, h1, h2, h3⟩
          exact ⟨rfl, h2, h1, h3⟩
        · have hG : GM base mb n (N + 1) f sl W := hg.kee (kee_below hW fun _ => False) fun _ _ hf => hf
          have hsk : (sl (a, b)).ownBlock = some g := by rw [hs]; rfl
          obtain ⟨w2, hrun, hG2, hk2, hs2⟩ := hG.store hk (w1 := W1) ((kee_grown hg1).mono fun b _ e => hsk.trans e) hlne hR.1 (fun b hb => Or.inl (hsk.trans hb)) (by omega)
          refine ⟨w2, hrun, hk2, fun w3 hb3 => ?_⟩
          have kW : Kee (wyM wp (some mb) sl) w W1 := Kee.trans (kee_below hW _) (kee_grown hg1) fun q _ e => Or.inr (Or.inr ⟨(a, b), hk, hsk.trans e⟩)
          have hwp1 : W1.heap[wp]? = w.heap[wp]? := (hg1.block wp (Nat.lt_of_lt_of_le hwp.2 hW.size) (fun e => hpg (Option.some.inj e))).trans (hW.block wp hwp.2)
          have hsW := hW.size
          have ht : TakeUp base wp (some mb) n N f sl (a, b) l w w2 := by
            refine ⟨_, ⟨h.1, (hk2.block wp (by rw [hR.2]; omega) (wp_ne h)).trans (hwp1.trans h.2.1), Or.inr ⟨mb, rfl, hG2⟩⟩, Kee.trans kW hk2 fun q _ e => Or.inr (Or.inl (by rw [e])), fun q hb => ?_⟩
            rcases hb with hb | hb | ⟨j, hj, hb⟩
            · exact Or.inl hb
            · exact Or.inr (Or.inl hb)
            · by_cases e : j = (a, b)
              · rw [e, upd_same] at hb
                exact Or.inr (Or.inr ⟨(a, b), hk, hsk.trans hb⟩)
              · rw [upd_other _ _ e] at hb
                exact Or.inr (Or.inr ⟨j, hj, hb⟩)
          exact TakeUp.later h ht hb3
        · rintro e w' ⟨rfl, ht⟩
          refine ⟨fun e => (by cases e), fun y' l' e => ?_⟩
          injection e with e1 e2
          subst e1 e2
          exact ⟨rfl, ht⟩
end Go.Proofs.Ytfginhifgljnmaa
namespace Go.Proofs.Ytfginhifgljnmaa
open Go.RowKit Go.Maps

set_option maxRecDepth 100000 in
set_option maxHeartbeats 1000000 in
theorem keys1_none (l Bm b nn : Nat) (D : DataW Value) (W : World) (hm : W.cell? ⟨Bm, 0, none⟩ = some (.map (some b))) (hown : W.ownsMap Try.prog 88 rawE b nn D) (h0 : Maps.size D = 0) :
    Calls Try.prog 125 #[.func (.yield l) #[] #[], .pointer (some ⟨Bm, 0, none⟩)] W fun e W' => (∃ v, e = .returned v) ∧ Below W.heap.size W W' := by
  go_enter Try.func125, Try.ntmps125
  go_wp2_with (first
    | (at_range; refine wpList_range_own _ rfl _ 90 rfl 88 22 pairLaw Try.underlying90 _ b nn _ rfl hown ?_; intro w0 hrg0 hg0 hs0))
  go_frame
  go_loopw [3] (fun _ wr => ∃ (left : Lit → Bool) (cnt : Nat), wr.ranges Try.prog 88 rawE b W.heap.size nn D left cnt ∧ cnt = 0 ∧ Below W.heap.size W wr)
    (fun _ wr => wr.rangeLeft b W.heap.size)
  case atStart =>
    exact ⟨_, _, hrg0, h0, ⟨hg0.os, hg0.tape, hg0.output, hg0.size, fun b hb => hg0.block b hb (by simp)⟩⟩
  case round =>
    obtain ⟨left, cnt, hrg, hcz, hb⟩ := hrel
    replace hcz := hide hcz
    go_wp2_with (first
      | (at_next; refine wpList_next_ranges _ rfl _ rfl 88 pairLaw rawE pk id (fun key kl hk => by obtain ⟨k, _, e, _⟩ := key_pk hk; exact ⟨k, e⟩) (fun v y hv => ⟨v, rfl⟩) b W.heap.size nn _ _ _ rfl hrg ?_ ?_))
    · intro hc0 hl0
      go_wp2_with fail
      exact bodyPost_end (v := .tuple #[]) (by simp [results]) rfl ⟨⟨_, rfl⟩, hb⟩
    · intro x c kl yd w2 cnt2 hkey hlk hv hat hrg2 hlt
      have := hcz.out
      omega

theorem put_below (W : World) (l : Nat) (o : Obj) (B : Nat) (hl : B ≤ l) : Below B W (W.putObj l o) :=
  ⟨rfl, rfl, rfl, by simp, fun k hk => World.putObj_heap_other (by omega)⟩
/-- A range over a function that gives nothing. -/
theorem range_none {P : Program} {t : Tmp} {ps : Array Tmp} {assign body : Code} {Q : Exit → Act → World → Prop} {a : Act} {w : World} (gf : Nat) (lb : Array Value) (hg : a.tmps[t]?.getD undef = .func (.func gf) #[] lb) (eg : ∀ args w, (callFunc gf args).run P w = .ok (.enter gf args) w)
    (hseq : ∀ l W, Below w.heap.size w W → Calls P gf (#[.func (.yield l) #[] #[]] ++ lb) W fun e W' => (∃ v, e = .returned v) ∧ Below W.heap.size W W')
    (hK : ∀ W3, Below w.heap.size w W3 → W3.heap[w.heap.size]? = some (.deferred (some [])) → Q .normal { a with defers := [{ target := .collected w.heap.size, args := #[] }] ++ a.defers } W3) :
    (Code.rangeFunc (.tmp t) ps assign body).wpIn Fence.wide 5 P Q a w := by
  refine wpIn_rangeFunc ?_
  intro fn hfn
  obtain ⟨W1, hW1⟩ : ∃ W1, (w.alloc (.deferred (some []))).alloc (.loop { state := .ready, pending := none, fn, tmps := a.tmps, params := ps, assign, body, defers := w.heap.size }) = W1 := ⟨_, rfl⟩
  have hb1 : Below w.heap.size w W1 := by rw [← hW1]; exact ((Below.refl _ _).alloc (Nat.le_refl _) _).alloc (by simp) _
  have hs1 : W1.heap.size = w.heap.size + 2 := by rw [← hW1]; simp
  have hL : W1.heap[w.heap.size + 1]? = some (.loop { state := .ready, pending := none, fn, tmps := a.tmps, params := ps, assign, body, defers := w.heap.size }) := by
    rw [← hW1]
    have := World.alloc_heap_new (w.alloc (.deferred (some []))) (.loop { state := .ready, pending := none, fn, tmps := a.tmps, params := ps, assign, body, defers := w.heap.size })
    rwa [World.size_alloc] at this
  have hD : W1.heap[w.heap.size]? = some (.deferred (some [])) := by rw [← hW1]; exact (Below.heap_alloc _ _ _ (by simp)).trans (World.alloc_heap_new w _)
  refine ⟨w.heap.size + 1, [{ target := .collected w.heap.size, args := #[] }], W1, { target := .fn (.func gf) lb, args := #[.func (.yield (w.heap.size + 1)) #[] #[]] }, W1, gf, #[.func (.yield (w.heap.size + 1)) #[] #[]] ++ lb, W1, ?_, ?_, ?_, ?_, fun _ => by omega, ?_⟩
  · rw [← hW1]
    exact run_enterLoop_outer _ _ _ _ _
  · simp [resolve, go_sem, hg]
  · intro f' hf'
    trivial
  · simp [invoke, go_sem, eg]
  · refine (callsIn_wide.2 (hseq (w.heap.size + 1) W1 hb1)).mono ?_
    rintro e W2 ⟨⟨v0, rfl⟩, hb2⟩
    have hL2 := (hb2.block (w.heap.size + 1) (by omega)).trans hL
    have hD2 := (hb2.block w.heap.size (by omega)).trans hD
    have hend := run_endLoop (P := P) hL2 (by simp)
    refine ⟨none, _, hend, ?_⟩
    have h2 := hb1.trans (hb2.mono hb1.size)
    exact hK _ (h2.trans ((put_below W2 (w.heap.size + 1) _ w.heap.size (by omega)).mono (Nat.le_refl _))) ((World.putObj_heap_other (by omega)).trans hD2)
set_option maxRecDepth 100000 in
set_option maxHeartbeats 2000000 in
/-- AppendSeq of nothing, and of a function that gives nothing. -/
theorem appseq_none (g : Nat) (lb : Array Value) (eg : ∀ args w, (callFunc g args).run Try.prog w = .ok (.enter g args) w) (w : World)
    (hseq : ∀ l W, Below w.heap.size w W → Calls Try.prog g (#[.func (.yield l) #[] #[]] ++ lb) W fun e W' => (∃ v, e = .returned v) ∧ Below W.heap.size W W') :
    Calls Try.prog 141 #[.slice none 0 0, .func (.func g) #[] lb] w fun e w' => e = .returned (.slice none 0 0) ∧ Below w.heap.size w w' := by
  refine (callsIn_wide (n := 5)).1 ?_
  refine callsIn_of_wp_marks Try.func141 rfl trivial ?_ rfl
  simp only [Try.ntmps141, List.size_toArray, List.length_cons, List.length_nil, Nat.reduceAdd, Nat.reduceSub, Array.replicate_succ, Array.replicate_zero, List.push_toArray, List.append_toArray, List.nil_append, List.cons_append]
  gi_wp2
  obtain ⟨W0, hW0⟩ : ∃ W0, w.alloc (.cells #[.slice none 0 0] 98) = W0 := ⟨_, rfl⟩
  have hs0 : W0.heap.size = w.heap.size + 1 := by rw [← hW0]; simp
  have hv0 : W0.heap[w.heap.size]? = some (.cells #[.slice none 0 0] 98 (0, 0)) := by rw [← hW0]; exact World.alloc_heap_new w _
  have hb0 : Below w.heap.size w W0 := by rw [← hW0]; exact (Below.refl _ w).alloc (Nat.le_refl _) _
  rw [hW0]
  refine range_none g lb rfl eg (fun l W hW => hseq l W (hb0.trans (hW.mono hb0.size))) ?_
  intro W3 hb3 hK3
  have hc3 : W3.cell? ⟨w.heap.size, 0, none⟩ = some (.slice none 0 0) := cell_row ((hb3.block w.heap.size (by omega)).trans hv0) 0
  have hb := hb0.trans (hb3.mono hb0.size)
  have HZ := hide hs0
  clear hs0 hW0
  gi_wp2
  refine ⟨by simp, .inl ⟨_, _, rfl, run_takeDeferred hK3, ?_⟩⟩
  exact ⟨_, results_tmp rfl _ _ _, rfl, hb.trans ((put_below W3 W0.heap.size _ w.heap.size (by rw [HZ.out]; omega)).mono (Nat.le_refl _))⟩
theorem grown_of_belowW {w w' : World} (h : Below w.heap.size w w') : w.grownBy w' none := ⟨h.os, h.tape, h.output, h.size, fun k hk _ => h.block k hk⟩
theorem collect_none (g : Nat) (lb : Array Value) (eg : ∀ args w, (callFunc g args).run Try.prog w = .ok (.enter g args) w) (w : World)
    (hseq : ∀ l W, Below w.heap.size w W → Calls Try.prog g (#[.func (.yield l) #[] #[]] ++ lb) W fun e W' => (∃ v, e = .returned v) ∧ Below W.heap.size W W') :
    Calls Try.prog 123 #[.func (.func g) #[] lb] w fun e w' => e = .returned (.slice none 0 0) ∧ Below w.heap.size w w' := by
  go_enter Try.func123, Try.ntmps123
  go_wp2_with fail
  refine (appseq_none g lb eg w hseq).mono ?_
  rintro e w' ⟨rfl, hb⟩
  go_wp2_with fail
  go_ret
  exact ⟨rfl, hb⟩
theorem insertion_none (fv : Value) (w : World) : Calls Try.prog 149 #[.slice none 0 0, .int .i64 0, .int .i64 0, fv] w fun e w' => e = .returned (.tuple #[]) ∧ w' = w := by
  go_enter Try.func149, Try.ntmps149
  go_wp2_with fail
  refine wp_loop_rounds 1 ?_
  rw [rounds_succ]
  go_wp2_with fail
  exact bodyPost_end (v := .tuple #[]) (by simp [results]) rfl ⟨rfl, rfl⟩
theorem pdq_none (lim : Int) (fv : Value) (w : World) : Calls Try.prog 142 #[.slice none 0 0, .int .i64 0, .int .i64 0, .int .i64 lim, fv] w fun e w' => e = .returned (.tuple #[]) ∧ w' = w := by
  have hi := insertion_none fv
  go_enter Try.func142, Try.ntmps142
  go_wp2_with fail
  refine wp_loop_rounds 1 ?_
  rw [rounds_succ]
  go_wp2_with fail
  refine (hi _).mono ?_
  rintro e w' ⟨rfl, rfl⟩
  go_wp2_with fail
  exact bodyPost_ret (v := .tuple #[]) (by simp [results]) rfl ⟨rfl, rfl⟩
theorem sortf_none (fv : Value) (w : World) : Calls Try.prog 124 #[.slice none 0 0, fv] w fun e w' => e = .returned (.tuple #[]) ∧ w' = w := by
  have hl := Try.bits_Len 0
  go_enter Try.func124, Try.ntmps124
  go_wp2_with fail
  refine (hl _ (by decide) (by decide)).mono ?_
  rintro e w' ⟨rfl, rfl⟩
  go_wp2_with fail
  refine (pdq_none _ fv _).mono ?_
  rintro e w' ⟨rfl, rfl⟩
  go_wp2_with fail
  exact bodyPost_end (v := .tuple #[]) (by simp [results]) rfl ⟨rfl, rfl⟩
theorem sorted_none (g : Nat) (lb : Array Value) (eg : ∀ args w, (callFunc g args).run Try.prog w = .ok (.enter g args) w) (fv : Value) (w : World)
    (hseq : ∀ l W, Below w.heap.size w W → Calls Try.prog g (#[.func (.yield l) #[] #[]] ++ lb) W fun e W' => (∃ v, e = .returned v) ∧ Below W.heap.size W W') :
    Calls Try.prog 93 #[.func (.func g) #[] lb, fv] w fun e w' => e = .returned (.slice none 0 0) ∧ Below w.heap.size w w' := by
  go_enter Try.func93, Try.ntmps93
  go_wp2_with fail
  refine (collect_none g lb eg w hseq).mono ?_
  rintro e w' ⟨rfl, hb⟩
  go_wp2_with fail
  refine (sortf_none fv _).mono ?_
  rintro e w2 ⟨rfl, rfl⟩
  go_wp2_with fail
  go_ret
  exact ⟨rfl, hb⟩
theorem keys_any (mo : Option Nat) (w : World) : Calls Try.prog 94 #[.map mo] w fun e w' => e = .returned (.func (.func 125) #[] #[.pointer (some ⟨w.heap.size, 0, none⟩)]) ∧ w' = w.alloc (.cells #[.map mo] 90) := by
  go_enter Try.func94, Try.ntmps94
  go_wp2_with fail
  go_ret
  exact ⟨rfl, rfl⟩
theorem GM.none {base mb n N : Nat} {f : Int × Int → List (Tm N)} {sl : Int × Int → Value} {w : World} (h : GM base mb n N f sl w) (h0 : ∀ k, f k = []) : ∃ D : DataW Value, w.ownsMap Try.prog 88 rawE mb n D ∧ Maps.size D = 0 := by
  obtain ⟨D, h1, _, h3⟩ := h.map
  refine ⟨D, h1, ?_⟩
  obtain ⟨es, rfl, _, hk⟩ := h1.entries pairLaw
  cases es with
  | nil => rfl
  | cons p es =>
    have hh : has (DataW.map (p :: es)) p.1 = true := by
      rw [has_eq]
      simp [WideAt.sameKey_self (hk p (by simp))]
    obtain ⟨k, _, _, hf⟩ := (h3 _).1 hh
    exact absurd (h0 k) hf
theorem all_none {base wp n N mb : Nat} {f : Int × Int → List (Tm N)} {sl : Int × Int → Value} {w : World} (h : WyAt base wp (some mb) n N f sl w) (h0 : ∀ k, f k = []) :
    Calls Try.prog 47 #[.pointer (some ⟨wp, 0, none⟩)] w fun e w' => e = .returned (.slice none 0 0) ∧ Below w.heap.size w w' := by
  have c0 := h.cell.1
  obtain ⟨D, hown, hD⟩ : ∃ D : DataW Value, w.ownsMap Try.prog 88 rawE mb n D ∧ Maps.size D = 0 := by
    rcases h.2.2 with ⟨e, _⟩ | ⟨mb', e, hg⟩
    · cases e
    · injection e with e
      subst e
      exact hg.none h0
  have HO := hide hown
  clear hown h h0
  go_enter Try.func47, Try.ntmps47
  go_wp2_with fail
  refine (keys_any (some mb) w).mono ?_
  rintro e w1 ⟨rfl, hw1⟩
  have HB1 : Hid (Below w.heap.size w w1) := by
    rw [hw1]
    exact (Below.refl _ _).alloc (Nat.le_refl _) _
  have HQ1 : Hid (w1.heap[w.heap.size]? = some (.cells #[.map (some mb)] 90)) := by
    rw [hw1]
    exact heap_alloc_new _ _
  clear hw1
  go_wp2_with fail
  refine (sorted_none 125 #[.pointer (some ⟨w.heap.size, 0, none⟩)] (enters_of Try.func125 (by kernel_rfl) rfl) _ w1 (fun l W hW => ?_)).mono ?_
  · refine keys1_none l w.heap.size mb n D W (cell_row ((hW.block w.heap.size (Array.getElem?_eq_some_iff.1 HQ1.out).1).trans HQ1.out) 0) ?_ hD
    have hb := HB1.out.trans (hW.mono HB1.out.size)
    exact HO.out.kept (grown_of_belowW hb) (by simp)
  · rintro e w2 ⟨rfl, hb2⟩
    go_wp2_with fail
    go_ret
    exact ⟨rfl, HB1.out.trans (hb2.mono HB1.out.size)⟩
end Go.Proofs.Ytfginhifgljnmaa
namespace Go.Proofs.Ytfginhifgljnmaa
open Go.RowKit Go.Maps

/-- A pair of numbers that can be a key. -/
abbrev Pr : Type := { k : Int × Int // I2 k }
/-- All keys, each once. -/
def AllKeys (D : DataW Value) (ks : List Pr) : Prop := ks.Pairwise (fun a b => a ≠ b) ∧ ∀ x, has D x = true ↔ ∃ k ∈ ks, x = kl k.1
/-- Those that have come, while others are still to come. -/
def SomeKeys (D : DataW Value) (left : Lit → Bool) (ks : List Pr) : Prop :=
  ks.Pairwise (fun a b => a ≠ b) ∧ (∀ k ∈ ks, has D (kl k.1) = true ∧ left (kl k.1) = false) ∧ ∀ x, has D x = true → left x = true ∨ ∃ k ∈ ks, x = kl k.1
theorem SomeKeys.start (D : DataW Value) : SomeKeys D (has D) [] := ⟨List.Pairwise.nil, fun _ h => (by cases h), fun _ h => Or.inl h⟩
theorem SomeKeys.step {D : DataW Value} {left : Lit → Bool} {ks : List Pr} (h : SomeKeys D left ks) (k : Pr) (hl : left (kl k.1) = true) (hk : has D (kl k.1) = true) : SomeKeys D (fun x => left x && !x.sameKey (kl k.1)) (ks ++ [k]) := by
  have hkey : WideAt.IsKeyLit (kl k.1) := pairLaw.key (pk_key k.2)
  refine ⟨List.pairwise_append.2 ⟨h.1, List.pairwise_singleton _ _, fun a ha b hb e => ?_⟩, fun j hj => ?_, fun x hx => ?_⟩
  · simp only [List.mem_singleton] at hb
    subst hb e
    rw [(h.2.1 a ha).2] at hl
    cases hl
  · simp only [List.mem_append, List.mem_singleton] at hj
    rcases hj with hj | rfl
    · exact ⟨(h.2.1 j hj).1, by simp [(h.2.1 j hj).2]⟩
    · exact ⟨hk, by simp [WideAt.sameKey_self hkey]⟩
  · rcases h.2.2 x hx with hl' | ⟨j, hj, e⟩
    · by_cases e : x = kl k.1
      · exact Or.inr ⟨k, by simp, e⟩
      · exact Or.inl (by simp [hl', sameKey_ne e])
    · exact Or.inr ⟨j, by simp [hj], e⟩
theorem SomeKeys.done {D : DataW Value} {left : Lit → Bool} {ks : List Pr} (h : SomeKeys D left ks) (h0 : ∀ x, left x = false) : AllKeys D ks := by
  refine ⟨h.1, fun x => ⟨fun hx => ?_, ?_⟩⟩
  · rcases h.2.2 x hx with e | e
    · rw [h0] at e
      cases e
    · exact e
  · rintro ⟨k, hk, rfl⟩
    exact (h.2.1 k hk).1
set_option maxRecDepth 100000 in
set_option maxHeartbeats 2000000 in
theorem keys_stops (F : Fence) (n : Nat) (hF : F.fn 125) (hro : F.round = none) (hn : 1 ≤ n) (Bm b nn : Nat) (D : DataW Value) (w : World) (hBm : Bm < w.heap.size)
    (hm : w.cell? ⟨Bm, 0, none⟩ = some (.map (some b))) (hown : w.ownsMap Try.prog 88 rawE b nn D) :
    SeqStopsK F n Try.prog 125 #[.pointer (some ⟨Bm, 0, none⟩)] (fun x : Pr => #[pk x.1]) KeepsWalks (AllKeys D) (fun _ => True) (Maps.size D) w := by
  intro l J Jx W hW hJ hJx hY h0
  have hown' : W.ownsMap Try.prog 88 rawE b nn D := hown.kept (grown_of_belowW hW) (by simp)
  have hm' : W.cell? ⟨Bm, 0, none⟩ = some (.map (some b)) := (hW.cell (p := ⟨Bm, 0, none⟩) hBm).trans hm
  refine callsIn_of_wp Try.func125 rfl hF ?_ hro
  simp only [Try.ntmps125, List.size_toArray, List.length_cons, List.length_nil, Nat.reduceAdd, Nat.reduceSub, Array.replicate_succ, Array.replicate_zero, List.push_toArray, List.append_toArray, List.nil_append, List.cons_append]
  gi_wp2_with (first
    | (gi_at_range; refine wpListIn_range_own _ rfl _ 90 rfl 88 22 pairLaw Try.underlying90 _ b nn _ rfl hown' ?_; intro w0 hrg0 hg0 hs0)
    | gi_in)
  try go_frame
  gi_loopw [3] (fun _ wr => ∃ (left : Lit → Bool) (cnt : Nat) (ks : List Pr), wr.ranges Try.prog 88 rawE b W.heap.size nn D left cnt ∧ ks.length + cnt ≤ Maps.size D ∧ (SomeKeys D left ks ∧ ∀ x, left x = true → has D x = true) ∧ J ks wr)
    (fun _ wr => wr.rangeLeft b W.heap.size)
  case atStart =>
    exact ⟨_, _, [], hrg0, by simp, ⟨SomeKeys.start D, fun _ h => h⟩, hJ [] W w0 none h0 hg0 (fun r e => by cases e)⟩
  case round =>
    obtain ⟨left, cnt, ks, hrg, hcs, hC, hJs⟩ := hrel
    gi_wp2_with (first
      | (gi_at_next; refine wpListIn_next_ranges _ rfl _ rfl 88 pairLaw rawE pk id (fun key kl hk => by obtain ⟨k, _, e, _⟩ := key_pk hk; exact ⟨k, e⟩) (fun v y hv => ⟨v, rfl⟩) b W.heap.size nn _ _ _ rfl hrg ?_ ?_)
      | gi_in)
    · intro hc0 hl0
      gi_wp2
      exact bodyPost_end (v := .tuple #[]) (by simp [results]) rfl ⟨⟨_, rfl⟩, Or.inl ⟨ks, hC.1.done hl0, hJs⟩⟩
    · intro k0 k1 c klv yd yp w2 cnt2 hkey hlk hv hat hrg2 hlt hg2 hs2 hen
      obtain ⟨k, hkI, e1, rfl⟩ := key_pk hkey
      obtain rfl : (k0, k1) = k := by
        simp only [pk, Value.agg.injEq, Array.mk.injEq, List.cons.injEq, Value.int.injEq, true_and, and_true] at e1
        exact Prod.ext e1.1 e1.2
      have hJ2 : J ks w2 := hJ ks wr w2 (some W.heap.size) hJs hg2 (fun r e => by cases e; exact ⟨Nat.le_refl _, hrg.iter_walk⟩)
      have hJ3 : J ks (w2.alloc (.cells #[.int .i64 k0, .int .i64 k1] 88)) := hJ ks w2 _ none hJ2 (World.grownBy_alloc w2 _ none) (fun r e => by cases e)
      have hst := hC.1.step ⟨(k0, k1), hkI⟩ hlk (hC.2 _ hlk)
      have hC2 := hC.2
      obtain ⟨fn, tmps, assign, body, hy, hR⟩ := hY ks ⟨(k0, k1), hkI⟩ _ hJ3 (by omega)
      simp only [pk] at hen hy ⊢
      clear hs2 hg2
      gi_wp2
      refine hR.mono ?_
      rintro e W3 (⟨rfl, hJ4, hk3⟩ | ⟨rfl, hJ4⟩)
      · gi_wp2
        have hrg3 := (hrg2.alloc (.cells #[.int .i64 k0, .int .i64 k1] 88)).of_walks hk3
        go_roundw
        case rel => exact ⟨_, cnt2, ks ++ [⟨(k0, k1), hkI⟩], hrg3, by simp; omega, ⟨hst, fun x hx => hC2 x (by simp at hx; exact hx.1)⟩, hJ4⟩
        case measure => rw [hrg3.left_eq, hrg.left_eq]; exact hlt
      · gi_wp2
        exact bodyPost_ret (v := .tuple #[]) (by simp [results]) rfl ⟨⟨_, rfl⟩, Or.inr ⟨_, trivial, hJ4⟩⟩
end Go.Proofs.Ytfginhifgljnmaa
namespace Go.Proofs.Ytfginhifgljnmaa
open Go.RowKit Go.Maps

def prCells (l : List Pr) : List Value := l.flatMap fun k => [.int .i64 k.1.1, .int .i64 k.1.2]
theorem prCells_length (l : List Pr) : (prCells l).length = l.length * 2 := by
  induction l with
  | nil => rfl
  | cons a l ih => simp only [prCells, List.flatMap_cons, List.length_append, List.length_cons, List.length_nil] at ih ⊢; rw [ih]; omega
theorem prCells_append (l r : List Pr) : prCells (l ++ r) = prCells l ++ prCells r := by simp [prCells]
theorem infoPair : (Try.prog.info? 88).map (fun i => (i.zero, i.size, i.bytes)) = some (some (.agg #[.int .i64 0, .int .i64 0]), 2, 16) := by kernel_rfl
/-- A box of two cells speaks of cells alone. -/
theorem box2_own {β : Type} (B : Nat) (t : TypeId) (u v : Value) : Own (fun (_ : β) W => W.heap[B]? = some (.cells #[u, v] t (0, 0))) := fun _ X Y row hs hg hrow => by
  have hlt := (Array.getElem?_eq_some_iff.1 hs).1
  refine (hg.block B hlt fun e => ?_).trans hs
  obtain ⟨o, ho, hc⟩ := hrow B e.symm
  rw [hs] at ho
  cases ho
  cases hc
set_option maxRecDepth 100000 in
set_option maxHeartbeats 2000000 in
theorem appseq_in (F : Fence) (n : Nat) (hF : F.fn 141) (hro : F.round = none) (hn : 2 ≤ n) (g : Nat) (lb : Array Value) (hFg : F.fn g) (eg : ∀ args w, (callFunc g args).run Try.prog w = .ok (.enter g args) w)
    (S : List Pr → Prop) (N : Nat) (hN : N ≤ 1000000) (w : World) (hseq : SeqStopsK F (n - 1) Try.prog g lb (fun x : Pr => #[pk x.1]) KeepsWalks S (fun _ => True) N w) :
    CallsIn F n Try.prog 141 #[.slice none 0 0, .func (.func g) #[] lb] w fun e w' => ∃ (v : Value) (ks : List Pr), e = .returned v ∧ S ks ∧ w'.ownsRow w.heap.size 88 2 v ks.length (prCells ks) ∧ Below w.heap.size w w' := by
  obtain ⟨i0, hi, hz0, hz1, hz2⟩ := info_parts infoPair
  have h1 : 1 ≤ n := by omega
  refine callsIn_of_wp_marks Try.func141 rfl hF ?_ hro
  simp only [Try.ntmps141, List.size_toArray, List.length_cons, List.length_nil, Nat.reduceAdd, Nat.reduceSub, Array.replicate_succ, Array.replicate_zero, List.push_toArray, List.append_toArray, List.nil_append, List.cons_append]
  gi_wp2
  obtain ⟨W0, hW0⟩ : ∃ W0, w.alloc (.cells #[.slice none 0 0] 98) = W0 := ⟨_, rfl⟩
  have hs0 : W0.heap.size = w.heap.size + 1 := by rw [← hW0]; simp
  have hv0 : Boxed W0 w.heap.size 98 (.slice none 0 0) := by rw [← hW0]; exact Boxed.new w _ _
  have hb0 : Below w.heap.size w W0 := by rw [← hW0]; exact (Below.refl _ w).alloc (Nat.le_refl _) _
  rw [hW0]
  clear hW0
  refine wpIn_rangeFunc_ownH hro h1 (gf := g) (lb := lb) rfl hFg eg hseq walksK_t (walksK_b (w := W0)) hb0 (fun _ => rfl)
    (fun pre W => (∃ v, Boxed W w.heap.size 98 v ∧ W.ownsRow w.heap.size 88 2 v pre.length (prCells pre) ∧ True) ∧ Below w.heap.size w W)
    (fun _ _ _ => False)
    (OwnFrom.and (Own.from (holdsRow_own w.heap.size w.heap.size 98 88 2 (fun pre : List Pr => pre.length) (fun pre => prCells pre) (fun _ _ => True)) _) (ownFrom_below (Nat.le_refl _) (by omega)))
    (fun _ _ _ _ _ hs _ _ => hs)
    ⟨⟨_, hv0, ⟨by simp [prCells], Or.inl ⟨rfl, rfl⟩⟩, trivial⟩, hb0⟩
    (fun x a' W => ∃ Bx, w.heap.size < Bx ∧ W.heap[Bx]? = some (.cells #[.int .i64 x.1.1, .int .i64 x.1.2] 88 (0, 0)) ∧ a' = { tmps := #[.slice none 0 0, .func (.func g) #[] lb, .pointer (some ⟨w.heap.size, 0, none⟩), undef, .slice none 0 0, .pointer (some ⟨Bx, 0, none⟩), .func (.func g) #[] lb, pk x.1, undef, undef, undef, undef, undef], defers := [] })
    (fun x a' _ X Y row hs hg hr => by obtain ⟨Bx, k1, k2, k3⟩ := hs; exact ⟨Bx, k1, box2_own (β := Unit) Bx _ _ _ () X Y row k2 hg (fun r e => (hr r e).2), k3⟩)
    ?assign ?body ?done ?stop
  case assign =>
    rintro l pre x W K ⟨⟨v, bv, hr, _⟩, hB1⟩ hK
    simp only [pk] at hK ⊢
    gi_wp2_with (rw [Oper.semAt_eq _ _ _ (fun c h => by cases h)]; go_simp; try go_bits)
    refine hK _ _ ((KeepsOthers.alloc _ _).from _) (KeepsOthers.alloc _ _).walks ⟨⟨v, bv.alloc _, hr.alloc _, trivial⟩, hB1.alloc hB1.size _⟩ ⟨W.heap.size, bv.lt, World.alloc_heap_new W _, rfl⟩
  case body =>
    rintro l pre x a' W hl ⟨r, hr0⟩ ⟨⟨v, bv, hr, _⟩, hB1⟩ ⟨Bx, hBx, bX, rfl⟩ hlt
    have cB := bv.cell
    have fB := bv.frozen
    have x0 : W.cell? ⟨Bx, 0, none⟩ = some (.int .i64 x.1.1) := cell_row bX 0
    have x1 : W.cell? ⟨Bx, 1, none⟩ = some (.int .i64 x.1.2) := cell_row bX 1
    simp only [pk]
    gi_wp2_with (first
      | (gi_at_builtin; refine wpListIn_append_own _ rfl _ _ 98 rfl w.heap.size 88 i0 _ 2 16 Try.underlying98 hi hz0 hz1 hz2 rfl (by decide) _ _ _ rfl (hr.alloc _) ⟨W.heap.size, 0, none⟩ 1 1 [.int .i64 x.1.1, .int .i64 x.1.2] rfl rfl (World.news_of_block (cs := #[.int .i64 x.1.1, .int .i64 x.1.2]) (t := 88) (fr := (0, 0)) (World.alloc_heap_new W _)) (by simp [Value.oneCell']) (by unfold maxLen; omega) (by omega) (by have := hB1.size; simp; omega) ?_; intro v' w1 hown' hgrow hnil
         obtain ⟨g', cap', rfl⟩ : ∃ g' cap', v' = .slice (some ⟨g', 0, none⟩) (pre.length + 1) cap' := by
           rcases hown'.2 with ⟨_, h0⟩ | ⟨g', cap', cur', e, _⟩
           · exact absurd h0 (by omega)
           · exact ⟨g', cap', e⟩
         obtain ⟨ap1, ap2, ap3, ap4, ap5⟩ := bv.appended (by decide) hr hB1.size (Nat.le_refl _) hown' hgrow
         have cB1 := ap1.cell
         have fB1 := ap1.frozen
         go_frame)
      | (rw [Oper.semAt_eq _ _ _ (fun c h => by cases h)]; go_simp; try go_bits))
    refine ⟨ap4.from _, ap4.walks, ⟨_, ap2, ?_, trivial⟩, hB1.trans (ap5.mono (Nat.le_refl _))⟩
    rw [prCells_append, List.length_append]
    exact ap3
  case done =>
    rintro D xs W hD hS ⟨⟨v, bv, hr, _⟩, hB1⟩ hK3
    have cB := bv.cell
    gi_wp2
    refine ⟨by simp, .inl ⟨_, _, rfl, run_takeDeferred hK3, ?_⟩⟩
    refine ⟨_, results_tmp rfl _ _ _, v, xs, rfl, hS, hr.kept (grownBy_putObj' _ _ _) ?_, hB1.trans ((put_below W D _ w.heap.size (by omega)).mono (Nat.le_refl _))⟩
    rcases hr.2 with ⟨rfl, _⟩ | ⟨g', cap, cur, rfl, _, hgb, _⟩
    · exact .inl rfl
    · refine .inr fun e' => ?_
      have : g' = D := by simpa [Value.ownBlock] using e'
      subst this
      rw [hgb] at hK3
      cases hK3
  case stop =>
    rintro D c pre W hD _ hf
    exact hf.elim
end Go.Proofs.Ytfginhifgljnmaa
namespace Go.Proofs.Ytfginhifgljnmaa
open Go.RowKit Go.Maps

/-- The first of two that isn't 0. -/
def orI (a b : Int) : Int := if a = 0 then b else a
def cmpP (x y : Int × Int) : Int := orI (cmpI x.1 y.1) (cmpI x.2 y.2)
theorem or_any (a b : Int) (q : Nat) (w : World) (h0 : w.cell? ⟨q, 0, none⟩ = some (.int .i64 a)) (h1 : w.cell? ⟨q, 1, none⟩ = some (.int .i64 b)) :
    Calls Try.prog 126 #[.slice (some ⟨q, 0, none⟩) 2 2] w fun e w' => e = .returned (.int .i64 (orI a b)) ∧ w' = w := by
  unfold orI
  by_cases ha : a = 0
  · subst ha
    rw [if_pos rfl]
    by_cases hb : b = 0
    · subst hb
      go_enter Try.func126, Try.ntmps126
      go_wp2_with fail
      refine wp_loop_rounds 3 ?_
      rw [rounds_succ]
      go_wp2_with fail
      rw [rounds_succ]
      go_wp2_with fail
      rw [rounds_succ]
      go_wp2_with fail
      go_ret
      exact ⟨rfl, rfl⟩
    · have hb' : ¬ (0 : Int) = b := fun e => hb e.symm
      go_enter Try.func126, Try.ntmps126
      go_wp2_with fail
      refine wp_loop_rounds 3 ?_
      rw [rounds_succ]
      go_wp2_with fail
      rw [rounds_succ]
      go_wp2_with fail
      go_ret
      exact ⟨rfl, rfl⟩
  · have ha' : ¬ (0 : Int) = a := fun e => ha e.symm
    rw [if_neg ha]
    go_enter Try.func126, Try.ntmps126
    go_wp2_with fail
    refine wp_loop_rounds 3 ?_
    rw [rounds_succ]
    go_wp2_with fail
    go_ret
    exact ⟨rfl, rfl⟩
set_option maxRecDepth 100000 in
set_option maxHeartbeats 1000000 in
theorem worder_any (x y : Int × Int) (w : World) : Calls Try.prog 95 #[.agg #[.int .i64 x.1, .int .i64 x.2], .agg #[.int .i64 y.1, .int .i64 y.2]] w fun e w' => e = .returned (.int .i64 (cmpP x y)) ∧ ∃ q os, w' = Sort.grow (w.drewN q) os := by
  obtain ⟨x0, x1⟩ := x
  obtain ⟨y0, y1⟩ := y
  go_enter Try.func95, Try.ntmps95
  go_wp2_with fail
  obtain ⟨wr, hwr⟩ : ∃ wr, wr = (w.alloc (.cells #[.int .i64 x0, .int .i64 x1] 88)).alloc (.cells #[.int .i64 y0, .int .i64 y1] 88) := ⟨_, rfl⟩
  obtain ⟨q0, hq0⟩ : ∃ q0, q0 = w.heap.size := ⟨_, rfl⟩
  obtain ⟨q1, hq1⟩ : ∃ q1, q1 = w.heap.size + 1 := ⟨_, rfl⟩
  rw [← hwr, ← hq1, ← hq0]
  have e0 : wr.heap[q0]? = some (.cells #[.int .i64 x0, .int .i64 x1] 88) := by
    rw [hwr, hq0]
    exact (((Below.refl _ _).alloc (Nat.le_refl _) _).block w.heap.size (by simp)).trans (heap_alloc_new w _)
  have e1 : wr.heap[q1]? = some (.cells #[.int .i64 y0, .int .i64 y1] 88) := by
    rw [hwr, hq1]
    have h := heap_alloc_new (w.alloc (.cells #[.int .i64 x0, .int .i64 x1] 88)) (.cells #[.int .i64 y0, .int .i64 y1] 88)
    have e : (w.alloc (.cells #[.int .i64 x0, .int .i64 x1] 88)).heap.size = w.heap.size + 1 := by simp
    rwa [e] at h
  have HG : Hid (∀ o, (wr.alloc o).drew = Sort.grow (w.drewN 1) #[.cells #[.int .i64 x0, .int .i64 x1] 88, .cells #[.int .i64 y0, .int .i64 y1] 88, o]) := fun o => by
    rw [hwr, Sort.alloc_eq_grow, Sort.alloc_eq_grow, Sort.alloc_eq_grow, Sort.grow_grow, Sort.grow_grow]
    rfl
  have HK : Hid (∀ W : World, (∀ b, b < wr.heap.size → W.heap[b]? = wr.heap[b]?) → (W.cell? ⟨q0, 0, none⟩ = some (.int .i64 x0) ∧ W.cell? ⟨q0, 1, none⟩ = some (.int .i64 x1)) ∧ W.cell? ⟨q1, 0, none⟩ = some (.int .i64 y0) ∧ W.cell? ⟨q1, 1, none⟩ = some (.int .i64 y1)) := fun W hW => by
    have f0 := (hW q0 (Array.getElem?_eq_some_iff.1 e0).1).trans e0
    have f1 := (hW q1 (Array.getElem?_eq_some_iff.1 e1).1).trans e1
    exact ⟨⟨cell_row f0 0, cell_row f0 1⟩, cell_row f1 0, cell_row f1 1⟩
  have HN : Hid (∀ u v : Value, ((wr.alloc (.cells #[u, v] 3)).drew.cell? ⟨wr.heap.size, 0, none⟩ = some u ∧ (wr.alloc (.cells #[u, v] 3)).drew.cell? ⟨wr.heap.size, 1, none⟩ = some v)) := fun u v => by
    have h := heap_alloc_new wr (.cells #[u, v] 3)
    exact ⟨cell_row (w := (wr.alloc (.cells #[u, v] 3)).drew) h 0, cell_row (w := (wr.alloc (.cells #[u, v] 3)).drew) h 1⟩
  obtain ⟨⟨p0, p1⟩, p2, p3⟩ := HK.out wr (fun _ _ => rfl)
  clear hwr hq0 hq1 e0 e1
  go_wp2_with fail
  go_region_held3 (fun W => (W.cell? ⟨q0, 0, none⟩ = some (.int .i64 x0) ∧ W.cell? ⟨q0, 1, none⟩ = some (.int .i64 x1)) ∧ W.cell? ⟨q1, 0, none⟩ = some (.int .i64 y0) ∧ W.cell? ⟨q1, 1, none⟩ = some (.int .i64 y1))
    (first | (go_keep; done) | exact HK.out _ (fun _ _ => rfl) | exact HK.out _ (fun b hb => ((Below.refl wr.heap.size wr).alloc (Nat.le_refl _) _).block b hb)) ((first
      | (go_at_call 50; refine (cmpI_any _ _ _).mono ?_; rintro e w' ⟨rfl, rfl⟩)
      | (go_at_call 126; refine (or_any (cmpI x0 y0) (cmpI x1 y1) wr.heap.size _ (HN.out _ _).1 (HN.out _ _).2).mono ?_; rintro e w' ⟨rfl, rfl⟩)))
  all_goals
    go_wp2_with fail
    go_ret
    exact ⟨rfl, 1, _, HG.out _⟩
theorem cmpP_lt (x y : Int × Int) : cmpP x y < 0 ↔ x.1 < y.1 ∨ x.1 = y.1 ∧ x.2 < y.2 := by
  unfold cmpP orI cmpI
  split <;> split <;> (try split) <;> (try split) <;> (try split) <;> omega
end Go.Proofs.Ytfginhifgljnmaa
