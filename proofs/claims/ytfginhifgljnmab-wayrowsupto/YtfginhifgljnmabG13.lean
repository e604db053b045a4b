/- What is proved here: plain facts and contracts that the claimed theorem stands on, several texts in one: what Take does, as one contract. No condition but that the ways lie in memory. All of ways that have no messages tells none. No condition but that the ways lie in memory. plain facts for WayRows: ways, what was sent and what was taken, side by side, and what a Send and a Take leave of them. No condition. for WayRows: what was taken and what is on its way is what was sent, in that order, behind each call; what a Send and a Take, and what is written down of them, leave. No condition but that all lies in memory. the small terms that the statements make for themselves (num, word, two): what they return, and that it lies in new memory. No condition. for WayRows: its small try of a Send and a Take, and where it begins. No condition but that all lies in memory. for WayRows: what its last loop asks of each way. No condition but that all lies in memory. -/
import Derived.Test.YtfginhifgljnmabG12
import Derived.Test.YtfginhifgljnmabG08
import Derived.RangeFuncNested
import Derived.RangeFuncLeaves
import Derived.OwnWalkIn
import Derived.TacticsInMore
import Derived.LoopNIn
import Derived.LoopIn
import Derived.Test.YtfginhifgljnmabG01
import Derived.Handy
namespace Go.Proofs.Ytfginhifgljnmab
open Go.RowKit Go.Maps

variable {base wp n N : Nat} {mo : Option Nat} {f : Int × Int → List (Tm (N + 1))} {sl : Int × Int → Value} {w : World}
/-- What a Take that is OK leaves. -/
def TakeUp (base wp : Nat) (mo : Option Nat) (n N : Nat) (f : Int × Int → List (Tm (N + 1))) (sl : Int × Int → Value) (k : Int × Int) (l : List (Tm (N + 1))) (w w' : World) : Prop :=
  ∃ sl', WyAt base wp mo (n + 1) (N + 1) (upd f k l) sl' w' ∧ Kee (wyM wp mo sl) w w' ∧ ∀ b, wyM wp mo sl' b → wyM wp mo sl b
theorem TakeUp.later {k : Int × Int} {l : List (Tm (N + 1))} {w' w2 : World} (h0 : WyAt base wp mo n (N + 1) f sl w) (h : TakeUp base wp mo n N f sl k l w w') (hb : Below w.heap.size w' w2) : TakeUp base wp mo n N f sl k l w w2 := by
  obtain ⟨sl', h1, h2, h3⟩ := h
  have hk : Kee (fun b => w.heap.size ≤ b) w' w2 := ⟨hb.os, hb.tape, hb.output, hb.size, fun b _ hb' => hb.block b (by omega)⟩
  refine ⟨sl', h1.kee hk fun b hb' hs => ?_, Kee.trans h2 hk fun b hb' hs => ?_, h3⟩
  · have := (h0.lt b (h3 b hb')).2
    omega
  · omega
theorem row_first {base g c L : Nat} {y : Tm (N + 1)} {l : List (Tm (N + 1))} (h : w.ownsRow base 24 4 (.slice (some ⟨g, 0, none⟩) L c) L (tCells (N + 1) (y :: l))) : w.cell? ⟨g, 0, none⟩ = some (.int .i64 y.1.1) ∧ w.cell? ⟨g, 1, none⟩ = some (.int .i64 y.1.2.1) ∧ w.cell? ⟨g, 2, none⟩ = some (.string y.1.2.2) ∧ w.cell? ⟨g, 3, none⟩ = some (.slice y.2.1.1 y.2.2.length y.2.1.2) := by
  have h1 := own_nd (l := (y :: l).map (hdT (N + 1))) h 0 (hdT (N + 1) y) (by simp)
  simp only [Nat.zero_mul, Nat.zero_add] at h1
  exact h1
set_option maxRecDepth 100000 in
theorem take_any (h : WyAt base wp mo n (N + 1) f sl w) {a b : Int} (hk : I2 (a, b)) (hn : n < 999999) (hl : (f (a, b)).length ≤ 1000) :
    Calls Try.prog 49 #[.pointer (some ⟨wp, 0, none⟩), .int .i64 a, .int .i64 b] w fun e w' =>
      (f (a, b) = [] → e = .returned (.tuple #[.agg #[.int .i64 0, .int .i64 0, .string ⟨#[]⟩, .slice none 0 0], .int .i64 4]) ∧ Below w.heap.size w w') ∧
      ∀ y l, f (a, b) = y :: l → e = .returned (.tuple #[val (N + 1) y, .int .i64 0]) ∧ TakeUp base wp mo n N f sl (a, b) l w w' := by
  have hwp := h.lt wp (Or.inl rfl)
  have hlook : ∀ W, Below w.heap.size w W → (Instr.lookup 94 (.map mo) (.agg #[.int .i64 a, .int .i64 b]) false).run Try.prog W = .ok (sl (a, b)) W := fun W hW => (h.later hW).look hk
  cases hf : f (a, b) with
  | nil =>
    have hs : sl (a, b) = .slice none 0 0 := by
      rcases h.2.2 with ⟨_, _, rfl⟩ | ⟨mb, rfl, hg⟩
      · rfl
      · obtain ⟨D, h1, h2, h3⟩ := hg.map
        have hno : has D (kl (a, b)) = false := by
          cases hh : has D (kl (a, b))
          · rfl
          · obtain ⟨j, hj, ej, hfj⟩ := (h3 _).1 hh
            rw [← kl_inj hk hj ej] at hfj
            exact absurd hf hfj
        have := h2 (a, b) hk
        rw [atKey_of_not_has hno] at this
        injection this with this
        exact this.symm
    rw [hs] at hlook
    refine (take_none wp mo a b w hwp.2 h.cell.1 hlook).mono ?_
    rintro e w' ⟨rfl, hb⟩
    exact ⟨fun _ => ⟨rfl, hb⟩, fun y l e => by cases e⟩
  | cons y l =>
    rcases h.2.2 with ⟨_, rfl, _⟩ | ⟨mb, rfl, hg⟩
    · cases hf
    · obtain ⟨sa, sc, hs, hrow⟩ := (hg.row (a, b) hk).at
      rw [hf] at hs hrow hl
      have hmb := hg.lt mb (Or.inl rfl)
      obtain ⟨g, rfl⟩ : ∃ g, sa = some ⟨g, 0, none⟩ := by
        rcases hrow.2 with ⟨e, _⟩ | ⟨g, cap, cur, e, _⟩
        · simp at e
        · simp at e
          exact ⟨g, e.1⟩
      have hgl := hrow.lt g rfl
      have hpg : wp ≠ g := fun e => wp_row h hk (by rw [hs, e]; rfl)
      have hy := row_first hrow
      rw [hs] at hlook
      cases hl0 : l with
      | nil =>
        subst hl0
        refine (take_one wp mb g sc y.1.1 y.1.2.1 y.1.2.2 y.2.1.1 y.2.2.length y.2.1.2 a b w (fun w' => TakeUp base wp (some mb) n N f sl (a, b) [] w w') hwp.2 hgl.2 hmb.2 (wp_ne h) hpg h.cell.1 hlook hy fun W hW => ?_).mono ?_
        · have hG : GM base mb n (N + 1) f sl W := hg.kee (kee_below hW fun _ => False) fun _ _ hf => hf
          obtain ⟨w2, hrun, hG2, hk2, hs2⟩ := hG.drop hk 3
          have hrun' : ∀ ty, (Builtin.delete_ #[94, 97] ty #[.map (some mb), .agg #[.int .i64 a, .int .i64 b]]).run Try.prog W = .ok (.tuple #[]) w2 := fun ty => hrun
          refine ⟨w2, hrun', hk2, hs2, fun w3 hb3 => ?_⟩
          have ht : TakeUp base wp (some mb) n N f sl (a, b) [] w w2 := by
            refine ⟨_, ⟨h.1, (hk2.block wp (Nat.lt_of_lt_of_le hwp.2 hW.size) (wp_ne h)).trans ((hW.block wp hwp.2).trans h.2.1), Or.inr ⟨mb, rfl, hG2.mono (Nat.le_succ n)⟩⟩, Kee.trans (kee_below hW _) hk2 fun q _ e => Or.inr (Or.inl (by rw [e])), fun q hb => ?_⟩
            rcases hb with hb | hb | ⟨j, hj, hb⟩
            · exact Or.inl hb
            · exact Or.inr (Or.inl hb)
            · by_cases e : j = (a, b)
              · rw [e, upd_same] at hb
                simp [nilS, Value.ownBlock] at hb
              · rw [upd_other _ _ e] at hb
                exact Or.inr (Or.inr ⟨j, hj, hb⟩)
          exact TakeUp.later h ht hb3
        · rintro e w' ⟨rfl, ht⟩
          refine ⟨fun e => (by cases e), fun y' l' e => ?_⟩
          injection e with e1 e2
          subst e1 e2
          exact ⟨rfl, ht⟩
      | cons y2 l2 =>
        rw [← hl0]
        have hlne : l ≠ [] := by rw [hl0]; simp
        have hlm : 1 ≤ l.length := List.length_pos_iff.2 hlne
        refine (take_more wp mb g sc l.length y.1.1 y.1.2.1 y.1.2.2 y.2.1.1 y.2.2.length y.2.1.2 a b w (fun w' => TakeUp base wp (some mb) n N f sl (a, b) l w w') (fun W w' => TRow base (N + 1) (.slice (some ⟨g, 0, none⟩) l.length sc) l w' ∧ w'.heap.size = W.heap.size) hlm (by simp at hl; omega) hwp.2 hgl.2 hmb.2 (wp_ne h) hpg h.cell.1 hlook hy (fun W hW => ?_) (fun W W1 hR hW hg1 => ?_)).mono ?_
        · refine (delete_row base g sc l.length y l W rfl (row_kee hrow (kee_below hW fun _ => False) fun _ _ hf => hf) hlne).mono ?_
          rintro e w' ⟨rfl, h1, h2, h3⟩
          exact ⟨rfl, h2, h1, h3⟩
        · have hG : GM base mb n (N + 1) f sl W := hg.kee (kee_below hW fun _ => False) fun _ _ hf => hf
          have hsk : (sl (a, b)).ownBlock = some g := by rw [hs]; rfl
          obtain ⟨w2, hrun, hG2, hk2, hs2⟩ := hG.store hk (w1 := W1) ((kee_grown hg1).mono fun b _ e => hsk.trans e) hlne hR.1 (fun b hb => Or.inl (hsk.trans hb)) (by omega)
          refine ⟨w2, hrun, hk2, fun w3 hb3 => ?_⟩
          have kW : Kee (wyM wp (some mb) sl) w W1 := Kee.trans (kee_below hW _) (kee_grown hg1) fun q _ e => Or.inr (Or.inr ⟨(a, b), hk, hsk.trans e⟩)
          have hwp1 : W1.heap[wp]? = w.heap[wp]? := (hg1.block wp (Nat.lt_of_lt_of_le hwp.2 hW.size) (fun e => hpg (Option.some.inj e))).trans (hW.block wp hwp.2)
          have hsW := hW.size
          have ht : TakeUp base wp (some mb) n N f sl (a, b) l w w2 := by
            refine ⟨_, ⟨h.1, (hk2.block wp (by rw [hR.2]; omega) (wp_ne h)).trans (hwp1.trans h.2.1), Or.inr ⟨mb, rfl, hG2⟩⟩, Kee.trans kW hk2 fun q _ e => Or.inr (Or.inl (by rw [e])), fun q hb => ?_⟩
            rcases hb with hb | hb | ⟨j, hj, hb⟩
            · exact Or.inl hb
            · exact Or.inr (Or.inl hb)
            · by_cases e : j = (a, b)
              · rw [e, upd_same] at hb
                exact Or.inr (Or.inr ⟨(a, b), hk, hsk.trans hb⟩)
              · rw [upd_other _ _ e] at hb
                exact Or.inr (Or.inr ⟨j, hj, hb⟩)
          exact TakeUp.later h ht hb3
        · rintro e w' ⟨rfl, ht⟩
          refine ⟨fun e => (by cases e), fun y' l' e => ?_⟩
          injection e with e1 e2
          subst e1 e2
          exact ⟨rfl, ht⟩
end Go.Proofs.Ytfginhifgljnmab
namespace Go.Proofs.Ytfginhifgljnmab
open Go.RowKit Go.Maps

set_option maxRecDepth 100000 in
set_option maxHeartbeats 1000000 in
theorem keys1_none (l Bm b nn : Nat) (D : DataW Value) (W : World) (hm : W.cell? ⟨Bm, 0, none⟩ = some (.map (some b))) (hown : W.ownsMap Try.prog 97 rawE b nn D) (h0 : Maps.size D = 0) :
    Calls Try.prog 119 #[.func (.yield l) #[] #[], .pointer (some ⟨Bm, 0, none⟩)] W fun e W' => (∃ v, e = .returned v) ∧ Below W.heap.size W W' := by
  go_enter Try.func119, Try.ntmps119
  go_wp2_with (first
    | (at_range; refine wpList_range_own _ rfl _ 94 rfl 97 22 pairLaw Try.underlying94 _ b nn _ rfl hown ?_; intro w0 hrg0 hg0 hs0))
  go_frame
  go_loopw [3] (fun _ wr => ∃ (left : Lit → Bool) (cnt : Nat), wr.ranges Try.prog 97 rawE b W.heap.size nn D left cnt ∧ cnt = 0 ∧ Below W.heap.size W wr)
    (fun _ wr => wr.rangeLeft b W.heap.size)
  case atStart =>
    exact ⟨_, _, hrg0, h0, ⟨hg0.os, hg0.tape, hg0.output, hg0.size, fun b hb => hg0.block b hb (by simp)⟩⟩
  case round =>
    obtain ⟨left, cnt, hrg, hcz, hb⟩ := hrel
    replace hcz := hide hcz
    go_wp2_with (first
      | (at_next; refine wpList_next_ranges _ rfl _ rfl 97 pairLaw rawE pk id (fun key kl hk => by obtain ⟨k, _, e, _⟩ := key_pk hk; exact ⟨k, e⟩) (fun v y hv => ⟨v, rfl⟩) b W.heap.size nn _ _ _ rfl hrg ?_ ?_))
    · intro hc0 hl0
      go_wp2_with fail
      exact bodyPost_end (v := .tuple #[]) (by simp [results]) rfl ⟨⟨_, rfl⟩, hb⟩
    · intro x c kl yd w2 cnt2 hkey hlk hv hat hrg2 hlt
      have := hcz.out
      omega

theorem put_below (W : World) (l : Nat) (o : Obj) (B : Nat) (hl : B ≤ l) : Below B W (W.putObj l o) :=
  ⟨rfl, rfl, rfl, by simp, fun k hk => World.putObj_heap_other (by omega)⟩
/-- A range over a function that gives nothing. -/
theorem range_none {P : Program} {t : Tmp} {ps : Array Tmp} {assign body : Code} {Q : Exit → Act → World → Prop} {a : Act} {w : World} (gf : Nat) (lb : Array Value) (hg : a.tmps[t]?.getD undef = .func (.func gf) #[] lb) (eg : ∀ args w, (callFunc gf args).run P w = .ok (.enter gf args) w)
    (hseq : ∀ l W, Below w.heap.size w W → Calls P gf (#[.func (.yield l) #[] #[]] ++ lb) W fun e W' => (∃ v, e = .returned v) ∧ Below W.heap.size W W')
    (hK : ∀ W3, Below w.heap.size w W3 → W3.heap[w.heap.size]? = some (.deferred (some [])) → Q .normal { a with defers := [{ target := .collected w.heap.size, args := #[] }] ++ a.defers } W3) :
    (Code.rangeFunc (.tmp t) ps assign body).wpIn Fence.wide 5 P Q a w := by
  refine wpIn_rangeFunc ?_
  intro fn hfn
  obtain ⟨W1, hW1⟩ : ∃ W1, (w.alloc (.deferred (some []))).alloc (.loop { state := .ready, pending := none, fn, tmps := a.tmps, params := ps, assign, body, defers := w.heap.size }) = W1 := ⟨_, rfl⟩
  have hb1 : Below w.heap.size w W1 := by rw [← hW1]; exact ((Below.refl _ _).alloc (Nat.le_refl _) _).alloc (by simp) _
  have hs1 : W1.heap.size = w.heap.size + 2 := by rw [← hW1]; simp
  have hL : W1.heap[w.heap.size + 1]? = some (.loop { state := .ready, pending := none, fn, tmps := a.tmps, params := ps, assign, body, defers := w.heap.size }) := by
    rw [← hW1]
    have := World.alloc_heap_new (w.alloc (.deferred (some []))) (.loop { state := .ready, pending := none, fn, tmps := a.tmps, params := ps, assign, body, defers := w.heap.size })
    rwa [World.size_alloc] at this
  have hD : W1.heap[w.heap.size]? = some (.deferred (some [])) := by rw [← hW1]; exact (Below.heap_alloc _ _ _ (by simp)).trans (World.alloc_heap_new w _)
  refine ⟨w.heap.size + 1, [{ target := .collected w.heap.size, args := #[] }], W1, { target := .fn (.func gf) lb, args := #[.func (.yield (w.heap.size + 1)) #[] #[]] }, W1, gf, #[.func (.yield (w.heap.size + 1)) #[] #[]] ++ lb, W1, ?_, ?_, ?_, ?_, fun _ => by omega, ?_⟩
  · rw [← hW1]
    exact run_enterLoop_outer _ _ _ _ _
  · simp [resolve, go_sem, hg]
  · intro f' hf'
    trivial
  · simp [invoke, go_sem, eg]
  · refine (callsIn_wide.2 (hseq (w.heap.size + 1) W1 hb1)).mono ?_
    rintro e W2 ⟨⟨v0, rfl⟩, hb2⟩
    have hL2 := (hb2.block (w.heap.size + 1) (by omega)).trans hL
    have hD2 := (hb2.block w.heap.size (by omega)).trans hD
    have hend := run_endLoop (P := P) hL2 (by simp)
    refine ⟨none, _, hend, ?_⟩
    have h2 := hb1.trans (hb2.mono hb1.size)
    exact hK _ (h2.trans ((put_below W2 (w.heap.size + 1) _ w.heap.size (by omega)).mono (Nat.le_refl _))) ((World.putObj_heap_other (by omega)).trans hD2)
set_option maxRecDepth 100000 in
set_option maxHeartbeats 2000000 in
/-- AppendSeq of nothing, and of a function that gives nothing. -/
theorem appseq_none (g : Nat) (lb : Array Value) (eg : ∀ args w, (callFunc g args).run Try.prog w = .ok (.enter g args) w) (w : World)
    (hseq : ∀ l W, Below w.heap.size w W → Calls Try.prog g (#[.func (.yield l) #[] #[]] ++ lb) W fun e W' => (∃ v, e = .returned v) ∧ Below W.heap.size W W') :
    Calls Try.prog 133 #[.slice none 0 0, .func (.func g) #[] lb] w fun e w' => e = .returned (.slice none 0 0) ∧ Below w.heap.size w w' := by
  refine (callsIn_wide (n := 5)).1 ?_
  refine callsIn_of_wp_marks Try.func133 rfl trivial ?_ rfl
  simp only [Try.ntmps133, List.size_toArray, List.length_cons, List.length_nil, Nat.reduceAdd, Nat.reduceSub, Array.replicate_succ, Array.replicate_zero, List.push_toArray, List.append_toArray, List.nil_append, List.cons_append]
  gi_wp2
  obtain ⟨W0, hW0⟩ : ∃ W0, w.alloc (.cells #[.slice none 0 0] 92) = W0 := ⟨_, rfl⟩
  have hs0 : W0.heap.size = w.heap.size + 1 := by rw [← hW0]; simp
  have hv0 : W0.heap[w.heap.size]? = some (.cells #[.slice none 0 0] 92 (0, 0)) := by rw [← hW0]; exact World.alloc_heap_new w _
  have hb0 : Below w.heap.size w W0 := by rw [← hW0]; exact (Below.refl _ w).alloc (Nat.le_refl _) _
  rw [hW0]
  refine range_none g lb rfl eg (fun l W hW => hseq l W (hb0.trans (hW.mono hb0.size))) ?_
  intro W3 hb3 hK3
  have hc3 : W3.cell? ⟨w.heap.size, 0, none⟩ = some (.slice none 0 0) := cell_row ((hb3.block w.heap.size (by omega)).trans hv0) 0
  have hb := hb0.trans (hb3.mono hb0.size)
  have HZ := hide hs0
  clear hs0 hW0
  gi_wp2
  refine ⟨by simp, .inl ⟨_, _, rfl, run_takeDeferred hK3, ?_⟩⟩
  exact ⟨_, results_tmp rfl _ _ _, rfl, hb.trans ((put_below W3 W0.heap.size _ w.heap.size (by rw [HZ.out]; omega)).mono (Nat.le_refl _))⟩
theorem grown_of_belowW {w w' : World} (h : Below w.heap.size w w') : w.grownBy w' none := ⟨h.os, h.tape, h.output, h.size, fun k hk _ => h.block k hk⟩
theorem collect_none (g : Nat) (lb : Array Value) (eg : ∀ args w, (callFunc g args).run Try.prog w = .ok (.enter g args) w) (w : World)
    (hseq : ∀ l W, Below w.heap.size w W → Calls Try.prog g (#[.func (.yield l) #[] #[]] ++ lb) W fun e W' => (∃ v, e = .returned v) ∧ Below W.heap.size W W') :
    Calls Try.prog 117 #[.func (.func g) #[] lb] w fun e w' => e = .returned (.slice none 0 0) ∧ Below w.heap.size w w' := by
  go_enter Try.func117, Try.ntmps117
  go_wp2_with fail
  refine (appseq_none g lb eg w hseq).mono ?_
  rintro e w' ⟨rfl, hb⟩
  go_wp2_with fail
  go_ret
  exact ⟨rfl, hb⟩
theorem insertion_none (fv : Value) (w : World) : Calls Try.prog 142 #[.slice none 0 0, .int .i64 0, .int .i64 0, fv] w fun e w' => e = .returned (.tuple #[]) ∧ w' = w := by
  go_enter Try.func142, Try.ntmps142
  go_wp2_with fail
  refine wp_loop_rounds 1 ?_
  rw [rounds_succ]
  go_wp2_with fail
  exact bodyPost_end (v := .tuple #[]) (by simp [results]) rfl ⟨rfl, rfl⟩
theorem pdq_none (lim : Int) (fv : Value) (w : World) : Calls Try.prog 134 #[.slice none 0 0, .int .i64 0, .int .i64 0, .int .i64 lim, fv] w fun e w' => e = .returned (.tuple #[]) ∧ w' = w := by
  have hi := insertion_none fv
  go_enter Try.func134, Try.ntmps134
  go_wp2_with fail
  refine wp_loop_rounds 1 ?_
  rw [rounds_succ]
  go_wp2_with fail
  refine (hi _).mono ?_
  rintro e w' ⟨rfl, rfl⟩
  go_wp2_with fail
  exact bodyPost_ret (v := .tuple #[]) (by simp [results]) rfl ⟨rfl, rfl⟩
theorem sortf_none (fv : Value) (w : World) : Calls Try.prog 118 #[.slice none 0 0, fv] w fun e w' => e = .returned (.tuple #[]) ∧ w' = w := by
  have hl := Try.bits_Len 0
  go_enter Try.func118, Try.ntmps118
  go_wp2_with fail
  refine (hl _ (by decide) (by decide)).mono ?_
  rintro e w' ⟨rfl, rfl⟩
  go_wp2_with fail
  refine (pdq_none _ fv _).mono ?_
  rintro e w' ⟨rfl, rfl⟩
  go_wp2_with fail
  exact bodyPost_end (v := .tuple #[]) (by simp [results]) rfl ⟨rfl, rfl⟩
theorem sorted_none (g : Nat) (lb : Array Value) (eg : ∀ args w, (callFunc g args).run Try.prog w = .ok (.enter g args) w) (fv : Value) (w : World)
    (hseq : ∀ l W, Below w.heap.size w W → Calls Try.prog g (#[.func (.yield l) #[] #[]] ++ lb) W fun e W' => (∃ v, e = .returned v) ∧ Below W.heap.size W W') :
    Calls Try.prog 90 #[.func (.func g) #[] lb, fv] w fun e w' => e = .returned (.slice none 0 0) ∧ Below w.heap.size w w' := by
  go_enter Try.func90, Try.ntmps90
  go_wp2_with fail
  refine (collect_none g lb eg w hseq).mono ?_
  rintro e w' ⟨rfl, hb⟩
  go_wp2_with fail
  refine (sortf_none fv _).mono ?_
  rintro e w2 ⟨rfl, rfl⟩
  go_wp2_with fail
  go_ret
  exact ⟨rfl, hb⟩
theorem keys_any (mo : Option Nat) (w : World) : Calls Try.prog 91 #[.map mo] w fun e w' => e = .returned (.func (.func 119) #[] #[.pointer (some ⟨w.heap.size, 0, none⟩)]) ∧ w' = w.alloc (.cells #[.map mo] 94) := by
  go_enter Try.func91, Try.ntmps91
  go_wp2_with fail
  go_ret
  exact ⟨rfl, rfl⟩
theorem GM.none {base mb n N : Nat} {f : Int × Int → List (Tm N)} {sl : Int × Int → Value} {w : World} (h : GM base mb n N f sl w) (h0 : ∀ k, f k = []) : ∃ D : DataW Value, w.ownsMap Try.prog 97 rawE mb n D ∧ Maps.size D = 0 := by
  obtain ⟨D, h1, _, h3⟩ := h.map
  refine ⟨D, h1, ?_⟩
  obtain ⟨es, rfl, _, hk⟩ := h1.entries pairLaw
  cases es with
  | nil => rfl
  | cons p es =>
    have hh : has (DataW.map (p :: es)) p.1 = true := by
      rw [has_eq]
      simp [WideAt.sameKey_self (hk p (by simp))]
    obtain ⟨k, _, _, hf⟩ := (h3 _).1 hh
    exact absurd (h0 k) hf
theorem all_none {base wp n N mb : Nat} {f : Int × Int → List (Tm N)} {sl : Int × Int → Value} {w : World} (h : WyAt base wp (some mb) n N f sl w) (h0 : ∀ k, f k = []) :
    Calls Try.prog 50 #[.pointer (some ⟨wp, 0, none⟩)] w fun e w' => e = .returned (.slice none 0 0) ∧ Below w.heap.size w w' := by
  have c0 := h.cell.1
  obtain ⟨D, hown, hD⟩ : ∃ D : DataW Value, w.ownsMap Try.prog 97 rawE mb n D ∧ Maps.size D = 0 := by
    rcases h.2.2 with ⟨e, _⟩ | ⟨mb', e, hg⟩
    · cases e
    · injection e with e
      subst e
      exact hg.none h0
  have HO := hide hown
  clear hown h h0
  go_enter Try.func50, Try.ntmps50
  go_wp2_with fail
  refine (keys_any (some mb) w).mono ?_
  rintro e w1 ⟨rfl, hw1⟩
  have HB1 : Hid (Below w.heap.size w w1) := by
    rw [hw1]
    exact (Below.refl _ _).alloc (Nat.le_refl _) _
  have HQ1 : Hid (w1.heap[w.heap.size]? = some (.cells #[.map (some mb)] 94)) := by
    rw [hw1]
    exact heap_alloc_new _ _
  clear hw1
  go_wp2_with fail
  refine (sorted_none 119 #[.pointer (some ⟨w.heap.size, 0, none⟩)] (enters_of Try.func119 (by kernel_rfl) rfl) _ w1 (fun l W hW => ?_)).mono ?_
  · refine keys1_none l w.heap.size mb n D W (cell_row ((hW.block w.heap.size (Array.getElem?_eq_some_iff.1 HQ1.out).1).trans HQ1.out) 0) ?_ hD
    have hb := HB1.out.trans (hW.mono HB1.out.size)
    exact HO.out.kept (grown_of_belowW hb) (by simp)
  · rintro e w2 ⟨rfl, hb2⟩
    go_wp2_with fail
    go_ret
    exact ⟨rfl, HB1.out.trans (hb2.mono HB1.out.size)⟩
end Go.Proofs.Ytfginhifgljnmab
namespace Go.Proofs.Ytfginhifgljnmab
open Go.RowKit Go.Maps

theorem WyAt.mono {base wp n N : Nat} {mo : Option Nat} {f : Int × Int → List (Tm N)} {sl : Int × Int → Value} {w : World} (h : WyAt base wp mo n N f sl w) {m : Nat} (hm : n ≤ m) : WyAt base wp mo m N f sl w := by
  obtain ⟨h1, h2, h3⟩ := h
  refine ⟨h1, h2, ?_⟩
  rcases h3 with h3 | ⟨mb, e, hg⟩
  · exact Or.inl h3
  · exact Or.inr ⟨mb, e, hg.mono hm⟩
/-- Ways and two maps of rows, side by side; T: terms that lie apart from them. -/
structure RwM (w : World) (wp : Nat) (mo : Option Nat) (ms mt n N : Nat) (fw fs ft : Int × Int → List (Tm N)) (sw ss st : Int × Int → Value) (T : Tm N → Prop) (wr : World) : Prop where
  below : Below w.heap.size w wr
  ways : WyAt w.heap.size wp mo n N fw sw wr
  sent : GM w.heap.size ms n N fs ss wr
  took : GM w.heap.size mt n N ft st wr
  d1 : ∀ b, wyM wp mo sw b → ¬ gmM ms ss b
  d2 : ∀ b, wyM wp mo sw b → ¬ gmM mt st b
  d3 : ∀ b, gmM ms ss b → ¬ gmM mt st b
  own : ∀ y, T y → In wr.heap.size wr N y ∧ Off (fun b => ¬ wyM wp mo sw b ∧ ¬ gmM ms ss b ∧ ¬ gmM mt st b) N y
variable {w wr : World} {wp : Nat} {mo : Option Nat} {ms mt n N : Nat} {fw fs ft : Int × Int → List (Tm N)} {sw ss st : Int × Int → Value} {T : Tm N → Prop}
theorem RwM.later (h : RwM w wp mo ms mt n N fw fs ft sw ss st T wr) {w' : World} (hb : Below wr.heap.size wr w') : RwM w wp mo ms mt n N fw fs ft sw ss st T w' :=
  ⟨h.below.trans (hb.mono h.below.size), h.ways.later hb, h.sent.kee (kee_below hb fun _ => False) fun _ _ hf => hf, h.took.kee (kee_below hb fun _ => False) fun _ _ hf => hf, h.d1, h.d2, h.d3,
    fun y hy => ⟨(h.own y hy).1.kee (kee_below hb fun _ => False) ((h.own y hy).2.mono fun _ _ hf => hf), (h.own y hy).2⟩⟩
theorem RwM.less (h : RwM w wp mo ms mt n N fw fs ft sw ss st T wr) {T' : Tm N → Prop} (hT : ∀ y, T' y → T y) : RwM w wp mo ms mt n N fw fs ft sw ss st T' wr :=
  ⟨h.below, h.ways, h.sent, h.took, h.d1, h.d2, h.d3, fun y hy => h.own y (hT y hy)⟩
theorem RwM.up (h : RwM w wp mo ms mt n N fw fs ft sw ss st T wr) {m : Nat} (hm : n ≤ m) : RwM w wp mo ms mt m N fw fs ft sw ss st T wr :=
  ⟨h.below, h.ways.mono hm, h.sent.mono hm, h.took.mono hm, h.d1, h.d2, h.d3, h.own⟩
theorem kee_low {S : Nat → Prop} {w wr w' : World} (h : Below w.heap.size w wr) (k : Kee S wr w') (hS : ∀ b, S b → w.heap.size ≤ b) : Below w.heap.size w w' :=
  h.trans ⟨k.os, k.tape, k.output, k.size, fun b hb => k.block b (Nat.lt_of_lt_of_le hb h.size) fun hs => by have := hS b hs; omega⟩
/-- The ways turn. -/
theorem RwM.way (h : RwM w wp mo ms mt n N fw fs ft sw ss st T wr) {w' : World} {mo' : Option Nat} {fw' : Int × Int → List (Tm N)} {sw' : Int × Int → Value} (k : Kee (wyM wp mo sw) wr w') (hw : WyAt w.heap.size wp mo' n N fw' sw' w') (hl : ∀ b, wyM wp mo' sw' b → wyM wp mo sw b ∨ wr.heap.size ≤ b) :
    RwM w wp mo' ms mt n N fw' fs ft sw' ss st T w' := by
  refine ⟨kee_low h.below k fun b hb => (h.ways.lt b hb).1, hw, h.sent.kee k fun b hb hs => h.d1 b hs hb, h.took.kee k fun b hb hs => h.d2 b hs hb, fun b hb hs => ?_, fun b hb hs => ?_, h.d3, fun y hy => ⟨(h.own y hy).1.kee k ((h.own y hy).2.mono fun b hb => hb.1), ?_⟩⟩
  · rcases hl b hb with e | e
    · exact h.d1 b e hs
    · have := (h.sent.lt b hs).2
      omega
  · rcases hl b hb with e | e
    · exact h.d2 b e hs
    · have := (h.took.lt b hs).2
      omega
  · refine (In.offB (h.own y hy).2 (h.own y hy).1).mono fun b hb => ⟨fun hm => ?_, hb.1.2⟩
    rcases hl b hm with e | e
    · exact hb.1.1 e
    · omega
/-- What was sent turns. -/
theorem RwM.send (h : RwM w wp mo ms mt n N fw fs ft sw ss st T wr) {w' : World} {fs' : Int × Int → List (Tm N)} {ss' : Int × Int → Value} (k : Kee (gmM ms ss) wr w') (hw : GM w.heap.size ms n N fs' ss' w') (hl : ∀ b, gmM ms ss' b → gmM ms ss b ∨ wr.heap.size ≤ b) :
    RwM w wp mo ms mt n N fw fs' ft sw ss' st T w' := by
  refine ⟨kee_low h.below k fun b hb => (h.sent.lt b hb).1, h.ways.kee k fun b hb hs => h.d1 b hb hs, hw, h.took.kee k fun b hb hs => h.d3 b hs hb, fun b hb hs => ?_, h.d2, fun b hb hs => ?_, fun y hy => ⟨(h.own y hy).1.kee k ((h.own y hy).2.mono fun b hb => hb.2.1), ?_⟩⟩
  · rcases hl b hs with e | e
    · exact h.d1 b hb e
    · have := (h.ways.lt b hb).2
      omega
  · rcases hl b hb with e | e
    · exact h.d3 b e hs
    · have := (h.took.lt b hs).2
      omega
  · refine (In.offB (h.own y hy).2 (h.own y hy).1).mono fun b hb => ⟨hb.1.1, fun hm => ?_, hb.1.2.2⟩
    rcases hl b hm with e | e
    · exact hb.1.2.1 e
    · omega
/-- What was taken turns. -/
theorem RwM.take (h : RwM w wp mo ms mt n N fw fs ft sw ss st T wr) {w' : World} {ft' : Int × Int → List (Tm N)} {st' : Int × Int → Value} (k : Kee (gmM mt st) wr w') (hw : GM w.heap.size mt n N ft' st' w') (hl : ∀ b, gmM mt st' b → gmM mt st b ∨ wr.heap.size ≤ b) :
    RwM w wp mo ms mt n N fw fs ft' sw ss st' T w' := by
  refine ⟨kee_low h.below k fun b hb => (h.took.lt b hb).1, h.ways.kee k fun b hb hs => h.d2 b hb hs, h.sent.kee k fun b hb hs => h.d3 b hb hs, hw, h.d1, fun b hb hs => ?_, fun b hb hs => ?_, fun y hy => ⟨(h.own y hy).1.kee k ((h.own y hy).2.mono fun b hb => hb.2.2), ?_⟩⟩
  · rcases hl b hs with e | e
    · exact h.d2 b hb e
    · have := (h.ways.lt b hb).2
      omega
  · rcases hl b hs with e | e
    · exact h.d3 b hb e
    · have := (h.sent.lt b hb).2
      omega
  · refine (In.offB (h.own y hy).2 (h.own y hy).1).mono fun b hb => ⟨hb.1.1, hb.1.2.1, fun hm => ?_⟩
    rcases hl b hm with e | e
    · exact hb.1.2.2 e
    · omega
theorem RwM.add (h : RwM w wp mo ms mt n N fw fs ft sw ss st T wr) {z : Tm N} (hz : In wr.heap.size wr N z ∧ Off (fun b => ¬ wyM wp mo sw b ∧ ¬ gmM ms ss b ∧ ¬ gmM mt st b) N z) : RwM w wp mo ms mt n N fw fs ft sw ss st (fun y => T y ∨ y = z) wr :=
  ⟨h.below, h.ways, h.sent, h.took, h.d1, h.d2, h.d3, fun y hy => by
    rcases hy with hy | rfl
    · exact h.own y hy
    · exact hz⟩
end Go.Proofs.Ytfginhifgljnmab
namespace Go.Proofs.Ytfginhifgljnmab
open Go.RowKit Go.Maps

/-- A term is appended to the row at a key, by the map's entry. -/
def Appends (base m : Nat) (k : Int × Int) (y4 : List Value) (R : World → Prop) (W : World) : Prop :=
  ∃ (sa : Option Addr) (L sc : Nat) (xs : List Value), L ≤ 1000 ∧ m < W.heap.size ∧ base ≤ W.heap.size ∧ ∀ W2, Below W.heap.size W W2 → ∃ (st : Nat) (W1 : World), (Instr.mapEntry 94 (.map (some m)) (pk k)).run Try.prog W2 = .ok (.tuple #[.slice sa L sc, goInt st]) W1 ∧ Kee (fun b => b = m) W2 W1 ∧ W1.heap.size = W2.heap.size ∧
    W1.ownsRow base 24 4 (.slice sa L sc) L xs ∧ ∀ g c w5, W1.grownBy w5 (Value.slice sa L sc).ownBlock → w5.ownsRow base 24 4 (.slice (some ⟨g, 0, none⟩) (L + 1) c) (L + 1) (xs ++ y4) → ((Value.slice sa L sc).ownBlock = some g ∨ g = W1.heap.size) →
      ∃ w6, (Instr.entryStore 94 (.map (some m)) (goInt st) (.slice (some ⟨g, 0, none⟩) (L + 1) c)).run Try.prog w5 = .ok () w6 ∧ R w6
theorem appends_of {base m n N : Nat} {f : Int × Int → List (Tm N)} {sl : Int × Int → Value} {W : World} (h : GM base m n N f sl W) {k : Int × Int} (hk : I2 k) (hn : n < 999999) (hl : (f k).length ≤ 1000) {y : Tm N} {R : World → Prop} (hR : ∀ w6, Grew base m n N f sl k y W w6 → R w6) : Appends base m k (nd4 (hdT N y)) R W := by
  obtain ⟨sa, sc, hs⟩ := (h.row k hk).sliced
  have hm := h.lt m (Or.inl rfl)
  refine ⟨sa, (f k).length, sc, tCells N (f k), hl, hm.2, by omega, fun W2 hW2 => ?_⟩
  obtain ⟨st, W1, hrun, k1, hs1, he⟩ := h.open hk (by omega) hW2
  rw [hs] at hrun
  have hrow : W1.ownsRow base 24 4 (.slice sa (f k).length sc) (f k).length (tCells N (f k)) := by
    have h1 := row_kee (row_kee (h.row k hk) (kee_below hW2 fun _ => False) fun _ _ hf => hf) k1 fun b hb e => h.ne hk (by rw [hb, e])
    rwa [hs] at h1
  refine ⟨st, W1, hrun, k1, hs1, hrow, fun g c w5 hgr ho hat => ?_⟩
  rw [← hs] at hgr hat
  obtain ⟨w6, hr, hg, _⟩ := Ent.done h hk he hW2 k1 hs1 (Below.refl _ _) hgr (y := y) (L := (f k).length) rfl ho hat
  exact ⟨w6, hr, hR w6 hg⟩

theorem Appends.step {base m : Nat} {k : Int × Int} {v0 v1 v2 v3 : Value} {R : World → Prop} {W : World} (h : Appends base m k [v0, v1, v2, v3] R W) : ∃ (sa : Option Addr) (L sc : Nat) (xs : List Value) (st : Nat) (W1 : World), L ≤ 1000 ∧ base ≤ W1.heap.size ∧ (Instr.mapEntry 94 (.map (some m)) (.agg #[.int .i64 k.1, .int .i64 k.2])).run Try.prog (W.alloc (.cells #[v0, v1, v2, v3] 24)) = .ok (.tuple #[.slice sa L sc, .int .i64 st]) W1 ∧
    Hid (W1.ownsRow base 24 4 (.slice sa L sc) L xs ∧ W1.heap[W.heap.size]? = some (.cells #[v0, v1, v2, v3] 24) ∧ ∀ g c w5, W1.grownBy w5 (Value.slice sa L sc).ownBlock → w5.ownsRow base 24 4 (.slice (some ⟨g, 0, none⟩) (L + 1) c) (L + 1) (xs ++ [v0, v1, v2, v3]) → ((Value.slice sa L sc).ownBlock = some g ∨ g = W1.heap.size) →
      ∃ w6, (Instr.entryStore 94 (.map (some m)) (.int .i64 st) (.slice (some ⟨g, 0, none⟩) (L + 1) c)).run Try.prog w5 = .ok () w6 ∧ R w6) := by
  obtain ⟨sa, L, sc, xs, hL, hm, hb, h⟩ := h
  obtain ⟨st, W1, hrun, k1, hs1, hrow, hst⟩ := h (W.alloc (.cells #[v0, v1, v2, v3] 24)) ((Below.refl _ _).alloc (Nat.le_refl _) _)
  have hz : (W.alloc (.cells #[v0, v1, v2, v3] 24)).heap.size = W.heap.size + 1 := by simp
  exact ⟨sa, L, sc, xs, st, W1, hL, by omega, hrun, hrow, (k1.block W.heap.size (by omega) (by omega)).trans (heap_alloc_new W _), hst⟩
theorem wsL_length {α β : Type} (f : α → β → Bool) : (p : List α) → (q : List β) → sameL f p q = true → p.length = q.length
  | [], [], _ => rfl
  | [], _ :: _, h => by simp [sameL] at h
  | _ :: _, [], h => by simp [sameL] at h
  | a :: p, b :: q, h => by
    simp only [sameL, Bool.and_eq_true] at h
    simp [wsL_length f p q h.2]
theorem wsL_snoc {α β : Type} (f : α → β → Bool) {a : α} {b : β} (hab : f a b = true) : (p : List α) → (q : List β) → sameL f p q = true → sameL f (p ++ [a]) (q ++ [b]) = true
  | [], [], _ => by simp [sameL, hab]
  | [], _ :: _, h => by simp [sameL] at h
  | _ :: _, [], h => by simp [sameL] at h
  | a' :: p, b' :: q, h => by
    simp only [sameL, Bool.and_eq_true] at h
    simp [sameL, h.1, wsL_snoc f hab p q h.2]
theorem wsL_take {α β : Type} (f : α → β → Bool) : (p r : List α) → (q : List β) → sameL f (p ++ r) q = true → sameL f p (q.take p.length) = true
  | [], r, q, _ => by simp [sameL]
  | a :: p, r, [], h => by simp [sameL] at h
  | a :: p, r, b :: q, h => by
    simp only [List.cons_append, sameL, Bool.and_eq_true] at h
    simp [sameL, h.1, wsL_take f p r q h.2]

/-- What holds behind each call. -/
structure RwS (w : World) (wp : Nat) (mo : Option Nat) (ms mt n N : Nat) (fw fs ft : Int × Int → List (Tm (N + 1))) (sw ss st : Int × Int → Value) (wr : World) : Prop where
  mem : RwM w wp mo ms mt n (N + 1) fw fs ft sw ss st (fun y => ∃ k, I2 k ∧ y ∈ ft k ++ fw k) wr
  eqv : ∀ k, I2 k → sameL (fun a b => same (N + 1) a (N + 1) b) (ft k ++ fw k) (fs k) = true
  len : ∀ k, I2 k → (fs k).length ≤ n
  arg : ∀ k, I2 k → ∀ y ∈ fs k, In w.heap.size w (N + 1) y
def RS (w : World) (wp ms mt N n : Nat) (wr : World) : Prop := ∃ mo fw fs ft sw ss st, RwS w wp mo ms mt n N fw fs ft sw ss st wr
variable {w wr : World} {wp ms mt n N : Nat}
theorem RwS.later {mo : Option Nat} {fw fs ft : Int × Int → List (Tm (N + 1))} {sw ss st : Int × Int → Value} (h : RwS w wp mo ms mt n N fw fs ft sw ss st wr) {w' : World} (hb : Below wr.heap.size wr w') : RwS w wp mo ms mt n N fw fs ft sw ss st w' := ⟨h.mem.later hb, h.eqv, h.len, h.arg⟩
theorem RS.later (h : RS w wp ms mt N n wr) {w' : World} (hb : Below wr.heap.size wr w') : RS w wp ms mt N n w' := by
  obtain ⟨mo, fw, fs, ft, sw, ss, st, h⟩ := h
  exact ⟨mo, fw, fs, ft, sw, ss, st, h.later hb⟩
theorem RS.below (h : RS w wp ms mt N n wr) : Below w.heap.size w wr := by
  obtain ⟨mo, fw, fs, ft, sw, ss, st, h⟩ := h
  exact h.mem.below
theorem RwS.lens {mo : Option Nat} {fw fs ft : Int × Int → List (Tm (N + 1))} {sw ss st : Int × Int → Value} (h : RwS w wp mo ms mt n N fw fs ft sw ss st wr) {k : Int × Int} (hk : I2 k) : (ft k).length + (fw k).length = (fs k).length ∧ (fs k).length ≤ n := by
  have h1 := wsL_length _ _ _ (h.eqv k hk)
  rw [List.length_append] at h1
  exact ⟨h1, h.len k hk⟩
/-- What a Send leaves to be done: what was sent is written down. -/
theorem RS.send (h : RS w wp ms mt N n wr) {W : World} (hW : Below wr.heap.size wr W) {a b : Int} (hk : I2 (a, b)) (x : Tm (N + 1)) (hx : In w.heap.size w (N + 1) x) (hN : (nodes (N + 1) x).length ≤ 2097152) (hn : n ≤ 900) :
    Calls Try.prog 47 #[.pointer (some ⟨wp, 0, none⟩), .int .i64 a, .int .i64 b, val (N + 1) x] W fun e w' => ∃ err : Int, e = .returned (.int .i64 err) ∧ Hid ((err ≠ 0 → RS w wp ms mt N n w') ∧
      (err = 0 → (∀ q, wr.heap.size ≤ q → q < W.heap.size → w'.heap[q]? = W.heap[q]?) ∧ Appends w.heap.size ms (a, b) (nd4 (hdT (N + 1) x)) (RS w wp ms mt N (n + 2)) w')) := by
  obtain ⟨mo, fw, fs, ft, sw, ss, st, h⟩ := h
  have h1 := h.later hW
  have hl := h1.lens hk
  have hb := h1.mem.below
  refine (send_any h1.mem.ways hk x ((hx.below hb).mono hb.size) hN (by omega) (by omega)).mono ?_
  rintro e w' ⟨rfl, g1, g2⟩
  refine ⟨_, rfl, fun he => ⟨mo, fw, fs, ft, sw, ss, st, h1.later (g1 he)⟩, fun he => ?_⟩
  obtain ⟨y, mo', sw', hs, hwy, hkee, hloc, hin, hoff⟩ := g2 he
  have hm := (h1.mem.up (Nat.le_succ n)).way hkee hwy hloc
  refine ⟨fun q hq1 hq2 => hkee.block q hq2 fun hm => ?_, ?_⟩
  · have := (h.mem.ways.lt q hm).2
    omega
  · refine appends_of hm.sent hk (by omega) (by omega) fun w6 hg => ?_
    obtain ⟨v, hG, hk6, hl6⟩ := hg
    have hoff' : Off (fun b => ¬ wyM wp mo' sw' b ∧ ¬ gmM ms ss b ∧ ¬ gmM mt st b) (N + 1) y := hoff.mono fun q hq => ⟨hq.2, fun hm => by have := (h1.mem.sent.lt q hm).2; omega, fun hm => by have := (h1.mem.took.lt q hm).2; omega⟩
    have hm2 := ((hm.add ⟨hin, hoff'⟩).up (Nat.le_succ _)).send hk6 hG hl6
    refine ⟨mo', _, _, ft, sw', _, st, hm2.less ?_, fun k hk2 => ?_, fun k hk2 => ?_, fun k hk2 z hz => ?_⟩
    · rintro z ⟨k, hk2, hz⟩
      by_cases e : k = (a, b)
      · subst e
        rw [upd_same] at hz
        simp only [List.mem_append, List.mem_singleton] at hz
        rcases hz with hz | hz | hz
        · exact Or.inl ⟨_, hk2, by simp [hz]⟩
        · exact Or.inl ⟨_, hk2, by simp [hz]⟩
        · exact Or.inr hz
      · rw [upd_other _ _ e] at hz
        exact Or.inl ⟨k, hk2, hz⟩
    · by_cases e : k = (a, b)
      · subst e
        rw [upd_same, upd_same, ← List.append_assoc]
        exact wsL_snoc (fun a b => same (N + 1) a (N + 1) b) hs _ _ (h.eqv _ hk2)
      · rw [upd_other _ _ e, upd_other _ _ e]
        exact h.eqv k hk2
    · by_cases e : k = (a, b)
      · subst e
        rw [upd_same, List.length_append]
        have := h.len _ hk2
        simp
        omega
      · rw [upd_other _ _ e]
        have := h.len k hk2
        omega
    · by_cases e : k = (a, b)
      · subst e
        rw [upd_same, List.mem_append, List.mem_singleton] at hz
        rcases hz with hz | rfl
        · exact h.arg _ hk2 z hz
        · exact hx
      · rw [upd_other _ _ e] at hz
        exact h.arg k hk2 z hz
/-- What a Take leaves to be done: what was taken is written down. -/
theorem RS.take (h : RS w wp ms mt N n wr) {W : World} (hW : Below wr.heap.size wr W) {a b : Int} (hk : I2 (a, b)) (hn : n ≤ 900) :
    Calls Try.prog 49 #[.pointer (some ⟨wp, 0, none⟩), .int .i64 a, .int .i64 b] W fun e w' => ∃ (z0 z1 : Int) (zs : ByteArray) (za : Option Addr) (zl zc : Nat) (err : Int), e = .returned (.tuple #[.agg #[.int .i64 z0, .int .i64 z1, .string zs, .slice za zl zc], .int .i64 err]) ∧ Hid ((err ≠ 0 → RS w wp ms mt N n w') ∧
      (err = 0 → (∀ q, wr.heap.size ≤ q → q < W.heap.size → w'.heap[q]? = W.heap[q]?) ∧ ∀ w2, Below w'.heap.size w' w2 → Appends w.heap.size mt (a, b) [.int .i64 z0, .int .i64 z1, .string zs, .slice za zl zc] (RS w wp ms mt N (n + 2)) w2)) := by
  obtain ⟨mo, fw, fs, ft, sw, ss, st, h⟩ := h
  have h1 := h.later hW
  have hl := h1.lens hk
  refine (take_any h1.mem.ways hk (by omega) (by omega)).mono ?_
  rintro e w' ⟨g1, g2⟩
  cases hf : fw (a, b) with
  | nil =>
    obtain ⟨rfl, hb⟩ := g1 hf
    exact ⟨_, _, _, _, _, _, _, rfl, fun _ => ⟨mo, fw, fs, ft, sw, ss, st, h1.later hb⟩, fun e => by cases e⟩
  | cons y l =>
    obtain ⟨rfl, sw', hwy, hkee, hloc⟩ := g2 y l hf
    refine ⟨y.1.1, y.1.2.1, y.1.2.2, y.2.1.1, y.2.2.length, y.2.1.2, 0, rfl, fun e => absurd rfl e, fun _ => ?_⟩
    have hm := (h1.mem.up (Nat.le_succ n)).way hkee hwy fun b hb => Or.inl (hloc b hb)
    refine ⟨fun q hq1 hq2 => hkee.block q hq2 fun hm => ?_, fun w2 hb2 => ?_⟩
    · have := (h.mem.ways.lt q hm).2
      omega
    · have hm2 := hm.later hb2
      refine appends_of (y := y) hm2.took hk (by omega) (by omega) fun w6 hg => ?_
      obtain ⟨v, hG, hk6, hl6⟩ := hg
      have hm3 := (hm2.up (Nat.le_succ _)).take hk6 hG hl6
      have hc : ∀ k, (upd ft (a, b) (ft (a, b) ++ [y]) k) ++ (upd fw (a, b) l k) = ft k ++ fw k := fun k => by
        by_cases e : k = (a, b)
        · subst e
          rw [upd_same, upd_same, hf, List.append_assoc]
          rfl
        · rw [upd_other _ _ e, upd_other _ _ e]
      refine ⟨mo, _, fs, _, sw', ss, _, hm3.less ?_, fun k hk2 => ?_, fun k hk2 => ?_, h.arg⟩
      · rintro z ⟨k, hk2, hz⟩
        rw [hc] at hz
        exact ⟨k, hk2, hz⟩
      · rw [hc]
        exact h.eqv k hk2
      · have := h.len k hk2
        omega
end Go.Proofs.Ytfginhifgljnmab
namespace Go.Proofs.Ytfginhifgljnmab
open Go.RowKit

theorem num_any (n : Int) (w : World) :
    Calls Try.prog 11 #[.int .i64 n] w fun e w' => e = .returned (.agg #[.int .i64 1, .int .i64 n, .string ⟨#[]⟩, .slice none 0 0]) ∧ Below w.heap.size w w' := by
  go_enter Try.func11, Try.ntmps11
  go_wp2_with fail
  exact bodyPost_ret (v := .agg #[.int .i64 1, .int .i64 n, .string ⟨#[]⟩, .slice none 0 0]) (by simp [results, Try.results11, go_sem]) rfl ⟨rfl, (Below.refl _ _).alloc (Nat.le_refl _) _⟩

theorem kword_any (s : ByteArray) (w : World) :
    Calls Try.prog 31 #[.string s] w fun e w' => e = .returned (.agg #[.int .i64 2, .int .i64 0, .string s, .slice none 0 0]) ∧ Below w.heap.size w w' := by
  go_enter Try.func31, Try.ntmps31
  go_wp2_with fail
  exact bodyPost_ret (v := .agg #[.int .i64 2, .int .i64 0, .string s, .slice none 0 0]) (by simp [results, Try.results31, go_sem]) rfl ⟨rfl, (Below.refl _ _).alloc (Nat.le_refl _) _⟩

theorem tuple_any (a : Option Addr) (l c : Nat) (w : World) :
    Calls Try.prog 29 #[.slice a l c] w fun e w' => e = .returned (.agg #[.int .i64 4, .int .i64 0, .string ⟨#[]⟩, .slice a l c]) ∧ Below w.heap.size w w' := by
  go_enter Try.func29, Try.ntmps29
  go_wp2_with fail
  exact bodyPost_ret (v := .agg #[.int .i64 4, .int .i64 0, .string ⟨#[]⟩, .slice a l c]) (by simp [results, Try.results29, go_sem]) rfl ⟨rfl, (Below.refl _ _).alloc (Nat.le_refl _) _⟩

def numT (n : Int) : Tm 1 := ((1, n, ⟨#[]⟩), (none, 0), [])
def wordT (s : ByteArray) : Tm 1 := ((2, 0, s), (none, 0), [])
def twoT (g : Nat) : Tm 2 := ((4, 0, ⟨#[]⟩), (some ⟨g, 0, none⟩, 2), [wordT ⟨#[97]⟩, numT 5])

theorem num_in (n : Int) (h : I64 n) (B : Nat) (w : World) : In B w 1 (numT n) := ⟨⟨by simp [numT, I64], h, Nat.zero_le _, by simp [numT], by simp [numT]⟩, Or.inl rfl⟩
theorem word_in (s : ByteArray) (h : s.size ≤ maxLen) (B : Nat) (w : World) : In B w 1 (wordT s) := ⟨⟨by simp [wordT, I64], by simp [wordT, I64], h, by simp [wordT], by simp [wordT]⟩, Or.inl rfl⟩

theorem two_in (g B : Nat) (w : World) (hg : g < B) (t : TypeId) (fr : Nat × Nat)
    (h : w.heap[g]? = some (.cells #[.int .i64 2, .int .i64 0, .string ⟨#[97]⟩, .slice none 0 0, .int .i64 1, .int .i64 5, .string ⟨#[]⟩, .slice none 0 0] t fr)) : In B w 2 (twoT g) := by
  have hc : ∀ j, w.cell? ⟨g, j, none⟩ = #[Value.int .i64 2, .int .i64 0, .string ⟨#[97]⟩, .slice none 0 0, .int .i64 1, .int .i64 5, .string ⟨#[]⟩, .slice none 0 0][j]? := fun j => by simp [World.cell?, h]
  refine ⟨⟨by simp [twoT, I64], by simp [twoT, I64], Nat.zero_le _, by simp [twoT], by simp [twoT, maxLen]⟩, Or.inr ⟨g, 0, rfl, hg, fun i y hy => ?_⟩⟩
  match i, hy with
  | 0, hy =>
    have : wordT ⟨#[97]⟩ = y := by simpa [twoT] using hy
    subst this
    exact ⟨⟨hc 0, hc 1, hc 2, hc 3⟩, word_in _ (by show (1 : Nat) ≤ 2 ^ 63 - 1; omega) B w⟩
  | 1, hy =>
    have : numT 5 = y := by simpa [twoT] using hy
    subst this
    exact ⟨⟨hc 4, hc 5, hc 6, hc 7⟩, num_in 5 (by simp [I64]) B w⟩
  | i + 2, hy => simp [twoT] at hy

theorem two_any (w : World) :
    Calls Try.prog 12 #[] w fun e w' => ∃ g, e = .returned (.agg #[.int .i64 4, .int .i64 0, .string ⟨#[]⟩, .slice (some ⟨g, 0, none⟩) 2 2]) ∧ Hid (Below w.heap.size w w' ∧ In w'.heap.size w' 2 (twoT g)) := by
  go_enter Try.func12, Try.ntmps12
  go_wp2_with fail
  refine (kword_any _ _).mono ?_
  rintro e w1 ⟨rfl, hb1⟩
  have HB1 := hide hb1
  clear hb1
  go_wp2_with fail
  refine (num_any _ _).mono ?_
  rintro e w2 ⟨rfl, hb2⟩
  have HB2 := hide (HB1.out.trans (hb2.mono HB1.out.size))
  clear hb2 HB1
  go_wp2_with fail
  refine (tuple_any _ _ _ _).mono ?_
  rintro e w3 ⟨rfl, hb3⟩
  have HB3 := hide ((HB2.out.alloc HB2.out.size _).trans (hb3.mono (Nat.le_trans HB2.out.size (by simp))))
  have HG : Hid (w3.heap[w2.heap.size]? = some (.cells #[.int .i64 2, .int .i64 0, .string ⟨#[97]⟩, .slice none 0 0, .int .i64 1, .int .i64 5, .string ⟨#[]⟩, .slice none 0 0] 24 (0, 0)) ∧ w2.heap.size < w3.heap.size ∧ w.heap.size < w2.heap.size) :=
    ⟨(hb3.block w2.heap.size (by simp)).trans (heap_alloc_new w2 _), by have := hb3.size; simp at this; omega, by have := HB2.out.size; simp at this; omega⟩
  clear hb3 HB2
  have hc := fun o => HB3.out.cell (p := ⟨w.heap.size, o, none⟩) (by simp)
  have hf := fun o => HB3.out.frozen (p := ⟨w.heap.size, o, none⟩) (by simp)
  have c0 := (hc 0).trans (by simp [go_sem] : _ = some (Value.int .i64 0))
  have c1 := (hc 1).trans (by simp [go_sem] : _ = some (Value.int .i64 0))
  have c2 := (hc 2).trans (by simp [go_sem] : _ = some (Value.string ⟨#[]⟩))
  have c3 := (hc 3).trans (by simp [go_sem] : _ = some (Value.slice none 0 0))
  have f0 := (hf 0).trans (by simp [go_sem] : _ = false)
  have f1 := (hf 1).trans (by simp [go_sem] : _ = false)
  have f2 := (hf 2).trans (by simp [go_sem] : _ = false)
  have f3 := (hf 3).trans (by simp [go_sem] : _ = false)
  clear hc hf
  go_wp2_with fail
  refine bodyPost_ret (v := .agg #[.int .i64 4, .int .i64 0, .string ⟨#[]⟩, .slice (some ⟨w2.heap.size, 0, none⟩) 2 2]) (by simp [results, Try.results12, go_sem, c0, c1, c2, c3]) rfl ⟨w2.heap.size, rfl, ?_⟩
  refine hide ⟨?_, ?_⟩
  · have hb : Below w.heap.size w w3 := ((Below.refl _ _).alloc (Nat.le_refl _) _).trans (HB3.out.mono (by simp))
    go_grown
  · refine two_in _ _ _ (by simp [World.setCell]; exact HG.out.2.1) 24 (0, 0) ?_
    have hne := HG.out.2.2
    rw [Below.heap_setCell _ _ _ _ (by simp; omega), Below.heap_setCell _ _ _ _ (by simp; omega), Below.heap_setCell _ _ _ _ (by simp; omega), Below.heap_setCell _ _ _ _ (by simp; omega)]
    exact HG.out.1
end Go.Proofs.Ytfginhifgljnmab
namespace Go.Proofs.Ytfginhifgljnmab
open Go.RowKit Go.Maps

/-- A call: its kind, from whom, to whom, the term. -/
abbrev Wc (N : Nat) : Type := (Int × Int × Int) × Tm (N + 1)
def wc7 (N : Nat) (c : Wc N) : List Value := [.int .i64 c.1.1, .int .i64 c.1.2.1, .int .i64 c.1.2.2, .int .i64 c.2.1.1, .int .i64 c.2.1.2.1, .string c.2.1.2.2, .slice c.2.2.1.1 c.2.2.2.length c.2.2.1.2]
/-- The calls lie in memory. -/
def Wcs (B : Nat) (w : World) (N : Nat) (l : List (Wc N)) (a : Option Addr) : Prop :=
  l = [] ∨ ∃ b o, a = some ⟨b, o, none⟩ ∧ b < B ∧ ∀ (i : Nat) (y : Wc N), l[i]? = some y → (∀ (j : Nat) (u : Value), (wc7 N y)[j]? = some u → w.cell? ⟨b, o + i * 7 + j, none⟩ = some u) ∧ I64 y.1.1 ∧ I2 (y.1.2.1, y.1.2.2) ∧ In B w (N + 1) y.2 ∧ (nodes (N + 1) y.2).length ≤ 2097152
theorem infoTermR : (Try.prog.info? 24).map (fun i => (i.zero, i.size, i.bytes)) = some (some (.agg #[.int .i64 0, .int .i64 0, .string ⟨#[]⟩, .slice none 0 0]), 4, 56) := by kernel_rfl
theorem num5_send : sendE 0 1 2 (numT 5) 0 = 0 := by
  have hc : chk 1 (numT 5) = 0 := by
    have f : formedB 1 (numT 5) = true := by simp [formedB, numT, good, hdOf, inB]
    have d : dep 1 (numT 5) ≤ 12 := by simp [dep, numT]
    have z : sz 1 (numT 5) ≤ 200 := by simp [sz, numT]
    rw [← tchk_chk]
    simp [tchk, f]
    omega
  have hd : closedT 1 (numT 5) = true := by simp [closedT, numT]
  unfold sendE
  rw [show chk (0 + 1) (numT 5) = 0 from hc, show closedT (0 + 1) (numT 5) = true from hd]
  decide
theorem kee_base {base : Nat} {S : Nat → Prop} {w1 w' : World} (k : Kee S w1 w') (hb : base ≤ w1.heap.size) (hS : ∀ b, S b → base ≤ b) : Below base w1 w' := k.below hb fun b hb' hs => by have := hS b hs; omega
/-- Behind the small Send. -/
def Pre1 (base wp : Nat) (y : Tm 1) (w' : World) : Prop :=
  same 1 y 1 (numT 5) = true ∧ In w'.heap.size w' 1 y ∧ ∃ mb sl, WyAt base wp (some mb) 1 1 (upd (fun _ => []) (1, 2) [y]) sl w' ∧ Off (fun b => ¬ wyM wp (some mb) sl b) 1 y
theorem pre_send {base wp : Nat} {w1 : World} (h : WyAt base wp none 0 1 (fun _ => []) (fun _ => nilS) w1) {W : World} (hW : Below w1.heap.size w1 W) : Calls Try.prog 47 #[.pointer (some ⟨wp, 0, none⟩), .int .i64 1, .int .i64 2, .agg #[.int .i64 1, .int .i64 5, .string ⟨#[]⟩, .slice none 0 0]] W fun e w' => e = .returned (.int .i64 0) ∧ Hid (Below base W w' ∧ ∃ y, Pre1 base wp y w') := by
  have h1 := h.later hW
  have hb := (h1.lt wp (Or.inl rfl)).1
  have hl := (h1.lt wp (Or.inl rfl)).2
  refine (send_any (N := 0) h1 (a := 1) (b := 2) ⟨by simp [I64], by simp [I64]⟩ (numT 5) (num_in 5 (by simp [I64]) _ _) (by simp [nodes, numT]) (by omega) (by simp)).mono ?_
  rintro e w' ⟨rfl, _, g2⟩
  have e0 : sendE 0 1 2 (numT 5) ((fun _ : Int × Int => ([] : List (Tm (0 + 1)))) (1, 2)).length = 0 := num5_send
  refine ⟨by rw [e0], ?_⟩
  obtain ⟨y, mo', sl', hs, hwy, hk, hloc, hin, hoff⟩ := g2 e0
  refine ⟨kee_base hk (by omega) fun b hb' => (h1.lt b hb').1, y, hs, hin, ?_⟩
  rcases hwy.2.2 with ⟨_, e, _⟩ | ⟨mb, rfl, _⟩
  · have := congrFun e (1, 2)
    rw [upd_same] at this
    simp at this
  · exact ⟨mb, sl', hwy, hoff.mono fun b hb => hb.2⟩
theorem pre_many {base wp : Nat} {y : Tm 1} {w' : World} (h : Pre1 base wp y w') : (Calls Try.prog 48 #[.pointer (some ⟨wp, 0, none⟩), .int .i64 1, .int .i64 2] w' fun e w2 => e = .returned (.int .i64 1) ∧ w2 = w') ∧ Calls Try.prog 48 #[.pointer (some ⟨wp, 0, none⟩), .int .i64 2, .int .i64 1] w' fun e w2 => e = .returned (.int .i64 0) ∧ w2 = w' := by
  obtain ⟨_, _, mb, sl, hwy, _⟩ := h
  refine ⟨(wmany_any hwy (a := 1) (b := 2) ⟨by simp [I64], by simp [I64]⟩).mono fun e w2 h => ?_, (wmany_any hwy (a := 2) (b := 1) ⟨by simp [I64], by simp [I64]⟩).mono fun e w2 h => ?_⟩
  · rw [upd_same] at h
    exact h
  · rw [upd_other _ _ (by decide)] at h
    exact h
/-- Behind the small Take. -/
def Pre2 (base wp : Nat) (w' : World) : Prop := ∃ mb f sl, WyAt base wp (some mb) 2 1 f sl w' ∧ ∀ k, f k = []
theorem pre_take {base wp : Nat} {y : Tm 1} {W : World} (h : Pre1 base wp y W) : Calls Try.prog 49 #[.pointer (some ⟨wp, 0, none⟩), .int .i64 1, .int .i64 2] W fun e w' => e = .returned (.tuple #[.agg #[.int .i64 y.1.1, .int .i64 y.1.2.1, .string y.1.2.2, .slice y.2.1.1 y.2.2.length y.2.1.2], .int .i64 0]) ∧ Hid (Below base W w' ∧ In w'.heap.size w' 1 y ∧ Pre2 base wp w') := by
  obtain ⟨_, hin, mb, sl, hwy, hoff⟩ := h
  have hl := hwy.lt wp (Or.inl rfl)
  refine (take_any (N := 0) hwy (a := 1) (b := 2) ⟨by simp [I64], by simp [I64]⟩ (by omega) (by rw [upd_same]; simp)).mono ?_
  rintro e w' ⟨_, g2⟩
  obtain ⟨rfl, sl', hwy', hk, hloc⟩ := g2 y [] (by rw [upd_same])
  refine ⟨rfl, kee_base hk (by omega) fun b hb' => (hwy.lt b hb').1, hin.kee hk hoff, mb, _, sl', hwy', fun k => ?_⟩
  by_cases e : k = (1, 2)
  · subst e
    rw [upd_same]
  · rw [upd_other _ _ e, upd_other _ _ e]
theorem WyAt.empty {base wp n N M : Nat} {mo : Option Nat} {f : Int × Int → List (Tm N)} {sl : Int × Int → Value} {w : World} (h : WyAt base wp mo n N f sl w) (h0 : ∀ k, f k = []) : WyAt base wp mo n M (fun _ => []) sl w := by
  obtain ⟨h1, h2, h3⟩ := h
  refine ⟨h1, h2, ?_⟩
  rcases h3 with ⟨e, _, e2⟩ | ⟨mb, e, hg⟩
  · exact Or.inl ⟨e, rfl, e2⟩
  · refine Or.inr ⟨mb, e, hg.lo, ?_, fun k hk => ?_, hg.apart⟩
    · obtain ⟨D, g1, g2, g3⟩ := hg.map
      refine ⟨D, g1, g2, fun x => ⟨fun hx => ?_, fun ⟨k, _, _, hf⟩ => absurd rfl hf⟩⟩
      obtain ⟨k, _, _, hf⟩ := (g3 x).1 hx
      exact absurd (h0 k) hf
    · have h := hg.row k hk
      unfold TRow at h ⊢
      rw [h0 k] at h
      exact h
theorem pre_all {base wp : Nat} {W : World} (h : Pre2 base wp W) : Calls Try.prog 50 #[.pointer (some ⟨wp, 0, none⟩)] W fun e w' => e = .returned (.slice none 0 0) ∧ Below W.heap.size W w' := by
  obtain ⟨mb, f, sl, hwy, h0⟩ := h
  exact all_none hwy h0
theorem Pre2.later {base wp : Nat} {W W' : World} (h : Pre2 base wp W) (hb : Below W.heap.size W W') : Pre2 base wp W' := by
  obtain ⟨mb, f, sl, hwy, h0⟩ := h
  exact ⟨mb, f, sl, hwy.later hb, h0⟩
/-- Where the calls begin. -/
theorem RS.start {w W : World} {wp N : Nat} (hW : Below w.heap.size w W) (h : Pre2 w.heap.size wp W) : RS w wp W.heap.size (W.heap.size + 1) N 2 ((W.alloc (.map #[] 0)).alloc (.map #[] 0)) := by
  obtain ⟨mb, f, sl, hwy, h0⟩ := h
  have hb : Below W.heap.size W ((W.alloc (.map #[] 0)).alloc (.map #[] 0)) := ((Below.refl _ _).alloc (Nat.le_refl _) _).alloc (by simp) _
  have hz := hW.size
  have g1 : GM w.heap.size W.heap.size 2 (N + 1) (fun _ => []) (fun _ => nilS) ((W.alloc (.map #[] 0)).alloc (.map #[] 0)) :=
    (((GM.new W (N + 1)).rebase hz).mono (Nat.zero_le _)).kee (kee_below ((Below.refl _ _).alloc (Nat.le_refl _) _) fun _ => False) fun _ _ hf => hf
  have g2 : GM w.heap.size (W.heap.size + 1) 2 (N + 1) (fun _ => []) (fun _ => nilS) ((W.alloc (.map #[] 0)).alloc (.map #[] 0)) := by
    have := GM.new (W.alloc (.map #[] 0)) (N + 1)
    rw [World.size_alloc] at this
    exact (this.rebase (by omega)).mono (Nat.zero_le _)
  have hno : ∀ (m b : Nat), gmM m (fun _ => nilS) b → b = m := by
    rintro m b (e | ⟨k, _, e⟩)
    · exact e
    · simp [nilS, Value.ownBlock] at e
  have hwy2 := (hwy.empty h0 (M := N + 1)).later hb
  refine ⟨some mb, fun _ => [], fun _ => [], fun _ => [], sl, fun _ => nilS, fun _ => nilS, ⟨hW.trans (hb.mono hz), hwy2, g1, g2, fun b hb hs => ?_, fun b hb hs => ?_, fun b hb hs => ?_, ?_⟩, fun k _ => by simp [sameL], fun k _ => by simp, fun k _ y hy => by cases hy⟩
  · have h1 := (hwy.lt b hb).2
    have := hno _ _ hs
    omega
  · have h1 := (hwy.lt b hb).2
    have := hno _ _ hs
    omega
  · have h1 := hno _ _ hb
    have := hno _ _ hs
    omega
  · rintro y ⟨k, _, hy⟩
    simp at hy
end Go.Proofs.Ytfginhifgljnmab
namespace Go.Proofs.Ytfginhifgljnmab
open Go.RowKit Go.Maps

theorem len_sub {α : Type} [DecidableEq α] : (l r : List α) → l.Pairwise (fun a b => a ≠ b) → (∀ x ∈ l, x ∈ r) → l.length ≤ r.length
  | [], _, _, _ => Nat.zero_le _
  | a :: l, r, hp, hs => by
    obtain ⟨h1, h2⟩ := List.pairwise_cons.1 hp
    have ha := hs a (by simp)
    have ih := len_sub l (r.erase a) h2 fun x hx => (List.mem_erase_of_ne (fun e => h1 x hx e.symm)).2 (hs x (by simp [hx]))
    rw [List.length_erase_of_mem ha] at ih
    have := List.length_pos_of_mem ha
    simp only [List.length_cons]
    omega
theorem size_sub {w : World} {m m' n n' : Nat} {D D' : DataW Value} (h : w.ownsMap Try.prog 97 rawE m n D) (h' : w.ownsMap Try.prog 97 rawE m' n' D') (hs : ∀ x, has D x = true → has D' x = true) : Maps.size D ≤ Maps.size D' := by
  obtain ⟨es, rfl, hp, hk⟩ := h.entries pairLaw
  obtain ⟨es', rfl, hp', hk'⟩ := h'.entries pairLaw
  have h1 := @len_sub Lit (fun a b => Classical.propDecidable (a = b)) (es.map (·.1)) (es'.map (·.1)) (List.pairwise_map.2 hp) fun x hx => by
    obtain ⟨p, hpm, rfl⟩ := List.mem_map.1 hx
    have hh := hs p.1 (by
      rw [has_eq]
      exact List.any_eq_true.2 ⟨p, hpm, WideAt.sameKey_self (hk p hpm)⟩)
    rw [has_eq] at hh
    obtain ⟨p', hpm', e⟩ := List.any_eq_true.1 hh
    exact List.mem_map.2 ⟨p', hpm', WideAt.sameKey_eq e⟩
  simpa [Maps.size] using h1
theorem slice_upto (w : World) (g L c m : Nat) (h : m ≤ c) : (Instr.slice 22 (.slice (some ⟨g, 0, none⟩) L c) none (some (.int .i64 (m : Int))) none).run Try.prog w = .ok (.slice (some ⟨g, 0, none⟩) m c) w := by
  have e3 : (m : Int) ≤ (c : Int) := by omega
  simp [Instr.slice, run_underlying Try.underlying22, Instr.sliceBounds, Instr.sliceBound, asIntOf, h, go_sem]
variable {w wr : World} {wp ms mt n N : Nat}
/-- What is asked of one way. -/
def LastK (wp mt : Nat) (k : Int × Int) (c : Value) (wr : World) : Prop :=
  ∃ (g L cc : Nat) (a' : Option Addr) (nt c' : Nat), c = .slice (some ⟨g, 0, none⟩) L cc ∧ nt ≤ L ∧ L ≤ cc ∧ L ≤ 1000 ∧
    Hid (∀ W, Below wr.heap.size wr W → (Instr.lookup 94 (.map (some mt)) (.agg #[.int .i64 k.1, .int .i64 k.2]) false).run Try.prog W = .ok (.slice a' nt c') W) ∧
    Hid (∀ W, Below wr.heap.size wr W → Calls Try.prog 35 #[.slice a' nt c', .slice (some ⟨g, 0, none⟩) nt cc] W fun e w' => e = .returned (.bool true) ∧ Below W.heap.size W w') ∧
    Hid (∀ W, Below wr.heap.size wr W → Calls Try.prog 48 #[.pointer (some ⟨wp, 0, none⟩), .int .i64 k.1, .int .i64 k.2] W fun e w' => e = .returned (.int .i64 ((L : Int) - (nt : Int))) ∧ w' = W)
theorem row_lies {base M : Nat} {v : Value} {l : List (Tm (M + 1))} {W : World} {a : Option Addr} {c : Nat} (h : TRow base (M + 1) v l W) (hv : v = .slice a l.length c) (hi : ∀ y ∈ l, In W.heap.size W (M + 1) y) :
    l = [] ∨ ∃ b o, a = some ⟨b, o, none⟩ ∧ b < W.heap.size ∧ ∀ (i : Nat) (y : Tm (M + 1)), l[i]? = some y → Held W b (o + i * 4) (M + 1) y ∧ In W.heap.size W (M + 1) y := by
  rcases h.2 with ⟨_, e⟩ | ⟨g, cap, cur, e, _⟩
  · exact Or.inl (List.eq_nil_of_length_eq_zero e)
  · rw [hv] at e
    simp at e
    obtain ⟨rfl, rfl⟩ := e
    have h' := h
    unfold TRow at h'
    rw [hv] at h'
    exact Or.inr ⟨g, 0, rfl, (h'.lt g rfl).2, fun i y hy => ⟨hd_held h' i y hy, hi y (List.mem_of_getElem? hy)⟩⟩
theorem RS.last (h : RS w wp ms mt N n wr) (hn : n ≤ 900) : ∃ Ds Dt : DataW Value, wr.ownsMap Try.prog 97 rawE ms n Ds ∧ wr.ownsMap Try.prog 97 rawE mt n Dt ∧ Maps.size Dt ≤ Maps.size Ds ∧ ∀ k c, I2 k → has Ds (kl k) = true → (∀ zd, Ds.atKey (kl k) zd = .held c) → LastK wp mt k c wr := by
  obtain ⟨mo, fw, fs, ft, sw, ss, st, h⟩ := h
  obtain ⟨Ds, s1, s2, s3⟩ := h.mem.sent.map
  obtain ⟨Dt, t1, t2, t3⟩ := h.mem.took.map
  refine ⟨Ds, Dt, s1, t1, size_sub t1 s1 fun x hx => ?_, fun k c hk hh hc => ?_⟩
  · obtain ⟨k, hk, e, hf⟩ := (t3 x).1 hx
    refine (s3 x).2 ⟨k, hk, e, fun hz => hf ?_⟩
    have := (h.lens hk).1
    rw [hz] at this
    rw [List.length_nil] at this
    exact List.eq_nil_of_length_eq_zero (by omega)
  · have hcs : c = ss k := by
      have h1 := s2 k hk
      rw [hc] at h1
      injection h1
    have hne : fs k ≠ [] := by
      obtain ⟨k', hk', e, hf⟩ := (s3 _).1 hh
      rwa [← kl_inj hk hk' e] at hf
    have hl := h.lens hk
    have hrow := h.mem.sent.row k hk
    obtain ⟨a', c', ht⟩ := (h.mem.took.row k hk).sliced
    obtain ⟨g, cc, hg, hcc⟩ : ∃ g cc, ss k = .slice (some ⟨g, 0, none⟩) (fs k).length cc ∧ (fs k).length ≤ cc := by
      rcases hrow.2 with ⟨_, e⟩ | ⟨g, cap, cur, e, _, _, h2, _⟩
      · exact absurd (List.eq_nil_of_length_eq_zero e) hne
      · exact ⟨g, cap, e, h2⟩
    have hrow2 : TRow w.heap.size (N + 1) (ss k) (fs k) wr := hrow
    refine ⟨g, (fs k).length, cc, a', (ft k).length, c', hcs.trans hg, by omega, hcc, by omega, fun W hW => ?_, fun W hW => ?_, fun W hW => ?_⟩
    · have := (h.mem.took.kee (kee_below hW fun _ => False) fun _ _ hf => hf).look hk
      rw [ht] at this
      exact this
    · have hm := h.mem.later hW
      have hp := row_lies (hm.took.row k hk) ht fun y hy => (hm.own y ⟨k, hk, by simp [hy]⟩).1
      have hb := hm.below
      have hq0 := row_lies (hm.sent.row k hk) hg fun y hy => ((h.arg k hk y hy).below hb).mono hb.size
      have hq : (fs k).take (ft k).length = [] ∨ ∃ b o, some (⟨g, 0, none⟩ : Addr) = some ⟨b, o, none⟩ ∧ b < W.heap.size ∧ ∀ (i : Nat) (y : Tm (N + 1)), ((fs k).take (ft k).length)[i]? = some y → Held W b (o + i * 4) (N + 1) y ∧ In W.heap.size W (N + 1) y := by
        rcases hq0 with e | ⟨b, o, e, hb, hq⟩
        · exact absurd e hne
        · refine Or.inr ⟨b, o, e, hb, fun i y hy => hq i y ?_⟩
          rw [List.getElem?_take] at hy
          split at hy
          · exact hy
          · cases hy
      have hql : ((fs k).take (ft k).length).length = (ft k).length := by
        rw [List.length_take]
        omega
      have hs := sameTerms_any (N + 1) (N + 1) (same_any (N + 1)) (ft k) ((fs k).take (ft k).length) a' (some ⟨g, 0, none⟩) c' cc W.heap.size W hp hq (by omega) (by omega) (Nat.le_refl _)
      rw [wsL_take (fun a b => same (N + 1) a (N + 1) b) (ft k) (fw k) (fs k) (h.eqv k hk), hql] at hs
      exact hs
    · refine (wmany_any (h.mem.ways.later hW) (a := k.1) (b := k.2) hk).mono ?_
      rintro e w' ⟨rfl, rfl⟩
      refine ⟨?_, rfl⟩
      have : ((fw (k.1, k.2)).length : Int) = ((fs k).length : Int) - ((ft k).length : Int) := by
        have e : (k.1, k.2) = k := rfl
        rw [e]
        omega
      rw [this]
end Go.Proofs.Ytfginhifgljnmab
