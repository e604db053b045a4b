/- What is proved here: plain facts and contracts that the claimed theorem stands on, several texts in one: a law for a region that draws its order: loads may be taken first under a condition on the world that need not hold behind one last operation, which waits for them. No condition but that. the first of a row of terms is taken out by slices.Delete. No condition but that the row lies in memory. clerklaw.grown of a right term that a word stands for: nodes for its tuples, one for one, in new memory. No condition but that all lies in memory. a row of pointers that may begin anywhere in its block: its first, what is behind it, and rows appended to it. No condition but that it lies in memory. -/
import Derived.Test.YtdlckjjfbobmpaaG01
import Derived.OrdersHeld
import Derived.Test.YtdlckjjfbobmpaaG15
import Derived.Deep.AppendLies
import Derived.Deep.RegionHeld3
import Derived.Test.YtdlckjjfbobmpaaG16
namespace Go.Proofs.Ytdlckjjfbobmpaa
open Go.RowKit

section
variable {P : Program} {ops : Array Oper} {Q : Exit → Act → World → Prop} {md : Region.Mode} {S : World → Prop} {X : Nat}

/-- Whatever order is picked from here on; S holds behind every operation but X. -/
def wpAnyX (P : Program) (md : Region.Mode) (ops : Array Oper) (Q : Exit → Act → World → Prop) (S : World → Prop) (X : Nat) : Nat → Array Bool → Act → World → Prop
  | 0, listed, a, w => Region.ready md ops listed = [] ∧ Q .normal a w
  | fuel + 1, listed, a, w =>
    (Region.ready md ops listed = [] → Q .normal a w) ∧
    ∀ i ∈ Region.ready md ops listed, wpOp P ops Q i (fun a' w' => (i ≠ X → S w') ∧ wpAnyX P md ops Q S X fuel (listed.setIfInBounds i true) a' w') a w
theorem wpAny_of_x : ∀ (fuel : Nat) (listed : Array Bool) (a : Act) (w : World), wpAnyX P md ops Q S X fuel listed a w → wpAny P md ops Q fuel listed a w
  | 0, _, _, _, h => h
  | fuel + 1, _, _, _, h => ⟨h.1, fun i hi => wpOp_mono (fun a' w' h' => wpAny_of_x fuel _ a' w' h'.2) (h.2 i hi)⟩
theorem wpAnyX_first {i : Nat} {oi : Oper} {v : Value} (hi : ops[i]? = some oi) (hsel : ∀ (j : Nat) (o : Oper) cs b, ops[j]? = some o → o.op ≠ .select cs b)
    (hQ : ∀ c a w, Q (.panic c) (a.put oi.dst v) w → Q (.panic c) a w) (hX : ∀ oj, ops[X]? = some oj → ∃ e ∈ oj.after, Region.binds md e = true ∧ e.on = i) :
    ∀ (fuel : Nat) (listed : Array Bool) (a : Act) (w : World),
      (∀ j oj, ops[j]? = some oj → j ≠ i → listed.getD j true = false → (∀ e ∈ oj.after, Region.binds md e = true → e.on ≠ i) → oi.apart ops oj = true) →
      i ∈ Region.ready md ops listed → YieldsIf P ops S oi v a → S w →
      wpAnyX P md ops Q S X fuel (listed.setIfInBounds i true) (a.put oi.dst v) w → wpAnyX P md ops Q S X (fuel + 1) listed a w := by
  intro fuel
  induction fuel with
  | zero =>
    intro listed a w _ hr hy hS H
    refine ⟨fun h => (by rw [h] at hr; cases hr), fun j hj => ?_⟩
    by_cases hji : j = i
    · subst hji; exact hy.wpOp hi hS ⟨fun _ => hS, H⟩
    · have := ready_mono hj hji
      rw [H.1] at this
      cases this
  | succ fuel ih =>
    intro listed a w hfree hr hy hS H
    refine ⟨fun h => (by rw [h] at hr; cases hr), fun j hj => ?_⟩
    by_cases hji : j = i
    · subst hji; exact hy.wpOp hi hS ⟨fun _ => hS, H⟩
    · have h1 := H.2 j (ready_mono hj hji)
      obtain ⟨hjun, oj, hoj, hall⟩ := mem_ready.1 hj
      have hnot : ∀ e ∈ oj.after, Region.binds md e = true → e.on ≠ i := fun e he hb heq => by
        have h1 := hall e he hb
        have h0 := (mem_ready.1 hr).1
        rw [heq] at h1
        rcases Nat.lt_or_ge i listed.size with h' | h'
        · simp [h'] at h0 h1; rw [h0] at h1; cases h1
        · simp [Array.getElem?_eq_none h'] at h1
      have hne : j ≠ X := fun e => by
        obtain ⟨e1, he1, hb1, ho1⟩ := hX oj (by rw [← e]; exact hoj)
        exact hnot e1 he1 hb1 ho1
      have h2 := wpOp_putIf hoj (hfree j oj hoj hji hjun hnot) (fun cs b => hsel i oi cs b hi) (fun cs b => hsel j oj cs b hoj) hQ hy h1
      have hfree' : ∀ k ok, ops[k]? = some ok → k ≠ i → (listed.setIfInBounds j true).getD k true = false →
          (∀ e ∈ ok.after, Region.binds md e = true → e.on ≠ i) → oi.apart ops ok = true := fun k ok hk hki hun hno => by
        refine hfree k ok hk hki ?_ hno
        by_cases hjk : j = k
        · subst hjk; exact hjun
        · rw [getD_set_ne true hjk] at hun; exact hun
      refine wpOp_mono (fun a' w' h3 => ⟨fun _ => h3.2.1 hne, ih (listed.setIfInBounds j true) a' w' hfree' (ready_mono hr (Ne.symm hji)) h3.1 (h3.2.1 hne) ?_⟩) h2
      rw [Array.setIfInBounds_comm _ _ hji]
      exact h3.2.2
/-- Operation X waits for operation i. -/
def waitsB (md : Region.Mode) (ops : Array Oper) (X i : Nat) : Bool := ((ops[X]?).map fun o => o.after.any fun e => Region.binds md e && e.on == i).getD false
theorem waits_spec {i : Nat} (h : waitsB md ops X i = true) : ∀ oj, ops[X]? = some oj → ∃ e ∈ oj.after, Region.binds md e = true ∧ e.on = i := fun oj hj => by
  unfold waitsB at h
  rw [hj] at h
  simp only [Option.map_some, Option.getD_some, Array.any_eq_true] at h
  obtain ⟨k, hk, h⟩ := h
  simp only [Bool.and_eq_true, beq_iff_eq] at h
  exact ⟨_, Array.getElem_mem hk, h.1, h.2⟩
theorem wpAnyX_take {i : Nat} {oi : Oper} {v : Value} {fuel : Nat} {listed : Array Bool} {a : Act} {w : World} (hi : ops[i]? = some oi)
    (hs : Region.noSelect ops = true) (hf : Region.free md ops listed i = true) (hr : (Region.ready md ops listed).contains i = true) (hx : waitsB md ops X i = true)
    (hQ : ∀ c a w, Q (.panic c) (a.put oi.dst v) w → Q (.panic c) a w) (hg : oi.guard = none) (hy : ∀ w, S w → (execOp a.eval oi).run P w = .ok (.value v) w) (hS : S w)
    (h : wpAnyX P md ops Q S X fuel (listed.setIfInBounds i true) (a.put oi.dst v) w) : wpAnyX P md ops Q S X (fuel + 1) listed a w :=
  wpAnyX_first hi (Region.noSelect_spec hs) hQ (waits_spec hx) fuel listed a w (Region.free_spec hi hf) (by simpa using hr) (Or.inl ⟨by simp [Region.wanted, hg], hy⟩) hS h
/-- Only one may come up. -/
theorem wpAnyX_one {i : Nat} {o : Oper} {fuel : Nat} {listed : Array Bool} {a : Act} {w : World} (hr : Region.ready md ops listed = [i]) (ho : ops[i]? = some o) (hg : o.guard = none)
    (h : ∀ K : Act → World → Prop, Hid (∀ a' w', (i ≠ X → S w') → (S w' → wpAnyX P md ops Q S X fuel (listed.setIfInBounds i true) a' w') → K a' w') → o.wp P a w K Q) (hne : i ≠ X) : wpAnyX P md ops Q S X (fuel + 1) listed a w := by
  refine ⟨fun h0 => (by rw [hr] at h0; cases h0), fun j hj => ?_⟩
  rw [hr] at hj
  obtain rfl : j = i := by simpa using hj
  unfold wpOp
  simp only [ho]
  have hw : Region.wanted o (yielded ops a.tmps) = true := by simp [Region.wanted, hg]
  simp only [hw, if_true]
  exact Or.inl (h _ fun a' w' h1 h2 => ⟨h1, h2 (h1 hne)⟩)
/-- The last one. -/
theorem wpAnyX_last {o : Oper} {fuel : Nat} {listed : Array Bool} {a : Act} {w : World} (hr : Region.ready md ops listed = [X]) (ho : ops[X]? = some o) (hg : o.guard = none) (hd : Region.ready md ops (listed.setIfInBounds X true) = [])
    (h : ∀ K : Act → World → Prop, Hid (∀ a' w', Q .normal a' w' → K a' w') → o.wp P a w K Q) : wpAnyX P md ops Q S X (fuel + 1) listed a w := by
  refine ⟨fun h0 => (by rw [hr] at h0; cases h0), fun j hj => ?_⟩
  rw [hr] at hj
  obtain rfl : j = X := by simpa using hj
  unfold wpOp
  simp only [ho]
  have hw : Region.wanted o (yielded ops a.tmps) = true := by simp [Region.wanted, hg]
  simp only [hw, if_true]
  refine Or.inl (h _ fun a' w' h1 => ⟨fun h2 => absurd rfl h2, ?_⟩)
  cases fuel with
  | zero => exact ⟨hd, h1⟩
  | succ fuel => exact ⟨fun _ => h1, by rw [hd]; simp⟩
theorem wp_region_x (S : World → Prop) (X : Nat) {id : Nat} {a : Act} {w : World} (hm : P.follows .mixedOrders = true)
    (h : wpAnyX P .any ops Q S X ops.size (Array.replicate ops.size false) a w.drew) : (Code.region id ops true).wp P Q a w :=
  wp_region_any hm (wpAny_of_x _ _ _ _ h)
end
end Go.Proofs.Ytdlckjjfbobmpaa
namespace Go.Proofs.Ytdlckjjfbobmpaa
open Go.RowKit Go.Maps

/-- What is appended to a row that has room for it. -/
theorem run_append_in {P : Program} (w : World) (t ty e : TypeId) (i : TypeInfo) (ht : P.underlying t = some (.slice e)) (hi : P.info? e = some i)
    (g sLen sCap : Nat) (cur : Array Value) (hg : w.heap[g]? = some (.cells cur e (0, 0)))
    (a : Addr) (m c : Nat) (news : List Value) (hl : news.length = m * i.size) (hnews : ∀ j u, news[j]? = some u → w.cell? (a.add j) = some u) (h1 : ∀ u ∈ news, u.oneCell' = true)
    (hroom : sLen + m ≤ sCap) (hfit : sLen * i.size + news.length ≤ cur.size) :
    (Builtin.append_ #[t, t] ty #[.slice (some ⟨g, 0, none⟩) sLen sCap, .slice (some a) m c]).run P w =
      .ok (.slice (some ⟨g, 0, none⟩) (sLen + m) sCap) (w.setRow g (cur.toList.take (sLen * i.size) ++ news ++ cur.toList.drop (sLen * i.size + news.length)).toArray) := by
  have hf := run_firstCells_some (P := P) w i.size m a m c news hl hnews
  have hst := run_storeCells_at P g (sLen * i.size) e news 0 cur w hg (by simpa using hfit) h1
  simp only [Nat.add_zero] at hst
  simp [Builtin.append_, run_underlying ht, sizeOf, typeInfo, hi, Builtin.lenOf, hroom, hf, Addr.add_lit, hst]
theorem infoTermG : (Try.prog.info? 32).map (fun i => (i.zero, i.size, i.bytes)) = some (some (.agg #[.int .i64 0, .int .i64 0, .string ⟨#[]⟩, .slice none 0 0]), 4, 56) := by kernel_rfl
theorem zeroTerm (w : World) : (zeroValue 32).run Try.prog w = .ok (.agg #[.int .i64 0, .int .i64 0, .string ⟨#[]⟩, .slice none 0 0]) w := by kernel_rfl
def zero4 : List Value := [.int .i64 0, .int .i64 0, .string ⟨#[]⟩, .slice none 0 0]
/-- One element of a row is cleared. -/
theorem run_clear_one (w : World) (ty : TypeId) (g o c : Nat) (cur : Array Value) (hg : w.heap[g]? = some (.cells cur 32 (0, 0))) (hfit : o + 4 ≤ cur.size) :
    (Builtin.clear_ #[29] ty #[.slice (some ⟨g, o, none⟩) 1 c]).run Try.prog w = .ok (.tuple #[]) (w.setRow g (cur.toList.take o ++ zero4 ++ cur.toList.drop (o + 4)).toArray) := by
  have hst := run_storeCells_at Try.prog g o 32 zero4 0 cur w hg (by simpa [zero4] using hfit) (by simp [zero4, Value.oneCell'])
  have hz : (Builtin.zeroCells (Value.agg #[.int .i64 0, .int .i64 0, .string ⟨#[]⟩, .slice none 0 0]).cells 1).toList = zero4 := by
    simp [Builtin.zeroCells, Value.cells, zero4]
    rfl
  simp only [Nat.add_zero] at hst
  have hl : zero4.length = 4 := rfl
  rw [hl] at hst
  simp [Builtin.clear_, run_underlying Try.underlying29, hz, hst]

theorem slice_lo (w : World) (g L c : Nat) (h : L ≤ c) (h1 : 1 ≤ L) : (Instr.slice 29 (.slice (some ⟨g, 0, none⟩) L c) (some (.int .i64 0)) (some (.int .i64 1)) (some (.int .i64 L))).run Try.prog w = .ok (.slice (some ⟨g, 0, none⟩) 1 L) w := by
  have e2 : (1 : Int) ≤ (L : Int) := by omega
  simp [Instr.slice, run_underlying Try.underlying29, Instr.sliceBounds, Instr.sliceBound, asIntOf, e2, h, go_sem]
theorem slice_none (w : World) (g L c : Nat) : (Instr.slice 29 (.slice (some ⟨g, 0, none⟩) L c) none (some (.int .i64 0)) none).run Try.prog w = .ok (.slice (some ⟨g, 0, none⟩) 0 c) w := by
  simp [Instr.slice, run_underlying Try.underlying29, Instr.sliceBounds, Instr.sliceBound, asIntOf, go_sem]
theorem slice_rest (w : World) (g L c : Nat) (h : L ≤ c) (h1 : 2 ≤ L) : (Instr.slice 29 (.slice (some ⟨g, 0, none⟩) L c) (some (.int .i64 1)) none none).run Try.prog w = .ok (.slice (some ⟨g, 4, none⟩) (L - 1) (c - 1)) w := by
  have e2 : (1 : Int) ≤ (L : Int) := by omega
  have e3 : ¬ c = 1 := by omega
  simp [Instr.slice, run_underlying Try.underlying29, Instr.sliceBounds, Instr.sliceBound, asIntOf, e2, e3, go_sem, Addr.add_lit]
theorem slice_last (w : World) (g m c : Nat) (h : m + 1 ≤ c) : (Instr.slice 29 (.slice (some ⟨g, 0, none⟩) m c) (some (.int .i64 m)) (some (.int .i64 ((m : Int) + 1))) none).run Try.prog w = .ok (.slice (some ⟨g, m * 4, none⟩) 1 (c - m)) w := by
  have e2 : ¬ c = m := by omega
  have e3 : (m : Int) + 1 ≤ (c : Int) := by omega
  have e4 : (0 : Int) ≤ (m : Int) + 1 := by omega
  simp [Instr.slice, run_underlying Try.underlying29, Instr.sliceBounds, Instr.sliceBound, asIntOf, e2, e3, e4, go_sem, Addr.add_lit]
theorem step_append_run {w w' : World} {v x' v' : Value} {ops : Array Oper} {o : Oper} {a : Act} {K : Act → World → Prop} {Q : Exit → Act → World → Prop} {E : Prop} (hgd : o.guard = none) (s x : Operand) (ho : o.op = .call { callee := .builtin .append, args := #[s, x], argTypes := #[29, 29] })
    (hs : a.eval s = v) (hx : a.eval x = x') (hr : (Builtin.append_ #[29, 29] o.type #[v, x']).run Try.prog w = .ok v' w') (hK : K (a.put o.dst v') w') : if Region.wanted o (yielded ops a.tmps) = true then Oper.wp Try.prog o a w K Q else E := by
  have hw : Region.wanted o (yielded ops a.tmps) = true := by simp [Region.wanted, hgd]
  rw [if_pos hw]
  unfold Oper.wp execOp
  simp only [ho, resolve, invoke, builtin, Sem.run_bind, Sem.run_pure, Result.andThen_ok, List.map_toArray, List.map_cons, List.map_nil, hs, hx, hr]
  exact hK
theorem cell_row {w : World} {g : Nat} {cur : Array Value} {e : TypeId} (h : w.heap[g]? = some (.cells cur e (0, 0))) (j : Nat) : w.cell? ⟨g, j, none⟩ = cur.toList[j]? := by
  simp [World.cell?, h]
end Go.Proofs.Ytdlckjjfbobmpaa
namespace Go.Proofs.Ytdlckjjfbobmpaa
open Go.RowKit

theorem infoPtr : (Try.prog.info? 39).map (fun i => (i.zero, i.size, i.bytes)) = some (some (.pointer none), 1, 8) := by kernel_rfl
def FGrown (n : Nat) : Prop := ∀ (x : Tm n) (v : Wd) (ws : List Wd) (nm : List ByteArray) (B : Nat) (w : World), In B w n x → B ≤ w.heap.size → Stands ws nm n x v → RightA ⟨n, x⟩ → (plc ws n v).Nodup →
  Calls Try.prog 10 #[val n x] w fun e w' => ∃ k : Option Nat, e = .returned (.pointer (k.map fun b => ⟨b, 0, none⟩)) ∧ Hid (Grown ws n v k w w')
set_option maxRecDepth 100000 in
theorem grown_else (k0 u0 : Int) (s : ByteArray) (a : Option Addr) (len pc : Nat) (w : World) (h : ¬ k0 = 4) :
    Calls Try.prog 10 #[.agg #[.int .i64 k0, .int .i64 u0, .string s, .slice a len pc]] w fun e w' => e = .returned (.pointer none) ∧ Below w.heap.size w w' := by
  go_enter Try.func10, Try.ntmps10
  have HB : Hid (∀ o, Below w.heap.size w (w.alloc o)) := fun o => (Below.refl _ _).alloc (Nat.le_refl _) o
  go_wp2_with fail
  go_ret
  exact ⟨rfl, HB.out _⟩
set_option maxRecDepth 100000 in
set_option maxHeartbeats 4000000 in
theorem grown_tup (n : Nat) (ih : FGrown n) (ws : List Wd) (nm : List ByteArray) (us : List Wd) (ps : List (Tm n)) (u0 : Int) (s : ByteArray) (a : Option Addr) (len pc B : Nat) (w : World) (hB : B ≤ w.heap.size) (HP : Hid (Lies B w n ps a)) (HL : Hid (ps.length = len ∧ us.length = len)) (h8 : len ≤ 8) (HS : Hid (StandL ws nm n us ps ∧ (∀ y ∈ ps, RightA ⟨n, y⟩) ∧ (us.flatMap (plc ws n)).Nodup)) :
    Calls Try.prog 10 #[.agg #[.int .i64 4, .int .i64 u0, .string s, .slice a len pc]] w fun e w' => e = .returned (.pointer (some ⟨w.heap.size + 1, 0, none⟩)) ∧ Hid (Below w.heap.size w w' ∧ ∃ ka kc, GrS ws n w.heap.size (w.heap.size + 1) len us len ka kc w') := by
  obtain ⟨it, hit, htz0, htz1, htz2⟩ := info_parts infoPtr
  have HIT := hide (⟨hit, htz0, htz1, htz2⟩ : _ ∧ _ ∧ _ ∧ _)
  clear hit htz0 htz1 htz2
  have h8' : (len : Int) ≤ 8 := by omega
  have HW1 : Hid (∃ w1, w1 = (w.alloc (.cells #[.int .i64 4, .int .i64 u0, .string s, .slice a len pc] 32)).alloc (.cells #[.int .i64 (1 + (len : Int)), .slice none 0 0] 47) ∧ Below w.heap.size w w1 ∧ w1.heap[w.heap.size]? = some (.cells #[.int .i64 4, .int .i64 u0, .string s, .slice a len pc] 32) ∧ w1.heap[w.heap.size + 1]? = some (.cells #[.int .i64 (1 + (len : Int)), .slice none 0 0] 47)) := by
    refine ⟨_, rfl, ((Below.refl _ _).alloc (Nat.le_refl _) _).alloc (by simp) _, ?_, ?_⟩
    · exact (heap_alloc_old _ _ (by simp)).trans (heap_alloc_new w _)
    · have h := heap_alloc_new (w.alloc (.cells #[.int .i64 4, .int .i64 u0, .string s, .slice a len pc] 32)) (.cells #[.int .i64 (1 + (len : Int)), .slice none 0 0] 47)
      rwa [World.size_alloc] at h
  go_enter Try.func10, Try.ntmps10
  go_upto_region 4 with fail
  obtain ⟨w1, hw1, hb1, hx1, hn1⟩ := HW1.out
  rw [← hw1]
  have x3 := cell_row hx1 3
  simp only [List.getElem?_cons_zero, List.getElem?_cons_succ] at x3
  have HST : Hid (Below w.heap.size w w1 ∧ GrS ws n w.heap.size (w.heap.size + 1) len us 0 none 0 w1) := ⟨hb1, GrS.start hn1⟩
  clear hw1 hb1 hx1 hn1 HW1
  go_wp2_with fail
  clear x3
  go_loopw [18] (fun i wr => ∃ (j : Nat) (ka : Option Addr) (kc : Nat), j ≤ len ∧ i = .int .i64 j ∧ Hid (Below w.heap.size w wr ∧ GrS ws n w.heap.size (w.heap.size + 1) len us j ka kc wr)) (fun i _ => len - (intOf i).toNat)
  case atStart => exact ⟨0, none, 0, Nat.zero_le _, rfl, HST.out⟩
  case round =>
    obtain ⟨j, ka, kc, hj, rfl, HR⟩ := hrel
    by_cases hlt : j < len
    rotate_left
    · obtain rfl : j = len := by omega
      clear HST
      go_wp2_with fail
      go_ret
      exact ⟨rfl, HR.out.1, ka, kc, HR.out.2⟩
    · obtain ⟨y, hy⟩ : ∃ y, ps[j]? = some y := ⟨ps[j]'(by rw [HL.out.1]; exact hlt), List.getElem?_eq_getElem _⟩
      obtain ⟨v, hv⟩ : ∃ v, us[j]? = some v := ⟨us[j]'(by rw [HL.out.2]; exact hlt), List.getElem?_eq_getElem _⟩
      obtain ⟨pb, po, rfl, hpb, hyc⟩ : ∃ b o, a = some ⟨b, o, none⟩ ∧ b < B ∧ Held w b (o + j * 4) n y ∧ In B w n y := by
        rcases HP.out with e | ⟨b, o, e, hb, h⟩
        · rw [e] at hy
          simp at hy
        · exact ⟨b, o, e, hb, h j y hy⟩
      cases n with
      | zero => exact hyc.2.elim
      | succ n =>
      obtain ⟨y0, y1, y2, y3⟩ := hyc.1.below (HR.out.1.mono hB) hpb
      have HV := hide hv
      have HY : Hid (In B w (n + 1) y ∧ Stands ws nm (n + 1) y v ∧ RightA ⟨n + 1, y⟩ ∧ (plc ws (n + 1) v).Nodup) := by
        refine ⟨hyc.2, HS.out.1.2 j v y hv hy, HS.out.2.1 y (List.mem_of_getElem? hy), ?_⟩
        have hn := HS.out.2.2
        obtain ⟨l1, l2, rfl⟩ := List.append_of_mem (List.mem_of_getElem? hv)
        rw [List.flatMap_append, List.flatMap_cons, List.nodup_append] at hn
        exact (List.nodup_append.1 hn.2.1).1
      have k1 : (0 : Int) ≤ (j : Int) := by omega
      have k2 : (j : Int) < (len : Int) := by omega
      obtain ⟨ks, C, g1, g2, g3, g4, _⟩ := HR.out.2
      have HQ : Hid (wr.heap[w.heap.size + 1]? = some (.cells #[.int .i64 (1 + (len : Int)), .slice ka j kc] 47) ∧ ks.length = j ∧ wr.ownsRow w.heap.size 39 1 (.slice ka j kc) j (ks.map pv) ∧ (Value.slice ka j kc).ownBlock ≠ some (w.heap.size + 1)) := ⟨g1, g2, g3, g4⟩
      have HW2 : Hid (∃ w2 q, (w2 = wr.alloc (.cells #[.int .i64 y.1.1, .int .i64 y.1.2.1, .string y.1.2.2, .slice y.2.1.1 y.2.2.length y.2.1.2] 32) ∧ q = wr.heap.size) ∧ Below wr.heap.size wr w2 ∧ w2.heap[q]? = some (.cells #[.int .i64 y.1.1, .int .i64 y.1.2.1, .string y.1.2.2, .slice y.2.1.1 y.2.2.length y.2.1.2] 32) ∧ wr.heap.size ≤ q) := ⟨_, _, ⟨rfl, rfl⟩, (Below.refl _ _).alloc (Nat.le_refl _) _, heap_alloc_new _ _, Nat.le_refl _⟩
      clear g1 g2 g3 g4 hyc hy hv HST
      go_upto_region 7 with fail
      obtain ⟨w2, q, ⟨hw2, hq⟩, hb2, hc2, hq2⟩ := HW2.out
      rw [← hw2, ← hq]
      have HB2 := hide hb2
      have HK : Hid (∀ W, Below w2.heap.size w2 W → W.cell? ⟨w.heap.size + 1, 1, none⟩ = some (.slice ka j kc) ∧ W.cell? ⟨q, 0, none⟩ = some (.int .i64 y.1.1) ∧ W.cell? ⟨q, 1, none⟩ = some (.int .i64 y.1.2.1) ∧ W.cell? ⟨q, 2, none⟩ = some (.string y.1.2.2) ∧ W.cell? ⟨q, 3, none⟩ = some (.slice y.2.1.1 y.2.2.length y.2.1.2)) := fun W hW => by
        have h1 := hb2.trans (hW.mono hb2.size)
        have hn := (h1.block _ (Array.getElem?_eq_some_iff.1 HQ.out.1).1).trans HQ.out.1
        have hx := (hW.block q (Array.getElem?_eq_some_iff.1 hc2).1).trans hc2
        exact ⟨cell_row hn 1, cell_row hx 0, cell_row hx 1, cell_row hx 2, cell_row hx 3⟩
      have HQ2 : Hid (wr.heap.size ≤ q ∧ q < w2.heap.size) := ⟨hq2, (Array.getElem?_eq_some_iff.1 hc2).1⟩
      clear hw2 hq hb2 hc2 hq2 HW2 y0 y1 y2 y3
      have HD : Hid (Below w2.heap.size w2 w2.drew) := (Below.refl _ _).drew
      have HWR : Hid (Below w.heap.size w w2.drew) := HR.out.1.trans ((HB2.out.trans (HD.out.mono HB2.out.size)).mono HR.out.1.size)
      have HCA : Hid (Calls Try.prog 10 #[.agg #[.int .i64 y.1.1, .int .i64 y.1.2.1, .string y.1.2.2, .slice y.2.1.1 y.2.2.length y.2.1.2]] w2.drew fun e w' => ∃ k : Option Nat, e = .returned (.pointer (k.map fun b => ⟨b, 0, none⟩)) ∧ Hid (Grown ws (n + 1) v k w2.drew w')) := ih y v ws nm w2.drew.heap.size w2.drew ((HY.out.1.below (HWR.out.mono hB)).mono (Nat.le_trans hB HWR.out.size)) (Nat.le_refl _) HY.out.2.1 HY.out.2.2.1 HY.out.2.2.2
      have hS0 := HK.out w2.drew HD.out
      obtain ⟨e0, e1, e2, e3, e4⟩ := HK.out w2 (Below.refl _ _)
      refine wp_region_noPanic ?_
      refine wp_region_x (fun W => W.cell? ⟨w.heap.size + 1, 1, none⟩ = some (.slice ka j kc) ∧ W.cell? ⟨q, 0, none⟩ = some (.int .i64 y.1.1) ∧ W.cell? ⟨q, 1, none⟩ = some (.int .i64 y.1.2.1) ∧ W.cell? ⟨q, 2, none⟩ = some (.string y.1.2.2) ∧ W.cell? ⟨q, 3, none⟩ = some (.slice y.2.1.1 y.2.2.length y.2.1.2)) 11 (by kernel_rfl) ?_
      try simp only [List.size_toArray]
      refine wpAnyX_take (i := 0) (v := ?_) rfl (by kernel_rfl) (by kernel_rfl) (by kernel_rfl) (by kernel_rfl) (fun _ _ _ h => h) rfl ?_ hS0 ?_
      rotate_left
      · intro w' hw'
        try dsimp only at hw'
        go_simp
        try with_reducible rfl
      try simp only [Act.put, List.setIfInBounds_toArray]
      refine wpAnyX_take (i := 1) (v := ?_) rfl (by kernel_rfl) (by kernel_rfl) (by kernel_rfl) (by kernel_rfl) (fun _ _ _ h => h) rfl ?_ hS0 ?_
      rotate_left
      · intro w' hw'
        try dsimp only at hw'
        go_simp
        try with_reducible rfl
      try simp only [Act.put]
      refine wpAnyX_take (i := 2) (v := ?_) rfl (by kernel_rfl) (by kernel_rfl) (by kernel_rfl) (by kernel_rfl) (fun _ _ _ h => h) rfl ?_ hS0 ?_
      rotate_left
      · intro w' hw'
        try dsimp only at hw'
        go_simp
        try with_reducible rfl
      try simp only [Act.put]
      refine wpAnyX_take (i := 3) (v := ?_) rfl (by kernel_rfl) (by kernel_rfl) (by kernel_rfl) (by kernel_rfl) (fun _ _ _ h => h) rfl ?_ hS0 ?_
      rotate_left
      · intro w' hw'
        try dsimp only at hw'
        go_simp
        try with_reducible rfl
      try simp only [Act.put]
      refine wpAnyX_take (i := 4) (v := ?_) rfl (by kernel_rfl) (by kernel_rfl) (by kernel_rfl) (by kernel_rfl) (fun _ _ _ h => h) rfl ?_ hS0 ?_
      rotate_left
      · intro w' hw'
        try dsimp only at hw'
        go_simp
        try with_reducible rfl
      try simp only [Act.put]
      refine wpAnyX_take (i := 5) (v := ?_) rfl (by kernel_rfl) (by kernel_rfl) (by kernel_rfl) (by kernel_rfl) (fun _ _ _ h => h) rfl ?_ hS0 ?_
      rotate_left
      · intro w' hw'
        try dsimp only at hw'
        go_simp
        try with_reducible rfl
      try simp only [Act.put]
      refine wpAnyX_one (i := 6) (by kernel_rfl) rfl rfl (fun K hK => ?_) (by decide)
      go_simp
      refine HCA.out.mono ?_
      rintro e w6 ⟨k, rfl, H6⟩
      have HB6 := hide (HD.out.trans (H6.out.1.mono HD.out.size))
      have hS6 := HK.out w6 HB6.out
      refine hK.out _ _ (fun _ => hS6) (fun _ => ?_)
      clear hK K
      obtain ⟨kp, hkp⟩ : ∃ kp : Option Addr, kp = k.map fun b => ⟨b, 0, none⟩ := ⟨_, rfl⟩
      rw [← hkp]
      have HKP : Hid (pv k = .pointer kp) := by rw [hkp]; rfl
      clear hkp
      try simp only [Act.put, List.setIfInBounds_toArray, List.set_cons_zero, List.set_cons_succ]
      have HB1 : Hid (Below w6.heap.size w6 (w6.alloc (.cells #[.pointer kp] 39))) := (Below.refl _ _).alloc (Nat.le_refl _) _
      have HS1 := hide (HK.out _ (HB6.out.trans (HB1.out.mono HB6.out.size)))
      have HBR : Hid (Below wr.heap.size wr w6) := HB2.out.trans (HB6.out.mono HB2.out.size)
      have HO1 : Hid ((w6.alloc (.cells #[.pointer kp] 39)).ownsRow w.heap.size 39 1 (.slice ka j kc) j (ks.map pv)) := row_kee HQ.out.2.2.1 (kee_below (HBR.out.trans (HB1.out.mono HBR.out.size)) fun _ => False) fun _ _ h => h
      have HNB : Hid ((w6.alloc (.cells #[.pointer kp] 39)).heap[w6.heap.size]? = some (.cells #[.pointer kp] 39)) := heap_alloc_new w6 _
      have HZ : Hid (w.heap.size ≤ w6.heap.size ∧ (w6.alloc (.cells #[.pointer kp] 39)).heap.size = w6.heap.size + 1) := ⟨Nat.le_trans HR.out.1.size HBR.out.size, by simp⟩
      refine wpAnyX_one (i := 7) (by kernel_rfl) rfl rfl (fun K hK => ?_) (by decide)
      go_simp
      refine hK.out _ _ (fun _ => HS1.out) (fun hS1 => ?_)
      clear hK K
      try simp only [Act.put, List.setIfInBounds_toArray, List.set_cons_zero, List.set_cons_succ]
      refine wpAnyX_one (i := 8) (by kernel_rfl) rfl rfl (fun K hK => ?_) (by decide)
      refine wp_append_lies _ _ _ 30 rfl w.heap.size 39 it _ 1 8 Try.underlying30 HIT.out.1 HIT.out.2.1 HIT.out.2.2.1 HIT.out.2.2.2 rfl (by decide) (.slice ka j kc) j (ks.map pv) rfl HO1.out ⟨w6.heap.size, 0, none⟩ 1 1 [.pointer kp] rfl rfl (World.news_of_block (cs := #[.pointer kp]) (t := 39) (fr := (0, 0)) HNB.out) (by simp [Value.oneCell']) (by decide) (by unfold maxLen; omega) (by omega) (by have := HZ.out; omega) _ rfl ?_
      intro g7 c7 w7 hown7 hgrow7 hat7 hlt7
      have HRL : Hid (∀ b, (Value.slice ka j kc).ownBlock = some b → b < wr.heap.size) := fun b hb => (HQ.out.2.2.1.lt b hb).2
      have HS7 : Hid (w7.heap[w.heap.size + 1]? = wr.heap[w.heap.size + 1]? ∧ w7.heap[q]? = (w6.alloc (.cells #[.pointer kp] 39)).heap[q]?) := by
        have z := HZ.out
        have s1 := HBR.out.size
        have s2 := HB6.out.size
        have hq := HQ2.out
        have hn := (Array.getElem?_eq_some_iff.1 HQ.out.1).1
        refine ⟨(hgrow7.block _ (by omega) fun e => HQ.out.2.2.2 e.symm).trans ((HBR.out.trans (HB1.out.mono s1)).block _ hn), hgrow7.block q (by omega) fun e => ?_⟩
        have := HRL.out q e.symm
        omega
      have HC7 : Hid (w7.cell? ⟨w.heap.size + 1, 1, none⟩ = some (.slice ka j kc) ∧ w7.cell? ⟨q, 0, none⟩ = some (.int .i64 y.1.1) ∧ w7.cell? ⟨q, 1, none⟩ = some (.int .i64 y.1.2.1) ∧ w7.cell? ⟨q, 2, none⟩ = some (.string y.1.2.2) ∧ w7.cell? ⟨q, 3, none⟩ = some (.slice y.2.1.1 y.2.2.length y.2.1.2)) := by
        obtain ⟨z0, z1, z2, z3, z4⟩ := HS1.out
        have hn := HS7.out.1.trans HQ.out.1
        have hcc : ∀ j, w7.cell? ⟨q, j, none⟩ = (w6.alloc (.cells #[.pointer kp] 39)).cell? ⟨q, j, none⟩ := fun j => by
          unfold World.cell?
          rw [HS7.out.2]
        exact ⟨cell_row hn 1, (hcc 0).trans z1, (hcc 1).trans z2, (hcc 2).trans z3, (hcc 3).trans z4⟩
      have HG7 : Hid (Below w.heap.size w (w7.setCell ⟨w.heap.size + 1, 1, none⟩ (.slice (some ⟨g7, 0, none⟩) (j + 1) c7)) ∧ GrS ws (n + 1) w.heap.size (w.heap.size + 1) len us (j + 1) (some ⟨g7, 0, none⟩) c7 (w7.setCell ⟨w.heap.size + 1, 1, none⟩ (.slice (some ⟨g7, 0, none⟩) (j + 1) c7))) := by
        have z := HZ.out
        refine ⟨?_, HR.out.2.next (by omega) HV.out HS.out.2.2 (HB2.out.trans (HD.out.mono HB2.out.size)) H6.out HB1.out hgrow7 (hat7.imp id fun e => by omega) fun ks' hk' => ?_⟩
        · have hk : Kee (fun b => w.heap.size ≤ b) w (w7.setCell ⟨w.heap.size + 1, 1, none⟩ (.slice (some ⟨g7, 0, none⟩) (j + 1) c7)) := (Kee.trans (kee_below (HR.out.1.trans ((HBR.out.trans (HB1.out.mono HBR.out.size)).mono HR.out.1.size)) _) (kee_grown hgrow7) fun b hb e => by
            have := (HQ.out.2.2.1.lt b e).1
            omega).trans (kee_set w7 (w.heap.size + 1) 1 _) fun b hb e => by omega
          exact hk.below (Nat.le_refl _) fun b hb hn => by omega
        · have hks : ks'.map pv = ks.map pv := by
            have h1 := hk'.2
            have h2 := HQ.out.2.2.1.2
            rcases h1 with ⟨e1, e2⟩ | ⟨ga, ca, cu, e1, _, e3, _, _, _, e4⟩
            · have l1 := hk'.1
              have l2 := HQ.out.2.2.1.1
              rw [List.eq_nil_of_length_eq_zero (l := ks'.map pv) (by omega), List.eq_nil_of_length_eq_zero (l := ks.map pv) (by omega)]
            · rcases h2 with ⟨f1, f2⟩ | ⟨gb, cb, cv, f1, _, f3, _, _, _, f4⟩
              · rw [f1] at e1
                cases e1
              · rw [e1] at f1
                injection f1 with f1 _ _
                injection f1 with f1
                injection f1 with f1
                subst f1
                rw [e3] at f3
                injection f3 with f3
                injection f3 with f3
                subst f3
                rw [← e4, ← f4]
          rw [hks, HKP.out]
          exact hown7
      clear hown7 hgrow7 hat7 hlt7
      refine hK.out _ _ (fun _ => HC7.out) (fun hS3 => ?_)
      clear hK K
      try simp only [Act.put, List.setIfInBounds_toArray]
      refine wpAnyX_one (i := 9) (by kernel_rfl) rfl rfl (fun K hK => ?_) (by decide)
      go_simp
      refine hK.out _ _ (fun _ => hS3) (fun _ => ?_)
      clear hK K
      try simp only [Act.put, List.setIfInBounds_toArray, List.set_cons_zero, List.set_cons_succ]
      refine wpAnyX_take (i := 10) (v := ?_) rfl (by kernel_rfl) (by kernel_rfl) (by kernel_rfl) (by kernel_rfl) (fun _ _ _ h => h) rfl ?_ hS3 ?_
      rotate_left
      · intro w' hw'
        try dsimp only at hw'
        go_simp
        try with_reducible rfl
      try simp only [Act.put, List.setIfInBounds_toArray]
      have cf : w7.frozen? ⟨w.heap.size + 1, 1, none⟩ = false := by
        have h := HS7.out.1.trans HQ.out.1
        simp [World.frozen?, h]
      have cc := HC7.out.1
      refine wpAnyX_last (by kernel_rfl) rfl rfl (by kernel_rfl) (fun K hK => ?_)
      go_simp
      refine hK.out _ _ (NoPanic.normal ?_)
      clear hK K hS0 hS6 hS1 hS3
      try simp only [Act.put, List.setIfInBounds_toArray, List.set_cons_zero, List.set_cons_succ]
      go_wp2_with fail
      go_roundw
      case rel => exact ⟨j + 1, some ⟨g7, 0, none⟩, c7, by omega, by go_num, HG7.out⟩
      case measure => simp [intOf]; omega
theorem grown_any (n : Nat) : FGrown n := by
  induction n with
  | zero => intro x v ws nm B w hx; exact hx.elim
  | succ n ih =>
    intro x v ws nm B w hx hB hs hr hnd
    obtain ⟨⟨k0, u0, s⟩, ⟨a, pc⟩, ps⟩ := x
    have hg := hr (hdOf n ((k0, u0, s), (a, pc), ps)) (by simp [nodes, hdOf])
    have hlen : ps.length ≤ 8 := good_len (hdOf n ((k0, u0, s), (a, pc), ps)) hg
    by_cases h4 : k0 = 4
    · subst h4
      obtain ⟨p, rfl, hp, hl, hst⟩ := tuple_parts hs rfl
      simp only at hp hl hst
      rw [plc_tup hp] at hnd
      have hul : (partsOf ws p ps.length).length = ps.length := partsOf_length hl
      refine (grown_tup n ih ws nm (partsOf ws p ps.length) ps u0 s a ps.length pc B w hB (show Lies B w n ps a from hx.2) (show _ ∧ _ from ⟨rfl, hul⟩) hlen (show _ ∧ _ ∧ _ from ⟨hst, fun y hy => parts_right n ((4, u0, s), (a, pc), ps) y hr hy, (List.nodup_cons.1 hnd).2⟩)).mono ?_
      rintro e w' ⟨rfl, H⟩
      obtain ⟨hb, ka, kc, hG⟩ := H.out
      refine ⟨some (w.heap.size + 1), rfl, ?_⟩
      have e1 : (partsOf ws p ps.length).length = ps.length := hul
      generalize hus : partsOf ws p ps.length = us at *
      rw [← e1] at hG hp hl hus
      exact GrS.ends hG hb (Nat.le_refl _) (by omega) hp hl hus.symm (by omega) (List.nodup_cons.1 hnd).1
    · refine (grown_else k0 u0 s a ps.length pc w h4).mono ?_
      rintro e w' ⟨rfl, hb⟩
      have hv := leaf_not4 hs h4
      exact ⟨none, rfl, hb, [], cor_nil _ _, ⟨fun e => absurd e hv, fun _ => rfl⟩, by rw [plc_leaf hv]; rfl⟩
end Go.Proofs.Ytdlckjjfbobmpaa
namespace Go.Proofs.Ytdlckjjfbobmpaa
open Go.RowKit

theorem run_append_offN {P : Program} (w : World) (t ty e : TypeId) (i : TypeInfo) (ht : P.underlying t = some (.slice e)) (hi : P.info? e = some i)
    (g mo sLen sCap : Nat) (cur : Array Value) (hg : w.heap[g]? = some (.cells cur e (0, 0)))
    (a : Addr) (m c : Nat) (news : List Value) (hl : news.length = m * i.size) (hnews : ∀ j u, news[j]? = some u → w.cell? (a.add j) = some u) (h1 : ∀ u ∈ news, u.oneCell' = true)
    (hroom : sLen + m ≤ sCap) (hfit : mo + sLen * i.size + news.length ≤ cur.size) :
    (Builtin.append_ #[t, t] ty #[.slice (some ⟨g, mo, none⟩) sLen sCap, .slice (some a) m c]).run P w =
      .ok (.slice (some ⟨g, mo, none⟩) (sLen + m) sCap) (w.setRow g (cur.toList.take (mo + sLen * i.size) ++ news ++ cur.toList.drop (mo + sLen * i.size + news.length)).toArray) := by
  have hf := run_firstCells_some (P := P) w i.size m a m c news hl hnews
  have hst := run_storeCells_at P g (mo + sLen * i.size) e news 0 cur w hg (by simpa using hfit) h1
  simp only [Nat.add_zero] at hst
  simp [Builtin.append_, run_underlying ht, sizeOf, typeInfo, hi, Builtin.lenOf, hroom, hf, Addr.add_lit, hst]
theorem setrow_keeN {S : Nat → Prop} (w : World) (g : Nat) (cs : Array Value) (h : ∀ b, b = g → S b) : Kee S w (w.setRow g cs) := ⟨rfl, rfl, rfl, by simp, fun _ _ hb => setRow_other _ _ _ _ fun e => hb (h _ e)⟩
def NRw (base : Nat) (v : Value) (l : List (Option Nat)) (w : World) : Prop :=
  (v = .slice none 0 0 ∧ l = []) ∨ ∃ (g o cap : Nat) (cur : Array Value), v = .slice (some ⟨g, o, none⟩) l.length cap ∧ base ≤ g ∧ w.heap[g]? = some (.cells cur 39 (0, 0)) ∧ l.length ≤ cap ∧ cap ≤ maxLen ∧ o + cap ≤ cur.size ∧ (cur.toList.drop o).take l.length = l.map pv
section
variable {base : Nat} {v : Value} {l : List (Option Nat)} {w : World}
theorem NRw.lt (h : NRw base v l w) (b : Nat) (hb : v.ownBlock = some b) : base ≤ b ∧ b < w.heap.size := by
  rcases h with ⟨rfl, _⟩ | ⟨g, o, cap, cur, rfl, h1, h2, _⟩
  · simp [Value.ownBlock] at hb
  · simp [Value.ownBlock] at hb
    subst hb
    exact ⟨h1, (Array.getElem?_eq_some_iff.1 h2).1⟩
theorem NRw.kee (h : NRw base v l w) {w' : World} {S : Nat → Prop} (k : Kee S w w') (hS : ∀ b, v.ownBlock = some b → ¬ S b) : NRw base v l w' := by
  rcases h with h | ⟨g, o, cap, cur, rfl, h1, h2, h3⟩
  · exact Or.inl h
  · exact Or.inr ⟨g, o, cap, cur, rfl, h1, (k.block g (Array.getElem?_eq_some_iff.1 h2).1 (hS g rfl)).trans h2, h3⟩
theorem NRw.len (h : NRw base v l w) : ∃ a c, v = .slice a l.length c := by
  rcases h with ⟨rfl, rfl⟩ | ⟨g, o, cap, cur, rfl, _⟩
  · exact ⟨none, 0, rfl⟩
  · exact ⟨_, _, rfl⟩
theorem NRw.of {n : Nat} {ks : List (Option Nat)} (h : w.ownsRow base 39 1 v n (ks.map pv)) : NRw base v ks w := by
  have hl := h.1
  rcases h.2 with ⟨e, e0⟩ | ⟨g, cap, cur, e, hg, hh, h1, h2, h3, h4⟩
  · refine Or.inl ⟨e, List.eq_nil_of_length_eq_zero ?_⟩
    simp at hl
    omega
  · have hn : ks.length = n := by simpa using hl
    subst hn
    exact Or.inr ⟨g, 0, cap, cur, e, hg, hh, h1, h2, by omega, by simpa using h4⟩
theorem trow_first {k : Option Nat} (h : NRw base v (k :: l) w) : ∃ g o cap, v = .slice (some ⟨g, o, none⟩) (l.length + 1) cap ∧ w.cell? ⟨g, o, none⟩ = some (pv k) := by
  rcases h with ⟨_, e⟩ | ⟨g, o, cap, cur, rfl, e2, e3, e4, e5, e6, e7⟩
  · cases e
  · refine ⟨g, o, cap, rfl, ?_⟩
    have h0 : ((cur.toList.drop o).take (k :: l).length)[0]? = some (pv k) := by rw [e7]; rfl
    rw [List.getElem?_take_of_lt (by simp), List.getElem?_drop] at h0
    rw [cell_row e3]
    simpa using h0
theorem trow_tail {k : Option Nat} {g o cap n : Nat} (h : NRw base (.slice (some ⟨g, o, none⟩) n cap) (k :: l) w) : (cap = 1 → l = [] ∧ NRw base (.slice (some ⟨g, o, none⟩) 0 0) l w) ∧ (cap ≠ 1 → NRw base (.slice (some ⟨g, o + 1, none⟩) l.length (cap - 1)) l w) := by
  rcases h with ⟨_, e⟩ | ⟨g', o', cap', cur, e, e2, e3, e4, e5, e6, e7⟩
  · cases e
  · injection e with e a1 a2
    injection e with e
    injection e with b1 b2
    subst b1 b2 a2
    simp only [List.length_cons] at e4 e7
    refine ⟨fun hc => ?_, fun hc => ?_⟩
    · subst hc
      have hl0 : l = [] := List.eq_nil_of_length_eq_zero (by omega)
      subst hl0
      exact ⟨rfl, Or.inr ⟨g, o, 0, cur, rfl, e2, e3, Nat.le_refl _, Nat.zero_le _, by omega, by simp⟩⟩
    · refine Or.inr ⟨g, o + 1, cap - 1, cur, rfl, e2, e3, by omega, by omega, by omega, ?_⟩
      rw [← List.drop_drop]
      have h1 : ((cur.toList.drop o).take (l.length + 1)).drop 1 = l.map pv := by
        rw [e7]
        rfl
      rw [← h1, List.drop_take]
      congr 1
theorem trow_app {ka : Option Addr} {m kc : Nat} {ks : List (Option Nat)} (h : NRw base v l w) (hb : base ≤ w.heap.size) (hk : ks.length = m) (hl : l.length + m ≤ 1000000000) (hc : ks = [] ∨ ∃ g o, ka = some ⟨g, o, none⟩ ∧ ∀ (i : Nat) (k : Option Nat), ks[i]? = some k → w.cell? ⟨g, o + i, none⟩ = some (pv k)) (ty : TypeId) :
    ∃ v' w', (Builtin.append_ #[30, 30] ty #[v, .slice ka m kc]).run Try.prog w = .ok v' w' ∧ NRw base v' (l ++ ks) w' ∧ Kee (fun b => v.ownBlock = some b) w w' ∧ ∀ b, v'.ownBlock = some b → v.ownBlock = some b ∨ w.heap.size ≤ b := by
  obtain ⟨it, hit, htz0, htz1, htz2⟩ := info_parts infoPtr
  have hone : ∀ u ∈ ks.map pv, u.oneCell' = true := fun u hu => by
    obtain ⟨k, _, rfl⟩ := List.mem_map.1 hu
    simp [pv, Value.oneCell']
  have hlk : (ks.map pv).length = m * it.size := by rw [List.length_map, hk, htz1]; omega
  have ell : (l ++ ks).length = l.length + m := by simp [hk]
  rcases hc with rfl | ⟨g', o', rfl, hc⟩
  · have hm : m = 0 := by simpa using hk.symm
    subst hm
    refine ⟨v, w, ?_, by simpa using h, Kee.refl _ _, fun b hb => Or.inl hb⟩
    rcases h with ⟨rfl, _⟩ | ⟨g, o, cap, cur, rfl, e2, e3, e4, e5, e6, e7⟩
    · cases ka <;> simp [Builtin.append_, run_underlying Try.underlying30, sizeOf, typeInfo, hit, Builtin.lenOf, Builtin.firstCells, loadCells, go_sem]
    · cases ka <;> simp [Builtin.append_, run_underlying Try.underlying30, sizeOf, typeInfo, hit, Builtin.lenOf, Builtin.firstCells, e4, loadCells, storeCells, go_sem]
  · have hnews : ∀ j u, (ks.map pv)[j]? = some u → w.cell? ((⟨g', o', none⟩ : Addr).add j) = some u := fun j u hj => by
      rw [List.getElem?_map] at hj
      obtain ⟨k, hk', rfl⟩ := Option.map_eq_some_iff.1 hj
      rw [Addr.add_lit]
      exact hc j k hk'
    have fresh : ∀ (V : Value) (us : List (Option Nat)) (C : Nat), us.length ≤ C → C ≤ maxLen → NRw base (.slice (some ⟨w.heap.size, 0, none⟩) us.length C) us (w.drew.alloc (.cells ((us.map pv).toArray ++ Builtin.zeroCells (Value.pointer none).cells (C - us.length)) 39)) ∧ Kee (fun b => V.ownBlock = some b) w (w.drew.alloc (.cells ((us.map pv).toArray ++ Builtin.zeroCells (Value.pointer none).cells (C - us.length)) 39)) := by
      intro V us C hC hC2
      have hn : (w.drew.alloc (.cells ((us.map pv).toArray ++ Builtin.zeroCells (Value.pointer none).cells (C - us.length)) 39)).heap[w.heap.size]? = some (.cells ((us.map pv).toArray ++ Builtin.zeroCells (Value.pointer none).cells (C - us.length)) 39) := heap_alloc_new w.drew _
      refine ⟨Or.inr ⟨w.heap.size, 0, C, _, rfl, hb, hn, hC, hC2, ?_, ?_⟩, ⟨rfl, rfl, rfl, ?_, fun b hl _ => Below.heap_alloc w.drew _ b hl⟩⟩
      · rw [Array.size_append, size_zeroCells, List.size_toArray, List.length_map]
        simp [Value.cells]
        omega
      · rw [List.drop_zero, Array.toList_append, List.take_append_of_le_length (by simp), List.toList_toArray, List.take_of_length_le (by simp)]
      · have := World.size_alloc w.drew (.cells ((us.map pv).toArray ++ Builtin.zeroCells (Value.pointer none).cells (C - us.length)) 39)
        have e : w.drew.heap.size = w.heap.size := rfl
        omega
    rcases h with ⟨rfl, rfl⟩ | ⟨g, o, cap, cur, rfl, e2, e3, e4, e5, e6, e7⟩
    · rcases Nat.eq_zero_or_pos m with hm | hm
      · subst hm
        obtain rfl : ks = [] := List.eq_nil_of_length_eq_zero hk
        refine ⟨.slice none 0 0, w, ?_, Or.inl ⟨rfl, rfl⟩, Kee.refl _ _, fun b hb => Or.inl hb⟩
        simp [Builtin.append_, run_underlying Try.underlying30, sizeOf, typeInfo, hit, Builtin.lenOf, Builtin.firstCells, loadCells, go_sem]
      · have hrun := run_append_nil (P := Try.prog) w 30 ty 39 it _ Try.underlying30 hit htz0 ⟨g', o', none⟩ m kc (ks.map pv) hlk hnews hm (by omega) (by rw [htz2]; omega)
        have hf := fresh (.slice none 0 0) ks (grownCap w m 0 39) (by rw [hk]; exact grownCap_ge w m 0 _) (grownCap_le_maxLen w m 0 _ (by unfold maxLen; omega))
        rw [hk] at hf
        exact ⟨_, _, hrun, hf.1, hf.2, fun b hb => Or.inr (by simp [Value.ownBlock] at hb; omega)⟩
    · by_cases hr : l.length + m ≤ cap
      · have hcl : cur.toList.length = cur.size := Array.length_toList
        have hfit : o + l.length * it.size + (ks.map pv).length ≤ cur.size := by rw [htz1, List.length_map, hk]; omega
        have hrun := run_append_offN (P := Try.prog) w 30 ty 39 it Try.underlying30 hit g o l.length cap cur e3 ⟨g', o', none⟩ m kc (ks.map pv) hlk hnews hone hr hfit
        refine ⟨_, _, hrun, Or.inr ⟨g, o, cap, _, by rw [ell], e2, setRow_heap w g cur _ _ _ e3, by rw [ell]; exact hr, e5, ?_, ?_⟩, setrow_keeN w g _ fun b e => by rw [e]; rfl, fun b hb => Or.inl hb⟩
        · rw [htz1] at hfit ⊢
          simp only [List.size_toArray, List.length_append, List.length_take, List.length_drop, hcl]
          omega
        · rw [htz1]
          have ht : (cur.toList.take (o + l.length * 1)).length = o + l.length * 1 := by
            rw [List.length_take, hcl]
            omega
          have hd : (cur.toList.take (o + l.length * 1)).drop o = l.map pv := by
            rw [List.drop_take, Nat.add_sub_cancel_left, Nat.mul_one]
            exact e7
          rw [List.map_append, ell, List.append_assoc, List.drop_append_of_le_length (by omega), hd]
          have e : l.length + m = (l.map pv).length + m := by simp
          rw [e, List.take_length_add_append, List.take_append_of_le_length (by simp [hk]), List.take_of_length_le (by simp [hk])]
      · have hcells : ∀ j u, (l.map pv)[j]? = some u → w.cell? ((⟨g, o, none⟩ : Addr).add j) = some u := fun j u hj => by
          rw [Addr.add_lit, cell_row e3, ← List.getElem?_drop]
          rw [← e7, List.getElem?_take] at hj
          split at hj
          · exact hj
          · cases hj
        have hrun := run_append_grow (P := Try.prog) w 30 ty 39 it _ Try.underlying30 hit htz0 ⟨g, o, none⟩ l.length cap (l.map pv) (by rw [List.length_map, htz1]; omega) hcells ⟨g', o', none⟩ m kc (ks.map pv) hlk hnews (by omega) (by omega) (growslice_fits (by omega) (by rw [htz2]; omega))
        have hf := fresh (.slice (some ⟨g, o, none⟩) l.length cap) (l ++ ks) (grownCap w (l.length + m) cap 39) (by have := grownCap_ge w (l.length + m) cap 39; omega) (grownCap_le_maxLen w _ _ _ (by unfold maxLen; omega))
        rw [ell, List.map_append, show (l.map pv ++ ks.map pv).toArray = (l.map pv).toArray ++ (ks.map pv).toArray by simp] at hf
        exact ⟨_, _, hrun, hf.1, hf.2, fun b hb => Or.inr (by simp [Value.ownBlock] at hb; omega)⟩
end
end Go.Proofs.Ytdlckjjfbobmpaa
