/- What is proved here: plain facts and contracts that the claimed theorem stands on, several texts in one: a law for a region that draws its order: loads may be taken first under a condition on the world that need not hold behind one last operation, which waits for them. No condition but that. the document's pairs: what Linked tells, what a delete leaves. No condition but that they lie in memory. the document's system as far as bonds go: how it lies in memory, what event and the deletes leave. No condition but that it lies in memory. what the document's End does: who ends, in which order, and which pairs are left. No condition but that the system lies in memory. -/
import Derived.Test.YtdfpjpmdldigdaaG01
import Derived.OrdersHeld
import Derived.Test.YtdfpjpmdldigdaaG06
namespace Go.Proofs.Ytdfpjpmdldigdaa
open Go.RowKit

section
variable {P : Program} {ops : Array Oper} {Q : Exit → Act → World → Prop} {md : Region.Mode} {S : World → Prop} {X : Nat}

/-- Whatever order is picked from here on; S holds behind every operation but X. -/
def wpAnyX (P : Program) (md : Region.Mode) (ops : Array Oper) (Q : Exit → Act → World → Prop) (S : World → Prop) (X : Nat) : Nat → Array Bool → Act → World → Prop
  | 0, listed, a, w => Region.ready md ops listed = [] ∧ Q .normal a w
  | fuel + 1, listed, a, w =>
    (Region.ready md ops listed = [] → Q .normal a w) ∧
    ∀ i ∈ Region.ready md ops listed, wpOp P ops Q i (fun a' w' => (i ≠ X → S w') ∧ wpAnyX P md ops Q S X fuel (listed.setIfInBounds i true) a' w') a w
theorem wpAny_of_x : ∀ (fuel : Nat) (listed : Array Bool) (a : Act) (w : World), wpAnyX P md ops Q S X fuel listed a w → wpAny P md ops Q fuel listed a w
  | 0, _, _, _, h => h
  | fuel + 1, _, _, _, h => ⟨h.1, fun i hi => wpOp_mono (fun a' w' h' => wpAny_of_x fuel _ a' w' h'.2) (h.2 i hi)⟩
theorem wpAnyX_first {i : Nat} {oi : Oper} {v : Value} (hi : ops[i]? = some oi) (hsel : ∀ (j : Nat) (o : Oper) cs b, ops[j]? = some o → o.op ≠ .select cs b)
    (hQ : ∀ c a w, Q (.panic c) (a.put oi.dst v) w → Q (.panic c) a w) (hX : ∀ oj, ops[X]? = some oj → ∃ e ∈ oj.after, Region.binds md e = true ∧ e.on = i) :
    ∀ (fuel : Nat) (listed : Array Bool) (a : Act) (w : World),
      (∀ j oj, ops[j]? = some oj → j ≠ i → listed.getD j true = false → (∀ e ∈ oj.after, Region.binds md e = true → e.on ≠ i) → oi.apart ops oj = true) →
      i ∈ Region.ready md ops listed → YieldsIf P ops S oi v a → S w →
      wpAnyX P md ops Q S X fuel (listed.setIfInBounds i true) (a.put oi.dst v) w → wpAnyX P md ops Q S X (fuel + 1) listed a w := by
  intro fuel
  induction fuel with
  | zero =>
    intro listed a w _ hr hy hS H
    refine ⟨fun h => (by rw [h] at hr; cases hr), fun j hj => ?_⟩
    by_cases hji : j = i
    · subst hji; exact hy.wpOp hi hS ⟨fun _ => hS, H⟩
    · have := ready_mono hj hji
      rw [H.1] at this
      cases this
  | succ fuel ih =>
    intro listed a w hfree hr hy hS H
    refine ⟨fun h => (by rw [h] at hr; cases hr), fun j hj => ?_⟩
    by_cases hji : j = i
    · subst hji; exact hy.wpOp hi hS ⟨fun _ => hS, H⟩
    · have h1 := H.2 j (ready_mono hj hji)
      obtain ⟨hjun, oj, hoj, hall⟩ := mem_ready.1 hj
      have hnot : ∀ e ∈ oj.after, Region.binds md e = true → e.on ≠ i := fun e he hb heq => by
        have h1 := hall e he hb
        have h0 := (mem_ready.1 hr).1
        rw [heq] at h1
        rcases Nat.lt_or_ge i listed.size with h' | h'
        · simp [h'] at h0 h1; rw [h0] at h1; cases h1
        · simp [Array.getElem?_eq_none h'] at h1
      have hne : j ≠ X := fun e => by
        obtain ⟨e1, he1, hb1, ho1⟩ := hX oj (by rw [← e]; exact hoj)
        exact hnot e1 he1 hb1 ho1
      have h2 := wpOp_putIf hoj (hfree j oj hoj hji hjun hnot) (fun cs b => hsel i oi cs b hi) (fun cs b => hsel j oj cs b hoj) hQ hy h1
      have hfree' : ∀ k ok, ops[k]? = some ok → k ≠ i → (listed.setIfInBounds j true).getD k true = false →
          (∀ e ∈ ok.after, Region.binds md e = true → e.on ≠ i) → oi.apart ops ok = true := fun k ok hk hki hun hno => by
        refine hfree k ok hk hki ?_ hno
        by_cases hjk : j = k
        · subst hjk; exact hjun
        · rw [getD_set_ne true hjk] at hun; exact hun
      refine wpOp_mono (fun a' w' h3 => ⟨fun _ => h3.2.1 hne, ih (listed.setIfInBounds j true) a' w' hfree' (ready_mono hr (Ne.symm hji)) h3.1 (h3.2.1 hne) ?_⟩) h2
      rw [Array.setIfInBounds_comm _ _ hji]
      exact h3.2.2
/-- Operation X waits for operation i. -/
def waitsB (md : Region.Mode) (ops : Array Oper) (X i : Nat) : Bool := ((ops[X]?).map fun o => o.after.any fun e => Region.binds md e && e.on == i).getD false
theorem waits_spec {i : Nat} (h : waitsB md ops X i = true) : ∀ oj, ops[X]? = some oj → ∃ e ∈ oj.after, Region.binds md e = true ∧ e.on = i := fun oj hj => by
  unfold waitsB at h
  rw [hj] at h
  simp only [Option.map_some, Option.getD_some, Array.any_eq_true] at h
  obtain ⟨k, hk, h⟩ := h
  simp only [Bool.and_eq_true, beq_iff_eq] at h
  exact ⟨_, Array.getElem_mem hk, h.1, h.2⟩
theorem wpAnyX_take {i : Nat} {oi : Oper} {v : Value} {fuel : Nat} {listed : Array Bool} {a : Act} {w : World} (hi : ops[i]? = some oi)
    (hs : Region.noSelect ops = true) (hf : Region.free md ops listed i = true) (hr : (Region.ready md ops listed).contains i = true) (hx : waitsB md ops X i = true)
    (hQ : ∀ c a w, Q (.panic c) (a.put oi.dst v) w → Q (.panic c) a w) (hg : oi.guard = none) (hy : ∀ w, S w → (execOp a.eval oi).run P w = .ok (.value v) w) (hS : S w)
    (h : wpAnyX P md ops Q S X fuel (listed.setIfInBounds i true) (a.put oi.dst v) w) : wpAnyX P md ops Q S X (fuel + 1) listed a w :=
  wpAnyX_first hi (Region.noSelect_spec hs) hQ (waits_spec hx) fuel listed a w (Region.free_spec hi hf) (by simpa using hr) (Or.inl ⟨by simp [Region.wanted, hg], hy⟩) hS h
/-- Only one may come up. -/
theorem wpAnyX_one {i : Nat} {o : Oper} {fuel : Nat} {listed : Array Bool} {a : Act} {w : World} (hr : Region.ready md ops listed = [i]) (ho : ops[i]? = some o) (hg : o.guard = none)
    (h : ∀ K : Act → World → Prop, Hid (∀ a' w', (i ≠ X → S w') → (S w' → wpAnyX P md ops Q S X fuel (listed.setIfInBounds i true) a' w') → K a' w') → o.wp P a w K Q) (hne : i ≠ X) : wpAnyX P md ops Q S X (fuel + 1) listed a w := by
  refine ⟨fun h0 => (by rw [hr] at h0; cases h0), fun j hj => ?_⟩
  rw [hr] at hj
  obtain rfl : j = i := by simpa using hj
  unfold wpOp
  simp only [ho]
  have hw : Region.wanted o (yielded ops a.tmps) = true := by simp [Region.wanted, hg]
  simp only [hw, if_true]
  exact Or.inl (h _ fun a' w' h1 h2 => ⟨h1, h2 (h1 hne)⟩)
/-- The last one. -/
theorem wpAnyX_last {o : Oper} {fuel : Nat} {listed : Array Bool} {a : Act} {w : World} (hr : Region.ready md ops listed = [X]) (ho : ops[X]? = some o) (hg : o.guard = none) (hd : Region.ready md ops (listed.setIfInBounds X true) = [])
    (h : ∀ K : Act → World → Prop, Hid (∀ a' w', Q .normal a' w' → K a' w') → o.wp P a w K Q) : wpAnyX P md ops Q S X (fuel + 1) listed a w := by
  refine ⟨fun h0 => (by rw [hr] at h0; cases h0), fun j hj => ?_⟩
  rw [hr] at hj
  obtain rfl : j = X := by simpa using hj
  unfold wpOp
  simp only [ho]
  have hw : Region.wanted o (yielded ops a.tmps) = true := by simp [Region.wanted, hg]
  simp only [hw, if_true]
  refine Or.inl (h _ fun a' w' h1 => ⟨fun h2 => absurd rfl h2, ?_⟩)
  cases fuel with
  | zero => exact ⟨hd, h1⟩
  | succ fuel => exact ⟨fun _ => h1, by rw [hd]; simp⟩
theorem wp_region_x (S : World → Prop) (X : Nat) {id : Nat} {a : Act} {w : World} (hm : P.follows .mixedOrders = true)
    (h : wpAnyX P .any ops Q S X ops.size (Array.replicate ops.size false) a w.drew) : (Code.region id ops true).wp P Q a w :=
  wp_region_any hm (wpAny_of_x _ _ _ _ h)
end
end Go.Proofs.Ytdfpjpmdldigdaa
namespace Go.Proofs.Ytdfpjpmdldigdaa
open Go.RowKit Go.Maps

/-- Block mb is a map from pairs to true: those of which h holds. -/
structure BM (base mb n : Nat) (h : Int × Int → Bool) (w : World) : Prop where
  lo : base ≤ mb
  map : ∃ D : DataW Value, w.ownsMap Try.prog 88 rawE mb n D ∧ ∀ k, I2 k → D.atKey (kl k) (.held (.bool false)) = .held (.bool (h k))
variable {base mb n : Nat} {h : Int × Int → Bool} {w : World}
theorem BM.lt (b : BM base mb n h w) : base ≤ mb ∧ mb < w.heap.size := by
  obtain ⟨D, h1, _⟩ := b.map
  exact ⟨b.lo, h1.lt⟩
theorem BM.kee {S : Nat → Prop} {w' : World} (b : BM base mb n h w) (k : Kee S w w') (hS : ¬ S mb) : BM base mb n h w' := by
  obtain ⟨D, h1, h2⟩ := b.map
  refine ⟨b.lo, D, ?_, h2⟩
  have hlt := h1.lt
  obtain ⟨es, clock, hb, hr⟩ := h1
  exact ⟨es, clock, (k.block mb hlt hS).trans hb, hr⟩
theorem BM.later {w' : World} (b : BM base mb n h w) (k : Below w.heap.size w w') : BM base mb n h w' := b.kee (kee_below k fun _ => False) id
theorem BM.mono (b : BM base mb n h w) {m : Nat} (hm : n ≤ m) : BM base mb m h w := by
  obtain ⟨h1, D, h2, h3⟩ := b
  exact ⟨h1, D, h2.mono hm, h3⟩
theorem BM.new (w : World) : BM w.heap.size w.heap.size 0 (fun _ => false) (w.alloc (.map #[] 0)) :=
  ⟨Nat.le_refl _, .map [], World.ownsMap_made w _ _ _, fun k _ => by simp [DataW.atKey]⟩
theorem BM.rebase {base' : Nat} (b : BM base mb n h w) (hb : base' ≤ base) : BM base' mb n h w := ⟨Nat.le_trans hb b.lo, b.map⟩
set_option maxRecDepth 100000 in
theorem zeroBool (w : World) : (zeroValue 4).run Try.prog w = .ok (.bool false) w := by kernel_rfl
set_option maxRecDepth 100000 in
theorem BM.look (b : BM base mb n h w) {k : Int × Int} (hk : I2 k) : (Instr.lookup 91 (.map (some mb)) (pk k) false).run Try.prog w = .ok (.bool (h k)) w := by
  obtain ⟨D, h1, h2⟩ := b.map
  obtain ⟨v, ps, hrun, hv⟩ := h1.lookup pairLaw Try.underlying91 (zeroBool w) (zd := .held (.bool false)) (zp := []) rfl (pk_key hk)
  rw [h2 k hk] at hv
  have e := rawE_inv hv
  injection e with e
  rw [hrun, e]
theorem BM.put (b : BM base mb n h w) {k : Int × Int} (hk : I2 k) (hn : n < 1000000) :
    ∃ w2, (Instr.mapUpdate 91 (.map (some mb)) (pk k) (.bool true)).run Try.prog w = .ok () w2 ∧ BM base mb (n + 1) (upd h k true) w2 ∧ Kee (fun b => b = mb) w w2 ∧ w2.heap.size = w.heap.size := by
  obtain ⟨D, h1, h2⟩ := b.map
  obtain ⟨w2, hrun, hown, ht⟩ := h1.store (d := .held (.bool true)) (ps := []) pairLaw Try.underlying91 (by unfold maxLen; omega) (pk_key hk) rfl
  obtain ⟨hkk, hsz⟩ := turned_kee ht
  refine ⟨w2, hrun, ⟨b.lo, _, hown, fun j hj => ?_⟩, hkk, hsz⟩
  rw [atKey_put h1.isMap hk hj]
  unfold upd
  split
  · rfl
  · exact h2 j hj
theorem BM.drop (b : BM base mb n h w) {k : Int × Int} (hk : I2 k) :
    ∃ w2, (∀ ty, (Builtin.delete_ #[91, 88] ty #[.map (some mb), pk k]).run Try.prog w = .ok (.tuple #[]) w2) ∧ BM base mb n (upd h k false) w2 ∧ Kee (fun b => b = mb) w w2 ∧ w2.heap.size = w.heap.size := by
  obtain ⟨D, h1, h2⟩ := b.map
  obtain ⟨w2, hrun, hown, ht⟩ := h1.drop pairLaw Try.underlying91 (pk_key hk) 0
  obtain ⟨hkk, hsz⟩ := turned_kee ht
  refine ⟨w2, fun ty => hrun, ⟨b.lo, _, hown, fun j hj => ?_⟩, hkk, hsz⟩
  by_cases e : j = k
  · rw [e, upd_same, atKey_del_same]
  · rw [upd_other _ _ e, atKey_del_other fun e' => e (kl_inj hj hk e')]
    exact h2 j hj
set_option maxRecDepth 100000 in
set_option maxHeartbeats 2000000 in
theorem linked_walk (h : Int × Int → Bool) (sp mb : Nat) (x : Int) (w : World) (hsp : sp < w.heap.size) (HX : Hid (I64 x)) (HC : Hid (w.cell? ⟨sp, 5, none⟩ = some (.map (some mb))))
    (HL : Hid (∀ k, I2 k → ∀ W, Below w.heap.size w W → (Instr.lookup 91 (.map (some mb)) (pk k) false).run Try.prog W = .ok (.bool (h k)) W)) :
    Calls Try.prog 57 #[.pointer (some ⟨sp, 0, none⟩), .int .i64 x] w fun e w' => ∃ v, e = .returned v ∧ Hid (NRow w.heap.size v (lnkL h x) w' ∧ Below w.heap.size w w') := by
  obtain ⟨it, hit, htz0, htz1, htz2⟩ := info_parts infoInt
  have HIT : Hid (Try.prog.info? 3 = some it ∧ it.zero = some (.int .i64 0) ∧ it.size = 1 ∧ it.bytes = 8) := ⟨hit, htz0, htz1, htz2⟩
  clear hit htz0 htz1 htz2
  go_enter Try.func57, Try.ntmps57
  go_wp2_with fail
  go_loopw [5, 6] (fun v i wr => ∃ (b : Nat), 1 ≤ b ∧ b ≤ 100 ∧ i = .int .i64 b ∧ (∃ a L c, v = .slice a L c ∧ L ≤ 99 ∧ Hid ((lnkTo h x (b - 1)).length = L ∧ wr.ownsRow w.heap.size 3 1 (.slice a L c) L (iCells (lnkTo h x (b - 1))) ∧ Below w.heap.size w wr))) (fun _ i _ => 100 - (intOf i).toNat)
  case atStart => exact ⟨1, by omega, by omega, rfl, none, 0, 0, rfl, by omega, rfl, ⟨rfl, Or.inl ⟨rfl, rfl⟩⟩, Below.refl _ _⟩
  case round =>
    obtain ⟨b, hb1, hb2, rfl, a, L, c, rfl, hL, HR⟩ := hrel
    by_cases hb : b ≤ 99
    · have hb' : (b : Int) ≤ 99 := by omega
      have c5 : wr.cell? ⟨sp, 5, none⟩ = some (.map (some mb)) := (HR.out.2.2.cell (p := ⟨sp, 5, none⟩) hsp).trans HC.out
      have l1 := HL.out (x, (b : Int)) ⟨HX.out, num64 b (by omega)⟩ wr HR.out.2.2
      have l2 := HL.out ((b : Int), x) ⟨num64 b (by omega), HX.out⟩ wr HR.out.2.2
      have HG : Hid (lnkTo h x b = lnkTo h x (b - 1) ++ if h (x, (b : Int)) || h ((b : Int), x) then [(b : Int)] else []) := by
        have h := lnkTo_next h x (b - 1) (by omega)
        have e1 : b - 1 + 1 = b := by omega
        have e2 : ((b - 1 : Nat) : Int) + 1 = (b : Int) := by omega
        rw [e1, e2] at h
        exact h
      obtain ⟨t1, ht1⟩ : ∃ t, t = h (x, (b : Int)) := ⟨_, rfl⟩
      obtain ⟨t2, ht2⟩ : ∃ t, t = h ((b : Int), x) := ⟨_, rfl⟩
      rw [← ht1] at l1 HG
      rw [← ht2] at l2 HG
      have HLN := hide (show L ≤ b - 1 by have := lnkTo_length h x (b - 1); have := HR.out.1; omega)
      have HO := hide HR.out.2.1
      have HB := hide HR.out.2.2
      have HS := hide HR.out.1
      have HSZ := hide HB.out.size
      unfold pk at l1 l2
      clear ht1 ht2 HR
      obtain ⟨t, ht⟩ : ∃ t, t = (t1 || t2) := ⟨_, rfl⟩
      rw [← ht] at HG
      cases t
      · obtain ⟨rfl, rfl⟩ := Bool.or_eq_false_iff.1 ht.symm
        clear ht
        go_wp2_with fail
        go_roundw
        case rel => exact ⟨b + 1, by omega, by omega, by go_num, a, L, c, rfl, hL, by rw [Nat.add_sub_cancel, HG.out]; simpa using HS.out, by rw [Nat.add_sub_cancel, HG.out]; simpa using HO.out, HB.out⟩
        case measure => simp [intOf]; omega
      · cases t1
        · obtain rfl : t2 = true := (Bool.false_or t2 ▸ ht).symm
          clear ht
          go_wp2_with (first
            | (at_builtin; refine wpList_append_lies _ rfl _ _ 39 rfl w.heap.size 3 it _ 1 8 Try.underlying39 HIT.out.1 HIT.out.2.1 HIT.out.2.2.1 HIT.out.2.2.2 rfl (by decide) (.slice a L c) L (iCells (lnkTo h x (b - 1))) rfl (HO.out.alloc _) ⟨wr.heap.size, 0, none⟩ 1 1 [.int .i64 b] rfl rfl (World.news_of_block (cs := #[.int .i64 b]) (t := 3) (fr := (0, 0)) (heap_alloc_new wr _)) (by simp [Value.oneCell']) (by decide) (by unfold maxLen; omega) (by omega) (by have := HSZ.out; simp; omega) _ rfl ?_; intro g5 c5' w5 hown5 hgrow5 hat5 hlt5; have HO5 := hide hown5; have HB5 := hide (HB.out.trans (below_grown' HO.out hgrow5 HB.out.size)); clear hown5 hgrow5 hat5 hlt5))
          go_roundw
          case rel =>
            refine ⟨b + 1, by omega, by omega, by go_num, some ⟨g5, 0, none⟩, L + 1, c5', rfl, by have := HLN.out; omega, ?_, ?_, HB5.out⟩
            · rw [Nat.add_sub_cancel, HG.out]
              simpa using HS.out
            · rw [Nat.add_sub_cancel, HG.out, if_pos rfl, iCells_snoc]
              exact HO5.out
          case measure => simp [intOf]; omega
        · clear ht
          go_wp2_with (first
            | (at_builtin; refine wpList_append_lies _ rfl _ _ 39 rfl w.heap.size 3 it _ 1 8 Try.underlying39 HIT.out.1 HIT.out.2.1 HIT.out.2.2.1 HIT.out.2.2.2 rfl (by decide) (.slice a L c) L (iCells (lnkTo h x (b - 1))) rfl (HO.out.alloc _) ⟨wr.heap.size, 0, none⟩ 1 1 [.int .i64 b] rfl rfl (World.news_of_block (cs := #[.int .i64 b]) (t := 3) (fr := (0, 0)) (heap_alloc_new wr _)) (by simp [Value.oneCell']) (by decide) (by unfold maxLen; omega) (by omega) (by have := HSZ.out; simp; omega) _ rfl ?_; intro g5 c5' w5 hown5 hgrow5 hat5 hlt5; have HO5 := hide hown5; have HB5 := hide (HB.out.trans (below_grown' HO.out hgrow5 HB.out.size)); clear hown5 hgrow5 hat5 hlt5))
          go_roundw
          case rel =>
            refine ⟨b + 1, by omega, by omega, by go_num, some ⟨g5, 0, none⟩, L + 1, c5', rfl, by have := HLN.out; omega, ?_, ?_, HB5.out⟩
            · rw [Nat.add_sub_cancel, HG.out]
              simpa using HS.out
            · rw [Nat.add_sub_cancel, HG.out, if_pos rfl, iCells_snoc]
              exact HO5.out
          case measure => simp [intOf]; omega
    · obtain rfl : b = 100 := by omega
      have hR := HR.out
      go_wp2_with fail
      go_ret
      refine ⟨_, rfl, ?_, hR.2.2⟩
      have e := lnkTo_all h x
      rw [show 100 - 1 = 99 from rfl] at hR
      rw [← e]
      unfold NRow
      rw [hR.1]
      exact hR.2.1
def endW : ByteArray := ⟨#[101, 110, 100]⟩
def evC (k : Int × Int) : List Value := [.string endW, .int .i64 k.1, .int .i64 k.2, .int .i64 0, .int .i64 0, .string ⟨#[]⟩, .slice none 0 0]
theorem infoEvent : (Try.prog.info? 110).map (fun i => (i.zero, i.size, i.bytes)) = some (some (.agg #[.string ⟨#[]⟩, .int .i64 0, .int .i64 0, .int .i64 0, .int .i64 0, .string ⟨#[]⟩, .slice none 0 0]), 7, 88) := by kernel_rfl
set_option maxRecDepth 100000 in
set_option maxHeartbeats 4000000 in
theorem event_walk (base sp : Nat) (a b : Int) (va : Option Addr) (L vc : Nat) (xs : List Value) (w : World) (hL : L ≤ 10000) (hsp : sp < w.heap.size) (hbase : base ≤ w.heap.size) (HC : Hid (w.cell? ⟨sp, 6, none⟩ = some (.slice va L vc) ∧ w.frozen? ⟨sp, 6, none⟩ = false))
    (HR : Hid (w.ownsRow base 110 7 (.slice va L vc) L xs)) (HN : Hid ((Value.slice va L vc).ownBlock ≠ some sp)) :
    Calls Try.prog 107 #[.pointer (some ⟨sp, 0, none⟩), .string endW, .int .i64 a, .int .i64 b, .agg #[.int .i64 0, .int .i64 0, .string ⟨#[]⟩, .slice none 0 0]] w fun e w' => e = .returned (.tuple #[]) ∧ ∃ g c w3, w3.ownsRow base 110 7 (.slice (some ⟨g, 0, none⟩) (L + 1) c) (L + 1) (xs ++ evC (a, b)) ∧ Kee (fun q => (Value.slice va L vc).ownBlock = some q) w w3 ∧ ((Value.slice va L vc).ownBlock = some g ∨ w.heap.size ≤ g) ∧ w' = w3.setCell ⟨sp, 6, none⟩ (.slice (some ⟨g, 0, none⟩) (L + 1) c) := by
  obtain ⟨it, hit, htz0, htz1, htz2⟩ := info_parts infoEvent
  have HIT : Hid (Try.prog.info? 110 = some it ∧ it.zero = some (.agg #[.string ⟨#[]⟩, .int .i64 0, .int .i64 0, .int .i64 0, .int .i64 0, .string ⟨#[]⟩, .slice none 0 0]) ∧ it.size = 7 ∧ it.bytes = 88) := ⟨hit, htz0, htz1, htz2⟩
  clear hit htz0 htz1 htz2
  have HW : Hid (∃ w0 q, (w0 = w.alloc (.cells #[.int .i64 0, .int .i64 0, .string ⟨#[]⟩, .slice none 0 0] 24) ∧ q = w.heap.size) ∧ Below w.heap.size w w0 ∧ w0.heap[q]? = some (.cells #[.int .i64 0, .int .i64 0, .string ⟨#[]⟩, .slice none 0 0] 24) ∧ w0.heap.size = w.heap.size + 1) := ⟨_, _, ⟨rfl, rfl⟩, (Below.refl _ _).alloc (Nat.le_refl _) _, heap_alloc_new _ _, by simp⟩
  go_enter Try.func107, Try.ntmps107
  go_wp2_with fail
  obtain ⟨w2, q, ⟨hw2, hq⟩, HS⟩ := HW.out
  rw [← hw2, ← hq]
  have HQW : Hid (q = w.heap.size) := hq
  replace HS := hide HS
  clear hw2 hq HW
  obtain ⟨o, ho⟩ : ∃ o : Obj, o = .cells #[.string endW, .int .i64 a, .int .i64 b, .int .i64 0, .int .i64 0, .string ⟨#[]⟩, .slice none 0 0] 110 := ⟨_, rfl⟩
  have HK : Hid (∀ W : World, Below w2.heap.size w2 W → W.cell? ⟨sp, 6, none⟩ = some (.slice va L vc) ∧ W.cell? ⟨q, 0, none⟩ = some (.int .i64 0) ∧ W.cell? ⟨q, 1, none⟩ = some (.int .i64 0) ∧ W.cell? ⟨q, 2, none⟩ = some (.string ⟨#[]⟩) ∧ W.cell? ⟨q, 3, none⟩ = some (.slice none 0 0)) := fun W h => by
    have h1 := (h.block q (Array.getElem?_eq_some_iff.1 HS.out.2.1).1).trans HS.out.2.1
    have hb := HS.out.1.trans (h.mono HS.out.1.size)
    exact ⟨(hb.cell (p := ⟨sp, 6, none⟩) hsp).trans HC.out.1, cell_row h1 0, cell_row h1 1, cell_row h1 2, cell_row h1 3⟩
  have HD1 : Hid (Below w2.heap.size w2 (w2.alloc o).drew) := ((Below.refl _ _).alloc (Nat.le_refl _) o).drew
  have hS0 : w2.drew.cell? ⟨sp, 6, none⟩ = some (.slice va L vc) ∧ w2.drew.cell? ⟨q, 0, none⟩ = some (.int .i64 0) ∧ w2.drew.cell? ⟨q, 1, none⟩ = some (.int .i64 0) ∧ w2.drew.cell? ⟨q, 2, none⟩ = some (.string ⟨#[]⟩) ∧ w2.drew.cell? ⟨q, 3, none⟩ = some (.slice none 0 0) := HK.out _ (Below.refl _ _).drew
  have HS1 := hide (HK.out _ HD1.out)
  have HB1 := hide (HS.out.1.trans (HD1.out.mono HS.out.1.size))
  have HO1 : Hid ((w2.alloc o).drew.ownsRow base 110 7 (.slice va L vc) L xs) := row_kee HR.out (kee_below HB1.out fun _ => False) fun _ _ h => h
  have HNB : Hid ((w2.alloc o).drew.heap[w2.heap.size]? = some o) := heap_alloc_new w2 o
  have HZ1 : Hid ((w2.alloc o).drew.heap.size = w2.heap.size + 1) := (show _ = _ by simp [World.drew])
  have HZ2 := hide HS.out.2.2
  rw [ho] at HD1 HS1 HB1 HO1 HNB HZ1
  clear ho o
  obtain ⟨c6, e0, e1, e2, e3⟩ := HK.out w2 (Below.refl _ _)
  refine wp_region_noPanic ?_
  refine wp_region_x (fun W => W.cell? ⟨sp, 6, none⟩ = some (.slice va L vc) ∧ W.cell? ⟨q, 0, none⟩ = some (.int .i64 0) ∧ W.cell? ⟨q, 1, none⟩ = some (.int .i64 0) ∧ W.cell? ⟨q, 2, none⟩ = some (.string ⟨#[]⟩) ∧ W.cell? ⟨q, 3, none⟩ = some (.slice none 0 0)) 14 (by kernel_rfl) ?_
  try simp only [List.size_toArray]
  refine wpAnyX_take (i := 0) (v := ?_) rfl (by kernel_rfl) (by kernel_rfl) (by kernel_rfl) (by kernel_rfl) (fun _ _ _ h => h) rfl ?_ hS0 ?_
  rotate_left
  · intro w' hw'
    try dsimp only at hw'
    go_simp
    try with_reducible rfl
  try simp only [Act.put, List.setIfInBounds_toArray]
  refine wpAnyX_take (i := 1) (v := ?_) rfl (by kernel_rfl) (by kernel_rfl) (by kernel_rfl) (by kernel_rfl) (fun _ _ _ h => h) rfl ?_ hS0 ?_
  rotate_left
  · intro w' hw'
    try dsimp only at hw'
    go_simp
    try with_reducible rfl
  try simp only [Act.put]
  refine wpAnyX_take (i := 2) (v := ?_) rfl (by kernel_rfl) (by kernel_rfl) (by kernel_rfl) (by kernel_rfl) (fun _ _ _ h => h) rfl ?_ hS0 ?_
  rotate_left
  · intro w' hw'
    try dsimp only at hw'
    go_simp
    try with_reducible rfl
  try simp only [Act.put]
  refine wpAnyX_take (i := 3) (v := ?_) rfl (by kernel_rfl) (by kernel_rfl) (by kernel_rfl) (by kernel_rfl) (fun _ _ _ h => h) rfl ?_ hS0 ?_
  rotate_left
  · intro w' hw'
    try dsimp only at hw'
    go_simp
    try with_reducible rfl
  try simp only [Act.put]
  refine wpAnyX_take (i := 4) (v := ?_) rfl (by kernel_rfl) (by kernel_rfl) (by kernel_rfl) (by kernel_rfl) (fun _ _ _ h => h) rfl ?_ hS0 ?_
  rotate_left
  · intro w' hw'
    try dsimp only at hw'
    go_simp
    try with_reducible rfl
  try simp only [Act.put]
  refine wpAnyX_take (i := 5) (v := ?_) rfl (by kernel_rfl) (by kernel_rfl) (by kernel_rfl) (by kernel_rfl) (fun _ _ _ h => h) rfl ?_ hS0 ?_
  rotate_left
  · intro w' hw'
    try dsimp only at hw'
    go_simp
    try with_reducible rfl
  try simp only [Act.put]
  refine wpAnyX_take (i := 6) (v := ?_) rfl (by kernel_rfl) (by kernel_rfl) (by kernel_rfl) (by kernel_rfl) (fun _ _ _ h => h) rfl ?_ hS0 ?_
  rotate_left
  · intro w' hw'
    try dsimp only at hw'
    go_simp
    try with_reducible rfl
  try simp only [Act.put]
  refine wpAnyX_take (i := 7) (v := ?_) rfl (by kernel_rfl) (by kernel_rfl) (by kernel_rfl) (by kernel_rfl) (fun _ _ _ h => h) rfl ?_ hS0 ?_
  rotate_left
  · intro w' hw'
    try dsimp only at hw'
    go_simp
    try with_reducible rfl
  try simp only [Act.put]
  refine wpAnyX_take (i := 8) (v := ?_) rfl (by kernel_rfl) (by kernel_rfl) (by kernel_rfl) (by kernel_rfl) (fun _ _ _ h => h) rfl ?_ hS0 ?_
  rotate_left
  · intro w' hw'
    try dsimp only at hw'
    go_simp
    try with_reducible rfl
  try simp only [Act.put]
  refine wpAnyX_take (i := 9) (v := ?_) rfl (by kernel_rfl) (by kernel_rfl) (by kernel_rfl) (by kernel_rfl) (fun _ _ _ h => h) rfl ?_ hS0 ?_
  rotate_left
  · intro w' hw'
    try dsimp only at hw'
    go_simp
    try with_reducible rfl
  try simp only [Act.put]
  refine wpAnyX_one (i := 10) (by kernel_rfl) rfl rfl (fun K hK => ?_) (by decide)
  go_simp
  refine hK.out _ _ (fun _ => HS1.out) (fun hS1 => ?_)
  clear hK K
  try simp only [Act.put, List.setIfInBounds_toArray, List.set_cons_zero, List.set_cons_succ]
  refine wpAnyX_one (i := 11) (by kernel_rfl) rfl rfl (fun K hK => ?_) (by decide)
  refine wp_append_lies _ _ _ 92 rfl base 110 it _ 7 88 Try.underlying92 HIT.out.1 HIT.out.2.1 HIT.out.2.2.1 HIT.out.2.2.2 rfl (by decide) (.slice va L vc) L xs rfl HO1.out ⟨w2.heap.size, 0, none⟩ 1 1 (evC (a, b)) rfl rfl (World.news_of_block (cs := #[.string endW, .int .i64 a, .int .i64 b, .int .i64 0, .int .i64 0, .string ⟨#[]⟩, .slice none 0 0]) (t := 110) (fr := (0, 0)) HNB.out) (by simp [evC, Value.oneCell']) (by decide) (by unfold maxLen; omega) (by omega) (by have := HZ1.out; have := HZ2.out; omega) _ rfl ?_
  intro g5 c5 w5 hown5 hgrow5 hat5 hlt5
  have HK5 : Hid (Kee (fun r => (Value.slice va L vc).ownBlock = some r) w w5) := Kee.trans (kee_below HB1.out _) (kee_grown hgrow5) fun _ _ e => e
  have HAT : Hid ((Value.slice va L vc).ownBlock = some g5 ∨ w.heap.size ≤ g5) := by
    rcases hat5 with e | e
    · exact Or.inl e
    · exact Or.inr (by have := HZ1.out; have := HZ2.out; omega)
  have HO5 := hide hown5
  have HC5 : Hid ((w5.cell? ⟨sp, 6, none⟩ = some (.slice va L vc) ∧ w5.cell? ⟨q, 0, none⟩ = some (.int .i64 0) ∧ w5.cell? ⟨q, 1, none⟩ = some (.int .i64 0) ∧ w5.cell? ⟨q, 2, none⟩ = some (.string ⟨#[]⟩) ∧ w5.cell? ⟨q, 3, none⟩ = some (.slice none 0 0)) ∧ w5.frozen? ⟨sp, 6, none⟩ = false) := by
    have hq1 : some q ≠ (Value.slice va L vc).ownBlock := fun e => by
      have := (HR.out.lt q e.symm).2
      have := HQW.out
      omega
    have hq2 : some sp ≠ (Value.slice va L vc).ownBlock := fun e => HN.out e.symm
    have z1 := HZ1.out
    have z2 := HZ2.out
    have z3 := HQW.out
    have k := fun j => hgrow5.cell_far ⟨q, j, none⟩ (by show q < _; omega) hq1
    obtain ⟨s0, s1, s2, s3, s4⟩ := HS1.out
    refine ⟨⟨(hgrow5.cell_far ⟨sp, 6, none⟩ (by show sp < _; omega) hq2).trans s0, (k 0).trans s1, (k 1).trans s2, (k 2).trans s3, (k 3).trans s4⟩, ?_⟩
    rw [hgrow5.frozen_far ⟨sp, 6, none⟩ (by show sp < _; omega) hq2]
    have hf := HC.out.2
    unfold World.frozen? at hf ⊢
    rw [HB1.out.block sp hsp]
    exact hf
  clear hown5 hgrow5 hat5 hlt5
  refine hK.out _ _ (fun _ => HC5.out.1) (fun hS3 => ?_)
  clear hK K
  try simp only [Act.put, List.setIfInBounds_toArray]
  refine wpAnyX_one (i := 12) (by kernel_rfl) rfl rfl (fun K hK => ?_) (by decide)
  go_simp
  refine hK.out _ _ (fun _ => hS3) (fun _ => ?_)
  clear hK K
  try simp only [Act.put, List.setIfInBounds_toArray, List.set_cons_zero, List.set_cons_succ]
  refine wpAnyX_take (i := 13) (v := ?_) rfl (by kernel_rfl) (by kernel_rfl) (by kernel_rfl) (by kernel_rfl) (fun _ _ _ h => h) rfl ?_ hS3 ?_
  rotate_left
  · intro w' hw'
    try dsimp only at hw'
    go_simp
    try with_reducible rfl
  try simp only [Act.put, List.setIfInBounds_toArray]
  have cf6 := HC5.out.2
  have cc6 := HC5.out.1.1
  refine wpAnyX_last (by kernel_rfl) rfl rfl (by kernel_rfl) (fun K hK => ?_)
  go_simp
  refine hK.out _ _ (NoPanic.normal ?_)
  clear hK K
  try simp only [Act.put, List.setIfInBounds_toArray, List.set_cons_zero, List.set_cons_succ]
  exact bodyPost_end (v := .tuple #[]) (by simp [results]) rfl ⟨rfl, g5, c5, w5, HO5.out, HK5.out, HAT.out, rfl⟩
end Go.Proofs.Ytdfpjpmdldigdaa
namespace Go.Proofs.Ytdfpjpmdldigdaa
open Go.RowKit Go.Maps

theorem nkLaw : Keyed Try.prog 3 := int_keyed Try.underlying3
/-- Block sp is the document's system; h: its pairs; l: the ends that it tells (who, and how). -/
structure DsAt (base sp mp mw mb n : Nat) (h : Int × Int → Bool) (l : List (Int × Int)) (v : Value) (w : World) : Prop where
  lo : base ≤ sp
  box : w.heap[sp]? = some (.cells #[.slice none 0 0, .int .i64 0, .int .i64 0, .map (some mp), .map (some mw), .map (some mb), v] 94 (0, 0))
  plo : base ≤ mp
  procs : ∃ D : DataW Value, w.ownsMap Try.prog 3 rawE mp 0 D
  bonds : BM base mb n h w
  evs : w.ownsRow base 110 7 v l.length (l.flatMap evC)
  ne : mp ≠ mb
def dsM (sp mp mb : Nat) (v : Value) (b : Nat) : Prop := b = sp ∨ b = mp ∨ b = mb ∨ v.ownBlock = some b
variable {base sp mp mw mb n : Nat} {h : Int × Int → Bool} {l : List (Int × Int)} {v : Value} {w : World}
theorem DsAt.lt (d : DsAt base sp mp mw mb n h l v w) (b : Nat) (hb : dsM sp mp mb v b) : base ≤ b ∧ b < w.heap.size := by
  rcases hb with rfl | rfl | rfl | hb
  · exact ⟨d.lo, (Array.getElem?_eq_some_iff.1 d.box).1⟩
  · obtain ⟨D, hD⟩ := d.procs
    exact ⟨d.plo, hD.lt⟩
  · exact d.bonds.lt
  · exact d.evs.lt b hb
theorem DsAt.kee {S : Nat → Prop} {w' : World} (d : DsAt base sp mp mw mb n h l v w) (k : Kee S w w') (hS : ∀ b, dsM sp mp mb v b → ¬ S b) : DsAt base sp mp mw mb n h l v w' := by
  refine ⟨d.lo, (k.block sp (d.lt sp (Or.inl rfl)).2 (hS sp (Or.inl rfl))).trans d.box, d.plo, ?_, d.bonds.kee k (hS mb (Or.inr (Or.inr (Or.inl rfl)))), row_kee d.evs k fun b hb => hS b (Or.inr (Or.inr (Or.inr hb))), d.ne⟩
  obtain ⟨D, hD⟩ := d.procs
  have hlt := hD.lt
  obtain ⟨es, clock, hb, hr⟩ := hD
  exact ⟨D, es, clock, (k.block mp hlt (hS mp (Or.inr (Or.inl rfl)))).trans hb, hr⟩
theorem DsAt.later {w' : World} (d : DsAt base sp mp mw mb n h l v w) (k : Below w.heap.size w w') : DsAt base sp mp mw mb n h l v w' := d.kee (kee_below k fun _ => False) fun _ _ h => h
theorem DsAt.mono (d : DsAt base sp mp mw mb n h l v w) {m : Nat} (hm : n ≤ m) : DsAt base sp mp mw mb m h l v w := ⟨d.lo, d.box, d.plo, d.procs, d.bonds.mono hm, d.evs, d.ne⟩
theorem DsAt.far (d : DsAt base sp mp mw mb n h l v w) : sp ≠ mp ∧ sp ≠ mb ∧ v.ownBlock ≠ some sp ∧ v.ownBlock ≠ some mp ∧ v.ownBlock ≠ some mb := by
  obtain ⟨D, es, clock, hp, _⟩ := d.procs
  obtain ⟨D', ⟨es', clock', hb, _⟩, _⟩ := d.bonds.map
  have hx := d.box
  refine ⟨fun e => ?_, fun e => ?_, fun e => ?_, fun e => ?_, fun e => ?_⟩
  · rw [e, hp] at hx
    cases hx
  · rw [e, hb] at hx
    cases hx
  · obtain ⟨cur, hc⟩ := own_cells d.evs sp e
    rw [hx] at hc
    injection hc with hc
    injection hc with _ e2 _
    exact absurd e2 (by decide)
  · obtain ⟨cur, hc⟩ := own_cells d.evs mp e
    rw [hp] at hc
    cases hc
  · obtain ⟨cur, hc⟩ := own_cells d.evs mb e
    rw [hb] at hc
    cases hc
theorem DsAt.cells (d : DsAt base sp mp mw mb n h l v w) : w.cell? ⟨sp, 3, none⟩ = some (.map (some mp)) ∧ w.cell? ⟨sp, 5, none⟩ = some (.map (some mb)) ∧ w.cell? ⟨sp, 6, none⟩ = some v ∧ w.frozen? ⟨sp, 6, none⟩ = false :=
  ⟨cell_row d.box 3, cell_row d.box 5, cell_row d.box 6, by simp [World.frozen?, d.box]⟩
theorem DsAt.linked (d : DsAt base sp mp mw mb n h l v w) {x : Int} (hx : I64 x) : Calls Try.prog 57 #[.pointer (some ⟨sp, 0, none⟩), .int .i64 x] w fun e w' => ∃ v, e = .returned v ∧ Hid (NRow w.heap.size v (lnkL h x) w' ∧ Below w.heap.size w w') :=
  linked_walk h sp mb x w (d.lt sp (Or.inl rfl)).2 hx d.cells.2.1 fun _ hk _ hW => (d.later hW).bonds.look hk
/-- What a call leaves: all but the system is as it was. -/
def DsUp (base sp mp mw mb n : Nat) (h : Int × Int → Bool) (l : List (Int × Int)) (v0 : Value) (w w' : World) : Prop :=
  ∃ v, DsAt base sp mp mw mb n h l v w' ∧ Kee (dsM sp mp mb v0) w w' ∧ ∀ b, v.ownBlock = some b → v0.ownBlock = some b ∨ w.heap.size ≤ b
theorem DsAt.event (d : DsAt base sp mp mw mb n h l v w) (hl : l.length ≤ 10000) (a b : Int) :
    Calls Try.prog 107 #[.pointer (some ⟨sp, 0, none⟩), .string endW, .int .i64 a, .int .i64 b, .agg #[.int .i64 0, .int .i64 0, .string ⟨#[]⟩, .slice none 0 0]] w fun e w' => e = .returned (.tuple #[]) ∧ Hid (DsUp base sp mp mw mb n h (l ++ [(a, b)]) v w w') := by
  obtain ⟨va, vc, ev⟩ : ∃ va vc, v = .slice va l.length vc := by
    rcases d.evs.2 with ⟨e, e0⟩ | ⟨g, cap, cur, e, _⟩
    · exact ⟨none, 0, by rw [e, e0]⟩
    · exact ⟨_, cap, e⟩
  have hsp := d.lt sp (Or.inl rfl)
  have hf := d.far
  refine (event_walk base sp a b va l.length vc (l.flatMap evC) w hl hsp.2 (by omega) ⟨ev ▸ d.cells.2.2.1, d.cells.2.2.2⟩ (ev ▸ d.evs) (ev ▸ hf.2.2.1)).mono ?_
  rintro e w' ⟨rfl, g, c, w3, ho, hk, hat, rfl⟩
  rw [← ev] at hk hat
  refine ⟨rfl, .slice (some ⟨g, 0, none⟩) (l.length + 1) c, ?_, ?_, ?_⟩
  · have hb3 : w3.heap[sp]? = some (.cells #[.slice none 0 0, .int .i64 0, .int .i64 0, .map (some mp), .map (some mw), .map (some mb), v] 94 (0, 0)) := (hk.block sp hsp.2 hf.2.2.1).trans d.box
    have hg : g ≠ sp := fun e => by
      subst e
      rcases hat with e | e
      · exact hf.2.2.1 e
      · omega
    have hks : Kee (fun b => b = sp) w3 (w3.setCell ⟨sp, 6, none⟩ (.slice (some ⟨g, 0, none⟩) (l.length + 1) c)) := kee_set w3 sp 6 _
    refine ⟨d.lo, ?_, d.plo, ?_, (d.bonds.kee hk hf.2.2.2.2).kee hks fun e => hf.2.1 e.symm, ?_, d.ne⟩
    · simp [World.setCell, Array.getElem?_modify, hb3]
    · obtain ⟨D, es, clock, hp, hr⟩ := d.procs
      exact ⟨D, es, clock, (hks.block mp (Nat.lt_of_lt_of_le (d.lt mp (Or.inr (Or.inl rfl))).2 hk.size) fun e => hf.1 e.symm).trans ((hk.block mp (d.lt mp (Or.inr (Or.inl rfl))).2 hf.2.2.2.1).trans hp), hr⟩
    · rw [List.length_append, List.flatMap_append, show ([(a, b)] : List (Int × Int)).flatMap evC = evC (a, b) by simp]
      refine row_kee ho hks fun b hb e => hg ?_
      have : g = b := Option.some.inj hb
      omega
  · refine Kee.trans (hk.mono fun b _ e => Or.inr (Or.inr (Or.inr e))) (kee_set w3 sp 6 _) fun b _ e => Or.inl e
  · intro b hb
    have : g = b := Option.some.inj hb
    subst this
    exact hat
theorem DsAt.dropP (d : DsAt base sp mp mw mb n h l v w) {x : Int} (hx : I64 x) : ∃ w2, (∀ ty, (Builtin.delete_ #[89, 3] ty #[.map (some mp), .int .i64 x]).run Try.prog w = .ok (.tuple #[]) w2) ∧ DsAt base sp mp mw mb n h l v w2 ∧ Kee (dsM sp mp mb v) w w2 := by
  obtain ⟨D, h1⟩ := d.procs
  obtain ⟨w2, hrun, hown, ht⟩ := h1.drop nkLaw Try.underlying89 (keyOf_int_mk Try.underlying3 (wf_of hx)) 0
  obtain ⟨hkk, hsz⟩ := turned_kee ht
  have hf := d.far
  refine ⟨w2, fun ty => hrun, ⟨d.lo, (hkk.block sp (d.lt sp (Or.inl rfl)).2 hf.1).trans d.box, d.plo, ⟨_, hown⟩, d.bonds.kee hkk fun e => d.ne e.symm, row_kee d.evs hkk fun b hb e => hf.2.2.2.1 (e ▸ hb), d.ne⟩, hkk.mono fun b _ e => Or.inr (Or.inl e)⟩
theorem DsAt.dropB (d : DsAt base sp mp mw mb n h l v w) {k : Int × Int} (hk : I2 k) : ∃ w2, (∀ ty, (Builtin.delete_ #[91, 88] ty #[.map (some mb), .agg #[.int .i64 k.1, .int .i64 k.2]]).run Try.prog w = .ok (.tuple #[]) w2) ∧ DsAt base sp mp mw mb n (upd h k false) l v w2 ∧ Kee (dsM sp mp mb v) w w2 := by
  obtain ⟨w2, hrun, hb, hkk, hsz⟩ := d.bonds.drop hk
  have hf := d.far
  obtain ⟨D, es, clock, hp, hr⟩ := d.procs
  exact ⟨w2, hrun, ⟨d.lo, (hkk.block sp (d.lt sp (Or.inl rfl)).2 hf.2.1).trans d.box, d.plo, ⟨D, es, clock, (hkk.block mp (d.lt mp (Or.inr (Or.inl rfl))).2 d.ne).trans hp, hr⟩, hb, row_kee d.evs hkk fun b hb e => hf.2.2.2.2 (e ▸ hb), d.ne⟩, hkk.mono fun b _ e => Or.inr (Or.inr (Or.inl e))⟩
theorem DsAt.put (d : DsAt base sp mp mw mb n h l v w) {k : Int × Int} (hk : I2 k) (hn : n < 1000000) : ∃ w2, (Instr.mapUpdate 91 (.map (some mb)) (.agg #[.int .i64 k.1, .int .i64 k.2]) (.bool true)).run Try.prog w = .ok () w2 ∧ DsAt base sp mp mw mb (n + 1) (upd h k true) l v w2 ∧ Kee (dsM sp mp mb v) w w2 := by
  obtain ⟨w2, hrun, hb, hkk, hsz⟩ := d.bonds.put hk hn
  have hf := d.far
  obtain ⟨D, es, clock, hp, hr⟩ := d.procs
  exact ⟨w2, hrun, ⟨d.lo, (hkk.block sp (d.lt sp (Or.inl rfl)).2 hf.2.1).trans d.box, d.plo, ⟨D, es, clock, (hkk.block mp (d.lt mp (Or.inr (Or.inl rfl))).2 d.ne).trans hp, hr⟩, hb, row_kee d.evs hkk fun b hb e => hf.2.2.2.2 (e ▸ hb), d.ne⟩, hkk.mono fun b _ e => Or.inr (Or.inr (Or.inl e))⟩
/-! ### while one ends -/
/-- The system, and the row of who is told, while they are told. -/
def P2 (base sp mp mw mb n : Nat) (a : Option Addr) (L c : Nat) (T : List Int) (v0 : Value) (w : World) (h : Int × Int → Bool) (l : List (Int × Int)) (W : World) : Prop :=
  ∃ v, DsAt base sp mp mw mb n h l v W ∧ NRow w.heap.size (.slice a L c) T W ∧ Kee (dsM sp mp mb v0) w W ∧ (∀ b, v.ownBlock = some b → v0.ownBlock = some b ∨ w.heap.size ≤ b) ∧ (∀ b, v.ownBlock = some b → (Value.slice a L c).ownBlock ≠ some b)
variable {a : Option Addr} {L c : Nat} {T : List Int} {v0 : Value} {W W' : World}
theorem P2.later (p : P2 base sp mp mw mb n a L c T v0 w h l W) (k : Below W.heap.size W W') : P2 base sp mp mw mb n a L c T v0 w h l W' := by
  obtain ⟨v, d, r, q, o, e⟩ := p
  exact ⟨v, d.later k, r.later k, Kee.trans q (kee_below k fun _ => False) fun _ _ h => h.elim, o, e⟩
theorem P2.cells (p : P2 base sp mp mw mb n a L c T v0 w h l W) : W.cell? ⟨sp, 3, none⟩ = some (.map (some mp)) ∧ W.cell? ⟨sp, 5, none⟩ = some (.map (some mb)) ∧ ∀ (i : Nat) (k : Int), T[i]? = some k → ∃ g o, a = some ⟨g, o, none⟩ ∧ W.cell? ⟨g, o + i, none⟩ = some (.int .i64 k) := by
  obtain ⟨v, d, r, q, o, e⟩ := p
  exact ⟨d.cells.1, d.cells.2.1, fun i k hk => slice_cells r.row rfl i k hk⟩
/-- The row lies apart from the system's blocks. -/
theorem P2.apart {v : Value} (r : NRow w.heap.size (.slice a L c) T W) (hlo : ∀ b, dsM sp mp mb v0 b → b < w.heap.size) (e : ∀ b, v.ownBlock = some b → (Value.slice a L c).ownBlock ≠ some b) (b : Nat) (hb : (Value.slice a L c).ownBlock = some b) : ¬ dsM sp mp mb v b := by
  have h1 := (r.lt b hb).1
  rintro (h | h | h | h)
  · have := hlo sp (Or.inl rfl); omega
  · have := hlo mp (Or.inr (Or.inl rfl)); omega
  · have := hlo mb (Or.inr (Or.inr (Or.inl rfl))); omega
  · exact e b h hb
theorem P2.step (p : P2 base sp mp mw mb n a L c T v0 w h l W) (hlo : ∀ b, dsM sp mp mb v0 b → b < w.heap.size) {h' : Int × Int → Bool} {l' : List (Int × Int)}
    (f : ∀ v, DsAt base sp mp mw mb n h l v W → DsUp base sp mp mw mb n h' l' v W W') : P2 base sp mp mw mb n a L c T v0 w h' l' W' := by
  obtain ⟨v, d, r, q, o, e⟩ := p
  obtain ⟨v', d', k, o'⟩ := f v d
  refine ⟨v', d', row_kee r k fun b hb => P2.apart r hlo e b hb, Kee.trans q k fun b hb hd => ?_, fun b hb => ?_, fun b hb hb' => ?_⟩
  · rcases hd with hd | hd | hd | hd
    · exact Or.inl hd
    · exact Or.inr (Or.inl hd)
    · exact Or.inr (Or.inr (Or.inl hd))
    · rcases o b hd with h | h
      · exact Or.inr (Or.inr (Or.inr h))
      · omega
  · rcases o' b hb with h | h
    · exact o b h
    · exact Or.inr (Nat.le_trans q.size h)
  · rcases o' b hb with h | h
    · exact e b h hb'
    · have := (r.lt b hb').2
      omega
theorem P2.dropP (p : P2 base sp mp mw mb n a L c T v0 w h l W) (hlo : ∀ b, dsM sp mp mb v0 b → b < w.heap.size) {x : Int} (hx : I64 x) : ∃ w2, (∀ ty, (Builtin.delete_ #[89, 3] ty #[.map (some mp), .int .i64 x]).run Try.prog W = .ok (.tuple #[]) w2) ∧ P2 base sp mp mw mb n a L c T v0 w h l w2 := by
  have p' := p
  obtain ⟨v, d, _⟩ := p
  obtain ⟨w2, hr, _, _⟩ := d.dropP hx
  refine ⟨w2, hr, p'.step hlo fun v1 d1 => ?_⟩
  obtain ⟨w3, hr3, d3, k3⟩ := d1.dropP hx
  have e : w2 = w3 := by
    have h1 := hr 0
    rw [hr3 0] at h1
    injection h1 with _ h1
    exact h1.symm
  subst e
  exact ⟨v1, d3, k3, fun b hb => Or.inl hb⟩
theorem P2.dropB (p : P2 base sp mp mw mb n a L c T v0 w h l W) (hlo : ∀ b, dsM sp mp mb v0 b → b < w.heap.size) {k : Int × Int} (hk : I2 k) : ∃ w2, (∀ ty, (Builtin.delete_ #[91, 88] ty #[.map (some mb), .agg #[.int .i64 k.1, .int .i64 k.2]]).run Try.prog W = .ok (.tuple #[]) w2) ∧ P2 base sp mp mw mb n a L c T v0 w (upd h k false) l w2 := by
  have p' := p
  obtain ⟨v, d, _⟩ := p
  obtain ⟨w2, hr, _, _⟩ := d.dropB hk
  refine ⟨w2, hr, p'.step hlo fun v1 d1 => ?_⟩
  obtain ⟨w3, hr3, d3, k3⟩ := d1.dropB hk
  have e : w2 = w3 := by
    have h1 := hr 0
    rw [hr3 0] at h1
    injection h1 with _ h1
    exact h1.symm
  subst e
  exact ⟨v1, d3, k3, fun b hb => Or.inl hb⟩
theorem P2.event (p : P2 base sp mp mw mb n a L c T v0 w h l W) (hlo : ∀ b, dsM sp mp mb v0 b → b < w.heap.size) (hl : l.length ≤ 10000) (x y : Int) :
    Calls Try.prog 107 #[.pointer (some ⟨sp, 0, none⟩), .string endW, .int .i64 x, .int .i64 y, .agg #[.int .i64 0, .int .i64 0, .string ⟨#[]⟩, .slice none 0 0]] W fun e w' => e = .returned (.tuple #[]) ∧ Hid (P2 base sp mp mw mb n a L c T v0 w h (l ++ [(x, y)]) w') := by
  obtain ⟨v, d, r, q, o, e⟩ := p
  refine (d.event hl x y).mono ?_
  rintro e' w' ⟨rfl, HU⟩
  refine ⟨rfl, P2.step (v0 := v0) (l := l) (h := h) ⟨v, d, r, q, o, e⟩ hlo fun v1 d1 => ?_⟩
  have e1 : v1 = v := by
    have h1 := d1.box
    rw [d.box] at h1
    simp only [Option.some.injEq, Obj.cells.injEq, Array.mk.injEq, List.cons.injEq, and_true, true_and] at h1
    exact h1.symm
  subst e1
  exact HU.out
/-- The ends that are told of T: the first one's is how. -/
def evL (how : Int) : List Int → List (Int × Int)
  | [] => []
  | x :: r => (x, how) :: r.map fun y => (y, 4)
theorem evL_length (how : Int) (T : List Int) : (evL how T).length = T.length := by cases T <;> simp [evL]
theorem evL_next (how : Int) : (T : List Int) → (i : Nat) → (t : Int) → T[i]? = some t → evL how (T.take (i + 1)) = evL how (T.take i) ++ [(t, if i = 0 then how else 4)]
  | [], i, t, h => by simp at h
  | x :: r, 0, t, h => by
    simp at h
    subst h
    simp [evL]
  | x :: r, i + 1, t, h => by
    have h' : r[i]? = some t := by simpa using h
    rw [List.take_succ_cons, List.take_succ_cons]
    simp only [evL]
    rw [List.take_add_one, h', List.map_append]
    simp
theorem evL_tail (how : Int) (x : Int) (r : List Int) : (evL how (x :: r)).map Prod.fst = x :: r := by
  simp [evL, Function.comp_def]
end Go.Proofs.Ytdfpjpmdldigdaa
namespace Go.Proofs.Ytdfpjpmdldigdaa
open Go.RowKit Go.Maps

theorem pids_all : pids.take 99 = pids := List.take_of_length_le (by rw [pids_length]; exact Nat.le_refl _)
set_option maxRecDepth 100000 in
set_option maxHeartbeats 8000000 in
/-- One that ends alone. -/
theorem dend_alone (base sp mp mw mb n : Nat) (h : Int × Int → Bool) (v0 : Value) (x : Int) (w : World) (how : Int) (hh : how = 1) (HDS : Hid (DsAt base sp mp mw mb n h [] v0 w)) (HX : Hid (I64 x)) (HDR : Hid (∀ k, h k = true → (1 ≤ k.1 ∧ k.1 ≤ 99) ∧ (1 ≤ k.2 ∧ k.2 ≤ 99) ∧ k.1 ≠ k.2)) :
    Calls Try.prog 53 #[.pointer (some ⟨sp, 0, none⟩), .int .i64 x, .int .i64 how] w fun e w' => e = .returned (.tuple #[]) ∧ Hid (DsUp base sp mp mw mb n (wo h [x]) (evL how [x]) v0 w w') := by
  have HLO : Hid (∀ b, dsM sp mp mb v0 b → b < w.heap.size) := fun b hb => (HDS.out.lt b hb).2
  obtain ⟨T, hT⟩ : ∃ T, T = [x] := ⟨_, rfl⟩
  obtain ⟨L, hL⟩ : ∃ L, L = 1 := ⟨_, rfl⟩
  rw [← hT]
  have HTL : Hid (T.length = L) := by rw [hT, hL]; rfl
  have HTR : Hid (∀ y ∈ T, I64 y) := by
    rw [hT]
    intro y hy
    rw [List.mem_singleton.1 hy]
    exact HX.out
  have hL9 : L ≤ 100 := by omega
  have HW : Hid (∃ w1 q, (w1 = w.alloc (.cells #[.int .i64 x] 3) ∧ q = w.heap.size) ∧ P2 base sp mp mw mb n (some ⟨q, 0, none⟩) L 1 T v0 w h [] w1) := by
    refine ⟨_, _, ⟨rfl, rfl⟩, v0, HDS.out.later ((Below.refl _ _).alloc (Nat.le_refl _) _), ?_, kee_below ((Below.refl _ _).alloc (Nat.le_refl _) _) _, fun b hb => Or.inl hb, fun b hb hb' => ?_⟩
    · rw [hT, hL]
      exact ⟨rfl, Or.inr ⟨w.heap.size, 1, #[.int .i64 x], rfl, Nat.le_refl _, heap_alloc_new _ _, Nat.le_refl _, by unfold maxLen; omega, rfl, rfl⟩⟩
    · have h1 : w.heap.size = b := Option.some.inj hb'
      have h2 := HLO.out b (Or.inr (Or.inr (Or.inr hb)))
      omega
  go_enter Try.func53, Try.ntmps53
  have hne : (how != 1) = false := by simp [hh]
  clear hh
  go_wp2_with fail
  obtain ⟨w1, q, ⟨hw1, hq⟩, HP⟩ := HW.out
  rw [← hw1, ← hq]
  replace HP := hide HP
  obtain ⟨a, ha⟩ : ∃ a : Option Addr, a = some ⟨q, 0, none⟩ := ⟨_, rfl⟩
  obtain ⟨c, hc⟩ : ∃ c : Nat, c = 1 := ⟨_, rfl⟩
  rw [← ha] at HP ⊢
  have HP0 : Hid (P2 base sp mp mw mb n a L c T v0 w (wo h (T.take 0)) (evL how (T.take 0)) w1) := by
    have e : wo h (T.take 0) = h := by funext k; simp [wo]
    rw [e, hc]
    exact HP.out
  have eL : Value.slice a 1 1 = Value.slice a L c := by rw [hL, hc]
  rw [eL]
  clear hw1 hq HP HW ha hc eL hT hne hL
  go_loopw [2, 10] (fun hv i wr => ∃ (i' : Nat) (hw : Int), hv = .int .i64 hw ∧ i = .int .i64 i' ∧ i' ≤ L ∧ Hid (i' = 0 → hw = how) ∧ Hid (P2 base sp mp mw mb n a L c T v0 w (wo h (T.take i')) (evL how (T.take i')) wr)) (fun _ i _ => L - (intOf i).toNat)
  case atStart => exact ⟨0, how, rfl, rfl, Nat.zero_le _, fun _ => rfl, HP0.out⟩
  case round =>
    clear HP0
    obtain ⟨i, hw, rfl, rfl, hi, HW, HI⟩ := hrel
    by_cases hiL : i < L
    · obtain ⟨t, ht⟩ : ∃ t, T[i]? = some t := ⟨T[i]'(by rw [HTL.out]; exact hiL), List.getElem?_eq_getElem _⟩
      obtain ⟨c3, c5, hr⟩ := HI.out.cells
      obtain ⟨gb, o, rfl, ct⟩ := hr i t ht
      have HT := hide ht
      have HTI : Hid (I64 t) := HTR.out t (List.mem_of_getElem? ht)
      clear hr ht
      have i1 : (0 : Int) ≤ (i : Int) := by omega
      have i2 : (i : Int) < (L : Int) := by omega
      have HPD := hide (HI.out.later (Below.refl _ _).drew)
      obtain ⟨wd, hd, hpd⟩ := HPD.out.dropP HLO.out HTI.out
      have HD := hide hpd
      obtain ⟨d3, d5, dr⟩ := hpd.cells
      obtain ⟨_, _, e, dt⟩ := dr i t HT.out
      injection e with e
      injection e with e1 e2
      subst e1 e2
      clear dr hpd HPD
      go_wp2_with fail
      go_region_held3 (fun W => W.cell? ⟨sp, 3, none⟩ = some (.map (some mp)) ∧ W.cell? ⟨gb, o + i, none⟩ = some (.int .i64 t)) (first | (go_keep; done) | exact ⟨d3, dt⟩) (fail)
      have HLN : Hid ((evL how (T.take i)).length ≤ 10000) := by
        rw [evL_length, List.length_take]
        unfold Hid
        omega
      obtain ⟨hn, hhn⟩ : ∃ hn : Int, hn = if i = 0 then how else 4 := ⟨_, rfl⟩
      have HE := hide (HD.out.event HLO.out HLN.out t hn)
      have HEL := hide (evL_next how T i t HT.out)
      rw [← hhn] at HEL
      have HAL : Hid (delL (wo h (T.take i)) t pids = wo h (T.take (i + 1))) := by
        rw [del_all (fun k hk => HDR.out k (wo_iff.1 hk).1), wo_wo, List.take_add_one, HT.out]
        rfl
      have hend : endW = ⟨#[101, 110, 100]⟩ := rfl
      rw [hend] at HE
      by_cases h0 : i = 0
      · have h0' : ¬ (0 : Int) < (i : Int) := by omega
        obtain rfl : hn = hw := by rw [hhn, if_pos h0, HW.out h0]
        clear hhn h0
        go_wp2_with fail
        refine HE.out.mono ?_
        rintro e w5 ⟨rfl, HU⟩
        go_wp2_with fail
        have HY0 : Hid (P2 base sp mp mw mb n (some ⟨gb, o, none⟩) L c T v0 w (delL (wo h (T.take i)) t (pids.take 0)) (evL how (T.take (i + 1))) w5) := by
          rw [HEL.out]
          exact HU.out
        clear HU HE HD c3 c5 ct d3 d5 dt HI HW hd
        go_loopw [11] (fun y wr => ∃ (y' : Nat), 1 ≤ y' ∧ y' ≤ 100 ∧ y = .int .i64 y' ∧ Hid (P2 base sp mp mw mb n (some ⟨gb, o, none⟩) L c T v0 w (delL (wo h (T.take i)) t (pids.take (y' - 1))) (evL how (T.take (i + 1))) wr)) (fun y _ => 100 - (intOf y).toNat)
        case atStart => exact ⟨1, by omega, by omega, rfl, HY0.out⟩
        case round =>
          clear HY0
          obtain ⟨y, hy1, hy2, rfl, HY⟩ := hrel
          by_cases hy : y ≤ 99
          · have hy' : (y : Int) ≤ 99 := by omega
            have HYI : Hid (I64 (y : Int)) := num64 y (by omega)
            have HP1 := hide (HY.out.later (Below.refl _ _).drew)
            obtain ⟨w6, h6, p6⟩ := HP1.out.dropB HLO.out (k := (t, (y : Int))) ⟨HTI.out, HYI.out⟩
            have HP6 := hide p6
            have HP7 := hide (p6.later (Below.refl _ _).drew)
            obtain ⟨w8, h8, p8⟩ := HP7.out.dropB HLO.out (k := ((y : Int), t)) ⟨HYI.out, HTI.out⟩
            have HP8 : Hid (P2 base sp mp mw mb n (some ⟨gb, o, none⟩) L c T v0 w (delL (wo h (T.take i)) t (pids.take y)) (evL how (T.take (i + 1))) w8) := by
              have e := pids_take (y - 1) (by omega)
              rw [show y - 1 + 1 = y from by omega, show ((y - 1 : Nat) : Int) + 1 = (y : Int) from by omega] at e
              rw [e, delL_snoc]
              exact p8
            obtain ⟨_, a5, ar⟩ := HY.out.cells
            obtain ⟨_, _, e, at'⟩ := ar i t HT.out
            injection e with e
            injection e with e1 e2
            subst e1 e2
            obtain ⟨_, b5, br⟩ := p6.cells
            obtain ⟨_, _, e, bt⟩ := br i t HT.out
            injection e with e
            injection e with e1 e2
            subst e1 e2
            obtain ⟨_, g5, gr⟩ := p8.cells
            obtain ⟨_, _, e, gt⟩ := gr i t HT.out
            injection e with e
            injection e with e1 e2
            subst e1 e2
            clear ar br gr p6 p8
            go_wp2_with fail
            go_region_held3 (fun W => W.cell? ⟨sp, 5, none⟩ = some (.map (some mb)) ∧ W.cell? ⟨gb, o + i, none⟩ = some (.int .i64 t)) (first | (go_keep; done) | exact ⟨b5, bt⟩) (fail)
            go_wp2_with fail
            go_region_held3 (fun W => W.cell? ⟨sp, 5, none⟩ = some (.map (some mb)) ∧ W.cell? ⟨gb, o + i, none⟩ = some (.int .i64 t)) (first | (go_keep; done) | exact ⟨g5, gt⟩) (fail)
            go_wp2_with fail
            go_roundw
            case rel => exact ⟨y + 1, by omega, by omega, by go_num, HP8.out⟩
            case measure => simp [intOf]; omega
          · obtain rfl : y = 100 := by omega
            have HF : Hid (P2 base sp mp mw mb n (some ⟨gb, o, none⟩) L c T v0 w (wo h (T.take (i + 1))) (evL how (T.take (i + 1))) wr) := by
              have hY := HY.out
              rw [show 100 - 1 = 99 from rfl, pids_all, HAL.out] at hY
              exact hY
            go_wp2_with fail
            go_roundw
            case rel => exact ⟨i + 1, hn, rfl, by go_num, by omega, fun h => by omega, HF.out⟩
            case measure => simp [intOf]; omega
      · have h0' : (0 : Int) < (i : Int) := by omega
        obtain rfl : hn = 4 := by rw [hhn, if_neg h0]
        clear hhn h0
        go_wp2_with fail
        refine HE.out.mono ?_
        rintro e w5 ⟨rfl, HU⟩
        go_wp2_with fail
        have HY0 : Hid (P2 base sp mp mw mb n (some ⟨gb, o, none⟩) L c T v0 w (delL (wo h (T.take i)) t (pids.take 0)) (evL how (T.take (i + 1))) w5) := by
          rw [HEL.out]
          exact HU.out
        clear HU HE HD c3 c5 ct d3 d5 dt HI HW hd
        go_loopw [11] (fun y wr => ∃ (y' : Nat), 1 ≤ y' ∧ y' ≤ 100 ∧ y = .int .i64 y' ∧ Hid (P2 base sp mp mw mb n (some ⟨gb, o, none⟩) L c T v0 w (delL (wo h (T.take i)) t (pids.take (y' - 1))) (evL how (T.take (i + 1))) wr)) (fun y _ => 100 - (intOf y).toNat)
        case atStart => exact ⟨1, by omega, by omega, rfl, HY0.out⟩
        case round =>
          clear HY0
          obtain ⟨y, hy1, hy2, rfl, HY⟩ := hrel
          by_cases hy : y ≤ 99
          · have hy' : (y : Int) ≤ 99 := by omega
            have HYI : Hid (I64 (y : Int)) := num64 y (by omega)
            have HP1 := hide (HY.out.later (Below.refl _ _).drew)
            obtain ⟨w6, h6, p6⟩ := HP1.out.dropB HLO.out (k := (t, (y : Int))) ⟨HTI.out, HYI.out⟩
            have HP6 := hide p6
            have HP7 := hide (p6.later (Below.refl _ _).drew)
            obtain ⟨w8, h8, p8⟩ := HP7.out.dropB HLO.out (k := ((y : Int), t)) ⟨HYI.out, HTI.out⟩
            have HP8 : Hid (P2 base sp mp mw mb n (some ⟨gb, o, none⟩) L c T v0 w (delL (wo h (T.take i)) t (pids.take y)) (evL how (T.take (i + 1))) w8) := by
              have e := pids_take (y - 1) (by omega)
              rw [show y - 1 + 1 = y from by omega, show ((y - 1 : Nat) : Int) + 1 = (y : Int) from by omega] at e
              rw [e, delL_snoc]
              exact p8
            obtain ⟨_, a5, ar⟩ := HY.out.cells
            obtain ⟨_, _, e, at'⟩ := ar i t HT.out
            injection e with e
            injection e with e1 e2
            subst e1 e2
            obtain ⟨_, b5, br⟩ := p6.cells
            obtain ⟨_, _, e, bt⟩ := br i t HT.out
            injection e with e
            injection e with e1 e2
            subst e1 e2
            obtain ⟨_, g5, gr⟩ := p8.cells
            obtain ⟨_, _, e, gt⟩ := gr i t HT.out
            injection e with e
            injection e with e1 e2
            subst e1 e2
            clear ar br gr p6 p8
            go_wp2_with fail
            go_region_held3 (fun W => W.cell? ⟨sp, 5, none⟩ = some (.map (some mb)) ∧ W.cell? ⟨gb, o + i, none⟩ = some (.int .i64 t)) (first | (go_keep; done) | exact ⟨b5, bt⟩) (fail)
            go_wp2_with fail
            go_region_held3 (fun W => W.cell? ⟨sp, 5, none⟩ = some (.map (some mb)) ∧ W.cell? ⟨gb, o + i, none⟩ = some (.int .i64 t)) (first | (go_keep; done) | exact ⟨g5, gt⟩) (fail)
            go_wp2_with fail
            go_roundw
            case rel => exact ⟨y + 1, by omega, by omega, by go_num, HP8.out⟩
            case measure => simp [intOf]; omega
          · obtain rfl : y = 100 := by omega
            have HF : Hid (P2 base sp mp mw mb n (some ⟨gb, o, none⟩) L c T v0 w (wo h (T.take (i + 1))) (evL how (T.take (i + 1))) wr) := by
              have hY := HY.out
              rw [show 100 - 1 = 99 from rfl, pids_all, HAL.out] at hY
              exact hY
            go_wp2_with fail
            go_roundw
            case rel => exact ⟨i + 1, 4, rfl, by go_num, by omega, fun h => by omega, HF.out⟩
            case measure => simp [intOf]; omega
    · obtain rfl : i = L := by omega
      have HF := HI.out
      rw [List.take_of_length_le (by rw [HTL.out]; exact Nat.le_refl _)] at HF
      replace HF := hide HF
      go_wp2_with fail
      exact bodyPost_end (v := .tuple #[]) (by simp [results]) rfl ⟨rfl, by
      obtain ⟨v, p1, _, p3, p4, _⟩ := HF.out
      exact ⟨v, p1, p3, p4⟩⟩
end Go.Proofs.Ytdfpjpmdldigdaa
