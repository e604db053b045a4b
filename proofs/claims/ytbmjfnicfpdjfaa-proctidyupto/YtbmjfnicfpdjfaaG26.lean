/- What is proved here: plain facts and contracts that the claimed theorem stands on, several texts in one: what a process' State and Mail tell: its state, and its messages in order, in new memory. No condition but that the process lies in memory. a process is tidied: its heap is collected from its state and its messages; it has then just the words that these need. No condition but that the process lies in memory. Tidy walked, from what Collect leaves. what Tidy leaves: the same state and messages, in a heap that has just the words that they need. No condition but that the process lies in memory, with at most 999 messages. what put does: the term is put, and where there is no room the process is tidied first. No condition but that the process lies in memory. -/
import Derived.Test.YtbmjfnicfpdjfaaG25
namespace Go.Proofs.Ytbmjfnicfpdjfaa
open Go.RowKit

set_option maxHeartbeats 1000000 in
theorem state_walk (pb N : Nat) (x : Tm (N + 1)) (v : Wd) (w : World) (hpw : pb < w.heap.size) (c5 : w.cell? ⟨pb, 5, none⟩ = some (.int .i64 v.1)) (c6 : w.cell? ⟨pb, 5 + 1, none⟩ = some (.int .i64 v.2))
    (HR : Hid (∀ w1, Below w.heap.size w w1 → Calls Try.prog 31 #[.pointer (some ⟨pb, 0, none⟩), .agg #[.int .i64 v.1, .int .i64 v.2]] w1 (ReadOut (N + 1) x w1))) :
    Calls Try.prog 14 #[.pointer (some ⟨pb, 0, none⟩)] w (ReadOut (N + 1) x w) := by
  go_enter Try.func14, Try.ntmps14
  go_wp2_with fail
  refine (HR.out _ one_alloc).mono ?_
  rintro e w1 ⟨y, rfl, HY⟩
  rw [show val (N + 1) y = .agg #[.int .i64 y.1.1, .int .i64 y.1.2.1, .string y.1.2.2, .slice y.2.1.1 y.2.2.length y.2.1.2] from rfl]
  have HX1 := hide (box4_new w _ _ _ _ _ HY.out.1)
  have HB1 : Hid (Below w.heap.size w w1) := one_alloc.trans (HY.out.1.mono (by simp))
  have r0 : w1.cell? ⟨w.heap.size, 0, none⟩ = some (.int .i64 0) := box_cell HX1.out 0
  have r1 : w1.cell? ⟨w.heap.size, 1, none⟩ = some (.int .i64 0) := box_cell HX1.out 1
  have r2 : w1.cell? ⟨w.heap.size, 2, none⟩ = some (.string ⟨#[]⟩) := box_cell HX1.out 2
  have r3 : w1.cell? ⟨w.heap.size, 3, none⟩ = some (.slice none 0 0) := box_cell HX1.out 3
  have rf := fun j => box_free HX1.out j
  clear c5 c6
  go_wp2_with fail
  refine bodyPost_ret (v := .agg #[.int .i64 y.1.1, .int .i64 y.1.2.1, .string y.1.2.2, .slice y.2.1.1 y.2.2.length y.2.1.2]) (by simp [results, Try.results14, go_sem, r0, r1, r2, r3]) rfl ?_
  have ho : Off (fun q => w.heap.size + 1 ≤ q) (N + 1) y := HY.out.2.2.1.mono fun q hq => by simpa using hq
  refine ⟨y, rfl, put4_below HB1.out (Nat.le_refl _), ?_, ho.mono fun q hq => by omega, HY.out.2.2.2⟩
  have e := In.off (w' := put4 w1 w.heap.size 0 (.int .i64 y.1.1) (.int .i64 y.1.2.1) (.string y.1.2.2) (.slice y.2.1.1 y.2.2.length y.2.1.2)) (fun b (hb : w.heap.size + 1 ≤ b) => put4_block (by omega) _ _ _ _) ho HY.out.2.1
  rw [← put4_size (w := w1) (g := w.heap.size) (o := 0) (.int .i64 y.1.1) (.int .i64 y.1.2.1) (.string y.1.2.2) (.slice y.2.1.1 y.2.2.length y.2.1.2)] at e
  exact e

/-- A message's word, where it lies. -/
theorem MailAt.word {Mh : Nat → Prop} {ma : Option Addr} {vs : List Wd} {mc : Nat} {w : World} (h : MailAt Mh ma vs mc w) {i : Nat} {v : Wd} (hv : vs[i]? = some v) : ∃ g mo, ma = some ⟨g, mo, none⟩ ∧ g < w.heap.size ∧ w.cell? ⟨g, mo + i * 2, none⟩ = some (.int .i64 v.1) ∧ w.cell? ⟨g, mo + i * 2 + 1, none⟩ = some (.int .i64 v.2) := by
  rcases h with ⟨_, e, _⟩ | ⟨g, mo, cur, e1, _, e3, e4, _, e6, e7⟩
  · rw [e] at hv; simp at hv
  · have hil := (List.getElem?_eq_some_iff.1 hv).1
    have hat : ∀ (l : List Wd) (i : Nat) (v : Wd), l[i]? = some v → (wCells l)[i * 2]? = some (.int .i64 v.1) ∧ (wCells l)[i * 2 + 1]? = some (.int .i64 v.2) := by
      intro l
      induction l with
      | nil => intro i v h; simp at h
      | cons a l ih =>
        intro i v h
        cases i with
        | zero => simp at h; subst h; simp [wCells, wd2]
        | succ i =>
          have := ih i v (by simpa using h)
          simp only [wCells, List.flatMap_cons, wd2] at this ⊢
          rw [show (i + 1) * 2 = i * 2 + 2 by omega, show i * 2 + 2 + 1 = (i * 2 + 1) + 2 by omega]
          simpa using this
    have hk : ∀ k, k < vs.length * 2 → w.cell? ⟨g, mo + k, none⟩ = (wCells vs)[k]? := fun k hk => by
      rw [← e7, List.getElem?_take, if_pos hk, List.getElem?_drop, Array.getElem?_toList]
      simp [World.cell?, e3]
    refine ⟨g, mo, e1, (Array.getElem?_eq_some_iff.1 e3).1, ?_, ?_⟩
    · rw [hk (i * 2) (by omega)]; exact (hat vs i v hv).1
    · rw [show mo + i * 2 + 1 = mo + (i * 2 + 1) by omega, hk (i * 2 + 1) (by omega)]; exact (hat vs i v hv).2
def MailOut (N : Nat) (ms : List (Tm N)) (w : World) (e : Ending) (w' : World) : Prop := ∃ (ys : List (Tm N)) (L : Nat) (a : Option Addr) (c : Nat), e = .returned (.slice a L c) ∧ Hid (ys.length = L ∧ GrowT N 0 w.heap.size ys (.slice a L c) w w' ∧ sameL (fun a b => same N a N b) ys ms = true)
set_option maxHeartbeats 2000000 in
set_option maxRecDepth 100000 in
theorem mail_walk (pb N : Nat) (ms : List (Tm (N + 1))) (vs : List Wd) (L : Nat) (ma : Option Addr) (mc : Nat) (w : World) (hL : Hid (vs.length = L)) (hLm : Hid (ms.length = L)) (hL20 : L ≤ 1000) (_hpw : pb < w.heap.size) (c7 : w.cell? ⟨pb, 7, none⟩ = some (.slice ma L mc))
    (HW : Hid (∀ w1, Below w.heap.size w w1 → ∀ (i : Nat) (v : Wd), vs[i]? = some v → ∃ g mo, ma = some ⟨g, mo, none⟩ ∧ g < w.heap.size ∧ w1.cell? ⟨g, mo + i * 2, none⟩ = some (.int .i64 v.1) ∧ w1.cell? ⟨g, mo + i * 2 + 1, none⟩ = some (.int .i64 v.2)))
    (HR : Hid (∀ w1, Below w.heap.size w w1 → ∀ (i : Nat) (v : Wd) (x : Tm (N + 1)), vs[i]? = some v → ms[i]? = some x → Calls Try.prog 31 #[.pointer (some ⟨pb, 0, none⟩), .agg #[.int .i64 v.1, .int .i64 v.2]] w1 (ReadOut (N + 1) x w1))) :
    Calls Try.prog 15 #[.pointer (some ⟨pb, 0, none⟩)] w (MailOut (N + 1) ms w) := by
  obtain ⟨it, hit, htz0, htz1, htz2⟩ := info_parts infoTerm
  have HT := hide (⟨hit, htz0, htz1, htz2⟩ : _ ∧ _ ∧ _ ∧ _)
  clear hit htz0 htz1 htz2
  go_enter Try.func15, Try.ntmps15
  go_wp2_with fail
  go_loopw [3, 11] (fun v i wr => ∃ (k : Nat) (a : Option Addr) (c : Nat) (ys : List (Tm (N + 1))), k ≤ L ∧ i = .int .i64 k ∧ v = .slice a k c ∧ Hid (ys.length = k ∧ GrowT (N + 1) 0 w.heap.size ys (.slice a k c) w wr ∧ sameL (fun a b => same (N + 1) a (N + 1) b) ys (ms.take k) = true)) (fun _ i _ => L - (intOf i).toNat)
  case atStart => exact ⟨0, none, 0, [], by omega, rfl, rfl, rfl, Grow.nil _, by simp [sameL]⟩
  case round =>
    obtain ⟨k, a, c, ys, hk, rfl, rfl, HG⟩ := hrel
    have HBW : Hid (Below w.heap.size w wr) := HG.out.2.1.1
    by_cases hlt : k < L
    rotate_left
    · obtain rfl : k = L := by omega
      go_wp2_with fail
      go_ret
      refine ⟨ys, k, a, c, rfl, HG.out.1, HG.out.2.1, ?_⟩
      have h := HG.out.2.2
      rw [List.take_of_length_le (by rw [hLm.out]; omega)] at h
      exact h
    · obtain ⟨v, hv⟩ : ∃ v, vs[k]? = some v := ⟨vs[k]'(by rw [hL.out]; exact hlt), List.getElem?_eq_getElem _⟩
      obtain ⟨x, hx⟩ : ∃ x, ms[k]? = some x := ⟨ms[k]'(by rw [hLm.out]; exact hlt), List.getElem?_eq_getElem _⟩
      have HX := hide hx
      have HRk : Hid (∀ w1, Below w.heap.size w w1 → Calls Try.prog 31 #[.pointer (some ⟨pb, 0, none⟩), .agg #[.int .i64 v.1, .int .i64 v.2]] w1 (ReadOut (N + 1) x w1)) := fun w1 hb => HR.out w1 hb k v x hv hx
      obtain ⟨g, mo, rfl, hg, d0, d1⟩ := HW.out wr HBW.out k v hv
      clear hv hx
      have hk0 : (0 : Int) ≤ (k : Int) := by omega
      have hkL : (k : Int) < (L : Int) := by omega
      have hgw : g < wr.heap.size := by have := HBW.out.size; omega
      go_wp2_with fail
      refine (HRk.out _ (HBW.out.trans (one_alloc.mono HBW.out.size))).mono ?_
      rintro e w2 ⟨y, rfl, HY⟩
      rw [show val (N + 1) y = .agg #[.int .i64 y.1.1, .int .i64 y.1.2.1, .string y.1.2.2, .slice y.2.1.1 y.2.2.length y.2.1.2] from rfl]
      have HB2 : Hid (Below wr.heap.size wr w2) := one_alloc.trans (HY.out.1.mono (by simp))
      have HBS : Hid (Below wr.heap.size wr (w2.alloc (.cells #[.int .i64 y.1.1, .int .i64 y.1.2.1, .string y.1.2.2, .slice y.2.1.1 y.2.2.length y.2.1.2] 25)) ∧ (w2.alloc (.cells #[.int .i64 y.1.1, .int .i64 y.1.2.1, .string y.1.2.2, .slice y.2.1.1 y.2.2.length y.2.1.2] 25)).heap.size = w2.heap.size + 1 ∧ (w2.alloc (.cells #[.int .i64 y.1.1, .int .i64 y.1.2.1, .string y.1.2.2, .slice y.2.1.1 y.2.2.length y.2.1.2] 25)).heap[w2.heap.size]? = some (.cells #[.int .i64 y.1.1, .int .i64 y.1.2.1, .string y.1.2.2, .slice y.2.1.1 y.2.2.length y.2.1.2] 25) ∧ In (w2.alloc (.cells #[.int .i64 y.1.1, .int .i64 y.1.2.1, .string y.1.2.2, .slice y.2.1.1 y.2.2.length y.2.1.2] 25)).heap.size (w2.alloc (.cells #[.int .i64 y.1.1, .int .i64 y.1.2.1, .string y.1.2.2, .slice y.2.1.1 y.2.2.length y.2.1.2] 25)) (N + 1) y ∧ Off (fun b => b < 0 ∨ wr.heap.size ≤ b) (N + 1) y) := by
        have h : Below w2.heap.size w2 (w2.alloc (.cells #[.int .i64 y.1.1, .int .i64 y.1.2.1, .string y.1.2.2, .slice y.2.1.1 y.2.2.length y.2.1.2] 25)) := one_alloc
        refine ⟨HB2.out.trans (h.mono HB2.out.size), by simp, heap_alloc_new _ _, (HY.out.2.1.below h).mono h.size, HY.out.2.2.1.mono fun b hb => Or.inr ?_⟩
        have : wr.heap.size + 1 ≤ b := by simpa using hb
        omega
      have HAP := fun (g4 c4 : Nat) (w4 : World) hown hgrow hat => hide (HG.out.2.1.appAt (W := (w2.alloc (.cells #[.int .i64 y.1.1, .int .i64 y.1.2.1, .string y.1.2.2, .slice y.2.1.1 y.2.2.length y.2.1.2] 25))) (w4 := w4) (g := g4) (c := c4) HG.out.1 (Nat.zero_le _) HBW.out.size HBS.out.1 y HBS.out.2.2.2.1 HBS.out.2.2.2.2 hown hgrow hat)
      have HOW := hide (HG.out.2.1.ownAt HG.out.1 HBS.out.1)
      have hsz : w.heap.size ≤ w2.heap.size := by have := HBW.out.size; have := HB2.out.size; omega
      clear d0 d1
      go_wp2_with (at_builtin; refine wpList_append_lies _ rfl _ _ 23 rfl w.heap.size 25 it _ 4 56 Try.underlying23 HT.out.1 HT.out.2.1 HT.out.2.2.1 HT.out.2.2.2 rfl (by decide) (.slice a k c) k (ys.flatMap (tm4 (N + 1))) (by simp [Act.eval]) HOW.out ⟨w2.heap.size, 0, none⟩ 1 1 (tm4 (N + 1) y) (by simp [Act.eval]) rfl (World.news_of_block (cs := #[.int .i64 y.1.1, .int .i64 y.1.2.1, .string y.1.2.2, .slice y.2.1.1 y.2.2.length y.2.1.2]) (t := 25) (fr := (0, 0)) HBS.out.2.2.1) (tm4_one _ _) (by decide) (by unfold maxLen; omega) (by omega) (by have := HBS.out.2.1; omega) (w2.heap.size + 1) HBS.out.2.1 ?_; intro g4 c4 w4 hown4 hgrow4 hat4 hlt4; have HS4 := HAP g4 c4 w4 hown4 hgrow4 (by rw [HBS.out.2.1]; exact hat4); clear hown4 hgrow4 hat4 hlt4 HAP HOW)
      go_roundw
      case rel =>
        refine ⟨k + 1, some ⟨g4, 0, none⟩, c4, ys ++ [y], by omega, by go_num, rfl, by rw [List.length_append, HG.out.1]; rfl, HS4.out, ?_⟩
        rw [List.take_add_one, HX.out]
        exact sameL_snoc _ _ _ _ _ HG.out.2.2 HY.out.2.2.2
      case measure => simp [intOf]; omega
section
variable {base pb : Nat} {name : ByteArray} {room : Int} {N : Nat} {s : Tm (N + 1)} {ms : List (Tm (N + 1))} {xs : List (Wd × Tm (N + 1))} {nk : Nat} {M : Nat → Prop} {w : World} {ws : List Wd} {nm : List ByteArray} {sv : Wd} {vs : List Wd} {ma : Option Addr} {mc : Nat} {Mh : Nat → Prop}
theorem PrAt.state (h : PrAt base pb name room (N + 1) s ms xs nk M w ws nm sv vs ma mc Mh) (hnk : nk ≤ 50000) : Calls Try.prog 14 #[.pointer (some ⟨pb, 0, none⟩)] w (ReadOut (N + 1) s w) := by
  obtain ⟨tv, lv, mv, h1, _⟩ := h.heap.box
  obtain ⟨_, c5, c6, _, _, hpw⟩ := PL.cells h1
  exact state_walk pb N s sv w hpw c5 c6 fun w1 hb => (h.later hb).read hnk (i := 0) (by simp) (by simp)
theorem PrAt.mails (h : PrAt base pb name room (N + 1) s ms xs nk M w ws nm sv vs ma mc Mh) (hnk : nk ≤ 50000) (h20 : ms.length ≤ 1000) : Calls Try.prog 15 #[.pointer (some ⟨pb, 0, none⟩)] w (MailOut (N + 1) ms w) := by
  obtain ⟨tv, lv, mv, h1, _⟩ := h.heap.box
  obtain ⟨_, _, _, c7, _, hpw⟩ := PL.cells h1
  have hl := h.len
  refine mail_walk pb N ms vs vs.length ma mc w rfl hl.symm (by omega) hpw c7 (fun w1 hb i v hv => ?_) (fun w1 hb i v x hv hx => ?_)
  · obtain ⟨g, mo, e1, e2, e3, e4⟩ := h.mail.word hv
    exact ⟨g, mo, e1, e2, (below_cells hb _ _ e2).trans e3, (below_cells hb _ _ e2).trans e4⟩
  · have hil := (List.getElem?_eq_some_iff.1 hv).1
    exact (h.later hb).read hnk (i := i + 1) (by rw [List.cons_append, List.getElem?_cons_succ, List.getElem?_append_left hil]; exact hv) (by rw [List.cons_append, List.getElem?_cons_succ, List.getElem?_append_left (by omega)]; exact hx)
end
end Go.Proofs.Ytbmjfnicfpdjfaa
namespace Go.Proofs.Ytbmjfnicfpdjfaa
open Go.RowKit

theorem run_append_w2 {base : Nat} {v : Value} {n m xc : Nat} {xs : List Value} {ps : List Wd} {xa : Option Addr} {w : World} (ty : TypeId) (hown : w.ownsRow base 60 2 v n xs) (hs : WordsAt w ps xa) (hm : ps.length = m) (h63 : n + m ≤ 200000) (hbase : base ≤ w.heap.size) :
    ∃ a' c' w', (Builtin.append_ #[64, 64] ty #[v, .slice xa m xc]).run Try.prog w = .ok (.slice a' (n + m) c') w' ∧ w'.ownsRow base 60 2 (.slice a' (n + m) c') (n + m) (xs ++ wCells ps) ∧ w.grownBy w' v.ownBlock ∧ ((Value.slice a' (n + m) c').ownBlock = v.ownBlock ∨ (Value.slice a' (n + m) c').ownBlock = some w.heap.size) := by
  obtain ⟨it, hit, htz0, htz1, htz2⟩ := info_parts infoWord
  have form : ∀ {w' : World} {v' : Value} {k : Nat} {ys : List Value}, w'.ownsRow base 60 2 v' k ys → ∃ a c, v' = .slice a k c := fun h => by
    rcases h.2 with ⟨rfl, rfl⟩ | ⟨g, cap, cur, rfl, _⟩
    · exact ⟨none, 0, rfl⟩
    · exact ⟨_, cap, rfl⟩
  rcases hs with rfl | ⟨ad, rfl, hc⟩
  · obtain rfl : m = 0 := hm.symm
    obtain ⟨b, cap, hv, hle⟩ : ∃ b cap, v = .slice b n cap ∧ n ≤ cap := by
      rcases hown.2 with ⟨rfl, rfl⟩ | ⟨g, cap, cur, rfl, _, _, h, _⟩
      · exact ⟨none, 0, rfl, Nat.le_refl _⟩
      · exact ⟨_, cap, rfl, h⟩
    subst hv
    exact ⟨b, cap, w, run_append_zero w _ _ ty _ _ it Try.underlying64 Try.underlying64 hit b xa n cap xc hle, by simpa [wCells] using hown, World.grownBy.refl _ _, Or.inl rfl⟩
  · obtain ⟨v', w', h1, h2, h3, _, h5⟩ := run_append_own_at (P := Try.prog) w base 64 ty 60 it _ 2 16 Try.underlying64 hit htz0 htz1 htz2 rfl (by decide) _ n xs hown ad m xc (wCells ps) (by rw [wCells_length, hm]) hc (wCells_one _) (by unfold maxLen; omega) (by omega) hbase
    obtain ⟨a', c', rfl⟩ := form h2
    exact ⟨a', c', w', h1, h2, h3, h5⟩
theorem step_append_w2 {w : World} {ops : Array Oper} {o : Oper} {a : Act} {K : Act → World → Prop} {Q : Exit → Act → World → Prop} {E : Prop} (hgd : o.guard = none) (s x : Operand) (ho : o.op = .call { callee := .builtin .append, args := #[s, x], argTypes := #[64, 64] })
    {base : Nat} {v : Value} {n m xc : Nat} {xs : List Value} {ps : List Wd} {xa : Option Addr} (hs : a.eval s = v) (hx : a.eval x = .slice xa m xc) (hown : w.ownsRow base 60 2 v n xs) (hw : WordsAt w ps xa) (hm : ps.length = m) (h63 : n + m ≤ 200000) (hbase : base ≤ w.heap.size)
    (hK : ∀ a' c' w', w'.ownsRow base 60 2 (.slice a' (n + m) c') (n + m) (xs ++ wCells ps) → w.grownBy w' v.ownBlock → ((Value.slice a' (n + m) c').ownBlock = v.ownBlock ∨ (Value.slice a' (n + m) c').ownBlock = some w.heap.size) → K (a.put o.dst (.slice a' (n + m) c')) w') :
    if Region.wanted o (yielded ops a.tmps) = true then Oper.wp Try.prog o a w K Q else E := by
  have hwt : Region.wanted o (yielded ops a.tmps) = true := by simp [Region.wanted, hgd]
  rw [if_pos hwt]
  obtain ⟨a', c', w', hr, h2, h3, h5⟩ := run_append_w2 (xc := xc) o.type hown hw hm h63 hbase
  unfold Oper.wp execOp
  simp only [ho, resolve, invoke, builtin, Sem.run_bind, Sem.run_pure, Result.andThen_ok, List.map_toArray, List.map_cons, List.map_nil, hs, hx, hr]
  exact hK _ _ _ h2 h3 h5

/-- The state's word and the mail are written anew. -/
theorem HpAt.turn {base pb : Nat} {name : ByteArray} {sv sv' : Wd} {mv mv' : Value} {room : Int} {ws : List Wd} {nm : List ByteArray} {M : Nat → Prop} {w w' : World} (h : HpAt base (PL pb name sv mv) room ws nm M w) (k : Keep (fun b => b = pb) w w')
    (hc : ∀ tv lv mp : Value, w.heap[pb]? = some (.cells #[.string name, .int .i64 room, tv, lv, mp, .int .i64 sv.1, .int .i64 sv.2, mv] 73) → w'.heap[pb]? = some (.cells #[.string name, .int .i64 room, tv, lv, mp, .int .i64 sv'.1, .int .i64 sv'.2, mv'] 73)) : HpAt base (PL pb name sv' mv') room ws nm M w' := by
  obtain ⟨tv, lv, mp, h1, h2, h3, h4, h5, h6, h7⟩ := h
  refine ⟨tv, lv, mp, ⟨⟨rfl, Or.inr rfl⟩, hc tv lv mp h1.2⟩, row_kept h2 k (fun b e e' => ?_), h3.kept k (fun b e e' => ?_) (fun b e e' => ?_), h4, h5, h6, h7⟩
  · subst e'
    exact row_box h2 h1 (by decide) e
  · subst e'
    exact row_box h3.1 h1 (by decide) e
  · subst e'
    exact map_box h3 h1 e
theorem MailAt.words {Mh : Nat → Prop} {ma : Option Addr} {vs : List Wd} {mc : Nat} {w : World} (h : MailAt Mh ma vs mc w) : WordsAt w vs ma := by
  rcases h with ⟨_, e, _⟩ | ⟨g, mo, cur, e1, _, e3, e4, _, e6, e7⟩
  · exact Or.inl e
  · refine Or.inr ⟨⟨g, mo, none⟩, e1, fun j u hj => ?_⟩
    have hl := (List.getElem?_eq_some_iff.1 hj).1
    have hj' := hj
    rw [← e7, List.getElem?_take] at hj'
    split at hj'
    · rw [List.getElem?_drop, Array.getElem?_toList] at hj'
      have e : (⟨g, mo, none⟩ : Addr).add j = ⟨g, mo + j, none⟩ := by unfold Addr.add; split <;> simp [*]
      rw [e]
      simp [World.cell?, e3, hj']
    · cases hj'

/-- What a process has when its heap was just collected. -/
theorem PHas.tidied {N : Nat} {ws : List Wd} {nm : List ByteArray} {room : Int} {us : List Wd} {ts : List (Tm N)} (h : PHas N ws nm room us ts) : PHas N (rootsR ws N us).2.1 nm room (rootsR ws N us).1 ts ∧ ((rootsR ws N us).2.1.length : Int) = (ts.map (sz N)).sum ∧ (rootsR ws N us).1.length = us.length := by
  obtain ⟨k1, k2, k3, k4, k5, k6, k7, k8⟩ := h
  obtain ⟨e1, e2, e3⟩ := roots_tree k8 k1 k2
  have hr : ∀ y ∈ ts, RightA ⟨N, y⟩ := fun y hy => chk_right (k3 y hy).1
  have hst := layL_stands (fun x ws nm hx => layF_stands N x ws nm hx) ts [] nm hr
  have hsum := layL_sum N ts [] nm
  have hpl := layL_plc (fun x ws nm hx => lay_plc N x ws nm hx) ts [] nm hr
  have hln := layL_length (layF N) ts [] nm
  rw [e3] at hst
  rw [e1, e2]
  simp only [List.length_nil] at hsum
  refine ⟨⟨⟨hln, fun i v y hv hy => ?_⟩, hpl.1, k3, by omega, by omega, k6, k7, k8⟩, by omega, by rw [hln, k1.1]⟩
  obtain ⟨u, hu, hs⟩ := hst i y hy
  rw [hv] at hu
  injection hu with hu
  rw [hu]
  exact hs
theorem sum_bound {N : Nat} {f : Tm N → Nat} {c : Nat} : (l : List (Tm N)) → (∀ y ∈ l, f y ≤ c) → (l.map f).sum ≤ l.length * c
  | [], _ => by simp
  | y :: l, h => by
    have h1 := h y (by simp)
    have h2 := sum_bound l fun z hz => h z (by simp [hz])
    simp only [List.map_cons, List.sum_cons, List.length_cons, Nat.succ_mul]
    omega
end Go.Proofs.Ytbmjfnicfpdjfaa
namespace Go.Proofs.Ytbmjfnicfpdjfaa
open Go.RowKit

theorem set_apart (w : World) {g q : Nat} (h : g ≠ q) (o : Nat) (v : Value) (j : Nat) : (w.setCell ⟨q, o, none⟩ v).cell? ⟨g, j, none⟩ = w.cell? ⟨g, j, none⟩ := by
  refine block_cell ?_ j
  have h' : ¬ q = g := fun e => h e.symm
  simp [World.setCell, Array.getElem?_modify, h']
/-- Where the mail's row lies behind Collect's answer (a slice of nothing keeps its beginning). -/
def mailA (g L : Nat) : Option Addr := if L = 0 then some ⟨g, 0, none⟩ else some ⟨g, 2, none⟩
def turnW (w : World) (pb : Nat) (sv : Wd) (mv : Value) : World := ((w.setCell ⟨pb, 5, none⟩ (.int .i64 sv.1)).setCell ⟨pb, 5 + 1, none⟩ (.int .i64 sv.2)).setCell ⟨pb, 7, none⟩ mv
set_option maxHeartbeats 2000000 in
set_option maxRecDepth 100000 in
theorem tidy_walk (pb : Nat) (sv : Wd) (vs : List Wd) (L : Nat) (ma : Option Addr) (mc : Nat) (w : World) (Fin : Nat → Wd → World → World → Prop) (hL : Hid (vs.length = L)) (hL2 : L ≤ 1000) (HC7 : Hid (∀ w1, Below w.heap.size w w1 → w1.cell? ⟨pb, 5, none⟩ = some (.int .i64 sv.1) ∧ w1.cell? ⟨pb, 5 + 1, none⟩ = some (.int .i64 sv.2) ∧ w1.cell? ⟨pb, 7, none⟩ = some (.slice ma L mc)))
    (HWA : Hid (∀ w1, Below w.heap.size w w1 → WordsAt w1 vs ma))
    (HCO : Hid (∀ w1, Below w.heap.size w w1 → ∀ (a : Option Addr) (c : Nat), w1.ownsRow w.heap.size 60 2 (.slice a (1 + L) c) (1 + L) (wCells (sv :: vs)) → Calls Try.prog 32 #[.pointer (some ⟨pb, 1, none⟩), .slice a (1 + L) c] w1 fun e w' => ∃ (g : Nat) (sv' : Wd), e = .returned (.tuple #[.slice (some ⟨g, 0, none⟩) (1 + L) (1 + L), .int .i64 0]) ∧ Hid ((w'.cell? ⟨g, 0, none⟩ = some (.int .i64 sv'.1) ∧ w'.cell? ⟨g, 1, none⟩ = some (.int .i64 sv'.2)) ∧ g ≠ pb ∧ (∃ v5 v6 v7, w'.cell? ⟨pb, 5, none⟩ = some v5 ∧ w'.cell? ⟨pb, 5 + 1, none⟩ = some v6 ∧ w'.cell? ⟨pb, 7, none⟩ = some v7) ∧ (∀ j, w'.frozen? ⟨pb, j, none⟩ = false) ∧ Fin g sv' w1 w'))) :
    Calls Try.prog 16 #[.pointer (some ⟨pb, 0, none⟩)] w fun e w' => e = .returned (.tuple #[]) ∧ ∃ (g : Nat) (sv' : Wd) (w1 w2 : World), w' = (turnW w2 pb sv' (.slice (mailA g L) L L)).drew ∧ Hid (Below w.heap.size w w1 ∧ Fin g sv' w1 w2) := by
  obtain ⟨c5, c6, c7⟩ := HC7.out w (Below.refl _ _)
  have HD0 : Hid (Below w.heap.size w w.drew) := (Below.refl _ _).drew
  have HD1 : Hid (Below w.heap.size w (w.alloc (.cells #[.int .i64 sv.1, .int .i64 sv.2] 60)).drew ∧ (w.alloc (.cells #[.int .i64 sv.1, .int .i64 sv.2] 60)).drew.ownsRow w.heap.size 60 2 (.slice (some ⟨w.heap.size, 0, none⟩) 1 1) 1 (wd2 sv)) := by
    refine ⟨by go_grown, rfl, Or.inr ⟨w.heap.size, 1, #[.int .i64 sv.1, .int .i64 sv.2], rfl, Nat.le_refl _, new_last w _ rfl, Nat.le_refl _, by unfold maxLen; omega, rfl, rfl⟩⟩
  go_enter Try.func16, Try.ntmps16
  go_wp2_with fail
  go_region_held3 (fun w' => w'.cell? ⟨pb, 5, none⟩ = some (.int .i64 sv.1) ∧ w'.cell? ⟨pb, 5 + 1, none⟩ = some (.int .i64 sv.2) ∧ w'.cell? ⟨pb, 7, none⟩ = some (.slice ma L mc)) (first | (go_keep; done) | with_reducible exact HC7.out _ HD0.out | with_reducible exact HC7.out _ HD1.out.1 | exact HC7.out _ HB2.out)
    ((refine step_append_w2 rfl _ _ rfl (base := w.heap.size) (v := .slice (some ⟨w.heap.size, 0, none⟩) 1 1) (n := 1) (m := L) (xc := mc) (xs := wd2 sv) (ps := vs) (xa := ma) (by simp [Act.eval]) (by simp [Act.eval]) HD1.out.2 (HWA.out _ HD1.out.1) hL.out (by omega) (by have := HD1.out.1.size; exact this) ?_; intro a2 c2 w2 hown2 hgrow2 hat2; have HB2 : Hid (Below w.heap.size w w2) := (HD1.out.1.trans ⟨hgrow2.os, hgrow2.tape, hgrow2.output, hgrow2.size, fun b hb => hgrow2.block b (Nat.lt_of_lt_of_le hb HD1.out.1.size) (fun e => by simp [Value.ownBlock] at e; omega)⟩); have HOW := hide (show w2.ownsRow w.heap.size 60 2 (.slice a2 (1 + L) c2) (1 + L) (wCells (sv :: vs)) from hown2); clear hown2 hgrow2 hat2))
  have HC2 := hide (HCO.out w2 HB2.out a2 c2 HOW.out)
  clear c5 c6 c7
  go_wp2_with fail
  refine HC2.out.mono ?_
  rintro e w3 ⟨g, sv', rfl, H3⟩
  obtain ⟨⟨g0, g1⟩, hgp, ⟨v5, v6, v7, d5, d6, d7⟩, hf, HFin⟩ := H3.out
  replace HFin := hide HFin
  have hl0 : (0 : Int) < 1 + (L : Int) := by omega
  have hl1 : (1 : Int) ≤ 1 + (L : Int) := by omega
  have hgp' : pb ≠ g := fun e => hgp e.symm
  have HKS : Hid (∀ a b : Value, ((w3.setCell ⟨pb, 5, none⟩ a).setCell ⟨pb, 5 + 1, none⟩ b).cell? ⟨g, 0, none⟩ = some (.int .i64 sv'.1) ∧ ((w3.setCell ⟨pb, 5, none⟩ a).setCell ⟨pb, 5 + 1, none⟩ b).cell? ⟨g, 1, none⟩ = some (.int .i64 sv'.2)) := fun a b => by
    have hk : ∀ j, ((w3.setCell ⟨pb, 5, none⟩ a).setCell ⟨pb, 5 + 1, none⟩ b).cell? ⟨g, j, none⟩ = w3.cell? ⟨g, j, none⟩ := fun j => (set_apart _ hgp _ _ j).trans (set_apart _ hgp _ _ j)
    exact ⟨(hk _).trans g0, (hk _).trans g1⟩
  have HKT : Hid (∀ a b c : Value, (((w3.setCell ⟨pb, 5, none⟩ a).setCell ⟨pb, 5 + 1, none⟩ b).setCell ⟨pb, 7, none⟩ c).cell? ⟨g, 0, none⟩ = some (.int .i64 sv'.1) ∧ (((w3.setCell ⟨pb, 5, none⟩ a).setCell ⟨pb, 5 + 1, none⟩ b).setCell ⟨pb, 7, none⟩ c).cell? ⟨g, 1, none⟩ = some (.int .i64 sv'.2)) := fun a b c => by
    have hk : ∀ j, (((w3.setCell ⟨pb, 5, none⟩ a).setCell ⟨pb, 5 + 1, none⟩ b).setCell ⟨pb, 7, none⟩ c).cell? ⟨g, j, none⟩ = w3.cell? ⟨g, j, none⟩ := fun j => (set_apart _ hgp _ _ j).trans ((set_apart _ hgp _ _ j).trans (set_apart _ hgp _ _ j))
    exact ⟨(hk _).trans g0, (hk _).trans g1⟩
  go_wp2_with fail
  go_region_held3 (fun w' => w'.cell? ⟨g, 0, none⟩ = some (.int .i64 sv'.1) ∧ w'.cell? ⟨g, 1, none⟩ = some (.int .i64 sv'.2)) (first | (go_keep; done) | exact HKS.out _ _ | exact HKT.out _ _ _) (fail)
  exact bodyPost_end (v := .tuple #[]) (by simp [results]) rfl ⟨rfl, g, sv', w2, w3, rfl, HB2.out, HFin.out⟩
end Go.Proofs.Ytbmjfnicfpdjfaa
namespace Go.Proofs.Ytbmjfnicfpdjfaa
open Go.RowKit

/-- What a process has, without its last words. -/
theorem PHas.front {N : Nat} {ws : List Wd} {nm : List ByteArray} {room : Int} {us us' : List Wd} {ts ts' : List (Tm N)} (h : PHas N ws nm room (us ++ us') (ts ++ ts')) (hl : us.length = ts.length) : PHas N ws nm room us ts := by
  obtain ⟨k1, k2, k3, k4, k5, k6, k7, k8⟩ := h
  refine ⟨⟨hl, fun i v y hv hy => k1.2 i v y ?_ ?_⟩, ?_, fun y hy => k3 y (List.mem_append_left _ hy), ?_, k5, k6, k7, k8⟩
  · rw [List.getElem?_append_left (List.getElem?_eq_some_iff.1 hv).1]
    exact hv
  · rw [List.getElem?_append_left (List.getElem?_eq_some_iff.1 hy).1]
    exact hy
  · rw [List.flatMap_append] at k2
    exact (List.nodup_append.1 k2).1
  · rw [List.map_append, List.sum_append] at k4
    have h0 : (0 : Int) ≤ (ts'.map (sz N)).sum := by
      clear k1 k2 k4
      induction ts' with
      | nil => simp
      | cons y l ih =>
        have h1 := ih fun z hz => k3 z (by simp only [List.mem_append, List.mem_cons] at hz ⊢; rcases hz with hz | hz <;> simp [hz])
        have h2 := (sz_bound N y).1
        simp only [List.map_cons, List.sum_cons]
        omega
    omega
theorem sum_one {N : Nat} : (l : List (Tm N)) → (l.map fun y => 1 + sz N y).sum = l.length + (l.map (sz N)).sum
  | [] => by simp
  | y :: l => by
    have h := sum_one l
    simp only [List.map_cons, List.sum_cons, List.length_cons, h]
    omega
theorem nodes_sum {N : Nat} : (l : List (Tm N)) → (∀ y ∈ l, RightA ⟨N, y⟩) → ((l.flatMap fun y => nodes N y).length : Int) ≤ (l.map fun y => 1 + sz N y).sum
  | [], _ => by simp
  | y :: l, h => by
    have h1 := nodes_sum l fun z hz => h z (by simp [hz])
    have h2 := nodes_le N y (h y (by simp))
    simp only [List.flatMap_cons, List.length_append, List.map_cons, List.sum_cons]
    omega
theorem PHas.roots {N : Nat} {ws : List Wd} {nm : List ByteArray} {room : Int} {us : List Wd} {ts : List (Tm N)} (h : PHas N ws nm room us ts) (hu : us.length ≤ 1000) : Roots ws nm N us ts := by
  obtain ⟨k1, k2, k3, k4, k5, k6, k7, k8⟩ := h
  have hr : ∀ y ∈ ts, RightA ⟨N, y⟩ := fun y hy => chk_right (k3 y hy).1
  have h1 := sum_one ts
  have h2 := nodes_sum ts hr
  have h3 := k1.1
  exact ⟨k1, hr, fun y hy => (k3 y hy).2, by omega, by omega, hu⟩
theorem own_words2 {base n c : Nat} {a : Option Addr} {vs : List Wd} {w : World} (h : w.ownsRow base 60 2 (.slice a n c) n (wCells vs)) (h0 : 0 < n) : WordsIn w vs a ∧ ∀ b o, a = some ⟨b, o, none⟩ → b < w.heap.size := by
  rcases h.2 with ⟨e, e0⟩ | ⟨g, cap, cur, e, hg, hh, _⟩
  · omega
  · injection e with e1 e2 e3
    subst e1 e3
    have hlt := (Array.getElem?_eq_some_iff.1 hh).1
    refine ⟨Or.inr ⟨g, 0, rfl, hlt, fun i v hv => ?_⟩, fun b o e => ?_⟩
    · have := word_cells h i v hv
      rw [Nat.zero_add]
      exact this
    · injection e with e
      injection e with e
      omega
section
variable {base pb : Nat} {name : ByteArray} {room : Int} {N : Nat} {s : Tm (N + 1)} {ms : List (Tm (N + 1))} {xs : List (Wd × Tm (N + 1))} {nk : Nat} {M : Nat → Prop} {w : World} {ws : List Wd} {nm : List ByteArray} {sv : Wd} {vs : List Wd} {ma : Option Addr} {mc : Nat} {Mh : Nat → Prop}
theorem PrAt.front (h : PrAt base pb name room (N + 1) s ms xs nk M w ws nm sv vs ma mc Mh) : PHas (N + 1) ws nm room (sv :: vs) (s :: ms) :=
  PHas.front h.has (by simp [h.len])
theorem turn_cells {w : World} {pb : Nat} {c0 c1 c2 c3 c4 c5 c6 c7 : Value} {t : TypeId} (sv : Wd) (mv : Value) (h : w.heap[pb]? = some (.cells #[c0, c1, c2, c3, c4, c5, c6, c7] t)) : (turnW w pb sv mv).heap[pb]? = some (.cells #[c0, c1, c2, c3, c4, .int .i64 sv.1, .int .i64 sv.2, mv] t) := by
  unfold turnW World.setCell
  simp [Array.getElem?_modify, h]
theorem turn_keep (w : World) (pb : Nat) (sv : Wd) (mv : Value) : Keep (fun b => b = pb) w (turnW w pb sv mv).drew := by
  have h1 := keep_set w pb 5 (.int .i64 sv.1)
  have h2 := keep_set (w.setCell ⟨pb, 5, none⟩ (.int .i64 sv.1)) pb (5 + 1) (.int .i64 sv.2)
  have h3 := keep_set ((w.setCell ⟨pb, 5, none⟩ (.int .i64 sv.1)).setCell ⟨pb, 5 + 1, none⟩ (.int .i64 sv.2)) pb 7 mv
  have h := (h1.trans h2 fun _ _ k => k).trans h3 fun _ _ k => k
  exact ⟨h.os, h.tape, h.output, h.size, h.block⟩
/-- What Tidy leaves. -/
def TidyOut (base pb : Nat) (name : ByteArray) (room : Int) (N : Nat) (s : Tm N) (ms : List (Tm N)) (nk : Nat) (M : Nat → Prop) (nm : List ByteArray) (w : World) (e : Ending) (w' : World) : Prop :=
  e = .returned (.tuple #[]) ∧ ∃ ws' sv' vs' ma' Mh', PrAt base pb name room N s ms [] nk (fun b => M b ∨ w.heap.size ≤ b) w' ws' nm sv' vs' ma' vs'.length Mh' ∧ Hid (Keep M w w' ∧ (ws'.length : Int) = ((s :: ms).map (sz N)).sum)
theorem PrAt.tidy (h : PrAt base pb name room (N + 1) s ms xs nk M w ws nm sv vs ma mc Mh) (hnk : nk ≤ 50000) (h20 : ms.length ≤ 999) (hbw : base ≤ w.heap.size) :
    Calls Try.prog 16 #[.pointer (some ⟨pb, 0, none⟩)] w (TidyOut base pb name room (N + 1) s ms nk M nm w) := by
  have hfr := h.front
  have hlen := h.len
  have hnn := h.names
  have hrt := hfr.roots (by simp only [List.length_cons]; omega)
  obtain ⟨ht1, ht2, ht3⟩ := hfr.tidied
  obtain ⟨sv', vs', hR⟩ : ∃ sv' vs', (rootsR ws (N + 1) (sv :: vs)).1 = sv' :: vs' := by
    cases hh : (rootsR ws (N + 1) (sv :: vs)).1 with
    | nil => rw [hh] at ht3; simp at ht3
    | cons a l => exact ⟨a, l, rfl⟩
  rw [hR] at ht1 ht3
  simp only [List.length_cons] at ht3
  have hLv : vs'.length = vs.length := by omega
  obtain ⟨_, _, _, _, k5, _, k7, _⟩ := hfr
  refine (tidy_walk pb sv vs vs.length ma mc w (fun g u w1 w3 => u = sv' ∧ CollOut base (PL pb name sv (.slice ma vs.length mc)) room (rootsR ws (N + 1) (sv :: vs)) nm Mh g w1 w3) rfl (by omega) ?_ ?_ ?_).mono ?_
  · intro w1 hb
    obtain ⟨tv, lv, mv, h1, _⟩ := (h.later hb).heap.box
    obtain ⟨_, c5, c6, c7, _⟩ := PL.cells h1
    exact ⟨c5, c6, c7⟩
  · intro w1 hb
    exact (h.later hb).mail.words
  · intro w1 hb a c hown
    have hs := hb.size
    obtain ⟨hin, hlt⟩ := own_words2 hown (by omega)
    have hl : (sv :: vs).length = 1 + vs.length := by simp only [List.length_cons]; omega
    have hc := hcollect_any (N + 1) (s :: ms) (sv :: vs) a c base (PL pb name sv (.slice ma vs.length mc)) room ws nm Mh w1 (h.later hb).heap hrt hin hlt (by omega) (by omega) (by omega)
    rw [hl] at hc
    refine hc.mono ?_
    rintro e w3 ⟨g, rfl, HO⟩
    have HO2 := HO.out
    obtain ⟨o1, o2, o3, o4, o5, o6⟩ := HO2
    obtain ⟨tv, lv, mv, h1, _⟩ := o1.box
    obtain ⟨_, d5, d6, d7, d8, d9⟩ := PL.cells h1
    obtain ⟨tv0, lv0, mv0, h10, _⟩ := (h.later hb).heap.box
    have hpb : pb < w1.heap.size := (PL.cells h10).2.2.2.2.2
    refine ⟨g, sv', rfl, ⟨?_, by omega, ⟨_, _, _, d5, d6, d7⟩, d8, rfl, HO.out⟩⟩
    rw [hR] at o3
    rcases o3 with e | ⟨b, o, e, hlb, hcl⟩
    · cases e
    · injection e with e
      injection e with e1 e2
      subst e1 e2
      have := hcl 0 sv' rfl
      simpa using this
  · rintro e w' ⟨rfl, g, u, w1, w3, rfl, HF⟩
    obtain ⟨hb, rfl, o1, o2, o3, o4, o5, len, o6⟩ := HF.out
    have hs := hb.size
    obtain ⟨tv0, lv0, mv0, h10, _⟩ := (h.later hb).heap.box
    have hpb : pb < w1.heap.size := (PL.cells h10).2.2.2.2.2
    have hMp : Mh pb := by
      obtain ⟨_, _, _, _, _, _, q, _⟩ := h.heap
      exact q
    have hk := turn_keep w3 pb u (.slice (mailA g vs.length) vs.length vs.length)
    rw [hR] at o6
    have hgp : ¬ g = pb := by omega
    refine ⟨rfl, (rootsR ws (N + 1) (sv :: vs)).2.1, u, vs', mailA g vs.length, fun b => (Mh b ∨ w1.heap.size ≤ b) ∧ b ≠ g, ⟨?_, ?_, ?_, by omega, hnn, ?_, ?_⟩, ?_⟩
    · rw [hLv]
      exact o1.turn hk fun tv lv mp hc => turn_cells u _ hc
    · rw [hLv]
      rcases o6.2 with ⟨e, e0⟩ | ⟨g', cap, cur, e, _, hh, hle, hmx, hsz, htk⟩
      · cases e
      · injection e with e1 e2 e3
        injection e1 with e1
        injection e1 with e1
        subst e1 e3
        have hh' : (turnW w3 pb u (.slice (mailA g vs.length) vs.length vs.length)).drew.heap[g]? = some (.cells cur 60 (0, 0)) := (hk.block g (Array.getElem?_eq_some_iff.1 hh).1 hgp).trans hh
        have hlen2 := o6.1
        rw [wCells_length] at hlen2
        simp only [List.length_cons] at hlen2
        refine Or.inr ?_
        by_cases h0 : vs.length = 0
        · refine ⟨g, 0, cur, by simp [mailA, h0], by simp, hh', by omega, by unfold maxLen; omega, by omega, ?_⟩
          have : vs' = [] := List.length_eq_zero_iff.1 (by omega)
          simp [this, wCells]
        · refine ⟨g, 2, cur, by simp [mailA, h0], by simp, hh', by omega, by omega, by omega, ?_⟩
          have e : len * 2 = 2 + vs'.length * 2 := by omega
          rw [e] at htk
          have e2 := congrArg (List.drop 2) htk
          rw [List.drop_take, show 2 + vs'.length * 2 - 2 = vs'.length * 2 from by omega] at e2
          exact e2
    · simpa using ht1
    · intro b hb'
      rcases hb'.1 with q | q
      · exact Or.inl (h.inM b q)
      · exact Or.inr (by omega)
    · intro a ha
      have : a.block = g := by
        unfold mailA at ha
        split at ha
        · injection ha with ha; rw [← ha]
        · injection ha with ha; rw [← ha]
      exact Or.inr (by omega)
    · refine ⟨?_, ht2⟩
      refine Keep.trans ((keep_below hb M).trans (o2.mono h.inM) fun _ _ q => q) hk fun b _ q => ?_
      rw [q]
      exact h.inM pb hMp
end
end Go.Proofs.Ytbmjfnicfpdjfaa
namespace Go.Proofs.Ytbmjfnicfpdjfaa
open Go.RowKit

/-- A call's own boxes stay. -/
def Up (n : Nat) (w0 w1 : World) : Prop := w0.heap.size ≤ w1.heap.size ∧ ∀ b, n ≤ b → b < n + 3 → b < w0.heap.size → w1.heap[b]? = w0.heap[b]?
theorem set_block2 (w : World) {b q : Nat} (h : b ≠ q) (o : Nat) (v : Value) : (w.setCell ⟨q, o, none⟩ v).heap[b]? = w.heap[b]? := by
  have h' : ¬ q = b := fun e => h e.symm
  simp [World.setCell, Array.getElem?_modify, h']
def put2 (w : World) (g : Nat) (a b : Value) : World := (w.setCell ⟨g, 0, none⟩ a).setCell ⟨g, 0 + 1, none⟩ b
theorem put2_block {w : World} {g b : Nat} (h : b ≠ g) (x y : Value) : (put2 w g x y).heap[b]? = w.heap[b]? := (set_block2 _ h _ _).trans (set_block2 _ h _ _)
theorem put2_size (w : World) (g : Nat) (x y : Value) : (put2 w g x y).heap.size = w.heap.size := by simp [put2, World.setCell]

set_option maxHeartbeats 2000000 in
theorem put_walk (pb : Nat) (k i : Int) (t : ByteArray) (ta : Option Addr) (tl tc : Nat) (w : World) (F1 : Wd → Int → World → World → Prop) (F2 : World → World → Prop) (F3 : Wd → Int → World → World → Prop)
    (HP1 : Hid (∀ w0, Below w.heap.size w w0 → Calls Try.prog 21 #[.pointer (some ⟨pb, 1, none⟩), .agg #[.int .i64 k, .int .i64 i, .string t, .slice ta tl tc]] w0 fun e w1 => ∃ (v : Wd) (e1 : Int), e = .returned (.tuple #[.agg #[.int .i64 v.1, .int .i64 v.2], .int .i64 e1]) ∧ Hid (Up w.heap.size w0 w1 ∧ F1 v e1 w0 w1)))
    (HT : Hid (∀ v1 w0 w1 w2, Below w.heap.size w w0 → F1 v1 6 w0 w1 → Keep (fun b => w.heap.size ≤ b ∧ b < w0.heap.size) w1 w2 → w.heap.size + 3 ≤ w2.heap.size → Calls Try.prog 16 #[.pointer (some ⟨pb, 0, none⟩)] w2 fun e w3 => e = .returned (.tuple #[]) ∧ Hid (Up w.heap.size w2 w3 ∧ F2 w2 w3)))
    (HP2 : Hid (∀ w2 w3 w5, F2 w2 w3 → w.heap.size + 3 ≤ w2.heap.size → Below w3.heap.size w3 w5 → Calls Try.prog 21 #[.pointer (some ⟨pb, 1, none⟩), .agg #[.int .i64 k, .int .i64 i, .string t, .slice ta tl tc]] w5 fun e w4 => ∃ (v : Wd) (e1 : Int), e = .returned (.tuple #[.agg #[.int .i64 v.1, .int .i64 v.2], .int .i64 e1]) ∧ Hid (Up w.heap.size w5 w4 ∧ F3 v e1 w5 w4))) :
    Calls Try.prog 23 #[.pointer (some ⟨pb, 0, none⟩), .agg #[.int .i64 k, .int .i64 i, .string t, .slice ta tl tc]] w fun e w' => ∃ (v : Wd) (e1 : Int), e = .returned (.tuple #[.agg #[.int .i64 v.1, .int .i64 v.2], .int .i64 e1]) ∧
      ((e1 ≠ 6 ∧ ∃ w0 w1, Below w.heap.size w w0 ∧ F1 v e1 w0 w1 ∧ Keep (fun b => w.heap.size ≤ b ∧ b < w0.heap.size) w1 w') ∨ ∃ v1 w0 w1 w2 w3 w5 w4, Below w.heap.size w w0 ∧ F1 v1 6 w0 w1 ∧ Keep (fun b => w.heap.size ≤ b ∧ b < w0.heap.size) w1 w2 ∧ w.heap.size + 3 ≤ w2.heap.size ∧ F2 w2 w3 ∧ Below w3.heap.size w3 w5 ∧ F3 v e1 w5 w4 ∧ Keep (fun b => b = w.heap.size + 1) w4 w') := by
  go_enter Try.func23, Try.ntmps23
  go_wp2_with fail
  have HN := hide (two_new w (.cells #[.int .i64 k, .int .i64 i, .string t, .slice ta tl tc] 25) (.cells #[.int .i64 0, .int .i64 0] 60))
  have HNB : Hid (Below w.heap.size w ((w.alloc (.cells #[.int .i64 k, .int .i64 i, .string t, .slice ta tl tc] 25)).alloc (.cells #[.int .i64 0, .int .i64 0] 60)) ∧ ((w.alloc (.cells #[.int .i64 k, .int .i64 i, .string t, .slice ta tl tc] 25)).alloc (.cells #[.int .i64 0, .int .i64 0] 60)).heap.size = w.heap.size + 1 + 1) := ⟨by go_grown, by simp⟩
  generalize hW0 : (w.alloc _).alloc _ = W0
  rw [hW0] at HN HNB
  clear hW0
  have HK : Hid (∀ w' : World, w'.heap[w.heap.size]? = W0.heap[w.heap.size]? → w'.cell? ⟨w.heap.size, 0, none⟩ = some (.int .i64 k) ∧ w'.cell? ⟨w.heap.size, 1, none⟩ = some (.int .i64 i) ∧ w'.cell? ⟨w.heap.size, 2, none⟩ = some (.string t) ∧ w'.cell? ⟨w.heap.size, 3, none⟩ = some (.slice ta tl tc)) := fun w' h => by
    have h1 := h.trans HN.out.1
    exact ⟨box_cell h1 0, box_cell h1 1, box_cell h1 2, box_cell h1 3⟩
  obtain ⟨k0, k1, k2, k3⟩ := HK.out W0 rfl
  have HD0 : Hid (Below W0.heap.size W0 W0.drew ∧ W0.drew.heap[w.heap.size]? = W0.heap[w.heap.size]?) := ⟨(Below.refl _ _).drew, rfl⟩
  have HD1 : Hid (Below W0.heap.size W0 (W0.alloc (.cells #[.int .i64 0, .int .i64 0] 60)).drew ∧ (W0.alloc (.cells #[.int .i64 0, .int .i64 0] 60)).drew.heap[w.heap.size]? = W0.heap[w.heap.size]?) := by
    have h : Below W0.heap.size W0 (W0.alloc (.cells #[.int .i64 0, .int .i64 0] 60)).drew := by go_grown
    exact ⟨h, h.block _ (by have := HNB.out.2; omega)⟩
  have HNX : Hid ((W0.alloc (.cells #[.int .i64 0, .int .i64 0] 60)).drew.heap[W0.heap.size]? = some (.cells #[.int .i64 0, .int .i64 0] 60) ∧ (W0.alloc (.cells #[.int .i64 0, .int .i64 0] 60)).drew.heap.size = W0.heap.size + 1) := ⟨new_last W0 _ rfl, by simp⟩
  go_region_held3 (fun w' => w'.cell? ⟨w.heap.size, 0, none⟩ = some (.int .i64 k) ∧ w'.cell? ⟨w.heap.size, 1, none⟩ = some (.int .i64 i) ∧ w'.cell? ⟨w.heap.size, 2, none⟩ = some (.string t) ∧ w'.cell? ⟨w.heap.size, 3, none⟩ = some (.slice ta tl tc)) (first | (go_keep; done) | with_reducible exact HK.out _ HD0.out.2 | with_reducible exact HK.out _ HD1.out.2 | exact HK.out _ HB1.out | exact HK.out _ (HKA.out _) | exact HK.out _ (HKS.out _ _) | exact HK.out _ (HKT.out _ _ _))
    ((first
      | (go_at_call 21; refine (HP1.out _ (HNB.out.1.trans (HD0.out.1.mono HNB.out.1.size))).mono ?_; rintro e w1 ⟨v, e1, rfl, HY⟩; have HB1 : Hid (w1.heap[w.heap.size]? = W0.heap[w.heap.size]?) := (HY.out.1.2 _ (Nat.le_refl _) (by omega) (by have h1 := HD0.out.1.size; have h2 := HNB.out.2; omega)).trans HD0.out.2; have HKA : Hid (∀ o : Obj, (w1.alloc o).heap[w.heap.size]? = W0.heap[w.heap.size]?) := fun o => (alloc_keep w1 o (by have h1 := HY.out.1.1; have h2 := HD0.out.1.size; have h3 := HNB.out.2; omega)).trans HB1.out; have HKT : Hid (∀ (o : Obj) (a b : Value), (put2 (w1.alloc o) w1.heap.size a b).heap[w.heap.size]? = W0.heap[w.heap.size]?) := fun o a b => (put2_block (by have h1 := HY.out.1.1; have h2 := HD0.out.1.size; have h3 := HNB.out.2; omega) a b).trans (HKA.out o))
      | (go_at_call 21; refine (HP1.out _ (HNB.out.1.trans (HD1.out.1.mono HNB.out.1.size))).mono ?_; rintro e w1 ⟨v, e1, rfl, HY⟩; have HB1 : Hid (w1.heap[w.heap.size]? = W0.heap[w.heap.size]?) := (HY.out.1.2 _ (Nat.le_refl _) (by omega) (by have h1 := HD1.out.1.size; have h2 := HNB.out.2; omega)).trans HD1.out.2; have HX1 : Hid (w1.heap[W0.heap.size]? = some (.cells #[.int .i64 0, .int .i64 0] 60)) := (HY.out.1.2 W0.heap.size (by have h2 := HNB.out.2; omega) (by have h2 := HNB.out.2; omega) (by have h2 := HNX.out.2; omega)).trans HNX.out.1; have hq0 : w1.cell? ⟨W0.heap.size, 0, none⟩ = some (.int .i64 0) := box_cell HX1.out 0; have hq1 : w1.cell? ⟨W0.heap.size, 1, none⟩ = some (.int .i64 0) := box_cell HX1.out 1; have hqf := fun j => box_free HX1.out j; have HKS : Hid (∀ a b : Value, (put2 w1 W0.heap.size a b).heap[w.heap.size]? = W0.heap[w.heap.size]?) := fun a b => (put2_block (by have h3 := HNB.out.2; omega) a b).trans HB1.out)))
  · have HS : Hid (∃ w0 q w2, (q = w1.heap.size ∧ w2 = w1.alloc (.cells #[.int .i64 v.1, .int .i64 v.2] 60)) ∧ Below w.heap.size w w0 ∧ F1 v e1 w0 w1 ∧ Keep (fun b => w.heap.size ≤ b ∧ b < w0.heap.size) w1 w2 ∧ w.heap.size + 3 ≤ w2.heap.size ∧ w2.heap[w.heap.size]? = some (.cells #[.int .i64 k, .int .i64 i, .string t, .slice ta tl tc] 25) ∧ w2.heap[w.heap.size + 1]? = some (.cells #[.int .i64 0, .int .i64 0] 60) ∧ w2.heap[q]? = some (.cells #[.int .i64 v.1, .int .i64 v.2] 60) ∧ w.heap.size + 1 ≠ q ∧ w.heap.size + 2 ≤ w0.heap.size) := by
      have h1 := HY.out.1.1
      have h2 := HD0.out.1.size
      have h3 := HNB.out.2
      have hk : ∀ b, b < w1.heap.size → (w1.alloc (.cells #[.int .i64 v.1, .int .i64 v.2] 60)).heap[b]? = w1.heap[b]? := fun b hb => alloc_keep w1 _ hb
      refine ⟨W0.drew, _, _, ⟨rfl, rfl⟩, HNB.out.1.trans (HD0.out.1.mono HNB.out.1.size), HY.out.2, keep_below one_alloc _, by simp only [World.size_alloc]; omega, (HKA.out _).trans HN.out.1, ?_, heap_alloc_new _ _, by omega, by omega⟩
      exact (hk _ (by omega)).trans ((HY.out.1.2 _ (by omega) (by omega) (by omega)).trans ((HD0.out.1.block _ (by omega)).trans HN.out.2))
    obtain ⟨w0, q, w2, ⟨eq1, eq2⟩, HS2⟩ := HS.out
    rw [← eq1, ← eq2]
    replace HS2 := hide HS2
    clear eq1 eq2 HS HKA HKT HB1 HY
    have s0 : w2.cell? ⟨q, 0, none⟩ = some (.int .i64 v.1) := box_cell HS2.out.2.2.2.2.2.2.1 0
    have s1 : w2.cell? ⟨q, 1, none⟩ = some (.int .i64 v.2) := box_cell HS2.out.2.2.2.2.2.2.1 1
    have r0 : w2.cell? ⟨w.heap.size + 1, 0, none⟩ = some (.int .i64 0) := box_cell HS2.out.2.2.2.2.2.1 0
    have r1 : w2.cell? ⟨w.heap.size + 1, 1, none⟩ = some (.int .i64 0) := box_cell HS2.out.2.2.2.2.2.1 1
    have rf := fun j => box_free HS2.out.2.2.2.2.2.1 j
    by_cases h6 : e1 = 6
    rotate_left
    · have h6' : ¬ (6 : Int) = e1 := fun e => h6 e.symm
      go_wp2_with fail
      refine bodyPost_ret (v := .tuple #[.agg #[.int .i64 v.1, .int .i64 v.2], .int .i64 e1]) (by simp [results, Try.results23, go_sem, r0, r1]) rfl ?_
      obtain ⟨b1, b2, b3, _, _, _, _, _, b4⟩ := HS2.out
      refine ⟨v, e1, rfl, Or.inl ⟨h6, w0, w1, b1, b2, Keep.trans b3 ((keep_set w2 (w.heap.size + 1) 0 _).trans (keep_set _ (w.heap.size + 1) _ _) fun _ _ e => e) fun b _ e => ?_⟩⟩
      subst e
      omega
    · subst h6
      have HTT := hide (HT.out v w0 w1 w2 HS2.out.1 HS2.out.2.1 HS2.out.2.2.1 HS2.out.2.2.2.1)
      go_wp2_with fail
      refine HTT.out.mono ?_
      rintro e w3 ⟨rfl, H3⟩
      clear s0 s1 r0 r1 rf HTT
      have HU : Hid (w3.heap[w.heap.size]? = some (.cells #[.int .i64 k, .int .i64 i, .string t, .slice ta tl tc] 25) ∧ w3.heap[w.heap.size + 1]? = some (.cells #[.int .i64 0, .int .i64 0] 60) ∧ w.heap.size + 3 ≤ w3.heap.size) := by
        have hz := HS2.out.2.2.2.1
        have hu := H3.out.1
        exact ⟨(hu.2 _ (by omega) (by omega) (by omega)).trans HS2.out.2.2.2.2.1, (hu.2 _ (by omega) (by omega) (by omega)).trans HS2.out.2.2.2.2.2.1, Nat.le_trans hz hu.1⟩
      have HD3 : Hid (Below w3.heap.size w3 w3.drew) := (Below.refl _ _).drew
      have HK3 : Hid (∀ w' : World, w'.heap[w.heap.size]? = some (.cells #[.int .i64 k, .int .i64 i, .string t, .slice ta tl tc] 25) → w'.cell? ⟨w.heap.size, 0, none⟩ = some (.int .i64 k) ∧ w'.cell? ⟨w.heap.size, 1, none⟩ = some (.int .i64 i) ∧ w'.cell? ⟨w.heap.size, 2, none⟩ = some (.string t) ∧ w'.cell? ⟨w.heap.size, 3, none⟩ = some (.slice ta tl tc)) := fun w' h1 => ⟨box_cell h1 0, box_cell h1 1, box_cell h1 2, box_cell h1 3⟩
      obtain ⟨t0, t1, t2, t3⟩ := HK3.out w3 HU.out.1
      go_wp2_with fail
      go_region_held3 (fun w' => w'.cell? ⟨w.heap.size, 0, none⟩ = some (.int .i64 k) ∧ w'.cell? ⟨w.heap.size, 1, none⟩ = some (.int .i64 i) ∧ w'.cell? ⟨w.heap.size, 2, none⟩ = some (.string t) ∧ w'.cell? ⟨w.heap.size, 3, none⟩ = some (.slice ta tl tc)) (first | (go_keep; done) | exact HK3.out _ HU.out.1 | exact HK3.out _ HB4.out | exact HK3.out _ (HKS4.out _ _))
        ((go_at_call 21; refine (HP2.out w2 w3 _ H3.out.2 HS2.out.2.2.2.1 HD3.out).mono ?_; rintro e w4 ⟨v', e', rfl, H4⟩; have HB4 : Hid (w4.heap[w.heap.size]? = some (.cells #[.int .i64 k, .int .i64 i, .string t, .slice ta tl tc] 25)) := (H4.out.1.2 _ (Nat.le_refl _) (by omega) (by have h1 := HU.out.2.2; have h2 := HD3.out.size; omega)).trans HU.out.1; have HB5 : Hid (w4.heap[w.heap.size + 1]? = some (.cells #[.int .i64 0, .int .i64 0] 60)) := (H4.out.1.2 (w.heap.size + 1) (by omega) (by omega) (by have h1 := HU.out.2.2; have h2 := HD3.out.size; omega)).trans HU.out.2.1; have r0 : w4.cell? ⟨w.heap.size + 1, 0, none⟩ = some (.int .i64 0) := box_cell HB5.out 0; have r1 : w4.cell? ⟨w.heap.size + 1, 1, none⟩ = some (.int .i64 0) := box_cell HB5.out 1; have rf := fun j => box_free HB5.out j; have HKS4 : Hid (∀ a b : Value, (put2 w4 (w.heap.size + 1) a b).heap[w.heap.size]? = some (.cells #[.int .i64 k, .int .i64 i, .string t, .slice ta tl tc] 25)) := fun a b => (put2_block (by omega) a b).trans HB4.out))
      go_wp2_with fail
      refine bodyPost_ret (v := .tuple #[.agg #[.int .i64 v'.1, .int .i64 v'.2], .int .i64 e']) (by simp [results, Try.results23, go_sem, r0, r1]) rfl ?_
      obtain ⟨b1, b2, b3, b4, _⟩ := HS2.out
      exact ⟨v', e', rfl, Or.inr ⟨v, w0, w1, w2, w3, w3.drew, w4, b1, b2, b3, b4, H3.out.2, HD3.out, H4.out.2, (keep_set w4 (w.heap.size + 1) 0 _).trans (keep_set _ (w.heap.size + 1) _ _) fun _ _ e => e⟩⟩
  · have HS : Hid (∃ w0 q w2, (q = W0.heap.size ∧ w2 = put2 w1 W0.heap.size (.int .i64 v.1) (.int .i64 v.2)) ∧ Below w.heap.size w w0 ∧ F1 v e1 w0 w1 ∧ Keep (fun b => w.heap.size ≤ b ∧ b < w0.heap.size) w1 w2 ∧ w.heap.size + 3 ≤ w2.heap.size ∧ w2.heap[w.heap.size]? = some (.cells #[.int .i64 k, .int .i64 i, .string t, .slice ta tl tc] 25) ∧ w2.heap[w.heap.size + 1]? = some (.cells #[.int .i64 0, .int .i64 0] 60) ∧ w2.heap[q]? = some (.cells #[.int .i64 v.1, .int .i64 v.2] 60) ∧ w.heap.size + 1 ≠ q ∧ w.heap.size + 2 ≤ w0.heap.size) := by
      have h1 := HY.out.1.1
      have h2 := HNX.out.2
      have h3 := HNB.out.2
      have hk : Keep (fun b => w.heap.size ≤ b ∧ b < (W0.alloc (.cells #[.int .i64 0, .int .i64 0] 60)).drew.heap.size) w1 (put2 w1 W0.heap.size (.int .i64 v.1) (.int .i64 v.2)) := ((keep_set w1 W0.heap.size 0 _).trans (keep_set _ W0.heap.size _ _) fun _ _ e => e).mono fun b e => by subst e; omega
      refine ⟨_, _, _, ⟨rfl, rfl⟩, HNB.out.1.trans (HD1.out.1.mono HNB.out.1.size), HY.out.2, hk, by rw [put2_size]; omega, (HKS.out _ _).trans HN.out.1, ?_, ?_, by omega, by omega⟩
      · exact (put2_block (by omega) _ _).trans ((HY.out.1.2 _ (by omega) (by omega) (by omega)).trans ((HD1.out.1.block _ (by omega)).trans HN.out.2))
      · have h := HX1.out
        unfold put2 World.setCell
        simp [Array.getElem?_modify, h]
    obtain ⟨w0, q, w2, ⟨eq1, eq2⟩, HS2⟩ := HS.out
    unfold put2 at eq2
    rw [← eq1]
    rw [← eq1] at eq2
    rw [← eq2]
    replace HS2 := hide HS2
    clear eq1 eq2 HS HKS HB1 HY HX1 hq0 hq1 hqf
    have s0 : w2.cell? ⟨q, 0, none⟩ = some (.int .i64 v.1) := box_cell HS2.out.2.2.2.2.2.2.1 0
    have s1 : w2.cell? ⟨q, 1, none⟩ = some (.int .i64 v.2) := box_cell HS2.out.2.2.2.2.2.2.1 1
    have r0 : w2.cell? ⟨w.heap.size + 1, 0, none⟩ = some (.int .i64 0) := box_cell HS2.out.2.2.2.2.2.1 0
    have r1 : w2.cell? ⟨w.heap.size + 1, 1, none⟩ = some (.int .i64 0) := box_cell HS2.out.2.2.2.2.2.1 1
    have rf := fun j => box_free HS2.out.2.2.2.2.2.1 j
    by_cases h6 : e1 = 6
    rotate_left
    · have h6' : ¬ (6 : Int) = e1 := fun e => h6 e.symm
      go_wp2_with fail
      refine bodyPost_ret (v := .tuple #[.agg #[.int .i64 v.1, .int .i64 v.2], .int .i64 e1]) (by simp [results, Try.results23, go_sem, r0, r1]) rfl ?_
      obtain ⟨b1, b2, b3, _, _, _, _, _, b4⟩ := HS2.out
      refine ⟨v, e1, rfl, Or.inl ⟨h6, w0, w1, b1, b2, Keep.trans b3 ((keep_set w2 (w.heap.size + 1) 0 _).trans (keep_set _ (w.heap.size + 1) _ _) fun _ _ e => e) fun b _ e => ?_⟩⟩
      subst e
      omega
    · subst h6
      have HTT := hide (HT.out v w0 w1 w2 HS2.out.1 HS2.out.2.1 HS2.out.2.2.1 HS2.out.2.2.2.1)
      go_wp2_with fail
      refine HTT.out.mono ?_
      rintro e w3 ⟨rfl, H3⟩
      clear s0 s1 r0 r1 rf HTT
      have HU : Hid (w3.heap[w.heap.size]? = some (.cells #[.int .i64 k, .int .i64 i, .string t, .slice ta tl tc] 25) ∧ w3.heap[w.heap.size + 1]? = some (.cells #[.int .i64 0, .int .i64 0] 60) ∧ w.heap.size + 3 ≤ w3.heap.size) := by
        have hz := HS2.out.2.2.2.1
        have hu := H3.out.1
        exact ⟨(hu.2 _ (by omega) (by omega) (by omega)).trans HS2.out.2.2.2.2.1, (hu.2 _ (by omega) (by omega) (by omega)).trans HS2.out.2.2.2.2.2.1, Nat.le_trans hz hu.1⟩
      have HD3 : Hid (Below w3.heap.size w3 w3.drew) := (Below.refl _ _).drew
      have HK3 : Hid (∀ w' : World, w'.heap[w.heap.size]? = some (.cells #[.int .i64 k, .int .i64 i, .string t, .slice ta tl tc] 25) → w'.cell? ⟨w.heap.size, 0, none⟩ = some (.int .i64 k) ∧ w'.cell? ⟨w.heap.size, 1, none⟩ = some (.int .i64 i) ∧ w'.cell? ⟨w.heap.size, 2, none⟩ = some (.string t) ∧ w'.cell? ⟨w.heap.size, 3, none⟩ = some (.slice ta tl tc)) := fun w' h1 => ⟨box_cell h1 0, box_cell h1 1, box_cell h1 2, box_cell h1 3⟩
      obtain ⟨t0, t1, t2, t3⟩ := HK3.out w3 HU.out.1
      go_wp2_with fail
      go_region_held3 (fun w' => w'.cell? ⟨w.heap.size, 0, none⟩ = some (.int .i64 k) ∧ w'.cell? ⟨w.heap.size, 1, none⟩ = some (.int .i64 i) ∧ w'.cell? ⟨w.heap.size, 2, none⟩ = some (.string t) ∧ w'.cell? ⟨w.heap.size, 3, none⟩ = some (.slice ta tl tc)) (first | (go_keep; done) | exact HK3.out _ HU.out.1 | exact HK3.out _ HB4.out | exact HK3.out _ (HKS4.out _ _))
        ((go_at_call 21; refine (HP2.out w2 w3 _ H3.out.2 HS2.out.2.2.2.1 HD3.out).mono ?_; rintro e w4 ⟨v', e', rfl, H4⟩; have HB4 : Hid (w4.heap[w.heap.size]? = some (.cells #[.int .i64 k, .int .i64 i, .string t, .slice ta tl tc] 25)) := (H4.out.1.2 _ (Nat.le_refl _) (by omega) (by have h1 := HU.out.2.2; have h2 := HD3.out.size; omega)).trans HU.out.1; have HB5 : Hid (w4.heap[w.heap.size + 1]? = some (.cells #[.int .i64 0, .int .i64 0] 60)) := (H4.out.1.2 (w.heap.size + 1) (by omega) (by omega) (by have h1 := HU.out.2.2; have h2 := HD3.out.size; omega)).trans HU.out.2.1; have r0 : w4.cell? ⟨w.heap.size + 1, 0, none⟩ = some (.int .i64 0) := box_cell HB5.out 0; have r1 : w4.cell? ⟨w.heap.size + 1, 1, none⟩ = some (.int .i64 0) := box_cell HB5.out 1; have rf := fun j => box_free HB5.out j; have HKS4 : Hid (∀ a b : Value, (put2 w4 (w.heap.size + 1) a b).heap[w.heap.size]? = some (.cells #[.int .i64 k, .int .i64 i, .string t, .slice ta tl tc] 25)) := fun a b => (put2_block (by omega) a b).trans HB4.out))
      go_wp2_with fail
      refine bodyPost_ret (v := .tuple #[.agg #[.int .i64 v'.1, .int .i64 v'.2], .int .i64 e']) (by simp [results, Try.results23, go_sem, r0, r1]) rfl ?_
      obtain ⟨b1, b2, b3, b4, _⟩ := HS2.out
      exact ⟨v', e', rfl, Or.inr ⟨v, w0, w1, w2, w3, w3.drew, w4, b1, b2, b3, b4, H3.out.2, HD3.out, H4.out.2, (keep_set w4 (w.heap.size + 1) 0 _).trans (keep_set _ (w.heap.size + 1) _ _) fun _ _ e => e⟩⟩
end Go.Proofs.Ytbmjfnicfpdjfaa
