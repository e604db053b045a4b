/- What is proved here: plain facts and contracts that the claimed theorem stands on, several texts in one: clerklaw.live of nodes that stand for a heap's words: as many words as collecting these would leave. No condition but sizes, and that all lies in memory. plain facts on a right term that isn't too deep, at another depth: it is the same, lies where it lay, and stands for the same word. No condition but that. (Never beside Cn0, which has some of them.) the small terms that the statements make for themselves (num, word, two): what they return, and that it lies in new memory. No condition. plain facts on a heap that a statement makes and plays with: how it stands in memory behind each call. No condition. the state of HeapPlays between two of its calls: the heap, the rows of words, terms and nodes, and how they belong together; that it stays when what it leans on stays. No condition but that all lies in memory. the state of HeapPlays behind what is laid, and behind one more in each of its rows. No condition but that all lies in memory. what Put, Live, Get, Used and the statement's live do at the state of HeapPlays. No condition but that all lies in memory. what Join does at the state of HeapPlays, of words of it; the tuple that is made. No condition but that all lies in memory. -/
import Derived.Test.YtdlckjjfbobmpaaG17
import Derived.Test.YtdlckjjfbobmpaaG15
import Derived.Deep.LoopGhost
import Derived.Deep.DeepCutAuto
import Derived.Test.YtdlckjjfbobmpaaG14
import Derived.Test.YtdlckjjfbobmpaaG01
import Derived.Handy
import Derived.Test.YtdlckjjfbobmpaaG16
import Derived.Test.YtdlckjjfbobmpaaG09
namespace Go.Proofs.Ytdlckjjfbobmpaa
open Go.RowKit Go.Maps

theorem wpList_append_np {w w' : World} {v x' v' : Value} {ops : Array Oper} {rest : List Oper} {o : Oper} {a : Act} {Q : Exit → Act → World → Prop} (T : TypeId) (hgd : o.guard = none) (s x : Operand) (ho : o.op = .call { callee := .builtin .append, args := #[s, x], argTypes := #[T, T] })
    (hs : a.eval s = v) (hx : a.eval x = x') (hr : (Builtin.append_ #[T, T] o.type #[v, x']).run Try.prog w = .ok v' w') (h : wpList Try.prog ops Q rest (a.put o.dst v') w') : wpList Try.prog ops Q (o :: rest) a w := by
  refine wpList_plain hgd fun K hK => ?_
  unfold Oper.wp execOp
  simp only [ho, resolve, invoke, builtin, Sem.run_bind, Sem.run_pure, Result.andThen_ok, List.map_toArray, List.map_cons, List.map_nil, hs, hx, hr]
  exact hK _ _ h
/-- Pointers, in memory. -/
def PtrsAt (w : World) (a : Option Addr) (c : Nat) (ks : List (Option Nat)) : Prop := (a = none ∧ c = 0 ∧ ks = []) ∨ ∃ g o, a = some ⟨g, o, none⟩ ∧ g < w.heap.size ∧ ∀ (i : Nat) (k : Option Nat), ks[i]? = some k → w.cell? ⟨g, o + i, none⟩ = some (pv k)
theorem PtrsAt.below {w w' : World} {a : Option Addr} {c : Nat} {ks : List (Option Nat)} (h : PtrsAt w a c ks) (hb : Below w.heap.size w w') : PtrsAt w' a c ks := by
  rcases h with h | ⟨g, o, e, hl, h⟩
  · exact Or.inl h
  · exact Or.inr ⟨g, o, e, Nat.lt_of_lt_of_le hl hb.size, fun i k hk => (hb.cell (p := ⟨g, o + i, none⟩) hl).trans (h i k hk)⟩
theorem PtrsAt.of {w : World} {base : Nat} {a : Option Addr} {n c : Nat} {ks : List (Option Nat)} (h : w.ownsRow base 39 1 (.slice a n c) n (ks.map pv)) : PtrsAt w a c ks := by
  have hl := h.1
  rcases h.2 with ⟨e, e0⟩ | ⟨g, cap, cur, e, hg, hh, _⟩
  · injection e with e1 _ e3
    exact Or.inl ⟨e1, e3, List.eq_nil_of_length_eq_zero (by simp at hl; omega)⟩
  · have hc := h.cells (g := g) (by rw [e]; rfl)
    injection e with e1 _ _
    refine Or.inr ⟨g, 0, e1, (Array.getElem?_eq_some_iff.1 hh).1, fun i k hk => ?_⟩
    have := hc i (pv k) (by simp [hk])
    rw [add_none] at this
    rw [Nat.zero_add]
    exact this
set_option maxRecDepth 100000 in
set_option maxHeartbeats 1000000 in
theorem clonep_any (a : Option Addr) (len c : Nat) (ks : List (Option Nat)) (w : World) (HP : Hid (PtrsAt w a c ks)) (HL : Hid (ks.length = len)) (hl : len ≤ 2000000) :
    Calls Try.prog 32 #[.slice a len c] w fun e w' => ∃ v', e = .returned v' ∧ Hid (Below w.heap.size w w' ∧ NRw w.heap.size v' ks w') := by
  have hq : ∀ (w : World) (a : Option Addr) (n c n' c' : Nat), (binOp .eql 30 (.slice a n c) (.slice none n' c')).run Try.prog w = .ok (.bool a.isNone) w := fun w a n c n' c' => Lib.run_eql_slice_nil w _ _ a n c n' c' Try.underlying30
  rcases HP.out with ⟨rfl, rfl, rfl⟩ | ⟨g, o, rfl, hg, hc⟩
  · go_enter Try.func32, Try.ntmps32
    have e0 : (none : Option Addr).isNone = true := rfl
    go_wp2_with fail
    go_ret
    exact ⟨_, rfl, Below.refl _ _, Or.inl ⟨rfl, rfl⟩⟩
  · have hb1 : Below w.heap.size w (w.alloc (.cells #[] 39)) := (Below.refl _ _).alloc (Nat.le_refl _) _
    have h0 : NRw w.heap.size (.slice (some ⟨w.heap.size, 0, none⟩) 0 0) [] (w.alloc (.cells #[] 39)) := Or.inr ⟨w.heap.size, 0, 0, #[], rfl, Nat.le_refl _, heap_alloc_new w _, Nat.zero_le _, Nat.zero_le _, by simp, by simp⟩
    have HR : Hid (∃ v' w', (Builtin.append_ #[30, 30] 30 #[.slice (some ⟨w.heap.size, 0, none⟩) 0 0, .slice (some ⟨g, o, none⟩) len c]).run Try.prog (w.alloc (.cells #[] 39)) = .ok v' w' ∧ Below w.heap.size w w' ∧ NRw w.heap.size v' ks w') := by
      obtain ⟨v', w', r1, r2, r3, _⟩ := trow_app h0 hb1.size HL.out (by simp; omega) (Or.inr ⟨g, o, rfl, fun i k hk => (hb1.cell (p := ⟨g, o + i, none⟩) hg).trans (hc i k hk)⟩) 30
      have hk : Kee (fun b => w.heap.size ≤ b) w w' := (kee_below hb1 _).trans r3 fun b hb e => by
        simp [Value.ownBlock] at e
        omega
      exact ⟨v', w', r1, hk.below (Nat.le_refl _) fun b hb hn => by omega, by simpa using r2⟩
    obtain ⟨v', w', r1, r2⟩ := HR.out
    have HR1 := hide r1
    have HR2 := hide r2
    clear HR r1 r2 h0 hb1 hc HP
    have e0 : (some (⟨g, o, none⟩ : Addr)).isNone = false := rfl
    go_enter Try.func32, Try.ntmps32
    go_wp2_with (at_builtin; refine wpList_append_np 30 rfl _ _ rfl rfl rfl HR1.out ?_)
    go_ret
    exact ⟨_, rfl, HR2.out⟩
/-- While live goes through nodes. -/
def LvS (ws : List Wd) (C : Went) (S : List Wd × Went) (vs : List Wd) (w : World) (mb gk : Nat) (v : Value) (L : Nat) (A : Int) (wr : World) : Prop :=
  ∃ (seen : List Nat) (l : List (Option Nat)), (gk = 10 * (C.length - seen.length) + l.length ∧ gk ≤ 10 * C.length + 1500000) ∧ l.length = L ∧ A = (seen.map fun b => wtP ws (plB C b)).sum ∧ Bfs ws C S vs seen l ∧ PMap wr mb seen ∧ NRw w.heap.size v l wr ∧ v.ownBlock ≠ some mb ∧ Below w.heap.size w wr ∧ w.heap.size ≤ mb ∧ mb < wr.heap.size
theorem seen_sum {ws : List Wd} {N : Nat → Nat → List (Option Nat) → Prop} {C : Went} {S : List Wd × Went} {vs : List Wd} {seen : List Nat} {l : List (Option Nat)} (h : Bfs ws C S vs seen l) (hC : Cor ws N C) : (seen.map fun b => wtP ws (plB C b)).sum ≤ 9 * C.length := by
  have key : ∀ m : List Nat, (∀ b ∈ m, ∃ p, (p, b) ∈ C) → (m.map fun b => wtP ws (plB C b)).sum ≤ 9 * m.length := by
    intro m
    induction m with
    | nil => intro _; simp
    | cons b m ih =>
      intro hm
      obtain ⟨p, hp⟩ := hm b (by simp)
      obtain ⟨q, ks, k1, _, k3, _⟩ := hC.node _ hp
      have h1 := ih fun c hc => hm c (List.mem_cons_of_mem _ hc)
      have h2 : wtP ws (plB C b) = 1 + q := by rw [plB_at hC.snd hp, wtP_at k1]
      simp only [List.map_cons, List.sum_cons, List.length_cons, h2]
      omega
  have h1 := key seen fun b hb => by
    obtain ⟨p, hp, _⟩ := h.come b hb
    exact ⟨p, hp⟩
  have := h.few
  omega
set_option maxRecDepth 100000 in
set_option maxHeartbeats 4000000 in
theorem live_any (ws : List Wd) (C : Went) (S : List Wd × Went) (vs : List Wd) (D : Nat → Prop) (n : Nat) (a : Option Addr) (len c : Nat) (ks : List (Option Nat)) (w : World) (HP : Hid (PtrsAt w a c ks)) (HL : Hid (ks.length = len)) (hl : len ≤ 1500000) (HC : Hid (Cor ws (NodeIn w D) C)) (HS : Hid (CInv ws S ∧ S = (cpL (cpF ws n) vs ([], [])).2)) (HR : Hid (RelR C vs ks ∧ ∀ u ∈ vs, u.1 = 4 → (look S.2 u.2.toNat).isSome = true)) (HW : Hid (ws.length ≤ 1000)) :
    Calls Try.prog 15 #[.slice a len c] w fun e w' => e = .returned (.int .i64 (S.1.length : Nat)) ∧ Below w.heap.size w w' := by
  have HB1 : Hid (Below w.heap.size w (w.alloc (.map #[] 0)) ∧ (w.alloc (.map #[] 0)).heap[w.heap.size]? = some (.map #[] 0)) := ⟨(Below.refl _ _).alloc (Nat.le_refl _) _, heap_alloc_new w _⟩
  have HCL : Hid (Calls Try.prog 32 #[.slice a len c] (w.alloc (.map #[] 0)) fun e w' => ∃ v', e = .returned v' ∧ Hid (Below (w.alloc (.map #[] 0)).heap.size (w.alloc (.map #[] 0)) w' ∧ NRw (w.alloc (.map #[] 0)).heap.size v' ks w')) := clonep_any a len c ks _ (HP.out.below HB1.out.1) HL (by omega)
  have hmk : (Instr.makeMap 77 none).run Try.prog w = .ok (.map (some w.heap.size)) (w.alloc (.map #[] 0)) := by simp [Instr.makeMap, go_sem]
  go_enter Try.func15, Try.ntmps15
  go_wp2_with fail
  refine HCL.out.mono ?_
  rintro e w2 ⟨v2, rfl, H2⟩
  obtain ⟨a2, c2, hv2⟩ := H2.out.2.len
  rw [HL.out] at hv2
  have HST : Hid (LvS ws C S vs w w.heap.size (10 * C.length + len) (.slice a2 len c2) len 0 w2) := by
    have s1 : (w.alloc (.map #[] 0)).heap.size = w.heap.size + 1 := by simp
    have hm : w2.heap[w.heap.size]? = some (.map #[] 0) := (H2.out.1.block _ (by omega)).trans HB1.out.2
    rw [← hv2]
    refine ⟨[], ks, ⟨by simp [HL.out], by omega⟩, HL.out, by simp, Bfs.start HR.out.1 HR.out.2, ⟨_, _, hm, by simp⟩, ?_, fun e => ?_, HB1.out.1.trans (H2.out.1.mono HB1.out.1.size), Nat.le_refl _, (Array.getElem?_eq_some_iff.1 hm).1⟩
    · rcases H2.out.2 with h | ⟨g, o, cap, cur, e, h1, h2⟩
      · exact Or.inl h
      · exact Or.inr ⟨g, o, cap, cur, e, by omega, h2⟩
    · have := (H2.out.2.lt _ e).1
      omega
  subst hv2
  clear HCL H2 HB1
  go_wp2_with fail
  go_loopg [4, 5] (10 * C.length + len) (fun gk v4 v5 wr => ∃ (A : Int) (ta : Option Addr) (L tc : Nat), v4 = .int .i64 A ∧ v5 = .slice ta L tc ∧ Hid (LvS ws C S vs w w.heap.size gk (.slice ta L tc) L A wr))
  case atStart => exact ⟨0, a2, len, c2, rfl, rfl, HST.out⟩
  case round =>
    obtain ⟨A, ta, L, tc, rfl, rfl, HQ⟩ := hrel
    obtain ⟨seen, l, q1, q2, q3, q4, q5, q6, q7, q8, q9, q10⟩ := HQ.out
    have HA : Hid (A = (seen.map fun b => wtP ws (plB C b)).sum ∧ gk = 10 * (C.length - seen.length) + l.length ∧ gk ≤ 10 * C.length + 1500000) := ⟨q3, q1⟩
    have hA0 : 0 ≤ A := by rw [q3]; omega
    have hA1 : A ≤ 9000 := by
      have h1 := seen_sum q4 HC.out
      have h2 := HC.out.few
      have h3 := HW.out
      rw [q3]
      omega
    have HB := hide q4
    have HM := hide q5
    have HN := hide q6
    have HF : Hid ((Value.slice ta L tc).ownBlock ≠ some w.heap.size ∧ Below w.heap.size w wr ∧ w.heap.size < wr.heap.size) := ⟨q7, q8, q10⟩
    have HLL := hide q2
    clear q1 q3 q4 q5 q6 q7 q8 q9 q10 HQ HST
    cases l with
    | nil =>
      obtain rfl : L = 0 := by have h := HLL.out; simp at h; omega
      have HE : Hid (A = (S.1.length : Nat)) := by
        have h := HB.out.ends HC.out HS.out.1 HS.out.2
        have h2 := HA.out.1
        show A = _
        omega
      clear q2
      go_wp2_with fail
      go_ret
      exact ⟨by rw [HE.out]; rfl, HF.out.2.1⟩
    | cons k l =>
      obtain ⟨L0, rfl⟩ : ∃ L0, L = L0 + 1 := ⟨l.length, by simpa using q2.symm⟩
      have HL0 : Hid (l.length = L0) := hide (by simpa using q2)
      clear q2 HLL
      obtain ⟨g, o, cap, e1, c1⟩ := trow_first HN.out
      injection e1 with e1 e2 e3
      clear e2
      subst e1 e3
      obtain ⟨r1, r2⟩ := trow_tail HN.out
      have HR1 := hide r1
      have HR2 := hide r2
      have m0 : (0 : Int) < (L0 : Int) + 1 := by omega
      have m00 : (1 : Int) ≤ (L0 : Int) + 1 := by omega
      obtain ⟨kp, hkp⟩ : ∃ kp : Option Addr, kp = k.map fun b => ⟨b, 0, none⟩ := ⟨_, rfl⟩
      have c2 : wr.cell? ⟨g, o, none⟩ = some (.pointer kp) := by
        rw [hkp]
        exact c1
      have HKP := hide hkp
      clear c1 hkp r1 r2
      go_upto_region 6 with fail
      go_cut [5] (fun v5 wx => ∃ (ta' : Option Addr) (tc' : Nat), v5 = .slice ta' L0 tc' ∧ wx = wr ∧ Hid (NRw w.heap.size (.slice ta' L0 tc') l wr ∧ (Value.slice ta' L0 tc').ownBlock ≠ some w.heap.size))
      case first =>
        by_cases hc : tc = 1
        · subst hc
          obtain rfl : L0 = 0 := by
            have h := HL0.out
            rw [(HR1.out rfl).1] at h
            simpa using h.symm
          have HR4 := hide (HR1.out rfl).2
          go_wp2_with fail
          go_meet
          exact ⟨some ⟨g, o, none⟩, 0, rfl, rfl, HR4.out, HF.out.1⟩
        · have HR3 := hide (HR2.out hc)
          rw [HL0.out] at HR3
          go_wp2_with fail
          go_meet
          exact ⟨some ⟨g, o + 1, none⟩, tc - 1, rfl, rfl, HR3.out, HF.out.1⟩
      case rest =>
      obtain ⟨ta', tc', rfl, hwc, HT⟩ := hcut
      obtain rfl := hwc.symm
      clear hwc c2 HR1 HR2
      cases k with
      | none =>
        obtain rfl : kp = none := HKP.out
        go_wp2_with fail
        go_roundg (10 * (C.length - seen.length) + l.length)
        case measure => rw [HA.out.2.1]; simp
        case rel => exact ⟨A, ta', L0, tc', rfl, rfl, seen, l, ⟨rfl, by have h := HA.out.2; simp only [List.length_cons] at h; omega⟩, HL0.out, HA.out.1, HB.out.skip (fun b e => by cases e), HM.out, HT.out.1, HT.out.2, HF.out.2.1, Nat.le_refl _, HF.out.2.2⟩
      | some b =>
        obtain rfl : kp = some ⟨b, 0, none⟩ := HKP.out
        have hcell : ∀ d, (∃ p, (p, d) ∈ C) → CellsAt wr d := fun d hd => by
          obtain ⟨p, hp⟩ := hd
          obtain ⟨m, ks', _, _, _, ⟨_, ka, kc, k4, _⟩, _⟩ := HC.out.node _ hp
          exact ⟨_, _, (HF.out.2.1.block d (Array.getElem?_eq_some_iff.1 k4).1).trans k4⟩
        have hcb : CellsAt wr b := by
          obtain ⟨p, hp, _⟩ := HB.out.todo b (by simp)
          exact hcell b ⟨p, hp⟩
        have hcs : ∀ d ∈ seen, CellsAt wr d := fun d hd => by
          obtain ⟨p, hp, _⟩ := HB.out.come d hd
          exact hcell d ⟨p, hp⟩
        have hlk : (Instr.lookup 77 (.map (some w.heap.size)) (.pointer (some ⟨b, 0, none⟩)) false).run Try.prog wr = .ok (.bool (seen.contains b)) wr := HM.out.look hcb hcs
        by_cases hs : b ∈ seen
        · have hs' : seen.contains b = true := List.contains_iff_mem.2 hs
          rw [hs'] at hlk
          have HSK := hide (HB.out.skip (fun d e => by rw [← Option.some.inj e]; exact hs))
          clear hs hs' hcell hcb hcs
          go_wp2_with fail
          go_roundg (10 * (C.length - seen.length) + l.length)
          case measure => rw [HA.out.2.1]; simp
          case rel => exact ⟨A, ta', L0, tc', rfl, rfl, seen, l, ⟨rfl, by have h := HA.out.2; simp only [List.length_cons] at h; omega⟩, HL0.out, HA.out.1, HSK.out, HM.out, HT.out.1, HT.out.2, HF.out.2.1, Nat.le_refl _, HF.out.2.2⟩
        · have hs' : seen.contains b = false := by simpa using hs
          rw [hs'] at hlk
          obtain ⟨p, m, ks', t1, t2, t3, t4, t5, t6⟩ := HB.out.take HC.out HS.out.1 hs
          obtain ⟨w3, u1, u2, u3⟩ := HM.out.put hcb hcs hs
          have hup : (Instr.mapUpdate 77 (.map (some w.heap.size)) (.pointer (some ⟨b, 0, none⟩)) (.bool true)).run Try.prog wr = .ok () w3 := u1
          have HB3 : Hid (Below w.heap.size w w3) := ((kee_below HF.out.2.1 fun b => w.heap.size ≤ b).trans u3 fun q hq e => by omega).below (Nat.le_refl _) fun q hq hn => by omega
          obtain ⟨_, ka, kc, n1, n2, n3⟩ := t2
          have hbn := (HB3.out.block b (Array.getElem?_eq_some_iff.1 n1).1).trans n1
          have b0 := cell_row hbn 0
          have b1 := cell_row hbn 1
          simp only [List.getElem?_cons_zero, List.getElem?_cons_succ] at b0 b1
          have HR4 : Hid (∃ v4 w4, (Builtin.append_ #[30, 30] 30 #[.slice ta' L0 tc', .slice ka m kc]).run Try.prog w3 = .ok v4 w4 ∧ NRw w.heap.size v4 (l ++ ks') w4 ∧ Kee (fun q => (Value.slice ta' L0 tc').ownBlock = some q) w3 w4 ∧ ∀ q, v4.ownBlock = some q → (Value.slice ta' L0 tc').ownBlock = some q ∨ w3.heap.size ≤ q) := by
            refine trow_app (HT.out.1.kee u3 fun q hq e => HT.out.2 (by rw [hq, e])) HB3.out.size t5 ?_ ?_ _
            · have h := HA.out.2
              have h1 := HC.out.few
              have h2 := HW.out
              simp only [List.length_cons] at h
              omega
            · rcases n3 with h | ⟨g', o', e, _, hgl, h⟩
              · exact Or.inl h
              · exact Or.inr ⟨g', o', e, fun i k hk => (HB3.out.cell (p := ⟨g', o' + i, none⟩) (Array.getElem?_eq_some_iff.1 hgl.choose_spec).1).trans (h i k hk)⟩
          obtain ⟨v4, w4, y1, y2, y3, y4⟩ := HR4.out
          obtain ⟨a4, c4, hv4⟩ := y2.len
          have el4 : (l ++ ks').length = L0 + m := by rw [List.length_append, HL0.out, t5]
          rw [el4] at hv4
          subst hv4
          have HY1 := hide y1
          have m1 : (m : Int) ≤ 8 := by omega
          have m2 : (0 : Int) ≤ (m : Int) := by omega
          have HF4 : Hid (LvS ws C S vs w w.heap.size (10 * (C.length - (seen ++ [b]).length) + (l ++ ks').length) (.slice a4 (L0 + m) c4) (L0 + m) (A + (1 + (m : Int))) w4) := by
            refine ⟨seen ++ [b], l ++ ks', ⟨rfl, ?_⟩, el4, ?_, t6, ?_, y2, fun e => ?_, ?_, Nat.le_refl _, ?_⟩
            · have h1 := t6.few
              have h := HA.out.2
              simp only [List.length_append, List.length_cons, List.length_nil, t5] at h h1 ⊢
              omega
            · rw [List.map_append, List.sum_append, HA.out.1]
              simp [t4]
            · obtain ⟨es, ck, h1, h2⟩ := u2
              have hl3 := (Array.getElem?_eq_some_iff.1 h1).1
              exact ⟨es, ck, (y3.block _ hl3 fun e => HT.out.2 e).trans h1, h2⟩
            · rcases y4 _ e with e | e
              · exact HT.out.2 e
              · have := HF.out.2.2
                have := u3.size
                omega
            · exact ((kee_below HB3.out fun b => w.heap.size ≤ b).trans y3 fun q hq e => (HT.out.1.lt q e).1).below (Nat.le_refl _) fun q hq hn => by omega
            · have h1 := HF.out.2.2
              have h2 := u3.size
              have h3 := y3.size
              omega
          have HMS : Hid (10 * (C.length - (seen ++ [b]).length) + (l ++ ks').length < gk) := by
            have h1 := t6.few
            have h2 := HA.out.2.1
            show _ < _
            simp only [List.length_append, List.length_cons, List.length_nil, t5] at h1 h2 ⊢
            omega
          clear hs hs' hcell hcb hcs t1 t3 t4 t5 t6 n1 n2 n3 u1 u2 u3 y1 y2 y3 y4 hbn HR4 HB3 HT HM HN
          go_wp2_with (at_builtin; refine wpList_append_np 30 rfl _ _ rfl rfl rfl HY1.out ?_)
          go_roundg (10 * (C.length - (seen ++ [b]).length) + (l ++ ks').length)
          case measure => exact HMS.out
          case rel => exact ⟨A + (1 + (m : Int)), a4, L0 + m, c4, by go_num, rfl, HF4.out⟩
end Go.Proofs.Ytdlckjjfbobmpaa
namespace Go.Proofs.Ytdlckjjfbobmpaa
open Go.RowKit

theorem dep_fold {n : Nat} : (l : List (Tm n)) → (m : Int) → m ≤ l.foldl (fun m y => max m (dep n y)) m ∧ ∀ y ∈ l, dep n y ≤ l.foldl (fun m y => max m (dep n y)) m
  | [], m => ⟨Int.le_refl _, fun y hy => by simp at hy⟩
  | a :: l, m => by
    obtain ⟨h1, h2⟩ := dep_fold l (max m (dep n a))
    simp only [List.foldl_cons]
    refine ⟨by omega, fun y hy => ?_⟩
    rcases List.mem_cons.1 hy with rfl | hy
    · omega
    · exact h2 y hy
/-- The parts of a right term are less deep. -/
theorem dep_part {n : Nat} {x : Tm (n + 1)} (hr : RightA ⟨n + 1, x⟩) {y : Tm n} (hy : y ∈ x.2.2) : dep n y + 1 ≤ dep (n + 1) x := by
  have h4 : x.1.1 = 4 := by
    have hg := hr _ (List.mem_cons_self ..)
    simp only [good, Bool.and_eq_true, Bool.or_eq_true, beq_iff_eq, Bool.not_eq_true', decide_eq_false_iff_not] at hg
    rcases hg.2 with h | h
    · exact h
    · have := List.length_pos_of_mem hy
      omega
  have := (dep_fold x.2.2 0).2 y hy
  simp only [dep, if_pos h4]
  omega
/-- At another depth, where it isn't too deep for that, a term is the same, and lies where it lay. -/
theorem low_same : (D : Nat) → (n : Nat) → (x : Tm n) → RightA ⟨n, x⟩ → dep n x < D → same D (lift D n x) n x = true
  | _, 0, _, h, _ => (zero_bad h).elim
  | 0, n + 1, x, _, h => by
    have := (dep_bound (n + 1) x).1
    omega
  | D + 1, n + 1, x, hr, h => same_mk rfl (sameL_mapl _ _ _ fun y hy => low_same D n y (parts_right n x y hr hy) (by
    have := dep_part hr hy
    omega))
theorem low_held (D n : Nat) (x : Tm n) (w : World) (b o : Nat) (hD : 0 < D) (k : Held w b o n x) : Held w b o D (lift D n x) := by
  cases n with
  | zero => exact k.elim
  | succ n =>
    obtain ⟨D, rfl⟩ : ∃ M, D = M + 1 := ⟨D - 1, by omega⟩
    obtain ⟨k0, k1, k2, k3⟩ := k
    exact ⟨k0, k1, k2, by simpa [lift] using k3⟩
theorem low_in : (D n : Nat) → (x : Tm n) → (B : Nat) → (w : World) → RightA ⟨n, x⟩ → dep n x < D → In B w n x → In B w D (lift D n x)
  | _, 0, _, _, _, _, _, k => k.elim
  | 0, n + 1, x, _, _, _, h, _ => by
    have := (dep_bound (n + 1) x).1
    omega
  | D + 1, n + 1, x, B, w, hr, h, k => by
    obtain ⟨k0, k1⟩ := k
    refine ⟨by simpa [lift] using k0, ?_⟩
    rcases k1 with k1 | ⟨b, o, e, hb, k1⟩
    · exact Or.inl (by simp [lift, k1])
    · refine Or.inr ⟨b, o, e, hb, fun i y hy => ?_⟩
      simp only [lift, List.getElem?_map] at hy
      obtain ⟨z, hz, rfl⟩ := Option.map_eq_some_iff.1 hy
      have hm := List.mem_of_getElem? hz
      have hd := dep_part hr hm
      have h0 := (dep_bound n z).1
      exact ⟨low_held D n z w b _ (by omega) (k1 i z hz).1, low_in D n z B w (parts_right n x z hr hm) (by omega) (k1 i z hz).2⟩
theorem low_val (D n : Nat) (x : Tm (n + 1)) : val (D + 1) (lift (D + 1) (n + 1) x) = val (n + 1) x := by
  simp [val, lift]
theorem low_off : (D n : Nat) → (x : Tm n) → (P : Nat → Prop) → RightA ⟨n, x⟩ → dep n x < D → Off P n x → Off P D (lift D n x)
  | _, 0, _, _, h, _, _ => (zero_bad h).elim
  | 0, n + 1, x, _, _, h, _ => by
    have := (dep_bound (n + 1) x).1
    omega
  | D + 1, n + 1, x, P, hr, h, k => by
    rcases k with k | ⟨b, o, e, hb, k⟩
    · exact Or.inl (by simp [lift, k])
    · refine Or.inr ⟨b, o, e, hb, fun i y hy => ?_⟩
      simp only [lift, List.getElem?_map] at hy
      obtain ⟨z, hz, rfl⟩ := Option.map_eq_some_iff.1 hy
      have hm := List.mem_of_getElem? hz
      have hd := dep_part hr hm
      exact low_off D n z P (parts_right n x z hr hm) (by omega) (k i z hz)

theorem chkz {n : Nat} {x : Tm n} : chk n x = 0 ↔ formedB n x = true ∧ dep n x ≤ 12 ∧ sz n x ≤ 200 := by
  rw [← tchk_chk]
  unfold tchk
  constructor
  · intro h
    cases hf : formedB n x
    · rw [hf] at h
      simp at h
    · rw [hf] at h
      simp only [if_true] at h
      split at h
      · omega
      · rename_i hn
        exact ⟨rfl, by omega, by omega⟩
  · rintro ⟨h1, h2, h3⟩
    rw [h1]
    simp only [if_true]
    rw [if_neg (by omega)]
theorem stands_low {ws : List Wd} {nm : List ByteArray} : (D n : Nat) → (x : Tm n) → (v : Wd) → RightA ⟨n, x⟩ → dep n x < D → Stands ws nm n x v → Stands ws nm D (lift D n x) v
  | _, 0, _, _, _, _, k => k.elim
  | 0, n + 1, x, _, _, h, _ => by
    have := (dep_bound (n + 1) x).1
    omega
  | D + 1, n + 1, x, v, hr, h, k => by
    obtain ⟨k1, k2, k3⟩ := k
    refine ⟨fun e => by simpa [lift] using k1 (by simpa [lift] using e), fun e => ?_, fun e1 e2 => by simpa [lift] using k3 (by simpa [lift] using e1) (by simpa [lift] using e2)⟩
    obtain ⟨p, p1, p2, p3, p4⟩ := k2 (by simpa [lift] using e)
    refine ⟨p, p1, by simpa [lift] using p2, by simpa [lift] using p3, fun i y hy => ?_⟩
    simp only [lift, List.getElem?_map] at hy
    obtain ⟨z, hz, rfl⟩ := Option.map_eq_some_iff.1 hy
    have hm := List.mem_of_getElem? hz
    have hd := dep_part hr hm
    obtain ⟨u, u1, u2⟩ := p4 i z hz
    exact ⟨u, u1, stands_low D n z u (parts_right n x z hr hm) (by omega) u2⟩
/-- A term that Check lets pass, at the depth 13. -/
theorem low13 {n : Nat} {x : Tm n} (h : chk n x = 0) : RightA ⟨n, x⟩ ∧ dep n x < 13 := by
  obtain ⟨h1, h2, _⟩ := chkz.1 h
  exact ⟨right_formed.2 h1, by omega⟩
theorem low_chk {n : Nat} {x : Tm n} (h : chk n x = 0) : chk 13 (lift 13 n x) = 0 := by
  obtain ⟨h1, h2⟩ := low13 h
  rw [same_chk (low_same 13 n x h1 h2)]
  exact h
theorem low_closed {n : Nat} {x : Tm n} (h : chk n x = 0) : closedT 13 (lift 13 n x) = closedT n x := by
  obtain ⟨h1, h2⟩ := low13 h
  exact same_closed _ _ _ _ (low_same 13 n x h1 h2)
end Go.Proofs.Ytdlckjjfbobmpaa
namespace Go.Proofs.Ytdlckjjfbobmpaa
open Go.RowKit

def numT (n : Int) : Tm 1 := ((1, n, ⟨#[]⟩), (none, 0), [])
def wordT (s : ByteArray) : Tm 1 := ((2, 0, s), (none, 0), [])
def twoT (g : Nat) : Tm 2 := ((4, 0, ⟨#[]⟩), (some ⟨g, 0, none⟩, 2), [wordT ⟨#[97]⟩, numT 5])

theorem num_in (n : Int) (h : I64 n) (B : Nat) (w : World) : In B w 1 (numT n) := ⟨⟨by simp [numT, I64], h, Nat.zero_le _, by simp [numT], by simp [numT]⟩, Or.inl rfl⟩
theorem word_in (s : ByteArray) (h : s.size ≤ maxLen) (B : Nat) (w : World) : In B w 1 (wordT s) := ⟨⟨by simp [wordT, I64], by simp [wordT, I64], h, by simp [wordT], by simp [wordT]⟩, Or.inl rfl⟩

theorem two_in (g B : Nat) (w : World) (hg : g < B) (t : TypeId) (fr : Nat × Nat)
    (h : w.heap[g]? = some (.cells #[.int .i64 2, .int .i64 0, .string ⟨#[97]⟩, .slice none 0 0, .int .i64 1, .int .i64 5, .string ⟨#[]⟩, .slice none 0 0] t fr)) : In B w 2 (twoT g) := by
  have hc : ∀ j, w.cell? ⟨g, j, none⟩ = #[Value.int .i64 2, .int .i64 0, .string ⟨#[97]⟩, .slice none 0 0, .int .i64 1, .int .i64 5, .string ⟨#[]⟩, .slice none 0 0][j]? := fun j => by simp [World.cell?, h]
  refine ⟨⟨by simp [twoT, I64], by simp [twoT, I64], Nat.zero_le _, by simp [twoT], by simp [twoT, maxLen]⟩, Or.inr ⟨g, 0, rfl, hg, fun i y hy => ?_⟩⟩
  match i, hy with
  | 0, hy =>
    have : wordT ⟨#[97]⟩ = y := by simpa [twoT] using hy
    subst this
    exact ⟨⟨hc 0, hc 1, hc 2, hc 3⟩, word_in _ (by show (1 : Nat) ≤ 2 ^ 63 - 1; omega) B w⟩
  | 1, hy =>
    have : numT 5 = y := by simpa [twoT] using hy
    subst this
    exact ⟨⟨hc 4, hc 5, hc 6, hc 7⟩, num_in 5 (by simp [I64]) B w⟩
  | i + 2, hy => simp [twoT] at hy

end Go.Proofs.Ytdlckjjfbobmpaa
namespace Go.Proofs.Ytdlckjjfbobmpaa
open Go.RowKit Go.Maps

/-- A heap that was made since w, its blocks all among M, which are new since w. -/
def HpS (w : World) (hp : Nat) (room : Int) (ws : List Wd) (nm : List ByteArray) (M : Nat → Prop) (wk : World) : Prop :=
  Below w.heap.size w wk ∧ HpAt w.heap.size hp room ws nm M wk ∧ ∀ b, M b → w.heap.size ≤ b ∧ b < wk.heap.size
theorem HpS.later {w : World} {hp : Nat} {room : Int} {ws : List Wd} {nm : List ByteArray} {M : Nat → Prop} {wk w' : World} (h : HpS w hp room ws nm M wk) (hb : Below wk.heap.size wk w') : HpS w hp room ws nm M w' :=
  ⟨h.1.trans (hb.mono h.1.size), (h.2.1.later hb).mono fun _ hh => hh.1, fun b hh => ⟨(h.2.2 b hh).1, Nat.lt_of_lt_of_le (h.2.2 b hh).2 hb.size⟩⟩
theorem keep_from {w wk w' : World} {M : Nat → Prop} (h : Below w.heap.size w wk) (hM : ∀ b, M b → w.heap.size ≤ b ∧ b < wk.heap.size) (k : Keep M wk w') : Below w.heap.size w w' :=
  ⟨k.os.trans h.os, k.tape.trans h.tape, k.output.trans h.output, Nat.le_trans h.size k.size, fun b hb => (k.block b (Nat.lt_of_lt_of_le hb h.size) fun hm => by have := (hM b hm).1; omega).trans (h.block b hb)⟩
theorem HpS.laid {w : World} {hp : Nat} {room : Int} {ws ws' : List Wd} {nm nm' : List ByteArray} {M : Nat → Prop} {wk w' : World} (h : HpS w hp room ws nm M wk) (k : Laid w.heap.size hp room ws' nm' M wk w') : HpS w hp room ws' nm' (fun b => (M b ∨ wk.heap.size ≤ b) ∧ b < w'.heap.size) w' := by
  have hs := h.1.size
  refine ⟨keep_from h.1 h.2.2 k.2, k.1.inside, fun b hh => ⟨?_, hh.2⟩⟩
  rcases hh.1 with hm | hm
  · exact (h.2.2 b hm).1
  · omega
/-- A new heap. -/
theorem HpS.new {w w0 w1 : World} {room : Int} (h0 : Below w.heap.size w w0) (h : HB w0.heap.size room (.slice none 0 0) (.slice none 0 0) (.map none) w1 ∧ w1.heap.size = w0.heap.size + 1 ∧ Below w0.heap.size w0 w1) : HpS w w0.heap.size room [] [] (fun b => b = w0.heap.size) w1 := by
  obtain ⟨h1, h2, h3⟩ := h
  have hs := h0.size
  refine ⟨h0.trans (h3.mono hs), ⟨.slice none 0 0, .slice none 0 0, .map none, h1, World.ownsRow_nil _ _ _ _, ?_, rfl, fun b e => by simp [Value.ownBlock] at e, fun b e => by simp [Value.ownBlock] at e, fun b e => by simp [mapBlock] at e⟩, fun b hb => by subst hb; omega⟩
  exact ⟨World.ownsRow_nil _ _ _ _, by simp, Or.inl ⟨rfl, rfl, rfl⟩⟩
theorem off_parts {P : Nat → Prop} {n : Nat} {x : Tm (n + 1)} {g o : Nat} (he : x.2.1.1 = some ⟨g, o, none⟩) (hg : P g) (h : ∀ y ∈ x.2.2, Off P n y) : Off P (n + 1) x := Or.inr ⟨g, o, he, hg, fun _ y hy => h y (List.mem_of_getElem? hy)⟩
theorem off_num (P : Nat → Prop) (u : Int) : Off P 1 (numT u) := Or.inl rfl
theorem off_word (P : Nat → Prop) (s : ByteArray) : Off P 1 (wordT s) := Or.inl rfl
theorem off_two {P : Nat → Prop} {g : Nat} (hg : P g) : Off P 2 (twoT g) := off_parts (g := g) (o := 0) rfl hg fun y hy => by
  simp only [twoT, List.mem_cons, List.not_mem_nil, or_false] at hy
  rcases hy with rfl | rfl
  · exact off_word _ _
  · exact off_num _ _
def sevT (g : Nat) : Tm 2 := ((4, 0, ⟨#[]⟩), (some ⟨g, 0, none⟩, 1), [numT 7])
theorem sev_in (g B : Nat) (w : World) (hg : g < B) (h : w.heap[g]? = some (.cells #[.int .i64 1, .int .i64 7, .string ⟨#[]⟩, .slice none 0 0] 32)) : In B w 2 (sevT g) := by
  refine ⟨⟨by simp [sevT, I64], by simp [sevT, I64], Nat.zero_le _, by simp [sevT], by simp [sevT, maxLen]⟩, Or.inr ⟨g, 0, rfl, hg, fun i y hy => ?_⟩⟩
  match i, hy with
  | 0, hy =>
    have : numT 7 = y := by simpa [sevT] using hy
    subst this
    exact ⟨⟨by simp [World.cell?, h, numT], by simp [World.cell?, h, numT], by simp [World.cell?, h, numT], by simp [World.cell?, h, numT]⟩, num_in 7 (by simp [I64]) B w⟩
  | _ + 1, hy => simp [sevT] at hy
theorem off_sev {P : Nat → Prop} {g : Nat} (hg : P g) : Off P 2 (sevT g) := off_parts (g := g) (o := 0) rfl hg fun y hy => by
  simp only [sevT, List.mem_cons, List.not_mem_nil, or_false] at hy
  subst hy
  exact off_num _ _
theorem chk_iff0 {n : Nat} {x : Tm n} (h : chk n x = 0) : formedB n x = true := by
  rw [← tchk_chk] at h
  unfold tchk at h
  cases hf : formedB n x
  · simp [hf] at h
  · rfl
theorem two_put (g : Nat) : putE 2 (twoT g) 10 [] = 0 := by kernel_rfl
theorem sev_chk (g : Nat) : chk 2 (sevT g) = 0 := by kernel_rfl
theorem sev_put (g : Nat) (ws : List Wd) (h : ws.length = 3) : putE 2 (sevT g) 10 ws = 0 := by
  have h1 : closedT 2 (sevT g) = true := by kernel_rfl
  have h2 : sz 2 (sevT g) = 2 := by kernel_rfl
  simp [putE, sev_chk, h1, h2, h]
theorem hused_any {base hp : Nat} {room : Int} {ws : List Wd} {nm : List ByteArray} {M : Nat → Prop} {w : World} (h : HpAt base hp room ws nm M w) :
    Calls Try.prog 17 #[.pointer (some ⟨hp, 0, none⟩)] w fun e w' => e = .returned (.int .i64 ws.length) ∧ w' = w := by
  obtain ⟨tv, lv, mv, h1, h2, _⟩ := h
  obtain ⟨ta, tc, rfl⟩ : ∃ ta tc, tv = .slice ta ws.length tc := by
    rcases h2.2 with ⟨e, e0⟩ | ⟨g, c, cur, e, _⟩
    · exact ⟨none, 0, by rw [e, e0]⟩
    · exact ⟨_, c, e⟩
  exact used_any hp room ta ws.length tc lv mv w h1
theorem HpS.coll {w : World} {hp g : Nat} {room : Int} {ws : List Wd} {nm : List ByteArray} {M : Nat → Prop} {R : List Wd × List Wd × Went} {wk w' : World} (h : HpS w hp room ws nm M wk) (k : CollOut w.heap.size hp room R nm M g wk w') : HpS w hp room R.2.1 nm (fun b => ((M b ∨ wk.heap.size ≤ b) ∧ b ≠ g) ∧ b < w'.heap.size) w' := by
  have hs := h.1.size
  refine ⟨keep_from h.1 h.2.2 k.2.1, k.1.inside, fun b hh => ⟨?_, hh.2⟩⟩
  rcases hh.1.1 with hm | hm
  · exact (h.2.2 b hm).1
  · omega
theorem sev_right (g : Nat) : RightA ⟨2, sevT g⟩ := right_formed.2 (chk_iff0 (sev_chk g))
theorem sev_closed (g : Nat) : closedT 2 (sevT g) = true := by kernel_rfl
theorem one_word (w : World) (a b : Int) (t : TypeId) : WordsIn (w.alloc (.cells #[.int .i64 a, .int .i64 b] t)) [(a, b)] (some ⟨w.heap.size, 0, none⟩) := by
  refine Or.inr ⟨w.heap.size, 0, rfl, by simp, fun i v hv => ?_⟩
  match i, hv with
  | 0, hv =>
    have : (a, b) = v := by simpa using hv
    subst this
    exact ⟨by simp [go_sem], by simp [go_sem]⟩
  | _ + 1, hv => simp at hv
/-- One word that was just laid, copied alone: as many words as the term has. -/
theorem roots_one {n : Nat} {x : Tm n} {ws : List Wd} {nm : List ByteArray} (hr : RightA ⟨n, x⟩) :
    ((rootsR (layF n x ws nm).2.1 n [(layF n x ws nm).1]).2.1.length : Int) = sz n x ∧
    ∃ c, (rootsR (layF n x ws nm).2.1 n [(layF n x ws nm).1]).1 = [c] ∧ Stands (rootsR (layF n x ws nm).2.1 n [(layF n x ws nm).1]).2.1 (layF n x ws nm).2.2 n x c := by
  have h1 := (lay_cp (layF n x ws nm).2.1 n x ws nm ([], []) (List.prefix_refl _) (fun p _ _ => by simp [look])).1
  have h2 := (cpF_copies n x (layF n x ws nm).1 ([], []) (inv_nil _ _) (layF_stands n x ws nm hr)).2.2
  refine ⟨by simpa [rootsR, cpL] using h1, _, rfl, ?_⟩
  exact h2 n x (layF_stands n x ws nm hr)
end Go.Proofs.Ytdlckjjfbobmpaa
namespace Go.Proofs.Ytdlckjjfbobmpaa
open Go.RowKit Go.Maps

/-- What must not be turned: all but the heap's own blocks, the three rows', and X. -/
def Fz (M : Nat → Prop) (v7 v8 v9 : Value) (X : Nat → Prop) (wr : World) (b : Nat) : Prop := b < wr.heap.size ∧ ¬ M b ∧ ¬ Own3 v7 v8 v9 b ∧ ¬ X b
structure HpR (w : World) (hp : Nat) (room : Int) (j L : Nat) (ws : List Wd) (nm : List ByteArray) (M : Nat → Prop) (vs : List Wd) (ts : List (Tm 13)) (ns : List (Option Nat)) (C : Went) (v7 v8 v9 : Value) (X : Nat → Prop) (wr : World) : Prop where
  heap : HpS w hp room ws nm M wr
  lens : vs.length = L ∧ ts.length = L ∧ ns.length = L
  r7 : wr.ownsRow w.heap.size 38 2 v7 L (wCells vs)
  r8 : wr.ownsRow w.heap.size 32 4 v8 L (ndCells (ts.map (hdT 13)))
  r9 : wr.ownsRow w.heap.size 39 1 v9 L (ns.map pv)
  apart : ∀ b, Own3 v7 v8 v9 b → ¬ M b ∧ ¬ X b
  sep : ∀ b, X b → ¬ M b ∧ w.heap.size ≤ b ∧ b < wr.heap.size
  stand : StandL ws nm 13 vs ts
  good : ∀ y ∈ ts, chk 13 y = 0 ∧ closedT 13 y = true
  term : ∀ y ∈ ts, In wr.heap.size wr 13 y ∧ Off (Fz M v7 v8 v9 X wr) 13 y
  cor : Cor ws (NodeIn wr (Fz M v7 v8 v9 X wr)) C
  rel : RelR C vs ns
  room : (ws.length : Int) ≤ room ∧ 0 ≤ room ∧ room ≤ 1000
  names : nm.length ≤ 201 * j
theorem own_type {w : World} {base base' : Nat} {e e' : TypeId} {sz sz' : Nat} {v v' : Value} {n n' : Nat} {xs xs' : List Value} (h : w.ownsRow base e sz v n xs) (h' : w.ownsRow base' e' sz' v' n' xs') (hne : e ≠ e') (b : Nat) (hb : v.ownBlock = some b) : v'.ownBlock ≠ some b := fun hb' => by
  rcases h.2 with ⟨rfl, _⟩ | ⟨g, c, cur, rfl, _, hg, _⟩
  · simp [Value.ownBlock] at hb
  · rcases h'.2 with ⟨rfl, _⟩ | ⟨g', c', cur', rfl, _, hg', _⟩
    · simp [Value.ownBlock] at hb'
    · simp only [Value.ownBlock, Option.some.injEq] at hb hb'
      subst hb
      subst hb'
      rw [hg] at hg'
      injection hg' with hg'
      injection hg' with _ hg' _
      exact hne hg'
section
variable {w : World} {hp : Nat} {room : Int} {j L : Nat} {ws : List Wd} {nm : List ByteArray} {M : Nat → Prop} {vs : List Wd} {ts : List (Tm 13)} {ns : List (Option Nat)} {C : Went} {v7 v8 v9 : Value} {X : Nat → Prop} {wr : World}
theorem HpR.apart3 (h : HpR w hp room j L ws nm M vs ts ns C v7 v8 v9 X wr) : (∀ b, v7.ownBlock = some b → v8.ownBlock ≠ some b) ∧ (∀ b, v7.ownBlock = some b → v9.ownBlock ≠ some b) ∧ (∀ b, v8.ownBlock = some b → v9.ownBlock ≠ some b) :=
  ⟨own_type h.r7 h.r8 (by decide), own_type h.r7 h.r9 (by decide), own_type h.r8 h.r9 (by decide)⟩
theorem HpR.lt (h : HpR w hp room j L ws nm M vs ts ns C v7 v8 v9 X wr) {b : Nat} (hb : Own3 v7 v8 v9 b) : w.heap.size ≤ b ∧ b < wr.heap.size := by
  rcases hb with e | e | e
  · exact h.r7.lt b e
  · exact h.r8.lt b e
  · exact h.r9.lt b e
/-- What is frozen stays where it is. -/
theorem term_turn {F F' : Nat → Prop} {w1 w2 : World} (hs : w1.heap.size ≤ w2.heap.size) (hb : ∀ b, F b → b < w1.heap.size → w2.heap[b]? = w1.heap[b]?) (hF : ∀ b, F b → b < w1.heap.size → F' b) {y : Tm 13} (h : In w1.heap.size w1 13 y ∧ Off F 13 y) : In w2.heap.size w2 13 y ∧ Off F' 13 y := by
  have ho := In.offB h.2 h.1
  exact ⟨(In.off (P := fun b => F b ∧ b < w1.heap.size) (fun b q => hb b q.1 q.2) ho h.1).mono hs, ho.mono fun b q => hF b q.1 q.2⟩
theorem HpR.later (h : HpR w hp room j L ws nm M vs ts ns C v7 v8 v9 X wr) {w' : World} (hb : Below wr.heap.size wr w') : HpR w hp room j L ws nm M vs ts ns C v7 v8 v9 X w' := by
  have hs := hb.size
  have hF : ∀ b, Fz M v7 v8 v9 X wr b → b < wr.heap.size → Fz M v7 v8 v9 X w' b := fun b q _ => ⟨by have := q.1; omega, q.2⟩
  exact ⟨h.heap.later hb, h.lens, row_kee h.r7 (kee_below hb fun _ => False) fun _ _ e => e, row_kee h.r8 (kee_below hb fun _ => False) fun _ _ e => e, row_kee h.r9 (kee_below hb fun _ => False) fun _ _ e => e, h.apart, fun b e => ⟨(h.sep b e).1, (h.sep b e).2.1, by have := (h.sep b e).2.2; omega⟩, h.stand, h.good, fun y hy => term_turn hs (fun b _ hl => hb.block b hl) hF (h.term y hy), h.cor.kept (fun b _ hl => hb.block b hl) hF, h.rel, h.room, h.names⟩
theorem HpR.up (h : HpR w hp room j L ws nm M vs ts ns C v7 v8 v9 X wr) {i : Nat} (hi : j ≤ i) : HpR w hp room i L ws nm M vs ts ns C v7 v8 v9 X wr := ⟨h.heap, h.lens, h.r7, h.r8, h.r9, h.apart, h.sep, h.stand, h.good, h.term, h.cor, h.rel, h.room, by have := h.names; omega⟩
/-- What is left out may change: X is less, or other blocks come in that the state doesn't have. -/
theorem HpR.but (h : HpR w hp room j L ws nm M vs ts ns C v7 v8 v9 X wr) {X' : Nat → Prop} {w' : World} {S : Nat → Prop} (hk : Kee S wr w') (hS : ∀ b, b < wr.heap.size → S b → X b) (hX : ∀ b, X' b → X b ∨ (wr.heap.size ≤ b ∧ b < w'.heap.size)) : HpR w hp room j L ws nm M vs ts ns C v7 v8 v9 X' w' := by
  have hs := hk.size
  obtain ⟨k1, k2, k3⟩ := h.heap
  have hSX : ∀ b, Own3 v7 v8 v9 b → ¬ S b := fun b e q => (h.apart b e).2 (hS b (h.lt e).2 q)
  have hSM : ∀ b, M b → ¬ S b := fun b e q => (h.sep b (hS b (k3 b e).2 q)).1 e
  have hF : ∀ b, Fz M v7 v8 v9 X wr b → b < wr.heap.size → Fz M v7 v8 v9 X' w' b := fun b q hl => ⟨by omega, q.2.1, q.2.2.1, fun e => by
    rcases hX b e with e | e
    · exact q.2.2.2 e
    · omega⟩
  have hB : ∀ b, Fz M v7 v8 v9 X wr b → b < wr.heap.size → w'.heap[b]? = wr.heap[b]? := fun b q hl => hk.block b hl fun e => q.2.2.2 (hS b hl e)
  have hkk : Keep S wr w' := ⟨hk.os, hk.tape, hk.output, hk.size, hk.block⟩
  have k1s := k1.size
  have hb' : Below w.heap.size w w' := ⟨hk.os.trans k1.os, hk.tape.trans k1.tape, hk.output.trans k1.output, Nat.le_trans k1.size hs, fun b hb => (hk.block b (by omega) fun e => by have := (h.sep b (hS b (by omega) e)).2.1; omega).trans (k1.block b hb)⟩
  refine ⟨⟨hb', k2.kept hkk fun b e _ => hSM b e, fun b e => ⟨(k3 b e).1, by have := (k3 b e).2; omega⟩⟩, h.lens, row_kee h.r7 hk fun b e => hSX b (Or.inl e), row_kee h.r8 hk fun b e => hSX b (Or.inr (Or.inl e)), row_kee h.r9 hk fun b e => hSX b (Or.inr (Or.inr e)), fun b e => ⟨(h.apart b e).1, fun q => ?_⟩, fun b e => ?_, h.stand, h.good, fun y hy => term_turn hs hB hF (h.term y hy), h.cor.kept hB hF, h.rel, h.room, h.names⟩
  · rcases hX b q with q | q
    · exact (h.apart b e).2 q
    · have := (h.lt e).2
      omega
  · rcases hX b e with e | e
    · exact ⟨(h.sep b e).1, (h.sep b e).2.1, by have := (h.sep b e).2.2; omega⟩
    · exact ⟨fun q => by have := (k3 b q).2; omega, by omega, e.2⟩
theorem HpR.start {hp : Nat} {room : Int} {M : Nat → Prop} {w1 : World} (h : HpS w hp room [] [] M w1) (hr : 0 ≤ room ∧ room ≤ 1000) : HpR w hp room 0 0 [] [] M [] [] [] [] (.slice none 0 0) (.slice none 0 0) (.slice none 0 0) (fun _ => False) w1 :=
  ⟨h, ⟨rfl, rfl, rfl⟩, World.ownsRow_nil _ _ _ _, World.ownsRow_nil _ _ _ _, World.ownsRow_nil _ _ _ _, fun b e => (by rcases e with e | e | e <;> cases e), fun b e => e.elim, ⟨rfl, fun i v y hv => (by simp at hv)⟩, fun y hy => (by cases hy), fun y hy => (by cases hy), cor_nil _ _, ⟨rfl, fun i v k hv => (by simp at hv)⟩, ⟨by simpa using hr.1, hr⟩, by simp⟩
end
end Go.Proofs.Ytdlckjjfbobmpaa
namespace Go.Proofs.Ytdlckjjfbobmpaa
open Go.RowKit Go.Maps

theorem standL_pre {ws ws' : List Wd} {nm nm' : List ByteArray} {n : Nat} {vs : List Wd} {ts : List (Tm n)} (h : StandL ws nm n vs ts) (h1 : ws <+: ws') (h2 : nm <+: nm') : StandL ws' nm' n vs ts := ⟨h.1, fun i v y a b => (h.2 i v y a b).mono h1 h2⟩
section
variable {w : World} {hp : Nat} {room : Int} {j L : Nat} {ws : List Wd} {nm : List ByteArray} {M : Nat → Prop} {vs : List Wd} {ts : List (Tm 13)} {ns : List (Option Nat)} {C : Went} {v7 v8 v9 : Value} {X : Nat → Prop} {wr : World}
theorem HpR.laid (h : HpR w hp room j L ws nm M vs ts ns C v7 v8 v9 X wr) {ws' : List Wd} {nm' : List ByteArray} {w' : World} (k : Laid w.heap.size hp room ws' nm' M wr w') (h1 : ws <+: ws') (h2 : nm <+: nm') (hr : (ws'.length : Int) ≤ room) {i : Nat} (hn : nm'.length ≤ 201 * i) : HpR w hp room i L ws' nm' (fun b => (M b ∨ wr.heap.size ≤ b) ∧ b < w'.heap.size) vs ts ns C v7 v8 v9 X w' := by
  have hs := k.2.size
  have hkk : Kee M wr w' := ⟨k.2.os, k.2.tape, k.2.output, k.2.size, k.2.block⟩
  have hF : ∀ b, Fz M v7 v8 v9 X wr b → b < wr.heap.size → Fz (fun b => (M b ∨ wr.heap.size ≤ b) ∧ b < w'.heap.size) v7 v8 v9 X w' b := fun b q hl => ⟨by omega, fun e => by
    rcases e.1 with e | e
    · exact q.2.1 e
    · omega, q.2.2⟩
  have hB : ∀ b, Fz M v7 v8 v9 X wr b → b < wr.heap.size → w'.heap[b]? = wr.heap[b]? := fun b q hl => hkk.block b hl q.2.1
  refine ⟨h.heap.laid k, h.lens, row_kee h.r7 hkk fun b e => (h.apart b (Or.inl e)).1, row_kee h.r8 hkk fun b e => (h.apart b (Or.inr (Or.inl e))).1, row_kee h.r9 hkk fun b e => (h.apart b (Or.inr (Or.inr e))).1, fun b e => ⟨fun q => ?_, (h.apart b e).2⟩, fun b e => ⟨fun q => ?_, (h.sep b e).2.1, by have := (h.sep b e).2.2; omega⟩, standL_pre h.stand h1 h2, h.good, fun y hy => term_turn hs hB hF (h.term y hy), (h.cor.kept hB hF).pre h1, h.rel, ⟨hr, h.room.2⟩, hn⟩
  · rcases q.1 with q | q
    · exact (h.apart b e).1 q
    · have := (h.lt e).2
      omega
  · rcases q.1 with q | q
    · exact (h.sep b e).1 q
    · have := (h.sep b e).2.2
      omega
/-- The rows are turned, each has one more: what was frozen stays so. -/
theorem frozen_rows {y7 y8 y9 : Value} {w' : World} (hk : Kee (Own3 v7 v8 v9) wr w') (hy : ∀ b, Own3 y7 y8 y9 b → Own3 v7 v8 v9 b ∨ wr.heap.size ≤ b) : (∀ b, Fz M v7 v8 v9 X wr b → b < wr.heap.size → w'.heap[b]? = wr.heap[b]?) ∧ ∀ b, Fz M v7 v8 v9 X wr b → b < wr.heap.size → Fz M y7 y8 y9 X w' b := by
  have hs := hk.size
  refine ⟨fun b q hl => hk.block b hl q.2.2.1, fun b q hl => ⟨by omega, q.2.1, fun e => ?_, q.2.2.2⟩⟩
  rcases hy b e with e | e
  · exact q.2.2.1 e
  · omega
theorem relR_snoc {D : Went} {us : List Wd} {ks : List (Option Nat)} (h : RelR D us ks) {v : Wd} {k : Option Nat} (hv : RelW D v k) : RelR D (us ++ [v]) (ks ++ [k]) := by
  have hl := h.1
  refine ⟨by simp [hl], fun i u q hu hq => ?_⟩
  by_cases hi : i < ks.length
  · rw [List.getElem?_append_left (by omega)] at hu hq
    exact h.2 i u q hu hq
  · rw [List.getElem?_append_right (by omega)] at hu hq
    have hi0 : i = ks.length := by
      have := (List.getElem?_eq_some_iff.1 hq).1
      simp at this
      omega
    subst hi0
    rw [hl] at hu
    simp at hu hq
    subst hu hq
    exact hv
theorem standL_snoc {n : Nat} {us : List Wd} {ys : List (Tm n)} (h : StandL ws nm n us ys) {v : Wd} {x : Tm n} (hx : Stands ws nm n x v) : StandL ws nm n (us ++ [v]) (ys ++ [x]) := by
  have hl := h.1
  refine ⟨by simp [hl], fun i u q hu hq => ?_⟩
  by_cases hi : i < ys.length
  · rw [List.getElem?_append_left (by omega)] at hu hq
    exact h.2 i u q hu hq
  · rw [List.getElem?_append_right (by omega)] at hu hq
    have hi0 : i = ys.length := by
      have := (List.getElem?_eq_some_iff.1 hq).1
      simp at this
      omega
    subst hi0
    rw [hl] at hu
    simp at hu hq
    subst hu hq
    exact hx
theorem HpR.more (h : HpR w hp room j L ws nm M vs ts ns C v7 v8 v9 X wr) {y7 y8 y9 : Value} {w' : World} (hk : Kee (Own3 v7 v8 v9) wr w') (hy : ∀ b, Own3 y7 y8 y9 b → Own3 v7 v8 v9 b ∨ wr.heap.size ≤ b) {v : Wd} {x : Tm 13} {k : Option Nat} {D : Went}
    (s7 : w'.ownsRow w.heap.size 38 2 y7 (L + 1) (wCells vs ++ wd2 v)) (s8 : w'.ownsRow w.heap.size 32 4 y8 (L + 1) (ndCells (ts.map (hdT 13)) ++ nd4 (hdT 13 x))) (s9 : w'.ownsRow w.heap.size 39 1 y9 (L + 1) (ns.map pv ++ [pv k]))
    (hv : Stands ws nm 13 x v) (hx : chk 13 x = 0 ∧ closedT 13 x = true) (ht : In w'.heap.size w' 13 x ∧ Off (Fz M y7 y8 y9 X w') 13 x) (hD : Cor ws (NodeIn w' (Fz M y7 y8 y9 X w')) D) (hCD : ∀ e ∈ C, e ∈ D) (hr : RelW D v k) :
    HpR w hp room j (L + 1) ws nm M (vs ++ [v]) (ts ++ [x]) (ns ++ [k]) D y7 y8 y9 X w' := by
  have hs := hk.size
  obtain ⟨hB, hF⟩ := frozen_rows (M := M) (X := X) hk hy
  obtain ⟨l1, l2, l3⟩ := h.lens
  obtain ⟨k1, k2, k3⟩ := h.heap
  have hkk : Keep (Own3 v7 v8 v9) wr w' := ⟨hk.os, hk.tape, hk.output, hk.size, hk.block⟩
  have k1s := k1.size
  have hb' : Below w.heap.size w w' := ⟨hk.os.trans k1.os, hk.tape.trans k1.tape, hk.output.trans k1.output, Nat.le_trans k1.size hs, fun b hb => (hk.block b (by omega) fun e => by have := (h.lt e).1; omega).trans (k1.block b hb)⟩
  refine ⟨⟨hb', k2.kept hkk fun b e _ q => (h.apart b q).1 e, fun b e => ⟨(k3 b e).1, by have := (k3 b e).2; omega⟩⟩, ⟨by simp [l1], by simp [l2], by simp [l3]⟩, by simpa [wCells] using s7, by simpa [ndCells] using s8, by simpa using s9, fun b e => ?_, fun b e => ⟨(h.sep b e).1, (h.sep b e).2.1, by have := (h.sep b e).2.2; omega⟩, standL_snoc h.stand hv, fun y hy => ?_, fun y hy => ?_, hD, relR_snoc (h.rel.mono hCD) hr, h.room, h.names⟩
  · rcases hy b e with e | e
    · exact h.apart b e
    · exact ⟨fun q => by have := (k3 b q).2; omega, fun q => by have := (h.sep b q).2.2; omega⟩
  · rcases List.mem_append.1 hy with hy | hy
    · exact h.good y hy
    · rw [List.mem_singleton.1 hy]
      exact hx
  · rcases List.mem_append.1 hy with hy | hy
    · exact term_turn hs hB hF (h.term y hy)
    · rw [List.mem_singleton.1 hy]
      exact ht
end
end Go.Proofs.Ytdlckjjfbobmpaa
namespace Go.Proofs.Ytdlckjjfbobmpaa
open Go.RowKit Go.Maps

theorem offlowP {B : Nat} {w : World} : {n : Nat} → {x : Tm n} → In B w n x → Off (fun b => b < B) n x
  | 0, _, k => k
  | _ + 1, _, k => by
    obtain ⟨_, k1⟩ := k
    rcases k1 with k1 | ⟨b, o, e, hb, k1⟩
    · exact Or.inl k1
    · exact Or.inr ⟨b, o, e, hb, fun i y hy => offlowP (k1 i y hy).2⟩
theorem own_slice {w : World} {base : Nat} {e : TypeId} {sz : Nat} {v : Value} {n : Nat} {xs : List Value} (h : w.ownsRow base e sz v n xs) : ∃ a c, v = .slice a n c := by
  rcases h.2 with ⟨rfl, rfl⟩ | ⟨g, c, cur, rfl, _⟩
  · exact ⟨none, 0, rfl⟩
  · exact ⟨_, c, rfl⟩
theorem own_words7 {w : World} {base L c : Nat} {a : Option Addr} {us : List Wd} (h : w.ownsRow base 38 2 (.slice a L c) L (wCells us)) (hL : us.length = L) : WordsIn w us a ∧ ∀ b o, a = some ⟨b, o, none⟩ → b < w.heap.size := by
  rcases h.2 with ⟨e, e0⟩ | ⟨g, cap, cur, e, _, hh, _⟩
  · injection e with e1 _ _
    refine ⟨Or.inl (List.eq_nil_of_length_eq_zero (by omega)), fun b o e => ?_⟩
    rw [e1] at e
    cases e
  · injection e with e1 _ _
    subst e1
    have hl := (Array.getElem?_eq_some_iff.1 hh).1
    refine ⟨Or.inr ⟨g, 0, rfl, hl, fun i v hv => ?_⟩, fun b o e => ?_⟩
    · have := word_cells h i v hv
      rw [Nat.zero_add]
      exact this
    · injection e with e
      injection e with e _
      omega
section
variable {w : World} {hp : Nat} {room : Int} {j L : Nat} {ws : List Wd} {nm : List ByteArray} {M : Nat → Prop} {vs : List Wd} {ts : List (Tm 13)} {ns : List (Option Nat)} {C : Went} {v7 v8 v9 : Value} {X : Nat → Prop} {wr : World}
theorem HpR.few (h : HpR w hp room j L ws nm M vs ts ns C v7 v8 v9 X wr) : ws.length ≤ 1000 := by
  have := h.room
  omega
theorem HpR.right (h : HpR w hp room j L ws nm M vs ts ns C v7 v8 v9 X wr) : ∀ y ∈ ts, RightA ⟨13, y⟩ := fun y hy => (low13 (h.good y hy).1).1
theorem HpR.inv (h : HpR w hp room j L ws nm M vs ts ns C v7 v8 v9 X wr) : CInv ws (rootsR ws 13 vs).2 ∧ (rootsR ws 13 vs).1 = vs.map (cpW (rootsR ws 13 vs).2.2) ∧ ∀ u ∈ vs, u.1 = 4 → (look (rootsR ws 13 vs).2.2 u.2.toNat).isSome = true :=
  cpL_inv (fun x v S hh hi => cpF_inv 13 x v S hh hi) vs ts h.stand ([], []) (CInv.nil ws)
theorem HpR.live (h : HpR w hp room j L ws nm M vs ts ns C v7 v8 v9 X wr) (hL : L ≤ 1500000) : Calls Try.prog 15 #[v9] wr fun e w' => e = .returned (.int .i64 ((rootsR ws 13 vs).2.1.length : Nat)) ∧ Below wr.heap.size wr w' := by
  obtain ⟨a, c, rfl⟩ := own_slice h.r9
  obtain ⟨i1, _, i3⟩ := h.inv
  exact live_any ws C (rootsR ws 13 vs).2 vs (Fz M v7 v8 (.slice a L c) X wr) 13 a L c ns wr (PtrsAt.of h.r9) h.lens.2.2 hL h.cor (show _ ∧ _ from ⟨i1, rfl⟩) (show _ ∧ _ from ⟨h.rel, i3⟩) h.few
theorem HpR.lives (h : HpR w hp room j L ws nm M vs ts ns C v7 v8 v9 X wr) (hL : L ≤ 1500000) (hj : j ≤ 200) : Calls Try.prog 16 #[.pointer (some ⟨hp, 0, none⟩), v7] wr fun e w' => e = .returned (.tuple #[.int .i64 ((rootsR ws 13 vs).2.1.length : Nat), .int .i64 0]) ∧ Below wr.heap.size wr w' := by
  obtain ⟨a, c, rfl⟩ := own_slice h.r7
  obtain ⟨k1, k2⟩ := own_words7 h.r7 h.lens.1
  have hn := h.names
  have k := hlive_anf 13 ts vs a c w.heap.size hp room ws nm M wr h.heap.2.1 ⟨h.stand, h.right, fun y hy => (h.good y hy).2, by rw [h.lens.1]; omega⟩ k1 k2 h.few (by omega)
  rw [h.lens.1] at k
  exact k
theorem HpR.used (h : HpR w hp room j L ws nm M vs ts ns C v7 v8 v9 X wr) : Calls Try.prog 17 #[.pointer (some ⟨hp, 0, none⟩)] wr fun e w' => e = .returned (.int .i64 (ws.length : Nat)) ∧ w' = wr := hused_any h.heap.2.1
theorem HpR.get (h : HpR w hp room j L ws nm M vs ts ns C v7 v8 v9 X wr) (hj : j ≤ 200) {i : Nat} {v : Wd} {x : Tm 13} (hv : vs[i]? = some v) (hx : ts[i]? = some x) : Calls Try.prog 18 #[.pointer (some ⟨hp, 0, none⟩), .agg #[.int .i64 v.1, .int .i64 v.2]] wr fun e w' => ∃ y : Tm 13, e = .returned (.tuple #[val 13 y, .int .i64 0]) ∧ Hid (Below wr.heap.size wr w' ∧ In w'.heap.size w' 13 y ∧ same 13 y 13 x = true) := by
  have hm := List.mem_of_getElem? hx
  have hn := h.names
  have hf := h.few
  refine (hget_any 13 x v w.heap.size hp room ws nm M wr h.heap.2.1 (h.stand.2 i v x hv hx) (h.right x hm) (h.good x hm).2 (by omega) (by omega)).mono ?_
  rintro e w' ⟨y, rfl, H⟩
  exact ⟨y, rfl, H.out.1, H.out.2.1, H.out.2.2.2⟩
theorem HpR.put (h : HpR w hp room j L ws nm M vs ts ns C v7 v8 v9 X wr) (hj : j ≤ 200) {q : Nat} (x : Tm (q + 1)) (hx : In w.heap.size w (q + 1) x) (hN : (nodes (q + 1) x).length ≤ 2097152) :
    Calls Try.prog 9 #[.pointer (some ⟨hp, 0, none⟩), val (q + 1) x] wr fun e w' => ∃ v : Wd, e = .returned (.tuple #[.agg #[.int .i64 v.1, .int .i64 v.2], .int .i64 (putE (q + 1) x room ws)]) ∧ Hid ((putE (q + 1) x room ws ≠ 0 → Below wr.heap.size wr w') ∧
      (putE (q + 1) x room ws = 0 → ∃ ws' nm' M', chk (q + 1) x = 0 ∧ closedT (q + 1) x = true ∧ (ws'.length : Int) = ws.length + sz (q + 1) x ∧ HpR w hp room (j + 1) L ws' nm' M' vs ts ns C v7 v8 v9 X w' ∧ Stands ws' nm' (q + 1) x v ∧ (plc ws' (q + 1) v).Nodup ∧ (∀ p ∈ plc ws' (q + 1) v, ws.length ≤ p) ∧ ∀ b, X b → w'.heap[b]? = wr.heap[b]?)) := by
  have hb := h.heap.1
  have hf := h.few
  have hn := h.names
  have hr := h.room
  refine (hput_any (q + 1) x w.heap.size hp room ws nm M wr h.heap.2.1 ((hx.below hb).mono hb.size) ((offlowP hx).mono fun b q e => by have := (h.heap.2.2 b e).1; omega) hN hb.size hr.2.1 hr.2.2 hf (by omega)).mono ?_
  rintro e w' ⟨h1, h2⟩
  by_cases h0 : putE (q + 1) x room ws = 0
  · obtain ⟨⟨a1, a2, a3⟩, rfl, a4⟩ := h2 h0
    refine ⟨(layF (q + 1) x ws nm).1, by rw [h0]; rfl, fun e => absurd h0 e, fun _ => ⟨_, _, _, a1, a2, (layF_sizes (q + 1) x ws nm).1, h.laid a4 (layF_pre (q + 1) x ws nm).1 (layF_pre (q + 1) x ws nm).2 ?_ ?_, layF_stands (q + 1) x ws nm (low13 a1).1, (lay_plc (q + 1) x ws nm (low13 a1).1).1, (lay_plc (q + 1) x ws nm (low13 a1).1).2, fun b e => a4.2.block b (h.sep b e).2.2 (h.sep b e).1⟩⟩
    · have := (layF_sizes (q + 1) x ws nm).1
      omega
    · have h3 := (layF_sizes (q + 1) x ws nm).2
      have h4 := chk_nlen a1
      omega
  · obtain ⟨rfl, a1⟩ := h1 h0
    exact ⟨(0, 0), rfl, fun _ => a1, fun e => absurd e h0⟩
end
end Go.Proofs.Ytdlckjjfbobmpaa
namespace Go.Proofs.Ytdlckjjfbobmpaa
open Go.RowKit Go.Maps

/-- The tuple that is made of terms that lie at a place. -/
def madeT (a : Option Addr) (c : Nat) (qs : List (Tm 13)) : Tm 14 := ((4, 0, .empty), (a, c), qs)
theorem made_same (a : Option Addr) (c : Nat) {qs : List (Tm 13)} (hr : ∀ y ∈ qs, RightA ⟨13, y⟩) : same 14 (madeT a c qs) 14 (tupT 13 qs) = true := by
  refine same_mk rfl ?_
  have key : ∀ l : List (Tm 13), (∀ y ∈ l, RightA ⟨13, y⟩) → sameL (fun x y => same 13 x 13 y) l l = true := by
    intro l
    induction l with
    | nil => intro _; rfl
    | cons y l ih =>
      intro h
      simp only [sameL, Bool.and_eq_true]
      exact ⟨same_refl 13 y (h y (by simp)), ih fun z hz => h z (List.mem_cons_of_mem _ hz)⟩
  exact key qs hr
theorem made_chk (a : Option Addr) (c : Nat) {qs : List (Tm 13)} (hr : ∀ y ∈ qs, RightA ⟨13, y⟩) : chk 14 (madeT a c qs) = chk 14 (tupT 13 qs) := same_chk (made_same a c hr)
theorem made_stands {ws : List Wd} {nm : List ByteArray} {us : List Wd} {qs : List (Tm 13)} (h : StandL ws nm 13 us qs) (a : Option Addr) (c : Nat) : Stands (ws ++ (0, (us.length : Int)) :: us) nm 14 (madeT a c qs) (4, (ws.length : Int)) := by
  have hl : qs.length = us.length := h.1.symm
  refine ⟨fun e => (by cases e), fun _ => ⟨ws.length, rfl, ?_, ?_, fun i y hy => ?_⟩, fun _ e => absurd rfl e⟩
  · show _ = some (0, (qs.length : Int))
    rw [hl]
    simp
  · show ws.length + 1 + qs.length ≤ _
    rw [hl]
    simp
    omega
  · have hy : qs[i]? = some y := hy
    have hi := (List.getElem?_eq_some_iff.1 hy).1
    have hu : us[i]? = some (us[i]'(by omega)) := List.getElem?_eq_getElem _
    refine ⟨us[i]'(by omega), ?_, (h.2 i _ y hu hy).mono ⟨_, rfl⟩ (List.prefix_refl _)⟩
    rw [List.getElem?_append_right (by omega), show ws.length + 1 + i - ws.length = i + 1 by omega, List.getElem?_cons_succ]
    exact hu
section
variable {w : World} {hp : Nat} {room : Int} {j L : Nat} {ws : List Wd} {nm : List ByteArray} {M : Nat → Prop} {vs : List Wd} {ts : List (Tm 13)} {ns : List (Option Nat)} {C : Went} {v7 v8 v9 : Value} {X : Nat → Prop} {wr : World}
theorem HpR.join (h : HpR w hp room j L ws nm M vs ts ns C v7 v8 v9 X wr) (hj : j ≤ 200) {us : List Wd} {qs : List (Tm 13)} {a : Option Addr} {n pc : Nat} (hs : StandL ws nm 13 us qs) (hq : ∀ y ∈ qs, chk 13 y = 0 ∧ closedT 13 y = true) (hn : us.length = n) (h8 : n ≤ 8) (hin : WordsIn wr us a) (hoff : ∀ b o, a = some ⟨b, o, none⟩ → ¬ M b) :
    Calls Try.prog 12 #[.pointer (some ⟨hp, 0, none⟩), .slice a n pc] wr fun e w' => ∃ v : Wd, e = .returned (.tuple #[.agg #[.int .i64 v.1, .int .i64 v.2], .int .i64 (joinE 13 qs room ws)]) ∧ Hid ((joinE 13 qs room ws ≠ 0 → Below wr.heap.size wr w') ∧
      (joinE 13 qs room ws = 0 → v = (4, (ws.length : Int)) ∧ chk 14 (tupT 13 qs) = 0 ∧ (∀ b, X b → w'.heap[b]? = wr.heap[b]?) ∧ ∃ M', HpR w hp room (j + 1) L (ws ++ (0, (us.length : Int)) :: us) nm M' vs ts ns C v7 v8 v9 X w')) := by
  have hf := h.few
  have hnm := h.names
  have hr := h.room
  have hb := h.heap.1
  have hql : qs.length = n := hs.1.symm.trans hn
  have hN : (nodes (13 + 1) (tupT 13 qs)).length ≤ 1000000 := by
    have key : ∀ l : List (Tm 13), (∀ y ∈ l, chk 13 y = 0) → (l.flatMap fun y => nodes 13 y).length ≤ 201 * l.length := by
      intro l
      induction l with
      | nil => intro _; simp
      | cons y l ih =>
        intro hy
        have h1 := ih fun z hz => hy z (List.mem_cons_of_mem _ hz)
        have h2 := chk_nlen (hy y (by simp))
        simp only [List.flatMap_cons, List.length_append, List.length_cons]
        omega
    have h1 := key qs fun y hy => (hq y hy).1
    have h2 : (nodes (13 + 1) (tupT 13 qs)).length = (qs.flatMap fun y => nodes 13 y).length + 1 := rfl
    omega
  have k := hjoin_any 13 qs us a pc w.heap.size hp room ws nm M wr h.heap.2.1 hs.1 (by omega) hb.size hr.2.1 hr.2.2 hf (by omega) hin hoff (fun i y v hy hv => hs.2 i v y hv hy) (fun y hy => (low13 (hq y hy).1).1) (fun y hy => (hq y hy).2) hN
  rw [hql] at k
  refine k.mono ?_
  rintro e w' ⟨h1, h2⟩
  by_cases h0 : joinE 13 qs room ws = 0
  · obtain ⟨a1, rfl, a4⟩ := h2 h0
    refine ⟨(4, (ws.length : Int)), by rw [h0]; rfl, fun e => absurd h0 e, fun _ => ⟨rfl, ?_, fun b e => a4.2.block b (h.sep b e).2.2 (h.sep b e).1, _, h.laid a4 ⟨_, rfl⟩ (List.prefix_refl _) ?_ (by omega)⟩⟩
    · unfold joinE at h0
      split at h0
      · omega
      · exact h0
    · have : us.length = qs.length := hs.1
      simp only [List.length_append, List.length_cons]
      omega
  · obtain ⟨rfl, a1⟩ := h1 h0
    exact ⟨(0, 0), rfl, fun _ => a1, fun e => absurd e h0⟩
end
/-- The code of what is joined is never that of a form. -/
theorem join_code {qs : List (Tm 13)} (hq : ∀ y ∈ qs, chk 13 y = 0) (h8 : qs.length ≤ 8) : chk 14 (tupT 13 qs) = 0 ∨ chk 14 (tupT 13 qs) = 2 := by
  have hf : formedB 14 (tupT 13 qs) = true := right_formed.1 (tupT_right (fun y hy => (low13 (hq y hy)).1) h8)
  rw [← tchk_chk]
  unfold tchk
  rw [hf]
  simp only [if_true]
  split
  · exact Or.inr rfl
  · exact Or.inl rfl
end Go.Proofs.Ytdlckjjfbobmpaa
