/- What is proved here: the statements' own put, of a right pattern and four right terms that lie in memory: it returns the pattern with what is bound put in, in memory that was there ahead of it or is new; it turns no memory that was there. No other condition. -/
import Derived.Test.YtfaoeccnhbcjgabPut1
import Derived.Deep.AppendLies
import Derived.Deep.RegionLaw
namespace Go.Proofs.Ytfaoeccnhbcjgab
open Go.RowKit

def FPut (D : Nat) (l : List (Tm D)) (n : Nat) : Prop := ∀ (p : Tm n) (B : Nat) (w : World) (la : Option Addr) (lc : Nat), In B w n p → Lies B w D l la → B ≤ w.heap.size → RightA ⟨n, p⟩ →
  Calls Try.prog 32 #[val n p, .slice la 4 lc] w fun e w' => ∃ X : Tm (D + n), e = .returned (val (D + n) X) ∧ Hid (Below w.heap.size w w' ∧ In w'.heap.size w' (D + n) X ∧ Off (fun b => b < B ∨ w.heap.size ≤ b) (D + n) X ∧ PutR D l n p X)

set_option maxHeartbeats 1000000 in
theorem put_var (k : Nat) (u : Int) (s : ByteArray) (a : Option Addr) (pl pc lb lo lc : Nat) (zk zu : Int) (zs : ByteArray) (za : Option Addr) (zl zc : Nat) (w : World) (hk : k < 4) (hlb : lb < w.heap.size) (hu : u = k)
    (c0 : w.cell? ⟨lb, lo + k * 4, none⟩ = some (.int .i64 zk)) (c1 : w.cell? ⟨lb, lo + k * 4 + 1, none⟩ = some (.int .i64 zu)) (c2 : w.cell? ⟨lb, lo + k * 4 + 2, none⟩ = some (.string zs)) (c3 : w.cell? ⟨lb, lo + k * 4 + 3, none⟩ = some (.slice za zl zc)) :
    Calls Try.prog 32 #[.agg #[.int .i64 5, .int .i64 u, .string s, .slice a pl pc], .slice (some ⟨lb, lo, none⟩) 4 lc] w fun e w' => e = .returned (.agg #[.int .i64 zk, .int .i64 zu, .string zs, .slice za zl zc]) ∧ Below w.heap.size w w' := by
  subst hu
  have hk1 : (0 : Int) ≤ (k : Int) := by omega
  have hk2 : (k : Int) < 4 := by omega
  go_enter Try.func32, Try.ntmps32
  go_wp2_with fail
  exact bodyPost_ret (v := .agg #[.int .i64 zk, .int .i64 zu, .string zs, .slice za zl zc]) (by simp [results, Try.results32, go_sem]) rfl ⟨rfl, by go_grown⟩

theorem three_boxes (w : World) (a b c : Obj) : (((w.alloc a).alloc b).alloc c).heap[w.heap.size + 1]? = some b ∧ (((w.alloc a).alloc b).alloc c).heap[w.heap.size + 2]? = some c := by
  have e1 : (w.alloc a).heap.size = w.heap.size + 1 := by simp
  have e2 : ((w.alloc a).alloc b).heap.size = w.heap.size + 2 := by simp
  have h1 := heap_alloc_new (w.alloc a) b
  have h2 := heap_alloc_new ((w.alloc a).alloc b) c
  rw [e1] at h1
  rw [e2] at h2
  exact ⟨(alloc_old _ _ (by omega)).trans h1, h2⟩
theorem own_box1 {w w1 : World} {o o1 : Obj} {base e size : Nat} {v : Value} {n : Nat} {xs : List Value} (h : w.ownsRow base e size v n xs) (hb : Below (w.alloc o).drew.heap.size (w.alloc o).drew w1) : (w1.alloc o1).ownsRow base e size v n xs :=
  (own_below (own_below h (((Below.refl _ _).alloc (Nat.le_refl _) o).trans ((below_undrew hb).mono (by simp)))) (Below.refl _ _)).alloc o1
theorem four_news (w : World) (x : Nd) : ∀ j u, (nd4 x)[j]? = some u → (w.alloc (.cells #[.int .i64 x.1.1, .int .i64 x.1.2.1, .string x.1.2.2, .slice x.2.1 x.2.2.1 x.2.2.2] 24)).cell? ((⟨w.heap.size, 0, none⟩ : Addr).add j) = some u := by
  intro j u hj
  rw [add_none]
  have : j < 4 := (List.getElem?_eq_some_iff.1 hj).1
  have h4 : j = 0 ∨ j = 1 ∨ j = 2 ∨ j = 3 := by omega
  rcases h4 with rfl | rfl | rfl | rfl <;> simp [nd4] at hj <;> subst hj <;> simp [go_sem]
theorem nd4_one (x : Nd) : ∀ u ∈ nd4 x, u.oneCell' = true := by
  intro u hu
  simp [nd4] at hu
  rcases hu with rfl | rfl | rfl | rfl <;> rfl

theorem box_drew {w w' : World} {v0 v1 v2 v3 : Value} {t : TypeId} (hb : Below (w.alloc (.cells #[v0, v1, v2, v3] t)).drew.heap.size (w.alloc (.cells #[v0, v1, v2, v3] t)).drew w') :
    w'.cell? ⟨w.heap.size, 0, none⟩ = some v0 ∧ w'.cell? ⟨w.heap.size, 1, none⟩ = some v1 ∧ w'.cell? ⟨w.heap.size, 2, none⟩ = some v2 ∧ w'.cell? ⟨w.heap.size, 3, none⟩ = some v3 := (boxed (below_undrew hb)).1
theorem put_q3 {w w1 : World} {o : Obj} {q : Nat} {v : Value} (h : w.cell? ⟨q, 3, none⟩ = some v) (hq : q < w.heap.size) (hb : Below (w.alloc o).drew.heap.size (w.alloc o).drew w1) : w1.cell? ⟨q, 3, none⟩ = some v := by
  have hb1 : Below w.heap.size w w1 := ((Below.refl _ _).alloc (Nat.le_refl _) o).trans ((below_undrew hb).mono (by simp))
  exact (below_cells hb1 q 3 hq).trans h
theorem put_f3 {w w1 : World} {o : Obj} {q : Nat} (h : w.frozen? ⟨q, 3, none⟩ = false) (hq : q < w.heap.size) (hb : Below (w.alloc o).drew.heap.size (w.alloc o).drew w1) : w1.frozen? ⟨q, 3, none⟩ = false := by
  have hb1 : Below w.heap.size w w1 := ((Below.refl _ _).alloc (Nat.le_refl _) o).trans ((below_undrew hb).mono (by simp))
  exact (hb1.frozen (p := ⟨q, 3, none⟩) hq).trans h
theorem put_lt {w w1 : World} {o : Obj} {q : Nat} (hq : q < w.heap.size) (hb : Below (w.alloc o).drew.heap.size (w.alloc o).drew w1) : q < w1.heap.size := by
  have := hb.size
  have e : (w.alloc o).drew.heap.size = w.heap.size + 1 := by simp [World.drew]
  omega
theorem put_rb {w0 w w1 w2 : World} {o o1 : Obj} {e size : Nat} {v v0 v1 v2 v3 : Value} {n : Nat} {xs : List Value} (h0 : Box4 (w0.heap.size + 1) v0 v1 v2 v3 w) (h : w.ownsRow (w0.heap.size + 3) e size v n xs) (hsz : w0.heap.size + 3 ≤ w.heap.size) (hb : Below (w.alloc o).drew.heap.size (w.alloc o).drew w1) (hg : (w1.alloc o1).grownBy w2 v.ownBlock) (u : Value) :
    Box4 (w0.heap.size + 1) v0 v1 v2 v3 (w2.setCell ⟨w0.heap.size + 1 + 1, 3, none⟩ u) := by
  have hs := hb.size
  have e0 : (w.alloc o).drew.heap.size = w.heap.size + 1 := by simp [World.drew]
  have hb1 : Below w.heap.size w w1 := ((Below.refl _ _).alloc (Nat.le_refl _) o).trans ((below_undrew hb).mono (by simp))
  have h1 : w2.heap[w0.heap.size + 1]? = w.heap[w0.heap.size + 1]? := ((hg.block _ (by simp; omega) (fun e => by have := (h.lt _ e.symm).1; omega)).trans (alloc_old w1 o1 (by omega))).trans (hb1.block _ (by omega))
  have h2 : (w2.setCell ⟨w0.heap.size + 1 + 1, 3, none⟩ u).heap[w0.heap.size + 1]? = w2.heap[w0.heap.size + 1]? := by
    simp [World.setCell, Array.getElem?_modify]
  exact (h2.trans h1).trans h0
theorem put_val {w : World} {base e size : Nat} {v : Value} {n : Nat} {xs : List Value} (h : w.ownsRow base e size v n xs) : v.oneCell' = true ∧ ∃ a c, v = .slice a n c := by
  rcases h.2 with ⟨rfl, rfl⟩ | ⟨g, cap, cur, rfl, _⟩
  · exact ⟨rfl, none, 0, rfl⟩
  · exact ⟨rfl, _, _, rfl⟩
theorem put_base {w w1 : World} {o o1 : Obj} {m : Nat} (h : m ≤ w.heap.size) (hb : Below (w.alloc o).drew.heap.size (w.alloc o).drew w1) : m ≤ (w1.alloc o1).heap.size := by
  have := hb.size
  have e : (w.alloc o).drew.heap.size = w.heap.size + 1 := by simp [World.drew]
  simp
  omega

theorem put_far {w w1 w2 : World} {o o1 : Obj} {base e size : Nat} {v v0 v1 v2 v3 v4 : Value} {n : Nat} {xs : List Value} {q : Nat} (h : w.ownsRow base e size v n xs) (hq : q < w.heap.size) (hqb : q < base) (hb : Below (w.alloc o).drew.heap.size (w.alloc o).drew w1) (hg : (w1.alloc o1).grownBy w2 v.ownBlock)
    (k : w1.cell? ⟨w.heap.size, 0, none⟩ = some v0 ∧ w1.cell? ⟨w.heap.size, 1, none⟩ = some v1 ∧ w1.cell? ⟨w.heap.size, 2, none⟩ = some v2 ∧ w1.cell? ⟨w.heap.size, 3, none⟩ = some v3) (k4 : w1.cell? ⟨q, 3, none⟩ = some v4) (kf : w1.frozen? ⟨q, 3, none⟩ = false) :
    (w2.cell? ⟨w.heap.size, 0, none⟩ = some v0 ∧ w2.cell? ⟨w.heap.size, 1, none⟩ = some v1 ∧ w2.cell? ⟨w.heap.size, 2, none⟩ = some v2 ∧ w2.cell? ⟨w.heap.size, 3, none⟩ = some v3) ∧ w2.cell? ⟨q, 3, none⟩ = some v4 ∧ w2.frozen? ⟨q, 3, none⟩ = false := by
  have hs := hb.size
  have e0 : (w.alloc o).drew.heap.size = w.heap.size + 1 := by simp [World.drew]
  have hold : ∀ b, b < w1.heap.size → v.ownBlock ≠ some b → w2.heap[b]? = w1.heap[b]? := fun b hb hne => (hg.block b (by simp; omega) (fun e => hne e.symm)).trans (alloc_old w1 o1 hb)
  have h1 := hold w.heap.size (by omega) (fun e => by have := (h.lt _ e).2; omega)
  have h2 := hold q (by omega) (fun e => by have := (h.lt _ e).1; omega)
  obtain ⟨k0, k1, k2, k3⟩ := k
  exact ⟨⟨(block_cell h1 _).trans k0, (block_cell h1 _).trans k1, (block_cell h1 _).trans k2, (block_cell h1 _).trans k3⟩, (block_cell h2 _).trans k4, (World.frozen?_of_block (a := ⟨q, 3, none⟩) h2).trans kf⟩

set_option maxHeartbeats 1000000 in
theorem put_else (D : Nat) (l : List (Tm D)) (n : Nat) (ih : FPut D l n) (k u : Int) (s : ByteArray) (a : Option Addr) (p : List (Tm n)) (len pc lc : Nat) (la : Option Addr) (B : Nat) (w : World) (hk5 : (k == 5) = false) (hpl : Hid (p.length = len)) (hlen : len ≤ 8)
    (hp : Hid (p = [] ∨ ∃ b o, a = some ⟨b, o, none⟩ ∧ b < B ∧ ∀ (i : Nat) (y : Tm n), p[i]? = some y → Held w b (o + i * 4) n y ∧ In B w n y)) (HL : Hid (Lies B w D l la)) (hrp : Hid (∀ y ∈ p, RightA ⟨n, y⟩)) (hB : B ≤ w.heap.size) :
    Calls Try.prog 32 #[.agg #[.int .i64 k, .int .i64 u, .string s, .slice a len pc], .slice la 4 lc] w fun e w' => ∃ xs v w1, e = .returned (.agg #[.int .i64 k, .int .i64 u, .string s, v]) ∧ Hid (PtP B D l n p w (.int .i64 k) (.int .i64 u) (.string s) len xs v w1 ∧ w1.grownBy w' (some (w.heap.size + 1))) := by
  obtain ⟨it, hit, htz0, htz1, htz2⟩ := info_parts infoTerm
  have HT := hide (⟨hit, htz0, htz1, htz2⟩ : _ ∧ _ ∧ _ ∧ _)
  clear hit htz0 htz1 htz2
  go_enter Try.func32, Try.ntmps32
  go_wp2_with fail
  go_loopw [26] (fun i wr => ∃ (kk : Nat) (v : Value), kk ≤ len ∧ i = .int .i64 kk ∧ wr.cell? ⟨w.heap.size + 2, 3, none⟩ = some v ∧ Hid (w.heap.size + 3 ≤ wr.heap.size ∧ Box4 (w.heap.size + 1) (.int .i64 0) (.int .i64 0) (.string .empty) (.slice none 0 0) wr ∧ ∃ xs, PtP B D l n p w (.int .i64 k) (.int .i64 u) (.string s) kk xs v wr)) (fun i _ => len - (intOf i).toNat)
  case atStart =>
    refine ⟨0, .slice none 0 0, by omega, rfl, by simp [go_sem], by simp, ?_, [], ?_, ?_, rfl, World.ownsRow_nil _ _ _ _, (fun y hy => by cases hy), (fun i y e _ he => by simp at he)⟩
    · exact (three_boxes w _ _ _).1
    · go_grown
    · exact (three_boxes w _ _ _).2
  case round =>
    obtain ⟨kk, v, hkk, rfl, hv3, HR⟩ := hrel
    obtain ⟨hsz, HRB, xs, HP⟩ : w.heap.size + 3 ≤ wr.heap.size ∧ Hid (Box4 (w.heap.size + 1) (.int .i64 0) (.int .i64 0) (.string .empty) (.slice none 0 0) wr) ∧ ∃ xs, Hid (PtP B D l n p w (.int .i64 k) (.int .i64 u) (.string s) kk xs v wr) := HR.out
    clear HR
    by_cases hlt : kk < len
    · obtain ⟨x, hx⟩ : ∃ x, p[kk]? = some x := ⟨p[kk]'(by rw [hpl.out]; exact hlt), List.getElem?_eq_getElem _⟩
      have HX := hide hx
      have HRX := hide (hrp.out x (List.mem_of_getElem? hx))
      rcases hp.out with hp | ⟨pb, po, rfl, hpb, hp⟩
      · subst hp; simp at hx
      obtain ⟨hx1, hx2⟩ := hp kk x hx
      have hbw : Below w.heap.size w wr := HP.out.1
      replace hx1 := hx1.below (hbw.mono hB) hpb
      replace hx2 := hx2.below (hbw.mono hB)
      have HL2 := hide (HL.out.below (hbw.mono hB))
      clear hp hx hbw HL hrp
      cases n with
      | zero => exact hx1.elim
      | succ n =>
      obtain ⟨x0, x1, x2, x3⟩ := hx1
      have hB' : B ≤ wr.heap.size := by omega
      have HC : Hid (∀ w1, Below wr.heap.size wr w1 → Calls Try.prog 32 #[.agg #[.int .i64 x.1.1, .int .i64 x.1.2.1, .string x.1.2.2, .slice x.2.1.1 x.2.2.length x.2.1.2], .slice la 4 lc] w1 fun e w' => ∃ X : Tm (D + n + 1), e = .returned (val (D + n + 1) X) ∧ Hid (Below w1.heap.size w1 w' ∧ In w'.heap.size w' (D + n + 1) X ∧ Off (fun b => b < B ∨ w1.heap.size ≤ b) (D + n + 1) X ∧ PutR D l (n + 1) x X)) :=
        fun w1 h1 => ih x B w1 la lc (hx2.below (h1.mono hB')) (HL2.out.below (h1.mono hB')) (Nat.le_trans hB' h1.size) HRX.out
      clear ih hx2 HRX HL2
      have hk1 : (0 : Int) ≤ (kk : Int) := by omega
      have hk2 : (kk : Int) < (len : Int) := by omega
      have hpw : pb < wr.heap.size := by omega
      have hqw : w.heap.size + 1 + 1 < wr.heap.size := by omega
      replace hv3 : wr.cell? ⟨w.heap.size + 1 + 1, 3, none⟩ = some v := hv3
      have hne9 : ¬ (w.heap.size + 1 + 1 = wr.heap.size) := by omega
      have hne8 : ¬ (wr.heap.size = w.heap.size + 1 + 1) := by omega
      have HQ : Hid (Box4 (w.heap.size + 2) (.int .i64 k) (.int .i64 u) (.string s) v wr) := HP.out.2.1
      have hf3 : wr.frozen? ⟨w.heap.size + 1 + 1, 3, none⟩ = false := HQ.out.cells.2 3
      have HRW : Hid (wr.ownsRow (w.heap.size + 3) 24 4 v kk (ndCells (xs.map (hdT (D + n + 1))))) := HP.out.2.2.2.1
      have HV3 : Hid (wr.cell? ⟨w.heap.size + 1 + 1, 3, none⟩ = some v) := hv3
      go_wp2_with fail
      go_region_law (first
          | (refine step_put rfl _ _ rfl (.agg #[.int .i64 x.1.1, .int .i64 x.1.2.1, .string x.1.2.2, .slice x.2.1.1 x.2.2.length x.2.1.2]) (.slice la 4 lc) (by simp [Act.eval]) (by simp [Act.eval]) _ (HC.out _ (((Below.refl _ _).alloc (Nat.le_refl _) _).drew)) ?_; rintro e w1 ⟨X, rfl, HY⟩; refine ⟨_, rfl, ?_⟩; obtain ⟨t0, t1, t2, t3⟩ := box_drew HY.out.1; have hq3 := put_q3 HV3.out hqw HY.out.1; have hfq := put_f3 hf3 hqw HY.out.1; have hw1 := put_lt hqw HY.out.1; have e3 : val (D + n + 1) X = .agg #[.int .i64 X.1.1, .int .i64 X.1.2.1, .string X.1.2.2, .slice X.2.1.1 X.2.2.length X.2.1.2] := rfl; rw [e3]; clear e3)
          | (refine step_append_lies _ rfl _ _ 22 rfl (w.heap.size + 3) 24 it _ 4 56 Try.underlying22 HT.out.1 HT.out.2.1 HT.out.2.2.1 HT.out.2.2.2 rfl (by decide) v kk _ (by simp [Act.eval]) (own_box1 HRW.out HY.out.1) ⟨w1.heap.size, 0, none⟩ 1 1 (nd4 (hdT (D + n + 1) X)) (by simp [Act.eval]) rfl (four_news w1 (hdT (D + n + 1) X)) (nd4_one _) (by decide) (by unfold maxLen; omega) (by omega) (put_base hsz HY.out.1) (w1.heap.size + 1) (by simp) ?_; intro g2 c2 w2 hown2 hgrow2 hat2 hlt2; obtain ⟨⟨s0, s1, s2, s3⟩, hq4, hf4⟩ := put_far HRW.out hqw (by omega) HY.out.1 hgrow2 ⟨t0, t1, t2, t3⟩ hq3 hfq))
      all_goals
        have HST := hide (HP.out.step hB (below_undrew HY.out.1) X HY.out.2.1 (HY.out.2.2.1.mono fun b hb => by simp [World.drew] at hb; omega) x HX.out HY.out.2.2.2 hown2 hgrow2 hat2)
        have HRB2 := hide (put_rb HRB.out HRW.out (by omega) HY.out.1 hgrow2 (.slice (some ⟨g2, 0, none⟩) (kk + 1) c2))
        have HSZ : Hid (w.heap.size + 3 ≤ (w2.setCell ⟨w.heap.size + 1 + 1, 3, none⟩ (.slice (some ⟨g2, 0, none⟩) (kk + 1) c2)).heap.size) := by have h1 := put_base (o1 := .cells #[] 0) hsz HY.out.1; have h2 := hgrow2.size; simp [World.setCell, Hid] at h1 h2 ⊢; omega
        clear HP HRB HRW HC HY hown2 hgrow2 hat2 hlt2 t0 t1 t2 t3 s0 s1 s2 s3 hq3 hfq hw1 hq4 hf4 hv3 hf3 HV3 HQ x0 x1 x2 x3
        go_wp2_with fail
        go_roundw
        case rel => exact ⟨kk + 1, _, by omega, by go_num, HST.out.2.1.cells.1.2.2.2, HSZ.out, HRB2.out, _, HST.out⟩
        case measure => simp [intOf]; omega
    · obtain rfl : kk = len := by omega
      obtain ⟨⟨c0, c1, c2, c3⟩, _⟩ := HP.out.2.1.cells
      obtain ⟨⟨r0, r1, r2, r3⟩, hrf⟩ := HRB.out.cells
      replace c0 : wr.cell? ⟨w.heap.size + 1 + 1, 0, none⟩ = _ := c0
      replace c1 : wr.cell? ⟨w.heap.size + 1 + 1, 1, none⟩ = _ := c1
      replace c2 : wr.cell? ⟨w.heap.size + 1 + 1, 2, none⟩ = _ := c2
      replace c3 : wr.cell? ⟨w.heap.size + 1 + 1, 3, none⟩ = _ := c3
      have HGR : Hid (∀ v0 v1 v2 v3, wr.grownBy ((((wr.setCell ⟨w.heap.size + 1, 0, none⟩ v0).setCell ⟨w.heap.size + 1, 1, none⟩ v1).setCell ⟨w.heap.size + 1, 2, none⟩ v2).setCell ⟨w.heap.size + 1, 3, none⟩ v3) (some (w.heap.size + 1))) := fun v0 v1 v2 v3 => put4_grown (w := wr) (g := w.heap.size + 1) (o := 0) v0 v1 v2 v3
      have HVO : Hid (v.oneCell' = true ∧ ∃ a2 c2, v = .slice a2 kk c2) := put_val HP.out.2.2.2.1
      obtain ⟨a2, c4, hv⟩ := HVO.out.2
      subst hv
      go_wp2_with fail
      exact bodyPost_ret (v := .agg #[.int .i64 k, .int .i64 u, .string s, .slice a2 kk c4]) (by simp [results, Try.results32, go_sem, r0, r1, r2, r3]) rfl ⟨xs, .slice a2 kk c4, wr, rfl, HP.out, HGR.out _ _ _ _⟩

theorem held_at {w : World} {base g c L B : Nat} {N : Nat} {l : List (Tm N)} (h : w.ownsRow base 24 4 (.slice (some ⟨g, 0, none⟩) L c) L (ndCells (l.map (hdT N)))) (k : Nat) (x : Tm N) (hx : l[k]? = some x) (hin : In B w N x) : Held w g (0 + k * 4) N x := by
  cases N with
  | zero => exact hin.elim
  | succ N => exact hd_held h k x hx
theorem put_row {B D : Nat} {l : List (Tm D)} {n : Nat} {p : Tm (n + 1)} {w w1 w' : World} {v : Value} {xs : List (Tm (D + n))} (hB : B ≤ w.heap.size) (hp : I64 p.1.1 ∧ I64 p.1.2.1 ∧ p.1.2.2.size ≤ maxLen) (h5 : ¬ p.1.1 = 5)
    (h : PtP B D l n p.2.2 w (.int .i64 p.1.1) (.int .i64 p.1.2.1) (.string p.1.2.2) p.2.2.length xs v w1) (hg : w1.grownBy w' (some (w.heap.size + 1))) :
    ∃ X : Tm (D + n + 1), .agg #[.int .i64 p.1.1, .int .i64 p.1.2.1, .string p.1.2.2, v] = val (D + n + 1) X ∧ Below w.heap.size w w' ∧ In w'.heap.size w' (D + n + 1) X ∧ Off (fun b => b < B ∨ w.heap.size ≤ b) (D + n + 1) X ∧ PutR D l (n + 1) p X := by
  obtain ⟨h1, h2, h3, h4, h6, h7⟩ := h
  have hs := h1.size
  have hgs := hg.size
  have hq := h2.lt
  have hblk : ∀ b, b < w1.heap.size → b ≠ w.heap.size + 1 → w'.heap[b]? = w1.heap[b]? := fun b hb hne => hg.block b hb (fun e => hne (Option.some.inj e))
  have hbl : Below w.heap.size w w' := ⟨hg.os.trans h1.os, hg.tape.trans h1.tape, hg.output.trans h1.output, by omega, fun b hb => (hblk b (by omega) (by omega)).trans (h1.block b hb)⟩
  have hin : ∀ y ∈ xs, In w'.heap.size w' (D + n) y ∧ Off (fun b => b < B ∨ w.heap.size ≤ b) (D + n) y := fun y hy => by
    obtain ⟨k1, k2⟩ := h6 y hy
    have k3 := In.offB k2 k1
    exact ⟨In.off (fun b hb => hblk b hb.2 (by have := hb.1.1; omega)) k3 (k1.mono hgs), k2.mono fun b hb => by have := hb.1; omega⟩
  have hput : ∀ a c, PutR D l (n + 1) p (p.1, (a, c), xs) := fun a c => by
    simp only [PutR]
    rw [if_neg h5]
    exact ⟨trivial, h3, h7⟩
  have h4' := World.ownsRow.kept h4 hg (Or.inr fun e => by have := (h4.lt _ e).1; omega)
  rcases h4'.2 with ⟨rfl, h0⟩ | ⟨g, cap, cur, hv, hgb, hh, hc, hm, _⟩
  · have hx0 : xs = [] := List.eq_nil_of_length_eq_zero (by omega)
    refine ⟨(p.1, (none, 0), xs), ?_, hbl, ⟨⟨hp.1, hp.2.1, hp.2.2, ?_, Nat.zero_le _⟩, Or.inl hx0⟩, Or.inl hx0, hput _ _⟩
    · simp [val, hx0]
    · simp [hx0]
  · subst hv
    refine ⟨(p.1, (some ⟨g, 0, none⟩, cap), xs), ?_, hbl, ⟨⟨hp.1, hp.2.1, hp.2.2, by simp only [h3]; exact hc, hm⟩, ?_⟩, ?_, hput _ _⟩
    · simp [val, h3]
    · refine Or.inr ⟨g, 0, rfl, (Array.getElem?_eq_some_iff.1 hh).1, fun i y hy => ⟨?_, (hin y (List.mem_of_getElem? hy)).1⟩⟩
      exact held_at h4' i y hy (hin y (List.mem_of_getElem? hy)).1
    · exact Or.inr ⟨g, 0, rfl, Or.inr (by omega), fun i y hy => (hin y (List.mem_of_getElem? hy)).2⟩

theorem put_any (D : Nat) (l : List (Tm D)) (hl4 : l.length = 4) (hlr : ∀ y ∈ l, RightA ⟨D, y⟩) (n : Nat) : FPut D l n := by
  induction n with
  | zero => intro p B w la lc hp; exact hp.elim
  | succ n ih =>
    intro p B w la lc hp hL hB hr
    have hp2 := hp
    obtain ⟨⟨x1, x2, hsz, hpl, hpc⟩, hpp⟩ := hp2
    have hg := hr (hdOf n p) (by simp [nodes, hdOf])
    have hlen : p.2.2.length ≤ 8 := good_len (hdOf n p) hg
    by_cases h5 : p.1.1 = 5
    · obtain ⟨k, hk, hu⟩ := var_at n p hr h5
      obtain ⟨z, hz⟩ : ∃ z, l[k]? = some z := ⟨l[k]'(by omega), List.getElem?_eq_getElem _⟩
      rcases hL with hL | ⟨lb, lo, rfl, hlb, hL⟩
      · rw [hL] at hl4; simp at hl4
      obtain ⟨hz1, hz2⟩ := hL k z hz
      have hzr := hlr z (List.mem_of_getElem? hz)
      cases D with
      | zero => exact hz1.elim
      | succ D =>
      obtain ⟨c0, c1, c2, c3⟩ := hz1
      have hw := put_var k p.1.2.1 p.1.2.2 p.2.1.1 p.2.2.length p.2.1.2 lb lo lc z.1.1 z.1.2.1 z.1.2.2 z.2.1.1 z.2.2.length z.2.1.2 w hk (by omega) hu c0 c1 c2 c3
      have e : val (n + 1) p = .agg #[.int .i64 5, .int .i64 p.1.2.1, .string p.1.2.2, .slice p.2.1.1 p.2.2.length p.2.1.2] := by rw [← h5]; rfl
      rw [e]
      refine hw.mono ?_
      rintro e w' ⟨rfl, hb⟩
      have hin := lift_in (D + 1 + n + 1) (D + 1) (by omega) z B w hz2
      refine ⟨lift (D + 1 + n + 1) (D + 1) z, ?_, hb, (hin.below (hb.mono hB)).mono (Nat.le_trans hB hb.size), hin.offAll.mono fun b hb => Or.inl hb, ?_⟩
      · exact congrArg Ending.returned (val_lift (D + 1 + n) D z).symm
      · simp only [PutR]
        rw [if_pos h5]
        exact ⟨z, by rw [hu]; exact hz, lift_same _ _ (by omega) z hzr⟩
    · refine (put_else D l n ih p.1.1 p.1.2.1 p.1.2.2 p.2.1.1 p.2.2 p.2.2.length p.2.1.2 lc la B w (by simpa using h5) rfl hlen hpp hL (fun y hy => parts_right n p y hr hy) hB).mono ?_
      rintro e w' ⟨xs, v, w1, rfl, H⟩
      obtain ⟨X, hX, hr⟩ := put_row hB ⟨x1, x2, hsz⟩ h5 H.out.1 H.out.2
      exact ⟨X, congrArg Ending.returned hX, hr⟩
end Go.Proofs.Ytfaoeccnhbcjgab
