/- What is proved here: plain facts and contracts that the claimed theorem stands on, several texts in one: match.bindings' fits, of right terms that lie in memory and four right terms that are owned: it returns whether the plain function fit finds something, leaves that in the owned row, and turns no other memory that was there. No condition but those. match.AreBindings, and the document's Bound, of a list of terms that lies in memory: both return whether there are four, each right, and each closed or the wild one; they turn no memory that was there. Condition: at most 2097152 terms in each. plain facts on lists of terms of whatever depth, each taken to one depth: they are the same terms, in the same memory. No condition. plain facts on terms that are the same: turned round, in a row, and that all that is asked of one holds of the other. No condition. what Send does. No condition but that the ways and the term lie in memory. -/
import Derived.Test.YtfginhifgljnmaaG06
import Derived.Test.YtfginhifgljnmaaG10
import Derived.Test.YtfginhifgljnmaaG07
namespace Go.Proofs.Ytfginhifgljnmaa
open Go.RowKit

theorem isBound_any (k u : Int) (s : ByteArray) (a : Option Addr) (l c : Nat) (w : World) :
    Calls Try.prog 110 #[.agg #[.int .i64 k, .int .i64 u, .string s, .slice a l c]] w fun e w' => e = .returned (.bool (!(k == 6))) ∧ Below w.heap.size w w' := by
  cases h : k == 6
  all_goals
    go_enter Try.func110, Try.ntmps110
    go_wp2_with fail
    go_ret
    exact ⟨ret_same (by simp [bne, h]), (Below.refl _ _).alloc (Nat.le_refl _) _⟩

theorem order_is (x : An) (y : An) (B : Nat) (w : World) (hx : InA B w x) (hy : InA B w y) (hB : B ≤ w.heap.size) (rx : RightA x) (ry : RightA y) :
    Calls Try.prog 10 #[val x.1 x.2, val y.1 y.2] w fun e w' => ∃ r, e = .returned (.int .i64 r) ∧ Hid ((r == 0) = sameA x y) ∧ Below w.heap.size w w' := by
  refine (order_any x.1 x.2 y.1 y.2 B w hx hy hB).mono ?_
  rintro e w' ⟨rfl, hb⟩
  refine ⟨_, rfl, ?_, hb⟩
  have h := ord_same x.1 x.2 y.1 y.2 rx ry
  unfold Hid sameA
  cases hs : same x.1 x.2 y.1 y.2
  · rw [hs] at h
    simp only [Bool.false_eq_true, iff_false] at h
    simpa using h
  · rw [hs] at h
    simp only [iff_true] at h
    simpa using h

theorem fvar_any (b : List An) (base g c B : Nat) (w : World) (k : Nat) (hk : k < 4) (m : Nat) (t : Tm (m + 1)) (hb : Bnd B w b) (ht : In B w (m + 1) t) (hr : RightA ⟨m + 1, t⟩) (hB : B ≤ base) (H : Has base g c b w) :
    Calls Try.prog 111 #[.slice (some ⟨g, 0, none⟩) 4 c, .int .i64 k, .agg #[.int .i64 t.1.1, .int .i64 t.1.2.1, .string t.1.2.2, .slice t.2.1.1 t.2.2.length t.2.1.2]] w (FitPost base g c (fitV b k ⟨m + 1, t⟩) w) := by
  obtain ⟨y, hy⟩ : ∃ y, b[k]? = some y := ⟨b[k]'(by rw [hb.1]; exact hk), List.getElem?_eq_getElem _⟩
  obtain ⟨hy1, hy2⟩ := hb.2 y (List.mem_of_getElem? hy)
  obtain ⟨n, y⟩ := y
  cases n with
  | zero => exact hy1.elim
  | succ n =>
  have HV : Hid (fitV b k ⟨m + 1, t⟩ = if y.1.1 = 6 then some (b.set k ⟨m + 1, t⟩) else if sameA ⟨n + 1, y⟩ ⟨m + 1, t⟩ then some b else none) := by simp only [Hid, fitV, hy, kindA]; rfl
  obtain ⟨c0, c1, c2, c3⟩ := H.cells k _ hy
  simp only [ndA, hdT, hdOf] at c0 c1 c2 c3
  have hk1 : (0 : Int) ≤ (k : Int) := by omega
  have hk2 : (k : Int) < 4 := by omega
  have HH := hide H
  have HY := hide hy
  have hgw : g < w.heap.size := H.lt.2
  clear hy H
  generalize fitV b k ⟨m + 1, t⟩ = o at *
  cases h6 : y.1.1 == 6
  case true =>
    go_enter Try.func111, Try.ntmps111
    go_wp2_with fail
    refine (isBound_any _ _ _ _ _ _ _).mono ?_
    rintro e w1 ⟨rfl, hb1⟩
    have HB1 := hide hb1
    clear c0 c1 c2 c3
    have H1 : Hid (Has base g c b w1) := (HH.out.kept (World.grownBy_alloc w _ none) (by simp)).below hb1
    have hf := fun j => H1.out.free j
    obtain ⟨⟨t0, t1, t2, t3⟩, _⟩ := boxed hb1
    obtain ⟨c0, c1, c2, c3⟩ := H1.out.cells k _ HY.out
    simp only [ndA, hdT, hdOf] at c0 c1 c2 c3
    clear hb1
    go_wp2_with fail
    go_ret
    have ho : o = some (b.set k ⟨m + 1, t⟩) := by rw [HV.out, if_pos (by simpa using h6)]
    subst ho
    exact ⟨rfl, grown_trans (grown_of_below (((Below.refl _ _).alloc (Nat.le_refl _) _).trans (HB1.out.mono (by simp))) _) (put4_grown _ _ _ _), fun b' e => by obtain rfl := Option.some.inj e; exact H1.out.put k ⟨m + 1, t⟩ (by rw [hb.1]; exact hk)⟩
  case false =>
    go_enter Try.func111, Try.ntmps111
    go_wp2_with fail
    refine (isBound_any _ _ _ _ _ _ _).mono ?_
    rintro e w1 ⟨rfl, hb1⟩
    clear c0 c1 c2 c3
    have HB1 : Hid (Below w.heap.size w w1) := ((Below.refl _ _).alloc (Nat.le_refl _) _).trans (hb1.mono (by simp))
    have H1 : Hid (Has base g c b w1) := (HH.out.kept (World.grownBy_alloc w _ none) (by simp)).below hb1
    obtain ⟨⟨t0, t1, t2, t3⟩, _⟩ := boxed hb1
    obtain ⟨c0, c1, c2, c3⟩ := H1.out.cells k _ HY.out
    simp only [ndA, hdT, hdOf] at c0 c1 c2 c3
    have HBB : Hid (B ≤ w.heap.size) := by have := HH.out.lt; unfold Hid; omega
    have HLT : Hid (w.heap.size < w1.heap.size) := by have := hb1.size; simp at this; unfold Hid; omega
    have HI : Hid (InA B w1 ⟨n + 1, y⟩ ∧ InA B w1 ⟨m + 1, t⟩) := ⟨hy1.below (HB1.out.mono HBB.out), InA.below (x := ⟨m + 1, t⟩) (HB1.out.mono HBB.out) ht⟩
    have HO := hide (order_is ⟨n + 1, y⟩ ⟨m + 1, t⟩ B w1.drew (HI.out.1.below (Below.refl _ _).drew) (HI.out.2.below (Below.refl _ _).drew) (Nat.le_trans HBB.out HB1.out.size) hy2 hr)
    clear hb1 ht hy1 hb hy2 hr
    go_wp2_with fail
    go_region_held3 (fun w' => w'.cell? ⟨g, k * 4, none⟩ = some (.int .i64 y.1.1) ∧ w'.cell? ⟨g, k * 4 + 1, none⟩ = some (.int .i64 y.1.2.1) ∧ w'.cell? ⟨g, k * 4 + 2, none⟩ = some (.string y.1.2.2) ∧ w'.cell? ⟨g, k * 4 + 3, none⟩ = some (.slice y.2.1.1 y.2.2.length y.2.1.2)
          ∧ w'.cell? ⟨w.heap.size, 0, none⟩ = some (.int .i64 t.1.1) ∧ w'.cell? ⟨w.heap.size, 1, none⟩ = some (.int .i64 t.1.2.1) ∧ w'.cell? ⟨w.heap.size, 2, none⟩ = some (.string t.1.2.2) ∧ w'.cell? ⟨w.heap.size, 3, none⟩ = some (.slice t.2.1.1 t.2.2.length t.2.1.2))
        (go_keep) ((go_at_call 10; refine HO.out.mono ?_; rintro e w2 ⟨r, rfl, HR, hb2⟩; have hcc := below_cells (below_undrew hb2); have hgg : g < w1.heap.size := Nat.lt_of_lt_of_le hgw HB1.out.size; have hgh : w.heap.size < w1.heap.size := HLT.out))
    replace hb2 := below_undrew hb2
    have HP : Hid (w.grownBy w2 (some g) ∧ Has base g c b w2) := ⟨grown_of_below (HB1.out.trans (hb2.mono HB1.out.size)) _, H1.out.below hb2⟩
    have ho : o = if sameA ⟨n + 1, y⟩ ⟨m + 1, t⟩ then some b else none := by rw [HV.out, if_neg (by simpa using h6)]
    rw [← HR.out] at ho
    clear HR HV
    cases h0 : r == 0
    all_goals
      rw [h0] at ho
      go_wp2_with fail
      go_ret
      simp only [Bool.false_eq_true, if_false, if_true] at ho
      subst ho
    · exact ⟨rfl, HP.out.1, fun b' e => by cases e⟩
    · exact ⟨rfl, HP.out.1, fun b' e => by obtain rfl := Option.some.inj e; exact HP.out.2⟩
end Go.Proofs.Ytfginhifgljnmaa
namespace Go.Proofs.Ytfginhifgljnmaa
open Go.RowKit

def okB (n : Nat) (y : Tm n) : Bool := chk n y == 0 && (kindA ⟨n, y⟩ == 6 || closedB n y)
def bndB (n : Nat) (q : List (Tm n)) : Bool := decide (q.length = 4) && q.all (okB n)
/-- A list that lies in memory. -/
def Lies (B : Nat) (w : World) (n : Nat) (q : List (Tm n)) (a : Option Addr) : Prop :=
  q = [] ∨ ∃ b o, a = some ⟨b, o, none⟩ ∧ b < B ∧ ∀ (i : Nat) (y : Tm n), q[i]? = some y → Held w b (o + i * 4) n y ∧ In B w n y
theorem Lies.below {B : Nat} {w w' : World} (h : Below B w w') {n : Nat} {q : List (Tm n)} {a : Option Addr} (k : Lies B w n q a) : Lies B w' n q a := by
  rcases k with hp | ⟨b, o, e, hb, hp⟩
  · exact Or.inl hp
  · exact Or.inr ⟨b, o, e, hb, fun i y hy => ⟨(hp i y hy).1.below h hb, (hp i y hy).2.below h⟩⟩

theorem all_drop {α : Type} (f : α → Bool) (q : List α) (k : Nat) (y : α) (h : q[k]? = some y) : (q.drop k).all f = (f y && (q.drop (k + 1)).all f) := by
  obtain ⟨h1, e1⟩ := List.getElem?_eq_some_iff.1 h
  rw [List.drop_eq_getElem_cons h1, e1]
  rfl
theorem all_take {α : Type} (f : α → Bool) (q : List α) (k : Nat) (y : α) (h : q[k]? = some y) : (q.take (k + 1)).all f = ((q.take k).all f && f y) := by
  rw [List.take_add_one, h]
  simp

theorem areB_ne (a : Option Addr) (len pc : Nat) (w : World) (_hl : len ≤ 9223372036854775807) (h : ((len : Int) != 4) = true) :
    Calls Try.prog 74 #[.slice a len pc] w fun e w' => e = .returned (.bool false) ∧ w' = w := by
  go_enter Try.func74, Try.ntmps74
  go_wp2_with fail
  go_ret
  exact ⟨rfl, rfl⟩

set_option maxHeartbeats 1000000 in
theorem areB_loop (n : Nat) (q : List (Tm n)) (pb po pc : Nat) (B : Nat) (w : World) (hql : Hid (q.length = 4)) (hpb : pb < B)
    (hp : ∀ (i : Nat) (y : Tm n), q[i]? = some y → Held w pb (po + i * 4) n y ∧ In B w n y) (hN : ∀ y ∈ q, (nodes n y).length ≤ 2097152) (hB : B ≤ w.heap.size) :
    Calls Try.prog 74 #[.slice (some ⟨pb, po, none⟩) 4 pc] w fun e w' => e = .returned (.bool (q.all (okB n))) ∧ Below w.heap.size w w' := by
  go_enter Try.func74, Try.ntmps74
  go_wp2_with fail
  go_loopw [10] (fun i wr => ∃ k : Nat, k ≤ 4 ∧ i = .int .i64 k ∧ Below w.heap.size w wr ∧ Hid ((q.drop k).all (okB n) = q.all (okB n))) (fun i _ => 4 - (intOf i).toNat)
  case atStart => exact ⟨0, by omega, rfl, Below.refl _ _, rfl⟩
  case round =>
    obtain ⟨k, hk, rfl, hb, hd⟩ := hrel
    by_cases hlt : k < 4
    · obtain ⟨x, hx⟩ : ∃ x, q[k]? = some x := ⟨q[k]'(by rw [hql.out]; exact hlt), List.getElem?_eq_getElem _⟩
      have HS := hide (all_drop (okB n) q k x hx)
      obtain ⟨hx1, hx2⟩ := hp k x hx
      have hNx := hN x (List.mem_of_getElem? hx)
      replace hx1 := hx1.below (hb.mono hB) hpb
      replace hx2 := hx2.below (hb.mono hB)
      clear hp hx hN
      cases n with
      | zero => exact hx1.elim
      | succ n =>
      obtain ⟨x0, x1, x2, x3⟩ := hx1
      have hB' : B ≤ wr.heap.size := Nat.le_trans hB hb.size
      have HCK : Hid (∀ w1, Below wr.heap.size wr w1 → Calls Try.prog 59 #[.agg #[.int .i64 x.1.1, .int .i64 x.1.2.1, .string x.1.2.2, .slice x.2.1.1 x.2.2.length x.2.1.2]] w1 fun e w' => e = .returned (.int .i64 (chk (n + 1) x)) ∧ Below w1.heap.size w1 w') :=
        fun w1 h1 => tcheck_any (n + 1) x B w1 (hx2.below (h1.mono hB')) (Nat.le_trans hB' h1.size) hNx
      have HCL : Hid (∀ w1, Below wr.heap.size wr w1 → Calls Try.prog 63 #[.agg #[.int .i64 x.1.1, .int .i64 x.1.2.1, .string x.1.2.2, .slice x.2.1.1 x.2.2.length x.2.1.2]] w1 fun e w' => e = .returned (.bool (closedT (n + 1) x)) ∧ Below w1.heap.size w1 w') :=
        fun w1 h1 => closed_any (n + 1) x B w1 (hx2.below (h1.mono hB')) (Nat.le_trans hB' h1.size)
      have HOK : Hid (okB (n + 1) x = (chk (n + 1) x == 0 && (x.1.1 == 6 || closedT (n + 1) x))) := by unfold Hid okB; rw [closed_eq]; rfl
      clear hx2 hNx
      generalize x.2.2.length = xl at *
      generalize closedT (n + 1) x = cl at *
      generalize chk (n + 1) x = ck at *
      generalize okB (n + 1) x = ok at *
      have hk1 : (0 : Int) ≤ (k : Int) := by omega
      have hk2 : (k : Int) < (4 : Int) := by omega
      have hpw : pb < wr.heap.size := by omega
      have HBA : Hid (∀ o, Below wr.heap.size wr (wr.alloc o)) := fun o => (Below.refl _ _).alloc (Nat.le_refl _) _
      go_wp2_with fail
      refine (HCK.out _ (HBA.out _)).mono ?_
      rintro e w1 ⟨rfl, hb1⟩
      obtain ⟨⟨t0, t1, t2, t3⟩, _⟩ := boxed hb1
      have HB1 : Hid (Below wr.heap.size wr w1) := (HBA.out _).trans (hb1.mono (by simp))
      have HLT : Hid (wr.heap.size < w1.heap.size) := by have := hb1.size; simp at this; unfold Hid; omega
      clear hb1 x0 x1 x2 x3 HCK
      by_cases hck : ck = 0
      · have hck1 : (ck != 0) = false := by simp [hck]
        have HC0 : Hid (ck = 0) := hck
        clear hck
        go_wp2_with fail
        refine (isBound_any _ _ _ _ _ _ _).mono ?_
        rintro e w2 ⟨rfl, hb2⟩
        obtain ⟨t4, t5, t6, t7⟩ := cells_nx HLT.out hb2 ⟨t0, t1, t2, t3⟩
        have HB2 : Hid (Below wr.heap.size wr w2) := HB1.out.trans (hb2.mono HB1.out.size)
        clear hb2 t0 t1 t2 t3
        cases h6 : x.1.1 == 6
        · simp only [Bool.not_false]
          go_wp2_with fail
          refine (HCL.out _ HB2.out).mono ?_
          rintro e w3 ⟨rfl, hb3⟩
          have hb4 : Below w.heap.size w w3 := hb.trans ((HB2.out.trans (hb3.mono HB2.out.size)).mono hb.size)
          clear hb3
          cases cl with
          | true =>
            go_wp2_with fail
            go_roundw
            case rel => exact ⟨k + 1, by omega, by go_num, hb4, by rw [← hd.out, HS.out, HOK.out, HC0.out]; simp [Hid]⟩
            case measure => simp [intOf]; omega
          | false =>
            go_wp2_with fail
            go_ret
            exact ⟨ret_same (by rw [← hd.out, HS.out, HOK.out, HC0.out, h6]; simp), hb4⟩
        · simp only [Bool.not_true]
          have hb4 : Below w.heap.size w w2 := hb.trans (HB2.out.mono hb.size)
          go_wp2_with fail
          go_roundw
          case rel => exact ⟨k + 1, by omega, by go_num, hb4, by rw [← hd.out, HS.out, HOK.out, HC0.out, h6]; simp [Hid]⟩
          case measure => simp [intOf]; omega
      · have hck1 : (ck != 0) = true := by simpa using hck
        have HC0 : Hid ((ck == 0) = false) := by simpa [Hid] using hck
        have hb4 : Below w.heap.size w w1 := hb.trans (HB1.out.mono hb.size)
        clear hck
        go_wp2_with fail
        go_ret
        exact ⟨ret_same (by rw [← hd.out, HS.out, HOK.out, HC0.out]; simp), hb4⟩
    · go_wp2_with fail
      go_ret
      refine ⟨ret_same ?_, hb⟩
      rw [← hd.out, List.drop_eq_nil_of_le (by rw [hql.out]; omega)]
      rfl

theorem areB_any (n : Nat) (q : List (Tm n)) (a : Option Addr) (pc B : Nat) (w : World) (h : Lies B w n q a) (hl : q.length ≤ 9223372036854775807) (hN : ∀ y ∈ q, (nodes n y).length ≤ 2097152) (hB : B ≤ w.heap.size) :
    Calls Try.prog 74 #[.slice a q.length pc] w fun e w' => e = .returned (.bool (bndB n q)) ∧ Below w.heap.size w w' := by
  unfold bndB
  by_cases h4 : q.length = 4
  · rcases h with h | ⟨b, o, rfl, hb, hp⟩
    · rw [h] at h4; simp at h4
    · have hw := areB_loop n q b o pc B w h4 hb hp hN hB
      rw [h4]
      simpa using hw
  · refine (areB_ne a q.length pc w hl (by simp; omega)).mono ?_
    rintro e w' ⟨rfl, rfl⟩
    exact ⟨by simp [h4], Below.refl _ _⟩

set_option maxHeartbeats 2000000 in
theorem rbound_loop (n : Nat) (q : List (Tm n)) (len : Nat) (hql : Hid (q.length = len)) (hlen : len ≤ 9223372036854775807) (a : Option Addr) (pc B : Nat) (w : World) (hp : Hid (Lies B w n q a)) (hN : ∀ y ∈ q, (nodes n y).length ≤ 2097152) (hB : B ≤ w.heap.size) :
    Calls Try.prog 31 #[.slice a len pc] w fun e w' => e = .returned (.bool (((len : Int) == 4) && q.all (okB n))) ∧ Below w.heap.size w w' := by
  go_enter Try.func31, Try.ntmps31
  go_wp2_with fail
  go_loopw [3, 4] (fun v i wr => ∃ (k : Nat) (ok : Bool), k ≤ len ∧ v = .bool ok ∧ i = .int .i64 k ∧ Below w.heap.size w wr ∧ Hid (ok = (((len : Int) == 4) && (q.take k).all (okB n)))) (fun _ i _ => len - (intOf i).toNat)
  case atStart => exact ⟨0, _, by omega, rfl, rfl, Below.refl _ _, by simp [Hid]⟩
  case round =>
    obtain ⟨k, ok, hk, rfl, rfl, hb, hd⟩ := hrel
    by_cases hlt : k < len
    · obtain ⟨x, hx⟩ : ∃ x, q[k]? = some x := ⟨q[k]'(by rw [hql.out]; exact hlt), List.getElem?_eq_getElem _⟩
      have HS := hide (all_take (okB n) q k x hx)
      have hNx := hN x (List.mem_of_getElem? hx)
      rcases hp.out with hp | ⟨pb, po, rfl, hpb, hp⟩
      · subst hp; simp at hx
      obtain ⟨hx1, hx2⟩ := hp k x hx
      replace hx1 := hx1.below (hb.mono hB) hpb
      replace hx2 := hx2.below (hb.mono hB)
      clear hp hx hN
      cases n with
      | zero => exact hx1.elim
      | succ n =>
      have hB' : B ≤ wr.heap.size := Nat.le_trans hB hb.size
      have hpw : pb < wr.heap.size := by omega
      have hk1 : (0 : Int) ≤ (k : Int) := by omega
      have hk2 : (k : Int) < (len : Int) := by omega
      cases ok with
      | false =>
        go_wp2_with fail
        go_roundw
        case rel => exact ⟨k + 1, false, by omega, rfl, by go_num, hb, by rw [HS.out, ← Bool.and_assoc, ← hd.out]; simp [Hid]⟩
        case measure => simp [intOf]; omega
      | true =>
      have HX1 := hide hx1
      obtain ⟨x0, x1, x2, x3⟩ := hx1
      have HCK : Hid (∀ w1, Below wr.heap.size wr w1 → Calls Try.prog 11 #[.agg #[.int .i64 x.1.1, .int .i64 x.1.2.1, .string x.1.2.2, .slice x.2.1.1 x.2.2.length x.2.1.2]] w1 fun e w' => e = .returned (.int .i64 (chk (n + 1) x)) ∧ Below w1.heap.size w1 w') :=
        fun w1 h1 => rcheck_any (n + 1) x B w1 (hx2.below (h1.mono hB')) (Nat.le_trans hB' h1.size) hNx
      have HCL : Hid (∀ w1, Below wr.heap.size wr w1 → Calls Try.prog 30 #[.agg #[.int .i64 x.1.1, .int .i64 x.1.2.1, .string x.1.2.2, .slice x.2.1.1 x.2.2.length x.2.1.2]] w1 fun e w' => e = .returned (.bool (closedB (n + 1) x)) ∧ Below w1.heap.size w1 w') :=
        fun w1 h1 => rclosed_any (n + 1) x B w1 (hx2.below (h1.mono hB')) (Nat.le_trans hB' h1.size) hNx
      have HOK : Hid (okB (n + 1) x = (chk (n + 1) x == 0 && (x.1.1 == 6 || closedB (n + 1) x))) := rfl
      clear hx2 hNx
      generalize closedB (n + 1) x = cl at *
      generalize chk (n + 1) x = ck at *
      generalize okB (n + 1) x = ok at *
      go_wp2_with fail
      refine (HCK.out _ (Below.refl _ _)).mono ?_
      rintro e w1 ⟨rfl, hb1⟩
      have HB1 := hide hb1
      clear x0 x1 x2 x3
      by_cases hck : ck = 0
      · have hck1 : (ck == 0) = true := by simp [hck]
        have HC0 : Hid (ck = 0) := hck
        obtain ⟨x0, x1, x2, x3⟩ := HX1.out.below hb1 hpw
        clear hck hb1
        cases h6 : x.1.1 == 6
        · go_wp2_with fail
          refine (HCL.out _ HB1.out).mono ?_
          rintro e w3 ⟨rfl, hb3⟩
          have hb4 : Below w.heap.size w w3 := hb.trans ((HB1.out.trans (hb3.mono HB1.out.size)).mono hb.size)
          clear hb3
          go_wp2_with fail
          go_roundw
          case rel => exact ⟨k + 1, cl, by omega, rfl, by go_num, hb4, by rw [HS.out, ← Bool.and_assoc, ← hd.out, HOK.out, HC0.out, h6]; simp [Hid]⟩
          case measure => simp [intOf]; omega
        · have hb4 : Below w.heap.size w w1 := hb.trans (HB1.out.mono hb.size)
          go_wp2_with fail
          go_roundw
          case rel => exact ⟨k + 1, true, by omega, rfl, by go_num, hb4, by rw [HS.out, ← Bool.and_assoc, ← hd.out, HOK.out, HC0.out, h6]; simp [Hid]⟩
          case measure => simp [intOf]; omega
      · have hck1 : (ck == 0) = false := by simpa using hck
        have hb4 : Below w.heap.size w w1 := hb.trans (HB1.out.mono hb.size)
        clear hck hb1
        go_wp2_with fail
        go_roundw
        case rel => exact ⟨k + 1, false, by omega, rfl, by go_num, hb4, by rw [HS.out, ← Bool.and_assoc, ← hd.out, HOK.out, hck1]; simp [Hid]⟩
        case measure => simp [intOf]; omega
    · go_wp2_with fail
      go_ret
      refine ⟨ret_same ?_, hb⟩
      rw [hd.out, List.take_of_length_le (by rw [hql.out]; omega)]

theorem rbound_any (n : Nat) (q : List (Tm n)) (a : Option Addr) (pc B : Nat) (w : World) (h : Lies B w n q a) (hl : q.length ≤ 9223372036854775807) (hN : ∀ y ∈ q, (nodes n y).length ≤ 2097152) (hB : B ≤ w.heap.size) :
    Calls Try.prog 31 #[.slice a q.length pc] w fun e w' => e = .returned (.bool (bndB n q)) ∧ Below w.heap.size w w' := by
  have e : bndB n q = (((q.length : Nat) : Int) == 4 && q.all (okB n)) := by
    unfold bndB
    congr 1
    rw [Bool.eq_iff_iff]
    simp
    omega
  rw [e]
  exact rbound_loop n q q.length rfl hl a pc B w h hN hB
end Go.Proofs.Ytfginhifgljnmaa
namespace Go.Proofs.Ytfginhifgljnmaa
open Go.RowKit

/-- A term, at another depth. -/
def lift : (N : Nat) → (n : Nat) → Tm n → Tm N
  | 0, _, _ => ()
  | _ + 1, 0, _ => ((0, 0, .empty), (none, 0), [])
  | N + 1, n + 1, x => (x.1, x.2.1, x.2.2.map fun y => lift N n y)
theorem lift_hd (N n : Nat) (x : Tm (n + 1)) : hdT (N + 1) (lift (N + 1) (n + 1) x) = hdT (n + 1) x := by simp [hdT, hdOf, lift]
theorem lift_held (N n : Nat) (h : n ≤ N) (x : Tm n) (w : World) (b o : Nat) (k : Held w b o n x) : Held w b o N (lift N n x) := by
  cases n with
  | zero => exact k.elim
  | succ n =>
    obtain ⟨N, rfl⟩ : ∃ M, N = M + 1 := ⟨N - 1, by omega⟩
    obtain ⟨k0, k1, k2, k3⟩ := k
    exact ⟨k0, k1, k2, by simpa [lift] using k3⟩
theorem lift_in : (N n : Nat) → n ≤ N → (x : Tm n) → (B : Nat) → (w : World) → In B w n x → In B w N (lift N n x)
  | _, 0, _, _, _, _, k => k.elim
  | 0, n + 1, h, _, _, _, _ => by omega
  | N + 1, n + 1, h, x, B, w, k => by
    obtain ⟨k0, k1⟩ := k
    refine ⟨by simpa [lift] using k0, ?_⟩
    rcases k1 with k1 | ⟨b, o, e, hb, k1⟩
    · exact Or.inl (by simp [lift, k1])
    · refine Or.inr ⟨b, o, e, hb, fun i y hy => ?_⟩
      simp only [lift, List.getElem?_map] at hy
      obtain ⟨z, hz, rfl⟩ := Option.map_eq_some_iff.1 hy
      exact ⟨lift_held N n (by omega) z w b _ (k1 i z hz).1, lift_in N n (by omega) z B w (k1 i z hz).2⟩
theorem lift_nodes : (N n : Nat) → n ≤ N → (x : Tm (n + 1)) → nodes (N + 1) (lift (N + 1) (n + 1) x) = nodes (n + 1) x
  | N, 0, _, x => by
    have : ∀ l : List (Tm 0), (l.map fun y => lift N 0 y).flatMap (fun y => nodes N y) = l.flatMap fun y => nodes 0 y := by
      intro l
      induction l with
      | nil => rfl
      | cons a l ih =>
        simp only [List.map_cons, List.flatMap_cons, ih]
        congr 1
        cases N with
        | zero => rfl
        | succ N => simp [lift, nodes]
    simp only [nodes, lift, List.length_map, this]
  | 0, n + 1, h, _ => by omega
  | N + 1, n + 1, h, x => by
    have : ∀ l : List (Tm (n + 1)), (l.map fun y => lift (N + 1) (n + 1) y).flatMap (fun y => nodes (N + 1) y) = l.flatMap fun y => nodes (n + 1) y := by
      intro l
      induction l with
      | nil => rfl
      | cons a l ih =>
        simp only [List.map_cons, List.flatMap_cons, ih]
        rw [lift_nodes N n (by omega) a]
    have e : nodes (N + 2) (lift (N + 2) (n + 2) x) = (x.1, (x.2.1.1, (x.2.2.map fun y => lift (N + 1) (n + 1) y).length, x.2.1.2)) :: (x.2.2.map fun y => lift (N + 1) (n + 1) y).flatMap fun y => nodes (N + 1) y := rfl
    rw [e, this]
    simp [nodes]

def top (b : List An) : Nat := b.foldr (fun a m => max a.1 m) 0
theorem top_le (b : List An) : ∀ a ∈ b, a.1 ≤ top b := by
  induction b with
  | nil => intro a h; cases h
  | cons c b ih =>
    intro a h
    simp only [top, List.foldr_cons]
    rcases List.mem_cons.1 h with rfl | h
    · omega
    · have := ih a h
      unfold top at this
      omega
def uni (b : List An) : List (Tm (top b)) := b.map fun a => lift (top b) a.1 a.2
theorem uni_at (b : List An) (i : Nat) (y : Tm (top b)) (h : (uni b)[i]? = some y) : ∃ a, b[i]? = some a ∧ a.1 ≤ top b ∧ y = lift (top b) a.1 a.2 := by
  simp only [uni, List.getElem?_map] at h
  obtain ⟨a, ha, rfl⟩ := Option.map_eq_some_iff.1 h
  exact ⟨a, ha, top_le b a (List.mem_of_getElem? ha), rfl⟩
theorem uni_lies {base g c B : Nat} {b : List An} {w : World} (h : Has base g c b w) (hb : ∀ y ∈ b, InA B w y) (hB : B ≤ w.heap.size) : Lies w.heap.size w (top b) (uni b) (some ⟨g, 0, none⟩) := by
  refine Or.inr ⟨g, 0, rfl, h.lt.2, fun i y hy => ?_⟩
  obtain ⟨a, ha, hle, rfl⟩ := uni_at b i y hy
  have hin := hb a (List.mem_of_getElem? ha)
  refine ⟨?_, (lift_in _ _ hle _ _ _ hin).mono hB⟩
  obtain ⟨n, x⟩ := a
  have hc := h.cells i _ ha
  cases n with
  | zero => exact hin.elim
  | succ n =>
    rw [Nat.zero_add]
    exact lift_held _ _ hle x w g (i * 4) hc
theorem uni_right {b : List An} (h : ∀ y ∈ b, RightA y ∧ y.1 ≠ 0) : ∀ y ∈ uni b, RightA ⟨top b, y⟩ := by
  intro y hy
  obtain ⟨i, hi⟩ := List.getElem?_of_mem hy
  obtain ⟨a, ha, hle, rfl⟩ := uni_at b i y hi
  have hr := h a (List.mem_of_getElem? ha)
  obtain ⟨n, x⟩ := a
  cases n with
  | zero => exact (hr.2 rfl).elim
  | succ n =>
    intro z hz
    clear hi hy ha h
    generalize top b = T at *
    obtain ⟨M, rfl⟩ : ∃ M, T = M + 1 := ⟨T - 1, by simp only at hle; omega⟩
    have e := lift_nodes M n (by simp only at hle; omega) x
    simp only at hz
    rw [e] at hz
    exact hr.1 z hz
end Go.Proofs.Ytfginhifgljnmaa
namespace Go.Proofs.Ytfginhifgljnmaa
open Go.RowKit

theorem bytes_eq {s t : ByteArray} (h : (s.toList == t.toList) = true) : s = t := by
  have h1 : s.toList = t.toList := by simpa using h
  rw [ByteArray.toList_eq, ByteArray.toList_eq] at h1
  cases s; cases t
  simp only at h1
  rw [Array.toList_inj.1 h1]
theorem same_parts {n m : Nat} {x : Tm (n + 1)} {y : Tm (m + 1)} (h : same (n + 1) x (m + 1) y = true) : x.1 = y.1 ∧ sameL (fun a b => same n a m b) x.2.2 y.2.2 = true := by
  simp only [same, Bool.and_eq_true, beq_iff_eq] at h
  obtain ⟨⟨⟨h1, h2⟩, h3⟩, h4⟩ := h
  refine ⟨?_, h4⟩
  have h5 := bytes_eq (s := x.1.2.2) (t := y.1.2.2) (by simpa using h3)
  exact Prod.ext h1 (Prod.ext h2 h5)
theorem same_mk {n m : Nat} {x : Tm (n + 1)} {y : Tm (m + 1)} (h : x.1 = y.1) (k : sameL (fun a b => same n a m b) x.2.2 y.2.2 = true) : same (n + 1) x (m + 1) y = true := by
  simp only [same, h, k]
  simp
theorem sameL_flip {α β : Type} (f : α → β → Bool) (g : β → α → Bool) : (p : List α) → (q : List β) → (∀ a ∈ p, ∀ b, f a b = true → g b a = true) → sameL f p q = true → sameL g q p = true
  | [], [], _, _ => rfl
  | [], _ :: _, _, h => by simp [sameL] at h
  | _ :: _, [], _, h => by simp [sameL] at h
  | a :: p, b :: q, hf, h => by
    simp only [sameL, Bool.and_eq_true] at h ⊢
    exact ⟨hf a (by simp) b h.1, sameL_flip f g p q (fun a' ha => hf a' (List.mem_cons_of_mem _ ha)) h.2⟩
theorem same_symm : (n : Nat) → (x : Tm n) → (m : Nat) → (y : Tm m) → same n x m y = true → same m y n x = true
  | 0, _, _, _, h => by simp [same] at h
  | _ + 1, _, 0, _, h => by simp [same] at h
  | n + 1, x, m + 1, y, h => by
    obtain ⟨h1, h2⟩ := same_parts h
    exact same_mk h1.symm (sameL_flip _ _ _ _ (fun a _ b hab => same_symm n a m b hab) h2)
theorem sameL_chain {α β γ : Type} (f : α → β → Bool) (g : β → γ → Bool) (k : α → γ → Bool) : (p : List α) → (q : List β) → (r : List γ) → (∀ a ∈ p, ∀ b c, f a b = true → g b c = true → k a c = true) → sameL f p q = true → sameL g q r = true → sameL k p r = true
  | [], [], [], _, _, _ => rfl
  | [], [], _ :: _, _, _, h => by simp [sameL] at h
  | [], _ :: _, _, _, h, _ => by simp [sameL] at h
  | _ :: _, [], _, _, h, _ => by simp [sameL] at h
  | _ :: _, _ :: _, [], _, _, h => by simp [sameL] at h
  | a :: p, b :: q, c :: r, hf, h1, h2 => by
    simp only [sameL, Bool.and_eq_true] at h1 h2 ⊢
    exact ⟨hf a (by simp) b c h1.1 h2.1, sameL_chain f g k p q r (fun a' ha => hf a' (List.mem_cons_of_mem _ ha)) h1.2 h2.2⟩
theorem same_trans : (n : Nat) → (x : Tm n) → (m : Nat) → (y : Tm m) → (l : Nat) → (z : Tm l) → same n x m y = true → same m y l z = true → same n x l z = true
  | 0, _, _, _, _, _, h, _ => by simp [same] at h
  | _ + 1, _, 0, _, _, _, h, _ => by simp [same] at h
  | _ + 1, _, _ + 1, _, 0, _, _, h => by simp [same] at h
  | n + 1, x, m + 1, y, l + 1, z, h, k => by
    obtain ⟨h1, h2⟩ := same_parts h
    obtain ⟨k1, k2⟩ := same_parts k
    exact same_mk (h1.trans k1) (sameL_chain _ _ _ _ _ _ (fun a _ b c hab hbc => same_trans n a m b l c hab hbc) h2 k2)
theorem sameL_self {α : Type} (f : α → α → Bool) : (p : List α) → (∀ a ∈ p, f a a = true) → sameL f p p = true
  | [], _ => rfl
  | a :: p, h => by
    simp only [sameL, Bool.and_eq_true]
    exact ⟨h a (by simp), sameL_self f p fun a' ha => h a' (List.mem_cons_of_mem _ ha)⟩
theorem same_refl : (n : Nat) → (x : Tm n) → RightA ⟨n, x⟩ → same n x n x = true
  | 0, _, h => (zero_bad h).elim
  | n + 1, x, h => same_mk rfl (sameL_self _ _ fun y hy => same_refl n y (parts_right n x y h hy))

theorem right_formed {n : Nat} {x : Tm n} : RightA ⟨n, x⟩ ↔ formedB n x = true := by
  rw [formed_good, List.all_eq_true]
  exact Iff.rfl
theorem good_hd {x : Int × Int × ByteArray} {a b : Option Addr} {l c d : Nat} : good (x, (a, l, c)) = good (x, (b, l, d)) := rfl

theorem sameL_all {α β : Type} (f : α → β → Bool) (g : α → Bool) (k : β → Bool) : (p : List α) → (q : List β) → (∀ a ∈ p, ∀ b, f a b = true → g a = k b) → sameL f p q = true → p.all g = q.all k
  | [], [], _, _ => rfl
  | [], _ :: _, _, h => by simp [sameL] at h
  | _ :: _, [], _, h => by simp [sameL] at h
  | a :: p, b :: q, hf, h => by
    simp only [sameL, Bool.and_eq_true] at h
    simp only [List.all_cons, hf a (by simp) b h.1, sameL_all f g k p q (fun a' ha => hf a' (List.mem_cons_of_mem _ ha)) h.2]
theorem sameL_map {α β γ : Type} (f : α → β → Bool) (g : α → γ) (k : β → γ) : (p : List α) → (q : List β) → (∀ a ∈ p, ∀ b, f a b = true → g a = k b) → sameL f p q = true → p.map g = q.map k
  | [], [], _, _ => rfl
  | [], _ :: _, _, h => by simp [sameL] at h
  | _ :: _, [], _, h => by simp [sameL] at h
  | a :: p, b :: q, hf, h => by
    simp only [sameL, Bool.and_eq_true] at h
    simp only [List.map_cons, hf a (by simp) b h.1, sameL_map f g k p q (fun a' ha => hf a' (List.mem_cons_of_mem _ ha)) h.2]
theorem fold_map {α : Type} (g : α → Int) : (p : List α) → (i : Int) → p.foldl (fun m y => max m (g y)) i = (p.map g).foldl max i
  | [], _ => rfl
  | a :: p, i => by simp only [List.foldl_cons, List.map_cons]; exact fold_map g p _

theorem same_closed : (n : Nat) → (x : Tm n) → (m : Nat) → (y : Tm m) → same n x m y = true → closedT n x = closedT m y
  | 0, _, _, _, h => by simp [same] at h
  | _ + 1, _, 0, _, h => by simp [same] at h
  | n + 1, x, m + 1, y, h => by
    obtain ⟨h1, h2⟩ := same_parts h
    simp only [closedT, h1]
    rw [sameL_all _ _ _ _ _ (fun a _ b hab => same_closed n a m b hab) h2]
theorem same_formed : (n : Nat) → (x : Tm n) → (m : Nat) → (y : Tm m) → same n x m y = true → formedB n x = formedB m y
  | 0, _, _, _, h => by simp [same] at h
  | _ + 1, _, 0, _, h => by simp [same] at h
  | n + 1, x, m + 1, y, h => by
    obtain ⟨h1, h2⟩ := same_parts h
    have e : good (hdOf n x) = good (hdOf m y) := by
      have hl := sameL_length _ _ _ h2
      unfold hdOf
      rw [h1, hl]
      exact good_hd
    simp only [formedB, e, h1]
    rw [sameL_all _ _ _ _ _ (fun a _ b hab => same_formed n a m b hab) h2]
theorem same_sz : (n : Nat) → (x : Tm n) → (m : Nat) → (y : Tm m) → same n x m y = true → sz n x = sz m y
  | 0, _, _, _, h => by simp [same] at h
  | _ + 1, _, 0, _, h => by simp [same] at h
  | n + 1, x, m + 1, y, h => by
    obtain ⟨h1, h2⟩ := same_parts h
    simp only [sz, h1]
    rw [sameL_map _ (fun y => 1 + sz n y) (fun y => 1 + sz m y) _ _ (fun a _ b hab => by rw [same_sz n a m b hab]) h2]
theorem same_dep : (n : Nat) → (x : Tm n) → (m : Nat) → (y : Tm m) → same n x m y = true → dep n x = dep m y
  | 0, _, _, _, h => by simp [same] at h
  | _ + 1, _, 0, _, h => by simp [same] at h
  | n + 1, x, m + 1, y, h => by
    obtain ⟨h1, h2⟩ := same_parts h
    simp only [dep, h1]
    rw [fold_map (fun y => dep n y), fold_map (fun y => dep m y), sameL_map _ (fun y => dep n y) (fun y => dep m y) _ _ (fun a _ b hab => same_dep n a m b hab) h2]
theorem same_chk {n m : Nat} {x : Tm n} {y : Tm m} (h : same n x m y = true) : chk n x = chk m y := by
  rw [← tchk_chk, ← tchk_chk]
  unfold tchk
  rw [same_formed n x m y h, same_sz n x m y h, same_dep n x m y h]
theorem same_kind {n m : Nat} {x : Tm n} {y : Tm m} (h : same n x m y = true) : kindA ⟨n, x⟩ = kindA ⟨m, y⟩ := by
  cases n with
  | zero => simp [same] at h
  | succ n =>
    cases m with
    | zero => simp [same] at h
    | succ m =>
      have := (same_parts h).1
      simp only [kindA, this]
theorem sameL_at {α β : Type} (f : α → β → Bool) : (p : List α) → (q : List β) → sameL f p q = true → ∀ (i : Nat) (a : α) (b : β), p[i]? = some a → q[i]? = some b → f a b = true
  | [], _, _, i, a, b, ha, _ => by simp at ha
  | _ :: _, [], h, _, _, _, _, _ => by simp [sameL] at h
  | a :: p, b :: q, h, 0, a', b', ha, hb => by
    simp only [sameL, Bool.and_eq_true] at h
    simp at ha hb
    subst ha hb
    exact h.1
  | a :: p, b :: q, h, i + 1, a', b', ha, hb => by
    simp only [sameL, Bool.and_eq_true] at h
    exact sameL_at f p q h.2 i a' b' (by simpa using ha) (by simpa using hb)
theorem sameL_mapl {α β : Type} (f : β → α → Bool) (g : α → β) : (p : List α) → (∀ a ∈ p, f (g a) a = true) → sameL f (p.map g) p = true
  | [], _ => rfl
  | a :: p, h => by
    simp only [List.map_cons, sameL, Bool.and_eq_true]
    exact ⟨h a (by simp), sameL_mapl f g p fun a' ha => h a' (List.mem_cons_of_mem _ ha)⟩
theorem lift_same : (N n : Nat) → n ≤ N → (x : Tm n) → RightA ⟨n, x⟩ → same N (lift N n x) n x = true
  | _, 0, _, _, h => (zero_bad h).elim
  | 0, n + 1, h, _, _ => by omega
  | N + 1, n + 1, h, x, hr => same_mk rfl (sameL_mapl _ _ _ fun y hy => lift_same N n (by omega) y (parts_right n x y hr hy))
end Go.Proofs.Ytfginhifgljnmaa
namespace Go.Proofs.Ytfginhifgljnmaa
open Go.RowKit Go.Maps

/-- What Send answers. -/
def sendC (p1 p2 : Bool) (ck : Int) (cl : Bool) (L : Nat) : Int := if p1 = false ∨ p2 = false then 1 else if ck ≠ 0 then ck else if cl = false then 5 else if 20 ≤ L then 2 else 0
set_option maxRecDepth 100000 in
set_option maxHeartbeats 2000000 in
theorem send_walk (wp : Nat) (a b : Int) (k u : Int) (s : ByteArray) (ta : Option Addr) (tl tc : Nat) (p1 p2 : Bool) (ck : Int) (cl : Bool) (L : Nat) (w : World) (C : Int → Int → ByteArray → Option Addr → Nat → Nat → World → World → Prop) (G : World → Prop) (hL : L ≤ 1000)
    (H1 : Hid (∀ W, Calls Try.prog 90 #[.int .i64 a] W fun e w' => e = .returned (.bool p1) ∧ w' = W)) (H2 : Hid (∀ W, Calls Try.prog 90 #[.int .i64 b] W fun e w' => e = .returned (.bool p2) ∧ w' = W))
    (HK : Hid (∀ W, Below w.heap.size w W → Calls Try.prog 59 #[.agg #[.int .i64 k, .int .i64 u, .string s, .slice ta tl tc]] W fun e w' => e = .returned (.int .i64 ck) ∧ Below W.heap.size W w'))
    (HL : Hid (∀ W, Below w.heap.size w W → Calls Try.prog 63 #[.agg #[.int .i64 k, .int .i64 u, .string s, .slice ta tl tc]] W fun e w' => e = .returned (.bool cl) ∧ Below W.heap.size W w'))
    (HM : Hid (∀ W, Below w.heap.size w W → Calls Try.prog 49 #[.pointer (some ⟨wp, 0, none⟩), .int .i64 a, .int .i64 b] W fun e w' => e = .returned (.int .i64 L) ∧ w' = W))
    (HC : Hid (∀ W, ck = 0 → Below w.heap.size w W → Calls Try.prog 86 #[.agg #[.int .i64 k, .int .i64 u, .string s, .slice ta tl tc]] W fun e w' => ∃ z0 z1 zs za zl zc, e = .returned (.agg #[.int .i64 z0, .int .i64 z1, .string zs, .slice za zl zc]) ∧ Hid (C z0 z1 zs za zl zc W w')))
    (HA : Hid (∀ z0 z1 zs za zl zc W w1, sendC p1 p2 ck cl L = 0 → C z0 z1 zs za zl zc W w1 → Below w.heap.size w W → Calls Try.prog 91 #[.pointer (some ⟨wp, 0, none⟩), .agg #[.int .i64 a, .int .i64 b], .agg #[.int .i64 z0, .int .i64 z1, .string zs, .slice za zl zc]] w1 fun e w' => e = .returned (.tuple #[]) ∧ Hid (G w'))) :
    Calls Try.prog 44 #[.pointer (some ⟨wp, 0, none⟩), .int .i64 a, .int .i64 b, .agg #[.int .i64 k, .int .i64 u, .string s, .slice ta tl tc]] w fun e w' => e = .returned (.int .i64 (sendC p1 p2 ck cl L)) ∧ (sendC p1 p2 ck cl L ≠ 0 → Below w.heap.size w w') ∧ (sendC p1 p2 ck cl L = 0 → G w') := by
  have HW : Hid (∃ w0 q, w0 = w.alloc (.cells #[.int .i64 k, .int .i64 u, .string s, .slice ta tl tc] 24) ∧ q = w.heap.size) := ⟨_, _, rfl, rfl⟩
  go_enter Try.func44, Try.ntmps44
  go_wp2_with fail
  obtain ⟨w0, q, hw0, hq⟩ := HW.out
  rw [← hw0, ← hq]
  have HB0 : Hid (Below w.heap.size w w0) := by
    rw [hw0]
    exact (Below.refl _ _).alloc (Nat.le_refl _) _
  have HQ : Hid (w0.heap[q]? = some (.cells #[.int .i64 k, .int .i64 u, .string s, .slice ta tl tc] 24) ∧ q < w0.heap.size) := by
    rw [hw0, hq]
    exact ⟨heap_alloc_new w _, by simp⟩
  have HT : Hid (∀ W, Below w0.heap.size w0 W → W.cell? ⟨q, 0, none⟩ = some (.int .i64 k) ∧ W.cell? ⟨q, 1, none⟩ = some (.int .i64 u) ∧ W.cell? ⟨q, 2, none⟩ = some (.string s) ∧ W.cell? ⟨q, 3, none⟩ = some (.slice ta tl tc)) := by
    intro W hW
    have h := (hW.block q HQ.out.2).trans HQ.out.1
    exact ⟨cell_row h 0, cell_row h 1, cell_row h 2, cell_row h 3⟩
  clear hw0 hq HW
  refine (H1.out w0).mono ?_
  rintro e w1 ⟨rfl, rfl⟩
  cases p1
  · go_wp2_with fail
    go_ret
    have e : sendC false p2 ck cl L = 1 := by simp [sendC]
    rw [e]
    exact ⟨rfl, fun _ => HB0.out, fun h => by cases h⟩
  · go_wp2_with fail
    refine (H2.out _).mono ?_
    rintro e w2 ⟨rfl, rfl⟩
    cases p2
    · go_wp2_with fail
      go_ret
      have e : sendC true false ck cl L = 1 := by simp [sendC]
      rw [e]
      exact ⟨rfl, fun _ => HB0.out, fun h => by cases h⟩
    · obtain ⟨t0, t1, t2, t3⟩ := HT.out _ (Below.refl _ _)
      go_wp2_with fail
      refine (HK.out _ HB0.out).mono ?_
      rintro e w3 ⟨rfl, hb3⟩
      have HB3 := hide hb3
      have HB30 := hide (HB0.out.trans (hb3.mono HB0.out.size))
      clear hb3 t0 t1 t2 t3
      by_cases hck : ck = 0
      rotate_left
      · have hck' : ¬ (0 : Int) = ck := fun e => hck e.symm
        go_wp2_with fail
        go_ret
        have e : sendC true true ck cl L = ck := by simp [sendC, hck]
        rw [e]
        exact ⟨rfl, fun _ => HB30.out, fun h => absurd h hck⟩
      · obtain ⟨t0, t1, t2, t3⟩ := HT.out _ HB3.out
        have HCK := hide hck
        subst hck
        go_wp2_with fail
        refine (HL.out _ HB30.out).mono ?_
        rintro e w4 ⟨rfl, hb4⟩
        have HB4 := hide (HB3.out.trans (hb4.mono HB3.out.size))
        have HB40 := hide (HB30.out.trans (hb4.mono HB30.out.size))
        clear hb4 t0 t1 t2 t3
        cases cl
        · go_wp2_with fail
          go_ret
          have e : sendC true true 0 false L = 5 := by simp [sendC]
          rw [e]
          exact ⟨rfl, fun _ => HB40.out, fun h => by cases h⟩
        · go_wp2_with fail
          refine (HM.out _ HB40.out).mono ?_
          rintro e w5 ⟨rfl, rfl⟩
          by_cases h20 : 20 ≤ L
          · have h20' : (20 : Int) ≤ (L : Int) := by omega
            go_wp2_with fail
            go_ret
            have e : sendC true true 0 true L = 2 := by simp [sendC, h20]
            rw [e]
            exact ⟨rfl, fun _ => HB40.out, fun h => by cases h⟩
          · have h20' : ¬ (20 : Int) ≤ (L : Int) := by omega
            have HE0 : Hid (sendC true true 0 true L = 0) := (show sendC true true 0 true L = 0 by simp [sendC, h20])
            obtain ⟨t0, t1, t2, t3⟩ := HT.out _ HB4.out
            go_wp2_with fail
            refine (HC.out _ (by simp) HB40.out).mono ?_
            rintro e w6 ⟨z0, z1, zs, za, zl, zc, rfl, HZ⟩
            go_wp2_with fail
            refine (HA.out z0 z1 zs za zl zc _ w6 HE0.out HZ.out HB40.out).mono ?_
            rintro e w7 ⟨rfl, HG⟩
            go_wp2_with fail
            go_ret
            rw [HE0.out]
            exact ⟨rfl, fun h => absurd rfl h, fun _ => HG.out⟩

theorem wchk_right {n : Nat} {x : Tm n} (h : chk n x = 0) : RightA ⟨n, x⟩ := by
  rw [right_formed]
  rw [← tchk_chk] at h
  unfold tchk at h
  split at h
  · rename_i hf
    simpa using hf
  · cases h
theorem In.offLess {B : Nat} {w : World} : {n : Nat} → {x : Tm n} → In B w n x → Off (fun b => b < B) n x
  | 0, _, k => k
  | _ + 1, _, k => by
    rcases k.2 with k | ⟨b, o, e, hb, k⟩
    · exact Or.inl k
    · exact Or.inr ⟨b, o, e, hb, fun i y hy => (k i y hy).2.offLess⟩
variable {base wp n N : Nat} {mo : Option Nat} {f : Int × Int → List (Tm (N + 1))} {sl : Int × Int → Value} {w : World}
def pidB (a : Int) : Bool := decide (1 ≤ a) && decide (a ≤ 99)
def sendE (N : Nat) (a b : Int) (x : Tm (N + 1)) (L : Nat) : Int := sendC (pidB a) (pidB b) (chk (N + 1) x) (closedT (N + 1) x) L
/-- What a Send that is OK leaves. -/
def SendUp (base wp : Nat) (mo : Option Nat) (n N : Nat) (f : Int × Int → List (Tm (N + 1))) (sl : Int × Int → Value) (k : Int × Int) (x : Tm (N + 1)) (w w' : World) : Prop :=
  ∃ y mo' sl', same (N + 1) y (N + 1) x = true ∧ WyAt base wp mo' (n + 1) (N + 1) (upd f k (f k ++ [y])) sl' w' ∧ Kee (wyM wp mo sl) w w' ∧ (∀ b, wyM wp mo' sl' b → wyM wp mo sl b ∨ w.heap.size ≤ b) ∧ In w'.heap.size w' (N + 1) y ∧ Off (fun b => w.heap.size ≤ b ∧ ¬ wyM wp mo' sl' b) (N + 1) y
theorem send_any (h : WyAt base wp mo n (N + 1) f sl w) {a b : Int} (hk : I2 (a, b)) (x : Tm (N + 1)) (hx : In w.heap.size w (N + 1) x) (hN : (nodes (N + 1) x).length ≤ 2097152) (hn : n < 999999) (hl : (f (a, b)).length ≤ 1000) :
    Calls Try.prog 44 #[.pointer (some ⟨wp, 0, none⟩), .int .i64 a, .int .i64 b, val (N + 1) x] w fun e w' => e = .returned (.int .i64 (sendE N a b x (f (a, b)).length)) ∧ (sendE N a b x (f (a, b)).length ≠ 0 → Below w.heap.size w w') ∧ (sendE N a b x (f (a, b)).length = 0 → SendUp base wp mo n N f sl (a, b) x w w') := by
  refine send_walk wp a b x.1.1 x.1.2.1 x.1.2.2 x.2.1.1 x.2.2.length x.2.1.2 (pidB a) (pidB b) (chk (N + 1) x) (closedT (N + 1) x) (f (a, b)).length w
    (fun z0 z1 zs za zl zc W w' => ∃ y : Tm (N + 1), (z0 = y.1.1 ∧ z1 = y.1.2.1 ∧ zs = y.1.2.2 ∧ za = y.2.1.1 ∧ zl = y.2.2.length ∧ zc = y.2.1.2) ∧ Below W.heap.size W w' ∧ In w'.heap.size w' (N + 1) y ∧ Off (fun q => W.heap.size ≤ q) (N + 1) y ∧ same (N + 1) y (N + 1) x = true)
    (fun w' => SendUp base wp mo n N f sl (a, b) x w w') hl (fun W => isp_any a W) (fun W => isp_any b W) (fun W hW => ?_) (fun W hW => ?_) (fun W hW => ?_) (fun W hc hW => ?_) ?_
  · exact tcheck_any (N + 1) x w.heap.size W (hx.below hW) hW.size hN
  · exact closed_any (N + 1) x w.heap.size W (hx.below hW) hW.size
  · exact wmany_any (h.later hW) hk
  · refine (copy_any (N + 1) x w.heap.size W (hx.below hW) hW.size (wchk_right hc)).mono ?_
    rintro e w' ⟨y, rfl, hy⟩
    exact ⟨y.1.1, y.1.2.1, y.1.2.2, y.2.1.1, y.2.2.length, y.2.1.2, rfl, ⟨y, ⟨rfl, rfl, rfl, rfl, rfl, rfl⟩, hy.out⟩⟩
  · rintro z0 z1 zs za zl zc W w1 h0 ⟨y, ⟨rfl, rfl, rfl, rfl, rfl, rfl⟩, hb1, hy1, hy2, hy3⟩ hW
    have hw1 : Below w.heap.size w w1 := hW.trans (hb1.mono hW.size)
    have h20 : (f (a, b)).length < 1000 := by
      by_cases h2 : 20 ≤ (f (a, b)).length
      · exfalso
        unfold sendC at h0
        split at h0
        · cases h0
        · split at h0
          · contradiction
          · split at h0
            · cases h0
            · first | cases h0 | (split at h0 <;> first | cases h0 | contradiction)
      · omega
    refine (add_any (h.later hw1) hk y hn h20).mono ?_
    rintro e w' ⟨rfl, mo', sl', k1, k2, k3⟩
    refine ⟨rfl, y, mo', sl', hy3, k1, Kee.trans (kee_below hw1 _) k2 fun _ _ e => e, fun b hb => ?_, ?_, ?_⟩
    · rcases k3 b hb with e | e
      · exact Or.inl e
      · exact Or.inr (Nat.le_trans hw1.size e)
    · refine hy1.kee k2 (hy2.mono fun b hb hm => ?_)
      have := (h.lt b hm).2
      have := hW.size
      omega
    · refine (In.offB hy2 hy1).mono fun b hb => ⟨Nat.le_trans hW.size hb.1, fun hm => ?_⟩
      rcases k3 b hm with e | e
      · have := (h.lt b e).2
        have := hW.size
        omega
      · omega
end Go.Proofs.Ytfginhifgljnmaa
