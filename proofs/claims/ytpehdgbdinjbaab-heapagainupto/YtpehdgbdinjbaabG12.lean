/- What is proved here: plain facts and contracts that the claimed theorem stands on, several texts in one: match.AreBindings, and the document's Bound, of a list of terms that lies in memory: both return whether there are four, each right, and each closed or the wild one; they turn no memory that was there. Condition: at most 2097152 terms in each. plain facts on lists of terms of whatever depth, each taken to one depth: they are the same terms, in the same memory. No condition. plain facts on terms that are the same: turned round, in a row, and that all that is asked of one holds of the other. No condition. Put and Get of a heap, of terms and words: which error they tell, and what they lay or tell. No condition but sizes, and that the term lies outside of the heap's own blocks. plain facts on what words stand for: they go on to stand for it when words and names come behind, and what laying a term tells stands for it. No condition but that the term is right. Join of a heap: which error it tells, and what it lays. No condition but what its callees do. -/
import Derived.Test.YtpehdgbdinjbaabG11
import Derived.Test.YtpehdgbdinjbaabG10
import Derived.Test.YtpehdgbdinjbaabG05
namespace Go.Proofs.Ytpehdgbdinjbaab
open Go.RowKit

def okB (n : Nat) (y : Tm n) : Bool := chk n y == 0 && (kindA ⟨n, y⟩ == 6 || closedB n y)
def bndB (n : Nat) (q : List (Tm n)) : Bool := decide (q.length = 4) && q.all (okB n)
/-- A list that lies in memory. -/
def Lies (B : Nat) (w : World) (n : Nat) (q : List (Tm n)) (a : Option Addr) : Prop :=
  q = [] ∨ ∃ b o, a = some ⟨b, o, none⟩ ∧ b < B ∧ ∀ (i : Nat) (y : Tm n), q[i]? = some y → Held w b (o + i * 4) n y ∧ In B w n y
theorem Lies.below {B : Nat} {w w' : World} (h : Below B w w') {n : Nat} {q : List (Tm n)} {a : Option Addr} (k : Lies B w n q a) : Lies B w' n q a := by
  rcases k with hp | ⟨b, o, e, hb, hp⟩
  · exact Or.inl hp
  · exact Or.inr ⟨b, o, e, hb, fun i y hy => ⟨(hp i y hy).1.below h hb, (hp i y hy).2.below h⟩⟩

theorem all_drop {α : Type} (f : α → Bool) (q : List α) (k : Nat) (y : α) (h : q[k]? = some y) : (q.drop k).all f = (f y && (q.drop (k + 1)).all f) := by
  obtain ⟨h1, e1⟩ := List.getElem?_eq_some_iff.1 h
  rw [List.drop_eq_getElem_cons h1, e1]
  rfl
theorem all_take {α : Type} (f : α → Bool) (q : List α) (k : Nat) (y : α) (h : q[k]? = some y) : (q.take (k + 1)).all f = ((q.take k).all f && f y) := by
  rw [List.take_add_one, h]
  simp

theorem areB_ne (a : Option Addr) (len pc : Nat) (w : World) (_hl : len ≤ 9223372036854775807) (h : ((len : Int) != 4) = true) :
    Calls Try.prog 63 #[.slice a len pc] w fun e w' => e = .returned (.bool false) ∧ w' = w := by
  go_enter Try.func63, Try.ntmps63
  go_wp2_with fail
  go_ret
  exact ⟨rfl, rfl⟩

set_option maxHeartbeats 1000000 in
theorem areB_loop (n : Nat) (q : List (Tm n)) (pb po pc : Nat) (B : Nat) (w : World) (hql : Hid (q.length = 4)) (hpb : pb < B)
    (hp : ∀ (i : Nat) (y : Tm n), q[i]? = some y → Held w pb (po + i * 4) n y ∧ In B w n y) (hN : ∀ y ∈ q, (nodes n y).length ≤ 2097152) (hB : B ≤ w.heap.size) :
    Calls Try.prog 63 #[.slice (some ⟨pb, po, none⟩) 4 pc] w fun e w' => e = .returned (.bool (q.all (okB n))) ∧ Below w.heap.size w w' := by
  go_enter Try.func63, Try.ntmps63
  go_wp2_with fail
  go_loopw [10] (fun i wr => ∃ k : Nat, k ≤ 4 ∧ i = .int .i64 k ∧ Below w.heap.size w wr ∧ Hid ((q.drop k).all (okB n) = q.all (okB n))) (fun i _ => 4 - (intOf i).toNat)
  case atStart => exact ⟨0, by omega, rfl, Below.refl _ _, rfl⟩
  case round =>
    obtain ⟨k, hk, rfl, hb, hd⟩ := hrel
    by_cases hlt : k < 4
    · obtain ⟨x, hx⟩ : ∃ x, q[k]? = some x := ⟨q[k]'(by rw [hql.out]; exact hlt), List.getElem?_eq_getElem _⟩
      have HS := hide (all_drop (okB n) q k x hx)
      obtain ⟨hx1, hx2⟩ := hp k x hx
      have hNx := hN x (List.mem_of_getElem? hx)
      replace hx1 := hx1.below (hb.mono hB) hpb
      replace hx2 := hx2.below (hb.mono hB)
      clear hp hx hN
      cases n with
      | zero => exact hx1.elim
      | succ n =>
      obtain ⟨x0, x1, x2, x3⟩ := hx1
      have hB' : B ≤ wr.heap.size := Nat.le_trans hB hb.size
      have HCK : Hid (∀ w1, Below wr.heap.size wr w1 → Calls Try.prog 51 #[.agg #[.int .i64 x.1.1, .int .i64 x.1.2.1, .string x.1.2.2, .slice x.2.1.1 x.2.2.length x.2.1.2]] w1 fun e w' => e = .returned (.int .i64 (chk (n + 1) x)) ∧ Below w1.heap.size w1 w') :=
        fun w1 h1 => tcheck_any (n + 1) x B w1 (hx2.below (h1.mono hB')) (Nat.le_trans hB' h1.size) hNx
      have HCL : Hid (∀ w1, Below wr.heap.size wr w1 → Calls Try.prog 52 #[.agg #[.int .i64 x.1.1, .int .i64 x.1.2.1, .string x.1.2.2, .slice x.2.1.1 x.2.2.length x.2.1.2]] w1 fun e w' => e = .returned (.bool (closedT (n + 1) x)) ∧ Below w1.heap.size w1 w') :=
        fun w1 h1 => closed_any (n + 1) x B w1 (hx2.below (h1.mono hB')) (Nat.le_trans hB' h1.size)
      have HOK : Hid (okB (n + 1) x = (chk (n + 1) x == 0 && (x.1.1 == 6 || closedT (n + 1) x))) := by unfold Hid okB; rw [closed_eq]; rfl
      clear hx2 hNx
      generalize x.2.2.length = xl at *
      generalize closedT (n + 1) x = cl at *
      generalize chk (n + 1) x = ck at *
      generalize okB (n + 1) x = ok at *
      have hk1 : (0 : Int) ≤ (k : Int) := by omega
      have hk2 : (k : Int) < (4 : Int) := by omega
      have hpw : pb < wr.heap.size := by omega
      have HBA : Hid (∀ o, Below wr.heap.size wr (wr.alloc o)) := fun o => (Below.refl _ _).alloc (Nat.le_refl _) _
      go_wp2_with fail
      refine (HCK.out _ (HBA.out _)).mono ?_
      rintro e w1 ⟨rfl, hb1⟩
      obtain ⟨⟨t0, t1, t2, t3⟩, _⟩ := boxed hb1
      have HB1 : Hid (Below wr.heap.size wr w1) := (HBA.out _).trans (hb1.mono (by simp))
      have HLT : Hid (wr.heap.size < w1.heap.size) := by have := hb1.size; simp at this; unfold Hid; omega
      clear hb1 x0 x1 x2 x3 HCK
      by_cases hck : ck = 0
      · have hck1 : (ck != 0) = false := by simp [hck]
        have HC0 : Hid (ck = 0) := hck
        clear hck
        go_wp2_with fail
        refine (isBound_any _ _ _ _ _ _ _).mono ?_
        rintro e w2 ⟨rfl, hb2⟩
        obtain ⟨t4, t5, t6, t7⟩ := cells_nx HLT.out hb2 ⟨t0, t1, t2, t3⟩
        have HB2 : Hid (Below wr.heap.size wr w2) := HB1.out.trans (hb2.mono HB1.out.size)
        clear hb2 t0 t1 t2 t3
        cases h6 : x.1.1 == 6
        · simp only [Bool.not_false]
          go_wp2_with fail
          refine (HCL.out _ HB2.out).mono ?_
          rintro e w3 ⟨rfl, hb3⟩
          have hb4 : Below w.heap.size w w3 := hb.trans ((HB2.out.trans (hb3.mono HB2.out.size)).mono hb.size)
          clear hb3
          cases cl with
          | true =>
            go_wp2_with fail
            go_roundw
            case rel => exact ⟨k + 1, by omega, by go_num, hb4, by rw [← hd.out, HS.out, HOK.out, HC0.out]; simp [Hid]⟩
            case measure => simp [intOf]; omega
          | false =>
            go_wp2_with fail
            go_ret
            exact ⟨ret_same (by rw [← hd.out, HS.out, HOK.out, HC0.out, h6]; simp), hb4⟩
        · simp only [Bool.not_true]
          have hb4 : Below w.heap.size w w2 := hb.trans (HB2.out.mono hb.size)
          go_wp2_with fail
          go_roundw
          case rel => exact ⟨k + 1, by omega, by go_num, hb4, by rw [← hd.out, HS.out, HOK.out, HC0.out, h6]; simp [Hid]⟩
          case measure => simp [intOf]; omega
      · have hck1 : (ck != 0) = true := by simpa using hck
        have HC0 : Hid ((ck == 0) = false) := by simpa [Hid] using hck
        have hb4 : Below w.heap.size w w1 := hb.trans (HB1.out.mono hb.size)
        clear hck
        go_wp2_with fail
        go_ret
        exact ⟨ret_same (by rw [← hd.out, HS.out, HOK.out, HC0.out]; simp), hb4⟩
    · go_wp2_with fail
      go_ret
      refine ⟨ret_same ?_, hb⟩
      rw [← hd.out, List.drop_eq_nil_of_le (by rw [hql.out]; omega)]
      rfl

theorem areB_any (n : Nat) (q : List (Tm n)) (a : Option Addr) (pc B : Nat) (w : World) (h : Lies B w n q a) (hl : q.length ≤ 9223372036854775807) (hN : ∀ y ∈ q, (nodes n y).length ≤ 2097152) (hB : B ≤ w.heap.size) :
    Calls Try.prog 63 #[.slice a q.length pc] w fun e w' => e = .returned (.bool (bndB n q)) ∧ Below w.heap.size w w' := by
  unfold bndB
  by_cases h4 : q.length = 4
  · rcases h with h | ⟨b, o, rfl, hb, hp⟩
    · rw [h] at h4; simp at h4
    · have hw := areB_loop n q b o pc B w h4 hb hp hN hB
      rw [h4]
      simpa using hw
  · refine (areB_ne a q.length pc w hl (by simp; omega)).mono ?_
    rintro e w' ⟨rfl, rfl⟩
    exact ⟨by simp [h4], Below.refl _ _⟩

set_option maxHeartbeats 2000000 in
theorem rbound_loop (n : Nat) (q : List (Tm n)) (len : Nat) (hql : Hid (q.length = len)) (hlen : len ≤ 9223372036854775807) (a : Option Addr) (pc B : Nat) (w : World) (hp : Hid (Lies B w n q a)) (hN : ∀ y ∈ q, (nodes n y).length ≤ 2097152) (hB : B ≤ w.heap.size) :
    Calls Try.prog 32 #[.slice a len pc] w fun e w' => e = .returned (.bool (((len : Int) == 4) && q.all (okB n))) ∧ Below w.heap.size w w' := by
  go_enter Try.func32, Try.ntmps32
  go_wp2_with fail
  go_loopw [3, 4] (fun v i wr => ∃ (k : Nat) (ok : Bool), k ≤ len ∧ v = .bool ok ∧ i = .int .i64 k ∧ Below w.heap.size w wr ∧ Hid (ok = (((len : Int) == 4) && (q.take k).all (okB n)))) (fun _ i _ => len - (intOf i).toNat)
  case atStart => exact ⟨0, _, by omega, rfl, rfl, Below.refl _ _, by simp [Hid]⟩
  case round =>
    obtain ⟨k, ok, hk, rfl, rfl, hb, hd⟩ := hrel
    by_cases hlt : k < len
    · obtain ⟨x, hx⟩ : ∃ x, q[k]? = some x := ⟨q[k]'(by rw [hql.out]; exact hlt), List.getElem?_eq_getElem _⟩
      have HS := hide (all_take (okB n) q k x hx)
      have hNx := hN x (List.mem_of_getElem? hx)
      rcases hp.out with hp | ⟨pb, po, rfl, hpb, hp⟩
      · subst hp; simp at hx
      obtain ⟨hx1, hx2⟩ := hp k x hx
      replace hx1 := hx1.below (hb.mono hB) hpb
      replace hx2 := hx2.below (hb.mono hB)
      clear hp hx hN
      cases n with
      | zero => exact hx1.elim
      | succ n =>
      have hB' : B ≤ wr.heap.size := Nat.le_trans hB hb.size
      have hpw : pb < wr.heap.size := by omega
      have hk1 : (0 : Int) ≤ (k : Int) := by omega
      have hk2 : (k : Int) < (len : Int) := by omega
      cases ok with
      | false =>
        go_wp2_with fail
        go_roundw
        case rel => exact ⟨k + 1, false, by omega, rfl, by go_num, hb, by rw [HS.out, ← Bool.and_assoc, ← hd.out]; simp [Hid]⟩
        case measure => simp [intOf]; omega
      | true =>
      have HX1 := hide hx1
      obtain ⟨x0, x1, x2, x3⟩ := hx1
      have HCK : Hid (∀ w1, Below wr.heap.size wr w1 → Calls Try.prog 12 #[.agg #[.int .i64 x.1.1, .int .i64 x.1.2.1, .string x.1.2.2, .slice x.2.1.1 x.2.2.length x.2.1.2]] w1 fun e w' => e = .returned (.int .i64 (chk (n + 1) x)) ∧ Below w1.heap.size w1 w') :=
        fun w1 h1 => rcheck_any (n + 1) x B w1 (hx2.below (h1.mono hB')) (Nat.le_trans hB' h1.size) hNx
      have HCL : Hid (∀ w1, Below wr.heap.size wr w1 → Calls Try.prog 31 #[.agg #[.int .i64 x.1.1, .int .i64 x.1.2.1, .string x.1.2.2, .slice x.2.1.1 x.2.2.length x.2.1.2]] w1 fun e w' => e = .returned (.bool (closedB (n + 1) x)) ∧ Below w1.heap.size w1 w') :=
        fun w1 h1 => rclosed_any (n + 1) x B w1 (hx2.below (h1.mono hB')) (Nat.le_trans hB' h1.size) hNx
      have HOK : Hid (okB (n + 1) x = (chk (n + 1) x == 0 && (x.1.1 == 6 || closedB (n + 1) x))) := rfl
      clear hx2 hNx
      generalize closedB (n + 1) x = cl at *
      generalize chk (n + 1) x = ck at *
      generalize okB (n + 1) x = ok at *
      go_wp2_with fail
      refine (HCK.out _ (Below.refl _ _)).mono ?_
      rintro e w1 ⟨rfl, hb1⟩
      have HB1 := hide hb1
      clear x0 x1 x2 x3
      by_cases hck : ck = 0
      · have hck1 : (ck == 0) = true := by simp [hck]
        have HC0 : Hid (ck = 0) := hck
        obtain ⟨x0, x1, x2, x3⟩ := HX1.out.below hb1 hpw
        clear hck hb1
        cases h6 : x.1.1 == 6
        · go_wp2_with fail
          refine (HCL.out _ HB1.out).mono ?_
          rintro e w3 ⟨rfl, hb3⟩
          have hb4 : Below w.heap.size w w3 := hb.trans ((HB1.out.trans (hb3.mono HB1.out.size)).mono hb.size)
          clear hb3
          go_wp2_with fail
          go_roundw
          case rel => exact ⟨k + 1, cl, by omega, rfl, by go_num, hb4, by rw [HS.out, ← Bool.and_assoc, ← hd.out, HOK.out, HC0.out, h6]; simp [Hid]⟩
          case measure => simp [intOf]; omega
        · have hb4 : Below w.heap.size w w1 := hb.trans (HB1.out.mono hb.size)
          go_wp2_with fail
          go_roundw
          case rel => exact ⟨k + 1, true, by omega, rfl, by go_num, hb4, by rw [HS.out, ← Bool.and_assoc, ← hd.out, HOK.out, HC0.out, h6]; simp [Hid]⟩
          case measure => simp [intOf]; omega
      · have hck1 : (ck == 0) = false := by simpa using hck
        have hb4 : Below w.heap.size w w1 := hb.trans (HB1.out.mono hb.size)
        clear hck hb1
        go_wp2_with fail
        go_roundw
        case rel => exact ⟨k + 1, false, by omega, rfl, by go_num, hb4, by rw [HS.out, ← Bool.and_assoc, ← hd.out, HOK.out, hck1]; simp [Hid]⟩
        case measure => simp [intOf]; omega
    · go_wp2_with fail
      go_ret
      refine ⟨ret_same ?_, hb⟩
      rw [hd.out, List.take_of_length_le (by rw [hql.out]; omega)]

theorem rbound_any (n : Nat) (q : List (Tm n)) (a : Option Addr) (pc B : Nat) (w : World) (h : Lies B w n q a) (hl : q.length ≤ 9223372036854775807) (hN : ∀ y ∈ q, (nodes n y).length ≤ 2097152) (hB : B ≤ w.heap.size) :
    Calls Try.prog 32 #[.slice a q.length pc] w fun e w' => e = .returned (.bool (bndB n q)) ∧ Below w.heap.size w w' := by
  have e : bndB n q = (((q.length : Nat) : Int) == 4 && q.all (okB n)) := by
    unfold bndB
    congr 1
    rw [Bool.eq_iff_iff]
    simp
    omega
  rw [e]
  exact rbound_loop n q q.length rfl hl a pc B w h hN hB
end Go.Proofs.Ytpehdgbdinjbaab
namespace Go.Proofs.Ytpehdgbdinjbaab
open Go.RowKit

/-- A term, at another depth. -/
def lift : (N : Nat) → (n : Nat) → Tm n → Tm N
  | 0, _, _ => ()
  | _ + 1, 0, _ => ((0, 0, .empty), (none, 0), [])
  | N + 1, n + 1, x => (x.1, x.2.1, x.2.2.map fun y => lift N n y)
theorem lift_hd (N n : Nat) (x : Tm (n + 1)) : hdT (N + 1) (lift (N + 1) (n + 1) x) = hdT (n + 1) x := by simp [hdT, hdOf, lift]
theorem lift_held (N n : Nat) (h : n ≤ N) (x : Tm n) (w : World) (b o : Nat) (k : Held w b o n x) : Held w b o N (lift N n x) := by
  cases n with
  | zero => exact k.elim
  | succ n =>
    obtain ⟨N, rfl⟩ : ∃ M, N = M + 1 := ⟨N - 1, by omega⟩
    obtain ⟨k0, k1, k2, k3⟩ := k
    exact ⟨k0, k1, k2, by simpa [lift] using k3⟩
theorem lift_in : (N n : Nat) → n ≤ N → (x : Tm n) → (B : Nat) → (w : World) → In B w n x → In B w N (lift N n x)
  | _, 0, _, _, _, _, k => k.elim
  | 0, n + 1, h, _, _, _, _ => by omega
  | N + 1, n + 1, h, x, B, w, k => by
    obtain ⟨k0, k1⟩ := k
    refine ⟨by simpa [lift] using k0, ?_⟩
    rcases k1 with k1 | ⟨b, o, e, hb, k1⟩
    · exact Or.inl (by simp [lift, k1])
    · refine Or.inr ⟨b, o, e, hb, fun i y hy => ?_⟩
      simp only [lift, List.getElem?_map] at hy
      obtain ⟨z, hz, rfl⟩ := Option.map_eq_some_iff.1 hy
      exact ⟨lift_held N n (by omega) z w b _ (k1 i z hz).1, lift_in N n (by omega) z B w (k1 i z hz).2⟩
theorem lift_nodes : (N n : Nat) → n ≤ N → (x : Tm (n + 1)) → nodes (N + 1) (lift (N + 1) (n + 1) x) = nodes (n + 1) x
  | N, 0, _, x => by
    have : ∀ l : List (Tm 0), (l.map fun y => lift N 0 y).flatMap (fun y => nodes N y) = l.flatMap fun y => nodes 0 y := by
      intro l
      induction l with
      | nil => rfl
      | cons a l ih =>
        simp only [List.map_cons, List.flatMap_cons, ih]
        congr 1
        cases N with
        | zero => rfl
        | succ N => simp [lift, nodes]
    simp only [nodes, lift, List.length_map, this]
  | 0, n + 1, h, _ => by omega
  | N + 1, n + 1, h, x => by
    have : ∀ l : List (Tm (n + 1)), (l.map fun y => lift (N + 1) (n + 1) y).flatMap (fun y => nodes (N + 1) y) = l.flatMap fun y => nodes (n + 1) y := by
      intro l
      induction l with
      | nil => rfl
      | cons a l ih =>
        simp only [List.map_cons, List.flatMap_cons, ih]
        rw [lift_nodes N n (by omega) a]
    have e : nodes (N + 2) (lift (N + 2) (n + 2) x) = (x.1, (x.2.1.1, (x.2.2.map fun y => lift (N + 1) (n + 1) y).length, x.2.1.2)) :: (x.2.2.map fun y => lift (N + 1) (n + 1) y).flatMap fun y => nodes (N + 1) y := rfl
    rw [e, this]
    simp [nodes]

def top (b : List An) : Nat := b.foldr (fun a m => max a.1 m) 0
theorem top_le (b : List An) : ∀ a ∈ b, a.1 ≤ top b := by
  induction b with
  | nil => intro a h; cases h
  | cons c b ih =>
    intro a h
    simp only [top, List.foldr_cons]
    rcases List.mem_cons.1 h with rfl | h
    · omega
    · have := ih a h
      unfold top at this
      omega
def uni (b : List An) : List (Tm (top b)) := b.map fun a => lift (top b) a.1 a.2
theorem uni_at (b : List An) (i : Nat) (y : Tm (top b)) (h : (uni b)[i]? = some y) : ∃ a, b[i]? = some a ∧ a.1 ≤ top b ∧ y = lift (top b) a.1 a.2 := by
  simp only [uni, List.getElem?_map] at h
  obtain ⟨a, ha, rfl⟩ := Option.map_eq_some_iff.1 h
  exact ⟨a, ha, top_le b a (List.mem_of_getElem? ha), rfl⟩
theorem uni_lies {base g c B : Nat} {b : List An} {w : World} (h : Has base g c b w) (hb : ∀ y ∈ b, InA B w y) (hB : B ≤ w.heap.size) : Lies w.heap.size w (top b) (uni b) (some ⟨g, 0, none⟩) := by
  refine Or.inr ⟨g, 0, rfl, h.lt.2, fun i y hy => ?_⟩
  obtain ⟨a, ha, hle, rfl⟩ := uni_at b i y hy
  have hin := hb a (List.mem_of_getElem? ha)
  refine ⟨?_, (lift_in _ _ hle _ _ _ hin).mono hB⟩
  obtain ⟨n, x⟩ := a
  have hc := h.cells i _ ha
  cases n with
  | zero => exact hin.elim
  | succ n =>
    rw [Nat.zero_add]
    exact lift_held _ _ hle x w g (i * 4) hc
theorem uni_right {b : List An} (h : ∀ y ∈ b, RightA y ∧ y.1 ≠ 0) : ∀ y ∈ uni b, RightA ⟨top b, y⟩ := by
  intro y hy
  obtain ⟨i, hi⟩ := List.getElem?_of_mem hy
  obtain ⟨a, ha, hle, rfl⟩ := uni_at b i y hi
  have hr := h a (List.mem_of_getElem? ha)
  obtain ⟨n, x⟩ := a
  cases n with
  | zero => exact (hr.2 rfl).elim
  | succ n =>
    intro z hz
    clear hi hy ha h
    generalize top b = T at *
    obtain ⟨M, rfl⟩ : ∃ M, T = M + 1 := ⟨T - 1, by simp only at hle; omega⟩
    have e := lift_nodes M n (by simp only at hle; omega) x
    simp only at hz
    rw [e] at hz
    exact hr.1 z hz
end Go.Proofs.Ytpehdgbdinjbaab
namespace Go.Proofs.Ytpehdgbdinjbaab
open Go.RowKit

theorem bytes_eq {s t : ByteArray} (h : (s.toList == t.toList) = true) : s = t := by
  have h1 : s.toList = t.toList := by simpa using h
  rw [ByteArray.toList_eq, ByteArray.toList_eq] at h1
  cases s; cases t
  simp only at h1
  rw [Array.toList_inj.1 h1]
theorem same_parts {n m : Nat} {x : Tm (n + 1)} {y : Tm (m + 1)} (h : same (n + 1) x (m + 1) y = true) : x.1 = y.1 ∧ sameL (fun a b => same n a m b) x.2.2 y.2.2 = true := by
  simp only [same, Bool.and_eq_true, beq_iff_eq] at h
  obtain ⟨⟨⟨h1, h2⟩, h3⟩, h4⟩ := h
  refine ⟨?_, h4⟩
  have h5 := bytes_eq (s := x.1.2.2) (t := y.1.2.2) (by simpa using h3)
  exact Prod.ext h1 (Prod.ext h2 h5)
theorem same_mk {n m : Nat} {x : Tm (n + 1)} {y : Tm (m + 1)} (h : x.1 = y.1) (k : sameL (fun a b => same n a m b) x.2.2 y.2.2 = true) : same (n + 1) x (m + 1) y = true := by
  simp only [same, h, k]
  simp
theorem sameL_flip {α β : Type} (f : α → β → Bool) (g : β → α → Bool) : (p : List α) → (q : List β) → (∀ a ∈ p, ∀ b, f a b = true → g b a = true) → sameL f p q = true → sameL g q p = true
  | [], [], _, _ => rfl
  | [], _ :: _, _, h => by simp [sameL] at h
  | _ :: _, [], _, h => by simp [sameL] at h
  | a :: p, b :: q, hf, h => by
    simp only [sameL, Bool.and_eq_true] at h ⊢
    exact ⟨hf a (by simp) b h.1, sameL_flip f g p q (fun a' ha => hf a' (List.mem_cons_of_mem _ ha)) h.2⟩
theorem same_symm : (n : Nat) → (x : Tm n) → (m : Nat) → (y : Tm m) → same n x m y = true → same m y n x = true
  | 0, _, _, _, h => by simp [same] at h
  | _ + 1, _, 0, _, h => by simp [same] at h
  | n + 1, x, m + 1, y, h => by
    obtain ⟨h1, h2⟩ := same_parts h
    exact same_mk h1.symm (sameL_flip _ _ _ _ (fun a _ b hab => same_symm n a m b hab) h2)
theorem sameL_chain {α β γ : Type} (f : α → β → Bool) (g : β → γ → Bool) (k : α → γ → Bool) : (p : List α) → (q : List β) → (r : List γ) → (∀ a ∈ p, ∀ b c, f a b = true → g b c = true → k a c = true) → sameL f p q = true → sameL g q r = true → sameL k p r = true
  | [], [], [], _, _, _ => rfl
  | [], [], _ :: _, _, _, h => by simp [sameL] at h
  | [], _ :: _, _, _, h, _ => by simp [sameL] at h
  | _ :: _, [], _, _, h, _ => by simp [sameL] at h
  | _ :: _, _ :: _, [], _, _, h => by simp [sameL] at h
  | a :: p, b :: q, c :: r, hf, h1, h2 => by
    simp only [sameL, Bool.and_eq_true] at h1 h2 ⊢
    exact ⟨hf a (by simp) b c h1.1 h2.1, sameL_chain f g k p q r (fun a' ha => hf a' (List.mem_cons_of_mem _ ha)) h1.2 h2.2⟩
theorem same_trans : (n : Nat) → (x : Tm n) → (m : Nat) → (y : Tm m) → (l : Nat) → (z : Tm l) → same n x m y = true → same m y l z = true → same n x l z = true
  | 0, _, _, _, _, _, h, _ => by simp [same] at h
  | _ + 1, _, 0, _, _, _, h, _ => by simp [same] at h
  | _ + 1, _, _ + 1, _, 0, _, _, h => by simp [same] at h
  | n + 1, x, m + 1, y, l + 1, z, h, k => by
    obtain ⟨h1, h2⟩ := same_parts h
    obtain ⟨k1, k2⟩ := same_parts k
    exact same_mk (h1.trans k1) (sameL_chain _ _ _ _ _ _ (fun a _ b c hab hbc => same_trans n a m b l c hab hbc) h2 k2)
theorem sameL_self {α : Type} (f : α → α → Bool) : (p : List α) → (∀ a ∈ p, f a a = true) → sameL f p p = true
  | [], _ => rfl
  | a :: p, h => by
    simp only [sameL, Bool.and_eq_true]
    exact ⟨h a (by simp), sameL_self f p fun a' ha => h a' (List.mem_cons_of_mem _ ha)⟩
theorem same_refl : (n : Nat) → (x : Tm n) → RightA ⟨n, x⟩ → same n x n x = true
  | 0, _, h => (zero_bad h).elim
  | n + 1, x, h => same_mk rfl (sameL_self _ _ fun y hy => same_refl n y (parts_right n x y h hy))

theorem right_formed {n : Nat} {x : Tm n} : RightA ⟨n, x⟩ ↔ formedB n x = true := by
  rw [formed_good, List.all_eq_true]
  exact Iff.rfl
theorem good_hd {x : Int × Int × ByteArray} {a b : Option Addr} {l c d : Nat} : good (x, (a, l, c)) = good (x, (b, l, d)) := rfl

theorem sameL_all {α β : Type} (f : α → β → Bool) (g : α → Bool) (k : β → Bool) : (p : List α) → (q : List β) → (∀ a ∈ p, ∀ b, f a b = true → g a = k b) → sameL f p q = true → p.all g = q.all k
  | [], [], _, _ => rfl
  | [], _ :: _, _, h => by simp [sameL] at h
  | _ :: _, [], _, h => by simp [sameL] at h
  | a :: p, b :: q, hf, h => by
    simp only [sameL, Bool.and_eq_true] at h
    simp only [List.all_cons, hf a (by simp) b h.1, sameL_all f g k p q (fun a' ha => hf a' (List.mem_cons_of_mem _ ha)) h.2]
theorem sameL_map {α β γ : Type} (f : α → β → Bool) (g : α → γ) (k : β → γ) : (p : List α) → (q : List β) → (∀ a ∈ p, ∀ b, f a b = true → g a = k b) → sameL f p q = true → p.map g = q.map k
  | [], [], _, _ => rfl
  | [], _ :: _, _, h => by simp [sameL] at h
  | _ :: _, [], _, h => by simp [sameL] at h
  | a :: p, b :: q, hf, h => by
    simp only [sameL, Bool.and_eq_true] at h
    simp only [List.map_cons, hf a (by simp) b h.1, sameL_map f g k p q (fun a' ha => hf a' (List.mem_cons_of_mem _ ha)) h.2]
theorem fold_map {α : Type} (g : α → Int) : (p : List α) → (i : Int) → p.foldl (fun m y => max m (g y)) i = (p.map g).foldl max i
  | [], _ => rfl
  | a :: p, i => by simp only [List.foldl_cons, List.map_cons]; exact fold_map g p _

theorem same_closed : (n : Nat) → (x : Tm n) → (m : Nat) → (y : Tm m) → same n x m y = true → closedT n x = closedT m y
  | 0, _, _, _, h => by simp [same] at h
  | _ + 1, _, 0, _, h => by simp [same] at h
  | n + 1, x, m + 1, y, h => by
    obtain ⟨h1, h2⟩ := same_parts h
    simp only [closedT, h1]
    rw [sameL_all _ _ _ _ _ (fun a _ b hab => same_closed n a m b hab) h2]
theorem same_formed : (n : Nat) → (x : Tm n) → (m : Nat) → (y : Tm m) → same n x m y = true → formedB n x = formedB m y
  | 0, _, _, _, h => by simp [same] at h
  | _ + 1, _, 0, _, h => by simp [same] at h
  | n + 1, x, m + 1, y, h => by
    obtain ⟨h1, h2⟩ := same_parts h
    have e : good (hdOf n x) = good (hdOf m y) := by
      have hl := sameL_length _ _ _ h2
      unfold hdOf
      rw [h1, hl]
      exact good_hd
    simp only [formedB, e, h1]
    rw [sameL_all _ _ _ _ _ (fun a _ b hab => same_formed n a m b hab) h2]
theorem same_sz : (n : Nat) → (x : Tm n) → (m : Nat) → (y : Tm m) → same n x m y = true → sz n x = sz m y
  | 0, _, _, _, h => by simp [same] at h
  | _ + 1, _, 0, _, h => by simp [same] at h
  | n + 1, x, m + 1, y, h => by
    obtain ⟨h1, h2⟩ := same_parts h
    simp only [sz, h1]
    rw [sameL_map _ (fun y => 1 + sz n y) (fun y => 1 + sz m y) _ _ (fun a _ b hab => by rw [same_sz n a m b hab]) h2]
theorem same_dep : (n : Nat) → (x : Tm n) → (m : Nat) → (y : Tm m) → same n x m y = true → dep n x = dep m y
  | 0, _, _, _, h => by simp [same] at h
  | _ + 1, _, 0, _, h => by simp [same] at h
  | n + 1, x, m + 1, y, h => by
    obtain ⟨h1, h2⟩ := same_parts h
    simp only [dep, h1]
    rw [fold_map (fun y => dep n y), fold_map (fun y => dep m y), sameL_map _ (fun y => dep n y) (fun y => dep m y) _ _ (fun a _ b hab => same_dep n a m b hab) h2]
theorem same_chk {n m : Nat} {x : Tm n} {y : Tm m} (h : same n x m y = true) : chk n x = chk m y := by
  rw [← tchk_chk, ← tchk_chk]
  unfold tchk
  rw [same_formed n x m y h, same_sz n x m y h, same_dep n x m y h]
theorem same_kind {n m : Nat} {x : Tm n} {y : Tm m} (h : same n x m y = true) : kindA ⟨n, x⟩ = kindA ⟨m, y⟩ := by
  cases n with
  | zero => simp [same] at h
  | succ n =>
    cases m with
    | zero => simp [same] at h
    | succ m =>
      have := (same_parts h).1
      simp only [kindA, this]
theorem sameL_at {α β : Type} (f : α → β → Bool) : (p : List α) → (q : List β) → sameL f p q = true → ∀ (i : Nat) (a : α) (b : β), p[i]? = some a → q[i]? = some b → f a b = true
  | [], _, _, i, a, b, ha, _ => by simp at ha
  | _ :: _, [], h, _, _, _, _, _ => by simp [sameL] at h
  | a :: p, b :: q, h, 0, a', b', ha, hb => by
    simp only [sameL, Bool.and_eq_true] at h
    simp at ha hb
    subst ha hb
    exact h.1
  | a :: p, b :: q, h, i + 1, a', b', ha, hb => by
    simp only [sameL, Bool.and_eq_true] at h
    exact sameL_at f p q h.2 i a' b' (by simpa using ha) (by simpa using hb)
theorem sameL_mapl {α β : Type} (f : β → α → Bool) (g : α → β) : (p : List α) → (∀ a ∈ p, f (g a) a = true) → sameL f (p.map g) p = true
  | [], _ => rfl
  | a :: p, h => by
    simp only [List.map_cons, sameL, Bool.and_eq_true]
    exact ⟨h a (by simp), sameL_mapl f g p fun a' ha => h a' (List.mem_cons_of_mem _ ha)⟩
theorem lift_same : (N n : Nat) → n ≤ N → (x : Tm n) → RightA ⟨n, x⟩ → same N (lift N n x) n x = true
  | _, 0, _, _, h => (zero_bad h).elim
  | 0, n + 1, h, _, _ => by omega
  | N + 1, n + 1, h, x, hr => same_mk rfl (sameL_mapl _ _ _ fun y hy => lift_same N n (by omega) y (parts_right n x y hr hy))
end Go.Proofs.Ytpehdgbdinjbaab
namespace Go.Proofs.Ytpehdgbdinjbaab
open Go.RowKit

theorem nodes_le : (n : Nat) → (x : Tm n) → RightA ⟨n, x⟩ → ((nodes n x).length : Int) ≤ sz n x + 1
  | 0, _, _ => by simp [nodes, sz]
  | n + 1, x, h => by
    have gx := good_parts (hdOf n x) (h (hdOf n x) (by simp [nodes, hdOf]))
    by_cases h4 : x.1.1 = 4
    · have key : ∀ l : List (Tm n), (∀ y ∈ l, RightA ⟨n, y⟩) → ((l.flatMap fun y => nodes n y).length : Int) ≤ (l.map fun y => 1 + sz n y).sum := by
        intro l
        induction l with
        | nil => intro _; simp
        | cons y l ih =>
          intro hl
          have h1 := nodes_le n y (hl y (by simp))
          have h2 := ih (fun z hz => hl z (by simp [hz]))
          simp only [List.flatMap_cons, List.length_append, List.map_cons, List.sum_cons]
          omega
      have k := key x.2.2 (fun y hy => parts_right n x y h hy)
      simp only [nodes, List.length_cons, sz, if_pos h4]
      omega
    · have : x.2.2 = [] := List.eq_nil_of_length_eq_zero (gx.2.2.2.2 h4)
      simp [nodes, this, sz, h4]

theorem chk_form {n : Nat} {x : Tm n} (h : chk n x = 0) : formedB n x = true := by
  rw [← tchk_chk] at h
  unfold tchk at h
  cases hf : formedB n x
  · simp [hf] at h
  · rfl

/-- What Put says. -/
def putE (n : Nat) (x : Tm n) (room : Int) (ws : List Wd) : Int := if chk n x ≠ 0 then chk n x else if closedT n x = false then 5 else if decide (sz n x ≤ room - ws.length) = false then 6 else 0
def PutOut (n : Nat) (x : Tm n) (base hp : Nat) (room : Int) (ws : List Wd) (nm : List ByteArray) (M : Nat → Prop) (w : World) (e : Ending) (w' : World) : Prop :=
  (putE n x room ws ≠ 0 → e = .returned (.tuple #[wdV (0, 0), .int .i64 (putE n x room ws)]) ∧ Below w.heap.size w w') ∧
  (putE n x room ws = 0 → (chk n x = 0 ∧ closedT n x = true ∧ sz n x ≤ room - ws.length) ∧ e = .returned (.tuple #[wdV (layF n x ws nm).1, .int .i64 0]) ∧ Laid base hp room (layF n x ws nm).2.1 (layF n x ws nm).2.2 M w w')

theorem hput_any (n : Nat) (x : Tm n) (base hp : Nat) (room : Int) (ws : List Wd) (nm : List ByteArray) (M : Nat → Prop) (w : World) (h : HpAt base hp room ws nm M w) (hx : In w.heap.size w n x) (ho : Off (fun b => ¬ M b) n x) (hN : (nodes n x).length ≤ 2097152) (hbw : base ≤ w.heap.size) (hr0 : 0 ≤ room) (hr : room ≤ 1000) (hw : ws.length ≤ 1000) (hn : nm.length ≤ 50000) :
    Calls Try.prog 16 #[.pointer (some ⟨hp, 0, none⟩), val n x] w (PutOut n x base hp room ws nm M w) := by
  cases n with
  | zero => exact hx.elim
  | succ n =>
  have HC : ∀ w1, Below w.heap.size w w1 → Calls Try.prog 51 #[val (n + 1) x] w1 fun e w' => e = .returned (.int .i64 (chk (n + 1) x)) ∧ Below w1.heap.size w1 w' := fun w1 h1 => tcheck_any (n + 1) x w.heap.size w1 (hx.below h1) h1.size hN
  have HL : ∀ w1, Below w.heap.size w w1 → Calls Try.prog 52 #[val (n + 1) x] w1 fun e w' => e = .returned (.bool (closedT (n + 1) x)) ∧ Below w1.heap.size w1 w' := fun w1 h1 => closed_any (n + 1) x w.heap.size w1 (hx.below h1) h1.size
  have HS : ∀ w1, Below w.heap.size w w1 → Calls Try.prog 54 #[val (n + 1) x] w1 fun e w' => e = .returned (.int .i64 (sz (n + 1) x)) ∧ Below w1.heap.size w1 w' := fun w1 h1 => tsize_any (n + 1) x w.heap.size w1 (hx.below h1) h1.size hN
  have HF : ∀ w1, Below w.heap.size w w1 → Calls Try.prog 53 #[.pointer (some ⟨hp, 0, none⟩), .int .i64 (sz (n + 1) x)] w1 fun e w' => e = .returned (.bool (decide (sz (n + 1) x ≤ room - ws.length))) ∧ Below w1.heap.size w1 w' := by
    intro w1 h1
    obtain ⟨tv, lv, mv, k1, k2, k3, _⟩ := h.later h1
    obtain ⟨ta, tc, rfl⟩ : ∃ ta tc, tv = .slice ta ws.length tc := by
      rcases k2.2 with ⟨e, e0⟩ | ⟨g, c, cur, e, _⟩
      · exact ⟨none, 0, by rw [e, e0]⟩
      · exact ⟨_, c, e⟩
    exact hasFree_any hp room (sz (n + 1) x) ta ws.length tc lv mv w1 (by omega) hr0 hr k1
  by_cases hc : chk (n + 1) x = 0
  · rw [hc] at HC
    by_cases hl : closedT (n + 1) x = false
    · rw [hl] at HL
      have e : putE (n + 1) x room ws = 5 := by simp [putE, hc, hl]
      refine (put_e2 hp x.1.1 x.1.2.1 x.1.2.2 x.2.1.1 x.2.2.length x.2.1.2 w HC HL).mono ?_
      rintro e' w' ⟨rfl, hb⟩
      exact ⟨fun _ => ⟨by rw [e]; rfl, hb⟩, fun h0 => absurd (e.symm.trans h0) (by decide)⟩
    · have hl' : closedT (n + 1) x = true := by simpa using hl
      rw [hl'] at HL
      by_cases hz : sz (n + 1) x ≤ room - ws.length
      · have hd : decide (sz (n + 1) x ≤ room - ws.length) = true := by simpa using hz
        rw [hd] at HF
        have e : putE (n + 1) x room ws = 0 := by simp [putE, hc, hl', hz]
        have hrx : RightA ⟨n + 1, x⟩ := right_formed.2 (chk_form hc)
        have hnl := nodes_le (n + 1) x hrx
        have HY : ∀ w1, Below w.heap.size w w1 → Calls Try.prog 55 #[.pointer (some ⟨hp, 0, none⟩), val (n + 1) x] w1 fun e w' => e = .returned (wdV (layF (n + 1) x ws nm).1) ∧ Hid (Laid base hp room (layF (n + 1) x ws nm).2.1 (layF (n + 1) x ws nm).2.2 (fun b => M b ∧ b < w.heap.size) w1 w') := by
          intro w1 h1
          have hs := h1.size
          exact lay_any (n + 1) x base hp room ws nm _ w1 (h.later h1) ((hx.below h1).mono hs) (ho.mono fun b hb hm => hb hm.1) (by omega) hrx (by omega) (by omega)
        refine (put_ok hp x.1.1 x.1.2.1 x.1.2.2 x.2.1.1 x.2.2.length x.2.1.2 w (sz (n + 1) x) (layF (n + 1) x ws nm).1 base room (layF (n + 1) x ws nm).2.1 (layF (n + 1) x ws nm).2.2 M HC HL HS HF HY).mono ?_
        rintro e' w' ⟨rfl, hb⟩
        exact ⟨fun h0 => absurd e h0, fun _ => ⟨⟨hc, hl', hz⟩, rfl, hb.out⟩⟩
      · have hd : decide (sz (n + 1) x ≤ room - ws.length) = false := by simpa using hz
        rw [hd] at HF
        have e : putE (n + 1) x room ws = 6 := by simp [putE, hc, hl', hz]
        refine (put_e3 hp x.1.1 x.1.2.1 x.1.2.2 x.2.1.1 x.2.2.length x.2.1.2 w (sz (n + 1) x) HC HL HS HF).mono ?_
        rintro e' w' ⟨rfl, hb⟩
        exact ⟨fun _ => ⟨by rw [e]; rfl, hb⟩, fun h0 => absurd (e.symm.trans h0) (by decide)⟩
  · have e : putE (n + 1) x room ws = chk (n + 1) x := by simp [putE, hc]
    refine (put_e1 hp x.1.1 x.1.2.1 x.1.2.2 x.2.1.1 x.2.2.length x.2.1.2 w (chk (n + 1) x) (by simpa using hc) HC).mono ?_
    rintro e' w' ⟨rfl, hb⟩
    exact ⟨fun _ => ⟨by rw [e]; rfl, hb⟩, fun h0 => absurd (e.symm.trans h0) hc⟩

/-- The boxes of a call of Get: the word, and the term that is told. -/
def GetBox (q : Nat) (k u : Int) (w : World) : Prop := w.heap[q]? = some (.cells #[.int .i64 k, .int .i64 u] 37) ∧ Box4 (q + 1) w
theorem get_box (w : World) (k u : Int) : GetBox w.heap.size k u ((w.alloc (Obj.cells #[.int .i64 k, .int .i64 u] 37)).alloc (Obj.cells #[.int .i64 0, .int .i64 0, .string ⟨#[]⟩, .slice none 0 0] 24)) := by
  refine ⟨((World.grownBy_alloc (w.alloc (Obj.cells #[.int .i64 k, .int .i64 u] 37)) (Obj.cells #[.int .i64 0, .int .i64 0, .string ⟨#[]⟩, .slice none 0 0] 24) none).block _ (by simp) (by simp)).trans (heap_alloc_new w _), ?_⟩
  have := heap_alloc_new (w.alloc (Obj.cells #[.int .i64 k, .int .i64 u] 37)) (Obj.cells #[.int .i64 0, .int .i64 0, .string ⟨#[]⟩, .slice none 0 0] 24)
  have es : ∀ o, (w.alloc o).heap.size = w.heap.size + 1 := fun o => by simp
  rw [es] at this
  exact this
theorem get_next {k u : Int} {w w1 w2 : World} (h : Below w.heap.size w w1 ∧ w.heap.size + 2 ≤ w1.heap.size ∧ GetBox w.heap.size k u w1) (hb : Below w1.heap.size w1 w2) : Below w.heap.size w w2 ∧ w.heap.size + 2 ≤ w2.heap.size ∧ GetBox w.heap.size k u w2 := by
  obtain ⟨h1, h2, h3⟩ := h
  have := hb.size
  exact ⟨h1.trans (hb.mono h1.size), by omega, (hb.block _ (by omega)).trans h3.1, (hb.block _ (by omega)).trans h3.2⟩
theorem GetBox.cells {q : Nat} {k u : Int} {w : World} (h : GetBox q k u w) : w.cell? ⟨q, 0, none⟩ = some (.int .i64 k) ∧ w.cell? ⟨q, 1, none⟩ = some (.int .i64 u) := by
  obtain ⟨h1, _⟩ := h
  refine ⟨?_, ?_⟩
  all_goals simp [World.cell?, h1]

set_option maxHeartbeats 1000000 in
set_option maxRecDepth 100000 in
theorem get_bad (hp : Nat) (k u : Int) (w : World) (HC : Hid (∀ w1, Below w.heap.size w w1 → Calls Try.prog 61 #[.pointer (some ⟨hp, 0, none⟩), .agg #[.int .i64 k, .int .i64 u]] w1 fun e w' => e = .returned (.bool false) ∧ Below w1.heap.size w1 w')) :
    Calls Try.prog 25 #[.pointer (some ⟨hp, 0, none⟩), .agg #[.int .i64 k, .int .i64 u]] w fun e w' => e = .returned (.tuple #[.agg #[.int .i64 0, .int .i64 0, .string .empty, .slice none 0 0], .int .i64 1]) ∧ Below w.heap.size w w' := by
  go_enter Try.func25, Try.ntmps25
  go_wp2_with fail
  generalize hw0 : (w.alloc (Obj.cells #[.int .i64 k, .int .i64 u] 37)).alloc (Obj.cells #[.int .i64 0, .int .i64 0, .string ⟨#[]⟩, .slice none 0 0] 24) = w0
  have H0 : Hid (Below w.heap.size w w0 ∧ w.heap.size + 2 ≤ w0.heap.size ∧ GetBox w.heap.size k u w0) := by
    subst hw0
    exact ⟨((Below.refl _ _).alloc (Nat.le_refl _) _).alloc (by simp) _, by simp, get_box _ _ _⟩
  clear hw0
  refine (HC.out _ H0.out.1).mono ?_
  rintro e w1 ⟨rfl, hb⟩
  have H1 := hide (get_next H0.out hb)
  obtain ⟨⟨q0, q1, q2, q3⟩, f0⟩ := H1.out.2.2.2.cells
  have HE := hide (fun v0 v1 v2 v3 => box_put H0.out.1 hb v0 v1 v2 v3)
  clear hb H0
  go_wp2_with fail
  exact bodyPost_ret (v := .tuple #[.agg #[.int .i64 0, .int .i64 0, .string .empty, .slice none 0 0], .int .i64 1]) (by simp [results, Try.results25, go_sem, q0, q1, q2, q3]; rfl) rfl ⟨rfl, HE.out _ _ _ _⟩

set_option maxHeartbeats 1000000 in
set_option maxRecDepth 100000 in
theorem get_ok (n : Nat) (x : Tm (n + 1)) (hp : Nat) (k u : Int) (w : World) (HC : Hid (∀ w1, Below w.heap.size w w1 → Calls Try.prog 61 #[.pointer (some ⟨hp, 0, none⟩), .agg #[.int .i64 k, .int .i64 u]] w1 fun e w' => e = .returned (.bool true) ∧ Below w1.heap.size w1 w'))
    (HT : Hid (∀ w1, Below w.heap.size w w1 → Calls Try.prog 62 #[.pointer (some ⟨hp, 0, none⟩), .agg #[.int .i64 k, .int .i64 u]] w1 fun e w' => ∃ y : Tm (n + 1), e = .returned (val (n + 1) y) ∧ Hid (Below w1.heap.size w1 w' ∧ In w'.heap.size w' (n + 1) y ∧ Off (fun q => w1.heap.size ≤ q) (n + 1) y ∧ same (n + 1) y (n + 1) x = true))) :
    Calls Try.prog 25 #[.pointer (some ⟨hp, 0, none⟩), .agg #[.int .i64 k, .int .i64 u]] w fun e w' => ∃ y : Tm (n + 1), e = .returned (.tuple #[val (n + 1) y, .int .i64 0]) ∧ Hid (Below w.heap.size w w' ∧ In w'.heap.size w' (n + 1) y ∧ Off (fun q => w.heap.size ≤ q) (n + 1) y ∧ same (n + 1) y (n + 1) x = true) := by
  go_enter Try.func25, Try.ntmps25
  go_wp2_with fail
  generalize hw0 : (w.alloc (Obj.cells #[.int .i64 k, .int .i64 u] 37)).alloc (Obj.cells #[.int .i64 0, .int .i64 0, .string ⟨#[]⟩, .slice none 0 0] 24) = w0
  have H0 : Hid (Below w.heap.size w w0 ∧ w.heap.size + 2 ≤ w0.heap.size ∧ GetBox w.heap.size k u w0) := by
    subst hw0
    exact ⟨((Below.refl _ _).alloc (Nat.le_refl _) _).alloc (by simp) _, by simp, get_box _ _ _⟩
  clear hw0
  refine (HC.out _ H0.out.1).mono ?_
  rintro e w1 ⟨rfl, hb⟩
  have H1 := hide (get_next H0.out hb)
  obtain ⟨t0, t1⟩ := H1.out.2.2.cells
  clear hb H0
  go_wp2_with fail
  refine (HT.out _ H1.out.1).mono ?_
  rintro e w2 ⟨y, rfl, HY⟩
  have H2 := hide (get_next H1.out HY.out.1)
  obtain ⟨⟨q0, q1, q2, q3⟩, f0⟩ := H2.out.2.2.2.cells
  have HE : Hid (∀ v0 v1 v2 v3, Below w.heap.size w (put4 w2 (w.heap.size + 1) 0 v0 v1 v2 v3) ∧ In (put4 w2 (w.heap.size + 1) 0 v0 v1 v2 v3).heap.size (put4 w2 (w.heap.size + 1) 0 v0 v1 v2 v3) (n + 1) y ∧ Off (fun q => w.heap.size ≤ q) (n + 1) y ∧ same (n + 1) y (n + 1) x = true) := by
    intro v0 v1 v2 v3
    obtain ⟨k1, k2, k3, k4⟩ := HY.out
    have hs := H1.out.2.1
    refine ⟨box_put H1.out.1 k1 v0 v1 v2 v3, ?_, k3.mono fun q hq => by omega, k4⟩
    rw [put4_size]
    exact In.off (fun q hq => put4_block (by omega) _ _ _ _) k3 k2
  have e3 : val (n + 1) y = .agg #[.int .i64 y.1.1, .int .i64 y.1.2.1, .string y.1.2.2, .slice y.2.1.1 y.2.2.length y.2.1.2] := rfl
  rw [e3]
  clear t0 t1 HY H1 e3
  go_wp2_with fail
  exact bodyPost_ret (v := .tuple #[val (n + 1) y, .int .i64 0]) (by simp [results, Try.results25, go_sem, q0, q1, q2, q3, val]) rfl ⟨y, rfl, HE.out _ _ _ _⟩
end Go.Proofs.Ytpehdgbdinjbaab
namespace Go.Proofs.Ytpehdgbdinjbaab
open Go.RowKit

theorem pre_at {α : Type} {l l' : List α} (h : l <+: l') {i : Nat} {x : α} (hx : l[i]? = some x) : l'[i]? = some x := by
  obtain ⟨r, rfl⟩ := h
  rw [List.getElem?_append_left (List.getElem?_eq_some_iff.1 hx).1]
  exact hx
theorem Stands.mono {ws ws' : List Wd} {nm nm' : List ByteArray} (h1 : ws <+: ws') (h2 : nm <+: nm') : {n : Nat} → {x : Tm n} → {v : Wd} → Stands ws nm n x v → Stands ws' nm' n x v
  | 0, _, _, h => h
  | n + 1, x, v, h => by
    obtain ⟨a, b, c⟩ := h
    refine ⟨fun e => ?_, fun e => ?_, c⟩
    · obtain ⟨i, e1, e2⟩ := a e
      exact ⟨i, e1, pre_at h2 e2⟩
    · obtain ⟨p, e1, e2, e3, e4⟩ := b e
      refine ⟨p, e1, pre_at h1 e2, Nat.le_trans e3 h1.length_le, fun i y hy => ?_⟩
      obtain ⟨u, e5, e6⟩ := e4 i y hy
      exact ⟨u, pre_at h1 e5, e6.mono h1 h2⟩

theorem nmPut_pre (nm : List ByteArray) (s : ByteArray) : nm <+: nmPut nm s := by
  unfold nmPut
  split
  · exact List.prefix_refl _
  · exact List.prefix_append _ _
theorem layL_pre {n : Nat} (h : ∀ (x : Tm n) (ws : List Wd) (nm : List ByteArray), ws <+: (layF n x ws nm).2.1 ∧ nm <+: (layF n x ws nm).2.2) (l : List (Tm n)) (ws : List Wd) (nm : List ByteArray) : ws <+: (layL (layF n) l ws nm).2.1 ∧ nm <+: (layL (layF n) l ws nm).2.2 := by
  induction l generalizing ws nm with
  | nil => exact ⟨List.prefix_refl _, List.prefix_refl _⟩
  | cons y l ih =>
    obtain ⟨a, b⟩ := h y ws nm
    obtain ⟨c, d⟩ := ih (layF n y ws nm).2.1 (layF n y ws nm).2.2
    exact ⟨a.trans c, b.trans d⟩
theorem layF_pre : (n : Nat) → (x : Tm n) → (ws : List Wd) → (nm : List ByteArray) → ws <+: (layF n x ws nm).2.1 ∧ nm <+: (layF n x ws nm).2.2
  | 0, _, _, _ => ⟨List.prefix_refl _, List.prefix_refl _⟩
  | n + 1, x, ws, nm => by
    by_cases h2 : x.1.1 = 2
    · simp only [layF, if_pos h2]
      exact ⟨List.prefix_refl _, nmPut_pre _ _⟩
    · by_cases h4 : x.1.1 = 4
      · simp only [layF, if_neg h2, if_pos h4]
        obtain ⟨a, b⟩ := layL_pre (layF_pre n) x.2.2 ws nm
        exact ⟨a.trans (List.prefix_append _ _), b⟩
      · simp only [layF, if_neg h2, if_neg h4]
        exact ⟨List.prefix_refl _, List.prefix_refl _⟩

theorem nmPut_at (nm : List ByteArray) (s : ByteArray) : (nmPut nm s)[nmIdx (nmPut nm s) s]? = some s := by
  have hm : s ∈ nmPut nm s := by
    unfold nmPut
    split
    · rename_i h
      exact (nm_any nm s).1 h
    · simp
  have hlt : nmIdx (nmPut nm s) s < (nmPut nm s).length := by
    unfold nmIdx
    rw [List.findIdx_lt_length]
    exact ⟨s, hm, (eqN_iff s s).2 rfl⟩
  have he : (nmPut nm s)[nmIdx (nmPut nm s) s]'hlt = s := (eqN_iff s _).1 (List.findIdx_getElem (w := hlt))
  rw [List.getElem?_eq_getElem hlt, he]
theorem layL_stands {n : Nat} (h : ∀ (x : Tm n) (ws : List Wd) (nm : List ByteArray), RightA ⟨n, x⟩ → Stands (layF n x ws nm).2.1 (layF n x ws nm).2.2 n x (layF n x ws nm).1) (l : List (Tm n)) (ws : List Wd) (nm : List ByteArray) (hr : ∀ y ∈ l, RightA ⟨n, y⟩) :
    ∀ (i : Nat) (y : Tm n), l[i]? = some y → ∃ u, (layL (layF n) l ws nm).1[i]? = some u ∧ Stands (layL (layF n) l ws nm).2.1 (layL (layF n) l ws nm).2.2 n y u := by
  induction l generalizing ws nm with
  | nil => intro i y hy; simp at hy
  | cons z l ih =>
    intro i y hy
    cases i with
    | zero =>
      simp at hy
      subst hy
      obtain ⟨a, b⟩ := layL_pre (layF_pre n) l (layF n z ws nm).2.1 (layF n z ws nm).2.2
      exact ⟨(layF n z ws nm).1, rfl, (h z ws nm (hr z (by simp))).mono a b⟩
    | succ i =>
      obtain ⟨u, e1, e2⟩ := ih (layF n z ws nm).2.1 (layF n z ws nm).2.2 (fun y hy => hr y (by simp [hy])) i y (by simpa using hy)
      exact ⟨u, by simpa [layL] using e1, e2⟩
theorem layF_stands : (n : Nat) → (x : Tm n) → (ws : List Wd) → (nm : List ByteArray) → RightA ⟨n, x⟩ → Stands (layF n x ws nm).2.1 (layF n x ws nm).2.2 n x (layF n x ws nm).1
  | 0, _, _, _, h => (zero_bad h).elim
  | n + 1, x, ws, nm, h => by
    by_cases h2 : x.1.1 = 2
    · have h4 : ¬ x.1.1 = 4 := by omega
      simp only [layF, if_pos h2]
      exact ⟨fun _ => ⟨_, rfl, nmPut_at _ _⟩, fun e => absurd e h4, fun e => absurd h2 e⟩
    · by_cases h4 : x.1.1 = 4
      · simp only [layF, if_neg h2, if_pos h4]
        have hl := layL_length (layF n) x.2.2 ws nm
        refine ⟨fun e => absurd e h2, fun _ => ⟨_, rfl, ?_, ?_, fun i y hy => ?_⟩, fun _ e => absurd h4 e⟩
        · rw [List.getElem?_append_right (Nat.le_refl _), Nat.sub_self]
          rfl
        · simp only [List.length_append, List.length_cons, hl]
          omega
        · obtain ⟨u, e1, e2⟩ := layL_stands (layF_stands n) x.2.2 ws nm (fun y hy => parts_right n x y h hy) i y hy
          refine ⟨u, ?_, e2.mono (List.prefix_append _ _) (List.prefix_refl _)⟩
          rw [List.getElem?_append_right (by omega)]
          have : (layL (layF n) x.2.2 ws nm).2.1.length + 1 + i - (layL (layF n) x.2.2 ws nm).2.1.length = i + 1 := by omega
          rw [this]
          simpa using e1
      · simp only [layF, if_neg h2, if_neg h4]
        exact ⟨fun e => absurd e h2, fun e => absurd e h4, fun _ _ => rfl⟩
end Go.Proofs.Ytpehdgbdinjbaab
namespace Go.Proofs.Ytpehdgbdinjbaab
open Go.RowKit

def JBox (q : Nat) (w : World) : Prop := w.heap[q]? = some (.cells #[.int .i64 0, .int .i64 0] 37)
theorem JBox.facts {q : Nat} {w : World} (h : JBox q w) : (w.cell? ⟨q, 0, none⟩ = some (.int .i64 0) ∧ w.cell? ⟨q, 1, none⟩ = some (.int .i64 0)) ∧ w.frozen? ⟨q, 0, none⟩ = false ∧ w.frozen? ⟨q, 1, none⟩ = false := by
  unfold JBox at h
  refine ⟨⟨?_, ?_⟩, ?_, ?_⟩
  all_goals simp [World.cell?, World.frozen?, h]
theorem join_next {w w1 w2 : World} (h : Below w.heap.size w w1 ∧ w.heap.size < w1.heap.size ∧ JBox w.heap.size w1) (hb : Below w1.heap.size w1 w2) : Below w.heap.size w w2 ∧ w.heap.size < w2.heap.size ∧ JBox w.heap.size w2 := by
  obtain ⟨h1, h2, h3⟩ := h
  have := hb.size
  exact ⟨h1.trans (hb.mono h1.size), by omega, (hb.block _ (by omega)).trans h3⟩
theorem join_below {w w1 : World} (h : Below w.heap.size w w1 ∧ w.heap.size < w1.heap.size ∧ JBox w.heap.size w1) (v0 v1 : Value) : Below w.heap.size w ((w1.setCell ⟨w.heap.size, 0, none⟩ v0).setCell ⟨w.heap.size, 1, none⟩ v1) := by
  obtain ⟨h1, h2, h3⟩ := h
  have k1 := keep_set w1 w.heap.size 0 v0
  have k2 := keep_set (w1.setCell ⟨w.heap.size, 0, none⟩ v0) w.heap.size 1 v1
  have k3 := (keep_below h1 (fun b => b = w.heap.size)).trans (k1.trans k2 (fun b _ h => h)) (fun b _ h => h)
  exact ⟨k3.os, k3.tape, k3.output, k3.size, fun b hb => k3.block b hb (by omega)⟩
theorem laid_box0 {base hp : Nat} {room : Int} {ws : List Wd} {nm : List ByteArray} {M : Nat → Prop} {w wA w2 : World} (h : Laid base hp room ws nm (fun b => M b ∧ b < w.heap.size) wA w2) (hA : Below w.heap.size w wA) (hs : w.heap.size < wA.heap.size) (v0 v1 : Value) :
    Laid base hp room ws nm M w ((w2.setCell ⟨w.heap.size, 0, none⟩ v0).setCell ⟨w.heap.size, 1, none⟩ v1) := by
  obtain ⟨h1, h2⟩ := h
  have k1 := keep_set w2 w.heap.size 0 v0
  have k2 := keep_set (w2.setCell ⟨w.heap.size, 0, none⟩ v0) w.heap.size 1 v1
  have k3 := k1.trans k2 (fun b _ h => h)
  refine ⟨(h1.kept k3 ?_).mono ?_, ?_⟩
  · rintro b (⟨_, hb⟩ | hb) _ e <;> omega
  · rintro b (⟨hm, _⟩ | hb)
    · exact Or.inl hm
    · exact Or.inr (by omega)
  · refine ((keep_below hA M).trans h2 ?_).trans k3 ?_
    · exact fun b _ h => h.1
    · intro b hb h
      omega

set_option maxHeartbeats 1000000 in
set_option maxRecDepth 100000 in
theorem join_e0 (hp : Nat) (a : Option Addr) (len pc : Nat) (w : World) (h8 : decide ((8 : Int) < (len : Int)) = true) :
    Calls Try.prog 19 #[.pointer (some ⟨hp, 0, none⟩), .slice a len pc] w fun e w' => e = .returned (.tuple #[.agg #[.int .i64 0, .int .i64 0], .int .i64 1]) ∧ Below w.heap.size w w' := by
  go_enter Try.func19, Try.ntmps19
  go_wp2_with fail
  exact bodyPost_ret (v := .tuple #[.agg #[.int .i64 0, .int .i64 0], .int .i64 1]) (by simp [results, Try.results19, go_sem]) rfl ⟨rfl, by go_grown⟩

set_option maxHeartbeats 1000000 in
set_option maxRecDepth 100000 in
theorem join_e1 (hp : Nat) (a : Option Addr) (len pc : Nat) (w : World) (h8 : decide ((8 : Int) < (len : Int)) = false)
    (HA : Hid (∀ w1, Below w.heap.size w w1 → Calls Try.prog 56 #[.pointer (some ⟨hp, 0, none⟩), .slice a len pc] w1 fun e w' => e = .returned (.bool false) ∧ Below w1.heap.size w1 w')) :
    Calls Try.prog 19 #[.pointer (some ⟨hp, 0, none⟩), .slice a len pc] w fun e w' => e = .returned (.tuple #[.agg #[.int .i64 0, .int .i64 0], .int .i64 1]) ∧ Below w.heap.size w w' := by
  go_enter Try.func19, Try.ntmps19
  go_wp2_with fail
  generalize hw0 : w.alloc (Obj.cells #[.int .i64 0, .int .i64 0] 37) = w0
  have H0 : Hid (Below w.heap.size w w0 ∧ w.heap.size < w0.heap.size ∧ JBox w.heap.size w0) := by
    subst hw0
    exact ⟨(Below.refl _ _).alloc (Nat.le_refl _) _, by simp, heap_alloc_new w _⟩
  clear hw0
  refine (HA.out _ H0.out.1).mono ?_
  rintro e w1 ⟨rfl, hb⟩
  have H1 := hide (join_next H0.out hb)
  obtain ⟨⟨r0, r1⟩, f0, f1⟩ := H1.out.2.2.facts
  clear hb H0
  go_wp2_with fail
  exact bodyPost_ret (v := .tuple #[.agg #[.int .i64 0, .int .i64 0], .int .i64 1]) (by simp [results, Try.results19, go_sem, r0, r1]) rfl ⟨rfl, join_below H1.out _ _⟩

set_option maxHeartbeats 1000000 in
set_option maxRecDepth 100000 in
theorem join_e2 (hp : Nat) (a : Option Addr) (len pc : Nat) (w : World) (h8 : decide ((8 : Int) < (len : Int)) = false) (hlen : len ≤ 8)
    (HA : Hid (∀ w1, Below w.heap.size w w1 → Calls Try.prog 56 #[.pointer (some ⟨hp, 0, none⟩), .slice a len pc] w1 fun e w' => e = .returned (.bool true) ∧ Below w1.heap.size w1 w'))
    (HF : Hid (∀ w1, Below w.heap.size w w1 → Calls Try.prog 53 #[.pointer (some ⟨hp, 0, none⟩), .int .i64 (1 + (len : Int))] w1 fun e w' => e = .returned (.bool false) ∧ Below w1.heap.size w1 w')) :
    Calls Try.prog 19 #[.pointer (some ⟨hp, 0, none⟩), .slice a len pc] w fun e w' => e = .returned (.tuple #[.agg #[.int .i64 0, .int .i64 0], .int .i64 6]) ∧ Below w.heap.size w w' := by
  go_enter Try.func19, Try.ntmps19
  go_wp2_with fail
  generalize hw0 : w.alloc (Obj.cells #[.int .i64 0, .int .i64 0] 37) = w0
  have H0 : Hid (Below w.heap.size w w0 ∧ w.heap.size < w0.heap.size ∧ JBox w.heap.size w0) := by
    subst hw0
    exact ⟨(Below.refl _ _).alloc (Nat.le_refl _) _, by simp, heap_alloc_new w _⟩
  clear hw0
  refine (HA.out _ H0.out.1).mono ?_
  rintro e w1 ⟨rfl, hb⟩
  have H1 := hide (join_next H0.out hb)
  obtain ⟨⟨r0, r1⟩, f0, f1⟩ := H1.out.2.2.facts
  clear hb H0
  go_wp2_with fail
  clear r0 r1 f0 f1
  refine (HF.out _ H1.out.1).mono ?_
  rintro e w2 ⟨rfl, hb⟩
  have H2 := hide (join_next H1.out hb)
  obtain ⟨⟨r0, r1⟩, f0, f1⟩ := H2.out.2.2.facts
  clear hb H1
  go_wp2_with fail
  exact bodyPost_ret (v := .tuple #[.agg #[.int .i64 0, .int .i64 0], .int .i64 6]) (by simp [results, Try.results19, go_sem, r0, r1]) rfl ⟨rfl, join_below H2.out _ _⟩

set_option maxHeartbeats 1000000 in
set_option maxRecDepth 100000 in
theorem join_e3 (hp : Nat) (a : Option Addr) (len pc : Nat) (w : World) (h8 : decide ((8 : Int) < (len : Int)) = false) (hlen : len ≤ 8) (ce : Int) (hce : (ce != 0) = true)
    (HA : Hid (∀ w1, Below w.heap.size w w1 → Calls Try.prog 56 #[.pointer (some ⟨hp, 0, none⟩), .slice a len pc] w1 fun e w' => e = .returned (.bool true) ∧ Below w1.heap.size w1 w'))
    (HF : Hid (∀ w1, Below w.heap.size w w1 → Calls Try.prog 53 #[.pointer (some ⟨hp, 0, none⟩), .int .i64 (1 + (len : Int))] w1 fun e w' => e = .returned (.bool true) ∧ Below w1.heap.size w1 w'))
    (HT : Hid (∀ w1, Below w.heap.size w w1 → Calls Try.prog 57 #[.pointer (some ⟨hp, 0, none⟩), .slice a len pc] w1 fun e w' => ∃ a' c', e = .returned (.agg #[.int .i64 4, .int .i64 0, .string .empty, .slice a' len c']) ∧ Hid (Below w1.heap.size w1 w' ∧ Calls Try.prog 51 #[.agg #[.int .i64 4, .int .i64 0, .string .empty, .slice a' len c']] w' fun e w2 => e = .returned (.int .i64 ce) ∧ Below w'.heap.size w' w2))) :
    Calls Try.prog 19 #[.pointer (some ⟨hp, 0, none⟩), .slice a len pc] w fun e w' => e = .returned (.tuple #[.agg #[.int .i64 0, .int .i64 0], .int .i64 ce]) ∧ Below w.heap.size w w' := by
  go_enter Try.func19, Try.ntmps19
  go_wp2_with fail
  generalize hw0 : w.alloc (Obj.cells #[.int .i64 0, .int .i64 0] 37) = w0
  have H0 : Hid (Below w.heap.size w w0 ∧ w.heap.size < w0.heap.size ∧ JBox w.heap.size w0) := by
    subst hw0
    exact ⟨(Below.refl _ _).alloc (Nat.le_refl _) _, by simp, heap_alloc_new w _⟩
  clear hw0
  refine (HA.out _ H0.out.1).mono ?_
  rintro e w1 ⟨rfl, hb⟩
  have H1 := hide (join_next H0.out hb)
  obtain ⟨⟨r0, r1⟩, f0, f1⟩ := H1.out.2.2.facts
  clear hb H0
  go_wp2_with fail
  clear r0 r1 f0 f1
  refine (HF.out _ H1.out.1).mono ?_
  rintro e w2 ⟨rfl, hb⟩
  have H2 := hide (join_next H1.out hb)
  obtain ⟨⟨r0, r1⟩, f0, f1⟩ := H2.out.2.2.facts
  clear hb H1
  go_wp2_with fail
  clear r0 r1 f0 f1
  refine (HT.out _ H2.out.1).mono ?_
  rintro e w3 ⟨a', c', rfl, hb⟩
  have H3 := hide (join_next H2.out hb.out.1)
  have HK := hide hb.out.2
  clear hb H2
  go_wp2_with fail
  refine HK.out.mono ?_
  rintro e w4 ⟨rfl, hb⟩
  have H4 := hide (join_next H3.out hb)
  obtain ⟨⟨r0, r1⟩, f0, f1⟩ := H4.out.2.2.facts
  clear hb H3 HK
  go_wp2_with fail
  exact bodyPost_ret (v := .tuple #[.agg #[.int .i64 0, .int .i64 0], .int .i64 ce]) (by simp [results, Try.results19, go_sem, r0, r1]) rfl ⟨rfl, join_below H4.out _ _⟩

set_option maxHeartbeats 1000000 in
set_option maxRecDepth 100000 in
theorem join_ok (hp : Nat) (a : Option Addr) (len pc : Nat) (w : World) (h8 : decide ((8 : Int) < (len : Int)) = false) (hlen : len ≤ 8) (V : Wd) (base : Nat) (room : Int) (ws : List Wd) (nm : List ByteArray) (M : Nat → Prop)
    (HA : Hid (∀ w1, Below w.heap.size w w1 → Calls Try.prog 56 #[.pointer (some ⟨hp, 0, none⟩), .slice a len pc] w1 fun e w' => e = .returned (.bool true) ∧ Below w1.heap.size w1 w'))
    (HF : Hid (∀ w1, Below w.heap.size w w1 → Calls Try.prog 53 #[.pointer (some ⟨hp, 0, none⟩), .int .i64 (1 + (len : Int))] w1 fun e w' => e = .returned (.bool true) ∧ Below w1.heap.size w1 w'))
    (HT : Hid (∀ w1, Below w.heap.size w w1 → Calls Try.prog 57 #[.pointer (some ⟨hp, 0, none⟩), .slice a len pc] w1 fun e w' => ∃ a' c', e = .returned (.agg #[.int .i64 4, .int .i64 0, .string .empty, .slice a' len c']) ∧ Hid (Below w1.heap.size w1 w' ∧ Calls Try.prog 51 #[.agg #[.int .i64 4, .int .i64 0, .string .empty, .slice a' len c']] w' fun e w2 => e = .returned (.int .i64 0) ∧ Below w'.heap.size w' w2)))
    (HY : Hid (∀ w1, Below w.heap.size w w1 → Calls Try.prog 58 #[.pointer (some ⟨hp, 1, none⟩), .slice a len pc] w1 fun e w' => e = .returned (.agg #[.int .i64 V.1, .int .i64 V.2]) ∧ Hid (Laid base hp room ws nm (fun b => M b ∧ b < w.heap.size) w1 w'))) :
    Calls Try.prog 19 #[.pointer (some ⟨hp, 0, none⟩), .slice a len pc] w fun e w' => e = .returned (.tuple #[.agg #[.int .i64 V.1, .int .i64 V.2], .int .i64 0]) ∧ Hid (Laid base hp room ws nm M w w') := by
  go_enter Try.func19, Try.ntmps19
  go_wp2_with fail
  generalize hw0 : w.alloc (Obj.cells #[.int .i64 0, .int .i64 0] 37) = w0
  have H0 : Hid (Below w.heap.size w w0 ∧ w.heap.size < w0.heap.size ∧ JBox w.heap.size w0) := by
    subst hw0
    exact ⟨(Below.refl _ _).alloc (Nat.le_refl _) _, by simp, heap_alloc_new w _⟩
  clear hw0
  refine (HA.out _ H0.out.1).mono ?_
  rintro e w1 ⟨rfl, hb⟩
  have H1 := hide (join_next H0.out hb)
  obtain ⟨⟨r0, r1⟩, f0, f1⟩ := H1.out.2.2.facts
  clear hb H0
  go_wp2_with fail
  clear r0 r1 f0 f1
  refine (HF.out _ H1.out.1).mono ?_
  rintro e w2 ⟨rfl, hb⟩
  have H2 := hide (join_next H1.out hb)
  obtain ⟨⟨r0, r1⟩, f0, f1⟩ := H2.out.2.2.facts
  clear hb H1
  go_wp2_with fail
  clear r0 r1 f0 f1
  refine (HT.out _ H2.out.1).mono ?_
  rintro e w3 ⟨a', c', rfl, hb⟩
  have H3 := hide (join_next H2.out hb.out.1)
  have HK := hide hb.out.2
  clear hb H2
  go_wp2_with fail
  refine HK.out.mono ?_
  rintro e w4 ⟨rfl, hb⟩
  have H4 := hide (join_next H3.out hb)
  obtain ⟨⟨r0, r1⟩, f0, f1⟩ := H4.out.2.2.facts
  clear hb H3 HK
  go_wp2_with fail
  refine (HY.out _ H4.out.1).mono ?_
  rintro e w5 ⟨rfl, HLD⟩
  have hcc := laid_cells HLD.out
  have d0 := (hcc w.heap.size (Nat.le_refl _) H4.out.2.1 0).1.trans r0
  have d1 := (hcc w.heap.size (Nat.le_refl _) H4.out.2.1 1).1.trans r1
  have g0 := (hcc w.heap.size (Nat.le_refl _) H4.out.2.1 0).2.trans f0
  have g1 := (hcc w.heap.size (Nat.le_refl _) H4.out.2.1 1).2.trans f1
  have HE := hide (laid_box0 HLD.out H4.out.1 H4.out.2.1 (.int .i64 V.1) (.int .i64 V.2))
  clear hcc r0 r1 f0 f1 HLD
  go_wp2_with fail
  exact bodyPost_ret (v := .tuple #[.agg #[.int .i64 V.1, .int .i64 V.2], .int .i64 0]) (by simp [results, Try.results19, go_sem, d0, d1]) rfl ⟨rfl, HE.out⟩
end Go.Proofs.Ytpehdgbdinjbaab
