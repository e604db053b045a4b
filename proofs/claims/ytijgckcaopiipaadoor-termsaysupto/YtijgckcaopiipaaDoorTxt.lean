/- What is proved here: the document's Text of a term that lies in memory returns the plain function rtext of it, and turns no memory that was there. Conditions: it holds at most 2097152 terms and letters; the library's table of powers lies as its text lays it. -/
import Derived.Test.YtijgckcaopiipaaDoorWriAny
namespace Go.Proofs.YtijgckcaopiipaaDoor
open Go.RowKit

/-- What the document's Text says. -/
def rtext : (n : Nat) → Tm n → List UInt8
  | 0, _ => []
  | n + 1, x =>
    if x.1.1 = 1 then Lib.itoa x.1.2.1 else if x.1.1 = 2 then x.1.2.2.data.toList else if x.1.1 = 3 then 35 :: Lib.itoa x.1.2.1
    else if x.1.1 = 5 then 36 :: Lib.itoa x.1.2.1 else if x.1.1 = 6 then [95] else 40 :: jn (x.2.2.map fun y => rtext n y) ++ [41]
theorem rtext_len : (n : Nat) → (x : Tm n) → (B : Nat) → (w : World) → In B w n x → (rtext n x).length + 1 ≤ 24 * wt n x
  | 0, _, _, _, h => h.elim
  | n + 1, x, B, w, h => by
    have hl := jn_len n (fun y => rtext n y) x.2.2 (fun y hy => rtext_len n y B w (in_kid h hy))
    have hu : I64 x.1.2.1 := h.1.2.1
    obtain ⟨⟨k, u, s⟩, ⟨a, c⟩, p⟩ := x
    have hi := Lib.itoa_length_le u hu.1 hu.2
    have hs : s.data.toList.length = s.size := by rw [Array.length_toList]; rfl
    simp only at hl
    show (if k = 1 then Lib.itoa u else if k = 2 then s.data.toList else if k = 3 then 35 :: Lib.itoa u
      else if k = 5 then 36 :: Lib.itoa u else if k = 6 then [95] else 40 :: jn (p.map fun y => rtext n y) ++ [41]).length + 1 ≤ 24 * (1 + s.size + (p.map fun y => wt n y).sum)
    repeat' split
    all_goals (try simp only [List.length_cons, List.length_append, List.length_nil])
    all_goals omega

theorem bytes_append (a b : ByteArray) : (a ++ b).data.toList = a.data.toList ++ b.data.toList := by simp [ByteArray.data_append]

def FTxt (n : Nat) : Prop := ∀ (x : Tm n) (B : Nat) (w : World), In B w n x → B ≤ w.heap.size → Tab w.heap.size w → wt n x ≤ 2097152 →
  Calls Tryd.prog 5 #[val n x] w fun e w' => ∃ r : ByteArray, e = .returned (.string r) ∧ Hid (r.data.toList = rtext n x ∧ Below w.heap.size w w')

theorem text_num (k u : Int) (s : ByteArray) (a : Option Addr) (n c : Nat) (w : World) (hu : I64 u) (ht : Tab w.heap.size w) (c8 : UInt8) (hk : (k = 3 ∧ c8 = 35) ∨ (k = 5 ∧ c8 = 36)) :
    Calls Tryd.prog 5 #[.agg #[.int .i64 k, .int .i64 u, .string s, .slice a n c]] w fun e w' => ∃ r : ByteArray, e = .returned (.string r) ∧ Hid (r.data.toList = c8 :: Lib.itoa u ∧ Below w.heap.size w w') := by
  have hi := Lib.itoa_length_le u hu.1 hu.2
  have HT := hide ht
  have HU := hide hu
  clear ht hu
  rcases hk with ⟨rfl, rfl⟩ | ⟨rfl, rfl⟩
  all_goals
    go_enter Tryd.func5, Tryd.ntmps5
    go_wp2_with fail
    refine (itoa_any u HU.out.1 HU.out.2 w.heap.size _ (HT.out.on ((Below.refl _ _).alloc (Nat.le_refl _) _))).mono ?_
    rintro e w2 ⟨rfl, hb2⟩
    have HB2 : Hid (Below w.heap.size w w2) := ((Below.refl _ _).alloc (Nat.le_refl _) _).trans (hb2.mono (by simp))
    clear hb2
    go_wp2_with fail
    go_ret
    exact ⟨_, rfl, by simp, HB2.out⟩

theorem text_int (u : Int) (s : ByteArray) (a : Option Addr) (n c : Nat) (w : World) (hu : I64 u) (ht : Tab w.heap.size w) :
    Calls Tryd.prog 5 #[.agg #[.int .i64 1, .int .i64 u, .string s, .slice a n c]] w fun e w' => ∃ r : ByteArray, e = .returned (.string r) ∧ Hid (r.data.toList = Lib.itoa u ∧ Below w.heap.size w w') := by
  have HT := hide ht
  have HU := hide hu
  clear ht hu
  go_enter Tryd.func5, Tryd.ntmps5
  go_wp2_with fail
  refine (itoa_any u HU.out.1 HU.out.2 w.heap.size _ (HT.out.on ((Below.refl _ _).alloc (Nat.le_refl _) _))).mono ?_
  rintro e w2 ⟨rfl, hb2⟩
  have HB2 : Hid (Below w.heap.size w w2) := ((Below.refl _ _).alloc (Nat.le_refl _) _).trans (hb2.mono (by simp))
  clear hb2
  go_wp2_with fail
  go_ret
  exact ⟨_, rfl, by simp, HB2.out⟩

theorem text_name (u : Int) (s : ByteArray) (a : Option Addr) (n c : Nat) (w : World) :
    Calls Tryd.prog 5 #[.agg #[.int .i64 2, .int .i64 u, .string s, .slice a n c]] w fun e w' => ∃ r : ByteArray, e = .returned (.string r) ∧ Hid (r.data.toList = s.data.toList ∧ Below w.heap.size w w') := by
  go_enter Tryd.func5, Tryd.ntmps5
  go_wp2_with fail
  go_ret
  exact ⟨_, rfl, rfl, (Below.refl _ _).alloc (Nat.le_refl _) _⟩
theorem text_wild (u : Int) (s : ByteArray) (a : Option Addr) (n c : Nat) (w : World) :
    Calls Tryd.prog 5 #[.agg #[.int .i64 6, .int .i64 u, .string s, .slice a n c]] w fun e w' => ∃ r : ByteArray, e = .returned (.string r) ∧ Hid (r.data.toList = [95] ∧ Below w.heap.size w w') := by
  go_enter Tryd.func5, Tryd.ntmps5
  go_wp2_with fail
  go_ret
  exact ⟨_, rfl, rfl, (Below.refl _ _).alloc (Nat.le_refl _) _⟩

def rjTo (n : Nat) (p : List (Tm n)) (k : Nat) : List UInt8 := jn ((p.take k).map fun y => rtext n y)
theorem rjTo_succ (n : Nat) (p : List (Tm n)) (k : Nat) (x : Tm n) (h : p[k]? = some x) : rjTo n p (k + 1) = if k = 0 then rtext n x else rjTo n p k ++ 32 :: rtext n x := by
  obtain ⟨h1, e1⟩ := List.getElem?_eq_some_iff.1 h
  unfold rjTo
  rw [List.take_succ_eq_append_getElem h1, e1, List.map_append, List.map_cons, List.map_nil, jn_snoc]
  by_cases hk : k = 0
  · subst hk; simp
  · rw [if_neg hk, if_neg]
    intro e
    have := congrArg List.length e
    rw [List.length_map, List.length_take, List.length_nil] at this
    omega
theorem rjTo_len (n : Nat) (p : List (Tm n)) (k : Nat) (h : ∀ y ∈ p, (rtext n y).length + 1 ≤ 24 * wt n y) : (rjTo n p k).length ≤ 24 * ((p.take k).map fun y => wt n y).sum :=
  jn_len n (fun y => rtext n y) (p.take k) (fun y hy => h y (List.mem_of_mem_take hy))

theorem size_toList (r : ByteArray) : r.data.toList.length = r.size := by rw [Array.length_toList]; rfl

set_option maxHeartbeats 1000000 in
theorem text_tup (n : Nat) (ih : FTxt n) (k0 u0 : Int) (s : ByteArray) (a : Option Addr) (pc len : Nat) (p : List (Tm n)) (hpl : Hid (p.length = len)) (B : Nat) (w : World) (k1 : (k0 == 1) = false) (k2 : (k0 == 2) = false) (k3 : (k0 == 3) = false) (k5 : (k0 == 5) = false) (k6 : (k0 == 6) = false)
    (hp : Hid (p = [] ∨ ∃ b o, a = some ⟨b, o, none⟩ ∧ b < B ∧ ∀ (i : Nat) (y : Tm n), p[i]? = some y → Held w b (o + i * 4) n y ∧ In B w n y))
    (hlen : len ≤ 9223372036854775807) (hB : B ≤ w.heap.size) (ht : Tab w.heap.size w) (hsum : (p.map fun y => wt n y).sum ≤ 2097152) :
    Calls Tryd.prog 5 #[.agg #[.int .i64 k0, .int .i64 u0, .string s, .slice a len pc]] w fun e w' => ∃ r : ByteArray, e = .returned (.string r) ∧ Hid (r.data.toList = 40 :: jn (p.map fun y => rtext n y) ++ [41] ∧ Below w.heap.size w w') := by
  have HLE : Hid (∀ k, (rjTo n p k).length ≤ 24 * ((p.take k).map fun y => wt n y).sum) := fun k => rjTo_len n p k (fun y hy => by
    rcases hp.out with hp | ⟨pb, po, _, _, hp⟩
    · rw [hp] at hy; cases hy
    · obtain ⟨i, hi⟩ := List.getElem?_of_mem hy
      exact rtext_len n y B w (hp i y hi).2)
  have HSUM := hide hsum
  have HT := hide ht
  clear ht hsum
  go_enter Tryd.func5, Tryd.ntmps5
  go_wp2_with fail
  go_loopw [3, 4] (fun o i wr => ∃ k : Nat, ∃ r : ByteArray, k ≤ len ∧ i = .int .i64 k ∧ o = .string r ∧ Hid (r.data.toList = 40 :: rjTo n p k) ∧ Below w.heap.size w wr ∧ w.heap.size + 1 ≤ wr.heap.size ∧ wr.cell? ⟨w.heap.size, 3, none⟩ = some (.slice a len pc)) (fun _ i _ => len - (intOf i).toNat)
  case atStart => exact ⟨0, _, by omega, rfl, rfl, rfl, (Below.refl _ _).alloc (Nat.le_refl _) _, by simp, by simp [go_sem]⟩
  case round =>
    obtain ⟨k, r, hk, rfl, rfl, HR, hb, hwr, ha0⟩ := hrel
    have hrs : r.size ≤ 50331650 := by
      have h1 := HLE.out k
      have h2 := wt_take n p k
      have h3 := HSUM.out
      rw [← size_toList, HR.out, List.length_cons]
      omega
    by_cases hlt : k < len
    · obtain ⟨x, hx⟩ : ∃ x, p[k]? = some x := ⟨p[k]'(by rw [hpl.out]; exact hlt), List.getElem?_eq_getElem _⟩
      have HS := hide (rjTo_succ n p k x hx)
      have hxw : wt n x ≤ 2097152 := by have h1 := wt_take_succ n p k x hx; have h2 := HSUM.out; omega
      rcases hp.out with hp | ⟨pb, po, rfl, hpb, hp⟩
      · subst hp; simp at hx
      obtain ⟨hx1, hx2⟩ := hp k x hx
      have HXL : Hid ((rtext n x).length ≤ 50331648) := by have := rtext_len n x B w hx2; simp only [Hid]; omega
      replace hx1 := hx1.below (hb.mono hB) hpb
      replace hx2 := hx2.below (hb.mono hB)
      clear hp hx
      cases n with
      | zero => exact hx1.elim
      | succ n =>
      obtain ⟨x0, x1, x2, x3⟩ := hx1
      have hB' : B ≤ wr.heap.size := Nat.le_trans hB hb.size
      have HC : Hid (Calls Tryd.prog 5 #[.agg #[.int .i64 x.1.1, .int .i64 x.1.2.1, .string x.1.2.2, .slice x.2.1.1 x.2.2.length x.2.1.2]] wr fun e w' => ∃ r : ByteArray, e = .returned (.string r) ∧ Hid (r.data.toList = rtext (n + 1) x ∧ Below wr.heap.size wr w')) :=
        ih x B wr hx2 hB' (fun w' h' => HT.out w' (hb.trans (h'.mono hb.size))) hxw
      clear ih hx2 hxw
      generalize x.2.2.length = xl at *
      generalize rtext (n + 1) x = tx at *
      have hk1 : (0 : Int) ≤ (k : Int) := by omega
      have hk2 : (k : Int) < (len : Int) := by omega
      by_cases hk0 : k = 0
      · have HK0 := hide hk0
        have hk3 : ¬ (0 : Int) < (k : Int) := by omega
        clear hk0
        go_wp2_with fail
        refine HC.out.mono ?_
        rintro e w1 ⟨q, rfl, HQ⟩
        have hq : q.size ≤ 50331648 := by rw [← size_toList, HQ.out.1]; exact HXL.out
        have hd0 : w1.cell? ⟨w.heap.size, 3, none⟩ = some (.slice (some ⟨pb, po, none⟩) len pc) := (HQ.out.2.cell (p := ⟨w.heap.size, 3, none⟩) (by simp; omega)).trans ha0
        have hz1 := HQ.out.2.size
        have hb2 : Below w.heap.size w w1 := hb.trans (HQ.out.2.mono hb.size)
        go_wp2_with fail
        go_roundw
        case rel =>
          refine ⟨k + 1, _, by omega, by go_num, rfl, hide ?_, hb2, by omega, hd0⟩
          rw [bytes_append, HR.out, HQ.out.1, HS.out, if_pos HK0.out]
          have e0 : rjTo (n + 1) p k = [] := by rw [HK0.out]; rfl
          rw [e0]
          rfl
        case measure => simp [intOf]; omega
      · have HK0 := hide hk0
        have hk3 : (0 : Int) < (k : Int) := by omega
        clear hk0
        go_wp2_with fail
        refine HC.out.mono ?_
        rintro e w1 ⟨q, rfl, HQ⟩
        have hq : q.size ≤ 50331648 := by rw [← size_toList, HQ.out.1]; exact HXL.out
        have hd0 : w1.cell? ⟨w.heap.size, 3, none⟩ = some (.slice (some ⟨pb, po, none⟩) len pc) := (HQ.out.2.cell (p := ⟨w.heap.size, 3, none⟩) (by simp; omega)).trans ha0
        have hz1 := HQ.out.2.size
        have hb2 : Below w.heap.size w w1 := hb.trans (HQ.out.2.mono hb.size)
        go_wp2_with fail
        go_roundw
        case rel =>
          refine ⟨k + 1, _, by omega, by go_num, rfl, hide ?_, hb2, by omega, hd0⟩
          rw [bytes_append, bytes_append, HR.out, HQ.out.1, HS.out, if_neg HK0.out]
          simp
        case measure => simp [intOf]; omega
    · go_wp2_with fail
      go_ret
      refine ⟨_, rfl, ?_, hb⟩
      rw [bytes_append, HR.out]
      unfold rjTo
      rw [List.take_of_length_le (by rw [hpl.out]; omega)]
      rfl

theorem text_any (n : Nat) : FTxt n := by
  induction n with
  | zero => intro x B w hx; exact hx.elim
  | succ n ih =>
    intro x B w hx hB ht hw
    obtain ⟨⟨k, u, s⟩, ⟨a, pc⟩, p⟩ := x
    obtain ⟨⟨_, hu, hs, hpl, hpc⟩, hp⟩ := hx
    simp only at hu hs hpl hpc hp
    unfold maxLen at hpc
    have hwt : wt (n + 1) ((k, u, s), (a, pc), p) = 1 + s.size + (p.map fun y => wt n y).sum := rfl
    rw [hwt] at hw
    show Calls Tryd.prog 5 #[.agg #[.int .i64 k, .int .i64 u, .string s, .slice a p.length pc]] w fun e w' => ∃ r : ByteArray, e = .returned (.string r) ∧ Hid (r.data.toList = (if k = 1 then Lib.itoa u else if k = 2 then s.data.toList else if k = 3 then 35 :: Lib.itoa u
      else if k = 5 then 36 :: Lib.itoa u else if k = 6 then [95] else 40 :: jn (p.map fun y => rtext n y) ++ [41]) ∧ Below w.heap.size w w')
    by_cases k1 : k = 1
    · subst k1
      exact text_int u s a p.length pc w hu ht
    rw [if_neg k1]
    by_cases k2 : k = 2
    · subst k2
      exact text_name u s a p.length pc w
    rw [if_neg k2]
    by_cases k3 : k = 3
    · subst k3
      exact text_num 3 u s a p.length pc w hu ht 35 (Or.inl ⟨rfl, rfl⟩)
    rw [if_neg k3]
    by_cases k5 : k = 5
    · subst k5
      exact text_num 5 u s a p.length pc w hu ht 36 (Or.inr ⟨rfl, rfl⟩)
    rw [if_neg k5]
    by_cases k6 : k = 6
    · subst k6
      exact text_wild u s a p.length pc w
    rw [if_neg k6]
    exact text_tup n ih k u s a pc p.length p rfl B w (by simpa using k1) (by simpa using k2) (by simpa using k3) (by simpa using k5) (by simpa using k6) hp (by omega) hB ht (by omega)
end Go.Proofs.YtijgckcaopiipaaDoor
