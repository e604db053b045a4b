/- What is proved here: clerkkeep.ProcTidy of what lies in memory returns true, and turns no memory that was there. Condition: at most 2097152 terms in each of the terms handed in, and in the program as it is told. -/
import Derived.Test.YtbmjfnicfpdjfaaG34
import Derived.Deep.RegionHeld3
import Derived.Deep.DeepCutAuto
import Derived.Deep.CutBlock
namespace Go.Proofs.Ytbmjfnicfpdjfaa
open Go.RowKit Go.Maps

/-- Both processes at a round's beginning. -/
def TyR (B1 pa pb : Nat) (name : ByteArray) (room : Int) (k : Nat) (w9 wr : World) : Prop :=
  ∃ cs cms, Tw B1 (fun _ => False) pa pb name room cs cms cs cms k k wr ∧ cms.length ≤ 20 ∧ Below B1 w9 wr
/-- Both processes, and the box of the call. -/
def TyC (B1 pa pb : Nat) (name : ByteArray) (room : Int) (k q1 : Nat) (o : Obj) (w9 wr : World) : Prop :=
  ∃ cs cms, Tw B1 (fun b => b = q1) pa pb name room cs cms cs cms k k wr ∧ cms.length ≤ 20 ∧ Below B1 w9 wr ∧ wr.heap[q1]? = some o
theorem TyR.start {name : ByteArray} {room : Int} {cx : Tc} {w9 w10 w11 : World} {pa pb : Nat} (h1 : Below w9.heap.size w9 w10) (h2 : P1 w9.heap.size pa name room cx [] 201 (fun b => w9.heap.size ≤ b ∧ b < w10.heap.size) w10) (h3 : Below w10.heap.size w10 w11) (h4 : P1 w10.heap.size pb name room cx [] 201 (fun b => w10.heap.size ≤ b ∧ b < w11.heap.size) w11) : TyR w9.heap.size pa pb name room 201 w9 w11 := by
  have s1 := h1.size
  have s2 := h3.size
  refine ⟨cx, [], ⟨_, _, h2.later h3, h4.mono (fun _ q => q) (Nat.le_refl _) (fun b q => ⟨by omega, q.2⟩), fun b q z => by omega, fun b q => q.elim, by omega⟩, by simp, h1.trans (h3.mono s1)⟩
theorem TyR.box {B1 pa pb : Nat} {name : ByteArray} {room : Int} {k : Nat} {w9 wr : World} (h : TyR B1 pa pb name room k w9 wr) (o : Obj) : TyC B1 pa pb name room k wr.heap.size o w9 (wr.alloc o) := by
  obtain ⟨cs, cms, h1, h2, h3⟩ := h
  have hb : Below wr.heap.size wr (wr.alloc o) := (Below.refl _ _).alloc (Nat.le_refl _) o
  refine ⟨cs, cms, (h1.box hb).less fun b e => Or.inr ⟨by omega, by subst e; simp⟩, h2, h3.trans (hb.mono h1.size), heap_alloc_new wr o⟩
section
variable {B1 pa pb : Nat} {name : ByteArray} {room : Int} {k q1 : Nat} {o : Obj} {w9 wr : World}
theorem TyC.up (h : TyC B1 pa pb name room k q1 o w9 wr) {j : Nat} (hj : k ≤ j) : TyR B1 pa pb name room j w9 wr := by
  obtain ⟨cs, cms, h1, h2, h3, h4⟩ := h
  exact ⟨cs, cms, (h1.less fun _ e => e.elim).up hj hj, h2, h3⟩
theorem TyC.mono (h : TyC B1 pa pb name room k q1 o w9 wr) {j : Nat} (hj : k ≤ j) : TyC B1 pa pb name room j q1 o w9 wr := by
  obtain ⟨cs, cms, h1, h2, h3, h4⟩ := h
  exact ⟨cs, cms, h1.up hj hj, h2, h3, h4⟩
theorem TyC.below (h : TyC B1 pa pb name room k q1 o w9 wr) : Below B1 w9 wr ∧ q1 < wr.heap.size ∧ wr.heap[q1]? = some o := by
  obtain ⟨cs, cms, h1, h2, h3, h4⟩ := h
  exact ⟨h3, (Array.getElem?_eq_some_iff.1 h4).1, h4⟩
end
theorem sum_take {f : Tc → Int} {l : List Tc} {i : Nat} {y : Tc} (h : l[i]? = some y) : ((l.take (i + 1)).map f).sum = ((l.take i).map f).sum + f y := by
  rw [List.take_add_one, h]
  simp
theorem tidy_sum {cs : Tc} {cms ys : List Tc} (h : ys.map (cn 13) = cms) (hc : ∀ y ∈ ys, chk 13 y = 0) : sz 13 cs + (ys.map (sz 13)).sum = ((cs :: cms).map (sz 13)).sum := by
  subst h
  rw [List.map_cons, List.sum_cons, List.map_map]
  congr 2
  exact List.map_congr_left fun y hy => (cn_sz (hc y hy)).symm
theorem mails_same {ya yb : List Tc} {aa ab : Option Addr} {ac bc L : Nat} {w : World} (ha : Lies w.heap.size w 13 ya aa) (hb : Lies w.heap.size w 13 yb ab) (la : ya.length = L) (lb : yb.length = L) (hL : L ≤ 20) (ca : ∀ y ∈ ya, chk 13 y = 0) (cb : ∀ y ∈ yb, chk 13 y = 0) (h : ya.map (cn 13) = yb.map (cn 13)) :
    Calls Try.prog 18 #[.slice aa L ac, .slice ab L bc] w fun e w' => e = .returned (.bool true) ∧ Below w.heap.size w w' := by
  have k := sameTerms_any 13 13 (same_any 13) ya yb aa ab ac bc w.heap.size w ha hb (by omega) (by omega) (Nat.le_refl _)
  rw [same_of_cnL ya yb ca cb h, la, lb] at k
  exact k
/-- What Step tells of both. -/
def St2 (y : Tc) (B1 pa pb : Nat) (name : ByteArray) (room : Int) (tk : Tk) (cb : Tc) (mb : List Tc) (F : Nat → Prop) (k kb : Nat) (w w' : World) : Prop :=
  same 13 y 13 tk.message = true ∧ In w'.heap.size w' 13 y ∧ ∃ G : Nat → Prop, Off G 13 y ∧ Tw B1 (fun b => F b ∨ G b) pa pb name room tk.state tk.mail cb mb k kb w' ∧ TwK B1 F w w'
theorem take_bound {ys : List Tc} (hc : ∀ y ∈ ys, chk 13 y = 0) : (i : Nat) → 0 ≤ ((ys.take i).map (sz 13)).sum ∧ ((ys.take i).map (sz 13)).sum ≤ 200 * (i : Int)
  | 0 => by simp
  | i + 1 => by
    have ih := take_bound hc i
    cases h : ys[i]? with
    | none =>
      have : ys.take (i + 1) = ys.take i := by rw [List.take_add_one, h]; simp
      rw [this]
      omega
    | some y =>
      rw [sum_take h]
      have h1 := (sz_bound 13 y).1
      have h2 := (chk_iff.1 (hc y (List.mem_of_getElem? h))).2.2
      omega
theorem mlies_up {w w' : World} {n : Nat} {q : List (Tm n)} {a : Option Addr} (h : Lies w.heap.size w n q a) (hb : Below w.heap.size w w') : Lies w'.heap.size w' n q a := by
  rcases h.below hb with h | ⟨b, o, e, hlt, h⟩
  · exact Or.inl h
  · exact Or.inr ⟨b, o, e, Nat.lt_of_lt_of_le hlt hb.size, fun i y hy => ⟨(h i y hy).1, (h i y hy).2.mono hb.size⟩⟩
set_option maxHeartbeats 8000000 in
set_option maxRecDepth 100000 in
theorem ptidy_walk (n : Nat) (l : List (Bh (n + 1))) (la : Option Addr) (len lc : Nat) (name : ByteArray) (m : Nat) (x : Tm (m + 1)) (room : Int) (q : Nat) (cl : List (Pk q)) (ca : Option Addr) (clen cc : Nat) (ka : Option Addr) (klen kc : Nat) (w : World)
    (HL : Hid (PgIn (n + 1) w.heap.size w la l ∧ l.length = len ∧ len ≤ lc ∧ lc ≤ maxLen ∧ (pgB (n + 1) l = true → (nodes (n + 6) (tellP n l)).length ≤ 2097152))) (HX : Hid (In w.heap.size w (m + 1) x ∧ (nodes (m + 1) x).length ≤ 2097152 ∧ name.size ≤ 9223372036854775807))
    (HC : Hid (cl.length = clen ∧ Lay w.heap.size w 6 (pk6 q) (PkIn q w.heap.size w) ca cl ∧ ∀ c ∈ cl, (nodes (q + 1) c.2).length ≤ 2097152)) (hcl : clen ≤ 9223372036854775807) (HK : Hid (NumsAt ka klen w)) (hkl : klen ≤ 9223372036854775807) :
    Calls Try.prog 3 #[.slice la len lc, .string name, .agg #[.int .i64 x.1.1, .int .i64 x.1.2.1, .string x.1.2.2, .slice x.2.1.1 x.2.2.length x.2.1.2], .int .i64 room, .slice ca clen cc, .slice ka klen kc] w fun e w' => e = .returned (.bool true) ∧ Below w.heap.size w w' := by
  go_enter Try.func3, Try.ntmps3
  go_wp2_with fail
  obtain ⟨w0, hw0⟩ : ∃ w0, w0 = w.alloc (.cells #[.int .i64 x.1.1, .int .i64 x.1.2.1, .string x.1.2.2, .slice x.2.1.1 x.2.2.length x.2.1.2] 25) := ⟨_, rfl⟩
  rw [← hw0]
  have H0 : Hid (Below w.heap.size w w0 ∧ w0.heap.size = w.heap.size + 1 ∧ w0.heap[w.heap.size]? = some (.cells #[.int .i64 x.1.1, .int .i64 x.1.2.1, .string x.1.2.2, .slice x.2.1.1 x.2.2.length x.2.1.2] 25)) := by
    rw [hw0]
    exact ⟨(Below.refl _ _).alloc (Nat.le_refl _) _, by simp, heap_alloc_new _ _⟩
  clear hw0
  refine (small_new _).mono ?_
  rintro e w1 ⟨p0, rfl, H1⟩
  go_wp2_with (first
    | (go_at_call 7; refine (sword_any _ _).mono ?_; rintro e w2 ⟨rfl, rfl⟩)
    | (go_at_call 8; refine (snum_any _ _).mono ?_; rintro e w2 ⟨rfl, rfl⟩)
    | (go_at_call 6; refine (rtuple_any _ _ _ _).mono ?_; rintro e w2 ⟨rfl, rfl⟩))
  refine (small_deliver (t := 25) (g := w1.heap.size + 1 + 1) H1.out.2 (by go_grown) H1.out.1.size (by omega) ?_).mono ?_
  · refine (heap_alloc_old _ _ (by simp)).trans ?_
    exact new_last0 _ _ (by simp)
  rintro e w2 ⟨rfl, H2⟩
  obtain ⟨hb2, M2, hp2⟩ := H2.out
  have HP2 := hide hp2
  have HB2 := hide (H1.out.1.trans hb2)
  clear hb2 hp2 H2 H1
  go_wp2_with fail
  refine (small_any2 _).mono ?_
  rintro e w3 ⟨sa, g1, g2, g3, g4, g5, rfl, H3⟩
  go_wp2_with fail
  refine (small_stp HP2.out HB2.out.size H3.out.1 H3.out.2.1 H3.out.2.2).mono ?_
  rintro e w4 ⟨y, f, g, sc, pa, pl, pc, kka, kkl, kkc, N, z, rfl, H4⟩
  unfold tk8
  have HB4 := hide (HB2.out.trans H4.out.1)
  have HW5 : Hid (∃ w5 q5, (w5 = w4.alloc (.cells #[.int .i64 y.1.1, .int .i64 y.1.2.1, .string y.1.2.2, .slice y.2.1.1 y.2.2.length y.2.1.2, .int .i64 f, .slice (some ⟨g, 0, none⟩) 1 sc, .slice pa pl pc, .slice kka kkl kkc] 39) ∧ q5 = w4.heap.size) ∧ Below w4.heap.size w4 w5 ∧ w5.heap[q5]? = some (.cells #[.int .i64 y.1.1, .int .i64 y.1.2.1, .string y.1.2.2, .slice y.2.1.1 y.2.2.length y.2.1.2, .int .i64 f, .slice (some ⟨g, 0, none⟩) 1 sc, .slice pa pl pc, .slice kka kkl kkc] 39)) := ⟨_, _, ⟨rfl, rfl⟩, (Below.refl _ _).alloc (Nat.le_refl _) _, heap_alloc_new _ _⟩
  clear HP2 HB2 H3
  go_upto_region 5 with fail
  obtain ⟨w5, q5, ⟨hw5, hq5⟩, hb5, hc5⟩ := HW5.out
  rw [← hw5, ← hq5]
  have HB5 := hide (HB4.out.trans (hb5.mono HB4.out.size))
  have HS5 : Hid (∀ W, Below w5.heap.size w5 W → W.cell? ⟨q5, 5, none⟩ = some (.slice (some ⟨g, 0, none⟩) 1 sc) ∧ W.cell? ⟨g, 0, none⟩ = some (.int .i64 2) ∧ W.cell? ⟨g, 1, none⟩ = some (.int .i64 z.1.1) ∧ W.cell? ⟨g, 2, none⟩ = some (.int .i64 z.1.2.1) ∧ W.cell? ⟨g, 3, none⟩ = some (.string z.1.2.2) ∧ W.cell? ⟨g, 4, none⟩ = some (.slice z.2.1.1 z.2.2.length z.2.1.2)) := fun W hW => by
    have h1 := (hW.block q5 (Array.getElem?_eq_some_iff.1 hc5).1).trans hc5
    have h2 := fun j => (hb5.trans (hW.mono hb5.size)).cell (p := ⟨g, j, none⟩) H4.out.2.1
    obtain ⟨c0, c1, c2, c3, c4⟩ := H4.out.2.2.1
    exact ⟨cell_row h1 5, (h2 0).trans c0, (h2 1).trans c1, (h2 2).trans c2, (h2 3).trans c3, (h2 4).trans c4⟩
  have HSM : Hid (∀ (g' : Nat) (W1 : World), Below w5.heap.size w5 W1 → W1.heap[g']? = some (.cells #[.int .i64 2, .int .i64 0, .string ⟨#[110]⟩, .slice none 0 0, .int .i64 1, .int .i64 5, .string ⟨#[]⟩, .slice none 0 0] 25) → Calls Try.prog 11 #[.agg #[.int .i64 z.1.1, .int .i64 z.1.2.1, .string z.1.2.2, .slice z.2.1.1 z.2.2.length z.2.1.2], .agg #[.int .i64 4, .int .i64 0, .string ⟨#[]⟩, .slice (some ⟨g', 0, none⟩) 2 2]] W1 fun e w' => e = .returned (.bool true) ∧ Below W1.heap.size W1 w') := by
    intro g' W1 h1 hg
    have h5 := hb5.trans (h1.mono hb5.size)
    exact sm_same ((H4.out.2.2.2.1.below h5).mono h5.size) H4.out.2.2.2.2.1 H4.out.2.2.2.2.2 hg
  have HD5 : Hid (Below w5.heap.size w5 w5.drew) := (Below.refl _ _).drew
  obtain ⟨s0, s1, s2, s3, s4, s5⟩ := HS5.out w5 (Below.refl _ _)
  clear hw5 hq5 hb5 hc5 HW5 HB4
  go_region_held3 (fun W => W.cell? ⟨q5, 5, none⟩ = some (.slice (some ⟨g, 0, none⟩) 1 sc) ∧ W.cell? ⟨g, 0, none⟩ = some (.int .i64 2) ∧ W.cell? ⟨g, 1, none⟩ = some (.int .i64 z.1.1) ∧ W.cell? ⟨g, 2, none⟩ = some (.int .i64 z.1.2.1) ∧ W.cell? ⟨g, 3, none⟩ = some (.string z.1.2.2) ∧ W.cell? ⟨g, 4, none⟩ = some (.slice z.2.1.1 z.2.2.length z.2.1.2))
    (first | (go_keep; done) | exact HS5.out _ HD5.out | exact HS5.out _ HB6.out | exact HS5.out _ HB7.out | exact HS5.out _ (HA7.out _) | exact HS5.out _ HB8.out.1 | exact HS5.out _ HB9.out) ((first
      | (go_at_call 7; refine (sword_any _ _).mono ?_; rintro e w6 ⟨rfl, hw6⟩; have HB6 : Hid (Below w5.heap.size w5 w6) := (by rw [hw6]; exact HD5.out.alloc HD5.out.size _); clear hw6)
      | (go_at_call 8; refine (snum_any _ _).mono ?_; rintro e w7 ⟨rfl, hw7⟩; have HB7 : Hid (Below w5.heap.size w5 w7) := (by rw [hw7]; exact HB6.out.alloc HB6.out.size _); have HA7 : Hid (∀ o, Below w5.heap.size w5 (w7.alloc o)) := (fun o => HB7.out.alloc HB7.out.size o); clear hw7)
      | (go_at_call 6; refine (rtuple_any _ _ _ _).mono ?_; rintro e w8 ⟨rfl, hw8⟩; have HB8 : Hid (Below w5.heap.size w5 w8 ∧ w8.heap[w7.heap.size]? = some (.cells #[.int .i64 2, .int .i64 0, .string ⟨#[110]⟩, .slice none 0 0, .int .i64 1, .int .i64 5, .string ⟨#[]⟩, .slice none 0 0] 25)) := (by rw [hw8]; exact ⟨(HA7.out _).alloc (HA7.out _).size _, (heap_alloc_old _ _ (by simp)).trans (heap_alloc_new w7 _)⟩); clear hw8)
      | (go_at_call 11; refine (HSM.out _ _ HB8.out.1 HB8.out.2).mono ?_; rintro e w9 ⟨rfl, hb9⟩; have HB9 := hide (HB8.out.1.trans (hb9.mono HB8.out.1.size)); clear hb9)))
  have HBE := hide (HB5.out.trans (HB9.out.mono HB5.out.size))
  clear HS5 HSM HD5 HB5 HB6 HB7 HA7 HB8 HB9 s0 s1 s2 s3 s4 s5 H4
  have hx9 : w9.heap[w.heap.size]? = some (.cells #[.int .i64 x.1.1, .int .i64 x.1.2.1, .string x.1.2.2, .slice x.2.1.1 x.2.2.length x.2.1.2] 25) := (HBE.out.block w.heap.size (by rw [H0.out.2.1]; omega)).trans H0.out.2.2
  have HW9 := hide (H0.out.1.trans (HBE.out.mono (by have := H0.out.2.1; omega)))
  obtain ⟨u, hu⟩ : ∃ u, newE (m + 1) x room name = u := ⟨_, rfl⟩
  have HNW : Hid (∀ W, Below w9.heap.size w9 W → Calls Try.prog 4 #[.string name, .agg #[.int .i64 x.1.1, .int .i64 x.1.2.1, .string x.1.2.2, .slice x.2.1.1 x.2.2.length x.2.1.2], .int .i64 room] W fun e w' => ∃ p : Option Addr, e = .returned (.tuple #[.pointer p, .int .i64 u]) ∧ Hid (Below W.heap.size W w' ∧ (u = 0 → ∃ pb, p = some ⟨pb, 0, none⟩ ∧ P1 W.heap.size pb name room (cn (m + 1) x) [] 201 (fun b => W.heap.size ≤ b ∧ b < w'.heap.size) w'))) := fun W hW => by
    have h9 := HW9.out.trans (hW.mono HW9.out.size)
    have h := P1.new m x room name W HX.out.2.2 ((HX.out.1.below h9).mono h9.size) HX.out.2.1
    rw [hu] at h
    refine h.mono ?_
    rintro e w' ⟨p, rfl, H⟩
    refine ⟨p, rfl, H.out.1, fun h0 => ?_⟩
    obtain ⟨pb, e, _, _, k⟩ := H.out.2.2 h0
    exact ⟨pb, e, k⟩
  have x0 := cell_row hx9 0
  have x1 := cell_row hx9 1
  have x2 := cell_row hx9 2
  have x3 := cell_row hx9 3
  simp only [List.getElem?_cons_zero, List.getElem?_cons_succ] at x0 x1 x2 x3
  have HX9 := hide hx9
  clear hu hx9
  go_wp2_with fail
  refine (HNW.out _ (Below.refl _ _)).mono ?_
  rintro e w10 ⟨pA, rfl, HA⟩
  have hx10 := (HA.out.1.block w.heap.size (Array.getElem?_eq_some_iff.1 HX9.out).1).trans HX9.out
  clear x0 x1 x2 x3
  have x0 := cell_row hx10 0
  have x1 := cell_row hx10 1
  have x2 := cell_row hx10 2
  have x3 := cell_row hx10 3
  simp only [List.getElem?_cons_zero, List.getElem?_cons_succ] at x0 x1 x2 x3
  clear hx10
  go_wp2_with fail
  refine (HNW.out _ HA.out.1).mono ?_
  rintro e w11 ⟨pB, rfl, HB⟩
  have HB11 := hide (HW9.out.trans ((HA.out.1.trans (HB.out.1.mono HA.out.1.size)).mono HW9.out.size))
  clear x0 x1 x2 x3 HNW HX9
  by_cases hu0 : u = 0
  rotate_left
  · have hu1 : (u == 0) = false := by simpa using hu0
    clear HA HB
    go_wp2_with fail
    go_ret
    exact ⟨ret_bool (by simp), HB11.out⟩
  subst hu0
  obtain ⟨pa, rfl, hpa⟩ := HA.out.2 rfl
  obtain ⟨pb, rfl, hpb⟩ := HB.out.2 rfl
  have HST : Hid (TyR w9.heap.size pa pb name room 201 w9 w11) := TyR.start HA.out.1 hpa HB.out.1 hpb
  clear hpa hpb HA HB
  by_cases h60 : clen ≤ 60
  rotate_left
  · have h60' : (60 : Int) < (clen : Int) := by omega
    go_wp2_with fail
    go_ret
    exact ⟨ret_bool (by simp), HB11.out⟩
  have h60' : ¬ (60 : Int) < (clen : Int) := by omega
  clear HB11
  go_wp2_with fail
  go_loopw [110] (fun i wr => ∃ j : Nat, j ≤ clen ∧ i = .int .i64 j ∧ Hid (TyR w9.heap.size pa pb name room (201 + 402 * j) w9 wr)) (fun i _ => clen - (intOf i).toNat)
  case atStart => exact ⟨0, Nat.zero_le _, rfl, HST.out⟩
  case round =>
  obtain ⟨j, hj, rfl, HR⟩ := hrel
  by_cases hjl : j < clen
  rotate_left
  · obtain rfl : j = clen := by omega
    have HB : Hid (Below w.heap.size w wr) := by
      obtain ⟨cs, cms, _, _, h3⟩ := HR.out
      exact HW9.out.trans (h3.mono HW9.out.size)
    go_wp2_with fail
    go_ret
    exact ⟨rfl, HB.out⟩
  obtain ⟨c, hc⟩ : ∃ c, cl[j]? = some c := ⟨cl[j]'(by rw [HC.out.1]; exact hjl), List.getElem?_eq_getElem _⟩
  obtain ⟨⟨ck, cself⟩, ct⟩ := c
  have HCM := hide (List.mem_of_getElem? hc)
  obtain ⟨lb, lo, rfl, hlb, HCC⟩ : ∃ b o, ca = some ⟨b, o, none⟩ ∧ b < w.heap.size ∧ Hid ((∀ (t : Nat) (u : Value), (pk6 q ((ck, cself), ct))[t]? = some u → w.cell? ⟨b, o + j * 6 + t, none⟩ = some u) ∧ PkIn q w.heap.size w ((ck, cself), ct)) := by
    rcases HC.out.2.1 with e | ⟨b, o, e, hb, h⟩
    · rw [e] at hc
      simp at hc
    · exact ⟨b, o, e, hb, h j _ hc⟩
  have HBR : Hid (Below w.heap.size w wr) := by
    obtain ⟨cs, cms, _, _, h3⟩ := HR.out
    exact HW9.out.trans (h3.mono HW9.out.size)
  have hcell : ∀ (t : Nat) (u : Value), (pk6 q ((ck, cself), ct))[t]? = some u → wr.cell? ⟨lb, lo + j * 6 + t, none⟩ = some u := fun t u ht => (HBR.out.cell (p := ⟨lb, lo + j * 6 + t, none⟩) hlb).trans (HCC.out.1 t u ht)
  have x0 : wr.cell? ⟨lb, lo + j * 6, none⟩ = some (.int .i64 ck) := hcell 0 _ rfl
  have x1 : wr.cell? ⟨lb, lo + j * 6 + 1, none⟩ = some (.int .i64 cself) := hcell 1 _ rfl
  have x2 : wr.cell? ⟨lb, lo + j * 6 + 2, none⟩ = some (.int .i64 ct.1.1) := hcell 2 _ rfl
  have x3 : wr.cell? ⟨lb, lo + j * 6 + 3, none⟩ = some (.int .i64 ct.1.2.1) := hcell 3 _ rfl
  have x4 : wr.cell? ⟨lb, lo + j * 6 + 4, none⟩ = some (.string ct.1.2.2) := hcell 4 _ rfl
  have x5 : wr.cell? ⟨lb, lo + j * 6 + 5, none⟩ = some (.slice ct.2.1.1 ct.2.2.length ct.2.1.2) := hcell 5 _ rfl
  have j1 : (0 : Int) ≤ (j : Int) := by omega
  have j2 : (j : Int) < (clen : Int) := by omega
  have HW2 : Hid (∃ w2 q1, (w2 = wr.alloc (.cells #[.int .i64 ck, .int .i64 cself, .int .i64 ct.1.1, .int .i64 ct.1.2.1, .string ct.1.2.2, .slice ct.2.1.1 ct.2.2.length ct.2.1.2] 47) ∧ q1 = wr.heap.size) ∧ TyC w9.heap.size pa pb name room (201 + 402 * j) q1 (.cells #[.int .i64 ck, .int .i64 cself, .int .i64 ct.1.1, .int .i64 ct.1.2.1, .string ct.1.2.2, .slice ct.2.1.1 ct.2.2.length ct.2.1.2] 47) w9 w2 ∧ Below wr.heap.size wr w2) := ⟨_, _, ⟨rfl, rfl⟩, HR.out.box _, (Below.refl _ _).alloc (Nat.le_refl _) _⟩
  clear hcell hc HST
  go_upto_region 14 with fail
  obtain ⟨w2, q1, ⟨hw2, hq1⟩, hC2, hb2⟩ := HW2.out
  rw [← hw2, ← hq1]
  have HC2 := hide hC2
  have HK2 : Hid (NumsAt ka klen w2) := HK.out.below (HBR.out.trans (hb2.mono HBR.out.size))
  clear hw2 hq1 hC2 hb2 HW2 HR HBR x0 x1 x2 x3 x4 x5
  go_upto_if 117 with (go_at_call 12; refine (icon_any _ _ _ _ _ hkl HK2).mono ?_; rintro e w3 ⟨t, rfl, hw3⟩; obtain rfl := hw3.symm; clear hw3)
  obtain ⟨k, hk⟩ : ∃ k, k = 201 + 402 * j := ⟨_, rfl⟩
  rw [← hk] at HC2
  have hkm : k ≤ 24000 := by omega
  go_cut [22] (fun v22 wx => Hid (TyC w9.heap.size pa pb name room k q1 (.cells #[.int .i64 ck, .int .i64 cself, .int .i64 ct.1.1, .int .i64 ct.1.2.1, .string ct.1.2.2, .slice ct.2.1.1 ct.2.2.length ct.2.1.2] 47) w9 wx))
  case first =>
    cases t with
    | false =>
      go_wp2_with fail
      go_meet
      exact HC2.out
    | true =>
      obtain ⟨cs, cms, hT, h20, hB, hbx⟩ := HC2.out
      have HT := hide hT
      have HBX := hide (⟨hB, hbx, h20⟩ : _ ∧ _ ∧ _)
      have HSB := hide (hT.swap.state (by omega))
      clear hT hB hbx HC2
      go_wp2_with fail
      refine HSB.out.mono ?_
      rintro e w3 ⟨y3, rfl, H3⟩
      have HS3 := hide (rsize_any 13 y3 w3.heap.size w3 H3.out.2.1 (Nat.le_refl _) (chk_n2 H3.out.2.2.1))
      have hsz : sz 13 y3 = sz 13 cs := by
        rw [← H3.out.2.2.2]
        exact (cn_sz H3.out.2.2.1).symm
      rw [hsz] at HS3
      have HCS := hide ((chk_iff.1 H3.out.2.2.1).2.2)
      rw [hsz] at HCS
      obtain ⟨S0, hS0⟩ : ∃ S0, S0 = sz 13 cs := ⟨_, rfl⟩
      rw [← hS0] at HS3 HCS
      have HS0 := hide hS0
      have s0 : 0 ≤ S0 := by rw [hS0]; exact (sz_bound 13 cs).1
      have s1 : S0 ≤ 200 := HCS.out
      clear hS0 hsz HSB HCS
      go_wp2_with fail
      refine HS3.out.mono ?_
      rintro e w4 ⟨rfl, hb4⟩
      have HB4 := hide (H3.out.1.trans (hb4.mono H3.out.1.size))
      clear hb4 H3 HS3
      have HMB := hide ((HT.out.later HB4.out).swap.mails (by omega) (by omega))
      obtain ⟨L, hL⟩ : ∃ L, L = cms.length := ⟨_, rfl⟩
      rw [← hL] at HMB h20
      have HLL := hide hL
      clear hL
      go_wp2_with fail
      refine HMB.out.mono ?_
      rintro e w5 ⟨ys, ya, yc, rfl, H5⟩
      have HB5 := hide (HB4.out.trans (H5.out.2.1.mono HB4.out.size))
      have hL9 : (L : Int) ≤ 9223372036854775807 := by omega
      clear HMB HB4
      obtain ⟨wq, rfl⟩ : ∃ wq, wq = wr := ⟨_, rfl⟩
      go_wp2_with fail
      go_loopw [22, 124] (fun v22 i wr => ∃ (j3 : Nat) (A : Int), j3 ≤ L ∧ i = .int .i64 j3 ∧ v22 = .int .i64 A ∧ 0 ≤ A ∧ A ≤ 200 * (j3 : Int) + 200 ∧ Hid (A = S0 + ((ys.take j3).map (sz 13)).sum ∧ Below w5.heap.size w5 wr)) (fun _ i _ => L - (intOf i).toNat)
      case atStart => exact ⟨0, S0, Nat.zero_le _, rfl, rfl, s0, by omega, by simp, Below.refl _ _⟩
      case round =>
      obtain ⟨j3, A, hj3, rfl, rfl, a0, a1, HA⟩ := hrel
      by_cases hjL : j3 < L
      · obtain ⟨y, hy⟩ : ∃ y, ys[j3]? = some y := ⟨ys[j3]'(by have := H5.out.1; have := HLL.out; omega), List.getElem?_eq_getElem _⟩
        obtain ⟨yb, yo, rfl, hyb, hyc⟩ : ∃ b o, ya = some ⟨b, o, none⟩ ∧ b < w5.heap.size ∧ Held w5 b (o + j3 * 4) 13 y ∧ In w5.heap.size w5 13 y := by
          rcases H5.out.2.2.1 with e | ⟨b, o, e, hb, h⟩
          · rw [e] at hy
            simp at hy
          · exact ⟨b, o, e, hb, h j3 y hy⟩
        have HYC := hide hyc.2
        obtain ⟨y0, y1, y2, y3⟩ := hyc.1.below HA.out.2 hyb
        have hck := H5.out.2.2.2.2 y (List.mem_of_getElem? hy)
        have HZ : Hid (∀ W, Below wr.heap.size wr W → Calls Try.prog 13 #[.agg #[.int .i64 y.1.1, .int .i64 y.1.2.1, .string y.1.2.2, .slice y.2.1.1 y.2.2.length y.2.1.2]] W fun e w' => e = .returned (.int .i64 (sz 13 y)) ∧ Below W.heap.size W w') := fun W hW => by
          have h := HA.out.2.trans (hW.mono HA.out.2.size)
          exact rsize_any 13 y W.heap.size W ((HYC.out.below h).mono h.size) (Nat.le_refl _) (chk_n2 hck)
        have z0 := (sz_bound 13 y).1
        have z1 := (chk_iff.1 hck).2.2
        have HSU := hide (sum_take (f := sz 13) hy)
        obtain ⟨s, hs⟩ : ∃ s, s = sz 13 y := ⟨_, rfl⟩
        rw [← hs] at HZ HSU z0 z1
        have k1 : (0 : Int) ≤ (j3 : Int) := by omega
        have k2 : (j3 : Int) < (L : Int) := by omega
        clear hyc hy hck hs
        go_wp2_with fail
        refine (HZ.out _ ((Below.refl _ _).alloc (Nat.le_refl _) _)).mono ?_
        rintro e w6 ⟨rfl, hb6⟩
        have HB6 := hide (HA.out.2.trans ((((Below.refl wr.heap.size wr).alloc (Nat.le_refl _) _).trans (hb6.mono (by simp))).mono HA.out.2.size))
        clear hb6 HZ y0 y1 y2 y3
        go_wp2_with fail
        go_roundw
        case rel => exact ⟨j3 + 1, A + s, by omega, by go_num, by go_num, by omega, by omega, by rw [HA.out.1, HSU.out]; omega, HB6.out⟩
        case measure => simp [intOf]; omega
      · obtain rfl : j3 = L := by omega
        have HTD := hide ((HT.out.later (HB5.out.trans (HA.out.2.mono HB5.out.size))).swap.tidy (by omega) (by have := HLL.out; omega))
        have hA : A = ((cs :: cms).map (sz 13)).sum := by
          have h := HA.out.1
          rw [List.take_of_length_le (by have := H5.out.1; have := HLL.out; omega), HS0.out] at h
          exact h.trans (tidy_sum H5.out.2.2.2.1 H5.out.2.2.2.2)
        rw [← hA] at HTD
        have HBR := hide (HB5.out.trans (HA.out.2.mono HB5.out.size))
        clear hA
        go_wp2_with fail
        refine HTD.out.mono ?_
        rintro e w7 ⟨rfl, H7⟩
        have HU7 := hide H7.out.2.2
        go_wp2_with fail
        refine HU7.out.mono ?_
        rintro e w8 ⟨rfl, hw8⟩
        obtain rfl := hw8.symm
        clear hw8
        have HF : Hid (TyC w9.heap.size pa pb name room k q1 (.cells #[.int .i64 ck, .int .i64 cself, .int .i64 ct.1.1, .int .i64 ct.1.2.1, .string ct.1.2.2, .slice ct.2.1.1 ct.2.2.length ct.2.1.2] 47) w9 w7) := by
          have hq := (Array.getElem?_eq_some_iff.1 HBX.out.2.1).1
          exact ⟨cs, cms, H7.out.1.swap, HBX.out.2.2, (HBX.out.1.trans (HBR.out.mono HT.out.size)).trans H7.out.2.1.1, (H7.out.2.1.2 q1 rfl).trans ((HBR.out.block q1 hq).trans HBX.out.2.1)⟩
        clear HU7 HTD H7
        go_wp2_with fail
        go_meet
        exact HF.out
  case rest =>
  obtain ⟨cs, cms, hT, h20, hB, hbx⟩ := hcut.out
  have HT := hide hT
  have HBX := hide (⟨hB, hbx, h20⟩ : _ ∧ _ ∧ _)
  have b0 := cell_row hbx 0
  have b1 := cell_row hbx 1
  have b2 := cell_row hbx 2
  have b3 := cell_row hbx 3
  have b4 := cell_row hbx 4
  have b5 := cell_row hbx 5
  simp only [List.getElem?_cons_zero, List.getElem?_cons_succ] at b0 b1 b2 b3 b4 b5
  have HCt : Hid (In w9.heap.size w9 (q + 1) ct ∧ (nodes (q + 1) ct).length ≤ 2097152) := ⟨(HCC.out.2.2.2.below HW9.out).mono HW9.out.size, HC.out.2.2 _ HCM.out⟩
  have HPG : Hid (PgIn (n + 1) w9.heap.size w9 la l) := (HL.out.1.below HW9.out).mono HW9.out.size
  clear hT hB hbx hcut HC2
  go_upto_block 4 with fail
  go_cut [25, 26, 27, 28] (fun v25 v26 v27 v28 wx => Hid (TyC w9.heap.size pa pb name room (k + 402) q1 (.cells #[.int .i64 ck, .int .i64 cself, .int .i64 ct.1.1, .int .i64 ct.1.2.1, .string ct.1.2.2, .slice ct.2.1.1 ct.2.2.length ct.2.1.2] 47) w9 wx))
  case first =>
    by_cases h0 : ck = 0
    · subst h0
      have HD : Hid (Below wc.heap.size wc wc.drew) := (Below.refl _ _).drew
      have HBC : Hid (∀ W : World, W.heap[q1]? = some (.cells #[.int .i64 0, .int .i64 cself, .int .i64 ct.1.1, .int .i64 ct.1.2.1, .string ct.1.2.2, .slice ct.2.1.1 ct.2.2.length ct.2.1.2] 47) → W.cell? ⟨q1, 2, none⟩ = some (.int .i64 ct.1.1) ∧ W.cell? ⟨q1, 3, none⟩ = some (.int .i64 ct.1.2.1) ∧ W.cell? ⟨q1, 4, none⟩ = some (.string ct.1.2.2) ∧ W.cell? ⟨q1, 5, none⟩ = some (.slice ct.2.1.1 ct.2.2.length ct.2.1.2)) := fun W h => ⟨cell_row h 2, cell_row h 3, cell_row h 4, cell_row h 5⟩
      have HXD : Hid (wc.drew.heap[q1]? = some (.cells #[.int .i64 0, .int .i64 cself, .int .i64 ct.1.1, .int .i64 ct.1.2.1, .string ct.1.2.2, .slice ct.2.1.1 ct.2.2.length ct.2.1.2] 47)) := (HD.out.block q1 (Array.getElem?_eq_some_iff.1 HBX.out.2.1).1).trans HBX.out.2.1
      have HDA := hide ((HT.out.later HD.out).deliver ct (HCt.out.1.below (HBX.out.1.trans (HD.out.mono HT.out.size))) HCt.out.2 (by omega) (by omega))
      have HD2 : Hid (∀ {mA : List Tc} {W : World}, Tw w9.heap.size (fun b => b = q1) pa pb name room cs mA cs cms (k + 201) k W → Below w9.heap.size w9 W → Calls Try.prog 5 #[.pointer (some ⟨pb, 0, none⟩), .agg #[.int .i64 ct.1.1, .int .i64 ct.1.2.1, .string ct.1.2.2, .slice ct.2.1.1 ct.2.2.length ct.2.1.2]] W fun e w' => e = .returned (.int .i64 (dlvC (q + 1) ct room cs cms)) ∧ Hid (Tw w9.heap.size (fun b => b = q1) pb pa name room cs (if dlvC (q + 1) ct room cs cms = 0 then cms ++ [cn (q + 1) ct] else cms) cs mA (k + 201) (k + 201) w' ∧ TwK w9.heap.size (fun b => b = q1) W w')) := fun {mA W} h hb => h.swap.deliver ct (HCt.out.1.below hb) HCt.out.2 (by omega) (by omega)
      have HLN : Hid (dlvC (q + 1) ct room cs cms = 0 → cms.length < 20) := fun h => by
        unfold dlvC at h
        split at h
        · omega
        · omega
      obtain ⟨d, hd⟩ : ∃ d, d = dlvC (q + 1) ct room cs cms := ⟨_, rfl⟩
      rw [← hd] at HDA HD2 HLN
      obtain ⟨mN, hmN⟩ : ∃ mN, mN = if d = 0 then cms ++ [cn (q + 1) ct] else cms := ⟨_, rfl⟩
      rw [← hmN] at HDA HD2
      have HLM : Hid (mN.length ≤ 20) := by
        rw [hmN]
        split
        · rename_i h
          have := HLN.out h
          show (cms ++ [cn (q + 1) ct]).length ≤ 20
          simp
          omega
        · exact h20
      clear hd hmN HLN
      go_upto_region 26 with fail
      go_region_held3 (fun W => W.cell? ⟨q1, 2, none⟩ = some (.int .i64 ct.1.1) ∧ W.cell? ⟨q1, 3, none⟩ = some (.int .i64 ct.1.2.1) ∧ W.cell? ⟨q1, 4, none⟩ = some (.string ct.1.2.2) ∧ W.cell? ⟨q1, 5, none⟩ = some (.slice ct.2.1.1 ct.2.2.length ct.2.1.2))
        (first | (go_keep; done) | exact HBC.out _ HXD.out | exact HBC.out _ H3.out.2.2 | exact HBC.out _ H4.out.2.2) ((first
          | (go_at_call 5; refine HDA.out.mono ?_; rintro e w3 ⟨rfl, hq3⟩; have H3 : Hid (Tw w9.heap.size (fun b => b = q1) pa pb name room cs mN cs cms (k + 201) k w3 ∧ Below w9.heap.size w9 w3 ∧ w3.heap[q1]? = some (.cells #[.int .i64 0, .int .i64 cself, .int .i64 ct.1.1, .int .i64 ct.1.2.1, .string ct.1.2.2, .slice ct.2.1.1 ct.2.2.length ct.2.1.2] 47)) := ⟨hq3.out.1, (HBX.out.1.trans (HD.out.mono HT.out.size)).trans hq3.out.2.1, (hq3.out.2.2 q1 rfl).trans HXD.out⟩; clear HDA hq3)
          | (go_at_call 5; refine (HD2.out H3.out.1 H3.out.2.1).mono ?_; rintro e w4 ⟨rfl, hq4⟩; have H4 : Hid (Tw w9.heap.size (fun b => b = q1) pb pa name room cs mN cs mN (k + 201) (k + 201) w4 ∧ Below w9.heap.size w9 w4 ∧ w4.heap[q1]? = some (.cells #[.int .i64 0, .int .i64 cself, .int .i64 ct.1.1, .int .i64 ct.1.2.1, .string ct.1.2.2, .slice ct.2.1.1 ct.2.2.length ct.2.1.2] 47)) := ⟨hq4.out.1, H3.out.2.1.trans hq4.out.2.1, (hq4.out.2.2 q1 rfl).trans H3.out.2.2⟩; clear hq4)))
      all_goals
        have HF : Hid (TyC w9.heap.size pa pb name room (k + 402) q1 (.cells #[.int .i64 0, .int .i64 cself, .int .i64 ct.1.1, .int .i64 ct.1.2.1, .string ct.1.2.2, .slice ct.2.1.1 ct.2.2.length ct.2.1.2] 47) w9 w4) := ⟨cs, mN, H4.out.1.swap.up (by omega) (by omega), HLM.out, H4.out.2.1, H4.out.2.2⟩
        clear H3 H4 HD2 HBC HXD HD HT HBX b0 b1 b2 b3 b4 b5
        go_wp2_with fail
        go_meet
        exact HF.out
    · by_cases h1 : ck = 1
      · subst h1
        obtain ⟨nx, hnx⟩ : ∃ nx, nx = IntKind.i64.wrap (cself + 1) := ⟨_, rfl⟩
        have HSA := hide (HT.out.step l la lc (HPG.out.below HBX.out.1) (by rw [HL.out.2.1]; exact HL.out.2.2.1) HL.out.2.2.2.1 HL.out.2.2.2.2 (by omega) (by omega) cself nx)
        rw [HL.out.2.1] at HSA
        have HSB : Hid (∀ {F : Nat → Prop} {dA : Tc} {mA : List Tc} {W : World}, Tw w9.heap.size F pa pb name room dA mA cs cms (k + 402) k W → Below w9.heap.size w9 W → Calls Try.prog 9 #[.pointer (some ⟨pb, 0, none⟩), .slice la len lc, .int .i64 cself, .int .i64 nx] W fun e w' => ∃ (y : Tc) (f : Int) (sa : Option Addr) (sl sc : Nat) (qa : Option Addr) (pl pc : Nat) (ka : Option Addr) (kl kc : Nat), e = .returned (.tuple #[tk8 y.1.1 y.1.2.1 y.1.2.2 y.2.1.1 y.2.2.length y.2.1.2 f sa sl sc qa pl pc ka kl kc, .int .i64 (stpE n room l name cself nx cs cms)]) ∧ Hid (f = (stpT n room l name cself nx cs cms).fate ∧ sl = (stpT n room l name cself nx cs cms).sends.length ∧ same 13 y 13 (stpT n room l name cself nx cs cms).message = true ∧ In w'.heap.size w' 13 y ∧ (stpT n room l name cself nx cs cms).mail.length ≤ cms.length ∧ ∃ G : Nat → Prop, Off G 13 y ∧ Tw w9.heap.size (fun b => F b ∨ G b) pb pa name room (stpT n room l name cself nx cs cms).state (stpT n room l name cself nx cs cms).mail dA mA (k + 402) (k + 402) w' ∧ TwK w9.heap.size F W w')) := fun {F dA mA W} h hb => by
          have h1 := h.swap.step l la lc (HPG.out.below hb) (by rw [HL.out.2.1]; exact HL.out.2.2.1) HL.out.2.2.2.1 HL.out.2.2.2.2 (by omega) (by omega) cself nx
          rw [HL.out.2.1] at h1
          exact h1
        obtain ⟨tk, htk⟩ : ∃ tk, tk = stpT n room l name cself nx cs cms := ⟨_, rfl⟩
        obtain ⟨E, hE⟩ : ∃ E, E = stpE n room l name cself nx cs cms := ⟨_, rfl⟩
        rw [← htk, ← hE] at HSA HSB
        have hwr : IntKind.i64.wrap (cself + 1) = nx := hnx.symm
        clear htk hE hnx
        go_wp2_with fail
        refine HSA.out.mono ?_
        rintro e w3 ⟨yA, fA, sAa, sAl, sAc, pAa, pAl, pAc, kAa, kAl, kAc, rfl, H3⟩
        obtain ⟨rfl, rfl, h3s, h3i, h3m, G, h3o, h3t, h3k⟩ := H3.out
        unfold tk8
        have HWA : Hid (∃ w4 qA, (w4 = w3.alloc (.cells #[.int .i64 yA.1.1, .int .i64 yA.1.2.1, .string yA.1.2.2, .slice yA.2.1.1 yA.2.2.length yA.2.1.2, .int .i64 tk.fate, .slice sAa tk.sends.length sAc, .slice pAa pAl pAc, .slice kAa kAl kAc] 39) ∧ qA = w3.heap.size) ∧ Below w3.heap.size w3 w4 ∧ w4.heap[qA]? = some (.cells #[.int .i64 yA.1.1, .int .i64 yA.1.2.1, .string yA.1.2.2, .slice yA.2.1.1 yA.2.2.length yA.2.1.2, .int .i64 tk.fate, .slice sAa tk.sends.length sAc, .slice pAa pAl pAc, .slice kAa kAl kAc] 39) ∧ w3.heap.size ≤ qA) := ⟨_, _, ⟨rfl, rfl⟩, (Below.refl _ _).alloc (Nat.le_refl _) _, heap_alloc_new _ _, Nat.le_refl _⟩
        have H3A : Hid (Tw w9.heap.size (fun b => b = q1 ∨ G b) pa pb name room tk.state tk.mail cs cms (k + 402) k w3 ∧ Below w9.heap.size w9 w3 ∧ w3.heap[q1]? = some (.cells #[.int .i64 1, .int .i64 cself, .int .i64 ct.1.1, .int .i64 ct.1.2.1, .string ct.1.2.2, .slice ct.2.1.1 ct.2.2.length ct.2.1.2] 47) ∧ same 13 yA 13 tk.message = true ∧ In w3.heap.size w3 13 yA ∧ Off G 13 yA ∧ tk.mail.length ≤ cms.length) := ⟨h3t, HBX.out.1.trans h3k.1, (h3k.2 q1 rfl).trans HBX.out.2.1, h3s, h3i, h3o, h3m⟩
        clear h3s h3i h3m h3o h3t h3k H3 HSA b0 b1 b2 b3 b4 b5
        go_upto_region 30 with fail
        obtain ⟨w4, qA, ⟨hw4, hqA⟩, hb4, hc4, hq4⟩ := HWA.out
        rw [← hw4, ← hqA]
        have hx4 := (hb4.block q1 (Array.getElem?_eq_some_iff.1 H3A.out.2.2.1).1).trans H3A.out.2.2.1
        have b1 := cell_row hx4 1
        simp only [List.getElem?_cons_zero, List.getElem?_cons_succ] at b1
        have HS4 := hide (HSB.out (H3A.out.1.box hb4) (H3A.out.2.1.trans (hb4.mono H3A.out.1.size)))
        have HX4 := hide (⟨hb4, hx4, hc4, hq4⟩ : _ ∧ _ ∧ _ ∧ _)
        clear hw4 hqA HWA hb4 hx4 hc4 hq4 HSB
        go_wp2_with fail
        refine HS4.out.mono ?_
        rintro e w5 ⟨yB, fB, sBa, sBl, sBc, pBa, pBl, pBc, kBa, kBl, kBc, rfl, H5⟩
        obtain ⟨rfl, rfl, h5s, h5i, h5m, G5, h5o, h5t, h5k⟩ := H5.out
        unfold tk8
        have hqA4 := (Array.getElem?_eq_some_iff.1 HX4.out.2.2.1).1
        have H5A : Hid (w5.heap[q1]? = some (.cells #[.int .i64 1, .int .i64 cself, .int .i64 ct.1.1, .int .i64 ct.1.2.1, .string ct.1.2.2, .slice ct.2.1.1 ct.2.2.length ct.2.1.2] 47) ∧ w5.heap[qA]? = some (.cells #[.int .i64 yA.1.1, .int .i64 yA.1.2.1, .string yA.1.2.2, .slice yA.2.1.1 yA.2.2.length yA.2.1.2, .int .i64 tk.fate, .slice sAa tk.sends.length sAc, .slice pAa pAl pAc, .slice kAa kAl kAc] 39) ∧ In w5.heap.size w5 13 yA) := ⟨(h5k.2 q1 (Or.inl (Or.inl rfl))).trans HX4.out.2.1, (h5k.2 qA (Or.inr ⟨HX4.out.2.2.2, hqA4⟩)).trans HX4.out.2.2.1, (In.off (fun b hb => h5k.2 b (Or.inl (Or.inr hb))) H3A.out.2.2.2.2.2.1 ((H3A.out.2.2.2.2.1.below HX4.out.1).mono HX4.out.1.size)).mono h5k.1.size⟩
        have HWB : Hid (∃ w6 qB, (w6 = w5.alloc (.cells #[.int .i64 yB.1.1, .int .i64 yB.1.2.1, .string yB.1.2.2, .slice yB.2.1.1 yB.2.2.length yB.2.1.2, .int .i64 tk.fate, .slice sBa tk.sends.length sBc, .slice pBa pBl pBc, .slice kBa kBl kBc] 39) ∧ qB = w5.heap.size) ∧ Below w5.heap.size w5 w6 ∧ w6.heap[qB]? = some (.cells #[.int .i64 yB.1.1, .int .i64 yB.1.2.1, .string yB.1.2.2, .slice yB.2.1.1 yB.2.2.length yB.2.1.2, .int .i64 tk.fate, .slice sBa tk.sends.length sBc, .slice pBa pBl pBc, .slice kBa kBl kBc] 39)) := ⟨_, _, ⟨rfl, rfl⟩, (Below.refl _ _).alloc (Nat.le_refl _) _, heap_alloc_new _ _⟩
        have H5T : Hid (Tw w9.heap.size (fun b => b = q1) pb pa name room tk.state tk.mail tk.state tk.mail (k + 402) (k + 402) w5 ∧ Below w9.heap.size w9 w5 ∧ same 13 yB 13 tk.message = true ∧ In w5.heap.size w5 13 yB) := ⟨h5t.less fun b e => Or.inl (Or.inl (Or.inl e)), (H3A.out.2.1.trans (HX4.out.1.mono H3A.out.1.size)).trans h5k.1, h5s, h5i⟩
        clear h5s h5i h5m h5o h5t h5k H5 HS4 b1 hqA4
        go_upto_region 31 with fail
        obtain ⟨w6, qB, ⟨hw6, hqB⟩, hb6, hcB⟩ := HWB.out
        rw [← hw6, ← hqB]
        have hcA := (hb6.block qA (Array.getElem?_eq_some_iff.1 H5A.out.2.1).1).trans H5A.out.2.1
        have a0 := cell_row hcA 0
        have a1 := cell_row hcA 1
        have a2 := cell_row hcA 2
        have a3 := cell_row hcA 3
        have a4 := cell_row hcA 4
        have a5 := cell_row hcA 5
        have c0 := cell_row hcB 0
        have c1 := cell_row hcB 1
        have c2 := cell_row hcB 2
        have c3 := cell_row hcB 3
        have c4 := cell_row hcB 4
        have c5 := cell_row hcB 5
        simp only [List.getElem?_cons_zero, List.getElem?_cons_succ] at a0 a1 a2 a3 a4 a5 c0 c1 c2 c3 c4 c5
        have HSM : Hid (Calls Try.prog 11 #[.agg #[.int .i64 yA.1.1, .int .i64 yA.1.2.1, .string yA.1.2.2, .slice yA.2.1.1 yA.2.2.length yA.2.1.2], .agg #[.int .i64 yB.1.1, .int .i64 yB.1.2.1, .string yB.1.2.2, .slice yB.2.1.1 yB.2.2.length yB.2.1.2]] w6 fun e w' => e = .returned (.bool true) ∧ Below w6.heap.size w6 w') := by
          have h := same_any 13 yA 13 yB w6.heap.size w6 ((H5A.out.2.2.below hb6).mono hb6.size) ((H5T.out.2.2.2.below hb6).mono hb6.size) (Nat.le_refl _)
          rw [same_trans _ _ _ _ _ _ H3A.out.2.2.2.1 (same_symm _ _ _ _ H5T.out.2.2.1)] at h
          exact h
        have HB6 := hide hb6
        clear hw6 hqB HWB hcA hcB hb6
        go_wp2_with fail
        refine HSM.out.mono ?_
        rintro e w7 ⟨rfl, hb7⟩
        have HF : Hid (TyC w9.heap.size pa pb name room (k + 402) q1 (.cells #[.int .i64 1, .int .i64 cself, .int .i64 ct.1.1, .int .i64 ct.1.2.1, .string ct.1.2.2, .slice ct.2.1.1 ct.2.2.length ct.2.1.2] 47) w9 w7) := by
          have h7 := HB6.out.trans (hb7.mono HB6.out.size)
          exact ⟨tk.state, tk.mail, (H5T.out.1.later h7).swap, Nat.le_trans H3A.out.2.2.2.2.2.2 HBX.out.2.2, H5T.out.2.1.trans (h7.mono H5T.out.1.size), (h7.block q1 (Array.getElem?_eq_some_iff.1 H5A.out.1).1).trans H5A.out.1⟩
        clear hb7 HSM HB6 H5A H5T H3A HX4 HT HBX a0 a1 a2 a3 a4 a5 c0 c1 c2 c3 c4 c5
        go_wp2_with fail
        go_meet
        exact HF.out
      · have h0' : ¬ (0 : Int) = ck := fun e => h0 e.symm
        have h1' : ¬ (1 : Int) = ck := fun e => h1 e.symm
        have HF : Hid (TyC w9.heap.size pa pb name room (k + 402) q1 (.cells #[.int .i64 ck, .int .i64 cself, .int .i64 ct.1.1, .int .i64 ct.1.2.1, .string ct.1.2.2, .slice ct.2.1.1 ct.2.2.length ct.2.1.2] 47) w9 wc) := ⟨cs, cms, HT.out.up (by omega) (by omega), HBX.out.2.2, HBX.out.1, HBX.out.2.1⟩
        clear HT HBX b1 b2 b3 b4 b5
        go_wp2_with fail
        go_meet
        exact HF.out
  case rest =>
  obtain ⟨wd, hwd⟩ : ∃ wd, wd = wc := ⟨_, rfl⟩
  obtain ⟨ds, dms, hT2, h202, hB2, hbx2⟩ := hcut.out
  have HT2 := hide hT2
  have HB2 := hide (⟨hB2, h202⟩ : _ ∧ _)
  have HSA := hide (hT2.state (by omega))
  clear hT2 hB2 hbx2 hcut HT HBX HCt HPG b0 b1 b2 b3 b4 b5 hwd
  go_wp2_with fail
  refine HSA.out.mono ?_
  rintro e w3 ⟨yA, rfl, H3⟩
  have HSB := hide ((HT2.out.later H3.out.1).swap.state (by omega))
  clear HSA
  go_wp2_with fail
  refine HSB.out.mono ?_
  rintro e w4 ⟨yB, rfl, H4⟩
  have HB4 := hide (H3.out.1.trans (H4.out.1.mono H3.out.1.size))
  have HSS := hide (rsame_cn (n := 13) (x := yA) (m := 13) (y := yB) ((H3.out.2.1.below H4.out.1).mono H4.out.1.size) H4.out.2.1 (Nat.le_refl _) H3.out.2.2.1 H4.out.2.2.1 (H3.out.2.2.2.trans H4.out.2.2.2.symm))
  clear HSB H3 H4
  go_wp2_with fail
  refine HSS.out.mono ?_
  rintro e w5 ⟨rfl, hb5⟩
  have HB5 := hide (HB4.out.trans (hb5.mono HB4.out.size))
  have HMA := hide ((HT2.out.later HB5.out).mails (by omega) (by have := HB2.out.2; omega))
  clear hb5 HB4 HSS
  obtain ⟨L, hL⟩ : ∃ L, L = dms.length := ⟨_, rfl⟩
  rw [← hL] at HMA
  have HLL := hide hL
  clear hL
  go_wp2_with fail
  refine HMA.out.mono ?_
  rintro e w6 ⟨mA, aA, cA, rfl, H6⟩
  have HB6 := hide (HB5.out.trans (H6.out.2.1.mono HB5.out.size))
  have HMB := hide ((HT2.out.later HB6.out).swap.mails (by omega) (by have := HB2.out.2; omega))
  rw [← HLL.out] at HMB
  clear HMA
  go_wp2_with fail
  refine HMB.out.mono ?_
  rintro e w7 ⟨mB, aB, cB, rfl, H7⟩
  have HB7 := hide (HB6.out.trans (H7.out.2.1.mono HB6.out.size))
  have HST := hide (mails_same (ac := cA) (bc := cB) (L := L) (mlies_up H6.out.2.2.1 H7.out.2.1) H7.out.2.2.1 H6.out.1 H7.out.1 (by have := HB2.out.2; have := HLL.out; omega) H6.out.2.2.2.2 H7.out.2.2.2.2 (H6.out.2.2.2.1.trans H7.out.2.2.2.1.symm))
  clear HMB H6 H7 HB5 HB6
  go_wp2_with fail
  refine HST.out.mono ?_
  rintro e w8 ⟨rfl, hb8⟩
  have HB8 := hide (HB7.out.trans (hb8.mono HB7.out.size))
  have HF : Hid (TyR w9.heap.size pa pb name room (201 + 402 * (j + 1)) w9 w8) := ⟨ds, dms, ((HT2.out.later HB8.out).less fun _ e => e.elim).up (by omega) (by omega), HB2.out.2, HB2.out.1.trans (HB8.out.mono HT2.out.size)⟩
  clear hb8 HB7 HB8 HST HT2 HB2
  go_wp2_with fail
  go_roundw
  case rel => exact ⟨j + 1, by omega, by go_num, HF.out⟩
  case measure => simp [intOf]; omega
end Go.Proofs.Ytbmjfnicfpdjfaa
