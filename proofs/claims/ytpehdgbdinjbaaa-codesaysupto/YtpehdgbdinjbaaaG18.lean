/- What is proved here: the inner loop of the document's behaviour, over the acts of a clause: it appends each act that is read, and returns false at one that is none. Condition: the acts' terms are right and lie in memory. -/
import Derived.Test.YtpehdgbdinjbaaaG16
import Derived.Test.YtpehdgbdinjbaaaG17
namespace Go.Proofs.Ytpehdgbdinjbaaa
open Go.RowKit

/-- A clause's box while its acts are read. -/
def ActsR (M n B qc : Nat) (ys : List (Tm (n + 2))) (st ms nx : Tm (n + 3)) (wz : World) (j : Nat) (wr : World) : Prop :=
  ∃ (a : Option Addr) (c : Nat) (acts : List (Ac (M + 1))), Below qc wz wr ∧ wr.heap[qc]? = some (.cells #[.int .i64 st.1.1, .int .i64 st.1.2.1, .string st.1.2.2, .slice st.2.1.1 st.2.2.length st.2.1.2, .int .i64 ms.1.1, .int .i64 ms.1.2.1, .string ms.1.2.2, .slice ms.2.1.1 ms.2.2.length ms.2.1.2, .slice a acts.length c, .int .i64 nx.1.1, .int .i64 nx.1.2.1, .string nx.1.2.2, .slice nx.2.1.1 nx.2.2.length nx.2.1.2] 135) ∧ Grow (AcIn (M + 1)) (AcOff (M + 1)) (ac11 (M + 1)) 11 137 B (qc + 1) acts (.slice a acts.length c) wr wr ∧ allV (rdA M (n + 2)) (ys.take j) = some acts
theorem acts_step {M n B qc : Nat} {ys : List (Tm (n + 2))} {st ms nx : Tm (n + 3)} {wz wr W w4 : World} {j : Nat} {ca : Option Addr} {cc al g c : Nat} {acts : List (Ac (M + 1))} {y : Tm (n + 2)} {X : Ac (M + 1)} (hB : B ≤ qc) (hal : acts.length = al)
    (r1 : Below qc wz wr) (r2 : wr.heap[qc]? = some (.cells #[.int .i64 st.1.1, .int .i64 st.1.2.1, .string st.1.2.2, .slice st.2.1.1 st.2.2.length st.2.1.2, .int .i64 ms.1.1, .int .i64 ms.1.2.1, .string ms.1.2.2, .slice ms.2.1.1 ms.2.2.length ms.2.1.2, .slice ca al cc, .int .i64 nx.1.1, .int .i64 nx.1.2.1, .string nx.1.2.2, .slice nx.2.1.1 nx.2.2.length nx.2.1.2] 135)) (r3 : Grow (AcIn (M + 1)) (AcOff (M + 1)) (ac11 (M + 1)) 11 137 B (qc + 1) acts (.slice ca al cc) wr wr) (r4 : allV (rdA M (n + 2)) (ys.take j) = some acts) (hy : ys[j]? = some y) (hx : rdA M (n + 2) y = some X) (hW : Below wr.heap.size wr W) (hqz : qc < wr.heap.size)
    (iX : AcIn (M + 1) W.heap.size W X) (oX : AcOff (M + 1) (fun b => b < B ∨ wr.heap.size ≤ b) X) (hown : w4.ownsRow (qc + 1) 137 11 (.slice (some ⟨g, 0, none⟩) (al + 1) c) (al + 1) (acts.flatMap (ac11 (M + 1)) ++ ac11 (M + 1) X)) (hgrow : W.grownBy w4 (Value.slice ca al cc).ownBlock) (hat : (Value.slice ca al cc).ownBlock = some g ∨ g = W.heap.size) :
    Below (qc + 1) wr w4 ∧ w4.heap[qc]? = some (.cells #[.int .i64 st.1.1, .int .i64 st.1.2.1, .string st.1.2.2, .slice st.2.1.1 st.2.2.length st.2.1.2, .int .i64 ms.1.1, .int .i64 ms.1.2.1, .string ms.1.2.2, .slice ms.2.1.1 ms.2.2.length ms.2.1.2, .slice ca al cc, .int .i64 nx.1.1, .int .i64 nx.1.2.1, .string nx.1.2.2, .slice nx.2.1.1 nx.2.2.length nx.2.1.2] 135) ∧ ActsR M n B qc ys st ms nx wz (j + 1) (w4.setCell ⟨qc, 8, none⟩ (.slice (some ⟨g, 0, none⟩) (al + 1) c)) := by
  subst hal
  have hs := Grow.step (ac_stays (M + 1)) r3 (by omega : B ≤ qc + 1) (by omega) hW X iX oX hown hgrow hat
  have h4 : w4.heap[qc]? = some (.cells #[.int .i64 st.1.1, .int .i64 st.1.2.1, .string st.1.2.2, .slice st.2.1.1 st.2.2.length st.2.1.2, .int .i64 ms.1.1, .int .i64 ms.1.2.1, .string ms.1.2.2, .slice ms.2.1.1 ms.2.2.length ms.2.1.2, .slice ca acts.length cc, .int .i64 nx.1.1, .int .i64 nx.1.2.1, .string nx.1.2.2, .slice nx.2.1.1 nx.2.2.length nx.2.1.2] 135) := (hs.1.block _ (by omega)).trans r2
  have hk : Keeps qc w4 (w4.setCell ⟨qc, 8, none⟩ (.slice (some ⟨g, 0, none⟩) (acts.length + 1) c)) := Keeps.set (Keeps.refl _ _) _ _
  refine ⟨hs.1, h4, some ⟨g, 0, none⟩, c, acts ++ [X], (r1.trans (hs.1.mono (by have := r1.size; omega))).setCell (Nat.le_refl _) _, ?_, ?_, allV_take _ _ _ _ hy _ _ r4 hx⟩
  · rw [List.length_append]
    simp [World.setCell, Array.getElem?_modify, h4]
  · have h5 := hs.stored (ac_stays (M + 1)) hk (by omega) (by omega)
    rw [List.length_append]
    exact h5
/-- What stands in an act, in memory. -/
theorem parts_at {n k B : Nat} {y : Tm (n + 2)} {s : ByteArray} {w : World} (h : isT (n + 1) y s k = true) (hi : In B w (n + 2) y) (_hk : 0 < k) : ∃ eb eo, y.2.1.1 = some ⟨eb, eo, none⟩ ∧ eb < B := by
  obtain ⟨h0, e, _⟩ := isT_parts h
  rcases hi.2 with e1 | ⟨b, o, e1, e2, _⟩
  · rw [e] at e1; cases e1
  · exact ⟨b, o, e1, e2⟩
theorem parts_held {n B eb eo : Nat} {y : Tm (n + 2)} {w : World} (hi : In B w (n + 2) y) (he : y.2.1.1 = some ⟨eb, eo, none⟩) {i : Nat} {a : Tm (n + 1)} (ha : y.2.2[i]? = some a) : Held w eb (eo + i * 4) (n + 1) a ∧ In B w (n + 1) a := by
  rcases hi.2 with e1 | ⟨b, o, e1, _, e3⟩
  · rw [e1] at ha; simp at ha
  · rw [he] at e1
    injection e1 with e1
    injection e1 with e4 e5
    subst e4 e5
    exact e3 i a ha

noncomputable def rbBody2 : Code := ((Try.f75.body.bind rtLoop).bind rtLoop).getD .skip

set_option maxHeartbeats 40000000 in
set_option maxRecDepth 100000 in
theorem rb_acts (M n : Nat) (hM : n + 1 ≤ M + 1) (ys : List (Tm (n + 2))) (st ms nx : Tm (n + 3)) (B qx qc qb q1 xb xo xc yc m3 : Nat) (ya : Option Addr) (nm : ByteArray) (ba : Option Addr) (bl bc : Nat) (wz : World)
    (hBq : B ≤ q1) (h1b : q1 < qb) (hbx : qb < qx) (hxc : qx < qc) (hzc : wz.heap.size = qc + 1) (hm3 : m3 ≤ 8) (HM3 : Hid (ys.length = m3)) (hxb : xb < B)
    (HX : Hid (wz.cell? ⟨qx, 3, none⟩ = some (.slice (some ⟨xb, xo, none⟩) 5 xc))) (HQC : Hid (wz.heap[qc]? = some (.cells #[.int .i64 st.1.1, .int .i64 st.1.2.1, .string st.1.2.2, .slice st.2.1.1 st.2.2.length st.2.1.2, .int .i64 ms.1.1, .int .i64 ms.1.2.1, .string ms.1.2.2, .slice ms.2.1.1 ms.2.2.length ms.2.1.2, .slice none 0 0, .int .i64 nx.1.1, .int .i64 nx.1.2.1, .string nx.1.2.2, .slice nx.2.1.1 nx.2.2.length nx.2.1.2] 135)))
    (HQB : Hid (wz.heap[qb]? = some (.cells #[.string nm, .slice ba bl bc] 127))) (HQ1 : Hid (wz.heap[q1]? = some (.cells #[.string ⟨#[]⟩, .slice none 0 0] 127)))
    (HYS : Hid (∀ w1, Below qc wz w1 → w1.cell? ⟨xb, xo + 12 + 3, none⟩ = some (.slice ya m3 yc) ∧ ∀ (i : Nat) (y : Tm (n + 2)), ys[i]? = some y → RightA ⟨n + 2, y⟩ ∧ ∃ yb yo, ya = some ⟨yb, yo, none⟩ ∧ yb < B ∧ Held w1 yb (yo + i * 4) (n + 2) y ∧ In B w1 (n + 2) y))
    {K3 : Act → World → Prop} {Q3 : Exit → Act → World → Prop} {c0 c1 c3 c5 c6 c10 c11 c12 c13 c14 c15 c16 c17 c18 c19 c20 c21 c22 c23 c24 c25 c26 c27 c28 c29 c30 c31 c32 c33 c34 c35 c36 c37 c38 c39 c40 c41 c42 c43 c44 c45 c46 c47 c48 c49 c50 c51 c52 c53 c54 c55 c56 c57 c58 c59 c60 c61 c62 c63 c64 c65 c66 c67 c68 c69 c70 c71 c72 c73 c74 c75 c76 c77 c78 c79 c80 c81 c82 c83 c84 c85 c86 c87 c88 c89 c90 c91 c92 c93 c94 c95 c96 c97 c98 c99 c100 c101 c102 c103 c104 c105 c106 c107 c108 c109 c110 c111 c112 c113 c114 c115 c116 c117 c118 c119 c120 c121 c122 c123 c124 c125 c126 c127 c128 c129 c130 c131 c132 c133 c134 c135 c136 c137 c138 c139 c140 c141 c142 c143 c144 c145 c146 c147 c148 c149 c150 c151 c152 c153 c154 c155 c156 c157 c158 c159 c160 c161 c162 c163 c164 c165 c166 c167 c168 c169 c170 c171 c172 c173 c174 c175 c176 : Value}
    (HK3 : Hid (∀ (u3 u10 u73 u74 u75 u76 u77 u78 u79 u80 u81 u82 u83 u84 u85 u86 u87 u88 u89 u90 u91 u92 u93 u94 u95 u96 u97 u98 u99 u100 u101 u102 u103 u104 u105 u106 u107 u108 u109 u110 u111 u112 u113 u114 u115 u116 u117 u118 u119 u120 u121 u122 u123 u124 u125 u126 u127 u128 u129 u130 u131 u132 u133 u134 u135 u136 u137 u138 u139 u140 u141 u142 u143 u144 u145 u146 u147 u148 u149 u150 u151 u152 u153 u154 u155 u156 u157 u158 u159 u160 u161 u162 u163 u164 u165 u166 u167 u168 u169 : Value) (wr : World), Hid (ActsR M n B qc ys st ms nx wz m3 wr) → K3 ⟨List.toArray (c0 :: c1 :: Value.pointer (some ⟨q1, 0, none⟩) :: u3 :: Value.pointer (some ⟨qb, 0, none⟩) :: c5 :: c6 :: Value.pointer (some ⟨qx, 0, none⟩) :: Value.pointer (some ⟨qc, 0, none⟩) :: Value.int .i64 m3 :: u10 :: c11 :: c12 :: c13 :: c14 :: c15 :: c16 :: c17 :: c18 :: c19 :: c20 :: c21 :: c22 :: c23 :: c24 :: c25 :: c26 :: c27 :: c28 :: c29 :: c30 :: c31 :: c32 :: c33 :: c34 :: c35 :: c36 :: c37 :: c38 :: c39 :: c40 :: c41 :: c42 :: c43 :: c44 :: c45 :: c46 :: c47 :: c48 :: c49 :: c50 :: c51 :: c52 :: c53 :: c54 :: c55 :: c56 :: c57 :: c58 :: c59 :: c60 :: c61 :: c62 :: c63 :: c64 :: c65 :: c66 :: c67 :: c68 :: c69 :: c70 :: c71 :: c72 :: u73 :: u74 :: u75 :: u76 :: u77 :: u78 :: u79 :: u80 :: u81 :: u82 :: u83 :: u84 :: u85 :: u86 :: u87 :: u88 :: u89 :: u90 :: u91 :: u92 :: u93 :: u94 :: u95 :: u96 :: u97 :: u98 :: u99 :: u100 :: u101 :: u102 :: u103 :: u104 :: u105 :: u106 :: u107 :: u108 :: u109 :: u110 :: u111 :: u112 :: u113 :: u114 :: u115 :: u116 :: u117 :: u118 :: u119 :: u120 :: u121 :: u122 :: u123 :: u124 :: u125 :: u126 :: u127 :: u128 :: u129 :: u130 :: u131 :: u132 :: u133 :: u134 :: u135 :: u136 :: u137 :: u138 :: u139 :: u140 :: u141 :: u142 :: u143 :: u144 :: u145 :: u146 :: u147 :: u148 :: u149 :: u150 :: u151 :: u152 :: u153 :: u154 :: u155 :: u156 :: u157 :: u158 :: u159 :: u160 :: u161 :: u162 :: u163 :: u164 :: u165 :: u166 :: u167 :: u168 :: u169 :: c170 :: c171 :: c172 :: c173 :: c174 :: c175 :: c176 :: []), []⟩ wr))
    (HR3 : Hid (∀ (u9 u10 u73 u74 u75 u76 u77 u78 u79 u80 u81 u82 u83 u84 u85 u86 u87 u88 u89 u90 u91 u92 u93 u94 u95 u96 u97 u98 u99 u100 u101 u102 u103 u104 u105 u106 u107 u108 u109 u110 u111 u112 u113 u114 u115 u116 u117 u118 u119 u120 u121 u122 u123 u124 u125 u126 u127 u128 u129 u130 u131 u132 u133 u134 u135 u136 u137 u138 u139 u140 u141 u142 u143 u144 u145 u146 u147 u148 u149 u150 u151 u152 u153 u154 u155 u156 u157 u158 u159 u160 u161 u162 u163 u164 u165 u166 u167 u168 u169 : Value) (wr : World), Hid (Below q1 wz wr ∧ allV (rdA M (n + 2)) ys = none ∧ wr.heap[q1]? = some (.cells #[.string nm, .slice ba bl bc] 127)) → Q3 .ret ⟨List.toArray (c0 :: c1 :: Value.pointer (some ⟨q1, 0, none⟩) :: Value.bool false :: Value.pointer (some ⟨qb, 0, none⟩) :: c5 :: c6 :: Value.pointer (some ⟨qx, 0, none⟩) :: Value.pointer (some ⟨qc, 0, none⟩) :: u9 :: u10 :: c11 :: c12 :: c13 :: c14 :: c15 :: c16 :: c17 :: c18 :: c19 :: c20 :: c21 :: c22 :: c23 :: c24 :: c25 :: c26 :: c27 :: c28 :: c29 :: c30 :: c31 :: c32 :: c33 :: c34 :: c35 :: c36 :: c37 :: c38 :: c39 :: c40 :: c41 :: c42 :: c43 :: c44 :: c45 :: c46 :: c47 :: c48 :: c49 :: c50 :: c51 :: c52 :: c53 :: c54 :: c55 :: c56 :: c57 :: c58 :: c59 :: c60 :: c61 :: c62 :: c63 :: c64 :: c65 :: c66 :: c67 :: c68 :: c69 :: c70 :: c71 :: c72 :: u73 :: u74 :: u75 :: u76 :: u77 :: u78 :: u79 :: u80 :: u81 :: u82 :: u83 :: u84 :: u85 :: u86 :: u87 :: u88 :: u89 :: u90 :: u91 :: u92 :: u93 :: u94 :: u95 :: u96 :: u97 :: u98 :: u99 :: u100 :: u101 :: u102 :: u103 :: u104 :: u105 :: u106 :: u107 :: u108 :: u109 :: u110 :: u111 :: u112 :: u113 :: u114 :: u115 :: u116 :: u117 :: u118 :: u119 :: u120 :: u121 :: u122 :: u123 :: u124 :: u125 :: u126 :: u127 :: u128 :: u129 :: u130 :: u131 :: u132 :: u133 :: u134 :: u135 :: u136 :: u137 :: u138 :: u139 :: u140 :: u141 :: u142 :: u143 :: u144 :: u145 :: u146 :: u147 :: u148 :: u149 :: u150 :: u151 :: u152 :: u153 :: u154 :: u155 :: u156 :: u157 :: u158 :: u159 :: u160 :: u161 :: u162 :: u163 :: u164 :: u165 :: u166 :: u167 :: u168 :: u169 :: c170 :: c171 :: c172 :: c173 :: c174 :: c175 :: c176 :: []), []⟩ wr)) :
    Code.wp Try.prog (Code.loop rbBody2) (Exit.inBlock 2 (Exit.then K3 Q3)) ⟨List.toArray (c0 :: c1 :: Value.pointer (some ⟨q1, 0, none⟩) :: c3 :: Value.pointer (some ⟨qb, 0, none⟩) :: c5 :: c6 :: Value.pointer (some ⟨qx, 0, none⟩) :: Value.pointer (some ⟨qc, 0, none⟩) :: Value.int .i64 0 :: c10 :: c11 :: c12 :: c13 :: c14 :: c15 :: c16 :: c17 :: c18 :: c19 :: c20 :: c21 :: c22 :: c23 :: c24 :: c25 :: c26 :: c27 :: c28 :: c29 :: c30 :: c31 :: c32 :: c33 :: c34 :: c35 :: c36 :: c37 :: c38 :: c39 :: c40 :: c41 :: c42 :: c43 :: c44 :: c45 :: c46 :: c47 :: c48 :: c49 :: c50 :: c51 :: c52 :: c53 :: c54 :: c55 :: c56 :: c57 :: c58 :: c59 :: c60 :: c61 :: c62 :: c63 :: c64 :: c65 :: c66 :: c67 :: c68 :: c69 :: c70 :: c71 :: c72 :: c73 :: c74 :: c75 :: c76 :: c77 :: c78 :: c79 :: c80 :: c81 :: c82 :: c83 :: c84 :: c85 :: c86 :: c87 :: c88 :: c89 :: c90 :: c91 :: c92 :: c93 :: c94 :: c95 :: c96 :: c97 :: c98 :: c99 :: c100 :: c101 :: c102 :: c103 :: c104 :: c105 :: c106 :: c107 :: c108 :: c109 :: c110 :: c111 :: c112 :: c113 :: c114 :: c115 :: c116 :: c117 :: c118 :: c119 :: c120 :: c121 :: c122 :: c123 :: c124 :: c125 :: c126 :: c127 :: c128 :: c129 :: c130 :: c131 :: c132 :: c133 :: c134 :: c135 :: c136 :: c137 :: c138 :: c139 :: c140 :: c141 :: c142 :: c143 :: c144 :: c145 :: c146 :: c147 :: c148 :: c149 :: c150 :: c151 :: c152 :: c153 :: c154 :: c155 :: c156 :: c157 :: c158 :: c159 :: c160 :: c161 :: c162 :: c163 :: c164 :: c165 :: c166 :: c167 :: c168 :: c169 :: c170 :: c171 :: c172 :: c173 :: c174 :: c175 :: c176 :: []), []⟩ wz := by
  obtain ⟨it, hit, htz0, htz1, htz2⟩ := info_parts infoAct
  have HT := hide (⟨hit, htz0, htz1, htz2⟩ : _ ∧ _ ∧ _ ∧ _)
  clear hit htz0 htz1 htz2
  conv => arg 2; arg 1; whnf
  go_loopw [9] (fun i wr => ∃ j : Nat, j ≤ m3 ∧ i = .int .i64 j ∧ Hid (ActsR M n B qc ys st ms nx wz j wr)) (fun i _ => m3 - (intOf i).toNat)
  case atStart => exact ⟨0, by omega, rfl, none, 0, [], Below.refl _ _, HQC.out, Grow.nil _, by simp [allV]⟩
  case round =>
    obtain ⟨j, hj, rfl, HR⟩ := hrel
    obtain ⟨ca, cc, acts, r1, r2, r3, r4⟩ := HR.out
    have HR1 := hide r1
    have HR2 := hide r2
    have HR3' := hide r3
    have HR4 := hide r4
    clear r1 r2 r3 r4
    obtain ⟨al, hal⟩ : ∃ al, acts.length = al := ⟨_, rfl⟩
    rw [hal] at HR2 HR3'
    have HAL := hide hal
    have hal8 : al ≤ 8 := by have h := (allV_len _ _ _ HR4.out).1; rw [hal, List.length_take] at h; omega
    clear hal
    have hqz : qc < wr.heap.size := (Array.getElem?_eq_some_iff.1 HR2.out).1
    have HX3 : Hid (∀ w1, Below qc wz w1 → w1.cell? ⟨qx, 3, none⟩ = some (.slice (some ⟨xb, xo, none⟩) 5 xc)) := fun w1 h1 => (below_cells h1 _ _ hxc).trans HX.out
    have x3 := HX3.out wr HR1.out
    have x15 := (HYS.out wr HR1.out).1
    have hxw : xb < wr.heap.size := by omega
    have hqxw : qx < wr.heap.size := by omega
    by_cases hlt : j < m3
    rotate_left
    · obtain rfl : j = m3 := by omega
      go_wp2_with fail
      exact HK3.out _ _ _ _ _ _ _ _ _ _ _ _ _ _ _ _ _ _ _ _ _ _ _ _ _ _ _ _ _ _ _ _ _ _ _ _ _ _ _ _ _ _ _ _ _ _ _ _ _ _ _ _ _ _ _ _ _ _ _ _ _ _ _ _ _ _ _ _ _ _ _ _ _ _ _ _ _ _ _ _ _ _ _ _ _ _ _ _ _ _ _ _ _ _ _ _ _ _ _ _ HR
    clear HR
    obtain ⟨y, hy⟩ : ∃ y, ys[j]? = some y := ⟨ys[j]'(by rw [HM3.out]; exact hlt), List.getElem?_eq_getElem _⟩
    have HY := hide hy
    have HYR := hide ((HYS.out wr HR1.out).2 j y hy).1
    obtain ⟨yb, yo, rfl, hyb, _, _⟩ := ((HYS.out wr HR1.out).2 j y hy).2
    have HYI : Hid (∀ w1, Below qc wz w1 → Held w1 yb (yo + j * 4) (n + 2) y ∧ In B w1 (n + 2) y) := fun w1 h1 => by
      obtain ⟨b', o', e1, _, e3, e4⟩ := ((HYS.out w1 h1).2 j y hy).2
      injection e1 with e1
      injection e1 with e5 e6
      subst e5 e6
      exact ⟨e3, e4⟩
    clear hy
    have hj1 : (0 : Int) ≤ (j : Int) := by omega
    have hj2 : (j : Int) < (m3 : Int) := by omega
    have hyw : yb < wr.heap.size := by omega
    obtain ⟨⟨y0, y1, y2, y3⟩, _⟩ := HYI.out wr HR1.out
    have HRD := hide (rdA_is M (n + 1) y)
    have HPA : Hid (∀ s k, isT (n + 1) y s k = true → 0 < k → ∃ eb eo, y.2.1.1 = some ⟨eb, eo, none⟩ ∧ eb < B) := fun s k h hk => parts_at h (HYI.out wr HR1.out).2 hk
    have HPP : Hid (∀ s k, isT (n + 1) y s k = true → ∃ h0, y.2.2 = h0 :: partsT (n + 1) y ∧ (partsT (n + 1) y).length = k ∧ y.2.2.length = k + 1) := fun s k h => isT_parts h
    have HPH : Hid (∀ w1, Below qc wz w1 → ∀ eb eo, y.2.1.1 = some ⟨eb, eo, none⟩ → ∀ (i : Nat) (a : Tm (n + 1)), y.2.2[i]? = some a → Held w1 eb (eo + i * 4) (n + 1) a ∧ In B w1 (n + 1) a) := fun w1 h1 eb eo he i a ha => parts_held (HYI.out w1 h1).2 he ha
    have HI1 : Hid (∀ w1, Below qc wz w1 → Calls Try.prog 74 #[.agg #[.int .i64 y.1.1, .int .i64 y.1.2.1, .string y.1.2.2, .slice y.2.1.1 y.2.2.length y.2.1.2], .string ⟨#[115, 101, 110, 100]⟩, .int .i64 2] w1 fun e w' => e = .returned (.bool (isT (n + 1) y wSend 2)) ∧ Below w1.heap.size w1 w') := fun w1 h1 => ris_any (n + 1) y B wSend 2 w1 (HYI.out w1 h1).2 (by have := h1.size; omega) HYR.out (by omega)
    have HI2 : Hid (∀ w1, Below qc wz w1 → Calls Try.prog 74 #[.agg #[.int .i64 y.1.1, .int .i64 y.1.2.1, .string y.1.2.2, .slice y.2.1.1 y.2.2.length y.2.1.2], .string ⟨#[115, 112, 97, 119, 110]⟩, .int .i64 3] w1 fun e w' => e = .returned (.bool (isT (n + 1) y wSpawn 3)) ∧ Below w1.heap.size w1 w') := fun w1 h1 => ris_any (n + 1) y B wSpawn 3 w1 (HYI.out w1 h1).2 (by have := h1.size; omega) HYR.out (by omega)
    have HI3 : Hid (∀ w1, Below qc wz w1 → Calls Try.prog 74 #[.agg #[.int .i64 y.1.1, .int .i64 y.1.2.1, .string y.1.2.2, .slice y.2.1.1 y.2.2.length y.2.1.2], .string ⟨#[108, 105, 110, 107]⟩, .int .i64 1] w1 fun e w' => e = .returned (.bool (isT (n + 1) y wLink 1)) ∧ Below w1.heap.size w1 w') := fun w1 h1 => ris_any (n + 1) y B wLink 1 w1 (HYI.out w1 h1).2 (by have := h1.size; omega) HYR.out (by omega)
    have HI4 : Hid (∀ w1, Below qc wz w1 → Calls Try.prog 74 #[.agg #[.int .i64 y.1.1, .int .i64 y.1.2.1, .string y.1.2.2, .slice y.2.1.1 y.2.2.length y.2.1.2], .string ⟨#[115, 116, 111, 112]⟩, .int .i64 0] w1 fun e w' => e = .returned (.bool (isT (n + 1) y wStop 0)) ∧ Below w1.heap.size w1 w') := fun w1 h1 => ris_any (n + 1) y B wStop 0 w1 (HYI.out w1 h1).2 (by have := h1.size; omega) HYR.out (by omega)
    generalize hb1 : isT (n + 1) y wSend 2 = b1 at *
    generalize hb2 : isT (n + 1) y wSpawn 3 = b2 at *
    generalize hb3 : isT (n + 1) y wLink 1 = b3 at *
    generalize hb4 : isT (n + 1) y wStop 0 = b4 at *
    replace hb1 := hide hb1
    replace hb2 := hide hb2
    replace hb3 := hide hb3
    replace hb4 := hide hb4
    have HBT : Hid (∀ w1, Below wr.heap.size wr w1 → Below qc wz w1) := fun w1 h1 => HR1.out.trans (h1.mono (by omega))
    go_wp2_with fail
    refine (HI1.out _ (HBT.out _ one_alloc)).mono ?_
    rintro e w2 ⟨rfl, hbb⟩
    have HB2 : Hid (Below wr.heap.size wr w2) := one_alloc.trans (hbb.mono (by simp))
    have HY2 := hide (box4_new wr _ _ _ _ _ hbb)
    clear hbb y0 y1 y2 y3 x3 x15 HI1
    cases b1
    rotate_left
    · obtain ⟨h0, hy5, hq4, hy4⟩ := HPP.out _ _ hb1.out
      obtain ⟨a, b, hps⟩ : ∃ a b, partsT (n + 1) y = [a, b] := by
        match hp : partsT (n + 1) y, hq4 with
        | [a, b], _ => exact ⟨a, b, rfl⟩
      obtain ⟨eb, eo, hye, heb⟩ := HPA.out _ _ hb1.out (by omega)
      rw [hps] at hy5
      have HPW : Hid (∀ w', Below qc wz w' → ((w'.cell? ⟨eb, eo + 4, none⟩ = some (.int .i64 a.1.1) ∧ w'.cell? ⟨eb, eo + 4 + 1, none⟩ = some (.int .i64 a.1.2.1) ∧ w'.cell? ⟨eb, eo + 4 + 2, none⟩ = some (.string a.1.2.2) ∧ w'.cell? ⟨eb, eo + 4 + 3, none⟩ = some (.slice a.2.1.1 a.2.2.length a.2.1.2)) ∧ (w'.cell? ⟨eb, eo + 8, none⟩ = some (.int .i64 b.1.1) ∧ w'.cell? ⟨eb, eo + 8 + 1, none⟩ = some (.int .i64 b.1.2.1) ∧ w'.cell? ⟨eb, eo + 8 + 2, none⟩ = some (.string b.1.2.2) ∧ w'.cell? ⟨eb, eo + 8 + 3, none⟩ = some (.slice b.2.1.1 b.2.2.length b.2.1.2))) ∧ In B w' (n + 1) a ∧ In B w' (n + 1) b) := fun w' h1 => by
        have g := HPH.out w' h1 eb eo hye
        rw [hy5] at g
        have g1 := g 1 a (by simp)
        have g2 := g 2 b (by simp)
        exact ⟨⟨g1.1, g2.1⟩, g1.2, g2.2⟩
      have HRX : Hid (rdA M (n + 2) y = some (1, (lift (M + 1) (n + 1) a, lift (M + 1) (n + 1) b), (.empty, 0))) := (by
        show _ = _
        rw [HRD.out, hps]
        simp [])
      have HXI : Hid (∀ w', Below wr.heap.size wr w' → AcIn (M + 1) w'.heap.size w' (1, (lift (M + 1) (n + 1) a, lift (M + 1) (n + 1) b), (.empty, 0)) ∧ AcOff (M + 1) (fun b => b < B ∨ wr.heap.size ≤ b) (1, (lift (M + 1) (n + 1) a, lift (M + 1) (n + 1) b), (.empty, 0))) := fun w' h' => by
        have hz' : B ≤ w'.heap.size := by have := h'.size; omega
        exact ⟨⟨(by simp [I64]), (lift_in (M + 1) (n + 1) hM a B w' (HPW.out w' (HBT.out _ h')).2.1).mono hz', (lift_in (M + 1) (n + 1) hM b B w' (HPW.out w' (HBT.out _ h')).2.2).mono hz', Nat.zero_le _, (by simp [I64])⟩, ⟨(in_offLow (lift_in (M + 1) (n + 1) hM a B w' (HPW.out w' (HBT.out _ h')).2.1)).mono fun b hb => Or.inl hb, (in_offLow (lift_in (M + 1) (n + 1) hM b B w' (HPW.out w' (HBT.out _ h')).2.2)).mono fun b hb => Or.inl hb⟩⟩
      have HXC : Hid (ac11 (M + 1) (1, (lift (M + 1) (n + 1) a, lift (M + 1) (n + 1) b), (.empty, 0)) = [.int .i64 1, .int .i64 a.1.1, .int .i64 a.1.2.1, .string a.1.2.2, .slice a.2.1.1 a.2.2.length a.2.1.2, .int .i64 b.1.1, .int .i64 b.1.2.1, .string b.1.2.2, .slice b.2.1.1 b.2.2.length b.2.1.2, .string ⟨#[]⟩, .int .i64 0]) := (by
        show _ = _
        simp only [ac11, tm4_lift]
        rfl)
      have HST := fun (W w4 : World) (gg gc : Nat) (hW : Below wr.heap.size wr W) (hown : w4.ownsRow (qc + 1) 137 11 (.slice (some ⟨gg, 0, none⟩) (al + 1) gc) (al + 1) (acts.flatMap (ac11 (M + 1)) ++ [.int .i64 1, .int .i64 a.1.1, .int .i64 a.1.2.1, .string a.1.2.2, .slice a.2.1.1 a.2.2.length a.2.1.2, .int .i64 b.1.1, .int .i64 b.1.2.1, .string b.1.2.2, .slice b.2.1.1 b.2.2.length b.2.1.2, .string ⟨#[]⟩, .int .i64 0])) hgrow hat => hide (acts_step (w4 := w4) (g := gg) (c := gc) (by omega : B ≤ qc) HAL.out HR1.out HR2.out HR3'.out HR4.out HY.out HRX.out hW hqz (HXI.out W hW).1 (HXI.out W hW).2 (by rw [HXC.out]; exact hown) hgrow hat)
      have HOW := fun (W : World) (hW : Below wr.heap.size wr W) => hide (show W.ownsRow (qc + 1) 137 11 (.slice ca al cc) al (acts.flatMap (ac11 (M + 1))) from (by have h := own_below HR3'.out.2.1 hW; rw [HAL.out] at h; exact h))
      clear HPA HPP HPH HI2 HI3 HI4
      rw [hye, hy4] at HY2
      have hew : eb < w2.heap.size := by have := HB2.out.size; omega
      have hltw2 : wr.heap.size < w2.heap.size := (Array.getElem?_eq_some_iff.1 HY2.out).1
      have HSW : Hid (∀ w', Below w2.heap.size w2 w' → w'.cell? ⟨qc, 8, none⟩ = some (.slice ca al cc) ∧ w'.cell? ⟨wr.heap.size, 3, none⟩ = some (.slice (some ⟨eb, eo, none⟩) 3 y.2.1.2) ∧ (w'.cell? ⟨eb, eo + 4, none⟩ = some (.int .i64 a.1.1) ∧ w'.cell? ⟨eb, eo + 4 + 1, none⟩ = some (.int .i64 a.1.2.1) ∧ w'.cell? ⟨eb, eo + 4 + 2, none⟩ = some (.string a.1.2.2) ∧ w'.cell? ⟨eb, eo + 4 + 3, none⟩ = some (.slice a.2.1.1 a.2.2.length a.2.1.2)) ∧ (w'.cell? ⟨eb, eo + 8, none⟩ = some (.int .i64 b.1.1) ∧ w'.cell? ⟨eb, eo + 8 + 1, none⟩ = some (.int .i64 b.1.2.1) ∧ w'.cell? ⟨eb, eo + 8 + 2, none⟩ = some (.string b.1.2.2) ∧ w'.cell? ⟨eb, eo + 8 + 3, none⟩ = some (.slice b.2.1.1 b.2.2.length b.2.1.2))) := fun w' h' => by
        have hb' := HB2.out.trans (h'.mono HB2.out.size)
        have g := (HPW.out w' (HBT.out _ hb')).1
        have hc8 : w'.cell? ⟨qc, 8, none⟩ = some (.slice ca al cc) := box_cell ((hb'.block _ hqz).trans HR2.out) 8
        have hc3 : w'.cell? ⟨wr.heap.size, 3, none⟩ = some (.slice (some ⟨eb, eo, none⟩) 3 y.2.1.2) := box_cell ((h'.block _ hltw2).trans HY2.out) 3
        exact ⟨hc8, hc3, g⟩
      have HDR : Hid (Below w2.heap.size w2 w2.drew) := (Below.refl _ _).drew
      have HBS : Hid (Below w2.heap.size w2 (w2.alloc (.cells #[.int .i64 1, .int .i64 a.1.1, .int .i64 a.1.2.1, .string a.1.2.2, .slice a.2.1.1 a.2.2.length a.2.1.2, .int .i64 b.1.1, .int .i64 b.1.2.1, .string b.1.2.2, .slice b.2.1.1 b.2.2.length b.2.1.2, .string ⟨#[]⟩, .int .i64 0] 137)).drew ∧ (w2.alloc (.cells #[.int .i64 1, .int .i64 a.1.1, .int .i64 a.1.2.1, .string a.1.2.2, .slice a.2.1.1 a.2.2.length a.2.1.2, .int .i64 b.1.1, .int .i64 b.1.2.1, .string b.1.2.2, .slice b.2.1.1 b.2.2.length b.2.1.2, .string ⟨#[]⟩, .int .i64 0] 137)).drew.heap.size = w2.heap.size + 1 ∧ (w2.alloc (.cells #[.int .i64 1, .int .i64 a.1.1, .int .i64 a.1.2.1, .string a.1.2.2, .slice a.2.1.1 a.2.2.length a.2.1.2, .int .i64 b.1.1, .int .i64 b.1.2.1, .string b.1.2.2, .slice b.2.1.1 b.2.2.length b.2.1.2, .string ⟨#[]⟩, .int .i64 0] 137)).drew.heap[w2.heap.size]? = some (.cells #[.int .i64 1, .int .i64 a.1.1, .int .i64 a.1.2.1, .string a.1.2.2, .slice a.2.1.1 a.2.2.length a.2.1.2, .int .i64 b.1.1, .int .i64 b.1.2.1, .string b.1.2.2, .slice b.2.1.1 b.2.2.length b.2.1.2, .string ⟨#[]⟩, .int .i64 0] 137)) := ⟨by go_grown, by simp, new_last w2 _ rfl⟩
      have HOW1 := HOW _ (HB2.out.trans (HBS.out.1.mono HB2.out.size))
      go_wp2_with fail
      refine wp_region_noPanic ?_
      refine wp_region_x (fun w' => w'.cell? ⟨qc, 8, none⟩ = some (.slice ca al cc) ∧ w'.cell? ⟨wr.heap.size, 3, none⟩ = some (.slice (some ⟨eb, eo, none⟩) 3 y.2.1.2) ∧ (w'.cell? ⟨eb, eo + 4, none⟩ = some (.int .i64 a.1.1) ∧ w'.cell? ⟨eb, eo + 4 + 1, none⟩ = some (.int .i64 a.1.2.1) ∧ w'.cell? ⟨eb, eo + 4 + 2, none⟩ = some (.string a.1.2.2) ∧ w'.cell? ⟨eb, eo + 4 + 3, none⟩ = some (.slice a.2.1.1 a.2.2.length a.2.1.2)) ∧ (w'.cell? ⟨eb, eo + 8, none⟩ = some (.int .i64 b.1.1) ∧ w'.cell? ⟨eb, eo + 8 + 1, none⟩ = some (.int .i64 b.1.2.1) ∧ w'.cell? ⟨eb, eo + 8 + 2, none⟩ = some (.string b.1.2.2) ∧ w'.cell? ⟨eb, eo + 8 + 3, none⟩ = some (.slice b.2.1.1 b.2.2.length b.2.1.2))) 14 (by kernel_rfl) ?_
      have hS0 := HSW.out _ HDR.out
      refine wpAnyX_take (i := 0) (v := ?_) rfl (by kernel_rfl) (by kernel_rfl) (by kernel_rfl) (by kernel_rfl) (fun _ _ _ h => h) rfl ?_ hS0 ?_
      rotate_left
      · intro w' hw'
        try dsimp only at hw'
        go_simp
        try with_reducible rfl
      try simp only [Act.put, List.setIfInBounds_toArray]
      refine wpAnyX_take (i := 1) (v := ?_) rfl (by kernel_rfl) (by kernel_rfl) (by kernel_rfl) (by kernel_rfl) (fun _ _ _ h => h) rfl ?_ hS0 ?_
      rotate_left
      · intro w' hw'
        try dsimp only at hw'
        go_simp
        try with_reducible rfl
      try simp only [Act.put]
      refine wpAnyX_take (i := 2) (v := ?_) rfl (by kernel_rfl) (by kernel_rfl) (by kernel_rfl) (by kernel_rfl) (fun _ _ _ h => h) rfl ?_ hS0 ?_
      rotate_left
      · intro w' hw'
        try dsimp only at hw'
        go_simp
        try with_reducible rfl
      try simp only [Act.put]
      refine wpAnyX_take (i := 3) (v := ?_) rfl (by kernel_rfl) (by kernel_rfl) (by kernel_rfl) (by kernel_rfl) (fun _ _ _ h => h) rfl ?_ hS0 ?_
      rotate_left
      · intro w' hw'
        try dsimp only at hw'
        go_simp
        try with_reducible rfl
      try simp only [Act.put]
      refine wpAnyX_take (i := 4) (v := ?_) rfl (by kernel_rfl) (by kernel_rfl) (by kernel_rfl) (by kernel_rfl) (fun _ _ _ h => h) rfl ?_ hS0 ?_
      rotate_left
      · intro w' hw'
        try dsimp only at hw'
        go_simp
        try with_reducible rfl
      try simp only [Act.put]
      refine wpAnyX_take (i := 5) (v := ?_) rfl (by kernel_rfl) (by kernel_rfl) (by kernel_rfl) (by kernel_rfl) (fun _ _ _ h => h) rfl ?_ hS0 ?_
      rotate_left
      · intro w' hw'
        try dsimp only at hw'
        go_simp
        try with_reducible rfl
      try simp only [Act.put]
      refine wpAnyX_take (i := 6) (v := ?_) rfl (by kernel_rfl) (by kernel_rfl) (by kernel_rfl) (by kernel_rfl) (fun _ _ _ h => h) rfl ?_ hS0 ?_
      rotate_left
      · intro w' hw'
        try dsimp only at hw'
        go_simp
        try with_reducible rfl
      try simp only [Act.put]
      refine wpAnyX_take (i := 7) (v := ?_) rfl (by kernel_rfl) (by kernel_rfl) (by kernel_rfl) (by kernel_rfl) (fun _ _ _ h => h) rfl ?_ hS0 ?_
      rotate_left
      · intro w' hw'
        try dsimp only at hw'
        go_simp
        try with_reducible rfl
      try simp only [Act.put]
      refine wpAnyX_take (i := 8) (v := ?_) rfl (by kernel_rfl) (by kernel_rfl) (by kernel_rfl) (by kernel_rfl) (fun _ _ _ h => h) rfl ?_ hS0 ?_
      rotate_left
      · intro w' hw'
        try dsimp only at hw'
        go_simp
        try with_reducible rfl
      try simp only [Act.put]
      refine wpAnyX_take (i := 9) (v := ?_) rfl (by kernel_rfl) (by kernel_rfl) (by kernel_rfl) (by kernel_rfl) (fun _ _ _ h => h) rfl ?_ hS0 ?_
      rotate_left
      · intro w' hw'
        try dsimp only at hw'
        go_simp
        try with_reducible rfl
      try simp only [Act.put]
      refine wpAnyX_take (i := 10) (v := ?_) rfl (by kernel_rfl) (by kernel_rfl) (by kernel_rfl) (by kernel_rfl) (fun _ _ _ h => h) rfl ?_ hS0 ?_
      rotate_left
      · intro w' hw'
        try dsimp only at hw'
        go_simp
        try with_reducible rfl
      try simp only [Act.put]
      refine wpAnyX_one (i := 11) (by kernel_rfl) rfl rfl (fun K hK => ?_) (by decide)
      go_simp
      refine hK.out _ _ (fun _ => HSW.out _ HBS.out.1) (fun hS1 => ?_)
      clear hK K
      try simp only [Act.put, List.setIfInBounds_toArray, List.set_cons_zero, List.set_cons_succ]
      refine wpAnyX_one (i := 12) (by kernel_rfl) rfl rfl (fun K hK => ?_) (by decide)
      refine wp_append_lies _ _ _ 133 rfl (qc + 1) 137 it _ 11 144 Try.underlying133 HT.out.1 HT.out.2.1 HT.out.2.2.1 HT.out.2.2.2 rfl (by decide) (.slice ca al cc) al (acts.flatMap (ac11 (M + 1))) (by simp [Act.eval]) HOW1.out ⟨w2.heap.size, 0, none⟩ 1 1 [.int .i64 1, .int .i64 a.1.1, .int .i64 a.1.2.1, .string a.1.2.2, .slice a.2.1.1 a.2.2.length a.2.1.2, .int .i64 b.1.1, .int .i64 b.1.2.1, .string b.1.2.2, .slice b.2.1.1 b.2.2.length b.2.1.2, .string ⟨#[]⟩, .int .i64 0] (by simp [Act.eval]) rfl (World.news_of_block (cs := #[.int .i64 1, .int .i64 a.1.1, .int .i64 a.1.2.1, .string a.1.2.2, .slice a.2.1.1 a.2.2.length a.2.1.2, .int .i64 b.1.1, .int .i64 b.1.2.1, .string b.1.2.2, .slice b.2.1.1 b.2.2.length b.2.1.2, .string ⟨#[]⟩, .int .i64 0]) (t := 137) (fr := (0, 0)) HBS.out.2.2) (by simp [Value.oneCell']) (by decide) (by unfold maxLen; omega) (by omega) (by have := HBS.out.2.1; omega) (w2.heap.size + 1) HBS.out.2.1 ?_
      intro g4 c4 w4 hown4 hgrow4 hat4 hlt4
      have HS4 := HST _ w4 g4 c4 (HB2.out.trans (HBS.out.1.mono HB2.out.size)) hown4 hgrow4 (by rw [HBS.out.2.1]; exact hat4)
      have d8 : w4.cell? ⟨qc, 8, none⟩ = some (.slice ca al cc) := box_cell HS4.out.2.1 8
      have f8 := box_free HS4.out.2.1 8
      clear hown4 hat4 hlt4 HST HOW HOW1
      have HBX : Hid (w4.heap[wr.heap.size]? = some (.cells #[.int .i64 y.1.1, .int .i64 y.1.2.1, .string y.1.2.2, .slice (some ⟨eb, eo, none⟩) 3 y.2.1.2] 24)) := (grown_at hgrow4 (by have := HBS.out.2.1; omega) (fun e => by have := HR3'.out.2.1.lt _ e; omega)).trans ((HBS.out.1.block _ hltw2).trans HY2.out)
      refine hK.out _ _ (fun _ => ⟨d8, box_cell HBX.out 3, (HPW.out w4 (HR1.out.trans (HS4.out.1.mono (by have := HR1.out.size; omega)))).1⟩) (fun hS2 => ?_)
      clear hK K HBX hgrow4
      try simp only [Act.put, List.setIfInBounds_toArray]
      refine wpAnyX_take (i := 13) (v := ?_) rfl (by kernel_rfl) (by kernel_rfl) (by kernel_rfl) (by kernel_rfl) (fun _ _ _ h => h) rfl ?_ hS2 ?_
      rotate_left
      · intro w' hw'
        try dsimp only at hw'
        go_simp
        try with_reducible rfl
      try simp only [Act.put]
      refine wpAnyX_last (by kernel_rfl) rfl rfl (by kernel_rfl) (fun K hK => ?_)
      go_simp
      refine hK.out _ _ (NoPanic.normal ?_)
      clear hK K
      try simp only [Act.put, List.setIfInBounds_toArray, List.set_cons_zero, List.set_cons_succ]
      go_wp2_with fail
      go_roundw
      case rel => exact ⟨j + 1, by omega, by go_num, HS4.out.2.2⟩
      case measure => simp [intOf]; omega
    have hltw2 : wr.heap.size < w2.heap.size := (Array.getElem?_eq_some_iff.1 HY2.out).1
    have y0 : w2.cell? ⟨wr.heap.size, 0, none⟩ = some (.int .i64 y.1.1) := box_cell HY2.out 0
    have y1 : w2.cell? ⟨wr.heap.size, 1, none⟩ = some (.int .i64 y.1.2.1) := box_cell HY2.out 1
    have y2 : w2.cell? ⟨wr.heap.size, 2, none⟩ = some (.string y.1.2.2) := box_cell HY2.out 2
    have y3 : w2.cell? ⟨wr.heap.size, 3, none⟩ = some (.slice y.2.1.1 y.2.2.length y.2.1.2) := box_cell HY2.out 3
    go_wp2_with fail
    refine (HI2.out _ (HBT.out _ HB2.out)).mono ?_
    rintro e w3 ⟨rfl, hbb⟩
    have HB3 : Hid (Below wr.heap.size wr w3) := HB2.out.trans (hbb.mono HB2.out.size)
    have HY3 := hide ((hbb.block _ hltw2).trans HY2.out)
    clear hbb y0 y1 y2 y3 HI2
    cases b2
    rotate_left
    · obtain ⟨h0, hy5, hq4, hy4⟩ := HPP.out _ _ hb2.out
      obtain ⟨a, b, c, hps⟩ : ∃ a b c, partsT (n + 1) y = [a, b, c] := by
        match hp : partsT (n + 1) y, hq4 with
        | [a, b, c], _ => exact ⟨a, b, c, rfl⟩
      obtain ⟨eb, eo, hye, heb⟩ := HPA.out _ _ hb2.out (by omega)
      rw [hps] at hy5
      have HPW : Hid (∀ w', Below qc wz w' → ((w'.cell? ⟨eb, eo + 4, none⟩ = some (.int .i64 a.1.1) ∧ w'.cell? ⟨eb, eo + 4 + 1, none⟩ = some (.int .i64 a.1.2.1) ∧ w'.cell? ⟨eb, eo + 4 + 2, none⟩ = some (.string a.1.2.2) ∧ w'.cell? ⟨eb, eo + 4 + 3, none⟩ = some (.slice a.2.1.1 a.2.2.length a.2.1.2)) ∧ (w'.cell? ⟨eb, eo + 8, none⟩ = some (.int .i64 b.1.1) ∧ w'.cell? ⟨eb, eo + 8 + 1, none⟩ = some (.int .i64 b.1.2.1) ∧ w'.cell? ⟨eb, eo + 8 + 2, none⟩ = some (.string b.1.2.2) ∧ w'.cell? ⟨eb, eo + 8 + 3, none⟩ = some (.slice b.2.1.1 b.2.2.length b.2.1.2)) ∧ (w'.cell? ⟨eb, eo + 12, none⟩ = some (.int .i64 c.1.1) ∧ w'.cell? ⟨eb, eo + 12 + 1, none⟩ = some (.int .i64 c.1.2.1) ∧ w'.cell? ⟨eb, eo + 12 + 2, none⟩ = some (.string c.1.2.2) ∧ w'.cell? ⟨eb, eo + 12 + 3, none⟩ = some (.slice c.2.1.1 c.2.2.length c.2.1.2))) ∧ In B w' (n + 1) a ∧ In B w' (n + 1) b ∧ In B w' (n + 1) c) := fun w' h1 => by
        have g := HPH.out w' h1 eb eo hye
        rw [hy5] at g
        have g1 := g 1 a (by simp)
        have g2 := g 2 b (by simp)
        have g3 := g 3 c (by simp)
        exact ⟨⟨g1.1, g2.1, g3.1⟩, g1.2, g2.2, g3.2⟩
      rw [hye, hy4] at HY3
      have hb3f : b3 = false := (by
        cases b3
        · rfl
        · obtain ⟨_, _, _, h⟩ := HPP.out _ _ hb3.out
          omega)
      have hb4f : b4 = false := (by
        cases b4
        · rfl
        · obtain ⟨_, _, _, h⟩ := HPP.out _ _ hb4.out
          omega)
      subst hb3f hb4f
      have hltw3 : wr.heap.size < w3.heap.size := (Array.getElem?_eq_some_iff.1 HY3.out).1
      have z3 : w3.cell? ⟨wr.heap.size, 3, none⟩ = some (.slice (some ⟨eb, eo, none⟩) 4 y.2.1.2) := box_cell HY3.out 3
      have hew3 : eb < w3.heap.size := by have := HB3.out.size; omega
      obtain ⟨⟨⟨ka0, _⟩, _, kc0, _⟩, _⟩ := HPW.out w3 (HBT.out _ HB3.out)
      by_cases hka : a.1.1 = 2
      rotate_left
      · have HNO : Hid (rdA M (n + 2) y = none) := (by
          show _ = _
          rw [HRD.out, hps]
          simp [rdSp, kindA, hka])
        have hka' : (a.1.1 == 2) = false := by simpa using hka
        rw [hye, hy4] at HI3 HI4
        have y0 : w3.cell? ⟨wr.heap.size, 0, none⟩ = some (.int .i64 y.1.1) := box_cell HY3.out 0
        have y1 : w3.cell? ⟨wr.heap.size, 1, none⟩ = some (.int .i64 y.1.2.1) := box_cell HY3.out 1
        have y2 : w3.cell? ⟨wr.heap.size, 2, none⟩ = some (.string y.1.2.2) := box_cell HY3.out 2
        go_wp2_with fail
        refine (HI3.out _ (HBT.out _ HB3.out)).mono ?_
        rintro e w5 ⟨rfl, hbb⟩
        have HB5 : Hid (Below wr.heap.size wr w5) := HB3.out.trans (hbb.mono HB3.out.size)
        have HY5 := hide ((hbb.block _ hltw3).trans HY3.out)
        clear hbb y0 y1 y2 z3 ka0 kc0 HI3
        have hltw5 : wr.heap.size < w5.heap.size := (Array.getElem?_eq_some_iff.1 HY5.out).1
        have y0 : w5.cell? ⟨wr.heap.size, 0, none⟩ = some (.int .i64 y.1.1) := box_cell HY5.out 0
        have y1 : w5.cell? ⟨wr.heap.size, 1, none⟩ = some (.int .i64 y.1.2.1) := box_cell HY5.out 1
        have y2 : w5.cell? ⟨wr.heap.size, 2, none⟩ = some (.string y.1.2.2) := box_cell HY5.out 2
        have y3 : w5.cell? ⟨wr.heap.size, 3, none⟩ = some (.slice (some ⟨eb, eo, none⟩) 4 y.2.1.2) := box_cell HY5.out 3
        go_wp2_with fail
        refine (HI4.out _ (HBT.out _ HB5.out)).mono ?_
        rintro e w6 ⟨rfl, hbb⟩
        have HB6 : Hid (Below wr.heap.size wr w6) := HB5.out.trans (hbb.mono HB5.out.size)
        clear hbb y0 y1 y2 y3 HI4
        have HBZ := hide (HBT.out _ HB6.out)
        have HB0 : Hid (w6.heap[qb]? = some (.cells #[.string nm, .slice ba bl bc] 127)) := (HBZ.out.block _ (by omega)).trans HQB.out
        have HQ0 : Hid (w6.heap[q1]? = some (.cells #[.string ⟨#[]⟩, .slice none 0 0] 127)) := (HBZ.out.block _ (by omega)).trans HQ1.out
        have n0 : w6.cell? ⟨qb, 0, none⟩ = some (.string nm) := box_cell HB0.out 0
        have n1 : w6.cell? ⟨qb, 1, none⟩ = some (.slice ba bl bc) := box_cell HB0.out 1
        have m0 : w6.cell? ⟨q1, 0, none⟩ = some (.string ⟨#[]⟩) := box_cell HQ0.out 0
        have m1 : w6.cell? ⟨q1, 1, none⟩ = some (.slice none 0 0) := box_cell HQ0.out 1
        have mf0 := box_free HQ0.out 0
        have mf1 := box_free HQ0.out 1
        go_wp2_with fail
        exact HR3.out _ _ _ _ _ _ _ _ _ _ _ _ _ _ _ _ _ _ _ _ _ _ _ _ _ _ _ _ _ _ _ _ _ _ _ _ _ _ _ _ _ _ _ _ _ _ _ _ _ _ _ _ _ _ _ _ _ _ _ _ _ _ _ _ _ _ _ _ _ _ _ _ _ _ _ _ _ _ _ _ _ _ _ _ _ _ _ _ _ _ _ _ _ _ _ _ _ _ _ _ ⟨((HBZ.out.mono (show q1 ≤ qc by omega)).setCell (Nat.le_refl _) _).setCell (Nat.le_refl _) _, allV_none _ _ _ _ HY.out HNO.out, by simp [World.setCell, Array.getElem?_modify, HQ0.out]⟩
      have hka' : (a.1.1 == 2) = true := by simpa using hka
      by_cases hkc : c.1.1 = 5
      rotate_left
      · have HNO : Hid (rdA M (n + 2) y = none) := (by
          show _ = _
          rw [HRD.out, hps]
          simp [rdSp, kindA, hkc])
        have hkc' : (c.1.1 == 5) = false := by simpa using hkc
        rw [hye, hy4] at HI3 HI4
        have y0 : w3.cell? ⟨wr.heap.size, 0, none⟩ = some (.int .i64 y.1.1) := box_cell HY3.out 0
        have y1 : w3.cell? ⟨wr.heap.size, 1, none⟩ = some (.int .i64 y.1.2.1) := box_cell HY3.out 1
        have y2 : w3.cell? ⟨wr.heap.size, 2, none⟩ = some (.string y.1.2.2) := box_cell HY3.out 2
        go_wp2_with fail
        refine (HI3.out _ (HBT.out _ HB3.out)).mono ?_
        rintro e w5 ⟨rfl, hbb⟩
        have HB5 : Hid (Below wr.heap.size wr w5) := HB3.out.trans (hbb.mono HB3.out.size)
        have HY5 := hide ((hbb.block _ hltw3).trans HY3.out)
        clear hbb y0 y1 y2 z3 ka0 kc0 HI3
        have hltw5 : wr.heap.size < w5.heap.size := (Array.getElem?_eq_some_iff.1 HY5.out).1
        have y0 : w5.cell? ⟨wr.heap.size, 0, none⟩ = some (.int .i64 y.1.1) := box_cell HY5.out 0
        have y1 : w5.cell? ⟨wr.heap.size, 1, none⟩ = some (.int .i64 y.1.2.1) := box_cell HY5.out 1
        have y2 : w5.cell? ⟨wr.heap.size, 2, none⟩ = some (.string y.1.2.2) := box_cell HY5.out 2
        have y3 : w5.cell? ⟨wr.heap.size, 3, none⟩ = some (.slice (some ⟨eb, eo, none⟩) 4 y.2.1.2) := box_cell HY5.out 3
        go_wp2_with fail
        refine (HI4.out _ (HBT.out _ HB5.out)).mono ?_
        rintro e w6 ⟨rfl, hbb⟩
        have HB6 : Hid (Below wr.heap.size wr w6) := HB5.out.trans (hbb.mono HB5.out.size)
        clear hbb y0 y1 y2 y3 HI4
        have HBZ := hide (HBT.out _ HB6.out)
        have HB0 : Hid (w6.heap[qb]? = some (.cells #[.string nm, .slice ba bl bc] 127)) := (HBZ.out.block _ (by omega)).trans HQB.out
        have HQ0 : Hid (w6.heap[q1]? = some (.cells #[.string ⟨#[]⟩, .slice none 0 0] 127)) := (HBZ.out.block _ (by omega)).trans HQ1.out
        have n0 : w6.cell? ⟨qb, 0, none⟩ = some (.string nm) := box_cell HB0.out 0
        have n1 : w6.cell? ⟨qb, 1, none⟩ = some (.slice ba bl bc) := box_cell HB0.out 1
        have m0 : w6.cell? ⟨q1, 0, none⟩ = some (.string ⟨#[]⟩) := box_cell HQ0.out 0
        have m1 : w6.cell? ⟨q1, 1, none⟩ = some (.slice none 0 0) := box_cell HQ0.out 1
        have mf0 := box_free HQ0.out 0
        have mf1 := box_free HQ0.out 1
        go_wp2_with fail
        exact HR3.out _ _ _ _ _ _ _ _ _ _ _ _ _ _ _ _ _ _ _ _ _ _ _ _ _ _ _ _ _ _ _ _ _ _ _ _ _ _ _ _ _ _ _ _ _ _ _ _ _ _ _ _ _ _ _ _ _ _ _ _ _ _ _ _ _ _ _ _ _ _ _ _ _ _ _ _ _ _ _ _ _ _ _ _ _ _ _ _ _ _ _ _ _ _ _ _ _ _ _ _ ⟨((HBZ.out.mono (show q1 ≤ qc by omega)).setCell (Nat.le_refl _) _).setCell (Nat.le_refl _) _, allV_none _ _ _ _ HY.out HNO.out, by simp [World.setCell, Array.getElem?_modify, HQ0.out]⟩
      have hkc' : (c.1.1 == 5) = true := by simpa using hkc
      have HRX : Hid (rdA M (n + 2) y = some (2, (zT M, lift (M + 1) (n + 1) b), (a.1.2.2, c.1.2.1))) := (by
        show _ = _
        rw [HRD.out, hps]
        simp [rdSp, kindA, hka, hkc, nameA, numA, hdT, hdOf])
      have HXI : Hid (∀ w', Below wr.heap.size wr w' → AcIn (M + 1) w'.heap.size w' (2, (zT M, lift (M + 1) (n + 1) b), (a.1.2.2, c.1.2.1)) ∧ AcOff (M + 1) (fun b => b < B ∨ wr.heap.size ≤ b) (2, (zT M, lift (M + 1) (n + 1) b), (a.1.2.2, c.1.2.1))) := fun w' h' => by
        have hz' : B ≤ w'.heap.size := by have := h'.size; omega
        exact ⟨⟨(by simp [I64]), zT_in _ _ _, (lift_in (M + 1) (n + 1) hM b B w' (HPW.out w' (HBT.out _ h')).2.2.1).mono hz', ((HPW.out w' (HBT.out _ h')).2.1).1.2.2.1, ((HPW.out w' (HBT.out _ h')).2.2.2).1.2.1⟩, ⟨Or.inl rfl, (in_offLow (lift_in (M + 1) (n + 1) hM b B w' (HPW.out w' (HBT.out _ h')).2.2.1)).mono fun b hb => Or.inl hb⟩⟩
      have HXC : Hid (ac11 (M + 1) (2, (zT M, lift (M + 1) (n + 1) b), (a.1.2.2, c.1.2.1)) = [.int .i64 2, .int .i64 0, .int .i64 0, .string ⟨#[]⟩, .slice none 0 0, .int .i64 b.1.1, .int .i64 b.1.2.1, .string b.1.2.2, .slice b.2.1.1 b.2.2.length b.2.1.2, .string a.1.2.2, .int .i64 c.1.2.1]) := (by
        show _ = _
        simp only [ac11, tm4_lift]
        rfl)
      have HST := fun (W w4 : World) (gg gc : Nat) (hW : Below wr.heap.size wr W) (hown : w4.ownsRow (qc + 1) 137 11 (.slice (some ⟨gg, 0, none⟩) (al + 1) gc) (al + 1) (acts.flatMap (ac11 (M + 1)) ++ [.int .i64 2, .int .i64 0, .int .i64 0, .string ⟨#[]⟩, .slice none 0 0, .int .i64 b.1.1, .int .i64 b.1.2.1, .string b.1.2.2, .slice b.2.1.1 b.2.2.length b.2.1.2, .string a.1.2.2, .int .i64 c.1.2.1])) hgrow hat => hide (acts_step (w4 := w4) (g := gg) (c := gc) (by omega : B ≤ qc) HAL.out HR1.out HR2.out HR3'.out HR4.out HY.out HRX.out hW hqz (HXI.out W hW).1 (HXI.out W hW).2 (by rw [HXC.out]; exact hown) hgrow hat)
      have HOW := fun (W : World) (hW : Below wr.heap.size wr W) => hide (show W.ownsRow (qc + 1) 137 11 (.slice ca al cc) al (acts.flatMap (ac11 (M + 1))) from (by have h := own_below HR3'.out.2.1 hW; rw [HAL.out] at h; exact h))
      clear HPA HPP HPH HI3 HI4
      have hew : eb < w3.heap.size := by have := HB3.out.size; omega
      have hltw3 : wr.heap.size < w3.heap.size := (Array.getElem?_eq_some_iff.1 HY3.out).1
      have HSW : Hid (∀ w', Below w3.heap.size w3 w' → w'.cell? ⟨qc, 8, none⟩ = some (.slice ca al cc) ∧ w'.cell? ⟨wr.heap.size, 3, none⟩ = some (.slice (some ⟨eb, eo, none⟩) 4 y.2.1.2) ∧ (w'.cell? ⟨eb, eo + 4, none⟩ = some (.int .i64 a.1.1) ∧ w'.cell? ⟨eb, eo + 4 + 1, none⟩ = some (.int .i64 a.1.2.1) ∧ w'.cell? ⟨eb, eo + 4 + 2, none⟩ = some (.string a.1.2.2) ∧ w'.cell? ⟨eb, eo + 4 + 3, none⟩ = some (.slice a.2.1.1 a.2.2.length a.2.1.2)) ∧ (w'.cell? ⟨eb, eo + 8, none⟩ = some (.int .i64 b.1.1) ∧ w'.cell? ⟨eb, eo + 8 + 1, none⟩ = some (.int .i64 b.1.2.1) ∧ w'.cell? ⟨eb, eo + 8 + 2, none⟩ = some (.string b.1.2.2) ∧ w'.cell? ⟨eb, eo + 8 + 3, none⟩ = some (.slice b.2.1.1 b.2.2.length b.2.1.2)) ∧ (w'.cell? ⟨eb, eo + 12, none⟩ = some (.int .i64 c.1.1) ∧ w'.cell? ⟨eb, eo + 12 + 1, none⟩ = some (.int .i64 c.1.2.1) ∧ w'.cell? ⟨eb, eo + 12 + 2, none⟩ = some (.string c.1.2.2) ∧ w'.cell? ⟨eb, eo + 12 + 3, none⟩ = some (.slice c.2.1.1 c.2.2.length c.2.1.2))) := fun w' h' => by
        have hb' := HB3.out.trans (h'.mono HB3.out.size)
        have g := (HPW.out w' (HBT.out _ hb')).1
        have hc8 : w'.cell? ⟨qc, 8, none⟩ = some (.slice ca al cc) := box_cell ((hb'.block _ hqz).trans HR2.out) 8
        have hc3 : w'.cell? ⟨wr.heap.size, 3, none⟩ = some (.slice (some ⟨eb, eo, none⟩) 4 y.2.1.2) := box_cell ((h'.block _ hltw3).trans HY3.out) 3
        exact ⟨hc8, hc3, g⟩
      have HDR : Hid (Below w3.heap.size w3 w3.drew) := (Below.refl _ _).drew
      have HBS : Hid (Below w3.heap.size w3 (w3.alloc (.cells #[.int .i64 2, .int .i64 0, .int .i64 0, .string ⟨#[]⟩, .slice none 0 0, .int .i64 b.1.1, .int .i64 b.1.2.1, .string b.1.2.2, .slice b.2.1.1 b.2.2.length b.2.1.2, .string a.1.2.2, .int .i64 c.1.2.1] 137)).drew ∧ (w3.alloc (.cells #[.int .i64 2, .int .i64 0, .int .i64 0, .string ⟨#[]⟩, .slice none 0 0, .int .i64 b.1.1, .int .i64 b.1.2.1, .string b.1.2.2, .slice b.2.1.1 b.2.2.length b.2.1.2, .string a.1.2.2, .int .i64 c.1.2.1] 137)).drew.heap.size = w3.heap.size + 1 ∧ (w3.alloc (.cells #[.int .i64 2, .int .i64 0, .int .i64 0, .string ⟨#[]⟩, .slice none 0 0, .int .i64 b.1.1, .int .i64 b.1.2.1, .string b.1.2.2, .slice b.2.1.1 b.2.2.length b.2.1.2, .string a.1.2.2, .int .i64 c.1.2.1] 137)).drew.heap[w3.heap.size]? = some (.cells #[.int .i64 2, .int .i64 0, .int .i64 0, .string ⟨#[]⟩, .slice none 0 0, .int .i64 b.1.1, .int .i64 b.1.2.1, .string b.1.2.2, .slice b.2.1.1 b.2.2.length b.2.1.2, .string a.1.2.2, .int .i64 c.1.2.1] 137)) := ⟨by go_grown, by simp, new_last w3 _ rfl⟩
      have HOW1 := HOW _ (HB3.out.trans (HBS.out.1.mono HB3.out.size))
      go_wp2_with fail
      refine wp_region_noPanic ?_
      refine wp_region_x (fun w' => w'.cell? ⟨qc, 8, none⟩ = some (.slice ca al cc) ∧ w'.cell? ⟨wr.heap.size, 3, none⟩ = some (.slice (some ⟨eb, eo, none⟩) 4 y.2.1.2) ∧ (w'.cell? ⟨eb, eo + 4, none⟩ = some (.int .i64 a.1.1) ∧ w'.cell? ⟨eb, eo + 4 + 1, none⟩ = some (.int .i64 a.1.2.1) ∧ w'.cell? ⟨eb, eo + 4 + 2, none⟩ = some (.string a.1.2.2) ∧ w'.cell? ⟨eb, eo + 4 + 3, none⟩ = some (.slice a.2.1.1 a.2.2.length a.2.1.2)) ∧ (w'.cell? ⟨eb, eo + 8, none⟩ = some (.int .i64 b.1.1) ∧ w'.cell? ⟨eb, eo + 8 + 1, none⟩ = some (.int .i64 b.1.2.1) ∧ w'.cell? ⟨eb, eo + 8 + 2, none⟩ = some (.string b.1.2.2) ∧ w'.cell? ⟨eb, eo + 8 + 3, none⟩ = some (.slice b.2.1.1 b.2.2.length b.2.1.2)) ∧ (w'.cell? ⟨eb, eo + 12, none⟩ = some (.int .i64 c.1.1) ∧ w'.cell? ⟨eb, eo + 12 + 1, none⟩ = some (.int .i64 c.1.2.1) ∧ w'.cell? ⟨eb, eo + 12 + 2, none⟩ = some (.string c.1.2.2) ∧ w'.cell? ⟨eb, eo + 12 + 3, none⟩ = some (.slice c.2.1.1 c.2.2.length c.2.1.2))) 20 (by kernel_rfl) ?_
      have hS0 := HSW.out _ HDR.out
      refine wpAnyX_take (i := 0) (v := ?_) rfl (by kernel_rfl) (by kernel_rfl) (by kernel_rfl) (by kernel_rfl) (fun _ _ _ h => h) rfl ?_ hS0 ?_
      rotate_left
      · intro w' hw'
        try dsimp only at hw'
        go_simp
        try with_reducible rfl
      try simp only [Act.put, List.setIfInBounds_toArray]
      refine wpAnyX_take (i := 1) (v := ?_) rfl (by kernel_rfl) (by kernel_rfl) (by kernel_rfl) (by kernel_rfl) (fun _ _ _ h => h) rfl ?_ hS0 ?_
      rotate_left
      · intro w' hw'
        try dsimp only at hw'
        go_simp
        try with_reducible rfl
      try simp only [Act.put]
      refine wpAnyX_take (i := 2) (v := ?_) rfl (by kernel_rfl) (by kernel_rfl) (by kernel_rfl) (by kernel_rfl) (fun _ _ _ h => h) rfl ?_ hS0 ?_
      rotate_left
      · intro w' hw'
        try dsimp only at hw'
        go_simp
        try with_reducible rfl
      try simp only [Act.put]
      refine wpAnyX_take (i := 3) (v := ?_) rfl (by kernel_rfl) (by kernel_rfl) (by kernel_rfl) (by kernel_rfl) (fun _ _ _ h => h) rfl ?_ hS0 ?_
      rotate_left
      · intro w' hw'
        try dsimp only at hw'
        go_simp
        try with_reducible rfl
      try simp only [Act.put]
      refine wpAnyX_take (i := 4) (v := ?_) rfl (by kernel_rfl) (by kernel_rfl) (by kernel_rfl) (by kernel_rfl) (fun _ _ _ h => h) rfl ?_ hS0 ?_
      rotate_left
      · intro w' hw'
        try dsimp only at hw'
        go_simp
        try with_reducible rfl
      try simp only [Act.put]
      refine wpAnyX_take (i := 5) (v := ?_) rfl (by kernel_rfl) (by kernel_rfl) (by kernel_rfl) (by kernel_rfl) (fun _ _ _ h => h) rfl ?_ hS0 ?_
      rotate_left
      · intro w' hw'
        try dsimp only at hw'
        go_simp
        try with_reducible rfl
      try simp only [Act.put]
      refine wpAnyX_take (i := 6) (v := ?_) rfl (by kernel_rfl) (by kernel_rfl) (by kernel_rfl) (by kernel_rfl) (fun _ _ _ h => h) rfl ?_ hS0 ?_
      rotate_left
      · intro w' hw'
        try dsimp only at hw'
        go_simp
        try with_reducible rfl
      try simp only [Act.put]
      refine wpAnyX_take (i := 7) (v := ?_) rfl (by kernel_rfl) (by kernel_rfl) (by kernel_rfl) (by kernel_rfl) (fun _ _ _ h => h) rfl ?_ hS0 ?_
      rotate_left
      · intro w' hw'
        try dsimp only at hw'
        go_simp
        try with_reducible rfl
      try simp only [Act.put]
      refine wpAnyX_take (i := 8) (v := ?_) rfl (by kernel_rfl) (by kernel_rfl) (by kernel_rfl) (by kernel_rfl) (fun _ _ _ h => h) rfl ?_ hS0 ?_
      rotate_left
      · intro w' hw'
        try dsimp only at hw'
        go_simp
        try with_reducible rfl
      try simp only [Act.put]
      refine wpAnyX_take (i := 9) (v := ?_) rfl (by kernel_rfl) (by kernel_rfl) (by kernel_rfl) (by kernel_rfl) (fun _ _ _ h => h) rfl ?_ hS0 ?_
      rotate_left
      · intro w' hw'
        try dsimp only at hw'
        go_simp
        try with_reducible rfl
      try simp only [Act.put]
      refine wpAnyX_take (i := 10) (v := ?_) rfl (by kernel_rfl) (by kernel_rfl) (by kernel_rfl) (by kernel_rfl) (fun _ _ _ h => h) rfl ?_ hS0 ?_
      rotate_left
      · intro w' hw'
        try dsimp only at hw'
        go_simp
        try with_reducible rfl
      try simp only [Act.put]
      refine wpAnyX_take (i := 11) (v := ?_) rfl (by kernel_rfl) (by kernel_rfl) (by kernel_rfl) (by kernel_rfl) (fun _ _ _ h => h) rfl ?_ hS0 ?_
      rotate_left
      · intro w' hw'
        try dsimp only at hw'
        go_simp
        try with_reducible rfl
      try simp only [Act.put]
      refine wpAnyX_take (i := 12) (v := ?_) rfl (by kernel_rfl) (by kernel_rfl) (by kernel_rfl) (by kernel_rfl) (fun _ _ _ h => h) rfl ?_ hS0 ?_
      rotate_left
      · intro w' hw'
        try dsimp only at hw'
        go_simp
        try with_reducible rfl
      try simp only [Act.put]
      refine wpAnyX_take (i := 13) (v := ?_) rfl (by kernel_rfl) (by kernel_rfl) (by kernel_rfl) (by kernel_rfl) (fun _ _ _ h => h) rfl ?_ hS0 ?_
      rotate_left
      · intro w' hw'
        try dsimp only at hw'
        go_simp
        try with_reducible rfl
      try simp only [Act.put]
      refine wpAnyX_take (i := 14) (v := ?_) rfl (by kernel_rfl) (by kernel_rfl) (by kernel_rfl) (by kernel_rfl) (fun _ _ _ h => h) rfl ?_ hS0 ?_
      rotate_left
      · intro w' hw'
        try dsimp only at hw'
        go_simp
        try with_reducible rfl
      try simp only [Act.put]
      refine wpAnyX_take (i := 15) (v := ?_) rfl (by kernel_rfl) (by kernel_rfl) (by kernel_rfl) (by kernel_rfl) (fun _ _ _ h => h) rfl ?_ hS0 ?_
      rotate_left
      · intro w' hw'
        try dsimp only at hw'
        go_simp
        try with_reducible rfl
      try simp only [Act.put]
      refine wpAnyX_take (i := 16) (v := ?_) rfl (by kernel_rfl) (by kernel_rfl) (by kernel_rfl) (by kernel_rfl) (fun _ _ _ h => h) rfl ?_ hS0 ?_
      rotate_left
      · intro w' hw'
        try dsimp only at hw'
        go_simp
        try with_reducible rfl
      try simp only [Act.put]
      refine wpAnyX_one (i := 17) (by kernel_rfl) rfl rfl (fun K hK => ?_) (by decide)
      go_simp
      refine hK.out _ _ (fun _ => HSW.out _ HBS.out.1) (fun hS1 => ?_)
      clear hK K
      try simp only [Act.put, List.setIfInBounds_toArray, List.set_cons_zero, List.set_cons_succ]
      refine wpAnyX_one (i := 18) (by kernel_rfl) rfl rfl (fun K hK => ?_) (by decide)
      refine wp_append_lies _ _ _ 133 rfl (qc + 1) 137 it _ 11 144 Try.underlying133 HT.out.1 HT.out.2.1 HT.out.2.2.1 HT.out.2.2.2 rfl (by decide) (.slice ca al cc) al (acts.flatMap (ac11 (M + 1))) (by simp [Act.eval]) HOW1.out ⟨w3.heap.size, 0, none⟩ 1 1 [.int .i64 2, .int .i64 0, .int .i64 0, .string ⟨#[]⟩, .slice none 0 0, .int .i64 b.1.1, .int .i64 b.1.2.1, .string b.1.2.2, .slice b.2.1.1 b.2.2.length b.2.1.2, .string a.1.2.2, .int .i64 c.1.2.1] (by simp [Act.eval]) rfl (World.news_of_block (cs := #[.int .i64 2, .int .i64 0, .int .i64 0, .string ⟨#[]⟩, .slice none 0 0, .int .i64 b.1.1, .int .i64 b.1.2.1, .string b.1.2.2, .slice b.2.1.1 b.2.2.length b.2.1.2, .string a.1.2.2, .int .i64 c.1.2.1]) (t := 137) (fr := (0, 0)) HBS.out.2.2) (by simp [Value.oneCell']) (by decide) (by unfold maxLen; omega) (by omega) (by have := HBS.out.2.1; omega) (w3.heap.size + 1) HBS.out.2.1 ?_
      intro g4 c4 w4 hown4 hgrow4 hat4 hlt4
      have HS4 := HST _ w4 g4 c4 (HB3.out.trans (HBS.out.1.mono HB3.out.size)) hown4 hgrow4 (by rw [HBS.out.2.1]; exact hat4)
      have d8 : w4.cell? ⟨qc, 8, none⟩ = some (.slice ca al cc) := box_cell HS4.out.2.1 8
      have f8 := box_free HS4.out.2.1 8
      clear hown4 hat4 hlt4 HST HOW HOW1
      have HBX : Hid (w4.heap[wr.heap.size]? = some (.cells #[.int .i64 y.1.1, .int .i64 y.1.2.1, .string y.1.2.2, .slice (some ⟨eb, eo, none⟩) 4 y.2.1.2] 24)) := (grown_at hgrow4 (by have := HBS.out.2.1; omega) (fun e => by have := HR3'.out.2.1.lt _ e; omega)).trans ((HBS.out.1.block _ hltw3).trans HY3.out)
      refine hK.out _ _ (fun _ => ⟨d8, box_cell HBX.out 3, (HPW.out w4 (HR1.out.trans (HS4.out.1.mono (by have := HR1.out.size; omega)))).1⟩) (fun hS2 => ?_)
      clear hK K HBX hgrow4
      try simp only [Act.put, List.setIfInBounds_toArray]
      refine wpAnyX_take (i := 19) (v := ?_) rfl (by kernel_rfl) (by kernel_rfl) (by kernel_rfl) (by kernel_rfl) (fun _ _ _ h => h) rfl ?_ hS2 ?_
      rotate_left
      · intro w' hw'
        try dsimp only at hw'
        go_simp
        try with_reducible rfl
      try simp only [Act.put]
      refine wpAnyX_last (by kernel_rfl) rfl rfl (by kernel_rfl) (fun K hK => ?_)
      go_simp
      refine hK.out _ _ (NoPanic.normal ?_)
      clear hK K
      try simp only [Act.put, List.setIfInBounds_toArray, List.set_cons_zero, List.set_cons_succ]
      go_wp2_with fail
      go_roundw
      case rel => exact ⟨j + 1, by omega, by go_num, HS4.out.2.2⟩
      case measure => simp [intOf]; omega
    have hltw3 : wr.heap.size < w3.heap.size := (Array.getElem?_eq_some_iff.1 HY3.out).1
    have y0 : w3.cell? ⟨wr.heap.size, 0, none⟩ = some (.int .i64 y.1.1) := box_cell HY3.out 0
    have y1 : w3.cell? ⟨wr.heap.size, 1, none⟩ = some (.int .i64 y.1.2.1) := box_cell HY3.out 1
    have y2 : w3.cell? ⟨wr.heap.size, 2, none⟩ = some (.string y.1.2.2) := box_cell HY3.out 2
    have y3 : w3.cell? ⟨wr.heap.size, 3, none⟩ = some (.slice y.2.1.1 y.2.2.length y.2.1.2) := box_cell HY3.out 3
    go_wp2_with fail
    refine (HI3.out _ (HBT.out _ HB3.out)).mono ?_
    rintro e w5 ⟨rfl, hbb⟩
    have HB5 : Hid (Below wr.heap.size wr w5) := HB3.out.trans (hbb.mono HB3.out.size)
    have HY5 := hide ((hbb.block _ hltw3).trans HY3.out)
    clear hbb y0 y1 y2 y3 HI3
    cases b3
    rotate_left
    · obtain ⟨h0, hy5, hq4, hy4⟩ := HPP.out _ _ hb3.out
      obtain ⟨a, hps⟩ : ∃ a, partsT (n + 1) y = [a] := by
        match hp : partsT (n + 1) y, hq4 with
        | [a], _ => exact ⟨a, rfl⟩
      obtain ⟨eb, eo, hye, heb⟩ := HPA.out _ _ hb3.out (by omega)
      rw [hps] at hy5
      have HPW : Hid (∀ w', Below qc wz w' → ((w'.cell? ⟨eb, eo + 4, none⟩ = some (.int .i64 a.1.1) ∧ w'.cell? ⟨eb, eo + 4 + 1, none⟩ = some (.int .i64 a.1.2.1) ∧ w'.cell? ⟨eb, eo + 4 + 2, none⟩ = some (.string a.1.2.2) ∧ w'.cell? ⟨eb, eo + 4 + 3, none⟩ = some (.slice a.2.1.1 a.2.2.length a.2.1.2))) ∧ In B w' (n + 1) a) := fun w' h1 => by
        have g := HPH.out w' h1 eb eo hye
        rw [hy5] at g
        have g1 := g 1 a (by simp)
        exact ⟨g1.1, g1.2⟩
      have HRX : Hid (rdA M (n + 2) y = some (3, (lift (M + 1) (n + 1) a, zT M), (.empty, 0))) := (by
        show _ = _
        rw [HRD.out, hps]
        simp [])
      have HXI : Hid (∀ w', Below wr.heap.size wr w' → AcIn (M + 1) w'.heap.size w' (3, (lift (M + 1) (n + 1) a, zT M), (.empty, 0)) ∧ AcOff (M + 1) (fun b => b < B ∨ wr.heap.size ≤ b) (3, (lift (M + 1) (n + 1) a, zT M), (.empty, 0))) := fun w' h' => by
        have hz' : B ≤ w'.heap.size := by have := h'.size; omega
        exact ⟨⟨(by simp [I64]), (lift_in (M + 1) (n + 1) hM a B w' (HPW.out w' (HBT.out _ h')).2).mono hz', zT_in _ _ _, Nat.zero_le _, (by simp [I64])⟩, ⟨(in_offLow (lift_in (M + 1) (n + 1) hM a B w' (HPW.out w' (HBT.out _ h')).2)).mono fun b hb => Or.inl hb, Or.inl rfl⟩⟩
      have HXC : Hid (ac11 (M + 1) (3, (lift (M + 1) (n + 1) a, zT M), (.empty, 0)) = [.int .i64 3, .int .i64 a.1.1, .int .i64 a.1.2.1, .string a.1.2.2, .slice a.2.1.1 a.2.2.length a.2.1.2, .int .i64 0, .int .i64 0, .string ⟨#[]⟩, .slice none 0 0, .string ⟨#[]⟩, .int .i64 0]) := (by
        show _ = _
        simp only [ac11, tm4_lift]
        rfl)
      have HST := fun (W w4 : World) (gg gc : Nat) (hW : Below wr.heap.size wr W) (hown : w4.ownsRow (qc + 1) 137 11 (.slice (some ⟨gg, 0, none⟩) (al + 1) gc) (al + 1) (acts.flatMap (ac11 (M + 1)) ++ [.int .i64 3, .int .i64 a.1.1, .int .i64 a.1.2.1, .string a.1.2.2, .slice a.2.1.1 a.2.2.length a.2.1.2, .int .i64 0, .int .i64 0, .string ⟨#[]⟩, .slice none 0 0, .string ⟨#[]⟩, .int .i64 0])) hgrow hat => hide (acts_step (w4 := w4) (g := gg) (c := gc) (by omega : B ≤ qc) HAL.out HR1.out HR2.out HR3'.out HR4.out HY.out HRX.out hW hqz (HXI.out W hW).1 (HXI.out W hW).2 (by rw [HXC.out]; exact hown) hgrow hat)
      have HOW := fun (W : World) (hW : Below wr.heap.size wr W) => hide (show W.ownsRow (qc + 1) 137 11 (.slice ca al cc) al (acts.flatMap (ac11 (M + 1))) from (by have h := own_below HR3'.out.2.1 hW; rw [HAL.out] at h; exact h))
      clear HPA HPP HPH HI4
      rw [hye, hy4] at HY5
      have hew : eb < w5.heap.size := by have := HB5.out.size; omega
      have hltw5 : wr.heap.size < w5.heap.size := (Array.getElem?_eq_some_iff.1 HY5.out).1
      have HSW : Hid (∀ w', Below w5.heap.size w5 w' → w'.cell? ⟨qc, 8, none⟩ = some (.slice ca al cc) ∧ w'.cell? ⟨wr.heap.size, 3, none⟩ = some (.slice (some ⟨eb, eo, none⟩) 2 y.2.1.2) ∧ (w'.cell? ⟨eb, eo + 4, none⟩ = some (.int .i64 a.1.1) ∧ w'.cell? ⟨eb, eo + 4 + 1, none⟩ = some (.int .i64 a.1.2.1) ∧ w'.cell? ⟨eb, eo + 4 + 2, none⟩ = some (.string a.1.2.2) ∧ w'.cell? ⟨eb, eo + 4 + 3, none⟩ = some (.slice a.2.1.1 a.2.2.length a.2.1.2))) := fun w' h' => by
        have hb' := HB5.out.trans (h'.mono HB5.out.size)
        have g := (HPW.out w' (HBT.out _ hb')).1
        have hc8 : w'.cell? ⟨qc, 8, none⟩ = some (.slice ca al cc) := box_cell ((hb'.block _ hqz).trans HR2.out) 8
        have hc3 : w'.cell? ⟨wr.heap.size, 3, none⟩ = some (.slice (some ⟨eb, eo, none⟩) 2 y.2.1.2) := box_cell ((h'.block _ hltw5).trans HY5.out) 3
        exact ⟨hc8, hc3, g⟩
      have HDR : Hid (Below w5.heap.size w5 w5.drew) := (Below.refl _ _).drew
      have HBS : Hid (Below w5.heap.size w5 (w5.alloc (.cells #[.int .i64 3, .int .i64 a.1.1, .int .i64 a.1.2.1, .string a.1.2.2, .slice a.2.1.1 a.2.2.length a.2.1.2, .int .i64 0, .int .i64 0, .string ⟨#[]⟩, .slice none 0 0, .string ⟨#[]⟩, .int .i64 0] 137)).drew ∧ (w5.alloc (.cells #[.int .i64 3, .int .i64 a.1.1, .int .i64 a.1.2.1, .string a.1.2.2, .slice a.2.1.1 a.2.2.length a.2.1.2, .int .i64 0, .int .i64 0, .string ⟨#[]⟩, .slice none 0 0, .string ⟨#[]⟩, .int .i64 0] 137)).drew.heap.size = w5.heap.size + 1 ∧ (w5.alloc (.cells #[.int .i64 3, .int .i64 a.1.1, .int .i64 a.1.2.1, .string a.1.2.2, .slice a.2.1.1 a.2.2.length a.2.1.2, .int .i64 0, .int .i64 0, .string ⟨#[]⟩, .slice none 0 0, .string ⟨#[]⟩, .int .i64 0] 137)).drew.heap[w5.heap.size]? = some (.cells #[.int .i64 3, .int .i64 a.1.1, .int .i64 a.1.2.1, .string a.1.2.2, .slice a.2.1.1 a.2.2.length a.2.1.2, .int .i64 0, .int .i64 0, .string ⟨#[]⟩, .slice none 0 0, .string ⟨#[]⟩, .int .i64 0] 137)) := ⟨by go_grown, by simp, new_last w5 _ rfl⟩
      have HOW1 := HOW _ (HB5.out.trans (HBS.out.1.mono HB5.out.size))
      go_wp2_with fail
      refine wp_region_noPanic ?_
      refine wp_region_x (fun w' => w'.cell? ⟨qc, 8, none⟩ = some (.slice ca al cc) ∧ w'.cell? ⟨wr.heap.size, 3, none⟩ = some (.slice (some ⟨eb, eo, none⟩) 2 y.2.1.2) ∧ (w'.cell? ⟨eb, eo + 4, none⟩ = some (.int .i64 a.1.1) ∧ w'.cell? ⟨eb, eo + 4 + 1, none⟩ = some (.int .i64 a.1.2.1) ∧ w'.cell? ⟨eb, eo + 4 + 2, none⟩ = some (.string a.1.2.2) ∧ w'.cell? ⟨eb, eo + 4 + 3, none⟩ = some (.slice a.2.1.1 a.2.2.length a.2.1.2))) 10 (by kernel_rfl) ?_
      have hS0 := HSW.out _ HDR.out
      refine wpAnyX_take (i := 0) (v := ?_) rfl (by kernel_rfl) (by kernel_rfl) (by kernel_rfl) (by kernel_rfl) (fun _ _ _ h => h) rfl ?_ hS0 ?_
      rotate_left
      · intro w' hw'
        try dsimp only at hw'
        go_simp
        try with_reducible rfl
      try simp only [Act.put, List.setIfInBounds_toArray]
      refine wpAnyX_take (i := 1) (v := ?_) rfl (by kernel_rfl) (by kernel_rfl) (by kernel_rfl) (by kernel_rfl) (fun _ _ _ h => h) rfl ?_ hS0 ?_
      rotate_left
      · intro w' hw'
        try dsimp only at hw'
        go_simp
        try with_reducible rfl
      try simp only [Act.put]
      refine wpAnyX_take (i := 2) (v := ?_) rfl (by kernel_rfl) (by kernel_rfl) (by kernel_rfl) (by kernel_rfl) (fun _ _ _ h => h) rfl ?_ hS0 ?_
      rotate_left
      · intro w' hw'
        try dsimp only at hw'
        go_simp
        try with_reducible rfl
      try simp only [Act.put]
      refine wpAnyX_take (i := 3) (v := ?_) rfl (by kernel_rfl) (by kernel_rfl) (by kernel_rfl) (by kernel_rfl) (fun _ _ _ h => h) rfl ?_ hS0 ?_
      rotate_left
      · intro w' hw'
        try dsimp only at hw'
        go_simp
        try with_reducible rfl
      try simp only [Act.put]
      refine wpAnyX_take (i := 4) (v := ?_) rfl (by kernel_rfl) (by kernel_rfl) (by kernel_rfl) (by kernel_rfl) (fun _ _ _ h => h) rfl ?_ hS0 ?_
      rotate_left
      · intro w' hw'
        try dsimp only at hw'
        go_simp
        try with_reducible rfl
      try simp only [Act.put]
      refine wpAnyX_take (i := 5) (v := ?_) rfl (by kernel_rfl) (by kernel_rfl) (by kernel_rfl) (by kernel_rfl) (fun _ _ _ h => h) rfl ?_ hS0 ?_
      rotate_left
      · intro w' hw'
        try dsimp only at hw'
        go_simp
        try with_reducible rfl
      try simp only [Act.put]
      refine wpAnyX_take (i := 6) (v := ?_) rfl (by kernel_rfl) (by kernel_rfl) (by kernel_rfl) (by kernel_rfl) (fun _ _ _ h => h) rfl ?_ hS0 ?_
      rotate_left
      · intro w' hw'
        try dsimp only at hw'
        go_simp
        try with_reducible rfl
      try simp only [Act.put]
      refine wpAnyX_one (i := 7) (by kernel_rfl) rfl rfl (fun K hK => ?_) (by decide)
      go_simp
      refine hK.out _ _ (fun _ => HSW.out _ HBS.out.1) (fun hS1 => ?_)
      clear hK K
      try simp only [Act.put, List.setIfInBounds_toArray, List.set_cons_zero, List.set_cons_succ]
      refine wpAnyX_one (i := 8) (by kernel_rfl) rfl rfl (fun K hK => ?_) (by decide)
      refine wp_append_lies _ _ _ 133 rfl (qc + 1) 137 it _ 11 144 Try.underlying133 HT.out.1 HT.out.2.1 HT.out.2.2.1 HT.out.2.2.2 rfl (by decide) (.slice ca al cc) al (acts.flatMap (ac11 (M + 1))) (by simp [Act.eval]) HOW1.out ⟨w5.heap.size, 0, none⟩ 1 1 [.int .i64 3, .int .i64 a.1.1, .int .i64 a.1.2.1, .string a.1.2.2, .slice a.2.1.1 a.2.2.length a.2.1.2, .int .i64 0, .int .i64 0, .string ⟨#[]⟩, .slice none 0 0, .string ⟨#[]⟩, .int .i64 0] (by simp [Act.eval]) rfl (World.news_of_block (cs := #[.int .i64 3, .int .i64 a.1.1, .int .i64 a.1.2.1, .string a.1.2.2, .slice a.2.1.1 a.2.2.length a.2.1.2, .int .i64 0, .int .i64 0, .string ⟨#[]⟩, .slice none 0 0, .string ⟨#[]⟩, .int .i64 0]) (t := 137) (fr := (0, 0)) HBS.out.2.2) (by simp [Value.oneCell']) (by decide) (by unfold maxLen; omega) (by omega) (by have := HBS.out.2.1; omega) (w5.heap.size + 1) HBS.out.2.1 ?_
      intro g4 c4 w4 hown4 hgrow4 hat4 hlt4
      have HS4 := HST _ w4 g4 c4 (HB5.out.trans (HBS.out.1.mono HB5.out.size)) hown4 hgrow4 (by rw [HBS.out.2.1]; exact hat4)
      have d8 : w4.cell? ⟨qc, 8, none⟩ = some (.slice ca al cc) := box_cell HS4.out.2.1 8
      have f8 := box_free HS4.out.2.1 8
      clear hown4 hat4 hlt4 HST HOW HOW1
      have HBX : Hid (w4.heap[wr.heap.size]? = some (.cells #[.int .i64 y.1.1, .int .i64 y.1.2.1, .string y.1.2.2, .slice (some ⟨eb, eo, none⟩) 2 y.2.1.2] 24)) := (grown_at hgrow4 (by have := HBS.out.2.1; omega) (fun e => by have := HR3'.out.2.1.lt _ e; omega)).trans ((HBS.out.1.block _ hltw5).trans HY5.out)
      refine hK.out _ _ (fun _ => ⟨d8, box_cell HBX.out 3, (HPW.out w4 (HR1.out.trans (HS4.out.1.mono (by have := HR1.out.size; omega)))).1⟩) (fun hS2 => ?_)
      clear hK K HBX hgrow4
      try simp only [Act.put, List.setIfInBounds_toArray]
      refine wpAnyX_take (i := 9) (v := ?_) rfl (by kernel_rfl) (by kernel_rfl) (by kernel_rfl) (by kernel_rfl) (fun _ _ _ h => h) rfl ?_ hS2 ?_
      rotate_left
      · intro w' hw'
        try dsimp only at hw'
        go_simp
        try with_reducible rfl
      try simp only [Act.put]
      refine wpAnyX_last (by kernel_rfl) rfl rfl (by kernel_rfl) (fun K hK => ?_)
      go_simp
      refine hK.out _ _ (NoPanic.normal ?_)
      clear hK K
      try simp only [Act.put, List.setIfInBounds_toArray, List.set_cons_zero, List.set_cons_succ]
      go_wp2_with fail
      go_roundw
      case rel => exact ⟨j + 1, by omega, by go_num, HS4.out.2.2⟩
      case measure => simp [intOf]; omega
    have hltw5 : wr.heap.size < w5.heap.size := (Array.getElem?_eq_some_iff.1 HY5.out).1
    have y0 : w5.cell? ⟨wr.heap.size, 0, none⟩ = some (.int .i64 y.1.1) := box_cell HY5.out 0
    have y1 : w5.cell? ⟨wr.heap.size, 1, none⟩ = some (.int .i64 y.1.2.1) := box_cell HY5.out 1
    have y2 : w5.cell? ⟨wr.heap.size, 2, none⟩ = some (.string y.1.2.2) := box_cell HY5.out 2
    have y3 : w5.cell? ⟨wr.heap.size, 3, none⟩ = some (.slice y.2.1.1 y.2.2.length y.2.1.2) := box_cell HY5.out 3
    go_wp2_with fail
    refine (HI4.out _ (HBT.out _ HB5.out)).mono ?_
    rintro e w6 ⟨rfl, hbb⟩
    have HB6 : Hid (Below wr.heap.size wr w6) := HB5.out.trans (hbb.mono HB5.out.size)
    have HY6 := hide ((hbb.block _ hltw5).trans HY5.out)
    clear hbb y0 y1 y2 y3 HI4
    cases b4
    rotate_left
    · obtain ⟨h0, hy5, hq4, hy4⟩ := HPP.out _ _ hb4.out
      have hps : partsT (n + 1) y = [] := List.eq_nil_of_length_eq_zero hq4
      have HRX : Hid (rdA M (n + 2) y = some (4, (zT M, zT M), (.empty, 0))) := (by
        show _ = _
        rw [HRD.out, hps]
        simp [])
      have HXI : Hid (∀ w', Below wr.heap.size wr w' → AcIn (M + 1) w'.heap.size w' (4, (zT M, zT M), (.empty, 0)) ∧ AcOff (M + 1) (fun b => b < B ∨ wr.heap.size ≤ b) (4, (zT M, zT M), (.empty, 0))) := fun w' h' => by
        have hz' : B ≤ w'.heap.size := by have := h'.size; omega
        exact ⟨⟨(by simp [I64]), zT_in _ _ _, zT_in _ _ _, Nat.zero_le _, (by simp [I64])⟩, ⟨Or.inl rfl, Or.inl rfl⟩⟩
      have HXC : Hid (ac11 (M + 1) (4, (zT M, zT M), (.empty, 0)) = [.int .i64 4, .int .i64 0, .int .i64 0, .string ⟨#[]⟩, .slice none 0 0, .int .i64 0, .int .i64 0, .string ⟨#[]⟩, .slice none 0 0, .string ⟨#[]⟩, .int .i64 0]) := (by
        show _ = _
        simp only [ac11]
        rfl)
      have HST := fun (W w4 : World) (gg gc : Nat) (hW : Below wr.heap.size wr W) (hown : w4.ownsRow (qc + 1) 137 11 (.slice (some ⟨gg, 0, none⟩) (al + 1) gc) (al + 1) (acts.flatMap (ac11 (M + 1)) ++ [.int .i64 4, .int .i64 0, .int .i64 0, .string ⟨#[]⟩, .slice none 0 0, .int .i64 0, .int .i64 0, .string ⟨#[]⟩, .slice none 0 0, .string ⟨#[]⟩, .int .i64 0])) hgrow hat => hide (acts_step (w4 := w4) (g := gg) (c := gc) (by omega : B ≤ qc) HAL.out HR1.out HR2.out HR3'.out HR4.out HY.out HRX.out hW hqz (HXI.out W hW).1 (HXI.out W hW).2 (by rw [HXC.out]; exact hown) hgrow hat)
      have HOW := fun (W : World) (hW : Below wr.heap.size wr W) => hide (show W.ownsRow (qc + 1) 137 11 (.slice ca al cc) al (acts.flatMap (ac11 (M + 1))) from (by have h := own_below HR3'.out.2.1 hW; rw [HAL.out] at h; exact h))
      clear HPA HPP HPH
      have hltw6 : wr.heap.size < w6.heap.size := (Array.getElem?_eq_some_iff.1 HY6.out).1
      have c8 : w6.cell? ⟨qc, 8, none⟩ = some (.slice ca al cc) := box_cell ((HB6.out.block _ hqz).trans HR2.out) 8
      have HBS : Hid (Below w6.heap.size w6 (w6.alloc (.cells #[.int .i64 4, .int .i64 0, .int .i64 0, .string ⟨#[]⟩, .slice none 0 0, .int .i64 0, .int .i64 0, .string ⟨#[]⟩, .slice none 0 0, .string ⟨#[]⟩, .int .i64 0] 137)) ∧ (w6.alloc (.cells #[.int .i64 4, .int .i64 0, .int .i64 0, .string ⟨#[]⟩, .slice none 0 0, .int .i64 0, .int .i64 0, .string ⟨#[]⟩, .slice none 0 0, .string ⟨#[]⟩, .int .i64 0] 137)).heap.size = w6.heap.size + 1 ∧ (w6.alloc (.cells #[.int .i64 4, .int .i64 0, .int .i64 0, .string ⟨#[]⟩, .slice none 0 0, .int .i64 0, .int .i64 0, .string ⟨#[]⟩, .slice none 0 0, .string ⟨#[]⟩, .int .i64 0] 137)).heap[w6.heap.size]? = some (.cells #[.int .i64 4, .int .i64 0, .int .i64 0, .string ⟨#[]⟩, .slice none 0 0, .int .i64 0, .int .i64 0, .string ⟨#[]⟩, .slice none 0 0, .string ⟨#[]⟩, .int .i64 0] 137)) := ⟨by go_grown, by simp, new_last0 _ _ rfl⟩
      have HOW1 := HOW _ (HB6.out.trans (HBS.out.1.mono HB6.out.size))
      go_wp2_with (at_builtin; refine wpList_append_lies _ rfl _ _ 133 rfl (qc + 1) 137 it _ 11 144 Try.underlying133 HT.out.1 HT.out.2.1 HT.out.2.2.1 HT.out.2.2.2 rfl (by decide) (.slice ca al cc) al (acts.flatMap (ac11 (M + 1))) (by simp [Act.eval]) HOW1.out ⟨w6.heap.size, 0, none⟩ 1 1 [.int .i64 4, .int .i64 0, .int .i64 0, .string ⟨#[]⟩, .slice none 0 0, .int .i64 0, .int .i64 0, .string ⟨#[]⟩, .slice none 0 0, .string ⟨#[]⟩, .int .i64 0] (by simp [Act.eval]) rfl (World.news_of_block (cs := #[.int .i64 4, .int .i64 0, .int .i64 0, .string ⟨#[]⟩, .slice none 0 0, .int .i64 0, .int .i64 0, .string ⟨#[]⟩, .slice none 0 0, .string ⟨#[]⟩, .int .i64 0]) (t := 137) (fr := (0, 0)) HBS.out.2.2) (by simp [Value.oneCell']) (by decide) (by unfold maxLen; omega) (by omega) (by have := HBS.out.2.1; omega) (w6.heap.size + 1) HBS.out.2.1 ?_; intro g4 c4 w4 hown4 hgrow4 hat4 hlt4; have HS4 := HST _ w4 g4 c4 (HB6.out.trans (HBS.out.1.mono HB6.out.size)) hown4 hgrow4 (by rw [HBS.out.2.1]; exact hat4); have d8 : w4.cell? ⟨qc, 8, none⟩ = some (.slice ca al cc) := box_cell HS4.out.2.1 8; have f8 := box_free HS4.out.2.1 8; clear hown4 hgrow4 hat4 hlt4 HST HOW HOW1 c8)
      go_roundw
      case rel => exact ⟨j + 1, by omega, by go_num, HS4.out.2.2⟩
      case measure => simp [intOf]; omega
    have HNO : Hid (rdA M (n + 2) y = none) := (by
      show _ = _
      rw [HRD.out]
      simp [])
    have HBZ := hide (HBT.out _ HB6.out)
    have HB0 : Hid (w6.heap[qb]? = some (.cells #[.string nm, .slice ba bl bc] 127)) := (HBZ.out.block _ (by omega)).trans HQB.out
    have HQ0 : Hid (w6.heap[q1]? = some (.cells #[.string ⟨#[]⟩, .slice none 0 0] 127)) := (HBZ.out.block _ (by omega)).trans HQ1.out
    have n0 : w6.cell? ⟨qb, 0, none⟩ = some (.string nm) := box_cell HB0.out 0
    have n1 : w6.cell? ⟨qb, 1, none⟩ = some (.slice ba bl bc) := box_cell HB0.out 1
    have m0 : w6.cell? ⟨q1, 0, none⟩ = some (.string ⟨#[]⟩) := box_cell HQ0.out 0
    have m1 : w6.cell? ⟨q1, 1, none⟩ = some (.slice none 0 0) := box_cell HQ0.out 1
    have mf0 := box_free HQ0.out 0
    have mf1 := box_free HQ0.out 1
    go_wp2_with fail
    exact HR3.out _ _ _ _ _ _ _ _ _ _ _ _ _ _ _ _ _ _ _ _ _ _ _ _ _ _ _ _ _ _ _ _ _ _ _ _ _ _ _ _ _ _ _ _ _ _ _ _ _ _ _ _ _ _ _ _ _ _ _ _ _ _ _ _ _ _ _ _ _ _ _ _ _ _ _ _ _ _ _ _ _ _ _ _ _ _ _ _ _ _ _ _ _ _ _ _ _ _ _ _ ⟨((HBZ.out.mono (show q1 ≤ qc by omega)).setCell (Nat.le_refl _) _).setCell (Nat.le_refl _) _, allV_none _ _ _ _ HY.out HNO.out, by simp [World.setCell, Array.getElem?_modify, HQ0.out]⟩
end Go.Proofs.Ytpehdgbdinjbaaa
