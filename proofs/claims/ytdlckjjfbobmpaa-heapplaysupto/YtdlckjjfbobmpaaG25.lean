/- What is proved here: clerklaw.HeapPlays of what lies in memory returns true, and turns no memory that was there. Condition: at most 2097152 terms in each call's term, and at most 1048576 numbers in its row. -/
import Derived.Test.YtdlckjjfbobmpaaG21
import Derived.Test.YtdlckjjfbobmpaaG23
import Derived.Test.YtdlckjjfbobmpaaG24
namespace Go.Proofs.Ytdlckjjfbobmpaa
open Go.RowKit Go.Maps

set_option maxRecDepth 100000 in
theorem sw6 {w : World} {hp : Nat} {room : Int} {j L : Nat} {ws : List Wd} {nm : List ByteArray} {M : Nat → Prop} {vs : List Wd} {ts : List (Tm 13)} {ns : List (Option Nat)} {C : Went} {v7 v8 v9 s1 s2 s3 : Value} {w1 : World} {qb n q : Nat} {x : Tm (q + 1)} {bat : Value} {ck : Int} (HP : Hid (Pk3 w hp room j L ws nm M vs ts ns C v7 v8 v9 qb #[.int .i64 ck, .int .i64 x.1.1, .int .i64 x.1.2.1, .string x.1.2.2, .slice x.2.1.1 x.2.2.length x.2.1.2, bat] n s1 s2 s3 w1)) (HX : Hid (In w.heap.size w (q + 1) x ∧ (nodes (q + 1) x).length ≤ 2097152)) (hj : j ≤ 60) (hLj : L ≤ 1048576 + j) (hn : n ≤ 1048576) 
    {Q : Exit → Act → World → Prop} (hQ : ∀ c a (d : Nat) v w, Q (.panic c) (a.put (some d) v) w → Q (.panic c) a w) {c1 c2 c3 c4 c6 c11 c13 c14 c15 c19 c20 c21 c22 c23 c24 c25 c26 c27 c28 c29 c30 c31 c32 c33 c34 c35 c36 c37 c38 c39 c40 c41 c42 c43 c44 c45 c46 c47 c48 c49 c50 c51 c52 c53 c54 c55 c56 c57 c58 c59 c60 c61 c62 c63 c64 c65 c66 c67 c68 c69 c70 c71 c72 c73 c74 c75 c76 c77 c78 c79 c80 c81 c82 c83 c84 c85 c86 c87 c88 c89 c90 c91 c92 c93 c94 c95 c96 c97 c98 c99 c100 c101 c102 c103 c104 c105 c106 c107 c108 c109 c110 c111 c112 c113 c115 c116 c117 c118 c119 c120 c121 c122 c123 c124 c125 c126 c127 c128 c129 c130 c131 c132 c133 c134 c135 c136 c137 c138 c139 c140 c141 c142 c143 c144 c145 c146 c147 c148 c149 c150 c151 c152 c153 c154 c155 c156 c157 c158 c159 c160 c161 c162 c163 c164 c165 c166 c167 c168 c169 c170 c171 c172 c173 c174 c175 c176 c177 c178 c179 c180 c181 c182 c183 c184 c185 c186 c187 c188 c189 c190 c191 c192 c193 c194 c195 c196 c197 c198 c199 c200 c201 c202 c203 c204 c205 c206 c207 c208 c209 c210 c211 c212 c213 c214 c215 c216 c217 c218 c219 c220 c221 c222 c223 c224 c225 c226 c227 c228 c229 c230 c231 c232 c233 c234 c235 c236 c237 c238 c239 c240 c241 c242 c243 c244 c245 c246 c247 c248 c249 c250 c251 c252 c253 c254 c255 c256 c257 c258 c259 c260 c261 c262 c263 c264 c265 c266 c267 c268 c269 c270 c271 c272 c273 c274 c275 c276 c277 c278 c279 c280 c281 c282 c283 c284 c285 c286 c287 c288 c289 : Value}
    (HK : Hid (∀ (u21 u22 u23 u24 u25 u26 u27 u28 u29 u115 u116 u117 u118 u119 u120 u121 u122 u123 u124 u125 u126 u127 u128 u129 u130 u131 u132 u133 u134 u135 u136 u137 u138 u139 u140 u141 u142 u143 u144 u145 u146 u147 u148 u149 u150 u151 u152 u153 u154 u155 u156 u157 u158 u159 u160 u161 u162 u163 u164 u165 u166 u167 u168 u169 u170 u171 u172 u173 u174 u175 u176 u177 u178 u179 u180 u181 u182 u183 u184 u185 u186 u187 u188 u189 u190 u191 u192 u193 u194 u195 u196 u197 u198 u199 u200 u201 u202 u203 u204 u205 u206 u207 u208 u209 u210 u211 u212 u213 u214 u215 u216 u217 u218 u219 u220 u221 u222 u223 u224 u225 u226 u227 u228 u229 u230 u231 u232 u233 u234 u235 u236 u237 u238 u239 u240 u241 u242 y1 y2 y3 : Value) (U' : Int) (w' : World), Hid (Rd w hp room (j + 1) (1048576 + (j + 1)) y1 y2 y3 U' w') → Q .normal ⟨List.toArray (Value.int .i64 room :: c1 :: c2 :: c3 :: c4 :: Value.pointer (some ⟨hp, 0, none⟩) :: c6 :: y1 :: y2 :: y3 :: Value.int .i64 U' :: c11 :: Value.pointer (some ⟨qb, 0, none⟩) :: c13 :: c14 :: c15 :: s1 :: s2 :: s3 :: c19 :: c20 :: u21 :: u22 :: u23 :: u24 :: u25 :: u26 :: u27 :: u28 :: u29 :: c30 :: c31 :: c32 :: c33 :: c34 :: c35 :: c36 :: c37 :: c38 :: c39 :: c40 :: c41 :: c42 :: c43 :: c44 :: c45 :: c46 :: c47 :: c48 :: c49 :: c50 :: c51 :: c52 :: c53 :: c54 :: c55 :: c56 :: c57 :: c58 :: c59 :: c60 :: c61 :: c62 :: c63 :: c64 :: c65 :: c66 :: c67 :: c68 :: c69 :: c70 :: c71 :: c72 :: c73 :: c74 :: c75 :: c76 :: c77 :: c78 :: c79 :: c80 :: c81 :: c82 :: c83 :: c84 :: c85 :: c86 :: c87 :: c88 :: c89 :: c90 :: c91 :: c92 :: c93 :: c94 :: c95 :: c96 :: c97 :: c98 :: c99 :: c100 :: c101 :: c102 :: c103 :: c104 :: c105 :: c106 :: c107 :: c108 :: c109 :: c110 :: c111 :: c112 :: c113 :: Value.int .i64 ck :: u115 :: u116 :: u117 :: u118 :: u119 :: u120 :: u121 :: u122 :: u123 :: u124 :: u125 :: u126 :: u127 :: u128 :: u129 :: u130 :: u131 :: u132 :: u133 :: u134 :: u135 :: u136 :: u137 :: u138 :: u139 :: u140 :: u141 :: u142 :: u143 :: u144 :: u145 :: u146 :: u147 :: u148 :: u149 :: u150 :: u151 :: u152 :: u153 :: u154 :: u155 :: u156 :: u157 :: u158 :: u159 :: u160 :: u161 :: u162 :: u163 :: u164 :: u165 :: u166 :: u167 :: u168 :: u169 :: u170 :: u171 :: u172 :: u173 :: u174 :: u175 :: u176 :: u177 :: u178 :: u179 :: u180 :: u181 :: u182 :: u183 :: u184 :: u185 :: u186 :: u187 :: u188 :: u189 :: u190 :: u191 :: u192 :: u193 :: u194 :: u195 :: u196 :: u197 :: u198 :: u199 :: u200 :: u201 :: u202 :: u203 :: u204 :: u205 :: u206 :: u207 :: u208 :: u209 :: u210 :: u211 :: u212 :: u213 :: u214 :: u215 :: u216 :: u217 :: u218 :: u219 :: u220 :: u221 :: u222 :: u223 :: u224 :: u225 :: u226 :: u227 :: u228 :: u229 :: u230 :: u231 :: u232 :: u233 :: u234 :: u235 :: u236 :: u237 :: u238 :: u239 :: u240 :: u241 :: u242 :: c243 :: c244 :: c245 :: c246 :: c247 :: c248 :: c249 :: c250 :: c251 :: c252 :: c253 :: c254 :: c255 :: c256 :: c257 :: c258 :: c259 :: c260 :: c261 :: c262 :: c263 :: c264 :: c265 :: c266 :: c267 :: c268 :: c269 :: c270 :: c271 :: c272 :: c273 :: c274 :: c275 :: c276 :: c277 :: c278 :: c279 :: c280 :: c281 :: c282 :: c283 :: c284 :: c285 :: c286 :: c287 :: c288 :: c289 :: []), []⟩ w')) :
    (Code.block 6 hxB6).wp Try.prog Q ⟨List.toArray (Value.int .i64 room :: c1 :: c2 :: c3 :: c4 :: Value.pointer (some ⟨hp, 0, none⟩) :: c6 :: v7 :: v8 :: v9 :: Value.int .i64 (ws.length : Int) :: c11 :: Value.pointer (some ⟨qb, 0, none⟩) :: c13 :: c14 :: c15 :: s1 :: s2 :: s3 :: c19 :: c20 :: c21 :: c22 :: c23 :: c24 :: c25 :: c26 :: c27 :: c28 :: c29 :: c30 :: c31 :: c32 :: c33 :: c34 :: c35 :: c36 :: c37 :: c38 :: c39 :: c40 :: c41 :: c42 :: c43 :: c44 :: c45 :: c46 :: c47 :: c48 :: c49 :: c50 :: c51 :: c52 :: c53 :: c54 :: c55 :: c56 :: c57 :: c58 :: c59 :: c60 :: c61 :: c62 :: c63 :: c64 :: c65 :: c66 :: c67 :: c68 :: c69 :: c70 :: c71 :: c72 :: c73 :: c74 :: c75 :: c76 :: c77 :: c78 :: c79 :: c80 :: c81 :: c82 :: c83 :: c84 :: c85 :: c86 :: c87 :: c88 :: c89 :: c90 :: c91 :: c92 :: c93 :: c94 :: c95 :: c96 :: c97 :: c98 :: c99 :: c100 :: c101 :: c102 :: c103 :: c104 :: c105 :: c106 :: c107 :: c108 :: c109 :: c110 :: c111 :: c112 :: c113 :: Value.int .i64 ck :: c115 :: c116 :: c117 :: c118 :: c119 :: c120 :: c121 :: c122 :: c123 :: c124 :: c125 :: c126 :: c127 :: c128 :: c129 :: c130 :: c131 :: c132 :: c133 :: c134 :: c135 :: c136 :: c137 :: c138 :: c139 :: c140 :: c141 :: c142 :: c143 :: c144 :: c145 :: c146 :: c147 :: c148 :: c149 :: c150 :: c151 :: c152 :: c153 :: c154 :: c155 :: c156 :: c157 :: c158 :: c159 :: c160 :: c161 :: c162 :: c163 :: c164 :: c165 :: c166 :: c167 :: c168 :: c169 :: c170 :: c171 :: c172 :: c173 :: c174 :: c175 :: c176 :: c177 :: c178 :: c179 :: c180 :: c181 :: c182 :: c183 :: c184 :: c185 :: c186 :: c187 :: c188 :: c189 :: c190 :: c191 :: c192 :: c193 :: c194 :: c195 :: c196 :: c197 :: c198 :: c199 :: c200 :: c201 :: c202 :: c203 :: c204 :: c205 :: c206 :: c207 :: c208 :: c209 :: c210 :: c211 :: c212 :: c213 :: c214 :: c215 :: c216 :: c217 :: c218 :: c219 :: c220 :: c221 :: c222 :: c223 :: c224 :: c225 :: c226 :: c227 :: c228 :: c229 :: c230 :: c231 :: c232 :: c233 :: c234 :: c235 :: c236 :: c237 :: c238 :: c239 :: c240 :: c241 :: c242 :: c243 :: c244 :: c245 :: c246 :: c247 :: c248 :: c249 :: c250 :: c251 :: c252 :: c253 :: c254 :: c255 :: c256 :: c257 :: c258 :: c259 :: c260 :: c261 :: c262 :: c263 :: c264 :: c265 :: c266 :: c267 :: c268 :: c269 :: c270 :: c271 :: c272 :: c273 :: c274 :: c275 :: c276 :: c277 :: c278 :: c279 :: c280 :: c281 :: c282 :: c283 :: c284 :: c285 :: c286 :: c287 :: c288 :: c289 :: []), []⟩ w1 := by
  by_cases k0 : ck = 0
  · subst k0
    exact sw_put0 HP HX hj hLj hn hQ HK
  by_cases k3 : ck = 3
  · subst k3
    exact sw_put3 HP HX hj hLj hn hQ HK
  by_cases k1 : ck = 1
  · subst k1
    exact sw_join HP HX hj hLj hn hQ HK
  by_cases k2 : ck = 2
  · subst k2
    exact sw_coll HP HX hj hLj hn hQ HK
  exact sw_none HP HX hj hLj hn k0 k1 k2 k3 hQ HK
theorem Rd.below {w : World} {hp : Nat} {room : Int} {j B : Nat} {v7 v8 v9 : Value} {U : Int} {wr : World} (h : Rd w hp room j B v7 v8 v9 U wr) : Below w.heap.size w wr := by
  obtain ⟨L, ws, nm, M, vs, ts, ns, C, h, _⟩ := h
  exact h.heap.1
set_option maxHeartbeats 16000000 in
set_option maxRecDepth 100000 in
theorem hplays_walk : HPlaysWalk := by
  intro room q l la len lc w HL
  go_enter Try.func3, Try.ntmps3
  have hlen : (len : Int) ≤ 9223372036854775807 := by have := HL.out.2.1; have := HL.out.2.2.1; unfold maxLen at this; omega
  go_wp2_with fail
  refine (new_any room _).mono ?_
  rintro e w1 ⟨hbad, hgood⟩
  by_cases hin : 0 ≤ room ∧ room ≤ 1000
  rotate_left
  · obtain ⟨rfl, rfl⟩ := hbad (by omega)
    have hb1 : Below w1.heap.size w1 w1 := Below.refl _ _
    have hi : (decide (0 ≤ room) && decide (room ≤ 1000)) = false := by
      rw [Bool.and_eq_false_iff, decide_eq_false_iff_not, decide_eq_false_iff_not]
      omega
    have HI := hide (inh_any room 0 1000)
    rw [hi] at HI
    have HB1 := hide hb1
    clear hgood hbad hb1 hi
    go_wp2_with (go_at_call 5; refine (HI.out _).mono ?_; rintro e w2 ⟨rfl, hw2⟩; obtain rfl := hw2.symm; clear hw2)
    go_ret
    exact ⟨rfl, HB1.out⟩
  obtain ⟨rfl, hn1⟩ := hgood (by omega)
  have HH1 := hide (HpR.start (HpS.new (Below.refl w.heap.size w) hn1) hin)
  have hi : (decide (0 ≤ room) && decide (room ≤ 1000)) = true := by simp [hin]
  have HI := hide (inh_any room 0 1000)
  rw [hi] at HI
  have HST := hide (Rd.of HH1.out (B := 1048576 + 0) (by omega) (U := 0) rfl (Nat.le_refl 0))
  obtain ⟨hp, hhp⟩ : ∃ hp, hp = w.heap.size := ⟨_, rfl⟩
  rw [← hhp]
  rw [← hhp] at HST
  have HHP := hide hhp
  clear hgood hbad hn1 hi HH1 hhp
  by_cases h60 : len ≤ 60
  rotate_left
  · have h60' : (60 : Int) < (len : Int) := by omega
    have HB1 := hide HST.out.below
    go_wp2_with (go_at_call 5; refine (HI.out _).mono ?_; rintro e w2 ⟨rfl, hw2⟩; obtain rfl := hw2.symm; clear hw2)
    go_ret
    exact ⟨rfl, HB1.out⟩
  have h60' : ¬ (60 : Int) < (len : Int) := by omega
  go_wp2_with (go_at_call 5; refine (HI.out _).mono ?_; rintro e w2 ⟨rfl, hw2⟩; obtain rfl := hw2.symm; clear hw2)
  go_loopw [7, 8, 9, 10, 63] (fun v7 v8 v9 v10 i wr => ∃ (j : Nat) (U : Int), j ≤ len ∧ i = .int .i64 j ∧ v10 = .int .i64 U ∧ Hid (Rd w hp room j (1048576 + j) v7 v8 v9 U wr)) (fun _ _ _ _ i _ => len - (intOf i).toNat)
  case atStart => exact ⟨0, 0, Nat.zero_le _, rfl, rfl, HST.out⟩
  case round =>
  obtain ⟨j, U, hj, rfl, rfl, HR⟩ := hrel
  by_cases hjl : j < len
  rotate_left
  · obtain rfl : j = len := by omega
    have HB := hide HR.out.below
    go_wp2_with fail
    go_ret
    exact ⟨rfl, HB.out⟩
  obtain ⟨L, ws, nm, M, vs, ts, ns, C, hH, hLj, rfl⟩ := HR.out
  obtain ⟨a7, k7, rfl⟩ := own_slice hH.r7
  obtain ⟨a8, k8, rfl⟩ := own_slice hH.r8
  obtain ⟨a9, k9, rfl⟩ := own_slice hH.r9
  obtain ⟨⟨ck, x, ⟨ca, cc⟩, cl⟩, hc⟩ : ∃ c, l[j]? = some c := ⟨l[j]'(by rw [HL.out.1]; exact hjl), List.getElem?_eq_getElem _⟩
  have hcn := HL.out.2.2.2.2 _ (List.mem_of_getElem? hc)
  obtain ⟨lb, lo, rfl, hlb, HCC⟩ : ∃ b o, la = some ⟨b, o, none⟩ ∧ b < w.heap.size ∧ Hid ((∀ (t : Nat) (u : Value), (hk6 q (ck, x, (ca, cc), cl))[t]? = some u → w.cell? ⟨b, o + j * 6 + t, none⟩ = some u) ∧ HkIn q w.heap.size w (ck, x, (ca, cc), cl)) := by
    rcases HL.out.2.2.2.1 with e | ⟨b, o, e, hb, h⟩
    · rw [e] at hc
      simp at hc
    · exact ⟨b, o, e, hb, h j _ hc⟩
  obtain ⟨m, hm⟩ : ∃ m, m = cl.length := ⟨_, rfl⟩
  have HBR := hide hH.heap.1
  have hcell : ∀ (t : Nat) (u : Value), (hk6 q (ck, x, (ca, cc), cl))[t]? = some u → wr.cell? ⟨lb, lo + j * 6 + t, none⟩ = some u := fun t u ht => (HBR.out.cell (p := ⟨lb, lo + j * 6 + t, none⟩) hlb).trans (HCC.out.1 t u ht)
  have x0 : wr.cell? ⟨lb, lo + j * 6, none⟩ = some (.int .i64 ck) := hcell 0 _ rfl
  have x1 : wr.cell? ⟨lb, lo + j * 6 + 1, none⟩ = some (.int .i64 x.1.1) := hcell 1 _ rfl
  have x2 : wr.cell? ⟨lb, lo + j * 6 + 2, none⟩ = some (.int .i64 x.1.2.1) := hcell 2 _ rfl
  have x3 : wr.cell? ⟨lb, lo + j * 6 + 3, none⟩ = some (.string x.1.2.2) := hcell 3 _ rfl
  have x4 : wr.cell? ⟨lb, lo + j * 6 + 4, none⟩ = some (.slice x.2.1.1 x.2.2.length x.2.1.2) := hcell 4 _ rfl
  have x5 : wr.cell? ⟨lb, lo + j * 6 + 5, none⟩ = some (.slice ca m cc) := by rw [hm]; exact hcell 5 _ rfl
  have j1 : (0 : Int) ≤ (j : Int) := by omega
  have j2 : (j : Int) < (len : Int) := by omega
  have HAT : Hid (cl.length = m ∧ LayH w.heap.size w 1 (fun u : Int => [.int .i64 u]) I64 ca cl) := ⟨hm.symm, HCC.out.2.2.2.2⟩
  have HXX : Hid (In w.heap.size w (q + 1) x ∧ (nodes (q + 1) x).length ≤ 2097152) := ⟨HCC.out.2.2.1, hcn.1⟩
  have hm2 : m ≤ 1048576 := by rw [hm]; exact hcn.2
  have HH := hide hH
  clear hcell hc hcn HST HR hH hm HCC
  go_upto_block 2 with fail
  generalize hw2 : wr.alloc _ = w2
  have HB2 : Hid (Below wr.heap.size wr w2) := by rw [← hw2]; exact (Below.refl _ _).alloc (Nat.le_refl _) _
  have HN2 : Hid (w2.heap[wr.heap.size]? = some (.cells #[.int .i64 ck, .int .i64 x.1.1, .int .i64 x.1.2.1, .string x.1.2.2, .slice x.2.1.1 x.2.2.length x.2.1.2, .slice ca m cc] 35)) := by rw [← hw2]; exact heap_alloc_new _ _
  clear hw2 x0 x1 x2 x3 x4 x5
  have HW2 := hide (HBR.out.trans (HB2.out.mono HBR.out.size))
  have HH2 : Hid (HpR w hp room j L ws nm M vs ts ns C (.slice a7 L k7) (.slice a8 L k8) (.slice a9 L k9) (fun b => b = wr.heap.size) w2) := HH.out.but (kee_below HB2.out fun _ => False) (fun _ _ e => e.elim) fun b e => Or.inr ⟨by omega, by rw [e]; exact (Array.getElem?_eq_some_iff.1 HN2.out).1⟩
  obtain ⟨qb, hqb⟩ : ∃ qb, qb = wr.heap.size := ⟨_, rfl⟩
  rw [← hqb]
  rw [← hqb] at HN2 HH2
  clear hqb HH
  refine lp2 cl ca a7 m cc L k7 w w2 hm2 (by omega) HAT HW2 ?_
  intro g15 g71 g72 g73 g74 g75 g76 g77 g78 g79 g80 g81 g82 g83 g84 v w3 k hk H3
  obtain ⟨hb3, zs, hz1, hz2, hz3⟩ := H3.out
  obtain ⟨ia, ic, rfl⟩ := own_slice hz3
  have HP3 := hide (Pk3.start (HH2.out.later hb3) (bkeep hb3 HN2.out))
  have HZ3 : Hid (PkI w2.heap.size (.slice ia k ic) zs w3 ∧ zs.length = k ∧ ∀ u ∈ zs, 0 ≤ u ∧ u < (L : Int)) := ⟨by unfold PkI; rw [hz1]; exact hz3, hz1, hz2⟩
  clear H3 hb3 hz1 hz2 hz3 HH2 HN2
  go_upto_block 4 with fail
  refine lp3 (by omega) HP3 HZ3 ?_ ?_
  · exact fun c a d v w h => h
  intro g20 g88 g89 g90 g91 g92 g93 g94 g95 g96 g97 g98 g99 g100 g101 g102 g103 g104 g105 g106 g107 g108 g109 g110 g111 g112 s1 s2 s3 w4 H4
  obtain ⟨x0, x1, x2, x3, x4⟩ := box6 H4.out.2
  go_upto_block 6 with fail
  clear x0 x1 x2 x3 x4
  refine sw6 H4 HXX (by omega) hLj (by omega) ?_ ?_
  · exact fun c a d v w h => h
  intro f21 f22 f23 f24 f25 f26 f27 f28 f29 f115 f116 f117 f118 f119 f120 f121 f122 f123 f124 f125 f126 f127 f128 f129 f130 f131 f132 f133 f134 f135 f136 f137 f138 f139 f140 f141 f142 f143 f144 f145 f146 f147 f148 f149 f150 f151 f152 f153 f154 f155 f156 f157 f158 f159 f160 f161 f162 f163 f164 f165 f166 f167 f168 f169 f170 f171 f172 f173 f174 f175 f176 f177 f178 f179 f180 f181 f182 f183 f184 f185 f186 f187 f188 f189 f190 f191 f192 f193 f194 f195 f196 f197 f198 f199 f200 f201 f202 f203 f204 f205 f206 f207 f208 f209 f210 f211 f212 f213 f214 f215 f216 f217 f218 f219 f220 f221 f222 f223 f224 f225 f226 f227 f228 f229 f230 f231 f232 f233 f234 f235 f236 f237 f238 f239 f240 f241 f242 y1 y2 y3 U w5 H5
  clear H4 HP3 HZ3
  obtain ⟨L5, ws5, nm5, M5, vs5, ts5, ns5, C5, hH5, hL5, rfl⟩ := H5.out
  obtain ⟨b7, m7, rfl⟩ := own_slice hH5.r7
  obtain ⟨b8, m8, rfl⟩ := own_slice hH5.r8
  obtain ⟨b9, m9, rfl⟩ := own_slice hH5.r9
  have HH5 := hide hH5
  have hf5 := hH5.few
  have HL5 := hide (hH5.lives (by omega) (by omega))
  obtain ⟨R, hR⟩ : ∃ R : Nat, R = (rootsR ws5 13 vs5).2.1.length := ⟨_, rfl⟩
  rw [← hR] at HL5
  have HRR := hide hR
  clear H5 hH5 hR
  go_wp2_with fail
  refine HL5.out.mono ?_
  rintro e w6 ⟨rfl, hb6⟩
  have HH6 := hide (HH5.out.later hb6)
  have HU6 := hide HH6.out.used
  have HV6 := hide (HH6.out.live (by omega))
  rw [← HRR.out] at HV6
  have hu : decide ((ws5.length : Int) = (ws5.length : Int)) = true := by simp
  have hr : decide ((R : Int) = (R : Int)) = true := by simp
  clear HL5 hb6 HH5
  go_upto_block 8 with (first
    | (go_at_call 17; refine HU6.out.mono ?_; rintro e w7 ⟨rfl, hw7⟩; obtain rfl := hw7.symm; clear hw7)
    | (go_at_call 15; refine HV6.out.mono ?_; rintro e w8 ⟨rfl, hb8⟩; have HH8 := hide (HH6.out.later hb8); clear hb8))
  refine lp4 HH8 (by omega) (by omega) ?_
  intro h4 h32 h33 h34 h266 h267 h268 h269 h270 h271 h272 h273 h274 h275 h276 h277 h278 h279 h280 h281 h282 h283 h284 h285 h286 h287 h288 w9 H9
  have HRD := hide (Rd.of (HH8.out.later H9.out) (B := 1048576 + (j + 1)) (i := j + 1) (by omega) rfl (Nat.le_refl _))
  clear H9 HH8 HH6
  go_wp2_with fail
  go_roundw
  case rel => exact ⟨j + 1, _, by omega, by go_num, rfl, HRD.out⟩
  case measure => simp [intOf]; omega
end Go.Proofs.Ytdlckjjfbobmpaa
