/- What is proved here: plain facts and contracts that the claimed theorem stands on, several texts in one: the region of HeapPlays that appends what was joined: a word, the tuple and its node: whatever its order, each is appended to its row. No condition but that all lies in memory. a call of HeapPlays that puts a term: what the heap answers is what is reckoned, and the state goes on. Condition: at most 2097152 terms in the term. a call of HeapPlays that puts a term and keeps no word of it: what the heap answers is what is reckoned, and the state goes on. Condition: at most 2097152 terms in the term. -/
import Derived.Test.YtdlckjjfbobmpaaG22
namespace Go.Proofs.Ytdlckjjfbobmpaa
open Go.RowKit Go.Maps

noncomputable def hx55 : Array Oper := (Try.f3.body.bind (hxRgn 55)).getD #[]
def lb55 (q1 q2 q3 : Nat) : Array Bool := #[true, true, Nat.blt 0 q1, Nat.blt 1 q1, true, true, Nat.blt 0 q2, Nat.blt 1 q2, true, true, true, true, true, true, Nat.blt 0 q3, Nat.blt 1 q3, Nat.blt 2 q3, false, false, false]
set_option maxHeartbeats 4000000 in
set_option maxRecDepth 100000 in
theorem rgn55 {w : World} {hp : Nat} {room : Int} {j L : Nat} {ws0 : List Wd} {nm : List ByteArray} {M : Nat → Prop} {vs : List Wd} {ts : List (Tm 13)} {ns : List (Option Nat)} {C : Went} {v7 v8 v9 : Value} {X : Nat → Prop} {wr : World} {us : List Wd} {qs : List (Tm 13)} {ks : List (Option Nat)} {a1 a2 a3 : Option Addr} {p1c p2c p3c n mb pb : Nat} (HR : Hid (HpR w hp room j L (ws0 ++ (0, (us.length : Int)) :: us) nm M vs ts ns C v7 v8 v9 X wr)) (hL : L ≤ 2000000) (h8 : n ≤ 8) (HM : Hid (wr.heap[mb]? = some (.cells #[.int .i64 4, .int .i64 0, .string ⟨#[]⟩, .slice a2 n p2c] 32) ∧ ¬ Own3 v7 v8 v9 mb))
    (HW : Hid (wr.heap[pb]? = some (.cells #[.int .i64 4, .int .i64 (ws0.length : Int)] 38) ∧ ¬ Own3 v7 v8 v9 pb)) (HX : Hid ((∀ c ∈ C, c.1 < ws0.length) ∧ (us.length = n ∧ qs.length = n ∧ ks.length = n) ∧ (∀ b, (Value.slice a2 n p2c).ownBlock = some b ∨ (Value.slice a3 n p3c).ownBlock = some b → X b) ∧ wr.ownsRow w.heap.size 32 4 (.slice a2 n p2c) n (ndCells (qs.map (hdT 13))) ∧ wr.ownsRow w.heap.size 39 1 (.slice a3 n p3c) n (ks.map pv) ∧ StandL ws0 nm 13 us qs ∧ (∀ y ∈ qs, y ∈ ts) ∧ RelR C us ks ∧ chk 14 (tupT 13 qs) = 0))
    {Q : Exit → Act → World → Prop} (hQ : ∀ c a (d : Nat) v w, Q (.panic c) (a.put (some d) v) w → Q (.panic c) a w) {c0 c1 c2 c3 c4 c5 c6 c10 c11 c12 c13 c14 c15 c17 c19 c20 c21 c22 c23 c24 c27 c28 c29 c30 c31 c32 c33 c34 c35 c36 c37 c38 c39 c40 c41 c42 c43 c44 c45 c46 c47 c48 c49 c50 c51 c52 c53 c54 c55 c56 c57 c58 c59 c60 c61 c62 c63 c64 c65 c66 c67 c68 c69 c70 c71 c72 c73 c74 c75 c76 c77 c78 c79 c80 c81 c82 c83 c84 c85 c86 c87 c88 c89 c90 c91 c92 c93 c94 c95 c96 c97 c98 c99 c100 c101 c102 c103 c104 c105 c106 c107 c108 c109 c110 c111 c112 c113 c114 c115 c116 c117 c118 c119 c120 c121 c122 c123 c124 c125 c126 c127 c128 c129 c130 c131 c132 c133 c134 c135 c136 c137 c138 c139 c140 c141 c142 c143 c144 c145 c146 c147 c148 c149 c150 c151 c152 c153 c154 c155 c156 c157 c158 c159 c160 c161 c162 c163 c164 c165 c166 c167 c168 c169 c170 c171 c172 c173 c174 c175 c176 c177 c178 c179 c180 c181 c182 c183 c184 c185 c186 c187 c188 c189 c190 c191 c192 c193 c194 c195 c196 c197 c198 c199 c200 c201 c202 c203 c204 c205 c206 c207 c208 c209 c210 c211 c212 c213 c214 c215 c216 c217 c218 c219 c220 c221 c222 c223 c224 c225 c226 c227 c228 c229 c230 c231 c232 c233 c234 c235 c236 c237 c238 c239 c240 c241 c242 c243 c244 c245 c246 c247 c248 c249 c250 c251 c252 c253 c254 c255 c256 c257 c258 c259 c260 c261 c262 c263 c264 c265 c266 c267 c268 c269 c270 c271 c272 c273 c274 c275 c276 c277 c278 c279 c280 c281 c282 c283 c284 c285 c286 c287 c288 c289 : Value}
    (HK : Hid (∀ (u203 u204 u205 u206 u207 u208 u209 u210 u211 u212 u213 u214 u215 u216 u217 u218 u219 y1 y2 y3 : Value) (w' : World), Hid (∃ vs' ts' ns' C', HpR w hp room j (L + 1) (ws0 ++ (0, (us.length : Int)) :: us) nm M vs' ts' ns' C' y1 y2 y3 (fun _ => False) w') → Q .normal ⟨List.toArray (c0 :: c1 :: c2 :: c3 :: c4 :: c5 :: c6 :: y1 :: y2 :: y3 :: c10 :: c11 :: c12 :: c13 :: c14 :: c15 :: Value.slice a1 n p1c :: c17 :: Value.slice a3 n p3c :: c19 :: c20 :: c21 :: c22 :: c23 :: c24 :: Value.pointer (some ⟨mb, 0, none⟩) :: Value.pointer (some ⟨pb, 0, none⟩) :: c27 :: c28 :: c29 :: c30 :: c31 :: c32 :: c33 :: c34 :: c35 :: c36 :: c37 :: c38 :: c39 :: c40 :: c41 :: c42 :: c43 :: c44 :: c45 :: c46 :: c47 :: c48 :: c49 :: c50 :: c51 :: c52 :: c53 :: c54 :: c55 :: c56 :: c57 :: c58 :: c59 :: c60 :: c61 :: c62 :: c63 :: c64 :: c65 :: c66 :: c67 :: c68 :: c69 :: c70 :: c71 :: c72 :: c73 :: c74 :: c75 :: c76 :: c77 :: c78 :: c79 :: c80 :: c81 :: c82 :: c83 :: c84 :: c85 :: c86 :: c87 :: c88 :: c89 :: c90 :: c91 :: c92 :: c93 :: c94 :: c95 :: c96 :: c97 :: c98 :: c99 :: c100 :: c101 :: c102 :: c103 :: c104 :: c105 :: c106 :: c107 :: c108 :: c109 :: c110 :: c111 :: c112 :: c113 :: c114 :: c115 :: c116 :: c117 :: c118 :: c119 :: c120 :: c121 :: c122 :: c123 :: c124 :: c125 :: c126 :: c127 :: c128 :: c129 :: c130 :: c131 :: c132 :: c133 :: c134 :: c135 :: c136 :: c137 :: c138 :: c139 :: c140 :: c141 :: c142 :: c143 :: c144 :: c145 :: c146 :: c147 :: c148 :: c149 :: c150 :: c151 :: c152 :: c153 :: c154 :: c155 :: c156 :: c157 :: c158 :: c159 :: c160 :: c161 :: c162 :: c163 :: c164 :: c165 :: c166 :: c167 :: c168 :: c169 :: c170 :: c171 :: c172 :: c173 :: c174 :: c175 :: c176 :: c177 :: c178 :: c179 :: c180 :: c181 :: c182 :: c183 :: c184 :: c185 :: c186 :: c187 :: c188 :: c189 :: c190 :: c191 :: c192 :: c193 :: c194 :: c195 :: c196 :: c197 :: c198 :: c199 :: c200 :: c201 :: c202 :: u203 :: u204 :: u205 :: u206 :: u207 :: u208 :: u209 :: u210 :: u211 :: u212 :: u213 :: u214 :: u215 :: u216 :: u217 :: u218 :: u219 :: c220 :: c221 :: c222 :: c223 :: c224 :: c225 :: c226 :: c227 :: c228 :: c229 :: c230 :: c231 :: c232 :: c233 :: c234 :: c235 :: c236 :: c237 :: c238 :: c239 :: c240 :: c241 :: c242 :: c243 :: c244 :: c245 :: c246 :: c247 :: c248 :: c249 :: c250 :: c251 :: c252 :: c253 :: c254 :: c255 :: c256 :: c257 :: c258 :: c259 :: c260 :: c261 :: c262 :: c263 :: c264 :: c265 :: c266 :: c267 :: c268 :: c269 :: c270 :: c271 :: c272 :: c273 :: c274 :: c275 :: c276 :: c277 :: c278 :: c279 :: c280 :: c281 :: c282 :: c283 :: c284 :: c285 :: c286 :: c287 :: c288 :: c289 :: []), []⟩ w')) :
    (Code.region 55 hx55 true).wp Try.prog Q ⟨List.toArray (c0 :: c1 :: c2 :: c3 :: c4 :: c5 :: c6 :: v7 :: v8 :: v9 :: c10 :: c11 :: c12 :: c13 :: c14 :: c15 :: Value.slice a1 n p1c :: c17 :: Value.slice a3 n p3c :: c19 :: c20 :: c21 :: c22 :: c23 :: c24 :: Value.pointer (some ⟨mb, 0, none⟩) :: Value.pointer (some ⟨pb, 0, none⟩) :: c27 :: c28 :: c29 :: c30 :: c31 :: c32 :: c33 :: c34 :: c35 :: c36 :: c37 :: c38 :: c39 :: c40 :: c41 :: c42 :: c43 :: c44 :: c45 :: c46 :: c47 :: c48 :: c49 :: c50 :: c51 :: c52 :: c53 :: c54 :: c55 :: c56 :: c57 :: c58 :: c59 :: c60 :: c61 :: c62 :: c63 :: c64 :: c65 :: c66 :: c67 :: c68 :: c69 :: c70 :: c71 :: c72 :: c73 :: c74 :: c75 :: c76 :: c77 :: c78 :: c79 :: c80 :: c81 :: c82 :: c83 :: c84 :: c85 :: c86 :: c87 :: c88 :: c89 :: c90 :: c91 :: c92 :: c93 :: c94 :: c95 :: c96 :: c97 :: c98 :: c99 :: c100 :: c101 :: c102 :: c103 :: c104 :: c105 :: c106 :: c107 :: c108 :: c109 :: c110 :: c111 :: c112 :: c113 :: c114 :: c115 :: c116 :: c117 :: c118 :: c119 :: c120 :: c121 :: c122 :: c123 :: c124 :: c125 :: c126 :: c127 :: c128 :: c129 :: c130 :: c131 :: c132 :: c133 :: c134 :: c135 :: c136 :: c137 :: c138 :: c139 :: c140 :: c141 :: c142 :: c143 :: c144 :: c145 :: c146 :: c147 :: c148 :: c149 :: c150 :: c151 :: c152 :: c153 :: c154 :: c155 :: c156 :: c157 :: c158 :: c159 :: c160 :: c161 :: c162 :: c163 :: c164 :: c165 :: c166 :: c167 :: c168 :: c169 :: c170 :: c171 :: c172 :: c173 :: c174 :: c175 :: c176 :: c177 :: c178 :: c179 :: c180 :: c181 :: c182 :: c183 :: c184 :: c185 :: c186 :: c187 :: c188 :: c189 :: c190 :: c191 :: c192 :: c193 :: c194 :: c195 :: c196 :: c197 :: c198 :: c199 :: c200 :: c201 :: c202 :: c203 :: c204 :: c205 :: c206 :: c207 :: c208 :: c209 :: c210 :: c211 :: c212 :: c213 :: c214 :: c215 :: c216 :: c217 :: c218 :: c219 :: c220 :: c221 :: c222 :: c223 :: c224 :: c225 :: c226 :: c227 :: c228 :: c229 :: c230 :: c231 :: c232 :: c233 :: c234 :: c235 :: c236 :: c237 :: c238 :: c239 :: c240 :: c241 :: c242 :: c243 :: c244 :: c245 :: c246 :: c247 :: c248 :: c249 :: c250 :: c251 :: c252 :: c253 :: c254 :: c255 :: c256 :: c257 :: c258 :: c259 :: c260 :: c261 :: c262 :: c263 :: c264 :: c265 :: c266 :: c267 :: c268 :: c269 :: c270 :: c271 :: c272 :: c273 :: c274 :: c275 :: c276 :: c277 :: c278 :: c279 :: c280 :: c281 :: c282 :: c283 :: c284 :: c285 :: c286 :: c287 :: c288 :: c289 :: []), []⟩ wr := by
  obtain ⟨hx1, ⟨hn1, hn2, hn3⟩, hx3, hx4, hx5, hx6, hx7, hx8, hx9⟩ := HX.out
  subst hn2
  have HC : Hid (∀ W, Kee (Own3 v7 v8 v9) wr W → (W.cell? ⟨pb, 0, none⟩ = some (.int .i64 4) ∧ W.cell? ⟨pb, 1, none⟩ = some (.int .i64 (ws0.length : Int))) ∧ (W.cell? ⟨mb, 0, none⟩ = some (.int .i64 4) ∧ W.cell? ⟨mb, 1, none⟩ = some (.int .i64 0) ∧ W.cell? ⟨mb, 2, none⟩ = some (.string ⟨#[]⟩) ∧ W.cell? ⟨mb, 3, none⟩ = some (.slice a2 qs.length p2c))) := fun W hW => by
    have h1 := (hW.block pb (Array.getElem?_eq_some_iff.1 HW.out.1).1 HW.out.2).trans HW.out.1
    have h2 := (hW.block mb (Array.getElem?_eq_some_iff.1 HM.out.1).1 HM.out.2).trans HM.out.1
    exact ⟨⟨cell_row h1 0, cell_row h1 1⟩, ⟨cell_row h2 0, cell_row h2 1, cell_row h2 2, cell_row h2 3⟩⟩
  have HS : Kee (Own3 v7 v8 v9) wr wr.drew := kee_below (Below.refl _ _).drew _
  have ew : IntKind.i64.wrap (1 + (qs.length : Int)) = 1 + (qs.length : Int) := by rw [IntKind.wrap]; simp [IntKind.bits, IntKind.signed]; omega
  obtain ⟨RA, ⟨ra1, ra2, ra3⟩, raf⟩ := rowW_ex
  obtain ⟨RB, ⟨rb1, rb2, rb3⟩, rbf⟩ := rowT_ex
  obtain ⟨RC, ⟨rc1, rc2, rc3⟩, rcf⟩ := rowN_ex
  conv => arg 2; arg 2; whnf
  refine wp_region_held_drew (S := fun W => Kee (Own3 v7 v8 v9) wr W) (by kernel_rfl) HS (fun _ => ?_)
  refine wpAnyH_take (i := 0) (v := v7) rfl (by kernel_rfl) (by kernel_rfl) (by kernel_rfl) (fun c a w h => hQ c a _ _ w h) (Or.inl ⟨rfl, fun w' hS' => ?_⟩) HS ?_
  · go_simp
    try with_reducible rfl
  simp only [Act.put, List.getElem_toArray, List.getElem_cons_zero, List.setIfInBounds_toArray, List.set_cons_zero, List.set_cons_succ]
  refine wpAnyH_take (i := 1) (v := .agg #[.int .i64 4, .int .i64 (ws0.length : Int)]) rfl (by kernel_rfl) (by kernel_rfl) (by kernel_rfl) (fun c a w h => hQ c a _ _ w h) (Or.inl ⟨rfl, fun w' hS' => ?_⟩) HS ?_
  · obtain ⟨⟨f0, f1⟩, _⟩ := HC.out w' hS'
    go_simp
    try with_reducible rfl
  simp only [Act.put, List.getElem_toArray, List.getElem_cons_zero, List.getElem_cons_succ, List.setIfInBounds_toArray, List.set_cons_zero, List.set_cons_succ]
  refine wpAnyH_take (i := 4) (v := v8) rfl (by kernel_rfl) (by kernel_rfl) (by kernel_rfl) (fun c a w h => hQ c a _ _ w h) (Or.inl ⟨rfl, fun w' hS' => ?_⟩) HS ?_
  · go_simp
    try with_reducible rfl
  simp only [Act.put, List.getElem_toArray, List.getElem_cons_zero, List.getElem_cons_succ, List.setIfInBounds_toArray, List.set_cons_zero, List.set_cons_succ]
  refine wpAnyH_take (i := 5) (v := .agg #[.int .i64 4, .int .i64 0, .string ⟨#[]⟩, .slice a2 qs.length p2c]) rfl (by kernel_rfl) (by kernel_rfl) (by kernel_rfl) (fun c a w h => hQ c a _ _ w h) (Or.inl ⟨rfl, fun w' hS' => ?_⟩) HS ?_
  · obtain ⟨_, ⟨f0, f1, f2, f3⟩⟩ := HC.out w' hS'
    go_simp
    try with_reducible rfl
  simp only [Act.put, List.getElem_toArray, List.getElem_cons_zero, List.getElem_cons_succ, List.setIfInBounds_toArray, List.set_cons_zero, List.set_cons_succ]
  refine wpAnyH_take (i := 8) (v := v9) rfl (by kernel_rfl) (by kernel_rfl) (by kernel_rfl) (fun c a w h => hQ c a _ _ w h) (Or.inl ⟨rfl, fun w' hS' => ?_⟩) HS ?_
  · go_simp
    try with_reducible rfl
  simp only [Act.put, List.getElem_toArray, List.getElem_cons_zero, List.getElem_cons_succ, List.setIfInBounds_toArray, List.set_cons_zero, List.set_cons_succ]
  refine wpAnyH_take (i := 9) (v := .slice a1 qs.length p1c) rfl (by kernel_rfl) (by kernel_rfl) (by kernel_rfl) (fun c a w h => hQ c a _ _ w h) (Or.inl ⟨rfl, fun w' hS' => ?_⟩) HS ?_
  · go_simp
    try with_reducible rfl
  simp only [Act.put, List.getElem_toArray, List.getElem_cons_zero, List.getElem_cons_succ, List.setIfInBounds_toArray, List.set_cons_zero, List.set_cons_succ]
  refine wpAnyH_take (i := 10) (v := .int .i64 (qs.length : Int)) rfl (by kernel_rfl) (by kernel_rfl) (by kernel_rfl) (fun c a w h => hQ c a _ _ w h) (Or.inl ⟨rfl, fun w' hS' => ?_⟩) HS ?_
  · go_simp
    try with_reducible rfl
  simp only [Act.put, List.getElem_toArray, List.getElem_cons_zero, List.getElem_cons_succ, List.setIfInBounds_toArray, List.set_cons_zero, List.set_cons_succ]
  refine wpAnyH_take (i := 11) (v := .int .i64 (1 + (qs.length : Int))) rfl (by kernel_rfl) (by kernel_rfl) (by kernel_rfl) (fun c a w h => hQ c a _ _ w h) (Or.inl ⟨rfl, fun w' hS' => ?_⟩) HS ?_
  · go_simp
    try with_reducible rfl
  simp only [Act.put, List.getElem_toArray, List.getElem_cons_zero, List.getElem_cons_succ, List.setIfInBounds_toArray, List.set_cons_zero, List.set_cons_succ]
  refine wpAnyH_take (i := 12) (v := .slice a3 qs.length p3c) rfl (by kernel_rfl) (by kernel_rfl) (by kernel_rfl) (fun c a w h => hQ c a _ _ w h) (Or.inl ⟨rfl, fun w' hS' => ?_⟩) HS ?_
  · go_simp
    try with_reducible rfl
  simp only [Act.put, List.getElem_toArray, List.getElem_cons_zero, List.getElem_cons_succ, List.setIfInBounds_toArray, List.set_cons_zero, List.set_cons_succ]
  refine wpAnyH_take (i := 13) (v := .agg #[.int .i64 (1 + (qs.length : Int)), .slice a3 qs.length p3c]) rfl (by kernel_rfl) (by kernel_rfl) (by kernel_rfl) (fun c a w h => hQ c a _ _ w h) (Or.inl ⟨rfl, fun w' hS' => ?_⟩) HS ?_
  · go_simp
    try with_reducible rfl
  simp only [Act.put, List.getElem_toArray, List.getElem_cons_zero, List.getElem_cons_succ, List.setIfInBounds_toArray, List.set_cons_zero, List.set_cons_succ]
  refine three_app RA RB RC vq26 rfl (fuel := 3) (w0 := wr.drew) (base := w.heap.size) (L := L) (v1 := v7) (v2 := v8) (v3 := v9) (n1 := .agg #[.int .i64 4, .int .i64 (ws0.length : Int)]) (n2 := .agg #[.int .i64 4, .int .i64 0, .string ⟨#[]⟩, .slice a2 qs.length p2c]) (xs1 := wCells vs) (xs2 := ndCells (ts.map (hdT 13))) (xs3 := ns.map pv) (new1 := wd2 (4, (ws0.length : Int))) (new2 := nd4 (hdT 14 (madeT a2 p2c qs))) (b1 := 2) (p1 := 3) (b2 := 6) (p2 := 7) (c3 := 14) (b3 := 15) (p3 := 16) (e1 := 204) (e2 := 208) (s1 := 203) (s2 := 207) (s3 := 211) (d1 := 205) (d2 := 206) (d3 := 209) (d4 := 210) (d5 := 217) (d6 := 218) (d7 := 219) (Lb := lb55) (G := fun z hi W => ∃ b, z = .pointer (some ⟨b, 0, none⟩) ∧ wr.heap.size ≤ b ∧ W.heap[b]? = some (.cells #[.int .i64 (1 + (qs.length : Int)), .slice a3 qs.length p3c] 47)) ?a1 ?a2 ?a3 (by decide) ?a4 (by decide) ?a5 (raf (4, (ws0.length : Int))) (rbf (hdT 14 (madeT a2 p2c qs))) ?a6 ?a7 ?a8 ?a9 rc3 ?a10 ?a11 ?a12 ?a13 ?a14 ?a15 (by omega) ?a16 ?a17 ?a18 ?a19 ?a20 ?a21 ?a22 ?a23 ?a24 ?a25
  case a1 => exact ⟨⟨_, rfl, rfl, rfl, by rw [ra2]; rfl⟩, ⟨_, rfl, rfl, rfl, by rw [ra2]; rfl⟩⟩
  case a2 => exact ⟨⟨_, rfl, rfl, rfl, by rw [rb2]; rfl⟩, ⟨_, rfl, rfl, rfl, by rw [rb2]; rfl⟩⟩
  case a3 => exact ⟨⟨_, rfl, rfl, rfl, by rw [rc2]; rfl⟩, ⟨_, rfl, rfl, rfl, by rw [rc2]; rfl⟩⟩
  case a4 => exact of_decide_eq_true (by kernel_rfl)
  case a5 => exact ⟨rfl, rfl, rfl, rfl, rfl⟩
  case a6 => rw [ra3]; rfl
  case a7 => rw [rb3]; rfl
  case a8 => exact wCells_one [(4, (ws0.length : Int))]
  case a9 => exact ndCells_one [(hdT 14 (madeT a2 p2c qs))]
  case a10 => rw [ra1, ra3]; exact row_kee HR.out.r7 (kee_below (Below.refl _ _).drew fun _ => False) fun _ _ e => e
  case a11 => rw [rb1, rb3]; exact row_kee HR.out.r8 (kee_below (Below.refl _ _).drew fun _ => False) fun _ _ e => e
  case a12 => rw [rc1, rc3]; exact row_kee HR.out.r9 (kee_below (Below.refl _ _).drew fun _ => False) fun _ _ e => e
  case a13 => exact HR.out.apart3.1
  case a14 => exact HR.out.apart3.2.1
  case a15 => exact HR.out.apart3.2.2
  case a16 => exact HR.out.heap.1.size
  case a17 => exact fun W h => HS.trans h fun _ _ e => e
  case a18 =>
    intro a W hev hW R' hR'
    have hW' : Kee (Own3 v7 v8 v9) wr W := HS.trans hW fun _ _ e => e
    have he : a.eval (.tmp 216) = .agg #[.int .i64 (1 + (qs.length : Int)), .slice a3 qs.length p3c] := hev 216 (by decide)
    have hA : Below W.heap.size W (W.alloc (.cells #[.int .i64 (1 + (qs.length : Int)), .slice a3 qs.length p3c] 47)) := (Below.refl _ _).alloc (Nat.le_refl _) _
    have hR := hR' (.pointer (some ⟨W.heap.size, 0, none⟩)) (W.alloc (.cells #[.int .i64 (1 + (qs.length : Int)), .slice a3 qs.length p3c] 47)) ⟨W.heap.size, rfl, hW'.size, heap_alloc_new W _⟩ hA
    refine steps_of rfl rfl ?_
    simp only [Act.eval] at he
    go_simp
    exact hR.2
  case a19 =>
    rintro z hi W W' ⟨b, e, h2, h3⟩ hs hk
    exact ⟨b, e, h2, (hk.block b (Array.getElem?_eq_some_iff.1 h3).1 fun e => by have := (HR.out.lt e).2; omega).trans h3⟩
  case a20 =>
    rintro z hi W ⟨b, e, _⟩
    subst e
    exact ⟨rcf _, rfl⟩
  case a21 =>
    intro q1 q2 q3 h1 h2 h3 h4 h5
    rcases (by omega : q1 = 0 ∨ q1 = 1 ∨ q1 = 2) with rfl | rfl | rfl <;> rcases (by omega : q2 = 0 ∨ q2 = 1 ∨ q2 = 2) with rfl | rfl | rfl <;> rcases (by omega : q3 = 0 ∨ q3 = 1 ∨ q3 = 2 ∨ q3 = 3) with rfl | rfl | rfl | rfl <;> first | (exact absurd h5 (by decide)) | (exfalso; omega) | kernel_rfl
  case a22 =>
    intro q1 q2 q3 h1 h2 h3
    rcases (by omega : q1 = 0 ∨ q1 = 1) with rfl | rfl <;> rfl
  case a23 =>
    intro q1 q2 q3 h1 h2 h3
    rcases (by omega : q2 = 0 ∨ q2 = 1) with rfl | rfl <;> rfl
  case a24 =>
    intro q1 q2 q3 h1 h2 h3
    rcases (by omega : q3 = 0 ∨ q3 = 1 ∨ q3 = 2) with rfl | rfl | rfl <;> rfl
  case a25 =>
    intro x1 y1 x2 y2 z3 x3 y3 hi W k1 k2 k3 k4 k5 k6
    have k1 := k1.2.2 rfl
    have k2 := k2.2.2 rfl
    have k3 := k3.2.2 rfl
    rw [ra1, ra3] at k1
    rw [rb1, rb3] at k2
    rw [rc1, rc3] at k3
    have hW : Kee (Own3 v7 v8 v9) wr W := HS.trans k6 fun _ _ e => e
    have hyy : ∀ b, Own3 y1 y2 y3 b → Own3 v7 v8 v9 b ∨ wr.heap.size ≤ b := by
      rintro b (e | e | e)
      · exact (k1.2.2 b e).imp Or.inl id
      · exact (k2.2.2 b e).imp (fun e => Or.inr (Or.inl e)) id
      · exact (k3.2.2 b e).imp (fun e => Or.inr (Or.inr e)) id
    obtain ⟨b, rfl, hb1, hb2⟩ := k4
    have hfin := HR.out.join_more (us := us) (qs := qs) (ks := ks) (s2 := .slice a2 qs.length p2c) (s3 := .slice a3 qs.length p3c) (n := qs.length) (ws0 := ws0) hx1 hW hyy (a2 := a2) (a3 := a3) (c2 := p2c) (c3 := p3c) (b0 := b) rfl rfl ⟨hn1, rfl, hn3⟩ h8 hx3 hx4 hx5 hx6 hx7 hx8 hx9 k1.2.1 k2.2.1 k3.2.1 ⟨hb1, hb2⟩
    unfold Fr7
    simp only [Act.put, List.setIfInBounds_toArray, List.set_cons_zero, List.set_cons_succ]
    refine wpAnyH_take (i := 17) (v := y1) rfl (by kernel_rfl) (by kernel_rfl) (by kernel_rfl) (fun c a w h => hQ c a _ _ w h) (Or.inl ⟨rfl, fun w' hS' => ?_⟩) hW ?_
    · go_simp
      try with_reducible rfl
    simp only [Act.put, List.getElem_toArray, List.getElem_cons_zero, List.getElem_cons_succ, List.setIfInBounds_toArray, List.set_cons_zero, List.set_cons_succ]
    refine wpAnyH_take (i := 18) (v := y2) rfl (by kernel_rfl) (by kernel_rfl) (by kernel_rfl) (fun c a w h => hQ c a _ _ w h) (Or.inl ⟨rfl, fun w' hS' => ?_⟩) hW ?_
    · go_simp
      try with_reducible rfl
    simp only [Act.put, List.getElem_toArray, List.getElem_cons_zero, List.getElem_cons_succ, List.setIfInBounds_toArray, List.set_cons_zero, List.set_cons_succ]
    refine wpAnyH_take (i := 19) (v := y3) rfl (by kernel_rfl) (by kernel_rfl) (by kernel_rfl) (fun c a w h => hQ c a _ _ w h) (Or.inl ⟨rfl, fun w' hS' => ?_⟩) hW ?_
    · go_simp
      try with_reducible rfl
    simp only [Act.put, List.getElem_toArray, List.getElem_cons_zero, List.getElem_cons_succ, List.setIfInBounds_toArray, List.set_cons_zero, List.set_cons_succ]
    exact wpAnyH_done (by kernel_rfl) (HK.out _ _ _ _ _ _ _ _ _ _ _ _ _ _ _ _ _ y1 y2 y3 W ⟨_, _, _, _, hfin⟩) _
end Go.Proofs.Ytdlckjjfbobmpaa
namespace Go.Proofs.Ytdlckjjfbobmpaa
open Go.RowKit Go.Maps

noncomputable def hxB6 : Code := (Try.f3.body.bind (hxBlk 6)).getD .skip
/-- The state between two calls. -/
def Rd (w : World) (hp : Nat) (room : Int) (j B : Nat) (v7 v8 v9 : Value) (U : Int) (wr : World) : Prop :=
  ∃ L ws nm M vs ts ns C, HpR w hp room j L ws nm M vs ts ns C v7 v8 v9 (fun _ => False) wr ∧ L ≤ B ∧ U = (ws.length : Int)
theorem Rd.of {w : World} {hp : Nat} {room : Int} {j L : Nat} {ws : List Wd} {nm : List ByteArray} {M : Nat → Prop} {vs : List Wd} {ts : List (Tm 13)} {ns : List (Option Nat)} {C : Went} {v7 v8 v9 : Value} {X : Nat → Prop} {wr : World} (h : HpR w hp room j L ws nm M vs ts ns C v7 v8 v9 X wr) {B : Nat} (hB : L ≤ B) {U : Int} (hU : U = (ws.length : Int)) {i : Nat} (hi : j ≤ i) : Rd w hp room i B v7 v8 v9 U wr :=
  ⟨L, ws, nm, M, vs, ts, ns, C, (h.but (S := fun _ => False) (Kee.refl _ _) (fun _ _ e => e.elim) fun _ e => e.elim).up hi, hB, hU⟩
theorem bkeep {w w' : World} (hb : Below w.heap.size w w') {q : Nat} {o : Obj} (h : w.heap[q]? = some o) : w'.heap[q]? = some o := (hb.block q (Array.getElem?_eq_some_iff.1 h).1).trans h
theorem box6 {w : World} {q : Nat} {b0 b1 b2 b3 b4 b5 : Value} {t : TypeId} (h : w.heap[q]? = some (.cells #[b0, b1, b2, b3, b4, b5] t)) : w.cell? ⟨q, 0, none⟩ = some b0 ∧ w.cell? ⟨q, 1, none⟩ = some b1 ∧ w.cell? ⟨q, 2, none⟩ = some b2 ∧ w.cell? ⟨q, 3, none⟩ = some b3 ∧ w.cell? ⟨q, 4, none⟩ = some b4 := ⟨cell_row h 0, cell_row h 1, cell_row h 2, cell_row h 3, cell_row h 4⟩
theorem putE_of {n : Nat} {x : Tm n} {room : Int} {ws : List Wd} : (putC n x ≠ 0 → putE n x room ws = putC n x) ∧ (putC n x = 0 → room < (ws.length : Int) + sz n x → putE n x room ws = 6) ∧ (putC n x = 0 → ¬ room < (ws.length : Int) + sz n x → putE n x room ws = 0) := by
  unfold putC putE
  by_cases h1 : chk n x ≠ 0
  · simp [h1]
  · by_cases h2 : closedT n x = false
    · simp [h1, h2]
    · simp only [if_neg h1, if_neg h2]
      refine ⟨fun e => absurd rfl e, fun _ h => ?_, fun _ h => ?_⟩
      · rw [if_pos (decide_eq_false (by omega))]
      · rw [if_neg (by rw [decide_eq_true (by omega)]; decide)]
set_option maxHeartbeats 8000000 in
set_option maxRecDepth 100000 in
theorem sw_put0 {w : World} {hp : Nat} {room : Int} {j L : Nat} {ws : List Wd} {nm : List ByteArray} {M : Nat → Prop} {vs : List Wd} {ts : List (Tm 13)} {ns : List (Option Nat)} {C : Went} {v7 v8 v9 s1 s2 s3 : Value} {w1 : World} {qb n q : Nat} {x : Tm (q + 1)} {bat : Value} (HP : Hid (Pk3 w hp room j L ws nm M vs ts ns C v7 v8 v9 qb #[.int .i64 0, .int .i64 x.1.1, .int .i64 x.1.2.1, .string x.1.2.2, .slice x.2.1.1 x.2.2.length x.2.1.2, bat] n s1 s2 s3 w1)) (HX : Hid (In w.heap.size w (q + 1) x ∧ (nodes (q + 1) x).length ≤ 2097152)) (hj : j ≤ 60) (hLj : L ≤ 1048576 + j) (_hn : n ≤ 1048576) 
    {Q : Exit → Act → World → Prop} (hQ : ∀ c a (d : Nat) v w, Q (.panic c) (a.put (some d) v) w → Q (.panic c) a w) {c1 c2 c3 c4 c6 c11 c13 c14 c15 c19 c20 c21 c22 c23 c24 c25 c26 c27 c28 c29 c30 c31 c32 c33 c34 c35 c36 c37 c38 c39 c40 c41 c42 c43 c44 c45 c46 c47 c48 c49 c50 c51 c52 c53 c54 c55 c56 c57 c58 c59 c60 c61 c62 c63 c64 c65 c66 c67 c68 c69 c70 c71 c72 c73 c74 c75 c76 c77 c78 c79 c80 c81 c82 c83 c84 c85 c86 c87 c88 c89 c90 c91 c92 c93 c94 c95 c96 c97 c98 c99 c100 c101 c102 c103 c104 c105 c106 c107 c108 c109 c110 c111 c112 c113 c115 c116 c117 c118 c119 c120 c121 c122 c123 c124 c125 c126 c127 c128 c129 c130 c131 c132 c133 c134 c135 c136 c137 c138 c139 c140 c141 c142 c143 c144 c145 c146 c147 c148 c149 c150 c151 c152 c153 c154 c155 c156 c157 c158 c159 c160 c161 c162 c163 c164 c165 c166 c167 c168 c169 c170 c171 c172 c173 c174 c175 c176 c177 c178 c179 c180 c181 c182 c183 c184 c185 c186 c187 c188 c189 c190 c191 c192 c193 c194 c195 c196 c197 c198 c199 c200 c201 c202 c203 c204 c205 c206 c207 c208 c209 c210 c211 c212 c213 c214 c215 c216 c217 c218 c219 c220 c221 c222 c223 c224 c225 c226 c227 c228 c229 c230 c231 c232 c233 c234 c235 c236 c237 c238 c239 c240 c241 c242 c243 c244 c245 c246 c247 c248 c249 c250 c251 c252 c253 c254 c255 c256 c257 c258 c259 c260 c261 c262 c263 c264 c265 c266 c267 c268 c269 c270 c271 c272 c273 c274 c275 c276 c277 c278 c279 c280 c281 c282 c283 c284 c285 c286 c287 c288 c289 : Value}
    (HK : Hid (∀ (u21 u22 u23 u24 u25 u26 u27 u28 u29 u115 u116 u117 u118 u119 u120 u121 u122 u123 u124 u125 u126 u127 u128 u129 u130 u131 u132 u133 u134 u135 u136 u137 u138 u139 u140 u141 u142 u143 u144 u145 u146 u147 u148 u149 u150 u151 u152 u153 u154 u155 u156 u157 u158 u159 u160 u161 u162 u163 u164 u165 u166 u167 u168 u169 u170 u171 u172 u173 u174 u175 u176 u177 u178 u179 u180 u181 u182 u183 u184 u185 u186 u187 u188 u189 u190 u191 u192 u193 u194 u195 u196 u197 u198 u199 u200 u201 u202 u203 u204 u205 u206 u207 u208 u209 u210 u211 u212 u213 u214 u215 u216 u217 u218 u219 u220 u221 u222 u223 u224 u225 u226 u227 u228 u229 u230 u231 u232 u233 u234 u235 u236 u237 u238 u239 u240 u241 u242 y1 y2 y3 : Value) (U' : Int) (w' : World), Hid (Rd w hp room (j + 1) (1048576 + (j + 1)) y1 y2 y3 U' w') → Q .normal ⟨List.toArray (Value.int .i64 room :: c1 :: c2 :: c3 :: c4 :: Value.pointer (some ⟨hp, 0, none⟩) :: c6 :: y1 :: y2 :: y3 :: Value.int .i64 U' :: c11 :: Value.pointer (some ⟨qb, 0, none⟩) :: c13 :: c14 :: c15 :: s1 :: s2 :: s3 :: c19 :: c20 :: u21 :: u22 :: u23 :: u24 :: u25 :: u26 :: u27 :: u28 :: u29 :: c30 :: c31 :: c32 :: c33 :: c34 :: c35 :: c36 :: c37 :: c38 :: c39 :: c40 :: c41 :: c42 :: c43 :: c44 :: c45 :: c46 :: c47 :: c48 :: c49 :: c50 :: c51 :: c52 :: c53 :: c54 :: c55 :: c56 :: c57 :: c58 :: c59 :: c60 :: c61 :: c62 :: c63 :: c64 :: c65 :: c66 :: c67 :: c68 :: c69 :: c70 :: c71 :: c72 :: c73 :: c74 :: c75 :: c76 :: c77 :: c78 :: c79 :: c80 :: c81 :: c82 :: c83 :: c84 :: c85 :: c86 :: c87 :: c88 :: c89 :: c90 :: c91 :: c92 :: c93 :: c94 :: c95 :: c96 :: c97 :: c98 :: c99 :: c100 :: c101 :: c102 :: c103 :: c104 :: c105 :: c106 :: c107 :: c108 :: c109 :: c110 :: c111 :: c112 :: c113 :: Value.int .i64 0 :: u115 :: u116 :: u117 :: u118 :: u119 :: u120 :: u121 :: u122 :: u123 :: u124 :: u125 :: u126 :: u127 :: u128 :: u129 :: u130 :: u131 :: u132 :: u133 :: u134 :: u135 :: u136 :: u137 :: u138 :: u139 :: u140 :: u141 :: u142 :: u143 :: u144 :: u145 :: u146 :: u147 :: u148 :: u149 :: u150 :: u151 :: u152 :: u153 :: u154 :: u155 :: u156 :: u157 :: u158 :: u159 :: u160 :: u161 :: u162 :: u163 :: u164 :: u165 :: u166 :: u167 :: u168 :: u169 :: u170 :: u171 :: u172 :: u173 :: u174 :: u175 :: u176 :: u177 :: u178 :: u179 :: u180 :: u181 :: u182 :: u183 :: u184 :: u185 :: u186 :: u187 :: u188 :: u189 :: u190 :: u191 :: u192 :: u193 :: u194 :: u195 :: u196 :: u197 :: u198 :: u199 :: u200 :: u201 :: u202 :: u203 :: u204 :: u205 :: u206 :: u207 :: u208 :: u209 :: u210 :: u211 :: u212 :: u213 :: u214 :: u215 :: u216 :: u217 :: u218 :: u219 :: u220 :: u221 :: u222 :: u223 :: u224 :: u225 :: u226 :: u227 :: u228 :: u229 :: u230 :: u231 :: u232 :: u233 :: u234 :: u235 :: u236 :: u237 :: u238 :: u239 :: u240 :: u241 :: u242 :: c243 :: c244 :: c245 :: c246 :: c247 :: c248 :: c249 :: c250 :: c251 :: c252 :: c253 :: c254 :: c255 :: c256 :: c257 :: c258 :: c259 :: c260 :: c261 :: c262 :: c263 :: c264 :: c265 :: c266 :: c267 :: c268 :: c269 :: c270 :: c271 :: c272 :: c273 :: c274 :: c275 :: c276 :: c277 :: c278 :: c279 :: c280 :: c281 :: c282 :: c283 :: c284 :: c285 :: c286 :: c287 :: c288 :: c289 :: []), []⟩ w')) :
    (Code.block 6 hxB6).wp Try.prog Q ⟨List.toArray (Value.int .i64 room :: c1 :: c2 :: c3 :: c4 :: Value.pointer (some ⟨hp, 0, none⟩) :: c6 :: v7 :: v8 :: v9 :: Value.int .i64 (ws.length : Int) :: c11 :: Value.pointer (some ⟨qb, 0, none⟩) :: c13 :: c14 :: c15 :: s1 :: s2 :: s3 :: c19 :: c20 :: c21 :: c22 :: c23 :: c24 :: c25 :: c26 :: c27 :: c28 :: c29 :: c30 :: c31 :: c32 :: c33 :: c34 :: c35 :: c36 :: c37 :: c38 :: c39 :: c40 :: c41 :: c42 :: c43 :: c44 :: c45 :: c46 :: c47 :: c48 :: c49 :: c50 :: c51 :: c52 :: c53 :: c54 :: c55 :: c56 :: c57 :: c58 :: c59 :: c60 :: c61 :: c62 :: c63 :: c64 :: c65 :: c66 :: c67 :: c68 :: c69 :: c70 :: c71 :: c72 :: c73 :: c74 :: c75 :: c76 :: c77 :: c78 :: c79 :: c80 :: c81 :: c82 :: c83 :: c84 :: c85 :: c86 :: c87 :: c88 :: c89 :: c90 :: c91 :: c92 :: c93 :: c94 :: c95 :: c96 :: c97 :: c98 :: c99 :: c100 :: c101 :: c102 :: c103 :: c104 :: c105 :: c106 :: c107 :: c108 :: c109 :: c110 :: c111 :: c112 :: c113 :: Value.int .i64 0 :: c115 :: c116 :: c117 :: c118 :: c119 :: c120 :: c121 :: c122 :: c123 :: c124 :: c125 :: c126 :: c127 :: c128 :: c129 :: c130 :: c131 :: c132 :: c133 :: c134 :: c135 :: c136 :: c137 :: c138 :: c139 :: c140 :: c141 :: c142 :: c143 :: c144 :: c145 :: c146 :: c147 :: c148 :: c149 :: c150 :: c151 :: c152 :: c153 :: c154 :: c155 :: c156 :: c157 :: c158 :: c159 :: c160 :: c161 :: c162 :: c163 :: c164 :: c165 :: c166 :: c167 :: c168 :: c169 :: c170 :: c171 :: c172 :: c173 :: c174 :: c175 :: c176 :: c177 :: c178 :: c179 :: c180 :: c181 :: c182 :: c183 :: c184 :: c185 :: c186 :: c187 :: c188 :: c189 :: c190 :: c191 :: c192 :: c193 :: c194 :: c195 :: c196 :: c197 :: c198 :: c199 :: c200 :: c201 :: c202 :: c203 :: c204 :: c205 :: c206 :: c207 :: c208 :: c209 :: c210 :: c211 :: c212 :: c213 :: c214 :: c215 :: c216 :: c217 :: c218 :: c219 :: c220 :: c221 :: c222 :: c223 :: c224 :: c225 :: c226 :: c227 :: c228 :: c229 :: c230 :: c231 :: c232 :: c233 :: c234 :: c235 :: c236 :: c237 :: c238 :: c239 :: c240 :: c241 :: c242 :: c243 :: c244 :: c245 :: c246 :: c247 :: c248 :: c249 :: c250 :: c251 :: c252 :: c253 :: c254 :: c255 :: c256 :: c257 :: c258 :: c259 :: c260 :: c261 :: c262 :: c263 :: c264 :: c265 :: c266 :: c267 :: c268 :: c269 :: c270 :: c271 :: c272 :: c273 :: c274 :: c275 :: c276 :: c277 :: c278 :: c279 :: c280 :: c281 :: c282 :: c283 :: c284 :: c285 :: c286 :: c287 :: c288 :: c289 :: []), []⟩ w1 := by
  obtain ⟨⟨us, qs, ks, hH, hS⟩, hbx⟩ := HP.out
  have HH := hide hH
  have HBX := hide hbx
  obtain ⟨P, hP⟩ : ∃ P, P = putC (q + 1) x := ⟨_, rfl⟩
  obtain ⟨Z, hZ⟩ : ∃ Z, Z = sz (q + 1) x := ⟨_, rfl⟩
  obtain ⟨E, hE⟩ : ∃ E, E = putE (q + 1) x room ws := ⟨_, rfl⟩
  obtain ⟨U, hU⟩ : ∃ U : Int, U = (ws.length : Int) := ⟨_, rfl⟩
  obtain ⟨hE1, hE2, hE3⟩ := putE_of (n := q + 1) (x := x) (room := room) (ws := ws)
  rw [← hP, ← hE] at hE1
  rw [← hP, ← hE, ← hZ, ← hU] at hE2 hE3
  have hZ0 : 0 ≤ Z ∧ Z ≤ 4194304 := by
    have := sz_bound (q + 1) x
    have := HX.out.2
    rw [hZ]
    omega
  have hU0 : 0 ≤ U ∧ U ≤ 1000 := by
    have := hH.few
    omega
  have hr := hH.room
  have hr0 : 0 ≤ room ∧ room ≤ 1000 := hr.2
  have HEE := hide hE
  have HUU := hide hU
  have HZZ := hide hZ
  have HPU : Hid (∀ W, Below w1.heap.size w1 W → Calls Try.prog 7 #[.agg #[.int .i64 x.1.1, .int .i64 x.1.2.1, .string x.1.2.2, .slice x.2.1.1 x.2.2.length x.2.1.2]] W fun e w' => e = .returned (.int .i64 P) ∧ Below W.heap.size W w') := fun W hW => by
    have hb := hH.heap.1.trans (hW.mono hH.heap.1.size)
    have k := rputable_any q x w.heap.size W (HX.out.1.below hb) hb.size HX.out.2
    rw [← hP] at k
    exact k
  have HSZ : Hid (∀ W, Below w.heap.size w W → Calls Try.prog 8 #[.agg #[.int .i64 x.1.1, .int .i64 x.1.2.1, .string x.1.2.2, .slice x.2.1.1 x.2.2.length x.2.1.2]] W fun e w' => e = .returned (.int .i64 Z) ∧ Below W.heap.size W w') := fun W hb => by
    have k := rsize_any (q + 1) x w.heap.size W (HX.out.1.below hb) hb.size HX.out.2
    rw [← hZ] at k
    exact k
  have HPT : Hid (∀ W, Below w1.heap.size w1 W → Calls Try.prog 9 #[.pointer (some ⟨hp, 0, none⟩), .agg #[.int .i64 x.1.1, .int .i64 x.1.2.1, .string x.1.2.2, .slice x.2.1.1 x.2.2.length x.2.1.2]] W fun e w' => ∃ v : Wd, e = .returned (.tuple #[.agg #[.int .i64 v.1, .int .i64 v.2], .int .i64 E]) ∧ Hid ((E ≠ 0 → Below W.heap.size W w') ∧
      (E = 0 → ∃ ws' nm' M', chk (q + 1) x = 0 ∧ closedT (q + 1) x = true ∧ (ws'.length : Int) = U + Z ∧ HpR w hp room (j + 1) L ws' nm' M' vs ts ns C v7 v8 v9 (fun b => Own3 s1 s2 s3 b ∨ b = qb) w' ∧ Stands ws' nm' (q + 1) x v ∧ (plc ws' (q + 1) v).Nodup ∧ (∀ p ∈ plc ws' (q + 1) v, ws.length ≤ p) ∧ w'.heap[qb]? = some (.cells #[.int .i64 0, .int .i64 x.1.1, .int .i64 x.1.2.1, .string x.1.2.2, .slice x.2.1.1 x.2.2.length x.2.1.2, bat] 35)))) := fun W hW => by
    have k := (hH.later hW).put (by omega) x HX.out.1 HX.out.2
    rw [← hE] at k
    refine k.mono ?_
    rintro e w' ⟨v, rfl, H⟩
    refine ⟨v, rfl, H.out.1, fun h0 => ?_⟩
    obtain ⟨ws', nm', M', k1, k2, k3, k4, k5, k6, k7, k8⟩ := H.out.2 h0
    exact ⟨ws', nm', M', k1, k2, by rw [hU, hZ]; exact k3, k4, k5, k6, k7, (k8 qb (Or.inr rfl)).trans (bkeep hW hbx)⟩
  have HWW := hide hH.heap.1
  have HIN := hide HX.out.1
  clear hH hS hP hE hZ hr HX HP
  obtain ⟨x0, x1, x2, x3, x4⟩ := box6 hbx
  conv => arg 2; arg 2; whnf
  rw [← hU]
  clear hbx hU
  go_wp2_with fail
  refine (HPU.out _ (Below.refl _ _)).mono ?_
  rintro e w2 ⟨rfl, hb2⟩
  have HB2 := hide hb2
  have HX2 := hide (bkeep hb2 HBX.out)
  clear x0 x1 x2 x3 x4 HPU
  obtain ⟨x0, x1, x2, x3, x4⟩ := box6 HX2.out
  by_cases hP0 : P = 0
  rotate_left
  · have e1 := hE1 hP0
    subst e1
    have pb : (E == 0) = false := by simpa using hP0
    go_wp2_with fail
    refine (HPT.out _ HB2.out).mono ?_
    rintro e w3 ⟨v, rfl, H3⟩
    have HB3 := hide (HB2.out.trans ((H3.out.1 hP0).mono HB2.out.size))
    have HRD : Hid (∀ o, Rd w hp room (j + 1) (1048576 + (j + 1)) v7 v8 v9 U (w3.alloc o)) := fun o => Rd.of (HH.out.later (HB3.out.alloc HB3.out.size o)) (by omega) HUU.out (by omega)
    go_wp2_with fail
    exact HK.out _ _ _ _ _ _ _ _ _ _ _ _ _ _ _ _ _ _ _ _ _ _ _ _ _ _ _ _ _ _ _ _ _ _ _ _ _ _ _ _ _ _ _ _ _ _ _ _ _ _ _ _ _ _ _ _ _ _ _ _ _ _ _ _ _ _ _ _ _ _ _ _ _ _ _ _ _ _ _ _ _ _ _ _ _ _ _ _ _ _ _ _ _ _ _ _ _ _ _ _ _ _ _ _ _ _ _ _ _ _ _ _ _ _ _ _ _ _ _ _ _ _ _ _ _ _ _ _ _ _ _ _ _ _ _ _ _ _ _ _ _ _ (HRD.out _)
  subst hP0
  have HB2w := hide (HWW.out.trans (HB2.out.mono HWW.out.size))
  by_cases hF : room < U + Z
  · have hE6 := hE2 rfl hF
    subst hE6
    clear hE1 hE2 hE3
    go_wp2_with fail
    refine (HSZ.out _ HB2w.out).mono ?_
    rintro e w3 ⟨rfl, hb3⟩
    have HB3 := hide (HB2.out.trans (hb3.mono HB2.out.size))
    have HX3 := hide (bkeep hb3 HX2.out)
    clear x0 x1 x2 x3 x4
    obtain ⟨x0, x1, x2, x3, x4⟩ := box6 HX3.out
    go_wp2_with fail
    refine (HPT.out _ HB3.out).mono ?_
    rintro e w4 ⟨v, rfl, H4⟩
    have HB4 := hide (HB3.out.trans ((H4.out.1 (by simp)).mono HB3.out.size))
    have HRD : Hid (∀ o, Rd w hp room (j + 1) (1048576 + (j + 1)) v7 v8 v9 U (w4.alloc o)) := fun o => Rd.of (HH.out.later (HB4.out.alloc HB4.out.size o)) (by omega) HUU.out (by omega)
    go_wp2_with fail
    exact HK.out _ _ _ _ _ _ _ _ _ _ _ _ _ _ _ _ _ _ _ _ _ _ _ _ _ _ _ _ _ _ _ _ _ _ _ _ _ _ _ _ _ _ _ _ _ _ _ _ _ _ _ _ _ _ _ _ _ _ _ _ _ _ _ _ _ _ _ _ _ _ _ _ _ _ _ _ _ _ _ _ _ _ _ _ _ _ _ _ _ _ _ _ _ _ _ _ _ _ _ _ _ _ _ _ _ _ _ _ _ _ _ _ _ _ _ _ _ _ _ _ _ _ _ _ _ _ _ _ _ _ _ _ _ _ _ _ _ _ _ _ _ _ (HRD.out _)
  have hE0 := hE3 (by simp) (by omega)
  subst hE0
  clear hE1 hE2 hE3
  go_wp2_with fail
  refine (HSZ.out _ HB2w.out).mono ?_
  rintro e w3 ⟨rfl, hb3⟩
  have HB3 := hide (HB2.out.trans (hb3.mono HB2.out.size))
  have HX3 := hide (bkeep hb3 HX2.out)
  clear x0 x1 x2 x3 x4
  obtain ⟨x0, x1, x2, x3, x4⟩ := box6 HX3.out
  go_wp2_with fail
  refine (HPT.out _ HB3.out).mono ?_
  rintro e w4 ⟨v, rfl, H4⟩
  obtain ⟨ws', nm', M', k1, k2, k3, k4, k5, k6, k7, k8⟩ := H4.out.2 (by simp)
  have HH4 := hide k4
  have HF4 := hide (⟨k1, k2, k3, k5, k6, k7⟩ : _ ∧ _ ∧ _ ∧ _ ∧ _ ∧ _)
  have HA4 : Hid (∀ o, Below w4.heap.size w4 (w4.alloc o)) := fun o => (Below.refl _ _).alloc (Nat.le_refl _) o
  have HX4 : Hid (∀ o, (w4.alloc o).heap[qb]? = some (.cells #[.int .i64 0, .int .i64 x.1.1, .int .i64 x.1.2.1, .string x.1.2.2, .slice x.2.1.1 x.2.2.length x.2.1.2, bat] 35)) := fun o => bkeep (HA4.out o) k8
  have HW4 := hide k4.heap.1
  clear x0 x1 x2 x3 x4 H4 HPT k1 k2 k3 k4 k5 k6 k7 k8
  go_upto_region 38 with fail
  generalize hw5 : w4.alloc _ = w5
  have HB5 : Hid (Below w4.heap.size w4 w5) := by rw [← hw5]; exact HA4.out _
  have HX5 : Hid (w5.heap[qb]? = some (.cells #[.int .i64 0, .int .i64 x.1.1, .int .i64 x.1.2.1, .string x.1.2.2, .slice x.2.1.1 x.2.2.length x.2.1.2, bat] 35)) := by rw [← hw5]; exact HX4.out _
  have HN5 : Hid (w5.heap[w4.heap.size]? = some (.cells #[.int .i64 v.1, .int .i64 v.2] 38)) := by rw [← hw5]; exact heap_alloc_new _ _
  clear hw5 HX4 HA4
  obtain ⟨x0, x1, x2, x3, x4⟩ := box6 HX5.out
  have HW5 := hide (HW4.out.trans (HB5.out.mono HW4.out.size))
  go_wp2_with fail
  refine (HSZ.out _ HW5.out).mono ?_
  rintro e w6 ⟨rfl, hb6⟩
  have HB6 := hide (HB5.out.trans (hb6.mono HB5.out.size))
  have HX6 := hide (bkeep hb6 HX5.out)
  have HN6 := hide (bkeep hb6 HN5.out)
  clear x0 x1 x2 x3 x4
  obtain ⟨x0, x1, x2, x3, x4⟩ := box6 HX6.out
  have HH6 := hide (HH4.out.later HB6.out)
  have HF6 : Hid (w6.heap[w4.heap.size]? = some (.cells #[.int .i64 v.1, .int .i64 v.2] 38) ∧ ¬ Own3 v7 v8 v9 w4.heap.size) := ⟨HN6.out, fun e => by have := (HH4.out.lt e).2; omega⟩
  have HG6 : Hid (In w.heap.size w (q + 1) x ∧ chk (q + 1) x = 0 ∧ closedT (q + 1) x = true ∧ Stands ws' nm' (q + 1) x v ∧ (plc ws' (q + 1) v).Nodup ∧ (∀ p ∈ plc ws' (q + 1) v, ws.length ≤ p) ∧ ∀ c ∈ C, c.1 < ws.length) := ⟨HIN.out, HF4.out.1, HF4.out.2.1, HF4.out.2.2.2.1, HF4.out.2.2.2.2.1, HF4.out.2.2.2.2.2, HH.out.seen⟩
  go_upto_region 40 with fail
  refine rgn40 HH6 (by omega) HX6 HF6 HG6 ?_ ?_
  · exact fun c a d v w h => hQ c a d v w h
  intro e152 e153 e154 e155 e156 e157 e158 e159 e160 e161 e162 e163 e164 e165 e166 y1 y2 y3 w7 H7
  have HRD : Hid (Rd w hp room (j + 1) (1048576 + (j + 1)) y1 y2 y3 (U + Z) w7) := by
    obtain ⟨vs', ts', ns', C', h⟩ := H7.out
    exact Rd.of h (by omega) HF4.out.2.2.1.symm (Nat.le_refl _)
  clear x0 x1 x2 x3 x4
  go_wp2_with fail
  exact HK.out _ _ _ _ _ _ _ _ _ _ _ _ _ _ _ _ _ _ _ _ _ _ _ _ _ _ _ _ _ _ _ _ _ _ _ _ _ _ _ _ _ _ _ _ _ _ _ _ _ _ _ _ _ _ _ _ _ _ _ _ _ _ _ _ _ _ _ _ _ _ _ _ _ _ _ _ _ _ _ _ _ _ _ _ _ _ _ _ _ _ _ _ _ _ _ _ _ _ _ _ _ _ _ _ _ _ _ _ _ _ _ _ _ _ _ _ _ _ _ _ _ _ _ _ _ _ _ _ _ _ _ _ _ _ _ _ _ _ _ _ _ _ HRD
end Go.Proofs.Ytdlckjjfbobmpaa
namespace Go.Proofs.Ytdlckjjfbobmpaa
open Go.RowKit Go.Maps

set_option maxHeartbeats 8000000 in
set_option maxRecDepth 100000 in
theorem sw_put3 {w : World} {hp : Nat} {room : Int} {j L : Nat} {ws : List Wd} {nm : List ByteArray} {M : Nat → Prop} {vs : List Wd} {ts : List (Tm 13)} {ns : List (Option Nat)} {C : Went} {v7 v8 v9 s1 s2 s3 : Value} {w1 : World} {qb n q : Nat} {x : Tm (q + 1)} {bat : Value} (HP : Hid (Pk3 w hp room j L ws nm M vs ts ns C v7 v8 v9 qb #[.int .i64 3, .int .i64 x.1.1, .int .i64 x.1.2.1, .string x.1.2.2, .slice x.2.1.1 x.2.2.length x.2.1.2, bat] n s1 s2 s3 w1)) (HX : Hid (In w.heap.size w (q + 1) x ∧ (nodes (q + 1) x).length ≤ 2097152)) (hj : j ≤ 60) (hLj : L ≤ 1048576 + j) (_hn : n ≤ 1048576) 
    {Q : Exit → Act → World → Prop} (_hQ : ∀ c a (d : Nat) v w, Q (.panic c) (a.put (some d) v) w → Q (.panic c) a w) {c1 c2 c3 c4 c6 c11 c13 c14 c15 c19 c20 c21 c22 c23 c24 c25 c26 c27 c28 c29 c30 c31 c32 c33 c34 c35 c36 c37 c38 c39 c40 c41 c42 c43 c44 c45 c46 c47 c48 c49 c50 c51 c52 c53 c54 c55 c56 c57 c58 c59 c60 c61 c62 c63 c64 c65 c66 c67 c68 c69 c70 c71 c72 c73 c74 c75 c76 c77 c78 c79 c80 c81 c82 c83 c84 c85 c86 c87 c88 c89 c90 c91 c92 c93 c94 c95 c96 c97 c98 c99 c100 c101 c102 c103 c104 c105 c106 c107 c108 c109 c110 c111 c112 c113 c115 c116 c117 c118 c119 c120 c121 c122 c123 c124 c125 c126 c127 c128 c129 c130 c131 c132 c133 c134 c135 c136 c137 c138 c139 c140 c141 c142 c143 c144 c145 c146 c147 c148 c149 c150 c151 c152 c153 c154 c155 c156 c157 c158 c159 c160 c161 c162 c163 c164 c165 c166 c167 c168 c169 c170 c171 c172 c173 c174 c175 c176 c177 c178 c179 c180 c181 c182 c183 c184 c185 c186 c187 c188 c189 c190 c191 c192 c193 c194 c195 c196 c197 c198 c199 c200 c201 c202 c203 c204 c205 c206 c207 c208 c209 c210 c211 c212 c213 c214 c215 c216 c217 c218 c219 c220 c221 c222 c223 c224 c225 c226 c227 c228 c229 c230 c231 c232 c233 c234 c235 c236 c237 c238 c239 c240 c241 c242 c243 c244 c245 c246 c247 c248 c249 c250 c251 c252 c253 c254 c255 c256 c257 c258 c259 c260 c261 c262 c263 c264 c265 c266 c267 c268 c269 c270 c271 c272 c273 c274 c275 c276 c277 c278 c279 c280 c281 c282 c283 c284 c285 c286 c287 c288 c289 : Value}
    (HK : Hid (∀ (u21 u22 u23 u24 u25 u26 u27 u28 u29 u115 u116 u117 u118 u119 u120 u121 u122 u123 u124 u125 u126 u127 u128 u129 u130 u131 u132 u133 u134 u135 u136 u137 u138 u139 u140 u141 u142 u143 u144 u145 u146 u147 u148 u149 u150 u151 u152 u153 u154 u155 u156 u157 u158 u159 u160 u161 u162 u163 u164 u165 u166 u167 u168 u169 u170 u171 u172 u173 u174 u175 u176 u177 u178 u179 u180 u181 u182 u183 u184 u185 u186 u187 u188 u189 u190 u191 u192 u193 u194 u195 u196 u197 u198 u199 u200 u201 u202 u203 u204 u205 u206 u207 u208 u209 u210 u211 u212 u213 u214 u215 u216 u217 u218 u219 u220 u221 u222 u223 u224 u225 u226 u227 u228 u229 u230 u231 u232 u233 u234 u235 u236 u237 u238 u239 u240 u241 u242 y1 y2 y3 : Value) (U' : Int) (w' : World), Hid (Rd w hp room (j + 1) (1048576 + (j + 1)) y1 y2 y3 U' w') → Q .normal ⟨List.toArray (Value.int .i64 room :: c1 :: c2 :: c3 :: c4 :: Value.pointer (some ⟨hp, 0, none⟩) :: c6 :: y1 :: y2 :: y3 :: Value.int .i64 U' :: c11 :: Value.pointer (some ⟨qb, 0, none⟩) :: c13 :: c14 :: c15 :: s1 :: s2 :: s3 :: c19 :: c20 :: u21 :: u22 :: u23 :: u24 :: u25 :: u26 :: u27 :: u28 :: u29 :: c30 :: c31 :: c32 :: c33 :: c34 :: c35 :: c36 :: c37 :: c38 :: c39 :: c40 :: c41 :: c42 :: c43 :: c44 :: c45 :: c46 :: c47 :: c48 :: c49 :: c50 :: c51 :: c52 :: c53 :: c54 :: c55 :: c56 :: c57 :: c58 :: c59 :: c60 :: c61 :: c62 :: c63 :: c64 :: c65 :: c66 :: c67 :: c68 :: c69 :: c70 :: c71 :: c72 :: c73 :: c74 :: c75 :: c76 :: c77 :: c78 :: c79 :: c80 :: c81 :: c82 :: c83 :: c84 :: c85 :: c86 :: c87 :: c88 :: c89 :: c90 :: c91 :: c92 :: c93 :: c94 :: c95 :: c96 :: c97 :: c98 :: c99 :: c100 :: c101 :: c102 :: c103 :: c104 :: c105 :: c106 :: c107 :: c108 :: c109 :: c110 :: c111 :: c112 :: c113 :: Value.int .i64 3 :: u115 :: u116 :: u117 :: u118 :: u119 :: u120 :: u121 :: u122 :: u123 :: u124 :: u125 :: u126 :: u127 :: u128 :: u129 :: u130 :: u131 :: u132 :: u133 :: u134 :: u135 :: u136 :: u137 :: u138 :: u139 :: u140 :: u141 :: u142 :: u143 :: u144 :: u145 :: u146 :: u147 :: u148 :: u149 :: u150 :: u151 :: u152 :: u153 :: u154 :: u155 :: u156 :: u157 :: u158 :: u159 :: u160 :: u161 :: u162 :: u163 :: u164 :: u165 :: u166 :: u167 :: u168 :: u169 :: u170 :: u171 :: u172 :: u173 :: u174 :: u175 :: u176 :: u177 :: u178 :: u179 :: u180 :: u181 :: u182 :: u183 :: u184 :: u185 :: u186 :: u187 :: u188 :: u189 :: u190 :: u191 :: u192 :: u193 :: u194 :: u195 :: u196 :: u197 :: u198 :: u199 :: u200 :: u201 :: u202 :: u203 :: u204 :: u205 :: u206 :: u207 :: u208 :: u209 :: u210 :: u211 :: u212 :: u213 :: u214 :: u215 :: u216 :: u217 :: u218 :: u219 :: u220 :: u221 :: u222 :: u223 :: u224 :: u225 :: u226 :: u227 :: u228 :: u229 :: u230 :: u231 :: u232 :: u233 :: u234 :: u235 :: u236 :: u237 :: u238 :: u239 :: u240 :: u241 :: u242 :: c243 :: c244 :: c245 :: c246 :: c247 :: c248 :: c249 :: c250 :: c251 :: c252 :: c253 :: c254 :: c255 :: c256 :: c257 :: c258 :: c259 :: c260 :: c261 :: c262 :: c263 :: c264 :: c265 :: c266 :: c267 :: c268 :: c269 :: c270 :: c271 :: c272 :: c273 :: c274 :: c275 :: c276 :: c277 :: c278 :: c279 :: c280 :: c281 :: c282 :: c283 :: c284 :: c285 :: c286 :: c287 :: c288 :: c289 :: []), []⟩ w')) :
    (Code.block 6 hxB6).wp Try.prog Q ⟨List.toArray (Value.int .i64 room :: c1 :: c2 :: c3 :: c4 :: Value.pointer (some ⟨hp, 0, none⟩) :: c6 :: v7 :: v8 :: v9 :: Value.int .i64 (ws.length : Int) :: c11 :: Value.pointer (some ⟨qb, 0, none⟩) :: c13 :: c14 :: c15 :: s1 :: s2 :: s3 :: c19 :: c20 :: c21 :: c22 :: c23 :: c24 :: c25 :: c26 :: c27 :: c28 :: c29 :: c30 :: c31 :: c32 :: c33 :: c34 :: c35 :: c36 :: c37 :: c38 :: c39 :: c40 :: c41 :: c42 :: c43 :: c44 :: c45 :: c46 :: c47 :: c48 :: c49 :: c50 :: c51 :: c52 :: c53 :: c54 :: c55 :: c56 :: c57 :: c58 :: c59 :: c60 :: c61 :: c62 :: c63 :: c64 :: c65 :: c66 :: c67 :: c68 :: c69 :: c70 :: c71 :: c72 :: c73 :: c74 :: c75 :: c76 :: c77 :: c78 :: c79 :: c80 :: c81 :: c82 :: c83 :: c84 :: c85 :: c86 :: c87 :: c88 :: c89 :: c90 :: c91 :: c92 :: c93 :: c94 :: c95 :: c96 :: c97 :: c98 :: c99 :: c100 :: c101 :: c102 :: c103 :: c104 :: c105 :: c106 :: c107 :: c108 :: c109 :: c110 :: c111 :: c112 :: c113 :: Value.int .i64 3 :: c115 :: c116 :: c117 :: c118 :: c119 :: c120 :: c121 :: c122 :: c123 :: c124 :: c125 :: c126 :: c127 :: c128 :: c129 :: c130 :: c131 :: c132 :: c133 :: c134 :: c135 :: c136 :: c137 :: c138 :: c139 :: c140 :: c141 :: c142 :: c143 :: c144 :: c145 :: c146 :: c147 :: c148 :: c149 :: c150 :: c151 :: c152 :: c153 :: c154 :: c155 :: c156 :: c157 :: c158 :: c159 :: c160 :: c161 :: c162 :: c163 :: c164 :: c165 :: c166 :: c167 :: c168 :: c169 :: c170 :: c171 :: c172 :: c173 :: c174 :: c175 :: c176 :: c177 :: c178 :: c179 :: c180 :: c181 :: c182 :: c183 :: c184 :: c185 :: c186 :: c187 :: c188 :: c189 :: c190 :: c191 :: c192 :: c193 :: c194 :: c195 :: c196 :: c197 :: c198 :: c199 :: c200 :: c201 :: c202 :: c203 :: c204 :: c205 :: c206 :: c207 :: c208 :: c209 :: c210 :: c211 :: c212 :: c213 :: c214 :: c215 :: c216 :: c217 :: c218 :: c219 :: c220 :: c221 :: c222 :: c223 :: c224 :: c225 :: c226 :: c227 :: c228 :: c229 :: c230 :: c231 :: c232 :: c233 :: c234 :: c235 :: c236 :: c237 :: c238 :: c239 :: c240 :: c241 :: c242 :: c243 :: c244 :: c245 :: c246 :: c247 :: c248 :: c249 :: c250 :: c251 :: c252 :: c253 :: c254 :: c255 :: c256 :: c257 :: c258 :: c259 :: c260 :: c261 :: c262 :: c263 :: c264 :: c265 :: c266 :: c267 :: c268 :: c269 :: c270 :: c271 :: c272 :: c273 :: c274 :: c275 :: c276 :: c277 :: c278 :: c279 :: c280 :: c281 :: c282 :: c283 :: c284 :: c285 :: c286 :: c287 :: c288 :: c289 :: []), []⟩ w1 := by
  obtain ⟨⟨us, qs, ks, hH, hS⟩, hbx⟩ := HP.out
  have HH := hide hH
  have HBX := hide hbx
  obtain ⟨P, hP⟩ : ∃ P, P = putC (q + 1) x := ⟨_, rfl⟩
  obtain ⟨Z, hZ⟩ : ∃ Z, Z = sz (q + 1) x := ⟨_, rfl⟩
  obtain ⟨E, hE⟩ : ∃ E, E = putE (q + 1) x room ws := ⟨_, rfl⟩
  obtain ⟨U, hU⟩ : ∃ U : Int, U = (ws.length : Int) := ⟨_, rfl⟩
  obtain ⟨hE1, hE2, hE3⟩ := putE_of (n := q + 1) (x := x) (room := room) (ws := ws)
  rw [← hP, ← hE] at hE1
  rw [← hP, ← hE, ← hZ, ← hU] at hE2 hE3
  have hZ0 : 0 ≤ Z ∧ Z ≤ 4194304 := by
    have := sz_bound (q + 1) x
    have := HX.out.2
    rw [hZ]
    omega
  have hU0 : 0 ≤ U ∧ U ≤ 1000 := by
    have := hH.few
    omega
  have hr := hH.room
  have hr0 : 0 ≤ room ∧ room ≤ 1000 := hr.2
  have HEE := hide hE
  have HUU := hide hU
  have HZZ := hide hZ
  have HPU : Hid (∀ W, Below w1.heap.size w1 W → Calls Try.prog 7 #[.agg #[.int .i64 x.1.1, .int .i64 x.1.2.1, .string x.1.2.2, .slice x.2.1.1 x.2.2.length x.2.1.2]] W fun e w' => e = .returned (.int .i64 P) ∧ Below W.heap.size W w') := fun W hW => by
    have hb := hH.heap.1.trans (hW.mono hH.heap.1.size)
    have k := rputable_any q x w.heap.size W (HX.out.1.below hb) hb.size HX.out.2
    rw [← hP] at k
    exact k
  have HSZ : Hid (∀ W, Below w.heap.size w W → Calls Try.prog 8 #[.agg #[.int .i64 x.1.1, .int .i64 x.1.2.1, .string x.1.2.2, .slice x.2.1.1 x.2.2.length x.2.1.2]] W fun e w' => e = .returned (.int .i64 Z) ∧ Below W.heap.size W w') := fun W hb => by
    have k := rsize_any (q + 1) x w.heap.size W (HX.out.1.below hb) hb.size HX.out.2
    rw [← hZ] at k
    exact k
  have HPT : Hid (∀ W, Below w1.heap.size w1 W → Calls Try.prog 9 #[.pointer (some ⟨hp, 0, none⟩), .agg #[.int .i64 x.1.1, .int .i64 x.1.2.1, .string x.1.2.2, .slice x.2.1.1 x.2.2.length x.2.1.2]] W fun e w' => ∃ v : Wd, e = .returned (.tuple #[.agg #[.int .i64 v.1, .int .i64 v.2], .int .i64 E]) ∧ Hid ((E ≠ 0 → Below W.heap.size W w') ∧
      (E = 0 → ∃ ws' nm' M', chk (q + 1) x = 0 ∧ closedT (q + 1) x = true ∧ (ws'.length : Int) = U + Z ∧ HpR w hp room (j + 1) L ws' nm' M' vs ts ns C v7 v8 v9 (fun b => Own3 s1 s2 s3 b ∨ b = qb) w' ∧ Stands ws' nm' (q + 1) x v ∧ (plc ws' (q + 1) v).Nodup ∧ (∀ p ∈ plc ws' (q + 1) v, ws.length ≤ p) ∧ w'.heap[qb]? = some (.cells #[.int .i64 3, .int .i64 x.1.1, .int .i64 x.1.2.1, .string x.1.2.2, .slice x.2.1.1 x.2.2.length x.2.1.2, bat] 35)))) := fun W hW => by
    have k := (hH.later hW).put (by omega) x HX.out.1 HX.out.2
    rw [← hE] at k
    refine k.mono ?_
    rintro e w' ⟨v, rfl, H⟩
    refine ⟨v, rfl, H.out.1, fun h0 => ?_⟩
    obtain ⟨ws', nm', M', k1, k2, k3, k4, k5, k6, k7, k8⟩ := H.out.2 h0
    exact ⟨ws', nm', M', k1, k2, by rw [hU, hZ]; exact k3, k4, k5, k6, k7, (k8 qb (Or.inr rfl)).trans (bkeep hW hbx)⟩
  have HWW := hide hH.heap.1
  clear hH hS hP hE hZ hr HX HP
  obtain ⟨x0, x1, x2, x3, x4⟩ := box6 hbx
  conv => arg 2; arg 2; whnf
  rw [← hU]
  clear hbx hU
  go_wp2_with fail
  refine (HPU.out _ (Below.refl _ _)).mono ?_
  rintro e w2 ⟨rfl, hb2⟩
  have HB2 := hide hb2
  have HX2 := hide (bkeep hb2 HBX.out)
  clear x0 x1 x2 x3 x4 HPU
  obtain ⟨x0, x1, x2, x3, x4⟩ := box6 HX2.out
  by_cases hP0 : P = 0
  rotate_left
  · have e1 := hE1 hP0
    subst e1
    have pb : (E == 0) = false := by simpa using hP0
    go_wp2_with fail
    refine (HPT.out _ HB2.out).mono ?_
    rintro e w3 ⟨v, rfl, H3⟩
    have HB3 := hide (HB2.out.trans ((H3.out.1 hP0).mono HB2.out.size))
    have HRD : Hid (∀ o, Rd w hp room (j + 1) (1048576 + (j + 1)) v7 v8 v9 U (w3.alloc o)) := fun o => Rd.of (HH.out.later (HB3.out.alloc HB3.out.size o)) (by omega) HUU.out (by omega)
    go_wp2_with fail
    exact HK.out _ _ _ _ _ _ _ _ _ _ _ _ _ _ _ _ _ _ _ _ _ _ _ _ _ _ _ _ _ _ _ _ _ _ _ _ _ _ _ _ _ _ _ _ _ _ _ _ _ _ _ _ _ _ _ _ _ _ _ _ _ _ _ _ _ _ _ _ _ _ _ _ _ _ _ _ _ _ _ _ _ _ _ _ _ _ _ _ _ _ _ _ _ _ _ _ _ _ _ _ _ _ _ _ _ _ _ _ _ _ _ _ _ _ _ _ _ _ _ _ _ _ _ _ _ _ _ _ _ _ _ _ _ _ _ _ _ _ _ _ _ _ (HRD.out _)
  subst hP0
  have HB2w := hide (HWW.out.trans (HB2.out.mono HWW.out.size))
  by_cases hF : room < U + Z
  · have hE6 := hE2 rfl hF
    subst hE6
    clear hE1 hE2 hE3
    go_wp2_with fail
    refine (HSZ.out _ HB2w.out).mono ?_
    rintro e w3 ⟨rfl, hb3⟩
    have HB3 := hide (HB2.out.trans (hb3.mono HB2.out.size))
    have HX3 := hide (bkeep hb3 HX2.out)
    clear x0 x1 x2 x3 x4
    obtain ⟨x0, x1, x2, x3, x4⟩ := box6 HX3.out
    go_wp2_with fail
    refine (HPT.out _ HB3.out).mono ?_
    rintro e w4 ⟨v, rfl, H4⟩
    have HB4 := hide (HB3.out.trans ((H4.out.1 (by simp)).mono HB3.out.size))
    have HRD : Hid (∀ o, Rd w hp room (j + 1) (1048576 + (j + 1)) v7 v8 v9 U (w4.alloc o)) := fun o => Rd.of (HH.out.later (HB4.out.alloc HB4.out.size o)) (by omega) HUU.out (by omega)
    go_wp2_with fail
    exact HK.out _ _ _ _ _ _ _ _ _ _ _ _ _ _ _ _ _ _ _ _ _ _ _ _ _ _ _ _ _ _ _ _ _ _ _ _ _ _ _ _ _ _ _ _ _ _ _ _ _ _ _ _ _ _ _ _ _ _ _ _ _ _ _ _ _ _ _ _ _ _ _ _ _ _ _ _ _ _ _ _ _ _ _ _ _ _ _ _ _ _ _ _ _ _ _ _ _ _ _ _ _ _ _ _ _ _ _ _ _ _ _ _ _ _ _ _ _ _ _ _ _ _ _ _ _ _ _ _ _ _ _ _ _ _ _ _ _ _ _ _ _ _ (HRD.out _)
  have hE0 := hE3 (by simp) (by omega)
  subst hE0
  clear hE1 hE2 hE3
  go_wp2_with fail
  refine (HSZ.out _ HB2w.out).mono ?_
  rintro e w3 ⟨rfl, hb3⟩
  have HB3 := hide (HB2.out.trans (hb3.mono HB2.out.size))
  have HX3 := hide (bkeep hb3 HX2.out)
  clear x0 x1 x2 x3 x4
  obtain ⟨x0, x1, x2, x3, x4⟩ := box6 HX3.out
  go_wp2_with fail
  refine (HPT.out _ HB3.out).mono ?_
  rintro e w4 ⟨v, rfl, H4⟩
  obtain ⟨ws', nm', M', k1, k2, k3, k4, k5, k6, k7, k8⟩ := H4.out.2 (by simp)
  have HH4 := hide k4
  have HF4 := hide (⟨k1, k2, k3, k5, k6, k7⟩ : _ ∧ _ ∧ _ ∧ _ ∧ _ ∧ _)
  have HA4 : Hid (∀ o, Below w4.heap.size w4 (w4.alloc o)) := fun o => (Below.refl _ _).alloc (Nat.le_refl _) o
  have HX4 : Hid (∀ o, (w4.alloc o).heap[qb]? = some (.cells #[.int .i64 3, .int .i64 x.1.1, .int .i64 x.1.2.1, .string x.1.2.2, .slice x.2.1.1 x.2.2.length x.2.1.2, bat] 35)) := fun o => bkeep (HA4.out o) k8
  have HW4 := hide k4.heap.1
  clear x0 x1 x2 x3 x4 H4 HPT k1 k2 k3 k4 k5 k6 k7 k8
  go_upto_region 38 with fail
  generalize hw5 : w4.alloc _ = w5
  have HB5 : Hid (Below w4.heap.size w4 w5) := by rw [← hw5]; exact HA4.out _
  have HX5 : Hid (w5.heap[qb]? = some (.cells #[.int .i64 3, .int .i64 x.1.1, .int .i64 x.1.2.1, .string x.1.2.2, .slice x.2.1.1 x.2.2.length x.2.1.2, bat] 35)) := by rw [← hw5]; exact HX4.out _
  have HN5 : Hid (w5.heap[w4.heap.size]? = some (.cells #[.int .i64 v.1, .int .i64 v.2] 38)) := by rw [← hw5]; exact heap_alloc_new _ _
  clear hw5 HX4 HA4
  obtain ⟨x0, x1, x2, x3, x4⟩ := box6 HX5.out
  have HW5 := hide (HW4.out.trans (HB5.out.mono HW4.out.size))
  go_wp2_with fail
  refine (HSZ.out _ HW5.out).mono ?_
  rintro e w6 ⟨rfl, hb6⟩
  have HB6 := hide (HB5.out.trans (hb6.mono HB5.out.size))
  have HX6 := hide (bkeep hb6 HX5.out)
  have HN6 := hide (bkeep hb6 HN5.out)
  clear x0 x1 x2 x3 x4
  obtain ⟨x0, x1, x2, x3, x4⟩ := box6 HX6.out
  have HH6 := hide (HH4.out.later HB6.out)
  have HRD := hide (Rd.of HH6.out (B := 1048576 + (j + 1)) (by omega) HF4.out.2.2.1.symm (Nat.le_refl _))
  go_wp2_with fail
  exact HK.out _ _ _ _ _ _ _ _ _ _ _ _ _ _ _ _ _ _ _ _ _ _ _ _ _ _ _ _ _ _ _ _ _ _ _ _ _ _ _ _ _ _ _ _ _ _ _ _ _ _ _ _ _ _ _ _ _ _ _ _ _ _ _ _ _ _ _ _ _ _ _ _ _ _ _ _ _ _ _ _ _ _ _ _ _ _ _ _ _ _ _ _ _ _ _ _ _ _ _ _ _ _ _ _ _ _ _ _ _ _ _ _ _ _ _ _ _ _ _ _ _ _ _ _ _ _ _ _ _ _ _ _ _ _ _ _ _ _ _ _ _ _ HRD
end Go.Proofs.Ytdlckjjfbobmpaa
