/- What is proved here: plain facts and contracts that the claimed theorem stands on, several texts in one: the region of HeapPlays that picks one word, its term and its node: whatever its order, each is appended to its row. No condition but that all lies in memory. the loop of HeapPlays over the places: of each its word, its term and its node are picked. No condition but that all lies in memory. the region of HeapPlays that appends what was put: a word, its term and its nodes: whatever its order, each is appended to its row. No condition but that all lies in memory. -/
import Derived.Test.YtdlckjjfbobmpaaG21
namespace Go.Proofs.Ytdlckjjfbobmpaa
open Go.RowKit Go.Maps

/-- The operations of a code's region. -/
def hxRgn (k : Nat) : Code → Option (Array Oper)
  | .region id ops _ => bif Nat.beq id k then some ops else none
  | .seq a b => match hxRgn k a with
    | some c => some c
    | none => hxRgn k b
  | .block _ c => hxRgn k c
  | .loop c => hxRgn k c
  | .cond _ a b => match hxRgn k a with
    | some c => some c
    | none => hxRgn k b
  | _ => none
noncomputable def hx26 : Array Oper := (Try.f3.body.bind (hxRgn 26)).getD #[]
def lb26 (q1 q2 q3 : Nat) : Array Bool := #[true, true, true, true, true, Nat.blt 0 q1, Nat.blt 1 q1, true, true, true, true, true, Nat.blt 0 q2, Nat.blt 1 q2, true, true, true, true, Nat.blt 0 q3, Nat.blt 1 q3, Nat.blt 2 q3, false, false, false]
/-- How far the rows can be: the appends go in their order. -/
def vq26 (q1 q2 q3 : Nat) : Bool := (Nat.blt q2 2 || Nat.beq q1 2) && (Nat.blt q3 3 || (Nat.beq q1 2 && Nat.beq q2 2))
theorem node_cell {w : World} {base g c L : Nat} {ks : List (Option Nat)} (h : w.ownsRow base 39 1 (.slice (some ⟨g, 0, none⟩) L c) L (ks.map pv)) (i : Nat) (k : Option Nat) (hk : ks[i]? = some k) : w.cell? ⟨g, i, none⟩ = some (pv k) := by
  have := h.cells (g := g) rfl i (pv k) (by simp [hk])
  rw [add_none] at this
  simpa using this
set_option maxHeartbeats 4000000 in
set_option maxRecDepth 100000 in
theorem rgn26 {w : World} {hp : Nat} {room : Int} {j L : Nat} {ws : List Wd} {nm : List ByteArray} {M : Nat → Prop} {vs : List Wd} {ts : List (Tm 13)} {ns : List (Option Nat)} {C : Went} {v7 v8 v9 : Value} {X : Nat → Prop} {wr : World} {n : Nat} {us : List Wd} {qs : List (Tm 13)} {ks : List (Option Nat)} {s1 s2 s3 : Value} {i : Nat} (HR : Hid (HpR w hp room j L ws nm M vs ts ns C v7 v8 v9 X wr)) (HSl : Hid (Sel w n ws nm ts C us qs ks s1 s2 s3 X wr)) (hi : i < L) (hn : n ≤ 2000000)
    {Q : Exit → Act → World → Prop} (hQ : ∀ c a (d : Nat) v w, Q (.panic c) (a.put (some d) v) w → Q (.panic c) a w) {c0 c1 c2 c3 c4 c5 c6 c10 c11 c12 c13 c14 c15 c19 c21 c22 c23 c24 c25 c26 c27 c28 c29 c30 c31 c32 c33 c34 c35 c36 c37 c38 c39 c40 c41 c42 c43 c44 c45 c46 c47 c48 c49 c50 c51 c52 c53 c54 c55 c56 c57 c58 c59 c60 c61 c62 c63 c64 c65 c66 c67 c68 c69 c70 c71 c72 c73 c74 c75 c76 c77 c78 c79 c80 c81 c82 c83 c84 c85 c86 c87 c88 c89 c90 c91 c92 c93 c94 c95 c96 c97 c98 c99 c100 c101 c102 c103 c104 c105 c106 c107 c108 c109 c110 c111 c112 c113 c114 c115 c116 c117 c118 c119 c120 c121 c122 c123 c124 c125 c126 c127 c128 c129 c130 c131 c132 c133 c134 c135 c136 c137 c138 c139 c140 c141 c142 c143 c144 c145 c146 c147 c148 c149 c150 c151 c152 c153 c154 c155 c156 c157 c158 c159 c160 c161 c162 c163 c164 c165 c166 c167 c168 c169 c170 c171 c172 c173 c174 c175 c176 c177 c178 c179 c180 c181 c182 c183 c184 c185 c186 c187 c188 c189 c190 c191 c192 c193 c194 c195 c196 c197 c198 c199 c200 c201 c202 c203 c204 c205 c206 c207 c208 c209 c210 c211 c212 c213 c214 c215 c216 c217 c218 c219 c220 c221 c222 c223 c224 c225 c226 c227 c228 c229 c230 c231 c232 c233 c234 c235 c236 c237 c238 c239 c240 c241 c242 c243 c244 c245 c246 c247 c248 c249 c250 c251 c252 c253 c254 c255 c256 c257 c258 c259 c260 c261 c262 c263 c264 c265 c266 c267 c268 c269 c270 c271 c272 c273 c274 c275 c276 c277 c278 c279 c280 c281 c282 c283 c284 c285 c286 c287 c288 c289 : Value}
    (HK : Hid (∀ (u91 u92 u93 u94 u95 u96 u97 u98 u99 u100 u101 u102 u103 u104 u105 u106 u107 u108 u109 u110 u111 y1 y2 y3 : Value) (w' : World), Hid (Kee (Own3 s1 s2 s3) wr w' ∧ ∃ us' qs' ks', HpR w hp room j L ws nm M vs ts ns C v7 v8 v9 (fun b => Own3 y1 y2 y3 b ∨ (X b ∧ ¬ Own3 s1 s2 s3 b)) w' ∧ Sel w (n + 1) ws nm ts C us' qs' ks' y1 y2 y3 (fun b => Own3 y1 y2 y3 b ∨ (X b ∧ ¬ Own3 s1 s2 s3 b)) w') → Q .normal ⟨List.toArray (c0 :: c1 :: c2 :: c3 :: c4 :: c5 :: c6 :: v7 :: v8 :: v9 :: c10 :: c11 :: c12 :: c13 :: c14 :: c15 :: y1 :: y2 :: y3 :: c19 :: Value.int .i64 i :: c21 :: c22 :: c23 :: c24 :: c25 :: c26 :: c27 :: c28 :: c29 :: c30 :: c31 :: c32 :: c33 :: c34 :: c35 :: c36 :: c37 :: c38 :: c39 :: c40 :: c41 :: c42 :: c43 :: c44 :: c45 :: c46 :: c47 :: c48 :: c49 :: c50 :: c51 :: c52 :: c53 :: c54 :: c55 :: c56 :: c57 :: c58 :: c59 :: c60 :: c61 :: c62 :: c63 :: c64 :: c65 :: c66 :: c67 :: c68 :: c69 :: c70 :: c71 :: c72 :: c73 :: c74 :: c75 :: c76 :: c77 :: c78 :: c79 :: c80 :: c81 :: c82 :: c83 :: c84 :: c85 :: c86 :: c87 :: c88 :: c89 :: c90 :: u91 :: u92 :: u93 :: u94 :: u95 :: u96 :: u97 :: u98 :: u99 :: u100 :: u101 :: u102 :: u103 :: u104 :: u105 :: u106 :: u107 :: u108 :: u109 :: u110 :: u111 :: c112 :: c113 :: c114 :: c115 :: c116 :: c117 :: c118 :: c119 :: c120 :: c121 :: c122 :: c123 :: c124 :: c125 :: c126 :: c127 :: c128 :: c129 :: c130 :: c131 :: c132 :: c133 :: c134 :: c135 :: c136 :: c137 :: c138 :: c139 :: c140 :: c141 :: c142 :: c143 :: c144 :: c145 :: c146 :: c147 :: c148 :: c149 :: c150 :: c151 :: c152 :: c153 :: c154 :: c155 :: c156 :: c157 :: c158 :: c159 :: c160 :: c161 :: c162 :: c163 :: c164 :: c165 :: c166 :: c167 :: c168 :: c169 :: c170 :: c171 :: c172 :: c173 :: c174 :: c175 :: c176 :: c177 :: c178 :: c179 :: c180 :: c181 :: c182 :: c183 :: c184 :: c185 :: c186 :: c187 :: c188 :: c189 :: c190 :: c191 :: c192 :: c193 :: c194 :: c195 :: c196 :: c197 :: c198 :: c199 :: c200 :: c201 :: c202 :: c203 :: c204 :: c205 :: c206 :: c207 :: c208 :: c209 :: c210 :: c211 :: c212 :: c213 :: c214 :: c215 :: c216 :: c217 :: c218 :: c219 :: c220 :: c221 :: c222 :: c223 :: c224 :: c225 :: c226 :: c227 :: c228 :: c229 :: c230 :: c231 :: c232 :: c233 :: c234 :: c235 :: c236 :: c237 :: c238 :: c239 :: c240 :: c241 :: c242 :: c243 :: c244 :: c245 :: c246 :: c247 :: c248 :: c249 :: c250 :: c251 :: c252 :: c253 :: c254 :: c255 :: c256 :: c257 :: c258 :: c259 :: c260 :: c261 :: c262 :: c263 :: c264 :: c265 :: c266 :: c267 :: c268 :: c269 :: c270 :: c271 :: c272 :: c273 :: c274 :: c275 :: c276 :: c277 :: c278 :: c279 :: c280 :: c281 :: c282 :: c283 :: c284 :: c285 :: c286 :: c287 :: c288 :: c289 :: []), []⟩ w')) :
    (Code.region 26 hx26 true).wp Try.prog Q ⟨List.toArray (c0 :: c1 :: c2 :: c3 :: c4 :: c5 :: c6 :: v7 :: v8 :: v9 :: c10 :: c11 :: c12 :: c13 :: c14 :: c15 :: s1 :: s2 :: s3 :: c19 :: Value.int .i64 i :: c21 :: c22 :: c23 :: c24 :: c25 :: c26 :: c27 :: c28 :: c29 :: c30 :: c31 :: c32 :: c33 :: c34 :: c35 :: c36 :: c37 :: c38 :: c39 :: c40 :: c41 :: c42 :: c43 :: c44 :: c45 :: c46 :: c47 :: c48 :: c49 :: c50 :: c51 :: c52 :: c53 :: c54 :: c55 :: c56 :: c57 :: c58 :: c59 :: c60 :: c61 :: c62 :: c63 :: c64 :: c65 :: c66 :: c67 :: c68 :: c69 :: c70 :: c71 :: c72 :: c73 :: c74 :: c75 :: c76 :: c77 :: c78 :: c79 :: c80 :: c81 :: c82 :: c83 :: c84 :: c85 :: c86 :: c87 :: c88 :: c89 :: c90 :: c91 :: c92 :: c93 :: c94 :: c95 :: c96 :: c97 :: c98 :: c99 :: c100 :: c101 :: c102 :: c103 :: c104 :: c105 :: c106 :: c107 :: c108 :: c109 :: c110 :: c111 :: c112 :: c113 :: c114 :: c115 :: c116 :: c117 :: c118 :: c119 :: c120 :: c121 :: c122 :: c123 :: c124 :: c125 :: c126 :: c127 :: c128 :: c129 :: c130 :: c131 :: c132 :: c133 :: c134 :: c135 :: c136 :: c137 :: c138 :: c139 :: c140 :: c141 :: c142 :: c143 :: c144 :: c145 :: c146 :: c147 :: c148 :: c149 :: c150 :: c151 :: c152 :: c153 :: c154 :: c155 :: c156 :: c157 :: c158 :: c159 :: c160 :: c161 :: c162 :: c163 :: c164 :: c165 :: c166 :: c167 :: c168 :: c169 :: c170 :: c171 :: c172 :: c173 :: c174 :: c175 :: c176 :: c177 :: c178 :: c179 :: c180 :: c181 :: c182 :: c183 :: c184 :: c185 :: c186 :: c187 :: c188 :: c189 :: c190 :: c191 :: c192 :: c193 :: c194 :: c195 :: c196 :: c197 :: c198 :: c199 :: c200 :: c201 :: c202 :: c203 :: c204 :: c205 :: c206 :: c207 :: c208 :: c209 :: c210 :: c211 :: c212 :: c213 :: c214 :: c215 :: c216 :: c217 :: c218 :: c219 :: c220 :: c221 :: c222 :: c223 :: c224 :: c225 :: c226 :: c227 :: c228 :: c229 :: c230 :: c231 :: c232 :: c233 :: c234 :: c235 :: c236 :: c237 :: c238 :: c239 :: c240 :: c241 :: c242 :: c243 :: c244 :: c245 :: c246 :: c247 :: c248 :: c249 :: c250 :: c251 :: c252 :: c253 :: c254 :: c255 :: c256 :: c257 :: c258 :: c259 :: c260 :: c261 :: c262 :: c263 :: c264 :: c265 :: c266 :: c267 :: c268 :: c269 :: c270 :: c271 :: c272 :: c273 :: c274 :: c275 :: c276 :: c277 :: c278 :: c279 :: c280 :: c281 :: c282 :: c283 :: c284 :: c285 :: c286 :: c287 :: c288 :: c289 :: []), []⟩ wr := by
  obtain ⟨l1, l2, l3⟩ := HR.out.lens
  obtain ⟨v, hv⟩ : ∃ v, vs[i]? = some v := ⟨vs[i]'(by omega), List.getElem?_eq_getElem _⟩
  obtain ⟨x, hx⟩ : ∃ x, ts[i]? = some x := ⟨ts[i]'(by omega), List.getElem?_eq_getElem _⟩
  obtain ⟨k, hk⟩ : ∃ k, ns[i]? = some k := ⟨ns[i]'(by omega), List.getElem?_eq_getElem _⟩
  obtain ⟨g7, c7, rfl, _, hg7⟩ := HR.out.r7.form (by omega)
  obtain ⟨g8, c8, rfl, _, hg8⟩ := HR.out.r8.form (by omega)
  obtain ⟨g9, c9, rfl, _, hg9⟩ := HR.out.r9.form (by omega)
  have hX : ∀ b, Own3 (.slice (some ⟨g7, 0, none⟩) L c7) (.slice (some ⟨g8, 0, none⟩) L c8) (.slice (some ⟨g9, 0, none⟩) L c9) b → ¬ Own3 s1 s2 s3 b := fun b e q => (HR.out.apart b e).2 (HSl.out.own b q)
  have HC : Hid (∀ W, Kee (Own3 s1 s2 s3) wr W → (W.cell? ⟨g7, i * 2, none⟩ = some (.int .i64 v.1) ∧ W.cell? ⟨g7, i * 2 + 1, none⟩ = some (.int .i64 v.2)) ∧ (W.cell? ⟨g8, i * 4, none⟩ = some (.int .i64 x.1.1) ∧ W.cell? ⟨g8, i * 4 + 1, none⟩ = some (.int .i64 x.1.2.1) ∧ W.cell? ⟨g8, i * 4 + 2, none⟩ = some (.string x.1.2.2) ∧ W.cell? ⟨g8, i * 4 + 3, none⟩ = some (.slice x.2.1.1 x.2.2.length x.2.1.2)) ∧ W.cell? ⟨g9, i, none⟩ = some (.pointer (k.map fun b => ⟨b, 0, none⟩))) := fun W hW => by
    obtain ⟨a0, a1⟩ := word_cells HR.out.r7 i v hv
    obtain ⟨b0, b1, b2, b3⟩ := own_nd HR.out.r8 i (hdT 13 x) (by simp [hx])
    have d0 := node_cell HR.out.r9 i k hk
    have e7 := fun o => hW.cell (b := g7) o hg7 (hX g7 (Or.inl rfl))
    have e8 := fun o => hW.cell (b := g8) o hg8 (hX g8 (Or.inr (Or.inl rfl)))
    have e9 := fun o => hW.cell (b := g9) o hg9 (hX g9 (Or.inr (Or.inr rfl)))
    exact ⟨⟨(e7 _).trans a0, (e7 _).trans a1⟩, ⟨(e8 _).trans b0, (e8 _).trans b1, (e8 _).trans b2, (e8 _).trans b3⟩, (e9 _).trans d0⟩
  have i1 : (0 : Int) ≤ (i : Int) := by omega
  have i2 : (i : Int) < (L : Int) := by omega
  have HS : Kee (Own3 s1 s2 s3) wr wr.drew := kee_below (Below.refl _ _).drew _
  obtain ⟨RA, ⟨ra1, ra2, ra3⟩, raf⟩ := rowW_ex
  obtain ⟨RB, ⟨rb1, rb2, rb3⟩, rbf⟩ := rowT_ex
  obtain ⟨RC, ⟨rc1, rc2, rc3⟩, rcf⟩ := rowN_ex
  conv => arg 2; arg 2; whnf
  refine wp_region_held_drew (S := fun W => Kee (Own3 s1 s2 s3) wr W) (by kernel_rfl) HS (fun _ => ?_)
  refine wpAnyH_take (i := 0) (v := s1) rfl (by kernel_rfl) (by kernel_rfl) (by kernel_rfl) (fun c a w h => hQ c a _ _ w h) (Or.inl ⟨rfl, fun w' hS' => ?_⟩) HS ?_
  · go_simp
    try with_reducible rfl
  simp only [Act.put, List.getElem_toArray, List.getElem_cons_zero, List.setIfInBounds_toArray, List.set_cons_zero, List.set_cons_succ]
  refine wpAnyH_take (i := 1) (v := .slice (some ⟨g7, 0, none⟩) L c7) rfl (by kernel_rfl) (by kernel_rfl) (by kernel_rfl) (fun c a w h => hQ c a _ _ w h) (Or.inl ⟨rfl, fun w' hS' => ?_⟩) HS ?_
  · go_simp
    try with_reducible rfl
  simp only [Act.put, List.getElem_toArray, List.getElem_cons_zero, List.getElem_cons_succ, List.setIfInBounds_toArray, List.set_cons_zero, List.set_cons_succ]
  refine wpAnyH_take (i := 2) (v := .int .i64 i) rfl (by kernel_rfl) (by kernel_rfl) (by kernel_rfl) (fun c a w h => hQ c a _ _ w h) (Or.inl ⟨rfl, fun w' hS' => ?_⟩) HS ?_
  · go_simp
    try with_reducible rfl
  simp only [Act.put, List.getElem_toArray, List.getElem_cons_zero, List.getElem_cons_succ, List.setIfInBounds_toArray, List.set_cons_zero, List.set_cons_succ]
  refine wpAnyH_take (i := 3) (v := .pointer (some ⟨g7, i * 2, none⟩)) rfl (by kernel_rfl) (by kernel_rfl) (by kernel_rfl) (fun c a w h => hQ c a _ _ w h) (Or.inl ⟨rfl, fun w' hS' => ?_⟩) HS ?_
  · go_simp
    try with_reducible rfl
  simp only [Act.put, List.getElem_toArray, List.getElem_cons_zero, List.getElem_cons_succ, List.setIfInBounds_toArray, List.set_cons_zero, List.set_cons_succ]
  refine wpAnyH_take (i := 4) (v := .agg #[.int .i64 v.1, .int .i64 v.2]) rfl (by kernel_rfl) (by kernel_rfl) (by kernel_rfl) (fun c a w h => hQ c a _ _ w h) (Or.inl ⟨rfl, fun w' hS' => ?_⟩) HS ?_
  · obtain ⟨⟨f0, f1⟩, _⟩ := HC.out w' hS'
    go_simp
    try with_reducible rfl
  simp only [Act.put, List.getElem_toArray, List.getElem_cons_zero, List.getElem_cons_succ, List.setIfInBounds_toArray, List.set_cons_zero, List.set_cons_succ]
  refine wpAnyH_take (i := 7) (v := s2) rfl (by kernel_rfl) (by kernel_rfl) (by kernel_rfl) (fun c a w h => hQ c a _ _ w h) (Or.inl ⟨rfl, fun w' hS' => ?_⟩) HS ?_
  · go_simp
    try with_reducible rfl
  simp only [Act.put, List.getElem_toArray, List.getElem_cons_zero, List.getElem_cons_succ, List.setIfInBounds_toArray, List.set_cons_zero, List.set_cons_succ]
  refine wpAnyH_take (i := 8) (v := .slice (some ⟨g8, 0, none⟩) L c8) rfl (by kernel_rfl) (by kernel_rfl) (by kernel_rfl) (fun c a w h => hQ c a _ _ w h) (Or.inl ⟨rfl, fun w' hS' => ?_⟩) HS ?_
  · go_simp
    try with_reducible rfl
  simp only [Act.put, List.getElem_toArray, List.getElem_cons_zero, List.getElem_cons_succ, List.setIfInBounds_toArray, List.set_cons_zero, List.set_cons_succ]
  refine wpAnyH_take (i := 9) (v := .int .i64 i) rfl (by kernel_rfl) (by kernel_rfl) (by kernel_rfl) (fun c a w h => hQ c a _ _ w h) (Or.inl ⟨rfl, fun w' hS' => ?_⟩) HS ?_
  · go_simp
    try with_reducible rfl
  simp only [Act.put, List.getElem_toArray, List.getElem_cons_zero, List.getElem_cons_succ, List.setIfInBounds_toArray, List.set_cons_zero, List.set_cons_succ]
  refine wpAnyH_take (i := 10) (v := .pointer (some ⟨g8, i * 4, none⟩)) rfl (by kernel_rfl) (by kernel_rfl) (by kernel_rfl) (fun c a w h => hQ c a _ _ w h) (Or.inl ⟨rfl, fun w' hS' => ?_⟩) HS ?_
  · go_simp
    try with_reducible rfl
  simp only [Act.put, List.getElem_toArray, List.getElem_cons_zero, List.getElem_cons_succ, List.setIfInBounds_toArray, List.set_cons_zero, List.set_cons_succ]
  refine wpAnyH_take (i := 11) (v := .agg #[.int .i64 x.1.1, .int .i64 x.1.2.1, .string x.1.2.2, .slice x.2.1.1 x.2.2.length x.2.1.2]) rfl (by kernel_rfl) (by kernel_rfl) (by kernel_rfl) (fun c a w h => hQ c a _ _ w h) (Or.inl ⟨rfl, fun w' hS' => ?_⟩) HS ?_
  · obtain ⟨_, ⟨f0, f1, f2, f3⟩, _⟩ := HC.out w' hS'
    go_simp
    try with_reducible rfl
  simp only [Act.put, List.getElem_toArray, List.getElem_cons_zero, List.getElem_cons_succ, List.setIfInBounds_toArray, List.set_cons_zero, List.set_cons_succ]
  refine wpAnyH_take (i := 14) (v := s3) rfl (by kernel_rfl) (by kernel_rfl) (by kernel_rfl) (fun c a w h => hQ c a _ _ w h) (Or.inl ⟨rfl, fun w' hS' => ?_⟩) HS ?_
  · go_simp
    try with_reducible rfl
  simp only [Act.put, List.getElem_toArray, List.getElem_cons_zero, List.getElem_cons_succ, List.setIfInBounds_toArray, List.set_cons_zero, List.set_cons_succ]
  refine wpAnyH_take (i := 15) (v := .slice (some ⟨g9, 0, none⟩) L c9) rfl (by kernel_rfl) (by kernel_rfl) (by kernel_rfl) (fun c a w h => hQ c a _ _ w h) (Or.inl ⟨rfl, fun w' hS' => ?_⟩) HS ?_
  · go_simp
    try with_reducible rfl
  simp only [Act.put, List.getElem_toArray, List.getElem_cons_zero, List.getElem_cons_succ, List.setIfInBounds_toArray, List.set_cons_zero, List.set_cons_succ]
  refine wpAnyH_take (i := 16) (v := .int .i64 i) rfl (by kernel_rfl) (by kernel_rfl) (by kernel_rfl) (fun c a w h => hQ c a _ _ w h) (Or.inl ⟨rfl, fun w' hS' => ?_⟩) HS ?_
  · go_simp
    try with_reducible rfl
  simp only [Act.put, List.getElem_toArray, List.getElem_cons_zero, List.getElem_cons_succ, List.setIfInBounds_toArray, List.set_cons_zero, List.set_cons_succ]
  refine wpAnyH_take (i := 17) (v := .pointer (some ⟨g9, i, none⟩)) rfl (by kernel_rfl) (by kernel_rfl) (by kernel_rfl) (fun c a w h => hQ c a _ _ w h) (Or.inl ⟨rfl, fun w' hS' => ?_⟩) HS ?_
  · go_simp
    try with_reducible rfl
  simp only [Act.put, List.getElem_toArray, List.getElem_cons_zero, List.getElem_cons_succ, List.setIfInBounds_toArray, List.set_cons_zero, List.set_cons_succ]
  refine three_app RA RB RC vq26 rfl (fuel := 3) (w0 := wr.drew) (base := w.heap.size) (L := n) (v1 := s1) (v2 := s2) (v3 := s3) (n1 := .agg #[.int .i64 v.1, .int .i64 v.2]) (n2 := .agg #[.int .i64 x.1.1, .int .i64 x.1.2.1, .string x.1.2.2, .slice x.2.1.1 x.2.2.length x.2.1.2]) (xs1 := wCells us) (xs2 := ndCells (qs.map (hdT 13))) (xs3 := ks.map pv) (new1 := wd2 v) (new2 := nd4 (hdT 13 x)) (b1 := 5) (p1 := 6) (b2 := 12) (p2 := 13) (c3 := 18) (b3 := 19) (p3 := 20) (e1 := 95) (e2 := 102) (s1 := 91) (s2 := 98) (s3 := 105) (d1 := 96) (d2 := 97) (d3 := 103) (d4 := 104) (d5 := 109) (d6 := 110) (d7 := 111) (Lb := lb26) (G := fun z _ _ => z = pv k) ?a1 ?a2 ?a3 (by decide) ?a4 (by decide) ?a5 (raf v) (rbf (hdT 13 x)) ?a6 ?a7 ?a8 ?a9 rc3 ?a10 ?a11 ?a12 ?a13 ?a14 ?a15 (by omega) ?a16 ?a17 ?a18 ?a19 ?a20 ?a21 ?a22 ?a23 ?a24 ?a25
  case a1 => exact ⟨⟨_, rfl, rfl, rfl, by rw [ra2]; rfl⟩, ⟨_, rfl, rfl, rfl, by rw [ra2]; rfl⟩⟩
  case a2 => exact ⟨⟨_, rfl, rfl, rfl, by rw [rb2]; rfl⟩, ⟨_, rfl, rfl, rfl, by rw [rb2]; rfl⟩⟩
  case a3 => exact ⟨⟨_, rfl, rfl, rfl, by rw [rc2]; rfl⟩, ⟨_, rfl, rfl, rfl, by rw [rc2]; rfl⟩⟩
  case a4 => exact of_decide_eq_true (by kernel_rfl)
  case a5 => exact ⟨rfl, rfl, rfl, rfl, rfl⟩
  case a6 => rw [ra3]; rfl
  case a7 => rw [rb3]; rfl
  case a8 => exact wCells_one [v]
  case a9 => exact ndCells_one [hdT 13 x]
  case a10 => rw [ra1, ra3]; exact row_kee HSl.out.r1 (kee_below (Below.refl _ _).drew fun _ => False) fun _ _ e => e
  case a11 => rw [rb1, rb3]; exact row_kee HSl.out.r2 (kee_below (Below.refl _ _).drew fun _ => False) fun _ _ e => e
  case a12 => rw [rc1, rc3]; exact row_kee HSl.out.r3 (kee_below (Below.refl _ _).drew fun _ => False) fun _ _ e => e
  case a13 => exact own_type HSl.out.r1 HSl.out.r2 (by decide)
  case a14 => exact own_type HSl.out.r1 HSl.out.r3 (by decide)
  case a15 => exact own_type HSl.out.r2 HSl.out.r3 (by decide)
  case a16 => exact HR.out.heap.1.size
  case a17 => exact fun W h => HS.trans h fun _ _ e => e
  case a18 =>
    intro a W hev hW R' hR'
    have he : a.eval (.tmp 108) = .pointer (some ⟨g9, i, none⟩) := hev 108 (by decide)
    refine YieldsIf.wpOp (S := fun W => Kee (Own3 s1 s2 s3) wr W) (v := pv k) rfl (Or.inl ⟨rfl, fun w' hS' => ?_⟩) (HS.trans hW fun _ _ e => e) (hR' (pv k) W rfl (Below.refl _ _))
    obtain ⟨_, _, f0⟩ := HC.out w' hS'
    simp only [Act.eval] at he
    go_simp
    simp [pv]
  case a19 => exact fun z _ _ _ h _ _ => h
  case a20 => exact fun z _ _ h => by subst h; exact ⟨rcf _, rfl⟩
  case a21 =>
    intro q1 q2 q3 h1 h2 h3 h4 h5
    rcases (by omega : q1 = 0 ∨ q1 = 1 ∨ q1 = 2) with rfl | rfl | rfl <;> rcases (by omega : q2 = 0 ∨ q2 = 1 ∨ q2 = 2) with rfl | rfl | rfl <;> rcases (by omega : q3 = 0 ∨ q3 = 1 ∨ q3 = 2 ∨ q3 = 3) with rfl | rfl | rfl | rfl <;> first | (exact absurd h5 (by decide)) | (exfalso; omega) | kernel_rfl
  case a22 =>
    intro q1 q2 q3 h1 h2 h3
    rcases (by omega : q1 = 0 ∨ q1 = 1) with rfl | rfl <;> rfl
  case a23 =>
    intro q1 q2 q3 h1 h2 h3
    rcases (by omega : q2 = 0 ∨ q2 = 1) with rfl | rfl <;> rfl
  case a24 =>
    intro q1 q2 q3 h1 h2 h3
    rcases (by omega : q3 = 0 ∨ q3 = 1 ∨ q3 = 2) with rfl | rfl | rfl <;> rfl
  case a25 =>
    intro x1 y1 x2 y2 z3 x3 y3 hi W k1 k2 k3 k4 k5 k6
    subst k4
    have k1 := k1.2.2 rfl
    have k2 := k2.2.2 rfl
    have k3 := k3.2.2 rfl
    rw [ra1, ra3] at k1
    rw [rb1, rb3] at k2
    rw [rc1, rc3] at k3
    have hW : Kee (Own3 s1 s2 s3) wr W := HS.trans k6 fun _ _ e => e
    have hfin := HSl.out.more HR.out hv hx hk hW (Y := fun b => X b ∧ ¬ Own3 s1 s2 s3 b) (fun b e => e.1) (y1 := y1) (y2 := y2) (y3 := y3) ?hyy k1.2.1 k2.2.1 k3.2.1
    case hyy =>
      rintro b (e | e | e)
      · exact (k1.2.2 b e).imp Or.inl id
      · exact (k2.2.2 b e).imp (fun e => Or.inr (Or.inl e)) id
      · exact (k3.2.2 b e).imp (fun e => Or.inr (Or.inr e)) id
    unfold Fr7
    simp only [Act.put, List.setIfInBounds_toArray, List.set_cons_zero, List.set_cons_succ]
    refine wpAnyH_take (i := 21) (v := y1) rfl (by kernel_rfl) (by kernel_rfl) (by kernel_rfl) (fun c a w h => hQ c a _ _ w h) (Or.inl ⟨rfl, fun w' hS' => ?_⟩) hW ?_
    · go_simp
      try with_reducible rfl
    simp only [Act.put, List.getElem_toArray, List.getElem_cons_zero, List.getElem_cons_succ, List.setIfInBounds_toArray, List.set_cons_zero, List.set_cons_succ]
    refine wpAnyH_take (i := 22) (v := y2) rfl (by kernel_rfl) (by kernel_rfl) (by kernel_rfl) (fun c a w h => hQ c a _ _ w h) (Or.inl ⟨rfl, fun w' hS' => ?_⟩) hW ?_
    · go_simp
      try with_reducible rfl
    simp only [Act.put, List.getElem_toArray, List.getElem_cons_zero, List.getElem_cons_succ, List.setIfInBounds_toArray, List.set_cons_zero, List.set_cons_succ]
    refine wpAnyH_take (i := 23) (v := y3) rfl (by kernel_rfl) (by kernel_rfl) (by kernel_rfl) (fun c a w h => hQ c a _ _ w h) (Or.inl ⟨rfl, fun w' hS' => ?_⟩) hW ?_
    · go_simp
      try with_reducible rfl
    simp only [Act.put, List.getElem_toArray, List.getElem_cons_zero, List.getElem_cons_succ, List.setIfInBounds_toArray, List.set_cons_zero, List.set_cons_succ]
    exact wpAnyH_done (by kernel_rfl) (HK.out _ _ _ _ _ _ _ _ _ _ _ _ _ _ _ _ _ _ _ _ _ y1 y2 y3 W ⟨hW, _, _, _, hfin⟩) _
end Go.Proofs.Ytdlckjjfbobmpaa
namespace Go.Proofs.Ytdlckjjfbobmpaa
open Go.RowKit Go.Maps

noncomputable def hxB4 : Code := (Try.f3.body.bind (hxBlk 4)).getD .skip
/-- What is picked so far, the call's box and the row of places beside it. -/
def Pk3 (w : World) (hp : Nat) (room : Int) (j L : Nat) (ws : List Wd) (nm : List ByteArray) (M : Nat → Prop) (vs : List Wd) (ts : List (Tm 13)) (ns : List (Option Nat)) (C : Went) (v7 v8 v9 : Value) (q1 : Nat) (box : Array Value) (k : Nat) (s1 s2 s3 : Value) (wr : World) : Prop :=
  (∃ us qs ks, HpR w hp room j L ws nm M vs ts ns C v7 v8 v9 (fun b => Own3 s1 s2 s3 b ∨ b = q1) wr ∧ Sel w k ws nm ts C us qs ks s1 s2 s3 (fun b => Own3 s1 s2 s3 b ∨ b = q1) wr) ∧ wr.heap[q1]? = some (.cells box 35)
def PkI (B : Nat) (v : Value) (zs : List Int) (wr : World) : Prop := wr.ownsRow B 3 1 v zs.length (zs.map fun u => .int .i64 u)
theorem Pk3.start {w : World} {hp : Nat} {room : Int} {j L : Nat} {ws : List Wd} {nm : List ByteArray} {M : Nat → Prop} {vs : List Wd} {ts : List (Tm 13)} {ns : List (Option Nat)} {C : Went} {v7 v8 v9 : Value} {w1 : World} {q1 : Nat} {box : Array Value} (h : HpR w hp room j L ws nm M vs ts ns C v7 v8 v9 (fun b => b = q1) w1) (hb : w1.heap[q1]? = some (.cells box 35)) : Pk3 w hp room j L ws nm M vs ts ns C v7 v8 v9 q1 box 0 (.slice none 0 0) (.slice none 0 0) (.slice none 0 0) w1 :=
  ⟨⟨[], [], [], h.but (S := fun _ => False) (Kee.refl _ _) (fun _ _ e => e.elim) fun b e => (by
    rcases e with (e | e | e) | e
    · cases e
    · cases e
    · cases e
    · exact Or.inl e), Sel.start _ _ _ _ _ _ _⟩, hb⟩
theorem Pk3.next {w : World} {hp : Nat} {room : Int} {j L : Nat} {ws : List Wd} {nm : List ByteArray} {M : Nat → Prop} {vs : List Wd} {ts : List (Tm 13)} {ns : List (Option Nat)} {C : Went} {v7 v8 v9 : Value} {w1 : World} {q1 B : Nat} {box : Array Value} {k : Nat} {s1 s2 s3 y1 y2 y3 v : Value} {zs : List Int} {us : List Wd} {qs : List (Tm 13)} {ks : List (Option Nat)} {w2 : World} (hS : Sel w k ws nm ts C us qs ks s1 s2 s3 (fun b => Own3 s1 s2 s3 b ∨ b = q1) w1) (hb : w1.heap[q1]? = some (.cells box 35)) (hI : PkI B v zs w1)
    (h : Kee (Own3 s1 s2 s3) w1 w2 ∧ ∃ us' qs' ks', HpR w hp room j L ws nm M vs ts ns C v7 v8 v9 (fun b => Own3 y1 y2 y3 b ∨ ((Own3 s1 s2 s3 b ∨ b = q1) ∧ ¬ Own3 s1 s2 s3 b)) w2 ∧ Sel w (k + 1) ws nm ts C us' qs' ks' y1 y2 y3 (fun b => Own3 y1 y2 y3 b ∨ ((Own3 s1 s2 s3 b ∨ b = q1) ∧ ¬ Own3 s1 s2 s3 b)) w2) :
    Pk3 w hp room j L ws nm M vs ts ns C v7 v8 v9 q1 box (k + 1) y1 y2 y3 w2 ∧ PkI B v zs w2 := by
  obtain ⟨h1, us', qs', ks', h2, h3⟩ := h
  have hq : ¬ Own3 s1 s2 s3 q1 := by
    rintro (e | e | e)
    · exact own_box hS.r1 hb (by decide) e
    · exact own_box hS.r2 hb (by decide) e
    · exact own_box hS.r3 hb (by decide) e
  have hX : (fun b => Own3 y1 y2 y3 b ∨ ((Own3 s1 s2 s3 b ∨ b = q1) ∧ ¬ Own3 s1 s2 s3 b)) = fun b => Own3 y1 y2 y3 b ∨ b = q1 := by
    funext b
    refine propext ⟨fun e => e.imp id fun e => e.1.resolve_left e.2, fun e => e.imp id fun e => ⟨Or.inr e, by rw [e]; exact hq⟩⟩
  rw [hX] at h2 h3
  refine ⟨⟨⟨us', qs', ks', h2, h3⟩, (h1.block q1 (Array.getElem?_eq_some_iff.1 hb).1 hq).trans hb⟩, row_kee hI h1 fun b e => ?_⟩
  rintro (q | q | q)
  · exact own_type hI hS.r1 (by decide) b e q
  · exact own_type hI hS.r2 (by decide) b e q
  · exact own_type hI hS.r3 (by decide) b e q
set_option maxHeartbeats 4000000 in
set_option maxRecDepth 100000 in
theorem lp3 {w : World} {hp : Nat} {room : Int} {j L : Nat} {ws : List Wd} {nm : List ByteArray} {M : Nat → Prop} {vs : List Wd} {ts : List (Tm 13)} {ns : List (Option Nat)} {C : Went} {v7 v8 v9 : Value} {w1 : World} {q1 B m ic : Nat} {box : Array Value} {ia : Option Addr} {zs : List Int} (hm : m ≤ 1048576) (HP : Hid (Pk3 w hp room j L ws nm M vs ts ns C v7 v8 v9 q1 box 0 (.slice none 0 0) (.slice none 0 0) (.slice none 0 0) w1)) (HZ : Hid (PkI B (.slice ia m ic) zs w1 ∧ zs.length = m ∧ ∀ u ∈ zs, 0 ≤ u ∧ u < (L : Int)))
    {Q : Exit → Act → World → Prop} (hQ : ∀ c a (d : Nat) v w, Q (.panic c) (a.put (some d) v) w → Q (.panic c) a w) {c0 c1 c2 c3 c4 c5 c6 c10 c11 c12 c13 c14 c15 c19 c20 c21 c22 c23 c24 c25 c26 c27 c28 c29 c30 c31 c32 c33 c34 c35 c36 c37 c38 c39 c40 c41 c42 c43 c44 c45 c46 c47 c48 c49 c50 c51 c52 c53 c54 c55 c56 c57 c58 c59 c60 c61 c62 c63 c64 c65 c66 c67 c68 c69 c70 c71 c72 c73 c74 c75 c76 c77 c78 c79 c80 c81 c82 c83 c84 c88 c89 c90 c91 c92 c93 c94 c95 c96 c97 c98 c99 c100 c101 c102 c103 c104 c105 c106 c107 c108 c109 c110 c111 c112 c113 c114 c115 c116 c117 c118 c119 c120 c121 c122 c123 c124 c125 c126 c127 c128 c129 c130 c131 c132 c133 c134 c135 c136 c137 c138 c139 c140 c141 c142 c143 c144 c145 c146 c147 c148 c149 c150 c151 c152 c153 c154 c155 c156 c157 c158 c159 c160 c161 c162 c163 c164 c165 c166 c167 c168 c169 c170 c171 c172 c173 c174 c175 c176 c177 c178 c179 c180 c181 c182 c183 c184 c185 c186 c187 c188 c189 c190 c191 c192 c193 c194 c195 c196 c197 c198 c199 c200 c201 c202 c203 c204 c205 c206 c207 c208 c209 c210 c211 c212 c213 c214 c215 c216 c217 c218 c219 c220 c221 c222 c223 c224 c225 c226 c227 c228 c229 c230 c231 c232 c233 c234 c235 c236 c237 c238 c239 c240 c241 c242 c243 c244 c245 c246 c247 c248 c249 c250 c251 c252 c253 c254 c255 c256 c257 c258 c259 c260 c261 c262 c263 c264 c265 c266 c267 c268 c269 c270 c271 c272 c273 c274 c275 c276 c277 c278 c279 c280 c281 c282 c283 c284 c285 c286 c287 c288 c289 : Value}
    (HK : Hid (∀ (u20 u88 u89 u90 u91 u92 u93 u94 u95 u96 u97 u98 u99 u100 u101 u102 u103 u104 u105 u106 u107 u108 u109 u110 u111 u112 s1 s2 s3 : Value) (w' : World), Hid (Pk3 w hp room j L ws nm M vs ts ns C v7 v8 v9 q1 box m s1 s2 s3 w') → Q .normal ⟨List.toArray (c0 :: c1 :: c2 :: c3 :: c4 :: c5 :: c6 :: v7 :: v8 :: v9 :: c10 :: c11 :: c12 :: c13 :: c14 :: c15 :: s1 :: s2 :: s3 :: c19 :: u20 :: c21 :: c22 :: c23 :: c24 :: c25 :: c26 :: c27 :: c28 :: c29 :: c30 :: c31 :: c32 :: c33 :: c34 :: c35 :: c36 :: c37 :: c38 :: c39 :: c40 :: c41 :: c42 :: c43 :: c44 :: c45 :: c46 :: c47 :: c48 :: c49 :: c50 :: c51 :: c52 :: c53 :: c54 :: c55 :: c56 :: c57 :: c58 :: c59 :: c60 :: c61 :: c62 :: c63 :: c64 :: c65 :: c66 :: c67 :: c68 :: c69 :: c70 :: c71 :: c72 :: c73 :: c74 :: c75 :: c76 :: c77 :: c78 :: c79 :: c80 :: c81 :: c82 :: c83 :: c84 :: Value.slice ia m ic :: Value.int .i64 m :: Value.int .i64 m :: u88 :: u89 :: u90 :: u91 :: u92 :: u93 :: u94 :: u95 :: u96 :: u97 :: u98 :: u99 :: u100 :: u101 :: u102 :: u103 :: u104 :: u105 :: u106 :: u107 :: u108 :: u109 :: u110 :: u111 :: u112 :: c113 :: c114 :: c115 :: c116 :: c117 :: c118 :: c119 :: c120 :: c121 :: c122 :: c123 :: c124 :: c125 :: c126 :: c127 :: c128 :: c129 :: c130 :: c131 :: c132 :: c133 :: c134 :: c135 :: c136 :: c137 :: c138 :: c139 :: c140 :: c141 :: c142 :: c143 :: c144 :: c145 :: c146 :: c147 :: c148 :: c149 :: c150 :: c151 :: c152 :: c153 :: c154 :: c155 :: c156 :: c157 :: c158 :: c159 :: c160 :: c161 :: c162 :: c163 :: c164 :: c165 :: c166 :: c167 :: c168 :: c169 :: c170 :: c171 :: c172 :: c173 :: c174 :: c175 :: c176 :: c177 :: c178 :: c179 :: c180 :: c181 :: c182 :: c183 :: c184 :: c185 :: c186 :: c187 :: c188 :: c189 :: c190 :: c191 :: c192 :: c193 :: c194 :: c195 :: c196 :: c197 :: c198 :: c199 :: c200 :: c201 :: c202 :: c203 :: c204 :: c205 :: c206 :: c207 :: c208 :: c209 :: c210 :: c211 :: c212 :: c213 :: c214 :: c215 :: c216 :: c217 :: c218 :: c219 :: c220 :: c221 :: c222 :: c223 :: c224 :: c225 :: c226 :: c227 :: c228 :: c229 :: c230 :: c231 :: c232 :: c233 :: c234 :: c235 :: c236 :: c237 :: c238 :: c239 :: c240 :: c241 :: c242 :: c243 :: c244 :: c245 :: c246 :: c247 :: c248 :: c249 :: c250 :: c251 :: c252 :: c253 :: c254 :: c255 :: c256 :: c257 :: c258 :: c259 :: c260 :: c261 :: c262 :: c263 :: c264 :: c265 :: c266 :: c267 :: c268 :: c269 :: c270 :: c271 :: c272 :: c273 :: c274 :: c275 :: c276 :: c277 :: c278 :: c279 :: c280 :: c281 :: c282 :: c283 :: c284 :: c285 :: c286 :: c287 :: c288 :: c289 :: []), []⟩ w')) :
    (Code.block 4 hxB4).wp Try.prog Q ⟨List.toArray (c0 :: c1 :: c2 :: c3 :: c4 :: c5 :: c6 :: v7 :: v8 :: v9 :: c10 :: c11 :: c12 :: c13 :: c14 :: c15 :: Value.slice none 0 0 :: Value.slice none 0 0 :: Value.slice none 0 0 :: c19 :: c20 :: c21 :: c22 :: c23 :: c24 :: c25 :: c26 :: c27 :: c28 :: c29 :: c30 :: c31 :: c32 :: c33 :: c34 :: c35 :: c36 :: c37 :: c38 :: c39 :: c40 :: c41 :: c42 :: c43 :: c44 :: c45 :: c46 :: c47 :: c48 :: c49 :: c50 :: c51 :: c52 :: c53 :: c54 :: c55 :: c56 :: c57 :: c58 :: c59 :: c60 :: c61 :: c62 :: c63 :: c64 :: c65 :: c66 :: c67 :: c68 :: c69 :: c70 :: c71 :: c72 :: c73 :: c74 :: c75 :: c76 :: c77 :: c78 :: c79 :: c80 :: c81 :: c82 :: c83 :: c84 :: Value.slice ia m ic :: Value.int .i64 m :: Value.int .i64 0 :: c88 :: c89 :: c90 :: c91 :: c92 :: c93 :: c94 :: c95 :: c96 :: c97 :: c98 :: c99 :: c100 :: c101 :: c102 :: c103 :: c104 :: c105 :: c106 :: c107 :: c108 :: c109 :: c110 :: c111 :: c112 :: c113 :: c114 :: c115 :: c116 :: c117 :: c118 :: c119 :: c120 :: c121 :: c122 :: c123 :: c124 :: c125 :: c126 :: c127 :: c128 :: c129 :: c130 :: c131 :: c132 :: c133 :: c134 :: c135 :: c136 :: c137 :: c138 :: c139 :: c140 :: c141 :: c142 :: c143 :: c144 :: c145 :: c146 :: c147 :: c148 :: c149 :: c150 :: c151 :: c152 :: c153 :: c154 :: c155 :: c156 :: c157 :: c158 :: c159 :: c160 :: c161 :: c162 :: c163 :: c164 :: c165 :: c166 :: c167 :: c168 :: c169 :: c170 :: c171 :: c172 :: c173 :: c174 :: c175 :: c176 :: c177 :: c178 :: c179 :: c180 :: c181 :: c182 :: c183 :: c184 :: c185 :: c186 :: c187 :: c188 :: c189 :: c190 :: c191 :: c192 :: c193 :: c194 :: c195 :: c196 :: c197 :: c198 :: c199 :: c200 :: c201 :: c202 :: c203 :: c204 :: c205 :: c206 :: c207 :: c208 :: c209 :: c210 :: c211 :: c212 :: c213 :: c214 :: c215 :: c216 :: c217 :: c218 :: c219 :: c220 :: c221 :: c222 :: c223 :: c224 :: c225 :: c226 :: c227 :: c228 :: c229 :: c230 :: c231 :: c232 :: c233 :: c234 :: c235 :: c236 :: c237 :: c238 :: c239 :: c240 :: c241 :: c242 :: c243 :: c244 :: c245 :: c246 :: c247 :: c248 :: c249 :: c250 :: c251 :: c252 :: c253 :: c254 :: c255 :: c256 :: c257 :: c258 :: c259 :: c260 :: c261 :: c262 :: c263 :: c264 :: c265 :: c266 :: c267 :: c268 :: c269 :: c270 :: c271 :: c272 :: c273 :: c274 :: c275 :: c276 :: c277 :: c278 :: c279 :: c280 :: c281 :: c282 :: c283 :: c284 :: c285 :: c286 :: c287 :: c288 :: c289 :: []), []⟩ w1 := by
  conv => arg 2; arg 2; whnf
  go_wp2_with fail
  go_loopw [16, 17, 18, 87] (fun s1 s2 s3 i wr => ∃ k : Nat, k ≤ m ∧ i = .int .i64 k ∧ Hid (Pk3 w hp room j L ws nm M vs ts ns C v7 v8 v9 q1 box k s1 s2 s3 wr ∧ PkI B (.slice ia m ic) zs wr)) (fun _ _ _ i _ => m - (intOf i).toNat)
  case atStart => exact ⟨0, Nat.zero_le _, rfl, HP.out, HZ.out.1⟩
  case round =>
  obtain ⟨k, hk, rfl, HR⟩ := hrel
  by_cases hkm : k < m
  rotate_left
  · obtain rfl : k = m := by omega
    go_wp2_with fail
    exact HK.out _ _ _ _ _ _ _ _ _ _ _ _ _ _ _ _ _ _ _ _ _ _ _ _ _ _ _ _ _ _ HR.out.1
  have k1 : (0 : Int) ≤ (k : Int) := by omega
  have k2 : (k : Int) < (m : Int) := by omega
  obtain ⟨u, hu⟩ : ∃ u, zs[k]? = some u := ⟨zs[k]'(by rw [HZ.out.2.1]; exact hkm), List.getElem?_eq_getElem _⟩
  obtain ⟨u0, u1⟩ := HZ.out.2.2 u (List.mem_of_getElem? hu)
  obtain ⟨i, rfl⟩ : ∃ i : Nat, u = (i : Int) := ⟨u.toNat, by omega⟩
  have hi : i < L := by omega
  obtain ⟨⟨⟨us, qs, ks, hH, hS⟩, hbx⟩, hPI⟩ := HR.out
  have hrow : wr.ownsRow B 3 1 (.slice ia m ic) m (zs.map fun u => .int .i64 u) := by have := hPI; unfold PkI at this; rwa [HZ.out.2.1] at this
  obtain ⟨ig, ic', e1, _, hig⟩ := hrow.form (by omega)
  injection e1 with e1 _ e3
  subst e1 e3
  have hc : wr.cell? ⟨ig, k, none⟩ = some (.int .i64 (i : Int)) := by
    have := hrow.cells (g := ig) rfl k (.int .i64 (i : Int)) (by simp [hu])
    rw [add_none] at this
    simpa using this
  have HH := hide hH
  have HSL := hide hS
  have HBX := hide hbx
  have HPI := hide hPI
  clear hH hS hbx hPI hrow hu u0 u1 HR
  go_upto_region 26 with fail
  refine rgn26 HH HSL hi (by omega) ?_ ?_
  · exact fun c a d v w h => hQ c a d v w h
  intro e91 e92 e93 e94 e95 e96 e97 e98 e99 e100 e101 e102 e103 e104 e105 e106 e107 e108 e109 e110 e111 y1 y2 y3 w2 H2
  have H3 := hide (Pk3.next HSL.out HBX.out HPI.out H2.out)
  clear H2 HH HSL HBX HPI hc
  go_wp2_with fail
  go_roundw
  case rel => exact ⟨k + 1, by omega, by go_num, H3.out⟩
  case measure => simp [intOf]; omega
end Go.Proofs.Ytdlckjjfbobmpaa
namespace Go.Proofs.Ytdlckjjfbobmpaa
open Go.RowKit Go.Maps

noncomputable def hx40 : Array Oper := (Try.f3.body.bind (hxRgn 40)).getD #[]
def lb40 (q1 q2 q3 : Nat) : Array Bool := #[true, true, Nat.blt 0 q1, Nat.blt 1 q1, true, true, true, Nat.blt 0 q2, Nat.blt 1 q2, true, true, true, Nat.blt 0 q3, Nat.blt 1 q3, Nat.blt 2 q3, false, false, false]
/-- How far the rows can be: the appends and the call go in their order. -/
def vq40 (q1 q2 q3 : Nat) : Bool := (Nat.blt q2 2 || Nat.beq q1 2) && (Nat.blt q3 1 || (Nat.beq q1 2 && Nat.beq q2 2))
set_option maxHeartbeats 4000000 in
set_option maxRecDepth 100000 in
theorem rgn40 {w : World} {hp : Nat} {room : Int} {j L : Nat} {ws : List Wd} {nm : List ByteArray} {M : Nat → Prop} {vs : List Wd} {ts : List (Tm 13)} {ns : List (Option Nat)} {C : Went} {v7 v8 v9 : Value} {X : Nat → Prop} {wr : World} {q qb pb wl : Nat} {x : Tm (q + 1)} {v : Wd} {b0 b5 : Value} (HR : Hid (HpR w hp room j L ws nm M vs ts ns C v7 v8 v9 X wr)) (hL : L ≤ 2000000) (HB : Hid (wr.heap[qb]? = some (.cells #[b0, .int .i64 x.1.1, .int .i64 x.1.2.1, .string x.1.2.2, .slice x.2.1.1 x.2.2.length x.2.1.2, b5] 35)))
    (HW : Hid (wr.heap[pb]? = some (.cells #[.int .i64 v.1, .int .i64 v.2] 38) ∧ ¬ Own3 v7 v8 v9 pb)) (HX : Hid (In w.heap.size w (q + 1) x ∧ chk (q + 1) x = 0 ∧ closedT (q + 1) x = true ∧ Stands ws nm (q + 1) x v ∧ (plc ws (q + 1) v).Nodup ∧ (∀ p ∈ plc ws (q + 1) v, wl ≤ p) ∧ ∀ c ∈ C, c.1 < wl))
    {Q : Exit → Act → World → Prop} (hQ : ∀ c a (d : Nat) v w, Q (.panic c) (a.put (some d) v) w → Q (.panic c) a w) {c0 c1 c2 c3 c4 c5 c6 c10 c11 c13 c14 c15 c16 c17 c18 c19 c20 c21 c23 c24 c25 c26 c27 c28 c29 c30 c31 c32 c33 c34 c35 c36 c37 c38 c39 c40 c41 c42 c43 c44 c45 c46 c47 c48 c49 c50 c51 c52 c53 c54 c55 c56 c57 c58 c59 c60 c61 c62 c63 c64 c65 c66 c67 c68 c69 c70 c71 c72 c73 c74 c75 c76 c77 c78 c79 c80 c81 c82 c83 c84 c85 c86 c87 c88 c89 c90 c91 c92 c93 c94 c95 c96 c97 c98 c99 c100 c101 c102 c103 c104 c105 c106 c107 c108 c109 c110 c111 c112 c113 c114 c115 c116 c117 c118 c119 c120 c121 c122 c123 c124 c125 c126 c127 c128 c129 c130 c131 c132 c133 c134 c135 c136 c137 c138 c139 c140 c141 c142 c143 c144 c145 c146 c147 c148 c149 c150 c151 c152 c153 c154 c155 c156 c157 c158 c159 c160 c161 c162 c163 c164 c165 c166 c167 c168 c169 c170 c171 c172 c173 c174 c175 c176 c177 c178 c179 c180 c181 c182 c183 c184 c185 c186 c187 c188 c189 c190 c191 c192 c193 c194 c195 c196 c197 c198 c199 c200 c201 c202 c203 c204 c205 c206 c207 c208 c209 c210 c211 c212 c213 c214 c215 c216 c217 c218 c219 c220 c221 c222 c223 c224 c225 c226 c227 c228 c229 c230 c231 c232 c233 c234 c235 c236 c237 c238 c239 c240 c241 c242 c243 c244 c245 c246 c247 c248 c249 c250 c251 c252 c253 c254 c255 c256 c257 c258 c259 c260 c261 c262 c263 c264 c265 c266 c267 c268 c269 c270 c271 c272 c273 c274 c275 c276 c277 c278 c279 c280 c281 c282 c283 c284 c285 c286 c287 c288 c289 : Value}
    (HK : Hid (∀ (u152 u153 u154 u155 u156 u157 u158 u159 u160 u161 u162 u163 u164 u165 u166 y1 y2 y3 : Value) (w' : World), Hid (∃ vs' ts' ns' C', HpR w hp room j (L + 1) ws nm M vs' ts' ns' C' y1 y2 y3 X w') → Q .normal ⟨List.toArray (c0 :: c1 :: c2 :: c3 :: c4 :: c5 :: c6 :: y1 :: y2 :: y3 :: c10 :: c11 :: Value.pointer (some ⟨qb, 0, none⟩) :: c13 :: c14 :: c15 :: c16 :: c17 :: c18 :: c19 :: c20 :: c21 :: Value.pointer (some ⟨pb, 0, none⟩) :: c23 :: c24 :: c25 :: c26 :: c27 :: c28 :: c29 :: c30 :: c31 :: c32 :: c33 :: c34 :: c35 :: c36 :: c37 :: c38 :: c39 :: c40 :: c41 :: c42 :: c43 :: c44 :: c45 :: c46 :: c47 :: c48 :: c49 :: c50 :: c51 :: c52 :: c53 :: c54 :: c55 :: c56 :: c57 :: c58 :: c59 :: c60 :: c61 :: c62 :: c63 :: c64 :: c65 :: c66 :: c67 :: c68 :: c69 :: c70 :: c71 :: c72 :: c73 :: c74 :: c75 :: c76 :: c77 :: c78 :: c79 :: c80 :: c81 :: c82 :: c83 :: c84 :: c85 :: c86 :: c87 :: c88 :: c89 :: c90 :: c91 :: c92 :: c93 :: c94 :: c95 :: c96 :: c97 :: c98 :: c99 :: c100 :: c101 :: c102 :: c103 :: c104 :: c105 :: c106 :: c107 :: c108 :: c109 :: c110 :: c111 :: c112 :: c113 :: c114 :: c115 :: c116 :: c117 :: c118 :: c119 :: c120 :: c121 :: c122 :: c123 :: c124 :: c125 :: c126 :: c127 :: c128 :: c129 :: c130 :: c131 :: c132 :: c133 :: c134 :: c135 :: c136 :: c137 :: c138 :: c139 :: c140 :: c141 :: c142 :: c143 :: c144 :: c145 :: c146 :: c147 :: c148 :: c149 :: c150 :: c151 :: u152 :: u153 :: u154 :: u155 :: u156 :: u157 :: u158 :: u159 :: u160 :: u161 :: u162 :: u163 :: u164 :: u165 :: u166 :: c167 :: c168 :: c169 :: c170 :: c171 :: c172 :: c173 :: c174 :: c175 :: c176 :: c177 :: c178 :: c179 :: c180 :: c181 :: c182 :: c183 :: c184 :: c185 :: c186 :: c187 :: c188 :: c189 :: c190 :: c191 :: c192 :: c193 :: c194 :: c195 :: c196 :: c197 :: c198 :: c199 :: c200 :: c201 :: c202 :: c203 :: c204 :: c205 :: c206 :: c207 :: c208 :: c209 :: c210 :: c211 :: c212 :: c213 :: c214 :: c215 :: c216 :: c217 :: c218 :: c219 :: c220 :: c221 :: c222 :: c223 :: c224 :: c225 :: c226 :: c227 :: c228 :: c229 :: c230 :: c231 :: c232 :: c233 :: c234 :: c235 :: c236 :: c237 :: c238 :: c239 :: c240 :: c241 :: c242 :: c243 :: c244 :: c245 :: c246 :: c247 :: c248 :: c249 :: c250 :: c251 :: c252 :: c253 :: c254 :: c255 :: c256 :: c257 :: c258 :: c259 :: c260 :: c261 :: c262 :: c263 :: c264 :: c265 :: c266 :: c267 :: c268 :: c269 :: c270 :: c271 :: c272 :: c273 :: c274 :: c275 :: c276 :: c277 :: c278 :: c279 :: c280 :: c281 :: c282 :: c283 :: c284 :: c285 :: c286 :: c287 :: c288 :: c289 :: []), []⟩ w')) :
    (Code.region 40 hx40 true).wp Try.prog Q ⟨List.toArray (c0 :: c1 :: c2 :: c3 :: c4 :: c5 :: c6 :: v7 :: v8 :: v9 :: c10 :: c11 :: Value.pointer (some ⟨qb, 0, none⟩) :: c13 :: c14 :: c15 :: c16 :: c17 :: c18 :: c19 :: c20 :: c21 :: Value.pointer (some ⟨pb, 0, none⟩) :: c23 :: c24 :: c25 :: c26 :: c27 :: c28 :: c29 :: c30 :: c31 :: c32 :: c33 :: c34 :: c35 :: c36 :: c37 :: c38 :: c39 :: c40 :: c41 :: c42 :: c43 :: c44 :: c45 :: c46 :: c47 :: c48 :: c49 :: c50 :: c51 :: c52 :: c53 :: c54 :: c55 :: c56 :: c57 :: c58 :: c59 :: c60 :: c61 :: c62 :: c63 :: c64 :: c65 :: c66 :: c67 :: c68 :: c69 :: c70 :: c71 :: c72 :: c73 :: c74 :: c75 :: c76 :: c77 :: c78 :: c79 :: c80 :: c81 :: c82 :: c83 :: c84 :: c85 :: c86 :: c87 :: c88 :: c89 :: c90 :: c91 :: c92 :: c93 :: c94 :: c95 :: c96 :: c97 :: c98 :: c99 :: c100 :: c101 :: c102 :: c103 :: c104 :: c105 :: c106 :: c107 :: c108 :: c109 :: c110 :: c111 :: c112 :: c113 :: c114 :: c115 :: c116 :: c117 :: c118 :: c119 :: c120 :: c121 :: c122 :: c123 :: c124 :: c125 :: c126 :: c127 :: c128 :: c129 :: c130 :: c131 :: c132 :: c133 :: c134 :: c135 :: c136 :: c137 :: c138 :: c139 :: c140 :: c141 :: c142 :: c143 :: c144 :: c145 :: c146 :: c147 :: c148 :: c149 :: c150 :: c151 :: c152 :: c153 :: c154 :: c155 :: c156 :: c157 :: c158 :: c159 :: c160 :: c161 :: c162 :: c163 :: c164 :: c165 :: c166 :: c167 :: c168 :: c169 :: c170 :: c171 :: c172 :: c173 :: c174 :: c175 :: c176 :: c177 :: c178 :: c179 :: c180 :: c181 :: c182 :: c183 :: c184 :: c185 :: c186 :: c187 :: c188 :: c189 :: c190 :: c191 :: c192 :: c193 :: c194 :: c195 :: c196 :: c197 :: c198 :: c199 :: c200 :: c201 :: c202 :: c203 :: c204 :: c205 :: c206 :: c207 :: c208 :: c209 :: c210 :: c211 :: c212 :: c213 :: c214 :: c215 :: c216 :: c217 :: c218 :: c219 :: c220 :: c221 :: c222 :: c223 :: c224 :: c225 :: c226 :: c227 :: c228 :: c229 :: c230 :: c231 :: c232 :: c233 :: c234 :: c235 :: c236 :: c237 :: c238 :: c239 :: c240 :: c241 :: c242 :: c243 :: c244 :: c245 :: c246 :: c247 :: c248 :: c249 :: c250 :: c251 :: c252 :: c253 :: c254 :: c255 :: c256 :: c257 :: c258 :: c259 :: c260 :: c261 :: c262 :: c263 :: c264 :: c265 :: c266 :: c267 :: c268 :: c269 :: c270 :: c271 :: c272 :: c273 :: c274 :: c275 :: c276 :: c277 :: c278 :: c279 :: c280 :: c281 :: c282 :: c283 :: c284 :: c285 :: c286 :: c287 :: c288 :: c289 :: []), []⟩ wr := by
  have HC : Hid (∀ W, Kee (Own3 v7 v8 v9) wr W → (W.cell? ⟨pb, 0, none⟩ = some (.int .i64 v.1) ∧ W.cell? ⟨pb, 1, none⟩ = some (.int .i64 v.2)) ∧ (W.cell? ⟨qb, 1, none⟩ = some (.int .i64 x.1.1) ∧ W.cell? ⟨qb, 2, none⟩ = some (.int .i64 x.1.2.1) ∧ W.cell? ⟨qb, 3, none⟩ = some (.string x.1.2.2) ∧ W.cell? ⟨qb, 4, none⟩ = some (.slice x.2.1.1 x.2.2.length x.2.1.2))) := fun W hW => by
    have hq : ¬ Own3 v7 v8 v9 qb := by
      rintro (e | e | e)
      · exact own_box HR.out.r7 HB.out (by decide) e
      · exact own_box HR.out.r8 HB.out (by decide) e
      · exact own_box HR.out.r9 HB.out (by decide) e
    have h1 := (hW.block pb (Array.getElem?_eq_some_iff.1 HW.out.1).1 HW.out.2).trans HW.out.1
    have h2 := (hW.block qb (Array.getElem?_eq_some_iff.1 HB.out).1 hq).trans HB.out
    exact ⟨⟨cell_row h1 0, cell_row h1 1⟩, ⟨cell_row h2 1, cell_row h2 2, cell_row h2 3, cell_row h2 4⟩⟩
  have HS : Kee (Own3 v7 v8 v9) wr wr.drew := kee_below (Below.refl _ _).drew _
  obtain ⟨RA, ⟨ra1, ra2, ra3⟩, raf⟩ := rowW_ex
  obtain ⟨RB, ⟨rb1, rb2, rb3⟩, rbf⟩ := rowT_ex
  obtain ⟨RC, ⟨rc1, rc2, rc3⟩, rcf⟩ := rowN_ex
  conv => arg 2; arg 2; whnf
  refine wp_region_held_drew (S := fun W => Kee (Own3 v7 v8 v9) wr W) (by kernel_rfl) HS (fun _ => ?_)
  refine wpAnyH_take (i := 0) (v := v7) rfl (by kernel_rfl) (by kernel_rfl) (by kernel_rfl) (fun c a w h => hQ c a _ _ w h) (Or.inl ⟨rfl, fun w' hS' => ?_⟩) HS ?_
  · go_simp
    try with_reducible rfl
  simp only [Act.put, List.getElem_toArray, List.getElem_cons_zero, List.setIfInBounds_toArray, List.set_cons_zero, List.set_cons_succ]
  refine wpAnyH_take (i := 1) (v := .agg #[.int .i64 v.1, .int .i64 v.2]) rfl (by kernel_rfl) (by kernel_rfl) (by kernel_rfl) (fun c a w h => hQ c a _ _ w h) (Or.inl ⟨rfl, fun w' hS' => ?_⟩) HS ?_
  · obtain ⟨⟨f0, f1⟩, _⟩ := HC.out w' hS'
    go_simp
    try with_reducible rfl
  simp only [Act.put, List.getElem_toArray, List.getElem_cons_zero, List.getElem_cons_succ, List.setIfInBounds_toArray, List.set_cons_zero, List.set_cons_succ]
  refine wpAnyH_take (i := 4) (v := v8) rfl (by kernel_rfl) (by kernel_rfl) (by kernel_rfl) (fun c a w h => hQ c a _ _ w h) (Or.inl ⟨rfl, fun w' hS' => ?_⟩) HS ?_
  · go_simp
    try with_reducible rfl
  simp only [Act.put, List.getElem_toArray, List.getElem_cons_zero, List.getElem_cons_succ, List.setIfInBounds_toArray, List.set_cons_zero, List.set_cons_succ]
  refine wpAnyH_take (i := 5) (v := .pointer (some ⟨qb, 1, none⟩)) rfl (by kernel_rfl) (by kernel_rfl) (by kernel_rfl) (fun c a w h => hQ c a _ _ w h) (Or.inl ⟨rfl, fun w' hS' => ?_⟩) HS ?_
  · go_simp
    try with_reducible rfl
  simp only [Act.put, List.getElem_toArray, List.getElem_cons_zero, List.getElem_cons_succ, List.setIfInBounds_toArray, List.set_cons_zero, List.set_cons_succ]
  refine wpAnyH_take (i := 6) (v := .agg #[.int .i64 x.1.1, .int .i64 x.1.2.1, .string x.1.2.2, .slice x.2.1.1 x.2.2.length x.2.1.2]) rfl (by kernel_rfl) (by kernel_rfl) (by kernel_rfl) (fun c a w h => hQ c a _ _ w h) (Or.inl ⟨rfl, fun w' hS' => ?_⟩) HS ?_
  · obtain ⟨_, ⟨f0, f1, f2, f3⟩⟩ := HC.out w' hS'
    go_simp
    try with_reducible rfl
  simp only [Act.put, List.getElem_toArray, List.getElem_cons_zero, List.getElem_cons_succ, List.setIfInBounds_toArray, List.set_cons_zero, List.set_cons_succ]
  refine wpAnyH_take (i := 9) (v := v9) rfl (by kernel_rfl) (by kernel_rfl) (by kernel_rfl) (fun c a w h => hQ c a _ _ w h) (Or.inl ⟨rfl, fun w' hS' => ?_⟩) HS ?_
  · go_simp
    try with_reducible rfl
  simp only [Act.put, List.getElem_toArray, List.getElem_cons_zero, List.getElem_cons_succ, List.setIfInBounds_toArray, List.set_cons_zero, List.set_cons_succ]
  refine wpAnyH_take (i := 10) (v := .pointer (some ⟨qb, 1, none⟩)) rfl (by kernel_rfl) (by kernel_rfl) (by kernel_rfl) (fun c a w h => hQ c a _ _ w h) (Or.inl ⟨rfl, fun w' hS' => ?_⟩) HS ?_
  · go_simp
    try with_reducible rfl
  simp only [Act.put, List.getElem_toArray, List.getElem_cons_zero, List.getElem_cons_succ, List.setIfInBounds_toArray, List.set_cons_zero, List.set_cons_succ]
  refine wpAnyH_take (i := 11) (v := .agg #[.int .i64 x.1.1, .int .i64 x.1.2.1, .string x.1.2.2, .slice x.2.1.1 x.2.2.length x.2.1.2]) rfl (by kernel_rfl) (by kernel_rfl) (by kernel_rfl) (fun c a w h => hQ c a _ _ w h) (Or.inl ⟨rfl, fun w' hS' => ?_⟩) HS ?_
  · obtain ⟨_, ⟨f0, f1, f2, f3⟩⟩ := HC.out w' hS'
    go_simp
    try with_reducible rfl
  simp only [Act.put, List.getElem_toArray, List.getElem_cons_zero, List.getElem_cons_succ, List.setIfInBounds_toArray, List.set_cons_zero, List.set_cons_succ]
  refine three_app RA RB RC vq40 rfl (fuel := 3) (w0 := wr.drew) (base := w.heap.size) (L := L) (v1 := v7) (v2 := v8) (v3 := v9) (n1 := .agg #[.int .i64 v.1, .int .i64 v.2]) (n2 := .agg #[.int .i64 x.1.1, .int .i64 x.1.2.1, .string x.1.2.2, .slice x.2.1.1 x.2.2.length x.2.1.2]) (xs1 := wCells vs) (xs2 := ndCells (ts.map (hdT 13))) (xs3 := ns.map pv) (new1 := wd2 v) (new2 := nd4 (hdT (q + 1) x)) (b1 := 2) (p1 := 3) (b2 := 7) (p2 := 8) (c3 := 12) (b3 := 13) (p3 := 14) (e1 := 153) (e2 := 158) (s1 := 152) (s2 := 156) (s3 := 161) (d1 := 154) (d2 := 155) (d3 := 159) (d4 := 160) (d5 := 164) (d6 := 165) (d7 := 166) (Lb := lb40) (G := fun z hi W => ∃ k D, z = pv k ∧ Cor ws (NodeIn W fun b => wr.heap.size ≤ b ∧ b < hi) D ∧ RelW D v k ∧ D.map (·.1) = plc ws (q + 1) v) ?a1 ?a2 ?a3 (by decide) ?a4 (by decide) ?a5 (raf v) (rbf (hdT (q + 1) x)) ?a6 ?a7 ?a8 ?a9 rc3 ?a10 ?a11 ?a12 ?a13 ?a14 ?a15 (by omega) ?a16 ?a17 ?a18 ?a19 ?a20 ?a21 ?a22 ?a23 ?a24 ?a25
  case a1 => exact ⟨⟨_, rfl, rfl, rfl, by rw [ra2]; rfl⟩, ⟨_, rfl, rfl, rfl, by rw [ra2]; rfl⟩⟩
  case a2 => exact ⟨⟨_, rfl, rfl, rfl, by rw [rb2]; rfl⟩, ⟨_, rfl, rfl, rfl, by rw [rb2]; rfl⟩⟩
  case a3 => exact ⟨⟨_, rfl, rfl, rfl, by rw [rc2]; rfl⟩, ⟨_, rfl, rfl, rfl, by rw [rc2]; rfl⟩⟩
  case a4 => exact of_decide_eq_true (by kernel_rfl)
  case a5 => exact ⟨rfl, rfl, rfl, rfl, rfl⟩
  case a6 => rw [ra3]; rfl
  case a7 => rw [rb3]; rfl
  case a8 => exact wCells_one [v]
  case a9 => exact ndCells_one [(hdT (q + 1) x)]
  case a10 => rw [ra1, ra3]; exact row_kee HR.out.r7 (kee_below (Below.refl _ _).drew fun _ => False) fun _ _ e => e
  case a11 => rw [rb1, rb3]; exact row_kee HR.out.r8 (kee_below (Below.refl _ _).drew fun _ => False) fun _ _ e => e
  case a12 => rw [rc1, rc3]; exact row_kee HR.out.r9 (kee_below (Below.refl _ _).drew fun _ => False) fun _ _ e => e
  case a13 => exact HR.out.apart3.1
  case a14 => exact HR.out.apart3.2.1
  case a15 => exact HR.out.apart3.2.2
  case a16 => exact HR.out.heap.1.size
  case a17 => exact fun W h => HS.trans h fun _ _ e => e
  case a18 =>
    intro a W hev hW R' hR'
    have hW' : Kee (Own3 v7 v8 v9) wr W := HS.trans hW fun _ _ e => e
    have he : a.eval (.tmp 163) = .agg #[.int .i64 x.1.1, .int .i64 x.1.2.1, .string x.1.2.2, .slice x.2.1.1 x.2.2.length x.2.1.2] := hev 163 (by decide)
    have hbw : Below w.heap.size w W := HR.out.heap.1.trans (hW'.below HR.out.heap.1.size fun b hb e => by have := (HR.out.lt e).1; omega)
    have hg := grown_any (q + 1) x v ws nm W.heap.size W ((HX.out.1.below hbw).mono hbw.size) (Nat.le_refl _) HX.out.2.2.2.1 (low13 HX.out.2.1).1 HX.out.2.2.2.2.1
    refine steps_of rfl rfl ?_
    simp only [Act.eval] at he
    go_simp
    refine hg.mono ?_
    rintro e w' ⟨k, rfl, H⟩
    obtain ⟨h1, D, h2, h3, h4⟩ := H.out
    exact hR' (pv k) w' ⟨k, D, rfl, h2.turn (fun c hc m ks hN => hN.kept (fun _ _ _ => rfl) fun b hb hl => ⟨Nat.le_trans hW'.size hb.1, hb.2⟩), h3, h4⟩ h1
  case a19 =>
    rintro z hi W W' ⟨k, D, e, h2, h3, h4⟩ hs hk
    exact ⟨k, D, e, h2.kept (fun b hb hl => hk.block b hl fun e => by have := (HR.out.lt e).2; have := hb.1; omega) (fun _ hb _ => hb), h3, h4⟩
  case a20 =>
    rintro z hi W ⟨k, D, e, _⟩
    subst e
    exact ⟨rcf _, rfl⟩
  case a21 =>
    intro q1 q2 q3 h1 h2 h3 h4 h5
    rcases (by omega : q1 = 0 ∨ q1 = 1 ∨ q1 = 2) with rfl | rfl | rfl <;> rcases (by omega : q2 = 0 ∨ q2 = 1 ∨ q2 = 2) with rfl | rfl | rfl <;> rcases (by omega : q3 = 0 ∨ q3 = 1 ∨ q3 = 2 ∨ q3 = 3) with rfl | rfl | rfl | rfl <;> first | (exact absurd h5 (by decide)) | (exfalso; omega) | kernel_rfl
  case a22 =>
    intro q1 q2 q3 h1 h2 h3
    rcases (by omega : q1 = 0 ∨ q1 = 1) with rfl | rfl <;> rfl
  case a23 =>
    intro q1 q2 q3 h1 h2 h3
    rcases (by omega : q2 = 0 ∨ q2 = 1) with rfl | rfl <;> rfl
  case a24 =>
    intro q1 q2 q3 h1 h2 h3
    rcases (by omega : q3 = 0 ∨ q3 = 1 ∨ q3 = 2) with rfl | rfl | rfl <;> rfl
  case a25 =>
    intro x1 y1 x2 y2 z3 x3 y3 hi W k1 k2 k3 k4 k5 k6
    have k1 := k1.2.2 rfl
    have k2 := k2.2.2 rfl
    have k3 := k3.2.2 rfl
    rw [ra1, ra3] at k1
    rw [rb1, rb3] at k2
    rw [rc1, rc3] at k3
    have hW : Kee (Own3 v7 v8 v9) wr W := HS.trans k6 fun _ _ e => e
    have hyy : ∀ b, Own3 y1 y2 y3 b → Own3 v7 v8 v9 b ∨ wr.heap.size ≤ b := by
      rintro b (e | e | e)
      · exact (k1.2.2 b e).imp Or.inl id
      · exact (k2.2.2 b e).imp (fun e => Or.inr (Or.inl e)) id
      · exact (k3.2.2 b e).imp (fun e => Or.inr (Or.inr e)) id
    obtain ⟨k, D, rfl, hD1, hD2, hD3⟩ := k4
    obtain ⟨hx1, hx2, hx3, hx4, hx5, hx6, hx7⟩ := HX.out
    have hfin := HR.out.put_more hW hyy (q := q) (x := x) (v := v) (k := k) (D := D) (hi := hi) (wl := wl) k1.2.1 k2.2.1 k3.2.1 hx1 hx2 hx3 hx4 hD1 hD2 hD3 hx6 hx7 k5
    unfold Fr7
    simp only [Act.put, List.setIfInBounds_toArray, List.set_cons_zero, List.set_cons_succ]
    refine wpAnyH_take (i := 15) (v := y1) rfl (by kernel_rfl) (by kernel_rfl) (by kernel_rfl) (fun c a w h => hQ c a _ _ w h) (Or.inl ⟨rfl, fun w' hS' => ?_⟩) hW ?_
    · go_simp
      try with_reducible rfl
    simp only [Act.put, List.getElem_toArray, List.getElem_cons_zero, List.getElem_cons_succ, List.setIfInBounds_toArray, List.set_cons_zero, List.set_cons_succ]
    refine wpAnyH_take (i := 16) (v := y2) rfl (by kernel_rfl) (by kernel_rfl) (by kernel_rfl) (fun c a w h => hQ c a _ _ w h) (Or.inl ⟨rfl, fun w' hS' => ?_⟩) hW ?_
    · go_simp
      try with_reducible rfl
    simp only [Act.put, List.getElem_toArray, List.getElem_cons_zero, List.getElem_cons_succ, List.setIfInBounds_toArray, List.set_cons_zero, List.set_cons_succ]
    refine wpAnyH_take (i := 17) (v := y3) rfl (by kernel_rfl) (by kernel_rfl) (by kernel_rfl) (fun c a w h => hQ c a _ _ w h) (Or.inl ⟨rfl, fun w' hS' => ?_⟩) hW ?_
    · go_simp
      try with_reducible rfl
    simp only [Act.put, List.getElem_toArray, List.getElem_cons_zero, List.getElem_cons_succ, List.setIfInBounds_toArray, List.set_cons_zero, List.set_cons_succ]
    exact wpAnyH_done (by kernel_rfl) (HK.out _ _ _ _ _ _ _ _ _ _ _ _ _ _ _ y1 y2 y3 W ⟨_, _, _, _, hfin⟩) _
end Go.Proofs.Ytdlckjjfbobmpaa
