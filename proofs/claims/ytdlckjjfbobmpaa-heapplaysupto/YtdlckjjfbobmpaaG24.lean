/- What is proved here: plain facts and contracts that the claimed theorem stands on, several texts in one: a call of HeapPlays that collects, and one of no kind: what the heap answers is what is reckoned, and the state goes on. No condition but that all lies in memory. a call of HeapPlays that joins: what the heap answers is what is reckoned, and the state goes on. No condition but that all lies in memory. the statement HeapPlays (its second form) follows from what its function does in memory (HPlaysWalk, a premise here: not proved yet). -/
import Derived.Test.YtdlckjjfbobmpaaG23
import Derived.Test.YtdlckjjfbobmpaaG09
import Derived.ProofKit
import Derived.OpenShut
namespace Go.Proofs.Ytdlckjjfbobmpaa
open Go.RowKit Go.Maps

set_option maxHeartbeats 8000000 in
set_option maxRecDepth 100000 in
theorem sw_coll {w : World} {hp : Nat} {room : Int} {j L : Nat} {ws : List Wd} {nm : List ByteArray} {M : Nat → Prop} {vs : List Wd} {ts : List (Tm 13)} {ns : List (Option Nat)} {C : Went} {v7 v8 v9 s1 s2 s3 : Value} {w1 : World} {qb n q : Nat} {x : Tm (q + 1)} {bat : Value} (HP : Hid (Pk3 w hp room j L ws nm M vs ts ns C v7 v8 v9 qb #[.int .i64 2, .int .i64 x.1.1, .int .i64 x.1.2.1, .string x.1.2.2, .slice x.2.1.1 x.2.2.length x.2.1.2, bat] n s1 s2 s3 w1)) (_HX : Hid (In w.heap.size w (q + 1) x ∧ (nodes (q + 1) x).length ≤ 2097152)) (hj : j ≤ 60) (_hLj : L ≤ 1048576 + j) (hn : n ≤ 1048576) 
    {Q : Exit → Act → World → Prop} (_hQ : ∀ c a (d : Nat) v w, Q (.panic c) (a.put (some d) v) w → Q (.panic c) a w) {c1 c2 c3 c4 c6 c11 c13 c14 c15 c19 c20 c21 c22 c23 c24 c25 c26 c27 c28 c29 c30 c31 c32 c33 c34 c35 c36 c37 c38 c39 c40 c41 c42 c43 c44 c45 c46 c47 c48 c49 c50 c51 c52 c53 c54 c55 c56 c57 c58 c59 c60 c61 c62 c63 c64 c65 c66 c67 c68 c69 c70 c71 c72 c73 c74 c75 c76 c77 c78 c79 c80 c81 c82 c83 c84 c85 c86 c87 c88 c89 c90 c91 c92 c93 c94 c95 c96 c97 c98 c99 c100 c101 c102 c103 c104 c105 c106 c107 c108 c109 c110 c111 c112 c113 c115 c116 c117 c118 c119 c120 c121 c122 c123 c124 c125 c126 c127 c128 c129 c130 c131 c132 c133 c134 c135 c136 c137 c138 c139 c140 c141 c142 c143 c144 c145 c146 c147 c148 c149 c150 c151 c152 c153 c154 c155 c156 c157 c158 c159 c160 c161 c162 c163 c164 c165 c166 c167 c168 c169 c170 c171 c172 c173 c174 c175 c176 c177 c178 c179 c180 c181 c182 c183 c184 c185 c186 c187 c188 c189 c190 c191 c192 c193 c194 c195 c196 c197 c198 c199 c200 c201 c202 c203 c204 c205 c206 c207 c208 c209 c210 c211 c212 c213 c214 c215 c216 c217 c218 c219 c220 c221 c222 c223 c224 c225 c226 c227 c228 c229 c230 c231 c232 c233 c234 c235 c236 c237 c238 c239 c240 c241 c242 c243 c244 c245 c246 c247 c248 c249 c250 c251 c252 c253 c254 c255 c256 c257 c258 c259 c260 c261 c262 c263 c264 c265 c266 c267 c268 c269 c270 c271 c272 c273 c274 c275 c276 c277 c278 c279 c280 c281 c282 c283 c284 c285 c286 c287 c288 c289 : Value}
    (HK : Hid (∀ (u21 u22 u23 u24 u25 u26 u27 u28 u29 u115 u116 u117 u118 u119 u120 u121 u122 u123 u124 u125 u126 u127 u128 u129 u130 u131 u132 u133 u134 u135 u136 u137 u138 u139 u140 u141 u142 u143 u144 u145 u146 u147 u148 u149 u150 u151 u152 u153 u154 u155 u156 u157 u158 u159 u160 u161 u162 u163 u164 u165 u166 u167 u168 u169 u170 u171 u172 u173 u174 u175 u176 u177 u178 u179 u180 u181 u182 u183 u184 u185 u186 u187 u188 u189 u190 u191 u192 u193 u194 u195 u196 u197 u198 u199 u200 u201 u202 u203 u204 u205 u206 u207 u208 u209 u210 u211 u212 u213 u214 u215 u216 u217 u218 u219 u220 u221 u222 u223 u224 u225 u226 u227 u228 u229 u230 u231 u232 u233 u234 u235 u236 u237 u238 u239 u240 u241 u242 y1 y2 y3 : Value) (U' : Int) (w' : World), Hid (Rd w hp room (j + 1) (1048576 + (j + 1)) y1 y2 y3 U' w') → Q .normal ⟨List.toArray (Value.int .i64 room :: c1 :: c2 :: c3 :: c4 :: Value.pointer (some ⟨hp, 0, none⟩) :: c6 :: y1 :: y2 :: y3 :: Value.int .i64 U' :: c11 :: Value.pointer (some ⟨qb, 0, none⟩) :: c13 :: c14 :: c15 :: s1 :: s2 :: s3 :: c19 :: c20 :: u21 :: u22 :: u23 :: u24 :: u25 :: u26 :: u27 :: u28 :: u29 :: c30 :: c31 :: c32 :: c33 :: c34 :: c35 :: c36 :: c37 :: c38 :: c39 :: c40 :: c41 :: c42 :: c43 :: c44 :: c45 :: c46 :: c47 :: c48 :: c49 :: c50 :: c51 :: c52 :: c53 :: c54 :: c55 :: c56 :: c57 :: c58 :: c59 :: c60 :: c61 :: c62 :: c63 :: c64 :: c65 :: c66 :: c67 :: c68 :: c69 :: c70 :: c71 :: c72 :: c73 :: c74 :: c75 :: c76 :: c77 :: c78 :: c79 :: c80 :: c81 :: c82 :: c83 :: c84 :: c85 :: c86 :: c87 :: c88 :: c89 :: c90 :: c91 :: c92 :: c93 :: c94 :: c95 :: c96 :: c97 :: c98 :: c99 :: c100 :: c101 :: c102 :: c103 :: c104 :: c105 :: c106 :: c107 :: c108 :: c109 :: c110 :: c111 :: c112 :: c113 :: Value.int .i64 2 :: u115 :: u116 :: u117 :: u118 :: u119 :: u120 :: u121 :: u122 :: u123 :: u124 :: u125 :: u126 :: u127 :: u128 :: u129 :: u130 :: u131 :: u132 :: u133 :: u134 :: u135 :: u136 :: u137 :: u138 :: u139 :: u140 :: u141 :: u142 :: u143 :: u144 :: u145 :: u146 :: u147 :: u148 :: u149 :: u150 :: u151 :: u152 :: u153 :: u154 :: u155 :: u156 :: u157 :: u158 :: u159 :: u160 :: u161 :: u162 :: u163 :: u164 :: u165 :: u166 :: u167 :: u168 :: u169 :: u170 :: u171 :: u172 :: u173 :: u174 :: u175 :: u176 :: u177 :: u178 :: u179 :: u180 :: u181 :: u182 :: u183 :: u184 :: u185 :: u186 :: u187 :: u188 :: u189 :: u190 :: u191 :: u192 :: u193 :: u194 :: u195 :: u196 :: u197 :: u198 :: u199 :: u200 :: u201 :: u202 :: u203 :: u204 :: u205 :: u206 :: u207 :: u208 :: u209 :: u210 :: u211 :: u212 :: u213 :: u214 :: u215 :: u216 :: u217 :: u218 :: u219 :: u220 :: u221 :: u222 :: u223 :: u224 :: u225 :: u226 :: u227 :: u228 :: u229 :: u230 :: u231 :: u232 :: u233 :: u234 :: u235 :: u236 :: u237 :: u238 :: u239 :: u240 :: u241 :: u242 :: c243 :: c244 :: c245 :: c246 :: c247 :: c248 :: c249 :: c250 :: c251 :: c252 :: c253 :: c254 :: c255 :: c256 :: c257 :: c258 :: c259 :: c260 :: c261 :: c262 :: c263 :: c264 :: c265 :: c266 :: c267 :: c268 :: c269 :: c270 :: c271 :: c272 :: c273 :: c274 :: c275 :: c276 :: c277 :: c278 :: c279 :: c280 :: c281 :: c282 :: c283 :: c284 :: c285 :: c286 :: c287 :: c288 :: c289 :: []), []⟩ w')) :
    (Code.block 6 hxB6).wp Try.prog Q ⟨List.toArray (Value.int .i64 room :: c1 :: c2 :: c3 :: c4 :: Value.pointer (some ⟨hp, 0, none⟩) :: c6 :: v7 :: v8 :: v9 :: Value.int .i64 (ws.length : Int) :: c11 :: Value.pointer (some ⟨qb, 0, none⟩) :: c13 :: c14 :: c15 :: s1 :: s2 :: s3 :: c19 :: c20 :: c21 :: c22 :: c23 :: c24 :: c25 :: c26 :: c27 :: c28 :: c29 :: c30 :: c31 :: c32 :: c33 :: c34 :: c35 :: c36 :: c37 :: c38 :: c39 :: c40 :: c41 :: c42 :: c43 :: c44 :: c45 :: c46 :: c47 :: c48 :: c49 :: c50 :: c51 :: c52 :: c53 :: c54 :: c55 :: c56 :: c57 :: c58 :: c59 :: c60 :: c61 :: c62 :: c63 :: c64 :: c65 :: c66 :: c67 :: c68 :: c69 :: c70 :: c71 :: c72 :: c73 :: c74 :: c75 :: c76 :: c77 :: c78 :: c79 :: c80 :: c81 :: c82 :: c83 :: c84 :: c85 :: c86 :: c87 :: c88 :: c89 :: c90 :: c91 :: c92 :: c93 :: c94 :: c95 :: c96 :: c97 :: c98 :: c99 :: c100 :: c101 :: c102 :: c103 :: c104 :: c105 :: c106 :: c107 :: c108 :: c109 :: c110 :: c111 :: c112 :: c113 :: Value.int .i64 2 :: c115 :: c116 :: c117 :: c118 :: c119 :: c120 :: c121 :: c122 :: c123 :: c124 :: c125 :: c126 :: c127 :: c128 :: c129 :: c130 :: c131 :: c132 :: c133 :: c134 :: c135 :: c136 :: c137 :: c138 :: c139 :: c140 :: c141 :: c142 :: c143 :: c144 :: c145 :: c146 :: c147 :: c148 :: c149 :: c150 :: c151 :: c152 :: c153 :: c154 :: c155 :: c156 :: c157 :: c158 :: c159 :: c160 :: c161 :: c162 :: c163 :: c164 :: c165 :: c166 :: c167 :: c168 :: c169 :: c170 :: c171 :: c172 :: c173 :: c174 :: c175 :: c176 :: c177 :: c178 :: c179 :: c180 :: c181 :: c182 :: c183 :: c184 :: c185 :: c186 :: c187 :: c188 :: c189 :: c190 :: c191 :: c192 :: c193 :: c194 :: c195 :: c196 :: c197 :: c198 :: c199 :: c200 :: c201 :: c202 :: c203 :: c204 :: c205 :: c206 :: c207 :: c208 :: c209 :: c210 :: c211 :: c212 :: c213 :: c214 :: c215 :: c216 :: c217 :: c218 :: c219 :: c220 :: c221 :: c222 :: c223 :: c224 :: c225 :: c226 :: c227 :: c228 :: c229 :: c230 :: c231 :: c232 :: c233 :: c234 :: c235 :: c236 :: c237 :: c238 :: c239 :: c240 :: c241 :: c242 :: c243 :: c244 :: c245 :: c246 :: c247 :: c248 :: c249 :: c250 :: c251 :: c252 :: c253 :: c254 :: c255 :: c256 :: c257 :: c258 :: c259 :: c260 :: c261 :: c262 :: c263 :: c264 :: c265 :: c266 :: c267 :: c268 :: c269 :: c270 :: c271 :: c272 :: c273 :: c274 :: c275 :: c276 :: c277 :: c278 :: c279 :: c280 :: c281 :: c282 :: c283 :: c284 :: c285 :: c286 :: c287 :: c288 :: c289 :: []), []⟩ w1 := by
  obtain ⟨⟨us, qs, ks, hH, hS⟩, hbx⟩ := HP.out
  have HH := hide hH
  have HSL := hide hS
  obtain ⟨a1, p1c, rfl⟩ := own_slice hS.r1
  obtain ⟨U, hU⟩ : ∃ U : Int, U = (ws.length : Int) := ⟨_, rfl⟩
  have HCO := hide (hH.collect hS (by omega) (by omega))
  have HLN := hide hS.lens
  have hnn : (n : Int) ≤ 1048576 := by omega
  clear hH hS hbx HP
  conv => arg 2; arg 2; whnf
  rw [← hU]
  clear hU
  go_wp2_with fail
  refine HCO.out.mono ?_
  rintro e w2 ⟨g, rfl, H2⟩
  have HCL := hide (clonew_any (rootsR ws 13 us).1 g n n w2 (show _ from ((roots_standL HSL.out.stand).2.trans HLN.out.1)) (by omega) (words_row3 H2.out.2.2.1 H2.out.2.2.2.2))
  have hq : decide ((n : Int) = (n : Int)) = true := by simp
  clear HCO
  go_wp2_with fail
  refine HCL.out.mono ?_
  rintro e w3 ⟨y, rfl, H3⟩
  have HH3 := hide (HH.out.collected HSL.out H2.out H3.out.1 (own_base H3.out.2.1 (Nat.le_trans HH.out.heap.1.size H2.out.2.1.size)) H3.out.2.2)
  have HLV := hide (HH3.out.live (by omega))
  rw [again_len HSL.out.stand] at HLV
  obtain ⟨U', hU'⟩ : ∃ U' : Int, U' = ((rootsR ws 13 us).2.1.length : Int) := ⟨_, rfl⟩
  rw [← hU'] at HLV
  have HUU := hide hU'
  clear hU' HCL
  go_wp2_with fail
  refine HLV.out.mono ?_
  rintro e w4 ⟨rfl, hb4⟩
  have HRD := hide (Rd.of (HH3.out.later hb4) (B := 1048576 + (j + 1)) (i := j + 1) (by omega) HUU.out (by omega))
  go_wp2_with fail
  exact HK.out _ _ _ _ _ _ _ _ _ _ _ _ _ _ _ _ _ _ _ _ _ _ _ _ _ _ _ _ _ _ _ _ _ _ _ _ _ _ _ _ _ _ _ _ _ _ _ _ _ _ _ _ _ _ _ _ _ _ _ _ _ _ _ _ _ _ _ _ _ _ _ _ _ _ _ _ _ _ _ _ _ _ _ _ _ _ _ _ _ _ _ _ _ _ _ _ _ _ _ _ _ _ _ _ _ _ _ _ _ _ _ _ _ _ _ _ _ _ _ _ _ _ _ _ _ _ _ _ _ _ _ _ _ _ _ _ _ _ _ _ _ _ HRD
set_option maxHeartbeats 8000000 in
set_option maxRecDepth 100000 in
theorem sw_none {w : World} {hp : Nat} {room : Int} {j L : Nat} {ws : List Wd} {nm : List ByteArray} {M : Nat → Prop} {vs : List Wd} {ts : List (Tm 13)} {ns : List (Option Nat)} {C : Went} {v7 v8 v9 s1 s2 s3 : Value} {w1 : World} {qb n q : Nat} {x : Tm (q + 1)} {bat : Value} {ck : Int} (HP : Hid (Pk3 w hp room j L ws nm M vs ts ns C v7 v8 v9 qb #[.int .i64 ck, .int .i64 x.1.1, .int .i64 x.1.2.1, .string x.1.2.2, .slice x.2.1.1 x.2.2.length x.2.1.2, bat] n s1 s2 s3 w1)) (_HX : Hid (In w.heap.size w (q + 1) x ∧ (nodes (q + 1) x).length ≤ 2097152)) (_hj : j ≤ 60) (hLj : L ≤ 1048576 + j) (_hn : n ≤ 1048576) (k0 : ¬ ck = 0) (k1 : ¬ ck = 1) (k2 : ¬ ck = 2) (k3 : ¬ ck = 3)
    {Q : Exit → Act → World → Prop} (_hQ : ∀ c a (d : Nat) v w, Q (.panic c) (a.put (some d) v) w → Q (.panic c) a w) {c1 c2 c3 c4 c6 c11 c13 c14 c15 c19 c20 c21 c22 c23 c24 c25 c26 c27 c28 c29 c30 c31 c32 c33 c34 c35 c36 c37 c38 c39 c40 c41 c42 c43 c44 c45 c46 c47 c48 c49 c50 c51 c52 c53 c54 c55 c56 c57 c58 c59 c60 c61 c62 c63 c64 c65 c66 c67 c68 c69 c70 c71 c72 c73 c74 c75 c76 c77 c78 c79 c80 c81 c82 c83 c84 c85 c86 c87 c88 c89 c90 c91 c92 c93 c94 c95 c96 c97 c98 c99 c100 c101 c102 c103 c104 c105 c106 c107 c108 c109 c110 c111 c112 c113 c115 c116 c117 c118 c119 c120 c121 c122 c123 c124 c125 c126 c127 c128 c129 c130 c131 c132 c133 c134 c135 c136 c137 c138 c139 c140 c141 c142 c143 c144 c145 c146 c147 c148 c149 c150 c151 c152 c153 c154 c155 c156 c157 c158 c159 c160 c161 c162 c163 c164 c165 c166 c167 c168 c169 c170 c171 c172 c173 c174 c175 c176 c177 c178 c179 c180 c181 c182 c183 c184 c185 c186 c187 c188 c189 c190 c191 c192 c193 c194 c195 c196 c197 c198 c199 c200 c201 c202 c203 c204 c205 c206 c207 c208 c209 c210 c211 c212 c213 c214 c215 c216 c217 c218 c219 c220 c221 c222 c223 c224 c225 c226 c227 c228 c229 c230 c231 c232 c233 c234 c235 c236 c237 c238 c239 c240 c241 c242 c243 c244 c245 c246 c247 c248 c249 c250 c251 c252 c253 c254 c255 c256 c257 c258 c259 c260 c261 c262 c263 c264 c265 c266 c267 c268 c269 c270 c271 c272 c273 c274 c275 c276 c277 c278 c279 c280 c281 c282 c283 c284 c285 c286 c287 c288 c289 : Value}
    (HK : Hid (∀ (u21 u22 u23 u24 u25 u26 u27 u28 u29 u115 u116 u117 u118 u119 u120 u121 u122 u123 u124 u125 u126 u127 u128 u129 u130 u131 u132 u133 u134 u135 u136 u137 u138 u139 u140 u141 u142 u143 u144 u145 u146 u147 u148 u149 u150 u151 u152 u153 u154 u155 u156 u157 u158 u159 u160 u161 u162 u163 u164 u165 u166 u167 u168 u169 u170 u171 u172 u173 u174 u175 u176 u177 u178 u179 u180 u181 u182 u183 u184 u185 u186 u187 u188 u189 u190 u191 u192 u193 u194 u195 u196 u197 u198 u199 u200 u201 u202 u203 u204 u205 u206 u207 u208 u209 u210 u211 u212 u213 u214 u215 u216 u217 u218 u219 u220 u221 u222 u223 u224 u225 u226 u227 u228 u229 u230 u231 u232 u233 u234 u235 u236 u237 u238 u239 u240 u241 u242 y1 y2 y3 : Value) (U' : Int) (w' : World), Hid (Rd w hp room (j + 1) (1048576 + (j + 1)) y1 y2 y3 U' w') → Q .normal ⟨List.toArray (Value.int .i64 room :: c1 :: c2 :: c3 :: c4 :: Value.pointer (some ⟨hp, 0, none⟩) :: c6 :: y1 :: y2 :: y3 :: Value.int .i64 U' :: c11 :: Value.pointer (some ⟨qb, 0, none⟩) :: c13 :: c14 :: c15 :: s1 :: s2 :: s3 :: c19 :: c20 :: u21 :: u22 :: u23 :: u24 :: u25 :: u26 :: u27 :: u28 :: u29 :: c30 :: c31 :: c32 :: c33 :: c34 :: c35 :: c36 :: c37 :: c38 :: c39 :: c40 :: c41 :: c42 :: c43 :: c44 :: c45 :: c46 :: c47 :: c48 :: c49 :: c50 :: c51 :: c52 :: c53 :: c54 :: c55 :: c56 :: c57 :: c58 :: c59 :: c60 :: c61 :: c62 :: c63 :: c64 :: c65 :: c66 :: c67 :: c68 :: c69 :: c70 :: c71 :: c72 :: c73 :: c74 :: c75 :: c76 :: c77 :: c78 :: c79 :: c80 :: c81 :: c82 :: c83 :: c84 :: c85 :: c86 :: c87 :: c88 :: c89 :: c90 :: c91 :: c92 :: c93 :: c94 :: c95 :: c96 :: c97 :: c98 :: c99 :: c100 :: c101 :: c102 :: c103 :: c104 :: c105 :: c106 :: c107 :: c108 :: c109 :: c110 :: c111 :: c112 :: c113 :: Value.int .i64 ck :: u115 :: u116 :: u117 :: u118 :: u119 :: u120 :: u121 :: u122 :: u123 :: u124 :: u125 :: u126 :: u127 :: u128 :: u129 :: u130 :: u131 :: u132 :: u133 :: u134 :: u135 :: u136 :: u137 :: u138 :: u139 :: u140 :: u141 :: u142 :: u143 :: u144 :: u145 :: u146 :: u147 :: u148 :: u149 :: u150 :: u151 :: u152 :: u153 :: u154 :: u155 :: u156 :: u157 :: u158 :: u159 :: u160 :: u161 :: u162 :: u163 :: u164 :: u165 :: u166 :: u167 :: u168 :: u169 :: u170 :: u171 :: u172 :: u173 :: u174 :: u175 :: u176 :: u177 :: u178 :: u179 :: u180 :: u181 :: u182 :: u183 :: u184 :: u185 :: u186 :: u187 :: u188 :: u189 :: u190 :: u191 :: u192 :: u193 :: u194 :: u195 :: u196 :: u197 :: u198 :: u199 :: u200 :: u201 :: u202 :: u203 :: u204 :: u205 :: u206 :: u207 :: u208 :: u209 :: u210 :: u211 :: u212 :: u213 :: u214 :: u215 :: u216 :: u217 :: u218 :: u219 :: u220 :: u221 :: u222 :: u223 :: u224 :: u225 :: u226 :: u227 :: u228 :: u229 :: u230 :: u231 :: u232 :: u233 :: u234 :: u235 :: u236 :: u237 :: u238 :: u239 :: u240 :: u241 :: u242 :: c243 :: c244 :: c245 :: c246 :: c247 :: c248 :: c249 :: c250 :: c251 :: c252 :: c253 :: c254 :: c255 :: c256 :: c257 :: c258 :: c259 :: c260 :: c261 :: c262 :: c263 :: c264 :: c265 :: c266 :: c267 :: c268 :: c269 :: c270 :: c271 :: c272 :: c273 :: c274 :: c275 :: c276 :: c277 :: c278 :: c279 :: c280 :: c281 :: c282 :: c283 :: c284 :: c285 :: c286 :: c287 :: c288 :: c289 :: []), []⟩ w')) :
    (Code.block 6 hxB6).wp Try.prog Q ⟨List.toArray (Value.int .i64 room :: c1 :: c2 :: c3 :: c4 :: Value.pointer (some ⟨hp, 0, none⟩) :: c6 :: v7 :: v8 :: v9 :: Value.int .i64 (ws.length : Int) :: c11 :: Value.pointer (some ⟨qb, 0, none⟩) :: c13 :: c14 :: c15 :: s1 :: s2 :: s3 :: c19 :: c20 :: c21 :: c22 :: c23 :: c24 :: c25 :: c26 :: c27 :: c28 :: c29 :: c30 :: c31 :: c32 :: c33 :: c34 :: c35 :: c36 :: c37 :: c38 :: c39 :: c40 :: c41 :: c42 :: c43 :: c44 :: c45 :: c46 :: c47 :: c48 :: c49 :: c50 :: c51 :: c52 :: c53 :: c54 :: c55 :: c56 :: c57 :: c58 :: c59 :: c60 :: c61 :: c62 :: c63 :: c64 :: c65 :: c66 :: c67 :: c68 :: c69 :: c70 :: c71 :: c72 :: c73 :: c74 :: c75 :: c76 :: c77 :: c78 :: c79 :: c80 :: c81 :: c82 :: c83 :: c84 :: c85 :: c86 :: c87 :: c88 :: c89 :: c90 :: c91 :: c92 :: c93 :: c94 :: c95 :: c96 :: c97 :: c98 :: c99 :: c100 :: c101 :: c102 :: c103 :: c104 :: c105 :: c106 :: c107 :: c108 :: c109 :: c110 :: c111 :: c112 :: c113 :: Value.int .i64 ck :: c115 :: c116 :: c117 :: c118 :: c119 :: c120 :: c121 :: c122 :: c123 :: c124 :: c125 :: c126 :: c127 :: c128 :: c129 :: c130 :: c131 :: c132 :: c133 :: c134 :: c135 :: c136 :: c137 :: c138 :: c139 :: c140 :: c141 :: c142 :: c143 :: c144 :: c145 :: c146 :: c147 :: c148 :: c149 :: c150 :: c151 :: c152 :: c153 :: c154 :: c155 :: c156 :: c157 :: c158 :: c159 :: c160 :: c161 :: c162 :: c163 :: c164 :: c165 :: c166 :: c167 :: c168 :: c169 :: c170 :: c171 :: c172 :: c173 :: c174 :: c175 :: c176 :: c177 :: c178 :: c179 :: c180 :: c181 :: c182 :: c183 :: c184 :: c185 :: c186 :: c187 :: c188 :: c189 :: c190 :: c191 :: c192 :: c193 :: c194 :: c195 :: c196 :: c197 :: c198 :: c199 :: c200 :: c201 :: c202 :: c203 :: c204 :: c205 :: c206 :: c207 :: c208 :: c209 :: c210 :: c211 :: c212 :: c213 :: c214 :: c215 :: c216 :: c217 :: c218 :: c219 :: c220 :: c221 :: c222 :: c223 :: c224 :: c225 :: c226 :: c227 :: c228 :: c229 :: c230 :: c231 :: c232 :: c233 :: c234 :: c235 :: c236 :: c237 :: c238 :: c239 :: c240 :: c241 :: c242 :: c243 :: c244 :: c245 :: c246 :: c247 :: c248 :: c249 :: c250 :: c251 :: c252 :: c253 :: c254 :: c255 :: c256 :: c257 :: c258 :: c259 :: c260 :: c261 :: c262 :: c263 :: c264 :: c265 :: c266 :: c267 :: c268 :: c269 :: c270 :: c271 :: c272 :: c273 :: c274 :: c275 :: c276 :: c277 :: c278 :: c279 :: c280 :: c281 :: c282 :: c283 :: c284 :: c285 :: c286 :: c287 :: c288 :: c289 :: []), []⟩ w1 := by
  obtain ⟨⟨us, qs, ks, hH, hS⟩, hbx⟩ := HP.out
  have HRD := hide (Rd.of hH (B := 1048576 + (j + 1)) (i := j + 1) (by omega) rfl (by omega))
  have b0 : (ck == 0) = false := by simpa using k0
  have b1 : (ck == 1) = false := by simpa using k1
  have b2 : (ck == 2) = false := by simpa using k2
  have b3 : (ck == 3) = false := by simpa using k3
  clear hH hS hbx HP
  conv => arg 2; arg 2; whnf
  go_wp2_with fail
  exact HK.out _ _ _ _ _ _ _ _ _ _ _ _ _ _ _ _ _ _ _ _ _ _ _ _ _ _ _ _ _ _ _ _ _ _ _ _ _ _ _ _ _ _ _ _ _ _ _ _ _ _ _ _ _ _ _ _ _ _ _ _ _ _ _ _ _ _ _ _ _ _ _ _ _ _ _ _ _ _ _ _ _ _ _ _ _ _ _ _ _ _ _ _ _ _ _ _ _ _ _ _ _ _ _ _ _ _ _ _ _ _ _ _ _ _ _ _ _ _ _ _ _ _ _ _ _ _ _ _ _ _ _ _ _ _ _ _ _ _ _ _ _ _ HRD
end Go.Proofs.Ytdlckjjfbobmpaa
namespace Go.Proofs.Ytdlckjjfbobmpaa
open Go.RowKit Go.Maps

theorem own_same {w w' : World} {b : Nat} {e : TypeId} {sz : Nat} {v : Value} {n : Nat} {xs : List Value} (h : w.ownsRow b e sz v n xs) (hb : ∀ g, v.ownBlock = some g → w'.heap[g]? = w.heap[g]?) : w'.ownsRow b e sz v n xs := by
  refine ⟨h.1, h.2.imp id ?_⟩
  rintro ⟨g, c, cur, h1, h2, h3, h4⟩
  exact ⟨g, c, cur, h1, h2, (hb g (by rw [h1]; rfl)).trans h3, h4⟩
theorem made_in {w : World} {b n c : Nat} {a : Option Addr} {qs : List (Tm 13)} (h : w.ownsRow b 32 4 (.slice a n c) n (ndCells (qs.map (hdT 13)))) (hl : qs.length = n) (ht : ∀ y ∈ qs, In w.heap.size w 13 y) : In w.heap.size w 14 (madeT a c qs) := by
  rcases h.2 with ⟨e, e0⟩ | ⟨g, cap, cur, e, _, hg, l1, l2, _⟩
  · injection e with e1 _ e3
    have hq : qs = [] := List.eq_nil_of_length_eq_zero (by omega)
    exact ⟨⟨show I64 4 from ⟨by decide, by decide⟩, show I64 0 from ⟨by decide, by decide⟩, Nat.zero_le _, by show qs.length ≤ c; rw [hq]; exact Nat.zero_le _, by show c ≤ maxLen; rw [e3]; exact Nat.zero_le _⟩, Or.inl hq⟩
  · injection e with e1 _ e3
    subst e1 e3
    exact ⟨⟨show I64 4 from ⟨by decide, by decide⟩, show I64 0 from ⟨by decide, by decide⟩, Nat.zero_le _, by show qs.length ≤ c; omega, l2⟩, Or.inr ⟨g, 0, rfl, (Array.getElem?_eq_some_iff.1 hg).1, fun i y hy => ⟨hd_held h i y hy, ht y (List.mem_of_getElem? hy)⟩⟩⟩
theorem made_nodes {a : Option Addr} {c : Nat} {qs : List (Tm 13)} (hq : ∀ y ∈ qs, chk 13 y = 0) (h8 : qs.length ≤ 8) : (nodes 14 (madeT a c qs)).length ≤ 2097152 := by
  have key : ∀ l : List (Tm 13), (∀ y ∈ l, chk 13 y = 0) → (l.flatMap fun y => nodes 13 y).length ≤ 201 * l.length := by
    intro l
    induction l with
    | nil => intro _; simp
    | cons y l ih =>
      intro hy
      have h1 := ih fun z hz => hy z (List.mem_cons_of_mem _ hz)
      have h2 := chk_nlen (hy y (by simp))
      simp only [List.flatMap_cons, List.length_append, List.length_cons]
      omega
  have h1 := key qs hq
  have h2 : (nodes 14 (madeT a c qs)).length = (qs.flatMap fun y => nodes 13 y).length + 1 := rfl
  omega
theorem joinE_of {qs : List (Tm 13)} {room : Int} {ws : List Wd} : (room < (ws.length : Int) + 1 + (qs.length : Int) → joinE 13 qs room ws = 6) ∧ (¬ room < (ws.length : Int) + 1 + (qs.length : Int) → joinE 13 qs room ws = chk 14 (tupT 13 qs)) := by
  unfold joinE
  refine ⟨fun h => ?_, fun h => ?_⟩
  · rw [if_pos (decide_eq_false (by omega))]
  · rw [if_neg (by rw [decide_eq_true (by omega)]; decide)]
set_option maxHeartbeats 8000000 in
set_option maxRecDepth 100000 in
theorem sw_join {w : World} {hp : Nat} {room : Int} {j L : Nat} {ws : List Wd} {nm : List ByteArray} {M : Nat → Prop} {vs : List Wd} {ts : List (Tm 13)} {ns : List (Option Nat)} {C : Went} {v7 v8 v9 s1 s2 s3 : Value} {w1 : World} {qb n q : Nat} {x : Tm (q + 1)} {bat : Value} (HP : Hid (Pk3 w hp room j L ws nm M vs ts ns C v7 v8 v9 qb #[.int .i64 1, .int .i64 x.1.1, .int .i64 x.1.2.1, .string x.1.2.2, .slice x.2.1.1 x.2.2.length x.2.1.2, bat] n s1 s2 s3 w1)) (_HX : Hid (In w.heap.size w (q + 1) x ∧ (nodes (q + 1) x).length ≤ 2097152)) (hj : j ≤ 60) (hLj : L ≤ 1048576 + j) (hn : n ≤ 1048576) 
    {Q : Exit → Act → World → Prop} (hQ : ∀ c a (d : Nat) v w, Q (.panic c) (a.put (some d) v) w → Q (.panic c) a w) {c1 c2 c3 c4 c6 c11 c13 c14 c15 c19 c20 c21 c22 c23 c24 c25 c26 c27 c28 c29 c30 c31 c32 c33 c34 c35 c36 c37 c38 c39 c40 c41 c42 c43 c44 c45 c46 c47 c48 c49 c50 c51 c52 c53 c54 c55 c56 c57 c58 c59 c60 c61 c62 c63 c64 c65 c66 c67 c68 c69 c70 c71 c72 c73 c74 c75 c76 c77 c78 c79 c80 c81 c82 c83 c84 c85 c86 c87 c88 c89 c90 c91 c92 c93 c94 c95 c96 c97 c98 c99 c100 c101 c102 c103 c104 c105 c106 c107 c108 c109 c110 c111 c112 c113 c115 c116 c117 c118 c119 c120 c121 c122 c123 c124 c125 c126 c127 c128 c129 c130 c131 c132 c133 c134 c135 c136 c137 c138 c139 c140 c141 c142 c143 c144 c145 c146 c147 c148 c149 c150 c151 c152 c153 c154 c155 c156 c157 c158 c159 c160 c161 c162 c163 c164 c165 c166 c167 c168 c169 c170 c171 c172 c173 c174 c175 c176 c177 c178 c179 c180 c181 c182 c183 c184 c185 c186 c187 c188 c189 c190 c191 c192 c193 c194 c195 c196 c197 c198 c199 c200 c201 c202 c203 c204 c205 c206 c207 c208 c209 c210 c211 c212 c213 c214 c215 c216 c217 c218 c219 c220 c221 c222 c223 c224 c225 c226 c227 c228 c229 c230 c231 c232 c233 c234 c235 c236 c237 c238 c239 c240 c241 c242 c243 c244 c245 c246 c247 c248 c249 c250 c251 c252 c253 c254 c255 c256 c257 c258 c259 c260 c261 c262 c263 c264 c265 c266 c267 c268 c269 c270 c271 c272 c273 c274 c275 c276 c277 c278 c279 c280 c281 c282 c283 c284 c285 c286 c287 c288 c289 : Value}
    (HK : Hid (∀ (u21 u22 u23 u24 u25 u26 u27 u28 u29 u115 u116 u117 u118 u119 u120 u121 u122 u123 u124 u125 u126 u127 u128 u129 u130 u131 u132 u133 u134 u135 u136 u137 u138 u139 u140 u141 u142 u143 u144 u145 u146 u147 u148 u149 u150 u151 u152 u153 u154 u155 u156 u157 u158 u159 u160 u161 u162 u163 u164 u165 u166 u167 u168 u169 u170 u171 u172 u173 u174 u175 u176 u177 u178 u179 u180 u181 u182 u183 u184 u185 u186 u187 u188 u189 u190 u191 u192 u193 u194 u195 u196 u197 u198 u199 u200 u201 u202 u203 u204 u205 u206 u207 u208 u209 u210 u211 u212 u213 u214 u215 u216 u217 u218 u219 u220 u221 u222 u223 u224 u225 u226 u227 u228 u229 u230 u231 u232 u233 u234 u235 u236 u237 u238 u239 u240 u241 u242 y1 y2 y3 : Value) (U' : Int) (w' : World), Hid (Rd w hp room (j + 1) (1048576 + (j + 1)) y1 y2 y3 U' w') → Q .normal ⟨List.toArray (Value.int .i64 room :: c1 :: c2 :: c3 :: c4 :: Value.pointer (some ⟨hp, 0, none⟩) :: c6 :: y1 :: y2 :: y3 :: Value.int .i64 U' :: c11 :: Value.pointer (some ⟨qb, 0, none⟩) :: c13 :: c14 :: c15 :: s1 :: s2 :: s3 :: c19 :: c20 :: u21 :: u22 :: u23 :: u24 :: u25 :: u26 :: u27 :: u28 :: u29 :: c30 :: c31 :: c32 :: c33 :: c34 :: c35 :: c36 :: c37 :: c38 :: c39 :: c40 :: c41 :: c42 :: c43 :: c44 :: c45 :: c46 :: c47 :: c48 :: c49 :: c50 :: c51 :: c52 :: c53 :: c54 :: c55 :: c56 :: c57 :: c58 :: c59 :: c60 :: c61 :: c62 :: c63 :: c64 :: c65 :: c66 :: c67 :: c68 :: c69 :: c70 :: c71 :: c72 :: c73 :: c74 :: c75 :: c76 :: c77 :: c78 :: c79 :: c80 :: c81 :: c82 :: c83 :: c84 :: c85 :: c86 :: c87 :: c88 :: c89 :: c90 :: c91 :: c92 :: c93 :: c94 :: c95 :: c96 :: c97 :: c98 :: c99 :: c100 :: c101 :: c102 :: c103 :: c104 :: c105 :: c106 :: c107 :: c108 :: c109 :: c110 :: c111 :: c112 :: c113 :: Value.int .i64 1 :: u115 :: u116 :: u117 :: u118 :: u119 :: u120 :: u121 :: u122 :: u123 :: u124 :: u125 :: u126 :: u127 :: u128 :: u129 :: u130 :: u131 :: u132 :: u133 :: u134 :: u135 :: u136 :: u137 :: u138 :: u139 :: u140 :: u141 :: u142 :: u143 :: u144 :: u145 :: u146 :: u147 :: u148 :: u149 :: u150 :: u151 :: u152 :: u153 :: u154 :: u155 :: u156 :: u157 :: u158 :: u159 :: u160 :: u161 :: u162 :: u163 :: u164 :: u165 :: u166 :: u167 :: u168 :: u169 :: u170 :: u171 :: u172 :: u173 :: u174 :: u175 :: u176 :: u177 :: u178 :: u179 :: u180 :: u181 :: u182 :: u183 :: u184 :: u185 :: u186 :: u187 :: u188 :: u189 :: u190 :: u191 :: u192 :: u193 :: u194 :: u195 :: u196 :: u197 :: u198 :: u199 :: u200 :: u201 :: u202 :: u203 :: u204 :: u205 :: u206 :: u207 :: u208 :: u209 :: u210 :: u211 :: u212 :: u213 :: u214 :: u215 :: u216 :: u217 :: u218 :: u219 :: u220 :: u221 :: u222 :: u223 :: u224 :: u225 :: u226 :: u227 :: u228 :: u229 :: u230 :: u231 :: u232 :: u233 :: u234 :: u235 :: u236 :: u237 :: u238 :: u239 :: u240 :: u241 :: u242 :: c243 :: c244 :: c245 :: c246 :: c247 :: c248 :: c249 :: c250 :: c251 :: c252 :: c253 :: c254 :: c255 :: c256 :: c257 :: c258 :: c259 :: c260 :: c261 :: c262 :: c263 :: c264 :: c265 :: c266 :: c267 :: c268 :: c269 :: c270 :: c271 :: c272 :: c273 :: c274 :: c275 :: c276 :: c277 :: c278 :: c279 :: c280 :: c281 :: c282 :: c283 :: c284 :: c285 :: c286 :: c287 :: c288 :: c289 :: []), []⟩ w')) :
    (Code.block 6 hxB6).wp Try.prog Q ⟨List.toArray (Value.int .i64 room :: c1 :: c2 :: c3 :: c4 :: Value.pointer (some ⟨hp, 0, none⟩) :: c6 :: v7 :: v8 :: v9 :: Value.int .i64 (ws.length : Int) :: c11 :: Value.pointer (some ⟨qb, 0, none⟩) :: c13 :: c14 :: c15 :: s1 :: s2 :: s3 :: c19 :: c20 :: c21 :: c22 :: c23 :: c24 :: c25 :: c26 :: c27 :: c28 :: c29 :: c30 :: c31 :: c32 :: c33 :: c34 :: c35 :: c36 :: c37 :: c38 :: c39 :: c40 :: c41 :: c42 :: c43 :: c44 :: c45 :: c46 :: c47 :: c48 :: c49 :: c50 :: c51 :: c52 :: c53 :: c54 :: c55 :: c56 :: c57 :: c58 :: c59 :: c60 :: c61 :: c62 :: c63 :: c64 :: c65 :: c66 :: c67 :: c68 :: c69 :: c70 :: c71 :: c72 :: c73 :: c74 :: c75 :: c76 :: c77 :: c78 :: c79 :: c80 :: c81 :: c82 :: c83 :: c84 :: c85 :: c86 :: c87 :: c88 :: c89 :: c90 :: c91 :: c92 :: c93 :: c94 :: c95 :: c96 :: c97 :: c98 :: c99 :: c100 :: c101 :: c102 :: c103 :: c104 :: c105 :: c106 :: c107 :: c108 :: c109 :: c110 :: c111 :: c112 :: c113 :: Value.int .i64 1 :: c115 :: c116 :: c117 :: c118 :: c119 :: c120 :: c121 :: c122 :: c123 :: c124 :: c125 :: c126 :: c127 :: c128 :: c129 :: c130 :: c131 :: c132 :: c133 :: c134 :: c135 :: c136 :: c137 :: c138 :: c139 :: c140 :: c141 :: c142 :: c143 :: c144 :: c145 :: c146 :: c147 :: c148 :: c149 :: c150 :: c151 :: c152 :: c153 :: c154 :: c155 :: c156 :: c157 :: c158 :: c159 :: c160 :: c161 :: c162 :: c163 :: c164 :: c165 :: c166 :: c167 :: c168 :: c169 :: c170 :: c171 :: c172 :: c173 :: c174 :: c175 :: c176 :: c177 :: c178 :: c179 :: c180 :: c181 :: c182 :: c183 :: c184 :: c185 :: c186 :: c187 :: c188 :: c189 :: c190 :: c191 :: c192 :: c193 :: c194 :: c195 :: c196 :: c197 :: c198 :: c199 :: c200 :: c201 :: c202 :: c203 :: c204 :: c205 :: c206 :: c207 :: c208 :: c209 :: c210 :: c211 :: c212 :: c213 :: c214 :: c215 :: c216 :: c217 :: c218 :: c219 :: c220 :: c221 :: c222 :: c223 :: c224 :: c225 :: c226 :: c227 :: c228 :: c229 :: c230 :: c231 :: c232 :: c233 :: c234 :: c235 :: c236 :: c237 :: c238 :: c239 :: c240 :: c241 :: c242 :: c243 :: c244 :: c245 :: c246 :: c247 :: c248 :: c249 :: c250 :: c251 :: c252 :: c253 :: c254 :: c255 :: c256 :: c257 :: c258 :: c259 :: c260 :: c261 :: c262 :: c263 :: c264 :: c265 :: c266 :: c267 :: c268 :: c269 :: c270 :: c271 :: c272 :: c273 :: c274 :: c275 :: c276 :: c277 :: c278 :: c279 :: c280 :: c281 :: c282 :: c283 :: c284 :: c285 :: c286 :: c287 :: c288 :: c289 :: []), []⟩ w1 := by
  obtain ⟨⟨us, qs, ks, hH, hS⟩, hbx⟩ := HP.out
  obtain ⟨a1, p1c, rfl⟩ := own_slice hS.r1
  obtain ⟨a2, p2c, rfl⟩ := own_slice hS.r2
  obtain ⟨a3, p3c, rfl⟩ := own_slice hS.r3
  have HH := hide hH
  have HSL := hide hS
  obtain ⟨U, hU⟩ : ∃ U : Int, U = (ws.length : Int) := ⟨_, rfl⟩
  have hU0 : 0 ≤ U ∧ U ≤ 1000 := by
    have := hH.few
    omega
  have hr0 : 0 ≤ room ∧ room ≤ 1000 := hH.room.2
  have HLN := hide hS.lens
  have HUU := hide hU
  have hnn : (0 : Int) ≤ (n : Int) ∧ (n : Int) ≤ 1048576 := by omega
  clear hH hS hbx HP
  conv => arg 2; arg 2; whnf
  rw [← hU]
  clear hU
  go_upto_block 7 with fail
  generalize hw2 : w1.alloc _ = w2
  have HB2 : Hid (Below w1.heap.size w1 w2) := by rw [← hw2]; exact (Below.refl _ _).alloc (Nat.le_refl _) _
  have HN2 : Hid (w2.heap[w1.heap.size]? = some (.cells #[.int .i64 4, .int .i64 0, .string ⟨#[]⟩, .slice a2 n p2c] 32)) := by rw [← hw2]; exact heap_alloc_new _ _
  clear hw2
  have HH2 : Hid (HpR w hp room j L ws nm M vs ts ns C v7 v8 v9 (fun b => (Own3 (.slice a1 n p1c) (.slice a2 n p2c) (.slice a3 n p3c) b ∨ b = qb) ∨ b = w1.heap.size) w2) := HH.out.but (kee_below HB2.out fun _ => False) (fun _ _ e => e.elim) fun b e => e.imp id fun e => ⟨by omega, by rw [e]; exact (Array.getElem?_eq_some_iff.1 HN2.out).1⟩
  by_cases h8 : n ≤ 8
  rotate_left
  · have h8' : (8 : Int) < (n : Int) := by omega
    have HJ := hide (join_e0 hp a1 n p1c w2 (by simpa using h8'))
    go_wp2_with fail
    refine HJ.out.mono ?_
    rintro e w3 ⟨rfl, hb3⟩
    have HRD : Hid (∀ o, Rd w hp room (j + 1) (1048576 + (j + 1)) v7 v8 v9 U (w3.alloc o)) := fun o => Rd.of (HH2.out.later (hb3.alloc hb3.size o)) (by omega) HUU.out (by omega)
    go_wp2_with fail
    exact HK.out _ _ _ _ _ _ _ _ _ _ _ _ _ _ _ _ _ _ _ _ _ _ _ _ _ _ _ _ _ _ _ _ _ _ _ _ _ _ _ _ _ _ _ _ _ _ _ _ _ _ _ _ _ _ _ _ _ _ _ _ _ _ _ _ _ _ _ _ _ _ _ _ _ _ _ _ _ _ _ _ _ _ _ _ _ _ _ _ _ _ _ _ _ _ _ _ _ _ _ _ _ _ _ _ _ _ _ _ _ _ _ _ _ _ _ _ _ _ _ _ _ _ _ _ _ _ _ _ _ _ _ _ _ _ _ _ _ _ _ _ _ _ (HRD.out _)
  have h8' : ¬ (8 : Int) < (n : Int) := by omega
  have n8 : (n : Int) ≤ 8 := by omega
  obtain ⟨E, hE⟩ : ∃ E, E = joinE 13 qs room ws := ⟨_, rfl⟩
  obtain ⟨K, hK⟩ : ∃ K, K = chk 14 (tupT 13 qs) := ⟨_, rfl⟩
  have HQG : Hid (∀ y ∈ qs, chk 13 y = 0 ∧ closedT 13 y = true) := fun y hy => HH.out.good y (HSL.out.sub y hy)
  have hKK : K = 0 ∨ K = 2 := by
    rw [hK]
    exact join_code (fun y hy => (HQG.out y hy).1) (by have := HLN.out.2.1; omega)
  have hE6 : room < U + 1 + (n : Int) → E = 6 := fun h => by
    rw [hE]
    exact joinE_of.1 (by rw [HLN.out.2.1, ← HUU.out]; exact h)
  have hEK : ¬ room < U + 1 + (n : Int) → E = K := fun h => by
    rw [hE, hK]
    exact joinE_of.2 (by rw [HLN.out.2.1, ← HUU.out]; exact h)
  have HCK : Hid (Calls Try.prog 11 #[.agg #[.int .i64 4, .int .i64 0, .string ⟨#[]⟩, .slice a2 n p2c]] w2 fun e w' => e = .returned (.int .i64 K) ∧ Below w2.heap.size w2 w') := by
    have h1 := made_in (own_below HSL.out.r2 HB2.out) HLN.out.2.1 fun y hy => (HH2.out.term y (HSL.out.sub y hy)).1
    have k := rcheck_any 14 (madeT a2 p2c qs) w2.heap.size w2 h1 (Nat.le_refl _) (made_nodes (fun y hy => (HQG.out y hy).1) (by have := HLN.out.2.1; omega))
    rw [made_chk a2 p2c (fun y hy => (low13 (HQG.out y hy).1).1), ← hK] at k
    have e : val 14 (madeT a2 p2c qs) = .agg #[.int .i64 4, .int .i64 0, .string ⟨#[]⟩, .slice a2 n p2c] := by rw [← HLN.out.2.1]; rfl
    rw [e] at k
    exact k
  have HJN : Hid (∀ W, Below w2.heap.size w2 W → Calls Try.prog 12 #[.pointer (some ⟨hp, 0, none⟩), .slice a1 n p1c] W fun e w' => ∃ v : Wd, e = .returned (.tuple #[.agg #[.int .i64 v.1, .int .i64 v.2], .int .i64 E]) ∧ Hid ((E ≠ 0 → Below W.heap.size W w') ∧
      (E = 0 → v = (4, (ws.length : Int)) ∧ K = 0 ∧ (∀ b, (fun b => (Own3 (.slice a1 n p1c) (.slice a2 n p2c) (.slice a3 n p3c) b ∨ b = qb) ∨ b = w1.heap.size) b → w'.heap[b]? = w2.heap[b]?) ∧ ∃ M', HpR w hp room (j + 1) L (ws ++ (0, (us.length : Int)) :: us) nm M' vs ts ns C v7 v8 v9 (fun b => (Own3 (.slice a1 n p1c) (.slice a2 n p2c) (.slice a3 n p3c) b ∨ b = qb) ∨ b = w1.heap.size) w'))) := fun W hW => by
    have hA := HH2.out.later hW
    obtain ⟨k1, k2⟩ := own_words7 (own_below HSL.out.r1 HB2.out) HLN.out.1
    obtain ⟨k3, _⟩ := own_words7 (own_below (own_below HSL.out.r1 HB2.out) hW) HLN.out.1
    have k := hA.join (by omega) (pc := p1c) HSL.out.stand HQG.out HLN.out.1 h8 k3 (fun b o e => (hA.sep b (Or.inl (HSL.out.own b (Or.inl (by rw [e]; rfl))))).1)
    rw [← hE, ← hK] at k
    refine k.mono ?_
    rintro e w' ⟨v, rfl, H⟩
    refine ⟨v, rfl, H.out.1, fun h0 => ?_⟩
    obtain ⟨e1, e2, e3, e4⟩ := H.out.2 h0
    exact ⟨e1, e2, fun b hb => (e3 b hb).trans (hW.block b (HH2.out.sep b hb).2.2), e4⟩
  have hc2 := HN2.out
  have m0 := cell_row hc2 0
  have m1 := cell_row hc2 1
  have m2 := cell_row hc2 2
  have m3 := cell_row hc2 3
  simp only [List.getElem?_cons_zero, List.getElem?_cons_succ] at m0 m1 m2 m3
  have HKZ := hide hK
  clear hE hK hc2
  by_cases hF : room < U + 1 + (n : Int)
  · have e6 := hE6 hF
    subst e6
    clear hE6 hEK HCK
    go_wp2_with fail
    refine (HJN.out _ (Below.refl _ _)).mono ?_
    rintro e w3 ⟨v, rfl, H3⟩
    have HB3 := hide (H3.out.1 (by simp))
    have HRD : Hid (∀ o, Rd w hp room (j + 1) (1048576 + (j + 1)) v7 v8 v9 U (w3.alloc o)) := fun o => Rd.of (HH2.out.later (HB3.out.alloc HB3.out.size o)) (by omega) HUU.out (by omega)
    go_wp2_with fail
    exact HK.out _ _ _ _ _ _ _ _ _ _ _ _ _ _ _ _ _ _ _ _ _ _ _ _ _ _ _ _ _ _ _ _ _ _ _ _ _ _ _ _ _ _ _ _ _ _ _ _ _ _ _ _ _ _ _ _ _ _ _ _ _ _ _ _ _ _ _ _ _ _ _ _ _ _ _ _ _ _ _ _ _ _ _ _ _ _ _ _ _ _ _ _ _ _ _ _ _ _ _ _ _ _ _ _ _ _ _ _ _ _ _ _ _ _ _ _ _ _ _ _ _ _ _ _ _ _ _ _ _ _ _ _ _ _ _ _ _ _ _ _ _ _ (HRD.out _)
  have eK := hEK hF
  subst eK
  clear hE6 hEK
  rcases hKK with rfl | rfl
  rotate_left
  · go_wp2_with fail
    refine HCK.out.mono ?_
    rintro e w3 ⟨rfl, hb3⟩
    have HB3 := hide hb3
    go_wp2_with fail
    refine (HJN.out _ HB3.out).mono ?_
    rintro e w4 ⟨v, rfl, H4⟩
    have HB4 := hide (HB3.out.trans ((H4.out.1 (by simp)).mono HB3.out.size))
    have HRD : Hid (∀ o, Rd w hp room (j + 1) (1048576 + (j + 1)) v7 v8 v9 U (w4.alloc o)) := fun o => Rd.of (HH2.out.later (HB4.out.alloc HB4.out.size o)) (by omega) HUU.out (by omega)
    go_wp2_with fail
    exact HK.out _ _ _ _ _ _ _ _ _ _ _ _ _ _ _ _ _ _ _ _ _ _ _ _ _ _ _ _ _ _ _ _ _ _ _ _ _ _ _ _ _ _ _ _ _ _ _ _ _ _ _ _ _ _ _ _ _ _ _ _ _ _ _ _ _ _ _ _ _ _ _ _ _ _ _ _ _ _ _ _ _ _ _ _ _ _ _ _ _ _ _ _ _ _ _ _ _ _ _ _ _ _ _ _ _ _ _ _ _ _ _ _ _ _ _ _ _ _ _ _ _ _ _ _ _ _ _ _ _ _ _ _ _ _ _ _ _ _ _ _ _ _ (HRD.out _)
  go_wp2_with fail
  refine HCK.out.mono ?_
  rintro e w3 ⟨rfl, hb3⟩
  have HB3 := hide hb3
  clear m0 m1 m2 m3
  go_wp2_with fail
  refine (HJN.out _ HB3.out).mono ?_
  rintro e w4 ⟨v, rfl, H4⟩
  obtain ⟨rfl, hk0, hkeep, M', hH4⟩ := H4.out.2 (by simp)
  have HKp := hide hkeep
  have HH4 := hide hH4
  have HA4 : Hid (∀ o, Below w4.heap.size w4 (w4.alloc o)) := fun o => (Below.refl _ _).alloc (Nat.le_refl _) o
  clear H4 HJN hkeep hH4 HCK
  go_upto_region 55 with fail
  generalize hw5 : w4.alloc _ = w5
  have HB5 : Hid (Below w4.heap.size w4 w5) := by rw [← hw5]; exact HA4.out _
  have HN5 : Hid (w5.heap[w4.heap.size]? = some (.cells #[.int .i64 4, .int .i64 (ws.length : Int)] 38) ∧ ¬ Own3 v7 v8 v9 w4.heap.size) := ⟨by rw [← hw5]; exact heap_alloc_new _ _, fun e => by have := (HH4.out.lt e).2; omega⟩
  clear hw5 HA4
  have HM5 : Hid (w5.heap[w1.heap.size]? = some (.cells #[.int .i64 4, .int .i64 0, .string ⟨#[]⟩, .slice a2 n p2c] 32) ∧ ¬ Own3 v7 v8 v9 w1.heap.size) := ⟨bkeep HB5.out ((HKp.out _ (Or.inr rfl)).trans HN2.out), fun e => (HH4.out.apart _ e).2 (Or.inr rfl)⟩
  have HX5 : Hid ((∀ c ∈ C, c.1 < ws.length) ∧ (us.length = n ∧ qs.length = n ∧ ks.length = n) ∧ (∀ b, (Value.slice a2 n p2c).ownBlock = some b ∨ (Value.slice a3 n p3c).ownBlock = some b → (fun b => (Own3 (.slice a1 n p1c) (.slice a2 n p2c) (.slice a3 n p3c) b ∨ b = qb) ∨ b = w1.heap.size) b) ∧ w5.ownsRow w.heap.size 32 4 (.slice a2 n p2c) n (ndCells (qs.map (hdT 13))) ∧ w5.ownsRow w.heap.size 39 1 (.slice a3 n p3c) n (ks.map pv) ∧ StandL ws nm 13 us qs ∧ (∀ y ∈ qs, y ∈ ts) ∧ RelR C us ks ∧ chk 14 (tupT 13 qs) = 0) := by
    refine ⟨HH.out.seen, HLN.out, fun b e => Or.inl (Or.inl (Or.inr e)), own_below (own_same (own_below HSL.out.r2 HB2.out) fun g e => HKp.out g (Or.inl (Or.inl (Or.inr (Or.inl e))))) HB5.out, own_below (own_same (own_below HSL.out.r3 HB2.out) fun g e => HKp.out g (Or.inl (Or.inl (Or.inr (Or.inr e))))) HB5.out, HSL.out.stand, HSL.out.sub, HSL.out.rel, HKZ.out.symm⟩
  have HH5 := hide (HH4.out.later HB5.out)
  refine rgn55 HH5 (by omega) h8 HM5 HN5 HX5 ?_ ?_
  · exact fun c a d v w h => hQ c a d v w h
  intro e203 e204 e205 e206 e207 e208 e209 e210 e211 e212 e213 e214 e215 e216 e217 e218 e219 y1 y2 y3 w7 H7
  have HRD : Hid (Rd w hp room (j + 1) (1048576 + (j + 1)) y1 y2 y3 (U + (1 + (n : Int))) w7) := by
    obtain ⟨vs', ts', ns', C', h⟩ := H7.out
    refine Rd.of h (by omega) ?_ (Nat.le_refl _)
    rw [HUU.out, List.length_append, List.length_cons, HLN.out.1]
    omega
  go_wp2_with fail
  exact HK.out _ _ _ _ _ _ _ _ _ _ _ _ _ _ _ _ _ _ _ _ _ _ _ _ _ _ _ _ _ _ _ _ _ _ _ _ _ _ _ _ _ _ _ _ _ _ _ _ _ _ _ _ _ _ _ _ _ _ _ _ _ _ _ _ _ _ _ _ _ _ _ _ _ _ _ _ _ _ _ _ _ _ _ _ _ _ _ _ _ _ _ _ _ _ _ _ _ _ _ _ _ _ _ _ _ _ _ _ _ _ _ _ _ _ _ _ _ _ _ _ _ _ _ _ _ _ _ _ _ _ _ _ _ _ _ _ _ _ _ _ _ _ HRD
end Go.Proofs.Ytdlckjjfbobmpaa
namespace Go.Proofs.Ytdlckjjfbobmpaa
open Go.ChangeShapes Go.WideShapes Go.ChangeAt Go.RowKit

/-- What the walk of HeapPlays is to say: true, whatever the room and the calls. -/
def HPlaysWalk : Prop := ∀ (room : Int) (n : Nat) (l : List (Hk n)) (la : Option Addr) (len lc : Nat) (w : World),
  Hid (l.length = len ∧ len ≤ lc ∧ lc ≤ maxLen ∧ LayH w.heap.size w 6 (hk6 n) (HkIn n w.heap.size w) la l ∧ ∀ c ∈ l, (nodes (n + 1) c.2.1).length ≤ 2097152 ∧ c.2.2.2.length ≤ 1048576) →
  Calls Try.prog 3 #[.int .i64 room, .slice la len lc] w fun e w' => e = .returned (.bool true) ∧ Below w.heap.size w w'
set_option maxRecDepth 100000 in
theorem hplays_contract (hwalk : HPlaysWalk) (H : Type) (enc : TypeId × Value → H) (W : World) (base : Nat) (args : Array Value) (ds gs : List (DataW H)) (before : List MemPlace)
    (hval : ∀ (j : Nat) t v, Try.f3.params[j]? = some t → args[j]? = some v → Value.okWide Try.prog W .any base t v)
    (hW : DataW.Whole enc Try.prog Try.f3.params.toList Rows.heapPlaysSpec.vars false W args.toList ds gs before) (hk : Rows.uptoSmall H (ds ++ gs) = true) :
    Calls Try.prog 3 args W fun e W' => ∃ v, e = .returned v ∧ Rows.heapPlaysSpec.post enc Try.prog Try.f3 false true false false W args v W' := by
  have hW' := hW
  obtain ⟨p, q, hA0, hV, rfl, hfz, hnd⟩ := hW
  have hA : DataW.TrodAll enc Try.prog W 0 (fun _ => true) true Try.f3.params.toList args.toList ds p := hA0
  rw [Try.params3] at hA hval
  obtain ⟨v0, vs0, d0, ds0, p0, q0, hargs, rfl, rfl, h0, r0⟩ := trodAll_cons hA
  obtain ⟨v1, vs1, d1, ds1, p1, q1, rfl, rfl, rfl, h1, r1⟩ := trodAll_cons r0
  obtain ⟨rfl, rfl, rfl⟩ := trodAll_nil r1
  obtain rfl : args = #[v0, v1] := by cases args; simp_all
  obtain ⟨rfl, rfl⟩ := trodVars_none hV
  have hlt0 : ∀ x ∈ p0, x.block < W.heap.size := fun x hx => by simpa using hW'.lt x (by simp [hx])
  have hlt1 : ∀ x ∈ p1, x.block < W.heap.size := fun x hx => by simpa using hW'.lt x (by simp [hx])
  obtain ⟨room, ev0⟩ := okWide_int Try.underlying3 (hval 0 3 v0 rfl rfl)
  obtain ⟨k, cl, ca, cc, ev1, hcl, hcc, hci, wc⟩ := open_hcalls (hval 1 22 v1 rfl rfl) h1
  have hb : Rows.uptoBulkAll ([d0, d1] ++ []) ≤ 1048576 := of_decide_eq_true hk
  simp only [List.append_nil, Rows.uptoBulkAll] at hb
  clear hA0 hk
  have walk := hwalk room k cl ca cl.length cc W (show cl.length = cl.length ∧ cl.length ≤ cc ∧ cc ≤ maxLen ∧ LayH W.heap.size W 6 (hk6 k) (HkIn k W.heap.size W) ca cl ∧ ∀ c ∈ cl, (nodes (k + 1) c.2.1).length ≤ 2097152 ∧ c.2.2.2.length ≤ 1048576 from ⟨rfl, hcl, hcc, hci, fun c hc => hcall_nodes (by omega) c hc⟩)
  rw [← ev0, ← ev1] at walk
  refine walk.mono fun e W' ⟨he, hg⟩ => ?_
  subst he
  refine ⟨_, rfl, _, _, _, [], p0 ++ (p1 ++ []), [], hW', ?_, ?_, rfl, hg.frame _, fun h => by cases h⟩
  · exact trodAll_cons_mk (shut_bool Try.underlying4 _) trodAll_mk0
  · exact trodAll_cons_mk (Below.trod laidOut (by kernel_rfl) (of_decide_eq_true (by kernel_rfl)) h0 hg hlt0) (trodAll_cons_mk (Below.trod laidOut (by kernel_rfl) (of_decide_eq_true (by kernel_rfl)) h1 hg hlt1) trodAll_mk0)

set_option maxRecDepth 100000 in
theorem hplays_lifted (hwalk : HPlaysWalk) (os : Os) (started : os.Started) (H : Type) (enc : TypeId × Value → H) (F : Stop.Interp) :
    ReturnsInHanded {} Try.checked os 3 .any ((Rows.OpenSpec.upto Rows.heapPlaysSpec).pre6 enc Try.prog Try.f3 Rows.heapPlaysUptoRow.domain false) (((Rows.OpenSpec.upto Rows.heapPlaysSpec).at F).post enc Try.prog Try.f3 false true false false) := by
  refine returnsInHanded_of_cond (C := Try.checked) (s := Rows.OpenSpec.upto Rows.heapPlaysSpec) (k := Rows.uptoSmall) rfl own started (by kernel_rfl) Try.func3
    (OpenSpec.witness (enc := enc) (C := Try.checked) (s := Rows.OpenSpec.upto Rows.heapPlaysSpec) (k := Rows.uptoSmall) rfl false ⟨#[], #[.int .i64 0, .slice none 0 0], []⟩ 8 (by kernel_rfl) (by kernel_rfl) (by kernel_rfl)
      (x := ([.lit (.int .i64 0), .nil], [], [])) (by kernel_rfl) rfl (by kernel_rfl)) ?_
  intro W base args ds gs before hval hW _ hk _
  exact hplays_contract hwalk H enc W base args ds gs before hval hW hk

theorem hplays_of (hwalk : HPlaysWalk) : Rows.HeapPlaysUptoSaid :=
  OpenClaim.holds_of_cond 3 Try.f3 rfl rfl rfl rfl rfl rfl rfl ⟨rfl, rfl, rfl, rfl, rfl⟩ rfl rfl rfl rfl rfl (by kernel_rfl) Try.func3 (by kernel_rfl)
    (of_decide_eq_true (by kernel_rfl)) (by unfold Func.isWrapper; first | (rw [if_pos (by decide +kernel)]; kernel_rfl) | (rw [if_neg (by decide +kernel)]; exact ⟨rfl, rfl⟩))
    (fun os started H enc _ F => hplays_lifted hwalk os started H enc F)
end Go.Proofs.Ytdlckjjfbobmpaa
