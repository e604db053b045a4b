/- What is proved here: plain facts and contracts that the claimed theorem stands on, several texts in one: what put leaves: the process with one word more that stands for the term put, or an error and the process as it was (perhaps tidied). No condition but that the process lies in memory. a word is appended to a process' mail, wherever its row begins. No condition but that the row lies in memory. what Deliver does. No condition but that the process lies in memory. what Deliver leaves: the process with one message more, or an error and the process as it was (perhaps tidied). No condition but that the process lies in memory. New walked: a process is made, or an error is told. No condition. what New leaves: a process with that state and no message, or an error. No condition but that the state lies in memory. -/
import Derived.Test.YtbmjfnicfpdjfaaG26
import Derived.Test.YtbmjfnicfpdjfaaG18
namespace Go.Proofs.Ytbmjfnicfpdjfaa
open Go.RowKit

/-- What a process has when one term more was laid. -/
theorem PHas.lay {N : Nat} {ws : List Wd} {nm : List ByteArray} {room : Int} {us : List Wd} {ts : List (Tm N)} (h : PHas N ws nm room us ts) (x : Tm N) (hc : chk N x = 0 ∧ closedT N x = true ∧ sz N x ≤ room - ws.length) (hnd : (layF N x ws nm).2.2.Nodup) :
    PHas N (layF N x ws nm).2.1 (layF N x ws nm).2.2 room (us ++ [(layF N x ws nm).1]) (ts ++ [x]) := by
  obtain ⟨k1, k2, k3, k4, k5, k6, k7, k8⟩ := h
  have hr := chk_right hc.1
  obtain ⟨p1, p2⟩ := layF_pre N x ws nm
  have hst := layF_stands N x ws nm hr
  have hpl := lay_plc N x ws nm hr
  have hsz := (layF_sizes N x ws nm).1
  have hold : ∀ u ∈ us, plc (layF N x ws nm).2.1 N u = plc ws N u ∧ ∀ p ∈ plc ws N u, p < ws.length := fun u hu => by
    obtain ⟨y, _, hs⟩ := k1.mem hu
    exact ⟨plc_mono p1 N y u hs, plc_lt N y u hs⟩
  refine ⟨⟨by simp [k1.1], fun i v y hv hy => ?_⟩, ?_, fun y hy => ?_, ?_, by omega, k6, k7, hnd⟩
  · rcases Nat.lt_or_ge i us.length with hi | hi
    · rw [List.getElem?_append_left hi] at hv
      rw [List.getElem?_append_left (by rw [← k1.1]; exact hi)] at hy
      exact (k1.2 i v y hv hy).mono p1 p2
    · rw [List.getElem?_append_right hi] at hv
      rw [List.getElem?_append_right (by rw [← k1.1]; exact hi)] at hy
      have e : i - us.length = 0 := by
        have := (List.getElem?_eq_some_iff.1 hv).1
        simp at this
        omega
      rw [← k1.1] at hy
      rw [e] at hv hy
      simp only [List.getElem?_cons_zero, Option.some.injEq] at hv hy
      rw [← hv, ← hy]
      exact hst
  · rw [List.flatMap_append, flat_congr (fun u hu => (hold u hu).1)]
    simp only [List.flatMap_cons, List.flatMap_nil, List.append_nil]
    refine List.nodup_append.2 ⟨k2, hpl.1, fun a ha b hb => ?_⟩
    obtain ⟨u, hu, hau⟩ := List.mem_flatMap.1 ha
    have h1 := (hold u hu).2 a hau
    have h2 := hpl.2 b hb
    omega
  · rcases List.mem_append.1 hy with hy | hy
    · exact k3 y hy
    · rw [List.mem_singleton.1 hy]
      exact ⟨hc.1, hc.2.1⟩
  · simp only [List.map_append, List.sum_append, List.map_cons, List.map_nil, List.sum_cons, List.sum_nil]
    omega
/-- What put answers. -/
def putP (N : Nat) (x : Tm N) (room : Int) (ts : List (Tm N)) : Int := if chk N x ≠ 0 then chk N x else if closedT N x = false then 5 else if (ts.map (sz N)).sum + sz N x ≤ room then 0 else 6
theorem putP_first {N : Nat} {x : Tm N} {room : Int} {ws : List Wd} {ts : List (Tm N)} (h : putE N x room ws ≠ 6) (hs : (ts.map (sz N)).sum ≤ (ws.length : Int)) : putP N x room ts = putE N x room ws := by
  unfold putP putE at *
  by_cases h1 : chk N x ≠ 0
  · simp [h1]
  · by_cases h2 : closedT N x = false
    · simp [h1, h2]
    · rw [if_neg h1, if_neg h2] at h
      rw [if_neg h1, if_neg h1, if_neg h2, if_neg h2]
      by_cases h3 : sz N x ≤ room - ws.length
      · rw [if_pos (by omega)]
        simp [h3]
      · simp [h3] at h
theorem putP_again {N : Nat} {x : Tm N} {room : Int} {ws : List Wd} {ts : List (Tm N)} (hs : (ws.length : Int) = (ts.map (sz N)).sum) : putP N x room ts = putE N x room ws := by
  unfold putP putE
  have e : ((ts.map (sz N)).sum + sz N x ≤ room) = (sz N x ≤ room - ws.length) := by rw [hs]; exact propext ⟨fun h => by omega, fun h => by omega⟩
  by_cases h3 : sz N x ≤ room - ws.length
  · simp [h3, e]
  · simp [h3, e]
section
variable {base pb : Nat} {name : ByteArray} {room : Int} {N : Nat} {s : Tm (N + 1)} {ms : List (Tm (N + 1))} {xs : List (Wd × Tm (N + 1))} {nk : Nat} {M : Nat → Prop} {w : World} {ws : List Wd} {nm : List ByteArray} {sv : Wd} {vs : List Wd} {ma : Option Addr} {mc : Nat} {Mh : Nat → Prop}
/-- A process stays while what is written lies elsewhere. -/
theorem PrAt.kept (h : PrAt base pb name room (N + 1) s ms xs nk M w ws nm sv vs ma mc Mh) {S : Nat → Prop} {w1 : World} (k : Keep S w w1) (hd : ∀ b, M b → b < w.heap.size → ¬ S b) : PrAt base pb name room (N + 1) s ms xs nk M w1 ws nm sv vs ma mc Mh := by
  refine ⟨h.heap.kept k fun b hb hl => hd b (h.inM b hb) hl, ?_, h.has, h.len, h.names, h.inM, h.mailM⟩
  rcases h.mail with e | ⟨g, mo, cur, e1, e2, e3, e4⟩
  · exact Or.inl e
  · have hl := (Array.getElem?_eq_some_iff.1 e3).1
    exact Or.inr ⟨g, mo, cur, e1, e2, (k.block g hl (hd g (h.mailM _ e1) hl)).trans e3, e4⟩
theorem PrAt.mono (h : PrAt base pb name room (N + 1) s ms xs nk M w ws nm sv vs ma mc Mh) {M' : Nat → Prop} {nk' : Nat} (hM : ∀ b, M b → M' b) (hn : nk ≤ nk') : PrAt base pb name room (N + 1) s ms xs nk' M' w ws nm sv vs ma mc Mh :=
  ⟨h.heap, h.mail, h.has, h.len, Nat.le_trans h.names hn, fun b hb => hM b (h.inM b hb), fun a ha => hM _ (h.mailM a ha)⟩
theorem PrAt.inside (h : PrAt base pb name room (N + 1) s ms xs nk M w ws nm sv vs ma mc Mh) : PrAt base pb name room (N + 1) s ms xs nk (fun b => M b ∧ b < w.heap.size) w ws nm sv vs ma mc (fun b => Mh b ∧ b < w.heap.size) := by
  refine ⟨h.heap.inside, ?_, h.has, h.len, h.names, fun b hb => ⟨h.inM b hb.1, hb.2⟩, fun a ha => ⟨h.mailM a ha, ?_⟩⟩
  · rcases h.mail with e | ⟨g, mo, cur, e1, e2, e3, e4⟩
    · exact Or.inl e
    · exact Or.inr ⟨g, mo, cur, e1, fun q => e2 q.1, e3, e4⟩
  · rcases h.mail with ⟨e, _⟩ | ⟨g, mo, cur, e1, e2, e3, e4⟩
    · rw [e] at ha
      cases ha
    · rw [e1] at ha
      injection ha with ha
      rw [← ha]
      exact (Array.getElem?_eq_some_iff.1 e3).1
/-- One Put. -/
def PutF (N : Nat) (x : Tm N) (base : Nat) (hp : HLoc) (room : Int) (ws : List Wd) (nm : List ByteArray) (M : Nat → Prop) (v : Wd) (e1 : Int) (w w' : World) : Prop :=
  e1 = putE N x room ws ∧ (e1 ≠ 0 → v = (0, 0) ∧ Below w.heap.size w w') ∧ (e1 = 0 → (chk N x = 0 ∧ closedT N x = true ∧ sz N x ≤ room - ws.length) ∧ v = (layF N x ws nm).1 ∧ Laid base hp room (layF N x ws nm).2.1 (layF N x ws nm).2.2 M w w')
theorem putF_of {N : Nat} {x : Tm N} {hp : HLoc} {e : Ending} {w w' : World} (h : PutOut N x base hp room ws nm M w e w') : ∃ (v : Wd) (e1 : Int), e = .returned (.tuple #[.agg #[.int .i64 v.1, .int .i64 v.2], .int .i64 e1]) ∧ PutF N x base hp room ws nm M v e1 w w' := by
  by_cases h0 : putE N x room ws = 0
  · obtain ⟨k1, k2, k3⟩ := h.2 h0
    exact ⟨_, 0, k2, h0.symm, fun q => absurd rfl q, fun _ => ⟨k1, rfl, k3⟩⟩
  · obtain ⟨k1, k2⟩ := h.1 h0
    exact ⟨(0, 0), _, k1, rfl, fun _ => ⟨rfl, k2⟩, fun q => absurd q h0⟩
theorem HpAt.nodup {hp : HLoc} (h : HpAt base hp room ws nm M w) : nm.Nodup := by
  obtain ⟨_, _, _, _, _, h3, _⟩ := h
  exact h3.2.1
theorem PrAt.put1 (h : PrAt base pb name room (N + 1) s ms [] nk M w ws nm sv vs ma mc Mh) {x : Tm (N + 1)} {v : Wd} {e1 : Int} {w' : World} (hf : PutF (N + 1) x base (PL pb name sv (.slice ma vs.length mc)) room ws nm Mh v e1 w w') :
    ∃ ws' nm' Mh', PrAt base pb name room (N + 1) s ms (if e1 = 0 then [(v, x)] else []) (nk + 201) (fun b => M b ∨ w.heap.size ≤ b) w' ws' nm' sv vs ma mc Mh' ∧ Keep M w w' := by
  obtain ⟨f1, f2, f3⟩ := hf
  by_cases h0 : e1 = 0
  · obtain ⟨c, rfl, l1, l2⟩ := f3 h0
    rw [if_pos h0]
    have hnm := (layF_sizes (N + 1) x ws nm).2
    have hnl := chk_nlen c.1
    have hn := h.names
    refine ⟨_, _, fun b => Mh b ∨ w.heap.size ≤ b, ⟨l1, ?_, ?_, h.len, by omega, ?_, fun a ha => Or.inl (h.mailM a ha)⟩, l2.mono h.inM⟩
    · rcases h.mail with e | ⟨g, mo, cur, e1, e2, e3, e4⟩
      · exact Or.inl e
      · have hl := (Array.getElem?_eq_some_iff.1 e3).1
        refine Or.inr ⟨g, mo, cur, e1, fun q => ?_, (l2.block g hl e2).trans e3, e4⟩
        rcases q with q | q
        · exact e2 q
        · omega
    · have := h.has
      simp only [List.map_nil, List.append_nil] at this
      exact this.lay x c l1.nodup
    · intro b hb
      rcases hb with q | q
      · exact Or.inl (h.inM b q)
      · exact Or.inr q
  · obtain ⟨_, hb⟩ := f2 h0
    rw [if_neg h0]
    exact ⟨ws, nm, Mh, (h.later hb).mono (fun b q => Or.inl q) (by omega), keep_below hb M⟩
/-- What put leaves. -/
def PutL (base pb : Nat) (name : ByteArray) (room : Int) (N : Nat) (s : Tm N) (ms : List (Tm N)) (x : Tm N) (nk : Nat) (M : Nat → Prop) (w : World) (e : Ending) (w' : World) : Prop :=
  ∃ v : Wd, e = .returned (.tuple #[.agg #[.int .i64 v.1, .int .i64 v.2], .int .i64 (putP N x room (s :: ms))]) ∧ Hid (∃ ws' nm' sv' vs' ma' mc' Mh', PrAt base pb name room N s ms (if putP N x room (s :: ms) = 0 then [(v, x)] else []) (nk + 201) (fun b => M b ∨ w.heap.size ≤ b) w' ws' nm' sv' vs' ma' mc' Mh' ∧ Keep M w w')
theorem PrAt.put (h : PrAt base pb name room (N + 1) s ms [] nk M w ws nm sv vs ma mc Mh) (x : Tm (N + 1)) (hx : In w.heap.size w (N + 1) x) (ho : Off (fun b => ¬ M b) (N + 1) x) (hN : (nodes (N + 1) x).length ≤ 2097152) (hM : ∀ b, M b → b < w.heap.size) (hnk : nk ≤ 49000) (h20 : ms.length ≤ 999) (hbw : base ≤ w.heap.size) :
    Calls Try.prog 23 #[.pointer (some ⟨pb, 0, none⟩), val (N + 1) x] w (PutL base pb name room (N + 1) s ms x nk M w) := by
  have hlen := h.len
  have hnn := h.names
  have hfr := h.front
  obtain ⟨_, _, _, k4, k5, k6, k7, _⟩ := hfr
  have hoB := In.offB ho hx
  have hput : ∀ {w5 : World} {ws5 : List Wd} {sv5 : Wd} {vs5 : List Wd} {ma5 : Option Addr} {mc5 : Nat} {Mh5 M5 : Nat → Prop}, PrAt base pb name room (N + 1) s ms [] nk M5 w5 ws5 nm sv5 vs5 ma5 mc5 Mh5 → Keep M w w5 → (∀ b, M5 b → M b ∨ w.heap.size ≤ b) →
      Calls Try.prog 21 #[.pointer (some ⟨pb, 1, none⟩), val (N + 1) x] w5 fun e w1 => ∃ (v : Wd) (e1 : Int), e = .returned (.tuple #[.agg #[.int .i64 v.1, .int .i64 v.2], .int .i64 e1]) ∧ PutF (N + 1) x base (PL pb name sv5 (.slice ma5 vs5.length mc5)) room ws5 nm Mh5 v e1 w5 w1 := by
    intro w5 ws5 sv5 vs5 ma5 mc5 Mh5 M5 h5 k5' hM5
    have hsz := k5'.size
    obtain ⟨_, _, _, _, q5, q6, q7, _⟩ := h5.front
    have hx5 : In w5.heap.size w5 (N + 1) x := (In.off (fun b (hb : ¬ M b ∧ b < w.heap.size) => k5'.block b hb.2 hb.1) hoB hx).mono hsz
    have ho5 : Off (fun b => ¬ Mh5 b) (N + 1) x := hoB.mono fun b hb q => by
      rcases hM5 b (h5.inM b q) with z | z
      · exact hb.1 z
      · have := hb.2
        omega
    exact (hput_any (N + 1) x base (PL pb name sv5 (.slice ma5 vs5.length mc5)) room ws5 nm Mh5 w5 h5.heap hx5 ho5 hN (by omega) k6 k7 (by omega) (by omega)).mono fun e w1 q => putF_of q
  have up_of : ∀ {n : Nat} {S : Nat → Prop} {w0 w1 : World}, Keep S w0 w1 → (∀ b, n ≤ b → b < n + 3 → b < w0.heap.size → ¬ S b) → Up n w0 w1 := fun k hS => ⟨k.size, fun b h1 h2 h3 => k.block b h3 (hS b h1 h2 h3)⟩
  have hfk : ∀ {v : Wd} {e1 : Int} {w0 w1 : World} {ws5 : List Wd} {sv5 : Wd} {vs5 : List Wd} {ma5 : Option Addr} {mc5 : Nat} {Mh5 : Nat → Prop}, PutF (N + 1) x base (PL pb name sv5 (.slice ma5 vs5.length mc5)) room ws5 nm Mh5 v e1 w0 w1 → Keep Mh5 w0 w1 := fun {v e1 w0 w1 ws5 sv5 vs5 ma5 mc5 Mh5} q => by
    by_cases h0 : e1 = 0
    · exact (q.2.2 h0).2.2.2
    · exact keep_below (q.2.1 h0).2 _
  refine (put_walk pb x.1.1 x.1.2.1 x.1.2.2 x.2.1.1 x.2.2.length x.2.1.2 w (fun v e1 w0 w1 => PutF (N + 1) x base (PL pb name sv (.slice ma vs.length mc)) room ws nm Mh v e1 w0 w1)
    (fun w2 w3 => Keep M w w3 ∧ w2.heap.size ≤ w3.heap.size ∧ ∃ ws' sv' vs' ma' Mh', PrAt base pb name room (N + 1) s ms [] nk (fun b => M b ∨ w2.heap.size ≤ b) w3 ws' nm sv' vs' ma' vs'.length Mh' ∧ (ws'.length : Int) = ((s :: ms).map (sz (N + 1))).sum)
    (fun v e1 w5 w4 => Keep M w w5 ∧ w.heap.size + 3 ≤ w5.heap.size ∧ ∃ ws' sv' vs' ma' Mh', PrAt base pb name room (N + 1) s ms [] nk (fun b => M b ∨ w.heap.size + 3 ≤ b) w5 ws' nm sv' vs' ma' vs'.length Mh' ∧ (ws'.length : Int) = ((s :: ms).map (sz (N + 1))).sum ∧ PutF (N + 1) x base (PL pb name sv' (.slice ma' vs'.length vs'.length)) room ws' nm Mh' v e1 w5 w4) ?_ ?_ ?_).mono ?_
  · intro w0 hb
    refine (hput (h.later hb) (keep_below hb M) fun b q => Or.inl q).mono ?_
    rintro e w1 ⟨v, e1, rfl, hf⟩
    refine ⟨v, e1, rfl, up_of (hfk hf) fun b h1 _ _ q => ?_, hf⟩
    have := hM b (h.inM b q)
    omega
  · intro v1 w0 w1 w2 hb hf hk hz
    have hb1 := (hf.2.1 (by decide)).2
    have hs := hb.size
    have h2 := ((h.later hb).later hb1).kept hk fun b q _ z => by
      have := hM b q
      omega
    have hkw : Keep M w w2 := Keep.trans ((keep_below hb M).trans (keep_below hb1 M) fun _ _ q => q) hk fun b hbb q => by omega
    refine (h2.tidy (by omega) h20 (by omega)).mono ?_
    rintro e w3 ⟨rfl, ws', sv', vs', ma', Mh', h3, hk3, hl3⟩
    refine ⟨rfl, up_of hk3 fun b h1 _ _ q => ?_, hkw.trans hk3 fun _ _ q => q, hk3.size, ws', sv', vs', ma', Mh', h3, hl3⟩
    have := hM b q
    omega
  · rintro w2 w3 w5 ⟨hk3, hz3, ws', sv', vs', ma', Mh', h3, hl3⟩ hz hb
    have h5 := (h3.later hb).mono (M' := fun b => M b ∨ w.heap.size + 3 ≤ b) (nk' := nk) (fun b q => by
      rcases q with q | q
      · exact Or.inl q
      · exact Or.inr (by omega)) (Nat.le_refl _)
    have hk5 : Keep M w w5 := hk3.trans (keep_below hb M) fun _ _ q => q
    refine (hput h5 hk5 fun b q => by
      rcases q with q | q
      · exact Or.inl q
      · exact Or.inr (by omega)).mono ?_
    rintro e w4 ⟨v, e1, rfl, hf⟩
    refine ⟨v, e1, rfl, up_of (hfk hf) fun b h1 h2 _ q => ?_, hk5, by have := hb.size; omega, ws', sv', vs', ma', Mh', h5, hl3, hf⟩
    rcases h5.inM b q with z | z
    · have := hM b z
      omega
    · omega
  · rintro e w' ⟨v, e1, rfl, ⟨h6, w0, w1, hb, hf, hk⟩ | ⟨v1, w0, w1, w2, w3, w5, w4, _, _, _, _, _, _, ⟨hk5, hz5, ws', sv', vs', ma', Mh', h5, hl5, hf⟩, hk⟩⟩
    · have hs := hb.size
      have he : e1 = putP (N + 1) x room (s :: ms) := by
        rw [putP_first (ws := ws) (by rw [← hf.1]; exact h6) k4]
        exact hf.1
      obtain ⟨ws', nm', Mh', h1, hk1⟩ := (h.later hb).put1 hf
      refine ⟨v, by rw [← he], ws', nm', sv, vs, ma, mc, Mh', ?_, ?_⟩
      · rw [← he]
        refine (h1.kept hk fun b q _ z => ?_).mono (fun b q => ?_) (Nat.le_refl _)
        · rcases q with q | q
          · have := hM b q
            omega
          · omega
        · rcases q with q | q
          · exact Or.inl q
          · exact Or.inr (by omega)
      · exact Keep.trans ((keep_below hb M).trans hk1 fun _ _ q => q) hk fun b hbb q => by omega
    · have hs := hk5.size
      have he : e1 = putP (N + 1) x room (s :: ms) := by
        rw [putP_again hl5]
        exact hf.1
      obtain ⟨ws6, nm6, Mh6, h1, hk1⟩ := h5.put1 hf
      refine ⟨v, by rw [← he], ws6, nm6, sv', vs', ma', vs'.length, Mh6, ?_, ?_⟩
      · rw [← he]
        refine (h1.kept hk fun b q _ z => ?_).mono (fun b q => ?_) (Nat.le_refl _)
        · subst z
          rcases q with (q | q) | q
          · have := hM _ q
            omega
          · omega
          · omega
        · rcases q with (q | q) | q
          · exact Or.inl q
          · exact Or.inr (by omega)
          · exact Or.inr (by omega)
      · refine Keep.trans (hk5.trans hk1 fun b hbb q => ?_) hk fun b hbb q => by omega
        rcases q with q | q
        · exact q
        · omega
end
end Go.Proofs.Ytbmjfnicfpdjfaa
namespace Go.Proofs.Ytbmjfnicfpdjfaa
open Go.RowKit

theorem wCells_snoc (vs : List Wd) (v : Wd) : wCells (vs ++ [v]) = wCells vs ++ wd2 v := by simp [wCells]
theorem run_append_off {P : Program} (w : World) (t ty e : TypeId) (i : TypeInfo) (ht : P.underlying t = some (.slice e)) (hi : P.info? e = some i)
    (g mo sLen sCap : Nat) (cur : Array Value) (hg : w.heap[g]? = some (.cells cur e (0, 0)))
    (a : Addr) (m c : Nat) (news : List Value) (hl : news.length = m * i.size) (hnews : ∀ j u, news[j]? = some u → w.cell? (a.add j) = some u) (h1 : ∀ u ∈ news, u.oneCell' = true)
    (hroom : sLen + m ≤ sCap) (hfit : mo + sLen * i.size + news.length ≤ cur.size) :
    (Builtin.append_ #[t, t] ty #[.slice (some ⟨g, mo, none⟩) sLen sCap, .slice (some a) m c]).run P w =
      .ok (.slice (some ⟨g, mo, none⟩) (sLen + m) sCap) (w.setRow g (cur.toList.take (mo + sLen * i.size) ++ news ++ cur.toList.drop (mo + sLen * i.size + news.length)).toArray) := by
  have hf := run_firstCells_some (P := P) w i.size m a m c news hl hnews
  have hst := run_storeCells_at P g (mo + sLen * i.size) e news 0 cur w hg (by simpa using hfit) h1
  simp only [Nat.add_zero] at hst
  simp [Builtin.append_, run_underlying ht, sizeOf, typeInfo, hi, Builtin.lenOf, hroom, hf, Addr.add_lit, hst]
/-- What an append of a word to the mail leaves. -/
def MailMore (Mh : Nat → Prop) (ma : Option Addr) (vs : List Wd) (w : World) (ma' : Option Addr) (mc' : Nat) (w' : World) : Prop :=
  MailAt Mh ma' vs mc' w' ∧ Keep (fun b => ∃ a, ma = some a ∧ b = a.block) w w' ∧ ∀ a, ma' = some a → (∃ a0, ma = some a0 ∧ a.block = a0.block) ∨ a.block = w.heap.size
theorem row_keep {S : Nat → Prop} (w : World) (g : Nat) (cs : Array Value) (h : ∀ b, b = g → S b) : Keep S w (w.setRow g cs) := ⟨rfl, rfl, rfl, by simp, fun _ _ hb => setRow_other _ _ _ _ fun e => hb (h _ e)⟩
theorem mail_fresh {Mh : Nat → Prop} {ma : Option Addr} {w : World} (us : List Wd) (C old : Nat) (z : Value) (hz : z.cells.size = 2) (hold : old = us.length) (hC : us.length ≤ C) (hC2 : C ≤ maxLen) (hMh : ∀ b, Mh b → b < w.heap.size) :
    MailMore Mh ma us w (some ⟨w.heap.size, 0, none⟩) C (w.drew.alloc (.cells ((wCells us).toArray ++ Builtin.zeroCells z.cells (C - old)) 60)) := by
  have hb : ∀ b, b < w.heap.size → (w.drew.alloc (.cells ((wCells us).toArray ++ Builtin.zeroCells z.cells (C - old)) 60)).heap[b]? = w.heap[b]? := fun b hb => Below.heap_alloc w.drew _ b hb
  have hn : (w.drew.alloc (.cells ((wCells us).toArray ++ Builtin.zeroCells z.cells (C - old)) 60)).heap[w.heap.size]? = some (.cells ((wCells us).toArray ++ Builtin.zeroCells z.cells (C - old)) 60) := heap_alloc_new w.drew _
  refine ⟨Or.inr ⟨w.heap.size, 0, _, rfl, fun q => ?_, hn, hC, hC2, ?_, ?_⟩, ⟨rfl, rfl, rfl, ?_, fun b hl _ => hb b hl⟩, fun a ha => Or.inr (congrArg Addr.block (Option.some.inj ha).symm)⟩
  · have := hMh _ q
    omega
  · rw [Array.size_append, size_zeroCells, hz, List.size_toArray, wCells_length]
    omega
  · rw [List.drop_zero, Array.toList_append, List.take_append_of_le_length (by rw [List.toList_toArray, wCells_length]; omega), List.toList_toArray, List.take_of_length_le (by rw [wCells_length]; omega)]
  · have := World.size_alloc w.drew (.cells ((wCells us).toArray ++ Builtin.zeroCells z.cells (C - old)) 60)
    have e : w.drew.heap.size = w.heap.size := rfl
    omega
theorem run_append_mail {Mh : Nat → Prop} {ma : Option Addr} {vs : List Wd} {mc : Nat} {w : World} (ty : TypeId) (h : MailAt Mh ma vs mc w) (hl : vs.length ≤ 1000) (hMh : ∀ b, Mh b → b < w.heap.size) (sa : Addr) (c : Nat) (v : Wd) (hs : ∀ j u, (wd2 v)[j]? = some u → w.cell? (sa.add j) = some u) :
    ∃ ma' mc' w', (Builtin.append_ #[64, 64] ty #[.slice ma vs.length mc, .slice (some sa) 1 c]).run Try.prog w = .ok (.slice ma' (vs.length + 1) mc') w' ∧ MailMore Mh ma (vs ++ [v]) w ma' mc' w' := by
  obtain ⟨it, hit, htz0, htz1, htz2⟩ := info_parts infoWord
  have hone : ∀ u ∈ wd2 v, u.oneCell' = true := by simp [wd2, Value.oneCell']
  have hl2 : (wd2 v).length = 2 := rfl
  rcases h with ⟨rfl, rfl, rfl⟩ | ⟨g, mo, cur, rfl, e2, e3, e4, e5, e6, e7⟩
  · have hrun := run_append_nil (P := Try.prog) w 64 ty 60 it _ Try.underlying64 hit htz0 sa 1 c (wd2 v) (by rw [hl2, htz1]) hs (by omega) (by omega) (by rw [htz2]; omega)
    refine ⟨_, _, _, hrun, ?_⟩
    have h := mail_fresh (Mh := Mh) (ma := none) (w := w) [v] (grownCap w 1 0 60) 1 (.agg #[.int .i64 0, .int .i64 0]) rfl rfl (grownCap_ge w 1 0 _) (grownCap_le_maxLen w 1 0 _ (by unfold maxLen; omega)) hMh
    simpa [wCells] using h
  · have hlt := (Array.getElem?_eq_some_iff.1 e3).1
    by_cases hr : vs.length + 1 ≤ mc
    · have hfit : mo + vs.length * it.size + (wd2 v).length ≤ cur.size := by rw [hl2, htz1]; omega
      have hrun := run_append_off (P := Try.prog) w 64 ty 60 it Try.underlying64 hit g mo vs.length mc cur e3 sa 1 c (wd2 v) (by rw [hl2, htz1]) hs hone hr hfit
      refine ⟨_, _, _, hrun, Or.inr ⟨g, mo, _, rfl, e2, setRow_heap w g cur _ _ _ e3, ?_, e5, ?_, ?_⟩, ?_, fun a ha => Or.inl ⟨_, rfl, ?_⟩⟩
      · simp only [List.length_append, List.length_cons, List.length_nil]
        omega
      · have hcl : cur.toList.length = cur.size := Array.length_toList
        rw [htz1] at hfit ⊢
        simp only [List.size_toArray, List.length_append, List.length_take, List.length_drop, hcl]
        omega
      · rw [htz1]
        have ht : (cur.toList.take (mo + vs.length * 2)).length = mo + vs.length * 2 := by
          have hcl : cur.toList.length = cur.size := Array.length_toList
          rw [List.length_take, hcl]
          omega
        have hd : (cur.toList.take (mo + vs.length * 2)).drop mo = wCells vs := by
          rw [List.drop_take, Nat.add_sub_cancel_left]
          exact e7
        rw [wCells_snoc, List.append_assoc, List.drop_append_of_le_length (by omega), hd]
        have e : (vs ++ [v]).length * 2 = (wCells vs).length + 2 := by
          rw [wCells_length]
          simp only [List.length_append, List.length_cons, List.length_nil]
          omega
        rw [e, List.take_length_add_append, List.take_append_of_le_length (by rw [hl2]; omega), List.take_of_length_le (by rw [hl2]; omega)]
      · exact row_keep w g _ fun b e => ⟨_, rfl, e⟩
      · exact congrArg Addr.block (Option.some.inj ha).symm
    · have hrun := run_append_grow (P := Try.prog) w 64 ty 60 it _ Try.underlying64 hit htz0 ⟨g, mo, none⟩ vs.length mc (wCells vs) (by rw [wCells_length, htz1]) (fun j u hj => by
        have hm : MailAt Mh (some ⟨g, mo, none⟩) vs mc w := Or.inr ⟨g, mo, cur, rfl, e2, e3, e4, e5, e6, e7⟩
        rcases hm.words with e | ⟨ad, e, hc⟩
        · subst e
          simp [wCells] at hj
        · have e' := Option.some.inj e
          rw [e']
          exact hc j u hj) sa 1 c (wd2 v) (by rw [hl2, htz1]) hs (by omega) (by omega) (growslice_fits (by omega) (by rw [htz2]; omega))
      refine ⟨_, _, _, hrun, ?_⟩
      have h := mail_fresh (Mh := Mh) (ma := some ⟨g, mo, none⟩) (w := w) (vs ++ [v]) (grownCap w (vs.length + 1) mc 60) (vs.length + 1) (.agg #[.int .i64 0, .int .i64 0]) rfl (by simp) (by have := grownCap_ge w (vs.length + 1) mc 60; simpa using this) (grownCap_le_maxLen w _ _ _ (by unfold maxLen; omega)) hMh
      simpa [wCells_snoc] using h
end Go.Proofs.Ytbmjfnicfpdjfaa
namespace Go.Proofs.Ytbmjfnicfpdjfaa
open Go.RowKit

theorem wp_append_run {w w' : World} {v x' v' : Value} {o : Oper} {a : Act} {K : Act → World → Prop} {Q : Exit → Act → World → Prop} (s x : Operand) (ho : o.op = .call { callee := .builtin .append, args := #[s, x], argTypes := #[64, 64] })
    (hs : a.eval s = v) (hx : a.eval x = x') (hr : (Builtin.append_ #[64, 64] o.type #[v, x']).run Try.prog w = .ok v' w') (hK : K (a.put o.dst v') w') : Oper.wp Try.prog o a w K Q := by
  unfold Oper.wp execOp
  simp only [ho, resolve, invoke, builtin, Sem.run_bind, Sem.run_pure, Result.andThen_ok, List.map_toArray, List.map_cons, List.map_nil, hs, hx, hr]
  exact hK
set_option maxHeartbeats 2000000 in
theorem deliver_walk (pb : Nat) (k i : Int) (t : ByteArray) (ta : Option Addr) (tl tc : Nat) (L mc : Nat) (ma : Option Addr) (w : World) (F : Wd → Int → World → World → Prop) (G : Wd → World → World → Option Addr → Nat → World → Prop) (hpw : pb < w.heap.size)
    (HC : Hid (∀ w1, Below w.heap.size w w1 → w1.cell? ⟨pb, 7, none⟩ = some (.slice ma L mc)))
    (HP : Hid (∀ w0, Below w.heap.size w w0 → Calls Try.prog 23 #[.pointer (some ⟨pb, 0, none⟩), .agg #[.int .i64 k, .int .i64 i, .string t, .slice ta tl tc]] w0 fun e w1 => ∃ (v : Wd) (e1 : Int), e = .returned (.tuple #[.agg #[.int .i64 v.1, .int .i64 v.2], .int .i64 e1]) ∧ Hid (Up w.heap.size w0 w1 ∧ F v e1 w0 w1)))
    (HQ : Hid (∀ v w0 w1, F v 0 w0 w1 → ∃ ma' mc', Hid (∀ w2, Below w1.heap.size w1 w2 → w2.cell? ⟨pb, 7, none⟩ = some (.slice ma' L mc') ∧ ∀ j, w2.frozen? ⟨pb, j, none⟩ = false) ∧ Hid (∀ w2, Below w1.heap.size w1 w2 → ∀ (sa : Addr) (c : Nat), (∀ j u, (wd2 v)[j]? = some u → w2.cell? (sa.add j) = some u) →
      ∃ ma3 mc3 w3, (Builtin.append_ #[64, 64] 64 #[.slice ma' L mc', .slice (some sa) 1 c]).run Try.prog w2 = .ok (.slice ma3 (L + 1) mc3) w3 ∧ w3.cell? ⟨pb, 7, none⟩ = some (.slice ma' L mc') ∧ (∀ j, w3.frozen? ⟨pb, j, none⟩ = false) ∧ (∀ b, w1.heap.size ≤ b → b < w2.heap.size → w3.heap[b]? = w2.heap[b]?) ∧ G v w0 w2 ma3 mc3 w3))) :
    Calls Try.prog 5 #[.pointer (some ⟨pb, 0, none⟩), .agg #[.int .i64 k, .int .i64 i, .string t, .slice ta tl tc]] w fun e w' =>
      (20 ≤ L → e = .returned (.int .i64 2) ∧ Below w.heap.size w w') ∧ (L < 20 → ∃ (v : Wd) (e1 : Int) (w0 w1 : World), e = .returned (.int .i64 e1) ∧ Below w.heap.size w w0 ∧ F v e1 w0 w1 ∧ (e1 ≠ 0 → Below w1.heap.size w1 w') ∧ (e1 = 0 → ∃ w2 ma3 mc3 w3, Below w1.heap.size w1 w2 ∧ G v w0 w2 ma3 mc3 w3 ∧ w' = (w3.setCell ⟨pb, 7, none⟩ (.slice ma3 (L + 1) mc3)))) := by
  have HN := hide (new_last0 w (.cells #[.int .i64 k, .int .i64 i, .string t, .slice ta tl tc] 25) rfl)
  have HNB : Hid (Below w.heap.size w (w.alloc (.cells #[.int .i64 k, .int .i64 i, .string t, .slice ta tl tc] 25)) ∧ (w.alloc (.cells #[.int .i64 k, .int .i64 i, .string t, .slice ta tl tc] 25)).heap.size = w.heap.size + 1) := ⟨by go_grown, by simp⟩
  go_enter Try.func5, Try.ntmps5
  have c7 := HC.out w (Below.refl _ _)
  rcases Nat.lt_or_ge L 20 with hL | hL
  · have hL' : ¬ (20 : Int) ≤ (L : Int) := by omega
    have HPP := hide (HP.out _ HNB.out.1)
    go_wp2_with fail
    refine HPP.out.mono ?_
    rintro e w1 ⟨v, e1, rfl, H1⟩
    have HW0 : Hid (∃ w0, Below w.heap.size w w0 ∧ F v e1 w0 w1) := ⟨_, HNB.out.1, H1.out.2⟩
    obtain ⟨w0, HB0⟩ := HW0.out
    replace HB0 := hide HB0
    clear HW0 H1 HPP HN HNB c7
    by_cases h0 : e1 = 0
    rotate_left
    · have h0' : ¬ (0 : Int) = e1 := fun e => h0 e.symm
      go_wp2_with fail
      exact bodyPost_ret (v := .int .i64 e1) (by simp [results, Try.results5, go_sem]) rfl ⟨fun h => by omega, fun _ => ⟨v, e1, w0, w1, rfl, HB0.out.1, HB0.out.2, fun _ => one_alloc, fun h => absurd h h0⟩⟩
    · subst h0
      obtain ⟨ma', mc', HQ1, HQ2⟩ := HQ.out v w0 w1 HB0.out.2
      have HW2 : Hid (∃ w2 q, (w2 = w1.alloc (.cells #[.int .i64 v.1, .int .i64 v.2] 60) ∧ q = w1.heap.size) ∧ Below w1.heap.size w1 w2 ∧ w2.heap[q]? = some (.cells #[.int .i64 v.1, .int .i64 v.2] 60) ∧ w1.heap.size ≤ q) := ⟨_, _, ⟨rfl, rfl⟩, one_alloc, heap_alloc_new _ _, Nat.le_refl _⟩
      go_wp2_with fail
      obtain ⟨w2, q, ⟨hw2, hq⟩, HS⟩ := HW2.out
      rw [← hw2, ← hq]
      replace HS := hide HS
      clear hw2 hq HW2
      have HK : Hid (∀ w' : World, Below w2.heap.size w2 w' → (w'.cell? ⟨pb, 7, none⟩ = some (.slice ma' L mc') ∧ ∀ j, w'.frozen? ⟨pb, j, none⟩ = false) ∧ w'.cell? ⟨q, 0, none⟩ = some (.int .i64 v.1) ∧ w'.cell? ⟨q, 1, none⟩ = some (.int .i64 v.2)) := fun w' h => by
        have h1 := (h.block q (Array.getElem?_eq_some_iff.1 HS.out.2.1).1).trans HS.out.2.1
        exact ⟨HQ1.out _ (HS.out.1.trans (h.mono HS.out.1.size)), box_cell h1 0, box_cell h1 1⟩
      obtain ⟨⟨c7, cf⟩, s0, s1⟩ := HK.out w2 (Below.refl _ _)
      have HD0 : Hid (Below w2.heap.size w2 w2.drew) := (Below.refl _ _).drew
      have HD1 : Hid (Below w2.heap.size w2 (w2.alloc (.cells #[.int .i64 v.1, .int .i64 v.2] 60)).drew) := (show Below _ _ _ by go_grown)
      have HAP : Hid (∃ ma3 mc3 w3, (Builtin.append_ #[64, 64] 64 #[.slice ma' L mc', .slice (some ⟨w2.heap.size, 0, none⟩) 1 1]).run Try.prog (w2.alloc (.cells #[.int .i64 v.1, .int .i64 v.2] 60)).drew = .ok (.slice ma3 (L + 1) mc3) w3 ∧ w3.cell? ⟨pb, 7, none⟩ = some (.slice ma' L mc') ∧ (∀ j, w3.frozen? ⟨pb, j, none⟩ = false) ∧ (w3.cell? ⟨q, 0, none⟩ = some (.int .i64 v.1) ∧ w3.cell? ⟨q, 1, none⟩ = some (.int .i64 v.2)) ∧ ∃ w4, Below w1.heap.size w1 w4 ∧ G v w0 w4 ma3 mc3 w3) := by
        have hb := HS.out.1.trans (HD1.out.mono HS.out.1.size)
        have hn := new_last w2 (.cells #[.int .i64 v.1, .int .i64 v.2] 60) rfl
        obtain ⟨ma3, mc3, w3, r1, r2, r3, r4, r5⟩ := HQ2.out _ hb ⟨w2.heap.size, 0, none⟩ 1 (fun j u hj => by
          rw [Addr.add_lit, Nat.zero_add]
          refine (box_cell hn j).trans ?_
          rw [← hj, ← List.getElem?_toArray]
          rfl)
        have hql := (Array.getElem?_eq_some_iff.1 HS.out.2.1).1
        have h1 := (r4 q HS.out.2.2 (Nat.lt_of_lt_of_le hql HD1.out.size)).trans ((HD1.out.block q hql).trans HS.out.2.1)
        exact ⟨ma3, mc3, w3, r1, r2, r3, ⟨box_cell h1 0, box_cell h1 1⟩, _, hb, r5⟩
      obtain ⟨ma3, mc3, w3, HR, c73, cf3, hq3, HG⟩ := HAP.out
      replace HR := hide HR
      replace HG := hide HG
      clear HAP
      have hS0 : w2.drew.cell? ⟨pb, 7, none⟩ = some (.slice ma' L mc') ∧ w2.drew.cell? ⟨q, 0, none⟩ = some (.int .i64 v.1) ∧ w2.drew.cell? ⟨q, 1, none⟩ = some (.int .i64 v.2) := ⟨(HK.out _ HD0.out).1.1, (HK.out _ HD0.out).2⟩
      have HS1 : Hid ((w2.alloc (.cells #[.int .i64 v.1, .int .i64 v.2] 60)).drew.cell? ⟨pb, 7, none⟩ = some (.slice ma' L mc') ∧ (w2.alloc (.cells #[.int .i64 v.1, .int .i64 v.2] 60)).drew.cell? ⟨q, 0, none⟩ = some (.int .i64 v.1) ∧ (w2.alloc (.cells #[.int .i64 v.1, .int .i64 v.2] 60)).drew.cell? ⟨q, 1, none⟩ = some (.int .i64 v.2)) := ⟨(HK.out _ HD1.out).1.1, (HK.out _ HD1.out).2⟩
      refine wp_region_noPanic ?_
      refine wp_region_x (fun w' => w'.cell? ⟨pb, 7, none⟩ = some (.slice ma' L mc') ∧ w'.cell? ⟨q, 0, none⟩ = some (.int .i64 v.1) ∧ w'.cell? ⟨q, 1, none⟩ = some (.int .i64 v.2)) 10 (by kernel_rfl) ?_
      try simp only [List.size_toArray]
      refine wpAnyX_take (i := 0) (v := ?_) rfl (by kernel_rfl) (by kernel_rfl) (by kernel_rfl) (by kernel_rfl) (fun _ _ _ h => h) rfl ?_ hS0 ?_
      rotate_left
      · intro w' hw'
        try dsimp only at hw'
        go_simp
        try with_reducible rfl
      try simp only [Act.put, List.setIfInBounds_toArray]
      refine wpAnyX_take (i := 1) (v := ?_) rfl (by kernel_rfl) (by kernel_rfl) (by kernel_rfl) (by kernel_rfl) (fun _ _ _ h => h) rfl ?_ hS0 ?_
      rotate_left
      · intro w' hw'
        try dsimp only at hw'
        go_simp
        try with_reducible rfl
      try simp only [Act.put]
      refine wpAnyX_take (i := 2) (v := ?_) rfl (by kernel_rfl) (by kernel_rfl) (by kernel_rfl) (by kernel_rfl) (fun _ _ _ h => h) rfl ?_ hS0 ?_
      rotate_left
      · intro w' hw'
        try dsimp only at hw'
        go_simp
        try with_reducible rfl
      try simp only [Act.put]
      refine wpAnyX_take (i := 3) (v := ?_) rfl (by kernel_rfl) (by kernel_rfl) (by kernel_rfl) (by kernel_rfl) (fun _ _ _ h => h) rfl ?_ hS0 ?_
      rotate_left
      · intro w' hw'
        try dsimp only at hw'
        go_simp
        try with_reducible rfl
      try simp only [Act.put]
      refine wpAnyX_take (i := 4) (v := ?_) rfl (by kernel_rfl) (by kernel_rfl) (by kernel_rfl) (by kernel_rfl) (fun _ _ _ h => h) rfl ?_ hS0 ?_
      rotate_left
      · intro w' hw'
        try dsimp only at hw'
        go_simp
        try with_reducible rfl
      try simp only [Act.put]
      refine wpAnyX_take (i := 5) (v := ?_) rfl (by kernel_rfl) (by kernel_rfl) (by kernel_rfl) (by kernel_rfl) (fun _ _ _ h => h) rfl ?_ hS0 ?_
      rotate_left
      · intro w' hw'
        try dsimp only at hw'
        go_simp
        try with_reducible rfl
      try simp only [Act.put]
      refine wpAnyX_one (i := 6) (by kernel_rfl) rfl rfl (fun K hK => ?_) (by decide)
      go_simp
      refine hK.out _ _ (fun _ => HS1.out) (fun hS1 => ?_)
      clear hK K
      try simp only [Act.put, List.setIfInBounds_toArray, List.set_cons_zero, List.set_cons_succ]
      refine wpAnyX_one (i := 7) (by kernel_rfl) rfl rfl (fun K hK => ?_) (by decide)
      refine wp_append_run (v := .slice ma' L mc') (x' := .slice (some ⟨w2.heap.size, 0, none⟩) 1 1) _ _ rfl (by simp [Act.eval]) (by simp [Act.eval]) HR.out ?_
      refine hK.out _ _ (fun _ => ⟨c73, hq3⟩) (fun hS3 => ?_)
      clear hK K
      try simp only [Act.put, List.setIfInBounds_toArray]
      refine wpAnyX_one (i := 8) (by kernel_rfl) rfl rfl (fun K hK => ?_) (by decide)
      go_simp
      refine hK.out _ _ (fun _ => hS3) (fun _ => ?_)
      clear hK K
      try simp only [Act.put, List.setIfInBounds_toArray, List.set_cons_zero, List.set_cons_succ]
      refine wpAnyX_take (i := 9) (v := ?_) rfl (by kernel_rfl) (by kernel_rfl) (by kernel_rfl) (by kernel_rfl) (fun _ _ _ h => h) rfl ?_ hS3 ?_
      rotate_left
      · intro w' hw'
        try dsimp only at hw'
        go_simp
        try with_reducible rfl
      try simp only [Act.put, List.setIfInBounds_toArray]
      have cf7 := cf3 7
      refine wpAnyX_last (by kernel_rfl) rfl rfl (by kernel_rfl) (fun K hK => ?_)
      go_simp
      refine hK.out _ _ (NoPanic.normal ?_)
      clear hK K
      try simp only [Act.put, List.setIfInBounds_toArray, List.set_cons_zero, List.set_cons_succ]
      go_wp2_with fail
      obtain ⟨w4, hb4, hg4⟩ := HG.out
      exact bodyPost_ret (v := .int .i64 0) (by simp [results, Try.results5, go_sem]) rfl ⟨fun h => by omega, fun _ => ⟨v, 0, w0, w1, rfl, HB0.out.1, HB0.out.2, fun h => absurd rfl h, fun _ => ⟨w4, ma3, mc3, w3, hb4, hg4, rfl⟩⟩⟩
  · have hL' : (20 : Int) ≤ (L : Int) := by omega
    go_wp2_with fail
    exact bodyPost_ret (v := .int .i64 2) (by simp [results, Try.results5, go_sem]) rfl ⟨fun _ => ⟨rfl, HNB.out.1⟩, fun h => by omega⟩
end Go.Proofs.Ytbmjfnicfpdjfaa
namespace Go.Proofs.Ytbmjfnicfpdjfaa
open Go.RowKit

section
variable {base pb : Nat} {name : ByteArray} {room : Int} {N : Nat} {s : Tm (N + 1)} {ms : List (Tm (N + 1))} {xs : List (Wd × Tm (N + 1))} {nk : Nat} {M : Nat → Prop} {w : World} {ws : List Wd} {nm : List ByteArray} {sv : Wd} {vs : List Wd} {ma : Option Addr} {mc : Nat} {Mh : Nat → Prop}
/-- What Deliver answers. -/
def dlvE (N : Nat) (x : Tm N) (room : Int) (s : Tm N) (ms : List (Tm N)) : Int := if 20 ≤ ms.length then 2 else putP N x room (s :: ms)
theorem PrAt.box0 (h : PrAt base pb name room (N + 1) s ms xs nk M w ws nm sv vs ma mc Mh) : Mh pb ∧ pb < w.heap.size := by
  obtain ⟨tv, lv, mv, h1, _⟩ := h.heap.box
  obtain ⟨_, _, _, _, _, _, q, _⟩ := h.heap
  exact ⟨q, (PL.cells h1).2.2.2.2.2⟩
/-- One message more. -/
theorem PrAt.more {v : Wd} {x : Tm (N + 1)} (h : PrAt base pb name room (N + 1) s ms [(v, x)] nk M w ws nm sv vs ma mc Mh) {ma3 : Option Addr} {mc3 : Nat} {w3 : World} (hm : MailMore Mh ma (vs ++ [v]) w ma3 mc3 w3) :
    PrAt base pb name room (N + 1) s (ms ++ [x]) [] nk (fun b => M b ∨ w.heap.size ≤ b) (w3.setCell ⟨pb, 7, none⟩ (.slice ma3 (vs ++ [v]).length mc3)) ws nm sv (vs ++ [v]) ma3 mc3 Mh ∧ Keep M w (w3.setCell ⟨pb, 7, none⟩ (.slice ma3 (vs ++ [v]).length mc3)) := by
  obtain ⟨m1, m2, m3⟩ := hm
  obtain ⟨hpb, hpl⟩ := h.box0
  have hng : ∀ a, ma = some a → ¬ Mh a.block := fun a ha q => by
    rcases h.mail with ⟨e, _⟩ | ⟨g, mo, cur, e1, e2, _⟩
    · rw [e] at ha
      cases ha
    · rw [e1] at ha
      rw [← Option.some.inj ha] at q
      exact e2 q
  have h3 : HpAt base (PL pb name sv (.slice ma vs.length mc)) room ws nm Mh w3 := h.heap.kept m2 fun b hb _ q => by
    obtain ⟨a, ha, rfl⟩ := q
    exact hng a ha hb
  have k := keep_set w3 pb 7 (.slice ma3 (vs ++ [v]).length mc3)
  refine ⟨⟨h3.turn k fun tv lv mp hc => ?_, ?_, ?_, ?_, h.names, fun b hb => Or.inl (h.inM b hb), fun a ha => ?_⟩, ?_⟩
  · unfold World.setCell
    simp [Array.getElem?_modify, hc]
  · rcases m1 with e | ⟨g, mo, cur, e1, e2, e3, e4⟩
    · exact Or.inl e
    · exact Or.inr ⟨g, mo, cur, e1, e2, (k.block g (Array.getElem?_eq_some_iff.1 e3).1 fun e => e2 (by rw [e]; exact hpb)).trans e3, e4⟩
  · have := h.has
    simpa using this
  · simp [h.len]
  · rcases m3 a ha with ⟨a0, h0, e⟩ | e
    · rw [e]
      exact Or.inl (h.mailM a0 h0)
    · exact Or.inr (by omega)
  · refine Keep.trans (m2.mono fun b q => ?_) k fun b _ q => ?_
    · obtain ⟨a, ha, rfl⟩ := q
      exact h.mailM a ha
    · rw [q]
      exact h.inM pb hpb
/-- What Deliver leaves. -/
def DlvL (base pb : Nat) (name : ByteArray) (room : Int) (N : Nat) (s : Tm N) (ms : List (Tm N)) (x : Tm N) (nk : Nat) (M : Nat → Prop) (w : World) (e : Ending) (w' : World) : Prop :=
  e = .returned (.int .i64 (dlvE N x room s ms)) ∧ Hid (∃ ws' nm' sv' vs' ma' mc' Mh', PrAt base pb name room N s (if dlvE N x room s ms = 0 then ms ++ [x] else ms) [] (nk + 201) (fun b => M b ∨ w.heap.size ≤ b) w' ws' nm' sv' vs' ma' mc' Mh' ∧ Keep M w w')
theorem PrAt.deliver (h : PrAt base pb name room (N + 1) s ms [] nk M w ws nm sv vs ma mc Mh) (x : Tm (N + 1)) (hx : In w.heap.size w (N + 1) x) (ho : Off (fun b => ¬ M b) (N + 1) x) (hN : (nodes (N + 1) x).length ≤ 2097152) (hM : ∀ b, M b → b < w.heap.size) (hnk : nk ≤ 49000) (h20 : ms.length ≤ 999) (hbw : base ≤ w.heap.size) :
    Calls Try.prog 5 #[.pointer (some ⟨pb, 0, none⟩), val (N + 1) x] w (DlvL base pb name room (N + 1) s ms x nk M w) := by
  have hlen := h.len
  obtain ⟨hpb, hpl⟩ := h.box0
  refine (deliver_walk pb x.1.1 x.1.2.1 x.1.2.2 x.2.1.1 x.2.2.length x.2.1.2 vs.length mc ma w
    (fun v e1 w0 w1 => e1 = putP (N + 1) x room (s :: ms) ∧ Keep M w w1 ∧ w.heap.size ≤ w0.heap.size ∧ ∃ ws' nm' sv' vs' ma' mc' Mh', PrAt base pb name room (N + 1) s ms (if e1 = 0 then [(v, x)] else []) (nk + 201) (fun b => (M b ∨ w0.heap.size ≤ b) ∧ b < w1.heap.size) w1 ws' nm' sv' vs' ma' mc' Mh')
    (fun v w0 w2 ma3 mc3 w3 => Keep M w w2 ∧ w.heap.size ≤ w0.heap.size ∧ ∃ ws' nm' sv' vs' ma' mc' Mh', PrAt base pb name room (N + 1) s ms [(v, x)] (nk + 201) (fun b => M b ∨ w0.heap.size ≤ b) w2 ws' nm' sv' vs' ma' mc' Mh' ∧ MailMore Mh' ma' (vs' ++ [v]) w2 ma3 mc3 w3) hpl ?_ ?_ ?_).mono ?_
  · intro w1 hb
    obtain ⟨tv, lv, mv, h1, _⟩ := (h.later hb).heap.box
    exact (PL.cells h1).2.2.2.1
  · intro w0 hb
    have hs := hb.size
    refine ((h.later hb).put x ((hx.below hb).mono hs) ho hN (fun b q => Nat.lt_of_lt_of_le (hM b q) hs) hnk h20 (by omega)).mono ?_
    rintro e w1 ⟨v, rfl, ws', nm', sv', vs', ma', mc', Mh', h1, hk⟩
    refine ⟨v, _, rfl, ⟨hk.size, fun b q1 _ q3 => hk.block b q3 fun q => ?_⟩, rfl, (keep_below hb M).trans hk fun _ _ q => q, hs, ws', nm', sv', vs', ma', mc', _, h1.inside⟩
    have := hM b q
    omega
  · rintro v w0 w1 ⟨hE, hk, hs0, ws', nm', sv', vs', ma', mc', Mh', h1⟩
    rw [if_pos rfl] at h1
    have hl1 := h1.len
    have hvl : vs'.length = vs.length := by omega
    refine ⟨ma', mc', fun w2 hb => ?_, fun w2 hb sa c hsa => ?_⟩
    · obtain ⟨tv, lv, mv, hB, _⟩ := (h1.later hb).heap.box
      rw [hvl] at hB
      exact ⟨(PL.cells hB).2.2.2.1, (PL.cells hB).2.2.2.2.1⟩
    · have h2 := h1.later hb
      have hs := hb.size
      obtain ⟨ma3, mc3, w3, hr, hmm⟩ := run_append_mail 64 h2.mail (by omega) (fun b q => Nat.lt_of_lt_of_le (h1.inM b q).2 hs) sa c v hsa
      rw [hvl] at hr
      have hmb : ∀ b, (∃ a, ma' = some a ∧ b = a.block) → ¬ Mh' b ∧ b < w1.heap.size := fun b q => by
        obtain ⟨a, ha, rfl⟩ := q
        refine ⟨fun z => ?_, (h1.mailM a ha).2⟩
        rcases h1.mail with ⟨e, _⟩ | ⟨g, mo, cur, e1, e2, _⟩
        · rw [e] at ha
          cases ha
        · rw [e1] at ha
          rw [← Option.some.inj ha] at z
          exact e2 z
      obtain ⟨hp1, hp2⟩ := h2.box0
      have hblk : w3.heap[pb]? = w2.heap[pb]? := hmm.2.1.block pb hp2 fun q => (hmb pb q).1 hp1
      obtain ⟨tv, lv, mv, hB, _⟩ := h2.heap.box
      rw [hvl] at hB
      refine ⟨ma3, mc3, w3, hr, (block_cell hblk 7).trans (PL.cells hB).2.2.2.1, fun j => ?_, fun b q1 q2 => hmm.2.1.block b q2 fun q => ?_, ?_⟩
      · exact (World.frozen?_of_block (a := ⟨pb, j, none⟩) hblk).trans ((PL.cells hB).2.2.2.2.1 j)
      · have := (hmb b q).2
        omega
      · exact ⟨hk.trans (keep_below hb M) fun _ _ q => q, hs0, ws', nm', sv', vs', ma', mc', Mh', h2.mono (fun b q => q.1) (Nat.le_refl _), hmm⟩
  · rintro e w' ⟨hA, hB⟩
    by_cases hL : 20 ≤ ms.length
    · obtain ⟨rfl, hb⟩ := hA (by omega)
      have he : dlvE (N + 1) x room s ms = 2 := by simp [dlvE, hL]
      refine ⟨by rw [he], ws, nm, sv, vs, ma, mc, Mh, ?_, keep_below hb M⟩
      rw [he]
      exact (h.later hb).mono (fun b q => Or.inl q) (by omega)
    · obtain ⟨v, e1, w0, w1, rfl, hb, ⟨hE, hk, hs0, ws', nm', sv', vs', ma', mc', Mh', h1⟩, hne, heq⟩ := hB (by omega)
      have he : dlvE (N + 1) x room s ms = e1 := by simp [dlvE, hL, hE]
      refine ⟨by rw [he], ?_⟩
      rw [he]
      by_cases h0 : e1 = 0
      · obtain ⟨w2, ma3, mc3, w3, hb2, ⟨hk2, _, ws2, nm2, sv2, vs2, ma2, mc2, Mh2, h2, hmm⟩, rfl⟩ := heq h0
        have hl2 := h2.len
        have e : vs.length + 1 = (vs2 ++ [v]).length := by simp; omega
        obtain ⟨h3, hk3⟩ := h2.more hmm
        rw [e, if_pos h0]
        have hs2 := hk2.size
        refine ⟨ws2, nm2, sv2, vs2 ++ [v], ma3, mc3, Mh2, h3.mono (fun b q => ?_) (Nat.le_refl _), hk2.trans hk3 fun b hb' q => ?_⟩
        · rcases q with (q | q) | q
          · exact Or.inl q
          · exact Or.inr (by omega)
          · exact Or.inr (by omega)
        · rcases q with q | q
          · exact q
          · omega
      · have hb1 := hne h0
        rw [if_neg h0] at h1 ⊢
        refine ⟨ws', nm', sv', vs', ma', mc', Mh', (h1.later hb1).mono (fun b q => ?_) (Nat.le_refl _), hk.trans (keep_below hb1 M) fun _ _ q => q⟩
        rcases q.1 with q | q
        · exact Or.inl q
        · exact Or.inr (by omega)
end
end Go.Proofs.Ytbmjfnicfpdjfaa
namespace Go.Proofs.Ytbmjfnicfpdjfaa
open Go.RowKit
set_option maxHeartbeats 2000000 in
theorem pnew_walk (nmB : ByteArray) (k i : Int) (t : ByteArray) (ta : Option Addr) (tl tc : Nat) (room : Int) (w : World) (isn : Bool) (F : Wd → Int → World → World → Prop)
    (HI : Hid (∀ w1 : World, Calls Try.prog 19 #[.string nmB] w1 fun e w' => e = .returned (.bool isn) ∧ w' = w1))
    (HS : Hid (isn = true → ∀ w1 : World, Calls Try.prog 22 #[.string nmB] w1 fun e w' => e = .returned (.string nmB) ∧ Below w1.heap.size w1 w'))
    (HP : Hid (0 ≤ room ∧ room ≤ 1000 → ∀ w2, HB (HLoc.own (w.heap.size + 1)) room (.slice none 0 0) (.slice none 0 0) (.map none) w2 → w2.heap.size = w.heap.size + 1 + 1 → Below w.heap.size w w2 → Calls Try.prog 21 #[.pointer (some ⟨w.heap.size + 1, 0, none⟩), .agg #[.int .i64 k, .int .i64 i, .string t, .slice ta tl tc]] w2 fun e w3 => ∃ (v : Wd) (e1 : Int), e = .returned (.tuple #[.agg #[.int .i64 v.1, .int .i64 v.2], .int .i64 e1]) ∧ Hid (∃ tv lv mv, w3.heap[w.heap.size + 1]? = some (.cells #[.int .i64 room, tv, lv, mv] 71) ∧ F v e1 w2 w3))) :
    Calls Try.prog 4 #[.string nmB, .agg #[.int .i64 k, .int .i64 i, .string t, .slice ta tl tc], .int .i64 room] w fun e w' =>
      (isn = false → e = .returned (.tuple #[.pointer none, .int .i64 5]) ∧ Below w.heap.size w w') ∧ (isn = true → ¬ (0 ≤ room ∧ room ≤ 1000) → e = .returned (.tuple #[.pointer none, .int .i64 1]) ∧ Below w.heap.size w w') ∧
      (isn = true → 0 ≤ room ∧ room ≤ 1000 → ∃ (v : Wd) (e1 : Int) (w2 w3 : World), Hid (Below w.heap.size w w2 ∧ w2.heap.size = w.heap.size + 1 + 1 ∧ F v e1 w2 w3) ∧ (e1 ≠ 0 → e = .returned (.tuple #[.pointer none, .int .i64 e1]) ∧ Below w3.heap.size w3 w') ∧
        (e1 = 0 → ∃ (w5 : World) (tv lv mv : Value), e = .returned (.tuple #[.pointer (some ⟨w5.heap.size, 0, none⟩), .int .i64 0]) ∧ Below w3.heap.size w3 w5 ∧ w3.heap[w.heap.size + 1]? = some (.cells #[.int .i64 room, tv, lv, mv] 71) ∧ w' = w5.alloc (.cells #[.string nmB, .int .i64 room, tv, lv, mv, .int .i64 v.1, .int .i64 v.2, .slice none 0 0] 73))) := by
  have HN := hide (new_last0 w (.cells #[.int .i64 k, .int .i64 i, .string t, .slice ta tl tc] 25) rfl)
  have HNB : Hid (Below w.heap.size w (w.alloc (.cells #[.int .i64 k, .int .i64 i, .string t, .slice ta tl tc] 25)) ∧ (w.alloc (.cells #[.int .i64 k, .int .i64 i, .string t, .slice ta tl tc] 25)).heap.size = w.heap.size + 1) := ⟨by go_grown, by simp⟩
  cases isn with
  | false =>
    go_enter Try.func4, Try.ntmps4
    go_wp2_with (go_at_call 19; refine (HI.out _).mono ?_; rintro e w1 ⟨rfl, rfl⟩)
    exact bodyPost_ret (v := .tuple #[.pointer none, .int .i64 5]) (by simp [results, Try.results4, go_sem]) rfl ⟨fun _ => ⟨rfl, HNB.out.1⟩, fun h => (by cases h), fun h => (by cases h)⟩
  | true =>
    have HS' := hide (HS.out rfl)
    go_enter Try.func4, Try.ntmps4
    go_wp2_with (go_at_call 19; refine (HI.out _).mono ?_; rintro e w1 ⟨rfl, rfl⟩)
    refine (new_any _ _).mono ?_
    rintro e w2 ⟨h1, h2⟩
    by_cases hr : 0 ≤ room ∧ room ≤ 1000
    rotate_left
    · obtain ⟨rfl, rfl⟩ := h1 hr
      clear h1 h2
      go_wp2_with fail
      exact bodyPost_ret (v := .tuple #[.pointer none, .int .i64 1]) (by simp [results, Try.results4, go_sem]) rfl ⟨fun h => (by cases h), fun _ _ => ⟨rfl, HNB.out.1⟩, fun _ h => absurd h hr⟩
    · obtain ⟨rfl, HBx⟩ := h2 hr
      clear h1 h2
      replace HBx := hide HBx
      rw [HNB.out.2] at HBx
      have HB2 : Hid (Below w.heap.size w w2) := HNB.out.1.trans (HBx.out.2.2.mono (Nat.le_succ _))
      have HPP := hide (HP.out hr w2 HBx.out.1 HBx.out.2.1 HB2.out)
      have HT : Hid (w2.heap[w.heap.size]? = some (.cells #[.int .i64 k, .int .i64 i, .string t, .slice ta tl tc] 25)) := (HBx.out.2.2.block _ (by have := HNB.out.2; omega)).trans HN.out
      have t0 : w2.cell? ⟨w.heap.size, 0, none⟩ = some (.int .i64 k) := box_cell HT.out 0
      have t1 : w2.cell? ⟨w.heap.size, 1, none⟩ = some (.int .i64 i) := box_cell HT.out 1
      have t2 : w2.cell? ⟨w.heap.size, 2, none⟩ = some (.string t) := box_cell HT.out 2
      have t3 : w2.cell? ⟨w.heap.size, 3, none⟩ = some (.slice ta tl tc) := box_cell HT.out 3
      go_wp2_with fail
      refine HPP.out.mono ?_
      rintro e w3 ⟨v, e1, rfl, H3⟩
      obtain ⟨tv, lv, mv, H3b, H3F⟩ := H3.out
      replace H3b := hide H3b
      replace H3F := hide (show Below w.heap.size w w2 ∧ w2.heap.size = w.heap.size + 1 + 1 ∧ F v e1 w2 w3 from ⟨HB2.out, HBx.out.2.1, H3F⟩)
      clear H3 HPP t0 t1 t2 t3 HT HBx
      by_cases h0 : e1 = 0
      rotate_left
      · have h0' : ¬ (0 : Int) = e1 := fun e => h0 e.symm
        go_wp2_with fail
        exact bodyPost_ret (v := .tuple #[.pointer none, .int .i64 e1]) (by simp [results, Try.results4, go_sem]) rfl ⟨fun h => (by cases h), fun _ h => absurd hr h, fun _ _ => ⟨v, e1, w2, w3, H3F, fun _ => ⟨rfl, one_alloc⟩, fun h => absurd h h0⟩⟩
      · subst h0
        go_wp2_with fail
        have HW2 : Hid (∃ w4 q, (w4 = w3.alloc (.cells #[.int .i64 v.1, .int .i64 v.2] 60) ∧ q = w3.heap.size) ∧ Below w3.heap.size w3 w4 ∧ w4.heap[q]? = some (.cells #[.int .i64 v.1, .int .i64 v.2] 60)) := ⟨_, _, ⟨rfl, rfl⟩, one_alloc, heap_alloc_new _ _⟩
        obtain ⟨w4, q, ⟨hw4, hq⟩, HS4⟩ := HW2.out
        rw [← hw4, ← hq]
        replace HS4 := hide HS4
        clear hw4 hq HW2
        have HK : Hid (∀ w' : World, Below w4.heap.size w4 w' → w'.cell? ⟨w.heap.size + 1, 0, none⟩ = some (.int .i64 room) ∧ w'.cell? ⟨w.heap.size + 1, 1, none⟩ = some tv ∧ w'.cell? ⟨w.heap.size + 1, 2, none⟩ = some lv ∧ w'.cell? ⟨w.heap.size + 1, 3, none⟩ = some mv ∧ w'.cell? ⟨q, 0, none⟩ = some (.int .i64 v.1) ∧ w'.cell? ⟨q, 1, none⟩ = some (.int .i64 v.2)) := fun w' h => by
          have h1 := (h.block q (Array.getElem?_eq_some_iff.1 HS4.out.2).1).trans HS4.out.2
          have hl := (Array.getElem?_eq_some_iff.1 H3b.out).1
          have h2 := (h.block _ (Nat.lt_of_lt_of_le hl HS4.out.1.size)).trans ((HS4.out.1.block _ hl).trans H3b.out)
          exact ⟨box_cell h2 0, box_cell h2 1, box_cell h2 2, box_cell h2 3, box_cell h1 0, box_cell h1 1⟩
        obtain ⟨k0, k1, k2, k3, k4, k5⟩ := HK.out w4 (Below.refl _ _)
        have HD0 : Hid (Below w4.heap.size w4 w4.drew) := (Below.refl _ _).drew
        go_region_held3 (fun w' => w'.cell? ⟨w.heap.size + 1, 0, none⟩ = some (.int .i64 room) ∧ w'.cell? ⟨w.heap.size + 1, 1, none⟩ = some tv ∧ w'.cell? ⟨w.heap.size + 1, 2, none⟩ = some lv ∧ w'.cell? ⟨w.heap.size + 1, 3, none⟩ = some mv ∧ w'.cell? ⟨q, 0, none⟩ = some (.int .i64 v.1) ∧ w'.cell? ⟨q, 1, none⟩ = some (.int .i64 v.2)) (first | (go_keep; done) | with_reducible exact HK.out _ HD0.out | exact HK.out _ HB5.out | exact HK.out _ (HB5.out.trans (one_alloc.mono HB5.out.size)))
          ((go_at_call 22; refine (HS'.out _).mono ?_; rintro e w5 ⟨rfl, hb5⟩; have HB5 := hide (HD0.out.trans (hb5.mono HD0.out.size)); clear hb5))
        go_wp2_with fail
        exact bodyPost_ret (v := .tuple #[.pointer (some ⟨w5.heap.size, 0, none⟩), .int .i64 0]) (by simp [results, Try.results4, go_sem]) rfl ⟨fun h => (by cases h), fun _ h => absurd hr h, fun _ _ => ⟨v, 0, w2, w3, H3F, fun h => absurd rfl h, fun _ => ⟨w5, tv, lv, mv, rfl, HS4.out.1.trans (HB5.out.mono HS4.out.1.size), H3b.out, rfl⟩⟩⟩
end Go.Proofs.Ytbmjfnicfpdjfaa
namespace Go.Proofs.Ytbmjfnicfpdjfaa
open Go.RowKit

/-- What New answers. -/
def newE (N : Nat) (x : Tm N) (room : Int) (name : ByteArray) : Int := if nameB name = false then 5 else if ¬ (0 ≤ room ∧ room ≤ 1000) then 1 else putE N x room []
/-- What New leaves. -/
def NewL (N : Nat) (x : Tm N) (room : Int) (name : ByteArray) (w : World) (e : Ending) (w' : World) : Prop :=
  (newE N x room name ≠ 0 → e = .returned (.tuple #[.pointer none, .int .i64 (newE N x room name)]) ∧ Below w.heap.size w w') ∧
  (newE N x room name = 0 → ∃ pb, e = .returned (.tuple #[.pointer (some ⟨pb, 0, none⟩), .int .i64 0]) ∧ Hid (w.heap.size ≤ pb ∧ Below w.heap.size w w' ∧ ∃ ws nm sv Mh, PrAt w.heap.size pb name room N x [] [] 201 (fun b => w.heap.size ≤ b ∧ b < w'.heap.size) w' ws nm sv [] none 0 Mh))
theorem name_size {s : ByteArray} (h : nameB s = true) : s.size ≤ 2048 := by
  simp only [nameB, inB, Bool.and_eq_true, decide_eq_true_eq] at h
  omega
theorem In.offBelow {B : Nat} {w : World} : {n : Nat} → {x : Tm n} → In B w n x → Off (fun b => b < B) n x
  | 0, _, k => k
  | _ + 1, _, k => by
    obtain ⟨_, k1⟩ := k
    rcases k1 with k1 | ⟨b, o, e, hb, k1⟩
    · exact Or.inl k1
    · exact Or.inr ⟨b, o, e, hb, fun i y hy => (k1 i y hy).2.offBelow⟩
theorem pnew_any (N : Nat) (x : Tm (N + 1)) (room : Int) (name : ByteArray) (w : World) (hsz : name.size ≤ 9223372036854775807) (hx : In w.heap.size w (N + 1) x) (hN : (nodes (N + 1) x).length ≤ 2097152) :
    Calls Try.prog 4 #[.string name, val (N + 1) x, .int .i64 room] w (NewL (N + 1) x room name w) := by
  refine (pnew_walk name x.1.1 x.1.2.1 x.1.2.2 x.2.1.1 x.2.2.length x.2.1.2 room w (nameB name) (fun v e1 w2 w3 => Below w.heap.size w w3 ∧ PutF (N + 1) x w.heap.size (HLoc.own (w.heap.size + 1)) room [] [] (fun b => b = w.heap.size + 1) v e1 w2 w3) ?_ ?_ ?_).mono ?_
  · intro w1
    exact isName_any name w1 hsz
  · intro h w1
    exact strcopy_any name w1 (name_size h)
  · intro hr w2 hB hz hb
    have hs := hb.size
    have h2 : HpAt w.heap.size (HLoc.own (w.heap.size + 1)) room [] [] (fun b => b = w.heap.size + 1) w2 := ⟨.slice none 0 0, .slice none 0 0, .map none, hB, World.ownsRow_nil _ _ _ _, ⟨World.ownsRow_nil _ _ _ _, by simp, Or.inl ⟨rfl, rfl, rfl⟩⟩, rfl, fun b e => by simp [Value.ownBlock] at e, fun b e => by simp [Value.ownBlock] at e, fun b e => by simp [mapBlock] at e⟩
    refine (hput_any (N + 1) x w.heap.size (HLoc.own (w.heap.size + 1)) room [] [] (fun b => b = w.heap.size + 1) w2 h2 ((hx.below hb).mono hs) ((In.offBelow hx).mono fun b q e => by omega) hN hs hr.1 hr.2 (by simp) (by simp)).mono ?_
    intro e w3 hp
    obtain ⟨v, e1, rfl, hf⟩ := putF_of hp
    have hbw : ∀ {S : Nat → Prop}, Keep S w2 w3 → (∀ b, S b → w.heap.size ≤ b) → Below w.heap.size w w3 := fun k hS => ⟨k.os.trans hb.os, k.tape.trans hb.tape, k.output.trans hb.output, Nat.le_trans hs k.size, fun b hl => (k.block b (Nat.lt_of_lt_of_le hl hs) fun q => by have := hS b q; omega).trans (hb.block b hl)⟩
    refine ⟨v, e1, rfl, ?_⟩
    by_cases h0 : e1 = 0
    · obtain ⟨_, _, l1, l2⟩ := hf.2.2 h0
      obtain ⟨tv, lv, mv, hB3, _⟩ := l1
      exact ⟨tv, lv, mv, hB3.2, hbw l2 fun b q => by omega, hf⟩
    · have hb3 := (hf.2.1 h0).2
      exact ⟨_, _, _, (hb3.block _ (by omega)).trans hB.2, hbw (keep_below hb3 fun _ => False) fun b q => q.elim, hf⟩
  · rintro e w' ⟨c1, c2, c3⟩
    cases hn : nameB name with
    | false =>
      have he : newE (N + 1) x room name = 5 := by simp [newE, hn]
      refine ⟨fun _ => by rw [he]; exact c1 hn, fun h => by rw [he] at h; cases h⟩
    | true =>
      by_cases hr : 0 ≤ room ∧ room ≤ 1000
      rotate_left
      · have he : newE (N + 1) x room name = 1 := by simp [newE, hn, hr]
        refine ⟨fun _ => by rw [he]; exact c2 hn hr, fun h => by rw [he] at h; cases h⟩
      · obtain ⟨v, e1, w2, w3, HF, d1, d2⟩ := c3 hn hr
        obtain ⟨hb2, hz2, hb3, hf⟩ := HF.out
        have he : newE (N + 1) x room name = e1 := by rw [hf.1]; simp [newE, hn, hr]
        have hs3 := hb3.size
        rw [NewL, he]
        refine ⟨fun h0 => ⟨(d1 h0).1, hb3.trans ((d1 h0).2.mono hs3)⟩, fun h0 => ?_⟩
        obtain ⟨w5, tv, lv, mv, rfl, hb5, hbx, rfl⟩ := d2 h0
        have hs5 := hb5.size
        obtain ⟨hc, hv, l1, l2⟩ := hf.2.2 h0
        have hnd := l1.nodup
        have h5 := (l1.later hb5)
        obtain ⟨tv', lv', mv', b1, b2, b3, b4, b5, b6, b7⟩ := h5
        have hl1 := (Array.getElem?_eq_some_iff.1 hbx).1
        have eB : (Obj.cells #[.int .i64 room, tv', lv', mv'] 71) = (Obj.cells #[.int .i64 room, tv, lv, mv] 71) := Option.some.inj (b1.2.symm.trans ((hb5.block _ hl1).trans hbx))
        simp only [Obj.cells.injEq, Array.mk.injEq, List.cons.injEq, and_true, true_and] at eB
        obtain ⟨rfl, rfl, rfl⟩ := eB
        have ha : Below w5.heap.size w5 (w5.alloc (.cells #[.string name, .int .i64 room, tv', lv', mv', .int .i64 v.1, .int .i64 v.2, .slice none 0 0] 73)) := one_alloc
        have hz' : (w5.alloc (.cells #[.string name, .int .i64 room, tv', lv', mv', .int .i64 v.1, .int .i64 v.2, .slice none 0 0] 73)).heap.size = w5.heap.size + 1 := by simp
        refine ⟨w5.heap.size, rfl, by omega, (hb3.trans (hb5.mono hs3)).trans (ha.mono (by omega)), (layF (N + 1) x [] []).2.1, (layF (N + 1) x [] []).2.2, v, fun b => b = w5.heap.size ∨ (w.heap.size ≤ b ∧ b < w5.heap.size), ?_⟩
        have hap : PHas (N + 1) [] [] room [] ([] : List (Tm (N + 1))) := ⟨⟨rfl, fun i v y h => by simp at h⟩, by simp, fun y h => by simp at h, by simp, by simp; exact hr.1, hr.1, hr.2, by simp⟩
        have hla := hap.lay x hc hnd
        have hnm := (layF_sizes (N + 1) x [] []).2
        have hnl := chk_nlen hc.1
        simp only [List.length_nil] at hnm
        refine ⟨⟨tv', lv', mv', ⟨⟨rfl, Or.inr rfl⟩, heap_alloc_new _ _⟩, row_kept b2 (keep_below ha fun _ => False) (fun _ _ q => q), b3.kept (keep_below ha fun _ => False) (fun _ _ q => q) (fun _ _ q => q), Or.inl rfl, fun b q => Or.inr ?_, fun b q => Or.inr ?_, fun b q => Or.inr ?_⟩, Or.inl ⟨rfl, rfl, rfl⟩, ?_, rfl, by omega, fun b q => ?_, fun a h => by cases h⟩
        · have h := b5 b q
          have h1 := h.2
          rcases h.1 with z | z <;> exact ⟨by omega, by omega⟩
        · have h := b6 b q
          have h1 := h.2
          rcases h.1 with z | z <;> exact ⟨by omega, by omega⟩
        · have h := b7 b q
          have h1 := h.2
          rcases h.1 with z | z <;> exact ⟨by omega, by omega⟩
        · rw [hv]
          exact hla
        · rw [hz']
          rcases q with q | q <;> exact ⟨by omega, by omega⟩
end Go.Proofs.Ytbmjfnicfpdjfaa
