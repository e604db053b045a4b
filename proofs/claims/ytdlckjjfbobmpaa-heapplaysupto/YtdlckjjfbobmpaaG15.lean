/- What is proved here: plain facts and contracts that the claimed theorem stands on, several texts in one: copying keeps what holds of it (CInv), and a word's copy is told by where its tuple went. No condition. plain facts on a heap's tuples and the nodes that stand for them, each once: what collecting, laying and joining leave of that, and how many words are come to from nodes. No condition. plain facts on going through nodes from a list of them, each once. No condition. heap.copying's one and all of words that stand for right terms, in memory, however many they are: what cpF and cpL say. No condition but that the heap has at most 1000 words. Live and Collect of a heap, of words that stand for right closed terms, however many they are. Condition: the heap has at most 1000 words, and there are at most 2000000 of these. a law for a region that draws its order, where three rows of operations go on side by side, each in its own order: whatever comes up next, a relation by how far each row is goes on. No condition but that. plain facts on a map from pairs of numbers to rows of terms: how it lies in memory, what is looked up in it, what a store and a delete leave, and how many pairs it has. No condition. -/
import Derived.Test.YtdlckjjfbobmpaaG14
import Derived.Test.YtdlckjjfbobmpaaG01
import Derived.Deep.RegionHeld
import Derived.Test.YtdlckjjfbobmpaaG05
import Derived.Maps.RangeWalk
import Derived.WideKeyPair
import Derived.WideKeyEntry
namespace Go.Proofs.Ytdlckjjfbobmpaa

def CGood (ws : List Wd) (v : Wd) (r : Wd × List Wd × Went) : Prop := CInv ws r.2 ∧ r.1 = cpW r.2.2 v ∧ (v.1 = 4 → (look r.2.2 v.2.toNat).isSome = true)
theorem cpW_keeps {g g' : Went} (hk : ∀ p q, look g p = some q → look g' p = some q) {v : Wd} (h : v.1 = 4 → (look g v.2.toNat).isSome = true) : cpW g v = cpW g' v := by
  unfold cpW
  split
  · rename_i h4
    obtain ⟨q, hq⟩ := Option.isSome_iff_exists.1 (h h4)
    rw [hq, hk _ _ hq]
  · rfl
theorem some_keeps {g g' : Went} (hk : ∀ p q, look g p = some q → look g' p = some q) {p : Nat} (h : (look g p).isSome = true) : (look g' p).isSome = true := by
  obtain ⟨q, hq⟩ := Option.isSome_iff_exists.1 h
  rw [hk _ _ hq]
  rfl
theorem cpL_inv {ws : List Wd} {nm : List ByteArray} {n : Nat} (ih : ∀ (x : Tm n) (v : Wd) (S : List Wd × Went), Stands ws nm n x v → CInv ws S → CGood ws v (cpF ws n v S)) :
    (us : List Wd) → (ys : List (Tm n)) → StandL ws nm n us ys → (S : List Wd × Went) → CInv ws S →
    CInv ws (cpL (cpF ws n) us S).2 ∧ (cpL (cpF ws n) us S).1 = us.map (cpW (cpL (cpF ws n) us S).2.2) ∧ ∀ u ∈ us, u.1 = 4 → (look (cpL (cpF ws n) us S).2.2 u.2.toNat).isSome = true
  | [], _, _, S, h => ⟨h, rfl, fun u hu => (by cases hu)⟩
  | v :: us, ys, hs, S, h => by
    cases ys with
    | nil => have := hs.1; simp at this
    | cons y ys =>
      have h0 : Stands ws nm n y v := hs.2 0 v y rfl rfl
      have ht : StandL ws nm n us ys := ⟨by have := hs.1; simpa using this, fun i a b ha hb => hs.2 (i + 1) a b (by simpa using ha) (by simpa using hb)⟩
      obtain ⟨a1, a2, a3⟩ := ih y v S h0 h
      obtain ⟨b1, b2, b3⟩ := cpL_inv ih us ys ht (cpF ws n v S).2 a1
      have hk : ∀ p q, look (cpF ws n v S).2.2 p = some q → look (cpL (cpF ws n) us (cpF ws n v S).2).2.2 p = some q := fun p q hq => cpL_keeps p q us (fun u _ S' hS => cpF_keeps ws p q n u S' hS) _ hq
      simp only [cpL]
      refine ⟨b1, ?_, fun u hu h4 => ?_⟩
      · rw [List.map_cons, ← cpW_keeps hk a3, ← a2]
        congr 1
      · rcases List.mem_cons.1 hu with rfl | hu
        · exact some_keeps hk (a3 h4)
        · exact b3 u hu h4
theorem partsOf_app {T X : List Wd} {q m : Nat} (h : q + 1 + m ≤ T.length) : partsOf (T ++ X) q m = partsOf T q m := by
  unfold partsOf
  rw [List.drop_append_of_le_length (by omega), List.take_append_of_le_length (by simp; omega)]
theorem parts_less {ws : List Wd} {nm : List ByteArray} {n : Nat} {x : Tm (n + 1)} {p : Nat} (hs : StandL ws nm n (partsOf ws p x.2.2.length) x.2.2) (h4 : x.1.1 = 4) {u : Wd} (hu : u ∈ partsOf ws p x.2.2.length) : ∃ y : Tm n, Stands ws nm n y u ∧ sz n y < sz (n + 1) x := by
  obtain ⟨y, hy, hst⟩ := hs.mem hu
  refine ⟨y, hst, ?_⟩
  obtain ⟨k, hk⟩ := List.getElem?_of_mem hy
  have h1 := sz_room n x.2.2 k y hk
  have h0 : ∀ l : List (Tm n), 0 ≤ (l.map fun y => 1 + sz n y).sum := by
    intro l
    induction l with
    | nil => simp
    | cons y l ih =>
      have := (sz_bound n y).1
      simp only [List.map_cons, List.sum_cons]
      omega
  have h2 := h0 (x.2.2.take k)
  simp only [sz, if_pos h4]
  omega
theorem new_apart {ws : List Wd} {nm : List ByteArray} {n : Nat} {x : Tm (n + 1)} {p : Nat} {S : List Wd × Went} (hx : Stands ws nm (n + 1) x (4, (p : Int))) (h4 : x.1.1 = 4) (hs : StandL ws nm n (partsOf ws p x.2.2.length) x.2.2) (hS : CInv ws S) (hl : look S.2 p = none) : look (cpL (cpF ws n) (partsOf ws p x.2.2.length) S).2.2 p = none := by
  have hP : Shut ws (fun q => (look S.2 q).isSome = true ∨ ∃ (k : Nat) (y : Tm k), Stands ws nm k y (4, (q : Int)) ∧ sz k y < sz (n + 1) x) := by
    intro q hq u hu hu4
    rcases hq with hq | ⟨k, y, hy, hlt⟩
    · obtain ⟨r, hr⟩ := Option.isSome_iff_exists.1 hq
      exact Or.inl (hS.shut _ (look_in hr) u hu hu4)
    · cases k with
      | zero => exact hy.elim
      | succ k =>
        have hy4 : y.1.1 = 4 := Classical.byContradiction fun h => leaf_not4 hy h rfl
        obtain ⟨p', e, hp', _, hs'⟩ := tuple_parts hy hy4
        have e : q = p' := by
          have := (Prod.mk.inj e).2
          omega
        subst e
        rw [prt_at hp'] at hu
        obtain ⟨z, hz, hzl⟩ := parts_less hs' hy4 hu
        have hz4 : ∃ r : Nat, u = (4, (r : Int)) := by
          cases k with
          | zero => exact hz.elim
          | succ k =>
            have h44 : z.1.1 = 4 := Classical.byContradiction fun h => leaf_not4 hz h hu4
            obtain ⟨r, e, _⟩ := tuple_parts hz h44
            exact ⟨r, e⟩
        obtain ⟨r, rfl⟩ := hz4
        exact Or.inr ⟨k, z, by simpa using hz, by omega⟩
  cases hq : look (cpL (cpF ws n) (partsOf ws p x.2.2.length) S).2.2 p with
  | none => rfl
  | some q =>
    have hm := cpL_least (P := fun q => (look S.2 q).isSome = true ∨ ∃ (k : Nat) (y : Tm k), Stands ws nm k y (4, (q : Int)) ∧ sz k y < sz (n + 1) x) (fun v S => cpF_least hP n v S) (partsOf ws p x.2.2.length) S (fun u hu hu4 => by
      obtain ⟨z, hz, hzl⟩ := parts_less hs h4 hu
      have hz4 : ∃ r : Nat, u = (4, (r : Int)) := by
        cases n with
        | zero => exact hz.elim
        | succ k =>
          have h44 : z.1.1 = 4 := Classical.byContradiction fun h => leaf_not4 hz h hu4
          obtain ⟨r, e, _⟩ := tuple_parts hz h44
          exact ⟨r, e⟩
      obtain ⟨r, rfl⟩ := hz4
      exact Or.inr ⟨n, z, by simpa using hz, hzl⟩) (fun e he => Or.inl (by rw [in_look hS.nodup (show (e.1, e.2) ∈ S.2 from he)]; rfl)) _ (look_in hq)
    rcases hm with hm | ⟨k, y, hy, hlt⟩
    · rw [hl] at hm
      cases hm
    · have := stands_sz _ _ _ _ _ hx hy
      omega
theorem cpF_inv {ws : List Wd} {nm : List ByteArray} : (n : Nat) → (x : Tm n) → (v : Wd) → (S : List Wd × Went) → Stands ws nm n x v → CInv ws S → CGood ws v (cpF ws n v S)
  | 0, _, _, _, h, _ => h.elim
  | n + 1, x, v, S, h, hS => by
    by_cases h4 : x.1.1 = 4
    · obtain ⟨p, rfl, hp, hl, hs⟩ := tuple_parts h h4
      cases hk : look S.2 p with
      | some q =>
        rw [cpF_old hk]
        refine ⟨hS, ?_, fun _ => ?_⟩
        · simp [cpW, hk]
        · simp [hk]
      | none =>
        have hap := new_apart h h4 hs hS hk
        rw [cpF_new hk hp]
        obtain ⟨b1, b2, b3⟩ := cpL_inv (fun x v S hh hi => cpF_inv n x v S hh hi) (partsOf ws p x.2.2.length) x.2.2 hs S hS
        have hlen := cpL_length (cpF ws n) (partsOf ws p x.2.2.length) S
        rw [partsOf_length hl] at hlen
        generalize (cpL (cpF ws n) (partsOf ws p x.2.2.length) S) = R at *
        obtain ⟨cs, T, g⟩ := R
        simp only at *
        have hkeep : ∀ r q, look g r = some q → look ((p, T.length) :: g) r = some q := fun r q hr => by
          have hne : r ≠ p := fun e => by rw [e, hap] at hr; cases hr
          rw [look_other g _ hne]
          exact hr
        have hcs : cs = (partsOf ws p x.2.2.length).map (cpW ((p, T.length) :: g)) := by
          rw [b2]
          exact List.map_congr_left fun u hu => cpW_keeps hkeep (b3 u hu)
        refine ⟨⟨?_, ?_, ?_, ?_, ?_, ?_⟩, ?_, ?_⟩
        · exact List.nodup_cons.2 ⟨look_no.1 hap, b1.nodup⟩
        · intro e he
          rcases List.mem_cons.1 he with rfl | he
          · exact (List.getElem?_eq_some_iff.1 hp).1
          · exact b1.lt e he
        · have l1 : T.length = (g.map fun e => wtP ws e.1).sum := b1.len
          simp only [List.length_append, List.length_cons, List.map_cons, List.sum_cons, wtP_at hp]
          omega
        · intro e he u hu h4u
          rcases List.mem_cons.1 he with rfl | he
          · simp only [prt_at hp] at hu
            exact some_keeps hkeep (b3 u hu h4u)
          · exact some_keeps hkeep (b1.shut e he u hu h4u)
        · intro e he
          rcases List.mem_cons.1 he with rfl | he
          · refine ⟨x.2.2.length, hp, by simp, by simp; omega, ?_⟩
            have h1 := parts_pre (us := T ++ (0, (x.2.2.length : Int)) :: cs) (A := T) (C := cs) (h := (0, (x.2.2.length : Int))) (List.prefix_refl _)
            rw [hlen] at h1
            simp only [prt_at hp]
            rw [h1]
            exact hcs
          · obtain ⟨m, m1, m2, m3, m4⟩ := b1.went e he
            have m3 : e.2 + 1 + m ≤ T.length := m3
            refine ⟨m, m1, ?_, by simp; omega, ?_⟩
            · rw [List.getElem?_append_left (by omega)]
              exact m2
            · rw [partsOf_app m3, m4]
              exact List.map_congr_left fun u hu => cpW_keeps hkeep (b1.shut e he u hu)
        · refine List.nodup_cons.2 ⟨fun hm => ?_, b1.once⟩
          obtain ⟨e, he, hq⟩ := List.mem_map.1 hm
          obtain ⟨m, _, _, m3, _⟩ := b1.went e he
          have m3 : e.2 + 1 + m ≤ T.length := m3
          have hq : e.2 = T.length := hq
          omega
        · simp [cpW, look_same]
        · intro _
          simp [look_same]
    · have hv := leaf_not4 h h4
      rw [cpF_leaf hv]
      exact ⟨hS, by simp [cpW, hv], fun e => absurd e hv⟩
end Go.Proofs.Ytdlckjjfbobmpaa
namespace Go.Proofs.Ytdlckjjfbobmpaa

/-- A word and a node: a tuple's is its own, nothing else has one. -/
def RelW (C : Went) (u : Wd) (k : Option Nat) : Prop := (u.1 = 4 → ∃ b, k = some b ∧ (u.2.toNat, b) ∈ C) ∧ (u.1 ≠ 4 → k = none)
def RelR (C : Went) (vs : List Wd) (ns : List (Option Nat)) : Prop := vs.length = ns.length ∧ ∀ (i : Nat) (v : Wd) (k : Option Nat), vs[i]? = some v → ns[i]? = some k → RelW C v k
/-- Tuples and nodes, one for one. -/
structure Cor (ws : List Wd) (N : Nat → Nat → List (Option Nat) → Prop) (C : Went) : Prop where
  fst : (C.map (·.1)).Nodup
  snd : (C.map (·.2)).Nodup
  node : ∀ c ∈ C, ∃ (m : Nat) (ks : List (Option Nat)), ws[c.1]? = some (0, (m : Int)) ∧ c.1 + 1 + m ≤ ws.length ∧ m ≤ 8 ∧ N c.2 m ks ∧ RelR C (partsOf ws c.1 m) ks
section
variable {ws : List Wd} {N : Nat → Nat → List (Option Nat) → Prop} {C : Went}
theorem nodup_map_of {α β γ : Type} {f : α → β} {g : α → γ} {l : List α} (h : (l.map f).Nodup) (hg : ∀ a ∈ l, ∀ b ∈ l, g a = g b → f a = f b) : (l.map g).Nodup := by
  unfold List.Nodup at h ⊢
  rw [List.pairwise_map] at h ⊢
  exact h.imp_of_mem fun ha hb hne he => hne (hg _ ha _ hb he)
theorem snd_inj {C : Went} (h : (C.map (·.2)).Nodup) {p q b : Nat} (h1 : (p, b) ∈ C) (h2 : (q, b) ∈ C) : p = q := by
  induction C with
  | nil => cases h1
  | cons e C ih =>
    rw [List.map_cons, List.nodup_cons] at h
    rcases List.mem_cons.1 h1 with k1 | k1
    · rcases List.mem_cons.1 h2 with k2 | k2
      · exact (Prod.mk.inj (k1.trans k2.symm)).1
      · exact absurd (List.mem_map.2 ⟨_, k2, by rw [← k1]⟩) h.1
    · rcases List.mem_cons.1 h2 with k2 | k2
      · exact absurd (List.mem_map.2 ⟨_, k1, by rw [← k2]⟩) h.1
      · exact ih h.2 k1 k2
theorem key_some {C : Went} {p : Nat} (h : p ∈ C.map (·.1)) : ∃ b, look C p = some b := by
  cases hl : look C p with
  | none => exact absurd h (look_no.1 hl)
  | some b => exact ⟨b, rfl⟩
theorem RelR.part {vs : List Wd} {ns : List (Option Nat)} (h : RelR C vs ns) {u : Wd} (hu : u ∈ vs) : ∃ k ∈ ns, RelW C u k := by
  obtain ⟨i, hi⟩ := List.getElem?_of_mem hu
  have hl := (List.getElem?_eq_some_iff.1 hi).1
  have hk : ns[i]? = some (ns[i]'(by rw [← h.1]; exact hl)) := List.getElem?_eq_getElem _
  exact ⟨_, List.mem_of_getElem? hk, h.2 i u _ hi hk⟩
theorem RelR.kid {vs : List Wd} {ns : List (Option Nat)} (h : RelR C vs ns) {k : Option Nat} (hk : k ∈ ns) : ∃ u ∈ vs, RelW C u k := by
  obtain ⟨i, hi⟩ := List.getElem?_of_mem hk
  have hl := (List.getElem?_eq_some_iff.1 hi).1
  have hu : vs[i]? = some (vs[i]'(by rw [h.1]; exact hl)) := List.getElem?_eq_getElem _
  exact ⟨_, List.mem_of_getElem? hu, h.2 i _ k hu hi⟩
theorem RelW.mono {C D : Went} (h : ∀ e ∈ C, e ∈ D) {u : Wd} {k : Option Nat} (hr : RelW C u k) : RelW D u k := ⟨fun h4 => by
  obtain ⟨b, h1, h2⟩ := hr.1 h4
  exact ⟨b, h1, h _ h2⟩, hr.2⟩
theorem RelR.mono {C D : Went} (h : ∀ e ∈ C, e ∈ D) {vs : List Wd} {ns : List (Option Nat)} (hr : RelR C vs ns) : RelR D vs ns := ⟨hr.1, fun i v k h1 h2 => (hr.2 i v k h1 h2).mono h⟩
theorem Cor.shut (h : Cor ws N C) : Shut ws fun p => p ∈ C.map (·.1) := by
  intro p hp u hu h4
  obtain ⟨c, hc, rfl⟩ := List.mem_map.1 hp
  obtain ⟨m, ks, h1, _, _, _, h5⟩ := h.node c hc
  rw [prt_at h1] at hu
  obtain ⟨k, _, hk⟩ := h5.part hu
  obtain ⟨b, _, hb⟩ := hk.1 h4
  exact List.mem_map.2 ⟨_, hb, rfl⟩
/-- Where tuples went, their nodes go with them. -/
def corT (C : Went) (g : Went) : Went := g.map fun e => (e.2, (look C e.1).getD 0)
theorem relW_went {S : List Wd × Went} (h : Cor ws N C) {u : Wd} {k : Option Nat} (hr : RelW C u k) (hl : u.1 = 4 → (look S.2 u.2.toNat).isSome = true) : RelW (corT C S.2) (cpW S.2 u) k := by
  by_cases h4 : u.1 = 4
  · obtain ⟨b, rfl, hb⟩ := hr.1 h4
    obtain ⟨q, hq⟩ := Option.isSome_iff_exists.1 (hl h4)
    have e : cpW S.2 u = (4, (q : Int)) := by simp [cpW, h4, hq]
    rw [e]
    refine ⟨fun _ => ⟨b, rfl, List.mem_map.2 ⟨_, look_in hq, ?_⟩⟩, fun hne => absurd rfl hne⟩
    rw [in_look h.fst hb]
    simp
  · have e : cpW S.2 u = u := by simp [cpW, h4]
    rw [e]
    exact ⟨fun h => absurd h h4, hr.2⟩
theorem Cor.collect {S : List Wd × Went} (h : Cor ws N C) (hS : CInv ws S) (hk : ∀ e ∈ S.2, e.1 ∈ C.map (·.1)) : Cor S.1 N (corT C S.2) := by
  refine ⟨?_, ?_, ?_⟩
  · have e : (corT C S.2).map (·.1) = S.2.map (·.2) := by simp [corT]
    rw [e]
    exact hS.once
  · have e : (corT C S.2).map (·.2) = S.2.map fun e => (look C e.1).getD 0 := by simp [corT]
    rw [e]
    refine nodup_map_of hS.nodup fun a ha b hb he => ?_
    obtain ⟨x, hx⟩ := key_some (hk a ha)
    obtain ⟨y, hy⟩ := key_some (hk b hb)
    rw [hx, hy] at he
    have e2 : x = y := by simpa using he
    subst e2
    exact snd_inj h.snd (look_in hx) (look_in hy)
  · intro c hc
    obtain ⟨e, he, rfl⟩ := List.mem_map.1 hc
    obtain ⟨b, hb⟩ := key_some (hk e he)
    obtain ⟨m, ks, k1, k2, k3, k4, k5⟩ := h.node _ (look_in hb)
    obtain ⟨m', m1, m2, m3, m4⟩ := hS.went e he
    simp only at k1 k2 k4 k5 ⊢
    have em : m' = m := by
      rw [k1] at m1
      have := (Prod.mk.inj (Option.some.inj m1)).2
      omega
    subst em
    rw [hb]
    refine ⟨m', ks, m2, m3, k3, k4, ?_⟩
    rw [m4, prt_at k1]
    refine ⟨by rw [List.length_map]; exact k5.1, fun i v k hv hkk => ?_⟩
    rw [List.getElem?_map] at hv
    obtain ⟨u, hu, rfl⟩ := Option.map_eq_some_iff.1 hv
    exact relW_went h (k5.2 i u k hu hkk) (hS.shut e he u (by rw [prt_at k1]; exact List.mem_of_getElem? hu))
theorem RelR.collect {S : List Wd × Went} {vs : List Wd} {ns : List (Option Nat)} (hr : RelR C vs ns) (h : Cor ws N C) (hl : ∀ u ∈ vs, u.1 = 4 → (look S.2 u.2.toNat).isSome = true) : RelR (corT C S.2) (vs.map (cpW S.2)) ns := by
  refine ⟨by rw [List.length_map]; exact hr.1, fun i v k hv hk => ?_⟩
  rw [List.getElem?_map] at hv
  obtain ⟨u, hu, rfl⟩ := Option.map_eq_some_iff.1 hv
  exact relW_went h (hr.2 i u k hu hk) (hl u (List.mem_of_getElem? hu))
theorem Cor.pre {ws' : List Wd} (h : Cor ws N C) (hp : ws <+: ws') : Cor ws' N C := by
  refine ⟨h.fst, h.snd, fun c hc => ?_⟩
  obtain ⟨m, ks, k1, k2, k3, k4, k5⟩ := h.node c hc
  obtain ⟨X, rfl⟩ := hp
  refine ⟨m, ks, ?_, by rw [List.length_append]; omega, k3, k4, ?_⟩
  · rw [List.getElem?_append_left (by omega)]
    exact k1
  · rw [partsOf_app k2]
    exact k5
theorem Cor.turn {N' : Nat → Nat → List (Option Nat) → Prop} (h : Cor ws N C) (hn : ∀ c ∈ C, ∀ m ks, N c.2 m ks → N' c.2 m ks) : Cor ws N' C := by
  refine ⟨h.fst, h.snd, fun c hc => ?_⟩
  obtain ⟨m, ks, k1, k2, k3, k4, k5⟩ := h.node c hc
  exact ⟨m, ks, k1, k2, k3, hn c hc m ks k4, k5⟩
theorem Cor.both {D : Went} (h : Cor ws N C) (k : Cor ws N D) (h1 : ∀ p ∈ C.map (·.1), p ∉ D.map (·.1)) (h2 : ∀ b ∈ C.map (·.2), b ∉ D.map (·.2)) : Cor ws N (C ++ D) := by
  refine ⟨?_, ?_, fun c hc => ?_⟩
  · rw [List.map_append, List.nodup_append]
    exact ⟨h.fst, k.fst, fun a ha b hb e => h1 a ha (by rw [e]; exact hb)⟩
  · rw [List.map_append, List.nodup_append]
    exact ⟨h.snd, k.snd, fun a ha b hb e => h2 a ha (by rw [e]; exact hb)⟩
  · rcases List.mem_append.1 hc with hc | hc
    · obtain ⟨m, ks, k1, k2, k3, k4, k5⟩ := h.node c hc
      exact ⟨m, ks, k1, k2, k3, k4, k5.mono fun e he => List.mem_append_left _ he⟩
    · obtain ⟨m, ks, k1, k2, k3, k4, k5⟩ := k.node c hc
      exact ⟨m, ks, k1, k2, k3, k4, k5.mono fun e he => List.mem_append_right _ he⟩
theorem Cor.join {vs : List Wd} {ns : List (Option Nat)} {b : Nat} (h : Cor ws N C) (hr : RelR C vs ns) (h8 : vs.length ≤ 8) (hb : b ∉ C.map (·.2)) (hN : N b vs.length ns) : Cor (ws ++ (0, (vs.length : Int)) :: vs) N ((ws.length, b) :: C) := by
  have hp := h.pre (ws' := ws ++ (0, (vs.length : Int)) :: vs) ⟨_, rfl⟩
  refine ⟨List.nodup_cons.2 ⟨fun hm => ?_, h.fst⟩, List.nodup_cons.2 ⟨hb, h.snd⟩, fun c hc => ?_⟩
  · obtain ⟨c, hc, e⟩ := List.mem_map.1 hm
    obtain ⟨m, ks, _, k2, _⟩ := h.node c hc
    have e : c.1 = ws.length := e
    omega
  · rcases List.mem_cons.1 hc with rfl | hc
    · refine ⟨vs.length, ns, by simp, by simp; omega, h8, hN, ?_⟩
      have h1 := parts_pre (us := ws ++ (0, (vs.length : Int)) :: vs) (A := ws) (C := vs) (h := (0, (vs.length : Int))) (List.prefix_refl _)
      simp only
      rw [h1]
      exact hr.mono fun e he => List.mem_cons_of_mem _ he
    · obtain ⟨m, ks, k1, k2, k3, k4, k5⟩ := hp.node c hc
      exact ⟨m, ks, k1, k2, k3, k4, k5.mono fun e he => List.mem_cons_of_mem _ he⟩
/-- The place of a node. -/
def plB (C : Went) (b : Nat) : Nat := (look (C.map fun e => (e.2, e.1)) b).getD 0
theorem plB_at {C : Went} (h : (C.map (·.2)).Nodup) {p b : Nat} (hc : (p, b) ∈ C) : plB C b = p := by
  unfold plB
  rw [in_look (g := C.map fun e => (e.2, e.1)) (by rw [List.map_map]; exact h) (p := b) (q := p) (List.mem_map.2 ⟨_, hc, rfl⟩)]
  rfl
theorem come_sum {S : List Wd × Went} {vs : List Wd} {seen : List Nat} {n : Nat} (h : Cor ws N C) (hS : CInv ws S) (hR : S = (cpL (cpF ws n) vs ([], [])).2) (hnd : seen.Nodup)
    (h1 : ∀ b ∈ seen, ∃ p, (p, b) ∈ C ∧ (look S.2 p).isSome = true) (h2 : ∀ b ∈ seen, ∀ p, (p, b) ∈ C → ∀ u ∈ prt ws p, u.1 = 4 → ∃ c ∈ seen, (u.2.toNat, c) ∈ C) (h3 : ∀ v ∈ vs, v.1 = 4 → ∃ c ∈ seen, (v.2.toNat, c) ∈ C) :
    S.1.length = (seen.map fun b => wtP ws (plB C b)).sum := by
  have e1 : (S.2.map fun e => wtP ws e.1) = (S.2.map (·.1)).map (wtP ws) := by rw [List.map_map]; rfl
  have e2 : (seen.map fun b => wtP ws (plB C b)) = (seen.map (plB C)).map (wtP ws) := by rw [List.map_map]; rfl
  rw [hS.len, e1, e2]
  refine List.Perm.sum_nat (List.Perm.map _ ?_)
  rw [List.perm_ext_iff_of_nodup hS.nodup (nodup_map_of (f := id) (by simpa using hnd) fun a ha b hb he => ?_)]
  · intro p
    constructor
    · intro hp
      obtain ⟨e, he, rfl⟩ := List.mem_map.1 hp
      rw [hR] at he
      refine cpL_least (P := fun p => p ∈ seen.map (plB C)) (fun v S => cpF_least ?_ n v S) vs ([], []) (fun v hv h4 => ?_) (fun e he => (by cases he)) e he
      · intro p hp u hu h4
        obtain ⟨b, hb, rfl⟩ := List.mem_map.1 hp
        obtain ⟨p, hc, _⟩ := h1 b hb
        rw [plB_at h.snd hc] at hu
        obtain ⟨c, hcs, hcc⟩ := h2 b hb p hc u hu h4
        exact List.mem_map.2 ⟨c, hcs, plB_at h.snd hcc⟩
      · obtain ⟨c, hcs, hcc⟩ := h3 v hv h4
        exact List.mem_map.2 ⟨c, hcs, plB_at h.snd hcc⟩
    · intro hp
      obtain ⟨b, hb, rfl⟩ := List.mem_map.1 hp
      obtain ⟨p, hc, hl⟩ := h1 b hb
      rw [plB_at h.snd hc]
      obtain ⟨q, hq⟩ := Option.isSome_iff_exists.1 hl
      exact List.mem_map.2 ⟨_, look_in hq, rfl⟩
  · obtain ⟨p, hp, _⟩ := h1 a ha
    obtain ⟨q, hq, _⟩ := h1 b hb
    rw [plB_at h.snd hp, plB_at h.snd hq] at he
    subst he
    have e3 := in_look h.fst hp
    rw [in_look h.fst hq] at e3
    exact (Option.some.inj e3).symm
end
end Go.Proofs.Ytdlckjjfbobmpaa
namespace Go.Proofs.Ytdlckjjfbobmpaa

theorem nodup_len {α : Type} [BEq α] [LawfulBEq α] : (l m : List α) → l.Nodup → (∀ a ∈ l, a ∈ m) → l.length ≤ m.length
  | [], _, _, _ => Nat.zero_le _
  | a :: l, m, hn, hm => by
    rw [List.nodup_cons] at hn
    have h1 := hm a (by simp)
    have h2 := nodup_len l (m.erase a) hn.2 fun b hb => (List.mem_erase_of_ne (fun e => hn.1 (by rw [← e]; exact hb))).2 (hm b (List.mem_cons_of_mem _ hb))
    rw [List.length_erase_of_mem h1] at h2
    have := List.length_pos_of_mem h1
    simp only [List.length_cons]
    omega
theorem nodup_lt {n : Nat} {l : List Nat} (hn : l.Nodup) (hl : ∀ a ∈ l, a < n) : l.length ≤ n := by
  have h := nodup_len l (List.range n) hn fun a ha => List.mem_range.2 (hl a ha)
  rwa [List.length_range] at h
/-- While one goes through nodes: what was seen, and what is still to do. -/
structure Bfs (ws : List Wd) (C : Went) (S : List Wd × Went) (vs : List Wd) (seen : List Nat) (l : List (Option Nat)) : Prop where
  nodup : seen.Nodup
  come : ∀ b ∈ seen, ∃ p, (p, b) ∈ C ∧ (look S.2 p).isSome = true
  todo : ∀ b, some b ∈ l → ∃ p, (p, b) ∈ C ∧ (look S.2 p).isSome = true
  kids : ∀ b ∈ seen, ∀ p, (p, b) ∈ C → ∀ u ∈ prt ws p, u.1 = 4 → ∃ c, (u.2.toNat, c) ∈ C ∧ (c ∈ seen ∨ some c ∈ l)
  roots : ∀ v ∈ vs, v.1 = 4 → ∃ c, (v.2.toNat, c) ∈ C ∧ (c ∈ seen ∨ some c ∈ l)
section
variable {ws : List Wd} {N : Nat → Nat → List (Option Nat) → Prop} {C : Went} {S : List Wd × Went} {vs : List Wd} {seen : List Nat} {l : List (Option Nat)}
theorem Bfs.start {ns : List (Option Nat)} (hr : RelR C vs ns) (hl : ∀ u ∈ vs, u.1 = 4 → (look S.2 u.2.toNat).isSome = true) : Bfs ws C S vs [] ns := by
  refine ⟨List.nodup_nil, fun b h => (by cases h), fun b hb => ?_, fun b h => (by cases h), fun v hv h4 => ?_⟩
  · obtain ⟨u, hu, hw⟩ := hr.kid hb
    by_cases h4 : u.1 = 4
    · obtain ⟨c, e, hc⟩ := hw.1 h4
      obtain rfl := Option.some.inj e
      exact ⟨_, hc, hl u hu h4⟩
    · cases hw.2 h4
  · obtain ⟨k, hk, hw⟩ := hr.part hv
    obtain ⟨c, rfl, hc⟩ := hw.1 h4
    exact ⟨c, hc, Or.inr hk⟩
theorem Bfs.skip {k : Option Nat} (h : Bfs ws C S vs seen (k :: l)) (hk : ∀ b, k = some b → b ∈ seen) : Bfs ws C S vs seen l := by
  have key : ∀ c, (c ∈ seen ∨ some c ∈ k :: l) → c ∈ seen ∨ some c ∈ l := fun c hc => by
    rcases hc with hc | hc
    · exact Or.inl hc
    · rcases List.mem_cons.1 hc with e | hc
      · exact Or.inl (hk c e.symm)
      · exact Or.inr hc
  refine ⟨h.nodup, h.come, fun b hb => h.todo b (List.mem_cons_of_mem _ hb), fun b hb p hp u hu h4 => ?_, fun v hv h4 => ?_⟩
  · obtain ⟨c, hc, hm⟩ := h.kids b hb p hp u hu h4
    exact ⟨c, hc, key c hm⟩
  · obtain ⟨c, hc, hm⟩ := h.roots v hv h4
    exact ⟨c, hc, key c hm⟩
theorem Bfs.take {b : Nat} (h : Bfs ws C S vs seen (some b :: l)) (hC : Cor ws N C) (hS : CInv ws S) (hb : b ∉ seen) : ∃ (p m : Nat) (ks : List (Option Nat)), (p, b) ∈ C ∧ N b m ks ∧ m ≤ 8 ∧ wtP ws (plB C b) = 1 + m ∧ ks.length = m ∧ Bfs ws C S vs (seen ++ [b]) (l ++ ks) := by
  obtain ⟨p, hp, hl⟩ := h.todo b (by simp)
  obtain ⟨m, ks, k1, k2, k3, k4, k5⟩ := hC.node _ hp
  simp only at k1 k2 k4 k5
  have key : ∀ c, (c ∈ seen ∨ some c ∈ some b :: l) → c ∈ seen ++ [b] ∨ some c ∈ l ++ ks := fun c hc => by
    rcases hc with hc | hc
    · exact Or.inl (List.mem_append_left _ hc)
    · rcases List.mem_cons.1 hc with e | hc
      · exact Or.inl (List.mem_append_right _ (by rw [Option.some.inj e]; simp))
      · exact Or.inr (List.mem_append_left _ hc)
  obtain ⟨q, hq⟩ := Option.isSome_iff_exists.1 hl
  have hlen : ks.length = m := by rw [← k5.1]; exact partsOf_length k2
  refine ⟨p, m, ks, hp, k4, k3, by rw [plB_at hC.snd hp, wtP_at k1], hlen, ?_, ?_, ?_, ?_, ?_⟩
  · rw [List.nodup_append]
    exact ⟨h.nodup, by simp, fun a ha c hc e => hb (by rw [List.mem_singleton.1 hc] at e; rw [← e]; exact ha)⟩
  · intro c hc
    rcases List.mem_append.1 hc with hc | hc
    · exact h.come c hc
    · obtain rfl := List.mem_singleton.1 hc
      exact ⟨p, hp, hl⟩
  · intro c hc
    rcases List.mem_append.1 hc with hc | hc
    · exact h.todo c (List.mem_cons_of_mem _ hc)
    · obtain ⟨u, hu, hw⟩ := k5.kid hc
      by_cases h4 : u.1 = 4
      · obtain ⟨d, e, hd⟩ := hw.1 h4
        obtain rfl := Option.some.inj e
        exact ⟨_, hd, hS.shut _ (look_in hq) u (by rw [prt_at k1]; exact hu) h4⟩
      · cases hw.2 h4
  · intro c hc p' hp' u hu h4
    rcases List.mem_append.1 hc with hc | hc
    · obtain ⟨d, hd, hm⟩ := h.kids c hc p' hp' u hu h4
      exact ⟨d, hd, key d hm⟩
    · obtain rfl := List.mem_singleton.1 hc
      obtain rfl := snd_inj hC.snd hp hp'
      rw [prt_at k1] at hu
      obtain ⟨k, hk, hw⟩ := k5.part hu
      obtain ⟨d, rfl, hd⟩ := hw.1 h4
      exact ⟨d, hd, Or.inr (List.mem_append_right _ hk)⟩
  · intro v hv h4
    obtain ⟨c, hc, hm⟩ := h.roots v hv h4
    exact ⟨c, hc, key c hm⟩
theorem Bfs.few (h : Bfs ws C S vs seen l) : seen.length ≤ C.length := by
  have h1 := nodup_len seen (C.map (·.2)) h.nodup fun b hb => by
    obtain ⟨p, hp, _⟩ := h.come b hb
    exact List.mem_map.2 ⟨_, hp, rfl⟩
  rwa [List.length_map] at h1
theorem Bfs.ends {n : Nat} (h : Bfs ws C S vs seen []) (hC : Cor ws N C) (hS : CInv ws S) (hR : S = (cpL (cpF ws n) vs ([], [])).2) : S.1.length = (seen.map fun b => wtP ws (plB C b)).sum := by
  refine come_sum hC hS hR h.nodup h.come (fun b hb p hp u hu h4 => ?_) fun v hv h4 => ?_
  · obtain ⟨c, hc, hm⟩ := h.kids b hb p hp u hu h4
    exact ⟨c, hm.resolve_right (by simp), hc⟩
  · obtain ⟨c, hc, hm⟩ := h.roots v hv h4
    exact ⟨c, hm.resolve_right (by simp), hc⟩
end
theorem Cor.few {ws : List Wd} {N : Nat → Nat → List (Option Nat) → Prop} {C : Went} (h : Cor ws N C) : C.length ≤ ws.length := by
  have h1 := nodup_lt h.fst fun p hp => by
    obtain ⟨c, hc, rfl⟩ := List.mem_map.1 hp
    obtain ⟨m, ks, k1, _⟩ := h.node c hc
    exact (List.getElem?_eq_some_iff.1 k1).1
  rwa [List.length_map] at h1
end Go.Proofs.Ytdlckjjfbobmpaa
namespace Go.Proofs.Ytdlckjjfbobmpaa
open Go.RowKit Go.Maps

/-- What holds of copying, and each tuple that went stands for a right term. -/
def CGd (ws : List Wd) (nm : List ByteArray) (S : List Wd × Went) : Prop := CInv ws S ∧ ∀ e ∈ S.2, ∃ (k : Nat) (y : Tm k), Stands ws nm k y (4, (e.1 : Int)) ∧ RightA ⟨k, y⟩
theorem CGd.nil (ws : List Wd) (nm : List ByteArray) : CGd ws nm ([], []) := ⟨CInv.nil ws, fun e h => (by cases h)⟩
theorem right_shut (ws : List Wd) (nm : List ByteArray) : Shut ws fun p => ∃ (k : Nat) (y : Tm k), Stands ws nm k y (4, (p : Int)) ∧ RightA ⟨k, y⟩ := by
  rintro p ⟨k, y, hy, hr⟩ u hu h4
  cases k with
  | zero => exact hy.elim
  | succ k =>
    have hy4 : y.1.1 = 4 := Classical.byContradiction fun h => leaf_not4 hy h rfl
    obtain ⟨p', e, hp', _, hs'⟩ := tuple_parts hy hy4
    have e : p = p' := by
      have := (Prod.mk.inj e).2
      omega
    subst e
    rw [prt_at hp'] at hu
    obtain ⟨z, hz, hst⟩ := hs'.mem hu
    have hz4 : ∃ r : Nat, u = (4, (r : Int)) := by
      cases k with
      | zero => exact hst.elim
      | succ k =>
        have h44 : z.1.1 = 4 := Classical.byContradiction fun h => leaf_not4 hst h h4
        obtain ⟨r, e, _⟩ := tuple_parts hst h44
        exact ⟨r, e⟩
    obtain ⟨r, rfl⟩ := hz4
    exact ⟨k, z, by simpa using hst, parts_right k y z hr hz⟩
theorem word_four {ws : List Wd} {nm : List ByteArray} {n : Nat} {x : Tm n} {v : Wd} (h : Stands ws nm n x v) (h4 : v.1 = 4) : ∃ p : Nat, v = (4, (p : Int)) := by
  cases n with
  | zero => exact h.elim
  | succ n =>
    have h44 : x.1.1 = 4 := Classical.byContradiction fun hn => leaf_not4 h hn h4
    obtain ⟨p, e, _⟩ := tuple_parts h h44
    exact ⟨p, e⟩
theorem CGd.list {ws : List Wd} {nm : List ByteArray} {S : List Wd × Went} (h : CGd ws nm S) {n : Nat} {us : List Wd} {ys : List (Tm n)} (hs : StandL ws nm n us ys) (hr : ∀ y ∈ ys, RightA ⟨n, y⟩) : CGd ws nm (cpL (cpF ws n) us S).2 := by
  refine ⟨(cpL_inv (fun x v S hh hi => cpF_inv n x v S hh hi) us ys hs S h.1).1, cpL_least (P := fun p => ∃ (k : Nat) (y : Tm k), Stands ws nm k y (4, (p : Int)) ∧ RightA ⟨k, y⟩) (fun v S => cpF_least (right_shut ws nm) n v S) us S (fun v hv h4 => ?_) h.2⟩
  obtain ⟨y, hy, hst⟩ := hs.mem hv
  obtain ⟨p, rfl⟩ := word_four hst h4
  exact ⟨n, y, by simpa using hst, hr y hy⟩
theorem CGd.few {ws : List Wd} {nm : List ByteArray} {S : List Wd × Went} (h : CGd ws nm S) : S.1.length ≤ 9 * S.2.length ∧ S.2.length ≤ ws.length := by
  have h2 := nodup_lt h.1.nodup fun p hp => by
    obtain ⟨e, he, rfl⟩ := List.mem_map.1 hp
    exact h.1.lt e he
  rw [List.length_map] at h2
  refine ⟨?_, h2⟩
  rw [h.1.len]
  have key : ∀ g : Went, (∀ e ∈ g, ∃ (k : Nat) (y : Tm k), Stands ws nm k y (4, (e.1 : Int)) ∧ RightA ⟨k, y⟩) → (g.map fun e => wtP ws e.1).sum ≤ 9 * g.length := by
    intro g
    induction g with
    | nil => intro _; simp
    | cons e g ih =>
      intro hg
      have h1 := ih fun e he => hg e (List.mem_cons_of_mem _ he)
      obtain ⟨k, y, hy, hr⟩ := hg e (by simp)
      have h3 : wtP ws e.1 ≤ 9 := by
        cases k with
        | zero => exact hy.elim
        | succ k =>
          have hy4 : y.1.1 = 4 := Classical.byContradiction fun hn => leaf_not4 hy hn rfl
          obtain ⟨p', ee, hp', _⟩ := tuple_parts hy hy4
          have ee : e.1 = p' := by
            have := (Prod.mk.inj ee).2
            omega
          rw [ee, wtP_at hp']
          have := good_len (hdOf k y) (hr (hdOf k y) (by simp [nodes, hdOf]))
          have h8 : y.2.2.length ≤ 8 := this
          omega
      simp only [List.map_cons, List.sum_cons, List.length_cons]
      omega
  exact key S.2 h.2
def FOnf (ws : List Wd) (nm : List ByteArray) (n : Nat) : Prop := ∀ (x : Tm n) (v : Wd) (base cb b0 : Nat) (fv : Value) (S : List Wd × Went) (M : Nat → Prop) (w : World), CpAt base cb fv S M w → w.ownsRow b0 38 2 fv ws.length (wCells ws) → (∀ b, fv.ownBlock = some b → ¬ M b) → base ≤ w.heap.size → Stands ws nm n x v → RightA ⟨n, x⟩ → ws.length ≤ 1000 → CGd ws nm S →
  Calls Try.prog 49 #[.pointer (some ⟨cb, 0, none⟩), wdV v] w fun e w' => e = .returned (wdV (cpF ws n v S).1) ∧ Hid (CLaid base cb fv (cpF ws n v S).2 M w w')

theorem copyall_anf (ws : List Wd) (nm : List ByteArray) (n : Nat) (ih : FOnf ws nm n) (vs : List Wd) (p : List (Tm n)) (base cb b0 : Nat) (fv : Value) (S : List Wd × Went) (M : Nat → Prop) (a : Option Addr) (pc : Nat) (w : World) (h : CpAt base cb fv S M w) (hrow : w.ownsRow b0 38 2 fv ws.length (wCells ws)) (hfm : ∀ b, fv.ownBlock = some b → ¬ M b) (hbw : base ≤ w.heap.size) (hst : StandL ws nm n vs p) (hr : ∀ y ∈ p, RightA ⟨n, y⟩) (hws : ws.length ≤ 1000) (hlen : vs.length ≤ 2000000)
    (hg : CGd ws nm S) (hin : WordsIn w vs a) (hoff : ∀ b o, a = some ⟨b, o, none⟩ → ¬ M b) :
    Calls Try.prog 39 #[.pointer (some ⟨cb, 0, none⟩), .slice a vs.length pc] w fun e w' => ∃ g, e = .returned (.slice (some ⟨g, 0, none⟩) vs.length vs.length) ∧ Hid (AllOut (cpF ws n) vs base cb fv S M g w w') := by
  refine copyall_loop (cpF ws n) vs base cb fv S M a vs.length pc w rfl (by omega) h hin hoff ?_
  intro k v hv M' w1 hc hk hM
  have hkl := (List.getElem?_eq_some_iff.1 hv).1
  obtain ⟨y, hy⟩ : ∃ y, p[k]? = some y := ⟨p[k]'(by rw [← hst.1]; exact hkl), List.getElem?_eq_getElem _⟩
  have hgk := hg.list (hst.take k) fun y hy => hr y (List.mem_of_mem_take hy)
  have hs := hk.size
  refine ih y v base cb b0 fv _ M' w1 hc (row_kept hrow hk fun b e => hfm b e) ?_ (by omega) (hst.2 k v y hv hy) (hr y (List.mem_of_getElem? hy)) hws hgk
  intro b e hm
  rcases hM b hm with hm | hm
  · exact hfm b e hm
  · have := (hrow.lt b e).2
    omega

theorem one_tupf (ws : List Wd) (nm : List ByteArray) (n : Nat) (ih : FOnf ws nm n) (ps : List (Tm n)) (p : Nat) (base cb b0 : Nat) (fv : Value) (S : List Wd × Went) (M : Nat → Prop) (w : World) (h : CpAt base cb fv S M w) (hrow : w.ownsRow b0 38 2 fv ws.length (wCells ws)) (hfm : ∀ b, fv.ownBlock = some b → ¬ M b) (hbw : base ≤ w.heap.size) (hp : ws[p]? = some (0, (ps.length : Int))) (hpl : p + 1 + ps.length ≤ ws.length) (hst : StandL ws nm n (partsOf ws p ps.length) ps) (hr : ∀ y ∈ ps, RightA ⟨n, y⟩) (h8 : ps.length ≤ 8) (hws : ws.length ≤ 1000)
    (hg : CGd ws nm S) (hl : look S.2 p = none) :
    Calls Try.prog 49 #[.pointer (some ⟨cb, 0, none⟩), wdV (4, (p : Int))] w fun e w' => e = .returned (wdV (4, ((cpL (cpF ws n) (partsOf ws p ps.length) S).2.1.length : Int))) ∧
      Hid (CLaid base cb fv ((cpL (cpF ws n) (partsOf ws p ps.length) S).2.1 ++ (0, (ps.length : Int)) :: (cpL (cpF ws n) (partsOf ws p ps.length) S).1, (p, (cpL (cpF ws n) (partsOf ws p ps.length) S).2.1.length) :: (cpL (cpF ws n) (partsOf ws p ps.length) S).2.2) M w w') := by
  obtain ⟨fg, fc, hfv, _, _⟩ := hrow.form (by omega)
  have hpn := partsOf_length hpl
  obtain ⟨s1, s2⟩ := (hg.list hst hr).few
  refine one_new base cb fv S M p _ fg ws.length fc ps.length w _ h hfv hl (by omega) ?_
  intro wD hD hDs
  subst hfv
  have hfl := (hrow.lt fg rfl).2
  have hrD : wD.ownsRow b0 38 2 (.slice (some ⟨fg, 0, none⟩) ws.length fc) ws.length (wCells ws) := own_below hrow hD
  refine (parts_any b0 fg ws.length fc p ps.length ws wD (by omega) hrD hp hpl).mono ?_
  rintro e w' ⟨rfl, pa, pc, rfl, _, hwd, o, rfl⟩
  refine ⟨rfl, o, pc, rfl, ?_⟩
  have hin : WordsIn w' (partsOf ws p ps.length) (some ⟨fg, o, none⟩) := words_in hwd (by have := hD.size; omega)
  have hcall := copyall_anf ws nm n ih (partsOf ws p ps.length) ps base cb b0 (.slice (some ⟨fg, 0, none⟩) ws.length fc) S _ (some ⟨fg, o, none⟩) pc w' (h.later hD) hrD (fun b e hm => hfm b e hm.1) (by have := hD.size; omega) hst hr hws (by omega) hg hin (fun b o' e hm => hfm b (by injection e with e; injection e with e; subst e; rfl) hm.1)
  rw [hpn] at hcall
  refine hcall.mono ?_
  rintro e w2 ⟨g, rfl, HO⟩
  obtain ⟨M', a1, a2, a3, a4, a5, a6⟩ := HO.out
  rw [hpn] at a6
  have hM' : ∀ b, M' b → (M b ∧ b < w.heap.size) ∨ w'.heap.size ≤ b := a3
  have hs2 := a2.size
  refine ⟨g, rfl, fun j => block_cell (a2.block _ (by omega) (fun hm => by omega)) j, ?_, ?_⟩
  · obtain ⟨tv, mb, D, k1, _⟩ := a1
    exact k1.cells.1.1
  refine (addC base cb _ _ M' (cpL (cpF ws n) (partsOf ws p ps.length) S).1 ps.length ps.length (some ⟨g, 0, none⟩) w2 a1 (by have := hD.size; omega) (by omega) (by rw [cpL_length]; exact hpn) (by omega) ?_).mono ?_
  · intro w1 hk
    exact Or.inr ⟨_, rfl, (row_kept a6 hk (fun b e => by simp only [Value.ownBlock] at e; obtain rfl := Option.some.inj e; exact a4)).cells (g := g) rfl⟩
  rintro e w3 ⟨rfl, HL⟩
  obtain ⟨b1, b2⟩ := HL.out
  have hs3 := b2.size
  have hne : ∀ b, w.heap.size ≤ b → b < w.heap.size + 2 → ¬ M' b := fun b x1 x2 hm => by
    rcases hM' b hm with k | k <;> omega
  have hblk : ∀ b, w.heap.size ≤ b → b < w.heap.size + 2 → w3.heap[b]? = w'.heap[b]? := fun b x1 x2 => (b2.block b (by omega) (hne b x1 x2)).trans (a2.block b (by omega) (fun hm => by omega))
  refine ⟨rfl, fun j => block_cell (hblk _ (Nat.le_refl _) (by omega)) j, ?_, ?_⟩
  · obtain ⟨tv, mb, D, k1, _⟩ := b1
    exact k1.cells.1.1
  have bd : Below w3.heap.size w3 w3.drew := (Below.refl _ _).drew
  have b3 := b1.kept (keep_below bd (fun _ => False)) (fun _ _ _ h => h)
  obtain ⟨mb, c1, w4, c2, c3, c4, c5, c6, c7⟩ := one_put b3 p (cpL (cpF ws n) (partsOf ws p ps.length) S).2.1.length (by omega) (by omega) (by simp only; omega)
  have hmb : ∀ b, w.heap.size ≤ b → b < w.heap.size + 2 → b ≠ mb := fun b x1 x2 e => by
    subst e
    rcases c5 with k | k
    · exact hne _ x1 x2 k
    · omega
  have hs4 := c4.size
  have es3 : w3.drew.heap.size = w3.heap.size := rfl
  have hblk4 : ∀ b, w.heap.size ≤ b → b < w.heap.size + 2 → w4.heap[b]? = w'.heap[b]? := fun b x1 x2 => (c4.block b (by omega) (hmb b x1 x2)).trans (hblk b x1 x2)
  refine ⟨mb, w4, c1, c2, fun j => block_cell (hblk4 _ (Nat.le_refl _) (by omega)) j, c7, fun hj => (hblk4 _ (by omega) (by omega)).trans hj, fun v0 v1 => ?_⟩
  have k1 := keep_set w4 (w.heap.size + 1) 0 v0
  have k2 := keep_set (w4.setCell ⟨w.heap.size + 1, 0, none⟩ v0) (w.heap.size + 1) 1 v1
  have k3 := k1.trans k2 (fun b _ h => h)
  refine ⟨(c3.kept k3 ?_).mono ?_, ?_⟩
  · rintro b (hm | hm) _ rfl
    · exact hne _ (by omega) (by omega) hm
    · omega
  · rintro b (hm | hm)
    · rcases hM' b hm with k | k
      · exact Or.inl k.1
      · exact Or.inr (by omega)
    · exact Or.inr (by omega)
  · refine (((((keep_below hD M).trans a2 ?_).trans b2 ?_).trans (keep_below bd (fun _ => False)) ?_).trans c4 ?_).trans k3 ?_
    · exact fun b _ hm => hm.1
    · intro b hb hm
      rcases hM' b hm with k | k
      · exact k.1
      · omega
    · exact fun _ _ h => h.elim
    · rintro b hb rfl
      rcases c5 with k | k
      · rcases hM' _ k with k | k
        · exact k.1
        · omega
      · omega
    · intro b hb h
      omega

theorem one_anf (ws : List Wd) (nm : List ByteArray) (n : Nat) : FOnf ws nm n := by
  induction n with
  | zero => intro x v base cb b0 fv S M w _ _ _ _ hs; exact hs.elim
  | succ n ih =>
    intro x v base cb b0 fv S M w h hrow hfm hbw hs hr hws hg
    have hgd := hr (hdOf n x) (by simp [nodes, hdOf])
    have hlen : x.2.2.length ≤ 8 := good_len (hdOf n x) hgd
    by_cases h4 : x.1.1 = 4
    · obtain ⟨p, rfl, hp, hl, hst⟩ := tuple_parts hs h4
      cases hk : look S.2 p with
      | some q =>
        rw [cpF_old hk]
        refine (one_old base cb fv S M p q w h hk (by omega)).mono ?_
        rintro e w' ⟨rfl, hb⟩
        exact ⟨rfl, claid_else h hb⟩
      | none =>
        rw [cpF_new hk hp]
        exact one_tupf ws nm n ih x.2.2 p base cb b0 fv S M w h hrow hfm hbw hp hl hst (fun y hy => parts_right n x y hr hy) hlen hws hg hk
    · have hv := leaf_not4 hs h4
      rw [cpF_leaf hv]
      refine (one_else cb v.1 v.2 w hv).mono ?_
      rintro e w' ⟨rfl, hb⟩
      exact ⟨rfl, claid_else h hb⟩
end Go.Proofs.Ytdlckjjfbobmpaa
namespace Go.Proofs.Ytdlckjjfbobmpaa
open Go.RowKit Go.Maps

def RootsF (ws : List Wd) (nm : List ByteArray) (n : Nat) (vs : List Wd) (p : List (Tm n)) : Prop := StandL ws nm n vs p ∧ (∀ y ∈ p, RightA ⟨n, y⟩) ∧ (∀ y ∈ p, closedT n y = true) ∧ vs.length ≤ 2000000
theorem RootsF.all {ws : List Wd} {nm : List ByteArray} {n : Nat} {vs : List Wd} {p : List (Tm n)} (h : RootsF ws nm n vs p) (hw : ws.length ≤ 1000) (hn : nm.length ≤ 50000) : vs.all (standsB ws nm) = true ∧ ∀ v ∈ vs, I64 v.2 := by
  have key : ∀ v ∈ vs, standsB ws nm v = true ∧ I64 v.2 := fun v hv => by
    obtain ⟨y, hy, hs⟩ := h.1.mem hv
    exact stands_B hs (h.2.1 y hy) (h.2.2.1 y hy) (by omega) (by omega)
  exact ⟨List.all_eq_true.2 fun v hv => (key v hv).1, fun v hv => (key v hv).2⟩
theorem reached_anf (ws : List Wd) (nm : List ByteArray) (n : Nat) (vs : List Wd) (p : List (Tm n)) (b0 : Nat) (fv : Value) (a : Option Addr) (pc : Nat) (w : World) (hrow : w.ownsRow b0 38 2 fv ws.length (wCells ws)) (hst : StandL ws nm n vs p) (hr : ∀ y ∈ p, RightA ⟨n, y⟩) (hws : ws.length ≤ 1000) (hlen : vs.length ≤ 2000000)
    (hin : WordsIn w vs a) (hoff : ∀ b o, a = some ⟨b, o, none⟩ → b < w.heap.size) :
    Calls Try.prog 31 #[fv, .slice a vs.length pc] w fun e w' => ∃ g tv, e = .returned (.tuple #[tv, .slice (some ⟨g, 0, none⟩) vs.length vs.length]) ∧ Hid (ReachOut (cpL (cpF ws n) vs ([], [])) vs.length g tv w w') := by
  obtain ⟨ta, tc, hfv⟩ : ∃ ta tc, fv = .slice ta ws.length tc := by
    rcases hrow.2 with ⟨e, e0⟩ | ⟨g, c, cur, e, _⟩
    · exact ⟨none, 0, by rw [e, e0]⟩
    · exact ⟨_, c, e⟩
  refine reached_walk _ fv ta ws.length tc a vs.length pc w hfv ?_
  have hA : Below w.heap.size w ((w.alloc (.map #[] 0)).alloc (.cells #[fv, .slice none 0 0, .map (some w.heap.size)] 86)) := ((Below.refl _ _).alloc (Nat.le_refl _) _).alloc (by simp) _
  have hc := cp_made w fv
  have hsA : ((w.alloc (.map #[] 0)).alloc (.cells #[fv, .slice none 0 0, .map (some w.heap.size)] 86)).heap.size = w.heap.size + 2 := by simp
  rw [← hfv]
  generalize (w.alloc (.map #[] 0)).alloc (.cells #[fv, .slice none 0 0, .map (some w.heap.size)] 86) = wA at *
  have hinA : WordsIn wA vs a := by
    rcases hin with hin | ⟨b, o, e, hb, hin⟩
    · exact Or.inl hin
    · exact Or.inr ⟨b, o, e, by omega, fun i v hv => ⟨(below_cells hA b _ hb).trans (hin i v hv).1, (below_cells hA b _ hb).trans (hin i v hv).2⟩⟩
  refine (copyall_anf ws nm n (one_anf ws nm n) vs p w.heap.size (w.heap.size + 1) b0 fv ([], []) _ a pc wA hc (own_below hrow hA) (fun b e hm => by have := (hrow.lt b e).2; omega) (by omega) hst hr hws hlen (CGd.nil ws nm) hinA ?_).mono ?_
  · intro b o e hm
    have := hoff b o e
    omega
  · rintro e w' ⟨g, rfl, H⟩
    obtain ⟨M', k1, k2, k3, k4, k5, k6⟩ := H.out
    obtain ⟨tv, mb, D, j1, j2, j3, j4, j5, j6, j7⟩ := k1
    refine ⟨g, tv, rfl, j1.cells.1.2.1, ⟨?_, ?_, ?_, ?_, ?_⟩, j2, k6, by omega, fun e => k4 (j6 g e)⟩
    · exact k2.os.trans hA.os
    · exact k2.tape.trans hA.tape
    · exact k2.output.trans hA.output
    · have := k2.size; omega
    · intro b hb
      exact (k2.block b (by omega) (by omega)).trans (hA.block b hb)
theorem hlive_anf (n : Nat) (p : List (Tm n)) (vs : List Wd) (a : Option Addr) (pc base hp : Nat) (room : Int) (ws : List Wd) (nm : List ByteArray) (M : Nat → Prop) (w : World) (h : HpAt base hp room ws nm M w) (hr : RootsF ws nm n vs p) (hin : WordsIn w vs a) (hlt : ∀ b o, a = some ⟨b, o, none⟩ → b < w.heap.size) (hw : ws.length ≤ 1000) (hn : nm.length ≤ 50000) :
    Calls Try.prog 16 #[.pointer (some ⟨hp, 0, none⟩), .slice a vs.length pc] w fun e w' => e = .returned (.tuple #[.int .i64 (rootsR ws n vs).2.1.length, .int .i64 0]) ∧ Below w.heap.size w w' := by
  obtain ⟨hall, hi64⟩ := hr.all hw hn
  obtain ⟨tv, lv, mv, h1, h2, h3, h4, h5, h6, h7⟩ := id h
  obtain ⟨⟨c0, c1, c2, c3⟩, hf⟩ := h1.cells
  obtain ⟨ta, tc, rfl⟩ : ∃ ta tc, tv = .slice ta ws.length tc := by
    rcases h2.2 with ⟨e, e0⟩ | ⟨g, c, cur, e, _⟩
    · exact ⟨none, 0, by rw [e, e0]⟩
    · exact ⟨_, c, e⟩
  refine live_walk (rootsR ws n vs) hp ta ws.length tc a vs.length pc w h1.lt c1 ?_ ?_
  · have hk := allStand_any base hp room ws nm M vs a vs.length pc w h (by omega) rfl (by have := hr.2.2.2; omega) hin hi64
    rw [hall] at hk
    exact hk
  · intro w1 hb
    refine reached_anf ws nm n vs p base (.slice ta ws.length tc) a pc w1 (own_below h2 hb) hr.1 hr.2.1 hw hr.2.2.2 (words_later hin hb) ?_
    intro b o e
    exact Nat.lt_of_lt_of_le (hlt b o e) hb.size

theorem hcollect_anf (n : Nat) (p : List (Tm n)) (vs : List Wd) (a : Option Addr) (pc base hp : Nat) (room : Int) (ws : List Wd) (nm : List ByteArray) (M : Nat → Prop) (w : World) (h : HpAt base hp room ws nm M w) (hr : RootsF ws nm n vs p) (hin : WordsIn w vs a) (hlt : ∀ b o, a = some ⟨b, o, none⟩ → b < w.heap.size) (hbw : base ≤ w.heap.size) (hw : ws.length ≤ 1000) (hn : nm.length ≤ 50000) :
    Calls Try.prog 13 #[.pointer (some ⟨hp, 0, none⟩), .slice a vs.length pc] w fun e w' => ∃ g, e = .returned (.tuple #[.slice (some ⟨g, 0, none⟩) vs.length vs.length, .int .i64 0]) ∧ Hid (CollOut base hp room (rootsR ws n vs) nm M g w w') := by
  obtain ⟨hall, hi64⟩ := hr.all hw hn
  obtain ⟨tv, lv, mv, h1, h2, h3, h4, h5, h6, h7⟩ := id h
  obtain ⟨⟨c0, c1, c2, c3⟩, hf⟩ := h1.cells
  obtain ⟨ta, tc, rfl⟩ : ∃ ta tc, tv = .slice ta ws.length tc := by
    rcases h2.2 with ⟨e, e0⟩ | ⟨g, c, cur, e, _⟩
    · exact ⟨none, 0, by rw [e, e0]⟩
    · exact ⟨_, c, e⟩
  refine (collect_walk (rootsR ws n vs) hp ta ws.length tc a vs.length pc w h1.lt c1 (hf 1) ?_ ?_).mono ?_
  · have hk := allStand_any base hp room ws nm M vs a vs.length pc w h (by omega) rfl (by have := hr.2.2.2; omega) hin hi64
    rw [hall] at hk
    exact hk
  · intro w1 hb
    refine reached_anf ws nm n vs p base (.slice ta ws.length tc) a pc w1 (own_below h2 hb) hr.1 hr.2.1 hw hr.2.2.2 (words_later hin hb) ?_
    intro b o e
    exact Nat.lt_of_lt_of_le (hlt b o e) hb.size
  · rintro e w' ⟨g, tv, w1, w2, rfl, rfl, H⟩
    exact ⟨g, rfl, coll_out h H.out.1 H.out.2 hbw⟩
end Go.Proofs.Ytdlckjjfbobmpaa
namespace Go.Proofs.Ytdlckjjfbobmpaa
open Go.RowKit

section
variable {P : Program} {md : Region.Mode} {ops : Array Oper} {Q : Exit → Act → World → Prop} {S : World → Prop}
/-- Those that may come up: of each row the next one, where that is a state that can be. -/
def nexts (V : Nat → Nat → Nat → Bool) (n1 n2 n3 : Nat) (o1 o2 o3 : Nat → Nat) (p1 p2 p3 : Nat) : List Nat := (if p1 < n1 ∧ V (p1 + 1) p2 p3 = true then [o1 p1] else []) ++ ((if p2 < n2 ∧ V p1 (p2 + 1) p3 = true then [o2 p2] else []) ++ (if p3 < n3 ∧ V p1 p2 (p3 + 1) = true then [o3 p3] else []))
/-- One operation of a row is carried out: behind it the relation is one further. -/
def StepsTo (P : Program) (ops : Array Oper) (Q : Exit → Act → World → Prop) (S : World → Prop) (i : Nat) (R' : Act → World → Prop) (a : Act) (w : World) : Prop := wpOp P ops Q i (fun a' w' => S w' ∧ R' a' w') a w
/-- Some may come up, and none but these. -/
def readyB (md : Region.Mode) (ops : Array Oper) (l : Array Bool) (ns : List Nat) : Bool := !(Region.ready md ops l).isEmpty && (Region.ready md ops l).all fun i => ns.contains i
theorem readyB_spec {md : Region.Mode} {ops : Array Oper} {l : Array Bool} {ns : List Nat} (h : readyB md ops l ns = true) : Region.ready md ops l ≠ [] ∧ ∀ i ∈ Region.ready md ops l, i ∈ ns := by
  simp only [readyB, Bool.and_eq_true, List.all_eq_true] at h
  refine ⟨fun e => ?_, fun i hi => by simpa using h.2 i hi⟩
  rw [e] at h
  simp at h
theorem three_rows (V : Nat → Nat → Nat → Bool) {n1 n2 n3 : Nat} {o1 o2 o3 : Nat → Nat} {L : Nat → Nat → Nat → Array Bool} {R : Nat → Nat → Nat → Act → World → Prop} {fuel : Nat}
    (hr : ∀ p1 p2 p3, p1 ≤ n1 → p2 ≤ n2 → p3 ≤ n3 → p1 + p2 + p3 < n1 + n2 + n3 → V p1 p2 p3 = true → readyB md ops (L p1 p2 p3) (nexts V n1 n2 n3 o1 o2 o3 p1 p2 p3) = true)
    (hL1 : ∀ p1 p2 p3, p1 < n1 → p2 ≤ n2 → p3 ≤ n3 → (L p1 p2 p3).setIfInBounds (o1 p1) true = L (p1 + 1) p2 p3)
    (hL2 : ∀ p1 p2 p3, p1 ≤ n1 → p2 < n2 → p3 ≤ n3 → (L p1 p2 p3).setIfInBounds (o2 p2) true = L p1 (p2 + 1) p3)
    (hL3 : ∀ p1 p2 p3, p1 ≤ n1 → p2 ≤ n2 → p3 < n3 → (L p1 p2 p3).setIfInBounds (o3 p3) true = L p1 p2 (p3 + 1))
    (h1 : ∀ p1 p2 p3 a w, p1 < n1 → p2 ≤ n2 → p3 ≤ n3 → R p1 p2 p3 a w → StepsTo P ops Q S (o1 p1) (R (p1 + 1) p2 p3) a w)
    (h2 : ∀ p1 p2 p3 a w, p1 ≤ n1 → p2 < n2 → p3 ≤ n3 → R p1 p2 p3 a w → StepsTo P ops Q S (o2 p2) (R p1 (p2 + 1) p3) a w)
    (h3 : ∀ p1 p2 p3 a w, p1 ≤ n1 → p2 ≤ n2 → p3 < n3 → R p1 p2 p3 a w → StepsTo P ops Q S (o3 p3) (R p1 p2 (p3 + 1)) a w)
    (hf : ∀ a w, R n1 n2 n3 a w → wpAnyH P md ops Q S fuel (L n1 n2 n3) a w) :
    (r p1 p2 p3 : Nat) → (a : Act) → (w : World) → p1 ≤ n1 → p2 ≤ n2 → p3 ≤ n3 → r + (p1 + p2 + p3) = n1 + n2 + n3 → V p1 p2 p3 = true → R p1 p2 p3 a w → wpAnyH P md ops Q S (fuel + r) (L p1 p2 p3) a w
  | 0, p1, p2, p3, a, w, l1, l2, l3, e, _, h => by
    obtain rfl : p1 = n1 := by omega
    obtain rfl : p2 = n2 := by omega
    obtain rfl : p3 = n3 := by omega
    exact hf a w h
  | r + 1, p1, p2, p3, a, w, l1, l2, l3, e, hv, h => by
    obtain ⟨hr0, hr1⟩ := readyB_spec (hr p1 p2 p3 l1 l2 l3 (by omega) hv)
    refine wpAnyH_all rfl hr0 fun i hi => ?_
    replace hi := hr1 i hi
    unfold nexts at hi
    rcases List.mem_append.1 hi with hi | hi
    · by_cases c : p1 < n1 ∧ V (p1 + 1) p2 p3 = true
      · rw [if_pos c] at hi
        obtain rfl := List.mem_singleton.1 hi
        refine wpOp_mono (fun a' w' h' => ⟨h'.1, ?_⟩) (h1 p1 p2 p3 a w c.1 l2 l3 h)
        rw [hL1 p1 p2 p3 c.1 l2 l3]
        exact three_rows V hr hL1 hL2 hL3 h1 h2 h3 hf r (p1 + 1) p2 p3 a' w' c.1 l2 l3 (by omega) c.2 h'.2
      · rw [if_neg c] at hi
        cases hi
    · rcases List.mem_append.1 hi with hi | hi
      · by_cases c : p2 < n2 ∧ V p1 (p2 + 1) p3 = true
        · rw [if_pos c] at hi
          obtain rfl := List.mem_singleton.1 hi
          refine wpOp_mono (fun a' w' h' => ⟨h'.1, ?_⟩) (h2 p1 p2 p3 a w l1 c.1 l3 h)
          rw [hL2 p1 p2 p3 l1 c.1 l3]
          exact three_rows V hr hL1 hL2 hL3 h1 h2 h3 hf r p1 (p2 + 1) p3 a' w' l1 c.1 l3 (by omega) c.2 h'.2
        · rw [if_neg c] at hi
          cases hi
      · by_cases c : p3 < n3 ∧ V p1 p2 (p3 + 1) = true
        · rw [if_pos c] at hi
          obtain rfl := List.mem_singleton.1 hi
          refine wpOp_mono (fun a' w' h' => ⟨h'.1, ?_⟩) (h3 p1 p2 p3 a w l1 l2 c.1 h)
          rw [hL3 p1 p2 p3 l1 l2 c.1]
          exact three_rows V hr hL1 hL2 hL3 h1 h2 h3 hf r p1 p2 (p3 + 1) a' w' l1 l2 c.1 (by omega) c.2 h'.2
        · rw [if_neg c] at hi
          cases hi
/-- A plain operation's step. -/
theorem steps_of {i : Nat} {o : Oper} {R' : Act → World → Prop} {a : Act} {w : World} (ho : ops[i]? = some o) (hg : o.guard = none) (h : o.wp P a w (fun a' w' => S w' ∧ R' a' w') Q) : StepsTo P ops Q S i R' a w := by
  unfold StepsTo wpOp
  simp only [ho]
  have hw : Region.wanted o (yielded ops a.tmps) = true := by simp [Region.wanted, hg]
  simp only [hw, if_true]
  exact Or.inl h
end
theorem put_put (a : Act) (d : Nat) (v u : Value) : (a.put (some d) v).put (some d) u = a.put (some d) u := by simp [Act.put]
theorem put_swap (a : Act) {d e : Nat} (v u : Value) (h : d ≠ e) : (a.put (some d) v).put (some e) u = (a.put (some e) u).put (some d) v := Act.put_comm a v u fun x hx hy => h (by rw [Option.some.inj hx, Option.some.inj hy])
theorem eval_put (a : Act) {d e : Nat} (v : Value) (h : d ≠ e) : (a.put (some d) v).eval (.tmp e) = a.eval (.tmp e) := by
  simp [Act.put, Act.eval, h]
theorem eval_same (a : Act) {d : Nat} (v : Value) (h : d < a.tmps.size) : (a.put (some d) v).eval (.tmp d) = v := by
  simp [Act.put, Act.eval, h]
end Go.Proofs.Ytdlckjjfbobmpaa
namespace Go.Proofs.Ytdlckjjfbobmpaa
open Go.RowKit Go.Maps

/-- All but the blocks of which S holds are as they were; new ones may be there. -/
structure Kee (S : Nat → Prop) (w w' : World) : Prop where
  os : w'.os = w.os
  tape : w'.tape = w.tape
  output : w'.output = w.output
  size : w.heap.size ≤ w'.heap.size
  block : ∀ b, b < w.heap.size → ¬ S b → w'.heap[b]? = w.heap[b]?
theorem Kee.refl (S : Nat → Prop) (w : World) : Kee S w w := ⟨rfl, rfl, rfl, Nat.le_refl _, fun _ _ _ => rfl⟩
theorem Kee.trans {S T : Nat → Prop} {w w1 w2 : World} (h : Kee S w w1) (k : Kee T w1 w2) (hT : ∀ b, b < w.heap.size → T b → S b) : Kee S w w2 :=
  ⟨k.os.trans h.os, k.tape.trans h.tape, k.output.trans h.output, Nat.le_trans h.size k.size, fun b hb hs => (k.block b (Nat.lt_of_lt_of_le hb h.size) (fun ht => hs (hT b hb ht))).trans (h.block b hb hs)⟩
theorem Kee.mono {S T : Nat → Prop} {w w1 : World} (h : Kee S w w1) (hT : ∀ b, b < w.heap.size → S b → T b) : Kee T w w1 := ⟨h.os, h.tape, h.output, h.size, fun b hb hs => h.block b hb fun k => hs (hT b hb k)⟩
theorem kee_below {w w' : World} (h : Below w.heap.size w w') (S : Nat → Prop) : Kee S w w' := ⟨h.os, h.tape, h.output, h.size, fun b hb _ => h.block b hb⟩
theorem kee_grown {w w' : World} {row : Option Nat} (h : w.grownBy w' row) : Kee (fun b => row = some b) w w' := ⟨h.os, h.tape, h.output, h.size, fun b hb hs => h.block b hb fun e => hs e.symm⟩
theorem kee_set (w : World) (q o : Nat) (v : Value) : Kee (fun b => b = q) w (w.setCell ⟨q, o, none⟩ v) :=
  ⟨rfl, rfl, rfl, by simp [World.setCell], fun b _ hne => by
    have : q ≠ b := fun e => hne e.symm
    simp [World.setCell, Array.getElem?_modify, this]⟩
theorem Kee.below {S : Nat → Prop} {w w' : World} {B : Nat} (h : Kee S w w') (hB : B ≤ w.heap.size) (hS : ∀ b, b < B → ¬ S b) : Below B w w' := ⟨h.os, h.tape, h.output, h.size, fun b hb => h.block b (by omega) (hS b hb)⟩
theorem Kee.cell {S : Nat → Prop} {w w' : World} (h : Kee S w w') {b : Nat} (o : Nat) (hb : b < w.heap.size) (hS : ¬ S b) : w'.cell? ⟨b, o, none⟩ = w.cell? ⟨b, o, none⟩ := by
  simp only [World.cell?, h.block b hb hS]
theorem row_kee {base : Nat} {e : TypeId} {sz : Nat} {v : Value} {n : Nat} {xs : List Value} {w w' : World} {S : Nat → Prop} (h : w.ownsRow base e sz v n xs) (k : Kee S w w') (h1 : ∀ b, v.ownBlock = some b → ¬ S b) : w'.ownsRow base e sz v n xs := by
  refine ⟨h.1, ?_⟩
  rcases h.2 with ⟨e, e0⟩ | ⟨g, cap, cur, e, hg, hh, hr⟩
  · exact Or.inl ⟨e, e0⟩
  · exact Or.inr ⟨g, cap, cur, e, hg, (k.block g (Array.getElem?_eq_some_iff.1 hh).1 (h1 g (by rw [e]; rfl))).trans hh, hr⟩
theorem Held.kee {S : Nat → Prop} {w w' : World} (h : Kee S w w') {b o : Nat} (hb : b < w.heap.size) (hS : ¬ S b) : {n : Nat} → {x : Tm n} → Held w b o n x → Held w' b o n x
  | 0, _, k => k
  | _ + 1, _, k => by
    obtain ⟨k0, k1, k2, k3⟩ := k
    exact ⟨(h.cell _ hb hS).trans k0, (h.cell _ hb hS).trans k1, (h.cell _ hb hS).trans k2, (h.cell _ hb hS).trans k3⟩
/-- A term that lies in blocks that stay, stays. -/
theorem In.kee {S : Nat → Prop} {w w' : World} (h : Kee S w w') : {n : Nat} → {x : Tm n} → In w.heap.size w n x → Off (fun b => ¬ S b) n x → In w'.heap.size w' n x
  | 0, _, k, _ => k
  | _ + 1, x, k, o => by
    obtain ⟨k0, k1⟩ := k
    refine ⟨k0, ?_⟩
    rcases k1 with k1 | ⟨b, f, e, hb, k1⟩
    · exact Or.inl k1
    · rcases o with o | ⟨b', f', e', hb', o⟩
      · exact Or.inl o
      · rw [e] at e'
        injection e' with e'
        injection e' with e1 e2
        subst e1 e2
        exact Or.inr ⟨b, f, e, Nat.lt_of_lt_of_le hb h.size, fun i y hy => ⟨(k1 i y hy).1.kee h hb hb', (k1 i y hy).2.kee h (o i y hy)⟩⟩

/-! ### the keys -/
theorem types_some : ∃ m, Try.prog.types.size = m + 1 := by
  have h : (Try.prog.types.size == 0) = false := by kernel_rfl
  have h' : Try.prog.types.size ≠ 0 := beq_eq_false_iff_ne.1 h
  exact ⟨Try.prog.types.size - 1, by omega⟩
/-- A pair of numbers, as a value and as what is read of it. -/
def pk (k : Int × Int) : Value := .agg #[.int .i64 k.1, .int .i64 k.2]
def kl (k : Int × Int) : Lit := .string (keyBytes [.int .i64 k.1, .int .i64 k.2])
def I2 (k : Int × Int) : Prop := I64 k.1 ∧ I64 k.2
theorem wf_of {a : Int} (h : I64 a) : (Lit.int .i64 a).wf = true := WalkArith.wf_i64 (by unfold I64 at h; omega)
theorem of_wf {a : Int} (h : (Lit.int .i64 a).wf = true) : I64 a := by
  have : -9223372036854775808 ≤ a ∧ a ≤ 9223372036854775807 := by simpa [Lit.wf, IntKind.min, IntKind.max, IntKind.signed, IntKind.bits] using h
  exact this
/-- An element as it is. -/
def rawE (v : Value) : Option (DataW Value × List MemPlace) := some (.held v, [])
def upd {α : Type} (f : Int × Int → α) (k : Int × Int) (x : α) : Int × Int → α := fun j => if j = k then x else f j
theorem upd_same {α : Type} (f : Int × Int → α) (k : Int × Int) (x : α) : upd f k x k = x := if_pos rfl
theorem upd_other {α : Type} (f : Int × Int → α) {k j : Int × Int} (x : α) (h : j ≠ k) : upd f k x j = f j := if_neg h
def nilS : Value := .slice none 0 0
def tCells (N : Nat) (l : List (Tm N)) : List Value := ndCells (l.map (hdT N))
theorem tCells_length (N : Nat) (l : List (Tm N)) : (tCells N l).length = l.length * 4 := by simp [tCells, ndCells_length]
theorem tCells_append (N : Nat) (l r : List (Tm N)) : tCells N (l ++ r) = tCells N l ++ tCells N r := by simp [tCells, ndCells_append]
/-- A row of terms. -/
def TRow (base N : Nat) (v : Value) (l : List (Tm N)) (w : World) : Prop := w.ownsRow base 32 4 v l.length (tCells N l)
/-- The blocks that it is made of. -/
def gmM (mb : Nat) (sl : Int × Int → Value) (b : Nat) : Prop := b = mb ∨ ∃ k, I2 k ∧ (sl k).ownBlock = some b
theorem own_cells {w : World} {base : Nat} {e : TypeId} {sz : Nat} {v : Value} {n : Nat} {xs : List Value} (h : w.ownsRow base e sz v n xs) (b : Nat) (hb : v.ownBlock = some b) : ∃ cur, w.heap[b]? = some (.cells cur e (0, 0)) := by
  rcases h.2 with ⟨rfl, _⟩ | ⟨g, cap, cur, rfl, _, hh, _⟩
  · simp [Value.ownBlock] at hb
  · simp [Value.ownBlock] at hb
    subst hb
    exact ⟨cur, hh⟩
variable {base mb n N : Nat} {f : Int × Int → List (Tm N)} {sl : Int × Int → Value} {w : World}
theorem TRow.rebase {base' : Nat} {v : Value} {l : List (Tm N)} (h : TRow base N v l w) (hb : base' ≤ base) : TRow base' N v l w := own_base h hb
theorem rawE_inv {v : Value} {d : DataW Value} {ps : List MemPlace} (h : rawE v = some (d, ps)) : d = .held v := by
  unfold rawE at h
  injection h with h
  injection h with h1 h2
  exact h1.symm
set_option maxRecDepth 100000 in
theorem zeroRow (w : World) : (zeroValue 29).run Try.prog w = .ok (.slice none 0 0) w := by kernel_rfl
theorem turned_kee {w2 : World} (ht : w.mapTurned w2 mb) : Kee (fun b => b = mb) w w2 ∧ w2.heap.size = w.heap.size := by
  refine ⟨(kee_grown ht.grown).mono fun b _ e => (Option.some.inj e).symm, ?_⟩
  obtain ⟨_, _, _, _, _, rfl⟩ := ht
  simp [ChangeMaps.setBlock]
end Go.Proofs.Ytdlckjjfbobmpaa
