/- What is proved here: plain facts on a heap as a whole (HpAt): which blocks are its own, that it stays while others turn; what laying a term makes of words and names (layF); and what number and add leave of the whole. No condition but sizes. -/
import Derived.Test.YtfaoeccnhbcjgabHp4
namespace Go.Proofs.Ytfaoeccnhbcjgab
open Go.RowKit

def eqN (s t : ByteArray) : Bool := t.data == s.data
theorem eqN_iff (s t : ByteArray) : eqN s t = true ↔ t = s := by
  cases s; cases t
  simp [eqN]
/-- The names with one more, if it isn't there yet. -/
def nmPut (nm : List ByteArray) (s : ByteArray) : List ByteArray := if nm.any (eqN s) then nm else nm ++ [s]
def nmIdx (nm : List ByteArray) (s : ByteArray) : Nat := nm.findIdx (eqN s)
theorem nm_any (nm : List ByteArray) (s : ByteArray) : nm.any (eqN s) = true ↔ s ∈ nm := by
  rw [List.any_eq_true]
  constructor
  · rintro ⟨t, ht, e⟩
    rw [eqN_iff] at e
    exact e ▸ ht
  · exact fun h => ⟨s, h, (eqN_iff s s).2 rfl⟩
theorem nmIdx_at {nm : List ByteArray} {s : ByteArray} (hnd : nm.Nodup) {i : Nat} (hi : nm[i]? = some s) : nmIdx nm s = i := by
  have hl := (List.getElem?_eq_some_iff.1 hi).1
  have hlt : nmIdx nm s < nm.length := by
    unfold nmIdx
    rw [List.findIdx_lt_length]
    exact ⟨s, List.mem_of_getElem? hi, (eqN_iff s s).2 rfl⟩
  have he : nm[nmIdx nm s]'hlt = s := (eqN_iff s _).1 (List.findIdx_getElem (w := hlt))
  have e2 : nm[nmIdx nm s]? = nm[i]? := by rw [hi, List.getElem?_eq_getElem hlt, he]
  exact (List.getElem?_inj hlt hnd).1 e2
def layL {α : Type} (f : α → List Wd → List ByteArray → Wd × List Wd × List ByteArray) : List α → List Wd → List ByteArray → List Wd × List Wd × List ByteArray
  | [], ws, nm => ([], ws, nm)
  | y :: l, ws, nm => ((f y ws nm).1 :: (layL f l (f y ws nm).2.1 (f y ws nm).2.2).1, (layL f l (f y ws nm).2.1 (f y ws nm).2.2).2)
/-- A term's word, and words and names behind it. -/
def layF : (n : Nat) → Tm n → List Wd → List ByteArray → Wd × List Wd × List ByteArray
  | 0, _, ws, nm => ((0, 0), ws, nm)
  | n + 1, x, ws, nm =>
    if x.1.1 = 2 then ((2, (nmIdx (nmPut nm x.1.2.2) x.1.2.2 : Int)), ws, nmPut nm x.1.2.2)
    else if x.1.1 = 4 then
      ((4, ((layL (layF n) x.2.2 ws nm).2.1.length : Int)), (layL (layF n) x.2.2 ws nm).2.1 ++ (0, (x.2.2.length : Int)) :: (layL (layF n) x.2.2 ws nm).1, (layL (layF n) x.2.2 ws nm).2.2)
    else ((x.1.1, x.1.2.1), ws, nm)
theorem layL_snoc {α : Type} (f : α → List Wd → List ByteArray → Wd × List Wd × List ByteArray) (l : List α) (y : α) (ws : List Wd) (nm : List ByteArray) :
    layL f (l ++ [y]) ws nm = ((layL f l ws nm).1 ++ [(f y (layL f l ws nm).2.1 (layL f l ws nm).2.2).1], (f y (layL f l ws nm).2.1 (layL f l ws nm).2.2).2) := by
  induction l generalizing ws nm with
  | nil => simp [layL]
  | cons a l ih => simp [layL, ih]
theorem layL_length {α : Type} (f : α → List Wd → List ByteArray → Wd × List Wd × List ByteArray) (l : List α) (ws : List Wd) (nm : List ByteArray) : (layL f l ws nm).1.length = l.length := by
  induction l generalizing ws nm with
  | nil => simp [layL]
  | cons a l ih => simp [layL, ih]
theorem nmPut_length (nm : List ByteArray) (s : ByteArray) : (nmPut nm s).length ≤ nm.length + 1 := by
  unfold nmPut
  split <;> simp
theorem layF_sizes : (n : Nat) → (x : Tm n) → (ws : List Wd) → (nm : List ByteArray) → ((layF n x ws nm).2.1.length : Int) = ws.length + sz n x ∧ (layF n x ws nm).2.2.length ≤ nm.length + (nodes n x).length
  | 0, _, _, _ => by simp [layF, sz]
  | n + 1, x, ws, nm => by
    have key : ∀ (l : List (Tm n)) (ws : List Wd) (nm : List ByteArray), ((layL (layF n) l ws nm).2.1.length : Int) + l.length = ws.length + (l.map fun y => 1 + sz n y).sum ∧ (layL (layF n) l ws nm).2.2.length ≤ nm.length + (l.flatMap fun y => nodes n y).length := by
      intro l
      induction l with
      | nil => intro ws nm; simp [layL]
      | cons y l ih =>
        intro ws nm
        obtain ⟨a1, a2⟩ := layF_sizes n y ws nm
        obtain ⟨b1, b2⟩ := ih (layF n y ws nm).2.1 (layF n y ws nm).2.2
        simp only [layL, List.map_cons, List.sum_cons, List.flatMap_cons, List.length_append, List.length_cons]
        exact ⟨by omega, by omega⟩
    obtain ⟨k1, k2⟩ := key x.2.2 ws nm
    have k3 := nmPut_length nm x.1.2.2
    have k4 := layL_length (layF n) x.2.2 ws nm
    have k5 : (nodes (n + 1) x).length = 1 + (x.2.2.flatMap fun y => nodes n y).length := by simp [nodes]; omega
    rw [k5]
    by_cases h2 : x.1.1 = 2
    · have h4 : ¬ x.1.1 = 4 := by omega
      simp only [layF, sz, if_pos h2, if_neg h4]
      exact ⟨by omega, by omega⟩
    · by_cases h4 : x.1.1 = 4
      · simp only [layF, sz, if_neg h2, if_pos h4, List.length_append, List.length_cons, k4]
        exact ⟨by omega, by omega⟩
      · simp only [layF, sz, if_neg h2, if_neg h4]
        exact ⟨by omega, by omega⟩

/-- A heap in memory, whose blocks are among those of which M holds. -/
def HpAt (base hp : Nat) (room : Int) (ws : List Wd) (nm : List ByteArray) (M : Nat → Prop) (w : World) : Prop :=
  ∃ tv lv mv, HB hp room tv lv mv w ∧ w.ownsRow base 37 2 tv ws.length (wCells ws) ∧ NamesAt base nm lv mv w ∧ M hp ∧ (∀ b, tv.ownBlock = some b → M b) ∧ (∀ b, lv.ownBlock = some b → M b) ∧ ∀ b, mapBlock mv = some b → M b
theorem row_kept {base : Nat} {e : TypeId} {sz : Nat} {v : Value} {n : Nat} {xs : List Value} {w w' : World} {S : Nat → Prop} (h : w.ownsRow base e sz v n xs) (k : Keep S w w') (h1 : ∀ b, v.ownBlock = some b → ¬ S b) : w'.ownsRow base e sz v n xs := by
  refine ⟨h.1, ?_⟩
  rcases h.2 with ⟨e, e0⟩ | ⟨g, cap, cur, e, hg, hh, hr⟩
  · exact Or.inl ⟨e, e0⟩
  · exact Or.inr ⟨g, cap, cur, e, hg, (k.block g (Array.getElem?_eq_some_iff.1 hh).1 (h1 g (by rw [e]; rfl))).trans hh, hr⟩
theorem HpAt.kept {base hp : Nat} {room : Int} {ws : List Wd} {nm : List ByteArray} {M S : Nat → Prop} {w w' : World} (h : HpAt base hp room ws nm M w) (k : Keep S w w') (hd : ∀ b, M b → b < w.heap.size → ¬ S b) : HpAt base hp room ws nm M w' := by
  obtain ⟨tv, lv, mv, h1, h2, h3, h4, h5, h6, h7⟩ := h
  refine ⟨tv, lv, mv, h1.kept (k.block hp h1.lt (hd hp h4 h1.lt)), row_kept h2 k fun b e => hd b (h5 b e) (h2.lt b e).2, ?_, h4, h5, h6, h7⟩
  refine h3.kept k (fun b e => hd b (h6 b e) (h3.1.lt b e).2) fun b e => hd b (h7 b e) ?_
  rcases h3.2.2 with ⟨rfl, _⟩ | ⟨mb, D, rfl, _, hm, _⟩
  · simp [mapBlock] at e
  · simp only [mapBlock] at e
    obtain rfl := Option.some.inj e
    exact hm.lt
theorem HpAt.mono {base hp : Nat} {room : Int} {ws : List Wd} {nm : List ByteArray} {M S : Nat → Prop} {w : World} (h : HpAt base hp room ws nm M w) (k : ∀ b, M b → S b) : HpAt base hp room ws nm S w := by
  obtain ⟨tv, lv, mv, h1, h2, h3, h4, h5, h6, h7⟩ := h
  exact ⟨tv, lv, mv, h1, h2, h3, k _ h4, fun b e => k b (h5 b e), fun b e => k b (h6 b e), fun b e => k b (h7 b e)⟩

/-- What a call that laid something leaves. -/
def Laid (base hp : Nat) (room : Int) (ws : List Wd) (nm : List ByteArray) (M : Nat → Prop) (w w' : World) : Prop := HpAt base hp room ws nm (fun b => M b ∨ w.heap.size ≤ b) w' ∧ Keep M w w'

theorem row_types {w : World} {base base' : Nat} {e e' : TypeId} {s s' n n' : Nat} {v v' : Value} {xs ys : List Value} (h : w.ownsRow base e s v n xs) (h' : w.ownsRow base' e' s' v' n' ys) (hne : e ≠ e') : ∀ b, v.ownBlock = some b → v'.ownBlock ≠ some b := by
  intro b e1 e2
  rcases h.2 with ⟨rfl, _⟩ | ⟨g, cap, cur, rfl, _, hh, _⟩
  · simp [Value.ownBlock] at e1
  · rcases h'.2 with ⟨rfl, _⟩ | ⟨g', cap', cur', rfl, _, hh', _⟩
    · simp [Value.ownBlock] at e2
    · simp only [Value.ownBlock] at e1 e2
      obtain rfl := Option.some.inj e1
      obtain rfl := Option.some.inj e2
      rw [hh] at hh'
      injection hh' with hh'
      injection hh' with _ hh'
      exact hne hh'
theorem row_box {w : World} {base : Nat} {e : TypeId} {s n : Nat} {v : Value} {xs : List Value} {hp : Nat} {room : Int} {tv lv mv : Value} (h : w.ownsRow base e s v n xs) (hB : HB hp room tv lv mv w) (hne : e ≠ 81) : v.ownBlock ≠ some hp := fun e => by
  rcases h.2 with ⟨rfl, _⟩ | ⟨g', cap, cur, rfl, _, hh, _⟩
  · simp [Value.ownBlock] at e
  · simp [Value.ownBlock] at e
    subst e
    have h2 : w.heap[g']? = _ := hB
    rw [hh] at h2
    injection h2 with h2
    injection h2 with h2 h3
    exact hne h3
theorem row_map {w : World} {base : Nat} {e : TypeId} {s n : Nat} {v : Value} {xs : List Value} {nm : List ByteArray} {lv mv : Value} {base' : Nat} (h : w.ownsRow base e s v n xs) (hN : NamesAt base' nm lv mv w) : ∀ b, v.ownBlock = some b → mapBlock mv ≠ some b := by
  intro b e1 e2
  rcases h.2 with ⟨rfl, _⟩ | ⟨g, cap, cur, rfl, _, hh, _⟩
  · simp [Value.ownBlock] at e1
  · rcases hN.2.2 with ⟨rfl, _⟩ | ⟨mb, D, rfl, _, hm, _⟩
    · simp [mapBlock] at e2
    · simp only [Value.ownBlock, mapBlock] at e1 e2
      obtain rfl := Option.some.inj e1
      obtain rfl := Option.some.inj e2
      obtain ⟨es, clock, hh', _⟩ := hm
      rw [hh] at hh'
      cases hh'
theorem map_box {w : World} {nm : List ByteArray} {lv mv : Value} {base hp : Nat} {room : Int} {tv lv' mv' : Value} (hN : NamesAt base nm lv mv w) (hB : HB hp room tv lv' mv' w) : mapBlock mv ≠ some hp := fun e => by
  rcases hN.2.2 with ⟨rfl, _⟩ | ⟨mb, D, rfl, _, hm, _⟩
  · simp [mapBlock] at e
  · simp only [mapBlock] at e
    obtain rfl := Option.some.inj e
    obtain ⟨es, clock, hh', _⟩ := hm
    have h2 : w.heap[mb]? = _ := hB
    rw [hh'] at h2
    cases h2

theorem idx_put {nm nm' : List ByteArray} {s : ByteArray} {i : Nat} (hnd : nm'.Nodup) (hi : nm'[i]? = some s) (h : nm' = nm ∨ nm' = nm ++ [s]) : nm' = nmPut nm s ∧ i = nmIdx (nmPut nm s) s := by
  have e : nm' = nmPut nm s := by
    unfold nmPut
    by_cases hs : s ∈ nm
    · rw [if_pos ((nm_any nm s).2 hs)]
      rcases h with h | h
      · exact h
      · rw [h, List.nodup_append] at hnd
        exact absurd rfl (hnd.2.2 s hs s (by simp))
    · rw [if_neg (fun e => hs ((nm_any nm s).1 e))]
      rcases h with h | h
      · rw [h] at hi
        exact absurd (List.mem_of_getElem? hi) hs
      · exact h
  refine ⟨e, ?_⟩
  rw [← e]
  exact (nmIdx_at hnd hi).symm

/-- number, of the whole heap. -/
theorem numberH (base hp : Nat) (room : Int) (ws : List Wd) (nm : List ByteArray) (M : Nat → Prop) (s : ByteArray) (w : World) (h : HpAt base hp room ws nm M w) (hbw : base ≤ w.heap.size) (hL : nm.length ≤ 100000) (hsz : s.size ≤ 2048) :
    Calls Try.prog 63 #[.pointer (some ⟨hp, 2, none⟩), .string s] w fun e w' => e = .returned (.int .i64 (nmIdx (nmPut nm s) s : Int)) ∧ Hid (Laid base hp room ws (nmPut nm s) M w w') := by
  obtain ⟨tv, lv, mv, h1, h2, h3, h4, h5, h6, h7⟩ := h
  refine (number_any base hp room tv lv mv nm s w h1 h3 hbw hL hsz).mono ?_
  rintro e w' ⟨i, rfl, nm', lv', mv', H⟩
  obtain ⟨k1, k2, k3, k4, k5, k6, k7⟩ := H.out
  obtain ⟨e1, e2⟩ := idx_put k4.2.1 k1 k2
  subst e1
  refine ⟨by rw [e2], ⟨tv, lv', mv', k3, row_kept h2 k5 ?_, k4, Or.inl h4, fun b e => Or.inl (h5 b e), ?_, ?_⟩, k5.mono ?_⟩
  · rintro b e (rfl | e' | e')
    · exact row_box h2 h1 (by decide) e
    · exact row_types h2 h3.1 (by decide) b e e'
    · exact row_map h2 h3 b e e'
  · intro b e
    rcases k6 b e with e | e
    · exact Or.inl (h6 b e)
    · exact Or.inr e
  · intro b e
    rcases k7 b e with e | e
    · exact Or.inl (h7 b e)
    · exact Or.inr e
  · rintro b (rfl | e | e)
    · exact h4
    · exact h6 b e
    · exact h7 b e

/-- add, of the whole heap. -/
theorem addH (base hp : Nat) (room : Int) (ws : List Wd) (nm : List ByteArray) (M : Nat → Prop) (ps : List Wd) (m pc : Nat) (pa : Option Addr) (w : World) (h : HpAt base hp room ws nm M w) (hbw : base ≤ w.heap.size) (hL : ws.length ≤ 100000) (hm : ps.length = m) (hM : m ≤ 1000)
    (HS : ∀ w1, Keep M w w1 → WordsAt w1 ps pa) :
    Calls Try.prog 48 #[.pointer (some ⟨hp, 1, none⟩), .slice pa m pc] w fun e w' => e = .returned (.agg #[.int .i64 4, .int .i64 ws.length]) ∧ Hid (Laid base hp room (ws ++ (0, (m : Int)) :: ps) nm M w w') := by
  obtain ⟨tv, lv, mv, h1, h2, h3, h4, h5, h6, h7⟩ := h
  obtain ⟨⟨c0, c1, c2, c3⟩, hf⟩ := h1.cells
  obtain ⟨ta, tc, htv⟩ : ∃ ta tc, tv = .slice ta ws.length tc := by
    rcases h2.2 with ⟨e, e0⟩ | ⟨g, c, cur, e, _⟩
    · exact ⟨none, 0, by rw [e, e0]⟩
    · exact ⟨_, c, e⟩
  subst hm
  refine (add_walk base hp 1 tv ta tc ws.length ws ps ps.length pc pa w htv rfl rfl hL hM hbw c1 (hf 1) h1.lt (row_box h2 h1 (by decide)) h2 ?_).mono ?_
  · intro w1 k
    refine HS w1 (k.mono ?_)
    rintro b (rfl | e)
    · exact h4
    · exact h5 b e
  · rintro e w' ⟨rfl, tv', H⟩
    obtain ⟨k1, k2, k3, k4⟩ := H.out
    refine ⟨rfl, ⟨tv', lv, mv, (h1.set1 tv').kept k2, ?_, h3.kept k3 ?_ ?_, Or.inl h4, ?_, fun b e => Or.inl (h6 b e), fun b e => Or.inl (h7 b e)⟩, k3.mono ?_⟩
    · have e : (ws ++ (0, (ps.length : Int)) :: ps).length = ws.length + 1 + ps.length := by simp; omega
      rw [e]
      exact k1
    · rintro b e (rfl | e')
      · exact row_box h3.1 h1 (by decide) e
      · exact row_types h2 h3.1 (by decide) b e' e
    · rintro b e (rfl | e')
      · exact map_box h3 h1 e
      · exact row_map h2 h3 b e' e
    · intro b e
      rcases k4 b e with e | e
      · exact Or.inl (h5 b e)
      · exact Or.inr e
    · rintro b (rfl | e)
      · exact h4
      · exact h5 b e
end Go.Proofs.Ytfaoeccnhbcjgab
