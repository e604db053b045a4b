/- What is proved here: the program's reader reads one term (term): for every text of at most 2048 signs: which term the words ahead begin with, or where they can't go on. Only the reader's own block and new memory turn. -/
import Derived.Test.YtdlplmpjcemnoabDoorRtm2
namespace Go.Proofs.YtdlplmpjcemnoabDoor
open Go.RowKit

theorem leaf_nil {x : ByteArray} (h : x.toList = []) : leafB x = false := by
  rw [ByteArray.toList_eq] at h
  have hz : x.size = 0 := by
    have : x.data.toList.length = x.size := by simp
    rw [h] at this
    exact this.symm
  simp [leafB, ByteArray.toList_eq, isNum, h, hz]

theorem RRes.undrew {n r : Nat} {s : ByteArray} {ts : List Tok} {w w1 : World} {m : Nat} {v : Value} {ok : Bool} (h : RRes n s r ts (w.drewN m) w1 v ok) : RRes n s r ts w w1 v ok := by
  obtain ⟨h1, h2⟩ := h
  exact ⟨moved_trans (moved_drew w m _) h1, h2⟩

/-- A word that is a term by itself. -/
theorem leaf_res {n r : Nat} {s : ByteArray} {b e : Nat} {ts : List Tok} {w w1 w2 : World} {x : ByteArray} (hat : At s b e ts) (hx : s.extract b e = x) (hs : s.size ≤ 2048) (ho : isO x = false) {k u : Int} {t : ByteArray}
    (hl : leafB x = true) (hv : (k, u, t) = leafV x) (ht : t.size ≤ x.size) (hk : I64 k) (hu : I64 u) {o : Obj} (hb : Below w.heap.size w w1) (kr : Rd r s (wordB s e) (wordE s e) w2) (g : (w1.alloc o).grownBy w2 (some r)) :
    RRes (n + 1) s r ts w w2 (.agg #[.int .i64 k, .int .i64 u, .string t, .slice none 0 0]) true := by
  have hxs : x.size ≤ 2048 := by rw [← hx]; simp; have := hat.2.1; omega
  refine ⟨moved_trans (moved_alloc (moved_below (World.grownBy.refl w _) hb) o) g, wordB s e, wordE s e, toks s e, kr, At.next hat.2.1, fun _ => ?_, by simp⟩
  cases ts with
  | nil =>
    have := hat.nil
    rw [hx] at this
    rw [leaf_nil this] at hl
    exact absurd hl (by simp)
  | cons t0 ts =>
    obtain ⟨e1, e2, _⟩ := hat.cons
    subst e1 e2
    rw [hx]
    refine ⟨⟨((k, u, t), (none, 0), []), rfl, ⟨_, _, rfl, Or.inl ⟨ho, hl, hv, rfl, rfl⟩⟩, ⟨⟨hk, hu, by unfold maxLen; simp only; omega, Nat.zero_le _, Nat.zero_le _⟩, Or.inl rfl⟩, Or.inl rfl⟩, fun d => ?_⟩
    simp only [exp, ho, hl]
    simp
theorem leaf_no {n r : Nat} {s : ByteArray} {b e : Nat} {ts : List Tok} {w w1 : World} {x : ByteArray} (hat : At s b e ts) (hx : s.extract b e = x) (ho : isO x = false) (hl : leafB x = false) (h : Rd r s b e w) (hb : Below w.heap.size w w1) (v : Value) :
    RRes (n + 1) s r ts w w1 v false := by
  refine ⟨moved_below (World.grownBy.refl w _) hb, b, e, ts, h.block (hb.block r h.lt), hat, by simp, fun _ d => ?_⟩
  cases ts with
  | nil => rfl
  | cons t0 ts =>
    obtain ⟨e1, e2, _⟩ := hat.cons
    subst e1 e2
    simp only [exp, hx, ho, hl]
    simp [posOf]

theorem below_un2 {w w1 : World} {m : Nat} (h : Below (w.drewN m).heap.size (w.drewN m) w1) : Below w.heap.size w w1 := ⟨h.os, h.tape, h.output, h.size, h.block⟩
theorem box_kept {w w2 : World} {r : Nat} {v0 v1 v2 v3 : Value} (hr : r < w.heap.size) (g : (w.alloc (.cells #[v0, v1, v2, v3] 24)).grownBy w2 (some r)) : Bx w.heap.size v0 v1 v2 v3 w2 :=
  (Bx.new w v0 v1 v2 v3).block (g.block _ (by simp) (by simp; omega))

set_option maxHeartbeats 1000000 in
theorem term_walk (n : Nat) (r : Nat) (s : ByteArray) (b e : Nat) (ts : List Tok) (w : World) (h : Rd r s b e w) (hat : At s b e ts) (hs : s.size ≤ 2048)
    (ih : ∀ w' : World, Rd r s b e w' → isO (s.extract b e) = true → Calls Tryd.prog 27 #[.pointer (some ⟨r, 0, none⟩)] w' fun e' w'' => ROut (n + 1) s r ts w' w'' e') :
    Calls Tryd.prog 15 #[.pointer (some ⟨r, 0, none⟩)] w fun e' w' => ROut (n + 1) s r ts w w' e' := by
  have hlt := h.lt
  have H0 := hide (⟨h, hat⟩ : _ ∧ _)
  have HI := hide ih
  clear h hat ih
  obtain ⟨x, hx⟩ : ∃ x, s.extract b e = x := ⟨_, rfl⟩
  have HX := hide hx
  have hxs : x.size ≤ 2048 := by rw [← hx]; simp; have := H0.out.2.2.1; omega
  clear hx
  cases hc : (x.toList == [40])
  · have hc1 : (x.toList = [40]) = False := by simpa using hc
    have hc2 : (x.toList != [40]) = true := by simpa using hc
    go_enter Tryd.func15, Tryd.ntmps15
    go_wp2_with (first
      | (go_at_call 16; refine (word_is r s b e x _ (H0.out.1.alloc _) H0.out.2.1 H0.out.2.2.1 HX.out).mono ?_; rintro e' w1 ⟨rfl, m, rfl⟩)
      | (go_at_call 16; refine (word_is r s b e x _ ((H0.out.1.alloc _).drew m) H0.out.2.1 H0.out.2.2.1 HX.out).mono ?_; rintro e' w1 ⟨rfl, m2, rfl⟩)
      | (go_at_call 28; refine (plain_any x _ hxs).mono ?_; rintro e' w2 ⟨⟨k, u, t, ok, rfl, HV⟩, HB⟩; replace HB := below_un2 HB; obtain ⟨⟨x0, x1, x2, x3⟩, f0, f1, f2, f3⟩ := box_of HB; have hlt2 : w.heap.size < w2.heap.size := (by have := HB.size; simp at this; omega); have hlt4 : r < w2.heap.size := (by omega); replace HB := hide HB; cases ok)
      | (go_at_call 14; refine (next_any r s b e _ ((((H0.out.1.alloc _).block (HB.out.block r (by simp; omega)))).alloc _) H0.out.2.2.1 hs).mono ?_; rintro e' w3 ⟨rfl, HN⟩; have HG := hide (moved_trans (moved_alloc (moved_below (World.grownBy.refl _ _) HB.out) _) HN.out.2); obtain ⟨⟨z0, z1, z2, z3⟩, p0, p1, p2, p3⟩ := (box_kept hlt HG.out).cells; obtain ⟨⟨y0, y1, y2, y3⟩, k0, k1, k2, k3⟩ := (box_kept hlt4 HN.out.2).cells; obtain ⟨v1, v2, v3, v4, v5⟩ := HV.out; have HF := hide (RRes.box hlt (leaf_res (n := n) H0.out.2 HX.out hs hc v1.symm (v2 (by trivial)) v3 v4 v5 HB.out HN.out.1 HN.out.2)); clear v1 v2 v3 v4 v5))
    · exact bodyPost_ret (v := .tuple #[.agg #[.int .i64 k, .int .i64 u, .string t, .slice none 0 0], .bool false]) (by simp [results, Tryd.results15, go_sem, x0, x1, x2, x3, hlt2]) rfl ⟨k, u, t, none, 0, 0, false, rfl, (RRes.box hlt (leaf_no H0.out.2 HX.out hc HV.out.1.symm (H0.out.1.alloc _) HB.out _) _ _ _ _).alloc _⟩
    · exact bodyPost_ret (v := .tuple #[.agg #[.int .i64 k, .int .i64 u, .string t, .slice none 0 0], .bool true]) (by simp [results, Tryd.results15, go_sem, z0, z1, z2, z3]) rfl ⟨k, u, t, none, 0, 0, true, rfl, HF.out _ _ _ _⟩
  · go_enter Tryd.func15, Tryd.ntmps15
    go_wp2_with (first
      | (go_at_call 16; refine (word_is r s b e x _ (H0.out.1.alloc _) H0.out.2.1 H0.out.2.2.1 HX.out).mono ?_; rintro e' w1 ⟨rfl, m, rfl⟩)
      | (go_at_call 27; refine (HI.out _ ((H0.out.1.alloc _).drew m) (by rw [HX.out]; exact hc)).mono ?_; rintro e' w2 ⟨k, u, t, a1, l1, c1, ok, rfl, HR⟩; replace HR := hide HR.out.undrew; obtain ⟨⟨x0, x1, x2, x3⟩, f0, f1, f2, f3⟩ := (box_kept hlt HR.out.1).cells))
    exact bodyPost_ret (v := .tuple #[.agg #[.int .i64 k, .int .i64 u, .string t, .slice a1 l1 c1], .bool ok]) (by simp [results, Tryd.results15, go_sem, x0, x1, x2, x3]) rfl ⟨k, u, t, a1, l1, c1, ok, rfl, RRes.box hlt HR.out _ _ _ _⟩

theorem term_any (n : Nat) : FTerm n := by
  induction n with
  | zero =>
    intro r s b e ts w h hat hs hl
    refine term_walk 0 r s b e ts w h hat hs fun w' _ ho => ?_
    have e1 : ts = [] := List.eq_nil_of_length_eq_zero (by omega)
    subst e1
    simp [isO, hat.nil] at ho
  | succ n ih =>
    intro r s b e ts w h hat hs hl
    refine term_walk (n + 1) r s b e ts w h hat hs fun w' h' ho => ?_
    cases ts with
    | nil => simp [isO, hat.nil] at ho
    | cons t ts =>
      have e1 := hat.cons.1
      refine tuple_walk n ih r s b e t ts w' h' hat hs (by simp at hl; omega) ?_
      rw [e1]
      exact ho
end Go.Proofs.YtdlplmpjcemnoabDoor
