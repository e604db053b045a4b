/- What is proved here: the program's reader reads a tuple (tuple), where its term is read as said. Only the reader's own block and new memory turn. -/
import Derived.Test.YtdlplmpjcemnoabDoorRtm1
namespace Go.Proofs.YtdlplmpjcemnoabDoor
open Go.RowKit

theorem At.one {s : ByteArray} {b e : Nat} {ts ts' : List Tok} (h : At s b e ts) (k : At s b e ts') : ts = ts' := by
  rcases h.2.2 with ⟨h1, rfl⟩ | ⟨h1, rfl⟩ <;> rcases k.2.2 with ⟨k1, rfl⟩ | ⟨k1, rfl⟩
  · rfl
  · have := h.2.1; omega
  · have := h.2.1; omega
  · rfl
theorem At.no {s : ByteArray} {b e : Nat} {ts : List Tok} (h : At s b e ts) (hc : isC (s.extract b e) = false) : ∀ t ts', ts = t :: ts' → isC t.2 = false := by
  intro t ts' e
  subst e
  rw [h.cons.1]
  exact hc

theorem tup_boxes {n r : Nat} {s : ByteArray} {ts1 ts' : List Tok} {w wr w1 : World} {b e m : Nat} {v : Value} {l : List (Tm (n + 1))} (hr : r < w.heap.size) (h : TupQ n r s ts1 w b e v wr l ts') (g : (wr.drewN m).grownBy w1 (some r)) :
    Bx w.heap.size (.int .i64 0) (.int .i64 0) (.string ⟨#[]⟩) (.slice none 0 0) w1 ∧ Bx (w.heap.size + 1) (.int .i64 4) (.int .i64 0) (.string ⟨#[]⟩) v w1 ∧ w.heap.size + 1 < w1.heap.size := by
  obtain ⟨h1, h2, h3, h4, h5, h6, h7, h8, h9⟩ := h
  have h := h6.block (g.block _ h6.lt (by simp; omega))
  exact ⟨h5.block (g.block _ h5.lt (by simp; omega)), h, h.lt⟩

theorem tup_false {n r : Nat} {s : ByteArray} {t0 : Tok} {ts1 ts' : List Tok} {w wr w1 : World} {b e m : Nat} {v v' : Value} {l : List (Tm (n + 1))} (ho : isO t0.2 = true) (h : TupQ n r s ts1 w b e v wr l ts') (hc : isC (s.extract b e) = false)
    (R : RRes (n + 1) s r ts' (wr.drewN m) w1 v' false) (u : Value) :
    RRes (n + 2) s r (t0 :: ts1) (w.alloc (.cells #[.int .i64 0, .int .i64 0, .string ⟨#[]⟩, .slice none 0 0] 24)) w1 u false := by
  obtain ⟨h1, h2, h3, h4, h5, h6, h7, h8, h9⟩ := h
  obtain ⟨g, b', e', ts3, k1, k2, _, k4⟩ := R
  refine ⟨moved_trans h3 (moved_trans (moved_drew wr m _) g), b', e', ts3, k1, k2, by simp, fun _ d => ?_⟩
  simp only [exp, ho, if_true]
  rw [h9 d, scan_exp _ _ _ (h2.no hc)]
  exact k4 rfl (d + 1)

theorem isl_len {n : Nat} : (l : List (Tm n)) → (ts r : List Tok) → IsL (Is n) l ts r → l.length + r.length ≤ ts.length
  | [], ts, r, h => by have e : ts = r := h; subst e; simp
  | x :: l, ts, r, h => by
    obtain ⟨m, h1, h2⟩ := h
    have k1 := isl_len l m r h2
    have k2 := Is.nodes n x ts m h1
    have k3 : 0 < (nodes n x).length := by
      cases n with
      | zero => exact h1.elim
      | succ n => simp [nodes]
    simp only [List.length_cons]
    omega

/-- What the append of a round needs. -/
theorem tup_own {n r : Nat} {s : ByteArray} {ts1 ts' : List Tok} {w wr w1 : World} {b e m : Nat} {a : Option Addr} {L c : Nat} {l : List (Tm (n + 1))} (hr : r < w.heap.size) (h : TupQ n r s ts1 w b e (.slice a L c) wr l ts') (g : (wr.drewN m).grownBy w1 (some r)) (hl : ts1.length ≤ 2048) :
    l.length = L ∧ L ≤ 2048 ∧ ∀ o1 o2, ((w1.alloc o1).alloc o2).ownsRow (w.heap.size + 2) 24 4 (.slice a L c) L (ndCells (l.map (hdT (n + 1)))) := by
  obtain ⟨h1, h2, h3, h4, h5, h6, h7, h8, h9⟩ := h
  have g' : wr.grownBy w1 (some r) := moved_trans (moved_drew wr m _) g
  obtain ⟨a', c', ev, _⟩ := h4.tup
  injection ev with _ e2 _
  have := isl_len l ts1 ts' h7
  have h10 := (h4.kept g' (by omega)).1
  rw [← e2] at h10
  exact ⟨e2.symm, by omega, fun o1 o2 => (h10.alloc o1).alloc o2⟩

/-- A round's end: one more term stands. -/
theorem tup_round {n r : Nat} {s : ByteArray} {ts1 ts' : List Tok} {w wr w1 w3 : World} {b e m : Nat} {a : Option Addr} {L c : Nat} {l : List (Tm (n + 1))} (hr : r < w.heap.size) (h : TupQ n r s ts1 w b e (.slice a L c) wr l ts') (hc : isC (s.extract b e) = false)
    {k u : Int} {t : ByteArray} {a1 : Option Addr} {l1 c1 : Nat} (R : RRes (n + 1) s r ts' (wr.drewN m) w1 (.agg #[.int .i64 k, .int .i64 u, .string t, .slice a1 l1 c1]) true) {o1 o2 : Obj} {g c2 : Nat} (hL : l.length = L)
    (hown : w3.ownsRow (w.heap.size + 2) 24 4 (.slice (some ⟨g, 0, none⟩) (L + 1) c2) (L + 1) (ndCells (l.map (hdT (n + 1))) ++ [.int .i64 k, .int .i64 u, .string t, .slice a1 l1 c1]))
    (g2 : ((w1.alloc o1).alloc o2).grownBy w3 (Value.slice a L c).ownBlock) (hg : (Value.slice a L c).ownBlock = some g ∨ g = w1.heap.size + 2) :
    (Bx (w.heap.size + 1) (.int .i64 4) (.int .i64 0) (.string ⟨#[]⟩) (.slice a L c) w3 ∧
    ∃ b' e', TupP n r s ts1 w b' e' (.slice (some ⟨g, 0, none⟩) (L + 1) c2) (w3.setCell ⟨w.heap.size + 1, 3, none⟩ (.slice (some ⟨g, 0, none⟩) (L + 1) c2)) ∧ msr r s (w3.setCell ⟨w.heap.size + 1, 3, none⟩ (.slice (some ⟨g, 0, none⟩) (L + 1) c2)) < msr r s wr) := by
  subst hL
  obtain ⟨q1, q2, q3⟩ := tup_boxes hr h R.1
  obtain ⟨h1, h2, h3, h4, h5, h6, h7, h8, h9⟩ := h
  obtain ⟨g0, b', e', ts3, k1, k2, k3, _⟩ := R
  have g0' : wr.grownBy w1 (some r) := moved_trans (moved_drew wr m _) g0
  obtain ⟨⟨x, x1, x2, x3, x4⟩, x5⟩ := k3 rfl
  have hob : ∀ b, (Value.slice a l.length c).ownBlock = some b → w.heap.size + 2 ≤ b := fun b e => (h4.1.lt b e).1
  have hnd : nd4 (hdT (n + 1) x) = [.int .i64 k, .int .i64 u, .string t, .slice a1 l1 c1] := by
    have e1 : val (n + 1) x = .agg (nd4 (hdT (n + 1) x)).toArray := rfl
    rw [e1] at x1
    injection x1 with x1
    exact Array.toList_inj.2 x1
  rw [← hnd] at hown
  have hrow := h4.snoc g0' (by omega) x3 x4 (by have := h6.lt; simp; omega) (w1 := (w1.alloc o1).alloc o2) (moved_alloc (moved_alloc (moved_drew w1 0 _) _) _) hown g2 (by simpa using hg)
  have hne : ∀ q, q < w.heap.size + 2 → some q ≠ (Value.slice a l.length c).ownBlock := fun q hq e => by have := hob q e.symm; omega
  have z : ∀ q, q < w.heap.size + 2 → w3.heap[q]? = w1.heap[q]? := fun q hq => (g2.block q (by simp; omega) (hne q hq)).trans ((alloc_block _ _ (by simp; omega)).trans (alloc_block _ _ (by omega)))
  have q2' := q2.block (z (w.heap.size + 1) (by omega))
  have kr : Rd r s b' e' w3 := k1.block (z r (by omega))
  have z2 : w3.heap.size = (w3.setCell ⟨w.heap.size + 1, 3, none⟩ (.slice (some ⟨g, 0, none⟩) (l.length + 1) c2)).heap.size := by simp [World.setCell]
  have kr2 := kr.far (g := w.heap.size + 1) (by omega) 3 (.slice (some ⟨g, 0, none⟩) (l.length + 1) c2)
  have hn := Is.nodes (n + 1) x ts' ts3 x2
  have hn2 : 0 < (nodes (n + 1) x).length := by simp [nodes]
  refine ⟨q2', b', e', ⟨l ++ [x], ts3, kr2, k2, ?_, ?_, ?_, q2'.set3 _, h7.snoc x2, by omega, fun d => ?_⟩, ?_⟩
  · refine moved_new (moved_far (moved_alloc (moved_alloc (moved_trans h3 g0') _) _) g2 fun b hb => ?_) (by simp) _ _
    have := hob b hb; simp; omega
  · refine ⟨ownsRow_setCell_below (by simpa using hrow.1) (by simp) _, fun y hy => ?_⟩
    obtain ⟨y1, y2⟩ := hrow.2 y hy
    refine ⟨?_, y2⟩
    rw [← z2]
    exact In.off (fun b hb => Below.heap_setCell _ _ _ _ (by simp; omega)) y2 y1
  · exact (q1.block (z w.heap.size (by omega))).block (Below.heap_setCell _ _ _ _ (by simp))
  · rw [h9 d, scan_exp _ _ _ (h2.no hc)]
    exact x5 (d + 1)
  · rw [msr_of kr2 k2, msr_of h1 h2]
    omega

theorem four_new (w : World) (o : Obj) (v0 v1 v2 v3 : Value) (e : TypeId) : ∀ (j : Nat) (u : Value), [v0, v1, v2, v3][j]? = some u → ((w.alloc o).alloc (.cells #[v0, v1, v2, v3] e)).cell? ((⟨w.heap.size + 1, 0, none⟩ : Addr).add j) = some u := by
  intro j u h
  rw [add_none]
  rw [World.cell?_alloc_at _ _ _ _ (by simp)]
  simpa using h
theorem four_one (k u : Int) (t : ByteArray) (a : Option Addr) (l c : Nat) : ∀ v ∈ [Value.int .i64 k, .int .i64 u, .string t, .slice a l c], v.oneCell' = true := by
  intro v hv
  simp at hv
  rcases hv with rfl | rfl | rfl | rfl <;> rfl

set_option maxHeartbeats 1000000 in
theorem tuple_walk (n : Nat) (ih : FTerm n) (r : Nat) (s : ByteArray) (b e : Nat) (t0 : Tok) (ts1 : List Tok) (w : World) (h : Rd r s b e w) (hat : At s b e (t0 :: ts1)) (hs : s.size ≤ 2048) (hl : ts1.length ≤ n) (ho : isO t0.2 = true) :
    Calls Tryd.prog 27 #[.pointer (some ⟨r, 0, none⟩)] w fun e' w' => ROut (n + 2) s r (t0 :: ts1) w w' e' := by
  have hlt := h.lt
  obtain ⟨it, hit, htz0, htz1, htz2⟩ := info_parts infoTerm
  have HT := hide (⟨hit, htz0, htz1, htz2⟩ : _ ∧ _ ∧ _ ∧ _)
  clear hit htz0 htz1 htz2
  have H0 := hide (⟨h, hat, hs, hl, ho⟩ : _ ∧ _ ∧ _ ∧ _ ∧ _)
  have HI := hide ih
  clear h hat hl ho ih
  go_enter Tryd.func27, Tryd.ntmps27
  go_wp2_with (go_at_call 14; refine (next_any r s b e _ ((H0.out.1.alloc _).alloc _) H0.out.2.1.2.1 hs).mono ?_; rintro e' w1 ⟨rfl, HN⟩)
  go_loopw [] (fun wr => ∃ (b e : Nat) (a : Option Addr) (L c : Nat), Hid (TupP n r s ts1 w b e (.slice a L c) wr) ∧ True) (fun wr => msr r s wr)
  case atStart => exact ⟨_, _, _, _, _, tup_start H0.out.1 H0.out.2.1 HN.out.1 HN.out.2, trivial⟩
  case round =>
    obtain ⟨b1, e1, a, L, c, HP, _⟩ := hrel
    clear HN
    obtain ⟨l, ts', HQ⟩ := HP.out
    replace HQ := hide HQ
    obtain ⟨x, hx⟩ : ∃ x, s.extract b1 e1 = x := ⟨_, rfl⟩
    have HX := hide hx
    clear hx
    have HA : Hid (Rd r s b1 e1 wr ∧ At s b1 e1 ts' ∧ ts'.length ≤ n ∧ ts1.length ≤ 2048) := by
      obtain ⟨h1, h2, h3, h4, h5, h6, h7, h8, h9⟩ := HQ.out
      refine ⟨h1, h2, Nat.le_trans h8 H0.out.2.2.2.1, ?_⟩
      have := toks_length s (s.size - e) e (Nat.le_refl _)
      rw [← H0.out.2.1.cons.2.1] at this
      omega
    cases hc : (x.toList == [41])
    · have hc1 : (x.toList = [41]) = False := by simpa using hc
      have hc2 : (x.toList != [41]) = true := by simpa using hc
      have HC : Hid (isC (s.extract b1 e1) = false) := by rw [HX.out]; exact hc
      go_wp2_with (first
        | (go_at_call 16; refine (word_is r s b1 e1 x wr HA.out.1 HA.out.2.1.1 HA.out.2.1.2.1 HX.out).mono ?_; rintro e' w1 ⟨rfl, m, rfl⟩)
        | (go_at_call 15; refine (HI.out r s b1 e1 ts' (wr.drewN m) (HA.out.1.drew m) HA.out.2.1 hs HA.out.2.2.1).mono ?_; rintro e' w2 ⟨k, u, t, a1, l1, c1, ok, rfl, HR⟩; obtain ⟨q1, q2, hlt2⟩ := tup_boxes hlt HQ.out HR.out.1; have hlt3 : w.heap.size < w2.heap.size := (by omega); obtain ⟨⟨x0, x1, x2, x3⟩, f0, f1, f2, f3⟩ := q1.cells; obtain ⟨⟨y0, y1, y2, y3⟩, k0, k1, k2, k3⟩ := q2.cells; clear q1 q2; cases ok)
        | (at_builtin; have HO := hide (tup_own hlt HQ.out HR.out.1 HA.out.2.2.2); refine wpList_append_lies _ rfl _ _ 22 rfl (w.heap.size + 2) 24 it _ 4 56 Tryd.underlying22 HT.out.1 HT.out.2.1 HT.out.2.2.1 HT.out.2.2.2 rfl (by decide) _ L _ rfl (HO.out.2.2 _ _) ⟨w2.heap.size + 1, 0, none⟩ 1 1 [.int .i64 k, .int .i64 u, .string t, .slice a1 l1 c1] rfl rfl (four_new _ _ _ _ _ _ _) (four_one _ _ _ _ _ _) (by decide) (by have := HO.out.2.1; unfold maxLen; omega) (by have := HO.out.2.1; omega) (by simp; omega) (w2.heap.size + 2) (by simp) ?_; intro g2 c2 w3 hown2 hgrow2 hat2 hlt5; have H2 := hide (tup_round hlt HQ.out HC.out HR.out HO.out.1 hown2 hgrow2 hat2); obtain ⟨⟨z0, z1, z2, z3⟩, p0, p1, p2, p3⟩ := H2.out.1.cells; clear hown2 hgrow2 hat2 hlt5))
      · exact bodyPost_ret (v := .tuple #[.agg #[.int .i64 0, .int .i64 0, .string ⟨#[]⟩, .slice none 0 0], .bool false]) (by simp [results, Tryd.results27, go_sem, x0, x1, x2, x3, hlt3]) rfl ⟨0, 0, ⟨#[]⟩, none, 0, 0, false, rfl, (RRes.box hlt (tup_false H0.out.2.2.2.2 HQ.out HC.out HR.out _) _ _ _ _).alloc _⟩
      · obtain ⟨b', e', h1, h2⟩ := H2.out.2
        go_roundw
        case rel => exact ⟨b', e', _, _, _, h1, trivial⟩
        case measure => exact h2
    · go_wp2_with (first
        | (go_at_call 16; refine (word_is r s b1 e1 x wr HA.out.1 HA.out.2.1.1 HA.out.2.1.2.1 HX.out).mono ?_; rintro e' w1 ⟨rfl, m, rfl⟩)
        | (go_at_call 14; refine (next_any r s b1 e1 (wr.drewN m) (HA.out.1.drew m) HA.out.2.1.2.1 hs).mono ?_; rintro e' w2 ⟨rfl, HN⟩; obtain ⟨h1, h2, h3⟩ := tup_close hlt H0.out.2.2.2.2 HP.out (by rw [HX.out]; exact hc) HN.out.1 HN.out.2; obtain ⟨⟨x0, x1, x2, x3⟩, f0, f1, f2, f3⟩ := h2.cells; obtain ⟨⟨y0, y1, y2, y3⟩, k0, k1, k2, k3⟩ := h3.cells; have HF := hide (RRes.box hlt h1); clear h1 h2 h3))
      exact bodyPost_ret (v := .tuple #[.agg #[.int .i64 4, .int .i64 0, .string ⟨#[]⟩, .slice a L c], .bool true]) (by simp [results, Tryd.results27, go_sem, x0, x1, x2, x3]) rfl ⟨4, 0, ⟨#[]⟩, a, L, c, true, rfl, HF.out _ _ _ _⟩
end Go.Proofs.YtdlplmpjcemnoabDoor
