/- What is proved here: plain facts and contracts that the claimed theorem stands on, several texts in one: the program's reader reads a tuple (tuple), where its term is read as said. Only the reader's own block and new memory turn. the program's reader reads one term (term): for every text of at most 2048 signs: which term the words ahead begin with, or where they can't go on. Only the reader's own block and new memory turn. the program's Parse: for every text: a text of more than 2048 signs is too long; else the words tell one term, whose check is told, or the place where they can't go on. Only new memory turns. plain facts on the document's words of a text: what stands behind i signs (WP), sign by sign, and on rows of strings and numbers that a call owns. No condition. the document's words of a text: for every text of at most 2048 signs: its words, and where they begin, in two new slices. Only new memory turns. -/
import Derived.Test.YtpehdgbdinjbaaaG07
import Derived.BigRegion
import Derived.OneCell
namespace Go.Proofs.Ytpehdgbdinjbaaa
open Go.RowKit

theorem At.one {s : ByteArray} {b e : Nat} {ts ts' : List Tok} (h : At s b e ts) (k : At s b e ts') : ts = ts' := by
  rcases h.2.2 with ⟨h1, rfl⟩ | ⟨h1, rfl⟩ <;> rcases k.2.2 with ⟨k1, rfl⟩ | ⟨k1, rfl⟩
  · rfl
  · have := h.2.1; omega
  · have := h.2.1; omega
  · rfl
theorem At.no {s : ByteArray} {b e : Nat} {ts : List Tok} (h : At s b e ts) (hc : isC (s.extract b e) = false) : ∀ t ts', ts = t :: ts' → isC t.2 = false := by
  intro t ts' e
  subst e
  rw [h.cons.1]
  exact hc

theorem tup_boxes {n r : Nat} {s : ByteArray} {ts1 ts' : List Tok} {w wr w1 : World} {b e m : Nat} {v : Value} {l : List (Tm (n + 1))} (hr : r < w.heap.size) (h : TupQ n r s ts1 w b e v wr l ts') (g : (wr.drewN m).grownBy w1 (some r)) :
    Bx w.heap.size (.int .i64 0) (.int .i64 0) (.string ⟨#[]⟩) (.slice none 0 0) w1 ∧ Bx (w.heap.size + 1) (.int .i64 4) (.int .i64 0) (.string ⟨#[]⟩) v w1 ∧ w.heap.size + 1 < w1.heap.size := by
  obtain ⟨h1, h2, h3, h4, h5, h6, h7, h8, h9⟩ := h
  have h := h6.block (g.block _ h6.lt (by simp; omega))
  exact ⟨h5.block (g.block _ h5.lt (by simp; omega)), h, h.lt⟩

theorem tup_false {n r : Nat} {s : ByteArray} {t0 : Tok} {ts1 ts' : List Tok} {w wr w1 : World} {b e m : Nat} {v v' : Value} {l : List (Tm (n + 1))} (ho : isO t0.2 = true) (h : TupQ n r s ts1 w b e v wr l ts') (hc : isC (s.extract b e) = false)
    (R : RRes (n + 1) s r ts' (wr.drewN m) w1 v' false) (u : Value) :
    RRes (n + 2) s r (t0 :: ts1) (w.alloc (.cells #[.int .i64 0, .int .i64 0, .string ⟨#[]⟩, .slice none 0 0] 24)) w1 u false := by
  obtain ⟨h1, h2, h3, h4, h5, h6, h7, h8, h9⟩ := h
  obtain ⟨g, b', e', ts3, k1, k2, _, k4⟩ := R
  refine ⟨moved_trans h3 (moved_trans (moved_drew wr m _) g), b', e', ts3, k1, k2, by simp, fun _ d => ?_⟩
  simp only [exp, ho, if_true]
  rw [h9 d, scan_exp _ _ _ (h2.no hc)]
  exact k4 rfl (d + 1)

theorem isl_len {n : Nat} : (l : List (Tm n)) → (ts r : List Tok) → IsL (Is n) l ts r → l.length + r.length ≤ ts.length
  | [], ts, r, h => by have e : ts = r := h; subst e; simp
  | x :: l, ts, r, h => by
    obtain ⟨m, h1, h2⟩ := h
    have k1 := isl_len l m r h2
    have k2 := Is.nodes n x ts m h1
    have k3 : 0 < (nodes n x).length := by
      cases n with
      | zero => exact h1.elim
      | succ n => simp [nodes]
    simp only [List.length_cons]
    omega

/-- What the append of a round needs. -/
theorem tup_own {n r : Nat} {s : ByteArray} {ts1 ts' : List Tok} {w wr w1 : World} {b e m : Nat} {a : Option Addr} {L c : Nat} {l : List (Tm (n + 1))} (hr : r < w.heap.size) (h : TupQ n r s ts1 w b e (.slice a L c) wr l ts') (g : (wr.drewN m).grownBy w1 (some r)) (hl : ts1.length ≤ 2048) :
    l.length = L ∧ L ≤ 2048 ∧ ∀ o1 o2, ((w1.alloc o1).alloc o2).ownsRow (w.heap.size + 2) 24 4 (.slice a L c) L (ndCells (l.map (hdT (n + 1)))) := by
  obtain ⟨h1, h2, h3, h4, h5, h6, h7, h8, h9⟩ := h
  have g' : wr.grownBy w1 (some r) := moved_trans (moved_drew wr m _) g
  obtain ⟨a', c', ev, _⟩ := h4.tup
  injection ev with _ e2 _
  have := isl_len l ts1 ts' h7
  have h10 := (h4.kept g' (by omega)).1
  rw [← e2] at h10
  exact ⟨e2.symm, by omega, fun o1 o2 => (h10.alloc o1).alloc o2⟩

/-- A round's end: one more term stands. -/
theorem tup_round {n r : Nat} {s : ByteArray} {ts1 ts' : List Tok} {w wr w1 w3 : World} {b e m : Nat} {a : Option Addr} {L c : Nat} {l : List (Tm (n + 1))} (hr : r < w.heap.size) (h : TupQ n r s ts1 w b e (.slice a L c) wr l ts') (hc : isC (s.extract b e) = false)
    {k u : Int} {t : ByteArray} {a1 : Option Addr} {l1 c1 : Nat} (R : RRes (n + 1) s r ts' (wr.drewN m) w1 (.agg #[.int .i64 k, .int .i64 u, .string t, .slice a1 l1 c1]) true) {o1 o2 : Obj} {g c2 : Nat} (hL : l.length = L)
    (hown : w3.ownsRow (w.heap.size + 2) 24 4 (.slice (some ⟨g, 0, none⟩) (L + 1) c2) (L + 1) (ndCells (l.map (hdT (n + 1))) ++ [.int .i64 k, .int .i64 u, .string t, .slice a1 l1 c1]))
    (g2 : ((w1.alloc o1).alloc o2).grownBy w3 (Value.slice a L c).ownBlock) (hg : (Value.slice a L c).ownBlock = some g ∨ g = w1.heap.size + 2) :
    (Bx (w.heap.size + 1) (.int .i64 4) (.int .i64 0) (.string ⟨#[]⟩) (.slice a L c) w3 ∧
    ∃ b' e', TupP n r s ts1 w b' e' (.slice (some ⟨g, 0, none⟩) (L + 1) c2) (w3.setCell ⟨w.heap.size + 1, 3, none⟩ (.slice (some ⟨g, 0, none⟩) (L + 1) c2)) ∧ msr r s (w3.setCell ⟨w.heap.size + 1, 3, none⟩ (.slice (some ⟨g, 0, none⟩) (L + 1) c2)) < msr r s wr) := by
  subst hL
  obtain ⟨q1, q2, q3⟩ := tup_boxes hr h R.1
  obtain ⟨h1, h2, h3, h4, h5, h6, h7, h8, h9⟩ := h
  obtain ⟨g0, b', e', ts3, k1, k2, k3, _⟩ := R
  have g0' : wr.grownBy w1 (some r) := moved_trans (moved_drew wr m _) g0
  obtain ⟨⟨x, x1, x2, x3, x4⟩, x5⟩ := k3 rfl
  have hob : ∀ b, (Value.slice a l.length c).ownBlock = some b → w.heap.size + 2 ≤ b := fun b e => (h4.1.lt b e).1
  have hnd : nd4 (hdT (n + 1) x) = [.int .i64 k, .int .i64 u, .string t, .slice a1 l1 c1] := by
    have e1 : val (n + 1) x = .agg (nd4 (hdT (n + 1) x)).toArray := rfl
    rw [e1] at x1
    injection x1 with x1
    exact Array.toList_inj.2 x1
  rw [← hnd] at hown
  have hrow := h4.snoc g0' (by omega) x3 x4 (by have := h6.lt; simp; omega) (w1 := (w1.alloc o1).alloc o2) (moved_alloc (moved_alloc (moved_drew w1 0 _) _) _) hown g2 (by simpa using hg)
  have hne : ∀ q, q < w.heap.size + 2 → some q ≠ (Value.slice a l.length c).ownBlock := fun q hq e => by have := hob q e.symm; omega
  have z : ∀ q, q < w.heap.size + 2 → w3.heap[q]? = w1.heap[q]? := fun q hq => (g2.block q (by simp; omega) (hne q hq)).trans ((alloc_block _ _ (by simp; omega)).trans (alloc_block _ _ (by omega)))
  have q2' := q2.block (z (w.heap.size + 1) (by omega))
  have kr : Rd r s b' e' w3 := k1.block (z r (by omega))
  have z2 : w3.heap.size = (w3.setCell ⟨w.heap.size + 1, 3, none⟩ (.slice (some ⟨g, 0, none⟩) (l.length + 1) c2)).heap.size := by simp [World.setCell]
  have kr2 := kr.far (g := w.heap.size + 1) (by omega) 3 (.slice (some ⟨g, 0, none⟩) (l.length + 1) c2)
  have hn := Is.nodes (n + 1) x ts' ts3 x2
  have hn2 : 0 < (nodes (n + 1) x).length := by simp [nodes]
  refine ⟨q2', b', e', ⟨l ++ [x], ts3, kr2, k2, ?_, ?_, ?_, q2'.set3 _, h7.snoc x2, by omega, fun d => ?_⟩, ?_⟩
  · refine moved_new (moved_far (moved_alloc (moved_alloc (moved_trans h3 g0') _) _) g2 fun b hb => ?_) (by simp) _ _
    have := hob b hb; simp; omega
  · refine ⟨ownsRow_setCell_below (by simpa using hrow.1) (by simp) _, fun y hy => ?_⟩
    obtain ⟨y1, y2⟩ := hrow.2 y hy
    refine ⟨?_, y2⟩
    rw [← z2]
    exact In.off (fun b hb => Below.heap_setCell _ _ _ _ (by simp; omega)) y2 y1
  · exact (q1.block (z w.heap.size (by omega))).block (Below.heap_setCell _ _ _ _ (by simp))
  · rw [h9 d, scan_exp _ _ _ (h2.no hc)]
    exact x5 (d + 1)
  · rw [msr_of kr2 k2, msr_of h1 h2]
    omega

theorem four_new (w : World) (o : Obj) (v0 v1 v2 v3 : Value) (e : TypeId) : ∀ (j : Nat) (u : Value), [v0, v1, v2, v3][j]? = some u → ((w.alloc o).alloc (.cells #[v0, v1, v2, v3] e)).cell? ((⟨w.heap.size + 1, 0, none⟩ : Addr).add j) = some u := by
  intro j u h
  rw [add_none]
  rw [World.cell?_alloc_at _ _ _ _ (by simp)]
  simpa using h
theorem four_one (k u : Int) (t : ByteArray) (a : Option Addr) (l c : Nat) : ∀ v ∈ [Value.int .i64 k, .int .i64 u, .string t, .slice a l c], v.oneCell' = true := by
  intro v hv
  simp at hv
  rcases hv with rfl | rfl | rfl | rfl <;> rfl

set_option maxHeartbeats 1000000 in
theorem tuple_walk (n : Nat) (ih : FTerm n) (r : Nat) (s : ByteArray) (b e : Nat) (t0 : Tok) (ts1 : List Tok) (w : World) (h : Rd r s b e w) (hat : At s b e (t0 :: ts1)) (hs : s.size ≤ 2048) (hl : ts1.length ≤ n) (ho : isO t0.2 = true) :
    Calls Try.prog 84 #[.pointer (some ⟨r, 0, none⟩)] w fun e' w' => ROut (n + 2) s r (t0 :: ts1) w w' e' := by
  have hlt := h.lt
  obtain ⟨it, hit, htz0, htz1, htz2⟩ := info_parts infoTerm
  have HT := hide (⟨hit, htz0, htz1, htz2⟩ : _ ∧ _ ∧ _ ∧ _)
  clear hit htz0 htz1 htz2
  have H0 := hide (⟨h, hat, hs, hl, ho⟩ : _ ∧ _ ∧ _ ∧ _ ∧ _)
  have HI := hide ih
  clear h hat hl ho ih
  go_enter Try.func84, Try.ntmps84
  go_wp2_with (go_at_call 47; refine (next_any r s b e _ ((H0.out.1.alloc _).alloc _) H0.out.2.1.2.1 hs).mono ?_; rintro e' w1 ⟨rfl, HN⟩)
  go_loopw [] (fun wr => ∃ (b e : Nat) (a : Option Addr) (L c : Nat), Hid (TupP n r s ts1 w b e (.slice a L c) wr) ∧ True) (fun wr => msr r s wr)
  case atStart => exact ⟨_, _, _, _, _, tup_start H0.out.1 H0.out.2.1 HN.out.1 HN.out.2, trivial⟩
  case round =>
    obtain ⟨b1, e1, a, L, c, HP, _⟩ := hrel
    clear HN
    obtain ⟨l, ts', HQ⟩ := HP.out
    replace HQ := hide HQ
    obtain ⟨x, hx⟩ : ∃ x, s.extract b1 e1 = x := ⟨_, rfl⟩
    have HX := hide hx
    clear hx
    have HA : Hid (Rd r s b1 e1 wr ∧ At s b1 e1 ts' ∧ ts'.length ≤ n ∧ ts1.length ≤ 2048) := by
      obtain ⟨h1, h2, h3, h4, h5, h6, h7, h8, h9⟩ := HQ.out
      refine ⟨h1, h2, Nat.le_trans h8 H0.out.2.2.2.1, ?_⟩
      have := toks_length s (s.size - e) e (Nat.le_refl _)
      rw [← H0.out.2.1.cons.2.1] at this
      omega
    cases hc : (x.toList == [41])
    · have hc1 : (x.toList = [41]) = False := by simpa using hc
      have hc2 : (x.toList != [41]) = true := by simpa using hc
      have HC : Hid (isC (s.extract b1 e1) = false) := by rw [HX.out]; exact hc
      go_wp2_with (first
        | (go_at_call 49; refine (word_is r s b1 e1 x wr HA.out.1 HA.out.2.1.1 HA.out.2.1.2.1 HX.out).mono ?_; rintro e' w1 ⟨rfl, m, rfl⟩)
        | (go_at_call 48; refine (HI.out r s b1 e1 ts' (wr.drewN m) (HA.out.1.drew m) HA.out.2.1 hs HA.out.2.2.1).mono ?_; rintro e' w2 ⟨k, u, t, a1, l1, c1, ok, rfl, HR⟩; obtain ⟨q1, q2, hlt2⟩ := tup_boxes hlt HQ.out HR.out.1; have hlt3 : w.heap.size < w2.heap.size := (by omega); obtain ⟨⟨x0, x1, x2, x3⟩, f0, f1, f2, f3⟩ := q1.cells; obtain ⟨⟨y0, y1, y2, y3⟩, k0, k1, k2, k3⟩ := q2.cells; clear q1 q2; cases ok)
        | (at_builtin; have HO := hide (tup_own hlt HQ.out HR.out.1 HA.out.2.2.2); refine wpList_append_lies _ rfl _ _ 22 rfl (w.heap.size + 2) 24 it _ 4 56 Try.underlying22 HT.out.1 HT.out.2.1 HT.out.2.2.1 HT.out.2.2.2 rfl (by decide) _ L _ rfl (HO.out.2.2 _ _) ⟨w2.heap.size + 1, 0, none⟩ 1 1 [.int .i64 k, .int .i64 u, .string t, .slice a1 l1 c1] rfl rfl (four_new _ _ _ _ _ _ _) (four_one _ _ _ _ _ _) (by decide) (by have := HO.out.2.1; unfold maxLen; omega) (by have := HO.out.2.1; omega) (by simp; omega) (w2.heap.size + 2) (by simp) ?_; intro g2 c2 w3 hown2 hgrow2 hat2 hlt5; have H2 := hide (tup_round hlt HQ.out HC.out HR.out HO.out.1 hown2 hgrow2 hat2); obtain ⟨⟨z0, z1, z2, z3⟩, p0, p1, p2, p3⟩ := H2.out.1.cells; clear hown2 hgrow2 hat2 hlt5))
      · exact bodyPost_ret (v := .tuple #[.agg #[.int .i64 0, .int .i64 0, .string ⟨#[]⟩, .slice none 0 0], .bool false]) (by simp [results, Try.results84, go_sem, x0, x1, x2, x3, hlt3]) rfl ⟨0, 0, ⟨#[]⟩, none, 0, 0, false, rfl, (RRes.box hlt (tup_false H0.out.2.2.2.2 HQ.out HC.out HR.out _) _ _ _ _).alloc _⟩
      · obtain ⟨b', e', h1, h2⟩ := H2.out.2
        go_roundw
        case rel => exact ⟨b', e', _, _, _, h1, trivial⟩
        case measure => exact h2
    · go_wp2_with (first
        | (go_at_call 49; refine (word_is r s b1 e1 x wr HA.out.1 HA.out.2.1.1 HA.out.2.1.2.1 HX.out).mono ?_; rintro e' w1 ⟨rfl, m, rfl⟩)
        | (go_at_call 47; refine (next_any r s b1 e1 (wr.drewN m) (HA.out.1.drew m) HA.out.2.1.2.1 hs).mono ?_; rintro e' w2 ⟨rfl, HN⟩; obtain ⟨h1, h2, h3⟩ := tup_close hlt H0.out.2.2.2.2 HP.out (by rw [HX.out]; exact hc) HN.out.1 HN.out.2; obtain ⟨⟨x0, x1, x2, x3⟩, f0, f1, f2, f3⟩ := h2.cells; obtain ⟨⟨y0, y1, y2, y3⟩, k0, k1, k2, k3⟩ := h3.cells; have HF := hide (RRes.box hlt h1); clear h1 h2 h3))
      exact bodyPost_ret (v := .tuple #[.agg #[.int .i64 4, .int .i64 0, .string ⟨#[]⟩, .slice a L c], .bool true]) (by simp [results, Try.results84, go_sem, x0, x1, x2, x3]) rfl ⟨4, 0, ⟨#[]⟩, a, L, c, true, rfl, HF.out _ _ _ _⟩
end Go.Proofs.Ytpehdgbdinjbaaa
namespace Go.Proofs.Ytpehdgbdinjbaaa
open Go.RowKit

theorem leaf_nil {x : ByteArray} (h : x.toList = []) : leafB x = false := by
  rw [ByteArray.toList_eq] at h
  have hz : x.size = 0 := by
    have : x.data.toList.length = x.size := by simp
    rw [h] at this
    exact this.symm
  simp [leafB, ByteArray.toList_eq, isNum, h, hz]

theorem RRes.undrew {n r : Nat} {s : ByteArray} {ts : List Tok} {w w1 : World} {m : Nat} {v : Value} {ok : Bool} (h : RRes n s r ts (w.drewN m) w1 v ok) : RRes n s r ts w w1 v ok := by
  obtain ⟨h1, h2⟩ := h
  exact ⟨moved_trans (moved_drew w m _) h1, h2⟩

/-- A word that is a term by itself. -/
theorem leaf_res {n r : Nat} {s : ByteArray} {b e : Nat} {ts : List Tok} {w w1 w2 : World} {x : ByteArray} (hat : At s b e ts) (hx : s.extract b e = x) (hs : s.size ≤ 2048) (ho : isO x = false) {k u : Int} {t : ByteArray}
    (hl : leafB x = true) (hv : (k, u, t) = leafV x) (ht : t.size ≤ x.size) (hk : I64 k) (hu : I64 u) {o : Obj} (hb : Below w.heap.size w w1) (kr : Rd r s (wordB s e) (wordE s e) w2) (g : (w1.alloc o).grownBy w2 (some r)) :
    RRes (n + 1) s r ts w w2 (.agg #[.int .i64 k, .int .i64 u, .string t, .slice none 0 0]) true := by
  have hxs : x.size ≤ 2048 := by rw [← hx]; simp; have := hat.2.1; omega
  refine ⟨moved_trans (moved_alloc (moved_below (World.grownBy.refl w _) hb) o) g, wordB s e, wordE s e, toks s e, kr, At.next hat.2.1, fun _ => ?_, by simp⟩
  cases ts with
  | nil =>
    have := hat.nil
    rw [hx] at this
    rw [leaf_nil this] at hl
    exact absurd hl (by simp)
  | cons t0 ts =>
    obtain ⟨e1, e2, _⟩ := hat.cons
    subst e1 e2
    rw [hx]
    refine ⟨⟨((k, u, t), (none, 0), []), rfl, ⟨_, _, rfl, Or.inl ⟨ho, hl, hv, rfl, rfl⟩⟩, ⟨⟨hk, hu, by unfold maxLen; simp only; omega, Nat.zero_le _, Nat.zero_le _⟩, Or.inl rfl⟩, Or.inl rfl⟩, fun d => ?_⟩
    simp only [exp, ho, hl]
    simp
theorem leaf_no {n r : Nat} {s : ByteArray} {b e : Nat} {ts : List Tok} {w w1 : World} {x : ByteArray} (hat : At s b e ts) (hx : s.extract b e = x) (ho : isO x = false) (hl : leafB x = false) (h : Rd r s b e w) (hb : Below w.heap.size w w1) (v : Value) :
    RRes (n + 1) s r ts w w1 v false := by
  refine ⟨moved_below (World.grownBy.refl w _) hb, b, e, ts, h.block (hb.block r h.lt), hat, by simp, fun _ d => ?_⟩
  cases ts with
  | nil => rfl
  | cons t0 ts =>
    obtain ⟨e1, e2, _⟩ := hat.cons
    subst e1 e2
    simp only [exp, hx, ho, hl]
    simp [posOf]

theorem below_un2 {w w1 : World} {m : Nat} (h : Below (w.drewN m).heap.size (w.drewN m) w1) : Below w.heap.size w w1 := ⟨h.os, h.tape, h.output, h.size, h.block⟩
theorem box_kept {w w2 : World} {r : Nat} {v0 v1 v2 v3 : Value} (hr : r < w.heap.size) (g : (w.alloc (.cells #[v0, v1, v2, v3] 24)).grownBy w2 (some r)) : Bx w.heap.size v0 v1 v2 v3 w2 :=
  (Bx.new w v0 v1 v2 v3).block (g.block _ (by simp) (by simp; omega))

set_option maxHeartbeats 1000000 in
theorem term_walk (n : Nat) (r : Nat) (s : ByteArray) (b e : Nat) (ts : List Tok) (w : World) (h : Rd r s b e w) (hat : At s b e ts) (hs : s.size ≤ 2048)
    (ih : ∀ w' : World, Rd r s b e w' → isO (s.extract b e) = true → Calls Try.prog 84 #[.pointer (some ⟨r, 0, none⟩)] w' fun e' w'' => ROut (n + 1) s r ts w' w'' e') :
    Calls Try.prog 48 #[.pointer (some ⟨r, 0, none⟩)] w fun e' w' => ROut (n + 1) s r ts w w' e' := by
  have hlt := h.lt
  have H0 := hide (⟨h, hat⟩ : _ ∧ _)
  have HI := hide ih
  clear h hat ih
  obtain ⟨x, hx⟩ : ∃ x, s.extract b e = x := ⟨_, rfl⟩
  have HX := hide hx
  have hxs : x.size ≤ 2048 := by rw [← hx]; simp; have := H0.out.2.2.1; omega
  clear hx
  cases hc : (x.toList == [40])
  · have hc1 : (x.toList = [40]) = False := by simpa using hc
    have hc2 : (x.toList != [40]) = true := by simpa using hc
    go_enter Try.func48, Try.ntmps48
    go_wp2_with (first
      | (go_at_call 49; refine (word_is r s b e x _ (H0.out.1.alloc _) H0.out.2.1 H0.out.2.2.1 HX.out).mono ?_; rintro e' w1 ⟨rfl, m, rfl⟩)
      | (go_at_call 49; refine (word_is r s b e x _ ((H0.out.1.alloc _).drew m) H0.out.2.1 H0.out.2.2.1 HX.out).mono ?_; rintro e' w1 ⟨rfl, m2, rfl⟩)
      | (go_at_call 85; refine (plain_any x _ hxs).mono ?_; rintro e' w2 ⟨⟨k, u, t, ok, rfl, HV⟩, HB⟩; replace HB := below_un2 HB; obtain ⟨⟨x0, x1, x2, x3⟩, f0, f1, f2, f3⟩ := box_of HB; have hlt2 : w.heap.size < w2.heap.size := (by have := HB.size; simp at this; omega); have hlt4 : r < w2.heap.size := (by omega); replace HB := hide HB; cases ok)
      | (go_at_call 47; refine (next_any r s b e _ ((((H0.out.1.alloc _).block (HB.out.block r (by simp; omega)))).alloc _) H0.out.2.2.1 hs).mono ?_; rintro e' w3 ⟨rfl, HN⟩; have HG := hide (moved_trans (moved_alloc (moved_below (World.grownBy.refl _ _) HB.out) _) HN.out.2); obtain ⟨⟨z0, z1, z2, z3⟩, p0, p1, p2, p3⟩ := (box_kept hlt HG.out).cells; obtain ⟨⟨y0, y1, y2, y3⟩, k0, k1, k2, k3⟩ := (box_kept hlt4 HN.out.2).cells; obtain ⟨v1, v2, v3, v4, v5⟩ := HV.out; have HF := hide (RRes.box hlt (leaf_res (n := n) H0.out.2 HX.out hs hc v1.symm (v2 (by trivial)) v3 v4 v5 HB.out HN.out.1 HN.out.2)); clear v1 v2 v3 v4 v5))
    · exact bodyPost_ret (v := .tuple #[.agg #[.int .i64 k, .int .i64 u, .string t, .slice none 0 0], .bool false]) (by simp [results, Try.results48, go_sem, x0, x1, x2, x3, hlt2]) rfl ⟨k, u, t, none, 0, 0, false, rfl, (RRes.box hlt (leaf_no H0.out.2 HX.out hc HV.out.1.symm (H0.out.1.alloc _) HB.out _) _ _ _ _).alloc _⟩
    · exact bodyPost_ret (v := .tuple #[.agg #[.int .i64 k, .int .i64 u, .string t, .slice none 0 0], .bool true]) (by simp [results, Try.results48, go_sem, z0, z1, z2, z3]) rfl ⟨k, u, t, none, 0, 0, true, rfl, HF.out _ _ _ _⟩
  · go_enter Try.func48, Try.ntmps48
    go_wp2_with (first
      | (go_at_call 49; refine (word_is r s b e x _ (H0.out.1.alloc _) H0.out.2.1 H0.out.2.2.1 HX.out).mono ?_; rintro e' w1 ⟨rfl, m, rfl⟩)
      | (go_at_call 84; refine (HI.out _ ((H0.out.1.alloc _).drew m) (by rw [HX.out]; exact hc)).mono ?_; rintro e' w2 ⟨k, u, t, a1, l1, c1, ok, rfl, HR⟩; replace HR := hide HR.out.undrew; obtain ⟨⟨x0, x1, x2, x3⟩, f0, f1, f2, f3⟩ := (box_kept hlt HR.out.1).cells))
    exact bodyPost_ret (v := .tuple #[.agg #[.int .i64 k, .int .i64 u, .string t, .slice a1 l1 c1], .bool ok]) (by simp [results, Try.results48, go_sem, x0, x1, x2, x3]) rfl ⟨k, u, t, a1, l1, c1, ok, rfl, RRes.box hlt HR.out _ _ _ _⟩

theorem term_any (n : Nat) : FTerm n := by
  induction n with
  | zero =>
    intro r s b e ts w h hat hs hl
    refine term_walk 0 r s b e ts w h hat hs fun w' _ ho => ?_
    have e1 : ts = [] := List.eq_nil_of_length_eq_zero (by omega)
    subst e1
    simp [isO, hat.nil] at ho
  | succ n ih =>
    intro r s b e ts w h hat hs hl
    refine term_walk (n + 1) r s b e ts w h hat hs fun w' h' ho => ?_
    cases ts with
    | nil => simp [isO, hat.nil] at ho
    | cons t ts =>
      have e1 := hat.cons.1
      refine tuple_walk n ih r s b e t ts w' h' hat hs (by simp at hl; omega) ?_
      rw [e1]
      exact ho
end Go.Proofs.Ytpehdgbdinjbaaa
namespace Go.Proofs.Ytpehdgbdinjbaaa
open Go.RowKit

def zeroT : Value := .agg #[.int .i64 0, .int .i64 0, .string ⟨#[]⟩, .slice none 0 0]
/-- What a reading of a whole text tells: a term, a place, an error. -/
def PRes (s : ByteArray) (w w' : World) (v : Value) (pos err : Int) : Prop :=
  (2048 < s.size ∧ v = zeroT ∧ pos = 0 ∧ err = 2) ∨ (∃ p : Nat, s.size ≤ 2048 ∧ exp s.size (toks s 0) 0 = some p ∧ v = zeroT ∧ pos = p ∧ err = 3) ∨
    (s.size ≤ 2048 ∧ exp s.size (toks s 0) 0 = none ∧ ∃ (n : Nat) (x : Tm n), Is n x (toks s 0) [] ∧ In w'.heap.size w' n x ∧ Off (fun q => w.heap.size ≤ q) n x ∧ pos = 0 ∧ err = chk n x ∧ ((chk n x ≠ 0 ∧ v = zeroT) ∨ (chk n x = 0 ∧ v = val n x)))
def POut (s : ByteArray) (w w' : World) (e : Ending) : Prop :=
  ∃ (k u : Int) (t : ByteArray) (a : Option Addr) (l c : Nat) (pos err : Int), e = .returned (.tuple #[.agg #[.int .i64 k, .int .i64 u, .string t, .slice a l c], .int .i64 pos, .int .i64 err]) ∧
    Hid (PRes s w w' (.agg #[.int .i64 k, .int .i64 u, .string t, .slice a l c]) pos err ∧ Below w.heap.size w w')

theorem set4_block {w : World} {q b : Nat} (h : b ≠ q) (v0 v1 v2 v3 : Value) : ((((w.setCell ⟨q, 0, none⟩ v0).setCell ⟨q, 1, none⟩ v1).setCell ⟨q, 2, none⟩ v2).setCell ⟨q, 3, none⟩ v3).heap[b]? = w.heap[b]? := by
  rw [Below.heap_setCell _ _ _ _ (by simpa using h), Below.heap_setCell _ _ _ _ (by simpa using h), Below.heap_setCell _ _ _ _ (by simpa using h), Below.heap_setCell _ _ _ _ (by simpa using h)]
theorem set4_size {w : World} {q : Nat} (v0 v1 v2 v3 : Value) : ((((w.setCell ⟨q, 0, none⟩ v0).setCell ⟨q, 1, none⟩ v1).setCell ⟨q, 2, none⟩ v2).setCell ⟨q, 3, none⟩ v3).heap.size = w.heap.size := by simp [World.setCell]

/-- The two boxes, behind the reading. -/
theorem par_boxes {s : ByteArray} {w w2 w3 : World} (g : ((w.alloc (.cells #[.int .i64 0, .int .i64 0, .string ⟨#[]⟩, .slice none 0 0] 24)).alloc (.cells #[.string s, .int .i64 0, .int .i64 0] 87)).grownBy w2 (some (w.heap.size + 1)))
    (g2 : w2.grownBy w3 (some (w.heap.size + 1))) : Bx w.heap.size (.int .i64 0) (.int .i64 0) (.string ⟨#[]⟩) (.slice none 0 0) w3 ∧ w.heap.size + 1 < w3.heap.size ∧ Below w.heap.size w w3 ∧ w.heap.size + 2 ≤ w2.heap.size := by
  have g3 := moved_trans g g2
  have z := g.size
  have z2 := g2.size
  simp at z
  refine ⟨((Bx.new w _ _ _ _).block (alloc_block _ _ (by simp))).block (g3.block _ (by simp; omega) (by simp)), by omega, ?_, by omega⟩
  exact (((Below.refl _ _).alloc (Nat.le_refl _) _).alloc (by simp) _).grown g3 (by simp; omega) (fun j e => by simp at e; omega)

theorem In.drewN {B : Nat} {w : World} {n : Nat} {x : Tm n} (m : Nat) {P : Nat → Prop} (k : Off P n x) (h : In B w n x) : In B (w.drewN m) n x := In.off (w := w) (w' := w.drewN m) (fun _ _ => rfl) k h

/-- The words tell one term: it lies there. -/
theorem par_tree {s : ByteArray} {w w2 w3 : World} {v : Value} {b e : Nat} {ts' : List Tok} {x : ByteArray} (hx : s.extract b e = x) (hc : (x.toList == []) = true) (hs : s.size ≤ 2048) (hat : At s b e ts') (z : w.heap.size + 2 ≤ w2.heap.size)
    (h : (∃ x : Tm 2049, val 2049 x = v ∧ Is 2049 x (toks s 0) ts' ∧ In w3.heap.size w3 2049 x ∧ Off (fun q => w2.heap.size ≤ q) 2049 x) ∧ ∀ d, exp s.size (toks s 0) d = scanD s.size ts' d) (o : Obj) (m : Nat) :
    ∃ y : Tm 2049, v = val 2049 y ∧ Is 2049 y (toks s 0) [] ∧ In ((w3.alloc o).drewN m).heap.size ((w3.alloc o).drewN m) 2049 y ∧ Off (fun q => w.heap.size + 2 ≤ q) 2049 y ∧ (nodes 2049 y).length ≤ 2097152 ∧ exp s.size (toks s 0) 0 = none := by
  obtain ⟨⟨y, h1, h2, h3, h4⟩, h5⟩ := h
  have e1 : ts' = [] := by
    cases ts' with
    | nil => rfl
    | cons t ts' =>
      have k := hat.cons.2.2
      rw [hx] at k
      have k2 : x.toList = [] := by simpa using hc
      rw [ByteArray.toList_eq] at k2
      have : x.data.toList.length = x.size := by simp
      rw [k2] at this
      simp at this
      omega
  subst e1
  have k1 := Is.nodes 2049 y (toks s 0) [] h2
  have k2 := toks_length s s.size 0 (by omega)
  refine ⟨y, h1.symm, h2, In.drewN m h4 ((In.off (fun b hb => alloc_block w3 o hb.2) (In.offB h4 h3) h3).mono (by simp)), h4.mono fun q hq => by omega, by simp at k1; omega, h5 0⟩

theorem par_last {w w3 w5 : World} {m : Nat} {v0 v1 v2 v3 : Value} (h : Bx w.heap.size (.int .i64 0) (.int .i64 0) (.string ⟨#[]⟩) (.slice none 0 0) w3)
    (b : Below ((w3.alloc (.cells #[v0, v1, v2, v3] 24)).drewN m).heap.size ((w3.alloc (.cells #[v0, v1, v2, v3] 24)).drewN m) w5) :
    Bx w.heap.size (.int .i64 0) (.int .i64 0) (.string ⟨#[]⟩) (.slice none 0 0) w5 ∧ Bx w3.heap.size v0 v1 v2 v3 w5 := by
  have hlt := h.lt
  exact ⟨(h.block (alloc_block _ _ hlt)).block (b.block _ (by simp; omega)), (Bx.new w3 v0 v1 v2 v3).block (b.block _ (by simp))⟩

theorem par_some {s : ByteArray} {b e : Nat} {ts' : List Tok} {x : ByteArray} (hx : s.extract b e = x) (hc : (x.toList == []) = false) (hat : At s b e ts') (h : exp s.size (toks s 0) 0 = scanD s.size ts' 0) : exp s.size (toks s 0) 0 = some b := by
  rw [h, ← hat.pos]
  cases ts' with
  | nil => rw [← hx] at hc; simp [hat.nil] at hc
  | cons t ts' => rfl
/-- The term still lies there when the result is laid down. -/
theorem par_in {w w4 w5 : World} {n : Nat} {y : Tm n} (h : In w4.heap.size w4 n y) (k : Off (fun q => w.heap.size + 2 ≤ q) n y) (b : Below w4.heap.size w4 w5) (v0 v1 v2 v3 : Value) :
    In ((((w5.setCell ⟨w.heap.size, 0, none⟩ v0).setCell ⟨w.heap.size, 1, none⟩ v1).setCell ⟨w.heap.size, 2, none⟩ v2).setCell ⟨w.heap.size, 3, none⟩ v3).heap.size ((((w5.setCell ⟨w.heap.size, 0, none⟩ v0).setCell ⟨w.heap.size, 1, none⟩ v1).setCell ⟨w.heap.size, 2, none⟩ v2).setCell ⟨w.heap.size, 3, none⟩ v3) n y := by
  rw [set4_size]
  exact In.off (fun q hq => set4_block (by omega) _ _ _ _) k ((h.below b).mono b.size)

theorem below_set4 {w w1 : World} (h : Below w.heap.size w w1) (v0 v1 v2 v3 : Value) : Below w.heap.size w ((((w1.setCell ⟨w.heap.size, 0, none⟩ v0).setCell ⟨w.heap.size, 1, none⟩ v1).setCell ⟨w.heap.size, 2, none⟩ v2).setCell ⟨w.heap.size, 3, none⟩ v3) :=
  ⟨h.os, h.tape, h.output, by rw [set4_size]; exact h.size, fun k hk => (set4_block (by omega) _ _ _ _).trans (h.block k hk)⟩
theorem below_drew {B : Nat} {w w1 : World} (h : Below B w w1) (m : Nat) : Below B w (w1.drewN m) := ⟨h.os, h.tape, h.output, h.size, h.block⟩
theorem below_new {w w1 : World} (h : Below w.heap.size w w1) (o : Obj) : Below w.heap.size w (w1.alloc o) := h.alloc h.size o

set_option maxHeartbeats 1000000 in
theorem parse_any (s : ByteArray) (w : World) (hs : s.size ≤ maxLen) :
    Calls Try.prog 12 #[.string s] w fun e w' => POut s w w' e := by
  unfold maxLen at hs
  by_cases hbig : 2048 < s.size
  · have hbig' : (2048 : Int) < s.size := by omega
    go_enter Try.func12, Try.ntmps12
    go_wp2_with fail
    exact bodyPost_ret (v := .tuple #[zeroT, .int .i64 0, .int .i64 2]) (by simp [results, Try.results12, go_sem, zeroT]) rfl ⟨0, 0, ⟨#[]⟩, none, 0, 0, 0, 2, rfl, Or.inl ⟨hbig, rfl, rfl, rfl⟩, by go_grown⟩
  · have hbig' : (s.size : Int) ≤ 2048 := by omega
    have hs2 : s.size ≤ 2048 := by omega
    clear hbig
    have HR0 : Hid (Rd (w.heap.size + 1) s 0 0 ((w.alloc (.cells #[.int .i64 0, .int .i64 0, .string ⟨#[]⟩, .slice none 0 0] 24)).alloc (.cells #[.string s, .int .i64 0, .int .i64 0] 87))) := by
      have := heap_alloc_new (w.alloc (.cells #[.int .i64 0, .int .i64 0, .string ⟨#[]⟩, .slice none 0 0] 24)) (.cells #[.string s, .int .i64 0, .int .i64 0] 87)
      simpa [Hid, Rd] using this
    go_enter Try.func12, Try.ntmps12
    go_wp2_with (first
      | (go_at_call 47; refine (next_any (w.heap.size + 1) s 0 0 _ HR0.out (Nat.zero_le _) hs2).mono ?_; rintro e' w2 ⟨rfl, HN⟩)
      | (go_at_call 48; refine (term_any 2048 (w.heap.size + 1) s _ _ (toks s 0) w2 HN.out.1 (At.next (Nat.zero_le _)) hs2 (Nat.le_trans (toks_length s s.size 0 (by omega)) (by omega))).mono ?_; rintro e' w3 ⟨k, u, t, a, l, c, ok, rfl, HR⟩; obtain ⟨q1, hl3, q3, q4⟩ := par_boxes HN.out.2 HR.out.1; obtain ⟨⟨x0, x1, x2, x3⟩, f0, f1, f2, f3⟩ := q1.cells; have hl4 : w.heap.size < w3.heap.size := (by omega); obtain ⟨_, b', e', ts', HQ⟩ := HR.out; replace HQ := hide HQ; obtain ⟨⟨c0, c1, c2⟩, j1, j2⟩ := HQ.out.1.cells; have HB := hide (⟨q3, q4⟩ : _ ∧ _); replace q1 := hide q1; clear q3 q4; obtain ⟨x, hx⟩ : ∃ x, s.extract b' e' = x := ⟨_, rfl⟩; have HX := hide hx; clear hx; cases ok)
      | (go_at_call 49; refine (word_is (w.heap.size + 1) s b' e' x _ (HQ.out.1.alloc _) HQ.out.2.1.1 HQ.out.2.1.2.1 HX.out).mono ?_; rintro e2 w4 ⟨rfl, m, rfl⟩; cases hc : (x.toList == []))
      | (go_at_call 50; obtain ⟨y, hv, HY⟩ := par_tree HX.out hc hs2 HQ.out.2.1 HB.out.2 (HQ.out.2.2.1 (by trivial)) _ m; replace HY := hide HY; refine (show Calls _ _ #[.agg #[.int .i64 k, .int .i64 u, .string t, .slice a l c]] _ _ from hv ▸ tcheck_any 2049 y _ _ HY.out.2.1 (Nat.le_refl _) HY.out.2.2.2.1).mono ?_; rintro e3 w5 ⟨rfl, hb5⟩; obtain ⟨r1, r2⟩ := par_last q1.out hb5; obtain ⟨⟨y0, y1, y2, y3⟩, g0, g1, g2, g3⟩ := r1.cells; obtain ⟨⟨z0, z1, z2, z3⟩, p0, p1, p2, p3⟩ := r2.cells; have HB5 := hide hb5; clear r1 r2 hb5; replace hv := hide hv; obtain ⟨E, hE⟩ : ∃ E, chk 2049 y = E := ⟨_, rfl⟩; rw [hE]; replace hE := hide hE; by_cases hE0 : E = 0))
    · go_region
      go_wp2_with fail
      have hb := HB.out.1
      exact bodyPost_ret (v := .tuple #[zeroT, .int .i64 b', .int .i64 3]) (by simp [results, Try.results12, go_sem, zeroT, hl4, x0, x1, x2, x3]) rfl ⟨0, 0, ⟨#[]⟩, none, 0, 0, b', 3, rfl, Or.inr (Or.inl ⟨b', hs2, by rw [← HQ.out.2.1.pos]; exact HQ.out.2.2.2 (by trivial) 0, rfl, rfl, rfl⟩), by go_grown⟩
    · go_region
      go_wp2_with fail
      have hb := HB.out.1
      exact bodyPost_ret (v := .tuple #[zeroT, .int .i64 b', .int .i64 3]) (by simp [results, Try.results12, go_sem, zeroT, hl4, x0, x1, x2, x3]) rfl ⟨0, 0, ⟨#[]⟩, none, 0, 0, b', 3, rfl, Or.inr (Or.inl ⟨b', hs2, par_some HX.out hc HQ.out.2.1 ((HQ.out.2.2.1 (by trivial)).2 0), rfl, rfl, rfl⟩), below_set4 (below_drew (below_new hb _) _) _ _ _ _⟩
    · have hb := HB.out.1
      have hb5 := HB5.out
      exact bodyPost_ret (v := .tuple #[.agg #[.int .i64 k, .int .i64 u, .string t, .slice a l c], .int .i64 0, .int .i64 0]) (by simp [results, Try.results12, go_sem, y0, y1, y2, y3]) rfl ⟨k, u, t, a, l, c, 0, 0, rfl, Or.inr (Or.inr ⟨hs2, HY.out.2.2.2.2, 2049, y, HY.out.1, par_in HY.out.2.1 HY.out.2.2.1 HB5.out _ _ _ _, HY.out.2.2.1.mono (fun q hq => by omega), rfl, (hE.out.trans hE0).symm, Or.inr ⟨hE.out.trans hE0, hv.out⟩⟩), below_set4 ((below_drew (below_new hb _) m).trans (hb5.mono (below_drew (below_new hb _) m).size)) _ _ _ _⟩
    · have hb := HB.out.1
      have hb5 := HB5.out
      exact bodyPost_ret (v := .tuple #[zeroT, .int .i64 0, .int .i64 E]) (by simp [results, Try.results12, go_sem, zeroT, y0, y1, y2, y3]) rfl ⟨0, 0, ⟨#[]⟩, none, 0, 0, 0, E, rfl, Or.inr (Or.inr ⟨hs2, HY.out.2.2.2.2, 2049, y, HY.out.1, par_in HY.out.2.1 HY.out.2.2.1 HB5.out _ _ _ _, HY.out.2.2.1.mono (fun q hq => by omega), rfl, hE.out.symm, Or.inl ⟨by rw [hE.out]; exact hE0, rfl⟩⟩), below_set4 ((below_drew (below_new hb _) m).trans (hb5.mono (below_drew (below_new hb _) m).size)) _ _ _ _⟩
end Go.Proofs.Ytpehdgbdinjbaaa
namespace Go.Proofs.Ytpehdgbdinjbaaa
open Go.RowKit

def nE (c : UInt8) : Bool := !enB c
def strs (l : List Tok) : List Value := l.map fun t => .string t.2
def poss (l : List Tok) : List Value := l.map fun t => .int .i64 t.1

/-- The words dn stand behind i signs; the last is open, or not. -/
def WP (s : ByteArray) (i : Nat) : Bool → List Tok → Prop
  | false, dn => dn ++ toks s i = toks s 0
  | true, dn => ∃ b d, b < i ∧ dn = d ++ [(b, s.extract b i)] ∧ d ++ (b, s.extract b (skipTo nE s i)) :: toks s (skipTo nE s i) = toks s 0

theorem wp_start (s : ByteArray) : WP s 0 false [] := rfl
theorem wp_shut {s : ByteArray} {i : Nat} {o : Bool} {dn : List Tok} (h : WP s i o dn) (he2 : ∀ h : i < s.size, enB s[i] = true) : WP s i false dn := by
  cases o with
  | false => exact h
  | true =>
    obtain ⟨b, d, hb, e1, e2⟩ := h
    have e3 : skipTo nE s i = i := by
      by_cases hi : i < s.size
      · exact skip_stop (p := nE) hi (by simp [nE, he2 hi])
      · exact skip_end (p := nE) hi
    rw [e3] at e2
    show dn ++ toks s i = toks s 0
    rw [e1, ← e2]
    simp
theorem wp_blank {s : ByteArray} {i : Nat} {dn : List Tok} (h : WP s i false dn) (hi : i < s.size) (hb : s[i] = 32) : WP s (i + 1) false dn := by
  have h' : dn ++ toks s i = toks s 0 := h
  rw [tk_blank hi hb] at h'
  exact h'
theorem wp_bracket {s : ByteArray} {i : Nat} {dn : List Tok} (h : WP s i false dn) (hi : i < s.size) (hb : s[i] = 40 ∨ s[i] = 41) : WP s (i + 1) false (dn ++ [(i, s.extract i (i + 1))]) := by
  have h' : dn ++ toks s i = toks s 0 := h
  rw [tk_bracket hi hb] at h'
  show (dn ++ [(i, s.extract i (i + 1))]) ++ toks s (i + 1) = toks s 0
  simpa using h'
theorem wp_new {s : ByteArray} {i : Nat} {dn : List Tok} (h : WP s i false dn) (hi : i < s.size) (hb : enB s[i] = false) : WP s (i + 1) true (dn ++ [(i, s.extract i (i + 1))]) := by
  have h' : dn ++ toks s i = toks s 0 := h
  rw [tk_plain hi hb] at h'
  exact ⟨i, dn, Nat.lt_succ_self _, rfl, h'⟩
theorem wp_more {s : ByteArray} {i : Nat} {dn : List Tok} (h : WP s i true dn) (hi : i < s.size) (hb : enB s[i] = false) :
    ∃ b d x, dn = d ++ [(b, x)] ∧ x.size ≤ s.size ∧ WP s (i + 1) true (d ++ [(b, x ++ s.extract i (i + 1))]) := by
  obtain ⟨b, d, hbi, e1, e2⟩ := h
  have e3 : skipTo nE s (i + 1) = skipTo nE s i := skip_step (p := nE) hi (by simp [nE, hb])
  refine ⟨b, d, _, e1, by simp; omega, b, d, by omega, ?_, by rw [e3]; exact e2⟩
  rw [ByteArray.extract_append_extract]
  rw [Nat.min_eq_left (by omega), Nat.max_eq_right (by omega)]
theorem wp_end {s : ByteArray} {i : Nat} {dn : List Tok} (h : WP s i false dn) (hi : ¬ i < s.size) : dn = toks s 0 := by
  have h' : dn ++ toks s i = toks s 0 := h
  rw [toks_nil s i (by have := wordB_ge s i; omega)] at h'
  simpa using h'

/-- One cell of an owned row is written. -/
theorem own_set {w : World} {base e g L c : Nat} {xs : List Value} (h : w.ownsRow base e 1 (.slice (some ⟨g, 0, none⟩) L c) L xs) (j : Nat) (u : Value) :
    (w.setCell ⟨g, j, none⟩ u).ownsRow base e 1 (.slice (some ⟨g, 0, none⟩) L c) L (xs.set j u) := by
  obtain ⟨h1, h2⟩ := h
  refine ⟨by simpa using h1, ?_⟩
  rcases h2 with ⟨h2, _⟩ | ⟨g', cap, cur, hv, hg, hh, hc, hm, hz, he⟩
  · simp at h2
  · injection hv with e1 e2 e3
    injection e1 with e1
    injection e1 with e1 _
    subst e1 e3
    refine Or.inr ⟨g, c, cur.setIfInBounds j u, rfl, hg, ?_, hc, hm, by simpa using hz, ?_⟩
    · simp [World.setCell, Array.getElem?_modify, hh]
    · rw [← he]
      simp [List.take_set]
theorem own_free {w : World} {base e size g L c : Nat} {xs : List Value} (h : w.ownsRow base e size (.slice (some ⟨g, 0, none⟩) L c) L xs) (j : Nat) : w.frozen? ⟨g, j, none⟩ = false := by
  obtain ⟨h1, h2⟩ := h
  rcases h2 with ⟨h2, _⟩ | ⟨g', cap, cur, hv, hg, hh, hc, hm, hz, he⟩
  · simp at h2
  · injection hv with e1 e2 e3
    injection e1 with e1
    injection e1 with e1 _
    subst e1
    simp [World.frozen?, hh]

/-- What holds behind i signs. -/
def WdsP (s : ByteArray) (w : World) (i : Nat) (o : Bool) (dn : List Tok) (v1 v2 : Value) (wr : World) : Prop :=
  WP s i o dn ∧ dn.length ≤ i ∧ Below w.heap.size w wr ∧ wr.ownsRow w.heap.size 9 1 v1 dn.length (strs dn) ∧ wr.ownsRow w.heap.size 3 1 v2 dn.length (poss dn) ∧ ∀ b, v1.ownBlock = some b → v2.ownBlock ≠ some b
theorem wds_mid {s : ByteArray} {w wr w2 : World} {i : Nat} {o : Bool} {dn : List Tok} {v1 v2 : Value} (h : WdsP s w i o dn v1 v2 wr) {o1 o2 : Obj} (g2 : (wr.alloc o1).grownBy w2 v1.ownBlock) :
    (w2.alloc o2).ownsRow w.heap.size 3 1 v2 dn.length (poss dn) := by
  obtain ⟨_, _, _, _, h5, h6⟩ := h
  refine ((h5.alloc o1).kept g2 ?_).alloc o2
  cases hv : v2.ownBlock with
  | none => exact Or.inl rfl
  | some b => exact Or.inr fun e => h6 b e.symm hv

theorem wds_end {s : ByteArray} {w wr w2 w4 : World} {i : Nat} {o o' : Bool} {dn : List Tok} {v1 v2 : Value} (h : WdsP s w i o dn v1 v2 wr) {o1 o2 : Obj} (g2 : (wr.alloc o1).grownBy w2 v1.ownBlock) (t : Tok) (hw : WP s (i + 1) o' (dn ++ [t]))
    {g c g' c' : Nat} (h1 : w2.ownsRow w.heap.size 9 1 (.slice (some ⟨g, 0, none⟩) (dn.length + 1) c) (dn.length + 1) (strs dn ++ [.string t.2])) (a1 : v1.ownBlock = some g ∨ g = wr.heap.size + 1)
    (g4 : (w2.alloc o2).grownBy w4 v2.ownBlock) (h2 : w4.ownsRow w.heap.size 3 1 (.slice (some ⟨g', 0, none⟩) (dn.length + 1) c') (dn.length + 1) (poss dn ++ [.int .i64 t.1])) (a2 : v2.ownBlock = some g' ∨ g' = w2.heap.size + 1) :
    (dn ++ [t]).length = dn.length + 1 ∧ WdsP s w (i + 1) o' (dn ++ [t]) (.slice (some ⟨g, 0, none⟩) (dn.length + 1) c) (.slice (some ⟨g', 0, none⟩) (dn.length + 1) c') w4 := by
  obtain ⟨k1, k2, k3, k4, k5, k6⟩ := h
  have z2 := g2.size
  have z4 := g4.size
  have z3 := k3.size
  simp at z2 z4
  have lg := own_lt h1
  have hne : g ≠ g' := by
    intro e
    subst e
    rcases a1 with a1 | a1
    · have := k4.lt g a1
      rcases a2 with a2 | a2
      · exact k6 g a1 a2
      · omega
    · rcases a2 with a2 | a2
      · have := k5.lt g a2
        omega
      · omega
  have hg : v2.ownBlock ≠ some g := by
    intro e
    rcases a1 with a1 | a1
    · exact k6 g a1 e
    · have := k5.lt g e
      omega
  refine ⟨by simp, hw, by simp; omega, ?_, ?_, ?_, ?_⟩
  · have b2 : Below w.heap.size w w2 := (k3.alloc k3.size o1).grown g2 (by simp; omega) (fun j e => (k4.lt j e).1)
    exact (b2.alloc b2.size o2).grown g4 (by simp; omega) (fun j e => (k5.lt j e).1)
  · have := (h1.alloc o2).kept g4 (Or.inr (by simp only [Value.ownBlock]; exact fun e => hg e.symm))
    simpa [strs] using this
  · simpa [poss] using h2
  · intro b hb
    have : g = b := by simpa [Value.ownBlock] using hb
    simp [Value.ownBlock]
    omega

/-- The open word gets one more sign. -/
theorem wds_more {s : ByteArray} {w wr : World} {i : Nat} {d : List Tok} {b g c : Nat} {x y : ByteArray} {v2 : Value} {L : Nat} (h : WdsP s w i true (d ++ [(b, x)]) (.slice (some ⟨g, 0, none⟩) L c) v2 wr) (hL : (d ++ [(b, x)]).length = L) (hw : WP s (i + 1) true (d ++ [(b, y)])) (m : Nat) :
    (d ++ [(b, y)]).length = L ∧ WdsP s w (i + 1) true (d ++ [(b, y)]) (.slice (some ⟨g, 0, none⟩) L c) v2 ((wr.drewN m).setCell ⟨g, d.length, none⟩ (.string y)) := by
  obtain ⟨k1, k2, k3, k4, k5, k6⟩ := h
  rw [hL] at k2 k4 k5
  have e : (d ++ [(b, y)]).length = L := by rw [← hL]; simp
  have k4' : (wr.drewN m).ownsRow w.heap.size 9 1 (.slice (some ⟨g, 0, none⟩) L c) L (strs (d ++ [(b, x)])) := k4
  have k5' : (wr.drewN m).ownsRow w.heap.size 3 1 v2 L (poss (d ++ [(b, x)])) := k5
  have k7 := own_set k4' d.length (.string y)
  have lg := own_lt k4
  refine ⟨e, hw, by omega, ?_, ?_, ?_, k6⟩
  · exact ⟨k3.os, k3.tape, k3.output, by simpa [World.setCell] using k3.size, fun q hq => (Below.heap_setCell _ _ _ _ (by simp; omega)).trans (k3.block q hq)⟩
  · rw [e]
    have e2 : (strs (d ++ [(b, x)])).set d.length (.string y) = strs (d ++ [(b, y)]) := by simp [strs]
    rw [← e2]
    exact k7
  · rw [e]
    have e2 : poss (d ++ [(b, x)]) = poss (d ++ [(b, y)]) := by simp [poss]
    rw [← e2]
    exact ownsRow_setCell_other k5' (k6 g rfl) _
theorem wds_cell {s : ByteArray} {w wr : World} {i : Nat} {d : List Tok} {b g c : Nat} {x : ByteArray} {v2 : Value} {L : Nat} (h : WdsP s w i true (d ++ [(b, x)]) (.slice (some ⟨g, 0, none⟩) L c) v2 wr) (hL : (d ++ [(b, x)]).length = L) :
    wr.cell? ⟨g, d.length, none⟩ = some (.string x) ∧ wr.frozen? ⟨g, d.length, none⟩ = false := by
  obtain ⟨k1, k2, k3, k4, k5, k6⟩ := h
  rw [hL] at k4
  refine ⟨?_, own_free k4 _⟩
  have := k4.cells (g := g) rfl d.length (.string x) (by simp [strs])
  rw [add_none] at this
  exact this
theorem infoStr : (Try.prog.info? 9).map (fun i => (i.zero, i.size, i.bytes)) = some (some (.string .empty), 1, 16) := by kernel_rfl
end Go.Proofs.Ytpehdgbdinjbaaa
namespace Go.Proofs.Ytpehdgbdinjbaaa
open Go.RowKit

theorem one_new (w : World) (v : Value) (e : TypeId) : ∀ (j : Nat) (u : Value), [v][j]? = some u → (w.alloc (.cells #[v] e)).cell? ((⟨w.heap.size, 0, none⟩ : Addr).add j) = some u := by
  intro j u h
  rw [add_none]
  rw [World.cell?_alloc_at _ _ _ _ rfl]
  simpa using h
theorem one_str (t : ByteArray) : ∀ v ∈ [Value.string t], v.oneCell' = true := by simp [Value.oneCell']
theorem one_int (k : Int) : ∀ v ∈ [Value.int .i64 k], v.oneCell' = true := by simp [Value.oneCell']

/-- What a round begins with. -/
def WdsQ (s : ByteArray) (w : World) (k : Nat) (o : Bool) (dn : List Tok) (L : Nat) (v1 v2 : Value) (wr : World) : Prop := dn.length = L ∧ WdsP s w k o dn v1 v2 wr
theorem WdsQ.shut {s : ByteArray} {w : World} {k : Nat} {o : Bool} {dn : List Tok} {L : Nat} {v1 v2 : Value} {wr : World} (h : WdsQ s w k o dn L v1 v2 wr) (he : ∀ h : k < s.size, enB s[k] = true) : WdsQ s w k false dn L v1 v2 wr :=
  ⟨h.1, wp_shut h.2.1 he, h.2.2⟩

theorem WdsQ.own1 {s : ByteArray} {w : World} {k : Nat} {o : Bool} {dn : List Tok} {L : Nat} {v1 v2 : Value} {wr : World} (h : WdsQ s w k o dn L v1 v2 wr) (o1 : Obj) : (wr.alloc o1).ownsRow w.heap.size 9 1 v1 L (strs dn) := by
  obtain ⟨rfl, h⟩ := h
  exact h.2.2.2.1.alloc o1
theorem WdsQ.own2 {s : ByteArray} {w w2 : World} {k : Nat} {o : Bool} {dn : List Tok} {L : Nat} {v1 v2 : Value} {wr : World} (h : WdsQ s w k o dn L v1 v2 wr) {o1 : Obj} (g2 : (wr.alloc o1).grownBy w2 v1.ownBlock) (o2 : Obj) : (w2.alloc o2).ownsRow w.heap.size 3 1 v2 L (poss dn) := by
  obtain ⟨rfl, h⟩ := h
  exact wds_mid h g2
theorem WdsQ.fin {s : ByteArray} {w wr w2 w4 : World} {k : Nat} {o o' : Bool} {dn : List Tok} {L : Nat} {v1 v2 : Value} (h : WdsQ s w k o dn L v1 v2 wr) {o1 o2 : Obj} (g2 : (wr.alloc o1).grownBy w2 v1.ownBlock) (t : Tok) (hw : WP s (k + 1) o' (dn ++ [t]))
    {g c g' c' : Nat} (h1 : w2.ownsRow w.heap.size 9 1 (.slice (some ⟨g, 0, none⟩) (L + 1) c) (L + 1) (strs dn ++ [.string t.2])) (a1 : v1.ownBlock = some g ∨ g = wr.heap.size + 1)
    (g4 : (w2.alloc o2).grownBy w4 v2.ownBlock) (h2 : w4.ownsRow w.heap.size 3 1 (.slice (some ⟨g', 0, none⟩) (L + 1) c') (L + 1) (poss dn ++ [.int .i64 t.1])) (a2 : v2.ownBlock = some g' ∨ g' = w2.heap.size + 1) :
    WdsQ s w (k + 1) o' (dn ++ [t]) (L + 1) (.slice (some ⟨g, 0, none⟩) (L + 1) c) (.slice (some ⟨g', 0, none⟩) (L + 1) c') w4 := by
  obtain ⟨rfl, h⟩ := h
  exact wds_end h g2 t hw h1 a1 g4 h2 a2
theorem WdsQ.len {s : ByteArray} {w : World} {k : Nat} {o : Bool} {dn : List Tok} {L : Nat} {v1 v2 : Value} {wr : World} (h : WdsQ s w k o dn L v1 v2 wr) : L ≤ k := by
  obtain ⟨rfl, h⟩ := h
  exact h.2.1
theorem WdsQ.size {s : ByteArray} {w : World} {k : Nat} {o : Bool} {dn : List Tok} {L : Nat} {v1 v2 : Value} {wr : World} (h : WdsQ s w k o dn L v1 v2 wr) : w.heap.size ≤ wr.heap.size := h.2.2.2.1.size

theorem byte_bool {c : UInt8} {k : Int} (h : ¬ (c.toNat : Int) = k) : ((c.toNat : Int) == k) = false := by simpa using h
set_option maxHeartbeats 2000000 in
theorem words_any (s : ByteArray) (w : World) (hs : s.size ≤ 2048) :
    Calls Try.prog 51 #[.string s] w fun e w' => ∃ a1 a2 L c1 c2, e = .returned (.tuple #[.slice a1 L c1, .slice a2 L c2]) ∧
      Hid (L = (toks s 0).length ∧ Below w.heap.size w w' ∧ w'.ownsRow w.heap.size 9 1 (.slice a1 L c1) L (strs (toks s 0)) ∧ w'.ownsRow w.heap.size 3 1 (.slice a2 L c2) L (poss (toks s 0))) := by
  obtain ⟨it, hit, htz0, htz1, htz2⟩ := info_parts infoStr
  obtain ⟨ii, hii, hiz0, hiz1, hiz2⟩ := info_parts infoInt
  have HT := hide (⟨hit, htz0, htz1, htz2⟩ : _ ∧ _ ∧ _ ∧ _)
  have HI := hide (⟨hii, hiz0, hiz1, hiz2⟩ : _ ∧ _ ∧ _ ∧ _)
  clear hit htz0 htz1 htz2 hii hiz0 hiz1 hiz2
  go_enter Try.func51, Try.ntmps51
  go_wp2_with fail
  go_loopw [4, 5, 6, 7] (fun v4 v5 op i wr => ∃ (k : Nat) (o : Bool) (dn : List Tok) (a1 a2 : Option Addr) (L c1 c2 : Nat), k ≤ s.size ∧ i = .int .i64 k ∧ op = .bool o ∧ v4 = .slice a1 L c1 ∧ v5 = .slice a2 L c2 ∧ L ≤ 2048 ∧ Hid (WdsQ s w k o dn L (.slice a1 L c1) (.slice a2 L c2) wr)) (fun _ _ _ i _ => s.size - (intOf i).toNat)
  case atStart => exact ⟨0, false, [], none, none, 0, 0, 0, Nat.zero_le _, rfl, rfl, rfl, rfl, Nat.zero_le _, rfl, wp_start s, Nat.zero_le _, Below.refl _ _, World.ownsRow_nil _ _ _ _, World.ownsRow_nil _ _ _ _, by simp [Value.ownBlock]⟩
  case round =>
    obtain ⟨k, o, dn, a1, a2, L, c1, c2, hk, rfl, rfl, rfl, rfl, hL, HQ⟩ := hrel
    by_cases hlt : k < s.size
    · have hk0 : (0 : Int) ≤ (k : Int) := by omega
      have hk1 : (k : Int) < (s.size : Int) := by omega
      have hk2 : (k : Int) ≤ (k : Int) + 1 := by omega
      have hk3 : (k : Int) + 1 ≤ (s.size : Int) := by omega
      by_cases h1 : s[k] = 32
      · have HE := hide (HQ.out.shut fun _ => by simp [enB, h1])
        go_wp2_with fail
        go_roundw
        case rel => exact ⟨k + 1, false, dn, a1, a2, L, c1, c2, by omega, by go_num, rfl, rfl, rfl, hL, HE.out.1, wp_blank HE.out.2.1 hlt h1, Nat.le_succ_of_le HE.out.2.2.1, HE.out.2.2.2⟩
        case measure => simp [intOf]; omega
      · have d1 := byte_ne (k := 32) (d := 32) rfl h1
        by_cases h2 : s[k] = 40
        · have HE := hide (HQ.out.shut fun _ => by simp [enB, h2])
          go_wp2_with (first
            | (at_builtin; refine wpList_append_lies _ rfl _ _ 90 rfl w.heap.size 9 it _ 1 16 Try.underlying90 HT.out.1 HT.out.2.1 HT.out.2.2.1 HT.out.2.2.2 rfl (by decide) _ L _ rfl (HE.out.own1 _) ⟨wr.heap.size, 0, none⟩ 1 1 [.string (s.extract k (k + 1))] rfl rfl (one_new _ _ _) (one_str _) (by decide) (by unfold maxLen; omega) (by omega) (by have := HE.out.size; simp; omega) (wr.heap.size + 1) (by simp) ?_; intro g1 e1 w2 hown1 hgrow1 hat1 hlt1; have H1 := hide (⟨hown1, hgrow1, hat1⟩ : _ ∧ _ ∧ _); clear hown1 hgrow1 hat1 hlt1)
            | (at_builtin; refine wpList_append_lies _ rfl _ _ 39 rfl w.heap.size 3 ii _ 1 8 Try.underlying39 HI.out.1 HI.out.2.1 HI.out.2.2.1 HI.out.2.2.2 rfl (by decide) _ L _ rfl (HE.out.own2 H1.out.2.1 _) ⟨w2.heap.size, 0, none⟩ 1 1 [.int .i64 k] rfl rfl (one_new _ _ _) (one_int _) (by decide) (by unfold maxLen; omega) (by omega) (by have := HE.out.size; have := H1.out.2.1.size; simp at this ⊢; omega) (w2.heap.size + 1) (by simp) ?_; intro g2 e2 w4 hown2 hgrow2 hat2 hlt2; have H2 := hide (⟨hown2, hgrow2, hat2⟩ : _ ∧ _ ∧ _); clear hown2 hgrow2 hat2 hlt2))
          have HF := hide (HE.out.fin H1.out.2.1 (k, s.extract k (k + 1)) (wp_bracket HE.out.2.1 hlt (Or.inl h2)) H1.out.1 H1.out.2.2 H2.out.2.1 H2.out.1 H2.out.2.2)
          go_roundw
          case rel => exact ⟨k + 1, false, _, _, _, L + 1, _, _, by omega, by go_num, rfl, rfl, rfl, by have := HF.out.len; omega, HF.out⟩
          case measure => simp [intOf]; omega
        · have d2 := byte_ne (k := 40) (d := 40) rfl h2
          by_cases h3 : s[k] = 41
          · have HE := hide (HQ.out.shut fun _ => by simp [enB, h3])
            go_wp2_with (first
              | (at_builtin; refine wpList_append_lies _ rfl _ _ 90 rfl w.heap.size 9 it _ 1 16 Try.underlying90 HT.out.1 HT.out.2.1 HT.out.2.2.1 HT.out.2.2.2 rfl (by decide) _ L _ rfl (HE.out.own1 _) ⟨wr.heap.size, 0, none⟩ 1 1 [.string (s.extract k (k + 1))] rfl rfl (one_new _ _ _) (one_str _) (by decide) (by unfold maxLen; omega) (by omega) (by have := HE.out.size; simp; omega) (wr.heap.size + 1) (by simp) ?_; intro g1 e1 w2 hown1 hgrow1 hat1 hlt1; have H1 := hide (⟨hown1, hgrow1, hat1⟩ : _ ∧ _ ∧ _); clear hown1 hgrow1 hat1 hlt1)
              | (at_builtin; refine wpList_append_lies _ rfl _ _ 39 rfl w.heap.size 3 ii _ 1 8 Try.underlying39 HI.out.1 HI.out.2.1 HI.out.2.2.1 HI.out.2.2.2 rfl (by decide) _ L _ rfl (HE.out.own2 H1.out.2.1 _) ⟨w2.heap.size, 0, none⟩ 1 1 [.int .i64 k] rfl rfl (one_new _ _ _) (one_int _) (by decide) (by unfold maxLen; omega) (by omega) (by have := HE.out.size; have := H1.out.2.1.size; simp at this ⊢; omega) (w2.heap.size + 1) (by simp) ?_; intro g2 e2 w4 hown2 hgrow2 hat2 hlt2; have H2 := hide (⟨hown2, hgrow2, hat2⟩ : _ ∧ _ ∧ _); clear hown2 hgrow2 hat2 hlt2))
            have HF := hide (HE.out.fin H1.out.2.1 (k, s.extract k (k + 1)) (wp_bracket HE.out.2.1 hlt (Or.inr h3)) H1.out.1 H1.out.2.2 H2.out.2.1 H2.out.1 H2.out.2.2)
            go_roundw
            case rel => exact ⟨k + 1, false, _, _, _, L + 1, _, _, by omega, by go_num, rfl, rfl, rfl, by have := HF.out.len; omega, HF.out⟩
            case measure => simp [intOf]; omega
          · have d3 := byte_ne (k := 41) (d := 41) rfl h3
            have b1 : ((s[k].toNat : Int) == 32) = false := byte_bool (by omega)
            have b2 : ((s[k].toNat : Int) == 40) = false := byte_bool (by omega)
            have b3 : ((s[k].toNat : Int) == 41) = false := byte_bool (by omega)
            have HB : Hid (enB s[k] = false) := by simp [Hid, enB, h1, h2, h3]
            cases o with
            | false =>
              have HE := hide HQ.out
              go_wp2_with (first
                | (at_builtin; refine wpList_append_lies _ rfl _ _ 90 rfl w.heap.size 9 it _ 1 16 Try.underlying90 HT.out.1 HT.out.2.1 HT.out.2.2.1 HT.out.2.2.2 rfl (by decide) _ L _ rfl (HE.out.own1 _) ⟨wr.heap.size, 0, none⟩ 1 1 [.string (s.extract k (k + 1))] rfl rfl (one_new _ _ _) (one_str _) (by decide) (by unfold maxLen; omega) (by omega) (by have := HE.out.size; simp; omega) (wr.heap.size + 1) (by simp) ?_; intro g1 e1 w2 hown1 hgrow1 hat1 hlt1; have H1 := hide (⟨hown1, hgrow1, hat1⟩ : _ ∧ _ ∧ _); clear hown1 hgrow1 hat1 hlt1)
                | (at_builtin; refine wpList_append_lies _ rfl _ _ 39 rfl w.heap.size 3 ii _ 1 8 Try.underlying39 HI.out.1 HI.out.2.1 HI.out.2.2.1 HI.out.2.2.2 rfl (by decide) _ L _ rfl (HE.out.own2 H1.out.2.1 _) ⟨w2.heap.size, 0, none⟩ 1 1 [.int .i64 k] rfl rfl (one_new _ _ _) (one_int _) (by decide) (by unfold maxLen; omega) (by omega) (by have := HE.out.size; have := H1.out.2.1.size; simp at this ⊢; omega) (w2.heap.size + 1) (by simp) ?_; intro g2 e2 w4 hown2 hgrow2 hat2 hlt2; have H2 := hide (⟨hown2, hgrow2, hat2⟩ : _ ∧ _ ∧ _); clear hown2 hgrow2 hat2 hlt2))
              have HF := hide (HE.out.fin H1.out.2.1 (k, s.extract k (k + 1)) (wp_new HE.out.2.1 hlt HB.out) H1.out.1 H1.out.2.2 H2.out.2.1 H2.out.1 H2.out.2.2)
              go_roundw
              case rel => exact ⟨k + 1, true, _, _, _, L + 1, _, _, by omega, by go_num, rfl, rfl, rfl, by have := HF.out.len; omega, HF.out⟩
              case measure => simp [intOf]; omega
            | true =>
              obtain ⟨b, d, x, rfl, hx0, hw⟩ := wp_more HQ.out.2.1 hlt HB.out
              have hxs : x.size ≤ 2048 := by omega
              have hys : (s.extract k (k + 1)).size ≤ 2048 := by simp; omega
              replace hw := hide hw
              have hLd : L = d.length + 1 := by have := HQ.out.1; simp at this; omega
              subst hLd
              obtain ⟨g, rfl⟩ : ∃ g, a1 = some ⟨g, 0, none⟩ := by
                rcases HQ.out.2.2.2.2.1.2 with ⟨_, h⟩ | ⟨g, cap, cur, h, _⟩
                · simp at h
                · injection h with h; exact ⟨g, h⟩
              obtain ⟨c0, f0⟩ := wds_cell HQ.out.2 HQ.out.1
              go_wp2_with fail
              go_region
              have HF : Hid (WdsQ s w (k + 1) true (d ++ [(b, x ++ s.extract k (k + 1))]) (d.length + 1) (.slice (some ⟨g, 0, none⟩) (d.length + 1) c1) (.slice a2 (d.length + 1) c2) (wr.setCell ⟨g, d.length, none⟩ (.string (x ++ s.extract k (k + 1)))).drew) := wds_more HQ.out.2 HQ.out.1 hw.out 1
              go_wp2_with fail
              go_roundw
              case rel => exact ⟨k + 1, true, _, _, _, d.length + 1, _, _, by omega, by go_num, rfl, rfl, rfl, by omega, HF.out⟩
              case measure => simp [intOf]; omega
    · have HE := hide (HQ.out.shut fun h => absurd h hlt)
      go_wp2_with fail
      go_ret2
      have e1 := wp_end HE.out.2.1 hlt
      obtain ⟨e2, e3⟩ := HE.out
      refine ⟨a1, a2, L, c1, c2, rfl, by rw [← e1, e2], e3.2.2.1, ?_, ?_⟩
      · have := e3.2.2.2.1
        rw [e1, ← e1, e2] at this
        rw [← e1]
        exact this
      · have := e3.2.2.2.2.1
        rw [e2] at this
        rw [← e1]
        exact this
end Go.Proofs.Ytpehdgbdinjbaaa
