/- What is proved here: plain facts and contracts that the claimed theorem stands on, several texts in one: what doing's one and all leave, by the plain functions of an act and of acts (doA, doL). No condition but that all lies in memory, and that the acts are in form. what become leaves: the process with the new state, if there is room for it, else with the old one. No condition but that all lies in memory. plain facts on programs: what code.To lets pass is in form, and all its terms are right. No condition. what follow leaves, by the plain function of a step (folC): the fate, the state, and what came of the acts. No condition but that all lies in memory, and that the clause is in form. -/
import Derived.Test.YtbmjfnicfpdjfaaG28
import Derived.Test.YtbmjfnicfpdjfaaG20
import Derived.Test.YtbmjfnicfpdjfaaG11
namespace Go.Proofs.Ytbmjfnicfpdjfaa
open Go.RowKit

/-- An act that is in form, with right terms. -/
def AcOk {n : Nat} (a : Ac (n + 1)) : Prop := actB (n + 1) a = true ∧ (a.1 = 1 ∨ a.1 = 3 → chk (n + 1) a.2.1.1 = 0) ∧ (a.1 = 1 ∨ a.1 = 2 → chk (n + 1) a.2.1.2 = 0)
theorem doL_append (self : Int) {n : Nat} : (p q : List (Ac (n + 1))) → (d : Dg) → doL self (p ++ q) d = (doL self p d).bind (doL self q)
  | [], _, _ => rfl
  | a :: p, q, d => by
    simp only [List.cons_append, doL]
    cases doA self a d with
    | none => rfl
    | some d' => exact doL_append self p q d'
theorem doL_take (self : Int) {n : Nat} {l : List (Ac (n + 1))} {i : Nat} {a : Ac (n + 1)} (h : l[i]? = some a) (d : Dg) : doL self (l.take (i + 1)) d = (doL self (l.take i) d).bind (doA self a) := by
  rw [List.take_add_one, h, doL_append]
  congr 1
  funext x
  show doL self [a] x = doA self a x
  simp only [doL]
  cases doA self a x <;> rfl
theorem doL_none (self : Int) {n : Nat} {l : List (Ac (n + 1))} {i : Nat} {d : Dg} (h : doL self (l.take i) d = none) : doL self l d = none := by
  rw [← List.take_append_drop i l, doL_append, h]
  rfl
section
variable {base db : Nat} {self : Int} {n D k : Nat} {nx : Int} {d : Dg} {w : World} {l : List (Tm (D + 1))} {bg bc : Nat} {sd : List (Int × Tm (D + 1 + n + 1))} {sp : List (Int × ByteArray × Tm (D + 1 + n + 1))} {sv pv lv : Value}
theorem OneR.from {a : Ac (n + 1)} {S : Nat → Prop} {W w' : World} {t : Bool} (h : OneR base db self n D k nx d a S W t w') (hb : Below w.heap.size w W) : OneR base db self n D k nx d a S w t w' := ⟨(kee_below hb S).trans h.1 fun _ _ e => e, h.2.1, fun d' hd' => by
  obtain ⟨l', bg', bc', sd', sp', sv', pv', lv', h1, h2⟩ := h.2.2 d' hd'
  refine ⟨l', bg', bc', sd', sp', sv', pv', lv', h1, fun q hq => ?_⟩
  rcases h2 q hq with e | e
  · exact Or.inl e
  · have := hb.size
    exact Or.inr (by omega)⟩
theorem AcIn.later {B : Nat} {a : Ac (n + 1)} {W : World} (h : AcIn (n + 1) B w a) (hb : Below B w W) : AcIn (n + 1) B W a := ⟨h.1, h.2.1.below hb, h.2.2.1.below hb, h.2.2.2⟩
theorem DoAt.stop (h : DoAt base db self n D k nx d w l bg bc sd sp sv pv lv) : Do base db self n D (k + 1) nx { d with stops := true } (DoW db bg sv pv lv) w (w.setCell ⟨db, 6, none⟩ (.bool true)) ∧ Kee (DoW db bg sv pv lv) w (w.setCell ⟨db, 6, none⟩ (.bool true)) := by
  have hks := kee_set w db 6 (.bool true)
  obtain ⟨q1, q2, q3, q4⟩ := h.frame (w' := w.setCell ⟨db, 6, none⟩ (.bool true)) (hks.mono fun q _ e => Or.inl e) fun q hq => Or.inl hq
  obtain ⟨o1, o2, o3, o4, o5⟩ := h.own
  have hsz := hks.size
  obtain ⟨f1, f2, f3, f4⟩ := h.few
  refine ⟨⟨l, bg, bc, sd, sp, sv, pv, lv, ⟨(set_box7 h.box).2.2.2.2 _, ⟨o1, o2, o3, by omega, by omega⟩, h.bnd, h.tells, fun i y hy => ⟨(h.row i y hy).1.kee hks o4 (fun e => o1 e.symm), q1 i y hy⟩, fun j => ?_, row_kee h.sRow hks fun q hq e => h.apart.1.1 (by rw [hq, e]), row_kee h.pRow hks fun q hq e => h.apart.1.2.1 (by rw [hq, e]), row_kee h.lRow hks fun q hq e => h.apart.1.2.2 (by rw [hq, e]), h.sIs, h.pIs, q2, q3, h.apart, ⟨by omega, by omega, by show d.links.length ≤ k + 1; omega, f4⟩⟩, fun q hq => Or.inl hq⟩, hks.mono fun q _ e => Or.inl e⟩
  have hf := h.free j
  unfold World.frozen? at hf ⊢
  rw [hks.block bg o4 (fun e => o1 e.symm)]
  exact hf
theorem DoAt.one (h : DoAt base db self n D k nx d w l bg bc sd sp sv pv lv) (a : Ac (n + 1)) (ha : AcIn (n + 1) base w a) (hok : AcOk a) (hs : 1 ≤ self ∧ self ≤ 99) (hk : k ≤ 7) :
    Calls Try.prog 63 #[.pointer (some ⟨db, 0, none⟩), acV a] w fun e w' => ∃ t, e = .returned (.bool t) ∧ Hid (OneR base db self n D k nx d a (DoW db bg sv pv lv) w t w') := by
  obtain ⟨hb1, hb2, hb3⟩ := hok
  have ho := h.own.2.2.2.2
  refine one_walk a.1 a.2.1.1.1.1 a.2.1.1.1.2.1 a.2.1.1.1.2.2 a.2.1.1.2.1.1 a.2.1.1.2.2.length a.2.1.1.2.1.2 a.2.1.2.1.1 a.2.1.2.1.2.1 a.2.1.2.1.2.2 a.2.1.2.2.1.1 a.2.1.2.2.2.length a.2.1.2.2.1.2 a.2.2.1 a.2.2.2 db w (OneR base db self n D k nx d a (DoW db bg sv pv lv) w) h.lt ⟨d.stops, cell_row h.box 6, frozen7 h.box 6⟩ ?_ ?_ ?_ ?_
  · intro h1 W hW
    refine ((h.later hW).send a (ha.later (hW.mono ho)) (hb2 (Or.inl h1)) (hb3 (Or.inl h1)) h1 hs (by omega)).mono ?_
    rintro e w' ⟨t, rfl, H⟩
    exact ⟨t, rfl, H.out.from hW⟩
  · intro h2 W hW
    have hform : nameB a.2.2.1 = true ∧ 0 ≤ a.2.2.2 ∧ a.2.2.2 < 4 := by
      have hn1 : ¬ a.1 = 1 := by omega
      unfold actB at hb1
      rw [if_neg hn1, if_pos h2] at hb1
      simp only [Bool.and_eq_true, decide_eq_true_eq] at hb1
      exact ⟨hb1.1.1.2, hb1.1.2, hb1.2⟩
    refine ((h.later hW).spawn a (ha.later (hW.mono ho)) (hb3 (Or.inr h2)) h2 hform.1 hform.2 hs hk).mono ?_
    rintro e w' ⟨t, rfl, H⟩
    exact ⟨t, rfl, H.out.from hW⟩
  · intro h3 W hW
    refine ((h.later hW).link a (ha.later (hW.mono ho)) (hb2 (Or.inr h3)) h3 hs (by omega)).mono ?_
    rintro e w' ⟨t, rfl, H⟩
    exact ⟨t, rfl, H.out.from hW⟩
  · intro n1 n2 n3 W hW
    have hd : doA self a d = some { d with stops := true } := by
      unfold doA
      rw [if_neg n1, if_neg n2, if_neg n3]
    obtain ⟨s1, s2⟩ := (h.later hW).stop
    refine OneR.from ⟨s2, by rw [hd]; rfl, fun d' hd' => ?_⟩ hW
    rw [hd] at hd'
    obtain rfl := Option.some.inj hd'
    exact s1
/-- All acts. -/
theorem DoAt.all (h : DoAt base db self n D 0 nx d w l bg bc sd sp sv pv lv) (ac : List (Ac (n + 1))) (la : Option Addr) (lc : Nat) (ha : Lay base w 11 (ac11 (n + 1)) (AcIn (n + 1) base w) la ac) (hok : ∀ a ∈ ac, AcOk a) (h8 : ac.length ≤ 8) (hs : 1 ≤ self ∧ self ≤ 99) :
    Calls Try.prog 46 #[.pointer (some ⟨db, 0, none⟩), .slice la ac.length lc] w fun e w' => ∃ t, e = .returned (.bool t) ∧ Hid (Kee (DoW db bg sv pv lv) w w' ∧ t = (doL self ac d).isSome ∧ ∀ d', doL self ac d = some d' → Do base db self n D 8 nx d' (DoW db bg sv pv lv) w w') := by
  have ho := h.own.2.2.2.2
  have hlow : ∀ {W : World}, Kee (DoW db bg sv pv lv) w W → Below base w W := fun hk => hk.below ho fun b hb q => by
    have := h.high b q
    omega
  refine (all_walk ac la ac.length lc db w (fun i W => Kee (DoW db bg sv pv lv) w W ∧ ∃ d', doL self (ac.take i) d = some d' ∧ Do base db self n D i nx d' (DoW db bg sv pv lv) w W) (fun W => Kee (DoW db bg sv pv lv) w W ∧ doL self ac d = none) (by omega) rfl ?_ ?_ ?_ ?_).mono ?_
  · rintro i a W hi ⟨hk, _⟩
    rcases ha with e | ⟨b, o, e, hlt, hc⟩
    · rw [e] at hi
      simp at hi
    · exact ⟨b, o, e, fun j u hj => ((hlow hk).cell (p := ⟨b, o + i * 11 + j, none⟩) hlt).trans ((hc i a hi).1 j u hj)⟩
  · rintro i W W' ⟨hk, d', h1, l', bg', bc', sd', sp', sv', pv', lv', h2, h3⟩ hW
    exact ⟨hk.trans (kee_below hW (fun _ => False)) fun _ _ e => e.elim, d', h1, l', bg', bc', sd', sp', sv', pv', lv', h2.later hW, h3⟩
  · rintro i a W hi ⟨hk, d', h1, l', bg', bc', sd', sp', sv', pv', lv', h2, h3⟩
    have hil := (List.getElem?_eq_some_iff.1 hi).1
    have hin : AcIn (n + 1) base W a := by
      rcases ha with e | ⟨b, o, e, hlt, hc⟩
      · rw [e] at hi
        simp at hi
      · exact ((hc i a hi).2).later (hlow hk)
    refine (h2.one a hin (hok a (List.mem_of_getElem? hi)) hs (by omega)).mono ?_
    rintro e w' ⟨t, rfl, H⟩
    obtain ⟨r1, r2, r3⟩ := H.out
    have ht := doL_take self hi d
    rw [h1] at ht
    simp only [Option.bind_some] at ht
    have hk' : Kee (DoW db bg sv pv lv) w w' := hk.trans r1 fun b hb q => by
      rcases h3 b q with e | e
      · exact e
      · omega
    refine ⟨t, rfl, fun htt => ⟨hk', ?_⟩, fun htf => ⟨hk', ?_⟩⟩
    · rw [htt] at r2
      obtain ⟨d2, hd2⟩ := Option.isSome_iff_exists.1 r2.symm
      obtain ⟨l2, bg2, bc2, sd2, sp2, sv2, pv2, lv2, k1, k2⟩ := r3 d2 hd2
      refine ⟨d2, by rw [ht, hd2], l2, bg2, bc2, sd2, sp2, sv2, pv2, lv2, k1, fun q hq => ?_⟩
      rcases k2 q hq with e | e
      · exact h3 q e
      · have := hk.size
        exact Or.inr (by omega)
    · rw [htf] at r2
      refine doL_none self (i := i + 1) ?_
      rw [ht]
      exact Option.isNone_iff_eq_none.1 (by rw [← Option.not_isSome, ← r2]; rfl)
  · exact ⟨Kee.refl _ _, d, rfl, l, bg, bc, sd, sp, sv, pv, lv, h, fun q hq => Or.inl hq⟩
  · rintro e w' ⟨t, rfl, H⟩
    refine ⟨t, rfl, ?_⟩
    cases t
    · obtain ⟨r1, r2⟩ := H.out.2 rfl
      refine ⟨r1, by rw [r2]; rfl, fun d' hd' => ?_⟩
      rw [r2] at hd'
      cases hd'
    · obtain ⟨r1, d', r2, r3⟩ := H.out.1 rfl
      rw [List.take_of_length_le (Nat.le_refl _)] at r2
      refine ⟨r1, by rw [r2]; rfl, fun d2 hd2 => ?_⟩
      rw [r2] at hd2
      obtain rfl := Option.some.inj hd2
      obtain ⟨l', bg', bc', sd', sp', sv', pv', lv', h2, h3⟩ := r3
      exact ⟨l', bg', bc', sd', sp', sv', pv', lv', h2.more h8, h3⟩
end
end Go.Proofs.Ytbmjfnicfpdjfaa
namespace Go.Proofs.Ytbmjfnicfpdjfaa
open Go.RowKit

theorem numb_ok (N : Nat) : chk (N + 1) (leafV 1 0 N) = 0 ∧ closedT (N + 1) (leafV 1 0 N) = true ∧ sz (N + 1) (leafV 1 0 N) = 0 := by
  have hf : formedB (N + 1) (leafV 1 0 N) = true := by
    rw [← right_formed]
    intro a ha
    have : a = ((1, 0, .empty), (none, 0, 0)) := by simpa [nodes, leafV] using ha
    subst this
    simp [good, inB]
  exact ⟨chk_iff.2 ⟨hf, by simp [dep, leafV], by simp [sz, leafV]⟩, by simp [closedT, leafV], by simp [sz, leafV]⟩
theorem numb_stands {ws : List Wd} {nm : List ByteArray} {N : Nat} : Stands ws nm (N + 1) (leafV 1 0 N) (1, 0) := ⟨fun h => by simp [leafV] at h, fun h => by simp [leafV] at h, fun _ _ => rfl⟩
theorem PHas.numb {N : Nat} {ws : List Wd} {nm : List ByteArray} {room : Int} {sv : Wd} {us : List Wd} {s : Tm (N + 1)} {ts : List (Tm (N + 1))} (h : PHas (N + 1) ws nm room (sv :: us) (s :: ts)) : PHas (N + 1) ws nm room ((1, 0) :: us) (leafV 1 0 N :: ts) := by
  obtain ⟨k1, k2, k3, k4, k5, k6, k7, k8⟩ := h
  obtain ⟨n1, n2, n3⟩ := numb_ok N
  refine ⟨⟨by simpa using k1.1, fun i v y hv hy => ?_⟩, ?_, fun y hy => ?_, ?_, k5, k6, k7, k8⟩
  · cases i with
    | zero =>
      simp only [List.getElem?_cons_zero, Option.some.injEq] at hv hy
      subst hv hy
      exact numb_stands
    | succ i => exact k1.2 (i + 1) v y (by simpa using hv) (by simpa using hy)
  · simp only [List.flatMap_cons] at k2 ⊢
    rw [plc_leaf (by decide), List.nil_append]
    exact (List.nodup_append.1 k2).2.1
  · rcases List.mem_cons.1 hy with rfl | hy
    · exact ⟨n1, n2⟩
    · exact k3 y (List.mem_cons_of_mem _ hy)
  · simp only [List.map_cons, List.sum_cons] at k4 ⊢
    have := (sz_bound (N + 1) s).1
    omega
theorem PHas.turned {N : Nat} {ws : List Wd} {nm : List ByteArray} {room : Int} {sv v : Wd} {vs : List Wd} {s x : Tm (N + 1)} {ms : List (Tm (N + 1))} (h : PHas (N + 1) ws nm room (sv :: vs ++ [v]) (s :: ms ++ [x])) (hl : vs.length = ms.length) : PHas (N + 1) ws nm room (v :: vs) (x :: ms) := by
  obtain ⟨k1, k2, k3, k4, k5, k6, k7, k8⟩ := h
  refine ⟨⟨by simp [hl], fun i u y hu hy => ?_⟩, ?_, fun y hy => k3 y ?_, ?_, k5, k6, k7, k8⟩
  · cases i with
    | zero =>
      simp only [List.getElem?_cons_zero, Option.some.injEq] at hu hy
      subst hu hy
      exact k1.2 (vs.length + 1) v x (by simp) (by simp [hl])
    | succ i =>
      simp only [List.getElem?_cons_succ] at hu hy
      have h1 := (List.getElem?_eq_some_iff.1 hu).1
      have h2 := (List.getElem?_eq_some_iff.1 hy).1
      exact k1.2 (i + 1) u y (by rw [List.cons_append, List.getElem?_cons_succ, List.getElem?_append_left h1]; exact hu) (by rw [List.cons_append, List.getElem?_cons_succ, List.getElem?_append_left h2]; exact hy)
  · simp only [List.cons_append, List.flatMap_cons, List.flatMap_append, List.flatMap_nil, List.append_nil] at k2 ⊢
    obtain ⟨_, j2, _⟩ := List.nodup_append.1 k2
    obtain ⟨a1, a2, a3⟩ := List.nodup_append.1 j2
    exact List.nodup_append.2 ⟨a2, a1, fun a ha b hb e => a3 b hb a ha e.symm⟩
  · rcases List.mem_cons.1 hy with rfl | hy
    · simp
    · simp [hy]
  · simp only [List.cons_append, List.map_cons, List.map_append, List.sum_cons, List.sum_append, List.map_nil, List.sum_nil] at k4 ⊢
    have := (sz_bound (N + 1) s).1
    omega
theorem stW_keep (w : World) (pb : Nat) (a b : Int) : Keep (fun q => q = pb) w (stW w pb a b) := (keep_set w pb 5 (.int .i64 a)).trans (keep_set _ pb 6 (.int .i64 b)) fun _ _ e => e
theorem stW_size (w : World) (pb : Nat) (a b : Int) : (stW w pb a b).heap.size = w.heap.size := by simp [stW, World.setCell]
theorem kee_keep {S : Nat → Prop} {w w' : World} (h : Keep S w w') : Kee S w w' := ⟨h.os, h.tape, h.output, h.size, h.block⟩
theorem keep_kee {S : Nat → Prop} {w w' : World} (h : Kee S w w') : Keep S w w' := ⟨h.os, h.tape, h.output, h.size, h.block⟩
section
variable {base pb : Nat} {name : ByteArray} {room : Int} {N : Nat} {s : Tm (N + 1)} {ms : List (Tm (N + 1))} {xs : List (Wd × Tm (N + 1))} {nk : Nat} {M : Nat → Prop} {w : World} {ws : List Wd} {nm : List ByteArray} {sv : Wd} {vs : List Wd} {ma : Option Addr} {mc : Nat} {Mh : Nat → Prop}
theorem MailAt.keptBox {v : Wd} (h : MailAt Mh ma vs mc w) (hpb : Mh pb) : MailAt Mh ma vs mc (stW w pb v.1 v.2) := by
  rcases h with e | ⟨g, mo, cur, e1, e2, e3, e4⟩
  · exact Or.inl e
  · exact Or.inr ⟨g, mo, cur, e1, e2, ((stW_keep w pb v.1 v.2).block g (Array.getElem?_eq_some_iff.1 e3).1 fun e => e2 (by rw [e]; exact hpb)).trans e3, e4⟩
theorem HpAt.word {mv : Value} {v : Wd} (h : HpAt base (PL pb name sv mv) room ws nm M w) : HpAt base (PL pb name v mv) room ws nm M (stW w pb v.1 v.2) := h.turn (stW_keep w pb v.1 v.2) fun tv lv mp hc => by
  unfold stW World.setCell
  simp [Array.getElem?_modify, hc]
theorem PrAt.numb (h : PrAt base pb name room (N + 1) s ms [] nk M w ws nm sv vs ma mc Mh) : PrAt base pb name room (N + 1) (leafV 1 0 N) ms [] nk M (stW w pb 1 0) ws nm (1, 0) vs ma mc Mh ∧ Keep M w (stW w pb 1 0) := by
  obtain ⟨hpb, hpl⟩ := h.box0
  have hh := h.has
  simp only [List.map_nil, List.append_nil] at hh
  refine ⟨⟨h.heap.word (v := (1, 0)), h.mail.keptBox (v := (1, 0)) hpb, ?_, h.len, h.names, h.inM, h.mailM⟩, (stW_keep w pb 1 0).mono fun b e => ?_⟩
  · simp only [List.map_nil, List.append_nil]
    exact hh.numb
  · rw [e]
    exact h.inM pb hpb
theorem PrAt.turned {v : Wd} {x : Tm (N + 1)} (h : PrAt base pb name room (N + 1) s ms [(v, x)] nk M w ws nm sv vs ma mc Mh) : PrAt base pb name room (N + 1) x ms [] nk M (stW w pb v.1 v.2) ws nm v vs ma mc Mh ∧ Keep M w (stW w pb v.1 v.2) := by
  obtain ⟨hpb, hpl⟩ := h.box0
  have hh := h.has
  simp only [List.map_cons, List.map_nil] at hh
  refine ⟨⟨h.heap.word, h.mail.keptBox hpb, ?_, h.len, h.names, h.inM, h.mailM⟩, (stW_keep w pb v.1 v.2).mono fun b e => ?_⟩
  · simp only [List.map_nil, List.append_nil]
    exact hh.turned h.len
  · rw [e]
    exact h.inM pb hpb
theorem PrAt.cells56 (h : PrAt base pb name room (N + 1) s ms xs nk M w ws nm sv vs ma mc Mh) : (∃ a, w.cell? ⟨pb, 5, none⟩ = some (.int .i64 a)) ∧ (∃ a, w.cell? ⟨pb, 6, none⟩ = some (.int .i64 a)) ∧ ∀ j, w.frozen? ⟨pb, j, none⟩ = false := by
  obtain ⟨tv, lv, mv, h1, _⟩ := h.heap.box
  obtain ⟨_, c5, c6, _, c8, _⟩ := PL.cells h1
  exact ⟨⟨_, c5⟩, ⟨_, c6⟩, c8⟩
/-- What become leaves. -/
def BecR (base pb : Nat) (name : ByteArray) (room : Int) (N : Nat) (s : Tm (N + 1)) (ms : List (Tm (N + 1))) (x : Tm (N + 1)) (nk : Nat) (M : Nat → Prop) (w : World) (t : Bool) (w' : World) : Prop :=
  t = decide ((ms.map (sz (N + 1))).sum + sz (N + 1) x ≤ room) ∧ Keep M w w' ∧ ∃ s' ws' nm' sv' vs' ma' mc' Mh', PrAt base pb name room (N + 1) s' ms [] (nk + 402) (fun b => M b ∨ w.heap.size ≤ b) w' ws' nm' sv' vs' ma' mc' Mh' ∧ (t = true → s' = x) ∧ (t = false → same (N + 1) s' (N + 1) s = true)
theorem putP_numb {x : Tm (N + 1)} {ms : List (Tm (N + 1))} (hc : chk (N + 1) x = 0) (hcl : closedT (N + 1) x = true) : putP (N + 1) x room (leafV 1 0 N :: ms) = if (ms.map (sz (N + 1))).sum + sz (N + 1) x ≤ room then 0 else 6 := by
  unfold putP
  rw [if_neg (by simp [hc]), if_neg (by simp [hcl])]
  simp only [List.map_cons, List.sum_cons, (numb_ok N).2.2, Int.zero_add]
theorem PrAt.become (h : PrAt base pb name room (N + 1) s ms [] nk M w ws nm sv vs ma mc Mh) (x : Tm (N + 1)) (hx : In w.heap.size w (N + 1) x) (ho : Off (fun b => ¬ M b) (N + 1) x) (hc : chk (N + 1) x = 0) (hcl : closedT (N + 1) x = true) (hM : ∀ b, M b → b < w.heap.size) (hnk : nk ≤ 48000) (h20 : ms.length ≤ 999) (hbw : base ≤ w.heap.size) :
    Calls Try.prog 48 #[.pointer (some ⟨pb, 0, none⟩), .agg #[.int .i64 x.1.1, .int .i64 x.1.2.1, .string x.1.2.2, .slice x.2.1.1 x.2.2.length x.2.1.2]] w fun e w' => ∃ t, e = .returned (.bool t) ∧ Hid (BecR base pb name room N s ms x nk M w t w') := by
  obtain ⟨hpb, hpl⟩ := h.box0
  have hMp : M pb := h.inM pb hpb
  have hfr := h.front
  have hsc := hfr.2.2.1 s (by simp)
  have hsum : (ms.map (sz (N + 1))).sum + sz (N + 1) s ≤ room := by
    have h4 := hfr.2.2.2.1
    have h5 := hfr.2.2.2.2.1
    simp only [List.map_cons, List.sum_cons] at h4
    omega
  refine become_walk x.1.1 x.1.2.1 x.1.2.2 x.2.1.1 x.2.2.length x.2.1.2 pb w (fun s0 s1 s2 sa sl sc W => ∃ y0 : Tm (N + 1), (s0 = y0.1.1 ∧ s1 = y0.1.2.1 ∧ s2 = y0.1.2.2 ∧ sa = y0.2.1.1 ∧ sl = y0.2.2.length ∧ sc = y0.2.1.2) ∧ In W.heap.size W (N + 1) y0 ∧ Off (fun q => w.heap.size ≤ q) (N + 1) y0 ∧ same (N + 1) y0 (N + 1) s = true) (fun _ _ _ _ => True) (BecR base pb name room N s ms x nk M w) ?_ ?_ ?_
  · intro W hW
    refine ((h.later hW).state (by omega)).mono ?_
    rintro e w' ⟨y, rfl, HY⟩
    exact ⟨_, _, _, _, _, _, rfl, HY.out.1, y, ⟨rfl, rfl, rfl, rfl, rfl, rfl⟩, HY.out.2.1, HY.out.2.2.1.mono fun q hq => by have := hW.size; omega, HY.out.2.2.2⟩
  · intro W hW
    obtain ⟨a, b, c⟩ := (h.later hW).cells56
    exact ⟨a, b, c, hpl⟩
  · rintro s0 s1 s2 sa sl sc W0 W1 q0 q1 ⟨y0, ⟨rfl, rfl, rfl, rfl, rfl, rfl⟩, hy1, hy2, hy3⟩ hb01 hb1 hq0 hq1 hB
    have hs1 := hb1.size
    obtain ⟨hn, hkn⟩ := (h.later hb1).numb
    have hz := stW_size W1 pb 1 0
    have hk1 : Keep M w (stW W1 pb 1 0) := (keep_below hb1 M).trans hkn fun _ _ e => e
    have hx1 : In (stW W1 pb 1 0).heap.size (stW W1 pb 1 0) (N + 1) x := hx.kee (kee_keep hk1) ho
    have hpt := hn.put x hx1 ho (chk_n2 hc) (fun b hb => by have := hM b hb; omega) (by omega) h20 (by omega)
    refine hpt.mono ?_
    rintro e w' ⟨v, rfl, H⟩
    obtain ⟨ws', nm', sv', vs', ma', mc', Mh', hp, hkp⟩ := H.out
    have he := putP_numb (room := room) (ms := ms) hc hcl
    have hkw : Keep M w w' := hk1.trans hkp fun _ _ e => e
    have hsp := hkp.size
    refine ⟨v, _, rfl, ⟨?_, ?_, hp.cells56.1, hp.cells56.2.1, hp.cells56.2.2⟩, trivial, ?_, ?_⟩
    · exact (hkp.block q0 (Array.getElem?_eq_some_iff.1 hB.1).1 fun q => by have := hM _ q; omega).trans hB.1
    · exact (hkp.block q1 (Array.getElem?_eq_some_iff.1 hB.2.1).1 fun q => by have := hM _ q; omega).trans hB.2.1
    · intro h0 W hW
      rw [if_pos h0] at hp
      obtain ⟨ht, hkt⟩ := (hp.later hW).turned
      rw [he] at h0
      have hle : (ms.map (sz (N + 1))).sum + sz (N + 1) x ≤ room := by
        by_cases q : (ms.map (sz (N + 1))).sum + sz (N + 1) x ≤ room
        · exact q
        · rw [if_neg q] at h0
          cases h0
      refine ⟨by simp [hle], (hkw.trans (keep_below hW M) fun _ _ e => e).trans hkt fun b hb q => ?_, x, ws', nm', v, vs', ma', mc', Mh', ht.mono (fun b q => ?_) (by omega), fun _ => rfl, fun q => by cases q⟩
      · rcases q with q | q
        · exact q
        · omega
      · rcases q with q | q
        · exact Or.inl q
        · exact Or.inr (by omega)
    · intro h0 W q2 hW hq2 hq2W
      rw [if_neg h0] at hp
      have hlt : ¬ (ms.map (sz (N + 1))).sum + sz (N + 1) x ≤ room := fun q => h0 (by rw [he, if_pos q])
      have hp2 := (hp.inside.later hW)
      have hsW := hW.size
      have hyB := In.offB hy2 hy1
      have hs01 := hb01.size
      have hyc : chk (N + 1) y0 = 0 ∧ closedT (N + 1) y0 = true := ⟨(same_chk hy3).trans hsc.1, (same_closed _ _ _ _ hy3).trans hsc.2⟩
      have hy4 : In W1.heap.size W1 (N + 1) y0 := (hy1.below hb01).mono hs01
      have hyM : Off (fun b => ¬ M b) (N + 1) y0 := hy2.mono fun q hq z => by have := hM q z; omega
      have hy5 : In w'.heap.size w' (N + 1) y0 := (hy4.kee (kee_keep hkn) hyM).kee (kee_keep hkp) hyM
      have hy6 : In W.heap.size W (N + 1) y0 := (hy5.below hW).mono hsW
      have he2 := putP_numb (room := room) (ms := ms) hyc.1 hyc.2
      have hsz := same_sz _ _ _ _ hy3
      rw [if_pos (by rw [hsz]; exact hsum)] at he2
      refine (hp2.put y0 hy6 (hyB.mono fun q hq z => ?_) (chk_n2 hyc.1) (fun b hb => by have := hb.2; omega) (by omega) h20 (by omega)).mono ?_
      · rcases z.1 with z | z
        · have := hM q z
          omega
        · omega
      · rintro e w'' ⟨v2, rfl, H2⟩
        obtain ⟨ws2, nm2, sv2, vs2, ma2, mc2, Mh2, hr, hkr⟩ := H2.out
        rw [if_pos he2] at hr
        refine ⟨v2, _, rfl, fun ob hob => (hkr.block q2 hq2W fun q => by have := q.2; omega).trans hob, hr.cells56, fun W' hW' => ?_⟩
        have hr2 := hr.kept (keep_kee hW') fun b q _ e => by
          rcases q with q | q
          · have := q.2
            omega
          · omega
        obtain ⟨ht, hkt⟩ := hr2.turned
        refine ⟨by simp [hlt], ?_, y0, ws2, nm2, v2, vs2, ma2, mc2, Mh2, ht.mono (fun b q => ?_) (by omega), fun q => (by cases q), fun _ => hy3⟩
        · refine ((((hkw.trans (keep_below hW M) fun _ _ e => e).trans hkr fun b hb q => ?_).trans (keep_kee hW') fun b hb q => ?_)).trans hkt fun b hb q => ?_
          · rcases q.1 with q | q
            · exact q
            · omega
          · omega
          · rcases q with q | q
            · rcases q.1 with q | q
              · exact q
              · omega
            · omega
        · rcases q with q | q
          · rcases q.1 with q | q
            · exact Or.inl q
            · exact Or.inr (by omega)
          · exact Or.inr (by omega)
end
end Go.Proofs.Ytbmjfnicfpdjfaa
namespace Go.Proofs.Ytbmjfnicfpdjfaa
open Go.RowKit

theorem chk_part {n : Nat} {x : Tm (n + 1)} (h : chk (n + 1) x = 0) {y : Tm n} (hy : y ∈ x.2.2) : chk n y = 0 := by
  obtain ⟨f1, f2, f3⟩ := chk_iff.1 h
  have hr : RightA ⟨n + 1, x⟩ := right_formed.2 f1
  have hd := dep_part hr hy
  have gx := good_parts (hdOf n x) (hr (hdOf n x) (by simp [nodes, hdOf]))
  have h4 : x.1.1 = 4 := by
    by_cases h4 : x.1.1 = 4
    · exact h4
    · have : x.2.2 = [] := List.eq_nil_of_length_eq_zero (gx.2.2.2.2 h4)
      rw [this] at hy
      cases hy
  have hs := mem_sum (fun y => 1 + sz n y) (fun y => by have := (sz_bound n y).1; omega) x.2.2 y hy
  simp only [sz, if_pos h4] at f3
  exact chk_iff.2 ⟨right_formed.1 (parts_right n x y hr hy), by omega, by
    have hs' : 1 + sz n y ≤ (x.2.2.map fun y => 1 + sz n y).sum := hs.1
    omega⟩
theorem chk_at {n : Nat} {x : Tm (n + 1)} (h : chk (n + 1) x = 0) (i : Nat) {y : Tm n} (hy : x.2.2[i]? = some y) : chk n y = 0 := chk_part h (List.mem_of_getElem? hy)
theorem unlift_chk {n N : Nat} (h : n ≤ N) (x : Tm (n + 1)) (hc : chk (N + 1) (lift (N + 1) (n + 1) x) = 0) : chk (n + 1) x = 0 := by
  have hr : RightA ⟨n + 1, x⟩ := fun a ha => (right_formed.2 (chk_iff.1 hc).1) a (by rw [lift_nodes N n h x]; exact ha)
  rw [← same_chk (lift_same (N + 1) (n + 1) (by omega) x hr)]
  exact hc
/-- A clause that is in form, with right terms. -/
def ClOk {n : Nat} (c : Cl (n + 1)) : Prop := chk (n + 1) c.1.1 = 0 ∧ chk (n + 1) c.1.2.1 = 0 ∧ chk (n + 1) c.1.2.2 = 0 ∧ c.2.2.length ≤ 8 ∧ ∀ a ∈ c.2.2, AcOk a
theorem prog_ok {n : Nat} {p : List (Bh (n + 1))} (h : toE n p = 0) : pgB (n + 1) p = true ∧ ∀ b ∈ p, b.2.2.length ≤ 6 ∧ ∀ c ∈ b.2.2, ClOk c := by
  unfold toE at h
  cases hb : pgB (n + 1) p with
  | false => rw [hb] at h; cases h
  | true =>
    rw [hb, if_pos rfl] at h
    refine ⟨rfl, fun b hbm => ?_⟩
    unfold pgB at hb
    simp only [Bool.and_eq_true, List.all_eq_true] at hb
    have hbb := hb.2 b hbm
    unfold bhB at hbb
    simp only [Bool.and_eq_true, List.all_eq_true, decide_eq_true_eq] at hbb
    refine ⟨by omega, fun c hcm => ?_⟩
    have hcb := hbb.2 c hcm
    unfold clB at hcb
    simp only [Bool.and_eq_true, List.all_eq_true, decide_eq_true_eq] at hcb
    have h1 : chk (n + 5) (tellB n b) = 0 := chk_part h (by simp only [tellP, tupV]; exact List.mem_cons_of_mem _ (List.mem_map_of_mem hbm))
    have h2 : chk (n + 4) (tellC n c) = 0 := chk_part h1 (by simp only [tellB, tupV]; exact List.mem_cons_of_mem _ (List.mem_cons_of_mem _ (List.mem_map_of_mem hcm)))
    have h3 : chk (n + 3) (tupV (n + 2) (c.2.2.map (tellA n))) = 0 := chk_at h2 3 rfl
    refine ⟨unlift_chk (N := n + 2) (by omega) _ (chk_at h2 1 rfl), unlift_chk (N := n + 2) (by omega) _ (chk_at h2 2 rfl), unlift_chk (N := n + 2) (by omega) _ (chk_at h2 4 rfl), by omega, fun a ham => ?_⟩
    have h4 : chk (n + 2) (tellA n a) = 0 := chk_part h3 (by simp only [tupV]; exact List.mem_map_of_mem ham)
    refine ⟨hcb.2 a ham, fun h13 => ?_, fun h12 => ?_⟩
    · rcases h13 with e | e
      · exact chk_part h4 (by simp [tellA, e, tupV])
      · exact chk_part h4 (by simp [tellA, e, tupV])
    · rcases h12 with e | e
      · exact chk_part h4 (by simp [tellA, e, tupV])
      · exact chk_part h4 (by simp [tellA, e, tupV])
end Go.Proofs.Ytbmjfnicfpdjfaa
namespace Go.Proofs.Ytbmjfnicfpdjfaa
open Go.RowKit

section
variable {base db : Nat} {self : Int} {n D k : Nat} {nx : Int} {d : Dg} {w : World} {l : List (Tm (D + 1))} {bg bc : Nat} {sd : List (Int × Tm (D + 1 + n + 1))} {sp : List (Int × ByteArray × Tm (D + 1 + n + 1))} {sv pv lv : Value}
/-- It stays while what is written lies below, or is new. -/
theorem DoAt.kept (h : DoAt base db self n D k nx d w l bg bc sd sp sv pv lv) {S : Nat → Prop} {w' : World} (hk : Kee S w w') (hS : ∀ b, base ≤ b → b < w.heap.size → ¬ S b) : DoAt base db self n D k nx d w' l bg bc sd sp sv pv lv := by
  have hs := hk.size
  obtain ⟨o1, o2, o3, o4, o5⟩ := h.own
  have hin : ∀ {m : Nat} {x : Tm m}, In w.heap.size w m x → Off (DoF base db bg sv pv lv) m x → In w'.heap.size w' m x := fun hi ho => hi.kee (hk.mono (T := fun b => S b ∧ b < w.heap.size) fun b hb q => ⟨q, hb⟩) (ho.mono fun q hq (z : S q ∧ q < w.heap.size) => hS q hq.1 z.2 z.1)
  have hrow : ∀ {e : TypeId} {z m : Nat} {v : Value} {xs : List Value}, w.ownsRow base e z v m xs → w'.ownsRow base e z v m xs := fun {e z m v xs} hr => row_kee hr hk fun q hq hz => by
    obtain ⟨cur, hcu⟩ := own_cells hr q hq
    refine hS q ?_ (Array.getElem?_eq_some_iff.1 hcu).1 hz
    rcases hr.2 with ⟨e1, _⟩ | ⟨g, cap, cur', e1, hg, _⟩
    · rw [e1] at hq
      cases hq
    · rw [e1] at hq
      have : g = q := Option.some.inj hq
      omega
  refine ⟨(hk.block db h.lt (hS db o2 h.lt)).trans h.box, ⟨o1, o2, o3, by omega, by omega⟩, h.bnd, h.tells, fun i y hy => ?_, fun j => ?_, hrow h.sRow, hrow h.pRow, hrow h.lRow, h.sIs, h.pIs, fun z hz => ?_, fun z hz => ?_, h.apart, h.few⟩
  · obtain ⟨a, b, c⟩ := h.row i y hy
    exact ⟨a.kee hk o4 (hS bg o3 o4), hin b c, c⟩
  · have hf := h.free j
    unfold World.frozen? at hf ⊢
    rw [hk.block bg o4 (hS bg o3 o4)]
    exact hf
  · obtain ⟨a, b, c⟩ := h.sIn z hz
    exact ⟨a, hin b c, c⟩
  · obtain ⟨a, b, c⟩ := h.pIn z hz
    exact ⟨a, hin b c, c⟩
theorem DoAt.low (h : DoAt base db self n D k nx d w l bg bc sd sp sv pv lv) : ∀ q, DoW db bg sv pv lv q → q < w.heap.size := by
  have hrow : ∀ {e : TypeId} {z m q : Nat} {v : Value} {xs : List Value}, w.ownsRow base e z v m xs → v.ownBlock = some q → q < w.heap.size := fun {e z m q v xs} hr hq => by
    obtain ⟨cur, hcu⟩ := own_cells hr q hq
    exact (Array.getElem?_eq_some_iff.1 hcu).1
  intro q hq
  rcases hq with rfl | rfl | hq | hq | hq
  · exact h.lt
  · exact h.own.2.2.2.1
  · exact hrow h.sRow hq
  · exact hrow h.pRow hq
  · exact hrow h.lRow hq
/-- What follow leaves; pbase, M: of the process. -/
def FolR (pbase pb : Nat) (name : ByteArray) (room : Int) (s : Tc) (ms : List Tc) (nk : Nat) (M : Nat → Prop) (base db : Nat) (self : Int) (n D : Nat) (nx : Int) (c : Cl (n + 1)) (b : List Tc) (S : Nat → Prop) (w : World) (f : Int) (w' : World) : Prop :=
  f = (folC room self nx (cn 13 s) (cn 13 s) (ms.map (cn 13)) c b).fate ∧ Kee (fun q => M q ∨ S q) w w' ∧ (∃ s' ws' nm' sv' vs' ma' mc' Mh', PrAt pbase pb name room 13 s' ms [] (nk + 402) (fun q => M q ∨ w.heap.size ≤ q) w' ws' nm' sv' vs' ma' mc' Mh' ∧ cn 13 s' = (folC room self nx (cn 13 s) (cn 13 s) (ms.map (cn 13)) c b).state) ∧
    ((f = 0 ∨ f = 1) → ∃ d' l' bg' bc' sd' sp' sv' pv' lv', DoAt base db self n D 8 nx d' w' l' bg' bc' sd' sp' sv' pv' lv' ∧ d'.sends = (folC room self nx (cn 13 s) (cn 13 s) (ms.map (cn 13)) c b).sends ∧ d'.spawns = (folC room self nx (cn 13 s) (cn 13 s) (ms.map (cn 13)) c b).spawns ∧ d'.links = (folC room self nx (cn 13 s) (cn 13 s) (ms.map (cn 13)) c b).links ∧ ∀ q, DoW db bg' sv' pv' lv' q → ¬ (M q ∨ w'.heap.size ≤ q))
theorem sum_cn {ms : List Tc} (h : ∀ y ∈ ms, chk 13 y = 0) : ((ms.map (cn 13)).map (sz 13)).sum = (ms.map (sz 13)).sum := by
  rw [List.map_map]
  congr 1
  exact List.map_congr_left fun y hy => cn_sz (h y hy)
theorem follow_can {pbase pb : Nat} {name : ByteArray} {room : Int} {s : Tc} {ms : List Tc} {nk : Nat} {M : Nat → Prop} {ws : List Wd} {nm : List ByteArray} {psv : Wd} {vs : List Wd} {ma : Option Addr} {mc : Nat} {Mh : Nat → Prop} {b : List Tc}
    (hp : PrAt pbase pb name room 13 s ms [] nk M w ws nm psv vs ma mc Mh) (h : DoAt base db self n D 0 nx d w l bg bc sd sp sv pv lv) (hd : d = ⟨b, nx, [], [], [], false⟩) (c : Cl (n + 1)) (hc : ClIn (n + 1) base w c) (hok : ClOk c) (hs : 1 ≤ self ∧ self ≤ 99) (hM : ∀ q, M q → q < base) (hpb : pbase ≤ base) (hnk : nk ≤ 48000) (h20 : ms.length ≤ 999) :
    Calls Try.prog 28 #[.pointer (some ⟨pb, 0, none⟩), .agg (cl13 (n + 1) c).toArray, .pointer (some ⟨db, 0, none⟩)] w fun e w' => ∃ f, e = .returned (.int .i64 f) ∧ FolR pbase pb name room s ms nk M base db self n D nx c b (DoW db bg sv pv lv) w f w' := by
  obtain ⟨c1, c2, c3, c4, c5⟩ := hok
  have ho := h.own.2.2.2.2
  have hlow : ∀ {W : World}, Kee (DoW db bg sv pv lv) w W → Below base w W := fun hk => hk.below ho fun b hb q => by
    have := h.high b q
    omega
  have hpk : ∀ {W : World}, Kee (DoW db bg sv pv lv) w W → PrAt pbase pb name room 13 s ms [] nk M W ws nm psv vs ma mc Mh := fun hk => hp.kept (N := 12) (keep_kee hk) fun b hb _ q => by
    have := hM b hb
    have := h.high b q
    omega
  have hkM : ∀ {W : World}, Kee (DoW db bg sv pv lv) w W → Kee (fun q => M q ∨ DoW db bg sv pv lv q) w W := fun hk => hk.mono fun q _ hq => Or.inr hq
  have hms : ∀ y ∈ ms, chk 13 y = 0 := fun y hy => (hp.front.2.2.1 y (List.mem_cons_of_mem _ hy)).1
  refine follow_walk (D + 1 + n) c.1.1.1.1 c.1.1.1.2.1 c.1.1.1.2.2 c.1.1.2.1.1 c.1.1.2.2.length c.1.1.2.1.2 c.1.2.1.1.1 c.1.2.1.1.2.1 c.1.2.1.1.2.2 c.1.2.1.2.1.1 c.1.2.1.2.2.length c.1.2.1.2.1.2 c.2.1.1 c.2.2.length c.2.1.2 c.1.2.2.1.1 c.1.2.2.1.2.1 c.1.2.2.1.2.2 c.1.2.2.2.1.1 c.1.2.2.2.2.length c.1.2.2.2.1.2 pb db w
    (fun W => Kee (DoW db bg sv pv lv) w W ∧ ∃ d' l' bg' bc' sd' sp' sv' pv' lv', doL self c.2.2 d = some d' ∧ DoAt base db self n D 8 nx d' W l' bg' bc' sd' sp' sv' pv' lv')
    (fun t y W' => ∃ W d' l' bg' bc' sd' sp' sv' pv' lv', Kee (DoW db bg sv pv lv) w W ∧ doL self c.2.2 d = some d' ∧ DoAt base db self n D 8 nx d' W l' bg' bc' sd' sp' sv' pv' lv' ∧ Below W.heap.size W W' ∧ In W'.heap.size W' (D + 1 + n + 1) y ∧ Off (fun q => W.heap.size ≤ q) (D + 1 + n + 1) y ∧ t = (vlC d'.b self (n + 1) c.1.2.2).isSome ∧ ∀ tt, vlC d'.b self (n + 1) c.1.2.2 = some tt → chk _ y = 0 ∧ closedT _ y = true ∧ cn _ y = tt)
    (FolR pbase pb name room s ms nk M base db self n D nx c b (DoW db bg sv pv lv) w) ?_ ?_ ?_ ?_
  · intro W hW
    refine ((h.later hW).all c.2.2 c.2.1.1 c.2.1.2 ?_ c5 c4 hs).mono ?_
    · rcases hc.2.2 with e | ⟨q, o, e, hq, hcc⟩
      · exact Or.inl e
      · exact Or.inr ⟨q, o, e, hq, fun i a hi => ⟨fun j u hj => (hW.cell (p := ⟨q, o + i * 11 + j, none⟩) (Nat.lt_of_lt_of_le hq ho)).trans ((hcc i a hi).1 j u hj), ((hcc i a hi).2).later (hW.mono ho)⟩⟩
    · rintro e w' ⟨t, rfl, H⟩
      obtain ⟨r1, r2, r3⟩ := H.out
      have hk : Kee (DoW db bg sv pv lv) w w' := (kee_below hW _).trans r1 fun _ _ e => e
      refine ⟨t, rfl, fun q ob hq hob => (r1.block q (Array.getElem?_eq_some_iff.1 hob).1 fun z => by have := h.low q z; omega).trans hob, fun htt => ⟨hk, ?_⟩, fun htf => ?_⟩
      · rw [htt] at r2
        obtain ⟨d2, hd2⟩ := Option.isSome_iff_exists.1 r2.symm
        obtain ⟨l2, bg2, bc2, sd2, sp2, sv2, pv2, lv2, k1, _⟩ := r3 d2 hd2
        exact ⟨d2, l2, bg2, bc2, sd2, sp2, sv2, pv2, lv2, hd2, k1⟩
      · rw [htf] at r2
        have hn : doL self c.2.2 d = none := Option.isNone_iff_eq_none.1 (by rw [← Option.not_isSome, ← r2]; rfl)
        rw [hd] at hn
        have hf : folC room self nx (cn 13 s) (cn 13 s) (ms.map (cn 13)) c b = ⟨cn 13 s, 2, [], [], [], cn 13 s, ms.map (cn 13)⟩ := by simp [folC, hn]
        refine ⟨by rw [hf], hkM hk, ⟨s, ws, nm, psv, vs, ma, mc, Mh, (hpk hk).mono (N := 12) (fun q hq => Or.inl hq) (by omega), by rw [hf]⟩, fun z => ?_⟩
        omega
  · rintro W ⟨hk, d', l', bg', bc', sd', sp', sv', pv', lv', hd', h'⟩
    obtain ⟨t1, t2⟩ := h'.told (self := self) c.1.2.2 c3
    refine (h'.value c.1.2.2 (hc.1.2.2.below (hlow hk)) c3 hs W (Below.refl _ _)).mono ?_
    rintro e w' ⟨y, rfl, HY⟩
    obtain ⟨y1, y2, y3, y4⟩ := HY.out
    exact ⟨y, _, rfl, W, d', l', bg', bc', sd', sp', sv', pv', lv', hk, hd', h', y1, y2, y3, t1, fun tt htt => t2 y tt htt y4⟩
  · rintro y W' W'' ⟨W, d', l', bg', bc', sd', sp', sv', pv', lv', hk, hd', h', y1, _, _, y4, _⟩ hb
    have hn : vlC d'.b self (n + 1) c.1.2.2 = none := Option.isNone_iff_eq_none.1 (by rw [← Option.not_isSome, ← y4]; rfl)
    rw [hd] at hd'
    have hf : folC room self nx (cn 13 s) (cn 13 s) (ms.map (cn 13)) c b = ⟨cn 13 s, 2, [], [], [], cn 13 s, ms.map (cn 13)⟩ := by simp [folC, hd', hn]
    have hk2 : Kee (DoW db bg sv pv lv) w W'' := (hk.trans (kee_below y1 (fun _ => False)) fun _ _ e => e.elim).trans (kee_below hb (fun _ => False)) fun _ _ e => e.elim
    refine ⟨by rw [hf], hkM hk2, ⟨s, ws, nm, psv, vs, ma, mc, Mh, (hpk hk2).mono (N := 12) (fun q hq => Or.inl hq) (by omega), by rw [hf]⟩, fun z => ?_⟩
    omega
  · rintro y W' W'' ⟨W, d', l', bg', bc', sd', sp', sv', pv', lv', hk, hd', h', y1, y2, y3, y4, y5⟩ hb
    obtain ⟨tt, htt⟩ := Option.isSome_iff_exists.1 y4.symm
    obtain ⟨y6, y7, y8⟩ := y5 tt htt
    rw [hd] at hd'
    have hsW := hk.size
    have hs1 := y1.size
    have hs2 := hb.size
    have hk2 : Kee (DoW db bg sv pv lv) w W'' := (hk.trans (kee_below y1 (fun _ => False)) fun _ _ e => e.elim).trans (kee_below hb (fun _ => False)) fun _ _ e => e.elim
    have hyr : RightA ⟨D + 1 + n + 1, y⟩ := right_formed.2 (chk_iff.1 y6).1
    have hyd : dep (D + 1 + n + 1) y < 13 := by have := (chk_iff.1 y6).2.1; omega
    have hxs := low_same 13 (D + 1 + n + 1) y hyr hyd
    have hxi := low_in 13 (D + 1 + n + 1) y _ _ hyr hyd ((y2.below hb).mono hs2)
    have hxo := low_off 13 (D + 1 + n + 1) y _ hyr hyd y3
    have hxl : (lift 13 (D + 1 + n + 1) y).2.2.length = y.2.2.length := by simp [lift]
    have hxt : cn 13 (lift 13 (D + 1 + n + 1) y) = tt := (cn_eq hxs).trans y8
    have hxz : sz 13 (lift 13 (D + 1 + n + 1) y) = sz 13 tt := by
      rw [same_sz _ _ _ _ hxs, ← y8, cn_sz y6]
    have hbec := (hpk hk2).become (N := 12) (lift 13 (D + 1 + n + 1) y) hxi (hxo.mono fun q hq z => by have := hM q z; omega) ((same_chk hxs).trans y6) ((same_closed _ _ _ _ hxs).trans y7) (fun q z => by have := hM q z; omega) hnk h20 (by omega)
    rw [hxl] at hbec
    refine hbec.mono ?_
    rintro e w' ⟨t, rfl, H⟩
    obtain ⟨r1, r2, s', ws', nm', sv2, vs', ma', mc', Mh', r3, r4, r5⟩ := H.out
    have hr1 : t = decide (((ms.map (cn 13)).map (sz 13)).sum + sz 13 tt ≤ room) := by
      rw [sum_cn hms, ← hxz]
      exact r1
    have hkw : Kee (fun q => M q ∨ DoW db bg sv pv lv q) w w' := (hkM hk2).trans (kee_keep r2) fun q _ hq => Or.inl hq
    have hP : PrAt pbase pb name room 13 s' ms [] (nk + 402) (fun q => M q ∨ w.heap.size ≤ q) w' ws' nm' sv2 vs' ma' mc' Mh' := r3.mono (N := 12) (fun q hq => by
      rcases hq with hq | hq
      · exact Or.inl hq
      · exact Or.inr (by omega)) (Nat.le_refl _)
    have hD : DoAt base db self n D 8 nx d' w' l' bg' bc' sd' sp' sv' pv' lv' := ((h'.later y1).later hb).kept (kee_keep r2) fun q hq _ z => by
      have := hM q z
      omega
    refine ⟨t, rfl, fun htf => ?_, fun htt' => ⟨d'.stops, cell_row hD.box 6, fun hst => ?_, fun hst => ?_⟩⟩
    · rw [htf] at hr1
      have hle : ¬ ((ms.map (cn 13)).map (sz 13)).sum + sz 13 tt ≤ room := of_decide_eq_false hr1.symm
      have hf : folC room self nx (cn 13 s) (cn 13 s) (ms.map (cn 13)) c b = ⟨cn 13 s, 3, [], [], [], cn 13 s, ms.map (cn 13)⟩ := by
        unfold folC
        simp only [hd', htt]
        rw [if_neg hle]
      refine ⟨by rw [hf], hkw, ⟨s', ws', nm', sv2, vs', ma', mc', Mh', hP, by rw [hf]; exact cn_eq (r5 htf)⟩, fun z => ?_⟩
      omega
    · rw [htt'] at hr1
      have hle : ((ms.map (cn 13)).map (sz 13)).sum + sz 13 tt ≤ room := of_decide_eq_true hr1.symm
      have hf : folC room self nx (cn 13 s) (cn 13 s) (ms.map (cn 13)) c b = ⟨cn 13 s, 1, d'.sends, d'.spawns, d'.links, tt, ms.map (cn 13)⟩ := by
        unfold folC
        simp only [hd', htt]
        rw [if_pos hle, hst]
        rfl
      refine ⟨by rw [hf], hkw, ⟨s', ws', nm', sv2, vs', ma', mc', Mh', hP, by rw [hf, r4 htt']; exact hxt⟩, fun _ => ⟨d', l', bg', bc', sd', sp', sv', pv', lv', hD, by rw [hf], by rw [hf], by rw [hf], fun q hq z => ?_⟩⟩
      have h1 := hD.high q hq
      have h2 := hD.low q hq
      rcases z with z | z
      · have := hM q z
        omega
      · omega
    · rw [htt'] at hr1
      have hle : ((ms.map (cn 13)).map (sz 13)).sum + sz 13 tt ≤ room := of_decide_eq_true hr1.symm
      have hf : folC room self nx (cn 13 s) (cn 13 s) (ms.map (cn 13)) c b = ⟨cn 13 s, 0, d'.sends, d'.spawns, d'.links, tt, ms.map (cn 13)⟩ := by
        unfold folC
        simp only [hd', htt]
        rw [if_pos hle, hst]
        rfl
      refine ⟨by rw [hf], hkw, ⟨s', ws', nm', sv2, vs', ma', mc', Mh', hP, by rw [hf, r4 htt']; exact hxt⟩, fun _ => ⟨d', l', bg', bc', sd', sp', sv', pv', lv', hD, by rw [hf], by rw [hf], by rw [hf], fun q hq z => ?_⟩⟩
      have h1 := hD.high q hq
      have h2 := hD.low q hq
      rcases z with z | z
      · have := hM q z
        omega
      · omega
end
end Go.Proofs.Ytbmjfnicfpdjfaa
