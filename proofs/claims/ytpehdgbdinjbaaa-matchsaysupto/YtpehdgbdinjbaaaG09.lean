/- What is proved here: plain facts and contracts that the claimed theorem stands on, several texts in one: match.bindings' fitAll and fits, of right terms that lie in memory and four right terms that are owned: they return whether the plain functions find something, leave that in the owned row, and turn no other memory that was there. No condition but those. match.bindings' fits, of right terms that lie in memory and four right terms that are owned: it returns whether the plain function fit finds something, leaves that in the owned row, and turns no other memory that was there. No condition but those. match.Fits of two terms and a list of terms that lie in memory returns what the plain functions say: the error of what isn't right, or whether the pattern fits, and then copies of what is bound; it turns no memory that was there. Condition: at most 2097152 terms in each. plain facts on lists of terms of whatever depth, each taken to one depth: they are the same terms, in the same memory. No condition. match.Fits of two terms and a list of terms that lie in memory returns what the plain functions say: the error of what isn't right, or whether the pattern fits, and then copies of what is bound; it turns no memory that was there. Condition: at most 2097152 terms in each. match.Fits of two terms and a list of terms that lie in memory returns what the plain functions say. Condition: at most 2097152 terms in each. plain facts on pairs of terms that are still to be asked: how they lie in memory, and what is left of them. No condition. -/
import Derived.Test.YtpehdgbdinjbaaaG05
import Derived.Test.YtpehdgbdinjbaaaG06
import Derived.Test.YtpehdgbdinjbaaaG08
import Derived.Lib.SliceRun
namespace Go.Proofs.Ytpehdgbdinjbaaa
open Go.RowKit

theorem grown_cells {w w' : World} {g : Nat} (h : w.grownBy w' (some g)) : ∀ b o, b < w.heap.size → b ≠ g → w'.cell? ⟨b, o, none⟩ = w.cell? ⟨b, o, none⟩ :=
  fun b o hb hne => World.cell?_of_block (a := ⟨b, o, none⟩) (h.block b hb (by simpa using hne))
theorem grown_undrew {w w' : World} {row : Option Nat} (h : w.drew.grownBy w' row) : w.grownBy w' row := ⟨h.os, h.tape, h.output, h.size, h.block⟩
theorem grown_drew {w w' : World} {row : Option Nat} (h : w.grownBy w' row) : w.grownBy w'.drew row := ⟨h.os, h.tape, h.output, h.size, h.block⟩

theorem fitAll_ne (p q : Nat) (a a' : Option Addr) (pc qc : Nat) (g c : Nat) (base : Nat) (w : World) (_hpc : p ≤ 9223372036854775807) (_hqc : q ≤ 9223372036854775807) (hl : ((p : Int) == (q : Int)) = false) :
    Calls Try.prog 97 #[.slice (some ⟨g, 0, none⟩) 4 c, .slice a p pc, .slice a' q qc] w (FitPost base g c none w) := by
  have hl' : ((p : Int) != (q : Int)) = true := by simpa using hl
  go_enter Try.func97, Try.ntmps97
  go_wp2_with fail
  go_ret
  exact ⟨rfl, World.grownBy.refl _ _, fun b e => by cases e⟩

theorem fitAll_nil (a a' : Option Addr) (pc qc : Nat) (g c : Nat) (base : Nat) (b : List An) (w : World) (H : Has base g c b w) :
    Calls Try.prog 97 #[.slice (some ⟨g, 0, none⟩) 4 c, .slice a 0 pc, .slice a' 0 qc] w (FitPost base g c (some b) w) := by
  have HH := hide H
  clear H
  go_enter Try.func97, Try.ntmps97
  go_wp2_with fail
  go_loop [16] (fun i => i = .int .i64 0) (fun _ => 0)
  case atStart => rfl
  case round =>
    obtain rfl := hrel
    go_wp2_with fail
    go_ret
    exact ⟨rfl, World.grownBy.refl _ _, fun b' e => by obtain rfl := Option.some.inj e; exact HH.out⟩

set_option maxHeartbeats 1000000 in
theorem fitAll_eq (n m : Nat) (ih : FFit n) (p : List (Tm n)) (q : List (Tm m)) (len : Nat) (hpl : Hid (p.length = len)) (hql : Hid (q.length = len)) (pb po qb qo pc qc : Nat) (b : List An) (base g c B : Nat) (w : World)
    (hlen : len ≤ 9223372036854775807) (hpb : pb < B) (hqb : qb < B)
    (hp : ∀ (i : Nat) (y : Tm n), p[i]? = some y → Held w pb (po + i * 4) n y ∧ In B w n y)
    (hq : ∀ (i : Nat) (y : Tm m), q[i]? = some y → Held w qb (qo + i * 4) m y ∧ In B w m y)
    (hrp : ∀ y ∈ p, RightA ⟨n, y⟩) (hrq : ∀ y ∈ q, RightA ⟨m, y⟩) (hb : Hid (Bnd B w b)) (hB : B ≤ base) (H : Hid (Has base g c b w)) :
    Calls Try.prog 97 #[.slice (some ⟨g, 0, none⟩) 4 c, .slice (some ⟨pb, po, none⟩) len pc, .slice (some ⟨qb, qo, none⟩) len qc] w (FitPost base g c (fitL (fun x y b => fit n x m y b) p q b) w) := by
  have hg1 : B ≤ g := Nat.le_trans hB H.out.lt.1
  have hg2 : g < w.heap.size := H.out.lt.2
  go_enter Try.func97, Try.ntmps97
  go_wp2_with fail
  go_loopw [16] (fun i wr => ∃ k : Nat, k ≤ len ∧ i = .int .i64 k ∧ Hid (w.grownBy wr (some g) ∧ ∃ b', Has base g c b' wr ∧ Bnd B wr b' ∧ fitL (fun x y b => fit n x m y b) (p.drop k) (q.drop k) b' = fitL (fun x y b => fit n x m y b) p q b)) (fun i _ => len - (intOf i).toNat)
  case atStart => exact ⟨0, by omega, rfl, World.grownBy.refl _ _, b, H.out, hb.out, rfl⟩
  case round =>
    obtain ⟨k, hk, rfl, HR⟩ := hrel
    by_cases hlt : k < len
    · obtain ⟨x, hx⟩ : ∃ x, p[k]? = some x := ⟨p[k]'(by rw [hpl.out]; exact hlt), List.getElem?_eq_getElem _⟩
      obtain ⟨y, hy⟩ : ∃ y, q[k]? = some y := ⟨q[k]'(by rw [hql.out]; exact hlt), List.getElem?_eq_getElem _⟩
      obtain ⟨HG, b', HH, HN, HF⟩ : Hid (w.grownBy wr (some g)) ∧ ∃ b', Hid (Has base g c b' wr) ∧ Hid (Bnd B wr b') ∧ Hid (fitL (fun x y b => fit n x m y b) (p.drop k) (q.drop k) b' = fitL (fun x y b => fit n x m y b) p q b) := HR.out
      clear HR
      obtain ⟨hx1, hx2⟩ := hp k x hx
      obtain ⟨hy1, hy2⟩ := hq k y hy
      have HS := hide (fitL_drop (fun x y b => fit n x m y b) p q k x y hx hy b')
      have HRX := hide (hrp x (List.mem_of_getElem? hx))
      have HRY := hide (hrq y (List.mem_of_getElem? hy))
      have hbw := grown_below HG.out hg1 hg2
      replace hx1 := hx1.below hbw hpb
      replace hy1 := hy1.below hbw hqb
      replace hx2 := hx2.below hbw
      replace hy2 := hy2.below hbw
      have hgr : g < wr.heap.size := Nat.lt_of_lt_of_le hg2 HG.out.size
      have hB' : B ≤ wr.heap.size := by omega
      clear hp hq hx hy hrp hrq hb H hbw
      cases n with
      | zero => exact hx1.elim
      | succ n =>
      cases m with
      | zero => exact hy1.elim
      | succ m =>
      obtain ⟨x0, x1, x2, x3⟩ := hx1
      obtain ⟨y0, y1, y2, y3⟩ := hy1
      have HC : Hid (∀ (w1 : World), Below wr.heap.size wr w1 → Calls Try.prog 67 #[.slice (some ⟨g, 0, none⟩) 4 c, .agg #[.int .i64 x.1.1, .int .i64 x.1.2.1, .string x.1.2.2, .slice x.2.1.1 x.2.2.length x.2.1.2], .agg #[.int .i64 y.1.1, .int .i64 y.1.2.1, .string y.1.2.2, .slice y.2.1.1 y.2.2.length y.2.1.2]] w1 (FitPost base g c (fit (n + 1) x (m + 1) y b') w1)) :=
        fun w1 h1 => ih x (m + 1) y b' base g c B w1 (hx2.below (h1.mono hB')) (hy2.below (h1.mono hB')) HRX.out HRY.out (HN.out.below (h1.mono hB')) hB (HH.out.below h1)
      have HK : Hid (∀ r b2, fit (n + 1) x (m + 1) y b' = r → r = some b2 → Bnd B wr b2) := fun r b2 e1 e2 => HN.out.fit hy2 HRY.out (e1.trans e2)
      clear ih hx2 hy2 HRX HRY HN
      replace HS : Hid (fitL (fun x y b => fit (n + 1) x (m + 1) y b) (p.drop k) (q.drop k) b' = (fit (n + 1) x (m + 1) y b').bind (fitL (fun x y b => fit (n + 1) x (m + 1) y b) (p.drop (k + 1)) (q.drop (k + 1)))) := HS
      generalize fit (n + 1) x (m + 1) y b' = r at *
      generalize x.2.2.length = xl at *
      generalize y.2.2.length = yl at *
      have hk1 : (0 : Int) ≤ (k : Int) := by omega
      have hk2 : (k : Int) < (len : Int) := by omega
      have hpw : pb < wr.heap.size := by omega
      have hqw : qb < wr.heap.size := by omega
      have hqw1 : qb < wr.heap.size + 1 := by omega
      have hqg : qb ≠ g := by omega
      have hwg : wr.heap.size ≠ g := by omega
      have HCD := hide (HC.out (wr.alloc (.cells #[.int .i64 x.1.1, .int .i64 x.1.2.1, .string x.1.2.2, .slice x.2.1.1 xl x.2.1.2] 24)).drew (((Below.refl _ _).alloc (Nat.le_refl _) _).drew))
      clear HC
      go_wp2_with fail
      go_region_held3 (fun w' => w'.cell? ⟨wr.heap.size, 0, none⟩ = some (.int .i64 x.1.1) ∧ w'.cell? ⟨wr.heap.size, 1, none⟩ = some (.int .i64 x.1.2.1) ∧ w'.cell? ⟨wr.heap.size, 2, none⟩ = some (.string x.1.2.2) ∧ w'.cell? ⟨wr.heap.size, 3, none⟩ = some (.slice x.2.1.1 xl x.2.1.2)
          ∧ w'.cell? ⟨qb, qo + k * 4, none⟩ = some (.int .i64 y.1.1) ∧ w'.cell? ⟨qb, qo + k * 4 + 1, none⟩ = some (.int .i64 y.1.2.1) ∧ w'.cell? ⟨qb, qo + k * 4 + 2, none⟩ = some (.string y.1.2.2) ∧ w'.cell? ⟨qb, qo + k * 4 + 3, none⟩ = some (.slice y.2.1.1 yl y.2.1.2))
        (go_keep) ((go_at_call 67; refine HCD.out.mono ?_; rintro e w1 ⟨rfl, hgr1, hhas1⟩; have hcc := grown_cells (grown_undrew hgr1); have HG1 := hide (grown_undrew hgr1); have HH1 := hide hhas1; clear hgr1 hhas1))
      have HG2 : Hid (w.grownBy w1 (some g)) := grown_trans HG.out (grown_trans (World.grownBy_alloc wr _ _) HG1.out)
      clear hcc
      cases r with
      | some b2 =>
        have HN2 : Hid (Bnd B w1 b2) := (HK.out _ b2 rfl rfl).below ((((Below.refl _ _).alloc (Nat.le_refl _) _).mono hB').trans (grown_below HG1.out hg1 (by simp; omega)))
        clear HK
        simp only [Option.isSome_some]
        go_wp2_with fail
        go_roundw
        case rel => exact ⟨k + 1, by omega, by go_num, HG2.out, b2, HH1.out b2 rfl, HN2.out, by rw [← HF.out, HS.out]; rfl⟩
        case measure => simp [intOf]; omega
      | none =>
        clear HK
        simp only [Option.isSome_none]
        go_wp2_with fail
        go_ret
        have ho : fitL (fun x y b => fit (n + 1) x (m + 1) y b) p q b = none := by rw [← HF.out, HS.out]; rfl
        rw [ho]
        exact ⟨rfl, HG2.out, fun b' e => by cases e⟩
    · obtain ⟨HG, b', HH, HN, HF⟩ : Hid (w.grownBy wr (some g)) ∧ ∃ b', Hid (Has base g c b' wr) ∧ Hid (Bnd B wr b') ∧ Hid (fitL (fun x y b => fit n x m y b) (p.drop k) (q.drop k) b' = fitL (fun x y b => fit n x m y b) p q b) := HR.out
      clear HR
      go_wp2_with fail
      go_ret
      have ho : fitL (fun x y b => fit n x m y b) p q b = some b' := by rw [← HF.out, List.drop_eq_nil_of_le (by rw [hpl.out]; omega)]; rfl
      rw [ho]
      exact ⟨rfl, HG.out, fun b2 e => by obtain rfl := Option.some.inj e; exact HH.out⟩
end Go.Proofs.Ytpehdgbdinjbaaa
namespace Go.Proofs.Ytpehdgbdinjbaaa
open Go.RowKit

theorem fitAll_any (n m : Nat) (ih : FFit n) (p : List (Tm n)) (q : List (Tm m)) (a a' : Option Addr) (pc qc : Nat) (b : List An) (base g c B : Nat) (w : World)
    (hp : p = [] ∨ ∃ b o, a = some ⟨b, o, none⟩ ∧ b < B ∧ ∀ (i : Nat) (y : Tm n), p[i]? = some y → Held w b (o + i * 4) n y ∧ In B w n y)
    (hq : q = [] ∨ ∃ b o, a' = some ⟨b, o, none⟩ ∧ b < B ∧ ∀ (i : Nat) (y : Tm m), q[i]? = some y → Held w b (o + i * 4) m y ∧ In B w m y)
    (hpl : p.length ≤ 9223372036854775807) (hql : q.length ≤ 9223372036854775807) (hrp : ∀ y ∈ p, RightA ⟨n, y⟩) (hrq : ∀ y ∈ q, RightA ⟨m, y⟩) (hb : Bnd B w b) (hB : B ≤ base) (H : Has base g c b w) :
    Calls Try.prog 97 #[.slice (some ⟨g, 0, none⟩) 4 c, .slice a p.length pc, .slice a' q.length qc] w (FitPost base g c (if p.length = q.length then fitL (fun x y b => fit n x m y b) p q b else none) w) := by
  by_cases hl : p.length = q.length
  · rw [if_pos hl]
    rcases hp with hp | ⟨pb, po, rfl, hpb, hp⟩
    · subst hp
      have hq0 : q = [] := List.eq_nil_of_length_eq_zero hl.symm
      subst hq0
      exact fitAll_nil a a' pc qc g c base b w H
    · rcases hq with hq | ⟨qb, qo, rfl, hqb, hq⟩
      · subst hq
        have hp0 : p = [] := List.eq_nil_of_length_eq_zero hl
        subst hp0
        exact fitAll_nil _ a' pc qc g c base b w H
      · have h := fitAll_eq n m ih p q p.length rfl hl.symm pb po qb qo pc qc b base g c B w (by omega) hpb hqb hp hq hrp hrq hb hB H
        rw [← hl]
        exact h
  · rw [if_neg hl]
    exact fitAll_ne p.length q.length a a' pc qc g c base w hpl hql (by simp; omega)

theorem FitPost.from {base g c : Nat} {o : Option (List An)} {w w1 : World} (h : w.grownBy w1 (some g)) {e : Ending} {w2 : World} (k : FitPost base g c o w1 e w2) : FitPost base g c o w e w2 :=
  ⟨k.1, grown_trans h k.2.1, k.2.2⟩

set_option maxHeartbeats 1000000 in
theorem fits_walk (k u k' u' : Int) (s s' : ByteArray) (a a' : Option Addr) (l l' pc qc : Nat) (base g c : Nat) (b : List An) (o1 o2 : Option (List An)) (sm : Bool) (w : World) (HH : Hid (Has base g c b w))
    (HV : Hid (k = 5 → ∀ w1, Below w.heap.size w w1 → Calls Try.prog 96 #[.slice (some ⟨g, 0, none⟩) 4 c, .int .i64 u, .agg #[.int .i64 k', .int .i64 u', .string s', .slice a' l' qc]] w1 (FitPost base g c o1 w1)))
    (HA : Hid (∀ w1, Below w.heap.size w w1 → Calls Try.prog 97 #[.slice (some ⟨g, 0, none⟩) 4 c, .slice a l pc, .slice a' l' qc] w1 (FitPost base g c o2 w1)))
    (HO : Hid (∀ w1, Below w.heap.size w w1 → Calls Try.prog 9 #[.agg #[.int .i64 k, .int .i64 u, .string s, .slice a l pc], .agg #[.int .i64 k', .int .i64 u', .string s', .slice a' l' qc]] w1 fun e w' => ∃ r, e = .returned (.int .i64 r) ∧ Hid ((r == 0) = sm) ∧ Below w1.heap.size w1 w')) :
    Calls Try.prog 67 #[.slice (some ⟨g, 0, none⟩) 4 c, .agg #[.int .i64 k, .int .i64 u, .string s, .slice a l pc], .agg #[.int .i64 k', .int .i64 u', .string s', .slice a' l' qc]] w
      (FitPost base g c (if k = 6 then some b else if k = 5 then o1 else if k = 4 then (if k' = 4 then o2 else none) else if sm then some b else none) w) := by
  have hbx : ∀ o1 o2, Below w.heap.size w ((w.alloc o1).alloc o2) := fun o1 o2 => ((Below.refl _ _).alloc (Nat.le_refl _) _).alloc (by simp) _
  have HBX := hide hbx
  clear hbx
  by_cases h6 : k = 6
  · rw [if_pos h6]
    subst h6
    go_enter Try.func67, Try.ntmps67
    go_wp2_with fail
    go_ret
    exact ⟨rfl, grown_of_below (HBX.out _ _) _, fun b' e => by obtain rfl := Option.some.inj e; exact HH.out.below (HBX.out _ _)⟩
  rw [if_neg h6]
  have e6 : (k == 6) = false := by simpa using h6
  by_cases h5 : k = 5
  · rw [if_pos h5]
    have HV' := hide (HV.out h5)
    have e5 : (k == 5) = true := by simpa using h5
    clear h5 h6 HV
    go_enter Try.func67, Try.ntmps67
    go_wp2_with fail
    refine (HV'.out _ (HBX.out _ _)).mono ?_
    rintro e w1 h1
    have H1 := hide (FitPost.from (grown_of_below (HBX.out _ _) _) h1)
    obtain ⟨rfl, _, _⟩ := h1
    go_wp2_with fail
    go_ret
    exact H1.out
  rw [if_neg h5]
  have e5 : (k == 5) = false := by simpa using h5
  by_cases h4 : k = 4
  · rw [if_pos h4]
    have e4 : (k == 4) = true := by simpa using h4
    clear h5 h6 HV
    by_cases h4' : k' = 4
    · rw [if_pos h4']
      have e4' : (k' == 4) = true := by simpa using h4'
      clear h4 h4'
      go_enter Try.func67, Try.ntmps67
      go_wp2_with fail
      refine (HA.out _ (HBX.out _ _)).mono ?_
      rintro e w1 h1
      have H1 := hide (FitPost.from (grown_of_below (HBX.out _ _) _) h1)
      obtain ⟨rfl, _, _⟩ := h1
      go_wp2_with fail
      all_goals go_ret
      all_goals exact H1.out
    · rw [if_neg h4']
      have e4' : (k' == 4) = false := by simpa using h4'
      clear h4 h4'
      go_enter Try.func67, Try.ntmps67
      go_wp2_with fail
      go_ret
      exact ⟨rfl, grown_of_below (HBX.out _ _) _, fun b' e => by cases e⟩
  rw [if_neg h4]
  have e4 : (k == 4) = false := by simpa using h4
  clear h4 h5 h6 HV HA
  obtain ⟨o3, ho3⟩ : ∃ o3, o3 = if sm then some b else none := ⟨_, rfl⟩
  rw [← ho3]
  have H3 := hide ho3
  clear ho3
  go_enter Try.func67, Try.ntmps67
  go_wp2_with fail
  refine (HO.out _ (HBX.out _ _)).mono ?_
  rintro e w1 ⟨r, rfl, HR, hb1⟩
  have HB1 : Hid (Below w.heap.size w w1) := (HBX.out _ _).trans (hb1.mono (HBX.out _ _).size)
  have H4 := hide H3.out
  rw [Hid, ← HR.out] at H4
  clear hb1 HR H3
  cases h0 : r == 0
  · go_wp2_with fail
    go_ret
    have h5 := H4
    rw [h0] at h5
    simp only [Bool.false_eq_true, if_false] at h5
    subst h5
    exact ⟨rfl, grown_of_below HB1.out _, fun b' e => by cases e⟩
  · go_wp2_with fail
    go_ret
    have h5 := H4
    rw [h0] at h5
    simp only [if_true] at h5
    subst h5
    exact ⟨rfl, grown_of_below HB1.out _, fun b' e => by obtain rfl := Option.some.inj e; exact HH.out.below HB1.out⟩

theorem fit_if (n : Nat) (p : Tm (n + 1)) (m : Nat) (t : Tm (m + 1)) (b : List An) :
    fit (n + 1) p (m + 1) t b = if p.1.1 = 6 then some b else if p.1.1 = 5 then fitV b p.1.2.1.toNat ⟨m + 1, t⟩ else if p.1.1 = 4 then (if t.1.1 = 4 then (if p.2.2.length = t.2.2.length then fitL (fun x y b => fit n x m y b) p.2.2 t.2.2 b else none) else none) else if same (n + 1) p (m + 1) t then some b else none := by
  simp only [fit]
  by_cases h1 : t.1.1 = 4 <;> by_cases h2 : p.2.2.length = t.2.2.length <;> simp [h1, h2]

theorem var_at (n : Nat) (p : Tm (n + 1)) (h : RightA ⟨n + 1, p⟩) (h5 : p.1.1 = 5) : ∃ k : Nat, k < 4 ∧ p.1.2.1 = k := by
  have hg := h (hdOf n p) (by simp [nodes, hdOf])
  have e : (hdOf n p).1.1 = 5 := h5
  have e2 : (hdOf n p).1.2.1 = p.1.2.1 := rfl
  simp [good, e, inB] at hg
  rw [e2] at hg
  exact ⟨p.1.2.1.toNat, by omega, by omega⟩

theorem fits_any (n : Nat) : FFit n := by
  induction n with
  | zero => intro p m t b base g c B w hp; exact hp.elim
  | succ n ih =>
    intro p m t b base g c B w hp ht rp rt hb hB H
    cases m with
    | zero => exact ht.elim
    | succ m =>
    have hg1 : B ≤ w.heap.size := by have := H.lt; omega
    have hp2 := hp
    have ht2 := ht
    obtain ⟨⟨_, _, _, hpl, hpc⟩, hpp⟩ := hp2
    obtain ⟨⟨_, _, _, hql, hqc⟩, hqq⟩ := ht2
    unfold maxLen at hpc hqc
    rw [fit_if]
    refine fits_walk p.1.1 p.1.2.1 t.1.1 t.1.2.1 p.1.2.2 t.1.2.2 p.2.1.1 t.2.1.1 p.2.2.length t.2.2.length p.2.1.2 t.2.1.2 base g c b _ _ _ w H ?_ ?_ ?_
    · intro h5 w1 h1
      obtain ⟨k, hk, e⟩ := var_at n p rp h5
      rw [e]
      exact fvar_any b base g c B w1 k hk m t (hb.below (h1.mono hg1)) (ht.below (h1.mono hg1)) rt hB (H.below h1)
    · intro w1 h1
      refine fitAll_any n m ih p.2.2 t.2.2 p.2.1.1 t.2.1.1 p.2.1.2 t.2.1.2 b base g c B w1 ?_ ?_ (by omega) (by omega) (fun y hy => parts_right n p y rp hy) (fun y hy => parts_right m t y rt hy) (hb.below (h1.mono hg1)) hB (H.below h1)
      · rcases hpp with hp | ⟨b, o, e, hb, hp⟩
        · exact Or.inl hp
        · exact Or.inr ⟨b, o, e, hb, fun i y hy => ⟨(hp i y hy).1.below (h1.mono hg1) hb, (hp i y hy).2.below (h1.mono hg1)⟩⟩
      · rcases hqq with hp | ⟨b, o, e, hb, hp⟩
        · exact Or.inl hp
        · exact Or.inr ⟨b, o, e, hb, fun i y hy => ⟨(hp i y hy).1.below (h1.mono hg1) hb, (hp i y hy).2.below (h1.mono hg1)⟩⟩
    · intro w1 h1
      exact order_is ⟨n + 1, p⟩ ⟨m + 1, t⟩ B w1 (hp.below (h1.mono hg1)) (ht.below (h1.mono hg1)) (Nat.le_trans hg1 h1.size) rp rt
end Go.Proofs.Ytpehdgbdinjbaaa
namespace Go.Proofs.Ytpehdgbdinjbaaa
open Go.RowKit

def anL (n : Nat) (q : List (Tm n)) : List An := q.map fun x => ⟨n, x⟩
theorem anL_length (n : Nat) (q : List (Tm n)) : (anL n q).length = q.length := by simp [anL]
theorem held_cells {n : Nat} {q : List (Tm n)} {w : World} {pb po : Nat} (hp : ∀ (i : Nat) (y : Tm n), q[i]? = some y → Held w pb (po + i * 4) n y) :
    ∀ j u, (anCells (anL n q))[j]? = some u → w.cell? ((⟨pb, po, none⟩ : Addr).add j) = some u := by
  intro j u h
  have hl := anCells_length (anL n q)
  have hj : j < q.length * 4 := by
    rw [anL_length] at hl
    rw [← hl]
    exact (List.getElem?_eq_some_iff.1 h).1
  obtain ⟨k, i, hi, rfl⟩ : ∃ k i, i < 4 ∧ j = k * 4 + i := ⟨j / 4, j % 4, Nat.mod_lt _ (by decide), by omega⟩
  obtain ⟨y, hy⟩ : ∃ y, q[k]? = some y := ⟨q[k]'(by omega), List.getElem?_eq_getElem _⟩
  have e : (anCells (anL n q))[k * 4 + i]? = (nd4 (ndA ⟨n, y⟩))[i]? := ndCells_at _ k (ndA ⟨n, y⟩) (by simp [anL, hy]) i hi
  rw [e] at h
  have hh := hp k y hy
  cases n with
  | zero => exact hh.elim
  | succ n =>
  obtain ⟨h0, h1, h2, h3⟩ := hh
  rw [Addr.add_lit, ← Nat.add_assoc]
  have : i = 0 ∨ i = 1 ∨ i = 2 ∨ i = 3 := by omega
  rcases this with rfl | rfl | rfl | rfl
  all_goals simp [nd4, ndA, hdT, hdOf] at h; subst h
  · exact h0
  · exact h1
  · exact h2
  · exact h3

set_option maxHeartbeats 1000000 in
theorem clone_list (n : Nat) (q : List (Tm n)) (len pb po pc : Nat) (w : World) (hl : Hid (q.length = len)) (h0 : 0 < len) (h1 : len ≤ 1048576) (HP : Hid (∀ w1, Below w.heap.size w w1 → ∀ j u, (anCells (anL n q))[j]? = some u → w1.cell? ((⟨pb, po, none⟩ : Addr).add j) = some u)) :
    Calls Try.prog 66 #[.slice (some ⟨pb, po, none⟩) len pc] w fun e w' => ∃ g c, e = .returned (.slice (some ⟨g, 0, none⟩) len c) ∧ Hid (Below w.heap.size w w' ∧ Has w.heap.size g c (anL n q) w') := by
  obtain ⟨it, hit, htz0, htz1, htz2⟩ := info_parts infoTerm
  have HT := hide (⟨hit, htz0, htz1, htz2⟩ : _ ∧ _ ∧ _ ∧ _)
  clear hit htz0 htz1 htz2
  have hq : ∀ (w : World) (a : Option Addr) (n c n' c' : Nat), (binOp .eql 22 (.slice a n c) (.slice none n' c')).run Try.prog w = .ok (.bool a.isNone) w := fun w a n c n' c' => Lib.run_eql_slice_nil w _ _ a n c n' c' Try.underlying22
  go_enter Try.func66, Try.ntmps66
  go_wp2_with (at_builtin; refine wpList_append_own _ rfl _ _ 22 rfl w.heap.size 24 it _ 4 56 Try.underlying22 HT.out.1 HT.out.2.1 HT.out.2.2.1 HT.out.2.2.2 rfl (by decide) _ _ _ rfl (World.ownsRow_made w #[] 0 (Nat.le_refl _) (Nat.zero_le _) (by simp)) ⟨pb, po, none⟩ len pc (anCells (anL n q)) rfl ?qc1 ?qc2 ?qc3 ?qc4 ?qc5 ?qc6 ?_)
  case qc1 => rw [anCells_length, anL_length, hl.out]
  case qc2 => exact HP.out _ ((Below.refl _ _).alloc (Nat.le_refl _) _)
  case qc3 => exact anCells_one _
  case qc4 => unfold maxLen; omega
  case qc5 => omega
  case qc6 => simp
  intro v1 w1 hown hgrow hnil
  have HF : Hid (∃ g c, v1 = .slice (some ⟨g, 0, none⟩) len c ∧ Below w.heap.size w w1 ∧ Has w.heap.size g c (anL n q) w1) := by
    have hb : Below w.heap.size w w1 := Below.grown ((Below.refl _ _).alloc (Nat.le_refl _) _) hgrow (by simp) (by intro k hk; simp [Value.ownBlock] at hk; omega)
    have ho := hown
    obtain ⟨_, ho⟩ := ho
    rcases ho with ⟨_, ho⟩ | ⟨g, cap, cur, rfl, hg, _⟩
    · omega
    · refine ⟨g, cap, rfl, hb, ?_⟩
      unfold Has
      rw [anL_length, hl.out]
      exact hown
  clear hown hgrow hnil
  obtain ⟨g, c, rfl, HF2⟩ := HF.out
  go_wp2_with fail
  go_ret
  exact ⟨g, c, rfl, HF2⟩
end Go.Proofs.Ytpehdgbdinjbaaa
namespace Go.Proofs.Ytpehdgbdinjbaaa
open Go.RowKit

/-- A term, at another depth. -/
def lift : (N : Nat) → (n : Nat) → Tm n → Tm N
  | 0, _, _ => ()
  | _ + 1, 0, _ => ((0, 0, .empty), (none, 0), [])
  | N + 1, n + 1, x => (x.1, x.2.1, x.2.2.map fun y => lift N n y)
theorem lift_hd (N n : Nat) (x : Tm (n + 1)) : hdT (N + 1) (lift (N + 1) (n + 1) x) = hdT (n + 1) x := by simp [hdT, hdOf, lift]
theorem lift_held (N n : Nat) (h : n ≤ N) (x : Tm n) (w : World) (b o : Nat) (k : Held w b o n x) : Held w b o N (lift N n x) := by
  cases n with
  | zero => exact k.elim
  | succ n =>
    obtain ⟨N, rfl⟩ : ∃ M, N = M + 1 := ⟨N - 1, by omega⟩
    obtain ⟨k0, k1, k2, k3⟩ := k
    exact ⟨k0, k1, k2, by simpa [lift] using k3⟩
theorem lift_in : (N n : Nat) → n ≤ N → (x : Tm n) → (B : Nat) → (w : World) → In B w n x → In B w N (lift N n x)
  | _, 0, _, _, _, _, k => k.elim
  | 0, n + 1, h, _, _, _, _ => by omega
  | N + 1, n + 1, h, x, B, w, k => by
    obtain ⟨k0, k1⟩ := k
    refine ⟨by simpa [lift] using k0, ?_⟩
    rcases k1 with k1 | ⟨b, o, e, hb, k1⟩
    · exact Or.inl (by simp [lift, k1])
    · refine Or.inr ⟨b, o, e, hb, fun i y hy => ?_⟩
      simp only [lift, List.getElem?_map] at hy
      obtain ⟨z, hz, rfl⟩ := Option.map_eq_some_iff.1 hy
      exact ⟨lift_held N n (by omega) z w b _ (k1 i z hz).1, lift_in N n (by omega) z B w (k1 i z hz).2⟩
theorem lift_nodes : (N n : Nat) → n ≤ N → (x : Tm (n + 1)) → nodes (N + 1) (lift (N + 1) (n + 1) x) = nodes (n + 1) x
  | N, 0, _, x => by
    have : ∀ l : List (Tm 0), (l.map fun y => lift N 0 y).flatMap (fun y => nodes N y) = l.flatMap fun y => nodes 0 y := by
      intro l
      induction l with
      | nil => rfl
      | cons a l ih =>
        simp only [List.map_cons, List.flatMap_cons, ih]
        congr 1
        cases N with
        | zero => rfl
        | succ N => simp [lift, nodes]
    simp only [nodes, lift, List.length_map, this]
  | 0, n + 1, h, _ => by omega
  | N + 1, n + 1, h, x => by
    have : ∀ l : List (Tm (n + 1)), (l.map fun y => lift (N + 1) (n + 1) y).flatMap (fun y => nodes (N + 1) y) = l.flatMap fun y => nodes (n + 1) y := by
      intro l
      induction l with
      | nil => rfl
      | cons a l ih =>
        simp only [List.map_cons, List.flatMap_cons, ih]
        rw [lift_nodes N n (by omega) a]
    have e : nodes (N + 2) (lift (N + 2) (n + 2) x) = (x.1, (x.2.1.1, (x.2.2.map fun y => lift (N + 1) (n + 1) y).length, x.2.1.2)) :: (x.2.2.map fun y => lift (N + 1) (n + 1) y).flatMap fun y => nodes (N + 1) y := rfl
    rw [e, this]
    simp [nodes]

def top (b : List An) : Nat := b.foldr (fun a m => max a.1 m) 0
theorem top_le (b : List An) : ∀ a ∈ b, a.1 ≤ top b := by
  induction b with
  | nil => intro a h; cases h
  | cons c b ih =>
    intro a h
    simp only [top, List.foldr_cons]
    rcases List.mem_cons.1 h with rfl | h
    · omega
    · have := ih a h
      unfold top at this
      omega
def uni (b : List An) : List (Tm (top b)) := b.map fun a => lift (top b) a.1 a.2
theorem uni_at (b : List An) (i : Nat) (y : Tm (top b)) (h : (uni b)[i]? = some y) : ∃ a, b[i]? = some a ∧ a.1 ≤ top b ∧ y = lift (top b) a.1 a.2 := by
  simp only [uni, List.getElem?_map] at h
  obtain ⟨a, ha, rfl⟩ := Option.map_eq_some_iff.1 h
  exact ⟨a, ha, top_le b a (List.mem_of_getElem? ha), rfl⟩
theorem uni_lies {base g c B : Nat} {b : List An} {w : World} (h : Has base g c b w) (hb : ∀ y ∈ b, InA B w y) (hB : B ≤ w.heap.size) : Lies w.heap.size w (top b) (uni b) (some ⟨g, 0, none⟩) := by
  refine Or.inr ⟨g, 0, rfl, h.lt.2, fun i y hy => ?_⟩
  obtain ⟨a, ha, hle, rfl⟩ := uni_at b i y hy
  have hin := hb a (List.mem_of_getElem? ha)
  refine ⟨?_, (lift_in _ _ hle _ _ _ hin).mono hB⟩
  obtain ⟨n, x⟩ := a
  have hc := h.cells i _ ha
  cases n with
  | zero => exact hin.elim
  | succ n =>
    rw [Nat.zero_add]
    exact lift_held _ _ hle x w g (i * 4) hc
theorem uni_right {b : List An} (h : ∀ y ∈ b, RightA y ∧ y.1 ≠ 0) : ∀ y ∈ uni b, RightA ⟨top b, y⟩ := by
  intro y hy
  obtain ⟨i, hi⟩ := List.getElem?_of_mem hy
  obtain ⟨a, ha, hle, rfl⟩ := uni_at b i y hi
  have hr := h a (List.mem_of_getElem? ha)
  obtain ⟨n, x⟩ := a
  cases n with
  | zero => exact (hr.2 rfl).elim
  | succ n =>
    intro z hz
    clear hi hy ha h
    generalize top b = T at *
    obtain ⟨M, rfl⟩ : ∃ M, T = M + 1 := ⟨T - 1, by simp only at hle; omega⟩
    have e := lift_nodes M n (by simp only at hle; omega) x
    simp only at hz
    rw [e] at hz
    exact hr.1 z hz
end Go.Proofs.Ytpehdgbdinjbaaa
namespace Go.Proofs.Ytpehdgbdinjbaaa
open Go.RowKit

/-- The error, by what is asked in order. -/
def errF (cp ct : Int) (cl bd : Bool) : Int := if cp = 0 then if ct = 0 then if cl && bd then 0 else 5 else ct else cp
/-- What match.Fits leaves: err, and o: what is bound then. -/
def FitOut (err : Int) (o : Option (List An)) (w : World) (e : Ending) (w' : World) : Prop :=
  ∃ a len c r, e = .returned (.tuple #[.slice a len c, .bool r, .int .i64 err]) ∧ Hid (Below w.heap.size w w' ∧
    ((¬ (err = 0 ∧ o.isSome = true) → len = 0 ∧ r = false) ∧ ∀ b, err = 0 → o = some b → r = true ∧ len = 4 ∧ b.length = 4 ∧ ∃ w1 l, w.heap.size ≤ w1.heap.size ∧ CpRow (top b) (uni b) w1 w' a c l))
/-- The world with two boxes, and what came since. -/
def Bx2 (w : World) (v0 v1 v2 v3 u0 u1 u2 u3 : Value) (w' : World) : Prop :=
  Below w.heap.size w w' ∧ w.heap.size + 2 ≤ w'.heap.size ∧
  (w'.cell? ⟨w.heap.size, 0, none⟩ = some v0 ∧ w'.cell? ⟨w.heap.size, 1, none⟩ = some v1 ∧ w'.cell? ⟨w.heap.size, 2, none⟩ = some v2 ∧ w'.cell? ⟨w.heap.size, 3, none⟩ = some v3) ∧
  (w'.cell? ⟨w.heap.size + 1, 0, none⟩ = some u0 ∧ w'.cell? ⟨w.heap.size + 1, 1, none⟩ = some u1 ∧ w'.cell? ⟨w.heap.size + 1, 2, none⟩ = some u2 ∧ w'.cell? ⟨w.heap.size + 1, 3, none⟩ = some u3)
theorem Bx2.new (w : World) (v0 v1 v2 v3 u0 u1 u2 u3 : Value) (t t' : TypeId) : Bx2 w v0 v1 v2 v3 u0 u1 u2 u3 ((w.alloc (.cells #[v0, v1, v2, v3] t)).alloc (.cells #[u0, u1, u2, u3] t')) :=
  ⟨((Below.refl _ _).alloc (Nat.le_refl _) _).alloc (by simp) _, by simp, ⟨by simp [go_sem], by simp [go_sem], by simp [go_sem], by simp [go_sem]⟩, by simp [go_sem], by simp [go_sem], by simp [go_sem], by simp [go_sem]⟩
theorem Bx2.next {w : World} {v0 v1 v2 v3 u0 u1 u2 u3 : Value} {w1 w2 : World} (h : Bx2 w v0 v1 v2 v3 u0 u1 u2 u3 w1) (hb : Below w1.heap.size w1 w2) : Bx2 w v0 v1 v2 v3 u0 u1 u2 u3 w2 :=
  ⟨h.1.trans (hb.mono h.1.size), Nat.le_trans h.2.1 hb.size, cells_nx (by have := h.2.1; omega) hb h.2.2.1, cells_nx (by have := h.2.1; omega) hb h.2.2.2⟩

set_option maxHeartbeats 2000000 in
theorem mfits_walk (w : World) (k u k' u' : Int) (s s' : ByteArray) (a a' : Option Addr) (l pc l' pc' : Nat) (qa : Option Addr) (ql qc : Nat) (cp ct : Int) (cl bd : Bool) (o : Option (List An)) (b0 : List An)
    (HCP : Hid (∀ w1, Below w.heap.size w w1 → Calls Try.prog 50 #[.agg #[.int .i64 k, .int .i64 u, .string s, .slice a l pc]] w1 fun e w' => e = .returned (.int .i64 cp) ∧ Below w1.heap.size w1 w'))
    (HCT : Hid (∀ w1, Below w.heap.size w w1 → Calls Try.prog 50 #[.agg #[.int .i64 k', .int .i64 u', .string s', .slice a' l' pc']] w1 fun e w' => e = .returned (.int .i64 ct) ∧ Below w1.heap.size w1 w'))
    (HCL : Hid (∀ w1, Below w.heap.size w w1 → Calls Try.prog 54 #[.agg #[.int .i64 k', .int .i64 u', .string s', .slice a' l' pc']] w1 fun e w' => e = .returned (.bool cl) ∧ Below w1.heap.size w1 w'))
    (HBD : Hid (∀ w1, Below w.heap.size w w1 → Calls Try.prog 65 #[.slice qa ql qc] w1 fun e w' => e = .returned (.bool bd) ∧ Below w1.heap.size w1 w'))
    (HCN : Hid (bd = true → ∀ w1, Below w.heap.size w w1 → Calls Try.prog 66 #[.slice qa ql qc] w1 fun e w' => ∃ g c, e = .returned (.slice (some ⟨g, 0, none⟩) 4 c) ∧ Hid (Below w1.heap.size w1 w' ∧ Has w1.heap.size g c b0 w')))
    (HF : Hid (errF cp ct cl bd = 0 → ∀ w1 base g c, Below w.heap.size w w1 → w.heap.size ≤ base → Has base g c b0 w1 → Calls Try.prog 67 #[.slice (some ⟨g, 0, none⟩) 4 c, .agg #[.int .i64 k, .int .i64 u, .string s, .slice a l pc], .agg #[.int .i64 k', .int .i64 u', .string s', .slice a' l' pc']] w1 (FitPost base g c o w1)))
    (HC : Hid (errF cp ct cl bd = 0 → ∀ w1 base g c b, o = some b → Below w.heap.size w w1 → Has base g c b w1 → b.length = 4 ∧ Calls Try.prog 68 #[.slice (some ⟨g, 0, none⟩) 4 c] w1 fun e w' => ∃ a' c' l, e = .returned (.slice a' 4 c') ∧ Hid (CpRow (top b) (uni b) w1 w' a' c' l))) :
    Calls Try.prog 32 #[.agg #[.int .i64 k, .int .i64 u, .string s, .slice a l pc], .agg #[.int .i64 k', .int .i64 u', .string s', .slice a' l' pc'], .slice qa ql qc] w (FitOut (errF cp ct cl bd) o w) := by
  obtain ⟨err, herr⟩ : ∃ err, err = errF cp ct cl bd := ⟨_, rfl⟩
  rw [← herr] at HF HC ⊢
  have HE := hide herr
  clear herr
  go_enter Try.func32, Try.ntmps32
  go_wp2_with fail
  refine (HCP.out _ (Bx2.new w _ _ _ _ _ _ _ _ _ _).1).mono ?_
  rintro e w1 ⟨rfl, hb1⟩
  have H1 := hide ((Bx2.new w (.int .i64 k) (.int .i64 u) (.string s) (.slice a l pc) (.int .i64 k') (.int .i64 u') (.string s') (.slice a' l' pc') 24 24).next hb1)
  clear hb1 HCP
  by_cases hcp : cp = 0
  case neg =>
    have h0 : (cp != 0) = true := by simpa using hcp
    have HE2 : Hid (err = cp ∧ ¬ err = 0) := by have := HE.out; unfold errF at this; rw [if_neg hcp] at this; exact ⟨this, by rw [this]; exact hcp⟩
    clear hcp HE
    go_wp2_with fail
    exact bodyPost_ret (v := .tuple #[.slice none 0 0, .bool false, .int .i64 cp]) (by simp [results, Try.results32, go_sem]) rfl ⟨none, 0, 0, false, by rw [HE2.out.1], H1.out.1, fun _ => ⟨rfl, rfl⟩, fun b h => absurd h HE2.out.2⟩
  have h0 : (cp != 0) = false := by simp [hcp]
  obtain ⟨⟨v0, v1, v2, v3⟩, u0, u1, u2, u3⟩ := H1.out.2.2
  go_wp2_with fail
  refine (HCT.out _ H1.out.1).mono ?_
  rintro e w2 ⟨rfl, hb2⟩
  have H2 := hide (H1.out.next hb2)
  clear hb2 HCT H1 v0 v1 v2 v3 u0 u1 u2 u3
  by_cases hct : ct = 0
  case neg =>
    have h1 : (ct != 0) = true := by simpa using hct
    have HE2 : Hid (err = ct ∧ ¬ err = 0) := by have := HE.out; unfold errF at this; rw [if_pos hcp, if_neg hct] at this; exact ⟨this, by rw [this]; exact hct⟩
    clear hct hcp HE
    go_wp2_with fail
    exact bodyPost_ret (v := .tuple #[.slice none 0 0, .bool false, .int .i64 ct]) (by simp [results, Try.results32, go_sem]) rfl ⟨none, 0, 0, false, by rw [HE2.out.1], H2.out.1, fun _ => ⟨rfl, rfl⟩, fun b h => absurd h HE2.out.2⟩
  have h1 : (ct != 0) = false := by simp [hct]
  have HE1 : Hid (err = if cl && bd then 0 else 5) := by have := HE.out; unfold errF at this; rw [if_pos hcp, if_pos hct] at this; exact this
  clear hct hcp HE
  obtain ⟨⟨v0, v1, v2, v3⟩, u0, u1, u2, u3⟩ := H2.out.2.2
  go_wp2_with fail
  refine (HCL.out _ H2.out.1).mono ?_
  rintro e w3 ⟨rfl, hb3⟩
  have H3 := hide (H2.out.next hb3)
  clear hb3 HCL H2 v0 v1 v2 v3 u0 u1 u2 u3
  cases cl with
  | false =>
    have HE2 : Hid (err = 5 ∧ ¬ err = 0) := by have := HE1.out; simp at this; exact ⟨this, by rw [this]; decide⟩
    clear HE1
    go_wp2_with fail
    exact bodyPost_ret (v := .tuple #[.slice none 0 0, .bool false, .int .i64 5]) (by simp [results, Try.results32, go_sem]) rfl ⟨none, 0, 0, false, by rw [HE2.out.1], H3.out.1, fun _ => ⟨rfl, rfl⟩, fun b h => absurd h HE2.out.2⟩
  | true =>
  go_wp2_with fail
  refine (HBD.out _ H3.out.1).mono ?_
  rintro e w4 ⟨rfl, hb4⟩
  have H4 := hide (H3.out.next hb4)
  clear hb4 HBD H3
  cases bd with
  | false =>
    have HE2 : Hid (err = 5 ∧ ¬ err = 0) := by have := HE1.out; simp at this; exact ⟨this, by rw [this]; decide⟩
    clear HE1
    go_wp2_with fail
    exact bodyPost_ret (v := .tuple #[.slice none 0 0, .bool false, .int .i64 5]) (by simp [results, Try.results32, go_sem]) rfl ⟨none, 0, 0, false, by rw [HE2.out.1], H4.out.1, fun _ => ⟨rfl, rfl⟩, fun b h => absurd h HE2.out.2⟩
  | true =>
  have HE2 : Hid (err = 0) := by have := HE1.out; simp at this; exact this
  have HF2 := hide (HF.out HE2.out)
  have HC2 := hide (HC.out HE2.out)
  have HCN2 := hide (HCN.out rfl)
  clear HE1 HF HC HCN
  go_wp2_with fail
  refine (HCN2.out _ H4.out.1).mono ?_
  rintro e w5 ⟨g, c, rfl, H5a⟩
  have H5 := hide (H4.out.next H5a.out.1)
  have H5h : Hid (Has w4.heap.size g c b0 w5) := H5a.out.2
  have HW : Hid (w.heap.size ≤ w4.heap.size) := H4.out.1.size
  obtain ⟨⟨v0, v1, v2, v3⟩, u0, u1, u2, u3⟩ := H5.out.2.2
  clear H4 H5a HCN2
  go_wp2_with fail
  refine (HF2.out w5 w4.heap.size g c H5.out.1 HW.out H5h.out).mono ?_
  rintro e w6 h6
  have HB6 : Hid (Below w.heap.size w w6) := H5.out.1.trans (grown_below h6.2.1 (Nat.le_trans HW.out H5h.out.lt.1) H5h.out.lt.2)
  have H6h := hide h6.2.2
  obtain ⟨rfl, _, _⟩ := h6
  clear H5h HF2
  cases o with
  | none =>
    simp only [Option.isSome_none]
    go_wp2_with fail
    exact bodyPost_ret (v := .tuple #[.slice none 0 0, .bool false, .int .i64 0]) (by simp [results, Try.results32, go_sem]) rfl ⟨none, 0, 0, false, by rw [HE2.out], HB6.out, fun _ => ⟨rfl, rfl⟩, fun b _ h => by cases h⟩
  | some b =>
    simp only [Option.isSome_some]
    have HH := hide (H6h.out b rfl)
    have HCC := hide (HC2.out w6 _ g c b rfl HB6.out HH.out)
    clear H6h HC2
    go_wp2_with fail
    refine HCC.out.2.mono ?_
    rintro e w7 ⟨a1, c1, l1, rfl, H7⟩
    have HB7 : Hid (Below w.heap.size w w7) := HB6.out.trans (H7.out.1.mono HB6.out.size)
    go_wp2_with fail
    exact bodyPost_ret (v := .tuple #[.slice a1 4 c1, .bool true, .int .i64 0]) (by simp [results, Try.results32, go_sem]) rfl ⟨a1, 4, c1, true, by rw [HE2.out], HB7.out, fun h => absurd ⟨HE2.out, rfl⟩ h, fun b' _ e => by obtain rfl := Option.some.inj e; exact ⟨rfl, rfl, HCC.out.1, w6, l1, HB6.out.size, H7.out⟩⟩
end Go.Proofs.Ytpehdgbdinjbaaa
namespace Go.Proofs.Ytpehdgbdinjbaaa
open Go.RowKit

theorem errF_zero {cp ct : Int} {cl bd : Bool} (h : errF cp ct cl bd = 0) : cp = 0 ∧ ct = 0 ∧ cl = true ∧ bd = true := by
  unfold errF at h
  split at h
  · split at h
    · split at h
      · rename_i h1 h2 h3
        simp at h3
        exact ⟨h1, h2, h3.1, h3.2⟩
      · cases h
    · rename_i h1 h2; exact absurd h h2
  · rename_i h1; exact absurd h h1

theorem bnd_four {n : Nat} {q : List (Tm n)} (h : bndB n q = true) : q.length = 4 := by
  unfold bndB at h
  simp at h
  exact h.1
theorem bnd_right {n : Nat} {q : List (Tm n)} (h : bndB n q = true) : ∀ y ∈ anL n q, RightA y := by
  intro y hy
  simp only [anL, List.mem_map] at hy
  obtain ⟨x, hx, rfl⟩ := hy
  unfold bndB at h
  simp only [Bool.and_eq_true, List.all_eq_true] at h
  have h2 := h.2 x hx
  unfold okB at h2
  simp only [Bool.and_eq_true, beq_iff_eq] at h2
  exact chk_good n x h2.1
theorem lies_in {B : Nat} {w : World} {n : Nat} {q : List (Tm n)} {a : Option Addr} (h : Lies B w n q a) : ∀ y ∈ anL n q, InA B w y := by
  intro y hy
  simp only [anL, List.mem_map] at hy
  obtain ⟨x, hx, rfl⟩ := hy
  rcases h with h | ⟨b, o, _, _, h⟩
  · rw [h] at hx; cases hx
  · obtain ⟨i, hi⟩ := List.getElem?_of_mem hx
    exact (h i x hi).2
theorem lies_bnd {B : Nat} {w : World} {n : Nat} {q : List (Tm n)} {a : Option Addr} (h : Lies B w n q a) (k : bndB n q = true) : Bnd B w (anL n q) :=
  ⟨by rw [anL_length]; exact bnd_four k, fun y hy => ⟨lies_in h y hy, bnd_right k y hy⟩⟩

theorem mfits_any (n m o : Nat) (p : Tm n) (t : Tm m) (q : List (Tm o)) (a : Option Addr) (c B : Nat) (w : World) (hp : In B w n p) (ht : In B w m t) (hq : Lies B w o q a) (hB : B ≤ w.heap.size)
    (hNp : (nodes n p).length ≤ 2097152) (hNt : (nodes m t).length ≤ 2097152) (hNq : ∀ y ∈ q, (nodes o y).length ≤ 2097152) (hql : q.length ≤ 9223372036854775807) :
    Calls Try.prog 32 #[val n p, val m t, .slice a q.length c] w (FitOut (errF (chk n p) (chk m t) (closedB m t) (bndB o q)) (fit n p m t (anL o q)) w) := by
  cases n with
  | zero => exact hp.elim
  | succ n =>
  cases m with
  | zero => exact ht.elim
  | succ m =>
  refine mfits_walk w p.1.1 p.1.2.1 t.1.1 t.1.2.1 p.1.2.2 t.1.2.2 p.2.1.1 t.2.1.1 p.2.2.length p.2.1.2 t.2.2.length t.2.1.2 a q.length c _ _ _ _ _ (anL o q) ?_ ?_ ?_ ?_ ?_ ?_ ?_
  · exact fun w1 h1 => tcheck_any (n + 1) p B w1 (hp.below (h1.mono hB)) (Nat.le_trans hB h1.size) hNp
  · exact fun w1 h1 => tcheck_any (m + 1) t B w1 (ht.below (h1.mono hB)) (Nat.le_trans hB h1.size) hNt
  · intro w1 h1
    rw [← closed_eq]
    exact closed_any (m + 1) t B w1 (ht.below (h1.mono hB)) (Nat.le_trans hB h1.size)
  · exact fun w1 h1 => areB_any o q a c B w1 (hq.below (h1.mono hB)) hql hNq (Nat.le_trans hB h1.size)
  · intro hbd w1 h1
    have h4 := bnd_four hbd
    rcases hq with hq | ⟨pb, po, rfl, hb, hq⟩
    · rw [hq] at h4; simp at h4
    · have hc := clone_list o q 4 pb po c w1 h4 (by decide) (by decide) (fun w2 h2 => held_cells fun i y hy => ((hq i y hy).1.below (h1.mono hB) hb).below (h2.mono (Nat.le_trans hB h1.size)) hb)
      rw [h4]
      exact hc
  · intro he w1 base g c1 h1 hba hh
    obtain ⟨e1, e2, e3, e4⟩ := errF_zero he
    exact fits_any (n + 1) p (m + 1) t (anL o q) base g c1 B w1 (hp.below (h1.mono hB)) (ht.below (h1.mono hB)) (chk_good _ _ e1) (chk_good _ _ e2) ((lies_bnd hq e4).below (h1.mono hB)) (Nat.le_trans hB hba) hh
  · intro he w1 base g c1 b hf h1 hh
    obtain ⟨e1, e2, e3, e4⟩ := errF_zero he
    have hb1 := ((lies_bnd hq e4).fit ht (chk_good _ _ e2) hf).below (h1.mono hB)
    have hl := uni_lies hh (fun y hy => (hb1.2 y hy).1) (Nat.le_trans hB h1.size)
    have hlen : (uni b).length = 4 := by simp [uni, hb1.1]
    have hc := copyAll_any (top b) (copy_any _) (uni b) (some ⟨g, 0, none⟩) c1 w1.heap.size w1 hl (by omega) (uni_right fun y hy => ⟨(hb1.2 y hy).2, fun h0 => by
      have hin := (hb1.2 y hy).1
      obtain ⟨n', x⟩ := y
      simp only at h0
      subst h0
      exact hin.elim⟩) (Nat.le_refl _)
    rw [hlen] at hc
    exact ⟨hb1.1, hc⟩
end Go.Proofs.Ytpehdgbdinjbaaa
namespace Go.Proofs.Ytpehdgbdinjbaaa
open Go.RowKit

def pr8 (x : An × An) : List Value := nd4 (ndA x.1) ++ nd4 (ndA x.2)
def prCells (l : List (An × An)) : List Value := l.flatMap pr8
theorem prCells_length (l : List (An × An)) : (prCells l).length = l.length * 8 := by
  induction l with
  | nil => rfl
  | cons a l ih =>
    have : prCells (a :: l) = pr8 a ++ prCells l := rfl
    rw [this, List.length_append, ih, List.length_cons]
    have : (pr8 a).length = 8 := rfl
    omega
theorem prCells_append (l r : List (An × An)) : prCells (l ++ r) = prCells l ++ prCells r := by simp [prCells]
theorem prCells_one (l : List (An × An)) : ∀ u ∈ prCells l, u.oneCell' = true := by
  intro u hu
  simp only [prCells, List.mem_flatMap] at hu
  obtain ⟨a, _, hu⟩ := hu
  simp [pr8, nd4] at hu
  rcases hu with rfl | rfl | rfl | rfl | rfl | rfl | rfl | rfl <;> rfl

/-- What is good of a pair. -/
def PrIn (B : Nat) (w : World) (x : An × An) : Prop := (InA B w x.1 ∧ RightA x.1) ∧ InA B w x.2 ∧ RightA x.2
/-- The pairs lie there, in another block than g. -/
def TdAt (B g : Nat) (w : World) (td : List (An × An)) (ta : Option Addr) : Prop :=
  (∀ x ∈ td, PrIn B w x) ∧ (td = [] ∨ ∃ h o, ta = some ⟨h, o, none⟩ ∧ B ≤ h ∧ h < w.heap.size ∧ h ≠ g ∧ ∀ j u, (prCells td)[j]? = some u → w.cell? ⟨h, o + j, none⟩ = some u)
theorem TdAt.grown {B g : Nat} {w w' : World} {td : List (An × An)} {ta : Option Addr} (h : TdAt B g w td ta) (hg : w.grownBy w' (some g)) (hB : B ≤ g) (hgw : g < w.heap.size) : TdAt B g w' td ta := by
  obtain ⟨h1, h2⟩ := h
  have hb := grown_below hg hB hgw
  refine ⟨fun x hx => ⟨⟨(h1 x hx).1.1.below hb, (h1 x hx).1.2⟩, (h1 x hx).2.1.below hb, (h1 x hx).2.2⟩, ?_⟩
  rcases h2 with h2 | ⟨b, o, e, k1, k2, k3, k4⟩
  · exact Or.inl h2
  · exact Or.inr ⟨b, o, e, k1, Nat.lt_of_lt_of_le k2 hg.size, k3, fun j u hj => (grown_cells hg b (o + j) k2 k3).trans (k4 j u hj)⟩
/-- The first pair's eight cells. -/
theorem TdAt.first {B g : Nat} {w : World} {x : An × An} {td : List (An × An)} {ta : Option Addr} (h : TdAt B g w (x :: td) ta) : ∃ h o, ta = some ⟨h, o, none⟩ ∧ B ≤ h ∧ h < w.heap.size ∧ h ≠ g ∧
    (w.cell? ⟨h, o, none⟩ = some (.int .i64 (ndA x.1).1.1) ∧ w.cell? ⟨h, o + 1, none⟩ = some (.int .i64 (ndA x.1).1.2.1) ∧ w.cell? ⟨h, o + 2, none⟩ = some (.string (ndA x.1).1.2.2) ∧ w.cell? ⟨h, o + 3, none⟩ = some (.slice (ndA x.1).2.1 (ndA x.1).2.2.1 (ndA x.1).2.2.2)) ∧
    (w.cell? ⟨h, o + 4, none⟩ = some (.int .i64 (ndA x.2).1.1) ∧ w.cell? ⟨h, o + 4 + 1, none⟩ = some (.int .i64 (ndA x.2).1.2.1) ∧ w.cell? ⟨h, o + 4 + 2, none⟩ = some (.string (ndA x.2).1.2.2) ∧ w.cell? ⟨h, o + 4 + 3, none⟩ = some (.slice (ndA x.2).2.1 (ndA x.2).2.2.1 (ndA x.2).2.2.2)) := by
  rcases h.2 with h2 | ⟨b, o, e, k1, k2, k3, k4⟩
  · cases h2
  · have e0 : prCells (x :: td) = pr8 x ++ prCells td := rfl
    rw [e0] at k4
    have hc : ∀ j v, (pr8 x)[j]? = some v → w.cell? ⟨b, o + j, none⟩ = some v := fun j v hv => k4 j v (by
      rw [List.getElem?_append_left (List.getElem?_eq_some_iff.1 hv).1]; exact hv)
    exact ⟨b, o, e, k1, k2, k3, ⟨hc 0 _ rfl, hc 1 _ rfl, hc 2 _ rfl, hc 3 _ rfl⟩, hc 4 _ rfl, hc 5 _ rfl, hc 6 _ rfl, hc 7 _ rfl⟩
/-- What is left, behind the first. -/
theorem TdAt.rest {B g : Nat} {w : World} {x : An × An} {td : List (An × An)} {h o cap : Nat} (k : TdAt B g w (x :: td) (some ⟨h, o, none⟩)) (hcap : td.length + 1 ≤ cap) :
    TdAt B g w td (if cap = 1 then some ⟨h, o, none⟩ else some ⟨h, o + 8, none⟩) := by
  refine ⟨fun y hy => k.1 y (List.mem_cons_of_mem _ hy), ?_⟩
  by_cases hc : cap = 1
  · exact Or.inl (List.eq_nil_of_length_eq_zero (by omega))
  · rw [if_neg hc]
    rcases k.2 with h2 | ⟨b, o', e, k1, k2, k3, k4⟩
    · cases h2
    · simp at e
      obtain ⟨rfl, rfl⟩ := e
      refine Or.inr ⟨h, o + 8, rfl, k1, k2, k3, fun j u hj => ?_⟩
      have e0 : prCells (x :: td) = pr8 x ++ prCells td := rfl
      have := k4 (8 + j) u (by rw [e0, List.getElem?_append_right (by show 8 ≤ 8 + j; omega)]; show (prCells td)[8 + j - 8]? = some u; rw [Nat.add_sub_cancel_left]; exact hj)
      rw [show o + 8 + j = o + (8 + j) by omega]
      exact this

/-- How much is still to be asked. -/
def todoN (td : List (An × An)) : Nat := (td.map fun x => (nodes x.1.1 x.1.2).length).sum
theorem todo_pairs (n m : Nat) (p : List (Tm n)) (q : List (Tm m)) (r : List (An × An)) : todoN (pairs n m p q ++ r) ≤ (p.flatMap fun y => nodes n y).length + todoN r := by
  induction p generalizing q with
  | nil => simp [pairs, todoN]
  | cons x p ih =>
    cases q with
    | nil => simp [pairs, todoN]
    | cons y q =>
      have := ih q
      simp only [pairs, List.zipWith_cons_cons, List.cons_append, todoN, List.map_cons, List.sum_cons, List.flatMap_cons, List.length_append] at this ⊢
      omega
theorem pairs_in {B : Nat} {w : World} {n m : Nat} {x : Tm (n + 1)} {y : Tm (m + 1)} (h : PrIn B w (⟨n + 1, x⟩, ⟨m + 1, y⟩)) : ∀ z ∈ pairs n m x.2.2 y.2.2, PrIn B w z := by
  intro z hz
  simp only [pairs] at hz
  obtain ⟨i, hi⟩ := List.getElem?_of_mem hz
  rw [List.getElem?_zipWith] at hi
  cases h1 : x.2.2[i]? with
  | none => rw [h1] at hi; simp at hi
  | some a =>
    cases h2 : y.2.2[i]? with
    | none => rw [h1, h2] at hi; simp at hi
    | some b =>
      rw [h1, h2] at hi
      simp at hi
      subst hi
      exact ⟨⟨parts_in B w n x a h.1.1 (List.mem_of_getElem? h1), parts_right n x a h.1.2 (List.mem_of_getElem? h1)⟩, parts_in B w m y b h.2.1 (List.mem_of_getElem? h2), parts_right m y b h.2.2 (List.mem_of_getElem? h2)⟩
end Go.Proofs.Ytpehdgbdinjbaaa
