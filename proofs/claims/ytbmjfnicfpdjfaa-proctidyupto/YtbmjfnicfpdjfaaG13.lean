/- What is proved here: plain facts and contracts that the claimed theorem stands on, several texts in one: plain facts: what fits, fits also what is the same but for addresses, and binds the same. No condition. match.bindings' fitAll and fits, of right terms that lie in memory and four right terms that are owned: they return whether the plain functions find something, leave that in the owned row, and turn no other memory that was there. No condition but those. match.bindings' fits, of right terms that lie in memory and four right terms that are owned: it returns whether the plain function fit finds something, leaves that in the owned row, and turns no other memory that was there. No condition but those. match.Fits of two terms and a list of terms that lie in memory returns what the plain functions say: the error of what isn't right, or whether the pattern fits, and then copies of what is bound; it turns no memory that was there. Condition: at most 2097152 terms in each. match.Fits of two terms and a list of terms that lie in memory returns what the plain functions say: the error of what isn't right, or whether the pattern fits, and then copies of what is bound; it turns no memory that was there. Condition: at most 2097152 terms in each. match.Fits of two terms and a list of terms that lie in memory returns what the plain functions say. Condition: at most 2097152 terms in each. plain facts on what fits: who was bound stays so; with what is bound put in, the pattern fits just so, is right, and, where it is closed, is what fits. No condition. -/
import Derived.Test.YtbmjfnicfpdjfaaG06
import Derived.Test.YtbmjfnicfpdjfaaG05
import Derived.Test.YtbmjfnicfpdjfaaG08
import Derived.Lib.SliceRun
namespace Go.Proofs.Ytbmjfnicfpdjfaa
open Go.RowKit

theorem same_eq2 {n m n' m' : Nat} {x : Tm n} {y : Tm m} {x' : Tm n'} {y' : Tm m'} (h : same n x n' x' = true) (k : same m y m' y' = true) : same n x m y = same n' x' m' y' := by
  cases e : same n' x' m' y' with
  | true => exact same_trans _ _ _ _ _ _ h (same_trans _ _ _ _ _ _ e (same_symm _ _ _ _ k))
  | false =>
    cases e2 : same n x m y with
    | false => rfl
    | true =>
      have h2 := same_trans _ _ _ _ _ _ (same_symm _ _ _ _ h) (same_trans _ _ _ _ _ _ e2 k)
      rw [e] at h2
      cases h2
/-- Both are none, or both are there and hold the same. -/
def sameO : Option (List An) → Option (List An) → Prop
  | none, none => True
  | some b, some c => sameL sameA b c = true
  | _, _ => False
theorem kind_alike {x y : An} (h : sameA x y = true) : kindA x = kindA y := by
  obtain ⟨n, x⟩ := x
  obtain ⟨m, y⟩ := y
  cases n with
  | zero => simp [sameA, same] at h
  | succ n =>
    cases m with
    | zero => simp [sameA, same] at h
    | succ m =>
      simp only [sameA, same, Bool.and_eq_true, beq_iff_eq] at h
      exact h.1.1.1
theorem alikeL_set {α β : Type} {f : α → β → Bool} {a : α} {b : β} (hab : f a b = true) : (p : List α) → (q : List β) → (i : Nat) → sameL f p q = true → sameL f (p.set i a) (q.set i b) = true
  | [], [], _, _ => by simp [sameL]
  | [], _ :: _, _, h => by simp [sameL] at h
  | _ :: _, [], _, h => by simp [sameL] at h
  | x :: p, y :: q, 0, h => by
    simp only [sameL, Bool.and_eq_true] at h
    simp [sameL, hab, h.2]
  | x :: p, y :: q, i + 1, h => by
    simp only [sameL, Bool.and_eq_true] at h
    simp [sameL, h.1, alikeL_set hab p q i h.2]
theorem fitV_alike {b c : List An} {i : Nat} {t u : An} (hb : sameL sameA b c = true) (ht : sameA t u = true) : sameO (fitV b i t) (fitV c i u) := by
  have hl := sameL_length _ _ _ hb
  unfold fitV
  cases e : b[i]? with
  | none =>
    have e2 : c[i]? = none := by
      rw [List.getElem?_eq_none_iff] at e ⊢
      omega
    rw [e2]
    trivial
  | some y =>
    obtain ⟨h1, e1⟩ := List.getElem?_eq_some_iff.1 e
    have e2 : c[i]? = some c[i] := List.getElem?_eq_getElem (by omega)
    rw [e2]
    have hy : sameA y c[i] = true := sameL_at _ _ _ hb i _ _ e e2
    simp only
    rw [← kind_alike hy]
    by_cases h6 : kindA y = 6
    · rw [if_pos h6, if_pos h6]
      exact alikeL_set ht _ _ _ hb
    · rw [if_neg h6, if_neg h6]
      have he : sameA y t = sameA c[i] u := same_eq2 hy ht
      rw [← he]
      cases sameA y t
      · simp [sameO]
      · simpa [sameO] using hb
theorem fitL_alike {α β α' β' : Type} (f : α → β → List An → Option (List An)) (g : α' → β' → List An → Option (List An)) (P : α → α' → Bool) (Q : β → β' → Bool) :
    (p : List α) → (q : List β) → (p' : List α') → (q' : List β') → (∀ x ∈ p, ∀ y ∈ q, ∀ x' y' b c, P x x' = true → Q y y' = true → sameL sameA b c = true → sameO (f x y b) (g x' y' c)) → sameL P p p' = true → sameL Q q q' = true → ∀ b c, sameL sameA b c = true → sameO (fitL f p q b) (fitL g p' q' c)
  | [], _, p', _, _, hp, _, b, c, hb => by
    cases p' with
    | nil => simpa [fitL, sameO] using hb
    | cons _ _ => simp [sameL] at hp
  | x :: p, [], p', q', _, hp, hq, b, c, hb => by
    cases q' with
    | nil => cases p' <;> simpa [fitL, sameO] using hb
    | cons _ _ => simp [sameL] at hq
  | x :: p, y :: q, p', q', hf, hp, hq, b, c, hb => by
    cases p' with
    | nil => simp [sameL] at hp
    | cons x' p' =>
      cases q' with
      | nil => simp [sameL] at hq
      | cons y' q' =>
        simp only [sameL, Bool.and_eq_true] at hp hq
        have h1 := hf x (by simp) y (by simp) x' y' b c hp.1 hq.1 hb
        simp only [fitL]
        cases e1 : f x y b with
        | none =>
          rw [e1] at h1
          cases e2 : g x' y' c with
          | none => simp [sameO]
          | some _ => rw [e2] at h1; exact h1.elim
        | some d =>
          rw [e1] at h1
          cases e2 : g x' y' c with
          | none => rw [e2] at h1; exact h1.elim
          | some d' =>
            rw [e2] at h1
            simp only [Option.bind_some]
            exact fitL_alike f g P Q p q p' q' (fun x hx y hy => hf x (by simp [hx]) y (by simp [hy])) hp.2 hq.2 d d' h1
theorem fit_alike : (n : Nat) → (p : Tm n) → (m : Nat) → (t : Tm m) → (n' : Nat) → (p' : Tm n') → (m' : Nat) → (t' : Tm m') → (b c : List An) → same n p n' p' = true → same m t m' t' = true → sameL sameA b c = true → sameO (fit n p m t b) (fit n' p' m' t' c)
  | 0, _, _, _, _, _, _, _, _, _, h, _, _ => by simp [same] at h
  | _ + 1, _, _, _, 0, _, _, _, _, _, h, _, _ => by simp [same] at h
  | _ + 1, _, 0, _, _ + 1, _, _, _, _, _, _, h, _ => by simp [same] at h
  | _ + 1, _, _ + 1, _, _ + 1, _, 0, _, _, _, _, h, _ => by simp [same] at h
  | n + 1, p, m + 1, t, n' + 1, p', m' + 1, t', b, c, hp, ht, hb => by
    have hp0 := hp
    have ht0 := ht
    simp only [same, Bool.and_eq_true, beq_iff_eq] at hp ht
    obtain ⟨⟨⟨p1, p2⟩, p3⟩, p4⟩ := hp
    obtain ⟨⟨⟨t1, t2⟩, t3⟩, t4⟩ := ht
    unfold fit
    rw [← p1, ← p2, ← t1, ← sameL_length _ _ _ p4, ← sameL_length _ _ _ t4]
    by_cases h6 : p.1.1 = 6
    · rw [if_pos h6, if_pos h6]
      exact hb
    · rw [if_neg h6, if_neg h6]
      by_cases h5 : p.1.1 = 5
      · rw [if_pos h5, if_pos h5]
        exact fitV_alike hb ht0
      · rw [if_neg h5, if_neg h5]
        by_cases h4 : p.1.1 = 4
        · rw [if_pos h4, if_pos h4]
          by_cases h7 : t.1.1 = 4 ∧ p.2.2.length = t.2.2.length
          · rw [if_pos h7, if_pos h7]
            exact fitL_alike _ _ (fun x y => same n x n' y) (fun x y => same m x m' y) p.2.2 t.2.2 p'.2.2 t'.2.2 (fun x _ y _ x' y' b c h1 h2 h3 => fit_alike n x m y n' x' m' y' b c h1 h2 h3) p4 t4 b c hb
          · rw [if_neg h7, if_neg h7]
            trivial
        · rw [if_neg h4, if_neg h4, ← same_eq2 hp0 ht0]
          cases same (n + 1) p (m + 1) t
          · simp [sameO]
          · simpa [sameO] using hb
end Go.Proofs.Ytbmjfnicfpdjfaa
namespace Go.Proofs.Ytbmjfnicfpdjfaa
open Go.RowKit

theorem grown_cells {w w' : World} {g : Nat} (h : w.grownBy w' (some g)) : ∀ b o, b < w.heap.size → b ≠ g → w'.cell? ⟨b, o, none⟩ = w.cell? ⟨b, o, none⟩ :=
  fun b o hb hne => World.cell?_of_block (a := ⟨b, o, none⟩) (h.block b hb (by simpa using hne))
theorem grown_undrew {w w' : World} {row : Option Nat} (h : w.drew.grownBy w' row) : w.grownBy w' row := ⟨h.os, h.tape, h.output, h.size, h.block⟩
theorem grown_drew {w w' : World} {row : Option Nat} (h : w.grownBy w' row) : w.grownBy w'.drew row := ⟨h.os, h.tape, h.output, h.size, h.block⟩

theorem fitAll_ne (p q : Nat) (a a' : Option Addr) (pc qc : Nat) (g c : Nat) (base : Nat) (w : World) (_hpc : p ≤ 9223372036854775807) (_hqc : q ≤ 9223372036854775807) (hl : ((p : Int) == (q : Int)) = false) :
    Calls Try.prog 89 #[.slice (some ⟨g, 0, none⟩) 4 c, .slice a p pc, .slice a' q qc] w (FitPost base g c none w) := by
  have hl' : ((p : Int) != (q : Int)) = true := by simpa using hl
  go_enter Try.func89, Try.ntmps89
  go_wp2_with fail
  go_ret
  exact ⟨rfl, World.grownBy.refl _ _, fun b e => by cases e⟩

theorem fitAll_nil (a a' : Option Addr) (pc qc : Nat) (g c : Nat) (base : Nat) (b : List An) (w : World) (H : Has base g c b w) :
    Calls Try.prog 89 #[.slice (some ⟨g, 0, none⟩) 4 c, .slice a 0 pc, .slice a' 0 qc] w (FitPost base g c (some b) w) := by
  have HH := hide H
  clear H
  go_enter Try.func89, Try.ntmps89
  go_wp2_with fail
  go_loop [16] (fun i => i = .int .i64 0) (fun _ => 0)
  case atStart => rfl
  case round =>
    obtain rfl := hrel
    go_wp2_with fail
    go_ret
    exact ⟨rfl, World.grownBy.refl _ _, fun b' e => by obtain rfl := Option.some.inj e; exact HH.out⟩

set_option maxHeartbeats 1000000 in
theorem fitAll_eq (n m : Nat) (ih : FFit n) (p : List (Tm n)) (q : List (Tm m)) (len : Nat) (hpl : Hid (p.length = len)) (hql : Hid (q.length = len)) (pb po qb qo pc qc : Nat) (b : List An) (base g c B : Nat) (w : World)
    (hlen : len ≤ 9223372036854775807) (hpb : pb < B) (hqb : qb < B)
    (hp : ∀ (i : Nat) (y : Tm n), p[i]? = some y → Held w pb (po + i * 4) n y ∧ In B w n y)
    (hq : ∀ (i : Nat) (y : Tm m), q[i]? = some y → Held w qb (qo + i * 4) m y ∧ In B w m y)
    (hrp : ∀ y ∈ p, RightA ⟨n, y⟩) (hrq : ∀ y ∈ q, RightA ⟨m, y⟩) (hb : Hid (Bnd B w b)) (hB : B ≤ base) (H : Hid (Has base g c b w)) :
    Calls Try.prog 89 #[.slice (some ⟨g, 0, none⟩) 4 c, .slice (some ⟨pb, po, none⟩) len pc, .slice (some ⟨qb, qo, none⟩) len qc] w (FitPost base g c (fitL (fun x y b => fit n x m y b) p q b) w) := by
  have hg1 : B ≤ g := Nat.le_trans hB H.out.lt.1
  have hg2 : g < w.heap.size := H.out.lt.2
  go_enter Try.func89, Try.ntmps89
  go_wp2_with fail
  go_loopw [16] (fun i wr => ∃ k : Nat, k ≤ len ∧ i = .int .i64 k ∧ Hid (w.grownBy wr (some g) ∧ ∃ b', Has base g c b' wr ∧ Bnd B wr b' ∧ fitL (fun x y b => fit n x m y b) (p.drop k) (q.drop k) b' = fitL (fun x y b => fit n x m y b) p q b)) (fun i _ => len - (intOf i).toNat)
  case atStart => exact ⟨0, by omega, rfl, World.grownBy.refl _ _, b, H.out, hb.out, rfl⟩
  case round =>
    obtain ⟨k, hk, rfl, HR⟩ := hrel
    by_cases hlt : k < len
    · obtain ⟨x, hx⟩ : ∃ x, p[k]? = some x := ⟨p[k]'(by rw [hpl.out]; exact hlt), List.getElem?_eq_getElem _⟩
      obtain ⟨y, hy⟩ : ∃ y, q[k]? = some y := ⟨q[k]'(by rw [hql.out]; exact hlt), List.getElem?_eq_getElem _⟩
      obtain ⟨HG, b', HH, HN, HF⟩ : Hid (w.grownBy wr (some g)) ∧ ∃ b', Hid (Has base g c b' wr) ∧ Hid (Bnd B wr b') ∧ Hid (fitL (fun x y b => fit n x m y b) (p.drop k) (q.drop k) b' = fitL (fun x y b => fit n x m y b) p q b) := HR.out
      clear HR
      obtain ⟨hx1, hx2⟩ := hp k x hx
      obtain ⟨hy1, hy2⟩ := hq k y hy
      have HS := hide (fitL_drop (fun x y b => fit n x m y b) p q k x y hx hy b')
      have HRX := hide (hrp x (List.mem_of_getElem? hx))
      have HRY := hide (hrq y (List.mem_of_getElem? hy))
      have hbw := grown_below HG.out hg1 hg2
      replace hx1 := hx1.below hbw hpb
      replace hy1 := hy1.below hbw hqb
      replace hx2 := hx2.below hbw
      replace hy2 := hy2.below hbw
      have hgr : g < wr.heap.size := Nat.lt_of_lt_of_le hg2 HG.out.size
      have hB' : B ≤ wr.heap.size := by omega
      clear hp hq hx hy hrp hrq hb H hbw
      cases n with
      | zero => exact hx1.elim
      | succ n =>
      cases m with
      | zero => exact hy1.elim
      | succ m =>
      obtain ⟨x0, x1, x2, x3⟩ := hx1
      obtain ⟨y0, y1, y2, y3⟩ := hy1
      have HC : Hid (∀ (w1 : World), Below wr.heap.size wr w1 → Calls Try.prog 74 #[.slice (some ⟨g, 0, none⟩) 4 c, .agg #[.int .i64 x.1.1, .int .i64 x.1.2.1, .string x.1.2.2, .slice x.2.1.1 x.2.2.length x.2.1.2], .agg #[.int .i64 y.1.1, .int .i64 y.1.2.1, .string y.1.2.2, .slice y.2.1.1 y.2.2.length y.2.1.2]] w1 (FitPost base g c (fit (n + 1) x (m + 1) y b') w1)) :=
        fun w1 h1 => ih x (m + 1) y b' base g c B w1 (hx2.below (h1.mono hB')) (hy2.below (h1.mono hB')) HRX.out HRY.out (HN.out.below (h1.mono hB')) hB (HH.out.below h1)
      have HK : Hid (∀ r b2, fit (n + 1) x (m + 1) y b' = r → r = some b2 → Bnd B wr b2) := fun r b2 e1 e2 => HN.out.fit hy2 HRY.out (e1.trans e2)
      clear ih hx2 hy2 HRX HRY HN
      replace HS : Hid (fitL (fun x y b => fit (n + 1) x (m + 1) y b) (p.drop k) (q.drop k) b' = (fit (n + 1) x (m + 1) y b').bind (fitL (fun x y b => fit (n + 1) x (m + 1) y b) (p.drop (k + 1)) (q.drop (k + 1)))) := HS
      generalize fit (n + 1) x (m + 1) y b' = r at *
      generalize x.2.2.length = xl at *
      generalize y.2.2.length = yl at *
      have hk1 : (0 : Int) ≤ (k : Int) := by omega
      have hk2 : (k : Int) < (len : Int) := by omega
      have hpw : pb < wr.heap.size := by omega
      have hqw : qb < wr.heap.size := by omega
      have hqw1 : qb < wr.heap.size + 1 := by omega
      have hqg : qb ≠ g := by omega
      have hwg : wr.heap.size ≠ g := by omega
      have HCD := hide (HC.out (wr.alloc (.cells #[.int .i64 x.1.1, .int .i64 x.1.2.1, .string x.1.2.2, .slice x.2.1.1 xl x.2.1.2] 25)).drew (((Below.refl _ _).alloc (Nat.le_refl _) _).drew))
      clear HC
      go_wp2_with fail
      go_region_held3 (fun w' => w'.cell? ⟨wr.heap.size, 0, none⟩ = some (.int .i64 x.1.1) ∧ w'.cell? ⟨wr.heap.size, 1, none⟩ = some (.int .i64 x.1.2.1) ∧ w'.cell? ⟨wr.heap.size, 2, none⟩ = some (.string x.1.2.2) ∧ w'.cell? ⟨wr.heap.size, 3, none⟩ = some (.slice x.2.1.1 xl x.2.1.2)
          ∧ w'.cell? ⟨qb, qo + k * 4, none⟩ = some (.int .i64 y.1.1) ∧ w'.cell? ⟨qb, qo + k * 4 + 1, none⟩ = some (.int .i64 y.1.2.1) ∧ w'.cell? ⟨qb, qo + k * 4 + 2, none⟩ = some (.string y.1.2.2) ∧ w'.cell? ⟨qb, qo + k * 4 + 3, none⟩ = some (.slice y.2.1.1 yl y.2.1.2))
        (go_keep) ((go_at_call 74; refine HCD.out.mono ?_; rintro e w1 ⟨rfl, hgr1, hhas1⟩; have hcc := grown_cells (grown_undrew hgr1); have HG1 := hide (grown_undrew hgr1); have HH1 := hide hhas1; clear hgr1 hhas1))
      have HG2 : Hid (w.grownBy w1 (some g)) := grown_trans HG.out (grown_trans (World.grownBy_alloc wr _ _) HG1.out)
      clear hcc
      cases r with
      | some b2 =>
        have HN2 : Hid (Bnd B w1 b2) := (HK.out _ b2 rfl rfl).below ((((Below.refl _ _).alloc (Nat.le_refl _) _).mono hB').trans (grown_below HG1.out hg1 (by simp; omega)))
        clear HK
        simp only [Option.isSome_some]
        go_wp2_with fail
        go_roundw
        case rel => exact ⟨k + 1, by omega, by go_num, HG2.out, b2, HH1.out b2 rfl, HN2.out, by rw [← HF.out, HS.out]; rfl⟩
        case measure => simp [intOf]; omega
      | none =>
        clear HK
        simp only [Option.isSome_none]
        go_wp2_with fail
        go_ret
        have ho : fitL (fun x y b => fit (n + 1) x (m + 1) y b) p q b = none := by rw [← HF.out, HS.out]; rfl
        rw [ho]
        exact ⟨rfl, HG2.out, fun b' e => by cases e⟩
    · obtain ⟨HG, b', HH, HN, HF⟩ : Hid (w.grownBy wr (some g)) ∧ ∃ b', Hid (Has base g c b' wr) ∧ Hid (Bnd B wr b') ∧ Hid (fitL (fun x y b => fit n x m y b) (p.drop k) (q.drop k) b' = fitL (fun x y b => fit n x m y b) p q b) := HR.out
      clear HR
      go_wp2_with fail
      go_ret
      have ho : fitL (fun x y b => fit n x m y b) p q b = some b' := by rw [← HF.out, List.drop_eq_nil_of_le (by rw [hpl.out]; omega)]; rfl
      rw [ho]
      exact ⟨rfl, HG.out, fun b2 e => by obtain rfl := Option.some.inj e; exact HH.out⟩
end Go.Proofs.Ytbmjfnicfpdjfaa
namespace Go.Proofs.Ytbmjfnicfpdjfaa
open Go.RowKit

theorem fitAll_any (n m : Nat) (ih : FFit n) (p : List (Tm n)) (q : List (Tm m)) (a a' : Option Addr) (pc qc : Nat) (b : List An) (base g c B : Nat) (w : World)
    (hp : p = [] ∨ ∃ b o, a = some ⟨b, o, none⟩ ∧ b < B ∧ ∀ (i : Nat) (y : Tm n), p[i]? = some y → Held w b (o + i * 4) n y ∧ In B w n y)
    (hq : q = [] ∨ ∃ b o, a' = some ⟨b, o, none⟩ ∧ b < B ∧ ∀ (i : Nat) (y : Tm m), q[i]? = some y → Held w b (o + i * 4) m y ∧ In B w m y)
    (hpl : p.length ≤ 9223372036854775807) (hql : q.length ≤ 9223372036854775807) (hrp : ∀ y ∈ p, RightA ⟨n, y⟩) (hrq : ∀ y ∈ q, RightA ⟨m, y⟩) (hb : Bnd B w b) (hB : B ≤ base) (H : Has base g c b w) :
    Calls Try.prog 89 #[.slice (some ⟨g, 0, none⟩) 4 c, .slice a p.length pc, .slice a' q.length qc] w (FitPost base g c (if p.length = q.length then fitL (fun x y b => fit n x m y b) p q b else none) w) := by
  by_cases hl : p.length = q.length
  · rw [if_pos hl]
    rcases hp with hp | ⟨pb, po, rfl, hpb, hp⟩
    · subst hp
      have hq0 : q = [] := List.eq_nil_of_length_eq_zero hl.symm
      subst hq0
      exact fitAll_nil a a' pc qc g c base b w H
    · rcases hq with hq | ⟨qb, qo, rfl, hqb, hq⟩
      · subst hq
        have hp0 : p = [] := List.eq_nil_of_length_eq_zero hl
        subst hp0
        exact fitAll_nil _ a' pc qc g c base b w H
      · have h := fitAll_eq n m ih p q p.length rfl hl.symm pb po qb qo pc qc b base g c B w (by omega) hpb hqb hp hq hrp hrq hb hB H
        rw [← hl]
        exact h
  · rw [if_neg hl]
    exact fitAll_ne p.length q.length a a' pc qc g c base w hpl hql (by simp; omega)

theorem FitPost.from {base g c : Nat} {o : Option (List An)} {w w1 : World} (h : w.grownBy w1 (some g)) {e : Ending} {w2 : World} (k : FitPost base g c o w1 e w2) : FitPost base g c o w e w2 :=
  ⟨k.1, grown_trans h k.2.1, k.2.2⟩

set_option maxHeartbeats 1000000 in
theorem fits_walk (k u k' u' : Int) (s s' : ByteArray) (a a' : Option Addr) (l l' pc qc : Nat) (base g c : Nat) (b : List An) (o1 o2 : Option (List An)) (sm : Bool) (w : World) (HH : Hid (Has base g c b w))
    (HV : Hid (k = 5 → ∀ w1, Below w.heap.size w w1 → Calls Try.prog 88 #[.slice (some ⟨g, 0, none⟩) 4 c, .int .i64 u, .agg #[.int .i64 k', .int .i64 u', .string s', .slice a' l' qc]] w1 (FitPost base g c o1 w1)))
    (HA : Hid (∀ w1, Below w.heap.size w w1 → Calls Try.prog 89 #[.slice (some ⟨g, 0, none⟩) 4 c, .slice a l pc, .slice a' l' qc] w1 (FitPost base g c o2 w1)))
    (HO : Hid (∀ w1, Below w.heap.size w w1 → Calls Try.prog 90 #[.agg #[.int .i64 k, .int .i64 u, .string s, .slice a l pc], .agg #[.int .i64 k', .int .i64 u', .string s', .slice a' l' qc]] w1 fun e w' => ∃ r, e = .returned (.int .i64 r) ∧ Hid ((r == 0) = sm) ∧ Below w1.heap.size w1 w')) :
    Calls Try.prog 74 #[.slice (some ⟨g, 0, none⟩) 4 c, .agg #[.int .i64 k, .int .i64 u, .string s, .slice a l pc], .agg #[.int .i64 k', .int .i64 u', .string s', .slice a' l' qc]] w
      (FitPost base g c (if k = 6 then some b else if k = 5 then o1 else if k = 4 then (if k' = 4 then o2 else none) else if sm then some b else none) w) := by
  have hbx : ∀ o1 o2, Below w.heap.size w ((w.alloc o1).alloc o2) := fun o1 o2 => ((Below.refl _ _).alloc (Nat.le_refl _) _).alloc (by simp) _
  have HBX := hide hbx
  clear hbx
  by_cases h6 : k = 6
  · rw [if_pos h6]
    subst h6
    go_enter Try.func74, Try.ntmps74
    go_wp2_with fail
    go_ret
    exact ⟨rfl, grown_of_below (HBX.out _ _) _, fun b' e => by obtain rfl := Option.some.inj e; exact HH.out.below (HBX.out _ _)⟩
  rw [if_neg h6]
  have e6 : (k == 6) = false := by simpa using h6
  by_cases h5 : k = 5
  · rw [if_pos h5]
    have HV' := hide (HV.out h5)
    have e5 : (k == 5) = true := by simpa using h5
    clear h5 h6 HV
    go_enter Try.func74, Try.ntmps74
    go_wp2_with fail
    refine (HV'.out _ (HBX.out _ _)).mono ?_
    rintro e w1 h1
    have H1 := hide (FitPost.from (grown_of_below (HBX.out _ _) _) h1)
    obtain ⟨rfl, _, _⟩ := h1
    go_wp2_with fail
    go_ret
    exact H1.out
  rw [if_neg h5]
  have e5 : (k == 5) = false := by simpa using h5
  by_cases h4 : k = 4
  · rw [if_pos h4]
    have e4 : (k == 4) = true := by simpa using h4
    clear h5 h6 HV
    by_cases h4' : k' = 4
    · rw [if_pos h4']
      have e4' : (k' == 4) = true := by simpa using h4'
      clear h4 h4'
      go_enter Try.func74, Try.ntmps74
      go_wp2_with fail
      refine (HA.out _ (HBX.out _ _)).mono ?_
      rintro e w1 h1
      have H1 := hide (FitPost.from (grown_of_below (HBX.out _ _) _) h1)
      obtain ⟨rfl, _, _⟩ := h1
      go_wp2_with fail
      all_goals go_ret
      all_goals exact H1.out
    · rw [if_neg h4']
      have e4' : (k' == 4) = false := by simpa using h4'
      clear h4 h4'
      go_enter Try.func74, Try.ntmps74
      go_wp2_with fail
      go_ret
      exact ⟨rfl, grown_of_below (HBX.out _ _) _, fun b' e => by cases e⟩
  rw [if_neg h4]
  have e4 : (k == 4) = false := by simpa using h4
  clear h4 h5 h6 HV HA
  obtain ⟨o3, ho3⟩ : ∃ o3, o3 = if sm then some b else none := ⟨_, rfl⟩
  rw [← ho3]
  have H3 := hide ho3
  clear ho3
  go_enter Try.func74, Try.ntmps74
  go_wp2_with fail
  refine (HO.out _ (HBX.out _ _)).mono ?_
  rintro e w1 ⟨r, rfl, HR, hb1⟩
  have HB1 : Hid (Below w.heap.size w w1) := (HBX.out _ _).trans (hb1.mono (HBX.out _ _).size)
  have H4 := hide H3.out
  rw [Hid, ← HR.out] at H4
  clear hb1 HR H3
  cases h0 : r == 0
  · go_wp2_with fail
    go_ret
    have h5 := H4
    rw [h0] at h5
    simp only [Bool.false_eq_true, if_false] at h5
    subst h5
    exact ⟨rfl, grown_of_below HB1.out _, fun b' e => by cases e⟩
  · go_wp2_with fail
    go_ret
    have h5 := H4
    rw [h0] at h5
    simp only [if_true] at h5
    subst h5
    exact ⟨rfl, grown_of_below HB1.out _, fun b' e => by obtain rfl := Option.some.inj e; exact HH.out.below HB1.out⟩

theorem fit_if (n : Nat) (p : Tm (n + 1)) (m : Nat) (t : Tm (m + 1)) (b : List An) :
    fit (n + 1) p (m + 1) t b = if p.1.1 = 6 then some b else if p.1.1 = 5 then fitV b p.1.2.1.toNat ⟨m + 1, t⟩ else if p.1.1 = 4 then (if t.1.1 = 4 then (if p.2.2.length = t.2.2.length then fitL (fun x y b => fit n x m y b) p.2.2 t.2.2 b else none) else none) else if same (n + 1) p (m + 1) t then some b else none := by
  simp only [fit]
  by_cases h1 : t.1.1 = 4 <;> by_cases h2 : p.2.2.length = t.2.2.length <;> simp [h1, h2]

theorem var_at (n : Nat) (p : Tm (n + 1)) (h : RightA ⟨n + 1, p⟩) (h5 : p.1.1 = 5) : ∃ k : Nat, k < 4 ∧ p.1.2.1 = k := by
  have hg := h (hdOf n p) (by simp [nodes, hdOf])
  have e : (hdOf n p).1.1 = 5 := h5
  have e2 : (hdOf n p).1.2.1 = p.1.2.1 := rfl
  simp [good, e, inB] at hg
  rw [e2] at hg
  exact ⟨p.1.2.1.toNat, by omega, by omega⟩

theorem fits_any (n : Nat) : FFit n := by
  induction n with
  | zero => intro p m t b base g c B w hp; exact hp.elim
  | succ n ih =>
    intro p m t b base g c B w hp ht rp rt hb hB H
    cases m with
    | zero => exact ht.elim
    | succ m =>
    have hg1 : B ≤ w.heap.size := by have := H.lt; omega
    have hp2 := hp
    have ht2 := ht
    obtain ⟨⟨_, _, _, hpl, hpc⟩, hpp⟩ := hp2
    obtain ⟨⟨_, _, _, hql, hqc⟩, hqq⟩ := ht2
    unfold maxLen at hpc hqc
    rw [fit_if]
    refine fits_walk p.1.1 p.1.2.1 t.1.1 t.1.2.1 p.1.2.2 t.1.2.2 p.2.1.1 t.2.1.1 p.2.2.length t.2.2.length p.2.1.2 t.2.1.2 base g c b _ _ _ w H ?_ ?_ ?_
    · intro h5 w1 h1
      obtain ⟨k, hk, e⟩ := var_at n p rp h5
      rw [e]
      exact fvar_any b base g c B w1 k hk m t (hb.below (h1.mono hg1)) (ht.below (h1.mono hg1)) rt hB (H.below h1)
    · intro w1 h1
      refine fitAll_any n m ih p.2.2 t.2.2 p.2.1.1 t.2.1.1 p.2.1.2 t.2.1.2 b base g c B w1 ?_ ?_ (by omega) (by omega) (fun y hy => parts_right n p y rp hy) (fun y hy => parts_right m t y rt hy) (hb.below (h1.mono hg1)) hB (H.below h1)
      · rcases hpp with hp | ⟨b, o, e, hb, hp⟩
        · exact Or.inl hp
        · exact Or.inr ⟨b, o, e, hb, fun i y hy => ⟨(hp i y hy).1.below (h1.mono hg1) hb, (hp i y hy).2.below (h1.mono hg1)⟩⟩
      · rcases hqq with hp | ⟨b, o, e, hb, hp⟩
        · exact Or.inl hp
        · exact Or.inr ⟨b, o, e, hb, fun i y hy => ⟨(hp i y hy).1.below (h1.mono hg1) hb, (hp i y hy).2.below (h1.mono hg1)⟩⟩
    · intro w1 h1
      exact order_is ⟨n + 1, p⟩ ⟨m + 1, t⟩ B w1 (hp.below (h1.mono hg1)) (ht.below (h1.mono hg1)) (Nat.le_trans hg1 h1.size) rp rt
end Go.Proofs.Ytbmjfnicfpdjfaa
namespace Go.Proofs.Ytbmjfnicfpdjfaa
open Go.RowKit

def anL (n : Nat) (q : List (Tm n)) : List An := q.map fun x => ⟨n, x⟩
theorem anL_length (n : Nat) (q : List (Tm n)) : (anL n q).length = q.length := by simp [anL]
theorem held_cells {n : Nat} {q : List (Tm n)} {w : World} {pb po : Nat} (hp : ∀ (i : Nat) (y : Tm n), q[i]? = some y → Held w pb (po + i * 4) n y) :
    ∀ j u, (anCells (anL n q))[j]? = some u → w.cell? ((⟨pb, po, none⟩ : Addr).add j) = some u := by
  intro j u h
  have hl := anCells_length (anL n q)
  have hj : j < q.length * 4 := by
    rw [anL_length] at hl
    rw [← hl]
    exact (List.getElem?_eq_some_iff.1 h).1
  obtain ⟨k, i, hi, rfl⟩ : ∃ k i, i < 4 ∧ j = k * 4 + i := ⟨j / 4, j % 4, Nat.mod_lt _ (by decide), by omega⟩
  obtain ⟨y, hy⟩ : ∃ y, q[k]? = some y := ⟨q[k]'(by omega), List.getElem?_eq_getElem _⟩
  have e : (anCells (anL n q))[k * 4 + i]? = (nd4 (ndA ⟨n, y⟩))[i]? := ndCells_at _ k (ndA ⟨n, y⟩) (by simp [anL, hy]) i hi
  rw [e] at h
  have hh := hp k y hy
  cases n with
  | zero => exact hh.elim
  | succ n =>
  obtain ⟨h0, h1, h2, h3⟩ := hh
  rw [Addr.add_lit, ← Nat.add_assoc]
  have : i = 0 ∨ i = 1 ∨ i = 2 ∨ i = 3 := by omega
  rcases this with rfl | rfl | rfl | rfl
  all_goals simp [nd4, ndA, hdT, hdOf] at h; subst h
  · exact h0
  · exact h1
  · exact h2
  · exact h3

set_option maxHeartbeats 1000000 in
theorem clone_list (n : Nat) (q : List (Tm n)) (len pb po pc : Nat) (w : World) (hl : Hid (q.length = len)) (h0 : 0 < len) (h1 : len ≤ 1048576) (HP : Hid (∀ w1, Below w.heap.size w w1 → ∀ j u, (anCells (anL n q))[j]? = some u → w1.cell? ((⟨pb, po, none⟩ : Addr).add j) = some u)) :
    Calls Try.prog 73 #[.slice (some ⟨pb, po, none⟩) len pc] w fun e w' => ∃ g c, e = .returned (.slice (some ⟨g, 0, none⟩) len c) ∧ Hid (Below w.heap.size w w' ∧ Has w.heap.size g c (anL n q) w') := by
  obtain ⟨it, hit, htz0, htz1, htz2⟩ := info_parts infoTerm
  have HT := hide (⟨hit, htz0, htz1, htz2⟩ : _ ∧ _ ∧ _ ∧ _)
  clear hit htz0 htz1 htz2
  have hq : ∀ (w : World) (a : Option Addr) (n c n' c' : Nat), (binOp .eql 23 (.slice a n c) (.slice none n' c')).run Try.prog w = .ok (.bool a.isNone) w := fun w a n c n' c' => Lib.run_eql_slice_nil w _ _ a n c n' c' Try.underlying23
  go_enter Try.func73, Try.ntmps73
  go_wp2_with (at_builtin; refine wpList_append_own _ rfl _ _ 23 rfl w.heap.size 25 it _ 4 56 Try.underlying23 HT.out.1 HT.out.2.1 HT.out.2.2.1 HT.out.2.2.2 rfl (by decide) _ _ _ rfl (World.ownsRow_made w #[] 0 (Nat.le_refl _) (Nat.zero_le _) (by simp)) ⟨pb, po, none⟩ len pc (anCells (anL n q)) rfl ?qc1 ?qc2 ?qc3 ?qc4 ?qc5 ?qc6 ?_)
  case qc1 => rw [anCells_length, anL_length, hl.out]
  case qc2 => exact HP.out _ ((Below.refl _ _).alloc (Nat.le_refl _) _)
  case qc3 => exact anCells_one _
  case qc4 => unfold maxLen; omega
  case qc5 => omega
  case qc6 => simp
  intro v1 w1 hown hgrow hnil
  have HF : Hid (∃ g c, v1 = .slice (some ⟨g, 0, none⟩) len c ∧ Below w.heap.size w w1 ∧ Has w.heap.size g c (anL n q) w1) := by
    have hb : Below w.heap.size w w1 := Below.grown ((Below.refl _ _).alloc (Nat.le_refl _) _) hgrow (by simp) (by intro k hk; simp [Value.ownBlock] at hk; omega)
    have ho := hown
    obtain ⟨_, ho⟩ := ho
    rcases ho with ⟨_, ho⟩ | ⟨g, cap, cur, rfl, hg, _⟩
    · omega
    · refine ⟨g, cap, rfl, hb, ?_⟩
      unfold Has
      rw [anL_length, hl.out]
      exact hown
  clear hown hgrow hnil
  obtain ⟨g, c, rfl, HF2⟩ := HF.out
  go_wp2_with fail
  go_ret
  exact ⟨g, c, rfl, HF2⟩
end Go.Proofs.Ytbmjfnicfpdjfaa
namespace Go.Proofs.Ytbmjfnicfpdjfaa
open Go.RowKit

/-- The error, by what is asked in order. -/
def errF (cp ct : Int) (cl bd : Bool) : Int := if cp = 0 then if ct = 0 then if cl && bd then 0 else 5 else ct else cp
/-- What match.Fits leaves: err, and o: what is bound then. -/
def FitOut (err : Int) (o : Option (List An)) (w : World) (e : Ending) (w' : World) : Prop :=
  ∃ a len c r, e = .returned (.tuple #[.slice a len c, .bool r, .int .i64 err]) ∧ Hid (Below w.heap.size w w' ∧
    ((¬ (err = 0 ∧ o.isSome = true) → len = 0 ∧ r = false) ∧ ∀ b, err = 0 → o = some b → r = true ∧ len = 4 ∧ b.length = 4 ∧ ∃ w1 l, w.heap.size ≤ w1.heap.size ∧ CpRow (top b) (uni b) w1 w' a c l))
/-- The world with two boxes, and what came since. -/
def Bx2 (w : World) (v0 v1 v2 v3 u0 u1 u2 u3 : Value) (w' : World) : Prop :=
  Below w.heap.size w w' ∧ w.heap.size + 2 ≤ w'.heap.size ∧
  (w'.cell? ⟨w.heap.size, 0, none⟩ = some v0 ∧ w'.cell? ⟨w.heap.size, 1, none⟩ = some v1 ∧ w'.cell? ⟨w.heap.size, 2, none⟩ = some v2 ∧ w'.cell? ⟨w.heap.size, 3, none⟩ = some v3) ∧
  (w'.cell? ⟨w.heap.size + 1, 0, none⟩ = some u0 ∧ w'.cell? ⟨w.heap.size + 1, 1, none⟩ = some u1 ∧ w'.cell? ⟨w.heap.size + 1, 2, none⟩ = some u2 ∧ w'.cell? ⟨w.heap.size + 1, 3, none⟩ = some u3)
theorem Bx2.new (w : World) (v0 v1 v2 v3 u0 u1 u2 u3 : Value) (t t' : TypeId) : Bx2 w v0 v1 v2 v3 u0 u1 u2 u3 ((w.alloc (.cells #[v0, v1, v2, v3] t)).alloc (.cells #[u0, u1, u2, u3] t')) :=
  ⟨((Below.refl _ _).alloc (Nat.le_refl _) _).alloc (by simp) _, by simp, ⟨by simp [go_sem], by simp [go_sem], by simp [go_sem], by simp [go_sem]⟩, by simp [go_sem], by simp [go_sem], by simp [go_sem], by simp [go_sem]⟩
theorem Bx2.next {w : World} {v0 v1 v2 v3 u0 u1 u2 u3 : Value} {w1 w2 : World} (h : Bx2 w v0 v1 v2 v3 u0 u1 u2 u3 w1) (hb : Below w1.heap.size w1 w2) : Bx2 w v0 v1 v2 v3 u0 u1 u2 u3 w2 :=
  ⟨h.1.trans (hb.mono h.1.size), Nat.le_trans h.2.1 hb.size, cells_nx (by have := h.2.1; omega) hb h.2.2.1, cells_nx (by have := h.2.1; omega) hb h.2.2.2⟩

set_option maxHeartbeats 2000000 in
theorem mfits_walk (w : World) (k u k' u' : Int) (s s' : ByteArray) (a a' : Option Addr) (l pc l' pc' : Nat) (qa : Option Addr) (ql qc : Nat) (cp ct : Int) (cl bd : Bool) (o : Option (List An)) (b0 : List An)
    (HCP : Hid (∀ w1, Below w.heap.size w w1 → Calls Try.prog 36 #[.agg #[.int .i64 k, .int .i64 u, .string s, .slice a l pc]] w1 fun e w' => e = .returned (.int .i64 cp) ∧ Below w1.heap.size w1 w'))
    (HCT : Hid (∀ w1, Below w.heap.size w w1 → Calls Try.prog 36 #[.agg #[.int .i64 k', .int .i64 u', .string s', .slice a' l' pc']] w1 fun e w' => e = .returned (.int .i64 ct) ∧ Below w1.heap.size w1 w'))
    (HCL : Hid (∀ w1, Below w.heap.size w w1 → Calls Try.prog 37 #[.agg #[.int .i64 k', .int .i64 u', .string s', .slice a' l' pc']] w1 fun e w' => e = .returned (.bool cl) ∧ Below w1.heap.size w1 w'))
    (HBD : Hid (∀ w1, Below w.heap.size w w1 → Calls Try.prog 72 #[.slice qa ql qc] w1 fun e w' => e = .returned (.bool bd) ∧ Below w1.heap.size w1 w'))
    (HCN : Hid (bd = true → ∀ w1, Below w.heap.size w w1 → Calls Try.prog 73 #[.slice qa ql qc] w1 fun e w' => ∃ g c, e = .returned (.slice (some ⟨g, 0, none⟩) 4 c) ∧ Hid (Below w1.heap.size w1 w' ∧ Has w1.heap.size g c b0 w')))
    (HF : Hid (errF cp ct cl bd = 0 → ∀ w1 base g c, Below w.heap.size w w1 → w.heap.size ≤ base → Has base g c b0 w1 → Calls Try.prog 74 #[.slice (some ⟨g, 0, none⟩) 4 c, .agg #[.int .i64 k, .int .i64 u, .string s, .slice a l pc], .agg #[.int .i64 k', .int .i64 u', .string s', .slice a' l' pc']] w1 (FitPost base g c o w1)))
    (HC : Hid (errF cp ct cl bd = 0 → ∀ w1 base g c b, o = some b → Below w.heap.size w w1 → Has base g c b w1 → b.length = 4 ∧ Calls Try.prog 60 #[.slice (some ⟨g, 0, none⟩) 4 c] w1 fun e w' => ∃ a' c' l, e = .returned (.slice a' 4 c') ∧ Hid (CpRow (top b) (uni b) w1 w' a' c' l))) :
    Calls Try.prog 61 #[.agg #[.int .i64 k, .int .i64 u, .string s, .slice a l pc], .agg #[.int .i64 k', .int .i64 u', .string s', .slice a' l' pc'], .slice qa ql qc] w (FitOut (errF cp ct cl bd) o w) := by
  obtain ⟨err, herr⟩ : ∃ err, err = errF cp ct cl bd := ⟨_, rfl⟩
  rw [← herr] at HF HC ⊢
  have HE := hide herr
  clear herr
  go_enter Try.func61, Try.ntmps61
  go_wp2_with fail
  refine (HCP.out _ (Bx2.new w _ _ _ _ _ _ _ _ _ _).1).mono ?_
  rintro e w1 ⟨rfl, hb1⟩
  have H1 := hide ((Bx2.new w (.int .i64 k) (.int .i64 u) (.string s) (.slice a l pc) (.int .i64 k') (.int .i64 u') (.string s') (.slice a' l' pc') 25 25).next hb1)
  clear hb1 HCP
  by_cases hcp : cp = 0
  case neg =>
    have h0 : (cp != 0) = true := by simpa using hcp
    have HE2 : Hid (err = cp ∧ ¬ err = 0) := by have := HE.out; unfold errF at this; rw [if_neg hcp] at this; exact ⟨this, by rw [this]; exact hcp⟩
    clear hcp HE
    go_wp2_with fail
    exact bodyPost_ret (v := .tuple #[.slice none 0 0, .bool false, .int .i64 cp]) (by simp [results, Try.results61, go_sem]) rfl ⟨none, 0, 0, false, by rw [HE2.out.1], H1.out.1, fun _ => ⟨rfl, rfl⟩, fun b h => absurd h HE2.out.2⟩
  have h0 : (cp != 0) = false := by simp [hcp]
  obtain ⟨⟨v0, v1, v2, v3⟩, u0, u1, u2, u3⟩ := H1.out.2.2
  go_wp2_with fail
  refine (HCT.out _ H1.out.1).mono ?_
  rintro e w2 ⟨rfl, hb2⟩
  have H2 := hide (H1.out.next hb2)
  clear hb2 HCT H1 v0 v1 v2 v3 u0 u1 u2 u3
  by_cases hct : ct = 0
  case neg =>
    have h1 : (ct != 0) = true := by simpa using hct
    have HE2 : Hid (err = ct ∧ ¬ err = 0) := by have := HE.out; unfold errF at this; rw [if_pos hcp, if_neg hct] at this; exact ⟨this, by rw [this]; exact hct⟩
    clear hct hcp HE
    go_wp2_with fail
    exact bodyPost_ret (v := .tuple #[.slice none 0 0, .bool false, .int .i64 ct]) (by simp [results, Try.results61, go_sem]) rfl ⟨none, 0, 0, false, by rw [HE2.out.1], H2.out.1, fun _ => ⟨rfl, rfl⟩, fun b h => absurd h HE2.out.2⟩
  have h1 : (ct != 0) = false := by simp [hct]
  have HE1 : Hid (err = if cl && bd then 0 else 5) := by have := HE.out; unfold errF at this; rw [if_pos hcp, if_pos hct] at this; exact this
  clear hct hcp HE
  obtain ⟨⟨v0, v1, v2, v3⟩, u0, u1, u2, u3⟩ := H2.out.2.2
  go_wp2_with fail
  refine (HCL.out _ H2.out.1).mono ?_
  rintro e w3 ⟨rfl, hb3⟩
  have H3 := hide (H2.out.next hb3)
  clear hb3 HCL H2 v0 v1 v2 v3 u0 u1 u2 u3
  cases cl with
  | false =>
    have HE2 : Hid (err = 5 ∧ ¬ err = 0) := by have := HE1.out; simp at this; exact ⟨this, by rw [this]; decide⟩
    clear HE1
    go_wp2_with fail
    exact bodyPost_ret (v := .tuple #[.slice none 0 0, .bool false, .int .i64 5]) (by simp [results, Try.results61, go_sem]) rfl ⟨none, 0, 0, false, by rw [HE2.out.1], H3.out.1, fun _ => ⟨rfl, rfl⟩, fun b h => absurd h HE2.out.2⟩
  | true =>
  go_wp2_with fail
  refine (HBD.out _ H3.out.1).mono ?_
  rintro e w4 ⟨rfl, hb4⟩
  have H4 := hide (H3.out.next hb4)
  clear hb4 HBD H3
  cases bd with
  | false =>
    have HE2 : Hid (err = 5 ∧ ¬ err = 0) := by have := HE1.out; simp at this; exact ⟨this, by rw [this]; decide⟩
    clear HE1
    go_wp2_with fail
    exact bodyPost_ret (v := .tuple #[.slice none 0 0, .bool false, .int .i64 5]) (by simp [results, Try.results61, go_sem]) rfl ⟨none, 0, 0, false, by rw [HE2.out.1], H4.out.1, fun _ => ⟨rfl, rfl⟩, fun b h => absurd h HE2.out.2⟩
  | true =>
  have HE2 : Hid (err = 0) := by have := HE1.out; simp at this; exact this
  have HF2 := hide (HF.out HE2.out)
  have HC2 := hide (HC.out HE2.out)
  have HCN2 := hide (HCN.out rfl)
  clear HE1 HF HC HCN
  go_wp2_with fail
  refine (HCN2.out _ H4.out.1).mono ?_
  rintro e w5 ⟨g, c, rfl, H5a⟩
  have H5 := hide (H4.out.next H5a.out.1)
  have H5h : Hid (Has w4.heap.size g c b0 w5) := H5a.out.2
  have HW : Hid (w.heap.size ≤ w4.heap.size) := H4.out.1.size
  obtain ⟨⟨v0, v1, v2, v3⟩, u0, u1, u2, u3⟩ := H5.out.2.2
  clear H4 H5a HCN2
  go_wp2_with fail
  refine (HF2.out w5 w4.heap.size g c H5.out.1 HW.out H5h.out).mono ?_
  rintro e w6 h6
  have HB6 : Hid (Below w.heap.size w w6) := H5.out.1.trans (grown_below h6.2.1 (Nat.le_trans HW.out H5h.out.lt.1) H5h.out.lt.2)
  have H6h := hide h6.2.2
  obtain ⟨rfl, _, _⟩ := h6
  clear H5h HF2
  cases o with
  | none =>
    simp only [Option.isSome_none]
    go_wp2_with fail
    exact bodyPost_ret (v := .tuple #[.slice none 0 0, .bool false, .int .i64 0]) (by simp [results, Try.results61, go_sem]) rfl ⟨none, 0, 0, false, by rw [HE2.out], HB6.out, fun _ => ⟨rfl, rfl⟩, fun b _ h => by cases h⟩
  | some b =>
    simp only [Option.isSome_some]
    have HH := hide (H6h.out b rfl)
    have HCC := hide (HC2.out w6 _ g c b rfl HB6.out HH.out)
    clear H6h HC2
    go_wp2_with fail
    refine HCC.out.2.mono ?_
    rintro e w7 ⟨a1, c1, l1, rfl, H7⟩
    have HB7 : Hid (Below w.heap.size w w7) := HB6.out.trans (H7.out.1.mono HB6.out.size)
    go_wp2_with fail
    exact bodyPost_ret (v := .tuple #[.slice a1 4 c1, .bool true, .int .i64 0]) (by simp [results, Try.results61, go_sem]) rfl ⟨a1, 4, c1, true, by rw [HE2.out], HB7.out, fun h => absurd ⟨HE2.out, rfl⟩ h, fun b' _ e => by obtain rfl := Option.some.inj e; exact ⟨rfl, rfl, HCC.out.1, w6, l1, HB6.out.size, H7.out⟩⟩
end Go.Proofs.Ytbmjfnicfpdjfaa
namespace Go.Proofs.Ytbmjfnicfpdjfaa
open Go.RowKit

theorem errF_zero {cp ct : Int} {cl bd : Bool} (h : errF cp ct cl bd = 0) : cp = 0 ∧ ct = 0 ∧ cl = true ∧ bd = true := by
  unfold errF at h
  split at h
  · split at h
    · split at h
      · rename_i h1 h2 h3
        simp at h3
        exact ⟨h1, h2, h3.1, h3.2⟩
      · cases h
    · rename_i h1 h2; exact absurd h h2
  · rename_i h1; exact absurd h h1

theorem bnd_four {n : Nat} {q : List (Tm n)} (h : bndB n q = true) : q.length = 4 := by
  unfold bndB at h
  simp at h
  exact h.1
theorem bnd_right {n : Nat} {q : List (Tm n)} (h : bndB n q = true) : ∀ y ∈ anL n q, RightA y := by
  intro y hy
  simp only [anL, List.mem_map] at hy
  obtain ⟨x, hx, rfl⟩ := hy
  unfold bndB at h
  simp only [Bool.and_eq_true, List.all_eq_true] at h
  have h2 := h.2 x hx
  unfold okB at h2
  simp only [Bool.and_eq_true, beq_iff_eq] at h2
  exact chk_good n x h2.1
theorem lies_in {B : Nat} {w : World} {n : Nat} {q : List (Tm n)} {a : Option Addr} (h : Lies B w n q a) : ∀ y ∈ anL n q, InA B w y := by
  intro y hy
  simp only [anL, List.mem_map] at hy
  obtain ⟨x, hx, rfl⟩ := hy
  rcases h with h | ⟨b, o, _, _, h⟩
  · rw [h] at hx; cases hx
  · obtain ⟨i, hi⟩ := List.getElem?_of_mem hx
    exact (h i x hi).2
theorem lies_bnd {B : Nat} {w : World} {n : Nat} {q : List (Tm n)} {a : Option Addr} (h : Lies B w n q a) (k : bndB n q = true) : Bnd B w (anL n q) :=
  ⟨by rw [anL_length]; exact bnd_four k, fun y hy => ⟨lies_in h y hy, bnd_right k y hy⟩⟩

theorem mfits_any (n m o : Nat) (p : Tm n) (t : Tm m) (q : List (Tm o)) (a : Option Addr) (c B : Nat) (w : World) (hp : In B w n p) (ht : In B w m t) (hq : Lies B w o q a) (hB : B ≤ w.heap.size)
    (hNp : (nodes n p).length ≤ 2097152) (hNt : (nodes m t).length ≤ 2097152) (hNq : ∀ y ∈ q, (nodes o y).length ≤ 2097152) (hql : q.length ≤ 9223372036854775807) :
    Calls Try.prog 61 #[val n p, val m t, .slice a q.length c] w (FitOut (errF (chk n p) (chk m t) (closedB m t) (bndB o q)) (fit n p m t (anL o q)) w) := by
  cases n with
  | zero => exact hp.elim
  | succ n =>
  cases m with
  | zero => exact ht.elim
  | succ m =>
  refine mfits_walk w p.1.1 p.1.2.1 t.1.1 t.1.2.1 p.1.2.2 t.1.2.2 p.2.1.1 t.2.1.1 p.2.2.length p.2.1.2 t.2.2.length t.2.1.2 a q.length c _ _ _ _ _ (anL o q) ?_ ?_ ?_ ?_ ?_ ?_ ?_
  · exact fun w1 h1 => tcheck_any (n + 1) p B w1 (hp.below (h1.mono hB)) (Nat.le_trans hB h1.size) hNp
  · exact fun w1 h1 => tcheck_any (m + 1) t B w1 (ht.below (h1.mono hB)) (Nat.le_trans hB h1.size) hNt
  · intro w1 h1
    rw [← closed_eq]
    exact closed_any (m + 1) t B w1 (ht.below (h1.mono hB)) (Nat.le_trans hB h1.size)
  · exact fun w1 h1 => areB_any o q a c B w1 (hq.below (h1.mono hB)) hql hNq (Nat.le_trans hB h1.size)
  · intro hbd w1 h1
    have h4 := bnd_four hbd
    rcases hq with hq | ⟨pb, po, rfl, hb, hq⟩
    · rw [hq] at h4; simp at h4
    · have hc := clone_list o q 4 pb po c w1 h4 (by decide) (by decide) (fun w2 h2 => held_cells fun i y hy => ((hq i y hy).1.below (h1.mono hB) hb).below (h2.mono (Nat.le_trans hB h1.size)) hb)
      rw [h4]
      exact hc
  · intro he w1 base g c1 h1 hba hh
    obtain ⟨e1, e2, e3, e4⟩ := errF_zero he
    exact fits_any (n + 1) p (m + 1) t (anL o q) base g c1 B w1 (hp.below (h1.mono hB)) (ht.below (h1.mono hB)) (chk_good _ _ e1) (chk_good _ _ e2) ((lies_bnd hq e4).below (h1.mono hB)) (Nat.le_trans hB hba) hh
  · intro he w1 base g c1 b hf h1 hh
    obtain ⟨e1, e2, e3, e4⟩ := errF_zero he
    have hb1 := ((lies_bnd hq e4).fit ht (chk_good _ _ e2) hf).below (h1.mono hB)
    have hl := uni_lies hh (fun y hy => (hb1.2 y hy).1) (Nat.le_trans hB h1.size)
    have hlen : (uni b).length = 4 := by simp [uni, hb1.1]
    have hc := copyAll_any (top b) (copy_any _) (uni b) (some ⟨g, 0, none⟩) c1 w1.heap.size w1 hl (by omega) (uni_right fun y hy => ⟨(hb1.2 y hy).2, fun h0 => by
      have hin := (hb1.2 y hy).1
      obtain ⟨n', x⟩ := y
      simp only at h0
      subst h0
      exact hin.elim⟩) (Nat.le_refl _)
    rw [hlen] at hc
    exact ⟨hb1.1, hc⟩
end Go.Proofs.Ytbmjfnicfpdjfaa
namespace Go.Proofs.Ytbmjfnicfpdjfaa
open Go.RowKit

def Ext (b c : List An) : Prop := c.length = b.length ∧ ∀ (i : Nat) (y : An), b[i]? = some y → kindA y ≠ 6 → c[i]? = some y
theorem Ext.refl (b : List An) : Ext b b := ⟨rfl, fun _ _ h _ => h⟩
theorem Ext.trans {b c d : List An} (h : Ext b c) (k : Ext c d) : Ext b d := ⟨k.1.trans h.1, fun i y hy hk => k.2 i y (h.2 i y hy hk) hk⟩
theorem fitL_ext {α β : Type} (f : α → β → List An → Option (List An)) : (p : List α) → (q : List β) → (∀ x ∈ p, ∀ y b c, f x y b = some c → Ext b c) → ∀ b c, fitL f p q b = some c → Ext b c
  | [], _, _, b, c, h => by simp [fitL] at h; rw [← h]; exact Ext.refl _
  | _ :: _, [], _, b, c, h => by simp [fitL] at h; rw [← h]; exact Ext.refl _
  | x :: p, y :: q, hf, b, c, h => by
    simp only [fitL] at h
    obtain ⟨d, h1, h2⟩ := Option.bind_eq_some_iff.1 h
    exact (hf x (by simp) y b d h1).trans (fitL_ext f p q (fun x' hx => hf x' (List.mem_cons_of_mem _ hx)) d c h2)
theorem fitV_ext {b c : List An} {i : Nat} {t : An} (h : fitV b i t = some c) : Ext b c := by
  unfold fitV at h
  split at h
  · rename_i y hy
    split at h
    · rename_i hk
      obtain rfl := Option.some.inj h
      refine ⟨by simp, fun j z hz hkz => ?_⟩
      by_cases hij : i = j
      · subst hij
        rw [hy] at hz
        obtain rfl := Option.some.inj hz
        exact absurd hk hkz
      · rw [List.getElem?_set_ne hij]; exact hz
    · split at h
      · obtain rfl := Option.some.inj h; exact Ext.refl _
      · cases h
  · cases h
theorem fit_ext : (n : Nat) → (p : Tm n) → (m : Nat) → (t : Tm m) → (b c : List An) → fit n p m t b = some c → Ext b c
  | 0, _, _, _, _, _, h => by simp [fit] at h
  | n + 1, _, 0, _, _, _, h => by simp [fit] at h
  | n + 1, p, m + 1, t, b, c, h => by
    simp only [fit] at h
    split at h
    · obtain rfl := Option.some.inj h; exact Ext.refl _
    split at h
    · exact fitV_ext h
    split at h
    · split at h
      · exact fitL_ext _ _ _ (fun x _ y b c hc => fit_ext n x m y b c hc) b c h
      · cases h
    · split at h
      · obtain rfl := Option.some.inj h; exact Ext.refl _
      · cases h

theorem closed_parts {n : Nat} {x : Tm (n + 1)} (h : closedT (n + 1) x = true) : x.1.1 ≠ 5 ∧ x.1.1 ≠ 6 ∧ ∀ y ∈ x.2.2, closedT n y = true := by
  simp only [closedT, Bool.and_eq_true, Bool.not_eq_true', List.all_eq_true] at h
  exact ⟨by simpa using h.1.1, by simpa using h.1.2, h.2⟩
theorem fitL_id {α β : Type} (f : α → β → List An → Option (List An)) (e : List An) : (p : List α) → (q : List β) → (∀ (i : Nat) (x : α) (y : β), p[i]? = some x → q[i]? = some y → f x y e = some e) → fitL f p q e = some e
  | [], _, _ => by simp [fitL]
  | _ :: _, [], _ => by simp [fitL]
  | x :: p, y :: q, h => by
    simp only [fitL, h 0 x y (by simp) (by simp), Option.bind_some]
    exact fitL_id f e p q fun i x' y' hx hy => h (i + 1) x' y' (by simpa using hx) (by simpa using hy)
/-- What is the same, and closed, fits just so. -/
theorem fit_same : (n : Nat) → (x : Tm n) → (m : Nat) → (t : Tm m) → same n x m t = true → closedT n x = true → ∀ e, fit n x m t e = some e
  | 0, _, _, _, h, _, _ => by simp [same] at h
  | _ + 1, _, 0, _, h, _, _ => by simp [same] at h
  | n + 1, x, m + 1, t, h, hc, e => by
    obtain ⟨h1, h2⟩ := same_parts h
    obtain ⟨c5, c6, cp⟩ := closed_parts hc
    simp only [fit, if_neg c6, if_neg c5]
    by_cases h4 : x.1.1 = 4
    · rw [if_pos h4, if_pos ⟨by rw [← h1]; exact h4, sameL_length _ _ _ h2⟩]
      exact fitL_id _ e _ _ fun i y z hy hz => fit_same n y m z (sameL_at _ _ _ h2 i y z hy hz) (cp y (List.mem_of_getElem? hy)) e
    · rw [if_neg h4, if_pos h]

/-- X is the pattern p with what l binds put in. -/
def PutR (D : Nat) (l : List (Tm D)) : (n : Nat) → Tm n → Tm (D + n) → Prop
  | 0, _, _ => False
  | n + 1, p, X => if p.1.1 = 5 then ∃ z, l[p.1.2.1.toNat]? = some z ∧ same (D + n + 1) X D z = true
    else X.1 = p.1 ∧ X.2.2.length = p.2.2.length ∧ ∀ (i : Nat) (y : Tm n) (e : Tm (D + n)), p.2.2[i]? = some y → X.2.2[i]? = some e → PutR D l n y e

/-- No variable in it. -/
def noV : (n : Nat) → Tm n → Bool
  | 0, _ => true
  | n + 1, x => !(x.1.1 == 5) && x.2.2.all fun y => noV n y
theorem closed_noV : (n : Nat) → (x : Tm n) → closedT n x = true → noV n x = true
  | 0, _, _ => rfl
  | n + 1, x, h => by
    obtain ⟨c5, _, cp⟩ := closed_parts h
    simp only [noV, Bool.and_eq_true, List.all_eq_true]
    exact ⟨by simpa using c5, fun y hy => closed_noV n y (cp y hy)⟩

/-- l tells the same terms as d. -/
def Tells4 (D : Nat) (l : List (Tm D)) (d : List An) : Prop := ∀ (i : Nat) (z : An), d[i]? = some z → ∃ y, l[i]? = some y ∧ same D y z.1 z.2 = true ∧ RightA ⟨D, y⟩

theorem fitL_put (D : Nat) (l : List (Tm D)) (d : List An) (n m : Nat) (e : List An) (ih : ∀ (p : Tm n) (t : Tm m) (b c : List An), fit n p m t b = some c → Ext c d → closedT m t = true → RightA ⟨m, t⟩ → RightA ⟨n, p⟩ → ∀ X, PutR D l n p X → fit (D + n) X m t e = some e ∧ noV (D + n) X = true ∧ formedB (D + n) X = true) :
    (ps : List (Tm n)) → (ts : List (Tm m)) → (Xs : List (Tm (D + n))) → (b c : List An) → fitL (fun x y b => fit n x m y b) ps ts b = some c → Ext c d → (∀ y ∈ ts, closedT m y = true) → (∀ y ∈ ts, RightA ⟨m, y⟩) → (∀ y ∈ ps, RightA ⟨n, y⟩) → ps.length = ts.length → Xs.length = ps.length →
      (∀ (i : Nat) (y : Tm n) (x : Tm (D + n)), ps[i]? = some y → Xs[i]? = some x → PutR D l n y x) →
      fitL (fun x y b => fit (D + n) x m y b) Xs ts e = some e ∧ (Xs.all fun y => noV (D + n) y) = true ∧ (Xs.all fun y => formedB (D + n) y) = true
  | [], [], Xs, b, c, _, _, _, _, _, _, hl, _ => by
    obtain rfl : Xs = [] := List.eq_nil_of_length_eq_zero hl
    simp [fitL]
  | [], _ :: _, _, _, _, _, _, _, _, _, h, _, _ => by simp at h
  | _ :: _, [], _, _, _, _, _, _, _, _, h, _, _ => by simp at h
  | p :: ps, t :: ts, [], _, _, _, _, _, _, _, _, h, _ => by simp at h
  | p :: ps, t :: ts, X :: Xs, b, c, hf, hx, hc, hr, hp, h1, h2, hput => by
    simp only [fitL] at hf
    obtain ⟨b1, hb1, hb2⟩ := Option.bind_eq_some_iff.1 hf
    have hx1 : Ext b1 c := fitL_ext _ _ _ (fun x _ y b c hc => fit_ext n x m y b c hc) b1 c hb2
    obtain ⟨k1, k2, k3⟩ := ih p t b b1 hb1 (hx1.trans hx) (hc t (by simp)) (hr t (by simp)) (hp p (by simp)) X (hput 0 p X (by simp) (by simp))
    obtain ⟨r1, r2, r3⟩ := fitL_put D l d n m e ih ps ts Xs b1 c hb2 hx (fun y hy => hc y (List.mem_cons_of_mem _ hy)) (fun y hy => hr y (List.mem_cons_of_mem _ hy)) (fun y hy => hp y (List.mem_cons_of_mem _ hy)) (by simpa using h1) (by simpa using h2) (fun i y x hy hx => hput (i + 1) y x (by simpa using hy) (by simpa using hx))
    simp only [fitL, k1, Option.bind_some, List.all_cons, k2, k3, r2, r3, Bool.and_self, and_self, and_true]
    exact r1

theorem fit_put (D : Nat) (l : List (Tm D)) (d : List An) (hd : Tells4 D l d) (e : List An) : (n : Nat) → (p : Tm n) → (m : Nat) → (t : Tm m) → (b c : List An) → fit n p m t b = some c → Ext c d → closedT m t = true → RightA ⟨m, t⟩ → RightA ⟨n, p⟩ →
    ∀ X, PutR D l n p X → fit (D + n) X m t e = some e ∧ noV (D + n) X = true ∧ formedB (D + n) X = true
  | 0, _, _, _, _, _, h, _, _, _, _, _, _ => by simp [fit] at h
  | _ + 1, _, 0, _, _, _, h, _, _, _, _, _, _ => by simp [fit] at h
  | n + 1, p, m + 1, t, b, c, h, hx, hc, rt, rp, X, hput => by
    simp only [fit] at h
    simp only [PutR] at hput
    have gp := rp (hdOf n p) (by simp [nodes, hdOf])
    by_cases h5 : p.1.1 = 5
    · rw [if_pos h5] at hput
      have h6 : ¬ p.1.1 = 6 := by omega
      rw [if_neg h6, if_pos h5] at h
      obtain ⟨z, hz, hs⟩ := hput
      have key : ∃ y, c[p.1.2.1.toNat]? = some y ∧ kindA y ≠ 6 ∧ same y.1 y.2 (m + 1) t = true := by
        have hk : kindA (⟨m + 1, t⟩ : An) ≠ 6 := (closed_parts hc).2.1
        unfold fitV at h
        split at h
        · rename_i y hy
          split at h
          · obtain rfl := Option.some.inj h
            refine ⟨⟨m + 1, t⟩, ?_, hk, same_refl _ _ rt⟩
            rw [List.getElem?_set_self (List.getElem?_eq_some_iff.1 hy).1]
          · rename_i hk6
            split at h
            · rename_i hsm
              obtain rfl := Option.some.inj h
              exact ⟨y, hy, hk6, hsm⟩
            · cases h
        · cases h
      obtain ⟨y, hy, hk, hst⟩ := key
      obtain ⟨z', hz', hzs, hzr⟩ := hd _ y (hx.2 _ y hy hk)
      rw [hz] at hz'
      obtain rfl := Option.some.inj hz'
      have hXt : same (D + n + 1) X (m + 1) t = true := same_trans _ _ _ _ _ _ hs (same_trans _ _ _ _ _ _ hzs hst)
      have hXc : closedT (D + n + 1) X = true := by rw [same_closed _ _ _ _ hXt]; exact hc
      refine ⟨fit_same _ X _ t hXt hXc e, closed_noV _ X hXc, ?_⟩
      have := same_formed _ _ _ _ hXt
      rw [show formedB (D + (n + 1)) X = formedB (D + n + 1) X from rfl, this]
      exact right_formed.1 rt
    · rw [if_neg h5] at hput
      obtain ⟨e1, e2, e3⟩ := hput
      have gX : good (hdOf (D + n) X) = true := by
        have : good (hdOf (D + n) X) = good (hdOf n p) := by unfold hdOf; rw [e1, e2]; exact good_hd
        rw [this]; exact gp
      by_cases h6 : p.1.1 = 6
      · have hp0 : p.2.2 = [] := List.eq_nil_of_length_eq_zero ((good_parts (hdOf n p) gp).2.2.2.2 (by show p.1.1 ≠ 4; omega))
        have hX0 : X.2.2 = [] := List.eq_nil_of_length_eq_zero (by rw [e2, hp0]; rfl)
        have k6 : X.1.1 = 6 := by rw [e1]; exact h6
        refine ⟨?_, ?_, ?_⟩
        · show fit (D + n + 1) X (m + 1) t e = some e
          simp only [fit, if_pos k6]
        · show noV (D + n + 1) X = true
          simp [noV, k6, hX0]
        · show formedB (D + n + 1) X = true
          simp [formedB, gX, hX0]
      rw [if_neg h6, if_neg h5] at h
      have k5 : ¬ X.1.1 = 5 := by rw [e1]; exact h5
      have k6 : ¬ X.1.1 = 6 := by rw [e1]; exact h6
      by_cases h4 : p.1.1 = 4
      · rw [if_pos h4] at h
        have k4 : X.1.1 = 4 := by rw [e1]; exact h4
        split at h
        · rename_i htl
          obtain ⟨r1, r2, r3⟩ := fitL_put D l d n m e (fun p t b c hf hx hc rt rp X hX => fit_put D l d hd e n p m t b c hf hx hc rt rp X hX) p.2.2 t.2.2 X.2.2 b c h hx (closed_parts hc).2.2 (fun y hy => parts_right m t y rt hy) (fun y hy => parts_right n p y rp hy) htl.2 e2 e3
          refine ⟨?_, ?_, ?_⟩
          · show fit (D + n + 1) X (m + 1) t e = some e
            simp only [fit, if_neg k6, if_neg k5, if_pos k4]
            rw [if_pos ⟨htl.1, by rw [e2]; exact htl.2⟩]
            exact r1
          · show noV (D + n + 1) X = true
            simp only [noV, r2, Bool.and_true]
            simpa using k5
          · show formedB (D + n + 1) X = true
            simp only [formedB, gX, r3, Bool.or_true, Bool.and_self]
        · cases h
      · rw [if_neg h4] at h
        have k4 : ¬ X.1.1 = 4 := by rw [e1]; exact h4
        have hp0 : p.2.2 = [] := List.eq_nil_of_length_eq_zero ((good_parts (hdOf n p) gp).2.2.2.2 h4)
        have hX0 : X.2.2 = [] := List.eq_nil_of_length_eq_zero (by rw [e2, hp0]; rfl)
        split at h
        · rename_i hs
          obtain ⟨s1, s2⟩ := same_parts hs
          have hXt : same (D + n + 1) X (m + 1) t = true := same_mk (e1.trans s1) (by
            rw [hp0] at s2
            rw [hX0]
            cases ht : t.2.2 with
            | nil => rfl
            | cons a r => rw [ht] at s2; simp [sameL] at s2)
          refine ⟨?_, ?_, ?_⟩
          · show fit (D + n + 1) X (m + 1) t e = some e
            simp only [fit, if_neg k6, if_neg k5, if_neg k4, if_pos hXt]
          · show noV (D + n + 1) X = true
            simp only [noV, hX0, List.all_nil, Bool.and_true]
            simpa using k5
          · show formedB (D + n + 1) X = true
            simp only [formedB, gX, hX0, List.all_nil, Bool.or_true, Bool.and_self]
        · cases h
end Go.Proofs.Ytbmjfnicfpdjfaa
