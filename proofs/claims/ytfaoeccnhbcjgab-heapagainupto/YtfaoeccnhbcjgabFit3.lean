/- What is proved here: match.bindings' fitAll and fits, of right terms that lie in memory and four right terms that are owned: they return whether the plain functions find something, leave that in the owned row, and turn no other memory that was there. No condition but those. -/
import Derived.Test.YtfaoeccnhbcjgabFit2
namespace Go.Proofs.Ytfaoeccnhbcjgab
open Go.RowKit

theorem grown_cells {w w' : World} {g : Nat} (h : w.grownBy w' (some g)) : ∀ b o, b < w.heap.size → b ≠ g → w'.cell? ⟨b, o, none⟩ = w.cell? ⟨b, o, none⟩ :=
  fun b o hb hne => World.cell?_of_block (a := ⟨b, o, none⟩) (h.block b hb (by simpa using hne))
theorem grown_undrew {w w' : World} {row : Option Nat} (h : w.drew.grownBy w' row) : w.grownBy w' row := ⟨h.os, h.tape, h.output, h.size, h.block⟩
theorem grown_drew {w w' : World} {row : Option Nat} (h : w.grownBy w' row) : w.grownBy w'.drew row := ⟨h.os, h.tape, h.output, h.size, h.block⟩

theorem fitAll_ne (p q : Nat) (a a' : Option Addr) (pc qc : Nat) (g c : Nat) (base : Nat) (w : World) (_hpc : p ≤ 9223372036854775807) (_hqc : q ≤ 9223372036854775807) (hl : ((p : Int) == (q : Int)) = false) :
    Calls Try.prog 73 #[.slice (some ⟨g, 0, none⟩) 4 c, .slice a p pc, .slice a' q qc] w (FitPost base g c none w) := by
  have hl' : ((p : Int) != (q : Int)) = true := by simpa using hl
  go_enter Try.func73, Try.ntmps73
  go_wp2_with fail
  go_ret
  exact ⟨rfl, World.grownBy.refl _ _, fun b e => by cases e⟩

theorem fitAll_nil (a a' : Option Addr) (pc qc : Nat) (g c : Nat) (base : Nat) (b : List An) (w : World) (H : Has base g c b w) :
    Calls Try.prog 73 #[.slice (some ⟨g, 0, none⟩) 4 c, .slice a 0 pc, .slice a' 0 qc] w (FitPost base g c (some b) w) := by
  have HH := hide H
  clear H
  go_enter Try.func73, Try.ntmps73
  go_wp2_with fail
  go_loop [16] (fun i => i = .int .i64 0) (fun _ => 0)
  case atStart => rfl
  case round =>
    obtain rfl := hrel
    go_wp2_with fail
    go_ret
    exact ⟨rfl, World.grownBy.refl _ _, fun b' e => by obtain rfl := Option.some.inj e; exact HH.out⟩

set_option maxHeartbeats 1000000 in
theorem fitAll_eq (n m : Nat) (ih : FFit n) (p : List (Tm n)) (q : List (Tm m)) (len : Nat) (hpl : Hid (p.length = len)) (hql : Hid (q.length = len)) (pb po qb qo pc qc : Nat) (b : List An) (base g c B : Nat) (w : World)
    (hlen : len ≤ 9223372036854775807) (hpb : pb < B) (hqb : qb < B)
    (hp : ∀ (i : Nat) (y : Tm n), p[i]? = some y → Held w pb (po + i * 4) n y ∧ In B w n y)
    (hq : ∀ (i : Nat) (y : Tm m), q[i]? = some y → Held w qb (qo + i * 4) m y ∧ In B w m y)
    (hrp : ∀ y ∈ p, RightA ⟨n, y⟩) (hrq : ∀ y ∈ q, RightA ⟨m, y⟩) (hb : Hid (Bnd B w b)) (hB : B ≤ base) (H : Hid (Has base g c b w)) :
    Calls Try.prog 73 #[.slice (some ⟨g, 0, none⟩) 4 c, .slice (some ⟨pb, po, none⟩) len pc, .slice (some ⟨qb, qo, none⟩) len qc] w (FitPost base g c (fitL (fun x y b => fit n x m y b) p q b) w) := by
  have hg1 : B ≤ g := Nat.le_trans hB H.out.lt.1
  have hg2 : g < w.heap.size := H.out.lt.2
  go_enter Try.func73, Try.ntmps73
  go_wp2_with fail
  go_loopw [16] (fun i wr => ∃ k : Nat, k ≤ len ∧ i = .int .i64 k ∧ Hid (w.grownBy wr (some g) ∧ ∃ b', Has base g c b' wr ∧ Bnd B wr b' ∧ fitL (fun x y b => fit n x m y b) (p.drop k) (q.drop k) b' = fitL (fun x y b => fit n x m y b) p q b)) (fun i _ => len - (intOf i).toNat)
  case atStart => exact ⟨0, by omega, rfl, World.grownBy.refl _ _, b, H.out, hb.out, rfl⟩
  case round =>
    obtain ⟨k, hk, rfl, HR⟩ := hrel
    by_cases hlt : k < len
    · obtain ⟨x, hx⟩ : ∃ x, p[k]? = some x := ⟨p[k]'(by rw [hpl.out]; exact hlt), List.getElem?_eq_getElem _⟩
      obtain ⟨y, hy⟩ : ∃ y, q[k]? = some y := ⟨q[k]'(by rw [hql.out]; exact hlt), List.getElem?_eq_getElem _⟩
      obtain ⟨HG, b', HH, HN, HF⟩ : Hid (w.grownBy wr (some g)) ∧ ∃ b', Hid (Has base g c b' wr) ∧ Hid (Bnd B wr b') ∧ Hid (fitL (fun x y b => fit n x m y b) (p.drop k) (q.drop k) b' = fitL (fun x y b => fit n x m y b) p q b) := HR.out
      clear HR
      obtain ⟨hx1, hx2⟩ := hp k x hx
      obtain ⟨hy1, hy2⟩ := hq k y hy
      have HS := hide (fitL_drop (fun x y b => fit n x m y b) p q k x y hx hy b')
      have HRX := hide (hrp x (List.mem_of_getElem? hx))
      have HRY := hide (hrq y (List.mem_of_getElem? hy))
      have hbw := grown_below HG.out hg1 hg2
      replace hx1 := hx1.below hbw hpb
      replace hy1 := hy1.below hbw hqb
      replace hx2 := hx2.below hbw
      replace hy2 := hy2.below hbw
      have hgr : g < wr.heap.size := Nat.lt_of_lt_of_le hg2 HG.out.size
      have hB' : B ≤ wr.heap.size := by omega
      clear hp hq hx hy hrp hrq hb H hbw
      cases n with
      | zero => exact hx1.elim
      | succ n =>
      cases m with
      | zero => exact hy1.elim
      | succ m =>
      obtain ⟨x0, x1, x2, x3⟩ := hx1
      obtain ⟨y0, y1, y2, y3⟩ := hy1
      have HC : Hid (∀ (w1 : World), Below wr.heap.size wr w1 → Calls Try.prog 55 #[.slice (some ⟨g, 0, none⟩) 4 c, .agg #[.int .i64 x.1.1, .int .i64 x.1.2.1, .string x.1.2.2, .slice x.2.1.1 x.2.2.length x.2.1.2], .agg #[.int .i64 y.1.1, .int .i64 y.1.2.1, .string y.1.2.2, .slice y.2.1.1 y.2.2.length y.2.1.2]] w1 (FitPost base g c (fit (n + 1) x (m + 1) y b') w1)) :=
        fun w1 h1 => ih x (m + 1) y b' base g c B w1 (hx2.below (h1.mono hB')) (hy2.below (h1.mono hB')) HRX.out HRY.out (HN.out.below (h1.mono hB')) hB (HH.out.below h1)
      have HK : Hid (∀ r b2, fit (n + 1) x (m + 1) y b' = r → r = some b2 → Bnd B wr b2) := fun r b2 e1 e2 => HN.out.fit hy2 HRY.out (e1.trans e2)
      clear ih hx2 hy2 HRX HRY HN
      replace HS : Hid (fitL (fun x y b => fit (n + 1) x (m + 1) y b) (p.drop k) (q.drop k) b' = (fit (n + 1) x (m + 1) y b').bind (fitL (fun x y b => fit (n + 1) x (m + 1) y b) (p.drop (k + 1)) (q.drop (k + 1)))) := HS
      generalize fit (n + 1) x (m + 1) y b' = r at *
      generalize x.2.2.length = xl at *
      generalize y.2.2.length = yl at *
      have hk1 : (0 : Int) ≤ (k : Int) := by omega
      have hk2 : (k : Int) < (len : Int) := by omega
      have hpw : pb < wr.heap.size := by omega
      have hqw : qb < wr.heap.size := by omega
      have hqw1 : qb < wr.heap.size + 1 := by omega
      have hqg : qb ≠ g := by omega
      have hwg : wr.heap.size ≠ g := by omega
      have HCD := hide (HC.out (wr.alloc (.cells #[.int .i64 x.1.1, .int .i64 x.1.2.1, .string x.1.2.2, .slice x.2.1.1 xl x.2.1.2] 24)).drew (((Below.refl _ _).alloc (Nat.le_refl _) _).drew))
      clear HC
      go_wp2_with fail
      go_region_held3 (fun w' => w'.cell? ⟨wr.heap.size, 0, none⟩ = some (.int .i64 x.1.1) ∧ w'.cell? ⟨wr.heap.size, 1, none⟩ = some (.int .i64 x.1.2.1) ∧ w'.cell? ⟨wr.heap.size, 2, none⟩ = some (.string x.1.2.2) ∧ w'.cell? ⟨wr.heap.size, 3, none⟩ = some (.slice x.2.1.1 xl x.2.1.2)
          ∧ w'.cell? ⟨qb, qo + k * 4, none⟩ = some (.int .i64 y.1.1) ∧ w'.cell? ⟨qb, qo + k * 4 + 1, none⟩ = some (.int .i64 y.1.2.1) ∧ w'.cell? ⟨qb, qo + k * 4 + 2, none⟩ = some (.string y.1.2.2) ∧ w'.cell? ⟨qb, qo + k * 4 + 3, none⟩ = some (.slice y.2.1.1 yl y.2.1.2))
        (go_keep) ((go_at_call 55; refine HCD.out.mono ?_; rintro e w1 ⟨rfl, hgr1, hhas1⟩; have hcc := grown_cells (grown_undrew hgr1); have HG1 := hide (grown_undrew hgr1); have HH1 := hide hhas1; clear hgr1 hhas1))
      have HG2 : Hid (w.grownBy w1 (some g)) := grown_trans HG.out (grown_trans (World.grownBy_alloc wr _ _) HG1.out)
      clear hcc
      cases r with
      | some b2 =>
        have HN2 : Hid (Bnd B w1 b2) := (HK.out _ b2 rfl rfl).below ((((Below.refl _ _).alloc (Nat.le_refl _) _).mono hB').trans (grown_below HG1.out hg1 (by simp; omega)))
        clear HK
        simp only [Option.isSome_some]
        go_wp2_with fail
        go_roundw
        case rel => exact ⟨k + 1, by omega, by go_num, HG2.out, b2, HH1.out b2 rfl, HN2.out, by rw [← HF.out, HS.out]; rfl⟩
        case measure => simp [intOf]; omega
      | none =>
        clear HK
        simp only [Option.isSome_none]
        go_wp2_with fail
        go_ret
        have ho : fitL (fun x y b => fit (n + 1) x (m + 1) y b) p q b = none := by rw [← HF.out, HS.out]; rfl
        rw [ho]
        exact ⟨rfl, HG2.out, fun b' e => by cases e⟩
    · obtain ⟨HG, b', HH, HN, HF⟩ : Hid (w.grownBy wr (some g)) ∧ ∃ b', Hid (Has base g c b' wr) ∧ Hid (Bnd B wr b') ∧ Hid (fitL (fun x y b => fit n x m y b) (p.drop k) (q.drop k) b' = fitL (fun x y b => fit n x m y b) p q b) := HR.out
      clear HR
      go_wp2_with fail
      go_ret
      have ho : fitL (fun x y b => fit n x m y b) p q b = some b' := by rw [← HF.out, List.drop_eq_nil_of_le (by rw [hpl.out]; omega)]; rfl
      rw [ho]
      exact ⟨rfl, HG.out, fun b2 e => by obtain rfl := Option.some.inj e; exact HH.out⟩
end Go.Proofs.Ytfaoeccnhbcjgab
