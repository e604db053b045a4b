/- What is proved here: plain facts and contracts that the claimed theorem stands on, several texts in one: what the small program of the statements does with a number, as the plain function of a step says: one more is sent. No condition. proc's doing.link: a process is put behind those that one links with. No condition but that all lies in memory. a law for a region that draws its order: loads may be taken first under a condition on the world that need not hold behind one last operation, which waits for them. No condition but that. proc's doing.send: a message is put behind those that are sent. No condition but that all lies in memory. -/
import Derived.Test.YtbmjfnicfpdjfaaG12
import Derived.Test.YtbmjfnicfpdjfaaG17
import Derived.Test.YtbmjfnicfpdjfaaG01
import Derived.OrdersHeld
namespace Go.Proofs.Ytbmjfnicfpdjfaa
open Go.RowKit

def pid2 : Tc := leafV 3 2 12
def msgN (u : Int) : Tc := tupV 12 [atomV wN 11, leafV 1 u 11]
def tk1 : Tk := ⟨msgN 4, 0, [(2, msgN 5)], [], [], pid2, []⟩
def an3 : List An := [⟨1, anyT⟩, ⟨1, anyT⟩, ⟨1, anyT⟩]
theorem fit_state : fit 3 (smV 0 2) 13 pid2 any4 = some (⟨13, pid2⟩ :: an3) := rfl
theorem same_n (N M : Nat) : same (N + 1) (atomV wN N) (M + 1) (atomV wN M) = true := same_mk rfl rfl
theorem fit_n (b : List An) : fit 2 (atomV wN 1) 12 (atomV wN 11) b = some b := by
  have h := same_n 1 11
  unfold fit
  rw [if_neg (by decide), if_neg (by decide), if_neg (by decide), if_pos h]
theorem fit_v : fit 2 (smV 1 1) 12 (leafV 1 4 11) (⟨13, pid2⟩ :: an3) = some [⟨13, pid2⟩, ⟨12, leafV 1 4 11⟩, ⟨1, anyT⟩, ⟨1, anyT⟩] := rfl
theorem fit_msg (g1 : Nat) : fit 3 (smM g1) 13 (msgN 4) (⟨13, pid2⟩ :: an3) = some [⟨13, pid2⟩, ⟨12, leafV 1 4 11⟩, ⟨1, anyT⟩, ⟨1, anyT⟩] := by
  refine (if_neg (show ¬ (4 : Int) = 6 by decide)).trans ((if_neg (show ¬ (4 : Int) = 5 by decide)).trans ((if_pos (show (4 : Int) = 4 from rfl)).trans ((if_pos (show (4 : Int) = 4 ∧ (2 : Nat) = 2 from ⟨rfl, rfl⟩)).trans ?_)))
  show (fit 2 (atomV wN 1) 12 (atomV wN 11) (⟨13, pid2⟩ :: an3)).bind (fun b => (fit 2 (smV 1 1) 12 (leafV 1 4 11) b).bind (fun b => some b)) = _
  rw [fit_n, Option.bind_some, fit_v]
  rfl
def bd4 : List Tc := [pid2, leafV 1 4 12, cn 1 anyT, cn 1 anyT]
theorem small_fit (g1 g2 g3 g4 : Nat) : fitC (smCl g1 g2 g3 g4) pid2 (msgN 4) = some bd4 := by
  unfold fitC
  have h1 : fit (2 + 1) (smCl g1 g2 g3 g4).1.1 13 pid2 any4 = some (⟨13, pid2⟩ :: an3) := fit_state
  have h2 : fit (2 + 1) (smCl g1 g2 g3 g4).1.2.1 13 (msgN 4) (⟨13, pid2⟩ :: an3) = _ := fit_msg g1
  rw [h1, Option.bind_some, h2]
  rfl
theorem vl_pid (self : Int) : vl 13 bd4 self 3 (smV 0 2) = some (lift 16 13 pid2) := rfl
theorem ne_put : (wN.toList == wPut.toList) = false := by
  simp [ByteArray.toList_eq, wN, wPut]
theorem isw_put (g2 : Nat) : isW 2 [atomV wN 1, smA g2] wPut 1 = false := by
  have h : isW 2 [atomV wN 1, smA g2] wPut 1 = (wN.toList == wPut.toList) := rfl
  rw [h, ne_put]
theorem isw_add : isW 1 [atomV wAddW 0, smV 1 0, leafV 1 1 0] wAdd 2 = true := by
  have h : isW 1 [atomV wAddW 0, smV 1 0, leafV 1 1 0] wAdd 2 = (wAddW.toList == wAdd.toList) := rfl
  rw [h]
  simp [ByteArray.toList_eq, wAddW, wAdd]
theorem vl_sum (g2 : Nat) : vl 13 bd4 1 2 (smA g2) = some (leafV 1 5 14) := by
  refine (if_neg (show ¬ (4 : Int) = 5 by decide)).trans ((if_neg (show ¬ (4 : Int) = 6 by decide)).trans ((if_pos (show (4 : Int) = 4 from rfl)).trans ((if_neg (show ¬ isW 1 [atomV wAddW 0, smV 1 0, leafV 1 1 0] wSelf 0 = true by exact Bool.false_ne_true)).trans ((if_pos isw_add).trans ?_))))
  rfl
theorem vl_n : vl 13 bd4 1 2 (atomV wN 1) = some (lift 15 2 (atomV wN 1)) := rfl
theorem vl_what (g2 g3 : Nat) : vl 13 bd4 1 3 (smW g2 g3) = some (tupV 15 [lift 15 2 (atomV wN 1), leafV 1 5 14]) := by
  refine (if_neg (show ¬ (4 : Int) = 5 by decide)).trans ((if_neg (show ¬ (4 : Int) = 6 by decide)).trans ((if_pos (show (4 : Int) = 4 from rfl)).trans ((if_neg (show ¬ isW 2 [atomV wN 1, smA g2] wSelf 0 = true by exact Bool.false_ne_true)).trans ((if_neg (show ¬ isW 2 [atomV wN 1, smA g2] wAdd 2 = true by exact Bool.false_ne_true)).trans ((if_neg (show ¬ isW 2 [atomV wN 1, smA g2] wPut 1 = true by rw [isw_put]; exact Bool.false_ne_true)).trans ?_)))))
  show ((vl 13 bd4 1 2 (atomV wN 1)).bind fun b => ((vl 13 bd4 1 2 (smA g2)).bind fun c => some [c]).map fun l => b :: l).map (tupV 15) = _
  rw [vl_n, vl_sum]
  rfl
theorem chk_pid : chk 16 (lift 16 13 pid2) = 0 := by
  have hf : formedB 16 (lift 16 13 pid2) = true := by
    rw [← right_formed]
    intro a ha
    have ha : a ∈ [(((3, 2, .empty), (none, 0, 0)) : Nd)] := ha
    obtain rfl := List.mem_singleton.1 ha
    simp [good, inB]
  exact chk_iff.2 ⟨hf, by decide, by decide⟩
theorem name_n : nameB wN = true := by simp [nameB, wN, inB, lowsB, lowB, show (⟨#[110]⟩ : ByteArray).size = 1 from rfl]
theorem chk_what : chk 16 (tupV 15 [lift 15 2 (atomV wN 1), leafV 1 5 14]) = 0 := by
  have hf : formedB 16 (tupV 15 [lift 15 2 (atomV wN 1), leafV 1 5 14]) = true := by
    rw [← right_formed]
    intro a ha
    have ha : a ∈ [(((4, 0, .empty), (none, 2, 0)) : Nd), ((2, 0, wN), (none, 0, 0)), ((1, 5, .empty), (none, 0, 0))] := ha
    simp only [List.mem_cons, List.not_mem_nil, or_false] at ha
    rcases ha with rfl | rfl | rfl
    · simp [good]
    · simp [good, name_n]
    · simp [good, inB]
  exact chk_iff.2 ⟨hf, by decide, by decide⟩
theorem vlC_pid : vlC bd4 1 3 (smV 0 2) = some pid2 := by
  unfold vlC
  rw [vl_pid, Option.bind_some, if_pos chk_pid]
  rfl
theorem vlC_what (g2 g3 : Nat) : vlC bd4 1 3 (smW g2 g3) = some (msgN 5) := by
  unfold vlC
  rw [vl_what, Option.bind_some, if_pos chk_what]
  rfl
theorem pidC_to : pidC bd4 1 3 (smV 0 2) = some 2 := by
  unfold pidC
  rw [vlC_pid]
  rfl
theorem small_do (g2 g3 : Nat) : doL 1 [smAct g2 g3] ⟨bd4, 2, [], [], [], false⟩ = some ⟨bd4, 2, [(2, msgN 5)], [], [], false⟩ := by
  show (doA 1 (smAct g2 g3) ⟨bd4, 2, [], [], [], false⟩).bind (fun d => some d) = _
  have h : doA 1 (smAct g2 g3) ⟨bd4, 2, [], [], [], false⟩ = some ⟨bd4, 2, [(2, msgN 5)], [], [], false⟩ := by
    refine (if_pos (show (1 : Int) = 1 from rfl)).trans ?_
    show ((pidC bd4 1 3 (smV 0 2)).bind fun u => (vlC bd4 1 3 (smW g2 g3)).map fun t => (⟨bd4, 2, [] ++ [(u, t)], [], [], false⟩ : Dg)) = _
    rw [pidC_to, Option.bind_some, vlC_what]
    rfl
  rw [h]
  rfl
theorem small_fol (g1 g2 g3 g4 : Nat) : folC 100 1 2 pid2 (msgN 4) [] (smCl g1 g2 g3 g4) bd4 = tk1 := by
  have hd : doL 1 (smCl g1 g2 g3 g4).2.2 ⟨bd4, 2, [], [], [], false⟩ = _ := small_do g2 g3
  have hv : vlC bd4 1 (2 + 1) (smCl g1 g2 g3 g4).1.2.2 = some pid2 := vlC_pid
  unfold folC
  rw [hd]
  simp only [hv]
  rw [if_pos (by decide)]
  rfl
theorem small_step (g1 g2 g3 g4 g5 : Nat) : stpC 100 [smBh g1 g2 g3 g4 g5] wRelay 1 2 pid2 [msgN 4] = some tk1 := by
  have hc : clsOf wRelay [smBh g1 g2 g3 g4 g5] = [smCl g1 g2 g3 g4] := by
    unfold clsOf
    have : bhOf (2 + 1) wRelay [smBh g1 g2 g3 g4 g5] = some (smBh g1 g2 g3 g4 g5) := if_pos (show wRelay = wRelay from rfl)
    rw [this]
    rfl
  have hs : chs [smCl g1 g2 g3 g4] pid2 [msgN 4] 0 = some (0, smCl g1 g2 g3 g4, bd4) := by
    simp only [chs, clsC, small_fit]
  unfold stpC
  rw [hc, hs]
  show some (folC 100 1 2 pid2 (msgN 4) [] (smCl g1 g2 g3 g4) bd4) = _
  rw [small_fol]
end Go.Proofs.Ytbmjfnicfpdjfaa
namespace Go.Proofs.Ytbmjfnicfpdjfaa
open Go.RowKit

theorem infoNum : (Try.prog.info? 3).map (fun i => (i.zero, i.size, i.bytes)) = some (some (.int .i64 0), 1, 8) := by kernel_rfl
/-- What link leaves: where it can't be done, nothing; else a number more behind those that there are. -/
def LkOut (base db : Nat) (va : Option Addr) (L vc : Nat) (xs : List Value) (t : Bool) (F : Int → Prop) (w : World) (e : Ending) (w' : World) : Prop :=
  e = .returned (.bool t) ∧ (t = false → Below w.heap.size w w') ∧
    (t = true → ∃ u g c w3, F u ∧ w3.ownsRow base 3 1 (.slice (some ⟨g, 0, none⟩) (L + 1) c) (L + 1) (xs ++ [.int .i64 u]) ∧ Kee (fun q => (Value.slice va L vc).ownBlock = some q) w w3 ∧ ((Value.slice va L vc).ownBlock = some g ∨ w.heap.size ≤ g) ∧ w' = w3.setCell ⟨db, 5, none⟩ (.slice (some ⟨g, 0, none⟩) (L + 1) c))
set_option maxRecDepth 100000 in
set_option maxHeartbeats 4000000 in
theorem link_walk (k x0 x1 : Int) (x2 : ByteArray) (xa : Option Addr) (xl xc : Nat) (y0 y1 : Int) (y2 : ByteArray) (ya : Option Addr) (yl yc : Nat) (nm : ByteArray) (vr : Int) (base db : Nat) (va : Option Addr) (L vc : Nat) (xs : List Value) (w : World) (t : Bool) (F : Int → Prop) (hL : L ≤ 10000) (hdb : db < w.heap.size) (hbase : base ≤ w.heap.size)
    (HC : Hid (w.cell? ⟨db, 5, none⟩ = some (.slice va L vc) ∧ w.frozen? ⟨db, 5, none⟩ = false)) (HR : Hid (w.ownsRow base 3 1 (.slice va L vc) L xs)) (HN : Hid ((Value.slice va L vc).ownBlock ≠ some db))
    (HP : Hid (∀ W, Below w.heap.size w W → Calls Try.prog 91 #[.pointer (some ⟨db, 0, none⟩), .agg #[.int .i64 x0, .int .i64 x1, .string x2, .slice xa xl xc]] W fun e w' => ∃ u, e = .returned (.tuple #[.int .i64 u, .bool t]) ∧ Hid (Below W.heap.size W w' ∧ F u))) :
    Calls Try.prog 77 #[.pointer (some ⟨db, 0, none⟩), .agg #[.int .i64 k, .int .i64 x0, .int .i64 x1, .string x2, .slice xa xl xc, .int .i64 y0, .int .i64 y1, .string y2, .slice ya yl yc, .string nm, .int .i64 vr]] w (LkOut base db va L vc xs t F w) := by
  obtain ⟨it, hit, htz0, htz1, htz2⟩ := info_parts infoNum
  have HIT : Hid (Try.prog.info? 3 = some it ∧ it.zero = some (.int .i64 0) ∧ it.size = 1 ∧ it.bytes = 8) := ⟨hit, htz0, htz1, htz2⟩
  clear hit htz0 htz1 htz2
  have HW : Hid (∃ w0, w0 = w.alloc (.cells #[.int .i64 k, .int .i64 x0, .int .i64 x1, .string x2, .slice xa xl xc, .int .i64 y0, .int .i64 y1, .string y2, .slice ya yl yc, .string nm, .int .i64 vr] 91) ∧ Below w.heap.size w w0) := ⟨_, rfl, (Below.refl _ _).alloc (Nat.le_refl _) _⟩
  go_enter Try.func77, Try.ntmps77
  go_wp2_with fail
  obtain ⟨w0, hw0, hb0⟩ := HW.out
  rw [← hw0]
  have HB0 := hide hb0
  clear hw0 hb0 HW
  refine (HP.out _ HB0.out).mono ?_
  rintro e w2 ⟨u, rfl, H2⟩
  have HB2 := hide (HB0.out.trans (H2.out.1.mono HB0.out.size))
  have HF := hide H2.out.2
  clear H2 HP HB0
  cases t
  · go_wp2_with fail
    go_ret
    exact ⟨rfl, fun _ => HB2.out, fun h => (by cases h)⟩
  · have c5 : w2.cell? ⟨db, 5, none⟩ = some (.slice va L vc) := (HB2.out.cell (p := ⟨db, 5, none⟩) hdb).trans HC.out.1
    have HO : Hid (w2.ownsRow base 3 1 (.slice va L vc) L xs) := row_kee HR.out (kee_below HB2.out fun _ => False) fun _ _ h => h
    have HSZ := hide HB2.out.size
    have HFZ : Hid (w2.frozen? ⟨db, 5, none⟩ = false) := by
      have hf := HC.out.2
      unfold World.frozen? at hf ⊢
      rw [HB2.out.block db hdb]
      exact hf
    go_wp2_with (first
      | (at_builtin; refine wpList_append_lies _ rfl _ _ 27 rfl base 3 it _ 1 8 Try.underlying27 HIT.out.1 HIT.out.2.1 HIT.out.2.2.1 HIT.out.2.2.2 rfl (by decide) (.slice va L vc) L xs rfl (HO.out.alloc _) ⟨w2.heap.size, 0, none⟩ 1 1 [.int .i64 u] rfl rfl (World.news_of_block (cs := #[.int .i64 u]) (t := 3) (fr := (0, 0)) (heap_alloc_new w2 _)) (by simp [Value.oneCell']) (by decide) (by unfold maxLen; omega) (by omega) (by have := HSZ.out; simp; omega) _ rfl ?_; intro g5 c5' w5 hown5 hgrow5 hat5 hlt5; have HO5 := hide hown5; have HG5 := hide hgrow5; have HA5 := hide hat5; have e5 : w5.cell? ⟨db, 5, none⟩ = some (.slice va L vc) := (hgrow5.cell_far ⟨db, 5, none⟩ (by show db < _; have := HSZ.out; simp; omega) (fun e => HN.out e.symm)).trans (((Below.refl _ _).alloc (Nat.le_refl _) _ |>.cell (p := ⟨db, 5, none⟩) (by show db < _; have := HSZ.out; omega)).trans c5); have f5 : w5.frozen? ⟨db, 5, none⟩ = false := (hgrow5.frozen_far ⟨db, 5, none⟩ (by show db < _; have := HSZ.out; simp; omega) (fun e => HN.out e.symm)).trans (by have hf := HFZ.out; unfold World.frozen? at hf ⊢; rw [((Below.refl _ _).alloc (Nat.le_refl _) (.cells #[.int .i64 u] 3)).block db (by have := HSZ.out; omega)]; exact hf); clear hown5 hgrow5 hat5 hlt5))
    go_ret
    refine ⟨rfl, fun h => (by cases h), fun _ => ⟨u, g5, c5', w5, HF.out, HO5.out, ?_, ?_, rfl⟩⟩
    · exact Kee.trans (kee_below (HB2.out.alloc HB2.out.size _) _) (kee_grown HG5.out) fun _ _ e => e
    · rcases HA5.out with e | e
      · exact Or.inl e
      · have := HSZ.out
        simp at e
        exact Or.inr (by omega)
end Go.Proofs.Ytbmjfnicfpdjfaa
namespace Go.Proofs.Ytbmjfnicfpdjfaa
open Go.RowKit

section
variable {P : Program} {ops : Array Oper} {Q : Exit → Act → World → Prop} {md : Region.Mode} {S : World → Prop} {X : Nat}

/-- Whatever order is picked from here on; S holds behind every operation but X. -/
def wpAnyX (P : Program) (md : Region.Mode) (ops : Array Oper) (Q : Exit → Act → World → Prop) (S : World → Prop) (X : Nat) : Nat → Array Bool → Act → World → Prop
  | 0, listed, a, w => Region.ready md ops listed = [] ∧ Q .normal a w
  | fuel + 1, listed, a, w =>
    (Region.ready md ops listed = [] → Q .normal a w) ∧
    ∀ i ∈ Region.ready md ops listed, wpOp P ops Q i (fun a' w' => (i ≠ X → S w') ∧ wpAnyX P md ops Q S X fuel (listed.setIfInBounds i true) a' w') a w
theorem wpAny_of_x : ∀ (fuel : Nat) (listed : Array Bool) (a : Act) (w : World), wpAnyX P md ops Q S X fuel listed a w → wpAny P md ops Q fuel listed a w
  | 0, _, _, _, h => h
  | fuel + 1, _, _, _, h => ⟨h.1, fun i hi => wpOp_mono (fun a' w' h' => wpAny_of_x fuel _ a' w' h'.2) (h.2 i hi)⟩
theorem wpAnyX_first {i : Nat} {oi : Oper} {v : Value} (hi : ops[i]? = some oi) (hsel : ∀ (j : Nat) (o : Oper) cs b, ops[j]? = some o → o.op ≠ .select cs b)
    (hQ : ∀ c a w, Q (.panic c) (a.put oi.dst v) w → Q (.panic c) a w) (hX : ∀ oj, ops[X]? = some oj → ∃ e ∈ oj.after, Region.binds md e = true ∧ e.on = i) :
    ∀ (fuel : Nat) (listed : Array Bool) (a : Act) (w : World),
      (∀ j oj, ops[j]? = some oj → j ≠ i → listed.getD j true = false → (∀ e ∈ oj.after, Region.binds md e = true → e.on ≠ i) → oi.apart ops oj = true) →
      i ∈ Region.ready md ops listed → YieldsIf P ops S oi v a → S w →
      wpAnyX P md ops Q S X fuel (listed.setIfInBounds i true) (a.put oi.dst v) w → wpAnyX P md ops Q S X (fuel + 1) listed a w := by
  intro fuel
  induction fuel with
  | zero =>
    intro listed a w _ hr hy hS H
    refine ⟨fun h => (by rw [h] at hr; cases hr), fun j hj => ?_⟩
    by_cases hji : j = i
    · subst hji; exact hy.wpOp hi hS ⟨fun _ => hS, H⟩
    · have := ready_mono hj hji
      rw [H.1] at this
      cases this
  | succ fuel ih =>
    intro listed a w hfree hr hy hS H
    refine ⟨fun h => (by rw [h] at hr; cases hr), fun j hj => ?_⟩
    by_cases hji : j = i
    · subst hji; exact hy.wpOp hi hS ⟨fun _ => hS, H⟩
    · have h1 := H.2 j (ready_mono hj hji)
      obtain ⟨hjun, oj, hoj, hall⟩ := mem_ready.1 hj
      have hnot : ∀ e ∈ oj.after, Region.binds md e = true → e.on ≠ i := fun e he hb heq => by
        have h1 := hall e he hb
        have h0 := (mem_ready.1 hr).1
        rw [heq] at h1
        rcases Nat.lt_or_ge i listed.size with h' | h'
        · simp [h'] at h0 h1; rw [h0] at h1; cases h1
        · simp [Array.getElem?_eq_none h'] at h1
      have hne : j ≠ X := fun e => by
        obtain ⟨e1, he1, hb1, ho1⟩ := hX oj (by rw [← e]; exact hoj)
        exact hnot e1 he1 hb1 ho1
      have h2 := wpOp_putIf hoj (hfree j oj hoj hji hjun hnot) (fun cs b => hsel i oi cs b hi) (fun cs b => hsel j oj cs b hoj) hQ hy h1
      have hfree' : ∀ k ok, ops[k]? = some ok → k ≠ i → (listed.setIfInBounds j true).getD k true = false →
          (∀ e ∈ ok.after, Region.binds md e = true → e.on ≠ i) → oi.apart ops ok = true := fun k ok hk hki hun hno => by
        refine hfree k ok hk hki ?_ hno
        by_cases hjk : j = k
        · subst hjk; exact hjun
        · rw [getD_set_ne true hjk] at hun; exact hun
      refine wpOp_mono (fun a' w' h3 => ⟨fun _ => h3.2.1 hne, ih (listed.setIfInBounds j true) a' w' hfree' (ready_mono hr (Ne.symm hji)) h3.1 (h3.2.1 hne) ?_⟩) h2
      rw [Array.setIfInBounds_comm _ _ hji]
      exact h3.2.2
/-- Operation X waits for operation i. -/
def waitsB (md : Region.Mode) (ops : Array Oper) (X i : Nat) : Bool := ((ops[X]?).map fun o => o.after.any fun e => Region.binds md e && e.on == i).getD false
theorem waits_spec {i : Nat} (h : waitsB md ops X i = true) : ∀ oj, ops[X]? = some oj → ∃ e ∈ oj.after, Region.binds md e = true ∧ e.on = i := fun oj hj => by
  unfold waitsB at h
  rw [hj] at h
  simp only [Option.map_some, Option.getD_some, Array.any_eq_true] at h
  obtain ⟨k, hk, h⟩ := h
  simp only [Bool.and_eq_true, beq_iff_eq] at h
  exact ⟨_, Array.getElem_mem hk, h.1, h.2⟩
theorem wpAnyX_take {i : Nat} {oi : Oper} {v : Value} {fuel : Nat} {listed : Array Bool} {a : Act} {w : World} (hi : ops[i]? = some oi)
    (hs : Region.noSelect ops = true) (hf : Region.free md ops listed i = true) (hr : (Region.ready md ops listed).contains i = true) (hx : waitsB md ops X i = true)
    (hQ : ∀ c a w, Q (.panic c) (a.put oi.dst v) w → Q (.panic c) a w) (hg : oi.guard = none) (hy : ∀ w, S w → (execOp a.eval oi).run P w = .ok (.value v) w) (hS : S w)
    (h : wpAnyX P md ops Q S X fuel (listed.setIfInBounds i true) (a.put oi.dst v) w) : wpAnyX P md ops Q S X (fuel + 1) listed a w :=
  wpAnyX_first hi (Region.noSelect_spec hs) hQ (waits_spec hx) fuel listed a w (Region.free_spec hi hf) (by simpa using hr) (Or.inl ⟨by simp [Region.wanted, hg], hy⟩) hS h
/-- Only one may come up. -/
theorem wpAnyX_one {i : Nat} {o : Oper} {fuel : Nat} {listed : Array Bool} {a : Act} {w : World} (hr : Region.ready md ops listed = [i]) (ho : ops[i]? = some o) (hg : o.guard = none)
    (h : ∀ K : Act → World → Prop, Hid (∀ a' w', (i ≠ X → S w') → (S w' → wpAnyX P md ops Q S X fuel (listed.setIfInBounds i true) a' w') → K a' w') → o.wp P a w K Q) (hne : i ≠ X) : wpAnyX P md ops Q S X (fuel + 1) listed a w := by
  refine ⟨fun h0 => (by rw [hr] at h0; cases h0), fun j hj => ?_⟩
  rw [hr] at hj
  obtain rfl : j = i := by simpa using hj
  unfold wpOp
  simp only [ho]
  have hw : Region.wanted o (yielded ops a.tmps) = true := by simp [Region.wanted, hg]
  simp only [hw, if_true]
  exact Or.inl (h _ fun a' w' h1 h2 => ⟨h1, h2 (h1 hne)⟩)
/-- The last one. -/
theorem wpAnyX_last {o : Oper} {fuel : Nat} {listed : Array Bool} {a : Act} {w : World} (hr : Region.ready md ops listed = [X]) (ho : ops[X]? = some o) (hg : o.guard = none) (hd : Region.ready md ops (listed.setIfInBounds X true) = [])
    (h : ∀ K : Act → World → Prop, Hid (∀ a' w', Q .normal a' w' → K a' w') → o.wp P a w K Q) : wpAnyX P md ops Q S X (fuel + 1) listed a w := by
  refine ⟨fun h0 => (by rw [hr] at h0; cases h0), fun j hj => ?_⟩
  rw [hr] at hj
  obtain rfl : j = X := by simpa using hj
  unfold wpOp
  simp only [ho]
  have hw : Region.wanted o (yielded ops a.tmps) = true := by simp [Region.wanted, hg]
  simp only [hw, if_true]
  refine Or.inl (h _ fun a' w' h1 => ⟨fun h2 => absurd rfl h2, ?_⟩)
  cases fuel with
  | zero => exact ⟨hd, h1⟩
  | succ fuel => exact ⟨fun _ => h1, by rw [hd]; simp⟩
theorem wp_region_x (S : World → Prop) (X : Nat) {id : Nat} {a : Act} {w : World} (hm : P.follows .mixedOrders = true)
    (h : wpAnyX P .any ops Q S X ops.size (Array.replicate ops.size false) a w.drew) : (Code.region id ops true).wp P Q a w :=
  wp_region_any hm (wpAny_of_x _ _ _ _ h)
end
end Go.Proofs.Ytbmjfnicfpdjfaa
namespace Go.Proofs.Ytbmjfnicfpdjfaa
open Go.RowKit

theorem infoSend : (Try.prog.info? 44).map (fun i => (i.zero, i.size, i.bytes)) = some (some (.agg #[.int .i64 0, .int .i64 0, .int .i64 0, .string ⟨#[]⟩, .slice none 0 0]), 5, 64) := by kernel_rfl
def sd5 {N : Nat} (u : Int) (z : Tm (N + 1)) : List Value := [.int .i64 u, .int .i64 z.1.1, .int .i64 z.1.2.1, .string z.1.2.2, .slice z.2.1.1 z.2.2.length z.2.1.2]
/-- What send leaves: where it can't be done, nothing; else one more behind those that there are. -/
def SdOut (N base db : Nat) (va : Option Addr) (L vc : Nat) (xs : List Value) (t : Bool) (F : Int → Prop) (o : Option (Tm (N + 1))) (w : World) (e : Ending) (w' : World) : Prop :=
  e = .returned (.bool (t && o.isSome)) ∧ ((t && o.isSome) = false → Below w.heap.size w w') ∧
    ((t && o.isSome) = true → ∃ (u : Int) (z : Tm (N + 1)) (g c : Nat) (w3 : World), F u ∧ same (N + 1) z (N + 1) (o.getD (zeroV N)) = true ∧ In w3.heap.size w3 (N + 1) z ∧ Off (fun q => w.heap.size ≤ q ∧ q ≠ g) (N + 1) z ∧ w3.ownsRow base 44 5 (.slice (some ⟨g, 0, none⟩) (L + 1) c) (L + 1) (xs ++ sd5 u z) ∧ Kee (fun q => (Value.slice va L vc).ownBlock = some q) w w3 ∧ ((Value.slice va L vc).ownBlock = some g ∨ w.heap.size ≤ g) ∧ w' = w3.setCell ⟨db, 3, none⟩ (.slice (some ⟨g, 0, none⟩) (L + 1) c))
set_option maxRecDepth 100000 in
set_option maxHeartbeats 4000000 in
theorem send_walk (N : Nat) (k x0 x1 : Int) (x2 : ByteArray) (xa : Option Addr) (xl xc : Nat) (y0 y1 : Int) (y2 : ByteArray) (ya : Option Addr) (yl yc : Nat) (nm : ByteArray) (vr : Int) (base db : Nat) (va : Option Addr) (L vc : Nat) (xs : List Value) (w : World) (t : Bool) (F : Int → Prop) (o : Option (Tm (N + 1))) (hL : L ≤ 10000) (hdb : db < w.heap.size) (hbase : base ≤ w.heap.size)
    (HC : Hid (w.cell? ⟨db, 3, none⟩ = some (.slice va L vc) ∧ w.frozen? ⟨db, 3, none⟩ = false)) (HR : Hid (w.ownsRow base 44 5 (.slice va L vc) L xs)) (HN : Hid ((Value.slice va L vc).ownBlock ≠ some db))
    (HP : Hid (∀ W, Below w.heap.size w W → Calls Try.prog 91 #[.pointer (some ⟨db, 0, none⟩), .agg #[.int .i64 x0, .int .i64 x1, .string x2, .slice xa xl xc]] W fun e w' => ∃ u, e = .returned (.tuple #[.int .i64 u, .bool t]) ∧ Hid (Below W.heap.size W w' ∧ F u)))
    (HV : Hid (∀ W, Below w.heap.size w W → Calls Try.prog 47 #[.pointer (some ⟨db, 0, none⟩), .agg #[.int .i64 y0, .int .i64 y1, .string y2, .slice ya yl yc]] W (DvOut N o W))) :
    Calls Try.prog 75 #[.pointer (some ⟨db, 0, none⟩), .agg #[.int .i64 k, .int .i64 x0, .int .i64 x1, .string x2, .slice xa xl xc, .int .i64 y0, .int .i64 y1, .string y2, .slice ya yl yc, .string nm, .int .i64 vr]] w (SdOut N base db va L vc xs t F o w) := by
  obtain ⟨it, hit, htz0, htz1, htz2⟩ := info_parts infoSend
  have HIT : Hid (Try.prog.info? 44 = some it ∧ it.zero = some (.agg #[.int .i64 0, .int .i64 0, .int .i64 0, .string ⟨#[]⟩, .slice none 0 0]) ∧ it.size = 5 ∧ it.bytes = 64) := ⟨hit, htz0, htz1, htz2⟩
  clear hit htz0 htz1 htz2
  have HW : Hid (∃ w0 q, (w0 = w.alloc (.cells #[.int .i64 k, .int .i64 x0, .int .i64 x1, .string x2, .slice xa xl xc, .int .i64 y0, .int .i64 y1, .string y2, .slice ya yl yc, .string nm, .int .i64 vr] 91) ∧ q = w.heap.size) ∧ Below w.heap.size w w0 ∧ ∀ W, Below w0.heap.size w0 W → W.cell? ⟨q, 5, none⟩ = some (.int .i64 y0) ∧ W.cell? ⟨q, 6, none⟩ = some (.int .i64 y1) ∧ W.cell? ⟨q, 7, none⟩ = some (.string y2) ∧ W.cell? ⟨q, 8, none⟩ = some (.slice ya yl yc)) := by
    refine ⟨_, _, ⟨rfl, rfl⟩, (Below.refl _ _).alloc (Nat.le_refl _) _, fun W hW => ?_⟩
    have h := (hW.block w.heap.size (by simp)).trans (heap_alloc_new w _)
    exact ⟨cell_row h 5, cell_row h 6, cell_row h 7, cell_row h 8⟩
  go_enter Try.func75, Try.ntmps75
  go_wp2_with fail
  obtain ⟨w0, q, ⟨hw0, hq⟩, hb0, hc0⟩ := HW.out
  rw [← hw0, ← hq]
  have HB0 := hide hb0
  have HC0 := hide hc0
  clear hw0 hq hb0 hc0 HW
  refine (HP.out _ HB0.out).mono ?_
  rintro e w2 ⟨u, rfl, H2⟩
  have HB2 := hide (HB0.out.trans (H2.out.1.mono HB0.out.size))
  have HF := hide H2.out.2
  obtain ⟨e5, e6, e7, e8⟩ := HC0.out _ H2.out.1
  clear H2 HP
  cases t
  · go_wp2_with fail
    go_ret
    exact ⟨rfl, fun _ => HB2.out, fun h => (by cases h)⟩
  · go_wp2_with fail
    refine (HV.out _ HB2.out).mono ?_
    rintro e w3 ⟨z, rfl, H3⟩
    have HB3 := hide (HB2.out.trans (H3.out.1.mono HB2.out.size))
    cases o with
    | none =>
      simp only [Option.isSome_none]
      go_wp2_with fail
      go_ret
      exact ⟨rfl, fun _ => HB3.out.alloc HB3.out.size _, fun h => (by cases h)⟩
    | some y =>
      simp only [Option.isSome_some]
      have HZI := hide H3.out.2.1
      have HZO := hide H3.out.2.2.1
      have HZS := hide H3.out.2.2.2
      have HZB := hide HB2.out.size
      have HW4 : Hid (∃ w4 p, (w4 = w3.alloc (.cells #[.int .i64 z.1.1, .int .i64 z.1.2.1, .string z.1.2.2, .slice z.2.1.1 z.2.2.length z.2.1.2] 25) ∧ p = w3.heap.size) ∧ Below w3.heap.size w3 w4 ∧ w4.heap[p]? = some (.cells #[.int .i64 z.1.1, .int .i64 z.1.2.1, .string z.1.2.2, .slice z.2.1.1 z.2.2.length z.2.1.2] 25) ∧ w4.heap.size = w3.heap.size + 1) := ⟨_, _, ⟨rfl, rfl⟩, (Below.refl _ _).alloc (Nat.le_refl _) _, heap_alloc_new _ _, by simp⟩
      clear H3 HV
      go_wp2_with fail
      obtain ⟨w4, p, ⟨hw4, hp⟩, HS⟩ := HW4.out
      rw [← hw4, ← hp]
      have HQW : Hid (p = w3.heap.size) := hp
      replace HS := hide HS
      clear hw4 hp HW4
      have HB4 := hide (HB3.out.trans (HS.out.1.mono HB3.out.size))
      obtain ⟨ob, hob⟩ : ∃ ob : Obj, ob = .cells #[.int .i64 u, .int .i64 z.1.1, .int .i64 z.1.2.1, .string z.1.2.2, .slice z.2.1.1 z.2.2.length z.2.1.2] 44 := ⟨_, rfl⟩
      have HK : Hid (∀ W : World, Below w4.heap.size w4 W → W.cell? ⟨db, 3, none⟩ = some (.slice va L vc) ∧ W.cell? ⟨p, 0, none⟩ = some (.int .i64 z.1.1) ∧ W.cell? ⟨p, 1, none⟩ = some (.int .i64 z.1.2.1) ∧ W.cell? ⟨p, 2, none⟩ = some (.string z.1.2.2) ∧ W.cell? ⟨p, 3, none⟩ = some (.slice z.2.1.1 z.2.2.length z.2.1.2)) := fun W h => by
        have h1 := (h.block p (Array.getElem?_eq_some_iff.1 HS.out.2.1).1).trans HS.out.2.1
        have hb := HB4.out.trans (h.mono HB4.out.size)
        exact ⟨(hb.cell (p := ⟨db, 3, none⟩) hdb).trans HC.out.1, cell_row h1 0, cell_row h1 1, cell_row h1 2, cell_row h1 3⟩
      have HD1 : Hid (Below w4.heap.size w4 (w4.alloc ob).drew) := ((Below.refl _ _).alloc (Nat.le_refl _) ob).drew
      have hS0 := HK.out w4.drew (Below.refl _ _).drew
      have HS1 := hide (HK.out _ HD1.out)
      have HB1 := hide (HB4.out.trans (HD1.out.mono HB4.out.size))
      have HO1 : Hid ((w4.alloc ob).drew.ownsRow base 44 5 (.slice va L vc) L xs) := row_kee HR.out (kee_below HB1.out fun _ => False) fun _ _ h => h
      have HNB : Hid ((w4.alloc ob).drew.heap[w4.heap.size]? = some ob) := heap_alloc_new w4 ob
      have HZ1 : Hid ((w4.alloc ob).drew.heap.size = w4.heap.size + 1) := (show _ = _ by simp [World.drew])
      have HZ2 : Hid (w4.heap.size = w3.heap.size + 1 ∧ w.heap.size ≤ w3.heap.size) := ⟨HS.out.2.2, HB3.out.size⟩
      have HZI1 : Hid (In (w4.alloc ob).drew.heap.size (w4.alloc ob).drew (N + 1) z) := (HZI.out.below (HS.out.1.trans (HD1.out.mono HS.out.1.size))).mono (by have := HS.out.1.size; have := HD1.out.size; omega)
      rw [hob] at HD1 HS1 HB1 HO1 HNB HZ1 HZI1
      clear hob ob
      obtain ⟨c3, e0, e1, e2, e3⟩ := HK.out w4 (Below.refl _ _)
      refine wp_region_noPanic ?_
      refine wp_region_x (fun W => W.cell? ⟨db, 3, none⟩ = some (.slice va L vc) ∧ W.cell? ⟨p, 0, none⟩ = some (.int .i64 z.1.1) ∧ W.cell? ⟨p, 1, none⟩ = some (.int .i64 z.1.2.1) ∧ W.cell? ⟨p, 2, none⟩ = some (.string z.1.2.2) ∧ W.cell? ⟨p, 3, none⟩ = some (.slice z.2.1.1 z.2.2.length z.2.1.2)) 12 (by kernel_rfl) ?_
      try simp only [List.size_toArray]
      refine wpAnyX_take (i := 0) (v := ?_) rfl (by kernel_rfl) (by kernel_rfl) (by kernel_rfl) (by kernel_rfl) (fun _ _ _ h => h) rfl ?_ hS0 ?_
      rotate_left
      · intro w' hw'
        try dsimp only at hw'
        go_simp
        try with_reducible rfl
      try simp only [Act.put, List.setIfInBounds_toArray]
      refine wpAnyX_take (i := 1) (v := ?_) rfl (by kernel_rfl) (by kernel_rfl) (by kernel_rfl) (by kernel_rfl) (fun _ _ _ h => h) rfl ?_ hS0 ?_
      rotate_left
      · intro w' hw'
        try dsimp only at hw'
        go_simp
        try with_reducible rfl
      try simp only [Act.put]
      refine wpAnyX_take (i := 2) (v := ?_) rfl (by kernel_rfl) (by kernel_rfl) (by kernel_rfl) (by kernel_rfl) (fun _ _ _ h => h) rfl ?_ hS0 ?_
      rotate_left
      · intro w' hw'
        try dsimp only at hw'
        go_simp
        try with_reducible rfl
      try simp only [Act.put]
      refine wpAnyX_take (i := 3) (v := ?_) rfl (by kernel_rfl) (by kernel_rfl) (by kernel_rfl) (by kernel_rfl) (fun _ _ _ h => h) rfl ?_ hS0 ?_
      rotate_left
      · intro w' hw'
        try dsimp only at hw'
        go_simp
        try with_reducible rfl
      try simp only [Act.put]
      refine wpAnyX_take (i := 4) (v := ?_) rfl (by kernel_rfl) (by kernel_rfl) (by kernel_rfl) (by kernel_rfl) (fun _ _ _ h => h) rfl ?_ hS0 ?_
      rotate_left
      · intro w' hw'
        try dsimp only at hw'
        go_simp
        try with_reducible rfl
      try simp only [Act.put]
      refine wpAnyX_take (i := 5) (v := ?_) rfl (by kernel_rfl) (by kernel_rfl) (by kernel_rfl) (by kernel_rfl) (fun _ _ _ h => h) rfl ?_ hS0 ?_
      rotate_left
      · intro w' hw'
        try dsimp only at hw'
        go_simp
        try with_reducible rfl
      try simp only [Act.put]
      refine wpAnyX_take (i := 6) (v := ?_) rfl (by kernel_rfl) (by kernel_rfl) (by kernel_rfl) (by kernel_rfl) (fun _ _ _ h => h) rfl ?_ hS0 ?_
      rotate_left
      · intro w' hw'
        try dsimp only at hw'
        go_simp
        try with_reducible rfl
      try simp only [Act.put]
      refine wpAnyX_take (i := 7) (v := ?_) rfl (by kernel_rfl) (by kernel_rfl) (by kernel_rfl) (by kernel_rfl) (fun _ _ _ h => h) rfl ?_ hS0 ?_
      rotate_left
      · intro w' hw'
        try dsimp only at hw'
        go_simp
        try with_reducible rfl
      try simp only [Act.put]
      refine wpAnyX_one (i := 8) (by kernel_rfl) rfl rfl (fun K hK => ?_) (by decide)
      go_simp
      refine hK.out _ _ (fun _ => HS1.out) (fun hS1 => ?_)
      clear hK K
      try simp only [Act.put, List.setIfInBounds_toArray, List.set_cons_zero, List.set_cons_succ]
      refine wpAnyX_one (i := 9) (by kernel_rfl) rfl rfl (fun K hK => ?_) (by decide)
      refine wp_append_lies _ _ _ 36 rfl base 44 it _ 5 64 Try.underlying36 HIT.out.1 HIT.out.2.1 HIT.out.2.2.1 HIT.out.2.2.2 rfl (by decide) (.slice va L vc) L xs rfl HO1.out ⟨w4.heap.size, 0, none⟩ 1 1 (sd5 u z) rfl rfl (World.news_of_block (cs := #[.int .i64 u, .int .i64 z.1.1, .int .i64 z.1.2.1, .string z.1.2.2, .slice z.2.1.1 z.2.2.length z.2.1.2]) (t := 44) (fr := (0, 0)) HNB.out) (by simp [sd5, Value.oneCell']) (by decide) (by unfold maxLen; omega) (by omega) (by have := HZ1.out; have := HZ2.out; omega) _ rfl ?_
      intro g5 c5 w5 hown5 hgrow5 hat5 hlt5
      have HK5 : Hid (Kee (fun r => (Value.slice va L vc).ownBlock = some r) w w5) := Kee.trans (kee_below HB1.out _) (kee_grown hgrow5) fun _ _ e => e
      have HAT : Hid ((Value.slice va L vc).ownBlock = some g5 ∨ w.heap.size ≤ g5) := by
        rcases hat5 with e | e
        · exact Or.inl e
        · exact Or.inr (by have := HZ1.out; have := HZ2.out; omega)
      have HO5 := hide hown5
      have HRL : Hid (∀ b, (Value.slice va L vc).ownBlock = some b → b < w.heap.size) := fun b hb => (HR.out.lt b hb).2
      have HZ5 : Hid (In w5.heap.size w5 (N + 1) z ∧ Off (fun r => w.heap.size ≤ r ∧ r ≠ g5) (N + 1) z) := by
        have hoff : Off (fun r => w.heap.size ≤ r ∧ r < w3.heap.size) (N + 1) z := (In.offB HZO.out HZI.out).mono fun r hr => ⟨Nat.le_trans HZB.out hr.1, hr.2⟩
        refine ⟨HZI1.out.kee (kee_grown hgrow5) (hoff.mono fun r hr e => ?_), hoff.mono fun r hr => ⟨hr.1, fun e => ?_⟩⟩
        · have := HRL.out r e
          omega
        · rcases hat5 with e' | e'
          · have := HRL.out g5 e'
            omega
          · have := HZ1.out
            have := HZ2.out
            omega
      have HC5 : Hid ((w5.cell? ⟨db, 3, none⟩ = some (.slice va L vc) ∧ w5.cell? ⟨p, 0, none⟩ = some (.int .i64 z.1.1) ∧ w5.cell? ⟨p, 1, none⟩ = some (.int .i64 z.1.2.1) ∧ w5.cell? ⟨p, 2, none⟩ = some (.string z.1.2.2) ∧ w5.cell? ⟨p, 3, none⟩ = some (.slice z.2.1.1 z.2.2.length z.2.1.2)) ∧ w5.frozen? ⟨db, 3, none⟩ = false) := by
        have z1 := HZ1.out
        have z2 := HZ2.out
        have z3 := HQW.out
        have hq1 : some p ≠ (Value.slice va L vc).ownBlock := fun e => by
          have := HRL.out p e.symm
          omega
        have hq2 : some db ≠ (Value.slice va L vc).ownBlock := fun e => HN.out e.symm
        have k := fun j => hgrow5.cell_far ⟨p, j, none⟩ (by show p < _; omega) hq1
        obtain ⟨s0, s1, s2, s3, s4⟩ := HS1.out
        refine ⟨⟨(hgrow5.cell_far ⟨db, 3, none⟩ (by show db < _; omega) hq2).trans s0, (k 0).trans s1, (k 1).trans s2, (k 2).trans s3, (k 3).trans s4⟩, ?_⟩
        rw [hgrow5.frozen_far ⟨db, 3, none⟩ (by show db < _; omega) hq2]
        have hf := HC.out.2
        unfold World.frozen? at hf ⊢
        rw [HB1.out.block db hdb]
        exact hf
      clear hown5 hgrow5 hat5 hlt5
      refine hK.out _ _ (fun _ => HC5.out.1) (fun hS3 => ?_)
      clear hK K
      try simp only [Act.put, List.setIfInBounds_toArray]
      refine wpAnyX_one (i := 10) (by kernel_rfl) rfl rfl (fun K hK => ?_) (by decide)
      go_simp
      refine hK.out _ _ (fun _ => hS3) (fun _ => ?_)
      clear hK K
      try simp only [Act.put, List.setIfInBounds_toArray, List.set_cons_zero, List.set_cons_succ]
      refine wpAnyX_take (i := 11) (v := ?_) rfl (by kernel_rfl) (by kernel_rfl) (by kernel_rfl) (by kernel_rfl) (fun _ _ _ h => h) rfl ?_ hS3 ?_
      rotate_left
      · intro w' hw'
        try dsimp only at hw'
        go_simp
        try with_reducible rfl
      try simp only [Act.put, List.setIfInBounds_toArray]
      have cf3 := HC5.out.2
      have cc3 := HC5.out.1.1
      refine wpAnyX_last (by kernel_rfl) rfl rfl (by kernel_rfl) (fun K hK => ?_)
      go_simp
      refine hK.out _ _ (NoPanic.normal ?_)
      clear hK K
      try simp only [Act.put, List.setIfInBounds_toArray, List.set_cons_zero, List.set_cons_succ]
      go_wp2_with fail
      go_ret
      exact ⟨rfl, fun h => (by cases h), fun _ => ⟨u, z, g5, c5, w5, HF.out, HZS.out, HZ5.out.1, HZ5.out.2, HO5.out, HK5.out, HAT.out, rfl⟩⟩
end Go.Proofs.Ytbmjfnicfpdjfaa
