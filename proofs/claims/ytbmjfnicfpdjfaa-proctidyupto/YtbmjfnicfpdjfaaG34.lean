/- What is proved here: plain facts and contracts that the claimed theorem stands on, several texts in one: two processes side by side, that lie apart, each told by its state and messages without addresses; what a call at one of them leaves of both. No condition but that all lies in memory. the statement ProcTidy's own small example, call by call: New, Deliver, Step of one process, as plain facts. No condition. a plain fact: a term has at most as many terms in it as it holds terms and letters. No condition. whatever reads as a term is a tree that lies in memory, no larger than the reading's bulk; and a row over terms follows from what the call does. No condition. whatever reads as a list of behaviours is a program's list that lies in memory, no larger than the reading's bulk. No condition. whatever reads as a list of calls on a process is a list of them that lies in memory, no larger than the reading's bulk. No condition. slices.Contains of a row of numbers that lies in memory answers, and turns nothing. Condition: the row is no longer than memory allows. -/
import Derived.Test.YtbmjfnicfpdjfaaG33
import Derived.Test.YtbmjfnicfpdjfaaG01
import Derived.ProofKit
import Derived.OpenShut
import Derived.JoinedCond
import Derived.Test.YtbmjfnicfpdjfaaG09
namespace Go.Proofs.Ytbmjfnicfpdjfaa
open Go.RowKit

/-- Two processes, all from B0 on; F: blocks that neither of them has. -/
def Tw (B0 : Nat) (F : Nat → Prop) (pa pb : Nat) (name : ByteArray) (room : Int) (ca : Tc) (ma : List Tc) (cb : Tc) (mb : List Tc) (k kb : Nat) (w : World) : Prop :=
  ∃ Ma Mb, P1 B0 pa name room ca ma k Ma w ∧ P1 B0 pb name room cb mb kb Mb w ∧ (∀ b, Ma b → ¬ Mb b) ∧ (∀ b, F b → b < w.heap.size ∧ ¬ Ma b ∧ ¬ Mb b) ∧ B0 ≤ w.heap.size
/-- A call's frame: all below B0, and all of F, stays. -/
def TwK (B0 : Nat) (F : Nat → Prop) (w w' : World) : Prop := Below B0 w w' ∧ ∀ b, F b → w'.heap[b]? = w.heap[b]?
theorem P1.lies {B0 pb : Nat} {name : ByteArray} {room : Int} {cs : Tc} {cms : List Tc} {k : Nat} {M : Nat → Prop} {w : World} (h : P1 B0 pb name room cs cms k M w) : ∀ b, M b → B0 ≤ b ∧ b < w.heap.size := by
  obtain ⟨base, s, ms, ws, nm, sv, vs, ma, mc, Mh, h1, h2, h3, h4⟩ := h
  exact h4
section
variable {B0 : Nat} {F : Nat → Prop} {pa pb : Nat} {name : ByteArray} {room : Int} {ca cb : Tc} {ma mb : List Tc} {k kb : Nat} {w : World}
theorem Tw.swap (h : Tw B0 F pa pb name room ca ma cb mb k kb w) : Tw B0 F pb pa name room cb mb ca ma kb k w := by
  obtain ⟨Ma, Mb, h1, h2, h3, h4, h5⟩ := h
  exact ⟨Mb, Ma, h2, h1, fun b q z => h3 b z q, fun b q => ⟨(h4 b q).1, (h4 b q).2.2, (h4 b q).2.1⟩, h5⟩
theorem Tw.box (h : Tw B0 F pa pb name room ca ma cb mb k kb w) {W : World} (hb : Below w.heap.size w W) : Tw B0 (fun b => F b ∨ (w.heap.size ≤ b ∧ b < W.heap.size)) pa pb name room ca ma cb mb k kb W := by
  obtain ⟨Ma, Mb, h1, h2, h3, h4, h5⟩ := h
  have hs := hb.size
  refine ⟨Ma, Mb, h1.later hb, h2.later hb, h3, fun b q => ?_, by omega⟩
  rcases q with q | q
  · have := h4 b q
    exact ⟨by omega, this.2⟩
  · exact ⟨q.2, fun z => by have := (h1.lies b z).2; omega, fun z => by have := (h2.lies b z).2; omega⟩
theorem Tw.less (h : Tw B0 F pa pb name room ca ma cb mb k kb w) {G : Nat → Prop} (hG : ∀ b, G b → F b) : Tw B0 G pa pb name room ca ma cb mb k kb w := by
  obtain ⟨Ma, Mb, h1, h2, h3, h4, h5⟩ := h
  exact ⟨Ma, Mb, h1, h2, h3, fun b q => h4 b (hG b q), h5⟩
theorem Tw.later (h : Tw B0 F pa pb name room ca ma cb mb k kb w) {W : World} (hb : Below w.heap.size w W) : Tw B0 F pa pb name room ca ma cb mb k kb W := (h.box hb).less fun _ q => Or.inl q
theorem Tw.up (h : Tw B0 F pa pb name room ca ma cb mb k kb w) {j i : Nat} (hj : k ≤ j) (hi : kb ≤ i) : Tw B0 F pa pb name room ca ma cb mb j i w := by
  obtain ⟨Ma, Mb, h1, h2, h3, h4, h5⟩ := h
  exact ⟨Ma, Mb, h1.mono (fun _ q => q) hj h1.lies, h2.mono (fun _ q => q) hi h2.lies, h3, h4, h5⟩
theorem Tw.size (h : Tw B0 F pa pb name room ca ma cb mb k kb w) : B0 ≤ w.heap.size := by
  obtain ⟨Ma, Mb, h1, h2, h3, h4, h5⟩ := h
  exact h5
theorem TwK.trans {w1 w2 : World} (h : TwK B0 F w w1) (h' : TwK B0 F w1 w2) : TwK B0 F w w2 := ⟨h.1.trans h'.1, fun b q => (h'.2 b q).trans (h.2 b q)⟩
theorem Tw.below (h : Tw B0 F pa pb name room ca ma cb mb k kb w) {W : World} (hb : Below w.heap.size w W) : TwK B0 F w W := by
  obtain ⟨Ma, Mb, h1, h2, h3, h4, h5⟩ := h
  exact ⟨hb.mono h5, fun b q => hb.block b (h4 b q).1⟩
theorem Tw.turn2 {Ma Mb : Nat → Prop} (h2 : P1 B0 pb name room cb mb kb Mb w) (h3 : ∀ b, Ma b → ¬ Mb b) (h4 : ∀ b, F b → b < w.heap.size ∧ ¬ Ma b ∧ ¬ Mb b) (h5 : B0 ≤ w.heap.size) {w' : World} (hk : Keep Ma w w') (hM : ∀ b, Ma b → B0 ≤ b) {N : Nat → Prop} (hN : ∀ b, N b → Ma b ∨ w.heap.size ≤ b) {ca' : Tc} {ma' : List Tc} {j : Nat} (h1 : P1 B0 pa name room ca' ma' j N w') {G : Nat → Prop} (hG : ∀ b, G b → w.heap.size ≤ b ∧ b < w'.heap.size ∧ ¬ N b) : Tw B0 (fun b => F b ∨ G b) pa pb name room ca' ma' cb mb j kb w' ∧ TwK B0 F w w' := by
  have hs := hk.size
  have hl := h2.lies
  refine ⟨⟨N, Mb, h1, (h2.kept hk fun b q z => h3 b z q).mono (fun _ q => q) (Nat.le_refl _) fun b q => ⟨(hl b q).1, by have := (hl b q).2; omega⟩, fun b q z => ?_, fun b q => ?_, by omega⟩, ⟨hk.os, hk.tape, hk.output, hs, fun b hb => hk.block b (by omega) fun z => by have := hM b z; omega⟩, fun b q => hk.block b (h4 b q).1 (h4 b q).2.1⟩
  · rcases hN b q with y | y
    · exact h3 b y z
    · have := (hl b z).2
      omega
  · rcases q with q | q
    · refine ⟨?_, fun z => ?_, (h4 b q).2.2⟩
      · have := (h4 b q).1
        omega
      · rcases hN b z with y | y
        · exact (h4 b q).2.1 y
        · have := (h4 b q).1
          omega
    · exact ⟨(hG b q).2.1, (hG b q).2.2, fun z => by have := (hl b z).2; have := (hG b q).1; omega⟩
theorem Tw.turn {Ma Mb : Nat → Prop} (h2 : P1 B0 pb name room cb mb kb Mb w) (h3 : ∀ b, Ma b → ¬ Mb b) (h4 : ∀ b, F b → b < w.heap.size ∧ ¬ Ma b ∧ ¬ Mb b) (h5 : B0 ≤ w.heap.size) {w' : World} (hk : Keep Ma w w') (hM : ∀ b, Ma b → B0 ≤ b) {N : Nat → Prop} (hN : ∀ b, N b → Ma b ∨ w.heap.size ≤ b) {ca' : Tc} {ma' : List Tc} {j : Nat} (h1 : P1 B0 pa name room ca' ma' j N w') : Tw B0 F pa pb name room ca' ma' cb mb j kb w' ∧ TwK B0 F w w' := by
  obtain ⟨g1, g2⟩ := Tw.turn2 h2 h3 h4 h5 hk hM hN h1 (G := fun _ => False) (fun _ q => q.elim)
  exact ⟨g1.less fun _ q => Or.inl q, g2⟩
theorem Tw.deliver (h : Tw B0 F pa pb name room ca ma cb mb k kb w) {n : Nat} (x : Tm (n + 1)) (hx : In B0 w (n + 1) x) (hN : (nodes (n + 1) x).length ≤ 2097152) (hk : k ≤ 49000) (h20 : ma.length ≤ 999) :
    Calls Try.prog 5 #[.pointer (some ⟨pa, 0, none⟩), val (n + 1) x] w fun e w' => e = .returned (.int .i64 (dlvC (n + 1) x room ca ma)) ∧ Hid (Tw B0 F pa pb name room ca (if dlvC (n + 1) x room ca ma = 0 then ma ++ [cn (n + 1) x] else ma) cb mb (k + 201) kb w' ∧ TwK B0 F w w') := by
  obtain ⟨Ma, Mb, h1, h2, h3, h4, h5⟩ := h
  have hl := h1.lies
  refine (h1.deliver x (hx.mono h5) (hx.offBelow.mono fun b q z => by have := (hl b z).1; omega) hN hk h20 h5).mono ?_
  rintro e w' ⟨rfl, H⟩
  obtain ⟨k1, k2⟩ := H.out
  exact ⟨rfl, Tw.turn h2 h3 h4 h5 k1 (fun b q => (hl b q).1) (fun b q => q.1) k2⟩
theorem Tw.tidy (h : Tw B0 F pa pb name room ca ma cb mb k kb w) (hk : k ≤ 50000) (h20 : ma.length ≤ 999) :
    Calls Try.prog 16 #[.pointer (some ⟨pa, 0, none⟩)] w fun e w' => e = .returned (.tuple #[]) ∧ Hid (Tw B0 F pa pb name room ca ma cb mb k kb w' ∧ TwK B0 F w w' ∧ Calls Try.prog 17 #[.pointer (some ⟨pa, 0, none⟩)] w' fun e w'' => e = .returned (.int .i64 ((ca :: ma).map (sz 13)).sum) ∧ w'' = w') := by
  obtain ⟨Ma, Mb, h1, h2, h3, h4, h5⟩ := h
  have hl := h1.lies
  refine (h1.tidy hk h20 h5).mono ?_
  rintro e w' ⟨rfl, H⟩
  obtain ⟨k1, k2, k3⟩ := H.out
  obtain ⟨g1, g2⟩ := Tw.turn h2 h3 h4 h5 k1 (fun b q => (hl b q).1) (fun b q => q.1) k2
  exact ⟨rfl, g1, g2, k3⟩
theorem Tw.state (h : Tw B0 F pa pb name room ca ma cb mb k kb w) (hk : k ≤ 50000) :
    Calls Try.prog 14 #[.pointer (some ⟨pa, 0, none⟩)] w fun e w' => ∃ y : Tc, e = .returned (val 13 y) ∧ Hid (Below w.heap.size w w' ∧ In w'.heap.size w' 13 y ∧ chk 13 y = 0 ∧ cn 13 y = ca) := by
  obtain ⟨Ma, Mb, h1, h2, h3, h4, h5⟩ := h
  refine (h1.state hk).mono ?_
  rintro e w' ⟨y, rfl, H⟩
  obtain ⟨y1, y2, _, y4, y5⟩ := H.out
  exact ⟨y, rfl, y1, y2, y4, y5⟩
theorem Tw.mails (h : Tw B0 F pa pb name room ca ma cb mb k kb w) (hk : k ≤ 50000) (h20 : ma.length ≤ 999) :
    Calls Try.prog 15 #[.pointer (some ⟨pa, 0, none⟩)] w fun e w' => ∃ (ys : List Tc) (a : Option Addr) (c : Nat), e = .returned (.slice a ma.length c) ∧ Hid (ys.length = ma.length ∧ Below w.heap.size w w' ∧ Lies w'.heap.size w' 13 ys a ∧ ys.map (cn 13) = ma ∧ ∀ y ∈ ys, chk 13 y = 0) := by
  obtain ⟨Ma, Mb, h1, h2, h3, h4, h5⟩ := h
  refine (h1.mails hk h20).mono ?_
  rintro e w' ⟨ys, a, c, rfl, H⟩
  obtain ⟨m1, m2, m3, m4, m5⟩ := H.out
  exact ⟨ys, a, c, rfl, m1, m2, m3, m4, fun y hy => (m5 y hy).1⟩
theorem Tw.ok (h : Tw B0 F pa pb name room ca ma cb mb k kb w) : ((ca :: ma).map (sz 13)).sum ≤ room := by
  obtain ⟨Ma, Mb, h1, h2, h3, h4, h5⟩ := h
  exact h1.ok.2.2.2
/-- What a step tells, and leaves, an error or not. -/
def stpT (n : Nat) (room : Int) (l : List (Bh (n + 1))) (name : ByteArray) (self next : Int) (cs : Tc) (cms : List Tc) : Tk :=
  if stpE n room l name self next cs cms = 0 then (stpC room l name self next cs cms).getD ⟨zeroV 12, 0, [], [], [], cs, cms⟩ else ⟨zeroV 12, 0, [], [], [], cs, cms⟩
theorem Tw.step (h : Tw B0 F pa pb name room ca ma cb mb k kb w) {n : Nat} (l : List (Bh (n + 1))) (la : Option Addr) (lc : Nat) (hl : PgIn (n + 1) B0 w la l) (hlc : l.length ≤ lc) (hmx : lc ≤ maxLen) (hN : pgB (n + 1) l = true → (nodes (n + 6) (tellP n l)).length ≤ 2097152) (hk : k ≤ 47000) (h20 : ma.length ≤ 999) (self next : Int) :
    Calls Try.prog 9 #[.pointer (some ⟨pa, 0, none⟩), .slice la l.length lc, .int .i64 self, .int .i64 next] w fun e w' => ∃ (y : Tc) (f : Int) (sa : Option Addr) (sl sc : Nat) (qa : Option Addr) (pl pc : Nat) (ka : Option Addr) (kl kc : Nat), e = .returned (.tuple #[tk8 y.1.1 y.1.2.1 y.1.2.2 y.2.1.1 y.2.2.length y.2.1.2 f sa sl sc qa pl pc ka kl kc, .int .i64 (stpE n room l name self next ca ma)]) ∧
      Hid (f = (stpT n room l name self next ca ma).fate ∧ sl = (stpT n room l name self next ca ma).sends.length ∧ same 13 y 13 (stpT n room l name self next ca ma).message = true ∧ In w'.heap.size w' 13 y ∧ (stpT n room l name self next ca ma).mail.length ≤ ma.length ∧ ∃ G : Nat → Prop, Off G 13 y ∧
        Tw B0 (fun b => F b ∨ G b) pa pb name room (stpT n room l name self next ca ma).state (stpT n room l name self next ca ma).mail cb mb (k + 402) kb w' ∧ TwK B0 F w w') := by
  obtain ⟨Ma, Mb, h1, h2, h3, h4, h5⟩ := h
  have hll := h1.lies
  refine (h1.step l la lc B0 hl h5 hlc hmx hN (fun W hW => hl.below (hW.below h5 fun b hb q => by have := (hll b q).1; omega)) h5 hk h20 self next).mono ?_
  rintro e w' (⟨u, rfl, H⟩ | ⟨y, f, sa, sl, sc, qa, pl, pc, ka, kl, kc, rfl, H⟩)
  · obtain ⟨u1, u2, u3⟩ := H.out
    subst u2
    have e0 : stpT n room l name self next ca ma = ⟨zeroV 12, 0, [], [], [], ca, ma⟩ := if_neg u1
    have hT : Tw B0 F pa pb name room ca ma cb mb k kb w := ⟨Ma, Mb, h1, h2, h3, h4, h5⟩
    refine ⟨zeroV 12, 0, none, 0, 0, none, 0, 0, none, 0, 0, rfl, ?_⟩
    rw [e0]
    refine ⟨rfl, rfl, same_mk rfl rfl, ?_, Nat.le_refl _, fun _ => False, ?_, ((hT.later u3).up (by omega) (Nat.le_refl _)).less (fun _ q => q.resolve_right id), hT.below u3⟩
    · exact ⟨⟨by simp [zeroV, leafV, I64], by simp [zeroV, leafV, I64], Nat.zero_le _, by simp [zeroV, leafV], by simp [zeroV, leafV]⟩, Or.inl rfl⟩
    · exact Or.inl rfl
  · obtain ⟨tk, L, a1, a2, a3, a4, a5, a6, a7, a8, a9, a10, a11, a12⟩ := H.out
    have e0 : stpT n room l name self next ca ma = tk := by
      unfold stpT
      rw [if_pos a1, a2]
      rfl
    refine ⟨y, f, sa, sl, sc, qa, pl, pc, ka, kl, kc, by rw [a1], ?_⟩
    rw [e0]
    obtain ⟨N, sd, sp, ⟨r1, _⟩, _, _, _, r4, _⟩ := a12
    obtain ⟨g1, g2⟩ := Tw.turn2 h2 h3 h4 h5 a8 (fun b q => (hll b q).1) (fun b q => by
      rcases q.1 with z | z
      · exact Or.inl z
      · exact Or.inr (by omega)) a10 (G := fun b => (w.heap.size ≤ b ∧ b < L) ∧ b < w'.heap.size) (fun b q => ⟨q.1.1, q.2, fun z => by
      rcases z.1 with z | z
      · have := (hll b z).2
        omega
      · omega⟩)
    refine ⟨a3, ?_, ?_, a6, a11, _, In.offB a7 a6, g1, g2⟩
    · rw [← r1, ← r4, List.length_map]
    · rw [← a4]
      exact same_symm _ _ _ _ (cn_same a5)
end
end Go.Proofs.Ytbmjfnicfpdjfaa
namespace Go.Proofs.Ytbmjfnicfpdjfaa
open Go.RowKit

/-- The message (n U), where its parts lie. -/
def nmT (u : Int) (g : Nat) : Tm 2 := ((4, 0, .empty), (some ⟨g, 0, none⟩, 2), [atomV wN 0, leafV 1 u 0])
def pidS : Tm 1 := leafV 3 2 0
theorem nm_in {u : Int} {B g : Nat} {w : World} {t : TypeId} (hu : I64 u) (h : w.heap[g]? = some (.cells #[.int .i64 2, .int .i64 0, .string ⟨#[110]⟩, .slice none 0 0, .int .i64 1, .int .i64 u, .string ⟨#[]⟩, .slice none 0 0] t)) (hg : g < B) : In B w 2 (nmT u g) :=
  tup_block [atomV wN 0, leafV 1 u 0] h rfl hg (by simp) (fun y hy => by
    simp only [List.mem_cons, List.not_mem_nil, or_false] at hy
    rcases hy with rfl | rfl
    · exact atomV_in _ _ (word_le _ (by decide)) _ _
    · exact smN_in u hu _ _ _)
theorem nm_chk {u : Int} (g : Nat) (hu : u = 4 ∨ u = 5) : chk 2 (nmT u g) = 0 := by
  have hf : formedB 2 (nmT u g) = true := by
    rw [← right_formed]
    intro a ha
    have ha : a ∈ [(((4, 0, .empty), (some ⟨g, 0, none⟩, 2, 2)) : Nd), ((2, 0, wN), (none, 0, 0)), ((1, u, .empty), (none, 0, 0))] := ha
    simp only [List.mem_cons, List.not_mem_nil, or_false] at ha
    rcases ha with rfl | rfl | rfl
    · simp [good]
    · simp [good, name_n]
    · rcases hu with rfl | rfl <;> simp [good, inB]
  refine chk_iff.2 ⟨hf, ?_, ?_⟩
  · exact Int.le_trans (show dep 2 (nmT u g) ≤ 1 from Int.le_refl 1) (by decide)
  · exact Int.le_trans (show sz 2 (nmT u g) ≤ 3 from Int.le_refl 3) (by decide)
theorem nm_cn (u : Int) (g : Nat) : cn 2 (nmT u g) = msgN u := rfl
theorem nm_closed (u : Int) (g : Nat) : closedT 2 (nmT u g) = true := rfl
theorem nm_off {P : Nat → Prop} {u : Int} {g : Nat} (hg : P g) : Off P 2 (nmT u g) := Or.inr ⟨g, 0, rfl, hg, fun i y hy => by
  have hm : y ∈ [atomV wN 0, leafV 1 u 0] := List.mem_of_getElem? hy
  simp only [List.mem_cons, List.not_mem_nil, or_false] at hm
  rcases hm with rfl | rfl
  · exact Or.inl rfl
  · exact Or.inl rfl⟩
theorem pid_chk : chk 1 pidS = 0 := by
  have hf : formedB 1 pidS = true := by
    rw [← right_formed]
    intro a ha
    have ha : a ∈ [(((3, 2, .empty), (none, 0, 0)) : Nd)] := ha
    obtain rfl := List.mem_singleton.1 ha
    simp [good, inB]
  exact chk_iff.2 ⟨hf, by decide, by decide⟩
theorem relay_name : nameB wRelay = true := by simp [nameB, wRelay, inB, lowsB, lowB, show (⟨#[114, 101, 108, 97, 121]⟩ : ByteArray).size = 5 from rfl]
theorem small_newE : newE 1 pidS 100 wRelay = 0 := by
  unfold newE putE
  rw [relay_name, pid_chk]
  simp [show closedT 1 pidS = true from rfl, show sz 1 pidS = 0 from rfl]
theorem small_new (w : World) :
    Calls Try.prog 4 #[.string ⟨#[114, 101, 108, 97, 121]⟩, .agg #[.int .i64 3, .int .i64 2, .string ⟨#[]⟩, .slice none 0 0], .int .i64 100] w fun e w' => ∃ pb, e = .returned (.tuple #[.pointer (some ⟨pb, 0, none⟩), .int .i64 0]) ∧ Hid (Below w.heap.size w w' ∧ P1 w.heap.size pb wRelay 100 pid2 [] 201 (fun b => w.heap.size ≤ b ∧ b < w'.heap.size) w') := by
  have h := P1.new 0 pidS 100 wRelay w (by decide) ⟨⟨by simp [pidS, leafV, I64], by simp [pidS, leafV, I64], Nat.zero_le _, by simp [pidS, leafV], by simp [pidS, leafV]⟩, Or.inl rfl⟩ (by simp [pidS, leafV, nodes])
  rw [small_newE] at h
  refine h.mono ?_
  rintro e w' ⟨p, rfl, H⟩
  obtain ⟨h1, _, h2⟩ := H.out
  obtain ⟨pb, rfl, _, _, h3⟩ := h2 rfl
  exact ⟨pb, rfl, h1, h3⟩
theorem small_dlv (g : Nat) : dlvC 2 (nmT 4 g) 100 pid2 [] = 0 := by
  unfold dlvC
  rw [nm_chk g (Or.inl rfl), nm_closed]
  simp [show sz 13 pid2 = 0 from rfl, show sz 2 (nmT 4 g) = 3 from rfl]
theorem small_deliver {B0 pb : Nat} {M : Nat → Prop} {w W : World} (h : P1 B0 pb wRelay 100 pid2 [] 201 M w) (hb : Below w.heap.size w W) (hB : B0 ≤ w.heap.size) {g : Nat} {t : TypeId} (hg : w.heap.size ≤ g) (hh : W.heap[g]? = some (.cells #[.int .i64 2, .int .i64 0, .string ⟨#[110]⟩, .slice none 0 0, .int .i64 1, .int .i64 4, .string ⟨#[]⟩, .slice none 0 0] t)) :
    Calls Try.prog 5 #[.pointer (some ⟨pb, 0, none⟩), .agg #[.int .i64 4, .int .i64 0, .string ⟨#[]⟩, .slice (some ⟨g, 0, none⟩) 2 2]] W fun e w' => e = .returned (.int .i64 0) ∧ Hid (Below B0 w w' ∧ ∃ M', P1 B0 pb wRelay 100 pid2 [msgN 4] 402 M' w') := by
  have hl := h.lies
  have hs := hb.size
  have hgl : g < W.heap.size := (Array.getElem?_eq_some_iff.1 hh).1
  have k := (h.later hb).deliver (n := 1) (nmT 4 g) (nm_in (by simp [I64]) hh hgl) (nm_off fun z => by have := (hl g z).2; omega) (Nat.le_trans (show (nodes 2 (nmT 4 g)).length ≤ 3 from Nat.le_refl 3) (by decide)) (by omega) (by simp) (by omega)
  rw [small_dlv] at k
  refine k.mono ?_
  rintro e w' ⟨rfl, H⟩
  obtain ⟨h1, h2⟩ := H.out
  exact ⟨rfl, (hb.mono hB).trans ⟨h1.os, h1.tape, h1.output, h1.size, fun b q => h1.block b (by omega) fun z => by have := (hl b z).1; omega⟩, _, h2⟩
/-- What the example's step tells: one message. -/
def SmStp (B0 : Nat) (w : World) (e : Ending) (w' : World) : Prop :=
  ∃ (y : Tc) (f : Int) (g sc : Nat) (pa : Option Addr) (pl pc : Nat) (ka : Option Addr) (kl kc N : Nat) (z : Tm (N + 1)), e = .returned (.tuple #[tk8 y.1.1 y.1.2.1 y.1.2.2 y.2.1.1 y.2.2.length y.2.1.2 f (some ⟨g, 0, none⟩) 1 sc pa pl pc ka kl kc, .int .i64 0]) ∧
    Hid (Below B0 w w' ∧ g < w'.heap.size ∧ (w'.cell? ⟨g, 0, none⟩ = some (.int .i64 2) ∧ w'.cell? ⟨g, 1, none⟩ = some (.int .i64 z.1.1) ∧ w'.cell? ⟨g, 2, none⟩ = some (.int .i64 z.1.2.1) ∧ w'.cell? ⟨g, 3, none⟩ = some (.string z.1.2.2) ∧ w'.cell? ⟨g, 4, none⟩ = some (.slice z.2.1.1 z.2.2.length z.2.1.2)) ∧ In w'.heap.size w' (N + 1) z ∧ chk (N + 1) z = 0 ∧ cn (N + 1) z = msgN 5)
theorem small_stp {B0 pb : Nat} {M : Nat → Prop} {w W : World} (h : P1 B0 pb wRelay 100 pid2 [msgN 4] 402 M w) (hB : B0 ≤ w.heap.size) {a : Option Addr} {g1 g2 g3 g4 g5 : Nat} (hb : Below w.heap.size w W) (hp : PgIn 3 W.heap.size W a [smBh g1 g2 g3 g4 g5]) (hpW : ∀ W' : World, (∀ b, w.heap.size ≤ b → b < W.heap.size → W'.heap[b]? = W.heap[b]?) → PgIn 3 W.heap.size W' a [smBh g1 g2 g3 g4 g5]) :
    Calls Try.prog 9 #[.pointer (some ⟨pb, 0, none⟩), .slice a 1 1, .int .i64 1, .int .i64 2] W (SmStp B0 w) := by
  have hl := h.lies
  have hs := hb.size
  refine ((h.later hb).step [smBh g1 g2 g3 g4 g5] a 1 W.heap.size hp (Nat.le_refl _) (Nat.le_refl _) (by unfold maxLen; omega) (fun _ => ?_) (fun W' hW' => hpW W' fun b q1 q2 => hW'.block b q2 fun z => by have := (hl b z).2; omega) (by omega) (by omega) (by simp) 1 2).mono ?_
  · rw [show (nodes (2 + 6) (tellP 2 [smBh g1 g2 g3 g4 g5])).length = 22 from rfl]
    omega
  rintro e w' (⟨u, rfl, H⟩ | ⟨y, f, sa, sl, sc, qa, pl, pc, ka, kl, kc, rfl, H⟩)
  · exact absurd (H.out.2.1.trans (small_stpE g1 g2 g3 g4 g5)) H.out.1
  · obtain ⟨tk, L, a1, a2, a3, a4, a5, a6, a7, a8, a9, a10, a11, a12⟩ := H.out
    rw [small_step] at a2
    injection a2 with a2
    subst a2
    obtain ⟨N, sd, sp, ⟨r1, _⟩, r2, _, _, r4, _, r6, _⟩ := a12
    obtain ⟨⟨u, z⟩, rfl⟩ : ∃ z, sd = [z] := by
      cases sd with
      | nil => simp [tk1] at r4
      | cons z sd =>
        cases sd with
        | nil => exact ⟨z, rfl⟩
        | cons _ _ => simp [tk1] at r4
    obtain ⟨rfl, hz⟩ : u = 2 ∧ cn _ z = msgN 5 := by simpa [tk1] using r4
    obtain rfl : 1 = sl := by simpa using r1
    obtain ⟨g, c1, e1, _, hg⟩ := r2.form (by omega)
    injection e1 with e1 _ e2
    subst e1 e2
    have hzz := r6 _ (List.mem_singleton.2 rfl)
    refine ⟨y, f, g, sc, qa, pl, pc, ka, kl, kc, N, z, rfl, (hb.mono hB).trans ⟨a8.os, a8.tape, a8.output, a8.size, fun b q => a8.block b (by omega) fun m => by have := (hl b m).1; omega⟩, ?_, ?_, hzz.2.1, hzz.1, hz⟩
    · exact hg
    · have hc : ∀ (j : Nat) (v : Value), (sd5 2 z)[j]? = some v → w'.cell? ⟨g, j, none⟩ = some v := fun j v hj => by
        have := r2.cells (g := g) rfl j v (by simpa using hj)
        rwa [add_none] at this
      exact ⟨hc 0 _ rfl, hc 1 _ rfl, hc 2 _ rfl, hc 3 _ rfl, hc 4 _ rfl⟩
theorem sm_same {N : Nat} {z : Tm (N + 1)} {g' : Nat} {W1 : World} (hz : In W1.heap.size W1 (N + 1) z) (hc : chk (N + 1) z = 0) (he : cn (N + 1) z = msgN 5) (hg : W1.heap[g']? = some (.cells #[.int .i64 2, .int .i64 0, .string ⟨#[110]⟩, .slice none 0 0, .int .i64 1, .int .i64 5, .string ⟨#[]⟩, .slice none 0 0] 25)) :
    Calls Try.prog 11 #[.agg #[.int .i64 z.1.1, .int .i64 z.1.2.1, .string z.1.2.2, .slice z.2.1.1 z.2.2.length z.2.1.2], .agg #[.int .i64 4, .int .i64 0, .string ⟨#[]⟩, .slice (some ⟨g', 0, none⟩) 2 2]] W1 fun e w' => e = .returned (.bool true) ∧ Below W1.heap.size W1 w' := by
  have hgl := (Array.getElem?_eq_some_iff.1 hg).1
  have k := rsame_cn (n := N + 1) (x := z) (m := 2) (y := nmT 5 g') hz (nm_in (by simp [I64]) hg hgl) (Nat.le_refl _) hc (nm_chk g' (Or.inr rfl)) (he.trans (nm_cn 5 g').symm)
  exact k
end Go.Proofs.Ytbmjfnicfpdjfaa
namespace Go.Proofs.Ytbmjfnicfpdjfaa

/-- How much a term holds: its terms, and the letters of their names. -/
def wt : (n : Nat) → Tm n → Nat
  | 0, _ => 1
  | n + 1, x => 1 + x.1.2.2.size + (x.2.2.map fun y => wt n y).sum

theorem nodes_wt : (n : Nat) → (x : Tm n) → (nodes n x).length ≤ wt n x
  | 0, _ => by simp [nodes, wt]
  | n + 1, x => by
    have key : ∀ l : List (Tm n), (l.flatMap fun y => nodes n y).length ≤ (l.map fun y => wt n y).sum := by
      intro l
      induction l with
      | nil => simp
      | cons y l ih =>
        have := nodes_wt n y
        simp only [List.flatMap_cons, List.length_append, List.map_cons, List.sum_cons]
        omega
    have := key x.2.2
    simp only [nodes, wt, List.length_cons]
    omega
end Go.Proofs.Ytbmjfnicfpdjfaa
namespace Go.Proofs.Ytbmjfnicfpdjfaa
open Go.ChangeShapes Go.WideShapes Go.ChangeAt Go.RowKit

theorem own : ownKnob Try.prog.godebug = none := by kernel_rfl
theorem laidOut : laidOutB Try.prog = true := by kernel_rfl
theorem cellsTerm : Try.prog.cellsOf 25 = 4 := by kernel_rfl
theorem cellsInt : Try.prog.cellsOf 3 = 1 := by kernel_rfl
theorem cellsString : Try.prog.cellsOf 9 = 1 := by kernel_rfl
theorem cellsTerms : Try.prog.cellsOf 23 = 1 := by kernel_rfl

theorem list_of {α : Type} {P : Nat → α → Prop} : (len : Nat) → (∀ i, i < len → ∃ y, P i y) → ∃ l : List α, l.length = len ∧ ∀ i y, l[i]? = some y → P i y
  | 0, _ => ⟨[], rfl, fun i y h => by simp at h⟩
  | len + 1, h => by
    obtain ⟨l, hl, hp⟩ := list_of len (fun i hi => h i (by omega))
    obtain ⟨z, hz⟩ := h len (by omega)
    refine ⟨l ++ [z], by simp [hl], fun i y hy => ?_⟩
    by_cases hi : i < l.length
    · rw [List.getElem?_append_left hi] at hy
      exact hp i y hy
    · rw [List.getElem?_append_right (by omega)] at hy
      have h0 : i - l.length = 0 := by
        by_cases h0 : i - l.length = 0
        · exact h0
        · rw [List.getElem?_eq_none (by simp; omega)] at hy; cases hy
      rw [h0] at hy
      have e1 : z = y := by simpa using hy
      have e2 : i = len := by omega
      rw [e2, ← e1]
      exact hz

theorem wt_le {H : Type} {n : Nat} : (p : List (Tm n)) → (es : List (DataW H)) → (∀ (i : Nat) (y : Tm n) (e : DataW H), p[i]? = some y → es[i]? = some e → wt n y ≤ Rows.uptoBulk e) → p.length = es.length → (p.map fun y => wt n y).sum ≤ Rows.uptoBulkAll es
  | [], es, _, h => by simp
  | y :: p, [], _, h => by simp at h
  | y :: p, e :: es, hp, h => by
    have h0 := hp 0 y e (by simp) (by simp)
    have h1 := wt_le p es (fun i y' e' hy he => hp (i + 1) y' e' (by simpa using hy) (by simpa using he)) (by simpa using h)
    simp only [List.map_cons, List.sum_cons, Rows.uptoBulkAll]
    omega

theorem add_add (b o i j : Nat) : ((⟨b, o, none⟩ : Addr).add i).add j = ⟨b, o + i + j, none⟩ := by
  unfold Addr.add
  split <;> split <;> simp_all
theorem spot_none {w : World} {a : Addr} {v : Value} (h : w.cell? ((a.add 0).add 0) = some v) : a = ⟨a.block, a.off, none⟩ := by
  have e : (a.add 0).add 0 = a := rfl
  rw [e] at h
  unfold World.cell? at h
  split at h
  · split at h
    · cases h
    · rename_i hs
      cases a with
      | mk b o s => cases s with
        | none => rfl
        | some q => simp at hs
  · cases h

theorem wf64 {k : Int} (h : (Lit.int .i64 k).wf = true) : I64 k := by
  have : -9223372036854775808 ≤ k ∧ k ≤ 9223372036854775807 := by simpa [Lit.wf, IntKind.min, IntKind.max, IntKind.signed, IntKind.bits] using h
  exact this

set_option maxRecDepth 100000 in
theorem tree_of {H : Type} (enc : TypeId × Value → H) (w : World) (sp : Nat → Bool) : (n f : Nat) → f ≤ 2 * n + 1 → (cs : List Value) → (x : DataW H × List MemPlace) →
    DataW.trod enc Try.prog w 0 sp true f 25 cs = some x →
    ∃ t : Tm (n + 1), cs = [.int .i64 t.1.1, .int .i64 t.1.2.1, .string t.1.2.2, .slice t.2.1.1 t.2.2.length t.2.1.2] ∧ In w.heap.size w (n + 1) t ∧ wt (n + 1) t ≤ Rows.uptoBulk x.1 := by
  intro n
  induction n with
  | zero =>
    intro f hf cs x h
    obtain ⟨xs, m, rfl, rfl, hl, hx, hg⟩ := DataW.trod_struct Try.underlying25 h
    have h0 : DataW.trod enc Try.prog w 0 sp true m 3 ((cs.drop 0).take (Try.prog.cellsOf 3)) = xs[0]? := hg 0 _ rfl
    obtain rfl : m = 0 := by omega
    have hx' : xs.length = 4 := hx
    rw [List.getElem?_eq_getElem (by omega)] at h0
    cases h0
  | succ n ih =>
    intro f hf cs x h
    obtain ⟨xs, m, rfl, rfl, hl, hx, hg⟩ := DataW.trod_struct Try.underlying25 h
    have h0 : DataW.trod enc Try.prog w 0 sp true m 3 ((cs.drop 0).take (Try.prog.cellsOf 3)) = xs[0]? := hg 0 _ rfl
    have h1 : DataW.trod enc Try.prog w 0 sp true m 3 ((cs.drop 1).take (Try.prog.cellsOf 3)) = xs[1]? := hg 1 _ rfl
    have h2 : DataW.trod enc Try.prog w 0 sp true m 9 ((cs.drop 2).take (Try.prog.cellsOf 9)) = xs[2]? := hg 2 _ rfl
    have h3 : DataW.trod enc Try.prog w 0 sp true m 23 ((cs.drop 3).take (Try.prog.cellsOf 23)) = xs[3]? := hg 3 _ rfl
    rw [cellsInt] at h0 h1
    rw [cellsString] at h2
    rw [cellsTerms] at h3
    rw [cellsTerm] at hl
    obtain ⟨c0, c1, c2, c3, rfl⟩ : ∃ c0 c1 c2 c3, cs = [c0, c1, c2, c3] := by
      match cs, hl with
      | [c0, c1, c2, c3], _ => exact ⟨c0, c1, c2, c3, rfl⟩
    obtain ⟨y0, y1, y2, y3, rfl⟩ : ∃ y0 y1 y2 y3, xs = [y0, y1, y2, y3] := by
      match xs, hx with
      | [y0, y1, y2, y3], _ => exact ⟨y0, y1, y2, y3, rfl⟩
    obtain ⟨k, e0, z0, w0⟩ := DataW.trod_int Try.underlying3 (x := y0) (by simpa using h0)
    obtain ⟨u, e1, z1, w1⟩ := DataW.trod_int Try.underlying3 (x := y1) (by simpa using h1)
    obtain ⟨s, e2, z2, w2⟩ := DataW.trod_string Try.underlying9 (x := y2) (by simpa using h2)
    have h3' : DataW.trod enc Try.prog w 0 sp true m 23 [c3] = some y3 := by simpa using h3
    simp at e0 e1 e2
    subst e0 e1 e2 z0 z1 z2
    rcases DataW.trod_slice Try.underlying23 h3' with ⟨e3, rfl⟩ | ⟨a, len, cap, elems, rest, m', rfl, e3, rfl, _, hlc, hcm, hel, hat, _, _⟩
    · simp at e3
      subst e3
      refine ⟨((k, u, s), (none, 0), []), rfl, ⟨⟨wf64 w0, wf64 w1, w2, Nat.le_refl _, Nat.zero_le _⟩, Or.inl rfl⟩, ?_⟩
      have es : s.data.toList.length = s.size := by rw [Array.length_toList]; rfl
      simp only [wt, Rows.uptoBulk, Rows.uptoBulkAll, List.map_cons, List.map_nil, List.sum_nil]
      omega
    · simp at e3
      subst e3
      simp only [cellsTerm] at hat
      have key : ∀ i, i < len → ∃ t : Tm (n + 1), (∃ b o, a = ⟨b, o, none⟩ ∧ b < w.heap.size ∧ Held w b (o + i * 4) (n + 1) t) ∧ In w.heap.size w (n + 1) t ∧ ∀ e, (elems.map (·.1))[i]? = some e → wt (n + 1) t ≤ Rows.uptoBulk e := by
        intro i hi
        have hi' := hat i hi
        have hi0 := hat 0 (by omega)
        rw [List.getElem?_eq_getElem (by omega)] at hi' hi0
        obtain ⟨cs', hcs, htr⟩ := Option.bind_eq_some_iff.1 hi'
        obtain ⟨cs0, hcs0, htr0⟩ := Option.bind_eq_some_iff.1 hi0
        obtain ⟨_, hlen, hcell⟩ := World.cells?_some hcs
        obtain ⟨_, hlen0, hcell0⟩ := World.cells?_some hcs0
        obtain ⟨t, rfl, hin, hb⟩ := ih m' (by omega) cs' _ htr
        have ha := spot_none (w := w) (a := a) (v := cs0[0]'(by omega)) (by have := hcell0 0 (by omega); rw [List.getElem?_eq_getElem (by omega)] at this; simpa using this)
        have hadd : ∀ j, (a.add (i * 4)).add j = ⟨a.block, a.off + i * 4 + j, none⟩ := fun j => by
          have := add_add a.block a.off (i * 4) j
          rw [← ha] at this
          exact this
        have c0 := hcell 0 (by omega)
        have c1 := hcell 1 (by omega)
        have c2 := hcell 2 (by omega)
        have c3 := hcell 3 (by omega)
        rw [hadd] at c0 c1 c2 c3
        simp at c0 c1 c2 c3
        refine ⟨t, ⟨a.block, a.off, ha, World.block_lt_of_cell? w ⟨a.block, a.off + i * 4, none⟩ c0, c0, c1, c2, c3⟩, hin, fun e he => ?_⟩
        rw [List.getElem?_map, List.getElem?_eq_getElem (by omega)] at he
        have : (elems[i]).1 = e := by simpa using he
        rw [← this]
        exact hb
      obtain ⟨p, hpl, hp⟩ := list_of len key
      refine ⟨((k, u, s), (some a, cap), p), by simp [hpl], ⟨⟨wf64 w0, wf64 w1, w2, by simp only; omega, hcm⟩, ?_⟩, ?_⟩
      · rcases Nat.eq_zero_or_pos len with h | h
        · exact Or.inl (List.eq_nil_of_length_eq_zero (hpl.trans h))
        · obtain ⟨⟨b, o, rfl, hb, _⟩, _, _⟩ := hp 0 (p[0]'(by rw [hpl]; exact h)) (List.getElem?_eq_getElem (by rw [hpl]; exact h))
          refine Or.inr ⟨b, o, rfl, hb, fun i y hy => ?_⟩
          obtain ⟨⟨b', o', e, _, hh⟩, hin, _⟩ := hp i y hy
          simp at e
          obtain ⟨rfl, rfl⟩ := e
          exact ⟨hh, hin⟩
      · have hs := wt_le p (elems.map (·.1)) (fun i y e hy he => (hp i y hy).2.2 e he) (by simp; omega)
        have es : s.data.toList.length = s.size := by rw [Array.length_toList]; rfl
        simp only [wt, Rows.uptoBulk, Rows.uptoBulkAll, List.map_cons, List.map_nil] at hs ⊢
        omega

set_option maxRecDepth 100000 in
theorem open_term {H : Type} {enc : TypeId × Value → H} {W : World} {r : Reach} {b0 : Nat} {v : Value} {d : DataW H} {p : List MemPlace} (hv : Value.okWide Try.prog W r b0 25 v)
    (h : DataW.Trod enc Try.prog W 0 (fun _ => true) true 25 v d p) : ∃ n, ∃ t : Tm (n + 1), v = val (n + 1) t ∧ In W.heap.size W (n + 1) t ∧ wt (n + 1) t ≤ Rows.uptoBulk d := by
  obtain ⟨cs, rfl, _⟩ := okWide_struct Try.underlying25 hv
  obtain ⟨f, hf⟩ := h
  obtain ⟨t, e, hin, hb⟩ := tree_of enc W (fun _ => true) f f (by omega) _ _ hf
  refine ⟨f, t, ?_, hin, hb⟩
  have : cs = #[.int .i64 t.1.1, .int .i64 t.1.2.1, .string t.1.2.2, .slice t.2.1.1 t.2.2.length t.2.1.2] := by
    simp [Value.cells] at e
    exact Array.toList_inj.1 e
  rw [this]
  rfl
end Go.Proofs.Ytbmjfnicfpdjfaa
namespace Go.Proofs.Ytbmjfnicfpdjfaa
open Go.ChangeShapes Go.WideShapes Go.ChangeAt Go.RowKit

def wtA (n : Nat) (a : Ac n) : Nat := wt n a.2.1.1 + wt n a.2.1.2 + a.2.2.1.size + 1
def wtC (n : Nat) (c : Cl n) : Nat := wt n c.1.1 + wt n c.1.2.1 + wt n c.1.2.2 + (c.2.2.map (wtA n)).sum + 1
def wtB (n : Nat) (b : Bh n) : Nat := b.1.size + (b.2.2.map (wtC n)).sum + 1
theorem cellsAct : Try.prog.cellsOf 91 = 11 := by kernel_rfl
theorem cellsClause : Try.prog.cellsOf 78 = 13 := by kernel_rfl
theorem cellsBeh : Try.prog.cellsOf 93 = 2 := by kernel_rfl
theorem cellsActs : Try.prog.cellsOf 76 = 1 := by kernel_rfl
theorem cellsClauses : Try.prog.cellsOf 83 = 1 := by kernel_rfl

theorem osum_le {α H : Type} (g : α → Nat) : (p : List α) → (es : List (DataW H)) → (∀ (i : Nat) (y : α) (e : DataW H), p[i]? = some y → es[i]? = some e → g y ≤ Rows.uptoBulk e) → p.length = es.length → (p.map g).sum ≤ Rows.uptoBulkAll es
  | [], es, _, h => by simp
  | y :: p, [], _, h => by simp at h
  | y :: p, e :: es, hp, h => by
    have h0 := hp 0 y e (by simp) (by simp)
    have h1 := osum_le g p es (fun i y' e' hy he => hp (i + 1) y' e' (by simpa using hy) (by simpa using he)) (by simpa using h)
    simp only [List.map_cons, List.sum_cons, Rows.uptoBulkAll]
    omega

set_option maxRecDepth 100000 in
theorem row_of {H α : Type} (enc : TypeId × Value → H) (w : World) (sp : Nat → Bool) (k : Nat) (f : α → List Value) (I : α → Prop) (g : α → Nat) (T S : TypeId) (hS : Try.prog.underlying S = some (.slice T)) (hk : Try.prog.cellsOf T = k) (hk0 : 0 < k) (hlen : ∀ y, (f y).length = k) (F : Nat)
    (elem : ∀ (m : Nat) (cs : List Value) (x : DataW H × List MemPlace), m ≤ F → DataW.trod enc Try.prog w 0 sp true m T cs = some x → ∃ y, cs = f y ∧ I y ∧ g y ≤ Rows.uptoBulk x.1)
    (m : Nat) (hm : m ≤ F) (v : Value) (x : DataW H × List MemPlace) (h : DataW.trod enc Try.prog w 0 sp true m S [v] = some x) :
    ∃ a l c, v = .slice a l.length c ∧ l.length ≤ c ∧ c ≤ maxLen ∧ Lay w.heap.size w k f I a l ∧ (l.map g).sum + 1 ≤ Rows.uptoBulk x.1 := by
  rcases DataW.trod_slice hS h with ⟨e, rfl⟩ | ⟨a, len, cap, elems, rest, m', rfl, e, rfl, _, hlc, hcm, hel, hat, _, _⟩
  · simp at e
    subst e
    exact ⟨none, [], 0, rfl, Nat.le_refl _, Nat.zero_le _, Or.inl rfl, by simp [Rows.uptoBulk]⟩
  · simp at e
    subst e
    simp only [hk] at hat
    have key : ∀ i, i < len → ∃ y : α, (∃ b o, a = ⟨b, o, none⟩ ∧ b < w.heap.size ∧ ∀ (j : Nat) (u : Value), (f y)[j]? = some u → w.cell? ⟨b, o + i * k + j, none⟩ = some u) ∧ I y ∧ ∀ e, (elems.map (·.1))[i]? = some e → g y ≤ Rows.uptoBulk e := by
      intro i hi
      have hi' := hat i hi
      have hi0 := hat 0 (by omega)
      rw [List.getElem?_eq_getElem (by omega)] at hi' hi0
      obtain ⟨cs', hcs, htr⟩ := Option.bind_eq_some_iff.1 hi'
      obtain ⟨cs0, hcs0, htr0⟩ := Option.bind_eq_some_iff.1 hi0
      obtain ⟨_, hl', hcell⟩ := World.cells?_some hcs
      obtain ⟨_, hl0, hcell0⟩ := World.cells?_some hcs0
      obtain ⟨y, rfl, hin, hb⟩ := elem m' cs' _ (by omega) htr
      have ha := spot_none (w := w) (a := a) (v := cs0[0]'(by omega)) (by have := hcell0 0 (by omega); rw [List.getElem?_eq_getElem (by omega)] at this; simpa using this)
      have hadd : ∀ j, (a.add (i * k)).add j = ⟨a.block, a.off + i * k + j, none⟩ := fun j => by
        have := add_add a.block a.off (i * k) j
        rw [← ha] at this
        exact this
      have hc : ∀ (j : Nat) (u : Value), (f y)[j]? = some u → w.cell? ⟨a.block, a.off + i * k + j, none⟩ = some u := fun j u hj => by
        have hjl := (List.getElem?_eq_some_iff.1 hj).1
        have := hcell j (by rw [hlen] at hjl; omega)
        rw [hadd, hj] at this
        exact this
      obtain ⟨u0, hu0⟩ : ∃ u, (f y)[0]? = some u := ⟨(f y)[0]'(by rw [hlen]; omega), List.getElem?_eq_getElem _⟩
      refine ⟨y, ⟨a.block, a.off, ha, World.block_lt_of_cell? w ⟨a.block, a.off + i * k + 0, none⟩ (hc 0 u0 hu0), hc⟩, hin, fun e he => ?_⟩
      rw [List.getElem?_map, List.getElem?_eq_getElem (by omega)] at he
      have : (elems[i]).1 = e := by simpa using he
      rw [← this]
      exact hb
    obtain ⟨p, hpl, hp⟩ := list_of len key
    refine ⟨some a, p, cap, by rw [hpl], by omega, hcm, ?_, ?_⟩
    · rcases Nat.eq_zero_or_pos len with h | h
      · exact Or.inl (List.eq_nil_of_length_eq_zero (hpl.trans h))
      · obtain ⟨⟨b, o, rfl, hb, _⟩, _, _⟩ := hp 0 (p[0]'(by rw [hpl]; exact h)) (List.getElem?_eq_getElem (by rw [hpl]; exact h))
        refine Or.inr ⟨b, o, rfl, hb, fun i y hy => ?_⟩
        obtain ⟨⟨b', o', e, _, hh⟩, hin, _⟩ := hp i y hy
        simp at e
        obtain ⟨rfl, rfl⟩ := e
        exact ⟨hh, hin⟩
    · have hs := osum_le g p (elems.map (·.1)) (fun i y e hy he => (hp i y hy).2.2 e he) (by simp; omega)
      simp only [Rows.uptoBulk]
      omega
theorem term_of {H : Type} (enc : TypeId × Value → H) (w : World) (sp : Nat → Bool) (n m : Nat) (hm : m ≤ n) (cs : List Value) (x : DataW H × List MemPlace) (h : DataW.trod enc Try.prog w 0 sp true m 25 cs = some x) : ∃ t : Tm (n + 1), cs = tm4 (n + 1) t ∧ In w.heap.size w (n + 1) t ∧ wt (n + 1) t ≤ Rows.uptoBulk x.1 := by
  obtain ⟨t, h1, h2, h3⟩ := tree_of enc w sp n m (by omega) cs x h
  exact ⟨t, h1, h2, h3⟩

set_option maxRecDepth 100000 in
set_option maxHeartbeats 1000000 in
theorem act_of {H : Type} (enc : TypeId × Value → H) (w : World) (sp : Nat → Bool) (n m : Nat) (hm : m ≤ n) (cs : List Value) (x : DataW H × List MemPlace) (h : DataW.trod enc Try.prog w 0 sp true m 91 cs = some x) : ∃ a : Ac (n + 1), cs = ac11 (n + 1) a ∧ AcIn (n + 1) w.heap.size w a ∧ wtA (n + 1) a ≤ Rows.uptoBulk x.1 := by
  obtain ⟨xs, m, rfl, rfl, hl, hx, hg⟩ := DataW.trod_struct Try.underlying91 h
  have h0 : DataW.trod enc Try.prog w 0 sp true m 3 ((cs.drop 0).take (Try.prog.cellsOf 3)) = xs[0]? := hg 0 _ rfl
  have h1 : DataW.trod enc Try.prog w 0 sp true m 25 ((cs.drop 1).take (Try.prog.cellsOf 25)) = xs[1]? := hg 1 _ rfl
  have h2 : DataW.trod enc Try.prog w 0 sp true m 25 ((cs.drop 5).take (Try.prog.cellsOf 25)) = xs[2]? := hg 2 _ rfl
  have h3 : DataW.trod enc Try.prog w 0 sp true m 9 ((cs.drop 9).take (Try.prog.cellsOf 9)) = xs[3]? := hg 3 _ rfl
  have h4 : DataW.trod enc Try.prog w 0 sp true m 3 ((cs.drop 10).take (Try.prog.cellsOf 3)) = xs[4]? := hg 4 _ rfl
  rw [cellsInt] at h0 h4
  rw [cellsTerm] at h1 h2
  rw [cellsString] at h3
  rw [cellsAct] at hl
  obtain ⟨c0, c1, c2, c3, c4, c5, c6, c7, c8, c9, c10, rfl⟩ : ∃ c0 c1 c2 c3 c4 c5 c6 c7 c8 c9 c10, cs = [c0, c1, c2, c3, c4, c5, c6, c7, c8, c9, c10] := by
    match cs, hl with
    | [c0, c1, c2, c3, c4, c5, c6, c7, c8, c9, c10], _ => exact ⟨c0, c1, c2, c3, c4, c5, c6, c7, c8, c9, c10, rfl⟩
  obtain ⟨y0, y1, y2, y3, y4, rfl⟩ : ∃ y0 y1 y2 y3 y4, xs = [y0, y1, y2, y3, y4] := by
    match xs, hx with
    | [y0, y1, y2, y3, y4], _ => exact ⟨y0, y1, y2, y3, y4, rfl⟩
  obtain ⟨k, e0, z0, w0⟩ := DataW.trod_int Try.underlying3 (x := y0) (by simpa using h0)
  obtain ⟨v, e4, z4, w4⟩ := DataW.trod_int Try.underlying3 (x := y4) (by simpa using h4)
  obtain ⟨s, e3, z3, w3⟩ := DataW.trod_string Try.underlying9 (x := y3) (by simpa using h3)
  obtain ⟨t, e1, i1, b1⟩ := term_of enc w sp n m (by omega) [c1, c2, c3, c4] y1 (by simpa using h1)
  obtain ⟨u, e2, i2, b2⟩ := term_of enc w sp n m (by omega) [c5, c6, c7, c8] y2 (by simpa using h2)
  simp at e0 e3 e4
  subst e0 e3 e4 z0 z3 z4
  refine ⟨(k, (t, u), (s, v)), ?_, ⟨wf64 w0, i1, i2, w3, wf64 w4⟩, ?_⟩
  · show _ = .int .i64 k :: (tm4 (n + 1) t ++ tm4 (n + 1) u ++ [.string s, .int .i64 v])
    rw [← e1, ← e2]
    rfl
  · have es : s.data.toList.length = s.size := by rw [Array.length_toList]; rfl
    simp only [wtA, Rows.uptoBulk, Rows.uptoBulkAll, List.map_cons, List.map_nil]
    omega

set_option maxRecDepth 100000 in
set_option maxHeartbeats 1000000 in
theorem clause_of {H : Type} (enc : TypeId × Value → H) (w : World) (sp : Nat → Bool) (n m : Nat) (hm : m ≤ n) (cs : List Value) (x : DataW H × List MemPlace) (h : DataW.trod enc Try.prog w 0 sp true m 78 cs = some x) : ∃ a : Cl (n + 1), cs = cl13 (n + 1) a ∧ ClIn (n + 1) w.heap.size w a ∧ wtC (n + 1) a ≤ Rows.uptoBulk x.1 := by
  obtain ⟨xs, m, rfl, rfl, hl, hx, hg⟩ := DataW.trod_struct Try.underlying78 h
  have h0 : DataW.trod enc Try.prog w 0 sp true m 25 ((cs.drop 0).take (Try.prog.cellsOf 25)) = xs[0]? := hg 0 _ rfl
  have h1 : DataW.trod enc Try.prog w 0 sp true m 25 ((cs.drop 4).take (Try.prog.cellsOf 25)) = xs[1]? := hg 1 _ rfl
  have h2 : DataW.trod enc Try.prog w 0 sp true m 76 ((cs.drop 8).take (Try.prog.cellsOf 76)) = xs[2]? := hg 2 _ rfl
  have h3 : DataW.trod enc Try.prog w 0 sp true m 25 ((cs.drop 9).take (Try.prog.cellsOf 25)) = xs[3]? := hg 3 _ rfl
  rw [cellsTerm] at h0 h1 h3
  rw [cellsActs] at h2
  rw [cellsClause] at hl
  obtain ⟨c0, c1, c2, c3, c4, c5, c6, c7, c8, c9, c10, c11, c12, rfl⟩ : ∃ c0 c1 c2 c3 c4 c5 c6 c7 c8 c9 c10 c11 c12, cs = [c0, c1, c2, c3, c4, c5, c6, c7, c8, c9, c10, c11, c12] := by
    match cs, hl with
    | [c0, c1, c2, c3, c4, c5, c6, c7, c8, c9, c10, c11, c12], _ => exact ⟨c0, c1, c2, c3, c4, c5, c6, c7, c8, c9, c10, c11, c12, rfl⟩
  obtain ⟨y0, y1, y2, y3, rfl⟩ : ∃ y0 y1 y2 y3, xs = [y0, y1, y2, y3] := by
    match xs, hx with
    | [y0, y1, y2, y3], _ => exact ⟨y0, y1, y2, y3, rfl⟩
  obtain ⟨t, e0, i0, b0⟩ := term_of enc w sp n m (by omega) [c0, c1, c2, c3] y0 (by simpa using h0)
  obtain ⟨u, e1, i1, b1⟩ := term_of enc w sp n m (by omega) [c4, c5, c6, c7] y1 (by simpa using h1)
  obtain ⟨v, e3, i3, b3⟩ := term_of enc w sp n m (by omega) [c9, c10, c11, c12] y3 (by simpa using h3)
  obtain ⟨a, l, c, e2, hlc, hcm, hly, hb⟩ := row_of enc w sp 11 (ac11 (n + 1)) (AcIn (n + 1) w.heap.size w) (wtA (n + 1)) 91 76 Try.underlying76 cellsAct (by omega) (fun _ => rfl) n (fun m cs x hm h => act_of enc w sp n m hm cs x h) m (by omega) c8 y2 (by simpa using h2)
  subst e2
  refine ⟨((t, u, v), (a, c), l), ?_, ⟨⟨i0, i1, i3⟩, ⟨hlc, hcm⟩, hly⟩, ?_⟩
  · show _ = tm4 (n + 1) t ++ tm4 (n + 1) u ++ (.slice a l.length c :: tm4 (n + 1) v)
    rw [← e0, ← e1, ← e3]
    rfl
  · simp only [wtC, Rows.uptoBulk, Rows.uptoBulkAll, List.map_cons, List.map_nil]
    omega

set_option maxRecDepth 100000 in
set_option maxHeartbeats 1000000 in
theorem beh_of {H : Type} (enc : TypeId × Value → H) (w : World) (sp : Nat → Bool) (n m : Nat) (hm : m ≤ n) (cs : List Value) (x : DataW H × List MemPlace) (h : DataW.trod enc Try.prog w 0 sp true m 93 cs = some x) : ∃ a : Bh (n + 1), cs = bh2 (n + 1) a ∧ BhIn (n + 1) w.heap.size w a ∧ wtB (n + 1) a ≤ Rows.uptoBulk x.1 := by
  obtain ⟨xs, m, rfl, rfl, hl, hx, hg⟩ := DataW.trod_struct Try.underlying93 h
  have h0 : DataW.trod enc Try.prog w 0 sp true m 9 ((cs.drop 0).take (Try.prog.cellsOf 9)) = xs[0]? := hg 0 _ rfl
  have h1 : DataW.trod enc Try.prog w 0 sp true m 83 ((cs.drop 1).take (Try.prog.cellsOf 83)) = xs[1]? := hg 1 _ rfl
  rw [cellsString] at h0
  rw [cellsClauses] at h1
  rw [cellsBeh] at hl
  obtain ⟨c0, c1, rfl⟩ : ∃ c0 c1, cs = [c0, c1] := by
    match cs, hl with
    | [c0, c1], _ => exact ⟨c0, c1, rfl⟩
  obtain ⟨y0, y1, rfl⟩ : ∃ y0 y1, xs = [y0, y1] := by
    match xs, hx with
    | [y0, y1], _ => exact ⟨y0, y1, rfl⟩
  obtain ⟨s, e0, z0, w0⟩ := DataW.trod_string Try.underlying9 (x := y0) (by simpa using h0)
  obtain ⟨a, l, c, e1, hlc, hcm, hly, hb⟩ := row_of enc w sp 13 (cl13 (n + 1)) (ClIn (n + 1) w.heap.size w) (wtC (n + 1)) 78 83 Try.underlying83 cellsClause (by omega) (fun _ => rfl) n (fun m cs x hm h => clause_of enc w sp n m hm cs x h) m (by omega) c1 y1 (by simpa using h1)
  simp at e0
  subst e0 z0 e1
  refine ⟨(s, (a, c), l), rfl, ⟨w0, ⟨hlc, hcm⟩, hly⟩, ?_⟩
  have es : s.data.toList.length = s.size := by rw [Array.length_toList]; rfl
  simp only [wtB, Rows.uptoBulk, Rows.uptoBulkAll, List.map_cons, List.map_nil]
  omega

set_option maxRecDepth 100000 in
theorem open_prog {H : Type} {enc : TypeId × Value → H} {W : World} {r : Reach} {b0 : Nat} {v : Value} {d : DataW H} {p : List MemPlace} (hv : Value.okWide Try.prog W r b0 22 v)
    (h : DataW.Trod enc Try.prog W 0 (fun _ => true) true 22 v d p) : ∃ n, ∃ l : List (Bh (n + 1)), ∃ a c, v = .slice a l.length c ∧ l.length ≤ c ∧ c ≤ maxLen ∧ PgIn (n + 1) W.heap.size W a l ∧ (l.map (wtB (n + 1))).sum ≤ Rows.uptoBulk d := by
  obtain ⟨a, len, cap, rfl⟩ := okWide_slice Try.underlying22 hv
  obtain ⟨f, hf⟩ := h
  have hf' : DataW.trod enc Try.prog W 0 (fun _ => true) true f 22 [.slice a len cap] = some (d, p) := hf
  obtain ⟨a', l, c, e, h1, h2, h3, h4⟩ := row_of enc W (fun _ => true) 2 (bh2 (f + 1)) (BhIn (f + 1) W.heap.size W) (wtB (f + 1)) 93 22 Try.underlying22 cellsBeh (by omega) (fun _ => rfl) f (fun m cs x hm h => beh_of enc W _ f m hm cs x h) f (Nat.le_refl _) _ _ hf'
  exact ⟨f, l, a', c, e, h1, h2, h3, by simp only at h4; omega⟩
end Go.Proofs.Ytbmjfnicfpdjfaa
namespace Go.Proofs.Ytbmjfnicfpdjfaa
open Go.ChangeShapes Go.WideShapes Go.ChangeAt Go.RowKit

/-- A call on a process: Kind and Self, and its term. -/
abbrev Pk (n : Nat) : Type := (Int × Int) × Tm (n + 1)
def pk6 (n : Nat) (c : Pk n) : List Value := .int .i64 c.1.1 :: .int .i64 c.1.2 :: tm4 (n + 1) c.2
def wtK (n : Nat) (c : Pk n) : Nat := wt (n + 1) c.2 + 1
def PkIn (n : Nat) (B : Nat) (w : World) (c : Pk n) : Prop := I64 c.1.1 ∧ I64 c.1.2 ∧ In B w (n + 1) c.2
theorem cellsPCall : Try.prog.cellsOf 47 = 6 := by kernel_rfl
set_option maxRecDepth 100000 in
set_option maxHeartbeats 1000000 in
theorem pcall_of {H : Type} (enc : TypeId × Value → H) (w : World) (sp : Nat → Bool) (n m : Nat) (hm : m ≤ n) (cs : List Value) (x : DataW H × List MemPlace) (h : DataW.trod enc Try.prog w 0 sp true m 47 cs = some x) : ∃ a : Pk n, cs = pk6 n a ∧ PkIn n w.heap.size w a ∧ wtK n a ≤ Rows.uptoBulk x.1 := by
  obtain ⟨xs, m, rfl, rfl, hl, hx, hg⟩ := DataW.trod_struct Try.underlying47 h
  have h0 : DataW.trod enc Try.prog w 0 sp true m 3 ((cs.drop 0).take (Try.prog.cellsOf 3)) = xs[0]? := hg 0 _ rfl
  have h1 : DataW.trod enc Try.prog w 0 sp true m 3 ((cs.drop 1).take (Try.prog.cellsOf 3)) = xs[1]? := hg 1 _ rfl
  have h2 : DataW.trod enc Try.prog w 0 sp true m 25 ((cs.drop 2).take (Try.prog.cellsOf 25)) = xs[2]? := hg 2 _ rfl
  rw [cellsInt] at h0 h1
  rw [cellsTerm] at h2
  rw [cellsPCall] at hl
  obtain ⟨c0, c1, c2, c3, c4, c5, rfl⟩ : ∃ c0 c1 c2 c3 c4 c5, cs = [c0, c1, c2, c3, c4, c5] := by
    match cs, hl with
    | [c0, c1, c2, c3, c4, c5], _ => exact ⟨c0, c1, c2, c3, c4, c5, rfl⟩
  obtain ⟨y0, y1, y2, rfl⟩ : ∃ y0 y1 y2, xs = [y0, y1, y2] := by
    match xs, hx with
    | [y0, y1, y2], _ => exact ⟨y0, y1, y2, rfl⟩
  obtain ⟨k, e0, z0, w0⟩ := DataW.trod_int Try.underlying3 (x := y0) (by simpa using h0)
  obtain ⟨a, e1, z1, w1⟩ := DataW.trod_int Try.underlying3 (x := y1) (by simpa using h1)
  obtain ⟨t, e2, i2, b2⟩ := term_of enc w sp n m (by omega) [c2, c3, c4, c5] y2 (by simpa using h2)
  simp at e0 e1
  subst e0 e1 z0 z1
  refine ⟨((k, a), t), ?_, ⟨wf64 w0, wf64 w1, i2⟩, ?_⟩
  · show _ = .int .i64 k :: .int .i64 a :: tm4 (n + 1) t
    rw [← e2]
  · simp only [wtK, Rows.uptoBulk, Rows.uptoBulkAll, List.map_cons, List.map_nil]
    omega
set_option maxRecDepth 100000 in
theorem open_pcalls {H : Type} {enc : TypeId × Value → H} {W : World} {r : Reach} {b0 : Nat} {v : Value} {d : DataW H} {p : List MemPlace} (hv : Value.okWide Try.prog W r b0 26 v)
    (h : DataW.Trod enc Try.prog W 0 (fun _ => true) true 26 v d p) : ∃ n, ∃ l : List (Pk n), ∃ a c, v = .slice a l.length c ∧ l.length ≤ c ∧ c ≤ maxLen ∧ Lay W.heap.size W 6 (pk6 n) (PkIn n W.heap.size W) a l ∧ (l.map (wtK n)).sum ≤ Rows.uptoBulk d := by
  obtain ⟨a, len, cap, rfl⟩ := okWide_slice Try.underlying26 hv
  obtain ⟨f, hf⟩ := h
  have hf' : DataW.trod enc Try.prog W 0 (fun _ => true) true f 26 [.slice a len cap] = some (d, p) := hf
  obtain ⟨a', l, c, e, h1, h2, h3, h4⟩ := row_of enc W (fun _ => true) 6 (pk6 f) (PkIn f W.heap.size W) (wtK f) 47 26 Try.underlying26 cellsPCall (by omega) (fun _ => rfl) f (fun m cs x hm h => pcall_of enc W _ f m hm cs x h) f (Nat.le_refl _) _ _ hf'
  exact ⟨f, l, a', c, e, h1, h2, h3, by simp only at h4; omega⟩
theorem ksum_mem {n : Nat} (l : List (Pk n)) (y : Pk n) (h : y ∈ l) : wtK n y ≤ (l.map (wtK n)).sum := by
  induction l with
  | nil => cases h
  | cons z l ih =>
    simp only [List.map_cons, List.sum_cons]
    rcases List.mem_cons.1 h with rfl | h
    · omega
    · have := ih h
      omega
/-- Each call's term has no more terms in it than the bulk says. -/
theorem pcall_nodes {n : Nat} {l : List (Pk n)} (hs : (l.map (wtK n)).sum ≤ 1048576) (y : Pk n) (h : y ∈ l) : (nodes (n + 1) y.2).length ≤ 2097152 := by
  have h1 := ksum_mem l y h
  have h2 := nodes_wt (n + 1) y.2
  have h3 : wt (n + 1) y.2 + 1 ≤ (l.map (wtK n)).sum := h1
  omega
end Go.Proofs.Ytbmjfnicfpdjfaa
namespace Go.Proofs.Ytbmjfnicfpdjfaa
open Go.RowKit

/-- A row of numbers lies at a place. -/
def NumsAt (ka : Option Addr) (klen : Nat) (w : World) : Prop := klen = 0 ∨ ∃ b o, ka = some ⟨b, o, none⟩ ∧ b < w.heap.size ∧ ∀ i, i < klen → ∃ u, w.cell? ⟨b, o + i, none⟩ = some (.int .i64 u)
theorem NumsAt.below {ka : Option Addr} {klen : Nat} {w w' : World} (h : NumsAt ka klen w) (hb : Below w.heap.size w w') : NumsAt ka klen w' := by
  rcases h with h | ⟨b, o, e, hlt, h⟩
  · exact Or.inl h
  · refine Or.inr ⟨b, o, e, by have := hb.size; omega, fun i hi => ?_⟩
    obtain ⟨u, hu⟩ := h i hi
    exact ⟨u, (hb.cell (p := ⟨b, o + i, none⟩) hlt).trans hu⟩
def SomeInt (w : World) (e : Ending) (w' : World) : Prop := ∃ r : Int, e = .returned (.int .i64 r) ∧ w' = w
def SomeBool (w : World) (e : Ending) (w' : World) : Prop := ∃ t : Bool, e = .returned (.bool t) ∧ w' = w
set_option maxRecDepth 100000 in
set_option maxHeartbeats 1000000 in
theorem iidx_walk (ka : Option Addr) (klen kc : Nat) (y : Int) (w : World) (hl : klen ≤ 9223372036854775807) (HC : Hid (NumsAt ka klen w)) :
    Calls Try.prog 30 #[.slice ka klen kc, .int .i64 y] w (SomeInt w) := by
  go_enter Try.func30, Try.ntmps30
  go_wp2_with fail
  go_loopw [8] (fun i wr => ∃ j : Nat, j ≤ klen ∧ i = .int .i64 j ∧ wr = w) (fun i _ => klen - (intOf i).toNat)
  case atStart => exact ⟨0, Nat.zero_le _, rfl, rfl⟩
  case round =>
    obtain ⟨j, hj, rfl, rfl⟩ := hrel
    by_cases hjl : j < klen
    · obtain ⟨g, o, rfl, hg, hc⟩ : ∃ b o, ka = some ⟨b, o, none⟩ ∧ b < wr.heap.size ∧ ∀ i, i < klen → ∃ u, wr.cell? ⟨b, o + i, none⟩ = some (.int .i64 u) := by
        rcases HC.out with h | h
        · omega
        · exact h
      obtain ⟨k, hk⟩ := hc j hjl
      clear hc
      have j1 : (0 : Int) ≤ (j : Int) := by omega
      have j2 : (j : Int) < (klen : Int) := by omega
      by_cases hky : y = k
      · subst hky
        go_wp2_with fail
        go_ret
        exact ⟨(j : Int), rfl, rfl⟩
      · have hky' : ¬ k = y := fun e => hky e.symm
        go_wp2_with fail
        go_roundw
        case rel => exact ⟨j + 1, by omega, by go_num, trivial⟩
        case measure => simp [intOf]; omega
    · obtain rfl : j = klen := by omega
      go_wp2_with fail
      go_ret
      exact ⟨-1, rfl, rfl⟩
set_option maxRecDepth 100000 in
theorem icon_any (ka : Option Addr) (klen kc : Nat) (y : Int) (w : World) (hl : klen ≤ 9223372036854775807) (HC : Hid (NumsAt ka klen w)) :
    Calls Try.prog 12 #[.slice ka klen kc, .int .i64 y] w (SomeBool w) := by
  go_enter Try.func12, Try.ntmps12
  go_wp2_with fail
  refine (iidx_walk ka klen kc y w hl HC).mono ?_
  rintro e w1 ⟨r, rfl, hw⟩
  obtain rfl := hw.symm
  go_wp2_with fail
  go_ret
  exact ⟨_, rfl, rfl⟩
end Go.Proofs.Ytbmjfnicfpdjfaa
