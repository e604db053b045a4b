/- What is proved here: the statement's own small reading (clerkkeep.read) answers true. Only new memory turns. Condition: the library's table of powers lies as its text lays it. -/
import Derived.Test.YtdlplmpjcemnoabDoorBck0
import Derived.Test.YtdlplmpjcemnoabDoorPar
import Derived.Test.YtdlplmpjcemnoabDoorPri
import Derived.Test.YtdlplmpjcemnoabDoorTwo
namespace Go.Proofs.YtdlplmpjcemnoabDoor
open Go.RowKit

/-- The small text, and the term that it tells. -/
def rdS : ByteArray := ⟨#[32, 40, 40, 32, 97, 32, 32, 53, 41, 35, 51, 32, 41, 32]⟩
def rdX : Tm 3 := ((4, 0, ⟨#[]⟩), (none, 0), [((4, 0, ⟨#[]⟩), (none, 0), [((2, 0, ⟨#[97]⟩), (none, 0), []), ((1, 5, ⟨#[]⟩), (none, 0), [])]), ((3, 3, ⟨#[]⟩), (none, 0), [])])
theorem dec5 : Lib.decDigits 5 = [53] := by rw [dec_small (by omega)]; rfl
theorem dec3 : Lib.decDigits 3 = [51] := by rw [dec_small (by omega)]; rfl
theorem rd_toks : toks rdS 0 = [(1, ⟨#[40]⟩), (2, ⟨#[40]⟩), (4, ⟨#[97]⟩), (7, ⟨#[53]⟩), (8, ⟨#[41]⟩), (9, ⟨#[35, 51]⟩), (12, ⟨#[41]⟩)] := by
  have en : enB 32 = true ∧ enB 41 = true := by decide
  rw [tk_bl (s := rdS) (i := 0) (post := [40, 40, 32, 97, 32, 32, 53, 41, 35, 51, 32, 41, 32]) rfl]
  rw [tk_br (s := rdS) (i := 0 + 1) (c := 40) (post := [40, 32, 97, 32, 32, 53, 41, 35, 51, 32, 41, 32]) rfl (Or.inl rfl)]
  rw [tk_br (s := rdS) (i := 0 + 1 + 1) (c := 40) (post := [32, 97, 32, 32, 53, 41, 35, 51, 32, 41, 32]) rfl (Or.inl rfl)]
  rw [tk_bl (s := rdS) (i := 0 + 1 + 1 + 1) (post := [97, 32, 32, 53, 41, 35, 51, 32, 41, 32]) rfl]
  rw [tk_word (s := rdS) (i := 0 + 1 + 1 + 1 + 1) (l := [97]) (post := [32, 32, 53, 41, 35, 51, 32, 41, 32]) rfl (by simp) (by simp [enB]) (Or.inr ⟨32, _, rfl, en.1⟩)]
  rw [tk_bl (s := rdS) (i := 0 + 1 + 1 + 1 + 1 + [(97 : UInt8)].length) (post := [32, 53, 41, 35, 51, 32, 41, 32]) rfl]
  rw [tk_bl (s := rdS) (i := 0 + 1 + 1 + 1 + 1 + [(97 : UInt8)].length + 1) (post := [53, 41, 35, 51, 32, 41, 32]) rfl]
  rw [tk_word (s := rdS) (i := 0 + 1 + 1 + 1 + 1 + [(97 : UInt8)].length + 1 + 1) (l := [53]) (post := [41, 35, 51, 32, 41, 32]) rfl (by simp) (by simp [enB]) (Or.inr ⟨41, _, rfl, en.2⟩)]
  rw [tk_br (s := rdS) (i := 0 + 1 + 1 + 1 + 1 + [(97 : UInt8)].length + 1 + 1 + [(53 : UInt8)].length) (c := 41) (post := [35, 51, 32, 41, 32]) rfl (Or.inr rfl)]
  rw [tk_word (s := rdS) (i := 0 + 1 + 1 + 1 + 1 + [(97 : UInt8)].length + 1 + 1 + [(53 : UInt8)].length + 1) (l := [35, 51]) (post := [32, 41, 32]) rfl (by simp) (by simp [enB]) (Or.inr ⟨32, _, rfl, en.1⟩)]
  rw [tk_bl (s := rdS) (i := 0 + 1 + 1 + 1 + 1 + [(97 : UInt8)].length + 1 + 1 + [(53 : UInt8)].length + 1 + [(35 : UInt8), 51].length) (post := [41, 32]) rfl]
  rw [tk_br (s := rdS) (i := 0 + 1 + 1 + 1 + 1 + [(97 : UInt8)].length + 1 + 1 + [(53 : UInt8)].length + 1 + [(35 : UInt8), 51].length + 1) (c := 41) (post := [32]) rfl (Or.inr rfl)]
  rw [tk_bl (s := rdS) (i := 0 + 1 + 1 + 1 + 1 + [(97 : UInt8)].length + 1 + 1 + [(53 : UInt8)].length + 1 + [(35 : UInt8), 51].length + 1 + 1) (post := []) rfl]
  rw [toks_nil rdS _ (fun hlt => absurd (Nat.lt_of_le_of_lt (wordB_ge rdS _) hlt) (by decide))]
  rfl
theorem rd_is : Is 3 rdX (toks rdS 0) [] := by
  have t1 := tells_name ⟨#[97]⟩ (by decide)
  have t2 := tells_nat 5 (by decide)
  have t3 := tells_pid 3 (by decide)
  rw [dec5] at t2
  rw [dec3] at t3
  rw [rd_toks]
  refine ⟨_, _, rfl, Or.inr ⟨isO_open, rfl, (12, ⟨#[41]⟩), ⟨_, ⟨_, _, rfl, Or.inr ⟨isO_open, rfl, (8, ⟨#[41]⟩), ⟨_, ⟨_, _, rfl, Or.inl ⟨t1.2.2.2.2, t1.2.2.1, t1.2.2.2.1.symm, rfl, rfl⟩⟩, _, ⟨_, _, rfl, Or.inl ⟨t2.2.2.2.2, t2.2.2.1, t2.2.2.2.1.symm, rfl, rfl⟩⟩, rfl⟩, isC_close⟩⟩, _, ⟨_, _, rfl, Or.inl ⟨t3.2.2.2.2, t3.2.2.1, t3.2.2.2.1.symm, rfl, rfl⟩⟩, rfl⟩, isC_close⟩⟩
theorem one97 : (⟨#[97]⟩ : ByteArray).size = 1 := rfl
/-- The five terms in the small one, whatever their parts' places. -/
def five (a b : Option Addr) (m k : Nat) : List Nd := [((4, 0, ⟨#[]⟩), (a, 2, m)), ((4, 0, ⟨#[]⟩), (b, 2, k)), ((2, 0, ⟨#[97]⟩), (none, 0, 0)), ((1, 5, ⟨#[]⟩), (none, 0, 0)), ((3, 3, ⟨#[]⟩), (none, 0, 0))]
theorem five_good (a b : Option Addr) (m k : Nat) : chkL 6 (five a b m k) [0, 1, 2, 2, 1] 0 = 0 := by
  simp [five, chkL, good, deeper, ByteArray.toList_eq, nameB, inB, lowsB, lowB, one97]
theorem rd_chk : chk 3 rdX = 0 ∧ sz 3 rdX = 6 := by
  have h1 : nodes 3 rdX = five none none 0 0 := rfl
  have h2 : deeps 3 rdX 0 = [0, 1, 2, 2, 1] := rfl
  have h3 : sz 3 rdX = 6 := rfl
  refine ⟨?_, h3⟩
  unfold chk
  rw [h1, h2, h3]
  exact five_good _ _ _ _

/-- What is printed. -/
def pidT : Tm 2 := ((3, 3, ⟨#[]⟩), (none, 0), [])
def rdP (g h : Nat) : Tm 3 := ((4, 0, ⟨#[]⟩), (some ⟨h, 0, none⟩, 2), [twoT g, pidT])
theorem rdP_facts (g h : Nat) : chk 3 (rdP g h) = 0 ∧ (nodes 3 (rdP g h)).length = 5 ∧ wt 3 (rdP g h) = 6 ∧ wtext 3 (rdP g h) = [40, 40, 97, 32, 53, 41, 32, 35, 51, 41] := by
  have h1 : nodes 3 (rdP g h) = five (some ⟨h, 0, none⟩) (some ⟨g, 0, none⟩) 2 2 := rfl
  have h2 : deeps 3 (rdP g h) 0 = [0, 1, 2, 2, 1] := rfl
  have h3 : sz 3 (rdP g h) = 6 := rfl
  refine ⟨?_, rfl, rfl, ?_⟩
  · unfold chk
    rw [h1, h2, h3]
    exact five_good _ _ _ _
  · have a1 : wtext 1 (numT 5) = [53] := by simp [wtext, numT, Lib.itoa, dec5]
    have a2 : wtext 1 (wordT ⟨#[97]⟩) = [97] := by simp [wtext, wordT]
    have a3 : wtext 2 pidT = [35, 51] := by simp [wtext, pidT, Lib.itoa, dec3]
    have a4 : wtext 2 (twoT g) = 40 :: jn [wtext 1 (wordT ⟨#[97]⟩), wtext 1 (numT 5)] ++ [41] := rfl
    have a5 : wtext 3 (rdP g h) = 40 :: jn [wtext 2 (twoT g), wtext 2 pidT] ++ [41] := rfl
    rw [a5, a4, a3, a2, a1]
    rfl

theorem rdP_in {B : Nat} {w : World} {g h : Nat} (hg : In B w 2 (twoT g)) (hh : h < B) {t : TypeId} {fr : Nat × Nat}
    (hc : w.heap[h]? = some (.cells #[.int .i64 4, .int .i64 0, .string ⟨#[]⟩, .slice (some ⟨g, 0, none⟩) 2 2, .int .i64 3, .int .i64 3, .string ⟨#[]⟩, .slice none 0 0] t fr)) : In B w 3 (rdP g h) := by
  have hj : ∀ j, w.cell? ⟨h, j, none⟩ = #[Value.int .i64 4, .int .i64 0, .string ⟨#[]⟩, .slice (some ⟨g, 0, none⟩) 2 2, .int .i64 3, .int .i64 3, .string ⟨#[]⟩, .slice none 0 0][j]? := fun j => by simp [World.cell?, hc]
  refine ⟨⟨by simp [rdP, I64], by simp [rdP, I64], Nat.zero_le _, by simp [rdP], by simp [rdP, maxLen]⟩, Or.inr ⟨h, 0, rfl, hh, fun i y hy => ?_⟩⟩
  match i, hy with
  | 0, hy =>
    have : twoT g = y := by simpa [rdP] using hy
    subst this
    exact ⟨⟨hj 0, hj 1, hj 2, hj 3⟩, hg⟩
  | 1, hy =>
    have : pidT = y := by simpa [rdP] using hy
    subst this
    exact ⟨⟨hj 4, hj 5, hj 6, hj 7⟩, ⟨⟨by simp [pidT, I64], by simp [pidT, I64], Nat.zero_le _, by simp [pidT], by simp [pidT]⟩, Or.inl rfl⟩⟩
  | i + 2, hy => simp [rdP] at hy

theorem rd_parse {w w' : World} {v : Value} {p e : Int} (h : PRes rdS w w' v p e) : e = 0 ∧ ∃ (n : Nat) (x : Tm n), v = val n x ∧ In w'.heap.size w' n x ∧ sz n x = 6 ∧ (nodes n x).length ≤ 2097152 := by
  have he : exp rdS.size (toks rdS 0) 0 = none := is_exp rdS.size 3 rdX _ _ rd_is 0
  have hz : rdS.size = 14 := rfl
  rcases h with ⟨h, _⟩ | ⟨q, _, h, _⟩ | ⟨_, _, n, x, i1, i2, _, rfl, rfl, h⟩
  · omega
  · rw [he] at h; exact absurd h (by simp)
  · obtain ⟨hs, _⟩ := Is.one n 3 x rdX _ _ _ i1 rd_is
    have h1 := same_tchk n 3 x rdX hs
    have h2 := (same_parts n 3 x rdX hs).2.2
    rw [rd_chk.1] at h1
    rw [rd_chk.2] at h2
    have h3 := Is.nodes n x _ _ i1
    rw [rd_toks] at h3
    simp at h3
    rcases h with ⟨h, _⟩ | ⟨_, h⟩
    · exact absurd h1 h
    · exact ⟨h1, n, x, h, i2, h2, by omega⟩

theorem read_in {w w1 w2 : World} {g : Nat} (b1 : Below w.heap.size w w1) (h1 : In w1.heap.size w1 2 (twoT g)) {t : TypeId}
    (b2 : Below (w1.alloc (.cells #[.int .i64 4, .int .i64 0, .string ⟨#[]⟩, .slice (some ⟨g, 0, none⟩) 2 2, .int .i64 3, .int .i64 3, .string ⟨#[]⟩, .slice none 0 0] t)).heap.size (w1.alloc (.cells #[.int .i64 4, .int .i64 0, .string ⟨#[]⟩, .slice (some ⟨g, 0, none⟩) 2 2, .int .i64 3, .int .i64 3, .string ⟨#[]⟩, .slice none 0 0] t)) w2) :
    In w2.heap.size w2 3 (rdP g w1.heap.size) ∧ Below w.heap.size w w2 := by
  have z := b2.size
  simp at z
  have b3 : Below w1.heap.size w1 w2 := (below_new (Below.refl _ _) _).trans (b2.mono (by simp))
  refine ⟨rdP_in ((h1.below b3).mono (by omega)) (by omega) ((b2.block _ (by simp)).trans (heap_alloc_new w1 _)), b1.trans (b3.mono b1.size)⟩

set_option maxHeartbeats 1000000 in
theorem kread_any (w : World) (ht : Tab w.heap.size w) : Calls Tryd.prog 4 #[] w fun e w' => e = .returned (.bool true) ∧ Below w.heap.size w w' := by
  have HT := hide ht
  clear ht
  go_enter Tryd.func4, Tryd.ntmps4
  go_wp2_with (first
    | (go_at_call 9; refine (two_any w).mono ?_; rintro e w1 ⟨g, rfl, H1⟩)
    | (go_at_call 8; refine (tuple_any _ _ _ _).mono ?_; rintro e w2 ⟨rfl, hb2⟩; have HB2 := hide hb2; clear hb2)
    | (go_at_call 5; obtain ⟨HI, HB2'⟩ := read_in H1.out.1 H1.out.2 HB2.out; replace HI := hide HI; replace HB2' := hide HB2'; refine (show Calls _ _ #[.agg #[.int .i64 4, .int .i64 0, .string ⟨#[]⟩, .slice (some ⟨w1.heap.size, 0, none⟩) 2 2]] _ _ from print_any 3 (rdP g w1.heap.size) w2.heap.size w2 HI.out (Nat.le_refl _) (Tab.mono (HT.out.on HB2'.out) HB2'.out.size) (by rw [(rdP_facts g w1.heap.size).2.1]; omega) (by rw [(rdP_facts g w1.heap.size).2.2.1]; omega)).mono ?_; rw [(rdP_facts g w1.heap.size).1, (rdP_facts g w1.heap.size).2.2.2]; rintro e w3 ⟨rfl, hb3⟩; have HB3 := hide (HB2'.out.trans (hb3.mono HB2'.out.size)); clear hb3)
    | (go_at_call 6; refine (show Calls _ _ #[.string rdS] _ _ from parse_any rdS w3 (by unfold maxLen; decide)).mono ?_; rintro e w4 ⟨k, u, t, a, l, c, p, q, rfl, H4⟩; obtain ⟨rfl, n, x, hv, HX⟩ := rd_parse H4.out.1; replace HX := hide HX; replace hv := hide hv)
    | (go_at_call 10; rw [hv.out]; refine (tsize_any n x w4.heap.size _ (HX.out.1.below ((Below.refl _ _).alloc (Nat.le_refl _) _)) (by simp) HX.out.2.2).mono ?_; rw [HX.out.2.1]; rintro e w5 ⟨rfl, hb5⟩; have HB5 := hide hb5; clear hb5))
  go_ret
  have hb4 : Below w.heap.size w w4 := HB3.out.trans (H4.out.2.mono HB3.out.size)
  exact ⟨by simp, (below_new hb4 _).trans (HB5.out.mono (below_new hb4 _).size)⟩
end Go.Proofs.YtdlplmpjcemnoabDoor
