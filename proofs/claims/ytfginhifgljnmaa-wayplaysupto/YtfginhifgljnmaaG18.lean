/- What is proved here: WayPlays: ways do what the document says, call by call. No condition but that what is handed in lies in memory. -/
import Derived.Test.YtfginhifgljnmaaG16
import Derived.Test.YtfginhifgljnmaaG17
import Derived.Deep.CutBlock
import Derived.Deep.CutRange
namespace Go.Proofs.Ytfginhifgljnmaa
open Go.RowKit Go.Maps

theorem PS.start {w w1 : World} {wp N : Nat} (hb : Below w.heap.size w w1) (h : WyAt w.heap.size wp none 0 (N + 1) (fun _ => []) (fun _ => nilS) w1) {c0 c1 c2 c3 c5 c6 : Value} : PS w wp (w1.heap.size + 3) (w1.heap.size + 1) N 0 ((((w1.alloc (.map #[] 0)).alloc (.map #[] 0)).alloc (.map #[] 0)).alloc (.cells #[c0, c1, c2, c3, .map (some (w1.heap.size + 1)), c5, c6] 94)) := by
  have hz := hb.size
  have hB : Below w1.heap.size w1 ((((w1.alloc (.map #[] 0)).alloc (.map #[] 0)).alloc (.map #[] 0)).alloc (.cells #[c0, c1, c2, c3, .map (some (w1.heap.size + 1)), c5, c6] 94)) := ((((Below.refl _ _).alloc (Nat.le_refl _) _).alloc (by simp) _).alloc (by simp; omega) _).alloc (by simp; omega) _
  have hg : GO w.heap.size (w1.heap.size + 1) 0 (N + 1) (fun _ => []) (fun _ => nilS) ((((w1.alloc (.map #[] 0)).alloc (.map #[] 0)).alloc (.map #[] 0)).alloc (.cells #[c0, c1, c2, c3, .map (some (w1.heap.size + 1)), c5, c6] 94)) := by
    have h1 := GO.new (w1.alloc (.map #[] 0)) (N + 1)
    rw [World.size_alloc] at h1
    exact ((h1.kee (kee_below ((Below.refl _ _).alloc (Nat.le_refl _) (.map #[] 0)) fun _ => False) fun _ _ hf => hf).kee (kee_below ((Below.refl _ _).alloc (Nat.le_refl _) _) fun _ => False) fun _ _ hf => hf).rebase (by omega)
  have hno : ∀ b, gmM (w1.heap.size + 1) (fun _ => nilS) b → b = w1.heap.size + 1 := by
    rintro b (e | ⟨k, _, e⟩)
    · exact e
    · simp [nilS, Value.ownBlock] at e
  refine ⟨none, fun _ => [], fun _ => [], fun _ => nilS, fun _ => nilS, ⟨hb.trans (hB.mono hz), h.later hB, ⟨c0, c1, c2, c3, c5, c6, ?_⟩, by omega, hg, fun b hw hm => ?_, fun hw => ?_, fun hm => ?_, fun k _ => by simp [sameL], fun k _ hf => absurd rfl hf, fun k _ => by simp, fun k _ y hy => (by cases hy), fun k _ y hy => (by cases hy)⟩⟩
  · have h1 := heap_alloc_new (((w1.alloc (.map #[] 0)).alloc (.map #[] 0)).alloc (.map #[] 0)) (.cells #[c0, c1, c2, c3, .map (some (w1.heap.size + 1)), c5, c6] 94)
    simp only [World.size_alloc] at h1
    exact h1
  · have := (h.lt b hw).2
    have := hno b hm
    omega
  · have := (h.lt _ hw).2
    omega
  · have := hno _ hm
    omega
/-- The boxes of a round: the call, its key, the system. -/
def Bx (N q1 q2 sp ms : Nat) (ck ca cb : Int) (x : Tm (N + 1)) (W : World) : Prop :=
  W.heap[q1]? = some (.cells #[.int .i64 ck, .int .i64 ca, .int .i64 cb, .int .i64 x.1.1, .int .i64 x.1.2.1, .string x.1.2.2, .slice x.2.1.1 x.2.2.length x.2.1.2] 87) ∧ W.heap[q2]? = some (.cells #[.int .i64 ca, .int .i64 cb] 88) ∧ SysAt sp ms W
section
variable {N q1 q2 sp ms : Nat} {ck ca cb : Int} {x : Tm (N + 1)} {W W' : World}
theorem Bx.lt (h : Bx N q1 q2 sp ms ck ca cb x W) : q1 < W.heap.size ∧ q2 < W.heap.size ∧ sp < W.heap.size := ⟨(Array.getElem?_eq_some_iff.1 h.1).1, (Array.getElem?_eq_some_iff.1 h.2.1).1, h.2.2.cell.2⟩
theorem Bx.call (h : Bx N q1 q2 sp ms ck ca cb x W) : W.cell? ⟨q1, 1, none⟩ = some (.int .i64 ca) ∧ W.cell? ⟨q1, 2, none⟩ = some (.int .i64 cb) := ⟨cell_row h.1 1, cell_row h.1 2⟩
theorem Bx.term (h : Bx N q1 q2 sp ms ck ca cb x W) : W.cell? ⟨q1, 3, none⟩ = some (.int .i64 x.1.1) ∧ W.cell? ⟨q1, 4, none⟩ = some (.int .i64 x.1.2.1) ∧ W.cell? ⟨q1, 5, none⟩ = some (.string x.1.2.2) ∧ W.cell? ⟨q1, 6, none⟩ = some (.slice x.2.1.1 x.2.2.length x.2.1.2) := ⟨cell_row h.1 3, cell_row h.1 4, cell_row h.1 5, cell_row h.1 6⟩
theorem Bx.key (h : Bx N q1 q2 sp ms ck ca cb x W) : W.cell? ⟨q2, 0, none⟩ = some (.int .i64 ca) ∧ W.cell? ⟨q2, 1, none⟩ = some (.int .i64 cb) ∧ W.cell? ⟨sp, 4, none⟩ = some (.map (some ms)) := ⟨cell_row h.2.1 0, cell_row h.2.1 1, h.2.2.cell.1⟩
theorem Bx.later (h : Bx N q1 q2 sp ms ck ca cb x W) (hb : Below W.heap.size W W') : Bx N q1 q2 sp ms ck ca cb x W' := ⟨(hb.block q1 h.lt.1).trans h.1, (hb.block q2 h.lt.2.1).trans h.2.1, h.2.2.kept (hb.block sp h.lt.2.2)⟩
theorem Bx.same (h : Bx N q1 q2 sp ms ck ca cb x W) {z : Nat} (h1 : z ≤ q1) (h2 : z ≤ q2) (hk : ∀ q, q < W.heap.size → z ≤ q ∨ q = sp → W'.heap[q]? = W.heap[q]?) : Bx N q1 q2 sp ms ck ca cb x W' :=
  ⟨(hk q1 h.lt.1 (Or.inl h1)).trans h.1, (hk q2 h.lt.2.1 (Or.inl h2)).trans h.2.1, h.2.2.kept (hk sp h.lt.2.2 (Or.inr rfl))⟩
end
theorem all_open {M : Nat} {f : Int × Int → List (Tm M)} {v u : Value} {W WA WO : World} (HA : Hid (Below W.heap.size W WA ∧ ∃ l, Risen f l ∧ PRow v l WA)) (HO : Hid (Below WA.heap.size WA WO ∧ ∃ l, Risen f l ∧ l.length ≤ 1000000 ∧ PRow u l WO)) : Calls Try.prog 46 #[v, u] WO fun e w' => e = .returned (.bool true) ∧ Below WO.heap.size WO w' := by
  obtain ⟨l, h1, h2⟩ := HA.out.2
  exact risen_same ⟨l, h1, h2.later HO.out.1⟩ HO.out.2
theorem chkL_code (z : Int) : (l : List Nd) → (ds : List Int) → (m : Int) → chkL z l ds m = 0 ∨ chkL z l ds m = 2 ∨ chkL z l ds m = 5
  | [], [], m => by unfold chkL; split <;> simp
  | [], _ :: _, m => by unfold chkL; split <;> simp
  | _ :: _, [], m => by unfold chkL; split <;> simp
  | y :: l, d :: ds, m => by
    unfold chkL
    split
    · exact chkL_code z l ds _
    · simp
theorem gput_code (n : Nat) (x : Tm n) : gputC n x = 0 ∨ gputC n x = 2 ∨ gputC n x = 5 := by
  have h := chkL_code (sz n x) (nodes n x) (deeps n x 0) 0
  unfold gputC
  split
  · exact h
  · split <;> simp
def zzT : Tm 1 := ((0, 0, ⟨#[]⟩), (none, 0), [])
theorem zz_same (W : World) : Calls Try.prog 15 #[.agg #[.int .i64 0, .int .i64 0, .string ⟨#[]⟩, .slice none 0 0], .agg #[.int .i64 0, .int .i64 0, .string ⟨#[]⟩, .slice none 0 0]] W fun e w' => e = .returned (.bool true) ∧ Below W.heap.size W w' := by
  have hi : In W.heap.size W 1 zzT := ⟨⟨by simp [zzT, I64], by simp [zzT, I64], Nat.zero_le _, by simp [zzT], by simp [zzT]⟩, Or.inl rfl⟩
  have h := same_any 1 zzT 1 zzT W.heap.size W hi hi (Nat.le_refl _)
  have e : same 1 zzT 1 zzT = true := by simp [same, zzT, sameL]
  rw [e] at h
  exact h
set_option maxRecDepth 100000 in
set_option maxHeartbeats 4000000 in
theorem wplays_walk (N : Nat) (l : List (Wc N)) (la : Option Addr) (lc : Nat) (len : Nat) (w : World) (hlen : l.length = len) (hll : len ≤ 9223372036854775807) (HL : Hid (Wcs w.heap.size w N l la)) :
    Calls Try.prog 9 #[.slice la len lc] w fun e w' => e = .returned (.bool true) ∧ Below w.heap.size w w' := by
  have HNW := hide (wnew_any (N + 1) w)
  go_enter Try.func9, Try.ntmps9
  go_wp2_with fail
  refine HNW.out.mono ?_
  rintro e w1 ⟨rfl, h1⟩
  obtain ⟨wp, hwp⟩ : ∃ wp, wp = w.heap.size := ⟨_, rfl⟩
  rw [← hwp]
  have H1 : Hid (Below w.heap.size w w1 ∧ WyAt w.heap.size wp none 0 (N + 1) (fun _ => []) (fun _ => nilS) w1) := by
    rw [hwp]
    exact ⟨h1.1, h1.2.2⟩
  clear hwp h1 HNW
  by_cases h100 : len ≤ 100
  rotate_left
  · have h100' : (100 : Int) < (len : Int) := by omega
    go_wp2_with fail
    go_ret
    exact ⟨rfl, H1.out.1⟩
  · have h100' : ¬ (100 : Int) < (len : Int) := by omega
    go_wp2_with fail
    refine (nsys_any w1 0).mono ?_
    rintro e w2 ⟨rfl, hw2⟩
    obtain ⟨sp, hsp⟩ : ∃ sp, sp = w1.heap.size + 3 := ⟨_, rfl⟩
    obtain ⟨ms, hms⟩ : ∃ ms, ms = w1.heap.size + 1 := ⟨_, rfl⟩
    rw [← hsp]
    have HRA : Hid (PS w wp sp ms N 0 w2) := by
      rw [hsp, hms, hw2]
      exact PS.start H1.out.1 H1.out.2
    clear hsp hms hw2 H1
    go_wp2_with fail
    go_loopw [20] (fun i wr => ∃ j n : Nat, j ≤ len ∧ i = .int .i64 j ∧ n ≤ 2 * j ∧ Hid (PS w wp sp ms N n wr)) (fun i _ => len - (intOf i).toNat)
    case atStart => exact ⟨0, 0, Nat.zero_le _, rfl, by omega, HRA.out⟩
    case round =>
    obtain ⟨j, n, hj, rfl, hn, HR⟩ := hrel
    by_cases hjl : j < len
    · obtain ⟨c, hc⟩ : ∃ c, l[j]? = some c := ⟨l[j]'(by omega), List.getElem?_eq_getElem _⟩
      obtain ⟨⟨ck, ca, cb⟩, x⟩ := c
      obtain ⟨lb, lo, rfl, hlb, HCC⟩ : ∃ b o, la = some ⟨b, o, none⟩ ∧ b < w.heap.size ∧ Hid ((∀ (t : Nat) (u : Value), (wc7 N ((ck, ca, cb), x))[t]? = some u → w.cell? ⟨b, o + j * 7 + t, none⟩ = some u) ∧ I64 ck ∧ I2 (ca, cb) ∧ In w.heap.size w (N + 1) x ∧ (nodes (N + 1) x).length ≤ 2097152) := by
        rcases HL.out with e | ⟨b, o, e, hb, h⟩
        · rw [e] at hc
          simp at hc
        · exact ⟨b, o, e, hb, h j _ hc⟩
      obtain ⟨mo, fw, fs, sw, ss, hP⟩ := HR.out
      have HP := hide hP
      have hcell : ∀ (t : Nat) (u : Value), (wc7 N ((ck, ca, cb), x))[t]? = some u → wr.cell? ⟨lb, lo + j * 7 + t, none⟩ = some u := fun t u ht => (hP.below.cell (p := ⟨lb, lo + j * 7 + t, none⟩) hlb).trans (HCC.out.1 t u ht)
      have x0 : wr.cell? ⟨lb, lo + j * 7, none⟩ = some (.int .i64 ck) := hcell 0 _ rfl
      have x1 := hcell 1 _ rfl
      have x2 := hcell 2 _ rfl
      have x3 := hcell 3 _ rfl
      have x4 := hcell 4 _ rfl
      have x5 := hcell 5 _ rfl
      have x6 := hcell 6 _ rfl
      have j1 : (0 : Int) ≤ (j : Int) := by omega
      have j2 : (j : Int) < (len : Int) := by omega
      have HW2 : Hid (∃ w2 q1 q2, (w2 = (wr.alloc (.cells #[.int .i64 ck, .int .i64 ca, .int .i64 cb, .int .i64 x.1.1, .int .i64 x.1.2.1, .string x.1.2.2, .slice x.2.1.1 x.2.2.length x.2.1.2] 87)).alloc (.cells #[.int .i64 ca, .int .i64 cb] 88) ∧ q1 = wr.heap.size ∧ q2 = wr.heap.size + 1) ∧ Below wr.heap.size wr w2 ∧ wr.heap.size ≤ q1 ∧ wr.heap.size ≤ q2 ∧ w2.heap[q1]? = some (.cells #[.int .i64 ck, .int .i64 ca, .int .i64 cb, .int .i64 x.1.1, .int .i64 x.1.2.1, .string x.1.2.2, .slice x.2.1.1 x.2.2.length x.2.1.2] 87) ∧ w2.heap[q2]? = some (.cells #[.int .i64 ca, .int .i64 cb] 88)) := by
        refine ⟨_, _, _, ⟨rfl, rfl, rfl⟩, ((Below.refl _ _).alloc (Nat.le_refl _) _).alloc (by simp) _, Nat.le_refl _, by omega, ?_, ?_⟩
        · exact (((Below.refl _ _).alloc (Nat.le_refl _) _).block wr.heap.size (by simp)).trans (heap_alloc_new wr _)
        · have h := heap_alloc_new (wr.alloc (.cells #[.int .i64 ck, .int .i64 ca, .int .i64 cb, .int .i64 x.1.1, .int .i64 x.1.2.1, .string x.1.2.2, .slice x.2.1.1 x.2.2.length x.2.1.2] 87)) (.cells #[.int .i64 ca, .int .i64 cb] 88)
          have e : (wr.alloc (.cells #[.int .i64 ck, .int .i64 ca, .int .i64 cb, .int .i64 x.1.1, .int .i64 x.1.2.1, .string x.1.2.2, .slice x.2.1.1 x.2.2.length x.2.1.2] 87)).heap.size = wr.heap.size + 1 := by simp
          rwa [e] at h
      clear hcell hP
      go_upto_block 2 with fail
      obtain ⟨w2, q1, q2, ⟨hw2, hq1, hq2⟩, hB2, hl1, hl2, e1, e2⟩ := HW2.out
      rw [← hw2, ← hq2, ← hq1]
      have HB2 := hide hB2
      have HLQ : Hid (wr.heap.size ≤ q1 ∧ wr.heap.size ≤ q2) := ⟨hl1, hl2⟩
      have HX2 : Hid (Bx N q1 q2 sp ms ck ca cb x w2) := ⟨e1, e2, HP.out.sys.kept (hB2.block sp HP.out.sys.cell.2)⟩
      clear hw2 hq1 hq2 HW2 hB2 hl1 hl2 e1 e2 x0 x1 x2 x3 x4 x5 x6
      go_cut [8, 9, 10] from 21 to 160 (fun v8 v9 v10 wx => ∃ n', n' ≤ n + 2 ∧ Hid (PS w wp sp ms N n' wx ∧ Bx N q1 q2 sp ms ck ca cb x wx))
      case first =>
        by_cases h0 : ck = 0
        · subst h0
          have HIN : Hid (In w.heap.size w (N + 1) x ∧ (nodes (N + 1) x).length ≤ 2097152) := HCC.out.2.2.2
          have HI := hide HCC.out.2.2.1
          have HPU : Hid (Calls Try.prog 19 #[.agg #[.int .i64 x.1.1, .int .i64 x.1.2.1, .string x.1.2.2, .slice x.2.1.1 x.2.2.length x.2.1.2]] w2 fun e w' => e = .returned (.int .i64 (gputC (N + 1) x)) ∧ Below w2.heap.size w2 w') := by
            have hb := (HP.out.later HB2.out).below
            exact gputable_any N x w2.heap.size w2 ((HIN.out.1.below hb).mono hb.size) (Nat.le_refl _) HIN.out.2
          obtain ⟨pc, hpc⟩ : ∃ pc, gputC (N + 1) x = pc := ⟨_, rfl⟩
          rw [hpc] at HPU
          have HPC := hide hpc
          obtain ⟨t0, t1, t2, t3⟩ := HX2.out.term
          clear hpc
          go_wp2_with fail
          refine HPU.out.mono ?_
          rintro e w3 ⟨rfl, hb3⟩
          have HX3 := hide (HX2.out.later hb3)
          have HB3 := hide (HB2.out.trans (hb3.mono HB2.out.size))
          clear hb3 HX2 HB2 HPU t0 t1 t2 t3
          obtain ⟨pa, hpa⟩ : ∃ pa, inB ca 1 99 = pa := ⟨_, rfl⟩
          obtain ⟨pb, hpb⟩ : ∃ pb, inB cb 1 99 = pb := ⟨_, rfl⟩
          have HIA := hide fun W => in_any ca 1 99 W
          have HIB := hide fun W => in_any cb 1 99 W
          rw [hpa] at HIA
          rw [hpb] at HIB
          obtain ⟨L, hL⟩ : ∃ L, L = (fs (ca, cb)).length := ⟨_, rfl⟩
          have HDE : Hid (docE N ca cb x L = if pa = false ∨ pb = false then 1 else if pc = 0 ∧ L = 20 then 2 else pc) := by
            show docE N ca cb x L = _
            unfold docE
            rw [hpa, hpb, HPC.out]
          obtain ⟨sa, sc, hsl⟩ := (HP.out.doc.row (ca, cb) HI.out).sliced
          have HLK : Hid (∀ W, Below w3.heap.size w3 W → (Instr.lookup 90 (.map (some ms)) (.agg #[.int .i64 ca, .int .i64 cb]) false).run Try.prog W = .ok (.slice sa L sc) W) := fun W hW => by
            have h := HP.out.look HI.out (HB3.out.trans (hW.mono HB3.out.size))
            rw [hsl, ← hL] at h
            exact h
          have HS : Hid (∀ W, Below w3.heap.size w3 W → Calls Try.prog 44 #[.pointer (some ⟨wp, 0, none⟩), .int .i64 ca, .int .i64 cb, .agg #[.int .i64 x.1.1, .int .i64 x.1.2.1, .string x.1.2.2, .slice x.2.1.1 x.2.2.length x.2.1.2]] W fun e w' => e = .returned (.int .i64 (docE N ca cb x L)) ∧ Hid ((docE N ca cb x L ≠ 0 → PS w wp sp ms N n w' ∧ Below W.heap.size W w') ∧ (docE N ca cb x L = 0 → (∀ q, q < W.heap.size → wr.heap.size ≤ q ∨ q = sp → w'.heap[q]? = W.heap[q]?) ∧ Ready w wp sp ms N n (ca, cb) #[.int .i64 x.1.1, .int .i64 x.1.2.1, .string x.1.2.2, .slice x.2.1.1 x.2.2.length x.2.1.2] wr w'))) := fun W hW => by
            rw [hL]
            exact HP.out.send (HB3.out.trans (hW.mono HB3.out.size)) HI.out x HIN.out.1 HIN.out.2 (by omega)
          obtain ⟨dc, hdc⟩ : ∃ dc, docE N ca cb x L = dc := ⟨_, rfl⟩
          rw [hdc] at HS HDE
          have HPQ : Hid (pc ≠ 0 → pc = 2 ∨ pc = 5) := by
            have h := gput_code (N + 1) x
            rw [HPC.out] at h
            exact fun h0 => h.resolve_left h0
          clear hpa hpb hL hsl hdc HPC HP HR HRA
          obtain ⟨c0, c1⟩ := HX3.out.call
          go_upto_block 3 with fail
          go_cut [8] from 36 to 59 (fun v8 wx => v8 = .int .i64 dc ∧ Hid (Below w3.heap.size w3 wx))
          case first =>
            cases pa with
            | false =>
              obtain rfl : dc = 1 := by simpa using HDE.out
              go_wp2_with fail
              refine (HIA.out _).mono ?_
              rintro e w4 ⟨rfl, rfl⟩
              go_wp2_with fail
              go_meet
              exact ⟨rfl, Below.refl _ _⟩
            | true =>
              cases pb with
              | false =>
                obtain rfl : dc = 1 := by simpa using HDE.out
                go_wp2_with fail
                refine (HIA.out _).mono ?_
                rintro e w4 ⟨rfl, rfl⟩
                go_wp2_with fail
                refine (HIB.out _).mono ?_
                rintro e w4 ⟨rfl, rfl⟩
                go_wp2_with fail
                go_meet
                exact ⟨rfl, Below.refl _ _⟩
              | true =>
                have HD3 : Hid (Below w3.heap.size w3 w3.drew) := (Below.refl _ _).drew
                have hlk := HLK.out _ HD3.out
                have HK3 : Hid (∀ W, Below w3.heap.size w3 W → W.cell? ⟨q2, 0, none⟩ = some (.int .i64 ca) ∧ W.cell? ⟨q2, 1, none⟩ = some (.int .i64 cb) ∧ W.cell? ⟨sp, 4, none⟩ = some (.map (some ms))) := fun W hW => (HX3.out.later hW).key
                obtain ⟨p0, p1, p2⟩ := HK3.out w3 (Below.refl _ _)
                go_wp2_with fail
                refine (HIA.out _).mono ?_
                rintro e w4 ⟨rfl, rfl⟩
                go_wp2_with fail
                refine (HIB.out _).mono ?_
                rintro e w4 ⟨rfl, rfl⟩
                by_cases hp0 : pc = 0
                · subst hp0
                  by_cases hL20 : L = 20
                  · subst hL20
                    obtain rfl : dc = 2 := by simpa using HDE.out
                    go_wp2_with fail
                    go_region_held3 (fun W => W.cell? ⟨q2, 0, none⟩ = some (.int .i64 ca) ∧ W.cell? ⟨q2, 1, none⟩ = some (.int .i64 cb) ∧ W.cell? ⟨sp, 4, none⟩ = some (.map (some ms))) (first | (go_keep; done) | exact HK3.out _ HD3.out) (fail)
                    go_wp2_with fail
                    go_meet
                    exact ⟨rfl, HD3.out⟩
                  · obtain rfl : dc = 0 := by simpa [hL20] using HDE.out
                    have g1 : ¬ (L : Int) = 20 := by omega
                    have g2 : ((L : Int) == 20) = false := by simpa using g1
                    have g3 : ¬ (20 : Int) = (L : Int) := fun e => g1 e.symm
                    clear hL20
                    go_wp2_with fail
                    go_region_held3 (fun W => W.cell? ⟨q2, 0, none⟩ = some (.int .i64 ca) ∧ W.cell? ⟨q2, 1, none⟩ = some (.int .i64 cb) ∧ W.cell? ⟨sp, 4, none⟩ = some (.map (some ms))) (first | (go_keep; done) | exact HK3.out _ HD3.out) (fail)
                    go_wp2_with fail
                    go_meet
                    exact ⟨rfl, HD3.out⟩
                · rcases HPQ.out hp0 with hp2 | hp2
                  · subst hp2
                    obtain rfl : dc = 2 := by simpa using HDE.out
                    go_wp2_with fail
                    go_region
                    go_wp2_with fail
                    go_meet
                    exact ⟨rfl, HD3.out⟩
                  · subst hp2
                    obtain rfl : dc = 5 := by simpa using HDE.out
                    go_wp2_with fail
                    go_region
                    go_wp2_with fail
                    go_meet
                    exact ⟨rfl, HD3.out⟩
          case rest =>
          obtain ⟨rfl, HBc⟩ := hcut
          have HX4 := hide (HX3.out.later HBc.out)
          have HS4 := hide (HS.out _ HBc.out)
          obtain ⟨c2, c3⟩ := HX4.out.call
          obtain ⟨t0, t1, t2, t3⟩ := HX4.out.term
          clear HS HX3 HDE HIA HIB HLK c0 c1
          go_wp2_with fail
          refine HS4.out.mono ?_
          rintro e w5 ⟨rfl, H5⟩
          by_cases hd : dc = 0
          rotate_left
          · have hd' : ¬ (0 : Int) = dc := fun e => hd e.symm
            have HF := hide (H5.out.1 hd).1
            have HX5 := hide (HX4.out.later (H5.out.1 hd).2)
            clear H5
            go_wp2_with fail
            go_meet
            exact ⟨n, by omega, HF.out, HX5.out⟩
          · subst hd
            obtain ⟨hbox, hrd⟩ := H5.out.2 rfl
            have HX5 := hide (HX4.out.same HLQ.out.1 HLQ.out.2 hbox)
            obtain ⟨ea, eL, ecap, st, W1, ea', ecap', wA, wB, r1, r2, r3, HFin⟩ := hrd
            simp only at r1
            have HX6 : Hid (Bx N q1 q2 sp ms 0 ca cb x W1 ∧ Bx N q1 q2 sp ms 0 ca cb x wA ∧ Bx N q1 q2 sp ms 0 ca cb x wB) := ⟨HX5.out.same HLQ.out.1 HLQ.out.2 fun q hq hq2 => (HFin.out.1 q hq hq2).1, HX5.out.same HLQ.out.1 HLQ.out.2 fun q hq hq2 => (HFin.out.1 q hq hq2).2.1, HX5.out.same HLQ.out.1 HLQ.out.2 fun q hq hq2 => (HFin.out.1 q hq hq2).2.2⟩
            have HK5 : Hid (∀ W, Bx N q1 q2 sp ms 0 ca cb x W → (W.cell? ⟨q1, 3, none⟩ = some (.int .i64 x.1.1) ∧ W.cell? ⟨q1, 4, none⟩ = some (.int .i64 x.1.2.1) ∧ W.cell? ⟨q1, 5, none⟩ = some (.string x.1.2.2) ∧ W.cell? ⟨q1, 6, none⟩ = some (.slice x.2.1.1 x.2.2.length x.2.1.2)) ∧ W.cell? ⟨q2, 0, none⟩ = some (.int .i64 ca) ∧ W.cell? ⟨q2, 1, none⟩ = some (.int .i64 cb) ∧ W.cell? ⟨sp, 4, none⟩ = some (.map (some ms))) := fun W h => ⟨h.term, h.key⟩
            have HD5 : Hid (Bx N q1 q2 sp ms 0 ca cb x w5.drew) := HX5.out.later (Below.refl _ _).drew
            have HE5 : Hid (∀ o : Obj, Bx N q1 q2 sp ms 0 ca cb x (w5.alloc o).drew) := fun o => HX5.out.later ((Below.refl _ _).alloc (Nat.le_refl _) o).drew
            obtain ⟨⟨t4, t5, t6, t7⟩, p0, p1, p2⟩ := HK5.out w5 HX5.out
            clear hbox H5 HX4 HS4
            go_wp2_with fail
            go_region_held3 (fun W => (W.cell? ⟨q1, 3, none⟩ = some (.int .i64 x.1.1) ∧ W.cell? ⟨q1, 4, none⟩ = some (.int .i64 x.1.2.1) ∧ W.cell? ⟨q1, 5, none⟩ = some (.string x.1.2.2) ∧ W.cell? ⟨q1, 6, none⟩ = some (.slice x.2.1.1 x.2.2.length x.2.1.2)) ∧ W.cell? ⟨q2, 0, none⟩ = some (.int .i64 ca) ∧ W.cell? ⟨q2, 1, none⟩ = some (.int .i64 cb) ∧ W.cell? ⟨sp, 4, none⟩ = some (.map (some ms)))
              (first | (go_keep; done) | exact HK5.out _ HD5.out | exact HK5.out _ (HE5.out _) | exact HK5.out _ HX6.out.1 | exact HK5.out _ HX6.out.2.1 | exact HK5.out _ HX6.out.2.2) ((first | (refine step_append_run rfl _ _ rfl (by simp [Act.eval]) (by simp [Act.eval]) (r2 _) ?_)))
            all_goals
              go_wp2_with fail
              go_meet
              exact ⟨n + 2, by omega, HFin.out.2, HX6.out.2.2⟩
        · by_cases h1 : ck = 1
          · subst h1
            have HI := hide HCC.out.2.2.1
            obtain ⟨c0, c1⟩ := HX2.out.call
            have HTK := hide (HP.out.take HB2.out HI.out (by omega))
            by_cases hf : fs (ca, cb) = []
            · have HT0 := hide (HTK.out.mono fun e w' h => h.1 hf)
              have HF := hide hf
              clear hf HTK
              go_wp2_with fail
              refine HT0.out.mono ?_
              rintro e w3 ⟨rfl, H3⟩
              have HX3 := hide (HX2.out.later H3.out.2)
              have HW4 : Hid (∃ w4 q3, (w4 = w3.alloc (.cells #[.int .i64 0, .int .i64 0, .string ⟨#[]⟩, .slice none 0 0] 24) ∧ q3 = w3.heap.size) ∧ Below w3.heap.size w3 w4 ∧ w4.heap[q3]? = some (.cells #[.int .i64 0, .int .i64 0, .string ⟨#[]⟩, .slice none 0 0] 24)) := ⟨_, _, ⟨rfl, rfl⟩, (Below.refl _ _).alloc (Nat.le_refl _) _, heap_alloc_new _ _⟩
              go_wp2_with fail
              obtain ⟨w4, q3, ⟨hw4, hq3⟩, HS4⟩ := HW4.out
              rw [← hw4, ← hq3]
              replace HS4 := hide HS4
              clear hw4 hq3 HW4
              have HX4 := hide (HX3.out.later HS4.out.1)
              have HK4 : Hid (∀ W, Below w4.heap.size w4 W → W.cell? ⟨q2, 0, none⟩ = some (.int .i64 ca) ∧ W.cell? ⟨q2, 1, none⟩ = some (.int .i64 cb) ∧ W.cell? ⟨sp, 4, none⟩ = some (.map (some ms))) := fun W hW => (HX4.out.later hW).key
              have HD4 : Hid (Below w4.heap.size w4 w4.drew) := (Below.refl _ _).drew
              obtain ⟨p0, p1, p2⟩ := HK4.out w4 (Below.refl _ _)
              have HP4 := hide (H3.out.1.later HS4.out.1)
              obtain ⟨sa, sc, hsl⟩ := (HP4.out.doc.row (ca, cb) HI.out).sliced
              rw [HF.out] at hsl
              have hlk : (Instr.lookup 90 (.map (some ms)) (.agg #[.int .i64 ca, .int .i64 cb]) false).run Try.prog w4.drew = .ok (.slice sa 0 sc) w4.drew := by
                have h := HP4.out.look HI.out HD4.out
                rw [hsl] at h
                exact h
              clear hsl H3 HX3 HT0 HX2 HB2 c0 c1
              go_region_held3 (fun W => W.cell? ⟨q2, 0, none⟩ = some (.int .i64 ca) ∧ W.cell? ⟨q2, 1, none⟩ = some (.int .i64 cb) ∧ W.cell? ⟨sp, 4, none⟩ = some (.map (some ms))) (first | (go_keep; done) | exact HK4.out _ HD4.out) (fail)
              have d0 : w4.drew.cell? ⟨q3, 0, none⟩ = some (.int .i64 0) := cell_row HS4.out.2 0
              have d1 : w4.drew.cell? ⟨q3, 1, none⟩ = some (.int .i64 0) := cell_row HS4.out.2 1
              have d2 : w4.drew.cell? ⟨q3, 2, none⟩ = some (.string ⟨#[]⟩) := cell_row HS4.out.2 2
              have d3 : w4.drew.cell? ⟨q3, 3, none⟩ = some (.slice none 0 0) := cell_row HS4.out.2 3
              go_wp2_with fail
              refine (zz_same _).mono ?_
              rintro e w5 ⟨rfl, hb5⟩
              have HX5 := hide ((HX4.out.later HD4.out).later hb5)
              have HP5 := hide ((HP4.out.later HD4.out).later hb5)
              clear hb5
              go_wp2_with fail
              go_meet
              exact ⟨n, by omega, ⟨mo, fw, fs, sw, ss, HP5.out⟩, HX5.out⟩
            · have HT0 := hide (HTK.out.mono fun e w' h => h.2 hf)
              clear hf HTK
              go_wp2_with fail
              refine HT0.out.mono ?_
              rintro e w3 ⟨y, rfl, H3⟩
              have HX3 := hide (HX2.out.same HLQ.out.1 HLQ.out.2 H3.out.1)
              have HW4 : Hid (∃ w4 q3, (w4 = w3.alloc (.cells #[.int .i64 y.1.1, .int .i64 y.1.2.1, .string y.1.2.2, .slice y.2.1.1 y.2.2.length y.2.1.2] 24) ∧ q3 = w3.heap.size) ∧ Below w3.heap.size w3 w4 ∧ w4.heap[q3]? = some (.cells #[.int .i64 y.1.1, .int .i64 y.1.2.1, .string y.1.2.2, .slice y.2.1.1 y.2.2.length y.2.1.2] 24)) := ⟨_, _, ⟨rfl, rfl⟩, (Below.refl _ _).alloc (Nat.le_refl _) _, heap_alloc_new _ _⟩
              go_wp2_with fail
              obtain ⟨w4, q3, ⟨hw4, hq3⟩, HS4⟩ := HW4.out
              rw [← hw4, ← hq3]
              replace HS4 := hide HS4
              clear hw4 hq3 HW4
              have HX4 := hide (HX3.out.later HS4.out.1)
              have HK4 : Hid (∀ W, Below w4.heap.size w4 W → W.cell? ⟨q2, 0, none⟩ = some (.int .i64 ca) ∧ W.cell? ⟨q2, 1, none⟩ = some (.int .i64 cb) ∧ W.cell? ⟨sp, 4, none⟩ = some (.map (some ms))) := fun W hW => (HX4.out.later hW).key
              have HD4 : Hid (Below w4.heap.size w4 w4.drew) := (Below.refl _ _).drew
              obtain ⟨p0, p1, p2⟩ := HK4.out w4 (Below.refl _ _)
              obtain ⟨y0, g, o, L, cap, v', hL, hg, hcap, HLO, HCE, HSM, HSV, HUP⟩ := H3.out.2
              have hlk := HLO.out _ (HS4.out.1.trans (HD4.out.mono HS4.out.1.size))
              simp only at hlk
              clear HX3 HT0 HX2 HB2 c0 c1 H3
              go_region_held3 (fun W => W.cell? ⟨q2, 0, none⟩ = some (.int .i64 ca) ∧ W.cell? ⟨q2, 1, none⟩ = some (.int .i64 cb) ∧ W.cell? ⟨sp, 4, none⟩ = some (.map (some ms))) (first | (go_keep; done) | exact HK4.out _ HD4.out) (fail)
              obtain ⟨w5, hw5⟩ : ∃ w5, w5 = w4.drew := ⟨_, rfl⟩
              rw [← hw5]
              have HB5 : Hid (Below w4.heap.size w4 w5) := by
                rw [hw5]
                exact HD4.out
              clear hw5 hlk p0 p1 p2 HK4 HD4
              have m1 : ¬ ((L : Int) + 1 = 0) := by omega
              have m3 : (0 : Int) < (L : Int) + 1 := by omega
              have HZ5 : Hid (∀ W, Below w5.heap.size w5 W → Below w3.heap.size w3 W) := fun W hW => HS4.out.1.trans ((HB5.out.trans (hW.mono HB5.out.size)).mono HS4.out.1.size)
              have HX5 := hide (HX4.out.later HB5.out)
              have HQ5 : Hid (w5.heap[q3]? = some (.cells #[.int .i64 y.1.1, .int .i64 y.1.2.1, .string y.1.2.2, .slice y.2.1.1 y.2.2.length y.2.1.2] 24)) := (HB5.out.block q3 (Array.getElem?_eq_some_iff.1 HS4.out.2).1).trans HS4.out.2
              have HK5 : Hid (∀ W, Below w5.heap.size w5 W → (W.cell? ⟨q2, 0, none⟩ = some (.int .i64 ca) ∧ W.cell? ⟨q2, 1, none⟩ = some (.int .i64 cb) ∧ W.cell? ⟨sp, 4, none⟩ = some (.map (some ms))) ∧ (W.cell? ⟨q3, 0, none⟩ = some (.int .i64 y.1.1) ∧ W.cell? ⟨q3, 1, none⟩ = some (.int .i64 y.1.2.1) ∧ W.cell? ⟨q3, 2, none⟩ = some (.string y.1.2.2) ∧ W.cell? ⟨q3, 3, none⟩ = some (.slice y.2.1.1 y.2.2.length y.2.1.2)) ∧ (W.cell? ⟨g, o, none⟩ = some (.int .i64 y0.1.1) ∧ W.cell? ⟨g, o + 1, none⟩ = some (.int .i64 y0.1.2.1) ∧ W.cell? ⟨g, o + 2, none⟩ = some (.string y0.1.2.2) ∧ W.cell? ⟨g, o + 3, none⟩ = some (.slice y0.2.1.1 y0.2.2.length y0.2.1.2))) := fun W hW => by
                have h := (hW.block q3 (Array.getElem?_eq_some_iff.1 HQ5.out).1).trans HQ5.out
                exact ⟨(HX5.out.later hW).key, ⟨cell_row h 0, cell_row h 1, cell_row h 2, cell_row h 3⟩, HCE.out _ (HZ5.out _ hW)⟩
              have HD5 : Hid (Below w5.heap.size w5 w5.drew) := (Below.refl _ _).drew
              have hl5 := HLO.out _ (HZ5.out _ HD5.out)
              simp only at hl5
              obtain ⟨⟨p0, p1, p2⟩, ⟨t0, t1, t2, t3⟩, s0, s1, s2, s3⟩ := HK5.out w5 (Below.refl _ _)
              clear HS4 HB5 HX4 HQ5 HCE
              go_wp2_with fail
              go_region_held3 (fun W => (W.cell? ⟨q2, 0, none⟩ = some (.int .i64 ca) ∧ W.cell? ⟨q2, 1, none⟩ = some (.int .i64 cb) ∧ W.cell? ⟨sp, 4, none⟩ = some (.map (some ms))) ∧ (W.cell? ⟨q3, 0, none⟩ = some (.int .i64 y.1.1) ∧ W.cell? ⟨q3, 1, none⟩ = some (.int .i64 y.1.2.1) ∧ W.cell? ⟨q3, 2, none⟩ = some (.string y.1.2.2) ∧ W.cell? ⟨q3, 3, none⟩ = some (.slice y.2.1.1 y.2.2.length y.2.1.2)) ∧ (W.cell? ⟨g, o, none⟩ = some (.int .i64 y0.1.1) ∧ W.cell? ⟨g, o + 1, none⟩ = some (.int .i64 y0.1.2.1) ∧ W.cell? ⟨g, o + 2, none⟩ = some (.string y0.1.2.2) ∧ W.cell? ⟨g, o + 3, none⟩ = some (.slice y0.2.1.1 y0.2.2.length y0.2.1.2))) (first | (go_keep; done) | exact HK5.out _ HD5.out | exact HK5.out _ HB6.out) ((first | (go_at_call 15; refine (HSM.out _ (HZ5.out _ HD5.out)).mono ?_; rintro e w6 ⟨rfl, hb6⟩; have HB6 := hide (HD5.out.trans (hb6.mono HD5.out.size)); clear hb6)))
              clear p0 p1 p2 t0 t1 t2 t3 s0 s1 s2 s3 hl5
              have HX6 := hide (HX5.out.later HB6.out)
              have HD6 : Hid (Below w6.heap.size w6 w6.drew) := (Below.refl _ _).drew
              have HB6D := hide (HB6.out.trans (HD6.out.mono HB6.out.size))
              have hl6 := HLO.out _ (HZ5.out _ HB6D.out)
              have hsv := HSV.out
              obtain ⟨w7, hup, HF7⟩ := HUP.out w6.drew (HZ5.out _ HB6D.out)
              try simp only at hl6
              try simp only at hup
              have HX6D := hide (HX6.out.later HD6.out)
              have HX7 := hide (HX6D.out.same HLQ.out.1 HLQ.out.2 HF7.out.1)
              have HK6 := hide HX6D.out.key
              have HK7 := hide HX7.out.key
              obtain ⟨p0, p1, p2⟩ := HX6.out.key
              clear HX5 HK5 HZ5 HSM HUP HSV HLO
              go_wp2_with fail
              go_region_held3 (fun W => W.cell? ⟨q2, 0, none⟩ = some (.int .i64 ca) ∧ W.cell? ⟨q2, 1, none⟩ = some (.int .i64 cb) ∧ W.cell? ⟨sp, 4, none⟩ = some (.map (some ms))) (first | (go_keep; done) | exact HK6.out | exact HK7.out) (fail)
              all_goals
                go_wp2_with fail
                go_meet
                exact ⟨n + 2, by omega, HF7.out.2, HX7.out⟩
          · have h0' : ¬ (0 : Int) = ck := fun e => h0 e.symm
            have h1' : ¬ (1 : Int) = ck := fun e => h1 e.symm
            go_wp2_with fail
            go_meet
            exact ⟨n, by omega, ⟨mo, fw, fs, sw, ss, HP.out.later HB2.out⟩, HX2.out⟩
      case rest =>
      obtain ⟨n', hn', HC⟩ := hcut
      obtain ⟨mo', fw', fs', sw', ss', hP'⟩ := HC.out.1
      have HPc := hide hP'
      have HXc := hide HC.out.2
      have HI := hide HCC.out.2.2.1
      obtain ⟨sa, sc, hsl⟩ := (hP'.doc.row (ca, cb) HI.out).sliced
      have HLK : Hid (∀ W, Below wc.heap.size wc W → (Instr.lookup 90 (.map (some ms)) (.agg #[.int .i64 ca, .int .i64 cb]) false).run Try.prog W = .ok (.slice sa (fs' (ca, cb)).length sc) W) := fun W hW => by
        have h := hP'.look HI.out hW
        rw [hsl] at h
        exact h
      clear hsl hP' HC HX2 HLQ HB2 HP HR HRA
      have HD : Hid (Below wc.heap.size wc wc.drew) := (Below.refl _ _).drew
      have HXK : Hid (∀ W, Below wc.heap.size wc W → (W.cell? ⟨q1, 1, none⟩ = some (.int .i64 ca) ∧ W.cell? ⟨q1, 2, none⟩ = some (.int .i64 cb)) ∧ W.cell? ⟨q2, 0, none⟩ = some (.int .i64 ca) ∧ W.cell? ⟨q2, 1, none⟩ = some (.int .i64 cb) ∧ W.cell? ⟨sp, 4, none⟩ = some (.map (some ms))) := fun W hW => ⟨(HXc.out.later hW).call, (HXc.out.later hW).key⟩
      obtain ⟨⟨p0, p1⟩, p2, p3, p4⟩ := HXK.out wc (Below.refl _ _)
      obtain ⟨L, hL⟩ : ∃ L, L = (fs' (ca, cb)).length := ⟨_, rfl⟩
      have HMN : Hid (∀ W, Below wc.heap.size wc W → Calls Try.prog 49 #[.pointer (some ⟨wp, 0, none⟩), .int .i64 ca, .int .i64 cb] W fun e w' => e = .returned (.int .i64 L) ∧ w' = W) := fun W hW => by
        rw [hL]
        exact HPc.out.many hW HI.out
      rw [← hL] at HLK
      clear hL
      go_wp2_with fail
      go_region_held3 (fun W => (W.cell? ⟨q1, 1, none⟩ = some (.int .i64 ca) ∧ W.cell? ⟨q1, 2, none⟩ = some (.int .i64 cb)) ∧ W.cell? ⟨q2, 0, none⟩ = some (.int .i64 ca) ∧ W.cell? ⟨q2, 1, none⟩ = some (.int .i64 cb) ∧ W.cell? ⟨sp, 4, none⟩ = some (.map (some ms)))
        (first | (go_keep; done) | exact HXK.out _ HD.out | exact HXK.out _ HBE.out | exact HXK.out _ HBO.out | exact HXK.out _ HBA.out) ((first
          | (go_at_call 47; refine (HPc.out.all HD.out (by omega)).mono ?_; rintro e wA ⟨vA, rfl, HA⟩; have HBA := hide (HD.out.trans (HA.out.1.mono HD.out.size)))
          | (go_at_call 48; refine (HPc.out.opens HBA.out).mono ?_; rintro e wO ⟨vO, rfl, HO⟩; have HBO := hide (HBA.out.trans (HO.out.1.mono HBA.out.size)); have HEQ := hide (all_open HA HO))
          | (go_at_call 46; refine HEQ.out.mono ?_; rintro e wE ⟨rfl, hbE⟩; have HBE := hide (HBO.out.trans (hbE.mono HBO.out.size)); have hlk := HLK.out _ HBE.out; clear hbE)
          | (go_at_call 49; refine (HMN.out _ HBE.out).mono ?_; rintro e wM ⟨rfl, rfl⟩)))
      all_goals
        have HF : Hid (PS w wp sp ms N n' wM) := ⟨mo', fw', fs', sw', ss', HPc.out.later HBE.out⟩
        clear HPc HXK HLK HA HO HEQ HMN HBA HBO
        go_wp2_with fail
        go_roundw
        case rel => exact ⟨j + 1, n', by omega, by go_num, by omega, HF.out⟩
        case measure => simp [intOf]; omega
    · obtain rfl : j = len := by omega
      have HB : Hid (Below w.heap.size w wr) := by
        obtain ⟨mo, fw, fs, sw, ss, hP⟩ := HR.out
        exact hP.below
      go_wp2_with fail
      go_ret
      exact ⟨rfl, HB.out⟩
end Go.Proofs.Ytfginhifgljnmaa
