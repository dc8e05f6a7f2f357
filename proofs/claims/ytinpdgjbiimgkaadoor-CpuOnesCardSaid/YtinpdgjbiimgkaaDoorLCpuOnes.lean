/- CpuOnes: any one instruction, in any state of the machine, does what the document's step does: registers, place, cause, state, number of steps, events and memory. Condition: the row's own: the package's table of shapes holds what its initialiser laid (tied to the program's text). -/
import Derived.Test.YtinpdgjbiimgkaaDoorRows
import Derived.Test.YtinpdgjbiimgkaaDoorLift
import Derived.Test.YtinpdgjbiimgkaaDoorCpuO2
import Derived.Test.YtinpdgjbiimgkaaDoorMemFT
import Derived.Test.YtinpdgjbiimgkaaDoorCpuVX
import Derived.Test.YtinpdgjbiimgkaaDoorTie
import Derived.Test.YtinpdgjbiimgkaaDoorCards
import Derived.SevenTiedAt
namespace Go.Proofs.YtinpdgjbiimgkaaDoor.lawCpuOnes
open Go.ChangeShapes Go.WideShapes Go.ChangeAt Go.RowKit
set_option linter.unusedVariables false
set_option maxHeartbeats 64000000 in
set_option maxRecDepth 100000 in
theorem walk (w : World) (hS : ShapesIn w) (CA : Array Value) (es ss rs : List Int) (Aw : Option Addr) (nw cw : Nat) (zw : List Int) (Ai : Option Addr) (ni ci : Nat) (inp : List Int) (K : CaseIn w CA es ss rs Aw nw cw zw Ai ni ci inp) (op : Int) (wo : (Lit.int .i64 op).wf = true) (a : Int) (wa : (Lit.int .i64 a).wf = true) (b : Int) (wb : (Lit.int .i64 b).wf = true) (c : Int) (wc : (Lit.int .i64 c).wf = true) (n : Int) (wn : (Lit.int .i64 n).wf = true) :
    Calls Tryd.prog 4 #[.agg CA, instrV op a b c n] w fun e w' => e = .returned (.bool true) ∧ Below w.heap.size w w' := by
  obtain ⟨e0, e1, e2, e3, e4, s0, s1, s2, s3, r, m, U, U2⟩ := case_both K
  have HU := Lib.hid U
  have HU2 := Lib.hid U2
  have HS := Lib.hid hS
  have IN := Lib.hid K.inn
  have GL := Lib.hid (show 0 < w.heap.size from hS.lt)
  have EN := Lib.hid (fun w => refencode_any op a b c n w)
  have EU := Lib.hid (enc_u32 op a b c n)
  unfold encR at EN
  unfold instrV at *
  have B0 := Lib.hid (((Below.refl w.heap.size w).alloc (Nat.le_refl _) (.cells CA 31)).alloc (by simp) (.cells #[.int .i64 op, .int .i64 a, .int .i64 b, .int .i64 c, .int .i64 n] 51))
  have K0 := Lib.hid ((Whole.made w 31 CA _ rfl).alloc (.cells #[.int .i64 op, .int .i64 a, .int .i64 b, .int .i64 c, .int .i64 n] 51))
  have I0 := Lib.hid (Whole.made (w.alloc (.cells CA 31)) 51 #[.int .i64 op, .int .i64 a, .int .i64 b, .int .i64 c, .int .i64 n] (w.heap.size + 1) (by simp))
  clear U U2 K hS wo wa wb wc wn
  generalize encOf op a b c n = ew at *
  generalize checkOf op a b c n = ec at *
  go_enter Tryd.func4, Tryd.ntmps4
  go_wp2_with fail
  refine (awake4_any _ (HS.out.below B0.out (Nat.le_refl _))).mono ?_
  rintro e w1 ⟨rfl, hb1⟩
  have K1 := Lib.hid (K0.out.below hb1 K0.out.lt)
  have I1 := Lib.hid (I0.out.below hb1 I0.out.lt)
  have B1 := Lib.hid (B0.out.trans (hb1.mono B0.out.size))
  have i0 : w1.cell? ⟨w.heap.size + 1, 0, none⟩ = some (.int .i64 op) := I1.out.cell 0
  have i1 : w1.cell? ⟨w.heap.size + 1, 1, none⟩ = some (.int .i64 a) := I1.out.cell 1
  have i2 : w1.cell? ⟨w.heap.size + 1, 2, none⟩ = some (.int .i64 b) := I1.out.cell 2
  have i3 : w1.cell? ⟨w.heap.size + 1, 3, none⟩ = some (.int .i64 c) := I1.out.cell 3
  have i4 : w1.cell? ⟨w.heap.size + 1, 4, none⟩ = some (.int .i64 n) := I1.out.cell 4
  clear hb1 K0 B0 I0 I1
  go_wp2_with fail
  refine (EN.out _).mono ?_
  rintro e w1a ⟨rfl, hb1⟩
  have K1 := Lib.hid (K1.out.below hb1 K1.out.lt)
  have B1 := Lib.hid (B1.out.trans (hb1.mono B1.out.size))
  clear hb1 i0 i1 i2 i3 i4 EN
  go_wp2_with (refine wpList_load_row rfl 31 (.tmp 2) rfl w.heap.size rfl 31 CA (0, 0) _ K1.out Tryd.underlying31 rfl (infoCase HU.out.size) ?_)
  refine (HU.out.few _).mono ?_
  rintro e w2 ⟨bb, rfl, hf, hb2⟩
  have K2 := Lib.hid (K1.out.below hb2 K1.out.lt)
  have B2 := Lib.hid (B1.out.trans (hb2.mono B1.out.size))
  have HF := Lib.hid hf
  clear hb2 hf K1 B1
  have q0 : w2.cell? ⟨w.heap.size, 0, none⟩ = some (.int .u32 e0) := (K2.out.cell 0).trans HU.out.c0
  have q5 : w2.cell? ⟨w.heap.size, 5, none⟩ = some (.int .u32 s0) := (K2.out.cell 5).trans HU.out.c5
  have fz : w2.frozen? ⟨w.heap.size, 5, none⟩ = false := K2.out.free 5
  cases bb with
  | false =>
    go_wp2_with fail
    go_ret
    exact ⟨rfl, B2.out⟩
  | true =>
    by_cases hec : ec = 0
    case neg =>
      have dec : (ec != 0) = true := by simpa using hec
      go_wp2_with fail
      go_ret
      exact ⟨rfl, B2.out⟩
    have dec : (ec != 0) = false := by simpa using hec
    clear hec
    by_cases he0 : e0 < 4
    · have de0 : decide (e0 < 4) = true := decide_eq_true he0
      go_wp2_with fail
      go_ret
      exact ⟨rfl, B2.out⟩
    have de0 : decide (e0 < 4) = false := decide_eq_false he0
    have FW := Lib.hid (HF.out rfl)
    have U0 := HU.out.u0
    have V0 := HU.out.v0
    have ne0 : e0 ≠ 0 := by omega
    have dz : (e0 == 0) = false := by simpa using ne0
    clear HF
    unfold U32 at U0 V0
    obtain ⟨u0, u1⟩ := U0
    obtain ⟨v0, v1⟩ := V0
    have hX : U32 ((s0 % e0).tdiv 4 % 4294967296 * 4 % 4294967296) := by unfold U32; omega
    have UX := Lib.hid (HU2.out _ hX)
    have XU := Lib.hid hX
    have K2X := Lib.hid (K2.out.store 5 (.int .u32 ((s0 % e0).tdiv 4 % 4294967296 * 4 % 4294967296)))
    have B2X := Lib.hid (B2.out.setCell (p := ⟨w.heap.size, 5, none⟩) (Nat.le_refl _) (.int .u32 ((s0 % e0).tdiv 4 % 4294967296 * 4 % 4294967296)))
    clear hX
    go_wp2_with (refine wpList_load_row rfl 31 (.tmp 2) rfl w.heap.size rfl 31 (CA.setIfInBounds 5 (.int .u32 ((s0 % e0).tdiv 4 % 4294967296 * 4 % 4294967296))) (0, 0) _ K2X.out Tryd.underlying31 rfl (infoCase UX.out.size) ?_)
    refine (UX.out.begun _ B2X.out FW.out).mono ?_
    generalize (s0 % e0).tdiv 4 % 4294967296 * 4 % 4294967296 = ent at *
    rintro e w3 ⟨p, q, h, h2, A', cap', rfl, hM, hA, hW2, n1, n2, n3, hb3⟩
    have K3 := Lib.hid (K2X.out.below hb3 K2X.out.lt)
    have B3 := Lib.hid (B2X.out.trans (hb3.mono B2X.out.size))
    have NB2 := Lib.hid B2X.out.size
    have GB := Lib.hid (Nat.lt_of_lt_of_le GL.out B2X.out.size)
    have HA3 := Lib.hid (show ∀ b off, A' = some ⟨b, off, none⟩ → b < w3.heap.size from fun b off hAb => (hA b off hAb).2)
    have SZ38 := Lib.hid (cpuCells_size (c := begC ent s1 s2 s3 r) hM.cpu.len (.slice none 0 0) (.slice Ai ni ci))
    have ONE38 := Lib.hid (cpu_one (begC ent s1 s2 s3 r) (o := .slice none 0 0) (i := .slice Ai ni ci) rfl rfl)
    have SZ41 := Lib.hid (show (memCells e0 e1 e2 e3 e4 h2 m).size = 6 from rfl)
    have ONE41 := Lib.hid (one_mem2 e0 e1 e2 e3 e4 h2 m)
    have X3 := Lib.hid (show Apart w3 (w3.heap.size :: (w3.heap.size + 1) :: p :: h :: ownList (.slice none 0 0)) none h2 ⟨begC ent s1 s2 s3 r, [], caseWs m nw zw⟩ from ⟨⟨rfl, fun h0 => absurd h0 (Nat.lt_irrefl 0)⟩, hW2, by have := hW2.lt; simp [ownList, Value.ownBlock, n1, n2]; omega, fun h0 => absurd h0 (Nat.lt_irrefl 0)⟩)
    have M3 := Lib.hid hM
    have FS := Lib.hid UX.out.fine
    have ML := Lib.hid (UX.out.m4 FW.out)
    have IW := Lib.hid UX.out.iw
    have IL := Lib.hid (show ni ≤ 100 from FW.out.2.2.2)
    have ES := Lib.hid (ends_sum FW.out.1)
    have C5X := Lib.hid UX.out.c5
    clear hb3 hM hA hW2 K2X n1 n2 n3 K2 HU HU2 UX B2 B2X u0 u1 v0 v1 dz ne0 he0 dec de0 q0 q5 fz FW
    generalize hC38 : cpuCells (begC ent s1 s2 s3 r) (.slice none 0 0) (.slice Ai ni ci) = C38 at *
    generalize hMC2 : memCells e0 e1 e2 e3 e4 h2 m = MC2 at *
    have HC38 := Lib.hid hC38
    have HMC2 := Lib.hid hMC2
    clear hC38 hMC2
    have TN := Lib.hid (two_new w3 C38 MC2)
    have K4 := Lib.hid (K3.out.below TN.out.bel K3.out.lt)
    have q5 := (K4.out.cell 5).trans C5X.out
    unfold zeros38 zeros41 at q5
    go_wp2_with (first
      | (refine wpList_store_row rfl 38 (.tmp 9) (.tmp 59) rfl w3.heap.size C38 rfl rfl 38 zeros38 TN.out.a (infoCpu SZ38.out) (by rw [SZ38.out]; rfl) ONE38.out ?_)
      | (refine wpList_store_row rfl 41 (.tmp 10) (.tmp 60) rfl (w3.heap.size + 1) MC2 rfl rfl 41 zeros41 TN.out.b (infoMem SZ41.out) (by rw [SZ41.out]; rfl) ONE41.out ?_))
    have M4 := Lib.hid (M3.out.below TN.out.bel)
    have X4 := Lib.hid (X3.out.below TN.out.bel)
    have B4 := Lib.hid (B3.out.trans (TN.out.bel.mono B3.out.size))
    have C4 := Lib.hid TN.out.c
    have D4 := Lib.hid TN.out.d
    have T5 := Lib.hid (show w.heap.size ≤ w3.heap.size from B3.out.size)
    unfold zeros38 zeros41 at M4 X4 K4 B4 C4 D4
    clear TN X3 M3 B3 K3 q5
    have YS : ((((w3.alloc (.cells #[.int .u32 0, .int .u32 0, .int .u32 0, .int .u32 0, .int .u32 0, .int .u32 0, .int .u32 0, .int .u32 0, .int .u32 0, .int .u32 0, .int .u32 0, .int .u32 0, .int .u32 0, .int .u32 0, .int .u32 0, .int .u32 0, .int .u32 0, .int .u32 0, .int .u32 0, .int .i64 0, .int .i64 0, .int .i64 0, .int .i64 0, .slice none 0 0, .int .u32 0, .int .u32 0, .int .u32 0, .int .u32 0, .slice none 0 0] 38)).alloc (.cells #[.int .u32 0, .int .u32 0, .int .u32 0, .int .u32 0, .int .u32 0, .slice none 0 0] 41)).setRow w3.heap.size C38).setRow (w3.heap.size + 1) MC2).heap.size = w3.heap.size + 1 + 1 := by simp [World.setRow]
    generalize ((((w3.alloc (.cells #[.int .u32 0, .int .u32 0, .int .u32 0, .int .u32 0, .int .u32 0, .int .u32 0, .int .u32 0, .int .u32 0, .int .u32 0, .int .u32 0, .int .u32 0, .int .u32 0, .int .u32 0, .int .u32 0, .int .u32 0, .int .u32 0, .int .u32 0, .int .u32 0, .int .u32 0, .int .i64 0, .int .i64 0, .int .i64 0, .int .i64 0, .slice none 0 0, .int .u32 0, .int .u32 0, .int .u32 0, .int .u32 0, .slice none 0 0] 38)).alloc (.cells #[.int .u32 0, .int .u32 0, .int .u32 0, .int .u32 0, .int .u32 0, .slice none 0 0] 41)).setRow w3.heap.size C38).setRow (w3.heap.size + 1) MC2) = Y at *
    generalize w3.heap.size = t5 at *
    have AL := (Below.refl Y.heap.size Y).alloc (Nat.le_refl _) (.cells #[.int .u32 ew] 22)
    have MV := Lib.hid (M4.out.below AL)
    have XV := Lib.hid (X4.out.below AL)
    have KV := Lib.hid (K4.out.below AL K4.out.lt)
    have BV := Lib.hid (B4.out.trans (AL.mono B4.out.size))
    have CV := Lib.hid (C4.out.below AL C4.out.lt)
    have DV := Lib.hid (D4.out.below AL D4.out.lt)
    have WV := Whole.made Y 22 #[.int .u32 ew] _ rfl
    rw [YS] at WV
    have NV := Lib.hid (show Nums .u32 (Y.alloc (.cells #[.int .u32 ew] 22)) (some ⟨t5 + 1 + 1, 0, none⟩) 1 [ew] from ⟨rfl, fun _ => ⟨_, 0, rfl, WV.lt, fun j hj => by
      have : j = 0 := by omega
      subst this
      exact WV.cell 0⟩⟩)
    have WL := Lib.hid FS.out.wl
    have WU := Lib.hid FS.out.wu
    have FI := Lib.hid (mfill_any q h m ent (some ⟨t5 + 1 + 1, 0, none⟩) 1 1 (caseWs m nw zw) [ew] _ XU.out (MV.out.mem.cell 5) MV.out.wds WL.out (by have := ML.out.2; omega) NV.out (by decide))
    clear AL M4 X4 K4 B4 C4 D4 WV NV YS
    generalize Y.alloc (.cells #[.int .u32 ew] 22) = V at *
    unfold MFillPost at FI
    refine FI.out.mono ?_
    rintro e w5 ⟨rfl, hx5, ho5⟩
    have b5 := But.of_only ho5
    have M5 := Lib.hid (MV.out.refill hx5 b5)
    have X5n := XV.out.hn
    simp only [List.mem_cons, not_or] at X5n
    have X5 := Lib.hid (XV.out.but b5 (by simp; omega) (fun h0 => absurd h0 (Nat.lt_irrefl 0)))
    have K5 := Lib.hid (b5.whole KV.out (by have := whole_ne KV.out MV.out.wds (by decide); simpa using this))
    have C5 := Lib.hid (b5.whole CV.out (by have := whole_ne CV.out MV.out.wds (by decide); simpa using this))
    have D5 := Lib.hid (b5.whole DV.out (by have := whole_ne DV.out MV.out.wds (by decide); simpa using this))
    have B5 := Lib.hid (BV.out.trans (b5.below (B := w.heap.size) (fun b hb => by simp at hb; subst hb; exact Nat.le_trans NB2.out MV.out.lh) BV.out.size))
    have q5 : w5.cell? ⟨w.heap.size, 5, none⟩ = some (.int .u32 ent) := (K5.out.cell 5).trans C5X.out
    clear hx5 ho5 b5 X5n FI MV XV KV BV CV DV
    go_wp2_with (refine wpList_load_row rfl 41 (.tmp 10) rfl (t5 + 1) rfl 41 MC2 (0, 0) _ D5.out Tryd.underlying41 rfl (infoMem SZ41.out) ?_)
    have AL := (Below.refl w5.heap.size w5).alloc (Nat.le_refl _) (.cells #[.int .u32 ew] 22)
    have M6 := Lib.hid (M5.out.below AL)
    have X6 := Lib.hid (X5.out.below AL)
    have B6 := Lib.hid (B5.out.trans (AL.mono B5.out.size))
    have C6 := Lib.hid (C5.out.below AL C5.out.lt)
    have D6 := Lib.hid (D5.out.below AL D5.out.lt)
    have WV := Whole.made w5 22 #[.int .u32 ew] _ rfl
    have NV := Lib.hid (show Nums .u32 (w5.alloc (.cells #[.int .u32 ew] 22)) (some ⟨w5.heap.size, 0, none⟩) 1 [ew] from ⟨rfl, fun _ => ⟨_, 0, rfl, WV.lt, fun j hj => by
      have : j = 0 := by omega
      subst this
      exact WV.cell 0⟩⟩)
    have FI := Lib.hid (reffill_any3 h2 m e0 e1 e2 e3 e4 ent (some ⟨w5.heap.size, 0, none⟩) 1 1 (caseWs m nw zw) [ew] _ XU.out X6.out.wd WL.out (by have := ML.out.2; omega) NV.out (by decide))
    rw [HMC2.out] at FI
    clear AL M5 X5 K5 B5 C5 D5 WV NV q5
    generalize w5.alloc (.cells #[.int .u32 ew] 22) = V6 at *
    generalize w5.heap.size = g5 at *
    refine FI.out.mono ?_
    rintro e w7 ⟨h3, rfl, hx7, hh7, hb7⟩
    have L56 := Lib.hid (And.intro C6.out.lt D6.out.lt)
    have OL6 := Lib.hid (fun k (hk : k ∈ t5 :: (t5 + 1) :: p :: h :: ownList (.slice none 0 0)) => show k < V6.heap.size by
      rcases List.mem_cons.1 hk with rfl | hk
      · exact L56.out.1
      · rcases List.mem_cons.1 hk with rfl | hk
        · exact L56.out.2
        · exact own_lt M6.out k hk)
    have M7 := Lib.hid (M6.out.below hb7)
    have X7 := Lib.hid (X6.out.refill OL6.out hb7 hx7 hh7)
    have B7 := Lib.hid (B6.out.trans (hb7.mono B6.out.size))
    have C7 := Lib.hid (C6.out.below hb7 C6.out.lt)
    have D7 := Lib.hid (D6.out.below hb7 D6.out.lt)
    have SZ43 := Lib.hid (show (memCells e0 e1 e2 e3 e4 h3 m).size = 6 from rfl)
    have ONE43 := Lib.hid (one_mem2 e0 e1 e2 e3 e4 h3 m)
    clear hx7 hh7 hb7 FI L56 OL6 M6 X6 B6 C6 D6
    generalize hMC3 : memCells e0 e1 e2 e3 e4 h3 m = MC3 at *
    have HMC3 := Lib.hid hMC3
    clear hMC3
    have o8 := Only.setRow w7 (t5 + 1) MC3
    have NE6 := own_ne M7.out D7.out (by decide) (by decide) (by decide)
    have nq6 := whole_ne M7.out.mem D7.out (by decide)
    simp only [List.mem_cons, mem_own, not_or] at NE6
    have X7n := X7.out.hn
    simp only [List.mem_cons, not_or] at X7n
    have M8 := Lib.hid (M7.out.other (But.of_only o8) (by simp; omega) (by simp; omega) (by simp; omega) (fun b hb hm => by
      simp at hm
      subst hm
      exact NE6.2.2 hb) (fun b off hAb hm => by
      have := HA3.out b off hAb
      simp at hm
      omega))
    have X8 := Lib.hid (X7.out.but (But.of_only o8) (by simp; omega) (fun h0 => absurd h0 (Nat.lt_irrefl 0)))
    have C8' := Lib.hid (C7.out.only (show t5 ≠ t5 + 1 by omega) o8)
    have D8' := Lib.hid (D7.out.setRow MC3)
    have B8 := Lib.hid (B7.out.trans (o8.below (by have := T5.out; omega) B7.out.size))
    clear o8 NE6 nq6 X7n M7 X7 B7
    have F8 := Lib.hid (show Fine m inp ⟨begC ent s1 s2 s3 r, [], fillWs ent (caseWs m nw zw) [ew]⟩ from FineC.fine FS.out.cp (fill_fine XU.out.1 WL.out WU.out (fun z hz => by rw [List.mem_singleton.1 hz]; exact EU.out)).1 (fill_fine XU.out.1 WL.out WU.out (fun z hz => by rw [List.mem_singleton.1 hz]; exact EU.out)).2)
    have RS := Lib.hid (refstep_any h3 m ni 0 ci e0 e1 e2 e3 e4 none Ai inp ⟨begC ent s1 s2 s3 r, [], fillWs ent (caseWs m nw zw) [ew]⟩ (w7.setRow (t5 + 1) MC3) F8.out X8.out.ev (IN.out.below B8.out) X8.out.wd (by have := ML.out.2; omega) ML.out.1 (by have := ES.out; omega) (by have := IL.out; omega) (by show 0 ≤ 900000000; decide) (Int.le_refl 0) (by show (0 : Int) ≤ 1000000000; decide))
    rw [show cpuCells (St.c ⟨begC ent s1 s2 s3 r, [], fillWs ent (caseWs m nw zw) [ew]⟩) (.slice none (St.out ⟨begC ent s1 s2 s3 r, [], fillWs ent (caseWs m nw zw) [ew]⟩).length 0) (.slice Ai ni ci) = C38 from HC38.out, HMC3.out] at RS
    have CS := Lib.hid (fun y M hi hS => cstep_any _ p q h m e0 e1 e2 e3 e4 (.slice none 0 0) A' ni cap' inp ⟨begC ent s1 s2 s3 r, [], fillWs ent (caseWs m nw zw) [ew]⟩ y M F8.out hS GB.out hi ML.out.1 (by have := ES.out; omega) (by have := IL.out; omega) (by show 0 ≤ 900000000; decide) IW.out (Int.le_refl 0) (by show (0 : Int) ≤ 1000000000; decide))
    have LT5 := Lib.hid (And.intro C8'.out.lt D8'.out.lt)
    have NX := Lib.hid (fun w' e (hp : StepEnd m ni ci e0 e1 e2 e3 e4 none h3 0 Ai (stepS e0 e1 e4 inp ⟨begC ent s1 s2 s3 r, [], fillWs ent (caseWs m nw zw) [ew]⟩) _ e w') => Apart.next (fun k hk => by
      rcases List.mem_cons.1 hk with rfl | hk
      · exact LT5.out.1
      · rcases List.mem_cons.1 hk with rfl | hk
        · exact LT5.out.2
        · exact own_lt M8.out k hk) X8.out hp)
    have F1 := Lib.hid (fine_step (e0 := e0) (e1 := e1) (e4 := e4) F8.out)
    have N1 := Lib.hid (show (stepS e0 e1 e4 inp ⟨begC ent s1 s2 s3 r, [], fillWs ent (caseWs m nw zw) [ew]⟩).out.length ≤ 1 from (steps_step e0 e1 e4 inp ⟨begC ent s1 s2 s3 r, [], fillWs ent (caseWs m nw zw) [ew]⟩).2.2)
    clear F8 FS WL WU
    generalize stepS e0 e1 e4 inp ⟨begC ent s1 s2 s3 r, [], fillWs ent (caseWs m nw zw) [ew]⟩ = sn at *
    go_wp2_with (first
      | (refine wpList_store_row rfl 41 (.tmp 10) (.tmp 78) rfl (t5 + 1) MC3 rfl rfl 41 MC2 D7.out (infoMem SZ43.out) (by rw [SZ43.out, SZ41.out]) ONE43.out ?_)
      | (refine wpList_load_row rfl 38 (.tmp 9) rfl t5 rfl 38 C38 (0, 0) _ C8'.out Tryd.underlying38 rfl (infoCpu SZ38.out) ?_)
      | (refine wpList_load_row rfl 41 (.tmp 10) rfl (t5 + 1) rfl 41 MC3 (0, 0) _ D8'.out Tryd.underlying41 rfl (infoMem SZ43.out) ?_))
    refine RS.out.mono ?_
    rintro e W1 hp
    obtain ⟨A3, k3, h4, rfl, hX1, hb1⟩ := NX.out _ _ hp
    have M9 := Lib.hid (M8.out.below hb1)
    have X9 := Lib.hid hX1
    have B9 := Lib.hid (B8.out.trans (hb1.mono B8.out.size))
    have SZ8 := Lib.hid (cpuCells_size F1.out.len (.slice A3 sn.out.length k3) (.slice Ai ni ci))
    have ONE8 := Lib.hid (cpu_one sn.c (o := .slice A3 sn.out.length k3) (i := .slice Ai ni ci) rfl rfl)
    have ST8 := Lib.hid (cpuCells_st F1.out.len (.slice A3 sn.out.length k3) (.slice Ai ni ci))
    have SM9 := Lib.hid (show (memCells e0 e1 e2 e3 e4 h4 m).size = 6 from rfl)
    have OM9 := Lib.hid (one_mem2 e0 e1 e2 e3 e4 h4 m)
    have LT9 := Lib.hid (show t5 < W1.heap.size from Nat.lt_of_lt_of_le C8'.out.lt hb1.size)
    clear hp hX1 hb1 RS NX M8 X8 C8' D8' B8 LT5
    generalize hC8 : cpuCells sn.c (.slice A3 sn.out.length k3) (.slice Ai ni ci) = C8 at *
    generalize hM9 : memCells e0 e1 e2 e3 e4 h4 m = MV9 at *
    have HC8 := Lib.hid hC8
    have HM9 := Lib.hid hM9
    clear hC8 hM9
    have TN := Lib.hid (two_new W1 C8 MV9)
    go_wp2_with (first
      | (refine wpList_store_row rfl 38 (.tmp 11) (.tmp 84) rfl W1.heap.size C8 rfl rfl 38 zeros38 TN.out.a (infoCpu SZ8.out) (by rw [SZ8.out]; rfl) ONE8.out ?_)
      | (refine wpList_store_row rfl 41 (.tmp 12) (.tmp 85) rfl (W1.heap.size + 1) MV9 rfl rfl 41 zeros41 TN.out.b (infoMem SM9.out) (by rw [SM9.out]; rfl) OM9.out ?_))
    have M2 := Lib.hid (M9.out.below TN.out.bel)
    have X2 := Lib.hid (X9.out.below TN.out.bel)
    have B2 := Lib.hid (B9.out.trans (TN.out.bel.mono B9.out.size))
    have C82 := Lib.hid TN.out.c
    have D92 := Lib.hid TN.out.d
    have SI := Lib.hid (show W1.heap.size ≤ _ from TN.out.bel.size)
    clear TN M9 X9 B9
    unfold zeros38 zeros41 at M2 X2 B2 C82 D92 SI
    generalize hW2 : ((((W1.alloc (.cells #[.int .u32 0, .int .u32 0, .int .u32 0, .int .u32 0, .int .u32 0, .int .u32 0, .int .u32 0, .int .u32 0, .int .u32 0, .int .u32 0, .int .u32 0, .int .u32 0, .int .u32 0, .int .u32 0, .int .u32 0, .int .u32 0, .int .u32 0, .int .u32 0, .int .u32 0, .int .i64 0, .int .i64 0, .int .i64 0, .int .i64 0, .slice none 0 0, .int .u32 0, .int .u32 0, .int .u32 0, .int .u32 0, .slice none 0 0] 38)).alloc (.cells #[.int .u32 0, .int .u32 0, .int .u32 0, .int .u32 0, .int .u32 0, .slice none 0 0] 41)).setRow W1.heap.size C8).setRow (W1.heap.size + 1) MV9) = W2 at *
    clear hW2
    have LT2 := Lib.hid (Nat.lt_of_lt_of_le LT9.out SI.out)
    generalize W1.heap.size = t8 at *
    refine held_start 17 rfl (S := fun y => Whole y t8 38 C8 ∧ Whole y (t8 + 1) 41 MV9) (by kernel_rfl) ⟨C82.out.drew', D92.out.drew'⟩ (fun hS => ?_)
    refine wpAnyH_take (i := 0) (v := .pointer (some ⟨p, 0, none⟩)) get0 ?_ ?_ ?_ ?_ ?_ hS ?_
    · kernel_rfl
    · kernel_rfl
    · kernel_rfl
    · exact fun _ _ _ h => h
    · exact take_move_g (.tmp 7) _ (wanted_open rfl) rfl rfl
    refine wpAnyH_take (i := 1) (v := .pointer (some ⟨q, 0, none⟩)) get1 ?_ ?_ ?_ ?_ ?_ hS ?_
    · kernel_rfl
    · kernel_rfl
    · kernel_rfl
    · exact fun _ _ _ h => h
    · exact take_move_g (.tmp 8) _ (wanted_open rfl) rfl (eval_ne (by decide) rfl)
    refine wpAnyH_take (i := 3) (v := .pointer (some ⟨t8, 19, none⟩)) get3 ?_ ?_ ?_ ?_ ?_ hS ?_
    · kernel_rfl
    · kernel_rfl
    · kernel_rfl
    · exact fun _ _ _ h => h
    · exact take_field 38 (.tmp 11) 4 t8 19 (wanted_open rfl) rfl (eval_ne (by decide) (eval_ne (by decide) rfl)) (fun w => by simp [go_sem])
    refine wpAnyH_take (i := 4) (v := .int .i64 sn.c.st) get4 ?_ ?_ ?_ ?_ ?_ hS ?_
    · kernel_rfl
    · kernel_rfl
    · kernel_rfl
    · exact fun _ _ _ h => h
    · exact take_cell 3 (.tmp 89) t8 19 .i64 sn.c.st (wanted_open rfl) rfl Tryd.underlying3 (eval_at (n := 102) (size_put (size_put rfl)) (by decide)) (fun _ h => (h.1.cell 19).trans ST8.out)
    have MD := Lib.hid (M2.out.below (Below.refl _ W2).drew)
    have XD := Lib.hid (X2.out.below (Below.refl _ W2).drew)
    have BD := Lib.hid (B2.out.drew)
    have C8D := Lib.hid C82.out.drew'
    have D9D := Lib.hid D92.out.drew'
    have XS := Lib.hid (CS.out W2.drew MD.out (fun b off hAb => Nat.lt_trans (HA3.out b off hAb) (Nat.lt_of_lt_of_le LT2.out (Below.refl W2.heap.size W2).drew.size)) (HS.out.below BD.out (Nat.le_refl _)))
    clear M2 X2 B2 C82 D92 CS
    generalize W2.drew = W3 at *
    refine held_step get2 (by kernel_rfl) (fun K hK => ?_)
    refine step_call2_g Tryd.func10 rfl rfl (wanted_open rfl) rfl (.pointer (some ⟨p, 0, none⟩)) (.pointer (some ⟨q, 0, none⟩)) (eval_ne (by decide) (eval_ne (by decide) (eval_ne (by decide) (eval_at (n := 102) rfl (by decide))))) (eval_ne (by decide) (eval_ne (by decide) (eval_at (n := 102) (size_put rfl) (by decide)))) XS.out ?_
    rintro e w10 ⟨rfl, v', hM4, hn4, hb4⟩
    refine ⟨_, rfl, ?_⟩
    have NE8 := Lib.hid (own_ne MD.out C8D.out (by decide) (by decide) (by decide))
    have NE9 := Lib.hid (own_ne MD.out D9D.out (by decide) (by decide) (by decide))
    have GE4 := Lib.hid (MD.out.own_ge)
    have M4 := Lib.hid hM4
    have X4 := Lib.hid (XD.out.step hb4 hn4)
    have C84 := Lib.hid (hb4.whole C8D.out NE8.out)
    have D94 := Lib.hid (hb4.whole D9D.out NE9.out)
    have B4 := Lib.hid (BD.out.trans (hb4.below (B := w.heap.size) (fun b hb => Nat.le_trans NB2.out (GE4.out b hb)) BD.out.size))
    clear hM4 hn4 hb4 XS MD XD BD C8D D9D NE8 NE9 GE4
    obtain ⟨AO, cO, rfl, EO⟩ := M4.out.outs.form
    have SC := Lib.hid (same4_any p sn.c sn.out AO A3 A' Ai cO k3 ni cap' ni ci w10 M4.out.cpu EO X4.out.ev (by have := N1.out; omega))
    rw [HC8.out] at SC
    refine hK.out _ _ ⟨C84.out, D94.out⟩ (fun hS => ?_)
    clear hK K EO
    refine wpAnyH_take (i := 5) (v := .bool true) get5 ?_ ?_ ?_ ?_ ?_ hS ?_
    · kernel_rfl
    · kernel_rfl
    · kernel_rfl
    · exact fun _ _ _ h => h
    · exact take_eql 3 3 (.tmp 88) (.tmp 90) .i64 sn.c.st (wanted_open rfl) rfl Tryd.underlying3 (eval_at (n := 102) (size_put (size_put (size_put (size_put rfl)))) (by decide)) (eval_ne (by decide) (eval_at (n := 102) (size_put (size_put (size_put rfl))) (by decide)))
    refine wpAnyH_take (i := 6) (v := .bool true) get6 ?_ ?_ ?_ ?_ ?_ hS ?_
    · kernel_rfl
    · kernel_rfl
    · kernel_rfl
    · exact fun _ _ _ h => h
    · exact take_move_g (.tmp 91) _ (wanted_open rfl) rfl (eval_at (n := 102) (size_put (size_put (size_put (size_put (size_put rfl))))) (by decide))
    refine wpAnyH_take (i := 7) (v := .pointer (some ⟨p, 0, none⟩)) nth7 ?_ ?_ ?_ ?_ ?_ hS ?_
    · kernel_rfl
    · kernel_rfl
    · kernel_rfl
    · exact fun _ _ _ h => h
    · exact take_move_g (.tmp 7) _ (wanted_by (j := 6) (d := 92) rfl get6 rfl (eval_at (n := 102) (size_put (size_put (size_put (size_put (size_put (size_put rfl)))))) (by decide))) rfl (eval_ne (by decide) (eval_ne (by decide) (eval_ne (by decide) (eval_ne (by decide) (eval_ne (by decide) (eval_ne (by decide) (eval_ne (by decide) rfl)))))))
    refine wpAnyH_take (i := 8) (v := .agg C8) nth8 ?_ ?_ ?_ ?_ ?_ hS ?_
    · kernel_rfl
    · kernel_rfl
    · kernel_rfl
    · exact fun _ _ _ h => h
    · exact take_load_g 38 (.tmp 11) (wanted_by (j := 6) (d := 92) rfl get6 rfl (eval_ne (by decide) (eval_at (n := 102) (size_put (size_put (size_put (size_put (size_put (size_put rfl)))))) (by decide)))) rfl t8 (eval_ne (by decide) (eval_ne (by decide) (eval_ne (by decide) (eval_ne (by decide) (eval_ne (by decide) (eval_ne (by decide) (eval_ne (by decide) (eval_ne (by decide) rfl)))))))) 38 C8 (fun _ h => h.1) _ Tryd.underlying38 rfl (infoCpu SZ8.out)
    refine held_step nth9 (by kernel_rfl) (fun K hK => ?_)
    refine step_call2_g Tryd.func11 rfl rfl (wanted_by (j := 6) (d := 92) rfl get6 rfl (eval_ne (by decide) (eval_ne (by decide) (eval_at (n := 102) (size_put (size_put (size_put (size_put (size_put (size_put rfl)))))) (by decide))))) rfl (.pointer (some ⟨p, 0, none⟩)) (.agg C8) (eval_ne (by decide) (eval_at (n := 102) (size_put (size_put (size_put (size_put (size_put (size_put (size_put rfl))))))) (by decide))) (eval_at (n := 102) (size_put (size_put (size_put (size_put (size_put (size_put (size_put (size_put rfl)))))))) (by decide)) SC.out ?_
    rintro e w11 ⟨rfl, hb5⟩
    refine ⟨_, rfl, ?_⟩
    have M5 := Lib.hid (M4.out.below hb5)
    have X5 := Lib.hid (X4.out.below hb5)
    have C85 := Lib.hid (C84.out.below hb5 C84.out.lt)
    have D95 := Lib.hid (D94.out.below hb5 D94.out.lt)
    have B5 := Lib.hid (B4.out.trans (hb5.mono B4.out.size))
    clear hb5 SC M4 X4 C84 D94 B4
    have SA := Lib.hid (same_any3 q h h4 m e0 e1 e2 e3 e4 sn.ws w11 M5.out.mem M5.out.wds X5.out.wd F1.out.wl (by have := ML.out.2; omega) ML.out.1 F1.out.wu)
    rw [HM9.out] at SA
    refine hK.out _ _ ⟨C85.out, D95.out⟩ (fun hS => ?_)
    clear hK K
    refine wpAnyH_take (i := 10) (v := .bool true) nth10 ?_ ?_ ?_ ?_ ?_ hS ?_
    · kernel_rfl
    · kernel_rfl
    · kernel_rfl
    · exact fun _ _ _ h => h
    · exact take_pick (.tmp 92) (.tmp 95) (.const (.bool false)) true (.bool true) (.bool false) (wanted_open rfl) rfl (eval_ne (by decide) (eval_ne (by decide) (eval_ne (by decide) (eval_at (n := 102) (size_put (size_put (size_put (size_put (size_put (size_put rfl)))))) (by decide))))) (eval_at (n := 102) (size_put (size_put (size_put (size_put (size_put (size_put (size_put (size_put (size_put rfl))))))))) (by decide)) rfl
    refine wpAnyH_take (i := 11) (v := .bool true) nth11 ?_ ?_ ?_ ?_ ?_ hS ?_
    · kernel_rfl
    · kernel_rfl
    · kernel_rfl
    · exact fun _ _ _ h => h
    · exact take_move_g (.tmp 96) _ (wanted_open rfl) rfl (eval_at (n := 102) (size_put (size_put (size_put (size_put (size_put (size_put (size_put (size_put (size_put (size_put rfl)))))))))) (by decide))
    refine wpAnyH_take (i := 12) (v := .pointer (some ⟨q, 0, none⟩)) nth12 ?_ ?_ ?_ ?_ ?_ hS ?_
    · kernel_rfl
    · kernel_rfl
    · kernel_rfl
    · exact fun _ _ _ h => h
    · exact take_move_g (.tmp 8) _ (wanted_by (j := 11) (d := 97) rfl nth11 rfl (eval_at (n := 102) (size_put (size_put (size_put (size_put (size_put (size_put (size_put (size_put (size_put (size_put (size_put rfl))))))))))) (by decide))) rfl (eval_ne (by decide) (eval_ne (by decide) (eval_ne (by decide) (eval_ne (by decide) (eval_ne (by decide) (eval_ne (by decide) (eval_ne (by decide) (eval_ne (by decide) (eval_ne (by decide) (eval_ne (by decide) (eval_ne (by decide) (eval_ne (by decide) rfl))))))))))))
    refine wpAnyH_take (i := 13) (v := .agg MV9) nth13 ?_ ?_ ?_ ?_ ?_ hS ?_
    · kernel_rfl
    · kernel_rfl
    · kernel_rfl
    · exact fun _ _ _ h => h
    · exact take_load_g 41 (.tmp 12) (wanted_by (j := 11) (d := 97) rfl nth11 rfl (eval_ne (by decide) (eval_at (n := 102) (size_put (size_put (size_put (size_put (size_put (size_put (size_put (size_put (size_put (size_put (size_put rfl))))))))))) (by decide)))) rfl (t8 + 1) (eval_ne (by decide) (eval_ne (by decide) (eval_ne (by decide) (eval_ne (by decide) (eval_ne (by decide) (eval_ne (by decide) (eval_ne (by decide) (eval_ne (by decide) (eval_ne (by decide) (eval_ne (by decide) (eval_ne (by decide) (eval_ne (by decide) (eval_ne (by decide) rfl))))))))))))) 41 MV9 (fun _ h => h.2) _ Tryd.underlying41 rfl (infoMem SM9.out)
    refine held_step nth14 (by kernel_rfl) (fun K hK => ?_)
    refine step_call2_g Tryd.func12 rfl rfl (wanted_by (j := 11) (d := 97) rfl nth11 rfl (eval_ne (by decide) (eval_ne (by decide) (eval_at (n := 102) (size_put (size_put (size_put (size_put (size_put (size_put (size_put (size_put (size_put (size_put (size_put rfl))))))))))) (by decide))))) rfl (.pointer (some ⟨q, 0, none⟩)) (.agg MV9) (eval_ne (by decide) (eval_at (n := 102) (size_put (size_put (size_put (size_put (size_put (size_put (size_put (size_put (size_put (size_put (size_put (size_put rfl)))))))))))) (by decide))) (eval_at (n := 102) (size_put (size_put (size_put (size_put (size_put (size_put (size_put (size_put (size_put (size_put (size_put (size_put (size_put rfl))))))))))))) (by decide)) SA.out ?_
    rintro e w12 ⟨rfl, hb6⟩
    refine ⟨_, rfl, ?_⟩
    have B6 := Lib.hid (B5.out.trans (hb6.mono B5.out.size))
    refine hK.out _ _ ⟨C85.out.below hb6 C85.out.lt, D95.out.below hb6 D95.out.lt⟩ (fun hS => ?_)
    clear hK K hb6 SA
    refine wpAnyH_take (i := 15) (v := .bool true) nth15 ?_ ?_ ?_ ?_ ?_ hS ?_
    · kernel_rfl
    · kernel_rfl
    · kernel_rfl
    · exact fun _ _ _ h => h
    · exact take_pick (.tmp 97) (.tmp 100) (.const (.bool false)) true (.bool true) (.bool false) (wanted_open rfl) rfl (eval_ne (by decide) (eval_ne (by decide) (eval_ne (by decide) (eval_at (n := 102) (size_put (size_put (size_put (size_put (size_put (size_put (size_put (size_put (size_put (size_put (size_put rfl))))))))))) (by decide))))) (eval_at (n := 102) (size_put (size_put (size_put (size_put (size_put (size_put (size_put (size_put (size_put (size_put (size_put (size_put (size_put (size_put rfl)))))))))))))) (by decide)) rfl
    refine wpAnyH_take (i := 16) (v := .bool true) nth16 ?_ ?_ ?_ ?_ ?_ hS ?_
    · kernel_rfl
    · kernel_rfl
    · kernel_rfl
    · exact fun _ _ _ h => h
    · exact take_assign_g (.tmp 101) _ (wanted_open rfl) rfl (eval_at (n := 102) (size_put (size_put (size_put (size_put (size_put (size_put (size_put (size_put (size_put (size_put (size_put (size_put (size_put (size_put (size_put rfl))))))))))))))) (by decide))
    refine wpAnyH_done (by kernel_rfl) ?_ _
    clear hS
    simp only [Act.put, List.setIfInBounds_toArray, List.set_cons_succ, List.set_cons_zero]
    go_wp2_with fail
    go_ret
    exact ⟨rfl, B6.out⟩

set_option maxRecDepth 100000 in
theorem door_met (os : Os) (args : Array Value) : laidMetH Tryd.prog Rows.cpuOnesRow.laid ((World.doorLaid Tryd.prog 400 os).forCall (fun _ _ => 0) ⟨#[], args, []⟩).memory :=
  laidMetH_of_parts3 (fuel := 8) (laidMet_of_run' 8 (by kernel_rfl) (by kernel_rfl)) (by kernel_rfl) (by kernel_rfl)

set_option maxRecDepth 100000 in
theorem lifted (os : Os) (started : os.Started) (H : Type) (enc : TypeId × Value → H) :
    ReturnsInHanded {} Tryd.checked os 4 .any (fun w args => (Rows.cpuOnesSpec.pre enc Tryd.prog Tryd.f4 [] false w args ∧ laidMetH Tryd.prog Rows.cpuOnesRow.laid w) ∧ sizedMet enc Tryd.prog Tryd.f4 (OpenSpec.ofChange Rows.cpuOnesSpec) false w args) (Rows.cpuOnesSpec.post enc Tryd.prog Tryd.f4 false true false false) := by
  refine returnsInHanded_of_change_and (C := Tryd.checked) (X := fun w _ => laidMetH Tryd.prog Rows.cpuOnesRow.laid w) (fun _ _ _ hh h => h.of_heap hh) Tryd.own started (by kernel_rfl) Tryd.func4
    (ChangeSpec.witness_shaped (enc := enc) (C := Tryd.checked) (os := os) (X := fun w _ => laidMetH Tryd.prog Rows.cpuOnesRow.laid w) false (World.doorLaid Tryd.prog 400 os) #[.agg #[.int .u32 0, .int .u32 0, .int .u32 0, .int .u32 0, .int .u32 0, .int .u32 0, .int .u32 0, .int .u32 0, .int .u32 0, .slice none 0 0, .int .u32 0, .int .u32 0, .int .u32 0, .int .u32 0, .int .u32 0, .int .u32 0, .int .u32 0, .int .u32 0, .int .u32 0, .int .u32 0, .int .u32 0, .int .u32 0, .int .u32 0, .int .u32 0, .int .u32 0, .int .u32 0, .slice none 0 0], .agg #[.int .i64 0, .int .i64 0, .int .i64 0, .int .i64 0, .int .i64 0]] 8 rfl (World.shaped_of_RefB (by kernel_rfl) (by kernel_rfl)) (by kernel_rfl) (by kernel_rfl) (by kernel_rfl) (door_met os _)) ?_
  intro W base args ds gs before hval0 hW _ _ hL _
  have hval : ∀ (j : Nat) t v, Tryd.f4.params[j]? = some t → args[j]? = some v → Value.okWide Tryd.prog W .any base t v := hval0
  have hW' := hW
  obtain ⟨p, q, hA0, hV, rfl, hfz, hnd⟩ := hW
  have hA : DataW.TrodAll enc Tryd.prog W 0 (fun _ => true) true Tryd.f4.params.toList args.toList ds p := hA0
  rw [Tryd.params4] at hA hval
  obtain ⟨v0, vs0, d0, ds0, p0, q0, hargs, rfl, rfl, h0, r0⟩ := trodAll_cons hA
  obtain ⟨v1, vs1, d1, ds1, p1, q1, rfl, rfl, rfl, h1, r1⟩ := trodAll_cons r0
  obtain ⟨rfl, rfl, rfl⟩ := trodAll_nil r1
  obtain rfl : args = #[v0, v1] := by cases args; simp_all
  clear hA0 hval0
  have hT0 := shapes_of_laid hL (by kernel_rfl) List.mem_cons_self
  obtain ⟨CA0, es0, ss0, rs0, Aw0, nw0, cw0, zw0, Ai0, ni0, ci0, inp0, rfl, K0⟩ := open_case Tryd.underlying31 (by kernel_rfl) rfl rfl rfl rfl rfl (by kernel_rfl) (by kernel_rfl) (by kernel_rfl) (by kernel_rfl) (by kernel_rfl) Tryd.underlying24 (by kernel_rfl) (by kernel_rfl) rfl Tryd.underlying26 (by kernel_rfl) (by kernel_rfl) rfl Tryd.underlying27 Tryd.underlying22 (by kernel_rfl) Tryd.underlying28 Tryd.underlying22 (by kernel_rfl) Tryd.underlying29 Tryd.underlying21 (by kernel_rfl) (hval 0 31 v0 rfl rfl) h0
  obtain ⟨zs1, rfl, hl1, w1⟩ := open_ints_struct (k := .i64) Tryd.underlying51 (by kernel_rfl) (by kernel_rfl) (by kernel_rfl) (hval 1 51 v1 rfl rfl) h1
  obtain ⟨x10, x11, x12, x13, x14, rfl⟩ := list_five hl1
  refine (walk W hT0 CA0 es0 ss0 rs0 Aw0 nw0 cw0 zw0 Ai0 ni0 ci0 inp0 K0 x10 (w1 x10 (by simp)) x11 (w1 x11 (by simp)) x12 (w1 x12 (by simp)) x13 (w1 x13 (by simp)) x14 (w1 x14 (by simp))).mono fun e W' ⟨he, hg⟩ => ?_
  subst he
  exact ⟨_, rfl, law_post Tryd.laidOut Tryd.mapsRowed Tryd.slicesFull (by kernel_rfl) rfl (by kernel_rfl) Tryd.underlying4 rfl hW' hg⟩

theorem over : Rows.cpuOnesRow.holds Tryd.pinned (OpenSpec.ofChange Rows.cpuOnesSpec) :=
  OpenClaim.holds_of_wide 4 Tryd.f4 rfl rfl rfl rfl rfl rfl rfl ⟨rfl, rfl, rfl, rfl, rfl⟩ rfl rfl rfl rfl rfl (by kernel_rfl) Tryd.func4 (by kernel_rfl)
    (of_decide_eq_true (by kernel_rfl)) (by unfold Func.isWrapper; first | (rw [if_pos (by decide +kernel)]; kernel_rfl) | (rw [if_neg (by decide +kernel)]; exact ⟨rfl, rfl⟩))
    (fun os started H enc _ => lifted os started H enc)

theorem proved : Rows.CpuOnesCardSaid :=
  Claim7.holds_tied_plain_at .later [] Rows.cpuOnesCard.laidKinds true Rows.cpuOnesCard.stood.harness false
    over (fun _ h => by cases h) (by kernel_rfl) (fun _ h => by cases h) cpuOnes_row_tie rfl ⟨rfl, rfl⟩ (by kernel_rfl) rfl
    (fun f fn hf hfn => by
      obtain rfl : f = 4 := Option.some.inj ((show Tryd.prog.funcNamed Rows.cpuOnesRow.func = some 4 by kernel_rfl).symm.trans hf) |>.symm
      obtain rfl : fn = Tryd.f4 := (Option.some.inj (Tryd.func4.symm.trans hfn)).symm
      exact ⟨by kernel_rfl, fun j t ht => by
        have hm : t ∈ Tryd.f4.params.toList := by simpa using Array.mem_of_getElem? ht
        have hall : (Tryd.f4.params.toList.all fun u => !Tryd.prog.wantsStandIn u) = true := by kernel_rfl
        exact (show Tryd.prog.wantsStandIn t = false by simpa using List.all_eq_true.1 hall t hm)⟩)
    (by kernel_rfl)
end Go.Proofs.YtinpdgjbiimgkaaDoor.lawCpuOnes
