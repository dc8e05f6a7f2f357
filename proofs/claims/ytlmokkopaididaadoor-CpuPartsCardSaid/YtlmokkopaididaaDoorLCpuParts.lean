/- CpuParts: whatever words stand in memory and whatever is in the registers, so many steps in two runs leave memory, registers, place, state, number of steps and number of events just as all of them in one run. Condition: the row's own: the package's table of shapes holds what its initialiser laid (tied to the program's text). -/
import Derived.Test.YtlmokkopaididaaDoorRows
import Derived.Test.YtlmokkopaididaaDoorLift
import Derived.Test.YtlmokkopaididaaDoorCpuXS
import Derived.Test.YtlmokkopaididaaDoorMemT
import Derived.Test.YtlmokkopaididaaDoorCase
import Derived.Test.YtlmokkopaididaaDoorTie
import Derived.Test.YtlmokkopaididaaDoorCards
import Derived.SevenTiedAt
namespace Go.Proofs.YtlmokkopaididaaDoor.lawCpuParts
open Go.ChangeShapes Go.WideShapes Go.ChangeAt Go.RowKit
set_option linter.unusedVariables false
set_option maxHeartbeats 32000000 in
set_option maxRecDepth 100000 in
theorem walk (w : World) (hS : ShapesIn w) (CA : Array Value) (es ss rs : List Int) (Aw : Option Addr) (nw cw : Nat) (zw : List Int) (Ai : Option Addr) (ni ci : Nat) (inp : List Int) (K : CaseIn w CA es ss rs Aw nw cw zw Ai ni ci inp) (a1 : Int) (w1 : (Lit.int .u8 a1).wf = true) (a2 : Int) (w2 : (Lit.int .u8 a2).wf = true) :
    Calls Tryd.prog 6 #[.agg CA, .int .u8 a1, .int .u8 a2] w fun e w' => e = .returned (.bool true) ∧ Below w.heap.size w w' := by
  obtain ⟨e0, e1, e2, e3, e4, s0, s1, s2, s3, r, m, U⟩ := case_use K
  obtain ⟨lo, hi⟩ := bounds_u8 w1
  obtain ⟨lo2, hi2⟩ := bounds_u8 w2
  obtain ⟨k, rfl⟩ := Int.eq_ofNat_of_zero_le lo
  obtain ⟨j, rfl⟩ := Int.eq_ofNat_of_zero_le lo2
  have HU := Lib.hid U
  have HS := Lib.hid hS
  have GL := Lib.hid (show 0 < w.heap.size from hS.lt)
  have B0 := Lib.hid ((Below.refl w.heap.size w).alloc (Nat.le_refl _) (.cells CA 31))
  have K0 := Lib.hid (Whole.made w 31 CA _ rfl)
  clear U K hS w1 w2
  go_enter Tryd.func6, Tryd.ntmps6
  go_wp2_with fail
  refine (awake4_any _ (HS.out.below B0.out (Nat.le_refl _))).mono ?_
  rintro e w1 ⟨rfl, hb1⟩
  have K1 := Lib.hid (K0.out.below hb1 K0.out.lt)
  have B1 := Lib.hid (B0.out.trans (hb1.mono B0.out.size))
  clear hb1 K0 B0
  go_wp2_with (refine wpList_load_row rfl 31 (.tmp 3) rfl w.heap.size rfl 31 CA (0, 0) _ K1.out Tryd.underlying31 rfl (infoCase HU.out.size) ?_)
  refine (HU.out.few _).mono ?_
  rintro e w2 ⟨b, rfl, hf, hb2⟩
  have K2 := Lib.hid (K1.out.below hb2 K1.out.lt)
  have B2 := Lib.hid (B1.out.trans (hb2.mono B1.out.size))
  have HF := Lib.hid hf
  clear hb2 hf K1 B1
  cases b with
  | false =>
    go_wp2_with fail
    go_ret
    exact ⟨rfl, B2.out⟩
  | true =>
    have FW := Lib.hid (HF.out rfl)
    clear HF
    have FS := Lib.hid HU.out.fine
    have WL := Lib.hid HU.out.fine.wl
    have ML := Lib.hid (HU.out.m4 FW.out)
    go_wp2_with (refine wpList_load_row rfl 31 (.tmp 3) rfl w.heap.size rfl 31 CA (0, 0) _ K2.out Tryd.underlying31 rfl (infoCase HU.out.size) ?_)
    refine (HU.out.begun _ B2.out FW.out).mono ?_
    rintro e w3 ⟨p, q, h, h2, A', cap', rfl, hM, hA, hW2, n1, n2, n3, hb3⟩
    have K3 := Lib.hid (K2.out.below hb3 K2.out.lt)
    have B3 := Lib.hid (B2.out.trans (hb3.mono B2.out.size))
    have HA3 := Lib.hid hA
    have SZ38 := Lib.hid (cpuCells_size (c := begC s0 s1 s2 s3 r) hM.cpu.len (.slice none 0 0) (.slice Ai ni ci))
    have ONE38 := Lib.hid (cpu_one (begC s0 s1 s2 s3 r) (o := .slice none 0 0) (i := .slice Ai ni ci) rfl rfl)
    have SZ41 := Lib.hid (show (memCells e0 e1 e2 e3 e4 h2 m).size = 6 from rfl)
    have ONE41 := Lib.hid (one_mem e0 e1 e2 e3 e4 (some ⟨h2, 0, none⟩) m m)
    rw [show (#[.int .u32 e0, .int .u32 e1, .int .u32 e2, .int .u32 e3, .int .u32 e4, .slice (some ⟨h2, 0, none⟩) m m] : Array Value) = memCells e0 e1 e2 e3 e4 h2 m from rfl] at ONE41
    have M3 := Lib.hid hM
    clear hb3 hM hA hW2 K2 n1 n2 n3
    generalize hCC : cpuCells (begC s0 s1 s2 s3 r) (.slice none 0 0) (.slice Ai ni ci) = C38 at *
    have HCC := Lib.hid hCC
    clear hCC
    generalize memCells e0 e1 e2 e3 e4 h2 m = MC2 at *
    have TN := Lib.hid (two_new w3 C38 MC2)
    go_wp2_with (first
      | (refine wpList_store_row rfl 38 (.tmp 9) (.tmp 27) rfl w3.heap.size C38 rfl rfl 38 zeros38 TN.out.a (infoCpu SZ38.out) (by rw [SZ38.out]; rfl) ONE38.out ?_)
      | (refine wpList_store_row rfl 41 (.tmp 10) (.tmp 28) rfl (w3.heap.size + 1) MC2 rfl rfl 41 zeros41 TN.out.b (infoMem SZ41.out) (by rw [SZ41.out]; rfl) ONE41.out ?_)
      | (refine wpList_load_row rfl 31 (.tmp 3) rfl w.heap.size rfl 31 CA (0, 0) _ (K3.out.below TN.out.bel K3.out.lt) Tryd.underlying31 rfl (infoCase HU.out.size) ?_))
    have M4 := Lib.hid (M3.out.below TN.out.bel)
    have K4 := Lib.hid (K3.out.below TN.out.bel K3.out.lt)
    have B4 := Lib.hid (B3.out.trans (TN.out.bel.mono B3.out.size))
    have S4 := Lib.hid (show w3.heap.size ≤ _ from TN.out.bel.size)
    clear TN K3 B3
    unfold zeros38 zeros41 at M4 K4 B4 S4
    generalize ((((w3.alloc (.cells #[.int .u32 0, .int .u32 0, .int .u32 0, .int .u32 0, .int .u32 0, .int .u32 0, .int .u32 0, .int .u32 0, .int .u32 0, .int .u32 0, .int .u32 0, .int .u32 0, .int .u32 0, .int .u32 0, .int .u32 0, .int .u32 0, .int .u32 0, .int .u32 0, .int .u32 0, .int .i64 0, .int .i64 0, .int .i64 0, .int .i64 0, .slice none 0 0, .int .u32 0, .int .u32 0, .int .u32 0, .int .u32 0, .slice none 0 0] 38)).alloc (.cells #[.int .u32 0, .int .u32 0, .int .u32 0, .int .u32 0, .int .u32 0, .slice none 0 0] 41)).setRow w3.heap.size C38).setRow (w3.heap.size + 1) MC2) = Y at *
    refine (HU.out.begun _ B4.out FW.out).mono ?_
    rintro e w5 ⟨p2, q2, h3, h4, A2, cap2, rfl, hM, hA, hW2, n1, n2, n3, hb5⟩
    have M5 := Lib.hid (M4.out.below hb5)
    have B5 := Lib.hid (B4.out.trans (hb5.mono B4.out.size))
    have S5 := Lib.hid (show Y.heap.size ≤ w5.heap.size from hb5.size)
    have HA5 := Lib.hid hA
    have X5 := Lib.hid hM
    have SZM := Lib.hid (show (memCells e0 e1 e2 e3 e4 h4 m).size = 6 from rfl)
    have ONEM := Lib.hid (one_mem e0 e1 e2 e3 e4 (some ⟨h4, 0, none⟩) m m)
    rw [show (#[.int .u32 e0, .int .u32 e1, .int .u32 e2, .int .u32 e3, .int .u32 e4, .slice (some ⟨h4, 0, none⟩) m m] : Array Value) = memCells e0 e1 e2 e3 e4 h4 m from rfl] at ONEM
    rw [HCC.out]
    clear hb5 hM hA hW2 n1 n2 n3 K4 HCC
    generalize memCells e0 e1 e2 e3 e4 h4 m = MC3 at *
    have TN := Lib.hid (two_new w5 C38 MC3)
    go_wp2_with (first
      | (refine wpList_store_row rfl 38 (.tmp 13) (.tmp 34) rfl w5.heap.size C38 rfl rfl 38 zeros38 TN.out.a (infoCpu SZ38.out) (by rw [SZ38.out]; rfl) ONE38.out ?_)
      | (refine wpList_store_row rfl 41 (.tmp 14) (.tmp 35) rfl (w5.heap.size + 1) MC3 rfl rfl 41 zeros41 TN.out.b (infoMem SZM.out) (by rw [SZM.out]; rfl) ONEM.out ?_))
    have M6 := Lib.hid (M5.out.below TN.out.bel)
    have X6 := Lib.hid (X5.out.below TN.out.bel)
    have B6 := Lib.hid (B5.out.trans (TN.out.bel.mono B5.out.size))
    have S6 := Lib.hid (show w5.heap.size ≤ _ from TN.out.bel.size)
    clear TN
    unfold zeros38 zeros41 at M6 X6 B6 S6
    generalize ((((w5.alloc (.cells #[.int .u32 0, .int .u32 0, .int .u32 0, .int .u32 0, .int .u32 0, .int .u32 0, .int .u32 0, .int .u32 0, .int .u32 0, .int .u32 0, .int .u32 0, .int .u32 0, .int .u32 0, .int .u32 0, .int .u32 0, .int .u32 0, .int .u32 0, .int .u32 0, .int .u32 0, .int .i64 0, .int .i64 0, .int .i64 0, .int .i64 0, .slice none 0 0, .int .u32 0, .int .u32 0, .int .u32 0, .int .u32 0, .slice none 0 0] 38)).alloc (.cells #[.int .u32 0, .int .u32 0, .int .u32 0, .int .u32 0, .int .u32 0, .slice none 0 0] 41)).setRow w5.heap.size C38).setRow (w5.heap.size + 1) MC3) = Y2 at *
    have es := ends_sum FW.out.1
    have E4 := Lib.hid (And.intro es.2.1 (show e0 ≤ e4 by omega))
    have FWN := Lib.hid (show ni ≤ 1000000 by have := FW.out.2.2.2; omega)
    have GB := Lib.hid (Nat.lt_of_lt_of_le GL.out B2.out.size)
    have S6H := Lib.hid (HS.out.below B6.out (Nat.le_refl _))
    have hA6 : ∀ b off, A' = some ⟨b, off, none⟩ → b < Y2.heap.size := fun b off ha => by have := (HA3.out b off ha).2; have := S4.out; have := S5.out; have := S6.out; omega
    have ltp := M4.out.cpu.lt
    have lth := M4.out.wds.lt
    have LP := Lib.hid (And.intro ltp lth)
    have RA := Lib.hid (crun_any w2.heap.size p q h m k e0 e1 e2 e3 e4 (.slice none 0 0) A' ni cap' inp _ Y2 M6.out FS.out S6H.out GB.out hA6 ML.out.1 E4.out.2 FWN.out (by omega) (Nat.zero_le _) HU.out.iw (Int.le_refl 0) (by show (0 : Int) ≤ 1000000; omega))
    have RO := Lib.hid (run_of (e0 := e0) (e1 := e1) (e4 := e4) FS.out k)
    have RO3 := Lib.hid (run_of (e0 := e0) (e1 := e1) (e4 := e4) FS.out (k + j))
    have ADD := Lib.hid (run_add (e0 := e0) (e1 := e1) (e4 := e4) (inp := inp) (s := ⟨begC s0 s1 s2 s3 r, [], caseWs m nw zw⟩) k j)
    have RB := Lib.hid (fun w X hS hA => crun_any Y.heap.size p2 q2 h3 m (k + j) e0 e1 e2 e3 e4 (.slice none 0 0) A2 ni cap2 inp _ w X FS.out hS (Nat.lt_of_lt_of_le GL.out B4.out.size) hA ML.out.1 E4.out.2 FWN.out (by omega) (Nat.zero_le _) HU.out.iw (Int.le_refl 0) (by show (0 : Int) ≤ 1000000; omega))
    have T0 := Lib.hid (show (begC s0 s1 s2 s3 r).steps = 0 from rfl)
    have O0 := Lib.hid (show (⟨begC s0 s1 s2 s3 r, [], caseWs m nw zw⟩ : St).out.length = 0 from rfl)
    have T00 := Lib.hid (show (⟨begC s0 s1 s2 s3 r, [], caseWs m nw zw⟩ : St).c.steps = 0 from rfl)
    clear es hA6 ltp lth
    generalize (⟨begC s0 s1 s2 s3 r, [], caseWs m nw zw⟩ : St) = si at *
    generalize hsa : runS e0 e1 e4 inp k si = sa at *
    have HSA := Lib.hid hsa
    clear hsa
    generalize runS e0 e1 e4 inp (k + j) si = sx at *
    unfold XPost at RA
    go_wp2_with fail
    refine RA.out.mono ?_
    rintro e w7 ⟨rfl, v1, hM7, hn7, hbt7⟩
    have S7H := M6.out.shapes S6H.out GB.out hbt7
    have hA7 : ∀ b off, A' = some ⟨b, off, none⟩ → b < w7.heap.size := fun b off ha => by have := (HA3.out b off ha).2; have := S4.out; have := S5.out; have := S6.out; have := hbt7.size; omega
    have RC := Lib.hid (crun_any w2.heap.size p q h m j e0 e1 e2 e3 e4 v1 A' ni cap' inp sa w7 hM7 RO.out.fine S7H GB.out hA7 ML.out.1 E4.out.2 FWN.out (by omega) (by have := RO.out.outs; have := O0.out; omega) HU.out.iw (by have := RO.out.lo; have := T00.out; omega) (by have := RO.out.hi; have := T00.out; omega))
    rw [← ADD.out] at RC
    have N7 := Lib.hid hn7
    have BT7 := Lib.hid hbt7
    have M7 := Lib.hid hM7
    clear hn7 hbt7 hM7 S7H hA7 RA
    unfold XPost at RC
    go_wp2_with fail
    refine RC.out.mono ?_
    rintro e w8 ⟨rfl, v2, hM8, hn8, hbt8⟩
    have BT8 := M6.out.but_more BT7.out N7.out hbt8
    have hL : ∀ b, b ∈ p :: h :: ownList (.slice none 0 0) → b = p ∨ b = h := fun b hb => by simpa [ownList, Value.ownBlock] using hb
    have X8 := X6.out.other BT8 (fun hm => by have := hL _ hm; have := X6.out.lp; have := LP.out; omega) (fun hm => by rcases hL _ hm with h1 | h1; exact whole_ne X6.out.mem M6.out.cpu.whole (by decide) h1; exact whole_ne X6.out.mem M6.out.wds (by decide) h1) (fun hm => by have := hL _ hm; have := X6.out.lh; have := LP.out; omega) (fun b hb => by simp [Value.ownBlock] at hb) (fun b off ha hm => by have := hL _ hm; have := HA5.out b off ha; have := LP.out; omega)
    have S8H := M6.out.shapes S6H.out GB.out BT8
    have hA8 : ∀ b off, A2 = some ⟨b, off, none⟩ → b < w8.heap.size := fun b off ha => by have := (HA5.out b off ha).2; have := S6.out; have := BT8.size; omega
    have RD := Lib.hid (RB.out w8 X8 S8H hA8)
    have B8 := Lib.hid (B6.out.trans (BT8.below (fun b hb => by have := hL _ hb; have := M6.out.lp; have := M6.out.lh; have := B2.out.size; omega) B6.out.size))
    have M8 := Lib.hid hM8
    have HX8 := Lib.hid X8
    rw [show ((k + j : Nat) : Int) = (k : Int) + (j : Int) from rfl] at RD
    clear hM8 hn8 hbt8 BT8 hL X8 S8H hA8 RB RC N7 BT7 M7
    unfold XPost at RD
    go_wp2_with fail
    refine RD.out.mono ?_
    rintro e w9 ⟨rfl, v3, hX9, hn9, hbt9⟩
    have hL : ∀ b, b ∈ p2 :: h3 :: ownList (.slice none 0 0) → b = p2 ∨ b = h3 := fun b hb => by simpa [ownList, Value.ownBlock] using hb
    have M9 := Lib.hid (M8.out.other hbt9 (fun hm => by have := hL _ hm; have := HX8.out.lp; have := HX8.out.lh; have := LP.out; omega) (fun hm => by rcases hL _ hm with h1 | h1; exact whole_ne M8.out.mem HX8.out.cpu.whole (by decide) h1; exact whole_ne M8.out.mem HX8.out.wds (by decide) h1) (fun hm => by have := hL _ hm; have := HX8.out.lp; have := HX8.out.lh; have := LP.out; omega) (fun b hb hm => by rcases hL _ hm with h1 | h1; exact M8.out.outs.ne_of HX8.out.cpu.whole (by decide) b hb h1; exact M8.out.outs.ne_of HX8.out.wds (by decide) b hb h1) (fun b off ha hm => by have := hL _ hm; have := HA3.out b off ha; have := HX8.out.lp; have := HX8.out.lh; have := S4.out; omega))
    have X9 := Lib.hid hX9
    have B9 := Lib.hid (B8.out.trans (hbt9.below (fun b hb => by have := hL _ hb; have := HX8.out.lp; have := HX8.out.lh; have := B4.out.size; omega) B8.out.size))
    have DF := Lib.hid (differ_any q h q2 h3 m e0 e1 e2 e3 e4 sx.ws sx.ws w9 M9.out.mem X9.out.mem M9.out.wds X9.out.wds RO3.out.fine.wl RO3.out.fine.wl (by have := ML.out.2; omega) RO3.out.fine.wu RO3.out.fine.wu)
    clear hX9 hn9 hbt9 hL M8 HX8 B8 RD
    unfold DifferPost at DF
    go_wp2_with fail
    refine DF.out.mono ?_
    rintro e w10 ⟨rr, bb, rfl, hd, hb10⟩
    obtain rfl : bb = false := by
      rcases hd with ⟨t, _, _, hne, _⟩ | ⟨_, _, hf⟩
      · exact absurd rfl hne
      · exact hf
    have M10 := Lib.hid (M9.out.below hb10)
    have X10 := Lib.hid (X9.out.below hb10)
    have B10 := Lib.hid (B9.out.trans (hb10.mono B9.out.size))
    obtain ⟨AO, cO, rfl, _⟩ := M9.out.outs.form
    obtain ⟨AP, cP, rfl, _⟩ := X9.out.outs.form
    obtain ⟨x0, x1, x2, x3, x4, x5, x6, x7, x8, x9, x10, x11, x12, x13, x14, x15, hrr⟩ := list_sixteen M10.out.cpu.len
    have HRR := Lib.hid hrr
    clear hrr hd hb10 M9 X9 B9 DF
    have a0 : w10.cell? ⟨p, 0, none⟩ = some (.int .u32 x0) := by have := M10.out.cpu.reg (show 0 < 16 by decide); rw [HRR.out] at this; exact this
    have b0 : w10.cell? ⟨p2, 0, none⟩ = some (.int .u32 x0) := by have := X10.out.cpu.reg (show 0 < 16 by decide); rw [HRR.out] at this; exact this
    have a1 : w10.cell? ⟨p, 1, none⟩ = some (.int .u32 x1) := by have := M10.out.cpu.reg (show 1 < 16 by decide); rw [HRR.out] at this; exact this
    have b1 : w10.cell? ⟨p2, 1, none⟩ = some (.int .u32 x1) := by have := X10.out.cpu.reg (show 1 < 16 by decide); rw [HRR.out] at this; exact this
    have a2 : w10.cell? ⟨p, 2, none⟩ = some (.int .u32 x2) := by have := M10.out.cpu.reg (show 2 < 16 by decide); rw [HRR.out] at this; exact this
    have b2 : w10.cell? ⟨p2, 2, none⟩ = some (.int .u32 x2) := by have := X10.out.cpu.reg (show 2 < 16 by decide); rw [HRR.out] at this; exact this
    have a3 : w10.cell? ⟨p, 3, none⟩ = some (.int .u32 x3) := by have := M10.out.cpu.reg (show 3 < 16 by decide); rw [HRR.out] at this; exact this
    have b3 : w10.cell? ⟨p2, 3, none⟩ = some (.int .u32 x3) := by have := X10.out.cpu.reg (show 3 < 16 by decide); rw [HRR.out] at this; exact this
    have a4 : w10.cell? ⟨p, 4, none⟩ = some (.int .u32 x4) := by have := M10.out.cpu.reg (show 4 < 16 by decide); rw [HRR.out] at this; exact this
    have b4 : w10.cell? ⟨p2, 4, none⟩ = some (.int .u32 x4) := by have := X10.out.cpu.reg (show 4 < 16 by decide); rw [HRR.out] at this; exact this
    have a5 : w10.cell? ⟨p, 5, none⟩ = some (.int .u32 x5) := by have := M10.out.cpu.reg (show 5 < 16 by decide); rw [HRR.out] at this; exact this
    have b5 : w10.cell? ⟨p2, 5, none⟩ = some (.int .u32 x5) := by have := X10.out.cpu.reg (show 5 < 16 by decide); rw [HRR.out] at this; exact this
    have a6 : w10.cell? ⟨p, 6, none⟩ = some (.int .u32 x6) := by have := M10.out.cpu.reg (show 6 < 16 by decide); rw [HRR.out] at this; exact this
    have b6 : w10.cell? ⟨p2, 6, none⟩ = some (.int .u32 x6) := by have := X10.out.cpu.reg (show 6 < 16 by decide); rw [HRR.out] at this; exact this
    have a7 : w10.cell? ⟨p, 7, none⟩ = some (.int .u32 x7) := by have := M10.out.cpu.reg (show 7 < 16 by decide); rw [HRR.out] at this; exact this
    have b7 : w10.cell? ⟨p2, 7, none⟩ = some (.int .u32 x7) := by have := X10.out.cpu.reg (show 7 < 16 by decide); rw [HRR.out] at this; exact this
    have a8 : w10.cell? ⟨p, 8, none⟩ = some (.int .u32 x8) := by have := M10.out.cpu.reg (show 8 < 16 by decide); rw [HRR.out] at this; exact this
    have b8 : w10.cell? ⟨p2, 8, none⟩ = some (.int .u32 x8) := by have := X10.out.cpu.reg (show 8 < 16 by decide); rw [HRR.out] at this; exact this
    have a9 : w10.cell? ⟨p, 9, none⟩ = some (.int .u32 x9) := by have := M10.out.cpu.reg (show 9 < 16 by decide); rw [HRR.out] at this; exact this
    have b9 : w10.cell? ⟨p2, 9, none⟩ = some (.int .u32 x9) := by have := X10.out.cpu.reg (show 9 < 16 by decide); rw [HRR.out] at this; exact this
    have a10 : w10.cell? ⟨p, 10, none⟩ = some (.int .u32 x10) := by have := M10.out.cpu.reg (show 10 < 16 by decide); rw [HRR.out] at this; exact this
    have b10 : w10.cell? ⟨p2, 10, none⟩ = some (.int .u32 x10) := by have := X10.out.cpu.reg (show 10 < 16 by decide); rw [HRR.out] at this; exact this
    have a11 : w10.cell? ⟨p, 11, none⟩ = some (.int .u32 x11) := by have := M10.out.cpu.reg (show 11 < 16 by decide); rw [HRR.out] at this; exact this
    have b11 : w10.cell? ⟨p2, 11, none⟩ = some (.int .u32 x11) := by have := X10.out.cpu.reg (show 11 < 16 by decide); rw [HRR.out] at this; exact this
    have a12 : w10.cell? ⟨p, 12, none⟩ = some (.int .u32 x12) := by have := M10.out.cpu.reg (show 12 < 16 by decide); rw [HRR.out] at this; exact this
    have b12 : w10.cell? ⟨p2, 12, none⟩ = some (.int .u32 x12) := by have := X10.out.cpu.reg (show 12 < 16 by decide); rw [HRR.out] at this; exact this
    have a13 : w10.cell? ⟨p, 13, none⟩ = some (.int .u32 x13) := by have := M10.out.cpu.reg (show 13 < 16 by decide); rw [HRR.out] at this; exact this
    have b13 : w10.cell? ⟨p2, 13, none⟩ = some (.int .u32 x13) := by have := X10.out.cpu.reg (show 13 < 16 by decide); rw [HRR.out] at this; exact this
    have a14 : w10.cell? ⟨p, 14, none⟩ = some (.int .u32 x14) := by have := M10.out.cpu.reg (show 14 < 16 by decide); rw [HRR.out] at this; exact this
    have b14 : w10.cell? ⟨p2, 14, none⟩ = some (.int .u32 x14) := by have := X10.out.cpu.reg (show 14 < 16 by decide); rw [HRR.out] at this; exact this
    have a15 : w10.cell? ⟨p, 15, none⟩ = some (.int .u32 x15) := by have := M10.out.cpu.reg (show 15 < 16 by decide); rw [HRR.out] at this; exact this
    have b15 : w10.cell? ⟨p2, 15, none⟩ = some (.int .u32 x15) := by have := X10.out.cpu.reg (show 15 < 16 by decide); rw [HRR.out] at this; exact this
    have a16 := M10.out.cpu.pc
    have a19 := M10.out.cpu.st
    have a21 := M10.out.cpu.steps
    have a23 := M10.out.cpu.outv
    have b16 := X10.out.cpu.pc
    have b19 := X10.out.cpu.st
    have b21 := X10.out.cpu.steps
    have b23 := X10.out.cpu.outv
    have EQ16 : ∀ w, (Op.equalIn 10000 28 (.agg #[.int .u32 x0, .int .u32 x1, .int .u32 x2, .int .u32 x3, .int .u32 x4, .int .u32 x5, .int .u32 x6, .int .u32 x7, .int .u32 x8, .int .u32 x9, .int .u32 x10, .int .u32 x11, .int .u32 x12, .int .u32 x13, .int .u32 x14, .int .u32 x15]) (.agg #[.int .u32 x0, .int .u32 x1, .int .u32 x2, .int .u32 x3, .int .u32 x4, .int .u32 x5, .int .u32 x6, .int .u32 x7, .int .u32 x8, .int .u32 x9, .int .u32 x10, .int .u32 x11, .int .u32 x12, .int .u32 x13, .int .u32 x14, .int .u32 x15])).run Tryd.prog w = .ok true w := fun w => run_equalIn_arr16 (d := 9998) Tryd.underlying28 Tryd.underlying22 (by kernel_rfl) x0 x1 x2 x3 x4 x5 x6 x7 x8 x9 x10 x11 x12 x13 x14 x15 w
    clear HRR M10 X10 M6 X6 M4 M5 X5
    go_wp2_with fail
    go_quiet (fail)
    go_wp2_with fail
    go_ret
    exact ⟨rfl, below_drawn B10.out nq⟩

set_option maxRecDepth 100000 in
theorem door_met (os : Os) (args : Array Value) : laidMetH Tryd.prog Rows.cpuPartsRow.laid ((World.doorLaid Tryd.prog 400 os).forCall (fun _ _ => 0) ⟨#[], args, []⟩).memory :=
  laidMetH_of_parts3 (fuel := 8) (laidMet_of_run' 8 (by kernel_rfl) (by kernel_rfl)) (by kernel_rfl) (by kernel_rfl)

set_option maxRecDepth 100000 in
theorem lifted (os : Os) (started : os.Started) (H : Type) (enc : TypeId × Value → H) :
    ReturnsInHanded {} Tryd.checked os 6 .any (fun w args => (Rows.cpuPartsSpec.pre enc Tryd.prog Tryd.f6 [] false w args ∧ laidMetH Tryd.prog Rows.cpuPartsRow.laid w) ∧ sizedMet enc Tryd.prog Tryd.f6 (OpenSpec.ofChange Rows.cpuPartsSpec) false w args) (Rows.cpuPartsSpec.post enc Tryd.prog Tryd.f6 false true false false) := by
  refine returnsInHanded_of_change_and (C := Tryd.checked) (X := fun w _ => laidMetH Tryd.prog Rows.cpuPartsRow.laid w) (fun _ _ _ hh h => h.of_heap hh) Tryd.own started (by kernel_rfl) Tryd.func6
    (ChangeSpec.witness_shaped (enc := enc) (C := Tryd.checked) (os := os) (X := fun w _ => laidMetH Tryd.prog Rows.cpuPartsRow.laid w) false (World.doorLaid Tryd.prog 400 os) #[.agg #[.int .u32 0, .int .u32 0, .int .u32 0, .int .u32 0, .int .u32 0, .int .u32 0, .int .u32 0, .int .u32 0, .int .u32 0, .slice none 0 0, .int .u32 0, .int .u32 0, .int .u32 0, .int .u32 0, .int .u32 0, .int .u32 0, .int .u32 0, .int .u32 0, .int .u32 0, .int .u32 0, .int .u32 0, .int .u32 0, .int .u32 0, .int .u32 0, .int .u32 0, .int .u32 0, .slice none 0 0], .int .u8 0, .int .u8 0] 8 rfl (World.shaped_of_RefB (by kernel_rfl) (by kernel_rfl)) (by kernel_rfl) (by kernel_rfl) (by kernel_rfl) (door_met os _)) ?_
  intro W base args ds gs before hval0 hW _ _ hL _
  have hval : ∀ (j : Nat) t v, Tryd.f6.params[j]? = some t → args[j]? = some v → Value.okWide Tryd.prog W .any base t v := hval0
  have hW' := hW
  obtain ⟨p, q, hA0, hV, rfl, hfz, hnd⟩ := hW
  have hA : DataW.TrodAll enc Tryd.prog W 0 (fun _ => true) true Tryd.f6.params.toList args.toList ds p := hA0
  rw [Tryd.params6] at hA hval
  obtain ⟨v0, vs0, d0, ds0, p0, q0, hargs, rfl, rfl, h0, r0⟩ := trodAll_cons hA
  obtain ⟨v1, vs1, d1, ds1, p1, q1, rfl, rfl, rfl, h1, r1⟩ := trodAll_cons r0
  obtain ⟨v2, vs2, d2, ds2, p2, q2, rfl, rfl, rfl, h2, r2⟩ := trodAll_cons r1
  obtain ⟨rfl, rfl, rfl⟩ := trodAll_nil r2
  obtain rfl : args = #[v0, v1, v2] := by cases args; simp_all
  clear hA0 hval0
  have hT0 := shapes_of_laid hL (by kernel_rfl) List.mem_cons_self
  obtain ⟨CA0, es0, ss0, rs0, Aw0, nw0, cw0, zw0, Ai0, ni0, ci0, inp0, rfl, K0⟩ := open_case Tryd.underlying31 (by kernel_rfl) rfl rfl rfl rfl rfl (by kernel_rfl) (by kernel_rfl) (by kernel_rfl) (by kernel_rfl) (by kernel_rfl) Tryd.underlying24 (by kernel_rfl) (by kernel_rfl) rfl Tryd.underlying26 (by kernel_rfl) (by kernel_rfl) rfl Tryd.underlying27 Tryd.underlying22 (by kernel_rfl) Tryd.underlying28 Tryd.underlying22 (by kernel_rfl) Tryd.underlying29 Tryd.underlying21 (by kernel_rfl) (hval 0 31 v0 rfl rfl) h0
  obtain ⟨a1, rfl, rfl, rfl, w1⟩ := open_int Tryd.underlying5 (hval 1 5 v1 rfl rfl) h1
  obtain ⟨a2, rfl, rfl, rfl, w2⟩ := open_int Tryd.underlying5 (hval 2 5 v2 rfl rfl) h2
  refine (walk W hT0 CA0 es0 ss0 rs0 Aw0 nw0 cw0 zw0 Ai0 ni0 ci0 inp0 K0 a1 w1 a2 w2).mono fun e W' ⟨he, hg⟩ => ?_
  subst he
  exact ⟨_, rfl, law_post Tryd.laidOut Tryd.mapsRowed Tryd.slicesFull (by kernel_rfl) rfl (by kernel_rfl) Tryd.underlying4 rfl hW' hg⟩

theorem over : Rows.cpuPartsRow.holds Tryd.pinned (OpenSpec.ofChange Rows.cpuPartsSpec) :=
  OpenClaim.holds_of_wide 6 Tryd.f6 rfl rfl rfl rfl rfl rfl rfl ⟨rfl, rfl, rfl, rfl, rfl⟩ rfl rfl rfl rfl rfl (by kernel_rfl) Tryd.func6 (by kernel_rfl)
    (of_decide_eq_true (by kernel_rfl)) (by unfold Func.isWrapper; first | (rw [if_pos (by decide +kernel)]; kernel_rfl) | (rw [if_neg (by decide +kernel)]; exact ⟨rfl, rfl⟩))
    (fun os started H enc _ => lifted os started H enc)

theorem proved : Rows.CpuPartsCardSaid :=
  Claim7.holds_tied_plain_at .later [] Rows.cpuPartsCard.laidKinds true Rows.cpuPartsCard.stood.harness false
    over (fun _ h => by cases h) (by kernel_rfl) (fun _ h => by cases h) cpuParts_row_tie rfl ⟨rfl, rfl⟩ (by kernel_rfl) rfl
    (fun f fn hf hfn => by
      obtain rfl : f = 6 := Option.some.inj ((show Tryd.prog.funcNamed Rows.cpuPartsRow.func = some 6 by kernel_rfl).symm.trans hf) |>.symm
      obtain rfl : fn = Tryd.f6 := (Option.some.inj (Tryd.func6.symm.trans hfn)).symm
      exact ⟨by kernel_rfl, fun j t ht => by
        have hm : t ∈ Tryd.f6.params.toList := by simpa using Array.mem_of_getElem? ht
        have hall : (Tryd.f6.params.toList.all fun u => !Tryd.prog.wantsStandIn u) = true := by kernel_rfl
        exact (show Tryd.prog.wantsStandIn t = false by simpa using List.all_eq_true.1 hall t hm)⟩)
    (by kernel_rfl)
end Go.Proofs.YtlmokkopaididaaDoor.lawCpuParts
