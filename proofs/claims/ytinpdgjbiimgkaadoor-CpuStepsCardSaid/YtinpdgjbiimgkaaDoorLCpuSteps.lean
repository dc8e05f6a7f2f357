/- CpuSteps: whatever words stand in memory and whatever is in the registers, each of sixty steps leaves the machine as the document's step does: registers, places, causes, states, numbers of steps and events; and behind them the memories hold the same words. Condition: the row's own: the package's table of shapes holds what its initialiser laid (tied to the program's text). -/
import Derived.Test.YtinpdgjbiimgkaaDoorRows
import Derived.Test.YtinpdgjbiimgkaaDoorLift
import Derived.Test.YtinpdgjbiimgkaaDoorCpuTS
import Derived.Test.YtinpdgjbiimgkaaDoorMemFT
import Derived.Test.YtinpdgjbiimgkaaDoorCpuVX
import Derived.Test.YtinpdgjbiimgkaaDoorTie
import Derived.Test.YtinpdgjbiimgkaaDoorCards
import Derived.SevenTiedAt
namespace Go.Proofs.YtinpdgjbiimgkaaDoor.lawCpuSteps
open Go.ChangeShapes Go.WideShapes Go.ChangeAt Go.RowKit
set_option linter.unusedVariables false
set_option maxHeartbeats 64000000 in
set_option maxRecDepth 100000 in
theorem walk (w : World) (hS : ShapesIn w) (CA : Array Value) (es ss rs : List Int) (Aw : Option Addr) (nw cw : Nat) (zw : List Int) (Ai : Option Addr) (ni ci : Nat) (inp : List Int) (K : CaseIn w CA es ss rs Aw nw cw zw Ai ni ci inp) :
    Calls Tryd.prog 3 #[.agg CA] w fun e w' => e = .returned (.bool true) ∧ Below w.heap.size w w' := by
  obtain ⟨e0, e1, e2, e3, e4, s0, s1, s2, s3, r, m, U⟩ := case_use K
  have HU := Lib.hid U
  have HS := Lib.hid hS
  have IN := Lib.hid K.inn
  have GL := Lib.hid (show 0 < w.heap.size from hS.lt)
  have B0 := Lib.hid ((Below.refl w.heap.size w).alloc (Nat.le_refl _) (.cells CA 31))
  have K0 := Lib.hid (Whole.made w 31 CA _ rfl)
  clear U K hS
  go_enter Tryd.func3, Tryd.ntmps3
  go_wp2_with fail
  refine (awake4_any _ (HS.out.below B0.out (Nat.le_refl _))).mono ?_
  rintro e w1 ⟨rfl, hb1⟩
  have K1 := Lib.hid (K0.out.below hb1 K0.out.lt)
  have B1 := Lib.hid (B0.out.trans (hb1.mono B0.out.size))
  clear hb1 K0 B0
  go_wp2_with (refine wpList_load_row rfl 31 (.tmp 1) rfl w.heap.size rfl 31 CA (0, 0) _ K1.out Tryd.underlying31 rfl (infoCase HU.out.size) ?_)
  refine (HU.out.few _).mono ?_
  rintro e w2 ⟨b, rfl, hf, hb2⟩
  have K2 := Lib.hid (K1.out.below hb2 K1.out.lt)
  have B2 := Lib.hid (B1.out.trans (hb2.mono B1.out.size))
  have HF := Lib.hid hf
  clear hb2 hf K1 B1
  cases b with
  | false =>
    go_wp2_with fail
    go_ret
    exact ⟨rfl, B2.out⟩
  | true =>
    have FW := Lib.hid (HF.out rfl)
    clear HF
    have FS := Lib.hid HU.out.fine
    have WL := Lib.hid HU.out.fine.wl
    have ML := Lib.hid (HU.out.m4 FW.out)
    go_wp2_with (refine wpList_load_row rfl 31 (.tmp 1) rfl w.heap.size rfl 31 CA (0, 0) _ K2.out Tryd.underlying31 rfl (infoCase HU.out.size) ?_)
    refine (HU.out.begun _ B2.out FW.out).mono ?_
    rintro e w3 ⟨p, q, h, h2, A', cap', rfl, hM, hA, hW2, n1, n2, n3, hb3⟩
    have K3 := Lib.hid (K2.out.below hb3 K2.out.lt)
    have B3 := Lib.hid (B2.out.trans (hb3.mono B2.out.size))
    have HA3 := Lib.hid hA
    have T5 := Lib.hid (show w.heap.size ≤ w3.heap.size from B3.out.size)
    have SZ38 := Lib.hid (cpuCells_size (c := begC s0 s1 s2 s3 r) hM.cpu.len (.slice none 0 0) (.slice Ai ni ci))
    have ONE38 := Lib.hid (cpu_one (begC s0 s1 s2 s3 r) (o := .slice none 0 0) (i := .slice Ai ni ci) rfl rfl)
    have SZ41 := Lib.hid (show (memCells e0 e1 e2 e3 e4 h2 m).size = 6 from rfl)
    have ONE41 := Lib.hid (one_mem2 e0 e1 e2 e3 e4 h2 m)
    have X3 := Lib.hid (show Apart w3 (w3.heap.size :: (w3.heap.size + 1) :: p :: h :: ownList (.slice none 0 0)) none h2 ⟨begC s0 s1 s2 s3 r, [], caseWs m nw zw⟩ from ⟨⟨rfl, fun h0 => absurd h0 (Nat.lt_irrefl 0)⟩, hW2, by have := hW2.lt; simp [ownList, Value.ownBlock, n1, n2]; omega, fun h0 => absurd h0 (Nat.lt_irrefl 0)⟩)
    have M3 := Lib.hid hM
    clear hb3 hM hA hW2 K2 n1 n2 n3
    generalize hC38 : cpuCells (begC s0 s1 s2 s3 r) (.slice none 0 0) (.slice Ai ni ci) = C38 at *
    generalize hMC2 : memCells e0 e1 e2 e3 e4 h2 m = MC2 at *
    have HC38 := Lib.hid hC38
    have HMC2 := Lib.hid hMC2
    clear hC38 hMC2
    have TN := Lib.hid (two_new w3 C38 MC2)
    go_wp2_with (first
      | (refine wpList_store_row rfl 38 (.tmp 5) (.tmp 20) rfl w3.heap.size C38 rfl rfl 38 zeros38 TN.out.a (infoCpu SZ38.out) (by rw [SZ38.out]; rfl) ONE38.out ?_)
      | (refine wpList_store_row rfl 41 (.tmp 6) (.tmp 21) rfl (w3.heap.size + 1) MC2 rfl rfl 41 zeros41 TN.out.b (infoMem SZ41.out) (by rw [SZ41.out]; rfl) ONE41.out ?_))
    have M4 := Lib.hid (M3.out.below TN.out.bel)
    have X4 := Lib.hid (X3.out.below TN.out.bel)
    have K4 := Lib.hid (K3.out.below TN.out.bel K3.out.lt)
    have B4 := Lib.hid (B3.out.trans (TN.out.bel.mono B3.out.size))
    have C4 := Lib.hid TN.out.c
    have D4 := Lib.hid TN.out.d
    have S4 := Lib.hid (show w3.heap.size ≤ _ from TN.out.bel.size)
    clear TN K3 B3 X3 M3
    unfold zeros38 zeros41 at M4 X4 K4 B4 S4 C4 D4
    generalize ((((w3.alloc (.cells #[.int .u32 0, .int .u32 0, .int .u32 0, .int .u32 0, .int .u32 0, .int .u32 0, .int .u32 0, .int .u32 0, .int .u32 0, .int .u32 0, .int .u32 0, .int .u32 0, .int .u32 0, .int .u32 0, .int .u32 0, .int .u32 0, .int .u32 0, .int .u32 0, .int .u32 0, .int .i64 0, .int .i64 0, .int .i64 0, .int .i64 0, .slice none 0 0, .int .u32 0, .int .u32 0, .int .u32 0, .int .u32 0, .slice none 0 0] 38)).alloc (.cells #[.int .u32 0, .int .u32 0, .int .u32 0, .int .u32 0, .int .u32 0, .slice none 0 0] 41)).setRow w3.heap.size C38).setRow (w3.heap.size + 1) MC2) = Y at *
    have q5 : Y.cell? ⟨w.heap.size, 5, none⟩ = some (.int .u32 s0) := (K4.out.cell 5).trans HU.out.c5
    have q6 : Y.cell? ⟨w.heap.size, 6, none⟩ = some (.int .u32 s1) := (K4.out.cell 6).trans HU.out.c6
    have q7 : Y.cell? ⟨w.heap.size, 7, none⟩ = some (.int .u32 s2) := (K4.out.cell 7).trans HU.out.c7
    have q8 : Y.cell? ⟨w.heap.size, 8, none⟩ = some (.int .u32 s3) := (K4.out.cell 8).trans HU.out.c8
    have SS : Y.cell? ⟨w.heap.size, 5, none⟩ = some (.int .u32 s0) ∧ Y.cell? ⟨w.heap.size, 6, none⟩ = some (.int .u32 s1) ∧ Y.cell? ⟨w.heap.size, 7, none⟩ = some (.int .u32 s2) ∧ Y.cell? ⟨w.heap.size, 8, none⟩ = some (.int .u32 s3) ∧ Below Y.heap.size Y Y ∧ w.heap.size < Y.heap.size := ⟨q5, q6, q7, q8, Below.refl _ _, K4.out.lt⟩
    have ST := Lib.hid (fun y (hy : y.cell? ⟨w.heap.size, 5, none⟩ = some (.int .u32 s0) ∧ y.cell? ⟨w.heap.size, 6, none⟩ = some (.int .u32 s1) ∧ y.cell? ⟨w.heap.size, 7, none⟩ = some (.int .u32 s2) ∧ y.cell? ⟨w.heap.size, 8, none⟩ = some (.int .u32 s3) ∧ Below Y.heap.size Y y ∧ w.heap.size < Y.heap.size) => csetup_any p (begC s0 s1 s2 s3 r) _ _ y ((M4.out.below hy.2.2.2.2.1).cpu))
    rw [show (begC s0 s1 s2 s3 r).en = s0 from rfl, show (begC s0 s1 s2 s3 r).ve = s1 from rfl, show (begC s0 s1 s2 s3 r).gu = s2 from rfl, show (begC s0 s1 s2 s3 r).li = s3 from rfl] at ST
    clear K4 q5 q6 q7 q8
    go_wp2_with fail
    go_region_held3 (fun y => y.cell? ⟨w.heap.size, 5, none⟩ = some (.int .u32 s0) ∧ y.cell? ⟨w.heap.size, 6, none⟩ = some (.int .u32 s1) ∧ y.cell? ⟨w.heap.size, 7, none⟩ = some (.int .u32 s2) ∧ y.cell? ⟨w.heap.size, 8, none⟩ = some (.int .u32 s3) ∧ Below Y.heap.size Y y ∧ w.heap.size < Y.heap.size)
      (first
        | assumption
        | exact keep4 (by assumption) (Below.refl _ _).drew
        | exact keep4 (by assumption) hbm)
      (first | (go_at_call 8; refine (ST.out _ (by assumption)).mono ?_; rintro e w' ⟨rfl, hbm⟩))
    obtain ⟨-, -, -, -, hbl, -⟩ := (show _ ∧ _ ∧ _ ∧ _ ∧ Below Y.heap.size Y w' ∧ _ from by assumption)
    have W5 : Whole w' w3.heap.size 38 (cpuCells (begC s0 s1 s2 s3 r) (.slice none 0 0) (.slice Ai ni ci)) := by
      rw [HC38.out]
      exact C4.out.below hbl C4.out.lt
    have W6 : Whole w' (w3.heap.size + 1) 41 (memCells e0 e1 e2 e3 e4 h2 m) := by
      rw [HMC2.out]
      exact D4.out.below hbl D4.out.lt
    have SD := Lib.hid (show Side w2.heap.size p q h m ni cap' ci e0 e1 e2 e3 e4 A' Ai inp w3.heap.size (w3.heap.size + 1) 0 w' from
      ⟨⟨begC s0 s1 s2 s3 r, [], caseWs m nw zw⟩, .slice none 0 0, none, 0, h2, M4.out.below hbl, X4.out.below hbl, W5, W6, FS.out, Int.le_refl _, Int.le_refl _, Nat.le_refl _⟩)
    have HA5 := Lib.hid (show ∀ b off, A' = some ⟨b, off, none⟩ → b < w3.heap.size from fun b off hAb => (HA3.out b off hAb).2)
    have B5 := Lib.hid (B4.out.trans (hbl.mono B4.out.size))
    have IW := Lib.hid HU.out.iw
    have IL := Lib.hid (show ni ≤ 100 from FW.out.2.2.2)
    have ES := Lib.hid (ends_sum FW.out.1)
    have GB := Lib.hid (Nat.lt_of_lt_of_le GL.out B2.out.size)
    have NB2 := Lib.hid B2.out.size
    generalize ht5 : w3.heap.size = t5 at *
    clear W5 W6 hbl SS hbm ST M4 X4 B4 C4 D4 S4 HC38 HMC2 FW GL B2 HA3
    repeat (rename _ ∧ _ ∧ _ ∧ _ ∧ Below _ _ _ ∧ _ => hx; clear hx)
    go_wp2_with fail
    go_loopw [7] (fun i wr => ∃ t : Nat, t ≤ 60 ∧ i = .int .i64 t ∧ Side w2.heap.size p q h m ni cap' ci e0 e1 e2 e3 e4 A' Ai inp t5 (t5 + 1) t wr ∧ Below w.heap.size w wr) (fun i _ => 60 - (intOf i).toNat)
    case atStart => exact ⟨0, by omega, rfl, SD.out, B5.out⟩
    case round =>
      clear SD B5
      obtain ⟨t, ht, rfl, ⟨s, v, A2, k2, h3, hM, hX, hC, hD, hF, hs0, hs1, hso⟩, hB⟩ := hrel
      have MM := Lib.hid hM
      have XX := Lib.hid hX
      have HB := Lib.hid hB
      have SZ9 := Lib.hid (fun h => show (memCells e0 e1 e2 e3 e4 h m).size = 6 from rfl)
      have ONE9 := Lib.hid (fun h => one_mem2 e0 e1 e2 e3 e4 h m)
      have SZ5 := Lib.hid (cpuCells_size hF.len (.slice A2 s.out.length k2) (.slice Ai ni ci))
      have SM5 := Lib.hid (SZ9.out h3)
      have LT5 := Lib.hid (And.intro hC.lt hD.lt)
      by_cases hlt : t < 60
      · have dlt : decide ((t : Int) < 60) = true := decide_eq_true (by omega)
        have RS := Lib.hid (refstep_any h3 m ni k2 ci e0 e1 e2 e3 e4 A2 Ai inp s wr hF hX.ev (IN.out.below hB) hX.wd (by have := ML.out.2; omega) ML.out.1 (by have := ES.out; omega) (by have := IL.out; omega) (by omega) hs0 (by omega))
        have CS := Lib.hid (fun y M hi hS => cstep_any w2.heap.size p q h m e0 e1 e2 e3 e4 v A' ni cap' inp s y M hF hS GB.out hi ML.out.1 (by have := ES.out; omega) (by have := IL.out; omega) (by omega) IW.out hs0 (by omega))
        have NX := Lib.hid (fun w' e (hp : StepEnd m ni ci e0 e1 e2 e3 e4 A2 h3 s.out.length Ai (stepS e0 e1 e4 inp s) wr e w') => Apart.next (fun k hk => by
          rcases List.mem_cons.1 hk with rfl | hk
          · exact LT5.out.1
          · rcases List.mem_cons.1 hk with rfl | hk
            · exact LT5.out.2
            · exact own_lt MM.out k hk) hX hp)
        have F1 := Lib.hid (fine_step (e0 := e0) (e1 := e1) (e4 := e4) hF)
        have N1 := Lib.hid (show 0 ≤ (stepS e0 e1 e4 inp s).c.steps ∧ (stepS e0 e1 e4 inp s).c.steps ≤ ((t + 1 : Nat) : Int) ∧ (stepS e0 e1 e4 inp s).out.length ≤ t + 1 from by
          obtain ⟨a1, a2, a3⟩ := steps_step e0 e1 e4 inp s
          exact ⟨by omega, by omega, by omega⟩)
        have C5 := Lib.hid hC
        have D5 := Lib.hid hD
        clear hM hX hF hB hs0 hs1 hso hC hD
        generalize stepS e0 e1 e4 inp s = s1 at *
        generalize cpuCells s.c (.slice A2 s.out.length k2) (.slice Ai ni ci) = CV5 at *
        generalize memCells e0 e1 e2 e3 e4 h3 m = MV5 at *
        go_wp2_with (first
          | (refine wpList_load_row rfl 38 (.tmp 5) rfl t5 rfl 38 CV5 (0, 0) _ C5.out Tryd.underlying38 rfl (infoCpu SZ5.out) ?_)
          | (refine wpList_load_row rfl 41 (.tmp 6) rfl (t5 + 1) rfl 41 MV5 (0, 0) _ D5.out Tryd.underlying41 rfl (infoMem SM5.out) ?_))
        refine RS.out.mono ?_
        rintro e W1 hp
        obtain ⟨A3, k3, h4, rfl, hX1, hb1⟩ := NX.out _ _ hp
        have M1 := Lib.hid (MM.out.below hb1)
        have X1 := Lib.hid hX1
        have C51 := Lib.hid (C5.out.below hb1 C5.out.lt)
        have D51 := Lib.hid (D5.out.below hb1 D5.out.lt)
        have B1 := Lib.hid (HB.out.trans (hb1.mono HB.out.size))
        have SZ8 := Lib.hid (cpuCells_size F1.out.len (.slice A3 s1.out.length k3) (.slice Ai ni ci))
        have ONE8 := Lib.hid (cpu_one s1.c (o := .slice A3 s1.out.length k3) (i := .slice Ai ni ci) rfl rfl)
        have ST8 := Lib.hid (cpuCells_st F1.out.len (.slice A3 s1.out.length k3) (.slice Ai ni ci))
        have SM9 := Lib.hid (SZ9.out h4)
        have OM9 := Lib.hid (ONE9.out h4)
        clear hp hX1 hb1 RS NX MM XX C5 D5 HB SZ9 ONE9
        generalize hC8 : cpuCells s1.c (.slice A3 s1.out.length k3) (.slice Ai ni ci) = C8 at *
        generalize hM9 : memCells e0 e1 e2 e3 e4 h4 m = M9 at *
        have HC8 := Lib.hid hC8
        have HM9 := Lib.hid hM9
        clear hC8 hM9
        have TN := Lib.hid (two_new W1 C8 M9)
        go_wp2_with (first
          | (refine wpList_store_row rfl 38 (.tmp 8) (.tmp 39) rfl W1.heap.size C8 rfl rfl 38 zeros38 TN.out.a (infoCpu SZ8.out) (by rw [SZ8.out]; rfl) ONE8.out ?_)
          | (refine wpList_store_row rfl 41 (.tmp 9) (.tmp 40) rfl (W1.heap.size + 1) M9 rfl rfl 41 zeros41 TN.out.b (infoMem SM9.out) (by rw [SM9.out]; rfl) OM9.out ?_))
        have M2 := Lib.hid (M1.out.below TN.out.bel)
        have X2 := Lib.hid (X1.out.below TN.out.bel)
        have C52 := Lib.hid (C51.out.below TN.out.bel C51.out.lt)
        have D52 := Lib.hid (D51.out.below TN.out.bel D51.out.lt)
        have B2 := Lib.hid (B1.out.trans (TN.out.bel.mono B1.out.size))
        have C82 := Lib.hid TN.out.c
        have D92 := Lib.hid TN.out.d
        have L8 := Lib.hid (show t5 < W1.heap.size ∧ t5 + 1 < W1.heap.size from ⟨C51.out.lt, D51.out.lt⟩)
        clear TN M1 X1 C51 D51 B1
        unfold zeros38 zeros41 at M2 X2 C52 D52 B2 C82 D92
        generalize hW2 : ((((W1.alloc (.cells #[.int .u32 0, .int .u32 0, .int .u32 0, .int .u32 0, .int .u32 0, .int .u32 0, .int .u32 0, .int .u32 0, .int .u32 0, .int .u32 0, .int .u32 0, .int .u32 0, .int .u32 0, .int .u32 0, .int .u32 0, .int .u32 0, .int .u32 0, .int .u32 0, .int .u32 0, .int .i64 0, .int .i64 0, .int .i64 0, .int .i64 0, .slice none 0 0, .int .u32 0, .int .u32 0, .int .u32 0, .int .u32 0, .slice none 0 0] 38)).alloc (.cells #[.int .u32 0, .int .u32 0, .int .u32 0, .int .u32 0, .int .u32 0, .slice none 0 0] 41)).setRow W1.heap.size C8).setRow (W1.heap.size + 1) M9) = W2 at *
        clear hW2
        generalize W1.heap.size = t8 at *
        refine held_start 12 rfl (S := fun y => Whole y t8 38 C8) (by kernel_rfl) C82.out.drew' (fun hS => ?_)
        refine wpAnyH_take (i := 0) (v := .pointer (some ⟨p, 0, none⟩)) get0 ?_ ?_ ?_ ?_ ?_ hS ?_
        · kernel_rfl
        · kernel_rfl
        · kernel_rfl
        · exact fun _ _ _ h => h
        · exact take_move_g (.tmp 3) _ (wanted_open rfl) rfl rfl
        refine wpAnyH_take (i := 1) (v := .pointer (some ⟨q, 0, none⟩)) get1 ?_ ?_ ?_ ?_ ?_ hS ?_
        · kernel_rfl
        · kernel_rfl
        · kernel_rfl
        · exact fun _ _ _ h => h
        · exact take_move_g (.tmp 4) _ (wanted_open rfl) rfl (eval_ne (by decide) rfl)
        refine wpAnyH_take (i := 3) (v := .pointer (some ⟨t8, 19, none⟩)) get3 ?_ ?_ ?_ ?_ ?_ hS ?_
        · kernel_rfl
        · kernel_rfl
        · kernel_rfl
        · exact fun _ _ _ h => h
        · exact take_field 38 (.tmp 8) 4 t8 19 (wanted_open rfl) rfl (eval_ne (by decide) (eval_ne (by decide) rfl)) (fun w => by simp [go_sem])
        refine wpAnyH_take (i := 4) (v := .int .i64 s1.c.st) get4 ?_ ?_ ?_ ?_ ?_ hS ?_
        · kernel_rfl
        · kernel_rfl
        · kernel_rfl
        · exact fun _ _ _ h => h
        · exact take_cell 3 (.tmp 44) t8 19 .i64 s1.c.st (wanted_open rfl) rfl Tryd.underlying3 (eval_at (n := 58) (size_put (size_put rfl)) (by decide)) (fun _ h => (h.cell 19).trans ST8.out)
        have MD := Lib.hid (M2.out.below (Below.refl _ W2).drew)
        have XD := Lib.hid (X2.out.below (Below.refl _ W2).drew)
        have BD := Lib.hid (B2.out.drew)
        have C5D := Lib.hid C52.out.drew'
        have D5D := Lib.hid D52.out.drew'
        have C8D := Lib.hid C82.out.drew'
        have D9D := Lib.hid D92.out.drew'
        have XS := Lib.hid (CS.out W2.drew MD.out (fun b off hAb => Nat.lt_trans (HA5.out b off hAb) C5D.out.lt) (HS.out.below BD.out (Nat.le_refl _)))
        clear M2 X2 B2 C52 D52 C82 D92 CS
        generalize W2.drew = W3 at *
        refine held_step get2 (by kernel_rfl) (fun K hK => ?_)
        refine step_call2_g Tryd.func10 rfl rfl (wanted_open rfl) rfl (.pointer (some ⟨p, 0, none⟩)) (.pointer (some ⟨q, 0, none⟩)) (eval_ne (by decide) (eval_ne (by decide) (eval_ne (by decide) (eval_at (n := 58) rfl (by decide))))) (eval_ne (by decide) (eval_ne (by decide) (eval_at (n := 58) (size_put rfl) (by decide)))) XS.out ?_
        rintro e w4 ⟨rfl, v', hM4, hn4, hb4⟩
        refine ⟨_, rfl, ?_⟩
        have NE8 := Lib.hid (own_ne MD.out C8D.out (by decide) (by decide) (by decide))
        have NE9 := Lib.hid (own_ne MD.out D9D.out (by decide) (by decide) (by decide))
        have NE5 := Lib.hid (own_ne MD.out C5D.out (by decide) (by decide) (by decide))
        have NE6 := Lib.hid (own_ne MD.out D5D.out (by decide) (by decide) (by decide))
        have GE4 := Lib.hid (MD.out.own_ge)
        have M4 := Lib.hid hM4
        have X4 := Lib.hid (XD.out.step hb4 hn4)
        have C54 := Lib.hid (hb4.whole C5D.out NE5.out)
        have D54 := Lib.hid (hb4.whole D5D.out NE6.out)
        have C84 := Lib.hid (hb4.whole C8D.out NE8.out)
        have D94 := Lib.hid (hb4.whole D9D.out NE9.out)
        have B4 := Lib.hid (BD.out.trans (hb4.below (B := w.heap.size) (fun b hb => Nat.le_trans NB2.out (GE4.out b hb)) BD.out.size))
        clear hM4 hn4 hb4 XS MD XD BD C5D D5D C8D D9D NE8 NE9 NE5 NE6 GE4
        obtain ⟨AO, cO, rfl, EO⟩ := M4.out.outs.form
        have SC := Lib.hid (same4_any p s1.c s1.out AO A3 A' Ai cO k3 ni cap' ni ci w4 M4.out.cpu EO X4.out.ev (by have := N1.out.2.2; omega))
        rw [HC8.out] at SC
        refine hK.out _ _ C84.out (fun hS => ?_)
        clear hK K EO
        refine wpAnyH_take (i := 5) (v := .bool false) get5 ?_ ?_ ?_ ?_ ?_ hS ?_
        · kernel_rfl
        · kernel_rfl
        · kernel_rfl
        · exact fun _ _ _ h => h
        · exact take_neq 3 3 (.tmp 43) (.tmp 45) .i64 s1.c.st (wanted_open rfl) rfl Tryd.underlying3 (eval_at (n := 58) (size_put (size_put (size_put (size_put rfl)))) (by decide)) (eval_ne (by decide) (eval_at (n := 58) (size_put (size_put (size_put rfl))) (by decide)))
        refine wpAnyH_take (i := 6) (v := .bool false) get6 ?_ ?_ ?_ ?_ ?_ hS ?_
        · kernel_rfl
        · kernel_rfl
        · kernel_rfl
        · exact fun _ _ _ h => h
        · exact take_move_g (.tmp 46) _ (wanted_open rfl) rfl (eval_at (n := 58) (size_put (size_put (size_put (size_put (size_put rfl))))) (by decide))
        refine wpAnyH_take (i := 7) (v := .pointer (some ⟨p, 0, none⟩)) nth7 ?_ ?_ ?_ ?_ ?_ hS ?_
        · kernel_rfl
        · kernel_rfl
        · kernel_rfl
        · exact fun _ _ _ h => h
        · exact take_move_g (.tmp 3) _ (wanted_by (j := 6) (d := 47) rfl get6 rfl (eval_at (n := 58) (size_put (size_put (size_put (size_put (size_put (size_put rfl)))))) (by decide))) rfl (eval_ne (by decide) (eval_ne (by decide) (eval_ne (by decide) (eval_ne (by decide) (eval_ne (by decide) (eval_ne (by decide) (eval_ne (by decide) rfl)))))))
        refine wpAnyH_take (i := 8) (v := .agg C8) nth8 ?_ ?_ ?_ ?_ ?_ hS ?_
        · kernel_rfl
        · kernel_rfl
        · kernel_rfl
        · exact fun _ _ _ h => h
        · exact take_load_g 38 (.tmp 8) (wanted_by (j := 6) (d := 47) rfl get6 rfl (eval_ne (by decide) (eval_at (n := 58) (size_put (size_put (size_put (size_put (size_put (size_put rfl)))))) (by decide)))) rfl t8 (eval_ne (by decide) (eval_ne (by decide) (eval_ne (by decide) (eval_ne (by decide) (eval_ne (by decide) (eval_ne (by decide) (eval_ne (by decide) (eval_ne (by decide) rfl)))))))) 38 C8 (fun _ h => h) _ Tryd.underlying38 rfl (infoCpu SZ8.out)
        refine held_step nth9 (by kernel_rfl) (fun K hK => ?_)
        refine step_call2_g Tryd.func11 rfl rfl (wanted_by (j := 6) (d := 47) rfl get6 rfl (eval_ne (by decide) (eval_ne (by decide) (eval_at (n := 58) (size_put (size_put (size_put (size_put (size_put (size_put rfl)))))) (by decide))))) rfl (.pointer (some ⟨p, 0, none⟩)) (.agg C8) (eval_ne (by decide) (eval_at (n := 58) (size_put (size_put (size_put (size_put (size_put (size_put (size_put rfl))))))) (by decide))) (eval_at (n := 58) (size_put (size_put (size_put (size_put (size_put (size_put (size_put (size_put rfl)))))))) (by decide)) SC.out ?_
        rintro e w5 ⟨rfl, hb5⟩
        refine ⟨_, rfl, ?_⟩
        have M5 := Lib.hid (M4.out.below hb5)
        have X5 := Lib.hid (X4.out.below hb5)
        have C55 := Lib.hid (C54.out.below hb5 C54.out.lt)
        have D55 := Lib.hid (D54.out.below hb5 D54.out.lt)
        have C85 := Lib.hid (C84.out.below hb5 C84.out.lt)
        have D95 := Lib.hid (D94.out.below hb5 D94.out.lt)
        have B5 := Lib.hid (B4.out.trans (hb5.mono B4.out.size))
        clear hb5 SC M4 X4 C54 D54 C84 D94 B4
        refine hK.out _ _ C85.out (fun hS => ?_)
        clear hK K
        refine wpAnyH_take (i := 10) (v := .bool false) nth10 ?_ ?_ ?_ ?_ ?_ hS ?_
        · kernel_rfl
        · kernel_rfl
        · kernel_rfl
        · exact fun _ _ _ h => h
        · exact take_not 4 (.tmp 50) true (wanted_by (j := 6) (d := 47) rfl get6 rfl (eval_ne (by decide) (eval_ne (by decide) (eval_ne (by decide) (eval_at (n := 58) (size_put (size_put (size_put (size_put (size_put (size_put rfl)))))) (by decide)))))) rfl (eval_at (n := 58) (size_put (size_put (size_put (size_put (size_put (size_put (size_put (size_put (size_put rfl))))))))) (by decide))
        refine wpAnyH_take (i := 11) (v := .bool false) nth11 ?_ ?_ ?_ ?_ ?_ hS ?_
        · kernel_rfl
        · kernel_rfl
        · kernel_rfl
        · exact fun _ _ _ h => h
        · exact take_pick (.tmp 47) (.const (.bool true)) (.tmp 51) false (.bool true) (.bool false) (wanted_open rfl) rfl (eval_ne (by decide) (eval_ne (by decide) (eval_ne (by decide) (eval_ne (by decide) (eval_at (n := 58) (size_put (size_put (size_put (size_put (size_put (size_put rfl)))))) (by decide)))))) rfl (eval_at (n := 58) (size_put (size_put (size_put (size_put (size_put (size_put (size_put (size_put (size_put (size_put rfl)))))))))) (by decide))
        refine wpAnyH_done (by kernel_rfl) ?_ _
        clear hS
        simp only [Act.put, List.setIfInBounds_toArray, List.set_cons_succ, List.set_cons_zero]
        go_wp2_with fail
        refine held_start 4 rfl (S := fun y => Whole y t8 38 C8 ∧ Whole y (t8 + 1) 41 M9) (by kernel_rfl) ⟨C85.out.drew', D95.out.drew'⟩ (fun hS => ?_)
        refine wpAnyH_take (i := 0) (v := .agg C8) get0 ?_ ?_ ?_ ?_ ?_ hS ?_
        · kernel_rfl
        · kernel_rfl
        · kernel_rfl
        · exact fun _ _ _ h => h
        · exact take_load_g 38 (.tmp 8) (wanted_open rfl) rfl t8 rfl 38 C8 (fun _ h => h.1) _ Tryd.underlying38 rfl (infoCpu SZ8.out)
        refine wpAnyH_take (i := 1) (v := .agg M9) get1 ?_ ?_ ?_ ?_ ?_ hS ?_
        · kernel_rfl
        · kernel_rfl
        · kernel_rfl
        · exact fun _ _ _ h => h
        · exact take_load_g 41 (.tmp 9) (wanted_open rfl) rfl (t8 + 1) (eval_ne (by decide) rfl) 41 M9 (fun _ h => h.2) _ Tryd.underlying41 rfl (infoMem SM9.out)
        refine held_step get2 (by kernel_rfl) (fun K hK => ?_)
        refine step_store 38 (.tmp 5) (.tmp 53) rfl rfl t5 C8 (eval_ne (by decide) (eval_ne (by decide) rfl)) (eval_ne (by decide) (eval_at (n := 58) rfl (by decide))) 38 CV5 C55.out.drew' (infoCpu SZ8.out) (by rw [SZ8.out, SZ5.out]) ONE8.out ?_
        refine hK.out _ _ ⟨hS.1.only (by have := L8.out; omega) (Only.setRow _ t5 C8), hS.2.only (by have := L8.out; omega) (Only.setRow _ t5 C8)⟩ (fun hS2 => ?_)
        clear hK K
        refine held_step get3 (by kernel_rfl) (fun K hK => ?_)
        refine step_store 41 (.tmp 6) (.tmp 54) rfl rfl (t5 + 1) M9 (eval_none (eval_ne (by decide) (eval_ne (by decide) rfl))) (eval_none (eval_at (n := 58) (size_put rfl) (by decide))) 41 MV5 (D55.out.drew'.only (by omega) (Only.setRow _ t5 C8)) (infoMem SM9.out) (by rw [SM9.out, SM5.out]) OM9.out ?_
        refine hK.out _ _ ⟨hS2.1.only (by have := L8.out; omega) (Only.setRow _ (t5 + 1) M9), hS2.2.only (by have := L8.out; omega) (Only.setRow _ (t5 + 1) M9)⟩ (fun hS3 => ?_)
        clear hK K
        refine wpAnyH_done (by kernel_rfl) ?_ _
        clear hS hS2 hS3
        simp only [Act.put, List.setIfInBounds_toArray, List.set_cons_succ, List.set_cons_zero]
        have BB := Lib.hid (((But.refl [t5, t5 + 1] w5).drew).trans (((But.of_only (Only.setRow w5.drew t5 C8)).mono (fun k hk => by simp at hk; simp [hk])).trans ((But.of_only (Only.setRow (w5.drew.setRow t5 C8) (t5 + 1) M9)).mono (fun k hk => by simp at hk; simp [hk]))))
        have NE5 := own_ne M5.out C55.out (by decide) (by decide) (by decide)
        have NE6 := own_ne M5.out D55.out (by decide) (by decide) (by decide)
        have nq5 := whole_ne M5.out.mem C55.out (by decide)
        have nq6 := whole_ne M5.out.mem D55.out (by decide)
        simp only [List.mem_cons, mem_own, not_or] at NE5 NE6
        have X5n := X5.out.hn
        simp only [List.mem_cons, not_or] at X5n
        have M6 := Lib.hid (M5.out.other BB.out (by simp; omega) (by simp; omega) (by simp; omega) (fun b hb hm => by
          simp at hm
          rcases hm with rfl | rfl
          · exact NE5.2.2 hb
          · exact NE6.2.2 hb) (fun b off hAb hm => by
          have := HA5.out b off hAb
          simp at hm
          omega))
        have X6 := Lib.hid (X5.out.but BB.out (by simp; omega) (fun h0 b off hAb hm => by
          have := (X5.out.ea h0 b off hAb).2
          simp at this hm
          omega))
        have C6 := Lib.hid ((C55.out.drew'.setRow C8).only (show t5 ≠ t5 + 1 by omega) (Only.setRow (w5.drew.setRow t5 C8) (t5 + 1) M9))
        have D6 := Lib.hid ((D55.out.drew'.only (show t5 + 1 ≠ t5 by omega) (Only.setRow w5.drew t5 C8)).setRow M9)
        have B6 := Lib.hid (B5.out.trans (BB.out.below (B := w.heap.size) (fun b hb => by
          have := T5.out
          simp at hb
          omega) B5.out.size))
        clear NE5 NE6 nq5 nq6 X5n M5 X5 C55 D55 C85 D95 B5 BB
        generalize hW6 : ((w5.drew.setRow t5 C8).setRow (t5 + 1) M9) = W6 at *
        clear hW6
        rw [← HC8.out] at C6
        rw [← HM9.out] at D6
        go_wp2_with fail
        go_roundw
        case rel => exact ⟨t + 1, by omega, by go_num, ⟨s1, .slice AO s1.out.length cO, A3, k3, h4, M6.out, X6.out, C6.out, D6.out, F1.out, N1.out.1, N1.out.2.1, N1.out.2.2⟩, B6.out⟩
        case measure => simp [intOf]; omega
      · have dlt : decide ((t : Int) < 60) = false := decide_eq_false (by omega)
        have D5 := Lib.hid hD
        have SA := Lib.hid (same_any3 q h h3 m e0 e1 e2 e3 e4 s.ws wr hM.mem hM.wds hX.wd hF.wl (by have := ML.out.2; omega) ML.out.1 hF.wu)
        clear hM hX hF hB hs0 hs1 hso hC hD
        generalize memCells e0 e1 e2 e3 e4 h3 m = MV5 at *
        go_wp2_with (refine wpList_load_row rfl 41 (.tmp 6) rfl (t5 + 1) rfl 41 MV5 (0, 0) _ D5.out Tryd.underlying41 rfl (infoMem SM5.out) ?_)
        refine SA.out.mono ?_
        rintro e w5 ⟨rfl, hb5⟩
        go_wp2_with fail
        go_ret
        exact ⟨rfl, HB.out.trans (hb5.mono HB.out.size)⟩

set_option maxRecDepth 100000 in
theorem door_met (os : Os) (args : Array Value) : laidMetH Tryd.prog Rows.cpuStepsRow.laid ((World.doorLaid Tryd.prog 400 os).forCall (fun _ _ => 0) ⟨#[], args, []⟩).memory :=
  laidMetH_of_parts3 (fuel := 8) (laidMet_of_run' 8 (by kernel_rfl) (by kernel_rfl)) (by kernel_rfl) (by kernel_rfl)

set_option maxRecDepth 100000 in
theorem lifted (os : Os) (started : os.Started) (H : Type) (enc : TypeId × Value → H) :
    ReturnsInHanded {} Tryd.checked os 3 .any (fun w args => (Rows.cpuStepsSpec.pre enc Tryd.prog Tryd.f3 [] false w args ∧ laidMetH Tryd.prog Rows.cpuStepsRow.laid w) ∧ sizedMet enc Tryd.prog Tryd.f3 (OpenSpec.ofChange Rows.cpuStepsSpec) false w args) (Rows.cpuStepsSpec.post enc Tryd.prog Tryd.f3 false true false false) := by
  refine returnsInHanded_of_change_and (C := Tryd.checked) (X := fun w _ => laidMetH Tryd.prog Rows.cpuStepsRow.laid w) (fun _ _ _ hh h => h.of_heap hh) Tryd.own started (by kernel_rfl) Tryd.func3
    (ChangeSpec.witness_shaped (enc := enc) (C := Tryd.checked) (os := os) (X := fun w _ => laidMetH Tryd.prog Rows.cpuStepsRow.laid w) false (World.doorLaid Tryd.prog 400 os) #[.agg #[.int .u32 0, .int .u32 0, .int .u32 0, .int .u32 0, .int .u32 0, .int .u32 0, .int .u32 0, .int .u32 0, .int .u32 0, .slice none 0 0, .int .u32 0, .int .u32 0, .int .u32 0, .int .u32 0, .int .u32 0, .int .u32 0, .int .u32 0, .int .u32 0, .int .u32 0, .int .u32 0, .int .u32 0, .int .u32 0, .int .u32 0, .int .u32 0, .int .u32 0, .int .u32 0, .slice none 0 0]] 8 rfl (World.shaped_of_RefB (by kernel_rfl) (by kernel_rfl)) (by kernel_rfl) (by kernel_rfl) (by kernel_rfl) (door_met os _)) ?_
  intro W base args ds gs before hval0 hW _ _ hL _
  have hval : ∀ (j : Nat) t v, Tryd.f3.params[j]? = some t → args[j]? = some v → Value.okWide Tryd.prog W .any base t v := hval0
  have hW' := hW
  obtain ⟨p, q, hA0, hV, rfl, hfz, hnd⟩ := hW
  have hA : DataW.TrodAll enc Tryd.prog W 0 (fun _ => true) true Tryd.f3.params.toList args.toList ds p := hA0
  rw [Tryd.params3] at hA hval
  obtain ⟨v0, vs0, d0, ds0, p0, q0, hargs, rfl, rfl, h0, r0⟩ := trodAll_cons hA
  obtain ⟨rfl, rfl, rfl⟩ := trodAll_nil r0
  obtain rfl : args = #[v0] := by cases args; simp_all
  clear hA0 hval0
  have hT0 := shapes_of_laid hL (by kernel_rfl) List.mem_cons_self
  obtain ⟨CA0, es0, ss0, rs0, Aw0, nw0, cw0, zw0, Ai0, ni0, ci0, inp0, rfl, K0⟩ := open_case Tryd.underlying31 (by kernel_rfl) rfl rfl rfl rfl rfl (by kernel_rfl) (by kernel_rfl) (by kernel_rfl) (by kernel_rfl) (by kernel_rfl) Tryd.underlying24 (by kernel_rfl) (by kernel_rfl) rfl Tryd.underlying26 (by kernel_rfl) (by kernel_rfl) rfl Tryd.underlying27 Tryd.underlying22 (by kernel_rfl) Tryd.underlying28 Tryd.underlying22 (by kernel_rfl) Tryd.underlying29 Tryd.underlying21 (by kernel_rfl) (hval 0 31 v0 rfl rfl) h0
  refine (walk W hT0 CA0 es0 ss0 rs0 Aw0 nw0 cw0 zw0 Ai0 ni0 ci0 inp0 K0).mono fun e W' ⟨he, hg⟩ => ?_
  subst he
  exact ⟨_, rfl, law_post Tryd.laidOut Tryd.mapsRowed Tryd.slicesFull (by kernel_rfl) rfl (by kernel_rfl) Tryd.underlying4 rfl hW' hg⟩

theorem over : Rows.cpuStepsRow.holds Tryd.pinned (OpenSpec.ofChange Rows.cpuStepsSpec) :=
  OpenClaim.holds_of_wide 3 Tryd.f3 rfl rfl rfl rfl rfl rfl rfl ⟨rfl, rfl, rfl, rfl, rfl⟩ rfl rfl rfl rfl rfl (by kernel_rfl) Tryd.func3 (by kernel_rfl)
    (of_decide_eq_true (by kernel_rfl)) (by unfold Func.isWrapper; first | (rw [if_pos (by decide +kernel)]; kernel_rfl) | (rw [if_neg (by decide +kernel)]; exact ⟨rfl, rfl⟩))
    (fun os started H enc _ => lifted os started H enc)

theorem proved : Rows.CpuStepsCardSaid :=
  Claim7.holds_tied_plain_at .later [] Rows.cpuStepsCard.laidKinds true Rows.cpuStepsCard.stood.harness false
    over (fun _ h => by cases h) (by kernel_rfl) (fun _ h => by cases h) cpuSteps_row_tie rfl ⟨rfl, rfl⟩ (by kernel_rfl) rfl
    (fun f fn hf hfn => by
      obtain rfl : f = 3 := Option.some.inj ((show Tryd.prog.funcNamed Rows.cpuStepsRow.func = some 3 by kernel_rfl).symm.trans hf) |>.symm
      obtain rfl : fn = Tryd.f3 := (Option.some.inj (Tryd.func3.symm.trans hfn)).symm
      exact ⟨by kernel_rfl, fun j t ht => by
        have hm : t ∈ Tryd.f3.params.toList := by simpa using Array.mem_of_getElem? ht
        have hall : (Tryd.f3.params.toList.all fun u => !Tryd.prog.wantsStandIn u) = true := by kernel_rfl
        exact (show Tryd.prog.wantsStandIn t = false by simpa using List.all_eq_true.1 hall t hm)⟩)
    (by kernel_rfl)
end Go.Proofs.YtinpdgjbiimgkaaDoor.lawCpuSteps
