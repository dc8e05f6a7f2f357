/- CpuGuards: whatever words stand in memory and whatever is in the registers, no run of up to 255 steps changes a word of code or of tables; where it did not stop it made just so many steps; what has halted, or can't go on, stays as it is. Condition: the row's own: the package's table of shapes holds what its initialiser laid (tied to the program's text). -/
import Derived.Test.YtlmokkopaididaaDoorRows
import Derived.Test.YtlmokkopaididaaDoorLift
import Derived.Test.YtlmokkopaididaaDoorCpuXZ
import Derived.Test.YtlmokkopaididaaDoorMemT
import Derived.Test.YtlmokkopaididaaDoorCase
import Derived.Test.YtlmokkopaididaaDoorTie
import Derived.Test.YtlmokkopaididaaDoorCards
import Derived.SevenTiedAt
namespace Go.Proofs.YtlmokkopaididaaDoor.lawCpuGuards
open Go.ChangeShapes Go.WideShapes Go.ChangeAt Go.RowKit
set_option linter.unusedVariables false
set_option maxHeartbeats 16000000 in
set_option maxRecDepth 100000 in
theorem walk (w : World) (hS : ShapesIn w) (CA : Array Value) (es ss rs : List Int) (Aw : Option Addr) (nw cw : Nat) (zw : List Int) (Ai : Option Addr) (ni ci : Nat) (inp : List Int) (K : CaseIn w CA es ss rs Aw nw cw zw Ai ni ci inp) (a1 : Int) (w1 : (Lit.int .u8 a1).wf = true) :
    Calls Tryd.prog 5 #[.agg CA, .int .u8 a1] w fun e w' => e = .returned (.bool true) ∧ Below w.heap.size w w' := by
  obtain ⟨e0, e1, e2, e3, e4, s0, s1, s2, s3, r, m, U⟩ := case_use K
  obtain ⟨lo, hi⟩ := bounds_u8 w1
  obtain ⟨k, rfl⟩ := Int.eq_ofNat_of_zero_le lo
  have HU := Lib.hid U
  have HS := Lib.hid hS
  have GL := Lib.hid (show 0 < w.heap.size from hS.lt)
  have B0 := Lib.hid ((Below.refl w.heap.size w).alloc (Nat.le_refl _) (.cells CA 31))
  have K0 := Lib.hid (Whole.made w 31 CA _ rfl)
  clear U K hS w1
  go_enter Tryd.func5, Tryd.ntmps5
  go_wp2_with fail
  refine (awake4_any _ (HS.out.below B0.out (Nat.le_refl _))).mono ?_
  rintro e w1 ⟨rfl, hb1⟩
  have K1 := Lib.hid (K0.out.below hb1 K0.out.lt)
  have B1 := Lib.hid (B0.out.trans (hb1.mono B0.out.size))
  clear hb1 K0 B0
  go_wp2_with (refine wpList_load_row rfl 31 (.tmp 2) rfl w.heap.size rfl 31 CA (0, 0) _ K1.out Tryd.underlying31 rfl (infoCase HU.out.size) ?_)
  refine (HU.out.few _).mono ?_
  rintro e w2 ⟨b, rfl, hf, hb2⟩
  have K2 := Lib.hid (K1.out.below hb2 K1.out.lt)
  have B2 := Lib.hid (B1.out.trans (hb2.mono B1.out.size))
  have HF := Lib.hid hf
  clear hb2 hf K1 B1
  cases b with
  | false =>
    go_wp2_with fail
    go_ret
    exact ⟨rfl, B2.out⟩
  | true =>
    have FW := Lib.hid (HF.out rfl)
    clear HF
    go_wp2_with (refine wpList_load_row rfl 31 (.tmp 2) rfl w.heap.size rfl 31 CA (0, 0) _ K2.out Tryd.underlying31 rfl (infoCase HU.out.size) ?_)
    refine (HU.out.begun _ B2.out FW.out).mono ?_
    rintro e w3 ⟨p, q, h, h2, A', cap', rfl, hM, hA, hW2, n1, n2, n3, hb3⟩
    have K3 := Lib.hid (K2.out.below hb3 K2.out.lt)
    have B3 := Lib.hid (B2.out.trans (hb3.mono B2.out.size))
    have HA3 := Lib.hid hA
    have SZ38 := Lib.hid (cpuCells_size (c := begC s0 s1 s2 s3 r) hM.cpu.len (.slice none 0 0) (.slice Ai ni ci))
    have ONE38 := Lib.hid (cpu_one (begC s0 s1 s2 s3 r) (o := .slice none 0 0) (i := .slice Ai ni ci) rfl rfl)
    have SZ41 := Lib.hid (show (memCells e0 e1 e2 e3 e4 h2 m).size = 6 from rfl)
    have ONE41 := Lib.hid (one_mem e0 e1 e2 e3 e4 (some ⟨h2, 0, none⟩) m m)
    rw [show (#[.int .u32 e0, .int .u32 e1, .int .u32 e2, .int .u32 e3, .int .u32 e4, .slice (some ⟨h2, 0, none⟩) m m] : Array Value) = memCells e0 e1 e2 e3 e4 h2 m from rfl] at ONE41
    have K3N := Lib.hid (Nat.lt_of_lt_of_le K2.out.lt (Nat.le_refl _))
    have M3 := Lib.hid hM
    clear hb3 hM hA hW2 K2 n1 n2 n3
    generalize cpuCells (begC s0 s1 s2 s3 r) (.slice none 0 0) (.slice Ai ni ci) = C38 at *
    generalize memCells e0 e1 e2 e3 e4 h2 m = MC2 at *
    have TN := Lib.hid (two_new w3 C38 MC2)
    go_wp2_with (first
      | (refine wpList_store_row rfl 38 (.tmp 7) (.tmp 28) rfl w3.heap.size C38 rfl rfl 38 zeros38 TN.out.a (infoCpu SZ38.out) (by rw [SZ38.out]; rfl) ONE38.out ?_)
      | (refine wpList_store_row rfl 41 (.tmp 8) (.tmp 29) rfl (w3.heap.size + 1) MC2 rfl rfl 41 zeros41 TN.out.b (infoMem SZ41.out) (by rw [SZ41.out]; rfl) ONE41.out ?_))
    have M4 := Lib.hid (M3.out.below TN.out.bel)
    have K4 := Lib.hid (K3.out.below TN.out.bel K3.out.lt)
    have B4 := Lib.hid (B3.out.trans (TN.out.bel.mono B3.out.size))
    have S4 := Lib.hid (show w3.heap.size ≤ _ from TN.out.bel.size)
    have UN := Lib.hid (show 4 * (1 : Int) = 4 from rfl)
    have FS := Lib.hid HU.out.fine
    have WL := Lib.hid HU.out.fine.wl
    have ML := Lib.hid (HU.out.m4 FW.out)
    have CL := Lib.hid (fun w hm hw => clone_any q h m e0 e1 e2 e3 e4 (caseWs m nw zw) w hm hw WL.out (by have := ML.out.2; omega))
    clear TN K3 B3 UN
    unfold MadePost at CL
    unfold zeros38 zeros41 at M4 K4 B4 S4
    generalize ((((w3.alloc (.cells #[.int .u32 0, .int .u32 0, .int .u32 0, .int .u32 0, .int .u32 0, .int .u32 0, .int .u32 0, .int .u32 0, .int .u32 0, .int .u32 0, .int .u32 0, .int .u32 0, .int .u32 0, .int .u32 0, .int .u32 0, .int .u32 0, .int .u32 0, .int .u32 0, .int .u32 0, .int .i64 0, .int .i64 0, .int .i64 0, .int .i64 0, .slice none 0 0, .int .u32 0, .int .u32 0, .int .u32 0, .int .u32 0, .slice none 0 0] 38)).alloc (.cells #[.int .u32 0, .int .u32 0, .int .u32 0, .int .u32 0, .int .u32 0, .slice none 0 0] 41)).setRow w3.heap.size C38).setRow (w3.heap.size + 1) MC2) = Y at *
    refine (CL.out _ M4.out.mem M4.out.wds).mono ?_
    rintro e w5 ⟨p', h', rfl, hM', hW', gh', gp', hne, hb5⟩
    have M5 := Lib.hid (M4.out.below hb5)
    have K5 := Lib.hid (K4.out.below hb5 K4.out.lt)
    have B5 := Lib.hid (B4.out.trans (hb5.mono B4.out.size))
    have C5 := Lib.hid hM'
    have D5 := Lib.hid hW'
    have S5 := Lib.hid (HS.out.below B5.out (Nat.le_refl _))
    have hA5 : ∀ b off, A' = some ⟨b, off, none⟩ → b < w5.heap.size := fun b off ha => Nat.lt_of_lt_of_le (HA3.out b off ha).2 (Nat.le_trans S4.out hb5.size)
    have es := ends_sum FW.out.1
    have RN := Lib.hid (crun_any w2.heap.size p q h m k e0 e1 e2 e3 e4 (.slice none 0 0) A' ni cap' inp _ w5 M5.out FS.out S5.out (Nat.lt_of_lt_of_le GL.out B2.out.size) hA5 ML.out.1 (by omega) (by have := FW.out.2.2.2; omega) (by omega) (Nat.zero_le _) HU.out.iw (Int.le_refl 0) (by show (0 : Int) ≤ 1000000; omega))
    have RO := Lib.hid (run_of (e0 := e0) (e1 := e1) (e4 := e4) FS.out k)
    have np0 := Nat.le_trans B2.out.size M5.out.lp
    have nh0 := Nat.le_trans B2.out.size M5.out.lh
    have ltp := M4.out.cpu.lt
    have lth := M4.out.wds.lt
    have hN := K3N.out
    have L5 := Lib.hid (show w.heap.size ≠ p ∧ w.heap.size ≠ h ∧ p' ≠ p ∧ p' ≠ h ∧ h' ≠ p ∧ h' ≠ h by have := M5.out.lp; have := M5.out.lh; omega)
    have GE := Lib.hid (show ∀ b, b ∈ p :: h :: ownList (.slice none 0 0) → w.heap.size ≤ b from fun b hb => Nat.le_trans B2.out.size (M5.out.own_ge b hb))
    have E4 := Lib.hid (And.intro es.2.1 (And.intro (show e1 ≤ e4 by omega) es.2.2.2.2.2.2.1))
    have U1 := HU.out.u1
    have FWN := Lib.hid FW.out.2.2.2
    clear hb5 hM' hW' gh' gp' hne hA5 es np0 nh0 ltp lth hN M4 K4 B4 S4 CL HA3 FW
    generalize runS e0 e1 e4 inp k ⟨begC s0 s1 s2 s3 r, [], caseWs m nw zw⟩ = sx at *
    unfold XPost at RN
    go_wp2_with fail
    refine RN.out.mono ?_
    rintro e w6 ⟨rfl, v', hM6, hn6, hbt⟩
    have M6 := Lib.hid hM6
    have hown : ∀ b, b ∈ p :: h :: ownList (.slice none 0 0) ↔ b = p ∨ b = h := fun b => by simp [ownList, Value.ownBlock]
    have K6 := Lib.hid (hbt.whole K5.out (by rw [hown]; have := L5.out; omega))
    have C6 := Lib.hid (hbt.whole C5.out (by rw [hown]; have := L5.out; omega))
    have D6 := Lib.hid (hbt.whole D5.out (by rw [hown]; have := L5.out; omega))
    have B6 := Lib.hid (B5.out.trans (hbt.below GE.out B5.out.size))
    clear hM6 hn6 hbt hown M5 K5 B5 C5 D5 S5 RN
    obtain ⟨AO, cO, rfl, _⟩ := M6.out.outs.form
    have k1 : w6.cell? ⟨w.heap.size, 1, none⟩ = some (.int .u32 e1) := (K6.out.cell 1).trans HU.out.c1
    have q16 := M6.out.cpu.pc
    have q19 := M6.out.cpu.st
    have q21 := M6.out.cpu.steps
    have q23 := M6.out.cpu.outv
    have FX := Lib.hid RO.out.fine
    have LX := Lib.hid (fun (a : Int) ha => load_any q h m a e4 sx.ws w6 ha (M6.out.mem.cell 4) (M6.out.mem.cell 5) M6.out.wds FX.out.wl (by have := ML.out.1; omega) FX.out.wu)
    have LY := Lib.hid (fun (a : Int) ha => load_any p' h' m a e4 (caseWs m nw zw) w6 ha (C6.out.cell 4) (C6.out.cell 5) D6.out WL.out (by have := ML.out.1; omega) FS.out.wu)
    have CP := Lib.hid M6.out.cpu
    have EV := Lib.hid (And.intro RO.out.steps (And.intro RO.out.lo RO.out.hi))
    have GD := Lib.hid RO.out.guard
    have WU := Lib.hid FS.out.wu
    clear M6 C6 D6 RO K6 FS FX GE L5
    obtain ⟨u1, u2⟩ := U1
    go_wp2_with fail
    go_loop [10] (fun i => ∃ t : Nat, 4 * (t : Int) ≤ e1 ∧ i = .int .u32 (4 * t)) (fun i => e1.toNat - (intOf i).toNat)
    case atStart => exact ⟨0, by omega, rfl⟩
    case round =>
      obtain ⟨t, ht, rfl⟩ := hrel
      have e4s := E4.out
      by_cases hlt : 4 * (t : Int) < e1
      · have dlt : decide (4 * (t : Int) < e1) = true := decide_eq_true hlt
        have hx := LX.out (4 * t) ⟨by omega, by omega⟩
        have hy := LY.out (4 * t) ⟨by omega, by omega⟩
        rw [readVal_at4 (by omega), checkRes_ok (by omega) (by omega), GD.out t hlt] at hx
        rw [readVal_at4 (by omega), checkRes_ok (by omega) (by omega)] at hy
        have LXX := Lib.hid hx
        have LYY := Lib.hid hy
        obtain ⟨z0, z1⟩ := wordOfs WU.out t
        have h4 : 4 * (t : Int) + 4 ≤ 4294967295 := by omega
        clear hx hy
        generalize hxx : (caseWs m nw zw).getD t 0 = x at *
        clear hxx
        go_wp2_with fail
        refine LXX.out.mono ?_
        rintro e w' ⟨rfl, rfl⟩
        go_wp2_with fail
        refine LYY.out.mono ?_
        rintro e w' ⟨rfl, rfl⟩
        go_wp2_with fail
        go_round
        case rel => exact ⟨t + 1, by omega, by go_num⟩
        case measure => simp [intOf]; omega
      · have dlt : decide (4 * (t : Int) < e1) = false := decide_eq_false hlt
        by_cases hz : sx.c.st = 0
        · have hs := EV.out.1 hz
          have hs' : sx.c.steps = (k : Int) := by rw [hs]; show (0 : Int) + k = k; omega
          rw [hz] at q19
          rw [hs'] at q21
          clear hz hs hs' e4s
          go_wp2_with fail
          go_ret
          exact ⟨rfl, B6.out⟩
        · have dz : (sx.c.st == 0) = false := by simpa using hz
          have CPD := Lib.hid (fun n => CP.out.drawn n)
          have HZ := Lib.hid hz
          clear hz e4s LX LY
          go_wp2_with fail
          go_quiet (fail)
          have CP7 := Lib.hid (CPD.out nq)
          have B7 := Lib.hid (below_drawn B6.out nq)
          clear q16 q19 q21 q23 k1
          generalize w6.drewN nq = w7 at *
          have q16 := CP7.out.pc
          have q19 := CP7.out.st
          have q21 := CP7.out.steps
          have q23 := CP7.out.outv
          have RH := Lib.hid (fun n => crun_halted p q 5 sx.c _ _ (w7.drewN n) (CP7.out.drawn n) HZ.out (by decide) (by decide))
          rw [show ((5 : Nat) : Int) = 5 from rfl] at RH
          go_wp2_with fail
          go_quiet ((go_at_call 19; refine Calls.quiet_of_same ((RH.out _).mono (fun _ _ h => ⟨h.1, h.2.symm⟩))))
          go_wp2_with fail
          go_ret
          exact ⟨rfl, below_drawn B7.out nq⟩

set_option maxRecDepth 100000 in
theorem door_met (os : Os) (args : Array Value) : laidMetH Tryd.prog Rows.cpuGuardsRow.laid ((World.doorLaid Tryd.prog 400 os).forCall (fun _ _ => 0) ⟨#[], args, []⟩).memory :=
  laidMetH_of_parts3 (fuel := 8) (laidMet_of_run' 8 (by kernel_rfl) (by kernel_rfl)) (by kernel_rfl) (by kernel_rfl)

set_option maxRecDepth 100000 in
theorem lifted (os : Os) (started : os.Started) (H : Type) (enc : TypeId × Value → H) :
    ReturnsInHanded {} Tryd.checked os 5 .any (fun w args => (Rows.cpuGuardsSpec.pre enc Tryd.prog Tryd.f5 [] false w args ∧ laidMetH Tryd.prog Rows.cpuGuardsRow.laid w) ∧ sizedMet enc Tryd.prog Tryd.f5 (OpenSpec.ofChange Rows.cpuGuardsSpec) false w args) (Rows.cpuGuardsSpec.post enc Tryd.prog Tryd.f5 false true false false) := by
  refine returnsInHanded_of_change_and (C := Tryd.checked) (X := fun w _ => laidMetH Tryd.prog Rows.cpuGuardsRow.laid w) (fun _ _ _ hh h => h.of_heap hh) Tryd.own started (by kernel_rfl) Tryd.func5
    (ChangeSpec.witness_shaped (enc := enc) (C := Tryd.checked) (os := os) (X := fun w _ => laidMetH Tryd.prog Rows.cpuGuardsRow.laid w) false (World.doorLaid Tryd.prog 400 os) #[.agg #[.int .u32 0, .int .u32 0, .int .u32 0, .int .u32 0, .int .u32 0, .int .u32 0, .int .u32 0, .int .u32 0, .int .u32 0, .slice none 0 0, .int .u32 0, .int .u32 0, .int .u32 0, .int .u32 0, .int .u32 0, .int .u32 0, .int .u32 0, .int .u32 0, .int .u32 0, .int .u32 0, .int .u32 0, .int .u32 0, .int .u32 0, .int .u32 0, .int .u32 0, .int .u32 0, .slice none 0 0], .int .u8 0] 8 rfl (World.shaped_of_RefB (by kernel_rfl) (by kernel_rfl)) (by kernel_rfl) (by kernel_rfl) (by kernel_rfl) (door_met os _)) ?_
  intro W base args ds gs before hval0 hW _ _ hL _
  have hval : ∀ (j : Nat) t v, Tryd.f5.params[j]? = some t → args[j]? = some v → Value.okWide Tryd.prog W .any base t v := hval0
  have hW' := hW
  obtain ⟨p, q, hA0, hV, rfl, hfz, hnd⟩ := hW
  have hA : DataW.TrodAll enc Tryd.prog W 0 (fun _ => true) true Tryd.f5.params.toList args.toList ds p := hA0
  rw [Tryd.params5] at hA hval
  obtain ⟨v0, vs0, d0, ds0, p0, q0, hargs, rfl, rfl, h0, r0⟩ := trodAll_cons hA
  obtain ⟨v1, vs1, d1, ds1, p1, q1, rfl, rfl, rfl, h1, r1⟩ := trodAll_cons r0
  obtain ⟨rfl, rfl, rfl⟩ := trodAll_nil r1
  obtain rfl : args = #[v0, v1] := by cases args; simp_all
  clear hA0 hval0
  have hT0 := shapes_of_laid hL (by kernel_rfl) List.mem_cons_self
  obtain ⟨CA0, es0, ss0, rs0, Aw0, nw0, cw0, zw0, Ai0, ni0, ci0, inp0, rfl, K0⟩ := open_case Tryd.underlying31 (by kernel_rfl) rfl rfl rfl rfl rfl (by kernel_rfl) (by kernel_rfl) (by kernel_rfl) (by kernel_rfl) (by kernel_rfl) Tryd.underlying24 (by kernel_rfl) (by kernel_rfl) rfl Tryd.underlying26 (by kernel_rfl) (by kernel_rfl) rfl Tryd.underlying27 Tryd.underlying22 (by kernel_rfl) Tryd.underlying28 Tryd.underlying22 (by kernel_rfl) Tryd.underlying29 Tryd.underlying21 (by kernel_rfl) (hval 0 31 v0 rfl rfl) h0
  obtain ⟨a1, rfl, rfl, rfl, w1⟩ := open_int Tryd.underlying5 (hval 1 5 v1 rfl rfl) h1
  refine (walk W hT0 CA0 es0 ss0 rs0 Aw0 nw0 cw0 zw0 Ai0 ni0 ci0 inp0 K0 a1 w1).mono fun e W' ⟨he, hg⟩ => ?_
  subst he
  exact ⟨_, rfl, law_post Tryd.laidOut Tryd.mapsRowed Tryd.slicesFull (by kernel_rfl) rfl (by kernel_rfl) Tryd.underlying4 rfl hW' hg⟩

theorem over : Rows.cpuGuardsRow.holds Tryd.pinned (OpenSpec.ofChange Rows.cpuGuardsSpec) :=
  OpenClaim.holds_of_wide 5 Tryd.f5 rfl rfl rfl rfl rfl rfl rfl ⟨rfl, rfl, rfl, rfl, rfl⟩ rfl rfl rfl rfl rfl (by kernel_rfl) Tryd.func5 (by kernel_rfl)
    (of_decide_eq_true (by kernel_rfl)) (by unfold Func.isWrapper; first | (rw [if_pos (by decide +kernel)]; kernel_rfl) | (rw [if_neg (by decide +kernel)]; exact ⟨rfl, rfl⟩))
    (fun os started H enc _ => lifted os started H enc)

theorem proved : Rows.CpuGuardsCardSaid :=
  Claim7.holds_tied_plain_at .later [] Rows.cpuGuardsCard.laidKinds true Rows.cpuGuardsCard.stood.harness false
    over (fun _ h => by cases h) (by kernel_rfl) (fun _ h => by cases h) cpuGuards_row_tie rfl ⟨rfl, rfl⟩ (by kernel_rfl) rfl
    (fun f fn hf hfn => by
      obtain rfl : f = 5 := Option.some.inj ((show Tryd.prog.funcNamed Rows.cpuGuardsRow.func = some 5 by kernel_rfl).symm.trans hf) |>.symm
      obtain rfl : fn = Tryd.f5 := (Option.some.inj (Tryd.func5.symm.trans hfn)).symm
      exact ⟨by kernel_rfl, fun j t ht => by
        have hm : t ∈ Tryd.f5.params.toList := by simpa using Array.mem_of_getElem? ht
        have hall : (Tryd.f5.params.toList.all fun u => !Tryd.prog.wantsStandIn u) = true := by kernel_rfl
        exact (show Tryd.prog.wantsStandIn t = false by simpa using List.all_eq_true.1 hall t hm)⟩)
    (by kernel_rfl)
end Go.Proofs.YtlmokkopaididaaDoor.lawCpuGuards
