/- CpuStA CpuStB CpuDA in one. -/
import Derived.Test.YtinpdgjbiimgkaaDoorCpuT
import Derived.Test.YtinpdgjbiimgkaaDoorCpuC
import Derived.Test.YtinpdgjbiimgkaaDoorCpuSS
import Derived.Test.YtinpdgjbiimgkaaDoorMemFT
import Derived.Test.YtinpdgjbiimgkaaDoorInstrJJ
import Derived.Test.YtinpdgjbiimgkaaDoorCpuKN
import Derived.Test.YtinpdgjbiimgkaaDoorCpuP
import Derived.Test.YtinpdgjbiimgkaaDoorCpuUU

/- The answers' do, by operation. -/
namespace Go.Proofs.YtinpdgjbiimgkaaDoor
open Go.ChangeShapes Go.WideShapes Go.ChangeAt Go.RowKit
set_option linter.unusedVariables false

/-- The blocks that 'Step' works in. -/
structure Fs (w W : World) (C MC : Array Value) : Prop where
  c : Whole W w.heap.size 38 C
  m : Whole W (w.heap.size + 1) 41 MC
  r1 : Whole W (w.heap.size + 1 + 1) 38 zeros38
  r2 : Whole W (w.heap.size + 1 + 1 + 1) 41 zeros41
  bel : Below w.heap.size w W

theorem fs_made (w : World) (C MC : Array Value) : Fs w ((((w.alloc (.cells C 38)).alloc (.cells MC 41)).alloc (.cells zeros38 38)).alloc (.cells zeros41 41)) C MC where
  c := (((Whole.made w _ C _ rfl).alloc _).alloc _).alloc _
  m := ((Whole.made (w.alloc (.cells C _)) _ MC (w.heap.size + 1) (by simp)).alloc _).alloc _
  r1 := (Whole.made ((w.alloc (.cells C _)).alloc (.cells MC _)) _ zeros38 (w.heap.size + 1 + 1) (by simp)).alloc _
  r2 := Whole.made (((w.alloc (.cells C _)).alloc (.cells MC _)).alloc (.cells zeros38 _)) _ zeros41 (w.heap.size + 1 + 1 + 1) (by simp)
  bel := ((((Below.refl w.heap.size w).alloc (Nat.le_refl _) _).alloc (by simp) _).alloc (by simp; omega) _).alloc (by simp; omega) _

theorem Fs.later {w W W' : World} {C MC : Array Value} (h : Fs w W C MC) (hb : Below W.heap.size W W') : Fs w W' C MC :=
  ⟨h.c.below hb h.c.lt, h.m.below hb h.m.lt, h.r1.below hb h.r1.lt, h.r2.below hb h.r2.lt, h.bel.trans (hb.mono h.bel.size)⟩

set_option maxHeartbeats 8000000 in
set_option maxRecDepth 100000 in
theorem refstep_stop (c : Cp) (A1 A2 : Option Addr) (n1 k1 n2 k2 : Nat) (MC : Array Value) (w : World) (hl : c.r.length = 16) (hm : MC.size = 6) (hm1 : MC.all (·.oneCell') = true) (hz : (c.st != 0) = true) :
    Calls Tryd.prog 9 #[.agg (cpuCells c (.slice A1 n1 k1) (.slice A2 n2 k2)), .agg MC] w fun e w' => e = .returned (.tuple #[.agg (cpuCells (c) (.slice A1 n1 k1) (.slice A2 n2 k2)), .agg MC]) ∧ Below w.heap.size w w' := by
  have SM := Lib.hid hm
  have ONM := Lib.hid hm1
  have g19 := cpuCells_st hl (.slice A1 n1 k1) (.slice A2 n2 k2)
  have SZ := Lib.hid (cpuCells_size hl (.slice A1 n1 k1) (.slice A2 n2 k2))
  have ONE := Lib.hid (cpu_one c (o := (.slice A1 n1 k1)) (i := (.slice A2 n2 k2)) rfl rfl)
  clear hl hm hm1
  generalize hC2 : cpuCells c (.slice A1 n1 k1) (.slice A2 n2 k2) = C2 at *
  have CE := Lib.hid hC2
  clear hC2
  have FD := Lib.hid (fs_made w C2 MC)
  unfold zeros38 zeros41 at FD
  go_enter Tryd.func9, Tryd.ntmps9
  go_wp2_with fail
  generalize ((((w.alloc (.cells C2 38)).alloc (.cells MC 41)).alloc (.cells #[.int .u32 0, .int .u32 0, .int .u32 0, .int .u32 0, .int .u32 0, .int .u32 0, .int .u32 0, .int .u32 0, .int .u32 0, .int .u32 0, .int .u32 0, .int .u32 0, .int .u32 0, .int .u32 0, .int .u32 0, .int .u32 0, .int .u32 0, .int .u32 0, .int .u32 0, .int .i64 0, .int .i64 0, .int .i64 0, .int .i64 0, .slice none 0 0, .int .u32 0, .int .u32 0, .int .u32 0, .int .u32 0, .slice none 0 0] 38)).alloc (.cells #[.int .u32 0, .int .u32 0, .int .u32 0, .int .u32 0, .int .u32 0, .slice none 0 0] 41)) = W at *
  have HC := Lib.hid FD.out.c
  have HM := Lib.hid FD.out.m
  have R1 := Lib.hid FD.out.r1
  have R2 := Lib.hid FD.out.r2
  have BV := Lib.hid FD.out.bel
  clear FD
  refine held_start 4 rfl (S := fun y => Whole y w.heap.size 38 C2 ∧ Whole y (w.heap.size + 1) 41 MC) (by kernel_rfl) ⟨HC.out.drew', HM.out.drew'⟩ (fun hS => ?_)
  refine wpAnyH_take (i := 0) (v := .agg C2) get0 ?_ ?_ ?_ ?_ ?_ hS ?_
  · kernel_rfl
  · kernel_rfl
  · kernel_rfl
  · exact fun _ _ _ h => h
  · exact take_load 38 (.tmp 2) rfl rfl (w.heap.size) rfl 38 C2 (fun _ h => h.1) _ Tryd.underlying38 rfl (infoCpu SZ.out)
  refine wpAnyH_take (i := 1) (v := .agg MC) get1 ?_ ?_ ?_ ?_ ?_ hS ?_
  · kernel_rfl
  · kernel_rfl
  · kernel_rfl
  · exact fun _ _ _ h => h
  · exact take_load 41 (.tmp 3) rfl rfl ((w.heap.size + 1)) rfl 41 MC (fun _ h => h.2) _ Tryd.underlying41 rfl (infoMem SM.out)
  refine held_step get2 (by kernel_rfl) (fun K hK => ?_)
  refine step_store 38 (.tmp 4) (.tmp 12) rfl rfl (w.heap.size + 1 + 1) C2 rfl rfl 38 zeros38 R1.out.drew' (infoCpu SZ.out) (by rw [SZ.out]; rfl) ONE.out ?_
  refine hK.out _ _ ⟨HC.out.drew'.only (by omega) (Only.setRow _ (w.heap.size + 1 + 1) C2), HM.out.drew'.only (by omega) (Only.setRow _ (w.heap.size + 1 + 1) C2)⟩ (fun hS2 => ?_)
  clear hK K
  refine held_step get3 (by kernel_rfl) (fun K hK => ?_)
  refine step_store 41 (.tmp 5) (.tmp 13) rfl rfl (w.heap.size + 1 + 1 + 1) MC rfl rfl 41 zeros41 (R2.out.drew'.only (by omega) (Only.setRow _ (w.heap.size + 1 + 1) C2)) (infoMem SM.out) (by rw [SM.out]; rfl) ONM.out ?_
  refine hK.out _ _ ⟨hS2.1.only (by omega) (Only.setRow _ (w.heap.size + 1 + 1 + 1) MC), hS2.2.only (by omega) (Only.setRow _ (w.heap.size + 1 + 1 + 1) MC)⟩ (fun hS3 => ?_)
  clear hK K
  refine wpAnyH_done (by kernel_rfl) ?_ _
  go_wp2_with fail
  refine bodyPost_ret (v := .tuple #[.agg C2, .agg MC]) (results_two_rows rfl _ _ (w.heap.size + 1 + 1) (w.heap.size + 1 + 1 + 1) 38 41 C2 MC _ _ rfl rfl ((R1.out.drew'.setRow C2).only (by omega) (Only.setRow _ (w.heap.size + 1 + 1 + 1) MC)) ((R2.out.drew'.only (by omega) (Only.setRow _ (w.heap.size + 1 + 1) C2)).setRow MC) Tryd.underlying38 rfl (infoCpu SZ.out) Tryd.underlying41 rfl (infoMem SM.out)) rfl ⟨rfl, ((BV.out.drew.trans ((Only.setRow _ (w.heap.size + 1 + 1) C2).below (by omega) (by have := BV.out.size; simpa using this))).trans ((Only.setRow _ (w.heap.size + 1 + 1 + 1) MC).below (by omega) (by have := BV.out.size; simpa using this)))⟩

set_option maxHeartbeats 8000000 in
set_option maxRecDepth 100000 in
theorem refstep_fetch (c : Cp) (A1 A2 : Option Addr) (n1 k1 n2 k2 : Nat) (MC : Array Value) (w : World) (hl : c.r.length = 16) (hm : MC.size = 6) (hm1 : MC.all (·.oneCell') = true) (hh m : Nat) (e0 e1 e2 e3 e4 : Int) (ws : List Int) (hMC : MC = memCells e0 e1 e2 e3 e4 hh m) (hW : Whole w hh 22 (words ws)) (hwl : ws.length = m) (hm2 : m ≤ 1000000) (h4 : e4 = 4 * m) (hws : ∀ z ∈ ws, U32 z) (h04 : e0 ≤ e4) (up : U32 c.pc) (s0 : 0 ≤ c.steps) (s1 : c.steps ≤ 1000000000) (hz : (c.st != 0) = false) (er : Int) (hc : checkRes c.pc e0 = er) (hne : (er != 0) = true) :
    Calls Tryd.prog 9 #[.agg (cpuCells c (.slice A1 n1 k1) (.slice A2 n2 k2)), .agg MC] w fun e w' => e = .returned (.tuple #[.agg (cpuCells (faultC (tick c) er) (.slice A1 n1 k1) (.slice A2 n2 k2)), .agg MC]) ∧ Below w.heap.size w w' := by
  have SM := Lib.hid hm
  have ONM := Lib.hid hm1
  have g19 := cpuCells_st hl (.slice A1 n1 k1) (.slice A2 n2 k2)
  have LD := Lib.hid (fun w' hb => reffetch_any hh m e0 e1 e2 e3 e4 c.pc ws w' up (hW.below (B := w.heap.size) hb hW.lt) hwl hm2 h4 hws h04)
  rw [← hMC] at LD
  have g21 := cpuCells_steps hl (.slice A1 n1 k1) (.slice A2 n2 k2)
  have s21 := cpuCells_set_steps hl (.slice A1 n1 k1) (.slice A2 n2 k2) (c.steps + 1)
  have g16 := cpuCells_pc (c := (tick c)) hl (.slice A1 n1 k1) (.slice A2 n2 k2)
  have g16' := cpuCells_pc (c := c) hl (.slice A1 n1 k1) (.slice A2 n2 k2)
  rw [show ({ c with steps := c.steps + 1 } : Cp) = (tick c) from rfl] at s21
  have hl1 : ((tick c) : Cp).r.length = 16 := hl
  have SZ0 := Lib.hid (cpuCells_size hl1 (.slice A1 n1 k1) (.slice A2 n2 k2))
  rw [hc] at LD
  have CT := Lib.hid (fun w => reffault_any (tick c) A1 A2 n1 k1 n2 k2 er w hl1)
  have hl2 : (faultC (tick c) er).r.length = 16 := hl
  have SZ := Lib.hid (cpuCells_size hl2 (.slice A1 n1 k1) (.slice A2 n2 k2))
  have ONE := Lib.hid (cpu_one (faultC (tick c) er) (o := (.slice A1 n1 k1)) (i := (.slice A2 n2 k2)) rfl rfl)
  clear hl hl1 hl2 hm hm1 hc hws hW hMC
  generalize cpuCells (faultC (tick c) er) (.slice A1 n1 k1) (.slice A2 n2 k2) = C2 at *
  generalize cpuCells (tick c) (.slice A1 n1 k1) (.slice A2 n2 k2) = C1 at *
  generalize cpuCells c (.slice A1 n1 k1) (.slice A2 n2 k2) = C00 at *
  generalize readVal c.pc e0 ws = x at *
  have FD := Lib.hid (fs_made w C1 MC)
  unfold zeros38 zeros41 at FD
  go_enter Tryd.func9, Tryd.ntmps9
  go_wp2_with (refine wpList_load_row rfl 41 (.tmp 3) rfl (w.heap.size + 1) rfl 41 MC (0, 0) _ FD.out.m Tryd.underlying41 rfl (infoMem SM.out) ?_)
  refine (LD.out _ FD.out.bel).mono ?_
  rintro e w1 ⟨rfl, hb1⟩
  have FD := Lib.hid (FD.out.later hb1)
  clear hb1
  go_wp2_with fail
  have HC := Lib.hid FD.out.c
  have HM := Lib.hid FD.out.m
  have R1 := Lib.hid FD.out.r1
  have R2 := Lib.hid FD.out.r2
  have BV := Lib.hid FD.out.bel
  clear FD
  refine held_start 6 rfl (S := fun y => Whole y w.heap.size 38 C1 ∧ Whole y (w.heap.size + 1) 41 MC ∧ True) (by kernel_rfl) ⟨HC.out.drew', HM.out.drew', trivial⟩ (fun hS => ?_)
  refine wpAnyH_take (i := 0) (v := .agg C1) get0 ?_ ?_ ?_ ?_ ?_ hS ?_
  · kernel_rfl
  · kernel_rfl
  · kernel_rfl
  · exact fun _ _ _ h => h
  · exact take_load 38 (.tmp 2) rfl rfl (w.heap.size) rfl 38 C1 (fun _ h => h.1) _ Tryd.underlying38 rfl (infoCpu SZ0.out)
  refine wpAnyH_take (i := 1) (v := .int .i64 er) get1 ?_ ?_ ?_ ?_ ?_ hS ?_
  · kernel_rfl
  · kernel_rfl
  · kernel_rfl
  · exact fun _ _ _ h => h
  · exact take_slot (.tmp 7) rfl rfl (eval_ne (by decide) rfl)
  refine wpAnyH_take (i := 3) (v := .agg MC) get3 ?_ ?_ ?_ ?_ ?_ hS ?_
  · kernel_rfl
  · kernel_rfl
  · kernel_rfl
  · exact fun _ _ _ h => h
  · exact take_load 41 (.tmp 3) rfl rfl ((w.heap.size + 1)) (eval_ne (by decide) (eval_ne (by decide) rfl)) 41 MC (fun _ h => h.2.1) _ Tryd.underlying41 rfl (infoMem SM.out)
  refine held_step get2 (by kernel_rfl) (fun K hK => ?_)
  refine step_call2 Tryd.func24 rfl rfl rfl rfl (.agg C1) (.int .i64 er) (eval_ne (by decide) (eval_ne (by decide) (eval_at (n := 48) rfl (by decide)))) (eval_ne (by decide) (eval_at (n := 48) (size_put rfl) (by decide))) (CT.out _) ?_
  rintro e w1 ⟨rfl, hb1⟩
  refine ⟨_, rfl, ?_⟩
  have Z1 := Lib.hid (R1.out.drew'.below hb1 R1.out.lt)
  have Z2 := Lib.hid (R2.out.drew'.below hb1 R2.out.lt)
  have ZB := Lib.hid (BV.out.drew.trans (hb1.mono BV.out.size))
  refine hK.out _ _ ⟨hS.1.below hb1 HC.out.lt, hS.2.1.below hb1 HM.out.lt, trivial⟩ (fun hS2 => ?_)
  clear hK K hb1
  refine held_step get4 (by kernel_rfl) (fun K hK => ?_)
  refine step_store 38 (.tmp 4) (.tmp 29) rfl rfl (w.heap.size + 1 + 1) C2 (eval_ne (by decide) (eval_ne (by decide) (eval_ne (by decide) (eval_ne (by decide) rfl)))) (eval_at (n := 48) (size_put (size_put (size_put rfl))) (by decide)) 38 zeros38 Z1.out (infoCpu SZ.out) (by rw [SZ.out]; rfl) ONE.out ?_
  refine hK.out _ _ ⟨hS2.1.only (by omega) (Only.setRow _ (w.heap.size + 1 + 1) C2), hS2.2.1.only (by omega) (Only.setRow _ (w.heap.size + 1 + 1) C2), trivial⟩ (fun hS3 => ?_)
  clear hK K
  refine held_step get5 (by kernel_rfl) (fun K hK => ?_)
  refine step_store 41 (.tmp 5) (.tmp 30) rfl rfl (w.heap.size + 1 + 1 + 1) MC (eval_none (eval_ne (by decide) (eval_ne (by decide) (eval_ne (by decide) (eval_ne (by decide) rfl))))) (eval_none (eval_ne (by decide) (eval_at (n := 48) (size_put (size_put rfl)) (by decide)))) 41 zeros41 (Z2.out.only (by omega) (Only.setRow _ (w.heap.size + 1 + 1) C2)) (infoMem SM.out) (by rw [SM.out]; rfl) ONM.out ?_
  refine hK.out _ _ ⟨hS3.1.only (by omega) (Only.setRow _ (w.heap.size + 1 + 1 + 1) MC), hS3.2.1.only (by omega) (Only.setRow _ (w.heap.size + 1 + 1 + 1) MC), trivial⟩ (fun hS4 => ?_)
  clear hK K
  refine wpAnyH_done (by kernel_rfl) ?_ _
  go_wp2_with fail
  refine bodyPost_ret (v := .tuple #[.agg C2, .agg MC]) (results_two_rows2 rfl _ _ (w.heap.size + 1 + 1) (w.heap.size + 1 + 1 + 1) 38 41 C2 MC _ _ (eval_none (eval_none (eval_ne (by decide) (eval_ne (by decide) (eval_ne (by decide) (eval_ne (by decide) rfl)))))) (eval_none (eval_none (eval_ne (by decide) (eval_ne (by decide) (eval_ne (by decide) (eval_ne (by decide) rfl)))))) ((Z1.out.setRow C2).only (by omega) (Only.setRow _ (w.heap.size + 1 + 1 + 1) MC)) ((Z2.out.only (by omega) (Only.setRow _ (w.heap.size + 1 + 1) C2)).setRow MC) Tryd.underlying38 rfl (infoCpu SZ.out) Tryd.underlying41 rfl (infoMem SM.out)) rfl ⟨rfl, ((ZB.out.trans ((Only.setRow _ (w.heap.size + 1 + 1) C2).below (by omega) (by have := ZB.out.size; simpa using this))).trans ((Only.setRow _ (w.heap.size + 1 + 1 + 1) MC).below (by omega) (by have := ZB.out.size; simpa using this)))⟩

set_option maxHeartbeats 8000000 in
set_option maxRecDepth 100000 in
theorem refstep_word (c : Cp) (A1 A2 : Option Addr) (n1 k1 n2 k2 : Nat) (MC : Array Value) (w : World) (hl : c.r.length = 16) (hm : MC.size = 6) (hm1 : MC.all (·.oneCell') = true) (hh m : Nat) (e0 e1 e2 e3 e4 : Int) (ws : List Int) (hMC : MC = memCells e0 e1 e2 e3 e4 hh m) (hW : Whole w hh 22 (words ws)) (hwl : ws.length = m) (hm2 : m ≤ 1000000) (h4 : e4 = 4 * m) (hws : ∀ z ∈ ws, U32 z) (h04 : e0 ≤ e4) (up : U32 c.pc) (s0 : 0 ≤ c.steps) (s1 : c.steps ≤ 1000000000) (hz : (c.st != 0) = false) (hc : checkRes c.pc e0 = 0) (ux : U32 (readVal c.pc e0 ws)) (hx : ¬ OkW (readVal c.pc e0 ws)) :
    Calls Tryd.prog 9 #[.agg (cpuCells c (.slice A1 n1 k1) (.slice A2 n2 k2)), .agg MC] w fun e w' => e = .returned (.tuple #[.agg (cpuCells (faultC (tick c) 21) (.slice A1 n1 k1) (.slice A2 n2 k2)), .agg MC]) ∧ Below w.heap.size w w' := by
  have SM := Lib.hid hm
  have ONM := Lib.hid hm1
  have g19 := cpuCells_st hl (.slice A1 n1 k1) (.slice A2 n2 k2)
  have LD := Lib.hid (fun w' hb => reffetch_any hh m e0 e1 e2 e3 e4 c.pc ws w' up (hW.below (B := w.heap.size) hb hW.lt) hwl hm2 h4 hws h04)
  rw [← hMC] at LD
  have g21 := cpuCells_steps hl (.slice A1 n1 k1) (.slice A2 n2 k2)
  have s21 := cpuCells_set_steps hl (.slice A1 n1 k1) (.slice A2 n2 k2) (c.steps + 1)
  have g16 := cpuCells_pc (c := (tick c)) hl (.slice A1 n1 k1) (.slice A2 n2 k2)
  have g16' := cpuCells_pc (c := c) hl (.slice A1 n1 k1) (.slice A2 n2 k2)
  rw [show ({ c with steps := c.steps + 1 } : Cp) = (tick c) from rfl] at s21
  have hl1 : ((tick c) : Cp).r.length = 16 := hl
  have SZ0 := Lib.hid (cpuCells_size hl1 (.slice A1 n1 k1) (.slice A2 n2 k2))
  rw [hc] at LD
  have DV := Lib.hid (fun w => refdecode_any (readVal c.pc e0 ws) w ux.1 ux.2)
  rw [show decV (readVal c.pc e0 ws) = .tuple #[instrV 0 0 0 0 0, .int .i64 21] from if_neg hx] at DV
  unfold instrV at DV
  have CT := Lib.hid (fun w => reffault_any (tick c) A1 A2 n1 k1 n2 k2 21 w hl1)
  have hl2 : (faultC (tick c) 21).r.length = 16 := hl
  have SZ := Lib.hid (cpuCells_size hl2 (.slice A1 n1 k1) (.slice A2 n2 k2))
  have ONE := Lib.hid (cpu_one (faultC (tick c) 21) (o := (.slice A1 n1 k1)) (i := (.slice A2 n2 k2)) rfl rfl)
  clear hl hl1 hl2 hm hm1 hc hws hW hMC hx ux
  generalize cpuCells (faultC (tick c) 21) (.slice A1 n1 k1) (.slice A2 n2 k2) = C2 at *
  generalize cpuCells (tick c) (.slice A1 n1 k1) (.slice A2 n2 k2) = C1 at *
  generalize cpuCells c (.slice A1 n1 k1) (.slice A2 n2 k2) = C00 at *
  generalize readVal c.pc e0 ws = x at *
  have FD := Lib.hid (fs_made w C1 MC)
  unfold zeros38 zeros41 at FD
  go_enter Tryd.func9, Tryd.ntmps9
  go_wp2_with (refine wpList_load_row rfl 41 (.tmp 3) rfl (w.heap.size + 1) rfl 41 MC (0, 0) _ FD.out.m Tryd.underlying41 rfl (infoMem SM.out) ?_)
  refine (LD.out _ FD.out.bel).mono ?_
  rintro e w1 ⟨rfl, hb1⟩
  have FD := Lib.hid (FD.out.later hb1)
  clear hb1
  go_wp2_with fail
  refine (DV.out _).mono ?_
  rintro e w2 ⟨rfl, hb2⟩
  have FD := Lib.hid ((FD.out.later hb2).later ((Below.refl _ _).alloc (Nat.le_refl _) (.cells #[.int .i64 0, .int .i64 0, .int .i64 0, .int .i64 0, .int .i64 0] 54)))
  clear hb2
  go_wp2_with fail
  generalize w2.alloc (.cells #[.int .i64 0, .int .i64 0, .int .i64 0, .int .i64 0, .int .i64 0] 54) = W at *
  have HC := Lib.hid FD.out.c
  have HM := Lib.hid FD.out.m
  have R1 := Lib.hid FD.out.r1
  have R2 := Lib.hid FD.out.r2
  have BV := Lib.hid FD.out.bel
  clear FD
  refine held_start 6 rfl (S := fun y => Whole y w.heap.size 38 C1 ∧ Whole y (w.heap.size + 1) 41 MC ∧ True) (by kernel_rfl) ⟨HC.out.drew', HM.out.drew', trivial⟩ (fun hS => ?_)
  refine wpAnyH_take (i := 0) (v := .agg C1) get0 ?_ ?_ ?_ ?_ ?_ hS ?_
  · kernel_rfl
  · kernel_rfl
  · kernel_rfl
  · exact fun _ _ _ h => h
  · exact take_load 38 (.tmp 2) rfl rfl (w.heap.size) rfl 38 C1 (fun _ h => h.1) _ Tryd.underlying38 rfl (infoCpu SZ0.out)
  refine wpAnyH_take (i := 1) (v := .int .i64 21) get1 ?_ ?_ ?_ ?_ ?_ hS ?_
  · kernel_rfl
  · kernel_rfl
  · kernel_rfl
  · exact fun _ _ _ h => h
  · exact take_slot (.tmp 7) rfl rfl (eval_ne (by decide) rfl)
  refine wpAnyH_take (i := 3) (v := .agg MC) get3 ?_ ?_ ?_ ?_ ?_ hS ?_
  · kernel_rfl
  · kernel_rfl
  · kernel_rfl
  · exact fun _ _ _ h => h
  · exact take_load 41 (.tmp 3) rfl rfl ((w.heap.size + 1)) (eval_ne (by decide) (eval_ne (by decide) rfl)) 41 MC (fun _ h => h.2.1) _ Tryd.underlying41 rfl (infoMem SM.out)
  refine held_step get2 (by kernel_rfl) (fun K hK => ?_)
  refine step_call2 Tryd.func24 rfl rfl rfl rfl (.agg C1) (.int .i64 21) (eval_ne (by decide) (eval_ne (by decide) (eval_at (n := 48) rfl (by decide)))) (eval_ne (by decide) (eval_at (n := 48) (size_put rfl) (by decide))) (CT.out _) ?_
  rintro e w1 ⟨rfl, hb1⟩
  refine ⟨_, rfl, ?_⟩
  have Z1 := Lib.hid (R1.out.drew'.below hb1 R1.out.lt)
  have Z2 := Lib.hid (R2.out.drew'.below hb1 R2.out.lt)
  have ZB := Lib.hid (BV.out.drew.trans (hb1.mono BV.out.size))
  refine hK.out _ _ ⟨hS.1.below hb1 HC.out.lt, hS.2.1.below hb1 HM.out.lt, trivial⟩ (fun hS2 => ?_)
  clear hK K hb1
  refine held_step get4 (by kernel_rfl) (fun K hK => ?_)
  refine step_store 38 (.tmp 4) (.tmp 40) rfl rfl (w.heap.size + 1 + 1) C2 (eval_ne (by decide) (eval_ne (by decide) (eval_ne (by decide) (eval_ne (by decide) rfl)))) (eval_at (n := 48) (size_put (size_put (size_put rfl))) (by decide)) 38 zeros38 Z1.out (infoCpu SZ.out) (by rw [SZ.out]; rfl) ONE.out ?_
  refine hK.out _ _ ⟨hS2.1.only (by omega) (Only.setRow _ (w.heap.size + 1 + 1) C2), hS2.2.1.only (by omega) (Only.setRow _ (w.heap.size + 1 + 1) C2), trivial⟩ (fun hS3 => ?_)
  clear hK K
  refine held_step get5 (by kernel_rfl) (fun K hK => ?_)
  refine step_store 41 (.tmp 5) (.tmp 41) rfl rfl (w.heap.size + 1 + 1 + 1) MC (eval_none (eval_ne (by decide) (eval_ne (by decide) (eval_ne (by decide) (eval_ne (by decide) rfl))))) (eval_none (eval_ne (by decide) (eval_at (n := 48) (size_put (size_put rfl)) (by decide)))) 41 zeros41 (Z2.out.only (by omega) (Only.setRow _ (w.heap.size + 1 + 1) C2)) (infoMem SM.out) (by rw [SM.out]; rfl) ONM.out ?_
  refine hK.out _ _ ⟨hS3.1.only (by omega) (Only.setRow _ (w.heap.size + 1 + 1 + 1) MC), hS3.2.1.only (by omega) (Only.setRow _ (w.heap.size + 1 + 1 + 1) MC), trivial⟩ (fun hS4 => ?_)
  clear hK K
  refine wpAnyH_done (by kernel_rfl) ?_ _
  go_wp2_with fail
  refine bodyPost_ret (v := .tuple #[.agg C2, .agg MC]) (results_two_rows2 rfl _ _ (w.heap.size + 1 + 1) (w.heap.size + 1 + 1 + 1) 38 41 C2 MC _ _ (eval_none (eval_none (eval_ne (by decide) (eval_ne (by decide) (eval_ne (by decide) (eval_ne (by decide) rfl)))))) (eval_none (eval_none (eval_ne (by decide) (eval_ne (by decide) (eval_ne (by decide) (eval_ne (by decide) rfl)))))) ((Z1.out.setRow C2).only (by omega) (Only.setRow _ (w.heap.size + 1 + 1 + 1) MC)) ((Z2.out.only (by omega) (Only.setRow _ (w.heap.size + 1 + 1) C2)).setRow MC) Tryd.underlying38 rfl (infoCpu SZ.out) Tryd.underlying41 rfl (infoMem SM.out)) rfl ⟨rfl, ((ZB.out.trans ((Only.setRow _ (w.heap.size + 1 + 1) C2).below (by omega) (by have := ZB.out.size; simpa using this))).trans ((Only.setRow _ (w.heap.size + 1 + 1 + 1) MC).below (by omega) (by have := ZB.out.size; simpa using this)))⟩

end Go.Proofs.YtinpdgjbiimgkaaDoor

/- The answers' do, by operation. -/
namespace Go.Proofs.YtinpdgjbiimgkaaDoor
open Go.ChangeShapes Go.WideShapes Go.ChangeAt Go.RowKit
set_option linter.unusedVariables false

/-- What 'do' leaves, R being what else is told of it. -/
def DoPost (R : Array Value → Array Value → World → Prop) (w : World) (e : Ending) (w' : World) : Prop :=
  ∃ C2 M2, e = .returned (.tuple #[.agg C2, .agg M2]) ∧ C2.size = 29 ∧ C2.all (·.oneCell') = true ∧ M2.size = 6 ∧ M2.all (·.oneCell') = true ∧ R C2 M2 w' ∧ Below w.heap.size w w'

/-- What 'Step' leaves behind it: but for two blocks of its own the same. -/
def StepPost (R : Array Value → Array Value → World → Prop) (w : World) (e : Ending) (w' : World) : Prop :=
  ∃ C2 M2 w1, e = .returned (.tuple #[.agg C2, .agg M2]) ∧ R C2 M2 w1 ∧ But [w.heap.size + 1 + 1, w.heap.size + 1 + 1 + 1] w1 w' ∧ Below w.heap.size w w'

set_option maxHeartbeats 8000000 in
set_option maxRecDepth 100000 in
theorem refstep_do (c : Cp) (A1 A2 : Option Addr) (n1 k1 n2 k2 : Nat) (MC : Array Value) (w : World) (hl : c.r.length = 16) (hm : MC.size = 6) (hm1 : MC.all (·.oneCell') = true) (hh m : Nat) (e0 e1 e2 e3 e4 : Int) (ws : List Int) (hMC : MC = memCells e0 e1 e2 e3 e4 hh m) (hW : Whole w hh 22 (words ws)) (hwl : ws.length = m) (hm2 : m ≤ 1000000) (h4 : e4 = 4 * m) (hws : ∀ z ∈ ws, U32 z) (h04 : e0 ≤ e4) (up : U32 c.pc) (s0 : 0 ≤ c.steps) (s1 : c.steps ≤ 1000000000) (hz : (c.st != 0) = false) (x : Int) (hx0 : readVal c.pc e0 ws = x) (hc : checkRes c.pc e0 = 0) (ux : U32 x) (hx : OkW x) (R : Array Value → Array Value → World → Prop) (hD : ∀ W, Below w.heap.size w W → w.heap.size + 1 + 1 + 1 < W.heap.size → Calls Tryd.prog 26 #[.agg (cpuCells (tick c) (.slice A1 n1 k1) (.slice A2 n2 k2)), .agg MC, .agg #[.int .i64 (x / 16777216), .int .i64 (decA x), .int .i64 (decB x), .int .i64 (decC x), .int .i64 (decN x)]] W (DoPost R W)) :
    Calls Tryd.prog 9 #[.agg (cpuCells c (.slice A1 n1 k1) (.slice A2 n2 k2)), .agg MC] w (StepPost R w) := by
  have SM := Lib.hid hm
  have ONM := Lib.hid hm1
  have g19 := cpuCells_st hl (.slice A1 n1 k1) (.slice A2 n2 k2)
  have LD := Lib.hid (fun w' hb => reffetch_any hh m e0 e1 e2 e3 e4 c.pc ws w' up (hW.below (B := w.heap.size) hb hW.lt) hwl hm2 h4 hws h04)
  rw [← hMC] at LD
  have g21 := cpuCells_steps hl (.slice A1 n1 k1) (.slice A2 n2 k2)
  have s21 := cpuCells_set_steps hl (.slice A1 n1 k1) (.slice A2 n2 k2) (c.steps + 1)
  have g16 := cpuCells_pc (c := (tick c)) hl (.slice A1 n1 k1) (.slice A2 n2 k2)
  have g16' := cpuCells_pc (c := c) hl (.slice A1 n1 k1) (.slice A2 n2 k2)
  rw [show ({ c with steps := c.steps + 1 } : Cp) = (tick c) from rfl] at s21
  have hl1 : ((tick c) : Cp).r.length = 16 := hl
  have SZ0 := Lib.hid (cpuCells_size hl1 (.slice A1 n1 k1) (.slice A2 n2 k2))
  rw [hc, hx0] at LD
  have DV := Lib.hid (fun w => refdecode_any x w ux.1 ux.2)
  rw [show decV x = .tuple #[instrV (x / 16777216) (decA x) (decB x) (decC x) (decN x), .int .i64 0] from if_pos hx] at DV
  unfold instrV at DV
  have DD := Lib.hid hD
  clear hl hl1 hm hm1 hc hws hW hMC hx ux hx0 hD
  unfold DoPost at DD
  unfold StepPost
  generalize cpuCells (tick c) (.slice A1 n1 k1) (.slice A2 n2 k2) = C1 at *
  generalize cpuCells c (.slice A1 n1 k1) (.slice A2 n2 k2) = C00 at *
  generalize x / 16777216 = x0 at *
  generalize decA x = x1 at *
  generalize decB x = x2 at *
  generalize decC x = x3 at *
  generalize decN x = x4 at *
  have FD := Lib.hid (fs_made w C1 MC)
  unfold zeros38 zeros41 at FD
  go_enter Tryd.func9, Tryd.ntmps9
  go_wp2_with (refine wpList_load_row rfl 41 (.tmp 3) rfl (w.heap.size + 1) rfl 41 MC (0, 0) _ FD.out.m Tryd.underlying41 rfl (infoMem SM.out) ?_)
  refine (LD.out _ FD.out.bel).mono ?_
  rintro e w1 ⟨rfl, hb1⟩
  have FD := Lib.hid (FD.out.later hb1)
  clear hb1
  go_wp2_with fail
  refine (DV.out _).mono ?_
  rintro e w2 ⟨rfl, hb2⟩
  have FD := Lib.hid ((FD.out.later hb2).later ((Below.refl _ _).alloc (Nat.le_refl _) (.cells #[.int .i64 x0, .int .i64 x1, .int .i64 x2, .int .i64 x3, .int .i64 x4] 54)))
  have WI := Lib.hid (Whole.made w2 54 #[.int .i64 x0, .int .i64 x1, .int .i64 x2, .int .i64 x3, .int .i64 x4] _ rfl)
  clear hb2
  go_wp2_with (first
    | (refine wpList_load_row rfl 38 (.tmp 2) rfl w.heap.size rfl 38 C1 (0, 0) _ FD.out.c Tryd.underlying38 rfl (infoCpu SZ0.out) ?_)
    | (refine wpList_load_row rfl 41 (.tmp 3) rfl (w.heap.size + 1) rfl 41 MC (0, 0) _ FD.out.m Tryd.underlying41 rfl (infoMem SM.out) ?_)
    | (refine wpList_load_row rfl 54 (.tmp 8) rfl w2.heap.size rfl 54 #[.int .i64 x0, .int .i64 x1, .int .i64 x2, .int .i64 x3, .int .i64 x4] (0, 0) _ WI.out Tryd.underlying54 rfl (infoI rfl) ?_))
  generalize w2.alloc (.cells #[.int .i64 x0, .int .i64 x1, .int .i64 x2, .int .i64 x3, .int .i64 x4] 54) = W at *
  refine (DD.out _ FD.out.bel FD.out.r2.lt).mono ?_
  rintro e w3 ⟨C2, M2, rfl, hz1, ho1, hz2, ho2, hR, hb3⟩
  have F3 := FD.out.later hb3
  have Z1 := Lib.hid F3.r1
  have Z2 := Lib.hid (F3.r2.only (show w.heap.size + 1 + 1 + 1 ≠ w.heap.size + 1 + 1 by omega) (Only.setRow w3 (w.heap.size + 1 + 1) C2))
  have BV := Lib.hid F3.bel
  have SZ := Lib.hid hz1
  have ONE := Lib.hid ho1
  have SM2 := Lib.hid hz2
  have ON2 := Lib.hid ho2
  have HR := Lib.hid hR
  clear hz1 ho1 hz2 ho2 hR hb3 F3 FD WI
  go_wp2_with (first
    | (refine wpList_store_row rfl 38 (.tmp 4) (.tmp 46) rfl (w.heap.size + 1 + 1) C2 rfl rfl 38 zeros38 Z1.out (infoCpu SZ.out) (by rw [SZ.out]; rfl) ONE.out ?_)
    | (refine wpList_store_row rfl 41 (.tmp 5) (.tmp 47) rfl (w.heap.size + 1 + 1 + 1) M2 rfl rfl 41 zeros41 Z2.out (infoMem SM2.out) (by rw [SM2.out]; rfl) ON2.out ?_))
  have o1 := Only.setRow w3 (w.heap.size + 1 + 1) C2
  have o2 := Only.setRow (w3.setRow (w.heap.size + 1 + 1) C2) (w.heap.size + 1 + 1 + 1) M2
  exact bodyPost_ret (v := .tuple #[.agg C2, .agg M2]) (results_two_rows rfl _ _ (w.heap.size + 1 + 1) (w.heap.size + 1 + 1 + 1) 38 41 C2 M2 _ _ rfl rfl ((Z1.out.setRow C2).only (by omega) o2) (Z2.out.setRow M2) Tryd.underlying38 rfl (infoCpu SZ.out) Tryd.underlying41 rfl (infoMem SM2.out)) rfl ⟨C2, M2, w3, rfl, HR.out, ((But.of_only o1).mono (fun k hk => by simp at hk; simp [hk])).trans ((But.of_only o2).mono (fun k hk => by simp at hk; simp [hk])), (BV.out.trans (o1.below (by omega) BV.out.size)).trans (o2.below (by omega) (Nat.le_trans BV.out.size o1.size))⟩

end Go.Proofs.YtinpdgjbiimgkaaDoor

/- The answers' processor: do, any operation; Step. -/
namespace Go.Proofs.YtinpdgjbiimgkaaDoor
open Go.ChangeShapes Go.WideShapes Go.ChangeAt Go.RowKit
set_option linter.unusedVariables false

/-- What is told of the answers' new values: the processor's, the memory's; where what went out and the words lie: where they lay, or behind N. -/
def EndR (N n0 hh m : Nat) (e0 e1 e2 e3 e4 : Int) (A1 : Option Addr) (i : Value) (s : St) (C2 M2 : Array Value) (w : World) : Prop :=
  ∃ A' k' h', C2 = cpuCells s.c (.slice A' s.out.length k') i ∧ M2 = memCells e0 e1 e2 e3 e4 h' m ∧ Evs w A' s.out.length s.out ∧ ((A' = A1 ∧ s.out.length = n0) ∨ ∀ b off, A' = some ⟨b, off, none⟩ → N ≤ b) ∧ Whole w h' 22 (words s.ws) ∧ (h' = hh ∨ N ≤ h')

theorem inp_one {A : Option Addr} {n k : Nat} : (Value.slice A n k).oneCell' = true := rfl

theorem endR_do {n0 hh m : Nat} {e0 e1 e2 e3 e4 : Int} {A1 : Option Addr} {i : Value} {s : St} {C2 M2 : Array Value} {w w' : World} (hi : i.oneCell' = true) (hl : s.c.r.length = 16) (h : EndR w.heap.size n0 hh m e0 e1 e2 e3 e4 A1 i s C2 M2 w') (hb : Below w.heap.size w w') {e : Ending} (he : e = .returned (.tuple #[.agg C2, .agg M2])) :
    DoPost (EndR w.heap.size n0 hh m e0 e1 e2 e3 e4 A1 i s) w e w' := by
  obtain ⟨A', k', h', rfl, rfl, r⟩ := h
  exact ⟨_, _, he, cpuCells_size hl _ _, cpu_one _ rfl hi, rfl, one_mem2 _ _ _ _ _ _ _, ⟨A', k', h', rfl, rfl, r⟩, hb⟩

theorem Evs.but2 {w w' : World} {A : Option Addr} {m : Nat} {evs : List (Int × Int)} {L : List Nat} (h : Evs w A m evs) (hb : But L w w') (hne : 0 < m → ∀ b off, A = some ⟨b, off, none⟩ → b ∉ L) : Evs w' A m evs := by
  by_cases h0 : 0 < m
  · exact h.but hb (hne h0)
  · exact ⟨h.1, fun h1 => absurd h1 h0⟩

theorem addrC_eq (c : Cp) (b : Nat) (n : Int) : addrC c b n = ((c.r.getD b 0) + n) % 4294967296 := by
  unfold addrC w32
  omega

set_option maxHeartbeats 8000000 in
theorem refdo_any (hh m n2 k1 k2 : Nat) (e0 e1 e2 e3 e4 : Int) (A1 A2 : Option Addr) (inp : List Int) (s : St) (op : Int) (a b cc : Nat) (n : Int) (w : World) (F : Fine m inp s) (hE : Evs w A1 s.out.length s.out) (hI : Nums .i32 w A2 n2 inp) (hW : Whole w hh 22 (words s.ws)) (hm2 : m ≤ 1000000) (h4 : e4 = 4 * m) (hmi : n2 ≤ 1000000) (hlen : s.out.length ≤ 900000000)
    (h1 : 1 ≤ op) (h34 : op ≤ 34) (ha : a < 16) (hb : b < 16) (hcc : cc < 16) (h33 : op = 33 → 0 ≤ n) :
    Calls Tryd.prog 26 #[.agg (cpuCells s.c (.slice A1 s.out.length k1) (.slice A2 n2 k2)), .agg (memCells e0 e1 e2 e3 e4 hh m), .agg #[.int .i64 op, .int .i64 a, .int .i64 b, .int .i64 cc, .int .i64 n]] w (DoPost (EndR w.heap.size s.out.length hh m e0 e1 e2 e3 e4 A1 (.slice A2 n2 k2) (exec e1 e4 inp op a b cc n s)) w) := by
  have ua := regs_u32 F.ru a
  have ub := regs_u32 F.ru b
  have uc := regs_u32 F.ru cc
  have hl := F.len
  have hml := hI.1
  have hm1 := one_mem2 e0 e1 e2 e3 e4 hh m
  have hlx : (exec e1 e4 inp op a b cc n s).c.r.length = 16 := (F.cp.exec e1 e4 F.wu op a b cc n hb).len
  have KC : ∀ {c' : Cp} {e : Ending} {w' : World}, (e = .returned (.tuple #[.agg (cpuCells c' (.slice A1 s.out.length k1) (.slice A2 n2 k2)), .agg (memCells e0 e1 e2 e3 e4 hh m)]) ∧ Below w.heap.size w w') → exec e1 e4 inp op a b cc n s = ⟨c', s.out, s.ws⟩ → DoPost (EndR w.heap.size s.out.length hh m e0 e1 e2 e3 e4 A1 (.slice A2 n2 k2) (exec e1 e4 inp op a b cc n s)) w e w' := by
    rintro c' e w' ⟨he, hb1⟩ hx
    rw [hx] at hlx ⊢
    exact endR_do rfl hlx ⟨A1, k1, hh, rfl, rfl, hE.below hb1, .inl ⟨rfl, rfl⟩, hW.below hb1 hW.lt, .inl rfl⟩ hb1 he
  rcases (show op = 1 ∨ op = 2 ∨ op = 3 ∨ op = 4 ∨ op = 5 ∨ op = 6 ∨ op = 7 ∨ op = 8 ∨ op = 9 ∨ op = 10 ∨ op = 11 ∨ op = 12 ∨ op = 13 ∨ op = 14 ∨ op = 15 ∨ op = 16 ∨ op = 17 ∨ op = 18 ∨ op = 19 ∨ op = 20 ∨ op = 21 ∨ op = 22 ∨ op = 23 ∨ op = 24 ∨ op = 25 ∨ op = 26 ∨ op = 27 ∨ op = 28 ∨ op = 29 ∨ op = 30 ∨ op = 31 ∨ op = 32 ∨ op = 33 ∨ op = 34 by omega) with rfl | rfl | rfl | rfl | rfl | rfl | rfl | rfl | rfl | rfl | rfl | rfl | rfl | rfl | rfl | rfl | rfl | rfl | rfl | rfl | rfl | rfl | rfl | rfl | rfl | rfl | rfl | rfl | rfl | rfl | rfl | rfl | rfl | rfl
  · exact (refdo_1 a b cc _ s.c A1 A2 _ k1 n2 k2 _ w ha hb hcc ub uc hl rfl hm1).mono (fun e w1 hp => KC hp (by simp [exec, execC, -List.getD_eq_getElem?_getD]))
  · exact (refdo_2 a b cc _ s.c A1 A2 _ k1 n2 k2 _ w ha hb hcc ub uc hl rfl hm1).mono (fun e w1 hp => KC hp (by simp [exec, execC, -List.getD_eq_getElem?_getD]))
  · exact (refdo_3 a b cc _ s.c A1 A2 _ k1 n2 k2 _ w ha hb hcc ub uc hl rfl hm1).mono (fun e w1 hp => KC hp (by simp [exec, execC, -List.getD_eq_getElem?_getD]))
  · exact (refdo_4 a b cc _ s.c A1 A2 _ k1 n2 k2 _ w ha hb hcc ub uc hl rfl hm1).mono (fun e w1 hp => KC hp (by simp [exec, execC, -List.getD_eq_getElem?_getD]))
  · exact (refdo_5 a b cc _ s.c A1 A2 _ k1 n2 k2 _ w ha hb hcc ub uc hl rfl hm1).mono (fun e w1 hp => KC hp (by simp [exec, execC, -List.getD_eq_getElem?_getD]))
  · exact (refdo_6 a b cc _ s.c A1 A2 _ k1 n2 k2 _ w ha hb hcc ub uc hl rfl hm1).mono (fun e w1 hp => KC hp (by simp [exec, execC, -List.getD_eq_getElem?_getD]))
  · exact (refdo_7 a b cc _ s.c A1 A2 _ k1 n2 k2 _ w ha hb hcc ub uc hl rfl hm1).mono (fun e w1 hp => KC hp (by simp [exec, execC, -List.getD_eq_getElem?_getD]))
  · exact (refdo_8 a b cc _ s.c A1 A2 _ k1 n2 k2 _ w ha hb hcc ub uc hl rfl hm1).mono (fun e w1 hp => KC hp (by simp [exec, execC, -List.getD_eq_getElem?_getD]))
  · by_cases hz : s.c.r.getD cc 0 = 0
    · exact (refdo_9_zero a b cc _ s.c A1 A2 _ k1 n2 k2 _ w ha hb hcc ub uc hl rfl hm1 hz).mono (fun e w1 hp => KC hp (by simp [exec, execC, -List.getD_eq_getElem?_getD, hz]))
    · exact (refdo_9 a b cc _ s.c A1 A2 _ k1 n2 k2 _ w ha hb hcc ub uc hl rfl hm1 hz).mono (fun e w1 hp => KC hp (by simp [exec, execC, -List.getD_eq_getElem?_getD, hz]))
  · by_cases hz : s.c.r.getD cc 0 = 0
    · exact (refdo_10_zero a b cc _ s.c A1 A2 _ k1 n2 k2 _ w ha hb hcc ub uc hl rfl hm1 hz).mono (fun e w1 hp => KC hp (by simp [exec, execC, -List.getD_eq_getElem?_getD, hz]))
    · exact (refdo_10 a b cc _ s.c A1 A2 _ k1 n2 k2 _ w ha hb hcc ub uc hl rfl hm1 hz).mono (fun e w1 hp => KC hp (by simp [exec, execC, -List.getD_eq_getElem?_getD, hz]))
  · exact (refdo_11 a b cc _ s.c A1 A2 _ k1 n2 k2 _ w ha hb hcc ub uc hl rfl hm1).mono (fun e w1 hp => KC hp (by simp [exec, execC, -List.getD_eq_getElem?_getD]))
  · exact (refdo_12 a b cc _ s.c A1 A2 _ k1 n2 k2 _ w ha hb hcc ub uc hl rfl hm1).mono (fun e w1 hp => KC hp (by simp [exec, execC, -List.getD_eq_getElem?_getD]))
  · exact (refdo_13 a b cc _ s.c A1 A2 _ k1 n2 k2 _ w ha hb hcc ub uc hl rfl hm1).mono (fun e w1 hp => KC hp (by simp [exec, execC, -List.getD_eq_getElem?_getD]))
  · exact (refdo_14 a b cc _ s.c A1 A2 _ k1 n2 k2 _ w ha hb hcc ub uc hl rfl hm1).mono (fun e w1 hp => KC hp (by simp [exec, execC, -List.getD_eq_getElem?_getD]))
  · exact (refdo_15 a b cc _ s.c A1 A2 _ k1 n2 k2 _ w ha hb hcc ub uc hl rfl hm1).mono (fun e w1 hp => KC hp (by simp [exec, execC, -List.getD_eq_getElem?_getD]))
  · exact (refdo_16 a b cc _ s.c A1 A2 _ k1 n2 k2 _ w ha hb hcc ub uc hl rfl hm1).mono (fun e w1 hp => KC hp (by simp [exec, execC, -List.getD_eq_getElem?_getD]))
  · exact (refdo_17 a b cc _ s.c A1 A2 _ k1 n2 k2 _ w ha hb hcc ub uc hl rfl hm1).mono (fun e w1 hp => KC hp (by simp [exec, execC, -List.getD_eq_getElem?_getD]))
  · by_cases hz : checkRes (addrC s.c b n) e4 = 0
    · exact (refdo_18_ok a b cc _ s.c A1 A2 _ k1 n2 k2 _ w ha hb hcc ub uc hl rfl hm1 hh m e0 e1 e2 e3 e4 s.ws rfl hW F.wl hm2 h4 F.wu (by rw [← addrC_eq]; exact hz)).mono (fun e w1 hp => KC hp (by (try simp only [addrC_eq] at hz); simp [exec, execC, -List.getD_eq_getElem?_getD, loadC, hz, addrC_eq]))
    · exact (refdo_18_err a b cc _ s.c A1 A2 _ k1 n2 k2 _ w ha hb hcc ub uc hl rfl hm1 hh m e0 e1 e2 e3 e4 s.ws rfl hW F.wl hm2 h4 F.wu _ rfl (by rw [← addrC_eq]; simpa using hz)).mono (fun e w1 hp => KC hp (by (try simp only [addrC_eq] at hz); simp [exec, execC, -List.getD_eq_getElem?_getD, loadC, hz, addrC_eq]))
  · by_cases hz : storeRes (addrC s.c b n) e1 e4 = 0
    · refine (refdo_19_ok a b cc n s.c A1 A2 _ k1 n2 k2 _ w ha hb hcc ub uc hl rfl hm1 hh m e0 e1 e2 e3 e4 s.ws rfl hW F.wl hm2 h4 F.wu ua (by rw [← addrC_eq]; exact hz)).mono ?_
      rintro e w1 ⟨h', he, hw, hh', hb1⟩
      have hz' := hz
      simp only [addrC_eq] at hz'
      refine endR_do rfl (by simpa [exec, execC, storeC, passC, faultC, hz] using hl) ⟨A1, k1, h', rfl, rfl, ?_, .inl ⟨rfl, by simp [exec]⟩, ?_, hh'⟩ hb1 (by rw [he]; simp [exec, execC, storeC, addrC_eq, -List.getD_eq_getElem?_getD, hz'])
      · exact hE.below hb1
      · simpa [exec, execC, addrC_eq, storeWs, hz', -List.getD_eq_getElem?_getD] using hw
    · refine (refdo_19_err a b cc n s.c A1 A2 _ k1 n2 k2 _ w ha hb hcc ub uc hl rfl hm1 hh m e0 e1 e2 e3 e4 s.ws rfl hW F.wl hm2 h4 F.wu ua _ rfl (by rw [← addrC_eq]; simpa using hz)).mono ?_
      rintro e w1 ⟨h', he, hw, hh', hb1⟩
      have hz' := hz
      simp only [addrC_eq] at hz'
      refine endR_do rfl (by simpa [exec, execC, storeC, passC, faultC, hz] using hl) ⟨A1, k1, h', rfl, rfl, ?_, .inl ⟨rfl, by simp [exec]⟩, ?_, hh'⟩ hb1 (by rw [he]; simp [exec, execC, storeC, addrC_eq, -List.getD_eq_getElem?_getD, hz'])
      · exact hE.below hb1
      · simpa [exec, execC, addrC_eq, storeWs, hz', -List.getD_eq_getElem?_getD] using hw
  · by_cases hz : s.c.r.getD a 0 = 0
    · exact (refdo_20_true a b cc _ s.c A1 A2 _ k1 n2 k2 _ w ha hb hcc ub uc hl rfl hm1 (by simp [-List.getD_eq_getElem?_getD, hz])).mono (fun e w1 hp => KC hp (by simp [exec, execC, -List.getD_eq_getElem?_getD, hz]))
    · exact (refdo_20_false a b cc _ s.c A1 A2 _ k1 n2 k2 _ w ha hb hcc ub uc hl rfl hm1 (by simp [-List.getD_eq_getElem?_getD, hz])).mono (fun e w1 hp => KC hp (by simp [exec, execC, -List.getD_eq_getElem?_getD, hz]))
  · by_cases hz : s.c.r.getD a 0 = 0
    · exact (refdo_21_false a b cc _ s.c A1 A2 _ k1 n2 k2 _ w ha hb hcc ub uc hl rfl hm1 (by simp [-List.getD_eq_getElem?_getD, hz])).mono (fun e w1 hp => KC hp (by simp [exec, execC, -List.getD_eq_getElem?_getD, hz]))
    · exact (refdo_21_true a b cc _ s.c A1 A2 _ k1 n2 k2 _ w ha hb hcc ub uc hl rfl hm1 (by simp [-List.getD_eq_getElem?_getD, hz])).mono (fun e w1 hp => KC hp (by simp [exec, execC, -List.getD_eq_getElem?_getD, hz]))
  · exact (refdo_22 a b cc _ s.c A1 A2 _ k1 n2 k2 _ w ha hb hcc ub uc hl rfl hm1).mono (fun e w1 hp => KC hp (by simp [exec, execC, -List.getD_eq_getElem?_getD]))
  · exact (refdo_23 a b cc _ s.c A1 A2 _ k1 n2 k2 _ w ha hb hcc ub uc hl rfl hm1).mono (fun e w1 hp => KC hp (by simp [exec, execC, -List.getD_eq_getElem?_getD]))
  · exact (refdo_24 a b cc _ s.c A1 A2 _ k1 n2 k2 _ w ha hb hcc ub uc hl rfl hm1 ua).mono (fun e w1 hp => KC hp (by simp [exec, execC, -List.getD_eq_getElem?_getD]))
  · exact (refdo_25 a b cc _ s.c A1 A2 _ k1 n2 k2 _ w ha hb hcc ub uc hl rfl hm1 ua).mono (fun e w1 hp => KC hp (by simp [exec, execC, -List.getD_eq_getElem?_getD]))
  · by_cases hz : s.c.r.getD a 0 < w32 n
    · exact (refdo_26_pass a b cc _ s.c A1 A2 _ k1 n2 k2 _ w ha hb hcc ub uc hl rfl hm1 ua (decide_eq_false (by unfold w32 at hz; omega))).mono (fun e w1 hp => KC hp (by simp [exec, execC, -List.getD_eq_getElem?_getD, hz]))
    · exact (refdo_26_trap a b cc _ s.c A1 A2 _ k1 n2 k2 _ w ha hb hcc ub uc hl rfl hm1 ua (decide_eq_true (by unfold w32 at hz; omega))).mono (fun e w1 hp => KC hp (by simp [exec, execC, -List.getD_eq_getElem?_getD, hz]))
  · by_cases hz : s.c.r.getD a 0 = 0
    · exact (refdo_27_trap a b cc _ s.c A1 A2 _ k1 n2 k2 _ w ha hb hcc ub uc hl rfl hm1 ua (by simp [-List.getD_eq_getElem?_getD, hz])).mono (fun e w1 hp => KC hp (by simp [exec, execC, -List.getD_eq_getElem?_getD, hz]))
    · exact (refdo_27_pass a b cc _ s.c A1 A2 _ k1 n2 k2 _ w ha hb hcc ub uc hl rfl hm1 ua (by simp [-List.getD_eq_getElem?_getD, hz])).mono (fun e w1 hp => KC hp (by simp [exec, execC, -List.getD_eq_getElem?_getD, hz]))
  · exact (refdo_28 a b cc _ s.c A1 A2 _ k1 n2 k2 _ w ha hb hcc ub uc hl rfl hm1 ua).mono (fun e w1 hp => KC hp (by simp [exec, execC, -List.getD_eq_getElem?_getD, w32]))
  · exact (refdo_29 a b cc _ s.c A1 A2 _ k1 n2 k2 _ w ha hb hcc ub uc hl rfl hm1 ua).mono (fun e w1 hp => KC hp (by simp [exec, execC, -List.getD_eq_getElem?_getD]))
  · refine (refdo_30 a b cc n s.c A1 A2 _ k1 n2 k2 _ w ha hb hcc ub uc hl rfl hm1 ua s.out hE hlen).mono ?_
    rintro e w1 ⟨A', k', he, hfr, hev, hb1⟩
    refine endR_do rfl (by simpa [exec, execC, passC] using hl) ⟨A', k', hh, rfl, rfl, ?_, .inr hfr, ?_, .inl rfl⟩ hb1 (by rw [he]; simp [exec, execC, -List.getD_eq_getElem?_getD])
    · simpa [exec, execC, -List.getD_eq_getElem?_getD] using hev
    · exact hW.below hb1 hW.lt
  · obtain ⟨k, hk⟩ := Int.eq_ofNat_of_zero_le F.tk.1
    by_cases hz : n2 ≤ k
    · exact (refdo_31_trap a b cc _ s.c A1 A2 _ k1 n2 k2 _ w ha hb hcc ub uc hl rfl hm1 ua k hk (decide_eq_true hz)).mono (fun e w1 hp => KC hp (by simp [exec, execC, -List.getD_eq_getElem?_getD, hk, hml, hz]))
    · exact (refdo_31_some a b cc _ s.c A1 A2 _ k1 n2 k2 _ w ha hb hcc ub uc hl rfl hm1 ua k hk (by omega) hmi inp hI).mono (fun e w1 hp => KC hp (by simp [exec, execC, -List.getD_eq_getElem?_getD, hk, hml, hz]))
  · by_cases hz : wrap32 s.c.li ≤ wrap32 (s.c.r.getD a 0)
    · exact (refdo_32_pass a b cc _ s.c A1 A2 _ k1 n2 k2 _ w ha hb hcc ub uc hl rfl hm1 ua (decide_eq_false (by omega))).mono (fun e w1 hp => KC hp (by simp [exec, execC, -List.getD_eq_getElem?_getD, hz]))
    · exact (refdo_32_trap a b cc _ s.c A1 A2 _ k1 n2 k2 _ w ha hb hcc ub uc hl rfl hm1 ua (decide_eq_true (by omega))).mono (fun e w1 hp => KC hp (by simp [exec, execC, -List.getD_eq_getElem?_getD, hz]))
  · rcases (show n = 0 ∨ n = 1 ∨ 1 < n by omega) with rfl | rfl | hz
    · exact (refdo_33_0 a b cc _ s.c A1 A2 _ k1 n2 k2 _ w ha hb hcc ub uc hl rfl hm1 ua (by decide) (by decide)).mono (fun e w1 hp => KC hp (by simp [exec, execC, -List.getD_eq_getElem?_getD]))
    · exact (refdo_33_1 a b cc _ s.c A1 A2 _ k1 n2 k2 _ w ha hb hcc ub uc hl rfl hm1 ua (by decide) (by decide)).mono (fun e w1 hp => KC hp (by simp [exec, execC, -List.getD_eq_getElem?_getD]))
    · exact (refdo_33_bad a b cc _ s.c A1 A2 _ k1 n2 k2 _ w ha hb hcc ub uc hl rfl hm1 ua (decide_eq_true hz)).mono (fun e w1 hp => KC hp (by simp [exec, execC, -List.getD_eq_getElem?_getD, show ¬ n = 0 by omega, show ¬ n = 1 by omega]))
  · exact (refdo_34 a b cc _ s.c A1 A2 _ k1 n2 k2 _ w ha hb hcc ub uc hl rfl hm1).mono (fun e w1 hp => KC hp (by simp [exec, execC, -List.getD_eq_getElem?_getD]))

/-- What the answers' Step leaves. -/
def StepEnd (m n2 k2 : Nat) (e0 e1 e2 e3 e4 : Int) (A1 : Option Addr) (hh n0 : Nat) (A2 : Option Addr) (s : St) (w : World) (e : Ending) (w' : World) : Prop :=
  ∃ A' k' h', e = .returned (.tuple #[.agg (cpuCells s.c (.slice A' s.out.length k') (.slice A2 n2 k2)), .agg (memCells e0 e1 e2 e3 e4 h' m)]) ∧ Evs w' A' s.out.length s.out ∧ ((A' = A1 ∧ s.out.length = n0) ∨ ∀ b off, A' = some ⟨b, off, none⟩ → w.heap.size ≤ b) ∧ Whole w' h' 22 (words s.ws) ∧ (h' = hh ∨ w.heap.size ≤ h') ∧ Below w.heap.size w w'

set_option maxHeartbeats 8000000 in
theorem refstep_any (hh m n2 k1 k2 : Nat) (e0 e1 e2 e3 e4 : Int) (A1 A2 : Option Addr) (inp : List Int) (s : St) (w : World) (F : Fine m inp s) (hE : Evs w A1 s.out.length s.out) (hI : Nums .i32 w A2 n2 inp) (hW : Whole w hh 22 (words s.ws)) (hm2 : m ≤ 1000000) (h4 : e4 = 4 * m) (he0 : e0 ≤ e4) (hmi : n2 ≤ 1000000) (hlen : s.out.length ≤ 900000000) (hs0 : 0 ≤ s.c.steps) (hs1 : s.c.steps ≤ 1000000000) :
    Calls Tryd.prog 9 #[.agg (cpuCells s.c (.slice A1 s.out.length k1) (.slice A2 n2 k2)), .agg (memCells e0 e1 e2 e3 e4 hh m)] w (StepEnd m n2 k2 e0 e1 e2 e3 e4 A1 hh s.out.length A2 (stepS e0 e1 e4 inp s) w) := by
  have hl := F.len
  have hm1 := one_mem2 e0 e1 e2 e3 e4 hh m
  by_cases hst : s.c.st = 0
  case neg =>
    rw [step_stop hst]
    refine (refstep_stop s.c A1 A2 _ k1 n2 k2 _ w hl rfl hm1 (by simpa using hst)).mono ?_
    rintro e w' ⟨he, hb⟩
    exact ⟨A1, k1, hh, he, hE.below hb, .inl ⟨rfl, rfl⟩, hW.below hb hW.lt, .inl rfl, hb⟩
  have hz : (s.c.st != 0) = false := by simpa using hst
  by_cases her : checkRes s.c.pc e0 = 0
  case neg =>
    rw [step_fetch hst her]
    refine (refstep_fetch s.c A1 A2 _ k1 n2 k2 _ w hl rfl hm1 hh m e0 e1 e2 e3 e4 s.ws rfl hW F.wl hm2 h4 F.wu he0 F.pc hs0 hs1 hz _ rfl (by simpa using her)).mono ?_
    rintro e w' ⟨he, hb⟩
    exact ⟨A1, k1, hh, he, hE.below hb, .inl ⟨rfl, rfl⟩, hW.below hb hW.lt, .inl rfl, hb⟩
  have hx : U32 (readVal s.c.pc e0 s.ws) := by
    unfold readVal
    rw [if_pos her]
    exact wordOfs F.wu _
  by_cases hok : OkW (readVal s.c.pc e0 s.ws)
  case neg =>
    rw [step_word hst her hok]
    refine (refstep_word s.c A1 A2 _ k1 n2 k2 _ w hl rfl hm1 hh m e0 e1 e2 e3 e4 s.ws rfl hW F.wl hm2 h4 F.wu he0 F.pc hs0 hs1 hz her hx hok).mono ?_
    rintro e w' ⟨he, hb⟩
    exact ⟨A1, k1, hh, he, hE.below hb, .inl ⟨rfl, rfl⟩, hW.below hb hW.lt, .inl rfl, hb⟩
  rw [step_exec hst her hok]
  obtain ⟨a, b, cc, ha, hb, hcc, e1', e2', e3', ea, eb, ec⟩ := dec_regs hx.1 hx.2 hok.1
  obtain ⟨o1, o2⟩ := shapeOf_some hok.1
  have h33 : readVal s.c.pc e0 s.ws / 16777216 = 33 → 0 ≤ decN (readVal s.c.pc e0 s.ws) := fun h => by
    obtain ⟨_, _, _, _, _, _, _, _, _, hlo, _⟩ := decGood hx.1 hx.2 hok.1
    rw [h] at hlo
    exact hlo
  rw [ea, eb, ec]
  have FT := FineC.fine (s := ⟨tick s.c, s.out, s.ws⟩) F.cp.tick F.wl F.wu
  refine (refstep_do s.c A1 A2 _ k1 n2 k2 _ w hl rfl hm1 hh m e0 e1 e2 e3 e4 s.ws rfl hW F.wl hm2 h4 F.wu he0 F.pc hs0 hs1 hz _ rfl her hx hok (EndR (w.heap.size + 1 + 1 + 1 + 1) s.out.length hh m e0 e1 e2 e3 e4 A1 (.slice A2 n2 k2) (exec e1 e4 inp (readVal s.c.pc e0 s.ws / 16777216) a b cc (decN (readVal s.c.pc e0 s.ws)) ⟨tick s.c, s.out, s.ws⟩)) ?_).mono ?_
  · intro W hb1 hlt
    rw [e1', e2', e3']
    refine (refdo_any hh m n2 k1 k2 e0 e1 e2 e3 e4 A1 A2 inp ⟨tick s.c, s.out, s.ws⟩ _ a b cc _ W FT (hE.below hb1) (hI.below hb1) (hW.below hb1 hW.lt) hm2 h4 hmi hlen o1 o2 ha hb hcc h33).mono ?_
    rintro e w' ⟨C2, M2, he, z1, y1, z2, y2, ⟨A', k', h', q1, q2, q3, q4, q5, q6⟩, hb2⟩
    exact ⟨C2, M2, he, z1, y1, z2, y2, ⟨A', k', h', q1, q2, q3, q4.imp id (fun h b off hA => Nat.le_trans hlt (h b off hA)), q5, q6.imp id (fun h => Nat.le_trans hlt h)⟩, hb2⟩
  · rintro e w' ⟨C2, M2, w1, he, ⟨A', k', h', rfl, rfl, q3, q4, q5, q6⟩, hbt, hb2⟩
    have hhl := hW.lt
    refine ⟨A', k', h', he, ?_, q4.imp id (fun h b off hA => by have := h b off hA; omega), ?_, q6.imp id (fun h => by omega), hb2⟩
    · refine q3.but2 hbt (fun h0 b off hA => ?_)
      rcases q4 with ⟨rfl, q4⟩ | q4
      · obtain ⟨b2, o2, hA2, hlt, _⟩ := hE.2 (by omega)
        rw [hA] at hA2
        injection hA2 with hA2
        injection hA2 with hA2
        simp
        omega
      · have := q4 b off hA
        simp
        omega
    · refine hbt.whole q5 ?_
      simp
      omega
end Go.Proofs.YtinpdgjbiimgkaaDoor
