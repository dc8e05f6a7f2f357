/- CpuK CpuL CpuM CpuN in one. -/
import Derived.Test.YtinpdgjbiimgkaaDoorCpuEJ
import Derived.Test.YtinpdgjbiimgkaaDoorInstrJJ
import Derived.Lib.BufferMore
import Derived.Test.YtinpdgjbiimgkaaDoorMemE
import Derived.Test.YtinpdgjbiimgkaaDoorInstrE

/- Package cpu: Step. -/
namespace Go.Proofs.YtinpdgjbiimgkaaDoor
open Go.ChangeShapes Go.WideShapes Go.ChangeAt Go.RowKit
set_option linter.unusedVariables false

theorem ShapesIn.but {w w' : World} {L : List Nat} (h : ShapesIn w) (hb : But L w w') (hn : 0 ∉ L) : ShapesIn w' := fun i => by
  have e := hb.block _ h.lt hn
  have g := h i
  simp only [World.cell?, e] at *
  exact g

section
variable {w w' : World} {B p q h m : Nat} {e0 e1 e2 e3 e4 : Int} {v v' : Value} {A : Option Addr} {mi cap : Nat} {inp : List Int} {s s' : St}

theorem Mach.but0 (M : Mach w B p q h m e0 e1 e2 e3 e4 v A mi cap inp s) (hb : But [] w w') : Mach w' B p q h m e0 e1 e2 e3 e4 v A mi cap inp s :=
  { cpu := hb.cpu M.cpu (by simp), mem := hb.whole M.mem (by simp), wds := hb.whole M.wds (by simp), outs := M.outs.but hb (fun b hv hm => by simp at hm), inps := M.inps.but hb (fun b off ha hm => by simp at hm), pq := M.pq, ph := M.ph, qh := M.qh, vp := M.vp, vq := M.vq, vh := M.vh, ia := M.ia, lp := M.lp, lh := M.lh, lw := Nat.le_trans M.lw hb.size }

theorem Mach.below (M : Mach w B p q h m e0 e1 e2 e3 e4 v A mi cap inp s) (hb : Below w.heap.size w w') : Mach w' B p q h m e0 e1 e2 e3 e4 v A mi cap inp s := M.but0 (.of_below hb (Nat.le_refl _))

theorem Mach.alloc (M : Mach w B p q h m e0 e1 e2 e3 e4 v A mi cap inp s) (o : Obj) : Mach (w.alloc o) B p q h m e0 e1 e2 e3 e4 v A mi cap inp s := M.but0 ((But.refl [] w).alloc o)

theorem Mach.own_ge (M : Mach w B p q h m e0 e1 e2 e3 e4 v A mi cap inp s) : ∀ k, k ∈ p :: h :: ownList v → B ≤ k := by
  intro k hk
  simp only [List.mem_cons] at hk
  rcases hk with rfl | rfl | hk
  · exact M.lp
  · exact M.lh
  · exact (M.outs.lt k (mem_own.1 hk)).1

theorem Mach.shapes (M : Mach w B p q h m e0 e1 e2 e3 e4 v A mi cap inp s) (hS : ShapesIn w) (hg : 0 < B) (hb : But (p :: h :: ownList v) w w') : ShapesIn w' :=
  hS.but hb (fun hm => by have := M.own_ge _ hm; omega)

/-- What turned, seen from ahead of an earlier turn. -/
theorem Mach.but_more (M : Mach w B p q h m e0 e1 e2 e3 e4 v A mi cap inp s) {x : World} (hb : But (p :: h :: ownList v) w w') (hn : Newer w v v') (hc : But (p :: h :: ownList v') w' x) : But (p :: h :: ownList v) w x :=
  ⟨hc.os.trans hb.os, hc.tape.trans hb.tape, hc.output.trans hb.output, Nat.le_trans hb.size hc.size, fun k hk hk2 => by
    refine (hc.block k (Nat.lt_of_lt_of_le hk hb.size) (fun hm => ?_)).trans (hb.block k hk hk2)
    simp only [List.mem_cons] at hm hk2
    rcases hm with h1 | h1 | h1
    · exact hk2 (.inl h1)
    · exact hk2 (.inr (.inl h1))
    · have h2 := mem_own.1 h1
      rcases hn with h3 | ⟨b, h3, h4⟩
      · exact hk2 (.inr (.inr (mem_own.2 (h3 ▸ h2))))
      · rw [h3] at h2
        injection h2 with h2
        omega⟩

theorem Newer.trans {v'' : Value} {x : World} (h1 : Newer w v v') (hw : w.heap.size ≤ x.heap.size) (h2 : Newer x v' v'') : Newer w v v'' := by
  rcases h2 with h | ⟨b, h, hb⟩
  · rcases h1 with h' | ⟨b, h', hb⟩
    · exact .inl (h.trans h')
    · exact .inr ⟨b, h.trans h', hb⟩
  · exact .inr ⟨b, h, Nat.le_trans hw hb⟩
end

theorem step_stop {e0 e1 e4 : Int} {inp : List Int} {s : St} (h : ¬ s.c.st = 0) : stepS e0 e1 e4 inp s = s := by
  unfold stepS
  rw [if_neg h]

theorem step_fetch {e0 e1 e4 : Int} {inp : List Int} {s : St} (h : s.c.st = 0) (h1 : ¬ checkRes s.c.pc e0 = 0) : stepS e0 e1 e4 inp s = { s with c := faultC (tick s.c) (checkRes s.c.pc e0) } := by
  unfold stepS
  rw [if_pos h, if_neg h1]

theorem step_word {e0 e1 e4 : Int} {inp : List Int} {s : St} (h : s.c.st = 0) (h1 : checkRes s.c.pc e0 = 0) (h2 : ¬ OkW (readVal s.c.pc e0 s.ws)) : stepS e0 e1 e4 inp s = { s with c := faultC (tick s.c) 21 } := by
  unfold stepS
  rw [if_pos h, if_pos h1, if_neg h2]

theorem step_exec {e0 e1 e4 : Int} {inp : List Int} {s : St} (h : s.c.st = 0) (h1 : checkRes s.c.pc e0 = 0) (h2 : OkW (readVal s.c.pc e0 s.ws)) : stepS e0 e1 e4 inp s = exec e1 e4 inp (readVal s.c.pc e0 s.ws / 16777216) (decA (readVal s.c.pc e0 s.ws)).toNat (decB (readVal s.c.pc e0 s.ws)).toNat (decC (readVal s.c.pc e0 s.ws)).toNat (decN (readVal s.c.pc e0 s.ws)) { s with c := tick s.c } := by
  unfold stepS
  rw [if_pos h, if_pos h1, if_pos h2]

set_option maxHeartbeats 8000000 in
set_option maxRecDepth 100000 in
theorem cstep_any (B p q h m : Nat) (e0 e1 e2 e3 e4 : Int) (v : Value) (A : Option Addr) (mi cap : Nat) (inp : List Int) (s : St) (w : World) (M : Mach w B p q h m e0 e1 e2 e3 e4 v A mi cap inp s) (F : Fine m inp s) (hS : ShapesIn w) (hg : 0 < B)
    (hi : ∀ b off, A = some ⟨b, off, none⟩ → b < w.heap.size) (hl : e4 = 4 * m) (he0 : e0 ≤ e4) (hmi : mi ≤ 1000000) (hlen : s.out.length ≤ 900000000) (hui : ∀ z ∈ inp, (Lit.int .i32 z).wf = true) (hs0 : 0 ≤ s.c.steps) (hs1 : s.c.steps ≤ 1000000000) :
    Calls Tryd.prog 10 #[.pointer (some ⟨p, 0, none⟩), .pointer (some ⟨q, 0, none⟩)] w (XPost B p q h m e0 e1 e2 e3 e4 v A mi cap inp (stepS e0 e1 e4 inp s) (.int .i64 (stepS e0 e1 e4 inp s).c.st) w) := by
  have q19 := M.cpu.st
  by_cases hst : s.c.st = 0
  case neg =>
    rw [step_stop hst]
    have d : (s.c.st != 0) = true := by simpa using hst
    have MM := Lib.hid M
    clear M F hst
    unfold XPost
    go_enter Tryd.func10, Tryd.ntmps10
    go_wp2_with fail
    go_ret
    exact ⟨rfl, v, MM.out, .inl rfl, But.refl _ _⟩
  have hst' := hst
  rw [hst] at q19
  have q21 := M.cpu.steps
  have hf := M.cpu.free
  have M1 := M.step_c (s' := ⟨tick s.c, s.out, s.ws⟩) (M.cpu.set_steps (s.c.steps + 1)) ((But.refl [p] w).setCell ⟨p, 21, none⟩ _ (by simp)) rfl
  have B1 := Lib.hid (but_p (h := h) (v := v) ((But.refl [p] w).setCell ⟨p, 21, none⟩ (.int .i64 (s.c.steps + 1)) (by simp)))
  have S1 := Lib.hid (M.shapes hS hg B1.out)
  have hi1 : ∀ b off, A = some ⟨b, off, none⟩ → b < (w.setCell ⟨p, 21, none⟩ (.int .i64 (s.c.steps + 1))).heap.size := fun b off ha => Nat.lt_of_lt_of_le (hi b off ha) B1.out.size
  have FT := Lib.hid (fetch_any q h m s.c.pc e0 s.ws _ F.pc (M1.mem.cell 0) (M1.mem.cell 5) M1.wds F.wl (by omega) F.wu)
  have pc16 := M1.cpu.pc
  have MM := Lib.hid M1
  have FF := Lib.hid (show Fine m inp ⟨tick s.c, s.out, s.ws⟩ from FineC.fine F.cp.tick F.wl F.wu)
  have OG := Lib.hid M.own_ge
  have hpz : p < w.heap.size := M.cpu.lt
  clear M1 hS
  by_cases her : checkRes s.c.pc e0 = 0
  case neg =>
    rw [step_fetch hst her]
    have d : (checkRes s.c.pc e0 != 0) = true := by simpa using her
    have CF := Lib.hid (fun z w hC => cfault_any p (tick s.c) v (.slice A mi cap) z w hC)
    clear M F her hst
    generalize checkRes s.c.pc e0 = er at *
    generalize readVal s.c.pc e0 s.ws = rv at *
    have pc16' : (w.setCell ⟨p, 21, none⟩ (.int .i64 (s.c.steps + 1))).cell? ⟨p, 16, none⟩ = some (.int .u32 s.c.pc) := pc16
    clear pc16
    unfold XPost
    unfold CPost at CF
    go_enter Tryd.func10, Tryd.ntmps10
    go_wp2_with fail
    refine FT.out.mono ?_
    rintro e w' ⟨rfl, rfl⟩
    go_wp2_with fail
    refine (CF.out _ _ MM.out.cpu).mono ?_
    rintro e w2 ⟨rfl, hc, hb⟩
    have r19 := hc.st
    have M2 := Lib.hid (MM.out.step_c (s' := ⟨faultC (tick s.c) er, s.out, s.ws⟩) hc hb rfl)
    have B2 := Lib.hid (B1.out.trans (but_p hb))
    clear hc hb
    go_wp2_with fail
    go_ret
    exact ⟨rfl, v, M2.out, .inl rfl, B2.out⟩
  rw [her] at FT
  have hx : U32 (readVal s.c.pc e0 s.ws) := by
    unfold readVal
    rw [if_pos her]
    exact wordOfs F.wu _
  by_cases hok : OkW (readVal s.c.pc e0 s.ws)
  case neg =>
    rw [step_word hst her hok]
    have hV : decV (readVal s.c.pc e0 s.ws) = .tuple #[instrV 0 0 0 0 0, .int .i64 21] := by
      unfold decV
      exact if_neg hok
    have DC := Lib.hid (fun w hs => decode_any (readVal s.c.pc e0 s.ws) w hs hx.1 hx.2)
    rw [hV] at DC
    unfold instrV at DC
    have CF := Lib.hid (fun z w hC => cfault_any p (tick s.c) v (.slice A mi cap) z w hC)
    have pc16' : (w.setCell ⟨p, 21, none⟩ (.int .i64 (s.c.steps + 1))).cell? ⟨p, 16, none⟩ = some (.int .u32 s.c.pc) := pc16
    clear M F her hst hok hV hx pc16
    generalize readVal s.c.pc e0 s.ws = rv at *
    unfold XPost
    unfold CPost at CF
    go_enter Tryd.func10, Tryd.ntmps10
    go_wp2_with fail
    refine FT.out.mono ?_
    rintro e w' ⟨rfl, rfl⟩
    go_wp2_with fail
    refine (DC.out _ S1.out).mono ?_
    rintro e w2 ⟨rfl, hb2⟩
    have M2 := Lib.hid ((MM.out.below hb2).alloc (.cells #[.int .i64 0, .int .i64 0, .int .i64 0, .int .i64 0, .int .i64 0] 51))
    have B2 := Lib.hid ((B1.out.trans (.of_below hb2 (Nat.le_refl _))).alloc (.cells #[.int .i64 0, .int .i64 0, .int .i64 0, .int .i64 0, .int .i64 0] 51))
    clear hb2
    go_wp2_with fail
    refine (CF.out _ _ M2.out.cpu).mono ?_
    rintro e w3 ⟨rfl, hc, hb⟩
    have r19 := hc.st
    have M3 := Lib.hid (M2.out.step_c (s' := ⟨faultC (tick s.c) 21, s.out, s.ws⟩) hc hb rfl)
    have B3 := Lib.hid (B2.out.trans (but_p hb))
    clear hc hb
    go_wp2_with fail
    go_ret
    exact ⟨rfl, v, M3.out, .inl rfl, B3.out⟩
  rw [step_exec hst her hok]
  obtain ⟨a, b, cc, ha, hb, hcc, e1', e2', e3', ea, eb, ec⟩ := dec_regs hx.1 hx.2 hok.1
  obtain ⟨o1, o2⟩ := shapeOf_some hok.1
  have hV := decV_yes hok.1 hok.2
  have DC := Lib.hid (fun w hs => decode_any (readVal s.c.pc e0 s.ws) w hs hx.1 hx.2)
  rw [hV] at DC
  unfold instrV at DC
  rw [e1', e2', e3'] at DC
  rw [ea, eb, ec]
  have EX := Lib.hid (fun w M hi => cexecute_any B p q h m e0 e1 e2 e3 e4 v A mi cap inp ⟨tick s.c, s.out, s.ws⟩ (readVal s.c.pc e0 s.ws / 16777216) a b cc (decN (readVal s.c.pc e0 s.ws)) w M FF.out hi hl hmi hlen hui o1 o2 ha hb hcc)
  have pc16' : (w.setCell ⟨p, 21, none⟩ (.int .i64 (s.c.steps + 1))).cell? ⟨p, 16, none⟩ = some (.int .u32 s.c.pc) := pc16
  have HI := Lib.hid hi1
  clear M F her hst hok hV hx pc16 ea eb ec e1' e2' e3' hi hi1 o1 o2
  generalize exec e1 e4 inp (readVal s.c.pc e0 s.ws / 16777216) a b cc (decN (readVal s.c.pc e0 s.ws)) ⟨tick s.c, s.out, s.ws⟩ = s' at *
  generalize decN (readVal s.c.pc e0 s.ws) = n at *
  generalize readVal s.c.pc e0 s.ws = rv at *
  generalize rv / 16777216 = op at *
  unfold XPost at *
  go_enter Tryd.func10, Tryd.ntmps10
  go_wp2_with fail
  refine FT.out.mono ?_
  rintro e w' ⟨rfl, rfl⟩
  go_wp2_with fail
  refine (DC.out _ S1.out).mono ?_
  rintro e w2 ⟨rfl, hb2⟩
  have M2 := Lib.hid ((MM.out.below hb2).alloc (.cells #[.int .i64 op, .int .i64 a, .int .i64 b, .int .i64 cc, .int .i64 n] 51))
  have B2 := Lib.hid ((B1.out.trans (.of_below hb2 (Nat.le_refl _))).alloc (.cells #[.int .i64 op, .int .i64 a, .int .i64 b, .int .i64 cc, .int .i64 n] 51))
  have I2 := Lib.hid (show ∀ g off, A = some ⟨g, off, none⟩ → g < (w2.alloc (.cells #[.int .i64 op, .int .i64 a, .int .i64 b, .int .i64 cc, .int .i64 n] 51)).heap.size from fun g off ha => Nat.lt_of_lt_of_le (HI.out g off ha) (Nat.le_trans hb2.size (by simp)))
  clear hb2
  go_wp2_with fail
  refine (EX.out _ M2.out I2.out).mono ?_
  rintro e w3 ⟨rfl, v', M3, hn, hb⟩
  have r19 := M3.cpu.st
  have HM := Lib.hid M3
  have BT := Lib.hid (B2.out.trans hb)
  have NW := Lib.hid (Newer.trans (w := w) (x := _) (.inl rfl) B2.out.size hn)
  clear M3 hn hb
  go_wp2_with fail
  go_ret
  exact ⟨rfl, v', HM.out, NW.out, BT.out⟩
end Go.Proofs.YtinpdgjbiimgkaaDoor

/- Package cpu: Run. -/
namespace Go.Proofs.YtinpdgjbiimgkaaDoor
open Go.ChangeShapes Go.WideShapes Go.ChangeAt Go.RowKit
set_option linter.unusedVariables false

theorem steps_ite {p : Prop} [Decidable p] {x y : Cp} {k : Int} (h1 : x.steps = k) (h2 : y.steps = k) : (if p then x else y).steps = k := by
  split
  · exact h1
  · exact h2

theorem trapC_steps (c : Cp) (z : Int) : (trapC c z).steps = c.steps := by
  unfold trapC
  exact steps_ite rfl rfl

theorem execC_steps (e1 e4 : Int) (inp ws : List Int) (op : Int) (a b cc : Nat) (n : Int) (c : Cp) : (execC e1 e4 inp ws op a b cc n c).steps = c.steps := by
  unfold execC loadC storeC
  repeat' first
    | exact steps_ite (by assumption) (by assumption)
    | refine steps_ite ?_ ?_
    | exact trapC_steps c _
    | rfl

theorem step_steps (e0 e1 e4 : Int) (inp : List Int) (s : St) : (stepS e0 e1 e4 inp s).c.steps = if s.c.st = 0 then s.c.steps + 1 else s.c.steps := by
  by_cases h : s.c.st = 0
  · rw [if_pos h]
    by_cases h1 : checkRes s.c.pc e0 = 0
    · by_cases h2 : OkW (readVal s.c.pc e0 s.ws)
      · rw [step_exec h h1 h2]
        exact execC_steps ..
      · rw [step_word h h1 h2]
        rfl
    · rw [step_fetch h h1]
      rfl
  · rw [if_neg h, step_stop h]

theorem step_out (e0 e1 e4 : Int) (inp : List Int) (s : St) : s.out.length ≤ (stepS e0 e1 e4 inp s).out.length ∧ (stepS e0 e1 e4 inp s).out.length ≤ s.out.length + 1 := by
  by_cases h : s.c.st = 0
  · by_cases h1 : checkRes s.c.pc e0 = 0
    · by_cases h2 : OkW (readVal s.c.pc e0 s.ws)
      · rw [step_exec h h1 h2]
        unfold exec
        dsimp only
        split <;> simp
      · rw [step_word h h1 h2]
        simp
    · rw [step_fetch h h1]
      simp
  · rw [step_stop h]
    simp

/-- So many steps. -/
def runS (e0 e1 e4 : Int) (inp : List Int) : Nat → St → St
  | 0, s => s
  | k + 1, s => stepS e0 e1 e4 inp (runS e0 e1 e4 inp k s)

section
variable {e0 e1 e4 : Int} {inp : List Int} {s : St}

theorem run_stop {t k : Nat} (h : ¬ (runS e0 e1 e4 inp t s).c.st = 0) (hk : t ≤ k) : runS e0 e1 e4 inp k s = runS e0 e1 e4 inp t s := by
  obtain ⟨j, rfl⟩ := Nat.exists_eq_add_of_le hk
  induction j with
  | zero => rfl
  | succ j ih =>
    have e := ih (by omega)
    show stepS e0 e1 e4 inp (runS e0 e1 e4 inp (t + j) s) = _
    rw [e]
    exact step_stop h

theorem run_fine {m : Nat} (h : Fine m inp s) (k : Nat) : Fine m inp (runS e0 e1 e4 inp k s) := by
  induction k with
  | zero => exact h
  | succ k ih => exact ih.step

theorem run_bounds (k : Nat) : s.c.steps ≤ (runS e0 e1 e4 inp k s).c.steps ∧ (runS e0 e1 e4 inp k s).c.steps ≤ s.c.steps + k ∧ (runS e0 e1 e4 inp k s).out.length ≤ s.out.length + k := by
  induction k with
  | zero => exact ⟨Int.le_refl _, by show s.c.steps ≤ s.c.steps + 0; omega, by show s.out.length ≤ s.out.length + 0; omega⟩
  | succ k ih =>
    have h1 := step_steps e0 e1 e4 inp (runS e0 e1 e4 inp k s)
    have h2 := (step_out e0 e1 e4 inp (runS e0 e1 e4 inp k s)).2
    show s.c.steps ≤ (stepS e0 e1 e4 inp (runS e0 e1 e4 inp k s)).c.steps ∧ (stepS e0 e1 e4 inp (runS e0 e1 e4 inp k s)).c.steps ≤ _ ∧ (stepS e0 e1 e4 inp (runS e0 e1 e4 inp k s)).out.length ≤ _
    split at h1 <;> refine ⟨by omega, by omega, by omega⟩

theorem run_steps (k : Nat) (h : (runS e0 e1 e4 inp k s).c.st = 0) : (runS e0 e1 e4 inp k s).c.steps = s.c.steps + k := by
  induction k with
  | zero => show s.c.steps = s.c.steps + 0; omega
  | succ k ih =>
    by_cases hk : (runS e0 e1 e4 inp k s).c.st = 0
    · have h1 := step_steps e0 e1 e4 inp (runS e0 e1 e4 inp k s)
      rw [if_pos hk] at h1
      show (stepS e0 e1 e4 inp (runS e0 e1 e4 inp k s)).c.steps = _
      have := ih hk
      omega
    · exact absurd ((congrArg (fun x : St => x.c.st) (run_stop (k := k + 1) hk (Nat.le_succ k))).symm.trans h) hk

theorem run_add (a b : Nat) : runS e0 e1 e4 inp (a + b) s = runS e0 e1 e4 inp b (runS e0 e1 e4 inp a s) := by
  induction b with
  | zero => rfl
  | succ b ih => exact congrArg (stepS e0 e1 e4 inp) ih
end

set_option maxHeartbeats 8000000 in
set_option maxRecDepth 100000 in
theorem crun_any (B p q h m k : Nat) (e0 e1 e2 e3 e4 : Int) (v : Value) (A : Option Addr) (mi cap : Nat) (inp : List Int) (s : St) (w : World) (M : Mach w B p q h m e0 e1 e2 e3 e4 v A mi cap inp s) (F : Fine m inp s) (hS : ShapesIn w) (hg : 0 < B)
    (hi : ∀ b off, A = some ⟨b, off, none⟩ → b < w.heap.size) (hl : e4 = 4 * m) (he0 : e0 ≤ e4) (hmi : mi ≤ 1000000) (hk : k ≤ 1000000) (hlen : s.out.length ≤ 1000000) (hui : ∀ z ∈ inp, (Lit.int .i32 z).wf = true) (hs0 : 0 ≤ s.c.steps) (hs1 : s.c.steps ≤ 1000000) :
    Calls Tryd.prog 19 #[.pointer (some ⟨p, 0, none⟩), .pointer (some ⟨q, 0, none⟩), .int .i64 k] w (XPost B p q h m e0 e1 e2 e3 e4 v A mi cap inp (runS e0 e1 e4 inp k s) (.int .i64 (runS e0 e1 e4 inp k s).c.st) w) := by
  have ST := Lib.hid (fun v s w M F hS hi hlen hs0 hs1 => cstep_any B p q h m e0 e1 e2 e3 e4 v A mi cap inp s w M F hS hg hi hl he0 hmi hlen hui hs0 hs1)
  have FR := Lib.hid (fun k => run_fine (e0 := e0) (e1 := e1) (e4 := e4) F k)
  have RB := Lib.hid (fun k => run_bounds (e0 := e0) (e1 := e1) (e4 := e4) (inp := inp) (s := s) k)
  have RS := Lib.hid (fun t k hh hk => run_stop (e0 := e0) (e1 := e1) (e4 := e4) (inp := inp) (s := s) (t := t) (k := k) hh hk)
  have RN := Lib.hid (show ∀ t, stepS e0 e1 e4 inp (runS e0 e1 e4 inp t s) = runS e0 e1 e4 inp (t + 1) s from fun _ => rfl)
  have R0 := Lib.hid (show runS e0 e1 e4 inp 0 s = s from rfl)
  have HM := Lib.hid M
  have HS := Lib.hid hS
  have HI := Lib.hid hi
  have HG := Lib.hid hg
  have L := Lib.hid (And.intro hlen (And.intro hs0 hs1))
  have dmin : min (k : Int) 1073741824 = k := by omega
  clear M F hS hi hlen hs0 hs1 hg
  generalize runS e0 e1 e4 inp = rn at *
  generalize stepS e0 e1 e4 inp = sp at *
  unfold XPost at *
  go_enter Tryd.func19, Tryd.ntmps19
  go_wp2_with fail
  go_loopw [9] (fun i wr => ∃ (t : Nat) (v' : Value), t ≤ k ∧ i = .int .i64 t ∧ Hid (Mach wr B p q h m e0 e1 e2 e3 e4 v' A mi cap inp (rn t s)) ∧ Hid (Newer w v v') ∧ Hid (But (p :: h :: ownList v) w wr)) (fun i _ => k - (intOf i).toNat)
  case atStart => exact ⟨0, v, Nat.zero_le _, rfl, by rw [R0.out]; exact HM, Lib.hid (.inl rfl), Lib.hid (But.refl _ _)⟩
  case round =>
    obtain ⟨t, v', ht, rfl, MT, NT, BT⟩ := hrel
    by_cases hlt : t < k
    · have dlt : decide ((t : Int) < k) = true := decide_eq_true (by omega)
      have hS := HM.out.shapes HS.out HG.out BT.out
      have hb3 := RB.out t
      have l3 := L.out
      have CL := Lib.hid (ST.out v' (rn t s) wr MT.out (FR.out t) hS (fun b off ha => Nat.lt_of_lt_of_le (HI.out b off ha) BT.out.size) (by omega) (by omega) (by omega))
      rw [RN.out] at CL
      clear hS hb3 l3
      go_wp2_with fail
      refine CL.out.mono ?_
      rintro e w2 ⟨rfl, v2, M2, hn, hb⟩
      have B2 := Lib.hid (HM.out.but_more BT.out NT.out (show But (p :: h :: ownList v') wr w2 from hb))
      have N2 := Lib.hid (NT.out.trans BT.out.size hn)
      have q19 := M2.cpu.st
      have HM2 := Lib.hid M2
      clear M2 hn hb
      by_cases hz : (rn (t + 1) s).c.st = 0
      · have dz : ((rn (t + 1) s).c.st != 0) = false := by rw [hz]; rfl
        have h4 : (t : Int) + 1 ≤ 1000001 := by omega
        clear hz
        go_wp2_with fail
        go_roundw
        case rel => exact ⟨t + 1, v2, by omega, by go_num, HM2, N2, B2⟩
        case measure => simp [intOf]; omega
      · have dz : ((rn (t + 1) s).c.st != 0) = true := by simpa using hz
        have HE := Lib.hid (RS.out (t + 1) k hz (by omega))
        clear hz
        go_wp2_with fail
        go_ret
        exact ⟨by rw [HE.out]; rfl, v2, by rw [HE.out]; exact HM2.out, N2.out, B2.out⟩
    · obtain rfl : t = k := by omega
      have dlt : decide ((t : Int) < t) = false := decide_eq_false (by omega)
      have q19 := MT.out.cpu.st
      go_wp2_with fail
      go_ret
      exact ⟨rfl, v', MT.out, NT.out, BT.out⟩
end Go.Proofs.YtinpdgjbiimgkaaDoor

/- Package cpu: New (with slices.Clone). -/
namespace Go.Proofs.YtinpdgjbiimgkaaDoor
open Go.ChangeShapes Go.WideShapes Go.ChangeAt Go.RowKit
set_option linter.unusedVariables false

theorem rowI32 : RowOf Tryd.prog 29 21 .i32 4 := rowOf_mk Tryd.underlying29 (by kernel_rfl) (by decide)

/-- What a copy of a list leaves. -/
def ClonePost (m : Nat) (zs : List Int) (w : World) (e : Ending) (w' : World) : Prop :=
  ∃ A' cap', e = .returned (.slice A' m cap') ∧ Nums .i32 w' A' m zs ∧ (∀ b off, A' = some ⟨b, off, none⟩ → w.heap.size ≤ b ∧ b < w'.heap.size) ∧ Below w.heap.size w w'

set_option maxHeartbeats 4000000 in
set_option maxRecDepth 100000 in
theorem clone_nil (w : World) :
    Calls Tryd.prog 40 #[.slice none 0 0] w (ClonePost 0 [] w) := by
  have hnil : ∀ W, (binOp .eql 29 (.slice none 0 0) (.slice none 0 0)).run Tryd.prog W = .ok (.bool true) W := fun W => Lib.run_eql_slice_nil_nil W _ _ Tryd.underlying29
  unfold ClonePost
  go_enter Tryd.func40, Tryd.ntmps40
  go_wp2_with fail
  go_ret
  exact ⟨none, 0, rfl, ⟨rfl, fun h => absurd h (by omega)⟩, fun b off h => (by cases h), Below.refl _ _⟩

set_option maxHeartbeats 4000000 in
set_option maxRecDepth 100000 in
theorem clone_some (a : Addr) (m cap : Nat) (zs : List Int) (w : World) (hz : Nums .i32 w (some a) m zs) (hm : m ≤ 1000000) :
    Calls Tryd.prog 40 #[.slice (some a) m cap] w (ClonePost m zs w) := by
  have NZ := Lib.hid (hz.below ((Below.refl _ _).alloc (Nat.le_refl _) (.cells #[] 21)))
  have OW := Lib.hid (owns_built .i32 21 w [] #[] rfl 0 rfl (Nat.zero_le _) w.heap.size (Nat.le_refl _) w.heap.size rfl)
  have B0 := Lib.hid ((Below.refl w.heap.size w).alloc (Nat.le_refl _) (.cells #[] 21))
  clear hz
  have hnil : ∀ W, (binOp .eql 29 (.slice (some a) m cap) (.slice none 0 0)).run Tryd.prog W = .ok (.bool false) W := fun W => Lib.run_eql_slice_some_nil W _ _ _ Tryd.underlying29
  unfold ClonePost
  go_enter Tryd.func40, Tryd.ntmps40
  go_wp2_with (at_builtin; refine wpList_append_nums _ rfl _ _ rfl rowI32 w.heap.size (.slice (some ⟨w.heap.size, 0, none⟩) 0 0) 0 [] rfl OW.out (some a) m cap zs rfl NZ.out (by omega) (by simp) ?_; intro v' w' ho hg hal; have HO := Lib.hid ho; have BG := Lib.hid (OW.out.grown_below B0.out hg (by simp)); clear ho hg; obtain ⟨A', c', rfl, hn⟩ := HO.out.form; have HN := Lib.hid hn; clear hn)
  go_ret
  refine ⟨A', c', ?_, by simpa using HN.out, fun b off h => ?_, BG.out⟩
  · simp
  · have := HO.out.lt b (by rw [h]; rfl)
    exact this

theorem clone_any2 (A : Option Addr) (m cap : Nat) (zs : List Int) (w : World) (hA : A = none → m = 0 ∧ cap = 0) (hz : Nums .i32 w A m zs) (hm : m ≤ 1000000) :
    Calls Tryd.prog 40 #[.slice A m cap] w (ClonePost m zs w) := by
  cases A with
  | none =>
    obtain ⟨rfl, rfl⟩ := hA rfl
    have := hz.1
    obtain rfl : zs = [] := List.eq_nil_of_length_eq_zero this
    exact clone_nil w
  | some a => exact clone_some a m cap zs w hz hm

/-- A new processor. -/
def newC (en ve gu li : Int) : Cp := ⟨[0, 0, 0, 0, 0, 0, 0, 0, 0, 0, 0, 0, 0, 0, 0, 0], en, 0, 0, 0, 0, 0, 0, en, ve, gu, li⟩

/-- What New leaves. -/
def NewPost (en ve gu li : Int) (m : Nat) (zs : List Int) (w : World) (e : Ending) (w' : World) : Prop :=
  ∃ p A' cap', e = .returned (.pointer (some ⟨p, 0, none⟩)) ∧ CpuAt w' p 67 (newC en ve gu li) (.slice none 0 0) (.slice A' m cap') ∧ Nums .i32 w' A' m zs ∧ (∀ b off, A' = some ⟨b, off, none⟩ → w.heap.size ≤ b ∧ b < w'.heap.size ∧ b ≠ p) ∧ w.heap.size ≤ p ∧ Below w.heap.size w w'

theorem keepNew {x y : World} {g : Nat} {v0 v1 v2 v3 : Value} (h : x.cell? ⟨g, 0, none⟩ = some v0 ∧ x.cell? ⟨g, 1, none⟩ = some v1 ∧ x.cell? ⟨g, 2, none⟩ = some v2 ∧ x.cell? ⟨g, 3, none⟩ = some v3) (hb : Below x.heap.size x y) :
    y.cell? ⟨g, 0, none⟩ = some v0 ∧ y.cell? ⟨g, 1, none⟩ = some v1 ∧ y.cell? ⟨g, 2, none⟩ = some v2 ∧ y.cell? ⟨g, 3, none⟩ = some v3 := by
  obtain ⟨h0, h1, h2, h3⟩ := h
  have l0 : g < x.heap.size := block_lt h0
  exact ⟨(hb.cell (p := ⟨g, 0, none⟩) l0).trans h0, (hb.cell (p := ⟨g, 1, none⟩) l0).trans h1, (hb.cell (p := ⟨g, 2, none⟩) l0).trans h2, (hb.cell (p := ⟨g, 3, none⟩) l0).trans h3⟩

set_option maxHeartbeats 8000000 in
set_option maxRecDepth 100000 in
theorem cnew_any (en ve gu li : Int) (A : Option Addr) (m cap : Nat) (zs : List Int) (w : World) (hA : A = none → m = 0 ∧ cap = 0) (hz : Nums .i32 w A m zs) (hm : m ≤ 1000000) :
    Calls Tryd.prog 18 #[.agg #[.int .u32 en, .int .u32 ve, .int .u32 gu, .int .u32 li], .slice A m cap] w (NewPost en ve gu li m zs w) := by
  have CL := Lib.hid (fun w hz => clone_any2 A m cap zs w hA hz hm)
  have NZ := Lib.hid (hz.below ((Below.refl _ _).alloc (Nat.le_refl _) (.cells #[.int .u32 en, .int .u32 ve, .int .u32 gu, .int .u32 li] 26)))
  have B0 := Lib.hid ((Below.refl w.heap.size w).alloc (Nat.le_refl _) (.cells #[.int .u32 en, .int .u32 ve, .int .u32 gu, .int .u32 li] 26))
  have K0 := Lib.hid (Whole.made w 26 #[.int .u32 en, .int .u32 ve, .int .u32 gu, .int .u32 li] _ rfl)
  have VS := Lib.hid (show (w.alloc (.cells #[.int .u32 en, .int .u32 ve, .int .u32 gu, .int .u32 li] 26)).heap.size = w.heap.size + 1 by simp)
  clear hz hA
  unfold ClonePost at CL
  unfold NewPost
  go_enter Tryd.func18, Tryd.ntmps18
  go_wp2_with fail
  generalize w.alloc (.cells #[.int .u32 en, .int .u32 ve, .int .u32 gu, .int .u32 li] 26) = V at *
  have LS : V.cell? ⟨w.heap.size, 0, none⟩ = some (.int .u32 en) ∧ V.cell? ⟨w.heap.size, 1, none⟩ = some (.int .u32 ve) ∧ V.cell? ⟨w.heap.size, 2, none⟩ = some (.int .u32 gu) ∧ V.cell? ⟨w.heap.size, 3, none⟩ = some (.int .u32 li) := ⟨K0.out.cell 0, K0.out.cell 1, K0.out.cell 2, K0.out.cell 3⟩
  go_region_held3 (fun y => y.cell? ⟨w.heap.size, 0, none⟩ = some (.int .u32 en) ∧ y.cell? ⟨w.heap.size, 1, none⟩ = some (.int .u32 ve) ∧ y.cell? ⟨w.heap.size, 2, none⟩ = some (.int .u32 gu) ∧ y.cell? ⟨w.heap.size, 3, none⟩ = some (.int .u32 li))
    (first
      | with_reducible assumption
      | with_reducible exact keepNew (by assumption) (Below.refl _ _).drew
      | with_reducible exact keepNew (by assumption) hb1
      | with_reducible exact keepNew (by assumption) ((Below.refl _ _).alloc (Nat.le_refl _) _))
    (first
      | (go_at_call 40; refine (CL.out _ (NZ.out.below (Below.refl _ _).drew)).mono ?_; rintro e y1 ⟨A', cap', rfl, hn, hf, hb1⟩; have HN := Lib.hid hn; have HF := Lib.hid hf; have BD := Lib.hid (B0.out.drew.trans (hb1.mono (by have := VS.out; simp; omega)))))
  rename _ ∧ _ ∧ _ ∧ _ => hH
  clear hH LS hn hf hb1
  go_wp2_with fail
  go_ret
  have h1 := BD.out.size
  have h2 := VS.out
  refine ⟨y1.heap.size, A', cap', rfl, CpuAt.made y1 _ (newC en ve gu li) _ _ rfl _ rfl, HN.out.below ((Below.refl _ _).alloc (Nat.le_refl _) _), fun b off h => ?_, h1, BD.out.alloc h1 _⟩
  have h3 := HF.out b off h
  have h4 : V.drew.heap.size = V.heap.size := rfl
  refine ⟨by omega, by simp; omega, by omega⟩
end Go.Proofs.YtinpdgjbiimgkaaDoor

/- The laws of package cpu: the page's example. -/
namespace Go.Proofs.YtinpdgjbiimgkaaDoor
open Go.ChangeShapes Go.WideShapes Go.ChangeAt Go.RowKit
set_option linter.unusedVariables false

/-- The machine of the example. -/
def exSt : St := ⟨newC 0 0 0 0, [], [34603013, 16777216, 0, 0, 0, 0, 0, 0]⟩

theorem ex_run : (runS 16 16 32 [] 9 exSt).c.st = 1 ∧ (runS 16 16 32 [] 9 exSt).c.r.getD 1 0 = 5 ∧ (runS 16 16 32 [] 9 exSt).c.steps = 2 := by
  refine ⟨?_, ?_, ?_⟩ <;> decide +kernel

theorem ex_fine : Fine 8 [] exSt := by
  refine ⟨rfl, ?_, ?_, ?_, ?_, ?_, ?_, ?_, rfl, ?_, ?_⟩
  · intro z hz
    simp [exSt, newC] at hz
    subst hz
    unfold U32
    omega
  · exact ⟨Int.le_refl 0, by show (0 : Int) ≤ 4294967295; omega⟩
  · exact ⟨Int.le_refl 0, by show (0 : Int) ≤ 4294967295; omega⟩
  · exact ⟨Int.le_refl 0, by show (0 : Int) ≤ 4294967295; omega⟩
  · exact ⟨Int.le_refl 0, by show (0 : Int) ≤ 4294967295; omega⟩
  · exact ⟨Int.le_refl 0, by show (0 : Int) ≤ 4294967295; omega⟩
  · exact ⟨Int.le_refl 0, by show (0 : Int) ≤ 4294967295; omega⟩
  · intro z hz
    simp [exSt] at hz
    unfold U32
    omega
  · exact ⟨by show (0:Int) ≤ 0; omega, by show (0:Int) ≤ 0; omega⟩

set_option maxHeartbeats 8000000 in
set_option maxRecDepth 100000 in
theorem awake4_any (w : World) (hS : ShapesIn w) :
    Calls Tryd.prog 5 #[] w fun e w' => e = .returned (.bool true) ∧ Below w.heap.size w w' := by
  have NW := Lib.hid (fun w => new_ok 16 16 16 16 32 8 w (by unfold U32; omega) (by unfold U32; omega) (by unfold U32; omega) (by unfold U32; omega) (by unfold U32; omega) (by decide) (by decide) (by decide))
  have E1 := Lib.hid (fun w h => encode_any 2 1 0 0 5 w h (by unfold I64; omega) (by unfold I64; omega) (by unfold I64; omega) (by unfold I64; omega))
  have E2 := Lib.hid (fun w h => encode_any 1 0 0 0 0 w h (by unfold I64; omega) (by unfold I64; omega) (by unfold I64; omega) (by unfold I64; omega))
  have R1 : encR 2 1 0 0 5 = .tuple #[.int .u32 34603013, .int .i64 0] := by unfold encR; rw [show encOf 2 1 0 0 5 = 34603013 by decide +kernel, show checkOf 2 1 0 0 5 = 0 by decide +kernel]
  have R2 : encR 1 0 0 0 0 = .tuple #[.int .u32 16777216, .int .i64 0] := by unfold encR; rw [show encOf 1 0 0 0 0 = 16777216 by decide +kernel, show checkOf 1 0 0 0 0 = 0 by decide +kernel]
  rw [R1] at E1
  rw [R2] at E2
  unfold instrV at E1 E2
  unfold MadePost at NW
  unfold endsV at NW
  have HS := Lib.hid hS
  clear R1 R2 hS
  go_enter Tryd.func5, Tryd.ntmps5
  go_wp2_with fail
  refine (NW.out _).mono ?_
  rintro e w1 ⟨q, h, rfl, hM, hW, gh, gq, hqh, hb1⟩
  have M1 := Lib.hid hM
  have W1 := Lib.hid hW
  have B1 := Lib.hid hb1
  have S1 := Lib.hid (HS.out.below hb1 (Nat.le_refl _))
  clear hM hW hb1
  go_wp2_with fail
  refine (E1.out _ S1.out).mono ?_
  rintro e w2 ⟨rfl, hb2⟩
  have M2 := Lib.hid (M1.out.below hb2 M1.out.lt)
  have W2 := Lib.hid (W1.out.below hb2 W1.out.lt)
  have B2 := Lib.hid (B1.out.trans (hb2.mono B1.out.size))
  have S2 := Lib.hid (S1.out.below hb2 (Nat.le_refl _))
  clear hb2 M1 W1 S1
  go_wp2_with fail
  refine (E2.out _ S2.out).mono ?_
  rintro e w3 ⟨rfl, hb3⟩
  have M3 := Lib.hid ((M2.out.below hb3 M2.out.lt).alloc (.cells #[.int .u32 34603013, .int .u32 16777216] 22))
  have W3 := Lib.hid ((W2.out.below hb3 W2.out.lt).alloc (.cells #[.int .u32 34603013, .int .u32 16777216] 22))
  have B3 := Lib.hid ((B2.out.trans (hb3.mono B2.out.size)).alloc (Nat.le_trans B2.out.size hb3.size) (.cells #[.int .u32 34603013, .int .u32 16777216] 22))
  have S3 := Lib.hid ((S2.out.below hb3 (Nat.le_refl _)).alloc (.cells #[.int .u32 34603013, .int .u32 16777216] 22))
  have N3 := Lib.hid (nums_built .u32 22 w3 [34603013, 16777216] _ rfl 2 rfl (by decide) w3.heap.size rfl)
  clear hb3 M2 W2 S2
  go_wp2_with fail
  refine (mfill_any q h 8 0 _ 2 2 _ [34603013, 16777216] _ (by unfold U32; omega) (M3.out.cell 5) W3.out (by decide) (by decide) N3.out (by decide)).mono ?_
  rintro e w4 ⟨rfl, hX, hO⟩
  have M4 := Lib.hid (M3.out.only hqh hO)
  have W4 := Lib.hid (show Whole w4 h 22 (words [34603013, 16777216, 0, 0, 0, 0, 0, 0]) from hX)
  have B4 := Lib.hid (B3.out.trans (hO.below gh B3.out.size))
  have S4 := Lib.hid (S3.out.but (But.of_only hO) (by have := HS.out.lt; simp; omega))
  clear hX hO M3 W3 S3 N3
  go_wp2_with fail
  refine (cnew_any 0 0 0 0 none 0 0 [] _ (fun _ => ⟨rfl, rfl⟩) ⟨rfl, fun h => absurd h (by omega)⟩ (by decide)).mono ?_
  rintro e w5 ⟨p, A', cap', rfl, hC, hN, hF, gp, hb5⟩
  have hlq := M4.out.lt
  have hlh := W4.out.lt
  have MM : Mach w5 w.heap.size p q h 8 16 16 16 16 32 (.slice none 0 0) A' 0 cap' [] exSt := { cpu := hC, mem := M4.out.below hb5 M4.out.lt, wds := W4.out.below hb5 W4.out.lt, outs := Outs.nil _ _, inps := hN, pq := by omega, ph := by omega, qh := hqh, vp := by simp [Value.ownBlock], vq := by simp [Value.ownBlock], vh := by simp [Value.ownBlock], ia := fun b off ha => ⟨(hF b off ha).2.2, by have := (hF b off ha).1; omega, by simp [Value.ownBlock]⟩, lp := Nat.le_trans B4.out.size gp, lh := gh, lw := Nat.le_trans B4.out.size hb5.size }
  have HM := Lib.hid MM
  have B5 := Lib.hid (B4.out.trans (hb5.mono B4.out.size))
  have S5 := Lib.hid (S4.out.below hb5 (Nat.le_refl _))
  have RN := Lib.hid (crun_any w.heap.size p q h 8 9 16 16 16 16 32 (.slice none 0 0) A' 0 cap' [] exSt w5 MM ex_fine S5.out HS.out.lt (fun b off ha => (hF b off ha).2.1) (by decide) (by decide) (by decide) (by decide) (by decide) (fun z hz => by cases hz) (by decide) (by decide))
  obtain ⟨x1, x2, x3⟩ := ex_run
  have X1 := Lib.hid x1
  have X2 := Lib.hid x2
  have X3 := Lib.hid x3
  clear hC hN hF hb5 MM x1 x2 x3 M4 W4 S4
  generalize runS 16 16 32 [] 9 exSt = sx at *
  unfold XPost at RN
  rw [X1.out] at RN
  go_wp2_with fail
  refine RN.out.mono ?_
  rintro e w6 ⟨rfl, v', hM, hn, hb⟩
  have q1 := hM.cpu.reg (show 1 < 16 by decide)
  have q21 := hM.cpu.steps
  rw [X2.out] at q1
  rw [X3.out] at q21
  have B6 := Lib.hid (B5.out.trans (hb.below HM.out.own_ge B5.out.size))
  clear hM hn hb
  go_wp2_with fail
  go_ret
  exact ⟨rfl, B6.out⟩
end Go.Proofs.YtinpdgjbiimgkaaDoor
