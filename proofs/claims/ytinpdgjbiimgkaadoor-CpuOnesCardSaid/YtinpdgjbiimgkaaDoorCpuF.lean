/- Package cpu: load, store, read. -/
import Derived.Test.YtinpdgjbiimgkaaDoorCpuD
import Derived.Test.YtinpdgjbiimgkaaDoorMemD
namespace Go.Proofs.YtinpdgjbiimgkaaDoor
open Go.ChangeShapes Go.WideShapes Go.ChangeAt Go.RowKit
set_option linter.unusedVariables false

theorem But.of_only {h : Nat} {w x : World} (o : Only h w x) : But [h] w x := ⟨o.os, o.tape, o.output, o.size, fun k hk hn => o.block k hk (fun e => hn (by simp [e]))⟩

/-- Where LDW and STW find their word. -/
def addrC (c : Cp) (b : Nat) (n : Int) : Int := w32 (c.r.getD b 0 + w32 n)

theorem addr_u32 (c : Cp) (b : Nat) (n : Int) : U32 (addrC c b n) := by
  unfold addrC w32 U32
  omega

def loadC (c : Cp) (a b : Nat) (n e4 : Int) (ws : List Int) : Cp := if checkRes (addrC c b n) e4 = 0 then setC c a (readVal (addrC c b n) e4 ws) else faultC c (checkRes (addrC c b n) e4)

def storeC (c : Cp) (b : Nat) (n e1 e4 : Int) : Cp := if storeRes (addrC c b n) e1 e4 = 0 then passC c else faultC c (storeRes (addrC c b n) e1 e4)

set_option maxHeartbeats 4000000 in
set_option maxRecDepth 100000 in
theorem cload_any (p q h m a b cc : Nat) (n e0 e1 e2 e3 e4 : Int) (ws : List Int) (c : Cp) (o i : Value) (w : World) (ha : a < 16) (hb : b < 16) (hC : CpuAt w p 67 c o i) (hM : Whole w q 88 (memCells e0 e1 e2 e3 e4 h m)) (hW : Whole w h 22 (words ws)) (hn : ws.length = m) (hl : e4 = 4 * m) (hu : ∀ z ∈ ws, U32 z) :
    Calls Tryd.prog 54 #[.pointer (some ⟨p, 0, none⟩), .pointer (some ⟨q, 0, none⟩), .agg #[.int .i64 18, .int .i64 a, .int .i64 b, .int .i64 cc, .int .i64 n]] w (CPost p (loadC c a b n e4 ws) o i w) := by
  have HC := Lib.hid (hC.alloc (.cells #[.int .i64 18, .int .i64 a, .int .i64 b, .int .i64 cc, .int .i64 n] 51))
  have HM := Lib.hid (hM.alloc (.cells #[.int .i64 18, .int .i64 a, .int .i64 b, .int .i64 cc, .int .i64 n] 51))
  have HW := Lib.hid (hW.alloc (.cells #[.int .i64 18, .int .i64 a, .int .i64 b, .int .i64 cc, .int .i64 n] 51))
  have B0 := Lib.hid ((But.refl [p] w).alloc (.cells #[.int .i64 18, .int .i64 a, .int .i64 b, .int .i64 cc, .int .i64 n] 51))
  have K0 := Lib.hid (Whole.made w 51 #[.int .i64 18, .int .i64 a, .int .i64 b, .int .i64 cc, .int .i64 n] _ rfl)
  have AD := Lib.hid (fun w hC => caddress_any p a b cc 18 n c o i w hb hC)
  have LD := Lib.hid (fun w h1 h2 h3 => load_any q h m (addrC c b n) e4 ws w (addr_u32 c b n) h1 h2 h3 hn (by omega) hu)
  have S := Lib.hid (fun v w hC => cset_any p a c o i v w ha hC)
  have F := Lib.hid (fun v w hC => cfault_any p c o i v w hC)
  have R := Lib.hid (show loadC c a b n e4 ws = if checkRes (addrC c b n) e4 = 0 then setC c a (readVal (addrC c b n) e4 ws) else faultC c (checkRes (addrC c b n) e4) from rfl)
  rw [show w32 (c.r.getD b 0 + w32 n) = addrC c b n from rfl] at AD
  clear hC hM hW hu hn
  generalize addrC c b n = at_ at *
  generalize readVal at_ e4 ws = rv at *
  generalize checkRes at_ e4 = er at *
  generalize loadC c a b n e4 ws = cr at *
  unfold CPost at *
  go_enter Tryd.func54, Tryd.ntmps54
  go_wp2_with fail
  refine (AD.out _ HC.out).mono ?_
  rintro e w1 ⟨rfl, hb1⟩
  have HD := Lib.hid (HC.out.below hb1 HC.out.lt)
  have MD := Lib.hid (HM.out.below hb1 HM.out.lt)
  have WD := Lib.hid (HW.out.below hb1 HW.out.lt)
  have BD := Lib.hid (B0.out.trans (.of_below hb1 (Nat.le_refl _)))
  have k1 : w1.cell? ⟨w.heap.size, 1, none⟩ = some (.int .i64 a) := (K0.out.below hb1 K0.out.lt).cell 1
  clear hb1 HC HM HW B0 K0
  go_wp2_with fail
  refine (LD.out _ (MD.out.cell 4) (MD.out.cell 5) WD.out).mono ?_
  rintro e w' ⟨rfl, rfl⟩
  by_cases hz : er = 0
  · rw [if_pos hz] at R
    subst hz
    go_wp2_with fail
    refine (S.out _ _ HD.out).mono ?_
    rintro e w' ⟨rfl, hc, hb⟩
    go_wp2_with fail
    first | go_end0 | refine bodyPost_ret (results_none rfl _ _ _) rfl ?_
    exact ⟨rfl, by rw [R.out]; exact hc, BD.out.trans hb⟩
  · rw [if_neg hz] at R
    have hne : (er != 0) = true := by simpa using hz
    clear hz
    go_wp2_with fail
    refine (F.out _ _ HD.out).mono ?_
    rintro e w' ⟨rfl, hc, hb⟩
    go_wp2_with fail
    first | go_end0 | refine bodyPost_ret (results_none rfl _ _ _) rfl ?_
    exact ⟨rfl, by rw [R.out]; exact hc, BD.out.trans hb⟩

set_option maxHeartbeats 4000000 in
set_option maxRecDepth 100000 in
theorem cread_none (p a m cap : Nat) (A : Option Addr) (c : Cp) (o : Value) (w : World) (ha : a < 16) (h0 : 0 ≤ c.taken) (h1 : (m : Int) ≤ c.taken) (hC : CpuAt w p 67 c o (.slice A m cap)) :
    Calls Tryd.prog 59 #[.pointer (some ⟨p, 0, none⟩), .int .i64 a] w (CPost p (trapC c 7) o (.slice A m cap) w) := by
  have HC := Lib.hid hC
  have q22 := hC.taken
  have q28 := hC.inpv
  have T := Lib.hid (fun w hC => ctrap_any p c o (.slice A m cap) 7 w hC)
  have d0 : decide (c.taken < 0) = false := decide_eq_false (by omega)
  have d1 : decide ((m : Int) ≤ c.taken) = true := decide_eq_true h1
  clear hC h0 h1
  unfold CPost at *
  go_enter Tryd.func59, Tryd.ntmps59
  go_wp2_with fail
  go_quiet (fail)
  have BD := Lib.hid ((But.refl [p] w).drawn nq)
  have HD := Lib.hid (HC.out.drawn nq)
  generalize w.drewN nq = W at *
  go_wp2_with fail
  refine (T.out _ HD.out).mono ?_
  rintro e w' ⟨rfl, hc, hb⟩
  go_wp2_with fail
  first | go_end0 | refine bodyPost_ret (results_none rfl _ _ _) rfl ?_
  exact ⟨rfl, hc, BD.out.trans hb⟩

set_option maxHeartbeats 4000000 in
set_option maxRecDepth 100000 in
theorem cread_some (p a m cap k : Nat) (A : Option Addr) (zs : List Int) (c : Cp) (o : Value) (w : World) (ha : a < 16) (h0 : c.taken = (k : Int)) (h1 : k < m) (hm : m ≤ 1000000) (hz : Nums .i32 w A m zs) (hu : ∀ z ∈ zs, (Lit.int .i32 z).wf = true) (hC : CpuAt w p 67 c o (.slice A m cap)) :
    Calls Tryd.prog 59 #[.pointer (some ⟨p, 0, none⟩), .int .i64 a] w (CPost p { setC c a (w32 (zs.getD k 0)) with taken := c.taken + 1 } o (.slice A m cap) w) := by
  obtain ⟨b, off, rfl, hlt, hcell⟩ := hz.2 (by omega)
  have HC := Lib.hid hC
  have q22 := hC.taken
  have q28 := hC.inpv
  have S := Lib.hid (fun v w hC => cset_any p a c o (.slice (some ⟨b, off, none⟩) m cap) v w ha hC)
  have d0 : decide ((k : Int) < 0) = false := decide_eq_false (by omega)
  have d1 : decide ((m : Int) ≤ k) = false := decide_eq_false (by omega)
  have kI : (k : Int) < m := by omega
  have hck := hcell k h1
  have hk2 : k ≤ 1000000 := by omega
  rw [h0] at q22
  clear hC hcell hz hm
  generalize zs.getD k 0 = z at *
  unfold CPost at *
  go_enter Tryd.func59, Tryd.ntmps59
  go_wp2_with fail
  go_quiet (fail)
  have BD := Lib.hid ((But.refl [p] w).drawn nq)
  have HD := Lib.hid (HC.out.drawn nq)
  have q22 := HD.out.taken
  have q28 := HD.out.inpv
  rw [h0] at q22
  have hck : (w.drewN nq).cell? ⟨b, off + k, none⟩ = some (.int .i32 z) := hck
  generalize w.drewN nq = W at *
  go_wp2_with fail
  refine still_tail 13 (by kernel_rfl) (by kernel_rfl) ?_
  simp only [List.take_succ_cons, List.take_zero, List.drop_succ_cons, List.drop_zero]
  repeat still_step
  refine wpStill_nil ?_
  go_wp2_with fail
  refine (S.out _ _ HD.out.drew).mono ?_
  rintro e w' ⟨rfl, hc, hb⟩
  have q22 := hc.taken
  have hf := hc.free
  rw [show (setC c a (z % 4294967296)).taken = (k : Int) from h0] at q22
  go_wp2_with fail
  first | go_end0 | refine bodyPost_ret (results_none rfl _ _ _) rfl ?_
  refine ⟨rfl, ?_, (BD.out.drew.trans hb).setCell _ _ (by simp)⟩
  rw [h0]
  exact hc.set_taken _
end Go.Proofs.YtinpdgjbiimgkaaDoor
