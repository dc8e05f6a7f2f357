/- Package cpu: store. -/
import Derived.Test.YtlmokkopaididaaDoorCpuF
namespace Go.Proofs.YtlmokkopaididaaDoor
open Go.ChangeShapes Go.WideShapes Go.ChangeAt Go.RowKit
set_option linter.unusedVariables false

/-- What STW leaves. -/
def SPost (p h : Nat) (c : Cp) (o i : Value) (ws : List Int) (w : World) (e : Ending) (w' : World) : Prop :=
  e = .returned (.tuple #[]) ∧ CpuAt w' p 65 c o i ∧ Whole w' h 22 (words ws) ∧ But [p, h] w w'

theorem keepCS {x y : World} {p g a : Nat} {v v0 v1 v2 v3 v4 : Value} (h : x.cell? ⟨p, a, none⟩ = some v ∧ x.cell? ⟨g, 0, none⟩ = some v0 ∧ x.cell? ⟨g, 1, none⟩ = some v1 ∧ x.cell? ⟨g, 2, none⟩ = some v2 ∧ x.cell? ⟨g, 3, none⟩ = some v3 ∧ x.cell? ⟨g, 4, none⟩ = some v4) (hb : Below x.heap.size x y) :
    y.cell? ⟨p, a, none⟩ = some v ∧ y.cell? ⟨g, 0, none⟩ = some v0 ∧ y.cell? ⟨g, 1, none⟩ = some v1 ∧ y.cell? ⟨g, 2, none⟩ = some v2 ∧ y.cell? ⟨g, 3, none⟩ = some v3 ∧ y.cell? ⟨g, 4, none⟩ = some v4 := by
  obtain ⟨h, h0, h1, h2, h3, h4⟩ := h
  have l : p < x.heap.size := block_lt h
  have l0 : g < x.heap.size := block_lt h0
  exact ⟨(hb.cell (p := ⟨p, a, none⟩) l).trans h, (hb.cell (p := ⟨g, 0, none⟩) l0).trans h0, (hb.cell (p := ⟨g, 1, none⟩) l0).trans h1, (hb.cell (p := ⟨g, 2, none⟩) l0).trans h2, (hb.cell (p := ⟨g, 3, none⟩) l0).trans h3, (hb.cell (p := ⟨g, 4, none⟩) l0).trans h4⟩

theorem keepCO {x y : World} {p g a h' : Nat} {v v0 v1 v2 v3 v4 : Value} (h : x.cell? ⟨p, a, none⟩ = some v ∧ x.cell? ⟨g, 0, none⟩ = some v0 ∧ x.cell? ⟨g, 1, none⟩ = some v1 ∧ x.cell? ⟨g, 2, none⟩ = some v2 ∧ x.cell? ⟨g, 3, none⟩ = some v3 ∧ x.cell? ⟨g, 4, none⟩ = some v4) (hp : p ≠ h') (hg : g ≠ h') (hb : Only h' x y) :
    y.cell? ⟨p, a, none⟩ = some v ∧ y.cell? ⟨g, 0, none⟩ = some v0 ∧ y.cell? ⟨g, 1, none⟩ = some v1 ∧ y.cell? ⟨g, 2, none⟩ = some v2 ∧ y.cell? ⟨g, 3, none⟩ = some v3 ∧ y.cell? ⟨g, 4, none⟩ = some v4 := by
  obtain ⟨h, h0, h1, h2, h3, h4⟩ := h
  have l : p < x.heap.size := block_lt h
  have l0 : g < x.heap.size := block_lt h0
  have ep := hb.block p l hp
  have eg := hb.block g l0 hg
  simp only [World.cell?, ep, eg] at *
  exact ⟨h, h0, h1, h2, h3, h4⟩

set_option maxHeartbeats 8000000 in
set_option maxRecDepth 100000 in
theorem cstore_any (p q h m a b cc : Nat) (n e0 e1 e2 e3 e4 : Int) (ws : List Int) (c : Cp) (o i : Value) (w : World) (ha : a < 16) (hb : b < 16) (hv : U32 (c.r.getD a 0)) (hC : CpuAt w p 65 c o i) (hM : Whole w q 93 (memCells e0 e1 e2 e3 e4 h m)) (hW : Whole w h 22 (words ws)) (hn : ws.length = m) (hl : e4 = 4 * m) (hpq : p ≠ q) (hph : p ≠ h) (hqh : q ≠ h) :
    Calls Tryd.prog 59 #[.pointer (some ⟨p, 0, none⟩), .pointer (some ⟨q, 0, none⟩), .agg #[.int .i64 19, .int .i64 a, .int .i64 b, .int .i64 cc, .int .i64 n]] w (SPost p h (storeC c b n e1 e4) o i (storeWs (addrC c b n) e1 e4 (c.r.getD a 0) ws) w) := by
  have HC := Lib.hid (hC.alloc (.cells #[.int .i64 19, .int .i64 a, .int .i64 b, .int .i64 cc, .int .i64 n] 51))
  have HM := Lib.hid (hM.alloc (.cells #[.int .i64 19, .int .i64 a, .int .i64 b, .int .i64 cc, .int .i64 n] 51))
  have HW := Lib.hid (hW.alloc (.cells #[.int .i64 19, .int .i64 a, .int .i64 b, .int .i64 cc, .int .i64 n] 51))
  have B0 := Lib.hid ((But.refl [p, h] w).alloc (.cells #[.int .i64 19, .int .i64 a, .int .i64 b, .int .i64 cc, .int .i64 n] 51))
  have K0 := Lib.hid (Whole.made w 51 #[.int .i64 19, .int .i64 a, .int .i64 b, .int .i64 cc, .int .i64 n] _ rfl)
  have AD := Lib.hid (fun w hC => caddress_any p a b cc 19 n c o i w hb hC)
  have ST := Lib.hid (fun w h1 h4 h5 hw => store_any q h m (addrC c b n) (c.r.getD a 0) e1 e4 ws w (addr_u32 c b n) hv h1 h4 h5 hw hn hl)
  have S := Lib.hid (fun w hC => cpass_any p c o i w hC)
  have F := Lib.hid (fun v w hC => cfault_any p c o i v w hC)
  have R := Lib.hid (show storeC c b n e1 e4 = if storeRes (addrC c b n) e1 e4 = 0 then passC c else faultC c (storeRes (addrC c b n) e1 e4) from rfl)
  rw [show w32 (c.r.getD b 0 + w32 n) = addrC c b n from rfl] at AD
  have haI : (a : Int) < 16 := by omega
  have ngp : w.heap.size ≠ p := Nat.ne_of_gt hC.lt
  have ngh : w.heap.size ≠ h := Nat.ne_of_gt hW.lt
  have qa := HC.out.reg ha
  unfold StorePost at ST
  clear hC hM hW hn hl hv
  generalize storeWs (addrC c b n) e1 e4 (c.r.getD a 0) ws = ws' at *
  generalize addrC c b n = at_ at *
  generalize storeRes at_ e1 e4 = er at *
  generalize c.r.getD a 0 = ra at *
  generalize storeC c b n e1 e4 = cr at *
  unfold SPost CPost at *
  go_enter Tryd.func59, Tryd.ntmps59
  go_wp2_with fail
  generalize w.alloc (.cells #[.int .i64 19, .int .i64 a, .int .i64 b, .int .i64 cc, .int .i64 n] 51) = W at *
  have LS : W.cell? ⟨p, a, none⟩ = some (.int .u32 ra) ∧ W.cell? ⟨w.heap.size, 0, none⟩ = some (.int .i64 19) ∧ W.cell? ⟨w.heap.size, 1, none⟩ = some (.int .i64 a) ∧ W.cell? ⟨w.heap.size, 2, none⟩ = some (.int .i64 b) ∧ W.cell? ⟨w.heap.size, 3, none⟩ = some (.int .i64 cc) ∧ W.cell? ⟨w.heap.size, 4, none⟩ = some (.int .i64 n) := ⟨qa, K0.out.cell 0, K0.out.cell 1, K0.out.cell 2, K0.out.cell 3, K0.out.cell 4⟩
  clear qa
  go_region_held3 (fun y => y.cell? ⟨p, a, none⟩ = some (.int .u32 ra) ∧ y.cell? ⟨w.heap.size, 0, none⟩ = some (.int .i64 19) ∧ y.cell? ⟨w.heap.size, 1, none⟩ = some (.int .i64 a) ∧ y.cell? ⟨w.heap.size, 2, none⟩ = some (.int .i64 b) ∧ y.cell? ⟨w.heap.size, 3, none⟩ = some (.int .i64 cc) ∧ y.cell? ⟨w.heap.size, 4, none⟩ = some (.int .i64 n))
    (first
      | with_reducible assumption
      | with_reducible exact keepCS (by assumption) (Below.refl _ _).drew
      | with_reducible exact keepCS (by assumption) hb1
      | with_reducible exact keepCO (by assumption) hph ngh ho)
    (first
      | (go_at_call 82; refine (AD.out _ HC.out.drew).mono ?_; rintro e y1 ⟨rfl, hb1⟩; have HD := Lib.hid (HC.out.drew.below hb1 HC.out.lt); have MD := Lib.hid (HM.out.drew'.below hb1 HM.out.lt); have WD := Lib.hid (HW.out.drew'.below hb1 HW.out.lt); have BD := Lib.hid (B0.out.drew.trans (.of_below hb1 (Nat.le_refl _))))
      | (go_at_call 83; refine (ST.out _ (MD.out.cell 1) (MD.out.cell 4) (MD.out.cell 5) WD.out).mono ?_; rintro e y2 ⟨rfl, hx, ho⟩; have HE := Lib.hid ((But.of_only ho).cpu HD.out (by simp [hph])); have BE := Lib.hid (BD.out.trans ((But.of_only ho).mono (by simp))); have WE := Lib.hid hx))
  clear hb1 hx ho LS HC HM HW B0 K0 HD MD WD BD
  by_cases hz : er = 0
  · rw [if_pos hz] at R
    subst hz
    go_wp2_with fail
    refine (S.out _ HE.out).mono ?_
    rintro e w' ⟨rfl, hc, hb⟩
    go_wp2_with fail
    first | go_end0 | refine bodyPost_ret (results_none rfl _ _ _) rfl ?_
    exact ⟨rfl, by rw [R.out]; exact hc, hb.whole WE.out (by simp [Ne.symm hph]), BE.out.trans (hb.mono (by simp))⟩
  · rw [if_neg hz] at R
    have hne : (er != 0) = true := by simpa using hz
    clear hz
    go_wp2_with fail
    refine (F.out _ _ HE.out).mono ?_
    rintro e w' ⟨rfl, hc, hb⟩
    go_wp2_with fail
    first | go_end0 | refine bodyPost_ret (results_none rfl _ _ _) rfl ?_
    exact ⟨rfl, by rw [R.out]; exact hc, hb.whole WE.out (by simp [Ne.symm hph]), BE.out.trans (hb.mono (by simp))⟩
end Go.Proofs.YtlmokkopaididaaDoor
