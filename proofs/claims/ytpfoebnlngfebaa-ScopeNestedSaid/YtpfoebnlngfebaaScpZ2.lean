/- Scopes: ScopeFinds. -/
import Derived.Test.YtpfoebnlngfebaaScpZ
import Derived.Test.YtpfoebnlngfebaaScpJ
import Derived.Test.YtpfoebnlngfebaaScpP
namespace Go.Proofs.Ytpfoebnlngfebaa
open Go.ChangeShapes Go.WideShapes Go.ChangeAt Go.RowKit
set_option linter.unusedVariables false
set_option linter.unusedSimpArgs false

theorem findN_mem {s : Stt} {nm : ByteArray} {x : Ob} : ∀ {k : Nat}, findN s nm k = some x → x ∈ s.L
  | 0, h => by cases h
  | k + 1, h => by
    unfold findN at h
    cases hh : hasP s k nm with
    | some y =>
      rw [hh] at h
      injection h with h
      subst h
      exact hasP_mem hh
    | none =>
      rw [hh] at h
      exact findN_mem h

theorem found_ok {k : Nat} {s : Stt} (h : Inv k s) (nm : ByteArray) : ObOk ((findP s nm).getD zO) := by
  cases hh : findP s nm with
  | some x => exact h.ok x (findN_mem hh)
  | none => exact ⟨by decide, by decide⟩

theorem member_ok {k : Nat} {s : Stt} (h : Inv k s) (m : Int) (nm : ByteArray) : ObOk ((memberP s m nm).getD zO) := by
  cases hh : memberP s m nm with
  | none => exact ⟨by decide, by decide⟩
  | some x =>
    unfold memberP at hh
    split at hh
    · cases hh
    · have hm := List.mem_of_find?_eq_some hh
      rw [List.getD_eq_getElem?_getD] at hm
      cases hg : s.mods[m.toNat - 1]? with
      | none =>
        rw [hg] at hm
        exact (List.not_mem_nil hm).elim
      | some l =>
        rw [hg] at hm
        exact (h.mok l (List.mem_of_getElem? hg)).1 x hm

set_option maxHeartbeats 32000000 in
set_option maxRecDepth 100000 in
theorem finds_walk (W : World) (A : Option Addr) (n c : Nat) (f : Nat → OpP) (hO : OpPs W W.heap.size A n f) (hm : n ≤ maxLen) (nm : ByteArray) (mo : Int) :
    Calls Try.prog 4 #[.slice A n c, .string nm, .int .i64 mo] W fun e w' => e = .returned (.bool true) ∧ Below W.heap.size W w' := by
  have HO := Lib.hid hO
  have AW := Lib.hid (awake11_any W)
  clear hO
  go_enter Try.func4, Try.ntmps4
  go_wp2_with fail
  refine AW.out.mono ?_
  rintro e w1 ⟨rfl, hb1⟩
  have B1 := Lib.hid hb1
  have PL := Lib.hid (played_any A n c f W.heap.size w1 hb1.size (fun W' hb => HO.out.later (hb1.trans hb)) hm)
  clear hb1 AW HO
  go_wp2_with fail
  refine PL.out.mono ?_
  rintro e w2 ⟨p, AL, cL, AM, cM, s, rfl, T, lx, mx, k, rfl, hk, hI, hT, hR, hb2⟩
  have bV := (Below.refl w2.heap.size w2).alloc (Nat.le_refl _) (.cells #[.slice AL s.L.length cL, .int .i64 s.lev, .slice AM s.mods.length cM] rS)
  have XV := Lib.hid (Whole.made w2 rS #[.slice AL s.L.length cL, .int .i64 s.lev, .slice AM s.mods.length cM] _ rfl)
  have TV := Lib.hid (hT.below bV)
  have RV := Lib.hid (hR.below bV)
  have hz := Nat.le_trans B1.out.size hb2.size
  have BV := Lib.hid ((B1.out.trans hb2).trans (bV.mono hz))
  have II := Lib.hid hI
  have HK := Lib.hid hk
  have HZ := Lib.hid (Nat.le_trans hz bV.size)
  have FC := Lib.hid (fun y (hb : Below (w2.alloc (.cells #[.slice AL s.L.length cL, .int .i64 s.lev, .slice AM s.mods.length cM] rS)).heap.size (w2.alloc (.cells #[.slice AL s.L.length cL, .int .i64 s.lev, .slice AM s.mods.length cM] rS)) y) => find_any W.heap.size T s nm y (TV.out.below hb) (Nat.le_trans HZ.out hb.size) hI.lev (by have := hI.len; omega) hI.ok)
  have RC := Lib.hid (fun y (hb : Below (w2.alloc (.cells #[.slice AL s.L.length cL, .int .i64 s.lev, .slice AM s.mods.length cM] rS)).heap.size (w2.alloc (.cells #[.slice AL s.L.length cL, .int .i64 s.lev, .slice AM s.mods.length cM] rS)) y) => reffind_any W.heap.size AL cL lx AM cM mx s nm y (RV.out.below hb) (Nat.le_trans HZ.out hb.size) hI.lev (by have := hI.len; omega))
  have MC := Lib.hid (fun y (hb : Below (w2.alloc (.cells #[.slice AL s.L.length cL, .int .i64 s.lev, .slice AM s.mods.length cM] rS)).heap.size (w2.alloc (.cells #[.slice AL s.L.length cL, .int .i64 s.lev, .slice AM s.mods.length cM] rS)) y) => member_any W.heap.size T s mo nm y (TV.out.below hb) (Nat.le_trans HZ.out hb.size) hI.mods hI.mok)
  have NC := Lib.hid (fun y (hb : Below (w2.alloc (.cells #[.slice AL s.L.length cL, .int .i64 s.lev, .slice AM s.mods.length cM] rS)).heap.size (w2.alloc (.cells #[.slice AL s.L.length cL, .int .i64 s.lev, .slice AM s.mods.length cM] rS)) y) => refmember_any W.heap.size AL cL lx AM cM mx s mo nm y (RV.out.below hb) (Nat.le_trans HZ.out hb.size) hI.mods (fun m hm => (hI.mok m hm).2))
  have hxo := (found_ok hI nm).2
  have hmo := (member_ok hI mo nm).2
  unfold FoundPost at FC RC MC NC
  generalize (findP s nm).getD zO = x at *
  generalize codeOf (findP s nm) = cx at *
  generalize (memberP s mo nm).getD zO = m at *
  generalize codeOf (memberP s mo nm) = cm at *
  have HX := Lib.hid hxo
  have HM := Lib.hid hmo
  clear hT hR hb2 hI hk PL B1 bV hz hxo hmo TV RV
  have F0 := Lib.hid (FC.out (w2.alloc (.cells #[.slice AL s.L.length cL, .int .i64 s.lev, .slice AM s.mods.length cM] rS)) (Below.refl _ _))
  go_wp2_with fail
  generalize (w2.alloc (.cells #[.slice AL s.L.length cL, .int .i64 s.lev, .slice AM s.mods.length cM] rS)) = V at *
  generalize w2.heap.size = g8 at *
  clear FC
  refine F0.out.mono ?_
  rintro e y1 ⟨A1, c1, rfl, hb1, hp1⟩
  have bv1 := (Below.refl y1.heap.size y1).alloc (Nat.le_refl _) (.cells #[.string x.nm, .int .i64 x.kd, .int .i64 x.ty, .int .i64 x.lv, .int .i32 x.nn, .int .i64 x.md, .bool x.ou, .slice A1 x.ps.length c1] pO)
  have hy1 := hb1
  have B1 := Lib.hid (hy1.trans (bv1.mono hy1.size))
  have X1 := Lib.hid (Whole.made y1 pO #[.string x.nm, .int .i64 x.kd, .int .i64 x.ty, .int .i64 x.lv, .int .i32 x.nn, .int .i64 x.md, .bool x.ou, .slice A1 x.ps.length c1] _ rfl)
  have P1 := Lib.hid (hp1.below bv1)
  clear F0 bv1 hy1 hb1 hp1
  have v0 : (y1.alloc (.cells #[.string x.nm, .int .i64 x.kd, .int .i64 x.ty, .int .i64 x.lv, .int .i32 x.nn, .int .i64 x.md, .bool x.ou, .slice A1 x.ps.length c1] pO)).cell? ⟨g8, 0, none⟩ = some (.slice AL s.L.length cL) := (XV.out.below B1.out XV.out.lt).cell 0
  have v1 : (y1.alloc (.cells #[.string x.nm, .int .i64 x.kd, .int .i64 x.ty, .int .i64 x.lv, .int .i32 x.nn, .int .i64 x.md, .bool x.ou, .slice A1 x.ps.length c1] pO)).cell? ⟨g8, 1, none⟩ = some (.int .i64 s.lev) := (XV.out.below B1.out XV.out.lt).cell 1
  have v2 : (y1.alloc (.cells #[.string x.nm, .int .i64 x.kd, .int .i64 x.ty, .int .i64 x.lv, .int .i32 x.nn, .int .i64 x.md, .bool x.ou, .slice A1 x.ps.length c1] pO)).cell? ⟨g8, 2, none⟩ = some (.slice AM s.mods.length cM) := (XV.out.below B1.out XV.out.lt).cell 2
  have F1 := Lib.hid (RC.out (y1.alloc (.cells #[.string x.nm, .int .i64 x.kd, .int .i64 x.ty, .int .i64 x.lv, .int .i32 x.nn, .int .i64 x.md, .bool x.ou, .slice A1 x.ps.length c1] pO)) B1.out)
  clear RC
  go_wp2_with fail
  clear v0 v1 v2
  generalize (y1.alloc (.cells #[.string x.nm, .int .i64 x.kd, .int .i64 x.ty, .int .i64 x.lv, .int .i32 x.nn, .int .i64 x.md, .bool x.ou, .slice A1 x.ps.length c1] pO)) = V1 at *
  generalize y1.heap.size = g1 at *
  refine F1.out.mono ?_
  rintro e y2 ⟨A2, c2, rfl, hb2, hp2⟩
  have bv2 := (Below.refl y2.heap.size y2).alloc (Nat.le_refl _) (.cells #[.string x.nm, .int .i64 x.kd, .int .i64 x.ty, .int .i64 x.lv, .int .i32 x.nn, .int .i64 x.md, .bool x.ou, .slice A2 x.ps.length c2] rO)
  have hy2 := (B1.out.trans (hb2.mono B1.out.size))
  have B2 := Lib.hid (hy2.trans (bv2.mono hy2.size))
  have X2 := Lib.hid (Whole.made y2 rO #[.string x.nm, .int .i64 x.kd, .int .i64 x.ty, .int .i64 x.lv, .int .i32 x.nn, .int .i64 x.md, .bool x.ou, .slice A2 x.ps.length c2] _ rfl)
  have P2 := Lib.hid (hp2.below bv2)
  have X1' := Lib.hid ((X1.out.below hb2 X1.out.lt).below bv2 (X1.out.below hb2 X1.out.lt).lt)
  have P1' := Lib.hid ((P1.out.below hb2).below bv2)
  clear X1 P1
  have X1 := X1'
  have P1 := P1'
  clear X1' P1'
  clear F1 bv2 hy2 hb2 hp2
  have F2 := Lib.hid (MC.out (y2.alloc (.cells #[.string x.nm, .int .i64 x.kd, .int .i64 x.ty, .int .i64 x.lv, .int .i32 x.nn, .int .i64 x.md, .bool x.ou, .slice A2 x.ps.length c2] rO)) B2.out)
  clear MC
  go_wp2_with fail
  generalize (y2.alloc (.cells #[.string x.nm, .int .i64 x.kd, .int .i64 x.ty, .int .i64 x.lv, .int .i32 x.nn, .int .i64 x.md, .bool x.ou, .slice A2 x.ps.length c2] rO)) = V2 at *
  generalize y2.heap.size = g2 at *
  refine F2.out.mono ?_
  rintro e y3 ⟨A3, c3, rfl, hb3, hp3⟩
  have bv3 := (Below.refl y3.heap.size y3).alloc (Nat.le_refl _) (.cells #[.string m.nm, .int .i64 m.kd, .int .i64 m.ty, .int .i64 m.lv, .int .i32 m.nn, .int .i64 m.md, .bool m.ou, .slice A3 m.ps.length c3] pO)
  have hy3 := (B2.out.trans (hb3.mono B2.out.size))
  have B3 := Lib.hid (hy3.trans (bv3.mono hy3.size))
  have X3 := Lib.hid (Whole.made y3 pO #[.string m.nm, .int .i64 m.kd, .int .i64 m.ty, .int .i64 m.lv, .int .i32 m.nn, .int .i64 m.md, .bool m.ou, .slice A3 m.ps.length c3] _ rfl)
  have P3 := Lib.hid (hp3.below bv3)
  have X1' := Lib.hid ((X1.out.below hb3 X1.out.lt).below bv3 (X1.out.below hb3 X1.out.lt).lt)
  have P1' := Lib.hid ((P1.out.below hb3).below bv3)
  clear X1 P1
  have X1 := X1'
  have P1 := P1'
  clear X1' P1'
  have X2' := Lib.hid ((X2.out.below hb3 X2.out.lt).below bv3 (X2.out.below hb3 X2.out.lt).lt)
  have P2' := Lib.hid ((P2.out.below hb3).below bv3)
  clear X2 P2
  have X2 := X2'
  have P2 := P2'
  clear X2' P2'
  clear F2 bv3 hy3 hb3 hp3
  have v0 : (y3.alloc (.cells #[.string m.nm, .int .i64 m.kd, .int .i64 m.ty, .int .i64 m.lv, .int .i32 m.nn, .int .i64 m.md, .bool m.ou, .slice A3 m.ps.length c3] pO)).cell? ⟨g8, 0, none⟩ = some (.slice AL s.L.length cL) := (XV.out.below B3.out XV.out.lt).cell 0
  have v1 : (y3.alloc (.cells #[.string m.nm, .int .i64 m.kd, .int .i64 m.ty, .int .i64 m.lv, .int .i32 m.nn, .int .i64 m.md, .bool m.ou, .slice A3 m.ps.length c3] pO)).cell? ⟨g8, 1, none⟩ = some (.int .i64 s.lev) := (XV.out.below B3.out XV.out.lt).cell 1
  have v2 : (y3.alloc (.cells #[.string m.nm, .int .i64 m.kd, .int .i64 m.ty, .int .i64 m.lv, .int .i32 m.nn, .int .i64 m.md, .bool m.ou, .slice A3 m.ps.length c3] pO)).cell? ⟨g8, 2, none⟩ = some (.slice AM s.mods.length cM) := (XV.out.below B3.out XV.out.lt).cell 2
  have F3 := Lib.hid (NC.out (y3.alloc (.cells #[.string m.nm, .int .i64 m.kd, .int .i64 m.ty, .int .i64 m.lv, .int .i32 m.nn, .int .i64 m.md, .bool m.ou, .slice A3 m.ps.length c3] pO)) B3.out)
  clear NC
  go_wp2_with fail
  clear v0 v1 v2
  generalize (y3.alloc (.cells #[.string m.nm, .int .i64 m.kd, .int .i64 m.ty, .int .i64 m.lv, .int .i32 m.nn, .int .i64 m.md, .bool m.ou, .slice A3 m.ps.length c3] pO)) = V3 at *
  generalize y3.heap.size = g3 at *
  refine F3.out.mono ?_
  rintro e y4 ⟨A4, c4, rfl, hb4, hp4⟩
  have bv4 := (Below.refl y4.heap.size y4).alloc (Nat.le_refl _) (.cells #[.string m.nm, .int .i64 m.kd, .int .i64 m.ty, .int .i64 m.lv, .int .i32 m.nn, .int .i64 m.md, .bool m.ou, .slice A4 m.ps.length c4] rO)
  have hy4 := (B3.out.trans (hb4.mono B3.out.size))
  have B4 := Lib.hid (hy4.trans (bv4.mono hy4.size))
  have X4 := Lib.hid (Whole.made y4 rO #[.string m.nm, .int .i64 m.kd, .int .i64 m.ty, .int .i64 m.lv, .int .i32 m.nn, .int .i64 m.md, .bool m.ou, .slice A4 m.ps.length c4] _ rfl)
  have P4 := Lib.hid (hp4.below bv4)
  have X1' := Lib.hid ((X1.out.below hb4 X1.out.lt).below bv4 (X1.out.below hb4 X1.out.lt).lt)
  have P1' := Lib.hid ((P1.out.below hb4).below bv4)
  clear X1 P1
  have X1 := X1'
  have P1 := P1'
  clear X1' P1'
  have X2' := Lib.hid ((X2.out.below hb4 X2.out.lt).below bv4 (X2.out.below hb4 X2.out.lt).lt)
  have P2' := Lib.hid ((P2.out.below hb4).below bv4)
  clear X2 P2
  have X2 := X2'
  have P2 := P2'
  clear X2' P2'
  have X3' := Lib.hid ((X3.out.below hb4 X3.out.lt).below bv4 (X3.out.below hb4 X3.out.lt).lt)
  have P3' := Lib.hid ((P3.out.below hb4).below bv4)
  clear X3 P3
  have X3 := X3'
  have P3 := P3'
  clear X3' P3'
  clear F3 bv4 hy4 hb4 hp4
  have p0 : (y4.alloc (.cells #[.string m.nm, .int .i64 m.kd, .int .i64 m.ty, .int .i64 m.lv, .int .i32 m.nn, .int .i64 m.md, .bool m.ou, .slice A4 m.ps.length c4] rO)).cell? ⟨g1, 0, none⟩ = some (.string x.nm) := X1.out.cell 0
  have p1 : (y4.alloc (.cells #[.string m.nm, .int .i64 m.kd, .int .i64 m.ty, .int .i64 m.lv, .int .i32 m.nn, .int .i64 m.md, .bool m.ou, .slice A4 m.ps.length c4] rO)).cell? ⟨g1, 1, none⟩ = some (.int .i64 x.kd) := X1.out.cell 1
  have p2 : (y4.alloc (.cells #[.string m.nm, .int .i64 m.kd, .int .i64 m.ty, .int .i64 m.lv, .int .i32 m.nn, .int .i64 m.md, .bool m.ou, .slice A4 m.ps.length c4] rO)).cell? ⟨g1, 2, none⟩ = some (.int .i64 x.ty) := X1.out.cell 2
  have p3 : (y4.alloc (.cells #[.string m.nm, .int .i64 m.kd, .int .i64 m.ty, .int .i64 m.lv, .int .i32 m.nn, .int .i64 m.md, .bool m.ou, .slice A4 m.ps.length c4] rO)).cell? ⟨g1, 3, none⟩ = some (.int .i64 x.lv) := X1.out.cell 3
  have p4 : (y4.alloc (.cells #[.string m.nm, .int .i64 m.kd, .int .i64 m.ty, .int .i64 m.lv, .int .i32 m.nn, .int .i64 m.md, .bool m.ou, .slice A4 m.ps.length c4] rO)).cell? ⟨g1, 4, none⟩ = some (.int .i32 x.nn) := X1.out.cell 4
  have p5 : (y4.alloc (.cells #[.string m.nm, .int .i64 m.kd, .int .i64 m.ty, .int .i64 m.lv, .int .i32 m.nn, .int .i64 m.md, .bool m.ou, .slice A4 m.ps.length c4] rO)).cell? ⟨g1, 5, none⟩ = some (.int .i64 x.md) := X1.out.cell 5
  have p6 : (y4.alloc (.cells #[.string m.nm, .int .i64 m.kd, .int .i64 m.ty, .int .i64 m.lv, .int .i32 m.nn, .int .i64 m.md, .bool m.ou, .slice A4 m.ps.length c4] rO)).cell? ⟨g1, 6, none⟩ = some (.bool x.ou) := X1.out.cell 6
  have p7 : (y4.alloc (.cells #[.string m.nm, .int .i64 m.kd, .int .i64 m.ty, .int .i64 m.lv, .int .i32 m.nn, .int .i64 m.md, .bool m.ou, .slice A4 m.ps.length c4] rO)).cell? ⟨g1, 7, none⟩ = some (.slice A1 x.ps.length c1) := X1.out.cell 7
  have q0 : (y4.alloc (.cells #[.string m.nm, .int .i64 m.kd, .int .i64 m.ty, .int .i64 m.lv, .int .i32 m.nn, .int .i64 m.md, .bool m.ou, .slice A4 m.ps.length c4] rO)).cell? ⟨g2, 0, none⟩ = some (.string x.nm) := X2.out.cell 0
  have q1 : (y4.alloc (.cells #[.string m.nm, .int .i64 m.kd, .int .i64 m.ty, .int .i64 m.lv, .int .i32 m.nn, .int .i64 m.md, .bool m.ou, .slice A4 m.ps.length c4] rO)).cell? ⟨g2, 1, none⟩ = some (.int .i64 x.kd) := X2.out.cell 1
  have q2 : (y4.alloc (.cells #[.string m.nm, .int .i64 m.kd, .int .i64 m.ty, .int .i64 m.lv, .int .i32 m.nn, .int .i64 m.md, .bool m.ou, .slice A4 m.ps.length c4] rO)).cell? ⟨g2, 2, none⟩ = some (.int .i64 x.ty) := X2.out.cell 2
  have q3 : (y4.alloc (.cells #[.string m.nm, .int .i64 m.kd, .int .i64 m.ty, .int .i64 m.lv, .int .i32 m.nn, .int .i64 m.md, .bool m.ou, .slice A4 m.ps.length c4] rO)).cell? ⟨g2, 3, none⟩ = some (.int .i64 x.lv) := X2.out.cell 3
  have q4 : (y4.alloc (.cells #[.string m.nm, .int .i64 m.kd, .int .i64 m.ty, .int .i64 m.lv, .int .i32 m.nn, .int .i64 m.md, .bool m.ou, .slice A4 m.ps.length c4] rO)).cell? ⟨g2, 4, none⟩ = some (.int .i32 x.nn) := X2.out.cell 4
  have q5 : (y4.alloc (.cells #[.string m.nm, .int .i64 m.kd, .int .i64 m.ty, .int .i64 m.lv, .int .i32 m.nn, .int .i64 m.md, .bool m.ou, .slice A4 m.ps.length c4] rO)).cell? ⟨g2, 5, none⟩ = some (.int .i64 x.md) := X2.out.cell 5
  have q6 : (y4.alloc (.cells #[.string m.nm, .int .i64 m.kd, .int .i64 m.ty, .int .i64 m.lv, .int .i32 m.nn, .int .i64 m.md, .bool m.ou, .slice A4 m.ps.length c4] rO)).cell? ⟨g2, 6, none⟩ = some (.bool x.ou) := X2.out.cell 6
  have q7 : (y4.alloc (.cells #[.string m.nm, .int .i64 m.kd, .int .i64 m.ty, .int .i64 m.lv, .int .i32 m.nn, .int .i64 m.md, .bool m.ou, .slice A4 m.ps.length c4] rO)).cell? ⟨g2, 7, none⟩ = some (.slice A2 x.ps.length c2) := X2.out.cell 7
  have I1 := Lib.hid (is_any x.nm x.kd x.ty x.lv x.nn x.md x.ou x.ps A1 A2 c1 c2 _ _ (y4.alloc (.cells #[.string m.nm, .int .i64 m.kd, .int .i64 m.ty, .int .i64 m.lv, .int .i32 m.nn, .int .i64 m.md, .bool m.ou, .slice A4 m.ps.length c4] rO)) P1.out P2.out HX.out)
  go_wp2_with fail
  clear p0 p1 p2 p3 p4 p5 p6 p7 q0 q1 q2 q3 q4 q5 q6 q7
  refine I1.out.mono ?_
  rintro e y5 ⟨rfl, hb5⟩
  have X3' := Lib.hid (X3.out.below hb5 X3.out.lt)
  have X4' := Lib.hid (X4.out.below hb5 X4.out.lt)
  have I2 := Lib.hid (is_any m.nm m.kd m.ty m.lv m.nn m.md m.ou m.ps A3 A4 c3 c4 _ _ y5 (P3.out.below hb5) (P4.out.below hb5) HM.out)
  have B5 := Lib.hid (B4.out.trans (hb5.mono B4.out.size))
  clear hb5 I1 X1 X2 X3 X4 P1 P2 P3 P4
  have p0 : y5.cell? ⟨g3, 0, none⟩ = some (.string m.nm) := X3'.out.cell 0
  have p1 : y5.cell? ⟨g3, 1, none⟩ = some (.int .i64 m.kd) := X3'.out.cell 1
  have p2 : y5.cell? ⟨g3, 2, none⟩ = some (.int .i64 m.ty) := X3'.out.cell 2
  have p3 : y5.cell? ⟨g3, 3, none⟩ = some (.int .i64 m.lv) := X3'.out.cell 3
  have p4 : y5.cell? ⟨g3, 4, none⟩ = some (.int .i32 m.nn) := X3'.out.cell 4
  have p5 : y5.cell? ⟨g3, 5, none⟩ = some (.int .i64 m.md) := X3'.out.cell 5
  have p6 : y5.cell? ⟨g3, 6, none⟩ = some (.bool m.ou) := X3'.out.cell 6
  have p7 : y5.cell? ⟨g3, 7, none⟩ = some (.slice A3 m.ps.length c3) := X3'.out.cell 7
  have q0 : y5.cell? ⟨y4.heap.size, 0, none⟩ = some (.string m.nm) := X4'.out.cell 0
  have q1 : y5.cell? ⟨y4.heap.size, 1, none⟩ = some (.int .i64 m.kd) := X4'.out.cell 1
  have q2 : y5.cell? ⟨y4.heap.size, 2, none⟩ = some (.int .i64 m.ty) := X4'.out.cell 2
  have q3 : y5.cell? ⟨y4.heap.size, 3, none⟩ = some (.int .i64 m.lv) := X4'.out.cell 3
  have q4 : y5.cell? ⟨y4.heap.size, 4, none⟩ = some (.int .i32 m.nn) := X4'.out.cell 4
  have q5 : y5.cell? ⟨y4.heap.size, 5, none⟩ = some (.int .i64 m.md) := X4'.out.cell 5
  have q6 : y5.cell? ⟨y4.heap.size, 6, none⟩ = some (.bool m.ou) := X4'.out.cell 6
  have q7 : y5.cell? ⟨y4.heap.size, 7, none⟩ = some (.slice A4 m.ps.length c4) := X4'.out.cell 7
  go_wp2_with fail
  refine I2.out.mono ?_
  rintro e y6 ⟨rfl, hb6⟩
  have B6 := Lib.hid (BV.out.trans ((B5.out.trans (hb6.mono B5.out.size)).mono HZ.out))
  clear hb6 p0 p1 p2 p3 p4 p5 p6 p7 q0 q1 q2 q3 q4 q5 q6 q7 X3' X4' I2 B5
  go_wp2_with fail
  go_ret
  exact ⟨rfl, B6.out⟩
end Go.Proofs.Ytpfoebnlngfebaa
