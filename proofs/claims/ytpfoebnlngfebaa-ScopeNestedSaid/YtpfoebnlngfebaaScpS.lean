/- Scopes: the answers' Import. -/
import Derived.Test.YtpfoebnlngfebaaScpO
import Derived.Test.YtpfoebnlngfebaaScpP
namespace Go.Proofs.Ytpfoebnlngfebaa
open Go.ChangeShapes Go.WideShapes Go.ChangeAt Go.RowKit
set_option linter.unusedVariables false
set_option linter.unusedSimpArgs false

/-- The answers' scopes and a number that a call returns. -/
def RefPost3 (B : Nat) (w : World) (r : Stt × Int × Int) (e : Ending) (w' : World) : Prop :=
  ∃ AL cL lx AM cM mx, e = .returned (.tuple #[.agg #[.slice AL r.1.L.length cL, .int .i64 r.1.lev, .slice AM r.1.mods.length cM], .int .i64 r.2.1, .int .i64 r.2.2]) ∧ RefIn w' B AL cL lx AM cM mx r.1 ∧ Below w.heap.size w w'

set_option maxHeartbeats 32000000 in
set_option maxRecDepth 100000 in
theorem refimport_full (B : Nat) (AL : Option Addr) (cL : Nat) (lx : List Ox) (AM : Option Addr) (cM : Nat) (mx : List (Value × List Ox)) (s : Stt) (nm : ByteArray) (v : Value) (es : List Exx) (w : World) (h : RefIn w B AL cL lx AM cM mx s) (he : ExpV B w v es) (hB : B ≤ w.heap.size) (hlen : s.L.length ≤ 1000) (hml : s.mods.length ≤ 64) (hen : es.length * 64 ≤ 140737488355328) (hfull : 64 ≤ s.mods.length) :
    Calls Try.prog 36 #[.agg #[.slice AL s.L.length cL, .int .i64 s.lev, .slice AM s.mods.length cM], .string nm, v] w (RefPost3 B w (importP s nm (es.map (·.1)))) := by
  obtain ⟨Ae, ce, rfl⟩ : ∃ Ae ce, v = .slice Ae es.length ce := by
    obtain ⟨A, c, h1, _⟩ := he
    exact ⟨A, c, h1⟩
  have DP : importP s nm (es.map (·.1)) = (s, 0, 243) := if_pos hfull
  rw [DP]
  clear DP
  have b1 := (Below.refl w.heap.size w).alloc (Nat.le_refl _) (.cells #[.slice AL s.L.length cL, .int .i64 s.lev, .slice AM s.mods.length cM] rS)
  have b2 := b1.alloc b1.size (.cells #[.slice AL s.L.length cL, .int .i64 s.lev, .slice AM s.mods.length cM] rS)
  have BV := Lib.hid b2
  have HV := Lib.hid (h.below b2)
  have X1 := Lib.hid ((Whole.made w rS #[.slice AL s.L.length cL, .int .i64 s.lev, .slice AM s.mods.length cM] _ rfl).alloc (.cells #[.slice AL s.L.length cL, .int .i64 s.lev, .slice AM s.mods.length cM] rS))
  have X2 := Lib.hid (Whole.made (w.alloc (.cells #[.slice AL s.L.length cL, .int .i64 s.lev, .slice AM s.mods.length cM] rS)) rS #[.slice AL s.L.length cL, .int .i64 s.lev, .slice AM s.mods.length cM] (w.heap.size + 1) (by simp))
  have hI : (64 : Int) ≤ s.mods.length := by omega
  clear h he b1 b2 hB hlen hen
  go_enter Try.func36, Try.ntmps36
  repeat (first | go_values | go_skip | go_guarded | go_step | go_upon)
  have x0 : ((w.alloc (.cells #[.slice AL s.L.length cL, .int .i64 s.lev, .slice AM s.mods.length cM] rS)).alloc (.cells #[.slice AL s.L.length cL, .int .i64 s.lev, .slice AM s.mods.length cM] rS)).cell? ⟨w.heap.size + 1, 0, none⟩ = some (.slice AL s.L.length cL) := X2.out.cell 0
  have x1 : ((w.alloc (.cells #[.slice AL s.L.length cL, .int .i64 s.lev, .slice AM s.mods.length cM] rS)).alloc (.cells #[.slice AL s.L.length cL, .int .i64 s.lev, .slice AM s.mods.length cM] rS)).cell? ⟨w.heap.size + 1, 1, none⟩ = some (.int .i64 s.lev) := X2.out.cell 1
  have x2 : ((w.alloc (.cells #[.slice AL s.L.length cL, .int .i64 s.lev, .slice AM s.mods.length cM] rS)).alloc (.cells #[.slice AL s.L.length cL, .int .i64 s.lev, .slice AM s.mods.length cM] rS)).cell? ⟨w.heap.size + 1, 2, none⟩ = some (.slice AM s.mods.length cM) := X2.out.cell 2
  refine bodyPost_ret (v := .tuple #[.agg #[.slice AL s.L.length cL, .int .i64 s.lev, .slice AM s.mods.length cM], .int .i64 0, .int .i64 243]) ?_ rfl (⟨_, _, _, _, _, _, rfl, HV.out, BV.out⟩ : RefPost3 B w (s, 0, 243) _ _)
  clear X1 X2 BV HV
  generalize ((w.alloc (.cells #[.slice AL s.L.length cL, .int .i64 s.lev, .slice AM s.mods.length cM] rS)).alloc (.cells #[.slice AL s.L.length cL, .int .i64 s.lev, .slice AM s.mods.length cM] rS)) = Z at *
  simp [results, Try.results36, go_sem, x0, x1, x2]

set_option maxHeartbeats 32000000 in
set_option maxRecDepth 100000 in
theorem refimport_bad (B : Nat) (AL : Option Addr) (cL : Nat) (lx : List Ox) (AM : Option Addr) (cM : Nat) (mx : List (Value × List Ox)) (s : Stt) (nm : ByteArray) (v : Value) (es : List Exx) (w : World) (h : RefIn w B AL cL lx AM cM mx s) (he : ExpV B w v es) (hB : B ≤ w.heap.size) (hlen : s.L.length ≤ 1000) (hml : s.mods.length ≤ 64) (hen : es.length * 64 ≤ 140737488355328) (hfull : ¬ 64 ≤ s.mods.length) (hbad : (declP s (impOb ((s.mods.length : Int) + 1) nm)).2 ≠ 0) :
    Calls Try.prog 36 #[.agg #[.slice AL s.L.length cL, .int .i64 s.lev, .slice AM s.mods.length cM], .string nm, v] w (RefPost3 B w (importP s nm (es.map (·.1)))) := by
  obtain ⟨Ae, ce, rfl⟩ : ∃ Ae ce, v = .slice Ae es.length ce := by
    obtain ⟨A, c, h1, _⟩ := he
    exact ⟨A, c, h1⟩
  have DP : importP s nm (es.map (·.1)) = (s, 0, (declP s (impOb ((s.mods.length : Int) + 1) nm)).2) := by
    unfold importP
    rw [if_neg hfull]
    rw [show ((s.mods.length + 1 : Nat) : Int) = (s.mods.length : Int) + 1 by omega]
    rw [if_pos hbad]
  rw [DP]
  clear DP
  have b1 := (Below.refl w.heap.size w).alloc (Nat.le_refl _) (.cells #[.slice AL s.L.length cL, .int .i64 s.lev, .slice AM s.mods.length cM] rS)
  have b2 := b1.alloc b1.size (.cells #[.slice none 0 0, .int .i64 0, .slice none 0 0] rS)
  have BV := Lib.hid b2
  have HV := Lib.hid (h.below b2)
  have X1 := Lib.hid ((Whole.made w rS #[.slice AL s.L.length cL, .int .i64 s.lev, .slice AM s.mods.length cM] _ rfl).alloc (.cells #[.slice none 0 0, .int .i64 0, .slice none 0 0] rS))
  have X2 := Lib.hid (Whole.made (w.alloc (.cells #[.slice AL s.L.length cL, .int .i64 s.lev, .slice AM s.mods.length cM] rS)) rS #[.slice none 0 0, .int .i64 0, .slice none 0 0] (w.heap.size + 1) (by simp))
  have hmI : ¬ (64 : Int) ≤ s.mods.length := by omega
  have hmL : (s.mods.length : Int) < 64 := by omega
  have hwr := wrap_i32_small hml
  have DD := Lib.hid (refdecl_any B AL cL lx AM cM mx s nm 8 0 0 ((s.mods.length : Int) + 1) 0 false [] none 0 ((w.alloc (.cells #[.slice AL s.L.length cL, .int .i64 s.lev, .slice AM s.mods.length cM] rS)).alloc (.cells #[.slice none 0 0, .int .i64 0, .slice none 0 0] rS)) HV.out (ParV.nil _ _) (Nat.le_trans hB b2.size) hlen)
  rw [show (⟨nm, 8, 0, 0, (s.mods.length : Int) + 1, 0, false, []⟩ : Ob) = impOb ((s.mods.length : Int) + 1) nm from rfl] at DD
  have H0 := Lib.hid h
  have HE := Lib.hid he
  have HB := Lib.hid hB
  have HL := Lib.hid h.len
  have HN := Lib.hid hen
  have DM := Lib.hid (declP_mods s (impOb ((s.mods.length : Int) + 1) nm))
  clear h he b1 b2 hB hlen hen hml
  generalize hdp : declP s (impOb ((s.mods.length : Int) + 1) nm) = dp at *
  obtain ⟨s1, e1⟩ := dp
  unfold RefPost at DD
  have q2 : ((w.alloc (.cells #[.slice AL s.L.length cL, .int .i64 s.lev, .slice AM s.mods.length cM] rS)).alloc (.cells #[.slice none 0 0, .int .i64 0, .slice none 0 0] rS)).cell? ⟨w.heap.size, 2, none⟩ = some (.slice AM s.mods.length cM) := X1.out.cell 2
  go_enter Try.func36, Try.ntmps36
  go_wp2_with fail
  clear q2
  generalize ((w.alloc (.cells #[.slice AL s.L.length cL, .int .i64 s.lev, .slice AM s.mods.length cM] rS)).alloc (.cells #[.slice none 0 0, .int .i64 0, .slice none 0 0] rS)) = V at *
  refine DD.out.mono ?_
  rintro e w1 ⟨AL1, cL1, lx1, AM1, cM1, mx1, rfl, hR1, hb1⟩
  have B1 := Lib.hid (BV.out.trans (hb1.mono BV.out.size))
  have Y1 := Lib.hid (X1.out.below hb1 X1.out.lt)
  have Y2 := Lib.hid (X2.out.below hb1 X2.out.lt)
  have R1 := Lib.hid hR1
  have BN := Lib.hid ((Below.refl w1.heap.size w1).alloc (Nat.le_refl _) (.cells #[.slice AL1 s1.L.length cL1, .int .i64 s1.lev, .slice AM1 s1.mods.length cM1] rS))
  clear hR1 hb1 DD X1 X2 BV HV
  simp only []
  go_at_K
  have d : (e1 != 0) = true := bne_iff_ne.2 hbad
  clear hbad hdp
  have Q1 := Lib.hid (Y1.out.below BN.out Y1.out.lt)
  have Q2 := Lib.hid (Y2.out.below BN.out Y2.out.lt)
  have S3 : (Try.prog.info? rS).map (·.size) = some 3 := by kernel_rfl
  have H1 := Lib.hid (show (#[.slice AL s.L.length cL, .int .i64 s.lev, .slice AM s.mods.length cM] : Array Value).all (·.oneCell') = true from by simp [Value.oneCell'])
  have x0 : (w1.alloc (.cells #[.slice AL1 s1.L.length cL1, .int .i64 s1.lev, .slice AM1 s1.mods.length cM1] rS)).cell? ⟨w.heap.size, 0, none⟩ = some (.slice AL s.L.length cL) := Q1.out.cell 0
  have x1 : (w1.alloc (.cells #[.slice AL1 s1.L.length cL1, .int .i64 s1.lev, .slice AM1 s1.mods.length cM1] rS)).cell? ⟨w.heap.size, 1, none⟩ = some (.int .i64 s.lev) := Q1.out.cell 1
  have x2 : (w1.alloc (.cells #[.slice AL1 s1.L.length cL1, .int .i64 s1.lev, .slice AM1 s1.mods.length cM1] rS)).cell? ⟨w.heap.size, 2, none⟩ = some (.slice AM s.mods.length cM) := Q1.out.cell 2
  repeat (first | (go_big_may; first | (refine wpList_store_row rfl rS (.tmp 6) (.tmp 35) rfl (w.heap.size + 1) #[.slice AL s.L.length cL, .int .i64 s.lev, .slice AM s.mods.length cM] rfl rfl rS #[.slice none 0 0, .int .i64 0, .slice none 0 0] Q2.out S3 rfl H1.out ?_; generalize hZZ : ((w1.alloc (.cells #[.slice AL1 s1.L.length cL1, .int .i64 s1.lev, .slice AM1 s1.mods.length cM1] rS))).setRow (w.heap.size + 1) #[.slice AL s.L.length cL, .int .i64 s.lev, .slice AM s.mods.length cM] = ZZ; have HZZ := Lib.hid hZZ; clear hZZ)) | go_values | go_skip | go_guarded | go_step | go_upon)
  have SX := Lib.hid (Q2.out.setRow #[.slice AL s.L.length cL, .int .i64 s.lev, .slice AM s.mods.length cM])
  rw [HZZ.out] at SX
  clear x0 x1 x2 S3 H1
  have hw1 := B1.out.size
  have BZ : Below w.heap.size w ZZ := (B1.out.trans (BN.out.mono B1.out.size)).grown SX.out.2 (Nat.le_trans B1.out.size BN.out.size) (fun b hb => by injection hb with hb; omega)
  have HF := Lib.hid (show RefPost3 B w (s, 0, e1) (.returned (.tuple #[.agg #[.slice AL s.L.length cL, .int .i64 s.lev, .slice AM s.mods.length cM], .int .i64 0, .int .i64 e1])) ZZ from ⟨AL, cL, lx, AM, cM, mx, rfl, H0.out.below BZ, BZ⟩)
  have W9 := SX.out.1
  clear BZ SX
  have y0 : ZZ.cell? ⟨w.heap.size + 1, 0, none⟩ = some (.slice AL s.L.length cL) := W9.cell 0
  have y1 : ZZ.cell? ⟨w.heap.size + 1, 1, none⟩ = some (.int .i64 s.lev) := W9.cell 1
  have y2 : ZZ.cell? ⟨w.heap.size + 1, 2, none⟩ = some (.slice AM s.mods.length cM) := W9.cell 2
  refine bodyPost_ret (v := .tuple #[.agg #[.slice AL s.L.length cL, .int .i64 s.lev, .slice AM s.mods.length cM], .int .i64 0, .int .i64 e1]) ?_ rfl HF.out
  clear HF W9
  simp [results, Try.results36, go_sem, y0, y1, y2]
end Go.Proofs.Ytpfoebnlngfebaa
