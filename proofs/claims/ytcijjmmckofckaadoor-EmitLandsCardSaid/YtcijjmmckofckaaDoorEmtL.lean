/- Emit: the law EmitLands. -/
import Derived.Test.YtcijjmmckofckaaDoorEmtK
import Derived.Test.YtcijjmmckofckaaDoorInstrJ
namespace Go.Proofs.YtcijjmmckofckaaDoor
open Go.ChangeShapes Go.WideShapes Go.ChangeAt Go.RowKit
set_option linter.unusedVariables false
set_option linter.unusedSimpArgs false

def bzI (n : Int) : Ins := ⟨20, 3, 0, 0, n⟩

def bnI (n : Int) : Ins := ⟨21, 3, 0, 0, n⟩

abbrev riT : TypeId := 51

theorem bz_ok {n : Int} (h0 : -32768 ≤ n) (h1 : n ≤ 32767) : chk (bzI n) = 0 :=
  checkOf_good (s := 1) (show shapeOf 20 = 1 from by decide) (by decide) (by unfold GoodP lowOf highOf regsOf bzI; simp; omega)

theorem bn_ok {n : Int} (h0 : -32768 ≤ n) (h1 : n ≤ 32767) : chk (bnI n) = 0 :=
  checkOf_good (s := 1) (show shapeOf 21 = 1 from by decide) (by decide) (by unfold GoodP lowOf highOf regsOf bnI; simp; omega)

/-- What lies there behind the HALTs, the jump and so much more. -/
def lnE (b : Nat) (i : Ins) (X : List Ins) : Em := ⟨List.replicate b hltI ++ i :: X, [], 0, 0, 0⟩

theorem ln_len (b : Nat) (i : Ins) (X : List Ins) : (lnE b i X).L.length = b + 1 + X.length := by simp only [lnE, List.length_append, List.length_replicate, List.length_cons]; omega

theorem ln_put (b : Nat) (i j : Ins) (X : List Ins) (hc : chk j = 0) (hl : b + 1 + X.length < 16384) : putE (lnE b i X) j = lnE b i (X ++ [j]) := by
  rw [put_good hc (by rw [ln_len]; exact hl)]
  simp [lnE]

theorem ln_num (b : Nat) (i : Ins) (X : List Ins) (hl : b + 1 + X.length + 2 < 16384) : numE (lnE b i X) 1 70000 = lnE b i (X ++ [⟨3, 1, 0, 0, 1⟩, ⟨4, 1, 1, 0, 4464⟩]) := by
  unfold numE
  rw [if_neg (by omega)]
  unfold halfE
  rw [ln_put b i _ X (by decide) (by omega), ln_put b i _ _ (by decide) (by simp; omega)]
  simp

theorem ln_get (b : Nat) (i : Ins) (X : List Ins) : (lnE b i X).L.getD b zIns = i := by
  simp [lnE, List.getD_eq_getElem?_getD]

theorem ln_patch (b : Nat) (i : Ins) (X : List Ins) (n : Int) (hc : chk (numI i n) = 0) : patchE (lnE b i X) b n = lnE b (numI i n) X := by
  rw [patch_yes (by rw [ln_len]; omega) (by rw [ln_get]; exact hc), ln_get]
  simp [lnE]

theorem ln_get2 (b : Nat) (i j : Ins) (X : List Ins) : (lnE b i (X ++ [j])).L.getD (b + 1 + X.length) zIns = j := by
  simp [lnE, List.getD_eq_getElem?_getD, List.getElem?_append, Nat.add_assoc, Nat.add_comm 1]

theorem ln_patch2 (b : Nat) (i j : Ins) (X : List Ins) (n : Int) (hc : chk (numI j n) = 0) : patchE (lnE b i (X ++ [j])) ((b + 1 + X.length : Nat) : Int) n = lnE b i (X ++ [numI j n]) := by
  rw [patch_yes (by rw [ln_len]; simp) (by rw [ln_get2]; exact hc), ln_get2]
  simp [lnE, List.set_append, Nat.add_assoc, Nat.add_comm 1]

theorem ln_one (b : Nat) (i : Ins) (hc : chk i = 0) (hb : b < 16384) : putE (manyE b) i = lnE b i [] := by
  rw [many_lo b (by omega), put_good hc (by simp only [List.length_replicate]; omega)]
  rfl

set_option maxHeartbeats 16000000 in
set_option maxRecDepth 100000 in
theorem emitlands_walk (w : World) (hS : ShapesIn w) (bi ki : Int) (hb0 : 0 ≤ bi) (hb1 : bi ≤ 255) (hk0 : 0 ≤ ki) (hk1 : ki ≤ 255) :
    Calls Tryd.prog 4 #[.int .u8 bi, .int .u8 ki] w fun e w' => e = .returned (.bool true) ∧ Below w.heap.size w w' := by
  have AW := Lib.hid (awake17_any w hS)
  have NE := Lib.hid (fun y (hb : Below w.heap.size w y) => enew_any w.heap.size 0 y hb.size (hS.below hb (Nat.le_refl _)) hS.lt)
  clear hS
  obtain ⟨b, rfl⟩ := Int.eq_ofNat_of_zero_le hb0
  obtain ⟨k, rfl⟩ := Int.eq_ofNat_of_zero_le hk0
  have hb : b ≤ 255 := by omega
  have hk : k ≤ 255 := by omega
  go_enter Tryd.func4, Tryd.ntmps4
  go_wp2_with fail
  refine AW.out.mono ?_
  rintro e y0 ⟨rfl, hb0⟩
  have NE1 := Lib.hid (NE.out y0 hb0)
  have B0 := Lib.hid hb0
  clear hb0 AW NE
  go_wp2_with fail
  refine NE1.out.mono ?_
  rintro e y1 ⟨g, T1, rfl, hc, hb, _⟩
  have C1 := Lib.hid (show CdAt y1 w.heap.size g T1 0 (manyE 0) from hc)
  have B1 := Lib.hid (B0.out.trans (hb.mono B0.out.size))
  clear hc hb NE1 B0
  go_wp2_with fail
  go_loopw [6] (fun i wr => ∃ t : Nat, t ≤ b ∧ i = .int .i64 t ∧ Below w.heap.size w wr ∧ ∃ T, CdAt wr w.heap.size g T 0 (manyE t)) (fun i _ => b - (intOf i).toNat)
  case atStart => exact ⟨0, Nat.zero_le _, rfl, B1.out, T1, C1.out⟩
  case round =>
    obtain ⟨t, ht, rfl, hb, T, hc⟩ := hrel
    have BR := Lib.hid hb
    have CR := Lib.hid hc
    clear hb hc B1 C1
    by_cases hlt : t < b
    case pos =>
      have hI : (t : Int) < b := by omega
      have RE := Lib.hid (reg_any 1 0 (by unfold I64; omega) (by unfold I64; omega) w.heap.size g T 0 (manyE t) wr CR.out (by omega))
      go_wp2_with fail
      refine RE.out.mono ?_
      rintro e y2 ⟨rfl, hp⟩
      have BC := Lib.hid (CR.out.after hp)
      obtain ⟨T2, hc⟩ := BC.out.2
      have C2 := Lib.hid hc
      have B2 := Lib.hid (BR.out.trans BC.out.1)
      clear hp hc BC RE BR CR
      go_wp2_with fail
      go_roundw
      case rel => exact ⟨t + 1, by omega, by go_num, B2.out, T2, C2.out⟩
      case measure => simp [intOf]; omega
    case neg =>
      have hI : ¬ (t : Int) < b := by omega
      obtain rfl : t = b := by omega
      have JE := Lib.hid (jump_any 20 3 (by unfold I64; omega) (by unfold I64; omega) w.heap.size g T 0 (manyE t) wr CR.out (by omega))
      have J1 := Lib.hid (ln_one t (bzI 0) (bz_ok (by omega) (by omega)) (by omega))
      have JL := Lib.hid (show ((lnE t (bzI 0) []).L.length : Int) - 1 = t from by rw [ln_len]; simp)
      change Hid (Calls _ _ _ _ fun e w' => e = .returned (.int .i64 ((putE (manyE t) (bzI 0)).L.length - 1)) ∧ CdPM wr w' w.heap.size g T 0 (putE (manyE t) (bzI 0)).L.length (putE (manyE t) (bzI 0))) at JE
      rw [J1.out, JL.out] at JE
      go_wp2_with fail
      refine JE.out.mono ?_
      rintro e y2 ⟨rfl, hp⟩
      have BC := Lib.hid (CR.out.after hp)
      obtain ⟨T2, hc⟩ := BC.out.2
      have C2 := Lib.hid hc
      have B2 := Lib.hid (BR.out.trans BC.out.1)
      clear hp hc BC JE BR CR J1 JL
      go_wp2_with fail
      go_loopw [8] (fun i wr => ∃ (s : Nat) (X : List Ins), s ≤ k ∧ X.length = 2 * s ∧ i = .int .i64 s ∧ Below w.heap.size w wr ∧ ∃ T, CdAt wr w.heap.size g T 0 (lnE t (bzI 0) X)) (fun i _ => k - (intOf i).toNat)
      case atStart => exact ⟨0, [], Nat.zero_le _, rfl, rfl, B2.out, T2, C2.out⟩
      case round =>
        obtain ⟨s, X, hs, hX, rfl, hb, T, hc⟩ := hrel
        have BR := Lib.hid hb
        have CR := Lib.hid hc
        have HX := Lib.hid hX
        clear hb hc B2 C2 hX
        by_cases hlt2 : s < k
        case pos =>
          have hI2 : (s : Int) < k := by omega
          have RE := Lib.hid (enumber_any 1 70000 (by unfold I64; omega) (by omega) (by omega) w.heap.size g T 0 (lnE t (bzI 0) X) wr CR.out (by omega))
          rw [ln_num t (bzI 0) X (by have := HX.out; omega)] at RE
          go_wp2_with fail
          refine RE.out.mono ?_
          rintro e y2 ⟨rfl, hp⟩
          have BC := Lib.hid (CR.out.after hp)
          obtain ⟨T2, hc⟩ := BC.out.2
          have C2 := Lib.hid hc
          have B2 := Lib.hid (BR.out.trans BC.out.1)
          clear hp hc BC RE BR CR
          go_wp2_with fail
          go_roundw
          case rel => exact ⟨s + 1, _, by omega, by rw [List.length_append, HX.out]; simp; omega, by go_num, B2.out, T2, C2.out⟩
          case measure => simp [intOf]; omega
        case neg =>
          have hI2 : ¬ (s : Int) < k := by omega
          obtain rfl : s = k := by omega
          have LE := Lib.hid (land_any t (by omega) (by omega) w.heap.size g T 0 (lnE t (bzI 0) X) wr CR.out (by omega))
          obtain ⟨q, hq⟩ : ∃ q : Nat, q = t + 1 + X.length := ⟨_, rfl⟩
          obtain ⟨yn, hyn⟩ : ∃ yn : Int, yn = q - t - 1 := ⟨_, rfl⟩
          obtain ⟨zn, hzn⟩ : ∃ zn : Int, zn = t - q - 1 := ⟨_, rfl⟩
          have HQ := Lib.hid hq
          have HY := Lib.hid hyn
          have HZ := Lib.hid hzn
          have q1 : q ≤ 1000 := by have := HX.out; omega
          have q2 : t + 1 ≤ q := by omega
          have y1 : 0 ≤ yn := by omega
          have y2' : yn ≤ 1000 := by have := HX.out; omega
          have z1 : -1000 ≤ zn := by have := HX.out; omega
          have z2 : zn ≤ 0 := by omega
          have e1 : (((t : Int) + 1 + yn) == (q : Int)) = true := beq_iff_eq.2 (by omega)
          have e2 : (((q : Int) + 1 + zn) == (t : Int)) = true := beq_iff_eq.2 (by omega)
          rw [show ((lnE t (bzI 0) X).L.length : Int) - t - 1 = yn from by rw [ln_len, ← HQ.out]; exact HY.out.symm, ln_patch t (bzI 0) X yn (bz_ok (n := yn) (by omega) (by omega))] at LE
          change Hid (Calls _ _ _ _ fun e w' => e = .returned (.tuple #[]) ∧ CdPM wr w' w.heap.size g T 0 (lnE t (bzI yn) X).L.length (lnE t (bzI yn) X)) at LE
          clear hq hyn hzn
          go_wp2_with fail
          refine LE.out.mono ?_
          rintro e y3 ⟨rfl, hp⟩
          have BC := Lib.hid (CR.out.after hp)
          obtain ⟨T3, hc⟩ := BC.out.2
          have C3 := Lib.hid hc
          have B3 := Lib.hid (BR.out.trans BC.out.1)
          clear hp hc BC LE BR CR
          have HE := Lib.hid (here_any w.heap.size g T3 0 _ _ y3 C3.out)
          rw [ln_len, ← HQ.out] at HE
          have BE := Lib.hid (back_any 21 3 t (by unfold I64; omega) (by unfold I64; omega) (by omega) (by omega) w.heap.size g T3 0 (lnE t (bzI yn) X) y3 C3.out (by omega))
          have P1 := Lib.hid (show putE (lnE t (bzI yn) X) ⟨21, 3, 0, 0, 0⟩ = lnE t (bzI yn) (X ++ [bnI 0]) from ln_put t (bzI yn) (bnI 0) X (bn_ok (by omega) (by omega)) (by have := HX.out; omega))
          rw [P1.out, show ((lnE t (bzI yn) (X ++ [bnI 0])).L.length : Int) - 1 = ((t + 1 + X.length : Nat) : Int) from by rw [ln_len]; simp; omega, show (t : Int) - (lnE t (bzI yn) (X ++ [bnI 0])).L.length = zn from by rw [ln_len]; have := HZ.out; have := HQ.out; simp; omega, ln_patch2 t (bzI yn) (bnI 0) X zn (bn_ok (n := zn) (by omega) (by omega))] at BE
          change Hid (Calls _ _ _ _ fun e w' => e = .returned (.tuple #[]) ∧ CdPM y3 w' w.heap.size g T3 0 (lnE t (bzI yn) (X ++ [bnI zn])).L.length (lnE t (bzI yn) (X ++ [bnI zn]))) at BE
          go_wp2_with fail
          refine HE.out.mono ?_
          rintro e y4 ⟨rfl, rfl⟩
          go_wp2_with fail
          refine BE.out.mono ?_
          rintro e y5 ⟨rfl, hp⟩
          have BC := Lib.hid (C3.out.after hp)
          obtain ⟨T5, hc⟩ := BC.out.2
          have B5 := Lib.hid (B3.out.trans BC.out.1)
          have FL := Lib.hid (show (lnE t (bzI yn) (X ++ [bnI zn])).L.length = q + 1 from by rw [ln_len]; have := HQ.out; simp; omega)
          have FE := Lib.hid (finish_ok w.heap.size g T5 0 _ _ y5 hc (by omega) (by rw [FL.out]; omega) rfl)
          have G1 := Lib.hid (ln_get t (bzI yn) (X ++ [bnI zn]))
          have G2 := Lib.hid (show (lnE t (bzI yn) (X ++ [bnI zn])).L.getD q zIns = bnI zn from by rw [HQ.out]; exact ln_get2 t (bzI yn) (bnI zn) X)
          clear hp hc BC BE HE P1 C3 B3
          generalize (lnE t (bzI yn) (X ++ [bnI zn])).fx.length = n2 at FE
          go_wp2_with fail
          refine FE.out.mono ?_
          rintro e y6 ⟨A1, c1, A2, c2, A3, n3, c3, rfl, hb6, ho, _⟩
          obtain ⟨_, gw, rfl, _, _, hcell1⟩ := row_cell (f := wdC) (fun _ => rfl) zIns ho rfl (show t < (lnE t (bzI yn) (X ++ [bnI zn])).L.length by rw [FL.out]; omega)
          obtain ⟨hcap, gw', eg, _, _, hcell2⟩ := row_cell (f := wdC) (fun _ => rfl) zIns ho rfl (show q < (lnE t (bzI yn) (X ++ [bnI zn])).L.length by rw [FL.out]; omega)
          injection eg with eg
          injection eg with eg _ _
          subst eg
          have u1 := (hcell1 0 (by decide)).1
          have u2 := (hcell2 0 (by decide)).1
          rw [Nat.mul_one, Nat.add_zero, G1.out] at u1
          rw [Nat.mul_one, Nat.add_zero, G2.out] at u2
          rw [FL.out] at hcap
          rw [FL.out]
          have BR := Lib.hid ((Below.refl y6.heap.size y6).alloc (Nat.le_refl _) (.cells #[.slice (some ⟨gw, 0, none⟩) (q + 1) c1, .slice A2 n2 c2, .slice A3 n3 c3] resT))
          have XR := Lib.hid (Whole.made y6 resT #[.slice (some ⟨gw, 0, none⟩) (q + 1) c1, .slice A2 n2 c2, .slice A3 n3 c3] _ rfl)
          have r0 : (y6.alloc (.cells #[.slice (some ⟨gw, 0, none⟩) (q + 1) c1, .slice A2 n2 c2, .slice A3 n3 c3] resT)).cell? ⟨y6.heap.size, 0, none⟩ = some (.slice (some ⟨gw, 0, none⟩) (q + 1) c1) := XR.out.cell 0
          have u1' : (y6.alloc (.cells #[.slice (some ⟨gw, 0, none⟩) (q + 1) c1, .slice A2 n2 c2, .slice A3 n3 c3] resT)).cell? ⟨gw, t, none⟩ = some (.int .u32 (wd (bzI yn))) := cell_later u1 BR.out
          have u2' := Lib.hid (show (y6.alloc (.cells #[.slice (some ⟨gw, 0, none⟩) (q + 1) c1, .slice A2 n2 c2, .slice A3 n3 c3] resT)).cell? ⟨gw, q, none⟩ = some (.int .u32 (wd (bnI zn))) from cell_later u2 BR.out)
          have BV := Lib.hid (B5.out.trans ((hb6.trans (BR.out.mono hb6.size)).mono B5.out.size))
          have CY := bz_ok (n := yn) (by omega) (by omega)
          have CZ := bn_ok (n := zn) (by omega) (by omega)
          have DZ := Lib.hid (fun W => refdecode_any (wd (bnI zn)) W (wd_range CZ).1 (wd_range CZ).2)
          rw [dec_wd CZ] at DZ
          have DY := Lib.hid (refdecode_any (wd (bzI yn)) (y6.alloc (.cells #[.slice (some ⟨gw, 0, none⟩) (q + 1) c1, .slice A2 n2 c2, .slice A3 n3 c3] resT)) (wd_range CY).1 (wd_range CY).2)
          rw [dec_wd CY] at DY
          change Hid (∀ W : World, Calls _ _ _ _ fun e w' => e = .returned (.tuple #[.agg #[.int .i64 21, .int .i64 3, .int .i64 0, .int .i64 0, .int .i64 zn], .int .i64 0]) ∧ Below W.heap.size W w') at DZ
          change Hid (Calls _ _ _ _ fun e w' => e = .returned (.tuple #[.agg #[.int .i64 20, .int .i64 3, .int .i64 0, .int .i64 0, .int .i64 yn], .int .i64 0]) ∧ Below (y6.alloc (.cells #[.slice (some ⟨gw, 0, none⟩) (q + 1) c1, .slice A2 n2 c2, .slice A3 n3 c3] resT)).heap.size (y6.alloc (.cells #[.slice (some ⟨gw, 0, none⟩) (q + 1) c1, .slice A2 n2 c2, .slice A3 n3 c3] resT)) w') at DY
          clear hcell1 hcell2 u1 u2 CY CZ FE hb6 ho G1 G2 FL B5
          generalize wd (bzI yn) = wy at *
          generalize wd (bnI zn) = wz at *
          have hc1 := hcap
          clear hcap
          go_wp2_with fail
          generalize hV : (y6.alloc (.cells #[.slice (some ⟨gw, 0, none⟩) (q + 1) c1, .slice A2 n2 c2, .slice A3 n3 c3] resT)) = V at *
          have HV := Lib.hid hV
          clear hV
          refine DY.out.mono ?_
          rintro e y7 ⟨rfl, hb7⟩
          have BA := Lib.hid (hb7.alloc hb7.size (.cells #[.int .i64 20, .int .i64 3, .int .i64 0, .int .i64 0, .int .i64 yn] riT))
          have XA := Lib.hid (Whole.made y7 riT #[.int .i64 20, .int .i64 3, .int .i64 0, .int .i64 0, .int .i64 yn] _ rfl)
          have r1 : (y7.alloc (.cells #[.int .i64 20, .int .i64 3, .int .i64 0, .int .i64 0, .int .i64 yn] riT)).cell? ⟨y6.heap.size, 0, none⟩ = some (.slice (some ⟨gw, 0, none⟩) (q + 1) c1) := cell_later r0 BA.out
          have u3 : (y7.alloc (.cells #[.int .i64 20, .int .i64 3, .int .i64 0, .int .i64 0, .int .i64 yn] riT)).cell? ⟨gw, q, none⟩ = some (.int .u32 wz) := cell_later u2'.out BA.out
          have BV2 := Lib.hid (BV.out.trans (BA.out.mono BV.out.size))
          have DZ2 := Lib.hid (DZ.out (y7.alloc (.cells #[.int .i64 20, .int .i64 3, .int .i64 0, .int .i64 0, .int .i64 yn] riT)))
          clear hb7 DY DZ r0 u1' u2' BA BV BR XR
          go_wp2_with fail
          refine DZ2.out.mono ?_
          rintro e y9 ⟨rfl, hb9⟩
          have BA9 := Lib.hid (hb9.alloc hb9.size (.cells #[.int .i64 21, .int .i64 3, .int .i64 0, .int .i64 0, .int .i64 zn] riT))
          have XA9 := Lib.hid (XA.out.below BA9.out XA.out.lt)
          have XB9 := Lib.hid (Whole.made y9 riT #[.int .i64 21, .int .i64 3, .int .i64 0, .int .i64 0, .int .i64 zn] _ rfl)
          have a0 : (y9.alloc (.cells #[.int .i64 21, .int .i64 3, .int .i64 0, .int .i64 0, .int .i64 zn] riT)).cell? ⟨y7.heap.size, 0, none⟩ = some (.int .i64 20) := XA9.out.cell 0
          have a4 : (y9.alloc (.cells #[.int .i64 21, .int .i64 3, .int .i64 0, .int .i64 0, .int .i64 zn] riT)).cell? ⟨y7.heap.size, 4, none⟩ = some (.int .i64 yn) := XA9.out.cell 4
          have b0 : (y9.alloc (.cells #[.int .i64 21, .int .i64 3, .int .i64 0, .int .i64 0, .int .i64 zn] riT)).cell? ⟨y9.heap.size, 0, none⟩ = some (.int .i64 21) := XB9.out.cell 0
          have b4 : (y9.alloc (.cells #[.int .i64 21, .int .i64 3, .int .i64 0, .int .i64 0, .int .i64 zn] riT)).cell? ⟨y9.heap.size, 4, none⟩ = some (.int .i64 zn) := XB9.out.cell 4
          have BF := Lib.hid (BV2.out.trans (BA9.out.mono BV2.out.size))
          clear hb9 DZ2 r1 u3 BA9 BV2 XA XA9 XB9
          go_wp2_with fail
          go_ret
          exact ⟨rfl, BF.out⟩
end Go.Proofs.YtcijjmmckofckaaDoor
