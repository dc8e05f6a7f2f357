/- Emit: the page's example; the law EmitMany. -/
import Derived.Test.YtcijjmmckofckaaDoorEmtJ
import Derived.Test.YtcijjmmckofckaaDoorInstrK2
import Derived.Test.YtcijjmmckofckaaDoorInstrD
namespace Go.Proofs.YtcijjmmckofckaaDoor
open Go.ChangeShapes Go.WideShapes Go.ChangeAt Go.RowKit
set_option linter.unusedVariables false
set_option linter.unusedSimpArgs false

theorem nums_of_row {w : World} {B : Nat} {A : Option Addr} {c : Nat} {L : List Ins} (h : w.ownsRow B u4T 1 (.slice A L.length c) L.length (L.flatMap wdC)) : Nums .u32 w A L.length (L.map wd) := by
  refine ⟨by simp, fun h0 => ?_⟩
  obtain ⟨hcap, g, rfl, _, hg, _⟩ := row_cell (f := wdC) (fun _ => rfl) zIns h rfl h0
  refine ⟨g, 0, rfl, hg, fun j hj => ?_⟩
  obtain ⟨_, g', e, _, _, hc⟩ := row_cell (f := wdC) (fun _ => rfl) zIns h rfl hj
  injection e with e
  injection e with e _ _
  subst e
  have := (hc 0 (by decide)).1
  rw [Nat.mul_one, Nat.add_zero] at this
  rw [Nat.zero_add, this]
  simp [wdC, List.getD_eq_getElem?_getD, hj]

theorem put_good {m : Em} {i : Ins} (hc : chk i = 0) (hr : m.L.length < 16384) : putE m i = ⟨m.L ++ [i], m.fx, m.dep, m.most, m.err⟩ := by
  unfold putE putF putI
  rw [if_pos hr, if_pos hc, if_pos hc]

theorem put_full {m : Em} {i : Ins} (hc : chk i = 0) (hr : ¬ m.L.length < 16384) : putE m i = failE m 242 := by
  unfold putE putF
  rw [if_neg hr, if_pos hc]

/-- A Code behind so many HALTs. -/
def manyE : Nat → Em
  | 0 => newE
  | t + 1 => putE (manyE t) ⟨1, 0, 0, 0, 0⟩

theorem many_lo : ∀ t, t ≤ 16384 → manyE t = ⟨List.replicate t hltI, [], 0, 0, 0⟩
  | 0, _ => rfl
  | t + 1, h => by
    rw [manyE, many_lo t (by omega), put_good (show chk ⟨1, 0, 0, 0, 0⟩ = 0 from chk_hlt) (by simp only [List.length_replicate]; omega), List.replicate_succ']
    rfl

theorem many_hi : ∀ t, manyE (16384 + (t + 1)) = ⟨List.replicate 16384 hltI, [], 0, 0, 242⟩
  | 0 => by
    rw [show 16384 + (0 + 1) = 16384 + 1 from rfl, manyE, many_lo 16384 (by omega), put_full (show chk ⟨1, 0, 0, 0, 0⟩ = 0 from chk_hlt) (by simp only [List.length_replicate]; omega)]
    rfl
  | t + 1 => by
    rw [show 16384 + (t + 1 + 1) = (16384 + (t + 1)) + 1 from rfl, manyE, many_hi t, put_full (show chk ⟨1, 0, 0, 0, 0⟩ = 0 from chk_hlt) (by simp only [List.length_replicate]; omega)]
    rfl

theorem CdM.after {w w' : World} {B g : Nat} {T : Nat → Prop} {N M N' M' : Nat} {m m' : Em} (h : CdM w B g T N M m) (q : CdPM w w' B g T N' M' m') : Below B w w' ∧ ∃ T', CdM w' B g T' N' M' m' := by
  obtain ⟨T', h', k, _⟩ := q
  obtain ⟨_, _, _, _, _, _, _, _, h⟩ := h
  exact ⟨KeptS.below (Below.refl B w) k (Nat.le_of_lt (Nat.lt_of_le_of_lt (h.frm g h.tg).1 h.whole.lt)) (fun b hb => (h.frm b hb).1), T', h'⟩

def awE : Em := putE (patchE (putE (putE newE ⟨22, 0, 0, 0, 0⟩) ⟨1, 0, 0, 0, 0⟩) 0 1) ⟨1, 0, 0, 0, 0⟩

theorem awE_is : awE = ⟨[⟨22, 0, 0, 0, 1⟩, hltI, hltI], [], 0, 0, 0⟩ := by rfl

set_option maxHeartbeats 16000000 in
set_option maxRecDepth 100000 in
theorem words17_same (A1 A2 : Option Addr) (n c1 c2 : Nat) (zs : List Int) (w : World) (h1 : Nums .u32 w A1 n zs) (h2 : Nums .u32 w A2 n zs) (hn : n ≤ 1000000) :
    Calls Tryd.prog 10 #[.slice A1 n c1, .slice A2 n c2] w fun e w' => e = .returned (.bool true) ∧ Below w.heap.size w w' := by
  have H1 := Lib.hid h1
  have H2 := Lib.hid h2
  clear h1 h2
  go_enter Tryd.func10, Tryd.ntmps10
  go_wp2_with fail
  go_loopw [5] (fun i wr => ∃ t q : Nat, t ≤ n ∧ i = .int .i64 t ∧ wr = w.drewN q) (fun i _ => n - (intOf i).toNat)
  case atStart => exact ⟨0, 0, Nat.zero_le _, rfl, rfl⟩
  case round =>
    obtain ⟨t, q, ht, rfl, rfl⟩ := hrel
    by_cases hlt : t < n
    · have hI : (t : Int) < n := by omega
      obtain ⟨ba, oa, rfl, _, ha⟩ := H1.out.2 (by omega)
      obtain ⟨bb, ob, rfl, _, hb⟩ := H2.out.2 (by omega)
      have u0 := ha t hlt
      have v0 := hb t hlt
      clear ha hb
      generalize zs.getD t 0 = z at *
      go_wp2_with fail
      go_quiet (fail)
      go_wp2_with fail
      go_roundw
      case rel => exact ⟨t + 1, _, by omega, by go_num, rfl⟩
      case measure => simp [intOf]; omega
    · have hI : ¬ (t : Int) < n := by omega
      go_wp2_with fail
      go_ret
      exact ⟨rfl, below_drawn (Below.refl _ _) q⟩

set_option maxHeartbeats 16000000 in
set_option maxRecDepth 100000 in
theorem awake17_any (w : World) (hS : ShapesIn w) :
    Calls Tryd.prog 6 #[] w fun e w' => e = .returned (.bool true) ∧ Below w.heap.size w w' := by
  have NE := Lib.hid (enew_any w.heap.size 0 w (Nat.le_refl _) hS hS.lt)
  clear hS
  go_enter Tryd.func6, Tryd.ntmps6
  go_wp2_with fail
  refine NE.out.mono ?_
  rintro e y1 ⟨g, T1, rfl, hc, hb, _⟩
  have C1 := Lib.hid hc
  have B1 := Lib.hid hb
  clear hc hb NE
  have PX := Lib.hid (jump_any 22 0 (by unfold I64; omega) (by unfold I64; omega) w.heap.size g T1 0 newE y1 C1.out (by omega))
  go_wp2_with fail
  refine PX.out.mono ?_
  rintro e y2 ⟨rfl, hp⟩
  have BC := Lib.hid (C1.out.after hp)
  obtain ⟨T2, hc⟩ := BC.out.2
  have C2 := Lib.hid hc
  have B2 := Lib.hid (B1.out.trans BC.out.1)
  clear PX hp hc BC B1 C1
  have E1 := Lib.hid (show ((putE newE ⟨22, 0, 0, 0, 0⟩).L.length : Int) - 1 = 0 from rfl)
  try rw [E1.out]
  have PX := Lib.hid (reg_any 1 0 (by unfold I64; omega) (by unfold I64; omega) w.heap.size g T2 0 _ y2 C2.out (by omega))
  go_wp2_with fail
  refine PX.out.mono ?_
  rintro e y3 ⟨rfl, hp⟩
  have BC := Lib.hid (C2.out.after hp)
  obtain ⟨T3, hc⟩ := BC.out.2
  have C3 := Lib.hid hc
  have B3 := Lib.hid (B2.out.trans BC.out.1)
  clear PX hp hc BC B2 C2
  have PX := Lib.hid (land_any 0 (by omega) (by omega) w.heap.size g T3 0 _ y3 C3.out (by omega))
  go_wp2_with fail
  refine PX.out.mono ?_
  rintro e y4 ⟨rfl, hp⟩
  have BC := Lib.hid (C3.out.after hp)
  obtain ⟨T4, hc⟩ := BC.out.2
  have C4 := Lib.hid hc
  have B4 := Lib.hid (B3.out.trans BC.out.1)
  clear PX hp hc BC B3 C3
  have PX := Lib.hid (reg_any 1 0 (by unfold I64; omega) (by unfold I64; omega) w.heap.size g T4 0 _ y4 C4.out (by omega))
  go_wp2_with fail
  refine PX.out.mono ?_
  rintro e y5 ⟨rfl, hp⟩
  have BC := Lib.hid (C4.out.after hp)
  obtain ⟨T5, hc⟩ := BC.out.2
  have C5 := Lib.hid hc
  have B5 := Lib.hid (B4.out.trans BC.out.1)
  clear PX hp hc BC B4 C4
  have C6 := Lib.hid (show CdM y5 w.heap.size g T5 0 3 awE from C5.out)
  rw [awE_is] at C6
  have FE := Lib.hid (finish_ok w.heap.size g T5 0 3 _ y5 C6.out (by omega) (by omega) rfl)
  clear C5 C6
  generalize (putE (patchE _ _ _) _).L.length = z5
  generalize (putE _ _).L.length = z3
  go_wp2_with fail
  refine FE.out.mono ?_
  rintro e y6 ⟨A1, c1, A2, c2, A3, n3, c3, rfl, hb6, ho6, _⟩
  have B6 := Lib.hid (B5.out.trans (hb6.mono B5.out.size))
  have N6 := Lib.hid (nums_of_row (L := [⟨22, 0, 0, 0, 1⟩, hltI, hltI]) ho6)
  have XR := Lib.hid (Whole.made y6 resT #[.slice A1 3 c1, .slice A2 0 c2, .slice A3 n3 c3] _ rfl)
  have XL := Lib.hid (Whole.made (y6.alloc (.cells #[.slice A1 3 c1, .slice A2 0 c2, .slice A3 n3 c3] resT)) u4T #[.int .u32 369098753, .int .u32 16777216, .int .u32 16777216] (y6.heap.size + 1) (by simp))
  have BA := Lib.hid (((Below.refl y6.heap.size y6).alloc (Nat.le_refl _) (.cells #[.slice A1 3 c1, .slice A2 0 c2, .slice A3 n3 c3] resT)).alloc (Nat.le_trans (Nat.le_refl _) ((Below.refl y6.heap.size y6).alloc (Nat.le_refl _) (.cells #[.slice A1 3 c1, .slice A2 0 c2, .slice A3 n3 c3] resT)).size) (.cells #[.int .u32 369098753, .int .u32 16777216, .int .u32 16777216] u4T))
  have WS := Lib.hid (words17_same A1 (some ⟨y6.heap.size + 1, 0, none⟩) 3 c1 3 [369098753, 16777216, 16777216] ((y6.alloc (.cells #[.slice A1 3 c1, .slice A2 0 c2, .slice A3 n3 c3] resT)).alloc (.cells #[.int .u32 369098753, .int .u32 16777216, .int .u32 16777216] u4T)) (N6.out.below BA.out) ⟨rfl, fun _ => ⟨_, 0, rfl, XL.out.lt, fun j hj => by
    rw [Nat.zero_add, XL.out.cell j]
    match j, hj with
    | 0, _ => rfl
    | 1, _ => rfl
    | 2, _ => rfl⟩⟩ (by omega))
  have r0 : (y6.alloc (.cells #[.slice A1 3 c1, .slice A2 0 c2, .slice A3 n3 c3] resT)).cell? ⟨y6.heap.size, 0, none⟩ = some (.slice A1 3 c1) := XR.out.cell 0
  clear FE hb6 ho6 N6 XL
  go_wp2_with fail
  refine WS.out.mono ?_
  rintro e y8 ⟨rfl, hb8⟩
  have B8 := Lib.hid (B6.out.trans ((BA.out.trans (hb8.mono BA.out.size)).mono B6.out.size))
  clear WS hb8 r0 XR BA B6 B5
  go_wp2_with fail
  go_ret
  exact ⟨rfl, B8.out⟩

set_option maxHeartbeats 16000000 in
set_option maxRecDepth 100000 in
theorem emitmany_walk (w : World) (hS : ShapesIn w) (n : Int) (h0 : 0 ≤ n) (h1 : n ≤ 65535) :
    Calls Tryd.prog 5 #[.int .u16 n] w fun e w' => e = .returned (.bool true) ∧ Below w.heap.size w w' := by
  have AW := Lib.hid (awake17_any w hS)
  have NE := Lib.hid (fun y (hb : Below w.heap.size w y) => enew_any w.heap.size 0 y hb.size (hS.below hb (Nat.le_refl _)) hS.lt)
  clear hS
  obtain ⟨k, hk, hk2⟩ : ∃ k : Nat, n.tmod 17000 = (k : Int) ∧ k < 17000 := ⟨(n % 17000).toNat, by rw [Int.tmod_eq_emod_of_nonneg h0]; omega, by omega⟩
  go_enter Tryd.func5, Tryd.ntmps5
  go_wp2_with fail
  refine AW.out.mono ?_
  rintro e y0 ⟨rfl, hb0⟩
  have NE1 := Lib.hid (NE.out y0 hb0)
  have B0 := Lib.hid hb0
  clear hb0 AW NE
  go_wp2_with fail
  refine NE1.out.mono ?_
  rintro e y1 ⟨g, T1, rfl, hc, hb, _⟩
  have C1 := Lib.hid (show CdAt y1 w.heap.size g T1 0 (manyE 0) from hc)
  have B1 := Lib.hid (B0.out.trans (hb.mono B0.out.size))
  clear hc hb NE1 B0
  go_wp2_with fail
  go_loopw [5] (fun i wr => ∃ t : Nat, t ≤ k ∧ i = .int .i64 t ∧ Below w.heap.size w wr ∧ ∃ T, CdAt wr w.heap.size g T 0 (manyE t)) (fun i _ => k - (intOf i).toNat)
  case atStart => exact ⟨0, Nat.zero_le _, rfl, B1.out, T1, C1.out⟩
  case round =>
    obtain ⟨t, ht, rfl, hb, T, hc⟩ := hrel
    have BR := Lib.hid hb
    have CR := Lib.hid hc
    clear hb hc B1 C1
    by_cases hlt : t < k
    · have hI : (t : Int) < k := by omega
      have RE := Lib.hid (reg_any 1 0 (by unfold I64; omega) (by unfold I64; omega) w.heap.size g T 0 (manyE t) wr CR.out (by omega))
      go_wp2_with fail
      refine RE.out.mono ?_
      rintro e y2 ⟨rfl, hp⟩
      have BC := Lib.hid (CR.out.after hp)
      obtain ⟨T2, hc⟩ := BC.out.2
      have C2 := Lib.hid hc
      have B2 := Lib.hid (BR.out.trans BC.out.1)
      clear hp hc BC RE BR CR
      go_wp2_with fail
      go_roundw
      case rel => exact ⟨t + 1, by omega, by go_num, B2.out, T2, C2.out⟩
      case measure => simp [intOf]; omega
    · have hI : ¬ (t : Int) < k := by omega
      obtain rfl : t = k := by omega
      by_cases hm : 16384 < t
      · have dm : decide ((16384 : Int) < t) = true := decide_eq_true (by omega)
        obtain ⟨q, rfl⟩ : ∃ q, t = 16384 + (q + 1) := ⟨t - 16385, by omega⟩
        rw [many_hi] at CR
        have FE := Lib.hid (finish_bad w.heap.size g T 0 _ _ wr CR.out (by omega) (by decide))
        go_wp2_with fail
        refine FE.out.mono ?_
        rintro e y3 ⟨rfl, hb3⟩
        have BA := Lib.hid ((Below.refl y3.heap.size y3).alloc (Nat.le_refl _) (.cells #[.slice none 0 0, .slice none 0 0, .slice none 0 0] resT))
        have XR := Lib.hid (Whole.made y3 resT #[.slice none 0 0, .slice none 0 0, .slice none 0 0] _ rfl)
        have r0 : (y3.alloc (.cells #[.slice none 0 0, .slice none 0 0, .slice none 0 0] resT)).cell? ⟨y3.heap.size, 0, none⟩ = some (.slice none 0 0) := XR.out.cell 0
        have BV := Lib.hid (BR.out.trans ((hb3.trans (BA.out.mono hb3.size)).mono BR.out.size))
        have HE := Lib.hid (here_any w.heap.size g T 0 _ _ (y3.alloc (.cells #[.slice none 0 0, .slice none 0 0, .slice none 0 0] resT)) (CR.out.below (hb3.trans (BA.out.mono hb3.size))))
        have HL := Lib.hid (show ((List.replicate 16384 hltI).length : Int) = 16384 from by rw [List.length_replicate]; rfl)
        simp only [] at HE
        rw [HL.out] at HE
        clear hb3 FE CR BR BA XR
        go_wp2_with fail
        refine HE.out.mono ?_
        rintro e y4 ⟨rfl, rfl⟩
        go_wp2_with fail
        go_ret
        exact ⟨rfl, BV.out⟩
      · have dm : decide ((16384 : Int) < t) = false := decide_eq_false (by omega)
        rw [many_lo t (by omega)] at CR
        have FE := Lib.hid (finish_ok w.heap.size g T 0 _ _ wr CR.out (by omega) (by simp only [List.length_replicate]; omega) rfl)
        have HL := Lib.hid (show (List.replicate t hltI).length = t from List.length_replicate)
        rw [HL.out] at FE
        go_wp2_with fail
        refine FE.out.mono ?_
        rintro e y3 ⟨A1, c1, A2, c2, A3, n3, c3, rfl, hb3, _, _⟩
        have BA := Lib.hid ((Below.refl y3.heap.size y3).alloc (Nat.le_refl _) (.cells #[.slice A1 t c1, .slice A2 0 c2, .slice A3 n3 c3] resT))
        have XR := Lib.hid (Whole.made y3 resT #[.slice A1 t c1, .slice A2 0 c2, .slice A3 n3 c3] _ rfl)
        have r0 : (y3.alloc (.cells #[.slice A1 t c1, .slice A2 0 c2, .slice A3 n3 c3] resT)).cell? ⟨y3.heap.size, 0, none⟩ = some (.slice A1 t c1) := XR.out.cell 0
        have BV := Lib.hid (BR.out.trans ((hb3.trans (BA.out.mono hb3.size)).mono BR.out.size))
        clear hb3 FE CR BR BA XR
        go_wp2_with fail
        go_ret
        exact ⟨rfl, BV.out⟩
end Go.Proofs.YtcijjmmckofckaaDoor
