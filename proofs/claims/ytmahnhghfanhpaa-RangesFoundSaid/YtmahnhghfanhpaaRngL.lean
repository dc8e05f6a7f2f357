/- Ranges: the laws RangesMark, RangesFound. -/
import Derived.Test.YtmahnhghfanhpaaRngK
import Derived.Test.YtmahnhghfanhpaaRngF
import Derived.Test.YtmahnhghfanhpaaRngJ
import Derived.StillTailTactics
import Derived.Deep.RegionHeld3
namespace Go.Proofs.Ytmahnhghfanhpaa
open Go.ChangeShapes Go.WideShapes Go.ChangeAt Go.RowKit
set_option linter.unusedVariables false
set_option linter.unusedSimpArgs false

theorem marks_take (l : List Sg) {t : Nat} (ht : t < l.length) : marksP [] (l.take (t + 1)) = markP (marksP [] (l.take t)) (l.getD t zSg).st (l.getD t zSg).pd := by
  rw [takeL l zSg ht, marks_snoc]

theorem marks_take_len (l : List Sg) (t : Nat) (h : l.length ≤ 100) : (marksP [] (l.take t)).length ≤ 100 := by
  have h1 := marks_len (l.take t)
  rw [List.length_take] at h1
  omega

/-- An own row beside a Builder's call. -/
theorem row_beside {w w' : World} {B' g : Nat} {h : Option Nat} {v : Value} {n : Nat} {xs : List Value} (hv : w.ownsRow B' sgT 2 v n xs) (k : KeptS (BdS g h) w w') (ha : ∀ b, v.ownBlock = some b → b ≠ g ∧ h ≠ some b) : w'.ownsRow B' sgT 2 v n xs :=
  k.row hv (fun b hb hS => by
    rcases hS with e | e
    · exact (ha b hb).1 e
    · exact (ha b hb).2 e)

set_option maxHeartbeats 16000000 in
set_option maxRecDepth 100000 in
theorem mark_walk (W : World) (A : Option Addr) (l : List Sg) (c : Nat) (hO : LstV sgCells W.heap.size W (.slice A l.length c) l) (hm : l.length * 16 ≤ 140737488355328) :
    Calls Try.prog 4 #[.slice A l.length c] W fun e w' => e = .returned (.bool true) ∧ Below W.heap.size W w' := by
  have B0 := Lib.hid (Below.refl W.heap.size W)
  have AW := Lib.hid (fun y (_ : Below W.heap.size W y) => awake16_any y)
  have FW := Lib.hid (fun y (hy : Below W.heap.size W y) => few_any A l c _ y (hO.below hy) (by omega))
  have HO := Lib.hid hO
  clear hO hm
  by_cases hf : FewS l
  case neg =>
    rw [decide_eq_false hf] at FW
    clear hf
    go_enter Try.func4, Try.ntmps4
    go_wp2_with fail
    refine (AW.out _ B0.out).mono ?_
    rintro e y1 ⟨rfl, hb⟩
    have B1 := Lib.hid (B0.out.trans (hb.mono B0.out.size))
    clear hb
    go_wp2_with fail
    refine (FW.out _ B1.out).mono ?_
    rintro e y2 ⟨rfl, hb⟩
    have B2 := Lib.hid (B1.out.trans (hb.mono B1.out.size))
    clear hb
    go_wp2_with fail
    go_ret
    exact ⟨rfl, B2.out⟩
  rw [decide_eq_true hf] at FW
  have hn : l.length ≤ 100 := hf.1
  clear hf
  go_enter Try.func4, Try.ntmps4
  go_wp2_with fail
  refine (AW.out _ B0.out).mono ?_
  rintro e y1 ⟨rfl, hb⟩
  have B1 := Lib.hid (B0.out.trans (hb.mono B0.out.size))
  clear hb
  go_wp2_with fail
  refine (FW.out _ B1.out).mono ?_
  rintro e y2 ⟨rfl, hb⟩
  have B2 := Lib.hid (B1.out.trans (hb.mono B1.out.size))
  clear hb
  go_wp2_with fail
  have B3 := Lib.hid (B2.out.alloc B2.out.size (.cells #[.slice none 0 0] bdT))
  have D3 := Lib.hid (bd_new y2 W.heap.size y2.heap.size rfl B2.out.size)
  generalize hg : y2.heap.size = g at *
  clear hg
  go_loopw [4, 5] (fun v i wr => ∃ (t : Nat) (hh : Option Nat), t ≤ l.length ∧ i = .int .i64 t ∧ Below W.heap.size W wr ∧ BdAt wr W.heap.size g hh (marksP [] (l.take t)) ∧ wr.ownsRow W.heap.size sgT 2 v (marksP [] (l.take t)).length ((marksP [] (l.take t)).flatMap sgCells) ∧ ∀ b, v.ownBlock = some b → b ≠ g ∧ hh ≠ some b) (fun _ i _ => l.length - (intOf i).toNat)
  case atStart => exact ⟨0, none, Nat.zero_le _, rfl, B3.out, D3.out, row_nil _ _ _ _, fun b hb => by cases hb⟩
  case round =>
    obtain ⟨t, hh, ht, rfl, hb, hd, hv, ha⟩ := hrel
    have HB := Lib.hid hb
    have HD := Lib.hid hd
    have HV := Lib.hid hv
    have HA := Lib.hid ha
    clear hb hd hv ha B3 D3
    by_cases hlt : t < l.length
    · have hI : (t : Int) < l.length := by omega
      have X := Lib.hid (fun y (hy : Below W.heap.size W y) => sg_at (HO.out.below hy) hlt)
      have MT := Lib.hid (marks_take l hlt)
      have ML := Lib.hid (marks_take_len l t hn)
      have MN := Lib.hid (marks_take_len l (t + 1) hn)
      generalize l.getD t zSg = s at *
      obtain ⟨st, pd⟩ := s
      simp only at MT X
      obtain ⟨b, off, rfl, hbl, x0, x1⟩ := X.out wr HB.out
      obtain ⟨Av, cv, hvv⟩ := row_form HV.out
      subst hvv
      generalize hmn : marksP [] (l.take (t + 1)) = mn at *
      have MQ := Lib.hid hmn
      clear hmn
      generalize marksP [] (l.take t) = m at *
      go_wp2_with fail
      go_still_tail 10, (by kernel_rfl)
      change wpList _ _ _ _ _ wr.drew
      have B4 := Lib.hid (show Below W.heap.size W wr.drew from HB.out.drew)
      have D4 := Lib.hid (show BdAt wr.drew W.heap.size g hh m from HD.out.below (Below.refl _ _).drew)
      have V4 := Lib.hid (show wr.drew.ownsRow W.heap.size sgT 2 (.slice Av m.length cv) m.length (m.flatMap sgCells) from row_below HV.out (Below.refl _ _).drew)
      clear x0 x1 HB HD HV
      generalize wr.drew = y4 at *
      have MK := Lib.hid (mark_any st pd W.heap.size g hh m y4 D4.out B4.out.size (by have := ML.out; omega))
      rw [← MT.out] at MK
      go_wp2_with fail
      refine MK.out.mono ?_
      rintro e y5 ⟨rfl, hp⟩
      have B5 := Lib.hid (B4.out.trans (hp.below D4.out B4.out.size))
      obtain ⟨h5, hd5, hk5, hm5⟩ := hp
      have D5 := Lib.hid hd5
      have V5 := Lib.hid (row_beside V4.out hk5 HA.out)
      have A5 := Lib.hid (show ∀ b, (Value.slice Av m.length cv).ownBlock = some b → b ≠ g ∧ h5 ≠ some b from fun b hb => ⟨(HA.out b hb).1, fun e => by
        rcases hm5 with h | ⟨b', h, hlt⟩
        · exact (HA.out b hb).2 (h.symm.trans e)
        · rw [h] at e
          injection e with e
          subst e
          have := (row_block V4.out hb).2.1
          omega⟩)
      clear hd5 hk5 hm5 MK B4 D4 V4 HA
      obtain ⟨_, _, e1, _, x0, x1⟩ := X.out y5 B5.out
      injection e1 with e1
      injection e1 with e1 e2
      subst e1 e2
      go_wp2_with fail
      go_still_tail 11, (by kernel_rfl)
      change wpList _ _ _ _ _ y5.drew
      have B6 := Lib.hid (show Below W.heap.size W y5.drew from B5.out.drew)
      have D6 := Lib.hid (show BdAt y5.drew W.heap.size g h5 mn from D5.out.below (Below.refl _ _).drew)
      have V6 := Lib.hid (show y5.drew.ownsRow W.heap.size sgT 2 (.slice Av m.length cv) m.length (m.flatMap sgCells) from row_below V5.out (Below.refl _ _).drew)
      clear x0 x1 B5 D5 V5
      generalize y5.drew = y6 at *
      have RK := Lib.hid (refmark_any st pd W.heap.size _ m y6 V6.out (by have := ML.out; omega))
      rw [← MT.out] at RK
      go_wp2_with fail
      refine RK.out.mono ?_
      rintro e y7 ⟨v7, rfl, hb7, ho7⟩
      have B7 := Lib.hid (B6.out.trans (hb7.mono B6.out.size))
      have D7 := Lib.hid (D6.out.below hb7)
      have V7 := Lib.hid (row_more ho7 B6.out.size)
      have A7 := Lib.hid (show ∀ b, v7.ownBlock = some b → b ≠ g ∧ h5 ≠ some b from fun b hb => by
        have h1 := (row_block ho7 hb).1
        have h2 := D6.out.lt
        refine ⟨fun e => by omega, fun e => ?_⟩
        have h3 := (D6.out.own.2 b e).2.1
        omega)
      clear hb7 ho7 RK B6 D6 V6 A5
      have LS := Lib.hid (list_any W.heap.size g h5 mn y7 D7.out (by have := MN.out; omega))
      obtain ⟨Aw, cw, hvw⟩ := row_form V7.out
      subst hvw
      go_wp2_with fail
      refine LS.out.mono ?_
      rintro e y8 ⟨v8, rfl, hb8, ho8⟩
      have B8 := Lib.hid (B7.out.trans (hb8.mono B7.out.size))
      have D8 := Lib.hid (D7.out.below hb8)
      have V8 := Lib.hid (row_below V7.out hb8)
      have SA := Lib.hid (same16_any v8 (.slice Aw mn.length cw) y8.heap.size y8.heap.size mn y8 (LstV.own (k := 2) (fun _ => rfl) (by decide) zSg ho8) (LstV.own (k := 2) (fun _ => rfl) (by decide) zSg V8.out) (by have := MN.out; omega))
      obtain ⟨A8, c8, hv8⟩ := row_form ho8
      subst hv8
      clear hb8 ho8 LS B7 D7 V7
      go_wp2_with fail
      refine SA.out.mono ?_
      rintro e y9 ⟨rfl, hb9⟩
      have B9 := Lib.hid (B8.out.trans (hb9.mono B8.out.size))
      have D9 := Lib.hid (D8.out.below hb9)
      have V9 := Lib.hid (row_below V8.out hb9)
      clear hb9 SA B8 D8 V8
      go_wp2_with fail
      go_roundw
      case rel => exact ⟨t + 1, h5, by omega, by go_num, B9.out, by rw [MQ.out]; exact D9.out, by rw [MQ.out]; exact V9.out, A7.out⟩
      case measure => simp [intOf]; omega
    · have hI : ¬ (t : Int) < l.length := by omega
      go_wp2_with fail
      go_ret
      exact ⟨rfl, HB.out⟩
end Go.Proofs.Ytmahnhghfanhpaa
