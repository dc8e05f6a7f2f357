/- Scopes: the law's awake. -/
import Derived.Test.YtpfoebnlngfebaaScpH
import Derived.Test.YtpfoebnlngfebaaScpK
namespace Go.Proofs.Ytpfoebnlngfebaa
open Go.ChangeShapes Go.WideShapes Go.ChangeAt Go.RowKit
set_option linter.unusedVariables false
set_option linter.unusedSimpArgs false

theorem nameIs_self (x : Ob) : nameIs x.nm x = true := by simp [nameIs]

theorem aw1 : declP st0 (⟨⟨#[120]⟩, 0, 0, 0, 1, 0, false, []⟩ : Ob) = (⟨[(⟨⟨#[120]⟩, 0, 0, 0, 1, 0, false, []⟩ : Ob)], 0, []⟩, 0) := rfl

theorem aw2 : openP ⟨[(⟨⟨#[120]⟩, 0, 0, 0, 1, 0, false, []⟩ : Ob)], 0, []⟩ = (⟨[(⟨⟨#[120]⟩, 0, 0, 0, 1, 0, false, []⟩ : Ob)], 1, []⟩, 0) := rfl

theorem aw3 : declP ⟨[(⟨⟨#[120]⟩, 0, 0, 0, 1, 0, false, []⟩ : Ob)], 1, []⟩ (⟨⟨#[120]⟩, 0, 0, 0, 2, 0, false, []⟩ : Ob) = (⟨[(⟨⟨#[120]⟩, 0, 0, 0, 1, 0, false, []⟩ : Ob), (⟨⟨#[120]⟩, 0, 0, 1, 2, 0, false, []⟩ : Ob)], 1, []⟩, 0) := rfl

theorem aw4 : findP ⟨[(⟨⟨#[120]⟩, 0, 0, 0, 1, 0, false, []⟩ : Ob), (⟨⟨#[120]⟩, 0, 0, 1, 2, 0, false, []⟩ : Ob)], 1, []⟩ ⟨#[120]⟩ = some (⟨⟨#[120]⟩, 0, 0, 1, 2, 0, false, []⟩ : Ob) := by
  have h : hasP ⟨[(⟨⟨#[120]⟩, 0, 0, 0, 1, 0, false, []⟩ : Ob), (⟨⟨#[120]⟩, 0, 0, 1, 2, 0, false, []⟩ : Ob)], 1, []⟩ 1 ⟨#[120]⟩ = some (⟨⟨#[120]⟩, 0, 0, 1, 2, 0, false, []⟩ : Ob) := by
    show List.find? (nameIs ⟨#[120]⟩) [(⟨⟨#[120]⟩, 0, 0, 1, 2, 0, false, []⟩ : Ob)] = some (⟨⟨#[120]⟩, 0, 0, 1, 2, 0, false, []⟩ : Ob)
    rw [List.find?_cons, nameIs_self (⟨⟨#[120]⟩, 0, 0, 1, 2, 0, false, []⟩ : Ob)]
  show (match hasP ⟨[(⟨⟨#[120]⟩, 0, 0, 0, 1, 0, false, []⟩ : Ob), (⟨⟨#[120]⟩, 0, 0, 1, 2, 0, false, []⟩ : Ob)], 1, []⟩ 1 ⟨#[120]⟩ with | some x => some x | none => findN ⟨[(⟨⟨#[120]⟩, 0, 0, 0, 1, 0, false, []⟩ : Ob), (⟨⟨#[120]⟩, 0, 0, 1, 2, 0, false, []⟩ : Ob)], 1, []⟩ ⟨#[120]⟩ 1) = _
  rw [h]

theorem aw5 : closeP ⟨[(⟨⟨#[120]⟩, 0, 0, 0, 1, 0, false, []⟩ : Ob), (⟨⟨#[120]⟩, 0, 0, 1, 2, 0, false, []⟩ : Ob)], 1, []⟩ = (⟨[(⟨⟨#[120]⟩, 0, 0, 0, 1, 0, false, []⟩ : Ob)], 0, []⟩, 0) := rfl

theorem aw6 : findP ⟨[(⟨⟨#[120]⟩, 0, 0, 0, 1, 0, false, []⟩ : Ob)], 0, []⟩ ⟨#[120]⟩ = some (⟨⟨#[120]⟩, 0, 0, 0, 1, 0, false, []⟩ : Ob) := by
  have h : hasP ⟨[(⟨⟨#[120]⟩, 0, 0, 0, 1, 0, false, []⟩ : Ob)], 0, []⟩ 0 ⟨#[120]⟩ = some (⟨⟨#[120]⟩, 0, 0, 0, 1, 0, false, []⟩ : Ob) := by
    show List.find? (nameIs ⟨#[120]⟩) [(⟨⟨#[120]⟩, 0, 0, 0, 1, 0, false, []⟩ : Ob)] = some (⟨⟨#[120]⟩, 0, 0, 0, 1, 0, false, []⟩ : Ob)
    rw [List.find?_cons, nameIs_self (⟨⟨#[120]⟩, 0, 0, 0, 1, 0, false, []⟩ : Ob)]
  show (match hasP ⟨[(⟨⟨#[120]⟩, 0, 0, 0, 1, 0, false, []⟩ : Ob)], 0, []⟩ 0 ⟨#[120]⟩ with | some x => some x | none => findN ⟨[(⟨⟨#[120]⟩, 0, 0, 0, 1, 0, false, []⟩ : Ob)], 0, []⟩ ⟨#[120]⟩ 0) = _
  rw [h]

theorem ok_x (n lv : Int) : ObOk ⟨⟨#[120]⟩, 0, 0, lv, n, 0, false, []⟩ := ⟨show (1 : Nat) ≤ 140737488355328 by decide, show 0 * 16 ≤ 140737488355328 by decide⟩

set_option maxHeartbeats 16000000 in
set_option maxRecDepth 100000 in
theorem awake11_any (w : World) :
    Calls Try.prog 6 #[] w fun e w' => e = .returned (.bool true) ∧ Below w.heap.size w w' := by
  have NW := Lib.hid (new_any w.heap.size w (Nat.le_refl _))
  go_enter Try.func6, Try.ntmps6
  go_wp2_with fail
  refine NW.out.mono ?_
  rintro e w1 ⟨rfl, hT1, hb1⟩
  have B1 := Lib.hid hb1
  have T1 := Lib.hid hT1
  have D1 := Lib.hid (decl_any w.heap.size (tab0 w.heap.size) st0 ⟨#[120]⟩ 0 0 0 1 0 false [] none 0 w1 hT1 (ParV.nil _ _) hb1.size (by decide) (by decide) (by decide) (by decide))
  rw [show (⟨⟨#[120]⟩, 0, 0, 0, 1, 0, false, []⟩ : Ob) = (⟨⟨#[120]⟩, 0, 0, 0, 1, 0, false, []⟩ : Ob) from rfl, aw1] at D1
  clear hT1 hb1 NW
  go_wp2_with fail
  refine D1.out.mono ?_
  rintro e w2 ⟨rfl, T2, hp2, hT2, hK2, hO2⟩
  have B2 := Lib.hid (KeptS.below B1.out hK2 B1.out.size (fun i hi => (T1.out.own hi).1))
  have O2 := Lib.hid (open_any w.heap.size T2 _ w2 hT2 (by decide))
  rw [aw2, hp2] at O2
  have HT2 := Lib.hid (And.intro hT2 hp2)
  clear hT2 hK2 hO2 hp2 D1 T1 B1
  go_wp2_with fail
  refine O2.out.mono ?_
  rintro e w3 ⟨rfl, T3, hp3, hT3, hK3, hO3⟩
  have B3 := Lib.hid (KeptS.below B2.out hK3 B2.out.size (fun i hi => (HT2.out.1.own hi).1))
  have D3 := Lib.hid (decl_any w.heap.size T3 _ ⟨#[120]⟩ 0 0 0 2 0 false [] none 0 w3 hT3 (ParV.nil _ _) B3.out.size (by decide) (by decide) (by decide) (by decide))
  rw [show (⟨⟨#[120]⟩, 0, 0, 0, 2, 0, false, []⟩ : Ob) = (⟨⟨#[120]⟩, 0, 0, 0, 2, 0, false, []⟩ : Ob) from rfl, aw3, hp3, HT2.out.2] at D3
  have HT3 := Lib.hid (And.intro hT3 (hp3.trans HT2.out.2))
  clear hT3 hK3 hO3 hp3 O2 HT2 B2
  go_wp2_with fail
  refine D3.out.mono ?_
  rintro e w4 ⟨rfl, T4, hp4, hT4, hK4, hO4⟩
  have B4 := Lib.hid (KeptS.below B3.out hK4 B3.out.size (fun i hi => (HT3.out.1.own hi).1))
  have F4 := Lib.hid (find_any w.heap.size T4 _ ⟨#[120]⟩ w4 hT4 B4.out.size (by decide) (by decide) (fun x hx => by
    simp at hx
    rcases hx with rfl | rfl <;> exact ok_x _ _))
  rw [aw4, hp4, HT3.out.2] at F4
  have F4 := Lib.hid (show Calls Try.prog 11 #[.pointer (some ⟨w.heap.size, 0, none⟩), .string ⟨#[120]⟩] w4 fun e w' => ∃ Aq cq, e = .returned (.tuple #[.agg #[.string ⟨#[120]⟩, .int .i64 0, .int .i64 0, .int .i64 1, .int .i32 2, .int .i64 0, .bool false, .slice Aq 0 cq], .int .i64 0]) ∧ Below w4.heap.size w4 w' from F4.out.mono (fun e w' ⟨Aq, cq, he, hb, _⟩ => ⟨Aq, cq, he, hb⟩))
  have HT4 := Lib.hid (And.intro hT4 (hp4.trans HT3.out.2))
  clear hT4 hK4 hO4 hp4 D3 HT3 B3
  go_wp2_with fail
  refine F4.out.mono ?_
  rintro e w5 ⟨A5, c5, rfl, hb5⟩
  have b5 := (Below.refl w5.heap.size w5).alloc (Nat.le_refl _) (.cells #[.string ⟨#[120]⟩, .int .i64 0, .int .i64 0, .int .i64 1, .int .i32 2, .int .i64 0, .bool false, .slice A5 0 c5] pO)
  have XA := Lib.hid (Whole.made w5 pO #[.string ⟨#[120]⟩, .int .i64 0, .int .i64 0, .int .i64 1, .int .i32 2, .int .i64 0, .bool false, .slice A5 0 c5] _ rfl)
  have B5 := Lib.hid (B4.out.trans ((hb5.trans (b5.mono hb5.size)).mono B4.out.size))
  have hT5 := HT4.out.1.below (hb5.trans (b5.mono hb5.size))
  have HT5 := Lib.hid hT5
  have C5 := Lib.hid (close_any w.heap.size T4 _ _ hT5 (by decide) (fun x hx => by
    simp at hx
    rcases hx with rfl | rfl <;> exact ⟨by decide, by decide⟩))
  rw [aw5, HT4.out.2] at C5
  have NB := Lib.hid (show ¬ Own T4 w5.heap.size from fun ho => by
    have h1 := (HT4.out.1.own ho).2.1
    have h2 := hb5.size
    omega)
  clear hT5 hb5 b5 F4 B4
  go_wp2_with fail
  refine C5.out.mono ?_
  rintro e w6 ⟨rfl, T6, hp6, hT6, hK6, hO6⟩
  have B6 := Lib.hid (KeptS.below B5.out hK6 B5.out.size (fun i hi => (HT5.out.own hi).1))
  have XA6 := Lib.hid (hK6.whole XA.out NB.out)
  have F6 := Lib.hid (find_any w.heap.size T6 _ ⟨#[120]⟩ w6 hT6 B6.out.size (by decide) (by decide) (fun x hx => by
    simp at hx
    subst hx
    exact ok_x _ _))
  rw [aw6, hp6, HT4.out.2] at F6
  have F6 := Lib.hid (show Calls Try.prog 11 #[.pointer (some ⟨w.heap.size, 0, none⟩), .string ⟨#[120]⟩] w6 fun e w' => ∃ Aq cq, e = .returned (.tuple #[.agg #[.string ⟨#[120]⟩, .int .i64 0, .int .i64 0, .int .i64 0, .int .i32 1, .int .i64 0, .bool false, .slice Aq 0 cq], .int .i64 0]) ∧ Below w6.heap.size w6 w' from F6.out.mono (fun e w' ⟨Aq, cq, he, hb, _⟩ => ⟨Aq, cq, he, hb⟩))
  clear hT6 hK6 hO6 C5 XA NB B5 HT5
  generalize w5.heap.size = qa at *
  go_wp2_with fail
  refine F6.out.mono ?_
  rintro e w7 ⟨A7, c7, rfl, hb7⟩
  have b7 := (Below.refl w7.heap.size w7).alloc (Nat.le_refl _) (.cells #[.string ⟨#[120]⟩, .int .i64 0, .int .i64 0, .int .i64 0, .int .i32 1, .int .i64 0, .bool false, .slice A7 0 c7] pO)
  have XB := Lib.hid (Whole.made w7 pO #[.string ⟨#[120]⟩, .int .i64 0, .int .i64 0, .int .i64 0, .int .i32 1, .int .i64 0, .bool false, .slice A7 0 c7] _ rfl)
  have XA7 := Lib.hid ((XA6.out.below hb7 XA6.out.lt).alloc (.cells #[.string ⟨#[120]⟩, .int .i64 0, .int .i64 0, .int .i64 0, .int .i32 1, .int .i64 0, .bool false, .slice A7 0 c7] pO))
  have B7 := Lib.hid (B6.out.trans ((hb7.trans (b7.mono hb7.size)).mono B6.out.size))
  have x3 : (w7.alloc (.cells #[.string ⟨#[120]⟩, .int .i64 0, .int .i64 0, .int .i64 0, .int .i32 1, .int .i64 0, .bool false, .slice A7 0 c7] pO)).cell? ⟨qa, 3, none⟩ = some (.int .i64 1) := XA7.out.cell 3
  have x4 : (w7.alloc (.cells #[.string ⟨#[120]⟩, .int .i64 0, .int .i64 0, .int .i64 0, .int .i32 1, .int .i64 0, .bool false, .slice A7 0 c7] pO)).cell? ⟨qa, 4, none⟩ = some (.int .i32 2) := XA7.out.cell 4
  have y3 : (w7.alloc (.cells #[.string ⟨#[120]⟩, .int .i64 0, .int .i64 0, .int .i64 0, .int .i32 1, .int .i64 0, .bool false, .slice A7 0 c7] pO)).cell? ⟨w7.heap.size, 3, none⟩ = some (.int .i64 0) := XB.out.cell 3
  have y4 : (w7.alloc (.cells #[.string ⟨#[120]⟩, .int .i64 0, .int .i64 0, .int .i64 0, .int .i32 1, .int .i64 0, .bool false, .slice A7 0 c7] pO)).cell? ⟨w7.heap.size, 4, none⟩ = some (.int .i32 1) := XB.out.cell 4
  clear hb7 b7 F6 B6 XA6
  go_wp2_with fail
  go_ret
  exact ⟨rfl, B7.out⟩
end Go.Proofs.Ytpfoebnlngfebaa
