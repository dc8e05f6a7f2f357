/- The answers' Text of package instr. -/
import Derived.Test.YtoffagmoaedkbaaDoorInstrQ
namespace Go.Proofs.YtoffagmoaedkbaaDoor
open Go.ChangeShapes Go.WideShapes Go.ChangeAt Go.RowKit
set_option linter.unusedVariables false

/-- The name and the first k fields, as the answers put them together. -/
def joinUp (s : ByteArray) (l : List ByteArray) : Nat → ByteArray
  | 0 => s
  | k + 1 => (if 0 < k then joinUp s l k ++ ⟨#[44]⟩ else joinUp s l k) ++ ⟨#[32]⟩ ++ l.getD k ⟨#[]⟩

/-- The text of an instruction. -/
def textOf (op a b c n : Int) : ByteArray := joinUp (nameOf op) (fieldTexts op a b c n) (fieldTexts op a b c n).length

theorem name_size (op : Int) : (nameOf op).size ≤ 5 := by
  unfold nameOf
  split
  · have h : (nameRow.all fun x => decide (x.size ≤ 5)) = true := by decide +kernel
    rcases Nat.lt_or_ge op.toNat nameRow.length with hl | hl
    · have := List.all_eq_true.1 h nameRow[op.toNat] (List.getElem_mem hl)
      simpa [List.getD, hl] using this
    · simp only [List.getD, List.getElem?_eq_none hl, Option.getD_none]
      exact Nat.zero_le 5
  · decide

theorem rt_size (op k r : Int) : (rt op k r).size ≤ 22 := by
  have := text_size r
  have e0 : (⟨#[]⟩ : ByteArray).size = 0 := rfl
  have e1 : (⟨#[114]⟩ : ByteArray).size = 1 := rfl
  unfold rt pfx
  split <;> simp only [ByteArray.size_append] <;> omega

theorem fields_small (op a b c n : Int) : (fieldTexts op a b c n).length ≤ 4 ∧ ∀ x ∈ fieldTexts op a b c n, x.size ≤ 22 := by
  have h0 := rt_size op 0 a
  have h1 := rt_size op 1 b
  have h2 := rt_size op 2 c
  have h3 : (nt n).size ≤ 22 := Nat.le_trans (text_size n) (by omega)
  unfold fieldTexts
  constructor
  · split <;> split <;> split <;> split <;> simp
  · intro x hx
    simp only [List.mem_append] at hx
    rcases hx with hx | hx | hx | hx <;> split at hx <;> simp at hx <;> subst hx <;> assumption

theorem getD_small {l : List ByteArray} (h : ∀ x ∈ l, x.size ≤ 22) (k : Nat) : (l.getD k ⟨#[]⟩).size ≤ 22 := by
  rcases Nat.lt_or_ge k l.length with hk | hk
  · have := h l[k] (List.getElem_mem hk)
    simpa [List.getD, hk] using this
  · simp only [List.getD, List.getElem?_eq_none hk, Option.getD_none]
    exact Nat.zero_le 22

theorem join_small (s : ByteArray) (l : List ByteArray) (hs : s.size ≤ 5) (h : ∀ x ∈ l, x.size ≤ 22) : ∀ k, (joinUp s l k).size ≤ 5 + 24 * k
  | 0 => by simpa [joinUp] using hs
  | k + 1 => by
    have ih := join_small s l hs h k
    have hg := getD_small h k
    unfold joinUp
    split
    · simp only [ByteArray.size_append]
      have e1 : (⟨#[44]⟩ : ByteArray).size = 1 := rfl
      have e2 : (⟨#[32]⟩ : ByteArray).size = 1 := rfl
      omega
    · simp only [ByteArray.size_append]
      have e2 : (⟨#[32]⟩ : ByteArray).size = 1 := rfl
      omega

set_option maxHeartbeats 4000000 in
set_option maxRecDepth 100000 in
theorem reftext02_any (op a b c n : Int) (w : World) (ha : I64 a) (hb : I64 b) (hc : I64 c) (hn : I64 n) :
    Calls Tryd.prog 41 #[instrV op a b c n] w fun e w' => e = .returned (.tuple #[.string (if checkOf op a b c n = 0 then textOf op a b c n else ⟨#[]⟩), .int .i64 (checkOf op a b c n)]) ∧ Below w.heap.size w w' := by
  by_cases hk : checkOf op a b c n = 0
  · rw [if_pos hk, hk]
    have hC := fun w => refcheck_any op a b c n w
    rw [hk] at hC
    have hF := fun w => fields_any op a b c n w ha hb hc hn (good_of_check hk).1
    obtain ⟨hl4, hsm⟩ := fields_small op a b c n
    have hns := name_size op
    have T := Lib.hid (show textOf op a b c n = joinUp (nameOf op) (fieldTexts op a b c n) (fieldTexts op a b c n).length from rfl)
    have C := Lib.hid hC
    have F := Lib.hid hF
    have SM := Lib.hid hsm
    clear hC hF hk hsm ha hb hc hn
    unfold instrV at *
    generalize textOf op a b c n = tx at *
    generalize fieldTexts op a b c n = ft at *
    have N := Lib.hid (fun w => refname_any op w)
    generalize nameOf op = nm at *
    go_enter Tryd.func41, Tryd.ntmps41
    go_wp2_with fail
    refine (C.out _).mono ?_
    rintro e w1 ⟨rfl, hb1⟩
    have Q1 := Lib.hid ((Whole.made w 91 #[.int .i64 op, .int .i64 a, .int .i64 b, .int .i64 c, .int .i64 n] _ rfl).below hb1 (by simp))
    have B1 := Lib.hid (((Below.refl _ _).alloc (Nat.le_refl _) _).trans (hb1.mono (show w.heap.size ≤ _ by simp)))
    have z1 : w.heap.size < w1.heap.size := Q1.out.lt
    have q0 : w1.cell? ⟨w.heap.size, 0, none⟩ = some (.int .i64 op) := Q1.out.cell 0
    clear hb1
    go_wp2_with fail
    refine (N.out _).mono ?_
    rintro e w2 ⟨rfl, hb2⟩
    have Q2 := Lib.hid (Q1.out.below hb2 z1)
    have B2 := Lib.hid (B1.out.trans (hb2.mono (Nat.le_of_lt z1)))
    have z2 : w.heap.size < w2.heap.size := Q2.out.lt
    clear hb2 q0
    have q0 : w2.cell? ⟨w.heap.size, 0, none⟩ = some (.int .i64 op) := Q2.out.cell 0
    have q1 : w2.cell? ⟨w.heap.size, 1, none⟩ = some (.int .i64 a) := Q2.out.cell 1
    have q2 : w2.cell? ⟨w.heap.size, 2, none⟩ = some (.int .i64 b) := Q2.out.cell 2
    have q3 : w2.cell? ⟨w.heap.size, 3, none⟩ = some (.int .i64 c) := Q2.out.cell 3
    have q4 : w2.cell? ⟨w.heap.size, 4, none⟩ = some (.int .i64 n) := Q2.out.cell 4
    go_wp2_with fail
    refine (F.out _).mono ?_
    rintro e w3 ⟨A, m, k, rfl, ho3, hb3⟩
    have hlen := ho3.len
    have O3 := Lib.hid ho3.nums
    have B3 := Lib.hid (B2.out.trans (hb3.mono (Nat.le_of_lt z2)))
    clear ho3 hb3 q0 q1 q2 q3 q4
    subst hlen
    go_wp2_with fail
    go_loop [5, 7] (fun s i => ∃ j : Nat, j ≤ ft.length ∧ i = .int .i64 j ∧ s = .string (joinUp nm ft j)) (fun _ i => ft.length - (intOf i).toNat)
    case atStart => exact ⟨0, Nat.zero_le _, rfl, rfl⟩
    case round =>
      obtain ⟨j, hj, rfl, rfl⟩ := hrel
      by_cases hlt : j < ft.length
      · obtain ⟨bb, off, rfl, hbb, hcell⟩ := O3.out.2 (by omega)
        have hc := hcell j hlt
        have hs1 := join_small nm ft hns SM.out j
        have hs2 := getD_small SM.out j
        have hd : (j : Int) < (ft.length : Int) := by omega
        have HJ := Lib.hid (show joinUp nm ft (j + 1) = (if 0 < j then joinUp nm ft j ++ ⟨#[44]⟩ else joinUp nm ft j) ++ ⟨#[32]⟩ ++ ft.getD j ⟨#[]⟩ from rfl)
        generalize ft.getD j ⟨#[]⟩ = x at *
        generalize joinUp nm ft j = y at *
        clear hcell
        by_cases h0 : 0 < j
        · have d0 : decide (0 < (j : Int)) = true := by simp; omega
          have hs3 : y.size ≤ 125 := by omega
          go_wp2
          go_round
          case rel => exact ⟨j + 1, by omega, by go_num, by rw [HJ.out, if_pos h0]⟩
          case measure => simp [intOf]; omega
        · have d0 : decide (0 < (j : Int)) = false := by simp; omega
          have hs3 : y.size ≤ 125 := by omega
          go_wp2
          go_round
          case rel => exact ⟨j + 1, by omega, by go_num, by rw [HJ.out, if_neg h0]⟩
          case measure => simp [intOf]; omega
      · obtain rfl : j = ft.length := by omega
        rw [← T.out]
        go_wp2
        go_ret2
        exact ⟨rfl, B3.out⟩
  · rw [if_neg hk]
    have C := Lib.hid (fun w => refcheck_any op a b c n w)
    have hne : (checkOf op a b c n != 0) = true := by simpa using hk
    clear hk
    generalize checkOf op a b c n = v at *
    unfold instrV at *
    go_enter Tryd.func41, Tryd.ntmps41
    go_wp2_with fail
    refine (C.out _).mono ?_
    rintro e w1 ⟨rfl, hb1⟩
    have B1 := Lib.hid (((Below.refl _ _).alloc (Nat.le_refl _) _).trans (hb1.mono (show w.heap.size ≤ _ by simp)))
    clear hb1
    go_wp2
    go_ret2
    exact ⟨rfl, B1.out⟩
end Go.Proofs.YtoffagmoaedkbaaDoor
