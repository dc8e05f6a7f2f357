/- Package instr and its answers: the names of the operations. -/
import Derived.Test.YtnmpamfgkidmiaaDoorInstrE
namespace Go.Proofs.YtnmpamfgkidmiaaDoor
open Go.ChangeShapes Go.WideShapes Go.ChangeAt Go.RowKit
set_option linter.unusedVariables false

/-- The names, the empty one first. -/
def nameRow : List ByteArray := [⟨#[]⟩, ⟨#[72, 65, 76, 84]⟩, ⟨#[76, 68, 73]⟩, ⟨#[76, 85, 73]⟩, ⟨#[79, 82, 73]⟩, ⟨#[65, 68, 68, 73]⟩, ⟨#[65, 68, 68]⟩, ⟨#[83, 85, 66]⟩, ⟨#[77, 85, 76]⟩, ⟨#[68, 73, 86]⟩, ⟨#[77, 79, 68]⟩, ⟨#[65, 78, 68]⟩, ⟨#[79, 82]⟩, ⟨#[88, 79, 82]⟩, ⟨#[83, 76, 84]⟩, ⟨#[83, 76, 69]⟩, ⟨#[83, 69, 81]⟩, ⟨#[83, 78, 69]⟩, ⟨#[76, 68, 87]⟩, ⟨#[83, 84, 87]⟩, ⟨#[66, 90]⟩, ⟨#[66, 78, 90]⟩, ⟨#[66, 82]⟩, ⟨#[67, 65, 76, 76]⟩, ⟨#[74, 82]⟩, ⟨#[67, 65, 76, 76, 82]⟩, ⟨#[67, 72, 75]⟩, ⟨#[78, 73, 76]⟩, ⟨#[84, 82, 65, 80]⟩, ⟨#[82, 65, 73, 83, 69]⟩, ⟨#[79, 85, 84]⟩, ⟨#[73, 78]⟩, ⟨#[67, 72, 75, 83]⟩, ⟨#[82, 84, 67]⟩, ⟨#[88, 79, 82, 73]⟩]

def namesCells : List Value := nameRow.map Value.string

def NamesIn (w : World) : Prop := ∀ i, w.cell? ⟨1, i, none⟩ = namesCells[i]?

theorem NamesIn.lt {w : World} (h : NamesIn w) : 1 < w.heap.size := block_lt (h 0)

theorem NamesIn.below {w w' : World} {B : Nat} (h : NamesIn w) (hb : Below B w w') (hB : w.heap.size ≤ B) : NamesIn w' := fun i => by
  rw [hb.cell (p := ⟨1, i, none⟩) (Nat.lt_of_lt_of_le h.lt hB)]
  exact h i

theorem NamesIn.alloc {w : World} (h : NamesIn w) (o : Obj) : NamesIn (w.alloc o) := h.below ((Below.refl w.heap.size _).alloc (Nat.le_refl _) _) (Nat.le_refl _)

theorem names_of_laid {w : World} {l : List (String × DataW Unit)} (hL : laidMetH Tryd.prog l w) (hp : (l.all fun x => x.2.handleName?.isNone) = true) (hm : ("pascaline/instr.names", Rows.laid_pascaline_instr_names) ∈ l) : NamesIn w :=
  fun i => known_of_laid (n := 8) hL hp hm (by kernel_rfl) (t := 125) (by kernel_rfl) (by kernel_rfl) i

/-- The name of an operation. -/
def nameOf (op : Int) : ByteArray := if 1 ≤ op ∧ op ≤ 34 then nameRow.getD op.toNat ⟨#[]⟩ else ⟨#[]⟩

theorem nameOf_none {op : Int} (h : op < 1 ∨ 34 < op) : nameOf op = ⟨#[]⟩ := by unfold nameOf; rw [if_neg (by omega)]

theorem nameOf_at {k : Nat} (h1 : 1 ≤ k) (h2 : k ≤ 34) : nameOf k = nameRow.getD k ⟨#[]⟩ := by
  unfold nameOf
  rw [if_pos (by omega)]
  rfl

theorem NamesIn.at {w : World} (h : NamesIn w) {k : Nat} (h1 : 1 ≤ k) (h2 : k ≤ 34) : w.cell? ⟨1, k, none⟩ = some (.string (nameOf k)) := by
  rw [h k, nameOf_at h1 h2]
  have hl : k < nameRow.length := by
    show k < 35
    omega
  unfold namesCells
  rw [List.getElem?_map, List.getElem?_eq_getElem hl]
  simp [List.getD, hl]

theorem names_at {k : Nat} (h1 : 1 ≤ k) (h2 : k ≤ 34) : namesCells[k]? = some (.string (nameOf k)) := by
  rw [nameOf_at h1 h2]
  have hl : k < nameRow.length := by
    show k < 35
    omega
  unfold namesCells
  rw [List.getElem?_map, List.getElem?_eq_getElem hl]
  simp [List.getD, hl]

theorem bytes_ne {a b : ByteArray} (h : a ≠ b) : (a.toList == b.toList) = false := by
  rw [ByteArray.toList_eq, ByteArray.toList_eq]
  obtain ⟨⟨x⟩⟩ := a
  obtain ⟨⟨y⟩⟩ := b
  simp only [beq_eq_false_iff_ne, ne_eq]
  intro e
  exact h (by rw [e])

theorem ret_bs {a b : ByteArray} (h : a = b) : Ending.returned (.string a) = .returned (.string b) := by rw [h]

set_option maxHeartbeats 1000000 in
theorem name_any (op : Int) (w : World) (hN : NamesIn w) :
    Calls Tryd.prog 82 #[.int .i64 op] w fun e w' => e = .returned (.string (nameOf op)) ∧ w = w' := by
  by_cases h : op < 1 ∨ 34 < op
  · have R := Lib.hid (nameOf_none h)
    rcases h with h | h
    · have d1 : decide (op < 1) = true := by simpa using h
      go_enter Tryd.func82, Tryd.ntmps82
      go_wp2
      go_ret
      exact ⟨ret_bs R.out.symm, rfl⟩
    · have d1 : decide (op < 1) = false := by simp; omega
      have d2 : decide (34 < op) = true := by simpa using h
      go_enter Tryd.func82, Tryd.ntmps82
      go_wp2
      go_ret
      exact ⟨ret_bs R.out.symm, rfl⟩
  · obtain ⟨k, rfl⟩ := Int.eq_ofNat_of_zero_le (show 0 ≤ op by omega)
    have hk := hN.at (k := k) (by omega) (by omega)
    generalize nameOf (k : Int) = s at *
    have d1 : decide ((k : Int) < 1) = false := by simp; omega
    have d2 : decide (34 < (k : Int)) = false := by simp; omega
    have d3 : (k : Int) < 35 := by omega
    clear hN
    go_enter Tryd.func82, Tryd.ntmps82
    go_wp2
    go_ret
    exact ⟨rfl, rfl⟩

set_option maxHeartbeats 2000000 in
set_option maxRecDepth 100000 in
theorem refname_any (op : Int) (w : World) :
    Calls Tryd.prog 62 #[.int .i64 op] w fun e w' => e = .returned (.string (nameOf op)) ∧ Below w.heap.size w w' := by
  by_cases h : op < 1 ∨ 34 < op
  · have R := Lib.hid (nameOf_none h)
    rcases h with h | h
    · have d1 : decide (op < 1) = true := by simpa using h
      go_enter Tryd.func62, Tryd.ntmps62
      go_wp2
      go_ret
      exact ⟨ret_bs R.out.symm, (Below.refl _ _).alloc (Nat.le_refl _) _⟩
    · have d1 : decide (op < 1) = false := by simp; omega
      have d2 : decide (34 < op) = true := by simpa using h
      go_enter Tryd.func62, Tryd.ntmps62
      go_wp2
      go_ret
      exact ⟨ret_bs R.out.symm, (Below.refl _ _).alloc (Nat.le_refl _) _⟩
  · obtain ⟨k, rfl⟩ := Int.eq_ofNat_of_zero_le (show 0 ≤ op by omega)
    have d1 : decide ((k : Int) < 1) = false := by simp; omega
    have d2 : decide (34 < (k : Int)) = false := by simp; omega
    have hq : [Value.string ⟨#[72, 65, 76, 84]⟩, Value.string ⟨#[76, 68, 73]⟩, Value.string ⟨#[76, 85, 73]⟩, Value.string ⟨#[79, 82, 73]⟩, Value.string ⟨#[65, 68, 68, 73]⟩, Value.string ⟨#[65, 68, 68]⟩, Value.string ⟨#[83, 85, 66]⟩, Value.string ⟨#[77, 85, 76]⟩, Value.string ⟨#[68, 73, 86]⟩, Value.string ⟨#[77, 79, 68]⟩, Value.string ⟨#[65, 78, 68]⟩, Value.string ⟨#[79, 82]⟩, Value.string ⟨#[88, 79, 82]⟩, Value.string ⟨#[83, 76, 84]⟩, Value.string ⟨#[83, 76, 69]⟩, Value.string ⟨#[83, 69, 81]⟩, Value.string ⟨#[83, 78, 69]⟩, Value.string ⟨#[76, 68, 87]⟩, Value.string ⟨#[83, 84, 87]⟩, Value.string ⟨#[66, 90]⟩, Value.string ⟨#[66, 78, 90]⟩, Value.string ⟨#[66, 82]⟩, Value.string ⟨#[67, 65, 76, 76]⟩, Value.string ⟨#[74, 82]⟩, Value.string ⟨#[67, 65, 76, 76, 82]⟩, Value.string ⟨#[67, 72, 75]⟩, Value.string ⟨#[78, 73, 76]⟩, Value.string ⟨#[84, 82, 65, 80]⟩, Value.string ⟨#[82, 65, 73, 83, 69]⟩, Value.string ⟨#[79, 85, 84]⟩, Value.string ⟨#[73, 78]⟩, Value.string ⟨#[67, 72, 75, 83]⟩, Value.string ⟨#[82, 84, 67]⟩, Value.string ⟨#[88, 79, 82, 73]⟩][k - 1]? = some (.string (nameOf (k : Int))) := by
      obtain ⟨j, rfl⟩ : ∃ j, k = j + 1 := ⟨k - 1, by omega⟩
      exact names_at (k := j + 1) (by omega) (by omega)
    generalize nameOf (k : Int) = s at *
    go_enter Tryd.func62, Tryd.ntmps62
    go_wp2
    go_ret
    exact ⟨rfl, (Below.refl _ _).alloc (Nat.le_refl _) _⟩

/-- The first operation of that name from k on; 0 if there is none. -/
def opFrom (s : ByteArray) (k : Nat) : Nat → Int
  | 0 => 0
  | n + 1 => if nameOf k = s then k else opFrom s (k + 1) n

def opOf (s : ByteArray) : Int := opFrom s 1 34

set_option maxHeartbeats 1000000 in
theorem op_any (s : ByteArray) (w : World) (hN : NamesIn w) :
    Calls Tryd.prog 45 #[.string s] w fun e w' => e = .returned (.int .i64 (opOf s)) ∧ w = w' := by
  have hlt := hN.lt
  have HN := Lib.hid hN
  have HO := Lib.hid (show opOf s = opFrom s 1 34 from rfl)
  clear hN
  go_enter Tryd.func45, Tryd.ntmps45
  go_wp2
  go_loop [3] (fun i => ∃ k : Nat, 1 ≤ k ∧ k ≤ 35 ∧ i = .int .i64 k ∧ opOf s = opFrom s k (35 - k)) (fun i => 35 - (intOf i).toNat)
  case atStart => exact ⟨1, by omega, by omega, rfl, HO.out⟩
  case round =>
    obtain ⟨k, hk1, hk2, rfl, ho⟩ := hrel
    by_cases hlt2 : k < 35
    · have hc := HN.out.at (k := k) hk1 (by omega)
      have d3 : (k : Int) < 35 := by omega
      have hstep : opFrom s k (35 - k) = if nameOf k = s then (k : Int) else opFrom s (k + 1) (34 - k) := by
        obtain ⟨m, hm⟩ : ∃ m, 35 - k = m + 1 := ⟨34 - k, by omega⟩
        rw [hm, show 34 - k = m by omega]
        rfl
      rw [hstep] at ho
      clear hstep
      by_cases he : nameOf k = s
      · rw [if_pos he] at ho
        have HO2 := Lib.hid ho
        rw [he] at hc
        clear he ho
        go_wp2
        go_ret
        exact ⟨congrArg (fun z => Ending.returned (.int .i64 z)) HO2.out.symm, rfl⟩
      · rw [if_neg he] at ho
        have HO2 := Lib.hid ho
        have hne : ((nameOf (k : Int)).toList == s.toList) = false := bytes_ne he
        generalize nameOf (k : Int) = u at *
        clear ho
        go_wp2
        go_round
        case rel => exact ⟨k + 1, by omega, by omega, by go_num, by rw [HO2.out, show 35 - (k + 1) = 34 - k by omega]⟩
        case measure => simp [intOf]; omega
    · obtain rfl : k = 35 := by omega
      have HO2 := Lib.hid ho
      clear ho
      go_wp2
      go_ret
      exact ⟨congrArg (fun z => Ending.returned (.int .i64 z)) HO2.out.symm, rfl⟩

/-! ### Which operation a name names -/
theorem nameOf_inj : ∀ i j : Nat, 1 ≤ i → i ≤ 34 → 1 ≤ j → j ≤ 34 → nameOf i = nameOf j → i = j := by
  have h : ((List.range 35).all fun i => (List.range 35).all fun j => decide (i < 1) || decide (j < 1) || !(decide (nameOf (i : Nat) = nameOf (j : Nat))) || decide (i = j)) = true := by decide +kernel
  intro i j hi hi2 hj hj2 he
  have h1 := List.all_eq_true.1 h i (List.mem_range.2 (by omega))
  have h2 := List.all_eq_true.1 h1 j (List.mem_range.2 (by omega))
  simp only [Bool.or_eq_true, decide_eq_true_eq, Bool.not_eq_true', decide_eq_false_iff_not] at h2
  rcases h2 with ((h2 | h2) | h2) | h2
  · omega
  · omega
  · exact absurd he h2
  · exact h2

theorem opFrom_at (s : ByteArray) : ∀ (n k j : Nat), 1 ≤ k → k + n = 35 → k ≤ j → j ≤ 34 → nameOf j = s → opFrom s k n = j
  | 0, k, j, _, h, h1, h2, _ => by omega
  | n + 1, k, j, h1, h, h2, h3, h4 => by
    unfold opFrom
    by_cases he : nameOf k = s
    · rw [if_pos he, nameOf_inj k j h1 (by omega) (by omega) h3 (he.trans h4.symm)]
    · rw [if_neg he]
      refine opFrom_at s n (k + 1) j (by omega) (by omega) ?_ h3 h4
      rcases Nat.lt_or_ge k j with h5 | h5
      · exact h5
      · have : k = j := by omega
        rw [this] at he
        exact absurd h4 he

theorem opOf_at {s : ByteArray} {j : Nat} (h1 : 1 ≤ j) (h2 : j ≤ 34) (h : nameOf j = s) : opOf s = j := opFrom_at s 34 1 j (by omega) rfl h1 h2 h

theorem opFrom_no (s : ByteArray) : ∀ (n k : Nat), k + n = 35 → (∀ j : Nat, k ≤ j → j ≤ 34 → nameOf j ≠ s) → opFrom s k n = 0
  | 0, _, _, _ => rfl
  | n + 1, k, h, hn => by
    unfold opFrom
    rw [if_neg (hn k (Nat.le_refl _) (by omega))]
    exact opFrom_no s n (k + 1) (by omega) (fun j h1 h2 => hn j (by omega) h2)

theorem opOf_no {s : ByteArray} (h : ∀ j : Nat, 1 ≤ j → j ≤ 34 → nameOf j ≠ s) : opOf s = 0 := opFrom_no s 34 1 rfl h
end Go.Proofs.YtnmpamfgkidmiaaDoor
