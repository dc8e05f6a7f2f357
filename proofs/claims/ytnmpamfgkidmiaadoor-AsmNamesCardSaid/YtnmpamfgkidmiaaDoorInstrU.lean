/- Package instr and its answers: a field's text, read. -/
import Derived.Test.YtnmpamfgkidmiaaDoorInstrP
import Derived.Test.YtnmpamfgkidmiaaDoorShelf
import Derived.Test.YtnmpamfgkidmiaaDoorWordG
import Derived.Test.YtnmpamfgkidmiaaDoorWordH
namespace Go.Proofs.YtnmpamfgkidmiaaDoor
open Go.ChangeShapes Go.WideShapes Go.ChangeAt Go.RowKit
set_option linter.unusedVariables false

/-- What stands behind the prefix; whether the field is right; its number. -/
def restOf (p s : ByteArray) : ByteArray := ⟨(Lib.trimPrefix s.data.toList p.data.toList).toArray⟩

def pfB (p s : ByteArray) : Bool := Lib.hasPrefix s.data.toList p.data.toList && parseOk (bys (restOf p s))

def pfN (p s : ByteArray) : Int := if pfB p s = true then parseOf (bys (restOf p s)) else 0

theorem rest_size (p s : ByteArray) (h : s.size ≤ maxLen) : (restOf p s).size ≤ maxLen := by
  have e : (restOf p s).size = (Lib.trimPrefix s.data.toList p.data.toList).length := by
    show (List.toArray _).size = _
    simp
  have e2 : s.data.toList.length = s.size := Array.length_toList
  rw [e]
  unfold Lib.trimPrefix
  split
  · rw [List.length_drop]
    omega
  · omega

theorem parseOk_range {l : List Int} (h : parseOk l = true) : -2147483648 ≤ parseOf l ∧ parseOf l ≤ 2147483647 := by
  unfold parseOk at h
  simp at h
  omega

theorem pfN_i64 (p s : ByteArray) : -2147483648 ≤ pfN p s ∧ pfN p s ≤ 2147483647 := by
  unfold pfN
  split
  · rename_i h
    unfold pfB at h
    rw [Bool.and_eq_true] at h
    exact parseOk_range h.2
  · omega

theorem pf_no {p s : ByteArray} (h : Lib.hasPrefix s.data.toList p.data.toList = false) : pfB p s = false ∧ pfN p s = 0 := by
  have h1 : pfB p s = false := by unfold pfB; rw [h]; rfl
  exact ⟨h1, by unfold pfN; rw [h1]; rfl⟩

theorem pf_bad {p s : ByteArray} (h : parseOk (bys (restOf p s)) = false) : pfB p s = false ∧ pfN p s = 0 := by
  have h1 : pfB p s = false := by unfold pfB; rw [h, Bool.and_false]
  exact ⟨h1, by unfold pfN; rw [h1]; rfl⟩

theorem pf_yes {p s : ByteArray} (h : Lib.hasPrefix s.data.toList p.data.toList = true) (h2 : parseOk (bys (restOf p s)) = true) : pfB p s = true ∧ pfN p s = parseOf (bys (restOf p s)) := by
  have h1 : pfB p s = true := by unfold pfB; rw [h, h2]; rfl
  exact ⟨h1, by unfold pfN; rw [h1]; rfl⟩

theorem ret_pair {a b : Int} {c d : Bool} (h : a = b) (h2 : c = d) : Ending.returned (.tuple #[.int .i64 a, .bool c]) = .returned (.tuple #[.int .i64 b, .bool d]) := by rw [h, h2]

set_option maxHeartbeats 1000000 in
set_option maxRecDepth 100000 in
theorem parseField_any (s p : ByteArray) (w : World) (hs : s.size ≤ maxLen) :
    Calls Tryd.prog 95 #[.string s, .string p] w fun e w' => e = .returned (.tuple #[.int .i64 (pfN p s), .bool (pfB p s)]) ∧ Below w.heap.size w w' := by
  have hcut : ∀ w, Calls Tryd.prog 107 #[.string s, .string p] w fun e w' => e = .returned (.tuple #[.string (restOf p s), .bool (Lib.hasPrefix s.data.toList p.data.toList)]) ∧ w = w' :=
    fun w => (Tryd.strings_CutPrefix s p w).mono fun e w' h => ⟨h.1, h.2.symm⟩
  have hz := rest_size p s hs
  have CUT := Lib.hid hcut
  cases hp : Lib.hasPrefix s.data.toList p.data.toList with
  | false =>
    have R := Lib.hid (pf_no hp)
    have HP := Lib.hid hp
    clear hp hcut
    go_enter Tryd.func95, Tryd.ntmps95
    go_wp2_with fail
    refine (CUT.out _).mono ?_
    rintro e w' ⟨rfl, rfl⟩
    rw [HP.out]
    go_wp2
    go_ret2
    exact ⟨ret_pair R.out.2.symm R.out.1.symm, Below.refl _ _⟩
  | true =>
    have PA := Lib.hid (fun w => parse_any (restOf p s) w hz)
    have HP := Lib.hid hp
    cases hk : parseOk (bys (restOf p s)) with
    | false =>
      have R := Lib.hid (pf_bad hk)
      have PN := Lib.hid (parseRes_no hk)
      clear hp hcut hk
      generalize restOf p s = t at *
      go_enter Tryd.func95, Tryd.ntmps95
      go_wp2_with fail
      refine (CUT.out _).mono ?_
      rintro e w' ⟨rfl, rfl⟩
      rw [HP.out]
      go_wp2_with fail
      refine (PA.out _).mono ?_
      rintro e w' ⟨rfl, hb⟩
      rw [PN.out]
      go_wp2
      go_ret2
      exact ⟨ret_pair R.out.2.symm R.out.1.symm, hb⟩
    | true =>
      have R := Lib.hid (pf_yes hp hk)
      have PY := Lib.hid (parseRes_yes hk)
      obtain ⟨r0, r1⟩ := parseOk_range hk
      clear hp hcut hk
      generalize restOf p s = t at *
      generalize parseOf (bys t) = z at *
      go_enter Tryd.func95, Tryd.ntmps95
      go_wp2_with fail
      refine (CUT.out _).mono ?_
      rintro e w' ⟨rfl, rfl⟩
      rw [HP.out]
      go_wp2_with fail
      refine (PA.out _).mono ?_
      rintro e w' ⟨rfl, hb⟩
      rw [PY.out]
      go_wp2
      go_ret2
      exact ⟨ret_pair R.out.2.symm R.out.1.symm, hb⟩

theorem has_r (s : ByteArray) : ((s.extract 0 1).toList == [114]) = Lib.hasPrefix s.data.toList [114] := by
  rw [ByteArray.toList_eq]
  obtain ⟨⟨l⟩⟩ := s
  show ((ByteArray.extract ⟨⟨l⟩⟩ 0 1).data.toList == [114]) = Lib.hasPrefix l [114]
  cases l with
  | nil => rfl
  | cons x r =>
    have e : (ByteArray.extract ⟨⟨x :: r⟩⟩ 0 1).data.toList = [x] := by simp
    rw [e]
    simp [Lib.hasPrefix, List.isPrefixOf]
    rw [Bool.eq_iff_iff]
    simp only [beq_iff_eq]
    exact eq_comm

theorem rest_r {s : ByteArray} (h : Lib.hasPrefix s.data.toList [114] = true) : restOf ⟨#[114]⟩ s = s.extract 1 s.size := by
  apply ByteArray.ext
  apply Array.ext'
  show Lib.trimPrefix s.data.toList [114] = _
  unfold Lib.trimPrefix
  rw [if_pos h]
  simp
  rw [List.take_of_length_le]
  have : s.data.toList.length = s.size := Array.length_toList
  rw [List.length_tail]
  omega

theorem rest_e (s : ByteArray) : restOf ⟨#[]⟩ s = s := by
  apply ByteArray.ext
  apply Array.ext'
  show Lib.trimPrefix s.data.toList [] = _
  unfold Lib.trimPrefix
  simp [Lib.hasPrefix, List.isPrefixOf]

theorem has_e (s : ByteArray) : Lib.hasPrefix s.data.toList [] = true := by simp [Lib.hasPrefix, List.isPrefixOf]

set_option maxHeartbeats 1000000 in
set_option maxRecDepth 100000 in
theorem number_short (s : ByteArray) (w : World) (hs : s.size < 1) :
    Calls Tryd.prog 99 #[.string ⟨#[114]⟩, .string s] w fun e w' => e = .returned (.tuple #[.int .i64 (pfN ⟨#[114]⟩ s), .bool (pfB ⟨#[114]⟩ s)]) ∧ Below w.heap.size w w' := by
  have hh : Lib.hasPrefix s.data.toList [114] = false := by
    obtain ⟨⟨l⟩⟩ := s
    cases l with
    | nil => rfl
    | cons x r => exact absurd hs (by show ¬ (r.length + 1 < 1); omega)
  have R := Lib.hid (pf_no (p := ⟨#[114]⟩) hh)
  have d : decide ((s.size : Int) < 1) = true := by simp; omega
  clear hh
  go_enter Tryd.func99, Tryd.ntmps99
  go_wp2_with fail
  go_ret2
  exact ⟨ret_pair R.out.2.symm R.out.1.symm, Below.refl _ _⟩

set_option maxHeartbeats 1000000 in
set_option maxRecDepth 100000 in
theorem number_r (s : ByteArray) (w : World) (hs : s.size ≤ maxLen) (h1 : 1 ≤ s.size) :
    Calls Tryd.prog 99 #[.string ⟨#[114]⟩, .string s] w fun e w' => e = .returned (.tuple #[.int .i64 (pfN ⟨#[114]⟩ s), .bool (pfB ⟨#[114]⟩ s)]) ∧ Below w.heap.size w w' := by
  have d : decide ((s.size : Int) < 1) = false := by simp; omega
  unfold maxLen at hs
  cases hh : Lib.hasPrefix s.data.toList [114] with
  | false =>
    have he : ((s.extract 0 1).toList == [114]) = false := by rw [has_r]; exact hh
    have R := Lib.hid (pf_no (p := ⟨#[114]⟩) hh)
    clear hh
    go_enter Tryd.func99, Tryd.ntmps99
    go_wp2_with fail
    go_ret2
    exact ⟨ret_pair R.out.2.symm R.out.1.symm, Below.refl _ _⟩
  | true =>
    have he : ((s.extract 0 1).toList == [114]) = true := by rw [has_r]; exact hh
    have hr := rest_r hh
    have hz : (s.extract 1 s.size).size ≤ maxLen := by
      rw [← hr]
      exact rest_size _ _ (by unfold maxLen; omega)
    have PA := Lib.hid (fun w => refparse_any (s.extract 1 s.size) w hz)
    cases hk : parseOk (bys (restOf ⟨#[114]⟩ s)) with
    | false =>
      have R := Lib.hid (pf_bad hk)
      have PN := Lib.hid (parseRes_no hk)
      rw [hr] at PN
      clear hh hk hr hz
      go_enter Tryd.func99, Tryd.ntmps99
      go_wp2_with fail
      refine (PA.out _).mono ?_
      rintro e w' ⟨rfl, hb⟩
      rw [PN.out]
      go_wp2
      go_ret2
      exact ⟨ret_pair R.out.2.symm R.out.1.symm, hb⟩
    | true =>
      have R := Lib.hid (pf_yes (p := ⟨#[114]⟩) hh hk)
      have PY := Lib.hid (parseRes_yes hk)
      obtain ⟨r0, r1⟩ := parseOk_range hk
      rw [hr] at PY
      rw [hr] at r0 r1 R
      clear hh hk hr hz
      generalize parseOf (bys (s.extract 1 s.size)) = z at *
      go_enter Tryd.func99, Tryd.ntmps99
      go_wp2_with fail
      refine (PA.out _).mono ?_
      rintro e w' ⟨rfl, hb⟩
      rw [PY.out]
      go_wp2
      go_ret2
      exact ⟨ret_pair R.out.2.symm R.out.1.symm, hb⟩

theorem extract_all (s : ByteArray) : s.extract 0 s.size = s := by
  apply ByteArray.ext
  apply Array.ext'
  simp

theorem extract_none (s : ByteArray) : ((s.extract 0 0).toList == []) = true := by
  rw [ByteArray.toList_eq]
  simp

set_option maxHeartbeats 1000000 in
set_option maxRecDepth 100000 in
theorem number_e (s : ByteArray) (w : World) (hs : s.size ≤ maxLen) :
    Calls Tryd.prog 99 #[.string ⟨#[]⟩, .string s] w fun e w' => e = .returned (.tuple #[.int .i64 (pfN ⟨#[]⟩ s), .bool (pfB ⟨#[]⟩ s)]) ∧ Below w.heap.size w w' := by
  have d : decide ((s.size : Int) < 0) = false := by simp
  have he := extract_none s
  have hx := extract_all s
  have hr := rest_e s
  have PA := Lib.hid (fun w => refparse_any s w hs)
  unfold maxLen at hs
  cases hk : parseOk (bys (restOf ⟨#[]⟩ s)) with
  | false =>
    have R := Lib.hid (pf_bad hk)
    have PN := Lib.hid (parseRes_no hk)
    rw [hr] at PN
    clear hk hr
    go_enter Tryd.func99, Tryd.ntmps99
    go_wp2_with fail
    refine (PA.out _).mono ?_
    rintro e w' ⟨rfl, hb⟩
    rw [PN.out]
    go_wp2
    go_ret2
    exact ⟨ret_pair R.out.2.symm R.out.1.symm, hb⟩
  | true =>
    have R := Lib.hid (pf_yes (p := ⟨#[]⟩) (has_e s) hk)
    have PY := Lib.hid (parseRes_yes hk)
    obtain ⟨r0, r1⟩ := parseOk_range hk
    rw [hr] at PY
    rw [hr] at r0 r1 R
    clear hk hr
    generalize parseOf (bys s) = z at *
    go_enter Tryd.func99, Tryd.ntmps99
    go_wp2_with fail
    refine (PA.out _).mono ?_
    rintro e w' ⟨rfl, hb⟩
    rw [PY.out]
    go_wp2
    go_ret2
    exact ⟨ret_pair R.out.2.symm R.out.1.symm, hb⟩

theorem number_any' (p s : ByteArray) (w : World) (hs : s.size ≤ maxLen) (hp : p = ⟨#[]⟩ ∨ p = ⟨#[114]⟩) :
    Calls Tryd.prog 99 #[.string p, .string s] w fun e w' => e = .returned (.tuple #[.int .i64 (pfN p s), .bool (pfB p s)]) ∧ Below w.heap.size w w' := by
  rcases hp with rfl | rfl
  · exact number_e s w hs
  · by_cases h : 1 ≤ s.size
    · exact number_r s w hs h
    · exact number_short s w (by omega)
end Go.Proofs.YtnmpamfgkidmiaaDoor
