/- Package memory: check, read, Load, Fetch, Part, Layout. -/
import Derived.Test.YtinpdgjbiimgkaaDoorMemB
namespace Go.Proofs.YtinpdgjbiimgkaaDoor
open Go.ChangeShapes Go.WideShapes Go.ChangeAt Go.RowKit
set_option linter.unusedVariables false

/-- Words, as cells. -/
def words (ws : List Int) : Array Value := (ws.map (Value.int .u32)).toArray

theorem words_get {ws : List Int} {k : Nat} (h : k < ws.length) : (words ws)[k]? = some (.int .u32 (ws.getD k 0)) := by
  unfold words
  simp [List.getD, h]

theorem words_size (ws : List Int) : (words ws).size = ws.length := by
  unfold words
  simp

theorem Whole.word {w : World} {g : Nat} {t : TypeId} {ws : List Int} (h : Whole w g t (words ws)) {k : Nat} (hk : k < ws.length) : w.cell? ⟨g, k, none⟩ = some (.int .u32 (ws.getD k 0)) := (h.cell k).trans (words_get hk)

/-- A memory's cells: its five ends, its n words in block h. -/
def memCells (e0 e1 e2 e3 e4 : Int) (h n : Nat) : Array Value := #[.int .u32 e0, .int .u32 e1, .int .u32 e2, .int .u32 e3, .int .u32 e4, .slice (some ⟨h, 0, none⟩) n n]

/-- ErrAlign, ErrPlace: where no word is. -/
def checkRes (at_ el : Int) : Int := if at_ % 4 ≠ 0 then 30 else if el ≤ at_ then 31 else 0

def readVal (at_ el : Int) (ws : List Int) : Int := if checkRes at_ el = 0 then ws.getD (at_ / 4).toNat 0 else 0

theorem checkRes_align {at_ el : Int} (h : at_ % 4 ≠ 0) : checkRes at_ el = 30 := if_pos h

theorem checkRes_place {at_ el : Int} (h : at_ % 4 = 0) (h2 : el ≤ at_) : checkRes at_ el = 31 := by
  unfold checkRes
  rw [if_neg (by omega), if_pos h2]

theorem checkRes_ok {at_ el : Int} (h : at_ % 4 = 0) (h2 : at_ < el) : checkRes at_ el = 0 := by
  unfold checkRes
  rw [if_neg (by omega), if_neg (by omega)]

theorem checkRes_zero {at_ el : Int} (h : checkRes at_ el = 0) : at_ % 4 = 0 ∧ at_ < el := by
  unfold checkRes at h
  split at h
  · omega
  · split at h <;> omega

theorem wordOfs {ws : List Int} (h : ∀ z ∈ ws, U32 z) (k : Nat) : U32 (ws.getD k 0) := by
  rcases Nat.lt_or_ge k ws.length with hk | hk
  · have e : ws.getD k 0 = ws[k] := by simp [List.getD, hk]
    rw [e]
    exact h _ (List.getElem_mem hk)
  · simp only [List.getD, List.getElem?_eq_none hk, Option.getD_none]
    exact ⟨by omega, by omega⟩

set_option maxHeartbeats 2000000 in
theorem check_0 (p : Nat) (at_ el : Int) (w : World) (ha : U32 at_) (hc : w.cell? ⟨p, 0, none⟩ = some (.int .u32 el)) :
    Calls Tryd.prog 70 #[.pointer (some ⟨p, 0, none⟩), .int .u32 at_, .int .i64 0] w fun e w' => e = .returned (.int .i64 (checkRes at_ el)) ∧ w = w' := by
  obtain ⟨a0, a1⟩ := ha
  by_cases h : at_ % 4 = 0
  · have d1 : (at_ % 4 != 0) = false := by simpa using h
    by_cases h2 : el ≤ at_
    · have R := Lib.hid (checkRes_place h h2)
      have d2 : decide (el ≤ at_) = true := decide_eq_true h2
      clear h h2
      go_enter Tryd.func70, Tryd.ntmps70
      go_wp2_with fail
      go_ret
      exact ⟨by rw [R.out]; rfl, rfl⟩
    · have R := Lib.hid (checkRes_ok h (by omega : at_ < el))
      have d2 : decide (el ≤ at_) = false := decide_eq_false h2
      clear h h2
      go_enter Tryd.func70, Tryd.ntmps70
      go_wp2_with fail
      go_ret
      exact ⟨by rw [R.out]; rfl, rfl⟩
  · have d1 : (at_ % 4 != 0) = true := by simpa using h
    have R := Lib.hid (checkRes_align (el := el) h)
    clear h
    go_enter Tryd.func70, Tryd.ntmps70
    go_wp2_with fail
    go_ret
    exact ⟨by rw [R.out]; rfl, rfl⟩

set_option maxHeartbeats 2000000 in
theorem read_0 (p h n : Nat) (at_ el : Int) (ws : List Int) (w : World) (ha : U32 at_) (hc : w.cell? ⟨p, 0, none⟩ = some (.int .u32 el)) (hs : w.cell? ⟨p, 5, none⟩ = some (.slice (some ⟨h, 0, none⟩) n n)) (hw : Whole w h 22 (words ws)) (hn : ws.length = n) (hl : el ≤ 4 * n) (hws : ∀ z ∈ ws, U32 z) :
    Calls Tryd.prog 48 #[.pointer (some ⟨p, 0, none⟩), .int .u32 at_, .int .i64 0] w fun e w' => e = .returned (.tuple #[.int .u32 (readVal at_ el ws), .int .i64 (checkRes at_ el)]) ∧ w = w' := by
  have C := Lib.hid (check_0 p at_ el w ha hc)
  obtain ⟨a0, a1⟩ := ha
  by_cases h0 : checkRes at_ el = 0
  · obtain ⟨z0, z1⟩ := checkRes_zero h0
    rw [h0] at C ⊢
    have R := Lib.hid (show readVal at_ el ws = ws.getD (at_ / 4).toNat 0 from if_pos h0)
    obtain ⟨k, hk⟩ := Int.eq_ofNat_of_zero_le (show 0 ≤ at_ / 4 by omega)
    rw [hk, Int.toNat_natCast] at R
    have hkn : k < n := by omega
    have c0 := hw.word (k := k) (by omega)
    obtain ⟨v0, v1⟩ := wordOfs hws k
    clear h0 hws hw hn hl
    generalize ws.getD k 0 = v at *
    generalize readVal at_ el ws = rv at *
    go_enter Tryd.func48, Tryd.ntmps48
    go_wp2_with fail
    refine C.out.mono ?_
    rintro e w' ⟨rfl, rfl⟩
    go_wp2_with fail
    go_ret2
    exact ⟨by rw [R.out]; rfl, rfl⟩
  · have R := Lib.hid (show readVal at_ el ws = 0 from if_neg h0)
    have hne : (checkRes at_ el != 0) = true := by simpa using h0
    clear h0
    generalize checkRes at_ el = er at *
    generalize readVal at_ el ws = rv at *
    go_enter Tryd.func48, Tryd.ntmps48
    go_wp2_with fail
    refine C.out.mono ?_
    rintro e w' ⟨rfl, rfl⟩
    go_wp2_with fail
    go_ret2
    exact ⟨by rw [R.out]; rfl, rfl⟩

set_option maxHeartbeats 2000000 in
theorem check_4 (p : Nat) (at_ el : Int) (w : World) (ha : U32 at_) (hc : w.cell? ⟨p, 4, none⟩ = some (.int .u32 el)) :
    Calls Tryd.prog 70 #[.pointer (some ⟨p, 0, none⟩), .int .u32 at_, .int .i64 4] w fun e w' => e = .returned (.int .i64 (checkRes at_ el)) ∧ w = w' := by
  obtain ⟨a0, a1⟩ := ha
  by_cases h : at_ % 4 = 0
  · have d1 : (at_ % 4 != 0) = false := by simpa using h
    by_cases h2 : el ≤ at_
    · have R := Lib.hid (checkRes_place h h2)
      have d2 : decide (el ≤ at_) = true := decide_eq_true h2
      clear h h2
      go_enter Tryd.func70, Tryd.ntmps70
      go_wp2_with fail
      go_ret
      exact ⟨by rw [R.out]; rfl, rfl⟩
    · have R := Lib.hid (checkRes_ok h (by omega : at_ < el))
      have d2 : decide (el ≤ at_) = false := decide_eq_false h2
      clear h h2
      go_enter Tryd.func70, Tryd.ntmps70
      go_wp2_with fail
      go_ret
      exact ⟨by rw [R.out]; rfl, rfl⟩
  · have d1 : (at_ % 4 != 0) = true := by simpa using h
    have R := Lib.hid (checkRes_align (el := el) h)
    clear h
    go_enter Tryd.func70, Tryd.ntmps70
    go_wp2_with fail
    go_ret
    exact ⟨by rw [R.out]; rfl, rfl⟩

set_option maxHeartbeats 2000000 in
theorem read_4 (p h n : Nat) (at_ el : Int) (ws : List Int) (w : World) (ha : U32 at_) (hc : w.cell? ⟨p, 4, none⟩ = some (.int .u32 el)) (hs : w.cell? ⟨p, 5, none⟩ = some (.slice (some ⟨h, 0, none⟩) n n)) (hw : Whole w h 22 (words ws)) (hn : ws.length = n) (hl : el ≤ 4 * n) (hws : ∀ z ∈ ws, U32 z) :
    Calls Tryd.prog 48 #[.pointer (some ⟨p, 0, none⟩), .int .u32 at_, .int .i64 4] w fun e w' => e = .returned (.tuple #[.int .u32 (readVal at_ el ws), .int .i64 (checkRes at_ el)]) ∧ w = w' := by
  have C := Lib.hid (check_4 p at_ el w ha hc)
  obtain ⟨a0, a1⟩ := ha
  by_cases h0 : checkRes at_ el = 0
  · obtain ⟨z0, z1⟩ := checkRes_zero h0
    rw [h0] at C ⊢
    have R := Lib.hid (show readVal at_ el ws = ws.getD (at_ / 4).toNat 0 from if_pos h0)
    obtain ⟨k, hk⟩ := Int.eq_ofNat_of_zero_le (show 0 ≤ at_ / 4 by omega)
    rw [hk, Int.toNat_natCast] at R
    have hkn : k < n := by omega
    have c0 := hw.word (k := k) (by omega)
    obtain ⟨v0, v1⟩ := wordOfs hws k
    clear h0 hws hw hn hl
    generalize ws.getD k 0 = v at *
    generalize readVal at_ el ws = rv at *
    go_enter Tryd.func48, Tryd.ntmps48
    go_wp2_with fail
    refine C.out.mono ?_
    rintro e w' ⟨rfl, rfl⟩
    go_wp2_with fail
    go_ret2
    exact ⟨by rw [R.out]; rfl, rfl⟩
  · have R := Lib.hid (show readVal at_ el ws = 0 from if_neg h0)
    have hne : (checkRes at_ el != 0) = true := by simpa using h0
    clear h0
    generalize checkRes at_ el = er at *
    generalize readVal at_ el ws = rv at *
    go_enter Tryd.func48, Tryd.ntmps48
    go_wp2_with fail
    refine C.out.mono ?_
    rintro e w' ⟨rfl, rfl⟩
    go_wp2_with fail
    go_ret2
    exact ⟨by rw [R.out]; rfl, rfl⟩

set_option maxHeartbeats 1000000 in
theorem load_any (p h n : Nat) (at_ el : Int) (ws : List Int) (w : World) (ha : U32 at_) (hc : w.cell? ⟨p, 4, none⟩ = some (.int .u32 el)) (hs : w.cell? ⟨p, 5, none⟩ = some (.slice (some ⟨h, 0, none⟩) n n)) (hw : Whole w h 22 (words ws)) (hn : ws.length = n) (hl : el ≤ 4 * n) (hws : ∀ z ∈ ws, U32 z) :
    Calls Tryd.prog 32 #[.pointer (some ⟨p, 0, none⟩), .int .u32 at_] w fun e w' => e = .returned (.tuple #[.int .u32 (readVal at_ el ws), .int .i64 (checkRes at_ el)]) ∧ w = w' := by
  have C := Lib.hid (read_4 p h n at_ el ws w ha hc hs hw hn hl hws)
  clear hc hs hw hn hl hws
  generalize checkRes at_ el = er at *
  generalize readVal at_ el ws = rv at *
  go_enter Tryd.func32, Tryd.ntmps32
  go_wp2_with fail
  refine C.out.mono ?_
  rintro e w' ⟨rfl, rfl⟩
  go_wp2_with fail
  go_ret2
  exact ⟨rfl, rfl⟩

set_option maxHeartbeats 1000000 in
theorem fetch_any (p h n : Nat) (at_ el : Int) (ws : List Int) (w : World) (ha : U32 at_) (hc : w.cell? ⟨p, 0, none⟩ = some (.int .u32 el)) (hs : w.cell? ⟨p, 5, none⟩ = some (.slice (some ⟨h, 0, none⟩) n n)) (hw : Whole w h 22 (words ws)) (hn : ws.length = n) (hl : el ≤ 4 * n) (hws : ∀ z ∈ ws, U32 z) :
    Calls Tryd.prog 27 #[.pointer (some ⟨p, 0, none⟩), .int .u32 at_] w fun e w' => e = .returned (.tuple #[.int .u32 (readVal at_ el ws), .int .i64 (checkRes at_ el)]) ∧ w = w' := by
  have C := Lib.hid (read_0 p h n at_ el ws w ha hc hs hw hn hl hws)
  clear hc hs hw hn hl hws
  generalize checkRes at_ el = er at *
  generalize readVal at_ el ws = rv at *
  go_enter Tryd.func27, Tryd.ntmps27
  go_wp2_with fail
  refine C.out.mono ?_
  rintro e w' ⟨rfl, rfl⟩
  go_wp2_with fail
  go_ret2
  exact ⟨rfl, rfl⟩

/-- In which part an address lies. -/
def partOf (e0 e1 e2 e3 e4 at_ : Int) : Int := if at_ < e0 then 0 else if at_ < e1 then 1 else if at_ < e2 then 2 else if at_ < e3 then 3 else if at_ < e4 then 4 else 5

end Go.Proofs.YtinpdgjbiimgkaaDoor
