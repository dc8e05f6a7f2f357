/- Finger: More of both sides, Sum; awake; which lists are tried. -/
import Derived.Test.YthmjniedfiabhaaFngA
namespace Go.Proofs.Ythmjniedfiabhaa
open Go.ChangeShapes Go.WideShapes Go.ChangeAt Go.RowKit
set_option linter.unusedVariables false
set_option linter.unusedSimpArgs false

abbrev Byt (zs : List Int) : Prop := ∀ z ∈ zs, 0 ≤ z ∧ z ≤ 255

theorem xor_in (x y : Int) : 0 ≤ bits .xor .u32 x y ∧ bits .xor .u32 x y ≤ 4294967295 := by
  unfold bits
  rw [IntKind.wrap_u32]
  omega

set_option maxHeartbeats 1000000 in
set_option maxRecDepth 100000 in
theorem more_any (s : Int) (A : Option Addr) (n c : Nat) (zs : List Int) (w : World) (hs : 0 ≤ s ∧ s ≤ 4294967295) (hz : Nums .u8 w A n zs) (hb : Byt zs) (hn : n ≤ 140737488355328) :
    Calls Try.prog 83 #[.int .u32 s, .slice A n c] w fun e w' => e = .returned (.int .u32 (fnvB s zs)) ∧ w = w' := by
  have HZ := Lib.hid hz
  have HB := Lib.hid hb
  have HS := Lib.hid hs
  have HL := Lib.hid hz.1
  clear hz hb hs
  go_enter Try.func83, Try.ntmps83
  go_wp2_with fail
  go_loopw [0, 9] (fun v i wr => ∃ t : Nat, t ≤ n ∧ v = .int .u32 (fnvB s (zs.take t)) ∧ i = .int .i64 t ∧ wr = w) (fun _ i _ => n - (intOf i).toNat)
  case atStart => exact ⟨0, Nat.zero_le _, rfl, rfl, rfl⟩
  case round =>
    obtain ⟨t, ht, rfl, rfl, rfl⟩ := hrel
    by_cases hlt : t < n
    · have hI : (t : Int) < n := by omega
      have hlz : t < zs.length := by rw [HL.out]; exact hlt
      obtain ⟨b, off, rfl, _, hc⟩ := HZ.out.2 (by omega)
      have c0 := hc t hlt
      have hbb := HB.out _ (getD_mem 0 hlz)
      have T := Lib.hid (fnvB_take s zs hlz)
      have hf := fnvB_in (zs.take t) s HS.out
      generalize zs.getD t 0 = x at *
      generalize fnvB s (zs.take t) = y at *
      have hx := xor_in y x
      have SE := Lib.hid (show fnvS y x = bits .xor .u32 y x * 16777619 % 4294967296 from rfl)
      clear hc
      go_wp2_with fail
      go_roundw
      case rel => exact ⟨t + 1, by omega, by rw [T.out, SE.out], by go_num, trivial⟩
      case measure => simp [intOf]; omega
    · have hI : ¬ (t : Int) < n := by omega
      obtain rfl : t = n := by omega
      have E := Lib.hid (show zs.take t = zs from List.take_of_length_le (by rw [HL.out]; exact Nat.le_refl _))
      go_wp2_with fail
      go_ret
      rw [E.out]
      exact ⟨rfl, rfl⟩

set_option maxHeartbeats 1000000 in
set_option maxRecDepth 100000 in
theorem refmore_any (s : Int) (A : Option Addr) (n c : Nat) (zs : List Int) (w : World) (hs : 0 ≤ s ∧ s ≤ 4294967295) (hz : Nums .u8 w A n zs) (hb : Byt zs) (hn : n ≤ 140737488355328) :
    Calls Try.prog 69 #[.int .u32 s, .slice A n c] w fun e w' => e = .returned (.int .u32 (fnvB s zs)) ∧ w = w' := by
  have HZ := Lib.hid hz
  have HB := Lib.hid hb
  have HS := Lib.hid hs
  have HL := Lib.hid hz.1
  clear hz hb hs
  go_enter Try.func69, Try.ntmps69
  go_wp2_with fail
  go_loopw [0, 5] (fun v i wr => ∃ t : Nat, t ≤ n ∧ v = .int .u32 (fnvB s (zs.take t)) ∧ i = .int .i64 t ∧ wr = w) (fun _ i _ => n - (intOf i).toNat)
  case atStart => exact ⟨0, Nat.zero_le _, rfl, rfl, rfl⟩
  case round =>
    obtain ⟨t, ht, rfl, rfl, rfl⟩ := hrel
    by_cases hlt : t < n
    · have hI : (t : Int) < n := by omega
      have hlz : t < zs.length := by rw [HL.out]; exact hlt
      obtain ⟨b, off, rfl, _, hc⟩ := HZ.out.2 (by omega)
      have c0 := hc t hlt
      have hbb := HB.out _ (getD_mem 0 hlz)
      have T := Lib.hid (fnvB_take s zs hlz)
      have hf := fnvB_in (zs.take t) s HS.out
      generalize zs.getD t 0 = x at *
      generalize fnvB s (zs.take t) = y at *
      have hx := xor_in y x
      have SE := Lib.hid (show fnvS y x = bits .xor .u32 y x * 16777619 % 4294967296 from rfl)
      clear hc
      go_wp2_with fail
      go_roundw
      case rel => exact ⟨t + 1, by omega, by rw [T.out, SE.out], by go_num, trivial⟩
      case measure => simp [intOf]; omega
    · have hI : ¬ (t : Int) < n := by omega
      obtain rfl : t = n := by omega
      have E := Lib.hid (show zs.take t = zs from List.take_of_length_le (by rw [HL.out]; exact Nat.le_refl _))
      go_wp2_with fail
      go_ret
      rw [E.out]
      exact ⟨rfl, rfl⟩

set_option maxHeartbeats 1000000 in
set_option maxRecDepth 100000 in
theorem sum_any (A : Option Addr) (n c : Nat) (zs : List Int) (w : World) (hz : Nums .u8 w A n zs) (hb : Byt zs) (hn : n ≤ 140737488355328) :
    Calls Try.prog 68 #[.slice A n c] w fun e w' => e = .returned (.int .u32 (fnvB 2166136261 zs)) ∧ w = w' := by
  have M := Lib.hid (more_any 2166136261 A n c zs w (by decide) hz hb hn)
  clear hz hb hn
  go_enter Try.func68, Try.ntmps68
  go_wp2_with fail
  refine M.out.mono ?_
  rintro e w1 ⟨rfl, rfl⟩
  go_wp2_with fail
  go_ret
  exact ⟨rfl, rfl⟩

/-- An export whose lists are short enough to be tried. -/
def smX (x : Ex) : Prop := x.nm.size ≤ 200 ∧ x.ps.length ≤ 60

instance (x : Ex) : Decidable (smX x) := by unfold smX; infer_instance

/-- A list that is tried. -/
def smL (l : List Exx) : Prop := l.length ≤ 60 ∧ ∀ x ∈ l, smX x.1

instance (l : List Exx) : Decidable (smL l) := by unfold smL; infer_instance

end Go.Proofs.Ythmjniedfiabhaa