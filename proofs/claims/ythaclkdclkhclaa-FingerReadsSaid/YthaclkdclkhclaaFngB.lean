/- Finger: More of both sides, Sum; awake; which lists are tried. -/
import Derived.Test.YthaclkdclkhclaaFngA
namespace Go.Proofs.Ythaclkdclkhclaa
open Go.ChangeShapes Go.WideShapes Go.ChangeAt Go.RowKit
set_option linter.unusedVariables false
set_option linter.unusedSimpArgs false

abbrev Byt (zs : List Int) : Prop := ∀ z ∈ zs, 0 ≤ z ∧ z ≤ 255

theorem xor_in (x y : Int) : 0 ≤ bits .xor .u32 x y ∧ bits .xor .u32 x y ≤ 4294967295 := by
  unfold bits
  rw [IntKind.wrap_u32]
  omega

set_option maxHeartbeats 1000000 in
set_option maxRecDepth 100000 in
theorem more_any (s : Int) (A : Option Addr) (n c : Nat) (zs : List Int) (w : World) (hs : 0 ≤ s ∧ s ≤ 4294967295) (hz : Nums .u8 w A n zs) (hb : Byt zs) (hn : n ≤ 140737488355328) :
    Calls Try.prog 8 #[.int .u32 s, .slice A n c] w fun e w' => e = .returned (.int .u32 (fnvB s zs)) ∧ w = w' := by
  have HZ := Lib.hid hz
  have HB := Lib.hid hb
  have HS := Lib.hid hs
  have HL := Lib.hid hz.1
  clear hz hb hs
  go_enter Try.func8, Try.ntmps8
  go_wp2_with fail
  go_loopw [0, 9] (fun v i wr => ∃ t : Nat, t ≤ n ∧ v = .int .u32 (fnvB s (zs.take t)) ∧ i = .int .i64 t ∧ wr = w) (fun _ i _ => n - (intOf i).toNat)
  case atStart => exact ⟨0, Nat.zero_le _, rfl, rfl, rfl⟩
  case round =>
    obtain ⟨t, ht, rfl, rfl, rfl⟩ := hrel
    by_cases hlt : t < n
    · have hI : (t : Int) < n := by omega
      have hlz : t < zs.length := by rw [HL.out]; exact hlt
      obtain ⟨b, off, rfl, _, hc⟩ := HZ.out.2 (by omega)
      have c0 := hc t hlt
      have hbb := HB.out _ (getD_mem 0 hlz)
      have T := Lib.hid (fnvB_take s zs hlz)
      have hf := fnvB_in (zs.take t) s HS.out
      generalize zs.getD t 0 = x at *
      generalize fnvB s (zs.take t) = y at *
      have hx := xor_in y x
      have SE := Lib.hid (show fnvS y x = bits .xor .u32 y x * 16777619 % 4294967296 from rfl)
      clear hc
      go_wp2_with fail
      go_roundw
      case rel => exact ⟨t + 1, by omega, by rw [T.out, SE.out], by go_num, trivial⟩
      case measure => simp [intOf]; omega
    · have hI : ¬ (t : Int) < n := by omega
      obtain rfl : t = n := by omega
      have E := Lib.hid (show zs.take t = zs from List.take_of_length_le (by rw [HL.out]; exact Nat.le_refl _))
      go_wp2_with fail
      go_ret
      rw [E.out]
      exact ⟨rfl, rfl⟩

set_option maxHeartbeats 1000000 in
set_option maxRecDepth 100000 in
theorem refmore_any (s : Int) (A : Option Addr) (n c : Nat) (zs : List Int) (w : World) (hs : 0 ≤ s ∧ s ≤ 4294967295) (hz : Nums .u8 w A n zs) (hb : Byt zs) (hn : n ≤ 140737488355328) :
    Calls Try.prog 9 #[.int .u32 s, .slice A n c] w fun e w' => e = .returned (.int .u32 (fnvB s zs)) ∧ w = w' := by
  have HZ := Lib.hid hz
  have HB := Lib.hid hb
  have HS := Lib.hid hs
  have HL := Lib.hid hz.1
  clear hz hb hs
  go_enter Try.func9, Try.ntmps9
  go_wp2_with fail
  go_loopw [0, 5] (fun v i wr => ∃ t : Nat, t ≤ n ∧ v = .int .u32 (fnvB s (zs.take t)) ∧ i = .int .i64 t ∧ wr = w) (fun _ i _ => n - (intOf i).toNat)
  case atStart => exact ⟨0, Nat.zero_le _, rfl, rfl, rfl⟩
  case round =>
    obtain ⟨t, ht, rfl, rfl, rfl⟩ := hrel
    by_cases hlt : t < n
    · have hI : (t : Int) < n := by omega
      have hlz : t < zs.length := by rw [HL.out]; exact hlt
      obtain ⟨b, off, rfl, _, hc⟩ := HZ.out.2 (by omega)
      have c0 := hc t hlt
      have hbb := HB.out _ (getD_mem 0 hlz)
      have T := Lib.hid (fnvB_take s zs hlz)
      have hf := fnvB_in (zs.take t) s HS.out
      generalize zs.getD t 0 = x at *
      generalize fnvB s (zs.take t) = y at *
      have hx := xor_in y x
      have SE := Lib.hid (show fnvS y x = bits .xor .u32 y x * 16777619 % 4294967296 from rfl)
      clear hc
      go_wp2_with fail
      go_roundw
      case rel => exact ⟨t + 1, by omega, by rw [T.out, SE.out], by go_num, trivial⟩
      case measure => simp [intOf]; omega
    · have hI : ¬ (t : Int) < n := by omega
      obtain rfl : t = n := by omega
      have E := Lib.hid (show zs.take t = zs from List.take_of_length_le (by rw [HL.out]; exact Nat.le_refl _))
      go_wp2_with fail
      go_ret
      rw [E.out]
      exact ⟨rfl, rfl⟩

set_option maxHeartbeats 1000000 in
set_option maxRecDepth 100000 in
theorem sum_any (A : Option Addr) (n c : Nat) (zs : List Int) (w : World) (hz : Nums .u8 w A n zs) (hb : Byt zs) (hn : n ≤ 140737488355328) :
    Calls Try.prog 10 #[.slice A n c] w fun e w' => e = .returned (.int .u32 (fnvB 2166136261 zs)) ∧ w = w' := by
  have M := Lib.hid (more_any 2166136261 A n c zs w (by decide) hz hb hn)
  clear hz hb hn
  go_enter Try.func10, Try.ntmps10
  go_wp2_with fail
  refine M.out.mono ?_
  rintro e w1 ⟨rfl, rfl⟩
  go_wp2_with fail
  go_ret
  exact ⟨rfl, rfl⟩

set_option maxHeartbeats 1000000 in
set_option maxRecDepth 100000 in
theorem awake13_any (w : World) : Calls Try.prog 7 #[] w fun e w' => e = .returned (.bool true) ∧ w = w' := by
  have M := Lib.hid (sum_any none 0 0 [] w ⟨rfl, fun h => absurd h (by decide)⟩ (fun z h => by cases h) (by decide))
  rw [show fnvB 2166136261 [] = 2166136261 from rfl] at M
  go_enter Try.func7, Try.ntmps7
  go_wp2_with fail
  refine M.out.mono ?_
  rintro e w1 ⟨rfl, rfl⟩
  go_wp2_with fail
  go_ret
  exact ⟨rfl, rfl⟩

/-- An export whose lists are short enough to be tried. -/
def smX (x : Ex) : Prop := x.nm.size ≤ 200 ∧ x.ps.length ≤ 60

instance (x : Ex) : Decidable (smX x) := by unfold smX; infer_instance

/-- A list that is tried. -/
def smL (l : List Exx) : Prop := l.length ≤ 60 ∧ ∀ x ∈ l, smX x.1

instance (l : List Exx) : Decidable (smL l) := by unfold smL; infer_instance

set_option maxHeartbeats 4000000 in
set_option maxRecDepth 100000 in
theorem small_any (A : Option Addr) (c B : Nat) (es : List Exx) (w : World) (h : ExpR B w (.slice A es.length c) es) (hn : es.length ≤ 140737488355328) (hs : ∀ e ∈ es, e.1.nm.size ≤ 140737488355328 ∧ e.1.ps.length * 16 ≤ 140737488355328) :
    Calls Try.prog 11 #[.slice A es.length c] w fun e w' => e = .returned (.bool (decide (smL es))) ∧ w = w' := by
  have H := Lib.hid h
  have HS := Lib.hid hs
  clear h hs
  by_cases hl : 60 < es.length
  · have hI : (60 : Int) < es.length := by omega
    have E := Lib.hid (show decide (smL es) = false from decide_eq_false (fun h => by have := h.1; omega))
    go_enter Try.func11, Try.ntmps11
    go_wp2_with fail
    go_ret
    rw [E.out]
    exact ⟨rfl, rfl⟩
  · have hI : ¬ (60 : Int) < es.length := by omega
    go_enter Try.func11, Try.ntmps11
    go_wp2_with fail
    go_loopw [3] (fun i wr => ∃ t : Nat, t ≤ es.length ∧ i = .int .i64 t ∧ (∀ x ∈ es.take t, smX x.1) ∧ wr = w) (fun i _ => es.length - (intOf i).toNat)
    case atStart => exact ⟨0, Nat.zero_le _, rfl, (fun x h => by cases h), rfl⟩
    case round =>
      obtain ⟨t, ht, rfl, hp, rfl⟩ := hrel
      have HP := Lib.hid hp
      clear hp
      by_cases hlt : t < es.length
      · have hJ : (t : Int) < es.length := by omega
        have MM := Lib.hid (getD_mem zEx hlt)
        have TK := Lib.hid (show es.take (t + 1) = es.take t ++ [es.getD t zEx] by rw [List.take_add_one, List.getD_eq_getElem?_getD, List.getElem?_eq_getElem hlt]; rfl)
        obtain ⟨b, off, rfl, hbl, nm, kd, ty, vl, ps, Ap, cp, hX, hpar, hc⟩ := H.out.at hlt
        have hok := HS.out _ MM.out
        rw [hX] at hok TK MM
        have hok1 : nm.size ≤ 140737488355328 := hok.1
        have hok2 : ps.length * 16 ≤ 140737488355328 := hok.2
        have x0 : wr.cell? ⟨b, off + t * 5, none⟩ = some (.string nm) := hc 0 _ rfl
        have x4 : wr.cell? ⟨b, off + t * 5 + 4, none⟩ = some (.slice Ap ps.length cp) := hc 4 _ rfl
        clear hX hok hpar hc
        by_cases h1 : 200 < nm.size
        · have hK : (200 : Int) < nm.size := by omega
          have E := Lib.hid (show decide (smL es) = false from decide_eq_false (fun h => by have := (h.2 _ MM.out).1; simp at this; omega))
          go_wp2_with fail
          go_ret
          rw [E.out]
          exact ⟨rfl, rfl⟩
        · have hK : ¬ (200 : Int) < nm.size := by omega
          by_cases h2 : 60 < ps.length
          · have hK2 : (60 : Int) < ps.length := by omega
            have E := Lib.hid (show decide (smL es) = false from decide_eq_false (fun h => by have := (h.2 _ MM.out).2; simp at this; omega))
            go_wp2_with fail
            go_ret
            rw [E.out]
            exact ⟨rfl, rfl⟩
          · have hK2 : ¬ (60 : Int) < ps.length := by omega
            go_wp2_with fail
            go_roundw
            case rel =>
              refine ⟨t + 1, by omega, by go_num, ?_, trivial⟩
              rw [TK.out]
              intro x hx
              rcases List.mem_append.1 hx with hx | hx
              · exact HP.out x hx
              · obtain rfl := List.mem_singleton.1 hx
                exact ⟨by show nm.size ≤ 200; omega, by show ps.length ≤ 60; omega⟩
            case measure => simp [intOf]; omega
      · have hJ : ¬ (t : Int) < es.length := by omega
        obtain rfl : t = es.length := by omega
        have E := Lib.hid (show decide (smL es) = true from decide_eq_true ⟨by omega, by have := HP.out; rwa [List.take_length] at this⟩)
        go_wp2_with fail
        go_ret
        rw [E.out]
        exact ⟨rfl, rfl⟩
end Go.Proofs.Ythaclkdclkhclaa
