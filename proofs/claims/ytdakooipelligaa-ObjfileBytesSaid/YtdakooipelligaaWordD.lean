/- Contracts of package word's bytes: Same, Word, Get, Bytes, Put. -/
import Derived.Test.YtdakooipelligaaWordA
import Derived.Test.YtdakooipelligaaSlices
import Derived.Deep.QuietTactic
import Derived.BigQuiet
namespace Go.Proofs.Ytdakooipelligaa
open Go.ChangeShapes Go.WideShapes Go.ChangeAt Go.RowKit
set_option linter.unusedVariables false

theorem rowU8 : RowOf Try.prog 36 5 .u8 1 := rowOf_mk Try.underlying36 (by kernel_rfl) (by decide)

theorem ret_bool0 {a b : Bool} (h : a = b) : Ending.returned (.bool a) = .returned (.bool b) := by rw [h]

theorem getD_ne {xs ys : List Int} (hl : xs.length = ys.length) {k : Nat} (h : xs.getD k 0 ≠ ys.getD k 0) : xs ≠ ys := fun e => h (by rw [e])

set_option maxHeartbeats 400000 in
theorem same_any (A B : Option Addr) (n m c d : Nat) (xs ys : List Int) (w : World) (hn : n ≤ 4294967296) (hx : Nums .u8 w A n xs) (hy : Nums .u8 w B m ys) :
    Calls Try.prog 12 #[.slice A n c, .slice B m d] w fun e w' => e = .returned (.bool (decide (xs = ys))) ∧ Below w.heap.size w w' := by
  by_cases hnm : n = m
  · subst hnm
    have HX := Lib.hid hx
    have HY := Lib.hid hy
    clear hx hy
    go_enter Try.func12, Try.ntmps12
    go_wp2
    go_loopw [5] (fun i wr => ∃ k : Nat, k ≤ n ∧ i = .int .i64 k ∧ xs.take k = ys.take k ∧ Below w.heap.size w wr) (fun i _ => n - (intOf i).toNat)
    case atStart => exact ⟨0, Nat.zero_le _, rfl, rfl, Below.refl _ _⟩
    case round =>
      obtain ⟨k, hk, rfl, hpre, hbr⟩ := hrel
      by_cases hlt : k < n
      · obtain ⟨hlx, hcx⟩ := HX.out.below hbr
        obtain ⟨hly, hcy⟩ := HY.out.below hbr
        obtain ⟨b1, o1, rfl, hb1, hc1⟩ := hcx (by omega)
        obtain ⟨b2, o2, rfl, hb2, hc2⟩ := hcy (by omega)
        have hk1 := hc1 k hlt
        have hk2 := hc2 k hlt
        have hgx : xs[k]? = some (xs.getD k 0) := by simp [List.getD, show k < xs.length by omega]
        have hgy : ys[k]? = some (ys.getD k 0) := by simp [List.getD, show k < ys.length by omega]
        have HS1 := Lib.hid (show xs.take (k + 1) = xs.take k ++ [xs.getD k 0] by rw [List.take_add_one, hgx]; rfl)
        have HS2 := Lib.hid (show ys.take (k + 1) = ys.take k ++ [ys.getD k 0] by rw [List.take_add_one, hgy]; rfl)
        have HP := Lib.hid hpre
        have HN := Lib.hid (getD_ne (xs := xs) (ys := ys) (k := k) (by omega))
        clear hgx hgy hc1 hc2 hlx hly hcx hcy hpre
        generalize xs.getD k 0 = x at *
        generalize ys.getD k 0 = y at *
        by_cases he : x = y
        · have hne : (x != y) = false := by simp [he]
          have HE := Lib.hid he
          clear he
          go_wp2
          go_quiet (fail)
          go_wp2
          go_roundw
          case rel => exact ⟨k + 1, by omega, by go_num, by rw [HS1.out, HS2.out, HP.out, HE.out], below_drawn hbr _⟩
          case measure => simp [intOf]; omega
        · have hne : (x != y) = true := by simp [he]
          have HE := Lib.hid (HN.out he)
          clear he
          go_wp2
          go_quiet (fail)
          go_wp2
          go_ret
          refine ⟨ret_bool0 ?_, ?_⟩
          · have := HE.out
            simp [this]
          · exact below_drawn hbr _
      · obtain rfl : k = n := by omega
        have HP := Lib.hid hpre
        clear hpre
        go_wp2
        go_ret
        refine ⟨ret_bool0 ?_, hbr⟩
        have h1 := HX.out.1
        have h2 := HY.out.1
        have h3 := HP.out
        rw [List.take_of_length_le (by omega), List.take_of_length_le (by omega)] at h3
        simp [h3]
  · have hne : ((n : Int) != (m : Int)) = true := by simp; omega
    have HL := Lib.hid (show xs ≠ ys from fun e => hnm (by have h1 := hx.1; have h2 := hy.1; rw [e] at h1; omega))
    clear hx hy
    go_enter Try.func12, Try.ntmps12
    go_wp2
    go_ret
    exact ⟨ret_bool0 (by have := HL.out; simp [this]), Below.refl _ _⟩

/-- The word of four bytes, the least one first. -/
def word4 (z0 z1 z2 z3 : Int) : Int := z0 + z1 * 256 + z2 * 65536 + z3 * 16777216

theorem or_low (x y : Int) (i : Nat) (hi : i ≤ 32) (hx0 : 0 ≤ x) (hx : x < 2 ^ i) (hy0 : 0 ≤ y) (hy : y % 2 ^ i = 0) (hx1 : x < 2 ^ 32) (hy1 : y < 2 ^ 32) : bits .or .u32 x y = x + y := by
  have hc : bits .or .u32 x y = bits .or .u32 y x := by simp only [bits, BitVec.or_comm]
  rw [hc, bits_join .u32 32 (by decide) (fun n h0 h1 => by rw [IntKind.wrap_u32]; omega) i y x hy0 hy hy1 hx0 hx hx1]
  omega

/-- A word's bytes, the least one first. -/
def bytesOf (n : Int) : List Int := [n % 256, n / 256 % 256, n / 65536 % 256, n / 16777216 % 256]

set_option maxHeartbeats 800000 in
theorem refbytes_any (n : Int) (w : World) (h0 : 0 ≤ n) (h1 : n ≤ 4294967295) :
    Calls Try.prog 43 #[.int .u32 n] w fun e w' => ∃ A c, e = .returned (.slice A 4 c) ∧ Owns .u8 5 w' w.heap.size (.slice A 4 c) 4 (bytesOf n) ∧ Below w.heap.size w w' := by
  go_enter Try.func43, Try.ntmps43
  go_wp2
  refine wp_loop_rounds 5 ?_
  rw [rounds_succ]
  go_wp2_with (at_builtin; refine wpList_append_nums _ rfl (.tmp 9) (.tmp 13) rfl rowU8 w.heap.size (.slice none 0 0) 0 [] rfl (Owns.nil .u8 5 _ _) (some ⟨w.heap.size, 0, none⟩) 1 1 [n % 256] rfl (nums_built .u8 5 w [n % 256] _ rfl 1 rfl (by decide) _ rfl) (by omega) (by simp) ?_; intro v1 w1 ho1 hg1 _)
  have hb1 : Below w.heap.size w w1 := Owns.grown_below ((Below.refl _ _).alloc (Nat.le_refl _) _) (Owns.nil .u8 5 _ _) hg1 (by simp)
  rw [rounds_succ]
  go_wp2_with (at_builtin; refine wpList_append_nums _ rfl (.tmp 9) (.tmp 13) rfl rowU8 w.heap.size v1 (0 + 1) _ rfl (ho1.alloc _) (some ⟨w1.heap.size, 0, none⟩) 1 1 [n / 256 % 256] rfl (nums_built .u8 5 w1 [n / 256 % 256] _ rfl 1 rfl (by decide) _ rfl) (by omega) (Nat.le_trans hb1.size (by simp)) ?_; intro v2 w2 ho2 hg2 _)
  have hb2 : Below w.heap.size w w2 := Owns.grown_below (hb1.alloc hb1.size _) (ho1.alloc _) hg2 (by have := hb1.size; simp; omega)
  rw [rounds_succ]
  go_wp2_with (at_builtin; refine wpList_append_nums _ rfl (.tmp 9) (.tmp 13) rfl rowU8 w.heap.size v2 (0 + 1 + 1) _ rfl (ho2.alloc _) (some ⟨w2.heap.size, 0, none⟩) 1 1 [n / 256 / 256 % 256] rfl (nums_built .u8 5 w2 [n / 256 / 256 % 256] _ rfl 1 rfl (by decide) _ rfl) (by omega) (Nat.le_trans hb2.size (by simp)) ?_; intro v3 w3 ho3 hg3 _)
  have hb3 : Below w.heap.size w w3 := Owns.grown_below (hb2.alloc hb2.size _) (ho2.alloc _) hg3 (by have := hb2.size; simp; omega)
  rw [rounds_succ]
  go_wp2_with (at_builtin; refine wpList_append_nums _ rfl (.tmp 9) (.tmp 13) rfl rowU8 w.heap.size v3 (0 + 1 + 1 + 1) _ rfl (ho3.alloc _) (some ⟨w3.heap.size, 0, none⟩) 1 1 [n / 256 / 256 / 256 % 256] rfl (nums_built .u8 5 w3 [n / 256 / 256 / 256 % 256] _ rfl 1 rfl (by decide) _ rfl) (by omega) (Nat.le_trans hb3.size (by simp)) ?_; intro v4 w4 ho4 hg4 _)
  have hb4 : Below w.heap.size w w4 := Owns.grown_below (hb3.alloc hb3.size _) (ho3.alloc _) hg4 (by have := hb3.size; simp; omega)
  rw [rounds_succ]
  go_wp2
  go_ret
  obtain ⟨A, c, rfl, hz⟩ := ho4.form
  refine ⟨A, c, rfl, ?_, hb4⟩
  have e : [] ++ [n % 256] ++ [n / 256 % 256] ++ [n / 256 / 256 % 256] ++ [n / 256 / 256 / 256 % 256] = bytesOf n := by
    unfold bytesOf
    simp only [List.nil_append, List.cons_append]
    rw [show n / 256 / 256 = n / 65536 by omega, show n / 65536 / 256 = n / 16777216 by omega]
  rw [← e]
  exact ho4

end Go.Proofs.Ytdakooipelligaa