/- WordReckons: for any numbers, Sum, Times and Minus of package word go round as the answers' reckoning does. No condition. -/
import Derived.Test.YtiapjdfbnfnnmaaRows
import Derived.Test.YtiapjdfbnfnnmaaLift
import Derived.Test.YtiapjdfbnfnnmaaWordB
namespace Go.Proofs.Ytiapjdfbnfnnmaa.lawWordReckons
open Go.ChangeShapes Go.WideShapes Go.ChangeAt Go.RowKit
set_option linter.unusedVariables false
theorem sum32_ge (zs : List Int) : -2147483648 ≤ sum32 zs ∧ sum32 zs ≤ 2147483647 := by
  unfold sum32
  rcases List.eq_nil_or_concat zs with rfl | ⟨l, z, rfl⟩
  · decide
  · rw [List.concat_eq_append, List.foldl_append]
    exact ⟨wrap32_ge _, wrap32_le _⟩
theorem mul32_ge (zs : List Int) : -2147483648 ≤ mul32 zs ∧ mul32 zs ≤ 2147483647 := by
  unfold mul32
  rcases List.eq_nil_or_concat zs with rfl | ⟨l, z, rfl⟩
  · decide
  · rw [List.concat_eq_append, List.foldl_append]
    exact ⟨wrap32_ge _, wrap32_le _⟩
theorem getD_range {zs : List Int} (h : ∀ z ∈ zs, (Lit.int .i32 z).wf = true) (j : Nat) : -2147483648 ≤ zs.getD j 0 ∧ zs.getD j 0 ≤ 2147483647 := by
  have := range_i32 h j
  simpa [List.getD] using this

set_option maxHeartbeats 2000000 in
theorem walk (w : World) (a : Int) (wa : (Lit.int .i32 a).wf = true) (b : Int) (wb : (Lit.int .i32 b).wf = true) (A : Option Addr) (n c : Nat) (zs : List Int)
    (hz : Nums .i32 w A n zs) (hm : n ≤ maxLen) (wz : ∀ z ∈ zs, (Lit.int .i32 z).wf = true) :
    Calls Try.prog 3 #[.int .i32 a, .int .i32 b, .slice A n c] w fun e w' => e = .returned (.bool true) ∧ Below w.heap.size w w' := by
  obtain ⟨a0, a1⟩ := bounds_i32 wa
  obtain ⟨b0, b1⟩ := bounds_i32 wb
  clear wa wb
  unfold maxLen at hm
  by_cases hn : 300 < n
  · go_enter Try.func3, Try.ntmps3
    go_wp2_with fail
    refine (awake_any _).mono ?_
    rintro e w1 ⟨rfl, hb1⟩
    go_wp2
    go_ret
    exact ⟨rfl, hb1⟩
  · have HZ := Lib.hid hz
    have HW := Lib.hid wz
    clear hz wz
    go_enter Try.func3, Try.ntmps3
    go_wp2_with fail
    refine (awake_any _).mono ?_
    rintro e w1 ⟨rfl, hb1⟩
    have HZ1 := Lib.hid (HZ.out.below hb1)
    clear HZ
    go_wp2
    go_loop [7, 8, 9] (fun s p i => ∃ k : Nat, k ≤ n ∧ i = .int .i64 k ∧ s = .int .i32 (sum32 (zs.take k)) ∧ p = .int .i32 (mul32 (zs.take k))) (fun _ _ i => n - (intOf i).toNat)
    case atStart => exact ⟨0, Nat.zero_le _, rfl, rfl, rfl⟩
    case round =>
      obtain ⟨k, hk, rfl, rfl, rfl⟩ := hrel
      obtain ⟨s0, s1⟩ := sum32_ge (zs.take k)
      obtain ⟨p0, p1⟩ := mul32_ge (zs.take k)
      by_cases hlt : k < n
      · obtain ⟨hl, hc⟩ := HZ1.out
        obtain ⟨B, off, rfl, hB, hcell⟩ := hc (by omega)
        have hck := hcell k hlt
        obtain ⟨z0, z1⟩ := getD_range HW.out k
        have E1 := Lib.hid (sum32_step zs k (by omega))
        have E2 := Lib.hid (mul32_step zs k (by omega))
        generalize zs.getD k 0 = z at *
        clear hl hc hcell
        go_wp2_with (first
          | (go_at_call 10; refine (round_any _ _).mono ?_; rintro e w' ⟨rfl, rfl⟩)
          | (go_at_call 11; refine (reftimes_any _ _ _ p0 p1 z0 z1).mono ?_; rintro e w' ⟨rfl, rfl⟩))
        go_round
        case rel => exact ⟨k + 1, by omega, by go_num, by rw [E1.out], by rw [E2.out]⟩
        case measure => simp [intOf]; omega
      · obtain rfl : k = n := by omega
        have hl := HZ1.out.1
        have T := Lib.hid (List.take_of_length_le (l := zs) (i := k) (by omega))
        clear hl
        go_wp2_with fail
        refine (sum_any _ _ _ zs _ (by omega) HZ1.out).mono ?_
        rintro e w' ⟨rfl, rfl⟩
        rw [T.out]
        go_wp2_with fail
        refine (times_any _ _ _ zs _ (by omega) HZ1.out).mono ?_
        rintro e w' ⟨rfl, rfl⟩
        go_wp2_with (first
          | (go_at_call 14; refine (minus_any _ _ _).mono ?_; rintro e w' ⟨rfl, rfl⟩)
          | (go_at_call 10; refine (round_any _ _).mono ?_; rintro e w' ⟨rfl, rfl⟩))
        refine (times_any _ 2 2 _ _ (by omega) (ints_two' _ _ _ _ _ (by simp))).mono ?_
        rintro e w' ⟨rfl, rfl⟩
        have e1 : mul32 [a, b] = wrap32 (a * b) := by rw [mul32_two, wrap32_mul, Int.one_mul]
        rw [e1]
        clear e1
        go_wp2_with fail
        refine (reftimes_any _ _ _ a0 a1 b0 b1).mono ?_
        rintro e w' ⟨rfl, rfl⟩
        go_wp2_with fail
        refine (sum_any _ 2 2 _ _ (by omega) (ints_two' _ _ _ _ _ (by simp))).mono ?_
        rintro e w' ⟨rfl, rfl⟩
        have e2 : sum32 [a, b] = wrap32 (a + b) := by rw [sum32_two, wrap32_add, Int.zero_add]
        rw [e2]
        clear e2
        go_wp2_with (go_at_call 10; refine (round_any _ _).mono ?_; rintro e w' ⟨rfl, rfl⟩)
        go_ret
        exact ⟨rfl, (hb1.alloc hb1.size _).alloc (by have := hb1.size; simp; omega) _⟩

set_option maxRecDepth 100000 in
theorem lifted (os : Os) (started : os.Started) (H : Type) (enc : TypeId × Value → H) :
    ReturnsInHanded {} Try.checked os 3 .any (Rows.wordReckonsSpec.pre6 enc Try.prog Try.f3 Rows.wordReckonsRow.domain false) (Rows.wordReckonsSpec.post enc Try.prog Try.f3 false true false false) := by
  refine returnsInHanded_of_change (C := Try.checked) Try.own started (by kernel_rfl) Try.func3
    (ChangeSpec.witness6 (enc := enc) (C := Try.checked) false ⟨#[], #[.int .i32 0, .int .i32 0, .slice none 0 0], []⟩ 8 (by kernel_rfl) (by kernel_rfl) (by kernel_rfl) (by kernel_rfl)) ?_
  intro W base args ds gs before hval0 hW hcnd _
  have hval : ∀ (j : Nat) t v, Try.f3.params[j]? = some t → args[j]? = some v → Value.okWide Try.prog W .any base t v := hval0
  have hW' := hW
  obtain ⟨p, q, hA0, hV, rfl, hfz, hnd⟩ := hW
  have hA : DataW.TrodAll enc Try.prog W 0 (fun _ => true) true Try.f3.params.toList args.toList ds p := hA0
  rw [Try.params3] at hA hval
  obtain ⟨v0, vs0, d0, ds0, p0, q0, hargs, rfl, rfl, h0, r0⟩ := trodAll_cons hA
  obtain ⟨v1, vs1, d1, ds1, p1, q1, rfl, rfl, rfl, h1, r1⟩ := trodAll_cons r0
  obtain ⟨v2, vs2, d2, ds2, p2, q2, rfl, rfl, rfl, h2, r2⟩ := trodAll_cons r1
  obtain ⟨rfl, rfl, rfl⟩ := trodAll_nil r2
  obtain rfl : args = #[v0, v1, v2] := by cases args; simp_all
  clear hA0 hval0
  obtain ⟨a0, rfl, rfl, rfl, w0⟩ := open_int Try.underlying21 (hval 0 21 v0 rfl rfl) h0
  obtain ⟨a1, rfl, rfl, rfl, w1⟩ := open_int Try.underlying21 (hval 1 21 v1 rfl rfl) h1
  obtain ⟨A2, n2, c2, zs2, rfl, hz2, hm2, w2⟩ := open_nums Try.underlying22 Try.underlying21 (by kernel_rfl) (hval 2 22 v2 rfl rfl) h2
  refine (walk W a0 w0 a1 w1 A2 n2 c2 zs2 hz2 hm2 w2).mono fun e W' ⟨he, hg⟩ => ?_
  subst he
  exact ⟨_, rfl, law_post Try.laidOut Try.mapsRowed Try.slicesFull (by kernel_rfl) rfl (by kernel_rfl) Try.underlying4 rfl hW' hg⟩

theorem over : Rows.wordReckonsRow.holds Try.pinned (OpenSpec.ofChange Rows.wordReckonsSpec) :=
  OpenClaim.holds_of_wide 3 Try.f3 rfl rfl rfl rfl rfl rfl rfl ⟨rfl, rfl, rfl, rfl, rfl⟩ rfl rfl rfl rfl rfl (by kernel_rfl) Try.func3 (by kernel_rfl)
    (of_decide_eq_true (by kernel_rfl)) (by unfold Func.isWrapper; first | (rw [if_pos (by decide +kernel)]; kernel_rfl) | (rw [if_neg (by decide +kernel)]; exact ⟨rfl, rfl⟩))
    (fun os started H enc _ => lifted os started H enc)

theorem proved : Rows.WordReckonsSaid :=
  over
end Go.Proofs.Ytiapjdfbnfnnmaa.lawWordReckons
