/- WordBytes: for any bytes, any word and any further bytes, Put of package word puts the word's four bytes behind the bytes, and Get reads just four bytes as the word of the answers. No condition. -/
import Derived.Test.YtiapjdfbnfnnmaaRows
import Derived.Test.YtiapjdfbnfnnmaaLift
import Derived.Test.YtiapjdfbnfnnmaaWordB
import Derived.Test.YtiapjdfbnfnnmaaWordD
namespace Go.Proofs.Ytiapjdfbnfnnmaa.lawWordBytes
open Go.ChangeShapes Go.WideShapes Go.ChangeAt Go.RowKit
set_option linter.unusedVariables false
theorem getD_u8 {zs : List Int} (h : ∀ z ∈ zs, (Lit.int .u8 z).wf = true) (j : Nat) : 0 ≤ zs.getD j 0 ∧ zs.getD j 0 ≤ 255 := by
  have := range_u8 h j
  simpa [List.getD] using this

set_option maxHeartbeats 2000000 in
theorem walk (w : World) (A : Option Addr) (n c : Nat) (zs : List Int) (hz : Nums .u8 w A n zs) (hm : n ≤ maxLen) (wz : ∀ z ∈ zs, (Lit.int .u8 z).wf = true) (x : Int) (wx : (Lit.int .u32 x).wf = true)
    (D : Option Addr) (m d : Nat) (ys : List Int) (hy : Nums .u8 w D m ys) (hm2 : m ≤ maxLen) (wy : ∀ z ∈ ys, (Lit.int .u8 z).wf = true) :
    Calls Try.prog 7 #[.slice A n c, .int .u32 x, .slice D m d] w fun e w' => e = .returned (.bool true) ∧ Below w.heap.size w w' := by
  obtain ⟨x0, x1⟩ := bounds_u32 wx
  clear wx
  unfold maxLen at hm hm2
  by_cases hn : 100 < n
  · go_enter Try.func7, Try.ntmps7
    go_wp2_with fail
    refine (awake_any _).mono ?_
    rintro e w1 ⟨rfl, hb1⟩
    go_wp2
    go_ret
    exact ⟨rfl, hb1⟩
  · have hnd : decide ((100 : Int) < (n : Int)) = false := by simp; omega
    by_cases hm3 : 100 < m
    · go_enter Try.func7, Try.ntmps7
      go_wp2_with fail
      refine (awake_any _).mono ?_
      rintro e w1 ⟨rfl, hb1⟩
      go_wp2
      go_ret
      exact ⟨rfl, hb1⟩
    · have hmd : decide ((100 : Int) < (m : Int)) = false := by simp; omega
      have HZ := Lib.hid hz
      have HY := Lib.hid hy
      have WY := Lib.hid wy
      clear hz hy wy wz
      go_enter Try.func7, Try.ntmps7
      go_wp2_with fail
      refine (awake_any _).mono ?_
      rintro e w1 ⟨rfl, hb1⟩
      go_wp2_with (at_builtin; refine wpList_append_nums _ rfl (.tmp 20) (.tmp 21) rfl rowU8 w1.heap.size (.slice (some ⟨w1.heap.size, 0, none⟩) 0 0) 0 [] rfl (owns_built .u8 5 w1 [] _ rfl 0 rfl (by decide) _ (Nat.le_refl _) _ rfl) A n c zs rfl ((HZ.out.below hb1).below ((Below.refl _ _).alloc (Nat.le_refl _) _)) (by omega) (by simp) ?_; intro v2 w2 ho2 hg2 _)
      have hb2 : Below w1.heap.size w1 w2 := Owns.grown_below ((Below.refl _ _).alloc (Nat.le_refl _) _) (owns_built .u8 5 w1 [] _ rfl 0 rfl (by decide) _ (Nat.le_refl _) _ rfl) hg2 (by simp)
      have hB2 : Below w.heap.size w w2 := hb1.trans (hb2.mono hb1.size)
      clear hg2 hb1 hb2
      rw [Nat.zero_add, List.nil_append] at ho2
      obtain ⟨A2, c2, rfl, hz2⟩ := ho2.form
      refine (put_any A2 n c2 _ x w2 x0 x1 (by omega) hz2).mono ?_
      rintro e w3 ⟨A3, c3, rfl, ho3, hb3⟩
      have hB3 : Below w.heap.size w w3 := hB2.trans (hb3.mono hB2.size)
      have hz3 := ho3.nums
      clear hz2 ho2 hb3 hB2 ho3
      have HZ3 := Lib.hid hz3
      clear hz3
      go_wp2_with (at_builtin; refine wpList_append_nums _ rfl (.tmp 26) (.tmp 27) rfl rowU8 w3.heap.size (.slice (some ⟨w3.heap.size, 0, none⟩) 0 0) 0 [] rfl (owns_built .u8 5 w3 [] _ rfl 0 rfl (by decide) _ (Nat.le_refl _) _ rfl) A n c zs rfl ((HZ.out.below hB3).below ((Below.refl _ _).alloc (Nat.le_refl _) _)) (by omega) (by simp) ?_; intro v4 w4 ho4 hg4 _)
      have hb4 : Below w3.heap.size w3 w4 := Owns.grown_below ((Below.refl _ _).alloc (Nat.le_refl _) _) (owns_built .u8 5 w3 [] _ rfl 0 rfl (by decide) _ (Nat.le_refl _) _ rfl) hg4 (by simp)
      have hB4 : Below w.heap.size w w4 := hB3.trans (hb4.mono hB3.size)
      rw [Nat.zero_add, List.nil_append] at ho4
      clear hg4
      refine (refbytes_any x w4 x0 x1).mono ?_
      rintro e w5 ⟨A5, c5, rfl, ho5, hb5⟩
      have hB5 : Below w.heap.size w w5 := hB4.trans (hb5.mono hB4.size)
      have ho4' := ho4.below hb5
      have hz5 := Lib.hid ho5.nums
      have hs5 : w3.heap.size ≤ w5.heap.size := Nat.le_trans hb4.size hb5.size
      clear ho4 ho5
      go_wp2_with (at_builtin; refine wpList_append_nums _ rfl (.tmp 28) (.tmp 30) rfl rowU8 w3.heap.size v4 n zs rfl ho4' A5 4 c5 (bytesOf x) rfl hz5.out (by omega) hs5 ?_; intro v6 w6 ho6 hg6 _)
      have hb6 : Below w3.heap.size w5 w6 := Owns.grown_below (Below.refl _ _) ho4' hg6 hs5
      have hb36 : Below w3.heap.size w3 w6 := (hb4.trans (hb5.mono hb4.size)).trans hb6
      have hB6 : Below w.heap.size w w6 := hB3.trans (hb36.mono hB3.size)
      have HZ6 := Lib.hid (HZ3.out.below hb36)
      obtain ⟨A6, c6, rfl, hz6⟩ := ho6.form
      have HY6 := Lib.hid (HY.out.below hB6)
      clear hg6 hb6 hb36 hB3 hB4 hB5 HZ3 ho6 hz5 ho4' hb4 hb5
      refine (same_any A3 A6 (n + 4) (n + 4) c3 c6 (zs ++ bytesOf x) (zs ++ bytesOf x) w6 (by omega) HZ6.out hz6).mono ?_
      rintro e w7 ⟨rfl, hb7⟩
      have hB7 : Below w.heap.size w w7 := hB6.trans (hb7.mono hB6.size)
      have HY7 := Lib.hid (HY6.out.below hb7)
      clear hz6 HZ6 HY6 hb7 hB6
      have hdt : decide (zs ++ bytesOf x = zs ++ bytesOf x) = true := by simp
      rw [hdt]
      clear hdt
      by_cases h4 : m = 4
      · subst h4
        obtain ⟨hl, hc⟩ := HY7.out
        obtain ⟨b, off, rfl, hb, hcell⟩ := hc (by omega)
        have k0 := hcell 0 (by omega)
        have k1 := hcell 1 (by omega)
        have k2 := hcell 2 (by omega)
        have k3 := hcell 3 (by omega)
        rw [Nat.add_zero] at k0
        obtain ⟨a0, b0⟩ := getD_u8 WY.out 0
        obtain ⟨a1, b1⟩ := getD_u8 WY.out 1
        obtain ⟨a2, b2⟩ := getD_u8 WY.out 2
        obtain ⟨a3, b3⟩ := getD_u8 WY.out 3
        generalize ys.getD 0 0 = z0 at *
        generalize ys.getD 1 0 = z1 at *
        generalize ys.getD 2 0 = z2 at *
        generalize ys.getD 3 0 = z3 at *
        clear hl hc hcell
        go_wp2_with fail
        refine (get_any b off d z0 z1 z2 z3 w7 k0 k1 k2 k3 a0 b0 a1 b1 a2 b2 a3 b3).mono ?_
        rintro e w8 ⟨rfl, hb8⟩
        have hB8 : Below w.heap.size w w8 := hB7.trans (hb8.mono hB7.size)
        rw [← hb8.cell (p := ⟨b, off, none⟩) hb] at k0
        rw [← hb8.cell (p := ⟨b, off + 1, none⟩) hb] at k1
        rw [← hb8.cell (p := ⟨b, off + 2, none⟩) hb] at k2
        rw [← hb8.cell (p := ⟨b, off + 3, none⟩) hb] at k3
        go_wp2_with fail
        refine (refword_any b off d z0 z1 z2 z3 w8 k0 k1 k2 k3 a0 b0 a1 b1 a2 b2 a3 b3).mono ?_
        rintro e w' ⟨rfl, rfl⟩
        go_wp2
        go_ret
        exact ⟨rfl, hB8⟩
      · have hne : ((m : Int) != 4) = true := by simp; omega
        go_wp2_with (go_at_call 28; refine (get_none D m d _ h4 (by omega)).mono ?_; rintro e w' ⟨rfl, rfl⟩)
        go_ret
        exact ⟨rfl, hB7⟩

set_option maxRecDepth 100000 in
theorem lifted (os : Os) (started : os.Started) (H : Type) (enc : TypeId × Value → H) :
    ReturnsInHanded {} Try.checked os 7 .any (Rows.wordBytesSpec.pre6 enc Try.prog Try.f7 Rows.wordBytesRow.domain false) (Rows.wordBytesSpec.post enc Try.prog Try.f7 false true false false) := by
  refine returnsInHanded_of_change (C := Try.checked) Try.own started (by kernel_rfl) Try.func7
    (ChangeSpec.witness6 (enc := enc) (C := Try.checked) false ⟨#[], #[.slice none 0 0, .int .u32 0, .slice none 0 0], []⟩ 8 (by kernel_rfl) (by kernel_rfl) (by kernel_rfl) (by kernel_rfl)) ?_
  intro W base args ds gs before hval0 hW hcnd _
  have hval : ∀ (j : Nat) t v, Try.f7.params[j]? = some t → args[j]? = some v → Value.okWide Try.prog W .any base t v := hval0
  have hW' := hW
  obtain ⟨p, q, hA0, hV, rfl, hfz, hnd⟩ := hW
  have hA : DataW.TrodAll enc Try.prog W 0 (fun _ => true) true Try.f7.params.toList args.toList ds p := hA0
  rw [Try.params7] at hA hval
  obtain ⟨v0, vs0, d0, ds0, p0, q0, hargs, rfl, rfl, h0, r0⟩ := trodAll_cons hA
  obtain ⟨v1, vs1, d1, ds1, p1, q1, rfl, rfl, rfl, h1, r1⟩ := trodAll_cons r0
  obtain ⟨v2, vs2, d2, ds2, p2, q2, rfl, rfl, rfl, h2, r2⟩ := trodAll_cons r1
  obtain ⟨rfl, rfl, rfl⟩ := trodAll_nil r2
  obtain rfl : args = #[v0, v1, v2] := by cases args; simp_all
  clear hA0 hval0
  obtain ⟨A0, n0, c0, zs0, rfl, hz0, hm0, w0⟩ := open_nums Try.underlying35 Try.underlying5 (by kernel_rfl) (hval 0 35 v0 rfl rfl) h0
  obtain ⟨a1, rfl, rfl, rfl, w1⟩ := open_int Try.underlying31 (hval 1 31 v1 rfl rfl) h1
  obtain ⟨A2, n2, c2, zs2, rfl, hz2, hm2, w2⟩ := open_nums Try.underlying35 Try.underlying5 (by kernel_rfl) (hval 2 35 v2 rfl rfl) h2
  refine (walk W A0 n0 c0 zs0 hz0 hm0 w0 a1 w1 A2 n2 c2 zs2 hz2 hm2 w2).mono fun e W' ⟨he, hg⟩ => ?_
  subst he
  exact ⟨_, rfl, law_post Try.laidOut Try.mapsRowed Try.slicesFull (by kernel_rfl) rfl (by kernel_rfl) Try.underlying4 rfl hW' hg⟩

theorem over : Rows.wordBytesRow.holds Try.pinned (OpenSpec.ofChange Rows.wordBytesSpec) :=
  OpenClaim.holds_of_wide 7 Try.f7 rfl rfl rfl rfl rfl rfl rfl ⟨rfl, rfl, rfl, rfl, rfl⟩ rfl rfl rfl rfl rfl (by kernel_rfl) Try.func7 (by kernel_rfl)
    (of_decide_eq_true (by kernel_rfl)) (by unfold Func.isWrapper; first | (rw [if_pos (by decide +kernel)]; kernel_rfl) | (rw [if_neg (by decide +kernel)]; exact ⟨rfl, rfl⟩))
    (fun os started H enc _ => lifted os started H enc)

theorem proved : Rows.WordBytesSaid :=
  over
end Go.Proofs.Ytiapjdfbnfnnmaa.lawWordBytes
