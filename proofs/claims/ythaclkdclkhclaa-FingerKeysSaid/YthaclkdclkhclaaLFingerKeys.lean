/- pascalinelaw13.FingerKeys returns true for every name and every list of exports: what package finger writes for the list, and the key of the name and the list, are what the document's answer has; the page's example holds; its arguments read behind the call as before. Condition: none. -/
import Derived.Test.YthaclkdclkhclaaRows
import Derived.Test.YthaclkdclkhclaaLift
import Derived.Test.YthaclkdclkhclaaFngD
import Derived.SizedLaws
namespace Go.Proofs.Ythaclkdclkhclaa.lawFingerKeys
open Go.ChangeShapes Go.WideShapes Go.ChangeAt Go.RowKit
set_option linter.unusedVariables false
theorem sm_all {es : List Exx} (h : smL es) (hk : ∀ e ∈ es, e.1.nm.size ≤ 140737488355328 ∧ e.1.ps.length * 16 ≤ 140737488355328 ∧ ExOk e.1) : ∀ x ∈ es, ExSm x.1 := fun x hx => ⟨(h.2 x hx).1, (h.2 x hx).2, (hk x hx).2.2⟩

set_option maxHeartbeats 8000000 in
set_option maxRecDepth 100000 in
theorem walk (W : World) (nm : ByteArray) (hnm : nm.size ≤ maxLen) (A : Option Addr) (es : List Exx) (c : Nat) (hE : ExpV W.heap.size W (.slice A es.length c) es) (hm : es.length * 64 ≤ 140737488355328) (hk : ∀ e ∈ es, e.1.nm.size ≤ 140737488355328 ∧ e.1.ps.length * 16 ≤ 140737488355328 ∧ ExOk e.1) :
    Calls Try.prog 4 #[.string nm, .slice A es.length c] W fun e w' => e = .returned (.bool true) ∧ Below W.heap.size W w' := by
  have AW := Lib.hid (awake13_any W)
  have SL := Lib.hid (small_any A c W.heap.size es W hE.toR (by omega) (fun e he => ⟨(hk e he).1, (hk e he).2.1⟩))
  unfold maxLen at hnm
  by_cases hs : smL es
  · rw [decide_eq_true hs] at SL
    by_cases hn : 200 < nm.size
    · have hI : (200 : Int) < nm.size := by omega
      clear hE hk hs
      go_enter Try.func4, Try.ntmps4
      go_wp2_with fail
      refine AW.out.mono ?_
      rintro e w1 ⟨rfl, rfl⟩
      go_wp2_with fail
      refine SL.out.mono ?_
      rintro e w1 ⟨rfl, rfl⟩
      go_wp2_with fail
      go_ret
      exact ⟨rfl, Below.refl _ _⟩
    · have hI : ¬ (200 : Int) < nm.size := by omega
      have X := Lib.hid (sm_all hs hk)
      have hl60 : es.length ≤ 60 := hs.1
      have HE := Lib.hid hE
      have b1 := (Below.refl W.heap.size W).alloc (Nat.le_refl _) (.cells #[.slice none 0 0] wrT)
      have A0 := Lib.hid (wrAt_new W W.heap.size W.heap.size rfl (Nat.le_refl _))
      have B1 := Lib.hid b1
      have WR := Lib.hid (write_any A c es W.heap.size W.heap.size none [] _ A0.out b1.size (by decide) (hE.below b1) X.out hl60)
      have EV := Lib.hid (fun w (hb : Below W.heap.size W w) => show ExpV w.heap.size w (.slice A es.length c) es from (hE.keep hb.size (fun b hb' ht => hb.block b hb')).more hb.size)
      have RB := Lib.hid (fun w (hb : Below W.heap.size W w) => refbytes13_any A c es w (EV.out w hb) X.out hl60)
      have K1 := Lib.hid (fun w (hb : Below W.heap.size W w) => key_any nm A c es w (by omega) (EV.out w hb) X.out hl60)
      have K2 := Lib.hid (fun w (hb : Below W.heap.size W w) => refkey_any nm A c es w (by omega) (EV.out w hb) X.out hl60)
      have LL := Lib.hid (listB_len X.out hl60)
      rw [List.nil_append] at WR
      clear hE hk hs b1 hn
      generalize listB (es.map (·.1)) = LB at *
      generalize fnvB 2166136261 (keyB nm (es.map (·.1))) = KY at *
      go_enter Try.func4, Try.ntmps4
      go_wp2_with fail
      refine AW.out.mono ?_
      rintro e w1 ⟨rfl, rfl⟩
      go_wp2_with fail
      refine SL.out.mono ?_
      rintro e w1 ⟨rfl, rfl⟩
      go_wp2_with fail
      refine WR.out.mono ?_
      rintro e w2 ⟨rfl, hp2⟩
      have B2 := Lib.hid (KeptS.below B1.out hp2.kept B1.out.size A0.out.base')
      obtain ⟨h2, a2, _⟩ := hp2.after
      have BY := Lib.hid (wbytes_any _ _ _ _ w2 a2 (by have := LL.out; omega))
      clear hp2 a2 WR
      go_wp2_with fail
      refine BY.out.mono ?_
      rintro e w3 ⟨A3, c3, rfl, hb3, ho3⟩
      have B3 := Lib.hid (B2.out.trans (hb3.mono B2.out.size))
      have N3 := Lib.hid ho3.nums
      have R3 := Lib.hid (RB.out w3 B3.out)
      clear hb3 ho3 BY RB B2
      go_wp2_with fail
      refine R3.out.mono ?_
      rintro e w4 ⟨A4, c4, rfl, hb4, ho4⟩
      have B4 := Lib.hid (B3.out.trans (hb4.mono B3.out.size))
      have SM := Lib.hid (same_any A3 A4 LB.length LB.length c3 c4 LB LB w4 (by have := LL.out; omega) (N3.out.below hb4) ho4.nums)
      rw [show decide (LB = LB) = true from decide_eq_true rfl] at SM
      clear hb4 ho4 R3 N3 B3
      go_wp2_with fail
      refine SM.out.mono ?_
      rintro e w5 ⟨rfl, hb5⟩
      have B5 := Lib.hid (B4.out.trans (hb5.mono B4.out.size))
      have Q1 := Lib.hid (K1.out w5 B5.out)
      clear hb5 SM B4
      go_wp2_with fail
      refine Q1.out.mono ?_
      rintro e w6 ⟨rfl, hb6⟩
      have B6 := Lib.hid (B5.out.trans (hb6.mono B5.out.size))
      have Q2 := Lib.hid (K2.out w6 B6.out)
      clear hb6 Q1 B5
      go_wp2_with fail
      refine Q2.out.mono ?_
      rintro e w7 ⟨rfl, hb7⟩
      have B7 := Lib.hid (B6.out.trans (hb7.mono B6.out.size))
      clear hb7 Q2 B6
      go_wp2_with fail
      go_ret
      exact ⟨rfl, B7.out⟩
  · rw [decide_eq_false hs] at SL
    clear hE hk hs
    go_enter Try.func4, Try.ntmps4
    go_wp2_with fail
    refine AW.out.mono ?_
    rintro e w1 ⟨rfl, rfl⟩
    go_wp2_with fail
    refine SL.out.mono ?_
    rintro e w1 ⟨rfl, rfl⟩
    go_wp2_with fail
    go_ret
    exact ⟨rfl, Below.refl _ _⟩

set_option maxRecDepth 100000 in
theorem lifted (os : Os) (started : os.Started) (H : Type) (enc : TypeId × Value → H) :
    ReturnsInHanded {} Try.checked os 4 .any (Rows.fingerKeysSpec.pre6 enc Try.prog Try.f4 Rows.fingerKeysRow.domain false) (Rows.fingerKeysSpec.post enc Try.prog Try.f4 false true false false) := by
  refine returnsInHanded_of_change_sized (C := Try.checked) Try.own started (by kernel_rfl) Try.func4
    (ChangeSpec.witness6 (enc := enc) (C := Try.checked) false ⟨#[], #[.string ⟨#[]⟩, .slice none 0 0], []⟩ 8 (by kernel_rfl) (by kernel_rfl) (by kernel_rfl) (by kernel_rfl)) ?_
  intro W base args ds gs before hval0 hW hcnd hsz _
  have hval : ∀ (j : Nat) t v, Try.f4.params[j]? = some t → args[j]? = some v → Value.okWide Try.prog W .any base t v := hval0
  have hW' := hW
  obtain ⟨p, q, hA0, hV, rfl, hfz, hnd⟩ := hW
  have hA : DataW.TrodAll enc Try.prog W 0 (fun _ => true) true Try.f4.params.toList args.toList ds p := hA0
  rw [Try.params4] at hA hval
  obtain ⟨v0, vs0, d0, ds0, p0, q0, hargs, rfl, rfl, h0, r0⟩ := trodAll_cons hA
  obtain ⟨v1, vs1, d1, ds1, p1, q1, rfl, rfl, rfl, h1, r1⟩ := trodAll_cons r0
  obtain ⟨rfl, rfl, rfl⟩ := trodAll_nil r1
  obtain rfl : args = #[v0, v1] := by cases args; simp_all
  clear hA0 hval0
  obtain ⟨s0, rfl, rfl, rfl, w0⟩ := Go.ChangeMaps.open_string Try.underlying9 (hval 0 9 v0 rfl rfl) h0
  obtain ⟨A1, es1, c1, rfl, hO1, hm1, hk1⟩ := open_exs (hval 1 29 v1 rfl rfl) h1 (fun k hk => Nat.le_trans (of_decide_eq_true (List.all_eq_true.1 hsz _ (DataW.weights_mem_each (j := 1) (t := 29) rfl rfl _ hk))) (by decide))
  refine (walk W s0 w0 A1 es1 c1 hO1 hm1 hk1).mono fun e W' ⟨he, hg⟩ => ?_
  subst he
  exact ⟨_, rfl, law_post Try.laidOut Try.mapsRowed Try.slicesFull (by kernel_rfl) rfl (by kernel_rfl) Try.underlying4 rfl hW' hg⟩

theorem over : Rows.fingerKeysRow.holds Try.pinned (OpenSpec.ofChange Rows.fingerKeysSpec) :=
  OpenClaim.holds_of_wide 4 Try.f4 rfl rfl rfl rfl rfl rfl rfl ⟨rfl, rfl, rfl, rfl, rfl⟩ rfl rfl rfl rfl rfl (by kernel_rfl) Try.func4 (by kernel_rfl)
    (of_decide_eq_true (by kernel_rfl)) (by unfold Func.isWrapper; first | (rw [if_pos (by decide +kernel)]; kernel_rfl) | (rw [if_neg (by decide +kernel)]; exact ⟨rfl, rfl⟩))
    (fun os started H enc _ => lifted os started H enc)

theorem proved : Rows.FingerKeysSaid :=
  over
end Go.Proofs.Ythaclkdclkhclaa.lawFingerKeys
