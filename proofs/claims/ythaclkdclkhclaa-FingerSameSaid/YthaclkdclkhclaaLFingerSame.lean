/- pascalinelaw13.FingerSame returns true for every name and every two lists of exports: package finger calls the lists the same just where the document's answer does, each is the same as itself, and two that are the same have one key; the page's example holds; its arguments read behind the call as before. Condition: none. -/
import Derived.Test.YthaclkdclkhclaaRows
import Derived.Test.YthaclkdclkhclaaLift
import Derived.Test.YthaclkdclkhclaaFngC
import Derived.Test.YthaclkdclkhclaaFngG
import Derived.Test.YthaclkdclkhclaaFngH
import Derived.SizedLaws
namespace Go.Proofs.Ythaclkdclkhclaa.lawFingerSame
open Go.ChangeShapes Go.WideShapes Go.ChangeAt Go.RowKit
set_option linter.unusedVariables false
theorem sm_all {es : List Exx} (h : smL es) (hk : ∀ e ∈ es, e.1.nm.size ≤ 140737488355328 ∧ e.1.ps.length * 16 ≤ 140737488355328 ∧ ExOk e.1) : ∀ x ∈ es, ExSm x.1 := fun x hx => ⟨(h.2 x hx).1, (h.2 x hx).2, (hk x hx).2.2⟩

set_option maxHeartbeats 16000000 in
set_option maxRecDepth 100000 in
theorem walk (W : World) (nm : ByteArray) (hnm : nm.size ≤ maxLen) (A : Option Addr) (es : List Exx) (c : Nat) (hE : ExpV W.heap.size W (.slice A es.length c) es) (hm : es.length * 64 ≤ 140737488355328) (hk : ∀ e ∈ es, e.1.nm.size ≤ 140737488355328 ∧ e.1.ps.length * 16 ≤ 140737488355328 ∧ ExOk e.1)
    (D : Option Addr) (fs : List Exx) (d : Nat) (hF : ExpV W.heap.size W (.slice D fs.length d) fs) (hm2 : fs.length * 64 ≤ 140737488355328) (hk2 : ∀ e ∈ fs, e.1.nm.size ≤ 140737488355328 ∧ e.1.ps.length * 16 ≤ 140737488355328 ∧ ExOk e.1) :
    Calls Try.prog 6 #[.string nm, .slice A es.length c, .slice D fs.length d] W fun e w' => e = .returned (.bool true) ∧ Below W.heap.size W w' := by
  have AW := Lib.hid (awake13_any W)
  have S1 := Lib.hid (small_any A c W.heap.size es W hE.toR (by omega) (fun e he => ⟨(hk e he).1, (hk e he).2.1⟩))
  have S2 := Lib.hid (small_any D d W.heap.size fs W hF.toR (by omega) (fun e he => ⟨(hk2 e he).1, (hk2 e he).2.1⟩))
  unfold maxLen at hnm
  by_cases hs : smL es
  · rw [decide_eq_true hs] at S1
    by_cases hs2 : smL fs
    · rw [decide_eq_true hs2] at S2
      by_cases hn : 200 < nm.size
      · have hI : (200 : Int) < nm.size := by omega
        clear hE hk hs hF hk2 hs2
        go_enter Try.func6, Try.ntmps6
        go_wp2_with fail
        refine AW.out.mono ?_
        rintro e w1 ⟨rfl, rfl⟩
        go_wp2_with fail
        refine S1.out.mono ?_
        rintro e w1 ⟨rfl, rfl⟩
        go_wp2_with fail
        refine S2.out.mono ?_
        rintro e w1 ⟨rfl, rfl⟩
        go_wp2_with fail
        go_ret
        exact ⟨rfl, Below.refl _ _⟩
      · have hI : ¬ (200 : Int) < nm.size := by omega
        have X1 := Lib.hid (sm_all hs hk)
        have X2 := Lib.hid (sm_all hs2 hk2)
        have l1 : es.length ≤ 60 := hs.1
        have l2 : fs.length ≤ 60 := hs2.1
        have E1 := Lib.hid hE.toR
        have E2 := Lib.hid hF.toR
        have EV1 := Lib.hid (fun w (hb : Below W.heap.size W w) => show ExpV w.heap.size w (.slice A es.length c) es from (hE.keep hb.size (fun b hb' ht => hb.block b hb')).more hb.size)
        have EV2 := Lib.hid (fun w (hb : Below W.heap.size W w) => show ExpV w.heap.size w (.slice D fs.length d) fs from (hF.keep hb.size (fun b hb' ht => hb.block b hb')).more hb.size)
        have P1 := Lib.hid (show ∀ x ∈ es, x.1.ps.length * 16 ≤ 140737488355328 from fun x hx => (hk x hx).2.1)
        have P2 := Lib.hid (show ∀ x ∈ fs, x.1.ps.length * 16 ≤ 140737488355328 from fun x hx => (hk2 x hx).2.1)
        have RS := Lib.hid (exsame_any A D c d W.heap.size W.heap.size es fs W E1.out E2.out hm hm2 P1.out P2.out)
        have FS := Lib.hid (fun w (hb : Below W.heap.size W w) => fsame_any A D c d _ _ es fs w (EV1.out w hb).toR (EV2.out w hb).toR hm hm2 P1.out P2.out)
        have FF := Lib.hid (fun w (hb : Below W.heap.size W w) => fsame_any A A c c _ _ es es w (EV1.out w hb).toR (EV1.out w hb).toR hm hm P1.out P1.out)
        rw [alike_yes (l := es.map (·.1)) rfl] at FF
        have K1 := Lib.hid (fun w (hb : Below W.heap.size W w) => key_any nm A c es w (by omega) (EV1.out w hb) X1.out l1)
        have K2 := Lib.hid (fun w (hb : Below W.heap.size W w) => key_any nm D d fs w (by omega) (EV2.out w hb) X2.out l2)
        have EQ := Lib.hid (show alike (es.map (·.1)) (fs.map (·.1)) = true → fnvB 2166136261 (keyB nm (es.map (·.1))) = fnvB 2166136261 (keyB nm (fs.map (·.1))) from fun h => by rw [alike_eq h])
        clear hE hk hs hF hk2 hs2 hn E1 E2 EV1 EV2 P1 P2 X1 X2
        generalize fnvB 2166136261 (keyB nm (es.map (·.1))) = k1 at *
        generalize fnvB 2166136261 (keyB nm (fs.map (·.1))) = k2 at *
        generalize alike (es.map (·.1)) (fs.map (·.1)) = R at *
        cases R with
        | true =>
          have HQ := Lib.hid (EQ.out rfl)
          rw [← HQ.out] at K2
          clear HQ EQ
          go_enter Try.func6, Try.ntmps6
          go_wp2_with fail
          refine AW.out.mono ?_
          rintro e w1 ⟨rfl, rfl⟩
          go_wp2_with fail
          refine S1.out.mono ?_
          rintro e w1 ⟨rfl, rfl⟩
          go_wp2_with fail
          refine S2.out.mono ?_
          rintro e w1 ⟨rfl, rfl⟩
          go_wp2_with fail
          refine RS.out.mono ?_
          rintro e w3 ⟨rfl, hb3⟩
          have B3 := Lib.hid hb3
          have Q2 := Lib.hid (FS.out w3 B3.out)
          clear hb3 RS
          go_wp2_with fail
          refine Q2.out.mono ?_
          rintro e w4 ⟨rfl, hb4⟩
          have B4 := Lib.hid (B3.out.trans (hb4.mono B3.out.size))
          have Q3 := Lib.hid (FF.out w4 B4.out)
          clear hb4 Q2 B3
          go_wp2_with fail
          refine Q3.out.mono ?_
          rintro e w5 ⟨rfl, hb5⟩
          have B5 := Lib.hid (B4.out.trans (hb5.mono B4.out.size))
          have Q5 := Lib.hid (K1.out w5 B5.out)
          clear hb5 Q3 B4
          go_wp2_with fail
          refine Q5.out.mono ?_
          rintro e w6 ⟨rfl, hb6⟩
          have B6 := Lib.hid (B5.out.trans (hb6.mono B5.out.size))
          have Q6 := Lib.hid (K2.out w6 B6.out)
          clear hb6 Q5 B5
          go_wp2_with fail
          refine Q6.out.mono ?_
          rintro e w7 ⟨rfl, hb7⟩
          have B7 := Lib.hid (B6.out.trans (hb7.mono B6.out.size))
          clear hb7 Q6 B6
          go_wp2_with fail
          go_ret
          exact ⟨rfl, B7.out⟩
        | false =>
          clear EQ
          go_enter Try.func6, Try.ntmps6
          go_wp2_with fail
          refine AW.out.mono ?_
          rintro e w1 ⟨rfl, rfl⟩
          go_wp2_with fail
          refine S1.out.mono ?_
          rintro e w1 ⟨rfl, rfl⟩
          go_wp2_with fail
          refine S2.out.mono ?_
          rintro e w1 ⟨rfl, rfl⟩
          go_wp2_with fail
          refine RS.out.mono ?_
          rintro e w3 ⟨rfl, hb3⟩
          have B3 := Lib.hid hb3
          have Q2 := Lib.hid (FS.out w3 B3.out)
          clear hb3 RS
          go_wp2_with fail
          refine Q2.out.mono ?_
          rintro e w4 ⟨rfl, hb4⟩
          have B4 := Lib.hid (B3.out.trans (hb4.mono B3.out.size))
          have Q3 := Lib.hid (FF.out w4 B4.out)
          clear hb4 Q2 B3
          go_wp2_with fail
          refine Q3.out.mono ?_
          rintro e w5 ⟨rfl, hb5⟩
          have B5 := Lib.hid (B4.out.trans (hb5.mono B4.out.size))
          clear hb5 Q3 B4
          go_wp2_with fail
          go_ret
          exact ⟨rfl, B5.out⟩
    · rw [decide_eq_false hs2] at S2
      clear hE hk hs hF hk2 hs2
      go_enter Try.func6, Try.ntmps6
      go_wp2_with fail
      refine AW.out.mono ?_
      rintro e w1 ⟨rfl, rfl⟩
      go_wp2_with fail
      refine S1.out.mono ?_
      rintro e w1 ⟨rfl, rfl⟩
      go_wp2_with fail
      refine S2.out.mono ?_
      rintro e w1 ⟨rfl, rfl⟩
      go_wp2_with fail
      go_ret
      exact ⟨rfl, Below.refl _ _⟩
  · rw [decide_eq_false hs] at S1
    clear hE hk hs hF hk2
    go_enter Try.func6, Try.ntmps6
    go_wp2_with fail
    refine AW.out.mono ?_
    rintro e w1 ⟨rfl, rfl⟩
    go_wp2_with fail
    refine S1.out.mono ?_
    rintro e w1 ⟨rfl, rfl⟩
    go_wp2_with fail
    go_ret
    exact ⟨rfl, Below.refl _ _⟩

set_option maxRecDepth 100000 in
theorem lifted (os : Os) (started : os.Started) (H : Type) (enc : TypeId × Value → H) :
    ReturnsInHanded {} Try.checked os 6 .any (Rows.fingerSameSpec.pre6 enc Try.prog Try.f6 Rows.fingerSameRow.domain false) (Rows.fingerSameSpec.post enc Try.prog Try.f6 false true false false) := by
  refine returnsInHanded_of_change_sized (C := Try.checked) Try.own started (by kernel_rfl) Try.func6
    (ChangeSpec.witness6 (enc := enc) (C := Try.checked) false ⟨#[], #[.string ⟨#[]⟩, .slice none 0 0, .slice none 0 0], []⟩ 8 (by kernel_rfl) (by kernel_rfl) (by kernel_rfl) (by kernel_rfl)) ?_
  intro W base args ds gs before hval0 hW hcnd hsz _
  have hval : ∀ (j : Nat) t v, Try.f6.params[j]? = some t → args[j]? = some v → Value.okWide Try.prog W .any base t v := hval0
  have hW' := hW
  obtain ⟨p, q, hA0, hV, rfl, hfz, hnd⟩ := hW
  have hA : DataW.TrodAll enc Try.prog W 0 (fun _ => true) true Try.f6.params.toList args.toList ds p := hA0
  rw [Try.params6] at hA hval
  obtain ⟨v0, vs0, d0, ds0, p0, q0, hargs, rfl, rfl, h0, r0⟩ := trodAll_cons hA
  obtain ⟨v1, vs1, d1, ds1, p1, q1, rfl, rfl, rfl, h1, r1⟩ := trodAll_cons r0
  obtain ⟨v2, vs2, d2, ds2, p2, q2, rfl, rfl, rfl, h2, r2⟩ := trodAll_cons r1
  obtain ⟨rfl, rfl, rfl⟩ := trodAll_nil r2
  obtain rfl : args = #[v0, v1, v2] := by cases args; simp_all
  clear hA0 hval0
  obtain ⟨s0, rfl, rfl, rfl, w0⟩ := Go.ChangeMaps.open_string Try.underlying9 (hval 0 9 v0 rfl rfl) h0
  obtain ⟨A1, es1, c1, rfl, hO1, hm1, hk1⟩ := open_exs (hval 1 29 v1 rfl rfl) h1 (fun k hk => Nat.le_trans (of_decide_eq_true (List.all_eq_true.1 hsz _ (DataW.weights_mem_each (j := 1) (t := 29) rfl rfl _ hk))) (by decide))
  obtain ⟨A2, es2, c2, rfl, hO2, hm2, hk2⟩ := open_exs (hval 2 29 v2 rfl rfl) h2 (fun k hk => Nat.le_trans (of_decide_eq_true (List.all_eq_true.1 hsz _ (DataW.weights_mem_each (j := 2) (t := 29) rfl rfl _ hk))) (by decide))
  refine (walk W s0 w0 A1 es1 c1 hO1 hm1 hk1 A2 es2 c2 hO2 hm2 hk2).mono fun e W' ⟨he, hg⟩ => ?_
  subst he
  exact ⟨_, rfl, law_post Try.laidOut Try.mapsRowed Try.slicesFull (by kernel_rfl) rfl (by kernel_rfl) Try.underlying4 rfl hW' hg⟩

theorem over : Rows.fingerSameRow.holds Try.pinned (OpenSpec.ofChange Rows.fingerSameSpec) :=
  OpenClaim.holds_of_wide 6 Try.f6 rfl rfl rfl rfl rfl rfl rfl ⟨rfl, rfl, rfl, rfl, rfl⟩ rfl rfl rfl rfl rfl (by kernel_rfl) Try.func6 (by kernel_rfl)
    (of_decide_eq_true (by kernel_rfl)) (by unfold Func.isWrapper; first | (rw [if_pos (by decide +kernel)]; kernel_rfl) | (rw [if_neg (by decide +kernel)]; exact ⟨rfl, rfl⟩))
    (fun os started H enc _ => lifted os started H enc)

theorem proved : Rows.FingerSameSaid :=
  over
end Go.Proofs.Ythaclkdclkhclaa.lawFingerSame
