/- pascalinelaw14.SymfileImports returns true for every list of imports and every row of bytes: what Write puts for the list, and what Read takes out of the bytes, what is left and what is wrong with it, are what the document's answer has (lists of more than 100 imports, names of more than 200 bytes, rows of more than 1,000 bytes are let go, as the statement says); the page's example holds; its arguments read behind the call as before. Condition: none. -/
import Derived.Test.YthmjniedfiabhaaRows
import Derived.Test.YthmjniedfiabhaaLift
import Derived.Test.YthmjniedfiabhaaSymN
import Derived.Test.YthmjniedfiabhaaSymX
import Derived.Test.YthmjniedfiabhaaSymR
import Derived.Test.YthmjniedfiabhaaNumsCap
import Derived.SizedLaws
namespace Go.Proofs.Ythmjniedfiabhaa.lawSymfileImports
open Go.ChangeShapes Go.WideShapes Go.ChangeAt Go.RowKit
set_option linter.unusedVariables false
theorem byte_in {z : Int} (h : (Lit.int .u8 z).wf = true) : 0 ≤ z ∧ z ≤ 255 := by
  have m0 : IntKind.u8.min = 0 := by decide
  have m1 : IntKind.u8.max = 255 := by decide
  simp [Lit.wf] at h
  exact ⟨m0 ▸ h.1, m1 ▸ h.2⟩

set_option maxHeartbeats 32000000 in
set_option maxRecDepth 100000 in
theorem walk (W : World) (Al : Option Addr) (l : List Im) (cl : Nat) (hO : ImV W.heap.size W (.slice Al l.length cl) l) (hlm : l.length * 24 ≤ 140737488355328) (hk : ∀ x ∈ l, ImOk x) (A : Option Addr) (n c : Nat) (zs : List Int) (hz : Nums .u8 W A n zs) (hm : n ≤ maxLen) (wz : ∀ z ∈ zs, (Lit.int .u8 z).wf = true) (hcap : n ≤ c) :
    Calls Try.prog 6 #[.slice Al l.length cl, .slice A n c] W fun e w' => e = .returned (.bool true) ∧ Below W.heap.size W w' := by
  have AW := Lib.hid (awake14_any W)
  have HI := Lib.hid hO
  have HK := Lib.hid hk
  have HZ := Lib.hid hz
  have WZ := Lib.hid (show Byt zs from fun z h => byte_in (wz z h))
  unfold maxLen at hm
  clear hO hk hz wz
  by_cases h1 : 100 < l.length
  · have d1 : decide ((100 : Int) < l.length) = true := decide_eq_true (by omega)
    go_enter Try.func6, Try.ntmps6
    go_wp2_with fail
    refine AW.out.mono ?_
    rintro e w1 ⟨rfl, hb1⟩
    have B1 := Lib.hid hb1
    clear hb1
    go_wp2_with fail
    go_ret
    exact ⟨rfl, B1.out⟩
  have d1 : decide ((100 : Int) < l.length) = false := decide_eq_false (by omega)
  by_cases h2 : 1000 < n
  · have d2 : decide ((1000 : Int) < n) = true := decide_eq_true (by omega)
    go_enter Try.func6, Try.ntmps6
    go_wp2_with fail
    refine AW.out.mono ?_
    rintro e w1 ⟨rfl, hb1⟩
    have B1 := Lib.hid hb1
    clear hb1
    go_wp2_with fail
    go_ret
    exact ⟨rfl, B1.out⟩
  have d2 : decide ((1000 : Int) < n) = false := decide_eq_false (by omega)
  have OK := Lib.hid (show RdOk (zs, 0) from ⟨WZ.out, by have := HZ.out.1; show zs.length ≤ 100000; omega, fun h => absurd rfl h⟩)
  have RV := Lib.hid (show RfV W A n c zs 0 from ⟨fun _ => ⟨HZ.out, hcap⟩, fun h => absurd rfl h⟩)
  go_enter Try.func6, Try.ntmps6
  go_wp2_with fail
  refine AW.out.mono ?_
  rintro e w1 ⟨rfl, hb1⟩
  have B1 := Lib.hid hb1
  have I1 := Lib.hid (HI.out.below hb1)
  clear hb1 AW
  go_wp2_with fail
  go_loop [5] (fun i => ∃ t : Nat, t ≤ l.length ∧ i = .int .i64 t ∧ ∀ x ∈ l.take t, x.nm.size ≤ 200) (fun i => l.length - (intOf i).toNat)
  case atStart => exact ⟨0, Nat.zero_le _, rfl, (fun x h => by cases h)⟩
  case round =>
    obtain ⟨t, ht, rfl, hp⟩ := hrel
    have HP := Lib.hid hp
    clear hp
    by_cases hlt : t < l.length
    · have hJ : (t : Int) < l.length := by omega
      have TK := Lib.hid (take_snoc l zI hlt)
      have hok := HK.out _ (getD_mem zI hlt)
      obtain ⟨b, off, rfl, hbl, x0, x1⟩ := I1.out.at hlt
      generalize l.getD t zI = x at *
      obtain ⟨nm, key⟩ := x
      simp only at x0 x1
      have hsz : nm.size ≤ 140737488355328 := hok.1
      clear hok x1
      by_cases h4 : 200 < nm.size
      · have d4 : decide ((200 : Int) < nm.size) = true := decide_eq_true (by omega)
        have h4' : (200 : Int) < nm.size := by omega
        go_wp2_with fail
        go_ret
        exact ⟨rfl, B1.out⟩
      · have d4 : decide ((200 : Int) < nm.size) = false := decide_eq_false (by omega)
        have h4' : ¬ (200 : Int) < nm.size := by omega
        go_wp2_with fail
        go_round
        case rel =>
          refine ⟨t + 1, by omega, by go_num, ?_⟩
          rw [TK.out]
          intro x hx
          rcases List.mem_append.1 hx with hx | hx
          · exact HP.out x hx
          · obtain rfl := List.mem_singleton.1 hx
            show nm.size ≤ 200
            omega
        case measure => simp [intOf]; omega
    · have hJ : ¬ (t : Int) < l.length := by omega
      obtain rfl : t = l.length := by omega
      have SM := Lib.hid (show ∀ x ∈ l, ImSm x from fun x hx => ⟨by have := HP.out x; rw [List.take_length] at this; exact this hx, (HK.out x hx).2⟩)
      have b2 := (Below.refl w1.heap.size w1).alloc (Nat.le_refl _) (.cells #[.slice none 0 0] wrT)
      have A0 := Lib.hid (wrAt_new w1 w1.heap.size w1.heap.size rfl (Nat.le_refl _))
      have B2 := Lib.hid b2
      have WI := Lib.hid (iwrite_any Al cl l w1.heap.size w1.heap.size none [] _ A0.out b2.size (by decide) (I1.out.toV.below b2) SM.out (by omega))
      have LL := Lib.hid (imsB_len SM.out (by omega))
      have RW := Lib.hid (fun y (hb : Below W.heap.size W y) => refiwrite_any Al cl l y (HI.out.below hb).toV SM.out (by omega))
      have AI := Lib.hid (show ∀ g D w, RdAt w g D zs 0 → _ from fun g D w h => iread_any g D (zs, 0) w h OK.out)
      have TT := Lib.hid (fun w (hb : Below W.heap.size W w) => reftake_ims A n c (zs, 0) W w hb RV.out (by omega) OK.out)
      rw [List.nil_append] at WI
      generalize imsB l = LB at *
      clear b2 SM HP
      go_wp2_with fail
      refine WI.out.mono ?_
      rintro e w2 ⟨rfl, hp2⟩
      have B3 := Lib.hid (B1.out.trans ((KeptS.below B2.out hp2.kept B2.out.size A0.out.base').mono B1.out.size))
      obtain ⟨h2', a2, _⟩ := hp2.after
      have BY := Lib.hid (wbytes_any _ _ _ _ w2 a2 (by have := LL.out; omega))
      clear hp2 a2 WI B2 A0
      go_wp2_with fail
      refine BY.out.mono ?_
      rintro e w3 ⟨A3, c3, rfl, hb3, ho3⟩
      have B4 := Lib.hid (B3.out.trans (hb3.mono B3.out.size))
      have N3 := Lib.hid ho3.nums
      have R3 := Lib.hid (RW.out w3 B4.out)
      clear hb3 ho3 BY RW B3
      go_wp2_with fail
      refine R3.out.mono ?_
      rintro e w4 ⟨A4, c4, rfl, hb4, ho4⟩
      have B5 := Lib.hid (B4.out.trans (hb4.mono B4.out.size))
      have SMM := Lib.hid (same_any A3 A4 LB.length LB.length c3 c4 LB LB w4 (by have := LL.out; omega) (N3.out.below hb4) ho4.nums)
      rw [show decide (LB = LB) = true from decide_eq_true rfl] at SMM
      clear hb4 ho4 R3 N3 B4
      go_wp2_with fail
      refine SMM.out.mono ?_
      rintro e w5 ⟨rfl, hb5⟩
      have B6 := Lib.hid (B5.out.trans (hb5.mono B5.out.size))
      have RD := Lib.hid (read_any A n c zs w5 (HZ.out.below B6.out) (by omega))
      clear hb5 SMM B5
      go_wp2_with fail
      refine RD.out.mono ?_
      rintro e w6 ⟨g, D, rfl, hg, hD, hb6, hr6⟩
      have B7 := Lib.hid (B6.out.trans (hb6.mono B6.out.size))
      have HG := Lib.hid (Nat.le_trans B6.out.size hg)
      have Q6 := Lib.hid (AI.out g D w6 hr6)
      clear hb6 hg hD hr6 RD AI B6
      go_wp2_with fail
      refine Q6.out.mono ?_
      rintro e w7 ⟨v1, rfl, hrow, hr7, hk7⟩
      obtain ⟨A1, c1, rfl⟩ := row_form hrow
      have B8 := Lib.hid (KeptS.below B7.out hk7 B7.out.size (fun i hi => by have hi : i = g := hi; have := HG.out; omega))
      have R7 := Lib.hid hr7
      have E7 := Lib.hid (ImV.own hrow)
      have T7 := Lib.hid (TT.out w7 B8.out)
      clear hrow hr7 hk7 Q6 TT B7
      go_wp2_with fail
      refine T7.out.mono ?_
      rintro e w8 ⟨A2, n2, c2, v2, rfl, hrv, hrow, hb8⟩
      obtain ⟨A5, c5, rfl⟩ := row_form hrow
      have b9 := (Below.refl w8.heap.size w8).alloc (Nat.le_refl _) (.cells #[.slice A2 n2 c2, .int .i64 (rdAllI (zs, 0)).2.2] rfT)
      have B9 := Lib.hid ((B8.out.trans (hb8.mono B8.out.size)).trans (b9.mono (Nat.le_trans B8.out.size hb8.size)))
      have R9 := Lib.hid ((R7.out.below hb8).below b9)
      have E9 := Lib.hid ((E7.out.below hb8).below b9)
      have D9 := Lib.hid ((ImV.own hrow).below b9)
      have V9 := Lib.hid (show RfV W A2 n2 c2 (rdAllI (zs, 0)).2.1 (rdAllI (zs, 0)).2.2 from hrv)
      have X9 := Lib.hid (Whole.made w8 rfT #[.slice A2 n2 c2, .int .i64 (rdAllI (zs, 0)).2.2] _ rfl)
      have L64 := Lib.hid (show (rdAllI (zs, 0)).1.length ≤ 64 from by
        have hh : ∀ (k : Nat) (acc : List Im) (st : RSt), (rdIms k acc st).1.length = acc.length + k := by
          intro k
          induction k with
          | zero => intro acc st; rfl
          | succ k ih => intro acc st; show (rdIms k (acc ++ [(rdIm st).1]) (rdIm st).2).1.length = _; rw [ih, List.length_append, List.length_singleton]; omega
        have hg := groupsP_le zs 0 64
        unfold rdAllI
        simp only
        split
        · rw [hh]
          simpa using hg
        · exact Nat.zero_le _)
      clear hrow hrv hb8 b9 T7 B8 R7 E7
      generalize rdAllI (zs, 0) = ra at *
      obtain ⟨rl, rz, re⟩ := ra
      have X6 := Lib.hid (show Whole (w8.alloc (.cells #[.slice A2 n2 c2, .int .i64 re] rfT)) w8.heap.size rfT #[.slice A2 n2 c2, .int .i64 re] from X9.out)
      have R6 := Lib.hid (show RdAt (w8.alloc (.cells #[.slice A2 n2 c2, .int .i64 re] rfT)) g D rz re from R9.out)
      have V6 := Lib.hid (show RfV W A2 n2 c2 rz re from V9.out)
      have N1 : rl.length ≤ 64 := L64.out
      clear X9 R9 V9 L64
      go_wp2_with fail
      generalize w8.alloc (.cells #[.slice A2 n2 c2, .int .i64 re] rfT) = V at *
      generalize w8.heap.size = q at *
      have C := Lib.hid (fun y (hy : Below V.heap.size V y) => show (fun y => Below V.heap.size V y ∧ y.cell? ⟨q, 0, none⟩ = some (.slice A2 n2 c2) ∧ y.cell? ⟨q, 1, none⟩ = some (.int .i64 re)) y from ⟨hy, (X6.out.below hy X6.out.lt).cell 0, (X6.out.below hy X6.out.lt).cell 1⟩)
      have L0 := C.out V.drew (Below.refl _ _).drew
      have ER := Lib.hid (show ∀ y, (fun y => Below V.heap.size V y ∧ y.cell? ⟨q, 0, none⟩ = some (.slice A2 n2 c2) ∧ y.cell? ⟨q, 1, none⟩ = some (.int .i64 re)) y → Calls Try.prog 31 #[.pointer (some ⟨g, 0, none⟩)] y (fun e y' => e = .returned (.int .i64 re) ∧ (fun y => Below V.heap.size V y ∧ y.cell? ⟨q, 0, none⟩ = some (.slice A2 n2 c2) ∧ y.cell? ⟨q, 1, none⟩ = some (.int .i64 re)) y') from fun y hy => (rerr_any g D rz re y (R6.out.below hy.1)).mono (fun e y' h => ⟨h.1, h.2 ▸ hy⟩))
      have RL := Lib.hid (show ∀ y, (fun y => Below V.heap.size V y ∧ y.cell? ⟨q, 0, none⟩ = some (.slice A2 n2 c2) ∧ y.cell? ⟨q, 1, none⟩ = some (.int .i64 re)) y → Calls Try.prog 32 #[.pointer (some ⟨g, 0, none⟩)] y (fun e y' => e = .returned (.int .i64 rz.length) ∧ (fun y => Below V.heap.size V y ∧ y.cell? ⟨q, 0, none⟩ = some (.slice A2 n2 c2) ∧ y.cell? ⟨q, 1, none⟩ = some (.int .i64 re)) y') from fun y hy => (rleft_any g D rz re y (R6.out.below hy.1)).mono (fun e y' h => ⟨h.1, h.2 ▸ hy⟩))
      have LF := Lib.hid (show ∀ y, (fun y => Below V.heap.size V y ∧ y.cell? ⟨q, 0, none⟩ = some (.slice A2 n2 c2) ∧ y.cell? ⟨q, 1, none⟩ = some (.int .i64 re)) y → Calls Try.prog 33 #[.agg #[.slice A2 n2 c2, .int .i64 re]] y (fun e y' => e = .returned (.int .i64 rz.length) ∧ (fun y => Below V.heap.size V y ∧ y.cell? ⟨q, 0, none⟩ = some (.slice A2 n2 c2) ∧ y.cell? ⟨q, 1, none⟩ = some (.int .i64 re)) y') from fun y hy => (refleft_any A2 n2 c2 rz re y (V6.out.below (B9.out.trans (hy.1.mono B9.out.size)))).mono (fun e y' h => ⟨h.1, C.out y' (hy.1.trans (h.2.mono hy.1.size))⟩))
      have UY := Lib.hid (show ∀ y, (fun y => Below V.heap.size V y ∧ y.cell? ⟨q, 0, none⟩ = some (.slice A2 n2 c2) ∧ y.cell? ⟨q, 1, none⟩ = some (.int .i64 re)) y → Calls Try.prog 34 #[.slice A1 rl.length c1, .slice A5 rl.length c5] y (fun e y' => e = .returned (.bool true) ∧ (fun y => Below V.heap.size V y ∧ y.cell? ⟨q, 0, none⟩ = some (.slice A2 n2 c2) ∧ y.cell? ⟨q, 1, none⟩ = some (.int .i64 re)) y') from fun y hy => (uses_any A1 A5 c1 c5 _ _ rl rl y (E9.out.below hy.1) (D9.out.below hy.1) (by omega) (by omega)).mono (fun e y' h => ⟨by rw [h.1, sameI_yes rfl], C.out y' (hy.1.trans (h.2.mono hy.1.size))⟩))
      have dr : (re == re) = true := by simp
      have dz : ((rz.length : Int) == (rz.length : Int)) = true := by simp
      clear R6 V6 E9 D9 X6 OK RV HZ WZ HI HK I1
      go_region_held3 (fun y => Below V.heap.size V y ∧ y.cell? ⟨q, 0, none⟩ = some (.slice A2 n2 c2) ∧ y.cell? ⟨q, 1, none⟩ = some (.int .i64 re))
        (first
          | with_reducible assumption
          | with_reducible exact L0
          | fail)
        (first
          | (go_at_call 31; refine (ER.out _ (by assumption)).mono ?_; rintro e y1 ⟨rfl, hs1⟩)
          | (go_at_call 32; refine (RL.out _ (by assumption)).mono ?_; rintro e y2 ⟨rfl, hs2⟩)
          | (go_at_call 33; refine (LF.out _ (by assumption)).mono ?_; rintro e y3 ⟨rfl, hs3⟩)
          | (go_at_call 34; refine (UY.out _ (by assumption)).mono ?_; rintro e y4 ⟨rfl, hs4⟩))
      all_goals
        rename_i hH
        have BH := Lib.hid (B9.out.trans (hH.1.mono B9.out.size))
        clear hH L0 C ER RL LF UY
        go_wp2_with fail
        go_ret
        exact ⟨rfl, BH.out⟩

set_option maxRecDepth 100000 in
theorem lifted (os : Os) (started : os.Started) (H : Type) (enc : TypeId × Value → H) :
    ReturnsInHanded {} Try.checked os 6 .any (Rows.symfileImportsSpec.pre6 enc Try.prog Try.f6 Rows.symfileImportsRow.domain false) (Rows.symfileImportsSpec.post enc Try.prog Try.f6 false true false false) := by
  refine returnsInHanded_of_change_sized (C := Try.checked) Try.own started (by kernel_rfl) Try.func6
    (ChangeSpec.witness6 (enc := enc) (C := Try.checked) false ⟨#[], #[.slice none 0 0, .slice none 0 0], []⟩ 8 (by kernel_rfl) (by kernel_rfl) (by kernel_rfl) (by kernel_rfl)) ?_
  intro W base args ds gs before hval0 hW hcnd hsz _
  have hval : ∀ (j : Nat) t v, Try.f6.params[j]? = some t → args[j]? = some v → Value.okWide Try.prog W .any base t v := hval0
  have hW' := hW
  obtain ⟨p, q, hA0, hV, rfl, hfz, hnd⟩ := hW
  have hA : DataW.TrodAll enc Try.prog W 0 (fun _ => true) true Try.f6.params.toList args.toList ds p := hA0
  rw [Try.params6] at hA hval
  obtain ⟨v0, vs0, d0, ds0, p0, q0, hargs, rfl, rfl, h0, r0⟩ := trodAll_cons hA
  obtain ⟨v1, vs1, d1, ds1, p1, q1, rfl, rfl, rfl, h1, r1⟩ := trodAll_cons r0
  obtain ⟨rfl, rfl, rfl⟩ := trodAll_nil r1
  obtain rfl : args = #[v0, v1] := by cases args; simp_all
  clear hA0 hval0
  obtain ⟨A0, l0, c0, rfl, hO0, hm0, hk0⟩ := open_ims (hval 0 23 v0 rfl rfl) h0 (fun k hk => Nat.le_trans (of_decide_eq_true (List.all_eq_true.1 hsz _ (DataW.weights_mem_each (j := 0) (t := 23) rfl rfl _ hk))) (by decide))
  obtain ⟨A1, n1, c1, zs1, rfl, hz1, hm1, w1, hc1⟩ := open_nums_cap Try.underlying42 Try.underlying5 (by kernel_rfl) (hval 1 42 v1 rfl rfl) h1
  refine (walk W A0 l0 c0 hO0 hm0 hk0 A1 n1 c1 zs1 hz1 hm1 w1 hc1).mono fun e W' ⟨he, hg⟩ => ?_
  subst he
  exact ⟨_, rfl, law_post Try.laidOut Try.mapsRowed Try.slicesFull (by kernel_rfl) rfl (by kernel_rfl) Try.underlying4 rfl hW' hg⟩

theorem over : Rows.symfileImportsRow.holds Try.pinned (OpenSpec.ofChange Rows.symfileImportsSpec) :=
  OpenClaim.holds_of_wide 6 Try.f6 rfl rfl rfl rfl rfl rfl rfl ⟨rfl, rfl, rfl, rfl, rfl⟩ rfl rfl rfl rfl rfl (by kernel_rfl) Try.func6 (by kernel_rfl)
    (of_decide_eq_true (by kernel_rfl)) (by unfold Func.isWrapper; first | (rw [if_pos (by decide +kernel)]; kernel_rfl) | (rw [if_neg (by decide +kernel)]; exact ⟨rfl, rfl⟩))
    (fun os started H enc _ => lifted os started H enc)

theorem proved : Rows.SymfileImportsSaid :=
  over
end Go.Proofs.Ythmjniedfiabhaa.lawSymfileImports
