/- Package frame: the answers' Grow; the page's example; the three laws. -/
import Derived.Test.YtdpkkfmnnegpiaaFrmA
import Derived.Test.YtdpkkfmnnegpiaaLaid
import Derived.BigQuiet
import Derived.Deep.QuietTactic
namespace Go.Proofs.Ytdpkkfmnnegpiaa
open Go.ChangeShapes Go.WideShapes Go.ChangeAt Go.RowKit
set_option linter.unusedVariables false
set_option linter.unusedSimpArgs false

set_option maxHeartbeats 4000000 in
set_option maxRecDepth 100000 in
theorem refgrow_any (was size : Int) (w : World) (hw : 0 ≤ was ∧ was ≤ 16384) :
    Calls Try.prog 7 #[.int .i64 was, .int .i64 size] w fun e w' => e = .returned (.tuple #[.int .i64 (nextP was size), .int .i64 (codeP was size)]) ∧ w = w' := by
  by_cases h1 : size < 0
  · have R := Lib.hid (grow_size (was := was) (size := size) (.inl h1))
    have d0 : decide (size < 0) = true := decide_eq_true h1
    clear hw
    generalize nextP was size = n at *
    generalize codeP was size = c at *
    go_enter Try.func7, Try.ntmps7
    go_wp2_with fail
    go_ret2
    rw [R.out.1, R.out.2]
    exact ⟨rfl, rfl⟩
  have d0 : decide (size < 0) = false := decide_eq_false h1
  by_cases h2 : size > 16384
  · have R := Lib.hid (grow_size (was := was) (size := size) (.inr h2))
    have d1 : decide (16384 < size) = true := decide_eq_true h2
    clear hw
    generalize nextP was size = n at *
    generalize codeP was size = c at *
    go_enter Try.func7, Try.ntmps7
    go_wp2_with fail
    go_ret2
    rw [R.out.1, R.out.2]
    exact ⟨rfl, rfl⟩
  have d1 : decide (16384 < size) = false := decide_eq_false h2
  have hs : ¬ (size < 0 ∨ size > 16384) := by omega
  have hu := up4_in (s := size) (by omega)
  have HD := Lib.hid (grow_data (was := was) hs)
  have HO := Lib.hid (grow_ok (was := was) hs)
  generalize nextP was size = n at *
  generalize codeP was size = c at *
  generalize up4 size = u at *
  go_enter Try.func7, Try.ntmps7
  go_wp2_with fail
  clear d0 d1 h1 h2
  go_loopw [1] (fun i wr => ∃ t : Int, size ≤ t ∧ t ≤ u ∧ i = .int .i64 t ∧ w = wr) (fun i _ => (u - intOf i).toNat)
  case atStart => exact ⟨size, by omega, by omega, rfl, rfl⟩
  case round =>
    obtain ⟨t, ht1, ht2, rfl, rfl⟩ := hrel
    have m0 : t.tmod 4 = t % 4 := Int.tmod_eq_emod_of_nonneg (by omega)
    by_cases hz : t % 4 = 0
    · have dz : (t % 4 != 0) = false := by simp [hz]
      have dz2 : (t % 4 == 0) = true := by simp [hz]
      obtain rfl : t = u := by omega
      clear hz
      by_cases h3 : was + t > 16384
      · have R := Lib.hid (HD.out (by omega))
        have d3 : decide (16384 < was + t) = true := decide_eq_true h3
        clear HD HO
        go_wp2_with fail
        go_ret2
        rw [R.out.1, R.out.2]
        exact ⟨rfl, rfl⟩
      · have R := Lib.hid (HO.out (by omega))
        have d3 : decide (16384 < was + t) = false := decide_eq_false h3
        clear HD HO
        go_wp2_with fail
        go_ret2
        rw [R.out.1, R.out.2]
        exact ⟨rfl, rfl⟩
    · have dz : (t % 4 != 0) = true := by simp [hz]
      have dz2 : (t % 4 == 0) = false := by simp [hz]
      have hlt : t + 1 ≤ u := by omega
      go_wp2_with fail
      go_roundw
      case rel => exact ⟨t + 1, by omega, hlt, by go_num, trivial⟩
      case measure => simp [intOf]; omega

set_option maxHeartbeats 4000000 in
set_option maxRecDepth 100000 in
theorem awake18_any (w : World) :
    Calls Try.prog 6 #[] w fun e w' => e = .returned (.bool true) ∧ Below w.heap.size w w' := by
  have B0 := Lib.hid ((Below.refl w.heap.size w).alloc (Nat.le_refl _) (.cells #[.int .i64 0] frT))
  have L0 := Lib.hid (local_any w.heap.size 0 4 _ (Whole.made w frT #[.int .i64 0] _ rfl) (by unfold UseP; omega))
  have L1 := Lib.hid (fun y (h : Whole y w.heap.size frT #[.int .i64 4]) => local_any w.heap.size 4 10 y h (by unfold UseP; omega))
  have P0 := Lib.hid (fun y => param_any 0 2 y)
  have e0 : partP (codeP 0 4) (-nextP 0 4) = -4 ∧ codeP 0 4 = 0 ∧ nextP 0 4 = 4 := by decide
  have e1 : partP (codeP 4 10) (-nextP 4 10) = -16 ∧ codeP 4 10 = 0 := by decide
  have e2 : parP 0 2 = 16 ∧ parE 0 2 = 0 := by decide
  rw [e0.1, e0.2.1, e0.2.2] at L0
  rw [e1.1, e1.2] at L1
  rw [e2.1, e2.2] at P0
  clear e0 e1 e2
  go_enter Try.func6, Try.ntmps6
  go_wp2_with fail
  refine L0.out.mono ?_
  rintro e w1 ⟨rfl, hw, hc⟩
  have B1 := Lib.hid (show Below w.heap.size w w1 from by
    rcases hc with rfl | ⟨u, rfl⟩
    · exact B0.out
    · exact B0.out.setCell (Nat.le_refl _) _)
  have W1 := Lib.hid hw
  clear hw hc L0 B0
  go_wp2_with fail
  refine (L1.out _ W1.out).mono ?_
  rintro e w2 ⟨rfl, hw, hc⟩
  have B2 := Lib.hid (show Below w.heap.size w w2 from by
    rcases hc with rfl | ⟨u, rfl⟩
    · exact B1.out
    · exact B1.out.setCell (Nat.le_refl _) _)
  clear hw hc L1 B1 W1
  go_wp2_with fail
  refine (P0.out _).mono ?_
  rintro e w3 ⟨rfl, rfl⟩
  go_wp2_with fail
  go_ret
  exact ⟨rfl, B2.out⟩

set_option maxHeartbeats 4000000 in
set_option maxRecDepth 100000 in
theorem params_walk (w : World) (i many a b : Int) :
    Calls Try.prog 4 #[.int .i64 i, .int .i64 many, .agg #[.int .i64 a, .int .i64 b]] w fun e w' => e = .returned (.bool true) ∧ Below w.heap.size w w' := by
  have B0 := Lib.hid ((Below.refl w.heap.size w).alloc (Nat.le_refl _) (.cells #[.int .i64 a, .int .i64 b] 33))
  have AW := Lib.hid (awake18_any (w.alloc (.cells #[.int .i64 a, .int .i64 b] 33)))
  have K := Lib.hid (Whole.made w 33 #[.int .i64 a, .int .i64 b] _ rfl)
  have PA := Lib.hid (fun y => param_any i many y)
  have PB := Lib.hid (fun y => refparam_any i many y)
  have GA := Lib.hid (fun y => gone_any many y)
  have NA := Lib.hid (fun y => need_any a b y)
  have m1 : min (max many 0) 16 = limP many 16 := lim_b many (by decide)
  have m2 : min (max a 0) 16384 = limP a 16384 := lim_b a (by decide)
  have m3 : min (max b 0) 16384 = limP b 16384 := lim_b b (by decide)
  have l1 := lim_in many (m := 16) (by decide)
  have l2 := lim_in a (m := 16384) (by decide)
  have l3 := lim_in b (m := 16384) (by decide)
  generalize parP i many = p at *
  generalize parE i many = pe at *
  generalize limP many 16 = x at *
  generalize limP a 16384 = y at *
  generalize limP b 16384 = z at *
  have q0 : (p == p) = true := by simp
  have q1 : (pe == pe) = true := by simp
  go_enter Try.func4, Try.ntmps4
  go_wp2_with fail
  refine AW.out.mono ?_
  rintro e w1 ⟨rfl, hb⟩
  have k0 : w1.cell? ⟨w.heap.size, 0, none⟩ = some (.int .i64 a) := (K.out.below hb K.out.lt).cell 0
  have k1 : w1.cell? ⟨w.heap.size, 1, none⟩ = some (.int .i64 b) := (K.out.below hb K.out.lt).cell 1
  have B1 := Lib.hid (B0.out.trans (hb.mono B0.out.size))
  clear hb AW B0 K
  go_wp2_with fail
  go_quiet (fail)
  rename_i nq
  have B2 := Lib.hid (below_drawn B1.out nq)
  clear k0 k1 B1
  generalize w1.drewN nq = y2 at *
  go_wp2_with fail
  refine (PA.out _).mono ?_
  rintro e y3 ⟨rfl, rfl⟩
  go_wp2_with fail
  refine (PB.out _).mono ?_
  rintro e y3 ⟨rfl, rfl⟩
  go_wp2_with fail
  refine (GA.out _).mono ?_
  rintro e y3 ⟨rfl, rfl⟩
  go_wp2_with fail
  refine (NA.out _).mono ?_
  rintro e y3 ⟨rfl, rfl⟩
  go_wp2_with fail
  go_ret
  exact ⟨rfl, B2.out⟩

/-- What Local and Global leave. -/
theorem one_cell {w w' : World} {g : Nat} (h : w' = w ∨ ∃ u, w' = w.setCell ⟨g, 0, none⟩ u) : (∀ {B : Nat} {a : World}, Below B a w → B ≤ g → Below B a w') ∧ (∀ {k : Nat} {t : TypeId} {cs : Array Value}, Whole w k t cs → k ≠ g → Whole w' k t cs) := by
  rcases h with rfl | ⟨u, rfl⟩
  · exact ⟨fun h _ => h, fun h _ => h⟩
  · exact ⟨fun h hB => h.setCell hB u, fun h hk => h.far (p := ⟨g, 0, none⟩) hk u⟩

set_option maxHeartbeats 16000000 in
set_option maxRecDepth 100000 in
theorem places_walk (w : World) (A : Option Addr) (n c : Nat) (zs : List Int) (hz : Nums .i64 w A n zs) (hm : n ≤ maxLen) :
    Calls Try.prog 3 #[.slice A n c] w fun e w' => e = .returned (.bool true) ∧ Below w.heap.size w w' := by
  have AW := Lib.hid (awake18_any w)
  have HZ := Lib.hid hz
  unfold maxLen at hm
  clear hz
  go_enter Try.func3, Try.ntmps3
  go_wp2_with fail
  refine AW.out.mono ?_
  rintro e w1 ⟨rfl, hb⟩
  have B1 := Lib.hid hb
  clear hb AW
  go_wp2_with fail
  have F1 := Lib.hid ((Whole.made w1 frT #[.int .i64 0] _ rfl).alloc (.cells #[.int .i64 0] dtT))
  have D1 := Lib.hid (Whole.made (w1.alloc (.cells #[.int .i64 0] frT)) dtT #[.int .i64 0] (w1.heap.size + 1) (by simp))
  have B2 := Lib.hid ((B1.out.alloc B1.out.size (.cells #[.int .i64 0] frT)).alloc (Nat.le_trans B1.out.size (by simp)) (.cells #[.int .i64 0] dtT))
  have G1 := B1.out.size
  clear B1
  generalize (w1.alloc (.cells #[.int .i64 0] frT)).alloc (.cells #[.int .i64 0] dtT) = w2 at *
  generalize w1.heap.size = g at *
  go_loopw [5, 6] (fun s i wr => ∃ (t : Nat) (was : Int), t ≤ n ∧ s = .int .i64 was ∧ i = .int .i64 t ∧ UseP was ∧ Whole wr g frT #[.int .i64 was] ∧ Whole wr (g + 1) dtT #[.int .i64 was] ∧ Below w.heap.size w wr) (fun _ i _ => n - (intOf i).toNat)
  case atStart => exact ⟨0, 0, Nat.zero_le _, rfl, rfl, by unfold UseP; omega, F1.out, D1.out, B2.out⟩
  case round =>
    obtain ⟨t, was, ht, rfl, rfl, hu, hf, hd, hb⟩ := hrel
    have FW := Lib.hid hf
    have DW := Lib.hid hd
    have BW := Lib.hid hb
    have hg := G1
    have HU := Lib.hid hu
    clear hf hd hb F1 D1 B2 hu
    generalize n - (intOf (.int .i64 (t : Int))).toNat = mm at *
    by_cases h0 : t < n
    case neg =>
      have hI : ¬ ((t : Int) < n) := by omega
      clear h0
      go_wp2_with fail
      go_ret
      exact ⟨rfl, BW.out⟩
    have hI : (t : Int) < n := by omega
    by_cases h1 : t < 200
    case neg =>
      have hJ : ¬ ((t : Int) < 200) := by omega
      clear h0 h1
      go_wp2_with fail
      go_ret
      exact ⟨rfl, BW.out⟩
    have hJ : (t : Int) < 200 := by omega
    obtain ⟨b, off, hA, hbl, hx⟩ := HZ.out.2 (by omega)
    subst hA
    have X := Lib.hid (hx t h0)
    generalize zs.getD t 0 = z at *
    have x00 := X
    have x0 : wr.cell? ⟨b, off + t, none⟩ = some (.int .i64 z) := (BW.out.cell (p := ⟨b, off + t, none⟩) hbl).trans X.out
    have UN := Lib.hid (next_use (size := z) HU.out)
    have UI := UN.out.1
    have RG := Lib.hid (fun y => refgrow_any was z y HU.out.1)
    have RL := Lib.hid (fun y h => local_any g was z y h HU.out)
    have RD := Lib.hid (fun y h => global_any (g + 1) was z y h HU.out)
    clear hx X HU
    generalize nextP was z = n' at *
    generalize codeP was z = c' at *
    have q0 : (c' != c') = false := by simp
    have q1 : (n' != n') = false := by simp
    have q2 : (was != was) = false := by simp
    have q3 : (-n' != -n') = false := by simp
    by_cases hc : c' = 0
    · subst hc
      rw [part_ok] at RL RD
      clear q0
      go_wp2_with fail
      refine (RG.out _).mono ?_
      rintro e y1 ⟨rfl, rfl⟩
      go_wp2_with fail
      refine (RL.out _ FW.out).mono ?_
      rintro e y1 ⟨rfl, hw, hc⟩
      have FY := Lib.hid hw
      have DY := Lib.hid ((one_cell hc).2 DW.out (by omega))
      have BY := Lib.hid ((one_cell hc).1 BW.out hg)
      have x1 : y1.cell? ⟨b, off + t, none⟩ = some (.int .i64 z) := ((BY.out).cell (p := ⟨b, off + t, none⟩) hbl).trans x00.out
      clear hw hc x0
      go_wp2_with fail
      refine (RD.out _ DY.out).mono ?_
      rintro e y2 ⟨rfl, hw, hc⟩
      have DZ := Lib.hid hw
      have FZ := Lib.hid ((one_cell hc).2 FY.out (by omega))
      have BZ := Lib.hid ((one_cell hc).1 BY.out (by omega))
      have k0 : y2.cell? ⟨g, 0, none⟩ = some (.int .i64 n') := FZ.out.cell 0
      have k1 : y2.cell? ⟨g + 1, 0, none⟩ = some (.int .i64 n') := DZ.out.cell 0
      clear hw hc x1
      go_wp2_with fail
      go_roundw
      case rel => exact ⟨t + 1, n', by omega, rfl, by go_num, UN.out, FZ.out, DZ.out, BZ.out⟩
      case measure => simp [intOf]; omega
    · have e0 : (c' == 0) = false := beq_eq_false_iff_ne.2 hc
      have e1 : (c' != 0) = true := by simp [hc]
      rw [part_no hc] at RL RD
      clear hc
      go_wp2_with fail
      refine (RG.out _).mono ?_
      rintro e y1 ⟨rfl, rfl⟩
      go_wp2_with fail
      refine (RL.out _ FW.out).mono ?_
      rintro e y1 ⟨rfl, hw, hc⟩
      have FY := Lib.hid hw
      have DY := Lib.hid ((one_cell hc).2 DW.out (by omega))
      have BY := Lib.hid ((one_cell hc).1 BW.out hg)
      have x1 : y1.cell? ⟨b, off + t, none⟩ = some (.int .i64 z) := ((BY.out).cell (p := ⟨b, off + t, none⟩) hbl).trans x00.out
      clear hw hc x0
      go_wp2_with fail
      refine (RD.out _ DY.out).mono ?_
      rintro e y2 ⟨rfl, hw, hc⟩
      have DZ := Lib.hid hw
      have FZ := Lib.hid ((one_cell hc).2 FY.out (by omega))
      have BZ := Lib.hid ((one_cell hc).1 BY.out (by omega))
      have k0 : y2.cell? ⟨g, 0, none⟩ = some (.int .i64 n') := FZ.out.cell 0
      have k1 : y2.cell? ⟨g + 1, 0, none⟩ = some (.int .i64 n') := DZ.out.cell 0
      clear hw hc x1
      go_wp2_with fail
      go_roundw
      case rel => exact ⟨t + 1, n', by omega, rfl, by go_num, UN.out, FZ.out, DZ.out, BZ.out⟩
      case measure => simp [intOf]; omega

theorem grow_zero {was size : Int} (h : codeP was size = 0) (hu : UseP was) : (0 ≤ size ∧ size ≤ 16384) ∧ was + size ≤ nextP was size ∧ nextP was size % 4 = 0 := by
  have hn := next_use (size := size) hu
  by_cases h1 : size < 0 ∨ size > 16384
  · rw [(grow_size h1).2] at h; cases h
  · by_cases h2 : was + up4 size > 16384
    · rw [(grow_data h1 h2).2] at h; cases h
    · have h3 := up4_in (s := size) (by omega)
      have h4 := (grow_ok h1 h2).1
      exact ⟨by omega, by omega, hn.2⟩

set_option maxHeartbeats 16000000 in
set_option maxRecDepth 100000 in
theorem apart_walk (w : World) (A : Option Addr) (n c : Nat) (zs : List Int) (hz : Nums .i64 w A n zs) (hm : n ≤ maxLen) (many : Int) (hmany : 0 ≤ many ∧ many ≤ 255) :
    Calls Try.prog 5 #[.slice A n c, .int .u8 many] w fun e w' => e = .returned (.bool true) ∧ Below w.heap.size w w' := by
  have AW := Lib.hid (awake18_any w)
  have HZ := Lib.hid hz
  obtain ⟨k, hk, hk16⟩ : ∃ k : Nat, many.tmod 17 = (k : Int) ∧ k ≤ 16 := ⟨(many % 17).toNat, by rw [Int.tmod_eq_emod_of_nonneg (by omega)]; omega, by omega⟩
  unfold maxLen at hm
  clear hz
  go_enter Try.func5, Try.ntmps5
  go_wp2_with fail
  refine AW.out.mono ?_
  rintro e w1 ⟨rfl, hb⟩
  have B1 := Lib.hid hb
  clear hb AW
  go_wp2_with fail
  have F1 := Lib.hid (Whole.made w1 frT #[.int .i64 0] _ rfl)
  have B2 := Lib.hid (B1.out.alloc B1.out.size (.cells #[.int .i64 0] frT))
  have G1 := B1.out.size
  clear B1
  generalize w1.alloc (.cells #[.int .i64 0] frT) = w2 at *
  generalize w1.heap.size = g at *
  go_loopw [6, 7] (fun s i wr => ∃ (t : Nat) (was : Int), t ≤ n ∧ s = .int .i64 (-was) ∧ i = .int .i64 t ∧ UseP was ∧ Whole wr g frT #[.int .i64 was] ∧ Below w.heap.size w wr) (fun _ i _ => n - (intOf i).toNat)
  case atStart => exact ⟨0, 0, Nat.zero_le _, rfl, rfl, by unfold UseP; omega, F1.out, B2.out⟩
  case round =>
    obtain ⟨t, was, ht, rfl, rfl, hu, hf, hb⟩ := hrel
    have FW := Lib.hid hf
    have BW := Lib.hid hb
    have hg := G1
    have HU := Lib.hid hu
    have hwas := hu.1
    clear hf hb F1 B2 hu
    by_cases h01 : t < n ∧ t < 200
    · obtain ⟨h0, h1⟩ := h01
      have hI : (t : Int) < n := by omega
      have hJ : (t : Int) < 200 := by omega
      obtain ⟨b, off, hA, hbl, hx⟩ := HZ.out.2 (by omega)
      subst hA
      have X := Lib.hid (hx t h0)
      generalize zs.getD t 0 = z at *
      have x0 : wr.cell? ⟨b, off + t, none⟩ = some (.int .i64 z) := (BW.out.cell (p := ⟨b, off + t, none⟩) hbl).trans X.out
      have UN := Lib.hid (next_use (size := z) HU.out)
      have UI := UN.out.1
      have RL := Lib.hid (fun y h => local_any g was z y h HU.out)
      have GZ := Lib.hid (fun h => grow_zero (was := was) (size := z) h HU.out)
      have GB := Lib.hid (grow_bad (was := was) (size := z))
      have UW := HU
      clear hx HU
      generalize nextP was z = n' at *
      generalize codeP was z = c' at *
      by_cases hc : c' = 0
      · subst hc
        rw [part_ok] at RL
        obtain ⟨hz1, hz2, hz3⟩ := GZ.out rfl
        have m0 : (-n').tmod 4 = 0 := by rw [Int.neg_tmod, Int.tmod_eq_emod_of_nonneg (by omega)]; omega
        have m1 : decide (-was < -n' + z) = false := decide_eq_false (by omega)
        have m2 : decide (n' < was) = false := decide_eq_false (by omega)
        have m3 : ¬ n' < was := by omega
        clear hz2 hz3 GZ
        go_wp2_with fail
        refine (RL.out _ FW.out).mono ?_
        rintro e y1 ⟨rfl, hw, hc⟩
        have FY := Lib.hid hw
        have BY := Lib.hid ((one_cell hc).1 BW.out hg)
        have x1 : y1.cell? ⟨b, off + t, none⟩ = some (.int .i64 z) := ((BY.out).cell (p := ⟨b, off + t, none⟩) hbl).trans X.out
        clear hw hc x0
        go_wp2_with fail
        go_roundw
        case rel => exact ⟨t + 1, n', by omega, rfl, by go_num, UN.out, FY.out, BY.out⟩
        case measure => simp [intOf]; omega
      · have e0 : (c' == 0) = false := beq_eq_false_iff_ne.2 hc
        have e1 : (c' != 0) = true := by simp [hc]
        rw [part_no hc] at RL
        have RW := Lib.hid (GB.out hc)
        clear hc GZ
        go_wp2_with fail
        refine (RL.out _ FW.out).mono ?_
        rintro e y1 ⟨rfl, hw, hc⟩
        have FY := Lib.hid hw
        have BY := Lib.hid ((one_cell hc).1 BW.out hg)
        clear hw hc x0
        go_wp2_with fail
        go_roundw
        case rel => exact ⟨t + 1, was, by omega, rfl, by go_num, UW.out, RW.out ▸ FY.out, BY.out⟩
        case measure => simp [intOf]; omega
    have PA := Lib.hid (fun i many y => param_any i many y)
    have GA := Lib.hid (fun y => gone_any k y)
    have e2 : limP k 16 = k := by
      unfold limP
      split
      · omega
      · split <;> omega
    rw [e2] at GA
    clear e2
    by_cases h0 : t < n
    · have hI0 : (t : Int) < n := by omega
      have hI : ¬ (t : Int) < 200 := by omega
      clear h01
      go_wp2_with fail
      go_loopw [11] (fun i y => ∃ j : Nat, j ≤ k ∧ i = .int .i64 j ∧ Below w.heap.size w y) (fun i _ => k - (intOf i).toNat)
      case atStart => exact ⟨0, Nat.zero_le _, rfl, BW.out⟩
      case round =>
        obtain ⟨j, hj, rfl, hb⟩ := hrel
        have BJ := Lib.hid hb
        clear hb BW hI
        by_cases h1 : j < k
        · have hJ : (j : Int) < k := by omega
          have q : HasP j k := by unfold HasP; omega
          have P0 := Lib.hid (fun y => PA.out j k y)
          rw [(par_yes q).1, (par_yes q).2] at P0
          have n0 : ¬ (8 + 4 * ((k : Int) - j) < 12) := by omega
          have n1 : ¬ (8 + (4 + 4 * (k : Int)) < 8 + 4 * ((k : Int) - j) + 4) := by omega
          rcases j with _ | m
          · generalize hp : 8 + 4 * ((k : Int) - (0 : Nat)) = p at *
            clear q
            go_wp2_with fail
            refine (P0.out _).mono ?_
            rintro e y1 ⟨rfl, rfl⟩
            go_wp2_with fail
            refine (GA.out _).mono ?_
            rintro e y1 ⟨rfl, rfl⟩
            go_wp2_with fail
            go_roundw
            case rel => exact ⟨1, by omega, by go_num, BJ.out⟩
            case measure => simp [intOf]; omega
          · have q2 : HasP m k := by unfold HasP; omega
            have P1 := Lib.hid (fun y => PA.out m k y)
            rw [(par_yes q2).1, (par_yes q2).2] at P1
            have e4 : 8 + 4 * ((k : Int) - m) = 8 + 4 * ((k : Int) - ((m + 1 : Nat) : Int)) + 4 := by omega
            rw [e4] at P1
            generalize hp : 8 + 4 * ((k : Int) - ((m + 1 : Nat) : Int)) = p at *
            have e5 : (p + 4 != p + 4) = false := by simp
            clear q q2 e4
            go_wp2_with fail
            refine (P0.out _).mono ?_
            rintro e y1 ⟨rfl, rfl⟩
            go_wp2_with fail
            refine (GA.out _).mono ?_
            rintro e y1 ⟨rfl, rfl⟩
            go_wp2_with fail
            refine (P1.out _).mono ?_
            rintro e y1 ⟨rfl, rfl⟩
            go_wp2_with fail
            go_roundw
            case rel => exact ⟨m + 1 + 1, by omega, by go_num, BJ.out⟩
            case measure => simp [intOf]; omega
        · have hJ : ¬ (j : Int) < k := by omega
          go_wp2_with fail
          go_ret
          exact ⟨rfl, BJ.out⟩
    · have hI : ¬ (t : Int) < n := by omega
      clear h01
      go_wp2_with fail
      go_loopw [11] (fun i y => ∃ j : Nat, j ≤ k ∧ i = .int .i64 j ∧ Below w.heap.size w y) (fun i _ => k - (intOf i).toNat)
      case atStart => exact ⟨0, Nat.zero_le _, rfl, BW.out⟩
      case round =>
        obtain ⟨j, hj, rfl, hb⟩ := hrel
        have BJ := Lib.hid hb
        clear hb BW hI
        by_cases h1 : j < k
        · have hJ : (j : Int) < k := by omega
          have q : HasP j k := by unfold HasP; omega
          have P0 := Lib.hid (fun y => PA.out j k y)
          rw [(par_yes q).1, (par_yes q).2] at P0
          have n0 : ¬ (8 + 4 * ((k : Int) - j) < 12) := by omega
          have n1 : ¬ (8 + (4 + 4 * (k : Int)) < 8 + 4 * ((k : Int) - j) + 4) := by omega
          rcases j with _ | m
          · generalize hp : 8 + 4 * ((k : Int) - (0 : Nat)) = p at *
            clear q
            go_wp2_with fail
            refine (P0.out _).mono ?_
            rintro e y1 ⟨rfl, rfl⟩
            go_wp2_with fail
            refine (GA.out _).mono ?_
            rintro e y1 ⟨rfl, rfl⟩
            go_wp2_with fail
            go_roundw
            case rel => exact ⟨1, by omega, by go_num, BJ.out⟩
            case measure => simp [intOf]; omega
          · have q2 : HasP m k := by unfold HasP; omega
            have P1 := Lib.hid (fun y => PA.out m k y)
            rw [(par_yes q2).1, (par_yes q2).2] at P1
            have e4 : 8 + 4 * ((k : Int) - m) = 8 + 4 * ((k : Int) - ((m + 1 : Nat) : Int)) + 4 := by omega
            rw [e4] at P1
            generalize hp : 8 + 4 * ((k : Int) - ((m + 1 : Nat) : Int)) = p at *
            have e5 : (p + 4 != p + 4) = false := by simp
            clear q q2 e4
            go_wp2_with fail
            refine (P0.out _).mono ?_
            rintro e y1 ⟨rfl, rfl⟩
            go_wp2_with fail
            refine (GA.out _).mono ?_
            rintro e y1 ⟨rfl, rfl⟩
            go_wp2_with fail
            refine (P1.out _).mono ?_
            rintro e y1 ⟨rfl, rfl⟩
            go_wp2_with fail
            go_roundw
            case rel => exact ⟨m + 1 + 1, by omega, by go_num, BJ.out⟩
            case measure => simp [intOf]; omega
        · have hJ : ¬ (j : Int) < k := by omega
          go_wp2_with fail
          go_ret
          exact ⟨rfl, BJ.out⟩
end Go.Proofs.Ytdpkkfmnnegpiaa
