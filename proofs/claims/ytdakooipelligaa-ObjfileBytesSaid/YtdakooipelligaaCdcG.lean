/- Codec: a Reader's groups. -/
import Derived.Test.YtdakooipelligaaCdcF
namespace Go.Proofs.Ytdakooipelligaa
open Go.ChangeShapes Go.WideShapes Go.ChangeAt Go.RowKit
set_option linter.unusedVariables false
set_option linter.unusedSimpArgs false

/-- What groups leaves. -/
def RdG (w : World) (g D : Nat) (p : Nat × List Int × Int) (e : Ending) (w' : World) : Prop := e = .returned (.int .u64 p.1) ∧ RdAt w' g D p.2.1 p.2.2 ∧ KeptS (RdS g) w w'

set_option maxHeartbeats 4000000 in
set_option maxRecDepth 100000 in
theorem rgroups_any (most : Nat) (g D : Nat) (zs : List Int) (err : Int) (w : World) (h : RdAt w g D zs err) (hm : zs.length ≤ 1000000000) (hb : ∀ z ∈ zs, 0 ≤ z ∧ z ≤ 255) (hmost : most < 18446744073709551616) :
    Calls Try.prog 57 #[.pointer (some ⟨g, 0, none⟩), .int .u64 most] w (RdG w g D (groupsP zs err most)) := by
  have H := Lib.hid h
  have HM := Lib.hid hm
  have HB := Lib.hid hb
  have GB := Lib.hid (fun e (h : takeG 0 zs = .error e) => groupsP_bad (err := err) (most := most) h)
  have GG := Lib.hid (fun n r (h : takeG 0 zs = .ok (n, r)) (hn : most < n) => groupsP_big (err := err) h hn)
  have GO := Lib.hid (fun n r (h : takeG 0 zs = .ok (n, r)) (hn : ¬ most < n) => groupsP_ok (err := err) h hn)
  generalize groupsP zs err most = p at *
  clear h hm hb
  go_enter Try.func57, Try.ntmps57
  go_wp2_with fail
  go_loopw [5, 8] (fun v i wr => ∃ (k acc : Nat) (r : List Int), k ≤ 9 ∧ acc < 128 ^ k ∧ v = .int .u64 acc ∧ i = .int .i64 k ∧ LinkG zs acc k r ∧ RdAt wr g D r err ∧ KeptS (RdS g) w wr ∧ (∀ z ∈ r, 0 ≤ z ∧ z ≤ 255) ∧ r.length ≤ zs.length) (fun _ i _ => 9 - (intOf i).toNat)
  case atStart => exact ⟨0, 0, zs, by decide, by decide, rfl, rfl, (liftG_zero _).symm, H.out, KeptS.ofBelow (Below.refl _ _), HB.out, Nat.le_refl _⟩
  case round =>
    obtain ⟨k, acc, r, hk, hacc, rfl, rfl, hl, hr, hks, hrb, hrl⟩ := hrel
    have L := Lib.hid hl
    have R := Lib.hid hr
    have K := Lib.hid hks
    have HA := Lib.hid hacc
    have RB := Lib.hid hrb
    have RL := Lib.hid (show r.length ≤ zs.length ∧ r.length ≤ 1000000000 from ⟨hrl, Nat.le_trans hrl HM.out⟩)
    clear hl hr hks hacc hrb hrl H HB
    by_cases hk9 : k < 9
    · have hI : (k : Int) < 9 := by omega
      cases r with
      | nil =>
        have T := Lib.hid (rtake_short 1 g D [] err wr R.out (by simp) (by decide))
        have P := Lib.hid (GB.out 120 L.out.short)
        have hnil := bs_nil_yes
        go_wp2_with fail
        refine T.out.mono ?_
        rintro e w1 ⟨rfl, hr1, hk1⟩
        have R1 := Lib.hid hr1
        have K1 := Lib.hid (K.out.trans hk1 (fun i hi => .inl hi))
        clear hr1 hk1
        go_wp2_with fail
        go_ret
        rw [P.out]
        exact ⟨rfl, R1.out, K1.out⟩
      | cons b r =>
        have hb0 := RB.out b List.mem_cons_self
        have RB1 := Lib.hid (fun z hz => RB.out z (List.mem_cons_of_mem b hz))
        have RL1 := Lib.hid (show r.length ≤ zs.length ∧ r.length ≤ 1000000000 from by have := RL.out; simp at this; omega)
        have T := Lib.hid (rtake_yes 1 g D (b :: r) err wr R.out (by simp) (by have := RL.out.2; simp at this ⊢; omega))
        obtain ⟨y, hy⟩ : ∃ y, y = b % 128 * (128 : Int) ^ k := ⟨_, rfl⟩
        have hshl := shl7 (b % 128) k (by omega) (by omega) (by omega) y hy
        have hor := or_low64 acc (b % 128) k (by omega) (by omega) (by omega) HA.out y hy
        have hand := and127 b hb0.1 hb0.2
        have AM := Lib.hid (acc_more HA.out hb0.1)
        have PW := Lib.hid (show 128 ^ (k + 1) ≤ 128 ^ 9 from Nat.pow_le_pow_right (by decide) (by omega))
        have LM := Lib.hid (fun h => L.out.more hk9 h hb0.2)
        have LL := Lib.hid (fun h h2 => L.out.last hk9 hb0.1 h h2)
        have LZ := Lib.hid (fun h => L.out.zero (.inr h))
        clear hy
        generalize hm : acc + (b % 128).toNat * 128 ^ k = m at *
        clear hm
        have hm63 : m < 9223372036854775808 := Nat.lt_of_lt_of_le AM.out (Nat.le_trans PW.out (by decide))
        by_cases hge : 128 ≤ b
        · have hI2 : 128 ≤ b := hge
          go_wp2_with fail
          refine T.out.mono ?_
          rintro e w1 ⟨A, c, rfl, hz, hr1, hk1⟩
          obtain ⟨bb, off, rfl, hlt, hc⟩ := hz.2 (by decide)
          have hnil := bs_nil_no ⟨bb, off, none⟩ 1 c
          have c0 : w1.cell? ⟨bb, off, none⟩ = some (.int .u8 b) := hc 0 (by decide)
          have R1 := Lib.hid hr1
          have K1 := Lib.hid (K.out.trans hk1 (fun i hi => .inl hi))
          clear hr1 hk1 hz hc
          go_wp2_with fail
          go_roundw
          case rel => exact ⟨k + 1, m, r, by omega, AM.out, rfl, by go_num, LM.out hge, R1.out, K1.out, RB1.out, RL1.out.1⟩
          case measure => simp [intOf]; omega
        · have hlt128 : b < 128 := by omega
          by_cases hbig : most < m
          · have hI3 : (most : Int) < m := by omega
            by_cases hkz : 0 < k ∧ b = 0
            · have P := Lib.hid (GB.out 121 (LZ.out hkz))
              go_wp2_with fail
              refine T.out.mono ?_
              rintro e w1 ⟨A, c, rfl, hz, hr1, hk1⟩
              obtain ⟨bb, off, rfl, hlt, hc⟩ := hz.2 (by decide)
              have hnil := bs_nil_no ⟨bb, off, none⟩ 1 c
              have c0 : w1.cell? ⟨bb, off, none⟩ = some (.int .u8 b) := hc 0 (by decide)
              have R1 := Lib.hid hr1
              have K1 := Lib.hid (K.out.trans hk1 (fun i hi => .inl hi))
              clear hr1 hk1 hz hc
              have F := Lib.hid (rfail_any 121 g D r err w1 R1.out)
              clear hkz
              go_wp2_with fail
              refine F.out.mono ?_
              rintro e w2 ⟨rfl, hr2, hk2⟩
              have R2 := Lib.hid hr2
              have K2 := Lib.hid (K1.out.trans hk2 (fun i hi => .inl hi))
              clear hr2 hk2
              go_wp2_with fail
              go_ret
              rw [P.out]
              exact ⟨rfl, R2.out, K2.out⟩
            · have P := Lib.hid (GG.out _ _ (LL.out hlt128 hkz) hbig)
              go_wp2_with fail
              refine T.out.mono ?_
              rintro e w1 ⟨A, c, rfl, hz, hr1, hk1⟩
              obtain ⟨bb, off, rfl, hlt, hc⟩ := hz.2 (by decide)
              have hnil := bs_nil_no ⟨bb, off, none⟩ 1 c
              have c0 : w1.cell? ⟨bb, off, none⟩ = some (.int .u8 b) := hc 0 (by decide)
              have R1 := Lib.hid hr1
              have K1 := Lib.hid (K.out.trans hk1 (fun i hi => .inl hi))
              clear hr1 hk1 hz hc
              have F := Lib.hid (rfail_any 121 g D r err w1 R1.out)
              clear hkz
              go_wp2_with fail
              refine F.out.mono ?_
              rintro e w2 ⟨rfl, hr2, hk2⟩
              have R2 := Lib.hid hr2
              have K2 := Lib.hid (K1.out.trans hk2 (fun i hi => .inl hi))
              clear hr2 hk2
              go_wp2_with fail
              go_ret
              rw [P.out]
              exact ⟨rfl, R2.out, K2.out⟩
          · have hI3 : ¬ (most : Int) < m := by omega
            by_cases hkz : 0 < k ∧ b = 0
            · have P := Lib.hid (GB.out 121 (LZ.out hkz))
              have hk0 : (0 : Int) < k := by omega
              have hbz : (b == 0) = true := by simp [hkz.2]
              go_wp2_with fail
              refine T.out.mono ?_
              rintro e w1 ⟨A, c, rfl, hz, hr1, hk1⟩
              obtain ⟨bb, off, rfl, hlt, hc⟩ := hz.2 (by decide)
              have hnil := bs_nil_no ⟨bb, off, none⟩ 1 c
              have c0 : w1.cell? ⟨bb, off, none⟩ = some (.int .u8 b) := hc 0 (by decide)
              have R1 := Lib.hid hr1
              have K1 := Lib.hid (K.out.trans hk1 (fun i hi => .inl hi))
              clear hr1 hk1 hz hc
              have F := Lib.hid (rfail_any 121 g D r err w1 R1.out)
              have HK := Lib.hid hkz
              clear hkz
              go_wp2_with fail
              refine F.out.mono ?_
              rintro e w2 ⟨rfl, hr2, hk2⟩
              have R2 := Lib.hid hr2
              have K2 := Lib.hid (K1.out.trans hk2 (fun i hi => .inl hi))
              clear hr2 hk2
              go_wp2_with fail
              go_ret
              rw [P.out]
              exact ⟨rfl, R2.out, K2.out⟩
            · have P := Lib.hid (GO.out _ _ (LL.out hlt128 hkz) hbig)
              by_cases hk0 : 0 < k
              · have hk0' : (0 : Int) < k := by omega
                have hbz : (b == 0) = false := by
                  have : b ≠ 0 := fun e => hkz ⟨hk0, e⟩
                  simp [this]
                go_wp2_with fail
                refine T.out.mono ?_
                rintro e w1 ⟨A, c, rfl, hz, hr1, hk1⟩
                obtain ⟨bb, off, rfl, hlt, hc⟩ := hz.2 (by decide)
                have hnil := bs_nil_no ⟨bb, off, none⟩ 1 c
                have c0 : w1.cell? ⟨bb, off, none⟩ = some (.int .u8 b) := hc 0 (by decide)
                have R1 := Lib.hid hr1
                have K1 := Lib.hid (K.out.trans hk1 (fun i hi => .inl hi))
                clear hr1 hk1 hz hc
                clear hkz
                go_wp2_with fail
                go_ret
                rw [P.out]
                exact ⟨rfl, R1.out, K1.out⟩
              · have hk0' : ¬ (0 : Int) < k := by omega
                go_wp2_with fail
                refine T.out.mono ?_
                rintro e w1 ⟨A, c, rfl, hz, hr1, hk1⟩
                obtain ⟨bb, off, rfl, hlt, hc⟩ := hz.2 (by decide)
                have hnil := bs_nil_no ⟨bb, off, none⟩ 1 c
                have c0 : w1.cell? ⟨bb, off, none⟩ = some (.int .u8 b) := hc 0 (by decide)
                have R1 := Lib.hid hr1
                have K1 := Lib.hid (K.out.trans hk1 (fun i hi => .inl hi))
                clear hr1 hk1 hz hc
                clear hkz
                go_wp2_with fail
                go_ret
                rw [P.out]
                exact ⟨rfl, R1.out, K1.out⟩
    · obtain rfl : k = 9 := by omega
      cases r with
      | nil =>
        have T := Lib.hid (rtake_short 1 g D [] err wr R.out (by simp) (by decide))
        have P := Lib.hid (GB.out 120 L.out.short)
        have hnil := bs_any_yes
        go_wp2_with fail
        refine T.out.mono ?_
        rintro e w1 ⟨rfl, hr1, hk1⟩
        have R1 := Lib.hid hr1
        have K1 := Lib.hid (K.out.trans hk1 (fun i hi => .inl hi))
        clear hr1 hk1
        go_wp2_with fail
        go_ret
        rw [P.out]
        exact ⟨rfl, R1.out, K1.out⟩
      | cons b r =>
        have T := Lib.hid (rtake_yes 1 g D (b :: r) err wr R.out (by simp) (by have := RL.out.2; simp at this ⊢; omega))
        have P := Lib.hid (GB.out 121 (L.out.zero (.inl rfl)))
        go_wp2_with fail
        refine T.out.mono ?_
        rintro e w1 ⟨A, c, rfl, hz, hr1, hk1⟩
        obtain ⟨bb, off, rfl, hlt, hc⟩ := hz.2 (by decide)
        have hnil := bs_any_no ⟨bb, off, none⟩ 1 c
        have F := Lib.hid (rfail_any 121 g D _ err w1 hr1)
        have K1 := Lib.hid (K.out.trans hk1 (fun i hi => .inl hi))
        clear hr1 hk1 hz hc
        go_wp2_with fail
        refine F.out.mono ?_
        rintro e w2 ⟨rfl, hr2, hk2⟩
        have R2 := Lib.hid hr2
        have K2 := Lib.hid (K1.out.trans hk2 (fun i hi => .inl hi))
        clear hr2 hk2
        go_wp2_with fail
        go_ret
        rw [P.out]
        exact ⟨rfl, R2.out, K2.out⟩
end Go.Proofs.Ytdakooipelligaa
