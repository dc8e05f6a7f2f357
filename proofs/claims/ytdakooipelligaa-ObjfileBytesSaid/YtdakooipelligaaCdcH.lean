/- Codec: a Reader's Count, Number, Word, Text. -/
import Derived.Test.YtdakooipelligaaCdcG
import Derived.Test.YtdakooipelligaaCdcD
import Derived.Laws.BytesArg
import Derived.Deep.QuietTactic
import Derived.BigQuiet
namespace Go.Proofs.Ytdakooipelligaa
open Go.ChangeShapes Go.WideShapes Go.ChangeAt Go.RowKit
set_option linter.unusedVariables false
set_option linter.unusedSimpArgs false

theorem groupsP_le (zs : List Int) (err : Int) (most : Nat) : (groupsP zs err most).1 ≤ most := by
  unfold groupsP
  split
  · exact Nat.zero_le _
  · split
    · exact Nat.zero_le _
    · show _ ≤ most
      omega

theorem takeG_rest : ∀ (bs : List Int) (k n : Nat) (r : List Int), takeG k bs = .ok (n, r) → r.length < bs.length ∧ ∀ z ∈ r, z ∈ bs
  | [], k, n, r, h => by
    rw [takeG_nil] at h
    cases h
  | b :: bs, k, n, r, h => by
    by_cases hbad : k = 9 ∨ (0 < k ∧ b = 0)
    · rw [takeG_bad hbad] at h
      cases h
    · by_cases hl : b < 128
      · rw [takeG_last hbad hl] at h
        injection h with h
        injection h with h1 h2
        subst h1 h2
        exact ⟨by simp, fun z hz => List.mem_cons_of_mem _ hz⟩
      · rw [takeG_more hbad hl] at h
        cases ht : takeG (k + 1) bs with
        | error e =>
          rw [ht] at h
          cases h
        | ok p =>
          obtain ⟨n', r'⟩ := p
          rw [ht] at h
          injection h with h
          injection h with h1 h2
          subst h1 h2
          obtain ⟨e1, e2⟩ := takeG_rest bs (k + 1) n' r' ht
          exact ⟨by simp; omega, fun z hz => List.mem_cons_of_mem _ (e2 z hz)⟩

theorem groupsP_rest (zs : List Int) (err : Int) (most : Nat) : (groupsP zs err most).2.1.length ≤ zs.length ∧ ∀ z ∈ (groupsP zs err most).2.1, z ∈ zs := by
  unfold groupsP
  split
  · exact ⟨Nat.zero_le _, fun z h => by cases h⟩
  · rename_i p hp
    split
    · exact ⟨Nat.zero_le _, fun z h => by cases h⟩
    · obtain ⟨n, r⟩ := p
      have := takeG_rest zs 0 n r hp
      exact ⟨by show r.length ≤ _; omega, this.2⟩

set_option maxHeartbeats 1000000 in
set_option maxRecDepth 100000 in
theorem rcount_any (most : Nat) (g D : Nat) (zs : List Int) (err : Int) (w : World) (h : RdAt w g D zs err) (hm : zs.length ≤ 1000000000) (hb : ∀ z ∈ zs, 0 ≤ z ∧ z ≤ 255) (hmost : most ≤ 9223372036854775807) :
    Calls Try.prog 41 #[.pointer (some ⟨g, 0, none⟩), .int .i64 most] w fun e w' => e = .returned (.int .i64 (groupsP zs err most).1) ∧ RdAt w' g D (groupsP zs err most).2.1 (groupsP zs err most).2.2 ∧ KeptS (RdS g) w w' := by
  have G := Lib.hid (rgroups_any most g D zs err w h hm hb (by omega))
  have hle : (groupsP zs err most).1 < 9223372036854775808 := by have := groupsP_le zs err most; omega
  generalize groupsP zs err most = p at *
  obtain ⟨n, r, e1⟩ := p
  have hle : n < 9223372036854775808 := hle
  clear h hm hb
  go_enter Try.func41, Try.ntmps41
  go_wp2_with fail
  refine G.out.mono ?_
  rintro e w1 ⟨rfl, hr, hk⟩
  have R := Lib.hid hr
  have K := Lib.hid hk
  clear hr hk
  go_wp2_with fail
  go_ret
  exact ⟨rfl, R.out, K.out⟩

/-- What Text answers: the text, what is left, the error. -/
def textP (zs : List Int) (err : Int) (most : Nat) : ByteArray × List Int × Int :=
  if (groupsP zs err most).1 ≤ (groupsP zs err most).2.1.length then (strOfNums ((groupsP zs err most).2.1.take (groupsP zs err most).1), (groupsP zs err most).2.1.drop (groupsP zs err most).1, (groupsP zs err most).2.2)
  else (⟨#[]⟩, [], errP (groupsP zs err most).2.2 120)

theorem convert_bytes (w : World) (A : Option Addr) (n c : Nat) (xs : List Int) (h : Nums .u8 w A n xs) : (convert bsT 9 (.slice A n c)).run Try.prog w = .ok (.string (strOfNums xs)) w := by
  rcases Nat.eq_zero_or_pos n with rfl | h0
  · obtain rfl : xs = [] := List.eq_nil_of_length_eq_zero h.1
    rw [run_convert_bytes_string w bsT 9 u8T A 0 c Try.underlying36 Try.underlying5 Try.underlying9]
    cases A with
    | none =>
      simp [Conv.bytesToString]
      rfl
    | some a =>
      rw [run_bytesToString w a 0 c [] (by simp [loadCells, loadCellsFrom])]
      rfl
  · obtain ⟨b, off, rfl, hlt, hc⟩ := h.2 h0
    exact run_convert_bytes_arg w bsT u8T Try.underlying36 Try.underlying5 b off n c xs h.1 hc 9 Try.underlying9

theorem textP_yes {zs r : List Int} {err err' : Int} {most n : Nat} (h : groupsP zs err most = (n, r, err')) (hn : n ≤ r.length) : textP zs err most = (strOfNums (r.take n), r.drop n, err') := by
  unfold textP
  rw [h]
  exact if_pos hn

theorem textP_no {zs r : List Int} {err err' : Int} {most n : Nat} (h : groupsP zs err most = (n, r, err')) (hn : ¬ n ≤ r.length) : textP zs err most = (⟨#[]⟩, [], errP err' 120) := by
  unfold textP
  rw [h]
  exact if_neg hn

set_option maxHeartbeats 1000000 in
set_option maxRecDepth 100000 in
theorem rtext_any (most : Nat) (g D : Nat) (zs : List Int) (err : Int) (w : World) (h : RdAt w g D zs err) (hm : zs.length ≤ 1000000000) (hb : ∀ z ∈ zs, 0 ≤ z ∧ z ≤ 255) (hmost : most ≤ 9223372036854775807) :
    Calls Try.prog 33 #[.pointer (some ⟨g, 0, none⟩), .int .i64 most] w fun e w' => e = .returned (.string (textP zs err most).1) ∧ RdAt w' g D (textP zs err most).2.1 (textP zs err most).2.2 ∧ KeptS (RdS g) w w' := by
  have G := Lib.hid (rcount_any most g D zs err w h hm hb hmost)
  have hle : (groupsP zs err most).1 ≤ 9223372036854775807 := by have := groupsP_le zs err most; omega
  have hrl : (groupsP zs err most).2.1.length ≤ 1000000000 := Nat.le_trans (groupsP_rest zs err most).1 hm
  have PY := Lib.hid (fun n r e' (hh : groupsP zs err most = (n, r, e')) hn => textP_yes hh hn)
  have PN := Lib.hid (fun n r e' (hh : groupsP zs err most = (n, r, e')) hn => textP_no hh hn)
  generalize groupsP zs err most = p at *
  obtain ⟨n, r, e1⟩ := p
  have hle : n ≤ 9223372036854775807 := hle
  have HL := Lib.hid (show r.length ≤ 1000000000 from hrl)
  clear h hm hb hrl
  by_cases hn : n ≤ r.length
  · have P := Lib.hid (PY.out n r e1 rfl hn)
    have T := Lib.hid (fun W h => rtake_yes n g D r e1 W h hn (by have := HL.out; omega))
    have CV := Lib.hid (fun W A c (h : Nums .u8 W A n (r.take n)) => convert_bytes W A n c _ h)
    clear hn PY PN
    go_enter Try.func33, Try.ntmps33
    go_wp2_with fail
    refine G.out.mono ?_
    rintro e w1 ⟨rfl, hr, hk⟩
    have T1 := Lib.hid (T.out w1 hr)
    have K := Lib.hid hk
    clear hr hk T
    go_wp2_with fail
    refine T1.out.mono ?_
    rintro e w2 ⟨A, c, rfl, hz, hr, hk⟩
    have C2 := CV.out w2 A c hz
    have R := Lib.hid hr
    have K2 := Lib.hid (K.out.trans hk (fun i hi => .inl hi))
    clear hz hr hk
    go_wp2_with fail
    go_ret
    rw [P.out]
    exact ⟨rfl, R.out, K2.out⟩
  · have P := Lib.hid (PN.out n r e1 rfl hn)
    have T := Lib.hid (fun W h => rtake_short n g D r e1 W h (by omega) (by omega))
    have C2 := fun W => convert_bytes W none 0 0 [] ⟨rfl, fun h => absurd h (by decide)⟩
    clear hn PY PN
    go_enter Try.func33, Try.ntmps33
    go_wp2_with fail
    refine G.out.mono ?_
    rintro e w1 ⟨rfl, hr, hk⟩
    have T1 := Lib.hid (T.out w1 hr)
    have K := Lib.hid hk
    clear hr hk T
    go_wp2_with fail
    refine T1.out.mono ?_
    rintro e w2 ⟨rfl, hr, hk⟩
    have R := Lib.hid hr
    have K2 := Lib.hid (K.out.trans hk (fun i hi => .inl hi))
    clear hr hk
    go_wp2_with fail
    go_ret
    rw [P.out]
    exact ⟨rfl, R.out, K2.out⟩

set_option maxHeartbeats 1000000 in
set_option maxRecDepth 100000 in
theorem rword_yes (g D : Nat) (z0 z1 z2 z3 : Int) (zs : List Int) (err : Int) (w : World) (h : RdAt w g D (z0 :: z1 :: z2 :: z3 :: zs) err) (hm : zs.length ≤ 1000000000)
    (a0 : 0 ≤ z0) (b0 : z0 ≤ 255) (a1 : 0 ≤ z1) (b1 : z1 ≤ 255) (a2 : 0 ≤ z2) (b2 : z2 ≤ 255) (a3 : 0 ≤ z3) (b3 : z3 ≤ 255) :
    Calls Try.prog 32 #[.pointer (some ⟨g, 0, none⟩)] w fun e w' => e = .returned (.int .u32 (word4 z0 z1 z2 z3)) ∧ RdAt w' g D zs err ∧ KeptS (RdS g) w w' := by
  have T := Lib.hid (rtake_yes 4 g D (z0 :: z1 :: z2 :: z3 :: zs) err w h (by simp) (by simp; omega))
  have e1 := or_low z0 (z1 * 256) 8 (by decide) a0 (by omega) (by omega) (by omega) (by omega) (by omega)
  have e2 := or_low (z0 + z1 * 256) (z2 * 65536) 16 (by decide) (by omega) (by omega) (by omega) (by omega) (by omega) (by omega)
  have e3 := or_low (z0 + z1 * 256 + z2 * 65536) (z3 * 16777216) 24 (by decide) (by omega) (by omega) (by omega) (by omega) (by omega) (by omega)
  clear h
  go_enter Try.func32, Try.ntmps32
  go_wp2_with fail
  refine T.out.mono ?_
  rintro e w1 ⟨A, c, rfl, hz, hr, hk⟩
  obtain ⟨bb, off, rfl, hlt, hc⟩ := hz.2 (by decide)
  have hnil := bs_nil_no ⟨bb, off, none⟩ 4 c
  have h0 : w1.cell? ⟨bb, off, none⟩ = some (.int .u8 z0) := hc 0 (by decide)
  have h1 : w1.cell? ⟨bb, off + 1, none⟩ = some (.int .u8 z1) := hc 1 (by decide)
  have h2 : w1.cell? ⟨bb, off + 2, none⟩ = some (.int .u8 z2) := hc 2 (by decide)
  have h3 : w1.cell? ⟨bb, off + 3, none⟩ = some (.int .u8 z3) := hc 3 (by decide)
  have R := Lib.hid hr
  have K := Lib.hid hk
  clear hr hk hz hc
  go_wp2_with fail
  go_quiet (fail)
  go_wp2
  go_ret
  exact ⟨rfl, R.out.below (below_drawn (Below.refl _ _) _), K.out.trans (KeptS.ofBelow (S := RdS g) (below_drawn (Below.refl _ _) _)) (fun i hi => .inl hi)⟩
end Go.Proofs.Ytdakooipelligaa
