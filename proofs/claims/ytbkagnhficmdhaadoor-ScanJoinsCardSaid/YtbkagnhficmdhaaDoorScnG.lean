/- Scan: the program's behindBlanks. -/
import Derived.Test.YtbkagnhficmdhaaDoorScnF
import Derived.Lib.TrimByte
namespace Go.Proofs.YtbkagnhficmdhaaDoor
open Go.ChangeShapes Go.WideShapes Go.ChangeAt Go.RowKit
set_option linter.unusedVariables false
set_option linter.unusedSimpArgs false

/-- A scope that is jumped back in: what the label's rest does is told once. -/
theorem wp_scope_again {P : Program} {a : Act} {w : World} {Q : Exit → Act → World → Prop} {c rest : Code} (l : Nat) (J : Act → World → Prop) (μ : Act → World → Nat) (hf : findLabel c l = some (Code.skip.seq rest))
    (first : (∀ a w, J a w → rest.wp P (Exit.jump l J Q) a w) → c.wp P (Exit.jump l J Q) a w)
    (pass : ∀ a w, J a w → rest.wp P (Exit.jump l (fun a' w' => J a' w' ∧ μ a' w' < μ a w) Q) a w) : (Code.scope c).wp P Q a w :=
  wp_scope_jumps l J μ hf (first fun a w h => Code.wp_mono (fun e a' w' q => by
    cases e with
    | goto l' => exact ⟨q.1, q.2.1⟩
    | _ => exact q) (pass a w h)) fun a w h => wp_seq (wp_skip (pass a w h))

theorem hasPrefix_two (s : ByteArray) (k : Nat) (a b : UInt8) (h : k ≤ s.size) : Lib.hasPrefix (s.extract k s.size).data.toList [a, b] = twoP s k a.toNat b.toNat := by
  rw [Lib.extract_from]
  show List.isPrefixOf [a, b] (s.data.toList.drop k) = _
  unfold twoP
  have hl : s.data.toList.length = s.size := Array.length_toList
  by_cases h1 : k + 1 < s.size
  · have e0 : s.data.toList.drop k = s[k] :: s.data.toList.drop (k + 1) := by
      rw [List.drop_eq_getElem_cons (by omega)]
      rfl
    have e1 : s.data.toList.drop (k + 1) = s[k + 1] :: s.data.toList.drop (k + 2) := by
      rw [List.drop_eq_getElem_cons (by omega)]
      rfl
    rw [e0, e1, decide_eq_true h1, Bool.true_and, byN_get (by omega), byN_get h1]
    simp only [List.isPrefixOf_cons_cons, List.isPrefixOf_nil_left, Bool.and_true]
    congr 1
    · exact Bool.eq_iff_iff.2 (by simp only [beq_iff_eq, decide_eq_true_eq]; exact ⟨fun h => by rw [h], fun h => (UInt8.toNat_inj.1 h).symm⟩)
    · exact Bool.eq_iff_iff.2 (by simp only [beq_iff_eq, decide_eq_true_eq]; exact ⟨fun h => by rw [h], fun h => (UInt8.toNat_inj.1 h).symm⟩)
  · rw [decide_eq_false h1, Bool.false_and]
    have hl2 : (s.data.toList.drop k).length ≤ 1 := by rw [List.length_drop]; omega
    match hd : s.data.toList.drop k, hl2 with
    | [], _ => rfl
    | [x], _ => show (a == x && List.isPrefixOf [b] []) = false; exact Bool.and_false _

theorem rest_empty (s : ByteArray) (k : Nat) (h : k ≤ s.size) : (s.extract k s.size).toList.isEmpty = decide (¬ k < s.size) := by
  rw [Lib.toList_data, Lib.extract_from]
  show (s.data.toList.drop k).isEmpty = _
  have hl : s.data.toList.length = s.size := Array.length_toList
  rw [Bool.eq_iff_iff, List.isEmpty_iff, List.drop_eq_nil_iff, decide_eq_true_eq]
  omega

theorem rest_size (s : ByteArray) (k : Nat) : (s.extract k s.size).size = s.size - k := by
  rw [Lib.extract_from]
  show (List.toArray (s.data.toList.drop k)).size = _
  rw [List.size_toArray, List.length_drop, Array.length_toList]
  rfl

theorem rest_get (s : ByteArray) (k j : Nat) (h : k + j < s.size) : byN (s.extract k s.size) j = byN s (k + j) := by
  rw [byN_get h, byN_get (s := s.extract k s.size) (k := j) (by rw [rest_size]; omega), ByteArray.getElem_extract]

set_option maxHeartbeats 8000000 in
set_option maxRecDepth 100000 in
theorem behindBlanks_any (s : ByteArray) (g k : Nat) (w : World) (hQ : Whole w g scT #[.string s, .int .i64 k]) (hs : s.size ≤ 1000000) (hk : k ≤ s.size) : Calls Tryd.prog 18 #[.pointer (some ⟨g, 0, none⟩)] w fun e w' => e = .returned (.tuple #[.int .i64 (blanksP s k).1, .bool (blanksP s k).2]) ∧ w = w' := by
  have R0 := Lib.hid (show blF s.size s k 0 = blanksP s k from rfl)
  generalize blanksP s k = r at *
  have q0 : w.cell? ⟨g, 0, none⟩ = some (.string s) := hQ.cell 0
  have q1 : w.cell? ⟨g, 1, none⟩ = some (.int .i64 k) := hQ.cell 1
  go_enter Tryd.func18, Tryd.ntmps18
  go_wp2_with fail
  refine wp_scope_again 0 (fun a' w' => w' = w ∧ ∃ (t d f : Nat) (x2 x3 u6 u7 u8 u9 u10 u11 u12 u13 u14 u15 u16 u17 u18 u19 u20 u21 u22 u23 u24 u25 u26 u27 u28 u29 u30 u31 u32 u33 u34 u35 u36 u37 u38 u39 u40 u41 u42 u43 u44 u45 u46 u47 u48 u49 u50 u51 : Value), a' = { tmps := #[.pointer (some ⟨g, 0, none⟩), undef, x2, x3, .int .i64 t, .int .i64 d, u6, u7, u8, u9, u10, u11, u12, u13, u14, u15, u16, u17, u18, u19, u20, u21, u22, u23, u24, u25, u26, u27, u28, u29, u30, u31, u32, u33, u34, u35, u36, u37, u38, u39, u40, u41, u42, u43, u44, u45, u46, u47, u48, u49, u50, u51], defers := [] } ∧ t ≤ s.size ∧ d ≤ t ∧ s.size - t ≤ f ∧ blF f s t d = r) (fun a' _ => s.size - (intOf (a'.tmps.getD 4 undef)).toNat) rfl (fun pass => ?_) ?_
  · go_wp2_with fail
    go_step3
    rename_i a0
    exact a0 _ _ (pass _ _ ⟨rfl, k, 0, s.size, _, _, _, _, _, _, _, _, _, _, _, _, _, _, _, _, _, _, _, _, _, _, _, _, _, _, _, _, _, _, _, _, _, _, _, _, _, _, _, _, _, _, _, _, _, _, _, _, rfl, hk, Nat.zero_le _, by omega, R0.out⟩)
  · rintro a' w' ⟨rfl, t, d, f, x2, x3, u6, u7, u8, u9, u10, u11, u12, u13, u14, u15, u16, u17, u18, u19, u20, u21, u22, u23, u24, u25, u26, u27, u28, u29, u30, u31, u32, u33, u34, u35, u36, u37, u38, u39, u40, u41, u42, u43, u44, u45, u46, u47, u48, u49, u50, u51, rfl, ht, hd, hf, hR⟩
    have HR := Lib.hid hR
    have HE := Lib.hid (rest_empty s t ht)
    have HZ := Lib.hid (rest_size s t)
    have HG := Lib.hid (fun (h : t + 0 < s.size) => rest_get s t 0 h)
    have HP1 := Lib.hid (fun W => (Tryd.strings_HasPrefix (s.extract t s.size) ⟨#[40, 42]⟩ W).mono (fun e w' h => show e = .returned (.bool (twoP s t 40 42)) ∧ W = w' from ⟨by rw [h.1]; exact congrArg (fun b => Ending.returned (.bool b)) (hasPrefix_two s t 40 42 ht), h.2.symm⟩))
    have HP2 := Lib.hid (fun W => (Tryd.strings_HasPrefix (s.extract t s.size) ⟨#[42, 41]⟩ W).mono (fun e w' h => show e = .returned (.bool (twoP s t 42 41)) ∧ W = w' from ⟨by rw [h.1]; exact congrArg (fun b => Ending.returned (.bool b)) (hasPrefix_two s t 42 41 ht), h.2.symm⟩))
    clear hR
    go_wp2_with fail
    generalize s.extract t s.size = rest at *
    have HG2 := Lib.hid (fun (h : 0 < rest.size) => byN_get h)
    refine (HP1.out _).mono ?_
    rintro e w1 ⟨rfl, rfl⟩
    clear HP1
    rcases Nat.lt_or_ge t s.size with hlt | hge
    · have he : rest.toList.isEmpty = false := by rw [HE.out]; simp [hlt]
      have hrs : 0 < rest.size := by rw [HZ.out]; omega
      have HB := Lib.hid (show byN s t = rest[0].toNat from (HG.out hlt).symm.trans (HG2.out hrs))
      obtain ⟨f, rfl⟩ : ∃ g, f = g + 1 := ⟨f - 1, by omega⟩
      clear HE HG HG2
      cases h1 : twoP s t 40 42
      · rcases Nat.eq_zero_or_pos d with hz | hp
        · subst hz
          cases h3 : isBl (byN s t)
          · have H2 := Lib.hid ((blF_stop hlt h1 h3).symm.trans HR.out)
            rw [HB.out] at h3
            have HT := Lib.hid (cls_isBlank rest[0].toNat w' rest[0].toNat_lt)
            rw [h3] at HT
            clear HR h3
            go_wp2_with fail
            refine HT.out.mono ?_
            rintro e w1 ⟨rfl, rfl⟩
            go_wp2_with fail
            simp only [Exit.jump]
            go_ret2
            exact ⟨by rw [← H2.out]; rfl, rfl⟩
          · have H2 := Lib.hid ((blF_skip hlt h1 (by omega) (.inr h3)).symm.trans HR.out)
            rw [HB.out] at h3
            have HT := Lib.hid (cls_isBlank rest[0].toNat w' rest[0].toNat_lt)
            rw [h3] at HT
            clear HR h3
            go_wp2_with fail
            refine HT.out.mono ?_
            rintro e w1 ⟨rfl, rfl⟩
            go_wp2_with fail
            go_step3
            refine ⟨rfl, ⟨rfl, t + 1, 0, f, _, _, _, _, _, _, _, _, _, _, _, _, _, _, _, _, _, _, _, _, _, _, _, _, _, _, _, _, _, _, _, _, _, _, _, _, _, _, _, _, _, _, _, _, _, _, _, _, rfl, by omega, by omega, by omega, H2.out⟩, ?_⟩
            simp [intOf]; omega
        · have d0 : decide ((0 : Int) < d) = true := decide_eq_true (by omega)
          cases h2 : twoP s t 42 41
          · have H2 := Lib.hid ((blF_skip hlt h1 (by rw [h2]; simp) (.inl hp)).symm.trans HR.out)
            rw [h2] at HP2
            clear HR
            go_wp2_with fail
            refine (HP2.out _).mono ?_
            rintro e w1 ⟨rfl, rfl⟩
            go_wp2_with fail
            go_step3
            refine ⟨rfl, ⟨rfl, t + 1, d, f, _, _, _, _, _, _, _, _, _, _, _, _, _, _, _, _, _, _, _, _, _, _, _, _, _, _, _, _, _, _, _, _, _, _, _, _, _, _, _, _, _, _, _, _, _, _, _, _, rfl, by omega, by omega, by omega, H2.out⟩, ?_⟩
            simp [intOf]; omega
          · have hl2 := twoP_lt h2
            have H2 := Lib.hid ((blF_close hlt h1 hp h2).symm.trans HR.out)
            rw [h2] at HP2
            obtain ⟨d, rfl⟩ : ∃ c, d = c + 1 := ⟨d - 1, by omega⟩
            have e1 : ((d + 1 : Nat) : Int) - 1 = d := by omega
            clear HR
            go_wp2_with fail
            refine (HP2.out _).mono ?_
            rintro e w1 ⟨rfl, rfl⟩
            go_wp2_with fail
            go_step3
            refine ⟨rfl, ⟨rfl, t + 2, d, f, _, _, _, _, _, _, _, _, _, _, _, _, _, _, _, _, _, _, _, _, _, _, _, _, _, _, _, _, _, _, _, _, _, _, _, _, _, _, _, _, _, _, _, _, _, _, _, _, rfl, by omega, by omega, by omega, H2.out⟩, ?_⟩
            simp [intOf]; omega
      · have hl2 := twoP_lt h1
        have H2 := Lib.hid ((blF_open hlt h1).symm.trans HR.out)
        clear HR
        go_wp2_with fail
        go_step3
        refine ⟨rfl, ⟨rfl, t + 2, d + 1, f, _, _, _, _, _, _, _, _, _, _, _, _, _, _, _, _, _, _, _, _, _, _, _, _, _, _, _, _, _, _, _, _, _, _, _, _, _, _, _, _, _, _, _, _, _, _, _, _, rfl, by omega, by omega, by omega, H2.out⟩, ?_⟩
        simp [intOf]; omega
    · have he : rest.toList.isEmpty = true := by rw [HE.out]; simp; omega
      have h1 : twoP s t 40 42 = false := by
        cases h : twoP s t 40 42
        · rfl
        · exact absurd (twoP_lt h) (by omega)
      have H2 := Lib.hid ((blF_end (f := f) (s := s) (k := t) (d := d) (by omega)).symm.trans HR.out)
      clear HE HG HG2 HR
      rcases Nat.eq_zero_or_pos d with hz | hp
      · subst hz
        go_wp2_with fail
        simp only [Exit.jump]
        go_ret2
        exact ⟨by rw [← H2.out]; rfl, rfl⟩
      · have d0 : decide ((0 : Int) < d) = true := decide_eq_true (by omega)
        have h2 : twoP s t 42 41 = false := by
          cases h : twoP s t 42 41
          · rfl
          · exact absurd (twoP_lt h) (by omega)
        rw [h2] at HP2
        have dz : ((d : Int) == 0) = decide (d = 0) := Bool.eq_iff_iff.2 (by simp only [beq_iff_eq, decide_eq_true_eq]; omega)
        go_wp2_with fail
        refine (HP2.out _).mono ?_
        rintro e w1 ⟨rfl, rfl⟩
        go_wp2_with fail
        simp only [Exit.jump]
        go_ret2
        exact ⟨by rw [← H2.out]; rfl, rfl⟩
end Go.Proofs.YtbkagnhficmdhaaDoor
