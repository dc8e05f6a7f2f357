/- Codec: the law CodecBack. -/
import Derived.Test.YtcoinciednbeaaaCdcM0
import Derived.Deep.RegionHeld3
namespace Go.Proofs.Ytcoinciednbeaaa
open Go.ChangeShapes Go.WideShapes Go.ChangeAt Go.RowKit
set_option linter.unusedVariables false
set_option linter.unusedSimpArgs false

theorem bytes_app {l r : List Int} (hl : ∀ b ∈ l, 0 ≤ b ∧ b ≤ 255) (hr : ∀ b ∈ r, 0 ≤ b ∧ b ≤ 255) : ∀ b ∈ l ++ r, 0 ≤ b ∧ b ≤ 255 :=
  fun b hb => (List.mem_append.1 hb).elim (hl b) (hr b)

theorem tk_count (v g D : Nat) (r : List Int) (w : World) (h : RdAt w g D (cntB v ++ r) 0) (hl : r.length ≤ 60600) (hr : ∀ b ∈ r, 0 ≤ b ∧ b ≤ 255) (hv : v ≤ 9223372036854775807) :
    Calls Try.prog 13 #[.pointer (some ⟨g, 0, none⟩), .int .i64 9223372036854775807] w fun e w' => e = .returned (.int .i64 v) ∧ RdAt w' g D r 0 ∧ KeptS (RdS g) w w' := by
  have := rcount_any 9223372036854775807 g D _ 0 w h (by rw [List.length_append]; have := cntB_len10 (n := v) (by omega); omega) (bytes_app (cntB_bytes v) hr) (by decide)
  rw [count_back v 9223372036854775807 r (by omega) hv] at this
  exact this

theorem tk_number (v : Int) (g D : Nat) (r : List Int) (w : World) (h : RdAt w g D (cntB (zigN v) ++ r) 0) (hl : r.length ≤ 60600) (hr : ∀ b ∈ r, 0 ≤ b ∧ b ≤ 255) (hv : -2147483648 ≤ v ∧ v ≤ 2147483647) :
    Calls Try.prog 14 #[.pointer (some ⟨g, 0, none⟩)] w fun e w' => e = .returned (.int .i32 v) ∧ RdAt w' g D r 0 ∧ KeptS (RdS g) w w' := by
  have hz := zigN_le hv
  have := rnumber_any g D _ 0 w h (by rw [List.length_append]; have := cntB_len10 (n := zigN v) (by omega); omega) (bytes_app (cntB_bytes _) hr)
  rw [count_back (zigN v) 4294967295 r (by omega) hz] at this
  have e : zagN (zigN v) = v := zagN_zigN v
  have this : Calls Try.prog 14 #[.pointer (some ⟨g, 0, none⟩)] w fun e w' => e = .returned (.int .i32 (zagN (zigN v))) ∧ RdAt w' g D r 0 ∧ KeptS (RdS g) w w' := this
  rw [e] at this
  exact this

theorem tk_word (v : Int) (g D : Nat) (r : List Int) (w : World) (h : RdAt w g D (bytesOf v ++ r) 0) (hl : r.length ≤ 60600) (h0 : 0 ≤ v) (h1 : v ≤ 4294967295) :
    Calls Try.prog 15 #[.pointer (some ⟨g, 0, none⟩)] w fun e w' => e = .returned (.int .u32 v) ∧ RdAt w' g D r 0 ∧ KeptS (RdS g) w w' := by
  have := rword_yes g D (v % 256) (v / 256 % 256) (v / 65536 % 256) (v / 16777216 % 256) r 0 w h (by omega) (by omega) (by omega) (by omega) (by omega) (by omega) (by omega) (by omega) (by omega)
  rw [word_back v h0 h1] at this
  exact this

theorem tk_text (s : ByteArray) (g D : Nat) (r : List Int) (w : World) (h : RdAt w g D (cntB s.size ++ strI s ++ r) 0) (hl : r.length ≤ 60600) (hr : ∀ b ∈ r, 0 ≤ b ∧ b ≤ 255) (hs : s.size ≤ 1000) :
    Calls Try.prog 16 #[.pointer (some ⟨g, 0, none⟩), .int .i64 1000] w fun e w' => e = .returned (.string s) ∧ RdAt w' g D r 0 ∧ KeptS (RdS g) w w' := by
  have := rtext_any 1000 g D _ 0 w h (by rw [List.length_append, List.length_append, strI_len]; have := cntB_len10 (n := s.size) (by omega); omega) (bytes_app (bytes_app (cntB_bytes _) (strI_bytes s)) hr) (by decide)
  rw [text_back s r hs] at this
  exact this

set_option maxHeartbeats 8000000 in
set_option maxRecDepth 100000 in
theorem back_walk (W : World) (A : Option Addr) (n c : Nat) (f : Nat → Pc) (hO : PcsIn W A n f) (hm : n ≤ maxLen) :
    Calls Try.prog 4 #[.slice A n c] W fun e w' => e = .returned (.bool true) ∧ Below W.heap.size W w' := by
  have HO := Lib.hid hO
  have AW := Lib.hid (awake12_any W)
  have HM := Lib.hid (show n ≤ 9223372036854775807 from by unfold maxLen at hm; omega)
  clear hO hm
  go_enter Try.func4, Try.ntmps4
  go_wp2_with fail
  refine AW.out.mono ?_
  rintro e w1 ⟨rfl, hb1⟩
  have P0 := Lib.hid (wrAt_new w1 W.heap.size w1.heap.size rfl hb1.size)
  have B0 := Lib.hid (hb1.alloc hb1.size (.cells #[.slice none 0 0] wrT))
  clear hb1 AW
  go_wp2_with fail
  generalize w1.alloc (.cells #[.slice none 0 0] wrT) = V at *
  generalize w1.heap.size = g at *
  go_loopw [4] (fun i wr => ∃ (t : Nat) (h : Option Nat), t ≤ n ∧ t ≤ 60 ∧ i = .int .i64 t ∧ (∀ j, j < t → (f j).s.size ≤ 1000) ∧ WrAt wr W.heap.size g h (pcsB f t) ∧ Below W.heap.size W wr) (fun i _ => 60 - (intOf i).toNat)
  case atStart => exact ⟨0, none, Nat.zero_le _, by decide, rfl, fun j hj => absurd hj (by omega), P0.out, B0.out⟩
  case round =>
    clear P0 B0
    obtain ⟨t, h, htn, ht60, rfl, hsz, hp, hb⟩ := hrel
    have P := Lib.hid hp
    have B := Lib.hid hb
    have SZ := Lib.hid hsz
    have LE := Lib.hid (show (pcsB f t).length ≤ 60600 from Nat.le_trans (pcsB_len f t (fun j hj => pieceB_len (f j) ((HO.out.2 j (by omega)).1.2) (hsz j hj))) (by omega))
    clear hp hb hsz
    by_cases hlt : t < n ∧ t < 60
    · have hI : (t : Int) < n := by omega
      have hI6 : (t : Int) < 60 := by omega
      have HOT := HO.out.below B.out
      obtain ⟨b, off, rfl, hbB, hcs⟩ := HOT.1 (by omega)
      have hgood := HOT.2 t hlt.1
      have hcc := hcs t hlt.1
      have PS := Lib.hid (pcsB_succ f t)
      have PT := Lib.hid (fun hs => put_any (f t) W.heap.size g h (pcsB f t) [] (.slice none 0 0) wr ⟨P.out, Owns.nil _ _ _ _, fun b hb => by simp [Value.ownBlock] at hb⟩ B.out.size (by have := LE.out; omega) (by decide) hs hgood.1.1 hgood.1.2)
      have SN := Lib.hid (fun (hs : (f t).s.size ≤ 1000) j (hj : j < t + 1) => show (f j).s.size ≤ 1000 from by
        by_cases h : j = t
        · rw [h]; exact hs
        · exact SZ.out j (by omega))
      generalize f t = p at *
      have p0 : wr.cell? ⟨b, off + t * 3, none⟩ = some (.int .i64 p.kind) := hcc 0 _ rfl
      have p1 : wr.cell? ⟨b, off + t * 3 + 1, none⟩ = some (.int .i64 p.n) := by rw [Nat.add_assoc]; exact hcc 1 _ rfl
      have p2 : wr.cell? ⟨b, off + t * 3 + 2, none⟩ = some (.string p.s) := by rw [Nat.add_assoc]; exact hcc 2 _ rfl
      have hsz : p.s.size ≤ 140737488355328 := hgood.2
      clear hcs hcc HOT hgood
      by_cases hs : 1000 < p.s.size
      · have hS : (1000 : Int) < p.s.size := by omega
        go_wp2_with fail
        go_ret
        exact ⟨rfl, B.out⟩
      · have hS : ¬ (1000 : Int) < p.s.size := by omega
        have C := Lib.hid (PT.out (by omega))
        have SN := Lib.hid (SN.out (by omega))
        clear PT
        go_wp2_with fail
        refine C.out.mono ?_
        rintro e w2 ⟨h2, v2, rfl, hp2, hb2⟩
        have P2 := Lib.hid hp2.wr
        have B2 := Lib.hid (B.out.trans hb2)
        clear hp2 hb2 C
        go_wp2_with fail
        go_roundw
        case rel => exact ⟨t + 1, h2, by omega, by omega, by go_num, SN.out, by rw [PS.out]; exact P2.out, B2.out⟩
        case measure => simp [intOf]; omega
    · have hx : t = n ∨ (t = 60 ∧ t < n) := by omega
      have BY := Lib.hid (wbytes_any _ _ _ _ wr P.out (by have := LE.out; omega))
      have RB := Lib.hid (fun k => restB_bytes f t k)
      have RL := Lib.hid (fun k (hk : k ≤ t) => Nat.le_trans (restB_len f t k hk) LE.out)
      have R0 := Lib.hid (restB_zero f t)
      have RS := Lib.hid (fun k (hk : k < t) => restB_step f hk)
      have RE := Lib.hid (restB_end f t)
      clear hlt
      rcases hx with rfl | ⟨rfl, hx⟩
      · go_wp2_with fail
        refine BY.out.mono ?_
        rintro e w3 ⟨A', c', rfl, hb3, ho3⟩
        have RD := Lib.hid (read_any A' (pcsB f t).length c' (pcsB f t) w3 ho3.nums (by have := LE.out; omega))
        have B3 := Lib.hid (B.out.trans (hb3.mono B.out.size))
        clear hb3 ho3 BY P B
        go_wp2_with fail
        refine RD.out.mono ?_
        rintro e w4 ⟨gr, D, rfl, hgr, hD, hb4, hr4⟩
        rw [← R0.out] at hr4
        have R4 := Lib.hid hr4
        have B4 := Lib.hid (B3.out.trans (hb4.mono B3.out.size))
        have HG := Lib.hid (show W.heap.size ≤ gr from Nat.le_trans B3.out.size hgr)
        have SZP := Lib.hid SZ.out
        clear hgr hD hb4 hr4 B3 RD R0 LE SZ
        go_wp2_with fail
        go_loopw [6] (fun i wr => ∃ t2 : Nat, t2 ≤ t ∧ i = .int .i64 t2 ∧ RdAt wr gr D (restB f t t2) 0 ∧ Below W.heap.size W wr) (fun i _ => 60 - (intOf i).toNat)
        case atStart => exact ⟨0, Nat.zero_le _, rfl, R4.out, B4.out⟩
        case round =>
          clear R4 B4
          obtain ⟨t2, ht2, rfl, hr, hb⟩ := hrel
          have R := Lib.hid hr
          have B := Lib.hid hb
          clear hr hb
          by_cases hlt : t2 < t
          · have hI : (t2 : Int) < t := by omega
            have hI6 : (t2 : Int) < 60 := by omega
            have HOT := HO.out.below B.out
            obtain ⟨b, off, rfl, hbB, hcs⟩ := HOT.1 (by omega)
            have hgood := HOT.2 t2 (by omega)
            have hcc := hcs t2 (by omega)
            have HL := Lib.hid (show (restB f t (t2 + 1)).length ≤ 60600 from RL.out (t2 + 1) (by omega))
            have RB2 := Lib.hid (RB.out (t2 + 1))
            rw [RS.out t2 hlt] at R
            have hzs := SZP.out t2 hlt
            generalize f t2 = p at *
            generalize hrest : restB f t (t2 + 1) = rest at *
            have HR := Lib.hid hrest
            clear hrest
            obtain ⟨k, m, s⟩ := p
            have p0 : wr.cell? ⟨b, off + t2 * 3, none⟩ = some (.int .i64 k) := hcc 0 _ rfl
            have p1 : wr.cell? ⟨b, off + t2 * 3 + 1, none⟩ = some (.int .i64 m) := by rw [Nat.add_assoc]; exact hcc 1 _ rfl
            have p2 : wr.cell? ⟨b, off + t2 * 3 + 2, none⟩ = some (.string s) := by rw [Nat.add_assoc]; exact hcc 2 _ rfl
            have GM := Lib.hid (show -9223372036854775808 ≤ m ∧ m ≤ 9223372036854775807 from hgood.1)
            have GS := Lib.hid (show s.size ≤ 1000 from hzs)
            have NQ := Lib.hid (show ¬ RdS gr wr.heap.size from by have := R.out.lt.1; show ¬ _ = _; omega)
            clear hcs hcc HOT hgood hzs
            by_cases h0 : k = 0
            · subst h0
              rw [pieceB_0 (p := ⟨0, m, s⟩) rfl] at R
              have Q := Lib.hid (Whole.made wr pcT #[.int .i64 0, .int .i64 m, .string s] _ rfl)
              have ba := (Below.refl wr.heap.size wr).alloc (Nat.le_refl _) (.cells #[.int .i64 0, .int .i64 m, .string s] pcT)
              have RV := Lib.hid (R.out.below ba)
              have BV := Lib.hid (B.out.trans (ba.mono B.out.size))
              have q0 : (wr.alloc (.cells #[.int .i64 0, .int .i64 m, .string s] pcT)).cell? ⟨wr.heap.size, 0, none⟩ = some (.int .i64 0) := Q.out.cell 0
              clear ba
              obtain ⟨v, hv⟩ : ∃ v : Int, v = m % 256 := ⟨_, rfl⟩
              have hse : (v == m % 256) = true := by rw [hv]; simp
              have hsn : (!(v == m % 256)) = false := by rw [hse]; rfl
              have T := Lib.hid (fun y (h : RdAt y gr D (m % 256 :: rest) 0) => show Calls Try.prog 12 #[.pointer (some ⟨gr, 0, none⟩)] y (fun e w9 => e = .returned (.int .u8 v) ∧ RdAt w9 gr D rest 0 ∧ KeptS (RdS gr) y w9) from by rw [hv]; exact rbyte_yes gr D (m % 256) rest 0 y h (by have := HL.out; omega))
              clear hv
              clear R B
              go_wp2_with fail
              generalize wr.alloc (.cells #[.int .i64 0, .int .i64 m, .string s] pcT) = V2 at *
              generalize wr.heap.size = q at *
              have L0 : V2.drew.cell? ⟨q, 1, none⟩ = some (.int .i64 m) := Q.out.cell 1
              have TD := Lib.hid (T.out V2.drew (RV.out.below (Below.refl _ _).drew))
              clear T
              go_wp2_with fail
              go_region_held3 (fun y => y.cell? ⟨q, 1, none⟩ = some (.int .i64 m))
                (first
                  | with_reducible assumption
                  | with_reducible exact L0
                  | with_reducible exact S2.out
                  | fail)
                (first
                  | (go_at_call 12; refine TD.out.mono ?_; rintro e y1 ⟨rfl, hr, hk⟩; have S2 := Lib.hid (show y1.cell? ⟨q, 1, none⟩ = some (.int .i64 m) from (hk.whole (show Whole V2.drew q pcT _ from Q.out) NQ.out).cell 1); have R2 := Lib.hid hr; have K2 := Lib.hid (show KeptS (RdS gr) V2 y1 from (KeptS.ofBelow (S := RdS gr) (Below.refl _ _).drew).trans hk (fun i hi => .inl hi)); clear hr hk))
              all_goals
                rename_i hH
                clear hH L0 TD S2
                go_wp2_with fail
                · rename_i hh
                  rw [hsn] at hh
                  cases hh
                go_roundw
                case rel => exact ⟨t2 + 1, by omega, by go_num, by rw [HR.out]; exact R2.out, KeptS.below BV.out K2.out BV.out.size (fun i hi => by have hi : i = gr := hi; have := HG.out; omega)⟩
                case measure => simp [intOf]; omega
            by_cases h1 : k = 1
            · subst h1
              rw [pieceB_1 (p := ⟨1, m, s⟩) rfl] at R
              have Q := Lib.hid (Whole.made wr pcT #[.int .i64 1, .int .i64 m, .string s] _ rfl)
              have ba := (Below.refl wr.heap.size wr).alloc (Nat.le_refl _) (.cells #[.int .i64 1, .int .i64 m, .string s] pcT)
              have RV := Lib.hid (R.out.below ba)
              have BV := Lib.hid (B.out.trans (ba.mono B.out.size))
              have q0 : (wr.alloc (.cells #[.int .i64 1, .int .i64 m, .string s] pcT)).cell? ⟨wr.heap.size, 0, none⟩ = some (.int .i64 1) := Q.out.cell 0
              clear ba
              have CM := Lib.hid (show cntI m = cntB m.toNat from rfl)
              have HV := Lib.hid (show m.toNat ≤ 9223372036854775807 from by have := GM.out; omega)
              by_cases hneg : m < 0
              · have E := Lib.hid (show m.toNat = 0 by omega)
                have T := Lib.hid (fun y (h : RdAt y gr D (cntI m ++ rest) 0) => tk_count m.toNat gr D rest y (CM.out ▸ h) HL.out RB2.out HV.out)
                rw [E.out] at T
                clear R B
                go_wp2_with fail
                generalize wr.alloc (.cells #[.int .i64 1, .int .i64 m, .string s] pcT) = V2 at *
                generalize wr.heap.size = q at *
                have L0 : V2.drew.cell? ⟨q, 1, none⟩ = some (.int .i64 m) := Q.out.cell 1
                have TD := Lib.hid (T.out V2.drew (RV.out.below (Below.refl _ _).drew))
                clear T
                go_wp2_with fail
                go_region_held3 (fun y => y.cell? ⟨q, 1, none⟩ = some (.int .i64 m))
                  (first
                    | with_reducible assumption
                    | with_reducible exact L0
                    | with_reducible exact S2.out
                    | fail)
                  (first
                    | (go_at_call 13; refine TD.out.mono ?_; rintro e y1 ⟨rfl, hr, hk⟩; have S2 := Lib.hid (show y1.cell? ⟨q, 1, none⟩ = some (.int .i64 m) from (hk.whole (show Whole V2.drew q pcT _ from Q.out) NQ.out).cell 1); have R2 := Lib.hid hr; have K2 := Lib.hid (show KeptS (RdS gr) V2 y1 from (KeptS.ofBelow (S := RdS gr) (Below.refl _ _).drew).trans hk (fun i hi => .inl hi)); clear hr hk))
                all_goals
                  rename_i hH
                  clear hH L0 TD S2
                  go_wp2_with fail
                  go_roundw
                  case rel => exact ⟨t2 + 1, by omega, by go_num, by rw [HR.out]; exact R2.out, KeptS.below BV.out K2.out BV.out.size (fun i hi => by have hi : i = gr := hi; have := HG.out; omega)⟩
                  case measure => simp [intOf]; omega
              · have T := Lib.hid (fun y (h : RdAt y gr D (cntI m ++ rest) 0) => tk_count m.toNat gr D rest y (CM.out ▸ h) HL.out RB2.out HV.out)
                rw [Int.toNat_of_nonneg (by omega)] at T
                clear R B
                go_wp2_with fail
                generalize wr.alloc (.cells #[.int .i64 1, .int .i64 m, .string s] pcT) = V2 at *
                generalize wr.heap.size = q at *
                have L0 : V2.drew.cell? ⟨q, 1, none⟩ = some (.int .i64 m) := Q.out.cell 1
                have TD := Lib.hid (T.out V2.drew (RV.out.below (Below.refl _ _).drew))
                clear T
                go_wp2_with fail
                go_region_held3 (fun y => y.cell? ⟨q, 1, none⟩ = some (.int .i64 m))
                  (first
                    | with_reducible assumption
                    | with_reducible exact L0
                    | with_reducible exact S2.out
                    | fail)
                  (first
                    | (go_at_call 13; refine TD.out.mono ?_; rintro e y1 ⟨rfl, hr, hk⟩; have S2 := Lib.hid (show y1.cell? ⟨q, 1, none⟩ = some (.int .i64 m) from (hk.whole (show Whole V2.drew q pcT _ from Q.out) NQ.out).cell 1); have R2 := Lib.hid hr; have K2 := Lib.hid (show KeptS (RdS gr) V2 y1 from (KeptS.ofBelow (S := RdS gr) (Below.refl _ _).drew).trans hk (fun i hi => .inl hi)); clear hr hk))
                all_goals
                  rename_i hH
                  clear hH L0 TD S2
                  go_wp2_with fail
                  go_roundw
                  case rel => exact ⟨t2 + 1, by omega, by go_num, by rw [HR.out]; exact R2.out, KeptS.below BV.out K2.out BV.out.size (fun i hi => by have hi : i = gr := hi; have := HG.out; omega)⟩
                  case measure => simp [intOf]; omega
            by_cases h2 : k = 2
            · subst h2
              rw [pieceB_2 (p := ⟨2, m, s⟩) rfl] at R
              have Q := Lib.hid (Whole.made wr pcT #[.int .i64 2, .int .i64 m, .string s] _ rfl)
              have ba := (Below.refl wr.heap.size wr).alloc (Nat.le_refl _) (.cells #[.int .i64 2, .int .i64 m, .string s] pcT)
              have RV := Lib.hid (R.out.below ba)
              have BV := Lib.hid (B.out.trans (ba.mono B.out.size))
              have q0 : (wr.alloc (.cells #[.int .i64 2, .int .i64 m, .string s] pcT)).cell? ⟨wr.heap.size, 0, none⟩ = some (.int .i64 2) := Q.out.cell 0
              clear ba
              obtain ⟨v, hv⟩ : ∃ v : Int, v = wrap32 m := ⟨_, rfl⟩
              have hse : (v == wrap32 m) = true := by rw [hv]; simp
              have hsn : (!(v == wrap32 m)) = false := by rw [hse]; rfl
              have T := Lib.hid (fun y (h : RdAt y gr D (cntB (zigN (wrap32 m)) ++ rest) 0) => show Calls Try.prog 14 #[.pointer (some ⟨gr, 0, none⟩)] y (fun e w9 => e = .returned (.int .i32 v) ∧ RdAt w9 gr D rest 0 ∧ KeptS (RdS gr) y w9) from by rw [hv]; exact tk_number (wrap32 m) gr D rest y h HL.out RB2.out (w32_in m))
              clear hv
              clear R B
              go_wp2_with fail
              generalize wr.alloc (.cells #[.int .i64 2, .int .i64 m, .string s] pcT) = V2 at *
              generalize wr.heap.size = q at *
              have L0 : V2.drew.cell? ⟨q, 1, none⟩ = some (.int .i64 m) := Q.out.cell 1
              have TD := Lib.hid (T.out V2.drew (RV.out.below (Below.refl _ _).drew))
              clear T
              go_wp2_with fail
              go_region_held3 (fun y => y.cell? ⟨q, 1, none⟩ = some (.int .i64 m))
                (first
                  | with_reducible assumption
                  | with_reducible exact L0
                  | with_reducible exact S2.out
                  | fail)
                (first
                  | (go_at_call 14; refine TD.out.mono ?_; rintro e y1 ⟨rfl, hr, hk⟩; have S2 := Lib.hid (show y1.cell? ⟨q, 1, none⟩ = some (.int .i64 m) from (hk.whole (show Whole V2.drew q pcT _ from Q.out) NQ.out).cell 1); have R2 := Lib.hid hr; have K2 := Lib.hid (show KeptS (RdS gr) V2 y1 from (KeptS.ofBelow (S := RdS gr) (Below.refl _ _).drew).trans hk (fun i hi => .inl hi)); clear hr hk))
              all_goals
                rename_i hH
                clear hH L0 TD S2
                go_wp2_with fail
                · rename_i hh
                  rw [hsn] at hh
                  cases hh
                go_roundw
                case rel => exact ⟨t2 + 1, by omega, by go_num, by rw [HR.out]; exact R2.out, KeptS.below BV.out K2.out BV.out.size (fun i hi => by have hi : i = gr := hi; have := HG.out; omega)⟩
                case measure => simp [intOf]; omega
            by_cases h3 : k = 3
            · subst h3
              rw [pieceB_3 (p := ⟨3, m, s⟩) rfl] at R
              have Q := Lib.hid (Whole.made wr pcT #[.int .i64 3, .int .i64 m, .string s] _ rfl)
              have ba := (Below.refl wr.heap.size wr).alloc (Nat.le_refl _) (.cells #[.int .i64 3, .int .i64 m, .string s] pcT)
              have RV := Lib.hid (R.out.below ba)
              have BV := Lib.hid (B.out.trans (ba.mono B.out.size))
              have q0 : (wr.alloc (.cells #[.int .i64 3, .int .i64 m, .string s] pcT)).cell? ⟨wr.heap.size, 0, none⟩ = some (.int .i64 3) := Q.out.cell 0
              clear ba
              obtain ⟨v, hv⟩ : ∃ v : Int, v = m % 4294967296 := ⟨_, rfl⟩
              have hse : (v == m % 4294967296) = true := by rw [hv]; simp
              have hsn : (!(v == m % 4294967296)) = false := by rw [hse]; rfl
              have T := Lib.hid (fun y (h : RdAt y gr D (bytesOf (m % 4294967296) ++ rest) 0) => show Calls Try.prog 15 #[.pointer (some ⟨gr, 0, none⟩)] y (fun e w9 => e = .returned (.int .u32 v) ∧ RdAt w9 gr D rest 0 ∧ KeptS (RdS gr) y w9) from by rw [hv]; exact tk_word (m % 4294967296) gr D rest y h HL.out (by omega) (by omega))
              clear hv
              clear R B
              go_wp2_with fail
              generalize wr.alloc (.cells #[.int .i64 3, .int .i64 m, .string s] pcT) = V2 at *
              generalize wr.heap.size = q at *
              have L0 : V2.drew.cell? ⟨q, 1, none⟩ = some (.int .i64 m) := Q.out.cell 1
              have TD := Lib.hid (T.out V2.drew (RV.out.below (Below.refl _ _).drew))
              clear T
              go_wp2_with fail
              go_region_held3 (fun y => y.cell? ⟨q, 1, none⟩ = some (.int .i64 m))
                (first
                  | with_reducible assumption
                  | with_reducible exact L0
                  | with_reducible exact S2.out
                  | fail)
                (first
                  | (go_at_call 15; refine TD.out.mono ?_; rintro e y1 ⟨rfl, hr, hk⟩; have S2 := Lib.hid (show y1.cell? ⟨q, 1, none⟩ = some (.int .i64 m) from (hk.whole (show Whole V2.drew q pcT _ from Q.out) NQ.out).cell 1); have R2 := Lib.hid hr; have K2 := Lib.hid (show KeptS (RdS gr) V2 y1 from (KeptS.ofBelow (S := RdS gr) (Below.refl _ _).drew).trans hk (fun i hi => .inl hi)); clear hr hk))
              all_goals
                rename_i hH
                clear hH L0 TD S2
                go_wp2_with fail
                · rename_i hh
                  rw [hsn] at hh
                  cases hh
                go_roundw
                case rel => exact ⟨t2 + 1, by omega, by go_num, by rw [HR.out]; exact R2.out, KeptS.below BV.out K2.out BV.out.size (fun i hi => by have hi : i = gr := hi; have := HG.out; omega)⟩
                case measure => simp [intOf]; omega
            by_cases h4 : k = 4
            · subst h4
              rw [pieceB_4 (p := ⟨4, m, s⟩) rfl] at R
              have Q := Lib.hid (Whole.made wr pcT #[.int .i64 4, .int .i64 m, .string s] _ rfl)
              have ba := (Below.refl wr.heap.size wr).alloc (Nat.le_refl _) (.cells #[.int .i64 4, .int .i64 m, .string s] pcT)
              have RV := Lib.hid (R.out.below ba)
              have BV := Lib.hid (B.out.trans (ba.mono B.out.size))
              have q0 : (wr.alloc (.cells #[.int .i64 4, .int .i64 m, .string s] pcT)).cell? ⟨wr.heap.size, 0, none⟩ = some (.int .i64 4) := Q.out.cell 0
              clear ba
              have T := Lib.hid (fun y (h : RdAt y gr D (cntB s.size ++ strI s ++ rest) 0) => tk_text s gr D rest y h HL.out RB2.out GS.out)
              clear R B
              go_wp2_with fail
              generalize wr.alloc (.cells #[.int .i64 4, .int .i64 m, .string s] pcT) = V2 at *
              generalize wr.heap.size = q at *
              have L0 : V2.drew.cell? ⟨q, 2, none⟩ = some (.string s) := Q.out.cell 2
              have TD := Lib.hid (T.out V2.drew (RV.out.below (Below.refl _ _).drew))
              clear T
              go_wp2_with fail
              go_region_held3 (fun y => y.cell? ⟨q, 2, none⟩ = some (.string s))
                (first
                  | with_reducible assumption
                  | with_reducible exact L0
                  | with_reducible exact S2.out
                  | fail)
                (first
                  | (go_at_call 16; refine TD.out.mono ?_; rintro e y1 ⟨rfl, hr, hk⟩; have S2 := Lib.hid (show y1.cell? ⟨q, 2, none⟩ = some (.string s) from (hk.whole (show Whole V2.drew q pcT _ from Q.out) NQ.out).cell 2); have R2 := Lib.hid hr; have K2 := Lib.hid (show KeptS (RdS gr) V2 y1 from (KeptS.ofBelow (S := RdS gr) (Below.refl _ _).drew).trans hk (fun i hi => .inl hi)); clear hr hk))
              all_goals
                rename_i hH
                clear hH L0 TD S2
                go_wp2_with fail
                go_roundw
                case rel => exact ⟨t2 + 1, by omega, by go_num, by rw [HR.out]; exact R2.out, KeptS.below BV.out K2.out BV.out.size (fun i hi => by have hi : i = gr := hi; have := HG.out; omega)⟩
                case measure => simp [intOf]; omega
            rw [pieceB_5 (p := ⟨k, m, s⟩) h0 h1 h2 h3 h4, List.nil_append] at R
            have Q := Lib.hid (Whole.made wr pcT #[.int .i64 k, .int .i64 m, .string s] _ rfl)
            have ba := (Below.refl wr.heap.size wr).alloc (Nat.le_refl _) (.cells #[.int .i64 k, .int .i64 m, .string s] pcT)
            have RV := Lib.hid (R.out.below ba)
            have BV := Lib.hid (B.out.trans (ba.mono B.out.size))
            have q0 : (wr.alloc (.cells #[.int .i64 k, .int .i64 m, .string s] pcT)).cell? ⟨wr.heap.size, 0, none⟩ = some (.int .i64 k) := Q.out.cell 0
            clear ba
            have k0 : (k == 0) = false := by simp [h0]
            have k1 : (k == 1) = false := by simp [h1]
            have k2 : (k == 2) = false := by simp [h2]
            have k3 : (k == 3) = false := by simp [h3]
            have k4 : (k == 4) = false := by simp [h4]
            clear R B
            go_wp2_with fail
            go_roundw
            case rel => exact ⟨t2 + 1, by omega, by go_num, by rw [HR.out]; exact RV.out, BV.out⟩
            case measure => simp [intOf]; omega
          · obtain rfl : t2 = t := by omega
            rw [RE.out] at R
            have EN := Lib.hid (rend_any gr D [] 0 wr R.out (by decide))
            go_wp2_with fail
            refine EN.out.mono ?_
            rintro e w9 ⟨rfl, rfl⟩
            go_wp2_with fail
            go_ret
            exact ⟨rfl, B.out⟩
      · have hI0 : (60 : Int) < n := by omega
        go_wp2_with fail
        refine BY.out.mono ?_
        rintro e w3 ⟨A', c', rfl, hb3, ho3⟩
        have RD := Lib.hid (read_any A' (pcsB f 60).length c' (pcsB f 60) w3 ho3.nums (by have := LE.out; omega))
        have B3 := Lib.hid (B.out.trans (hb3.mono B.out.size))
        clear hb3 ho3 BY P B
        go_wp2_with fail
        refine RD.out.mono ?_
        rintro e w4 ⟨gr, D, rfl, hgr, hD, hb4, hr4⟩
        rw [← R0.out] at hr4
        have R4 := Lib.hid hr4
        have B4 := Lib.hid (B3.out.trans (hb4.mono B3.out.size))
        have HG := Lib.hid (show W.heap.size ≤ gr from Nat.le_trans B3.out.size hgr)
        have SZP := Lib.hid SZ.out
        clear hgr hD hb4 hr4 B3 RD R0 LE SZ
        go_wp2_with fail
        go_loopw [6] (fun i wr => ∃ t2 : Nat, t2 ≤ 60 ∧ i = .int .i64 t2 ∧ RdAt wr gr D (restB f 60 t2) 0 ∧ Below W.heap.size W wr) (fun i _ => 60 - (intOf i).toNat)
        case atStart => exact ⟨0, Nat.zero_le _, rfl, R4.out, B4.out⟩
        case round =>
          clear R4 B4
          obtain ⟨t2, ht2, rfl, hr, hb⟩ := hrel
          have R := Lib.hid hr
          have B := Lib.hid hb
          clear hr hb
          by_cases hlt : t2 < 60
          · have hI : (t2 : Int) < n := by omega
            have hI6 : (t2 : Int) < 60 := by omega
            have HOT := HO.out.below B.out
            obtain ⟨b, off, rfl, hbB, hcs⟩ := HOT.1 (by omega)
            have hgood := HOT.2 t2 (by omega)
            have hcc := hcs t2 (by omega)
            have HL := Lib.hid (show (restB f 60 (t2 + 1)).length ≤ 60600 from RL.out (t2 + 1) (by omega))
            have RB2 := Lib.hid (RB.out (t2 + 1))
            rw [RS.out t2 hlt] at R
            have hzs := SZP.out t2 hlt
            generalize f t2 = p at *
            generalize hrest : restB f 60 (t2 + 1) = rest at *
            have HR := Lib.hid hrest
            clear hrest
            obtain ⟨k, m, s⟩ := p
            have p0 : wr.cell? ⟨b, off + t2 * 3, none⟩ = some (.int .i64 k) := hcc 0 _ rfl
            have p1 : wr.cell? ⟨b, off + t2 * 3 + 1, none⟩ = some (.int .i64 m) := by rw [Nat.add_assoc]; exact hcc 1 _ rfl
            have p2 : wr.cell? ⟨b, off + t2 * 3 + 2, none⟩ = some (.string s) := by rw [Nat.add_assoc]; exact hcc 2 _ rfl
            have GM := Lib.hid (show -9223372036854775808 ≤ m ∧ m ≤ 9223372036854775807 from hgood.1)
            have GS := Lib.hid (show s.size ≤ 1000 from hzs)
            have NQ := Lib.hid (show ¬ RdS gr wr.heap.size from by have := R.out.lt.1; show ¬ _ = _; omega)
            clear hcs hcc HOT hgood hzs
            by_cases h0 : k = 0
            · subst h0
              rw [pieceB_0 (p := ⟨0, m, s⟩) rfl] at R
              have Q := Lib.hid (Whole.made wr pcT #[.int .i64 0, .int .i64 m, .string s] _ rfl)
              have ba := (Below.refl wr.heap.size wr).alloc (Nat.le_refl _) (.cells #[.int .i64 0, .int .i64 m, .string s] pcT)
              have RV := Lib.hid (R.out.below ba)
              have BV := Lib.hid (B.out.trans (ba.mono B.out.size))
              have q0 : (wr.alloc (.cells #[.int .i64 0, .int .i64 m, .string s] pcT)).cell? ⟨wr.heap.size, 0, none⟩ = some (.int .i64 0) := Q.out.cell 0
              clear ba
              obtain ⟨v, hv⟩ : ∃ v : Int, v = m % 256 := ⟨_, rfl⟩
              have hse : (v == m % 256) = true := by rw [hv]; simp
              have hsn : (!(v == m % 256)) = false := by rw [hse]; rfl
              have T := Lib.hid (fun y (h : RdAt y gr D (m % 256 :: rest) 0) => show Calls Try.prog 12 #[.pointer (some ⟨gr, 0, none⟩)] y (fun e w9 => e = .returned (.int .u8 v) ∧ RdAt w9 gr D rest 0 ∧ KeptS (RdS gr) y w9) from by rw [hv]; exact rbyte_yes gr D (m % 256) rest 0 y h (by have := HL.out; omega))
              clear hv
              clear R B
              go_wp2_with fail
              generalize wr.alloc (.cells #[.int .i64 0, .int .i64 m, .string s] pcT) = V2 at *
              generalize wr.heap.size = q at *
              have L0 : V2.drew.cell? ⟨q, 1, none⟩ = some (.int .i64 m) := Q.out.cell 1
              have TD := Lib.hid (T.out V2.drew (RV.out.below (Below.refl _ _).drew))
              clear T
              go_wp2_with fail
              go_region_held3 (fun y => y.cell? ⟨q, 1, none⟩ = some (.int .i64 m))
                (first
                  | with_reducible assumption
                  | with_reducible exact L0
                  | with_reducible exact S2.out
                  | fail)
                (first
                  | (go_at_call 12; refine TD.out.mono ?_; rintro e y1 ⟨rfl, hr, hk⟩; have S2 := Lib.hid (show y1.cell? ⟨q, 1, none⟩ = some (.int .i64 m) from (hk.whole (show Whole V2.drew q pcT _ from Q.out) NQ.out).cell 1); have R2 := Lib.hid hr; have K2 := Lib.hid (show KeptS (RdS gr) V2 y1 from (KeptS.ofBelow (S := RdS gr) (Below.refl _ _).drew).trans hk (fun i hi => .inl hi)); clear hr hk))
              all_goals
                rename_i hH
                clear hH L0 TD S2
                go_wp2_with fail
                · rename_i hh
                  rw [hsn] at hh
                  cases hh
                go_roundw
                case rel => exact ⟨t2 + 1, by omega, by go_num, by rw [HR.out]; exact R2.out, KeptS.below BV.out K2.out BV.out.size (fun i hi => by have hi : i = gr := hi; have := HG.out; omega)⟩
                case measure => simp [intOf]; omega
            by_cases h1 : k = 1
            · subst h1
              rw [pieceB_1 (p := ⟨1, m, s⟩) rfl] at R
              have Q := Lib.hid (Whole.made wr pcT #[.int .i64 1, .int .i64 m, .string s] _ rfl)
              have ba := (Below.refl wr.heap.size wr).alloc (Nat.le_refl _) (.cells #[.int .i64 1, .int .i64 m, .string s] pcT)
              have RV := Lib.hid (R.out.below ba)
              have BV := Lib.hid (B.out.trans (ba.mono B.out.size))
              have q0 : (wr.alloc (.cells #[.int .i64 1, .int .i64 m, .string s] pcT)).cell? ⟨wr.heap.size, 0, none⟩ = some (.int .i64 1) := Q.out.cell 0
              clear ba
              have CM := Lib.hid (show cntI m = cntB m.toNat from rfl)
              have HV := Lib.hid (show m.toNat ≤ 9223372036854775807 from by have := GM.out; omega)
              by_cases hneg : m < 0
              · have E := Lib.hid (show m.toNat = 0 by omega)
                have T := Lib.hid (fun y (h : RdAt y gr D (cntI m ++ rest) 0) => tk_count m.toNat gr D rest y (CM.out ▸ h) HL.out RB2.out HV.out)
                rw [E.out] at T
                clear R B
                go_wp2_with fail
                generalize wr.alloc (.cells #[.int .i64 1, .int .i64 m, .string s] pcT) = V2 at *
                generalize wr.heap.size = q at *
                have L0 : V2.drew.cell? ⟨q, 1, none⟩ = some (.int .i64 m) := Q.out.cell 1
                have TD := Lib.hid (T.out V2.drew (RV.out.below (Below.refl _ _).drew))
                clear T
                go_wp2_with fail
                go_region_held3 (fun y => y.cell? ⟨q, 1, none⟩ = some (.int .i64 m))
                  (first
                    | with_reducible assumption
                    | with_reducible exact L0
                    | with_reducible exact S2.out
                    | fail)
                  (first
                    | (go_at_call 13; refine TD.out.mono ?_; rintro e y1 ⟨rfl, hr, hk⟩; have S2 := Lib.hid (show y1.cell? ⟨q, 1, none⟩ = some (.int .i64 m) from (hk.whole (show Whole V2.drew q pcT _ from Q.out) NQ.out).cell 1); have R2 := Lib.hid hr; have K2 := Lib.hid (show KeptS (RdS gr) V2 y1 from (KeptS.ofBelow (S := RdS gr) (Below.refl _ _).drew).trans hk (fun i hi => .inl hi)); clear hr hk))
                all_goals
                  rename_i hH
                  clear hH L0 TD S2
                  go_wp2_with fail
                  go_roundw
                  case rel => exact ⟨t2 + 1, by omega, by go_num, by rw [HR.out]; exact R2.out, KeptS.below BV.out K2.out BV.out.size (fun i hi => by have hi : i = gr := hi; have := HG.out; omega)⟩
                  case measure => simp [intOf]; omega
              · have T := Lib.hid (fun y (h : RdAt y gr D (cntI m ++ rest) 0) => tk_count m.toNat gr D rest y (CM.out ▸ h) HL.out RB2.out HV.out)
                rw [Int.toNat_of_nonneg (by omega)] at T
                clear R B
                go_wp2_with fail
                generalize wr.alloc (.cells #[.int .i64 1, .int .i64 m, .string s] pcT) = V2 at *
                generalize wr.heap.size = q at *
                have L0 : V2.drew.cell? ⟨q, 1, none⟩ = some (.int .i64 m) := Q.out.cell 1
                have TD := Lib.hid (T.out V2.drew (RV.out.below (Below.refl _ _).drew))
                clear T
                go_wp2_with fail
                go_region_held3 (fun y => y.cell? ⟨q, 1, none⟩ = some (.int .i64 m))
                  (first
                    | with_reducible assumption
                    | with_reducible exact L0
                    | with_reducible exact S2.out
                    | fail)
                  (first
                    | (go_at_call 13; refine TD.out.mono ?_; rintro e y1 ⟨rfl, hr, hk⟩; have S2 := Lib.hid (show y1.cell? ⟨q, 1, none⟩ = some (.int .i64 m) from (hk.whole (show Whole V2.drew q pcT _ from Q.out) NQ.out).cell 1); have R2 := Lib.hid hr; have K2 := Lib.hid (show KeptS (RdS gr) V2 y1 from (KeptS.ofBelow (S := RdS gr) (Below.refl _ _).drew).trans hk (fun i hi => .inl hi)); clear hr hk))
                all_goals
                  rename_i hH
                  clear hH L0 TD S2
                  go_wp2_with fail
                  go_roundw
                  case rel => exact ⟨t2 + 1, by omega, by go_num, by rw [HR.out]; exact R2.out, KeptS.below BV.out K2.out BV.out.size (fun i hi => by have hi : i = gr := hi; have := HG.out; omega)⟩
                  case measure => simp [intOf]; omega
            by_cases h2 : k = 2
            · subst h2
              rw [pieceB_2 (p := ⟨2, m, s⟩) rfl] at R
              have Q := Lib.hid (Whole.made wr pcT #[.int .i64 2, .int .i64 m, .string s] _ rfl)
              have ba := (Below.refl wr.heap.size wr).alloc (Nat.le_refl _) (.cells #[.int .i64 2, .int .i64 m, .string s] pcT)
              have RV := Lib.hid (R.out.below ba)
              have BV := Lib.hid (B.out.trans (ba.mono B.out.size))
              have q0 : (wr.alloc (.cells #[.int .i64 2, .int .i64 m, .string s] pcT)).cell? ⟨wr.heap.size, 0, none⟩ = some (.int .i64 2) := Q.out.cell 0
              clear ba
              obtain ⟨v, hv⟩ : ∃ v : Int, v = wrap32 m := ⟨_, rfl⟩
              have hse : (v == wrap32 m) = true := by rw [hv]; simp
              have hsn : (!(v == wrap32 m)) = false := by rw [hse]; rfl
              have T := Lib.hid (fun y (h : RdAt y gr D (cntB (zigN (wrap32 m)) ++ rest) 0) => show Calls Try.prog 14 #[.pointer (some ⟨gr, 0, none⟩)] y (fun e w9 => e = .returned (.int .i32 v) ∧ RdAt w9 gr D rest 0 ∧ KeptS (RdS gr) y w9) from by rw [hv]; exact tk_number (wrap32 m) gr D rest y h HL.out RB2.out (w32_in m))
              clear hv
              clear R B
              go_wp2_with fail
              generalize wr.alloc (.cells #[.int .i64 2, .int .i64 m, .string s] pcT) = V2 at *
              generalize wr.heap.size = q at *
              have L0 : V2.drew.cell? ⟨q, 1, none⟩ = some (.int .i64 m) := Q.out.cell 1
              have TD := Lib.hid (T.out V2.drew (RV.out.below (Below.refl _ _).drew))
              clear T
              go_wp2_with fail
              go_region_held3 (fun y => y.cell? ⟨q, 1, none⟩ = some (.int .i64 m))
                (first
                  | with_reducible assumption
                  | with_reducible exact L0
                  | with_reducible exact S2.out
                  | fail)
                (first
                  | (go_at_call 14; refine TD.out.mono ?_; rintro e y1 ⟨rfl, hr, hk⟩; have S2 := Lib.hid (show y1.cell? ⟨q, 1, none⟩ = some (.int .i64 m) from (hk.whole (show Whole V2.drew q pcT _ from Q.out) NQ.out).cell 1); have R2 := Lib.hid hr; have K2 := Lib.hid (show KeptS (RdS gr) V2 y1 from (KeptS.ofBelow (S := RdS gr) (Below.refl _ _).drew).trans hk (fun i hi => .inl hi)); clear hr hk))
              all_goals
                rename_i hH
                clear hH L0 TD S2
                go_wp2_with fail
                · rename_i hh
                  rw [hsn] at hh
                  cases hh
                go_roundw
                case rel => exact ⟨t2 + 1, by omega, by go_num, by rw [HR.out]; exact R2.out, KeptS.below BV.out K2.out BV.out.size (fun i hi => by have hi : i = gr := hi; have := HG.out; omega)⟩
                case measure => simp [intOf]; omega
            by_cases h3 : k = 3
            · subst h3
              rw [pieceB_3 (p := ⟨3, m, s⟩) rfl] at R
              have Q := Lib.hid (Whole.made wr pcT #[.int .i64 3, .int .i64 m, .string s] _ rfl)
              have ba := (Below.refl wr.heap.size wr).alloc (Nat.le_refl _) (.cells #[.int .i64 3, .int .i64 m, .string s] pcT)
              have RV := Lib.hid (R.out.below ba)
              have BV := Lib.hid (B.out.trans (ba.mono B.out.size))
              have q0 : (wr.alloc (.cells #[.int .i64 3, .int .i64 m, .string s] pcT)).cell? ⟨wr.heap.size, 0, none⟩ = some (.int .i64 3) := Q.out.cell 0
              clear ba
              obtain ⟨v, hv⟩ : ∃ v : Int, v = m % 4294967296 := ⟨_, rfl⟩
              have hse : (v == m % 4294967296) = true := by rw [hv]; simp
              have hsn : (!(v == m % 4294967296)) = false := by rw [hse]; rfl
              have T := Lib.hid (fun y (h : RdAt y gr D (bytesOf (m % 4294967296) ++ rest) 0) => show Calls Try.prog 15 #[.pointer (some ⟨gr, 0, none⟩)] y (fun e w9 => e = .returned (.int .u32 v) ∧ RdAt w9 gr D rest 0 ∧ KeptS (RdS gr) y w9) from by rw [hv]; exact tk_word (m % 4294967296) gr D rest y h HL.out (by omega) (by omega))
              clear hv
              clear R B
              go_wp2_with fail
              generalize wr.alloc (.cells #[.int .i64 3, .int .i64 m, .string s] pcT) = V2 at *
              generalize wr.heap.size = q at *
              have L0 : V2.drew.cell? ⟨q, 1, none⟩ = some (.int .i64 m) := Q.out.cell 1
              have TD := Lib.hid (T.out V2.drew (RV.out.below (Below.refl _ _).drew))
              clear T
              go_wp2_with fail
              go_region_held3 (fun y => y.cell? ⟨q, 1, none⟩ = some (.int .i64 m))
                (first
                  | with_reducible assumption
                  | with_reducible exact L0
                  | with_reducible exact S2.out
                  | fail)
                (first
                  | (go_at_call 15; refine TD.out.mono ?_; rintro e y1 ⟨rfl, hr, hk⟩; have S2 := Lib.hid (show y1.cell? ⟨q, 1, none⟩ = some (.int .i64 m) from (hk.whole (show Whole V2.drew q pcT _ from Q.out) NQ.out).cell 1); have R2 := Lib.hid hr; have K2 := Lib.hid (show KeptS (RdS gr) V2 y1 from (KeptS.ofBelow (S := RdS gr) (Below.refl _ _).drew).trans hk (fun i hi => .inl hi)); clear hr hk))
              all_goals
                rename_i hH
                clear hH L0 TD S2
                go_wp2_with fail
                · rename_i hh
                  rw [hsn] at hh
                  cases hh
                go_roundw
                case rel => exact ⟨t2 + 1, by omega, by go_num, by rw [HR.out]; exact R2.out, KeptS.below BV.out K2.out BV.out.size (fun i hi => by have hi : i = gr := hi; have := HG.out; omega)⟩
                case measure => simp [intOf]; omega
            by_cases h4 : k = 4
            · subst h4
              rw [pieceB_4 (p := ⟨4, m, s⟩) rfl] at R
              have Q := Lib.hid (Whole.made wr pcT #[.int .i64 4, .int .i64 m, .string s] _ rfl)
              have ba := (Below.refl wr.heap.size wr).alloc (Nat.le_refl _) (.cells #[.int .i64 4, .int .i64 m, .string s] pcT)
              have RV := Lib.hid (R.out.below ba)
              have BV := Lib.hid (B.out.trans (ba.mono B.out.size))
              have q0 : (wr.alloc (.cells #[.int .i64 4, .int .i64 m, .string s] pcT)).cell? ⟨wr.heap.size, 0, none⟩ = some (.int .i64 4) := Q.out.cell 0
              clear ba
              have T := Lib.hid (fun y (h : RdAt y gr D (cntB s.size ++ strI s ++ rest) 0) => tk_text s gr D rest y h HL.out RB2.out GS.out)
              clear R B
              go_wp2_with fail
              generalize wr.alloc (.cells #[.int .i64 4, .int .i64 m, .string s] pcT) = V2 at *
              generalize wr.heap.size = q at *
              have L0 : V2.drew.cell? ⟨q, 2, none⟩ = some (.string s) := Q.out.cell 2
              have TD := Lib.hid (T.out V2.drew (RV.out.below (Below.refl _ _).drew))
              clear T
              go_wp2_with fail
              go_region_held3 (fun y => y.cell? ⟨q, 2, none⟩ = some (.string s))
                (first
                  | with_reducible assumption
                  | with_reducible exact L0
                  | with_reducible exact S2.out
                  | fail)
                (first
                  | (go_at_call 16; refine TD.out.mono ?_; rintro e y1 ⟨rfl, hr, hk⟩; have S2 := Lib.hid (show y1.cell? ⟨q, 2, none⟩ = some (.string s) from (hk.whole (show Whole V2.drew q pcT _ from Q.out) NQ.out).cell 2); have R2 := Lib.hid hr; have K2 := Lib.hid (show KeptS (RdS gr) V2 y1 from (KeptS.ofBelow (S := RdS gr) (Below.refl _ _).drew).trans hk (fun i hi => .inl hi)); clear hr hk))
              all_goals
                rename_i hH
                clear hH L0 TD S2
                go_wp2_with fail
                go_roundw
                case rel => exact ⟨t2 + 1, by omega, by go_num, by rw [HR.out]; exact R2.out, KeptS.below BV.out K2.out BV.out.size (fun i hi => by have hi : i = gr := hi; have := HG.out; omega)⟩
                case measure => simp [intOf]; omega
            rw [pieceB_5 (p := ⟨k, m, s⟩) h0 h1 h2 h3 h4, List.nil_append] at R
            have Q := Lib.hid (Whole.made wr pcT #[.int .i64 k, .int .i64 m, .string s] _ rfl)
            have ba := (Below.refl wr.heap.size wr).alloc (Nat.le_refl _) (.cells #[.int .i64 k, .int .i64 m, .string s] pcT)
            have RV := Lib.hid (R.out.below ba)
            have BV := Lib.hid (B.out.trans (ba.mono B.out.size))
            have q0 : (wr.alloc (.cells #[.int .i64 k, .int .i64 m, .string s] pcT)).cell? ⟨wr.heap.size, 0, none⟩ = some (.int .i64 k) := Q.out.cell 0
            clear ba
            have k0 : (k == 0) = false := by simp [h0]
            have k1 : (k == 1) = false := by simp [h1]
            have k2 : (k == 2) = false := by simp [h2]
            have k3 : (k == 3) = false := by simp [h3]
            have k4 : (k == 4) = false := by simp [h4]
            clear R B
            go_wp2_with fail
            go_roundw
            case rel => exact ⟨t2 + 1, by omega, by go_num, by rw [HR.out]; exact RV.out, BV.out⟩
            case measure => simp [intOf]; omega
          · obtain rfl : t2 = 60 := by omega
            rw [RE.out] at R
            have EN := Lib.hid (rend_any gr D [] 0 wr R.out (by decide))
            go_wp2_with fail
            refine EN.out.mono ?_
            rintro e w9 ⟨rfl, rfl⟩
            go_wp2_with fail
            go_ret
            exact ⟨rfl, B.out⟩
end Go.Proofs.Ytcoinciednbeaaa
