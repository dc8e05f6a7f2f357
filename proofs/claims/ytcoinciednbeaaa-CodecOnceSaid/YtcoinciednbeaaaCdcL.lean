/- Codec: the law CodecOnce. -/
import Derived.Test.YtcoinciednbeaaaCdcJ
namespace Go.Proofs.Ytcoinciednbeaaa
open Go.ChangeShapes Go.WideShapes Go.ChangeAt Go.RowKit
set_option linter.unusedVariables false
set_option linter.unusedSimpArgs false

theorem takeG_err : ∀ (bs : List Int) (k : Nat) (e : Int), takeG k bs = .error e → e = 120 ∨ e = 121
  | [], k, e, h => by
    rw [takeG_nil] at h
    injection h with h
    exact .inl h.symm
  | b :: bs, k, e, h => by
    by_cases hbad : k = 9 ∨ (0 < k ∧ b = 0)
    · rw [takeG_bad hbad] at h
      injection h with h
      exact .inr h.symm
    · by_cases hl : b < 128
      · rw [takeG_last hbad hl] at h
        cases h
      · rw [takeG_more hbad hl] at h
        cases ht : takeG (k + 1) bs with
        | error e' =>
          rw [ht] at h
          injection h with h
          subst h
          exact takeG_err bs (k + 1) _ ht
        | ok p =>
          rw [ht] at h
          cases h

/-- What End answers. -/
def endP (r : List Int) (e : Int) : Int := if r = [] then e else 121

theorem endP_zero {r : List Int} {e : Int} (h : endP r e = 0) : r = [] ∧ e = 0 := by
  unfold endP at h
  split at h
  · exact ⟨by assumption, h⟩
  · cases h

theorem groups_once {zs : List Int} (hz : ∀ b ∈ zs, 0 ≤ b ∧ b ≤ 255) (most : Nat) (h : (groupsP zs 0 most).2.2 = 0) : zs = cntB (groupsP zs 0 most).1 ++ (groupsP zs 0 most).2.1 := by
  cases ht : takeG 0 zs with
  | error e =>
    rw [groupsP_bad ht] at h
    have h : errP 0 e = 0 := h
    rw [show errP 0 e = e from if_pos rfl] at h
    rcases takeG_err zs 0 e ht with he | he <;> omega
  | ok p =>
    obtain ⟨n, r⟩ := p
    by_cases hn : most < n
    · rw [groupsP_big ht hn] at h
      exact absurd h (by decide)
    · rw [groupsP_ok ht hn]
      exact (takeG_once zs 0 n r (by decide) hz ht).1

theorem strI_ofNums {l : List Int} (h : ∀ b ∈ l, 0 ≤ b ∧ b ≤ 255) : strI (strOfNums l) = l := by
  unfold strI strOfNums
  simp only [List.map_map]
  induction l with
  | nil => rfl
  | cons b l ih =>
    rw [List.map_cons, ih (fun x hx => h x (List.mem_cons_of_mem _ hx))]
    congr 1
    have := h b List.mem_cons_self
    simp
    omega

theorem ofNums_size (l : List Int) : (strOfNums l).size = l.length := by
  show (strOfNums l).data.size = _
  simp [strOfNums]

theorem text_once {zs : List Int} (hz : ∀ b ∈ zs, 0 ≤ b ∧ b ≤ 255) (most : Nat) (h : endP (textP zs 0 most).2.1 (textP zs 0 most).2.2 = 0) : zs = cntB (textP zs 0 most).1.size ++ strI (textP zs 0 most).1 := by
  obtain ⟨h1, h2⟩ := endP_zero h
  unfold textP at h1 h2 ⊢
  by_cases hn : (groupsP zs 0 most).1 ≤ (groupsP zs 0 most).2.1.length
  · rw [if_pos hn] at h1 h2 ⊢
    have h1 : (groupsP zs 0 most).2.1.drop (groupsP zs 0 most).1 = [] := h1
    have h2 : (groupsP zs 0 most).2.2 = 0 := h2
    have hg := groups_once hz most h2
    have hr := (groupsP_rest zs 0 most).2
    have hl : (groupsP zs 0 most).2.1.length ≤ (groupsP zs 0 most).1 := List.drop_eq_nil_iff.1 h1
    show zs = cntB (strOfNums ((groupsP zs 0 most).2.1.take (groupsP zs 0 most).1)).size ++ strI (strOfNums ((groupsP zs 0 most).2.1.take (groupsP zs 0 most).1))
    rw [List.take_of_length_le hl, ofNums_size, strI_ofNums (fun b hb => hz b (hr b hb)), show (groupsP zs 0 most).2.1.length = (groupsP zs 0 most).1 by omega]
    exact hg
  · rw [if_neg hn] at h2
    have h2 : errP (groupsP zs 0 most).2.2 120 = 0 := h2
    unfold errP at h2
    split at h2
    · cases h2
    · exact absurd h2 (by assumption)

theorem textP_size (zs : List Int) (err : Int) (most : Nat) (hm : zs.length ≤ 200) : (textP zs err most).1.size ≤ 200 := by
  unfold textP
  have := (groupsP_rest zs err most).1
  split
  · show (strOfNums _).size ≤ 200
    rw [ofNums_size, List.length_take]
    omega
  · exact Nat.zero_le _

/-- A Reader's call, and a Writer's behind it. -/
theorem pair_done {w w1 w2 : World} {B ga gx Dx : Nat} {bs r : List Int} {e : Int} (hw : WrAt w B ga none []) (k1 : KeptS (RdS gx) w w1) (r1 : RdAt w1 gx Dx r e) (hag : gx ≠ ga) (had : Dx ≠ ga) (q : WrPost w1 w2 B ga none bs) :
    RdAt w2 gx Dx r e ∧ KeptS (fun i => i = gx ∨ i = ga) w w2 ∧ ∃ ha, WrAt w2 B ga ha bs ∧ ∀ b, ha = some b → w.heap.size ≤ b := by
  obtain ⟨ha, a2, k2, o2⟩ := q
  refine ⟨r1.keep k2 (fun h => ?_) (fun h => ?_), ?_, ha, a2, fun b hb => ?_⟩
  · rcases h with h | h
    · exact hag h
    · cases h
  · rcases h with h | h
    · exact had h
    · cases h
  · have k1' : KeptS (fun i => i = gx ∨ i = ga) w w1 := ⟨k1.os, k1.tape, k1.output, k1.size, fun i hi hn => k1.block i hi (fun h => hn (.inl h))⟩
    refine k1'.trans k2 (fun i hi => ?_)
    rcases hi with hi | hi
    · exact .inl (.inr hi)
    · cases hi
  · have := k1.size
    rcases o2 with rfl | ⟨b', rfl, hb'⟩
    · cases hb
    · injection hb with hb
      omega

theorem textP_rest (zs : List Int) (err : Int) (most : Nat) : (textP zs err most).2.1.length ≤ zs.length := by
  unfold textP
  have := (groupsP_rest zs err most).1
  split
  · show (List.drop _ _).length ≤ _
    rw [List.length_drop]
    omega
  · exact Nat.zero_le _

set_option maxHeartbeats 8000000 in
set_option maxRecDepth 100000 in
theorem once_walk (W : World) (A : Option Addr) (n c : Nat) (zs : List Int) (hz : Nums .u8 W A n zs) (hm : n ≤ maxLen) (wz : ∀ z ∈ zs, 0 ≤ z ∧ z ≤ 255) :
    Calls Try.prog 5 #[.slice A n c] W fun e w' => e = .returned (.bool true) ∧ Below W.heap.size W w' := by
  have AW := Lib.hid (awake12_any W)
  have HZ := Lib.hid hz
  by_cases hn : 200 < n
  · have hI : (200 : Int) < n := by omega
    clear hz hm
    go_enter Try.func5, Try.ntmps5
    go_wp2_with fail
    refine AW.out.mono ?_
    rintro e w1 ⟨rfl, hb1⟩
    have B1 := Lib.hid hb1
    clear hb1
    go_wp2_with fail
    go_ret
    exact ⟨rfl, B1.out⟩
  · have hI : ¬ (200 : Int) < n := by omega
    have hzl := hz.1
    have F1 := Lib.hid (fun h => groups_once wz 9223372036854775807 h)
    have F2 := Lib.hid (fun h => groups_once wz 4294967295 h)
    have F3 := Lib.hid (fun h => text_once wz 1000 h)
    have L1 := Lib.hid (groupsP_le zs 0 9223372036854775807)
    have L2 := Lib.hid (groupsP_le zs 0 4294967295)
    have L3 := Lib.hid (textP_size zs 0 1000 (by omega))
    have S1 := Lib.hid (groupsP_rest zs 0 9223372036854775807).1
    have S2 := Lib.hid (groupsP_rest zs 0 4294967295).1
    have S3 := Lib.hid (textP_rest zs 0 1000)
    have XC := Lib.hid (fun g D w h => rcount_any 9223372036854775807 g D zs 0 w h (by omega) wz (by decide))
    have YC := Lib.hid (fun g D w h => rnumber_any g D zs 0 w h (by omega) wz)
    have ZC := Lib.hid (fun g D w h => rtext_any 1000 g D zs 0 w h (by omega) wz (by decide))
    have HL := Lib.hid (show zs.length ≤ 200 by omega)
    generalize groupsP zs 0 9223372036854775807 = px at *
    generalize groupsP zs 0 4294967295 = py at *
    generalize textP zs 0 1000 = pz at *
    obtain ⟨n1, r1, e1⟩ := px
    obtain ⟨n2, r2, e2⟩ := py
    obtain ⟨s3, r3, e3⟩ := pz
    have hn1 : n1 ≤ 9223372036854775807 := L1.out
    have HN2 := Lib.hid (show n2 ≤ 4294967295 from L2.out)
    have HZ3 := Lib.hid (show s3.size ≤ 200 from L3.out)
    have RD := Lib.hid (fun w (hb : Below W.heap.size W w) => read_any A n c zs w (HZ.out.below hb) (by omega))
    clear hz hm wz L1 L2 L3
    go_enter Try.func5, Try.ntmps5
    go_wp2_with fail
    refine AW.out.mono ?_
    rintro e w1 ⟨rfl, hb1⟩
    have z1 : (w1.alloc (.cells #[.slice none 0 0] wrT)).heap.size = w1.heap.size + 1 := by simp
    have z2 : ((w1.alloc (.cells #[.slice none 0 0] wrT)).alloc (.cells #[.slice none 0 0] wrT)).heap.size = w1.heap.size + 1 + 1 := by simp
    have z3 : (((w1.alloc (.cells #[.slice none 0 0] wrT)).alloc (.cells #[.slice none 0 0] wrT)).alloc (.cells #[.slice none 0 0] wrT)).heap.size = w1.heap.size + 1 + 1 + 1 := by simp
    have b12 := (Below.refl (w1.alloc (.cells #[.slice none 0 0] wrT)).heap.size (w1.alloc (.cells #[.slice none 0 0] wrT))).alloc (Nat.le_refl _) (.cells #[.slice none 0 0] wrT)
    have b23 := (Below.refl ((w1.alloc (.cells #[.slice none 0 0] wrT)).alloc (.cells #[.slice none 0 0] wrT)).heap.size ((w1.alloc (.cells #[.slice none 0 0] wrT)).alloc (.cells #[.slice none 0 0] wrT))).alloc (Nat.le_refl _) (.cells #[.slice none 0 0] wrT)
    have g0 := hb1.size
    have WA := Lib.hid (((wrAt_new w1 W.heap.size w1.heap.size rfl g0).below b12).below b23)
    have WB := Lib.hid ((wrAt_new (w1.alloc (.cells #[.slice none 0 0] wrT)) W.heap.size (w1.heap.size + 1) z1.symm (by omega)).below b23)
    have WC := Lib.hid (wrAt_new ((w1.alloc (.cells #[.slice none 0 0] wrT)).alloc (.cells #[.slice none 0 0] wrT)) W.heap.size (w1.heap.size + 1 + 1) z2.symm (by omega))
    have BV := Lib.hid (((hb1.alloc g0 (.cells #[.slice none 0 0] wrT)).alloc (by omega) (.cells #[.slice none 0 0] wrT)).alloc (by omega) (.cells #[.slice none 0 0] wrT))
    have ZV := Lib.hid z3
    have G0 := Lib.hid g0
    clear hb1 AW z1 z2 z3 b12 b23 g0
    go_wp2_with fail
    generalize (((w1.alloc (.cells #[.slice none 0 0] wrT)).alloc (.cells #[.slice none 0 0] wrT)).alloc (.cells #[.slice none 0 0] wrT)) = V at *
    generalize w1.heap.size = ga at *
    refine (RD.out V BV.out).mono ?_
    rintro e wx ⟨gx, Dx, rfl, hgx, hDx, hbx, hrx⟩
    have BX := Lib.hid (BV.out.trans (hbx.mono BV.out.size))
    have WA1 := Lib.hid (WA.out.below hbx)
    have WB1 := Lib.hid (WB.out.below hbx)
    have WC1 := Lib.hid (WC.out.below hbx)
    have OX := Lib.hid (show ga + 1 + 1 + 1 ≤ gx ∧ ga + 1 + 1 + 1 ≤ Dx ∧ gx < wx.heap.size ∧ Dx < wx.heap.size from ⟨by have := ZV.out; omega, by have := ZV.out; omega, hrx.lt.1, hrx.lt.2⟩)
    have RX1 := Lib.hid hrx
    clear hgx hDx hbx hrx WA WB WC BV ZV
    go_wp2_with fail
    refine (RD.out wx BX.out).mono ?_
    rintro e wy ⟨gy, Dy, rfl, hgy, hDy, hby, hry⟩
    have BY := Lib.hid (BX.out.trans (hby.mono BX.out.size))
    have WA2 := Lib.hid (WA1.out.below hby)
    have WB2 := Lib.hid (WB1.out.below hby)
    have WC2 := Lib.hid (WC1.out.below hby)
    have RX2 := Lib.hid (RX1.out.below hby)
    have OY := Lib.hid (show wx.heap.size ≤ gy ∧ wx.heap.size ≤ Dy ∧ gy < wy.heap.size ∧ Dy < wy.heap.size from ⟨hgy, hDy, hry.lt.1, hry.lt.2⟩)
    have RY2 := Lib.hid hry
    clear hgy hDy hby hry WA1 WB1 WC1 RX1 BX
    go_wp2_with fail
    refine (RD.out wy BY.out).mono ?_
    rintro e wz ⟨gz, Dz, rfl, hgz, hDz, hbz, hrz⟩
    have BZ := Lib.hid (BY.out.trans (hbz.mono BY.out.size))
    have WA3 := Lib.hid (WA2.out.below hbz)
    have WB3 := Lib.hid (WB2.out.below hbz)
    have WC3 := Lib.hid (WC2.out.below hbz)
    have RX3 := Lib.hid (RX2.out.below hbz)
    have RY3 := Lib.hid (RY2.out.below hbz)
    have RZ3 := Lib.hid hrz
    have OZ := Lib.hid (show wy.heap.size ≤ gz ∧ wy.heap.size ≤ Dz ∧ gz < wz.heap.size ∧ Dz < wz.heap.size from ⟨hgz, hDz, hrz.lt.1, hrz.lt.2⟩)
    clear hgz hDz hbz hrz WA2 WB2 WC2 RX2 RY2 BY RD
    have OR := Lib.hid (show W.heap.size ≤ ga ∧ ga + 1 + 1 + 1 ≤ gx ∧ ga + 1 + 1 + 1 ≤ Dx ∧ gx < gy ∧ gx < Dy ∧ Dx < gy ∧ Dx < Dy ∧ gy < gz ∧ gy < Dz ∧ Dy < gz ∧ Dy < Dz ∧ gz < wz.heap.size ∧ Dz < wz.heap.size from by have h0 := G0.out; have h1 := OX.out; have h2 := OY.out; have h3 := OZ.out; omega)
    clear OX OY OZ G0
    go_wp2_with fail
    refine (XC.out gx Dx wz RX3.out).mono ?_
    rintro e w4 ⟨rfl, hr4, hk4⟩
    have K4 := Lib.hid hk4
    have R4 := Lib.hid hr4
    have WA4 := Lib.hid (WA3.out.keep hk4 (by have := OR.out; show ¬ _ = _; omega) (fun b hb => by cases hb))
    have Z4 := Lib.hid (Nat.le_trans BZ.out.size hk4.size)
    clear hr4 hk4 XC
    go_wp2_with fail
    refine (wcount_any n1 W.heap.size ga none [] w4 WA4.out Z4.out (by decide) (by omega) (by omega)).mono ?_
    rintro e w5 ⟨rfl, hq5⟩
    obtain ⟨rx5, k5, ha, wa5, fa⟩ := pair_done WA3.out K4.out R4.out (by have := OR.out; omega) (by have := OR.out; omega) hq5
    have RX5 := Lib.hid rx5
    have WA5 := Lib.hid (show WrAt w5 W.heap.size ga ha (cntB n1) from wa5)
    have FA := Lib.hid fa
    have RY5 := Lib.hid (RY3.out.keep k5 (by have := OR.out; show ¬ (_ = _ ∨ _ = _); omega) (by have := OR.out; show ¬ (_ = _ ∨ _ = _); omega))
    have RZ5 := Lib.hid (RZ3.out.keep k5 (by have := OR.out; show ¬ (_ = _ ∨ _ = _); omega) (by have := OR.out; show ¬ (_ = _ ∨ _ = _); omega))
    have WB5 := Lib.hid (WB3.out.keep k5 (by have := OR.out; show ¬ (_ = _ ∨ _ = _); omega) (fun b hb => by cases hb))
    have WC5 := Lib.hid (WC3.out.keep k5 (by have := OR.out; show ¬ (_ = _ ∨ _ = _); omega) (fun b hb => by cases hb))
    have B5 := Lib.hid (KeptS.below BZ.out k5 BZ.out.size (fun i hi => by have := OR.out; have hi : i = gx ∨ i = ga := hi; omega))
    have SZ5 := Lib.hid k5.size
    clear hq5 rx5 wa5 fa k5 K4 R4 WA4 Z4 RX3 RY3 RZ3 WA3 WB3 WC3 BZ
    go_wp2_with fail
    refine (YC.out gy Dy w5 RY5.out).mono ?_
    rintro e w6 ⟨rfl, hr6, hk6⟩
    have K6 := Lib.hid hk6
    have R6 := Lib.hid hr6
    have WB6 := Lib.hid (WB5.out.keep hk6 (by have := OR.out; show ¬ _ = _; omega) (fun b hb => by cases hb))
    have Z6 := Lib.hid (Nat.le_trans B5.out.size hk6.size)
    have ZI := Lib.hid (zagN_in HN2.out)
    clear hr6 hk6 YC
    go_wp2_with fail
    refine (wnumber_any (zagN n2) W.heap.size (ga + 1) none [] w6 WB6.out Z6.out (by decide) ZI.out.1 ZI.out.2).mono ?_
    rintro e w7 ⟨rfl, hq7⟩
    rw [zigN_zagN] at hq7
    obtain ⟨ry7, k7, hbk, wb7, fb⟩ := pair_done WB5.out K6.out R6.out (by have := OR.out; omega) (by have := OR.out; omega) hq7
    have RY7 := Lib.hid ry7
    have WB7 := Lib.hid (show WrAt w7 W.heap.size (ga + 1) hbk (cntB n2) from wb7)
    have FB := Lib.hid fb
    have RX7 := Lib.hid (RX5.out.keep k7 (by have := OR.out; show ¬ (_ = _ ∨ _ = _); omega) (by have := OR.out; show ¬ (_ = _ ∨ _ = _); omega))
    have RZ7 := Lib.hid (RZ5.out.keep k7 (by have := OR.out; show ¬ (_ = _ ∨ _ = _); omega) (by have := OR.out; show ¬ (_ = _ ∨ _ = _); omega))
    have WA7 := Lib.hid (WA5.out.keep k7 (by have := OR.out; show ¬ (_ = _ ∨ _ = _); omega) (fun b hb => by have := FA.out b hb; have := OR.out; show ¬ (_ = _ ∨ _ = _); omega))
    have WC7 := Lib.hid (WC5.out.keep k7 (by have := OR.out; show ¬ (_ = _ ∨ _ = _); omega) (fun b hb => by cases hb))
    have B7 := Lib.hid (KeptS.below B5.out k7 B5.out.size (fun i hi => by have := OR.out; have hi : i = gy ∨ i = ga + 1 := hi; omega))
    have SZ7 := Lib.hid (Nat.le_trans SZ5.out k7.size)
    clear hq7 ry7 wb7 fb k7 K6 R6 WB6 Z6 RX5 RY5 RZ5 WA5 WB5 WC5 B5
    go_wp2_with fail
    refine (ZC.out gz Dz w7 RZ7.out).mono ?_
    rintro e w8 ⟨rfl, hr8, hk8⟩
    have K8 := Lib.hid hk8
    have R8 := Lib.hid hr8
    have WC8 := Lib.hid (WC7.out.keep hk8 (by have := OR.out; show ¬ _ = _; omega) (fun b hb => by cases hb))
    have Z8 := Lib.hid (Nat.le_trans B7.out.size hk8.size)
    clear hr8 hk8 ZC
    go_wp2_with fail
    refine (wtext_any s3 W.heap.size (ga + 1 + 1) none [] w8 WC8.out Z8.out (by decide) (by have := HZ3.out; omega)).mono ?_
    rintro e w9 ⟨rfl, hq9⟩
    obtain ⟨rz9, k9, hck, wc9, fc⟩ := pair_done WC7.out K8.out R8.out (by have := OR.out; omega) (by have := OR.out; omega) hq9
    have RZ9 := Lib.hid rz9
    have WC9 := Lib.hid (show WrAt w9 W.heap.size (ga + 1 + 1) hck (cntB s3.size ++ strI s3) from wc9)
    have RX9 := Lib.hid (RX7.out.keep k9 (by have := OR.out; show ¬ (_ = _ ∨ _ = _); omega) (by have := OR.out; show ¬ (_ = _ ∨ _ = _); omega))
    have RY9 := Lib.hid (RY7.out.keep k9 (by have := OR.out; show ¬ (_ = _ ∨ _ = _); omega) (by have := OR.out; show ¬ (_ = _ ∨ _ = _); omega))
    have WA9 := Lib.hid (WA7.out.keep k9 (by have := OR.out; show ¬ (_ = _ ∨ _ = _); omega) (fun b hb => by have := FA.out b hb; have := OR.out; show ¬ (_ = _ ∨ _ = _); omega))
    have WB9 := Lib.hid (WB7.out.keep k9 (by have := OR.out; show ¬ (_ = _ ∨ _ = _); omega) (fun b hb => by have := FB.out b hb; have := SZ5.out; have := OR.out; show ¬ (_ = _ ∨ _ = _); omega))
    have B9 := Lib.hid (KeptS.below B7.out k9 B7.out.size (fun i hi => by have := OR.out; have hi : i = gz ∨ i = ga + 1 + 1 := hi; omega))
    clear hq9 rz9 wc9 fc k9 K8 R8 WC8 Z8 RX7 RY7 RZ7 WA7 WB7 WC7 B7 SZ5 SZ7 FA FB OR
    have XL := Lib.hid (show (cntB n1).length ≤ 10 from cntB_len10 (by omega))
    have YL := Lib.hid (show (cntB n2).length ≤ 10 from cntB_len10 (by have := HN2.out; omega))
    have ZL := Lib.hid (show (cntB s3.size ++ strI s3).length ≤ 1000 from by
      have := cntB_len10 (n := s3.size) (by have := HZ3.out; omega)
      rw [List.length_append, strI_len]
      have := HZ3.out
      omega)
    have XE := Lib.hid (fun y (hb : Below w9.heap.size w9 y) => show Calls Try.prog 17 #[.pointer (some ⟨gx, 0, none⟩)] y fun e w' => e = .returned (.int .i64 (endP r1 e1)) ∧ y = w' from rend_any gx Dx r1 e1 y (RX9.out.below hb) (by have := S1.out; have := HL.out; have h : r1.length ≤ zs.length := S1.out; omega))
    have YE := Lib.hid (fun y (hb : Below w9.heap.size w9 y) => show Calls Try.prog 17 #[.pointer (some ⟨gy, 0, none⟩)] y fun e w' => e = .returned (.int .i64 (endP r2 e2)) ∧ y = w' from rend_any gy Dy r2 e2 y (RY9.out.below hb) (by have := HL.out; have h : r2.length ≤ zs.length := S2.out; omega))
    have ZE := Lib.hid (fun y (hb : Below w9.heap.size w9 y) => show Calls Try.prog 17 #[.pointer (some ⟨gz, 0, none⟩)] y fun e w' => e = .returned (.int .i64 (endP r3 e3)) ∧ y = w' from rend_any gz Dz r3 e3 y (RZ9.out.below hb) (by have := HL.out; have h : r3.length ≤ zs.length := S3.out; omega))
    have XB := Lib.hid (fun y (hb : Below w9.heap.size w9 y) => wbytes_any _ _ _ _ y (WA9.out.below hb) (by have := XL.out; omega))
    have YB := Lib.hid (fun y (hb : Below w9.heap.size w9 y) => wbytes_any _ _ _ _ y (WB9.out.below hb) (by have := YL.out; omega))
    have ZB := Lib.hid (fun y (hb : Below w9.heap.size w9 y) => wbytes_any _ _ _ _ y (WC9.out.below hb) (by have := ZL.out; omega))
    have XF := Lib.hid (show endP r1 e1 = 0 → cntB n1 = zs from fun h => by
      obtain ⟨h1, h2⟩ := endP_zero h
      have := F1.out h2
      rw [h1, List.append_nil] at this
      exact this.symm)
    have YF := Lib.hid (show endP r2 e2 = 0 → cntB n2 = zs from fun h => by
      obtain ⟨h1, h2⟩ := endP_zero h
      have := F2.out h2
      rw [h1, List.append_nil] at this
      exact this.symm)
    have ZF := Lib.hid (show endP r3 e3 = 0 → cntB s3.size ++ strI s3 = zs from fun h => (F3.out h).symm)
    have SM := Lib.hid (fun (bs : List Int) (hl : bs.length ≤ 1000) (he : bs = zs) y (hb : Below w9.heap.size w9 y) (A' : Option Addr) (c' : Nat) (hx : Nums .u8 y A' bs.length bs) => show Calls Try.prog 8 #[.slice A' bs.length c', .slice A n c] y fun e w' => e = .returned (.bool true) ∧ Below y.heap.size y w' from (same_any A' A bs.length n c' c bs zs y (by omega) hx (HZ.out.below (B9.out.trans (hb.mono B9.out.size)))).mono (fun e w' ⟨h1, h2⟩ => ⟨by rw [h1, he]; simp, h2⟩))
    clear RX9 RY9 RZ9 WA9 WB9 WC9 F1 F2 F3 S1 S2 S3 HZ
    generalize endP r1 e1 = E1 at *
    generalize endP r2 e2 = E2 at *
    generalize endP r3 e3 = E3 at *
    generalize cntB n1 = X at *
    generalize cntB n2 = Y at *
    generalize cntB s3.size ++ strI s3 = Z at *
    have BC0 := Lib.hid (Below.refl w9.heap.size w9)
    go_wp2_with fail
    refine (XE.out w9 BC0.out).mono ?_
    rintro e wq0 ⟨rfl, rfl⟩
    by_cases h0 : E1 = 0
    · have eq0 : (E1 == 0) = true := by simp [h0]
      have ne0 : (E1 != 0) = false := by simp [h0]
      have HF0 := Lib.hid (XF.out h0)
      clear h0
      go_wp2_with fail
      refine (XB.out w9 BC0.out).mono ?_
      rintro e wb0 ⟨A0, c0, rfl, hb0, ho0⟩
      have T0 := Lib.hid (BC0.out.trans (hb0.mono BC0.out.size))
      have N0 := Lib.hid ho0.nums
      clear hb0 ho0
      go_wp2_with fail
      refine (SM.out X (by have := XL.out; omega) HF0.out wb0 T0.out A0 c0 N0.out).mono ?_
      rintro e ws0 ⟨rfl, hs0⟩
      have BC1 := Lib.hid (T0.out.trans (hs0.mono T0.out.size))
      clear hs0 T0 N0
      go_wp2_with fail
      refine (YE.out ws0 BC1.out).mono ?_
      rintro e wq1 ⟨rfl, rfl⟩
      by_cases h1 : E2 = 0
      · have eq1 : (E2 == 0) = true := by simp [h1]
        have ne1 : (E2 != 0) = false := by simp [h1]
        have HF1 := Lib.hid (YF.out h1)
        clear h1
        go_wp2_with fail
        refine (YB.out ws0 BC1.out).mono ?_
        rintro e wb1 ⟨A1, c1, rfl, hb1, ho1⟩
        have T1 := Lib.hid (BC1.out.trans (hb1.mono BC1.out.size))
        have N1 := Lib.hid ho1.nums
        clear hb1 ho1
        go_wp2_with fail
        refine (SM.out Y (by have := YL.out; omega) HF1.out wb1 T1.out A1 c1 N1.out).mono ?_
        rintro e ws1 ⟨rfl, hs1⟩
        have BC2 := Lib.hid (T1.out.trans (hs1.mono T1.out.size))
        clear hs1 T1 N1
        go_wp2_with fail
        refine (ZE.out ws1 BC2.out).mono ?_
        rintro e wq2 ⟨rfl, rfl⟩
        by_cases h2 : E3 = 0
        · have eq2 : (E3 == 0) = true := by simp [h2]
          have ne2 : (E3 != 0) = false := by simp [h2]
          have HF2 := Lib.hid (ZF.out h2)
          clear h2
          go_wp2_with fail
          refine (ZB.out ws1 BC2.out).mono ?_
          rintro e wb2 ⟨A2, c2, rfl, hb2, ho2⟩
          have T2 := Lib.hid (BC2.out.trans (hb2.mono BC2.out.size))
          have N2 := Lib.hid ho2.nums
          clear hb2 ho2
          go_wp2_with fail
          refine (SM.out Z (by have := ZL.out; omega) HF2.out wb2 T2.out A2 c2 N2.out).mono ?_
          rintro e ws2 ⟨rfl, hs2⟩
          have BC3 := Lib.hid (T2.out.trans (hs2.mono T2.out.size))
          clear hs2 T2 N2
          go_wp2_with fail
          go_ret
          exact ⟨rfl, B9.out.trans (BC3.out.mono B9.out.size)⟩
        · have eq2 : (E3 == 0) = false := by simp [h2]
          have ne2 : (E3 != 0) = true := by simp [h2]
          have BC3 := Lib.hid BC2.out
          have HH2 := Lib.hid h2
          clear h2
          go_wp2_with fail
          go_ret
          exact ⟨rfl, B9.out.trans (BC3.out.mono B9.out.size)⟩
      · have eq1 : (E2 == 0) = false := by simp [h1]
        have ne1 : (E2 != 0) = true := by simp [h1]
        have BC2 := Lib.hid BC1.out
        have HH1 := Lib.hid h1
        clear h1
        go_wp2_with fail
        refine (ZE.out ws0 BC2.out).mono ?_
        rintro e wq2 ⟨rfl, rfl⟩
        by_cases h2 : E3 = 0
        · have eq2 : (E3 == 0) = true := by simp [h2]
          have ne2 : (E3 != 0) = false := by simp [h2]
          have HF2 := Lib.hid (ZF.out h2)
          clear h2
          go_wp2_with fail
          refine (ZB.out ws0 BC2.out).mono ?_
          rintro e wb2 ⟨A2, c2, rfl, hb2, ho2⟩
          have T2 := Lib.hid (BC2.out.trans (hb2.mono BC2.out.size))
          have N2 := Lib.hid ho2.nums
          clear hb2 ho2
          go_wp2_with fail
          refine (SM.out Z (by have := ZL.out; omega) HF2.out wb2 T2.out A2 c2 N2.out).mono ?_
          rintro e ws2 ⟨rfl, hs2⟩
          have BC3 := Lib.hid (T2.out.trans (hs2.mono T2.out.size))
          clear hs2 T2 N2
          go_wp2_with fail
          go_ret
          exact ⟨rfl, B9.out.trans (BC3.out.mono B9.out.size)⟩
        · have eq2 : (E3 == 0) = false := by simp [h2]
          have ne2 : (E3 != 0) = true := by simp [h2]
          have BC3 := Lib.hid BC2.out
          have HH2 := Lib.hid h2
          clear h2
          go_wp2_with fail
          go_ret
          exact ⟨rfl, B9.out.trans (BC3.out.mono B9.out.size)⟩
    · have eq0 : (E1 == 0) = false := by simp [h0]
      have ne0 : (E1 != 0) = true := by simp [h0]
      have BC1 := Lib.hid BC0.out
      have HH0 := Lib.hid h0
      clear h0
      go_wp2_with fail
      refine (YE.out w9 BC1.out).mono ?_
      rintro e wq1 ⟨rfl, rfl⟩
      by_cases h1 : E2 = 0
      · have eq1 : (E2 == 0) = true := by simp [h1]
        have ne1 : (E2 != 0) = false := by simp [h1]
        have HF1 := Lib.hid (YF.out h1)
        clear h1
        go_wp2_with fail
        refine (YB.out w9 BC1.out).mono ?_
        rintro e wb1 ⟨A1, c1, rfl, hb1, ho1⟩
        have T1 := Lib.hid (BC1.out.trans (hb1.mono BC1.out.size))
        have N1 := Lib.hid ho1.nums
        clear hb1 ho1
        go_wp2_with fail
        refine (SM.out Y (by have := YL.out; omega) HF1.out wb1 T1.out A1 c1 N1.out).mono ?_
        rintro e ws1 ⟨rfl, hs1⟩
        have BC2 := Lib.hid (T1.out.trans (hs1.mono T1.out.size))
        clear hs1 T1 N1
        go_wp2_with fail
        refine (ZE.out ws1 BC2.out).mono ?_
        rintro e wq2 ⟨rfl, rfl⟩
        by_cases h2 : E3 = 0
        · have eq2 : (E3 == 0) = true := by simp [h2]
          have ne2 : (E3 != 0) = false := by simp [h2]
          have HF2 := Lib.hid (ZF.out h2)
          clear h2
          go_wp2_with fail
          refine (ZB.out ws1 BC2.out).mono ?_
          rintro e wb2 ⟨A2, c2, rfl, hb2, ho2⟩
          have T2 := Lib.hid (BC2.out.trans (hb2.mono BC2.out.size))
          have N2 := Lib.hid ho2.nums
          clear hb2 ho2
          go_wp2_with fail
          refine (SM.out Z (by have := ZL.out; omega) HF2.out wb2 T2.out A2 c2 N2.out).mono ?_
          rintro e ws2 ⟨rfl, hs2⟩
          have BC3 := Lib.hid (T2.out.trans (hs2.mono T2.out.size))
          clear hs2 T2 N2
          go_wp2_with fail
          go_ret
          exact ⟨rfl, B9.out.trans (BC3.out.mono B9.out.size)⟩
        · have eq2 : (E3 == 0) = false := by simp [h2]
          have ne2 : (E3 != 0) = true := by simp [h2]
          have BC3 := Lib.hid BC2.out
          have HH2 := Lib.hid h2
          clear h2
          go_wp2_with fail
          go_ret
          exact ⟨rfl, B9.out.trans (BC3.out.mono B9.out.size)⟩
      · have eq1 : (E2 == 0) = false := by simp [h1]
        have ne1 : (E2 != 0) = true := by simp [h1]
        have BC2 := Lib.hid BC1.out
        have HH1 := Lib.hid h1
        clear h1
        go_wp2_with fail
        refine (ZE.out w9 BC2.out).mono ?_
        rintro e wq2 ⟨rfl, rfl⟩
        by_cases h2 : E3 = 0
        · have eq2 : (E3 == 0) = true := by simp [h2]
          have ne2 : (E3 != 0) = false := by simp [h2]
          have HF2 := Lib.hid (ZF.out h2)
          clear h2
          go_wp2_with fail
          refine (ZB.out w9 BC2.out).mono ?_
          rintro e wb2 ⟨A2, c2, rfl, hb2, ho2⟩
          have T2 := Lib.hid (BC2.out.trans (hb2.mono BC2.out.size))
          have N2 := Lib.hid ho2.nums
          clear hb2 ho2
          go_wp2_with fail
          refine (SM.out Z (by have := ZL.out; omega) HF2.out wb2 T2.out A2 c2 N2.out).mono ?_
          rintro e ws2 ⟨rfl, hs2⟩
          have BC3 := Lib.hid (T2.out.trans (hs2.mono T2.out.size))
          clear hs2 T2 N2
          go_wp2_with fail
          go_ret
          exact ⟨rfl, B9.out.trans (BC3.out.mono B9.out.size)⟩
        · have eq2 : (E3 == 0) = false := by simp [h2]
          have ne2 : (E3 != 0) = true := by simp [h2]
          have BC3 := Lib.hid BC2.out
          have HH2 := Lib.hid h2
          clear h2
          go_wp2_with fail
          go_ret
          exact ⟨rfl, B9.out.trans (BC3.out.mono B9.out.size)⟩
end Go.Proofs.Ytcoinciednbeaaa
