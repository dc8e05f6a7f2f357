/- MemoryGuards: whatever memory has been made by stores, fills and clones, a store changes no word of code or of tables; what it stored is loaded, and every other word stays. No condition beyond the row's own. -/
import Derived.Test.YtojjfpplhgfpfaaRows
import Derived.Test.YtojjfpplhgfpfaaLift
import Derived.Test.YtojjfpplhgfpfaaMemR
import Derived.Test.YtojjfpplhgfpfaaMemT
namespace Go.Proofs.Ytojjfpplhgfpfaa.lawMemoryGuards
open Go.ChangeShapes Go.WideShapes Go.ChangeAt Go.RowKit
set_option linter.unusedVariables false
/-- A layout that is tried: its words. -/
theorem few_words {e0 e1 e2 e3 e4 : Int} {n2 : Nat} {f : Nat → OpR} (u0 : U32 e0) (u1 : U32 e1) (u2 : U32 e2) (u3 : U32 e3) (u4 : U32 e4) (hF : FewOk e0 e1 e2 e3 e4 n2 f) (hok : okEnds e0 e1 e2 e3 e4 = true) : ∃ n : Nat, e4 = 4 * n ∧ n ≤ 1024 ∧ e0 ≤ e4 ∧ e1 ≤ e4 := by
  have hk := hok
  unfold okEnds at hk
  simp only [Bool.and_eq_true] at hk
  obtain ⟨h0, h1, h2, h3, h4⟩ := hk
  have a1 := okEnd_yes h1
  have a2 := okEnd_yes h2
  have a3 := okEnd_yes h3
  have a4 := okEnd_yes h4
  have hs : ¬ 4096 < e4 := fun h => hF.1 ⟨hok, h⟩
  have := u4.1
  exact ⟨(e4 / 4).toNat, by omega, by omega, by omega, by omega⟩

theorem storeWs_same {at_ e1 e4 v : Int} {ws : List Int} (h : storeRes at_ e1 e4 ≠ 0) : storeWs at_ e1 e4 v ws = ws := by
  unfold storeWs
  rw [if_neg h]

theorem storeRes_zero {at_ e1 e4 : Int} (h : storeRes at_ e1 e4 = 0) : at_ % 4 = 0 ∧ at_ < e4 ∧ e1 ≤ at_ := by
  unfold storeRes at h
  split at h
  · rename_i h1
    exact absurd h h1
  · rename_i h1
    obtain ⟨a, b⟩ := checkRes_zero (show checkRes at_ e4 = 0 by omega)
    split at h
    · omega
    · exact ⟨a, b, by omega⟩

theorem readVal_at {t : Nat} {e4 : Int} (h : 4 * (t : Int) < e4) (ws : List Int) : readVal (4 * t) e4 ws = ws.getD t 0 := by
  unfold readVal
  rw [checkRes_ok (by omega) h, if_pos rfl]
  congr 1
  omega

/-- What the loop sees of word t behind the store. -/
def SeenAt (at_ e1 v sr : Int) (t : Nat) (x y : Int) : Prop := (sr = 0 ∧ 4 * (t : Int) = at_ ∧ x = v ∧ e1 ≤ 4 * (t : Int)) ∨ ((sr ≠ 0 ∨ 4 * (t : Int) ≠ at_) ∧ x = y)

theorem seen_at {at_ e1 e4 v : Int} {ws : List Int} {t : Nat} (ha : 0 ≤ at_) (ht : t < ws.length) : SeenAt at_ e1 v (storeRes at_ e1 e4) t ((storeWs at_ e1 e4 v ws).getD t 0) (ws.getD t 0) := by
  by_cases h : storeRes at_ e1 e4 = 0
  · obtain ⟨z0, z1, z2⟩ := storeRes_zero h
    have e : storeWs at_ e1 e4 v ws = ws.set (at_ / 4).toNat v := by unfold storeWs; rw [if_pos h]
    rw [e]
    by_cases hq : (at_ / 4).toNat = t
    · left
      refine ⟨h, by omega, ?_, by omega⟩
      rw [hq]
      simp [List.getD, ht]
    · right
      refine ⟨.inr (by omega), ?_⟩
      simp [List.getD, hq]
  · right
    rw [storeWs_same h]
    exact ⟨.inl h, rfl⟩

set_option maxHeartbeats 16000000 in
set_option maxRecDepth 100000 in
theorem walk (w : World) (e0 : Int) (v0 : (Lit.int .u32 e0).wf = true) (e1 : Int) (v1 : (Lit.int .u32 e1).wf = true) (e2 : Int) (v2 : (Lit.int .u32 e2).wf = true) (e3 : Int) (v3 : (Lit.int .u32 e3).wf = true) (e4 : Int) (v4 : (Lit.int .u32 e4).wf = true) (A : Option Addr) (n2 c : Nat) (f : Nat → OpR) (hO : OpsAt w A n2 f) (hm : n2 ≤ maxLen) (o : OpR) (ho : OpIn w o) :
    Calls Try.prog 6 #[.agg #[.int .u32 e0, .int .u32 e1, .int .u32 e2, .int .u32 e3, .int .u32 e4], .slice A n2 c, .agg #[.int .i64 o.kind, .int .u32 o.at_, .int .u32 o.v, .slice o.A o.m o.c]] w fun e w' => e = .returned (.bool true) ∧ Below w.heap.size w w' := by
  obtain ⟨kind, at_, v, A1, m1, c1, zs⟩ := o
  obtain ⟨wk, wa, wv, _, _, _⟩ := ho
  have ha := u32_of_wf wa
  have hv := u32_of_wf wv
  dsimp only at ha hv wk wa wv ⊢
  clear wk wa wv
  have OA := Lib.hid hO
  have FW := Lib.hid (fun w h => few_any e0 e1 e2 e3 e4 A n2 c f w (u32_of_wf v0) (u32_of_wf v1) (u32_of_wf v2) (u32_of_wf v3) (u32_of_wf v4) h)
  have GOOD := Lib.hid (fun n hl hn w hok h hF hn4 => played_ok e0 e1 e2 e3 e4 n A n2 c f w (u32_of_wf v0) (u32_of_wf v1) (u32_of_wf v2) (u32_of_wf v3) (u32_of_wf v4) hok hl hn h hF hn4)
  have BAD := Lib.hid (fun w hok => played_bad e0 e1 e2 e3 e4 A n2 c w (u32_of_wf v0) (u32_of_wf v1) (u32_of_wf v2) (u32_of_wf v3) (u32_of_wf v4) hok)
  have LW := Lib.hid (fun hF hok => few_words (n2 := n2) (f := f) (u32_of_wf v0) (u32_of_wf v1) (u32_of_wf v2) (u32_of_wf v3) (u32_of_wf v4) hF hok)
  have U1 := u32_of_wf v1
  have U4 := u32_of_wf v4
  clear hO hm v0 v1 v2 v3 v4
  unfold endsV at *
  go_enter Try.func6, Try.ntmps6
  go_wp2_with fail
  have Q0 := Lib.hid ((Whole.made w 24 #[.int .u32 e0, .int .u32 e1, .int .u32 e2, .int .u32 e3, .int .u32 e4] _ rfl).alloc (.cells #[.int .i64 kind, .int .u32 at_, .int .u32 v, .slice A1 m1 c1] 51))
  have P0 := Lib.hid (Whole.made (w.alloc (.cells #[.int .u32 e0, .int .u32 e1, .int .u32 e2, .int .u32 e3, .int .u32 e4] 24)) 51 #[.int .i64 kind, .int .u32 at_, .int .u32 v, .slice A1 m1 c1] (w.heap.size + 1) (by simp))
  have B0 := Lib.hid (((Below.refl w.heap.size w).alloc (Nat.le_refl _) (.cells #[.int .u32 e0, .int .u32 e1, .int .u32 e2, .int .u32 e3, .int .u32 e4] 24)).alloc (by simp) (.cells #[.int .i64 kind, .int .u32 at_, .int .u32 v, .slice A1 m1 c1] 51))
  refine (awake3_any _).mono ?_
  rintro e w1 ⟨rfl, hb1⟩
  have Q1 := Lib.hid (Q0.out.below hb1 Q0.out.lt)
  have P1 := Lib.hid (P0.out.below hb1 P0.out.lt)
  have B1 := Lib.hid (B0.out.trans (hb1.mono B0.out.size))
  clear hb1 Q0 P0 B0
  have q0 : w1.cell? ⟨w.heap.size, 0, none⟩ = some (.int .u32 e0) := Q1.out.cell 0
  have q1 : w1.cell? ⟨w.heap.size, 1, none⟩ = some (.int .u32 e1) := Q1.out.cell 1
  have q2 : w1.cell? ⟨w.heap.size, 2, none⟩ = some (.int .u32 e2) := Q1.out.cell 2
  have q3 : w1.cell? ⟨w.heap.size, 3, none⟩ = some (.int .u32 e3) := Q1.out.cell 3
  have q4 : w1.cell? ⟨w.heap.size, 4, none⟩ = some (.int .u32 e4) := Q1.out.cell 4
  go_wp2_with fail
  clear q0 q1 q2 q3 q4
  refine (FW.out _ (OA.out.below B1.out)).mono ?_
  rintro e w2 ⟨b, rfl, hf, hb2⟩
  have Q2 := Lib.hid (Q1.out.below hb2 Q1.out.lt)
  have P2 := Lib.hid (P1.out.below hb2 P1.out.lt)
  have B2 := Lib.hid (B1.out.trans (hb2.mono B1.out.size))
  have HF := Lib.hid hf
  clear hb2 hf
  have q0 : w2.cell? ⟨w.heap.size, 0, none⟩ = some (.int .u32 e0) := Q2.out.cell 0
  have q1 : w2.cell? ⟨w.heap.size, 1, none⟩ = some (.int .u32 e1) := Q2.out.cell 1
  have q2 : w2.cell? ⟨w.heap.size, 2, none⟩ = some (.int .u32 e2) := Q2.out.cell 2
  have q3 : w2.cell? ⟨w.heap.size, 3, none⟩ = some (.int .u32 e3) := Q2.out.cell 3
  have q4 : w2.cell? ⟨w.heap.size, 4, none⟩ = some (.int .u32 e4) := Q2.out.cell 4
  cases b with
  | false =>
    go_wp2_with fail
    go_ret
    exact ⟨rfl, B2.out⟩
  | true =>
    by_cases hk : okEnds e0 e1 e2 e3 e4 = true
    case neg =>
      have PL := Lib.hid (BAD.out w2 (by simpa using hk))
      clear hk GOOD BAD LW HF
      go_wp2_with fail
      clear q0 q1 q2 q3 q4
      refine PL.out.mono ?_
      rintro e w3 ⟨rfl, hb3⟩
      have B3 := Lib.hid (B2.out.trans (hb3.mono B2.out.size))
      clear hb3
      go_wp2_with fail
      go_ret
      exact ⟨rfl, B3.out.alloc B3.out.size _⟩
    obtain ⟨n, hl, hn, _, _⟩ := LW.out (HF.out rfl) hk
    have PL := Lib.hid (GOOD.out n hl (by omega) w2 hk (OA.out.below B2.out) (HF.out rfl).2.2 (HF.out rfl).2.1)
    have HL := Lib.hid hl
    clear hl hk GOOD BAD LW HF
    unfold PlayedPost memCells at PL
    go_wp2_with fail
    clear q0 q1 q2 q3 q4
    refine PL.out.mono ?_
    rintro e w3 ⟨p, h, h2, ws, rfl, hM, hW, hK, hln, hu, g1, g2, n1, n2, hb3⟩
    have M3 := Lib.hid (hM.alloc (.cells #[.int .u32 e0, .int .u32 e1, .int .u32 e2, .int .u32 e3, .int .u32 e4, .slice (some ⟨h2, 0, none⟩) n n] 32))
    have W3 := Lib.hid (hW.alloc (.cells #[.int .u32 e0, .int .u32 e1, .int .u32 e2, .int .u32 e3, .int .u32 e4, .slice (some ⟨h2, 0, none⟩) n n] 32))
    have Q3 := Lib.hid ((Q2.out.below hb3 Q2.out.lt).alloc (.cells #[.int .u32 e0, .int .u32 e1, .int .u32 e2, .int .u32 e3, .int .u32 e4, .slice (some ⟨h2, 0, none⟩) n n] 32))
    have P3 := Lib.hid ((P2.out.below hb3 P2.out.lt).alloc (.cells #[.int .u32 e0, .int .u32 e1, .int .u32 e2, .int .u32 e3, .int .u32 e4, .slice (some ⟨h2, 0, none⟩) n n] 32))
    have B3 := Lib.hid ((B2.out.trans (hb3.mono B2.out.size)).alloc (Nat.le_trans B2.out.size hb3.size) (.cells #[.int .u32 e0, .int .u32 e1, .int .u32 e2, .int .u32 e3, .int .u32 e4, .slice (some ⟨h2, 0, none⟩) n n] 32))
    have nb0 : w.heap.size ≠ h := by have := Q2.out.lt; omega
    have nb1 : w.heap.size ≠ p := by have := Q2.out.lt; omega
    have UW := Lib.hid hu
    have CL := Lib.hid (fun w hm hw => clone_any p h n e0 e1 e2 e3 e4 ws w hm hw hln (by omega))
    have ST := Lib.hid (fun w h1 h4 h5 hw => store_any p h n at_ v e1 e4 ws w ha hv h1 h4 h5 hw hln HL.out)
    have gh : w.heap.size ≤ h := Nat.le_trans B2.out.size g2
    have LDX := Lib.hid (fun (a : Int) (w : World) ha hc hs hw => load_any p h n a e4 (storeWs at_ e1 e4 v ws) w ha hc hs hw ((storeWs_len _ _ _ _ _).trans hln) (by have := HL.out; omega) (storeWs_u32 hu hv))
    have LDY := Lib.hid (fun (p' h' : Nat) (a : Int) (w : World) ha hc hs hw => load_any p' h' n a e4 ws w ha hc hs hw hln (by have := HL.out; omega) hu)
    have UX := Lib.hid (storeWs_u32 (at_ := at_) (e1 := e1) (e4 := e4) hu hv)
    have SE := Lib.hid (fun t (ht : t < ws.length) => seen_at (e1 := e1) (e4 := e4) (v := v) ha.1 ht)
    have LX := Lib.hid ((storeWs_len at_ e1 e4 v ws).trans hln)
    have LN := Lib.hid hln
    unfold StorePost at ST
    unfold MadePost memCells at CL
    clear hM hW hK hu hb3 Q2 P2 B2 hln n2
    generalize hxs : storeWs at_ e1 e4 v ws = xs at *
    clear hxs
    generalize storeRes at_ e1 e4 = sr at *
    obtain ⟨a0, a1⟩ := ha
    obtain ⟨b0, b1⟩ := hv
    obtain ⟨r0, r1⟩ := U1
    obtain ⟨s0, s1⟩ := U4
    have y1 : (w3.alloc (.cells #[.int .u32 e0, .int .u32 e1, .int .u32 e2, .int .u32 e3, .int .u32 e4, .slice (some ⟨h2, 0, none⟩) n n] 32)).cell? ⟨w.heap.size + 1, 1, none⟩ = some (.int .u32 at_) := P3.out.cell 1
    have y2 : (w3.alloc (.cells #[.int .u32 e0, .int .u32 e1, .int .u32 e2, .int .u32 e3, .int .u32 e4, .slice (some ⟨h2, 0, none⟩) n n] 32)).cell? ⟨w.heap.size + 1, 2, none⟩ = some (.int .u32 v) := P3.out.cell 2
    go_wp2_with fail
    generalize w3.alloc (.cells #[.int .u32 e0, .int .u32 e1, .int .u32 e2, .int .u32 e3, .int .u32 e4, .slice (some ⟨h2, 0, none⟩) n n] 32) = w4 at *
    go_quiet (fail)
    have M4 := Lib.hid (M3.out.drawn nq)
    have W4 := Lib.hid (W3.out.drawn nq)
    have Q4 := Lib.hid (Q3.out.drawn nq)
    have B4 := Lib.hid (below_drawn B3.out nq)
    clear y1 y2 M3 W3 Q3 P3 B3 P1 Q1 B1
    generalize w4.drewN nq = w5 at *
    go_wp2_with fail
    refine (CL.out _ M4.out W4.out).mono ?_
    rintro e w6 ⟨p', h', rfl, hM, hW, gh', gp', hne, hb6⟩
    have M6 := Lib.hid (M4.out.below hb6 M4.out.lt)
    have W6 := Lib.hid (W4.out.below hb6 W4.out.lt)
    have Q6 := Lib.hid (Q4.out.below hb6 Q4.out.lt)
    have B6 := Lib.hid (B4.out.trans (hb6.mono B4.out.size))
    have C6 := Lib.hid hM
    have D6 := Lib.hid hW
    have lh := W4.out.lt
    have np : p' ≠ h := by omega
    have nh : h' ≠ h := by omega
    clear hb6 hM hW gh' gp' M4 W4 Q4 B4 hne
    go_wp2_with fail
    refine (ST.out _ (M6.out.cell 1) (M6.out.cell 4) (M6.out.cell 5) W6.out).mono ?_
    rintro e w7 ⟨rfl, hW7, ho⟩
    have M7 := Lib.hid (M6.out.only n1 ho)
    have X7 := Lib.hid hW7
    have Q7 := Lib.hid (Q6.out.only nb0 ho)
    have C7 := Lib.hid (C6.out.only np ho)
    have D7 := Lib.hid (D6.out.only nh ho)
    have B7 := Lib.hid (B6.out.trans (ho.below gh B6.out.size))
    clear hW7 ho M6 W6 Q6 C6 D6 B6
    have q1 : w7.cell? ⟨w.heap.size, 1, none⟩ = some (.int .u32 e1) := Q7.out.cell 1
    have q4 : w7.cell? ⟨w.heap.size, 4, none⟩ = some (.int .u32 e4) := Q7.out.cell 4
    have m4 : w7.cell? ⟨p, 4, none⟩ = some (.int .u32 e4) := M7.out.cell 4
    have m5 : w7.cell? ⟨p, 5, none⟩ = some (.slice (some ⟨h, 0, none⟩) n n) := M7.out.cell 5
    have c4 : w7.cell? ⟨p', 4, none⟩ = some (.int .u32 e4) := C7.out.cell 4
    have c5 : w7.cell? ⟨p', 5, none⟩ = some (.slice (some ⟨h', 0, none⟩) n n) := C7.out.cell 5
    have MM4 := Lib.hid (And.intro m4 m5)
    have CC4 := Lib.hid (And.intro c4 c5)
    clear m4 m5 c4 c5
    go_wp2_with fail
    go_loop [14] (fun i => ∃ t : Nat, t ≤ n ∧ i = .int .u32 (4 * t)) (fun i => 4 * n - (intOf i).toNat)
    case atStart => exact ⟨0, Nat.zero_le _, rfl⟩
    case round =>
      obtain ⟨t, ht, rfl⟩ := hrel
      by_cases hlt : t < n
      · have hl := HL.out
        have hx := LDX.out (4 * t) w7 ⟨by omega, by omega⟩ MM4.out.1 MM4.out.2 X7.out
        have hy := LDY.out p' h' (4 * t) w7 ⟨by omega, by omega⟩ CC4.out.1 CC4.out.2 D7.out
        rw [readVal_at (by omega), checkRes_ok (by omega) (by omega)] at hx hy
        have LXX := Lib.hid hx
        have LYY := Lib.hid hy
        obtain ⟨x0, x1⟩ := wordOfs UX.out t
        obtain ⟨z0, z1⟩ := wordOfs UW.out t
        have hse := SE.out t (by have := LN.out; omega)
        have dlt : decide (4 * (t : Int) < e4) = true := decide_eq_true (by omega)
        have h4 : 4 * (t : Int) + 4 ≤ 4294967295 := by omega
        clear hx hy hl
        generalize xs.getD t 0 = x at *
        generalize ws.getD t 0 = y at *
        rcases hse with ⟨rfl, rfl, rfl, hge⟩ | ⟨hor, rfl⟩
        · have d1 : decide (4 * (t : Int) < e1) = false := decide_eq_false (by omega)
          clear hge
          go_wp2_with fail
          refine LXX.out.mono ?_
          rintro e w' ⟨rfl, rfl⟩
          go_wp2_with fail
          refine LYY.out.mono ?_
          rintro e w' ⟨rfl, rfl⟩
          go_wp2_with fail
          go_round
          case rel => exact ⟨t + 1, by omega, by go_num⟩
          case measure => simp [intOf]; omega
        · by_cases hs : sr = 0
          · have d1 : (4 * (t : Int) == at_) = false := by
              rcases hor with h | h
              · exact absurd hs h
              · simpa using h
            subst hs
            clear hor
            go_wp2_with fail
            refine LXX.out.mono ?_
            rintro e w' ⟨rfl, rfl⟩
            go_wp2_with fail
            refine LYY.out.mono ?_
            rintro e w' ⟨rfl, rfl⟩
            go_wp2_with fail
            go_round
            case rel => exact ⟨t + 1, by omega, by go_num⟩
            case measure => simp [intOf]; omega
          · have d1 : (sr == 0) = false := by simpa using hs
            clear hor hs
            go_wp2_with fail
            refine LXX.out.mono ?_
            rintro e w' ⟨rfl, rfl⟩
            go_wp2_with fail
            refine LYY.out.mono ?_
            rintro e w' ⟨rfl, rfl⟩
            go_wp2_with fail
            go_round
            case rel => exact ⟨t + 1, by omega, by go_num⟩
            case measure => simp [intOf]; omega
      · obtain rfl : t = n := by omega
        have dlt : decide (4 * (t : Int) < e4) = false := decide_eq_false (by have := HL.out; omega)
        go_wp2_with fail
        go_ret
        exact ⟨rfl, B7.out⟩

set_option maxRecDepth 100000 in
theorem lifted (os : Os) (started : os.Started) (H : Type) (enc : TypeId × Value → H) :
    ReturnsInHanded {} Try.checked os 6 .any (Rows.memoryGuardsSpec.pre6 enc Try.prog Try.f6 Rows.memoryGuardsRow.domain false) (Rows.memoryGuardsSpec.post enc Try.prog Try.f6 false true false false) := by
  refine returnsInHanded_of_change (C := Try.checked) Try.own started (by kernel_rfl) Try.func6
    (ChangeSpec.witness6 (enc := enc) (C := Try.checked) false ⟨#[], #[.agg #[.int .u32 0, .int .u32 0, .int .u32 0, .int .u32 0, .int .u32 0], .slice none 0 0, .agg #[.int .i64 0, .int .u32 0, .int .u32 0, .slice none 0 0]], []⟩ 8 (by kernel_rfl) (by kernel_rfl) (by kernel_rfl) (by kernel_rfl)) ?_
  intro W base args ds gs before hval0 hW hcnd _
  have hval : ∀ (j : Nat) t v, Try.f6.params[j]? = some t → args[j]? = some v → Value.okWide Try.prog W .any base t v := hval0
  have hW' := hW
  obtain ⟨p, q, hA0, hV, rfl, hfz, hnd⟩ := hW
  have hA : DataW.TrodAll enc Try.prog W 0 (fun _ => true) true Try.f6.params.toList args.toList ds p := hA0
  rw [Try.params6] at hA hval
  obtain ⟨v0, vs0, d0, ds0, p0, q0, hargs, rfl, rfl, h0, r0⟩ := trodAll_cons hA
  obtain ⟨v1, vs1, d1, ds1, p1, q1, rfl, rfl, rfl, h1, r1⟩ := trodAll_cons r0
  obtain ⟨v2, vs2, d2, ds2, p2, q2, rfl, rfl, rfl, h2, r2⟩ := trodAll_cons r1
  obtain ⟨rfl, rfl, rfl⟩ := trodAll_nil r2
  obtain rfl : args = #[v0, v1, v2] := by cases args; simp_all
  clear hA0 hval0
  obtain ⟨zs0, rfl, hl0, w0⟩ := open_ints_struct (k := .u32) Try.underlying24 (by kernel_rfl) (by kernel_rfl) (by kernel_rfl) (hval 0 24 v0 rfl rfl) h0
  obtain ⟨x00, x01, x02, x03, x04, rfl⟩ := list_five' hl0
  obtain ⟨A1, n1, c1, f1, rfl, hO1, hm1⟩ := open_ops Try.underlying25 Try.underlying51 (by kernel_rfl) rfl rfl rfl rfl (by kernel_rfl) (by kernel_rfl) (by kernel_rfl) (by kernel_rfl) (by kernel_rfl) (by kernel_rfl) (by kernel_rfl) (by kernel_rfl) Try.underlying22 (by kernel_rfl) (hval 1 25 v1 rfl rfl) h1
  obtain ⟨o2, rfl, hi2⟩ := open_op Try.underlying51 (by kernel_rfl) rfl rfl rfl rfl (by kernel_rfl) (by kernel_rfl) (by kernel_rfl) (by kernel_rfl) (by kernel_rfl) (by kernel_rfl) (by kernel_rfl) (by kernel_rfl) Try.underlying22 (by kernel_rfl) (hval 2 51 v2 rfl rfl) h2
  refine (walk W x00 (w0 x00 (by simp)) x01 (w0 x01 (by simp)) x02 (w0 x02 (by simp)) x03 (w0 x03 (by simp)) x04 (w0 x04 (by simp)) A1 n1 c1 f1 hO1 hm1 o2 hi2).mono fun e W' ⟨he, hg⟩ => ?_
  subst he
  exact ⟨_, rfl, law_post Try.laidOut Try.mapsRowed Try.slicesFull (by kernel_rfl) rfl (by kernel_rfl) Try.underlying4 rfl hW' hg⟩

theorem over : Rows.memoryGuardsRow.holds Try.pinned (OpenSpec.ofChange Rows.memoryGuardsSpec) :=
  OpenClaim.holds_of_wide 6 Try.f6 rfl rfl rfl rfl rfl rfl rfl ⟨rfl, rfl, rfl, rfl, rfl⟩ rfl rfl rfl rfl rfl (by kernel_rfl) Try.func6 (by kernel_rfl)
    (of_decide_eq_true (by kernel_rfl)) (by unfold Func.isWrapper; first | (rw [if_pos (by decide +kernel)]; kernel_rfl) | (rw [if_neg (by decide +kernel)]; exact ⟨rfl, rfl⟩))
    (fun os started H enc _ => lifted os started H enc)

theorem proved : Rows.MemoryGuardsSaid :=
  over
end Go.Proofs.Ytojjfpplhgfpfaa.lawMemoryGuards
