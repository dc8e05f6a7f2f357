/- The laws' played, where the layout may be. -/
import Derived.Test.YtojjfpplhgfpfaaMemP
namespace Go.Proofs.Ytojjfpplhgfpfaa
open Go.ChangeShapes Go.WideShapes Go.ChangeAt Go.RowKit
set_option linter.unusedVariables false

set_option maxHeartbeats 16000000 in
set_option maxRecDepth 100000 in
theorem played_ok (e0 e1 e2 e3 e4 : Int) (n : Nat) (A : Option Addr) (n2 c : Nat) (f : Nat → OpR) (w : World) (u0 : U32 e0) (u1 : U32 e1) (u2 : U32 e2) (u3 : U32 e3) (u4 : U32 e4) (hok : okEnds e0 e1 e2 e3 e4 = true) (hl : e4 = 4 * n) (hn2 : n ≤ 1000000) (hO : OpsAt w A n2 f) (hF : ∀ j, j < n2 → (f j).m ≤ 2000) (hn40 : n2 ≤ 40) :
    Calls Try.prog 9 #[endsV e0 e1 e2 e3 e4, .slice A n2 c] w (PlayedPost e0 e1 e2 e3 e4 n w) := by
  have NW := Lib.hid (fun w => new_ok e0 e1 e2 e3 e4 n w u0 u1 u2 u3 u4 hok (by omega) hn2)
  have RN := Lib.hid (fun w => refnew_any e0 e1 e2 e3 e4 n w u0 u1 u2 u3 u4 (by omega) hn2)
  have EN := Lib.hid (fun w => lawEnds_any e0 e1 e2 e3 e4 w)
  have hR := fun w => refright_any e0 e1 e2 e3 e4 w u0 u1 u2 u3 u4
  have hR2 := fun w => right_any e0 e1 e2 e3 e4 w u0 u1 u2 u3 u4
  simp only [hok] at hR hR2
  have RI := Lib.hid hR
  have RJ := Lib.hid hR2
  have OA := Lib.hid hO
  have HF := Lib.hid hF
  have HL := Lib.hid hl
  clear hR hR2 hok u0 u1 u2 u3 u4 hO hF hl
  unfold MadePost at NW
  unfold endsV memCells at *
  have Q0 := Lib.hid ((Whole.made w 24 #[.int .u32 e0, .int .u32 e1, .int .u32 e2, .int .u32 e3, .int .u32 e4] _ rfl).alloc (.cells #[.int .u32 0, .int .u32 0, .int .u32 0, .int .u32 0, .int .u32 0, .slice none 0 0] 32))
  have T0 := Lib.hid (Whole.made (w.alloc (.cells #[.int .u32 e0, .int .u32 e1, .int .u32 e2, .int .u32 e3, .int .u32 e4] 24)) 32 #[.int .u32 0, .int .u32 0, .int .u32 0, .int .u32 0, .int .u32 0, .slice none 0 0] (w.heap.size + 1) (by simp))
  have B0 := Lib.hid (((Below.refl w.heap.size w).alloc (Nat.le_refl _) (.cells #[.int .u32 e0, .int .u32 e1, .int .u32 e2, .int .u32 e3, .int .u32 e4] 24)).alloc (by simp) (.cells #[.int .u32 0, .int .u32 0, .int .u32 0, .int .u32 0, .int .u32 0, .slice none 0 0] 32))
  go_enter Try.func9, Try.ntmps9
  go_wp2_with fail
  refine (NW.out _).mono ?_
  rintro e w1 ⟨p, h, rfl, hM, hW, gh, gp, hne, hb1⟩
  have Q1 := Lib.hid (Q0.out.below hb1 Q0.out.lt)
  have T1 := Lib.hid (T0.out.below hb1 T0.out.lt)
  have B1 := Lib.hid (B0.out.trans (hb1.mono B0.out.size))

  have M1 := Lib.hid hM
  have W1 := Lib.hid hW
  have gh1 : w.heap.size + 2 ≤ h := by simpa using gh
  have gp1 : w.heap.size + 2 ≤ p := by simpa using gp
  have lh1 := hW.lt
  have lp1 := hM.lt
  clear hb1 hM hW gh gp
  have q0 : w1.cell? ⟨w.heap.size, 0, none⟩ = some (.int .u32 e0) := Q1.out.cell 0
  have q1 : w1.cell? ⟨w.heap.size, 1, none⟩ = some (.int .u32 e1) := Q1.out.cell 1
  have q2 : w1.cell? ⟨w.heap.size, 2, none⟩ = some (.int .u32 e2) := Q1.out.cell 2
  have q3 : w1.cell? ⟨w.heap.size, 3, none⟩ = some (.int .u32 e3) := Q1.out.cell 3
  have q4 : w1.cell? ⟨w.heap.size, 4, none⟩ = some (.int .u32 e4) := Q1.out.cell 4
  go_wp2_with fail
  clear q0 q1 q2 q3 q4
  refine (EN.out _).mono ?_
  rintro e w2 ⟨rfl, hb2⟩
  have Q2 := Lib.hid (Q1.out.below hb2 Q1.out.lt)
  have T2 := Lib.hid (T1.out.below hb2 T1.out.lt)
  have B2 := Lib.hid (B1.out.trans (hb2.mono B1.out.size))
  have M2 := Lib.hid (M1.out.below hb2 M1.out.lt)
  have W2 := Lib.hid (W1.out.below hb2 W1.out.lt)
  have z2 := hb2.size
  clear hb2
  go_wp2_with fail
  refine (RI.out _).mono ?_
  rintro e w3 ⟨rfl, hb3⟩
  have Q3 := Lib.hid (Q2.out.below hb3 Q2.out.lt)
  have T3 := Lib.hid (T2.out.below hb3 T2.out.lt)
  have B3 := Lib.hid (B2.out.trans (hb3.mono B2.out.size))
  have M3 := Lib.hid (M2.out.below hb3 M2.out.lt)
  have W3 := Lib.hid (W2.out.below hb3 W2.out.lt)
  have z3 := hb3.size
  clear hb3
  have q0 : w3.cell? ⟨w.heap.size, 0, none⟩ = some (.int .u32 e0) := Q3.out.cell 0
  have q1 : w3.cell? ⟨w.heap.size, 1, none⟩ = some (.int .u32 e1) := Q3.out.cell 1
  have q2 : w3.cell? ⟨w.heap.size, 2, none⟩ = some (.int .u32 e2) := Q3.out.cell 2
  have q3 : w3.cell? ⟨w.heap.size, 3, none⟩ = some (.int .u32 e3) := Q3.out.cell 3
  have q4 : w3.cell? ⟨w.heap.size, 4, none⟩ = some (.int .u32 e4) := Q3.out.cell 4
  go_wp2_with fail
  clear q0 q1 q2 q3 q4
  refine (EN.out _).mono ?_
  rintro e w4 ⟨rfl, hb4⟩
  have Q4 := Lib.hid (Q3.out.below hb4 Q3.out.lt)
  have T4 := Lib.hid (T3.out.below hb4 T3.out.lt)
  have B4 := Lib.hid (B3.out.trans (hb4.mono B3.out.size))
  have M4 := Lib.hid (M3.out.below hb4 M3.out.lt)
  have W4 := Lib.hid (W3.out.below hb4 W3.out.lt)
  have z4 := hb4.size
  clear hb4
  go_wp2_with fail
  refine (RN.out _).mono ?_
  rintro e w5 ⟨h2, rfl, hK, gk, hb5⟩
  have Q5 := Lib.hid (Q4.out.below hb5 Q4.out.lt)
  have T5 := Lib.hid (T4.out.below hb5 T4.out.lt)
  have B5 := Lib.hid (B4.out.trans (hb5.mono B4.out.size))
  have M5 := Lib.hid (M4.out.below hb5 M4.out.lt)
  have W5 := Lib.hid (W4.out.below hb5 W4.out.lt)
  have z5 := hb5.size
  clear hb5
  have K5 := Lib.hid hK
  have lk := hK.lt
  clear hK
  have q0 : w5.cell? ⟨w.heap.size, 0, none⟩ = some (.int .u32 e0) := Q5.out.cell 0
  have q1 : w5.cell? ⟨w.heap.size, 1, none⟩ = some (.int .u32 e1) := Q5.out.cell 1
  have q2 : w5.cell? ⟨w.heap.size, 2, none⟩ = some (.int .u32 e2) := Q5.out.cell 2
  have q3 : w5.cell? ⟨w.heap.size, 3, none⟩ = some (.int .u32 e3) := Q5.out.cell 3
  have q4 : w5.cell? ⟨w.heap.size, 4, none⟩ = some (.int .u32 e4) := Q5.out.cell 4
  have y0 : (w5.alloc (.cells #[.int .u32 e0, .int .u32 e1, .int .u32 e2, .int .u32 e3, .int .u32 e4, .slice (some ⟨h2, 0, none⟩) n n] 32)).cell? ⟨w.heap.size, 0, none⟩ = some (.int .u32 e0) := (Q5.out.alloc _).cell 0
  have y1 : (w5.alloc (.cells #[.int .u32 e0, .int .u32 e1, .int .u32 e2, .int .u32 e3, .int .u32 e4, .slice (some ⟨h2, 0, none⟩) n n] 32)).cell? ⟨w.heap.size, 1, none⟩ = some (.int .u32 e1) := (Q5.out.alloc _).cell 1
  have y2 : (w5.alloc (.cells #[.int .u32 e0, .int .u32 e1, .int .u32 e2, .int .u32 e3, .int .u32 e4, .slice (some ⟨h2, 0, none⟩) n n] 32)).cell? ⟨w.heap.size, 2, none⟩ = some (.int .u32 e2) := (Q5.out.alloc _).cell 2
  have y3 : (w5.alloc (.cells #[.int .u32 e0, .int .u32 e1, .int .u32 e2, .int .u32 e3, .int .u32 e4, .slice (some ⟨h2, 0, none⟩) n n] 32)).cell? ⟨w.heap.size, 3, none⟩ = some (.int .u32 e3) := (Q5.out.alloc _).cell 3
  have y4 : (w5.alloc (.cells #[.int .u32 e0, .int .u32 e1, .int .u32 e2, .int .u32 e3, .int .u32 e4, .slice (some ⟨h2, 0, none⟩) n n] 32)).cell? ⟨w.heap.size, 4, none⟩ = some (.int .u32 e4) := (Q5.out.alloc _).cell 4
  go_wp2_with fail
  clear q0 q1 q2 q3 q4 y0 y1 y2 y3 y4
  have S5 : St w.heap.size w5.heap.size (w.heap.size + 1) e0 e1 e2 e3 e4 n w (w5.alloc (.cells #[.int .u32 e0, .int .u32 e1, .int .u32 e2, .int .u32 e3, .int .u32 e4, .slice (some ⟨h2, 0, none⟩) n n] 32)) p h h2 (List.replicate n 0) :=
    ⟨M5.out.alloc _, W5.out.alloc _, K5.out.alloc _, Whole.made w5 _ _ _ rfl, T5.out.alloc _, by simp, fun z hz => by rw [List.eq_of_mem_replicate hz]; exact ⟨by omega, by omega⟩, by omega, by omega, B5.out.size, by omega, hne, by omega, by omega, by omega, by omega, by omega, by have := T5.out.lt; omega, by omega, by omega, B5.out.alloc B5.out.size _⟩
  have Q6 := Lib.hid (Q5.out.alloc (.cells #[.int .u32 e0, .int .u32 e1, .int .u32 e2, .int .u32 e3, .int .u32 e4, .slice (some ⟨h2, 0, none⟩) n n] 32))
  have SS := Lib.hid S5
  clear S5 M5 W5 K5 T5 B5 Q5
  generalize w5.alloc (.cells #[.int .u32 e0, .int .u32 e1, .int .u32 e2, .int .u32 e3, .int .u32 e4, .slice (some ⟨h2, 0, none⟩) n n] 32) = w6 at *
  generalize w5.heap.size = g9 at *
  refine (RJ.out _).mono ?_
  rintro e w7 ⟨rfl, hb7⟩
  have S7 := Lib.hid (SS.out.below hb7)
  clear hb7 SS Q6 NW RN EN RI RJ M1 M2 M3 M4 W1 W2 W3 W4 T0 T1 T2 T3 T4 B0 B1 B2 B3 B4 Q0 Q1 Q2 Q3 Q4 z2 z3 z4 z5 gh1 gp1 lh1 lp1 lk gk hne
  go_wp2_with fail
  go_loopw [7, 10] (fun v i wr => ∃ (j p h h2 : Nat) (ws : List Int), j ≤ n2 ∧ i = .int .i64 j ∧ v = .pointer (some ⟨p, 0, none⟩) ∧ Hid (St w.heap.size g9 (w.heap.size + 1) e0 e1 e2 e3 e4 n w wr p h h2 ws)) (fun _ i _ => n2 - (intOf i).toNat)
  case atStart => exact ⟨0, p, h, h2, _, Nat.zero_le _, rfl, rfl, S7.out⟩
  case round =>
    clear S7
    obtain ⟨j, p, h, h2, ws, hj, rfl, rfl, S⟩ := hrel
    by_cases hlt : j < n2
    · have OB := OA.out.below S.out.bel
      obtain ⟨b, off, rfl, hb, hcell⟩ := OB.1 (by omega)
      obtain ⟨o0, o1, o2, o3⟩ := hcell j hlt
      obtain ⟨wk, wa, wv, nz, _, wz⟩ := OB.2 j hlt
      have hm2 := HF.out j hlt
      have ha := u32_of_wf wa
      have hv := u32_of_wf wv
      have NZ := Lib.hid nz
      have WZ := Lib.hid wz
      clear OB hcell wk wa wv nz wz
      generalize f j = o at *
      obtain ⟨kind, at_, v, A', m, c', zs⟩ := o
      dsimp only at o0 o1 o2 o3 NZ WZ ha hv hm2
      by_cases k0 : kind = 0
      · have d0 : (kind == 0) = true := by simpa using k0
        clear k0
        have hsl : (storeWs at_ e1 e4 v ws).length = n := (storeWs_len at_ e1 e4 v ws).trans S.out.len
        have hsu := storeWs_u32 (at_ := at_) (e1 := e1) (e4 := e4) S.out.u32 hv
        have RS := Lib.hid (fun w hw => refstore_any h2 n e0 e1 e2 e3 e4 at_ v ws w ha hv hw S.out.len hn2 HL.out S.out.u32)
        have MS := Lib.hid (fun w h1 h4 h5 hw => store_any p h n at_ v e1 e4 ws w ha hv h1 h4 h5 hw S.out.len HL.out)
        unfold StorePost at MS
        unfold memCells at RS
        have HSL := Lib.hid hsl
        have HSU := Lib.hid hsu
        clear hsl hsu
        generalize storeWs at_ e1 e4 v ws = ws' at *
        generalize storeRes at_ e1 e4 = sr at *
        have SV := Lib.hid (S.out.alloc (.cells #[.int .i64 kind, .int .u32 at_, .int .u32 v, .slice A' m c'] 51))
        have OV := Lib.hid (Whole.made wr 51 #[.int .i64 kind, .int .u32 at_, .int .u32 v, .slice A' m c'] wr.heap.size rfl)
        have g0 : (wr.alloc (.cells #[.int .i64 kind, .int .u32 at_, .int .u32 v, .slice A' m c'] 51)).cell? ⟨g9, 0, none⟩ = some (.int .u32 e0) := SV.out.var.cell 0
        have g1 : (wr.alloc (.cells #[.int .i64 kind, .int .u32 at_, .int .u32 v, .slice A' m c'] 51)).cell? ⟨g9, 1, none⟩ = some (.int .u32 e1) := SV.out.var.cell 1
        have g2 : (wr.alloc (.cells #[.int .i64 kind, .int .u32 at_, .int .u32 v, .slice A' m c'] 51)).cell? ⟨g9, 2, none⟩ = some (.int .u32 e2) := SV.out.var.cell 2
        have g3 : (wr.alloc (.cells #[.int .i64 kind, .int .u32 at_, .int .u32 v, .slice A' m c'] 51)).cell? ⟨g9, 3, none⟩ = some (.int .u32 e3) := SV.out.var.cell 3
        have g4 : (wr.alloc (.cells #[.int .i64 kind, .int .u32 at_, .int .u32 v, .slice A' m c'] 51)).cell? ⟨g9, 4, none⟩ = some (.int .u32 e4) := SV.out.var.cell 4
        have g5 : (wr.alloc (.cells #[.int .i64 kind, .int .u32 at_, .int .u32 v, .slice A' m c'] 51)).cell? ⟨g9, 5, none⟩ = some (.slice (some ⟨h2, 0, none⟩) n n) := SV.out.var.cell 5
        have NV := Lib.hid (NZ.out.below ((Below.refl _ _).alloc (Nat.le_refl _) (.cells #[.int .i64 kind, .int .u32 at_, .int .u32 v, .slice A' m c'] 51)))
        clear NZ
        go_wp2_with fail
        clear g0 g1 g2 g3 g4 g5
        generalize wr.alloc (.cells #[.int .i64 kind, .int .u32 at_, .int .u32 v, .slice A' m c'] 51) = V at *
        generalize wr.heap.size = g11 at *
        refine (RS.out _ SV.out.ref).mono ?_
        rintro e w2 ⟨h2', rfl, hR, hor, hb2⟩
        have O2 := Lib.hid (OV.out.below hb2 OV.out.lt)
        have S2 := Lib.hid (SV.out.below hb2)
        have N2 := Lib.hid (NV.out.below hb2)
        have HB2 := Lib.hid hb2
        have HR := Lib.hid hR
        have HOR := Lib.hid hor
        clear hb2 hR hor

        have p1 : (w2.alloc (.cells #[.int .u32 e0, .int .u32 e1, .int .u32 e2, .int .u32 e3, .int .u32 e4, .slice (some ⟨h2', 0, none⟩) n n] 32)).cell? ⟨g11, 1, none⟩ = some (.int .u32 at_) := (O2.out.alloc _).cell 1
        have p2 : (w2.alloc (.cells #[.int .u32 e0, .int .u32 e1, .int .u32 e2, .int .u32 e3, .int .u32 e4, .slice (some ⟨h2', 0, none⟩) n n] 32)).cell? ⟨g11, 2, none⟩ = some (.int .u32 v) := (O2.out.alloc _).cell 2
        have p3 : (w2.alloc (.cells #[.int .u32 e0, .int .u32 e1, .int .u32 e2, .int .u32 e3, .int .u32 e4, .slice (some ⟨h2', 0, none⟩) n n] 32)).cell? ⟨g11, 3, none⟩ = some (.slice A' m c') := (O2.out.alloc _).cell 3
        go_wp2_with fail
        have S3 := Lib.hid (S2.out.alloc (.cells #[.int .u32 e0, .int .u32 e1, .int .u32 e2, .int .u32 e3, .int .u32 e4, .slice (some ⟨h2', 0, none⟩) n n] 32))
        have N3 := Lib.hid (N2.out.below ((Below.refl _ _).alloc (Nat.le_refl _) (.cells #[.int .u32 e0, .int .u32 e1, .int .u32 e2, .int .u32 e3, .int .u32 e4, .slice (some ⟨h2', 0, none⟩) n n] 32)))
        have lh := S2.out.wrd.lt
        clear p1 p2 p3 S2 N2 O2
        refine (MS.out _ (S3.out.mem.cell 1) (S3.out.mem.cell 4) (S3.out.mem.cell 5) S3.out.wrd).mono ?_
        rintro e w4 ⟨rfl, hW4, ho⟩
        have X4 := Lib.hid ((Whole.made w2 32 #[.int .u32 e0, .int .u32 e1, .int .u32 e2, .int .u32 e3, .int .u32 e4, .slice (some ⟨h2', 0, none⟩) n n] _ rfl).only (Nat.ne_of_gt lh) ho)
        have V4 := Lib.hid (S3.out.var.only S3.out.d3 ho)
        have SN := Lib.hid (St.next SV.out HB2.out HR.out HOR.out ho hW4 HSL.out HSU.out)
        clear ho hW4 S3 lh
        have x0 : w4.cell? ⟨w2.heap.size, 0, none⟩ = some (.int .u32 e0) := X4.out.cell 0
        have x1 : w4.cell? ⟨w2.heap.size, 1, none⟩ = some (.int .u32 e1) := X4.out.cell 1
        have x2 : w4.cell? ⟨w2.heap.size, 2, none⟩ = some (.int .u32 e2) := X4.out.cell 2
        have x3 : w4.cell? ⟨w2.heap.size, 3, none⟩ = some (.int .u32 e3) := X4.out.cell 3
        have x4 : w4.cell? ⟨w2.heap.size, 4, none⟩ = some (.int .u32 e4) := X4.out.cell 4
        have x5 : w4.cell? ⟨w2.heap.size, 5, none⟩ = some (.slice (some ⟨h2', 0, none⟩) n n) := X4.out.cell 5
        have g0 : w4.cell? ⟨g9, 0, none⟩ = some (.int .u32 e0) := V4.out.cell 0
        have g1 : w4.cell? ⟨g9, 1, none⟩ = some (.int .u32 e1) := V4.out.cell 1
        have g2 : w4.cell? ⟨g9, 2, none⟩ = some (.int .u32 e2) := V4.out.cell 2
        have g3 : w4.cell? ⟨g9, 3, none⟩ = some (.int .u32 e3) := V4.out.cell 3
        have g4 : w4.cell? ⟨g9, 4, none⟩ = some (.int .u32 e4) := V4.out.cell 4
        have g5 : w4.cell? ⟨g9, 5, none⟩ = some (.slice (some ⟨h2, 0, none⟩) n n) := V4.out.cell 5
        have gf : ∀ i, w4.frozen? ⟨g9, i, none⟩ = false := V4.out.free
        go_wp2_with fail
        clear x0 x1 x2 x3 x4 x5 g0 g1 g2 g3 g4 g5 gf X4 V4
        generalize ((((((w4.setCell ⟨g9, 0, none⟩ (.int .u32 e0)).setCell ⟨g9, 1, none⟩ (.int .u32 e1)).setCell ⟨g9, 2, none⟩ (.int .u32 e2)).setCell ⟨g9, 3, none⟩ (.int .u32 e3)).setCell ⟨g9, 4, none⟩ (.int .u32 e4)).setCell ⟨g9, 5, none⟩ (.slice (some ⟨h2', 0, none⟩) n n)) = w5 at *
        refine (same_any3 p h h2' n e0 e1 e2 e3 e4 ws' w5 SN.out.mem SN.out.wrd SN.out.ref SN.out.len hn2 HL.out SN.out.u32).mono ?_
        rintro e w6 ⟨rfl, hb6⟩
        have SR := Lib.hid (SN.out.below hb6)
        clear hb6 SN
        go_wp2_with fail
        go_roundw
        case rel => exact ⟨j + 1, p, h, h2', ws', by omega, by go_num, rfl, SR⟩
        case measure => simp [intOf]; omega
      by_cases k1 : kind = 1
      · have d0 : (kind == 0) = false := by simpa using k0
        have d1 : (kind == 1) = true := by simpa using k1
        clear k0 k1
        have hsl : (fillWs at_ ws zs).length = n := (fillWs_len at_ ws zs ha.1).trans S.out.len
        have hsu := fillWs_u32 (at_ := at_) S.out.u32 (fun z hz => u32_of_wf (WZ.out z hz))
        have RS := Lib.hid (fun w hw hz => reffill_any3 h2 n e0 e1 e2 e3 e4 at_ A' m c' ws zs w ha hw S.out.len hn2 hz (by omega))
        have MS := Lib.hid (fun w hs hw hz => mfill_any p h n at_ A' m c' ws zs w ha hs hw S.out.len hn2 hz (by omega))
        unfold MFillPost at MS
        unfold memCells at RS
        have HSL := Lib.hid hsl
        have HSU := Lib.hid hsu
        clear hsl hsu
        generalize fillWs at_ ws zs = ws' at *
        generalize fillRes at_ ws.length zs.length = sr at *
        have SV := Lib.hid (S.out.alloc (.cells #[.int .i64 kind, .int .u32 at_, .int .u32 v, .slice A' m c'] 51))
        have OV := Lib.hid (Whole.made wr 51 #[.int .i64 kind, .int .u32 at_, .int .u32 v, .slice A' m c'] wr.heap.size rfl)
        have g0 : (wr.alloc (.cells #[.int .i64 kind, .int .u32 at_, .int .u32 v, .slice A' m c'] 51)).cell? ⟨g9, 0, none⟩ = some (.int .u32 e0) := SV.out.var.cell 0
        have g1 : (wr.alloc (.cells #[.int .i64 kind, .int .u32 at_, .int .u32 v, .slice A' m c'] 51)).cell? ⟨g9, 1, none⟩ = some (.int .u32 e1) := SV.out.var.cell 1
        have g2 : (wr.alloc (.cells #[.int .i64 kind, .int .u32 at_, .int .u32 v, .slice A' m c'] 51)).cell? ⟨g9, 2, none⟩ = some (.int .u32 e2) := SV.out.var.cell 2
        have g3 : (wr.alloc (.cells #[.int .i64 kind, .int .u32 at_, .int .u32 v, .slice A' m c'] 51)).cell? ⟨g9, 3, none⟩ = some (.int .u32 e3) := SV.out.var.cell 3
        have g4 : (wr.alloc (.cells #[.int .i64 kind, .int .u32 at_, .int .u32 v, .slice A' m c'] 51)).cell? ⟨g9, 4, none⟩ = some (.int .u32 e4) := SV.out.var.cell 4
        have g5 : (wr.alloc (.cells #[.int .i64 kind, .int .u32 at_, .int .u32 v, .slice A' m c'] 51)).cell? ⟨g9, 5, none⟩ = some (.slice (some ⟨h2, 0, none⟩) n n) := SV.out.var.cell 5
        have NV := Lib.hid (NZ.out.below ((Below.refl _ _).alloc (Nat.le_refl _) (.cells #[.int .i64 kind, .int .u32 at_, .int .u32 v, .slice A' m c'] 51)))
        clear NZ
        go_wp2_with fail
        clear g0 g1 g2 g3 g4 g5
        generalize wr.alloc (.cells #[.int .i64 kind, .int .u32 at_, .int .u32 v, .slice A' m c'] 51) = V at *
        generalize wr.heap.size = g11 at *
        refine (RS.out _ SV.out.ref NV.out).mono ?_
        rintro e w2 ⟨h2', rfl, hR, hor, hb2⟩
        have O2 := Lib.hid (OV.out.below hb2 OV.out.lt)
        have S2 := Lib.hid (SV.out.below hb2)
        have N2 := Lib.hid (NV.out.below hb2)
        have HB2 := Lib.hid hb2
        have HR := Lib.hid hR
        have HOR := Lib.hid hor
        clear hb2 hR hor

        have p1 : (w2.alloc (.cells #[.int .u32 e0, .int .u32 e1, .int .u32 e2, .int .u32 e3, .int .u32 e4, .slice (some ⟨h2', 0, none⟩) n n] 32)).cell? ⟨g11, 1, none⟩ = some (.int .u32 at_) := (O2.out.alloc _).cell 1
        have p2 : (w2.alloc (.cells #[.int .u32 e0, .int .u32 e1, .int .u32 e2, .int .u32 e3, .int .u32 e4, .slice (some ⟨h2', 0, none⟩) n n] 32)).cell? ⟨g11, 2, none⟩ = some (.int .u32 v) := (O2.out.alloc _).cell 2
        have p3 : (w2.alloc (.cells #[.int .u32 e0, .int .u32 e1, .int .u32 e2, .int .u32 e3, .int .u32 e4, .slice (some ⟨h2', 0, none⟩) n n] 32)).cell? ⟨g11, 3, none⟩ = some (.slice A' m c') := (O2.out.alloc _).cell 3
        go_wp2_with fail
        have S3 := Lib.hid (S2.out.alloc (.cells #[.int .u32 e0, .int .u32 e1, .int .u32 e2, .int .u32 e3, .int .u32 e4, .slice (some ⟨h2', 0, none⟩) n n] 32))
        have N3 := Lib.hid (N2.out.below ((Below.refl _ _).alloc (Nat.le_refl _) (.cells #[.int .u32 e0, .int .u32 e1, .int .u32 e2, .int .u32 e3, .int .u32 e4, .slice (some ⟨h2', 0, none⟩) n n] 32)))
        have lh := S2.out.wrd.lt
        clear p1 p2 p3 S2 N2 O2
        refine (MS.out _ (S3.out.mem.cell 5) S3.out.wrd N3.out).mono ?_
        rintro e w4 ⟨rfl, hW4, ho⟩
        have X4 := Lib.hid ((Whole.made w2 32 #[.int .u32 e0, .int .u32 e1, .int .u32 e2, .int .u32 e3, .int .u32 e4, .slice (some ⟨h2', 0, none⟩) n n] _ rfl).only (Nat.ne_of_gt lh) ho)
        have V4 := Lib.hid (S3.out.var.only S3.out.d3 ho)
        have SN := Lib.hid (St.next SV.out HB2.out HR.out HOR.out ho hW4 HSL.out HSU.out)
        clear ho hW4 S3 lh
        have x0 : w4.cell? ⟨w2.heap.size, 0, none⟩ = some (.int .u32 e0) := X4.out.cell 0
        have x1 : w4.cell? ⟨w2.heap.size, 1, none⟩ = some (.int .u32 e1) := X4.out.cell 1
        have x2 : w4.cell? ⟨w2.heap.size, 2, none⟩ = some (.int .u32 e2) := X4.out.cell 2
        have x3 : w4.cell? ⟨w2.heap.size, 3, none⟩ = some (.int .u32 e3) := X4.out.cell 3
        have x4 : w4.cell? ⟨w2.heap.size, 4, none⟩ = some (.int .u32 e4) := X4.out.cell 4
        have x5 : w4.cell? ⟨w2.heap.size, 5, none⟩ = some (.slice (some ⟨h2', 0, none⟩) n n) := X4.out.cell 5
        have g0 : w4.cell? ⟨g9, 0, none⟩ = some (.int .u32 e0) := V4.out.cell 0
        have g1 : w4.cell? ⟨g9, 1, none⟩ = some (.int .u32 e1) := V4.out.cell 1
        have g2 : w4.cell? ⟨g9, 2, none⟩ = some (.int .u32 e2) := V4.out.cell 2
        have g3 : w4.cell? ⟨g9, 3, none⟩ = some (.int .u32 e3) := V4.out.cell 3
        have g4 : w4.cell? ⟨g9, 4, none⟩ = some (.int .u32 e4) := V4.out.cell 4
        have g5 : w4.cell? ⟨g9, 5, none⟩ = some (.slice (some ⟨h2, 0, none⟩) n n) := V4.out.cell 5
        have gf : ∀ i, w4.frozen? ⟨g9, i, none⟩ = false := V4.out.free
        go_wp2_with fail
        clear x0 x1 x2 x3 x4 x5 g0 g1 g2 g3 g4 g5 gf X4 V4
        generalize ((((((w4.setCell ⟨g9, 0, none⟩ (.int .u32 e0)).setCell ⟨g9, 1, none⟩ (.int .u32 e1)).setCell ⟨g9, 2, none⟩ (.int .u32 e2)).setCell ⟨g9, 3, none⟩ (.int .u32 e3)).setCell ⟨g9, 4, none⟩ (.int .u32 e4)).setCell ⟨g9, 5, none⟩ (.slice (some ⟨h2', 0, none⟩) n n)) = w5 at *
        refine (same_any3 p h h2' n e0 e1 e2 e3 e4 ws' w5 SN.out.mem SN.out.wrd SN.out.ref SN.out.len hn2 HL.out SN.out.u32).mono ?_
        rintro e w6 ⟨rfl, hb6⟩
        have SR := Lib.hid (SN.out.below hb6)
        clear hb6 SN
        go_wp2_with fail
        go_roundw
        case rel => exact ⟨j + 1, p, h, h2', ws', by omega, by go_num, rfl, SR⟩
        case measure => simp [intOf]; omega
      by_cases k2 : kind = 2
      · have d0 : (kind == 0) = false := by simpa using k0
        have d1 : (kind == 1) = false := by simpa using k1
        have d2 : (kind == 2) = true := by simpa using k2
        clear k0 k1 k2
        have CL := Lib.hid (fun w hm hw => clone_any p h n e0 e1 e2 e3 e4 ws w hm hw S.out.len hn2)
        have MS := Lib.hid (fun A w hs hw hz => mfill_any p h n 0 A 4 4 ws [1, 2, 3, v] w ⟨by omega, by omega⟩ hs hw S.out.len hn2 hz (by omega))
        unfold MFillPost at MS
        unfold MadePost memCells at CL
        generalize fillRes 0 ws.length [1, 2, 3, v].length = sr at *
        have SV := Lib.hid (S.out.alloc (.cells #[.int .i64 kind, .int .u32 at_, .int .u32 v, .slice A' m c'] 51))
        have OV := Lib.hid (Whole.made wr 51 #[.int .i64 kind, .int .u32 at_, .int .u32 v, .slice A' m c'] wr.heap.size rfl)
        have g0 : (wr.alloc (.cells #[.int .i64 kind, .int .u32 at_, .int .u32 v, .slice A' m c'] 51)).cell? ⟨g9, 0, none⟩ = some (.int .u32 e0) := SV.out.var.cell 0
        have g1 : (wr.alloc (.cells #[.int .i64 kind, .int .u32 at_, .int .u32 v, .slice A' m c'] 51)).cell? ⟨g9, 1, none⟩ = some (.int .u32 e1) := SV.out.var.cell 1
        have g2 : (wr.alloc (.cells #[.int .i64 kind, .int .u32 at_, .int .u32 v, .slice A' m c'] 51)).cell? ⟨g9, 2, none⟩ = some (.int .u32 e2) := SV.out.var.cell 2
        have g3 : (wr.alloc (.cells #[.int .i64 kind, .int .u32 at_, .int .u32 v, .slice A' m c'] 51)).cell? ⟨g9, 3, none⟩ = some (.int .u32 e3) := SV.out.var.cell 3
        have g4 : (wr.alloc (.cells #[.int .i64 kind, .int .u32 at_, .int .u32 v, .slice A' m c'] 51)).cell? ⟨g9, 4, none⟩ = some (.int .u32 e4) := SV.out.var.cell 4
        have g5 : (wr.alloc (.cells #[.int .i64 kind, .int .u32 at_, .int .u32 v, .slice A' m c'] 51)).cell? ⟨g9, 5, none⟩ = some (.slice (some ⟨h2, 0, none⟩) n n) := SV.out.var.cell 5
        have NV := Lib.hid (NZ.out.below ((Below.refl _ _).alloc (Nat.le_refl _) (.cells #[.int .i64 kind, .int .u32 at_, .int .u32 v, .slice A' m c'] 51)))
        clear NZ
        go_wp2_with fail
        clear g0 g1 g2 g3 g4 g5
        generalize wr.alloc (.cells #[.int .i64 kind, .int .u32 at_, .int .u32 v, .slice A' m c'] 51) = V at *
        generalize wr.heap.size = g11 at *
        refine (CL.out _ SV.out.mem SV.out.wrd).mono ?_
        rintro e w2 ⟨p', h', rfl, hM, hW, gh, gp, hne, hb2⟩
        have O2 := Lib.hid (OV.out.below hb2 OV.out.lt)
        have S2 := Lib.hid (SV.out.below hb2)
        have HB2 := Lib.hid hb2
        have HM := Lib.hid hM
        have HW := Lib.hid hW
        have GG := Lib.hid (And.intro gh (And.intro gp hne))
        clear hb2 hM hW gh gp hne
        have p2 : w2.cell? ⟨g11, 2, none⟩ = some (.int .u32 v) := O2.out.cell 2
        go_wp2_with fail
        have NB := nums_built .u32 22 w2 [1, 2, 3, v] _ rfl 4 rfl (by decide) _ rfl
        have S3 := Lib.hid (S2.out.alloc (.cells #[.int .u32 1, .int .u32 2, .int .u32 3, .int .u32 v] 22))
        clear p2 S2 O2
        refine (MS.out _ _ (S3.out.mem.cell 5) S3.out.wrd NB).mono ?_
        rintro e w4 ⟨rfl, hW4, ho⟩
        have SN := Lib.hid (St.cloned SV.out HB2.out HM.out HW.out GG.out.1 GG.out.2.1 GG.out.2.2 ho)
        clear ho hW4 S3 NB
        have g0 : w4.cell? ⟨g9, 0, none⟩ = some (.int .u32 e0) := SN.out.var.cell 0
        have g1 : w4.cell? ⟨g9, 1, none⟩ = some (.int .u32 e1) := SN.out.var.cell 1
        have g2 : w4.cell? ⟨g9, 2, none⟩ = some (.int .u32 e2) := SN.out.var.cell 2
        have g3 : w4.cell? ⟨g9, 3, none⟩ = some (.int .u32 e3) := SN.out.var.cell 3
        have g4 : w4.cell? ⟨g9, 4, none⟩ = some (.int .u32 e4) := SN.out.var.cell 4
        have g5 : w4.cell? ⟨g9, 5, none⟩ = some (.slice (some ⟨h2, 0, none⟩) n n) := SN.out.var.cell 5
        go_wp2_with fail
        clear g0 g1 g2 g3 g4 g5
        refine (same_any3 p' h' h2 n e0 e1 e2 e3 e4 ws w4 SN.out.mem SN.out.wrd SN.out.ref SN.out.len hn2 HL.out SN.out.u32).mono ?_
        rintro e w6 ⟨rfl, hb6⟩
        have SR := Lib.hid (SN.out.below hb6)
        clear hb6 SN
        go_wp2_with fail
        go_roundw
        case rel => exact ⟨j + 1, p', h', h2, ws, by omega, by go_num, rfl, SR⟩
        case measure => simp [intOf]; omega
      · have d0 : (kind == 0) = false := by simpa using k0
        have d1 : (kind == 1) = false := by simpa using k1
        have d2 : (kind == 2) = false := by simpa using k2
        clear k0 k1 k2
        have SV := Lib.hid (S.out.alloc (.cells #[.int .i64 kind, .int .u32 at_, .int .u32 v, .slice A' m c'] 51))
        have OV := Lib.hid (Whole.made wr 51 #[.int .i64 kind, .int .u32 at_, .int .u32 v, .slice A' m c'] wr.heap.size rfl)
        have g0 : (wr.alloc (.cells #[.int .i64 kind, .int .u32 at_, .int .u32 v, .slice A' m c'] 51)).cell? ⟨g9, 0, none⟩ = some (.int .u32 e0) := SV.out.var.cell 0
        have g1 : (wr.alloc (.cells #[.int .i64 kind, .int .u32 at_, .int .u32 v, .slice A' m c'] 51)).cell? ⟨g9, 1, none⟩ = some (.int .u32 e1) := SV.out.var.cell 1
        have g2 : (wr.alloc (.cells #[.int .i64 kind, .int .u32 at_, .int .u32 v, .slice A' m c'] 51)).cell? ⟨g9, 2, none⟩ = some (.int .u32 e2) := SV.out.var.cell 2
        have g3 : (wr.alloc (.cells #[.int .i64 kind, .int .u32 at_, .int .u32 v, .slice A' m c'] 51)).cell? ⟨g9, 3, none⟩ = some (.int .u32 e3) := SV.out.var.cell 3
        have g4 : (wr.alloc (.cells #[.int .i64 kind, .int .u32 at_, .int .u32 v, .slice A' m c'] 51)).cell? ⟨g9, 4, none⟩ = some (.int .u32 e4) := SV.out.var.cell 4
        have g5 : (wr.alloc (.cells #[.int .i64 kind, .int .u32 at_, .int .u32 v, .slice A' m c'] 51)).cell? ⟨g9, 5, none⟩ = some (.slice (some ⟨h2, 0, none⟩) n n) := SV.out.var.cell 5
        have NV := Lib.hid (NZ.out.below ((Below.refl _ _).alloc (Nat.le_refl _) (.cells #[.int .i64 kind, .int .u32 at_, .int .u32 v, .slice A' m c'] 51)))
        clear NZ
        go_wp2_with fail
        go_roundw
        case rel => exact ⟨j + 1, p, h, h2, ws, by omega, by go_num, rfl, SV⟩
        case measure => simp [intOf]; omega
    · obtain rfl : j = n2 := by omega
      have g0 : wr.cell? ⟨g9, 0, none⟩ = some (.int .u32 e0) := S.out.var.cell 0
      have g1 : wr.cell? ⟨g9, 1, none⟩ = some (.int .u32 e1) := S.out.var.cell 1
      have g2 : wr.cell? ⟨g9, 2, none⟩ = some (.int .u32 e2) := S.out.var.cell 2
      have g3 : wr.cell? ⟨g9, 3, none⟩ = some (.int .u32 e3) := S.out.var.cell 3
      have g4 : wr.cell? ⟨g9, 4, none⟩ = some (.int .u32 e4) := S.out.var.cell 4
      have g5 : wr.cell? ⟨g9, 5, none⟩ = some (.slice (some ⟨h2, 0, none⟩) n n) := S.out.var.cell 5
      have t0 : wr.cell? ⟨w.heap.size + 1, 0, none⟩ = some (.int .u32 0) := S.out.res.cell 0
      have t1 : wr.cell? ⟨w.heap.size + 1, 1, none⟩ = some (.int .u32 0) := S.out.res.cell 1
      have t2 : wr.cell? ⟨w.heap.size + 1, 2, none⟩ = some (.int .u32 0) := S.out.res.cell 2
      have t3 : wr.cell? ⟨w.heap.size + 1, 3, none⟩ = some (.int .u32 0) := S.out.res.cell 3
      have t4 : wr.cell? ⟨w.heap.size + 1, 4, none⟩ = some (.int .u32 0) := S.out.res.cell 4
      have t5 : wr.cell? ⟨w.heap.size + 1, 5, none⟩ = some (.slice none 0 0) := S.out.res.cell 5
      have tf : ∀ i, wr.frozen? ⟨w.heap.size + 1, i, none⟩ = false := S.out.res.free
      have d4 := S.out.d4
      have d8 := S.out.d8
      go_wp2_with fail
      go_region
      have TU := Lib.hid (show Whole ((((((wr.setCell ⟨w.heap.size + 1, 0, none⟩ (.int .u32 e0)).setCell ⟨w.heap.size + 1, 1, none⟩ (.int .u32 e1)).setCell ⟨w.heap.size + 1, 2, none⟩ (.int .u32 e2)).setCell ⟨w.heap.size + 1, 3, none⟩ (.int .u32 e3)).setCell ⟨w.heap.size + 1, 4, none⟩ (.int .u32 e4)).setCell ⟨w.heap.size + 1, 5, none⟩ (.slice (some ⟨h2, 0, none⟩) n n)).drew (w.heap.size + 1) 32 (memCells e0 e1 e2 e3 e4 h2 n) from (((((((S.out.res.store 0 (.int .u32 e0)).store 1 (.int .u32 e1)).store 2 (.int .u32 e2)).store 3 (.int .u32 e3)).store 4 (.int .u32 e4)).store 5 (.slice (some ⟨h2, 0, none⟩) n n))).drew)
      have MU := Lib.hid (show Whole ((((((wr.setCell ⟨w.heap.size + 1, 0, none⟩ (.int .u32 e0)).setCell ⟨w.heap.size + 1, 1, none⟩ (.int .u32 e1)).setCell ⟨w.heap.size + 1, 2, none⟩ (.int .u32 e2)).setCell ⟨w.heap.size + 1, 3, none⟩ (.int .u32 e3)).setCell ⟨w.heap.size + 1, 4, none⟩ (.int .u32 e4)).setCell ⟨w.heap.size + 1, 5, none⟩ (.slice (some ⟨h2, 0, none⟩) n n)).drew p 68 (memCells e0 e1 e2 e3 e4 h n) from (((((((S.out.mem.far (p := ⟨w.heap.size + 1, 0, none⟩) S.out.d9 _).far (p := ⟨w.heap.size + 1, 1, none⟩) S.out.d9 _).far (p := ⟨w.heap.size + 1, 2, none⟩) S.out.d9 _).far (p := ⟨w.heap.size + 1, 3, none⟩) S.out.d9 _).far (p := ⟨w.heap.size + 1, 4, none⟩) S.out.d9 _).far (p := ⟨w.heap.size + 1, 5, none⟩) S.out.d9 _)).drew)
      have WU := Lib.hid (show Whole ((((((wr.setCell ⟨w.heap.size + 1, 0, none⟩ (.int .u32 e0)).setCell ⟨w.heap.size + 1, 1, none⟩ (.int .u32 e1)).setCell ⟨w.heap.size + 1, 2, none⟩ (.int .u32 e2)).setCell ⟨w.heap.size + 1, 3, none⟩ (.int .u32 e3)).setCell ⟨w.heap.size + 1, 4, none⟩ (.int .u32 e4)).setCell ⟨w.heap.size + 1, 5, none⟩ (.slice (some ⟨h2, 0, none⟩) n n)).drew h 22 (words ws) from (((((((S.out.wrd.far (p := ⟨w.heap.size + 1, 0, none⟩) (Ne.symm S.out.d4) _).far (p := ⟨w.heap.size + 1, 1, none⟩) (Ne.symm S.out.d4) _).far (p := ⟨w.heap.size + 1, 2, none⟩) (Ne.symm S.out.d4) _).far (p := ⟨w.heap.size + 1, 3, none⟩) (Ne.symm S.out.d4) _).far (p := ⟨w.heap.size + 1, 4, none⟩) (Ne.symm S.out.d4) _).far (p := ⟨w.heap.size + 1, 5, none⟩) (Ne.symm S.out.d4) _)).drew)
      have KU := Lib.hid (show Whole ((((((wr.setCell ⟨w.heap.size + 1, 0, none⟩ (.int .u32 e0)).setCell ⟨w.heap.size + 1, 1, none⟩ (.int .u32 e1)).setCell ⟨w.heap.size + 1, 2, none⟩ (.int .u32 e2)).setCell ⟨w.heap.size + 1, 3, none⟩ (.int .u32 e3)).setCell ⟨w.heap.size + 1, 4, none⟩ (.int .u32 e4)).setCell ⟨w.heap.size + 1, 5, none⟩ (.slice (some ⟨h2, 0, none⟩) n n)).drew h2 22 (words ws) from (((((((S.out.ref.far (p := ⟨w.heap.size + 1, 0, none⟩) S.out.d10 _).far (p := ⟨w.heap.size + 1, 1, none⟩) S.out.d10 _).far (p := ⟨w.heap.size + 1, 2, none⟩) S.out.d10 _).far (p := ⟨w.heap.size + 1, 3, none⟩) S.out.d10 _).far (p := ⟨w.heap.size + 1, 4, none⟩) S.out.d10 _).far (p := ⟨w.heap.size + 1, 5, none⟩) S.out.d10 _)).drew)
      have BU := Lib.hid (show Below w.heap.size w ((((((wr.setCell ⟨w.heap.size + 1, 0, none⟩ (.int .u32 e0)).setCell ⟨w.heap.size + 1, 1, none⟩ (.int .u32 e1)).setCell ⟨w.heap.size + 1, 2, none⟩ (.int .u32 e2)).setCell ⟨w.heap.size + 1, 3, none⟩ (.int .u32 e3)).setCell ⟨w.heap.size + 1, 4, none⟩ (.int .u32 e4)).setCell ⟨w.heap.size + 1, 5, none⟩ (.slice (some ⟨h2, 0, none⟩) n n)).drew from (((((((S.out.bel.setCell (p := ⟨w.heap.size + 1, 0, none⟩) (Nat.le_succ _) _).setCell (p := ⟨w.heap.size + 1, 1, none⟩) (Nat.le_succ _) _).setCell (p := ⟨w.heap.size + 1, 2, none⟩) (Nat.le_succ _) _).setCell (p := ⟨w.heap.size + 1, 3, none⟩) (Nat.le_succ _) _).setCell (p := ⟨w.heap.size + 1, 4, none⟩) (Nat.le_succ _) _).setCell (p := ⟨w.heap.size + 1, 5, none⟩) (Nat.le_succ _) _)).drew)
      clear g0 g1 g2 g3 g4 g5 t0 t1 t2 t3 t4 t5 tf d4 d8
      generalize ((((((wr.setCell ⟨w.heap.size + 1, 0, none⟩ (.int .u32 e0)).setCell ⟨w.heap.size + 1, 1, none⟩ (.int .u32 e1)).setCell ⟨w.heap.size + 1, 2, none⟩ (.int .u32 e2)).setCell ⟨w.heap.size + 1, 3, none⟩ (.int .u32 e3)).setCell ⟨w.heap.size + 1, 4, none⟩ (.int .u32 e4)).setCell ⟨w.heap.size + 1, 5, none⟩ (.slice (some ⟨h2, 0, none⟩) n n)).drew = V at *

      have t0 : V.cell? ⟨w.heap.size + 1, 0, none⟩ = some (.int .u32 e0) := TU.out.cell 0
      have t1 : V.cell? ⟨w.heap.size + 1, 1, none⟩ = some (.int .u32 e1) := TU.out.cell 1
      have t2 : V.cell? ⟨w.heap.size + 1, 2, none⟩ = some (.int .u32 e2) := TU.out.cell 2
      have t3 : V.cell? ⟨w.heap.size + 1, 3, none⟩ = some (.int .u32 e3) := TU.out.cell 3
      have t4 : V.cell? ⟨w.heap.size + 1, 4, none⟩ = some (.int .u32 e4) := TU.out.cell 4
      have t5 : V.cell? ⟨w.heap.size + 1, 5, none⟩ = some (.slice (some ⟨h2, 0, none⟩) n n) := TU.out.cell 5
      go_wp2_with fail
      exact bodyPost_ret (v := .tuple #[.pointer (some ⟨p, 0, none⟩), .agg (memCells e0 e1 e2 e3 e4 h2 n), .bool true]) (by simp [results, Try.results9, go_sem, t0, t1, t2, t3, t4, t5, memCells]) rfl ⟨p, h, h2, ws, rfl, MU.out, WU.out, KU.out, S.out.len, S.out.u32, S.out.bp, S.out.bh, S.out.d1, S.out.d2, BU.out⟩

end Go.Proofs.Ytojjfpplhgfpfaa
