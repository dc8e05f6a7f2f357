/- Finger: the answers' TakeCount. -/
import Derived.Test.YthmjniedfiabhaaFngI
import Derived.Test.YthmjniedfiabhaaCdcH
import Derived.Test.YthmjniedfiabhaaRowSet
import Derived.Deep.RegionHeld3
import Derived.BigRegion
import Derived.Lib.MinMax
namespace Go.Proofs.Ythmjniedfiabhaa
open Go.ChangeShapes Go.WideShapes Go.ChangeAt Go.RowKit
set_option linter.unusedVariables false
set_option linter.unusedSimpArgs false

/-- What a reader of the answers' leaves: a number, what is left, the error. -/
def RcPost (V w : World) (x : Value) (zs : List Int) (err : Int) (e : Ending) (w' : World) : Prop :=
  ∃ A n c, e = .returned (.tuple #[.agg #[.slice A n c, .int .i64 err], x]) ∧ RfV V A n c zs err ∧ n ≤ 1000000 ∧ Below w.heap.size w w'

theorem RfV.none {w : World} {A : Option Addr} {n c : Nat} {err : Int} (h : err ≠ 0) : RfV w A n c [] err := ⟨fun e => absurd e h, fun _ => rfl⟩

/-- A reader stored behind a call, with a box of its own beside. -/
theorem rc_step {w wr w1 : World} {p B : Nat} {o0 o1 r0 r1 : Value} (hM : Whole wr p rfT #[o0, o1]) (hR : Whole wr (p + 1) rfT #[r0, r1]) (hB : Below B w wr) (hb : Below wr.heap.size wr w1) (hp : B ≤ p) (hz : B ≤ wr.heap.size) (D e1 : Value) :
    (Whole (w1.alloc (.cells #[D, e1] rfT)) p rfT #[o0, o1] ∧ Whole (w1.alloc (.cells #[D, e1] rfT)) w1.heap.size rfT #[D, e1]) ∧
    (Whole (((w1.alloc (.cells #[D, e1] rfT)).setCell ⟨p, 0, none⟩ D).setCell ⟨p, 1, none⟩ e1) p rfT #[D, e1] ∧ Whole (((w1.alloc (.cells #[D, e1] rfT)).setCell ⟨p, 0, none⟩ D).setCell ⟨p, 1, none⟩ e1) (p + 1) rfT #[r0, r1] ∧ Below B w (((w1.alloc (.cells #[D, e1] rfT)).setCell ⟨p, 0, none⟩ D).setCell ⟨p, 1, none⟩ e1)) ∧
    ∀ b, b < w1.heap.size → b ≠ p → (((w1.alloc (.cells #[D, e1] rfT)).setCell ⟨p, 0, none⟩ D).setCell ⟨p, 1, none⟩ e1).heap[b]? = w1.heap[b]? := by
  have m1 := (hM.below hb hM.lt).alloc (.cells #[D, e1] rfT)
  have r1 := (hR.below hb hR.lt).alloc (.cells #[D, e1] rfT)
  have s := set_two m1 D e1
  have q := (Below.refl w1.heap.size w1).alloc (Nat.le_refl _) (.cells #[D, e1] rfT)
  have q1 : Below B w (w1.alloc (.cells #[D, e1] rfT)) := (hB.trans (hb.mono hz)).trans (q.mono (Nat.le_trans hz hb.size))
  refine ⟨⟨m1, Whole.made w1 rfT #[D, e1] _ rfl⟩, ⟨s.1, (s.2.block (p + 1) r1.lt (by intro e; injection e with e; omega)).trans r1, q1.grown s.2 (Nat.le_trans (Nat.le_trans hz hb.size) q.size) (fun b hb => by injection hb with hb; omega)⟩, fun b hb hne => ?_⟩
  rw [s.2.block b (Nat.lt_of_lt_of_le hb q.size) (by intro e; injection e with e; omega), q.block b hb]

/-- A reader stored as the result. -/
theorem rc_ret {w w1 : World} {p B : Nat} {r0 r1 : Value} (hR : Whole w1 p rfT #[r0, r1]) (hB : Below B w w1) (hp : B ≤ p) (hz : B ≤ w1.heap.size) (D e1 : Value) :
    Whole ((w1.setCell ⟨p, 0, none⟩ D).setCell ⟨p, 1, none⟩ e1) p rfT #[D, e1] ∧ Below B w ((w1.setCell ⟨p, 0, none⟩ D).setCell ⟨p, 1, none⟩ e1) ∧ w1.grownBy ((w1.setCell ⟨p, 0, none⟩ D).setCell ⟨p, 1, none⟩ e1) (some p) := by
  have s := set_two hR D e1
  exact ⟨s.1, hB.grown s.2 hz (fun b hb => by injection hb with hb; omega), s.2⟩

theorem mul7 (x : Int) (k : Nat) (h0 : 0 ≤ x) (h1 : x ≤ 127) (hk : k ≤ 8) : wrap64 (x * (128 : Int) ^ k) = ((x.toNat * 128 ^ k : Nat) : Int) := by
  obtain ⟨n, rfl⟩ := Int.eq_ofNat_of_zero_le h0
  have hle : (128 : Nat) ^ k ≤ 128 ^ 8 := Nat.pow_le_pow_right (by decide) hk
  have h2 : n * 128 ^ k ≤ 127 * 128 ^ 8 := Nat.mul_le_mul (by omega) hle
  have e : ((n : Int) * (128 : Int) ^ k) = ((n * 128 ^ k : Nat) : Int) := by simp
  rw [Int.toNat_natCast, e]
  exact IntWalk.wrap64_in _ (by omega)

theorem by7 (k : Nat) (hk : k + 1 ≤ 8) : wrap64 ((128 : Int) ^ k * 128) = (128 : Int) ^ (k + 1) := by
  have hle : (128 : Nat) ^ (k + 1) ≤ 128 ^ 8 := Nat.pow_le_pow_right (by decide) hk
  have e : ((128 : Int) ^ k * 128) = ((128 ^ (k + 1) : Nat) : Int) := by rw [Nat.pow_succ]; simp
  have e2 : ((128 : Int) ^ (k + 1)) = ((128 ^ (k + 1) : Nat) : Int) := by simp
  rw [e, e2]
  generalize (128 : Nat) ^ (k + 1) = z at *
  exact IntWalk.wrap64_in _ (by omega)

set_option maxHeartbeats 32000000 in
set_option maxRecDepth 100000 in
theorem reftake_count (most : Nat) (A : Option Addr) (n c : Nat) (zs : List Int) (err : Int) (V w : World) (hV : Below V.heap.size V w) (h : RfV V A n c zs err) (hn : n ≤ 1000000) (hb : Byt zs) (hm : most ≤ 9223372036854775807) :
    Calls Try.prog 63 #[.agg #[.slice A n c, .int .i64 err], .int .i64 most] w (RcPost V w (.int .i64 (groupsP zs err most).1) (groupsP zs err most).2.1 (groupsP zs err most).2.2) := by
  have HV := Lib.hid hV
  have H := Lib.hid h
  have HN := Lib.hid hn
  have HB := Lib.hid hb
  have GB := Lib.hid (fun e (h : takeG 0 zs = .error e) => groupsP_bad (err := err) (most := most) h)
  have GG := Lib.hid (fun n r (h : takeG 0 zs = .ok (n, r)) (hn : most < n) => groupsP_big (err := err) h hn)
  have GO := Lib.hid (fun n r (h : takeG 0 zs = .ok (n, r)) (hn : ¬ most < n) => groupsP_ok (err := err) h hn)
  have ZE := Lib.hid (show err ≠ 0 → zs = [] from h.bad)
  generalize groupsP zs err most = p at *
  have X1 := Lib.hid ((Whole.made w rfT #[.slice A n c, .int .i64 err] _ rfl).alloc (.cells #[.slice none 0 0, .int .i64 0] rfT))
  have X2 := Lib.hid (Whole.made (w.alloc (.cells #[.slice A n c, .int .i64 err] rfT)) rfT #[.slice none 0 0, .int .i64 0] (w.heap.size + 1) (by simp))
  have B2 := Lib.hid (((Below.refl w.heap.size w).alloc (Nat.le_refl _) (.cells #[.slice A n c, .int .i64 err] rfT)).alloc (by simp) (.cells #[.slice none 0 0, .int .i64 0] rfT))
  clear hV h hn hb
  by_cases h0 : err = 0
  · subst h0
    clear ZE
    go_enter Try.func63, Try.ntmps63
    go_wp2_with fail
    go_loopw [6, 7, 8] (fun i6 i7 i8 wr => ∃ (k acc : Nat) (by' : Int) (A : Option Addr) (n c : Nat) (r : List Int), k ≤ 9 ∧ acc < 128 ^ k ∧ i6 = .int .i64 acc ∧ i7 = .int .i64 by' ∧ (k ≤ 8 → by' = (128 : Int) ^ k) ∧ i8 = .int .i64 k ∧ LinkG zs acc k r ∧ RfV V A n c r 0 ∧ n ≤ 1000000 ∧ Byt r ∧ Whole wr w.heap.size rfT #[.slice A n c, .int .i64 0] ∧ Whole wr (w.heap.size + 1) rfT #[.slice none 0 0, .int .i64 0] ∧ Below w.heap.size w wr) (fun _ _ i _ => 9 - (intOf i).toNat)
    case atStart => exact ⟨0, 0, 1, A, n, c, zs, by decide, by decide, rfl, rfl, fun _ => rfl, rfl, (liftG_zero _).symm, H.out, HN.out, HB.out, X1.out, X2.out, B2.out⟩
    case round =>
      clear H HN HB X1 X2 B2
      obtain ⟨k, acc, by', A, n, c, r, hk, hacc, rfl, rfl, hby, rfl, hl, hr, hn, hrb, hM, hR, hB⟩ := hrel
      have L := Lib.hid hl
      have RV := Lib.hid hr
      have RN := Lib.hid hn
      have RB := Lib.hid hrb
      have MB := Lib.hid hM
      have MR := Lib.hid hR
      have BW := Lib.hid hB
      have HA := Lib.hid hacc
      have HY := Lib.hid hby
      have VW := Lib.hid (HV.out.trans (hB.mono HV.out.size))
      have c0 : wr.cell? ⟨w.heap.size, 0, none⟩ = some (.slice A n c) := hM.cell 0
      have c1 : wr.cell? ⟨w.heap.size, 1, none⟩ = some (.int .i64 0) := hM.cell 1
      clear hl hr hn hrb hM hR hB hacc hby
      cases r with
      | nil =>
        obtain rfl : n = 0 := by
          have := (RV.out.ok rfl).1.1
          simpa using this.symm
        have T := Lib.hid (refbyte_no A 0 c 0 wr (.inr rfl))
        rw [show errP 0 120 = 120 from rfl] at T
        have P := Lib.hid (GB.out 120 L.out.short)
        rw [show errP 0 120 = 120 from rfl] at P
        go_wp2_with fail
        refine T.out.mono ?_
        rintro e w1 ⟨rfl, hb⟩
        have ST := Lib.hid (rc_step MB.out MR.out BW.out hb (Nat.le_refl _) BW.out.size (.slice A 0 c) (.int .i64 120))
        have m0 : (w1.alloc (.cells #[.slice A 0 c, .int .i64 120] rfT)).cell? ⟨w.heap.size, 0, none⟩ = some (.slice A 0 c) := ST.out.1.1.cell 0
        have fm0 : (w1.alloc (.cells #[.slice A 0 c, .int .i64 120] rfT)).frozen? ⟨w.heap.size, 0, none⟩ = false := ST.out.1.1.free 0
        have m1 : (w1.alloc (.cells #[.slice A 0 c, .int .i64 120] rfT)).cell? ⟨w.heap.size, 1, none⟩ = some (.int .i64 0) := ST.out.1.1.cell 1
        have fm1 : (w1.alloc (.cells #[.slice A 0 c, .int .i64 120] rfT)).frozen? ⟨w.heap.size, 1, none⟩ = false := ST.out.1.1.free 1
        have nx0 : (w1.alloc (.cells #[.slice A 0 c, .int .i64 120] rfT)).cell? ⟨w1.heap.size, 0, none⟩ = some (.slice A 0 c) := ST.out.1.2.cell 0
        have nx1 : (w1.alloc (.cells #[.slice A 0 c, .int .i64 120] rfT)).cell? ⟨w1.heap.size, 1, none⟩ = some (.int .i64 120) := ST.out.1.2.cell 1
        have z0 : (((w1.alloc (.cells #[.slice A 0 c, .int .i64 120] rfT)).setCell ⟨w.heap.size, 0, none⟩ (.slice A 0 c)).setCell ⟨w.heap.size, 1, none⟩ (.int .i64 120)).cell? ⟨w.heap.size, 0, none⟩ = some (.slice A 0 c) := ST.out.2.1.1.cell 0
        have z1 : (((w1.alloc (.cells #[.slice A 0 c, .int .i64 120] rfT)).setCell ⟨w.heap.size, 0, none⟩ (.slice A 0 c)).setCell ⟨w.heap.size, 1, none⟩ (.int .i64 120)).cell? ⟨w.heap.size, 1, none⟩ = some (.int .i64 120) := ST.out.2.1.1.cell 1
        have RR := Lib.hid ST.out.2.1.2.1
        have BZ := Lib.hid ST.out.2.1.2.2
        have RT := Lib.hid (rc_ret RR.out BZ.out (Nat.le_succ _) BZ.out.size (.slice A 0 c) (.int .i64 120))
        have r0 : (((w1.alloc (.cells #[.slice A 0 c, .int .i64 120] rfT)).setCell ⟨w.heap.size, 0, none⟩ (.slice A 0 c)).setCell ⟨w.heap.size, 1, none⟩ (.int .i64 120)).cell? ⟨w.heap.size + 1, 0, none⟩ = some (.slice none 0 0) := RR.out.cell 0
        have fr0 : (((w1.alloc (.cells #[.slice A 0 c, .int .i64 120] rfT)).setCell ⟨w.heap.size, 0, none⟩ (.slice A 0 c)).setCell ⟨w.heap.size, 1, none⟩ (.int .i64 120)).frozen? ⟨w.heap.size + 1, 0, none⟩ = false := RR.out.free 0
        have r1 : (((w1.alloc (.cells #[.slice A 0 c, .int .i64 120] rfT)).setCell ⟨w.heap.size, 0, none⟩ (.slice A 0 c)).setCell ⟨w.heap.size, 1, none⟩ (.int .i64 120)).cell? ⟨w.heap.size + 1, 1, none⟩ = some (.int .i64 0) := RR.out.cell 1
        have fr1 : (((w1.alloc (.cells #[.slice A 0 c, .int .i64 120] rfT)).setCell ⟨w.heap.size, 0, none⟩ (.slice A 0 c)).setCell ⟨w.heap.size, 1, none⟩ (.int .i64 120)).frozen? ⟨w.heap.size + 1, 1, none⟩ = false := RR.out.free 1
        have s0 : (((((w1.alloc (.cells #[.slice A 0 c, .int .i64 120] rfT)).setCell ⟨w.heap.size, 0, none⟩ (.slice A 0 c)).setCell ⟨w.heap.size, 1, none⟩ (.int .i64 120)).setCell ⟨w.heap.size + 1, 0, none⟩ (.slice A 0 c)).setCell ⟨w.heap.size + 1, 1, none⟩ (.int .i64 120)).cell? ⟨w.heap.size + 1, 0, none⟩ = some (.slice A 0 c) := RT.out.1.cell 0
        have s1 : (((((w1.alloc (.cells #[.slice A 0 c, .int .i64 120] rfT)).setCell ⟨w.heap.size, 0, none⟩ (.slice A 0 c)).setCell ⟨w.heap.size, 1, none⟩ (.int .i64 120)).setCell ⟨w.heap.size + 1, 0, none⟩ (.slice A 0 c)).setCell ⟨w.heap.size + 1, 1, none⟩ (.int .i64 120)).cell? ⟨w.heap.size + 1, 1, none⟩ = some (.int .i64 120) := RT.out.1.cell 1
        clear hb c0 c1
        go_wp2_with fail
        rw [P.out]
        refine bodyPost_ret (v := .tuple #[.agg #[.slice A 0 c, .int .i64 120], .int .i64 (0)]) ?_ rfl ⟨A, 0, c, rfl, RfV.none (by decide), Nat.zero_le _, RT.out.2.1⟩
        simp [results, Try.results63, go_sem, s0, s1]
      | cons b r =>
        have hb0 := RB.out b List.mem_cons_self
        have RB1 := Lib.hid (fun z hz => RB.out z (List.mem_cons_of_mem b hz))
        have T := Lib.hid (refbyte_yes A n c b r V wr VW.out RV.out RN.out)
        have RS := Lib.hid RN.out
        by_cases hk9 : k = 9
        · have hq9 : ((k : Int) == 9) = true := by simp [hk9]
          have P := Lib.hid (GB.out 121 (L.out.zero (.inl hk9)))
          clear hk9
          go_wp2_with fail
          refine T.out.mono ?_
          rintro e w1 ⟨A2, n2, c2, rfl, hrv, hn2, hb⟩
          have RV2 := Lib.hid hrv
          have ST := Lib.hid (rc_step MB.out MR.out BW.out hb (Nat.le_refl _) BW.out.size (.slice A2 n2 c2) (.int .i64 0))
          have m0 : (w1.alloc (.cells #[.slice A2 n2 c2, .int .i64 0] rfT)).cell? ⟨w.heap.size, 0, none⟩ = some (.slice A n c) := ST.out.1.1.cell 0
          have fm0 : (w1.alloc (.cells #[.slice A2 n2 c2, .int .i64 0] rfT)).frozen? ⟨w.heap.size, 0, none⟩ = false := ST.out.1.1.free 0
          have m1 : (w1.alloc (.cells #[.slice A2 n2 c2, .int .i64 0] rfT)).cell? ⟨w.heap.size, 1, none⟩ = some (.int .i64 0) := ST.out.1.1.cell 1
          have fm1 : (w1.alloc (.cells #[.slice A2 n2 c2, .int .i64 0] rfT)).frozen? ⟨w.heap.size, 1, none⟩ = false := ST.out.1.1.free 1
          have nx0 : (w1.alloc (.cells #[.slice A2 n2 c2, .int .i64 0] rfT)).cell? ⟨w1.heap.size, 0, none⟩ = some (.slice A2 n2 c2) := ST.out.1.2.cell 0
          have nx1 : (w1.alloc (.cells #[.slice A2 n2 c2, .int .i64 0] rfT)).cell? ⟨w1.heap.size, 1, none⟩ = some (.int .i64 0) := ST.out.1.2.cell 1
          have z0 : (((w1.alloc (.cells #[.slice A2 n2 c2, .int .i64 0] rfT)).setCell ⟨w.heap.size, 0, none⟩ (.slice A2 n2 c2)).setCell ⟨w.heap.size, 1, none⟩ (.int .i64 0)).cell? ⟨w.heap.size, 0, none⟩ = some (.slice A2 n2 c2) := ST.out.2.1.1.cell 0
          have z1 : (((w1.alloc (.cells #[.slice A2 n2 c2, .int .i64 0] rfT)).setCell ⟨w.heap.size, 0, none⟩ (.slice A2 n2 c2)).setCell ⟨w.heap.size, 1, none⟩ (.int .i64 0)).cell? ⟨w.heap.size, 1, none⟩ = some (.int .i64 0) := ST.out.2.1.1.cell 1
          have F := Lib.hid (reffail_any A2 n2 c2 0 121 (((w1.alloc (.cells #[.slice A2 n2 c2, .int .i64 0] rfT)).setCell ⟨w.heap.size, 0, none⟩ (.slice A2 n2 c2)).setCell ⟨w.heap.size, 1, none⟩ (.int .i64 0)))
          rw [show errP 0 121 = 121 from rfl] at F
          clear hb hrv c0 c1
          go_wp2_with fail
          clear m0 m1 fm0 fm1 nx0 nx1 z0 z1
          refine F.out.mono ?_
          rintro e w2 ⟨rfl, hb⟩
          have RR := Lib.hid (ST.out.2.1.2.1.below hb ST.out.2.1.2.1.lt)
          have BZ := Lib.hid (ST.out.2.1.2.2.trans (hb.mono ST.out.2.1.2.2.size))
          clear hb F
          have RT := Lib.hid (rc_ret RR.out BZ.out (Nat.le_succ _) BZ.out.size (.slice A2 n2 c2) (.int .i64 121))
          have r0 : w2.cell? ⟨w.heap.size + 1, 0, none⟩ = some (.slice none 0 0) := RR.out.cell 0
          have fr0 : w2.frozen? ⟨w.heap.size + 1, 0, none⟩ = false := RR.out.free 0
          have r1 : w2.cell? ⟨w.heap.size + 1, 1, none⟩ = some (.int .i64 0) := RR.out.cell 1
          have fr1 : w2.frozen? ⟨w.heap.size + 1, 1, none⟩ = false := RR.out.free 1
          have s0 : ((w2.setCell ⟨w.heap.size + 1, 0, none⟩ (.slice A2 n2 c2)).setCell ⟨w.heap.size + 1, 1, none⟩ (.int .i64 121)).cell? ⟨w.heap.size + 1, 0, none⟩ = some (.slice A2 n2 c2) := RT.out.1.cell 0
          have s1 : ((w2.setCell ⟨w.heap.size + 1, 0, none⟩ (.slice A2 n2 c2)).setCell ⟨w.heap.size + 1, 1, none⟩ (.int .i64 121)).cell? ⟨w.heap.size + 1, 1, none⟩ = some (.int .i64 121) := RT.out.1.cell 1
          go_wp2_with fail
          rw [P.out]
          refine bodyPost_ret (v := .tuple #[.agg #[.slice A2 n2 c2, .int .i64 121], .int .i64 (0)]) ?_ rfl ⟨A2, n2, c2, rfl, RfV.none (by decide), Nat.le_trans hn2 RS.out, RT.out.2.1⟩
          simp [results, Try.results63, go_sem, s0, s1]
        · have hq9 : ((k : Int) == 9) = false := by simp; omega
          have hk8 : k ≤ 8 := by omega
          by_cases hk0 : 0 < k
          · have hq0 : (0 : Int) < k := by omega
            by_cases hbz : b = 0
            · have hqz : (b == 0) = true := by simp [hbz]
              have P := Lib.hid (GB.out 121 (L.out.zero (.inr ⟨hk0, hbz⟩)))
              have HBZ := Lib.hid hbz
              clear hbz
              go_wp2_with fail
              refine T.out.mono ?_
              rintro e w1 ⟨A2, n2, c2, rfl, hrv, hn2, hb⟩
              have RV2 := Lib.hid hrv
              have ST := Lib.hid (rc_step MB.out MR.out BW.out hb (Nat.le_refl _) BW.out.size (.slice A2 n2 c2) (.int .i64 0))
              have m0 : (w1.alloc (.cells #[.slice A2 n2 c2, .int .i64 0] rfT)).cell? ⟨w.heap.size, 0, none⟩ = some (.slice A n c) := ST.out.1.1.cell 0
              have fm0 : (w1.alloc (.cells #[.slice A2 n2 c2, .int .i64 0] rfT)).frozen? ⟨w.heap.size, 0, none⟩ = false := ST.out.1.1.free 0
              have m1 : (w1.alloc (.cells #[.slice A2 n2 c2, .int .i64 0] rfT)).cell? ⟨w.heap.size, 1, none⟩ = some (.int .i64 0) := ST.out.1.1.cell 1
              have fm1 : (w1.alloc (.cells #[.slice A2 n2 c2, .int .i64 0] rfT)).frozen? ⟨w.heap.size, 1, none⟩ = false := ST.out.1.1.free 1
              have nx0 : (w1.alloc (.cells #[.slice A2 n2 c2, .int .i64 0] rfT)).cell? ⟨w1.heap.size, 0, none⟩ = some (.slice A2 n2 c2) := ST.out.1.2.cell 0
              have nx1 : (w1.alloc (.cells #[.slice A2 n2 c2, .int .i64 0] rfT)).cell? ⟨w1.heap.size, 1, none⟩ = some (.int .i64 0) := ST.out.1.2.cell 1
              have z0 : (((w1.alloc (.cells #[.slice A2 n2 c2, .int .i64 0] rfT)).setCell ⟨w.heap.size, 0, none⟩ (.slice A2 n2 c2)).setCell ⟨w.heap.size, 1, none⟩ (.int .i64 0)).cell? ⟨w.heap.size, 0, none⟩ = some (.slice A2 n2 c2) := ST.out.2.1.1.cell 0
              have z1 : (((w1.alloc (.cells #[.slice A2 n2 c2, .int .i64 0] rfT)).setCell ⟨w.heap.size, 0, none⟩ (.slice A2 n2 c2)).setCell ⟨w.heap.size, 1, none⟩ (.int .i64 0)).cell? ⟨w.heap.size, 1, none⟩ = some (.int .i64 0) := ST.out.2.1.1.cell 1
              have F := Lib.hid (reffail_any A2 n2 c2 0 121 (((w1.alloc (.cells #[.slice A2 n2 c2, .int .i64 0] rfT)).setCell ⟨w.heap.size, 0, none⟩ (.slice A2 n2 c2)).setCell ⟨w.heap.size, 1, none⟩ (.int .i64 0)))
              rw [show errP 0 121 = 121 from rfl] at F
              clear hb hrv c0 c1
              go_wp2_with fail
              clear m0 m1 fm0 fm1 nx0 nx1 z0 z1
              refine F.out.mono ?_
              rintro e w2 ⟨rfl, hb⟩
              have RR := Lib.hid (ST.out.2.1.2.1.below hb ST.out.2.1.2.1.lt)
              have BZ := Lib.hid (ST.out.2.1.2.2.trans (hb.mono ST.out.2.1.2.2.size))
              clear hb F
              have RT := Lib.hid (rc_ret RR.out BZ.out (Nat.le_succ _) BZ.out.size (.slice A2 n2 c2) (.int .i64 121))
              have r0 : w2.cell? ⟨w.heap.size + 1, 0, none⟩ = some (.slice none 0 0) := RR.out.cell 0
              have fr0 : w2.frozen? ⟨w.heap.size + 1, 0, none⟩ = false := RR.out.free 0
              have r1 : w2.cell? ⟨w.heap.size + 1, 1, none⟩ = some (.int .i64 0) := RR.out.cell 1
              have fr1 : w2.frozen? ⟨w.heap.size + 1, 1, none⟩ = false := RR.out.free 1
              have s0 : ((w2.setCell ⟨w.heap.size + 1, 0, none⟩ (.slice A2 n2 c2)).setCell ⟨w.heap.size + 1, 1, none⟩ (.int .i64 121)).cell? ⟨w.heap.size + 1, 0, none⟩ = some (.slice A2 n2 c2) := RT.out.1.cell 0
              have s1 : ((w2.setCell ⟨w.heap.size + 1, 0, none⟩ (.slice A2 n2 c2)).setCell ⟨w.heap.size + 1, 1, none⟩ (.int .i64 121)).cell? ⟨w.heap.size + 1, 1, none⟩ = some (.int .i64 121) := RT.out.1.cell 1
              go_wp2_with fail
              rw [P.out]
              refine bodyPost_ret (v := .tuple #[.agg #[.slice A2 n2 c2, .int .i64 121], .int .i64 (0)]) ?_ rfl ⟨A2, n2, c2, rfl, RfV.none (by decide), Nat.le_trans hn2 RS.out, RT.out.2.1⟩
              simp [results, Try.results63, go_sem, s0, s1]
            · have hqz : (b == 0) = false := by simp [hbz]
              have NB := Lib.hid (show ¬ (0 < k ∧ b = 0) from fun h => hbz h.2)
              clear hbz
              have LM := Lib.hid (fun h => L.out.more (show k < 9 by omega) h hb0.2)
              have LL := Lib.hid (fun h => L.out.last (show k < 9 by omega) hb0.1 h NB.out)
              have AM := Lib.hid (acc_more HA.out hb0.1)
              have PW := Lib.hid (show 128 ^ (k + 1) ≤ 128 ^ 9 from Nat.pow_le_pow_right (by decide) (by omega))
              have BY := Lib.hid (show k + 1 ≤ 8 → wrap64 (by' * 128) = (128 : Int) ^ (k + 1) from fun h => by rw [HY.out hk8]; exact by7 k h)
              have hm1 : wrap64 (b % 128 * by') = (((b % 128).toNat * 128 ^ k : Nat) : Int) := by rw [HY.out hk8]; exact mul7 _ k (by omega) (by omega) hk8
              generalize (b % 128).toNat * 128 ^ k = y at *
              have hy63 : acc + y < 9223372036854775808 := Nat.lt_of_lt_of_le AM.out (Nat.le_trans PW.out (by decide))
              have hbr : 0 ≤ b ∧ b ≤ 255 := hb0
              go_wp2_with fail
              refine T.out.mono ?_
              rintro e w1 ⟨A2, n2, c2, rfl, hrv, hn2, hb⟩
              have RV2 := Lib.hid hrv
              have RN2 := Lib.hid (Nat.le_trans hn2 RS.out)
              have ST := Lib.hid (rc_step MB.out MR.out BW.out hb (Nat.le_refl _) BW.out.size (.slice A2 n2 c2) (.int .i64 0))
              have m0 : (w1.alloc (.cells #[.slice A2 n2 c2, .int .i64 0] rfT)).cell? ⟨w.heap.size, 0, none⟩ = some (.slice A n c) := ST.out.1.1.cell 0
              have fm0 : (w1.alloc (.cells #[.slice A2 n2 c2, .int .i64 0] rfT)).frozen? ⟨w.heap.size, 0, none⟩ = false := ST.out.1.1.free 0
              have m1 : (w1.alloc (.cells #[.slice A2 n2 c2, .int .i64 0] rfT)).cell? ⟨w.heap.size, 1, none⟩ = some (.int .i64 0) := ST.out.1.1.cell 1
              have fm1 : (w1.alloc (.cells #[.slice A2 n2 c2, .int .i64 0] rfT)).frozen? ⟨w.heap.size, 1, none⟩ = false := ST.out.1.1.free 1
              have nx0 : (w1.alloc (.cells #[.slice A2 n2 c2, .int .i64 0] rfT)).cell? ⟨w1.heap.size, 0, none⟩ = some (.slice A2 n2 c2) := ST.out.1.2.cell 0
              have nx1 : (w1.alloc (.cells #[.slice A2 n2 c2, .int .i64 0] rfT)).cell? ⟨w1.heap.size, 1, none⟩ = some (.int .i64 0) := ST.out.1.2.cell 1
              have z0 : (((w1.alloc (.cells #[.slice A2 n2 c2, .int .i64 0] rfT)).setCell ⟨w.heap.size, 0, none⟩ (.slice A2 n2 c2)).setCell ⟨w.heap.size, 1, none⟩ (.int .i64 0)).cell? ⟨w.heap.size, 0, none⟩ = some (.slice A2 n2 c2) := ST.out.2.1.1.cell 0
              have z1 : (((w1.alloc (.cells #[.slice A2 n2 c2, .int .i64 0] rfT)).setCell ⟨w.heap.size, 0, none⟩ (.slice A2 n2 c2)).setCell ⟨w.heap.size, 1, none⟩ (.int .i64 0)).cell? ⟨w.heap.size, 1, none⟩ = some (.int .i64 0) := ST.out.2.1.1.cell 1
              clear hb hrv c0 c1 hn2
              by_cases hge : 128 ≤ b
              · go_wp2_with fail
                go_roundw
                case rel => exact ⟨k + 1, acc + y, _, A2, n2, c2, r, by omega, AM.out, by go_num, rfl, BY.out, by go_num, LM.out hge, RV2.out, RN2.out, RB1.out, ST.out.2.1.1, ST.out.2.1.2.1, ST.out.2.1.2.2⟩
                case measure => simp [intOf]; omega
              · have hlt : b < 128 := by omega
                have RR := Lib.hid ST.out.2.1.2.1
                have BZ := Lib.hid ST.out.2.1.2.2
                by_cases hbig : most < acc + y
                · have hI3 : (most : Int) < (acc : Int) + y := by omega
                  have P := Lib.hid (GG.out _ _ (LL.out hlt) hbig)
                  rw [show errP 0 121 = 121 from rfl] at P
                  have F := Lib.hid (reffail_any A2 n2 c2 0 121 (((w1.alloc (.cells #[.slice A2 n2 c2, .int .i64 0] rfT)).setCell ⟨w.heap.size, 0, none⟩ (.slice A2 n2 c2)).setCell ⟨w.heap.size, 1, none⟩ (.int .i64 0)))
                  rw [show errP 0 121 = 121 from rfl] at F
                  go_wp2_with fail
                  clear m0 m1 fm0 fm1 nx0 nx1 z0 z1
                  refine F.out.mono ?_
                  rintro e w2 ⟨rfl, hb⟩
                  replace RR := Lib.hid (ST.out.2.1.2.1.below hb ST.out.2.1.2.1.lt)
                  replace BZ := Lib.hid (ST.out.2.1.2.2.trans (hb.mono ST.out.2.1.2.2.size))
                  clear hb F
                  have SR := Lib.hid (RR.out.setRow #[.slice A2 n2 c2, .int .i64 121])
                  have BF := Lib.hid (BZ.out.grown SR.out.2 BZ.out.size (fun b hb => by injection hb with hb; omega))
                  have QF := Lib.hid SR.out.1
                  clear SR BZ
                  generalize hZZ : (w2).setRow (w.heap.size + 1) #[.slice A2 n2 c2, .int .i64 121] = ZZ at *
                  have HZZ := Lib.hid hZZ
                  clear hZZ
                  have HZ2 : (Try.prog.info? rfT).map (·.size) = some 2 := by kernel_rfl
                  simp only []
                  go_at_K
                  repeat (first | (go_big_may; refine wpList_store_row rfl rfT (.tmp 4) (.tmp 55) rfl (w.heap.size + 1) #[.slice A2 n2 c2, .int .i64 121] rfl rfl rfT #[.slice none 0 0, .int .i64 0] RR.out HZ2 rfl (show (#[.slice A2 n2 c2, .int .i64 121] : Array Value).all (·.oneCell') = true from by simp [Value.oneCell']) ?_; rw [HZZ.out]) | go_values | go_skip | go_guarded | go_step | go_upon)
                  have s0 : ZZ.cell? ⟨w.heap.size + 1, 0, none⟩ = some (.slice A2 n2 c2) := QF.out.cell 0
                  have s1 : ZZ.cell? ⟨w.heap.size + 1, 1, none⟩ = some (.int .i64 121) := QF.out.cell 1
                  rw [P.out]
                  refine bodyPost_ret (v := .tuple #[.agg #[.slice A2 n2 c2, .int .i64 121], .int .i64 (0)]) ?_ rfl ⟨A2, n2, c2, rfl, RfV.none (by decide), RN2.out, BF.out⟩
                  simp [results, Try.results63, go_sem, s0, s1]
                · have hI3 : ¬ (most : Int) < (acc : Int) + y := by omega
                  have P := Lib.hid (GO.out _ _ (LL.out hlt) hbig)
                  have SR := Lib.hid (RR.out.setRow #[.slice A2 n2 c2, .int .i64 0])
                  have BF := Lib.hid (BZ.out.grown SR.out.2 BZ.out.size (fun b hb => by injection hb with hb; omega))
                  have QF := Lib.hid SR.out.1
                  clear SR BZ
                  generalize hZZ : ((((w1.alloc (.cells #[.slice A2 n2 c2, .int .i64 0] rfT)).setCell ⟨w.heap.size, 0, none⟩ (.slice A2 n2 c2)).setCell ⟨w.heap.size, 1, none⟩ (.int .i64 0))).setRow (w.heap.size + 1) #[.slice A2 n2 c2, .int .i64 0] = ZZ at *
                  have HZZ := Lib.hid hZZ
                  clear hZZ
                  have HZ2 : (Try.prog.info? rfT).map (·.size) = some 2 := by kernel_rfl
                  simp only []
                  go_at_K
                  repeat (first | (go_big_may; refine wpList_store_row rfl rfT (.tmp 4) (.tmp 56) rfl (w.heap.size + 1) #[.slice A2 n2 c2, .int .i64 0] rfl rfl rfT #[.slice none 0 0, .int .i64 0] RR.out HZ2 rfl (show (#[.slice A2 n2 c2, .int .i64 0] : Array Value).all (·.oneCell') = true from by simp [Value.oneCell']) ?_; rw [HZZ.out]) | go_values | go_skip | go_guarded | go_step | go_upon)
                  have s0 : ZZ.cell? ⟨w.heap.size + 1, 0, none⟩ = some (.slice A2 n2 c2) := QF.out.cell 0
                  have s1 : ZZ.cell? ⟨w.heap.size + 1, 1, none⟩ = some (.int .i64 0) := QF.out.cell 1
                  rw [P.out]
                  refine bodyPost_ret (v := .tuple #[.agg #[.slice A2 n2 c2, .int .i64 0], .int .i64 ((acc : Int) + y)]) ?_ rfl ⟨A2, n2, c2, rfl, RV2.out, RN2.out, BF.out⟩
                  simp [results, Try.results63, go_sem, s0, s1]
          · have hq0 : ¬ (0 : Int) < k := by omega
            have NB := Lib.hid (show ¬ (0 < k ∧ b = 0) from fun h => hk0 h.1)
            clear hk0
            have LM := Lib.hid (fun h => L.out.more (show k < 9 by omega) h hb0.2)
            have LL := Lib.hid (fun h => L.out.last (show k < 9 by omega) hb0.1 h NB.out)
            have AM := Lib.hid (acc_more HA.out hb0.1)
            have PW := Lib.hid (show 128 ^ (k + 1) ≤ 128 ^ 9 from Nat.pow_le_pow_right (by decide) (by omega))
            have BY := Lib.hid (show k + 1 ≤ 8 → wrap64 (by' * 128) = (128 : Int) ^ (k + 1) from fun h => by rw [HY.out hk8]; exact by7 k h)
            have hm1 : wrap64 (b % 128 * by') = (((b % 128).toNat * 128 ^ k : Nat) : Int) := by rw [HY.out hk8]; exact mul7 _ k (by omega) (by omega) hk8
            generalize (b % 128).toNat * 128 ^ k = y at *
            have hy63 : acc + y < 9223372036854775808 := Nat.lt_of_lt_of_le AM.out (Nat.le_trans PW.out (by decide))
            have hbr : 0 ≤ b ∧ b ≤ 255 := hb0
            go_wp2_with fail
            refine T.out.mono ?_
            rintro e w1 ⟨A2, n2, c2, rfl, hrv, hn2, hb⟩
            have RV2 := Lib.hid hrv
            have RN2 := Lib.hid (Nat.le_trans hn2 RS.out)
            have ST := Lib.hid (rc_step MB.out MR.out BW.out hb (Nat.le_refl _) BW.out.size (.slice A2 n2 c2) (.int .i64 0))
            have m0 : (w1.alloc (.cells #[.slice A2 n2 c2, .int .i64 0] rfT)).cell? ⟨w.heap.size, 0, none⟩ = some (.slice A n c) := ST.out.1.1.cell 0
            have fm0 : (w1.alloc (.cells #[.slice A2 n2 c2, .int .i64 0] rfT)).frozen? ⟨w.heap.size, 0, none⟩ = false := ST.out.1.1.free 0
            have m1 : (w1.alloc (.cells #[.slice A2 n2 c2, .int .i64 0] rfT)).cell? ⟨w.heap.size, 1, none⟩ = some (.int .i64 0) := ST.out.1.1.cell 1
            have fm1 : (w1.alloc (.cells #[.slice A2 n2 c2, .int .i64 0] rfT)).frozen? ⟨w.heap.size, 1, none⟩ = false := ST.out.1.1.free 1
            have nx0 : (w1.alloc (.cells #[.slice A2 n2 c2, .int .i64 0] rfT)).cell? ⟨w1.heap.size, 0, none⟩ = some (.slice A2 n2 c2) := ST.out.1.2.cell 0
            have nx1 : (w1.alloc (.cells #[.slice A2 n2 c2, .int .i64 0] rfT)).cell? ⟨w1.heap.size, 1, none⟩ = some (.int .i64 0) := ST.out.1.2.cell 1
            have z0 : (((w1.alloc (.cells #[.slice A2 n2 c2, .int .i64 0] rfT)).setCell ⟨w.heap.size, 0, none⟩ (.slice A2 n2 c2)).setCell ⟨w.heap.size, 1, none⟩ (.int .i64 0)).cell? ⟨w.heap.size, 0, none⟩ = some (.slice A2 n2 c2) := ST.out.2.1.1.cell 0
            have z1 : (((w1.alloc (.cells #[.slice A2 n2 c2, .int .i64 0] rfT)).setCell ⟨w.heap.size, 0, none⟩ (.slice A2 n2 c2)).setCell ⟨w.heap.size, 1, none⟩ (.int .i64 0)).cell? ⟨w.heap.size, 1, none⟩ = some (.int .i64 0) := ST.out.2.1.1.cell 1
            clear hb hrv c0 c1 hn2
            by_cases hge : 128 ≤ b
            · go_wp2_with fail
              go_roundw
              case rel => exact ⟨k + 1, acc + y, _, A2, n2, c2, r, by omega, AM.out, by go_num, rfl, BY.out, by go_num, LM.out hge, RV2.out, RN2.out, RB1.out, ST.out.2.1.1, ST.out.2.1.2.1, ST.out.2.1.2.2⟩
              case measure => simp [intOf]; omega
            · have hlt : b < 128 := by omega
              have RR := Lib.hid ST.out.2.1.2.1
              have BZ := Lib.hid ST.out.2.1.2.2
              by_cases hbig : most < acc + y
              · have hI3 : (most : Int) < (acc : Int) + y := by omega
                have P := Lib.hid (GG.out _ _ (LL.out hlt) hbig)
                rw [show errP 0 121 = 121 from rfl] at P
                have F := Lib.hid (reffail_any A2 n2 c2 0 121 (((w1.alloc (.cells #[.slice A2 n2 c2, .int .i64 0] rfT)).setCell ⟨w.heap.size, 0, none⟩ (.slice A2 n2 c2)).setCell ⟨w.heap.size, 1, none⟩ (.int .i64 0)))
                rw [show errP 0 121 = 121 from rfl] at F
                go_wp2_with fail
                clear m0 m1 fm0 fm1 nx0 nx1 z0 z1
                refine F.out.mono ?_
                rintro e w2 ⟨rfl, hb⟩
                replace RR := Lib.hid (ST.out.2.1.2.1.below hb ST.out.2.1.2.1.lt)
                replace BZ := Lib.hid (ST.out.2.1.2.2.trans (hb.mono ST.out.2.1.2.2.size))
                clear hb F
                have SR := Lib.hid (RR.out.setRow #[.slice A2 n2 c2, .int .i64 121])
                have BF := Lib.hid (BZ.out.grown SR.out.2 BZ.out.size (fun b hb => by injection hb with hb; omega))
                have QF := Lib.hid SR.out.1
                clear SR BZ
                generalize hZZ : (w2).setRow (w.heap.size + 1) #[.slice A2 n2 c2, .int .i64 121] = ZZ at *
                have HZZ := Lib.hid hZZ
                clear hZZ
                have HZ2 : (Try.prog.info? rfT).map (·.size) = some 2 := by kernel_rfl
                simp only []
                go_at_K
                repeat (first | (go_big_may; refine wpList_store_row rfl rfT (.tmp 4) (.tmp 55) rfl (w.heap.size + 1) #[.slice A2 n2 c2, .int .i64 121] rfl rfl rfT #[.slice none 0 0, .int .i64 0] RR.out HZ2 rfl (show (#[.slice A2 n2 c2, .int .i64 121] : Array Value).all (·.oneCell') = true from by simp [Value.oneCell']) ?_; rw [HZZ.out]) | go_values | go_skip | go_guarded | go_step | go_upon)
                have s0 : ZZ.cell? ⟨w.heap.size + 1, 0, none⟩ = some (.slice A2 n2 c2) := QF.out.cell 0
                have s1 : ZZ.cell? ⟨w.heap.size + 1, 1, none⟩ = some (.int .i64 121) := QF.out.cell 1
                rw [P.out]
                refine bodyPost_ret (v := .tuple #[.agg #[.slice A2 n2 c2, .int .i64 121], .int .i64 (0)]) ?_ rfl ⟨A2, n2, c2, rfl, RfV.none (by decide), RN2.out, BF.out⟩
                simp [results, Try.results63, go_sem, s0, s1]
              · have hI3 : ¬ (most : Int) < (acc : Int) + y := by omega
                have P := Lib.hid (GO.out _ _ (LL.out hlt) hbig)
                have SR := Lib.hid (RR.out.setRow #[.slice A2 n2 c2, .int .i64 0])
                have BF := Lib.hid (BZ.out.grown SR.out.2 BZ.out.size (fun b hb => by injection hb with hb; omega))
                have QF := Lib.hid SR.out.1
                clear SR BZ
                generalize hZZ : ((((w1.alloc (.cells #[.slice A2 n2 c2, .int .i64 0] rfT)).setCell ⟨w.heap.size, 0, none⟩ (.slice A2 n2 c2)).setCell ⟨w.heap.size, 1, none⟩ (.int .i64 0))).setRow (w.heap.size + 1) #[.slice A2 n2 c2, .int .i64 0] = ZZ at *
                have HZZ := Lib.hid hZZ
                clear hZZ
                have HZ2 : (Try.prog.info? rfT).map (·.size) = some 2 := by kernel_rfl
                simp only []
                go_at_K
                repeat (first | (go_big_may; refine wpList_store_row rfl rfT (.tmp 4) (.tmp 56) rfl (w.heap.size + 1) #[.slice A2 n2 c2, .int .i64 0] rfl rfl rfT #[.slice none 0 0, .int .i64 0] RR.out HZ2 rfl (show (#[.slice A2 n2 c2, .int .i64 0] : Array Value).all (·.oneCell') = true from by simp [Value.oneCell']) ?_; rw [HZZ.out]) | go_values | go_skip | go_guarded | go_step | go_upon)
                have s0 : ZZ.cell? ⟨w.heap.size + 1, 0, none⟩ = some (.slice A2 n2 c2) := QF.out.cell 0
                have s1 : ZZ.cell? ⟨w.heap.size + 1, 1, none⟩ = some (.int .i64 0) := QF.out.cell 1
                rw [P.out]
                refine bodyPost_ret (v := .tuple #[.agg #[.slice A2 n2 c2, .int .i64 0], .int .i64 ((acc : Int) + y)]) ?_ rfl ⟨A2, n2, c2, rfl, RV2.out, RN2.out, BF.out⟩
                simp [results, Try.results63, go_sem, s0, s1]
  · have hz := ZE.out h0
    have ER := Lib.hid (show errP err 120 = err from if_neg h0)
    have P := Lib.hid (GB.out 120 (by rw [hz]; exact takeG_nil 0))
    rw [ER.out] at P
    have hne : (err != 0) = true := by simp [h0]
    have HH := Lib.hid h0
    clear ZE hz H HB GG GO GB h0
    go_enter Try.func63, Try.ntmps63
    go_wp2_with fail
    go_loopw [6, 7, 8] (fun i6 i7 i8 wr => i6 = .int .i64 0 ∧ i7 = .int .i64 1 ∧ i8 = .int .i64 0 ∧ Whole wr w.heap.size rfT #[.slice A n c, .int .i64 err] ∧ Whole wr (w.heap.size + 1) rfT #[.slice none 0 0, .int .i64 0] ∧ Below w.heap.size w wr) (fun _ _ _ _ => 0)
    case atStart => exact ⟨rfl, rfl, rfl, X1.out, X2.out, B2.out⟩
    case round =>
      obtain ⟨rfl, rfl, rfl, hM, hR, hB⟩ := hrel
      have MB := Lib.hid hM
      have MR := Lib.hid hR
      have BW := Lib.hid hB
      have c0 : wr.cell? ⟨w.heap.size, 0, none⟩ = some (.slice A n c) := hM.cell 0
      have c1 : wr.cell? ⟨w.heap.size, 1, none⟩ = some (.int .i64 err) := hM.cell 1
      have T := Lib.hid (refbyte_no A n c err wr (.inl HH.out))
      rw [ER.out] at T
      clear hM hR hB X1 X2 B2
      go_wp2_with fail
      refine T.out.mono ?_
      rintro e w1 ⟨rfl, hb⟩
      have ST := Lib.hid (rc_step MB.out MR.out BW.out hb (Nat.le_refl _) BW.out.size (.slice A n c) (.int .i64 err))
      have m0 : (w1.alloc (.cells #[.slice A n c, .int .i64 err] rfT)).cell? ⟨w.heap.size, 0, none⟩ = some (.slice A n c) := ST.out.1.1.cell 0
      have fm0 : (w1.alloc (.cells #[.slice A n c, .int .i64 err] rfT)).frozen? ⟨w.heap.size, 0, none⟩ = false := ST.out.1.1.free 0
      have m1 : (w1.alloc (.cells #[.slice A n c, .int .i64 err] rfT)).cell? ⟨w.heap.size, 1, none⟩ = some (.int .i64 err) := ST.out.1.1.cell 1
      have fm1 : (w1.alloc (.cells #[.slice A n c, .int .i64 err] rfT)).frozen? ⟨w.heap.size, 1, none⟩ = false := ST.out.1.1.free 1
      have nx0 : (w1.alloc (.cells #[.slice A n c, .int .i64 err] rfT)).cell? ⟨w1.heap.size, 0, none⟩ = some (.slice A n c) := ST.out.1.2.cell 0
      have nx1 : (w1.alloc (.cells #[.slice A n c, .int .i64 err] rfT)).cell? ⟨w1.heap.size, 1, none⟩ = some (.int .i64 err) := ST.out.1.2.cell 1
      have z0 : (((w1.alloc (.cells #[.slice A n c, .int .i64 err] rfT)).setCell ⟨w.heap.size, 0, none⟩ (.slice A n c)).setCell ⟨w.heap.size, 1, none⟩ (.int .i64 err)).cell? ⟨w.heap.size, 0, none⟩ = some (.slice A n c) := ST.out.2.1.1.cell 0
      have z1 : (((w1.alloc (.cells #[.slice A n c, .int .i64 err] rfT)).setCell ⟨w.heap.size, 0, none⟩ (.slice A n c)).setCell ⟨w.heap.size, 1, none⟩ (.int .i64 err)).cell? ⟨w.heap.size, 1, none⟩ = some (.int .i64 err) := ST.out.2.1.1.cell 1
      have RR := Lib.hid ST.out.2.1.2.1
      have BZ := Lib.hid ST.out.2.1.2.2
      have RT := Lib.hid (rc_ret RR.out BZ.out (Nat.le_succ _) BZ.out.size (.slice A n c) (.int .i64 err))
      have r0 : (((w1.alloc (.cells #[.slice A n c, .int .i64 err] rfT)).setCell ⟨w.heap.size, 0, none⟩ (.slice A n c)).setCell ⟨w.heap.size, 1, none⟩ (.int .i64 err)).cell? ⟨w.heap.size + 1, 0, none⟩ = some (.slice none 0 0) := RR.out.cell 0
      have fr0 : (((w1.alloc (.cells #[.slice A n c, .int .i64 err] rfT)).setCell ⟨w.heap.size, 0, none⟩ (.slice A n c)).setCell ⟨w.heap.size, 1, none⟩ (.int .i64 err)).frozen? ⟨w.heap.size + 1, 0, none⟩ = false := RR.out.free 0
      have r1 : (((w1.alloc (.cells #[.slice A n c, .int .i64 err] rfT)).setCell ⟨w.heap.size, 0, none⟩ (.slice A n c)).setCell ⟨w.heap.size, 1, none⟩ (.int .i64 err)).cell? ⟨w.heap.size + 1, 1, none⟩ = some (.int .i64 0) := RR.out.cell 1
      have fr1 : (((w1.alloc (.cells #[.slice A n c, .int .i64 err] rfT)).setCell ⟨w.heap.size, 0, none⟩ (.slice A n c)).setCell ⟨w.heap.size, 1, none⟩ (.int .i64 err)).frozen? ⟨w.heap.size + 1, 1, none⟩ = false := RR.out.free 1
      have s0 : (((((w1.alloc (.cells #[.slice A n c, .int .i64 err] rfT)).setCell ⟨w.heap.size, 0, none⟩ (.slice A n c)).setCell ⟨w.heap.size, 1, none⟩ (.int .i64 err)).setCell ⟨w.heap.size + 1, 0, none⟩ (.slice A n c)).setCell ⟨w.heap.size + 1, 1, none⟩ (.int .i64 err)).cell? ⟨w.heap.size + 1, 0, none⟩ = some (.slice A n c) := RT.out.1.cell 0
      have s1 : (((((w1.alloc (.cells #[.slice A n c, .int .i64 err] rfT)).setCell ⟨w.heap.size, 0, none⟩ (.slice A n c)).setCell ⟨w.heap.size, 1, none⟩ (.int .i64 err)).setCell ⟨w.heap.size + 1, 0, none⟩ (.slice A n c)).setCell ⟨w.heap.size + 1, 1, none⟩ (.int .i64 err)).cell? ⟨w.heap.size + 1, 1, none⟩ = some (.int .i64 err) := RT.out.1.cell 1
      clear hb c0 c1
      go_wp2_with fail
      rw [P.out]
      refine bodyPost_ret (v := .tuple #[.agg #[.slice A n c, .int .i64 err], .int .i64 (0)]) ?_ rfl ⟨A, n, c, rfl, RfV.none HH.out, HN.out, RT.out.2.1⟩
      simp [results, Try.results63, go_sem, s0, s1]
end Go.Proofs.Ythmjniedfiabhaa
