/- Symfile: the answers' Check. -/
import Derived.Test.YthmjniedfiabhaaSymD
import Derived.Test.YthmjniedfiabhaaSymH
import Derived.Test.YthmjniedfiabhaaFngD
import Derived.Deep.QuietTactic
namespace Go.Proofs.Ythmjniedfiabhaa
open Go.ChangeShapes Go.WideShapes Go.ChangeAt Go.RowKit
set_option linter.unusedVariables false
set_option linter.unusedSimpArgs false

abbrev rlT : TypeId := 38

/-- The names ahead of a place. -/
def SeenX (seen : List ByteArray) (nms : Nat → ByteArray) (t : Nat) : Prop := ∀ s, s ∈ seen ↔ ∃ j, j < t ∧ nms j = s

theorem SeenX.zero (nms : Nat → ByteArray) : SeenX [] nms 0 := fun s => ⟨(fun h => by cases h), fun ⟨j, hj, _⟩ => absurd hj (Nat.not_lt_zero _)⟩

theorem SeenX.more {seen : List ByteArray} {nms : Nat → ByteArray} {t : Nat} {x : ByteArray} (h : SeenX seen nms t) (hx : nms t = x) : SeenX (x :: seen) nms (t + 1) := fun s => by
  rw [List.mem_cons, h s]
  constructor
  · rintro (rfl | ⟨j, hj, e⟩)
    · exact ⟨t, Nat.lt_succ_self _, hx⟩
    · exact ⟨j, by omega, e⟩
  · rintro ⟨j, hj, e⟩
    by_cases e1 : j = t
    · subst e1
      exact .inl (e.symm.trans hx)
    · exact .inr ⟨j, by omega, e⟩

/-- A cell of an export that lies somewhere: its name. -/
theorem ExpR.name {B : Nat} {w : World} {es : List Exx} {A : Option Addr} {c : Nat} (h : ExpR B w (.slice A es.length c) es) {t : Nat} (ht : t < es.length) :
    ∃ b off, A = some ⟨b, off, none⟩ ∧ w.cell? ⟨b, off + t * 5, none⟩ = some (.string (es.getD t zEx).1.nm) := by
  obtain ⟨b, off, e, hbl, nm, kd, ty, vl, ps, Ap, cp, hX, hpar, hc⟩ := h.at ht
  exact ⟨b, off, e, by rw [hX]; exact hc 0 _ rfl⟩

set_option maxHeartbeats 16000000 in
set_option maxRecDepth 100000 in
theorem refcheck_any (md : ByteArray) (key : Int) (Ai : Option Addr) (im : List Im) (ci : Nat) (Ae : Option Addr) (es : List Exx) (ce B B' : Nat) (w : World) (hi : ImV B w (.slice Ai im.length ci) im) (he : ExpR B' w (.slice Ae es.length ce) es) (sm : FlSm md es) (hin : im.length ≤ 140737488355328) (hio : ∀ x ∈ im, x.nm.size ≤ 140737488355328) :
    Calls Try.prog 14 #[.agg #[.string md, .int .u32 key, .slice Ai im.length ci, .slice Ae es.length ce]] w fun e w' => e = .returned (.int .i64 (checkP ⟨md, key, im, es.map (·.1)⟩)) ∧ Below w.heap.size w w' := by
  have BA := Lib.hid ((Below.refl w.heap.size w).alloc (Nat.le_refl _) (.cells #[.string md, .int .u32 key, .slice Ai im.length ci, .slice Ae es.length ce] rlT))
  have X := Lib.hid (Whole.made w rlT #[.string md, .int .u32 key, .slice Ai im.length ci, .slice Ae es.length ce] _ rfl)
  have q0 : (w.alloc (.cells #[.string md, .int .u32 key, .slice Ai im.length ci, .slice Ae es.length ce] rlT)).cell? ⟨w.heap.size, 0, none⟩ = some (.string md) := X.out.cell 0
  have q1 : (w.alloc (.cells #[.string md, .int .u32 key, .slice Ai im.length ci, .slice Ae es.length ce] rlT)).cell? ⟨w.heap.size, 1, none⟩ = some (.int .u32 key) := X.out.cell 1
  have q2 : (w.alloc (.cells #[.string md, .int .u32 key, .slice Ai im.length ci, .slice Ae es.length ce] rlT)).cell? ⟨w.heap.size, 2, none⟩ = some (.slice Ai im.length ci) := X.out.cell 2
  have q3 : (w.alloc (.cells #[.string md, .int .u32 key, .slice Ai im.length ci, .slice Ae es.length ce] rlT)).cell? ⟨w.heap.size, 3, none⟩ = some (.slice Ae es.length ce) := X.out.cell 3
  have hmd := sm.md
  have hen := sm.n
  have EX := Lib.hid (fun x hx => sm.ex x hx)
  have NA := Lib.hid (fun W => refname_any md W (by omega))
  have IA := Lib.hid (refimports_any md Ai ci im B (w.alloc (.cells #[.string md, .int .u32 key, .slice Ai im.length ci, .slice Ae es.length ce] rlT)) (hi.below BA.out) hin hio)
  have HE := Lib.hid (he.below BA.out)
  have KA := Lib.hid (fun W (hb : Below w.heap.size w W) => refkey_any md Ae ce es W (by omega) (he.below hb).toV sm.ex hen)
  have R0 := Lib.hid (@checkP_md ⟨md, key, im, es.map (·.1)⟩)
  have R1 := Lib.hid (@checkP_im ⟨md, key, im, es.map (·.1)⟩)
  have R2 := Lib.hid (fun a b => @checkP_ex ⟨md, key, im, es.map (·.1)⟩ a b (by show (es.map (·.1)).length ≤ 60; rw [List.length_map]; exact hen))
  have R3 := Lib.hid (fun a b => @checkP_key ⟨md, key, im, es.map (·.1)⟩ a b (by show (es.map (·.1)).length ≤ 60; rw [List.length_map]; exact hen))
  have KE := Lib.hid (show keyP md (es.map (·.1)) = fnvB 2166136261 (keyB md (es.map (·.1))) from rfl)
  simp only at R0 R1 R2 R3
  generalize hcp : checkP ⟨md, key, im, es.map (·.1)⟩ = r at *
  generalize hee : expsE [] (es.map (·.1)) = ee at *
  have EE := Lib.hid hee
  generalize hie : importsE md im = ie at *
  generalize fnvB 2166136261 (keyB md (es.map (·.1))) = kk at *
  rw [KE.out] at R3
  clear hi he sm hio hcp hee hie KE
  generalize hnms : (fun j => (es.getD j zEx).1.nm) = nms
  have NM := Lib.hid (show ∀ j, nms j = (es.getD j zEx).1.nm from fun j => by rw [← hnms])
  clear hnms
  by_cases hN : nameOk md
  · rw [decide_eq_true hN] at NA
    have HN := Lib.hid hN
    clear hN
    go_enter Try.func14, Try.ntmps14
    go_wp2_with fail
    refine (NA.out _).mono ?_
    rintro e w1 ⟨rfl, rfl⟩
    go_wp2_with fail
    clear q0 q1 q2 q3
    refine IA.out.mono ?_
    rintro e w2 ⟨rfl, hb2⟩
    have B2 := Lib.hid (BA.out.trans (hb2.mono BA.out.size))
    have X2 := Lib.hid (X.out.below hb2 X.out.lt)
    have E2 := Lib.hid (HE.out.below hb2)
    have Q2 := Lib.hid (show w.heap.size < w2.heap.size from X2.out.lt)
    clear hb2 IA X HE BA
    by_cases hi0 : ie = 0
    · have HI := Lib.hid hi0
      subst hi0
      have R2i := Lib.hid (R2.out HN.out rfl)
      have R3i := Lib.hid (R3.out HN.out rfl)
      have hI60 : ¬ (4096 : Int) < es.length := by omega
      have r0 : w2.cell? ⟨w.heap.size, 0, none⟩ = some (.string md) := X2.out.cell 0
      have r1 : w2.cell? ⟨w.heap.size, 1, none⟩ = some (.int .u32 key) := X2.out.cell 1
      have r2 : w2.cell? ⟨w.heap.size, 2, none⟩ = some (.slice Ai im.length ci) := X2.out.cell 2
      have r3 : w2.cell? ⟨w.heap.size, 3, none⟩ = some (.slice Ae es.length ce) := X2.out.cell 3
      go_wp2_with fail
      clear r0 r1 r2 r3
      generalize w2 = V at *
      go_loopw [4] (fun i wr => ∃ (t : Nat) (seen : List ByteArray), t ≤ es.length ∧ i = .int .i64 t ∧ ee = expsE seen ((es.map (·.1)).drop t) ∧ SeenX seen nms t ∧ Below V.heap.size V wr) (fun i _ => es.length - (intOf i).toNat)
      case atStart => exact ⟨0, [], Nat.zero_le _, rfl, EE.out.symm, SeenX.zero _, Below.refl _ _⟩
      case round =>
        obtain ⟨t, seen, ht, rfl, hpe, hC, hb⟩ := hrel
        have HB := Lib.hid hb
        have HC := Lib.hid hC
        have XR := Lib.hid (X2.out.below hb X2.out.lt)
        have r3 : wr.cell? ⟨w.heap.size, 3, none⟩ = some (.slice Ae es.length ce) := XR.out.cell 3
        have KR := Lib.hid (E2.out.below hb)
        by_cases hlt : t < es.length
        · have hI : (t : Int) < es.length := by omega
          have NT := Lib.hid (NM.out t)
          obtain ⟨b, off, rfl, hbl, nm, kd, ty, vl, ps, Ap, cp, hX, hpar, hc⟩ := KR.out.at hlt
          have hx := EX.out _ (getD_mem zEx hlt)
          rw [drop_map (·.1) es zEx hlt, hX] at hpe
          rw [hX] at hx NT
          obtain ⟨hx1, hx2, _⟩ := hx
          have hx1 : nm.size ≤ 200 := hx1
          have hx2 : ps.length ≤ 60 := hx2
          have NT' := Lib.hid (show nms t = nm from NT.out)
          have P0 := Lib.hid (fun h => hpe.trans (expsE_bad (x := ⟨nm, kd, ty, vl, ps⟩) h))
          have P1 := Lib.hid (fun h h2 => hpe.trans (expsE_old (x := ⟨nm, kd, ty, vl, ps⟩) h h2))
          have P2 := Lib.hid (fun h h2 => hpe.trans (expsE_new (x := ⟨nm, kd, ty, vl, ps⟩) h h2))
          have x0 : wr.cell? ⟨b, off + t * 5, none⟩ = some (.string nm) := hc 0 _ rfl
          have x1 : wr.cell? ⟨b, off + t * 5 + 1, none⟩ = some (.int .i64 kd) := hc 1 _ rfl
          have x2 : wr.cell? ⟨b, off + t * 5 + 2, none⟩ = some (.int .i64 ty) := hc 2 _ rfl
          have x3 : wr.cell? ⟨b, off + t * 5 + 3, none⟩ = some (.int .i32 vl) := hc 3 _ rfl
          have x4 : wr.cell? ⟨b, off + t * 5 + 4, none⟩ = some (.slice Ap ps.length cp) := hc 4 _ rfl
          have MA := Lib.hid (refmay_any nm kd ty vl ps Ap cp _ _ hpar (by omega) (by omega))
          generalize hm : mayP ⟨nm, kd, ty, vl, ps⟩ = m at *
          clear hpe hC hb hc hX hpar hm NT
          go_wp2_with fail
          clear x0 x1 x2 x3 x4 r3
          refine MA.out.mono ?_
          rintro e w3 ⟨rfl, hb3⟩
          have B4 := Lib.hid (HB.out.trans (hb3.mono HB.out.size))
          clear hb3 MA
          by_cases hm0 : m = 0
          · have HM0 := Lib.hid hm0
            subst hm0
            have P1i := Lib.hid (P1.out rfl)
            have P2i := Lib.hid (P2.out rfl)
            clear P0
            go_wp2_with fail
            generalize w3 = WR at *
            go_loopw [6] (fun i wr => ∃ k : Nat, k ≤ t ∧ i = .int .i64 k ∧ (∀ j, j < k → nms j ≠ nm) ∧ Below WR.heap.size WR wr) (fun i _ => t - (intOf i).toNat)
            case atStart => exact ⟨0, Nat.zero_le _, rfl, fun j h => absurd h (Nat.not_lt_zero _), Below.refl _ _⟩
            case round =>
              obtain ⟨k, hk, rfl, hne, hb5⟩ := hrel
              have B5 := Lib.hid hb5
              have NE := Lib.hid hne
              have B0 := Lib.hid (fun nq => below_drawn hb5 nq)
              have B6 := Lib.hid (B4.out.trans (hb5.mono B4.out.size))
              by_cases hkt : k < t
              · have hI2 : (k : Int) < t := by omega
                have hI4 : (k : Int) < es.length := by omega
                have K2 := E2.out.below B6.out
                have r3 : wr.cell? ⟨w.heap.size, 3, none⟩ = some (.slice (some ⟨b, off, none⟩) es.length ce) := (X2.out.below B6.out X2.out.lt).cell 3
                obtain ⟨_, _, e1, p0⟩ := K2.name hlt
                injection e1 with e1
                injection e1 with e1 e2
                subst e1 e2
                obtain ⟨_, _, e1, p1⟩ := K2.name (Nat.lt_trans hkt hlt)
                injection e1 with e1
                injection e1 with e1 e2
                subst e1 e2
                have NK := Lib.hid (NM.out k)
                have NT2 := Lib.hid (NM.out t)
                rw [← NT2.out, NT'.out] at p0
                rw [← NK.out] at p1
                generalize hnk : nms k = nk at *
                have NK2 := Lib.hid hnk
                clear hne hb5 NK NT2 K2 hnk
                by_cases heq : nk = nm
                · have d1 : (nk.toList == nm.toList) = true := by rw [heq]; exact txt_yes nm
                  have R := Lib.hid (P1i.out ((HC.out nm).2 ⟨k, hkt, NK2.out.trans heq⟩))
                  have RR := Lib.hid (show r = 51 from (R2i.out (by rw [R.out]; decide)).trans R.out)
                  have BF := Lib.hid (fun nq => B2.out.trans ((B4.out.trans ((B0.out nq).mono B4.out.size)).mono B2.out.size))
                  clear heq
                  go_wp2_with fail
                  go_quiet (fail)
                  rename_i nq
                  go_wp2_with fail
                  go_ret
                  rw [RR.out]
                  exact ⟨rfl, BF.out nq⟩
                · have d1 := txt_no heq
                  have NE2 := Lib.hid (show ∀ j, j < k + 1 → nms j ≠ nm from fun j hj => by
                    by_cases e1 : j = k
                    · subst e1
                      rw [NK2.out]
                      exact heq
                    · exact NE.out j (by omega))
                  clear heq
                  go_wp2_with fail
                  go_quiet (fail)
                  rename_i nq
                  go_wp2_with fail
                  go_roundw
                  case rel => exact ⟨k + 1, by omega, by go_num, NE2.out, B0.out nq⟩
                  case measure => simp [intOf]; omega
              · have hI2 : ¬ (k : Int) < t := by omega
                obtain rfl : k = t := by omega
                have R := Lib.hid (P2i.out (fun h => by
                  obtain ⟨j, hj, e⟩ := (HC.out nm).1 h
                  exact NE.out j hj e))
                clear hne hb5
                go_wp2_with fail
                go_roundw
                case rel => exact ⟨k + 1, nm :: seen, by omega, by go_num, R.out, HC.out.more NT'.out, B6.out⟩
                case measure => simp [intOf]; omega
          · have R := Lib.hid (P0.out hm0)
            have RR := Lib.hid (show r = m from (R2i.out (by rw [R.out]; exact hm0)).trans R.out)
            have d0 : (m != 0) = true := by simp [hm0]
            have BF := Lib.hid (B2.out.trans (B4.out.mono B2.out.size))
            clear hm0 P0 P1 P2
            go_wp2_with fail
            go_ret
            rw [RR.out]
            exact ⟨rfl, BF.out⟩
        · have hI : ¬ (t : Int) < es.length := by omega
          obtain rfl : t = es.length := by omega
          have R := Lib.hid (show ee = 0 by rw [hpe, List.drop_eq_nil_of_le (by rw [List.length_map]; exact Nat.le_refl _)]; rfl)
          have R3' := Lib.hid (R3i.out R.out)
          have B3 := Lib.hid (B2.out.trans (HB.out.mono B2.out.size))
          clear hpe hC hb R2 R2i
          go_wp2_with fail
          clear r3
          generalize wr = V2 at *
          have C := Lib.hid (fun y (hy : Below V2.heap.size V2 y) => show (fun y => Below V2.heap.size V2 y ∧ y.cell? ⟨w.heap.size, 0, none⟩ = some (.string md) ∧ y.cell? ⟨w.heap.size, 1, none⟩ = some (.int .u32 key) ∧ y.cell? ⟨w.heap.size, 3, none⟩ = some (.slice Ae es.length ce)) y from ⟨hy, (XR.out.below hy XR.out.lt).cell 0, (XR.out.below hy XR.out.lt).cell 1, (XR.out.below hy XR.out.lt).cell 3⟩)
          have L0 := C.out V2.drew (Below.refl _ _).drew
          have KY := Lib.hid (show ∀ y, (fun y => Below V2.heap.size V2 y ∧ y.cell? ⟨w.heap.size, 0, none⟩ = some (.string md) ∧ y.cell? ⟨w.heap.size, 1, none⟩ = some (.int .u32 key) ∧ y.cell? ⟨w.heap.size, 3, none⟩ = some (.slice Ae es.length ce)) y → Calls Try.prog 41 #[.string md, .slice Ae es.length ce] y (fun e y' => e = .returned (.int .u32 kk) ∧ (fun y => Below V2.heap.size V2 y ∧ y.cell? ⟨w.heap.size, 0, none⟩ = some (.string md) ∧ y.cell? ⟨w.heap.size, 1, none⟩ = some (.int .u32 key) ∧ y.cell? ⟨w.heap.size, 3, none⟩ = some (.slice Ae es.length ce)) y') from fun y hy => (KA.out y (B3.out.trans (hy.1.mono B3.out.size))).mono (fun e y' h => ⟨h.1, C.out y' (hy.1.trans (h.2.mono hy.1.size))⟩))
          by_cases hk : key = kk
          · subst hk
            have RR := Lib.hid (show r = 0 from R3'.out.trans (if_neg (fun h => h rfl)))
            go_region_held3 (fun y => Below V2.heap.size V2 y ∧ y.cell? ⟨w.heap.size, 0, none⟩ = some (.string md) ∧ y.cell? ⟨w.heap.size, 1, none⟩ = some (.int .u32 key) ∧ y.cell? ⟨w.heap.size, 3, none⟩ = some (.slice Ae es.length ce))
              (first
                | with_reducible assumption
                | with_reducible exact L0
                | fail)
              (first
                | (go_at_call 41; refine (KY.out _ (by assumption)).mono ?_; rintro e y1 ⟨rfl, hs1⟩))
            all_goals
              rename_i hH
              have BH := Lib.hid (B3.out.trans (hH.1.mono B3.out.size))
              clear hH L0 C KY
              go_wp2_with fail
              go_ret
              rw [RR.out]
              exact ⟨rfl, BH.out⟩
          · have dk : (key != kk) = true := by simp [hk]
            have RR := Lib.hid (show r = 142 from R3'.out.trans (if_pos hk))
            clear hk
            go_region_held3 (fun y => Below V2.heap.size V2 y ∧ y.cell? ⟨w.heap.size, 0, none⟩ = some (.string md) ∧ y.cell? ⟨w.heap.size, 1, none⟩ = some (.int .u32 key) ∧ y.cell? ⟨w.heap.size, 3, none⟩ = some (.slice Ae es.length ce))
              (first
                | with_reducible assumption
                | with_reducible exact L0
                | fail)
              (first
                | (go_at_call 41; refine (KY.out _ (by assumption)).mono ?_; rintro e y1 ⟨rfl, hs1⟩))
            all_goals
              rename_i hH
              have BH := Lib.hid (B3.out.trans (hH.1.mono B3.out.size))
              clear hH L0 C KY
              go_wp2_with fail
              go_ret
              rw [RR.out]
              exact ⟨rfl, BH.out⟩
    · have RR := Lib.hid (R1.out HN.out hi0)
      have d0 : (ie != 0) = true := by simp [hi0]
      clear hi0
      go_wp2_with fail
      go_ret
      rw [RR.out]
      exact ⟨rfl, B2.out⟩
  · rw [decide_eq_false hN] at NA
    have RR := Lib.hid (R0.out hN)
    clear hN
    go_enter Try.func14, Try.ntmps14
    go_wp2_with fail
    refine (NA.out _).mono ?_
    rintro e w1 ⟨rfl, rfl⟩
    go_wp2_with fail
    go_ret
    rw [RR.out]
    exact ⟨rfl, BA.out⟩
end Go.Proofs.Ythmjniedfiabhaa
