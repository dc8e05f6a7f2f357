/- Symfile: the answers' Imports. -/
import Derived.Test.YtdakooipelligaaSymF
import Derived.Deep.QuietTactic
namespace Go.Proofs.Ytdakooipelligaa
open Go.ChangeShapes Go.WideShapes Go.ChangeAt Go.RowKit
set_option linter.unusedVariables false
set_option linter.unusedSimpArgs false

theorem txt_yes (s : ByteArray) : (s.toList == s.toList) = true := by simp

theorem txt_no {s t : ByteArray} (h : s ≠ t) : (s.toList == t.toList) = false := by
  rw [beq_eq_false_iff_ne]
  intro e
  rw [Lib.toList_data, Lib.toList_data] at e
  exact h (ByteArray.ext (Array.ext' e))

/-- The names ahead of a place, and the module's. -/
def SeenAt (seen : List ByteArray) (md : ByteArray) (nms : Nat → ByteArray) (t : Nat) : Prop := ∀ s, s ∈ seen ↔ s = md ∨ ∃ j, j < t ∧ nms j = s

theorem SeenAt.zero (md : ByteArray) (nms : Nat → ByteArray) : SeenAt [md] md nms 0 := fun s => by
  constructor
  · intro h
    exact .inl (List.mem_singleton.1 h)
  · rintro (h | ⟨j, hj, _⟩)
    · exact List.mem_singleton.2 h
    · exact absurd hj (Nat.not_lt_zero _)

theorem SeenAt.more {seen : List ByteArray} {md : ByteArray} {nms : Nat → ByteArray} {t : Nat} {x : ByteArray} (h : SeenAt seen md nms t) (hx : nms t = x) : SeenAt (x :: seen) md nms (t + 1) := fun s => by
  rw [List.mem_cons, h s]
  constructor
  · rintro (rfl | h1 | ⟨j, hj, e⟩)
    · exact .inr ⟨t, Nat.lt_succ_self _, hx⟩
    · exact .inl h1
    · exact .inr ⟨j, by omega, e⟩
  · rintro (h1 | ⟨j, hj, e⟩)
    · exact .inr (.inl h1)
    · by_cases e1 : j = t
      · subst e1
        exact .inl (e.symm.trans hx)
      · exact .inr (.inr ⟨j, by omega, e⟩)

/-- Has this name occurred, among so many? -/
def Occ (md nm : ByteArray) (nms : Nat → ByteArray) (k : Nat) (b : Bool) : Prop := b = true ↔ nm = md ∨ ∃ j, j < k ∧ nms j = nm

theorem Occ.more_yes {md nm : ByteArray} {nms : Nat → ByteArray} {k : Nat} (h : Occ md nm nms k true) : Occ md nm nms (k + 1) true := by
  unfold Occ at *
  refine ⟨fun _ => ?_, fun _ => rfl⟩
  rcases h.1 rfl with h1 | ⟨j, hj, e⟩
  · exact .inl h1
  · exact .inr ⟨j, by omega, e⟩

theorem Occ.more_new {md nm : ByteArray} {nms : Nat → ByteArray} {k : Nat} {b : Bool} (h : nms k = nm) : Occ md nm nms (k + 1) true := ⟨fun _ => .inr ⟨k, Nat.lt_succ_self _, h⟩, fun _ => rfl⟩

theorem Occ.more_no {md nm : ByteArray} {nms : Nat → ByteArray} {k : Nat} (h : Occ md nm nms k false) (h2 : nms k ≠ nm) : Occ md nm nms (k + 1) false := by
  unfold Occ at *
  refine ⟨(fun h => by cases h), fun h1 => ?_⟩
  refine absurd (h.2 ?_) (by decide)
  rcases h1 with h1 | ⟨j, hj, e⟩
  · exact .inl h1
  · by_cases e1 : j = k
    · subst e1
      exact absurd e h2
    · exact .inr ⟨j, by omega, e⟩

set_option maxHeartbeats 16000000 in
set_option maxRecDepth 100000 in
theorem refimports_any (md : ByteArray) (A : Option Addr) (c : Nat) (l : List Im) (B : Nat) (w : World) (h : ImV B w (.slice A l.length c) l) (hn : l.length ≤ 140737488355328) (ho : ∀ x ∈ l, x.nm.size ≤ 140737488355328) :
    Calls Try.prog 22 #[.string md, .slice A l.length c] w fun e w' => e = .returned (.int .i64 (importsE md l)) ∧ Below w.heap.size w w' := by
  have H := Lib.hid h
  have HO := Lib.hid ho
  clear h ho
  by_cases h64 : 64 < l.length
  · have hI : (64 : Int) < l.length := by omega
    have R := Lib.hid (show importsE md l = 243 from if_pos h64)
    go_enter Try.func22, Try.ntmps22
    go_wp2_with fail
    go_ret
    rw [R.out]
    exact ⟨rfl, Below.refl _ _⟩
  · have hI : ¬ (64 : Int) < l.length := by omega
    have E := Lib.hid (show importsE md l = impsE [md] l from if_neg h64)
    generalize importsE md l = r at *
    generalize hnms : (fun j => (l.getD j zI).nm) = nms
    have NM := Lib.hid (show ∀ j, nms j = (l.getD j zI).nm from fun j => by rw [← hnms])
    clear hnms
    go_enter Try.func22, Try.ntmps22
    go_wp2_with fail
    go_loopw [5] (fun i wr => ∃ (t : Nat) (seen : List ByteArray), t ≤ l.length ∧ i = .int .i64 t ∧ r = impsE seen (l.drop t) ∧ SeenAt seen md nms t ∧ Below w.heap.size w wr) (fun i _ => l.length - (intOf i).toNat)
    case atStart => exact ⟨0, [md], Nat.zero_le _, rfl, E.out, SeenAt.zero _ _, Below.refl _ _⟩
    case round =>
      obtain ⟨t, seen, ht, rfl, he, hC, hb⟩ := hrel
      have HB := Lib.hid hb
      have HC := Lib.hid hC
      by_cases hlt : t < l.length
      · have hI : (t : Int) < l.length := by omega
        have NT := Lib.hid (NM.out t)
        have HK := Lib.hid (H.out.below hb)
        obtain ⟨b, off, rfl, hbl, p0, p1⟩ := HK.out.at hlt
        have PP := Lib.hid p0
        have hx := HO.out _ (getD_mem zI hlt)
        rw [drop_at l zI hlt] at he
        generalize l.getD t zI = x at *
        obtain ⟨nm, key⟩ := x
        simp only at p0 p1 hx
        have NT' := Lib.hid (show nms t = nm from NT.out)
        have R0 := Lib.hid (fun h => he.trans (impsE_no (x := ⟨nm, key⟩) h))
        have R1 := Lib.hid (fun h h2 => he.trans (impsE_old (x := ⟨nm, key⟩) h h2))
        have R2 := Lib.hid (fun h h2 => he.trans (impsE_new (x := ⟨nm, key⟩) h h2))
        have NA := Lib.hid (fun W => refname_any nm W hx)
        clear he hC hb hx NT p1
        by_cases hN : nameOk nm
        · rw [decide_eq_true hN] at NA
          have HN := Lib.hid hN
          clear hN R0
          obtain ⟨b0, hb0⟩ : ∃ b0, (nm.toList == md.toList) = b0 := ⟨_, rfl⟩
          have OC0 := Lib.hid (show Occ md nm nms 0 b0 from by
            refine ⟨fun h => .inl ?_, fun h => ?_⟩
            · by_cases e : nm = md
              · exact e
              · rw [txt_no e] at hb0
                rw [← hb0] at h
                cases h
            · rcases h with rfl | ⟨j, hj, _⟩
              · rw [txt_yes] at hb0
                exact hb0.symm
              · exact absurd hj (Nat.not_lt_zero _))
          go_wp2_with fail
          refine (NA.out _).mono ?_
          rintro e w2 ⟨rfl, rfl⟩
          go_wp2_with fail
          generalize wr = WR at *
          clear p0 hb0
          go_loopw [6, 7] (fun v i wr => ∃ (k : Nat) (b : Bool), k ≤ t ∧ v = .bool b ∧ i = .int .i64 k ∧ Occ md nm nms k b ∧ Below WR.heap.size WR wr) (fun _ i _ => t - (intOf i).toNat)
          case atStart => exact ⟨0, b0, Nat.zero_le _, rfl, rfl, OC0.out, Below.refl _ _⟩
          case round =>
            clear OC0
            obtain ⟨k, bb, hk, rfl, rfl, hOc, hb2⟩ := hrel
            have B2 := Lib.hid hb2
            have OC := Lib.hid hOc
            have B0 := Lib.hid (fun nq => below_drawn hb2 nq)
            by_cases hkt : k < t
            · have hI2 : (k : Int) < t := by omega
              have hI4 : (k : Int) < l.length := by omega
              have K2 := HK.out.below hb2
              obtain ⟨_, _, e1, _, p0, _⟩ := K2.at hlt
              injection e1 with e1
              injection e1 with e1 e2
              subst e1 e2
              obtain ⟨_, _, e1, _, p1, _⟩ := K2.at (Nat.lt_trans hkt hlt)
              injection e1 with e1
              injection e1 with e1 e2
              subst e1 e2
              have NK := Lib.hid (NM.out k)
              have NT2 := Lib.hid (NM.out t)
              rw [← NT2.out, NT'.out] at p0
              rw [← NK.out] at p1
              generalize hnk : nms k = nk at *
              have NK2 := Lib.hid hnk
              clear hOc hb2 NK NT2 K2 hnk
              cases bb with
              | true =>
                have OC' := Lib.hid OC.out.more_yes
                clear p0 p1
                go_wp2_with fail
                go_quiet (fail)
                rename_i nq
                go_wp2_with fail
                go_roundw
                case rel => exact ⟨k + 1, true, by omega, rfl, by go_num, OC'.out, B0.out nq⟩
                case measure => simp [intOf]; omega
              | false =>
                by_cases he : nk = nm
                · have d1 : (nk.toList == nm.toList) = true := by rw [he]; exact txt_yes nm
                  have OC' := Lib.hid (Occ.more_new (md := md) (nm := nm) (nms := nms) (k := k) (b := true) (NK2.out.trans he))
                  clear he
                  go_wp2_with fail
                  go_quiet (fail)
                  rename_i nq
                  go_wp2_with fail
                  go_roundw
                  case rel => exact ⟨k + 1, true, by omega, rfl, by go_num, OC'.out, B0.out nq⟩
                  case measure => simp [intOf]; omega
                · have d1 := txt_no he
                  have OC' := Lib.hid (OC.out.more_no (fun e => he (NK2.out.symm.trans e)))
                  clear he
                  go_wp2_with fail
                  go_quiet (fail)
                  rename_i nq
                  go_wp2_with fail
                  go_roundw
                  case rel => exact ⟨k + 1, false, by omega, rfl, by go_num, OC'.out, B0.out nq⟩
                  case measure => simp [intOf]; omega
            · have hI2 : ¬ (k : Int) < t := by omega
              obtain rfl : k = t := by omega
              have IFF := Lib.hid (show bb = true ↔ nm ∈ seen from OC.out.trans (HC.out nm).symm)
              have HBB := Lib.hid (HB.out.trans (B2.out.mono HB.out.size))
              cases bb with
              | true =>
                have R := Lib.hid (R1.out HN.out (IFF.out.1 rfl))
                go_wp2_with fail
                go_ret
                rw [R.out]
                exact ⟨rfl, HBB.out⟩
              | false =>
                have R := Lib.hid (R2.out HN.out (fun h => by have := IFF.out.2 h; cases this))
                go_wp2_with fail
                go_roundw
                case rel => exact ⟨k + 1, nm :: seen, by omega, by go_num, R.out, HC.out.more NT'.out, HBB.out⟩
                case measure => simp [intOf]; omega
        · rw [decide_eq_false hN] at NA
          have R := Lib.hid (R0.out hN)
          clear hN R0 R1 R2
          go_wp2_with fail
          refine (NA.out _).mono ?_
          rintro e w2 ⟨rfl, rfl⟩
          go_wp2_with fail
          go_ret
          rw [R.out]
          exact ⟨rfl, HB.out⟩
      · have hI : ¬ (t : Int) < l.length := by omega
        obtain rfl : t = l.length := by omega
        have R := Lib.hid (show r = 0 by rw [he, List.drop_length]; rfl)
        clear he hC hb
        go_wp2_with fail
        go_ret
        rw [R.out]
        exact ⟨rfl, HB.out⟩
end Go.Proofs.Ytdakooipelligaa
