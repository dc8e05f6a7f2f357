/- Scopes: the answers' Close. -/
import Derived.Test.YtpfoebnlngfebaaScpL
namespace Go.Proofs.Ytpfoebnlngfebaa
open Go.ChangeShapes Go.WideShapes Go.ChangeAt Go.RowKit
set_option linter.unusedVariables false
set_option linter.unusedSimpArgs false

theorem filter_take1 {α : Type} (p : α → Bool) (l : List α) (t : Nat) (d : α) (ht : t < l.length) : (l.take (t + 1)).filter p = (l.take t).filter p ++ (if p (l.getD t d) then [l.getD t d] else []) := filter_take p l t d ht

theorem ParV.boxes {S : Nat → Prop} {w w' : World} {B : Nat} {v : Value} {ps : List (Int × Bool)} (h : ParV B w v ps) (K : KeptS S w w') (hS : ∀ k, S k → B ≤ k ∧ ∃ cs, w.heap[k]? = some (.cells cs rS (0, 0))) : ParV B w' v ps :=
  h.keep (Nat.le_refl _) K.size fun b hb hh => K.block b hb fun hs => by
    obtain ⟨h1, cs, e1⟩ := hS b hs
    rcases hh with hh | ⟨cs', fz, hh⟩
    · omega
    · rw [e1] at hh
      injection hh with hh
      injection hh with _ hh _
      exact absurd hh (by decide)

theorem row_boxes {S : Nat → Prop} {w w' : World} {B B' : Nat} {e : TypeId} {sz : Nat} {v : Value} {n : Nat} {xs : List Value} (h : w.ownsRow B' e sz v n xs) (he : e ≠ rS) (K : KeptS S w w') (hS : ∀ k, S k → B ≤ k ∧ ∃ cs, w.heap[k]? = some (.cells cs rS (0, 0))) : w'.ownsRow B' e sz v n xs :=
  K.row h fun b hb hs => by
    obtain ⟨_, cs, e1⟩ := hS b hs
    obtain ⟨_, _, cs', e2⟩ := row_block h hb
    rw [e1] at e2
    injection e2 with e2
    injection e2 with _ e2 _
    exact he e2.symm

theorem RowO.boxes {S : Nat → Prop} {w w' : World} {B B' : Nat} {v : Value} {l : List Ox} (h : RowO rO w B B' v l) (K : KeptS S w w') (hS : ∀ k, S k → B ≤ k ∧ ∃ cs, w.heap[k]? = some (.cells cs rS (0, 0))) : RowO rO w' B B' v l :=
  ⟨row_boxes h.row (by decide) K hS, fun x hx => (h.par x hx).boxes K hS⟩

theorem RefIn.boxes {S : Nat → Prop} {w w' : World} {B : Nat} {AL : Option Addr} {cL : Nat} {lx : List Ox} {AM : Option Addr} {cM : Nat} {mx : List (Value × List Ox)} {s : Stt} (h : RefIn w B AL cL lx AM cM mx s) (K : KeptS S w w') (hS : ∀ k, S k → B ≤ k ∧ ∃ cs, w.heap[k]? = some (.cells cs rS (0, 0))) : RefIn w' B AL cL lx AM cM mx s :=
  ⟨h.rows.boxes K hS, h.same, row_boxes h.mods (by decide) K hS, fun m hm => (h.mrows m hm).boxes K hS, h.msame⟩

/-- One object more in an own row. -/
theorem RowO.grown {E : TypeId} {w w' : World} {B B' : Nat} {v v' : Value} {l : List Ox} {x : Ox} (h : RowO E w B B' v l) (hE : E ≠ pP) (hB : B ≤ B') (hp : ParV B w x.2 x.1.ps) (hg : w.grownBy w' v.ownBlock) (ho : w'.ownsRow B' E 8 v' (l.length + 1) (l.flatMap oxCells ++ oxCells x)) : RowO E w' B B' v' (l ++ [x]) := by
  have hk : ∀ {v : Value} {ps : List (Int × Bool)}, ParV B w v ps → ParV B w' v ps := fun hp => hp.keep (Nat.le_refl _) hg.size fun b hb hh => hg.block b hb fun e => by
    obtain ⟨h1, _, cs, e1⟩ := row_block h.row e.symm
    rcases hh with hh | ⟨cs', fz, hh⟩
    · omega
    · rw [e1] at hh
      injection hh with hh
      injection hh with _ hh _
      exact hE hh
  refine ⟨by rw [List.length_append, List.flatMap_append, List.length_singleton, List.flatMap_singleton]; exact ho, fun y hy => ?_⟩
  rcases List.mem_append.1 hy with hy | hy
  · exact hk (h.par y hy)
  · obtain rfl := List.mem_singleton.1 hy
    exact hk hp

set_option maxHeartbeats 16000000 in
set_option maxRecDepth 100000 in
theorem refclose_any (B : Nat) (AL : Option Addr) (cL : Nat) (lx : List Ox) (AM : Option Addr) (cM : Nat) (mx : List (Value × List Ox)) (s : Stt) (w : World) (h : RefIn w B AL cL lx AM cM mx s) (hB : B ≤ w.heap.size) (hl : s.lev ≤ 64) (hlen : s.L.length ≤ 1000) :
    Calls Try.prog 30 #[.agg #[.slice AL s.L.length cL, .int .i64 s.lev, .slice AM s.mods.length cM]] w (RefPost B w (closeP s)) := by
  by_cases h0 : s.lev = 0
  · have OP : closeP s = (s, 111) := if_pos h0
    rw [OP]
    have d : ((s.lev : Int) == 0) = true := by rw [h0]; rfl
    have b1 := (Below.refl w.heap.size w).alloc (Nat.le_refl _) (.cells #[.slice AL s.L.length cL, .int .i64 s.lev, .slice AM s.mods.length cM] rS)
    have b2 := b1.alloc b1.size (.cells #[.slice AL s.L.length cL, .int .i64 s.lev, .slice AM s.mods.length cM] rS)
    have BV := Lib.hid b2
    have HV := Lib.hid (h.below b2)
    have X2 := Lib.hid (Whole.made (w.alloc (.cells #[.slice AL s.L.length cL, .int .i64 s.lev, .slice AM s.mods.length cM] rS)) rS #[.slice AL s.L.length cL, .int .i64 s.lev, .slice AM s.mods.length cM] (w.heap.size + 1) (by simp))
    clear h b1 b2 OP h0
    go_enter Try.func30, Try.ntmps30
    go_wp2_with fail
    have x0 : ((w.alloc (.cells #[.slice AL s.L.length cL, .int .i64 s.lev, .slice AM s.mods.length cM] rS)).alloc (.cells #[.slice AL s.L.length cL, .int .i64 s.lev, .slice AM s.mods.length cM] rS)).cell? ⟨w.heap.size + 1, 0, none⟩ = some (.slice AL s.L.length cL) := X2.out.cell 0
    have x1 : ((w.alloc (.cells #[.slice AL s.L.length cL, .int .i64 s.lev, .slice AM s.mods.length cM] rS)).alloc (.cells #[.slice AL s.L.length cL, .int .i64 s.lev, .slice AM s.mods.length cM] rS)).cell? ⟨w.heap.size + 1, 1, none⟩ = some (.int .i64 s.lev) := X2.out.cell 1
    have x2 : ((w.alloc (.cells #[.slice AL s.L.length cL, .int .i64 s.lev, .slice AM s.mods.length cM] rS)).alloc (.cells #[.slice AL s.L.length cL, .int .i64 s.lev, .slice AM s.mods.length cM] rS)).cell? ⟨w.heap.size + 1, 2, none⟩ = some (.slice AM s.mods.length cM) := X2.out.cell 2
    refine bodyPost_ret (v := .tuple #[.agg #[.slice AL s.L.length cL, .int .i64 s.lev, .slice AM s.mods.length cM], .int .i64 111]) ?_ rfl (⟨_, _, _, _, _, _, rfl, HV.out, BV.out⟩ : RefPost B w (s, 111) _ _)
    clear X2 BV HV
    generalize ((w.alloc (.cells #[.slice AL s.L.length cL, .int .i64 s.lev, .slice AM s.mods.length cM] rS)).alloc (.cells #[.slice AL s.L.length cL, .int .i64 s.lev, .slice AM s.mods.length cM] rS)) = Z at *
    simp [results, Try.results30, go_sem, x0, x1, x2]
  · have e1 : ((s.lev - 1 : Nat) : Int) = (s.lev : Int) - 1 := by omega
    have OP : closeP s = ({ s with L := s.L.filter (fun x => decide (x.lv < (s.lev : Int))), lev := s.lev - 1 }, 0) := if_neg h0
    rw [OP]
    have E1 := Lib.hid e1
    have d : ((s.lev : Int) == 0) = false := beq_eq_false_iff_ne.2 (by omega)
    have b1 := (Below.refl w.heap.size w).alloc (Nat.le_refl _) (.cells #[.slice AL s.L.length cL, .int .i64 s.lev, .slice AM s.mods.length cM] rS)
    have b2 := b1.alloc b1.size (.cells #[.slice none 0 0, .int .i64 0, .slice none 0 0] rS)
    have BV := Lib.hid b2
    have HV := Lib.hid (h.below b2)
    have X1 := Lib.hid ((Whole.made w rS #[.slice AL s.L.length cL, .int .i64 s.lev, .slice AM s.mods.length cM] _ rfl).alloc (.cells #[.slice none 0 0, .int .i64 0, .slice none 0 0] rS))
    have X2 := Lib.hid (Whole.made (w.alloc (.cells #[.slice AL s.L.length cL, .int .i64 s.lev, .slice AM s.mods.length cM] rS)) rS #[.slice none 0 0, .int .i64 0, .slice none 0 0] (w.heap.size + 1) (by simp))
    have HB := Lib.hid hB
    have HL := Lib.hid h.len.1
    obtain ⟨i0, hi0, hz0, hz1, hz2⟩ := info_parts rO_info
    clear h b1 b2 OP e1 hB h0
    go_enter Try.func30, Try.ntmps30
    go_wp2_with fail
    generalize ((w.alloc (.cells #[.slice AL s.L.length cL, .int .i64 s.lev, .slice AM s.mods.length cM] rS)).alloc (.cells #[.slice none 0 0, .int .i64 0, .slice none 0 0] rS)) = V at *
    have hlx : lx.length = s.L.length := HL.out
    go_loopw [4, 5] (fun o i wr => ∃ (t : Nat) (lo : List Ox), t ≤ s.L.length ∧ i = .int .i64 t ∧ lo.length ≤ t ∧ RowO rO wr B V.heap.size o lo ∧ lo.map (·.1) = (s.L.take t).filter (fun x => decide (x.lv < (s.lev : Int))) ∧ Below V.heap.size V wr) (fun _ i _ => s.L.length - (intOf i).toNat)
    case atStart => exact ⟨0, [], Nat.zero_le _, rfl, Nat.le_refl _, RowO.nil _ _ _ _, rfl, Below.refl _ _⟩
    case round =>
      obtain ⟨t, lo, ht, rfl, hlt2, ho, hm, hb⟩ := hrel
      obtain ⟨A3, c3, rfl⟩ := row_form ho.row
      have BW := Lib.hid hb
      have OW := Lib.hid ho
      have HM := Lib.hid hm
      have XB := Lib.hid (X1.out.below hb X1.out.lt)
      have XR := Lib.hid (X2.out.below hb X2.out.lt)
      have q0 : wr.cell? ⟨w.heap.size, 0, none⟩ = some (.slice AL s.L.length cL) := XB.out.cell 0
      have q1 : wr.cell? ⟨w.heap.size, 1, none⟩ = some (.int .i64 s.lev) := XB.out.cell 1
      clear hb ho hm
      by_cases hlt : t < s.L.length
      · have hI : (t : Int) < s.L.length := by omega
        have hrow := HV.out.rows.below BW.out
        rw [← hlx] at hrow
        obtain ⟨g, rfl, hcap, _, hgl, nm, kd, ty, lv, nn, md, ou, ps, Ap, cp, hX, hpar, hg⟩ := hrow.at (show t < lx.length by omega)
        have hlx2 : t < lx.length := by omega
        have hft := filter_take1 (fun x : Ob => decide (x.lv < (s.lev : Int))) s.L t zO hlt
        have hgd : s.L.getD t zO = ⟨nm, kd, ty, lv, nn, md, ou, ps⟩ := by
          rw [← HV.out.same, show (lx.map (·.1)).getD t zO = (lx.getD t zX).1 by simp [List.getD, hlx2], hX]
        rw [hgd] at hft
        have HT := Lib.hid hft
        have HG := Lib.hid (show ∀ nq (j : Nat) u, [Value.string nm, .int .i64 kd, .int .i64 ty, .int .i64 lv, .int .i32 nn, .int .i64 md, .bool ou, .slice Ap ps.length cp][j]? = some u → (wr.drewN nq).cell? ⟨g, t * 8 + j, none⟩ = some u from fun nq j u hj => (hg j u hj).1)
        have x3 : wr.cell? ⟨g, t * 8 + 3, none⟩ = some (.int .i64 lv) := (hg 3 _ rfl).1
        have HP := Lib.hid hpar
        clear hg hrow hX hpar hft hgd
        by_cases hlv : lv < (s.lev : Int)
        · go_wp2_with fail
          go_quiet (fail)
          rename_i nq
          have BY := Lib.hid (below_drawn BW.out nq)
          have hbq := Lib.hid (below_drawn (Below.refl wr.heap.size wr) nq)
          have OY := Lib.hid (OW.out.below hbq.out)
          have PY := Lib.hid (HP.out.below hbq.out)
          have XY := Lib.hid (XB.out.drawn nq)
          have HGY := Lib.hid (HG.out nq)
          have HC := Lib.hid (show ∀ l2, l2 = lo ++ [(({ nm := nm, kd := kd, ty := ty, lv := lv, nn := nn, md := md, ou := ou, ps := ps } : Ob), Value.slice Ap ps.length cp)] → l2.map (·.1) = (s.L.take (t + 1)).filter (fun x => decide (x.lv < (s.lev : Int))) from fun l2 e => by
            rw [e, HT.out, List.map_append, HM.out, if_pos (decide_eq_true hlv)]
            rfl)
          clear q0 q1 x3 HG hbq XB OW HP BW HT HM
          generalize wr.drewN nq = y at *
          have q0 : y.cell? ⟨w.heap.size, 0, none⟩ = some (.slice (some ⟨g, 0, none⟩) s.L.length cL) := XY.out.cell 0
          have x0 : y.cell? ⟨g, t * 8, none⟩ = some (.string nm) := HGY.out 0 _ rfl
          have x1 : y.cell? ⟨g, t * 8 + 1, none⟩ = some (.int .i64 kd) := HGY.out 1 _ rfl
          have x2 : y.cell? ⟨g, t * 8 + 2, none⟩ = some (.int .i64 ty) := HGY.out 2 _ rfl
          have x3 : y.cell? ⟨g, t * 8 + 3, none⟩ = some (.int .i64 lv) := HGY.out 3 _ rfl
          have x4 : y.cell? ⟨g, t * 8 + 4, none⟩ = some (.int .i32 nn) := HGY.out 4 _ rfl
          have x5 : y.cell? ⟨g, t * 8 + 5, none⟩ = some (.int .i64 md) := HGY.out 5 _ rfl
          have x6 : y.cell? ⟨g, t * 8 + 6, none⟩ = some (.bool ou) := HGY.out 6 _ rfl
          have x7 : y.cell? ⟨g, t * 8 + 7, none⟩ = some (.slice Ap ps.length cp) := HGY.out 7 _ rfl
          have b2 := (Below.refl y.heap.size y).alloc (Nat.le_refl _) (.cells #[.string nm, .int .i64 kd, .int .i64 ty, .int .i64 lv, .int .i32 nn, .int .i64 md, .bool ou, .slice Ap ps.length cp] rO)
          have BY2 := Lib.hid (BY.out.trans (b2.mono BY.out.size))
          have OY2 := Lib.hid (OY.out.below b2)
          have PY2 := Lib.hid (PY.out.below b2)
          have HBASE := Lib.hid (show V.heap.size ≤ (y.alloc (.cells #[.string nm, .int .i64 kd, .int .i64 ty, .int .i64 lv, .int .i32 nn, .int .i64 md, .bool ou, .slice Ap ps.length cp] rO)).heap.size from BY2.out.size)
          have NC := Lib.hid (show ∀ (j : Nat) u, ([.string nm, .int .i64 kd, .int .i64 ty, .int .i64 lv, .int .i32 nn, .int .i64 md, .bool ou, .slice Ap ps.length cp] : List Value)[j]? = some u → (y.alloc (.cells #[.string nm, .int .i64 kd, .int .i64 ty, .int .i64 lv, .int .i32 nn, .int .i64 md, .bool ou, .slice Ap ps.length cp] rO)).cell? ((⟨y.heap.size, 0, none⟩ : Addr).add j) = some u from fun j u hj => by
            rw [Go.WideShapes.add_plain, Nat.zero_add]
            exact ((Whole.made y rO #[.string nm, .int .i64 kd, .int .i64 ty, .int .i64 lv, .int .i32 nn, .int .i64 md, .bool ou, .slice Ap ps.length cp] _ rfl).cell j).trans (by simpa using hj))
          clear b2 BY OY PY HGY
          go_wp2_with (first | (at_builtin; refine wpList_append_own_at _ rfl _ _ 25 rfl V.heap.size rO i0 _ 8 88 Try.underlying25 hi0 hz0 hz1 hz2 rfl (by decide) (.slice A3 lo.length c3) lo.length _ rfl OY2.out.row ⟨y.heap.size, 0, none⟩ 1 1 [.string nm, .int .i64 kd, .int .i64 ty, .int .i64 lv, .int .i32 nn, .int .i64 md, .bool ou, .slice Ap ps.length cp] rfl rfl NC.out (fun u hu => by simp at hu; rcases hu with rfl | rfl | rfl | rfl | rfl | rfl | rfl | rfl <;> rfl) (by unfold maxLen; omega) (by omega) HBASE.out ?_; intro v3 w3 ho3 hg3 hnl hat; have B3 := Lib.hid (BY2.out.grown hg3 HBASE.out (fun b hb => (World.ownsRow.lt OY2.out.row b hb).1)); have O3 := Lib.hid (OY2.out.grown (x := (({ nm := nm, kd := kd, ty := ty, lv := lv, nn := nn, md := md, ou := ou, ps := ps } : Ob), Value.slice Ap ps.length cp)) (by decide) (Nat.le_trans HB.out BV.out.size) PY2.out hg3 ho3); clear ho3 hg3 hnl hat))
          go_roundw
          case rel => exact ⟨t + 1, _, by omega, by go_num, by rw [List.length_append, List.length_singleton]; omega, O3.out, HC.out _ rfl, B3.out⟩
          case measure => simp [intOf]; omega
        · have HF := Lib.hid (show (s.L.take (t + 1)).filter (fun x => decide (x.lv < (s.lev : Int))) = (s.L.take t).filter (fun x => decide (x.lv < (s.lev : Int))) from by
            rw [HT.out, if_neg (by simpa using hlv), List.append_nil])
          have dlv : decide (lv < (s.lev : Int)) = false := decide_eq_false hlv
          have B0 := Lib.hid (fun nq => below_drawn (Below.refl wr.heap.size wr) nq)
          clear hlv HT HG HP
          go_wp2_with fail
          go_quiet (fail)
          rename_i nq
          go_wp2_with fail
          go_roundw
          case rel => exact ⟨t + 1, lo, by omega, by go_num, by omega, OW.out.below (B0.out nq), by rw [HF.out]; exact HM.out, BW.out.trans ((B0.out nq).mono BW.out.size)⟩
          case measure => simp [intOf]; omega
      · have hI : ¬ (t : Int) < s.L.length := by omega
        obtain rfl : t = s.L.length := by omega
        rw [List.take_length] at HM
        have hlo : lo.length = (s.L.filter (fun x => decide (x.lv < (s.lev : Int)))).length := by rw [← HM.out, List.length_map]
        have HLO := Lib.hid hlo
        have Y1 := Lib.hid (show Whole ((wr.setCell ⟨w.heap.size, 0, none⟩ (.slice A3 lo.length c3)).setCell ⟨w.heap.size, 1, none⟩ (.int .i64 ((s.lev : Int) - 1))) w.heap.size rS #[.slice A3 lo.length c3, .int .i64 ((s.lev : Int) - 1), .slice AM s.mods.length cM] from (XB.out.store 0 _).store 1 _)
        have Y2 := Lib.hid (show Whole ((wr.setCell ⟨w.heap.size, 0, none⟩ (.slice A3 lo.length c3)).setCell ⟨w.heap.size, 1, none⟩ (.int .i64 ((s.lev : Int) - 1))) (w.heap.size + 1) rS #[.slice none 0 0, .int .i64 0, .slice none 0 0] from (XR.out.far (p := ⟨w.heap.size, 0, none⟩) (by show w.heap.size + 1 ≠ w.heap.size; omega) _).far (p := ⟨w.heap.size, 1, none⟩) (by show w.heap.size + 1 ≠ w.heap.size; omega) _)
        have SX := Lib.hid (set_three Y2.out (.slice A3 lo.length c3) (.int .i64 ((s.lev : Int) - 1)) (.slice AM s.mods.length cM))
        have f0 : wr.frozen? ⟨w.heap.size, 0, none⟩ = false := XB.out.free 0
        have f1 : wr.frozen? ⟨w.heap.size, 1, none⟩ = false := XB.out.free 1
        have q2 : wr.cell? ⟨w.heap.size, 2, none⟩ = some (.slice AM s.mods.length cM) := XB.out.cell 2
        have r0 : wr.cell? ⟨w.heap.size + 1, 0, none⟩ = some (.slice none 0 0) := XR.out.cell 0
        have z0 : wr.frozen? ⟨w.heap.size + 1, 0, none⟩ = false := XR.out.free 0
        have r1 : wr.cell? ⟨w.heap.size + 1, 1, none⟩ = some (.int .i64 0) := XR.out.cell 1
        have z1 : wr.frozen? ⟨w.heap.size + 1, 1, none⟩ = false := XR.out.free 1
        have r2 : wr.cell? ⟨w.heap.size + 1, 2, none⟩ = some (.slice none 0 0) := XR.out.cell 2
        have z2 : wr.frozen? ⟨w.heap.size + 1, 2, none⟩ = false := XR.out.free 2
        have e1 : IntKind.i64.wrap ((s.lev : Int) - 1) = (s.lev : Int) - 1 := by rw [IntKind.wrap_i64]; omega
        clear hlo hlx
        go_wp2_with fail
        have hq0 := XB.out.lt
        have hS : ∀ k, (k = w.heap.size ∨ k = w.heap.size + 1) → B ≤ k ∧ ∃ cs, wr.heap[k]? = some (.cells cs rS (0, 0)) := fun k hk => by
          rcases hk with rfl | rfl
          · exact ⟨HB.out, _, XB.out⟩
          · exact ⟨Nat.le_succ_of_le HB.out, _, XR.out⟩
        have K := (((KeptS.set (S := fun k => k = w.heap.size ∨ k = w.heap.size + 1) (w := wr) (g := w.heap.size) (j := 0) (u := .slice A3 lo.length c3) (.inl rfl)).trans (KeptS.set (S := fun k => k = w.heap.size ∨ k = w.heap.size + 1) (g := w.heap.size) (j := 1) (u := .int .i64 ((s.lev : Int) - 1)) (.inl rfl)) (fun _ h => .inl h)).trans (KeptS.grown (S := fun k => k = w.heap.size ∨ k = w.heap.size + 1) SX.out.2 (fun b hb => .inr (Option.some.inj hb).symm)) (fun _ h => .inl h))
        have HO := (OW.out.more (B2 := B) (Nat.le_trans HB.out BV.out.size)).boxes K hS
        have HN := (HV.out.below BW.out).boxes K hS
        have BZ : Below w.heap.size w (((((wr.setCell ⟨w.heap.size, 0, none⟩ (.slice A3 lo.length c3)).setCell ⟨w.heap.size, 1, none⟩ (.int .i64 ((s.lev : Int) - 1))).setCell ⟨w.heap.size + 1, 0, none⟩ (.slice A3 lo.length c3)).setCell ⟨w.heap.size + 1, 1, none⟩ (.int .i64 ((s.lev : Int) - 1))).setCell ⟨w.heap.size + 1, 2, none⟩ (.slice AM s.mods.length cM)) := KeptS.below (BV.out.trans (BW.out.mono BV.out.size)) K (by have := BV.out.size; have := BW.out.size; omega) (fun k hk => by rcases hk with rfl | rfl <;> omega)
        have HF := Lib.hid (show RefPost B w ({ s with L := s.L.filter (fun x => decide (x.lv < (s.lev : Int))), lev := s.lev - 1 }, 0) (.returned (.tuple #[.agg #[.slice A3 lo.length c3, .int .i64 ((s.lev : Int) - 1), .slice AM s.mods.length cM], .int .i64 0])) (((((wr.setCell ⟨w.heap.size, 0, none⟩ (.slice A3 lo.length c3)).setCell ⟨w.heap.size, 1, none⟩ (.int .i64 ((s.lev : Int) - 1))).setCell ⟨w.heap.size + 1, 0, none⟩ (.slice A3 lo.length c3)).setCell ⟨w.heap.size + 1, 1, none⟩ (.int .i64 ((s.lev : Int) - 1))).setCell ⟨w.heap.size + 1, 2, none⟩ (.slice AM s.mods.length cM)) from ⟨A3, c3, lo, AM, cM, mx, by rw [HLO.out, E1.out], ⟨by rw [← HLO.out]; exact HO, HM.out, HN.mods, HN.mrows, HN.msame⟩, BZ⟩)
        have W9 := SX.out.1
        have x0 : (((((wr.setCell ⟨w.heap.size, 0, none⟩ (.slice A3 lo.length c3)).setCell ⟨w.heap.size, 1, none⟩ (.int .i64 ((s.lev : Int) - 1))).setCell ⟨w.heap.size + 1, 0, none⟩ (.slice A3 lo.length c3)).setCell ⟨w.heap.size + 1, 1, none⟩ (.int .i64 ((s.lev : Int) - 1))).setCell ⟨w.heap.size + 1, 2, none⟩ (.slice AM s.mods.length cM)).cell? ⟨w.heap.size + 1, 0, none⟩ = some (.slice A3 lo.length c3) := W9.cell 0
        have x1 : (((((wr.setCell ⟨w.heap.size, 0, none⟩ (.slice A3 lo.length c3)).setCell ⟨w.heap.size, 1, none⟩ (.int .i64 ((s.lev : Int) - 1))).setCell ⟨w.heap.size + 1, 0, none⟩ (.slice A3 lo.length c3)).setCell ⟨w.heap.size + 1, 1, none⟩ (.int .i64 ((s.lev : Int) - 1))).setCell ⟨w.heap.size + 1, 2, none⟩ (.slice AM s.mods.length cM)).cell? ⟨w.heap.size + 1, 1, none⟩ = some (.int .i64 ((s.lev : Int) - 1)) := W9.cell 1
        have x2 : (((((wr.setCell ⟨w.heap.size, 0, none⟩ (.slice A3 lo.length c3)).setCell ⟨w.heap.size, 1, none⟩ (.int .i64 ((s.lev : Int) - 1))).setCell ⟨w.heap.size + 1, 0, none⟩ (.slice A3 lo.length c3)).setCell ⟨w.heap.size + 1, 1, none⟩ (.int .i64 ((s.lev : Int) - 1))).setCell ⟨w.heap.size + 1, 2, none⟩ (.slice AM s.mods.length cM)).cell? ⟨w.heap.size + 1, 2, none⟩ = some (.slice AM s.mods.length cM) := W9.cell 2
        refine bodyPost_ret (v := .tuple #[.agg #[.slice A3 lo.length c3, .int .i64 ((s.lev : Int) - 1), .slice AM s.mods.length cM], .int .i64 0]) ?_ rfl HF.out
        clear HF W9 BZ HN HO K SX Y1 Y2 OW HV BV BW
        generalize (((((wr.setCell ⟨w.heap.size, 0, none⟩ (.slice A3 lo.length c3)).setCell ⟨w.heap.size, 1, none⟩ (.int .i64 ((s.lev : Int) - 1))).setCell ⟨w.heap.size + 1, 0, none⟩ (.slice A3 lo.length c3)).setCell ⟨w.heap.size + 1, 1, none⟩ (.int .i64 ((s.lev : Int) - 1))).setCell ⟨w.heap.size + 1, 2, none⟩ (.slice AM s.mods.length cM)) = ZZ at *
        simp [results, Try.results30, go_sem, x0, x1, x2]
end Go.Proofs.Ytpfoebnlngfebaa
