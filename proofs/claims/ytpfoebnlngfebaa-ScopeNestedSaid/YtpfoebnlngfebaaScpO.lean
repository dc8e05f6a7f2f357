/- Scopes: the answers' Declare whole. -/
import Derived.Test.YtpfoebnlngfebaaScpN
import Derived.Test.YtpfoebnlngfebaaRowSet
namespace Go.Proofs.Ytpfoebnlngfebaa
open Go.ChangeShapes Go.WideShapes Go.ChangeAt Go.RowKit
set_option linter.unusedVariables false
set_option linter.unusedSimpArgs false

theorem row_count (s : Stt) (i t : Nat) (ht : t < s.L.length) : ((s.L.take (t + 1)).filter (fun x => x.lv == (i : Int))).length = ((s.L.take t).filter (fun x => x.lv == (i : Int))).length + (if (s.L.getD t zO).lv == (i : Int) then 1 else 0) := by
  rw [filter_take (fun x : Ob => x.lv == (i : Int)) s.L t zO ht, List.length_append]
  cases ((s.L.getD t zO).lv == (i : Int)) <;> rfl

theorem ox_one (l : List Ox) (h : ∀ x ∈ l, ∃ A n c, x.2 = .slice A n c) : ∀ u ∈ l.flatMap oxCells, u.oneCell' = true := by
  intro u hu
  obtain ⟨x, hx, hf⟩ := List.mem_flatMap.1 hu
  obtain ⟨A, n, c, e⟩ := h x hx
  simp only [oxCells, e, List.mem_cons, List.not_mem_nil, or_false] at hf
  rcases hf with rfl | rfl | rfl | rfl | rfl | rfl | rfl | rfl <;> rfl

theorem RowO.one {E : TypeId} {w : World} {B B' : Nat} {v : Value} {l : List Ox} (h : RowO E w B B' v l) : ∀ u ∈ l.flatMap oxCells, u.oneCell' = true :=
  ox_one l fun x hx => by
    obtain ⟨A, c, e⟩ := (h.par x hx).form
    exact ⟨A, _, c, e⟩

set_option maxHeartbeats 16000000 in
set_option maxRecDepth 100000 in
theorem refdecl_ok (B : Nat) (AL : Option Addr) (cL : Nat) (lx : List Ox) (AM : Option Addr) (cM : Nat) (mx : List (Value × List Ox)) (s : Stt) (nm : ByteArray) (kd ty lv nn md : Int) (ou : Bool) (ps : List (Int × Bool)) (Ap : Option Addr) (cp : Nat) (w : World) (h : RefIn w B AL cL lx AM cM mx s) (hp : ParV B w (.slice Ap ps.length cp) ps) (hB : B ≤ w.heap.size) (hlen : s.L.length ≤ 1000) (hgood : ¬ (nm.size = 0 ∨ 32 < nm.size)) (hx : hasP s s.lev nm = none) :
    Calls Try.prog 31 #[.agg #[.slice AL s.L.length cL, .int .i64 s.lev, .slice AM s.mods.length cM], .agg #[.string nm, .int .i64 kd, .int .i64 ty, .int .i64 lv, .int .i32 nn, .int .i64 md, .bool ou, .slice Ap ps.length cp]] w (RefPost B w (declP s ⟨nm, kd, ty, lv, nn, md, ou, ps⟩)) := by
  have DP : declP s ⟨nm, kd, ty, lv, nn, md, ou, ps⟩ = ({ s with L := s.L ++ [({ nm := nm, kd := kd, ty := ty, lv := s.lev, nn := nn, md := md, ou := ou, ps := ps } : Ob)] }, 0) := ((if_neg hgood).trans (if_neg (by rw [hx]; decide))).trans (if_neg (by have h1 : (s.row s.lev).length ≤ s.L.length := List.length_filter_le _ _; omega))
  rw [DP]
  clear DP
  have b1 := (Below.refl w.heap.size w).alloc (Nat.le_refl _) (.cells #[.slice AL s.L.length cL, .int .i64 s.lev, .slice AM s.mods.length cM] rS)
  have b2 := b1.alloc b1.size (.cells #[.string nm, .int .i64 kd, .int .i64 ty, .int .i64 lv, .int .i32 nn, .int .i64 md, .bool ou, .slice Ap ps.length cp] rO)
  have b3 := b2.alloc b2.size (.cells #[.slice none 0 0, .int .i64 0, .slice none 0 0] rS)
  have BV := Lib.hid b3
  have HV := Lib.hid (h.below b3)
  have X1 := Lib.hid (((Whole.made w rS #[.slice AL s.L.length cL, .int .i64 s.lev, .slice AM s.mods.length cM] _ rfl).alloc (.cells #[.string nm, .int .i64 kd, .int .i64 ty, .int .i64 lv, .int .i32 nn, .int .i64 md, .bool ou, .slice Ap ps.length cp] rO)).alloc (.cells #[.slice none 0 0, .int .i64 0, .slice none 0 0] rS))
  have X2 := Lib.hid ((Whole.made (w.alloc (.cells #[.slice AL s.L.length cL, .int .i64 s.lev, .slice AM s.mods.length cM] rS)) rO #[.string nm, .int .i64 kd, .int .i64 ty, .int .i64 lv, .int .i32 nn, .int .i64 md, .bool ou, .slice Ap ps.length cp] (w.heap.size + 1) (by simp)).alloc (.cells #[.slice none 0 0, .int .i64 0, .slice none 0 0] rS))
  have X3 := Lib.hid (Whole.made ((w.alloc (.cells #[.slice AL s.L.length cL, .int .i64 s.lev, .slice AM s.mods.length cM] rS)).alloc (.cells #[.string nm, .int .i64 kd, .int .i64 ty, .int .i64 lv, .int .i32 nn, .int .i64 md, .bool ou, .slice Ap ps.length cp] rO)) rS #[.slice none 0 0, .int .i64 0, .slice none 0 0] (w.heap.size + 1 + 1) (by simp))
  have h32 : ¬ 32 < nm.size := fun e => hgood (.inr e)
  have h0 : nm.size ≠ 0 := fun e => hgood (.inl e)
  have d0 : ((nm.size : Int) == 0) = false := beq_eq_false_iff_ne.2 (by omega)
  have hI : ¬ (32 : Int) < nm.size := by omega
  have AX := Lib.hid (at_any B AL cL lx AM cM mx s s.lev nm (((w.alloc (.cells #[.slice AL s.L.length cL, .int .i64 s.lev, .slice AM s.mods.length cM] rS)).alloc (.cells #[.string nm, .int .i64 kd, .int .i64 ty, .int .i64 lv, .int .i32 nn, .int .i64 md, .bool ou, .slice Ap ps.length cp] rO)).alloc (.cells #[.slice none 0 0, .int .i64 0, .slice none 0 0] rS)) HV.out hlen)
  have HIX := Lib.hid (at_idx s s.lev nm)
  have HB := Lib.hid hB
  have HL := Lib.hid h.len.1
  have HP := Lib.hid (hp.below b3)
  have H0 := Lib.hid h
  have HP0 := Lib.hid hp
  clear h hp b1 b2 b3 hB hgood
  generalize hxi : idxF (atP s.lev nm) s.L 0 = xi at *
  clear hxi
  go_enter Try.func31, Try.ntmps31
  go_wp2_with fail
  generalize (((w.alloc (.cells #[.slice AL s.L.length cL, .int .i64 s.lev, .slice AM s.mods.length cM] rS)).alloc (.cells #[.string nm, .int .i64 kd, .int .i64 ty, .int .i64 lv, .int .i32 nn, .int .i64 md, .bool ou, .slice Ap ps.length cp] rO)).alloc (.cells #[.slice none 0 0, .int .i64 0, .slice none 0 0] rS)) = V at *
  refine AX.out.mono ?_
  rintro e w2 ⟨rfl, hb2⟩
  have hq2 := X3.out.lt
  have B2 := Lib.hid (BV.out.trans (hb2.mono BV.out.size))
  have H2 := Lib.hid (HV.out.below hb2)
  have P2 := Lib.hid (HP.out.below hb2)
  have Y1 := Lib.hid (X1.out.below hb2 X1.out.lt)
  have Y2 := Lib.hid (X2.out.below hb2 X2.out.lt)
  have Y3 := Lib.hid (X3.out.below hb2 X3.out.lt)
  clear hb2 AX X1 X2 X3 BV HV HP hq2
  have hxi0 : xi = -1 := by
    rcases HIX.out with ⟨_, h1⟩ | ⟨n, _, _, h2⟩
    · exact h1
    · rw [hx] at h2
      cases h2
  subst hxi0
  clear hx HIX
  go_wp2_with fail
  have hlx : lx.length = s.L.length := HL.out
  have B2W := Lib.hid B2.out.size
  go_loopw [6, 7] (fun c i wr => ∃ t : Nat, t ≤ s.L.length ∧ i = .int .i64 t ∧ c = .int .i64 (((s.L.take t).filter (fun x => x.lv == (s.lev : Int))).length : Nat) ∧ Below w2.heap.size w2 wr) (fun _ i _ => s.L.length - (intOf i).toNat)
  case atStart => exact ⟨0, Nat.zero_le _, rfl, rfl, Below.refl _ _⟩
  case round =>
    obtain ⟨t, ht, rfl, rfl, hb⟩ := hrel
    have BW := Lib.hid hb
    have XA := Lib.hid (Y1.out.below hb Y1.out.lt)
    have q0 : wr.cell? ⟨w.heap.size, 0, none⟩ = some (.slice AL s.L.length cL) := XA.out.cell 0
    have q1 : wr.cell? ⟨w.heap.size, 1, none⟩ = some (.int .i64 s.lev) := XA.out.cell 1
    have hcn : ((s.L.take t).filter (fun x => x.lv == (s.lev : Int))).length ≤ t := by
      have h1 := List.length_filter_le (fun x : Ob => x.lv == (s.lev : Int)) (s.L.take t)
      have h2 : (s.L.take t).length ≤ t := List.length_take_le _ _
      omega
    by_cases hlt : t < s.L.length
    · have hI : (t : Int) < s.L.length := by omega
      have hrow := (H2.out.rows.below hb)
      rw [← hlx] at hrow
      obtain ⟨g, rfl, hcap, _, hgl, nm', kd', ty', lv', nn', md', ou', ps', Ap', cp', hX, hpar, hg⟩ := hrow.at (show t < lx.length by omega)
      have hlx2 : t < lx.length := by omega
      have hgd : s.L.getD t zO = ⟨nm', kd', ty', lv', nn', md', ou', ps'⟩ := by
        rw [← H2.out.same, show (lx.map (·.1)).getD t zO = (lx.getD t zX).1 by simp [List.getD, hlx2], hX]
      have hrc := row_count s s.lev t hlt
      rw [hgd] at hrc
      have HT := Lib.hid hrc
      have x3 : wr.cell? ⟨g, t * 8 + 3, none⟩ = some (.int .i64 lv') := (hg 3 _ rfl).1
      have B0 := Lib.hid (fun nq => below_drawn BW.out nq)
      clear hg hrow hX hpar hgd hrc hb
      cases hlv : (lv' == (s.lev : Int)) with
      | true =>
        rw [hlv] at HT
        have HT2 := Lib.hid (HT.out.trans (congrArg _ (if_pos rfl)))
        clear HT
        generalize ((s.L.take t).filter (fun x => x.lv == (s.lev : Int))).length = c at *
        go_wp2_with fail
        go_quiet (fail)
        rename_i nq
        go_wp2_with fail
        go_roundw
        case rel => exact ⟨t + 1, by omega, by go_num, by rw [HT2.out]; go_num, B0.out nq⟩
        case measure => simp [intOf]; omega
      | false =>
        rw [hlv] at HT
        have HT2 := Lib.hid (HT.out.trans (congrArg _ (if_neg (by decide))))
        clear HT
        generalize ((s.L.take t).filter (fun x => x.lv == (s.lev : Int))).length = c at *
        go_wp2_with fail
        go_quiet (fail)
        rename_i nq
        go_wp2_with fail
        go_roundw
        case rel => exact ⟨t + 1, by omega, by go_num, by rw [HT2.out]; rfl, B0.out nq⟩
        case measure => simp [intOf]; omega
    · have hI : ¬ (t : Int) < s.L.length := by omega
      obtain rfl : t = s.L.length := by omega
      rw [List.take_length] at hcn ⊢
      generalize (s.L.filter (fun x => x.lv == (s.lev : Int))).length = c at *
      have hc4 : decide ((4096 : Int) ≤ c) = false := decide_eq_false (by omega)
      have XX0 := Lib.hid (Y2.out.below hb Y2.out.lt)
      have x3 : wr.cell? ⟨w.heap.size + 1, 3, none⟩ = some (.int .i64 lv) := XX0.out.cell 3
      have x3f : wr.frozen? ⟨w.heap.size + 1, 3, none⟩ = false := XX0.out.free 3
      have XR0 := Lib.hid (Y3.out.below hb Y3.out.lt)
      have hq2 := XR0.out.lt
      have XQ := Lib.hid (show Whole (wr.setCell ⟨w.heap.size + 1, 3, none⟩ (.int .i64 s.lev)) w.heap.size rS #[.slice AL s.L.length cL, .int .i64 s.lev, .slice AM s.mods.length cM] from XA.out.far (p := ⟨w.heap.size + 1, 3, none⟩) (by show w.heap.size ≠ w.heap.size + 1; omega) _)
      have XX := Lib.hid (show Whole (wr.setCell ⟨w.heap.size + 1, 3, none⟩ (.int .i64 s.lev)) (w.heap.size + 1) rO #[.string nm, .int .i64 kd, .int .i64 ty, .int .i64 s.lev, .int .i32 nn, .int .i64 md, .bool ou, .slice Ap ps.length cp] from XX0.out.store 3 _)
      have XR := Lib.hid (show Whole (wr.setCell ⟨w.heap.size + 1, 3, none⟩ (.int .i64 s.lev)) (w.heap.size + 1 + 1) rS #[.slice none 0 0, .int .i64 0, .slice none 0 0] from XR0.out.far (p := ⟨w.heap.size + 1, 3, none⟩) (by show w.heap.size + 1 + 1 ≠ w.heap.size + 1; omega) _)
      have BV := Lib.hid (show Below w.heap.size w (wr.setCell ⟨w.heap.size + 1, 3, none⟩ (.int .i64 s.lev)) from (B2.out.trans (hb.mono B2.out.size)).setCell (p := ⟨w.heap.size + 1, 3, none⟩) (Nat.le_succ _) _)
      have hrv := (H0.out.below BV.out).rows
      have ONE := Lib.hid hrv.one
      have hrv2 := hrv.row
      rw [hlx] at hrv2
      have RV := Lib.hid hrv2
      obtain ⟨i0, hi0, hz0, hz1, hz2⟩ := info_parts rO_info
      have BVS := Lib.hid BV.out.size
      clear hrv hrv2 hb hcn XR0 XX0 Y1 Y2 Y3 BW XA H2 P2 B2 B2W hq2
      have qa := q1
      clear q1
      go_wp2_with fail
      clear q0 qa x3 x3f hc4
      generalize (wr.setCell ⟨w.heap.size + 1, 3, none⟩ (.int .i64 s.lev)) = V at *
      have hqV := XR.out.lt
      have HQV := Lib.hid hqV
      clear hqV
      have ba := (Below.refl V.heap.size V).alloc (Nat.le_refl _) (.cells #[] rO)
      have bx := (Below.refl V.heap.size V).alloc (Nat.le_refl _) (.cells #[.string nm, .int .i64 kd, .int .i64 ty, .int .i64 s.lev, .int .i32 nn, .int .i64 md, .bool ou, .slice Ap ps.length cp] rO)
      have SZ := Lib.hid (show (V.alloc (.cells #[.string nm, .int .i64 kd, .int .i64 ty, .int .i64 s.lev, .int .i32 nn, .int .i64 md, .bool ou, .slice Ap ps.length cp] rO)).heap.size = V.heap.size + 1 by simp)
      have SE := Lib.hid (show (V.alloc (.cells #[] rO)).heap.size = V.heap.size + 1 by simp)
      have Ba := Lib.hid (show Below V.heap.size V (V.alloc (.cells #[] rO)).drew from ba.drew)
      have Bb := Lib.hid (show Below V.heap.size V ((V.alloc (.cells #[.string nm, .int .i64 kd, .int .i64 ty, .int .i64 s.lev, .int .i32 nn, .int .i64 md, .bool ou, .slice Ap ps.length cp] rO)).alloc (.cells #[] rO)).drew from (bx.alloc (by rw [SZ.out]; omega) _).drew)
      have Bc := Lib.hid (show Below V.heap.size V ((V.alloc (.cells #[] rO)).alloc (.cells #[.string nm, .int .i64 kd, .int .i64 ty, .int .i64 s.lev, .int .i32 nn, .int .i64 md, .bool ou, .slice Ap ps.length cp] rO)).drew from (ba.alloc (by rw [SE.out]; omega) _).drew)
      have cx0 : V.cell? ⟨w.heap.size + 1, 0, none⟩ = some (.string nm) := XX.out.cell 0
      have cx1 : V.cell? ⟨w.heap.size + 1, 1, none⟩ = some (.int .i64 kd) := XX.out.cell 1
      have cx2 : V.cell? ⟨w.heap.size + 1, 2, none⟩ = some (.int .i64 ty) := XX.out.cell 2
      have cx3 : V.cell? ⟨w.heap.size + 1, 3, none⟩ = some (.int .i64 s.lev) := XX.out.cell 3
      have cx4 : V.cell? ⟨w.heap.size + 1, 4, none⟩ = some (.int .i32 nn) := XX.out.cell 4
      have cx5 : V.cell? ⟨w.heap.size + 1, 5, none⟩ = some (.int .i64 md) := XX.out.cell 5
      have cx6 : V.cell? ⟨w.heap.size + 1, 6, none⟩ = some (.bool ou) := XX.out.cell 6
      have cx7 : V.cell? ⟨w.heap.size + 1, 7, none⟩ = some (.slice Ap ps.length cp) := XX.out.cell 7
      have ax0 : (V.alloc (.cells #[] rO)).cell? ⟨w.heap.size + 1, 0, none⟩ = some (.string nm) := (XX.out.below ba XX.out.lt).cell 0
      have ax1 : (V.alloc (.cells #[] rO)).cell? ⟨w.heap.size + 1, 1, none⟩ = some (.int .i64 kd) := (XX.out.below ba XX.out.lt).cell 1
      have ax2 : (V.alloc (.cells #[] rO)).cell? ⟨w.heap.size + 1, 2, none⟩ = some (.int .i64 ty) := (XX.out.below ba XX.out.lt).cell 2
      have ax3 : (V.alloc (.cells #[] rO)).cell? ⟨w.heap.size + 1, 3, none⟩ = some (.int .i64 s.lev) := (XX.out.below ba XX.out.lt).cell 3
      have ax4 : (V.alloc (.cells #[] rO)).cell? ⟨w.heap.size + 1, 4, none⟩ = some (.int .i32 nn) := (XX.out.below ba XX.out.lt).cell 4
      have ax5 : (V.alloc (.cells #[] rO)).cell? ⟨w.heap.size + 1, 5, none⟩ = some (.int .i64 md) := (XX.out.below ba XX.out.lt).cell 5
      have ax6 : (V.alloc (.cells #[] rO)).cell? ⟨w.heap.size + 1, 6, none⟩ = some (.bool ou) := (XX.out.below ba XX.out.lt).cell 6
      have ax7 : (V.alloc (.cells #[] rO)).cell? ⟨w.heap.size + 1, 7, none⟩ = some (.slice Ap ps.length cp) := (XX.out.below ba XX.out.lt).cell 7
      have l0 : V.cell? ⟨w.heap.size, 0, none⟩ = some (.slice AL s.L.length cL) := XQ.out.cell 0
      have la : (V.alloc (.cells #[] rO)).cell? ⟨w.heap.size, 0, none⟩ = some (.slice AL s.L.length cL) := (XQ.out.below ba XQ.out.lt).cell 0
      have lb : (V.alloc (.cells #[.string nm, .int .i64 kd, .int .i64 ty, .int .i64 s.lev, .int .i32 nn, .int .i64 md, .bool ou, .slice Ap ps.length cp] rO)).cell? ⟨w.heap.size, 0, none⟩ = some (.slice AL s.L.length cL) := (XQ.out.below bx XQ.out.lt).cell 0
      have lbb : ((V.alloc (.cells #[.string nm, .int .i64 kd, .int .i64 ty, .int .i64 s.lev, .int .i32 nn, .int .i64 md, .bool ou, .slice Ap ps.length cp] rO)).alloc (.cells #[] rO)).cell? ⟨w.heap.size, 0, none⟩ = some (.slice AL s.L.length cL) := (XQ.out.below Bb.out XQ.out.lt).cell 0
      have lbc : ((V.alloc (.cells #[] rO)).alloc (.cells #[.string nm, .int .i64 kd, .int .i64 ty, .int .i64 s.lev, .int .i32 nn, .int .i64 md, .bool ou, .slice Ap ps.length cp] rO)).cell? ⟨w.heap.size, 0, none⟩ = some (.slice AL s.L.length cL) := (XQ.out.below Bc.out XQ.out.lt).cell 0
      have Ra := Lib.hid (row_below RV.out Ba.out)
      have Rb := Lib.hid (row_below RV.out Bb.out)
      have Rc := Lib.hid (row_below RV.out Bc.out)
      have Oa := Lib.hid (show World.ownsRow (V.alloc (.cells #[] rO)).drew V.heap.size rO 8 (.slice (some ⟨V.heap.size, 0, none⟩) 0 0) 0 [] from row_built (e := rO) (sz := 8) V #[] 0 0 rfl (Nat.le_refl _) (Nat.zero_le _) V.heap.size (Nat.le_refl _) _ rfl [] rfl)
      have Ob := Lib.hid (show World.ownsRow ((V.alloc (.cells #[.string nm, .int .i64 kd, .int .i64 ty, .int .i64 s.lev, .int .i32 nn, .int .i64 md, .bool ou, .slice Ap ps.length cp] rO)).alloc (.cells #[] rO)).drew V.heap.size rO 8 (.slice (some ⟨V.heap.size + 1, 0, none⟩) 0 0) 0 [] from row_built (e := rO) (sz := 8) (V.alloc (.cells #[.string nm, .int .i64 kd, .int .i64 ty, .int .i64 s.lev, .int .i32 nn, .int .i64 md, .bool ou, .slice Ap ps.length cp] rO)) #[] 0 0 rfl (Nat.le_refl _) (Nat.zero_le _) V.heap.size (by rw [SZ.out]; omega) _ (by rw [SZ.out]) [] rfl)
      have Oc := Lib.hid (show World.ownsRow ((V.alloc (.cells #[] rO)).alloc (.cells #[.string nm, .int .i64 kd, .int .i64 ty, .int .i64 s.lev, .int .i32 nn, .int .i64 md, .bool ou, .slice Ap ps.length cp] rO)).drew V.heap.size rO 8 (.slice (some ⟨V.heap.size, 0, none⟩) 0 0) 0 [] from World.ownsRow.alloc Oa.out (.cells #[.string nm, .int .i64 kd, .int .i64 ty, .int .i64 s.lev, .int .i32 nn, .int .i64 md, .bool ou, .slice Ap ps.length cp] rO))
      have Xb := Lib.hid (show Whole ((V.alloc (.cells #[.string nm, .int .i64 kd, .int .i64 ty, .int .i64 s.lev, .int .i32 nn, .int .i64 md, .bool ou, .slice Ap ps.length cp] rO)).alloc (.cells #[] rO)).drew V.heap.size rO #[.string nm, .int .i64 kd, .int .i64 ty, .int .i64 s.lev, .int .i32 nn, .int .i64 md, .bool ou, .slice Ap ps.length cp] from (Whole.made V rO #[.string nm, .int .i64 kd, .int .i64 ty, .int .i64 s.lev, .int .i32 nn, .int .i64 md, .bool ou, .slice Ap ps.length cp] _ rfl).alloc (.cells #[] rO))
      have Xc := Lib.hid (show Whole ((V.alloc (.cells #[] rO)).alloc (.cells #[.string nm, .int .i64 kd, .int .i64 ty, .int .i64 s.lev, .int .i32 nn, .int .i64 md, .bool ou, .slice Ap ps.length cp] rO)).drew (V.heap.size + 1) rO #[.string nm, .int .i64 kd, .int .i64 ty, .int .i64 s.lev, .int .i32 nn, .int .i64 md, .bool ou, .slice Ap ps.length cp] from Whole.made (V.alloc (.cells #[] rO)) rO #[.string nm, .int .i64 kd, .int .i64 ty, .int .i64 s.lev, .int .i32 nn, .int .i64 md, .bool ou, .slice Ap ps.length cp] _ (by rw [SE.out]))
      have Za : V.heap.size ≤ (V.alloc (.cells #[] rO)).drew.heap.size := Ba.out.size
      have Zb : V.heap.size ≤ ((V.alloc (.cells #[.string nm, .int .i64 kd, .int .i64 ty, .int .i64 s.lev, .int .i32 nn, .int .i64 md, .bool ou, .slice Ap ps.length cp] rO)).alloc (.cells #[] rO)).drew.heap.size := Bb.out.size
      have Zc : V.heap.size ≤ ((V.alloc (.cells #[] rO)).alloc (.cells #[.string nm, .int .i64 kd, .int .i64 ty, .int .i64 s.lev, .int .i32 nn, .int .i64 md, .bool ou, .slice Ap ps.length cp] rO)).drew.heap.size := Bc.out.size
      have hN : 0 + s.L.length ≤ maxLen := by unfold maxLen; omega
      have hM : s.L.length + 1 ≤ maxLen := by unfold maxLen; omega
      clear ba bx
      go_region_law (first
        | (refine step_app_any rfl (.tmp 51) (.tmp 53) 25 rfl V.heap.size rO i0 _ 8 88 Try.underlying25 hi0 hz0 hz1 hz2 rfl (by decide) (.slice (some ⟨V.heap.size, 0, none⟩) 0 0) 0 [] rfl Oa.out (.slice AL s.L.length cL) s.L.length _ rfl Ra.out ONE.out hN (by omega) Za ?_; intro v6 w6 ho6 hg6 hat6; rw [Nat.zero_add, List.nil_append] at ho6; have hform := row_form ho6; obtain ⟨A6, c6, rfl⟩ := hform; have B6 := Lib.hid (below_row Ba.out Oa.out hg6 Za); have Z6 : V.heap.size ≤ w6.heap.size := B6.out.size; have d0 : w6.cell? ⟨w.heap.size + 1, 0, none⟩ = some (.string nm) := (XX.out.below B6.out XX.out.lt).cell 0; have d1 : w6.cell? ⟨w.heap.size + 1, 1, none⟩ = some (.int .i64 kd) := (XX.out.below B6.out XX.out.lt).cell 1; have d2 : w6.cell? ⟨w.heap.size + 1, 2, none⟩ = some (.int .i64 ty) := (XX.out.below B6.out XX.out.lt).cell 2; have d3 : w6.cell? ⟨w.heap.size + 1, 3, none⟩ = some (.int .i64 s.lev) := (XX.out.below B6.out XX.out.lt).cell 3; have d4 : w6.cell? ⟨w.heap.size + 1, 4, none⟩ = some (.int .i32 nn) := (XX.out.below B6.out XX.out.lt).cell 4; have d5 : w6.cell? ⟨w.heap.size + 1, 5, none⟩ = some (.int .i64 md) := (XX.out.below B6.out XX.out.lt).cell 5; have d6 : w6.cell? ⟨w.heap.size + 1, 6, none⟩ = some (.bool ou) := (XX.out.below B6.out XX.out.lt).cell 6; have d7 : w6.cell? ⟨w.heap.size + 1, 7, none⟩ = some (.slice Ap ps.length cp) := (XX.out.below B6.out XX.out.lt).cell 7; have O7 := Lib.hid (World.ownsRow.alloc ho6 (.cells #[.string nm, .int .i64 kd, .int .i64 ty, .int .i64 s.lev, .int .i32 nn, .int .i64 md, .bool ou, .slice Ap ps.length cp] rO)); have B7 := Lib.hid (B6.out.alloc Z6 (.cells #[.string nm, .int .i64 kd, .int .i64 ty, .int .i64 s.lev, .int .i32 nn, .int .i64 md, .bool ou, .slice Ap ps.length cp] rO)); have N7 := Lib.hid (show ∀ (j : Nat) u, ([.string nm, .int .i64 kd, .int .i64 ty, .int .i64 s.lev, .int .i32 nn, .int .i64 md, .bool ou, .slice Ap ps.length cp] : List Value)[j]? = some u → (w6.alloc (.cells #[.string nm, .int .i64 kd, .int .i64 ty, .int .i64 s.lev, .int .i32 nn, .int .i64 md, .bool ou, .slice Ap ps.length cp] rO)).cell? ((⟨w6.heap.size, 0, none⟩ : Addr).add j) = some u from fun j u hj => by rw [Go.WideShapes.add_plain, Nat.zero_add]; exact ((Whole.made w6 rO #[.string nm, .int .i64 kd, .int .i64 ty, .int .i64 s.lev, .int .i32 nn, .int .i64 md, .bool ou, .slice Ap ps.length cp] _ rfl).cell j).trans (by simpa using hj)); have Z7 : V.heap.size ≤ (w6.alloc (.cells #[.string nm, .int .i64 kd, .int .i64 ty, .int .i64 s.lev, .int .i32 nn, .int .i64 md, .bool ou, .slice Ap ps.length cp] rO)).heap.size := B7.out.size; clear ho6 hg6 hat6)
        | (refine step_app_any rfl (.tmp 51) (.tmp 53) 25 rfl V.heap.size rO i0 _ 8 88 Try.underlying25 hi0 hz0 hz1 hz2 rfl (by decide) (.slice (some ⟨V.heap.size + 1, 0, none⟩) 0 0) 0 [] rfl Ob.out (.slice AL s.L.length cL) s.L.length _ rfl Rb.out ONE.out hN (by omega) Zb ?_; intro v6 w6 ho6 hg6 hat6; rw [Nat.zero_add, List.nil_append] at ho6; have hform := row_form ho6; obtain ⟨A6, c6, rfl⟩ := hform; have B6 := Lib.hid (below_row Bb.out Ob.out hg6 Zb); have Z6 : V.heap.size ≤ w6.heap.size := B6.out.size; have Pb := Lib.hid ho6; have Nb := Lib.hid (show ∀ (j : Nat) u, ([.string nm, .int .i64 kd, .int .i64 ty, .int .i64 s.lev, .int .i32 nn, .int .i64 md, .bool ou, .slice Ap ps.length cp] : List Value)[j]? = some u → w6.cell? ((⟨V.heap.size, 0, none⟩ : Addr).add j) = some u from fun j u hj => by rw [Go.WideShapes.add_plain, Nat.zero_add]; exact (show w6.cell? ⟨V.heap.size, j, none⟩ = _ from (World.cell?_of_block (a := ⟨V.heap.size, j, none⟩) (hg6.block (V.heap.size) Xb.out.lt (by simp [Value.ownBlock]))).trans (Xb.out.cell j)).trans (by simpa using hj)); clear ho6 hg6 hat6)
        | (refine step_app_any rfl (.tmp 51) (.tmp 53) 25 rfl V.heap.size rO i0 _ 8 88 Try.underlying25 hi0 hz0 hz1 hz2 rfl (by decide) (.slice (some ⟨V.heap.size, 0, none⟩) 0 0) 0 [] rfl Oc.out (.slice AL s.L.length cL) s.L.length _ rfl Rc.out ONE.out hN (by omega) Zc ?_; intro v6 w6 ho6 hg6 hat6; rw [Nat.zero_add, List.nil_append] at ho6; have hform := row_form ho6; obtain ⟨A6, c6, rfl⟩ := hform; have B6 := Lib.hid (below_row Bc.out Oc.out hg6 Zc); have Z6 : V.heap.size ≤ w6.heap.size := B6.out.size; have Pc := Lib.hid ho6; have Nc := Lib.hid (show ∀ (j : Nat) u, ([.string nm, .int .i64 kd, .int .i64 ty, .int .i64 s.lev, .int .i32 nn, .int .i64 md, .bool ou, .slice Ap ps.length cp] : List Value)[j]? = some u → w6.cell? ((⟨V.heap.size + 1, 0, none⟩ : Addr).add j) = some u from fun j u hj => by rw [Go.WideShapes.add_plain, Nat.zero_add]; exact (show w6.cell? ⟨V.heap.size + 1, j, none⟩ = _ from (World.cell?_of_block (a := ⟨V.heap.size + 1, j, none⟩) (hg6.block (V.heap.size + 1) Xc.out.lt (by simp [Value.ownBlock]))).trans (Xc.out.cell j)).trans (by simpa using hj)); clear ho6 hg6 hat6)
        | (refine step_app rfl (.tmp 54) (.tmp 56) 25 rfl V.heap.size rO i0 _ 8 88 Try.underlying25 hi0 hz0 hz1 hz2 rfl (by decide) (.slice A6 s.L.length c6) s.L.length _ rfl O7.out ⟨w6.heap.size, 0, none⟩ 1 1 [.string nm, .int .i64 kd, .int .i64 ty, .int .i64 s.lev, .int .i32 nn, .int .i64 md, .bool ou, .slice Ap ps.length cp] rfl rfl N7.out (fun u hu => by simp at hu; rcases hu with rfl | rfl | rfl | rfl | rfl | rfl | rfl | rfl <;> rfl) hM (by omega) Z7 ?_; intro v8 w8 ho8 hg8 hat8; have hform := row_form ho8; obtain ⟨A8, c8, rfl⟩ := hform; have B8 := Lib.hid (below_row B7.out O7.out hg8 Z7); have O8 := Lib.hid ho8; have Q8 := Lib.hid (XQ.out.below B8.out XQ.out.lt); have m0 : w8.cell? ⟨w.heap.size, 0, none⟩ = some (.slice AL s.L.length cL) := Q8.out.cell 0; have m1 : w8.frozen? ⟨w.heap.size, 0, none⟩ = false := Q8.out.free 0; clear ho8 hg8 hat8)
        | (refine step_app rfl (.tmp 54) (.tmp 56) 25 rfl V.heap.size rO i0 _ 8 88 Try.underlying25 hi0 hz0 hz1 hz2 rfl (by decide) (.slice A6 s.L.length c6) s.L.length _ rfl Pb.out ⟨V.heap.size, 0, none⟩ 1 1 [.string nm, .int .i64 kd, .int .i64 ty, .int .i64 s.lev, .int .i32 nn, .int .i64 md, .bool ou, .slice Ap ps.length cp] rfl rfl Nb.out (fun u hu => by simp at hu; rcases hu with rfl | rfl | rfl | rfl | rfl | rfl | rfl | rfl <;> rfl) hM (by omega) Z6 ?_; intro v8 w8 ho8 hg8 hat8; have hform := row_form ho8; obtain ⟨A8, c8, rfl⟩ := hform; have B8 := Lib.hid (below_row B6.out Pb.out hg8 Z6); have O8 := Lib.hid ho8; have Q8 := Lib.hid (XQ.out.below B8.out XQ.out.lt); have m0 : w8.cell? ⟨w.heap.size, 0, none⟩ = some (.slice AL s.L.length cL) := Q8.out.cell 0; have m1 : w8.frozen? ⟨w.heap.size, 0, none⟩ = false := Q8.out.free 0; clear ho8 hg8 hat8)
        | (refine step_app rfl (.tmp 54) (.tmp 56) 25 rfl V.heap.size rO i0 _ 8 88 Try.underlying25 hi0 hz0 hz1 hz2 rfl (by decide) (.slice A6 s.L.length c6) s.L.length _ rfl Pc.out ⟨V.heap.size + 1, 0, none⟩ 1 1 [.string nm, .int .i64 kd, .int .i64 ty, .int .i64 s.lev, .int .i32 nn, .int .i64 md, .bool ou, .slice Ap ps.length cp] rfl rfl Nc.out (fun u hu => by simp at hu; rcases hu with rfl | rfl | rfl | rfl | rfl | rfl | rfl | rfl <;> rfl) hM (by omega) Z6 ?_; intro v8 w8 ho8 hg8 hat8; have hform := row_form ho8; obtain ⟨A8, c8, rfl⟩ := hform; have B8 := Lib.hid (below_row B6.out Pc.out hg8 Z6); have O8 := Lib.hid ho8; have Q8 := Lib.hid (XQ.out.below B8.out XQ.out.lt); have m0 : w8.cell? ⟨w.heap.size, 0, none⟩ = some (.slice AL s.L.length cL) := Q8.out.cell 0; have m1 : w8.frozen? ⟨w.heap.size, 0, none⟩ = false := Q8.out.free 0; clear ho8 hg8 hat8))
      all_goals
        clear cx0 cx1 cx2 cx3 cx4 cx5 cx6 cx7 ax0 ax1 ax2 ax3 ax4 ax5 ax6 ax7 l0 la lb lbb lbc Ra Rb Rc Oa Ob Oc Xb Xc Za Zb Zc Ba Bb Bc SZ SE RV ONE
        have R8 := Lib.hid (XR.out.below B8.out XR.out.lt)
        have Q9 := Lib.hid (show Whole (w8.setCell ⟨w.heap.size, 0, none⟩ (.slice A8 (s.L.length + 1) c8)) w.heap.size rS #[.slice A8 (s.L.length + 1) c8, .int .i64 s.lev, .slice AM s.mods.length cM] from Q8.out.store 0 _)
        have R9 := Lib.hid (show Whole (w8.setCell ⟨w.heap.size, 0, none⟩ (.slice A8 (s.L.length + 1) c8)) (w.heap.size + 1 + 1) rS #[.slice none 0 0, .int .i64 0, .slice none 0 0] from R8.out.far (p := ⟨w.heap.size, 0, none⟩) (by show w.heap.size + 1 + 1 ≠ w.heap.size; omega) _)
        have S3 : (Try.prog.info? rS).map (·.size) = some 3 := by kernel_rfl
        have H1 := Lib.hid (show (#[.slice A8 (s.L.length + 1) c8, .int .i64 s.lev, .slice AM s.mods.length cM] : Array Value).all (·.oneCell') = true from by simp [Value.oneCell'])
        have x0 : (w8.setCell ⟨w.heap.size, 0, none⟩ (.slice A8 (s.L.length + 1) c8)).cell? ⟨w.heap.size, 0, none⟩ = some (.slice A8 (s.L.length + 1) c8) := Q9.out.cell 0
        have x1 : (w8.setCell ⟨w.heap.size, 0, none⟩ (.slice A8 (s.L.length + 1) c8)).cell? ⟨w.heap.size, 1, none⟩ = some (.int .i64 s.lev) := Q9.out.cell 1
        have x2 : (w8.setCell ⟨w.heap.size, 0, none⟩ (.slice A8 (s.L.length + 1) c8)).cell? ⟨w.heap.size, 2, none⟩ = some (.slice AM s.mods.length cM) := Q9.out.cell 2
        repeat (first | (go_big_may; first | (refine wpList_store_row rfl rS (.tmp 4) (.tmp 59) rfl (w.heap.size + 1 + 1) #[.slice A8 (s.L.length + 1) c8, .int .i64 s.lev, .slice AM s.mods.length cM] rfl rfl rS #[.slice none 0 0, .int .i64 0, .slice none 0 0] R9.out S3 rfl H1.out ?_; generalize hZZ : ((w8.setCell ⟨w.heap.size, 0, none⟩ (.slice A8 (s.L.length + 1) c8))).setRow (w.heap.size + 1 + 1) #[.slice A8 (s.L.length + 1) c8, .int .i64 s.lev, .slice AM s.mods.length cM] = ZZ; have HZZ := Lib.hid hZZ; clear hZZ)) | go_values | go_skip | go_guarded | go_step | go_upon)
        have SX := Lib.hid (R9.out.setRow #[.slice A8 (s.L.length + 1) c8, .int .i64 s.lev, .slice AM s.mods.length cM])
        rw [HZZ.out] at SX
        clear x0 x1 x2 m0 m1 S3 H1
        have K := (KeptS.set (S := fun k => k = w.heap.size ∨ k = w.heap.size + 1 + 1) (w := w8) (g := w.heap.size) (j := 0) (u := .slice A8 (s.L.length + 1) c8) (.inl rfl)).trans (KeptS.grown (S := fun k => k = w.heap.size ∨ k = w.heap.size + 1 + 1) SX.out.2 (fun b hb => .inr (Option.some.inj hb).symm)) (fun _ h => .inl h)
        have BZ : Below w.heap.size w ZZ := KeptS.below (BV.out.trans (B8.out.mono BV.out.size)) K (by have := BVS.out; have := B8.out.size; omega) (fun k hk => by rcases hk with rfl | rfl <;> omega)
        have OZ := K.row O8.out (fun b hb hs => by
          have h1 := (row_block O8.out hb).1
          have h2 := HQV.out
          rcases hs with rfl | rfl <;> omega)
        have HN := H0.out.below BZ
        have HF := Lib.hid (show RefPost B w ({ s with L := s.L ++ [({ nm := nm, kd := kd, ty := ty, lv := s.lev, nn := nn, md := md, ou := ou, ps := ps } : Ob)] }, 0) (.returned (.tuple #[.agg #[.slice A8 (s.L.length + 1) c8, .int .i64 s.lev, .slice AM s.mods.length cM], .int .i64 0])) ZZ from ⟨A8, c8, lx ++ [(({ nm := nm, kd := kd, ty := ty, lv := s.lev, nn := nn, md := md, ou := ou, ps := ps } : Ob), Value.slice Ap ps.length cp)], AM, cM, mx, by rw [List.length_append, List.length_singleton], ⟨⟨by
            show World.ownsRow _ B rO 8 (.slice A8 (s.L ++ [({ nm := nm, kd := kd, ty := ty, lv := s.lev, nn := nn, md := md, ou := ou, ps := ps } : Ob)]).length c8) (lx ++ [(({ nm := nm, kd := kd, ty := ty, lv := s.lev, nn := nn, md := md, ou := ou, ps := ps } : Ob), Value.slice Ap ps.length cp)]).length ((lx ++ [(({ nm := nm, kd := kd, ty := ty, lv := s.lev, nn := nn, md := md, ou := ou, ps := ps } : Ob), Value.slice Ap ps.length cp)]).flatMap oxCells)
            rw [List.length_append, List.length_singleton, List.length_append, List.length_singleton, HL.out, List.flatMap_append, List.flatMap_singleton]
            exact row_more OZ (Nat.le_trans HB.out BVS.out), fun x hx => by
            rcases List.mem_append.1 hx with hx | hx
            · exact HN.rows.par x hx
            · obtain rfl := List.mem_singleton.1 hx
              exact HP0.out.below BZ⟩, by rw [List.map_append, HN.same]; rfl, HN.mods, HN.mrows, HN.msame⟩, BZ⟩)
        have W9 := SX.out.1
        clear BZ OZ HN K SX Q9 R9 R8 Q8 O8 B8
        have y0 : ZZ.cell? ⟨w.heap.size + 1 + 1, 0, none⟩ = some (.slice A8 (s.L.length + 1) c8) := W9.cell 0
        have y1 : ZZ.cell? ⟨w.heap.size + 1 + 1, 1, none⟩ = some (.int .i64 s.lev) := W9.cell 1
        have y2 : ZZ.cell? ⟨w.heap.size + 1 + 1, 2, none⟩ = some (.slice AM s.mods.length cM) := W9.cell 2
        refine bodyPost_ret (v := .tuple #[.agg #[.slice A8 (s.L.length + 1) c8, .int .i64 s.lev, .slice AM s.mods.length cM], .int .i64 0]) ?_ rfl HF.out
        clear HF W9
        simp [results, Try.results31, go_sem, y0, y1, y2]

theorem refdecl_any (B : Nat) (AL : Option Addr) (cL : Nat) (lx : List Ox) (AM : Option Addr) (cM : Nat) (mx : List (Value × List Ox)) (s : Stt) (nm : ByteArray) (kd ty lv nn md : Int) (ou : Bool) (ps : List (Int × Bool)) (Ap : Option Addr) (cp : Nat) (w : World) (h : RefIn w B AL cL lx AM cM mx s) (hp : ParV B w (.slice Ap ps.length cp) ps) (hB : B ≤ w.heap.size) (hlen : s.L.length ≤ 1000) :
    Calls Try.prog 31 #[.agg #[.slice AL s.L.length cL, .int .i64 s.lev, .slice AM s.mods.length cM], .agg #[.string nm, .int .i64 kd, .int .i64 ty, .int .i64 lv, .int .i32 nn, .int .i64 md, .bool ou, .slice Ap ps.length cp]] w (RefPost B w (declP s ⟨nm, kd, ty, lv, nn, md, ou, ps⟩)) := by
  by_cases hb : nm.size = 0 ∨ 32 < nm.size
  · exact refdecl_name B AL cL lx AM cM mx s nm kd ty lv nn md ou ps Ap cp w h hp hB hlen hb
  · cases hh : hasP s s.lev nm with
    | none => exact refdecl_ok B AL cL lx AM cM mx s nm kd ty lv nn md ou ps Ap cp w h hp hB hlen hb hh
    | some x => exact refdecl_twice B AL cL lx AM cM mx s nm kd ty lv nn md ou ps Ap cp w h hp hB hlen hb (by rw [hh]; rfl)
end Go.Proofs.Ytpfoebnlngfebaa
