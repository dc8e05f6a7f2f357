/- Scopes: the answers' Change. -/
import Derived.Test.YtpfoebnlngfebaaScpO
import Derived.Test.YtpfoebnlngfebaaScpP
import Derived.Deep.MidRow
namespace Go.Proofs.Ytpfoebnlngfebaa
open Go.ChangeShapes Go.WideShapes Go.ChangeAt Go.RowKit
set_option linter.unusedVariables false
set_option linter.unusedSimpArgs false

theorem at_idx2 (s : Stt) (n : Int) (nm : ByteArray) : (s.L.find? (atP n nm) = none ∧ idxF (atP n nm) s.L 0 = -1) ∨ ∃ m, m < s.L.length ∧ idxF (atP n nm) s.L 0 = (m : Int) ∧ s.L.find? (atP n nm) ≠ none := by
  rcases idxF_find (atP n nm) zO s.L 0 with ⟨h1, h2⟩ | ⟨m, h0, h1, h2, _⟩
  · exact .inl ⟨h1, h2⟩
  · exact .inr ⟨m, h0, by rw [h1]; congr 1; omega, by rw [h2]; exact fun e => by cases e⟩

set_option maxHeartbeats 16000000 in
set_option maxRecDepth 100000 in
theorem refchange_none (B : Nat) (AL : Option Addr) (cL : Nat) (lx : List Ox) (AM : Option Addr) (cM : Nat) (mx : List (Value × List Ox)) (s : Stt) (n : Int) (nm : ByteArray) (kd ty lv nn md : Int) (ou : Bool) (ps : List (Int × Bool)) (Ap : Option Addr) (cp : Nat) (w : World) (h : RefIn w B AL cL lx AM cM mx s) (hp : ParV B w (.slice Ap ps.length cp) ps) (hB : B ≤ w.heap.size) (hlen : s.L.length ≤ 1000) (hx : s.L.find? (atP n nm) = none) :
    Calls Try.prog 34 #[.agg #[.slice AL s.L.length cL, .int .i64 s.lev, .slice AM s.mods.length cM], .int .i64 n, .agg #[.string nm, .int .i64 kd, .int .i64 ty, .int .i64 lv, .int .i32 nn, .int .i64 md, .bool ou, .slice Ap ps.length cp]] w (RefPost B w (changeP s n ⟨nm, kd, ty, lv, nn, md, ou, ps⟩)) := by
  have DP : changeP s n ⟨nm, kd, ty, lv, nn, md, ou, ps⟩ = (s, 110) := if_pos hx
  rw [DP]
  clear DP
  have b1 := (Below.refl w.heap.size w).alloc (Nat.le_refl _) (.cells #[.slice AL s.L.length cL, .int .i64 s.lev, .slice AM s.mods.length cM] rS)
  have b2 := b1.alloc b1.size (.cells #[.string nm, .int .i64 kd, .int .i64 ty, .int .i64 lv, .int .i32 nn, .int .i64 md, .bool ou, .slice Ap ps.length cp] rO)
  have b3 := b2.alloc b2.size (.cells #[.slice none 0 0, .int .i64 0, .slice none 0 0] rS)
  have BV := Lib.hid b3
  have X1 := Lib.hid (((Whole.made w rS #[.slice AL s.L.length cL, .int .i64 s.lev, .slice AM s.mods.length cM] _ rfl).alloc (.cells #[.string nm, .int .i64 kd, .int .i64 ty, .int .i64 lv, .int .i32 nn, .int .i64 md, .bool ou, .slice Ap ps.length cp] rO)).alloc (.cells #[.slice none 0 0, .int .i64 0, .slice none 0 0] rS))
  have X2 := Lib.hid ((Whole.made (w.alloc (.cells #[.slice AL s.L.length cL, .int .i64 s.lev, .slice AM s.mods.length cM] rS)) rO #[.string nm, .int .i64 kd, .int .i64 ty, .int .i64 lv, .int .i32 nn, .int .i64 md, .bool ou, .slice Ap ps.length cp] (w.heap.size + 1) (by simp)).alloc (.cells #[.slice none 0 0, .int .i64 0, .slice none 0 0] rS))
  have X3 := Lib.hid (Whole.made ((w.alloc (.cells #[.slice AL s.L.length cL, .int .i64 s.lev, .slice AM s.mods.length cM] rS)).alloc (.cells #[.string nm, .int .i64 kd, .int .i64 ty, .int .i64 lv, .int .i32 nn, .int .i64 md, .bool ou, .slice Ap ps.length cp] rO)) rS #[.slice none 0 0, .int .i64 0, .slice none 0 0] (w.heap.size + 1 + 1) (by simp))
  have AX := Lib.hid (at_any B AL cL lx AM cM mx s n nm (((w.alloc (.cells #[.slice AL s.L.length cL, .int .i64 s.lev, .slice AM s.mods.length cM] rS)).alloc (.cells #[.string nm, .int .i64 kd, .int .i64 ty, .int .i64 lv, .int .i32 nn, .int .i64 md, .bool ou, .slice Ap ps.length cp] rO)).alloc (.cells #[.slice none 0 0, .int .i64 0, .slice none 0 0] rS)) (h.below b3) hlen)
  have HIX := Lib.hid (at_idx2 s n nm)
  have HB := Lib.hid hB
  have HL := Lib.hid h.len.1
  have H0 := Lib.hid h
  have HP0 := Lib.hid hp
  clear h hp b1 b2 b3 hB
  generalize hxi : idxF (atP n nm) s.L 0 = xi at *
  go_enter Try.func34, Try.ntmps34
  go_wp2_with fail
  generalize (((w.alloc (.cells #[.slice AL s.L.length cL, .int .i64 s.lev, .slice AM s.mods.length cM] rS)).alloc (.cells #[.string nm, .int .i64 kd, .int .i64 ty, .int .i64 lv, .int .i32 nn, .int .i64 md, .bool ou, .slice Ap ps.length cp] rO)).alloc (.cells #[.slice none 0 0, .int .i64 0, .slice none 0 0] rS)) = V at *
  refine AX.out.mono ?_
  rintro e w2 ⟨rfl, hb2⟩
  have B2 := Lib.hid (BV.out.trans (hb2.mono BV.out.size))
  have Y1 := Lib.hid (X1.out.below hb2 X1.out.lt)
  have Y2 := Lib.hid (X2.out.below hb2 X2.out.lt)
  have Y3 := Lib.hid (X3.out.below hb2 X3.out.lt)
  clear hb2 AX X1 X2 X3 BV
  simp only []
  go_at_K
  have hxi0 : xi = -1 := by
    rcases HIX.out with ⟨_, h1⟩ | ⟨m, _, _, h2⟩
    · exact h1
    · exact absurd hx h2
  subst hxi0
  clear hx HIX hxi
  have S3 : (Try.prog.info? rS).map (·.size) = some 3 := by kernel_rfl
  have H1 := Lib.hid (show (#[.slice AL s.L.length cL, .int .i64 s.lev, .slice AM s.mods.length cM] : Array Value).all (·.oneCell') = true from by simp [Value.oneCell'])
  have x0 : w2.cell? ⟨w.heap.size, 0, none⟩ = some (.slice AL s.L.length cL) := Y1.out.cell 0
  have x1 : w2.cell? ⟨w.heap.size, 1, none⟩ = some (.int .i64 s.lev) := Y1.out.cell 1
  have x2 : w2.cell? ⟨w.heap.size, 2, none⟩ = some (.slice AM s.mods.length cM) := Y1.out.cell 2
  repeat (first | (go_big_may; first | (refine wpList_store_row rfl rS (.tmp 6) (.tmp 17) rfl (w.heap.size + 1 + 1) #[.slice AL s.L.length cL, .int .i64 s.lev, .slice AM s.mods.length cM] rfl rfl rS #[.slice none 0 0, .int .i64 0, .slice none 0 0] Y3.out S3 rfl H1.out ?_; generalize hZZ : (w2).setRow (w.heap.size + 1 + 1) #[.slice AL s.L.length cL, .int .i64 s.lev, .slice AM s.mods.length cM] = ZZ; have HZZ := Lib.hid hZZ; clear hZZ)) | go_values | go_skip | go_guarded | go_step | go_upon)
  have SX := Lib.hid (Y3.out.setRow #[.slice AL s.L.length cL, .int .i64 s.lev, .slice AM s.mods.length cM])
  rw [HZZ.out] at SX
  clear x0 x1 x2 S3 H1
  have BZ : Below w.heap.size w ZZ := B2.out.grown SX.out.2 B2.out.size (fun b hb => by injection hb with hb; omega)
  have HF := Lib.hid (show RefPost B w (s, 110) (.returned (.tuple #[.agg #[.slice AL s.L.length cL, .int .i64 s.lev, .slice AM s.mods.length cM], .int .i64 110])) ZZ from ⟨AL, cL, lx, AM, cM, mx, rfl, H0.out.below BZ, BZ⟩)
  have W9 := SX.out.1
  clear BZ SX
  have y0 : ZZ.cell? ⟨w.heap.size + 1 + 1, 0, none⟩ = some (.slice AL s.L.length cL) := W9.cell 0
  have y1 : ZZ.cell? ⟨w.heap.size + 1 + 1, 1, none⟩ = some (.int .i64 s.lev) := W9.cell 1
  have y2 : ZZ.cell? ⟨w.heap.size + 1 + 1, 2, none⟩ = some (.slice AM s.mods.length cM) := W9.cell 2
  refine bodyPost_ret (v := .tuple #[.agg #[.slice AL s.L.length cL, .int .i64 s.lev, .slice AM s.mods.length cM], .int .i64 110]) ?_ rfl HF.out
  clear HF W9
  simp [results, Try.results34, go_sem, y0, y1, y2]

theorem rown_some {w : World} {B : Nat} {e : TypeId} {sz : Nat} {v : Value} {n : Nat} {xs : List Value} (h : w.ownsRow B e sz v n xs) (hn : 0 < n) : ∃ g c, v = .slice (some ⟨g, 0, none⟩) n c := by
  rcases h.2 with ⟨_, h2⟩ | ⟨g, cap, cur, h1, _⟩
  · omega
  · exact ⟨g, cap, h1⟩

theorem row_far {w : World} {B : Nat} {e : TypeId} {sz : Nat} {v : Value} {n : Nat} {xs : List Value} {g : Nat} (h : w.ownsRow B e sz v n xs) (hg : g < B) (j : Nat) (u : Value) : (w.setCell ⟨g, j, none⟩ u).ownsRow B e sz v n xs :=
  World.ownsRow.kept h (grown_set w g j u) (.inr (fun e => by have := (row_block h e).1; omega))

theorem there_row {w : World} {B : Nat} {e : TypeId} {g n c : Nat} {l : List Ox} (h : w.ownsRow B e 8 (.slice (some ⟨g, 0, none⟩) n c) n (l.flatMap oxCells)) {m : Nat} (hm : m < n) : w.there g (m * 8) 8 := by
  obtain ⟨_, g', hA, _, _, hc⟩ := row_cell (f := oxCells) (fun _ => rfl) zX h (row_len h) hm
  injection hA with hA
  injection hA with hA _ _
  subst hA
  exact fun j hj => ⟨by rw [(hc j hj).1, List.getElem?_eq_getElem (by simpa [oxCells] using hj)]; rfl, (hc j hj).2⟩

theorem kept_setCells {S : Nat → Prop} {g : Nat} (hS : S g) : ∀ (vs : List Value) (o : Nat) (w : World), KeptS S w (w.setCells g o vs)
  | [], _, w => KeptS.ofBelow (Below.refl _ _)
  | v :: r, o, w => by
    rw [World.setCells]
    exact (KeptS.set hS).trans (kept_setCells hS r (o + 1) _) (fun _ h => .inl h)

theorem mid_kept {w Z : World} {B : Nat} {e : TypeId} {sz : Nat} {n c g q o j : Nat} {xs cs : List Value} {u : Value} (h : w.ownsRow B e sz (.slice (some ⟨g, 0, none⟩) n c) n xs) (hz : (w.setCell ⟨q, j, none⟩ u).setCells g o cs = Z) : KeptS (fun k => k = q ∨ B ≤ k) w Z := by
  subst hz
  exact (KeptS.set (S := fun k => k = q ∨ B ≤ k) (.inl rfl)).trans (kept_setCells (S := fun k => k = q ∨ B ≤ k) (.inr (row_block h (b := g) rfl).1) _ _ _) (fun _ h => .inl h)

set_option maxHeartbeats 16000000 in
set_option maxRecDepth 100000 in
theorem refchange_ok (B : Nat) (AL : Option Addr) (cL : Nat) (lx : List Ox) (AM : Option Addr) (cM : Nat) (mx : List (Value × List Ox)) (s : Stt) (n : Int) (nm : ByteArray) (kd ty lv nn md : Int) (ou : Bool) (ps : List (Int × Bool)) (Ap : Option Addr) (cp : Nat) (w : World) (h : RefIn w B AL cL lx AM cM mx s) (hp : ParV B w (.slice Ap ps.length cp) ps) (hB : B ≤ w.heap.size) (hlen : s.L.length ≤ 1000) (hx : s.L.find? (atP n nm) ≠ none) :
    Calls Try.prog 34 #[.agg #[.slice AL s.L.length cL, .int .i64 s.lev, .slice AM s.mods.length cM], .int .i64 n, .agg #[.string nm, .int .i64 kd, .int .i64 ty, .int .i64 lv, .int .i32 nn, .int .i64 md, .bool ou, .slice Ap ps.length cp]] w (RefPost B w (changeP s n ⟨nm, kd, ty, lv, nn, md, ou, ps⟩)) := by
  have DP : changeP s n ⟨nm, kd, ty, lv, nn, md, ou, ps⟩ = ({ s with L := replF (atP n nm) ({ nm := nm, kd := kd, ty := ty, lv := n, nn := nn, md := md, ou := ou, ps := ps } : Ob) s.L }, 0) := if_neg hx
  rw [DP]
  clear DP
  have b1 := (Below.refl w.heap.size w).alloc (Nat.le_refl _) (.cells #[.slice AL s.L.length cL, .int .i64 s.lev, .slice AM s.mods.length cM] rS)
  have b2 := b1.alloc b1.size (.cells #[.string nm, .int .i64 kd, .int .i64 ty, .int .i64 lv, .int .i32 nn, .int .i64 md, .bool ou, .slice Ap ps.length cp] rO)
  have b3 := b2.alloc b2.size (.cells #[.slice none 0 0, .int .i64 0, .slice none 0 0] rS)
  have BV := Lib.hid b3
  have X1 := Lib.hid (((Whole.made w rS #[.slice AL s.L.length cL, .int .i64 s.lev, .slice AM s.mods.length cM] _ rfl).alloc (.cells #[.string nm, .int .i64 kd, .int .i64 ty, .int .i64 lv, .int .i32 nn, .int .i64 md, .bool ou, .slice Ap ps.length cp] rO)).alloc (.cells #[.slice none 0 0, .int .i64 0, .slice none 0 0] rS))
  have X2 := Lib.hid ((Whole.made (w.alloc (.cells #[.slice AL s.L.length cL, .int .i64 s.lev, .slice AM s.mods.length cM] rS)) rO #[.string nm, .int .i64 kd, .int .i64 ty, .int .i64 lv, .int .i32 nn, .int .i64 md, .bool ou, .slice Ap ps.length cp] (w.heap.size + 1) (by simp)).alloc (.cells #[.slice none 0 0, .int .i64 0, .slice none 0 0] rS))
  have X3 := Lib.hid (Whole.made ((w.alloc (.cells #[.slice AL s.L.length cL, .int .i64 s.lev, .slice AM s.mods.length cM] rS)).alloc (.cells #[.string nm, .int .i64 kd, .int .i64 ty, .int .i64 lv, .int .i32 nn, .int .i64 md, .bool ou, .slice Ap ps.length cp] rO)) rS #[.slice none 0 0, .int .i64 0, .slice none 0 0] (w.heap.size + 1 + 1) (by simp))
  have AX := Lib.hid (at_any B AL cL lx AM cM mx s n nm (((w.alloc (.cells #[.slice AL s.L.length cL, .int .i64 s.lev, .slice AM s.mods.length cM] rS)).alloc (.cells #[.string nm, .int .i64 kd, .int .i64 ty, .int .i64 lv, .int .i32 nn, .int .i64 md, .bool ou, .slice Ap ps.length cp] rO)).alloc (.cells #[.slice none 0 0, .int .i64 0, .slice none 0 0] rS)) (h.below b3) hlen)
  have HIX := Lib.hid (at_idx2 s n nm)
  have HB := Lib.hid hB
  have HL := Lib.hid h.len.1
  have H0 := Lib.hid h
  have HP0 := Lib.hid hp
  clear h hp b1 b2 b3 hB
  generalize hxi : idxF (atP n nm) s.L 0 = xi at *
  go_enter Try.func34, Try.ntmps34
  go_wp2_with fail
  generalize (((w.alloc (.cells #[.slice AL s.L.length cL, .int .i64 s.lev, .slice AM s.mods.length cM] rS)).alloc (.cells #[.string nm, .int .i64 kd, .int .i64 ty, .int .i64 lv, .int .i32 nn, .int .i64 md, .bool ou, .slice Ap ps.length cp] rO)).alloc (.cells #[.slice none 0 0, .int .i64 0, .slice none 0 0] rS)) = V at *
  refine AX.out.mono ?_
  rintro e w2 ⟨rfl, hb2⟩
  have B2 := Lib.hid (BV.out.trans (hb2.mono BV.out.size))
  have Y1 := Lib.hid (X1.out.below hb2 X1.out.lt)
  have Y2 := Lib.hid (X2.out.below hb2 X2.out.lt)
  have Y3 := Lib.hid (X3.out.below hb2 X3.out.lt)
  clear hb2 AX X1 X2 X3 BV
  simp only []
  go_at_K
  obtain ⟨m, hm, rfl⟩ : ∃ m : Nat, m < s.L.length ∧ xi = (m : Int) := by
    rcases HIX.out with ⟨h1, _⟩ | ⟨m, h0, h1, _⟩
    · exact absurd h1 hx
    · exact ⟨m, h0, h1⟩
  have HXI := Lib.hid hxi
  have HM := Lib.hid hm
  have HN := Lib.hid (show 0 < s.L.length by omega)
  have hmI : (m : Int) < s.L.length := by omega
  have hm0 : ¬ ((m : Int) < 0) := by omega
  clear hx HIX hxi hm
  obtain ⟨i0, hi0, hz0, hz1, hz2⟩ := info_parts rO_info
  have ba := (Below.refl w2.heap.size w2).alloc (Nat.le_refl _) (.cells #[] rO)
  have BA := Lib.hid ba
  have hrv := (H0.out.below (B2.out.trans (ba.mono B2.out.size))).rows
  have ONE := Lib.hid hrv.one
  have hrv2 := hrv.row
  rw [HL.out] at hrv2
  have RV := Lib.hid hrv2
  have OE := Lib.hid (row_built (e := rO) (sz := 8) w2 #[] 0 0 rfl (Nat.le_refl _) (Nat.zero_le _) w2.heap.size (Nat.le_refl _) _ rfl [] rfl)
  have HZA := Lib.hid (show w2.heap.size ≤ (w2.alloc (.cells #[] rO)).heap.size from ba.size)
  have S3 : (Try.prog.info? rS).map (·.size) = some 3 := by kernel_rfl
  have H8 : (Try.prog.info? rO).map (·.size) = some 8 := by kernel_rfl
  have HC1 := Lib.hid (show (#[.string nm, .int .i64 kd, .int .i64 ty, .int .i64 n, .int .i32 nn, .int .i64 md, .bool ou, .slice Ap ps.length cp] : Array Value).all (·.oneCell') = true from by simp [Value.oneCell'])
  have la : (w2.alloc (.cells #[] rO)).cell? ⟨w.heap.size, 0, none⟩ = some (.slice AL s.L.length cL) := (Y1.out.below ba Y1.out.lt).cell 0
  clear ba hrv hrv2
  repeat (first | (go_big_may; first | (at_builtin; refine wp_app_any _ rfl _ _ 25 rfl w2.heap.size rO i0 _ 8 88 Try.underlying25 hi0 hz0 hz1 hz2 rfl (by decide) (.slice (some ⟨w2.heap.size, 0, none⟩) 0 0) 0 [] rfl OE.out (.slice AL s.L.length cL) s.L.length _ rfl RV.out ONE.out (by unfold maxLen; omega) (by omega) HZA.out ?_; intro v6 w6 ho6 hg6 hat6; rw [Nat.zero_add, List.nil_append] at ho6; obtain ⟨g, c6, hv6⟩ := rown_some ho6 HN.out; subst hv6; have B6 := Lib.hid (below_row BA.out OE.out hg6 HZA.out); have O6 := Lib.hid ho6; have Q6 := Lib.hid (Y1.out.below B6.out Y1.out.lt); have X6 := Lib.hid (Y2.out.below B6.out Y2.out.lt); have R6 := Lib.hid (Y3.out.below B6.out Y3.out.lt); have l3 : w6.cell? ⟨w.heap.size + 1, 3, none⟩ = some (.int .i64 lv) := X6.out.cell 3; have f3 : w6.frozen? ⟨w.heap.size + 1, 3, none⟩ = false := X6.out.free 3; have XC := Lib.hid (show Whole (w6.setCell ⟨w.heap.size + 1, 3, none⟩ (.int .i64 n)) (w.heap.size + 1) rO #[.string nm, .int .i64 kd, .int .i64 ty, .int .i64 n, .int .i32 nn, .int .i64 md, .bool ou, .slice Ap ps.length cp] from X6.out.store 3 _); have x0 : (w6.setCell ⟨w.heap.size + 1, 3, none⟩ (.int .i64 n)).cell? ⟨w.heap.size + 1, 0, none⟩ = some (.string nm) := XC.out.cell 0; have x1 : (w6.setCell ⟨w.heap.size + 1, 3, none⟩ (.int .i64 n)).cell? ⟨w.heap.size + 1, 1, none⟩ = some (.int .i64 kd) := XC.out.cell 1; have x2 : (w6.setCell ⟨w.heap.size + 1, 3, none⟩ (.int .i64 n)).cell? ⟨w.heap.size + 1, 2, none⟩ = some (.int .i64 ty) := XC.out.cell 2; have x3 : (w6.setCell ⟨w.heap.size + 1, 3, none⟩ (.int .i64 n)).cell? ⟨w.heap.size + 1, 3, none⟩ = some (.int .i64 n) := XC.out.cell 3; have x4 : (w6.setCell ⟨w.heap.size + 1, 3, none⟩ (.int .i64 n)).cell? ⟨w.heap.size + 1, 4, none⟩ = some (.int .i32 nn) := XC.out.cell 4; have x5 : (w6.setCell ⟨w.heap.size + 1, 3, none⟩ (.int .i64 n)).cell? ⟨w.heap.size + 1, 5, none⟩ = some (.int .i64 md) := XC.out.cell 5; have x6 : (w6.setCell ⟨w.heap.size + 1, 3, none⟩ (.int .i64 n)).cell? ⟨w.heap.size + 1, 6, none⟩ = some (.bool ou) := XC.out.cell 6; have x7 : (w6.setCell ⟨w.heap.size + 1, 3, none⟩ (.int .i64 n)).cell? ⟨w.heap.size + 1, 7, none⟩ = some (.slice Ap ps.length cp) := XC.out.cell 7; have TH := Lib.hid (there_row (row_far O6.out (show w.heap.size + 1 < w2.heap.size from Y2.out.lt) 3 (.int .i64 n)) HM.out); clear ho6 hg6 hat6) | (refine wpList_store_mid rfl rO (.tmp 27) (.tmp 26) rfl g (m * 8) #[.string nm, .int .i64 kd, .int .i64 ty, .int .i64 n, .int .i32 nn, .int .i64 md, .bool ou, .slice Ap ps.length cp] rfl rfl TH.out H8 HC1.out ?_; generalize hZ1 : (w6.setCell ⟨w.heap.size + 1, 3, none⟩ (.int .i64 n)).setCells g (m * 8) [.string nm, .int .i64 kd, .int .i64 ty, .int .i64 n, .int .i32 nn, .int .i64 md, .bool ou, .slice Ap ps.length cp] = Z1; have HZ1 := Lib.hid hZ1; have Z1K := Lib.hid (mid_kept O6.out hZ1); have Q1 := Lib.hid (Z1K.out.whole Q6.out (by show ¬ (w.heap.size = w.heap.size + 1 ∨ w2.heap.size ≤ w.heap.size); have := Y1.out.lt; omega)); have R1 := Lib.hid (Z1K.out.whole R6.out (by show ¬ (w.heap.size + 1 + 1 = w.heap.size + 1 ∨ w2.heap.size ≤ w.heap.size + 1 + 1); have := Y3.out.lt; omega)); have m0 : Z1.cell? ⟨w.heap.size, 0, none⟩ = some (.slice AL s.L.length cL) := Q1.out.cell 0; have m1 : Z1.frozen? ⟨w.heap.size, 0, none⟩ = false := Q1.out.free 0; have Q9 := Lib.hid (show Whole (Z1.setCell ⟨w.heap.size, 0, none⟩ (.slice (some ⟨g, 0, none⟩) s.L.length c6)) w.heap.size rS #[.slice (some ⟨g, 0, none⟩) s.L.length c6, .int .i64 s.lev, .slice AM s.mods.length cM] from Q1.out.store 0 _); have R9 := Lib.hid (show Whole (Z1.setCell ⟨w.heap.size, 0, none⟩ (.slice (some ⟨g, 0, none⟩) s.L.length c6)) (w.heap.size + 1 + 1) rS #[.slice none 0 0, .int .i64 0, .slice none 0 0] from R1.out.far (p := ⟨w.heap.size, 0, none⟩) (by show w.heap.size + 1 + 1 ≠ w.heap.size; omega) _); have q0 : (Z1.setCell ⟨w.heap.size, 0, none⟩ (.slice (some ⟨g, 0, none⟩) s.L.length c6)).cell? ⟨w.heap.size, 0, none⟩ = some (.slice (some ⟨g, 0, none⟩) s.L.length c6) := Q9.out.cell 0; have q1 : (Z1.setCell ⟨w.heap.size, 0, none⟩ (.slice (some ⟨g, 0, none⟩) s.L.length c6)).cell? ⟨w.heap.size, 1, none⟩ = some (.int .i64 s.lev) := Q9.out.cell 1; have q2 : (Z1.setCell ⟨w.heap.size, 0, none⟩ (.slice (some ⟨g, 0, none⟩) s.L.length c6)).cell? ⟨w.heap.size, 2, none⟩ = some (.slice AM s.mods.length cM) := Q9.out.cell 2; clear hZ1) | (refine wpList_store_row rfl rS (.tmp 6) (.tmp 30) rfl (w.heap.size + 1 + 1) #[.slice (some ⟨g, 0, none⟩) s.L.length c6, .int .i64 s.lev, .slice AM s.mods.length cM] rfl rfl rS #[.slice none 0 0, .int .i64 0, .slice none 0 0] R9.out S3 rfl (by simp [Value.oneCell']) ?_; generalize hZZ : (Z1.setCell ⟨w.heap.size, 0, none⟩ (.slice (some ⟨g, 0, none⟩) s.L.length c6)).setRow (w.heap.size + 1 + 1) #[.slice (some ⟨g, 0, none⟩) s.L.length c6, .int .i64 s.lev, .slice AM s.mods.length cM] = ZZ; have HZZ := Lib.hid hZZ; clear hZZ)) | go_values | go_skip | go_guarded | go_step | go_upon)
  have SX := Lib.hid (R9.out.setRow #[.slice (some ⟨g, 0, none⟩) s.L.length c6, .int .i64 s.lev, .slice AM s.mods.length cM])
  rw [HZZ.out] at SX
  have hmx : m < lx.length := by rw [HL.out]; exact HM.out
  have hq2 := Y1.out.lt
  have RT := (row_set8 (row_far O6.out (show w.heap.size + 1 < w2.heap.size from Y2.out.lt) 3 (.int .i64 n)) (fun _ => rfl) zX (({ nm := nm, kd := kd, ty := ty, lv := n, nn := nn, md := md, ou := ou, ps := ps } : Ob), Value.slice Ap ps.length cp) hmx (u0 := .string nm) (u1 := .int .i64 kd) (u2 := .int .i64 ty) (u3 := .int .i64 n) (u4 := .int .i32 nn) (u5 := .int .i64 md) (u6 := .bool ou) (u7 := .slice Ap ps.length cp) rfl).1
  have RZ : Z1.ownsRow w2.heap.size rO 8 (.slice (some ⟨g, 0, none⟩) s.L.length c6) s.L.length ((lx.set m (({ nm := nm, kd := kd, ty := ty, lv := n, nn := nn, md := md, ou := ou, ps := ps } : Ob), Value.slice Ap ps.length cp)).flatMap oxCells) := by
    rw [← HZ1.out]
    exact RT
  have K2 := (KeptS.set (S := fun k => k = w.heap.size ∨ k = w.heap.size + 1 + 1) (w := Z1) (g := w.heap.size) (j := 0) (u := .slice (some ⟨g, 0, none⟩) s.L.length c6) (.inl rfl)).trans (KeptS.grown (S := fun k => k = w.heap.size ∨ k = w.heap.size + 1 + 1) SX.out.2 (fun b hb => .inr (Option.some.inj hb).symm)) (fun _ h => .inl h)
  have hw2 := B2.out.size
  have hq3 := Y3.out.lt
  have K3 := (Z1K.out.mono (S' := fun k => w.heap.size ≤ k) (fun k hk => by rcases hk with rfl | hk <;> omega)).trans (K2.mono (S' := fun k => w.heap.size ≤ k) (fun k hk => by rcases hk with rfl | rfl <;> omega)) (fun _ h => .inl h)
  have BZ : Below w.heap.size w ZZ := KeptS.below (B2.out.trans (B6.out.mono B2.out.size)) K3 (by have := B6.out.size; omega) (fun k hk => hk)
  have OZ := K2.row RZ (fun b hb hs => by
    have h1 := (row_block RZ hb).1
    rcases hs with rfl | rfl <;> omega)
  have HN := H0.out.below BZ
  have hre : replF (atP n nm) ({ nm := nm, kd := kd, ty := ty, lv := n, nn := nn, md := md, ou := ou, ps := ps } : Ob) s.L = s.L.set m ({ nm := nm, kd := kd, ty := ty, lv := n, nn := nn, md := md, ou := ou, ps := ps } : Ob) := replF_set _ _ zO _ m HXI.out
  have HF := Lib.hid (show RefPost B w ({ s with L := replF (atP n nm) ({ nm := nm, kd := kd, ty := ty, lv := n, nn := nn, md := md, ou := ou, ps := ps } : Ob) s.L }, 0) (.returned (.tuple #[.agg #[.slice (some ⟨g, 0, none⟩) s.L.length c6, .int .i64 s.lev, .slice AM s.mods.length cM], .int .i64 0])) ZZ from ⟨some ⟨g, 0, none⟩, c6, lx.set m (({ nm := nm, kd := kd, ty := ty, lv := n, nn := nn, md := md, ou := ou, ps := ps } : Ob), Value.slice Ap ps.length cp), AM, cM, mx, by rw [hre, List.length_set], ⟨⟨by
    rw [hre, List.length_set, List.length_set, HL.out]
    exact row_more OZ (Nat.le_trans HB.out B2.out.size), fun x hx => by
    rcases List.mem_or_eq_of_mem_set hx with hx | rfl
    · exact HN.rows.par x hx
    · exact HP0.out.below BZ⟩, by rw [hre, List.map_set, HN.same], HN.mods, HN.mrows, HN.msame⟩, BZ⟩)
  have W9 := SX.out.1
  clear BZ OZ HN K2 K3 SX RZ RT hre
  have y0 : ZZ.cell? ⟨w.heap.size + 1 + 1, 0, none⟩ = some (.slice (some ⟨g, 0, none⟩) s.L.length c6) := W9.cell 0
  have y1 : ZZ.cell? ⟨w.heap.size + 1 + 1, 1, none⟩ = some (.int .i64 s.lev) := W9.cell 1
  have y2 : ZZ.cell? ⟨w.heap.size + 1 + 1, 2, none⟩ = some (.slice AM s.mods.length cM) := W9.cell 2
  refine bodyPost_ret (v := .tuple #[.agg #[.slice (some ⟨g, 0, none⟩) s.L.length c6, .int .i64 s.lev, .slice AM s.mods.length cM], .int .i64 0]) ?_ rfl HF.out
  clear HF W9
  simp [results, Try.results34, go_sem, y0, y1, y2]

theorem refchange_any (B : Nat) (AL : Option Addr) (cL : Nat) (lx : List Ox) (AM : Option Addr) (cM : Nat) (mx : List (Value × List Ox)) (s : Stt) (n : Int) (nm : ByteArray) (kd ty lv nn md : Int) (ou : Bool) (ps : List (Int × Bool)) (Ap : Option Addr) (cp : Nat) (w : World) (h : RefIn w B AL cL lx AM cM mx s) (hp : ParV B w (.slice Ap ps.length cp) ps) (hB : B ≤ w.heap.size) (hlen : s.L.length ≤ 1000) :
    Calls Try.prog 34 #[.agg #[.slice AL s.L.length cL, .int .i64 s.lev, .slice AM s.mods.length cM], .int .i64 n, .agg #[.string nm, .int .i64 kd, .int .i64 ty, .int .i64 lv, .int .i32 nn, .int .i64 md, .bool ou, .slice Ap ps.length cp]] w (RefPost B w (changeP s n ⟨nm, kd, ty, lv, nn, md, ou, ps⟩)) := by
  by_cases hx : s.L.find? (atP n nm) = none
  · exact refchange_none B AL cL lx AM cM mx s n nm kd ty lv nn md ou ps Ap cp w h hp hB hlen hx
  · exact refchange_ok B AL cL lx AM cM mx s n nm kd ty lv nn md ou ps Ap cp w h hp hB hlen hx
end Go.Proofs.Ytpfoebnlngfebaa
