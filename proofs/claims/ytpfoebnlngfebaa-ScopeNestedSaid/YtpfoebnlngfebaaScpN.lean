/- Scopes: the answers' Declare, refused. -/
import Derived.Test.YtpfoebnlngfebaaScpM
namespace Go.Proofs.Ytpfoebnlngfebaa
open Go.ChangeShapes Go.WideShapes Go.ChangeAt Go.RowKit
set_option linter.unusedVariables false
set_option linter.unusedSimpArgs false

theorem below_row {B : Nat} {a w w' : World} {e : TypeId} {sz : Nat} {v : Value} {n : Nat} {xs : List Value} (h : Below B a w) (ho : w.ownsRow B e sz v n xs) (hg : w.grownBy w' v.ownBlock) (hB : B ≤ w.heap.size) : Below B a w' :=
  h.grown hg hB (fun b hb => (World.ownsRow.lt ho b hb).1)

/-- Which of the answers' objects, if any. -/
theorem at_idx (s : Stt) (i : Nat) (nm : ByteArray) : (hasP s i nm = none ∧ idxF (atP i nm) s.L 0 = -1) ∨ ∃ n, n < s.L.length ∧ idxF (atP i nm) s.L 0 = (n : Int) ∧ hasP s i nm = some (s.L.getD n zO) := by
  rw [← find_atP]
  rcases idxF_find (atP i nm) zO s.L 0 with ⟨h1, h2⟩ | ⟨n, h0, h1, h2, _⟩
  · exact .inl ⟨h1, h2⟩
  · exact .inr ⟨n, h0, by rw [h1]; congr 1; omega, h2⟩

set_option maxHeartbeats 16000000 in
set_option maxRecDepth 100000 in
theorem refdecl_name (B : Nat) (AL : Option Addr) (cL : Nat) (lx : List Ox) (AM : Option Addr) (cM : Nat) (mx : List (Value × List Ox)) (s : Stt) (nm : ByteArray) (kd ty lv nn md : Int) (ou : Bool) (ps : List (Int × Bool)) (Ap : Option Addr) (cp : Nat) (w : World) (h : RefIn w B AL cL lx AM cM mx s) (hp : ParV B w (.slice Ap ps.length cp) ps) (hB : B ≤ w.heap.size) (hlen : s.L.length ≤ 1000) (hbad : nm.size = 0 ∨ 32 < nm.size) :
    Calls Try.prog 31 #[.agg #[.slice AL s.L.length cL, .int .i64 s.lev, .slice AM s.mods.length cM], .agg #[.string nm, .int .i64 kd, .int .i64 ty, .int .i64 lv, .int .i32 nn, .int .i64 md, .bool ou, .slice Ap ps.length cp]] w (RefPost B w (declP s ⟨nm, kd, ty, lv, nn, md, ou, ps⟩)) := by
  have DP : declP s ⟨nm, kd, ty, lv, nn, md, ou, ps⟩ = (s, 140) := if_pos hbad
  rw [DP]
  have b1 := (Below.refl w.heap.size w).alloc (Nat.le_refl _) (.cells #[.slice AL s.L.length cL, .int .i64 s.lev, .slice AM s.mods.length cM] rS)
  have b2 := b1.alloc b1.size (.cells #[.string nm, .int .i64 kd, .int .i64 ty, .int .i64 lv, .int .i32 nn, .int .i64 md, .bool ou, .slice Ap ps.length cp] rO)
  have b3 := b2.alloc b2.size (.cells #[.slice AL s.L.length cL, .int .i64 s.lev, .slice AM s.mods.length cM] rS)
  have BV := Lib.hid b3
  have HV := Lib.hid (h.below b3)
  have X1 := Lib.hid (((Whole.made w rS #[.slice AL s.L.length cL, .int .i64 s.lev, .slice AM s.mods.length cM] _ rfl).alloc (.cells #[.string nm, .int .i64 kd, .int .i64 ty, .int .i64 lv, .int .i32 nn, .int .i64 md, .bool ou, .slice Ap ps.length cp] rO)).alloc (.cells #[.slice AL s.L.length cL, .int .i64 s.lev, .slice AM s.mods.length cM] rS))
  have X2 := Lib.hid ((Whole.made (w.alloc (.cells #[.slice AL s.L.length cL, .int .i64 s.lev, .slice AM s.mods.length cM] rS)) rO #[.string nm, .int .i64 kd, .int .i64 ty, .int .i64 lv, .int .i32 nn, .int .i64 md, .bool ou, .slice Ap ps.length cp] (w.heap.size + 1) (by simp)).alloc (.cells #[.slice AL s.L.length cL, .int .i64 s.lev, .slice AM s.mods.length cM] rS))
  have X3 := Lib.hid (Whole.made ((w.alloc (.cells #[.slice AL s.L.length cL, .int .i64 s.lev, .slice AM s.mods.length cM] rS)).alloc (.cells #[.string nm, .int .i64 kd, .int .i64 ty, .int .i64 lv, .int .i32 nn, .int .i64 md, .bool ou, .slice Ap ps.length cp] rO)) rS #[.slice AL s.L.length cL, .int .i64 s.lev, .slice AM s.mods.length cM] (w.heap.size + 1 + 1) (by simp))
  have hsz : (nm.size : Int) ≥ 0 := by omega
  clear h hp DP b1 b2 b3 hB hlen
  rcases hbad with h0 | h32
  · obtain rfl := empty_of h0
    go_enter Try.func31, Try.ntmps31
    go_wp2_with fail
    have x0 : (((w.alloc (.cells #[.slice AL s.L.length cL, .int .i64 s.lev, .slice AM s.mods.length cM] rS)).alloc (.cells #[.string ⟨#[]⟩, .int .i64 kd, .int .i64 ty, .int .i64 lv, .int .i32 nn, .int .i64 md, .bool ou, .slice Ap ps.length cp] rO)).alloc (.cells #[.slice AL s.L.length cL, .int .i64 s.lev, .slice AM s.mods.length cM] rS)).cell? ⟨w.heap.size + 1 + 1, 0, none⟩ = some (.slice AL s.L.length cL) := X3.out.cell 0
    have x1 : (((w.alloc (.cells #[.slice AL s.L.length cL, .int .i64 s.lev, .slice AM s.mods.length cM] rS)).alloc (.cells #[.string ⟨#[]⟩, .int .i64 kd, .int .i64 ty, .int .i64 lv, .int .i32 nn, .int .i64 md, .bool ou, .slice Ap ps.length cp] rO)).alloc (.cells #[.slice AL s.L.length cL, .int .i64 s.lev, .slice AM s.mods.length cM] rS)).cell? ⟨w.heap.size + 1 + 1, 1, none⟩ = some (.int .i64 s.lev) := X3.out.cell 1
    have x2 : (((w.alloc (.cells #[.slice AL s.L.length cL, .int .i64 s.lev, .slice AM s.mods.length cM] rS)).alloc (.cells #[.string ⟨#[]⟩, .int .i64 kd, .int .i64 ty, .int .i64 lv, .int .i32 nn, .int .i64 md, .bool ou, .slice Ap ps.length cp] rO)).alloc (.cells #[.slice AL s.L.length cL, .int .i64 s.lev, .slice AM s.mods.length cM] rS)).cell? ⟨w.heap.size + 1 + 1, 2, none⟩ = some (.slice AM s.mods.length cM) := X3.out.cell 2
    refine bodyPost_ret (v := .tuple #[.agg #[.slice AL s.L.length cL, .int .i64 s.lev, .slice AM s.mods.length cM], .int .i64 140]) ?_ rfl (⟨_, _, _, _, _, _, rfl, HV.out, BV.out⟩ : RefPost B w (s, 140) _ _)
    clear X1 X2 X3 BV HV
    generalize (((w.alloc (.cells #[.slice AL s.L.length cL, .int .i64 s.lev, .slice AM s.mods.length cM] rS)).alloc (.cells #[.string ⟨#[]⟩, .int .i64 kd, .int .i64 ty, .int .i64 lv, .int .i32 nn, .int .i64 md, .bool ou, .slice Ap ps.length cp] rO)).alloc (.cells #[.slice AL s.L.length cL, .int .i64 s.lev, .slice AM s.mods.length cM] rS)) = Z at *
    simp [results, Try.results31, go_sem, x0, x1, x2]
  · have h0 : ¬ ((nm.size : Int) = 0) := by omega
    have d0 : ((nm.size : Int) == 0) = false := beq_eq_false_iff_ne.2 (by omega)
    have hI : (32 : Int) < nm.size := by omega
    go_enter Try.func31, Try.ntmps31
    go_wp2_with fail
    have x0 : (((w.alloc (.cells #[.slice AL s.L.length cL, .int .i64 s.lev, .slice AM s.mods.length cM] rS)).alloc (.cells #[.string nm, .int .i64 kd, .int .i64 ty, .int .i64 lv, .int .i32 nn, .int .i64 md, .bool ou, .slice Ap ps.length cp] rO)).alloc (.cells #[.slice AL s.L.length cL, .int .i64 s.lev, .slice AM s.mods.length cM] rS)).cell? ⟨w.heap.size + 1 + 1, 0, none⟩ = some (.slice AL s.L.length cL) := X3.out.cell 0
    have x1 : (((w.alloc (.cells #[.slice AL s.L.length cL, .int .i64 s.lev, .slice AM s.mods.length cM] rS)).alloc (.cells #[.string nm, .int .i64 kd, .int .i64 ty, .int .i64 lv, .int .i32 nn, .int .i64 md, .bool ou, .slice Ap ps.length cp] rO)).alloc (.cells #[.slice AL s.L.length cL, .int .i64 s.lev, .slice AM s.mods.length cM] rS)).cell? ⟨w.heap.size + 1 + 1, 1, none⟩ = some (.int .i64 s.lev) := X3.out.cell 1
    have x2 : (((w.alloc (.cells #[.slice AL s.L.length cL, .int .i64 s.lev, .slice AM s.mods.length cM] rS)).alloc (.cells #[.string nm, .int .i64 kd, .int .i64 ty, .int .i64 lv, .int .i32 nn, .int .i64 md, .bool ou, .slice Ap ps.length cp] rO)).alloc (.cells #[.slice AL s.L.length cL, .int .i64 s.lev, .slice AM s.mods.length cM] rS)).cell? ⟨w.heap.size + 1 + 1, 2, none⟩ = some (.slice AM s.mods.length cM) := X3.out.cell 2
    refine bodyPost_ret (v := .tuple #[.agg #[.slice AL s.L.length cL, .int .i64 s.lev, .slice AM s.mods.length cM], .int .i64 140]) ?_ rfl (⟨_, _, _, _, _, _, rfl, HV.out, BV.out⟩ : RefPost B w (s, 140) _ _)
    clear X1 X2 X3 BV HV
    generalize (((w.alloc (.cells #[.slice AL s.L.length cL, .int .i64 s.lev, .slice AM s.mods.length cM] rS)).alloc (.cells #[.string nm, .int .i64 kd, .int .i64 ty, .int .i64 lv, .int .i32 nn, .int .i64 md, .bool ou, .slice Ap ps.length cp] rO)).alloc (.cells #[.slice AL s.L.length cL, .int .i64 s.lev, .slice AM s.mods.length cM] rS)) = Z at *
    simp [results, Try.results31, go_sem, x0, x1, x2]

set_option maxHeartbeats 16000000 in
set_option maxRecDepth 100000 in
theorem refdecl_twice (B : Nat) (AL : Option Addr) (cL : Nat) (lx : List Ox) (AM : Option Addr) (cM : Nat) (mx : List (Value × List Ox)) (s : Stt) (nm : ByteArray) (kd ty lv nn md : Int) (ou : Bool) (ps : List (Int × Bool)) (Ap : Option Addr) (cp : Nat) (w : World) (h : RefIn w B AL cL lx AM cM mx s) (hp : ParV B w (.slice Ap ps.length cp) ps) (hB : B ≤ w.heap.size) (hlen : s.L.length ≤ 1000) (hgood : ¬ (nm.size = 0 ∨ 32 < nm.size)) (hx : (hasP s s.lev nm).isSome = true) :
    Calls Try.prog 31 #[.agg #[.slice AL s.L.length cL, .int .i64 s.lev, .slice AM s.mods.length cM], .agg #[.string nm, .int .i64 kd, .int .i64 ty, .int .i64 lv, .int .i32 nn, .int .i64 md, .bool ou, .slice Ap ps.length cp]] w (RefPost B w (declP s ⟨nm, kd, ty, lv, nn, md, ou, ps⟩)) := by
  have DP : declP s ⟨nm, kd, ty, lv, nn, md, ou, ps⟩ = (s, 51) := (if_neg hgood).trans (if_pos hx)
  rw [DP]
  clear DP
  have b1 := (Below.refl w.heap.size w).alloc (Nat.le_refl _) (.cells #[.slice AL s.L.length cL, .int .i64 s.lev, .slice AM s.mods.length cM] rS)
  have b2 := b1.alloc b1.size (.cells #[.string nm, .int .i64 kd, .int .i64 ty, .int .i64 lv, .int .i32 nn, .int .i64 md, .bool ou, .slice Ap ps.length cp] rO)
  have b3 := b2.alloc b2.size (.cells #[.slice none 0 0, .int .i64 0, .slice none 0 0] rS)
  have BV := Lib.hid b3
  have HV := Lib.hid (h.below b3)
  have X1 := Lib.hid (((Whole.made w rS #[.slice AL s.L.length cL, .int .i64 s.lev, .slice AM s.mods.length cM] _ rfl).alloc (.cells #[.string nm, .int .i64 kd, .int .i64 ty, .int .i64 lv, .int .i32 nn, .int .i64 md, .bool ou, .slice Ap ps.length cp] rO)).alloc (.cells #[.slice none 0 0, .int .i64 0, .slice none 0 0] rS))
  have X2 := Lib.hid ((Whole.made (w.alloc (.cells #[.slice AL s.L.length cL, .int .i64 s.lev, .slice AM s.mods.length cM] rS)) rO #[.string nm, .int .i64 kd, .int .i64 ty, .int .i64 lv, .int .i32 nn, .int .i64 md, .bool ou, .slice Ap ps.length cp] (w.heap.size + 1) (by simp)).alloc (.cells #[.slice none 0 0, .int .i64 0, .slice none 0 0] rS))
  have X3 := Lib.hid (Whole.made ((w.alloc (.cells #[.slice AL s.L.length cL, .int .i64 s.lev, .slice AM s.mods.length cM] rS)).alloc (.cells #[.string nm, .int .i64 kd, .int .i64 ty, .int .i64 lv, .int .i32 nn, .int .i64 md, .bool ou, .slice Ap ps.length cp] rO)) rS #[.slice none 0 0, .int .i64 0, .slice none 0 0] (w.heap.size + 1 + 1) (by simp))
  have h32 : ¬ 32 < nm.size := fun e => hgood (.inr e)
  have h0 : nm.size ≠ 0 := fun e => hgood (.inl e)
  have d0 : ((nm.size : Int) == 0) = false := beq_eq_false_iff_ne.2 (by omega)
  have hI : ¬ (32 : Int) < nm.size := by omega
  have AX := Lib.hid (at_any B AL cL lx AM cM mx s s.lev nm (((w.alloc (.cells #[.slice AL s.L.length cL, .int .i64 s.lev, .slice AM s.mods.length cM] rS)).alloc (.cells #[.string nm, .int .i64 kd, .int .i64 ty, .int .i64 lv, .int .i32 nn, .int .i64 md, .bool ou, .slice Ap ps.length cp] rO)).alloc (.cells #[.slice none 0 0, .int .i64 0, .slice none 0 0] rS)) HV.out hlen)
  have HIX := Lib.hid (at_idx s s.lev nm)
  have HB := Lib.hid hB
  have HL := Lib.hid h.len.1
  have HP := Lib.hid (hp.below b3)
  have H0 := Lib.hid h
  have HP0 := Lib.hid hp
  clear h hp b1 b2 b3 hB hgood
  generalize hxi : idxF (atP s.lev nm) s.L 0 = xi at *
  clear hxi
  go_enter Try.func31, Try.ntmps31
  go_wp2_with fail
  generalize (((w.alloc (.cells #[.slice AL s.L.length cL, .int .i64 s.lev, .slice AM s.mods.length cM] rS)).alloc (.cells #[.string nm, .int .i64 kd, .int .i64 ty, .int .i64 lv, .int .i32 nn, .int .i64 md, .bool ou, .slice Ap ps.length cp] rO)).alloc (.cells #[.slice none 0 0, .int .i64 0, .slice none 0 0] rS)) = V at *
  refine AX.out.mono ?_
  rintro e w2 ⟨rfl, hb2⟩
  have hq2 := X3.out.lt
  have B2 := Lib.hid (BV.out.trans (hb2.mono BV.out.size))
  have H2 := Lib.hid (HV.out.below hb2)
  have P2 := Lib.hid (HP.out.below hb2)
  have Y1 := Lib.hid (X1.out.below hb2 X1.out.lt)
  have Y2 := Lib.hid (X2.out.below hb2 X2.out.lt)
  have Y3 := Lib.hid (X3.out.below hb2 X3.out.lt)
  clear hb2 AX X1 X2 X3 BV HV HP hq2
  have hxi0 : 0 ≤ xi := by
    rcases HIX.out with ⟨h1, _⟩ | ⟨n, _, h2, _⟩
    · rw [h1] at hx
      cases hx
    · omega
  clear hx HIX
  have x0 : w2.cell? ⟨w.heap.size, 0, none⟩ = some (.slice AL s.L.length cL) := Y1.out.cell 0
  have x1 : w2.cell? ⟨w.heap.size, 1, none⟩ = some (.int .i64 s.lev) := Y1.out.cell 1
  have x2 : w2.cell? ⟨w.heap.size, 2, none⟩ = some (.slice AM s.mods.length cM) := Y1.out.cell 2
  have r0 : w2.cell? ⟨w.heap.size + 1 + 1, 0, none⟩ = some (.slice none 0 0) := Y3.out.cell 0
  have z0 : w2.frozen? ⟨w.heap.size + 1 + 1, 0, none⟩ = false := Y3.out.free 0
  have r1 : w2.cell? ⟨w.heap.size + 1 + 1, 1, none⟩ = some (.int .i64 0) := Y3.out.cell 1
  have z1 : w2.frozen? ⟨w.heap.size + 1 + 1, 1, none⟩ = false := Y3.out.free 1
  have r2 : w2.cell? ⟨w.heap.size + 1 + 1, 2, none⟩ = some (.slice none 0 0) := Y3.out.cell 2
  have z2 : w2.frozen? ⟨w.heap.size + 1 + 1, 2, none⟩ = false := Y3.out.free 2
  have SX := Lib.hid (set_three Y3.out (.slice AL s.L.length cL) (.int .i64 s.lev) (.slice AM s.mods.length cM))
  go_wp2_with fail
  have hS : ∀ k, k = w.heap.size + 1 + 1 → B ≤ k ∧ ∃ cs, w2.heap[k]? = some (.cells cs rS (0, 0)) := fun k hk => by
    subst hk
    exact ⟨by have := HB.out; omega, _, Y3.out⟩
  have K := KeptS.grown (S := fun k => k = w.heap.size + 1 + 1) SX.out.2 (fun b hb => (Option.some.inj hb).symm)
  have HN := H2.out.boxes K hS
  have BZ : Below w.heap.size w (((w2.setCell ⟨w.heap.size + 1 + 1, 0, none⟩ (.slice AL s.L.length cL)).setCell ⟨w.heap.size + 1 + 1, 1, none⟩ (.int .i64 s.lev)).setCell ⟨w.heap.size + 1 + 1, 2, none⟩ (.slice AM s.mods.length cM)) := KeptS.below B2.out K B2.out.size (fun k hk => by subst hk; omega)
  have HF := Lib.hid (show RefPost B w (s, 51) (.returned (.tuple #[.agg #[.slice AL s.L.length cL, .int .i64 s.lev, .slice AM s.mods.length cM], .int .i64 51])) (((w2.setCell ⟨w.heap.size + 1 + 1, 0, none⟩ (.slice AL s.L.length cL)).setCell ⟨w.heap.size + 1 + 1, 1, none⟩ (.int .i64 s.lev)).setCell ⟨w.heap.size + 1 + 1, 2, none⟩ (.slice AM s.mods.length cM)) from ⟨AL, cL, lx, AM, cM, mx, rfl, HN, BZ⟩)
  have W9 := SX.out.1
  clear x0 x1 x2 r0 r1 r2 z0 z1 z2 BZ HN K hS SX Y1 Y2 Y3
  have x0 : (((w2.setCell ⟨w.heap.size + 1 + 1, 0, none⟩ (.slice AL s.L.length cL)).setCell ⟨w.heap.size + 1 + 1, 1, none⟩ (.int .i64 s.lev)).setCell ⟨w.heap.size + 1 + 1, 2, none⟩ (.slice AM s.mods.length cM)).cell? ⟨w.heap.size + 1 + 1, 0, none⟩ = some (.slice AL s.L.length cL) := W9.cell 0
  have x1 : (((w2.setCell ⟨w.heap.size + 1 + 1, 0, none⟩ (.slice AL s.L.length cL)).setCell ⟨w.heap.size + 1 + 1, 1, none⟩ (.int .i64 s.lev)).setCell ⟨w.heap.size + 1 + 1, 2, none⟩ (.slice AM s.mods.length cM)).cell? ⟨w.heap.size + 1 + 1, 1, none⟩ = some (.int .i64 s.lev) := W9.cell 1
  have x2 : (((w2.setCell ⟨w.heap.size + 1 + 1, 0, none⟩ (.slice AL s.L.length cL)).setCell ⟨w.heap.size + 1 + 1, 1, none⟩ (.int .i64 s.lev)).setCell ⟨w.heap.size + 1 + 1, 2, none⟩ (.slice AM s.mods.length cM)).cell? ⟨w.heap.size + 1 + 1, 2, none⟩ = some (.slice AM s.mods.length cM) := W9.cell 2
  refine bodyPost_ret (v := .tuple #[.agg #[.slice AL s.L.length cL, .int .i64 s.lev, .slice AM s.mods.length cM], .int .i64 51]) ?_ rfl HF.out
  clear HF W9 H2 P2 B2
  generalize (((w2.setCell ⟨w.heap.size + 1 + 1, 0, none⟩ (.slice AL s.L.length cL)).setCell ⟨w.heap.size + 1 + 1, 1, none⟩ (.int .i64 s.lev)).setCell ⟨w.heap.size + 1 + 1, 2, none⟩ (.slice AM s.mods.length cM)) = ZZ at *
  simp [results, Try.results31, go_sem, x0, x1, x2]
end Go.Proofs.Ytpfoebnlngfebaa
