/- Scopes: the program's Declare. -/
import Derived.Test.YtpfoebnlngfebaaScpE
import Derived.Deep.QuietTactic
namespace Go.Proofs.Ytpfoebnlngfebaa
open Go.ChangeShapes Go.WideShapes Go.ChangeAt Go.RowKit
set_option linter.unusedVariables false
set_option linter.unusedSimpArgs false

theorem ChPost.before {B : Nat} {T : Tb} {w w1 w2 : World} {s : Stt} (h : ChPost B T w1 s w2) (hb : Below w.heap.size w w1) : ChPost B T w s w2 := by
  obtain ⟨T', h1, h2, h3, h4⟩ := h
  exact ⟨T', h1, h2, (KeptS.ofBelow (S := Own T) hb).trans h3 (fun _ h => .inl h), fun k hk => (h4 k hk).imp id (fun h => Nat.le_trans hb.size h)⟩

theorem ChPost.later {B : Nat} {T : Tb} {w w1 w2 : World} {s : Stt} (h : ChPost B T w s w1) (hb : Below w1.heap.size w1 w2) : ChPost B T w s w2 := by
  obtain ⟨T', h1, h2, h3, h4⟩ := h
  exact ⟨T', h1, h2.below hb, h3.trans (KeptS.ofBelow (S := fun _ => False) hb) (fun _ h => h.elim), h4⟩

/-- The first of the program's objects with a name. -/
theorem has_idx {T : Tb} {w : World} {B : Nat} {s : Stt} (h : TabAt w B T s) {i : Nat} (hi : i < 65) (nm : ByteArray) :
    (hasP s i nm = none ∧ idxF (nameIs nm) ((T.rx i).map (·.1)) 0 = -1) ∨ ∃ n, n < (T.rx i).length ∧ idxF (nameIs nm) ((T.rx i).map (·.1)) 0 = (n : Int) ∧ hasP s i nm = some ((T.rx i).getD n zX).1 := by
  rw [h.same i hi]
  rcases idxF_find (nameIs nm) zO (s.row i) 0 with ⟨h1, h2⟩ | ⟨n, h0, h1, h2, _⟩
  · exact .inl ⟨h1, h2⟩
  · have hl : (T.rx i).length = (s.row i).length := by rw [← h.same i hi, List.length_map]
    refine .inr ⟨n, by omega, by rw [h1]; congr 1; omega, ?_⟩
    show (s.row i).find? (nameIs nm) = _
    rw [h2, ← h.same i hi]
    have hn : n < (T.rx i).length := by omega
    simp [List.getD, hn]

theorem row_append (s : Stt) (x : Ob) (j : Nat) : ({ s with L := s.L ++ [{ x with lv := s.lev }] } : Stt).row j = if j = s.lev then s.row j ++ [{ x with lv := s.lev }] else s.row j := by
  show (s.L ++ [({ x with lv := s.lev } : Ob)]).filter (fun y => y.lv == (j : Int)) = _
  rw [List.filter_append]
  split
  · rename_i e
    subst e
    rw [List.filter_cons, if_pos (by simp)]
    rfl
  · rename_i e
    rw [List.filter_cons, if_neg (by simp; omega)]
    simp [Stt.row]

theorem empty_of {nm : ByteArray} (h : nm.size = 0) : nm = ⟨#[]⟩ := by
  cases nm with
  | mk d => congr; exact Array.eq_empty_of_size_eq_zero (by simpa [ByteArray.size] using h)

theorem not_empty {nm : ByteArray} (h : nm.size ≠ 0) : nm.toList.isEmpty = false := by
  rw [ByteArray.toList_eq]
  cases hl : nm.data.toList with
  | cons a l => rfl
  | nil =>
    have h' := congrArg List.length hl
    rw [Array.length_toList] at h'
    exact absurd h' h

set_option maxHeartbeats 16000000 in
set_option maxRecDepth 100000 in
theorem decl_name (B : Nat) (T : Tb) (s : Stt) (nm : ByteArray) (kd ty lv nn md : Int) (ou : Bool) (ps : List (Int × Bool)) (Ap : Option Addr) (cp : Nat) (w : World) (h : TabAt w B T s) (hp : ParV B w (.slice Ap ps.length cp) ps) (hB : B ≤ w.heap.size) (hl : s.lev ≤ 64) (hlen : s.L.length ≤ 1000) (hs : nm.size ≤ 140737488355328) (hn : ps.length * 16 ≤ 140737488355328) (hbad : nm.size = 0 ∨ 32 < nm.size) :
    Calls Try.prog 18 #[.pointer (some ⟨T.p, 0, none⟩), .agg #[.string nm, .int .i64 kd, .int .i64 ty, .int .i64 lv, .int .i32 nn, .int .i64 md, .bool ou, .slice Ap ps.length cp]] w fun e w' => e = .returned (.int .i64 (declP s ⟨nm, kd, ty, lv, nn, md, ou, ps⟩).2) ∧ ChPost B T w (declP s ⟨nm, kd, ty, lv, nn, md, ou, ps⟩).1 w' := by
  have bV := (Below.refl w.heap.size w).alloc (Nat.le_refl _) (.cells #[.string nm, .int .i64 kd, .int .i64 ty, .int .i64 lv, .int .i32 nn, .int .i64 md, .bool ou, .slice Ap ps.length cp] pO)
  have BV := Lib.hid bV
  have XV := Lib.hid (Whole.made w pO #[.string nm, .int .i64 kd, .int .i64 ty, .int .i64 lv, .int .i32 nn, .int .i64 md, .bool ou, .slice Ap ps.length cp] _ rfl)
  have H := Lib.hid h
  clear bV
  have DP : declP s ⟨nm, kd, ty, lv, nn, md, ou, ps⟩ = (s, 140) := if_pos hbad
  rw [DP]
  have HC := Lib.hid (h.chSame BV.out)
  have p0 : (w.alloc (.cells #[.string nm, .int .i64 kd, .int .i64 ty, .int .i64 lv, .int .i32 nn, .int .i64 md, .bool ou, .slice Ap ps.length cp] pO)).cell? ⟨w.heap.size, 0, none⟩ = some (.string nm) := XV.out.cell 0
  have hsz : (nm.size : Int) ≤ 140737488355328 := by omega
  clear DP hp h hB hl hlen hn H hs
  rcases hbad with h0 | h32
  · obtain rfl := empty_of h0
    go_enter Try.func18, Try.ntmps18
    go_wp2_with fail
    go_ret
    exact ⟨rfl, HC.out⟩
  · have he : nm.toList.isEmpty = false := not_empty (by omega)
    have hI : (32 : Int) < nm.size := by omega
    go_enter Try.func18, Try.ntmps18
    go_wp2_with fail
    go_ret
    exact ⟨rfl, HC.out⟩

set_option maxHeartbeats 16000000 in
set_option maxRecDepth 100000 in
theorem decl_twice (B : Nat) (T : Tb) (s : Stt) (nm : ByteArray) (kd ty lv nn md : Int) (ou : Bool) (ps : List (Int × Bool)) (Ap : Option Addr) (cp : Nat) (w : World) (h : TabAt w B T s) (hp : ParV B w (.slice Ap ps.length cp) ps) (hB : B ≤ w.heap.size) (hl : s.lev ≤ 64) (hlen : s.L.length ≤ 1000) (hs : nm.size ≤ 140737488355328) (hn : ps.length * 16 ≤ 140737488355328) (hgood : ¬ (nm.size = 0 ∨ 32 < nm.size)) (hx : (hasP s s.lev nm).isSome = true) :
    Calls Try.prog 18 #[.pointer (some ⟨T.p, 0, none⟩), .agg #[.string nm, .int .i64 kd, .int .i64 ty, .int .i64 lv, .int .i32 nn, .int .i64 md, .bool ou, .slice Ap ps.length cp]] w fun e w' => e = .returned (.int .i64 (declP s ⟨nm, kd, ty, lv, nn, md, ou, ps⟩).2) ∧ ChPost B T w (declP s ⟨nm, kd, ty, lv, nn, md, ou, ps⟩).1 w' := by
  have DP : declP s ⟨nm, kd, ty, lv, nn, md, ou, ps⟩ = (s, 51) := (if_neg hgood).trans (if_pos hx)
  rw [DP]
  clear DP
  have bV := (Below.refl w.heap.size w).alloc (Nat.le_refl _) (.cells #[.string nm, .int .i64 kd, .int .i64 ty, .int .i64 lv, .int .i32 nn, .int .i64 md, .bool ou, .slice Ap ps.length cp] pO)
  have BV := Lib.hid bV
  have XV := Lib.hid (Whole.made w pO #[.string nm, .int .i64 kd, .int .i64 ty, .int .i64 lv, .int .i32 nn, .int .i64 md, .bool ou, .slice Ap ps.length cp] _ rfl)
  have H := Lib.hid h
  clear bV
  have h32 : ¬ 32 < nm.size := fun e => hgood (.inr e)
  have h0 : nm.size ≠ 0 := fun e => hgood (.inl e)
  have he : nm.toList.isEmpty = false := not_empty h0
  have hI : ¬ (32 : Int) < nm.size := by omega
  have hi : s.lev < 65 := by omega
  have hL : (s.lev : Int) < 65 := by omega
  have hrow := h.rows s.lev hi
  have hrl : (T.rx s.lev).length = (s.row s.lev).length := by rw [← h.same s.lev hi, List.length_map]
  have hrl2 : (s.row s.lev).length ≤ s.L.length := List.length_filter_le _ _
  have hr1 : (T.rx s.lev).length ≤ 1000 := by omega
  obtain ⟨A, c, hrv⟩ := row_form hrow.row
  rw [hrv] at hrow
  have IX := Lib.hid (fun W (hb : Below w.heap.size w W) => indexof_any nm (.slice A (T.rx s.lev).length c) B B (T.rx s.lev) W (hrow.below hb) (by unfold maxLen; omega))
  have HR := Lib.hid hrow
  have HRV := Lib.hid hrv
  have HS := Lib.hid hs
  have HN := Lib.hid hn
  have HP := Lib.hid hp
  have HB := Lib.hid hB
  have HRL := Lib.hid hrl
  have HL := Lib.hid (And.intro hi hlen)
  have p0 : (w.alloc (.cells #[.string nm, .int .i64 kd, .int .i64 ty, .int .i64 lv, .int .i32 nn, .int .i64 md, .bool ou, .slice Ap ps.length cp] pO)).cell? ⟨w.heap.size, 0, none⟩ = some (.string nm) := XV.out.cell 0
  have u65 : (w.alloc (.cells #[.string nm, .int .i64 kd, .int .i64 ty, .int .i64 lv, .int .i32 nn, .int .i64 md, .bool ou, .slice Ap ps.length cp] pO)).cell? ⟨T.p, 65, none⟩ = some (.int .i64 s.lev) := ((h.below BV.out).blk.cell 65).trans tb_lev
  have ur : (w.alloc (.cells #[.string nm, .int .i64 kd, .int .i64 ty, .int .i64 lv, .int .i32 nn, .int .i64 md, .bool ou, .slice Ap ps.length cp] pO)).cell? ⟨T.p, s.lev, none⟩ = some (.slice A (T.rx s.lev).length c) := by rw [← hrv]; exact ((h.below BV.out).blk.cell s.lev).trans (tb_row hi)
  have hsz : (nm.size : Int) ≤ 140737488355328 := by omega
  clear hrow hrv hrl hrl2 hlen hp hB hs hn h
  generalize hxi : idxF (nameIs nm) ((T.rx s.lev).map (·.1)) 0 = xi at *
  go_enter Try.func18, Try.ntmps18
  go_wp2_with fail
  go_quiet (fail)
  rename_i nq
  have B1 := Lib.hid (below_drawn BV.out nq)
  have X1 := Lib.hid (XV.out.drawn nq)
  have p0 : ((w.alloc (.cells #[.string nm, .int .i64 kd, .int .i64 ty, .int .i64 lv, .int .i32 nn, .int .i64 md, .bool ou, .slice Ap ps.length cp] pO)).drewN nq).cell? ⟨w.heap.size, 0, none⟩ = some (.string nm) := X1.out.cell 0
  clear u65 ur BV XV
  generalize (w.alloc (.cells #[.string nm, .int .i64 kd, .int .i64 ty, .int .i64 lv, .int .i32 nn, .int .i64 md, .bool ou, .slice Ap ps.length cp] pO)).drewN nq = V1 at *
  go_wp2_with fail
  refine (IX.out V1 B1.out).mono ?_
  rintro e w2 ⟨rfl, hb2⟩
  have B2 := Lib.hid (B1.out.trans (hb2.mono B1.out.size))
  have hq : w.heap.size < V1.heap.size := X1.out.lt
  have X2 := Lib.hid (X1.out.below hb2 X1.out.lt)
  clear hb2 IX B1 X1 p0 hq
  have hxi0 : 0 ≤ xi := by
    rcases has_idx H.out HL.out.1 nm with ⟨h1, _⟩ | ⟨n, _, h2, _⟩
    · rw [h1] at hx
      cases hx
    · rw [hxi] at h2
      omega
  have HC := Lib.hid (H.out.chSame B2.out)
  clear hxi hx hgood
  go_wp2_with fail
  go_ret
  exact ⟨rfl, HC.out⟩

set_option maxHeartbeats 16000000 in
set_option maxRecDepth 100000 in
theorem decl_ok (B : Nat) (T : Tb) (s : Stt) (nm : ByteArray) (kd ty lv nn md : Int) (ou : Bool) (ps : List (Int × Bool)) (Ap : Option Addr) (cp : Nat) (w : World) (h : TabAt w B T s) (hp : ParV B w (.slice Ap ps.length cp) ps) (hB : B ≤ w.heap.size) (hl : s.lev ≤ 64) (hlen : s.L.length ≤ 1000) (hs : nm.size ≤ 140737488355328) (hn : ps.length * 16 ≤ 140737488355328) (hgood : ¬ (nm.size = 0 ∨ 32 < nm.size)) (hx : hasP s s.lev nm = none) :
    Calls Try.prog 18 #[.pointer (some ⟨T.p, 0, none⟩), .agg #[.string nm, .int .i64 kd, .int .i64 ty, .int .i64 lv, .int .i32 nn, .int .i64 md, .bool ou, .slice Ap ps.length cp]] w fun e w' => e = .returned (.int .i64 (declP s ⟨nm, kd, ty, lv, nn, md, ou, ps⟩).2) ∧ ChPost B T w (declP s ⟨nm, kd, ty, lv, nn, md, ou, ps⟩).1 w' := by
  have DP : declP s ⟨nm, kd, ty, lv, nn, md, ou, ps⟩ = ({ s with L := s.L ++ [⟨nm, kd, ty, s.lev, nn, md, ou, ps⟩] }, 0) := ((if_neg hgood).trans (if_neg (by rw [hx]; decide))).trans (if_neg (by have h1 : (s.row s.lev).length ≤ s.L.length := List.length_filter_le _ _; omega))
  rw [DP]
  clear DP
  have bV := (Below.refl w.heap.size w).alloc (Nat.le_refl _) (.cells #[.string nm, .int .i64 kd, .int .i64 ty, .int .i64 lv, .int .i32 nn, .int .i64 md, .bool ou, .slice Ap ps.length cp] pO)
  have BV := Lib.hid bV
  have XV := Lib.hid (Whole.made w pO #[.string nm, .int .i64 kd, .int .i64 ty, .int .i64 lv, .int .i32 nn, .int .i64 md, .bool ou, .slice Ap ps.length cp] _ rfl)
  have H := Lib.hid h
  clear bV
  have h32 : ¬ 32 < nm.size := fun e => hgood (.inr e)
  have h0 : nm.size ≠ 0 := fun e => hgood (.inl e)
  have he : nm.toList.isEmpty = false := not_empty h0
  have hI : ¬ (32 : Int) < nm.size := by omega
  have hi : s.lev < 65 := by omega
  have hL : (s.lev : Int) < 65 := by omega
  have hrow := h.rows s.lev hi
  have hrl : (T.rx s.lev).length = (s.row s.lev).length := by rw [← h.same s.lev hi, List.length_map]
  have hrl2 : (s.row s.lev).length ≤ s.L.length := List.length_filter_le _ _
  have hr1 : (T.rx s.lev).length ≤ 1000 := by omega
  obtain ⟨A, c, hrv⟩ := row_form hrow.row
  rw [hrv] at hrow
  have IX := Lib.hid (fun W (hb : Below w.heap.size w W) => indexof_any nm (.slice A (T.rx s.lev).length c) B B (T.rx s.lev) W (hrow.below hb) (by unfold maxLen; omega))
  have HR := Lib.hid hrow
  have HRV := Lib.hid hrv
  have HS := Lib.hid hs
  have HN := Lib.hid hn
  have HP := Lib.hid hp
  have HB := Lib.hid hB
  have HRL := Lib.hid hrl
  have HL := Lib.hid (And.intro hi hlen)
  have p0 : (w.alloc (.cells #[.string nm, .int .i64 kd, .int .i64 ty, .int .i64 lv, .int .i32 nn, .int .i64 md, .bool ou, .slice Ap ps.length cp] pO)).cell? ⟨w.heap.size, 0, none⟩ = some (.string nm) := XV.out.cell 0
  have u65 : (w.alloc (.cells #[.string nm, .int .i64 kd, .int .i64 ty, .int .i64 lv, .int .i32 nn, .int .i64 md, .bool ou, .slice Ap ps.length cp] pO)).cell? ⟨T.p, 65, none⟩ = some (.int .i64 s.lev) := ((h.below BV.out).blk.cell 65).trans tb_lev
  have ur : (w.alloc (.cells #[.string nm, .int .i64 kd, .int .i64 ty, .int .i64 lv, .int .i32 nn, .int .i64 md, .bool ou, .slice Ap ps.length cp] pO)).cell? ⟨T.p, s.lev, none⟩ = some (.slice A (T.rx s.lev).length c) := by rw [← hrv]; exact ((h.below BV.out).blk.cell s.lev).trans (tb_row hi)
  have hsz : (nm.size : Int) ≤ 140737488355328 := by omega
  clear hrow hrv hrl hrl2 hlen hp hB hs hn h
  generalize hxi : idxF (nameIs nm) ((T.rx s.lev).map (·.1)) 0 = xi at *
  go_enter Try.func18, Try.ntmps18
  go_wp2_with fail
  go_quiet (fail)
  rename_i nq
  have B1 := Lib.hid (below_drawn BV.out nq)
  have X1 := Lib.hid (XV.out.drawn nq)
  have p0 : ((w.alloc (.cells #[.string nm, .int .i64 kd, .int .i64 ty, .int .i64 lv, .int .i32 nn, .int .i64 md, .bool ou, .slice Ap ps.length cp] pO)).drewN nq).cell? ⟨w.heap.size, 0, none⟩ = some (.string nm) := X1.out.cell 0
  clear u65 ur BV XV
  generalize (w.alloc (.cells #[.string nm, .int .i64 kd, .int .i64 ty, .int .i64 lv, .int .i32 nn, .int .i64 md, .bool ou, .slice Ap ps.length cp] pO)).drewN nq = V1 at *
  go_wp2_with fail
  refine (IX.out V1 B1.out).mono ?_
  rintro e w2 ⟨rfl, hb2⟩
  have B2 := Lib.hid (B1.out.trans (hb2.mono B1.out.size))
  have hq : w.heap.size < V1.heap.size := X1.out.lt
  have X2 := Lib.hid (X1.out.below hb2 X1.out.lt)
  clear hb2 IX B1 X1 p0 hq
  have hxi0 : xi = -1 := by
    rcases has_idx H.out HL.out.1 nm with ⟨_, h1⟩ | ⟨n, _, _, h2⟩
    · rw [← hxi]
      exact h1
    · rw [hx] at h2
      cases h2
  clear hxi hx hgood
  subst hxi0
  have hcap : decide ((4096 : Int) ≤ (T.rx s.lev).length) = false := decide_eq_false (by omega)
  have u65 : w2.cell? ⟨T.p, 65, none⟩ = some (.int .i64 s.lev) := ((H.out.below B2.out).blk.cell 65).trans tb_lev
  have x3 : w2.cell? ⟨w.heap.size, 3, none⟩ = some (.int .i64 lv) := X2.out.cell 3
  have x3f : w2.frozen? ⟨w.heap.size, 3, none⟩ = false := X2.out.free 3
  go_wp2_with fail
  have X3 := Lib.hid (show Whole (w2.setCell ⟨w.heap.size, 3, none⟩ (.int .i64 s.lev)) w.heap.size pO #[.string nm, .int .i64 kd, .int .i64 ty, .int .i64 s.lev, .int .i32 nn, .int .i64 md, .bool ou, .slice Ap ps.length cp] from X2.out.store 3 _)
  have B3 := Lib.hid (B2.out.setCell (p := ⟨w.heap.size, 3, none⟩) (Nat.le_refl _) (.int .i64 s.lev))
  clear u65 x3 x3f X2 B2
  generalize (w2.setCell ⟨w.heap.size, 3, none⟩ (.int .i64 s.lev)) = V3 at *
  obtain ⟨U, hU⟩ : ∃ U, U = V3.drew := ⟨_, rfl⟩
  have XU := Lib.hid (show Whole U w.heap.size pO #[.string nm, .int .i64 kd, .int .i64 ty, .int .i64 s.lev, .int .i32 nn, .int .i64 md, .bool ou, .slice Ap ps.length cp] from by rw [hU]; exact X3.out)
  have BU := Lib.hid (show Below w.heap.size w U from by rw [hU]; exact B3.out.drew)
  have TU := Lib.hid (H.out.below BU.out)
  have KC2 := Lib.hid (show ∀ y : World, y.cell? ⟨T.p, 65, none⟩ = (tbCells T.rv s.lev T.mv)[65]? → Whole y w.heap.size pO #[.string nm, .int .i64 kd, .int .i64 ty, .int .i64 s.lev, .int .i32 nn, .int .i64 md, .bool ou, .slice Ap ps.length cp] → y.cell? ⟨T.p, 65, none⟩ = some (.int .i64 s.lev) ∧ y.cell? ⟨w.heap.size, 0, none⟩ = some (.string nm) ∧ y.cell? ⟨w.heap.size, 1, none⟩ = some (.int .i64 kd) ∧ y.cell? ⟨w.heap.size, 2, none⟩ = some (.int .i64 ty) ∧ y.cell? ⟨w.heap.size, 3, none⟩ = some (.int .i64 s.lev) ∧ y.cell? ⟨w.heap.size, 4, none⟩ = some (.int .i32 nn) ∧ y.cell? ⟨w.heap.size, 5, none⟩ = some (.int .i64 md) ∧ y.cell? ⟨w.heap.size, 6, none⟩ = some (.bool ou) ∧ y.cell? ⟨w.heap.size, 7, none⟩ = some (.slice Ap ps.length cp) from fun y h1 h2 => ⟨h1.trans tb_lev, h2.cell 0, h2.cell 1, h2.cell 2, h2.cell 3, h2.cell 4, h2.cell 5, h2.cell 6, h2.cell 7⟩)
  have KC := Lib.hid (show ∀ y : World, Whole y T.p pS (tbCells T.rv s.lev T.mv) → Whole y w.heap.size pO #[.string nm, .int .i64 kd, .int .i64 ty, .int .i64 s.lev, .int .i32 nn, .int .i64 md, .bool ou, .slice Ap ps.length cp] → y.cell? ⟨T.p, 65, none⟩ = some (.int .i64 s.lev) ∧ y.cell? ⟨w.heap.size, 0, none⟩ = some (.string nm) ∧ y.cell? ⟨w.heap.size, 1, none⟩ = some (.int .i64 kd) ∧ y.cell? ⟨w.heap.size, 2, none⟩ = some (.int .i64 ty) ∧ y.cell? ⟨w.heap.size, 3, none⟩ = some (.int .i64 s.lev) ∧ y.cell? ⟨w.heap.size, 4, none⟩ = some (.int .i32 nn) ∧ y.cell? ⟨w.heap.size, 5, none⟩ = some (.int .i64 md) ∧ y.cell? ⟨w.heap.size, 6, none⟩ = some (.bool ou) ∧ y.cell? ⟨w.heap.size, 7, none⟩ = some (.slice Ap ps.length cp) from fun y h1 h2 => KC2.out y (h1.cell 65) h2)
  have KS := Lib.hid (show ∀ y : World, TabAt y B T s → Whole y w.heap.size pO #[.string nm, .int .i64 kd, .int .i64 ty, .int .i64 s.lev, .int .i32 nn, .int .i64 md, .bool ou, .slice Ap ps.length cp] → y.cell? ⟨T.p, 65, none⟩ = some (.int .i64 s.lev) ∧ y.cell? ⟨w.heap.size, 0, none⟩ = some (.string nm) ∧ y.cell? ⟨w.heap.size, 1, none⟩ = some (.int .i64 kd) ∧ y.cell? ⟨w.heap.size, 2, none⟩ = some (.int .i64 ty) ∧ y.cell? ⟨w.heap.size, 3, none⟩ = some (.int .i64 s.lev) ∧ y.cell? ⟨w.heap.size, 4, none⟩ = some (.int .i32 nn) ∧ y.cell? ⟨w.heap.size, 5, none⟩ = some (.int .i64 md) ∧ y.cell? ⟨w.heap.size, 6, none⟩ = some (.bool ou) ∧ y.cell? ⟨w.heap.size, 7, none⟩ = some (.slice Ap ps.length cp) from fun y h1 h2 => KC.out y h1.blk h2)
  have OW := Lib.hid (fun W hW hB => own_any nm kd ty s.lev nn md ou ps Ap cp B W hW hB HS.out HN.out)
  obtain ⟨i0, hi0, hz0, hz1, hz2⟩ := info_parts pO_info
  have L0 : V3.drew.cell? ⟨T.p, 65, none⟩ = some (.int .i64 s.lev) ∧ V3.drew.cell? ⟨w.heap.size, 0, none⟩ = some (.string nm) ∧ V3.drew.cell? ⟨w.heap.size, 1, none⟩ = some (.int .i64 kd) ∧ V3.drew.cell? ⟨w.heap.size, 2, none⟩ = some (.int .i64 ty) ∧ V3.drew.cell? ⟨w.heap.size, 3, none⟩ = some (.int .i64 s.lev) ∧ V3.drew.cell? ⟨w.heap.size, 4, none⟩ = some (.int .i32 nn) ∧ V3.drew.cell? ⟨w.heap.size, 5, none⟩ = some (.int .i64 md) ∧ V3.drew.cell? ⟨w.heap.size, 6, none⟩ = some (.bool ou) ∧ V3.drew.cell? ⟨w.heap.size, 7, none⟩ = some (.slice Ap ps.length cp) := by rw [← hU]; exact KS.out U TU.out XU.out
  go_wp2_with fail
  refine wp_region_noPanic ?_
  refine wp_region_held_drew (S := fun y => y.cell? ⟨T.p, 65, none⟩ = some (.int .i64 s.lev) ∧ y.cell? ⟨w.heap.size, 0, none⟩ = some (.string nm) ∧ y.cell? ⟨w.heap.size, 1, none⟩ = some (.int .i64 kd) ∧ y.cell? ⟨w.heap.size, 2, none⟩ = some (.int .i64 ty) ∧ y.cell? ⟨w.heap.size, 3, none⟩ = some (.int .i64 s.lev) ∧ y.cell? ⟨w.heap.size, 4, none⟩ = some (.int .i32 nn) ∧ y.cell? ⟨w.heap.size, 5, none⟩ = some (.int .i64 md) ∧ y.cell? ⟨w.heap.size, 6, none⟩ = some (.bool ou) ∧ y.cell? ⟨w.heap.size, 7, none⟩ = some (.slice Ap ps.length cp)) (by kernel_rfl) L0 (fun hHeld => ?_)
  rw [← hU]
  rw [← hU] at hHeld
  clear hU L0 X3 B3
  refine wpAnyH_take (i := 0) (oi := _) (v := .pointer (some ⟨T.p, 0, none⟩)) rfl (by kernel_rfl) (by kernel_rfl) (by kernel_rfl) (fun _ _ _ h => h) (Or.inl ⟨by rfl, fun w hSw => by (try dsimp only at hSw); go_simp⟩) (by assumption) ?_
  try simp only [Act.put, List.getElem_toArray, List.getElem_cons_succ, List.getElem_cons_zero, List.setIfInBounds_toArray, List.set_cons_zero, List.set_cons_succ]
  refine wpAnyH_take (i := 1) (oi := _) (v := .pointer (some ⟨T.p, 0, none⟩)) rfl (by kernel_rfl) (by kernel_rfl) (by kernel_rfl) (fun _ _ _ h => h) (Or.inl ⟨by rfl, fun w hSw => by (try dsimp only at hSw); go_simp⟩) (by assumption) ?_
  try simp only [Act.put, List.getElem_toArray, List.getElem_cons_succ, List.getElem_cons_zero, List.setIfInBounds_toArray, List.set_cons_zero, List.set_cons_succ]
  refine wpAnyH_take (i := 2) (oi := _) (v := .pointer (some ⟨T.p, 0, none⟩)) rfl (by kernel_rfl) (by kernel_rfl) (by kernel_rfl) (fun _ _ _ h => h) (Or.inl ⟨by rfl, fun w hSw => by (try dsimp only at hSw); go_simp⟩) (by assumption) ?_
  try simp only [Act.put, List.getElem_toArray, List.getElem_cons_succ, List.getElem_cons_zero, List.setIfInBounds_toArray, List.set_cons_zero, List.set_cons_succ]
  refine wpAnyH_take (i := 3) (oi := _) (v := .pointer (some ⟨T.p, 65, none⟩)) rfl (by kernel_rfl) (by kernel_rfl) (by kernel_rfl) (fun _ _ _ h => h) (Or.inl ⟨by rfl, fun w hSw => by (try dsimp only at hSw); go_simp⟩) (by assumption) ?_
  try simp only [Act.put, List.getElem_toArray, List.getElem_cons_succ, List.getElem_cons_zero, List.setIfInBounds_toArray, List.set_cons_zero, List.set_cons_succ]
  refine wpAnyH_take (i := 4) (oi := _) (v := .int .i64 s.lev) rfl (by kernel_rfl) (by kernel_rfl) (by kernel_rfl) (fun _ _ _ h => h) (Or.inl ⟨by rfl, fun w hSw => by (try dsimp only at hSw); go_simp⟩) (by assumption) ?_
  try simp only [Act.put, List.getElem_toArray, List.getElem_cons_succ, List.getElem_cons_zero, List.setIfInBounds_toArray, List.set_cons_zero, List.set_cons_succ]
  refine wpAnyH_take (i := 5) (oi := _) (v := .slice A (T.rx s.lev).length c) rfl (by kernel_rfl) (by kernel_rfl) (by kernel_rfl) (fun _ _ _ h => h) (Or.inl ⟨by rfl, fun w hSw => by (try dsimp only at hSw); go_simp⟩) (by assumption) ?_
  try simp only [Act.put, List.getElem_toArray, List.getElem_cons_succ, List.getElem_cons_zero, List.setIfInBounds_toArray, List.set_cons_zero, List.set_cons_succ]
  refine wpAnyH_take (i := 6) (oi := _) (v := .agg #[.string nm, .int .i64 kd, .int .i64 ty, .int .i64 s.lev, .int .i32 nn, .int .i64 md, .bool ou, .slice Ap ps.length cp]) rfl (by kernel_rfl) (by kernel_rfl) (by kernel_rfl) (fun _ _ _ h => h) (Or.inl ⟨by rfl, fun w hSw => by (try dsimp only at hSw); go_simp⟩) (by assumption) ?_
  try simp only [Act.put, List.getElem_toArray, List.getElem_cons_succ, List.getElem_cons_zero, List.setIfInBounds_toArray, List.set_cons_zero, List.set_cons_succ]
  refine wpAnyH_take (i := 10) (oi := _) (v := .pointer (some ⟨T.p, 0, none⟩)) rfl (by kernel_rfl) (by kernel_rfl) (by kernel_rfl) (fun _ _ _ h => h) (Or.inl ⟨by rfl, fun w hSw => by (try dsimp only at hSw); go_simp⟩) (by assumption) ?_
  try simp only [Act.put, List.getElem_toArray, List.getElem_cons_succ, List.getElem_cons_zero, List.setIfInBounds_toArray, List.set_cons_zero, List.set_cons_succ]
  refine wpAnyH_take (i := 11) (oi := _) (v := .pointer (some ⟨T.p, 0, none⟩)) rfl (by kernel_rfl) (by kernel_rfl) (by kernel_rfl) (fun _ _ _ h => h) (Or.inl ⟨by rfl, fun w hSw => by (try dsimp only at hSw); go_simp⟩) (by assumption) ?_
  try simp only [Act.put, List.getElem_toArray, List.getElem_cons_succ, List.getElem_cons_zero, List.setIfInBounds_toArray, List.set_cons_zero, List.set_cons_succ]
  refine wpAnyH_ready (rs := [7]) (by kernel_rfl) (by simp) (AllReadyH.cons (o := _) rfl (fun K hK => ?_) AllReadyH.nil)
  go_simp
  go_at_call 26
  refine ((OW.out U (HP.out.below BU.out) (Nat.le_trans HB.out BU.out.size))).mono ?_
  rintro e y1 ⟨Aq, cq, rfl, hb, hp1⟩
  have Y1 := Lib.hid (XU.out.below hb XU.out.lt)
  have T1 := Lib.hid ((TU.out).below hb)
  have HP1 := Lib.hid hp1
  have BY1 := Lib.hid (BU.out.trans (hb.mono BU.out.size))
  have S1 := KS.out y1 T1.out Y1.out
  clear hb hp1
  refine hK.out _ _ S1 (fun hHeld => ?_)
  clear hK K
  try simp only [Act.put, List.getElem_toArray, List.getElem_cons_succ, List.getElem_cons_zero, List.setIfInBounds_toArray, List.set_cons_zero, List.set_cons_succ]
  refine wpAnyH_ready (rs := [8]) (by kernel_rfl) (by simp) (AllReadyH.cons (o := _) rfl (fun K hK => ?_) AllReadyH.nil)
  go_simp
  have b2 := (Below.refl y1.heap.size y1).alloc (Nat.le_refl _) (.cells #[.string nm, .int .i64 kd, .int .i64 ty, .int .i64 s.lev, .int .i32 nn, .int .i64 md, .bool ou, .slice Aq ps.length cq] pO)
  have Y2 := Lib.hid (Y1.out.below b2 Y1.out.lt)
  have T2 := Lib.hid (T1.out.below b2)
  have HP2 := Lib.hid (HP1.out.below b2)
  have R2 := Lib.hid (HR.out.below (BY1.out.trans (b2.mono BY1.out.size)))
  have BY2 := Lib.hid (BY1.out.trans (b2.mono BY1.out.size))
  have NC := Lib.hid (show ∀ (j : Nat) u, ([.string nm, .int .i64 kd, .int .i64 ty, .int .i64 s.lev, .int .i32 nn, .int .i64 md, .bool ou, .slice Aq ps.length cq] : List Value)[j]? = some u → (y1.alloc (.cells #[.string nm, .int .i64 kd, .int .i64 ty, .int .i64 s.lev, .int .i32 nn, .int .i64 md, .bool ou, .slice Aq ps.length cq] pO)).cell? ((⟨y1.heap.size, 0, none⟩ : Addr).add j) = some u from fun j u hj => by
    rw [Go.WideShapes.add_plain, Nat.zero_add]
    exact ((Whole.made y1 pO #[.string nm, .int .i64 kd, .int .i64 ty, .int .i64 s.lev, .int .i32 nn, .int .i64 md, .bool ou, .slice Aq ps.length cq] y1.heap.size rfl).cell j).trans (by simpa using hj))
  have S2 := KS.out (y1.alloc (.cells #[.string nm, .int .i64 kd, .int .i64 ty, .int .i64 s.lev, .int .i32 nn, .int .i64 md, .bool ou, .slice Aq ps.length cq] pO)) T2.out Y2.out
  clear b2
  refine hK.out _ _ S2 (fun hHeld => ?_)
  clear hK K
  try simp only [Act.put, List.getElem_toArray, List.getElem_cons_succ, List.getElem_cons_zero, List.setIfInBounds_toArray, List.set_cons_zero, List.set_cons_succ]
  refine wpAnyH_ready (rs := [9]) (by kernel_rfl) (by simp) (AllReadyH.cons (o := _) rfl (fun K hK => ?_) AllReadyH.nil)
  refine step_app rfl (.tmp 42) (.tmp 45) 65 rfl B pO i0 _ 8 88 Try.underlying65 hi0 hz0 hz1 hz2 rfl (by decide) (.slice A (T.rx s.lev).length c) (T.rx s.lev).length _ rfl R2.out.row ⟨y1.heap.size, 0, none⟩ 1 1 [.string nm, .int .i64 kd, .int .i64 ty, .int .i64 s.lev, .int .i32 nn, .int .i64 md, .bool ou, .slice Aq ps.length cq] rfl rfl NC.out (fun u hu => by simp at hu; rcases hu with rfl | rfl | rfl | rfl | rfl | rfl | rfl | rfl <;> rfl) (by unfold maxLen; omega) (by omega) (Nat.le_trans HB.out BY2.out.size) ?_
  intro v3 y3 ho3 hg3 hat3
  obtain ⟨A3, c3, rfl⟩ := row_form ho3
  have K3 := Lib.hid (show KeptS (fun k => (T.rv s.lev).ownBlock = some k) (y1.alloc (.cells #[.string nm, .int .i64 kd, .int .i64 ty, .int .i64 s.lev, .int .i32 nn, .int .i64 md, .bool ou, .slice Aq ps.length cq] pO)) y3 from KeptS.grown hg3 (fun b hb => by show (T.rv s.lev).ownBlock = some b; rw [HRV.out]; exact hb))
  have P3 := Lib.hid (K3.out.whole T2.out.blk (fun e => row_ne (T2.out.rows s.lev HL.out.1).row T2.out.blk (fun _ _ h => by injection h with _ h; exact absurd h (by decide)) e))
  have X3 := Lib.hid (K3.out.whole Y2.out (fun e => by have h1 := (row_block (H.out.rows s.lev HL.out.1).row e).2.1; omega))
  have O3 := Lib.hid ho3
  have HAT := Lib.hid hat3
  have S3 := KC.out y3 P3.out X3.out
  have q0 : y3.cell? ⟨T.p, s.lev, none⟩ = some (T.rv s.lev) := (P3.out.cell s.lev).trans (tb_row HL.out.1)
  have q1 : y3.frozen? ⟨T.p, s.lev, none⟩ = false := P3.out.free s.lev
  clear ho3 hg3 hat3
  refine hK.out _ _ S3 (fun hHeld => ?_)
  clear hK K
  try simp only [Act.put, List.getElem_toArray, List.getElem_cons_succ, List.getElem_cons_zero, List.setIfInBounds_toArray, List.set_cons_zero, List.set_cons_succ]
  refine wpAnyH_take (i := 12) (oi := _) (v := .pointer (some ⟨T.p, s.lev, none⟩)) rfl (by kernel_rfl) (by kernel_rfl) (by kernel_rfl) (fun _ _ _ h => h) (Or.inl ⟨by rfl, fun w hSw => by (try dsimp only at hSw); go_simp⟩) (by assumption) ?_
  try simp only [Act.put, List.getElem_toArray, List.getElem_cons_succ, List.getElem_cons_zero, List.setIfInBounds_toArray, List.set_cons_zero, List.set_cons_succ]
  refine wpAnyH_ready (rs := [13]) (by kernel_rfl) (by simp) (AllReadyH.cons (o := _) rfl (fun K hK => ?_) AllReadyH.nil)
  go_simp
  have P4 := P3.out.store s.lev (.slice A3 ((T.rx s.lev).length + 1) c3)
  rw [tb_set_row HL.out.1] at P4
  have X4 := X3.out.far (p := ⟨T.p, s.lev, none⟩) (fun e => by have h1 := H.out.blk.lt; have h2 : w.heap.size = T.p := e; omega) (.slice A3 ((T.rx s.lev).length + 1) c3)
  have S4 := KC2.out (y3.setCell ⟨T.p, s.lev, none⟩ (.slice A3 ((T.rx s.lev).length + 1) c3)) ((P4.cell 65).trans (tb_lev.trans tb_lev.symm)) X4
  have K4 := Lib.hid (show KeptS (fun k => k = T.p ∨ (T.rv s.lev).ownBlock = some k) (y1.alloc (.cells #[.string nm, .int .i64 kd, .int .i64 ty, .int .i64 s.lev, .int .i32 nn, .int .i64 md, .bool ou, .slice Aq ps.length cq] pO)) (y3.setCell ⟨T.p, s.lev, none⟩ (.slice A3 ((T.rx s.lev).length + 1) c3)) from (K3.out.mono (fun _ h => .inr h)).trans (KeptS.set (.inl rfl)) (fun _ h => .inl h))
  have HPp := Lib.hid P4
  refine hK.out _ _ S4 (fun hHeld => ?_)
  clear hK K
  try simp only [Act.put, List.getElem_toArray, List.getElem_cons_succ, List.getElem_cons_zero, List.setIfInBounds_toArray, List.set_cons_zero, List.set_cons_succ]
  refine wpAnyH_done (by kernel_rfl) ?_ _
  refine NoPanic.normal ?_
  clear hHeld S1 S2 S3 S4 KS KC KC2 OW
  have KO := K4.out.mono (S' := Own T) (fun k hk => hk.elim .inl (fun h1 => .inr (.inl ⟨s.lev, HL.out.1, h1⟩)))
  have hr : RowO pO (y3.setCell ⟨T.p, s.lev, none⟩ (.slice A3 ((T.rx s.lev).length + 1) c3)) B B (.slice A3 ((T.rx s.lev).length + 1) c3) (T.rx s.lev ++ [(⟨nm, kd, ty, s.lev, nn, md, ou, ps⟩, .slice Aq ps.length cq)]) := by
    refine ⟨?_, fun x hx => ?_⟩
    · have O4 := World.ownsRow.kept O3.out (grown_set y3 T.p s.lev (.slice A3 ((T.rx s.lev).length + 1) c3)) (.inr (row_ne O3.out P3.out (fun _ _ h => by injection h with _ h; exact absurd h (by decide))))
      rw [List.length_append, List.flatMap_append]
      exact O4
    · rcases List.mem_append.1 hx with hx | hx
      · exact T2.out.keepPar KO (((T2.out.rows s.lev HL.out.1).par x hx))
      · obtain rfl := List.mem_singleton.1 hx
        exact T2.out.keepPar KO HP2.out
  have HC := Lib.hid ((T2.out.turn (s' := { s with L := s.L ++ [⟨nm, kd, ty, s.lev, nn, md, ou, ps⟩] }) HL.out.1 K4.out HPp.out hr (fun b hb => by
    rcases HAT.out with h1 | h1
    · left; rw [HRV.out, ← h1]; exact hb
    · exact .inr (Nat.le_of_eq (Option.some.inj (h1.symm.trans hb)))) rfl (fun j hj hne => (row_append s ⟨nm, kd, ty, lv, nn, md, ou, ps⟩ j).trans (if_neg hne)) (by rw [List.map_append, T2.out.same s.lev HL.out.1]; exact ((row_append s ⟨nm, kd, ty, lv, nn, md, ou, ps⟩ s.lev).trans (if_pos rfl)).symm)).before BY2.out)
  clear hr KO HPp K4 HAT O3 X3 P3 K3 q0 q1
  generalize (y3.setCell ⟨T.p, s.lev, none⟩ (.slice A3 ((T.rx s.lev).length + 1) c3)) = Z at *
  go_wp2_with fail
  go_ret
  exact ⟨rfl, HC.out⟩
end Go.Proofs.Ytpfoebnlngfebaa
