/- Scopes: the program's Change. -/
import Derived.Test.YtpfoebnlngfebaaScpG
namespace Go.Proofs.Ytpfoebnlngfebaa
open Go.ChangeShapes Go.WideShapes Go.ChangeAt Go.RowKit
set_option linter.unusedVariables false
set_option linter.unusedSimpArgs false

theorem find_atP (s : Stt) (i : Nat) (nm : ByteArray) : s.L.find? (atP i nm) = hasP s i nm := by
  show s.L.find? (fun x => x.lv == (i : Int) && nameIs nm x) = (s.L.filter (fun x => x.lv == (i : Int))).find? (nameIs nm)
  rw [List.find?_filter]
  congr 1
  funext a
  cases (a.lv == (i : Int)) <;> cases nameIs nm a <;> rfl

theorem find_atP_out {s : Stt} (hlv : ∀ x ∈ s.L, 0 ≤ x.lv ∧ x.lv ≤ s.lev) {n : Int} (hn : n < 0 ∨ (s.lev : Int) < n) (nm : ByteArray) : s.L.find? (atP n nm) = none := by
  rw [List.find?_eq_none]
  intro x hx h
  have h1 := hlv x hx
  simp [atP] at h
  omega

theorem idxF_congr {α : Type} {q q' : α → Bool} : ∀ {l : List α} {k : Nat}, (∀ x ∈ l, q x = q' x) → idxF q l k = idxF q' l k
  | [], _, _ => rfl
  | x :: l, k, h => by
    rw [idxF_cons, idxF_cons, h x (by simp), idxF_congr (fun y hy => h y (by simp [hy]))]

theorem row_repl {s : Stt} {i : Nat} {nm : ByteArray} {x : Ob} (hx : x.nm = nm) {n : Nat} (hn : idxF (nameIs nm) (s.row i) 0 = (n : Int)) (j : Nat) :
    ({ s with L := replF (atP i nm) { x with lv := i } s.L } : Stt).row j = if j = i then (s.row i).set n { x with lv := i } else s.row j := by
  show (replF (atP i nm) { x with lv := i } s.L).filter (fun y => y.lv == (j : Int)) = _
  split
  · rename_i e
    subst e
    rw [replF_filter (atP j nm) (fun y => y.lv == (j : Int)) _ (fun y hy => by simp [atP] at hy; simp [hy.1]) (by simp)]
    refine replF_set _ _ zO _ n ?_
    rw [← hn]
    refine idxF_congr (fun y hy => ?_)
    have := (List.mem_filter.1 hy).2
    simp only [atP]
    rw [this]
    rfl
  · rename_i e
    refine replF_skip _ _ _ (fun y hy => ?_) ?_ _
    · simp [atP] at hy
      simp [hy.1]
      omega
    · simp
      omega

set_option maxHeartbeats 16000000 in
set_option maxRecDepth 100000 in
theorem change_out (B : Nat) (T : Tb) (s : Stt) (n : Int) (nm : ByteArray) (kd ty lv nn md : Int) (ou : Bool) (ps : List (Int × Bool)) (Ap : Option Addr) (cp : Nat) (w : World) (h : TabAt w B T s) (hp : ParV B w (.slice Ap ps.length cp) ps) (hB : B ≤ w.heap.size) (hl : s.lev ≤ 64) (hlen : s.L.length ≤ 1000) (hlv : ∀ x ∈ s.L, 0 ≤ x.lv ∧ x.lv ≤ s.lev) (hs : nm.size ≤ 140737488355328) (hn : ps.length * 16 ≤ 140737488355328) (hbad : n < 0 ∨ (s.lev : Int) < n) :
    Calls Try.prog 33 #[.pointer (some ⟨T.p, 0, none⟩), .int .i64 n, .agg #[.string nm, .int .i64 kd, .int .i64 ty, .int .i64 lv, .int .i32 nn, .int .i64 md, .bool ou, .slice Ap ps.length cp]] w fun e w' => e = .returned (.int .i64 (changeP s n ⟨nm, kd, ty, lv, nn, md, ou, ps⟩).2) ∧ ChPost B T w (changeP s n ⟨nm, kd, ty, lv, nn, md, ou, ps⟩).1 w' := by
  have bV := (Below.refl w.heap.size w).alloc (Nat.le_refl _) (.cells #[.string nm, .int .i64 kd, .int .i64 ty, .int .i64 lv, .int .i32 nn, .int .i64 md, .bool ou, .slice Ap ps.length cp] pO)
  have BV := Lib.hid bV
  have XV := Lib.hid (Whole.made w pO #[.string nm, .int .i64 kd, .int .i64 ty, .int .i64 lv, .int .i32 nn, .int .i64 md, .bool ou, .slice Ap ps.length cp] _ rfl)
  have H := Lib.hid h
  clear bV
  have DP : changeP s n ⟨nm, kd, ty, lv, nn, md, ou, ps⟩ = (s, 110) := if_pos (find_atP_out hlv hbad nm)
  rw [DP]
  have HC := Lib.hid (h.chSame BV.out)
  have u65 : (w.alloc (.cells #[.string nm, .int .i64 kd, .int .i64 ty, .int .i64 lv, .int .i32 nn, .int .i64 md, .bool ou, .slice Ap ps.length cp] pO)).cell? ⟨T.p, 65, none⟩ = some (.int .i64 s.lev) := ((h.below BV.out).blk.cell 65).trans tb_lev
  clear DP hp h hB hl hlen hn H hs hlv BV XV
  by_cases h0 : n < 0
  · go_enter Try.func33, Try.ntmps33
    go_wp2_with fail
    go_ret
    exact ⟨rfl, HC.out⟩
  · have h1 : (s.lev : Int) < n := hbad.resolve_left h0
    clear hbad
    go_enter Try.func33, Try.ntmps33
    go_wp2_with fail
    go_ret
    exact ⟨rfl, HC.out⟩

set_option maxHeartbeats 16000000 in
set_option maxRecDepth 100000 in
theorem change_none (B : Nat) (T : Tb) (s : Stt) (n : Int) (nm : ByteArray) (kd ty lv nn md : Int) (ou : Bool) (ps : List (Int × Bool)) (Ap : Option Addr) (cp : Nat) (w : World) (h : TabAt w B T s) (hp : ParV B w (.slice Ap ps.length cp) ps) (hB : B ≤ w.heap.size) (hl : s.lev ≤ 64) (hlen : s.L.length ≤ 1000) (hlv : ∀ x ∈ s.L, 0 ≤ x.lv ∧ x.lv ≤ s.lev) (hs : nm.size ≤ 140737488355328) (hn : ps.length * 16 ≤ 140737488355328) (hgood : ¬ (n < 0) ∧ ¬ ((s.lev : Int) < n)) (hx : s.L.find? (atP n nm) = none) :
    Calls Try.prog 33 #[.pointer (some ⟨T.p, 0, none⟩), .int .i64 n, .agg #[.string nm, .int .i64 kd, .int .i64 ty, .int .i64 lv, .int .i32 nn, .int .i64 md, .bool ou, .slice Ap ps.length cp]] w fun e w' => e = .returned (.int .i64 (changeP s n ⟨nm, kd, ty, lv, nn, md, ou, ps⟩).2) ∧ ChPost B T w (changeP s n ⟨nm, kd, ty, lv, nn, md, ou, ps⟩).1 w' := by
  have DP : changeP s n ⟨nm, kd, ty, lv, nn, md, ou, ps⟩ = (s, 110) := if_pos hx
  rw [DP]
  clear DP
  have bV := (Below.refl w.heap.size w).alloc (Nat.le_refl _) (.cells #[.string nm, .int .i64 kd, .int .i64 ty, .int .i64 lv, .int .i32 nn, .int .i64 md, .bool ou, .slice Ap ps.length cp] pO)
  have BV := Lib.hid bV
  have XV := Lib.hid (Whole.made w pO #[.string nm, .int .i64 kd, .int .i64 ty, .int .i64 lv, .int .i32 nn, .int .i64 md, .bool ou, .slice Ap ps.length cp] _ rfl)
  have H := Lib.hid h
  clear bV
  obtain ⟨i, rfl⟩ : ∃ i : Nat, n = (i : Int) := ⟨n.toNat, by omega⟩
  have hi : i < 65 := by omega
  have hI0 : ¬ ((i : Int) < 0) := by omega
  have hI1 : ¬ ((s.lev : Int) < i) := hgood.2
  have hI2 : (i : Int) < 65 := by omega
  have hrow := h.rows i hi
  have hrl : (T.rx i).length = (s.row i).length := by rw [← h.same i hi, List.length_map]
  have hrl2 : (s.row i).length ≤ s.L.length := List.length_filter_le _ _
  have hr1 : (T.rx i).length ≤ 1000 := by omega
  obtain ⟨A, c, hrv⟩ := row_form hrow.row
  rw [hrv] at hrow
  have IX := Lib.hid (fun W (hb : Below w.heap.size w W) => indexof_any nm (.slice A (T.rx i).length c) B B (T.rx i) W (hrow.below hb) (by unfold maxLen; omega))
  have HR := Lib.hid hrow
  have HRV := Lib.hid hrv
  have HS := Lib.hid hs
  have HN := Lib.hid hn
  have HP := Lib.hid hp
  have HB := Lib.hid hB
  have HRL := Lib.hid hrl
  have HL := Lib.hid (And.intro hi hlen)
  have p0 : (w.alloc (.cells #[.string nm, .int .i64 kd, .int .i64 ty, .int .i64 lv, .int .i32 nn, .int .i64 md, .bool ou, .slice Ap ps.length cp] pO)).cell? ⟨w.heap.size, 0, none⟩ = some (.string nm) := XV.out.cell 0
  have u65 : (w.alloc (.cells #[.string nm, .int .i64 kd, .int .i64 ty, .int .i64 lv, .int .i32 nn, .int .i64 md, .bool ou, .slice Ap ps.length cp] pO)).cell? ⟨T.p, 65, none⟩ = some (.int .i64 s.lev) := ((h.below BV.out).blk.cell 65).trans tb_lev
  have ur : (w.alloc (.cells #[.string nm, .int .i64 kd, .int .i64 ty, .int .i64 lv, .int .i32 nn, .int .i64 md, .bool ou, .slice Ap ps.length cp] pO)).cell? ⟨T.p, i, none⟩ = some (.slice A (T.rx i).length c) := by rw [← hrv]; exact ((h.below BV.out).blk.cell i).trans (tb_row hi)
  have hix := has_idx h hi nm
  have HIX := Lib.hid hix
  clear hrow hrv hrl hrl2 hlen hp hB hs hn h hlv hgood hix
  generalize hxi : idxF (nameIs nm) ((T.rx i).map (·.1)) 0 = xi at *
  have L0 : (w.alloc (.cells #[.string nm, .int .i64 kd, .int .i64 ty, .int .i64 lv, .int .i32 nn, .int .i64 md, .bool ou, .slice Ap ps.length cp] pO)).drew.cell? ⟨T.p, i, none⟩ = some (.slice A (T.rx i).length c) ∧ (w.alloc (.cells #[.string nm, .int .i64 kd, .int .i64 ty, .int .i64 lv, .int .i32 nn, .int .i64 md, .bool ou, .slice Ap ps.length cp] pO)).drew.cell? ⟨w.heap.size, 0, none⟩ = some (.string nm) := ⟨ur, p0⟩
  have XU := Lib.hid (show Whole (w.alloc (.cells #[.string nm, .int .i64 kd, .int .i64 ty, .int .i64 lv, .int .i32 nn, .int .i64 md, .bool ou, .slice Ap ps.length cp] pO)).drew w.heap.size pO #[.string nm, .int .i64 kd, .int .i64 ty, .int .i64 lv, .int .i32 nn, .int .i64 md, .bool ou, .slice Ap ps.length cp] from XV.out)
  have BU := Lib.hid BV.out.drew
  go_enter Try.func33, Try.ntmps33
  go_wp2_with fail
  clear u65 p0 ur BV XV
  refine wp_region_noPanic ?_
  refine wp_region_held_drew (S := fun y => y.cell? ⟨T.p, i, none⟩ = some (.slice A (T.rx i).length c) ∧ y.cell? ⟨w.heap.size, 0, none⟩ = some (.string nm)) (by kernel_rfl) L0 (fun hHeld => ?_)
  clear L0
  refine wpAnyH_take (i := 0) (oi := _) (v := .pointer (some ⟨T.p, 0, none⟩)) rfl (by kernel_rfl) (by kernel_rfl) (by kernel_rfl) (fun _ _ _ h => h) (Or.inl ⟨by rfl, fun w hSw => by (try dsimp only at hSw); go_simp⟩) (by assumption) ?_
  try simp only [Act.put, List.getElem_toArray, List.getElem_cons_succ, List.getElem_cons_zero, List.setIfInBounds_toArray, List.set_cons_zero, List.set_cons_succ]
  refine wpAnyH_take (i := 1) (oi := _) (v := .int .i64 i) rfl (by kernel_rfl) (by kernel_rfl) (by kernel_rfl) (fun _ _ _ h => h) (Or.inl ⟨by rfl, fun w hSw => by (try dsimp only at hSw); go_simp⟩) (by assumption) ?_
  try simp only [Act.put, List.getElem_toArray, List.getElem_cons_succ, List.getElem_cons_zero, List.setIfInBounds_toArray, List.set_cons_zero, List.set_cons_succ]
  refine wpAnyH_take (i := 2) (oi := _) (v := .pointer (some ⟨T.p, 0, none⟩)) rfl (by kernel_rfl) (by kernel_rfl) (by kernel_rfl) (fun _ _ _ h => h) (Or.inl ⟨by rfl, fun w hSw => by (try dsimp only at hSw); go_simp⟩) (by assumption) ?_
  try simp only [Act.put, List.getElem_toArray, List.getElem_cons_succ, List.getElem_cons_zero, List.setIfInBounds_toArray, List.set_cons_zero, List.set_cons_succ]
  refine wpAnyH_take (i := 3) (oi := _) (v := .pointer (some ⟨T.p, 0, none⟩)) rfl (by kernel_rfl) (by kernel_rfl) (by kernel_rfl) (fun _ _ _ h => h) (Or.inl ⟨by rfl, fun w hSw => by (try dsimp only at hSw); go_simp⟩) (by assumption) ?_
  try simp only [Act.put, List.getElem_toArray, List.getElem_cons_succ, List.getElem_cons_zero, List.setIfInBounds_toArray, List.set_cons_zero, List.set_cons_succ]
  refine wpAnyH_take (i := 4) (oi := _) (v := .pointer (some ⟨T.p, i, none⟩)) rfl (by kernel_rfl) (by kernel_rfl) (by kernel_rfl) (fun _ _ _ h => h) (Or.inl ⟨by rfl, fun w hSw => by (try dsimp only at hSw); go_simp⟩) (by assumption) ?_
  try simp only [Act.put, List.getElem_toArray, List.getElem_cons_succ, List.getElem_cons_zero, List.setIfInBounds_toArray, List.set_cons_zero, List.set_cons_succ]
  refine wpAnyH_take (i := 5) (oi := _) (v := .slice A (T.rx i).length c) rfl (by kernel_rfl) (by kernel_rfl) (by kernel_rfl) (fun _ _ _ h => h) (Or.inl ⟨by rfl, fun w hSw => by (try dsimp only at hSw); go_simp⟩) (by assumption) ?_
  try simp only [Act.put, List.getElem_toArray, List.getElem_cons_succ, List.getElem_cons_zero, List.setIfInBounds_toArray, List.set_cons_zero, List.set_cons_succ]
  refine wpAnyH_take (i := 6) (oi := _) (v := .pointer (some ⟨w.heap.size, 0, none⟩)) rfl (by kernel_rfl) (by kernel_rfl) (by kernel_rfl) (fun _ _ _ h => h) (Or.inl ⟨by rfl, fun w hSw => by (try dsimp only at hSw); go_simp⟩) (by assumption) ?_
  try simp only [Act.put, List.getElem_toArray, List.getElem_cons_succ, List.getElem_cons_zero, List.setIfInBounds_toArray, List.set_cons_zero, List.set_cons_succ]
  refine wpAnyH_take (i := 7) (oi := _) (v := .string nm) rfl (by kernel_rfl) (by kernel_rfl) (by kernel_rfl) (fun _ _ _ h => h) (Or.inl ⟨by rfl, fun w hSw => by (try dsimp only at hSw); go_simp⟩) (by assumption) ?_
  try simp only [Act.put, List.getElem_toArray, List.getElem_cons_succ, List.getElem_cons_zero, List.setIfInBounds_toArray, List.set_cons_zero, List.set_cons_succ]
  refine wpAnyH_ready (rs := [8]) (by kernel_rfl) (by simp) (AllReadyH.cons (o := _) rfl (fun K hK => ?_) AllReadyH.nil)
  go_simp
  go_at_call 27
  refine ((IX.out _ BU.out)).mono ?_
  rintro e w2 ⟨rfl, hb2⟩
  have B2 := Lib.hid (BU.out.trans (hb2.mono BU.out.size))
  have X2 := Lib.hid (XU.out.below hb2 XU.out.lt)
  have S1 : w2.cell? ⟨T.p, i, none⟩ = some (.slice A (T.rx i).length c) ∧ w2.cell? ⟨w.heap.size, 0, none⟩ = some (.string nm) := ⟨by rw [← HRV.out]; exact ((H.out.below B2.out).blk.cell i).trans (tb_row HL.out.1), X2.out.cell 0⟩
  clear hb2
  refine hK.out _ _ S1 (fun hHeld => ?_)
  clear hK K
  try simp only [Act.put, List.getElem_toArray, List.getElem_cons_succ, List.getElem_cons_zero, List.setIfInBounds_toArray, List.set_cons_zero, List.set_cons_succ]
  refine wpAnyH_ready (rs := [9]) (by kernel_rfl) (by simp) (AllReadyH.cons (o := _) rfl (fun K hK => ?_) AllReadyH.nil)
  go_simp
  refine hK.out _ _ S1 (fun hHeld => ?_)
  clear hK K
  try simp only [Act.put, List.getElem_toArray, List.getElem_cons_succ, List.getElem_cons_zero, List.setIfInBounds_toArray, List.set_cons_zero, List.set_cons_succ]
  refine wpAnyH_done (by kernel_rfl) ?_ _
  refine NoPanic.normal ?_
  clear hHeld S1 BU XU IX
  have hxi0 : xi < 0 := by
    rcases HIX.out with ⟨_, h1⟩ | ⟨n, _, h1, h2⟩
    · omega
    · rw [find_atP, h2] at hx
      cases hx
  have HC := Lib.hid (H.out.chSame B2.out)
  clear hxi hx HIX
  go_wp2_with fail
  go_ret
  exact ⟨rfl, HC.out⟩

set_option maxHeartbeats 16000000 in
set_option maxRecDepth 100000 in
theorem change_ok (B : Nat) (T : Tb) (s : Stt) (n : Int) (nm : ByteArray) (kd ty lv nn md : Int) (ou : Bool) (ps : List (Int × Bool)) (Ap : Option Addr) (cp : Nat) (w : World) (h : TabAt w B T s) (hp : ParV B w (.slice Ap ps.length cp) ps) (hB : B ≤ w.heap.size) (hl : s.lev ≤ 64) (hlen : s.L.length ≤ 1000) (hlv : ∀ x ∈ s.L, 0 ≤ x.lv ∧ x.lv ≤ s.lev) (hs : nm.size ≤ 140737488355328) (hn : ps.length * 16 ≤ 140737488355328) (hgood : ¬ (n < 0) ∧ ¬ ((s.lev : Int) < n)) (hx : s.L.find? (atP n nm) ≠ none) :
    Calls Try.prog 33 #[.pointer (some ⟨T.p, 0, none⟩), .int .i64 n, .agg #[.string nm, .int .i64 kd, .int .i64 ty, .int .i64 lv, .int .i32 nn, .int .i64 md, .bool ou, .slice Ap ps.length cp]] w fun e w' => e = .returned (.int .i64 (changeP s n ⟨nm, kd, ty, lv, nn, md, ou, ps⟩).2) ∧ ChPost B T w (changeP s n ⟨nm, kd, ty, lv, nn, md, ou, ps⟩).1 w' := by
  have DP : changeP s n ⟨nm, kd, ty, lv, nn, md, ou, ps⟩ = ({ s with L := replF (atP n nm) { nm := nm, kd := kd, ty := ty, lv := n, nn := nn, md := md, ou := ou, ps := ps } s.L }, 0) := if_neg hx
  rw [DP]
  clear DP
  have bV := (Below.refl w.heap.size w).alloc (Nat.le_refl _) (.cells #[.string nm, .int .i64 kd, .int .i64 ty, .int .i64 lv, .int .i32 nn, .int .i64 md, .bool ou, .slice Ap ps.length cp] pO)
  have BV := Lib.hid bV
  have XV := Lib.hid (Whole.made w pO #[.string nm, .int .i64 kd, .int .i64 ty, .int .i64 lv, .int .i32 nn, .int .i64 md, .bool ou, .slice Ap ps.length cp] _ rfl)
  have H := Lib.hid h
  clear bV
  obtain ⟨i, rfl⟩ : ∃ i : Nat, n = (i : Int) := ⟨n.toNat, by omega⟩
  have hi : i < 65 := by omega
  have hI0 : ¬ ((i : Int) < 0) := by omega
  have hI1 : ¬ ((s.lev : Int) < i) := hgood.2
  have hI2 : (i : Int) < 65 := by omega
  have hrow := h.rows i hi
  have hrl : (T.rx i).length = (s.row i).length := by rw [← h.same i hi, List.length_map]
  have hrl2 : (s.row i).length ≤ s.L.length := List.length_filter_le _ _
  have hr1 : (T.rx i).length ≤ 1000 := by omega
  obtain ⟨A, c, hrv⟩ := row_form hrow.row
  rw [hrv] at hrow
  have IX := Lib.hid (fun W (hb : Below w.heap.size w W) => indexof_any nm (.slice A (T.rx i).length c) B B (T.rx i) W (hrow.below hb) (by unfold maxLen; omega))
  have HR := Lib.hid hrow
  have HRV := Lib.hid hrv
  have HS := Lib.hid hs
  have HN := Lib.hid hn
  have HP := Lib.hid hp
  have HB := Lib.hid hB
  have HRL := Lib.hid hrl
  have HL := Lib.hid (And.intro hi hlen)
  have p0 : (w.alloc (.cells #[.string nm, .int .i64 kd, .int .i64 ty, .int .i64 lv, .int .i32 nn, .int .i64 md, .bool ou, .slice Ap ps.length cp] pO)).cell? ⟨w.heap.size, 0, none⟩ = some (.string nm) := XV.out.cell 0
  have u65 : (w.alloc (.cells #[.string nm, .int .i64 kd, .int .i64 ty, .int .i64 lv, .int .i32 nn, .int .i64 md, .bool ou, .slice Ap ps.length cp] pO)).cell? ⟨T.p, 65, none⟩ = some (.int .i64 s.lev) := ((h.below BV.out).blk.cell 65).trans tb_lev
  have ur : (w.alloc (.cells #[.string nm, .int .i64 kd, .int .i64 ty, .int .i64 lv, .int .i32 nn, .int .i64 md, .bool ou, .slice Ap ps.length cp] pO)).cell? ⟨T.p, i, none⟩ = some (.slice A (T.rx i).length c) := by rw [← hrv]; exact ((h.below BV.out).blk.cell i).trans (tb_row hi)
  have hix := has_idx h hi nm
  have HIX := Lib.hid hix
  clear hrow hrv hrl hrl2 hlen hp hB hs hn h hlv hgood hix
  generalize hxi : idxF (nameIs nm) ((T.rx i).map (·.1)) 0 = xi at *
  have L0 : (w.alloc (.cells #[.string nm, .int .i64 kd, .int .i64 ty, .int .i64 lv, .int .i32 nn, .int .i64 md, .bool ou, .slice Ap ps.length cp] pO)).drew.cell? ⟨T.p, i, none⟩ = some (.slice A (T.rx i).length c) ∧ (w.alloc (.cells #[.string nm, .int .i64 kd, .int .i64 ty, .int .i64 lv, .int .i32 nn, .int .i64 md, .bool ou, .slice Ap ps.length cp] pO)).drew.cell? ⟨w.heap.size, 0, none⟩ = some (.string nm) := ⟨ur, p0⟩
  have XU := Lib.hid (show Whole (w.alloc (.cells #[.string nm, .int .i64 kd, .int .i64 ty, .int .i64 lv, .int .i32 nn, .int .i64 md, .bool ou, .slice Ap ps.length cp] pO)).drew w.heap.size pO #[.string nm, .int .i64 kd, .int .i64 ty, .int .i64 lv, .int .i32 nn, .int .i64 md, .bool ou, .slice Ap ps.length cp] from XV.out)
  have BU := Lib.hid BV.out.drew
  go_enter Try.func33, Try.ntmps33
  go_wp2_with fail
  clear u65 p0 ur BV XV
  refine wp_region_noPanic ?_
  refine wp_region_held_drew (S := fun y => y.cell? ⟨T.p, i, none⟩ = some (.slice A (T.rx i).length c) ∧ y.cell? ⟨w.heap.size, 0, none⟩ = some (.string nm)) (by kernel_rfl) L0 (fun hHeld => ?_)
  clear L0
  refine wpAnyH_take (i := 0) (oi := _) (v := .pointer (some ⟨T.p, 0, none⟩)) rfl (by kernel_rfl) (by kernel_rfl) (by kernel_rfl) (fun _ _ _ h => h) (Or.inl ⟨by rfl, fun w hSw => by (try dsimp only at hSw); go_simp⟩) (by assumption) ?_
  try simp only [Act.put, List.getElem_toArray, List.getElem_cons_succ, List.getElem_cons_zero, List.setIfInBounds_toArray, List.set_cons_zero, List.set_cons_succ]
  refine wpAnyH_take (i := 1) (oi := _) (v := .int .i64 i) rfl (by kernel_rfl) (by kernel_rfl) (by kernel_rfl) (fun _ _ _ h => h) (Or.inl ⟨by rfl, fun w hSw => by (try dsimp only at hSw); go_simp⟩) (by assumption) ?_
  try simp only [Act.put, List.getElem_toArray, List.getElem_cons_succ, List.getElem_cons_zero, List.setIfInBounds_toArray, List.set_cons_zero, List.set_cons_succ]
  refine wpAnyH_take (i := 2) (oi := _) (v := .pointer (some ⟨T.p, 0, none⟩)) rfl (by kernel_rfl) (by kernel_rfl) (by kernel_rfl) (fun _ _ _ h => h) (Or.inl ⟨by rfl, fun w hSw => by (try dsimp only at hSw); go_simp⟩) (by assumption) ?_
  try simp only [Act.put, List.getElem_toArray, List.getElem_cons_succ, List.getElem_cons_zero, List.setIfInBounds_toArray, List.set_cons_zero, List.set_cons_succ]
  refine wpAnyH_take (i := 3) (oi := _) (v := .pointer (some ⟨T.p, 0, none⟩)) rfl (by kernel_rfl) (by kernel_rfl) (by kernel_rfl) (fun _ _ _ h => h) (Or.inl ⟨by rfl, fun w hSw => by (try dsimp only at hSw); go_simp⟩) (by assumption) ?_
  try simp only [Act.put, List.getElem_toArray, List.getElem_cons_succ, List.getElem_cons_zero, List.setIfInBounds_toArray, List.set_cons_zero, List.set_cons_succ]
  refine wpAnyH_take (i := 4) (oi := _) (v := .pointer (some ⟨T.p, i, none⟩)) rfl (by kernel_rfl) (by kernel_rfl) (by kernel_rfl) (fun _ _ _ h => h) (Or.inl ⟨by rfl, fun w hSw => by (try dsimp only at hSw); go_simp⟩) (by assumption) ?_
  try simp only [Act.put, List.getElem_toArray, List.getElem_cons_succ, List.getElem_cons_zero, List.setIfInBounds_toArray, List.set_cons_zero, List.set_cons_succ]
  refine wpAnyH_take (i := 5) (oi := _) (v := .slice A (T.rx i).length c) rfl (by kernel_rfl) (by kernel_rfl) (by kernel_rfl) (fun _ _ _ h => h) (Or.inl ⟨by rfl, fun w hSw => by (try dsimp only at hSw); go_simp⟩) (by assumption) ?_
  try simp only [Act.put, List.getElem_toArray, List.getElem_cons_succ, List.getElem_cons_zero, List.setIfInBounds_toArray, List.set_cons_zero, List.set_cons_succ]
  refine wpAnyH_take (i := 6) (oi := _) (v := .pointer (some ⟨w.heap.size, 0, none⟩)) rfl (by kernel_rfl) (by kernel_rfl) (by kernel_rfl) (fun _ _ _ h => h) (Or.inl ⟨by rfl, fun w hSw => by (try dsimp only at hSw); go_simp⟩) (by assumption) ?_
  try simp only [Act.put, List.getElem_toArray, List.getElem_cons_succ, List.getElem_cons_zero, List.setIfInBounds_toArray, List.set_cons_zero, List.set_cons_succ]
  refine wpAnyH_take (i := 7) (oi := _) (v := .string nm) rfl (by kernel_rfl) (by kernel_rfl) (by kernel_rfl) (fun _ _ _ h => h) (Or.inl ⟨by rfl, fun w hSw => by (try dsimp only at hSw); go_simp⟩) (by assumption) ?_
  try simp only [Act.put, List.getElem_toArray, List.getElem_cons_succ, List.getElem_cons_zero, List.setIfInBounds_toArray, List.set_cons_zero, List.set_cons_succ]
  refine wpAnyH_ready (rs := [8]) (by kernel_rfl) (by simp) (AllReadyH.cons (o := _) rfl (fun K hK => ?_) AllReadyH.nil)
  go_simp
  go_at_call 27
  refine ((IX.out _ BU.out)).mono ?_
  rintro e w2 ⟨rfl, hb2⟩
  have B2 := Lib.hid (BU.out.trans (hb2.mono BU.out.size))
  have X2 := Lib.hid (XU.out.below hb2 XU.out.lt)
  have S1 : w2.cell? ⟨T.p, i, none⟩ = some (.slice A (T.rx i).length c) ∧ w2.cell? ⟨w.heap.size, 0, none⟩ = some (.string nm) := ⟨by rw [← HRV.out]; exact ((H.out.below B2.out).blk.cell i).trans (tb_row HL.out.1), X2.out.cell 0⟩
  clear hb2
  refine hK.out _ _ S1 (fun hHeld => ?_)
  clear hK K
  try simp only [Act.put, List.getElem_toArray, List.getElem_cons_succ, List.getElem_cons_zero, List.setIfInBounds_toArray, List.set_cons_zero, List.set_cons_succ]
  refine wpAnyH_ready (rs := [9]) (by kernel_rfl) (by simp) (AllReadyH.cons (o := _) rfl (fun K hK => ?_) AllReadyH.nil)
  go_simp
  refine hK.out _ _ S1 (fun hHeld => ?_)
  clear hK K
  try simp only [Act.put, List.getElem_toArray, List.getElem_cons_succ, List.getElem_cons_zero, List.setIfInBounds_toArray, List.set_cons_zero, List.set_cons_succ]
  refine wpAnyH_done (by kernel_rfl) ?_ _
  refine NoPanic.normal ?_
  clear hHeld S1 BU XU IX
  obtain ⟨m, hm, rfl⟩ : ∃ m : Nat, m < (T.rx i).length ∧ xi = (m : Int) := by
    rcases HIX.out with ⟨h1, _⟩ | ⟨m, h0, h1, h2⟩
    · rw [find_atP, h1] at hx
      exact absurd rfl hx
    · exact ⟨m, h0, h1⟩
  have HXI := Lib.hid hxi
  have HM := Lib.hid hm
  obtain ⟨g, rfl, hcap, _, hg, hc⟩ := (HR.out).at hm
  have hmI : (m : Int) < (T.rx i).length := by omega
  have HG := Lib.hid hg
  have OC := Lib.hid (show ∀ k, k < 8 → ∃ o, w.cell? ⟨g, m * 8 + k, none⟩ = some o ∧ w.frozen? ⟨g, m * 8 + k, none⟩ = false from fun k hk => by
    obtain ⟨_, _, _, _, _, _, _, _, _, _, _, _, hc⟩ := hc
    have := hc k _ (List.getElem?_eq_getElem (by simpa using hk))
    exact ⟨_, this⟩)
  clear hxi hx HIX hm hcap hg hc
  have x3 : w2.cell? ⟨w.heap.size, 3, none⟩ = some (.int .i64 lv) := X2.out.cell 3
  have x3f : w2.frozen? ⟨w.heap.size, 3, none⟩ = false := X2.out.free 3
  go_wp2_with fail
  have X3 := Lib.hid (show Whole (w2.setCell ⟨w.heap.size, 3, none⟩ (.int .i64 i)) w.heap.size pO #[.string nm, .int .i64 kd, .int .i64 ty, .int .i64 i, .int .i32 nn, .int .i64 md, .bool ou, .slice Ap ps.length cp] from X2.out.store 3 _)
  have B3 := Lib.hid (B2.out.setCell (p := ⟨w.heap.size, 3, none⟩) (Nat.le_refl _) (.int .i64 i))
  clear x3 x3f X2 B2
  generalize (w2.setCell ⟨w.heap.size, 3, none⟩ (.int .i64 i)) = V3 at *
  obtain ⟨U, hU⟩ : ∃ U, U = V3.drew := ⟨_, rfl⟩
  have XU := Lib.hid (show Whole U w.heap.size pO #[.string nm, .int .i64 kd, .int .i64 ty, .int .i64 i, .int .i32 nn, .int .i64 md, .bool ou, .slice Ap ps.length cp] from by rw [hU]; exact X3.out)
  have BU := Lib.hid (show Below w.heap.size w U from by rw [hU]; exact B3.out.drew)
  have TU := Lib.hid (H.out.below BU.out)
  have KC := Lib.hid (show ∀ y : World, Whole y T.p pS (tbCells T.rv s.lev T.mv) → Whole y w.heap.size pO #[.string nm, .int .i64 kd, .int .i64 ty, .int .i64 i, .int .i32 nn, .int .i64 md, .bool ou, .slice Ap ps.length cp] → y.cell? ⟨T.p, i, none⟩ = some (.slice (some ⟨g, 0, none⟩) (T.rx i).length c) ∧ y.cell? ⟨w.heap.size, 0, none⟩ = some (.string nm) ∧ y.cell? ⟨w.heap.size, 1, none⟩ = some (.int .i64 kd) ∧ y.cell? ⟨w.heap.size, 2, none⟩ = some (.int .i64 ty) ∧ y.cell? ⟨w.heap.size, 3, none⟩ = some (.int .i64 i) ∧ y.cell? ⟨w.heap.size, 4, none⟩ = some (.int .i32 nn) ∧ y.cell? ⟨w.heap.size, 5, none⟩ = some (.int .i64 md) ∧ y.cell? ⟨w.heap.size, 6, none⟩ = some (.bool ou) ∧ y.cell? ⟨w.heap.size, 7, none⟩ = some (.slice Ap ps.length cp) from fun y h1 h2 => ⟨by rw [← HRV.out]; exact (h1.cell i).trans (tb_row HL.out.1), h2.cell 0, h2.cell 1, h2.cell 2, h2.cell 3, h2.cell 4, h2.cell 5, h2.cell 6, h2.cell 7⟩)
  have KS := Lib.hid (show ∀ y : World, TabAt y B T s → Whole y w.heap.size pO #[.string nm, .int .i64 kd, .int .i64 ty, .int .i64 i, .int .i32 nn, .int .i64 md, .bool ou, .slice Ap ps.length cp] → y.cell? ⟨T.p, i, none⟩ = some (.slice (some ⟨g, 0, none⟩) (T.rx i).length c) ∧ y.cell? ⟨w.heap.size, 0, none⟩ = some (.string nm) ∧ y.cell? ⟨w.heap.size, 1, none⟩ = some (.int .i64 kd) ∧ y.cell? ⟨w.heap.size, 2, none⟩ = some (.int .i64 ty) ∧ y.cell? ⟨w.heap.size, 3, none⟩ = some (.int .i64 i) ∧ y.cell? ⟨w.heap.size, 4, none⟩ = some (.int .i32 nn) ∧ y.cell? ⟨w.heap.size, 5, none⟩ = some (.int .i64 md) ∧ y.cell? ⟨w.heap.size, 6, none⟩ = some (.bool ou) ∧ y.cell? ⟨w.heap.size, 7, none⟩ = some (.slice Ap ps.length cp) from fun y h1 h2 => KC.out y h1.blk h2)
  have OW := Lib.hid (fun W hW hB => own_any nm kd ty i nn md ou ps Ap cp B W hW hB HS.out HN.out)
  have L0 : V3.drew.cell? ⟨T.p, i, none⟩ = some (.slice (some ⟨g, 0, none⟩) (T.rx i).length c) ∧ V3.drew.cell? ⟨w.heap.size, 0, none⟩ = some (.string nm) ∧ V3.drew.cell? ⟨w.heap.size, 1, none⟩ = some (.int .i64 kd) ∧ V3.drew.cell? ⟨w.heap.size, 2, none⟩ = some (.int .i64 ty) ∧ V3.drew.cell? ⟨w.heap.size, 3, none⟩ = some (.int .i64 i) ∧ V3.drew.cell? ⟨w.heap.size, 4, none⟩ = some (.int .i32 nn) ∧ V3.drew.cell? ⟨w.heap.size, 5, none⟩ = some (.int .i64 md) ∧ V3.drew.cell? ⟨w.heap.size, 6, none⟩ = some (.bool ou) ∧ V3.drew.cell? ⟨w.heap.size, 7, none⟩ = some (.slice Ap ps.length cp) := by rw [← hU]; exact KS.out U TU.out XU.out
  go_wp2_with fail
  refine wp_region_noPanic ?_
  refine wp_region_held_drew (S := fun y => y.cell? ⟨T.p, i, none⟩ = some (.slice (some ⟨g, 0, none⟩) (T.rx i).length c) ∧ y.cell? ⟨w.heap.size, 0, none⟩ = some (.string nm) ∧ y.cell? ⟨w.heap.size, 1, none⟩ = some (.int .i64 kd) ∧ y.cell? ⟨w.heap.size, 2, none⟩ = some (.int .i64 ty) ∧ y.cell? ⟨w.heap.size, 3, none⟩ = some (.int .i64 i) ∧ y.cell? ⟨w.heap.size, 4, none⟩ = some (.int .i32 nn) ∧ y.cell? ⟨w.heap.size, 5, none⟩ = some (.int .i64 md) ∧ y.cell? ⟨w.heap.size, 6, none⟩ = some (.bool ou) ∧ y.cell? ⟨w.heap.size, 7, none⟩ = some (.slice Ap ps.length cp)) (by kernel_rfl) L0 (fun hHeld => ?_)
  rw [← hU]
  rw [← hU] at hHeld
  clear hU L0 X3 B3
  refine wpAnyH_take (i := 0) (oi := _) (v := .pointer (some ⟨T.p, 0, none⟩)) rfl (by kernel_rfl) (by kernel_rfl) (by kernel_rfl) (fun _ _ _ h => h) (Or.inl ⟨by rfl, fun w hSw => by (try dsimp only at hSw); go_simp⟩) (by assumption) ?_
  try simp only [Act.put, List.getElem_toArray, List.getElem_cons_succ, List.getElem_cons_zero, List.setIfInBounds_toArray, List.set_cons_zero, List.set_cons_succ]
  refine wpAnyH_take (i := 1) (oi := _) (v := .int .i64 i) rfl (by kernel_rfl) (by kernel_rfl) (by kernel_rfl) (fun _ _ _ h => h) (Or.inl ⟨by rfl, fun w hSw => by (try dsimp only at hSw); go_simp⟩) (by assumption) ?_
  try simp only [Act.put, List.getElem_toArray, List.getElem_cons_succ, List.getElem_cons_zero, List.setIfInBounds_toArray, List.set_cons_zero, List.set_cons_succ]
  refine wpAnyH_take (i := 2) (oi := _) (v := .pointer (some ⟨T.p, 0, none⟩)) rfl (by kernel_rfl) (by kernel_rfl) (by kernel_rfl) (fun _ _ _ h => h) (Or.inl ⟨by rfl, fun w hSw => by (try dsimp only at hSw); go_simp⟩) (by assumption) ?_
  try simp only [Act.put, List.getElem_toArray, List.getElem_cons_succ, List.getElem_cons_zero, List.setIfInBounds_toArray, List.set_cons_zero, List.set_cons_succ]
  refine wpAnyH_take (i := 3) (oi := _) (v := .pointer (some ⟨T.p, 0, none⟩)) rfl (by kernel_rfl) (by kernel_rfl) (by kernel_rfl) (fun _ _ _ h => h) (Or.inl ⟨by rfl, fun w hSw => by (try dsimp only at hSw); go_simp⟩) (by assumption) ?_
  try simp only [Act.put, List.getElem_toArray, List.getElem_cons_succ, List.getElem_cons_zero, List.setIfInBounds_toArray, List.set_cons_zero, List.set_cons_succ]
  refine wpAnyH_take (i := 4) (oi := _) (v := .pointer (some ⟨T.p, i, none⟩)) rfl (by kernel_rfl) (by kernel_rfl) (by kernel_rfl) (fun _ _ _ h => h) (Or.inl ⟨by rfl, fun w hSw => by (try dsimp only at hSw); go_simp⟩) (by assumption) ?_
  try simp only [Act.put, List.getElem_toArray, List.getElem_cons_succ, List.getElem_cons_zero, List.setIfInBounds_toArray, List.set_cons_zero, List.set_cons_succ]
  refine wpAnyH_take (i := 5) (oi := _) (v := .slice (some ⟨g, 0, none⟩) (T.rx i).length c) rfl (by kernel_rfl) (by kernel_rfl) (by kernel_rfl) (fun _ _ _ h => h) (Or.inl ⟨by rfl, fun w hSw => by (try dsimp only at hSw); go_simp⟩) (by assumption) ?_
  try simp only [Act.put, List.getElem_toArray, List.getElem_cons_succ, List.getElem_cons_zero, List.setIfInBounds_toArray, List.set_cons_zero, List.set_cons_succ]
  refine wpAnyH_take (i := 6) (oi := _) (v := .int .i64 m) rfl (by kernel_rfl) (by kernel_rfl) (by kernel_rfl) (fun _ _ _ h => h) (Or.inl ⟨by rfl, fun w hSw => by (try dsimp only at hSw); go_simp⟩) (by assumption) ?_
  try simp only [Act.put, List.getElem_toArray, List.getElem_cons_succ, List.getElem_cons_zero, List.setIfInBounds_toArray, List.set_cons_zero, List.set_cons_succ]
  refine wpAnyH_take (i := 7) (oi := _) (v := .agg #[.string nm, .int .i64 kd, .int .i64 ty, .int .i64 i, .int .i32 nn, .int .i64 md, .bool ou, .slice Ap ps.length cp]) rfl (by kernel_rfl) (by kernel_rfl) (by kernel_rfl) (fun _ _ _ h => h) (Or.inl ⟨by rfl, fun w hSw => by (try dsimp only at hSw); go_simp⟩) (by assumption) ?_
  try simp only [Act.put, List.getElem_toArray, List.getElem_cons_succ, List.getElem_cons_zero, List.setIfInBounds_toArray, List.set_cons_zero, List.set_cons_succ]
  refine wpAnyH_ready (rs := [8]) (by kernel_rfl) (by simp) (AllReadyH.cons (o := _) rfl (fun K hK => ?_) AllReadyH.nil)
  go_simp
  go_at_call 26
  refine ((OW.out U (HP.out.below BU.out) (Nat.le_trans HB.out BU.out.size))).mono ?_
  rintro e y1 ⟨Aq, cq, rfl, hb, hp1⟩
  have Y1 := Lib.hid (XU.out.below hb XU.out.lt)
  have T1 := Lib.hid ((TU.out).below hb)
  have HP1 := Lib.hid hp1
  have hcc := BU.out.trans (hb.mono BU.out.size)
  have BY1 := Lib.hid hcc
  have S1 := KS.out y1 T1.out Y1.out
  have RT := Lib.hid (row_set8 (HR.out.below hcc).row (fun _ => rfl) zX (({ nm := nm, kd := kd, ty := ty, lv := i, nn := nn, md := md, ou := ou, ps := ps } : Ob), Value.slice Aq ps.length cq) HM.out (u0 := .string nm) (u1 := .int .i64 kd) (u2 := .int .i64 ty) (u3 := .int .i64 i) (u4 := .int .i32 nn) (u5 := .int .i64 md) (u6 := .bool ou) (u7 := .slice Aq ps.length cq) rfl)
  have K4 := Lib.hid (show KeptS (fun k => (T.rv i).ownBlock = some k) y1 ((((((((y1.setCell ⟨g, m * 8, none⟩ (.string nm)).setCell ⟨g, m * 8 + 1, none⟩ (.int .i64 kd)).setCell ⟨g, m * 8 + 2, none⟩ (.int .i64 ty)).setCell ⟨g, m * 8 + 3, none⟩ (.int .i64 i)).setCell ⟨g, m * 8 + 4, none⟩ (.int .i32 nn)).setCell ⟨g, m * 8 + 5, none⟩ (.int .i64 md)).setCell ⟨g, m * 8 + 6, none⟩ (.bool ou)).setCell ⟨g, m * 8 + 7, none⟩ (.slice Aq ps.length cq)) from KeptS.grown RT.out.2 (fun b hb => by rw [HRV.out]; exact hb))
  obtain ⟨o0, ho0⟩ := OC.out 0 (by decide)
  have r0 : y1.cell? ⟨g, m * 8, none⟩ = some o0 := (hcc.cell (p := ⟨g, m * 8, none⟩) HG.out).trans ho0.1
  have z0 : y1.frozen? ⟨g, m * 8, none⟩ = false := (hcc.frozen (p := ⟨g, m * 8, none⟩) HG.out).trans ho0.2
  clear ho0
  obtain ⟨o1, ho1⟩ := OC.out 1 (by decide)
  have r1 : y1.cell? ⟨g, m * 8 + 1, none⟩ = some o1 := (hcc.cell (p := ⟨g, m * 8 + 1, none⟩) HG.out).trans ho1.1
  have z1 : y1.frozen? ⟨g, m * 8 + 1, none⟩ = false := (hcc.frozen (p := ⟨g, m * 8 + 1, none⟩) HG.out).trans ho1.2
  clear ho1
  obtain ⟨o2, ho2⟩ := OC.out 2 (by decide)
  have r2 : y1.cell? ⟨g, m * 8 + 2, none⟩ = some o2 := (hcc.cell (p := ⟨g, m * 8 + 2, none⟩) HG.out).trans ho2.1
  have z2 : y1.frozen? ⟨g, m * 8 + 2, none⟩ = false := (hcc.frozen (p := ⟨g, m * 8 + 2, none⟩) HG.out).trans ho2.2
  clear ho2
  obtain ⟨o3, ho3⟩ := OC.out 3 (by decide)
  have r3 : y1.cell? ⟨g, m * 8 + 3, none⟩ = some o3 := (hcc.cell (p := ⟨g, m * 8 + 3, none⟩) HG.out).trans ho3.1
  have z3 : y1.frozen? ⟨g, m * 8 + 3, none⟩ = false := (hcc.frozen (p := ⟨g, m * 8 + 3, none⟩) HG.out).trans ho3.2
  clear ho3
  obtain ⟨o4, ho4⟩ := OC.out 4 (by decide)
  have r4 : y1.cell? ⟨g, m * 8 + 4, none⟩ = some o4 := (hcc.cell (p := ⟨g, m * 8 + 4, none⟩) HG.out).trans ho4.1
  have z4 : y1.frozen? ⟨g, m * 8 + 4, none⟩ = false := (hcc.frozen (p := ⟨g, m * 8 + 4, none⟩) HG.out).trans ho4.2
  clear ho4
  obtain ⟨o5, ho5⟩ := OC.out 5 (by decide)
  have r5 : y1.cell? ⟨g, m * 8 + 5, none⟩ = some o5 := (hcc.cell (p := ⟨g, m * 8 + 5, none⟩) HG.out).trans ho5.1
  have z5 : y1.frozen? ⟨g, m * 8 + 5, none⟩ = false := (hcc.frozen (p := ⟨g, m * 8 + 5, none⟩) HG.out).trans ho5.2
  clear ho5
  obtain ⟨o6, ho6⟩ := OC.out 6 (by decide)
  have r6 : y1.cell? ⟨g, m * 8 + 6, none⟩ = some o6 := (hcc.cell (p := ⟨g, m * 8 + 6, none⟩) HG.out).trans ho6.1
  have z6 : y1.frozen? ⟨g, m * 8 + 6, none⟩ = false := (hcc.frozen (p := ⟨g, m * 8 + 6, none⟩) HG.out).trans ho6.2
  clear ho6
  obtain ⟨o7, ho7⟩ := OC.out 7 (by decide)
  have r7 : y1.cell? ⟨g, m * 8 + 7, none⟩ = some o7 := (hcc.cell (p := ⟨g, m * 8 + 7, none⟩) HG.out).trans ho7.1
  have z7 : y1.frozen? ⟨g, m * 8 + 7, none⟩ = false := (hcc.frozen (p := ⟨g, m * 8 + 7, none⟩) HG.out).trans ho7.2
  clear ho7
  clear hb hp1 hcc
  refine hK.out _ _ S1 (fun hHeld => ?_)
  clear hK K
  try simp only [Act.put, List.getElem_toArray, List.getElem_cons_succ, List.getElem_cons_zero, List.setIfInBounds_toArray, List.set_cons_zero, List.set_cons_succ]
  refine wpAnyH_take (i := 9) (oi := _) (v := .pointer (some ⟨g, m * 8, none⟩)) rfl (by kernel_rfl) (by kernel_rfl) (by kernel_rfl) (fun _ _ _ h => h) (Or.inl ⟨by rfl, fun w hSw => by (try dsimp only at hSw); go_simp⟩) (by assumption) ?_
  try simp only [Act.put, List.getElem_toArray, List.getElem_cons_succ, List.getElem_cons_zero, List.setIfInBounds_toArray, List.set_cons_zero, List.set_cons_succ]
  refine wpAnyH_ready (rs := [10]) (by kernel_rfl) (by simp) (AllReadyH.cons (o := _) rfl (fun K hK => ?_) AllReadyH.nil)
  go_simp
  have X4 := Lib.hid (K4.out.whole Y1.out (fun e => by have h1 := (row_block (H.out.rows i HL.out.1).row e).2.1; omega))
  have P4 := Lib.hid (K4.out.whole T1.out.blk (fun e => row_ne (T1.out.rows i HL.out.1).row T1.out.blk (fun _ _ h => by injection h with _ h; exact absurd h (by decide)) e))
  have S4 := KC.out ((((((((y1.setCell ⟨g, m * 8, none⟩ (.string nm)).setCell ⟨g, m * 8 + 1, none⟩ (.int .i64 kd)).setCell ⟨g, m * 8 + 2, none⟩ (.int .i64 ty)).setCell ⟨g, m * 8 + 3, none⟩ (.int .i64 i)).setCell ⟨g, m * 8 + 4, none⟩ (.int .i32 nn)).setCell ⟨g, m * 8 + 5, none⟩ (.int .i64 md)).setCell ⟨g, m * 8 + 6, none⟩ (.bool ou)).setCell ⟨g, m * 8 + 7, none⟩ (.slice Aq ps.length cq)) P4.out X4.out
  refine hK.out _ _ S4 (fun hHeld => ?_)
  clear hK K
  try simp only [Act.put, List.getElem_toArray, List.getElem_cons_succ, List.getElem_cons_zero, List.setIfInBounds_toArray, List.set_cons_zero, List.set_cons_succ]
  refine wpAnyH_done (by kernel_rfl) ?_ _
  refine NoPanic.normal ?_
  clear hHeld S1 S4 KS KC OW
  have KO := K4.out.mono (S' := Own T) (fun k hk => .inr (.inl ⟨i, HL.out.1, hk⟩))
  have hr : RowO pO ((((((((y1.setCell ⟨g, m * 8, none⟩ (.string nm)).setCell ⟨g, m * 8 + 1, none⟩ (.int .i64 kd)).setCell ⟨g, m * 8 + 2, none⟩ (.int .i64 ty)).setCell ⟨g, m * 8 + 3, none⟩ (.int .i64 i)).setCell ⟨g, m * 8 + 4, none⟩ (.int .i32 nn)).setCell ⟨g, m * 8 + 5, none⟩ (.int .i64 md)).setCell ⟨g, m * 8 + 6, none⟩ (.bool ou)).setCell ⟨g, m * 8 + 7, none⟩ (.slice Aq ps.length cq)) B B (.slice (some ⟨g, 0, none⟩) (T.rx i).length c) ((T.rx i).set m (({ nm := nm, kd := kd, ty := ty, lv := i, nn := nn, md := md, ou := ou, ps := ps } : Ob), .slice Aq ps.length cq)) := by
    refine ⟨by rw [List.length_set]; exact RT.out.1, fun x hx => ?_⟩
    rcases List.mem_or_eq_of_mem_set hx with hx | rfl
    · exact T1.out.keepPar KO ((T1.out.rows i HL.out.1).par x hx)
    · exact T1.out.keepPar KO HP1.out
  have hrv : (fun j => if j = i then Value.slice (some ⟨g, 0, none⟩) (T.rx i).length c else T.rv j) = T.rv := by
    funext j
    split
    · rename_i e
      rw [e, HRV.out]
    · rfl
  have hxm : idxF (nameIs nm) (s.row i) 0 = (m : Int) := by rw [← H.out.same i HL.out.1]; exact HXI.out
  have HC := Lib.hid ((T1.out.turn (s' := ({ s with L := replF (atP i nm) ({ nm := nm, kd := kd, ty := ty, lv := i, nn := nn, md := md, ou := ou, ps := ps } : Ob) s.L } : Stt)) HL.out.1 (K4.out.mono (fun _ h => .inr h)) (by rw [hrv]; exact P4.out) hr (fun b hb => .inl (by rw [HRV.out]; exact hb)) rfl (fun j hj hne => (row_repl (x := ⟨nm, kd, ty, lv, nn, md, ou, ps⟩) rfl hxm j).trans (if_neg hne)) (by rw [List.map_set, T1.out.same i HL.out.1]; exact ((row_repl (x := ⟨nm, kd, ty, lv, nn, md, ou, ps⟩) rfl hxm i).trans (if_pos rfl)).symm)).before BY1.out)
  clear hr KO K4 P4 X4 hrv RT r0 r1 r2 r3 r4 r5 r6 r7 z0 z1 z2 z3 z4 z5 z6 z7
  generalize ((((((((y1.setCell ⟨g, m * 8, none⟩ (.string nm)).setCell ⟨g, m * 8 + 1, none⟩ (.int .i64 kd)).setCell ⟨g, m * 8 + 2, none⟩ (.int .i64 ty)).setCell ⟨g, m * 8 + 3, none⟩ (.int .i64 i)).setCell ⟨g, m * 8 + 4, none⟩ (.int .i32 nn)).setCell ⟨g, m * 8 + 5, none⟩ (.int .i64 md)).setCell ⟨g, m * 8 + 6, none⟩ (.bool ou)).setCell ⟨g, m * 8 + 7, none⟩ (.slice Aq ps.length cq)) = Z at *
  go_wp2_with fail
  go_ret
  exact ⟨rfl, HC.out⟩

theorem change_any (B : Nat) (T : Tb) (s : Stt) (n : Int) (nm : ByteArray) (kd ty lv nn md : Int) (ou : Bool) (ps : List (Int × Bool)) (Ap : Option Addr) (cp : Nat) (w : World) (h : TabAt w B T s) (hp : ParV B w (.slice Ap ps.length cp) ps) (hB : B ≤ w.heap.size) (hl : s.lev ≤ 64) (hlen : s.L.length ≤ 1000) (hlv : ∀ x ∈ s.L, 0 ≤ x.lv ∧ x.lv ≤ s.lev) (hs : nm.size ≤ 140737488355328) (hn : ps.length * 16 ≤ 140737488355328) :
    Calls Try.prog 33 #[.pointer (some ⟨T.p, 0, none⟩), .int .i64 n, .agg #[.string nm, .int .i64 kd, .int .i64 ty, .int .i64 lv, .int .i32 nn, .int .i64 md, .bool ou, .slice Ap ps.length cp]] w fun e w' => e = .returned (.int .i64 (changeP s n ⟨nm, kd, ty, lv, nn, md, ou, ps⟩).2) ∧ ChPost B T w (changeP s n ⟨nm, kd, ty, lv, nn, md, ou, ps⟩).1 w' := by
  by_cases hb : n < 0 ∨ (s.lev : Int) < n
  · exact change_out B T s n nm kd ty lv nn md ou ps Ap cp w h hp hB hl hlen hlv hs hn hb
  · by_cases hx : s.L.find? (atP n nm) = none
    · exact change_none B T s n nm kd ty lv nn md ou ps Ap cp w h hp hB hl hlen hlv hs hn ⟨fun e => hb (.inl e), fun e => hb (.inr e)⟩ hx
    · exact change_ok B T s n nm kd ty lv nn md ou ps Ap cp w h hp hB hl hlen hlv hs hn ⟨fun e => hb (.inl e), fun e => hb (.inr e)⟩ hx
end Go.Proofs.Ytpfoebnlngfebaa
