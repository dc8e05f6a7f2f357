/- Place: what is asked of an index: Lines, Len, hasLine, bounds, Line, At, Offset. -/
import Derived.Test.YtnkdipfmmjifdaaPlcB
import Derived.Test.YtnkdipfmmjifdaaSlices
import Derived.Test.YtnkdipfmmjifdaaBuild
import Derived.Deep.QuietTactic
import Derived.BigQuiet
import Derived.Deep.Light
namespace Go.Proofs.Ytnkdipfmmjifdaa
open Go.ChangeShapes Go.WideShapes Go.ChangeAt Go.RowKit
set_option linter.unusedVariables false
set_option linter.unusedSimpArgs false

/-- An index: at block b its text, and the text's line feeds in a slice. -/
structure Idx (w : World) (b : Nat) (s : ByteArray) (A : Option Addr) (c : Nat) : Prop where
  text : w.cell? ⟨b, 0, none⟩ = some (.string s)
  feeds : w.cell? ⟨b, 1, none⟩ = some (.slice A (fd s).length c)
  nums : Nums .i64 w A (fd s).length ((fd s).map Int.ofNat)
  nil : (fd s).length = 0 → A = none ∧ c = 0
  lt : b < w.heap.size

section
variable {w w' : World} {b : Nat} {s : ByteArray} {A : Option Addr} {c : Nat}

theorem Idx.below (h : Idx w b s A c) (hb : Below w.heap.size w w') : Idx w' b s A c :=
  ⟨(hb.cell (p := ⟨b, 0, none⟩) h.lt).trans h.text, (hb.cell (p := ⟨b, 1, none⟩) h.lt).trans h.feeds, h.nums.below hb, h.nil, Nat.lt_of_lt_of_le h.lt hb.size⟩

theorem fdI_get (s : ByteArray) (j : Nat) : ((fd s).map Int.ofNat).getD j 0 = ((fd s).getD j 0 : Nat) := by
  rw [List.getD_eq_getElem?_getD, List.getD_eq_getElem?_getD, List.getElem?_map]
  cases (fd s)[j]? <;> rfl

theorem Idx.at (h : Idx w b s A c) {j : Nat} (hj : j < (fd s).length) : ∃ g off, A = some ⟨g, off, none⟩ ∧ w.cell? ⟨g, off + j, none⟩ = some (.int .i64 ((fd s).getD j 0 : Nat)) := by
  obtain ⟨g, off, rfl, _, hc⟩ := h.nums.2 (by omega)
  exact ⟨g, off, rfl, by rw [hc j hj, fdI_get]⟩
end

theorem fd_len (s : ByteArray) : (fd s).length ≤ s.size := cnt_le_self s s.size

set_option maxHeartbeats 1000000 in
set_option maxRecDepth 100000 in
theorem lines_any (b : Nat) (s : ByteArray) (A : Option Addr) (c : Nat) (w : World) (h : Idx w b s A c) (hs : s.size ≤ 1000000) :
    Calls Try.prog 10 #[.pointer (some ⟨b, 0, none⟩)] w fun e w' => e = .returned (.int .i64 ((fd s).length + 1 : Nat)) ∧ w = w' := by
  have c1 := h.feeds
  have hl := fd_len s
  clear h
  generalize (fd s).length = n at *
  go_enter Try.func10, Try.ntmps10
  go_wp2
  go_ret
  exact ⟨by go_num, rfl⟩

set_option maxHeartbeats 1000000 in
set_option maxRecDepth 100000 in
theorem len_any (b : Nat) (s : ByteArray) (A : Option Addr) (c : Nat) (w : World) (h : Idx w b s A c) (hs : s.size ≤ 1000000) :
    Calls Try.prog 11 #[.pointer (some ⟨b, 0, none⟩)] w fun e w' => e = .returned (.int .i64 s.size) ∧ w = w' := by
  have c0 := h.text
  clear h
  go_enter Try.func11, Try.ntmps11
  go_wp2
  go_ret
  exact ⟨rfl, rfl⟩

/-- Is there a line n? -/
def hasB (s : ByteArray) (n : Int) : Bool := decide (1 ≤ n) && decide (n ≤ ((fd s).length + 1 : Nat))

theorem hasB_iff (s : ByteArray) (n : Int) : hasB s n = true ↔ 1 ≤ n ∧ n ≤ (fd s).length + 1 := by
  unfold hasB
  simp only [Bool.and_eq_true, decide_eq_true_eq]
  omega

set_option maxHeartbeats 1000000 in
set_option maxRecDepth 100000 in
theorem hasline_any (b : Nat) (s : ByteArray) (A : Option Addr) (c : Nat) (n : Int) (w : World) (h : Idx w b s A c) (hs : s.size ≤ 1000000) :
    Calls Try.prog 20 #[.pointer (some ⟨b, 0, none⟩), .int .i64 n] w fun e w' => e = .returned (.bool (hasB s n)) ∧ w = w' := by
  have LA := Lib.hid (lines_any b s A c w h hs)
  have HB := Lib.hid (show hasB s n = (decide (1 ≤ n) && decide (n ≤ ((fd s).length + 1 : Nat))) from rfl)
  clear h
  generalize hasB s n = r at *
  generalize (fd s).length + 1 = m at *
  by_cases h1 : 1 ≤ n
  · have d1 : decide (1 ≤ n) = true := decide_eq_true h1
    go_enter Try.func20, Try.ntmps20
    go_wp2_with fail
    refine LA.out.mono ?_
    rintro e w' ⟨rfl, rfl⟩
    go_wp2_with fail
    go_ret
    exact ⟨by rw [HB.out, d1, Bool.true_and]; rfl, rfl⟩
  · have d1 : decide (1 ≤ n) = false := decide_eq_false h1
    go_enter Try.func20, Try.ntmps20
    go_wp2_with fail
    go_ret
    exact ⟨by rw [HB.out, d1, Bool.false_and]; rfl, rfl⟩

set_option maxHeartbeats 2000000 in
set_option maxRecDepth 100000 in
/-- Of the line j + 1: where it begins and ends. -/
theorem bounds_any (b : Nat) (s : ByteArray) (A : Option Addr) (c : Nat) (j : Nat) (w : World) (h : Idx w b s A c) (hs : s.size ≤ 1000000) (hj : j ≤ (fd s).length) :
    Calls Try.prog 21 #[.pointer (some ⟨b, 0, none⟩), .int .i64 ((j : Int) + 1)] w fun e w' => e = .returned (.tuple #[.int .i64 (lo s j : Nat), .int .i64 (hi s j : Nat)]) ∧ ∃ q, w' = w.drewN q := by
  have c0 := h.text
  have c1 := h.feeds
  have hl := fd_len s
  have AT := Lib.hid (fun j => h.at (j := j))
  have LO := Lib.hid (show lo s j = if j = 0 then 0 else (fd s).getD (j - 1) 0 + 1 from rfl)
  have HI := Lib.hid (show hi s j = if j < (fd s).length then (fd s).getD j 0 else s.size from rfl)
  have FS := Lib.hid (fun t => @fd_size s t)
  clear h
  generalize lo s j = l at *
  generalize hi s j = r at *
  generalize hn : (fd s).length = n at *
  have HN := Lib.hid hn
  clear hn
  by_cases h0 : j = 0
  · subst h0
    obtain rfl : l = 0 := LO.out.trans (if_pos rfl)
    by_cases h1 : 0 < n
    · obtain ⟨g, off, rfl, u1⟩ := AT.out _ h1
      rw [Nat.add_zero] at u1
      obtain rfl : r = (fd s).getD 0 0 := HI.out.trans (if_pos h1)
      have fb := FS.out _ h1
      generalize (fd s).getD 0 0 = f at *
      clear AT LO HI FS
      go_enter Try.func21, Try.ntmps21
      go_wp2
      go_quiet (fail)
      go_wp2
      go_ret2
      exact ⟨rfl, _, rfl⟩
    · obtain rfl : r = s.size := HI.out.trans (if_neg h1)
      have hn0 : ¬ (1 : Int) ≤ n := by omega
      clear AT LO HI FS h1
      go_enter Try.func21, Try.ntmps21
      go_wp2
      go_quiet (fail)
      go_wp2
      go_ret2
      exact ⟨rfl, _, rfl⟩
  · obtain ⟨k, rfl⟩ : ∃ k, j = k + 1 := ⟨j - 1, by omega⟩
    obtain ⟨g, off, rfl, u0⟩ := AT.out _ (show k < n by omega)
    obtain rfl : l = (fd s).getD k 0 + 1 := LO.out.trans (if_neg h0)
    have fa := FS.out _ (show k < n by omega)
    by_cases h1 : k + 1 < n
    · obtain ⟨g', off', e', u1⟩ := AT.out _ h1
      injection e' with e'
      injection e' with e1 e2
      subst e1 e2
      obtain rfl : r = (fd s).getD (k + 1) 0 := HI.out.trans (if_pos h1)
      have fb := FS.out _ h1
      generalize (fd s).getD (k + 1) 0 = f at *
      generalize (fd s).getD k 0 = f0 at *
      clear AT LO HI FS h0
      go_enter Try.func21, Try.ntmps21
      go_wp2
      go_quiet (fail)
      go_wp2
      go_ret2
      exact ⟨by go_num, _, rfl⟩
    · obtain rfl : r = s.size := HI.out.trans (if_neg h1)
      obtain rfl : n = k + 1 := by omega
      generalize (fd s).getD k 0 = f0 at *
      clear AT LO HI FS h0
      go_enter Try.func21, Try.ntmps21
      go_wp2
      go_quiet (fail)
      go_wp2
      go_ret2
      exact ⟨by go_num, _, rfl⟩

set_option maxHeartbeats 1000000 in
set_option maxRecDepth 100000 in
theorem cloneS_any (s : ByteArray) (w : World) (hs : s.size ≤ 1000000) :
    Calls Try.prog 19 #[.string s] w fun e w' => e = .returned (.string s) ∧ Below w.heap.size w w' := by
  have CL := Lib.hid (Try.stringslite_Clone s w (by omega))
  go_enter Try.func19, Try.ntmps19
  go_wp2_with fail
  refine CL.out.mono ?_
  rintro e w1 ⟨rfl, hb⟩
  have HB := Lib.hid hb
  clear hb
  go_wp2_with fail
  go_ret
  exact ⟨rfl, HB.out⟩
/-- The line n, or nothing. -/
theorem line_yes (b : Nat) (s : ByteArray) (A : Option Addr) (c : Nat) (j : Nat) (w : World) (h : Idx w b s A c) (hs : s.size ≤ 1000000) (hj : j ≤ (fd s).length) :
    Calls Try.prog 12 #[.pointer (some ⟨b, 0, none⟩), .int .i64 ((j : Int) + 1)] w fun e w' => e = .returned (.string (lineAt s j)) ∧ Below w.heap.size w w' := by
  have HH := Lib.hid (hasline_any b s A c ((j : Int) + 1) w h hs)
  have hB : hasB s ((j : Int) + 1) = true := (hasB_iff s _).2 (by omega)
  rw [hB] at HH
  clear hB
  have BD := Lib.hid (bounds_any b s A c j w h hs hj)
  have c0 := h.text
  have h1 := lo_hi s hj
  have h2 := hi_le s j
  have LA := Lib.hid (show lineAt s j = s.extract (lo s j) (hi s j) from rfl)
  clear h
  generalize lo s j = l at *
  generalize hi s j = r at *
  generalize lineAt s j = t at *
  have CL := Lib.hid (fun w (hz : (s.extract l r).size ≤ 1000000) => cloneS_any (s.extract l r) w hz)
  have hz : (s.extract l r).size ≤ 1000000 := by rw [ByteArray.size_extract]; omega
  go_enter Try.func12, Try.ntmps12
  go_wp2_with fail
  refine HH.out.mono ?_
  rintro e w' ⟨rfl, rfl⟩
  go_wp2_with fail
  refine BD.out.mono ?_
  rintro e w1 ⟨rfl, q, rfl⟩
  go_wp2_with fail
  refine (CL.out _ hz).mono ?_
  rintro e w2 ⟨rfl, hb⟩
  have B2 := Lib.hid ((below_drawn (Below.refl _ _) q).trans (hb.mono (Nat.le_refl _)))
  clear hb
  go_wp2_with fail
  go_ret
  exact ⟨by rw [LA.out]; rfl, B2.out⟩

set_option maxHeartbeats 1000000 in
set_option maxRecDepth 100000 in
theorem line_no (b : Nat) (s : ByteArray) (A : Option Addr) (c : Nat) (n : Int) (w : World) (h : Idx w b s A c) (hs : s.size ≤ 1000000) (hn : hasB s n = false) :
    Calls Try.prog 12 #[.pointer (some ⟨b, 0, none⟩), .int .i64 n] w fun e w' => e = .returned (.string ⟨#[]⟩) ∧ Below w.heap.size w w' := by
  have HH := Lib.hid (hasline_any b s A c n w h hs)
  rw [hn] at HH
  clear h hn
  go_enter Try.func12, Try.ntmps12
  go_wp2_with fail
  refine HH.out.mono ?_
  rintro e w' ⟨rfl, rfl⟩
  go_wp2_with fail
  go_ret
  exact ⟨rfl, Below.refl _ _⟩

set_option maxHeartbeats 1000000 in
set_option maxRecDepth 100000 in
theorem search_nil (x : Int) (c : Nat) (w : World) :
    Calls Try.prog 22 #[.slice none 0 c, .int .i64 x] w fun e w' => e = .returned (.tuple #[.int .i64 0, .bool false]) ∧ ∃ q, w' = w.drewN q := by
  go_enter Try.func22, Try.ntmps22
  go_wp2
  go_loop [7, 8] (fun a b => a = .int .i64 0 ∧ b = .int .i64 0) (fun _ _ => 0)
  case atStart => exact ⟨rfl, rfl⟩
  case round =>
    obtain ⟨rfl, rfl⟩ := hrel
    go_wp2
    go_ret2
    exact ⟨rfl, 0, rfl⟩

theorem search_any (b : Nat) (s : ByteArray) (A : Option Addr) (c : Nat) (k : Nat) (w : World) (h : Idx w b s A c) (hs : s.size ≤ 1000000) (hk : k ≤ s.size) :
    Calls Try.prog 22 #[.slice A (fd s).length c, .int .i64 k] w fun e w' => ∃ v : Bool, e = .returned (.tuple #[.int .i64 (cnt s k : Nat), .bool v]) ∧ ∃ q, w' = w.drewN q := by
  have hl := fd_len s
  have hlen : ((fd s).map Int.ofNat).length = (fd s).length := List.length_map _
  rcases Nat.eq_zero_or_pos (fd s).length with h0 | h0
  · obtain ⟨rfl, rfl⟩ := h.nil h0
    have hc : cnt s k = 0 := by have := cnt_le s hk; omega
    rw [h0, hc]
    refine (search_nil k 0 w).mono ?_
    rintro e w' ⟨rfl, q, rfl⟩
    exact ⟨false, rfl, q, rfl⟩
  · obtain ⟨g, off, rfl, _, hcell⟩ := h.nums.2 h0
    refine (Try.slices_BinarySearch_int g off (fd s).length c ((fd s).map Int.ofNat) k w (by omega) (by omega) (fun j hj => hcell j (by omega)) ?_).mono ?_
    · rw [List.take_of_length_le (by omega)]
      exact fd_le_pairwise s
    · rintro e w' ⟨rfl, q, rfl⟩
      show ∃ v : Bool, _ = Ending.returned (.tuple #[.int .i64 (cnt s k : Nat), .bool v]) ∧ ∃ q', w.drewN q = w.drewN q'
      rw [List.take_of_length_le (by omega), countP_fd s hk]
      exact ⟨_, rfl, q, rfl⟩

set_option maxHeartbeats 1000000 in
set_option maxRecDepth 100000 in
theorem at_any (b : Nat) (s : ByteArray) (A : Option Addr) (c : Nat) (o : Int) (w : World) (h : Idx w b s A c) (hs : s.size ≤ 1000000) :
    Calls Try.prog 13 #[.pointer (some ⟨b, 0, none⟩), .int .i64 o] w fun e w' => e = .returned (.tuple #[.int .i64 (lnOf s (plc s o) : Nat), .int .i64 (clOf s (plc s o) : Nat)]) ∧ ∃ q, w' = w.drewN q := by
  have c0 := h.text
  have c1 := h.feeds
  have hp := plc_le s o
  have HP := Lib.hid (show (plc s o : Int) = max 0 (min o s.size) by unfold plc; omega)
  have SE := Lib.hid (search_any b s A c (plc s o) w h hs hp)
  have BD := Lib.hid (fun q => bounds_any b s A c (cnt s (plc s o)) (w.drewN q) (h.below (below_drawn (Below.refl _ _) q)) hs (cnt_le s hp))
  have LN := Lib.hid (show lnOf s (plc s o) = cnt s (plc s o) + 1 from rfl)
  have CL := Lib.hid (show clOf s (plc s o) = plc s o - lo s (cnt s (plc s o)) + 1 from rfl)
  have hl := lo_cnt s hp
  have hc := cnt_le_self s (plc s o)
  have hI := Lib.hid h
  clear h
  generalize lnOf s (plc s o) = ln at *
  generalize clOf s (plc s o) = cl at *
  generalize plc s o = k at *
  generalize cnt s k = n at *
  generalize lo s n = l at *
  generalize hi s n = r at *
  generalize (fd s).length = m at *
  go_enter Try.func13, Try.ntmps13
  go_wp2_with fail
  rw [← HP.out]
  refine SE.out.mono ?_
  rintro e w1 ⟨v, rfl, q, rfl⟩
  go_wp2_with fail
  refine (BD.out q).mono ?_
  rintro e w1 ⟨rfl, q2, rfl⟩
  go_wp2_with fail
  go_ret2
  refine ⟨?_, q + q2, rfl⟩
  rw [LN.out, CL.out]
  simp [go_sem]
  omega

set_option maxHeartbeats 1000000 in
set_option maxRecDepth 100000 in
theorem offset_no (b : Nat) (s : ByteArray) (A : Option Addr) (c : Nat) (n col : Int) (w : World) (h : Idx w b s A c) (hs : s.size ≤ 1000000) (hn : hasB s n = false) :
    Calls Try.prog 15 #[.pointer (some ⟨b, 0, none⟩), .int .i64 n, .int .i64 col] w fun e w' => e = .returned (.tuple #[.int .i64 0, .int .i64 31]) ∧ ∃ q, w' = w.drewN q := by
  have HH := Lib.hid (hasline_any b s A c n w h hs)
  rw [hn] at HH
  clear h hn
  go_enter Try.func15, Try.ntmps15
  go_wp2_with fail
  refine HH.out.mono ?_
  rintro e w' ⟨rfl, rfl⟩
  go_wp2_with fail
  go_ret2
  exact ⟨rfl, 0, rfl⟩

set_option maxHeartbeats 1000000 in
set_option maxRecDepth 100000 in
theorem offset_yes (b : Nat) (s : ByteArray) (A : Option Addr) (c : Nat) (j : Nat) (col : Int) (w : World) (h : Idx w b s A c) (hs : s.size ≤ 1000000) (hj : j ≤ (fd s).length) :
    Calls Try.prog 15 #[.pointer (some ⟨b, 0, none⟩), .int .i64 ((j : Int) + 1), .int .i64 col] w fun e w' => e = .returned (if 1 ≤ col ∧ col ≤ (hi s j : Int) - lo s j + 1 then .tuple #[.int .i64 ((lo s j : Int) + col - 1), .int .i64 0] else .tuple #[.int .i64 0, .int .i64 31]) ∧ ∃ q, w' = w.drewN q := by
  have HH := Lib.hid (hasline_any b s A c ((j : Int) + 1) w h hs)
  have hB : hasB s ((j : Int) + 1) = true := (hasB_iff s _).2 (by omega)
  rw [hB] at HH
  clear hB
  have BD := Lib.hid (bounds_any b s A c j w h hs hj)
  have h1 := lo_hi s hj
  have h2 := hi_le s j
  clear h
  generalize lo s j = l at *
  generalize hi s j = r at *
  by_cases hc : 1 ≤ col
  · by_cases hd : col ≤ (r : Int) - l + 1
    · rw [if_pos ⟨hc, hd⟩]
      have d1 : decide (col < 1) = false := decide_eq_false (by omega)
      have d2 : decide ((r : Int) - l + 1 < col) = false := decide_eq_false (by omega)
      go_enter Try.func15, Try.ntmps15
      go_wp2_with fail
      refine HH.out.mono ?_
      rintro e w' ⟨rfl, rfl⟩
      go_wp2_with fail
      refine BD.out.mono ?_
      rintro e w1 ⟨rfl, q, rfl⟩
      go_wp2_with fail
      go_ret2
      exact ⟨rfl, q, rfl⟩
    · rw [if_neg (fun h => hd h.2)]
      have d1 : decide (col < 1) = false := decide_eq_false (by omega)
      have d2 : decide ((r : Int) - l + 1 < col) = true := decide_eq_true (by omega)
      go_enter Try.func15, Try.ntmps15
      go_wp2_with fail
      refine HH.out.mono ?_
      rintro e w' ⟨rfl, rfl⟩
      go_wp2_with fail
      refine BD.out.mono ?_
      rintro e w1 ⟨rfl, q, rfl⟩
      go_wp2_with fail
      go_ret2
      exact ⟨rfl, q, rfl⟩
  · rw [if_neg (fun h => hc h.1)]
    have d1 : decide (col < 1) = true := decide_eq_true (by omega)
    go_enter Try.func15, Try.ntmps15
    go_wp2_with fail
    refine HH.out.mono ?_
    rintro e w' ⟨rfl, rfl⟩
    go_wp2_with fail
    refine BD.out.mono ?_
    rintro e w1 ⟨rfl, q, rfl⟩
    go_wp2_with fail
    go_ret2
    exact ⟨rfl, q, rfl⟩

theorem isAt_iff {s : ByteArray} {line col : Int} {i : Nat} (hi : i ≤ s.size) : isAt s line col i = true ↔ line = cnt s i + 1 ∧ col = (i : Int) - lo s (cnt s i) + 1 := by
  have := lo_cnt s hi
  unfold isAt lnOf clOf
  simp only [Bool.and_eq_true, beq_iff_eq]
  omega

/-- The place of a line and a column that are there. -/
theorem offOf_in {s : ByteArray} {j : Nat} {col : Int} (hj : j ≤ (fd s).length) (h1 : 1 ≤ col) (h2 : col ≤ (hi s j : Int) - lo s j + 1) : offOf s ((j : Int) + 1) col = (lo s j : Int) + col - 1 := by
  have hl := lo_hi s hj
  have hh := hi_le s j
  obtain ⟨i, hi'⟩ : ∃ i : Nat, (i : Int) = (lo s j : Int) + col - 1 := ⟨((lo s j : Int) + col - 1).toNat, by omega⟩
  have hc : cnt s i = j := cnt_of (by omega) hj (by omega) (by omega)
  rw [← hi']
  refine offOf_some (by omega) ((isAt_iff (by omega)).2 ⟨by rw [hc], by rw [hc]; omega⟩) (fun k hk => ?_)
  cases hb : isAt s ((j : Int) + 1) col k with
  | false => rfl
  | true =>
    obtain ⟨e1, e2⟩ := (isAt_iff (by omega)).1 hb
    have : cnt s k = j := by omega
    rw [this] at e2
    omega

theorem offOf_out {s : ByteArray} {line col : Int} (h : ¬ (1 ≤ line ∧ line ≤ (fd s).length + 1) ∨ ∃ j : Nat, j ≤ (fd s).length ∧ line = (j : Int) + 1 ∧ ¬ (1 ≤ col ∧ col ≤ (hi s j : Int) - lo s j + 1)) : offOf s line col = -1 := by
  refine offOf_none fun k hk => ?_
  cases hb : isAt s line col k with
  | false => rfl
  | true =>
    obtain ⟨e1, e2⟩ := (isAt_iff hk).1 hb
    have a1 := cnt_le s hk
    have a2 := lo_cnt s hk
    have a3 := hi_cnt s hk
    rcases h with h | ⟨j, hj, e3, h⟩
    · omega
    · have hk' : cnt s k = j := by omega
      rw [hk'] at e2 a2 a3
      omega

/-- What Offset answers, against the document's answer. -/
theorem offset_any (b : Nat) (s : ByteArray) (A : Option Addr) (c : Nat) (line col : Int) (w : World) (h : Idx w b s A c) (hs : s.size ≤ 1000000) :
    Calls Try.prog 15 #[.pointer (some ⟨b, 0, none⟩), .int .i64 line, .int .i64 col] w fun e w' => e = .returned (if offOf s line col < 0 then .tuple #[.int .i64 0, .int .i64 31] else .tuple #[.int .i64 (offOf s line col), .int .i64 0]) ∧ ∃ q, w' = w.drewN q := by
  by_cases hl : 1 ≤ line ∧ line ≤ (fd s).length + 1
  · obtain ⟨j, rfl⟩ : ∃ j : Nat, line = (j : Int) + 1 := ⟨(line - 1).toNat, by omega⟩
    refine (offset_yes b s A c j col w h hs (by omega)).mono ?_
    rintro e w' ⟨rfl, hq⟩
    refine ⟨?_, hq⟩
    by_cases hc : 1 ≤ col ∧ col ≤ (hi s j : Int) - lo s j + 1
    · rw [if_pos hc, offOf_in (by omega) hc.1 hc.2, if_neg (by omega)]
    · rw [if_neg hc, offOf_out (.inr ⟨j, by omega, rfl, hc⟩), if_pos (by decide)]
  · have hb : hasB s line = false := by
      cases hb : hasB s line with
      | false => rfl
      | true => exact absurd ((hasB_iff s line).1 hb) hl
    refine (offset_no b s A c line col w h hs hb).mono ?_
    rintro e w' ⟨rfl, hq⟩
    refine ⟨?_, hq⟩
    rw [offOf_out (.inl hl), if_pos (by decide)]
end Go.Proofs.Ytnkdipfmmjifdaa
