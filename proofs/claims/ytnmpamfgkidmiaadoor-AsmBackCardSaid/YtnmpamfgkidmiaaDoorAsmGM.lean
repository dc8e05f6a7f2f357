/- AsmG AsmH AsmI AsmJ AsmK AsmL AsmM in one. -/
import Derived.Test.YtnmpamfgkidmiaaDoorAsmEF
import Derived.Test.YtnmpamfgkidmiaaDoorInstrN

/- Asm: what a line comes to. -/
namespace Go.Proofs.YtnmpamfgkidmiaaDoor
open Go.ChangeShapes Go.WideShapes Go.ChangeAt Go.RowKit
set_option linter.unusedVariables false
set_option linter.unusedSimpArgs false
set_option linter.unusedSectionVars false
variable [LinesAt]

theorem inst_any (op : Int) (A : Option Addr) (n cp : Nat) (ss : List ByteArray) (line : Nat) (B p : Nat) (st : AsmS) (v0 v1 v3 : Value) (mb : Nat) (w : World) (h : AsmAt w B p st v0 v1 v3 mb) (hF : FieldsAt w B A n ss) (hS : ∀ W, Below B w W → ShapesIn W) (hBw : B ≤ w.heap.size) (hws : st.words.length ≤ 1000000) (hos : st.opens.length ≤ 1000000) (hz : ∀ z ∈ ss, z.size ≤ 1000000) (hn : n ≤ 20) :
    Calls Tryd.prog 44 #[.pointer (some ⟨p, 0, none⟩), .int .i64 op, .slice A n cp, .int .i64 line] w (AsmPost w B p (instS op ss line st).2 (instS op ss line st).1) := by
  rcases Nat.eq_zero_or_pos n with h0 | h0
  · exact inst_P0 op A n cp ss line B p st v0 v1 v3 mb w h hF hS hBw hws hz hn h0
  · cases ht : takesB op with
    | false => exact inst_P1 op A n cp ss line B p st v0 v1 v3 mb w h hF hS hBw hws hz hn h0 ht
    | true =>
      cases hl : nameB (lastL ss) with
      | false => exact inst_P2 op A n cp ss line B p st v0 v1 v3 mb w h hF hS hBw hws hz hn h0 ht hl
      | true => exact inst_P3 op A n cp ss line B p st v0 v1 v3 mb w h hF hS hBw hws hz hn h0 ht hl hos

def stemOf (s : ByteArray) : ByteArray := ⟨(Lib.trimSuffix s.data.toList [58]).toArray⟩
def lnF (s : ByteArray) : ByteArray := ⟨(Lib.cut s.data.toList [32]).1.toArray⟩
def lnR (s : ByteArray) : ByteArray := ⟨(Lib.cut s.data.toList [32]).2.1.toArray⟩
def lnB (s : ByteArray) : Bool := (Lib.cut s.data.toList [32]).2.2
def fieldsS (s : ByteArray) : List ByteArray := Lib.splitB ⟨#[44, 32]⟩ 0 (min 4 (s.size + 1) - 1) s

/-- What a line comes to. -/
def readS (line : ByteArray) (k : Nat) (st : AsmS) : Int × AsmS :=
  if line.toList.isEmpty = true then (0, st)
  else if Lib.hasPrefix line.data.toList [59] = true then (0, st)
  else if Lib.hasSuffix line.data.toList [58] = true then markS (stemOf line) st
  else if ((lnF line).toList == [87, 79, 82, 68]) = true then rawS (lnR line) st
  else instS (opOf (lnF line)) (if lnB line = true then fieldsS (lnR line) else []) k st

theorem stem_size (s : ByteArray) : (stemOf s).size ≤ s.size := by
  have e : s.size = s.data.toList.length := Lib.size_eq s
  rw [Lib.size_eq (stemOf s), e]
  unfold stemOf Lib.trimSuffix
  split <;> simp

theorem lnF_size (s : ByteArray) : (lnF s).size ≤ s.size := by
  have e : s.size = s.data.toList.length := Lib.size_eq s
  rw [Lib.size_eq (lnF s), e]
  unfold lnF Lib.cut
  split <;> simp
  omega

theorem lnR_size (s : ByteArray) : (lnR s).size ≤ s.size := by
  have e : s.size = s.data.toList.length := Lib.size_eq s
  rw [Lib.size_eq (lnR s), e]
  unfold lnR Lib.cut
  split <;> simp

theorem split_sizes (sep : ByteArray) : ∀ (k : Nat) (s : ByteArray), ∀ z ∈ Lib.splitB sep 0 k s, z.size ≤ s.size
  | 0, s, z, h => by
    rw [Lib.splitB_zero] at h
    simp at h
    rw [h]
    exact Nat.le_refl _
  | k + 1, s, z, h => by
    unfold Lib.splitB at h
    split at h
    · simp at h
      rw [h]
      exact Nat.le_refl _
    · rw [List.mem_cons] at h
      rcases h with rfl | h
      · simp only [ByteArray.size_extract]
        omega
      · have := split_sizes sep k _ z h
        simp only [ByteArray.size_extract] at this
        omega

theorem fields_len (s : ByteArray) : (fieldsS s).length ≤ min 4 (s.size + 1) := by
  have := Lib.splitB_length_le ⟨#[44, 32]⟩ 0 (min 4 (s.size + 1) - 1) s
  unfold fieldsS
  omega

/-- What the tables and the library's variable hold. -/
def Tab (w : World) : Prop := ShapesIn w ∧ NamesIn w ∧ ∃ m, w.cell? ⟨0, 0, none⟩ = some (.int .i64 m)

theorem below_drewN {B : Nat} {a w : World} (h : Below B a w) (n : Nat) : Below B a (w.drewN n) := ⟨h.os, h.tape, h.output, h.size, h.block⟩

theorem fields_made {w : World} {B : Nat} (ss : List ByteArray) (N : Nat) (hB : B ≤ w.heap.size) (hl : LinesAt.lf < w.heap.size) : FieldsAt (w.alloc (.cells (Lib.cellsOf ss N) 9)) B (some ⟨w.heap.size, 0, none⟩) ss.length ss := by
  refine ⟨rfl, fun _ => ⟨w.heap.size, Lib.cellsOf ss N, rfl, ⟨hB, Nat.ne_of_gt hl⟩, Whole.made w 9 (Lib.cellsOf ss N) _ rfl, fun j hj => ?_⟩⟩
  unfold Lib.cellsOf
  rw [List.getElem?_toArray, List.getElem?_append_left (by simpa using hj), List.getElem?_map, List.getElem?_eq_getElem hj, List.getD_eq_getElem?_getD, List.getElem?_eq_getElem hj]
  rfl

theorem fields_none {w : World} {B : Nat} : FieldsAt w B none 0 [] := ⟨rfl, fun h => absurd h (by decide)⟩

end Go.Proofs.YtnmpamfgkidmiaaDoor

/- Asm: read. -/
namespace Go.Proofs.YtnmpamfgkidmiaaDoor
open Go.ChangeShapes Go.WideShapes Go.ChangeAt Go.RowKit
set_option linter.unusedVariables false
set_option linter.unusedSimpArgs false
set_option linter.unusedSectionVars false
variable [LinesAt]

set_option maxHeartbeats 8000000 in
set_option maxRecDepth 100000 in
theorem read_R0 (line : ByteArray) (k : Nat) (B p : Nat) (st : AsmS) (v0 v1 v3 : Value) (mb : Nat) (w : World) (h : AsmAt w B p st v0 v1 v3 mb) (hT : ∀ W, Below B w W → Tab W) (hBw : B ≤ w.heap.size) (hws : st.words.length ≤ 1000000) (hls : st.labels.length ≤ 1000000) (hos : st.opens.length ≤ 1000000) (hl : line.size ≤ 1000000) (h0 : line.toList.isEmpty = true) :
    Calls Tryd.prog 21 #[.pointer (some ⟨p, 0, none⟩), .string line, .int .i64 k] w (AsmPost w B p (((0 : Int), st)).2 (((0 : Int), st)).1) := by
  have H := Lib.hid h
  clear h hT
  unfold AsmPost
  go_enter Tryd.func21, Tryd.ntmps21
  go_wp2_with fail
  go_ret
  exact ⟨v0, v1, v3, mb, rfl, H.out, Below.refl _ _, Nat.le_refl _⟩

set_option maxHeartbeats 8000000 in
set_option maxRecDepth 100000 in
theorem read_R1 (line : ByteArray) (k : Nat) (B p : Nat) (st : AsmS) (v0 v1 v3 : Value) (mb : Nat) (w : World) (h : AsmAt w B p st v0 v1 v3 mb) (hT : ∀ W, Below B w W → Tab W) (hBw : B ≤ w.heap.size) (hws : st.words.length ≤ 1000000) (hls : st.labels.length ≤ 1000000) (hos : st.opens.length ≤ 1000000) (hl : line.size ≤ 1000000) (h0 : line.toList.isEmpty = false) (h1 : Lib.hasPrefix line.data.toList [59] = true) :
    Calls Tryd.prog 21 #[.pointer (some ⟨p, 0, none⟩), .string line, .int .i64 k] w (AsmPost w B p (((0 : Int), st)).2 (((0 : Int), st)).1) := by
  have HP := Lib.hid (show ∀ w, Calls Tryd.prog 38 #[.string line, .string ⟨#[59]⟩] w fun e w' => e = .returned (.bool (Lib.hasPrefix line.data.toList [59])) ∧ w = w' from fun w => (Tryd.strings_HasPrefix line ⟨#[59]⟩ w).mono (fun e w' h => ⟨h.1, h.2.symm⟩))
  have HC := Lib.hid (show ∀ w, Calls Tryd.prog 39 #[.string line, .string ⟨#[58]⟩] w fun e w' => e = .returned (.tuple #[.string (stemOf line), .bool (Lib.hasSuffix line.data.toList [58])]) ∧ w = w' from fun w => (Tryd.strings_CutSuffix line ⟨#[58]⟩ w (by omega)).mono (fun e w' h => ⟨h.1, h.2.symm⟩))
  have CT := Lib.hid (show ∀ w m, w.cell? ⟨0, 0, none⟩ = some (.int .i64 m) → Calls Tryd.prog 41 #[.string line, .string ⟨#[32]⟩] w fun e w' => e = .returned (.tuple #[.string (lnF line), .string (lnR line), .bool (lnB line)]) ∧ ∃ n, w' = w.drewN n from fun w m hm => Tryd.strings_Cut line ⟨#[32]⟩ m w (by omega) hm)
  rw [h1] at HP
  clear HC CT h1
  have H := Lib.hid h
  clear h hT
  unfold AsmPost
  go_enter Tryd.func21, Tryd.ntmps21
  go_wp2_with fail
  refine (HP.out _).mono ?_
  rintro e w1 ⟨rfl, rfl⟩
  go_wp2_with fail
  go_ret
  exact ⟨v0, v1, v3, mb, rfl, H.out, Below.refl _ _, Nat.le_refl _⟩

set_option maxHeartbeats 8000000 in
set_option maxRecDepth 100000 in
theorem read_R2 (line : ByteArray) (k : Nat) (B p : Nat) (st : AsmS) (v0 v1 v3 : Value) (mb : Nat) (w : World) (h : AsmAt w B p st v0 v1 v3 mb) (hT : ∀ W, Below B w W → Tab W) (hBw : B ≤ w.heap.size) (hws : st.words.length ≤ 1000000) (hls : st.labels.length ≤ 1000000) (hos : st.opens.length ≤ 1000000) (hl : line.size ≤ 1000000) (h0 : line.toList.isEmpty = false) (h1 : Lib.hasPrefix line.data.toList [59] = false) (h2 : Lib.hasSuffix line.data.toList [58] = true) :
    Calls Tryd.prog 21 #[.pointer (some ⟨p, 0, none⟩), .string line, .int .i64 k] w (AsmPost w B p (markS (stemOf line) st).2 (markS (stemOf line) st).1) := by
  have HP := Lib.hid (show ∀ w, Calls Tryd.prog 38 #[.string line, .string ⟨#[59]⟩] w fun e w' => e = .returned (.bool (Lib.hasPrefix line.data.toList [59])) ∧ w = w' from fun w => (Tryd.strings_HasPrefix line ⟨#[59]⟩ w).mono (fun e w' h => ⟨h.1, h.2.symm⟩))
  have HC := Lib.hid (show ∀ w, Calls Tryd.prog 39 #[.string line, .string ⟨#[58]⟩] w fun e w' => e = .returned (.tuple #[.string (stemOf line), .bool (Lib.hasSuffix line.data.toList [58])]) ∧ w = w' from fun w => (Tryd.strings_CutSuffix line ⟨#[58]⟩ w (by omega)).mono (fun e w' h => ⟨h.1, h.2.symm⟩))
  have CT := Lib.hid (show ∀ w m, w.cell? ⟨0, 0, none⟩ = some (.int .i64 m) → Calls Tryd.prog 41 #[.string line, .string ⟨#[32]⟩] w fun e w' => e = .returned (.tuple #[.string (lnF line), .string (lnR line), .bool (lnB line)]) ∧ ∃ n, w' = w.drewN n from fun w m hm => Tryd.strings_Cut line ⟨#[32]⟩ m w (by omega) hm)
  rw [h1] at HP
  rw [h2] at HC
  clear CT h1 h2
  have MK := Lib.hid (mark_any (stemOf line) B p st v0 v1 v3 mb w h (Nat.le_trans (stem_size line) hl) hBw hws hls)
  clear h hT
  unfold AsmPost at *
  generalize markS (stemOf line) st = r at *
  generalize stemOf line = sm at *
  go_enter Tryd.func21, Tryd.ntmps21
  go_wp2_with fail
  refine (HP.out _).mono ?_
  rintro e w1 ⟨rfl, rfl⟩
  go_wp2_with fail
  refine (HC.out _).mono ?_
  rintro e w1 ⟨rfl, rfl⟩
  go_wp2_with fail
  refine MK.out.mono ?_
  rintro e w4 ⟨u0, u1, u3, m4, rfl, ha, hb4, hz4⟩
  have HA := Lib.hid ha
  have B4 := Lib.hid hb4
  clear ha hb4
  go_wp2_with fail
  go_ret
  exact ⟨u0, u1, u3, m4, rfl, HA.out, B4.out, hz4⟩

set_option maxHeartbeats 8000000 in
set_option maxRecDepth 100000 in
theorem read_R3 (line : ByteArray) (k : Nat) (B p : Nat) (st : AsmS) (v0 v1 v3 : Value) (mb : Nat) (w : World) (h : AsmAt w B p st v0 v1 v3 mb) (hT : ∀ W, Below B w W → Tab W) (hBw : B ≤ w.heap.size) (hws : st.words.length ≤ 1000000) (hls : st.labels.length ≤ 1000000) (hos : st.opens.length ≤ 1000000) (hl : line.size ≤ 1000000) (h0 : line.toList.isEmpty = false) (h1 : Lib.hasPrefix line.data.toList [59] = false) (h2 : Lib.hasSuffix line.data.toList [58] = false) (h3 : ((lnF line).toList == [87, 79, 82, 68]) = true) :
    Calls Tryd.prog 21 #[.pointer (some ⟨p, 0, none⟩), .string line, .int .i64 k] w (AsmPost w B p (rawS (lnR line) st).2 (rawS (lnR line) st).1) := by
  have HP := Lib.hid (show ∀ w, Calls Tryd.prog 38 #[.string line, .string ⟨#[59]⟩] w fun e w' => e = .returned (.bool (Lib.hasPrefix line.data.toList [59])) ∧ w = w' from fun w => (Tryd.strings_HasPrefix line ⟨#[59]⟩ w).mono (fun e w' h => ⟨h.1, h.2.symm⟩))
  have HC := Lib.hid (show ∀ w, Calls Tryd.prog 39 #[.string line, .string ⟨#[58]⟩] w fun e w' => e = .returned (.tuple #[.string (stemOf line), .bool (Lib.hasSuffix line.data.toList [58])]) ∧ w = w' from fun w => (Tryd.strings_CutSuffix line ⟨#[58]⟩ w (by omega)).mono (fun e w' h => ⟨h.1, h.2.symm⟩))
  have CT := Lib.hid (show ∀ w m, w.cell? ⟨0, 0, none⟩ = some (.int .i64 m) → Calls Tryd.prog 41 #[.string line, .string ⟨#[32]⟩] w fun e w' => e = .returned (.tuple #[.string (lnF line), .string (lnR line), .bool (lnB line)]) ∧ ∃ n, w' = w.drewN n from fun w m hm => Tryd.strings_Cut line ⟨#[32]⟩ m w (by omega) hm)
  obtain ⟨m, hm⟩ := (hT w (Below.refl _ _)).2.2
  have cm := Lib.hid hm
  clear hm
  rw [h1] at HP
  rw [h2] at HC
  clear h1 h2
  have RW := Lib.hid (fun w' (h' : AsmAt w' B p st v0 v1 v3 mb) hB => raw_any (lnR line) B p st v0 v1 v3 mb w' h' hB hws (Nat.le_trans (lnR_size line) hl))
  have H := Lib.hid h
  clear h hT
  unfold AsmPost at *
  generalize rawS (lnR line) st = r at *
  generalize lnR line = rest at *
  generalize lnF line = first at *
  generalize stemOf line = sm at *
  generalize lnB line = sp at *
  go_enter Tryd.func21, Tryd.ntmps21
  go_wp2_with fail
  refine (HP.out _).mono ?_
  rintro e w1 ⟨rfl, rfl⟩
  go_wp2_with fail
  refine (HC.out _).mono ?_
  rintro e w1 ⟨rfl, rfl⟩
  go_wp2_with fail
  refine (CT.out _ _ cm.out).mono ?_
  rintro e w1 ⟨rfl, n, rfl⟩
  have HD := Lib.hid (H.out.below (below_drewN (Below.refl w.heap.size w) n))
  have BD := Lib.hid (below_drewN (Below.refl B w) n)
  generalize hWD : w.drewN n = wd at *
  have ZD : wd.heap.size = w.heap.size := by rw [← hWD]; rfl
  clear hWD
  go_wp2_with fail
  refine (RW.out _ HD.out (by omega)).mono ?_
  rintro e w4 ⟨u0, u1, u3, m4, rfl, ha, hb4, hz4⟩
  have HA := Lib.hid ha
  have B4 := Lib.hid (BD.out.trans hb4)
  clear ha hb4
  go_wp2_with fail
  go_ret
  exact ⟨u0, u1, u3, m4, rfl, HA.out, B4.out, by omega⟩

set_option maxHeartbeats 8000000 in
set_option maxRecDepth 100000 in
theorem read_R4 (line : ByteArray) (k : Nat) (B p : Nat) (st : AsmS) (v0 v1 v3 : Value) (mb : Nat) (w : World) (h : AsmAt w B p st v0 v1 v3 mb) (hT : ∀ W, Below B w W → Tab W) (hBw : B ≤ w.heap.size) (hws : st.words.length ≤ 1000000) (hls : st.labels.length ≤ 1000000) (hos : st.opens.length ≤ 1000000) (hl : line.size ≤ 1000000) (h0 : line.toList.isEmpty = false) (h1 : Lib.hasPrefix line.data.toList [59] = false) (h2 : Lib.hasSuffix line.data.toList [58] = false) (h3 : ((lnF line).toList == [87, 79, 82, 68]) = false) (h4 : lnB line = false) :
    Calls Tryd.prog 21 #[.pointer (some ⟨p, 0, none⟩), .string line, .int .i64 k] w (AsmPost w B p (instS (opOf (lnF line)) [] k st).2 (instS (opOf (lnF line)) [] k st).1) := by
  have HP := Lib.hid (show ∀ w, Calls Tryd.prog 38 #[.string line, .string ⟨#[59]⟩] w fun e w' => e = .returned (.bool (Lib.hasPrefix line.data.toList [59])) ∧ w = w' from fun w => (Tryd.strings_HasPrefix line ⟨#[59]⟩ w).mono (fun e w' h => ⟨h.1, h.2.symm⟩))
  have HC := Lib.hid (show ∀ w, Calls Tryd.prog 39 #[.string line, .string ⟨#[58]⟩] w fun e w' => e = .returned (.tuple #[.string (stemOf line), .bool (Lib.hasSuffix line.data.toList [58])]) ∧ w = w' from fun w => (Tryd.strings_CutSuffix line ⟨#[58]⟩ w (by omega)).mono (fun e w' h => ⟨h.1, h.2.symm⟩))
  have CT := Lib.hid (show ∀ w m, w.cell? ⟨0, 0, none⟩ = some (.int .i64 m) → Calls Tryd.prog 41 #[.string line, .string ⟨#[32]⟩] w fun e w' => e = .returned (.tuple #[.string (lnF line), .string (lnR line), .bool (lnB line)]) ∧ ∃ n, w' = w.drewN n from fun w m hm => Tryd.strings_Cut line ⟨#[32]⟩ m w (by omega) hm)
  obtain ⟨m, hm⟩ := (hT w (Below.refl _ _)).2.2
  have cm := Lib.hid hm
  clear hm
  rw [h1] at HP
  rw [h2] at HC
  rw [h4] at CT
  clear h1 h2 h4
  have OP := Lib.hid (fun w hN => op_any (lnF line) w hN)
  have H := Lib.hid h
  have HT := Lib.hid hT
  clear h hT
  unfold AsmPost
  generalize lnR line = rest at *
  generalize hop : opOf (lnF line) = op at *
  clear hop
  generalize lnF line = first at *
  generalize stemOf line = sm at *
  go_enter Tryd.func21, Tryd.ntmps21
  go_wp2_with fail
  refine (HP.out _).mono ?_
  rintro e w1 ⟨rfl, rfl⟩
  go_wp2_with fail
  refine (HC.out _).mono ?_
  rintro e w1 ⟨rfl, rfl⟩
  go_wp2_with fail
  refine (CT.out _ _ cm.out).mono ?_
  rintro e w1 ⟨rfl, n, rfl⟩
  have HD := Lib.hid (H.out.below (below_drewN (Below.refl w.heap.size w) n))
  have BD := Lib.hid (below_drewN (Below.refl B w) n)
  generalize hWD : w.drewN n = wd at *
  have ZD : wd.heap.size = w.heap.size := by rw [← hWD]; rfl
  clear hWD
  go_wp2_with fail
  have BW := BD
  have ZW : w.heap.size ≤ wd.heap.size := by omega
  have IN := Lib.hid (inst_any op none 0 0 [] k B p st v0 v1 v3 mb wd HD.out fields_none (fun W hb => (HT.out W (BD.out.trans hb)).1) (by omega) hws hos (fun z hz => by cases hz) (by decide))
  have NW := (HT.out wd BD.out).2.1
  unfold AsmPost at IN
  refine (OP.out _ NW).mono ?_
  rintro e w3 ⟨rfl, rfl⟩
  go_wp2_with fail
  refine IN.out.mono ?_
  rintro e w4 ⟨u0, u1, u3, m4, rfl, ha, hb4, hz4⟩
  have HA := Lib.hid ha
  have B4 := Lib.hid (BW.out.trans hb4)
  clear ha hb4
  go_wp2_with fail
  go_ret
  exact ⟨u0, u1, u3, m4, rfl, HA.out, B4.out, Nat.le_trans ZW hz4⟩

set_option maxHeartbeats 8000000 in
set_option maxRecDepth 100000 in
theorem read_R5 (line : ByteArray) (k : Nat) (B p : Nat) (st : AsmS) (v0 v1 v3 : Value) (mb : Nat) (w : World) (h : AsmAt w B p st v0 v1 v3 mb) (hT : ∀ W, Below B w W → Tab W) (hBw : B ≤ w.heap.size) (hws : st.words.length ≤ 1000000) (hls : st.labels.length ≤ 1000000) (hos : st.opens.length ≤ 1000000) (hl : line.size ≤ 1000000) (h0 : line.toList.isEmpty = false) (h1 : Lib.hasPrefix line.data.toList [59] = false) (h2 : Lib.hasSuffix line.data.toList [58] = false) (h3 : ((lnF line).toList == [87, 79, 82, 68]) = false) (h4 : lnB line = true) :
    Calls Tryd.prog 21 #[.pointer (some ⟨p, 0, none⟩), .string line, .int .i64 k] w (AsmPost w B p (instS (opOf (lnF line)) (fieldsS (lnR line)) k st).2 (instS (opOf (lnF line)) (fieldsS (lnR line)) k st).1) := by
  have HP := Lib.hid (show ∀ w, Calls Tryd.prog 38 #[.string line, .string ⟨#[59]⟩] w fun e w' => e = .returned (.bool (Lib.hasPrefix line.data.toList [59])) ∧ w = w' from fun w => (Tryd.strings_HasPrefix line ⟨#[59]⟩ w).mono (fun e w' h => ⟨h.1, h.2.symm⟩))
  have HC := Lib.hid (show ∀ w, Calls Tryd.prog 39 #[.string line, .string ⟨#[58]⟩] w fun e w' => e = .returned (.tuple #[.string (stemOf line), .bool (Lib.hasSuffix line.data.toList [58])]) ∧ w = w' from fun w => (Tryd.strings_CutSuffix line ⟨#[58]⟩ w (by omega)).mono (fun e w' h => ⟨h.1, h.2.symm⟩))
  have CT := Lib.hid (show ∀ w m, w.cell? ⟨0, 0, none⟩ = some (.int .i64 m) → Calls Tryd.prog 41 #[.string line, .string ⟨#[32]⟩] w fun e w' => e = .returned (.tuple #[.string (lnF line), .string (lnR line), .bool (lnB line)]) ∧ ∃ n, w' = w.drewN n from fun w m hm => Tryd.strings_Cut line ⟨#[32]⟩ m w (by omega) hm)
  obtain ⟨m, hm⟩ := (hT w (Below.refl _ _)).2.2
  have cm := Lib.hid hm
  clear hm
  rw [h1] at HP
  rw [h2] at HC
  rw [h4] at CT
  clear h1 h2 h4
  have OP := Lib.hid (fun w hN => op_any (lnF line) w hN)
  have hrs := Nat.le_trans (lnR_size line) hl
  have SP := Lib.hid (show ∀ w m, w.cell? ⟨0, 0, none⟩ = some (.int .i64 m) → Calls Tryd.prog 43 #[.string (lnR line), .string ⟨#[44, 32]⟩, .int .i64 4] w fun e w' => e = .returned (.slice (some ⟨w.heap.size, 0, none⟩) (fieldsS (lnR line)).length (min 4 ((lnR line).size + 1))) ∧ w' = w.alloc (.cells (Lib.cellsOf (fieldsS (lnR line)) (min 4 ((lnR line).size + 1))) 9) from fun w m hm => Tryd.strings_SplitN (lnR line) ⟨#[44, 32]⟩ 4 m w (by omega) hm (by decide) (by decide) (by decide))
  have hfl : (fieldsS (lnR line)).length ≤ 20 := by have := fields_len (lnR line); omega
  have hfz : ∀ z ∈ fieldsS (lnR line), z.size ≤ 1000000 := fun z hz => Nat.le_trans (split_sizes _ _ _ z hz) hrs
  have FZ := Lib.hid hfz
  clear hfz
  have H := Lib.hid h
  have HT := Lib.hid hT
  clear h hT
  unfold AsmPost
  generalize hop : opOf (lnF line) = op at *
  clear hop
  generalize fieldsS (lnR line) = ss at *
  generalize min 4 ((lnR line).size + 1) = N at *
  clear hrs
  generalize lnR line = rest at *
  generalize lnF line = first at *
  generalize stemOf line = sm at *
  go_enter Tryd.func21, Tryd.ntmps21
  go_wp2_with fail
  refine (HP.out _).mono ?_
  rintro e w1 ⟨rfl, rfl⟩
  go_wp2_with fail
  refine (HC.out _).mono ?_
  rintro e w1 ⟨rfl, rfl⟩
  go_wp2_with fail
  refine (CT.out _ _ cm.out).mono ?_
  rintro e w1 ⟨rfl, n, rfl⟩
  have HD := Lib.hid (H.out.below (below_drewN (Below.refl w.heap.size w) n))
  have BD := Lib.hid (below_drewN (Below.refl B w) n)
  generalize hWD : w.drewN n = wd at *
  have ZD : wd.heap.size = w.heap.size := by rw [← hWD]; rfl
  clear hWD
  go_wp2_with fail
  obtain ⟨m2, hm2⟩ := (HT.out wd BD.out).2.2
  refine (SP.out _ m2 hm2).mono ?_
  rintro e w2 ⟨rfl, rfl⟩
  have BW := Lib.hid (BD.out.alloc (by omega) (.cells (Lib.cellsOf ss N) 9))
  have HW := Lib.hid (HD.out.below ((Below.refl wd.heap.size wd).alloc (Nat.le_refl _) (.cells (Lib.cellsOf ss N) 9)))
  have FW := Lib.hid (fields_made (w := wd) (B := B) ss N (by omega) HD.out.lines.lt)
  have ZW : w.heap.size ≤ (wd.alloc (.cells (Lib.cellsOf ss N) 9)).heap.size := by simp; omega
  generalize wd.alloc (.cells (Lib.cellsOf ss N) 9) = ws at *
  generalize wd.heap.size = fb at *
  subst ZD
  clear hm2
  go_wp2_with fail
  have IN := Lib.hid (inst_any op (some ⟨w.heap.size, 0, none⟩) ss.length N ss k B p st v0 v1 v3 mb ws HW.out FW.out (fun W hb => (HT.out W (BW.out.trans hb)).1) (Nat.le_trans hBw ZW) hws hos FZ.out hfl)
  have NW := (HT.out ws BW.out).2.1
  unfold AsmPost at IN
  refine (OP.out _ NW).mono ?_
  rintro e w3 ⟨rfl, rfl⟩
  go_wp2_with fail
  refine IN.out.mono ?_
  rintro e w4 ⟨u0, u1, u3, m4, rfl, ha, hb4, hz4⟩
  have HA := Lib.hid ha
  have B4 := Lib.hid (BW.out.trans hb4)
  clear ha hb4
  go_wp2_with fail
  go_ret
  exact ⟨u0, u1, u3, m4, rfl, HA.out, B4.out, Nat.le_trans ZW hz4⟩

theorem read_any (line : ByteArray) (k : Nat) (B p : Nat) (st : AsmS) (v0 v1 v3 : Value) (mb : Nat) (w : World) (h : AsmAt w B p st v0 v1 v3 mb) (hT : ∀ W, Below B w W → Tab W) (hBw : B ≤ w.heap.size) (hws : st.words.length ≤ 1000000) (hls : st.labels.length ≤ 1000000) (hos : st.opens.length ≤ 1000000) (hl : line.size ≤ 1000000) :
    Calls Tryd.prog 21 #[.pointer (some ⟨p, 0, none⟩), .string line, .int .i64 k] w (AsmPost w B p (readS line k st).2 (readS line k st).1) := by
  unfold readS
  cases h0 : line.toList.isEmpty with
  | true => exact read_R0 line k B p st v0 v1 v3 mb w h hT hBw hws hls hos hl h0
  | false =>
    cases h1 : Lib.hasPrefix line.data.toList [59] with
    | true => exact read_R1 line k B p st v0 v1 v3 mb w h hT hBw hws hls hos hl h0 h1
    | false =>
      cases h2 : Lib.hasSuffix line.data.toList [58] with
      | true => exact read_R2 line k B p st v0 v1 v3 mb w h hT hBw hws hls hos hl h0 h1 h2
      | false =>
        cases h3 : ((lnF line).toList == [87, 79, 82, 68]) with
        | true => exact read_R3 line k B p st v0 v1 v3 mb w h hT hBw hws hls hos hl h0 h1 h2 h3
        | false =>
          cases h4 : lnB line with
          | false => exact read_R4 line k B p st v0 v1 v3 mb w h hT hBw hws hls hos hl h0 h1 h2 h3 h4
          | true => exact read_R5 line k B p st v0 v1 v3 mb w h hT hBw hws hls hos hl h0 h1 h2 h3 h4

end Go.Proofs.YtnmpamfgkidmiaaDoor

/- Asm: what the open instructions come to. -/
namespace Go.Proofs.YtnmpamfgkidmiaaDoor
open Go.ChangeShapes Go.WideShapes Go.ChangeAt Go.RowKit
set_option linter.unusedVariables false
set_option linter.unusedSimpArgs false
set_option linter.unusedSectionVars false
variable [LinesAt]

/-- The word of a label. -/
def placeL (l : List Lab) (s : ByteArray) : Option Nat := l.foldl (fun a x => if x.1 = s then some x.2 else a) none

theorem placeL_snoc (l : List Lab) (x : Lab) (s : ByteArray) : placeL (l ++ [x]) s = if x.1 = s then some x.2 else placeL l s := by
  unfold placeL
  rw [List.foldl_append]
  rfl

theorem lmap_at (l : List Lab) (s : ByteArray) : (lmap l).atKey (.string s.data.toList) (.lit (.int .i64 0)) = .lit (.int .i64 ((placeL l s).getD 0 : Nat)) := by
  refine snoc_ind (P := fun l => (lmap l).atKey (.string s.data.toList) (.lit (.int .i64 0)) = .lit (.int .i64 ((placeL l s).getD 0 : Nat))) rfl (fun l x ih => ?_) l
  rw [lmap_snoc, placeL_snoc]
  by_cases h : x.1 = s
  · subst h
    rw [if_pos rfl, Maps.atKey_put_same (lmap_isMap l) (by trivial)]
    rfl
  · rw [if_neg h, Maps.atKey_put_other (fun e => h (data_inj (by injection e with e; exact e.symm))), ih]

theorem hasL_place (l : List Lab) (s : ByteArray) : hasL l s = (placeL l s).isSome := by
  refine snoc_ind (P := fun l => hasL l s = (placeL l s).isSome) rfl (fun l x ih => ?_) l
  rw [placeL_snoc]
  unfold hasL at ih ⊢
  rw [List.any_append]
  by_cases h : x.1 = s
  · subst h
    rw [if_pos rfl]
    simp
  · rw [if_neg h, ih]
    have : (x.1.toList == s.toList) = false := by
      rw [Lib.toList_data, Lib.toList_data]
      simp only [beq_eq_false_iff_ne, ne_eq]
      exact fun e => h (data_inj e)
    simp [this]

/-- The number of an instruction that names a label. -/
def numO (l : List Lab) (o : Opn) : Int := ((placeL l o.label).getD 0 : Nat) - o.at_ - 1

/-- What the open instructions come to. -/
def resolveF (l : List Lab) : List Opn → List Int → Int × Nat × List Int
  | [], ws => (0, 0, ws)
  | o :: os, ws =>
    if hasL l o.label = true then
      if checkOf o.op o.a o.b o.c (numO l o) = 0 then resolveF l os (ws.set o.at_ (encOf o.op o.a o.b o.c (numO l o)))
      else (52, o.line, ws)
    else (50, o.line, ws)

theorem resolveF_cons (l : List Lab) (o : Opn) (os : List Opn) (ws : List Int) : resolveF l (o :: os) ws = if hasL l o.label = true then (if checkOf o.op o.a o.b o.c (numO l o) = 0 then resolveF l os (ws.set o.at_ (encOf o.op o.a o.b o.c (numO l o))) else (52, o.line, ws)) else (50, o.line, ws) := rfl

/-- The states that lines lead to. -/
structure AsmOk (st : AsmS) : Prop where
  labels : ∀ l ∈ st.labels, l.2 ≤ st.words.length
  opens : ∀ o ∈ st.opens, o.at_ < st.words.length ∧ I64 o.op ∧ I64 o.a ∧ I64 o.b ∧ I64 o.c ∧ o.label.size ≤ 1000000

theorem placeL_le {l : List Lab} {n : Nat} (h : ∀ x ∈ l, x.2 ≤ n) (s : ByteArray) : (placeL l s).getD 0 ≤ n := by
  revert h
  refine snoc_ind (P := fun l => (∀ x ∈ l, x.2 ≤ n) → (placeL l s).getD 0 ≤ n) (fun _ => Nat.zero_le _) (fun l x ih h => ?_) l
  rw [placeL_snoc]
  by_cases e : x.1 = s
  · rw [if_pos e]
    exact h x (by simp)
  · rw [if_neg e]
    exact ih (fun y hy => h y (by simp [hy]))

theorem row_cells {α : Type} (f : α → List Value) (k : Nat) (hk : ∀ x, (f x).length = k) (d : α) : ∀ (l : List α) (t j : Nat), t < l.length → j < k → (l.flatMap f)[t * k + j]? = (f (l.getD t d))[j]?
  | [], t, j, ht, _ => absurd ht (by simp)
  | x :: l, 0, j, _, hj => by
    rw [List.flatMap_cons, Nat.zero_mul, Nat.zero_add, List.getElem?_append_left (by rw [hk]; exact hj)]
    rfl
  | x :: l, t + 1, j, ht, hj => by
    have e : (t + 1) * k + j = k + (t * k + j) := by rw [Nat.add_mul]; omega
    rw [List.flatMap_cons, List.getElem?_append_right (by rw [hk, e]; omega), hk, e, Nat.add_sub_cancel_left, row_cells f k hk d l t j (by simpa using ht) hj]
    rfl

def noOpn : Opn := ⟨0, 0, 0, 0, 0, ⟨#[]⟩, 0, 0⟩

theorem opens_cell {w : World} {B : Nat} {A : Option Addr} {n c : Nat} {l : List Opn} (h : w.ownsRow B 95 8 (.slice A n c) n (l.flatMap Opn.cells)) (hn : l.length = n) {t : Nat} (ht : t < n) : n ≤ c ∧ ∃ g, A = some ⟨g, 0, none⟩ ∧ B ≤ g ∧ g < w.heap.size ∧ ∀ j, j < 8 → w.cell? ⟨g, t * 8 + j, none⟩ = ((l.getD t noOpn).cells)[j]? := by
  rcases h.2 with ⟨_, h2⟩ | ⟨g, cap, cur, h1, hB, hg, hcap, _, hsz, htk⟩
  · omega
  · injection h1 with h1 h2 h3
    subst h1 h3
    have hW : Whole w g 95 cur := hg
    refine ⟨hcap, g, rfl, hB, hW.lt, fun j hj => ?_⟩
    rw [hW.cell (t * 8 + j), ← row_cells Opn.cells 8 (fun _ => rfl) noOpn l t j (by omega) hj, ← htk, List.getElem?_take, if_pos (by omega), Array.getElem?_toList]

/-- A word put in the place of another. -/
theorem AsmAt.set_word {w : World} {B p : Nat} {ws : List Int} {ls : List Lab} {os : List Opn} {A : Option Addr} {c : Nat} {v1 v3 : Value} {mb : Nat} {n : Nat} (h : AsmAt w B p ⟨ws, ls, os⟩ (.slice A n c) v1 v3 mb) (hn : ws.length = n) {i : Nat} (hi : i < n) : ∃ f, A = some ⟨f, 0, none⟩ ∧ B ≤ f ∧ n ≤ c ∧ w.frozen? ⟨f, i, none⟩ = false ∧ (∃ u, w.cell? ⟨f, i, none⟩ = some u) ∧ ∀ x, AsmAt (w.setCell ⟨f, i, none⟩ (.int .u32 x)) B p ⟨ws.set i x, ls, os⟩ (.slice A n c) v1 v3 mb := by
  subst hn
  have hw : w.ownsRow B 45 1 (.slice A ws.length c) ws.length (ws.map (Value.int .u32)) := h.words
  rcases hw.2 with ⟨h1, h2⟩ | ⟨f, cap, cur, h1, hB, hg, hcap, hmx, hsz, htk⟩
  · omega
  · injection h1 with h1 h2 h3
    subst h1 h3
    have hW : Whole w f 45 cur := hg
    have hlt : i < cur.size := by rw [hsz]; omega
    have hgr : w.grownBy (w.setCell ⟨f, i, none⟩ (.int .u32 0)) (some f) := ⟨rfl, rfl, rfl, by simp [World.setCell], fun j _ hj => Below.heap_setCell w ⟨f, i, none⟩ _ j (fun e => hj (by rw [e]))⟩
    refine ⟨f, rfl, hB, hcap, hW.free i, ⟨cur[i], by rw [hW.cell i]; exact Array.getElem?_eq_getElem hlt⟩, fun x => ?_⟩
    have hgs : w.grownBy (w.setCell ⟨f, i, none⟩ (.int .u32 x)) (some f) := ⟨rfl, rfl, rfl, by simp [World.setCell], fun j _ hj => Below.heap_setCell w ⟨f, i, none⟩ _ j (fun e => hj (by rw [e]))⟩
    obtain ⟨es, clock, hmb⟩ := h.mblk
    refine ⟨h.le, (hgs.block p h.blk.lt (fun e => whole_apart h.blk hW asm_u32 (by injection e))).trans h.blk, ?_, World.ownsRow.kept h.labels hgs (.inr (ownsRow_ne h.labels hg (fun _ _ h => u32_lab (by injection h)))), h.leM, h.map.kept hgs (fun e => whole_map hW hmb (by injection e with e; exact e.symm)), World.ownsRow.kept h.opens hgs (.inr (ownsRow_ne h.opens hg (fun _ _ h => u32_nam (by injection h)))), lines_grown h.lines hgs (fun e => whole_apart hW h.lines str_u32.symm (by injection e))⟩
    show World.ownsRow _ B 45 1 _ (ws.set i x).length ((ws.set i x).map (Value.int .u32))
    rw [List.length_set]
    refine ⟨by rw [List.length_map, List.length_set, Nat.mul_one], .inr ⟨f, c, cur.setIfInBounds i (.int .u32 x), rfl, hB, hW.store i _, hcap, hmx, by rw [Array.size_setIfInBounds]; exact hsz, ?_⟩⟩
    rw [Array.toList_setIfInBounds, List.take_set, htk, List.map_set]

end Go.Proofs.YtnmpamfgkidmiaaDoor

/- Asm: resolve. -/
namespace Go.Proofs.YtnmpamfgkidmiaaDoor
open Go.ChangeShapes Go.WideShapes Go.ChangeAt Go.RowKit
set_option linter.unusedVariables false
set_option linter.unusedSimpArgs false
set_option linter.unusedSectionVars false
variable [LinesAt]

/-- m[k] with ok, on a map of one's own, as one operation of a region that only reads. -/
theorem quiet_lookup {P : Program} {ops : Array Oper} {o : Oper} {a : Act} {C : World → Prop} {KK : Act → Prop}
    (hg : o.guard = none) (m x : Operand) (t : TypeId) (hop : o.op = Op.lookup t m x true) (k e : TypeId) (K : Maps.Keyed P k) (ht : P.underlying t = some (.map k e)) (he : P.underlying e = some (.int .i64)) (hz : ∀ w, (zeroValue e).run P w = .ok (.int .i64 0) w) (b n : Nat) (D : DataW Unit)
    (hm : a.eval m = .map (some b)) (hown : ∀ w, C w → w.ownsMap P k (plainElem P e) b n D) (key : Value) (kl : Lit) (hx : a.eval x = key) (hkey : keyOf P k key = some kl) (c : Int) (hc : D.atKey kl (.lit (.int .i64 0)) = .lit (.int .i64 c)) (hb : Bool) (hh : Maps.has D kl = hb)
    (hK : KK (a.put o.dst (.tuple #[.int .i64 c, .bool hb]))) :
    if Region.wanted o (yielded ops a.tmps) = true then o.quiet P a C KK else KK (a.put o.dst undef) := by
  have hw : Region.wanted o (yielded ops a.tmps) = true := by simp [Region.wanted, hg]
  rw [if_pos hw]
  refine ⟨_, fun w hC => ?_, hK⟩
  obtain ⟨v, ps, hrun, hv⟩ := (hown w hC).look_ok K ht (hz w) (plainElem_int he (by decide)) hkey
  obtain ⟨c', rfl, hc', _⟩ := plainElem_int_inv he hv
  have e1 := (congrArg Prod.fst hc').symm.trans hc
  have e2 : c' = c := by injection e1 with e1; injection e1
  subst e2 hh
  unfold Oper.quietAt
  simp [execOp, hop, hm, hx, hrun, Result.andThen, Oper.quietUpon]

/-- What resolve leaves. -/
def ResPost (w : World) (B p : Nat) (st : AsmS) (r : Int × Nat × List Int) (e : Ending) (w' : World) : Prop :=
  ∃ v0 v1 v3 mb, e = .returned (.tuple #[.int .i64 r.2.1, .int .i64 r.1]) ∧ AsmAt w' B p ⟨r.2.2, st.labels, st.opens⟩ v0 v1 v3 mb ∧ Below B w w' ∧ w.heap.size ≤ w'.heap.size

set_option maxHeartbeats 8000000 in
set_option maxRecDepth 100000 in
theorem resolve_any (B p : Nat) (st : AsmS) (v0 v1 v3 : Value) (mb : Nat) (w : World) (h : AsmAt w B p st v0 v1 v3 mb) (hok : AsmOk st) (hS : ∀ W, Below B w W → ShapesIn W) (hBw : B ≤ w.heap.size) (hws : st.words.length ≤ 1000000) (hos : st.opens.length ≤ 1000000) :
    Calls Tryd.prog 22 #[.pointer (some ⟨p, 0, none⟩)] w (ResPost w B p st (resolveF st.labels st.opens st.words)) := by
  obtain ⟨A3, c3, rfl⟩ : ∃ A3 c3, v3 = .slice A3 st.opens.length c3 := by
    rcases h.opens.2 with ⟨h1, h2⟩ | ⟨g, cap, cur, h1, _⟩
    · exact ⟨none, 0, by rw [h2]; exact h1⟩
    · exact ⟨_, _, h1⟩
  obtain ⟨A0, c0, rfl, _⟩ := Owns.form h.words
  have p3 : w.cell? ⟨p, 3, none⟩ = some (.slice A3 st.opens.length c3) := h.blk.cell 3
  have H := Lib.hid h
  have HS := Lib.hid hS
  have OK := Lib.hid hok
  have HR := Lib.hid (show (∃ t ws, t ≤ st.opens.length ∧ (Value.int .i64 0) = .int .i64 (t : Nat) ∧ AsmAt w B p ⟨ws, st.labels, st.opens⟩ (.slice A0 st.words.length c0) v1 (.slice A3 st.opens.length c3) mb ∧ Below B w w ∧ w.heap.size ≤ w.heap.size ∧ resolveF st.labels (st.opens.drop t) ws = resolveF st.labels st.opens st.words ∧ ws.length = st.words.length) from ⟨0, st.words, Nat.zero_le _, rfl, h, Below.refl _ _, Nat.le_refl _, rfl, rfl⟩)
  clear h hS hok
  generalize hrr : resolveF st.labels st.opens st.words = rr at *
  have RR := Lib.hid hrr
  clear hrr
  go_enter Tryd.func22, Tryd.ntmps22
  go_wp2_with fail
  go_loopw [15] (fun i wr => ∃ (t : Nat) (ws : List Int), t ≤ st.opens.length ∧ i = .int .i64 t ∧ AsmAt wr B p ⟨ws, st.labels, st.opens⟩ (.slice A0 st.words.length c0) v1 (.slice A3 st.opens.length c3) mb ∧ Below B w wr ∧ w.heap.size ≤ wr.heap.size ∧ resolveF st.labels (st.opens.drop t) ws = rr ∧ ws.length = st.words.length) (fun i _ => st.opens.length - (intOf i).toNat)
  case atStart => exact HR.out
  case round =>
    obtain ⟨t, ws, ht, rfl, hA, hB, hZ, hR, hl⟩ := hrel
    have HA := Lib.hid hA
    have HB := Lib.hid hB
    have HRR := Lib.hid hR
    have HL := Lib.hid hl
    rcases Nat.lt_or_ge t st.opens.length with hlt | hge
    · have hI : (t : Int) < st.opens.length := by omega
      obtain ⟨hc3, g, rfl, hBg, hgl, hg⟩ := opens_cell hA.opens rfl hlt
      generalize hO : st.opens.getD t noOpn = o at *
      have HD : st.opens.drop t = o :: st.opens.drop (t + 1) := by
        rw [List.drop_eq_getElem_cons hlt, ← hO, List.getD_eq_getElem?_getD, List.getElem?_eq_getElem hlt]
        rfl
      have hmem : o ∈ st.opens := by
        rw [← hO, List.getD_eq_getElem?_getD, List.getElem?_eq_getElem hlt]
        exact List.getElem_mem hlt
      have hop := OK.out.opens o hmem
      obtain ⟨op, ia, ib, ic, imm, lab, ow, ol⟩ := o
      have hlab := hop.2.2.2.2.2
      have HD := Lib.hid HD
      clear hO hmem
      have q0 : wr.cell? ⟨g, t * 8, none⟩ = some (.int .i64 op) := hg 0 (by decide)
      have q1 : wr.cell? ⟨g, t * 8 + 1, none⟩ = some (.int .i64 ia) := hg 1 (by decide)
      have q2 : wr.cell? ⟨g, t * 8 + 2, none⟩ = some (.int .i64 ib) := hg 2 (by decide)
      have q3 : wr.cell? ⟨g, t * 8 + 3, none⟩ = some (.int .i64 ic) := hg 3 (by decide)
      have q4 : wr.cell? ⟨g, t * 8 + 4, none⟩ = some (.int .i64 imm) := hg 4 (by decide)
      have q5 : wr.cell? ⟨g, t * 8 + 5, none⟩ = some (.string lab) := hg 5 (by decide)
      have q6 : wr.cell? ⟨g, t * 8 + 6, none⟩ = some (.int .i64 ow) := hg 6 (by decide)
      have q7 : wr.cell? ⟨g, t * 8 + 7, none⟩ = some (.int .i64 ol) := hg 7 (by decide)
      clear hg
      clear hA hB hR hl
      have BW := (Below.refl wr.heap.size wr).alloc (Nat.le_refl _) (.cells #[.int .i64 op, .int .i64 ia, .int .i64 ib, .int .i64 ic, .int .i64 imm, .string lab, .int .i64 ow, .int .i64 ol] 95)
      have H1 := Lib.hid (HA.out.below BW)
      have B1 := Lib.hid (HB.out.trans (BW.mono (Nat.le_trans hBw hZ)))
      have BZ := Lib.hid (show ∀ nq u, AsmAt (((wr.alloc (.cells #[.int .i64 op, .int .i64 ia, .int .i64 ib, .int .i64 ic, .int .i64 imm, .string lab, .int .i64 ow, .int .i64 ol] 95)).drewN nq).setCell ⟨wr.heap.size, 4, none⟩ u) B p ⟨ws, st.labels, st.opens⟩ (.slice A0 st.words.length c0) v1 (.slice (some ⟨g, 0, none⟩) st.opens.length c3) mb from fun nq u => HA.out.below ((below_drewN BW nq).setCell (p := ⟨wr.heap.size, 4, none⟩) (Nat.le_refl _) u))
      have Q1 := Lib.hid (Whole.made wr 95 #[.int .i64 op, .int .i64 ia, .int .i64 ib, .int .i64 ic, .int .i64 imm, .string lab, .int .i64 ow, .int .i64 ol] _ rfl)
      have Z1 : wr.heap.size ≤ (wr.alloc (.cells #[.int .i64 op, .int .i64 ia, .int .i64 ib, .int .i64 ic, .int .i64 imm, .string lab, .int .i64 ow, .int .i64 ol] 95)).heap.size := BW.size
      clear BW HA HB
      go_wp2_with fail
      generalize wr.alloc (.cells #[.int .i64 op, .int .i64 ia, .int .i64 ib, .int .i64 ic, .int .i64 imm, .string lab, .int .i64 ow, .int .i64 ol] 95) = W at *
      generalize wr.heap.size = b at *
      clear q0 q1 q2 q3 q4 q5 q6 q7
      have m2 : W.cell? ⟨p, 2, none⟩ = some (.map (some mb)) := H1.out.blk.cell 2
      have x5 : W.cell? ⟨b, 5, none⟩ = some (.string lab) := Q1.out.cell 5
      have MP := Lib.hid H1.out.map
      have hls : lab.size ≤ 1000000 := hlab
      have x0 : W.cell? ⟨b, 0, none⟩ = some (.int .i64 op) := Q1.out.cell 0
      have x1 : W.cell? ⟨b, 1, none⟩ = some (.int .i64 ia) := Q1.out.cell 1
      have x2 : W.cell? ⟨b, 2, none⟩ = some (.int .i64 ib) := Q1.out.cell 2
      have x3 : W.cell? ⟨b, 3, none⟩ = some (.int .i64 ic) := Q1.out.cell 3
      have x4c : W.cell? ⟨b, 4, none⟩ = some (.int .i64 imm) := Q1.out.cell 4
      have x4 : W.frozen? ⟨b, 4, none⟩ = false := Q1.out.free 4
      have x6 : W.cell? ⟨b, 6, none⟩ = some (.int .i64 ow) := Q1.out.cell 6
      have x7 : W.cell? ⟨b, 7, none⟩ = some (.int .i64 ol) := Q1.out.cell 7
      have hkey := Lib.hid (Go.WideMaps.keyOf_string_mk (P := Tryd.prog) Tryd.underlying9 (s := lab) (by unfold maxLen; omega))
      have LA := Lib.hid (lmap_at st.labels lab)
      have LH := Lib.hid (lmap_has st.labels lab)
      have hpl := placeL_le OK.out.labels lab
      have NO := Lib.hid (show numO st.labels ⟨op, ia, ib, ic, imm, lab, ow, ol⟩ = (((placeL st.labels lab).getD 0 : Nat) : Int) - ow - 1 from rfl)
      have ST := Lib.hid (show resolveF st.labels (⟨op, ia, ib, ic, imm, lab, ow, ol⟩ :: st.opens.drop (t + 1)) ws = rr by rw [← HD.out]; exact HRR.out)
      generalize (placeL st.labels lab).getD 0 = pl at *
      cases hh : hasL st.labels lab with
      | false =>
        rw [hh] at LH
        have hrr : rr = (50, ol, ws) := by
          rw [← ST.out]
          unfold resolveF
          exact if_neg (by rw [hh]; decide)
        have HX := Lib.hid hrr
        clear hrr
        refine wp_region_quiet_lit (by kernel_rfl) (by kernel_rfl) ?_
        iterate 6 (go_big_quiet_step (fail))
        refine wpQuiet_step (fun K hK => ?_)
        refine quiet_lookup rfl (.tmp 23) (.tmp 25) 47 rfl 9 3 map_law Tryd.underlying47 Tryd.underlying3 (Tryd.zeroValue3) mb st.labels.length _ rfl (fun w hC => by obtain ⟨nq, rfl⟩ := hC; exact MP.out) _ _ rfl hkey.out _ LA.out _ LH.out (hK _ ?_)
        clear hK K
        simp only [Act.put, List.setIfInBounds_toArray, List.set_cons_succ, List.set_cons_zero]
        iterate 5 (go_big_quiet_step (fail))
        refine wpQuiet_nil ?_
        intro _ hw'
        obtain ⟨nq, hw''⟩ := hw'
        subst hw''
        have HE := Lib.hid (H1.out.below (below_drewN (Below.refl W.heap.size W) nq))
        have BE := Lib.hid (below_drewN B1.out nq)
        have ZE : w.heap.size ≤ (W.drewN nq).heap.size := Nat.le_trans hZ Z1
        generalize hWE : W.drewN nq = WE at *
        have x7' : WE.cell? ⟨b, 7, none⟩ = some (.int .i64 ol) := by rw [← hWE]; exact x7
        clear x0 x1 x2 x3 x4 x4c x5 x6 x7 m2 hWE
        go_wp2_with fail
        go_ret2
        exact ⟨_, v1, _, mb, by rw [HX.out]; rfl, by rw [HX.out]; exact HE.out, BE.out, ZE⟩
      | true =>
        rw [hh] at LH
        have how := hop.1
        have num := Lib.hid (show I64 ((pl : Int) - ow - 1) from by unfold I64; omega)
        refine wp_region_quiet_lit (by kernel_rfl) (by kernel_rfl) ?_
        iterate 6 (go_big_quiet_step (fail))
        refine wpQuiet_step (fun K hK => ?_)
        refine quiet_lookup rfl (.tmp 23) (.tmp 25) 47 rfl 9 3 map_law Tryd.underlying47 Tryd.underlying3 (Tryd.zeroValue3) mb st.labels.length _ rfl (fun w hC => by obtain ⟨nq, rfl⟩ := hC; exact MP.out) _ _ rfl hkey.out _ LA.out _ LH.out (hK _ ?_)
        clear hK K
        simp only [Act.put, List.setIfInBounds_toArray, List.set_cons_succ, List.set_cons_zero]
        iterate 5 (go_big_quiet_step (fail))
        refine wpQuiet_nil ?_
        intro _ hw'
        obtain ⟨nq, hw''⟩ := hw'
        subst hw''
        have S2 : (if checkOf op ia ib ic ((pl : Int) - ow - 1) = 0 then resolveF st.labels (st.opens.drop (t + 1)) (ws.set ow (encOf op ia ib ic ((pl : Int) - ow - 1))) else (52, ol, ws)) = rr := by
          have := ST.out
          rw [resolveF_cons, if_pos hh, NO.out] at this
          exact this
        have EN := Lib.hid (fun w hs => encode_any op ia ib ic ((pl : Int) - ow - 1) w hs hop.2.2.1 hop.2.2.2.1 hop.2.2.2.2.1 num.out)
        unfold encR instrV at EN
        have SR := Lib.hid S2
        clear S2
        have Q2 := Lib.hid (show Whole ((W.drewN nq).setCell ⟨b, 4, none⟩ (.int .i64 ((pl : Int) - ow - 1))) b 95 #[.int .i64 op, .int .i64 ia, .int .i64 ib, .int .i64 ic, .int .i64 ((pl : Int) - ow - 1), .string lab, .int .i64 ow, .int .i64 ol] from (show Whole (W.drewN nq) b 95 #[.int .i64 op, .int .i64 ia, .int .i64 ib, .int .i64 ic, .int .i64 imm, .string lab, .int .i64 ow, .int .i64 ol] from Q1.out).store 4 _)
        have HD2 := Lib.hid ((H1.out.below (below_drewN (Below.refl W.heap.size W) nq)))
        have y0 : ((W.drewN nq).setCell ⟨b, 4, none⟩ (.int .i64 ((pl : Int) - ow - 1))).cell? ⟨b, 0, none⟩ = some (.int .i64 op) := Q2.out.cell 0
        have y1 : ((W.drewN nq).setCell ⟨b, 4, none⟩ (.int .i64 ((pl : Int) - ow - 1))).cell? ⟨b, 1, none⟩ = some (.int .i64 ia) := Q2.out.cell 1
        have y2 : ((W.drewN nq).setCell ⟨b, 4, none⟩ (.int .i64 ((pl : Int) - ow - 1))).cell? ⟨b, 2, none⟩ = some (.int .i64 ib) := Q2.out.cell 2
        have y3 : ((W.drewN nq).setCell ⟨b, 4, none⟩ (.int .i64 ((pl : Int) - ow - 1))).cell? ⟨b, 3, none⟩ = some (.int .i64 ic) := Q2.out.cell 3
        have y4 : ((W.drewN nq).setCell ⟨b, 4, none⟩ (.int .i64 ((pl : Int) - ow - 1))).cell? ⟨b, 4, none⟩ = some (.int .i64 ((pl : Int) - ow - 1)) := Q2.out.cell 4
        go_wp2_with fail
        have H2 := Lib.hid (show AsmAt ((W.drewN nq).setCell ⟨b, 4, none⟩ (.int .i64 ((pl : Int) - ow - 1))) B p ⟨ws, st.labels, st.opens⟩ (.slice A0 st.words.length c0) v1 (.slice (some ⟨g, 0, none⟩) st.opens.length c3) mb from BZ.out nq _)
        have B2 := Lib.hid (show Below B w ((W.drewN nq).setCell ⟨b, 4, none⟩ (.int .i64 ((pl : Int) - ow - 1))) from (below_drewN B1.out nq).setCell (p := ⟨b, 4, none⟩) (show B ≤ b by omega) _)
        have Z2 : w.heap.size ≤ ((W.drewN nq).setCell ⟨b, 4, none⟩ (.int .i64 ((pl : Int) - ow - 1))).heap.size := by simp [World.setCell]; omega
        clear BZ x0 x1 x2 x3 x4 x4c x5 x6 x7 m2 y0 y1 y2 y3 y4 Q1 H1 B1 HD2 MP LA LH NO ST
        generalize (W.drewN nq).setCell ⟨b, 4, none⟩ (.int .i64 ((pl : Int) - ow - 1)) = W2 at *
        generalize encOf op ia ib ic ((pl : Int) - ow - 1) = en at *
        generalize checkOf op ia ib ic ((pl : Int) - ow - 1) = ck at *
        refine (EN.out _ (HS.out _ B2.out)).mono ?_
        rintro e W3 ⟨rfl, hb3⟩
        have H3 := Lib.hid (H2.out.below hb3)
        have Q3 := Lib.hid (Q2.out.below hb3 Q2.out.lt)
        have B3 := Lib.hid (B2.out.trans (hb3.mono (Nat.le_trans hBw Z2)))
        have Z3 : w.heap.size ≤ W3.heap.size := Nat.le_trans Z2 hb3.size
        have z6 : W3.cell? ⟨b, 6, none⟩ = some (.int .i64 ow) := Q3.out.cell 6
        have z7 : W3.cell? ⟨b, 7, none⟩ = some (.int .i64 ol) := Q3.out.cell 7
        have p0 : W3.cell? ⟨p, 0, none⟩ = some (.slice A0 st.words.length c0) := H3.out.blk.cell 0
        clear hb3 H2 Q2 B2 EN
        by_cases hck : ck = 0
        · subst hck
          obtain ⟨f, rfl, hBf, hc0, hfz, ⟨u, hu⟩, hset⟩ := (H3.out.below (Below.refl W3.heap.size W3).drew).set_word HL.out how
          have HSET := Lib.hid hset
          have hfz' : W3.frozen? ⟨f, ow, none⟩ = false := hfz
          have hu' : W3.cell? ⟨f, ow, none⟩ = some u := hu
          clear hset hfz hu
          have hIw : (ow : Int) < st.words.length := by omega
          have hrr := SR.out
          rw [if_pos rfl] at hrr
          have HX := Lib.hid hrr
          clear hrr SR
          go_wp2_with fail
          go_region
          all_goals
            go_wp2_with fail
            go_roundw
            case rel => exact ⟨t + 1, ws.set ow en, by omega, by go_num, HSET.out en, B3.out.drew.setCell (p := ⟨f, ow, none⟩) hBf _, by simp [World.setCell]; omega, HX.out, by rw [List.length_set]; exact HL.out⟩
            case measure => simp [intOf]; omega
        · have hrr := SR.out
          rw [if_neg hck] at hrr
          have HX := Lib.hid hrr.symm
          have hck2 : (ck == 0) = false := by simp [hck]
          clear hrr SR
          go_wp2_with fail
          go_ret2
          exact ⟨_, v1, _, mb, by rw [HX.out]; rfl, by rw [HX.out]; exact H3.out, B3.out, Z3⟩
    · have hn : t = st.opens.length := by omega
      subst hn
      have hrr : rr = (0, 0, ws) := by
        have := HRR.out
        rw [List.drop_length] at this
        exact this.symm
      have HX := Lib.hid hrr
      have hI : decide ((st.opens.length : Int) < st.opens.length) = false := decide_eq_false (by omega)
      clear hA hB hR hl hrr
      go_wp2_with fail
      go_ret2
      exact ⟨_, v1, _, mb, by rw [HX.out]; rfl, by rw [HX.out]; exact HA.out, HB.out, hZ⟩
end Go.Proofs.YtnmpamfgkidmiaaDoor

/- Asm: what the lines keep. -/
namespace Go.Proofs.YtnmpamfgkidmiaaDoor
open Go.ChangeShapes Go.WideShapes Go.ChangeAt Go.RowKit
set_option linter.unusedVariables false
set_option linter.unusedSimpArgs false
set_option linter.unusedSectionVars false
variable [LinesAt]

/-- The states that lines lead to, with their bounds. -/
structure AsmIn (st : AsmS) (k : Nat) : Prop where
  ok : AsmOk st
  words : st.words.length ≤ 16384
  labels : st.labels.length ≤ k
  opens : st.opens.length ≤ k

theorem AsmIn.start : AsmIn ⟨[], [], []⟩ 0 := ⟨⟨fun _ h => (List.not_mem_nil h).elim, fun _ h => (List.not_mem_nil h).elim⟩, Nat.zero_le _, Nat.le_refl _, Nat.le_refl _⟩

theorem AsmIn.up {st : AsmS} {k : Nat} (h : AsmIn st k) : AsmIn st (k + 1) := ⟨h.ok, h.words, Nat.le_succ_of_le h.labels, Nat.le_succ_of_le h.opens⟩

theorem addS_in {x : Int} {st : AsmS} {k : Nat} (hl : ∀ l ∈ st.labels, l.2 ≤ st.words.length) (ho : ∀ o ∈ st.opens, o.at_ ≤ st.words.length ∧ I64 o.op ∧ I64 o.a ∧ I64 o.b ∧ I64 o.c ∧ o.label.size ≤ 1000000) (hn : st.labels.length ≤ k) (hm : st.opens.length ≤ k) (h : (addS x st).1 = 0) : AsmIn (addS x st).2 k := by
  unfold addS at h ⊢
  split at h
  · simp at h
  · rename_i hf
    rw [if_neg hf]
    refine ⟨⟨fun l hl' => ?_, fun o ho' => ?_⟩, by simp; omega, hn, hm⟩
    · have := hl l hl'
      simp
      omega
    · obtain ⟨h1, h2⟩ := ho o ho'
      exact ⟨by simp; omega, h2⟩

theorem AsmIn.add {x : Int} {st : AsmS} {k : Nat} (hI : AsmIn st k) (h : (addS x st).1 = 0) : AsmIn (addS x st).2 k :=
  addS_in hI.ok.labels (fun o ho => ⟨Nat.le_of_lt (hI.ok.opens o ho).1, (hI.ok.opens o ho).2⟩) hI.labels hI.opens h

theorem AsmIn.raw {s : ByteArray} {st : AsmS} {k : Nat} (hI : AsmIn st k) (h : (rawS s st).1 = 0) : AsmIn (rawS s st).2 k := by
  unfold rawS at h ⊢
  split at h
  · rename_i hx
    rw [if_pos hx]
    exact hI.add h
  · simp at h

theorem AsmIn.mark {s : ByteArray} {st : AsmS} {k : Nat} (hI : AsmIn st k) (h : (markS s st).1 = 0) : AsmIn (markS s st).2 (k + 1) := by
  unfold markS at h ⊢
  split at h
  · rename_i hx
    rw [if_pos hx]
    split at h
    · simp at h
    · rename_i hy
      rw [if_neg hy]
      refine ⟨⟨fun l hl => ?_, hI.ok.opens⟩, hI.words, by simp; exact hI.labels, Nat.le_succ_of_le hI.opens⟩
      rw [List.mem_append, List.mem_singleton] at hl
      rcases hl with hl | rfl
      · exact hI.ok.labels l hl
      · exact Nat.le_refl _
  · simp at h

theorem name_small {s : ByteArray} (h : nameB s = true) : s.size ≤ 32 := by
  unfold nameB at h
  simp only [Bool.and_eq_true, decide_eq_true_eq] at h
  exact h.1.1.2

theorem opFrom_in (s : ByteArray) : ∀ (n k : Nat), k + n ≤ 100 → 0 ≤ opFrom s k n ∧ opFrom s k n ≤ 100
  | 0, k, _ => ⟨Int.le_refl _, by unfold opFrom; decide⟩
  | n + 1, k, h => by
    unfold opFrom
    split
    · omega
    · exact opFrom_in s n (k + 1) (by omega)

theorem opOf_i64 (s : ByteArray) : I64 (opOf s) := by
  have := opFrom_in s 34 1 (by decide)
  unfold opOf I64
  omega

theorem AsmIn.inst {op : Int} {ss : List ByteArray} {line : Nat} {st : AsmS} {k : Nat} (hI : AsmIn st k) (hop : I64 op) (h : (instS op ss line st).1 = 0) : AsmIn (instS op ss line st).2 (k + 1) := by
  unfold instS at h ⊢
  split at h
  · rename_i hf
    rw [if_pos hf]
    split at h
    · rename_i hn
      rw [if_pos hn]
      obtain ⟨ja, jb, jc, jn⟩ := fill_i64 hf
      refine addS_in hI.ok.labels (fun o ho => ?_) (Nat.le_succ_of_le hI.labels) (by simp; exact hI.opens) h
      rw [List.mem_append, List.mem_singleton] at ho
      rcases ho with ho | rfl
      · exact ⟨Nat.le_of_lt (hI.ok.opens o ho).1, (hI.ok.opens o ho).2⟩
      · refine ⟨Nat.le_refl _, hop, ja, jb, jc, ?_⟩
        unfold isNm at hn
        simp only [Bool.and_eq_true] at hn
        have := name_small hn.2.2
        exact Nat.le_trans this (by decide)
    · rename_i hn
      rw [if_neg hn]
      exact (hI.add h).up
  · simp at h

theorem readS_in {line : ByteArray} {n : Nat} {st : AsmS} {k : Nat} (hI : AsmIn st k) (h : (readS line n st).1 = 0) : AsmIn (readS line n st).2 (k + 1) := by
  unfold readS at h ⊢
  split at h
  · rename_i h0
    rw [if_pos h0]
    exact hI.up
  · rename_i h0
    rw [if_neg h0]
    split at h
    · rename_i h1
      rw [if_pos h1]
      exact hI.up
    · rename_i h1
      rw [if_neg h1]
      split at h
      · rename_i h2
        rw [if_pos h2]
        exact hI.mark h
      · rename_i h2
        rw [if_neg h2]
        split at h
        · rename_i h3
          rw [if_pos h3]
          exact (hI.raw h).up
        · rename_i h3
          rw [if_neg h3]
          exact hI.inst (opOf_i64 _) h

end Go.Proofs.YtnmpamfgkidmiaaDoor

/- Asm: Assemble. -/
namespace Go.Proofs.YtnmpamfgkidmiaaDoor
open Go.ChangeShapes Go.WideShapes Go.ChangeAt Go.RowKit
set_option linter.unusedVariables false
set_option linter.unusedSimpArgs false

def linesA (text : ByteArray) : List ByteArray := Lib.splitB ⟨#[10]⟩ 0 (Lib.countB text ⟨#[10]⟩) text

abbrev unitT : TypeId := 26

theorem uni_u32 : unitT ≠ 45 := by decide
theorem uni_lab : unitT ≠ 66 := by decide

set_option maxHeartbeats 8000000 in
set_option maxRecDepth 100000 in
/-- Too many lines. -/
theorem asm_full (text : ByteArray) (w : World) (ht : text.size ≤ 1000000) (hc : 4096 ≤ Lib.countByte text.data.toList 10) :
    Calls Tryd.prog 9 #[.string text] w fun e w' => e = .returned (.tuple #[.agg #[.slice none 0 0, .slice none 0 0], .int .i64 4097, .int .i64 242]) ∧ Below w.heap.size w w' := by
  have CO := Lib.hid (show ∀ w, Calls Tryd.prog 19 #[.string text, .string ⟨#[10]⟩] w fun e w' => e = .returned (.int .i64 (Lib.countByte text.data.toList 10)) ∧ w = w' from fun w => (Tryd.strings_Count_one text 10 w).mono (fun e w' h => ⟨h.1, h.2.symm⟩))
  generalize Lib.countByte text.data.toList 10 = n at *
  have d : decide ((4096 : Int) ≤ n) = true := decide_eq_true (by omega)
  have BA := Lib.hid ((Below.refl w.heap.size w).alloc (Nat.le_refl _) (.cells #[.slice none 0 0, .slice none 0 0] unitT))
  have Q := Lib.hid (Whole.made w unitT #[.slice none 0 0, .slice none 0 0] _ rfl)
  have q0 : (w.alloc (.cells #[.slice none 0 0, .slice none 0 0] unitT)).cell? ⟨w.heap.size, 0, none⟩ = some (.slice none 0 0) := Q.out.cell 0
  have q1 : (w.alloc (.cells #[.slice none 0 0, .slice none 0 0] unitT)).cell? ⟨w.heap.size, 1, none⟩ = some (.slice none 0 0) := Q.out.cell 1
  go_enter Tryd.func9, Tryd.ntmps9
  go_wp2_with fail
  refine (CO.out _).mono ?_
  rintro e w1 ⟨rfl, rfl⟩
  go_wp2_with fail
  refine bodyPost_ret (v := .tuple #[.agg #[.slice none 0 0, .slice none 0 0], .int .i64 4097, .int .i64 242]) ?_ rfl ⟨rfl, BA.out⟩
  simp [results, Tryd.results9, go_sem, q0, q1]

/-- What the lines come to, from line n on: an errno, the number of lines read, the state. -/
def runS : List ByteArray → Nat → AsmS → Int × Nat × AsmS
  | [], n, st => (0, n, st)
  | l :: ls, n, st => if (readS l (n + 1) st).1 = 0 then runS ls (n + 1) (readS l (n + 1) st).2 else ((readS l (n + 1) st).1, n + 1, st)

/-- What a text comes to. -/
def asmF (text : ByteArray) : Int × Nat × AsmS :=
  if (runS (linesA text) 0 ⟨[], [], []⟩).1 = 0 then
    ((resolveF (runS (linesA text) 0 ⟨[], [], []⟩).2.2.labels (runS (linesA text) 0 ⟨[], [], []⟩).2.2.opens (runS (linesA text) 0 ⟨[], [], []⟩).2.2.words).1, (resolveF (runS (linesA text) 0 ⟨[], [], []⟩).2.2.labels (runS (linesA text) 0 ⟨[], [], []⟩).2.2.opens (runS (linesA text) 0 ⟨[], [], []⟩).2.2.words).2.1, ⟨(resolveF (runS (linesA text) 0 ⟨[], [], []⟩).2.2.labels (runS (linesA text) 0 ⟨[], [], []⟩).2.2.opens (runS (linesA text) 0 ⟨[], [], []⟩).2.2.words).2.2, (runS (linesA text) 0 ⟨[], [], []⟩).2.2.labels, (runS (linesA text) 0 ⟨[], [], []⟩).2.2.opens⟩)
  else runS (linesA text) 0 ⟨[], [], []⟩

/-- What Assemble leaves. -/
def AsmRes (w : World) (r : Int × Nat × AsmS) (e : Ending) (w' : World) : Prop :=
  ∃ v0 v1, e = .returned (.tuple #[.agg #[v0, v1], .int .i64 r.2.1, .int .i64 r.1]) ∧ Below w.heap.size w w' ∧ (r.1 = 0 → Owns .u32 45 w' (w.heap.size + 1) v0 r.2.2.words.length r.2.2.words ∧ w'.ownsRow (w.heap.size + 1) 66 2 v1 r.2.2.labels.length (r.2.2.labels.flatMap labCells)) ∧ (r.1 ≠ 0 → v0 = .slice none 0 0 ∧ v1 = .slice none 0 0)

theorem runS_cons (l : ByteArray) (ls : List ByteArray) (n : Nat) (st : AsmS) : runS (l :: ls) n st = if (readS l (n + 1) st).1 = 0 then runS ls (n + 1) (readS l (n + 1) st).2 else ((readS l (n + 1) st).1, n + 1, st) := rfl

theorem resolveF_zero (l : List Lab) : ∀ (os : List Opn) (ws : List Int), (resolveF l os ws).1 = 0 → (resolveF l os ws).2.1 = 0
  | [], ws, _ => rfl
  | o :: os, ws, h => by
    letI : LinesAt := ⟨0, #[]⟩
    rw [resolveF_cons] at h ⊢
    split at h
    · rename_i h1
      rw [if_pos h1]
      split at h
      · rename_i h2
        rw [if_pos h2]
        exact resolveF_zero l os _ h
      · simp at h
    · simp at h

theorem lines_len (text : ByteArray) : (linesA text).length = Lib.countB text ⟨#[10]⟩ + 1 := Lib.splitB_all ⟨#[10]⟩ (by decide) 0 _ text rfl

set_option maxHeartbeats 8000000 in
set_option maxRecDepth 100000 in
theorem asm_any (text : ByteArray) (w : World) (ht : text.size ≤ 900000) (hT : ∀ W, Below w.heap.size w W → Tab W) (hc : ¬ 4096 ≤ Lib.countByte text.data.toList 10) :
    Calls Tryd.prog 9 #[.string text] w (AsmRes w (asmF text)) := by
  letI : LinesAt := ⟨w.heap.size + 3, ((linesA text).map Value.string).toArray⟩
  have CO := Lib.hid (show ∀ w, Calls Tryd.prog 19 #[.string text, .string ⟨#[10]⟩] w fun e w' => e = .returned (.int .i64 (Lib.countByte text.data.toList 10)) ∧ w = w' from fun w => (Tryd.strings_Count_one text 10 w).mono (fun e w' h => ⟨h.1, h.2.symm⟩))
  have hll := lines_len text
  have hle : (linesA text).length ≤ 1000000 := by have := Lib.countB_le ⟨#[10]⟩ (by decide) _ text (Nat.le_refl _); omega
  have SP := Lib.hid (show ∀ w m, w.cell? ⟨0, 0, none⟩ = some (.int .i64 m) → Calls Tryd.prog 20 #[.string text, .string ⟨#[10]⟩] w fun e w' => e = .returned (.slice (some ⟨w.heap.size, 0, none⟩) (linesA text).length (linesA text).length) ∧ w' = w.alloc (.cells ((linesA text).map Value.string).toArray 9) from fun w m hm => by rw [hll]; exact Tryd.strings_Split text ⟨#[10]⟩ m w (by omega) hm (by decide))
  clear hll
  have hzz : ∀ z ∈ linesA text, z.size ≤ 1000000 := fun z hz => Nat.le_trans (split_sizes _ _ _ z hz) (by omega)
  have ZZ := Lib.hid hzz
  have RR := Lib.hid (show runS ((linesA text).drop 0) 0 ⟨[], [], []⟩ = runS (linesA text) 0 ⟨[], [], []⟩ from rfl)
  have AF := Lib.hid (show asmF text = _ from by unfold asmF; exact rfl)
  generalize asmF text = af at *
  generalize runS (linesA text) 0 ⟨[], [], []⟩ = rr at *
  generalize Lib.countByte text.data.toList 10 = n at *
  have d : decide ((4096 : Int) ≤ n) = false := decide_eq_false (by omega)
  have BU := (Below.refl w.heap.size w).alloc (Nat.le_refl _) (.cells #[.slice none 0 0, .slice none 0 0] unitT)
  have BM := BU.alloc BU.size (.map #[] 0)
  have BA := BM.alloc BM.size (.cells #[.slice none 0 0, .slice none 0 0, .map (some (w.heap.size + 1)), .slice none 0 0] asmT)
  have BL := Lib.hid (BA.alloc BA.size (.cells ((linesA text).map Value.string).toArray 9))
  have HT := Lib.hid hT
  obtain ⟨m, hm⟩ := (hT _ BA).2.2
  have hm3 := Lib.hid hm
  have z1 : (w.alloc (.cells #[.slice none 0 0, .slice none 0 0] unitT)).heap.size = w.heap.size + 1 := by simp
  have z2 : ((w.alloc (.cells #[.slice none 0 0, .slice none 0 0] unitT)).alloc (.map #[] 0)).heap.size = w.heap.size + 2 := by simp
  have z3 : (((w.alloc (.cells #[.slice none 0 0, .slice none 0 0] unitT)).alloc (.map #[] 0)).alloc (.cells #[.slice none 0 0, .slice none 0 0, .map (some (w.heap.size + 1)), .slice none 0 0] asmT)).heap.size = w.heap.size + 3 := by simp
  have K1 := Whole.made ((w.alloc (.cells #[.slice none 0 0, .slice none 0 0] unitT)).alloc (.map #[] 0)) asmT #[.slice none 0 0, .slice none 0 0, .map (some (w.heap.size + 1)), .slice none 0 0] _ rfl
  rw [z2] at K1
  have K2 := World.ownsMap_made (H := Unit) (w.alloc (.cells #[.slice none 0 0, .slice none 0 0] unitT)) Tryd.prog 9 (plainElem Tryd.prog 3)
  rw [z1] at K2
  have K3 := Whole.made (((w.alloc (.cells #[.slice none 0 0, .slice none 0 0] unitT)).alloc (.map #[] 0)).alloc (.cells #[.slice none 0 0, .slice none 0 0, .map (some (w.heap.size + 1)), .slice none 0 0] asmT)) 9 ((linesA text).map Value.string).toArray _ rfl
  rw [z3] at K3
  have H0 := Lib.hid (show AsmAt ((((w.alloc (.cells #[.slice none 0 0, .slice none 0 0] unitT)).alloc (.map #[] 0)).alloc (.cells #[.slice none 0 0, .slice none 0 0, .map (some (w.heap.size + 1)), .slice none 0 0] asmT)).alloc (.cells ((linesA text).map Value.string).toArray 9)) (w.heap.size + 1) (w.heap.size + 2) ⟨[], [], []⟩ (.slice none 0 0) (.slice none 0 0) (.slice none 0 0) (w.heap.size + 1) from ⟨Nat.le_succ _, K1.alloc _, ⟨rfl, .inl ⟨rfl, rfl⟩⟩, ⟨rfl, .inl ⟨rfl, rfl⟩⟩, Nat.le_refl _, (K2.alloc _).alloc _, ⟨rfl, .inl ⟨rfl, rfl⟩⟩, K3⟩)
  have QU := Lib.hid (show Whole ((((w.alloc (.cells #[.slice none 0 0, .slice none 0 0] unitT)).alloc (.map #[] 0)).alloc (.cells #[.slice none 0 0, .slice none 0 0, .map (some (w.heap.size + 1)), .slice none 0 0] asmT)).alloc (.cells ((linesA text).map Value.string).toArray 9)) w.heap.size unitT #[.slice none 0 0, .slice none 0 0] from (((Whole.made w unitT #[.slice none 0 0, .slice none 0 0] _ rfl).alloc _).alloc _).alloc _)
  clear z1 z2 z3 K1 K2 K3
  have ZL : ((((w.alloc (.cells #[.slice none 0 0, .slice none 0 0] unitT)).alloc (.map #[] 0)).alloc (.cells #[.slice none 0 0, .slice none 0 0, .map (some (w.heap.size + 1)), .slice none 0 0] asmT)).alloc (.cells ((linesA text).map Value.string).toArray 9)).heap.size = w.heap.size + 4 := by simp
  clear hm BU BM BA hT
  have hmm := @run_makeMap Tryd.prog
  go_enter Tryd.func9, Tryd.ntmps9
  go_wp2_with fail
  refine (CO.out _).mono ?_
  rintro e w1 ⟨rfl, rfl⟩
  go_wp2_with fail
  refine (SP.out _ _ hm3.out).mono ?_
  rintro e w1 ⟨rfl, rfl⟩
  clear CO SP hm3
  go_wp2_with fail
  generalize ((((w.alloc (.cells #[.slice none 0 0, .slice none 0 0] unitT)).alloc (.map #[] 0)).alloc (.cells #[.slice none 0 0, .slice none 0 0, .map (some (w.heap.size + 1)), .slice none 0 0] asmT)).alloc (.cells ((linesA text).map Value.string).toArray 9)) = V at *
  have hlf : LinesAt.lf = w.heap.size + 3 := rfl
  have hlc : LinesAt.lcs = ((linesA text).map Value.string).toArray := rfl
  go_loopw [20] (fun i wr => ∃ (t : Nat) (st : AsmS) (v0 v1 v3 : Value) (mb : Nat), t ≤ (linesA text).length ∧ i = .int .i64 t ∧ AsmAt wr (w.heap.size + 1) (w.heap.size + 2) st v0 v1 v3 mb ∧ AsmIn st t ∧ Below (w.heap.size + 1) V wr ∧ V.heap.size ≤ wr.heap.size ∧ runS ((linesA text).drop t) t st = rr) (fun i _ => (linesA text).length - (intOf i).toNat)
  case atStart => exact ⟨0, _, _, _, _, _, Nat.zero_le _, rfl, H0.out, AsmIn.start, Below.refl _ _, Nat.le_refl _, RR.out⟩
  case round =>
    obtain ⟨t, st, v0, v1, v3, mb, ht', rfl, hA, hI, hB, hZ, hR⟩ := hrel
    have HA := Lib.hid hA
    have HI := Lib.hid hI
    have HB := Lib.hid hB
    have HR := Lib.hid hR
    have HTB : ∀ W, Below (w.heap.size + 1) wr W → Tab W := fun W hb => HT.out W (BL.out.trans ((hB.mono (Nat.le_succ _)).trans (hb.mono (Nat.le_succ _))))
    rcases Nat.lt_or_ge t (linesA text).length with hlt | hge
    · have hIt : (t : Int) < (linesA text).length := by omega
      have x0 : wr.cell? ⟨w.heap.size + 3, t, none⟩ = some (.string ((linesA text)[t])) := by
        have := hA.lines.cell t
        rw [hlf, hlc] at this
        rw [this]
        simp [hlt]
      have HD := Lib.hid (List.drop_eq_getElem_cons hlt)
      have hlz := ZZ.out _ (List.getElem_mem hlt)
      generalize (linesA text)[t] = l at *
      have RD := Lib.hid (read_any l (t + 1) (w.heap.size + 1) (w.heap.size + 2) st v0 v1 v3 mb wr hA HTB (by omega) (Nat.le_trans hI.words (by decide)) (Nat.le_trans hI.labels (by omega)) (Nat.le_trans hI.opens (by omega)) hlz)
      rw [show ((t + 1 : Nat) : Int) = (t : Int) + 1 from rfl] at RD
      have hstep : runS (l :: (linesA text).drop (t + 1)) t st = rr := by rw [← HD.out]; exact hR
      rw [runS_cons] at hstep
      have HS := Lib.hid hstep
      have HIN := Lib.hid (fun h => @readS_in _ l (t + 1) st t hI h)
      clear hA hI hB hR hstep HTB
      unfold AsmPost at RD
      generalize readS l (t + 1) st = q at *
      go_wp2_with fail
      refine RD.out.mono ?_
      rintro e w2 ⟨u0, u1, u3, m2, rfl, ha, hb2, hz2⟩
      have HA2 := Lib.hid ha
      have HB2 := Lib.hid (HB.out.trans hb2)
      have HZ2 := Nat.le_trans hZ hz2
      clear ha hb2 HA HB RD x0
      by_cases hq : q.1 = 0
      · have hr := HS.out
        rw [if_pos hq] at hr
        have HX := Lib.hid hr
        have hi2 := Lib.hid (HIN.out hq)
        clear hr HS HIN
        obtain ⟨q1, q2⟩ := q
        subst hq
        go_wp2_with fail
        go_roundw
        case rel => exact ⟨t + 1, q2, u0, u1, u3, m2, by omega, by go_num, HA2.out, hi2.out, HB2.out, HZ2, HX.out⟩
        case measure => simp [intOf]; omega
      · have hr := HS.out
        rw [if_neg hq] at hr
        have haf := AF.out
        rw [← hr, if_neg hq] at haf
        have HAF := Lib.hid haf
        have HNE := Lib.hid hq
        have QW := Lib.hid (QU.out.below HB2.out (Nat.lt_succ_self _))
        obtain ⟨q1, q2⟩ := q
        have hq2 : (q1 == 0) = false := by simpa using hq
        clear hr haf HS HIN HR RR
        have k0 : w2.cell? ⟨w.heap.size, 0, none⟩ = some (.slice none 0 0) := QW.out.cell 0
        have k1 : w2.cell? ⟨w.heap.size, 1, none⟩ = some (.slice none 0 0) := QW.out.cell 1
        have f0 : w2.frozen? ⟨w.heap.size, 0, none⟩ = false := QW.out.free 0
        have f1 : w2.frozen? ⟨w.heap.size, 1, none⟩ = false := QW.out.free 1
        have QS := Lib.hid (show Whole ((w2.setCell ⟨w.heap.size, 0, none⟩ (.slice none 0 0)).setCell ⟨w.heap.size, 1, none⟩ (.slice none 0 0)) w.heap.size unitT #[.slice none 0 0, .slice none 0 0] from (QW.out.store 0 _).store 1 _)
        have BS := Lib.hid (show Below w.heap.size w ((w2.setCell ⟨w.heap.size, 0, none⟩ (.slice none 0 0)).setCell ⟨w.heap.size, 1, none⟩ (.slice none 0 0)) from ((BL.out.trans (HB2.out.mono (Nat.le_succ _))).setCell (p := ⟨w.heap.size, 0, none⟩) (Nat.le_refl _) _).setCell (p := ⟨w.heap.size, 1, none⟩) (Nat.le_refl _) _)
        have r0 : ((w2.setCell ⟨w.heap.size, 0, none⟩ (.slice none 0 0)).setCell ⟨w.heap.size, 1, none⟩ (.slice none 0 0)).cell? ⟨w.heap.size, 0, none⟩ = some (.slice none 0 0) := QS.out.cell 0
        have r1 : ((w2.setCell ⟨w.heap.size, 0, none⟩ (.slice none 0 0)).setCell ⟨w.heap.size, 1, none⟩ (.slice none 0 0)).cell? ⟨w.heap.size, 1, none⟩ = some (.slice none 0 0) := QS.out.cell 1
        go_wp2_with fail
        refine bodyPost_ret (v := .tuple #[.agg #[.slice none 0 0, .slice none 0 0], .int .i64 ((t : Int) + 1), .int .i64 (q1)]) ?_ rfl ⟨_, _, by (rw [HAF.out]; try rfl), BS.out, fun h => absurd (show _ = _ from by rw [HAF.out] at h; exact h) HNE.out, fun _ => ⟨rfl, rfl⟩⟩
        simp [results, Tryd.results9, go_sem, r0, r1]
    · have hn : t = (linesA text).length := by omega
      subst hn
      have hIt : decide (((linesA text).length : Int) < (linesA text).length) = false := decide_eq_false (by omega)
      have hr : rr = ((0 : Int), (linesA text).length, st) := by
        rw [← hR, List.drop_length]
        rfl
      have haf : af = ((resolveF st.labels st.opens st.words).1, (resolveF st.labels st.opens st.words).2.1, ⟨(resolveF st.labels st.opens st.words).2.2, st.labels, st.opens⟩) := by
        have := AF.out
        rw [hr] at this
        exact this.trans (if_pos rfl)
      have RS := Lib.hid (resolve_any (w.heap.size + 1) (w.heap.size + 2) st v0 v1 v3 mb wr hA hI.ok (fun W hb => (HTB W hb).1) (by omega) (Nat.le_trans hI.words (by decide)) (Nat.le_trans hI.opens (by omega)))
      have RZ := Lib.hid (resolveF_zero st.labels st.opens st.words)
      generalize resolveF st.labels st.opens st.words = r at *
      have HAF := Lib.hid haf
      unfold ResPost at RS
      clear hA hI hB hR HTB hr haf AF HR RR
      go_wp2_with fail
      refine RS.out.mono ?_
      rintro e w2 ⟨u0, u1, u3, m2, rfl, ha, hb2, hz2⟩
      have HA2 := Lib.hid ha
      have HB2 := Lib.hid (HB.out.trans hb2)
      have QW := Lib.hid (QU.out.below HB2.out (Nat.lt_succ_self _))
      clear hb2 HA HB RS
      have k0 : w2.cell? ⟨w.heap.size, 0, none⟩ = some (.slice none 0 0) := QW.out.cell 0
      have k1 : w2.cell? ⟨w.heap.size, 1, none⟩ = some (.slice none 0 0) := QW.out.cell 1
      have f0 : w2.frozen? ⟨w.heap.size, 0, none⟩ = false := QW.out.free 0
      have f1 : w2.frozen? ⟨w.heap.size, 1, none⟩ = false := QW.out.free 1
      obtain ⟨r1', r2', r3⟩ := r
      by_cases hq : r1' = 0
      · have hz : r2' = 0 := RZ.out hq
        subst hq hz
        obtain ⟨A0, c0, rfl, _⟩ := Owns.form ha.words
        obtain ⟨A1, c1, rfl⟩ : ∃ A1 c1, u1 = .slice A1 st.labels.length c1 := by
          rcases ha.labels.2 with ⟨h1, h2⟩ | ⟨g, cap, cur, h1, _⟩
          · exact ⟨none, 0, by rw [h2]; exact h1⟩
          · exact ⟨_, _, h1⟩
        have p0 : w2.cell? ⟨w.heap.size + 1 + 1, 0, none⟩ = some (.slice A0 r3.length c0) := ha.blk.cell 0
        have p1 : w2.cell? ⟨w.heap.size + 1 + 1, 1, none⟩ = some (.slice A1 st.labels.length c1) := ha.blk.cell 1
        have hgs : w2.grownBy ((w2.setCell ⟨w.heap.size, 0, none⟩ (.slice A0 r3.length c0)).setCell ⟨w.heap.size, 1, none⟩ (.slice A1 st.labels.length c1)) (some w.heap.size) := ⟨rfl, rfl, rfl, by simp [World.setCell], fun j _ hj => (Below.heap_setCell _ ⟨w.heap.size, 1, none⟩ _ j (fun e => hj (by rw [e]))).trans (Below.heap_setCell w2 ⟨w.heap.size, 0, none⟩ _ j (fun e => hj (by rw [e])))⟩
        have OW := Lib.hid (World.ownsRow.kept ha.words hgs (.inr (ownsRow_ne ha.words QW.out (fun _ _ h => uni_u32 (by injection h)))))
        have OL := Lib.hid (World.ownsRow.kept ha.labels hgs (.inr (ownsRow_ne ha.labels QW.out (fun _ _ h => uni_lab (by injection h)))))
        clear ha hgs
        have QS := Lib.hid (show Whole ((w2.setCell ⟨w.heap.size, 0, none⟩ (.slice A0 r3.length c0)).setCell ⟨w.heap.size, 1, none⟩ (.slice A1 st.labels.length c1)) w.heap.size unitT #[.slice A0 r3.length c0, .slice A1 st.labels.length c1] from (QW.out.store 0 _).store 1 _)
        have BS := Lib.hid (show Below w.heap.size w ((w2.setCell ⟨w.heap.size, 0, none⟩ (.slice A0 r3.length c0)).setCell ⟨w.heap.size, 1, none⟩ (.slice A1 st.labels.length c1)) from ((BL.out.trans (HB2.out.mono (Nat.le_succ _))).setCell (p := ⟨w.heap.size, 0, none⟩) (Nat.le_refl _) _).setCell (p := ⟨w.heap.size, 1, none⟩) (Nat.le_refl _) _)
        have r0 : ((w2.setCell ⟨w.heap.size, 0, none⟩ (.slice A0 r3.length c0)).setCell ⟨w.heap.size, 1, none⟩ (.slice A1 st.labels.length c1)).cell? ⟨w.heap.size, 0, none⟩ = some (.slice A0 r3.length c0) := QS.out.cell 0
        have r1 : ((w2.setCell ⟨w.heap.size, 0, none⟩ (.slice A0 r3.length c0)).setCell ⟨w.heap.size, 1, none⟩ (.slice A1 st.labels.length c1)).cell? ⟨w.heap.size, 1, none⟩ = some (.slice A1 st.labels.length c1) := QS.out.cell 1
        go_wp2_with fail
        refine bodyPost_ret (v := .tuple #[.agg #[.slice A0 r3.length c0, .slice A1 st.labels.length c1], .int .i64 0, .int .i64 0]) ?_ rfl ⟨_, _, by (rw [HAF.out]; try rfl), BS.out, fun _ => by rw [HAF.out]; exact ⟨OW.out, OL.out⟩, fun h => absurd (by rw [HAF.out]) h⟩
        simp [results, Tryd.results9, go_sem, r0, r1]
      · have HNE := Lib.hid hq
        have hq2 : (r1' == 0) = false := by simpa using hq
        clear ha
        have QS := Lib.hid (show Whole ((w2.setCell ⟨w.heap.size, 0, none⟩ (.slice none 0 0)).setCell ⟨w.heap.size, 1, none⟩ (.slice none 0 0)) w.heap.size unitT #[.slice none 0 0, .slice none 0 0] from (QW.out.store 0 _).store 1 _)
        have BS := Lib.hid (show Below w.heap.size w ((w2.setCell ⟨w.heap.size, 0, none⟩ (.slice none 0 0)).setCell ⟨w.heap.size, 1, none⟩ (.slice none 0 0)) from ((BL.out.trans (HB2.out.mono (Nat.le_succ _))).setCell (p := ⟨w.heap.size, 0, none⟩) (Nat.le_refl _) _).setCell (p := ⟨w.heap.size, 1, none⟩) (Nat.le_refl _) _)
        have r0 : ((w2.setCell ⟨w.heap.size, 0, none⟩ (.slice none 0 0)).setCell ⟨w.heap.size, 1, none⟩ (.slice none 0 0)).cell? ⟨w.heap.size, 0, none⟩ = some (.slice none 0 0) := QS.out.cell 0
        have r1 : ((w2.setCell ⟨w.heap.size, 0, none⟩ (.slice none 0 0)).setCell ⟨w.heap.size, 1, none⟩ (.slice none 0 0)).cell? ⟨w.heap.size, 1, none⟩ = some (.slice none 0 0) := QS.out.cell 1
        go_wp2_with fail
        refine bodyPost_ret (v := .tuple #[.agg #[.slice none 0 0, .slice none 0 0], .int .i64 (r2'), .int .i64 (r1')]) ?_ rfl ⟨_, _, by (rw [HAF.out]; try rfl), BS.out, fun h => absurd (show _ = _ from by rw [HAF.out] at h; exact h) HNE.out, fun _ => ⟨rfl, rfl⟩⟩
        simp [results, Tryd.results9, go_sem, r0, r1]

end Go.Proofs.YtnmpamfgkidmiaaDoor

/- Asm: the text that awake assembles. -/
namespace Go.Proofs.YtnmpamfgkidmiaaDoor
open Go.ChangeShapes Go.WideShapes Go.ChangeAt Go.RowKit
set_option linter.unusedVariables false
set_option linter.unusedSimpArgs false

/-- loop:, BR loop. -/
def awakeT : ByteArray := ⟨#[108, 111, 111, 112, 58, 10, 66, 82, 32, 108, 111, 111, 112, 10]⟩

set_option maxRecDepth 100000 in
theorem awake_lines : linesA awakeT = [⟨#[108, 111, 111, 112, 58]⟩, ⟨#[66, 82, 32, 108, 111, 111, 112]⟩, ⟨#[]⟩] := by kernel_rfl

set_option maxRecDepth 100000 in
theorem awake_1 : (asmF awakeT).1 = 0 := by kernel_rfl

set_option maxRecDepth 100000 in
theorem awake_2 : (asmF awakeT).2.1 = 0 := by kernel_rfl

set_option maxRecDepth 100000 in
theorem awake_3 : (asmF awakeT).2.2.words = [385875967] := by kernel_rfl

set_option maxRecDepth 100000 in
theorem awake_4 : (asmF awakeT).2.2.labels = [(⟨#[108, 111, 111, 112]⟩, 0)] := by kernel_rfl

theorem awake_n : Lib.countByte awakeT.data.toList 10 = 2 := by kernel_rfl
end Go.Proofs.YtnmpamfgkidmiaaDoor
