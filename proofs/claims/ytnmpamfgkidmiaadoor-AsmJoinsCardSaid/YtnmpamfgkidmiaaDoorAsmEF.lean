/- AsmE AsmE0 AsmE1 AsmE2 AsmF in one. -/
import Derived.Test.YtnmpamfgkidmiaaDoorAsmAD
import Derived.Test.YtnmpamfgkidmiaaDoorInstrW
import Derived.Test.YtnmpamfgkidmiaaDoorInstrE

/- Asm: instruction. -/
namespace Go.Proofs.YtnmpamfgkidmiaaDoor
open Go.ChangeShapes Go.WideShapes Go.ChangeAt Go.RowKit
set_option linter.unusedVariables false
set_option linter.unusedSimpArgs false
set_option linter.unusedSectionVars false
variable [LinesAt]

/-- The fields, in a block of their own that holds no other thing of the assembler's. -/
def FieldsAt (w : World) (B : Nat) (A : Option Addr) (n : Nat) (ss : List ByteArray) : Prop :=
  ss.length = n ∧ (0 < n → ∃ f cs, A = some ⟨f, 0, none⟩ ∧ (B ≤ f ∧ f ≠ LinesAt.lf) ∧ Whole w f 9 cs ∧ ∀ j, j < n → cs[j]? = some (.string (ss.getD j ⟨#[]⟩)))

theorem FieldsAt.strs {w : World} {B : Nat} {A : Option Addr} {n : Nat} {ss : List ByteArray} (h : FieldsAt w B A n ss) : Strs w A n ss :=
  ⟨h.1, fun h0 => by
    obtain ⟨f, cs, rfl, _, hw, hc⟩ := h.2 h0
    exact ⟨f, 0, rfl, hw.lt, fun j hj => by rw [Nat.zero_add, hw.cell j]; exact hc j hj⟩⟩

def lastL (ss : List ByteArray) : ByteArray := ss.getD (ss.length - 1) ⟨#[]⟩

/-- Do the fields end in a name that a label may have? -/
def isNm (op : Int) (ss : List ByteArray) : Bool := decide (1 ≤ ss.length) && (takesB op && nameB (lastL ss))

/-- The fields, a number in the place of the name. -/
def subst0 (op : Int) (ss : List ByteArray) : List ByteArray := if isNm op ss = true then ss.set (ss.length - 1) ⟨#[48]⟩ else ss

/-- The word of an operation and its fields. -/
def wordF (op : Int) (ss : List ByteArray) : Int := encOf op (fa op ss) (fb op ss) (fc op ss) (fn op ss)

/-- What an instruction's line comes to. -/
def instS (op : Int) (ss : List ByteArray) (line : Nat) (st : AsmS) : Int × AsmS :=
  if fillOk op (subst0 op ss) = true then
    addS (wordF op (subst0 op ss)) (if isNm op ss = true then ⟨st.words, st.labels, st.opens ++ [⟨op, fa op (subst0 op ss), fb op (subst0 op ss), fc op (subst0 op ss), fn op (subst0 op ss), lastL ss, st.words.length, line⟩]⟩ else st)
  else (22, st)

theorem fill_check {op : Int} {ss : List ByteArray} (h : fillOk op ss = true) : checkOf op (fa op ss) (fb op ss) (fc op ss) (fn op ss) = 0 := by
  unfold fillOk at h
  simp only [Bool.and_eq_true, decide_eq_true_eq] at h
  exact h.2.2.2.2.2.2

theorem fill_i64 {op : Int} {ss : List ByteArray} (h : fillOk op ss = true) : I64 (fa op ss) ∧ I64 (fb op ss) ∧ I64 (fc op ss) ∧ I64 (fn op ss) := by
  obtain ⟨_, a0, a1, b0, b1, c0, c1, _, _, _, n0, n1⟩ := good_of_check (fill_check h)
  unfold lowOf at n0
  unfold highOf at n1
  unfold I64
  split at n0 <;> split at n1 <;> (try split at n0) <;> (try split at n1) <;> (try split at n1) <;> (refine ⟨?_, ?_, ?_, ?_⟩ <;> omega)

theorem fill05_ok {op : Int} {ss : List ByteArray} (h : fillOk op ss = true) (A : Option Addr) (n cp : Nat) (w : World) (hS : ShapesIn w) (hs : Strs w A n ss) (hz : ∀ z ∈ ss, z.size ≤ maxLen) (hn : n ≤ 20) :
    Calls Tryd.prog 73 #[.int .i64 op, .slice A n cp] w fun e w' => e = .returned (.tuple #[.agg #[.int .i64 op, .int .i64 (fa op ss), .int .i64 (fb op ss), .int .i64 (fc op ss), .int .i64 (fn op ss)], .bool true]) ∧ Below w.heap.size w w' := by
  refine (fill_any op A n cp ss w hS hs hz hn).mono ?_
  rintro e w' ⟨o, x, y, z, t, rfl, hf, hb⟩
  obtain ⟨rfl, rfl, rfl, rfl, rfl⟩ := hf h
  rw [h]
  exact ⟨rfl, hb⟩

theorem fill05_bad {op : Int} {ss : List ByteArray} (h : fillOk op ss = false) (A : Option Addr) (n cp : Nat) (w : World) (hS : ShapesIn w) (hs : Strs w A n ss) (hz : ∀ z ∈ ss, z.size ≤ maxLen) (hn : n ≤ 20) :
    Calls Tryd.prog 73 #[.int .i64 op, .slice A n cp] w fun e w' => ∃ o a b c n, e = .returned (.tuple #[.agg #[.int .i64 o, .int .i64 a, .int .i64 b, .int .i64 c, .int .i64 n], .bool false]) ∧ Below w.heap.size w w' := by
  refine (fill_any op A n cp ss w hS hs hz hn).mono ?_
  rintro e w' ⟨o, x, y, z, t, rfl, hf, hb⟩
  rw [h]
  exact ⟨_, _, _, _, _, rfl, hb⟩

theorem encode05_ok {op a b c n : Int} (h : checkOf op a b c n = 0) (ha : I64 a) (hb : I64 b) (hc : I64 c) (hn : I64 n) (w : World) (hS : ShapesIn w) :
    Calls Tryd.prog 46 #[.agg #[.int .i64 op, .int .i64 a, .int .i64 b, .int .i64 c, .int .i64 n]] w fun e w' => e = .returned (.tuple #[.int .u32 (encOf op a b c n), .int .i64 0]) ∧ Below w.heap.size w w' := by
  refine (encode_any op a b c n w hS ha hb hc hn).mono ?_
  rintro e w' ⟨rfl, hw⟩
  unfold encR
  rw [h]
  exact ⟨rfl, hw⟩

theorem isNm_zero (op : Int) {ss : List ByteArray} (h : ss.length = 0) : isNm op ss = false := by
  unfold isNm
  rw [decide_eq_false (by omega), Bool.false_and]

theorem isNm_takes {op : Int} (ss : List ByteArray) (h : takesB op = false) : isNm op ss = false := by
  unfold isNm
  rw [h, Bool.false_and, Bool.and_false]

theorem isNm_name (op : Int) {ss : List ByteArray} (h : nameB (lastL ss) = false) : isNm op ss = false := by
  unfold isNm
  rw [h, Bool.and_false, Bool.and_false]

theorem isNm_yes {op : Int} {ss : List ByteArray} (h1 : 1 ≤ ss.length) (h2 : takesB op = true) (h3 : nameB (lastL ss) = true) : isNm op ss = true := by
  unfold isNm
  rw [decide_eq_true h1, h2, h3]
  rfl

theorem instS_no {op : Int} {ss : List ByteArray} {line : Nat} {st : AsmS} (h : isNm op ss = false) : instS op ss line st = if fillOk op ss = true then addS (wordF op ss) st else (22, st) := by
  have hs : subst0 op ss = ss := if_neg (by rw [h]; decide)
  unfold instS
  rw [hs, h]
  rfl

theorem instS_yes {op : Int} {ss : List ByteArray} {line : Nat} {st : AsmS} (h : isNm op ss = true) : instS op ss line st = if fillOk op (ss.set (ss.length - 1) ⟨#[48]⟩) = true then addS (wordF op (ss.set (ss.length - 1) ⟨#[48]⟩)) ⟨st.words, st.labels, st.opens ++ [⟨op, fa op (ss.set (ss.length - 1) ⟨#[48]⟩), fb op (ss.set (ss.length - 1) ⟨#[48]⟩), fc op (ss.set (ss.length - 1) ⟨#[48]⟩), fn op (ss.set (ss.length - 1) ⟨#[48]⟩), lastL ss, st.words.length, line⟩]⟩ else (22, st) := by
  have hs : subst0 op ss = ss.set (ss.length - 1) ⟨#[48]⟩ := if_pos h
  unfold instS
  rw [hs, if_pos h]

theorem AsmAt.far_str {w : World} {B p : Nat} {st : AsmS} {v0 v1 v3 : Value} {mb f : Nat} {cs : Array Value} (h : AsmAt w B p st v0 v1 v3 mb) (hf : Whole w f 9 cs) (hfl : f ≠ LinesAt.lf) (i : Nat) (u : Value) : AsmAt (w.setCell ⟨f, i, none⟩ u) B p st v0 v1 v3 mb := by
  have hg : w.grownBy (w.setCell ⟨f, i, none⟩ u) (some f) := ⟨rfl, rfl, rfl, by simp [World.setCell], fun j _ hj => Below.heap_setCell w ⟨f, i, none⟩ u j (fun e => hj (by rw [e]))⟩
  obtain ⟨es, clock, hmb⟩ := h.mblk
  have hpf : p ≠ f := by
    intro e
    have h1 := h.blk
    unfold Whole at h1 hf
    rw [e, hf] at h1
    exact str_asm (by injection h1 with h1; injection h1)
  have hmf : mb ≠ f := by
    intro e
    unfold Whole at hf
    rw [e, hf] at hmb
    cases hmb
  exact ⟨h.le, (hg.block p h.blk.lt (fun e => hpf (by injection e))).trans h.blk, World.ownsRow.kept h.words hg (.inr (ownsRow_ne h.words hf (fun _ _ h => str_u32 (by injection h)))), World.ownsRow.kept h.labels hg (.inr (ownsRow_ne h.labels hf (fun _ _ h => str_lab (by injection h)))), h.leM, h.map.kept hg (fun e => hmf (by injection e)), World.ownsRow.kept h.opens hg (.inr (ownsRow_ne h.opens hf (fun _ _ h => str_nam (by injection h)))), lines_grown h.lines hg (fun e => hfl (by injection e))⟩

theorem fields_set {w : World} {B f m : Nat} {cs : Array Value} {ss : List ByteArray} (hl : ss.length = m + 1) (hB : B ≤ f ∧ f ≠ LinesAt.lf) (hf : Whole w f 9 cs) (hc : ∀ j, j < m + 1 → cs[j]? = some (.string (ss.getD j ⟨#[]⟩))) : FieldsAt (w.setCell ⟨f, m, none⟩ (.string ⟨#[48]⟩)) B (some ⟨f, 0, none⟩) (m + 1) (ss.set m ⟨#[48]⟩) := by
  refine ⟨by rw [List.length_set]; exact hl, fun _ => ⟨f, cs.setIfInBounds m (.string ⟨#[48]⟩), rfl, hB, hf.store m _, fun j hj => ?_⟩⟩
  have hlt : m < cs.size := by
    have := hc m (by omega)
    exact (Array.getElem?_eq_some_iff.1 this).1
  rw [Array.getElem?_setIfInBounds]
  by_cases e : m = j
  · subst e
    rw [if_pos rfl, if_pos hlt]
    simp [List.getD_eq_getElem?_getD, hl]
  · rw [if_neg e, hc j hj]
    simp [List.getD_eq_getElem?_getD, List.getElem?_set, e]

theorem name_nonempty {s : ByteArray} (h : nameB s = true) : s.toList.isEmpty = false := by
  rw [Lib.toList_data]
  cases hl : s.data.toList with
  | cons a l => rfl
  | nil =>
    have h0 : s.size = 0 := by
      have h' := congrArg List.length hl
      rw [Array.length_toList] at h'
      exact h'
    unfold nameB at h
    rw [h0] at h
    simp at h

theorem nam_info : (Tryd.prog.info? 95).map (fun i => (i.zero, i.size, i.bytes)) = some (some (.agg #[.int .i64 0, .int .i64 0, .int .i64 0, .int .i64 0, .int .i64 0, .string ⟨#[]⟩, .int .i64 0, .int .i64 0]), 8, 72) := by kernel_rfl

/-- When the row of open instructions has grown by one, and its slice is stored. -/
theorem asm_grown {w w6 : World} {B p : Nat} {st : AsmS} {v0 v1 v3 : Value} {mb : Nat} {A6 : Option Addr} {c6 : Nat} {cs : List Value} (h : AsmAt w B p st v0 v1 v3 mb) (hg : w.grownBy w6 v3.ownBlock) (ho : w6.ownsRow B 95 8 (.slice A6 (st.opens.length + 1) c6) (st.opens.length + 1) (st.opens.flatMap Opn.cells ++ cs)) :
    Whole w6 p asmT #[v0, v1, .map (some mb), v3] ∧ ∀ op a b c n label at_ line, cs = Opn.cells ⟨op, a, b, c, n, label, at_, line⟩ → AsmAt (w6.setCell ⟨p, 3, none⟩ (.slice A6 (st.opens.length + 1) c6)) B p ⟨st.words, st.labels, st.opens ++ [⟨op, a, b, c, n, label, at_, line⟩]⟩ v0 v1 (.slice A6 (st.opens.length + 1) c6) mb := by
  obtain ⟨es, clock, hmb⟩ := h.mblk
  have NP := ownsRow_ne h.opens h.blk (fun _ _ h => asm_nam (by injection h))
  have NM := ownsRow_ne h.opens hmb (fun _ _ h => by cases h)
  have K6 : Whole w6 p asmT #[v0, v1, .map (some mb), v3] := (hg.block p h.blk.lt (fun e => NP e.symm)).trans h.blk
  refine ⟨K6, fun op a b c n label at_ line hcs => ?_⟩
  have hgs : w6.grownBy (w6.setCell ⟨p, 3, none⟩ (.slice A6 (st.opens.length + 1) c6)) (some p) := ⟨rfl, rfl, rfl, by simp [World.setCell], fun j _ hj => Below.heap_setCell w6 ⟨p, 3, none⟩ _ j (fun e => hj (by rw [e]))⟩
  have O6 := World.ownsRow.kept h.words hg (ownsRow_apart h.words h.opens u32_nam)
  have L6 := World.ownsRow.kept h.labels hg (ownsRow_apart h.labels h.opens lab_nam)
  have M6 := h.map.kept hg (fun e => NM e.symm)
  refine ⟨h.le, K6.store 3 _, World.ownsRow.kept O6 hgs (.inr (ownsRow_ne O6 K6 (fun _ _ h => asm_u32 (by injection h)))), World.ownsRow.kept L6 hgs (.inr (ownsRow_ne L6 K6 (fun _ _ h => asm_lab (by injection h)))), h.leM, M6.kept hgs (fun e => h.apart (by injection e with e; exact e.symm)), ?_, lines_grown (lines_grown h.lines hg (ownsRow_ne h.opens h.lines (fun _ _ h => str_nam (by injection h)))) hgs (fun e => whole_apart K6 (lines_grown h.lines hg (ownsRow_ne h.opens h.lines (fun _ _ h => str_nam (by injection h)))) str_lbl (by injection e))⟩
  rw [List.length_append, List.flatMap_append]
  have : w6.ownsRow B 95 8 (.slice A6 (st.opens.length + 1) c6) (st.opens.length + 1) (st.opens.flatMap Opn.cells ++ [(⟨op, a, b, c, n, label, at_, line⟩ : Opn)].flatMap Opn.cells) := by
    rw [List.flatMap_singleton, ← hcs]
    exact ho
  exact World.ownsRow.kept this hgs (.inr (ownsRow_ne this K6 (fun _ _ h => asm_nam (by injection h))))

end Go.Proofs.YtnmpamfgkidmiaaDoor

/- Asm: instruction, no field. -/
namespace Go.Proofs.YtnmpamfgkidmiaaDoor
open Go.ChangeShapes Go.WideShapes Go.ChangeAt Go.RowKit
set_option linter.unusedVariables false
set_option linter.unusedSimpArgs false
set_option linter.unusedSectionVars false
variable [LinesAt]

set_option maxHeartbeats 8000000 in
set_option maxRecDepth 100000 in
theorem inst_P0 (op : Int) (A : Option Addr) (n cp : Nat) (ss : List ByteArray) (line : Nat) (B p : Nat) (st : AsmS) (v0 v1 v3 : Value) (mb : Nat) (w : World) (h : AsmAt w B p st v0 v1 v3 mb) (hF : FieldsAt w B A n ss) (hS : ∀ W, Below B w W → ShapesIn W) (hBw : B ≤ w.heap.size) (hws : st.words.length ≤ 1000000) (hz : ∀ z ∈ ss, z.size ≤ 1000000) (hn : n ≤ 20) (h0 : n = 0) :
    Calls Tryd.prog 44 #[.pointer (some ⟨p, 0, none⟩), .int .i64 op, .slice A n cp, .int .i64 line] w (AsmPost w B p (instS op ss line st).2 (instS op ss line st).1) := by
  have H := Lib.hid h
  have HS := Lib.hid hS
  have HF := Lib.hid hF
  have hssl := hF.1
  have TK := Lib.hid (fun w => takesN_any op w)
  subst h0
  have hnm := isNm_zero op (ss := ss) (by omega)
  rw [instS_no hnm]
  cases hok : fillOk op ss with
  | false =>
    rw [if_neg (by decide)]
    have FB := Lib.hid (fill05_bad hok A 0 cp w (HS.out w (Below.refl _ _)) HF.out.strs (fun z hz' => by have := hz z hz'; unfold maxLen; omega) hn)
    unfold AsmPost
    clear h hF hS hnm hz hok
    have d0 : decide ((0 : Int) ≤ -1) = false := rfl
    go_enter Tryd.func44, Tryd.ntmps44
    go_wp2_with fail
    refine FB.out.mono ?_
    rintro e w2 ⟨o, a, b, c, t, rfl, hb2⟩
    have H2 := Lib.hid (H.out.below (hb2.alloc hb2.size (.cells #[.int .i64 o, .int .i64 a, .int .i64 b, .int .i64 c, .int .i64 t] 93)))
    have B2 := Lib.hid ((hb2.alloc hb2.size (.cells #[.int .i64 o, .int .i64 a, .int .i64 b, .int .i64 c, .int .i64 t] 93)).mono hBw)
    have Z2 := hb2.size
    clear hb2
    go_wp2_with fail
    go_ret
    exact ⟨v0, v1, v3, mb, rfl, H2.out, B2.out, by simp; omega⟩
  | true =>
    rw [if_pos rfl]
    have FK := Lib.hid (fill05_ok hok A 0 cp w (HS.out w (Below.refl _ _)) HF.out.strs (fun z hz' => by have := hz z hz'; unfold maxLen; omega) hn)
    obtain ⟨ja, jb, jc, jn⟩ := fill_i64 hok
    have EN := Lib.hid (fun w hs => encode05_ok (fill_check hok) ja jb jc jn w hs)
    have AD := Lib.hid (fun w' (h' : AsmAt w' B p st v0 v1 v3 mb) hB => add_any (wordF op ss) B p st v0 v1 v3 mb w' h' hB hws)
    have WF := Lib.hid (show encOf op (fa op ss) (fb op ss) (fc op ss) (fn op ss) = wordF op ss from rfl)
    rw [WF.out] at EN
    unfold AsmPost at *
    clear h hF hS hnm hz hok ja jb jc jn WF
    generalize addS (wordF op ss) st = r at *
    generalize wordF op ss = wd at *
    generalize fa op ss = ia at *
    generalize fb op ss = ib at *
    generalize fc op ss = ic at *
    generalize fn op ss = imm at *
    have d0 : decide ((0 : Int) ≤ -1) = false := rfl
    go_enter Tryd.func44, Tryd.ntmps44
    go_wp2_with fail
    refine FK.out.mono ?_
    rintro e w2 ⟨rfl, hb2⟩
    have BI := hb2.alloc hb2.size (.cells #[.int .i64 op, .int .i64 ia, .int .i64 ib, .int .i64 ic, .int .i64 imm] 93)
    have H2 := Lib.hid (H.out.below BI)
    have B2 := Lib.hid (BI.mono hBw)
    have S2 := Lib.hid (HS.out _ B2.out)
    have Z2 : w.heap.size ≤ (w2.alloc (.cells #[.int .i64 op, .int .i64 ia, .int .i64 ib, .int .i64 ic, .int .i64 imm] 93)).heap.size := BI.size
    have Q2 := Lib.hid (Whole.made w2 93 #[.int .i64 op, .int .i64 ia, .int .i64 ib, .int .i64 ic, .int .i64 imm] _ rfl)
    have hd : ∀ j, (w2.alloc (.cells #[.int .i64 op, .int .i64 ia, .int .i64 ib, .int .i64 ic, .int .i64 imm] 93)).cell? ⟨w2.heap.size, j, none⟩ = #[.int .i64 op, .int .i64 ia, .int .i64 ib, .int .i64 ic, .int .i64 imm][j]? := fun j => Q2.out.cell j
    have q0 : (w2.alloc (.cells #[.int .i64 op, .int .i64 ia, .int .i64 ib, .int .i64 ic, .int .i64 imm] 93)).cell? ⟨w2.heap.size, 0, none⟩ = some (.int .i64 op) := hd 0
    have q1 : (w2.alloc (.cells #[.int .i64 op, .int .i64 ia, .int .i64 ib, .int .i64 ic, .int .i64 imm] 93)).cell? ⟨w2.heap.size, 1, none⟩ = some (.int .i64 ia) := hd 1
    have q2 : (w2.alloc (.cells #[.int .i64 op, .int .i64 ia, .int .i64 ib, .int .i64 ic, .int .i64 imm] 93)).cell? ⟨w2.heap.size, 2, none⟩ = some (.int .i64 ib) := hd 2
    have q3 : (w2.alloc (.cells #[.int .i64 op, .int .i64 ia, .int .i64 ib, .int .i64 ic, .int .i64 imm] 93)).cell? ⟨w2.heap.size, 3, none⟩ = some (.int .i64 ic) := hd 3
    have q4 : (w2.alloc (.cells #[.int .i64 op, .int .i64 ia, .int .i64 ib, .int .i64 ic, .int .i64 imm] 93)).cell? ⟨w2.heap.size, 4, none⟩ = some (.int .i64 imm) := hd 4
    clear hb2 hd BI
    go_wp2_with fail
    refine (EN.out _ S2.out).mono ?_
    rintro e w3 ⟨rfl, hb3⟩
    have H3 := Lib.hid (H2.out.below hb3)
    have B3 := Lib.hid (B2.out.trans (hb3.mono (Nat.le_trans hBw Z2)))
    have Z3 : w.heap.size ≤ w3.heap.size := Nat.le_trans Z2 hb3.size
    clear hb3 H2 B2 q0 q1 q2 q3 q4 Q2
    go_wp2_with fail
    refine (AD.out _ H3.out (Nat.le_trans hBw Z3)).mono ?_
    rintro e w4 ⟨u0, u1, u3, m4, rfl, ha, hb4, hz4⟩
    have HA := Lib.hid ha
    have B4 := Lib.hid (B3.out.trans hb4)
    clear ha hb4
    go_wp2_with fail
    go_ret
    exact ⟨u0, u1, u3, m4, rfl, HA.out, B4.out, Nat.le_trans Z3 hz4⟩

end Go.Proofs.YtnmpamfgkidmiaaDoor

/- Asm: instruction, none that takes a label. -/
namespace Go.Proofs.YtnmpamfgkidmiaaDoor
open Go.ChangeShapes Go.WideShapes Go.ChangeAt Go.RowKit
set_option linter.unusedVariables false
set_option linter.unusedSimpArgs false
set_option linter.unusedSectionVars false
variable [LinesAt]

set_option maxHeartbeats 8000000 in
set_option maxRecDepth 100000 in
theorem inst_P1 (op : Int) (A : Option Addr) (n cp : Nat) (ss : List ByteArray) (line : Nat) (B p : Nat) (st : AsmS) (v0 v1 v3 : Value) (mb : Nat) (w : World) (h : AsmAt w B p st v0 v1 v3 mb) (hF : FieldsAt w B A n ss) (hS : ∀ W, Below B w W → ShapesIn W) (hBw : B ≤ w.heap.size) (hws : st.words.length ≤ 1000000) (hz : ∀ z ∈ ss, z.size ≤ 1000000) (hn : n ≤ 20) (h0 : 1 ≤ n) (ht : takesB op = false) :
    Calls Tryd.prog 44 #[.pointer (some ⟨p, 0, none⟩), .int .i64 op, .slice A n cp, .int .i64 line] w (AsmPost w B p (instS op ss line st).2 (instS op ss line st).1) := by
  have H := Lib.hid h
  have HS := Lib.hid hS
  have HF := Lib.hid hF
  have hssl := hF.1
  have TK := Lib.hid (fun w => takesN_any op w)
  have hnm := isNm_takes ss ht
  rw [instS_no hnm]
  rw [ht] at TK
  cases hok : fillOk op ss with
  | false =>
    rw [if_neg (by decide)]
    have FB := Lib.hid (fill05_bad hok A n cp w (HS.out w (Below.refl _ _)) HF.out.strs (fun z hz' => by have := hz z hz'; unfold maxLen; omega) hn)
    unfold AsmPost
    clear h hF hS hnm hz hok
    have d0 : decide ((0 : Int) ≤ n - 1) = true := decide_eq_true (by omega)
    go_enter Tryd.func44, Tryd.ntmps44
    go_wp2_with fail
    refine (TK.out _).mono ?_
    rintro e w1 ⟨rfl, rfl⟩
    go_wp2_with fail
    refine FB.out.mono ?_
    rintro e w2 ⟨o, a, b, c, t, rfl, hb2⟩
    have H2 := Lib.hid (H.out.below (hb2.alloc hb2.size (.cells #[.int .i64 o, .int .i64 a, .int .i64 b, .int .i64 c, .int .i64 t] 93)))
    have B2 := Lib.hid ((hb2.alloc hb2.size (.cells #[.int .i64 o, .int .i64 a, .int .i64 b, .int .i64 c, .int .i64 t] 93)).mono hBw)
    have Z2 := hb2.size
    clear hb2
    go_wp2_with fail
    go_ret
    exact ⟨v0, v1, v3, mb, rfl, H2.out, B2.out, by simp; omega⟩
  | true =>
    rw [if_pos rfl]
    have FK := Lib.hid (fill05_ok hok A n cp w (HS.out w (Below.refl _ _)) HF.out.strs (fun z hz' => by have := hz z hz'; unfold maxLen; omega) hn)
    obtain ⟨ja, jb, jc, jn⟩ := fill_i64 hok
    have EN := Lib.hid (fun w hs => encode05_ok (fill_check hok) ja jb jc jn w hs)
    have AD := Lib.hid (fun w' (h' : AsmAt w' B p st v0 v1 v3 mb) hB => add_any (wordF op ss) B p st v0 v1 v3 mb w' h' hB hws)
    have WF := Lib.hid (show encOf op (fa op ss) (fb op ss) (fc op ss) (fn op ss) = wordF op ss from rfl)
    rw [WF.out] at EN
    unfold AsmPost at *
    clear h hF hS hnm hz hok ja jb jc jn WF
    generalize addS (wordF op ss) st = r at *
    generalize wordF op ss = wd at *
    generalize fa op ss = ia at *
    generalize fb op ss = ib at *
    generalize fc op ss = ic at *
    generalize fn op ss = imm at *
    have d0 : decide ((0 : Int) ≤ n - 1) = true := decide_eq_true (by omega)
    go_enter Tryd.func44, Tryd.ntmps44
    go_wp2_with fail
    refine (TK.out _).mono ?_
    rintro e w1 ⟨rfl, rfl⟩
    go_wp2_with fail
    refine FK.out.mono ?_
    rintro e w2 ⟨rfl, hb2⟩
    have BI := hb2.alloc hb2.size (.cells #[.int .i64 op, .int .i64 ia, .int .i64 ib, .int .i64 ic, .int .i64 imm] 93)
    have H2 := Lib.hid (H.out.below BI)
    have B2 := Lib.hid (BI.mono hBw)
    have S2 := Lib.hid (HS.out _ B2.out)
    have Z2 : w.heap.size ≤ (w2.alloc (.cells #[.int .i64 op, .int .i64 ia, .int .i64 ib, .int .i64 ic, .int .i64 imm] 93)).heap.size := BI.size
    have Q2 := Lib.hid (Whole.made w2 93 #[.int .i64 op, .int .i64 ia, .int .i64 ib, .int .i64 ic, .int .i64 imm] _ rfl)
    have hd : ∀ j, (w2.alloc (.cells #[.int .i64 op, .int .i64 ia, .int .i64 ib, .int .i64 ic, .int .i64 imm] 93)).cell? ⟨w2.heap.size, j, none⟩ = #[.int .i64 op, .int .i64 ia, .int .i64 ib, .int .i64 ic, .int .i64 imm][j]? := fun j => Q2.out.cell j
    have q0 : (w2.alloc (.cells #[.int .i64 op, .int .i64 ia, .int .i64 ib, .int .i64 ic, .int .i64 imm] 93)).cell? ⟨w2.heap.size, 0, none⟩ = some (.int .i64 op) := hd 0
    have q1 : (w2.alloc (.cells #[.int .i64 op, .int .i64 ia, .int .i64 ib, .int .i64 ic, .int .i64 imm] 93)).cell? ⟨w2.heap.size, 1, none⟩ = some (.int .i64 ia) := hd 1
    have q2 : (w2.alloc (.cells #[.int .i64 op, .int .i64 ia, .int .i64 ib, .int .i64 ic, .int .i64 imm] 93)).cell? ⟨w2.heap.size, 2, none⟩ = some (.int .i64 ib) := hd 2
    have q3 : (w2.alloc (.cells #[.int .i64 op, .int .i64 ia, .int .i64 ib, .int .i64 ic, .int .i64 imm] 93)).cell? ⟨w2.heap.size, 3, none⟩ = some (.int .i64 ic) := hd 3
    have q4 : (w2.alloc (.cells #[.int .i64 op, .int .i64 ia, .int .i64 ib, .int .i64 ic, .int .i64 imm] 93)).cell? ⟨w2.heap.size, 4, none⟩ = some (.int .i64 imm) := hd 4
    clear hb2 hd BI
    go_wp2_with fail
    refine (EN.out _ S2.out).mono ?_
    rintro e w3 ⟨rfl, hb3⟩
    have H3 := Lib.hid (H2.out.below hb3)
    have B3 := Lib.hid (B2.out.trans (hb3.mono (Nat.le_trans hBw Z2)))
    have Z3 : w.heap.size ≤ w3.heap.size := Nat.le_trans Z2 hb3.size
    clear hb3 H2 B2 q0 q1 q2 q3 q4 Q2
    go_wp2_with fail
    refine (AD.out _ H3.out (Nat.le_trans hBw Z3)).mono ?_
    rintro e w4 ⟨u0, u1, u3, m4, rfl, ha, hb4, hz4⟩
    have HA := Lib.hid ha
    have B4 := Lib.hid (B3.out.trans hb4)
    clear ha hb4
    go_wp2_with fail
    go_ret
    exact ⟨u0, u1, u3, m4, rfl, HA.out, B4.out, Nat.le_trans Z3 hz4⟩

end Go.Proofs.YtnmpamfgkidmiaaDoor

/- Asm: instruction, no name. -/
namespace Go.Proofs.YtnmpamfgkidmiaaDoor
open Go.ChangeShapes Go.WideShapes Go.ChangeAt Go.RowKit
set_option linter.unusedVariables false
set_option linter.unusedSimpArgs false
set_option linter.unusedSectionVars false
variable [LinesAt]

set_option maxHeartbeats 8000000 in
set_option maxRecDepth 100000 in
theorem inst_P2 (op : Int) (A : Option Addr) (n cp : Nat) (ss : List ByteArray) (line : Nat) (B p : Nat) (st : AsmS) (v0 v1 v3 : Value) (mb : Nat) (w : World) (h : AsmAt w B p st v0 v1 v3 mb) (hF : FieldsAt w B A n ss) (hS : ∀ W, Below B w W → ShapesIn W) (hBw : B ≤ w.heap.size) (hws : st.words.length ≤ 1000000) (hz : ∀ z ∈ ss, z.size ≤ 1000000) (hn : n ≤ 20) (h0 : 1 ≤ n) (ht : takesB op = true) (hl : nameB (lastL ss) = false) :
    Calls Tryd.prog 44 #[.pointer (some ⟨p, 0, none⟩), .int .i64 op, .slice A n cp, .int .i64 line] w (AsmPost w B p (instS op ss line st).2 (instS op ss line st).1) := by
  have H := Lib.hid h
  have HS := Lib.hid hS
  have HF := Lib.hid hF
  have hssl := hF.1
  have TK := Lib.hid (fun w => takesN_any op w)
  have hnm := isNm_name op hl
  rw [instS_no hnm]
  rw [ht] at TK
  obtain ⟨f, cs, rfl, _, hwf, hcf⟩ := hF.2 (by omega)
  obtain ⟨m, rfl⟩ : ∃ m, n = m + 1 := ⟨n - 1, by omega⟩
  have ul : w.cell? ⟨f, m, none⟩ = some (.string (lastL ss)) := by
    rw [hwf.cell m, hcf m (by omega)]
    unfold lastL
    rw [hssl]
    rfl
  have hls : (lastL ss).size ≤ 1000000 := by
    unfold lastL
    rw [List.getD_eq_getElem?_getD, List.getElem?_eq_getElem (by omega)]
    exact hz _ (List.getElem_mem _)
  have NM := Lib.hid (fun w => name05_any (lastL ss) w hls)
  rw [hl] at NM
  clear hwf hcf hls hl
  generalize lastL ss = ll at *
  cases hok : fillOk op ss with
  | false =>
    rw [if_neg (by decide)]
    have FB := Lib.hid (fill05_bad hok (some ⟨f, 0, none⟩) (m + 1) cp w (HS.out w (Below.refl _ _)) HF.out.strs (fun z hz' => by have := hz z hz'; unfold maxLen; omega) hn)
    unfold AsmPost
    clear h hF hS hnm hz hok
    have d0 : decide ((0 : Int) ≤ ((m + 1 : Nat) : Int) - 1) = true := decide_eq_true (by omega)
    have d0' : (0 : Int) ≤ m := by omega
    go_enter Tryd.func44, Tryd.ntmps44
    go_wp2_with fail
    refine (TK.out _).mono ?_
    rintro e w1 ⟨rfl, rfl⟩
    go_wp2_with fail
    refine (NM.out _).mono ?_
    rintro e w1 ⟨rfl, rfl⟩
    go_wp2_with fail
    refine FB.out.mono ?_
    rintro e w2 ⟨o, a, b, c, t, rfl, hb2⟩
    have H2 := Lib.hid (H.out.below (hb2.alloc hb2.size (.cells #[.int .i64 o, .int .i64 a, .int .i64 b, .int .i64 c, .int .i64 t] 93)))
    have B2 := Lib.hid ((hb2.alloc hb2.size (.cells #[.int .i64 o, .int .i64 a, .int .i64 b, .int .i64 c, .int .i64 t] 93)).mono hBw)
    have Z2 := hb2.size
    clear hb2
    go_wp2_with fail
    go_ret
    exact ⟨v0, v1, v3, mb, rfl, H2.out, B2.out, by simp; omega⟩
  | true =>
    rw [if_pos rfl]
    have FK := Lib.hid (fill05_ok hok (some ⟨f, 0, none⟩) (m + 1) cp w (HS.out w (Below.refl _ _)) HF.out.strs (fun z hz' => by have := hz z hz'; unfold maxLen; omega) hn)
    obtain ⟨ja, jb, jc, jn⟩ := fill_i64 hok
    have EN := Lib.hid (fun w hs => encode05_ok (fill_check hok) ja jb jc jn w hs)
    have AD := Lib.hid (fun w' (h' : AsmAt w' B p st v0 v1 v3 mb) hB => add_any (wordF op ss) B p st v0 v1 v3 mb w' h' hB hws)
    have WF := Lib.hid (show encOf op (fa op ss) (fb op ss) (fc op ss) (fn op ss) = wordF op ss from rfl)
    rw [WF.out] at EN
    unfold AsmPost at *
    clear h hF hS hnm hz hok ja jb jc jn WF
    generalize addS (wordF op ss) st = r at *
    generalize wordF op ss = wd at *
    generalize fa op ss = ia at *
    generalize fb op ss = ib at *
    generalize fc op ss = ic at *
    generalize fn op ss = imm at *
    have d0 : decide ((0 : Int) ≤ ((m + 1 : Nat) : Int) - 1) = true := decide_eq_true (by omega)
    have d0' : (0 : Int) ≤ m := by omega
    go_enter Tryd.func44, Tryd.ntmps44
    go_wp2_with fail
    refine (TK.out _).mono ?_
    rintro e w1 ⟨rfl, rfl⟩
    go_wp2_with fail
    refine (NM.out _).mono ?_
    rintro e w1 ⟨rfl, rfl⟩
    go_wp2_with fail
    refine FK.out.mono ?_
    rintro e w2 ⟨rfl, hb2⟩
    have BI := hb2.alloc hb2.size (.cells #[.int .i64 op, .int .i64 ia, .int .i64 ib, .int .i64 ic, .int .i64 imm] 93)
    have H2 := Lib.hid (H.out.below BI)
    have B2 := Lib.hid (BI.mono hBw)
    have S2 := Lib.hid (HS.out _ B2.out)
    have Z2 : w.heap.size ≤ (w2.alloc (.cells #[.int .i64 op, .int .i64 ia, .int .i64 ib, .int .i64 ic, .int .i64 imm] 93)).heap.size := BI.size
    have Q2 := Lib.hid (Whole.made w2 93 #[.int .i64 op, .int .i64 ia, .int .i64 ib, .int .i64 ic, .int .i64 imm] _ rfl)
    have hd : ∀ j, (w2.alloc (.cells #[.int .i64 op, .int .i64 ia, .int .i64 ib, .int .i64 ic, .int .i64 imm] 93)).cell? ⟨w2.heap.size, j, none⟩ = #[.int .i64 op, .int .i64 ia, .int .i64 ib, .int .i64 ic, .int .i64 imm][j]? := fun j => Q2.out.cell j
    have q0 : (w2.alloc (.cells #[.int .i64 op, .int .i64 ia, .int .i64 ib, .int .i64 ic, .int .i64 imm] 93)).cell? ⟨w2.heap.size, 0, none⟩ = some (.int .i64 op) := hd 0
    have q1 : (w2.alloc (.cells #[.int .i64 op, .int .i64 ia, .int .i64 ib, .int .i64 ic, .int .i64 imm] 93)).cell? ⟨w2.heap.size, 1, none⟩ = some (.int .i64 ia) := hd 1
    have q2 : (w2.alloc (.cells #[.int .i64 op, .int .i64 ia, .int .i64 ib, .int .i64 ic, .int .i64 imm] 93)).cell? ⟨w2.heap.size, 2, none⟩ = some (.int .i64 ib) := hd 2
    have q3 : (w2.alloc (.cells #[.int .i64 op, .int .i64 ia, .int .i64 ib, .int .i64 ic, .int .i64 imm] 93)).cell? ⟨w2.heap.size, 3, none⟩ = some (.int .i64 ic) := hd 3
    have q4 : (w2.alloc (.cells #[.int .i64 op, .int .i64 ia, .int .i64 ib, .int .i64 ic, .int .i64 imm] 93)).cell? ⟨w2.heap.size, 4, none⟩ = some (.int .i64 imm) := hd 4
    clear hb2 hd BI
    go_wp2_with fail
    refine (EN.out _ S2.out).mono ?_
    rintro e w3 ⟨rfl, hb3⟩
    have H3 := Lib.hid (H2.out.below hb3)
    have B3 := Lib.hid (B2.out.trans (hb3.mono (Nat.le_trans hBw Z2)))
    have Z3 : w.heap.size ≤ w3.heap.size := Nat.le_trans Z2 hb3.size
    clear hb3 H2 B2 q0 q1 q2 q3 q4 Q2
    go_wp2_with fail
    refine (AD.out _ H3.out (Nat.le_trans hBw Z3)).mono ?_
    rintro e w4 ⟨u0, u1, u3, m4, rfl, ha, hb4, hz4⟩
    have HA := Lib.hid ha
    have B4 := Lib.hid (B3.out.trans hb4)
    clear ha hb4
    go_wp2_with fail
    go_ret
    exact ⟨u0, u1, u3, m4, rfl, HA.out, B4.out, Nat.le_trans Z3 hz4⟩

end Go.Proofs.YtnmpamfgkidmiaaDoor

/- Asm: instruction, with a label. -/
namespace Go.Proofs.YtnmpamfgkidmiaaDoor
open Go.ChangeShapes Go.WideShapes Go.ChangeAt Go.RowKit
set_option linter.unusedVariables false
set_option linter.unusedSimpArgs false
set_option linter.unusedSectionVars false
variable [LinesAt]

set_option maxHeartbeats 8000000 in
set_option maxRecDepth 100000 in
theorem inst_P3 (op : Int) (A : Option Addr) (n cp : Nat) (ss : List ByteArray) (line : Nat) (B p : Nat) (st : AsmS) (v0 v1 v3 : Value) (mb : Nat) (w : World) (h : AsmAt w B p st v0 v1 v3 mb) (hF : FieldsAt w B A n ss) (hS : ∀ W, Below B w W → ShapesIn W) (hBw : B ≤ w.heap.size) (hws : st.words.length ≤ 1000000) (hz : ∀ z ∈ ss, z.size ≤ 1000000) (hn : n ≤ 20) (h0 : 1 ≤ n) (ht : takesB op = true) (hl : nameB (lastL ss) = true) (hos : st.opens.length ≤ 1000000) :
    Calls Tryd.prog 44 #[.pointer (some ⟨p, 0, none⟩), .int .i64 op, .slice A n cp, .int .i64 line] w (AsmPost w B p (instS op ss line st).2 (instS op ss line st).1) := by
  have H := Lib.hid h
  have HS := Lib.hid hS
  have HF := Lib.hid hF
  have hssl := hF.1
  have TK := Lib.hid (fun w => takesN_any op w)
  have hnm := isNm_yes (ss := ss) (by omega) ht hl
  rw [instS_yes hnm]
  rw [ht] at TK
  obtain ⟨f, cs, rfl, hBf, hwf, hcf⟩ := hF.2 (by omega)
  obtain ⟨m, rfl⟩ : ∃ m, n = m + 1 := ⟨n - 1, by omega⟩
  rw [show ss.length - 1 = m by omega]
  have ul : w.cell? ⟨f, m, none⟩ = some (.string (lastL ss)) := by
    rw [hwf.cell m, hcf m (by omega)]
    unfold lastL
    rw [hssl]
    rfl
  have uf : w.frozen? ⟨f, m, none⟩ = false := hwf.free m
  have hls : (lastL ss).size ≤ 1000000 := by
    unfold lastL
    rw [List.getD_eq_getElem?_getD, List.getElem?_eq_getElem (by omega)]
    exact hz _ (List.getElem_mem _)
  have NM := Lib.hid (fun w => name05_any (lastL ss) w hls)
  have hne := Lib.hid (name_nonempty hl)
  rw [hl] at NM
  have H1 := Lib.hid (h.far_str hwf hBf.2 m (.string ⟨#[48]⟩))
  have F1 := Lib.hid (show FieldsAt (w.setCell ⟨f, m, none⟩ (.string ⟨#[48]⟩)) B (some ⟨f, 0, none⟩) (m + 1) (ss.set m ⟨#[48]⟩) from fields_set hssl hBf hwf hcf)
  have B1 := Lib.hid ((Below.refl B w).setCell (p := ⟨f, m, none⟩) hBf.1 (.string ⟨#[48]⟩))
  have Z1 := Lib.hid (show (w.setCell ⟨f, m, none⟩ (.string ⟨#[48]⟩)).heap.size = w.heap.size by simp [World.setCell])
  have hz1 : ∀ z ∈ ss.set m ⟨#[48]⟩, z.size ≤ 1000000 := fun z hz' => by
    rcases List.mem_or_eq_of_mem_set hz' with h' | rfl
    · exact hz z h'
    · decide
  have d0 : decide ((0 : Int) ≤ ((m + 1 : Nat) : Int) - 1) = true := decide_eq_true (by omega)
  have d0' : (0 : Int) ≤ m := by omega
  obtain ⟨A3, c3, rfl⟩ : ∃ A3 c3, v3 = .slice A3 st.opens.length c3 := by
    rcases h.opens.2 with ⟨h1, h2⟩ | ⟨g, cap, cur, h1, _⟩
    · exact ⟨none, 0, by rw [h2]; exact h1⟩
    · exact ⟨_, _, h1⟩
  obtain ⟨A0, c0, rfl, _⟩ := Owns.form h.words
  clear hwf hcf hls hl hF hz hnm h HF H
  generalize lastL ss = ll at *
  generalize ss.set m ⟨#[48]⟩ = s2 at *
  cases hok : fillOk op s2 with
  | false =>
    rw [if_neg (by decide)]
    have FB := Lib.hid (fill05_bad hok (some ⟨f, 0, none⟩) (m + 1) cp _ (HS.out _ B1.out) F1.out.strs (fun z hz' => by have := hz1 z hz'; unfold maxLen; omega) hn)
    unfold AsmPost
    clear hok hz1 F1
    go_enter Tryd.func44, Tryd.ntmps44
    go_wp2_with fail
    refine (TK.out _).mono ?_
    rintro e w1 ⟨rfl, rfl⟩
    go_wp2_with fail
    refine (NM.out _).mono ?_
    rintro e w1 ⟨rfl, rfl⟩
    go_wp2_with fail
    refine FB.out.mono ?_
    rintro e w2 ⟨o, a, b, c, t, rfl, hb2⟩
    have H2 := Lib.hid (H1.out.below (hb2.alloc hb2.size (.cells #[.int .i64 o, .int .i64 a, .int .i64 b, .int .i64 c, .int .i64 t] 93)))
    have B2 := Lib.hid (B1.out.trans ((hb2.alloc hb2.size (.cells #[.int .i64 o, .int .i64 a, .int .i64 b, .int .i64 c, .int .i64 t] 93)).mono (by rw [Z1.out]; exact hBw)))
    have Z2 := hb2.size
    rw [Z1.out] at Z2
    clear hb2 ul uf
    go_wp2_with fail
    go_ret
    exact ⟨_, v1, _, mb, rfl, H2.out, B2.out, by simp; omega⟩
  | true =>
    rw [if_pos rfl]
    have FK := Lib.hid (fill05_ok hok (some ⟨f, 0, none⟩) (m + 1) cp _ (HS.out _ B1.out) F1.out.strs (fun z hz' => by have := hz1 z hz'; unfold maxLen; omega) hn)
    obtain ⟨ja, jb, jc, jn⟩ := fill_i64 hok
    have EN := Lib.hid (fun w hs => encode05_ok (fill_check hok) ja jb jc jn w hs)
    have WF := Lib.hid (show encOf op (fa op s2) (fb op s2) (fc op s2) (fn op s2) = wordF op s2 from rfl)
    rw [WF.out] at EN
    clear hok hz1 ja jb jc jn WF F1
    generalize wordF op s2 = wd at *
    generalize fa op s2 = ia at *
    generalize fb op s2 = ib at *
    generalize fc op s2 = ic at *
    generalize fn op s2 = imm at *
    have AD := Lib.hid (fun w' v0' v3' (h' : AsmAt w' B p ⟨st.words, st.labels, st.opens ++ [⟨op, ia, ib, ic, imm, ll, st.words.length, line⟩]⟩ v0' v1 v3' mb) hB => add_any wd B p _ v0' v1 v3' mb w' h' hB hws)
    unfold AsmPost at *
    generalize addS wd ⟨st.words, st.labels, st.opens ++ [⟨op, ia, ib, ic, imm, ll, st.words.length, line⟩]⟩ = r at *
    obtain ⟨i0, hi, hi0, hi1, hi2⟩ := info_parts nam_info
    go_enter Tryd.func44, Tryd.ntmps44
    go_wp2_with fail
    refine (TK.out _).mono ?_
    rintro e w1 ⟨rfl, rfl⟩
    go_wp2_with fail
    refine (NM.out _).mono ?_
    rintro e w1 ⟨rfl, rfl⟩
    go_wp2_with fail
    refine FK.out.mono ?_
    rintro e w2 ⟨rfl, hb2⟩
    have BI := hb2.alloc hb2.size (.cells #[.int .i64 op, .int .i64 ia, .int .i64 ib, .int .i64 ic, .int .i64 imm] 93)
    have H2 := Lib.hid (H1.out.below BI)
    have B2 := Lib.hid (B1.out.trans (BI.mono (by rw [Z1.out]; exact hBw)))
    have Z2 : w.heap.size ≤ (w2.alloc (.cells #[.int .i64 op, .int .i64 ia, .int .i64 ib, .int .i64 ic, .int .i64 imm] 93)).heap.size := by have := BI.size; rw [Z1.out] at this; exact this
    have Q2 := Lib.hid (Whole.made w2 93 #[.int .i64 op, .int .i64 ia, .int .i64 ib, .int .i64 ic, .int .i64 imm] _ rfl)
    have hd : ∀ j, (w2.alloc (.cells #[.int .i64 op, .int .i64 ia, .int .i64 ib, .int .i64 ic, .int .i64 imm] 93)).cell? ⟨w2.heap.size, j, none⟩ = #[.int .i64 op, .int .i64 ia, .int .i64 ib, .int .i64 ic, .int .i64 imm][j]? := fun j => Q2.out.cell j
    have q0 : (w2.alloc (.cells #[.int .i64 op, .int .i64 ia, .int .i64 ib, .int .i64 ic, .int .i64 imm] 93)).cell? ⟨w2.heap.size, 0, none⟩ = some (.int .i64 op) := hd 0
    have q1 : (w2.alloc (.cells #[.int .i64 op, .int .i64 ia, .int .i64 ib, .int .i64 ic, .int .i64 imm] 93)).cell? ⟨w2.heap.size, 1, none⟩ = some (.int .i64 ia) := hd 1
    have q2 : (w2.alloc (.cells #[.int .i64 op, .int .i64 ia, .int .i64 ib, .int .i64 ic, .int .i64 imm] 93)).cell? ⟨w2.heap.size, 2, none⟩ = some (.int .i64 ib) := hd 2
    have q3 : (w2.alloc (.cells #[.int .i64 op, .int .i64 ia, .int .i64 ib, .int .i64 ic, .int .i64 imm] 93)).cell? ⟨w2.heap.size, 3, none⟩ = some (.int .i64 ic) := hd 3
    have q4 : (w2.alloc (.cells #[.int .i64 op, .int .i64 ia, .int .i64 ib, .int .i64 ic, .int .i64 imm] 93)).cell? ⟨w2.heap.size, 4, none⟩ = some (.int .i64 imm) := hd 4
    clear hb2 hd BI H1 B1 ul uf
    go_wp2_with fail
    refine (EN.out _ (HS.out _ B2.out)).mono ?_
    rintro e w3 ⟨rfl, hb3⟩
    have H3 := Lib.hid (H2.out.below hb3)
    have B3 := Lib.hid (B2.out.trans (hb3.mono (Nat.le_trans hBw Z2)))
    have Z3 : w.heap.size ≤ w3.heap.size := Nat.le_trans Z2 hb3.size
    have Q3 := Lib.hid (Q2.out.below hb3 Q2.out.lt)
    clear hb3 H2 B2 q0 q1 q2 q3 q4 Q2 TK NM FK EN
    generalize w2.heap.size = qi at *
    have hem : ll.toList.isEmpty = false := hne.out
    have y0 : w3.cell? ⟨qi, 0, none⟩ = some (.int .i64 op) := Q3.out.cell 0
    have y1 : w3.cell? ⟨qi, 1, none⟩ = some (.int .i64 ia) := Q3.out.cell 1
    have y2 : w3.cell? ⟨qi, 2, none⟩ = some (.int .i64 ib) := Q3.out.cell 2
    have y3 : w3.cell? ⟨qi, 3, none⟩ = some (.int .i64 ic) := Q3.out.cell 3
    have y4 : w3.cell? ⟨qi, 4, none⟩ = some (.int .i64 imm) := Q3.out.cell 4
    have p0 : w3.cell? ⟨p, 0, none⟩ = some (.slice A0 st.words.length c0) := H3.out.blk.cell 0
    have p3 : w3.cell? ⟨p, 3, none⟩ = some (.slice A3 st.opens.length c3) := H3.out.blk.cell 3
    have HA := Lib.hid (show AsmAt (w3.alloc (.cells #[.int .i64 op, .int .i64 ia, .int .i64 ib, .int .i64 ic, .int .i64 imm, .string ll, .int .i64 st.words.length, .int .i64 line] 95)).drew B p st (.slice A0 st.words.length c0) v1 (.slice A3 st.opens.length c3) mb from H3.out.below ((Below.refl w3.heap.size w3).alloc (Nat.le_refl _) (.cells #[.int .i64 op, .int .i64 ia, .int .i64 ib, .int .i64 ic, .int .i64 imm, .string ll, .int .i64 st.words.length, .int .i64 line] 95)).drew)
    have a3 : (w3.alloc (.cells #[.int .i64 op, .int .i64 ia, .int .i64 ib, .int .i64 ic, .int .i64 imm, .string ll, .int .i64 st.words.length, .int .i64 line] 95)).drew.cell? ⟨p, 3, none⟩ = some (.slice A3 st.opens.length c3) := HA.out.blk.cell 3
    have BA := Lib.hid (show Below B w (w3.alloc (.cells #[.int .i64 op, .int .i64 ia, .int .i64 ib, .int .i64 ic, .int .i64 imm, .string ll, .int .i64 st.words.length, .int .i64 line] 95)).drew from (B3.out.alloc (Nat.le_trans hBw Z3) (.cells #[.int .i64 op, .int .i64 ia, .int .i64 ib, .int .i64 ic, .int .i64 imm, .string ll, .int .i64 st.words.length, .int .i64 line] 95)).drew)
    have NC := Lib.hid (show ∀ (j : Nat) u, ([.int .i64 op, .int .i64 ia, .int .i64 ib, .int .i64 ic, .int .i64 imm, .string ll, .int .i64 st.words.length, .int .i64 line] : List Value)[j]? = some u → (w3.alloc (.cells #[.int .i64 op, .int .i64 ia, .int .i64 ib, .int .i64 ic, .int .i64 imm, .string ll, .int .i64 st.words.length, .int .i64 line] 95)).drew.cell? ((⟨w3.heap.size, 0, none⟩ : Addr).add j) = some u from fun j u hj => by
      rw [Go.WideShapes.add_plain, Nat.zero_add]
      exact ((Whole.made w3 95 #[.int .i64 op, .int .i64 ia, .int .i64 ib, .int .i64 ic, .int .i64 imm, .string ll, .int .i64 st.words.length, .int .i64 line] _ rfl).cell j).trans (by simpa using hj))
    have ZA : w3.heap.size + 1 ≤ (w3.alloc (.cells #[.int .i64 op, .int .i64 ia, .int .i64 ib, .int .i64 ic, .int .i64 imm, .string ll, .int .i64 st.words.length, .int .i64 line] 95)).drew.heap.size := by simp
    clear Q3 B3
    go_wp2_with fail
    go_region_law (refine step_append_rows rfl (.tmp 59) (.tmp 70) 48 rfl B 95 i0 _ 8 72 Tryd.underlying48 hi hi0 hi1 hi2 rfl (by decide) (.slice A3 st.opens.length c3) st.opens.length _ rfl HA.out.opens ⟨w3.heap.size, 0, none⟩ 1 1 [.int .i64 op, .int .i64 ia, .int .i64 ib, .int .i64 ic, .int .i64 imm, .string ll, .int .i64 st.words.length, .int .i64 line] rfl rfl NC.out (fun u hu => by simp at hu; rcases hu with rfl | rfl | rfl | rfl | rfl | rfl | rfl | rfl <;> rfl) (by unfold maxLen; omega) (by omega) (by simp; omega) ?_; intro v6 w6 ho6 hg6; have hform : ∃ A6 c6, v6 = .slice A6 (st.opens.length + 1) c6 := (by rcases ho6.2 with ⟨_, h2⟩ | ⟨g, cap, cur, h1, _⟩; exact absurd h2 (by omega); exact ⟨_, _, h1⟩); obtain ⟨A6, c6, rfl⟩ := hform; have H6 := Lib.hid (asm_grown HA.out hg6 ho6); have B6 := Lib.hid (BA.out.grown hg6 (by simp; omega) (fun b hb => (World.ownsRow.lt HA.out.opens b hb).1)); have Z6 := hg6.size; have m6 : w6.cell? ⟨p, 3, none⟩ = some (.slice A3 st.opens.length c3) := H6.out.1.cell 3; have g6 : w6.frozen? ⟨p, 3, none⟩ = false := H6.out.1.free 3; clear ho6 hg6)
    all_goals
      have H7 := Lib.hid (H6.out.2 op ia ib ic imm ll st.words.length line rfl)
      have B7 := Lib.hid (B6.out.setCell (p := ⟨p, 3, none⟩) HA.out.le (.slice A6 (st.opens.length + 1) c6))
      have Z7 : w.heap.size ≤ (w6.setCell ⟨p, 3, none⟩ (.slice A6 (st.opens.length + 1) c6)).heap.size := by simp [World.setCell] at Z6 ⊢; omega
      clear H6 B6 m6 g6 a3
      go_wp2_with fail
      refine (AD.out _ _ _ H7.out (Nat.le_trans hBw Z7)).mono ?_
      rintro e w8 ⟨u0, u1, u3, m4, rfl, ha, hb8, hz8⟩
      have HA8 := Lib.hid ha
      have B8 := Lib.hid (B7.out.trans hb8)
      clear ha hb8
      go_wp2_with fail
      go_ret
      exact ⟨u0, u1, u3, m4, rfl, HA8.out, B8.out, Nat.le_trans Z7 hz8⟩

end Go.Proofs.YtnmpamfgkidmiaaDoor
