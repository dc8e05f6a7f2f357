/- AsmA AsmB AsmC AsmD in one. -/
import Derived.Test.YtnmpamfgkidmiaaDoorLift
import Derived.Test.YtnmpamfgkidmiaaDoorShelf
import Derived.Test.YtnmpamfgkidmiaaDoorTextPlain
import Derived.Test.YtnmpamfgkidmiaaDoorInstrB
import Derived.Lib.Hide
import Derived.WalkKit
import Derived.BigCall
import Derived.Test.YtnmpamfgkidmiaaDoorBlocks
import Derived.Test.YtnmpamfgkidmiaaDoorSlices
import Derived.Test.YtnmpamfgkidmiaaDoorWordE
import Derived.Maps.OwnSet
import Derived.Maps.Views
import Derived.Test.YtnmpamfgkidmiaaDoorAsmLG
import Derived.StillTailTactics
import Derived.Deep.RegionLaw
import Derived.Deep.RegionHeld3
import Derived.Deep.QuietTactic
import Derived.BigQuiet
import Derived.Deep.RegionLawGrows

/- Asm: which names may be: isDigit, isLetter, takesName, Name. -/
namespace Go.Proofs.YtnmpamfgkidmiaaDoor
open Go.ChangeShapes Go.WideShapes Go.ChangeAt Go.RowKit
set_option linter.unusedVariables false
set_option linter.unusedSimpArgs false

def digI (c : Int) : Bool := decide (48 ≤ c) && decide (c ≤ 57)

def letI' (c : Int) : Bool := decide (97 ≤ c) && decide (c ≤ 122)

set_option maxHeartbeats 1000000 in
theorem isdigit_any (c : Int) (w : World) : Calls Tryd.prog 26 #[.int .u8 c] w fun e w' => e = .returned (.bool (digI c)) ∧ w = w' := by
  have HD := Lib.hid (show digI c = (decide (48 ≤ c) && decide (c ≤ 57)) from rfl)
  by_cases h : 48 ≤ c
  · have d : decide (48 ≤ c) = true := decide_eq_true h
    go_enter Tryd.func26, Tryd.ntmps26
    go_wp2
    go_ret
    exact ⟨by rw [HD.out, d, Bool.true_and]; rfl, rfl⟩
  · have d : decide (48 ≤ c) = false := decide_eq_false h
    go_enter Tryd.func26, Tryd.ntmps26
    go_wp2
    go_ret
    exact ⟨by rw [HD.out, d, Bool.false_and]; rfl, rfl⟩

set_option maxHeartbeats 1000000 in
theorem isletter_any (c : Int) (w : World) : Calls Tryd.prog 27 #[.int .u8 c] w fun e w' => e = .returned (.bool (letI' c)) ∧ w = w' := by
  have HD := Lib.hid (show letI' c = (decide (97 ≤ c) && decide (c ≤ 122)) from rfl)
  by_cases h : 97 ≤ c
  · have d : decide (97 ≤ c) = true := decide_eq_true h
    go_enter Tryd.func27, Tryd.ntmps27
    go_wp2
    go_ret
    exact ⟨by rw [HD.out, d, Bool.true_and]; rfl, rfl⟩
  · have d : decide (97 ≤ c) = false := decide_eq_false h
    go_enter Tryd.func27, Tryd.ntmps27
    go_wp2
    go_ret
    exact ⟨by rw [HD.out, d, Bool.false_and]; rfl, rfl⟩

/-- May the last field of an operation be a name? -/
def takesB (op : Int) : Bool := decide (20 ≤ op) && decide (op ≤ 23)

set_option maxHeartbeats 2000000 in
set_option maxRecDepth 100000 in
theorem takesN_any (op : Int) (w : World) : Calls Tryd.prog 72 #[.int .i64 op] w fun e w' => e = .returned (.bool (takesB op)) ∧ w = w' := by
  by_cases h : 20 ≤ op ∧ op ≤ 23
  · have ht : takesB op = true := by unfold takesB; simp [h.1, h.2]
    rw [ht]
    clear ht
    rcases (show op = 20 ∨ op = 21 ∨ op = 22 ∨ op = 23 by omega) with rfl | rfl | rfl | rfl
    all_goals
      clear h
      go_enter Tryd.func72, Tryd.ntmps72
      go_wp2
      go_ret
      exact ⟨rfl, rfl⟩
  · have ht : takesB op = false := by
      unfold takesB
      rw [Bool.and_eq_false_iff, decide_eq_false_iff_not, decide_eq_false_iff_not]
      omega
    rw [ht]
    have e0 : (op == 20) = false := by simp; omega
    have e1 : (op == 21) = false := by simp; omega
    have e2 : (op == 22) = false := by simp; omega
    have e3 : (op == 23) = false := by simp; omega
    clear h ht
    go_enter Tryd.func72, Tryd.ntmps72
    go_wp2
    go_ret
    exact ⟨rfl, rfl⟩

/-- May this byte stand in a name? -/
def okI (c : Int) : Bool := (c == 95) || letI' c || digI c

/-- May it be a name? -/
def nameB (s : ByteArray) : Bool := decide (1 ≤ s.size) && decide (s.size ≤ 32) && !digI ((s.get! 0).toNat : Int) && (List.range s.size).all (fun i => okI ((s.get! i).toNat : Int))

theorem get_bang {s : ByteArray} {k : Nat} (h : k < s.size) : s.get! k = s[k] := by
  simp [ByteArray.get!, getElem!_pos, h]
  rfl

theorem nameB_yes {s : ByteArray} (h1 : 1 ≤ s.size) (h2 : s.size ≤ 32) (h3 : digI ((s.get! 0).toNat : Int) = false) (h4 : ∀ i, i < s.size → okI ((s.get! i).toNat : Int) = true) : nameB s = true := by
  unfold nameB
  rw [decide_eq_true h1, decide_eq_true h2, h3, List.all_eq_true.2 (fun i hi => h4 i (List.mem_range.1 hi))]
  rfl

theorem nameB_no {s : ByteArray} {i : Nat} (h : i < s.size) (h4 : okI ((s.get! i).toNat : Int) = false) : nameB s = false := by
  unfold nameB
  rw [Bool.and_eq_false_iff]
  right
  cases hb : (List.range s.size).all (fun i => okI ((s.get! i).toNat : Int)) with
  | false => rfl
  | true =>
    have := List.all_eq_true.1 hb i (List.mem_range.2 h)
    rw [h4] at this
    cases this

set_option maxHeartbeats 4000000 in
set_option maxRecDepth 100000 in
theorem name05_any (s : ByteArray) (w : World) (hm : s.size ≤ 1000000) : Calls Tryd.prog 13 #[.string s] w fun e w' => e = .returned (.bool (nameB s)) ∧ w = w' := by
  by_cases h1 : 1 ≤ s.size
  case neg =>
    have h0 : s = ⟨#[]⟩ := by
      cases s with
      | mk d => congr; exact Array.eq_empty_of_size_eq_zero (by simp [ByteArray.size] at h1; simp [h1])
    subst h0
    have hn : nameB ⟨#[]⟩ = false := rfl
    rw [hn]
    go_enter Tryd.func13, Tryd.ntmps13
    go_wp2
    go_ret
    exact ⟨rfl, rfl⟩
  have hne : s.toList.isEmpty = false := by
    rw [Lib.toList_data]
    cases hl : s.data.toList with
    | nil =>
      have : s.size = 0 := by
        have h := congrArg List.length hl
        rw [Array.length_toList] at h
        exact h
      omega
    | cons a l => rfl
  by_cases h2 : s.size ≤ 32
  case neg =>
    have hn : nameB s = false := by
      unfold nameB
      rw [decide_eq_false h2]
      simp
    rw [hn]
    have d2 : decide ((32 : Int) < s.size) = true := decide_eq_true (by omega)
    clear hn h1
    go_enter Tryd.func13, Tryd.ntmps13
    go_wp2
    go_ret
    exact ⟨rfl, rfl⟩
  have d2 : decide ((32 : Int) < s.size) = false := decide_eq_false (by omega)
  have g0 := Lib.hid (get_bang (s := s) (k := 0) (by omega))
  have DG := Lib.hid (fun w => isdigit_any (s[0].toNat : Int) w)
  have IL := Lib.hid (fun c w => isletter_any c w)
  have ID := Lib.hid (fun c w => isdigit_any c w)
  have NY := Lib.hid (@nameB_yes s h1 h2)
  have NN := Lib.hid (fun i => @nameB_no s i)
  have GB := Lib.hid (fun k => @get_bang s k)
  have hI0 : (0 : Int) < s.size := by omega
  cases h3 : digI (s[0].toNat : Int) with
  | true =>
    have hn : nameB s = false := by
      unfold nameB
      rw [g0.out, h3]
      simp
    rw [hn]
    rw [h3] at DG
    clear hn h3 g0
    go_enter Tryd.func13, Tryd.ntmps13
    go_wp2_with fail
    refine (DG.out _).mono ?_
    rintro e w1 ⟨rfl, rfl⟩
    go_wp2_with fail
    go_ret
    exact ⟨rfl, rfl⟩
  | false =>
    have H3 := Lib.hid (show digI ((s.get! 0).toNat : Int) = false by rw [g0.out]; exact h3)
    rw [h3] at DG
    clear h3 g0
    generalize hnm : nameB s = r at *
    clear hnm
    go_enter Tryd.func13, Tryd.ntmps13
    go_wp2_with fail
    refine (DG.out _).mono ?_
    rintro e w1 ⟨rfl, rfl⟩
    go_wp2_with fail
    go_loop [19] (fun i => ∃ k : Nat, k ≤ s.size ∧ i = .int .i64 k ∧ ∀ j, j < k → okI ((s.get! j).toNat : Int) = true) (fun i => s.size - (intOf i).toNat)
    case atStart => exact ⟨0, Nat.zero_le _, rfl, fun j h => absurd h (Nat.not_lt_zero _)⟩
    case round =>
      obtain ⟨k, hk, rfl, hA⟩ := hrel
      have HA := Lib.hid hA
      clear hA
      by_cases hlt : k < s.size
      · have hI : (k : Int) < s.size := by omega
        have E := Lib.hid (GB.out k hlt)
        have OK := Lib.hid (show okI (s[k].toNat : Int) = (((s[k].toNat : Int) == 95) || letI' (s[k].toNat : Int) || digI (s[k].toNat : Int)) from rfl)
        have SA := Lib.hid (fun (h : okI (s[k].toNat : Int) = true) j (hj : j < k + 1) => (Nat.lt_or_ge j k).elim (HA.out j) (fun h' => by rw [show j = k by omega, E.out]; exact h))
        have IL' := Lib.hid (IL.out (s[k].toNat : Int))
        have ID' := Lib.hid (ID.out (s[k].toNat : Int))
        cases h95 : ((s[k].toNat : Int) == 95) with
        | true =>
          have S2 := Lib.hid (SA.out (by rw [OK.out, h95]; rfl))
          have h95' : ((s[k].toNat : Int) != 95) = false := by rw [bne, h95]; rfl
          clear SA OK E
          go_wp2_with fail
          go_round
          case rel => exact ⟨k + 1, by omega, by go_num, S2.out⟩
          case measure => simp [intOf]; omega
        | false =>
          have h95' : ((s[k].toNat : Int) != 95) = true := by rw [bne, h95]; rfl
          cases hL : letI' (s[k].toNat : Int) with
          | true =>
            have S2 := Lib.hid (SA.out (by rw [OK.out, h95, hL]; rfl))
            rw [hL] at IL'
            clear SA OK E hL
            go_wp2_with fail
            refine (IL'.out _).mono ?_
            rintro e w2 ⟨rfl, rfl⟩
            go_wp2_with fail
            go_round
            case rel => exact ⟨k + 1, by omega, by go_num, S2.out⟩
            case measure => simp [intOf]; omega
          | false =>
            rw [hL] at IL'
            cases hD : digI (s[k].toNat : Int) with
            | true =>
              have S2 := Lib.hid (SA.out (by rw [OK.out, h95, hL, hD]; rfl))
              rw [hD] at ID'
              clear SA OK E hL hD
              go_wp2_with fail
              refine (IL'.out _).mono ?_
              rintro e w2 ⟨rfl, rfl⟩
              go_wp2_with fail
              refine (ID'.out _).mono ?_
              rintro e w2 ⟨rfl, rfl⟩
              go_wp2_with fail
              go_round
              case rel => exact ⟨k + 1, by omega, by go_num, S2.out⟩
              case measure => simp [intOf]; omega
            | false =>
              have R := Lib.hid (NN.out k hlt (by rw [E.out, OK.out, h95, hL, hD]; rfl))
              rw [hD] at ID'
              clear SA OK E hL hD
              go_wp2_with fail
              refine (IL'.out _).mono ?_
              rintro e w2 ⟨rfl, rfl⟩
              go_wp2_with fail
              refine (ID'.out _).mono ?_
              rintro e w2 ⟨rfl, rfl⟩
              go_wp2_with fail
              go_ret
              exact ⟨by rw [R.out]; rfl, rfl⟩
      · have hI : ¬ (k : Int) < s.size := by omega
        have R := Lib.hid (NY.out H3.out (fun j hj => HA.out j (by omega)))
        go_wp2_with fail
        go_ret
        exact ⟨by rw [R.out]; rfl, rfl⟩
end Go.Proofs.YtnmpamfgkidmiaaDoor

/- Asm: the assembler in memory; add, raw. -/
namespace Go.Proofs.YtnmpamfgkidmiaaDoor
open Go.ChangeShapes Go.WideShapes Go.ChangeAt Go.RowKit
set_option linter.unusedVariables false
set_option linter.unusedSimpArgs false

/-- An instruction that names a label. -/
structure Opn where
  op : Int
  a : Int
  b : Int
  c : Int
  n : Int
  label : ByteArray
  at_ : Nat
  line : Nat

def Opn.cells (o : Opn) : List Value := [.int .i64 o.op, .int .i64 o.a, .int .i64 o.b, .int .i64 o.c, .int .i64 o.n, .string o.label, .int .i64 o.at_, .int .i64 o.line]

abbrev Lab := ByteArray × Nat

def labCells (l : Lab) : List Value := [.string l.1, .int .i64 l.2]

/-- What the lines so far come to. -/
structure AsmS where
  words : List Int
  labels : List Lab
  opens : List Opn

/-- The labels' words, as a map's datum. -/
def lmap (l : List Lab) : DataW Unit := l.foldl (fun D x => D.put (.string x.1.data.toList) (.lit (.int .i64 x.2))) (.map [])

abbrev asmT : TypeId := 50

/-- The block of the lines, which no step of the assembler's changes. -/
class LinesAt where
  lf : Nat
  lcs : Array Value

set_option linter.unusedSectionVars false
variable [LinesAt]

/-- The assembler at block p. -/
structure AsmAt (w : World) (B p : Nat) (st : AsmS) (v0 v1 v3 : Value) (mb : Nat) : Prop where
  le : B ≤ p
  blk : Whole w p asmT #[v0, v1, .map (some mb), v3]
  words : Owns .u32 45 w B v0 st.words.length st.words
  labels : w.ownsRow B 66 2 v1 st.labels.length (st.labels.flatMap labCells)
  leM : B ≤ mb
  map : w.ownsMap Tryd.prog 9 (plainElem Tryd.prog 3) mb st.labels.length (lmap st.labels)
  opens : w.ownsRow B 95 8 v3 st.opens.length (st.opens.flatMap Opn.cells)
  lines : Whole w LinesAt.lf 9 LinesAt.lcs

theorem str_u32 : (9 : TypeId) ≠ 45 := by decide
theorem str_lab : (9 : TypeId) ≠ 66 := by decide
theorem str_nam : (9 : TypeId) ≠ 95 := by decide
theorem str_asm : (9 : TypeId) ≠ asmT := by decide
theorem str_lbl : asmT ≠ (9 : TypeId) := by decide

theorem whole_apart {w : World} {f g : Nat} {T U : TypeId} {c d : Array Value} (hf : Whole w f T c) (hg : Whole w g U d) (hn : T ≠ U) : f ≠ g := by
  intro e
  subst e
  unfold Whole at hf hg
  rw [hf] at hg
  exact hn (by injection hg with h1; injection h1)

theorem whole_map {w : World} {f g : Nat} {T : TypeId} {c : Array Value} {es clock} (hf : Whole w f T c) (hg : w.heap[g]? = some (.map es clock)) : f ≠ g := by
  intro e
  subst e
  unfold Whole at hf
  rw [hf] at hg
  cases hg

theorem lines_grown {w w' : World} {b : Option Nat} (h : Whole w LinesAt.lf 9 LinesAt.lcs) (hg : w.grownBy w' b) (hb : b ≠ some LinesAt.lf) : Whole w' LinesAt.lf 9 LinesAt.lcs := (hg.block _ h.lt (fun e => hb e.symm)).trans h

theorem ownsRow_ne {w : World} {B : Nat} {e : TypeId} {sz : Nat} {v : Value} {n : Nat} {xs : List Value} {g : Nat} {o : Obj} (h : w.ownsRow B e sz v n xs) (hb : w.heap[g]? = some o) (ho : ∀ c fz, o ≠ .cells c e fz) : v.ownBlock ≠ some g := by
  rcases h.2 with ⟨rfl, _⟩ | ⟨g', cap, cur, rfl, _, hg, _⟩
  · simp [Value.ownBlock]
  · intro he
    simp only [Value.ownBlock, Option.some.injEq] at he
    subst he
    rw [hg] at hb
    exact ho _ _ (Option.some.inj hb).symm

/-- Two own rows of other element types lie apart. -/
theorem ownsRow_apart {w : World} {B B' : Nat} {e e' : TypeId} {sz sz' : Nat} {v v' : Value} {n n' : Nat} {xs xs' : List Value} (h : w.ownsRow B e sz v n xs) (h' : w.ownsRow B' e' sz' v' n' xs') (hne : e ≠ e') : v.ownBlock = none ∨ v.ownBlock ≠ v'.ownBlock := by
  rcases h.2 with ⟨rfl, _⟩ | ⟨g, cap, cur, rfl, _, hg, _⟩
  · exact .inl rfl
  · right
    rcases h'.2 with ⟨rfl, _⟩ | ⟨g', cap', cur', rfl, _, hg', _⟩
    · simp [Value.ownBlock]
    · intro he
      simp only [Value.ownBlock, Option.some.injEq] at he
      subst he
      rw [hg] at hg'
      exact hne (by injection hg' with h; injection h)

section
variable {w w' : World} {B p : Nat} {st : AsmS} {v0 v1 v3 : Value} {mb : Nat}

theorem AsmAt.lt (h : AsmAt w B p st v0 v1 v3 mb) : p < w.heap.size := h.blk.lt

/-- All of it stands while what lay there stands. -/
theorem AsmAt.below (h : AsmAt w B p st v0 v1 v3 mb) (hb : Below w.heap.size w w') : AsmAt w' B p st v0 v1 v3 mb := by
  have hg : w.grownBy w' none := ⟨hb.os, hb.tape, hb.output, hb.size, fun i hi _ => hb.block i hi⟩
  have hn : ∀ v : Value, v.ownBlock = none ∨ v.ownBlock ≠ none := fun v => Classical.em _
  exact ⟨h.le, h.blk.below hb h.blk.lt, World.ownsRow.kept h.words hg (hn _), World.ownsRow.kept h.labels hg (hn _), h.leM, h.map.kept hg (by simp), World.ownsRow.kept h.opens hg (hn _), h.lines.below hb h.lines.lt⟩

theorem AsmAt.mblk (h : AsmAt w B p st v0 v1 v3 mb) : ∃ es clock, w.heap[mb]? = some (.map es clock) := by
  obtain ⟨es, clock, hb, _⟩ := h.map
  exact ⟨es, clock, hb⟩

theorem AsmAt.apart (h : AsmAt w B p st v0 v1 v3 mb) : p ≠ mb := by
  obtain ⟨es, clock, hb⟩ := h.mblk
  intro e
  have h1 := h.blk
  unfold Whole at h1
  rw [e, hb] at h1
  cases h1
end

theorem asm_u32 : asmT ≠ 45 := by decide
theorem asm_lab : asmT ≠ 66 := by decide
theorem asm_nam : asmT ≠ 95 := by decide
theorem u32_lab : (45 : TypeId) ≠ 66 := by decide
theorem u32_nam : (45 : TypeId) ≠ 95 := by decide
theorem lab_nam : (66 : TypeId) ≠ 95 := by decide

theorem rowU32A : RowOf Tryd.prog 23 45 .u32 4 := rowOf_mk Tryd.underlying23 (by kernel_rfl) (by decide)

/-- What a step of the assembler leaves. -/
def AsmPost (w : World) (B p : Nat) (st : AsmS) (er : Int) (e : Ending) (w' : World) : Prop :=
  ∃ v0 v1 v3 mb, e = .returned (.int .i64 er) ∧ AsmAt w' B p st v0 v1 v3 mb ∧ Below B w w' ∧ w.heap.size ≤ w'.heap.size

set_option maxHeartbeats 4000000 in
set_option maxRecDepth 100000 in
theorem add_full (x : Int) (B p : Nat) (st : AsmS) (v0 v1 v3 : Value) (mb : Nat) (w : World) (h : AsmAt w B p st v0 v1 v3 mb) (hB : B ≤ w.heap.size) (hf : 16384 ≤ st.words.length) (hs : st.words.length ≤ 1000000) :
    Calls Tryd.prog 71 #[.pointer (some ⟨p, 0, none⟩), .int .u32 x] w (AsmPost w B p st 242) := by
  obtain ⟨A, c, rfl, _⟩ := Owns.form h.words
  have c0 : w.cell? ⟨p, 0, none⟩ = some (.slice A st.words.length c) := h.blk.cell 0
  have H := Lib.hid h
  have d : decide ((16384 : Int) ≤ st.words.length) = true := decide_eq_true (by omega)
  clear h
  unfold AsmPost
  go_enter Tryd.func71, Tryd.ntmps71
  go_wp2_with fail
  go_ret
  exact ⟨_, v1, v3, mb, rfl, H.out, Below.refl _ _, Nat.le_refl _⟩

set_option maxHeartbeats 4000000 in
set_option maxRecDepth 100000 in
theorem add_room (x : Int) (B p : Nat) (st : AsmS) (v0 v1 v3 : Value) (mb : Nat) (w : World) (h : AsmAt w B p st v0 v1 v3 mb) (hB : B ≤ w.heap.size) (hf : st.words.length < 16384) :
    Calls Tryd.prog 71 #[.pointer (some ⟨p, 0, none⟩), .int .u32 x] w (AsmPost w B p ⟨st.words ++ [x], st.labels, st.opens⟩ 0) := by
  obtain ⟨A, c, rfl, _⟩ := Owns.form h.words
  have c0 : w.cell? ⟨p, 0, none⟩ = some (.slice A st.words.length c) := h.blk.cell 0
  have d : decide ((16384 : Int) ≤ st.words.length) = false := decide_eq_false (by omega)
  have hle := h.le
  have hlt := h.lt
  have KA := Lib.hid (h.blk.alloc (.cells #[.int .u32 x] 45))
  have OA := Lib.hid (show Owns .u32 45 (w.alloc (.cells #[.int .u32 x] 45)) B (.slice A st.words.length c) st.words.length st.words from World.ownsRow.alloc h.words _)
  have LA := Lib.hid (World.ownsRow.alloc h.labels (.cells #[.int .u32 x] 45))
  have MA := Lib.hid (h.map.alloc (.cells #[.int .u32 x] 45))
  have NA := Lib.hid (World.ownsRow.alloc h.opens (.cells #[.int .u32 x] 45))
  have BA := Lib.hid ((Below.refl B w).alloc hB (.cells #[.int .u32 x] 45))
  have NZ := Lib.hid (owns_built .u32 45 w [x] #[.int .u32 x] rfl 1 rfl (by decide) w.heap.size (Nat.le_refl _) w.heap.size rfl).nums
  have SA := Lib.hid (h.lines.alloc (.cells #[.int .u32 x] 45))
  have leM := h.leM
  have MB := Lib.hid h.apart
  have mlt := h.map.lt
  obtain ⟨es, clock, hmb⟩ := h.mblk
  have HM := Lib.hid (show (w.alloc (.cells #[.int .u32 x] 45)).heap[mb]? = some (.map es clock) from (Below.heap_alloc w _ mb mlt).trans hmb)
  clear h hmb
  unfold AsmPost
  go_enter Tryd.func71, Tryd.ntmps71
  go_wp2_with (at_builtin; refine wpList_append_nums _ rfl _ _ rfl rowU32A B (.slice A st.words.length c) st.words.length st.words rfl OA.out (some ⟨w.heap.size, 0, none⟩) 1 1 [x] rfl NZ.out (by omega) (by simp; omega) ?_; intro v2 w2 ho2 hg2 _; obtain ⟨A2, c2, rfl, _⟩ := ho2.form; have NE := ownsRow_ne OA.out KA.out (fun _ _ h => asm_u32 (by injection h)); have K2 := Lib.hid ((hg2.block p (by simp; omega) (fun e => NE e.symm)).trans KA.out); have NM := ownsRow_ne OA.out HM.out (fun _ _ h => by cases h); have M2 := Lib.hid (MA.out.kept hg2 (fun e => NM e.symm)); have L2 := Lib.hid (World.ownsRow.kept LA.out hg2 (ownsRow_apart LA.out OA.out u32_lab.symm)); have N2 := Lib.hid (World.ownsRow.kept NA.out hg2 (ownsRow_apart NA.out OA.out u32_nam.symm)); have B2 := Lib.hid (BA.out.grown hg2 (by simp; omega) (fun b hb => (World.ownsRow.lt OA.out b hb).1)); have S2 := Lib.hid (lines_grown SA.out hg2 (ownsRow_ne OA.out SA.out (fun _ _ h => str_u32 (by injection h)))); have O2 := Lib.hid ho2; have Z2 := hg2.size; have c3 : w2.cell? ⟨p, 0, none⟩ = some (.slice A st.words.length c) := Whole.cell K2.out 0; have f3 : w2.frozen? ⟨p, 0, none⟩ = false := Whole.free K2.out 0; clear ho2 hg2 NE NM c0)
  have Z3 : w.heap.size + 1 ≤ w2.heap.size := by simpa using Z2
  go_ret
  refine ⟨.slice A2 (st.words.length + 1) c2, v1, v3, mb, rfl, ?_, B2.out.setCell (p := ⟨p, 0, none⟩) hle _, by simp [World.setCell]; omega⟩
  have K3 : Whole w2 p asmT #[.slice A st.words.length c, v1, .map (some mb), v3] := K2.out
  have hgs : w2.grownBy (w2.setCell ⟨p, 0, none⟩ (.slice A2 (st.words.length + 1) c2)) (some p) := ⟨rfl, rfl, rfl, by simp [World.setCell], fun j _ hj => Below.heap_setCell w2 ⟨p, 0, none⟩ _ j (fun e => hj (by rw [e]))⟩
  refine ⟨hle, K3.store 0 _, ?_, World.ownsRow.kept L2.out hgs (.inr (ownsRow_ne L2.out K3 (fun _ _ h => asm_lab (by injection h)))), leM, M2.out.kept hgs (fun e => MB.out (by injection e with e; exact e.symm)), World.ownsRow.kept N2.out hgs (.inr (ownsRow_ne N2.out K3 (fun _ _ h => asm_nam (by injection h)))), lines_grown S2.out hgs (fun e => whole_apart K3 S2.out str_lbl (by injection e))⟩
  rw [List.length_append]
  exact World.ownsRow.kept O2.out hgs (.inr (ownsRow_ne O2.out K3 (fun _ _ h => asm_u32 (by injection h))))
end Go.Proofs.YtnmpamfgkidmiaaDoor

/- Asm: raw, mark. -/
namespace Go.Proofs.YtnmpamfgkidmiaaDoor
open Go.ChangeShapes Go.WideShapes Go.ChangeAt Go.RowKit
set_option linter.unusedVariables false
set_option linter.unusedSimpArgs false
set_option linter.unusedSectionVars false
variable [LinesAt]

def addS (x : Int) (st : AsmS) : Int × AsmS := if 16384 ≤ st.words.length then (242, st) else (0, ⟨st.words ++ [x], st.labels, st.opens⟩)

theorem add_any (x : Int) (B p : Nat) (st : AsmS) (v0 v1 v3 : Value) (mb : Nat) (w : World) (h : AsmAt w B p st v0 v1 v3 mb) (hB : B ≤ w.heap.size) (hs : st.words.length ≤ 1000000) :
    Calls Tryd.prog 71 #[.pointer (some ⟨p, 0, none⟩), .int .u32 x] w (AsmPost w B p (addS x st).2 (addS x st).1) := by
  unfold addS
  split
  · exact add_full x B p st v0 v1 v3 mb w h hB ‹_› hs
  · exact add_room x B p st v0 v1 v3 mb w h hB (by omega)

def rawS (s : ByteArray) (st : AsmS) : Int × AsmS := if hexOk s = true then addS (hexVal s) st else (22, st)

set_option maxHeartbeats 2000000 in
set_option maxRecDepth 100000 in
theorem raw_any (s : ByteArray) (B p : Nat) (st : AsmS) (v0 v1 v3 : Value) (mb : Nat) (w : World) (h : AsmAt w B p st v0 v1 v3 mb) (hB : B ≤ w.heap.size) (hs : st.words.length ≤ 1000000) (hm : s.size ≤ 1000000) :
    Calls Tryd.prog 42 #[.pointer (some ⟨p, 0, none⟩), .string s] w (AsmPost w B p (rawS s st).2 (rawS s st).1) := by
  have PH := Lib.hid (parsehex_all s w (by unfold maxLen; omega))
  have H := Lib.hid h
  clear h
  cases hx : hexOk s with
  | true =>
    have AD := Lib.hid (add_any (hexVal s) B p st v0 v1 v3 mb w H.out hB hs)
    have R : rawS s st = addS (hexVal s) st := if_pos hx
    rw [R]
    rw [hx] at PH
    unfold AsmPost at *
    clear hx R
    generalize addS (hexVal s) st = r at *
    generalize hexVal s = x at *
    go_enter Tryd.func42, Tryd.ntmps42
    go_wp2_with fail
    refine PH.out.mono ?_
    rintro e w1 ⟨rfl, rfl⟩
    go_wp2_with fail
    refine AD.out.mono ?_
    rintro e w2 ⟨u0, u1, u3, m2, rfl, ha, hb, hz⟩
    have HA := Lib.hid ha
    have HB := Lib.hid hb
    clear ha hb
    go_wp2_with fail
    go_ret
    exact ⟨u0, u1, u3, m2, rfl, HA.out, HB.out, hz⟩
  | false =>
    have R : rawS s st = (22, st) := if_neg (by rw [hx]; decide)
    rw [R]
    rw [hx] at PH
    unfold AsmPost at *
    clear hx R
    go_enter Tryd.func42, Tryd.ntmps42
    go_wp2_with fail
    refine PH.out.mono ?_
    rintro e w1 ⟨rfl, rfl⟩
    go_wp2_with fail
    go_ret
    exact ⟨v0, v1, v3, mb, rfl, H.out, Below.refl _ _, Nat.le_refl _⟩

/-- Has a name a label? -/
def hasL (l : List Lab) (s : ByteArray) : Bool := l.any fun x => x.1.toList == s.toList

theorem data_inj {a b : ByteArray} (h : a.data.toList = b.data.toList) : a = b := by
  cases a; cases b
  congr
  exact Array.ext' h

theorem lmap_snoc (l : List Lab) (x : Lab) : lmap (l ++ [x]) = (lmap l).put (.string x.1.data.toList) (.lit (.int .i64 x.2)) := by
  unfold lmap
  rw [List.foldl_append]
  rfl

theorem lmap_isMap (l : List Lab) : Maps.IsMap (lmap l) := by
  have key : ∀ (l : List Lab) (D : DataW Unit), Maps.IsMap D → Maps.IsMap (l.foldl (fun D x => D.put (.string x.1.data.toList) (.lit (.int .i64 x.2))) D) := by
    intro l
    induction l with
    | nil => intro D h; exact h
    | cons x l ih => intro D h; exact ih _ (h.put _ _)
  exact key l _ Maps.isMap_empty

theorem snoc_ind {α : Type} {P : List α → Prop} (h0 : P []) (h1 : ∀ l x, P l → P (l ++ [x])) (l : List α) : P l := by
  have key : ∀ n (l : List α), l.length = n → P l := by
    intro n
    induction n with
    | zero => intro l h; rw [List.eq_nil_of_length_eq_zero h]; exact h0
    | succ n ih =>
      intro l h
      rcases List.eq_nil_or_concat l with rfl | ⟨l', x, rfl⟩
      · exact h0
      · rw [List.concat_eq_append] at h ⊢
        exact h1 l' x (ih l' (by simpa using h))
  exact key _ l rfl

theorem lmap_has (l : List Lab) (s : ByteArray) : Maps.has (lmap l) (.string s.data.toList) = hasL l s := by
  refine snoc_ind (P := fun l => Maps.has (lmap l) (.string s.data.toList) = hasL l s) rfl (fun l x ih => ?_) l
  · rw [lmap_snoc]
    unfold hasL
    rw [List.any_append]
    by_cases h : x.1 = s
    · subst h
      rw [Maps.has_put_same (lmap_isMap l) (by trivial)]
      simp
    · rw [Maps.has_put_other (fun e => h (data_inj (by injection e with e; exact e.symm))), ih]
      unfold hasL
      have : (x.1.toList == s.toList) = false := by
        rw [Lib.toList_data, Lib.toList_data]
        simp only [beq_eq_false_iff_ne, ne_eq]
        exact fun e => h (data_inj e)
      simp [this]

/-- What a line that is a label comes to. -/
def markS (s : ByteArray) (st : AsmS) : Int × AsmS :=
  if nameB s = true then (if hasL st.labels s = true then (51, st) else (0, ⟨st.words, st.labels ++ [(s, st.words.length)], st.opens⟩)) else (22, st)

set_option maxHeartbeats 4000000 in
set_option maxRecDepth 100000 in
theorem mark_no (s : ByteArray) (B p : Nat) (st : AsmS) (v0 v1 v3 : Value) (mb : Nat) (w : World) (h : AsmAt w B p st v0 v1 v3 mb) (hm : s.size ≤ 1000000) (hn : nameB s = false) :
    Calls Tryd.prog 40 #[.pointer (some ⟨p, 0, none⟩), .string s] w (AsmPost w B p st 22) := by
  have NM := Lib.hid (name05_any s w hm)
  rw [hn] at NM
  have H := Lib.hid h
  clear h hn
  unfold AsmPost
  go_enter Tryd.func40, Tryd.ntmps40
  go_wp2_with fail
  refine NM.out.mono ?_
  rintro e w1 ⟨rfl, rfl⟩
  go_wp2_with fail
  go_ret
  exact ⟨v0, v1, v3, mb, rfl, H.out, Below.refl _ _, Nat.le_refl _⟩

theorem map_law : Maps.Keyed Tryd.prog 9 := Maps.string_keyed Tryd.underlying9

set_option maxHeartbeats 4000000 in
set_option maxRecDepth 100000 in
theorem mark_twice (s : ByteArray) (B p : Nat) (st : AsmS) (v0 v1 v3 : Value) (mb : Nat) (w : World) (h : AsmAt w B p st v0 v1 v3 mb) (hm : s.size ≤ 1000000) (hn : nameB s = true) (hh : hasL st.labels s = true) :
    Calls Tryd.prog 40 #[.pointer (some ⟨p, 0, none⟩), .string s] w (AsmPost w B p st 51) := by
  have NM := Lib.hid (name05_any s w hm)
  rw [hn] at NM
  have H := Lib.hid h
  have c2 : w.cell? ⟨p, 2, none⟩ = some (.map (some mb)) := h.blk.cell 2
  have LH := Lib.hid ((lmap_has st.labels s).trans hh)
  have MP := Lib.hid h.map
  have hkey := Lib.hid (Go.WideMaps.keyOf_string_mk (P := Tryd.prog) Tryd.underlying9 (s := s) (by unfold maxLen; omega))
  clear h hn hh
  unfold AsmPost
  go_enter Tryd.func40, Tryd.ntmps40
  go_wp2_with fail
  refine NM.out.mono ?_
  rintro e w1 ⟨rfl, rfl⟩
  go_wp2_with (at_lookup; refine wpList_lookup_own_ok_int _ rfl _ _ 47 rfl 9 3 .i64 map_law Tryd.underlying47 Tryd.underlying3 (Tryd.zeroValue3 _) mb st.labels.length _ rfl MP.out _ _ rfl hkey.out ?_; intro c hat hwc; rw [LH.out]; clear hat hwc)
  go_ret
  exact ⟨v0, v1, v3, mb, rfl, H.out, Below.refl _ _, Nat.le_refl _⟩
end Go.Proofs.YtnmpamfgkidmiaaDoor

/- Asm: mark, where the label is new. -/
namespace Go.Proofs.YtnmpamfgkidmiaaDoor
open Go.ChangeShapes Go.WideShapes Go.ChangeAt Go.RowKit
set_option linter.unusedVariables false
set_option linter.unusedSimpArgs false
set_option linter.unusedSectionVars false
variable [LinesAt]

theorem cell_kept_b {w w' : World} {g o : Nat} {v : Value} (h : w.cell? ⟨g, o, none⟩ = some v) (hb : Below w.heap.size w w') : w'.cell? ⟨g, o, none⟩ = some v := (hb.cell (p := ⟨g, o, none⟩) (block_lt h)).trans h

/-- append to an own row, as one step of a region that draws. -/
theorem step_append_rows {P : Program} {ops : Array Oper} {o : Oper} {a : Act} {w : World} {K : Act → World → Prop} {Q : Exit → Act → World → Prop} {E : Prop}
    (hg : o.guard = none) (s x : Operand) (t : TypeId) (hop : o.op = Op.call { callee := Callee.builtin Builtin.append, args := #[s, x], argTypes := #[t, t] })
    (base : Nat) (e : TypeId) (i : TypeInfo) (z : Value) (size bytes : Nat) (ht : P.underlying t = some (.slice e)) (hi : P.info? e = some i) (hz : i.zero = some z)
    (hsize : i.size = size) (hby : i.bytes = bytes) (hzs : z.cells.size = size) (hsz : 0 < size)
    (v : Value) (n : Nat) (xs : List Value) (hs : a.eval s = v) (hown : w.ownsRow base e size v n xs)
    (ad : Addr) (m c : Nat) (news : List Value) (hx : a.eval x = .slice (some ad) m c) (hl : news.length = m * size) (hnews : ∀ j u, news[j]? = some u → w.cell? (ad.add j) = some u) (h1 : ∀ u ∈ news, u.oneCell' = true)
    (h63 : n + m ≤ maxLen) (hbytes : (n + m) * bytes ≤ 140737488355328) (hbase : base ≤ w.heap.size)
    (hK : ∀ v' w', w'.ownsRow base e size v' (n + m) (xs ++ news) → w.grownBy w' v.ownBlock → K (a.put o.dst v') w') :
    if Region.wanted o (yielded ops a.tmps) = true then Oper.wp P o a w K Q else E := by
  have hw : Region.wanted o (yielded ops a.tmps) = true := by simp [Region.wanted, hg]
  rw [if_pos hw]
  obtain ⟨v', w', hrun, r1, r2, _⟩ := run_append_own_at (P := P) w base t o.type e i z size bytes ht hi hz hsize hby hzs hsz v n xs hown ad m c news hl hnews h1 h63 hbytes hbase
  unfold Oper.wp
  simp [execOp, hop, resolve, invoke, builtin, hs, hx, hrun, Result.andThen]
  exact hK v' w' r1 r2

set_option maxHeartbeats 4000000 in
set_option maxRecDepth 100000 in
theorem clone05_any (s : ByteArray) (w : World) (hs : s.size ≤ 1000000) :
    Calls Tryd.prog 68 #[.string s] w fun e w' => e = .returned (.string s) ∧ Below w.heap.size w w' := by
  have CL := Lib.hid (Tryd.stringslite_Clone s w (by omega))
  go_enter Tryd.func68, Tryd.ntmps68
  go_wp2_with fail
  refine CL.out.mono ?_
  rintro e w1 ⟨rfl, hb⟩
  have HB := Lib.hid hb
  clear hb
  go_wp2_with fail
  go_ret
  exact ⟨rfl, HB.out⟩

theorem lab_info : (Tryd.prog.info? 66).map (fun i => (i.zero, i.size, i.bytes)) = some (some (.agg #[.string ⟨#[]⟩, .int .i64 0]), 2, 24) := by kernel_rfl

set_option maxHeartbeats 8000000 in
set_option maxRecDepth 100000 in
theorem mark_new (s : ByteArray) (B p : Nat) (st : AsmS) (v0 v1 v3 : Value) (mb : Nat) (w : World) (h : AsmAt w B p st v0 v1 v3 mb) (hm : s.size ≤ 1000000) (hn : nameB s = true) (hh : hasL st.labels s = false) (hBw : B ≤ w.heap.size) (hws : st.words.length ≤ 1000000) (hls : st.labels.length ≤ 1000000) :
    Calls Tryd.prog 40 #[.pointer (some ⟨p, 0, none⟩), .string s] w (AsmPost w B p ⟨st.words, st.labels ++ [(s, st.words.length)], st.opens⟩ 0) := by
  obtain ⟨A0, c0, rfl, _⟩ := Owns.form h.words
  obtain ⟨A1, c1, rfl⟩ : ∃ A1 c1, v1 = .slice A1 st.labels.length c1 := by
    rcases h.labels.2 with ⟨h1, h2⟩ | ⟨g, cap, cur, h1, _⟩
    · exact ⟨none, 0, by rw [h2]; exact h1⟩
    · exact ⟨_, _, h1⟩
  obtain ⟨i0, hi, hz0, hz1, hz2⟩ := info_parts lab_info
  have hwf := Lib.hid (show (Lit.int .i64 (st.words.length : Int)).wf = true by
    have h1 : IntKind.i64.min ≤ (st.words.length : Int) := by simp only [show IntKind.i64.min = -9223372036854775808 from rfl]; omega
    have h2 : (st.words.length : Int) ≤ IntKind.i64.max := by simp only [show IntKind.i64.max = 9223372036854775807 from rfl]; omega
    show (decide (IntKind.i64.min ≤ (st.words.length : Int)) && decide ((st.words.length : Int) ≤ IntKind.i64.max)) = true
    rw [decide_eq_true h1, decide_eq_true h2]
    rfl)
  have NM := Lib.hid (name05_any s w hm)
  rw [hn] at NM
  have CL := Lib.hid (fun w => clone05_any s w hm)
  have H := Lib.hid h
  have c2 : w.cell? ⟨p, 2, none⟩ = some (.map (some mb)) := h.blk.cell 2
  have LH := Lib.hid ((lmap_has st.labels s).trans hh)
  have MP := Lib.hid h.map
  have hkey := Lib.hid (Go.WideMaps.keyOf_string_mk (P := Tryd.prog) Tryd.underlying9 (s := s) (by unfold maxLen; omega))
  clear h hn hh
  unfold AsmPost
  go_enter Tryd.func40, Tryd.ntmps40
  go_wp2_with fail
  refine NM.out.mono ?_
  rintro e w1 ⟨rfl, rfl⟩
  go_wp2_with (at_lookup; refine wpList_lookup_own_ok_int _ rfl _ _ 47 rfl 9 3 .i64 map_law Tryd.underlying47 Tryd.underlying3 (Tryd.zeroValue3 _) mb st.labels.length _ rfl MP.out _ _ rfl hkey.out ?_; intro c hat hwc; rw [LH.out]; clear hat hwc)
  clear c2 NM LH MP
  have LS : w.cell? ⟨p, 0, none⟩ = some (.slice A0 st.words.length c0) := H.out.blk.cell 0
  have hpw := H.out.lt
  have L1 : w.drew.cell? ⟨p, 0, none⟩ = some (.slice A0 st.words.length c0) := LS
  have L0 : (w.alloc (.cells #[.string ⟨#[]⟩, .int .i64 0] 66)).drew.cell? ⟨p, 0, none⟩ = some (.slice A0 st.words.length c0) := cell_kept_b LS ((Below.refl w.heap.size w).alloc (Nat.le_refl _) (.cells #[.string ⟨#[]⟩, .int .i64 0] 66)).drew
  have Q0 := Lib.hid (show Whole (w.alloc (.cells #[.string ⟨#[]⟩, .int .i64 0] 66)).drew w.heap.size 66 #[.string ⟨#[]⟩, .int .i64 0] from Whole.made w 66 #[.string ⟨#[]⟩, .int .i64 0] _ rfl)
  have hpn : p ≠ w.heap.size := Nat.ne_of_lt hpw
  have W0 := Lib.hid (((Below.refl w.heap.size w).alloc (Nat.le_refl _) (.cells #[.string ⟨#[]⟩, .int .i64 0] 66)).drew)
  go_region_held3 (fun y => y.cell? ⟨p, 0, none⟩ = some (.slice A0 st.words.length c0))
    (first
      | with_reducible assumption
      | with_reducible exact L1
      | with_reducible exact L0
      | with_reducible exact L2.out
      | with_reducible exact L3.out
      | with_reducible exact L4.out
      | with_reducible exact L5.out
      | fail)
    (first
      | ((go_at_call 68; refine (CL.out _).mono ?_; rintro e y1 ⟨rfl, hb1⟩; have L2 := Lib.hid (cell_kept_b L1 hb1); have hpy : p < y1.heap.size := Nat.lt_of_lt_of_le hpw hb1.size; have L3 := Lib.hid (cell_kept_b L2.out ((Below.refl y1.heap.size y1).alloc (Nat.le_refl _) (.cells #[.string ⟨#[]⟩, .int .i64 0] 66))); have L4 := Lib.hid (cell_kept_b L2.out ((Below.refl y1.heap.size y1).alloc (Nat.le_refl _) (.cells #[.string s, .int .i64 st.words.length] 66)))))
      | ((go_at_call 68; refine (CL.out _).mono ?_; rintro e y1 ⟨rfl, hb1⟩; have L2 := Lib.hid (cell_kept_b L0 hb1); have Q2 := Lib.hid (Q0.out.below hb1 Q0.out.lt); have z0 : y1.cell? ⟨w.heap.size, 0, none⟩ = some (.string ⟨#[]⟩) := Q2.out.cell 0; have z1 : y1.cell? ⟨w.heap.size, 1, none⟩ = some (.int .i64 0) := Q2.out.cell 1; have f0 : y1.frozen? ⟨w.heap.size, 0, none⟩ = false := Q2.out.free 0; have f1 : y1.frozen? ⟨w.heap.size, 1, none⟩ = false := Q2.out.free 1; have L5 := Lib.hid (show ((y1.setCell ⟨w.heap.size, 0, none⟩ (.string s)).setCell ⟨w.heap.size, 1, none⟩ (.int .i64 st.words.length)).cell? ⟨p, 0, none⟩ = some (.slice A0 st.words.length c0) from by rw [World.cell?_setCell_other _ _ _ _ (fun e => hpn (by injection e with e1; exact e1.symm)), World.cell?_setCell_other _ _ _ _ (fun e => hpn (by injection e with e1; exact e1.symm))]; exact L2.out))))
  · have BV0 := ((Below.refl w.heap.size w).drew.trans hb1).alloc hb1.size (.cells #[.string s, .int .i64 st.words.length] 66)
    have QV := Lib.hid (Whole.made y1 66 #[.string s, .int .i64 st.words.length] _ rfl)
    have hq : w.heap.size ≤ y1.heap.size := hb1.size
    have HV := Lib.hid (H.out.below BV0)
    have BV := Lib.hid (BV0.mono hBw)
    have ZV := BV0.size
    rename_i hH
    clear hH BV0 L4 L3 L2 hpy hb1 L1 L0 Q0 LS H W0
    generalize hVV : y1.alloc (.cells #[.string s, .int .i64 st.words.length] 66) = V at *
    clear hVV
    generalize y1.heap.size = q at *
    have m2 : V.cell? ⟨p, 2, none⟩ = some (.map (some mb)) := HV.out.blk.cell 2
    have x0 : V.cell? ⟨q, 0, none⟩ = some (.string s) := QV.out.cell 0
    have x1 : V.cell? ⟨q, 1, none⟩ = some (.int .i64 st.words.length) := QV.out.cell 1
    have MV := Lib.hid HV.out.map.drew
    go_wp2_with fail
    go_still_tail 8, (by kernel_rfl)
    refine wpList_mapUpdate_own _ rfl _ _ _ 47 rfl 9 3 map_law Tryd.underlying47 (plainElem Tryd.prog 3) mb st.labels.length _ rfl MV.out (by unfold maxLen; omega) _ _ _ rfl rfl hkey.out _ [] (plainElem_int Tryd.underlying3 hwf.out) ?_
    intro w5 hown5 hg5
    obtain ⟨es, clock, hmb⟩ := HV.out.mblk
    have hpm := HV.out.apart
    have hqm : q ≠ mb := by
      intro e
      have h1 := QV.out
      unfold Whole at h1
      rw [e, hmb] at h1
      cases h1
    have hrow : ∀ (e : TypeId) (sz : Nat) (v : Value) (n : Nat) (xs : List Value), V.ownsRow B e sz v n xs → w5.ownsRow B e sz v n xs := fun e sz v n xs h => World.ownsRow.kept (show V.drew.ownsRow B e sz v n xs from h) hg5 (.inr (ownsRow_ne h hmb (fun _ _ h => by cases h)))
    have K5 := Lib.hid (show Whole w5 p asmT #[.slice A0 st.words.length c0, .slice A1 st.labels.length c1, .map (some mb), v3] from (hg5.block p HV.out.lt (fun e => hpm (by injection e))).trans HV.out.blk)
    have Q5 := Lib.hid (show Whole w5 q 66 #[.string s, .int .i64 st.words.length] from (hg5.block q QV.out.lt (fun e => hqm (by injection e))).trans QV.out)
    have O5 := Lib.hid (hrow _ _ _ _ _ HV.out.words)
    have L5 := Lib.hid (hrow _ _ _ _ _ HV.out.labels)
    have N5 := Lib.hid (hrow _ _ _ _ _ HV.out.opens)
    have S5 := Lib.hid (lines_grown (show Whole V.drew LinesAt.lf 9 LinesAt.lcs from HV.out.lines) hg5 (fun e => whole_map HV.out.lines hmb (by injection e with e; exact e.symm)))
    have M5 := Lib.hid (show w5.ownsMap Tryd.prog 9 (plainElem Tryd.prog 3) mb (st.labels.length + 1) (lmap (st.labels ++ [(s, st.words.length)])) by rw [lmap_snoc]; exact hown5)
    have B5 := Lib.hid (BV.out.drew.grown hg5 (Nat.le_trans hBw ZV) (fun b hb => by injection hb with hb; subst hb; exact HV.out.leM))
    have Z5 : w.heap.size ≤ w5.heap.size := Nat.le_trans ZV hg5.size
    have LE := Lib.hid (And.intro HV.out.le HV.out.leM)
    have PM := Lib.hid hpm
    clear hrow hqm hpm hmb hown5 hg5 MV m2 x0 x1 HV BV QV ZV
    have m1 : w5.cell? ⟨p, 1, none⟩ = some (.slice A1 st.labels.length c1) := K5.out.cell 1
    have x0 : w5.cell? ⟨q, 0, none⟩ = some (.string s) := Q5.out.cell 0
    have x1 : w5.cell? ⟨q, 1, none⟩ = some (.int .i64 st.words.length) := Q5.out.cell 1
    have g1 : w5.frozen? ⟨p, 1, none⟩ = false := K5.out.free 1
    have LA := Lib.hid (show (w5.alloc (.cells #[.string s, .int .i64 st.words.length] 66)).drew.ownsRow B 66 2 (.slice A1 st.labels.length c1) st.labels.length (st.labels.flatMap labCells) from World.ownsRow.alloc L5.out (.cells #[.string s, .int .i64 st.words.length] 66))
    have KA := Lib.hid (show Whole (w5.alloc (.cells #[.string s, .int .i64 st.words.length] 66)).drew p asmT #[.slice A0 st.words.length c0, .slice A1 st.labels.length c1, .map (some mb), v3] from K5.out.alloc (.cells #[.string s, .int .i64 st.words.length] 66))
    have OA := Lib.hid (show (w5.alloc (.cells #[.string s, .int .i64 st.words.length] 66)).drew.ownsRow B 45 1 (.slice A0 st.words.length c0) st.words.length (st.words.map (Value.int .u32)) from World.ownsRow.alloc O5.out (.cells #[.string s, .int .i64 st.words.length] 66))
    have NA := Lib.hid (show (w5.alloc (.cells #[.string s, .int .i64 st.words.length] 66)).drew.ownsRow B 95 8 v3 st.opens.length (st.opens.flatMap Opn.cells) from World.ownsRow.alloc N5.out (.cells #[.string s, .int .i64 st.words.length] 66))
    have SA := Lib.hid (show Whole (w5.alloc (.cells #[.string s, .int .i64 st.words.length] 66)).drew LinesAt.lf 9 LinesAt.lcs from S5.out.alloc (.cells #[.string s, .int .i64 st.words.length] 66))
    have MA := Lib.hid (M5.out.alloc (.cells #[.string s, .int .i64 st.words.length] 66)).drew
    have BA := Lib.hid (show Below B w (w5.alloc (.cells #[.string s, .int .i64 st.words.length] 66)).drew from (B5.out.alloc (Nat.le_trans hBw Z5) (.cells #[.string s, .int .i64 st.words.length] 66)).drew)
    have NC := Lib.hid (show ∀ (j : Nat) u, ([.string s, .int .i64 st.words.length] : List Value)[j]? = some u → (w5.alloc (.cells #[.string s, .int .i64 st.words.length] 66)).drew.cell? ((⟨w5.heap.size, 0, none⟩ : Addr).add j) = some u from fun j u hj => by
      rw [Go.WideShapes.add_plain, Nat.zero_add]
      exact ((Whole.made w5 66 #[.string s, .int .i64 st.words.length] _ rfl).cell j).trans (by simpa using hj))
    have ZA : w5.heap.size + 1 ≤ (w5.alloc (.cells #[.string s, .int .i64 st.words.length] 66)).drew.heap.size := by simp
    obtain ⟨es, clock, hmb, _⟩ := MA.out
    have HMA := Lib.hid hmb
    clear hmb
    have a1 : (w5.alloc (.cells #[.string s, .int .i64 st.words.length] 66)).drew.cell? ⟨p, 1, none⟩ = some (.slice A1 st.labels.length c1) := KA.out.cell 1
    clear L5 O5 N5 M5 B5 S5
    go_wp2_with fail
    go_region_law (refine step_append_rows rfl (.tmp 43) (.tmp 45) 24 rfl B 66 i0 _ 2 24 Tryd.underlying24 hi hz0 hz1 hz2 rfl (by decide) (.slice A1 st.labels.length c1) st.labels.length _ rfl LA.out ⟨w5.heap.size, 0, none⟩ 1 1 [.string s, .int .i64 st.words.length] rfl rfl NC.out (fun u hu => by simp at hu; rcases hu with rfl | rfl <;> rfl) (by unfold maxLen; omega) (by omega) (by simp; omega) ?_; intro v6 w6 ho6 hg6; have hform : ∃ A6 c6, v6 = .slice A6 (st.labels.length + 1) c6 := (by rcases ho6.2 with ⟨_, h2⟩ | ⟨g, cap, cur, h1, _⟩; exact absurd h2 (by omega); exact ⟨_, _, h1⟩); obtain ⟨A6, c6, rfl⟩ := hform; have NP := ownsRow_ne LA.out KA.out (fun _ _ h => asm_lab (by injection h)); have NMB := ownsRow_ne LA.out HMA.out (fun _ _ h => by cases h); have K6 := Lib.hid ((hg6.block p KA.out.lt (fun e => NP e.symm)).trans KA.out); have M6 := Lib.hid (MA.out.kept hg6 (fun e => NMB e.symm)); have O6 := Lib.hid (World.ownsRow.kept OA.out hg6 (ownsRow_apart OA.out LA.out u32_lab)); have N6 := Lib.hid (World.ownsRow.kept NA.out hg6 (ownsRow_apart NA.out LA.out lab_nam.symm)); have B6 := Lib.hid (BA.out.grown hg6 (by simp; omega) (fun b hb => (World.ownsRow.lt LA.out b hb).1)); have S6 := Lib.hid (lines_grown SA.out hg6 (ownsRow_ne LA.out SA.out (fun _ _ h => str_lab (by injection h)))); have L6 := Lib.hid ho6; have Z6 := hg6.size; have m6 : w6.cell? ⟨p, 1, none⟩ = some (.slice A1 st.labels.length c1) := Whole.cell K6.out 1; have g6 : w6.frozen? ⟨p, 1, none⟩ = false := Whole.free K6.out 1; clear ho6 hg6 NP NMB)
    all_goals
      go_wp2_with fail
      go_ret
      have K6' : Whole w6 p asmT #[.slice A0 st.words.length c0, .slice A1 st.labels.length c1, .map (some mb), v3] := K6.out
      have hgs : w6.grownBy (w6.setCell ⟨p, 1, none⟩ (.slice A6 (st.labels.length + 1) c6)) (some p) := ⟨rfl, rfl, rfl, by simp [World.setCell], fun j _ hj => Below.heap_setCell w6 ⟨p, 1, none⟩ _ j (fun e => hj (by rw [e]))⟩
      refine ⟨.slice A0 st.words.length c0, .slice A6 (st.labels.length + 1) c6, v3, mb, rfl, ⟨LE.out.1, K6'.store 1 _, World.ownsRow.kept O6.out hgs (.inr (ownsRow_ne O6.out K6' (fun _ _ h => asm_u32 (by injection h)))), ?_, LE.out.2, ?_, World.ownsRow.kept N6.out hgs (.inr (ownsRow_ne N6.out K6' (fun _ _ h => asm_nam (by injection h)))), lines_grown S6.out hgs (fun e => whole_apart K6' S6.out str_lbl (by injection e))⟩, B6.out.setCell (p := ⟨p, 1, none⟩) LE.out.1 _, by simp [World.setCell] at Z6 ⊢; omega⟩
      · rw [List.length_append, List.flatMap_append]
        exact World.ownsRow.kept L6.out hgs (.inr (ownsRow_ne L6.out K6' (fun _ _ h => asm_lab (by injection h))))
      · rw [List.length_append]
        exact M6.out.kept hgs (fun e => PM.out (by injection e with e; exact e.symm))
  · have BV1 := W0.out.trans (hb1.mono W0.out.size)
    have BV0 := (BV1.setCell (p := ⟨w.heap.size, 0, none⟩) (Nat.le_refl _) (.string s)).setCell (p := ⟨w.heap.size, 1, none⟩) (Nat.le_refl _) (.int .i64 st.words.length)
    have QV := Lib.hid (show Whole ((y1.setCell ⟨w.heap.size, 0, none⟩ (.string s)).setCell ⟨w.heap.size, 1, none⟩ (.int .i64 st.words.length)) w.heap.size 66 #[.string s, .int .i64 st.words.length] from (Q2.out.store 0 _).store 1 _)
    have HV := Lib.hid (H.out.below BV0)
    have BV := Lib.hid (BV0.mono hBw)
    have ZV := BV0.size
    obtain ⟨q, hqe⟩ : ∃ q, q = w.heap.size := ⟨_, rfl⟩
    have hq : w.heap.size ≤ q := Nat.le_of_eq hqe.symm
    rename_i hH
    clear hH BV0 BV1 L5 L2 hb1 L1 L0 Q0 Q2 z0 z1 f0 f1 LS H W0
    generalize hVV : (y1.setCell ⟨w.heap.size, 0, none⟩ (.string s)).setCell ⟨w.heap.size, 1, none⟩ (.int .i64 st.words.length) = V at *
    clear hVV
    rw [← hqe] at QV ⊢
    clear hqe
    have m2 : V.cell? ⟨p, 2, none⟩ = some (.map (some mb)) := HV.out.blk.cell 2
    have x0 : V.cell? ⟨q, 0, none⟩ = some (.string s) := QV.out.cell 0
    have x1 : V.cell? ⟨q, 1, none⟩ = some (.int .i64 st.words.length) := QV.out.cell 1
    have MV := Lib.hid HV.out.map.drew
    go_wp2_with fail
    go_still_tail 8, (by kernel_rfl)
    refine wpList_mapUpdate_own _ rfl _ _ _ 47 rfl 9 3 map_law Tryd.underlying47 (plainElem Tryd.prog 3) mb st.labels.length _ rfl MV.out (by unfold maxLen; omega) _ _ _ rfl rfl hkey.out _ [] (plainElem_int Tryd.underlying3 hwf.out) ?_
    intro w5 hown5 hg5
    obtain ⟨es, clock, hmb⟩ := HV.out.mblk
    have hpm := HV.out.apart
    have hqm : q ≠ mb := by
      intro e
      have h1 := QV.out
      unfold Whole at h1
      rw [e, hmb] at h1
      cases h1
    have hrow : ∀ (e : TypeId) (sz : Nat) (v : Value) (n : Nat) (xs : List Value), V.ownsRow B e sz v n xs → w5.ownsRow B e sz v n xs := fun e sz v n xs h => World.ownsRow.kept (show V.drew.ownsRow B e sz v n xs from h) hg5 (.inr (ownsRow_ne h hmb (fun _ _ h => by cases h)))
    have K5 := Lib.hid (show Whole w5 p asmT #[.slice A0 st.words.length c0, .slice A1 st.labels.length c1, .map (some mb), v3] from (hg5.block p HV.out.lt (fun e => hpm (by injection e))).trans HV.out.blk)
    have Q5 := Lib.hid (show Whole w5 q 66 #[.string s, .int .i64 st.words.length] from (hg5.block q QV.out.lt (fun e => hqm (by injection e))).trans QV.out)
    have O5 := Lib.hid (hrow _ _ _ _ _ HV.out.words)
    have L5 := Lib.hid (hrow _ _ _ _ _ HV.out.labels)
    have N5 := Lib.hid (hrow _ _ _ _ _ HV.out.opens)
    have S5 := Lib.hid (lines_grown (show Whole V.drew LinesAt.lf 9 LinesAt.lcs from HV.out.lines) hg5 (fun e => whole_map HV.out.lines hmb (by injection e with e; exact e.symm)))
    have M5 := Lib.hid (show w5.ownsMap Tryd.prog 9 (plainElem Tryd.prog 3) mb (st.labels.length + 1) (lmap (st.labels ++ [(s, st.words.length)])) by rw [lmap_snoc]; exact hown5)
    have B5 := Lib.hid (BV.out.drew.grown hg5 (Nat.le_trans hBw ZV) (fun b hb => by injection hb with hb; subst hb; exact HV.out.leM))
    have Z5 : w.heap.size ≤ w5.heap.size := Nat.le_trans ZV hg5.size
    have LE := Lib.hid (And.intro HV.out.le HV.out.leM)
    have PM := Lib.hid hpm
    clear hrow hqm hpm hmb hown5 hg5 MV m2 x0 x1 HV BV QV ZV
    have m1 : w5.cell? ⟨p, 1, none⟩ = some (.slice A1 st.labels.length c1) := K5.out.cell 1
    have x0 : w5.cell? ⟨q, 0, none⟩ = some (.string s) := Q5.out.cell 0
    have x1 : w5.cell? ⟨q, 1, none⟩ = some (.int .i64 st.words.length) := Q5.out.cell 1
    have g1 : w5.frozen? ⟨p, 1, none⟩ = false := K5.out.free 1
    have LA := Lib.hid (show (w5.alloc (.cells #[.string s, .int .i64 st.words.length] 66)).drew.ownsRow B 66 2 (.slice A1 st.labels.length c1) st.labels.length (st.labels.flatMap labCells) from World.ownsRow.alloc L5.out (.cells #[.string s, .int .i64 st.words.length] 66))
    have KA := Lib.hid (show Whole (w5.alloc (.cells #[.string s, .int .i64 st.words.length] 66)).drew p asmT #[.slice A0 st.words.length c0, .slice A1 st.labels.length c1, .map (some mb), v3] from K5.out.alloc (.cells #[.string s, .int .i64 st.words.length] 66))
    have OA := Lib.hid (show (w5.alloc (.cells #[.string s, .int .i64 st.words.length] 66)).drew.ownsRow B 45 1 (.slice A0 st.words.length c0) st.words.length (st.words.map (Value.int .u32)) from World.ownsRow.alloc O5.out (.cells #[.string s, .int .i64 st.words.length] 66))
    have NA := Lib.hid (show (w5.alloc (.cells #[.string s, .int .i64 st.words.length] 66)).drew.ownsRow B 95 8 v3 st.opens.length (st.opens.flatMap Opn.cells) from World.ownsRow.alloc N5.out (.cells #[.string s, .int .i64 st.words.length] 66))
    have SA := Lib.hid (show Whole (w5.alloc (.cells #[.string s, .int .i64 st.words.length] 66)).drew LinesAt.lf 9 LinesAt.lcs from S5.out.alloc (.cells #[.string s, .int .i64 st.words.length] 66))
    have MA := Lib.hid (M5.out.alloc (.cells #[.string s, .int .i64 st.words.length] 66)).drew
    have BA := Lib.hid (show Below B w (w5.alloc (.cells #[.string s, .int .i64 st.words.length] 66)).drew from (B5.out.alloc (Nat.le_trans hBw Z5) (.cells #[.string s, .int .i64 st.words.length] 66)).drew)
    have NC := Lib.hid (show ∀ (j : Nat) u, ([.string s, .int .i64 st.words.length] : List Value)[j]? = some u → (w5.alloc (.cells #[.string s, .int .i64 st.words.length] 66)).drew.cell? ((⟨w5.heap.size, 0, none⟩ : Addr).add j) = some u from fun j u hj => by
      rw [Go.WideShapes.add_plain, Nat.zero_add]
      exact ((Whole.made w5 66 #[.string s, .int .i64 st.words.length] _ rfl).cell j).trans (by simpa using hj))
    have ZA : w5.heap.size + 1 ≤ (w5.alloc (.cells #[.string s, .int .i64 st.words.length] 66)).drew.heap.size := by simp
    obtain ⟨es, clock, hmb, _⟩ := MA.out
    have HMA := Lib.hid hmb
    clear hmb
    have a1 : (w5.alloc (.cells #[.string s, .int .i64 st.words.length] 66)).drew.cell? ⟨p, 1, none⟩ = some (.slice A1 st.labels.length c1) := KA.out.cell 1
    clear L5 O5 N5 M5 B5 S5
    go_wp2_with fail
    go_region_law (refine step_append_rows rfl (.tmp 43) (.tmp 45) 24 rfl B 66 i0 _ 2 24 Tryd.underlying24 hi hz0 hz1 hz2 rfl (by decide) (.slice A1 st.labels.length c1) st.labels.length _ rfl LA.out ⟨w5.heap.size, 0, none⟩ 1 1 [.string s, .int .i64 st.words.length] rfl rfl NC.out (fun u hu => by simp at hu; rcases hu with rfl | rfl <;> rfl) (by unfold maxLen; omega) (by omega) (by simp; omega) ?_; intro v6 w6 ho6 hg6; have hform : ∃ A6 c6, v6 = .slice A6 (st.labels.length + 1) c6 := (by rcases ho6.2 with ⟨_, h2⟩ | ⟨g, cap, cur, h1, _⟩; exact absurd h2 (by omega); exact ⟨_, _, h1⟩); obtain ⟨A6, c6, rfl⟩ := hform; have NP := ownsRow_ne LA.out KA.out (fun _ _ h => asm_lab (by injection h)); have NMB := ownsRow_ne LA.out HMA.out (fun _ _ h => by cases h); have K6 := Lib.hid ((hg6.block p KA.out.lt (fun e => NP e.symm)).trans KA.out); have M6 := Lib.hid (MA.out.kept hg6 (fun e => NMB e.symm)); have O6 := Lib.hid (World.ownsRow.kept OA.out hg6 (ownsRow_apart OA.out LA.out u32_lab)); have N6 := Lib.hid (World.ownsRow.kept NA.out hg6 (ownsRow_apart NA.out LA.out lab_nam.symm)); have B6 := Lib.hid (BA.out.grown hg6 (by simp; omega) (fun b hb => (World.ownsRow.lt LA.out b hb).1)); have S6 := Lib.hid (lines_grown SA.out hg6 (ownsRow_ne LA.out SA.out (fun _ _ h => str_lab (by injection h)))); have L6 := Lib.hid ho6; have Z6 := hg6.size; have m6 : w6.cell? ⟨p, 1, none⟩ = some (.slice A1 st.labels.length c1) := Whole.cell K6.out 1; have g6 : w6.frozen? ⟨p, 1, none⟩ = false := Whole.free K6.out 1; clear ho6 hg6 NP NMB)
    all_goals
      go_wp2_with fail
      go_ret
      have K6' : Whole w6 p asmT #[.slice A0 st.words.length c0, .slice A1 st.labels.length c1, .map (some mb), v3] := K6.out
      have hgs : w6.grownBy (w6.setCell ⟨p, 1, none⟩ (.slice A6 (st.labels.length + 1) c6)) (some p) := ⟨rfl, rfl, rfl, by simp [World.setCell], fun j _ hj => Below.heap_setCell w6 ⟨p, 1, none⟩ _ j (fun e => hj (by rw [e]))⟩
      refine ⟨.slice A0 st.words.length c0, .slice A6 (st.labels.length + 1) c6, v3, mb, rfl, ⟨LE.out.1, K6'.store 1 _, World.ownsRow.kept O6.out hgs (.inr (ownsRow_ne O6.out K6' (fun _ _ h => asm_u32 (by injection h)))), ?_, LE.out.2, ?_, World.ownsRow.kept N6.out hgs (.inr (ownsRow_ne N6.out K6' (fun _ _ h => asm_nam (by injection h)))), lines_grown S6.out hgs (fun e => whole_apart K6' S6.out str_lbl (by injection e))⟩, B6.out.setCell (p := ⟨p, 1, none⟩) LE.out.1 _, by simp [World.setCell] at Z6 ⊢; omega⟩
      · rw [List.length_append, List.flatMap_append]
        exact World.ownsRow.kept L6.out hgs (.inr (ownsRow_ne L6.out K6' (fun _ _ h => asm_lab (by injection h))))
      · rw [List.length_append]
        exact M6.out.kept hgs (fun e => PM.out (by injection e with e; exact e.symm))

theorem mark_any (s : ByteArray) (B p : Nat) (st : AsmS) (v0 v1 v3 : Value) (mb : Nat) (w : World) (h : AsmAt w B p st v0 v1 v3 mb) (hm : s.size ≤ 1000000) (hBw : B ≤ w.heap.size) (hws : st.words.length ≤ 1000000) (hls : st.labels.length ≤ 1000000) :
    Calls Tryd.prog 40 #[.pointer (some ⟨p, 0, none⟩), .string s] w (AsmPost w B p (markS s st).2 (markS s st).1) := by
  unfold markS
  cases hn : nameB s with
  | false => exact mark_no s B p st v0 v1 v3 mb w h hm hn
  | true =>
    cases hh : hasL st.labels s with
    | true => exact mark_twice s B p st v0 v1 v3 mb w h hm hn hh
    | false => exact mark_new s B p st v0 v1 v3 mb w h hm hn hh hBw hws hls
end Go.Proofs.YtnmpamfgkidmiaaDoor
