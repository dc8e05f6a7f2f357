/- AsmA AsmB WordI LisA LisB LisE AsmC AsmD AsmE AsmE0 AsmE1 AsmE2 AsmF AsmG LisG AsmH AsmI AsmJ AsmK AsmL AsmM in one. -/
import Derived.Test.YtnmpamfgkidmiaaDoorLift
import Derived.Test.YtnmpamfgkidmiaaDoorShelf
import Derived.Test.YtnmpamfgkidmiaaDoorTextPlain
import Derived.Test.YtnmpamfgkidmiaaDoorInstrB
import Derived.Lib.Hide
import Derived.WalkKit
import Derived.BigCall
import Derived.Test.YtnmpamfgkidmiaaDoorBlocks
import Derived.Test.YtnmpamfgkidmiaaDoorSlices
import Derived.Test.YtnmpamfgkidmiaaDoorWordE
import Derived.Maps.OwnSet
import Derived.Maps.Views
import Derived.Test.YtnmpamfgkidmiaaDoorWordG
import Derived.Test.YtnmpamfgkidmiaaDoorInstrQS
import Derived.Test.YtnmpamfgkidmiaaDoorInstrJJ
import Derived.Test.YtnmpamfgkidmiaaDoorWordB
import Derived.StillTailTactics
import Derived.Deep.RegionLaw
import Derived.Deep.RegionHeld3
import Derived.Deep.QuietTactic
import Derived.BigQuiet
import Derived.Deep.RegionLawGrows
import Derived.Test.YtnmpamfgkidmiaaDoorInstrW
import Derived.Test.YtnmpamfgkidmiaaDoorInstrE
import Derived.Test.YtnmpamfgkidmiaaDoorInstrN

/- Asm: which names may be: isDigit, isLetter, takesName, Name. -/
namespace Go.Proofs.YtnmpamfgkidmiaaDoor
open Go.ChangeShapes Go.WideShapes Go.ChangeAt Go.RowKit
set_option linter.unusedVariables false
set_option linter.unusedSimpArgs false

def digI (c : Int) : Bool := decide (48 ≤ c) && decide (c ≤ 57)

def letI' (c : Int) : Bool := decide (97 ≤ c) && decide (c ≤ 122)

set_option maxHeartbeats 1000000 in
theorem isdigit_any (c : Int) (w : World) : Calls Tryd.prog 26 #[.int .u8 c] w fun e w' => e = .returned (.bool (digI c)) ∧ w = w' := by
  have HD := Lib.hid (show digI c = (decide (48 ≤ c) && decide (c ≤ 57)) from rfl)
  by_cases h : 48 ≤ c
  · have d : decide (48 ≤ c) = true := decide_eq_true h
    go_enter Tryd.func26, Tryd.ntmps26
    go_wp2
    go_ret
    exact ⟨by rw [HD.out, d, Bool.true_and]; rfl, rfl⟩
  · have d : decide (48 ≤ c) = false := decide_eq_false h
    go_enter Tryd.func26, Tryd.ntmps26
    go_wp2
    go_ret
    exact ⟨by rw [HD.out, d, Bool.false_and]; rfl, rfl⟩

set_option maxHeartbeats 1000000 in
theorem isletter_any (c : Int) (w : World) : Calls Tryd.prog 27 #[.int .u8 c] w fun e w' => e = .returned (.bool (letI' c)) ∧ w = w' := by
  have HD := Lib.hid (show letI' c = (decide (97 ≤ c) && decide (c ≤ 122)) from rfl)
  by_cases h : 97 ≤ c
  · have d : decide (97 ≤ c) = true := decide_eq_true h
    go_enter Tryd.func27, Tryd.ntmps27
    go_wp2
    go_ret
    exact ⟨by rw [HD.out, d, Bool.true_and]; rfl, rfl⟩
  · have d : decide (97 ≤ c) = false := decide_eq_false h
    go_enter Tryd.func27, Tryd.ntmps27
    go_wp2
    go_ret
    exact ⟨by rw [HD.out, d, Bool.false_and]; rfl, rfl⟩

/-- May the last field of an operation be a name? -/
def takesB (op : Int) : Bool := decide (20 ≤ op) && decide (op ≤ 23)

set_option maxHeartbeats 2000000 in
set_option maxRecDepth 100000 in
theorem takesN_any (op : Int) (w : World) : Calls Tryd.prog 72 #[.int .i64 op] w fun e w' => e = .returned (.bool (takesB op)) ∧ w = w' := by
  by_cases h : 20 ≤ op ∧ op ≤ 23
  · have ht : takesB op = true := by unfold takesB; simp [h.1, h.2]
    rw [ht]
    clear ht
    rcases (show op = 20 ∨ op = 21 ∨ op = 22 ∨ op = 23 by omega) with rfl | rfl | rfl | rfl
    all_goals
      clear h
      go_enter Tryd.func72, Tryd.ntmps72
      go_wp2
      go_ret
      exact ⟨rfl, rfl⟩
  · have ht : takesB op = false := by
      unfold takesB
      rw [Bool.and_eq_false_iff, decide_eq_false_iff_not, decide_eq_false_iff_not]
      omega
    rw [ht]
    have e0 : (op == 20) = false := by simp; omega
    have e1 : (op == 21) = false := by simp; omega
    have e2 : (op == 22) = false := by simp; omega
    have e3 : (op == 23) = false := by simp; omega
    clear h ht
    go_enter Tryd.func72, Tryd.ntmps72
    go_wp2
    go_ret
    exact ⟨rfl, rfl⟩

/-- May this byte stand in a name? -/
def okI (c : Int) : Bool := (c == 95) || letI' c || digI c

/-- May it be a name? -/
def nameB (s : ByteArray) : Bool := decide (1 ≤ s.size) && decide (s.size ≤ 32) && !digI ((s.get! 0).toNat : Int) && (List.range s.size).all (fun i => okI ((s.get! i).toNat : Int))

theorem get_bang {s : ByteArray} {k : Nat} (h : k < s.size) : s.get! k = s[k] := by
  simp [ByteArray.get!, getElem!_pos, h]
  rfl

theorem nameB_yes {s : ByteArray} (h1 : 1 ≤ s.size) (h2 : s.size ≤ 32) (h3 : digI ((s.get! 0).toNat : Int) = false) (h4 : ∀ i, i < s.size → okI ((s.get! i).toNat : Int) = true) : nameB s = true := by
  unfold nameB
  rw [decide_eq_true h1, decide_eq_true h2, h3, List.all_eq_true.2 (fun i hi => h4 i (List.mem_range.1 hi))]
  rfl

theorem nameB_no {s : ByteArray} {i : Nat} (h : i < s.size) (h4 : okI ((s.get! i).toNat : Int) = false) : nameB s = false := by
  unfold nameB
  rw [Bool.and_eq_false_iff]
  right
  cases hb : (List.range s.size).all (fun i => okI ((s.get! i).toNat : Int)) with
  | false => rfl
  | true =>
    have := List.all_eq_true.1 hb i (List.mem_range.2 h)
    rw [h4] at this
    cases this

set_option maxHeartbeats 4000000 in
set_option maxRecDepth 100000 in
theorem name05_any (s : ByteArray) (w : World) (hm : s.size ≤ 1000000) : Calls Tryd.prog 13 #[.string s] w fun e w' => e = .returned (.bool (nameB s)) ∧ w = w' := by
  by_cases h1 : 1 ≤ s.size
  case neg =>
    have h0 : s = ⟨#[]⟩ := by
      cases s with
      | mk d => congr; exact Array.eq_empty_of_size_eq_zero (by simp [ByteArray.size] at h1; simp [h1])
    subst h0
    have hn : nameB ⟨#[]⟩ = false := rfl
    rw [hn]
    go_enter Tryd.func13, Tryd.ntmps13
    go_wp2
    go_ret
    exact ⟨rfl, rfl⟩
  have hne : s.toList.isEmpty = false := by
    rw [Lib.toList_data]
    cases hl : s.data.toList with
    | nil =>
      have : s.size = 0 := by
        have h := congrArg List.length hl
        rw [Array.length_toList] at h
        exact h
      omega
    | cons a l => rfl
  by_cases h2 : s.size ≤ 32
  case neg =>
    have hn : nameB s = false := by
      unfold nameB
      rw [decide_eq_false h2]
      simp
    rw [hn]
    have d2 : decide ((32 : Int) < s.size) = true := decide_eq_true (by omega)
    clear hn h1
    go_enter Tryd.func13, Tryd.ntmps13
    go_wp2
    go_ret
    exact ⟨rfl, rfl⟩
  have d2 : decide ((32 : Int) < s.size) = false := decide_eq_false (by omega)
  have g0 := Lib.hid (get_bang (s := s) (k := 0) (by omega))
  have DG := Lib.hid (fun w => isdigit_any (s[0].toNat : Int) w)
  have IL := Lib.hid (fun c w => isletter_any c w)
  have ID := Lib.hid (fun c w => isdigit_any c w)
  have NY := Lib.hid (@nameB_yes s h1 h2)
  have NN := Lib.hid (fun i => @nameB_no s i)
  have GB := Lib.hid (fun k => @get_bang s k)
  have hI0 : (0 : Int) < s.size := by omega
  cases h3 : digI (s[0].toNat : Int) with
  | true =>
    have hn : nameB s = false := by
      unfold nameB
      rw [g0.out, h3]
      simp
    rw [hn]
    rw [h3] at DG
    clear hn h3 g0
    go_enter Tryd.func13, Tryd.ntmps13
    go_wp2_with fail
    refine (DG.out _).mono ?_
    rintro e w1 ⟨rfl, rfl⟩
    go_wp2_with fail
    go_ret
    exact ⟨rfl, rfl⟩
  | false =>
    have H3 := Lib.hid (show digI ((s.get! 0).toNat : Int) = false by rw [g0.out]; exact h3)
    rw [h3] at DG
    clear h3 g0
    generalize hnm : nameB s = r at *
    clear hnm
    go_enter Tryd.func13, Tryd.ntmps13
    go_wp2_with fail
    refine (DG.out _).mono ?_
    rintro e w1 ⟨rfl, rfl⟩
    go_wp2_with fail
    go_loop [19] (fun i => ∃ k : Nat, k ≤ s.size ∧ i = .int .i64 k ∧ ∀ j, j < k → okI ((s.get! j).toNat : Int) = true) (fun i => s.size - (intOf i).toNat)
    case atStart => exact ⟨0, Nat.zero_le _, rfl, fun j h => absurd h (Nat.not_lt_zero _)⟩
    case round =>
      obtain ⟨k, hk, rfl, hA⟩ := hrel
      have HA := Lib.hid hA
      clear hA
      by_cases hlt : k < s.size
      · have hI : (k : Int) < s.size := by omega
        have E := Lib.hid (GB.out k hlt)
        have OK := Lib.hid (show okI (s[k].toNat : Int) = (((s[k].toNat : Int) == 95) || letI' (s[k].toNat : Int) || digI (s[k].toNat : Int)) from rfl)
        have SA := Lib.hid (fun (h : okI (s[k].toNat : Int) = true) j (hj : j < k + 1) => (Nat.lt_or_ge j k).elim (HA.out j) (fun h' => by rw [show j = k by omega, E.out]; exact h))
        have IL' := Lib.hid (IL.out (s[k].toNat : Int))
        have ID' := Lib.hid (ID.out (s[k].toNat : Int))
        cases h95 : ((s[k].toNat : Int) == 95) with
        | true =>
          have S2 := Lib.hid (SA.out (by rw [OK.out, h95]; rfl))
          have h95' : ((s[k].toNat : Int) != 95) = false := by rw [bne, h95]; rfl
          clear SA OK E
          go_wp2_with fail
          go_round
          case rel => exact ⟨k + 1, by omega, by go_num, S2.out⟩
          case measure => simp [intOf]; omega
        | false =>
          have h95' : ((s[k].toNat : Int) != 95) = true := by rw [bne, h95]; rfl
          cases hL : letI' (s[k].toNat : Int) with
          | true =>
            have S2 := Lib.hid (SA.out (by rw [OK.out, h95, hL]; rfl))
            rw [hL] at IL'
            clear SA OK E hL
            go_wp2_with fail
            refine (IL'.out _).mono ?_
            rintro e w2 ⟨rfl, rfl⟩
            go_wp2_with fail
            go_round
            case rel => exact ⟨k + 1, by omega, by go_num, S2.out⟩
            case measure => simp [intOf]; omega
          | false =>
            rw [hL] at IL'
            cases hD : digI (s[k].toNat : Int) with
            | true =>
              have S2 := Lib.hid (SA.out (by rw [OK.out, h95, hL, hD]; rfl))
              rw [hD] at ID'
              clear SA OK E hL hD
              go_wp2_with fail
              refine (IL'.out _).mono ?_
              rintro e w2 ⟨rfl, rfl⟩
              go_wp2_with fail
              refine (ID'.out _).mono ?_
              rintro e w2 ⟨rfl, rfl⟩
              go_wp2_with fail
              go_round
              case rel => exact ⟨k + 1, by omega, by go_num, S2.out⟩
              case measure => simp [intOf]; omega
            | false =>
              have R := Lib.hid (NN.out k hlt (by rw [E.out, OK.out, h95, hL, hD]; rfl))
              rw [hD] at ID'
              clear SA OK E hL hD
              go_wp2_with fail
              refine (IL'.out _).mono ?_
              rintro e w2 ⟨rfl, rfl⟩
              go_wp2_with fail
              refine (ID'.out _).mono ?_
              rintro e w2 ⟨rfl, rfl⟩
              go_wp2_with fail
              go_ret
              exact ⟨by rw [R.out]; rfl, rfl⟩
      · have hI : ¬ (k : Int) < s.size := by omega
        have R := Lib.hid (NY.out H3.out (fun j hj => HA.out j (by omega)))
        go_wp2_with fail
        go_ret
        exact ⟨by rw [R.out]; rfl, rfl⟩
end Go.Proofs.YtnmpamfgkidmiaaDoor

/- Asm: the assembler in memory; add, raw. -/
namespace Go.Proofs.YtnmpamfgkidmiaaDoor
open Go.ChangeShapes Go.WideShapes Go.ChangeAt Go.RowKit
set_option linter.unusedVariables false
set_option linter.unusedSimpArgs false

/-- An instruction that names a label. -/
structure Opn where
  op : Int
  a : Int
  b : Int
  c : Int
  n : Int
  label : ByteArray
  at_ : Nat
  line : Nat

def Opn.cells (o : Opn) : List Value := [.int .i64 o.op, .int .i64 o.a, .int .i64 o.b, .int .i64 o.c, .int .i64 o.n, .string o.label, .int .i64 o.at_, .int .i64 o.line]

abbrev Lab := ByteArray × Nat

def labCells (l : Lab) : List Value := [.string l.1, .int .i64 l.2]

/-- What the lines so far come to. -/
structure AsmS where
  words : List Int
  labels : List Lab
  opens : List Opn

/-- The labels' words, as a map's datum. -/
def lmap (l : List Lab) : DataW Unit := l.foldl (fun D x => D.put (.string x.1.data.toList) (.lit (.int .i64 x.2))) (.map [])

abbrev asmT : TypeId := 50

/-- The block of the lines, which no step of the assembler's changes. -/
class LinesAt where
  lf : Nat
  lcs : Array Value

set_option linter.unusedSectionVars false
variable [LinesAt]

/-- The assembler at block p. -/
structure AsmAt (w : World) (B p : Nat) (st : AsmS) (v0 v1 v3 : Value) (mb : Nat) : Prop where
  le : B ≤ p
  blk : Whole w p asmT #[v0, v1, .map (some mb), v3]
  words : Owns .u32 45 w B v0 st.words.length st.words
  labels : w.ownsRow B 66 2 v1 st.labels.length (st.labels.flatMap labCells)
  leM : B ≤ mb
  map : w.ownsMap Tryd.prog 9 (plainElem Tryd.prog 3) mb st.labels.length (lmap st.labels)
  opens : w.ownsRow B 95 8 v3 st.opens.length (st.opens.flatMap Opn.cells)
  lines : Whole w LinesAt.lf 9 LinesAt.lcs

theorem str_u32 : (9 : TypeId) ≠ 45 := by decide
theorem str_lab : (9 : TypeId) ≠ 66 := by decide
theorem str_nam : (9 : TypeId) ≠ 95 := by decide
theorem str_asm : (9 : TypeId) ≠ asmT := by decide
theorem str_lbl : asmT ≠ (9 : TypeId) := by decide

theorem whole_apart {w : World} {f g : Nat} {T U : TypeId} {c d : Array Value} (hf : Whole w f T c) (hg : Whole w g U d) (hn : T ≠ U) : f ≠ g := by
  intro e
  subst e
  unfold Whole at hf hg
  rw [hf] at hg
  exact hn (by injection hg with h1; injection h1)

theorem whole_map {w : World} {f g : Nat} {T : TypeId} {c : Array Value} {es clock} (hf : Whole w f T c) (hg : w.heap[g]? = some (.map es clock)) : f ≠ g := by
  intro e
  subst e
  unfold Whole at hf
  rw [hf] at hg
  cases hg

theorem lines_grown {w w' : World} {b : Option Nat} (h : Whole w LinesAt.lf 9 LinesAt.lcs) (hg : w.grownBy w' b) (hb : b ≠ some LinesAt.lf) : Whole w' LinesAt.lf 9 LinesAt.lcs := (hg.block _ h.lt (fun e => hb e.symm)).trans h

theorem ownsRow_ne {w : World} {B : Nat} {e : TypeId} {sz : Nat} {v : Value} {n : Nat} {xs : List Value} {g : Nat} {o : Obj} (h : w.ownsRow B e sz v n xs) (hb : w.heap[g]? = some o) (ho : ∀ c fz, o ≠ .cells c e fz) : v.ownBlock ≠ some g := by
  rcases h.2 with ⟨rfl, _⟩ | ⟨g', cap, cur, rfl, _, hg, _⟩
  · simp [Value.ownBlock]
  · intro he
    simp only [Value.ownBlock, Option.some.injEq] at he
    subst he
    rw [hg] at hb
    exact ho _ _ (Option.some.inj hb).symm

/-- Two own rows of other element types lie apart. -/
theorem ownsRow_apart {w : World} {B B' : Nat} {e e' : TypeId} {sz sz' : Nat} {v v' : Value} {n n' : Nat} {xs xs' : List Value} (h : w.ownsRow B e sz v n xs) (h' : w.ownsRow B' e' sz' v' n' xs') (hne : e ≠ e') : v.ownBlock = none ∨ v.ownBlock ≠ v'.ownBlock := by
  rcases h.2 with ⟨rfl, _⟩ | ⟨g, cap, cur, rfl, _, hg, _⟩
  · exact .inl rfl
  · right
    rcases h'.2 with ⟨rfl, _⟩ | ⟨g', cap', cur', rfl, _, hg', _⟩
    · simp [Value.ownBlock]
    · intro he
      simp only [Value.ownBlock, Option.some.injEq] at he
      subst he
      rw [hg] at hg'
      exact hne (by injection hg' with h; injection h)

section
variable {w w' : World} {B p : Nat} {st : AsmS} {v0 v1 v3 : Value} {mb : Nat}

theorem AsmAt.lt (h : AsmAt w B p st v0 v1 v3 mb) : p < w.heap.size := h.blk.lt

/-- All of it stands while what lay there stands. -/
theorem AsmAt.below (h : AsmAt w B p st v0 v1 v3 mb) (hb : Below w.heap.size w w') : AsmAt w' B p st v0 v1 v3 mb := by
  have hg : w.grownBy w' none := ⟨hb.os, hb.tape, hb.output, hb.size, fun i hi _ => hb.block i hi⟩
  have hn : ∀ v : Value, v.ownBlock = none ∨ v.ownBlock ≠ none := fun v => Classical.em _
  exact ⟨h.le, h.blk.below hb h.blk.lt, World.ownsRow.kept h.words hg (hn _), World.ownsRow.kept h.labels hg (hn _), h.leM, h.map.kept hg (by simp), World.ownsRow.kept h.opens hg (hn _), h.lines.below hb h.lines.lt⟩

theorem AsmAt.mblk (h : AsmAt w B p st v0 v1 v3 mb) : ∃ es clock, w.heap[mb]? = some (.map es clock) := by
  obtain ⟨es, clock, hb, _⟩ := h.map
  exact ⟨es, clock, hb⟩

theorem AsmAt.apart (h : AsmAt w B p st v0 v1 v3 mb) : p ≠ mb := by
  obtain ⟨es, clock, hb⟩ := h.mblk
  intro e
  have h1 := h.blk
  unfold Whole at h1
  rw [e, hb] at h1
  cases h1
end

theorem asm_u32 : asmT ≠ 45 := by decide
theorem asm_lab : asmT ≠ 66 := by decide
theorem asm_nam : asmT ≠ 95 := by decide
theorem u32_lab : (45 : TypeId) ≠ 66 := by decide
theorem u32_nam : (45 : TypeId) ≠ 95 := by decide
theorem lab_nam : (66 : TypeId) ≠ 95 := by decide

theorem rowU32A : RowOf Tryd.prog 23 45 .u32 4 := rowOf_mk Tryd.underlying23 (by kernel_rfl) (by decide)

/-- What a step of the assembler leaves. -/
def AsmPost (w : World) (B p : Nat) (st : AsmS) (er : Int) (e : Ending) (w' : World) : Prop :=
  ∃ v0 v1 v3 mb, e = .returned (.int .i64 er) ∧ AsmAt w' B p st v0 v1 v3 mb ∧ Below B w w' ∧ w.heap.size ≤ w'.heap.size

set_option maxHeartbeats 4000000 in
set_option maxRecDepth 100000 in
theorem add_full (x : Int) (B p : Nat) (st : AsmS) (v0 v1 v3 : Value) (mb : Nat) (w : World) (h : AsmAt w B p st v0 v1 v3 mb) (hB : B ≤ w.heap.size) (hf : 16384 ≤ st.words.length) (hs : st.words.length ≤ 1000000) :
    Calls Tryd.prog 71 #[.pointer (some ⟨p, 0, none⟩), .int .u32 x] w (AsmPost w B p st 242) := by
  obtain ⟨A, c, rfl, _⟩ := Owns.form h.words
  have c0 : w.cell? ⟨p, 0, none⟩ = some (.slice A st.words.length c) := h.blk.cell 0
  have H := Lib.hid h
  have d : decide ((16384 : Int) ≤ st.words.length) = true := decide_eq_true (by omega)
  clear h
  unfold AsmPost
  go_enter Tryd.func71, Tryd.ntmps71
  go_wp2_with fail
  go_ret
  exact ⟨_, v1, v3, mb, rfl, H.out, Below.refl _ _, Nat.le_refl _⟩

set_option maxHeartbeats 4000000 in
set_option maxRecDepth 100000 in
theorem add_room (x : Int) (B p : Nat) (st : AsmS) (v0 v1 v3 : Value) (mb : Nat) (w : World) (h : AsmAt w B p st v0 v1 v3 mb) (hB : B ≤ w.heap.size) (hf : st.words.length < 16384) :
    Calls Tryd.prog 71 #[.pointer (some ⟨p, 0, none⟩), .int .u32 x] w (AsmPost w B p ⟨st.words ++ [x], st.labels, st.opens⟩ 0) := by
  obtain ⟨A, c, rfl, _⟩ := Owns.form h.words
  have c0 : w.cell? ⟨p, 0, none⟩ = some (.slice A st.words.length c) := h.blk.cell 0
  have d : decide ((16384 : Int) ≤ st.words.length) = false := decide_eq_false (by omega)
  have hle := h.le
  have hlt := h.lt
  have KA := Lib.hid (h.blk.alloc (.cells #[.int .u32 x] 45))
  have OA := Lib.hid (show Owns .u32 45 (w.alloc (.cells #[.int .u32 x] 45)) B (.slice A st.words.length c) st.words.length st.words from World.ownsRow.alloc h.words _)
  have LA := Lib.hid (World.ownsRow.alloc h.labels (.cells #[.int .u32 x] 45))
  have MA := Lib.hid (h.map.alloc (.cells #[.int .u32 x] 45))
  have NA := Lib.hid (World.ownsRow.alloc h.opens (.cells #[.int .u32 x] 45))
  have BA := Lib.hid ((Below.refl B w).alloc hB (.cells #[.int .u32 x] 45))
  have NZ := Lib.hid (owns_built .u32 45 w [x] #[.int .u32 x] rfl 1 rfl (by decide) w.heap.size (Nat.le_refl _) w.heap.size rfl).nums
  have SA := Lib.hid (h.lines.alloc (.cells #[.int .u32 x] 45))
  have leM := h.leM
  have MB := Lib.hid h.apart
  have mlt := h.map.lt
  obtain ⟨es, clock, hmb⟩ := h.mblk
  have HM := Lib.hid (show (w.alloc (.cells #[.int .u32 x] 45)).heap[mb]? = some (.map es clock) from (Below.heap_alloc w _ mb mlt).trans hmb)
  clear h hmb
  unfold AsmPost
  go_enter Tryd.func71, Tryd.ntmps71
  go_wp2_with (at_builtin; refine wpList_append_nums _ rfl _ _ rfl rowU32A B (.slice A st.words.length c) st.words.length st.words rfl OA.out (some ⟨w.heap.size, 0, none⟩) 1 1 [x] rfl NZ.out (by omega) (by simp; omega) ?_; intro v2 w2 ho2 hg2 _; obtain ⟨A2, c2, rfl, _⟩ := ho2.form; have NE := ownsRow_ne OA.out KA.out (fun _ _ h => asm_u32 (by injection h)); have K2 := Lib.hid ((hg2.block p (by simp; omega) (fun e => NE e.symm)).trans KA.out); have NM := ownsRow_ne OA.out HM.out (fun _ _ h => by cases h); have M2 := Lib.hid (MA.out.kept hg2 (fun e => NM e.symm)); have L2 := Lib.hid (World.ownsRow.kept LA.out hg2 (ownsRow_apart LA.out OA.out u32_lab.symm)); have N2 := Lib.hid (World.ownsRow.kept NA.out hg2 (ownsRow_apart NA.out OA.out u32_nam.symm)); have B2 := Lib.hid (BA.out.grown hg2 (by simp; omega) (fun b hb => (World.ownsRow.lt OA.out b hb).1)); have S2 := Lib.hid (lines_grown SA.out hg2 (ownsRow_ne OA.out SA.out (fun _ _ h => str_u32 (by injection h)))); have O2 := Lib.hid ho2; have Z2 := hg2.size; have c3 : w2.cell? ⟨p, 0, none⟩ = some (.slice A st.words.length c) := Whole.cell K2.out 0; have f3 : w2.frozen? ⟨p, 0, none⟩ = false := Whole.free K2.out 0; clear ho2 hg2 NE NM c0)
  have Z3 : w.heap.size + 1 ≤ w2.heap.size := by simpa using Z2
  go_ret
  refine ⟨.slice A2 (st.words.length + 1) c2, v1, v3, mb, rfl, ?_, B2.out.setCell (p := ⟨p, 0, none⟩) hle _, by simp [World.setCell]; omega⟩
  have K3 : Whole w2 p asmT #[.slice A st.words.length c, v1, .map (some mb), v3] := K2.out
  have hgs : w2.grownBy (w2.setCell ⟨p, 0, none⟩ (.slice A2 (st.words.length + 1) c2)) (some p) := ⟨rfl, rfl, rfl, by simp [World.setCell], fun j _ hj => Below.heap_setCell w2 ⟨p, 0, none⟩ _ j (fun e => hj (by rw [e]))⟩
  refine ⟨hle, K3.store 0 _, ?_, World.ownsRow.kept L2.out hgs (.inr (ownsRow_ne L2.out K3 (fun _ _ h => asm_lab (by injection h)))), leM, M2.out.kept hgs (fun e => MB.out (by injection e with e; exact e.symm)), World.ownsRow.kept N2.out hgs (.inr (ownsRow_ne N2.out K3 (fun _ _ h => asm_nam (by injection h)))), lines_grown S2.out hgs (fun e => whole_apart K3 S2.out str_lbl (by injection e))⟩
  rw [List.length_append]
  exact World.ownsRow.kept O2.out hgs (.inr (ownsRow_ne O2.out K3 (fun _ _ h => asm_u32 (by injection h))))
end Go.Proofs.YtnmpamfgkidmiaaDoor

/- Contracts of the answers' Hex, and what package word reads of its own texts. -/
namespace Go.Proofs.YtnmpamfgkidmiaaDoor
open Go.ChangeShapes Go.WideShapes Go.ChangeAt Go.RowKit
set_option linter.unusedVariables false

theorem extract_digit (m : Int) (h0 : 0 ≤ m) (h1 : m < 16) : digits16.extract m.toNat (m + 1).toNat = strOfNums [hexdg m] := by
  have : m = 0 ∨ m = 1 ∨ m = 2 ∨ m = 3 ∨ m = 4 ∨ m = 5 ∨ m = 6 ∨ m = 7 ∨ m = 8 ∨ m = 9 ∨ m = 10 ∨ m = 11 ∨ m = 12 ∨ m = 13 ∨ m = 14 ∨ m = 15 := by omega
  rcases this with rfl | rfl | rfl | rfl | rfl | rfl | rfl | rfl | rfl | rfl | rfl | rfl | rfl | rfl | rfl | rfl <;> decide +kernel

theorem slice_digit {P : Program} (t : TypeId) (k : IntKind) (h : P.underlying t = some .string) (m : Int) (h0 : 0 ≤ m) (h1 : m < 16) (W : World) :
    (Instr.sliceAt t (.string digits16) (some (.int k m)) (some (.int k (m + 1))) none).run P W = .ok (.string (strOfNums [hexdg m])) W := by
  rw [run_sliceAt_string W t _ _ _ _ h, run_slice_string W t digits16 k k m (m + 1) h h0 (by omega) (by show _ ≤ (16 : Int); omega), extract_digit m h0 h1]

set_option maxHeartbeats 2000000 in
set_option maxRecDepth 100000 in
theorem refhex_any (n : Int) (w : World) (h0 : 0 ≤ n) (h1 : n ≤ 4294967295) :
    Calls Tryd.prog 33 #[.int .u32 n] w fun e w' => e = .returned (.string (strOfNums (hexNums n))) ∧ w = w' := by
  have hi : ∀ (m : Int) (W : World), (Instr.sliceAt 9 (.string ⟨#[48, 49, 50, 51, 52, 53, 54, 55, 56, 57, 97, 98, 99, 100, 101, 102]⟩) (some (.int .u32 (m % 16))) (some (.int .u32 (m % 16 + 1))) none).run Tryd.prog W = .ok (.string (strOfNums [hexdg (m % 16)])) W :=
    fun m W => slice_digit 9 .u32 Tryd.underlying9 (m % 16) (by omega) (by omega) W
  have hsz := strOfNums_size
  go_enter Tryd.func33, Tryd.ntmps33
  go_wp2
  refine wp_loop_rounds 9 ?_
  iterate 9 (rw [rounds_succ]; go_wp2)
  go_ret
  refine ⟨ret_val (congrArg Value.string ?_), rfl⟩
  rw [show (⟨#[]⟩ : ByteArray) = strOfNums [] from rfl]
  simp only [str_app]
  unfold hexNums
  rw [show n / 16 / 16 = n / 256 by omega, show n / 256 / 16 = n / 4096 by omega, show n / 4096 / 16 = n / 65536 by omega, show n / 65536 / 16 = n / 1048576 by omega, show n / 1048576 / 16 = n / 16777216 by omega, show n / 16777216 / 16 = n / 268435456 by omega]
  rfl

/-! ### What a text of package word reads as -/
theorem bys_nums (a : List Int) (ha : ∀ c ∈ a, 0 ≤ c ∧ c ≤ 255) : bys (strOfNums a) = a := by
  have h := str_same a (strOfNums a) ha
  rw [beq_self_eq_true] at h
  exact (of_decide_eq_true h.symm).symm

theorem hexval_dg (d : Int) (h0 : 0 ≤ d) (h1 : d < 16) : hexval (hexdg d) = d := by
  unfold hexval hexdg
  split <;> split <;> (try split) <;> omega

theorem hexAll_hex (n : Int) : hexAll (hexNums n) = true := by
  unfold hexNums hexAll
  simp only [List.all_cons, List.all_nil, Bool.and_true]
  rw [hexval_dg _ (by omega) (by omega), hexval_dg _ (by omega) (by omega), hexval_dg _ (by omega) (by omega), hexval_dg _ (by omega) (by omega), hexval_dg _ (by omega) (by omega), hexval_dg _ (by omega) (by omega), hexval_dg _ (by omega) (by omega), hexval_dg _ (by omega) (by omega)]
  simp only [Bool.and_eq_true, decide_eq_true_eq]
  omega

theorem hexSum_hex (n : Int) (h0 : 0 ≤ n) (h1 : n ≤ 4294967295) : hexSum (hexNums n) = n := by
  unfold hexNums hexSum
  simp only [List.foldl_cons, List.foldl_nil]
  rw [hexval_dg _ (by omega) (by omega), hexval_dg _ (by omega) (by omega), hexval_dg _ (by omega) (by omega), hexval_dg _ (by omega) (by omega), hexval_dg _ (by omega) (by omega), hexval_dg _ (by omega) (by omega), hexval_dg _ (by omega) (by omega), hexval_dg _ (by omega) (by omega)]
  omega

theorem hexNums_byte (n : Int) : ∀ c ∈ hexNums n, 0 ≤ c ∧ c ≤ 255 := by
  intro c hc
  have h : ∀ m : Int, 0 ≤ hexdg (m % 16) ∧ hexdg (m % 16) ≤ 255 := fun m => ⟨hexdg_ge _ (by omega), hexdg_le _ (by omega)⟩
  unfold hexNums at hc
  simp only [List.mem_cons, List.not_mem_nil, or_false] at hc
  rcases hc with rfl | rfl | rfl | rfl | rfl | rfl | rfl | rfl <;> exact h _

theorem hexRes_hex (n : Int) (h0 : 0 ≤ n) (h1 : n ≤ 4294967295) : hexRes (bys (strOfNums (hexNums n))) = .tuple #[.int .u32 n, .bool true] := by
  rw [bys_nums _ (hexNums_byte n), hexRes_yes (hexAll_hex n), hexSum_hex n h0 h1]

theorem parseRes_in (n : Int) (h0 : -2147483648 ≤ n) (h1 : n ≤ 2147483647) : parseRes (bys (strOfNums (textNums n))) = .tuple #[.int .i32 n, .bool true] := by
  have hp := parseOf_text n (by omega) (by omega)
  rw [bys_nums _ (textNums_byte n), parseRes_yes (yes_text (digAll_text n) (by omega) (by omega) (by rw [hp])), hp]

theorem parseRes_out (n : Int) (h2 : -9223372036854775808 ≤ n) (h3 : n ≤ 9223372036854775807) (h : n < -2147483648 ∨ 2147483647 < n) : parseRes (bys (strOfNums (textNums n))) = .tuple #[.int .i32 0, .bool false] := by
  have hp := parseOf_text n h2 h3
  rw [bys_nums _ (textNums_byte n), parseRes_no (no_range (by omega))]
end Go.Proofs.YtnmpamfgkidmiaaDoor

/- Package listing and its answers: Target, the line of a word. -/
namespace Go.Proofs.YtnmpamfgkidmiaaDoor
open Go.ChangeShapes Go.WideShapes Go.ChangeAt Go.RowKit
set_option linter.unusedVariables false

/-- Where an instruction leads. -/
def leadTo (at_ n : Int) : Int := (at_ + 4 + 4 * n) % 4294967296

theorem leadTo_eq (at_ n : Int) : ((at_ + 4) % 4294967296 + 4 * (n % 4294967296) % 4294967296) % 4294967296 = leadTo at_ n := by
  unfold leadTo
  omega

theorem leadTo_u32 (at_ n : Int) : 0 ≤ leadTo at_ n ∧ leadTo at_ n ≤ 4294967295 := by
  unfold leadTo
  omega

theorem joinUp_size {s : ByteArray} {l : List ByteArray} (hs : s.size ≤ 5) (hl : ∀ x ∈ l, x.size ≤ 22) (k : Nat) : (joinUp s l k).size ≤ 5 + 24 * k := by
  induction k with
  | zero => simpa [joinUp] using hs
  | succ k ih =>
    have hg : (l.getD k ⟨#[]⟩).size ≤ 22 := by
      rw [List.getD_eq_getElem?_getD]
      cases h : l[k]? with
      | none => exact Nat.zero_le _
      | some x => exact hl x (List.mem_of_getElem? h)
    have h1 : (⟨#[44]⟩ : ByteArray).size = 1 := rfl
    have h2 : (⟨#[32]⟩ : ByteArray).size = 1 := rfl
    unfold joinUp
    rw [ByteArray.size_append, ByteArray.size_append, h2]
    split
    · rw [ByteArray.size_append, h1]
      omega
    · omega

theorem textOf_size (op a b c n : Int) : (textOf op a b c n).size ≤ 101 := by
  obtain ⟨h1, h2⟩ := fields_small op a b c n
  have := joinUp_size (name_size op) h2 (fieldTexts op a b c n).length
  unfold textOf
  omega

/-- Is a word an instruction? -/
def OkX (x : Int) : Prop := shapeOf (x / 16777216) ≠ -1 ∧ wordOf (x / 16777216) (decA x) (decB x) (decC x) (decN x) = x

instance (x : Int) : Decidable (OkX x) := by unfold OkX; infer_instance

def hexStr (n : Int) : ByteArray := strOfNums (hexNums n)

theorem hexStr_size (n : Int) : (hexStr n).size = 8 := by
  unfold hexStr
  rw [strOfNums_size]
  rfl

def decText (x : Int) : ByteArray := textOf (x / 16777216) (decA x) (decB x) (decC x) (decN x)

/-- What a line says of a word. -/
def meanOf (at_ x : Int) : ByteArray :=
  if OkX x then (if 20 ≤ x / 16777216 ∧ x / 16777216 ≤ 23 then decText x ++ ⟨#[32, 45, 62, 32]⟩ ++ hexStr (leadTo at_ (decN x)) else decText x) else ⟨#[63]⟩

theorem meanOf_size (at_ x : Int) : (meanOf at_ x).size ≤ 113 := by
  have h1 := textOf_size (x / 16777216) (decA x) (decB x) (decC x) (decN x)
  have h2 : (⟨#[32, 45, 62, 32]⟩ : ByteArray).size = 4 := rfl
  unfold meanOf decText
  split
  · split
    · rw [ByteArray.size_append, ByteArray.size_append, hexStr_size, h2]
      omega
    · omega
  · decide

/-- The line of a word. -/
def lineOf (at_ x : Int) : ByteArray := hexStr at_ ++ ⟨#[32]⟩ ++ hexStr x ++ ⟨#[32]⟩ ++ meanOf at_ x

theorem dec_i64 {x : Int} (h0 : 0 ≤ x) (h1 : x ≤ 4294967295) (h : shapeOf (x / 16777216) ≠ -1) : I64 (decA x) ∧ I64 (decB x) ∧ I64 (decC x) ∧ I64 (decN x) := by
  obtain ⟨a0, a1, b0, b1, c0, c1, _, _, _, n0, n1⟩ := decGood h0 h1 h
  unfold lowOf at n0
  unfold highOf at n1
  unfold I64
  split at n0 <;> split at n1 <;> (try split at n0) <;> (try split at n1) <;> (try split at n1) <;> (refine ⟨?_, ?_, ?_, ?_⟩ <;> omega)
end Go.Proofs.YtnmpamfgkidmiaaDoor

/- Package listing and its answers: meaning, Line, both. -/
namespace Go.Proofs.YtnmpamfgkidmiaaDoor
open Go.ChangeShapes Go.WideShapes Go.ChangeAt Go.RowKit
set_option linter.unusedVariables false

theorem check_zero : checkOf 0 0 0 0 0 = 21 := by
  unfold checkOf
  rw [if_pos (by decide)]

theorem zero_i64 : I64 0 := by unfold I64; omega

theorem u32_add (x y : Int) : (x + y) % 4294967296 = (x + y) % 4294967296 := rfl

end Go.Proofs.YtnmpamfgkidmiaaDoor

/- Package listing: what a line is read as. -/
namespace Go.Proofs.YtnmpamfgkidmiaaDoor
open Go.ChangeShapes Go.WideShapes Go.ChangeAt Go.RowKit
set_option linter.unusedVariables false

/-- The library's variable holds some number. -/
def MaxIn (w : World) : Prop := ∃ m, w.cell? ⟨0, 0, none⟩ = some (.int .i64 m)

theorem MaxIn.below {w w' : World} {B : Nat} (h : MaxIn w) (hb : Below B w w') (hB : w.heap.size ≤ B) : MaxIn w' := by
  obtain ⟨m, hm⟩ := h
  exact ⟨m, (hb.cell (p := ⟨0, 0, none⟩) (Nat.lt_of_lt_of_le (block_lt hm) hB)).trans hm⟩

/-- What lies ahead of a sign, and behind it. -/
def cutA (s : ByteArray) (c : UInt8) : ByteArray := ⟨(Lib.cut s.data.toList [c]).1.toArray⟩

def cutB (s : ByteArray) (c : UInt8) : ByteArray := ⟨(Lib.cut s.data.toList [c]).2.1.toArray⟩

def cutF (s : ByteArray) (c : UInt8) : Bool := (Lib.cut s.data.toList [c]).2.2

theorem cutA_size (s : ByteArray) (c : UInt8) : (cutA s c).size ≤ s.size := by
  unfold cutA Lib.cut
  show List.length _ ≤ s.data.toList.length
  split
  · simp
    omega
  · simp

theorem cutB_size (s : ByteArray) (c : UInt8) : (cutB s c).size ≤ s.size := by
  unfold cutB Lib.cut
  show List.length _ ≤ s.data.toList.length
  split
  · simp
  · simp

theorem cut_any (s : ByteArray) (c : UInt8) (w : World) (hM : MaxIn w) (hs : s.size ≤ 1000000) :
    Calls Tryd.prog 41 #[.string s, .string ⟨#[c]⟩] w fun e w' => e = .returned (.tuple #[.string (cutA s c), .string (cutB s c), .bool (cutF s c)]) ∧ Below w.heap.size w w' := by
  obtain ⟨m, hm⟩ := hM
  refine (Tryd.strings_Cut s ⟨#[c]⟩ m w (by omega) hm).mono ?_
  rintro e w' ⟨rfl, n, rfl⟩
  exact ⟨rfl, below_drawn (Below.refl _ _) n⟩

/-- Eight digits? Their number. -/
def hexOk (s : ByteArray) : Bool := decide (s.size = 8) && hexAll (bys s)

def hexVal (s : ByteArray) : Int := if hexOk s = true then hexSum (bys s) else 0

theorem hexVal_u32 (s : ByteArray) : 0 ≤ hexVal s ∧ hexVal s ≤ 4294967295 := by
  unfold hexVal hexOk
  split
  · rename_i h
    simp only [Bool.and_eq_true, decide_eq_true_eq] at h
    have := hexSum_bound (bys s) h.2
    rw [bys_length, h.1] at this
    have h2 : (16 : Int) ^ 8 = 4294967296 := by decide
    omega
  · omega

theorem parsehex_all (s : ByteArray) (w : World) (hm : s.size ≤ maxLen) :
    Calls Tryd.prog 70 #[.string s] w fun e w' => e = .returned (.tuple #[.int .u32 (hexVal s), .bool (hexOk s)]) ∧ w = w' := by
  by_cases h : s.size = 8
  · refine (parsehex_any s w h).mono ?_
    rintro e w' ⟨rfl, rfl⟩
    refine ⟨?_, rfl⟩
    cases hh : hexAll (bys s) with
    | true =>
      rw [hexRes_yes hh]
      simp [hexVal, hexOk, h, hh]
    | false =>
      rw [hexRes_no hh]
      simp [hexVal, hexOk, h, hh]
  · refine (parsehex_short s w h hm).mono ?_
    rintro e w' ⟨rfl, rfl⟩
    exact ⟨by simp [hexVal, hexOk, h], rfl⟩

theorem refparsehex_all (s : ByteArray) (w : World) (hm : s.size ≤ maxLen) :
    Calls Tryd.prog 48 #[.string s] w fun e w' => e = .returned (.tuple #[.int .u32 (hexVal s), .bool (hexOk s)]) ∧ Below w.heap.size w w' := by
  by_cases h : s.size = 8
  · refine (refparsehex_any s w h).mono ?_
    rintro e w' ⟨rfl, hb⟩
    refine ⟨?_, hb⟩
    cases hh : hexAll (bys s) with
    | true =>
      rw [hexRes_yes hh]
      simp [hexVal, hexOk, h, hh]
    | false =>
      rw [hexRes_no hh]
      simp [hexVal, hexOk, h, hh]
  · refine (refparsehex_short s w h hm).mono ?_
    rintro e w' ⟨rfl, rfl⟩
    exact ⟨by simp [hexVal, hexOk, h], Below.refl _ _⟩

/-- The address and the word that a line's digits give. -/
def atOf (s : ByteArray) : Int := hexVal (cutA s 32)

def wdOf (s : ByteArray) : Int := hexVal (cutA (cutB s 32) 32)

/-- Is a line that of its digits? -/
def okLine (s : ByteArray) : Bool := hexOk (cutA s 32) && (hexOk (cutA (cutB s 32) 32) && ((lineOf (atOf s) (wdOf s)).toList == s.toList))

/-- What a line is read as. -/
def plineV (s : ByteArray) : Value := .tuple #[.int .u32 (if okLine s = true then atOf s else 0), .int .u32 (if okLine s = true then wdOf s else 0), .bool (okLine s)]

theorem plineV_yes {s : ByteArray} (h : okLine s = true) : plineV s = .tuple #[.int .u32 (atOf s), .int .u32 (wdOf s), .bool true] := by
  unfold plineV
  rw [if_pos h, if_pos h, h]

theorem plineV_no {s : ByteArray} (h : okLine s = false) : plineV s = .tuple #[.int .u32 0, .int .u32 0, .bool false] := by
  unfold plineV
  rw [if_neg (by rw [h]; decide), if_neg (by rw [h]; decide), h]

end Go.Proofs.YtnmpamfgkidmiaaDoor

/- Asm: raw, mark. -/
namespace Go.Proofs.YtnmpamfgkidmiaaDoor
open Go.ChangeShapes Go.WideShapes Go.ChangeAt Go.RowKit
set_option linter.unusedVariables false
set_option linter.unusedSimpArgs false
set_option linter.unusedSectionVars false
variable [LinesAt]

def addS (x : Int) (st : AsmS) : Int × AsmS := if 16384 ≤ st.words.length then (242, st) else (0, ⟨st.words ++ [x], st.labels, st.opens⟩)

theorem add_any (x : Int) (B p : Nat) (st : AsmS) (v0 v1 v3 : Value) (mb : Nat) (w : World) (h : AsmAt w B p st v0 v1 v3 mb) (hB : B ≤ w.heap.size) (hs : st.words.length ≤ 1000000) :
    Calls Tryd.prog 71 #[.pointer (some ⟨p, 0, none⟩), .int .u32 x] w (AsmPost w B p (addS x st).2 (addS x st).1) := by
  unfold addS
  split
  · exact add_full x B p st v0 v1 v3 mb w h hB ‹_› hs
  · exact add_room x B p st v0 v1 v3 mb w h hB (by omega)

def rawS (s : ByteArray) (st : AsmS) : Int × AsmS := if hexOk s = true then addS (hexVal s) st else (22, st)

set_option maxHeartbeats 2000000 in
set_option maxRecDepth 100000 in
theorem raw_any (s : ByteArray) (B p : Nat) (st : AsmS) (v0 v1 v3 : Value) (mb : Nat) (w : World) (h : AsmAt w B p st v0 v1 v3 mb) (hB : B ≤ w.heap.size) (hs : st.words.length ≤ 1000000) (hm : s.size ≤ 1000000) :
    Calls Tryd.prog 42 #[.pointer (some ⟨p, 0, none⟩), .string s] w (AsmPost w B p (rawS s st).2 (rawS s st).1) := by
  have PH := Lib.hid (parsehex_all s w (by unfold maxLen; omega))
  have H := Lib.hid h
  clear h
  cases hx : hexOk s with
  | true =>
    have AD := Lib.hid (add_any (hexVal s) B p st v0 v1 v3 mb w H.out hB hs)
    have R : rawS s st = addS (hexVal s) st := if_pos hx
    rw [R]
    rw [hx] at PH
    unfold AsmPost at *
    clear hx R
    generalize addS (hexVal s) st = r at *
    generalize hexVal s = x at *
    go_enter Tryd.func42, Tryd.ntmps42
    go_wp2_with fail
    refine PH.out.mono ?_
    rintro e w1 ⟨rfl, rfl⟩
    go_wp2_with fail
    refine AD.out.mono ?_
    rintro e w2 ⟨u0, u1, u3, m2, rfl, ha, hb, hz⟩
    have HA := Lib.hid ha
    have HB := Lib.hid hb
    clear ha hb
    go_wp2_with fail
    go_ret
    exact ⟨u0, u1, u3, m2, rfl, HA.out, HB.out, hz⟩
  | false =>
    have R : rawS s st = (22, st) := if_neg (by rw [hx]; decide)
    rw [R]
    rw [hx] at PH
    unfold AsmPost at *
    clear hx R
    go_enter Tryd.func42, Tryd.ntmps42
    go_wp2_with fail
    refine PH.out.mono ?_
    rintro e w1 ⟨rfl, rfl⟩
    go_wp2_with fail
    go_ret
    exact ⟨v0, v1, v3, mb, rfl, H.out, Below.refl _ _, Nat.le_refl _⟩

/-- Has a name a label? -/
def hasL (l : List Lab) (s : ByteArray) : Bool := l.any fun x => x.1.toList == s.toList

theorem data_inj {a b : ByteArray} (h : a.data.toList = b.data.toList) : a = b := by
  cases a; cases b
  congr
  exact Array.ext' h

theorem lmap_snoc (l : List Lab) (x : Lab) : lmap (l ++ [x]) = (lmap l).put (.string x.1.data.toList) (.lit (.int .i64 x.2)) := by
  unfold lmap
  rw [List.foldl_append]
  rfl

theorem lmap_isMap (l : List Lab) : Maps.IsMap (lmap l) := by
  have key : ∀ (l : List Lab) (D : DataW Unit), Maps.IsMap D → Maps.IsMap (l.foldl (fun D x => D.put (.string x.1.data.toList) (.lit (.int .i64 x.2))) D) := by
    intro l
    induction l with
    | nil => intro D h; exact h
    | cons x l ih => intro D h; exact ih _ (h.put _ _)
  exact key l _ Maps.isMap_empty

theorem snoc_ind {α : Type} {P : List α → Prop} (h0 : P []) (h1 : ∀ l x, P l → P (l ++ [x])) (l : List α) : P l := by
  have key : ∀ n (l : List α), l.length = n → P l := by
    intro n
    induction n with
    | zero => intro l h; rw [List.eq_nil_of_length_eq_zero h]; exact h0
    | succ n ih =>
      intro l h
      rcases List.eq_nil_or_concat l with rfl | ⟨l', x, rfl⟩
      · exact h0
      · rw [List.concat_eq_append] at h ⊢
        exact h1 l' x (ih l' (by simpa using h))
  exact key _ l rfl

theorem lmap_has (l : List Lab) (s : ByteArray) : Maps.has (lmap l) (.string s.data.toList) = hasL l s := by
  refine snoc_ind (P := fun l => Maps.has (lmap l) (.string s.data.toList) = hasL l s) rfl (fun l x ih => ?_) l
  · rw [lmap_snoc]
    unfold hasL
    rw [List.any_append]
    by_cases h : x.1 = s
    · subst h
      rw [Maps.has_put_same (lmap_isMap l) (by trivial)]
      simp
    · rw [Maps.has_put_other (fun e => h (data_inj (by injection e with e; exact e.symm))), ih]
      unfold hasL
      have : (x.1.toList == s.toList) = false := by
        rw [Lib.toList_data, Lib.toList_data]
        simp only [beq_eq_false_iff_ne, ne_eq]
        exact fun e => h (data_inj e)
      simp [this]

/-- What a line that is a label comes to. -/
def markS (s : ByteArray) (st : AsmS) : Int × AsmS :=
  if nameB s = true then (if hasL st.labels s = true then (51, st) else (0, ⟨st.words, st.labels ++ [(s, st.words.length)], st.opens⟩)) else (22, st)

set_option maxHeartbeats 4000000 in
set_option maxRecDepth 100000 in
theorem mark_no (s : ByteArray) (B p : Nat) (st : AsmS) (v0 v1 v3 : Value) (mb : Nat) (w : World) (h : AsmAt w B p st v0 v1 v3 mb) (hm : s.size ≤ 1000000) (hn : nameB s = false) :
    Calls Tryd.prog 40 #[.pointer (some ⟨p, 0, none⟩), .string s] w (AsmPost w B p st 22) := by
  have NM := Lib.hid (name05_any s w hm)
  rw [hn] at NM
  have H := Lib.hid h
  clear h hn
  unfold AsmPost
  go_enter Tryd.func40, Tryd.ntmps40
  go_wp2_with fail
  refine NM.out.mono ?_
  rintro e w1 ⟨rfl, rfl⟩
  go_wp2_with fail
  go_ret
  exact ⟨v0, v1, v3, mb, rfl, H.out, Below.refl _ _, Nat.le_refl _⟩

theorem map_law : Maps.Keyed Tryd.prog 9 := Maps.string_keyed Tryd.underlying9

set_option maxHeartbeats 4000000 in
set_option maxRecDepth 100000 in
theorem mark_twice (s : ByteArray) (B p : Nat) (st : AsmS) (v0 v1 v3 : Value) (mb : Nat) (w : World) (h : AsmAt w B p st v0 v1 v3 mb) (hm : s.size ≤ 1000000) (hn : nameB s = true) (hh : hasL st.labels s = true) :
    Calls Tryd.prog 40 #[.pointer (some ⟨p, 0, none⟩), .string s] w (AsmPost w B p st 51) := by
  have NM := Lib.hid (name05_any s w hm)
  rw [hn] at NM
  have H := Lib.hid h
  have c2 : w.cell? ⟨p, 2, none⟩ = some (.map (some mb)) := h.blk.cell 2
  have LH := Lib.hid ((lmap_has st.labels s).trans hh)
  have MP := Lib.hid h.map
  have hkey := Lib.hid (Go.WideMaps.keyOf_string_mk (P := Tryd.prog) Tryd.underlying9 (s := s) (by unfold maxLen; omega))
  clear h hn hh
  unfold AsmPost
  go_enter Tryd.func40, Tryd.ntmps40
  go_wp2_with fail
  refine NM.out.mono ?_
  rintro e w1 ⟨rfl, rfl⟩
  go_wp2_with (at_lookup; refine wpList_lookup_own_ok_int _ rfl _ _ 47 rfl 9 3 .i64 map_law Tryd.underlying47 Tryd.underlying3 (Tryd.zeroValue3 _) mb st.labels.length _ rfl MP.out _ _ rfl hkey.out ?_; intro c hat hwc; rw [LH.out]; clear hat hwc)
  go_ret
  exact ⟨v0, v1, v3, mb, rfl, H.out, Below.refl _ _, Nat.le_refl _⟩
end Go.Proofs.YtnmpamfgkidmiaaDoor

/- Asm: mark, where the label is new. -/
namespace Go.Proofs.YtnmpamfgkidmiaaDoor
open Go.ChangeShapes Go.WideShapes Go.ChangeAt Go.RowKit
set_option linter.unusedVariables false
set_option linter.unusedSimpArgs false
set_option linter.unusedSectionVars false
variable [LinesAt]

theorem cell_kept_b {w w' : World} {g o : Nat} {v : Value} (h : w.cell? ⟨g, o, none⟩ = some v) (hb : Below w.heap.size w w') : w'.cell? ⟨g, o, none⟩ = some v := (hb.cell (p := ⟨g, o, none⟩) (block_lt h)).trans h

/-- append to an own row, as one step of a region that draws. -/
theorem step_append_rows {P : Program} {ops : Array Oper} {o : Oper} {a : Act} {w : World} {K : Act → World → Prop} {Q : Exit → Act → World → Prop} {E : Prop}
    (hg : o.guard = none) (s x : Operand) (t : TypeId) (hop : o.op = Op.call { callee := Callee.builtin Builtin.append, args := #[s, x], argTypes := #[t, t] })
    (base : Nat) (e : TypeId) (i : TypeInfo) (z : Value) (size bytes : Nat) (ht : P.underlying t = some (.slice e)) (hi : P.info? e = some i) (hz : i.zero = some z)
    (hsize : i.size = size) (hby : i.bytes = bytes) (hzs : z.cells.size = size) (hsz : 0 < size)
    (v : Value) (n : Nat) (xs : List Value) (hs : a.eval s = v) (hown : w.ownsRow base e size v n xs)
    (ad : Addr) (m c : Nat) (news : List Value) (hx : a.eval x = .slice (some ad) m c) (hl : news.length = m * size) (hnews : ∀ j u, news[j]? = some u → w.cell? (ad.add j) = some u) (h1 : ∀ u ∈ news, u.oneCell' = true)
    (h63 : n + m ≤ maxLen) (hbytes : (n + m) * bytes ≤ 140737488355328) (hbase : base ≤ w.heap.size)
    (hK : ∀ v' w', w'.ownsRow base e size v' (n + m) (xs ++ news) → w.grownBy w' v.ownBlock → K (a.put o.dst v') w') :
    if Region.wanted o (yielded ops a.tmps) = true then Oper.wp P o a w K Q else E := by
  have hw : Region.wanted o (yielded ops a.tmps) = true := by simp [Region.wanted, hg]
  rw [if_pos hw]
  obtain ⟨v', w', hrun, r1, r2, _⟩ := run_append_own_at (P := P) w base t o.type e i z size bytes ht hi hz hsize hby hzs hsz v n xs hown ad m c news hl hnews h1 h63 hbytes hbase
  unfold Oper.wp
  simp [execOp, hop, resolve, invoke, builtin, hs, hx, hrun, Result.andThen]
  exact hK v' w' r1 r2

set_option maxHeartbeats 4000000 in
set_option maxRecDepth 100000 in
theorem clone05_any (s : ByteArray) (w : World) (hs : s.size ≤ 1000000) :
    Calls Tryd.prog 68 #[.string s] w fun e w' => e = .returned (.string s) ∧ Below w.heap.size w w' := by
  have CL := Lib.hid (Tryd.stringslite_Clone s w (by omega))
  go_enter Tryd.func68, Tryd.ntmps68
  go_wp2_with fail
  refine CL.out.mono ?_
  rintro e w1 ⟨rfl, hb⟩
  have HB := Lib.hid hb
  clear hb
  go_wp2_with fail
  go_ret
  exact ⟨rfl, HB.out⟩

theorem lab_info : (Tryd.prog.info? 66).map (fun i => (i.zero, i.size, i.bytes)) = some (some (.agg #[.string ⟨#[]⟩, .int .i64 0]), 2, 24) := by kernel_rfl

set_option maxHeartbeats 8000000 in
set_option maxRecDepth 100000 in
theorem mark_new (s : ByteArray) (B p : Nat) (st : AsmS) (v0 v1 v3 : Value) (mb : Nat) (w : World) (h : AsmAt w B p st v0 v1 v3 mb) (hm : s.size ≤ 1000000) (hn : nameB s = true) (hh : hasL st.labels s = false) (hBw : B ≤ w.heap.size) (hws : st.words.length ≤ 1000000) (hls : st.labels.length ≤ 1000000) :
    Calls Tryd.prog 40 #[.pointer (some ⟨p, 0, none⟩), .string s] w (AsmPost w B p ⟨st.words, st.labels ++ [(s, st.words.length)], st.opens⟩ 0) := by
  obtain ⟨A0, c0, rfl, _⟩ := Owns.form h.words
  obtain ⟨A1, c1, rfl⟩ : ∃ A1 c1, v1 = .slice A1 st.labels.length c1 := by
    rcases h.labels.2 with ⟨h1, h2⟩ | ⟨g, cap, cur, h1, _⟩
    · exact ⟨none, 0, by rw [h2]; exact h1⟩
    · exact ⟨_, _, h1⟩
  obtain ⟨i0, hi, hz0, hz1, hz2⟩ := info_parts lab_info
  have hwf := Lib.hid (show (Lit.int .i64 (st.words.length : Int)).wf = true by
    have h1 : IntKind.i64.min ≤ (st.words.length : Int) := by simp only [show IntKind.i64.min = -9223372036854775808 from rfl]; omega
    have h2 : (st.words.length : Int) ≤ IntKind.i64.max := by simp only [show IntKind.i64.max = 9223372036854775807 from rfl]; omega
    show (decide (IntKind.i64.min ≤ (st.words.length : Int)) && decide ((st.words.length : Int) ≤ IntKind.i64.max)) = true
    rw [decide_eq_true h1, decide_eq_true h2]
    rfl)
  have NM := Lib.hid (name05_any s w hm)
  rw [hn] at NM
  have CL := Lib.hid (fun w => clone05_any s w hm)
  have H := Lib.hid h
  have c2 : w.cell? ⟨p, 2, none⟩ = some (.map (some mb)) := h.blk.cell 2
  have LH := Lib.hid ((lmap_has st.labels s).trans hh)
  have MP := Lib.hid h.map
  have hkey := Lib.hid (Go.WideMaps.keyOf_string_mk (P := Tryd.prog) Tryd.underlying9 (s := s) (by unfold maxLen; omega))
  clear h hn hh
  unfold AsmPost
  go_enter Tryd.func40, Tryd.ntmps40
  go_wp2_with fail
  refine NM.out.mono ?_
  rintro e w1 ⟨rfl, rfl⟩
  go_wp2_with (at_lookup; refine wpList_lookup_own_ok_int _ rfl _ _ 47 rfl 9 3 .i64 map_law Tryd.underlying47 Tryd.underlying3 (Tryd.zeroValue3 _) mb st.labels.length _ rfl MP.out _ _ rfl hkey.out ?_; intro c hat hwc; rw [LH.out]; clear hat hwc)
  clear c2 NM LH MP
  have LS : w.cell? ⟨p, 0, none⟩ = some (.slice A0 st.words.length c0) := H.out.blk.cell 0
  have hpw := H.out.lt
  have L1 : w.drew.cell? ⟨p, 0, none⟩ = some (.slice A0 st.words.length c0) := LS
  have L0 : (w.alloc (.cells #[.string ⟨#[]⟩, .int .i64 0] 66)).drew.cell? ⟨p, 0, none⟩ = some (.slice A0 st.words.length c0) := cell_kept_b LS ((Below.refl w.heap.size w).alloc (Nat.le_refl _) (.cells #[.string ⟨#[]⟩, .int .i64 0] 66)).drew
  have Q0 := Lib.hid (show Whole (w.alloc (.cells #[.string ⟨#[]⟩, .int .i64 0] 66)).drew w.heap.size 66 #[.string ⟨#[]⟩, .int .i64 0] from Whole.made w 66 #[.string ⟨#[]⟩, .int .i64 0] _ rfl)
  have hpn : p ≠ w.heap.size := Nat.ne_of_lt hpw
  have W0 := Lib.hid (((Below.refl w.heap.size w).alloc (Nat.le_refl _) (.cells #[.string ⟨#[]⟩, .int .i64 0] 66)).drew)
  go_region_held3 (fun y => y.cell? ⟨p, 0, none⟩ = some (.slice A0 st.words.length c0))
    (first
      | with_reducible assumption
      | with_reducible exact L1
      | with_reducible exact L0
      | with_reducible exact L2.out
      | with_reducible exact L3.out
      | with_reducible exact L4.out
      | with_reducible exact L5.out
      | fail)
    (first
      | ((go_at_call 68; refine (CL.out _).mono ?_; rintro e y1 ⟨rfl, hb1⟩; have L2 := Lib.hid (cell_kept_b L1 hb1); have hpy : p < y1.heap.size := Nat.lt_of_lt_of_le hpw hb1.size; have L3 := Lib.hid (cell_kept_b L2.out ((Below.refl y1.heap.size y1).alloc (Nat.le_refl _) (.cells #[.string ⟨#[]⟩, .int .i64 0] 66))); have L4 := Lib.hid (cell_kept_b L2.out ((Below.refl y1.heap.size y1).alloc (Nat.le_refl _) (.cells #[.string s, .int .i64 st.words.length] 66)))))
      | ((go_at_call 68; refine (CL.out _).mono ?_; rintro e y1 ⟨rfl, hb1⟩; have L2 := Lib.hid (cell_kept_b L0 hb1); have Q2 := Lib.hid (Q0.out.below hb1 Q0.out.lt); have z0 : y1.cell? ⟨w.heap.size, 0, none⟩ = some (.string ⟨#[]⟩) := Q2.out.cell 0; have z1 : y1.cell? ⟨w.heap.size, 1, none⟩ = some (.int .i64 0) := Q2.out.cell 1; have f0 : y1.frozen? ⟨w.heap.size, 0, none⟩ = false := Q2.out.free 0; have f1 : y1.frozen? ⟨w.heap.size, 1, none⟩ = false := Q2.out.free 1; have L5 := Lib.hid (show ((y1.setCell ⟨w.heap.size, 0, none⟩ (.string s)).setCell ⟨w.heap.size, 1, none⟩ (.int .i64 st.words.length)).cell? ⟨p, 0, none⟩ = some (.slice A0 st.words.length c0) from by rw [World.cell?_setCell_other _ _ _ _ (fun e => hpn (by injection e with e1; exact e1.symm)), World.cell?_setCell_other _ _ _ _ (fun e => hpn (by injection e with e1; exact e1.symm))]; exact L2.out))))
  · have BV0 := ((Below.refl w.heap.size w).drew.trans hb1).alloc hb1.size (.cells #[.string s, .int .i64 st.words.length] 66)
    have QV := Lib.hid (Whole.made y1 66 #[.string s, .int .i64 st.words.length] _ rfl)
    have hq : w.heap.size ≤ y1.heap.size := hb1.size
    have HV := Lib.hid (H.out.below BV0)
    have BV := Lib.hid (BV0.mono hBw)
    have ZV := BV0.size
    rename_i hH
    clear hH BV0 L4 L3 L2 hpy hb1 L1 L0 Q0 LS H W0
    generalize hVV : y1.alloc (.cells #[.string s, .int .i64 st.words.length] 66) = V at *
    clear hVV
    generalize y1.heap.size = q at *
    have m2 : V.cell? ⟨p, 2, none⟩ = some (.map (some mb)) := HV.out.blk.cell 2
    have x0 : V.cell? ⟨q, 0, none⟩ = some (.string s) := QV.out.cell 0
    have x1 : V.cell? ⟨q, 1, none⟩ = some (.int .i64 st.words.length) := QV.out.cell 1
    have MV := Lib.hid HV.out.map.drew
    go_wp2_with fail
    go_still_tail 8, (by kernel_rfl)
    refine wpList_mapUpdate_own _ rfl _ _ _ 47 rfl 9 3 map_law Tryd.underlying47 (plainElem Tryd.prog 3) mb st.labels.length _ rfl MV.out (by unfold maxLen; omega) _ _ _ rfl rfl hkey.out _ [] (plainElem_int Tryd.underlying3 hwf.out) ?_
    intro w5 hown5 hg5
    obtain ⟨es, clock, hmb⟩ := HV.out.mblk
    have hpm := HV.out.apart
    have hqm : q ≠ mb := by
      intro e
      have h1 := QV.out
      unfold Whole at h1
      rw [e, hmb] at h1
      cases h1
    have hrow : ∀ (e : TypeId) (sz : Nat) (v : Value) (n : Nat) (xs : List Value), V.ownsRow B e sz v n xs → w5.ownsRow B e sz v n xs := fun e sz v n xs h => World.ownsRow.kept (show V.drew.ownsRow B e sz v n xs from h) hg5 (.inr (ownsRow_ne h hmb (fun _ _ h => by cases h)))
    have K5 := Lib.hid (show Whole w5 p asmT #[.slice A0 st.words.length c0, .slice A1 st.labels.length c1, .map (some mb), v3] from (hg5.block p HV.out.lt (fun e => hpm (by injection e))).trans HV.out.blk)
    have Q5 := Lib.hid (show Whole w5 q 66 #[.string s, .int .i64 st.words.length] from (hg5.block q QV.out.lt (fun e => hqm (by injection e))).trans QV.out)
    have O5 := Lib.hid (hrow _ _ _ _ _ HV.out.words)
    have L5 := Lib.hid (hrow _ _ _ _ _ HV.out.labels)
    have N5 := Lib.hid (hrow _ _ _ _ _ HV.out.opens)
    have S5 := Lib.hid (lines_grown (show Whole V.drew LinesAt.lf 9 LinesAt.lcs from HV.out.lines) hg5 (fun e => whole_map HV.out.lines hmb (by injection e with e; exact e.symm)))
    have M5 := Lib.hid (show w5.ownsMap Tryd.prog 9 (plainElem Tryd.prog 3) mb (st.labels.length + 1) (lmap (st.labels ++ [(s, st.words.length)])) by rw [lmap_snoc]; exact hown5)
    have B5 := Lib.hid (BV.out.drew.grown hg5 (Nat.le_trans hBw ZV) (fun b hb => by injection hb with hb; subst hb; exact HV.out.leM))
    have Z5 : w.heap.size ≤ w5.heap.size := Nat.le_trans ZV hg5.size
    have LE := Lib.hid (And.intro HV.out.le HV.out.leM)
    have PM := Lib.hid hpm
    clear hrow hqm hpm hmb hown5 hg5 MV m2 x0 x1 HV BV QV ZV
    have m1 : w5.cell? ⟨p, 1, none⟩ = some (.slice A1 st.labels.length c1) := K5.out.cell 1
    have x0 : w5.cell? ⟨q, 0, none⟩ = some (.string s) := Q5.out.cell 0
    have x1 : w5.cell? ⟨q, 1, none⟩ = some (.int .i64 st.words.length) := Q5.out.cell 1
    have g1 : w5.frozen? ⟨p, 1, none⟩ = false := K5.out.free 1
    have LA := Lib.hid (show (w5.alloc (.cells #[.string s, .int .i64 st.words.length] 66)).drew.ownsRow B 66 2 (.slice A1 st.labels.length c1) st.labels.length (st.labels.flatMap labCells) from World.ownsRow.alloc L5.out (.cells #[.string s, .int .i64 st.words.length] 66))
    have KA := Lib.hid (show Whole (w5.alloc (.cells #[.string s, .int .i64 st.words.length] 66)).drew p asmT #[.slice A0 st.words.length c0, .slice A1 st.labels.length c1, .map (some mb), v3] from K5.out.alloc (.cells #[.string s, .int .i64 st.words.length] 66))
    have OA := Lib.hid (show (w5.alloc (.cells #[.string s, .int .i64 st.words.length] 66)).drew.ownsRow B 45 1 (.slice A0 st.words.length c0) st.words.length (st.words.map (Value.int .u32)) from World.ownsRow.alloc O5.out (.cells #[.string s, .int .i64 st.words.length] 66))
    have NA := Lib.hid (show (w5.alloc (.cells #[.string s, .int .i64 st.words.length] 66)).drew.ownsRow B 95 8 v3 st.opens.length (st.opens.flatMap Opn.cells) from World.ownsRow.alloc N5.out (.cells #[.string s, .int .i64 st.words.length] 66))
    have SA := Lib.hid (show Whole (w5.alloc (.cells #[.string s, .int .i64 st.words.length] 66)).drew LinesAt.lf 9 LinesAt.lcs from S5.out.alloc (.cells #[.string s, .int .i64 st.words.length] 66))
    have MA := Lib.hid (M5.out.alloc (.cells #[.string s, .int .i64 st.words.length] 66)).drew
    have BA := Lib.hid (show Below B w (w5.alloc (.cells #[.string s, .int .i64 st.words.length] 66)).drew from (B5.out.alloc (Nat.le_trans hBw Z5) (.cells #[.string s, .int .i64 st.words.length] 66)).drew)
    have NC := Lib.hid (show ∀ (j : Nat) u, ([.string s, .int .i64 st.words.length] : List Value)[j]? = some u → (w5.alloc (.cells #[.string s, .int .i64 st.words.length] 66)).drew.cell? ((⟨w5.heap.size, 0, none⟩ : Addr).add j) = some u from fun j u hj => by
      rw [Go.WideShapes.add_plain, Nat.zero_add]
      exact ((Whole.made w5 66 #[.string s, .int .i64 st.words.length] _ rfl).cell j).trans (by simpa using hj))
    have ZA : w5.heap.size + 1 ≤ (w5.alloc (.cells #[.string s, .int .i64 st.words.length] 66)).drew.heap.size := by simp
    obtain ⟨es, clock, hmb, _⟩ := MA.out
    have HMA := Lib.hid hmb
    clear hmb
    have a1 : (w5.alloc (.cells #[.string s, .int .i64 st.words.length] 66)).drew.cell? ⟨p, 1, none⟩ = some (.slice A1 st.labels.length c1) := KA.out.cell 1
    clear L5 O5 N5 M5 B5 S5
    go_wp2_with fail
    go_region_law (refine step_append_rows rfl (.tmp 43) (.tmp 45) 24 rfl B 66 i0 _ 2 24 Tryd.underlying24 hi hz0 hz1 hz2 rfl (by decide) (.slice A1 st.labels.length c1) st.labels.length _ rfl LA.out ⟨w5.heap.size, 0, none⟩ 1 1 [.string s, .int .i64 st.words.length] rfl rfl NC.out (fun u hu => by simp at hu; rcases hu with rfl | rfl <;> rfl) (by unfold maxLen; omega) (by omega) (by simp; omega) ?_; intro v6 w6 ho6 hg6; have hform : ∃ A6 c6, v6 = .slice A6 (st.labels.length + 1) c6 := (by rcases ho6.2 with ⟨_, h2⟩ | ⟨g, cap, cur, h1, _⟩; exact absurd h2 (by omega); exact ⟨_, _, h1⟩); obtain ⟨A6, c6, rfl⟩ := hform; have NP := ownsRow_ne LA.out KA.out (fun _ _ h => asm_lab (by injection h)); have NMB := ownsRow_ne LA.out HMA.out (fun _ _ h => by cases h); have K6 := Lib.hid ((hg6.block p KA.out.lt (fun e => NP e.symm)).trans KA.out); have M6 := Lib.hid (MA.out.kept hg6 (fun e => NMB e.symm)); have O6 := Lib.hid (World.ownsRow.kept OA.out hg6 (ownsRow_apart OA.out LA.out u32_lab)); have N6 := Lib.hid (World.ownsRow.kept NA.out hg6 (ownsRow_apart NA.out LA.out lab_nam.symm)); have B6 := Lib.hid (BA.out.grown hg6 (by simp; omega) (fun b hb => (World.ownsRow.lt LA.out b hb).1)); have S6 := Lib.hid (lines_grown SA.out hg6 (ownsRow_ne LA.out SA.out (fun _ _ h => str_lab (by injection h)))); have L6 := Lib.hid ho6; have Z6 := hg6.size; have m6 : w6.cell? ⟨p, 1, none⟩ = some (.slice A1 st.labels.length c1) := Whole.cell K6.out 1; have g6 : w6.frozen? ⟨p, 1, none⟩ = false := Whole.free K6.out 1; clear ho6 hg6 NP NMB)
    all_goals
      go_wp2_with fail
      go_ret
      have K6' : Whole w6 p asmT #[.slice A0 st.words.length c0, .slice A1 st.labels.length c1, .map (some mb), v3] := K6.out
      have hgs : w6.grownBy (w6.setCell ⟨p, 1, none⟩ (.slice A6 (st.labels.length + 1) c6)) (some p) := ⟨rfl, rfl, rfl, by simp [World.setCell], fun j _ hj => Below.heap_setCell w6 ⟨p, 1, none⟩ _ j (fun e => hj (by rw [e]))⟩
      refine ⟨.slice A0 st.words.length c0, .slice A6 (st.labels.length + 1) c6, v3, mb, rfl, ⟨LE.out.1, K6'.store 1 _, World.ownsRow.kept O6.out hgs (.inr (ownsRow_ne O6.out K6' (fun _ _ h => asm_u32 (by injection h)))), ?_, LE.out.2, ?_, World.ownsRow.kept N6.out hgs (.inr (ownsRow_ne N6.out K6' (fun _ _ h => asm_nam (by injection h)))), lines_grown S6.out hgs (fun e => whole_apart K6' S6.out str_lbl (by injection e))⟩, B6.out.setCell (p := ⟨p, 1, none⟩) LE.out.1 _, by simp [World.setCell] at Z6 ⊢; omega⟩
      · rw [List.length_append, List.flatMap_append]
        exact World.ownsRow.kept L6.out hgs (.inr (ownsRow_ne L6.out K6' (fun _ _ h => asm_lab (by injection h))))
      · rw [List.length_append]
        exact M6.out.kept hgs (fun e => PM.out (by injection e with e; exact e.symm))
  · have BV1 := W0.out.trans (hb1.mono W0.out.size)
    have BV0 := (BV1.setCell (p := ⟨w.heap.size, 0, none⟩) (Nat.le_refl _) (.string s)).setCell (p := ⟨w.heap.size, 1, none⟩) (Nat.le_refl _) (.int .i64 st.words.length)
    have QV := Lib.hid (show Whole ((y1.setCell ⟨w.heap.size, 0, none⟩ (.string s)).setCell ⟨w.heap.size, 1, none⟩ (.int .i64 st.words.length)) w.heap.size 66 #[.string s, .int .i64 st.words.length] from (Q2.out.store 0 _).store 1 _)
    have HV := Lib.hid (H.out.below BV0)
    have BV := Lib.hid (BV0.mono hBw)
    have ZV := BV0.size
    obtain ⟨q, hqe⟩ : ∃ q, q = w.heap.size := ⟨_, rfl⟩
    have hq : w.heap.size ≤ q := Nat.le_of_eq hqe.symm
    rename_i hH
    clear hH BV0 BV1 L5 L2 hb1 L1 L0 Q0 Q2 z0 z1 f0 f1 LS H W0
    generalize hVV : (y1.setCell ⟨w.heap.size, 0, none⟩ (.string s)).setCell ⟨w.heap.size, 1, none⟩ (.int .i64 st.words.length) = V at *
    clear hVV
    rw [← hqe] at QV ⊢
    clear hqe
    have m2 : V.cell? ⟨p, 2, none⟩ = some (.map (some mb)) := HV.out.blk.cell 2
    have x0 : V.cell? ⟨q, 0, none⟩ = some (.string s) := QV.out.cell 0
    have x1 : V.cell? ⟨q, 1, none⟩ = some (.int .i64 st.words.length) := QV.out.cell 1
    have MV := Lib.hid HV.out.map.drew
    go_wp2_with fail
    go_still_tail 8, (by kernel_rfl)
    refine wpList_mapUpdate_own _ rfl _ _ _ 47 rfl 9 3 map_law Tryd.underlying47 (plainElem Tryd.prog 3) mb st.labels.length _ rfl MV.out (by unfold maxLen; omega) _ _ _ rfl rfl hkey.out _ [] (plainElem_int Tryd.underlying3 hwf.out) ?_
    intro w5 hown5 hg5
    obtain ⟨es, clock, hmb⟩ := HV.out.mblk
    have hpm := HV.out.apart
    have hqm : q ≠ mb := by
      intro e
      have h1 := QV.out
      unfold Whole at h1
      rw [e, hmb] at h1
      cases h1
    have hrow : ∀ (e : TypeId) (sz : Nat) (v : Value) (n : Nat) (xs : List Value), V.ownsRow B e sz v n xs → w5.ownsRow B e sz v n xs := fun e sz v n xs h => World.ownsRow.kept (show V.drew.ownsRow B e sz v n xs from h) hg5 (.inr (ownsRow_ne h hmb (fun _ _ h => by cases h)))
    have K5 := Lib.hid (show Whole w5 p asmT #[.slice A0 st.words.length c0, .slice A1 st.labels.length c1, .map (some mb), v3] from (hg5.block p HV.out.lt (fun e => hpm (by injection e))).trans HV.out.blk)
    have Q5 := Lib.hid (show Whole w5 q 66 #[.string s, .int .i64 st.words.length] from (hg5.block q QV.out.lt (fun e => hqm (by injection e))).trans QV.out)
    have O5 := Lib.hid (hrow _ _ _ _ _ HV.out.words)
    have L5 := Lib.hid (hrow _ _ _ _ _ HV.out.labels)
    have N5 := Lib.hid (hrow _ _ _ _ _ HV.out.opens)
    have S5 := Lib.hid (lines_grown (show Whole V.drew LinesAt.lf 9 LinesAt.lcs from HV.out.lines) hg5 (fun e => whole_map HV.out.lines hmb (by injection e with e; exact e.symm)))
    have M5 := Lib.hid (show w5.ownsMap Tryd.prog 9 (plainElem Tryd.prog 3) mb (st.labels.length + 1) (lmap (st.labels ++ [(s, st.words.length)])) by rw [lmap_snoc]; exact hown5)
    have B5 := Lib.hid (BV.out.drew.grown hg5 (Nat.le_trans hBw ZV) (fun b hb => by injection hb with hb; subst hb; exact HV.out.leM))
    have Z5 : w.heap.size ≤ w5.heap.size := Nat.le_trans ZV hg5.size
    have LE := Lib.hid (And.intro HV.out.le HV.out.leM)
    have PM := Lib.hid hpm
    clear hrow hqm hpm hmb hown5 hg5 MV m2 x0 x1 HV BV QV ZV
    have m1 : w5.cell? ⟨p, 1, none⟩ = some (.slice A1 st.labels.length c1) := K5.out.cell 1
    have x0 : w5.cell? ⟨q, 0, none⟩ = some (.string s) := Q5.out.cell 0
    have x1 : w5.cell? ⟨q, 1, none⟩ = some (.int .i64 st.words.length) := Q5.out.cell 1
    have g1 : w5.frozen? ⟨p, 1, none⟩ = false := K5.out.free 1
    have LA := Lib.hid (show (w5.alloc (.cells #[.string s, .int .i64 st.words.length] 66)).drew.ownsRow B 66 2 (.slice A1 st.labels.length c1) st.labels.length (st.labels.flatMap labCells) from World.ownsRow.alloc L5.out (.cells #[.string s, .int .i64 st.words.length] 66))
    have KA := Lib.hid (show Whole (w5.alloc (.cells #[.string s, .int .i64 st.words.length] 66)).drew p asmT #[.slice A0 st.words.length c0, .slice A1 st.labels.length c1, .map (some mb), v3] from K5.out.alloc (.cells #[.string s, .int .i64 st.words.length] 66))
    have OA := Lib.hid (show (w5.alloc (.cells #[.string s, .int .i64 st.words.length] 66)).drew.ownsRow B 45 1 (.slice A0 st.words.length c0) st.words.length (st.words.map (Value.int .u32)) from World.ownsRow.alloc O5.out (.cells #[.string s, .int .i64 st.words.length] 66))
    have NA := Lib.hid (show (w5.alloc (.cells #[.string s, .int .i64 st.words.length] 66)).drew.ownsRow B 95 8 v3 st.opens.length (st.opens.flatMap Opn.cells) from World.ownsRow.alloc N5.out (.cells #[.string s, .int .i64 st.words.length] 66))
    have SA := Lib.hid (show Whole (w5.alloc (.cells #[.string s, .int .i64 st.words.length] 66)).drew LinesAt.lf 9 LinesAt.lcs from S5.out.alloc (.cells #[.string s, .int .i64 st.words.length] 66))
    have MA := Lib.hid (M5.out.alloc (.cells #[.string s, .int .i64 st.words.length] 66)).drew
    have BA := Lib.hid (show Below B w (w5.alloc (.cells #[.string s, .int .i64 st.words.length] 66)).drew from (B5.out.alloc (Nat.le_trans hBw Z5) (.cells #[.string s, .int .i64 st.words.length] 66)).drew)
    have NC := Lib.hid (show ∀ (j : Nat) u, ([.string s, .int .i64 st.words.length] : List Value)[j]? = some u → (w5.alloc (.cells #[.string s, .int .i64 st.words.length] 66)).drew.cell? ((⟨w5.heap.size, 0, none⟩ : Addr).add j) = some u from fun j u hj => by
      rw [Go.WideShapes.add_plain, Nat.zero_add]
      exact ((Whole.made w5 66 #[.string s, .int .i64 st.words.length] _ rfl).cell j).trans (by simpa using hj))
    have ZA : w5.heap.size + 1 ≤ (w5.alloc (.cells #[.string s, .int .i64 st.words.length] 66)).drew.heap.size := by simp
    obtain ⟨es, clock, hmb, _⟩ := MA.out
    have HMA := Lib.hid hmb
    clear hmb
    have a1 : (w5.alloc (.cells #[.string s, .int .i64 st.words.length] 66)).drew.cell? ⟨p, 1, none⟩ = some (.slice A1 st.labels.length c1) := KA.out.cell 1
    clear L5 O5 N5 M5 B5 S5
    go_wp2_with fail
    go_region_law (refine step_append_rows rfl (.tmp 43) (.tmp 45) 24 rfl B 66 i0 _ 2 24 Tryd.underlying24 hi hz0 hz1 hz2 rfl (by decide) (.slice A1 st.labels.length c1) st.labels.length _ rfl LA.out ⟨w5.heap.size, 0, none⟩ 1 1 [.string s, .int .i64 st.words.length] rfl rfl NC.out (fun u hu => by simp at hu; rcases hu with rfl | rfl <;> rfl) (by unfold maxLen; omega) (by omega) (by simp; omega) ?_; intro v6 w6 ho6 hg6; have hform : ∃ A6 c6, v6 = .slice A6 (st.labels.length + 1) c6 := (by rcases ho6.2 with ⟨_, h2⟩ | ⟨g, cap, cur, h1, _⟩; exact absurd h2 (by omega); exact ⟨_, _, h1⟩); obtain ⟨A6, c6, rfl⟩ := hform; have NP := ownsRow_ne LA.out KA.out (fun _ _ h => asm_lab (by injection h)); have NMB := ownsRow_ne LA.out HMA.out (fun _ _ h => by cases h); have K6 := Lib.hid ((hg6.block p KA.out.lt (fun e => NP e.symm)).trans KA.out); have M6 := Lib.hid (MA.out.kept hg6 (fun e => NMB e.symm)); have O6 := Lib.hid (World.ownsRow.kept OA.out hg6 (ownsRow_apart OA.out LA.out u32_lab)); have N6 := Lib.hid (World.ownsRow.kept NA.out hg6 (ownsRow_apart NA.out LA.out lab_nam.symm)); have B6 := Lib.hid (BA.out.grown hg6 (by simp; omega) (fun b hb => (World.ownsRow.lt LA.out b hb).1)); have S6 := Lib.hid (lines_grown SA.out hg6 (ownsRow_ne LA.out SA.out (fun _ _ h => str_lab (by injection h)))); have L6 := Lib.hid ho6; have Z6 := hg6.size; have m6 : w6.cell? ⟨p, 1, none⟩ = some (.slice A1 st.labels.length c1) := Whole.cell K6.out 1; have g6 : w6.frozen? ⟨p, 1, none⟩ = false := Whole.free K6.out 1; clear ho6 hg6 NP NMB)
    all_goals
      go_wp2_with fail
      go_ret
      have K6' : Whole w6 p asmT #[.slice A0 st.words.length c0, .slice A1 st.labels.length c1, .map (some mb), v3] := K6.out
      have hgs : w6.grownBy (w6.setCell ⟨p, 1, none⟩ (.slice A6 (st.labels.length + 1) c6)) (some p) := ⟨rfl, rfl, rfl, by simp [World.setCell], fun j _ hj => Below.heap_setCell w6 ⟨p, 1, none⟩ _ j (fun e => hj (by rw [e]))⟩
      refine ⟨.slice A0 st.words.length c0, .slice A6 (st.labels.length + 1) c6, v3, mb, rfl, ⟨LE.out.1, K6'.store 1 _, World.ownsRow.kept O6.out hgs (.inr (ownsRow_ne O6.out K6' (fun _ _ h => asm_u32 (by injection h)))), ?_, LE.out.2, ?_, World.ownsRow.kept N6.out hgs (.inr (ownsRow_ne N6.out K6' (fun _ _ h => asm_nam (by injection h)))), lines_grown S6.out hgs (fun e => whole_apart K6' S6.out str_lbl (by injection e))⟩, B6.out.setCell (p := ⟨p, 1, none⟩) LE.out.1 _, by simp [World.setCell] at Z6 ⊢; omega⟩
      · rw [List.length_append, List.flatMap_append]
        exact World.ownsRow.kept L6.out hgs (.inr (ownsRow_ne L6.out K6' (fun _ _ h => asm_lab (by injection h))))
      · rw [List.length_append]
        exact M6.out.kept hgs (fun e => PM.out (by injection e with e; exact e.symm))

theorem mark_any (s : ByteArray) (B p : Nat) (st : AsmS) (v0 v1 v3 : Value) (mb : Nat) (w : World) (h : AsmAt w B p st v0 v1 v3 mb) (hm : s.size ≤ 1000000) (hBw : B ≤ w.heap.size) (hws : st.words.length ≤ 1000000) (hls : st.labels.length ≤ 1000000) :
    Calls Tryd.prog 40 #[.pointer (some ⟨p, 0, none⟩), .string s] w (AsmPost w B p (markS s st).2 (markS s st).1) := by
  unfold markS
  cases hn : nameB s with
  | false => exact mark_no s B p st v0 v1 v3 mb w h hm hn
  | true =>
    cases hh : hasL st.labels s with
    | true => exact mark_twice s B p st v0 v1 v3 mb w h hm hn hh
    | false => exact mark_new s B p st v0 v1 v3 mb w h hm hn hh hBw hws hls
end Go.Proofs.YtnmpamfgkidmiaaDoor

/- Asm: instruction. -/
namespace Go.Proofs.YtnmpamfgkidmiaaDoor
open Go.ChangeShapes Go.WideShapes Go.ChangeAt Go.RowKit
set_option linter.unusedVariables false
set_option linter.unusedSimpArgs false
set_option linter.unusedSectionVars false
variable [LinesAt]

/-- The fields, in a block of their own that holds no other thing of the assembler's. -/
def FieldsAt (w : World) (B : Nat) (A : Option Addr) (n : Nat) (ss : List ByteArray) : Prop :=
  ss.length = n ∧ (0 < n → ∃ f cs, A = some ⟨f, 0, none⟩ ∧ (B ≤ f ∧ f ≠ LinesAt.lf) ∧ Whole w f 9 cs ∧ ∀ j, j < n → cs[j]? = some (.string (ss.getD j ⟨#[]⟩)))

theorem FieldsAt.strs {w : World} {B : Nat} {A : Option Addr} {n : Nat} {ss : List ByteArray} (h : FieldsAt w B A n ss) : Strs w A n ss :=
  ⟨h.1, fun h0 => by
    obtain ⟨f, cs, rfl, _, hw, hc⟩ := h.2 h0
    exact ⟨f, 0, rfl, hw.lt, fun j hj => by rw [Nat.zero_add, hw.cell j]; exact hc j hj⟩⟩

def lastL (ss : List ByteArray) : ByteArray := ss.getD (ss.length - 1) ⟨#[]⟩

/-- Do the fields end in a name that a label may have? -/
def isNm (op : Int) (ss : List ByteArray) : Bool := decide (1 ≤ ss.length) && (takesB op && nameB (lastL ss))

/-- The fields, a number in the place of the name. -/
def subst0 (op : Int) (ss : List ByteArray) : List ByteArray := if isNm op ss = true then ss.set (ss.length - 1) ⟨#[48]⟩ else ss

/-- The word of an operation and its fields. -/
def wordF (op : Int) (ss : List ByteArray) : Int := encOf op (fa op ss) (fb op ss) (fc op ss) (fn op ss)

/-- What an instruction's line comes to. -/
def instS (op : Int) (ss : List ByteArray) (line : Nat) (st : AsmS) : Int × AsmS :=
  if fillOk op (subst0 op ss) = true then
    addS (wordF op (subst0 op ss)) (if isNm op ss = true then ⟨st.words, st.labels, st.opens ++ [⟨op, fa op (subst0 op ss), fb op (subst0 op ss), fc op (subst0 op ss), fn op (subst0 op ss), lastL ss, st.words.length, line⟩]⟩ else st)
  else (22, st)

theorem fill_check {op : Int} {ss : List ByteArray} (h : fillOk op ss = true) : checkOf op (fa op ss) (fb op ss) (fc op ss) (fn op ss) = 0 := by
  unfold fillOk at h
  simp only [Bool.and_eq_true, decide_eq_true_eq] at h
  exact h.2.2.2.2.2.2

theorem fill_i64 {op : Int} {ss : List ByteArray} (h : fillOk op ss = true) : I64 (fa op ss) ∧ I64 (fb op ss) ∧ I64 (fc op ss) ∧ I64 (fn op ss) := by
  obtain ⟨_, a0, a1, b0, b1, c0, c1, _, _, _, n0, n1⟩ := good_of_check (fill_check h)
  unfold lowOf at n0
  unfold highOf at n1
  unfold I64
  split at n0 <;> split at n1 <;> (try split at n0) <;> (try split at n1) <;> (try split at n1) <;> (refine ⟨?_, ?_, ?_, ?_⟩ <;> omega)

theorem fill05_ok {op : Int} {ss : List ByteArray} (h : fillOk op ss = true) (A : Option Addr) (n cp : Nat) (w : World) (hS : ShapesIn w) (hs : Strs w A n ss) (hz : ∀ z ∈ ss, z.size ≤ maxLen) (hn : n ≤ 20) :
    Calls Tryd.prog 73 #[.int .i64 op, .slice A n cp] w fun e w' => e = .returned (.tuple #[.agg #[.int .i64 op, .int .i64 (fa op ss), .int .i64 (fb op ss), .int .i64 (fc op ss), .int .i64 (fn op ss)], .bool true]) ∧ Below w.heap.size w w' := by
  refine (fill_any op A n cp ss w hS hs hz hn).mono ?_
  rintro e w' ⟨o, x, y, z, t, rfl, hf, hb⟩
  obtain ⟨rfl, rfl, rfl, rfl, rfl⟩ := hf h
  rw [h]
  exact ⟨rfl, hb⟩

theorem fill05_bad {op : Int} {ss : List ByteArray} (h : fillOk op ss = false) (A : Option Addr) (n cp : Nat) (w : World) (hS : ShapesIn w) (hs : Strs w A n ss) (hz : ∀ z ∈ ss, z.size ≤ maxLen) (hn : n ≤ 20) :
    Calls Tryd.prog 73 #[.int .i64 op, .slice A n cp] w fun e w' => ∃ o a b c n, e = .returned (.tuple #[.agg #[.int .i64 o, .int .i64 a, .int .i64 b, .int .i64 c, .int .i64 n], .bool false]) ∧ Below w.heap.size w w' := by
  refine (fill_any op A n cp ss w hS hs hz hn).mono ?_
  rintro e w' ⟨o, x, y, z, t, rfl, hf, hb⟩
  rw [h]
  exact ⟨_, _, _, _, _, rfl, hb⟩

theorem encode05_ok {op a b c n : Int} (h : checkOf op a b c n = 0) (ha : I64 a) (hb : I64 b) (hc : I64 c) (hn : I64 n) (w : World) (hS : ShapesIn w) :
    Calls Tryd.prog 46 #[.agg #[.int .i64 op, .int .i64 a, .int .i64 b, .int .i64 c, .int .i64 n]] w fun e w' => e = .returned (.tuple #[.int .u32 (encOf op a b c n), .int .i64 0]) ∧ Below w.heap.size w w' := by
  refine (encode_any op a b c n w hS ha hb hc hn).mono ?_
  rintro e w' ⟨rfl, hw⟩
  unfold encR
  rw [h]
  exact ⟨rfl, hw⟩

theorem isNm_zero (op : Int) {ss : List ByteArray} (h : ss.length = 0) : isNm op ss = false := by
  unfold isNm
  rw [decide_eq_false (by omega), Bool.false_and]

theorem isNm_takes {op : Int} (ss : List ByteArray) (h : takesB op = false) : isNm op ss = false := by
  unfold isNm
  rw [h, Bool.false_and, Bool.and_false]

theorem isNm_name (op : Int) {ss : List ByteArray} (h : nameB (lastL ss) = false) : isNm op ss = false := by
  unfold isNm
  rw [h, Bool.and_false, Bool.and_false]

theorem isNm_yes {op : Int} {ss : List ByteArray} (h1 : 1 ≤ ss.length) (h2 : takesB op = true) (h3 : nameB (lastL ss) = true) : isNm op ss = true := by
  unfold isNm
  rw [decide_eq_true h1, h2, h3]
  rfl

theorem instS_no {op : Int} {ss : List ByteArray} {line : Nat} {st : AsmS} (h : isNm op ss = false) : instS op ss line st = if fillOk op ss = true then addS (wordF op ss) st else (22, st) := by
  have hs : subst0 op ss = ss := if_neg (by rw [h]; decide)
  unfold instS
  rw [hs, h]
  rfl

theorem instS_yes {op : Int} {ss : List ByteArray} {line : Nat} {st : AsmS} (h : isNm op ss = true) : instS op ss line st = if fillOk op (ss.set (ss.length - 1) ⟨#[48]⟩) = true then addS (wordF op (ss.set (ss.length - 1) ⟨#[48]⟩)) ⟨st.words, st.labels, st.opens ++ [⟨op, fa op (ss.set (ss.length - 1) ⟨#[48]⟩), fb op (ss.set (ss.length - 1) ⟨#[48]⟩), fc op (ss.set (ss.length - 1) ⟨#[48]⟩), fn op (ss.set (ss.length - 1) ⟨#[48]⟩), lastL ss, st.words.length, line⟩]⟩ else (22, st) := by
  have hs : subst0 op ss = ss.set (ss.length - 1) ⟨#[48]⟩ := if_pos h
  unfold instS
  rw [hs, if_pos h]

theorem AsmAt.far_str {w : World} {B p : Nat} {st : AsmS} {v0 v1 v3 : Value} {mb f : Nat} {cs : Array Value} (h : AsmAt w B p st v0 v1 v3 mb) (hf : Whole w f 9 cs) (hfl : f ≠ LinesAt.lf) (i : Nat) (u : Value) : AsmAt (w.setCell ⟨f, i, none⟩ u) B p st v0 v1 v3 mb := by
  have hg : w.grownBy (w.setCell ⟨f, i, none⟩ u) (some f) := ⟨rfl, rfl, rfl, by simp [World.setCell], fun j _ hj => Below.heap_setCell w ⟨f, i, none⟩ u j (fun e => hj (by rw [e]))⟩
  obtain ⟨es, clock, hmb⟩ := h.mblk
  have hpf : p ≠ f := by
    intro e
    have h1 := h.blk
    unfold Whole at h1 hf
    rw [e, hf] at h1
    exact str_asm (by injection h1 with h1; injection h1)
  have hmf : mb ≠ f := by
    intro e
    unfold Whole at hf
    rw [e, hf] at hmb
    cases hmb
  exact ⟨h.le, (hg.block p h.blk.lt (fun e => hpf (by injection e))).trans h.blk, World.ownsRow.kept h.words hg (.inr (ownsRow_ne h.words hf (fun _ _ h => str_u32 (by injection h)))), World.ownsRow.kept h.labels hg (.inr (ownsRow_ne h.labels hf (fun _ _ h => str_lab (by injection h)))), h.leM, h.map.kept hg (fun e => hmf (by injection e)), World.ownsRow.kept h.opens hg (.inr (ownsRow_ne h.opens hf (fun _ _ h => str_nam (by injection h)))), lines_grown h.lines hg (fun e => hfl (by injection e))⟩

theorem fields_set {w : World} {B f m : Nat} {cs : Array Value} {ss : List ByteArray} (hl : ss.length = m + 1) (hB : B ≤ f ∧ f ≠ LinesAt.lf) (hf : Whole w f 9 cs) (hc : ∀ j, j < m + 1 → cs[j]? = some (.string (ss.getD j ⟨#[]⟩))) : FieldsAt (w.setCell ⟨f, m, none⟩ (.string ⟨#[48]⟩)) B (some ⟨f, 0, none⟩) (m + 1) (ss.set m ⟨#[48]⟩) := by
  refine ⟨by rw [List.length_set]; exact hl, fun _ => ⟨f, cs.setIfInBounds m (.string ⟨#[48]⟩), rfl, hB, hf.store m _, fun j hj => ?_⟩⟩
  have hlt : m < cs.size := by
    have := hc m (by omega)
    exact (Array.getElem?_eq_some_iff.1 this).1
  rw [Array.getElem?_setIfInBounds]
  by_cases e : m = j
  · subst e
    rw [if_pos rfl, if_pos hlt]
    simp [List.getD_eq_getElem?_getD, hl]
  · rw [if_neg e, hc j hj]
    simp [List.getD_eq_getElem?_getD, List.getElem?_set, e]

theorem name_nonempty {s : ByteArray} (h : nameB s = true) : s.toList.isEmpty = false := by
  rw [Lib.toList_data]
  cases hl : s.data.toList with
  | cons a l => rfl
  | nil =>
    have h0 : s.size = 0 := by
      have h' := congrArg List.length hl
      rw [Array.length_toList] at h'
      exact h'
    unfold nameB at h
    rw [h0] at h
    simp at h

theorem nam_info : (Tryd.prog.info? 95).map (fun i => (i.zero, i.size, i.bytes)) = some (some (.agg #[.int .i64 0, .int .i64 0, .int .i64 0, .int .i64 0, .int .i64 0, .string ⟨#[]⟩, .int .i64 0, .int .i64 0]), 8, 72) := by kernel_rfl

/-- When the row of open instructions has grown by one, and its slice is stored. -/
theorem asm_grown {w w6 : World} {B p : Nat} {st : AsmS} {v0 v1 v3 : Value} {mb : Nat} {A6 : Option Addr} {c6 : Nat} {cs : List Value} (h : AsmAt w B p st v0 v1 v3 mb) (hg : w.grownBy w6 v3.ownBlock) (ho : w6.ownsRow B 95 8 (.slice A6 (st.opens.length + 1) c6) (st.opens.length + 1) (st.opens.flatMap Opn.cells ++ cs)) :
    Whole w6 p asmT #[v0, v1, .map (some mb), v3] ∧ ∀ op a b c n label at_ line, cs = Opn.cells ⟨op, a, b, c, n, label, at_, line⟩ → AsmAt (w6.setCell ⟨p, 3, none⟩ (.slice A6 (st.opens.length + 1) c6)) B p ⟨st.words, st.labels, st.opens ++ [⟨op, a, b, c, n, label, at_, line⟩]⟩ v0 v1 (.slice A6 (st.opens.length + 1) c6) mb := by
  obtain ⟨es, clock, hmb⟩ := h.mblk
  have NP := ownsRow_ne h.opens h.blk (fun _ _ h => asm_nam (by injection h))
  have NM := ownsRow_ne h.opens hmb (fun _ _ h => by cases h)
  have K6 : Whole w6 p asmT #[v0, v1, .map (some mb), v3] := (hg.block p h.blk.lt (fun e => NP e.symm)).trans h.blk
  refine ⟨K6, fun op a b c n label at_ line hcs => ?_⟩
  have hgs : w6.grownBy (w6.setCell ⟨p, 3, none⟩ (.slice A6 (st.opens.length + 1) c6)) (some p) := ⟨rfl, rfl, rfl, by simp [World.setCell], fun j _ hj => Below.heap_setCell w6 ⟨p, 3, none⟩ _ j (fun e => hj (by rw [e]))⟩
  have O6 := World.ownsRow.kept h.words hg (ownsRow_apart h.words h.opens u32_nam)
  have L6 := World.ownsRow.kept h.labels hg (ownsRow_apart h.labels h.opens lab_nam)
  have M6 := h.map.kept hg (fun e => NM e.symm)
  refine ⟨h.le, K6.store 3 _, World.ownsRow.kept O6 hgs (.inr (ownsRow_ne O6 K6 (fun _ _ h => asm_u32 (by injection h)))), World.ownsRow.kept L6 hgs (.inr (ownsRow_ne L6 K6 (fun _ _ h => asm_lab (by injection h)))), h.leM, M6.kept hgs (fun e => h.apart (by injection e with e; exact e.symm)), ?_, lines_grown (lines_grown h.lines hg (ownsRow_ne h.opens h.lines (fun _ _ h => str_nam (by injection h)))) hgs (fun e => whole_apart K6 (lines_grown h.lines hg (ownsRow_ne h.opens h.lines (fun _ _ h => str_nam (by injection h)))) str_lbl (by injection e))⟩
  rw [List.length_append, List.flatMap_append]
  have : w6.ownsRow B 95 8 (.slice A6 (st.opens.length + 1) c6) (st.opens.length + 1) (st.opens.flatMap Opn.cells ++ [(⟨op, a, b, c, n, label, at_, line⟩ : Opn)].flatMap Opn.cells) := by
    rw [List.flatMap_singleton, ← hcs]
    exact ho
  exact World.ownsRow.kept this hgs (.inr (ownsRow_ne this K6 (fun _ _ h => asm_nam (by injection h))))

end Go.Proofs.YtnmpamfgkidmiaaDoor

/- Asm: instruction, no field. -/
namespace Go.Proofs.YtnmpamfgkidmiaaDoor
open Go.ChangeShapes Go.WideShapes Go.ChangeAt Go.RowKit
set_option linter.unusedVariables false
set_option linter.unusedSimpArgs false
set_option linter.unusedSectionVars false
variable [LinesAt]

set_option maxHeartbeats 8000000 in
set_option maxRecDepth 100000 in
theorem inst_P0 (op : Int) (A : Option Addr) (n cp : Nat) (ss : List ByteArray) (line : Nat) (B p : Nat) (st : AsmS) (v0 v1 v3 : Value) (mb : Nat) (w : World) (h : AsmAt w B p st v0 v1 v3 mb) (hF : FieldsAt w B A n ss) (hS : ∀ W, Below B w W → ShapesIn W) (hBw : B ≤ w.heap.size) (hws : st.words.length ≤ 1000000) (hz : ∀ z ∈ ss, z.size ≤ 1000000) (hn : n ≤ 20) (h0 : n = 0) :
    Calls Tryd.prog 44 #[.pointer (some ⟨p, 0, none⟩), .int .i64 op, .slice A n cp, .int .i64 line] w (AsmPost w B p (instS op ss line st).2 (instS op ss line st).1) := by
  have H := Lib.hid h
  have HS := Lib.hid hS
  have HF := Lib.hid hF
  have hssl := hF.1
  have TK := Lib.hid (fun w => takesN_any op w)
  subst h0
  have hnm := isNm_zero op (ss := ss) (by omega)
  rw [instS_no hnm]
  cases hok : fillOk op ss with
  | false =>
    rw [if_neg (by decide)]
    have FB := Lib.hid (fill05_bad hok A 0 cp w (HS.out w (Below.refl _ _)) HF.out.strs (fun z hz' => by have := hz z hz'; unfold maxLen; omega) hn)
    unfold AsmPost
    clear h hF hS hnm hz hok
    have d0 : decide ((0 : Int) ≤ -1) = false := rfl
    go_enter Tryd.func44, Tryd.ntmps44
    go_wp2_with fail
    refine FB.out.mono ?_
    rintro e w2 ⟨o, a, b, c, t, rfl, hb2⟩
    have H2 := Lib.hid (H.out.below (hb2.alloc hb2.size (.cells #[.int .i64 o, .int .i64 a, .int .i64 b, .int .i64 c, .int .i64 t] 93)))
    have B2 := Lib.hid ((hb2.alloc hb2.size (.cells #[.int .i64 o, .int .i64 a, .int .i64 b, .int .i64 c, .int .i64 t] 93)).mono hBw)
    have Z2 := hb2.size
    clear hb2
    go_wp2_with fail
    go_ret
    exact ⟨v0, v1, v3, mb, rfl, H2.out, B2.out, by simp; omega⟩
  | true =>
    rw [if_pos rfl]
    have FK := Lib.hid (fill05_ok hok A 0 cp w (HS.out w (Below.refl _ _)) HF.out.strs (fun z hz' => by have := hz z hz'; unfold maxLen; omega) hn)
    obtain ⟨ja, jb, jc, jn⟩ := fill_i64 hok
    have EN := Lib.hid (fun w hs => encode05_ok (fill_check hok) ja jb jc jn w hs)
    have AD := Lib.hid (fun w' (h' : AsmAt w' B p st v0 v1 v3 mb) hB => add_any (wordF op ss) B p st v0 v1 v3 mb w' h' hB hws)
    have WF := Lib.hid (show encOf op (fa op ss) (fb op ss) (fc op ss) (fn op ss) = wordF op ss from rfl)
    rw [WF.out] at EN
    unfold AsmPost at *
    clear h hF hS hnm hz hok ja jb jc jn WF
    generalize addS (wordF op ss) st = r at *
    generalize wordF op ss = wd at *
    generalize fa op ss = ia at *
    generalize fb op ss = ib at *
    generalize fc op ss = ic at *
    generalize fn op ss = imm at *
    have d0 : decide ((0 : Int) ≤ -1) = false := rfl
    go_enter Tryd.func44, Tryd.ntmps44
    go_wp2_with fail
    refine FK.out.mono ?_
    rintro e w2 ⟨rfl, hb2⟩
    have BI := hb2.alloc hb2.size (.cells #[.int .i64 op, .int .i64 ia, .int .i64 ib, .int .i64 ic, .int .i64 imm] 93)
    have H2 := Lib.hid (H.out.below BI)
    have B2 := Lib.hid (BI.mono hBw)
    have S2 := Lib.hid (HS.out _ B2.out)
    have Z2 : w.heap.size ≤ (w2.alloc (.cells #[.int .i64 op, .int .i64 ia, .int .i64 ib, .int .i64 ic, .int .i64 imm] 93)).heap.size := BI.size
    have Q2 := Lib.hid (Whole.made w2 93 #[.int .i64 op, .int .i64 ia, .int .i64 ib, .int .i64 ic, .int .i64 imm] _ rfl)
    have hd : ∀ j, (w2.alloc (.cells #[.int .i64 op, .int .i64 ia, .int .i64 ib, .int .i64 ic, .int .i64 imm] 93)).cell? ⟨w2.heap.size, j, none⟩ = #[.int .i64 op, .int .i64 ia, .int .i64 ib, .int .i64 ic, .int .i64 imm][j]? := fun j => Q2.out.cell j
    have q0 : (w2.alloc (.cells #[.int .i64 op, .int .i64 ia, .int .i64 ib, .int .i64 ic, .int .i64 imm] 93)).cell? ⟨w2.heap.size, 0, none⟩ = some (.int .i64 op) := hd 0
    have q1 : (w2.alloc (.cells #[.int .i64 op, .int .i64 ia, .int .i64 ib, .int .i64 ic, .int .i64 imm] 93)).cell? ⟨w2.heap.size, 1, none⟩ = some (.int .i64 ia) := hd 1
    have q2 : (w2.alloc (.cells #[.int .i64 op, .int .i64 ia, .int .i64 ib, .int .i64 ic, .int .i64 imm] 93)).cell? ⟨w2.heap.size, 2, none⟩ = some (.int .i64 ib) := hd 2
    have q3 : (w2.alloc (.cells #[.int .i64 op, .int .i64 ia, .int .i64 ib, .int .i64 ic, .int .i64 imm] 93)).cell? ⟨w2.heap.size, 3, none⟩ = some (.int .i64 ic) := hd 3
    have q4 : (w2.alloc (.cells #[.int .i64 op, .int .i64 ia, .int .i64 ib, .int .i64 ic, .int .i64 imm] 93)).cell? ⟨w2.heap.size, 4, none⟩ = some (.int .i64 imm) := hd 4
    clear hb2 hd BI
    go_wp2_with fail
    refine (EN.out _ S2.out).mono ?_
    rintro e w3 ⟨rfl, hb3⟩
    have H3 := Lib.hid (H2.out.below hb3)
    have B3 := Lib.hid (B2.out.trans (hb3.mono (Nat.le_trans hBw Z2)))
    have Z3 : w.heap.size ≤ w3.heap.size := Nat.le_trans Z2 hb3.size
    clear hb3 H2 B2 q0 q1 q2 q3 q4 Q2
    go_wp2_with fail
    refine (AD.out _ H3.out (Nat.le_trans hBw Z3)).mono ?_
    rintro e w4 ⟨u0, u1, u3, m4, rfl, ha, hb4, hz4⟩
    have HA := Lib.hid ha
    have B4 := Lib.hid (B3.out.trans hb4)
    clear ha hb4
    go_wp2_with fail
    go_ret
    exact ⟨u0, u1, u3, m4, rfl, HA.out, B4.out, Nat.le_trans Z3 hz4⟩

end Go.Proofs.YtnmpamfgkidmiaaDoor

/- Asm: instruction, none that takes a label. -/
namespace Go.Proofs.YtnmpamfgkidmiaaDoor
open Go.ChangeShapes Go.WideShapes Go.ChangeAt Go.RowKit
set_option linter.unusedVariables false
set_option linter.unusedSimpArgs false
set_option linter.unusedSectionVars false
variable [LinesAt]

set_option maxHeartbeats 8000000 in
set_option maxRecDepth 100000 in
theorem inst_P1 (op : Int) (A : Option Addr) (n cp : Nat) (ss : List ByteArray) (line : Nat) (B p : Nat) (st : AsmS) (v0 v1 v3 : Value) (mb : Nat) (w : World) (h : AsmAt w B p st v0 v1 v3 mb) (hF : FieldsAt w B A n ss) (hS : ∀ W, Below B w W → ShapesIn W) (hBw : B ≤ w.heap.size) (hws : st.words.length ≤ 1000000) (hz : ∀ z ∈ ss, z.size ≤ 1000000) (hn : n ≤ 20) (h0 : 1 ≤ n) (ht : takesB op = false) :
    Calls Tryd.prog 44 #[.pointer (some ⟨p, 0, none⟩), .int .i64 op, .slice A n cp, .int .i64 line] w (AsmPost w B p (instS op ss line st).2 (instS op ss line st).1) := by
  have H := Lib.hid h
  have HS := Lib.hid hS
  have HF := Lib.hid hF
  have hssl := hF.1
  have TK := Lib.hid (fun w => takesN_any op w)
  have hnm := isNm_takes ss ht
  rw [instS_no hnm]
  rw [ht] at TK
  cases hok : fillOk op ss with
  | false =>
    rw [if_neg (by decide)]
    have FB := Lib.hid (fill05_bad hok A n cp w (HS.out w (Below.refl _ _)) HF.out.strs (fun z hz' => by have := hz z hz'; unfold maxLen; omega) hn)
    unfold AsmPost
    clear h hF hS hnm hz hok
    have d0 : decide ((0 : Int) ≤ n - 1) = true := decide_eq_true (by omega)
    go_enter Tryd.func44, Tryd.ntmps44
    go_wp2_with fail
    refine (TK.out _).mono ?_
    rintro e w1 ⟨rfl, rfl⟩
    go_wp2_with fail
    refine FB.out.mono ?_
    rintro e w2 ⟨o, a, b, c, t, rfl, hb2⟩
    have H2 := Lib.hid (H.out.below (hb2.alloc hb2.size (.cells #[.int .i64 o, .int .i64 a, .int .i64 b, .int .i64 c, .int .i64 t] 93)))
    have B2 := Lib.hid ((hb2.alloc hb2.size (.cells #[.int .i64 o, .int .i64 a, .int .i64 b, .int .i64 c, .int .i64 t] 93)).mono hBw)
    have Z2 := hb2.size
    clear hb2
    go_wp2_with fail
    go_ret
    exact ⟨v0, v1, v3, mb, rfl, H2.out, B2.out, by simp; omega⟩
  | true =>
    rw [if_pos rfl]
    have FK := Lib.hid (fill05_ok hok A n cp w (HS.out w (Below.refl _ _)) HF.out.strs (fun z hz' => by have := hz z hz'; unfold maxLen; omega) hn)
    obtain ⟨ja, jb, jc, jn⟩ := fill_i64 hok
    have EN := Lib.hid (fun w hs => encode05_ok (fill_check hok) ja jb jc jn w hs)
    have AD := Lib.hid (fun w' (h' : AsmAt w' B p st v0 v1 v3 mb) hB => add_any (wordF op ss) B p st v0 v1 v3 mb w' h' hB hws)
    have WF := Lib.hid (show encOf op (fa op ss) (fb op ss) (fc op ss) (fn op ss) = wordF op ss from rfl)
    rw [WF.out] at EN
    unfold AsmPost at *
    clear h hF hS hnm hz hok ja jb jc jn WF
    generalize addS (wordF op ss) st = r at *
    generalize wordF op ss = wd at *
    generalize fa op ss = ia at *
    generalize fb op ss = ib at *
    generalize fc op ss = ic at *
    generalize fn op ss = imm at *
    have d0 : decide ((0 : Int) ≤ n - 1) = true := decide_eq_true (by omega)
    go_enter Tryd.func44, Tryd.ntmps44
    go_wp2_with fail
    refine (TK.out _).mono ?_
    rintro e w1 ⟨rfl, rfl⟩
    go_wp2_with fail
    refine FK.out.mono ?_
    rintro e w2 ⟨rfl, hb2⟩
    have BI := hb2.alloc hb2.size (.cells #[.int .i64 op, .int .i64 ia, .int .i64 ib, .int .i64 ic, .int .i64 imm] 93)
    have H2 := Lib.hid (H.out.below BI)
    have B2 := Lib.hid (BI.mono hBw)
    have S2 := Lib.hid (HS.out _ B2.out)
    have Z2 : w.heap.size ≤ (w2.alloc (.cells #[.int .i64 op, .int .i64 ia, .int .i64 ib, .int .i64 ic, .int .i64 imm] 93)).heap.size := BI.size
    have Q2 := Lib.hid (Whole.made w2 93 #[.int .i64 op, .int .i64 ia, .int .i64 ib, .int .i64 ic, .int .i64 imm] _ rfl)
    have hd : ∀ j, (w2.alloc (.cells #[.int .i64 op, .int .i64 ia, .int .i64 ib, .int .i64 ic, .int .i64 imm] 93)).cell? ⟨w2.heap.size, j, none⟩ = #[.int .i64 op, .int .i64 ia, .int .i64 ib, .int .i64 ic, .int .i64 imm][j]? := fun j => Q2.out.cell j
    have q0 : (w2.alloc (.cells #[.int .i64 op, .int .i64 ia, .int .i64 ib, .int .i64 ic, .int .i64 imm] 93)).cell? ⟨w2.heap.size, 0, none⟩ = some (.int .i64 op) := hd 0
    have q1 : (w2.alloc (.cells #[.int .i64 op, .int .i64 ia, .int .i64 ib, .int .i64 ic, .int .i64 imm] 93)).cell? ⟨w2.heap.size, 1, none⟩ = some (.int .i64 ia) := hd 1
    have q2 : (w2.alloc (.cells #[.int .i64 op, .int .i64 ia, .int .i64 ib, .int .i64 ic, .int .i64 imm] 93)).cell? ⟨w2.heap.size, 2, none⟩ = some (.int .i64 ib) := hd 2
    have q3 : (w2.alloc (.cells #[.int .i64 op, .int .i64 ia, .int .i64 ib, .int .i64 ic, .int .i64 imm] 93)).cell? ⟨w2.heap.size, 3, none⟩ = some (.int .i64 ic) := hd 3
    have q4 : (w2.alloc (.cells #[.int .i64 op, .int .i64 ia, .int .i64 ib, .int .i64 ic, .int .i64 imm] 93)).cell? ⟨w2.heap.size, 4, none⟩ = some (.int .i64 imm) := hd 4
    clear hb2 hd BI
    go_wp2_with fail
    refine (EN.out _ S2.out).mono ?_
    rintro e w3 ⟨rfl, hb3⟩
    have H3 := Lib.hid (H2.out.below hb3)
    have B3 := Lib.hid (B2.out.trans (hb3.mono (Nat.le_trans hBw Z2)))
    have Z3 : w.heap.size ≤ w3.heap.size := Nat.le_trans Z2 hb3.size
    clear hb3 H2 B2 q0 q1 q2 q3 q4 Q2
    go_wp2_with fail
    refine (AD.out _ H3.out (Nat.le_trans hBw Z3)).mono ?_
    rintro e w4 ⟨u0, u1, u3, m4, rfl, ha, hb4, hz4⟩
    have HA := Lib.hid ha
    have B4 := Lib.hid (B3.out.trans hb4)
    clear ha hb4
    go_wp2_with fail
    go_ret
    exact ⟨u0, u1, u3, m4, rfl, HA.out, B4.out, Nat.le_trans Z3 hz4⟩

end Go.Proofs.YtnmpamfgkidmiaaDoor

/- Asm: instruction, no name. -/
namespace Go.Proofs.YtnmpamfgkidmiaaDoor
open Go.ChangeShapes Go.WideShapes Go.ChangeAt Go.RowKit
set_option linter.unusedVariables false
set_option linter.unusedSimpArgs false
set_option linter.unusedSectionVars false
variable [LinesAt]

set_option maxHeartbeats 8000000 in
set_option maxRecDepth 100000 in
theorem inst_P2 (op : Int) (A : Option Addr) (n cp : Nat) (ss : List ByteArray) (line : Nat) (B p : Nat) (st : AsmS) (v0 v1 v3 : Value) (mb : Nat) (w : World) (h : AsmAt w B p st v0 v1 v3 mb) (hF : FieldsAt w B A n ss) (hS : ∀ W, Below B w W → ShapesIn W) (hBw : B ≤ w.heap.size) (hws : st.words.length ≤ 1000000) (hz : ∀ z ∈ ss, z.size ≤ 1000000) (hn : n ≤ 20) (h0 : 1 ≤ n) (ht : takesB op = true) (hl : nameB (lastL ss) = false) :
    Calls Tryd.prog 44 #[.pointer (some ⟨p, 0, none⟩), .int .i64 op, .slice A n cp, .int .i64 line] w (AsmPost w B p (instS op ss line st).2 (instS op ss line st).1) := by
  have H := Lib.hid h
  have HS := Lib.hid hS
  have HF := Lib.hid hF
  have hssl := hF.1
  have TK := Lib.hid (fun w => takesN_any op w)
  have hnm := isNm_name op hl
  rw [instS_no hnm]
  rw [ht] at TK
  obtain ⟨f, cs, rfl, _, hwf, hcf⟩ := hF.2 (by omega)
  obtain ⟨m, rfl⟩ : ∃ m, n = m + 1 := ⟨n - 1, by omega⟩
  have ul : w.cell? ⟨f, m, none⟩ = some (.string (lastL ss)) := by
    rw [hwf.cell m, hcf m (by omega)]
    unfold lastL
    rw [hssl]
    rfl
  have hls : (lastL ss).size ≤ 1000000 := by
    unfold lastL
    rw [List.getD_eq_getElem?_getD, List.getElem?_eq_getElem (by omega)]
    exact hz _ (List.getElem_mem _)
  have NM := Lib.hid (fun w => name05_any (lastL ss) w hls)
  rw [hl] at NM
  clear hwf hcf hls hl
  generalize lastL ss = ll at *
  cases hok : fillOk op ss with
  | false =>
    rw [if_neg (by decide)]
    have FB := Lib.hid (fill05_bad hok (some ⟨f, 0, none⟩) (m + 1) cp w (HS.out w (Below.refl _ _)) HF.out.strs (fun z hz' => by have := hz z hz'; unfold maxLen; omega) hn)
    unfold AsmPost
    clear h hF hS hnm hz hok
    have d0 : decide ((0 : Int) ≤ ((m + 1 : Nat) : Int) - 1) = true := decide_eq_true (by omega)
    have d0' : (0 : Int) ≤ m := by omega
    go_enter Tryd.func44, Tryd.ntmps44
    go_wp2_with fail
    refine (TK.out _).mono ?_
    rintro e w1 ⟨rfl, rfl⟩
    go_wp2_with fail
    refine (NM.out _).mono ?_
    rintro e w1 ⟨rfl, rfl⟩
    go_wp2_with fail
    refine FB.out.mono ?_
    rintro e w2 ⟨o, a, b, c, t, rfl, hb2⟩
    have H2 := Lib.hid (H.out.below (hb2.alloc hb2.size (.cells #[.int .i64 o, .int .i64 a, .int .i64 b, .int .i64 c, .int .i64 t] 93)))
    have B2 := Lib.hid ((hb2.alloc hb2.size (.cells #[.int .i64 o, .int .i64 a, .int .i64 b, .int .i64 c, .int .i64 t] 93)).mono hBw)
    have Z2 := hb2.size
    clear hb2
    go_wp2_with fail
    go_ret
    exact ⟨v0, v1, v3, mb, rfl, H2.out, B2.out, by simp; omega⟩
  | true =>
    rw [if_pos rfl]
    have FK := Lib.hid (fill05_ok hok (some ⟨f, 0, none⟩) (m + 1) cp w (HS.out w (Below.refl _ _)) HF.out.strs (fun z hz' => by have := hz z hz'; unfold maxLen; omega) hn)
    obtain ⟨ja, jb, jc, jn⟩ := fill_i64 hok
    have EN := Lib.hid (fun w hs => encode05_ok (fill_check hok) ja jb jc jn w hs)
    have AD := Lib.hid (fun w' (h' : AsmAt w' B p st v0 v1 v3 mb) hB => add_any (wordF op ss) B p st v0 v1 v3 mb w' h' hB hws)
    have WF := Lib.hid (show encOf op (fa op ss) (fb op ss) (fc op ss) (fn op ss) = wordF op ss from rfl)
    rw [WF.out] at EN
    unfold AsmPost at *
    clear h hF hS hnm hz hok ja jb jc jn WF
    generalize addS (wordF op ss) st = r at *
    generalize wordF op ss = wd at *
    generalize fa op ss = ia at *
    generalize fb op ss = ib at *
    generalize fc op ss = ic at *
    generalize fn op ss = imm at *
    have d0 : decide ((0 : Int) ≤ ((m + 1 : Nat) : Int) - 1) = true := decide_eq_true (by omega)
    have d0' : (0 : Int) ≤ m := by omega
    go_enter Tryd.func44, Tryd.ntmps44
    go_wp2_with fail
    refine (TK.out _).mono ?_
    rintro e w1 ⟨rfl, rfl⟩
    go_wp2_with fail
    refine (NM.out _).mono ?_
    rintro e w1 ⟨rfl, rfl⟩
    go_wp2_with fail
    refine FK.out.mono ?_
    rintro e w2 ⟨rfl, hb2⟩
    have BI := hb2.alloc hb2.size (.cells #[.int .i64 op, .int .i64 ia, .int .i64 ib, .int .i64 ic, .int .i64 imm] 93)
    have H2 := Lib.hid (H.out.below BI)
    have B2 := Lib.hid (BI.mono hBw)
    have S2 := Lib.hid (HS.out _ B2.out)
    have Z2 : w.heap.size ≤ (w2.alloc (.cells #[.int .i64 op, .int .i64 ia, .int .i64 ib, .int .i64 ic, .int .i64 imm] 93)).heap.size := BI.size
    have Q2 := Lib.hid (Whole.made w2 93 #[.int .i64 op, .int .i64 ia, .int .i64 ib, .int .i64 ic, .int .i64 imm] _ rfl)
    have hd : ∀ j, (w2.alloc (.cells #[.int .i64 op, .int .i64 ia, .int .i64 ib, .int .i64 ic, .int .i64 imm] 93)).cell? ⟨w2.heap.size, j, none⟩ = #[.int .i64 op, .int .i64 ia, .int .i64 ib, .int .i64 ic, .int .i64 imm][j]? := fun j => Q2.out.cell j
    have q0 : (w2.alloc (.cells #[.int .i64 op, .int .i64 ia, .int .i64 ib, .int .i64 ic, .int .i64 imm] 93)).cell? ⟨w2.heap.size, 0, none⟩ = some (.int .i64 op) := hd 0
    have q1 : (w2.alloc (.cells #[.int .i64 op, .int .i64 ia, .int .i64 ib, .int .i64 ic, .int .i64 imm] 93)).cell? ⟨w2.heap.size, 1, none⟩ = some (.int .i64 ia) := hd 1
    have q2 : (w2.alloc (.cells #[.int .i64 op, .int .i64 ia, .int .i64 ib, .int .i64 ic, .int .i64 imm] 93)).cell? ⟨w2.heap.size, 2, none⟩ = some (.int .i64 ib) := hd 2
    have q3 : (w2.alloc (.cells #[.int .i64 op, .int .i64 ia, .int .i64 ib, .int .i64 ic, .int .i64 imm] 93)).cell? ⟨w2.heap.size, 3, none⟩ = some (.int .i64 ic) := hd 3
    have q4 : (w2.alloc (.cells #[.int .i64 op, .int .i64 ia, .int .i64 ib, .int .i64 ic, .int .i64 imm] 93)).cell? ⟨w2.heap.size, 4, none⟩ = some (.int .i64 imm) := hd 4
    clear hb2 hd BI
    go_wp2_with fail
    refine (EN.out _ S2.out).mono ?_
    rintro e w3 ⟨rfl, hb3⟩
    have H3 := Lib.hid (H2.out.below hb3)
    have B3 := Lib.hid (B2.out.trans (hb3.mono (Nat.le_trans hBw Z2)))
    have Z3 : w.heap.size ≤ w3.heap.size := Nat.le_trans Z2 hb3.size
    clear hb3 H2 B2 q0 q1 q2 q3 q4 Q2
    go_wp2_with fail
    refine (AD.out _ H3.out (Nat.le_trans hBw Z3)).mono ?_
    rintro e w4 ⟨u0, u1, u3, m4, rfl, ha, hb4, hz4⟩
    have HA := Lib.hid ha
    have B4 := Lib.hid (B3.out.trans hb4)
    clear ha hb4
    go_wp2_with fail
    go_ret
    exact ⟨u0, u1, u3, m4, rfl, HA.out, B4.out, Nat.le_trans Z3 hz4⟩

end Go.Proofs.YtnmpamfgkidmiaaDoor

/- Asm: instruction, with a label. -/
namespace Go.Proofs.YtnmpamfgkidmiaaDoor
open Go.ChangeShapes Go.WideShapes Go.ChangeAt Go.RowKit
set_option linter.unusedVariables false
set_option linter.unusedSimpArgs false
set_option linter.unusedSectionVars false
variable [LinesAt]

set_option maxHeartbeats 8000000 in
set_option maxRecDepth 100000 in
theorem inst_P3 (op : Int) (A : Option Addr) (n cp : Nat) (ss : List ByteArray) (line : Nat) (B p : Nat) (st : AsmS) (v0 v1 v3 : Value) (mb : Nat) (w : World) (h : AsmAt w B p st v0 v1 v3 mb) (hF : FieldsAt w B A n ss) (hS : ∀ W, Below B w W → ShapesIn W) (hBw : B ≤ w.heap.size) (hws : st.words.length ≤ 1000000) (hz : ∀ z ∈ ss, z.size ≤ 1000000) (hn : n ≤ 20) (h0 : 1 ≤ n) (ht : takesB op = true) (hl : nameB (lastL ss) = true) (hos : st.opens.length ≤ 1000000) :
    Calls Tryd.prog 44 #[.pointer (some ⟨p, 0, none⟩), .int .i64 op, .slice A n cp, .int .i64 line] w (AsmPost w B p (instS op ss line st).2 (instS op ss line st).1) := by
  have H := Lib.hid h
  have HS := Lib.hid hS
  have HF := Lib.hid hF
  have hssl := hF.1
  have TK := Lib.hid (fun w => takesN_any op w)
  have hnm := isNm_yes (ss := ss) (by omega) ht hl
  rw [instS_yes hnm]
  rw [ht] at TK
  obtain ⟨f, cs, rfl, hBf, hwf, hcf⟩ := hF.2 (by omega)
  obtain ⟨m, rfl⟩ : ∃ m, n = m + 1 := ⟨n - 1, by omega⟩
  rw [show ss.length - 1 = m by omega]
  have ul : w.cell? ⟨f, m, none⟩ = some (.string (lastL ss)) := by
    rw [hwf.cell m, hcf m (by omega)]
    unfold lastL
    rw [hssl]
    rfl
  have uf : w.frozen? ⟨f, m, none⟩ = false := hwf.free m
  have hls : (lastL ss).size ≤ 1000000 := by
    unfold lastL
    rw [List.getD_eq_getElem?_getD, List.getElem?_eq_getElem (by omega)]
    exact hz _ (List.getElem_mem _)
  have NM := Lib.hid (fun w => name05_any (lastL ss) w hls)
  have hne := Lib.hid (name_nonempty hl)
  rw [hl] at NM
  have H1 := Lib.hid (h.far_str hwf hBf.2 m (.string ⟨#[48]⟩))
  have F1 := Lib.hid (show FieldsAt (w.setCell ⟨f, m, none⟩ (.string ⟨#[48]⟩)) B (some ⟨f, 0, none⟩) (m + 1) (ss.set m ⟨#[48]⟩) from fields_set hssl hBf hwf hcf)
  have B1 := Lib.hid ((Below.refl B w).setCell (p := ⟨f, m, none⟩) hBf.1 (.string ⟨#[48]⟩))
  have Z1 := Lib.hid (show (w.setCell ⟨f, m, none⟩ (.string ⟨#[48]⟩)).heap.size = w.heap.size by simp [World.setCell])
  have hz1 : ∀ z ∈ ss.set m ⟨#[48]⟩, z.size ≤ 1000000 := fun z hz' => by
    rcases List.mem_or_eq_of_mem_set hz' with h' | rfl
    · exact hz z h'
    · decide
  have d0 : decide ((0 : Int) ≤ ((m + 1 : Nat) : Int) - 1) = true := decide_eq_true (by omega)
  have d0' : (0 : Int) ≤ m := by omega
  obtain ⟨A3, c3, rfl⟩ : ∃ A3 c3, v3 = .slice A3 st.opens.length c3 := by
    rcases h.opens.2 with ⟨h1, h2⟩ | ⟨g, cap, cur, h1, _⟩
    · exact ⟨none, 0, by rw [h2]; exact h1⟩
    · exact ⟨_, _, h1⟩
  obtain ⟨A0, c0, rfl, _⟩ := Owns.form h.words
  clear hwf hcf hls hl hF hz hnm h HF H
  generalize lastL ss = ll at *
  generalize ss.set m ⟨#[48]⟩ = s2 at *
  cases hok : fillOk op s2 with
  | false =>
    rw [if_neg (by decide)]
    have FB := Lib.hid (fill05_bad hok (some ⟨f, 0, none⟩) (m + 1) cp _ (HS.out _ B1.out) F1.out.strs (fun z hz' => by have := hz1 z hz'; unfold maxLen; omega) hn)
    unfold AsmPost
    clear hok hz1 F1
    go_enter Tryd.func44, Tryd.ntmps44
    go_wp2_with fail
    refine (TK.out _).mono ?_
    rintro e w1 ⟨rfl, rfl⟩
    go_wp2_with fail
    refine (NM.out _).mono ?_
    rintro e w1 ⟨rfl, rfl⟩
    go_wp2_with fail
    refine FB.out.mono ?_
    rintro e w2 ⟨o, a, b, c, t, rfl, hb2⟩
    have H2 := Lib.hid (H1.out.below (hb2.alloc hb2.size (.cells #[.int .i64 o, .int .i64 a, .int .i64 b, .int .i64 c, .int .i64 t] 93)))
    have B2 := Lib.hid (B1.out.trans ((hb2.alloc hb2.size (.cells #[.int .i64 o, .int .i64 a, .int .i64 b, .int .i64 c, .int .i64 t] 93)).mono (by rw [Z1.out]; exact hBw)))
    have Z2 := hb2.size
    rw [Z1.out] at Z2
    clear hb2 ul uf
    go_wp2_with fail
    go_ret
    exact ⟨_, v1, _, mb, rfl, H2.out, B2.out, by simp; omega⟩
  | true =>
    rw [if_pos rfl]
    have FK := Lib.hid (fill05_ok hok (some ⟨f, 0, none⟩) (m + 1) cp _ (HS.out _ B1.out) F1.out.strs (fun z hz' => by have := hz1 z hz'; unfold maxLen; omega) hn)
    obtain ⟨ja, jb, jc, jn⟩ := fill_i64 hok
    have EN := Lib.hid (fun w hs => encode05_ok (fill_check hok) ja jb jc jn w hs)
    have WF := Lib.hid (show encOf op (fa op s2) (fb op s2) (fc op s2) (fn op s2) = wordF op s2 from rfl)
    rw [WF.out] at EN
    clear hok hz1 ja jb jc jn WF F1
    generalize wordF op s2 = wd at *
    generalize fa op s2 = ia at *
    generalize fb op s2 = ib at *
    generalize fc op s2 = ic at *
    generalize fn op s2 = imm at *
    have AD := Lib.hid (fun w' v0' v3' (h' : AsmAt w' B p ⟨st.words, st.labels, st.opens ++ [⟨op, ia, ib, ic, imm, ll, st.words.length, line⟩]⟩ v0' v1 v3' mb) hB => add_any wd B p _ v0' v1 v3' mb w' h' hB hws)
    unfold AsmPost at *
    generalize addS wd ⟨st.words, st.labels, st.opens ++ [⟨op, ia, ib, ic, imm, ll, st.words.length, line⟩]⟩ = r at *
    obtain ⟨i0, hi, hi0, hi1, hi2⟩ := info_parts nam_info
    go_enter Tryd.func44, Tryd.ntmps44
    go_wp2_with fail
    refine (TK.out _).mono ?_
    rintro e w1 ⟨rfl, rfl⟩
    go_wp2_with fail
    refine (NM.out _).mono ?_
    rintro e w1 ⟨rfl, rfl⟩
    go_wp2_with fail
    refine FK.out.mono ?_
    rintro e w2 ⟨rfl, hb2⟩
    have BI := hb2.alloc hb2.size (.cells #[.int .i64 op, .int .i64 ia, .int .i64 ib, .int .i64 ic, .int .i64 imm] 93)
    have H2 := Lib.hid (H1.out.below BI)
    have B2 := Lib.hid (B1.out.trans (BI.mono (by rw [Z1.out]; exact hBw)))
    have Z2 : w.heap.size ≤ (w2.alloc (.cells #[.int .i64 op, .int .i64 ia, .int .i64 ib, .int .i64 ic, .int .i64 imm] 93)).heap.size := by have := BI.size; rw [Z1.out] at this; exact this
    have Q2 := Lib.hid (Whole.made w2 93 #[.int .i64 op, .int .i64 ia, .int .i64 ib, .int .i64 ic, .int .i64 imm] _ rfl)
    have hd : ∀ j, (w2.alloc (.cells #[.int .i64 op, .int .i64 ia, .int .i64 ib, .int .i64 ic, .int .i64 imm] 93)).cell? ⟨w2.heap.size, j, none⟩ = #[.int .i64 op, .int .i64 ia, .int .i64 ib, .int .i64 ic, .int .i64 imm][j]? := fun j => Q2.out.cell j
    have q0 : (w2.alloc (.cells #[.int .i64 op, .int .i64 ia, .int .i64 ib, .int .i64 ic, .int .i64 imm] 93)).cell? ⟨w2.heap.size, 0, none⟩ = some (.int .i64 op) := hd 0
    have q1 : (w2.alloc (.cells #[.int .i64 op, .int .i64 ia, .int .i64 ib, .int .i64 ic, .int .i64 imm] 93)).cell? ⟨w2.heap.size, 1, none⟩ = some (.int .i64 ia) := hd 1
    have q2 : (w2.alloc (.cells #[.int .i64 op, .int .i64 ia, .int .i64 ib, .int .i64 ic, .int .i64 imm] 93)).cell? ⟨w2.heap.size, 2, none⟩ = some (.int .i64 ib) := hd 2
    have q3 : (w2.alloc (.cells #[.int .i64 op, .int .i64 ia, .int .i64 ib, .int .i64 ic, .int .i64 imm] 93)).cell? ⟨w2.heap.size, 3, none⟩ = some (.int .i64 ic) := hd 3
    have q4 : (w2.alloc (.cells #[.int .i64 op, .int .i64 ia, .int .i64 ib, .int .i64 ic, .int .i64 imm] 93)).cell? ⟨w2.heap.size, 4, none⟩ = some (.int .i64 imm) := hd 4
    clear hb2 hd BI H1 B1 ul uf
    go_wp2_with fail
    refine (EN.out _ (HS.out _ B2.out)).mono ?_
    rintro e w3 ⟨rfl, hb3⟩
    have H3 := Lib.hid (H2.out.below hb3)
    have B3 := Lib.hid (B2.out.trans (hb3.mono (Nat.le_trans hBw Z2)))
    have Z3 : w.heap.size ≤ w3.heap.size := Nat.le_trans Z2 hb3.size
    have Q3 := Lib.hid (Q2.out.below hb3 Q2.out.lt)
    clear hb3 H2 B2 q0 q1 q2 q3 q4 Q2 TK NM FK EN
    generalize w2.heap.size = qi at *
    have hem : ll.toList.isEmpty = false := hne.out
    have y0 : w3.cell? ⟨qi, 0, none⟩ = some (.int .i64 op) := Q3.out.cell 0
    have y1 : w3.cell? ⟨qi, 1, none⟩ = some (.int .i64 ia) := Q3.out.cell 1
    have y2 : w3.cell? ⟨qi, 2, none⟩ = some (.int .i64 ib) := Q3.out.cell 2
    have y3 : w3.cell? ⟨qi, 3, none⟩ = some (.int .i64 ic) := Q3.out.cell 3
    have y4 : w3.cell? ⟨qi, 4, none⟩ = some (.int .i64 imm) := Q3.out.cell 4
    have p0 : w3.cell? ⟨p, 0, none⟩ = some (.slice A0 st.words.length c0) := H3.out.blk.cell 0
    have p3 : w3.cell? ⟨p, 3, none⟩ = some (.slice A3 st.opens.length c3) := H3.out.blk.cell 3
    have HA := Lib.hid (show AsmAt (w3.alloc (.cells #[.int .i64 op, .int .i64 ia, .int .i64 ib, .int .i64 ic, .int .i64 imm, .string ll, .int .i64 st.words.length, .int .i64 line] 95)).drew B p st (.slice A0 st.words.length c0) v1 (.slice A3 st.opens.length c3) mb from H3.out.below ((Below.refl w3.heap.size w3).alloc (Nat.le_refl _) (.cells #[.int .i64 op, .int .i64 ia, .int .i64 ib, .int .i64 ic, .int .i64 imm, .string ll, .int .i64 st.words.length, .int .i64 line] 95)).drew)
    have a3 : (w3.alloc (.cells #[.int .i64 op, .int .i64 ia, .int .i64 ib, .int .i64 ic, .int .i64 imm, .string ll, .int .i64 st.words.length, .int .i64 line] 95)).drew.cell? ⟨p, 3, none⟩ = some (.slice A3 st.opens.length c3) := HA.out.blk.cell 3
    have BA := Lib.hid (show Below B w (w3.alloc (.cells #[.int .i64 op, .int .i64 ia, .int .i64 ib, .int .i64 ic, .int .i64 imm, .string ll, .int .i64 st.words.length, .int .i64 line] 95)).drew from (B3.out.alloc (Nat.le_trans hBw Z3) (.cells #[.int .i64 op, .int .i64 ia, .int .i64 ib, .int .i64 ic, .int .i64 imm, .string ll, .int .i64 st.words.length, .int .i64 line] 95)).drew)
    have NC := Lib.hid (show ∀ (j : Nat) u, ([.int .i64 op, .int .i64 ia, .int .i64 ib, .int .i64 ic, .int .i64 imm, .string ll, .int .i64 st.words.length, .int .i64 line] : List Value)[j]? = some u → (w3.alloc (.cells #[.int .i64 op, .int .i64 ia, .int .i64 ib, .int .i64 ic, .int .i64 imm, .string ll, .int .i64 st.words.length, .int .i64 line] 95)).drew.cell? ((⟨w3.heap.size, 0, none⟩ : Addr).add j) = some u from fun j u hj => by
      rw [Go.WideShapes.add_plain, Nat.zero_add]
      exact ((Whole.made w3 95 #[.int .i64 op, .int .i64 ia, .int .i64 ib, .int .i64 ic, .int .i64 imm, .string ll, .int .i64 st.words.length, .int .i64 line] _ rfl).cell j).trans (by simpa using hj))
    have ZA : w3.heap.size + 1 ≤ (w3.alloc (.cells #[.int .i64 op, .int .i64 ia, .int .i64 ib, .int .i64 ic, .int .i64 imm, .string ll, .int .i64 st.words.length, .int .i64 line] 95)).drew.heap.size := by simp
    clear Q3 B3
    go_wp2_with fail
    go_region_law (refine step_append_rows rfl (.tmp 59) (.tmp 70) 48 rfl B 95 i0 _ 8 72 Tryd.underlying48 hi hi0 hi1 hi2 rfl (by decide) (.slice A3 st.opens.length c3) st.opens.length _ rfl HA.out.opens ⟨w3.heap.size, 0, none⟩ 1 1 [.int .i64 op, .int .i64 ia, .int .i64 ib, .int .i64 ic, .int .i64 imm, .string ll, .int .i64 st.words.length, .int .i64 line] rfl rfl NC.out (fun u hu => by simp at hu; rcases hu with rfl | rfl | rfl | rfl | rfl | rfl | rfl | rfl <;> rfl) (by unfold maxLen; omega) (by omega) (by simp; omega) ?_; intro v6 w6 ho6 hg6; have hform : ∃ A6 c6, v6 = .slice A6 (st.opens.length + 1) c6 := (by rcases ho6.2 with ⟨_, h2⟩ | ⟨g, cap, cur, h1, _⟩; exact absurd h2 (by omega); exact ⟨_, _, h1⟩); obtain ⟨A6, c6, rfl⟩ := hform; have H6 := Lib.hid (asm_grown HA.out hg6 ho6); have B6 := Lib.hid (BA.out.grown hg6 (by simp; omega) (fun b hb => (World.ownsRow.lt HA.out.opens b hb).1)); have Z6 := hg6.size; have m6 : w6.cell? ⟨p, 3, none⟩ = some (.slice A3 st.opens.length c3) := H6.out.1.cell 3; have g6 : w6.frozen? ⟨p, 3, none⟩ = false := H6.out.1.free 3; clear ho6 hg6)
    all_goals
      have H7 := Lib.hid (H6.out.2 op ia ib ic imm ll st.words.length line rfl)
      have B7 := Lib.hid (B6.out.setCell (p := ⟨p, 3, none⟩) HA.out.le (.slice A6 (st.opens.length + 1) c6))
      have Z7 : w.heap.size ≤ (w6.setCell ⟨p, 3, none⟩ (.slice A6 (st.opens.length + 1) c6)).heap.size := by simp [World.setCell] at Z6 ⊢; omega
      clear H6 B6 m6 g6 a3
      go_wp2_with fail
      refine (AD.out _ _ _ H7.out (Nat.le_trans hBw Z7)).mono ?_
      rintro e w8 ⟨u0, u1, u3, m4, rfl, ha, hb8, hz8⟩
      have HA8 := Lib.hid ha
      have B8 := Lib.hid (B7.out.trans hb8)
      clear ha hb8
      go_wp2_with fail
      go_ret
      exact ⟨u0, u1, u3, m4, rfl, HA8.out, B8.out, Nat.le_trans Z7 hz8⟩

end Go.Proofs.YtnmpamfgkidmiaaDoor

/- Asm: what a line comes to. -/
namespace Go.Proofs.YtnmpamfgkidmiaaDoor
open Go.ChangeShapes Go.WideShapes Go.ChangeAt Go.RowKit
set_option linter.unusedVariables false
set_option linter.unusedSimpArgs false
set_option linter.unusedSectionVars false
variable [LinesAt]

theorem inst_any (op : Int) (A : Option Addr) (n cp : Nat) (ss : List ByteArray) (line : Nat) (B p : Nat) (st : AsmS) (v0 v1 v3 : Value) (mb : Nat) (w : World) (h : AsmAt w B p st v0 v1 v3 mb) (hF : FieldsAt w B A n ss) (hS : ∀ W, Below B w W → ShapesIn W) (hBw : B ≤ w.heap.size) (hws : st.words.length ≤ 1000000) (hos : st.opens.length ≤ 1000000) (hz : ∀ z ∈ ss, z.size ≤ 1000000) (hn : n ≤ 20) :
    Calls Tryd.prog 44 #[.pointer (some ⟨p, 0, none⟩), .int .i64 op, .slice A n cp, .int .i64 line] w (AsmPost w B p (instS op ss line st).2 (instS op ss line st).1) := by
  rcases Nat.eq_zero_or_pos n with h0 | h0
  · exact inst_P0 op A n cp ss line B p st v0 v1 v3 mb w h hF hS hBw hws hz hn h0
  · cases ht : takesB op with
    | false => exact inst_P1 op A n cp ss line B p st v0 v1 v3 mb w h hF hS hBw hws hz hn h0 ht
    | true =>
      cases hl : nameB (lastL ss) with
      | false => exact inst_P2 op A n cp ss line B p st v0 v1 v3 mb w h hF hS hBw hws hz hn h0 ht hl
      | true => exact inst_P3 op A n cp ss line B p st v0 v1 v3 mb w h hF hS hBw hws hz hn h0 ht hl hos

def stemOf (s : ByteArray) : ByteArray := ⟨(Lib.trimSuffix s.data.toList [58]).toArray⟩
def lnF (s : ByteArray) : ByteArray := ⟨(Lib.cut s.data.toList [32]).1.toArray⟩
def lnR (s : ByteArray) : ByteArray := ⟨(Lib.cut s.data.toList [32]).2.1.toArray⟩
def lnB (s : ByteArray) : Bool := (Lib.cut s.data.toList [32]).2.2
def fieldsS (s : ByteArray) : List ByteArray := Lib.splitB ⟨#[44, 32]⟩ 0 (min 4 (s.size + 1) - 1) s

/-- What a line comes to. -/
def readS (line : ByteArray) (k : Nat) (st : AsmS) : Int × AsmS :=
  if line.toList.isEmpty = true then (0, st)
  else if Lib.hasPrefix line.data.toList [59] = true then (0, st)
  else if Lib.hasSuffix line.data.toList [58] = true then markS (stemOf line) st
  else if ((lnF line).toList == [87, 79, 82, 68]) = true then rawS (lnR line) st
  else instS (opOf (lnF line)) (if lnB line = true then fieldsS (lnR line) else []) k st

theorem stem_size (s : ByteArray) : (stemOf s).size ≤ s.size := by
  have e : s.size = s.data.toList.length := Lib.size_eq s
  rw [Lib.size_eq (stemOf s), e]
  unfold stemOf Lib.trimSuffix
  split <;> simp

theorem lnF_size (s : ByteArray) : (lnF s).size ≤ s.size := by
  have e : s.size = s.data.toList.length := Lib.size_eq s
  rw [Lib.size_eq (lnF s), e]
  unfold lnF Lib.cut
  split <;> simp
  omega

theorem lnR_size (s : ByteArray) : (lnR s).size ≤ s.size := by
  have e : s.size = s.data.toList.length := Lib.size_eq s
  rw [Lib.size_eq (lnR s), e]
  unfold lnR Lib.cut
  split <;> simp

theorem split_sizes (sep : ByteArray) : ∀ (k : Nat) (s : ByteArray), ∀ z ∈ Lib.splitB sep 0 k s, z.size ≤ s.size
  | 0, s, z, h => by
    rw [Lib.splitB_zero] at h
    simp at h
    rw [h]
    exact Nat.le_refl _
  | k + 1, s, z, h => by
    unfold Lib.splitB at h
    split at h
    · simp at h
      rw [h]
      exact Nat.le_refl _
    · rw [List.mem_cons] at h
      rcases h with rfl | h
      · simp only [ByteArray.size_extract]
        omega
      · have := split_sizes sep k _ z h
        simp only [ByteArray.size_extract] at this
        omega

theorem fields_len (s : ByteArray) : (fieldsS s).length ≤ min 4 (s.size + 1) := by
  have := Lib.splitB_length_le ⟨#[44, 32]⟩ 0 (min 4 (s.size + 1) - 1) s
  unfold fieldsS
  omega

/-- What the tables and the library's variable hold. -/
def Tab (w : World) : Prop := ShapesIn w ∧ NamesIn w ∧ ∃ m, w.cell? ⟨0, 0, none⟩ = some (.int .i64 m)

theorem below_drewN {B : Nat} {a w : World} (h : Below B a w) (n : Nat) : Below B a (w.drewN n) := ⟨h.os, h.tape, h.output, h.size, h.block⟩

theorem fields_made {w : World} {B : Nat} (ss : List ByteArray) (N : Nat) (hB : B ≤ w.heap.size) (hl : LinesAt.lf < w.heap.size) : FieldsAt (w.alloc (.cells (Lib.cellsOf ss N) 9)) B (some ⟨w.heap.size, 0, none⟩) ss.length ss := by
  refine ⟨rfl, fun _ => ⟨w.heap.size, Lib.cellsOf ss N, rfl, ⟨hB, Nat.ne_of_gt hl⟩, Whole.made w 9 (Lib.cellsOf ss N) _ rfl, fun j hj => ?_⟩⟩
  unfold Lib.cellsOf
  rw [List.getElem?_toArray, List.getElem?_append_left (by simpa using hj), List.getElem?_map, List.getElem?_eq_getElem hj, List.getD_eq_getElem?_getD, List.getElem?_eq_getElem hj]
  rfl

theorem fields_none {w : World} {B : Nat} : FieldsAt w B none 0 [] := ⟨rfl, fun h => absurd h (by decide)⟩

end Go.Proofs.YtnmpamfgkidmiaaDoor

/- Listing, plain: a line, by its bytes. -/
namespace Go.Proofs.YtnmpamfgkidmiaaDoor
open Go.ChangeShapes Go.WideShapes Go.ChangeAt Go.RowKit
set_option linter.unusedVariables false
set_option linter.unusedSimpArgs false

theorem indexByte_ahead : ∀ (a r : List UInt8) (c : UInt8), (∀ b ∈ a, b ≠ c) → Lib.indexByte (a ++ c :: r) c = a.length
  | [], r, c, _ => by simp [Lib.indexByte]
  | b :: a, r, c, h => by
    have hb : b ≠ c := h b (by simp)
    have ih := indexByte_ahead a r c (fun x hx => h x (by simp [hx]))
    have hb2 : (b == c) = false := by simpa using hb
    simp only [List.cons_append, Lib.indexByte]
    simp [hb2, hb, ih]

theorem indexByte_none_of : ∀ (a : List UInt8) (c : UInt8), (∀ b ∈ a, b ≠ c) → Lib.indexByte a c = -1
  | [], c, _ => by simp [Lib.indexByte]
  | b :: a, c, h => by
    have hb : b ≠ c := h b (by simp)
    have ih := indexByte_none_of a c (fun x hx => h x (by simp [hx]))
    have hb2 : (b == c) = false := by simpa using hb
    simp only [Lib.indexByte]
    simp [hb2, hb, ih]

theorem cut_ahead (a r : List UInt8) (c : UInt8) (h : ∀ b ∈ a, b ≠ c) : Lib.cut (a ++ c :: r) [c] = (a, r, true) := by
  unfold Lib.cut
  rw [Lib.index_one, indexByte_ahead a r c h, if_pos (by omega)]
  simp

theorem cut_none (a : List UInt8) (c : UInt8) (h : ∀ b ∈ a, b ≠ c) : Lib.cut a [c] = (a, [], false) := by
  unfold Lib.cut
  rw [Lib.index_one, indexByte_none_of a c h, if_neg (by omega)]

theorem hexStr_no32 (n : Int) : ∀ b ∈ (hexStr n).data.toList, b ≠ (32 : UInt8) := by
  intro b hb he
  subst he
  have h1 : (32 : Int) ∈ bys (hexStr n) := by
    unfold bys
    exact List.mem_map.2 ⟨32, hb, rfl⟩
  unfold hexStr at h1
  rw [bys_nums _ (hexNums_byte n)] at h1
  unfold hexNums hexdg at h1
  simp only [List.mem_cons, List.not_mem_nil, or_false] at h1
  rcases h1 with h | h | h | h | h | h | h | h <;> (split at h <;> omega)

theorem hexOk_hex (n : Int) : hexOk (hexStr n) = true := by
  unfold hexOk
  rw [hexStr_size]
  unfold hexStr
  rw [bys_nums _ (hexNums_byte n), hexAll_hex]
  rfl

theorem hexVal_hex (n : Int) (h0 : 0 ≤ n) (h1 : n ≤ 4294967295) : hexVal (hexStr n) = n := by
  unfold hexVal
  rw [if_pos (hexOk_hex n)]
  unfold hexStr
  rw [bys_nums _ (hexNums_byte n), hexSum_hex n h0 h1]

theorem data_line (x y : Int) : (lineOf x y).data.toList = (hexStr x).data.toList ++ 32 :: ((hexStr y).data.toList ++ 32 :: (meanOf x y).data.toList) := by
  unfold lineOf
  simp [ByteArray.data_append]

theorem cutA_line (x y : Int) : cutA (lineOf x y) 32 = hexStr x := by
  unfold cutA
  rw [data_line, cut_ahead _ _ _ (hexStr_no32 x)]

theorem cutB_line (x y : Int) : cutA (cutB (lineOf x y) 32) 32 = hexStr y := by
  unfold cutA cutB
  rw [data_line, cut_ahead _ _ _ (hexStr_no32 x)]
  simp only []
  rw [cut_ahead _ _ _ (hexStr_no32 y)]

theorem line_ok (x y : Int) (hx : 0 ≤ x ∧ x ≤ 4294967295) (hy : 0 ≤ y ∧ y ≤ 4294967295) : okLine (lineOf x y) = true ∧ atOf (lineOf x y) = x ∧ wdOf (lineOf x y) = y := by
  have h1 : atOf (lineOf x y) = x := by
    unfold atOf
    rw [cutA_line, hexVal_hex x hx.1 hx.2]
  have h2 : wdOf (lineOf x y) = y := by
    unfold wdOf
    rw [cutB_line, hexVal_hex y hy.1 hy.2]
  refine ⟨?_, h1, h2⟩
  unfold okLine
  rw [h1, h2, cutA_line, cutB_line, hexOk_hex, hexOk_hex]
  simp

theorem ok_line {s : ByteArray} (h : okLine s = true) : s = lineOf (atOf s) (wdOf s) := by
  unfold okLine at h
  simp only [Bool.and_eq_true, beq_iff_eq] at h
  have := h.2.2
  rw [ByteArray.toList_eq, ByteArray.toList_eq] at this
  exact (ByteArray.ext (Array.ext' this)).symm

theorem line_size (x y : Int) : 18 ≤ (lineOf x y).size := by
  unfold lineOf
  have h2 : (⟨#[32]⟩ : ByteArray).size = 1 := rfl
  rw [ByteArray.size_append, ByteArray.size_append, ByteArray.size_append, ByteArray.size_append, hexStr_size, hexStr_size, h2]
  omega

theorem line_first (x y : Int) : (lineOf x y).extract 0 8 = hexStr x := by
  have z := hexStr_size x
  apply ByteArray.ext
  apply Array.ext'
  rw [ByteArray.data_extract, Array.toList_extract, data_line]
  have z2 : (hexStr x).data.toList.length = 8 := z
  simp [List.extract, z2]

theorem line_second (x y : Int) : (lineOf x y).extract 9 17 = hexStr y := by
  have z := hexStr_size x
  have z1 := hexStr_size y
  apply ByteArray.ext
  apply Array.ext'
  rw [ByteArray.data_extract, Array.toList_extract, data_line]
  have z2 : (hexStr x).data.toList.length = 8 := z
  have z3 : (hexStr y).data.toList.length = 8 := z1
  rw [List.extract_eq_take_drop, List.append_cons, List.drop_left' (by simp [z2])]
  exact List.take_left' (by simp [z3])

/-- What the answers ask of a line. -/
def refOk (s : ByteArray) (n : Nat) (f : Int) : Prop :=
  18 ≤ s.size ∧ hexOk (s.extract 0 8) = true ∧ hexOk (s.extract 9 17) = true ∧ s = lineOf (((if n = 0 then hexVal (s.extract 0 8) else f) + 4 * n) % 4294967296) (hexVal (s.extract 9 17))

theorem refOk_iff (s : ByteArray) (n : Nat) (f : Int) : refOk s n f ↔ (okLine s = true ∧ atOf s = ((if n = 0 then atOf s else f) + 4 * n) % 4294967296) := by
  constructor
  · rintro ⟨h1, h2, h3, h4⟩
    have hx : 0 ≤ ((if n = 0 then hexVal (s.extract 0 8) else f) + 4 * n) % 4294967296 ∧ ((if n = 0 then hexVal (s.extract 0 8) else f) + 4 * n) % 4294967296 ≤ 4294967295 := by omega
    have L := line_ok _ (hexVal (s.extract 9 17)) hx (hexVal_u32 _)
    rw [← h4] at L
    refine ⟨L.1, ?_⟩
    by_cases hn : n = 0
    · subst hn
      have := hexVal_u32 (cutA s 32)
      rw [if_pos rfl]
      unfold atOf
      omega
    · rw [if_neg hn]
      have h5 := L.2.1
      rw [if_neg hn] at h5
      exact h5
  · rintro ⟨h1, h2⟩
    have h3 := ok_line h1
    have e1 : s.extract 0 8 = hexStr (atOf s) := by
      conv => lhs; rw [h3]
      exact line_first _ _
    have e2 : s.extract 9 17 = hexStr (wdOf s) := by
      conv => lhs; rw [h3]
      exact line_second _ _
    have u1 : 0 ≤ atOf s ∧ atOf s ≤ 4294967295 := hexVal_u32 _
    have u2 : 0 ≤ wdOf s ∧ wdOf s ≤ 4294967295 := hexVal_u32 _
    refine ⟨?_, by rw [e1]; exact hexOk_hex _, by rw [e2]; exact hexOk_hex _, ?_⟩
    · rw [h3]
      exact line_size _ _
    · rw [e1, e2, hexVal_hex _ u1.1 u1.2, hexVal_hex _ u2.1 u2.2, ← h2]
      exact h3

theorem refOk_vals {s : ByteArray} (h : okLine s = true) : hexVal (s.extract 0 8) = atOf s ∧ hexVal (s.extract 9 17) = wdOf s := by
  have h3 := ok_line h
  have u1 : 0 ≤ atOf s ∧ atOf s ≤ 4294967295 := hexVal_u32 _
  have u2 : 0 ≤ wdOf s ∧ wdOf s ≤ 4294967295 := hexVal_u32 _
  constructor
  · rw [show s.extract 0 8 = hexStr (atOf s) from by conv => lhs; rw [h3]
                                                     exact line_first _ _, hexVal_hex _ u1.1 u1.2]
  · rw [show s.extract 9 17 = hexStr (wdOf s) from by conv => lhs; rw [h3]
                                                      exact line_second _ _, hexVal_hex _ u2.1 u2.2]
end Go.Proofs.YtnmpamfgkidmiaaDoor

/- Asm: read. -/
namespace Go.Proofs.YtnmpamfgkidmiaaDoor
open Go.ChangeShapes Go.WideShapes Go.ChangeAt Go.RowKit
set_option linter.unusedVariables false
set_option linter.unusedSimpArgs false
set_option linter.unusedSectionVars false
variable [LinesAt]

set_option maxHeartbeats 8000000 in
set_option maxRecDepth 100000 in
theorem read_R0 (line : ByteArray) (k : Nat) (B p : Nat) (st : AsmS) (v0 v1 v3 : Value) (mb : Nat) (w : World) (h : AsmAt w B p st v0 v1 v3 mb) (hT : ∀ W, Below B w W → Tab W) (hBw : B ≤ w.heap.size) (hws : st.words.length ≤ 1000000) (hls : st.labels.length ≤ 1000000) (hos : st.opens.length ≤ 1000000) (hl : line.size ≤ 1000000) (h0 : line.toList.isEmpty = true) :
    Calls Tryd.prog 21 #[.pointer (some ⟨p, 0, none⟩), .string line, .int .i64 k] w (AsmPost w B p (((0 : Int), st)).2 (((0 : Int), st)).1) := by
  have H := Lib.hid h
  clear h hT
  unfold AsmPost
  go_enter Tryd.func21, Tryd.ntmps21
  go_wp2_with fail
  go_ret
  exact ⟨v0, v1, v3, mb, rfl, H.out, Below.refl _ _, Nat.le_refl _⟩

set_option maxHeartbeats 8000000 in
set_option maxRecDepth 100000 in
theorem read_R1 (line : ByteArray) (k : Nat) (B p : Nat) (st : AsmS) (v0 v1 v3 : Value) (mb : Nat) (w : World) (h : AsmAt w B p st v0 v1 v3 mb) (hT : ∀ W, Below B w W → Tab W) (hBw : B ≤ w.heap.size) (hws : st.words.length ≤ 1000000) (hls : st.labels.length ≤ 1000000) (hos : st.opens.length ≤ 1000000) (hl : line.size ≤ 1000000) (h0 : line.toList.isEmpty = false) (h1 : Lib.hasPrefix line.data.toList [59] = true) :
    Calls Tryd.prog 21 #[.pointer (some ⟨p, 0, none⟩), .string line, .int .i64 k] w (AsmPost w B p (((0 : Int), st)).2 (((0 : Int), st)).1) := by
  have HP := Lib.hid (show ∀ w, Calls Tryd.prog 38 #[.string line, .string ⟨#[59]⟩] w fun e w' => e = .returned (.bool (Lib.hasPrefix line.data.toList [59])) ∧ w = w' from fun w => (Tryd.strings_HasPrefix line ⟨#[59]⟩ w).mono (fun e w' h => ⟨h.1, h.2.symm⟩))
  have HC := Lib.hid (show ∀ w, Calls Tryd.prog 39 #[.string line, .string ⟨#[58]⟩] w fun e w' => e = .returned (.tuple #[.string (stemOf line), .bool (Lib.hasSuffix line.data.toList [58])]) ∧ w = w' from fun w => (Tryd.strings_CutSuffix line ⟨#[58]⟩ w (by omega)).mono (fun e w' h => ⟨h.1, h.2.symm⟩))
  have CT := Lib.hid (show ∀ w m, w.cell? ⟨0, 0, none⟩ = some (.int .i64 m) → Calls Tryd.prog 41 #[.string line, .string ⟨#[32]⟩] w fun e w' => e = .returned (.tuple #[.string (lnF line), .string (lnR line), .bool (lnB line)]) ∧ ∃ n, w' = w.drewN n from fun w m hm => Tryd.strings_Cut line ⟨#[32]⟩ m w (by omega) hm)
  rw [h1] at HP
  clear HC CT h1
  have H := Lib.hid h
  clear h hT
  unfold AsmPost
  go_enter Tryd.func21, Tryd.ntmps21
  go_wp2_with fail
  refine (HP.out _).mono ?_
  rintro e w1 ⟨rfl, rfl⟩
  go_wp2_with fail
  go_ret
  exact ⟨v0, v1, v3, mb, rfl, H.out, Below.refl _ _, Nat.le_refl _⟩

set_option maxHeartbeats 8000000 in
set_option maxRecDepth 100000 in
theorem read_R2 (line : ByteArray) (k : Nat) (B p : Nat) (st : AsmS) (v0 v1 v3 : Value) (mb : Nat) (w : World) (h : AsmAt w B p st v0 v1 v3 mb) (hT : ∀ W, Below B w W → Tab W) (hBw : B ≤ w.heap.size) (hws : st.words.length ≤ 1000000) (hls : st.labels.length ≤ 1000000) (hos : st.opens.length ≤ 1000000) (hl : line.size ≤ 1000000) (h0 : line.toList.isEmpty = false) (h1 : Lib.hasPrefix line.data.toList [59] = false) (h2 : Lib.hasSuffix line.data.toList [58] = true) :
    Calls Tryd.prog 21 #[.pointer (some ⟨p, 0, none⟩), .string line, .int .i64 k] w (AsmPost w B p (markS (stemOf line) st).2 (markS (stemOf line) st).1) := by
  have HP := Lib.hid (show ∀ w, Calls Tryd.prog 38 #[.string line, .string ⟨#[59]⟩] w fun e w' => e = .returned (.bool (Lib.hasPrefix line.data.toList [59])) ∧ w = w' from fun w => (Tryd.strings_HasPrefix line ⟨#[59]⟩ w).mono (fun e w' h => ⟨h.1, h.2.symm⟩))
  have HC := Lib.hid (show ∀ w, Calls Tryd.prog 39 #[.string line, .string ⟨#[58]⟩] w fun e w' => e = .returned (.tuple #[.string (stemOf line), .bool (Lib.hasSuffix line.data.toList [58])]) ∧ w = w' from fun w => (Tryd.strings_CutSuffix line ⟨#[58]⟩ w (by omega)).mono (fun e w' h => ⟨h.1, h.2.symm⟩))
  have CT := Lib.hid (show ∀ w m, w.cell? ⟨0, 0, none⟩ = some (.int .i64 m) → Calls Tryd.prog 41 #[.string line, .string ⟨#[32]⟩] w fun e w' => e = .returned (.tuple #[.string (lnF line), .string (lnR line), .bool (lnB line)]) ∧ ∃ n, w' = w.drewN n from fun w m hm => Tryd.strings_Cut line ⟨#[32]⟩ m w (by omega) hm)
  rw [h1] at HP
  rw [h2] at HC
  clear CT h1 h2
  have MK := Lib.hid (mark_any (stemOf line) B p st v0 v1 v3 mb w h (Nat.le_trans (stem_size line) hl) hBw hws hls)
  clear h hT
  unfold AsmPost at *
  generalize markS (stemOf line) st = r at *
  generalize stemOf line = sm at *
  go_enter Tryd.func21, Tryd.ntmps21
  go_wp2_with fail
  refine (HP.out _).mono ?_
  rintro e w1 ⟨rfl, rfl⟩
  go_wp2_with fail
  refine (HC.out _).mono ?_
  rintro e w1 ⟨rfl, rfl⟩
  go_wp2_with fail
  refine MK.out.mono ?_
  rintro e w4 ⟨u0, u1, u3, m4, rfl, ha, hb4, hz4⟩
  have HA := Lib.hid ha
  have B4 := Lib.hid hb4
  clear ha hb4
  go_wp2_with fail
  go_ret
  exact ⟨u0, u1, u3, m4, rfl, HA.out, B4.out, hz4⟩

set_option maxHeartbeats 8000000 in
set_option maxRecDepth 100000 in
theorem read_R3 (line : ByteArray) (k : Nat) (B p : Nat) (st : AsmS) (v0 v1 v3 : Value) (mb : Nat) (w : World) (h : AsmAt w B p st v0 v1 v3 mb) (hT : ∀ W, Below B w W → Tab W) (hBw : B ≤ w.heap.size) (hws : st.words.length ≤ 1000000) (hls : st.labels.length ≤ 1000000) (hos : st.opens.length ≤ 1000000) (hl : line.size ≤ 1000000) (h0 : line.toList.isEmpty = false) (h1 : Lib.hasPrefix line.data.toList [59] = false) (h2 : Lib.hasSuffix line.data.toList [58] = false) (h3 : ((lnF line).toList == [87, 79, 82, 68]) = true) :
    Calls Tryd.prog 21 #[.pointer (some ⟨p, 0, none⟩), .string line, .int .i64 k] w (AsmPost w B p (rawS (lnR line) st).2 (rawS (lnR line) st).1) := by
  have HP := Lib.hid (show ∀ w, Calls Tryd.prog 38 #[.string line, .string ⟨#[59]⟩] w fun e w' => e = .returned (.bool (Lib.hasPrefix line.data.toList [59])) ∧ w = w' from fun w => (Tryd.strings_HasPrefix line ⟨#[59]⟩ w).mono (fun e w' h => ⟨h.1, h.2.symm⟩))
  have HC := Lib.hid (show ∀ w, Calls Tryd.prog 39 #[.string line, .string ⟨#[58]⟩] w fun e w' => e = .returned (.tuple #[.string (stemOf line), .bool (Lib.hasSuffix line.data.toList [58])]) ∧ w = w' from fun w => (Tryd.strings_CutSuffix line ⟨#[58]⟩ w (by omega)).mono (fun e w' h => ⟨h.1, h.2.symm⟩))
  have CT := Lib.hid (show ∀ w m, w.cell? ⟨0, 0, none⟩ = some (.int .i64 m) → Calls Tryd.prog 41 #[.string line, .string ⟨#[32]⟩] w fun e w' => e = .returned (.tuple #[.string (lnF line), .string (lnR line), .bool (lnB line)]) ∧ ∃ n, w' = w.drewN n from fun w m hm => Tryd.strings_Cut line ⟨#[32]⟩ m w (by omega) hm)
  obtain ⟨m, hm⟩ := (hT w (Below.refl _ _)).2.2
  have cm := Lib.hid hm
  clear hm
  rw [h1] at HP
  rw [h2] at HC
  clear h1 h2
  have RW := Lib.hid (fun w' (h' : AsmAt w' B p st v0 v1 v3 mb) hB => raw_any (lnR line) B p st v0 v1 v3 mb w' h' hB hws (Nat.le_trans (lnR_size line) hl))
  have H := Lib.hid h
  clear h hT
  unfold AsmPost at *
  generalize rawS (lnR line) st = r at *
  generalize lnR line = rest at *
  generalize lnF line = first at *
  generalize stemOf line = sm at *
  generalize lnB line = sp at *
  go_enter Tryd.func21, Tryd.ntmps21
  go_wp2_with fail
  refine (HP.out _).mono ?_
  rintro e w1 ⟨rfl, rfl⟩
  go_wp2_with fail
  refine (HC.out _).mono ?_
  rintro e w1 ⟨rfl, rfl⟩
  go_wp2_with fail
  refine (CT.out _ _ cm.out).mono ?_
  rintro e w1 ⟨rfl, n, rfl⟩
  have HD := Lib.hid (H.out.below (below_drewN (Below.refl w.heap.size w) n))
  have BD := Lib.hid (below_drewN (Below.refl B w) n)
  generalize hWD : w.drewN n = wd at *
  have ZD : wd.heap.size = w.heap.size := by rw [← hWD]; rfl
  clear hWD
  go_wp2_with fail
  refine (RW.out _ HD.out (by omega)).mono ?_
  rintro e w4 ⟨u0, u1, u3, m4, rfl, ha, hb4, hz4⟩
  have HA := Lib.hid ha
  have B4 := Lib.hid (BD.out.trans hb4)
  clear ha hb4
  go_wp2_with fail
  go_ret
  exact ⟨u0, u1, u3, m4, rfl, HA.out, B4.out, by omega⟩

set_option maxHeartbeats 8000000 in
set_option maxRecDepth 100000 in
theorem read_R4 (line : ByteArray) (k : Nat) (B p : Nat) (st : AsmS) (v0 v1 v3 : Value) (mb : Nat) (w : World) (h : AsmAt w B p st v0 v1 v3 mb) (hT : ∀ W, Below B w W → Tab W) (hBw : B ≤ w.heap.size) (hws : st.words.length ≤ 1000000) (hls : st.labels.length ≤ 1000000) (hos : st.opens.length ≤ 1000000) (hl : line.size ≤ 1000000) (h0 : line.toList.isEmpty = false) (h1 : Lib.hasPrefix line.data.toList [59] = false) (h2 : Lib.hasSuffix line.data.toList [58] = false) (h3 : ((lnF line).toList == [87, 79, 82, 68]) = false) (h4 : lnB line = false) :
    Calls Tryd.prog 21 #[.pointer (some ⟨p, 0, none⟩), .string line, .int .i64 k] w (AsmPost w B p (instS (opOf (lnF line)) [] k st).2 (instS (opOf (lnF line)) [] k st).1) := by
  have HP := Lib.hid (show ∀ w, Calls Tryd.prog 38 #[.string line, .string ⟨#[59]⟩] w fun e w' => e = .returned (.bool (Lib.hasPrefix line.data.toList [59])) ∧ w = w' from fun w => (Tryd.strings_HasPrefix line ⟨#[59]⟩ w).mono (fun e w' h => ⟨h.1, h.2.symm⟩))
  have HC := Lib.hid (show ∀ w, Calls Tryd.prog 39 #[.string line, .string ⟨#[58]⟩] w fun e w' => e = .returned (.tuple #[.string (stemOf line), .bool (Lib.hasSuffix line.data.toList [58])]) ∧ w = w' from fun w => (Tryd.strings_CutSuffix line ⟨#[58]⟩ w (by omega)).mono (fun e w' h => ⟨h.1, h.2.symm⟩))
  have CT := Lib.hid (show ∀ w m, w.cell? ⟨0, 0, none⟩ = some (.int .i64 m) → Calls Tryd.prog 41 #[.string line, .string ⟨#[32]⟩] w fun e w' => e = .returned (.tuple #[.string (lnF line), .string (lnR line), .bool (lnB line)]) ∧ ∃ n, w' = w.drewN n from fun w m hm => Tryd.strings_Cut line ⟨#[32]⟩ m w (by omega) hm)
  obtain ⟨m, hm⟩ := (hT w (Below.refl _ _)).2.2
  have cm := Lib.hid hm
  clear hm
  rw [h1] at HP
  rw [h2] at HC
  rw [h4] at CT
  clear h1 h2 h4
  have OP := Lib.hid (fun w hN => op_any (lnF line) w hN)
  have H := Lib.hid h
  have HT := Lib.hid hT
  clear h hT
  unfold AsmPost
  generalize lnR line = rest at *
  generalize hop : opOf (lnF line) = op at *
  clear hop
  generalize lnF line = first at *
  generalize stemOf line = sm at *
  go_enter Tryd.func21, Tryd.ntmps21
  go_wp2_with fail
  refine (HP.out _).mono ?_
  rintro e w1 ⟨rfl, rfl⟩
  go_wp2_with fail
  refine (HC.out _).mono ?_
  rintro e w1 ⟨rfl, rfl⟩
  go_wp2_with fail
  refine (CT.out _ _ cm.out).mono ?_
  rintro e w1 ⟨rfl, n, rfl⟩
  have HD := Lib.hid (H.out.below (below_drewN (Below.refl w.heap.size w) n))
  have BD := Lib.hid (below_drewN (Below.refl B w) n)
  generalize hWD : w.drewN n = wd at *
  have ZD : wd.heap.size = w.heap.size := by rw [← hWD]; rfl
  clear hWD
  go_wp2_with fail
  have BW := BD
  have ZW : w.heap.size ≤ wd.heap.size := by omega
  have IN := Lib.hid (inst_any op none 0 0 [] k B p st v0 v1 v3 mb wd HD.out fields_none (fun W hb => (HT.out W (BD.out.trans hb)).1) (by omega) hws hos (fun z hz => by cases hz) (by decide))
  have NW := (HT.out wd BD.out).2.1
  unfold AsmPost at IN
  refine (OP.out _ NW).mono ?_
  rintro e w3 ⟨rfl, rfl⟩
  go_wp2_with fail
  refine IN.out.mono ?_
  rintro e w4 ⟨u0, u1, u3, m4, rfl, ha, hb4, hz4⟩
  have HA := Lib.hid ha
  have B4 := Lib.hid (BW.out.trans hb4)
  clear ha hb4
  go_wp2_with fail
  go_ret
  exact ⟨u0, u1, u3, m4, rfl, HA.out, B4.out, Nat.le_trans ZW hz4⟩

set_option maxHeartbeats 8000000 in
set_option maxRecDepth 100000 in
theorem read_R5 (line : ByteArray) (k : Nat) (B p : Nat) (st : AsmS) (v0 v1 v3 : Value) (mb : Nat) (w : World) (h : AsmAt w B p st v0 v1 v3 mb) (hT : ∀ W, Below B w W → Tab W) (hBw : B ≤ w.heap.size) (hws : st.words.length ≤ 1000000) (hls : st.labels.length ≤ 1000000) (hos : st.opens.length ≤ 1000000) (hl : line.size ≤ 1000000) (h0 : line.toList.isEmpty = false) (h1 : Lib.hasPrefix line.data.toList [59] = false) (h2 : Lib.hasSuffix line.data.toList [58] = false) (h3 : ((lnF line).toList == [87, 79, 82, 68]) = false) (h4 : lnB line = true) :
    Calls Tryd.prog 21 #[.pointer (some ⟨p, 0, none⟩), .string line, .int .i64 k] w (AsmPost w B p (instS (opOf (lnF line)) (fieldsS (lnR line)) k st).2 (instS (opOf (lnF line)) (fieldsS (lnR line)) k st).1) := by
  have HP := Lib.hid (show ∀ w, Calls Tryd.prog 38 #[.string line, .string ⟨#[59]⟩] w fun e w' => e = .returned (.bool (Lib.hasPrefix line.data.toList [59])) ∧ w = w' from fun w => (Tryd.strings_HasPrefix line ⟨#[59]⟩ w).mono (fun e w' h => ⟨h.1, h.2.symm⟩))
  have HC := Lib.hid (show ∀ w, Calls Tryd.prog 39 #[.string line, .string ⟨#[58]⟩] w fun e w' => e = .returned (.tuple #[.string (stemOf line), .bool (Lib.hasSuffix line.data.toList [58])]) ∧ w = w' from fun w => (Tryd.strings_CutSuffix line ⟨#[58]⟩ w (by omega)).mono (fun e w' h => ⟨h.1, h.2.symm⟩))
  have CT := Lib.hid (show ∀ w m, w.cell? ⟨0, 0, none⟩ = some (.int .i64 m) → Calls Tryd.prog 41 #[.string line, .string ⟨#[32]⟩] w fun e w' => e = .returned (.tuple #[.string (lnF line), .string (lnR line), .bool (lnB line)]) ∧ ∃ n, w' = w.drewN n from fun w m hm => Tryd.strings_Cut line ⟨#[32]⟩ m w (by omega) hm)
  obtain ⟨m, hm⟩ := (hT w (Below.refl _ _)).2.2
  have cm := Lib.hid hm
  clear hm
  rw [h1] at HP
  rw [h2] at HC
  rw [h4] at CT
  clear h1 h2 h4
  have OP := Lib.hid (fun w hN => op_any (lnF line) w hN)
  have hrs := Nat.le_trans (lnR_size line) hl
  have SP := Lib.hid (show ∀ w m, w.cell? ⟨0, 0, none⟩ = some (.int .i64 m) → Calls Tryd.prog 43 #[.string (lnR line), .string ⟨#[44, 32]⟩, .int .i64 4] w fun e w' => e = .returned (.slice (some ⟨w.heap.size, 0, none⟩) (fieldsS (lnR line)).length (min 4 ((lnR line).size + 1))) ∧ w' = w.alloc (.cells (Lib.cellsOf (fieldsS (lnR line)) (min 4 ((lnR line).size + 1))) 9) from fun w m hm => Tryd.strings_SplitN (lnR line) ⟨#[44, 32]⟩ 4 m w (by omega) hm (by decide) (by decide) (by decide))
  have hfl : (fieldsS (lnR line)).length ≤ 20 := by have := fields_len (lnR line); omega
  have hfz : ∀ z ∈ fieldsS (lnR line), z.size ≤ 1000000 := fun z hz => Nat.le_trans (split_sizes _ _ _ z hz) hrs
  have FZ := Lib.hid hfz
  clear hfz
  have H := Lib.hid h
  have HT := Lib.hid hT
  clear h hT
  unfold AsmPost
  generalize hop : opOf (lnF line) = op at *
  clear hop
  generalize fieldsS (lnR line) = ss at *
  generalize min 4 ((lnR line).size + 1) = N at *
  clear hrs
  generalize lnR line = rest at *
  generalize lnF line = first at *
  generalize stemOf line = sm at *
  go_enter Tryd.func21, Tryd.ntmps21
  go_wp2_with fail
  refine (HP.out _).mono ?_
  rintro e w1 ⟨rfl, rfl⟩
  go_wp2_with fail
  refine (HC.out _).mono ?_
  rintro e w1 ⟨rfl, rfl⟩
  go_wp2_with fail
  refine (CT.out _ _ cm.out).mono ?_
  rintro e w1 ⟨rfl, n, rfl⟩
  have HD := Lib.hid (H.out.below (below_drewN (Below.refl w.heap.size w) n))
  have BD := Lib.hid (below_drewN (Below.refl B w) n)
  generalize hWD : w.drewN n = wd at *
  have ZD : wd.heap.size = w.heap.size := by rw [← hWD]; rfl
  clear hWD
  go_wp2_with fail
  obtain ⟨m2, hm2⟩ := (HT.out wd BD.out).2.2
  refine (SP.out _ m2 hm2).mono ?_
  rintro e w2 ⟨rfl, rfl⟩
  have BW := Lib.hid (BD.out.alloc (by omega) (.cells (Lib.cellsOf ss N) 9))
  have HW := Lib.hid (HD.out.below ((Below.refl wd.heap.size wd).alloc (Nat.le_refl _) (.cells (Lib.cellsOf ss N) 9)))
  have FW := Lib.hid (fields_made (w := wd) (B := B) ss N (by omega) HD.out.lines.lt)
  have ZW : w.heap.size ≤ (wd.alloc (.cells (Lib.cellsOf ss N) 9)).heap.size := by simp; omega
  generalize wd.alloc (.cells (Lib.cellsOf ss N) 9) = ws at *
  generalize wd.heap.size = fb at *
  subst ZD
  clear hm2
  go_wp2_with fail
  have IN := Lib.hid (inst_any op (some ⟨w.heap.size, 0, none⟩) ss.length N ss k B p st v0 v1 v3 mb ws HW.out FW.out (fun W hb => (HT.out W (BW.out.trans hb)).1) (Nat.le_trans hBw ZW) hws hos FZ.out hfl)
  have NW := (HT.out ws BW.out).2.1
  unfold AsmPost at IN
  refine (OP.out _ NW).mono ?_
  rintro e w3 ⟨rfl, rfl⟩
  go_wp2_with fail
  refine IN.out.mono ?_
  rintro e w4 ⟨u0, u1, u3, m4, rfl, ha, hb4, hz4⟩
  have HA := Lib.hid ha
  have B4 := Lib.hid (BW.out.trans hb4)
  clear ha hb4
  go_wp2_with fail
  go_ret
  exact ⟨u0, u1, u3, m4, rfl, HA.out, B4.out, Nat.le_trans ZW hz4⟩

theorem read_any (line : ByteArray) (k : Nat) (B p : Nat) (st : AsmS) (v0 v1 v3 : Value) (mb : Nat) (w : World) (h : AsmAt w B p st v0 v1 v3 mb) (hT : ∀ W, Below B w W → Tab W) (hBw : B ≤ w.heap.size) (hws : st.words.length ≤ 1000000) (hls : st.labels.length ≤ 1000000) (hos : st.opens.length ≤ 1000000) (hl : line.size ≤ 1000000) :
    Calls Tryd.prog 21 #[.pointer (some ⟨p, 0, none⟩), .string line, .int .i64 k] w (AsmPost w B p (readS line k st).2 (readS line k st).1) := by
  unfold readS
  cases h0 : line.toList.isEmpty with
  | true => exact read_R0 line k B p st v0 v1 v3 mb w h hT hBw hws hls hos hl h0
  | false =>
    cases h1 : Lib.hasPrefix line.data.toList [59] with
    | true => exact read_R1 line k B p st v0 v1 v3 mb w h hT hBw hws hls hos hl h0 h1
    | false =>
      cases h2 : Lib.hasSuffix line.data.toList [58] with
      | true => exact read_R2 line k B p st v0 v1 v3 mb w h hT hBw hws hls hos hl h0 h1 h2
      | false =>
        cases h3 : ((lnF line).toList == [87, 79, 82, 68]) with
        | true => exact read_R3 line k B p st v0 v1 v3 mb w h hT hBw hws hls hos hl h0 h1 h2 h3
        | false =>
          cases h4 : lnB line with
          | false => exact read_R4 line k B p st v0 v1 v3 mb w h hT hBw hws hls hos hl h0 h1 h2 h3 h4
          | true => exact read_R5 line k B p st v0 v1 v3 mb w h hT hBw hws hls hos hl h0 h1 h2 h3 h4

end Go.Proofs.YtnmpamfgkidmiaaDoor

/- Asm: what the open instructions come to. -/
namespace Go.Proofs.YtnmpamfgkidmiaaDoor
open Go.ChangeShapes Go.WideShapes Go.ChangeAt Go.RowKit
set_option linter.unusedVariables false
set_option linter.unusedSimpArgs false
set_option linter.unusedSectionVars false
variable [LinesAt]

/-- The word of a label. -/
def placeL (l : List Lab) (s : ByteArray) : Option Nat := l.foldl (fun a x => if x.1 = s then some x.2 else a) none

theorem placeL_snoc (l : List Lab) (x : Lab) (s : ByteArray) : placeL (l ++ [x]) s = if x.1 = s then some x.2 else placeL l s := by
  unfold placeL
  rw [List.foldl_append]
  rfl

theorem lmap_at (l : List Lab) (s : ByteArray) : (lmap l).atKey (.string s.data.toList) (.lit (.int .i64 0)) = .lit (.int .i64 ((placeL l s).getD 0 : Nat)) := by
  refine snoc_ind (P := fun l => (lmap l).atKey (.string s.data.toList) (.lit (.int .i64 0)) = .lit (.int .i64 ((placeL l s).getD 0 : Nat))) rfl (fun l x ih => ?_) l
  rw [lmap_snoc, placeL_snoc]
  by_cases h : x.1 = s
  · subst h
    rw [if_pos rfl, Maps.atKey_put_same (lmap_isMap l) (by trivial)]
    rfl
  · rw [if_neg h, Maps.atKey_put_other (fun e => h (data_inj (by injection e with e; exact e.symm))), ih]

theorem hasL_place (l : List Lab) (s : ByteArray) : hasL l s = (placeL l s).isSome := by
  refine snoc_ind (P := fun l => hasL l s = (placeL l s).isSome) rfl (fun l x ih => ?_) l
  rw [placeL_snoc]
  unfold hasL at ih ⊢
  rw [List.any_append]
  by_cases h : x.1 = s
  · subst h
    rw [if_pos rfl]
    simp
  · rw [if_neg h, ih]
    have : (x.1.toList == s.toList) = false := by
      rw [Lib.toList_data, Lib.toList_data]
      simp only [beq_eq_false_iff_ne, ne_eq]
      exact fun e => h (data_inj e)
    simp [this]

/-- The number of an instruction that names a label. -/
def numO (l : List Lab) (o : Opn) : Int := ((placeL l o.label).getD 0 : Nat) - o.at_ - 1

/-- What the open instructions come to. -/
def resolveF (l : List Lab) : List Opn → List Int → Int × Nat × List Int
  | [], ws => (0, 0, ws)
  | o :: os, ws =>
    if hasL l o.label = true then
      if checkOf o.op o.a o.b o.c (numO l o) = 0 then resolveF l os (ws.set o.at_ (encOf o.op o.a o.b o.c (numO l o)))
      else (52, o.line, ws)
    else (50, o.line, ws)

theorem resolveF_cons (l : List Lab) (o : Opn) (os : List Opn) (ws : List Int) : resolveF l (o :: os) ws = if hasL l o.label = true then (if checkOf o.op o.a o.b o.c (numO l o) = 0 then resolveF l os (ws.set o.at_ (encOf o.op o.a o.b o.c (numO l o))) else (52, o.line, ws)) else (50, o.line, ws) := rfl

/-- The states that lines lead to. -/
structure AsmOk (st : AsmS) : Prop where
  labels : ∀ l ∈ st.labels, l.2 ≤ st.words.length
  opens : ∀ o ∈ st.opens, o.at_ < st.words.length ∧ I64 o.op ∧ I64 o.a ∧ I64 o.b ∧ I64 o.c ∧ o.label.size ≤ 1000000

theorem placeL_le {l : List Lab} {n : Nat} (h : ∀ x ∈ l, x.2 ≤ n) (s : ByteArray) : (placeL l s).getD 0 ≤ n := by
  revert h
  refine snoc_ind (P := fun l => (∀ x ∈ l, x.2 ≤ n) → (placeL l s).getD 0 ≤ n) (fun _ => Nat.zero_le _) (fun l x ih h => ?_) l
  rw [placeL_snoc]
  by_cases e : x.1 = s
  · rw [if_pos e]
    exact h x (by simp)
  · rw [if_neg e]
    exact ih (fun y hy => h y (by simp [hy]))

theorem row_cells {α : Type} (f : α → List Value) (k : Nat) (hk : ∀ x, (f x).length = k) (d : α) : ∀ (l : List α) (t j : Nat), t < l.length → j < k → (l.flatMap f)[t * k + j]? = (f (l.getD t d))[j]?
  | [], t, j, ht, _ => absurd ht (by simp)
  | x :: l, 0, j, _, hj => by
    rw [List.flatMap_cons, Nat.zero_mul, Nat.zero_add, List.getElem?_append_left (by rw [hk]; exact hj)]
    rfl
  | x :: l, t + 1, j, ht, hj => by
    have e : (t + 1) * k + j = k + (t * k + j) := by rw [Nat.add_mul]; omega
    rw [List.flatMap_cons, List.getElem?_append_right (by rw [hk, e]; omega), hk, e, Nat.add_sub_cancel_left, row_cells f k hk d l t j (by simpa using ht) hj]
    rfl

def noOpn : Opn := ⟨0, 0, 0, 0, 0, ⟨#[]⟩, 0, 0⟩

theorem opens_cell {w : World} {B : Nat} {A : Option Addr} {n c : Nat} {l : List Opn} (h : w.ownsRow B 95 8 (.slice A n c) n (l.flatMap Opn.cells)) (hn : l.length = n) {t : Nat} (ht : t < n) : n ≤ c ∧ ∃ g, A = some ⟨g, 0, none⟩ ∧ B ≤ g ∧ g < w.heap.size ∧ ∀ j, j < 8 → w.cell? ⟨g, t * 8 + j, none⟩ = ((l.getD t noOpn).cells)[j]? := by
  rcases h.2 with ⟨_, h2⟩ | ⟨g, cap, cur, h1, hB, hg, hcap, _, hsz, htk⟩
  · omega
  · injection h1 with h1 h2 h3
    subst h1 h3
    have hW : Whole w g 95 cur := hg
    refine ⟨hcap, g, rfl, hB, hW.lt, fun j hj => ?_⟩
    rw [hW.cell (t * 8 + j), ← row_cells Opn.cells 8 (fun _ => rfl) noOpn l t j (by omega) hj, ← htk, List.getElem?_take, if_pos (by omega), Array.getElem?_toList]

/-- A word put in the place of another. -/
theorem AsmAt.set_word {w : World} {B p : Nat} {ws : List Int} {ls : List Lab} {os : List Opn} {A : Option Addr} {c : Nat} {v1 v3 : Value} {mb : Nat} {n : Nat} (h : AsmAt w B p ⟨ws, ls, os⟩ (.slice A n c) v1 v3 mb) (hn : ws.length = n) {i : Nat} (hi : i < n) : ∃ f, A = some ⟨f, 0, none⟩ ∧ B ≤ f ∧ n ≤ c ∧ w.frozen? ⟨f, i, none⟩ = false ∧ (∃ u, w.cell? ⟨f, i, none⟩ = some u) ∧ ∀ x, AsmAt (w.setCell ⟨f, i, none⟩ (.int .u32 x)) B p ⟨ws.set i x, ls, os⟩ (.slice A n c) v1 v3 mb := by
  subst hn
  have hw : w.ownsRow B 45 1 (.slice A ws.length c) ws.length (ws.map (Value.int .u32)) := h.words
  rcases hw.2 with ⟨h1, h2⟩ | ⟨f, cap, cur, h1, hB, hg, hcap, hmx, hsz, htk⟩
  · omega
  · injection h1 with h1 h2 h3
    subst h1 h3
    have hW : Whole w f 45 cur := hg
    have hlt : i < cur.size := by rw [hsz]; omega
    have hgr : w.grownBy (w.setCell ⟨f, i, none⟩ (.int .u32 0)) (some f) := ⟨rfl, rfl, rfl, by simp [World.setCell], fun j _ hj => Below.heap_setCell w ⟨f, i, none⟩ _ j (fun e => hj (by rw [e]))⟩
    refine ⟨f, rfl, hB, hcap, hW.free i, ⟨cur[i], by rw [hW.cell i]; exact Array.getElem?_eq_getElem hlt⟩, fun x => ?_⟩
    have hgs : w.grownBy (w.setCell ⟨f, i, none⟩ (.int .u32 x)) (some f) := ⟨rfl, rfl, rfl, by simp [World.setCell], fun j _ hj => Below.heap_setCell w ⟨f, i, none⟩ _ j (fun e => hj (by rw [e]))⟩
    obtain ⟨es, clock, hmb⟩ := h.mblk
    refine ⟨h.le, (hgs.block p h.blk.lt (fun e => whole_apart h.blk hW asm_u32 (by injection e))).trans h.blk, ?_, World.ownsRow.kept h.labels hgs (.inr (ownsRow_ne h.labels hg (fun _ _ h => u32_lab (by injection h)))), h.leM, h.map.kept hgs (fun e => whole_map hW hmb (by injection e with e; exact e.symm)), World.ownsRow.kept h.opens hgs (.inr (ownsRow_ne h.opens hg (fun _ _ h => u32_nam (by injection h)))), lines_grown h.lines hgs (fun e => whole_apart hW h.lines str_u32.symm (by injection e))⟩
    show World.ownsRow _ B 45 1 _ (ws.set i x).length ((ws.set i x).map (Value.int .u32))
    rw [List.length_set]
    refine ⟨by rw [List.length_map, List.length_set, Nat.mul_one], .inr ⟨f, c, cur.setIfInBounds i (.int .u32 x), rfl, hB, hW.store i _, hcap, hmx, by rw [Array.size_setIfInBounds]; exact hsz, ?_⟩⟩
    rw [Array.toList_setIfInBounds, List.take_set, htk, List.map_set]

end Go.Proofs.YtnmpamfgkidmiaaDoor

/- Asm: resolve. -/
namespace Go.Proofs.YtnmpamfgkidmiaaDoor
open Go.ChangeShapes Go.WideShapes Go.ChangeAt Go.RowKit
set_option linter.unusedVariables false
set_option linter.unusedSimpArgs false
set_option linter.unusedSectionVars false
variable [LinesAt]

/-- m[k] with ok, on a map of one's own, as one operation of a region that only reads. -/
theorem quiet_lookup {P : Program} {ops : Array Oper} {o : Oper} {a : Act} {C : World → Prop} {KK : Act → Prop}
    (hg : o.guard = none) (m x : Operand) (t : TypeId) (hop : o.op = Op.lookup t m x true) (k e : TypeId) (K : Maps.Keyed P k) (ht : P.underlying t = some (.map k e)) (he : P.underlying e = some (.int .i64)) (hz : ∀ w, (zeroValue e).run P w = .ok (.int .i64 0) w) (b n : Nat) (D : DataW Unit)
    (hm : a.eval m = .map (some b)) (hown : ∀ w, C w → w.ownsMap P k (plainElem P e) b n D) (key : Value) (kl : Lit) (hx : a.eval x = key) (hkey : keyOf P k key = some kl) (c : Int) (hc : D.atKey kl (.lit (.int .i64 0)) = .lit (.int .i64 c)) (hb : Bool) (hh : Maps.has D kl = hb)
    (hK : KK (a.put o.dst (.tuple #[.int .i64 c, .bool hb]))) :
    if Region.wanted o (yielded ops a.tmps) = true then o.quiet P a C KK else KK (a.put o.dst undef) := by
  have hw : Region.wanted o (yielded ops a.tmps) = true := by simp [Region.wanted, hg]
  rw [if_pos hw]
  refine ⟨_, fun w hC => ?_, hK⟩
  obtain ⟨v, ps, hrun, hv⟩ := (hown w hC).look_ok K ht (hz w) (plainElem_int he (by decide)) hkey
  obtain ⟨c', rfl, hc', _⟩ := plainElem_int_inv he hv
  have e1 := (congrArg Prod.fst hc').symm.trans hc
  have e2 : c' = c := by injection e1 with e1; injection e1
  subst e2 hh
  unfold Oper.quietAt
  simp [execOp, hop, hm, hx, hrun, Result.andThen, Oper.quietUpon]

/-- What resolve leaves. -/
def ResPost (w : World) (B p : Nat) (st : AsmS) (r : Int × Nat × List Int) (e : Ending) (w' : World) : Prop :=
  ∃ v0 v1 v3 mb, e = .returned (.tuple #[.int .i64 r.2.1, .int .i64 r.1]) ∧ AsmAt w' B p ⟨r.2.2, st.labels, st.opens⟩ v0 v1 v3 mb ∧ Below B w w' ∧ w.heap.size ≤ w'.heap.size

set_option maxHeartbeats 8000000 in
set_option maxRecDepth 100000 in
theorem resolve_any (B p : Nat) (st : AsmS) (v0 v1 v3 : Value) (mb : Nat) (w : World) (h : AsmAt w B p st v0 v1 v3 mb) (hok : AsmOk st) (hS : ∀ W, Below B w W → ShapesIn W) (hBw : B ≤ w.heap.size) (hws : st.words.length ≤ 1000000) (hos : st.opens.length ≤ 1000000) :
    Calls Tryd.prog 22 #[.pointer (some ⟨p, 0, none⟩)] w (ResPost w B p st (resolveF st.labels st.opens st.words)) := by
  obtain ⟨A3, c3, rfl⟩ : ∃ A3 c3, v3 = .slice A3 st.opens.length c3 := by
    rcases h.opens.2 with ⟨h1, h2⟩ | ⟨g, cap, cur, h1, _⟩
    · exact ⟨none, 0, by rw [h2]; exact h1⟩
    · exact ⟨_, _, h1⟩
  obtain ⟨A0, c0, rfl, _⟩ := Owns.form h.words
  have p3 : w.cell? ⟨p, 3, none⟩ = some (.slice A3 st.opens.length c3) := h.blk.cell 3
  have H := Lib.hid h
  have HS := Lib.hid hS
  have OK := Lib.hid hok
  have HR := Lib.hid (show (∃ t ws, t ≤ st.opens.length ∧ (Value.int .i64 0) = .int .i64 (t : Nat) ∧ AsmAt w B p ⟨ws, st.labels, st.opens⟩ (.slice A0 st.words.length c0) v1 (.slice A3 st.opens.length c3) mb ∧ Below B w w ∧ w.heap.size ≤ w.heap.size ∧ resolveF st.labels (st.opens.drop t) ws = resolveF st.labels st.opens st.words ∧ ws.length = st.words.length) from ⟨0, st.words, Nat.zero_le _, rfl, h, Below.refl _ _, Nat.le_refl _, rfl, rfl⟩)
  clear h hS hok
  generalize hrr : resolveF st.labels st.opens st.words = rr at *
  have RR := Lib.hid hrr
  clear hrr
  go_enter Tryd.func22, Tryd.ntmps22
  go_wp2_with fail
  go_loopw [15] (fun i wr => ∃ (t : Nat) (ws : List Int), t ≤ st.opens.length ∧ i = .int .i64 t ∧ AsmAt wr B p ⟨ws, st.labels, st.opens⟩ (.slice A0 st.words.length c0) v1 (.slice A3 st.opens.length c3) mb ∧ Below B w wr ∧ w.heap.size ≤ wr.heap.size ∧ resolveF st.labels (st.opens.drop t) ws = rr ∧ ws.length = st.words.length) (fun i _ => st.opens.length - (intOf i).toNat)
  case atStart => exact HR.out
  case round =>
    obtain ⟨t, ws, ht, rfl, hA, hB, hZ, hR, hl⟩ := hrel
    have HA := Lib.hid hA
    have HB := Lib.hid hB
    have HRR := Lib.hid hR
    have HL := Lib.hid hl
    rcases Nat.lt_or_ge t st.opens.length with hlt | hge
    · have hI : (t : Int) < st.opens.length := by omega
      obtain ⟨hc3, g, rfl, hBg, hgl, hg⟩ := opens_cell hA.opens rfl hlt
      generalize hO : st.opens.getD t noOpn = o at *
      have HD : st.opens.drop t = o :: st.opens.drop (t + 1) := by
        rw [List.drop_eq_getElem_cons hlt, ← hO, List.getD_eq_getElem?_getD, List.getElem?_eq_getElem hlt]
        rfl
      have hmem : o ∈ st.opens := by
        rw [← hO, List.getD_eq_getElem?_getD, List.getElem?_eq_getElem hlt]
        exact List.getElem_mem hlt
      have hop := OK.out.opens o hmem
      obtain ⟨op, ia, ib, ic, imm, lab, ow, ol⟩ := o
      have hlab := hop.2.2.2.2.2
      have HD := Lib.hid HD
      clear hO hmem
      have q0 : wr.cell? ⟨g, t * 8, none⟩ = some (.int .i64 op) := hg 0 (by decide)
      have q1 : wr.cell? ⟨g, t * 8 + 1, none⟩ = some (.int .i64 ia) := hg 1 (by decide)
      have q2 : wr.cell? ⟨g, t * 8 + 2, none⟩ = some (.int .i64 ib) := hg 2 (by decide)
      have q3 : wr.cell? ⟨g, t * 8 + 3, none⟩ = some (.int .i64 ic) := hg 3 (by decide)
      have q4 : wr.cell? ⟨g, t * 8 + 4, none⟩ = some (.int .i64 imm) := hg 4 (by decide)
      have q5 : wr.cell? ⟨g, t * 8 + 5, none⟩ = some (.string lab) := hg 5 (by decide)
      have q6 : wr.cell? ⟨g, t * 8 + 6, none⟩ = some (.int .i64 ow) := hg 6 (by decide)
      have q7 : wr.cell? ⟨g, t * 8 + 7, none⟩ = some (.int .i64 ol) := hg 7 (by decide)
      clear hg
      clear hA hB hR hl
      have BW := (Below.refl wr.heap.size wr).alloc (Nat.le_refl _) (.cells #[.int .i64 op, .int .i64 ia, .int .i64 ib, .int .i64 ic, .int .i64 imm, .string lab, .int .i64 ow, .int .i64 ol] 95)
      have H1 := Lib.hid (HA.out.below BW)
      have B1 := Lib.hid (HB.out.trans (BW.mono (Nat.le_trans hBw hZ)))
      have BZ := Lib.hid (show ∀ nq u, AsmAt (((wr.alloc (.cells #[.int .i64 op, .int .i64 ia, .int .i64 ib, .int .i64 ic, .int .i64 imm, .string lab, .int .i64 ow, .int .i64 ol] 95)).drewN nq).setCell ⟨wr.heap.size, 4, none⟩ u) B p ⟨ws, st.labels, st.opens⟩ (.slice A0 st.words.length c0) v1 (.slice (some ⟨g, 0, none⟩) st.opens.length c3) mb from fun nq u => HA.out.below ((below_drewN BW nq).setCell (p := ⟨wr.heap.size, 4, none⟩) (Nat.le_refl _) u))
      have Q1 := Lib.hid (Whole.made wr 95 #[.int .i64 op, .int .i64 ia, .int .i64 ib, .int .i64 ic, .int .i64 imm, .string lab, .int .i64 ow, .int .i64 ol] _ rfl)
      have Z1 : wr.heap.size ≤ (wr.alloc (.cells #[.int .i64 op, .int .i64 ia, .int .i64 ib, .int .i64 ic, .int .i64 imm, .string lab, .int .i64 ow, .int .i64 ol] 95)).heap.size := BW.size
      clear BW HA HB
      go_wp2_with fail
      generalize wr.alloc (.cells #[.int .i64 op, .int .i64 ia, .int .i64 ib, .int .i64 ic, .int .i64 imm, .string lab, .int .i64 ow, .int .i64 ol] 95) = W at *
      generalize wr.heap.size = b at *
      clear q0 q1 q2 q3 q4 q5 q6 q7
      have m2 : W.cell? ⟨p, 2, none⟩ = some (.map (some mb)) := H1.out.blk.cell 2
      have x5 : W.cell? ⟨b, 5, none⟩ = some (.string lab) := Q1.out.cell 5
      have MP := Lib.hid H1.out.map
      have hls : lab.size ≤ 1000000 := hlab
      have x0 : W.cell? ⟨b, 0, none⟩ = some (.int .i64 op) := Q1.out.cell 0
      have x1 : W.cell? ⟨b, 1, none⟩ = some (.int .i64 ia) := Q1.out.cell 1
      have x2 : W.cell? ⟨b, 2, none⟩ = some (.int .i64 ib) := Q1.out.cell 2
      have x3 : W.cell? ⟨b, 3, none⟩ = some (.int .i64 ic) := Q1.out.cell 3
      have x4c : W.cell? ⟨b, 4, none⟩ = some (.int .i64 imm) := Q1.out.cell 4
      have x4 : W.frozen? ⟨b, 4, none⟩ = false := Q1.out.free 4
      have x6 : W.cell? ⟨b, 6, none⟩ = some (.int .i64 ow) := Q1.out.cell 6
      have x7 : W.cell? ⟨b, 7, none⟩ = some (.int .i64 ol) := Q1.out.cell 7
      have hkey := Lib.hid (Go.WideMaps.keyOf_string_mk (P := Tryd.prog) Tryd.underlying9 (s := lab) (by unfold maxLen; omega))
      have LA := Lib.hid (lmap_at st.labels lab)
      have LH := Lib.hid (lmap_has st.labels lab)
      have hpl := placeL_le OK.out.labels lab
      have NO := Lib.hid (show numO st.labels ⟨op, ia, ib, ic, imm, lab, ow, ol⟩ = (((placeL st.labels lab).getD 0 : Nat) : Int) - ow - 1 from rfl)
      have ST := Lib.hid (show resolveF st.labels (⟨op, ia, ib, ic, imm, lab, ow, ol⟩ :: st.opens.drop (t + 1)) ws = rr by rw [← HD.out]; exact HRR.out)
      generalize (placeL st.labels lab).getD 0 = pl at *
      cases hh : hasL st.labels lab with
      | false =>
        rw [hh] at LH
        have hrr : rr = (50, ol, ws) := by
          rw [← ST.out]
          unfold resolveF
          exact if_neg (by rw [hh]; decide)
        have HX := Lib.hid hrr
        clear hrr
        refine wp_region_quiet_lit (by kernel_rfl) (by kernel_rfl) ?_
        iterate 6 (go_big_quiet_step (fail))
        refine wpQuiet_step (fun K hK => ?_)
        refine quiet_lookup rfl (.tmp 23) (.tmp 25) 47 rfl 9 3 map_law Tryd.underlying47 Tryd.underlying3 (Tryd.zeroValue3) mb st.labels.length _ rfl (fun w hC => by obtain ⟨nq, rfl⟩ := hC; exact MP.out) _ _ rfl hkey.out _ LA.out _ LH.out (hK _ ?_)
        clear hK K
        simp only [Act.put, List.setIfInBounds_toArray, List.set_cons_succ, List.set_cons_zero]
        iterate 5 (go_big_quiet_step (fail))
        refine wpQuiet_nil ?_
        intro _ hw'
        obtain ⟨nq, hw''⟩ := hw'
        subst hw''
        have HE := Lib.hid (H1.out.below (below_drewN (Below.refl W.heap.size W) nq))
        have BE := Lib.hid (below_drewN B1.out nq)
        have ZE : w.heap.size ≤ (W.drewN nq).heap.size := Nat.le_trans hZ Z1
        generalize hWE : W.drewN nq = WE at *
        have x7' : WE.cell? ⟨b, 7, none⟩ = some (.int .i64 ol) := by rw [← hWE]; exact x7
        clear x0 x1 x2 x3 x4 x4c x5 x6 x7 m2 hWE
        go_wp2_with fail
        go_ret2
        exact ⟨_, v1, _, mb, by rw [HX.out]; rfl, by rw [HX.out]; exact HE.out, BE.out, ZE⟩
      | true =>
        rw [hh] at LH
        have how := hop.1
        have num := Lib.hid (show I64 ((pl : Int) - ow - 1) from by unfold I64; omega)
        refine wp_region_quiet_lit (by kernel_rfl) (by kernel_rfl) ?_
        iterate 6 (go_big_quiet_step (fail))
        refine wpQuiet_step (fun K hK => ?_)
        refine quiet_lookup rfl (.tmp 23) (.tmp 25) 47 rfl 9 3 map_law Tryd.underlying47 Tryd.underlying3 (Tryd.zeroValue3) mb st.labels.length _ rfl (fun w hC => by obtain ⟨nq, rfl⟩ := hC; exact MP.out) _ _ rfl hkey.out _ LA.out _ LH.out (hK _ ?_)
        clear hK K
        simp only [Act.put, List.setIfInBounds_toArray, List.set_cons_succ, List.set_cons_zero]
        iterate 5 (go_big_quiet_step (fail))
        refine wpQuiet_nil ?_
        intro _ hw'
        obtain ⟨nq, hw''⟩ := hw'
        subst hw''
        have S2 : (if checkOf op ia ib ic ((pl : Int) - ow - 1) = 0 then resolveF st.labels (st.opens.drop (t + 1)) (ws.set ow (encOf op ia ib ic ((pl : Int) - ow - 1))) else (52, ol, ws)) = rr := by
          have := ST.out
          rw [resolveF_cons, if_pos hh, NO.out] at this
          exact this
        have EN := Lib.hid (fun w hs => encode_any op ia ib ic ((pl : Int) - ow - 1) w hs hop.2.2.1 hop.2.2.2.1 hop.2.2.2.2.1 num.out)
        unfold encR instrV at EN
        have SR := Lib.hid S2
        clear S2
        have Q2 := Lib.hid (show Whole ((W.drewN nq).setCell ⟨b, 4, none⟩ (.int .i64 ((pl : Int) - ow - 1))) b 95 #[.int .i64 op, .int .i64 ia, .int .i64 ib, .int .i64 ic, .int .i64 ((pl : Int) - ow - 1), .string lab, .int .i64 ow, .int .i64 ol] from (show Whole (W.drewN nq) b 95 #[.int .i64 op, .int .i64 ia, .int .i64 ib, .int .i64 ic, .int .i64 imm, .string lab, .int .i64 ow, .int .i64 ol] from Q1.out).store 4 _)
        have HD2 := Lib.hid ((H1.out.below (below_drewN (Below.refl W.heap.size W) nq)))
        have y0 : ((W.drewN nq).setCell ⟨b, 4, none⟩ (.int .i64 ((pl : Int) - ow - 1))).cell? ⟨b, 0, none⟩ = some (.int .i64 op) := Q2.out.cell 0
        have y1 : ((W.drewN nq).setCell ⟨b, 4, none⟩ (.int .i64 ((pl : Int) - ow - 1))).cell? ⟨b, 1, none⟩ = some (.int .i64 ia) := Q2.out.cell 1
        have y2 : ((W.drewN nq).setCell ⟨b, 4, none⟩ (.int .i64 ((pl : Int) - ow - 1))).cell? ⟨b, 2, none⟩ = some (.int .i64 ib) := Q2.out.cell 2
        have y3 : ((W.drewN nq).setCell ⟨b, 4, none⟩ (.int .i64 ((pl : Int) - ow - 1))).cell? ⟨b, 3, none⟩ = some (.int .i64 ic) := Q2.out.cell 3
        have y4 : ((W.drewN nq).setCell ⟨b, 4, none⟩ (.int .i64 ((pl : Int) - ow - 1))).cell? ⟨b, 4, none⟩ = some (.int .i64 ((pl : Int) - ow - 1)) := Q2.out.cell 4
        go_wp2_with fail
        have H2 := Lib.hid (show AsmAt ((W.drewN nq).setCell ⟨b, 4, none⟩ (.int .i64 ((pl : Int) - ow - 1))) B p ⟨ws, st.labels, st.opens⟩ (.slice A0 st.words.length c0) v1 (.slice (some ⟨g, 0, none⟩) st.opens.length c3) mb from BZ.out nq _)
        have B2 := Lib.hid (show Below B w ((W.drewN nq).setCell ⟨b, 4, none⟩ (.int .i64 ((pl : Int) - ow - 1))) from (below_drewN B1.out nq).setCell (p := ⟨b, 4, none⟩) (show B ≤ b by omega) _)
        have Z2 : w.heap.size ≤ ((W.drewN nq).setCell ⟨b, 4, none⟩ (.int .i64 ((pl : Int) - ow - 1))).heap.size := by simp [World.setCell]; omega
        clear BZ x0 x1 x2 x3 x4 x4c x5 x6 x7 m2 y0 y1 y2 y3 y4 Q1 H1 B1 HD2 MP LA LH NO ST
        generalize (W.drewN nq).setCell ⟨b, 4, none⟩ (.int .i64 ((pl : Int) - ow - 1)) = W2 at *
        generalize encOf op ia ib ic ((pl : Int) - ow - 1) = en at *
        generalize checkOf op ia ib ic ((pl : Int) - ow - 1) = ck at *
        refine (EN.out _ (HS.out _ B2.out)).mono ?_
        rintro e W3 ⟨rfl, hb3⟩
        have H3 := Lib.hid (H2.out.below hb3)
        have Q3 := Lib.hid (Q2.out.below hb3 Q2.out.lt)
        have B3 := Lib.hid (B2.out.trans (hb3.mono (Nat.le_trans hBw Z2)))
        have Z3 : w.heap.size ≤ W3.heap.size := Nat.le_trans Z2 hb3.size
        have z6 : W3.cell? ⟨b, 6, none⟩ = some (.int .i64 ow) := Q3.out.cell 6
        have z7 : W3.cell? ⟨b, 7, none⟩ = some (.int .i64 ol) := Q3.out.cell 7
        have p0 : W3.cell? ⟨p, 0, none⟩ = some (.slice A0 st.words.length c0) := H3.out.blk.cell 0
        clear hb3 H2 Q2 B2 EN
        by_cases hck : ck = 0
        · subst hck
          obtain ⟨f, rfl, hBf, hc0, hfz, ⟨u, hu⟩, hset⟩ := (H3.out.below (Below.refl W3.heap.size W3).drew).set_word HL.out how
          have HSET := Lib.hid hset
          have hfz' : W3.frozen? ⟨f, ow, none⟩ = false := hfz
          have hu' : W3.cell? ⟨f, ow, none⟩ = some u := hu
          clear hset hfz hu
          have hIw : (ow : Int) < st.words.length := by omega
          have hrr := SR.out
          rw [if_pos rfl] at hrr
          have HX := Lib.hid hrr
          clear hrr SR
          go_wp2_with fail
          go_region
          all_goals
            go_wp2_with fail
            go_roundw
            case rel => exact ⟨t + 1, ws.set ow en, by omega, by go_num, HSET.out en, B3.out.drew.setCell (p := ⟨f, ow, none⟩) hBf _, by simp [World.setCell]; omega, HX.out, by rw [List.length_set]; exact HL.out⟩
            case measure => simp [intOf]; omega
        · have hrr := SR.out
          rw [if_neg hck] at hrr
          have HX := Lib.hid hrr.symm
          have hck2 : (ck == 0) = false := by simp [hck]
          clear hrr SR
          go_wp2_with fail
          go_ret2
          exact ⟨_, v1, _, mb, by rw [HX.out]; rfl, by rw [HX.out]; exact H3.out, B3.out, Z3⟩
    · have hn : t = st.opens.length := by omega
      subst hn
      have hrr : rr = (0, 0, ws) := by
        have := HRR.out
        rw [List.drop_length] at this
        exact this.symm
      have HX := Lib.hid hrr
      have hI : decide ((st.opens.length : Int) < st.opens.length) = false := decide_eq_false (by omega)
      clear hA hB hR hl hrr
      go_wp2_with fail
      go_ret2
      exact ⟨_, v1, _, mb, by rw [HX.out]; rfl, by rw [HX.out]; exact HA.out, HB.out, hZ⟩
end Go.Proofs.YtnmpamfgkidmiaaDoor

/- Asm: what the lines keep. -/
namespace Go.Proofs.YtnmpamfgkidmiaaDoor
open Go.ChangeShapes Go.WideShapes Go.ChangeAt Go.RowKit
set_option linter.unusedVariables false
set_option linter.unusedSimpArgs false
set_option linter.unusedSectionVars false
variable [LinesAt]

/-- The states that lines lead to, with their bounds. -/
structure AsmIn (st : AsmS) (k : Nat) : Prop where
  ok : AsmOk st
  words : st.words.length ≤ 16384
  labels : st.labels.length ≤ k
  opens : st.opens.length ≤ k

theorem AsmIn.start : AsmIn ⟨[], [], []⟩ 0 := ⟨⟨fun _ h => (List.not_mem_nil h).elim, fun _ h => (List.not_mem_nil h).elim⟩, Nat.zero_le _, Nat.le_refl _, Nat.le_refl _⟩

theorem AsmIn.up {st : AsmS} {k : Nat} (h : AsmIn st k) : AsmIn st (k + 1) := ⟨h.ok, h.words, Nat.le_succ_of_le h.labels, Nat.le_succ_of_le h.opens⟩

theorem addS_in {x : Int} {st : AsmS} {k : Nat} (hl : ∀ l ∈ st.labels, l.2 ≤ st.words.length) (ho : ∀ o ∈ st.opens, o.at_ ≤ st.words.length ∧ I64 o.op ∧ I64 o.a ∧ I64 o.b ∧ I64 o.c ∧ o.label.size ≤ 1000000) (hn : st.labels.length ≤ k) (hm : st.opens.length ≤ k) (h : (addS x st).1 = 0) : AsmIn (addS x st).2 k := by
  unfold addS at h ⊢
  split at h
  · simp at h
  · rename_i hf
    rw [if_neg hf]
    refine ⟨⟨fun l hl' => ?_, fun o ho' => ?_⟩, by simp; omega, hn, hm⟩
    · have := hl l hl'
      simp
      omega
    · obtain ⟨h1, h2⟩ := ho o ho'
      exact ⟨by simp; omega, h2⟩

theorem AsmIn.add {x : Int} {st : AsmS} {k : Nat} (hI : AsmIn st k) (h : (addS x st).1 = 0) : AsmIn (addS x st).2 k :=
  addS_in hI.ok.labels (fun o ho => ⟨Nat.le_of_lt (hI.ok.opens o ho).1, (hI.ok.opens o ho).2⟩) hI.labels hI.opens h

theorem AsmIn.raw {s : ByteArray} {st : AsmS} {k : Nat} (hI : AsmIn st k) (h : (rawS s st).1 = 0) : AsmIn (rawS s st).2 k := by
  unfold rawS at h ⊢
  split at h
  · rename_i hx
    rw [if_pos hx]
    exact hI.add h
  · simp at h

theorem AsmIn.mark {s : ByteArray} {st : AsmS} {k : Nat} (hI : AsmIn st k) (h : (markS s st).1 = 0) : AsmIn (markS s st).2 (k + 1) := by
  unfold markS at h ⊢
  split at h
  · rename_i hx
    rw [if_pos hx]
    split at h
    · simp at h
    · rename_i hy
      rw [if_neg hy]
      refine ⟨⟨fun l hl => ?_, hI.ok.opens⟩, hI.words, by simp; exact hI.labels, Nat.le_succ_of_le hI.opens⟩
      rw [List.mem_append, List.mem_singleton] at hl
      rcases hl with hl | rfl
      · exact hI.ok.labels l hl
      · exact Nat.le_refl _
  · simp at h

theorem name_small {s : ByteArray} (h : nameB s = true) : s.size ≤ 32 := by
  unfold nameB at h
  simp only [Bool.and_eq_true, decide_eq_true_eq] at h
  exact h.1.1.2

theorem opFrom_in (s : ByteArray) : ∀ (n k : Nat), k + n ≤ 100 → 0 ≤ opFrom s k n ∧ opFrom s k n ≤ 100
  | 0, k, _ => ⟨Int.le_refl _, by unfold opFrom; decide⟩
  | n + 1, k, h => by
    unfold opFrom
    split
    · omega
    · exact opFrom_in s n (k + 1) (by omega)

theorem opOf_i64 (s : ByteArray) : I64 (opOf s) := by
  have := opFrom_in s 34 1 (by decide)
  unfold opOf I64
  omega

theorem AsmIn.inst {op : Int} {ss : List ByteArray} {line : Nat} {st : AsmS} {k : Nat} (hI : AsmIn st k) (hop : I64 op) (h : (instS op ss line st).1 = 0) : AsmIn (instS op ss line st).2 (k + 1) := by
  unfold instS at h ⊢
  split at h
  · rename_i hf
    rw [if_pos hf]
    split at h
    · rename_i hn
      rw [if_pos hn]
      obtain ⟨ja, jb, jc, jn⟩ := fill_i64 hf
      refine addS_in hI.ok.labels (fun o ho => ?_) (Nat.le_succ_of_le hI.labels) (by simp; exact hI.opens) h
      rw [List.mem_append, List.mem_singleton] at ho
      rcases ho with ho | rfl
      · exact ⟨Nat.le_of_lt (hI.ok.opens o ho).1, (hI.ok.opens o ho).2⟩
      · refine ⟨Nat.le_refl _, hop, ja, jb, jc, ?_⟩
        unfold isNm at hn
        simp only [Bool.and_eq_true] at hn
        have := name_small hn.2.2
        exact Nat.le_trans this (by decide)
    · rename_i hn
      rw [if_neg hn]
      exact (hI.add h).up
  · simp at h

theorem readS_in {line : ByteArray} {n : Nat} {st : AsmS} {k : Nat} (hI : AsmIn st k) (h : (readS line n st).1 = 0) : AsmIn (readS line n st).2 (k + 1) := by
  unfold readS at h ⊢
  split at h
  · rename_i h0
    rw [if_pos h0]
    exact hI.up
  · rename_i h0
    rw [if_neg h0]
    split at h
    · rename_i h1
      rw [if_pos h1]
      exact hI.up
    · rename_i h1
      rw [if_neg h1]
      split at h
      · rename_i h2
        rw [if_pos h2]
        exact hI.mark h
      · rename_i h2
        rw [if_neg h2]
        split at h
        · rename_i h3
          rw [if_pos h3]
          exact (hI.raw h).up
        · rename_i h3
          rw [if_neg h3]
          exact hI.inst (opOf_i64 _) h

end Go.Proofs.YtnmpamfgkidmiaaDoor

/- Asm: Assemble. -/
namespace Go.Proofs.YtnmpamfgkidmiaaDoor
open Go.ChangeShapes Go.WideShapes Go.ChangeAt Go.RowKit
set_option linter.unusedVariables false
set_option linter.unusedSimpArgs false

def linesA (text : ByteArray) : List ByteArray := Lib.splitB ⟨#[10]⟩ 0 (Lib.countB text ⟨#[10]⟩) text

abbrev unitT : TypeId := 26

theorem uni_u32 : unitT ≠ 45 := by decide
theorem uni_lab : unitT ≠ 66 := by decide

set_option maxHeartbeats 8000000 in
set_option maxRecDepth 100000 in
/-- Too many lines. -/
theorem asm_full (text : ByteArray) (w : World) (ht : text.size ≤ 1000000) (hc : 4096 ≤ Lib.countByte text.data.toList 10) :
    Calls Tryd.prog 9 #[.string text] w fun e w' => e = .returned (.tuple #[.agg #[.slice none 0 0, .slice none 0 0], .int .i64 4097, .int .i64 242]) ∧ Below w.heap.size w w' := by
  have CO := Lib.hid (show ∀ w, Calls Tryd.prog 19 #[.string text, .string ⟨#[10]⟩] w fun e w' => e = .returned (.int .i64 (Lib.countByte text.data.toList 10)) ∧ w = w' from fun w => (Tryd.strings_Count_one text 10 w).mono (fun e w' h => ⟨h.1, h.2.symm⟩))
  generalize Lib.countByte text.data.toList 10 = n at *
  have d : decide ((4096 : Int) ≤ n) = true := decide_eq_true (by omega)
  have BA := Lib.hid ((Below.refl w.heap.size w).alloc (Nat.le_refl _) (.cells #[.slice none 0 0, .slice none 0 0] unitT))
  have Q := Lib.hid (Whole.made w unitT #[.slice none 0 0, .slice none 0 0] _ rfl)
  have q0 : (w.alloc (.cells #[.slice none 0 0, .slice none 0 0] unitT)).cell? ⟨w.heap.size, 0, none⟩ = some (.slice none 0 0) := Q.out.cell 0
  have q1 : (w.alloc (.cells #[.slice none 0 0, .slice none 0 0] unitT)).cell? ⟨w.heap.size, 1, none⟩ = some (.slice none 0 0) := Q.out.cell 1
  go_enter Tryd.func9, Tryd.ntmps9
  go_wp2_with fail
  refine (CO.out _).mono ?_
  rintro e w1 ⟨rfl, rfl⟩
  go_wp2_with fail
  refine bodyPost_ret (v := .tuple #[.agg #[.slice none 0 0, .slice none 0 0], .int .i64 4097, .int .i64 242]) ?_ rfl ⟨rfl, BA.out⟩
  simp [results, Tryd.results9, go_sem, q0, q1]

/-- What the lines come to, from line n on: an errno, the number of lines read, the state. -/
def runS : List ByteArray → Nat → AsmS → Int × Nat × AsmS
  | [], n, st => (0, n, st)
  | l :: ls, n, st => if (readS l (n + 1) st).1 = 0 then runS ls (n + 1) (readS l (n + 1) st).2 else ((readS l (n + 1) st).1, n + 1, st)

/-- What a text comes to. -/
def asmF (text : ByteArray) : Int × Nat × AsmS :=
  if (runS (linesA text) 0 ⟨[], [], []⟩).1 = 0 then
    ((resolveF (runS (linesA text) 0 ⟨[], [], []⟩).2.2.labels (runS (linesA text) 0 ⟨[], [], []⟩).2.2.opens (runS (linesA text) 0 ⟨[], [], []⟩).2.2.words).1, (resolveF (runS (linesA text) 0 ⟨[], [], []⟩).2.2.labels (runS (linesA text) 0 ⟨[], [], []⟩).2.2.opens (runS (linesA text) 0 ⟨[], [], []⟩).2.2.words).2.1, ⟨(resolveF (runS (linesA text) 0 ⟨[], [], []⟩).2.2.labels (runS (linesA text) 0 ⟨[], [], []⟩).2.2.opens (runS (linesA text) 0 ⟨[], [], []⟩).2.2.words).2.2, (runS (linesA text) 0 ⟨[], [], []⟩).2.2.labels, (runS (linesA text) 0 ⟨[], [], []⟩).2.2.opens⟩)
  else runS (linesA text) 0 ⟨[], [], []⟩

/-- What Assemble leaves. -/
def AsmRes (w : World) (r : Int × Nat × AsmS) (e : Ending) (w' : World) : Prop :=
  ∃ v0 v1, e = .returned (.tuple #[.agg #[v0, v1], .int .i64 r.2.1, .int .i64 r.1]) ∧ Below w.heap.size w w' ∧ (r.1 = 0 → Owns .u32 45 w' (w.heap.size + 1) v0 r.2.2.words.length r.2.2.words ∧ w'.ownsRow (w.heap.size + 1) 66 2 v1 r.2.2.labels.length (r.2.2.labels.flatMap labCells)) ∧ (r.1 ≠ 0 → v0 = .slice none 0 0 ∧ v1 = .slice none 0 0)

theorem runS_cons (l : ByteArray) (ls : List ByteArray) (n : Nat) (st : AsmS) : runS (l :: ls) n st = if (readS l (n + 1) st).1 = 0 then runS ls (n + 1) (readS l (n + 1) st).2 else ((readS l (n + 1) st).1, n + 1, st) := rfl

theorem resolveF_zero (l : List Lab) : ∀ (os : List Opn) (ws : List Int), (resolveF l os ws).1 = 0 → (resolveF l os ws).2.1 = 0
  | [], ws, _ => rfl
  | o :: os, ws, h => by
    letI : LinesAt := ⟨0, #[]⟩
    rw [resolveF_cons] at h ⊢
    split at h
    · rename_i h1
      rw [if_pos h1]
      split at h
      · rename_i h2
        rw [if_pos h2]
        exact resolveF_zero l os _ h
      · simp at h
    · simp at h

theorem lines_len (text : ByteArray) : (linesA text).length = Lib.countB text ⟨#[10]⟩ + 1 := Lib.splitB_all ⟨#[10]⟩ (by decide) 0 _ text rfl

set_option maxHeartbeats 8000000 in
set_option maxRecDepth 100000 in
theorem asm_any (text : ByteArray) (w : World) (ht : text.size ≤ 900000) (hT : ∀ W, Below w.heap.size w W → Tab W) (hc : ¬ 4096 ≤ Lib.countByte text.data.toList 10) :
    Calls Tryd.prog 9 #[.string text] w (AsmRes w (asmF text)) := by
  letI : LinesAt := ⟨w.heap.size + 3, ((linesA text).map Value.string).toArray⟩
  have CO := Lib.hid (show ∀ w, Calls Tryd.prog 19 #[.string text, .string ⟨#[10]⟩] w fun e w' => e = .returned (.int .i64 (Lib.countByte text.data.toList 10)) ∧ w = w' from fun w => (Tryd.strings_Count_one text 10 w).mono (fun e w' h => ⟨h.1, h.2.symm⟩))
  have hll := lines_len text
  have hle : (linesA text).length ≤ 1000000 := by have := Lib.countB_le ⟨#[10]⟩ (by decide) _ text (Nat.le_refl _); omega
  have SP := Lib.hid (show ∀ w m, w.cell? ⟨0, 0, none⟩ = some (.int .i64 m) → Calls Tryd.prog 20 #[.string text, .string ⟨#[10]⟩] w fun e w' => e = .returned (.slice (some ⟨w.heap.size, 0, none⟩) (linesA text).length (linesA text).length) ∧ w' = w.alloc (.cells ((linesA text).map Value.string).toArray 9) from fun w m hm => by rw [hll]; exact Tryd.strings_Split text ⟨#[10]⟩ m w (by omega) hm (by decide))
  clear hll
  have hzz : ∀ z ∈ linesA text, z.size ≤ 1000000 := fun z hz => Nat.le_trans (split_sizes _ _ _ z hz) (by omega)
  have ZZ := Lib.hid hzz
  have RR := Lib.hid (show runS ((linesA text).drop 0) 0 ⟨[], [], []⟩ = runS (linesA text) 0 ⟨[], [], []⟩ from rfl)
  have AF := Lib.hid (show asmF text = _ from by unfold asmF; exact rfl)
  generalize asmF text = af at *
  generalize runS (linesA text) 0 ⟨[], [], []⟩ = rr at *
  generalize Lib.countByte text.data.toList 10 = n at *
  have d : decide ((4096 : Int) ≤ n) = false := decide_eq_false (by omega)
  have BU := (Below.refl w.heap.size w).alloc (Nat.le_refl _) (.cells #[.slice none 0 0, .slice none 0 0] unitT)
  have BM := BU.alloc BU.size (.map #[] 0)
  have BA := BM.alloc BM.size (.cells #[.slice none 0 0, .slice none 0 0, .map (some (w.heap.size + 1)), .slice none 0 0] asmT)
  have BL := Lib.hid (BA.alloc BA.size (.cells ((linesA text).map Value.string).toArray 9))
  have HT := Lib.hid hT
  obtain ⟨m, hm⟩ := (hT _ BA).2.2
  have hm3 := Lib.hid hm
  have z1 : (w.alloc (.cells #[.slice none 0 0, .slice none 0 0] unitT)).heap.size = w.heap.size + 1 := by simp
  have z2 : ((w.alloc (.cells #[.slice none 0 0, .slice none 0 0] unitT)).alloc (.map #[] 0)).heap.size = w.heap.size + 2 := by simp
  have z3 : (((w.alloc (.cells #[.slice none 0 0, .slice none 0 0] unitT)).alloc (.map #[] 0)).alloc (.cells #[.slice none 0 0, .slice none 0 0, .map (some (w.heap.size + 1)), .slice none 0 0] asmT)).heap.size = w.heap.size + 3 := by simp
  have K1 := Whole.made ((w.alloc (.cells #[.slice none 0 0, .slice none 0 0] unitT)).alloc (.map #[] 0)) asmT #[.slice none 0 0, .slice none 0 0, .map (some (w.heap.size + 1)), .slice none 0 0] _ rfl
  rw [z2] at K1
  have K2 := World.ownsMap_made (H := Unit) (w.alloc (.cells #[.slice none 0 0, .slice none 0 0] unitT)) Tryd.prog 9 (plainElem Tryd.prog 3)
  rw [z1] at K2
  have K3 := Whole.made (((w.alloc (.cells #[.slice none 0 0, .slice none 0 0] unitT)).alloc (.map #[] 0)).alloc (.cells #[.slice none 0 0, .slice none 0 0, .map (some (w.heap.size + 1)), .slice none 0 0] asmT)) 9 ((linesA text).map Value.string).toArray _ rfl
  rw [z3] at K3
  have H0 := Lib.hid (show AsmAt ((((w.alloc (.cells #[.slice none 0 0, .slice none 0 0] unitT)).alloc (.map #[] 0)).alloc (.cells #[.slice none 0 0, .slice none 0 0, .map (some (w.heap.size + 1)), .slice none 0 0] asmT)).alloc (.cells ((linesA text).map Value.string).toArray 9)) (w.heap.size + 1) (w.heap.size + 2) ⟨[], [], []⟩ (.slice none 0 0) (.slice none 0 0) (.slice none 0 0) (w.heap.size + 1) from ⟨Nat.le_succ _, K1.alloc _, ⟨rfl, .inl ⟨rfl, rfl⟩⟩, ⟨rfl, .inl ⟨rfl, rfl⟩⟩, Nat.le_refl _, (K2.alloc _).alloc _, ⟨rfl, .inl ⟨rfl, rfl⟩⟩, K3⟩)
  have QU := Lib.hid (show Whole ((((w.alloc (.cells #[.slice none 0 0, .slice none 0 0] unitT)).alloc (.map #[] 0)).alloc (.cells #[.slice none 0 0, .slice none 0 0, .map (some (w.heap.size + 1)), .slice none 0 0] asmT)).alloc (.cells ((linesA text).map Value.string).toArray 9)) w.heap.size unitT #[.slice none 0 0, .slice none 0 0] from (((Whole.made w unitT #[.slice none 0 0, .slice none 0 0] _ rfl).alloc _).alloc _).alloc _)
  clear z1 z2 z3 K1 K2 K3
  have ZL : ((((w.alloc (.cells #[.slice none 0 0, .slice none 0 0] unitT)).alloc (.map #[] 0)).alloc (.cells #[.slice none 0 0, .slice none 0 0, .map (some (w.heap.size + 1)), .slice none 0 0] asmT)).alloc (.cells ((linesA text).map Value.string).toArray 9)).heap.size = w.heap.size + 4 := by simp
  clear hm BU BM BA hT
  have hmm := @run_makeMap Tryd.prog
  go_enter Tryd.func9, Tryd.ntmps9
  go_wp2_with fail
  refine (CO.out _).mono ?_
  rintro e w1 ⟨rfl, rfl⟩
  go_wp2_with fail
  refine (SP.out _ _ hm3.out).mono ?_
  rintro e w1 ⟨rfl, rfl⟩
  clear CO SP hm3
  go_wp2_with fail
  generalize ((((w.alloc (.cells #[.slice none 0 0, .slice none 0 0] unitT)).alloc (.map #[] 0)).alloc (.cells #[.slice none 0 0, .slice none 0 0, .map (some (w.heap.size + 1)), .slice none 0 0] asmT)).alloc (.cells ((linesA text).map Value.string).toArray 9)) = V at *
  have hlf : LinesAt.lf = w.heap.size + 3 := rfl
  have hlc : LinesAt.lcs = ((linesA text).map Value.string).toArray := rfl
  go_loopw [20] (fun i wr => ∃ (t : Nat) (st : AsmS) (v0 v1 v3 : Value) (mb : Nat), t ≤ (linesA text).length ∧ i = .int .i64 t ∧ AsmAt wr (w.heap.size + 1) (w.heap.size + 2) st v0 v1 v3 mb ∧ AsmIn st t ∧ Below (w.heap.size + 1) V wr ∧ V.heap.size ≤ wr.heap.size ∧ runS ((linesA text).drop t) t st = rr) (fun i _ => (linesA text).length - (intOf i).toNat)
  case atStart => exact ⟨0, _, _, _, _, _, Nat.zero_le _, rfl, H0.out, AsmIn.start, Below.refl _ _, Nat.le_refl _, RR.out⟩
  case round =>
    obtain ⟨t, st, v0, v1, v3, mb, ht', rfl, hA, hI, hB, hZ, hR⟩ := hrel
    have HA := Lib.hid hA
    have HI := Lib.hid hI
    have HB := Lib.hid hB
    have HR := Lib.hid hR
    have HTB : ∀ W, Below (w.heap.size + 1) wr W → Tab W := fun W hb => HT.out W (BL.out.trans ((hB.mono (Nat.le_succ _)).trans (hb.mono (Nat.le_succ _))))
    rcases Nat.lt_or_ge t (linesA text).length with hlt | hge
    · have hIt : (t : Int) < (linesA text).length := by omega
      have x0 : wr.cell? ⟨w.heap.size + 3, t, none⟩ = some (.string ((linesA text)[t])) := by
        have := hA.lines.cell t
        rw [hlf, hlc] at this
        rw [this]
        simp [hlt]
      have HD := Lib.hid (List.drop_eq_getElem_cons hlt)
      have hlz := ZZ.out _ (List.getElem_mem hlt)
      generalize (linesA text)[t] = l at *
      have RD := Lib.hid (read_any l (t + 1) (w.heap.size + 1) (w.heap.size + 2) st v0 v1 v3 mb wr hA HTB (by omega) (Nat.le_trans hI.words (by decide)) (Nat.le_trans hI.labels (by omega)) (Nat.le_trans hI.opens (by omega)) hlz)
      rw [show ((t + 1 : Nat) : Int) = (t : Int) + 1 from rfl] at RD
      have hstep : runS (l :: (linesA text).drop (t + 1)) t st = rr := by rw [← HD.out]; exact hR
      rw [runS_cons] at hstep
      have HS := Lib.hid hstep
      have HIN := Lib.hid (fun h => @readS_in _ l (t + 1) st t hI h)
      clear hA hI hB hR hstep HTB
      unfold AsmPost at RD
      generalize readS l (t + 1) st = q at *
      go_wp2_with fail
      refine RD.out.mono ?_
      rintro e w2 ⟨u0, u1, u3, m2, rfl, ha, hb2, hz2⟩
      have HA2 := Lib.hid ha
      have HB2 := Lib.hid (HB.out.trans hb2)
      have HZ2 := Nat.le_trans hZ hz2
      clear ha hb2 HA HB RD x0
      by_cases hq : q.1 = 0
      · have hr := HS.out
        rw [if_pos hq] at hr
        have HX := Lib.hid hr
        have hi2 := Lib.hid (HIN.out hq)
        clear hr HS HIN
        obtain ⟨q1, q2⟩ := q
        subst hq
        go_wp2_with fail
        go_roundw
        case rel => exact ⟨t + 1, q2, u0, u1, u3, m2, by omega, by go_num, HA2.out, hi2.out, HB2.out, HZ2, HX.out⟩
        case measure => simp [intOf]; omega
      · have hr := HS.out
        rw [if_neg hq] at hr
        have haf := AF.out
        rw [← hr, if_neg hq] at haf
        have HAF := Lib.hid haf
        have HNE := Lib.hid hq
        have QW := Lib.hid (QU.out.below HB2.out (Nat.lt_succ_self _))
        obtain ⟨q1, q2⟩ := q
        have hq2 : (q1 == 0) = false := by simpa using hq
        clear hr haf HS HIN HR RR
        have k0 : w2.cell? ⟨w.heap.size, 0, none⟩ = some (.slice none 0 0) := QW.out.cell 0
        have k1 : w2.cell? ⟨w.heap.size, 1, none⟩ = some (.slice none 0 0) := QW.out.cell 1
        have f0 : w2.frozen? ⟨w.heap.size, 0, none⟩ = false := QW.out.free 0
        have f1 : w2.frozen? ⟨w.heap.size, 1, none⟩ = false := QW.out.free 1
        have QS := Lib.hid (show Whole ((w2.setCell ⟨w.heap.size, 0, none⟩ (.slice none 0 0)).setCell ⟨w.heap.size, 1, none⟩ (.slice none 0 0)) w.heap.size unitT #[.slice none 0 0, .slice none 0 0] from (QW.out.store 0 _).store 1 _)
        have BS := Lib.hid (show Below w.heap.size w ((w2.setCell ⟨w.heap.size, 0, none⟩ (.slice none 0 0)).setCell ⟨w.heap.size, 1, none⟩ (.slice none 0 0)) from ((BL.out.trans (HB2.out.mono (Nat.le_succ _))).setCell (p := ⟨w.heap.size, 0, none⟩) (Nat.le_refl _) _).setCell (p := ⟨w.heap.size, 1, none⟩) (Nat.le_refl _) _)
        have r0 : ((w2.setCell ⟨w.heap.size, 0, none⟩ (.slice none 0 0)).setCell ⟨w.heap.size, 1, none⟩ (.slice none 0 0)).cell? ⟨w.heap.size, 0, none⟩ = some (.slice none 0 0) := QS.out.cell 0
        have r1 : ((w2.setCell ⟨w.heap.size, 0, none⟩ (.slice none 0 0)).setCell ⟨w.heap.size, 1, none⟩ (.slice none 0 0)).cell? ⟨w.heap.size, 1, none⟩ = some (.slice none 0 0) := QS.out.cell 1
        go_wp2_with fail
        refine bodyPost_ret (v := .tuple #[.agg #[.slice none 0 0, .slice none 0 0], .int .i64 ((t : Int) + 1), .int .i64 (q1)]) ?_ rfl ⟨_, _, by (rw [HAF.out]; try rfl), BS.out, fun h => absurd (show _ = _ from by rw [HAF.out] at h; exact h) HNE.out, fun _ => ⟨rfl, rfl⟩⟩
        simp [results, Tryd.results9, go_sem, r0, r1]
    · have hn : t = (linesA text).length := by omega
      subst hn
      have hIt : decide (((linesA text).length : Int) < (linesA text).length) = false := decide_eq_false (by omega)
      have hr : rr = ((0 : Int), (linesA text).length, st) := by
        rw [← hR, List.drop_length]
        rfl
      have haf : af = ((resolveF st.labels st.opens st.words).1, (resolveF st.labels st.opens st.words).2.1, ⟨(resolveF st.labels st.opens st.words).2.2, st.labels, st.opens⟩) := by
        have := AF.out
        rw [hr] at this
        exact this.trans (if_pos rfl)
      have RS := Lib.hid (resolve_any (w.heap.size + 1) (w.heap.size + 2) st v0 v1 v3 mb wr hA hI.ok (fun W hb => (HTB W hb).1) (by omega) (Nat.le_trans hI.words (by decide)) (Nat.le_trans hI.opens (by omega)))
      have RZ := Lib.hid (resolveF_zero st.labels st.opens st.words)
      generalize resolveF st.labels st.opens st.words = r at *
      have HAF := Lib.hid haf
      unfold ResPost at RS
      clear hA hI hB hR HTB hr haf AF HR RR
      go_wp2_with fail
      refine RS.out.mono ?_
      rintro e w2 ⟨u0, u1, u3, m2, rfl, ha, hb2, hz2⟩
      have HA2 := Lib.hid ha
      have HB2 := Lib.hid (HB.out.trans hb2)
      have QW := Lib.hid (QU.out.below HB2.out (Nat.lt_succ_self _))
      clear hb2 HA HB RS
      have k0 : w2.cell? ⟨w.heap.size, 0, none⟩ = some (.slice none 0 0) := QW.out.cell 0
      have k1 : w2.cell? ⟨w.heap.size, 1, none⟩ = some (.slice none 0 0) := QW.out.cell 1
      have f0 : w2.frozen? ⟨w.heap.size, 0, none⟩ = false := QW.out.free 0
      have f1 : w2.frozen? ⟨w.heap.size, 1, none⟩ = false := QW.out.free 1
      obtain ⟨r1', r2', r3⟩ := r
      by_cases hq : r1' = 0
      · have hz : r2' = 0 := RZ.out hq
        subst hq hz
        obtain ⟨A0, c0, rfl, _⟩ := Owns.form ha.words
        obtain ⟨A1, c1, rfl⟩ : ∃ A1 c1, u1 = .slice A1 st.labels.length c1 := by
          rcases ha.labels.2 with ⟨h1, h2⟩ | ⟨g, cap, cur, h1, _⟩
          · exact ⟨none, 0, by rw [h2]; exact h1⟩
          · exact ⟨_, _, h1⟩
        have p0 : w2.cell? ⟨w.heap.size + 1 + 1, 0, none⟩ = some (.slice A0 r3.length c0) := ha.blk.cell 0
        have p1 : w2.cell? ⟨w.heap.size + 1 + 1, 1, none⟩ = some (.slice A1 st.labels.length c1) := ha.blk.cell 1
        have hgs : w2.grownBy ((w2.setCell ⟨w.heap.size, 0, none⟩ (.slice A0 r3.length c0)).setCell ⟨w.heap.size, 1, none⟩ (.slice A1 st.labels.length c1)) (some w.heap.size) := ⟨rfl, rfl, rfl, by simp [World.setCell], fun j _ hj => (Below.heap_setCell _ ⟨w.heap.size, 1, none⟩ _ j (fun e => hj (by rw [e]))).trans (Below.heap_setCell w2 ⟨w.heap.size, 0, none⟩ _ j (fun e => hj (by rw [e])))⟩
        have OW := Lib.hid (World.ownsRow.kept ha.words hgs (.inr (ownsRow_ne ha.words QW.out (fun _ _ h => uni_u32 (by injection h)))))
        have OL := Lib.hid (World.ownsRow.kept ha.labels hgs (.inr (ownsRow_ne ha.labels QW.out (fun _ _ h => uni_lab (by injection h)))))
        clear ha hgs
        have QS := Lib.hid (show Whole ((w2.setCell ⟨w.heap.size, 0, none⟩ (.slice A0 r3.length c0)).setCell ⟨w.heap.size, 1, none⟩ (.slice A1 st.labels.length c1)) w.heap.size unitT #[.slice A0 r3.length c0, .slice A1 st.labels.length c1] from (QW.out.store 0 _).store 1 _)
        have BS := Lib.hid (show Below w.heap.size w ((w2.setCell ⟨w.heap.size, 0, none⟩ (.slice A0 r3.length c0)).setCell ⟨w.heap.size, 1, none⟩ (.slice A1 st.labels.length c1)) from ((BL.out.trans (HB2.out.mono (Nat.le_succ _))).setCell (p := ⟨w.heap.size, 0, none⟩) (Nat.le_refl _) _).setCell (p := ⟨w.heap.size, 1, none⟩) (Nat.le_refl _) _)
        have r0 : ((w2.setCell ⟨w.heap.size, 0, none⟩ (.slice A0 r3.length c0)).setCell ⟨w.heap.size, 1, none⟩ (.slice A1 st.labels.length c1)).cell? ⟨w.heap.size, 0, none⟩ = some (.slice A0 r3.length c0) := QS.out.cell 0
        have r1 : ((w2.setCell ⟨w.heap.size, 0, none⟩ (.slice A0 r3.length c0)).setCell ⟨w.heap.size, 1, none⟩ (.slice A1 st.labels.length c1)).cell? ⟨w.heap.size, 1, none⟩ = some (.slice A1 st.labels.length c1) := QS.out.cell 1
        go_wp2_with fail
        refine bodyPost_ret (v := .tuple #[.agg #[.slice A0 r3.length c0, .slice A1 st.labels.length c1], .int .i64 0, .int .i64 0]) ?_ rfl ⟨_, _, by (rw [HAF.out]; try rfl), BS.out, fun _ => by rw [HAF.out]; exact ⟨OW.out, OL.out⟩, fun h => absurd (by rw [HAF.out]) h⟩
        simp [results, Tryd.results9, go_sem, r0, r1]
      · have HNE := Lib.hid hq
        have hq2 : (r1' == 0) = false := by simpa using hq
        clear ha
        have QS := Lib.hid (show Whole ((w2.setCell ⟨w.heap.size, 0, none⟩ (.slice none 0 0)).setCell ⟨w.heap.size, 1, none⟩ (.slice none 0 0)) w.heap.size unitT #[.slice none 0 0, .slice none 0 0] from (QW.out.store 0 _).store 1 _)
        have BS := Lib.hid (show Below w.heap.size w ((w2.setCell ⟨w.heap.size, 0, none⟩ (.slice none 0 0)).setCell ⟨w.heap.size, 1, none⟩ (.slice none 0 0)) from ((BL.out.trans (HB2.out.mono (Nat.le_succ _))).setCell (p := ⟨w.heap.size, 0, none⟩) (Nat.le_refl _) _).setCell (p := ⟨w.heap.size, 1, none⟩) (Nat.le_refl _) _)
        have r0 : ((w2.setCell ⟨w.heap.size, 0, none⟩ (.slice none 0 0)).setCell ⟨w.heap.size, 1, none⟩ (.slice none 0 0)).cell? ⟨w.heap.size, 0, none⟩ = some (.slice none 0 0) := QS.out.cell 0
        have r1 : ((w2.setCell ⟨w.heap.size, 0, none⟩ (.slice none 0 0)).setCell ⟨w.heap.size, 1, none⟩ (.slice none 0 0)).cell? ⟨w.heap.size, 1, none⟩ = some (.slice none 0 0) := QS.out.cell 1
        go_wp2_with fail
        refine bodyPost_ret (v := .tuple #[.agg #[.slice none 0 0, .slice none 0 0], .int .i64 (r2'), .int .i64 (r1')]) ?_ rfl ⟨_, _, by (rw [HAF.out]; try rfl), BS.out, fun h => absurd (show _ = _ from by rw [HAF.out] at h; exact h) HNE.out, fun _ => ⟨rfl, rfl⟩⟩
        simp [results, Tryd.results9, go_sem, r0, r1]

end Go.Proofs.YtnmpamfgkidmiaaDoor

/- Asm: the text that awake assembles. -/
namespace Go.Proofs.YtnmpamfgkidmiaaDoor
open Go.ChangeShapes Go.WideShapes Go.ChangeAt Go.RowKit
set_option linter.unusedVariables false
set_option linter.unusedSimpArgs false

/-- loop:, BR loop. -/
def awakeT : ByteArray := ⟨#[108, 111, 111, 112, 58, 10, 66, 82, 32, 108, 111, 111, 112, 10]⟩

set_option maxRecDepth 100000 in
theorem awake_lines : linesA awakeT = [⟨#[108, 111, 111, 112, 58]⟩, ⟨#[66, 82, 32, 108, 111, 111, 112]⟩, ⟨#[]⟩] := by kernel_rfl

set_option maxRecDepth 100000 in
theorem awake_1 : (asmF awakeT).1 = 0 := by kernel_rfl

set_option maxRecDepth 100000 in
theorem awake_2 : (asmF awakeT).2.1 = 0 := by kernel_rfl

set_option maxRecDepth 100000 in
theorem awake_3 : (asmF awakeT).2.2.words = [385875967] := by kernel_rfl

set_option maxRecDepth 100000 in
theorem awake_4 : (asmF awakeT).2.2.labels = [(⟨#[108, 111, 111, 112]⟩, 0)] := by kernel_rfl

theorem awake_n : Lib.countByte awakeT.data.toList 10 = 2 := by kernel_rfl
end Go.Proofs.YtnmpamfgkidmiaaDoor
