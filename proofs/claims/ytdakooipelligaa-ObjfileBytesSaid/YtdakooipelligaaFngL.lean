/- Finger, plainly: a list read out of bytes, step by step: one plain reader for both sides. -/
import Derived.Test.YtdakooipelligaaFngK
namespace Go.Proofs.Ytdakooipelligaa
open Go.ChangeShapes Go.WideShapes Go.ChangeAt Go.RowKit
set_option linter.unusedVariables false
set_option linter.unusedSimpArgs false

/-- What is left, and the error. -/
abbrev RSt := List Int × Int

/-- What a reader's state keeps: bytes, not more than there were, none behind an error. -/
structure RdOk (st : RSt) : Prop where
  byt : Byt st.1
  len : st.1.length ≤ 100000
  bad : st.2 ≠ 0 → st.1 = []

theorem RdOk.groups {st : RSt} (h : RdOk st) (most : Nat) : RdOk (groupsP st.1 st.2 most).2 :=
  ⟨fun z hz => h.byt z ((groupsP_rest st.1 st.2 most).2 z hz), Nat.le_trans (groupsP_rest st.1 st.2 most).1 h.len, fun he => (groupsP_err h.bad he).2⟩

theorem RdOk.text {st : RSt} (h : RdOk st) (most : Nat) : RdOk (textP st.1 st.2 most).2 := by
  have hg := h.groups most
  unfold textP
  by_cases hn : (groupsP st.1 st.2 most).1 ≤ (groupsP st.1 st.2 most).2.1.length
  · rw [if_pos hn]
    refine ⟨fun z hz => hg.byt z (List.mem_of_mem_drop hz), ?_, fun he => ?_⟩
    · show (List.drop _ _).length ≤ 100000
      rw [List.length_drop]
      have := hg.len
      omega
    · show List.drop _ _ = []
      rw [hg.bad he, List.drop_nil]
  · rw [if_neg hn]
    exact ⟨(fun z hz => by cases hz), Nat.zero_le _, fun _ => rfl⟩

/-- A parameter read. -/
def rdPar (st : RSt) : (Int × Bool) × RSt :=
  ((((groupsP st.1 st.2 4096).1 : Int), decide ((groupsP (groupsP st.1 st.2 4096).2.1 (groupsP st.1 st.2 4096).2.2 1).1 = 1)), (groupsP (groupsP st.1 st.2 4096).2.1 (groupsP st.1 st.2 4096).2.2 1).2)

/-- So many parameters more. -/
def rdPars : Nat → List (Int × Bool) → RSt → List (Int × Bool) × RSt
  | 0, acc, st => (acc, st)
  | k + 1, acc, st => rdPars k (acc ++ [(rdPar st).1]) (rdPar st).2

theorem RdOk.par {st : RSt} (h : RdOk st) : RdOk (rdPar st).2 := (h.groups 4096).groups 1

theorem rdPars_ok : ∀ (k : Nat) (acc : List (Int × Bool)) (st : RSt), RdOk st → RdOk (rdPars k acc st).2
  | 0, _, _, h => h
  | k + 1, acc, st, h => rdPars_ok k _ _ h.par

theorem rdPars_len : ∀ (k : Nat) (acc : List (Int × Bool)) (st : RSt), (rdPars k acc st).1.length = acc.length + k
  | 0, _, _ => rfl
  | k + 1, acc, st => by
    show (rdPars k (acc ++ [(rdPar st).1]) (rdPar st).2).1.length = _
    rw [rdPars_len k, List.length_append, List.length_singleton]
    omega

/-- The states of an export that is read: behind its name, its kind, its type, its value, the number of its parameters. -/
def rsA (st : RSt) : ByteArray × RSt := textP st.1 st.2 32

def rsB (st : RSt) : Nat × RSt := groupsP (rsA st).2.1 (rsA st).2.2 8

def rsC (st : RSt) : Nat × RSt := groupsP (rsB st).2.1 (rsB st).2.2 4096

def rsD (st : RSt) : Nat × RSt := groupsP (rsC st).2.1 (rsC st).2.2 4294967295

def rsE (st : RSt) : Nat × RSt := groupsP (rsD st).2.1 (rsD st).2.2 16

/-- An export read. -/
def rdEx (st : RSt) : Ex × RSt :=
  (⟨(rsA st).1, (rsB st).1, (rsC st).1, zagN (rsD st).1, (rdPars (rsE st).1 [] (rsE st).2).1⟩, (rdPars (rsE st).1 [] (rsE st).2).2)

theorem RdOk.ra {st : RSt} (h : RdOk st) : RdOk (rsA st).2 := h.text 32

theorem RdOk.rb {st : RSt} (h : RdOk st) : RdOk (rsB st).2 := h.ra.groups 8

theorem RdOk.rc {st : RSt} (h : RdOk st) : RdOk (rsC st).2 := h.rb.groups 4096

theorem RdOk.rd {st : RSt} (h : RdOk st) : RdOk (rsD st).2 := h.rc.groups 4294967295

theorem RdOk.re {st : RSt} (h : RdOk st) : RdOk (rsE st).2 := h.rd.groups 16

theorem RdOk.ex {st : RSt} (h : RdOk st) : RdOk (rdEx st).2 := rdPars_ok _ _ _ h.re

theorem rsE_le (st : RSt) : (rsE st).1 ≤ 16 := groupsP_le _ _ _

theorem rdEx_ps (st : RSt) : (rdEx st).1.ps.length ≤ 16 := by
  show (rdPars (rsE st).1 [] (rsE st).2).1.length ≤ 16
  rw [rdPars_len]
  have := rsE_le st
  simp
  omega

/-- So many exports more; none, if there is an error. -/
def rdExs : Nat → List Ex → RSt → List Ex × RSt
  | 0, acc, st => (acc, st)
  | k + 1, acc, st => if (rdEx st).2.2 = 0 then rdExs k (acc ++ [(rdEx st).1]) (rdEx st).2 else ([], (rdEx st).2)

theorem rdExs_go {k : Nat} {acc : List Ex} {st : RSt} (h : (rdEx st).2.2 = 0) : rdExs (k + 1) acc st = rdExs k (acc ++ [(rdEx st).1]) (rdEx st).2 := if_pos h

theorem rdExs_bad {k : Nat} {acc : List Ex} {st : RSt} (h : (rdEx st).2.2 ≠ 0) : rdExs (k + 1) acc st = ([], (rdEx st).2) := if_neg h

/-- The list read. -/
def rdAll (st : RSt) : List Ex × RSt := rdExs (groupsP st.1 st.2 4096).1 [] (groupsP st.1 st.2 4096).2

theorem rdExs_in : ∀ (k : Nat) (acc : List Ex) (st : RSt), (∀ x ∈ acc, x.ps.length ≤ 16) → (rdExs k acc st).1.length ≤ acc.length + k ∧ ∀ x ∈ (rdExs k acc st).1, x.ps.length ≤ 16
  | 0, acc, st, h => ⟨Nat.le_refl _, h⟩
  | k + 1, acc, st, h => by
    by_cases he : (rdEx st).2.2 = 0
    · rw [rdExs_go he]
      have := rdExs_in k (acc ++ [(rdEx st).1]) (rdEx st).2 (fun x hx => by
        rcases List.mem_append.1 hx with hx | hx
        · exact h x hx
        · obtain rfl := List.mem_singleton.1 hx
          exact rdEx_ps st)
      rw [List.length_append, List.length_singleton] at this
      exact ⟨by omega, this.2⟩
    · rw [rdExs_bad he]
      exact ⟨Nat.zero_le _, fun x hx => by cases hx⟩

theorem rdAll_in (st : RSt) : (rdAll st).1.length ≤ 4096 ∧ ∀ x ∈ (rdAll st).1, x.ps.length ≤ 16 := by
  have h1 := rdExs_in (groupsP st.1 st.2 4096).1 [] (groupsP st.1 st.2 4096).2 (fun x hx => by cases hx)
  have h2 := groupsP_le st.1 st.2 4096
  refine ⟨?_, h1.2⟩
  have h3 := h1.1
  simp only [List.length_nil] at h3
  show (rdExs _ _ _).1.length ≤ 4096
  omega
end Go.Proofs.Ytdakooipelligaa
