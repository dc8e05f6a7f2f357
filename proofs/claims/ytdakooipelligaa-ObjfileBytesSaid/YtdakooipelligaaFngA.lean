/- Finger, plainly: the sum of bytes; the bytes of exports. -/
import Derived.Test.YtdakooipelligaaCdcH
import Derived.Test.YtdakooipelligaaExpA
namespace Go.Proofs.Ytdakooipelligaa
open Go.ChangeShapes Go.WideShapes Go.ChangeAt Go.RowKit
set_option linter.unusedVariables false
set_option linter.unusedSimpArgs false

/-- A sum, and a byte more. -/
def fnvS (s b : Int) : Int := bits .xor .u32 s b * 16777619 % 4294967296

/-- A sum, and bytes more. -/
def fnvB (s : Int) (bs : List Int) : Int := bs.foldl fnvS s

theorem fnvS_in (s b : Int) : 0 ≤ fnvS s b ∧ fnvS s b ≤ 4294967295 := by
  unfold fnvS
  omega

theorem fnvB_in : ∀ (bs : List Int) (s : Int), 0 ≤ s ∧ s ≤ 4294967295 → 0 ≤ fnvB s bs ∧ fnvB s bs ≤ 4294967295
  | [], s, h => h
  | b :: bs, s, h => fnvB_in bs (fnvS s b) (fnvS_in s b)

theorem fnvB_take (s : Int) (bs : List Int) {t : Nat} (ht : t < bs.length) : fnvB s (bs.take (t + 1)) = fnvS (fnvB s (bs.take t)) (bs.getD t 0) := by
  have e : bs.take (t + 1) = bs.take t ++ [bs.getD t 0] := by
    rw [List.take_add_one, List.getD_eq_getElem?_getD, List.getElem?_eq_getElem ht]
    rfl
  rw [e]
  unfold fnvB
  rw [List.foldl_append]
  rfl

/-- The bytes of a parameter. -/
def parB (q : Int × Bool) : List Int := cntI q.1 ++ [if q.2 then 1 else 0]

def parsB (ps : List (Int × Bool)) : List Int := ps.flatMap parB

/-- The bytes of an export. -/
def exB (x : Ex) : List Int := (cntB x.nm.size ++ strI x.nm) ++ (cntI x.kd ++ (cntI x.ty ++ (cntB (zigN x.vl) ++ (cntI x.ps.length ++ parsB x.ps))))

def exsB (l : List Ex) : List Int := l.flatMap exB

/-- The bytes of a list. -/
def listB (l : List Ex) : List Int := cntI l.length ++ exsB l

/-- The bytes of a name and a list. -/
def keyB (nm : ByteArray) (l : List Ex) : List Int := (cntB nm.size ++ strI nm) ++ listB l

theorem cntI_len {n : Int} (h : n ≤ 9223372036854775807) : (cntI n).length ≤ 10 := cntB_len10 (by omega)

theorem parB_len {q : Int × Bool} (h : ParOk q) : (parB q).length ≤ 11 := by
  unfold parB
  rw [List.length_append]
  have := cntI_len h.2
  simp
  omega

theorem parsB_len : ∀ {ps : List (Int × Bool)}, (∀ q ∈ ps, ParOk q) → (parsB ps).length ≤ 11 * ps.length
  | [], _ => Nat.le_refl _
  | q :: ps, h => by
    have h1 := parB_len (h q List.mem_cons_self)
    have h2 := parsB_len (ps := ps) (fun x hx => h x (List.mem_cons_of_mem _ hx))
    unfold parsB at h2 ⊢
    rw [List.flatMap_cons, List.length_append, List.length_cons]
    omega

/-- An export whose texts and lists are short. -/
def ExSm (x : Ex) : Prop := x.nm.size ≤ 200 ∧ x.ps.length ≤ 60 ∧ ExOk x

theorem exB_len {x : Ex} (h : ExSm x) : (exB x).length ≤ 1000 := by
  obtain ⟨h1, h2, h3, h4, h5, h6⟩ := h
  have a := cntB_len10 (n := x.nm.size) (by omega)
  have b := cntI_len h3.2
  have c := cntI_len h4.2
  have d := cntB_len10 (n := zigN x.vl) (by have := zigN_le h5; omega)
  have e := cntI_len (n := x.ps.length) (by omega)
  have f := parsB_len h6
  have g := strI_len x.nm
  unfold exB
  simp only [List.length_append]
  omega

theorem exsB_len : ∀ {l : List Ex}, (∀ x ∈ l, ExSm x) → (exsB l).length ≤ 1000 * l.length
  | [], _ => Nat.le_refl _
  | x :: l, h => by
    have h1 := exB_len (h x List.mem_cons_self)
    have h2 := exsB_len (l := l) (fun y hy => h y (List.mem_cons_of_mem _ hy))
    unfold exsB at h2 ⊢
    rw [List.flatMap_cons, List.length_append, List.length_cons]
    omega

theorem flat_take {α β : Type} (f : α → List β) (l : List α) (d : α) {t : Nat} (ht : t < l.length) : (l.take (t + 1)).flatMap f = (l.take t).flatMap f ++ f (l.getD t d) := by
  have e : l.take (t + 1) = l.take t ++ [l.getD t d] := by
    rw [List.take_add_one, List.getD_eq_getElem?_getD, List.getElem?_eq_getElem ht]
    rfl
  rw [e, List.flatMap_append, List.flatMap_singleton]

theorem getD_mem {α : Type} {l : List α} (d : α) {t : Nat} (ht : t < l.length) : l.getD t d ∈ l := by
  rw [List.getD_eq_getElem?_getD, List.getElem?_eq_getElem ht]
  exact List.getElem_mem ht

theorem getD_map {α β : Type} (g : α → β) (l : List α) (d : α) (d' : β) {t : Nat} (ht : t < l.length) : (l.map g).getD t d' = g (l.getD t d) := by
  simp [List.getD, ht]
end Go.Proofs.Ytdakooipelligaa
