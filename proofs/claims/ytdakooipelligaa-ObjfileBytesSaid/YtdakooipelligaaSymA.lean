/- Interface files, plainly: which names, exports, imports and files may be; a file's bytes, and that they are read again. -/
import Derived.Test.YtdakooipelligaaExpB
namespace Go.Proofs.Ytdakooipelligaa
open Go.ChangeShapes Go.WideShapes Go.ChangeAt Go.RowKit
set_option linter.unusedVariables false
set_option linter.unusedSimpArgs false

/-- A letter? -/
def letB (c : Int) : Prop := (65 ≤ c ∧ c ≤ 90) ∨ (97 ≤ c ∧ c ≤ 122)

instance (c : Int) : Decidable (letB c) := by unfold letB; infer_instance

/-- May this byte stand at place j of a name? -/
def nmAt (j : Nat) (c : Int) : Prop := letB c ∨ (j ≠ 0 ∧ 48 ≤ c ∧ c ≤ 57)

instance (j : Nat) (c : Int) : Decidable (nmAt j c) := by unfold nmAt; infer_instance

/-- May all bytes, but for how many they are? -/
def nmAll (l : List Int) (n : Nat) : Prop := ∀ j, j < n → nmAt j (l.getD j 0)

instance (l : List Int) (n : Nat) : Decidable (nmAll l n) := by unfold nmAll; infer_instance

/-- May a text be a name? -/
def nameOk (s : ByteArray) : Prop := nmAll (strI s) s.size ∧ 1 ≤ s.size ∧ s.size ≤ 32

instance (s : ByteArray) : Decidable (nameOk s) := by unfold nameOk; infer_instance

/-- Int, Bool, Char. -/
def basicP (t : Int) : Prop := 1 ≤ t ∧ t ≤ 3

instance (t : Int) : Decidable (basicP t) := by unfold basicP; infer_instance

/-- Is it a constant, a variable, an exception, a procedure of these types? -/
def kindOk (x : Ex) : Prop :=
  ((x.kd = 1 ∨ x.kd = 3) ∧ basicP x.ty ∧ x.ps.length = 0) ∨ (x.kd = 7 ∧ x.ty = 0 ∧ x.ps.length = 0) ∨ (x.kd = 6 ∧ (0 ≤ x.ty ∧ x.ty ≤ 3) ∧ x.ps.length ≤ 16 ∧ ∀ q ∈ x.ps, basicP q.1)

instance (x : Ex) : Decidable (kindOk x) := by unfold kindOk; infer_instance

/-- The error of an export. -/
def mayP (x : Ex) : Int :=
  if ¬ nameOk x.nm then 140 else if ¬ kindOk x ∨ (x.kd ≠ 1 ∧ x.vl < 0) then 141 else 0

theorem mayP_fit {x : Ex} (h : mayP x = 0) (hv : -2147483648 ≤ x.vl ∧ x.vl ≤ 2147483647) : ExFit x ∧ nameOk x.nm := by
  unfold mayP at h
  by_cases hn : nameOk x.nm
  · rw [if_neg (fun h => h hn)] at h
    by_cases hk : ¬ kindOk x ∨ (x.kd ≠ 1 ∧ x.vl < 0)
    · rw [if_pos hk] at h
      exact absurd h (by decide)
    · have hk1 : kindOk x := Classical.byContradiction fun e => hk (.inl e)
      refine ⟨⟨hn.2.2, ?_, ?_, hv, ?_, ?_⟩, hn⟩
      · rcases hk1 with ⟨h1, _⟩ | ⟨h1, _⟩ | ⟨h1, _⟩ <;> omega
      · rcases hk1 with ⟨_, h1, _⟩ | ⟨_, h1, _⟩ | ⟨_, h1, _⟩
        · unfold basicP at h1
          omega
        · omega
        · omega
      · rcases hk1 with ⟨_, _, h1⟩ | ⟨_, _, h1⟩ | ⟨_, _, h1, _⟩ <;> omega
      · intro q hq
        rcases hk1 with ⟨_, _, h1⟩ | ⟨_, _, h1⟩ | ⟨_, _, _, h1⟩
        · rw [List.eq_nil_of_length_eq_zero h1] at hq
          cases hq
        · rw [List.eq_nil_of_length_eq_zero h1] at hq
          cases hq
        · have := h1 q hq
          unfold basicP at this
          unfold ParFit
          omega
  · rw [if_pos hn] at h
    exact absurd h (by decide)

instance decNm : DecidableEq ByteArray := fun a b => if h : a.data = b.data then isTrue (ByteArray.ext h) else isFalse (fun e => h (by rw [e]))

instance decMem (s : ByteArray) (l : List ByteArray) : Decidable (s ∈ l) := @List.instDecidableMemOfLawfulBEq _ instBEqOfDecidableEq inferInstance s l

/-- The error of imports, one behind the other; seen: the names ahead (with the module's own). -/
def impsE : List ByteArray → List Im → Int
  | _, [] => 0
  | seen, x :: l => if ¬ nameOk x.nm then 140 else if x.nm ∈ seen then 51 else impsE (x.nm :: seen) l

def importsE (md : ByteArray) (l : List Im) : Int := if 64 < l.length then 243 else impsE [md] l

/-- The error of exports, one behind the other. -/
def expsE : List ByteArray → List Ex → Int
  | _, [] => 0
  | seen, x :: l => if mayP x ≠ 0 then mayP x else if x.nm ∈ seen then 51 else expsE (x.nm :: seen) l

/-- A file. -/
structure Fl where
  md : ByteArray
  key : Int
  ims : List Im
  exs : List Ex

def keyP (md : ByteArray) (l : List Ex) : Int := fnvB 2166136261 (keyB md l)

/-- The error of a file. -/
def checkP (f : Fl) : Int :=
  if ¬ nameOk f.md then 140 else if importsE f.md f.ims ≠ 0 then importsE f.md f.ims else if 4096 < f.exs.length then 242
  else if expsE [] f.exs ≠ 0 then expsE [] f.exs else if f.key ≠ keyP f.md f.exs then 142 else 0

theorem impsE_names : ∀ (l : List Im) (seen : List ByteArray), impsE seen l = 0 → ∀ x ∈ l, nameOk x.nm
  | [], _, _, x, hx => by cases hx
  | y :: l, seen, h, x, hx => by
    unfold impsE at h
    by_cases hn : nameOk y.nm
    · rw [if_neg (fun h => h hn)] at h
      by_cases hs : y.nm ∈ seen
      · rw [if_pos hs] at h
        exact absurd h (by decide)
      · rw [if_neg hs] at h
        rcases List.mem_cons.1 hx with rfl | hx
        · exact hn
        · exact impsE_names l _ h x hx
    · rw [if_pos hn] at h
      exact absurd h (by decide)

theorem expsE_may : ∀ (l : List Ex) (seen : List ByteArray), expsE seen l = 0 → ∀ x ∈ l, mayP x = 0
  | [], _, _, x, hx => by cases hx
  | y :: l, seen, h, x, hx => by
    unfold expsE at h
    by_cases hn : mayP y = 0
    · rw [if_neg (fun h => h hn)] at h
      by_cases hs : y.nm ∈ seen
      · rw [if_pos hs] at h
        exact absurd h (by decide)
      · rw [if_neg hs] at h
        rcases List.mem_cons.1 hx with rfl | hx
        · exact hn
        · exact expsE_may l _ h x hx
    · rw [if_pos hn] at h
      exact absurd h hn

/-- The numbers of a file are of their types. -/
def FlOk (f : Fl) : Prop := (0 ≤ f.key ∧ f.key ≤ 4294967295) ∧ (∀ x ∈ f.ims, 0 ≤ x.key ∧ x.key ≤ 4294967295) ∧ ∀ x ∈ f.exs, ExOk x

theorem checkP_fit {f : Fl} (h : checkP f = 0) (ok : FlOk f) : nameOk f.md ∧ f.ims.length ≤ 64 ∧ (∀ x ∈ f.ims, ImFit x) ∧ f.exs.length ≤ 4096 ∧ ∀ x ∈ f.exs, ExFit x := by
  unfold checkP at h
  by_cases h1 : nameOk f.md
  · rw [if_neg (fun h => h h1)] at h
    by_cases h2 : importsE f.md f.ims = 0
    · rw [if_neg (fun h => h h2)] at h
      by_cases h3 : 4096 < f.exs.length
      · rw [if_pos h3] at h
        exact absurd h (by decide)
      · rw [if_neg h3] at h
        by_cases h4 : expsE [] f.exs = 0
        · have h5 := h2
          unfold importsE at h5
          by_cases h6 : 64 < f.ims.length
          · rw [if_pos h6] at h5
            exact absurd h5 (by decide)
          · rw [if_neg h6] at h5
            refine ⟨h1, by omega, fun x hx => ⟨(impsE_names _ _ h5 x hx).2.2, ok.2.1 x hx⟩, by omega, fun x hx => (mayP_fit (expsE_may _ _ h4 x hx) (ok.2.2 x hx).2.2.1).1⟩
        · rw [if_pos h4] at h
          exact absurd h h4
    · rw [if_pos h2] at h
      exact absurd h h2
  · rw [if_pos h1] at h
    exact absurd h (by decide)

/-- A file's bytes. -/
def fileB (f : Fl) : List Int := bytesOf 1347639553 ++ ((cntB f.md.size ++ strI f.md) ++ (bytesOf f.key ++ (imsB f.ims ++ listB f.exs)))

/-- What Decode reads, step by step: the magic word, the module, the key, the imports, the exports; what is left. -/
def rdFile (st : RSt) : Int × Fl × RSt :=
  let a := wordP st.1 st.2
  let b := textP a.2.1 a.2.2 32
  let c := wordP b.2.1 b.2.2
  let d := rdAllI c.2
  let e := rdAll d.2
  (a.1, ⟨b.1, c.1, d.1, e.1⟩, e.2)

theorem rdFile_again {f : Fl} (h : checkP f = 0) (ok : FlOk f) (r : List Int) : rdFile (fileB f ++ r, 0) = (1347639553, f, (r, 0)) := by
  obtain ⟨h1, h2, h3, h4, h5⟩ := checkP_fit h ok
  obtain ⟨md, key, ims, exs⟩ := f
  have ok1 : 0 ≤ key ∧ key ≤ 4294967295 := ok.1
  have h1 : md.size ≤ 32 := h1.2.2
  have h2 : ims.length ≤ 64 := h2
  have h3 : ∀ x ∈ ims, ImFit x := h3
  have h4 : exs.length ≤ 4096 := h4
  have h5 : ∀ x ∈ exs, ExFit x := h5
  have e : fileB ⟨md, key, ims, exs⟩ ++ r = bytesOf 1347639553 ++ ((cntB md.size ++ strI md) ++ (bytesOf key ++ (imsB ims ++ (listB exs ++ r)))) := by
    show (bytesOf 1347639553 ++ ((cntB md.size ++ strI md) ++ (bytesOf key ++ (imsB ims ++ listB exs)))) ++ r = _
    simp only [List.append_assoc]
  have a1 := word_again (n := 1347639553) (by decide) ((cntB md.size ++ strI md) ++ (bytesOf key ++ (imsB ims ++ (listB exs ++ r))))
  have a2 := txt_again md 32 (bytesOf key ++ (imsB ims ++ (listB exs ++ r))) h1 (by decide)
  have a3 := word_again ok1 (imsB ims ++ (listB exs ++ r))
  have a4 := rdAllI_again h3 h2 (listB exs ++ r)
  have a5 := rdAll_again h5 h4 r
  unfold rdFile
  rw [e]
  show ((wordP (bytesOf 1347639553 ++ ((cntB md.size ++ strI md) ++ (bytesOf key ++ (imsB ims ++ (listB exs ++ r))))) 0).1, _, _) = _
  rw [a1]
  show ((1347639553 : Int), (⟨(textP ((cntB md.size ++ strI md) ++ (bytesOf key ++ (imsB ims ++ (listB exs ++ r)))) 0 32).1, _, _, _⟩ : Fl), _) = _
  rw [a2]
  show ((1347639553 : Int), (⟨md, (wordP (bytesOf key ++ (imsB ims ++ (listB exs ++ r))) 0).1, _, _⟩ : Fl), _) = _
  rw [a3]
  show ((1347639553 : Int), (⟨md, key, (rdAllI (imsB ims ++ (listB exs ++ r), 0)).1, _⟩ : Fl), _) = _
  rw [a4]
  show ((1347639553 : Int), (⟨md, key, ims, (rdAll (listB exs ++ r, 0)).1⟩ : Fl), (rdAll (listB exs ++ r, 0)).2) = _
  rw [a5]
end Go.Proofs.Ytdakooipelligaa
