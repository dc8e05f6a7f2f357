/- Object files, plainly: which objects may be; an object's bytes, and that they are read again. -/
import Derived.Test.YtdakooipelligaaSymA
namespace Go.Proofs.Ytdakooipelligaa
open Go.ChangeShapes Go.WideShapes Go.ChangeAt Go.RowKit
set_option linter.unusedVariables false
set_option linter.unusedSimpArgs false

/-- A fixup. -/
structure Fx where
  pl : Int
  kd : Int
  md : Int
  vl : Int

/-- A segment. -/
structure Sg where
  st : Int
  pd : Int

/-- An object. -/
structure Oj where
  md : ByteArray
  key : Int
  ims : List Im
  code : List Int
  fxs : List Fx
  sgs : List Sg
  data : Int
  excs : Int
  body : Int

/-- How many words a fixup's kind has. -/
def wordsK (k : Int) : Int := if k = 3 then 1 else if k = 1 ∨ k = 2 ∨ k = 4 then 2 else 0

theorem wordsK_in (k : Int) : 0 ≤ wordsK k ∧ wordsK k ≤ 2 := by
  unfold wordsK
  split
  · decide
  · split <;> decide

/-- May a fixup be? n words, m imports. -/
def fxFit (n m data excs : Int) (f : Fx) : Prop :=
  (wordsK f.kd ≠ 0 ∧ 0 ≤ f.pl ∧ f.pl + wordsK f.kd ≤ n ∧ 0 ≤ f.md ∧ f.md ≤ m ∧ 0 ≤ f.vl ∧ f.vl ≤ 16384) ∧
    ((f.kd = 4 ∧ f.md = 0 ∧ f.vl = 0) ∨ (f.kd ≠ 4 ∧ (0 < f.md ∨ (f.kd = 1 ∧ f.vl ≤ data) ∨ (f.kd = 2 ∧ f.vl < excs))))

instance (n m data excs : Int) (f : Fx) : Decidable (fxFit n m data excs f) := by unfold fxFit; infer_instance

/-- Fixups one behind the other, from a word on. -/
def fxOk (n m data excs : Int) : Int → List Fx → Prop
  | _, [] => True
  | free, f :: l => (fxFit n m data excs f ∧ free ≤ f.pl) ∧ fxOk n m data excs (f.pl + wordsK f.kd) l

instance decFx (n m data excs : Int) : ∀ (free : Int) (l : List Fx), Decidable (fxOk n m data excs free l)
  | _, [] => isTrue trivial
  | free, f :: l => @instDecidableAnd _ _ inferInstance (decFx n m data excs (f.pl + wordsK f.kd) l)

/-- Segments one behind the other. -/
def sgOk (n : Int) : Int → List Sg → Prop
  | _, [] => True
  | prev, s :: l => (prev < s.st ∧ s.st < n ∧ -1 ≤ s.pd ∧ s.pd < n) ∧ sgOk n s.st l

instance decSg (n : Int) : ∀ (prev : Int) (l : List Sg), Decidable (sgOk n prev l)
  | _, [] => isTrue trivial
  | prev, s :: l => @instDecidableAnd _ _ inferInstance (decSg n s.st l)

/-- The first segment begins at word 0. -/
def sgFirst : List Sg → Prop
  | [] => False
  | s :: _ => s.st = 0

instance (l : List Sg) : Decidable (sgFirst l) := by
  cases l
  · exact isFalse (fun h => h)
  · exact inferInstanceAs (Decidable (_ = _))

/-- What has the right form? -/
def formOk (o : Oj) : Prop :=
  (0 ≤ o.body ∧ o.body < o.code.length) ∧ sgFirst o.sgs ∧ sgOk o.code.length (-1) o.sgs ∧ fxOk o.code.length o.ims.length o.data o.excs 0 o.fxs

instance (o : Oj) : Decidable (formOk o) := by unfold formOk; infer_instance

/-- The error of an object. -/
def checkO (o : Oj) : Int :=
  if ¬ nameOk o.md then 140 else if importsE o.md o.ims ≠ 0 then importsE o.md o.ims
  else if 16384 < o.code.length ∨ 16384 < o.fxs.length ∨ 16384 < o.sgs.length then 242
  else if ¬ ((0 ≤ o.data ∧ o.data ≤ 16384) ∧ 0 ≤ o.excs ∧ o.excs ≤ 4096) then 244
  else if ¬ formOk o then 121 else 0

theorem checkO_name {o : Oj} (h : ¬ nameOk o.md) : checkO o = 140 := if_pos h

theorem checkO_ims {o : Oj} (h : nameOk o.md) (h1 : importsE o.md o.ims ≠ 0) : checkO o = importsE o.md o.ims := by
  unfold checkO
  rw [if_neg (fun h' => h' h), if_pos h1]

theorem checkO_code {o : Oj} (h : nameOk o.md) (h1 : importsE o.md o.ims = 0) (h2 : 16384 < o.code.length ∨ 16384 < o.fxs.length ∨ 16384 < o.sgs.length) : checkO o = 242 := by
  unfold checkO
  rw [if_neg (fun h' => h' h), if_neg (fun h' => h' h1), if_pos h2]

theorem checkO_data {o : Oj} (h : nameOk o.md) (h1 : importsE o.md o.ims = 0) (h2 : ¬ (16384 < o.code.length ∨ 16384 < o.fxs.length ∨ 16384 < o.sgs.length)) (h3 : ¬ ((0 ≤ o.data ∧ o.data ≤ 16384) ∧ 0 ≤ o.excs ∧ o.excs ≤ 4096)) : checkO o = 244 := by
  unfold checkO
  rw [if_neg (fun h' => h' h), if_neg (fun h' => h' h1), if_neg h2, if_pos h3]

theorem checkO_form {o : Oj} (h : nameOk o.md) (h1 : importsE o.md o.ims = 0) (h2 : ¬ (16384 < o.code.length ∨ 16384 < o.fxs.length ∨ 16384 < o.sgs.length)) (h3 : (0 ≤ o.data ∧ o.data ≤ 16384) ∧ 0 ≤ o.excs ∧ o.excs ≤ 4096) : checkO o = if ¬ formOk o then 121 else 0 := by
  unfold checkO
  rw [if_neg (fun h' => h' h), if_neg (fun h' => h' h1), if_neg h2, if_neg (fun h' => h' h3)]

/-- A fixup that is read again. -/
def FxRd (f : Fx) : Prop := (0 ≤ f.pl ∧ f.pl ≤ 16384) ∧ (0 ≤ f.kd ∧ f.kd ≤ 4) ∧ (0 ≤ f.md ∧ f.md ≤ 64) ∧ 0 ≤ f.vl ∧ f.vl ≤ 16384

/-- A segment that is read again. -/
def SgRd (s : Sg) : Prop := (0 ≤ s.st ∧ s.st ≤ 16384) ∧ 0 ≤ s.pd + 1 ∧ s.pd + 1 ≤ 16384

theorem fxOk_rd {n m data excs : Int} (hn : n ≤ 16384) (hm : m ≤ 64) : ∀ (l : List Fx) (free : Int), fxOk n m data excs free l → ∀ f ∈ l, FxRd f
  | [], _, _, f, hf => by cases hf
  | g :: l, free, h, f, hf => by
    obtain ⟨⟨⟨h1, h2⟩, _⟩, h3⟩ := h
    rcases List.mem_cons.1 hf with rfl | hf
    · have hw := wordsK_in f.kd
      have hk : 0 ≤ f.kd ∧ f.kd ≤ 4 := by
        have := h1.1
        unfold wordsK at this
        by_cases e3 : f.kd = 3
        · omega
        · rw [if_neg e3] at this
          by_cases e : f.kd = 1 ∨ f.kd = 2 ∨ f.kd = 4
          · omega
          · rw [if_neg e] at this
            exact absurd rfl this
      unfold FxRd
      omega
    · exact fxOk_rd hn hm l _ h3 f hf

theorem sgOk_rd {n : Int} (hn : n ≤ 16384) : ∀ (l : List Sg) (prev : Int), -1 ≤ prev → sgOk n prev l → ∀ s ∈ l, SgRd s
  | [], _, _, _, s, hs => by cases hs
  | g :: l, prev, hp, h, s, hs => by
    obtain ⟨h1, h2⟩ := h
    rcases List.mem_cons.1 hs with rfl | hs
    · unfold SgRd
      omega
    · exact sgOk_rd hn l _ (by omega) h2 s hs

/-- The numbers of an object are of their types. -/
def OjOk (o : Oj) : Prop := (0 ≤ o.key ∧ o.key ≤ 4294967295) ∧ (∀ x ∈ o.ims, 0 ≤ x.key ∧ x.key ≤ 4294967295) ∧ ∀ z ∈ o.code, 0 ≤ z ∧ z ≤ 4294967295

/-- What is known of an object that passes Check. -/
structure OjFit (o : Oj) : Prop where
  md : nameOk o.md
  in64 : o.ims.length ≤ 64
  ims : ∀ x ∈ o.ims, ImFit x
  n1 : o.code.length ≤ 16384
  n2 : o.fxs.length ≤ 16384
  n3 : o.sgs.length ≤ 16384
  dt : 0 ≤ o.data ∧ o.data ≤ 16384
  ex : 0 ≤ o.excs ∧ o.excs ≤ 4096
  bd : 0 ≤ o.body ∧ o.body ≤ 16384
  fx : ∀ f ∈ o.fxs, FxRd f
  sg : ∀ s ∈ o.sgs, SgRd s

theorem checkO_fit {o : Oj} (h : checkO o = 0) (ok : OjOk o) : OjFit o := by
  unfold checkO at h
  by_cases h1 : nameOk o.md
  · rw [if_neg (fun h => h h1)] at h
    by_cases h2 : importsE o.md o.ims = 0
    · rw [if_neg (fun h => h h2)] at h
      by_cases h3 : 16384 < o.code.length ∨ 16384 < o.fxs.length ∨ 16384 < o.sgs.length
      · rw [if_pos h3] at h
        exact absurd h (by decide)
      · rw [if_neg h3] at h
        by_cases h4 : (0 ≤ o.data ∧ o.data ≤ 16384) ∧ 0 ≤ o.excs ∧ o.excs ≤ 4096
        · rw [if_neg (fun h => h h4)] at h
          by_cases h5 : formOk o
          · have h6 := h2
            unfold importsE at h6
            by_cases h7 : 64 < o.ims.length
            · rw [if_pos h7] at h6
              exact absurd h6 (by decide)
            · rw [if_neg h7] at h6
              obtain ⟨hb, _, hs, hf⟩ := h5
              exact ⟨h1, by omega, fun x hx => ⟨(impsE_names _ _ h6 x hx).2.2, ok.2.1 x hx⟩, by omega, by omega, by omega, h4.1, h4.2, by omega, fxOk_rd (by omega) (by omega) _ _ hf, sgOk_rd (by omega) _ _ (by decide) hs⟩
          · rw [if_pos h5] at h
            exact absurd h (by decide)
        · rw [if_pos h4] at h
          exact absurd h (by decide)
    · rw [if_pos h2] at h
      exact absurd h h2
  · rw [if_pos h1] at h
    exact absurd h (by decide)

/-! ### Bytes -/

def fxB (f : Fx) : List Int := ((cntI f.pl ++ cntI f.kd) ++ cntI f.md) ++ cntI f.vl

def sgB (s : Sg) : List Int := cntI s.st ++ cntI (s.pd + 1)

def codeB (l : List Int) : List Int := cntI l.length ++ l.flatMap bytesOf

def fxsB (l : List Fx) : List Int := cntI l.length ++ l.flatMap fxB

def sgsB (l : List Sg) : List Int := cntI l.length ++ l.flatMap sgB

/-- An object's bytes. -/
def objB (o : Oj) : List Int := bytesOf 1347371521 ++ ((cntB o.md.size ++ strI o.md) ++ (bytesOf o.key ++ (imsB o.ims ++ (codeB o.code ++ (fxsB o.fxs ++ (sgsB o.sgs ++ (cntI o.data ++ (cntI o.excs ++ cntI o.body))))))))

/-- A number that is read up to a most. -/
theorem int_again {n : Int} {most : Nat} (h0 : 0 ≤ n) (h1 : n ≤ most) (hm : most < 9223372036854775807) (r : List Int) : groupsP (cntI n ++ r) 0 most = (n.toNat, r, 0) :=
  cnt_again n.toNat most r (by omega) (by omega)

/-- Words, one behind the other. -/
def rdWs : Nat → List Int → RSt → List Int × RSt
  | 0, acc, st => (acc, st)
  | k + 1, acc, st => rdWs k (acc ++ [(wordP st.1 st.2).1]) (wordP st.1 st.2).2

theorem rdWs_again : ∀ (l acc r : List Int), (∀ z ∈ l, 0 ≤ z ∧ z ≤ 4294967295) → rdWs l.length acc (l.flatMap bytesOf ++ r, 0) = (acc ++ l, (r, 0))
  | [], acc, r, _ => by
    rw [List.append_nil]
    rfl
  | x :: l, acc, r, h => by
    have e : (x :: l).flatMap bytesOf ++ r = bytesOf x ++ (l.flatMap bytesOf ++ r) := by rw [List.flatMap_cons, List.append_assoc]
    show rdWs l.length (acc ++ [(wordP ((x :: l).flatMap bytesOf ++ r) 0).1]) (wordP ((x :: l).flatMap bytesOf ++ r) 0).2 = _
    rw [e, word_again (h x List.mem_cons_self)]
    show rdWs l.length (acc ++ [x]) (l.flatMap bytesOf ++ r, 0) = _
    rw [rdWs_again l (acc ++ [x]) r (fun y hy => h y (List.mem_cons_of_mem _ hy)), List.append_assoc]
    rfl

/-- A fixup that is read. -/
def rdFx (st : RSt) : Fx × RSt :=
  let a := groupsP st.1 st.2 16384
  let b := groupsP a.2.1 a.2.2 4
  let c := groupsP b.2.1 b.2.2 64
  let d := groupsP c.2.1 c.2.2 16384
  (⟨a.1, b.1, c.1, d.1⟩, d.2)

def rdFxs : Nat → List Fx → RSt → List Fx × RSt
  | 0, acc, st => (acc, st)
  | k + 1, acc, st => rdFxs k (acc ++ [(rdFx st).1]) (rdFx st).2

theorem rdFx_again {f : Fx} (h : FxRd f) (r : List Int) : rdFx (fxB f ++ r, 0) = (f, (r, 0)) := by
  obtain ⟨a, b, c, d⟩ := f
  obtain ⟨h1, h2, h3, h4⟩ := h
  simp only at h1 h2 h3 h4
  have e : fxB ⟨a, b, c, d⟩ ++ r = cntI a ++ (cntI b ++ (cntI c ++ (cntI d ++ r))) := by
    show (((cntI a ++ cntI b) ++ cntI c) ++ cntI d) ++ r = _
    simp only [List.append_assoc]
  have a1 := int_again (most := 16384) h1.1 (by omega) (by decide) (cntI b ++ (cntI c ++ (cntI d ++ r)))
  have a2 := int_again (most := 4) h2.1 (by omega) (by decide) (cntI c ++ (cntI d ++ r))
  have a3 := int_again (most := 64) h3.1 (by omega) (by decide) (cntI d ++ r)
  have a4 := int_again (most := 16384) h4.1 (by omega) (by decide) r
  unfold rdFx
  simp only [e, a1, a2, a3, a4]
  rw [Int.toNat_of_nonneg h1.1, Int.toNat_of_nonneg h2.1, Int.toNat_of_nonneg h3.1, Int.toNat_of_nonneg h4.1]

theorem rdFxs_again : ∀ (l acc : List Fx) (r : List Int), (∀ f ∈ l, FxRd f) → rdFxs l.length acc (l.flatMap fxB ++ r, 0) = (acc ++ l, (r, 0))
  | [], acc, r, _ => by
    rw [List.append_nil]
    rfl
  | x :: l, acc, r, h => by
    have e : (x :: l).flatMap fxB ++ r = fxB x ++ (l.flatMap fxB ++ r) := by rw [List.flatMap_cons, List.append_assoc]
    show rdFxs l.length (acc ++ [(rdFx ((x :: l).flatMap fxB ++ r, 0)).1]) (rdFx ((x :: l).flatMap fxB ++ r, 0)).2 = _
    rw [e, rdFx_again (h x List.mem_cons_self)]
    show rdFxs l.length (acc ++ [x]) (l.flatMap fxB ++ r, 0) = _
    rw [rdFxs_again l (acc ++ [x]) r (fun y hy => h y (List.mem_cons_of_mem _ hy)), List.append_assoc]
    rfl

/-- A segment that is read. -/
def rdSg (st : RSt) : Sg × RSt :=
  let a := groupsP st.1 st.2 16384
  let b := groupsP a.2.1 a.2.2 16384
  (⟨a.1, (b.1 : Int) - 1⟩, b.2)

def rdSgs : Nat → List Sg → RSt → List Sg × RSt
  | 0, acc, st => (acc, st)
  | k + 1, acc, st => rdSgs k (acc ++ [(rdSg st).1]) (rdSg st).2

theorem rdSg_again {s : Sg} (h : SgRd s) (r : List Int) : rdSg (sgB s ++ r, 0) = (s, (r, 0)) := by
  obtain ⟨a, b⟩ := s
  obtain ⟨h1, h2⟩ := h
  simp only at h1 h2
  have e : sgB ⟨a, b⟩ ++ r = cntI a ++ (cntI (b + 1) ++ r) := by
    show (cntI a ++ cntI (b + 1)) ++ r = _
    rw [List.append_assoc]
  have a1 := int_again (most := 16384) h1.1 (by omega) (by decide) (cntI (b + 1) ++ r)
  have a2 := int_again (most := 16384) h2.1 (by omega) (by decide) r
  unfold rdSg
  simp only [e, a1, a2]
  rw [Int.toNat_of_nonneg h1.1, Int.toNat_of_nonneg h2.1, show b + 1 - 1 = b by omega]

theorem rdSgs_again : ∀ (l acc : List Sg) (r : List Int), (∀ s ∈ l, SgRd s) → rdSgs l.length acc (l.flatMap sgB ++ r, 0) = (acc ++ l, (r, 0))
  | [], acc, r, _ => by
    rw [List.append_nil]
    rfl
  | x :: l, acc, r, h => by
    have e : (x :: l).flatMap sgB ++ r = sgB x ++ (l.flatMap sgB ++ r) := by rw [List.flatMap_cons, List.append_assoc]
    show rdSgs l.length (acc ++ [(rdSg ((x :: l).flatMap sgB ++ r, 0)).1]) (rdSg ((x :: l).flatMap sgB ++ r, 0)).2 = _
    rw [e, rdSg_again (h x List.mem_cons_self)]
    show rdSgs l.length (acc ++ [x]) (l.flatMap sgB ++ r, 0) = _
    rw [rdSgs_again l (acc ++ [x]) r (fun y hy => h y (List.mem_cons_of_mem _ hy)), List.append_assoc]
    rfl

/-- What is read of an object's bytes, step by step: the lists' lengths (n, m, k) and the lists. -/
structure OjSteps (o : Oj) (r1 r2 r3 r4 r5 r6 r7 r8 r9 r10 r11 r12 : List Int) : Prop where
  s1 : wordP (objB o) 0 = (1347371521, r1, 0)
  s2 : textP r1 0 32 = (o.md, r2, 0)
  s3 : wordP r2 0 = (o.key, r3, 0)
  s4 : rdAllI (r3, 0) = (o.ims, (r4, 0))
  s5 : groupsP r4 0 16384 = (o.code.length, r5, 0)
  s6 : rdWs o.code.length [] (r5, 0) = (o.code, (r6, 0))
  s7 : groupsP r6 0 16384 = (o.fxs.length, r7, 0)
  s8 : rdFxs o.fxs.length [] (r7, 0) = (o.fxs, (r8, 0))
  s9 : groupsP r8 0 16384 = (o.sgs.length, r9, 0)
  s10 : rdSgs o.sgs.length [] (r9, 0) = (o.sgs, (r10, 0))
  s11 : groupsP r10 0 16384 = (o.data.toNat, r11, 0)
  s12 : groupsP r11 0 4096 = (o.excs.toNat, r12, 0)
  s13 : groupsP r12 0 16384 = (o.body.toNat, [], 0)

theorem obj_steps {o : Oj} (h : checkO o = 0) (ok : OjOk o) : ∃ r1 r2 r3 r4 r5 r6 r7 r8 r9 r10 r11 r12, OjSteps o r1 r2 r3 r4 r5 r6 r7 r8 r9 r10 r11 r12 := by
  have f := checkO_fit h ok
  have z : cntI o.body = cntI o.body ++ [] := (List.append_nil _).symm
  refine ⟨(cntB o.md.size ++ strI o.md) ++ (bytesOf o.key ++ (imsB o.ims ++ (codeB o.code ++ (fxsB o.fxs ++ (sgsB o.sgs ++ (cntI o.data ++ (cntI o.excs ++ cntI o.body))))))),
    bytesOf o.key ++ (imsB o.ims ++ (codeB o.code ++ (fxsB o.fxs ++ (sgsB o.sgs ++ (cntI o.data ++ (cntI o.excs ++ cntI o.body)))))),
    imsB o.ims ++ (codeB o.code ++ (fxsB o.fxs ++ (sgsB o.sgs ++ (cntI o.data ++ (cntI o.excs ++ cntI o.body))))),
    codeB o.code ++ (fxsB o.fxs ++ (sgsB o.sgs ++ (cntI o.data ++ (cntI o.excs ++ cntI o.body)))),
    o.code.flatMap bytesOf ++ (fxsB o.fxs ++ (sgsB o.sgs ++ (cntI o.data ++ (cntI o.excs ++ cntI o.body)))),
    fxsB o.fxs ++ (sgsB o.sgs ++ (cntI o.data ++ (cntI o.excs ++ cntI o.body))),
    o.fxs.flatMap fxB ++ (sgsB o.sgs ++ (cntI o.data ++ (cntI o.excs ++ cntI o.body))),
    sgsB o.sgs ++ (cntI o.data ++ (cntI o.excs ++ cntI o.body)),
    o.sgs.flatMap sgB ++ (cntI o.data ++ (cntI o.excs ++ cntI o.body)),
    cntI o.data ++ (cntI o.excs ++ cntI o.body), cntI o.excs ++ cntI o.body, cntI o.body, ?_⟩
  have n1 := f.n1
  have n2 := f.n2
  have n3 := f.n3
  refine ⟨word_again (by decide) _, txt_again o.md 32 _ f.md.2.2 (by decide), word_again ok.1 _, rdAllI_again f.ims f.in64 _, ?_, rdWs_again _ _ _ ok.2.2, ?_, rdFxs_again _ _ _ f.fx, ?_, rdSgs_again _ _ _ f.sg, int_again f.dt.1 (by have := f.dt.2; omega) (by decide) _, int_again f.ex.1 (by have := f.ex.2; omega) (by decide) _, ?_⟩
  · unfold codeB
    rw [List.append_assoc, int_again (by omega) (by omega) (by decide), Int.toNat_natCast]
  · unfold fxsB
    rw [List.append_assoc, int_again (by omega) (by omega) (by decide), Int.toNat_natCast]
  · unfold sgsB
    rw [List.append_assoc, int_again (by omega) (by omega) (by decide), Int.toNat_natCast]
  · rw [z]
    exact int_again f.bd.1 (by have := f.bd.2; omega) (by decide) []
end Go.Proofs.Ytdakooipelligaa
