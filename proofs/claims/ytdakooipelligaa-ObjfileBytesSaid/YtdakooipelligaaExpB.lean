/- Exports written and read again, plainly: what Write puts for a list that fits is that list, and what stood behind it is left. -/
import Derived.Test.YtdakooipelligaaFngL
namespace Go.Proofs.Ytdakooipelligaa
open Go.ChangeShapes Go.WideShapes Go.ChangeAt Go.RowKit
set_option linter.unusedVariables false
set_option linter.unusedSimpArgs false

theorem cnt_again (n most : Nat) (r : List Int) (hn : n < 9223372036854775808) (hm : n ≤ most) : groupsP (cntB n ++ r) 0 most = (n, r, 0) :=
  groupsP_ok (takeG_back 9 0 n r rfl (by decide) (Nat.lt_of_lt_of_le hn (by decide)) (.inl rfl)) (by omega)

theorem nums_again (s : ByteArray) : strOfNums (strI s) = s := by
  apply ByteArray.ext
  apply Array.ext'
  unfold strOfNums strI
  simp only [List.map_map]
  have : ((fun n : Int => UInt8.ofNat n.toNat) ∘ fun b : UInt8 => ((b.toNat : Nat) : Int)) = id := by
    funext b
    simp
  rw [this, List.map_id]

theorem txt_again (s : ByteArray) (most : Nat) (r : List Int) (hs : s.size ≤ most) (hm : most < 9223372036854775808) : textP ((cntB s.size ++ strI s) ++ r) 0 most = (s, r, 0) := by
  rw [List.append_assoc, textP_yes (cnt_again s.size most (strI s ++ r) (by omega) hs) (by rw [List.length_append, strI_len]; omega)]
  have hl := strI_len s
  rw [← hl, List.take_left, List.drop_left, nums_again]

/-- A parameter that Read takes. -/
def ParFit (q : Int × Bool) : Prop := 0 ≤ q.1 ∧ q.1 ≤ 4096

/-- An export that Read takes. -/
structure ExFit (x : Ex) : Prop where
  nm : x.nm.size ≤ 32
  kd : 0 ≤ x.kd ∧ x.kd ≤ 8
  ty : 0 ≤ x.ty ∧ x.ty ≤ 4096
  vl : -2147483648 ≤ x.vl ∧ x.vl ≤ 2147483647
  pn : x.ps.length ≤ 16
  ps : ∀ q ∈ x.ps, ParFit q

theorem cntI_nat {n : Int} (h : 0 ≤ n) : cntI n = cntB n.toNat := rfl

theorem rdPar_again {q : Int × Bool} (h : ParFit q) (r : List Int) : rdPar (parB q ++ r, 0) = (q, (r, 0)) := by
  obtain ⟨t, b⟩ := q
  obtain ⟨h0, h1⟩ := h
  have h0 : 0 ≤ t := h0
  have h1 : t ≤ 4096 := h1
  have e1 : parB (t, b) ++ r = cntB t.toNat ++ (cntB (if b then 1 else 0) ++ r) := by
    show (cntI t ++ [if b = true then 1 else 0]) ++ r = _
    rw [List.append_assoc]
    cases b
    · rw [show (if false = true then 1 else 0 : Nat) = 0 from rfl, cntB_small (n := 0) (by decide)]
      rfl
    · rw [show (if true = true then 1 else 0 : Nat) = 1 from rfl, cntB_small (n := 1) (by decide)]
      rfl
  have e2 := cnt_again t.toNat 4096 (cntB (if b then 1 else 0) ++ r) (by omega) (by omega)
  have e3 := cnt_again (if b then 1 else 0) 1 r (by cases b <;> decide) (by cases b <;> decide)
  unfold rdPar
  show ((((groupsP (parB (t, b) ++ r) 0 4096).1 : Int), decide ((groupsP (groupsP (parB (t, b) ++ r) 0 4096).2.1 (groupsP (parB (t, b) ++ r) 0 4096).2.2 1).1 = 1)), (groupsP (groupsP (parB (t, b) ++ r) 0 4096).2.1 (groupsP (parB (t, b) ++ r) 0 4096).2.2 1).2) = _
  rw [e1, e2]
  show ((((t.toNat : Nat) : Int), decide ((groupsP (cntB (if b = true then 1 else 0) ++ r) 0 1).1 = 1)), (groupsP (cntB (if b = true then 1 else 0) ++ r) 0 1).2) = _
  rw [e3, Int.toNat_of_nonneg h0]
  cases b <;> rfl

theorem rdPars_again : ∀ (ps acc : List (Int × Bool)) (r : List Int), (∀ q ∈ ps, ParFit q) → rdPars ps.length acc (parsB ps ++ r, 0) = (acc ++ ps, (r, 0))
  | [], acc, r, _ => by
    rw [List.append_nil]
    rfl
  | q :: ps, acc, r, h => by
    have e : parsB (q :: ps) ++ r = parB q ++ (parsB ps ++ r) := by
      unfold parsB
      rw [List.flatMap_cons, List.append_assoc]
    show rdPars ps.length (acc ++ [(rdPar (parsB (q :: ps) ++ r, 0)).1]) (rdPar (parsB (q :: ps) ++ r, 0)).2 = _
    rw [e, rdPar_again (h q List.mem_cons_self)]
    show rdPars ps.length (acc ++ [q]) (parsB ps ++ r, 0) = _
    rw [rdPars_again ps (acc ++ [q]) r (fun x hx => h x (List.mem_cons_of_mem _ hx)), List.append_assoc]
    rfl

theorem rdEx_again {x : Ex} (h : ExFit x) (r : List Int) : rdEx (exB x ++ r, 0) = (x, (r, 0)) := by
  obtain ⟨nm, kd, ty, vl, ps⟩ := x
  obtain ⟨h1, h2, h3, h4, h5, h6⟩ := h
  have h1 : nm.size ≤ 32 := h1
  have h2 : 0 ≤ kd ∧ kd ≤ 8 := h2
  have h3 : 0 ≤ ty ∧ ty ≤ 4096 := h3
  have h4 : -2147483648 ≤ vl ∧ vl ≤ 2147483647 := h4
  have h5 : ps.length ≤ 16 := h5
  have h6 : ∀ q ∈ ps, ParFit q := h6
  have hz := zigN_le h4
  have e0 : exB ⟨nm, kd, ty, vl, ps⟩ ++ r = (cntB nm.size ++ strI nm) ++ (cntB kd.toNat ++ (cntB ty.toNat ++ (cntB (zigN vl) ++ (cntB ps.length ++ (parsB ps ++ r))))) := by
    show ((cntB nm.size ++ strI nm) ++ (cntI kd ++ (cntI ty ++ (cntB (zigN vl) ++ (cntI ps.length ++ parsB ps))))) ++ r = _
    simp only [List.append_assoc]
    rfl
  have a1 := txt_again nm 32 (cntB kd.toNat ++ (cntB ty.toNat ++ (cntB (zigN vl) ++ (cntB ps.length ++ (parsB ps ++ r))))) h1 (by decide)
  have a2 := cnt_again kd.toNat 8 (cntB ty.toNat ++ (cntB (zigN vl) ++ (cntB ps.length ++ (parsB ps ++ r)))) (by omega) (by omega)
  have a3 := cnt_again ty.toNat 4096 (cntB (zigN vl) ++ (cntB ps.length ++ (parsB ps ++ r))) (by omega) (by omega)
  have a4 := cnt_again (zigN vl) 4294967295 (cntB ps.length ++ (parsB ps ++ r)) (by omega) hz
  have a5 := cnt_again ps.length 16 (parsB ps ++ r) (by omega) h5
  have a6 := rdPars_again ps [] r h6
  rw [e0]
  have s1 : rsA ((cntB nm.size ++ strI nm) ++ (cntB kd.toNat ++ (cntB ty.toNat ++ (cntB (zigN vl) ++ (cntB ps.length ++ (parsB ps ++ r))))), 0) = (nm, (cntB kd.toNat ++ (cntB ty.toNat ++ (cntB (zigN vl) ++ (cntB ps.length ++ (parsB ps ++ r)))), 0)) := a1
  have s2 : rsB ((cntB nm.size ++ strI nm) ++ (cntB kd.toNat ++ (cntB ty.toNat ++ (cntB (zigN vl) ++ (cntB ps.length ++ (parsB ps ++ r))))), 0) = (kd.toNat, (cntB ty.toNat ++ (cntB (zigN vl) ++ (cntB ps.length ++ (parsB ps ++ r))), 0)) := by
    unfold rsB
    rw [s1]
    exact a2
  have s3 : rsC ((cntB nm.size ++ strI nm) ++ (cntB kd.toNat ++ (cntB ty.toNat ++ (cntB (zigN vl) ++ (cntB ps.length ++ (parsB ps ++ r))))), 0) = (ty.toNat, (cntB (zigN vl) ++ (cntB ps.length ++ (parsB ps ++ r)), 0)) := by
    unfold rsC
    rw [s2]
    exact a3
  have s4 : rsD ((cntB nm.size ++ strI nm) ++ (cntB kd.toNat ++ (cntB ty.toNat ++ (cntB (zigN vl) ++ (cntB ps.length ++ (parsB ps ++ r))))), 0) = (zigN vl, (cntB ps.length ++ (parsB ps ++ r), 0)) := by
    unfold rsD
    rw [s3]
    exact a4
  have s5 : rsE ((cntB nm.size ++ strI nm) ++ (cntB kd.toNat ++ (cntB ty.toNat ++ (cntB (zigN vl) ++ (cntB ps.length ++ (parsB ps ++ r))))), 0) = (ps.length, (parsB ps ++ r, 0)) := by
    unfold rsE
    rw [s4]
    exact a5
  unfold rdEx
  rw [s1, s2, s3, s4, s5]
  show ((⟨nm, ((kd.toNat : Nat) : Int), ((ty.toNat : Nat) : Int), zagN (zigN vl), (rdPars ps.length [] (parsB ps ++ r, 0)).1⟩ : Ex), (rdPars ps.length [] (parsB ps ++ r, 0)).2) = _
  rw [a6, zagN_zigN, Int.toNat_of_nonneg h2.1, Int.toNat_of_nonneg h3.1]
  rfl

theorem rdExs_again : ∀ (l acc : List Ex) (r : List Int), (∀ x ∈ l, ExFit x) → rdExs l.length acc (exsB l ++ r, 0) = (acc ++ l, (r, 0))
  | [], acc, r, _ => by
    rw [List.append_nil]
    rfl
  | x :: l, acc, r, h => by
    have e : exsB (x :: l) ++ r = exB x ++ (exsB l ++ r) := by
      unfold exsB
      rw [List.flatMap_cons, List.append_assoc]
    have e2 := rdEx_again (h x List.mem_cons_self) (exsB l ++ r)
    show rdExs (l.length + 1) acc (exsB (x :: l) ++ r, 0) = _
    rw [e, rdExs_go (by rw [e2]), e2]
    show rdExs l.length (acc ++ [x]) (exsB l ++ r, 0) = _
    rw [rdExs_again l (acc ++ [x]) r (fun y hy => h y (List.mem_cons_of_mem _ hy)), List.append_assoc]
    rfl

/-- A list that fits is read again. -/
theorem rdAll_again {l : List Ex} (h : ∀ x ∈ l, ExFit x) (hn : l.length ≤ 4096) (r : List Int) : rdAll (listB l ++ r, 0) = (l, (r, 0)) := by
  have e : listB l ++ r = cntB l.length ++ (exsB l ++ r) := by
    show (cntI l.length ++ exsB l) ++ r = _
    rw [List.append_assoc]
    rfl
  have a := cnt_again l.length 4096 (exsB l ++ r) (by omega) hn
  show rdExs (groupsP (listB l ++ r) 0 4096).1 [] (groupsP (listB l ++ r) 0 4096).2 = _
  rw [e, a]
  exact rdExs_again l [] r h

/-! ### A word -/

/-- What a Reader's Word answers. -/
def wordP (zs : List Int) (err : Int) : Int × List Int × Int :=
  match zs with
  | z0 :: z1 :: z2 :: z3 :: r => (word4 z0 z1 z2 z3, r, err)
  | _ => (0, [], errP err 120)

theorem wordP_yes (z0 z1 z2 z3 : Int) (r : List Int) (err : Int) : wordP (z0 :: z1 :: z2 :: z3 :: r) err = (word4 z0 z1 z2 z3, r, err) := rfl

theorem wordP_no {zs : List Int} (h : zs.length < 4) (err : Int) : wordP zs err = (0, [], errP err 120) := by
  match zs, h with
  | [], _ => rfl
  | [_], _ => rfl
  | [_, _], _ => rfl
  | [_, _, _], _ => rfl
  | _ :: _ :: _ :: _ :: _, h => simp at h; omega

theorem word_again {n : Int} (h : 0 ≤ n ∧ n ≤ 4294967295) (r : List Int) : wordP (bytesOf n ++ r) 0 = (n, r, 0) := by
  show (word4 (n % 256) (n / 256 % 256) (n / 65536 % 256) (n / 16777216 % 256), r, (0 : Int)) = _
  have : word4 (n % 256) (n / 256 % 256) (n / 65536 % 256) (n / 16777216 % 256) = n := by
    unfold word4
    omega
  rw [this]

theorem RdOk.word {st : RSt} (h : RdOk st) : RdOk (wordP st.1 st.2).2 := by
  obtain ⟨zs, err⟩ := st
  match zs, h with
  | [], h => exact ⟨(fun z hz => by cases hz), Nat.zero_le _, fun _ => rfl⟩
  | [_], h => exact ⟨(fun z hz => by cases hz), Nat.zero_le _, fun _ => rfl⟩
  | [_, _], h => exact ⟨(fun z hz => by cases hz), Nat.zero_le _, fun _ => rfl⟩
  | [_, _, _], h => exact ⟨(fun z hz => by cases hz), Nat.zero_le _, fun _ => rfl⟩
  | _ :: _ :: _ :: _ :: r, h => exact ⟨fun z hz => h.byt z (List.mem_cons_of_mem _ (List.mem_cons_of_mem _ (List.mem_cons_of_mem _ (List.mem_cons_of_mem _ hz)))), by have := h.len; simp at this; show r.length ≤ 100000; omega, fun he => by have := h.bad he; cases this⟩

/-! ### Imports -/

/-- What a module uses. -/
structure Im where
  nm : ByteArray
  key : Int

def imB (x : Im) : List Int := (cntB x.nm.size ++ strI x.nm) ++ bytesOf x.key

def imsB (l : List Im) : List Int := cntI l.length ++ l.flatMap imB

/-- An import that Read takes. -/
def ImFit (x : Im) : Prop := x.nm.size ≤ 32 ∧ 0 ≤ x.key ∧ x.key ≤ 4294967295

def rdIm (st : RSt) : Im × RSt :=
  (⟨(textP st.1 st.2 32).1, (wordP (textP st.1 st.2 32).2.1 (textP st.1 st.2 32).2.2).1⟩, (wordP (textP st.1 st.2 32).2.1 (textP st.1 st.2 32).2.2).2)

def rdIms : Nat → List Im → RSt → List Im × RSt
  | 0, acc, st => (acc, st)
  | k + 1, acc, st => rdIms k (acc ++ [(rdIm st).1]) (rdIm st).2

/-- The imports read: none, if there is an error. -/
def rdAllI (st : RSt) : List Im × RSt :=
  ((if (rdIms (groupsP st.1 st.2 64).1 [] (groupsP st.1 st.2 64).2).2.2 = 0 then (rdIms (groupsP st.1 st.2 64).1 [] (groupsP st.1 st.2 64).2).1 else []), (rdIms (groupsP st.1 st.2 64).1 [] (groupsP st.1 st.2 64).2).2)

theorem RdOk.im {st : RSt} (h : RdOk st) : RdOk (rdIm st).2 := RdOk.word (h.text 32)

theorem rdIms_ok : ∀ (k : Nat) (acc : List Im) (st : RSt), RdOk st → RdOk (rdIms k acc st).2
  | 0, _, _, h => h
  | k + 1, acc, st, h => rdIms_ok k _ _ h.im

theorem rdIm_again {x : Im} (h : ImFit x) (r : List Int) : rdIm (imB x ++ r, 0) = (x, (r, 0)) := by
  obtain ⟨nm, key⟩ := x
  obtain ⟨h1, h2⟩ := h
  have h1 : nm.size ≤ 32 := h1
  have h2 : 0 ≤ key ∧ key ≤ 4294967295 := h2
  have e : imB ⟨nm, key⟩ ++ r = (cntB nm.size ++ strI nm) ++ (bytesOf key ++ r) := by
    show ((cntB nm.size ++ strI nm) ++ bytesOf key) ++ r = _
    rw [List.append_assoc]
  have a := txt_again nm 32 (bytesOf key ++ r) h1 (by decide)
  have b := word_again h2 r
  unfold rdIm
  show ((⟨(textP (imB ⟨nm, key⟩ ++ r) 0 32).1, (wordP (textP (imB ⟨nm, key⟩ ++ r) 0 32).2.1 (textP (imB ⟨nm, key⟩ ++ r) 0 32).2.2).1⟩ : Im), (wordP (textP (imB ⟨nm, key⟩ ++ r) 0 32).2.1 (textP (imB ⟨nm, key⟩ ++ r) 0 32).2.2).2) = _
  rw [e, a]
  show ((⟨nm, (wordP (bytesOf key ++ r) 0).1⟩ : Im), (wordP (bytesOf key ++ r) 0).2) = _
  rw [b]

theorem rdIms_again : ∀ (l acc : List Im) (r : List Int), (∀ x ∈ l, ImFit x) → rdIms l.length acc (l.flatMap imB ++ r, 0) = (acc ++ l, (r, 0))
  | [], acc, r, _ => by
    rw [List.append_nil]
    rfl
  | x :: l, acc, r, h => by
    have e : (x :: l).flatMap imB ++ r = imB x ++ (l.flatMap imB ++ r) := by rw [List.flatMap_cons, List.append_assoc]
    show rdIms l.length (acc ++ [(rdIm ((x :: l).flatMap imB ++ r, 0)).1]) (rdIm ((x :: l).flatMap imB ++ r, 0)).2 = _
    rw [e, rdIm_again (h x List.mem_cons_self)]
    show rdIms l.length (acc ++ [x]) (l.flatMap imB ++ r, 0) = _
    rw [rdIms_again l (acc ++ [x]) r (fun y hy => h y (List.mem_cons_of_mem _ hy)), List.append_assoc]
    rfl

theorem rdAllI_again {l : List Im} (h : ∀ x ∈ l, ImFit x) (hn : l.length ≤ 64) (r : List Int) : rdAllI (imsB l ++ r, 0) = (l, (r, 0)) := by
  have e : imsB l ++ r = cntB l.length ++ (l.flatMap imB ++ r) := by
    show (cntI l.length ++ l.flatMap imB) ++ r = _
    rw [List.append_assoc]
    rfl
  have a := cnt_again l.length 64 (l.flatMap imB ++ r) (by omega) hn
  have b := rdIms_again l [] r h
  unfold rdAllI
  show ((if (rdIms (groupsP (imsB l ++ r) 0 64).1 [] (groupsP (imsB l ++ r) 0 64).2).2.2 = 0 then (rdIms (groupsP (imsB l ++ r) 0 64).1 [] (groupsP (imsB l ++ r) 0 64).2).1 else []), (rdIms (groupsP (imsB l ++ r) 0 64).1 [] (groupsP (imsB l ++ r) 0 64).2).2) = _
  rw [e, a]
  show ((if (rdIms l.length [] (l.flatMap imB ++ r, 0)).2.2 = 0 then (rdIms l.length [] (l.flatMap imB ++ r, 0)).1 else []), (rdIms l.length [] (l.flatMap imB ++ r, 0)).2) = _
  rw [b]
  rfl
end Go.Proofs.Ytdakooipelligaa
