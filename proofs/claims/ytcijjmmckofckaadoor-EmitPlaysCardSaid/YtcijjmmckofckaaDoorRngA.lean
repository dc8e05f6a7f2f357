/- Ranges, plainly: which segments may be, which pad a word has, what is marked, moved, covered; what was marked at words that rise is found. -/
import Derived.Test.YtcijjmmckofckaaDoorSegA
namespace Go.Proofs.YtcijjmmckofckaaDoor
open Go.ChangeShapes Go.WideShapes Go.ChangeAt Go.RowKit
set_option linter.unusedVariables false
set_option linter.unusedSimpArgs false

/-- The last one. -/
def lastS (l : List Sg) : Sg := l.getD (l.length - 1) zSg

theorem lastS_snoc (l : List Sg) (s : Sg) : lastS (l ++ [s]) = s := by
  unfold lastS
  rw [List.length_append, List.length_singleton, Nat.add_sub_cancel]
  exact getD_last l s zSg

theorem snoc_last {l : List Sg} (h : l ≠ []) : l = l.take (l.length - 1) ++ [lastS l] := by
  have hl := List.length_pos_iff.2 h
  have e : l.take (l.length - 1 + 1) = l.take (l.length - 1) ++ [l.getD (l.length - 1) zSg] := by
    rw [List.take_add_one, List.getD_eq_getElem?_getD, List.getElem?_eq_getElem (show l.length - 1 < l.length by omega)]
    rfl
  rw [Nat.sub_add_cancel hl, List.take_length] at e
  exact e

theorem getD_memS {l : List Sg} {i : Nat} (h : i < l.length) : l.getD i zSg ∈ l := by
  rw [List.getD_eq_getElem?_getD, List.getElem?_eq_getElem h]
  exact List.getElem_mem h

/-- May they be those of n words? Behind the one ahead. -/
def rtOk (n : Int) : Option Sg → List Sg → Prop
  | _, [] => True
  | p, s :: l => ((match p with | none => s.st = 0 | some q => q.st < s.st ∧ q.pd ≠ s.pd) ∧ s.st < n ∧ -1 ≤ s.pd ∧ s.pd < n) ∧ rtOk n (some s) l

instance decRt (n : Int) : ∀ (p : Option Sg) (l : List Sg), Decidable (rtOk n p l)
  | _, [] => isTrue trivial
  | none, s :: l => @instDecidableAnd _ _ (inferInstanceAs (Decidable (s.st = 0 ∧ _))) (decRt n (some s) l)
  | some q, s :: l => @instDecidableAnd _ _ (inferInstanceAs (Decidable ((q.st < s.st ∧ q.pd ≠ s.pd) ∧ _))) (decRt n (some s) l)

/-- Segments of n words. -/
def rightP (l : List Sg) (n : Int) : Prop := if n ≤ 0 then n = 0 ∧ l.length = 0 else l.length ≠ 0 ∧ rtOk n none l

/-- Do their starts rise? -/
def riseS (l : List Sg) : Prop := l.Pairwise fun a b => a.st < b.st

/-- The pad of a word, going on. -/
def findP : Int → List Sg → Int → Int
  | p, [], _ => p
  | p, s :: l, x => if s.st ≤ x then findP s.pd l x else p

theorem find_snoc : ∀ (l : List Sg) (p : Int) (s : Sg) (x : Int), riseS (l ++ [s]) → findP p (l ++ [s]) x = if s.st ≤ x then s.pd else findP p l x
  | [], p, s, x, _ => rfl
  | a :: l, p, s, x, h => by
    have h1 : ∀ b ∈ l ++ [s], a.st < b.st := (List.pairwise_cons.1 h).1
    have h2 : riseS (l ++ [s]) := (List.pairwise_cons.1 h).2
    have h3 := h1 s (by simp)
    have ih := find_snoc l a.pd s x h2
    show (if a.st ≤ x then findP a.pd (l ++ [s]) x else p) = if s.st ≤ x then s.pd else if a.st ≤ x then findP a.pd l x else p
    rw [ih]
    by_cases e : s.st ≤ x
    · rw [if_pos e, if_pos e, if_pos (by omega)]
    · rw [if_neg e, if_neg e]

theorem find_past {l : List Sg} (h : riseS l) (hn : l ≠ []) (p : Int) {x : Int} (hx : (lastS l).st ≤ x) : findP p l x = (lastS l).pd := by
  have e := snoc_last hn
  have h' : riseS (l.take (l.length - 1) ++ [lastS l]) := by rw [← e]; exact h
  rw [e, lastS_snoc, find_snoc _ p _ x h', if_pos]
  exact hx

/-- At a word between two starts that rise. -/
theorem find_at : ∀ (l : List Sg) (p : Int) (i : Nat) (x : Int), riseS l → i < l.length → (l.getD i zSg).st ≤ x → (i + 1 < l.length → x < (l.getD (i + 1) zSg).st) → findP p l x = (l.getD i zSg).pd
  | [], _, _, _, _, h, _, _ => absurd h (Nat.not_lt_zero _)
  | a :: l, p, i, x, hr, hi, h1, h2 => by
    have r1 : ∀ b ∈ l, a.st < b.st := (List.pairwise_cons.1 hr).1
    have r2 : riseS l := (List.pairwise_cons.1 hr).2
    show (if a.st ≤ x then findP a.pd l x else p) = _
    match i, hi, h1, h2 with
    | 0, _, h1, h2 =>
      have h1 : a.st ≤ x := h1
      rw [if_pos h1]
      match l, r1, h2 with
      | [], _, _ => rfl
      | b :: l, r1, h2 =>
        have h3 : x < b.st := h2 (by simp)
        show (if b.st ≤ x then findP b.pd l x else a.pd) = a.pd
        rw [if_neg (by omega)]
    | i + 1, hi, h1, h2 =>
      have hi' : i < l.length := by simp at hi; exact hi
      have h1' : (l.getD i zSg).st ≤ x := h1
      have h2' : i + 1 < l.length → x < (l.getD (i + 1) zSg).st := fun h => h2 (by simp; exact h)
      have h3 := r1 _ (getD_memS hi')
      rw [if_pos (by omega), find_at l a.pd i x r2 hi' h1' h2']
      rfl

theorem find_ahead {l : List Sg} (p : Int) {x : Int} (hx : l ≠ [] → x < (l.getD 0 zSg).st) : findP p l x = p := by
  match l, hx with
  | [], _ => rfl
  | a :: l, hx =>
    have h : x < a.st := hx (by simp)
    show (if a.st ≤ x then findP a.pd l x else p) = p
    rw [if_neg (by omega)]

/-- What is left when a word is marked, and which word counts. -/
def cutP (l : List Sg) (x : Int) : List Sg × Int := if l ≠ [] ∧ x ≤ (lastS l).st then (l.take (l.length - 1), (lastS l).st) else (l, x)

/-- A word is marked. -/
def markP (l : List Sg) (x pad : Int) : List Sg := if (cutP l x).1 ≠ [] ∧ (lastS (cutP l x).1).pd = pad then (cutP l x).1 else (cutP l x).1 ++ [⟨(cutP l x).2, pad⟩]

/-- All are marked. -/
def marksP (l : List Sg) (m : List Sg) : List Sg := m.foldl (fun l s => markP l s.st s.pd) l

theorem marks_snoc (l m : List Sg) (s : Sg) : marksP l (m ++ [s]) = markP (marksP l m) s.st s.pd := by
  unfold marksP
  rw [List.foldl_append]
  rfl

theorem cut_no {l : List Sg} {x : Int} (h : ¬ (l ≠ [] ∧ x ≤ (lastS l).st)) : cutP l x = (l, x) := if_neg h

theorem cut_yes {l : List Sg} {x : Int} (h : l ≠ [] ∧ x ≤ (lastS l).st) : cutP l x = (l.take (l.length - 1), (lastS l).st) := if_pos h

theorem rise_left {l m : List Sg} (h : riseS (l ++ m)) : riseS l := (List.pairwise_append.1 h).1

/-- What was marked at words that rise: they rise, no start is new, and what is found is the same. -/
theorem marks_found : ∀ (m : List Sg), riseS m → riseS (marksP [] m) ∧ (∀ s ∈ marksP [] m, ∃ t ∈ m, s.st = t.st) ∧ ∀ x, findP (-1) (marksP [] m) x = findP (-1) m x := by
  intro m
  generalize hk : m.length = k
  induction k generalizing m with
  | zero =>
    intro _
    obtain rfl := List.length_eq_zero_iff.1 hk
    exact ⟨List.Pairwise.nil, fun s h => (List.not_mem_nil h).elim, fun _ => rfl⟩
  | succ k ih =>
    intro hr
    have hne : m ≠ [] := by
      intro e
      subst e
      cases hk
    obtain ⟨l, s, rfl⟩ : ∃ l s, m = l ++ [s] := ⟨_, _, snoc_last hne⟩
    have hl : l.length = k := by simp at hk; exact hk
    obtain ⟨h1, h2, h3⟩ := ih l hl (rise_left hr)
    have hs : ∀ b ∈ l, b.st < s.st := fun b hb => (List.pairwise_append.1 hr).2.2 b hb s (by simp)
    have hb : ∀ b ∈ marksP [] l, b.st < s.st := fun b hb => by
      obtain ⟨t, ht, e⟩ := h2 b hb
      rw [e]
      exact hs t ht
    have hlast : marksP [] l ≠ [] → (lastS (marksP [] l)).st < s.st := fun hn => hb _ (by
      have e := snoc_last hn
      have : lastS (marksP [] l) ∈ (marksP [] l).take ((marksP [] l).length - 1) ++ [lastS (marksP [] l)] := by simp
      rwa [← e] at this)
    rw [marks_snoc]
    have hcut : cutP (marksP [] l) s.st = (marksP [] l, s.st) := cut_no (fun h => by have := hlast h.1; omega)
    unfold markP
    rw [hcut]
    simp only
    by_cases hp : marksP [] l ≠ [] ∧ (lastS (marksP [] l)).pd = s.pd
    · rw [if_pos hp]
      refine ⟨h1, fun b hb => ?_, fun x => ?_⟩
      · obtain ⟨t, ht, e⟩ := h2 b hb
        exact ⟨t, List.mem_append_left _ ht, e⟩
      · rw [find_snoc l (-1) s x hr]
        by_cases e : s.st ≤ x
        · rw [if_pos e, find_past h1 hp.1 (-1) (by have := hlast hp.1; omega), hp.2]
        · rw [if_neg e, h3]
    · rw [if_neg hp]
      have hr2 : riseS (marksP [] l ++ [⟨s.st, s.pd⟩]) := List.pairwise_append.2 ⟨h1, List.pairwise_singleton _ _, fun a ha b hb' => by
        obtain rfl := List.mem_singleton.1 hb'
        exact hb a ha⟩
      refine ⟨hr2, fun b hb => ?_, fun x => ?_⟩
      · rcases List.mem_append.1 hb with hb | hb
        · obtain ⟨t, ht, e⟩ := h2 b hb
          exact ⟨t, List.mem_append_left _ ht, e⟩
        · obtain rfl := List.mem_singleton.1 hb
          exact ⟨s, by simp, rfl⟩
      · rw [find_snoc _ (-1) _ x hr2, find_snoc l (-1) s x hr, h3]

/-- Segments moved. -/
def shiftP (by_ : Int) (l : List Sg) : List Sg := l.map fun s => ⟨s.st + by_, if s.pd = -1 then -1 else s.pd + by_⟩

/-- Where a segment ends. -/
def endS (size : Int) : List Sg → Int
  | [] => size
  | t :: _ => if t.st < size then t.st else size

/-- How many words have a pad. -/
def covP (size : Int) : List Sg → Int
  | [] => 0
  | s :: l => (if s.pd ≠ -1 ∧ s.st < endS size l then endS size l - s.st else 0) + covP size l
end Go.Proofs.YtcijjmmckofckaaDoor
