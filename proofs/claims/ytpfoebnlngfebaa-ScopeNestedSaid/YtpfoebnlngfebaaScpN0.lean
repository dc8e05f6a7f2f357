/- Scopes: scopes within others, plainly. -/
import Derived.Test.YtpfoebnlngfebaaScpZ2
namespace Go.Proofs.Ytpfoebnlngfebaa
open Go.ChangeShapes Go.WideShapes Go.ChangeAt Go.RowKit
set_option linter.unusedVariables false
set_option linter.unusedSimpArgs false

/-- The same scopes, l open. -/
def upS (s : Stt) (l : Nat) : Stt := { s with lev := l }

/-- y declared within l scopes, of which j were closed. -/
def nestS (s : Stt) (y : Ob) (l j : Nat) : Stt := if j = 0 then { s with L := s.L ++ [y], lev := l } else { s with lev := l - j }

theorem upS_self (s : Stt) : upS s s.lev = s := rfl

theorem open_up {s : Stt} {l : Nat} (h : l < 64) : openP (upS s l) = (upS s (l + 1), 0) := if_neg (by show ¬ 64 ≤ l; omega)

theorem open_full {s : Stt} {l : Nat} (h : 64 ≤ l) : openP (upS s l) = (upS s l, 240) := if_pos h

theorem Inv.up {k : Nat} {s : Stt} (h : Inv k s) {l : Nat} (h1 : s.lev ≤ l) (h2 : l ≤ 64) : Inv k (upS s l) :=
  ⟨h2, h.mods, h.len, fun x hx => by
    have := h.lv x hx
    show 0 ≤ x.lv ∧ x.lv ≤ (l : Int)
    omega, h.ok, h.mok⟩

theorem row_up {k : Nat} {s : Stt} (h : Inv k s) {l : Nat} (hl : s.lev < l) : s.L.filter (fun x => x.lv == (l : Int)) = [] := by
  rw [List.filter_eq_nil_iff]
  intro x hx
  have := h.lv x hx
  simp
  omega

theorem decl_up {k : Nat} {s : Stt} (h : Inv k s) {l : Nat} (hl : s.lev < l) {x : Ob} (hx : ¬ (x.nm.size = 0 ∨ 32 < x.nm.size)) : declP (upS s l) x = (nestS s { x with lv := l } l 0, 0) := by
  have hr : (upS s l).row l = [] := row_up h hl
  have hh : (upS s l).row (upS s l).lev = [] := hr
  have hn : hasP (upS s l) (upS s l).lev x.nm = none := by
    unfold hasP
    rw [hh]
    rfl
  unfold declP
  rw [if_neg hx, hn, if_neg (by decide), hh, if_neg (by decide)]
  rfl

theorem decl_bad {s : Stt} {x : Ob} (hx : x.nm.size = 0 ∨ 32 < x.nm.size) : declP s x = (s, 140) := if_pos hx

theorem find_nest {k : Nat} {s : Stt} (h : Inv k s) {l : Nat} (hl : s.lev < l) (x : Ob) : findP (nestS s { x with lv := l } l 0) x.nm = some { x with lv := l } := by
  have hr : (nestS s { x with lv := l } l 0).row l = [{ x with lv := l }] := by
    show (s.L ++ [({ x with lv := l } : Ob)]).filter (fun x => x.lv == (l : Int)) = _
    rw [List.filter_append, row_up h hl, List.nil_append]
    simp
  have hh : hasP (nestS s { x with lv := l } l 0) l x.nm = some { x with lv := l } := by
    unfold hasP
    rw [hr, List.find?_cons]
    have : nameIs x.nm { x with lv := l } = true := nameIs_self { x with lv := l }
    rw [this]
  show findN _ _ (l + 1) = _
  unfold findN
  rw [hh]

theorem nest_lev {s : Stt} {y : Ob} {l j : Nat} : (nestS s y l j).lev = l - j := by
  unfold nestS
  split
  · rename_i h
    subst h
    rfl
  · rfl

theorem filter_all {k : Nat} {s : Stt} (h : Inv k s) {c : Nat} (hc : s.lev < c) : s.L.filter (fun x => decide (x.lv < (c : Int))) = s.L := by
  rw [List.filter_eq_self]
  intro x hx
  have := h.lv x hx
  simp
  omega

theorem close_nest {k : Nat} {s : Stt} (h : Inv k s) {l j : Nat} (hj : j < l - s.lev) {y : Ob} (hy : y.lv = (l : Int)) : closeP (nestS s y l j) = (nestS s y l (j + 1), 0) := by
  unfold closeP
  rw [if_neg (by rw [nest_lev]; omega)]
  have e : nestS s y l (j + 1) = { s with lev := l - (j + 1) } := if_neg (by omega)
  rw [e, nest_lev]
  by_cases h0 : j = 0
  · subst h0
    have e0 : nestS s y l 0 = { s with L := s.L ++ [y], lev := l } := rfl
    rw [e0]
    simp only [Nat.sub_zero, Nat.zero_add, List.filter_append, filter_all h (c := l) (by omega)]
    have : [y].filter (fun x => decide (x.lv < (l : Int))) = [] := by
      rw [List.filter_eq_nil_iff]
      intro z hz
      obtain rfl := List.mem_singleton.1 hz
      simp [hy]
    rw [this, List.append_nil]
  · have e1 : nestS s y l j = { s with lev := l - j } := if_neg h0
    rw [e1]
    simp only [filter_all h (c := l - j) (by omega), Nat.sub_sub]

theorem nest_end {s : Stt} {y : Ob} {l : Nat} (hl : s.lev < l) : nestS s y l (l - s.lev) = s := by
  have e : nestS s y l (l - s.lev) = { s with lev := l - (l - s.lev) } := if_neg (by omega)
  rw [e, show l - (l - s.lev) = s.lev by omega]

theorem Inv.nest {k : Nat} {s : Stt} (h : Inv k s) {l j : Nat} (hl : s.lev < l) (hl2 : l ≤ 64) (hj : j ≤ l - s.lev) {y : Ob} (hy : y.lv = (l : Int)) (hok : ObOk y) : Inv (k + 1) (nestS s y l j) := by
  unfold nestS
  split
  · refine ⟨hl2, h.mods, ?_, fun x hx => ?_, fun x hx => ?_, h.mok⟩
    · show (s.L ++ [y]).length ≤ k + 1
      rw [List.length_append, List.length_singleton]
      have := h.len
      omega
    · show 0 ≤ x.lv ∧ x.lv ≤ (l : Int)
      rcases List.mem_append.1 hx with hx | hx
      · have := h.lv x hx
        omega
      · obtain rfl := List.mem_singleton.1 hx
        rw [hy]
        omega
    · rcases List.mem_append.1 hx with hx | hx
      · exact h.ok x hx
      · obtain rfl := List.mem_singleton.1 hx
        exact hok
  · refine ⟨?_, h.mods, Nat.le_succ_of_le h.len, fun x hx => ?_, h.ok, h.mok⟩
    · show l - j ≤ 64
      omega
    · have := h.lv x hx
      show 0 ≤ x.lv ∧ x.lv ≤ ((l - j : Nat) : Int)
      omega

theorem ExpV.more {B B' : Nat} {w : World} {v : Value} {es : List Exx} (h : ExpV B w v es) (hB : B ≤ B') : ExpV B' w v es := by
  obtain ⟨A, c, h1, h2, h3⟩ := h
  refine ⟨A, c, h1, fun hn => ?_, fun e he => (h3 e he).more hB⟩
  obtain ⟨b, off, e, hb, hb2, hc⟩ := h2 hn
  exact ⟨b, off, e, Nat.lt_of_lt_of_le hb hB, hb2, hc⟩

theorem OpPs.more {B B' : Nat} {w : World} {A : Option Addr} {n : Nat} {f : Nat → OpP} (h : OpPs w B A n f) (hB : B ≤ B') : OpPs w B' A n f :=
  ⟨fun hn => by
    obtain ⟨b, off, e, hb, hb2, hc⟩ := h.1 hn
    exact ⟨b, off, e, Nat.lt_of_lt_of_le hb hB, hb2, hc⟩, fun j hj => ⟨(h.2 j hj).par.more hB, (h.2 j hj).ok, (h.2 j hj).exs.more hB, (h.2 j hj).eok, (h.2 j hj).elen⟩⟩
end Go.Proofs.Ytpfoebnlngfebaa
