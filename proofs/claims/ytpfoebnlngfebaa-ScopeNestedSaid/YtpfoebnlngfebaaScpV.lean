/- Scopes: what is kept behind each call: plainly. -/
import Derived.Test.YtpfoebnlngfebaaScpI
namespace Go.Proofs.Ytpfoebnlngfebaa
set_option linter.unusedVariables false
set_option linter.unusedSimpArgs false

theorem Inv.start : Inv 0 st0 := ⟨by decide, by decide, Nat.le_refl _, fun x h => (List.not_mem_nil h).elim, fun x h => (List.not_mem_nil h).elim, fun x h => (List.not_mem_nil h).elim⟩

theorem Inv.more {n : Nat} {s : Stt} (h : Inv n s) : Inv (n + 1) s := ⟨h.lev, h.mods, Nat.le_succ_of_le h.len, h.lv, h.ok, h.mok⟩

theorem Inv.openS {n : Nat} {s : Stt} (h : Inv n s) : Inv (n + 1) (openP s).1 := by
  unfold openP
  split
  · exact h.more
  · rename_i h1
    exact ⟨by show s.lev + 1 ≤ 64; omega, h.mods, Nat.le_succ_of_le h.len, fun x hx => by
      have := h.lv x hx
      show 0 ≤ x.lv ∧ x.lv ≤ ((s.lev + 1 : Nat) : Int)
      omega, h.ok, h.mok⟩

theorem Inv.closeS {n : Nat} {s : Stt} (h : Inv n s) : Inv (n + 1) (closeP s).1 := by
  unfold closeP
  split
  · exact h.more
  · rename_i h1
    refine ⟨?_, h.mods, ?_, fun x hx => ?_, fun x hx => h.ok x (List.mem_filter.1 hx).1, h.mok⟩
    · show s.lev - 1 ≤ 64
      have := h.lev
      omega
    · have h2 := List.length_filter_le (fun x : Ob => decide (x.lv < (s.lev : Int))) s.L
      have h3 := h.len
      show (s.L.filter (fun x => decide (x.lv < (s.lev : Int)))).length ≤ n + 1
      omega
    · obtain ⟨h2, h3⟩ := List.mem_filter.1 hx
      have := h.lv x h2
      simp at h3
      show 0 ≤ x.lv ∧ x.lv ≤ ((s.lev - 1 : Nat) : Int)
      omega

theorem Inv.declS {n : Nat} {s : Stt} (h : Inv n s) (x : Ob) (hx : ObOk x) : Inv (n + 1) (declP s x).1 := by
  unfold declP
  split
  · exact h.more
  · split
    · exact h.more
    · split
      · exact h.more
      · refine ⟨h.lev, h.mods, ?_, fun y hy => ?_, fun y hy => ?_, h.mok⟩
        · show (s.L ++ [_]).length ≤ n + 1
          rw [List.length_append, List.length_singleton]
          have := h.len
          omega
        · rcases List.mem_append.1 hy with hy | hy
          · exact h.lv y hy
          · obtain rfl := List.mem_singleton.1 hy
            exact ⟨by show (0 : Int) ≤ (s.lev : Int); omega, Int.le_refl _⟩
        · rcases List.mem_append.1 hy with hy | hy
          · exact h.ok y hy
          · obtain rfl := List.mem_singleton.1 hy
            exact hx

theorem mem_replF {α : Type} {q : α → Bool} {y z : α} : ∀ {l : List α}, z ∈ replF q y l → z ∈ l ∨ z = y
  | [], h => by cases h
  | x :: l, h => by
    rw [replF_cons] at h
    split at h
    · rcases List.mem_cons.1 h with rfl | h
      · exact .inr rfl
      · exact .inl (List.mem_cons_of_mem _ h)
    · rcases List.mem_cons.1 h with rfl | h
      · exact .inl List.mem_cons_self
      · exact (mem_replF h).imp (List.mem_cons_of_mem _) id

theorem length_replF {α : Type} {q : α → Bool} {y : α} : ∀ {l : List α}, (replF q y l).length = l.length
  | [] => rfl
  | x :: l => by
    rw [replF_cons]
    split
    · rfl
    · rw [List.length_cons, length_replF, List.length_cons]

theorem Inv.changeS {n : Nat} {s : Stt} (h : Inv n s) (k : Int) (x : Ob) (hx : ObOk x) : Inv (n + 1) (changeP s k x).1 := by
  unfold changeP
  split
  · exact h.more
  · rename_i hf
    have hk : 0 ≤ k ∧ k ≤ s.lev := by
      cases hq : s.L.find? (atP k x.nm) with
      | none => exact absurd hq hf
      | some y =>
        have h1 := h.lv y (List.mem_of_find?_eq_some hq)
        have h2 := List.find?_some hq
        simp [atP] at h2
        omega
    refine ⟨h.lev, h.mods, ?_, fun y hy => ?_, fun y hy => ?_, h.mok⟩
    · show (replF _ _ s.L).length ≤ n + 1
      rw [length_replF]
      exact Nat.le_succ_of_le h.len
    · rcases mem_replF hy with hy | rfl
      · exact h.lv y hy
      · exact hk
    · rcases mem_replF hy with hy | rfl
      · exact h.ok y hy
      · exact hx

theorem Inv.importS {n : Nat} {s : Stt} (h : Inv n s) (nm : ByteArray) (es : List Ex) (hn : nm.size ≤ 140737488355328) (he : ∀ e ∈ es, ObOk (expOb 0 e)) (hl : es.length * 64 ≤ 140737488355328) : Inv (n + 1) (importP s nm es).1 := by
  unfold importP
  split
  · exact h.more
  · rename_i h1
    split
    · exact h.more
    · have hd := h.declS (impOb (s.mods.length + 1 : Nat) nm) ⟨hn, by show 0 * 16 ≤ _; omega⟩
      refine ⟨hd.lev, ?_, hd.len, hd.lv, hd.ok, fun m hm => ?_⟩
      · show (s.mods ++ [_]).length ≤ 64
        rw [List.length_append, List.length_singleton]
        omega
      · rcases List.mem_append.1 hm with hm | hm
        · exact h.mok m hm
        · obtain rfl := List.mem_singleton.1 hm
          refine ⟨fun x hx => ?_, by rw [List.length_map]; exact hl⟩
          obtain ⟨e, he', rfl⟩ := List.mem_map.1 hx
          exact he e he'
end Go.Proofs.Ytpfoebnlngfebaa
