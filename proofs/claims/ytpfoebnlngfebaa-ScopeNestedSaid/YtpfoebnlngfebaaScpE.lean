/- Scopes: a row of the scopes turned; Close. -/
import Derived.Test.YtpfoebnlngfebaaScpD
namespace Go.Proofs.Ytpfoebnlngfebaa
open Go.ChangeShapes Go.WideShapes Go.ChangeAt Go.RowKit
set_option linter.unusedVariables false
set_option linter.unusedSimpArgs false

theorem KeptS.mono {S S' : Nat → Prop} {w w' : World} (h : KeptS S w w') (hs : ∀ k, S k → S' k) : KeptS S' w w' :=
  ⟨h.os, h.tape, h.output, h.size, fun k hk hc => h.block k hk (fun h1 => hc (hs k h1))⟩

theorem TabAt.turn {w w2 : World} {B : Nat} {T : Tb} {s s' : Stt} {i : Nat} {v' : Value} {l' : List Ox} (h : TabAt w B T s) (hi : i < 65) (K : KeptS (fun k => k = T.p ∨ (T.rv i).ownBlock = some k) w w2)
    (hp : Whole w2 T.p pS (tbCells (fun j => if j = i then v' else T.rv j) s'.lev T.mv)) (hr : RowO pO w2 B B v' l') (hv : ∀ b, v'.ownBlock = some b → (T.rv i).ownBlock = some b ∨ w.heap.size ≤ b)
    (hm : s'.mods = s.mods) (hj : ∀ j, j < 65 → j ≠ i → s'.row j = s.row j) (hl : l'.map (·.1) = s'.row i) : ChPost B T w s' w2 := by
  have KO : KeptS (Own T) w w2 := K.mono (fun k hk => hk.elim .inl (fun h1 => .inr (.inl ⟨i, hi, h1⟩)))
  have hsub : ∀ k, Own ⟨T.p, fun j => if j = i then v' else T.rv j, fun j => if j = i then l' else T.rx j, T.mv, T.mx⟩ k → Own T k ∨ w.heap.size ≤ k := by
    rintro k (rfl | ⟨j, hj', hb⟩ | hb)
    · exact .inl (.inl rfl)
    · have hb : (if j = i then v' else T.rv j).ownBlock = some k := hb
      by_cases e : j = i
      · subst e
        rw [if_pos rfl] at hb
        rcases hv k hb with h1 | h1
        · exact .inl (.inr (.inl ⟨j, hi, h1⟩))
        · exact .inr h1
      · rw [if_neg e] at hb
        exact .inl (.inr (.inl ⟨j, hj', hb⟩))
    · exact .inl (.inr (.inr hb))
  have rowne : ∀ {v : Value} {e : TypeId} {sz n : Nat} {xs : List Value}, w.ownsRow B e sz v n xs → e ≠ pS → ∀ b, v.ownBlock = some b → b ≠ T.p := fun hr he b hb e => by
    subst e
    exact row_ne hr h.blk (fun _ _ h => by injection h with _ h; exact he h.symm) hb
  refine ⟨⟨T.p, fun j => if j = i then v' else T.rv j, fun j => if j = i then l' else T.rx j, T.mv, T.mx⟩, rfl, ⟨hp, h.le, fun j hj' => ?_, fun j hj' => ?_, fun j k hj' hk hne b hb => ?_, ?_, fun m hm' => ?_, fun m hm' b hb ho => ?_, ?_⟩, KO, hsub⟩
  · show RowO pO w2 B B (if j = i then v' else T.rv j) (if j = i then l' else T.rx j)
    by_cases e : j = i
    · rw [if_pos e, if_pos e]
      exact hr
    · rw [if_neg e, if_neg e]
      have h1 := h.rows j hj'
      refine ⟨K.row h1.row (fun b hb hs => ?_), fun x hx => h.keepPar KO (h1.par x hx)⟩
      rcases hs with hs | hs
      · exact rowne h1.row (by decide) b hb hs
      · exact h.apart j i hj' hi e b hb hs
  · show (if j = i then l' else T.rx j).map (·.1) = s'.row j
    by_cases e : j = i
    · rw [if_pos e, hl, e]
    · rw [if_neg e, h.same j hj', hj j hj' e]
  · have hq : (if j = i then v' else T.rv j).ownBlock = some b := hb
    clear hb
    show (if k = i then v' else T.rv k).ownBlock ≠ some b
    by_cases e : j = i
    · subst e
      rw [if_pos rfl] at hq
      rw [if_neg (fun h => hne h.symm)]
      intro hk'
      rcases hv b hq with h1 | h1
      · exact h.apart j k hj' hk hne b h1 hk'
      · have := (row_block (h.rows k hk).row hk').2.1
        omega
    · rw [if_neg e] at hq
      by_cases e2 : k = i
      · subst e2
        rw [if_pos rfl]
        intro hk'
        rcases hv b hk' with h1 | h1
        · exact h.apart j k hj' hk hne b hq h1
        · have := (row_block (h.rows j hj').row hq).2.1
          omega
      · rw [if_neg e2]
        exact h.apart j k hj' hk hne b hq
  · refine K.row h.mods (fun b hb hs => ?_)
    rcases hs with hs | hs
    · exact rowne h.mods (by decide) b hb hs
    · obtain ⟨_, _, cs, e1⟩ := row_block h.mods hb
      obtain ⟨_, _, cs', e2⟩ := row_block (h.rows i hi).row hs
      rw [e1] at e2
      injection e2 with e2
      injection e2 with _ e2 _
      exact absurd e2 (by decide)
  · exact h.keepRow KO (h.mrows m hm') (h.mapart m hm')
  · rcases hsub b ho with h1 | h1
    · exact h.mapart m hm' b hb h1
    · have := (row_block (h.mrows m hm').row hb).2.1
      omega
  · rw [hm]
    exact h.msame

theorem close_row (s : Stt) (hlv : ∀ x ∈ s.L, 0 ≤ x.lv ∧ x.lv ≤ s.lev) (j : Nat) : (s.L.filter (fun x => decide (x.lv < (s.lev : Int)))).filter (fun x => x.lv == (j : Int)) = if j = s.lev then [] else s.L.filter (fun x => x.lv == (j : Int)) := by
  rw [List.filter_filter]
  split
  · rename_i e
    subst e
    apply List.filter_eq_nil_iff.2
    intro x hx
    simp
    omega
  · rename_i e
    apply List.filter_congr
    intro x hx
    have := hlv x hx
    by_cases h : x.lv = (j : Int)
    · simp [h]
      omega
    · simp [h]

set_option maxHeartbeats 8000000 in
set_option maxRecDepth 100000 in
theorem close_any (B : Nat) (T : Tb) (s : Stt) (w : World) (h : TabAt w B T s) (hl : s.lev ≤ 64) (hlv : ∀ x ∈ s.L, 0 ≤ x.lv ∧ x.lv ≤ s.lev) :
    Calls Try.prog 19 #[.pointer (some ⟨T.p, 0, none⟩)] w fun e w' => e = .returned (.int .i64 (closeP s).2) ∧ ChPost B T w (closeP s).1 w' := by
  have u0 : w.cell? ⟨T.p, 65, none⟩ = some (.int .i64 s.lev) := (h.blk.cell 65).trans tb_lev
  have f0 : w.frozen? ⟨T.p, 65, none⟩ = false := h.blk.free 65
  by_cases h0 : s.lev = 0
  · have OP : closeP s = (s, 111) := if_pos h0
    rw [OP]
    have HC := Lib.hid (h.chSame (Below.refl _ _))
    rw [h0] at u0
    clear h OP f0 h0
    go_enter Try.func19, Try.ntmps19
    go_wp2_with fail
    go_ret
    exact ⟨rfl, HC.out⟩
  · have OP : closeP s = ({ s with L := s.L.filter (fun x => decide (x.lv < (s.lev : Int))), lev := s.lev - 1 }, 0) := if_neg h0
    rw [OP]
    have hi : s.lev < 65 := by omega
    have W1 : Whole (w.setCell ⟨T.p, s.lev, none⟩ (.slice none 0 0)).drew T.p pS _ := h.blk.store s.lev (.slice none 0 0)
    rw [tb_set_row hi] at W1
    have W2 := W1.store 65 (.int .i64 (s.lev - 1 : Nat))
    rw [tb_set_lev] at W2
    have HC := Lib.hid (h.turn (s' := ({ s with L := s.L.filter (fun x => decide (x.lv < (s.lev : Int))), lev := s.lev - 1 } : Stt)) hi (((KeptS.set (.inl rfl)).trans (KeptS.ofBelow (S := fun _ => False) (Below.refl _ _).drew) (fun _ h => h.elim)).trans (KeptS.set (.inl rfl)) (fun _ h => .inl h)) W2 (RowO.nil _ _ _ _) (fun b hb => by simp [Value.ownBlock] at hb) rfl
      (fun j hj hne => (close_row s hlv j).trans (if_neg hne)) (((close_row s hlv s.lev).trans (if_pos rfl)).symm))
    have v0 : w.cell? ⟨T.p, s.lev, none⟩ = some (T.rv s.lev) := (h.blk.cell s.lev).trans (tb_row hi)
    have v1 : w.frozen? ⟨T.p, s.lev, none⟩ = false := h.blk.free s.lev
    have x0 : (w.setCell ⟨T.p, s.lev, none⟩ (.slice none 0 0)).drew.cell? ⟨T.p, 65, none⟩ = some (.int .i64 s.lev) := (W1.cell 65).trans tb_lev
    have x1 : (w.setCell ⟨T.p, s.lev, none⟩ (.slice none 0 0)).drew.frozen? ⟨T.p, 65, none⟩ = false := W1.free 65
    have d : ((s.lev : Int) == 0) = false := beq_eq_false_iff_ne.2 (by omega)
    have hlt : (s.lev : Int) < 65 := by omega
    have hpos : 1 ≤ s.lev := by omega
    have e1 : ((s.lev - 1 : Nat) : Int) = (s.lev : Int) - 1 := by omega
    rw [e1] at HC
    clear h OP hlv W1 W2 e1
    go_enter Try.func19, Try.ntmps19
    go_wp2_with fail
    go_region
    go_wp2_with fail
    go_ret
    exact ⟨rfl, HC.out⟩
end Go.Proofs.Ytpfoebnlngfebaa
