/- Types: the program's add. -/
import Derived.Test.YtabkldahgjicbaaTypE
import Derived.Deep.QuietTactic
import Derived.BigQuiet
namespace Go.Proofs.Ytabkldahgjicbaa
open Go.ChangeShapes Go.WideShapes Go.ChangeAt Go.RowKit
set_option linter.unusedVariables false
set_option linter.unusedSimpArgs false

theorem KeptT.grown {B : Nat} {w w' : World} {e : TypeId} {sz : Nat} {v : Value} {n : Nat} {xs : List Value} (h : w.ownsRow B e sz v n xs) (he : e = pB ∨ e = pT ∨ e = pF) (hg : w.grownBy w' v.ownBlock) : KeptT B w w' :=
  ⟨hg.os, hg.tape, hg.output, hg.size, fun k hk hc => hg.block k hk fun e' => by
    have h1 := World.ownsRow.lt h k e'.symm
    rcases hc with hc | hc
    · omega
    · rcases h.2 with ⟨rfl, _⟩ | ⟨g, cap, cur, rfl, _, hgg, _⟩
      · simp [Value.ownBlock] at e'
      · simp only [Value.ownBlock, Option.some.injEq] at e'
        subst e'
        obtain ⟨a1, a2, a3⟩ := hc _ _ _ hgg
        rcases he with rfl | rfl | rfl
        · exact a1 rfl
        · exact a2 rfl
        · exact a3 rfl⟩

theorem KeptT.set {B : Nat} {w : World} {g j : Nat} {u : Value} {e : TypeId} {cs : Array Value} {z : Nat × Nat} (h : w.heap[g]? = some (.cells cs e z)) (hB : B ≤ g) (he : e = pB ∨ e = pT ∨ e = pF) : KeptT B w (w.setCell ⟨g, j, none⟩ u) :=
  ⟨rfl, rfl, rfl, by simp [World.setCell], fun k hk hc => Below.heap_setCell w ⟨g, j, none⟩ u k fun e' => by
    have e' : k = g := e'
    subst e'
    rcases hc with hc | hc
    · omega
    · obtain ⟨a1, a2, a3⟩ := hc _ _ _ h
      rcases he with rfl | rfl | rfl
      · exact a1 rfl
      · exact a2 rfl
      · exact a3 rfl⟩

theorem grown_set (w : World) (g j : Nat) (u : Value) : w.grownBy (w.setCell ⟨g, j, none⟩ u) (some g) :=
  ⟨rfl, rfl, rfl, by simp [World.setCell], fun k _ hk => Below.heap_setCell w ⟨g, j, none⟩ u k (fun e => hk (by rw [e]))⟩

theorem pB_pT : pB ≠ pT := by decide

theorem pB_pF : pB ≠ pF := by decide

theorem pF_pT : pF ≠ pT := by decide

theorem getD_left {α : Type} {l l' : List α} {i : Nat} (d : α) (h : i < l.length) : (l ++ l').getD i d = l.getD i d := by
  simp [List.getD, List.getElem?_append_left h]

theorem getD_last {α : Type} (l : List α) (x d : α) : (l ++ [x]).getD l.length d = x := by
  simp [List.getD]

/-- One type more. -/
theorem tab_grown {w w6 : World} {B p : Nat} {v v6 : Value} {L : List Tx} {x : Ty} (h : TabAt w B p v L) (hg : w.grownBy w6 v.ownBlock) (ho : w6.ownsRow B pT 6 v6 (L.length + 1) (L.flatMap txCells ++ txCells (x, .slice none 0 0))) (hx : x.fds = []) :
    Whole w6 p pB #[v] ∧ TabAt (w6.setCell ⟨p, 0, none⟩ v6) B p v6 (L ++ [(x, .slice none 0 0)]) ∧ KeptT B w (w6.setCell ⟨p, 0, none⟩ v6) := by
  have NP := row_ne h.rows.rows h.blk (fun _ _ h => pB_pT (by injection h))
  have K6 : Whole w6 p pB #[v] := (hg.block p h.blk.lt (fun e => NP e.symm)).trans h.blk
  have hgs := grown_set w6 p 0 v6
  refine ⟨K6, ⟨K6.store 0 _, h.le, ⟨?_, ?_⟩, ?_⟩, (KeptT.grown h.rows.rows (.inr (.inl rfl)) hg).trans (KeptT.set K6 h.le (.inl rfl))⟩
  · rw [List.length_append, List.flatMap_append]
    exact World.ownsRow.kept (by simpa using ho) hgs (.inr (row_ne ho K6 (fun _ _ h => pB_pT (by injection h))))
  · intro y hy
    rcases List.mem_append.1 hy with hy | hy
    · have h1 := World.ownsRow.kept (h.rows.fds y hy) hg (row_apart (h.rows.fds y hy) h.rows.rows pF_pT)
      exact World.ownsRow.kept h1 hgs (.inr (row_ne h1 K6 (fun _ _ h => pB_pF (by injection h))))
    · obtain rfl := List.mem_singleton.1 hy
      show World.ownsRow _ B pF 3 (.slice none 0 0) x.fds.length (x.fds.flatMap Fd.cells)
      rw [hx]
      exact row_nil _ _ _ _
  · intro i j hi hj hne
    rw [List.length_append, List.length_singleton] at hi hj
    by_cases h1 : i < L.length
    · by_cases h2 : j < L.length
      · rw [getD_left _ h1, getD_left _ h2]
        exact h.apart i j h1 h2 hne
      · have : j = L.length := by omega
        subst this
        rw [getD_left _ h1, getD_last]
        cases hv : (L.getD i zX).2.ownBlock with
        | none => exact .inl rfl
        | some b => exact .inr (by simp [Value.ownBlock])
    · have : i = L.length := by omega
      subst this
      left
      rw [getD_last]
      rfl

def addP (L : List Ty) (x : Ty) : List Ty × Int × Int := if 4096 ≤ L.length then (L, 0, 242) else (L ++ [x], L.length, 0)

/-- What a call that may change the table leaves. -/
def ChPost (B p : Nat) (w : World) (r : List Ty × Int × Int) (e : Ending) (w' : World) : Prop :=
  ∃ v' L', e = .returned (.tuple #[.int .i64 r.2.1, .int .i64 r.2.2]) ∧ L'.map (·.1) = r.1 ∧ TabAt w' B p v' L' ∧ KeptT B w w'

set_option maxHeartbeats 8000000 in
set_option maxRecDepth 100000 in
theorem add_any (p B : Nat) (v : Value) (L : List Tx) (k ln bs sz : Int) (op : Bool) (w : World) (h : TabAt w B p v L) (hB : B ≤ w.heap.size) (hn : L.length ≤ 4096) :
    Calls Try.prog 31 #[.pointer (some ⟨p, 0, none⟩), .agg #[.int .i64 k, .int .i64 ln, .int .i64 bs, .int .i64 sz, .bool op, .slice none 0 0]] w (ChPost B p w (addP (L.map (·.1)) ⟨k, ln, bs, sz, op, []⟩)) := by
  obtain ⟨A, c, rfl⟩ := row_form h.rows.rows
  have AP := Lib.hid (show addP (L.map (·.1)) ⟨k, ln, bs, sz, op, []⟩ = if 4096 ≤ (L.map (·.1)).length then (L.map (·.1), 0, 242) else (L.map (·.1) ++ [⟨k, ln, bs, sz, op, []⟩], ((L.map (·.1)).length : Int), 0) from rfl)
  rw [List.length_map] at AP
  generalize addP (L.map (·.1)) ⟨k, ln, bs, sz, op, []⟩ = r at *
  have hb0 := (Below.refl w.heap.size w).alloc (Nat.le_refl _) (.cells #[.int .i64 k, .int .i64 ln, .int .i64 bs, .int .i64 sz, .bool op, .slice none 0 0] pT)
  have H0 := Lib.hid (h.below hb0)
  have BA := Lib.hid hb0
  have Q := Lib.hid (Whole.made w pT #[.int .i64 k, .int .i64 ln, .int .i64 bs, .int .i64 sz, .bool op, .slice none 0 0] _ rfl)
  have ZA : w.heap.size + 1 ≤ (w.alloc (.cells #[.int .i64 k, .int .i64 ln, .int .i64 bs, .int .i64 sz, .bool op, .slice none 0 0] pT)).heap.size := by simp
  unfold ChPost
  by_cases hfull : 4096 ≤ L.length
  · have HP := Lib.hid (AP.out.trans (if_pos hfull))
    have d : decide ((4096 : Int) ≤ L.length) = true := decide_eq_true (by omega)
    have u0 : (w.alloc (.cells #[.int .i64 k, .int .i64 ln, .int .i64 bs, .int .i64 sz, .bool op, .slice none 0 0] pT)).cell? ⟨p, 0, none⟩ = some (.slice A L.length c) := H0.out.blk.cell 0
    clear h hb0 AP Q
    go_enter Try.func31, Try.ntmps31
    go_wp2_with fail
    go_ret2
    exact ⟨_, L, by rw [HP.out]; rfl, by rw [HP.out], H0.out, KeptT.ofBelow BA.out⟩
  · have HP := Lib.hid (AP.out.trans (if_neg hfull))
    have d : decide ((4096 : Int) ≤ L.length) = false := decide_eq_false (by omega)
    obtain ⟨i0, hi, hz0, hz1, hz2⟩ := info_parts pT_info
    have hlen : L.length < 4096 := by omega
    have u0 : (w.alloc (.cells #[.int .i64 k, .int .i64 ln, .int .i64 bs, .int .i64 sz, .bool op, .slice none 0 0] pT)).cell? ⟨p, 0, none⟩ = some (.slice A L.length c) := H0.out.blk.cell 0
    have q0 : (w.alloc (.cells #[.int .i64 k, .int .i64 ln, .int .i64 bs, .int .i64 sz, .bool op, .slice none 0 0] pT)).cell? ⟨w.heap.size, 0, none⟩ = some (.int .i64 k) := Q.out.cell 0
    have q1 : (w.alloc (.cells #[.int .i64 k, .int .i64 ln, .int .i64 bs, .int .i64 sz, .bool op, .slice none 0 0] pT)).cell? ⟨w.heap.size, 1, none⟩ = some (.int .i64 ln) := Q.out.cell 1
    have q2 : (w.alloc (.cells #[.int .i64 k, .int .i64 ln, .int .i64 bs, .int .i64 sz, .bool op, .slice none 0 0] pT)).cell? ⟨w.heap.size, 2, none⟩ = some (.int .i64 bs) := Q.out.cell 2
    have q3 : (w.alloc (.cells #[.int .i64 k, .int .i64 ln, .int .i64 bs, .int .i64 sz, .bool op, .slice none 0 0] pT)).cell? ⟨w.heap.size, 3, none⟩ = some (.int .i64 sz) := Q.out.cell 3
    have q4 : (w.alloc (.cells #[.int .i64 k, .int .i64 ln, .int .i64 bs, .int .i64 sz, .bool op, .slice none 0 0] pT)).cell? ⟨w.heap.size, 4, none⟩ = some (.bool op) := Q.out.cell 4
    have q5 : (w.alloc (.cells #[.int .i64 k, .int .i64 ln, .int .i64 bs, .int .i64 sz, .bool op, .slice none 0 0] pT)).cell? ⟨w.heap.size, 5, none⟩ = some (.slice none 0 0) := Q.out.cell 5
    have hb1 := ((Below.refl (w.alloc (.cells #[.int .i64 k, .int .i64 ln, .int .i64 bs, .int .i64 sz, .bool op, .slice none 0 0] pT)).heap.size (w.alloc (.cells #[.int .i64 k, .int .i64 ln, .int .i64 bs, .int .i64 sz, .bool op, .slice none 0 0] pT))).alloc (Nat.le_refl _) (.cells #[.int .i64 k, .int .i64 ln, .int .i64 bs, .int .i64 sz, .bool op, .slice none 0 0] pT)).drew
    have HA := Lib.hid (H0.out.below hb1)
    have a0 : ((w.alloc (.cells #[.int .i64 k, .int .i64 ln, .int .i64 bs, .int .i64 sz, .bool op, .slice none 0 0] pT)).alloc (.cells #[.int .i64 k, .int .i64 ln, .int .i64 bs, .int .i64 sz, .bool op, .slice none 0 0] pT)).drew.cell? ⟨p, 0, none⟩ = some (.slice A L.length c) := HA.out.blk.cell 0
    have KA := Lib.hid ((KeptT.ofBelow (B := B) BA.out).trans (KeptT.ofBelow hb1))
    have NC := Lib.hid (show ∀ (j : Nat) u, ([.int .i64 k, .int .i64 ln, .int .i64 bs, .int .i64 sz, .bool op, .slice none 0 0] : List Value)[j]? = some u → ((w.alloc (.cells #[.int .i64 k, .int .i64 ln, .int .i64 bs, .int .i64 sz, .bool op, .slice none 0 0] pT)).alloc (.cells #[.int .i64 k, .int .i64 ln, .int .i64 bs, .int .i64 sz, .bool op, .slice none 0 0] pT)).drew.cell? ((⟨w.heap.size + 1, 0, none⟩ : Addr).add j) = some u from fun j u hj => by
      rw [Go.WideShapes.add_plain, Nat.zero_add]
      exact ((Whole.made (w.alloc (.cells #[.int .i64 k, .int .i64 ln, .int .i64 bs, .int .i64 sz, .bool op, .slice none 0 0] pT)) pT #[.int .i64 k, .int .i64 ln, .int .i64 bs, .int .i64 sz, .bool op, .slice none 0 0] (w.heap.size + 1) (by simp)).cell j).trans (by simpa using hj))
    have ZB : B ≤ ((w.alloc (.cells #[.int .i64 k, .int .i64 ln, .int .i64 bs, .int .i64 sz, .bool op, .slice none 0 0] pT)).alloc (.cells #[.int .i64 k, .int .i64 ln, .int .i64 bs, .int .i64 sz, .bool op, .slice none 0 0] pT)).drew.heap.size := Nat.le_trans hB (Nat.le_trans BA.out.size hb1.size)
    clear h hb0 hb1 AP Q hfull
    go_enter Try.func31, Try.ntmps31
    go_wp2_with fail
    go_region_law (refine step_app rfl (.tmp 16) (.tmp 18) 63 rfl B pT i0 _ 6 64 Try.underlying63 hi hz0 hz1 hz2 rfl (by decide) (.slice A L.length c) L.length _ rfl HA.out.rows.rows ⟨w.heap.size + 1, 0, none⟩ 1 1 [.int .i64 k, .int .i64 ln, .int .i64 bs, .int .i64 sz, .bool op, .slice none 0 0] rfl rfl NC.out (fun u hu => by simp at hu; rcases hu with rfl | rfl | rfl | rfl | rfl | rfl <;> rfl) (by unfold maxLen; omega) (by omega) ZB ?_; intro v6 w6 ho6 hg6 hat6; have hform : ∃ A6 c6, v6 = .slice A6 (L.length + 1) c6 := row_form ho6; obtain ⟨A6, c6, rfl⟩ := hform; have T6 := Lib.hid (tab_grown (x := ⟨k, ln, bs, sz, op, []⟩) HA.out hg6 ho6 rfl); have m6 : w6.cell? ⟨p, 0, none⟩ = some (.slice A L.length c) := T6.out.1.cell 0; have g6 : w6.frozen? ⟨p, 0, none⟩ = false := T6.out.1.free 0; clear ho6 hg6 hat6)
    all_goals
      have T7 := Lib.hid T6.out.2.1
      have K7 := Lib.hid (KA.out.trans T6.out.2.2)
      have m7 : (w6.setCell ⟨p, 0, none⟩ (.slice A6 (L.length + 1) c6)).cell? ⟨p, 0, none⟩ = some (.slice A6 (L.length + 1) c6) := T7.out.blk.cell 0
      clear T6 m6 g6 HA KA H0 BA a0 u0 q0 q1 q2 q3 q4 q5 NC
      generalize w6.setCell ⟨p, 0, none⟩ (.slice A6 (L.length + 1) c6) = W7 at *
      go_wp2_with fail
      go_ret2
      exact ⟨_, _, by rw [HP.out]; simp, by rw [HP.out]; simp, T7.out, K7.out⟩
end Go.Proofs.Ytabkldahgjicbaa
