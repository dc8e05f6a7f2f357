/- Types: the answers' add. -/
import Derived.Test.YtabkldahgjicbaaTypM
namespace Go.Proofs.Ytabkldahgjicbaa
open Go.ChangeShapes Go.WideShapes Go.ChangeAt Go.RowKit
set_option linter.unusedVariables false
set_option linter.unusedSimpArgs false

/-- What a call of the answers' leaves: the table then, the number, the error's number. -/
def RefPost (B : Nat) (w : World) (r : List Ty × Int × Int) (e : Ending) (w' : World) : Prop :=
  ∃ v' M', e = .returned (.tuple #[v', .int .i64 r.2.1, .int .i64 r.2.2]) ∧ M'.map (·.1) = r.1 ∧ RowsX rT rF w' B v' M' ∧ Below w.heap.size w w'

theorem tx_one : ∀ (L : List Tx), (∀ x ∈ L, ∃ A n c, x.2 = .slice A n c) → ∀ u ∈ L.flatMap txCells, u.oneCell' = true := by
  intro L hL u hu
  obtain ⟨x, hx, hf⟩ := List.mem_flatMap.1 hu
  obtain ⟨A, n, c, hc⟩ := hL x hx
  simp [txCells, hc] at hf
  rcases hf with rfl | rfl | rfl | rfl | rfl | rfl <;> rfl

theorem RowsX.one {E F : TypeId} {w : World} {B : Nat} {v : Value} {L : List Tx} (h : RowsX E F w B v L) : ∀ u ∈ L.flatMap txCells, u.oneCell' = true :=
  tx_one L fun x hx => by
    obtain ⟨A, c, hc⟩ := row_form (h.fds x hx)
    exact ⟨A, _, c, hc⟩

/-- The world below its end stays as it was when a row is grown that lies from there on. -/
theorem below_row {B : Nat} {a w w' : World} {e : TypeId} {sz : Nat} {v : Value} {n : Nat} {xs : List Value} (hb : Below B a w) (h : w.ownsRow B e sz v n xs) (hg : w.grownBy w' v.ownBlock) (hB : B ≤ w.heap.size) : Below B a w' :=
  hb.grown hg hB (fun b hk => (World.ownsRow.lt h b hk).1)

set_option maxHeartbeats 8000000 in
set_option maxRecDepth 100000 in
theorem refadd_any (B : Nat) (v : Value) (L : List Tx) (k ln bs sz : Int) (op : Bool) (w : World) (h : RowsX rT rF w B v L) (hB : B ≤ w.heap.size) (hn : L.length ≤ 4096) :
    Calls Try.prog 45 #[v, .agg #[.int .i64 k, .int .i64 ln, .int .i64 bs, .int .i64 sz, .bool op, .slice none 0 0]] w (RefPost B w (addP (L.map (·.1)) ⟨k, ln, bs, sz, op, []⟩)) := by
  obtain ⟨A, c, rfl⟩ := row_form h.rows
  have AP := Lib.hid (show addP (L.map (·.1)) ⟨k, ln, bs, sz, op, []⟩ = if 4096 ≤ (L.map (·.1)).length then (L.map (·.1), 0, 242) else (L.map (·.1) ++ [⟨k, ln, bs, sz, op, []⟩], ((L.map (·.1)).length : Int), 0) from rfl)
  rw [List.length_map] at AP
  generalize addP (L.map (·.1)) ⟨k, ln, bs, sz, op, []⟩ = r at *
  have hb0 := (Below.refl w.heap.size w).alloc (Nat.le_refl _) (.cells #[.int .i64 k, .int .i64 ln, .int .i64 bs, .int .i64 sz, .bool op, .slice none 0 0] rT)
  have H0 := Lib.hid (h.below hb0)
  have BA := Lib.hid hb0
  have Q := Lib.hid (Whole.made w rT #[.int .i64 k, .int .i64 ln, .int .i64 bs, .int .i64 sz, .bool op, .slice none 0 0] _ rfl)
  unfold RefPost
  by_cases hfull : 4096 ≤ L.length
  · have HP := Lib.hid (AP.out.trans (if_pos hfull))
    have d : decide ((4096 : Int) ≤ L.length) = true := decide_eq_true (by omega)
    clear h hb0 AP Q
    go_enter Try.func45, Try.ntmps45
    go_wp2_with fail
    go_ret3
    exact ⟨_, L, by rw [HP.out]; rfl, by rw [HP.out], H0.out, BA.out⟩
  · have HP := Lib.hid (AP.out.trans (if_neg hfull))
    have d : decide ((4096 : Int) ≤ L.length) = false := decide_eq_false (by omega)
    obtain ⟨i0, hi, hz0, hz1, hz2⟩ := info_parts rT_info
    have hlen : L.length < 4096 := by omega
    clear h hb0 AP hfull
    go_enter Try.func45, Try.ntmps45
    go_wp2_with fail
    have hVs : w.heap.size ≤ (w.alloc (.cells #[.int .i64 k, .int .i64 ln, .int .i64 bs, .int .i64 sz, .bool op, .slice none 0 0] rT)).heap.size := BA.out.size
    generalize w.alloc (.cells #[.int .i64 k, .int .i64 ln, .int .i64 bs, .int .i64 sz, .bool op, .slice none 0 0] rT) = V at *
    have HVS := Lib.hid hVs
    clear hVs
    have q0 : V.cell? ⟨w.heap.size, 0, none⟩ = some (.int .i64 k) := Q.out.cell 0
    have q1 : V.cell? ⟨w.heap.size, 1, none⟩ = some (.int .i64 ln) := Q.out.cell 1
    have q2 : V.cell? ⟨w.heap.size, 2, none⟩ = some (.int .i64 bs) := Q.out.cell 2
    have q3 : V.cell? ⟨w.heap.size, 3, none⟩ = some (.int .i64 sz) := Q.out.cell 3
    have q4 : V.cell? ⟨w.heap.size, 4, none⟩ = some (.bool op) := Q.out.cell 4
    have q5 : V.cell? ⟨w.heap.size, 5, none⟩ = some (.slice none 0 0) := Q.out.cell 5
    have ba := (Below.refl V.heap.size V).alloc (Nat.le_refl _) (.cells #[] rT)
    have bx := (Below.refl V.heap.size V).alloc (Nat.le_refl _) (.cells #[.int .i64 k, .int .i64 ln, .int .i64 bs, .int .i64 sz, .bool op, .slice none 0 0] rT)
    have r0 : (V.alloc (.cells #[] rT)).cell? ⟨w.heap.size, 0, none⟩ = some (.int .i64 k) := (Q.out.below ba Q.out.lt).cell 0
    have r1 : (V.alloc (.cells #[] rT)).cell? ⟨w.heap.size, 1, none⟩ = some (.int .i64 ln) := (Q.out.below ba Q.out.lt).cell 1
    have r2 : (V.alloc (.cells #[] rT)).cell? ⟨w.heap.size, 2, none⟩ = some (.int .i64 bs) := (Q.out.below ba Q.out.lt).cell 2
    have r3 : (V.alloc (.cells #[] rT)).cell? ⟨w.heap.size, 3, none⟩ = some (.int .i64 sz) := (Q.out.below ba Q.out.lt).cell 3
    have r4 : (V.alloc (.cells #[] rT)).cell? ⟨w.heap.size, 4, none⟩ = some (.bool op) := (Q.out.below ba Q.out.lt).cell 4
    have r5 : (V.alloc (.cells #[] rT)).cell? ⟨w.heap.size, 5, none⟩ = some (.slice none 0 0) := (Q.out.below ba Q.out.lt).cell 5
    have SZ := Lib.hid (show (V.alloc (.cells #[.int .i64 k, .int .i64 ln, .int .i64 bs, .int .i64 sz, .bool op, .slice none 0 0] rT)).heap.size = V.heap.size + 1 by simp)
    have SE := Lib.hid (show (V.alloc (.cells #[] rT)).heap.size = V.heap.size + 1 by simp)
    have Ba := Lib.hid (show Below V.heap.size V (V.alloc (.cells #[] rT)).drew from ba.drew)
    have Bb := Lib.hid (show Below V.heap.size V ((V.alloc (.cells #[.int .i64 k, .int .i64 ln, .int .i64 bs, .int .i64 sz, .bool op, .slice none 0 0] rT)).alloc (.cells #[] rT)).drew from (bx.alloc (by rw [SZ.out]; omega) _).drew)
    have Bc := Lib.hid (show Below V.heap.size V ((V.alloc (.cells #[] rT)).alloc (.cells #[.int .i64 k, .int .i64 ln, .int .i64 bs, .int .i64 sz, .bool op, .slice none 0 0] rT)).drew from (ba.alloc (by rw [SE.out]; omega) _).drew)
    have Ha := Lib.hid (H0.out.below Ba.out)
    have Hb := Lib.hid (H0.out.below Bb.out)
    have Hc := Lib.hid (H0.out.below Bc.out)
    have Oa := Lib.hid (show World.ownsRow (V.alloc (.cells #[] rT)).drew V.heap.size rT 6 (.slice (some ⟨V.heap.size, 0, none⟩) 0 0) 0 [] from row_built (e := rT) (sz := 6) V #[] 0 0 rfl (Nat.le_refl _) (Nat.zero_le _) V.heap.size (Nat.le_refl _) _ rfl [] rfl)
    have Ob := Lib.hid (show World.ownsRow ((V.alloc (.cells #[.int .i64 k, .int .i64 ln, .int .i64 bs, .int .i64 sz, .bool op, .slice none 0 0] rT)).alloc (.cells #[] rT)).drew V.heap.size rT 6 (.slice (some ⟨V.heap.size + 1, 0, none⟩) 0 0) 0 [] from row_built (e := rT) (sz := 6) (V.alloc (.cells #[.int .i64 k, .int .i64 ln, .int .i64 bs, .int .i64 sz, .bool op, .slice none 0 0] rT)) #[] 0 0 rfl (Nat.le_refl _) (Nat.zero_le _) V.heap.size (by rw [SZ.out]; omega) _ (by rw [SZ.out]) [] rfl)
    have Oc := Lib.hid (show World.ownsRow ((V.alloc (.cells #[] rT)).alloc (.cells #[.int .i64 k, .int .i64 ln, .int .i64 bs, .int .i64 sz, .bool op, .slice none 0 0] rT)).drew V.heap.size rT 6 (.slice (some ⟨V.heap.size, 0, none⟩) 0 0) 0 [] from World.ownsRow.alloc Oa.out (.cells #[.int .i64 k, .int .i64 ln, .int .i64 bs, .int .i64 sz, .bool op, .slice none 0 0] rT))
    have Xb := Lib.hid (show Whole ((V.alloc (.cells #[.int .i64 k, .int .i64 ln, .int .i64 bs, .int .i64 sz, .bool op, .slice none 0 0] rT)).alloc (.cells #[] rT)).drew V.heap.size rT #[.int .i64 k, .int .i64 ln, .int .i64 bs, .int .i64 sz, .bool op, .slice none 0 0] from (Whole.made V rT #[.int .i64 k, .int .i64 ln, .int .i64 bs, .int .i64 sz, .bool op, .slice none 0 0] _ rfl).alloc (.cells #[] rT))
    have Xc := Lib.hid (show Whole ((V.alloc (.cells #[] rT)).alloc (.cells #[.int .i64 k, .int .i64 ln, .int .i64 bs, .int .i64 sz, .bool op, .slice none 0 0] rT)).drew (V.heap.size + 1) rT #[.int .i64 k, .int .i64 ln, .int .i64 bs, .int .i64 sz, .bool op, .slice none 0 0] from Whole.made (V.alloc (.cells #[] rT)) rT #[.int .i64 k, .int .i64 ln, .int .i64 bs, .int .i64 sz, .bool op, .slice none 0 0] _ (by rw [SE.out]))
    have Za : V.heap.size ≤ (V.alloc (.cells #[] rT)).drew.heap.size := Ba.out.size
    have Zb : V.heap.size ≤ ((V.alloc (.cells #[.int .i64 k, .int .i64 ln, .int .i64 bs, .int .i64 sz, .bool op, .slice none 0 0] rT)).alloc (.cells #[] rT)).drew.heap.size := Bb.out.size
    have Zc : V.heap.size ≤ ((V.alloc (.cells #[] rT)).alloc (.cells #[.int .i64 k, .int .i64 ln, .int .i64 bs, .int .i64 sz, .bool op, .slice none 0 0] rT)).drew.heap.size := Bc.out.size
    have hN : 0 + L.length ≤ maxLen := by unfold maxLen; omega
    have hM : L.length + 1 ≤ maxLen := by unfold maxLen; omega
    clear ba bx
    go_region_law (first
      | (refine step_app_any rfl (.tmp 11) (.tmp 12) 25 rfl V.heap.size rT i0 _ 6 64 Try.underlying25 hi hz0 hz1 hz2 rfl (by decide) (.slice (some ⟨V.heap.size, 0, none⟩) 0 0) 0 [] rfl Oa.out (.slice A L.length c) L.length _ rfl Ha.out.rows Ha.out.one hN (by omega) Za ?_; intro v6 w6 ho6 hg6 hat6; rw [Nat.zero_add, List.nil_append] at ho6; have hform := row_form ho6; obtain ⟨A6, c6, rfl⟩ := hform; have B6 := Lib.hid (below_row Ba.out Oa.out hg6 Za); have Z6 : V.heap.size ≤ w6.heap.size := B6.out.size; have O7 := Lib.hid (World.ownsRow.alloc ho6 (.cells #[.int .i64 k, .int .i64 ln, .int .i64 bs, .int .i64 sz, .bool op, .slice none 0 0] rT)); have B7 := Lib.hid (B6.out.alloc Z6 (.cells #[.int .i64 k, .int .i64 ln, .int .i64 bs, .int .i64 sz, .bool op, .slice none 0 0] rT)); have N7 := Lib.hid (show ∀ (j : Nat) u, ([.int .i64 k, .int .i64 ln, .int .i64 bs, .int .i64 sz, .bool op, .slice none 0 0] : List Value)[j]? = some u → (w6.alloc (.cells #[.int .i64 k, .int .i64 ln, .int .i64 bs, .int .i64 sz, .bool op, .slice none 0 0] rT)).cell? ((⟨w6.heap.size, 0, none⟩ : Addr).add j) = some u from fun j u hj => by rw [Go.WideShapes.add_plain, Nat.zero_add]; exact ((Whole.made w6 rT #[.int .i64 k, .int .i64 ln, .int .i64 bs, .int .i64 sz, .bool op, .slice none 0 0] _ rfl).cell j).trans (by simpa using hj)); have Z7 : V.heap.size ≤ (w6.alloc (.cells #[.int .i64 k, .int .i64 ln, .int .i64 bs, .int .i64 sz, .bool op, .slice none 0 0] rT)).heap.size := B7.out.size; have s0 : w6.cell? ⟨w.heap.size, 0, none⟩ = some (.int .i64 k) := (Q.out.below B6.out Q.out.lt).cell 0; have s1 : w6.cell? ⟨w.heap.size, 1, none⟩ = some (.int .i64 ln) := (Q.out.below B6.out Q.out.lt).cell 1; have s2 : w6.cell? ⟨w.heap.size, 2, none⟩ = some (.int .i64 bs) := (Q.out.below B6.out Q.out.lt).cell 2; have s3 : w6.cell? ⟨w.heap.size, 3, none⟩ = some (.int .i64 sz) := (Q.out.below B6.out Q.out.lt).cell 3; have s4 : w6.cell? ⟨w.heap.size, 4, none⟩ = some (.bool op) := (Q.out.below B6.out Q.out.lt).cell 4; have s5 : w6.cell? ⟨w.heap.size, 5, none⟩ = some (.slice none 0 0) := (Q.out.below B6.out Q.out.lt).cell 5; clear ho6 hg6 hat6)
      | (refine step_app_any rfl (.tmp 11) (.tmp 12) 25 rfl V.heap.size rT i0 _ 6 64 Try.underlying25 hi hz0 hz1 hz2 rfl (by decide) (.slice (some ⟨V.heap.size + 1, 0, none⟩) 0 0) 0 [] rfl Ob.out (.slice A L.length c) L.length _ rfl Hb.out.rows Hb.out.one hN (by omega) Zb ?_; intro v6 w6 ho6 hg6 hat6; rw [Nat.zero_add, List.nil_append] at ho6; have hform := row_form ho6; obtain ⟨A6, c6, rfl⟩ := hform; have B6 := Lib.hid (below_row Bb.out Ob.out hg6 Zb); have Z6 : V.heap.size ≤ w6.heap.size := B6.out.size; have Pb := Lib.hid ho6; have Nb := Lib.hid (show ∀ (j : Nat) u, ([.int .i64 k, .int .i64 ln, .int .i64 bs, .int .i64 sz, .bool op, .slice none 0 0] : List Value)[j]? = some u → w6.cell? ((⟨V.heap.size, 0, none⟩ : Addr).add j) = some u from fun j u hj => by rw [Go.WideShapes.add_plain, Nat.zero_add]; exact (show w6.cell? ⟨V.heap.size, j, none⟩ = _ from (World.cell?_of_block (a := ⟨V.heap.size, j, none⟩) (hg6.block (V.heap.size) Xb.out.lt (by simp [Value.ownBlock]))).trans (Xb.out.cell j)).trans (by simpa using hj)); clear ho6 hg6 hat6)
      | (refine step_app_any rfl (.tmp 11) (.tmp 12) 25 rfl V.heap.size rT i0 _ 6 64 Try.underlying25 hi hz0 hz1 hz2 rfl (by decide) (.slice (some ⟨V.heap.size, 0, none⟩) 0 0) 0 [] rfl Oc.out (.slice A L.length c) L.length _ rfl Hc.out.rows Hc.out.one hN (by omega) Zc ?_; intro v6 w6 ho6 hg6 hat6; rw [Nat.zero_add, List.nil_append] at ho6; have hform := row_form ho6; obtain ⟨A6, c6, rfl⟩ := hform; have B6 := Lib.hid (below_row Bc.out Oc.out hg6 Zc); have Z6 : V.heap.size ≤ w6.heap.size := B6.out.size; have Pc := Lib.hid ho6; have Nc := Lib.hid (show ∀ (j : Nat) u, ([.int .i64 k, .int .i64 ln, .int .i64 bs, .int .i64 sz, .bool op, .slice none 0 0] : List Value)[j]? = some u → w6.cell? ((⟨V.heap.size + 1, 0, none⟩ : Addr).add j) = some u from fun j u hj => by rw [Go.WideShapes.add_plain, Nat.zero_add]; exact (show w6.cell? ⟨V.heap.size + 1, j, none⟩ = _ from (World.cell?_of_block (a := ⟨V.heap.size + 1, j, none⟩) (hg6.block (V.heap.size + 1) Xc.out.lt (by simp [Value.ownBlock]))).trans (Xc.out.cell j)).trans (by simpa using hj)); clear ho6 hg6 hat6)
      | (refine step_app rfl (.tmp 13) (.tmp 15) 25 rfl V.heap.size rT i0 _ 6 64 Try.underlying25 hi hz0 hz1 hz2 rfl (by decide) (.slice A6 L.length c6) L.length _ rfl O7.out ⟨w6.heap.size, 0, none⟩ 1 1 [.int .i64 k, .int .i64 ln, .int .i64 bs, .int .i64 sz, .bool op, .slice none 0 0] rfl rfl N7.out (fun u hu => by simp at hu; rcases hu with rfl | rfl | rfl | rfl | rfl | rfl <;> rfl) hM (by omega) Z7 ?_; intro v8 w8 ho8 hg8 hat8; have hform := row_form ho8; obtain ⟨A8, c8, rfl⟩ := hform; have B8 := Lib.hid (below_row B7.out O7.out hg8 Z7); have O8 := Lib.hid ho8; clear ho8 hg8 hat8)
      | (refine step_app rfl (.tmp 13) (.tmp 15) 25 rfl V.heap.size rT i0 _ 6 64 Try.underlying25 hi hz0 hz1 hz2 rfl (by decide) (.slice A6 L.length c6) L.length _ rfl Pb.out ⟨V.heap.size, 0, none⟩ 1 1 [.int .i64 k, .int .i64 ln, .int .i64 bs, .int .i64 sz, .bool op, .slice none 0 0] rfl rfl Nb.out (fun u hu => by simp at hu; rcases hu with rfl | rfl | rfl | rfl | rfl | rfl <;> rfl) hM (by omega) Z6 ?_; intro v8 w8 ho8 hg8 hat8; have hform := row_form ho8; obtain ⟨A8, c8, rfl⟩ := hform; have B8 := Lib.hid (below_row B6.out Pb.out hg8 Z6); have O8 := Lib.hid ho8; clear ho8 hg8 hat8)
      | (refine step_app rfl (.tmp 13) (.tmp 15) 25 rfl V.heap.size rT i0 _ 6 64 Try.underlying25 hi hz0 hz1 hz2 rfl (by decide) (.slice A6 L.length c6) L.length _ rfl Pc.out ⟨V.heap.size + 1, 0, none⟩ 1 1 [.int .i64 k, .int .i64 ln, .int .i64 bs, .int .i64 sz, .bool op, .slice none 0 0] rfl rfl Nc.out (fun u hu => by simp at hu; rcases hu with rfl | rfl | rfl | rfl | rfl | rfl <;> rfl) hM (by omega) Z6 ?_; intro v8 w8 ho8 hg8 hat8; have hform := row_form ho8; obtain ⟨A8, c8, rfl⟩ := hform; have B8 := Lib.hid (below_row B6.out Pc.out hg8 Z6); have O8 := Lib.hid ho8; clear ho8 hg8 hat8))
    all_goals
      go_wp2_with fail
      go_ret3
      have B9 : Below w.heap.size w w8 := BA.out.trans (B8.out.mono HVS.out)
      refine ⟨.slice A8 (L.length + 1) c8, L ++ [(⟨k, ln, bs, sz, op, []⟩, .slice none 0 0)], by rw [HP.out]; rfl, by rw [HP.out]; simp, ⟨?_, ?_⟩, B9⟩
      · have h8 := row_more O8.out (Nat.le_trans hB HVS.out)
        rw [List.length_append, List.flatMap_append, List.flatMap_singleton]
        exact h8
      · intro y hy
        rcases List.mem_append.1 hy with hy | hy
        · exact row_below (H0.out.fds y hy) B8.out
        · obtain rfl := List.mem_singleton.1 hy
          exact row_nil _ _ _ _
end Go.Proofs.Ytabkldahgjicbaa
