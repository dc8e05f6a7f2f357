/- Types: the laws' do whole, awake. -/
import Derived.Test.YtabkldahgjicbaaTypW
import Derived.Test.YtabkldahgjicbaaTypJ
namespace Go.Proofs.Ytabkldahgjicbaa
open Go.ChangeShapes Go.WideShapes Go.ChangeAt Go.RowKit
set_option linter.unusedVariables false
set_option linter.unusedSimpArgs false

set_option maxHeartbeats 16000000 in
set_option maxRecDepth 100000 in
theorem do_none (p B : Nat) (v u : Value) (L M : List Tx) (o : OpT) (w : World) (hT : TabAt w B p v L) (hR : RowsX rT rF w B u M) (hM : M.map (·.1) = L.map (·.1)) (h0 : o.kind ≠ 0) (h1 : o.kind ≠ 1) (h2 : o.kind ≠ 2) (h3 : o.kind ≠ 3) (h4 : o.kind ≠ 4) :
    Calls Try.prog 25 #[.pointer (some ⟨p, 0, none⟩), u, .agg #[.int .i64 o.kind, .int .i64 o.a, .int .i64 o.b, .string o.name]] w (DoPost B p w (doP (L.map (·.1)) o)) := by
  have b0 := (Below.refl w.heap.size w).alloc (Nat.le_refl _) (.cells #[.int .i64 o.kind, .int .i64 o.a, .int .i64 o.b, .string o.name] oT)
  have T0 := Lib.hid (hT.below b0)
  have R0 := Lib.hid (hR.below b0)
  have K0 := Lib.hid (KeptT.ofBelow (B := B) b0)
  have Q := Lib.hid (Whole.made w oT #[.int .i64 o.kind, .int .i64 o.a, .int .i64 o.b, .string o.name] _ rfl)
  have DP := Lib.hid (show doP (L.map (·.1)) o = L.map (·.1) by unfold doP; rw [if_neg h0, if_neg h1, if_neg h2, if_neg h3, if_neg h4])
  have HM := Lib.hid hM
  obtain ⟨ok, oa, ob, on⟩ := o
  have d0 : (ok == 0) = false := beq_eq_false_iff_ne.2 h0
  have d1 : (ok == 1) = false := beq_eq_false_iff_ne.2 h1
  have d2 : (ok == 2) = false := beq_eq_false_iff_ne.2 h2
  have d3 : (ok == 3) = false := beq_eq_false_iff_ne.2 h3
  have d4 : (ok == 4) = false := beq_eq_false_iff_ne.2 h4
  have q0 : (w.alloc (.cells #[.int .i64 ok, .int .i64 oa, .int .i64 ob, .string on] oT)).cell? ⟨w.heap.size, 0, none⟩ = some (.int .i64 ok) := Q.out.cell 0
  obtain ⟨A, c, rfl⟩ := row_form R0.out.rows
  clear hT hR hM h0 h1 h2 h3 h4 b0 Q
  unfold DoPost
  go_enter Try.func25, Try.ntmps25
  go_wp2_with fail
  go_ret2
  exact ⟨v, L, .slice A M.length c, rfl, DP.out.symm, M, by rw [DP.out]; exact HM.out, T0.out, R0.out, K0.out⟩

theorem do_any (p B : Nat) (v u : Value) (L M : List Tx) (n : Nat) (o : OpT) (w : World) (hT : TabAt w B p v L) (hR : RowsX rT rF w B u M) (hM : M.map (·.1) = L.map (·.1)) (hI : Inv n (L.map (·.1))) (hn : n ≤ 100) (hB : B ≤ w.heap.size) (hs : o.name.size ≤ 140737488355328) :
    Calls Try.prog 25 #[.pointer (some ⟨p, 0, none⟩), u, .agg #[.int .i64 o.kind, .int .i64 o.a, .int .i64 o.b, .string o.name]] w (DoPost B p w (doP (L.map (·.1)) o)) := by
  by_cases h0 : o.kind = 0
  · exact do_array p B v u L M n o w hT hR hM hI hn hB hs h0
  by_cases h1 : o.kind = 1
  · exact do_open p B v u L M n o w hT hR hM hI hn hB hs h1
  by_cases h2 : o.kind = 2
  · exact do_field p B v u L M n o w hT hR hM hI hn hB hs h2
  by_cases h3 : o.kind = 3
  · exact do_close p B v u L M n o w hT hR hM hI hn hB hs h3
  by_cases h4 : o.kind = 4
  · exact do_pointer p B v u L M n o w hT hR hM hI hn hB hs h4
  exact do_none p B v u L M o w hT hR hM h0 h1 h2 h3 h4

theorem newX_fst : newX.map (·.1) = newL := rfl

set_option maxHeartbeats 16000000 in
set_option maxRecDepth 100000 in
theorem awake09_any (w : World) :
    Calls Try.prog 6 #[] w fun e w' => e = .returned (.bool true) ∧ Below w.heap.size w w' := by
  have NW := Lib.hid (new_any w.heap.size w (Nat.le_refl _))
  have AR := Lib.hid (fun p v w1 (h : TabAt w1 w.heap.size p v newX) (hb : w.heap.size ≤ w1.heap.size) => array_any p w.heap.size v newX 10 1 w1 h hb (by decide) (by rw [newX_fst]; exact Inv.start.sizes))
  rw [newX_fst, show arrayP newL 10 1 = (newL ++ [⟨5, 10, 1, 40, false, []⟩], 5, 0) from rfl] at AR
  unfold ChPost at AR
  go_enter Try.func6, Try.ntmps6
  go_wp2_with fail
  refine NW.out.mono ?_
  rintro e w1 ⟨p, v, rfl, hT1, hb1⟩
  have B1 := Lib.hid hb1
  have A1 := Lib.hid (AR.out p v w1 hT1 hb1.size)
  clear hT1 hb1 NW AR
  go_wp2_with fail
  refine A1.out.mono ?_
  rintro e w2 ⟨v2, L2, rfl, hL2, hT2, hK2⟩
  have hx : (getX L2 5).1 = ⟨5, 10, 1, 40, false, []⟩ := by rw [getX_fst, hL2]; rfl
  have hlen : L2.length = 6 := by
    have h := congrArg List.length hL2
    rw [List.length_map] at h
    exact h
  have GT := Lib.hid (get_any p w.heap.size v2 L2 5 w2 hT2 (by omega) _ rfl (by rw [hx]; decide) (by rw [hx]; exact fun f hf => (List.not_mem_nil hf).elim))
  rw [hx] at GT
  have T2 := Lib.hid hT2
  have B2 := Lib.hid (KeptT.below B1.out hK2 B1.out.size)
  have HL := Lib.hid hlen
  clear hx hlen hL2 hT2 hK2 A1
  go_wp2_with fail
  refine GT.out.mono ?_
  rintro e w3 ⟨fv, rfl, hb3, _⟩
  have LN := Lib.hid (len_any p w.heap.size v2 L2 w3 (T2.out.below hb3))
  rw [HL.out] at LN
  have B3 := Lib.hid (B2.out.trans (hb3.mono B2.out.size))
  have f3 := field_p3 5 10 1 40 false fv
  clear hb3 GT T2 HL
  go_wp2_with fail
  refine LN.out.mono ?_
  rintro e w4 ⟨rfl, rfl⟩
  go_wp2_with fail
  go_ret
  exact ⟨rfl, B3.out⟩

/-- What the calls of a script come to. -/
inductive Reached : Nat → List Ty → Prop
  | start : Reached 0 newL
  | step {n : Nat} {L : List Ty} {o : OpT} : Reached n L → o.name.size ≤ 140737488355328 → Reached (n + 1) (doP L o)

theorem Reached.inv {n : Nat} {L : List Ty} (h : Reached n L) : Inv n L := by
  induction h with
  | start => exact Inv.start
  | step _ hs ih => exact ih.step _ hs
end Go.Proofs.Ytabkldahgjicbaa
