/- Types: the laws' do: a call at both. -/
import Derived.Test.YtabkldahgjicbaaTypT
import Derived.Test.YtabkldahgjicbaaTypR
namespace Go.Proofs.Ytabkldahgjicbaa
open Go.ChangeShapes Go.WideShapes Go.ChangeAt Go.RowKit
set_option linter.unusedVariables false
set_option linter.unusedSimpArgs false

abbrev oT : TypeId := 30

theorem KeptT.whole {B : Nat} {w w' : World} {g : Nat} {t : TypeId} {cs : Array Value} (k : KeptT B w w') (h : Whole w g t cs) (h1 : t ≠ pB) (h2 : t ≠ pT) (h3 : t ≠ pF) : Whole w' g t cs :=
  (k.block g h.lt (.inr fun cs' t' z hh => by unfold Whole at h; rw [h] at hh; injection hh with hh; injection hh with _ hh _; subst hh; exact ⟨h1, h2, h3⟩)).trans h

/-- What a call at both leaves: both are the same types. -/
def DoPost (B p : Nat) (w : World) (L : List Ty) (e : Ending) (w' : World) : Prop :=
  ∃ v L' u M', e = .returned (.tuple #[u, .bool true]) ∧ L'.map (·.1) = L ∧ M'.map (·.1) = L ∧ TabAt w' B p v L' ∧ RowsX rT rF w' B u M' ∧ KeptT B w w'

set_option maxHeartbeats 16000000 in
set_option maxRecDepth 100000 in
theorem do_array (p B : Nat) (v u : Value) (L M : List Tx) (n : Nat) (o : OpT) (w : World) (hT : TabAt w B p v L) (hR : RowsX rT rF w B u M) (hM : M.map (·.1) = L.map (·.1)) (hI : Inv n (L.map (·.1))) (hn : n ≤ 100) (hB : B ≤ w.heap.size) (hs : o.name.size ≤ 140737488355328) (hk : o.kind = 0) :
    Calls Try.prog 25 #[.pointer (some ⟨p, 0, none⟩), u, .agg #[.int .i64 o.kind, .int .i64 o.a, .int .i64 o.b, .string o.name]] w (DoPost B p w (doP (L.map (·.1)) o)) := by
  have hl : L.length ≤ 4096 := by have := hI.len; rw [List.length_map] at this; omega
  have hlM : M.length ≤ 4096 := by have h1 := congrArg List.length hM; rw [List.length_map, List.length_map] at h1; omega
  have b0 := (Below.refl w.heap.size w).alloc (Nat.le_refl _) (.cells #[.int .i64 o.kind, .int .i64 o.a, .int .i64 o.b, .string o.name] oT)
  have T0 := hT.below b0
  have R0 := Lib.hid (hR.below b0)
  have Q := Lib.hid (Whole.made w oT #[.int .i64 o.kind, .int .i64 o.a, .int .i64 o.b, .string o.name] _ rfl)
  have hB0 := Nat.le_trans hB b0.size
  have ga := hI.get o.a
  have PC := Lib.hid (array_any p B v L o.a o.b _ T0 hB0 hl hI.sizes)
  have RC := Lib.hid (fun (w1 : World) (h : RowsX rT rF w1 B u M) (hb : B ≤ w1.heap.size) => refarray_any B u M o.a o.b w1 h hb hlM (by rw [hM]; exact hI.sizes))
  rw [hM] at RC
  have BA := Lib.hid b0
  have DP := Lib.hid (show doP (L.map (·.1)) o = (arrayP (L.map (·.1)) o.a o.b).1 by unfold doP; rw [hk]; rfl)
  have HB := Lib.hid hB0
  have HBw := Lib.hid hB
  clear hT hR hM hI hn hB hs b0 T0 hB0 hl hlM ga
  unfold ChPost at PC
  unfold RefPost at RC
  generalize arrayP (L.map (·.1)) o.a o.b = r at *
  generalize doP (L.map (·.1)) o = D at *
  obtain rfl := DP.out
  obtain ⟨ok, oa, ob, on⟩ := o
  have hk : ok = 0 := hk
  subst hk
  unfold DoPost
  have q0 : (w.alloc (.cells #[.int .i64 0, .int .i64 oa, .int .i64 ob, .string on] oT)).cell? ⟨w.heap.size, 0, none⟩ = some (.int .i64 0) := Q.out.cell 0
  have q1 : (w.alloc (.cells #[.int .i64 0, .int .i64 oa, .int .i64 ob, .string on] oT)).cell? ⟨w.heap.size, 1, none⟩ = some (.int .i64 oa) := Q.out.cell 1
  have q2 : (w.alloc (.cells #[.int .i64 0, .int .i64 oa, .int .i64 ob, .string on] oT)).cell? ⟨w.heap.size, 2, none⟩ = some (.int .i64 ob) := Q.out.cell 2
  have q3 : (w.alloc (.cells #[.int .i64 0, .int .i64 oa, .int .i64 ob, .string on] oT)).cell? ⟨w.heap.size, 3, none⟩ = some (.string on) := Q.out.cell 3
  obtain ⟨A, c, rfl⟩ := row_form R0.out.rows
  go_enter Try.func25, Try.ntmps25
  go_wp2_with fail
  refine PC.out.mono ?_
  rintro e w1 ⟨v1, L1, rfl, hL1, hT1, hK1⟩
  have T1 := Lib.hid hT1
  have K1 := Lib.hid hK1
  have E1 := Lib.hid hL1
  have Q1 := Lib.hid (hK1.whole Q.out (by decide) (by decide) (by decide))
  have R1 := Lib.hid (RC.out w1 (hK1.rows R0.out) (Nat.le_trans HB.out hK1.size))
  have s1 : w1.cell? ⟨w.heap.size, 1, none⟩ = some (.int .i64 oa) := Q1.out.cell 1
  have s2 : w1.cell? ⟨w.heap.size, 2, none⟩ = some (.int .i64 ob) := Q1.out.cell 2
  have s3 : w1.cell? ⟨w.heap.size, 3, none⟩ = some (.string on) := Q1.out.cell 3
  have s0 : w1.cell? ⟨w.heap.size, 0, none⟩ = some (.int .i64 0) := Q1.out.cell 0
  clear hT1 hK1 hL1 PC RC R0 q0 q1 q2 q3 Q
  go_wp2_with fail
  refine R1.out.mono ?_
  rintro e w2 ⟨u2, M2, rfl, hM2, hR2, hb2⟩
  have T2 := Lib.hid (T1.out.below hb2)
  have K2 := Lib.hid (((KeptT.ofBelow (B := B) BA.out).trans K1.out).trans (KeptT.ofBelow hb2))
  have R2 := Lib.hid hR2
  have E2 := Lib.hid hM2
  clear hR2 hb2 hM2 R1 s0 s1 s2 s3 T1 K1 Q1
  go_wp2_with fail
  go_ret2
  exact ⟨v1, L1, u2, M2, rfl, E1.out, E2.out, T2.out, R2.out, K2.out⟩

set_option maxHeartbeats 16000000 in
set_option maxRecDepth 100000 in
theorem do_open (p B : Nat) (v u : Value) (L M : List Tx) (n : Nat) (o : OpT) (w : World) (hT : TabAt w B p v L) (hR : RowsX rT rF w B u M) (hM : M.map (·.1) = L.map (·.1)) (hI : Inv n (L.map (·.1))) (hn : n ≤ 100) (hB : B ≤ w.heap.size) (hs : o.name.size ≤ 140737488355328) (hk : o.kind = 1) :
    Calls Try.prog 25 #[.pointer (some ⟨p, 0, none⟩), u, .agg #[.int .i64 o.kind, .int .i64 o.a, .int .i64 o.b, .string o.name]] w (DoPost B p w (doP (L.map (·.1)) o)) := by
  have hl : L.length ≤ 4096 := by have := hI.len; rw [List.length_map] at this; omega
  have hlM : M.length ≤ 4096 := by have h1 := congrArg List.length hM; rw [List.length_map, List.length_map] at h1; omega
  have b0 := (Below.refl w.heap.size w).alloc (Nat.le_refl _) (.cells #[.int .i64 o.kind, .int .i64 o.a, .int .i64 o.b, .string o.name] oT)
  have T0 := hT.below b0
  have R0 := Lib.hid (hR.below b0)
  have Q := Lib.hid (Whole.made w oT #[.int .i64 o.kind, .int .i64 o.a, .int .i64 o.b, .string o.name] _ rfl)
  have hB0 := Nat.le_trans hB b0.size
  have ga := hI.get o.a
  have PC := Lib.hid (open_any p B v L _ T0 hB0 hl)
  have RC := Lib.hid (fun (w1 : World) (h : RowsX rT rF w1 B u M) (hb : B ≤ w1.heap.size) => refopen_any B u M w1 h hb hlM)
  rw [hM] at RC
  have BA := Lib.hid b0
  have DP := Lib.hid (show doP (L.map (·.1)) o = (openP (L.map (·.1))).1 by unfold doP; rw [hk]; rfl)
  have HB := Lib.hid hB0
  have HBw := Lib.hid hB
  clear hT hR hM hI hn hB hs b0 T0 hB0 hl hlM ga
  unfold ChPost at PC
  unfold RefPost at RC
  generalize openP (L.map (·.1)) = r at *
  generalize doP (L.map (·.1)) o = D at *
  obtain rfl := DP.out
  obtain ⟨ok, oa, ob, on⟩ := o
  have hk : ok = 1 := hk
  subst hk
  unfold DoPost
  have q0 : (w.alloc (.cells #[.int .i64 1, .int .i64 oa, .int .i64 ob, .string on] oT)).cell? ⟨w.heap.size, 0, none⟩ = some (.int .i64 1) := Q.out.cell 0
  have q1 : (w.alloc (.cells #[.int .i64 1, .int .i64 oa, .int .i64 ob, .string on] oT)).cell? ⟨w.heap.size, 1, none⟩ = some (.int .i64 oa) := Q.out.cell 1
  have q2 : (w.alloc (.cells #[.int .i64 1, .int .i64 oa, .int .i64 ob, .string on] oT)).cell? ⟨w.heap.size, 2, none⟩ = some (.int .i64 ob) := Q.out.cell 2
  have q3 : (w.alloc (.cells #[.int .i64 1, .int .i64 oa, .int .i64 ob, .string on] oT)).cell? ⟨w.heap.size, 3, none⟩ = some (.string on) := Q.out.cell 3
  obtain ⟨A, c, rfl⟩ := row_form R0.out.rows
  go_enter Try.func25, Try.ntmps25
  go_wp2_with fail
  refine PC.out.mono ?_
  rintro e w1 ⟨v1, L1, rfl, hL1, hT1, hK1⟩
  have T1 := Lib.hid hT1
  have K1 := Lib.hid hK1
  have E1 := Lib.hid hL1
  have Q1 := Lib.hid (hK1.whole Q.out (by decide) (by decide) (by decide))
  have R1 := Lib.hid (RC.out w1 (hK1.rows R0.out) (Nat.le_trans HB.out hK1.size))
  have s1 : w1.cell? ⟨w.heap.size, 1, none⟩ = some (.int .i64 oa) := Q1.out.cell 1
  have s2 : w1.cell? ⟨w.heap.size, 2, none⟩ = some (.int .i64 ob) := Q1.out.cell 2
  have s3 : w1.cell? ⟨w.heap.size, 3, none⟩ = some (.string on) := Q1.out.cell 3
  have s0 : w1.cell? ⟨w.heap.size, 0, none⟩ = some (.int .i64 1) := Q1.out.cell 0
  clear hT1 hK1 hL1 PC RC R0 q0 q1 q2 q3 Q
  go_wp2_with fail
  refine R1.out.mono ?_
  rintro e w2 ⟨u2, M2, rfl, hM2, hR2, hb2⟩
  have T2 := Lib.hid (T1.out.below hb2)
  have K2 := Lib.hid (((KeptT.ofBelow (B := B) BA.out).trans K1.out).trans (KeptT.ofBelow hb2))
  have R2 := Lib.hid hR2
  have E2 := Lib.hid hM2
  clear hR2 hb2 hM2 R1 s0 s1 s2 s3 T1 K1 Q1
  go_wp2_with fail
  go_ret2
  exact ⟨v1, L1, u2, M2, rfl, E1.out, E2.out, T2.out, R2.out, K2.out⟩

set_option maxHeartbeats 16000000 in
set_option maxRecDepth 100000 in
theorem do_field (p B : Nat) (v u : Value) (L M : List Tx) (n : Nat) (o : OpT) (w : World) (hT : TabAt w B p v L) (hR : RowsX rT rF w B u M) (hM : M.map (·.1) = L.map (·.1)) (hI : Inv n (L.map (·.1))) (hn : n ≤ 100) (hB : B ≤ w.heap.size) (hs : o.name.size ≤ 140737488355328) (hk : o.kind = 2) :
    Calls Try.prog 25 #[.pointer (some ⟨p, 0, none⟩), u, .agg #[.int .i64 o.kind, .int .i64 o.a, .int .i64 o.b, .string o.name]] w (DoPost B p w (doP (L.map (·.1)) o)) := by
  have hl : L.length ≤ 4096 := by have := hI.len; rw [List.length_map] at this; omega
  have hlM : M.length ≤ 4096 := by have h1 := congrArg List.length hM; rw [List.length_map, List.length_map] at h1; omega
  have b0 := (Below.refl w.heap.size w).alloc (Nat.le_refl _) (.cells #[.int .i64 o.kind, .int .i64 o.a, .int .i64 o.b, .string o.name] oT)
  have T0 := hT.below b0
  have R0 := Lib.hid (hR.below b0)
  have Q := Lib.hid (Whole.made w oT #[.int .i64 o.kind, .int .i64 o.a, .int .i64 o.b, .string o.name] _ rfl)
  have hB0 := Nat.le_trans hB b0.size
  have ga := hI.get o.a
  have PC := Lib.hid (field_any p B v L o.a o.name o.b _ T0 hB0 hl hI.sizes hs (by have := ga.2.2.1; omega))
  have RC := Lib.hid (fun (w1 : World) (h : RowsX rT rF w1 B u M) (hb : B ≤ w1.heap.size) => reffield_any B u M o.a o.name o.b w1 h hb hlM (by rw [hM]; exact hI.sizes) (by rw [hM]; have := ga.2.2.1; omega) (by rw [hM]; exact ga.2.2.2.2))
  rw [hM] at RC
  have BA := Lib.hid b0
  have DP := Lib.hid (show doP (L.map (·.1)) o = (fieldP (L.map (·.1)) o.a o.name o.b).1 by unfold doP; rw [hk]; rfl)
  have HB := Lib.hid hB0
  have HBw := Lib.hid hB
  clear hT hR hM hI hn hB hs b0 T0 hB0 hl hlM ga
  unfold ChPost1 at PC
  unfold RefPost1 at RC
  generalize fieldP (L.map (·.1)) o.a o.name o.b = r at *
  generalize doP (L.map (·.1)) o = D at *
  obtain rfl := DP.out
  obtain ⟨ok, oa, ob, on⟩ := o
  have hk : ok = 2 := hk
  subst hk
  unfold DoPost
  have q0 : (w.alloc (.cells #[.int .i64 2, .int .i64 oa, .int .i64 ob, .string on] oT)).cell? ⟨w.heap.size, 0, none⟩ = some (.int .i64 2) := Q.out.cell 0
  have q1 : (w.alloc (.cells #[.int .i64 2, .int .i64 oa, .int .i64 ob, .string on] oT)).cell? ⟨w.heap.size, 1, none⟩ = some (.int .i64 oa) := Q.out.cell 1
  have q2 : (w.alloc (.cells #[.int .i64 2, .int .i64 oa, .int .i64 ob, .string on] oT)).cell? ⟨w.heap.size, 2, none⟩ = some (.int .i64 ob) := Q.out.cell 2
  have q3 : (w.alloc (.cells #[.int .i64 2, .int .i64 oa, .int .i64 ob, .string on] oT)).cell? ⟨w.heap.size, 3, none⟩ = some (.string on) := Q.out.cell 3
  obtain ⟨A, c, rfl⟩ := row_form R0.out.rows
  go_enter Try.func25, Try.ntmps25
  go_wp2_with fail
  refine PC.out.mono ?_
  rintro e w1 ⟨v1, L1, rfl, hL1, hT1, hK1⟩
  have T1 := Lib.hid hT1
  have K1 := Lib.hid hK1
  have E1 := Lib.hid hL1
  have Q1 := Lib.hid (hK1.whole Q.out (by decide) (by decide) (by decide))
  have R1 := Lib.hid (RC.out w1 (hK1.rows R0.out) (Nat.le_trans HB.out hK1.size))
  have s1 : w1.cell? ⟨w.heap.size, 1, none⟩ = some (.int .i64 oa) := Q1.out.cell 1
  have s2 : w1.cell? ⟨w.heap.size, 2, none⟩ = some (.int .i64 ob) := Q1.out.cell 2
  have s3 : w1.cell? ⟨w.heap.size, 3, none⟩ = some (.string on) := Q1.out.cell 3
  have s0 : w1.cell? ⟨w.heap.size, 0, none⟩ = some (.int .i64 2) := Q1.out.cell 0
  clear hT1 hK1 hL1 PC RC R0 q0 q1 q2 q3 Q
  go_wp2_with fail
  refine R1.out.mono ?_
  rintro e w2 ⟨u2, M2, rfl, hM2, hR2, hb2⟩
  have T2 := Lib.hid (T1.out.below hb2)
  have K2 := Lib.hid (((KeptT.ofBelow (B := B) BA.out).trans K1.out).trans (KeptT.ofBelow hb2))
  have R2 := Lib.hid hR2
  have E2 := Lib.hid hM2
  clear hR2 hb2 hM2 R1 s0 s1 s2 s3 T1 K1 Q1
  go_wp2_with fail
  go_ret2
  exact ⟨v1, L1, u2, M2, rfl, E1.out, E2.out, T2.out, R2.out, K2.out⟩

set_option maxHeartbeats 16000000 in
set_option maxRecDepth 100000 in
theorem do_close (p B : Nat) (v u : Value) (L M : List Tx) (n : Nat) (o : OpT) (w : World) (hT : TabAt w B p v L) (hR : RowsX rT rF w B u M) (hM : M.map (·.1) = L.map (·.1)) (hI : Inv n (L.map (·.1))) (hn : n ≤ 100) (hB : B ≤ w.heap.size) (hs : o.name.size ≤ 140737488355328) (hk : o.kind = 3) :
    Calls Try.prog 25 #[.pointer (some ⟨p, 0, none⟩), u, .agg #[.int .i64 o.kind, .int .i64 o.a, .int .i64 o.b, .string o.name]] w (DoPost B p w (doP (L.map (·.1)) o)) := by
  have hl : L.length ≤ 4096 := by have := hI.len; rw [List.length_map] at this; omega
  have hlM : M.length ≤ 4096 := by have h1 := congrArg List.length hM; rw [List.length_map, List.length_map] at h1; omega
  have b0 := (Below.refl w.heap.size w).alloc (Nat.le_refl _) (.cells #[.int .i64 o.kind, .int .i64 o.a, .int .i64 o.b, .string o.name] oT)
  have T0 := hT.below b0
  have R0 := Lib.hid (hR.below b0)
  have Q := Lib.hid (Whole.made w oT #[.int .i64 o.kind, .int .i64 o.a, .int .i64 o.b, .string o.name] _ rfl)
  have hB0 := Nat.le_trans hB b0.size
  have ga := hI.get o.a
  have PC := Lib.hid (close_any p B v L o.a _ T0 hB0 hl)
  have RC := Lib.hid (fun (w1 : World) (h : RowsX rT rF w1 B u M) (hb : B ≤ w1.heap.size) => refclose_any B u M o.a w1 h hb hlM (by rw [hM]; exact ga.2.2.2.2))
  rw [hM] at RC
  have BA := Lib.hid b0
  have DP := Lib.hid (show doP (L.map (·.1)) o = (closeP (L.map (·.1)) o.a).1 by unfold doP; rw [hk]; rfl)
  have HB := Lib.hid hB0
  have HBw := Lib.hid hB
  clear hT hR hM hI hn hB hs b0 T0 hB0 hl hlM ga
  unfold ChPost1 at PC
  unfold RefPost1 at RC
  generalize closeP (L.map (·.1)) o.a = r at *
  generalize doP (L.map (·.1)) o = D at *
  obtain rfl := DP.out
  obtain ⟨ok, oa, ob, on⟩ := o
  have hk : ok = 3 := hk
  subst hk
  unfold DoPost
  have q0 : (w.alloc (.cells #[.int .i64 3, .int .i64 oa, .int .i64 ob, .string on] oT)).cell? ⟨w.heap.size, 0, none⟩ = some (.int .i64 3) := Q.out.cell 0
  have q1 : (w.alloc (.cells #[.int .i64 3, .int .i64 oa, .int .i64 ob, .string on] oT)).cell? ⟨w.heap.size, 1, none⟩ = some (.int .i64 oa) := Q.out.cell 1
  have q2 : (w.alloc (.cells #[.int .i64 3, .int .i64 oa, .int .i64 ob, .string on] oT)).cell? ⟨w.heap.size, 2, none⟩ = some (.int .i64 ob) := Q.out.cell 2
  have q3 : (w.alloc (.cells #[.int .i64 3, .int .i64 oa, .int .i64 ob, .string on] oT)).cell? ⟨w.heap.size, 3, none⟩ = some (.string on) := Q.out.cell 3
  obtain ⟨A, c, rfl⟩ := row_form R0.out.rows
  go_enter Try.func25, Try.ntmps25
  go_wp2_with fail
  refine PC.out.mono ?_
  rintro e w1 ⟨v1, L1, rfl, hL1, hT1, hK1⟩
  have T1 := Lib.hid hT1
  have K1 := Lib.hid hK1
  have E1 := Lib.hid hL1
  have Q1 := Lib.hid (hK1.whole Q.out (by decide) (by decide) (by decide))
  have R1 := Lib.hid (RC.out w1 (hK1.rows R0.out) (Nat.le_trans HB.out hK1.size))
  have s1 : w1.cell? ⟨w.heap.size, 1, none⟩ = some (.int .i64 oa) := Q1.out.cell 1
  have s2 : w1.cell? ⟨w.heap.size, 2, none⟩ = some (.int .i64 ob) := Q1.out.cell 2
  have s3 : w1.cell? ⟨w.heap.size, 3, none⟩ = some (.string on) := Q1.out.cell 3
  have s0 : w1.cell? ⟨w.heap.size, 0, none⟩ = some (.int .i64 3) := Q1.out.cell 0
  clear hT1 hK1 hL1 PC RC R0 q0 q1 q2 q3 Q
  go_wp2_with fail
  refine R1.out.mono ?_
  rintro e w2 ⟨u2, M2, rfl, hM2, hR2, hb2⟩
  have T2 := Lib.hid (T1.out.below hb2)
  have K2 := Lib.hid (((KeptT.ofBelow (B := B) BA.out).trans K1.out).trans (KeptT.ofBelow hb2))
  have R2 := Lib.hid hR2
  have E2 := Lib.hid hM2
  clear hR2 hb2 hM2 R1 s0 s1 s2 s3 T1 K1 Q1
  go_wp2_with fail
  go_ret2
  exact ⟨v1, L1, u2, M2, rfl, E1.out, E2.out, T2.out, R2.out, K2.out⟩

set_option maxHeartbeats 16000000 in
set_option maxRecDepth 100000 in
theorem do_pointer (p B : Nat) (v u : Value) (L M : List Tx) (n : Nat) (o : OpT) (w : World) (hT : TabAt w B p v L) (hR : RowsX rT rF w B u M) (hM : M.map (·.1) = L.map (·.1)) (hI : Inv n (L.map (·.1))) (hn : n ≤ 100) (hB : B ≤ w.heap.size) (hs : o.name.size ≤ 140737488355328) (hk : o.kind = 4) :
    Calls Try.prog 25 #[.pointer (some ⟨p, 0, none⟩), u, .agg #[.int .i64 o.kind, .int .i64 o.a, .int .i64 o.b, .string o.name]] w (DoPost B p w (doP (L.map (·.1)) o)) := by
  have hl : L.length ≤ 4096 := by have := hI.len; rw [List.length_map] at this; omega
  have hlM : M.length ≤ 4096 := by have h1 := congrArg List.length hM; rw [List.length_map, List.length_map] at h1; omega
  have b0 := (Below.refl w.heap.size w).alloc (Nat.le_refl _) (.cells #[.int .i64 o.kind, .int .i64 o.a, .int .i64 o.b, .string o.name] oT)
  have T0 := hT.below b0
  have R0 := Lib.hid (hR.below b0)
  have Q := Lib.hid (Whole.made w oT #[.int .i64 o.kind, .int .i64 o.a, .int .i64 o.b, .string o.name] _ rfl)
  have hB0 := Nat.le_trans hB b0.size
  have ga := hI.get o.a
  have PC := Lib.hid (pointer_any p B v L o.a _ T0 hB0 hl)
  have RC := Lib.hid (fun (w1 : World) (h : RowsX rT rF w1 B u M) (hb : B ≤ w1.heap.size) => refpointer_any B u M o.a w1 h hb hlM)
  rw [hM] at RC
  have BA := Lib.hid b0
  have DP := Lib.hid (show doP (L.map (·.1)) o = (pointerP (L.map (·.1)) o.a).1 by unfold doP; rw [hk]; rfl)
  have HB := Lib.hid hB0
  have HBw := Lib.hid hB
  clear hT hR hM hI hn hB hs b0 T0 hB0 hl hlM ga
  unfold ChPost at PC
  unfold RefPost at RC
  generalize pointerP (L.map (·.1)) o.a = r at *
  generalize doP (L.map (·.1)) o = D at *
  obtain rfl := DP.out
  obtain ⟨ok, oa, ob, on⟩ := o
  have hk : ok = 4 := hk
  subst hk
  unfold DoPost
  have q0 : (w.alloc (.cells #[.int .i64 4, .int .i64 oa, .int .i64 ob, .string on] oT)).cell? ⟨w.heap.size, 0, none⟩ = some (.int .i64 4) := Q.out.cell 0
  have q1 : (w.alloc (.cells #[.int .i64 4, .int .i64 oa, .int .i64 ob, .string on] oT)).cell? ⟨w.heap.size, 1, none⟩ = some (.int .i64 oa) := Q.out.cell 1
  have q2 : (w.alloc (.cells #[.int .i64 4, .int .i64 oa, .int .i64 ob, .string on] oT)).cell? ⟨w.heap.size, 2, none⟩ = some (.int .i64 ob) := Q.out.cell 2
  have q3 : (w.alloc (.cells #[.int .i64 4, .int .i64 oa, .int .i64 ob, .string on] oT)).cell? ⟨w.heap.size, 3, none⟩ = some (.string on) := Q.out.cell 3
  obtain ⟨A, c, rfl⟩ := row_form R0.out.rows
  go_enter Try.func25, Try.ntmps25
  go_wp2_with fail
  refine PC.out.mono ?_
  rintro e w1 ⟨v1, L1, rfl, hL1, hT1, hK1⟩
  have T1 := Lib.hid hT1
  have K1 := Lib.hid hK1
  have E1 := Lib.hid hL1
  have Q1 := Lib.hid (hK1.whole Q.out (by decide) (by decide) (by decide))
  have R1 := Lib.hid (RC.out w1 (hK1.rows R0.out) (Nat.le_trans HB.out hK1.size))
  have s1 : w1.cell? ⟨w.heap.size, 1, none⟩ = some (.int .i64 oa) := Q1.out.cell 1
  have s2 : w1.cell? ⟨w.heap.size, 2, none⟩ = some (.int .i64 ob) := Q1.out.cell 2
  have s3 : w1.cell? ⟨w.heap.size, 3, none⟩ = some (.string on) := Q1.out.cell 3
  have s0 : w1.cell? ⟨w.heap.size, 0, none⟩ = some (.int .i64 4) := Q1.out.cell 0
  clear hT1 hK1 hL1 PC RC R0 q0 q1 q2 q3 Q
  go_wp2_with fail
  refine R1.out.mono ?_
  rintro e w2 ⟨u2, M2, rfl, hM2, hR2, hb2⟩
  have T2 := Lib.hid (T1.out.below hb2)
  have K2 := Lib.hid (((KeptT.ofBelow (B := B) BA.out).trans K1.out).trans (KeptT.ofBelow hb2))
  have R2 := Lib.hid hR2
  have E2 := Lib.hid hM2
  clear hR2 hb2 hM2 R1 s0 s1 s2 s3 T1 K1 Q1
  go_wp2_with fail
  go_ret2
  exact ⟨v1, L1, u2, M2, rfl, E1.out, E2.out, T2.out, R2.out, K2.out⟩
end Go.Proofs.Ytabkldahgjicbaa
