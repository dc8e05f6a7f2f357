/- Konst: Two and One by any sign, both sides; the laws' arguments; the page's examples. -/
import Derived.Test.YtmgjnalijmplcaaKonG
import Derived.Test.YtmgjnalijmplcaaKonH
import Derived.Test.YtmgjnalijmplcaaKonI
import Derived.Test.YtmgjnalijmplcaaKonI2
import Derived.Test.YtmgjnalijmplcaaKonI3
import Derived.Test.YtmgjnalijmplcaaKonI4
import Derived.Test.YtmgjnalijmplcaaKonT
import Derived.Deep.Slices
namespace Go.Proofs.Ytmgjnalijmplcaa
open Go.ChangeShapes Go.WideShapes Go.ChangeAt Go.RowKit
set_option linter.unusedVariables false
set_option linter.unusedSimpArgs false

theorem lit_of {s : ByteArray} {l : List UInt8} (h : (s.toList == l) = true) : s = ⟨l.toArray⟩ := by
  rw [ByteArray.toList_eq] at h
  obtain ⟨⟨x⟩⟩ := s
  have : x = l := by simpa using h
  rw [this]

/-- The number of a sign of two. -/
def sig2 (s : ByteArray) : Nat :=
  if (s.toList == [43]) = true then 0
  else if (s.toList == [45]) = true then 1
  else if (s.toList == [42]) = true then 2
  else if (s.toList == [68, 73, 86]) = true then 3
  else if (s.toList == [77, 79, 68]) = true then 4
  else if (s.toList == [65, 78, 68]) = true then 5
  else if (s.toList == [79, 82]) = true then 6
  else if (s.toList == [61]) = true then 7
  else if (s.toList == [35]) = true then 8
  else if (s.toList == [60]) = true then 9
  else if (s.toList == [60, 61]) = true then 10
  else if (s.toList == [62]) = true then 11
  else if (s.toList == [62, 61]) = true then 12
  else 13

/-- The number of a sign of one. -/
def sig1 (s : ByteArray) : Nat :=
  if (s.toList == [45]) = true then 0
  else if (s.toList == [78, 79, 84]) = true then 1
  else if (s.toList == [79, 68, 68]) = true then 2
  else if (s.toList == [79, 82, 68]) = true then 3
  else if (s.toList == [67, 72, 82]) = true then 4
  else 5

set_option maxRecDepth 100000 in
theorem two_any (s : ByteArray) (t1 n1 t2 n2 : Int) (w : World) (n0 : -2147483648 ≤ n1) (n3 : n1 ≤ 2147483647) : Calls Try.prog 9 #[.string s, .agg #[.int .i64 t1, .int .i32 n1], .agg #[.int .i64 t2, .int .i32 n2]] w fun e w' => e = .returned (kR (twoP (sig2 s) t1 n1 t2 n2)) ∧ Below w.heap.size w w' := by
  cases h0 : (s.toList == [43])
  case true =>
    obtain rfl := lit_of h0
    rw [show sig2 ⟨([43] : List UInt8).toArray⟩ = 0 from by decide +kernel]
    exact two_0 t1 n1 t2 n2 w n0 n3
  cases h1 : (s.toList == [45])
  case true =>
    obtain rfl := lit_of h1
    rw [show sig2 ⟨([45] : List UInt8).toArray⟩ = 1 from by decide +kernel]
    exact two_1 t1 n1 t2 n2 w n0 n3
  cases h2 : (s.toList == [42])
  case true =>
    obtain rfl := lit_of h2
    rw [show sig2 ⟨([42] : List UInt8).toArray⟩ = 2 from by decide +kernel]
    exact two_2 t1 n1 t2 n2 w n0 n3
  cases h3 : (s.toList == [68, 73, 86])
  case true =>
    obtain rfl := lit_of h3
    rw [show sig2 ⟨([68, 73, 86] : List UInt8).toArray⟩ = 3 from by decide +kernel]
    exact two_3 t1 n1 t2 n2 w n0 n3
  cases h4 : (s.toList == [77, 79, 68])
  case true =>
    obtain rfl := lit_of h4
    rw [show sig2 ⟨([77, 79, 68] : List UInt8).toArray⟩ = 4 from by decide +kernel]
    exact two_4 t1 n1 t2 n2 w n0 n3
  cases h5 : (s.toList == [65, 78, 68])
  case true =>
    obtain rfl := lit_of h5
    rw [show sig2 ⟨([65, 78, 68] : List UInt8).toArray⟩ = 5 from by decide +kernel]
    exact two_5 t1 n1 t2 n2 w n0 n3
  cases h6 : (s.toList == [79, 82])
  case true =>
    obtain rfl := lit_of h6
    rw [show sig2 ⟨([79, 82] : List UInt8).toArray⟩ = 6 from by decide +kernel]
    exact two_6 t1 n1 t2 n2 w n0 n3
  cases h7 : (s.toList == [61])
  case true =>
    obtain rfl := lit_of h7
    rw [show sig2 ⟨([61] : List UInt8).toArray⟩ = 7 from by decide +kernel]
    exact two_7 t1 n1 t2 n2 w n0 n3
  cases h8 : (s.toList == [35])
  case true =>
    obtain rfl := lit_of h8
    rw [show sig2 ⟨([35] : List UInt8).toArray⟩ = 8 from by decide +kernel]
    exact two_8 t1 n1 t2 n2 w n0 n3
  cases h9 : (s.toList == [60])
  case true =>
    obtain rfl := lit_of h9
    rw [show sig2 ⟨([60] : List UInt8).toArray⟩ = 9 from by decide +kernel]
    exact two_9 t1 n1 t2 n2 w n0 n3
  cases h10 : (s.toList == [60, 61])
  case true =>
    obtain rfl := lit_of h10
    rw [show sig2 ⟨([60, 61] : List UInt8).toArray⟩ = 10 from by decide +kernel]
    exact two_10 t1 n1 t2 n2 w n0 n3
  cases h11 : (s.toList == [62])
  case true =>
    obtain rfl := lit_of h11
    rw [show sig2 ⟨([62] : List UInt8).toArray⟩ = 11 from by decide +kernel]
    exact two_11 t1 n1 t2 n2 w n0 n3
  cases h12 : (s.toList == [62, 61])
  case true =>
    obtain rfl := lit_of h12
    rw [show sig2 ⟨([62, 61] : List UInt8).toArray⟩ = 12 from by decide +kernel]
    exact two_12 t1 n1 t2 n2 w n0 n3
  rw [show sig2 s = 13 from by unfold sig2; rw [h0, h1, h2, h3, h4, h5, h6, h7, h8, h9, h10, h11, h12]; rfl]
  exact two_none s t1 n1 t2 n2 w h0 h1 h2 h3 h4 h5 h6 h7 h8 h9 h10 h11 h12

set_option maxRecDepth 100000 in
theorem reftwo_any (s : ByteArray) (t1 n1 t2 n2 : Int) (w : World) (n0 : -2147483648 ≤ n1) (n3 : n1 ≤ 2147483647) (n4 : -2147483648 ≤ n2) (n5 : n2 ≤ 2147483647) : Calls Try.prog 10 #[.string s, .agg #[.int .i64 t1, .int .i32 n1], .agg #[.int .i64 t2, .int .i32 n2]] w fun e w' => e = .returned (kR (twoP (sig2 s) t1 n1 t2 n2)) ∧ Below w.heap.size w w' := by
  cases h0 : (s.toList == [43])
  case true =>
    obtain rfl := lit_of h0
    rw [show sig2 ⟨([43] : List UInt8).toArray⟩ = 0 from by decide +kernel]
    exact reftwo_0 t1 n1 t2 n2 w n0 n3 n4 n5
  cases h1 : (s.toList == [45])
  case true =>
    obtain rfl := lit_of h1
    rw [show sig2 ⟨([45] : List UInt8).toArray⟩ = 1 from by decide +kernel]
    exact reftwo_1 t1 n1 t2 n2 w n0 n3 n4 n5
  cases h2 : (s.toList == [42])
  case true =>
    obtain rfl := lit_of h2
    rw [show sig2 ⟨([42] : List UInt8).toArray⟩ = 2 from by decide +kernel]
    exact reftwo_2 t1 n1 t2 n2 w n0 n3 n4 n5
  cases h3 : (s.toList == [68, 73, 86])
  case true =>
    obtain rfl := lit_of h3
    rw [show sig2 ⟨([68, 73, 86] : List UInt8).toArray⟩ = 3 from by decide +kernel]
    exact reftwo_3 t1 n1 t2 n2 w n0 n3 n4 n5
  cases h4 : (s.toList == [77, 79, 68])
  case true =>
    obtain rfl := lit_of h4
    rw [show sig2 ⟨([77, 79, 68] : List UInt8).toArray⟩ = 4 from by decide +kernel]
    exact reftwo_4 t1 n1 t2 n2 w n0 n3 n4 n5
  cases h5 : (s.toList == [65, 78, 68])
  case true =>
    obtain rfl := lit_of h5
    rw [show sig2 ⟨([65, 78, 68] : List UInt8).toArray⟩ = 5 from by decide +kernel]
    exact reftwo_5 t1 n1 t2 n2 w n0 n3 n4 n5
  cases h6 : (s.toList == [79, 82])
  case true =>
    obtain rfl := lit_of h6
    rw [show sig2 ⟨([79, 82] : List UInt8).toArray⟩ = 6 from by decide +kernel]
    exact reftwo_6 t1 n1 t2 n2 w n0 n3 n4 n5
  cases h7 : (s.toList == [61])
  case true =>
    obtain rfl := lit_of h7
    rw [show sig2 ⟨([61] : List UInt8).toArray⟩ = 7 from by decide +kernel]
    exact reftwo_7 t1 n1 t2 n2 w n0 n3 n4 n5
  cases h8 : (s.toList == [35])
  case true =>
    obtain rfl := lit_of h8
    rw [show sig2 ⟨([35] : List UInt8).toArray⟩ = 8 from by decide +kernel]
    exact reftwo_8 t1 n1 t2 n2 w n0 n3 n4 n5
  cases h9 : (s.toList == [60])
  case true =>
    obtain rfl := lit_of h9
    rw [show sig2 ⟨([60] : List UInt8).toArray⟩ = 9 from by decide +kernel]
    exact reftwo_9 t1 n1 t2 n2 w n0 n3 n4 n5
  cases h10 : (s.toList == [60, 61])
  case true =>
    obtain rfl := lit_of h10
    rw [show sig2 ⟨([60, 61] : List UInt8).toArray⟩ = 10 from by decide +kernel]
    exact reftwo_10 t1 n1 t2 n2 w n0 n3 n4 n5
  cases h11 : (s.toList == [62])
  case true =>
    obtain rfl := lit_of h11
    rw [show sig2 ⟨([62] : List UInt8).toArray⟩ = 11 from by decide +kernel]
    exact reftwo_11 t1 n1 t2 n2 w n0 n3 n4 n5
  cases h12 : (s.toList == [62, 61])
  case true =>
    obtain rfl := lit_of h12
    rw [show sig2 ⟨([62, 61] : List UInt8).toArray⟩ = 12 from by decide +kernel]
    exact reftwo_12 t1 n1 t2 n2 w n0 n3 n4 n5
  rw [show sig2 s = 13 from by unfold sig2; rw [h0, h1, h2, h3, h4, h5, h6, h7, h8, h9, h10, h11, h12]; rfl]
  exact reftwo_none s t1 n1 t2 n2 w h0 h1 h2 h3 h4 h5 h6 h7 h8 h9 h10 h11 h12

set_option maxRecDepth 100000 in
theorem one_any (s : ByteArray) (t n : Int) (w : World) (n0 : -2147483648 ≤ n) (n1 : n ≤ 2147483647) : Calls Try.prog 12 #[.string s, .agg #[.int .i64 t, .int .i32 n]] w fun e w' => e = .returned (kR (oneP (sig1 s) t n)) ∧ Below w.heap.size w w' := by
  cases h0 : (s.toList == [45])
  case true =>
    obtain rfl := lit_of h0
    rw [show sig1 ⟨([45] : List UInt8).toArray⟩ = 0 from by decide +kernel]
    exact one_0 t n w
  cases h1 : (s.toList == [78, 79, 84])
  case true =>
    obtain rfl := lit_of h1
    rw [show sig1 ⟨([78, 79, 84] : List UInt8).toArray⟩ = 1 from by decide +kernel]
    exact one_1 t n w
  cases h2 : (s.toList == [79, 68, 68])
  case true =>
    obtain rfl := lit_of h2
    rw [show sig1 ⟨([79, 68, 68] : List UInt8).toArray⟩ = 2 from by decide +kernel]
    exact one_2 t n w
  cases h3 : (s.toList == [79, 82, 68])
  case true =>
    obtain rfl := lit_of h3
    rw [show sig1 ⟨([79, 82, 68] : List UInt8).toArray⟩ = 3 from by decide +kernel]
    exact one_3 t n w
  cases h4 : (s.toList == [67, 72, 82])
  case true =>
    obtain rfl := lit_of h4
    rw [show sig1 ⟨([67, 72, 82] : List UInt8).toArray⟩ = 4 from by decide +kernel]
    exact one_4 t n w n0 n1
  rw [show sig1 s = 5 from by unfold sig1; rw [h0, h1, h2, h3, h4]; rfl]
  exact one_none s t n w h0 h1 h2 h3 h4

set_option maxRecDepth 100000 in
theorem refone_any (s : ByteArray) (t n : Int) (w : World) (n0 : -2147483648 ≤ n) (n1 : n ≤ 2147483647) : Calls Try.prog 13 #[.string s, .agg #[.int .i64 t, .int .i32 n]] w fun e w' => e = .returned (kR (oneP (sig1 s) t n)) ∧ Below w.heap.size w w' := by
  cases h0 : (s.toList == [45])
  case true =>
    obtain rfl := lit_of h0
    rw [show sig1 ⟨([45] : List UInt8).toArray⟩ = 0 from by decide +kernel]
    exact refone_0 t n w n0 n1
  cases h1 : (s.toList == [78, 79, 84])
  case true =>
    obtain rfl := lit_of h1
    rw [show sig1 ⟨([78, 79, 84] : List UInt8).toArray⟩ = 1 from by decide +kernel]
    exact refone_1 t n w n0 n1
  cases h2 : (s.toList == [79, 68, 68])
  case true =>
    obtain rfl := lit_of h2
    rw [show sig1 ⟨([79, 68, 68] : List UInt8).toArray⟩ = 2 from by decide +kernel]
    exact refone_2 t n w n0 n1
  cases h3 : (s.toList == [79, 82, 68])
  case true =>
    obtain rfl := lit_of h3
    rw [show sig1 ⟨([79, 82, 68] : List UInt8).toArray⟩ = 3 from by decide +kernel]
    exact refone_3 t n w n0 n1
  cases h4 : (s.toList == [67, 72, 82])
  case true =>
    obtain rfl := lit_of h4
    rw [show sig1 ⟨([67, 72, 82] : List UInt8).toArray⟩ = 4 from by decide +kernel]
    exact refone_4 t n w n0 n1
  rw [show sig1 s = 5 from by unfold sig1; rw [h0, h1, h2, h3, h4]; rfl]
  exact refone_none s t n w h0 h1 h2 h3 h4

theorem open_kv {H : Type} {enc : TypeId × Value → H} {P : Program} {w : World} {r : Reach} {b0 : Nat} {v : Value} {d : DataW H} {ps : List MemPlace} {e : TypeId} {f0 f1 : Field} (he : P.underlying e = some (.struct #[f0, f1])) (ce : P.cellsOf e = 2)
    (o0 : f0.offset = 0) (o1 : f1.offset = 1) (c0 : P.cellsOf f0.type = 1) (c1 : P.cellsOf f1.type = 1)
    (u0 : P.underlying f0.type = some (.int .i64)) (u1 : P.underlying f1.type = some (.int .i32))
    (hval : Value.okWide P w r b0 e v) (hd : DataW.Trod enc P w 0 (fun _ => true) true e v d ps) :
    ∃ t n : Int, v = .agg #[.int .i64 t, .int .i32 n] ∧ (Lit.int .i64 t).wf = true ∧ (Lit.int .i32 n).wf = true := by
  obtain ⟨cs, rfl, hsz⟩ := okWide_struct he hval
  obtain ⟨fuel, hf⟩ := hd
  obtain ⟨xs, k, rfl, hxx, hcl, hxl, hat⟩ := DataW.trod_struct he hf
  rw [ce] at hcl
  match xs, hxl, cs, hcl with
  | [y0, y1], _, ⟨[v0, v1]⟩, _ =>
    have g0 := hat 0 f0 rfl
    have g1 := hat 1 f1 rfl
    simp [o0, o1, c0, c1, Value.cells] at g0 g1
    obtain ⟨z0, hz0, _, w0⟩ := DataW.trod_int u0 g0
    obtain ⟨z1, hz1, _, w1⟩ := DataW.trod_int u1 g1
    simp only [List.cons.injEq, and_true] at hz0 hz1
    exact ⟨z0, z1, by rw [hz0, hz1], w0, w1⟩

set_option maxHeartbeats 4000000 in
set_option maxRecDepth 100000 in
theorem awake10_any (w : World) : Calls Try.prog 8 #[] w fun e w' => e = .returned (.bool true) ∧ Below w.heap.size w w' := by
  have TW := Lib.hid (fun y => show Calls Try.prog 9 #[.string ⟨#[68, 73, 86]⟩, .agg #[.int .i64 1, .int .i32 (-7)], .agg #[.int .i64 1, .int .i32 2]] y fun e w' => e = .returned (.tuple #[.agg #[.int .i64 1, .int .i32 (-4)], .int .i64 0]) ∧ Below y.heap.size y w' from by
    have h := two_3 1 (-7) 1 2 y (by decide) (by decide)
    rw [show twoP 3 1 (-7) 1 2 = ⟨1, -4, 0⟩ from by kernel_rfl] at h
    exact h)
  have ON := Lib.hid (fun y => show Calls Try.prog 12 #[.string ⟨#[67, 72, 82]⟩, .agg #[.int .i64 1, .int .i32 65]] y fun e w' => e = .returned (.tuple #[.agg #[.int .i64 3, .int .i32 65], .int .i64 0]) ∧ Below y.heap.size y w' from by
    have h := one_4 1 65 y (by decide) (by decide)
    rw [show oneP 4 1 65 = ⟨3, 65, 0⟩ from by kernel_rfl] at h
    exact h)
  have TX := Lib.hid (fun y => show Calls Try.prog 16 #[.agg #[.int .i64 3, .int .i32 65]] y fun e w' => e = .returned (.string ⟨#[39, 65, 39]⟩) ∧ Below y.heap.size y w' from by
    have h := kontext_any 3 65 y (by decide) (by decide)
    rw [show konT 3 65 = ⟨#[39, 65, 39]⟩ from by decide +kernel] at h
    exact h)
  go_enter Try.func8, Try.ntmps8
  go_wp2_with fail
  refine (TW.out _).mono ?_
  rintro e w1 ⟨rfl, hb1⟩
  have B1 := Lib.hid (hb1.alloc hb1.size (.cells #[.int .i64 1, .int .i32 (-4)] kT))
  have Q1 := Lib.hid (Whole.made w1 kT #[.int .i64 1, .int .i32 (-4)] _ rfl)
  clear hb1
  go_wp2_with fail
  generalize w1.alloc (.cells #[.int .i64 1, .int .i32 (-4)] kT) = v1 at *
  generalize w1.heap.size = g1 at *
  refine (ON.out _).mono ?_
  rintro e w2 ⟨rfl, hb2⟩
  have B2 := Lib.hid ((B1.out.trans (hb2.mono B1.out.size)).alloc (Nat.le_trans B1.out.size hb2.size) (.cells #[.int .i64 3, .int .i32 65] kT))
  have Q2 := Lib.hid ((Q1.out.below hb2 Q1.out.lt).alloc (.cells #[.int .i64 3, .int .i32 65] kT))
  have R2 := Lib.hid (Whole.made w2 kT #[.int .i64 3, .int .i32 65] _ rfl)
  clear hb2
  have q0 : (w2.alloc (.cells #[.int .i64 3, .int .i32 65] kT)).cell? ⟨g1, 1, none⟩ = some (.int .i32 (-4)) := Q2.out.cell 1
  go_wp2_with fail
  refine (TX.out _).mono ?_
  rintro e w3 ⟨rfl, hb3⟩
  have B3 := Lib.hid (B2.out.trans (hb3.mono B2.out.size))
  clear hb3
  go_wp2_with fail
  go_ret
  exact ⟨rfl, B3.out⟩
end Go.Proofs.Ytmgjnalijmplcaa
