/- Scan: the program's take, reject; what a call of the scanner's leaves. -/
import Derived.Test.YtbkagnhficmdhaaDoorScnF
import Derived.Test.YtbkagnhficmdhaaDoorBlocks
namespace Go.Proofs.YtbkagnhficmdhaaDoor
open Go.ChangeShapes Go.WideShapes Go.ChangeAt Go.RowKit
set_option linter.unusedVariables false
set_option linter.unusedSimpArgs false

/-- All that was there stands, but block g. -/
structure Sv (g : Nat) (w w' : World) : Prop where
  os : w'.os = w.os
  tape : w'.tape = w.tape
  output : w'.output = w.output
  size : w.heap.size ≤ w'.heap.size
  block : ∀ k, k < w.heap.size → k ≠ g → w'.heap[k]? = w.heap[k]?

section
variable {g : Nat} {w x y : World}

theorem Sv.refl (g : Nat) (w : World) : Sv g w w := ⟨rfl, rfl, rfl, Nat.le_refl _, fun _ _ _ => rfl⟩

theorem Sv.trans (h : Sv g w x) (k : Sv g x y) : Sv g w y :=
  ⟨k.os.trans h.os, k.tape.trans h.tape, k.output.trans h.output, Nat.le_trans h.size k.size, fun i hi hn => (k.block i (Nat.lt_of_lt_of_le hi h.size) hn).trans (h.block i hi hn)⟩

theorem Sv.of_below {B : Nat} (h : Below B w x) (hB : w.heap.size ≤ B) : Sv g w x := ⟨h.os, h.tape, h.output, h.size, fun k hk _ => h.block k (Nat.lt_of_lt_of_le hk hB)⟩

/-- The same, told at the block's own first place: what is written at g or behind w's end. -/
theorem Sv.below {B : Nat} (h : Sv g w x) (hg : B ≤ g) (hB : B ≤ w.heap.size) : Below B w x :=
  ⟨h.os, h.tape, h.output, h.size, fun k hk => h.block k (Nat.lt_of_lt_of_le hk hB) (by omega)⟩

theorem Sv.alloc (h : Sv g w x) (o : Obj) : Sv g w (x.alloc o) := h.trans (.of_below ((Below.refl x.heap.size x).alloc (Nat.le_refl _) o) (Nat.le_refl _))

theorem Sv.drawn (h : Sv g w x) (n : Nat) : Sv g w (x.drewN n) := ⟨h.os, h.tape, h.output, h.size, h.block⟩

theorem Sv.drew (h : Sv g w x) : Sv g w x.drew := ⟨h.os, h.tape, h.output, h.size, h.block⟩

theorem Sv.setAt (h : Sv g w x) (p : Addr) (u : Value) (hp : p.block = g ∨ w.heap.size ≤ p.block) : Sv g w (x.setCell p u) := by
  have hb := (Below.refl p.block x).setCell (Nat.le_refl _) u
  refine ⟨hb.os.trans h.os, hb.tape.trans h.tape, hb.output.trans h.output, Nat.le_trans h.size hb.size, fun k hk hn => ?_⟩
  rw [Below.heap_setCell x p u k (by rcases hp with h | h <;> omega)]
  exact h.block k hk hn

theorem Sv.set5 (h : Sv g w x) (b : Nat) (hb : w.heap.size ≤ b) (u0 u1 u2 u3 u4 : Value) : Sv g w (((((x.setCell ⟨b, 0, none⟩ u0).setCell ⟨b, 1, none⟩ u1).setCell ⟨b, 2, none⟩ u2).setCell ⟨b, 3, none⟩ u3).setCell ⟨b, 4, none⟩ u4) :=
  ((((h.setAt _ _ (.inr hb)).setAt _ _ (.inr hb)).setAt _ _ (.inr hb)).setAt _ _ (.inr hb)).setAt _ _ (.inr hb)

theorem Whole.far5 {t : TypeId} {cs : Array Value} (h : Whole w g t cs) (b : Nat) (hb : g ≠ b) (u0 u1 u2 u3 u4 : Value) : Whole (((((w.setCell ⟨b, 0, none⟩ u0).setCell ⟨b, 1, none⟩ u1).setCell ⟨b, 2, none⟩ u2).setCell ⟨b, 3, none⟩ u3).setCell ⟨b, 4, none⟩ u4) g t cs :=
  ((((h.far (p := ⟨b, 0, none⟩) hb u0).far (p := ⟨b, 1, none⟩) hb u1).far (p := ⟨b, 2, none⟩) hb u2).far (p := ⟨b, 3, none⟩) hb u3).far (p := ⟨b, 4, none⟩) hb u4

theorem Sv.whole {b : Nat} {t : TypeId} {cs : Array Value} (h : Sv g w x) (hw : Whole w b t cs) (hg : b ≠ g) : Whole x b t cs := (h.block b hw.lt hg).trans hw
end

/-- What a call of the scanner's leaves: a sign, an error, the scanner behind it. -/
def ScPost (w : World) (g : Nat) (s : ByteArray) (r : Sgn × Int) (e : Ending) (w' : World) : Prop :=
  e = .returned (.tuple #[sgnV r.1, .int .i64 r.2]) ∧ Sv g w w' ∧ Whole w' g scT #[.string s, .int .i64 r.1.to]

abbrev gsT : TypeId := 32

theorem clone_any (s : ByteArray) (w : World) (hs : s.size ≤ 1000000) : Calls Tryd.prog 17 #[.string s] w fun e w' => e = .returned (.string s) ∧ Below w.heap.size w w' := by
  have C := Lib.hid (Tryd.stringslite_Clone s w (by omega))
  go_enter Tryd.func17, Tryd.ntmps17
  go_wp2_with fail
  refine C.out.mono ?_
  rintro e w1 ⟨rfl, hb⟩
  go_wp2_with fail
  go_ret
  exact ⟨rfl, hb⟩

theorem Whole.size_set (w : World) (p : Addr) (u : Value) : (w.setCell p u).heap.size = w.heap.size := by simp

set_option maxHeartbeats 4000000 in
set_option maxRecDepth 100000 in
theorem reject_any (s : ByteArray) (g a t : Nat) (c : Int) (w : World) (hQ : Whole w g scT #[.string s, .int .i64 a]) : Calls Tryd.prog 19 #[.pointer (some ⟨g, 0, none⟩), .int .i64 t, .int .i64 c] w (ScPost w g s (badS a t, c)) := by
  have hg := hQ.lt
  have a1 : (w.alloc (.cells #[.int .i64 0, .int .i64 0, .int .i64 0, .string ⟨#[]⟩, .int .i32 0] gsT)).cell? ⟨g, 1, none⟩ = some (.int .i64 a) := (hQ.alloc _).cell 1
  have b1 := (hQ.alloc (.cells #[.int .i64 0, .int .i64 0, .int .i64 0, .string ⟨#[]⟩, .int .i32 0] gsT)).free 1
  have hz : (w.setCell ⟨g, 1, none⟩ (.int .i64 t)).heap.size = w.heap.size := Whole.size_set _ _ _
  have A2 := Lib.hid (show Whole ((w.setCell ⟨g, 1, none⟩ (.int .i64 t)).alloc (.cells #[.int .i64 7, .int .i64 a, .int .i64 t, .string ⟨#[]⟩, .int .i32 0] gsT)) g scT #[.string s, .int .i64 t] from (hQ.store 1 (.int .i64 t)).alloc _)
  have c0 : ((w.setCell ⟨g, 1, none⟩ (.int .i64 t)).alloc (.cells #[.int .i64 7, .int .i64 a, .int .i64 t, .string ⟨#[]⟩, .int .i32 0] gsT)).cell? ⟨g, 0, none⟩ = some (.string s) := A2.out.cell 0
  have Z2 := Lib.hid (show Whole ((w.setCell ⟨g, 1, none⟩ (.int .i64 t)).alloc (.cells #[.int .i64 7, .int .i64 a, .int .i64 t, .string ⟨#[]⟩, .int .i32 0] gsT)) w.heap.size gsT #[.int .i64 7, .int .i64 a, .int .i64 t, .string ⟨#[]⟩, .int .i32 0] from by rw [← hz]; exact Whole.made _ _ _ _ rfl)
  have V2 := Lib.hid (show Sv g w ((w.setCell ⟨g, 1, none⟩ (.int .i64 t)).alloc (.cells #[.int .i64 7, .int .i64 a, .int .i64 t, .string ⟨#[]⟩, .int .i32 0] gsT)) from ((Sv.refl g w).setAt ⟨g, 1, none⟩ (.int .i64 t) (.inl rfl)).alloc _)
  clear hz
  have q0 : ((w.setCell ⟨g, 1, none⟩ (.int .i64 t)).alloc (.cells #[.int .i64 7, .int .i64 a, .int .i64 t, .string ⟨#[]⟩, .int .i32 0] gsT)).cell? ⟨w.heap.size, 0, none⟩ = some (.int .i64 7) := Z2.out.cell 0
  have q1 : ((w.setCell ⟨g, 1, none⟩ (.int .i64 t)).alloc (.cells #[.int .i64 7, .int .i64 a, .int .i64 t, .string ⟨#[]⟩, .int .i32 0] gsT)).cell? ⟨w.heap.size, 1, none⟩ = some (.int .i64 a) := Z2.out.cell 1
  have q2 : ((w.setCell ⟨g, 1, none⟩ (.int .i64 t)).alloc (.cells #[.int .i64 7, .int .i64 a, .int .i64 t, .string ⟨#[]⟩, .int .i32 0] gsT)).cell? ⟨w.heap.size, 2, none⟩ = some (.int .i64 t) := Z2.out.cell 2
  have q3 : ((w.setCell ⟨g, 1, none⟩ (.int .i64 t)).alloc (.cells #[.int .i64 7, .int .i64 a, .int .i64 t, .string ⟨#[]⟩, .int .i32 0] gsT)).cell? ⟨w.heap.size, 3, none⟩ = some (.string ⟨#[]⟩) := Z2.out.cell 3
  have q4 : ((w.setCell ⟨g, 1, none⟩ (.int .i64 t)).alloc (.cells #[.int .i64 7, .int .i64 a, .int .i64 t, .string ⟨#[]⟩, .int .i32 0] gsT)).cell? ⟨w.heap.size, 4, none⟩ = some (.int .i32 0) := Z2.out.cell 4
  unfold ScPost
  go_enter Tryd.func19, Tryd.ntmps19
  go_wp2_with fail
  generalize ((w.setCell ⟨g, 1, none⟩ (.int .i64 t)).alloc (.cells #[.int .i64 7, .int .i64 a, .int .i64 t, .string ⟨#[]⟩, .int .i32 0] gsT)) = W at *
  refine bodyPost_ret (v := .tuple #[sgnV (badS a t), .int .i64 c]) ?_ rfl ⟨rfl, V2.out, A2.out⟩
  simp [results, Tryd.results19, go_sem, q0, q1, q2, q3, q4, badS]

set_option maxHeartbeats 4000000 in
set_option maxRecDepth 100000 in
theorem take_any (s : ByteArray) (g a t : Nat) (k n : Int) (w : World) (hQ : Whole w g scT #[.string s, .int .i64 a]) (hs : s.size ≤ 1000000) (hat : a ≤ t) (ht : t ≤ s.size) : Calls Tryd.prog 20 #[.pointer (some ⟨g, 0, none⟩), .int .i64 k, .int .i64 t, .int .i32 n] w (ScPost w g s (⟨k, a, t, s.extract a t, n⟩, 0)) := by
  have hg := hQ.lt
  have a1 : (w.alloc (.cells #[.int .i64 0, .int .i64 0, .int .i64 0, .string ⟨#[]⟩, .int .i32 0] gsT)).cell? ⟨g, 1, none⟩ = some (.int .i64 a) := (hQ.alloc _).cell 1
  have b1 := (hQ.alloc (.cells #[.int .i64 0, .int .i64 0, .int .i64 0, .string ⟨#[]⟩, .int .i32 0] gsT)).free 1
  have hz : (w.setCell ⟨g, 1, none⟩ (.int .i64 t)).heap.size = w.heap.size := Whole.size_set _ _ _
  have A2 := Lib.hid (show Whole ((w.setCell ⟨g, 1, none⟩ (.int .i64 t)).alloc (.cells #[.int .i64 0, .int .i64 0, .int .i64 0, .string ⟨#[]⟩, .int .i32 0] gsT)) g scT #[.string s, .int .i64 t] from (hQ.store 1 (.int .i64 t)).alloc _)
  have c0 : ((w.setCell ⟨g, 1, none⟩ (.int .i64 t)).alloc (.cells #[.int .i64 0, .int .i64 0, .int .i64 0, .string ⟨#[]⟩, .int .i32 0] gsT)).cell? ⟨g, 0, none⟩ = some (.string s) := A2.out.cell 0
  have Z2 := Lib.hid (show Whole ((w.setCell ⟨g, 1, none⟩ (.int .i64 t)).alloc (.cells #[.int .i64 0, .int .i64 0, .int .i64 0, .string ⟨#[]⟩, .int .i32 0] gsT)) w.heap.size gsT #[.int .i64 0, .int .i64 0, .int .i64 0, .string ⟨#[]⟩, .int .i32 0] from by rw [← hz]; exact Whole.made _ _ _ _ rfl)
  have V2 := Lib.hid (show Sv g w ((w.setCell ⟨g, 1, none⟩ (.int .i64 t)).alloc (.cells #[.int .i64 0, .int .i64 0, .int .i64 0, .string ⟨#[]⟩, .int .i32 0] gsT)) from ((Sv.refl g w).setAt ⟨g, 1, none⟩ (.int .i64 t) (.inl rfl)).alloc _)
  clear hz
  have hx : (s.extract a t).size ≤ 1000000 := by rw [ByteArray.size_extract]; omega
  have C := Lib.hid (fun W => clone_any (s.extract a t) W hx)
  clear hx
  unfold ScPost
  go_enter Tryd.func20, Tryd.ntmps20
  go_wp2_with fail
  generalize ((w.setCell ⟨g, 1, none⟩ (.int .i64 t)).alloc (.cells #[.int .i64 0, .int .i64 0, .int .i64 0, .string ⟨#[]⟩, .int .i32 0] gsT)) = W at *
  generalize hxe : s.extract a t = x at *
  have HX := Lib.hid hxe
  clear hxe
  refine (C.out _).mono ?_
  rintro e w1 ⟨rfl, hb⟩
  have A3 := Lib.hid (A2.out.below hb A2.out.lt)
  have Z3 := Lib.hid (Z2.out.below hb Z2.out.lt)
  have V3 := Lib.hid (V2.out.trans (.of_below hb (Nat.le_refl _)))
  have q0 : w1.cell? ⟨w.heap.size, 0, none⟩ = some (.int .i64 0) := Z3.out.cell 0
  have f0 := Z3.out.free 0
  have q1 : w1.cell? ⟨w.heap.size, 1, none⟩ = some (.int .i64 0) := Z3.out.cell 1
  have f1 := Z3.out.free 1
  have q2 : w1.cell? ⟨w.heap.size, 2, none⟩ = some (.int .i64 0) := Z3.out.cell 2
  have f2 := Z3.out.free 2
  have q3 : w1.cell? ⟨w.heap.size, 3, none⟩ = some (.string ⟨#[]⟩) := Z3.out.cell 3
  have f3 := Z3.out.free 3
  have q4 : w1.cell? ⟨w.heap.size, 4, none⟩ = some (.int .i32 0) := Z3.out.cell 4
  have f4 := Z3.out.free 4
  go_wp2_with fail
  refine bodyPost_ret (v := .tuple #[sgnV ⟨k, a, t, x, n⟩, .int .i64 0]) ?_ rfl ⟨by rw [HX.out], ?_, ?_⟩
  · simp [results, Tryd.results20, go_sem, q0, q1, q2, q3, q4]
  · exact V3.out.set5 _ (Nat.le_refl _) _ _ _ _ _
  · exact A3.out.far5 _ (by omega) _ _ _ _ _

end Go.Proofs.YtbkagnhficmdhaaDoor
