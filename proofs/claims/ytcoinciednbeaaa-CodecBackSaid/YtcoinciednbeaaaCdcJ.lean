/- Codec: the law's argument: pieces that came in; awake. -/
import Derived.Test.YtcoinciednbeaaaCdcI
import Derived.Test.YtcoinciednbeaaaOpenRow
namespace Go.Proofs.Ytcoinciednbeaaa
open Go.ChangeShapes Go.WideShapes Go.ChangeAt Go.RowKit
set_option linter.unusedVariables false
set_option linter.unusedSimpArgs false

section
variable {H : Type} {enc : TypeId × Value → H} {w : World}

instance : Inhabited Pc := ⟨⟨0, 0, ⟨#[]⟩⟩⟩

/-- What is known of a piece. -/
def PcGood (p : Pc) : Prop := (-9223372036854775808 ≤ p.n ∧ p.n ≤ 9223372036854775807) ∧ p.s.size ≤ 140737488355328

theorem pc_trod {n : Nat} {cs : List Value} {y : DataW H × List MemPlace} (h : DataW.trod enc Try.prog w 0 (fun _ => true) true n pcT cs = some y) (hz : ∀ k ∈ y.1.weights Try.prog pcT, k ≤ 140737488355328) :
    ∃ p : Pc, cs = pcCells p ∧ PcGood p := by
  obtain ⟨xs, k, rfl, rfl, hcl, hxl, hf⟩ := DataW.trod_struct Try.underlying28 h
  have hc : Try.prog.cellsOf pcT = 3 := by kernel_rfl
  have c0 : Try.prog.cellsOf 3 = 1 := by kernel_rfl
  have c1 : Try.prog.cellsOf 9 = 1 := by kernel_rfl
  rw [hc] at hcl
  match xs, hxl, cs, hcl with
  | [y0, y1, y2], _, [v0, v1, v2], _ =>
    have g0 := hf 0 _ rfl
    have g1 := hf 1 _ rfl
    have g2 := hf 2 _ rfl
    have w2 := weights_part Try.underlying28 hz (i := 2) rfl rfl
    simp [c0, c1] at g0 g1 g2
    obtain ⟨z0, hz0, _, _⟩ := DataW.trod_int Try.underlying3 g0
    obtain ⟨z1, hz1, e1, hw1⟩ := DataW.trod_int Try.underlying3 g1
    obtain ⟨s, hz2, hs, _⟩ := DataW.trod_string Try.underlying9 g2
    subst hs
    refine ⟨⟨z0, z1, s⟩, ?_, ?_, size_weight w2⟩
    · simp only [List.cons.injEq, and_true] at hz0 hz1 hz2
      rw [hz0, hz1, hz2]
      rfl
    · have m0 : IntKind.i64.min = -9223372036854775808 := by decide
      have m1 : IntKind.i64.max = 9223372036854775807 := by decide
      simp [Lit.wf] at hw1
      exact ⟨m0 ▸ hw1.1, m1 ▸ hw1.2⟩

/-- Pieces that came in. -/
def PcsIn (w : World) (A : Option Addr) (n : Nat) (f : Nat → Pc) : Prop :=
  (0 < n → ∃ b off, A = some ⟨b, off, none⟩ ∧ b < w.heap.size ∧ ∀ j, j < n → ∀ r u, (pcCells (f j))[r]? = some u → w.cell? ⟨b, off + (j * 3 + r), none⟩ = some u) ∧ ∀ j, j < n → PcGood (f j)

theorem PcsIn.below {w w' : World} {A : Option Addr} {n : Nat} {f : Nat → Pc} (h : PcsIn w A n f) (hb : Below w.heap.size w w') : PcsIn w' A n f :=
  ⟨fun hn => by
    obtain ⟨b, off, rfl, hlt, hc⟩ := h.1 hn
    exact ⟨b, off, rfl, Nat.lt_of_lt_of_le hlt hb.size, fun j hj r u hr => (hb.cell (p := ⟨b, off + (j * 3 + r), none⟩) hlt).trans (hc j hj r u hr)⟩, h.2⟩

theorem open_pcs {r : Reach} {b0 : Nat} {v : Value} {d : DataW H} {ps : List MemPlace} (hval : Value.okWide Try.prog w r b0 22 v) (hd : DataW.Trod enc Try.prog w 0 (fun _ => true) true 22 v d ps) (hz : ∀ k ∈ d.weights Try.prog 22, k ≤ 140737488355328) :
    ∃ A n c f, v = .slice A n c ∧ PcsIn w A n f ∧ n ≤ maxLen := by
  obtain ⟨a0, len, cap, rfl⟩ := okWide_slice Try.underlying22 hval
  obtain ⟨fuel, hf⟩ := hd
  obtain ⟨A, l, c, h1, h2, h3, h4, h5, h6⟩ := open_row (f := pcCells) (sz := 3) (Good := PcGood) Try.underlying22 (fun _ => rfl) (by kernel_rfl) (by decide) (fun _ _ _ h h' => pc_trod h h') hf hz
  simp [Value.cells] at h1
  obtain ⟨rfl, rfl, rfl⟩ := h1
  refine ⟨a0, l.length, cap, fun j => l.getD j default, rfl, ⟨fun hn => ?_, fun j hj => h5 _ ?_⟩, h3⟩
  · obtain ⟨b, off, e, hb, hc⟩ := h6 (fun e => by rw [e] at hn; exact absurd hn (by simp))
    refine ⟨b, off, e, hb, fun j hj r u hr => hc _ _ ?_⟩
    have h11 : r < 3 := by
      have := (List.getElem?_eq_some_iff.1 hr).1
      exact this
    rw [flat_at pcCells 3 (fun _ => rfl) default l j r hj h11]
    exact hr
  · show l.getD j default ∈ l
    rw [List.getD_eq_getElem?_getD, List.getElem?_eq_getElem hj]
    exact List.getElem_mem hj
end

set_option maxHeartbeats 2000000 in
set_option maxRecDepth 100000 in
theorem awake12_any (w : World) : Calls Try.prog 6 #[] w fun e w' => e = .returned (.bool true) ∧ Below w.heap.size w w' := by
  have A0 := Lib.hid (wrAt_new w w.heap.size w.heap.size rfl (Nat.le_refl _))
  have B0 := Lib.hid ((Below.refl w.heap.size w).alloc (Nat.le_refl _) (.cells #[.slice none 0 0] wrT))
  have C := Lib.hid (wcount_any 300 w.heap.size w.heap.size none [] _ A0.out B0.out.size (by decide) (by decide) (by decide))
  have E1 : [] ++ cntI 300 = [172, 2] := by
    show cntB 300 = _
    rw [cntB_big (by decide), cntB_small (by decide)]
    rfl
  have E2 : [172, 2] ++ cntB (zigN (-1)) = [172, 2, 1] := by
    show [172, 2] ++ cntB 1 = _
    rw [cntB_small (by decide)]
    rfl
  rw [E1] at C
  have E2 := Lib.hid E2
  clear E1
  go_enter Try.func6, Try.ntmps6
  go_wp2_with fail
  refine C.out.mono ?_
  rintro e w1 ⟨rfl, h1, a1, k1, o1⟩
  have B1 := Lib.hid (KeptS.below B0.out k1 B0.out.size A0.out.base)
  have D := Lib.hid (wnumber_any (-1) w.heap.size w.heap.size h1 _ w1 a1 B1.out.size (by decide) (by decide) (by decide))
  rw [E2.out] at D
  have A1 := Lib.hid a1
  clear a1 k1 o1 C A0 B0
  go_wp2_with fail
  refine D.out.mono ?_
  rintro e w2 ⟨rfl, h2, a2, k2, o2⟩
  have B2 := Lib.hid (KeptS.below B1.out k2 B1.out.size A1.out.base)
  have A2 := Lib.hid a2
  have BY := Lib.hid (wbytes_any _ _ _ _ w2 a2 (by decide))
  clear a2 k2 o2 D B1 A1
  go_wp2_with fail
  refine BY.out.mono ?_
  rintro e w3 ⟨A', c', rfl, hb3, ho3⟩
  have b4 := (Below.refl w3.heap.size w3).alloc (Nat.le_refl _) (.cells #[.int .u8 172, .int .u8 2, .int .u8 1] u8T)
  have N1 := ho3.nums.below b4
  have N2 := nums_built .u8 u8T w3 [172, 2, 1] #[.int .u8 172, .int .u8 2, .int .u8 1] rfl 3 rfl (by decide) w3.heap.size rfl
  have SM := Lib.hid (same_any A' (some ⟨w3.heap.size, 0, none⟩) 3 3 c' 3 _ _ _ (by decide) N1 N2)
  have A4 := Lib.hid ((A2.out.below hb3).below b4)
  have B4 := Lib.hid ((B2.out.trans (hb3.mono B2.out.size)).trans (b4.mono (Nat.le_trans B2.out.size hb3.size)))
  clear hb3 ho3 b4 N1 N2 B2 A2 BY
  go_wp2_with fail
  refine SM.out.mono ?_
  rintro e w5 ⟨rfl, hb5⟩
  have L := Lib.hid (wlen_any _ _ _ _ w5 (A4.out.below hb5))
  have B5 := Lib.hid (B4.out.trans (hb5.mono B4.out.size))
  clear hb5 A4 B4 SM
  go_wp2_with fail
  refine L.out.mono ?_
  rintro e w6 ⟨rfl, rfl⟩
  go_wp2_with fail
  go_ret
  exact ⟨rfl, B5.out⟩
end Go.Proofs.Ytcoinciednbeaaa
