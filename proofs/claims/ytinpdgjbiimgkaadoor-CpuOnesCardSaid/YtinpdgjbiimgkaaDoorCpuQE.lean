/- The answers' processor: others: what goes out. -/
import Derived.Test.YtinpdgjbiimgkaaDoorCpuQD
import Derived.Test.YtinpdgjbiimgkaaDoorCpuI
import Derived.Deep.RegionLaw
namespace Go.Proofs.YtinpdgjbiimgkaaDoor
open Go.ChangeShapes Go.WideShapes Go.ChangeAt Go.RowKit
set_option linter.unusedVariables false

theorem outs_empty (w : World) : Outs (w.alloc (.cells #[] 82)).drew w.heap.size (.slice (some ⟨w.heap.size, 0, none⟩) 0 0) [] := by
  refine ⟨by simp [evCells], .inr ⟨w.heap.size, 0, #[], rfl, Nat.le_refl _, (Whole.made w 82 #[] _ rfl).drew', ?_⟩⟩
  simp [evCells, maxLen]

theorem Fo.but {w W W' : World} {C I : Array Value} {L : List Nat} (h : Fo w W C I) (hb : But L W W') (hn : ∀ b, b ∈ L → w.heap.size + 1 + 1 < b) : Fo w W' C I :=
  ⟨hb.whole h.c (fun hm => by have := hn _ hm; omega), hb.whole h.i (fun hm => by have := hn _ hm; omega), hb.whole h.r (fun hm => by have := hn _ hm; omega), h.bel.trans (hb.below (fun b hm => by have := hn _ hm; omega) h.bel.size)⟩

theorem Evs.but {w w' : World} {A : Option Addr} {m : Nat} {evs : List (Int × Int)} {L : List Nat} (h : Evs w A m evs) (hb : But L w w') (hne : ∀ b off, A = some ⟨b, off, none⟩ → b ∉ L) : Evs w' A m evs :=
  ⟨h.1, fun hn => by
    obtain ⟨b, off, rfl, hlt, hc⟩ := h.2 hn
    refine ⟨b, off, rfl, Nat.lt_of_lt_of_le hlt hb.size, fun j u hu => ?_⟩
    have e := hb.block b hlt (hne b off rfl)
    have g := hc j u hu
    simp only [World.cell?, e] at *
    exact g⟩

/-- What an event that goes out leaves. -/
def O30Post (c : Cp) (i : Value) (m : Nat) (evs : List (Int × Int)) (w : World) (e : Ending) (w' : World) : Prop :=
  ∃ A' k', e = .returned (.agg (cpuCells c (.slice A' m k') i)) ∧ (∀ b off, A' = some ⟨b, off, none⟩ → w.heap.size ≤ b) ∧ Evs w' A' m evs ∧ Below w.heap.size w w'

set_option maxHeartbeats 4000000 in
set_option maxRecDepth 100000 in
theorem refothers_30 (a b cc : Nat) (n x : Int) (c : Cp) (A1 A2 : Option Addr) (n1 k1 n2 k2 : Nat) (w : World) (ux : 0 ≤ x ∧ x ≤ 4294967295) (hl : c.r.length = 16) (evs : List (Int × Int)) (hE : Evs w A1 n1 evs) (hn : n1 ≤ 900000000) :
    Calls Tryd.prog 47 #[.agg (cpuCells c (.slice A1 n1 k1) (.slice A2 n2 k2)), .agg #[.int .i64 30, .int .i64 a, .int .i64 b, .int .i64 cc, .int .i64 n], .int .u32 x] w (O30Post (passC c) (.slice A2 n2 k2) (n1 + 1) (evs ++ [(n, wrap32 x)]) w) := by
  rw [show wrap32 x = IntKind.i32.wrap x by rw [IntKind.wrap_i32, wrap32]]
  obtain rfl : n1 = evs.length := hE.1.symm
  have F0 := fo_made w (cpuCells c (.slice A1 evs.length k1) (.slice A2 n2 k2)) #[.int .i64 30, .int .i64 a, .int .i64 b, .int .i64 cc, .int .i64 n]
  have g16 := (F0.c.cell 16).trans (cpuCells_pc hl (.slice A1 evs.length k1) (.slice A2 n2 k2))
  have g23 := (F0.c.cell 23).trans (cpuCells_o hl (.slice A1 evs.length k1) (.slice A2 n2 k2))
  have gf := F0.c.free
  have FH := Lib.hid F0
  have HE := Lib.hid (hE.below (show Below w.heap.size w _ from F0.bel))
  have LN := Lib.hid hn
  have HLN := Lib.hid hl
  unfold zeros38 at FH HE g16 g23 gf
  clear hl F0 hE hn
  generalize hC0 : cpuCells c (.slice A1 evs.length k1) (.slice A2 n2 k2) = C0 at *
  have CE := Lib.hid hC0
  have G23 := Lib.hid (show C0[23]? = some (.slice A1 evs.length k1) by rw [← hC0]; exact cpuCells_o HLN.out (.slice A1 evs.length k1) (.slice A2 n2 k2))
  clear hC0
  unfold O30Post
  go_enter Tryd.func47, Tryd.ntmps47
  have i0 : (((w.alloc (.cells C0 38)).alloc (.cells #[.int .i64 30, .int .i64 a, .int .i64 b, .int .i64 cc, .int .i64 n] 54)).alloc (.cells #[.int .u32 0, .int .u32 0, .int .u32 0, .int .u32 0, .int .u32 0, .int .u32 0, .int .u32 0, .int .u32 0, .int .u32 0, .int .u32 0, .int .u32 0, .int .u32 0, .int .u32 0, .int .u32 0, .int .u32 0, .int .u32 0, .int .u32 0, .int .u32 0, .int .u32 0, .int .i64 0, .int .i64 0, .int .i64 0, .int .i64 0, .slice none 0 0, .int .u32 0, .int .u32 0, .int .u32 0, .int .u32 0, .slice none 0 0] 38)).cell? ⟨w.heap.size + 1, 0, none⟩ = some (.int .i64 30) := FH.out.i.cell 0
  have i4 : (((w.alloc (.cells C0 38)).alloc (.cells #[.int .i64 30, .int .i64 a, .int .i64 b, .int .i64 cc, .int .i64 n] 54)).alloc (.cells #[.int .u32 0, .int .u32 0, .int .u32 0, .int .u32 0, .int .u32 0, .int .u32 0, .int .u32 0, .int .u32 0, .int .u32 0, .int .u32 0, .int .u32 0, .int .u32 0, .int .u32 0, .int .u32 0, .int .u32 0, .int .u32 0, .int .u32 0, .int .u32 0, .int .u32 0, .int .i64 0, .int .i64 0, .int .i64 0, .int .i64 0, .slice none 0 0, .int .u32 0, .int .u32 0, .int .u32 0, .int .u32 0, .slice none 0 0] 38)).cell? ⟨w.heap.size + 1, 4, none⟩ = some (.int .i64 n) := FH.out.i.cell 4
  go_wp2_with fail
  generalize ((w.alloc (.cells C0 38)).alloc (.cells #[.int .i64 30, .int .i64 a, .int .i64 b, .int .i64 cc, .int .i64 n] 54)).alloc (.cells #[.int .u32 0, .int .u32 0, .int .u32 0, .int .u32 0, .int .u32 0, .int .u32 0, .int .u32 0, .int .u32 0, .int .u32 0, .int .u32 0, .int .u32 0, .int .u32 0, .int .u32 0, .int .u32 0, .int .u32 0, .int .u32 0, .int .u32 0, .int .u32 0, .int .u32 0, .int .i64 0, .int .i64 0, .int .i64 0, .int .i64 0, .slice none 0 0, .int .u32 0, .int .u32 0, .int .u32 0, .int .u32 0, .slice none 0 0] 38) = V at *
  have OE := Lib.hid (show Outs (V.alloc (.cells #[] 82)).drew V.heap.size (.slice (some ⟨V.heap.size, 0, none⟩) 0 0) [] from outs_empty V)
  have b0 := ((Below.refl V.heap.size V).alloc (Nat.le_refl _) (.cells #[] 82)).drew
  have H1 := Lib.hid (HE.out.below b0)
  have F1 := Lib.hid (FH.out.later b0)
  have m23 : (V.alloc (.cells #[] 82)).drew.cell? ⟨w.heap.size, 23, none⟩ = some (.slice A1 evs.length k1) := (b0.cell (p := ⟨w.heap.size, 23, none⟩) FH.out.c.lt).trans g23
  have m4 : (V.alloc (.cells #[] 82)).drew.cell? ⟨w.heap.size + 1, 4, none⟩ = some (.int .i64 n) := (b0.cell (p := ⟨w.heap.size + 1, 4, none⟩) FH.out.i.lt).trans i4
  have mf : ∀ j, (V.alloc (.cells #[] 82)).drew.frozen? ⟨w.heap.size, j, none⟩ = false := F1.out.c.free
  clear b0
  have BN := Lib.hid (show w.heap.size + 1 + 1 < V.heap.size from FH.out.r.lt)
  have SV := Lib.hid (show (V.alloc (.cells #[] 82)).drew.heap.size = V.heap.size + 1 by simp)
  have b3 := (((Below.refl V.heap.size V).alloc (Nat.le_refl _) (.cells #[] 82)).alloc (by simp) (.cells #[.int .i64 n, .int .i32 (IntKind.i32.wrap x)] 82)).drew
  have H3 := Lib.hid (HE.out.below b3)
  have F3 := Lib.hid (FH.out.later b3)
  have x23 : ((V.alloc (.cells #[] 82)).alloc (.cells #[.int .i64 n, .int .i32 (IntKind.i32.wrap x)] 82)).drew.cell? ⟨w.heap.size, 23, none⟩ = some (.slice A1 evs.length k1) := (b3.cell (p := ⟨w.heap.size, 23, none⟩) FH.out.c.lt).trans g23
  have x4 : ((V.alloc (.cells #[] 82)).alloc (.cells #[.int .i64 n, .int .i32 (IntKind.i32.wrap x)] 82)).drew.cell? ⟨w.heap.size + 1, 4, none⟩ = some (.int .i64 n) := (b3.cell (p := ⟨w.heap.size + 1, 4, none⟩) FH.out.i.lt).trans i4
  have O3 := Lib.hid (show Outs ((V.alloc (.cells #[] 82)).alloc (.cells #[.int .i64 n, .int .i32 (IntKind.i32.wrap x)] 82)).drew V.heap.size (.slice (some ⟨V.heap.size, 0, none⟩) 0 0) [] from OE.out.below ((Below.refl _ (V.alloc (.cells #[] 82)).drew).alloc (Nat.le_refl _) (.cells #[.int .i64 n, .int .i32 (IntKind.i32.wrap x)] 82)))
  have E3 := Lib.hid (show Evs ((V.alloc (.cells #[] 82)).alloc (.cells #[.int .i64 n, .int .i32 (IntKind.i32.wrap x)] 82)).drew (some ⟨V.heap.size + 1, 0, none⟩) 1 [(n, (IntKind.i32.wrap x))] from evs_made (V.alloc (.cells #[] 82)) n (IntKind.i32.wrap x) (V.heap.size + 1) (by simp))
  have S3 := Lib.hid (show ((V.alloc (.cells #[] 82)).alloc (.cells #[.int .i64 n, .int .i32 (IntKind.i32.wrap x)] 82)).drew.heap.size = V.heap.size + 1 + 1 by simp)
  clear b3
  have c0 := ((Below.refl V.heap.size V).alloc (Nat.le_refl _) (.cells #[.int .i64 n, .int .i32 (IntKind.i32.wrap x)] 82)).drew
  have z23 : (V.alloc (.cells #[.int .i64 n, .int .i32 (IntKind.i32.wrap x)] 82)).drew.cell? ⟨w.heap.size, 23, none⟩ = some (.slice A1 evs.length k1) := (c0.cell (p := ⟨w.heap.size, 23, none⟩) FH.out.c.lt).trans g23
  have z4 : (V.alloc (.cells #[.int .i64 n, .int .i32 (IntKind.i32.wrap x)] 82)).drew.cell? ⟨w.heap.size + 1, 4, none⟩ = some (.int .i64 n) := (c0.cell (p := ⟨w.heap.size + 1, 4, none⟩) FH.out.i.lt).trans i4
  have c3 := (((Below.refl V.heap.size V).alloc (Nat.le_refl _) (.cells #[.int .i64 n, .int .i32 (IntKind.i32.wrap x)] 82)).alloc (by simp) (.cells #[] 82)).drew
  have H4 := Lib.hid (HE.out.below c3)
  have F4 := Lib.hid (FH.out.later c3)
  have v23 : ((V.alloc (.cells #[.int .i64 n, .int .i32 (IntKind.i32.wrap x)] 82)).alloc (.cells #[] 82)).drew.cell? ⟨w.heap.size, 23, none⟩ = some (.slice A1 evs.length k1) := (c3.cell (p := ⟨w.heap.size, 23, none⟩) FH.out.c.lt).trans g23
  have v4 : ((V.alloc (.cells #[.int .i64 n, .int .i32 (IntKind.i32.wrap x)] 82)).alloc (.cells #[] 82)).drew.cell? ⟨w.heap.size + 1, 4, none⟩ = some (.int .i64 n) := (c3.cell (p := ⟨w.heap.size + 1, 4, none⟩) FH.out.i.lt).trans i4
  have O4 := Lib.hid (show Outs ((V.alloc (.cells #[.int .i64 n, .int .i32 (IntKind.i32.wrap x)] 82)).alloc (.cells #[] 82)).drew V.heap.size (.slice (some ⟨V.heap.size + 1, 0, none⟩) 0 0) [] from by have h := outs_empty (V.alloc (.cells #[.int .i64 n, .int .i32 (IntKind.i32.wrap x)] 82)); rw [show (V.alloc (.cells #[.int .i64 n, .int .i32 (IntKind.i32.wrap x)] 82)).heap.size = V.heap.size + 1 by simp] at h; exact h.more (by omega))
  have E4 := Lib.hid (show Evs ((V.alloc (.cells #[.int .i64 n, .int .i32 (IntKind.i32.wrap x)] 82)).alloc (.cells #[] 82)).drew (some ⟨V.heap.size, 0, none⟩) 1 [(n, (IntKind.i32.wrap x))] from (evs_made V n (IntKind.i32.wrap x) V.heap.size rfl).below (((Below.refl _ (V.alloc (.cells #[.int .i64 n, .int .i32 (IntKind.i32.wrap x)] 82))).alloc (Nat.le_refl _) (.cells #[] 82)).drew))
  have S4 := Lib.hid (show ((V.alloc (.cells #[.int .i64 n, .int .i32 (IntKind.i32.wrap x)] 82)).alloc (.cells #[] 82)).drew.heap.size = V.heap.size + 1 + 1 by simp)
  clear c0 c3
  go_region_law (first
    | (refine step_append_evs rfl (.tmp 54) (.tmp 56) rfl V.heap.size (.slice (some ⟨V.heap.size, 0, none⟩) 0 0) [] rfl OE.out A1 evs.length k1 evs rfl H1.out (by have := LN.out; simp; omega) (by have := SV.out; omega) ?_; intro v1 w1 ho hg hal; have ho1 : Outs w1 V.heap.size v1 evs := (by simpa using ho); have hge : ∀ b, b ∈ ownList v1 → V.heap.size ≤ b := (fun b hb => (ho1.lt b (mem_own.1 hb)).1); obtain ⟨A', c', rfl, _⟩ := ho1.form; have FA := Lib.hid (F1.out.but (But.of_grown (L := [V.heap.size]) hg (by simp [Value.ownBlock])) (by have := BN.out; simp; omega)); have GE := Lib.hid hge; have OA := Lib.hid (ho1.below ((Below.refl w1.heap.size w1).alloc (Nat.le_refl _) (.cells #[.int .i64 n, .int .i32 (IntKind.i32.wrap x)] 82))); have EM := Lib.hid (evs_made w1 n (IntKind.i32.wrap x) w1.heap.size rfl); have FB := Lib.hid (FA.out.later ((Below.refl w1.heap.size w1).alloc (Nat.le_refl _) (.cells #[.int .i64 n, .int .i32 (IntKind.i32.wrap x)] 82))); have S1 := Lib.hid (show V.heap.size ≤ w1.heap.size from by have := hg.size; have := SV.out; omega); have j4 : w1.cell? ⟨w.heap.size + 1, 4, none⟩ = some (.int .i64 n) := FA.out.i.cell 4; clear ho hg hal ho1 hge)
    | (refine step_append_evs rfl (.tmp 54) (.tmp 56) rfl V.heap.size (.slice (some ⟨V.heap.size, 0, none⟩) 0 0) [] rfl O3.out A1 evs.length k1 evs rfl H3.out (by have := LN.out; simp; omega) (by have := S3.out; omega) ?_; intro v1 w1 ho hg hal; have ho1 : Outs w1 V.heap.size v1 evs := (by simpa using ho); have hge : ∀ b, b ∈ ownList v1 → V.heap.size ≤ b := (fun b hb => (ho1.lt b (mem_own.1 hb)).1); have hne : ∀ b, b ∈ ownList v1 → b ≠ V.heap.size + 1 := (fun b hb => by have hq := mem_own.1 hb; have := S3.out; rcases hal with h1 | h1 <;> (rw [h1] at hq; simp [Value.ownBlock] at hq; omega)); obtain ⟨A', c', rfl, _⟩ := ho1.form; have FA := Lib.hid (F3.out.but (But.of_grown (L := [V.heap.size]) hg (by simp [Value.ownBlock])) (by have := BN.out; simp; omega)); have GE := Lib.hid hge; have NE3 := Lib.hid hne; have OB := Lib.hid ho1; have EB := Lib.hid (E3.out.but (But.of_grown (L := [V.heap.size]) hg (by simp [Value.ownBlock])) (fun b off hb => by injection hb with hb; injection hb with hb; subst hb; simp)); have S1 := Lib.hid (show V.heap.size ≤ w1.heap.size from by have := hg.size; have := S3.out; omega); clear ho hg hal ho1 hge hne)
    | (refine step_append_evs rfl (.tmp 54) (.tmp 56) rfl V.heap.size (.slice (some ⟨V.heap.size + 1, 0, none⟩) 0 0) [] rfl O4.out A1 evs.length k1 evs rfl H4.out (by have := LN.out; simp; omega) (by have := S4.out; omega) ?_; intro v1 w1 ho hg hal; have ho1 : Outs w1 V.heap.size v1 evs := (by simpa using ho); have hge : ∀ b, b ∈ ownList v1 → V.heap.size ≤ b := (fun b hb => (ho1.lt b (mem_own.1 hb)).1); obtain ⟨A', c', rfl, _⟩ := ho1.form; have FA := Lib.hid (F4.out.but (But.of_grown (L := [V.heap.size + 1]) hg (by simp [Value.ownBlock])) (by have := BN.out; simp; omega)); have GE := Lib.hid hge; have OB := Lib.hid ho1; have EB4 := Lib.hid (E4.out.but (But.of_grown (L := [V.heap.size + 1]) hg (by simp [Value.ownBlock])) (fun b off hb => by injection hb with hb; injection hb with hb; subst hb; simp)); have S1 := Lib.hid (show V.heap.size ≤ w1.heap.size from by have := hg.size; have := S4.out; omega); clear ho hg hal ho1 hge)
    | (refine step_append_evs rfl (.tmp 57) (.tmp 63) rfl V.heap.size (.slice A' evs.length c') evs rfl OA.out (some ⟨w1.heap.size, 0, none⟩) 1 1 [(n, (IntKind.i32.wrap x))] rfl EM.out (by have := LN.out; have := HE.out.1; omega) (by have := S1.out; simp; omega) ?_; intro v2 w2 ho hg hal; obtain ⟨A2', c2', rfl, hev⟩ := ho.form; have HV := Lib.hid hev; have FC := Lib.hid (FB.out.but (But.of_grown (L := ownList (.slice A' evs.length c')) hg (fun b hb => mem_own.2 hb)) (fun b hb => by have := GE.out b hb; have := BN.out; omega)); have HO := Lib.hid ho; have y23 : w2.cell? ⟨w.heap.size, 23, none⟩ = some (.slice A1 evs.length k1) := (FC.out.c.cell 23).trans G23.out; have yf : ∀ j, w2.frozen? ⟨w.heap.size, j, none⟩ = false := FC.out.c.free; clear ho hg hal hev)
    | (refine step_append_evs rfl (.tmp 57) (.tmp 63) rfl V.heap.size (.slice A' evs.length c') evs rfl OB.out (some ⟨V.heap.size + 1, 0, none⟩) 1 1 [(n, (IntKind.i32.wrap x))] rfl EB.out (by have := LN.out; have := HE.out.1; omega) (by have := S1.out; omega) ?_; intro v2 w2 ho hg hal; obtain ⟨A2', c2', rfl, hev⟩ := ho.form; have HV := Lib.hid hev; have FC := Lib.hid (FA.out.but (But.of_grown (L := ownList (.slice A' evs.length c')) hg (fun b hb => mem_own.2 hb)) (fun b hb => by have := GE.out b hb; have := BN.out; omega)); have HO := Lib.hid ho; have y23 : w2.cell? ⟨w.heap.size, 23, none⟩ = some (.slice A1 evs.length k1) := (FC.out.c.cell 23).trans G23.out; have yf : ∀ j, w2.frozen? ⟨w.heap.size, j, none⟩ = false := FC.out.c.free; clear ho hg hal hev)
    | (refine step_append_evs rfl (.tmp 57) (.tmp 63) rfl V.heap.size (.slice A' evs.length c') evs rfl OB.out (some ⟨V.heap.size, 0, none⟩) 1 1 [(n, (IntKind.i32.wrap x))] rfl EB4.out (by have := LN.out; have := HE.out.1; omega) (by have := S1.out; omega) ?_; intro v2 w2 ho hg hal; obtain ⟨A2', c2', rfl, hev⟩ := ho.form; have HV := Lib.hid hev; have FC := Lib.hid (FA.out.but (But.of_grown (L := ownList (.slice A' evs.length c')) hg (fun b hb => mem_own.2 hb)) (fun b hb => by have := GE.out b hb; have := BN.out; omega)); have HO := Lib.hid ho; have y23 : w2.cell? ⟨w.heap.size, 23, none⟩ = some (.slice A1 evs.length k1) := (FC.out.c.cell 23).trans G23.out; have yf : ∀ j, w2.frozen? ⟨w.heap.size, j, none⟩ = false := FC.out.c.free; clear ho hg hal hev))
  all_goals
    have HV2 : Evs w2 A2' (evs.length + 1) (evs ++ [(n, IntKind.i32.wrap x)]) := by simpa using HV.out
    have XA : ∀ b off, A2' = some ⟨b, off, none⟩ → V.heap.size ≤ b := fun b off hb => (HO.out.lt b (by rw [hb]; rfl)).1
    have F5 := FC.out.set 23 (.slice A2' (evs.length + 1) c2')
    rw [← CE.out, cpuCells_set_o HLN.out] at F5
    have y16 : (w2.setCell ⟨w.heap.size, 23, none⟩ (.slice A2' (evs.length + 1) c2')).cell? ⟨w.heap.size, 16, none⟩ = some (.int .u32 c.pc) := (F5.c.cell 16).trans (cpuCells_pc HLN.out _ _)
    have yg := F5.c.free
    have F6 := F5.set 16 (.int .u32 ((c.pc + 4) % 4294967296))
    rw [cpuCells_set_pc HLN.out] at F6
    have SZ := Lib.hid (cpuCells_size (c := { c with pc := ((c.pc + 4) % 4294967296) }) HLN.out (.slice A2' (evs.length + 1) c2') (.slice A2 n2 k2))
    have ONE := Lib.hid (cpu_one { c with pc := ((c.pc + 4) % 4294967296) } (o := (.slice A2' (evs.length + 1) c2')) (i := (.slice A2 n2 k2)) rfl rfl)
    generalize hCF : cpuCells { c with pc := ((c.pc + 4) % 4294967296) } (.slice A2' (evs.length + 1) c2') (.slice A2 n2 k2) = CF at F6 SZ ONE
    have CFE := Lib.hid hCF
    have FE := Lib.hid F6
    have XE := Lib.hid (show Evs ((w2.setCell ⟨w.heap.size, 23, none⟩ (.slice A2' (evs.length + 1) c2')).setCell ⟨w.heap.size, 16, none⟩ (.int .u32 ((c.pc + 4) % 4294967296))) A2' (evs.length + 1) (evs ++ [(n, IntKind.i32.wrap x)]) from HV2.but (((But.refl [w.heap.size] w2).setCell ⟨w.heap.size, 23, none⟩ (.slice A2' (evs.length + 1) c2') (by simp)).setCell ⟨w.heap.size, 16, none⟩ (.int .u32 ((c.pc + 4) % 4294967296)) (by simp)) (fun b off hb => by have := XA b off hb; have := BN.out; simp; omega))
    have XB := Lib.hid XA
    clear hCF F5 F6 HV2 XA HV HO FC y23 i0 i4 g16 g23 m23 m4 mf x23 x4 z23 z4 v23 v4
    go_wp2_with (first
      | (refine wpList_load_row rfl 38 (.tmp 3) rfl w.heap.size rfl 38 CF (0, 0) _ FE.out.c Tryd.underlying38 rfl (infoCpu SZ.out) ?_)
      | (refine wpList_store_row rfl 38 (.tmp 6) (.tmp 125) rfl (w.heap.size + 1 + 1) CF rfl rfl 38 zeros38 FE.out.r (infoCpu SZ.out) (by rw [SZ.out]; rfl) ONE.out ?_))
    refine bodyPost_ret (v := .agg CF) (results_cell_row rfl _ _ (w.heap.size + 1 + 1) 38 CF (0, 0) _ rfl (FE.out.r.setRow CF) Tryd.underlying38 rfl (infoCpu SZ.out)) rfl ⟨A2', c2', ?_, fun b off hb => by have := XB.out b off hb; have := BN.out; omega, XE.out.but (But.of_only (Only.setRow _ (w.heap.size + 1 + 1) CF)) (fun b off hb => by have := XB.out b off hb; have := BN.out; simp; omega), FE.out.bel.trans ((Only.setRow _ (w.heap.size + 1 + 1) CF).below (by omega) FE.out.bel.size)⟩
    rw [← CFE.out]
    rfl
end Go.Proofs.YtinpdgjbiimgkaaDoor
