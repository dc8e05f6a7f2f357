/- Codec: a Reader in memory; its fail, take, Read, Err, Left, End. -/
import Derived.Test.YtdakooipelligaaCdcB
namespace Go.Proofs.Ytdakooipelligaa
open Go.ChangeShapes Go.WideShapes Go.ChangeAt Go.RowKit
set_option linter.unusedVariables false
set_option linter.unusedSimpArgs false

abbrev rdT : TypeId := 95

/-- A Reader lies at block g; what is left lies in block D; its error. -/
def RdAt (w : World) (g D : Nat) (zs : List Int) (err : Int) : Prop :=
  ∃ A c, Whole w g rdT #[.slice A zs.length c, .int .i64 err] ∧ zs.length ≤ c ∧ D < w.heap.size ∧
    (0 < zs.length → ∃ off, A = some ⟨D, off, none⟩ ∧ D ≠ g ∧ ∀ j, j < zs.length → w.cell? ⟨D, off + j, none⟩ = some (.int .u8 (zs.getD j 0)))

abbrev RdS (g : Nat) : Nat → Prop := fun b => b = g

/-- The first error stays. -/
def errP (err e : Int) : Int := if err = 0 then e else err

theorem RdAt.lt {w : World} {g D : Nat} {zs : List Int} {err : Int} (h : RdAt w g D zs err) : g < w.heap.size ∧ D < w.heap.size := by
  obtain ⟨A, c, hW, _, hD, _⟩ := h
  exact ⟨hW.lt, hD⟩

theorem RdAt.keep {S : Nat → Prop} {w w' : World} {g D : Nat} {zs : List Int} {err : Int} (h : RdAt w g D zs err) (ks : KeptS S w w') (hg : ¬ S g) (hD : ¬ S D) : RdAt w' g D zs err := by
  obtain ⟨A, c, hW, hc, hd, hz⟩ := h
  refine ⟨A, c, ks.whole hW hg, hc, Nat.lt_of_lt_of_le hd ks.size, fun h0 => ?_⟩
  obtain ⟨off, rfl, hne, hcell⟩ := hz h0
  exact ⟨off, rfl, hne, fun j hj => ks.cell (hcell j hj) hD⟩

theorem RdAt.below {w w' : World} {g D : Nat} {zs : List Int} {err : Int} (h : RdAt w g D zs err) (hb : Below w.heap.size w w') : RdAt w' g D zs err :=
  h.keep (S := fun _ => False) (KeptS.ofBelow hb) (fun h => h) (fun h => h)

set_option maxHeartbeats 1000000 in
set_option maxRecDepth 100000 in
theorem rfail_any (e0 : Int) (g D : Nat) (zs : List Int) (err : Int) (w : World) (h : RdAt w g D zs err) :
    Calls Try.prog 59 #[.pointer (some ⟨g, 0, none⟩), .int .i64 e0] w fun e w' => e = .returned (.tuple #[]) ∧ RdAt w' g D [] (errP err e0) ∧ KeptS (RdS g) w w' := by
  obtain ⟨A, c, hW, hc, hD, _⟩ := h
  have c0 : w.cell? ⟨g, 0, none⟩ = some (.slice A zs.length c) := hW.cell 0
  have c1 : w.cell? ⟨g, 1, none⟩ = some (.int .i64 err) := hW.cell 1
  have f0 : w.frozen? ⟨g, 0, none⟩ = false := hW.free 0
  have f1 : w.frozen? ⟨g, 1, none⟩ = false := hW.free 1
  by_cases h0 : err = 0
  · have E := Lib.hid (show errP err e0 = e0 from if_pos h0)
    subst h0
    have W1 := Lib.hid (show Whole (w.setCell ⟨g, 1, none⟩ (.int .i64 e0)) g rdT #[.slice A zs.length c, .int .i64 e0] from hW.store 1 _)
    have g0 : (w.setCell ⟨g, 1, none⟩ (.int .i64 e0)).frozen? ⟨g, 0, none⟩ = false := W1.out.free 0
    have d0 : (w.setCell ⟨g, 1, none⟩ (.int .i64 e0)).cell? ⟨g, 0, none⟩ = some (.slice A zs.length c) := W1.out.cell 0
    have W2 := Lib.hid (show Whole ((w.setCell ⟨g, 1, none⟩ (.int .i64 e0)).setCell ⟨g, 0, none⟩ (.slice none 0 0)) g rdT #[.slice none 0 0, .int .i64 e0] from W1.out.store 0 _)
    have K1 : KeptS (RdS g) w (w.setCell ⟨g, 1, none⟩ (.int .i64 e0)) := KeptS.set rfl
    have K2 : KeptS (RdS g) (w.setCell ⟨g, 1, none⟩ (.int .i64 e0)) ((w.setCell ⟨g, 1, none⟩ (.int .i64 e0)).setCell ⟨g, 0, none⟩ (.slice none 0 0)) := KeptS.set rfl
    have K := Lib.hid (K1.trans K2 (fun i hi => .inl hi))
    have HD := Lib.hid (Nat.lt_of_lt_of_le hD K.out.size)
    clear hW K1 K2 hD hc
    go_enter Try.func59, Try.ntmps59
    go_wp2_with fail
    go_end0
    refine ⟨rfl, ?_, K.out⟩
    rw [E.out]
    exact ⟨none, 0, W2.out, Nat.le_refl _, HD.out, fun h => absurd h (by simp)⟩
  · have E := Lib.hid (show errP err e0 = err from if_neg h0)
    have hne : (err == 0) = false := by simp [h0]
    have W2 := Lib.hid (show Whole (w.setCell ⟨g, 0, none⟩ (.slice none 0 0)) g rdT #[.slice none 0 0, .int .i64 err] from hW.store 0 _)
    have K := Lib.hid (show KeptS (RdS g) w (w.setCell ⟨g, 0, none⟩ (.slice none 0 0)) from KeptS.set rfl)
    have HD := Lib.hid (Nat.lt_of_lt_of_le hD K.out.size)
    clear hW hD hc
    go_enter Try.func59, Try.ntmps59
    go_wp2_with fail
    go_end0
    refine ⟨rfl, ?_, K.out⟩
    rw [E.out]
    exact ⟨none, 0, W2.out, Nat.le_refl _, HD.out, fun h => absurd h (by simp)⟩

theorem slice_hi (A : Option Addr) (len c n : Nat) (h : n ≤ c) : ∃ A', (∀ W, (Instr.slice bsT (.slice A len c) none (some (.int .i64 n)) none).run Try.prog W = .ok (.slice A' n c) W) ∧ ∀ b off, A = some ⟨b, off, none⟩ → A' = some ⟨b, off, none⟩ := by
  refine ⟨if c = 0 then A else A.map (·.add 0), fun W => ?_, ?_⟩
  · have hs : Try.prog.underlying bsT = some (.slice (Try.prog.elem bsT)) := by kernel_rfl
    rw [run_slice_h W bsT A len c hs .i64 n (by omega) (by omega)]
    have hz : (sizeOf (Try.prog.elem bsT)).run Try.prog W = .ok 1 W := by simp [sizeOf, typeInfo, show Try.prog.info? (Try.prog.elem bsT) = some Try.t5 from by kernel_rfl]; kernel_rfl
    rw [hz]
    simp [Result.andThen, sliced]
  · rintro b off rfl
    split
    · rfl
    · simp [Addr.add]

theorem slice_lo (A : Option Addr) (len c n : Nat) (h : n ≤ len) : ∃ A', (∀ W, (Instr.slice bsT (.slice A len c) (some (.int .i64 n)) none none).run Try.prog W = .ok (.slice A' (len - n) (c - n)) W) ∧ ∀ b off, A = some ⟨b, off, none⟩ → n < c → A' = some ⟨b, off + n, none⟩ := by
  refine ⟨if c = n then A else A.map (·.add n), fun W => ?_, ?_⟩
  · have hs : Try.prog.underlying bsT = some (.slice (Try.prog.elem bsT)) := by kernel_rfl
    rw [run_slice_l W bsT A len c hs .i64 n (by omega) (by omega)]
    have hz : (sizeOf (Try.prog.elem bsT)).run Try.prog W = .ok 1 W := by simp [sizeOf, typeInfo, show Try.prog.info? (Try.prog.elem bsT) = some Try.t5 from by kernel_rfl]; kernel_rfl
    rw [hz]
    simp [Result.andThen, sliced]
  · rintro b off rfl hn
    rw [if_neg (by omega)]
    simp [Addr.add]

set_option maxHeartbeats 1000000 in
set_option maxRecDepth 100000 in
theorem rtake_short (n : Nat) (g D : Nat) (zs : List Int) (err : Int) (w : World) (h : RdAt w g D zs err) (hn : zs.length < n) (hm : n ≤ 9223372036854775807) :
    Calls Try.prog 55 #[.pointer (some ⟨g, 0, none⟩), .int .i64 n] w fun e w' => e = .returned (.slice none 0 0) ∧ RdAt w' g D [] (errP err 120) ∧ KeptS (RdS g) w w' := by
  have F := Lib.hid (rfail_any 120 g D zs err w h)
  obtain ⟨A, c, hW, hc, hD, _⟩ := h
  have c0 : w.cell? ⟨g, 0, none⟩ = some (.slice A zs.length c) := hW.cell 0
  clear hW hD hc
  have hI : (zs.length : Int) < n := by omega
  go_enter Try.func55, Try.ntmps55
  go_wp2_with fail
  refine F.out.mono ?_
  rintro e w1 ⟨rfl, hr, hk⟩
  have R := Lib.hid hr
  have K := Lib.hid hk
  clear hr hk
  go_wp2_with fail
  go_ret
  exact ⟨rfl, R.out, K.out⟩

set_option maxHeartbeats 1000000 in
set_option maxRecDepth 100000 in
theorem rtake_yes (n : Nat) (g D : Nat) (zs : List Int) (err : Int) (w : World) (h : RdAt w g D zs err) (hn : n ≤ zs.length) (hm : zs.length ≤ 9223372036854775807) :
    Calls Try.prog 55 #[.pointer (some ⟨g, 0, none⟩), .int .i64 n] w fun e w' => ∃ A c, e = .returned (.slice A n c) ∧ Nums .u8 w' A n (zs.take n) ∧ RdAt w' g D (zs.drop n) err ∧ KeptS (RdS g) w w' := by
  obtain ⟨A, c, hW, hc, hD, hz⟩ := h
  obtain ⟨A1, hs1, ha1⟩ := slice_hi A zs.length c n (by omega)
  obtain ⟨A2, hs2, ha2⟩ := slice_lo A zs.length c n hn
  have c0 : w.cell? ⟨g, 0, none⟩ = some (.slice A zs.length c) := hW.cell 0
  have f0 : w.frozen? ⟨g, 0, none⟩ = false := hW.free 0
  have W2 : Whole (w.setCell ⟨g, 0, none⟩ (.slice A2 (zs.length - n) (c - n))) g rdT #[.slice A2 (zs.length - n) (c - n), .int .i64 err] := hW.store 0 _
  have K := Lib.hid (show KeptS (RdS g) w (w.setCell ⟨g, 0, none⟩ (.slice A2 (zs.length - n) (c - n))) from KeptS.set rfl)
  have N := Lib.hid (show Nums .u8 (w.setCell ⟨g, 0, none⟩ (.slice A2 (zs.length - n) (c - n))) A1 n (zs.take n) from ⟨by rw [List.length_take]; omega, fun h0 => by
    obtain ⟨off, h1, hne, hcell⟩ := hz (by omega)
    refine ⟨D, off, ha1 _ _ h1, Nat.lt_of_lt_of_le hD K.out.size, fun j hj => ?_⟩
    rw [K.out.cell (hcell j (by omega)) hne]
    simp [List.getD, hj]⟩)
  have R := Lib.hid (show RdAt (w.setCell ⟨g, 0, none⟩ (.slice A2 (zs.length - n) (c - n))) g D (zs.drop n) err from by
    refine ⟨A2, c - n, by rw [List.length_drop]; exact W2, by rw [List.length_drop]; omega, Nat.lt_of_lt_of_le hD K.out.size, fun h0 => ?_⟩
    rw [List.length_drop] at h0
    obtain ⟨off, h1, hne, hcell⟩ := hz (by omega)
    refine ⟨off + n, ha2 _ _ h1 (by omega), hne, fun j hj => ?_⟩
    rw [List.length_drop] at hj
    rw [Nat.add_assoc, K.out.cell (hcell (n + j) (by omega)) hne]
    simp [List.getD])
  clear hW hD hc hz W2 ha1 ha2
  have hI : ¬ (zs.length : Int) < n := by omega
  go_enter Try.func55, Try.ntmps55
  go_wp2_with fail
  go_ret
  exact ⟨A1, ⟨_, rfl⟩, N.out, R.out, K.out⟩

set_option maxHeartbeats 1000000 in
set_option maxRecDepth 100000 in
theorem read_any (A : Option Addr) (n c : Nat) (zs : List Int) (w : World) (h : Nums .u8 w A n zs) (hn : n ≤ 140737488355328) :
    Calls Try.prog 31 #[.slice A n c] w fun e w' => ∃ g D, e = .returned (.pointer (some ⟨g, 0, none⟩)) ∧ w.heap.size ≤ g ∧ w.heap.size ≤ D ∧ Below w.heap.size w w' ∧ RdAt w' g D zs 0 := by
  have C := Lib.hid (bclone_any A n c zs w h hn)
  have hl := Lib.hid h.1
  clear h hn
  go_enter Try.func31, Try.ntmps31
  go_wp2_with fail
  refine C.out.mono ?_
  rintro e w1 ⟨A', c', rfl, hb, ho⟩
  have HB := Lib.hid hb
  have HO := Lib.hid ho
  have WM := Lib.hid (Whole.made w1 rdT #[.slice A' n c', .int .i64 0] _ rfl)
  have OA := Lib.hid (ho.alloc (.cells #[.slice A' n c', .int .i64 0] rdT))
  have BA := Lib.hid (hb.alloc hb.size (.cells #[.slice A' n c', .int .i64 0] rdT))
  clear hb ho
  go_wp2_with fail
  go_ret
  have hll := hl.out
  subst hll
  cases hA : (Value.slice A' zs.length c').ownBlock with
  | none =>
    refine ⟨w1.heap.size, w1.heap.size, rfl, HB.out.size, HB.out.size, BA.out, A', c', WM.out, OA.out.cap, WM.out.lt, fun h0 => ?_⟩
    obtain ⟨b, off, rfl, hb, _⟩ := HO.out.nums.2 h0
    simp [Value.ownBlock] at hA
  | some D =>
    have hD := OA.out.lt D hA
    have hD1 := HO.out.lt D hA
    refine ⟨w1.heap.size, D, rfl, HB.out.size, hD.1, BA.out, A', c', WM.out, OA.out.cap, hD.2, fun h0 => ?_⟩
    obtain ⟨b, off, rfl, hb, hc⟩ := OA.out.nums.2 h0
    simp [Value.ownBlock] at hA
    subst hA
    exact ⟨off, rfl, by omega, hc⟩

set_option maxHeartbeats 1000000 in
set_option maxRecDepth 100000 in
theorem rend_any (g D : Nat) (zs : List Int) (err : Int) (w : World) (h : RdAt w g D zs err) (hm : zs.length ≤ 9223372036854775807) :
    Calls Try.prog 42 #[.pointer (some ⟨g, 0, none⟩)] w fun e w' => e = .returned (.int .i64 (if zs = [] then err else 121)) ∧ w = w' := by
  obtain ⟨A, c, hW, hc, hD, hz⟩ := h
  have c0 : w.cell? ⟨g, 0, none⟩ = some (.slice A zs.length c) := hW.cell 0
  have c1 : w.cell? ⟨g, 1, none⟩ = some (.int .i64 err) := hW.cell 1
  clear hW hc hD hz
  by_cases h0 : zs = []
  · have E := Lib.hid (show (if zs = [] then err else 121) = err from if_pos h0)
    subst h0
    go_enter Try.func42, Try.ntmps42
    go_wp2_with fail
    go_ret
    exact ⟨rfl, rfl⟩
  · have E := Lib.hid (show (if zs = [] then err else 121) = 121 from if_neg h0)
    have hp : (0 : Int) < zs.length := by
      have := List.length_pos_iff.2 h0
      omega
    go_enter Try.func42, Try.ntmps42
    go_wp2_with fail
    go_ret
    exact ⟨rfl, rfl⟩
end Go.Proofs.Ytdakooipelligaa
