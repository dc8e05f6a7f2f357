/- The answers' place: At, Offset, Lines. -/
import Derived.Test.YtnkdipfmmjifdaaPlcA
import Derived.Test.YtnkdipfmmjifdaaStrs
namespace Go.Proofs.Ytnkdipfmmjifdaa
open Go.ChangeShapes Go.WideShapes Go.ChangeAt Go.RowKit
set_option linter.unusedVariables false
set_option linter.unusedSimpArgs false

theorem feed_eq {s : ByteArray} {k : Nat} (h : k < s.size) : ((s[k].toNat : Int) == 10) = feedAt s k := by
  unfold feedAt
  have : s.get! k = s[k] := by simp [ByteArray.get!, getElem!_pos, h]; rfl
  rw [this, Bool.eq_iff_iff]
  simp only [beq_iff_eq]
  omega

/-- A place that is limited to the text's. -/
def plc (s : ByteArray) (o : Int) : Nat := min o.toNat s.size

theorem plc_le (s : ByteArray) (o : Int) : plc s o ≤ s.size := Nat.min_le_right _ _

/-- The line and the column of a place. -/
def lnOf (s : ByteArray) (k : Nat) : Nat := cnt s k + 1

def clOf (s : ByteArray) (k : Nat) : Nat := k - lo s (cnt s k) + 1

theorem lnOf_bd (s : ByteArray) {k : Nat} (h : k ≤ s.size) : lnOf s k ≤ s.size + 1 ∧ clOf s k ≤ s.size + 1 ∧ 1 ≤ lnOf s k ∧ 1 ≤ clOf s k := by
  have := cnt_le_self s k
  unfold lnOf clOf
  omega

theorem clOf_no {s : ByteArray} {k : Nat} (hk : k < s.size) (h : feedAt s k = false) : clOf s (k + 1) = clOf s k + 1 ∧ lnOf s (k + 1) = lnOf s k := by
  have h1 := lo_cnt s (Nat.le_of_lt hk)
  unfold clOf lnOf
  rw [cnt_succ_no h]
  omega

theorem clOf_yes {s : ByteArray} {k : Nat} (hk : k < s.size) (h : feedAt s k = true) : clOf s (k + 1) = 1 ∧ lnOf s (k + 1) = lnOf s k + 1 := by
  unfold clOf lnOf
  rw [cnt_succ_yes h, lo_succ hk h]
  omega

set_option maxHeartbeats 1000000 in
set_option maxRecDepth 100000 in
theorem refat_any (s : ByteArray) (o : Int) (w : World) (hs : s.size ≤ 1000000) :
    Calls Try.prog 14 #[.string s, .int .i64 o] w fun e w' => e = .returned (.tuple #[.int .i64 (lnOf s (plc s o) : Nat), .int .i64 (clOf s (plc s o) : Nat)]) ∧ w = w' := by
  have P := plc_le s o
  have PD : (plc s o : Int) ≤ o ∨ plc s o = 0 := by unfold plc; omega
  have PE : ∀ i, i < plc s o → (i : Int) < o := fun i h => by unfold plc at h; omega
  have PF : ¬ ((plc s o : Int) < o) ∨ plc s o = s.size := by unfold plc; omega
  generalize plc s o = k at *
  go_enter Try.func14, Try.ntmps14
  go_wp2
  go_loop [6, 7, 8] (fun l c i => ∃ t : Nat, t ≤ k ∧ i = .int .i64 t ∧ l = .int .i64 (lnOf s t : Nat) ∧ c = .int .i64 (clOf s t : Nat)) (fun _ _ i => k - (intOf i).toNat)
  case atStart => exact ⟨0, Nat.zero_le _, rfl, rfl, rfl⟩
  case round =>
    obtain ⟨t, ht, rfl, rfl, rfl⟩ := hrel
    have bd := lnOf_bd s (k := t) (by omega)
    by_cases hlt : t < k
    · have hI := PE t hlt
      have hS : (t : Int) < s.size := by omega
      have hS' : t < s.size := by omega
      have F := feed_eq hS'
      cases hf : feedAt s t with
      | true =>
        have E := Lib.hid (clOf_yes hS' hf)
        rw [hf] at F
        clear hf PD PF PE
        generalize lnOf s t = a at *
        generalize clOf s t = b at *
        go_wp2
        go_round
        case rel => exact ⟨t + 1, by omega, by go_num, by rw [E.out.2]; go_num, by rw [E.out.1]; go_num⟩
        case measure => simp [intOf]; omega
      | false =>
        have E := Lib.hid (clOf_no hS' hf)
        rw [hf] at F
        clear hf PD PF PE
        generalize lnOf s t = a at *
        generalize clOf s t = b at *
        go_wp2
        go_round
        case rel => exact ⟨t + 1, by omega, by go_num, by rw [E.out.2], by rw [E.out.1]; go_num⟩
        case measure => simp [intOf]; omega
    · obtain rfl : t = k := by omega
      generalize hA : lnOf s t = a at *
      generalize hB : clOf s t = b at *
      have HA := Lib.hid hA
      have HB := Lib.hid hB
      clear hA hB
      by_cases hI : (t : Int) < o
      · have hS : ¬ (t : Int) < s.size := by omega
        go_wp2
        go_ret2
        exact ⟨by rw [HA.out, HB.out]; rfl, rfl⟩
      · go_wp2
        go_ret2
        exact ⟨by rw [HA.out, HB.out]; rfl, rfl⟩

/-- Is a place the one at this line and this column? -/
def isAt (s : ByteArray) (line column : Int) (i : Nat) : Bool := (lnOf s i : Int) == line && (clOf s i : Int) == column

/-- The place at a line and a column: -1 if there is none. -/
def offOf (s : ByteArray) (line column : Int) : Int :=
  match (List.range (s.size + 1)).find? (isAt s line column) with
  | some i => (i : Int)
  | none => -1

theorem offOf_some {s : ByteArray} {line column : Int} {i : Nat} (hi : i ≤ s.size) (h : isAt s line column i = true) (h0 : ∀ j, j < i → isAt s line column j = false) : offOf s line column = i := by
  unfold offOf
  have : (List.range (s.size + 1)).find? (isAt s line column) = some i := by
    rw [List.find?_range_eq_some]
    exact ⟨h, by simp; omega, fun j hj => by simp [h0 j hj]⟩
  rw [this]

theorem offOf_none {s : ByteArray} {line column : Int} (h0 : ∀ j, j ≤ s.size → isAt s line column j = false) : offOf s line column = -1 := by
  unfold offOf
  have : (List.range (s.size + 1)).find? (isAt s line column) = none := by
    rw [List.find?_eq_none]
    intro j hj
    rw [h0 j (by have := List.mem_range.1 hj; omega)]
    decide
  rw [this]

set_option maxHeartbeats 1000000 in
set_option maxRecDepth 100000 in
theorem refoffset_any (s : ByteArray) (line column : Int) (w : World) (hs : s.size ≤ 1000000) :
    Calls Try.prog 16 #[.string s, .int .i64 line, .int .i64 column] w fun e w' => e = .returned (.int .i64 (offOf s line column)) ∧ w = w' := by
  have RA := Lib.hid (fun (i : Nat) w => refat_any s i w hs)
  have OS := Lib.hid (fun i => @offOf_some s line column i)
  have ON := Lib.hid (@offOf_none s line column)
  generalize offOf s line column = r at *
  go_enter Try.func16, Try.ntmps16
  go_wp2
  go_loop [7] (fun i => ∃ t : Nat, t ≤ s.size + 1 ∧ i = .int .i64 t ∧ ∀ j, j < t → isAt s line column j = false) (fun i => s.size + 1 - (intOf i).toNat)
  case atStart => exact ⟨0, Nat.zero_le _, rfl, fun j h => absurd h (Nat.not_lt_zero _)⟩
  case round =>
    obtain ⟨t, ht, rfl, hA⟩ := hrel
    have HA := Lib.hid hA
    clear hA
    by_cases hlt : t ≤ s.size
    · have hI : (t : Int) ≤ s.size := by omega
      have hP : plc s (t : Int) = t := by unfold plc; omega
      have bd := lnOf_bd s hlt
      have R := Lib.hid (show Calls Try.prog 14 #[.string s, .int .i64 t] w fun e w' => e = .returned (.tuple #[.int .i64 (lnOf s t : Nat), .int .i64 (clOf s t : Nat)]) ∧ w = w' by have := RA.out t w; rwa [hP] at this)
      have IA := Lib.hid (show isAt s line column t = ((lnOf s t : Int) == line && (clOf s t : Int) == column) from rfl)
      clear hP
      generalize lnOf s t = a at *
      generalize clOf s t = b at *
      by_cases h1 : (a : Int) = line
      · have d1 : ((a : Int) == line) = true := by simpa using h1
        by_cases h2 : (b : Int) = column
        · have d2 : ((b : Int) == column) = true := by simpa using h2
          have E := Lib.hid (OS.out t hlt (by rw [IA.out, d1, d2]; rfl) HA.out)
          clear h1 h2
          go_wp2_with fail
          refine R.out.mono ?_
          rintro e w' ⟨rfl, rfl⟩
          go_wp2_with fail
          go_ret
          exact ⟨by rw [E.out]; rfl, rfl⟩
        · have d2 : ((b : Int) == column) = false := by simpa using h2
          have E := Lib.hid (show isAt s line column t = false by rw [IA.out, d2, Bool.and_false])
          clear h1 h2
          go_wp2_with fail
          refine R.out.mono ?_
          rintro e w' ⟨rfl, rfl⟩
          go_wp2_with fail
          go_round
          case rel => exact ⟨t + 1, by omega, by go_num, fun j hj => (Nat.lt_or_ge j t).elim (HA.out j) (fun h => by rw [show j = t by omega]; exact E.out)⟩
          case measure => simp [intOf]; omega
      · have d1 : ((a : Int) == line) = false := by simpa using h1
        have E := Lib.hid (show isAt s line column t = false by rw [IA.out, d1, Bool.false_and])
        clear h1
        go_wp2_with fail
        refine R.out.mono ?_
        rintro e w' ⟨rfl, rfl⟩
        go_wp2_with fail
        go_round
        case rel => exact ⟨t + 1, by omega, by go_num, fun j hj => (Nat.lt_or_ge j t).elim (HA.out j) (fun h => by rw [show j = t by omega]; exact E.out)⟩
        case measure => simp [intOf]; omega
    · have hI : ¬ (t : Int) ≤ s.size := by omega
      have E := Lib.hid (ON.out fun j hj => HA.out j (by omega))
      go_wp2_with fail
      go_ret
      exact ⟨by rw [E.out]; rfl, rfl⟩

theorem rowStrP : StrRow Try.prog 25 9 := strRow_mk Try.underlying25 (by kernel_rfl)

set_option maxHeartbeats 2000000 in
set_option maxRecDepth 100000 in
theorem reflines_any (s : ByteArray) (w : World) (hs : s.size ≤ 1000000) :
    Calls Try.prog 9 #[.string s] w fun e w' => ∃ v, e = .returned v ∧ OwnsS 9 w' w.heap.size v ((fd s).length + 1) (linesOf s) ∧ Below w.heap.size w w' := by
  have CE := Lib.hid (cnt_end s)
  have LE := Lib.hid (linesOf_eq s)
  have CL := Lib.hid (fun k => @cnt_le s k)
  go_enter Try.func9, Try.ntmps9
  go_wp2_with fail
  go_loopw [3, 4, 5] (fun v f i wr => ∃ t : Nat, t ≤ s.size ∧ i = .int .i64 t ∧ f = .int .i64 (lo s (cnt s t) : Nat) ∧ OwnsS 9 wr w.heap.size v (cnt s t) (linesTo s t) ∧ Below w.heap.size w wr) (fun _ _ i _ => s.size - (intOf i).toNat)
  case atStart => exact ⟨0, Nat.zero_le _, rfl, rfl, OwnsS.nil _ _ _, Below.refl _ _⟩
  case round =>
    obtain ⟨t, ht, rfl, rfl, ho, hb⟩ := hrel
    obtain ⟨A, cp, rfl, _⟩ := ho.form
    have HO := Lib.hid ho
    have HB := Lib.hid hb
    have hl := lo_cnt s ht
    have hc := cnt_le_self s t
    have hsz : w.heap.size ≤ wr.heap.size := HB.out.size
    by_cases hlt : t < s.size
    · have hI : (t : Int) < s.size := by omega
      have F := feed_eq hlt
      cases hf : feedAt s t with
      | true =>
        have E := Lib.hid (linesTo_yes hlt hf)
        have E2 := Lib.hid (cnt_succ_yes hf)
        have E3 := Lib.hid (lo_succ hlt hf)
        rw [hf] at F
        clear hf ho hb
        generalize hn : cnt s t = n at *
        generalize lo s n = l at *
        have hn' := Lib.hid hn
        clear hn
        have BA := Lib.hid (HB.out.alloc hsz (.cells #[.string (s.extract l t)] 9))
        have OA := Lib.hid (HO.out.alloc (.cells #[.string (s.extract l t)] 9))
        have NZ := Lib.hid (strs_built 9 wr [s.extract l t] #[.string (s.extract l t)] rfl 1 rfl (by decide) wr.heap.size rfl)
        clear HO HB
        go_wp2_with (at_builtin; refine wpList_append_strs _ rfl _ _ rfl rowStrP w.heap.size (.slice A n cp) n _ rfl OA.out (some ⟨wr.heap.size, 0, none⟩) 1 1 [s.extract l t] rfl NZ.out (by omega) (by have := BA.out.size; simpa using this) ?_; intro v1 w1 ho1 hg1 _; have B1 := Lib.hid (OwnsS.grown_below BA.out OA.out hg1 (by have := BA.out.size; simpa using this)); have O1 := Lib.hid ho1; clear ho1 hg1)
        go_roundw
        case rel => exact ⟨t + 1, by omega, by go_num, by rw [E2.out, E3.out]; go_num, by rw [E2.out, E.out]; exact O1.out, B1.out⟩
        case measure => simp [intOf]; omega
      | false =>
        have E := Lib.hid (linesTo_no hf)
        have E2 := Lib.hid (cnt_succ_no hf)
        rw [hf] at F
        clear hf ho hb
        generalize hL : lo s (cnt s t) = l at *
        have HL := Lib.hid hL
        clear hL
        go_wp2_with fail
        go_roundw
        case rel => exact ⟨t + 1, by omega, by go_num, by rw [E2.out, HL.out], by rw [E2.out, E.out]; exact HO.out, HB.out⟩
        case measure => simp [intOf]; omega
    · obtain rfl : t = s.size := by omega
      have hI : ¬ (s.size : Int) < s.size := by omega
      clear ho hb
      have C := Lib.hid (CE.out)
      generalize hn : cnt s s.size = n at *
      have HN := Lib.hid hn
      clear hn
      generalize lo s n = l at *
      have BA := Lib.hid (HB.out.alloc hsz (.cells #[.string (s.extract l s.size)] 9))
      have OA := Lib.hid (HO.out.alloc (.cells #[.string (s.extract l s.size)] 9))
      have NZ := Lib.hid (strs_built 9 wr [s.extract l s.size] #[.string (s.extract l s.size)] rfl 1 rfl (by decide) wr.heap.size rfl)
      clear HO HB
      go_wp2_with (at_builtin; refine wpList_append_strs _ rfl _ _ rfl rowStrP w.heap.size (.slice A n cp) n _ rfl OA.out (some ⟨wr.heap.size, 0, none⟩) 1 1 [s.extract l s.size] rfl NZ.out (by omega) (by have := BA.out.size; simpa using this) ?_; intro v1 w1 ho1 hg1 _; have B1 := Lib.hid (OwnsS.grown_below BA.out OA.out hg1 (by have := BA.out.size; simpa using this)); have O1 := Lib.hid ho1; clear ho1 hg1)
      go_ret
      exact ⟨v1, rfl, by rw [LE.out, ← C.out]; exact O1.out, B1.out⟩
end Go.Proofs.Ytnkdipfmmjifdaa
