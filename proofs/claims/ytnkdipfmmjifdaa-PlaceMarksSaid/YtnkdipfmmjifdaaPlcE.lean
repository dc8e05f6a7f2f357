/- Place: Mark, and the answers' Mark. -/
import Derived.Test.YtnkdipfmmjifdaaPlcD
import Derived.Deep.RegionHeld3
import Derived.IntWalk
namespace Go.Proofs.Ytnkdipfmmjifdaa
open Go.ChangeShapes Go.WideShapes Go.ChangeAt Go.RowKit
set_option linter.unusedVariables false
set_option linter.unusedSimpArgs false

theorem data_len (s : ByteArray) : s.data.toList.length = s.size := Array.length_toList

/-- What stands below a byte. -/
def under (x : UInt8) : UInt8 := if x.toNat = 9 then 9 else 32

/-- Below the first k bytes of a line. -/
def unders (s : ByteArray) (k : Nat) : List UInt8 := (s.data.toList.take k).map under

/-- A line, and what is below it so far. -/
def markTo (s : ByteArray) (k : Nat) : List UInt8 := s.data.toList ++ [10] ++ unders s k

theorem markTo_zero (s : ByteArray) : markTo s 0 = s.data.toList ++ [10] := by simp [markTo, unders]

theorem markTo_succ {s : ByteArray} {k : Nat} (h : k < s.size) : markTo s (k + 1) = markTo s k ++ [under s[k]] := by
  unfold markTo unders
  rw [List.take_succ_eq_append_getElem (by simpa using h), List.map_append, ← List.append_assoc]
  rfl

theorem markTo_len {s : ByteArray} {k : Nat} (h : k ≤ s.size) : (markTo s k).length = s.size + 1 + k := by
  unfold markTo unders
  simp only [List.length_append, List.length_map, List.length_take, List.length_cons, List.length_nil]
  have := data_len s
  omega

/-- What Mark answers. -/
def markOf (s : ByteArray) (o : Int) : ByteArray := ⟨(markTo (lineAt s (cnt s (plc s o))) (clOf s (plc s o) - 1) ++ [94]).toArray⟩

theorem under_yes {x : UInt8} (h : ((x.toNat : Int) == 9) = true) : under x = 9 := by
  have : x.toNat = 9 := by simp only [beq_iff_eq] at h; omega
  exact if_pos this

theorem under_no {x : UInt8} (h : ((x.toNat : Int) == 9) = false) : under x = 32 := by
  have : ¬ x.toNat = 9 := by simp only [beq_eq_false_iff_ne, ne_eq] at h; omega
  exact if_neg this

theorem lineAt_size (s : ByteArray) (j : Nat) (hj : j ≤ (fd s).length) : (lineAt s j).size = hi s j - lo s j := by
  have := lo_hi s hj
  have := hi_le s j
  unfold lineAt
  rw [ByteArray.size_extract]
  omega

set_option maxHeartbeats 2000000 in
set_option maxRecDepth 100000 in
theorem mark_any (b : Nat) (s : ByteArray) (A : Option Addr) (c : Nat) (o : Int) (w : World) (h : Idx w b s A c) (hs : s.size ≤ 1000000) :
    Calls Try.prog 17 #[.pointer (some ⟨b, 0, none⟩), .int .i64 o] w fun e w' => e = .returned (.string (markOf s o)) ∧ Below w.heap.size w w' := by
  have hp := plc_le s o
  have AA := Lib.hid (at_any b s A c o w h hs)
  have hcn := cnt_le s hp
  have LL := Lib.hid (fun w' (h' : Idx w' b s A c) => line_yes b s A c (cnt s (plc s o)) w' h' hs hcn)
  have hsz := lineAt_size s _ hcn
  have h1 := lo_cnt s hp
  have h2 := hi_cnt s hp
  have h3 := hi_le s (cnt s (plc s o))
  have MO := Lib.hid (show markOf s o = ⟨(markTo (lineAt s (cnt s (plc s o))) (clOf s (plc s o) - 1) ++ [94]).toArray⟩ from rfl)
  have hcl : clOf s (plc s o) = plc s o - lo s (cnt s (plc s o)) + 1 := rfl
  have hln : lnOf s (plc s o) = cnt s (plc s o) + 1 := rfl
  have hcs := cnt_le_self s (plc s o)
  rw [hln] at AA
  have I0 := Lib.hid h
  clear h hln
  generalize markOf s o = mk at *
  generalize clOf s (plc s o) = cl at *
  generalize plc s o = k at *
  generalize cnt s k = j at *
  generalize lineAt s j = t at *
  have hk : cl - 1 ≤ t.size := by omega
  have ht : t.size ≤ 1000000 := by omega
  have hc1 : 1 ≤ cl := by omega
  have hj : j ≤ 1000000 := by omega
  clear hcl h1 h2 h3 hcs hsz hcn hp
  have MZ := Lib.hid (markTo_zero t)
  have MS := Lib.hid (fun k => @markTo_succ t k)
  have ML := Lib.hid (fun k => @markTo_len t k)
  go_enter Try.func17, Try.ntmps17
  go_wp2_with fail
  refine AA.out.mono ?_
  rintro e w1 ⟨rfl, q, rfl⟩
  have I1 := Lib.hid (I0.out.below (below_drawn (Below.refl _ _) q))
  have B1 := Lib.hid (below_drawn (Below.refl w.heap.size w) q)
  clear I0 AA
  generalize w.drewN q = w1 at *
  go_wp2_with fail
  refine (LL.out _ I1.out).mono ?_
  rintro e w2 ⟨rfl, hb2⟩
  have B2 := Lib.hid (B1.out.trans (hb2.mono B1.out.size))
  have bz2 : w.heap.size ≤ w2.heap.size := B2.out.size
  clear hb2 B1 I1 LL
  go_wp2_with fail
  have BN := Lib.hid (bldr_new w2)
  have B3 := Lib.hid (B2.out.alloc bz2 (.cells #[.pointer none, .slice none 0 0] 51))
  have z3 : w2.heap.size ≤ (w2.alloc (.cells #[.pointer none, .slice none 0 0] 51)).heap.size := by simp
  generalize w2.alloc (.cells #[.pointer none, .slice none 0 0] 51) = w3 at *
  generalize hg : w2.heap.size = g at *
  clear hg B2
  refine (writestring_any g g [] t w3 BN.out (by simp; omega) z3).mono ?_
  rintro e w4 ⟨rfl, hu, hb4, _⟩
  have B4 := Lib.hid (B3.out.trans (hb4.mono bz2))
  have U4 := Lib.hid hu.is
  have z4 : g ≤ w4.heap.size := Nat.le_trans z3 hb4.size
  rw [List.nil_append] at U4
  clear hu hb4 BN B3 z3
  go_wp2_with fail
  refine (writebyte_any g g _ 10 w4 U4.out (by rw [data_len]; omega) z4).mono ?_
  rintro e w5 ⟨rfl, hu, hb5, _⟩
  have B5 := Lib.hid (B4.out.trans (hb5.mono bz2))
  have U5 := Lib.hid (show Bldr w5 g g (markTo t 0) by rw [MZ.out]; exact hu.is)
  have z5 : g ≤ w5.heap.size := Nat.le_trans z4 hb5.size
  clear hu hb5 B4 U4 z4
  go_wp2_with fail
  go_loopw [24] (fun i wr => ∃ n : Nat, n ≤ cl - 1 ∧ i = .int .i64 n ∧ Bldr wr g g (markTo t n) ∧ Below w.heap.size w wr ∧ g ≤ wr.heap.size) (fun i _ => cl - 1 - (intOf i).toNat)
  case atStart => exact ⟨0, Nat.zero_le _, rfl, U5.out, B5.out, z5⟩
  case round =>
    clear U5 B5 z5
    obtain ⟨n, hn, rfl, hU, hB, hz⟩ := hrel
    have U5 := Lib.hid hU
    have B5 := Lib.hid hB
    clear hU hB
    by_cases hlt : n < cl - 1
    · have hI : (n : Int) < (cl : Int) - 1 := by omega
      have hT : n < t.size := by omega
      have hTI : (n : Int) < t.size := by omega
      have E := Lib.hid (MS.out n hT)
      have hl := ML.out n (by omega)
      cases hx : ((t[n].toNat : Int) == 9) with
      | true =>
        have X := Lib.hid (under_yes hx)
        have W := Lib.hid (writebyte_any g g (markTo t n) 9 wr U5.out (by omega) hz)
        clear hl
        go_wp2_with fail
        refine W.out.mono ?_
        rintro e w6 ⟨rfl, hu, hb6, _⟩
        have B6 := Lib.hid (B5.out.trans (hb6.mono bz2))
        have U6 := Lib.hid (show Bldr w6 g g (markTo t (n + 1)) by rw [E.out, X.out]; exact hu.is)
        have z6 : g ≤ w6.heap.size := Nat.le_trans hz hb6.size
        clear hu hb6 B5 U5 hz
        go_wp2_with fail
        go_roundw
        case rel => exact ⟨n + 1, by omega, by go_num, U6.out, B6.out, z6⟩
        case measure => simp [intOf]; omega
      | false =>
        have X := Lib.hid (under_no hx)
        have W := Lib.hid (writebyte_any g g (markTo t n) 32 wr U5.out (by omega) hz)
        clear hl
        go_wp2_with fail
        refine W.out.mono ?_
        rintro e w6 ⟨rfl, hu, hb6, _⟩
        have B6 := Lib.hid (B5.out.trans (hb6.mono bz2))
        have U6 := Lib.hid (show Bldr w6 g g (markTo t (n + 1)) by rw [E.out, X.out]; exact hu.is)
        have z6 : g ≤ w6.heap.size := Nat.le_trans hz hb6.size
        clear hu hb6 B5 U5 hz
        go_wp2_with fail
        go_roundw
        case rel => exact ⟨n + 1, by omega, by go_num, U6.out, B6.out, z6⟩
        case measure => simp [intOf]; omega
    · have hI : ¬ (n : Int) < (cl : Int) - 1 := by omega
      obtain rfl : n = cl - 1 := by omega
      have hl := ML.out (cl - 1) hk
      generalize markTo t (cl - 1) = l at *
      go_wp2_with fail
      refine (writebyte_any g g l 94 wr U5.out (by omega) hz).mono ?_
      rintro e w6 ⟨rfl, hu, hb6, _⟩
      have B6 := Lib.hid (B5.out.trans (hb6.mono bz2))
      have U6 := Lib.hid hu.is
      have z6 : g ≤ w6.heap.size := Nat.le_trans hz hb6.size
      clear hu hb6 B5 U5 hz
      go_wp2_with fail
      refine (bldstring_any g g _ w6 U6.out z6).mono ?_
      rintro e w7 ⟨rfl, hb7⟩
      have B7 := Lib.hid (B6.out.trans (hb7.mono bz2))
      clear hb7
      go_wp2_with fail
      go_ret
      exact ⟨by rw [MO.out]; rfl, B7.out⟩

/-- The text so far, of the answers' Mark. -/
def marked (s : ByteArray) (k : Nat) : ByteArray := ⟨(markTo s k).toArray⟩

theorem marked_zero (s : ByteArray) : marked s 0 = s ++ ⟨#[10]⟩ := by
  unfold marked
  rw [markTo_zero]
  apply ByteArray.ext
  apply Array.ext'
  simp

theorem marked_succ {s : ByteArray} {k : Nat} (h : k < s.size) (x : UInt8) (hx : under s[k] = x) : marked s (k + 1) = marked s k ++ ⟨#[x]⟩ := by
  unfold marked
  rw [markTo_succ h, hx]
  apply ByteArray.ext
  simp

theorem marked_size {s : ByteArray} {k : Nat} (h : k ≤ s.size) : (marked s k).size = s.size + 1 + k := by
  rw [← markTo_len h]
  rfl

set_option maxHeartbeats 2000000 in
set_option maxRecDepth 100000 in
theorem refmark_any (s : ByteArray) (o : Int) (w : World) (hs : s.size ≤ 1000000) :
    Calls Try.prog 18 #[.string s, .int .i64 o] w fun e w' => e = .returned (.string (markOf s o)) ∧ Below w.heap.size w w' := by
  have hp := plc_le s o
  have AA := Lib.hid (refat_any s o w hs)
  have RL := Lib.hid (reflines_any s w hs)
  have hcn := cnt_le s hp
  have hsz := lineAt_size s _ hcn
  have h1 := lo_cnt s hp
  have h2 := hi_cnt s hp
  have h3 := hi_le s (cnt s (plc s o))
  have MO := Lib.hid (show markOf s o = marked (lineAt s (cnt s (plc s o))) (clOf s (plc s o) - 1) ++ ⟨#[94]⟩ by unfold markOf marked; apply ByteArray.ext; simp)
  have hcl : clOf s (plc s o) = plc s o - lo s (cnt s (plc s o)) + 1 := rfl
  have hln : lnOf s (plc s o) = cnt s (plc s o) + 1 := rfl
  have hcs := cnt_le_self s (plc s o)
  have LG := Lib.hid (linesOf_get hcn)
  rw [hln] at AA
  clear hln
  generalize markOf s o = mk at *
  generalize clOf s (plc s o) = cl at *
  generalize plc s o = k at *
  generalize cnt s k = j at *
  generalize lineAt s j = t at *
  generalize (fd s).length = m at *
  have hk : cl - 1 ≤ t.size := by omega
  have ht : t.size ≤ 1000000 := by omega
  have hc1 : 1 ≤ cl := by omega
  have hj : j ≤ 1000000 := by omega
  clear hcl h1 h2 h3 hcs hsz hp
  have MZ := Lib.hid (marked_zero t)
  have MS := Lib.hid (fun k => @marked_succ t k)
  have ML := Lib.hid (fun k => @marked_size t k)
  go_enter Try.func18, Try.ntmps18
  go_wp2_with fail
  refine AA.out.mono ?_
  rintro e w1 ⟨rfl, rfl⟩
  go_wp2_with fail
  refine RL.out.mono ?_
  rintro e w2 ⟨v, rfl, ho, hb2⟩
  obtain ⟨A2, c2, rfl, hz⟩ := ho.form
  obtain ⟨g, off, rfl, _, hc⟩ := hz.2 (by omega)
  have u0 := hc j (by omega)
  rw [LG.out] at u0
  have B2 := Lib.hid hb2
  clear hc hz ho hb2 AA RL
  have hjI : (j : Int) < (m : Int) + 1 := by omega
  have MZs := MZ.out ▸ ML.out 0 (Nat.zero_le _)
  go_wp2_with fail
  go_loop [8, 9] (fun v i => ∃ n : Nat, n ≤ cl - 1 ∧ i = .int .i64 n ∧ v = .string (marked t n)) (fun _ i => cl - 1 - (intOf i).toNat)
  case atStart => exact ⟨0, Nat.zero_le _, rfl, by rw [MZ.out]⟩
  case round =>
    obtain ⟨n, hn, rfl, rfl⟩ := hrel
    have hl := ML.out n (by omega)
    by_cases hlt : n < cl - 1
    · have hI : (n : Int) < (cl : Int) - 1 := by omega
      have hT : n < t.size := by omega
      have hTI : (n : Int) < t.size := by omega
      cases hx : ((t[n].toNat : Int) == 9) with
      | true =>
        have E := Lib.hid (MS.out n hT 9 (under_yes hx))
        generalize marked t n = z at *
        go_wp2_with fail
        go_round
        case rel => exact ⟨n + 1, by omega, by go_num, by rw [E.out]⟩
        case measure => simp [intOf]; omega
      | false =>
        have E := Lib.hid (MS.out n hT 32 (under_no hx))
        generalize marked t n = z at *
        go_wp2_with fail
        go_round
        case rel => exact ⟨n + 1, by omega, by go_num, by rw [E.out]⟩
        case measure => simp [intOf]; omega
    · have hI : ¬ (n : Int) < (cl : Int) - 1 := by omega
      obtain rfl : n = cl - 1 := by omega
      generalize marked t (cl - 1) = z at *
      go_wp2_with fail
      go_ret
      exact ⟨by rw [MO.out]; rfl, B2.out⟩
end Go.Proofs.Ytnkdipfmmjifdaa
