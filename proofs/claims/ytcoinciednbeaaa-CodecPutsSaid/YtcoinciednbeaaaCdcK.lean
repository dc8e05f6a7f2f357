/- Codec: the law CodecPuts. -/
import Derived.Test.YtcoinciednbeaaaCdcJ
namespace Go.Proofs.Ytcoinciednbeaaa
open Go.ChangeShapes Go.WideShapes Go.ChangeAt Go.RowKit
set_option linter.unusedVariables false
set_option linter.unusedSimpArgs false

set_option maxHeartbeats 4000000 in
set_option maxRecDepth 100000 in
theorem puts_walk (W : World) (A : Option Addr) (n c : Nat) (f : Nat → Pc) (hO : PcsIn W A n f) (hm : n ≤ maxLen) :
    Calls Try.prog 3 #[.slice A n c] W fun e w' => e = .returned (.bool true) ∧ Below W.heap.size W w' := by
  have HO := Lib.hid hO
  have AW := Lib.hid (awake12_any W)
  have HM := Lib.hid (show n ≤ 9223372036854775807 from by unfold maxLen at hm; omega)
  clear hO hm
  go_enter Try.func3, Try.ntmps3
  go_wp2_with fail
  refine AW.out.mono ?_
  rintro e w1 ⟨rfl, hb1⟩
  have P0 := Lib.hid (show Put (w1.alloc (.cells #[.slice none 0 0] wrT)) W.heap.size w1.heap.size none [] (.slice none 0 0) [] from ⟨wrAt_new w1 W.heap.size w1.heap.size rfl hb1.size, Owns.nil _ _ _ _, fun b hb => by simp [Value.ownBlock] at hb⟩)
  have B0 := Lib.hid (hb1.alloc hb1.size (.cells #[.slice none 0 0] wrT))
  clear hb1 AW
  go_wp2_with fail
  generalize w1.alloc (.cells #[.slice none 0 0] wrT) = V at *
  generalize w1.heap.size = g at *
  go_loopw [4, 5] (fun v i wr => ∃ (t : Nat) (h : Option Nat) (bs : List Int), t ≤ n ∧ t ≤ 60 ∧ i = .int .i64 t ∧ bs.length ≤ 1010 * t ∧ Put wr W.heap.size g h bs v bs ∧ Below W.heap.size W wr) (fun _ i _ => 60 - (intOf i).toNat)
  case atStart => exact ⟨0, none, [], Nat.zero_le _, by decide, rfl, by decide, P0.out, B0.out⟩
  case round =>
    clear P0 B0
    obtain ⟨t, h, bs, htn, ht60, rfl, hlen, hp, hb⟩ := hrel
    have P := Lib.hid hp
    have B := Lib.hid hb
    have LE := Lib.hid (show bs.length ≤ 60600 from by omega)
    have LT := Lib.hid hlen
    clear hp hb hlen
    by_cases hlt : t < n ∧ t < 60
    · have hI : (t : Int) < n := by omega
      have hI6 : (t : Int) < 60 := by omega
      have HOT := HO.out.below B.out
      obtain ⟨b, off, rfl, hbB, hcs⟩ := HOT.1 (by omega)
      have hgood := HOT.2 t hlt.1
      have hcc := hcs t hlt.1
      have PT := Lib.hid (fun hs => put_any (f t) W.heap.size g h bs bs _ wr P.out B.out.size (by have := LE.out; omega) (by have := LE.out; omega) hs hgood.1.1 hgood.1.2)
      have PL := Lib.hid (fun hs => pieceB_len (f t) hgood.1.2 hs)
      generalize f t = p at *
      have p0 : wr.cell? ⟨b, off + t * 3, none⟩ = some (.int .i64 p.kind) := hcc 0 _ rfl
      have p1 : wr.cell? ⟨b, off + t * 3 + 1, none⟩ = some (.int .i64 p.n) := by rw [Nat.add_assoc]; exact hcc 1 _ rfl
      have p2 : wr.cell? ⟨b, off + t * 3 + 2, none⟩ = some (.string p.s) := by rw [Nat.add_assoc]; exact hcc 2 _ rfl
      have hsz : p.s.size ≤ 140737488355328 := hgood.2
      clear hcs hcc HOT hgood
      by_cases hs : 1000 < p.s.size
      · have hS : (1000 : Int) < p.s.size := by omega
        go_wp2_with fail
        go_ret
        exact ⟨rfl, B.out⟩
      · have hS : ¬ (1000 : Int) < p.s.size := by omega
        have C := Lib.hid (PT.out (by omega))
        have PL := Lib.hid (PL.out (by omega))
        clear PT
        go_wp2_with fail
        refine C.out.mono ?_
        rintro e w2 ⟨h2, v2, rfl, hp2, hb2⟩
        have P2 := Lib.hid hp2
        have B2 := Lib.hid (B.out.trans hb2)
        have L2 := Lib.hid (show (bs ++ pieceB p).length ≤ 1010 * (t + 1) from by rw [List.length_append]; have := LT.out; have := PL.out; omega)
        clear hp2 hb2 C
        go_wp2_with fail
        go_roundw
        case rel => exact ⟨t + 1, h2, bs ++ pieceB p, by omega, by omega, by go_num, L2.out, P2.out, B2.out⟩
        case measure => simp [intOf]; omega
    · have hx : t = n ∨ (t = 60 ∧ t < n) := by omega
      obtain ⟨A4, c4, hv, N4⟩ := P.out.own.form
      subst hv
      have BY := Lib.hid (wbytes_any _ _ _ _ wr P.out.wr (by have := LE.out; omega))
      have N5 := Lib.hid N4
      clear hlt N4
      rcases hx with rfl | ⟨rfl, hx⟩
      · go_wp2_with fail
        refine BY.out.mono ?_
        rintro e w3 ⟨A', c', rfl, hb3, ho3⟩
        have SM := Lib.hid (same_any A' A4 bs.length bs.length c' c4 bs bs w3 (by have := LE.out; omega) ho3.nums (N5.out.below hb3))
        have WL := Lib.hid (P.out.wr.below hb3)
        have B3 := Lib.hid (B.out.trans (hb3.mono B.out.size))
        clear hb3 ho3 BY
        go_wp2_with fail
        refine SM.out.mono ?_
        rintro e w5 ⟨rfl, hb5⟩
        have L := Lib.hid (wlen_any _ _ _ _ w5 (WL.out.below hb5))
        have B5 := Lib.hid (B3.out.trans (hb5.mono B3.out.size))
        clear hb5 SM WL
        go_wp2_with fail
        refine L.out.mono ?_
        rintro e w6 ⟨rfl, rfl⟩
        go_wp2_with fail
        go_ret
        exact ⟨rfl, B5.out⟩
      · have hI : (60 : Int) < n := by omega
        go_wp2_with fail
        refine BY.out.mono ?_
        rintro e w3 ⟨A', c', rfl, hb3, ho3⟩
        have SM := Lib.hid (same_any A' A4 bs.length bs.length c' c4 bs bs w3 (by have := LE.out; omega) ho3.nums (N5.out.below hb3))
        have WL := Lib.hid (P.out.wr.below hb3)
        have B3 := Lib.hid (B.out.trans (hb3.mono B.out.size))
        clear hb3 ho3 BY
        go_wp2_with fail
        refine SM.out.mono ?_
        rintro e w5 ⟨rfl, hb5⟩
        have L := Lib.hid (wlen_any _ _ _ _ w5 (WL.out.below hb5))
        have B5 := Lib.hid (B3.out.trans (hb5.mono B3.out.size))
        clear hb5 SM WL
        go_wp2_with fail
        refine L.out.mono ?_
        rintro e w6 ⟨rfl, rfl⟩
        go_wp2_with fail
        go_ret
        exact ⟨rfl, B5.out⟩
end Go.Proofs.Ytcoinciednbeaaa
