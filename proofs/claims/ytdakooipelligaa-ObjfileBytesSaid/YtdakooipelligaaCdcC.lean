/- Codec: a Writer's groups, Count, Number, Word, Text. -/
import Derived.Test.YtdakooipelligaaCdcB
namespace Go.Proofs.Ytdakooipelligaa
open Go.ChangeShapes Go.WideShapes Go.ChangeAt Go.RowKit
set_option linter.unusedVariables false
set_option linter.unusedSimpArgs false

theorem or128 (n : Nat) : bits .or .u8 ((n : Int) % 256) 128 = (n : Int) % 128 + 128 := by
  have key : ∀ x : Fin 256, bits .or .u8 ((x.val : Nat) : Int) 128 = ((x.val % 128 + 128 : Nat) : Int) := of_decide_eq_true (by kernel_rfl)
  have h : bits .or .u8 ((n % 256 : Nat) : Int) 128 = ((n % 256 % 128 + 128 : Nat) : Int) := key ⟨n % 256, Nat.mod_lt _ (by decide)⟩
  have e : (((n % 256 : Nat) : Nat) : Int) = (n : Int) % 256 := by omega
  rw [← e, h, Nat.mod_mod_of_dvd n (by decide)]
  omega

theorem cntB_len10 {n : Nat} (h : n < 18446744073709551616) : (cntB n).length ≤ 10 := cntB_len 9 n (Nat.lt_of_lt_of_le h (by decide))

set_option maxHeartbeats 1000000 in
set_option maxRecDepth 100000 in
theorem wgroups_any (n : Nat) (B g : Nat) (h : Option Nat) (bs : List Int) (w : World) (hw : WrAt w B g h bs) (hB : B ≤ w.heap.size) (hn : bs.length ≤ 10000000) (h64 : n < 18446744073709551616) :
    Calls Try.prog 53 #[.pointer (some ⟨g, 0, none⟩), .int .u64 n] w fun e w' => e = .returned (.tuple #[]) ∧ WrPost w w' B g h (bs ++ cntB n) := by
  have HW := Lib.hid hw
  have HB := Lib.hid hB
  have HN := Lib.hid hn
  have HL := Lib.hid (cntB_len10 h64)
  clear hw hB hn
  go_enter Try.func53, Try.ntmps53
  go_wp2_with fail
  go_loopw [1] (fun i wr => ∃ (done : List Int) (m : Nat), m < 18446744073709551616 ∧ i = .int .u64 m ∧ cntB n = done ++ cntB m ∧ WrPost w wr B g h (bs ++ done)) (fun i _ => (intOf i).toNat)
  case atStart => exact ⟨[], n, h64, rfl, rfl, by rw [List.append_nil]; exact WrPost.refl HW.out⟩
  case round =>
    obtain ⟨done, m, hm, rfl, hc, hp⟩ := hrel
    have HC := Lib.hid hc
    obtain ⟨h1, a1, k1, o1⟩ := hp
    have hlen : done.length ≤ 10 := by
      have := HL.out
      rw [hc, List.length_append] at this
      omega
    have K1 := Lib.hid k1
    have O1 := Lib.hid (show WrMv w h h1 from o1)
    have hz : B ≤ wr.heap.size := Nat.le_trans HB.out k1.size
    have hl : (bs ++ done).length ≤ 100000000 := by
      rw [List.length_append]
      have := HN.out
      omega
    clear hc o1 k1 hlen
    by_cases hlt : m < 128
    · have WB := Lib.hid (wbyte_any (m : Int) B g h1 _ wr a1 hz hl)
      have E := Lib.hid (cntB_small hlt)
      clear a1 hz hl
      go_wp2_with fail
      refine WB.out.mono ?_
      rintro e w2 ⟨rfl, hp2⟩
      have P2 := Lib.hid hp2
      clear hp2
      go_wp2_with fail
      go_end0
      refine ⟨rfl, ?_⟩
      have hq := WrPost.trans K1.out O1.out P2.out
      rw [HC.out, E.out, ← List.append_assoc]
      exact hq
    · have hge : 128 ≤ m := by omega
      have WB := Lib.hid (wbyte_any ((m : Int) % 128 + 128) B g h1 _ wr a1 hz hl)
      have E := Lib.hid (cntB_big hge)
      have O := or128 m
      clear a1 hz hl
      go_wp2_with fail
      refine WB.out.mono ?_
      rintro e w2 ⟨rfl, hp2⟩
      have P2 := Lib.hid (WrPost.trans K1.out O1.out hp2)
      clear hp2 K1 O1
      go_wp2_with fail
      go_roundw
      case rel => 
        refine ⟨done ++ [(m : Int) % 128 + 128], m / 128, by omega, by go_num, ?_, ?_⟩
        · rw [HC.out, E.out, List.append_assoc]
          simp
        · rw [← List.append_assoc]
          exact P2.out
      case measure => simp [intOf]; omega

/-- What Count puts. -/
def cntI (n : Int) : List Int := cntB n.toNat

set_option maxHeartbeats 1000000 in
set_option maxRecDepth 100000 in
theorem wcount_any (n : Int) (B g : Nat) (h : Option Nat) (bs : List Int) (w : World) (hw : WrAt w B g h bs) (hB : B ≤ w.heap.size) (hn : bs.length ≤ 10000000) (h0 : -9223372036854775808 ≤ n) (h1 : n ≤ 9223372036854775807) :
    Calls Try.prog 28 #[.pointer (some ⟨g, 0, none⟩), .int .i64 n] w fun e w' => e = .returned (.tuple #[]) ∧ WrPost w w' B g h (bs ++ cntI n) := by
  have G := Lib.hid (wgroups_any n.toNat B g h bs w hw hB hn (by omega))
  clear hw hB hn
  by_cases hneg : n < 0
  · have E := Lib.hid (show n.toNat = 0 by omega)
    have C := Lib.hid (show cntI n = cntB n.toNat from rfl)
    rw [E.out] at G C
    go_enter Try.func28, Try.ntmps28
    go_wp2_with fail
    refine G.out.mono ?_
    rintro e w1 ⟨rfl, hp⟩
    have P := Lib.hid hp
    clear hp
    go_wp2_with fail
    go_end0
    exact ⟨rfl, C.out ▸ P.out⟩
  · obtain ⟨k, rfl⟩ : ∃ k : Nat, n = k := ⟨n.toNat, by omega⟩
    have C := Lib.hid (show cntI k = cntB k from rfl)
    rw [Int.toNat_natCast] at G
    go_enter Try.func28, Try.ntmps28
    go_wp2_with fail
    refine G.out.mono ?_
    rintro e w1 ⟨rfl, hp⟩
    have P := Lib.hid hp
    clear hp
    go_wp2_with fail
    go_end0
    exact ⟨rfl, C.out ▸ P.out⟩

end Go.Proofs.Ytdakooipelligaa