/- Scopes: ScopePlays. -/
import Derived.Test.YtpfoebnlngfebaaScpY
import Derived.Test.YtpfoebnlngfebaaScpR2
import Derived.Test.YtpfoebnlngfebaaScpT2
import Derived.Test.YtpfoebnlngfebaaScpU
namespace Go.Proofs.Ytpfoebnlngfebaa
open Go.ChangeShapes Go.WideShapes Go.ChangeAt Go.RowKit
set_option linter.unusedVariables false
set_option linter.unusedSimpArgs false

theorem exports_mem {s : Stt} {e : Ex} (h : e ∈ exportsP s) : ∃ x ∈ s.L, e = obEx x := by
  unfold exportsP at h
  obtain ⟨x, hx, rfl⟩ := List.mem_map.1 h
  exact ⟨x, (List.mem_filter.1 (List.mem_filter.1 hx).1).1, rfl⟩

theorem exports_len {k : Nat} {s : Stt} (h : Inv k s) : (exportsP s).length ≤ k := by
  unfold exportsP
  rw [List.length_map]
  exact Nat.le_trans (List.length_filter_le _ _) (Nat.le_trans (List.length_filter_le _ _) h.len)

/-- Both lists of what others may use are the same. -/
theorem same_exports (A1 A2 : Option Addr) (c1 c2 B B1 B2 k : Nat) (s : Stt) (l1 l2 : List Exx) (w : World) (h1 : RowE w B B1 (.slice A1 l1.length c1) l1) (h2 : RowE w B B2 (.slice A2 l2.length c2) l2) (e1 : l1.map (·.1) = exportsP s) (e2 : l2.map (·.1) = exportsP s) (hI : Inv k s) (hk : k ≤ 100) :
    Calls Try.prog 8 #[.slice A1 l1.length c1, .slice A2 l2.length c2] w fun e w' => e = .returned (.bool true) ∧ Below w.heap.size w w' :=
  same_any A1 A2 c1 c2 B B1 B2 l1 l2 w h1 h2 (e1.trans e2.symm) (by
    have := congrArg List.length e1
    rw [List.length_map] at this
    have := exports_len hI
    omega) (fun x hx => by
    have hm : x.1 ∈ exportsP s := by rw [← e1]; exact List.mem_map.2 ⟨x, hx, rfl⟩
    obtain ⟨y, hy, e⟩ := exports_mem hm
    rw [e]
    exact (hI.ok y hy).2)

set_option maxHeartbeats 32000000 in
set_option maxRecDepth 100000 in
theorem plays_walk (W : World) (A : Option Addr) (n c : Nat) (f : Nat → OpP) (hO : OpPs W W.heap.size A n f) (hm : n ≤ maxLen) :
    Calls Try.prog 3 #[.slice A n c] W fun e w' => e = .returned (.bool true) ∧ Below W.heap.size W w' := by
  have HO := Lib.hid hO
  have AW := Lib.hid (awake11_any W)
  clear hO
  go_enter Try.func3, Try.ntmps3
  go_wp2_with fail
  refine AW.out.mono ?_
  rintro e w1 ⟨rfl, hb1⟩
  have B1 := Lib.hid hb1
  have PL := Lib.hid (played_any A n c f W.heap.size w1 hb1.size (fun W' hb => HO.out.later (hb1.trans hb)) hm)
  clear hb1 AW HO
  go_wp2_with fail
  refine PL.out.mono ?_
  rintro e w2 ⟨p, AL, cL, AM, cM, s, rfl, T, lx, mx, k, rfl, hk, hI, hT, hR, hb2⟩
  have bV := (Below.refl w2.heap.size w2).alloc (Nat.le_refl _) (.cells #[.slice AL s.L.length cL, .int .i64 s.lev, .slice AM s.mods.length cM] rS)
  have XV := Lib.hid (Whole.made w2 rS #[.slice AL s.L.length cL, .int .i64 s.lev, .slice AM s.mods.length cM] _ rfl)
  have TV := Lib.hid (hT.below bV)
  have RV := Lib.hid (hR.below bV)
  have hz := Nat.le_trans B1.out.size hb2.size
  have BV := Lib.hid ((B1.out.trans hb2).trans (bV.mono hz))
  have II := Lib.hid hI
  have HK := Lib.hid hk
  have HZ := Lib.hid (Nat.le_trans hz bV.size)
  have L0 : (w2.alloc (.cells #[.slice AL s.L.length cL, .int .i64 s.lev, .slice AM s.mods.length cM] rS)).drew.cell? ⟨w2.heap.size, 0, none⟩ = some (.slice AL s.L.length cL) ∧ (w2.alloc (.cells #[.slice AL s.L.length cL, .int .i64 s.lev, .slice AM s.mods.length cM] rS)).drew.cell? ⟨w2.heap.size, 1, none⟩ = some (.int .i64 s.lev) ∧ (w2.alloc (.cells #[.slice AL s.L.length cL, .int .i64 s.lev, .slice AM s.mods.length cM] rS)).drew.cell? ⟨w2.heap.size, 2, none⟩ = some (.slice AM s.mods.length cM) := ⟨XV.out.cell 0, XV.out.cell 1, XV.out.cell 2⟩
  clear hT hR hb2 hI hk PL B1 bV hz
  go_wp2_with fail
  have hlen : s.L.length ≤ 1000 := by have := II.out.len; have := HK.out; omega
  generalize (w2.alloc (.cells #[.slice AL s.L.length cL, .int .i64 s.lev, .slice AM s.mods.length cM] rS)) = V at *
  generalize w2.heap.size = g8 at *
  have PX := Lib.hid (fun y (hb : Below V.heap.size V y) => exports_any W.heap.size T s y (TV.out.below hb) (Nat.le_trans HZ.out hb.size) hlen II.out.ok)
  have RX := Lib.hid (fun y (hb : Below V.heap.size V y) => refexports_any W.heap.size AL cL lx AM cM mx s y (RV.out.below hb) (Nat.le_trans HZ.out hb.size) hlen)
  have SM := Lib.hid (fun A1 A2 c1 c2 B1 B2 l1 l2 y h1 h2 e1 e2 => same_exports A1 A2 c1 c2 W.heap.size B1 B2 k s l1 l2 y h1 h2 e1 e2 II.out HK.out)
  have C := Lib.hid (fun y (hb : Below V.heap.size V y) => show (fun y => y.cell? ⟨g8, 0, none⟩ = some (.slice AL s.L.length cL) ∧ y.cell? ⟨g8, 1, none⟩ = some (.int .i64 s.lev) ∧ y.cell? ⟨g8, 2, none⟩ = some (.slice AM s.mods.length cM)) y from ⟨(XV.out.below hb XV.out.lt).cell 0, (XV.out.below hb XV.out.lt).cell 1, (XV.out.below hb XV.out.lt).cell 2⟩)
  have BD := Lib.hid ((Below.refl V.heap.size V).drew)
  clear TV RV
  go_region_held3 (fun y => y.cell? ⟨g8, 0, none⟩ = some (.slice AL s.L.length cL) ∧ y.cell? ⟨g8, 1, none⟩ = some (.int .i64 s.lev) ∧ y.cell? ⟨g8, 2, none⟩ = some (.slice AM s.mods.length cM))
    (first
      | with_reducible assumption
      | with_reducible exact L0
      | with_reducible exact S1.out
      | with_reducible exact S2.out
      | with_reducible exact S3.out
      | fail)
    (first
      | (go_at_call 9; refine (PX.out _ BD.out).mono ?_; rintro e y1 ⟨v1, rfl, l1, ho1, he1, hb1⟩; obtain ⟨A1, c1, rfl⟩ := row_form ho1.row; have b1 := BD.out.trans (hb1.mono BD.out.size); have S1 := Lib.hid (C.out y1 b1); have B1 := Lib.hid b1; have O1 := Lib.hid ho1; have E1 := Lib.hid he1; clear ho1 hb1 b1 he1)
      | (go_at_call 10; refine (RX.out _ B1.out).mono ?_; rintro e y2 ⟨v2, rfl, l2, ho2, he2, hb2⟩; obtain ⟨A2, c2, rfl⟩ := row_form ho2.row; have b2 := B1.out.trans (hb2.mono B1.out.size); have S2 := Lib.hid (C.out y2 b2); have B2 := Lib.hid b2; have N2 := Lib.hid (SM.out A1 A2 c1 c2 _ _ l1 l2 y2 (O1.out.below hb2) ho2 E1.out he2); clear ho2 hb2 b2 he2)
      | (go_at_call 8; refine N2.out.mono ?_; rintro e y3 ⟨rfl, hb3⟩; have b3 := B2.out.trans (hb3.mono B2.out.size); have S3 := Lib.hid (C.out y3 b3); have B3 := Lib.hid b3; clear hb3 b3))
  all_goals
    rename_i hH
    clear hH S1 S2 S3 L0 C PX RX SM
    go_wp2_with fail
    go_ret
    exact ⟨rfl, BV.out.trans (B3.out.mono HZ.out)⟩
end Go.Proofs.Ytpfoebnlngfebaa
