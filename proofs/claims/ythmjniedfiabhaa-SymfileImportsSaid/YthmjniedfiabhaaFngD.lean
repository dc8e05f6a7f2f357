/- Finger: the answers' Bytes, Key. -/
import Derived.Test.YthmjniedfiabhaaFngC
namespace Go.Proofs.Ythmjniedfiabhaa
open Go.ChangeShapes Go.WideShapes Go.ChangeAt Go.RowKit
set_option linter.unusedVariables false
set_option linter.unusedSimpArgs false

/-- An own row of bytes, and a box of an export beside it. -/
structure OutF (W w : World) (x : Nat) (xc : Array Value) (v : Value) (bs : List Int) : Prop where
  own : Owns .u8 u8T w W.heap.size v bs.length bs
  bel : Below W.heap.size W w
  box : Whole w x pE xc

theorem OutF.below {W w w' : World} {x : Nat} {xc : Array Value} {v : Value} {bs : List Int} (h : OutF W w x xc v bs) (hb : Below w.heap.size w w') : OutF W w' x xc v bs :=
  ⟨h.own.keepS (S := fun _ => False) (KeptS.ofBelow hb) (fun _ _ h => h), h.bel.trans (hb.mono h.bel.size), h.box.below hb h.box.lt⟩

theorem OutF.grown {W w w' : World} {x : Nat} {xc : Array Value} {v v' : Value} {bs zs : List Int} (h : OutF W w x xc v bs) (hg : w.grownBy w' v.ownBlock) (ho : Owns .u8 u8T w' W.heap.size v' (bs.length + zs.length) (bs ++ zs)) : OutF W w' x xc v' (bs ++ zs) :=
  ⟨by rw [List.length_append]; exact ho, Owns.grown_below h.bel h.own hg h.bel.size, (hg.block x h.box.lt (fun e => row_ne h.own h.box (fun _ _ e => by injection e with _ e _; exact absurd e (by decide)) e.symm)).trans h.box⟩

/-- A row of bytes that was just made. -/
theorem nums_len {w : World} {A : Option Addr} {n : Nat} {zs : List Int} (h : Nums .u8 w A n zs) : Nums .u8 w A zs.length zs := by
  rw [h.1]
  exact h

set_option maxHeartbeats 32000000 in
set_option maxRecDepth 100000 in
theorem refbytes13_any (A : Option Addr) (c : Nat) (es : List Exx) (W : World) (he : ExpV W.heap.size W (.slice A es.length c) es) (hx : ∀ x ∈ es, ExSm x.1) (hn : es.length ≤ 60) :
    Calls Try.prog 51 #[.slice A es.length c] W fun e w' => ∃ A' c', e = .returned (.slice A' (listB (es.map (·.1))).length c') ∧ Below W.heap.size W w' ∧ Owns .u8 u8T w' W.heap.size (.slice A' (listB (es.map (·.1))).length c') (listB (es.map (·.1))).length (listB (es.map (·.1))) := by
  have HE := Lib.hid he
  have HX := Lib.hid hx
  have C := Lib.hid (cntI_len (n := es.length) (by omega))
  have RC := Lib.hid (refcount_any es.length W (by omega) (by omega))
  have LE := Lib.hid (show listB (es.map (·.1)) = cntI es.length ++ upTo es es.length by unfold listB upTo; rw [List.length_map, List.take_length])
  have U0 := Lib.hid (show upTo es 0 = [] from rfl)
  clear he hx
  generalize hcs : cntI es.length = cs at *
  clear hcs
  generalize hLL : listB (es.map (·.1)) = LL at *
  have HLL := Lib.hid hLL
  clear hLL
  go_enter Try.func51, Try.ntmps51
  go_wp2_with fail
  refine RC.out.mono ?_
  rintro e w1 ⟨A1, c1, rfl, hb1, ho1⟩
  have B1 := Lib.hid hb1
  have O1 := Lib.hid ho1
  clear hb1 ho1 RC
  go_wp2_with fail
  go_loopw [3, 4] (fun v i wr => ∃ t : Nat, t ≤ es.length ∧ i = .int .i64 t ∧ Below W.heap.size W wr ∧ Owns .u8 u8T wr W.heap.size v (cs ++ upTo es t).length (cs ++ upTo es t)) (fun _ i _ => es.length - (intOf i).toNat)
  case atStart => exact ⟨0, Nat.zero_le _, rfl, B1.out, by rw [U0.out, List.append_nil]; exact O1.out⟩
  case round =>
    obtain ⟨t, ht, rfl, hbw, hov⟩ := hrel
    by_cases hlt : t < es.length
    · have hI : (t : Int) < es.length := by omega
      have UM := Lib.hid (upTo_more hlt)
      have UL := upTo_len (l := es) HX.out (t := t) (by omega)
      have SM := HX.out _ (getD_mem zEx hlt)
      obtain ⟨b, off, rfl, nm, kd, ty, vl, ps, Ap, cp, hX, hpar, hc⟩ := HE.out.at hlt
      rw [hX] at UM SM
      obtain ⟨hs, hpn, hkd, hty, hvl, hps⟩ := SM
      have hs : nm.size ≤ 200 := hs
      have hpn : ps.length ≤ 60 := hpn
      have hkd : -9223372036854775808 ≤ kd ∧ kd ≤ 9223372036854775807 := hkd
      have hty : -9223372036854775808 ≤ ty ∧ ty ≤ 9223372036854775807 := hty
      have hvl : -2147483648 ≤ vl ∧ vl ≤ 2147483647 := hvl
      have HPS := Lib.hid (show ∀ q ∈ ps, ParOk q from hps)
      have l1 := Lib.hid (show (cntB nm.size ++ strI nm).length ≤ 210 by rw [List.length_append, strI_len]; have := cntB_len10 (n := nm.size) (by omega); omega)
      have l2 := Lib.hid (cntI_len hkd.2)
      have l3 := Lib.hid (cntI_len hty.2)
      have l4 := Lib.hid (cntB_len10 (n := zigN vl) (by have := zigN_le hvl; omega))
      have l5 := Lib.hid (cntI_len (n := ps.length) (by omega))
      have C1 := Lib.hid (fun w => reftext_any nm w (by omega))
      have C2 := Lib.hid (fun w => refcount_any kd w hkd.1 hkd.2)
      have C3 := Lib.hid (fun w => refcount_any ty w hty.1 hty.2)
      have C4 := Lib.hid (fun w => refnumber_any vl w hvl.1 hvl.2)
      have C5 := Lib.hid (fun w => refcount_any ps.length w (by omega) (by omega))
      have EX := Lib.hid (show exB ⟨nm, kd, ty, vl, ps⟩ = (cntB nm.size ++ strI nm) ++ (cntI kd ++ (cntI ty ++ (cntB (zigN vl) ++ (cntI ps.length ++ parsB ps)))) from rfl)
      have UE := Lib.hid (show cs ++ upTo es (t + 1) = (((((cs ++ upTo es t) ++ (cntB nm.size ++ strI nm)) ++ cntI kd) ++ cntI ty) ++ cntB (zigN vl)) ++ cntI ps.length ++ parsB ps by rw [UM.out]; show cs ++ (upTo es t ++ exB ⟨nm, kd, ty, vl, ps⟩) = _; rw [EX.out]; simp only [List.append_assoc])
      have LD := Lib.hid (show (cs ++ upTo es t).length ≤ 60010 by rw [List.length_append]; have := C.out; omega)
      generalize cs ++ upTo es t = ds at *
      generalize cntB nm.size ++ strI nm = z1 at *
      generalize cntI kd = z2 at *
      generalize cntI ty = z3 at *
      generalize cntB (zigN vl) = z4 at *
      generalize cntI ps.length = z5 at *
      have x0 : wr.cell? ⟨b, off + t * 5, none⟩ = some (.string nm) := cell_later (hc 0 _ rfl) hbw
      have x1 : wr.cell? ⟨b, off + t * 5 + 1, none⟩ = some (.int .i64 kd) := cell_later (hc 1 _ rfl) hbw
      have x2 : wr.cell? ⟨b, off + t * 5 + 2, none⟩ = some (.int .i64 ty) := cell_later (hc 2 _ rfl) hbw
      have x3 : wr.cell? ⟨b, off + t * 5 + 3, none⟩ = some (.int .i32 vl) := cell_later (hc 3 _ rfl) hbw
      have x4 : wr.cell? ⟨b, off + t * 5 + 4, none⟩ = some (.slice Ap ps.length cp) := cell_later (hc 4 _ rfl) hbw
      have q1 := (Below.refl wr.heap.size wr).alloc (Nat.le_refl _) (.cells #[.string nm, .int .i64 kd, .int .i64 ty, .int .i32 vl, .slice Ap ps.length cp] pE)
      have PV := Lib.hid (show ParV W.heap.size W (.slice Ap ps.length cp) ps from hpar)
      have HQ := Lib.hid (show wr.heap.size < (wr.alloc (.cells #[.string nm, .int .i64 kd, .int .i64 ty, .int .i32 vl, .slice Ap ps.length cp] pE)).heap.size by simp)
      have KQ := Lib.hid (show ∀ (y : World), Below (wr.alloc (.cells #[.string nm, .int .i64 kd, .int .i64 ty, .int .i32 vl, .slice Ap ps.length cp] pE)).heap.size (wr.alloc (.cells #[.string nm, .int .i64 kd, .int .i64 ty, .int .i32 vl, .slice Ap ps.length cp] pE)) y → True from fun _ _ => trivial)
      have F0 := Lib.hid (show OutF W (wr.alloc (.cells #[.string nm, .int .i64 kd, .int .i64 ty, .int .i32 vl, .slice Ap ps.length cp] pE)) wr.heap.size #[.string nm, .int .i64 kd, .int .i64 ty, .int .i32 vl, .slice Ap ps.length cp] _ _ from ⟨hov.alloc _, hbw.trans (q1.mono hbw.size), Whole.made wr pE #[.string nm, .int .i64 kd, .int .i64 ty, .int .i32 vl, .slice Ap ps.length cp] _ rfl⟩)
      have BW := Lib.hid hbw
      have y0 : (wr.alloc (.cells #[.string nm, .int .i64 kd, .int .i64 ty, .int .i32 vl, .slice Ap ps.length cp] pE)).cell? ⟨wr.heap.size, 0, none⟩ = some (.string nm) := F0.out.box.cell 0
      clear hc hX hpar q1 hov hbw hs hkd hty hvl hps EX KQ HQ
      go_wp2_with fail
      clear x0 x1 x2 x3 x4 y0
      generalize hV : wr.alloc (.cells #[.string nm, .int .i64 kd, .int .i64 ty, .int .i32 vl, .slice Ap ps.length cp] pE) = V at *
      clear hV
      refine (C1.out _).mono ?_
      rintro e u1 ⟨A1, c1, rfl, hb, hz⟩
      have G1 := Lib.hid (F0.out.below hb)
      have N1 := Lib.hid hz.nums
      have y1 : u1.cell? ⟨wr.heap.size, 0, none⟩ = some (.string nm) := G1.out.box.cell 0
      clear hb hz F0 C1
      go_wp2_with (at_builtin; refine wpList_append_nums _ rfl _ _ rfl rowU8 W.heap.size _ _ _ rfl G1.out.own A1 _ c1 _ rfl N1.out (by (try simp only [List.length_append]); have := LD.out; have := l1.out; omega) G1.out.bel.size ?_; intro v1 w1 ho hg _; have F1 := Lib.hid (G1.out.grown hg ho); clear ho hg; have y11 : w1.cell? ⟨wr.heap.size, 1, none⟩ = some (.int .i64 kd) := F1.out.box.cell 1)
      clear y1 y11 G1 N1
      refine (C2.out _).mono ?_
      rintro e u2 ⟨A2, c2, rfl, hb, hz⟩
      have G2 := Lib.hid (F1.out.below hb)
      have N2 := Lib.hid hz.nums
      have y2 : u2.cell? ⟨wr.heap.size, 1, none⟩ = some (.int .i64 kd) := G2.out.box.cell 1
      clear hb hz F1 C2
      go_wp2_with (at_builtin; refine wpList_append_nums _ rfl _ _ rfl rowU8 W.heap.size _ _ _ rfl G2.out.own A2 _ c2 _ rfl N2.out (by (try simp only [List.length_append]); have := LD.out; have := l1.out; have := l2.out; omega) G2.out.bel.size ?_; intro v2 w2 ho hg _; have F2 := Lib.hid (G2.out.grown hg ho); clear ho hg; have y21 : w2.cell? ⟨wr.heap.size, 2, none⟩ = some (.int .i64 ty) := F2.out.box.cell 2)
      clear y2 y21 G2 N2
      refine (C3.out _).mono ?_
      rintro e u3 ⟨A3, c3, rfl, hb, hz⟩
      have G3 := Lib.hid (F2.out.below hb)
      have N3 := Lib.hid hz.nums
      have y3 : u3.cell? ⟨wr.heap.size, 2, none⟩ = some (.int .i64 ty) := G3.out.box.cell 2
      clear hb hz F2 C3
      go_wp2_with (at_builtin; refine wpList_append_nums _ rfl _ _ rfl rowU8 W.heap.size _ _ _ rfl G3.out.own A3 _ c3 _ rfl N3.out (by (try simp only [List.length_append]); have := LD.out; have := l1.out; have := l2.out; have := l3.out; omega) G3.out.bel.size ?_; intro v3 w3 ho hg _; have F3 := Lib.hid (G3.out.grown hg ho); clear ho hg; have y31 : w3.cell? ⟨wr.heap.size, 3, none⟩ = some (.int .i32 vl) := F3.out.box.cell 3)
      clear y3 y31 G3 N3
      refine (C4.out _).mono ?_
      rintro e u4 ⟨A4, c4, rfl, hb, hz⟩
      have G4 := Lib.hid (F3.out.below hb)
      have N4 := Lib.hid hz.nums
      have y4 : u4.cell? ⟨wr.heap.size, 3, none⟩ = some (.int .i32 vl) := G4.out.box.cell 3
      clear hb hz F3 C4
      go_wp2_with (at_builtin; refine wpList_append_nums _ rfl _ _ rfl rowU8 W.heap.size _ _ _ rfl G4.out.own A4 _ c4 _ rfl N4.out (by (try simp only [List.length_append]); have := LD.out; have := l1.out; have := l2.out; have := l3.out; have := l4.out; omega) G4.out.bel.size ?_; intro v4 w4 ho hg _; have F4 := Lib.hid (G4.out.grown hg ho); clear ho hg; have y41 : w4.cell? ⟨wr.heap.size, 4, none⟩ = some (.slice Ap ps.length cp) := F4.out.box.cell 4)
      clear y4 y41 G4 N4
      refine (C5.out _).mono ?_
      rintro e u5 ⟨A5, c5, rfl, hb, hz⟩
      have G5 := Lib.hid (F4.out.below hb)
      have N5 := Lib.hid hz.nums
      have y5 : u5.cell? ⟨wr.heap.size, 4, none⟩ = some (.slice Ap ps.length cp) := G5.out.box.cell 4
      clear hb hz F4 C5
      go_wp2_with (at_builtin; refine wpList_append_nums _ rfl _ _ rfl rowU8 W.heap.size _ _ _ rfl G5.out.own A5 _ c5 _ rfl N5.out (by (try simp only [List.length_append]); have := LD.out; have := l1.out; have := l2.out; have := l3.out; have := l4.out; have := l5.out; omega) G5.out.bel.size ?_; intro v5 w5 ho hg _; have F5 := Lib.hid (G5.out.grown hg ho); clear ho hg; have y51 : w5.cell? ⟨wr.heap.size, 4, none⟩ = some (.slice Ap ps.length cp) := F5.out.box.cell 4)
      clear y5 y51 G5 N5
      have LF := Lib.hid (show (ds ++ z1 ++ z2 ++ z3 ++ z4 ++ z5).length ≤ 60300 by simp only [List.length_append]; have := LD.out; have := l1.out; have := l2.out; have := l3.out; have := l4.out; have := l5.out; omega)
      generalize ds ++ z1 ++ z2 ++ z3 ++ z4 ++ z5 = fs at *
      clear LD l1 l2 l3 l4 l5
      clear BW
      generalize wr.heap.size = xb at *
      go_loopw [3, 6] (fun v i wr => ∃ k : Nat, k ≤ ps.length ∧ i = .int .i64 k ∧ OutF W wr xb #[.string nm, .int .i64 kd, .int .i64 ty, .int .i32 vl, .slice Ap ps.length cp] v (fs ++ parsB (ps.take k))) (fun _ i _ => ps.length - (intOf i).toNat)
      case atStart => exact ⟨0, Nat.zero_le _, rfl, by rw [show parsB (ps.take 0) = [] from rfl, List.append_nil]; exact F5.out⟩
      case round =>
        clear F5
        obtain ⟨k, hk, rfl, hf⟩ := hrel
        have F := Lib.hid hf
        have c4 : wr.cell? ⟨xb, 4, none⟩ = some (.slice Ap ps.length cp) := hf.box.cell 4
        have BK := hf.bel
        by_cases hlk : k < ps.length
        · have hJ : (k : Int) < ps.length := by omega
          have hq := HPS.out _ (getD_mem (0, false) hlk)
          have FT := Lib.hid (show parsB (ps.take (k + 1)) = parsB (ps.take k) ++ parB (ps.getD k (0, false)) from flat_take parB ps (0, false) hlk)
          have LT := Lib.hid (show (parsB (ps.take k)).length ≤ 660 from by
            have h1 := parsB_len (ps := ps.take k) (fun q hq => HPS.out q (List.mem_of_mem_take hq))
            rw [List.length_take] at h1
            omega)
          obtain ⟨bb, oo, rfl, p0, p1⟩ := (PV.out.below BK).at hlk
          obtain ⟨q, hqq⟩ : ∃ q, ps.getD k (0, false) = q := ⟨_, rfl⟩
          rw [hqq] at hq FT p0 p1
          obtain ⟨qt, qr⟩ := q
          have HQ := Lib.hid hqq
          clear hqq
          have hq : -9223372036854775808 ≤ qt ∧ qt ≤ 9223372036854775807 := hq
          have PB := Lib.hid (show parB (qt, qr) = cntI qt ++ [if qr then 1 else 0] from rfl)
          have C6 := Lib.hid (refcount_any qt wr hq.1 hq.2)
          have LQ := Lib.hid (cntI_len hq.2)
          have LW := Lib.hid (show (fs ++ parsB (ps.take k)).length ≤ 61000 by rw [List.length_append]; have := LF.out; have := LT.out; omega)
          have FE := Lib.hid (show fs ++ parsB (ps.take (k + 1)) = fs ++ parsB (ps.take k) ++ cntI qt ++ [if qr then 1 else 0] by rw [FT.out, PB.out]; simp only [List.append_assoc])
          generalize fs ++ parsB (ps.take k) = gs at *
          generalize cntI qt = z6 at *
          rw [← Nat.add_assoc] at p1
          simp only at p0 p1
          have PP := Lib.hid p1
          clear hf hq BK FT PB
          go_wp2_with fail
          clear p0 p1 c4
          refine C6.out.mono ?_
          rintro e u6 ⟨A6, c6, rfl, hb, hz⟩
          have G6 := Lib.hid (F.out.below hb)
          have N6 := Lib.hid hz.nums
          have y6 : u6.cell? ⟨xb, 4, none⟩ = some (.slice (some ⟨bb, oo, none⟩) ps.length cp) := G6.out.box.cell 4
          clear hb hz F C6
          cases qr with
          | true =>
            go_wp2_with (first | (at_builtin; refine wpList_append_nums _ rfl _ _ rfl rowU8 W.heap.size _ _ _ rfl G6.out.own A6 _ c6 _ rfl N6.out (by have := LW.out; have := LQ.out; omega) G6.out.bel.size ?_; intro v6 w6 ho hg _; have F6 := Lib.hid (G6.out.grown hg ho); clear ho hg; have y7 : w6.cell? ⟨xb, 4, none⟩ = some (.slice (some ⟨bb, oo, none⟩) ps.length cp) := F6.out.box.cell 4; obtain ⟨b7, o7, e7, p0, p1⟩ := (PV.out.below F6.out.bel).at hlk; obtain ⟨rfl, rfl⟩ : bb = b7 ∧ oo = o7 := (by injection e7 with e7; injection e7 with e7 e8; exact ⟨e7, e8⟩); rw [HQ.out] at p1; have p2 : w6.cell? ⟨bb, oo + k * 2 + 1, none⟩ = some (.bool true) := p1; clear p0 p1 e7; have F7 := Lib.hid (F6.out.below ((Below.refl w6.heap.size w6).alloc (Nat.le_refl _) (.cells #[.int .u8 1] u8T))); have N7 := Lib.hid (nums_built .u8 u8T w6 [1] #[.int .u8 1] rfl 1 rfl (by decide) w6.heap.size rfl)) | (at_builtin; refine wpList_append_nums _ rfl _ _ rfl rowU8 W.heap.size _ _ _ rfl F7.out.own (some ⟨w6.heap.size, 0, none⟩) 1 1 [1] rfl N7.out (by rw [List.length_append]; have := LW.out; have := LQ.out; omega) F7.out.bel.size ?_; intro v8 w8 ho hg _; have F8 := Lib.hid (F7.out.grown (zs := [1]) hg ho); clear ho hg))
            clear G6 N6 y6
            go_roundw
            case rel =>
              refine ⟨k + 1, by omega, by go_num, ?_⟩
              rw [FE.out]
              exact F8.out
            case measure => simp [intOf]; omega
          | false =>
            go_wp2_with (first | (at_builtin; refine wpList_append_nums _ rfl _ _ rfl rowU8 W.heap.size _ _ _ rfl G6.out.own A6 _ c6 _ rfl N6.out (by have := LW.out; have := LQ.out; omega) G6.out.bel.size ?_; intro v6 w6 ho hg _; have F6 := Lib.hid (G6.out.grown hg ho); clear ho hg; have y7 : w6.cell? ⟨xb, 4, none⟩ = some (.slice (some ⟨bb, oo, none⟩) ps.length cp) := F6.out.box.cell 4; obtain ⟨b7, o7, e7, p0, p1⟩ := (PV.out.below F6.out.bel).at hlk; obtain ⟨rfl, rfl⟩ : bb = b7 ∧ oo = o7 := (by injection e7 with e7; injection e7 with e7 e8; exact ⟨e7, e8⟩); rw [HQ.out] at p1; have p2 : w6.cell? ⟨bb, oo + k * 2 + 1, none⟩ = some (.bool false) := p1; clear p0 p1 e7; have F7 := Lib.hid (F6.out.below ((Below.refl w6.heap.size w6).alloc (Nat.le_refl _) (.cells #[.int .u8 0] u8T))); have N7 := Lib.hid (nums_built .u8 u8T w6 [0] #[.int .u8 0] rfl 1 rfl (by decide) w6.heap.size rfl)) | (at_builtin; refine wpList_append_nums _ rfl _ _ rfl rowU8 W.heap.size _ _ _ rfl F7.out.own (some ⟨w6.heap.size, 0, none⟩) 1 1 [0] rfl N7.out (by rw [List.length_append]; have := LW.out; have := LQ.out; omega) F7.out.bel.size ?_; intro v8 w8 ho hg _; have F8 := Lib.hid (F7.out.grown (zs := [0]) hg ho); clear ho hg))
            clear G6 N6 y6
            go_roundw
            case rel =>
              refine ⟨k + 1, by omega, by go_num, ?_⟩
              rw [FE.out]
              exact F8.out
            case measure => simp [intOf]; omega
        · have hJ : ¬ (k : Int) < ps.length := by omega
          obtain rfl : k = ps.length := by omega
          clear hf
          go_wp2_with fail
          clear c4
          go_roundw
          case rel =>
            refine ⟨t + 1, by omega, by go_num, BK, ?_⟩
            rw [UE.out]
            have ho := F.out.own
            rw [List.take_length] at ho
            exact ho
          case measure => simp [intOf]; omega
    · have hI : ¬ (t : Int) < es.length := by omega
      obtain rfl : t = es.length := by omega
      rw [← LE.out] at hov
      obtain ⟨A9, c9, rfl, _⟩ := hov.form
      have BW := Lib.hid hbw
      have OV := Lib.hid hov
      clear hbw hov
      go_wp2_with fail
      go_ret
      exact ⟨_, _, rfl, BW.out, OV.out⟩

set_option maxHeartbeats 8000000 in
set_option maxRecDepth 100000 in
theorem refkey_any (nm : ByteArray) (A : Option Addr) (c : Nat) (es : List Exx) (W : World) (hs : nm.size ≤ 200) (he : ExpV W.heap.size W (.slice A es.length c) es) (hx : ∀ x ∈ es, ExSm x.1) (hn : es.length ≤ 60) :
    Calls Try.prog 41 #[.string nm, .slice A es.length c] W fun e w' => e = .returned (.int .u32 (fnvB 2166136261 (keyB nm (es.map (·.1))))) ∧ Below W.heap.size W w' := by
  have T0 := Lib.hid (reftext_any nm W (by omega))
  have LT := Lib.hid (show (cntB nm.size ++ strI nm).length ≤ 210 by rw [List.length_append, strI_len]; have := cntB_len10 (n := nm.size) (by omega); omega)
  have LL := Lib.hid (listB_len hx hn)
  have KB := Lib.hid (show keyB nm (es.map (·.1)) = (cntB nm.size ++ strI nm) ++ listB (es.map (·.1)) from rfl)
  have KY := Lib.hid (keyB_bytes nm (es.map (·.1)))
  have RB := Lib.hid (fun w (hb : Below W.heap.size W w) => refbytes13_any A c es w ((he.keep hb.size (fun b hb' ht => hb.block b hb')).more hb.size) hx hn)
  clear he hx
  generalize keyB nm (es.map (·.1)) = kb at *
  generalize cntB nm.size ++ strI nm = z1 at *
  generalize listB (es.map (·.1)) = z2 at *
  go_enter Try.func41, Try.ntmps41
  go_wp2_with fail
  refine T0.out.mono ?_
  rintro e w1 ⟨A1, c1, rfl, hb1, ho1⟩
  have RB1 := Lib.hid (RB.out w1 hb1)
  have B1 := Lib.hid hb1
  have O1 := Lib.hid ho1
  clear hb1 ho1 RB
  go_wp2_with fail
  refine RB1.out.mono ?_
  rintro e w2 ⟨A2, c2, rfl, hb2, ho2⟩
  have B2 := Lib.hid (B1.out.trans (hb2.mono B1.out.size))
  have O2 := Lib.hid (O1.out.keepS (S := fun _ => False) (KeptS.ofBelow hb2) (fun _ _ h => h))
  have N2 := Lib.hid ho2.nums
  clear hb2 ho2 O1 B1 RB1
  go_wp2_with (at_builtin; refine wpList_append_nums _ rfl _ _ rfl rowU8 W.heap.size _ _ _ rfl O2.out A2 _ c2 _ rfl N2.out (by have := LT.out; have := LL.out; omega) B2.out.size ?_; intro v3 w3 ho hg _; have B3 := Lib.hid (Owns.grown_below B2.out O2.out hg B2.out.size); obtain ⟨A3, c3, rfl, hz3⟩ := ho.form; have M3 := Lib.hid (refmore_any 2166136261 A3 (z1.length + z2.length) c3 (z1 ++ z2) w3 (by decide) hz3 (by rw [← KB.out]; exact KY.out) (by have := LT.out; have := LL.out; omega)); rw [← KB.out] at M3; clear ho hg hz3)
  refine M3.out.mono ?_
  rintro e w4 ⟨rfl, rfl⟩
  go_wp2_with fail
  go_ret
  exact ⟨rfl, B3.out⟩
end Go.Proofs.Ythmjniedfiabhaa
