/- Types: the program's Field. -/
import Derived.Test.YtabkldahgjicbaaTypH
import Derived.Deep.RegionHeld3
namespace Go.Proofs.Ytabkldahgjicbaa
open Go.ChangeShapes Go.WideShapes Go.ChangeAt Go.RowKit
set_option linter.unusedVariables false
set_option linter.unusedSimpArgs false

def fieldP (L : List Ty) (id : Int) (s : ByteArray) (kd : Int) : List Ty × Int :=
  if (getT L id).opn = false then (L, 111)
  else if wholeB (getT L kd) = false then (L, 91)
  else if 0 ≤ idxF (nameIs s) (getT L id).fds 0 then (L, 51)
  else if 16384 < (getT L id).size + (getT L kd).size then (L, 90)
  else (L.set id.toNat { getT L id with fds := (getT L id).fds ++ [⟨s, kd, (getT L id).size⟩], size := (getT L id).size + (getT L kd).size }, 0)

theorem whole_zero : wholeB zX.1 = false := by decide

set_option maxHeartbeats 16000000 in
set_option maxRecDepth 100000 in
theorem field_any (p B : Nat) (v : Value) (L : List Tx) (id : Int) (s : ByteArray) (kd : Int) (w : World) (h : TabAt w B p v L) (hB : B ≤ w.heap.size) (hn : L.length ≤ 4096) (hS : SizesOk (L.map (·.1))) (hs : s.size ≤ 140737488355328) (hF : (getT (L.map (·.1)) id).fds.length ≤ 1000) :
    Calls Try.prog 35 #[.pointer (some ⟨p, 0, none⟩), .int .i64 id, .string s, .int .i64 kd] w (ChPost1 B p w (fieldP (L.map (·.1)) id s kd)) := by
  have IO := Lib.hid (isopen_any p B v L id w h hn _ rfl)
  have CO := Lib.hid (fun w1 (hb : Below w.heap.size w w1) => complete_any p B v L kd w1 (h.below hb) hn _ rfl)
  have CP := Lib.hid (show fieldP (L.map (·.1)) id s kd = if (getT (L.map (·.1)) id).opn = false then (L.map (·.1), 111) else if wholeB (getT (L.map (·.1)) kd) = false then (L.map (·.1), 91) else if 0 ≤ idxF (nameIs s) (getT (L.map (·.1)) id).fds 0 then (L.map (·.1), 51) else if 16384 < (getT (L.map (·.1)) id).size + (getT (L.map (·.1)) kd).size then (L.map (·.1), 90) else ((L.map (·.1)).set id.toNat { getT (L.map (·.1)) id with fds := (getT (L.map (·.1)) id).fds ++ [⟨s, kd, (getT (L.map (·.1)) id).size⟩], size := (getT (L.map (·.1)) id).size + (getT (L.map (·.1)) kd).size }, 0) from rfl)
  have hs1 := hS.get id
  have hs2 := hS.get kd
  rw [← getX_fst] at CP hF hs1 hs2
  rw [← getX_fst] at CP
  have SAME := Lib.hid (fun (r : List Ty × Int) w1 (hb : Below w.heap.size w w1) hr => ChPost1.same (r := r) h hb hr)
  generalize fieldP (L.map (·.1)) id s kd = r at *
  cases ho : (getX L id).1.opn with
  | false =>
    have HR := Lib.hid (CP.out.trans (if_pos ho))
    rw [ho] at IO
    clear CP ho h CO
    go_enter Try.func35, Try.ntmps35
    go_wp2_with fail
    refine IO.out.mono ?_
    rintro e w1 ⟨rfl, hb1⟩
    have B1 := Lib.hid hb1
    clear hb1 IO
    go_wp2_with fail
    go_ret
    have := SAME.out r _ B1.out (by rw [HR.out])
    rw [HR.out] at this ⊢
    exact this
  | true =>
    have C2 := Lib.hid (CP.out.trans (if_neg (by rw [ho]; decide)))
    rw [ho] at IO
    obtain ⟨t, rfl, ht, hX⟩ := getX_there (L := L) (id := id) (fun e => by rw [e] at ho; cases ho)
    have htI : (t : Int) < L.length := by omega
    obtain ⟨k, ln, bs, sz, op, fds, Af, cf, hP⟩ := h.rows.parts (t : Int)
    have hX2 := hX.symm.trans hP
    rw [hP] at C2 hF hs1 ho
    clear CP
    simp only at C2 hF hs1 ho
    subst ho
    cases hw : wholeB (getX L kd).1 with
    | false =>
      have HR := Lib.hid (C2.out.trans (if_pos hw))
      have CO2 := Lib.hid CO.out
      rw [hw] at CO2
      clear C2 CO hw h hX hP hX2
      go_enter Try.func35, Try.ntmps35
      go_wp2_with fail
      refine IO.out.mono ?_
      rintro e w1 ⟨rfl, hb1⟩
      have B1 := Lib.hid hb1
      clear hb1 IO
      go_wp2_with fail
      refine (CO2.out _ B1.out).mono ?_
      rintro e w2 ⟨rfl, hb2⟩
      have B2 := Lib.hid (B1.out.trans (hb2.mono B1.out.size))
      clear hb2 CO2
      go_wp2_with fail
      go_ret
      have := SAME.out r _ B2.out (by rw [HR.out])
      rw [HR.out] at this ⊢
      exact this
    | true =>
      have C3 := Lib.hid (C2.out.trans (if_neg (by rw [hw]; decide)))
      have CO2 := Lib.hid CO.out
      rw [hw] at CO2
      obtain ⟨u, rfl, hu, hY⟩ := getX_there (L := L) (id := kd) (fun e => by rw [e] at hw; exact absurd hw (by decide))
      have huI : (u : Int) < L.length := by omega
      obtain ⟨k2, ln2, bs2, sz2, op2, fds2, Af2, cf2, hP2⟩ := h.rows.parts (u : Int)
      have hY2 := hY.symm.trans hP2
      rw [hP2] at C3 hs2
      simp only at C3 hs2
      obtain ⟨g, c, rfl, hc, hBg, hgl, hW, hcell⟩ := tab_cell h ht
      have hcell2 : ∀ j, j < 6 → w.cell? ⟨g, u * 6 + j, none⟩ = (txCells (L.getD u zX))[j]? := by
        obtain ⟨g', c', h1, _, _, _, _, hcell2⟩ := tab_cell h hu
        injection h1 with h1 _ _
        injection h1 with h1
        injection h1 with h1 _ _
        subst h1
        exact fun j hj => (hcell2 j hj).1
      rw [hX2] at hcell
      rw [hY2] at hcell2
      have hfr := h.rows.get (t : Int)
      rw [hP] at hfr
      have IX := Lib.hid (fun w1 (hb : Below w.heap.size w w1) => indexof_any s (.slice Af fds.length cf) B fds w1 (row_below hfr hb) (by omega))
      have hib := idxF_bound (nameIs s) fds 0
      generalize hix : idxF (nameIs s) fds 0 = ix at *
      have C0 := Lib.hid (fun w1 (hb : Below w.heap.size w w1) => And.intro (show w1.cell? ⟨p, 0, none⟩ = some (.slice (some ⟨g, 0, none⟩) L.length c) from (h.below hb).blk.cell 0) (And.intro (show w1.cell? ⟨g, t * 6 + 3, none⟩ = some (.int .i64 sz) from (hb.cell (p := ⟨g, t * 6 + 3, none⟩) hgl).trans (hcell 3 (by decide)).1) (And.intro (show w1.cell? ⟨g, t * 6 + 5, none⟩ = some (.slice Af fds.length cf) from (hb.cell (p := ⟨g, t * 6 + 5, none⟩) hgl).trans (hcell 5 (by decide)).1) (show w1.cell? ⟨g, u * 6 + 3, none⟩ = some (.int .i64 sz2) from (hb.cell (p := ⟨g, u * 6 + 3, none⟩) hgl).trans (hcell2 3 (by decide))))))
      by_cases h0 : 0 ≤ ix
      · have HR := Lib.hid (C3.out.trans (if_pos h0))
        have d0 : decide (0 ≤ ix) = true := decide_eq_true h0
        clear C2 CO hw h hX hP hX2 C3 hfr hcell hcell2 hP2 hY2 hY h0 hib hix hW
        go_enter Try.func35, Try.ntmps35
        go_wp2_with fail
        refine IO.out.mono ?_
        rintro e w1 ⟨rfl, hb1⟩
        have B1 := Lib.hid hb1
        clear hb1 IO
        go_wp2_with fail
        refine (CO2.out _ B1.out).mono ?_
        rintro e w2 ⟨rfl, hb2⟩
        have B2 := Lib.hid (B1.out.trans (hb2.mono B1.out.size))
        clear hb2 CO2
        obtain ⟨c1, c2, c3, c4⟩ := C0.out w2 B2.out
        go_wp2_with fail
        refine (IX.out _ B2.out).mono ?_
        rintro e w3 ⟨rfl, hb3⟩
        have B3 := Lib.hid (B2.out.trans (hb3.mono B2.out.size))
        clear hb3 IX
        go_wp2_with fail
        go_ret
        have := SAME.out r _ B3.out (by rw [HR.out])
        rw [HR.out] at this ⊢
        exact this
      · have C4 := Lib.hid (C3.out.trans (if_neg h0))
        have d0 : decide (0 ≤ ix) = false := decide_eq_false h0
        by_cases h1 : 16384 < sz + sz2
        · have HR := Lib.hid (C4.out.trans (if_pos h1))
          have d1 : decide (16384 < sz + sz2) = true := decide_eq_true h1
          clear C2 CO hw h hX hP hX2 C3 hfr hcell hcell2 hP2 hY2 hY h0 hib hix hW C4
          go_enter Try.func35, Try.ntmps35
          go_wp2_with fail
          refine IO.out.mono ?_
          rintro e w1 ⟨rfl, hb1⟩
          have B1 := Lib.hid hb1
          clear hb1 IO
          go_wp2_with fail
          refine (CO2.out _ B1.out).mono ?_
          rintro e w2 ⟨rfl, hb2⟩
          have B2 := Lib.hid (B1.out.trans (hb2.mono B1.out.size))
          clear hb2 CO2
          obtain ⟨c1, c2, c3, c4⟩ := C0.out w2 B2.out
          go_wp2_with fail
          refine (IX.out _ B2.out).mono ?_
          rintro e w3 ⟨rfl, hb3⟩
          have B3 := Lib.hid (B2.out.trans (hb3.mono B2.out.size))
          clear hb3 IX c1 c2 c3 c4
          obtain ⟨c1, c2, c3, c4⟩ := C0.out w3 B3.out
          go_wp2_with fail
          go_quiet (fail)
          clear c1 c2 c3 c4
          rename_i nq
          have B4 := Lib.hid (below_drawn B3.out nq)
          generalize w3.drewN nq = w4 at *
          go_wp2_with fail
          go_ret
          have := SAME.out r _ B4.out (by rw [HR.out])
          rw [HR.out] at this ⊢
          exact this
        · have HR := Lib.hid (C4.out.trans (if_neg h1))
          have d1 : decide (16384 < sz + sz2) = false := decide_eq_false h1
          have SC := Lib.hid (fun w => sclone_any s w hs)
          obtain ⟨i0, hi, hz0, hz1, hz2⟩ := info_parts pF_info
          have T0 := Lib.hid h
          have HX2 := Lib.hid hX2
          clear C2 CO hw h hX hP C3 hcell hcell2 hP2 hY2 hY h0 hib hix hW C4 SAME hX2 h1
          go_enter Try.func35, Try.ntmps35
          go_wp2_with fail
          refine IO.out.mono ?_
          rintro e w1 ⟨rfl, hb1⟩
          have B1 := Lib.hid hb1
          clear hb1 IO
          go_wp2_with fail
          refine (CO2.out _ B1.out).mono ?_
          rintro e w2 ⟨rfl, hb2⟩
          have B2 := Lib.hid (B1.out.trans (hb2.mono B1.out.size))
          clear hb2 CO2
          obtain ⟨c1, c2, c3, c4⟩ := C0.out w2 B2.out
          go_wp2_with fail
          refine (IX.out _ B2.out).mono ?_
          rintro e w3 ⟨rfl, hb3⟩
          have B3 := Lib.hid (B2.out.trans (hb3.mono B2.out.size))
          clear hb3 IX c1 c2 c3 c4
          obtain ⟨c1, c2, c3, c4⟩ := C0.out w3 B3.out
          go_wp2_with fail
          go_quiet (fail)
          clear c1 c2 c3 c4
          rename_i nq
          have B4 := Lib.hid (below_drawn B3.out nq)
          clear B1 B2 B3
          generalize w3.drewN nq = w4 at *
          obtain ⟨c1, c2, c3, c4⟩ := C0.out w4 B4.out
          go_wp2_with fail
          have L1 : w4.drew.cell? ⟨g, t * 6 + 3, none⟩ = some (.int .i64 sz) := c2
          have L2 : w4.drew.cell? ⟨g, t * 6 + 5, none⟩ = some (.slice Af fds.length cf) := c3
          refine wp_region_noPanic ?_
          refine wp_region_held_drew (S := fun y => y.cell? ⟨g, t * 6 + 3, none⟩ = some (.int .i64 sz)) (by kernel_rfl) L1 (fun hHeld => ?_)
          refine wpAnyH_take (i := 0) (oi := _) (v := .pointer (some ⟨g, t * 6, none⟩)) rfl (by kernel_rfl) (by kernel_rfl) (by kernel_rfl) (fun _ _ _ h => h) (Or.inl ⟨by rfl, fun w hSw => by (try dsimp only at hSw); go_simp⟩) (by assumption) ?_
          try simp only [Act.put, List.setIfInBounds_toArray, List.set_cons_zero, List.set_cons_succ]
          refine wpAnyH_take (i := 1) (oi := _) (v := .pointer (some ⟨g, t * 6, none⟩)) rfl (by kernel_rfl) (by kernel_rfl) (by kernel_rfl) (fun _ _ _ h => h) (Or.inl ⟨by rfl, fun w hSw => by (try dsimp only at hSw); go_simp⟩) (by assumption) ?_
          try simp only [Act.put, List.setIfInBounds_toArray, List.set_cons_zero, List.set_cons_succ]
          refine wpAnyH_take (i := 2) (oi := _) (v := .pointer (some ⟨g, t * 6, none⟩)) rfl (by kernel_rfl) (by kernel_rfl) (by kernel_rfl) (fun _ _ _ h => h) (Or.inl ⟨by rfl, fun w hSw => by (try dsimp only at hSw); go_simp⟩) (by assumption) ?_
          try simp only [Act.put, List.setIfInBounds_toArray, List.set_cons_zero, List.set_cons_succ]
          refine wpAnyH_take (i := 3) (oi := _) (v := .pointer (some ⟨g, t * 6 + 5, none⟩)) rfl (by kernel_rfl) (by kernel_rfl) (by kernel_rfl) (fun _ _ _ h => h) (Or.inl ⟨by rfl, fun w hSw => by (try dsimp only at hSw); go_simp⟩) (by assumption) ?_
          try simp only [Act.put, List.setIfInBounds_toArray, List.set_cons_zero, List.set_cons_succ]
          refine wpAnyH_take (i := 5) (oi := _) (v := .string s) rfl (by kernel_rfl) (by kernel_rfl) (by kernel_rfl) (fun _ _ _ h => h) (Or.inl ⟨by rfl, fun w hSw => by (try dsimp only at hSw); go_simp⟩) (by assumption) ?_
          try simp only [Act.put, List.setIfInBounds_toArray, List.set_cons_zero, List.set_cons_succ]
          refine wpAnyH_take (i := 7) (oi := _) (v := .int .i64 u) rfl (by kernel_rfl) (by kernel_rfl) (by kernel_rfl) (fun _ _ _ h => h) (Or.inl ⟨by rfl, fun w hSw => by (try dsimp only at hSw); go_simp⟩) (by assumption) ?_
          try simp only [Act.put, List.setIfInBounds_toArray, List.set_cons_zero, List.set_cons_succ]
          refine wpAnyH_take (i := 8) (oi := _) (v := .pointer (some ⟨g, t * 6, none⟩)) rfl (by kernel_rfl) (by kernel_rfl) (by kernel_rfl) (fun _ _ _ h => h) (Or.inl ⟨by rfl, fun w hSw => by (try dsimp only at hSw); go_simp⟩) (by assumption) ?_
          try simp only [Act.put, List.setIfInBounds_toArray, List.set_cons_zero, List.set_cons_succ]
          refine wpAnyH_take (i := 9) (oi := _) (v := .pointer (some ⟨g, t * 6, none⟩)) rfl (by kernel_rfl) (by kernel_rfl) (by kernel_rfl) (fun _ _ _ h => h) (Or.inl ⟨by rfl, fun w hSw => by (try dsimp only at hSw); go_simp⟩) (by assumption) ?_
          try simp only [Act.put, List.setIfInBounds_toArray, List.set_cons_zero, List.set_cons_succ]
          refine wpAnyH_take (i := 10) (oi := _) (v := .pointer (some ⟨g, t * 6 + 3, none⟩)) rfl (by kernel_rfl) (by kernel_rfl) (by kernel_rfl) (fun _ _ _ h => h) (Or.inl ⟨by rfl, fun w hSw => by (try dsimp only at hSw); go_simp⟩) (by assumption) ?_
          try simp only [Act.put, List.setIfInBounds_toArray, List.set_cons_zero, List.set_cons_succ]
          refine wpAnyH_take (i := 11) (oi := _) (v := .int .i64 sz) rfl (by kernel_rfl) (by kernel_rfl) (by kernel_rfl) (fun _ _ _ h => h) (Or.inl ⟨by rfl, fun w hSw => by (try dsimp only at hSw); go_simp⟩) (by assumption) ?_
          try simp only [Act.put, List.setIfInBounds_toArray, List.set_cons_zero, List.set_cons_succ]
          refine wpAnyH_ready (rs := [4, 6]) (by kernel_rfl) (by simp) (AllReadyH.cons (o := _) rfl (fun K hK => ?_) (AllReadyH.cons (o := _) rfl (fun K hK => ?_) AllReadyH.nil))
          · go_simp
            refine hK.out _ _ L1 (fun hHeld => ?_)
            clear hK K
            try simp only [Act.put, List.setIfInBounds_toArray, List.set_cons_zero, List.set_cons_succ]
            refine wpAnyH_ready (rs := [6]) (by kernel_rfl) (by simp) (AllReadyH.cons (o := _) rfl (fun K hK => ?_) AllReadyH.nil)
            go_simp
            go_at_call 28
            refine (SC.out _).mono ?_
            rintro e y1 ⟨rfl, hb1⟩
            have B5 := Lib.hid (B4.out.drew.trans (hb1.mono B4.out.size))
            have B6 := Lib.hid (B5.out.alloc B5.out.size (.cells #[.string s, .int .i64 u, .int .i64 sz] pF))
            have TA := Lib.hid (T0.out.below B6.out)
            have FA := Lib.hid (row_below hfr B6.out)
            have x1 : y1.cell? ⟨g, t * 6 + 3, none⟩ = some (.int .i64 sz) := (C0.out y1 B5.out).2.1
            have x2 : y1.cell? ⟨g, t * 6 + 5, none⟩ = some (.slice Af fds.length cf) := (C0.out y1 B5.out).2.2.1
            have x3 : (y1.alloc (.cells #[.string s, .int .i64 u, .int .i64 sz] pF)).cell? ⟨g, t * 6 + 3, none⟩ = some (.int .i64 sz) := (C0.out _ B6.out).2.1
            have x4 : (y1.alloc (.cells #[.string s, .int .i64 u, .int .i64 sz] pF)).cell? ⟨g, t * 6 + 5, none⟩ = some (.slice Af fds.length cf) := (C0.out _ B6.out).2.2.1
            have NC := Lib.hid (show ∀ (j : Nat) u', ([.string s, .int .i64 u, .int .i64 sz] : List Value)[j]? = some u' → (y1.alloc (.cells #[.string s, .int .i64 u, .int .i64 sz] pF)).cell? ((⟨y1.heap.size, 0, none⟩ : Addr).add j) = some u' from fun j u' hj => by rw [Go.WideShapes.add_plain, Nat.zero_add]; exact ((Whole.made y1 pF #[.string s, .int .i64 u, .int .i64 sz] _ rfl).cell j).trans (by simpa using hj))
            have ZA : B ≤ (y1.alloc (.cells #[.string s, .int .i64 u, .int .i64 sz] pF)).heap.size := Nat.le_trans hB B6.out.size
            clear hb1
            refine hK.out _ _ x1 (fun hHeld => ?_)
            clear hK K
            try simp only [Act.put, List.setIfInBounds_toArray, List.set_cons_zero, List.set_cons_succ]
            refine wpAnyH_take (i := 12) (oi := _) (v := .agg #[.string s, .int .i64 u, .int .i64 sz]) rfl (by kernel_rfl) (by kernel_rfl) (by kernel_rfl) (fun _ _ _ h => h) (Or.inl ⟨by rfl, fun w hSw => by (try dsimp only at hSw); go_simp⟩) (by assumption) ?_
            try simp only [Act.put, List.setIfInBounds_toArray, List.set_cons_zero, List.set_cons_succ]
            refine wpAnyH_ready (rs := [13]) (by kernel_rfl) (by simp) (AllReadyH.cons (o := _) rfl (fun K hK => ?_) AllReadyH.nil)
            go_simp
            refine hK.out _ _ x3 (fun hHeld => ?_)
            clear hK K
            try simp only [Act.put, List.setIfInBounds_toArray, List.set_cons_zero, List.set_cons_succ]
            refine wpAnyH_ready (rs := [14]) (by kernel_rfl) (by simp) (AllReadyH.cons (o := _) rfl (fun K hK => ?_) AllReadyH.nil)
            refine step_app rfl (.tmp 51) (.tmp 60) 40 rfl B pF i0 _ 3 32 Try.underlying40 hi hz0 hz1 hz2 rfl (by decide) (.slice Af fds.length cf) fds.length _ rfl FA.out ⟨y1.heap.size, 0, none⟩ 1 1 [.string s, .int .i64 u, .int .i64 sz] rfl rfl NC.out (fun u hu => by simp at hu; rcases hu with rfl | rfl | rfl <;> rfl) (by unfold maxLen; omega) (by omega) ZA ?_
            intro v6 w6 ho6 hg6 hat6
            obtain ⟨A6, c6, rfl⟩ := row_form ho6
            have T6 := Lib.hid (tab_field (f := ⟨s, u, sz⟩) TA.out ht (by rw [HX2.out]) (by rw [HX2.out]) ho6 hg6 hat6 (y := (⟨k, ln, bs, sz, true, fds ++ [⟨s, u, sz⟩]⟩, .slice A6 (fds.length + 1) c6)) (by rw [HX2.out]; rfl) rfl rfl)
            have m6 : w6.cell? ⟨g, t * 6 + 5, none⟩ = some (.slice Af fds.length cf) := (T6.out.1 5 (by decide)).1.trans (by rw [HX2.out]; rfl)
            have g6 := (T6.out.1 5 (by decide)).2
            have x6 : w6.cell? ⟨g, t * 6 + 3, none⟩ = some (.int .i64 sz) := (T6.out.1 3 (by decide)).1.trans (by rw [HX2.out]; rfl)
            have X7 := Lib.hid (show (w6.setCell ⟨g, t * 6 + 5, none⟩ (.slice A6 (fds.length + 1) c6)).cell? ⟨g, t * 6 + 3, none⟩ = some (.int .i64 sz) from by rw [World.cell?_setCell_other _ _ _ _ (fun e => by injection e with _ e; omega)]; exact x6)
            clear ho6 hg6 hat6
            refine hK.out _ _ x6 (fun hHeld => ?_)
            clear hK K
            try simp only [Act.put, List.setIfInBounds_toArray, List.set_cons_zero, List.set_cons_succ]
            refine wpAnyH_take (i := 15) (oi := _) (v := .pointer (some ⟨g, t * 6, none⟩)) rfl (by kernel_rfl) (by kernel_rfl) (by kernel_rfl) (fun _ _ _ h => h) (Or.inl ⟨by rfl, fun w hSw => by (try dsimp only at hSw); go_simp⟩) (by assumption) ?_
            try simp only [Act.put, List.setIfInBounds_toArray, List.set_cons_zero, List.set_cons_succ]
            refine wpAnyH_take (i := 16) (oi := _) (v := .pointer (some ⟨g, t * 6 + 5, none⟩)) rfl (by kernel_rfl) (by kernel_rfl) (by kernel_rfl) (fun _ _ _ h => h) (Or.inl ⟨by rfl, fun w hSw => by (try dsimp only at hSw); go_simp⟩) (by assumption) ?_
            try simp only [Act.put, List.setIfInBounds_toArray, List.set_cons_zero, List.set_cons_succ]
            refine wpAnyH_ready (rs := [17]) (by kernel_rfl) (by simp) (AllReadyH.cons (o := _) rfl (fun K hK => ?_) AllReadyH.nil)
            go_simp
            refine hK.out _ _ X7.out (fun hHeld => ?_)
            clear hK K
            try simp only [Act.put, List.setIfInBounds_toArray, List.set_cons_zero, List.set_cons_succ]
            refine wpAnyH_done (by kernel_rfl) ?_ _
            refine NoPanic.normal ?_
            have T7 := T6.out.2.1
            have e7 : (L.set t ((⟨k, ln, bs, sz, true, fds ++ [⟨s, u, sz⟩]⟩, .slice A6 (fds.length + 1) c6) : Tx)).getD t zX = (⟨k, ln, bs, sz, true, fds ++ [⟨s, u, sz⟩]⟩, .slice A6 (fds.length + 1) c6) := by rw [getD_set _ _ _ _ _ ht, if_pos rfl]
            have S8 := Lib.hid (tab_set (show TabAt (w6.setCell ⟨g, t * 6 + 5, none⟩ (.slice A6 (fds.length + 1) c6)) B p (.slice (some ⟨g, 0, none⟩) (L.set t ((⟨k, ln, bs, sz, true, fds ++ [⟨s, u, sz⟩]⟩, .slice A6 (fds.length + 1) c6) : Tx)).length c) (L.set t ((⟨k, ln, bs, sz, true, fds ++ [⟨s, u, sz⟩]⟩, .slice A6 (fds.length + 1) c6) : Tx)) from by rw [List.length_set]; exact T7) (t := t) (by rw [List.length_set]; exact ht) (j := 3) (by decide) (u := .int .i64 (sz + sz2)) (y := (⟨k, ln, bs, sz + sz2, true, fds ++ [⟨s, u, sz⟩]⟩, .slice A6 (fds.length + 1) c6)) (by rw [e7]; rfl) (by rw [e7]) (by rw [e7]))
            have K7 := Lib.hid ((KeptT.ofBelow (B := B) B6.out).trans T6.out.2.2)
            have x7 : (w6.setCell ⟨g, t * 6 + 5, none⟩ (.slice A6 (fds.length + 1) c6)).cell? ⟨g, t * 6 + 3, none⟩ = some (.int .i64 sz) := X7.out
            have g7 : (w6.setCell ⟨g, t * 6 + 5, none⟩ (.slice A6 (fds.length + 1) c6)).frozen? ⟨g, t * 6 + 3, none⟩ = false := by
              obtain ⟨g', c', h1, _, _, _, _, hcc⟩ := tab_cell T7 (t := t) (by rw [List.length_set]; exact ht)
              injection h1 with h1 _ _
              injection h1 with h1
              injection h1 with h1 _ _
              subst h1
              exact (hcc 3 (by decide)).2
            clear T6 X7 T7 e7 m6 g6 x6 x1 x2 x3 x4 NC ZA TA FA c1 c2 c3 c4 L1 C0 SC hHeld
            generalize (w6.setCell ⟨g, t * 6 + 5, none⟩ (.slice A6 (fds.length + 1) c6)) = w7 at *
            go_wp2_with fail
            go_ret
            exact ⟨_, _, by rw [HR.out]; rfl, by rw [HR.out]; simp [List.map_set, List.set_set], S8.out.1, K7.out.trans S8.out.2⟩
          · go_simp
            go_at_call 28
            refine (SC.out _).mono ?_
            rintro e y1 ⟨rfl, hb1⟩
            have B5 := Lib.hid (B4.out.drew.trans (hb1.mono B4.out.size))
            have B6 := Lib.hid (B5.out.alloc B5.out.size (.cells #[.string s, .int .i64 u, .int .i64 sz] pF))
            have TA := Lib.hid (T0.out.below B6.out)
            have FA := Lib.hid (row_below hfr B6.out)
            have x1 : y1.cell? ⟨g, t * 6 + 3, none⟩ = some (.int .i64 sz) := (C0.out y1 B5.out).2.1
            have x2 : y1.cell? ⟨g, t * 6 + 5, none⟩ = some (.slice Af fds.length cf) := (C0.out y1 B5.out).2.2.1
            have x3 : (y1.alloc (.cells #[.string s, .int .i64 u, .int .i64 sz] pF)).cell? ⟨g, t * 6 + 3, none⟩ = some (.int .i64 sz) := (C0.out _ B6.out).2.1
            have x4 : (y1.alloc (.cells #[.string s, .int .i64 u, .int .i64 sz] pF)).cell? ⟨g, t * 6 + 5, none⟩ = some (.slice Af fds.length cf) := (C0.out _ B6.out).2.2.1
            have NC := Lib.hid (show ∀ (j : Nat) u', ([.string s, .int .i64 u, .int .i64 sz] : List Value)[j]? = some u' → (y1.alloc (.cells #[.string s, .int .i64 u, .int .i64 sz] pF)).cell? ((⟨y1.heap.size, 0, none⟩ : Addr).add j) = some u' from fun j u' hj => by rw [Go.WideShapes.add_plain, Nat.zero_add]; exact ((Whole.made y1 pF #[.string s, .int .i64 u, .int .i64 sz] _ rfl).cell j).trans (by simpa using hj))
            have ZA : B ≤ (y1.alloc (.cells #[.string s, .int .i64 u, .int .i64 sz] pF)).heap.size := Nat.le_trans hB B6.out.size
            clear hb1
            refine hK.out _ _ x1 (fun hHeld => ?_)
            clear hK K
            try simp only [Act.put, List.setIfInBounds_toArray, List.set_cons_zero, List.set_cons_succ]
            refine wpAnyH_take (i := 12) (oi := _) (v := .agg #[.string s, .int .i64 u, .int .i64 sz]) rfl (by kernel_rfl) (by kernel_rfl) (by kernel_rfl) (fun _ _ _ h => h) (Or.inl ⟨by rfl, fun w hSw => by (try dsimp only at hSw); go_simp⟩) (by assumption) ?_
            try simp only [Act.put, List.setIfInBounds_toArray, List.set_cons_zero, List.set_cons_succ]
            refine wpAnyH_ready (rs := [4, 13]) (by kernel_rfl) (by simp) (AllReadyH.cons (o := _) rfl (fun K hK => ?_) (AllReadyH.cons (o := _) rfl (fun K hK => ?_) AllReadyH.nil))
            · go_simp
              refine hK.out _ _ x1 (fun hHeld => ?_)
              clear hK K
              try simp only [Act.put, List.setIfInBounds_toArray, List.set_cons_zero, List.set_cons_succ]
              refine wpAnyH_ready (rs := [13]) (by kernel_rfl) (by simp) (AllReadyH.cons (o := _) rfl (fun K hK => ?_) AllReadyH.nil)
              go_simp
              refine hK.out _ _ x3 (fun hHeld => ?_)
              clear hK K
              try simp only [Act.put, List.setIfInBounds_toArray, List.set_cons_zero, List.set_cons_succ]
              refine wpAnyH_ready (rs := [14]) (by kernel_rfl) (by simp) (AllReadyH.cons (o := _) rfl (fun K hK => ?_) AllReadyH.nil)
              refine step_app rfl (.tmp 51) (.tmp 60) 40 rfl B pF i0 _ 3 32 Try.underlying40 hi hz0 hz1 hz2 rfl (by decide) (.slice Af fds.length cf) fds.length _ rfl FA.out ⟨y1.heap.size, 0, none⟩ 1 1 [.string s, .int .i64 u, .int .i64 sz] rfl rfl NC.out (fun u hu => by simp at hu; rcases hu with rfl | rfl | rfl <;> rfl) (by unfold maxLen; omega) (by omega) ZA ?_
              intro v6 w6 ho6 hg6 hat6
              obtain ⟨A6, c6, rfl⟩ := row_form ho6
              have T6 := Lib.hid (tab_field (f := ⟨s, u, sz⟩) TA.out ht (by rw [HX2.out]) (by rw [HX2.out]) ho6 hg6 hat6 (y := (⟨k, ln, bs, sz, true, fds ++ [⟨s, u, sz⟩]⟩, .slice A6 (fds.length + 1) c6)) (by rw [HX2.out]; rfl) rfl rfl)
              have m6 : w6.cell? ⟨g, t * 6 + 5, none⟩ = some (.slice Af fds.length cf) := (T6.out.1 5 (by decide)).1.trans (by rw [HX2.out]; rfl)
              have g6 := (T6.out.1 5 (by decide)).2
              have x6 : w6.cell? ⟨g, t * 6 + 3, none⟩ = some (.int .i64 sz) := (T6.out.1 3 (by decide)).1.trans (by rw [HX2.out]; rfl)
              have X7 := Lib.hid (show (w6.setCell ⟨g, t * 6 + 5, none⟩ (.slice A6 (fds.length + 1) c6)).cell? ⟨g, t * 6 + 3, none⟩ = some (.int .i64 sz) from by rw [World.cell?_setCell_other _ _ _ _ (fun e => by injection e with _ e; omega)]; exact x6)
              clear ho6 hg6 hat6
              refine hK.out _ _ x6 (fun hHeld => ?_)
              clear hK K
              try simp only [Act.put, List.setIfInBounds_toArray, List.set_cons_zero, List.set_cons_succ]
              refine wpAnyH_take (i := 15) (oi := _) (v := .pointer (some ⟨g, t * 6, none⟩)) rfl (by kernel_rfl) (by kernel_rfl) (by kernel_rfl) (fun _ _ _ h => h) (Or.inl ⟨by rfl, fun w hSw => by (try dsimp only at hSw); go_simp⟩) (by assumption) ?_
              try simp only [Act.put, List.setIfInBounds_toArray, List.set_cons_zero, List.set_cons_succ]
              refine wpAnyH_take (i := 16) (oi := _) (v := .pointer (some ⟨g, t * 6 + 5, none⟩)) rfl (by kernel_rfl) (by kernel_rfl) (by kernel_rfl) (fun _ _ _ h => h) (Or.inl ⟨by rfl, fun w hSw => by (try dsimp only at hSw); go_simp⟩) (by assumption) ?_
              try simp only [Act.put, List.setIfInBounds_toArray, List.set_cons_zero, List.set_cons_succ]
              refine wpAnyH_ready (rs := [17]) (by kernel_rfl) (by simp) (AllReadyH.cons (o := _) rfl (fun K hK => ?_) AllReadyH.nil)
              go_simp
              refine hK.out _ _ X7.out (fun hHeld => ?_)
              clear hK K
              try simp only [Act.put, List.setIfInBounds_toArray, List.set_cons_zero, List.set_cons_succ]
              refine wpAnyH_done (by kernel_rfl) ?_ _
              refine NoPanic.normal ?_
              have T7 := T6.out.2.1
              have e7 : (L.set t ((⟨k, ln, bs, sz, true, fds ++ [⟨s, u, sz⟩]⟩, .slice A6 (fds.length + 1) c6) : Tx)).getD t zX = (⟨k, ln, bs, sz, true, fds ++ [⟨s, u, sz⟩]⟩, .slice A6 (fds.length + 1) c6) := by rw [getD_set _ _ _ _ _ ht, if_pos rfl]
              have S8 := Lib.hid (tab_set (show TabAt (w6.setCell ⟨g, t * 6 + 5, none⟩ (.slice A6 (fds.length + 1) c6)) B p (.slice (some ⟨g, 0, none⟩) (L.set t ((⟨k, ln, bs, sz, true, fds ++ [⟨s, u, sz⟩]⟩, .slice A6 (fds.length + 1) c6) : Tx)).length c) (L.set t ((⟨k, ln, bs, sz, true, fds ++ [⟨s, u, sz⟩]⟩, .slice A6 (fds.length + 1) c6) : Tx)) from by rw [List.length_set]; exact T7) (t := t) (by rw [List.length_set]; exact ht) (j := 3) (by decide) (u := .int .i64 (sz + sz2)) (y := (⟨k, ln, bs, sz + sz2, true, fds ++ [⟨s, u, sz⟩]⟩, .slice A6 (fds.length + 1) c6)) (by rw [e7]; rfl) (by rw [e7]) (by rw [e7]))
              have K7 := Lib.hid ((KeptT.ofBelow (B := B) B6.out).trans T6.out.2.2)
              have x7 : (w6.setCell ⟨g, t * 6 + 5, none⟩ (.slice A6 (fds.length + 1) c6)).cell? ⟨g, t * 6 + 3, none⟩ = some (.int .i64 sz) := X7.out
              have g7 : (w6.setCell ⟨g, t * 6 + 5, none⟩ (.slice A6 (fds.length + 1) c6)).frozen? ⟨g, t * 6 + 3, none⟩ = false := by
                obtain ⟨g', c', h1, _, _, _, _, hcc⟩ := tab_cell T7 (t := t) (by rw [List.length_set]; exact ht)
                injection h1 with h1 _ _
                injection h1 with h1
                injection h1 with h1 _ _
                subst h1
                exact (hcc 3 (by decide)).2
              clear T6 X7 T7 e7 m6 g6 x6 x1 x2 x3 x4 NC ZA TA FA c1 c2 c3 c4 L1 C0 SC hHeld
              generalize (w6.setCell ⟨g, t * 6 + 5, none⟩ (.slice A6 (fds.length + 1) c6)) = w7 at *
              go_wp2_with fail
              go_ret
              exact ⟨_, _, by rw [HR.out]; rfl, by rw [HR.out]; simp [List.map_set, List.set_set], S8.out.1, K7.out.trans S8.out.2⟩
            · go_simp
              refine hK.out _ _ x3 (fun hHeld => ?_)
              clear hK K
              try simp only [Act.put, List.setIfInBounds_toArray, List.set_cons_zero, List.set_cons_succ]
              refine wpAnyH_ready (rs := [4]) (by kernel_rfl) (by simp) (AllReadyH.cons (o := _) rfl (fun K hK => ?_) AllReadyH.nil)
              go_simp
              refine hK.out _ _ x3 (fun hHeld => ?_)
              clear hK K
              try simp only [Act.put, List.setIfInBounds_toArray, List.set_cons_zero, List.set_cons_succ]
              refine wpAnyH_ready (rs := [14]) (by kernel_rfl) (by simp) (AllReadyH.cons (o := _) rfl (fun K hK => ?_) AllReadyH.nil)
              refine step_app rfl (.tmp 51) (.tmp 60) 40 rfl B pF i0 _ 3 32 Try.underlying40 hi hz0 hz1 hz2 rfl (by decide) (.slice Af fds.length cf) fds.length _ rfl FA.out ⟨y1.heap.size, 0, none⟩ 1 1 [.string s, .int .i64 u, .int .i64 sz] rfl rfl NC.out (fun u hu => by simp at hu; rcases hu with rfl | rfl | rfl <;> rfl) (by unfold maxLen; omega) (by omega) ZA ?_
              intro v6 w6 ho6 hg6 hat6
              obtain ⟨A6, c6, rfl⟩ := row_form ho6
              have T6 := Lib.hid (tab_field (f := ⟨s, u, sz⟩) TA.out ht (by rw [HX2.out]) (by rw [HX2.out]) ho6 hg6 hat6 (y := (⟨k, ln, bs, sz, true, fds ++ [⟨s, u, sz⟩]⟩, .slice A6 (fds.length + 1) c6)) (by rw [HX2.out]; rfl) rfl rfl)
              have m6 : w6.cell? ⟨g, t * 6 + 5, none⟩ = some (.slice Af fds.length cf) := (T6.out.1 5 (by decide)).1.trans (by rw [HX2.out]; rfl)
              have g6 := (T6.out.1 5 (by decide)).2
              have x6 : w6.cell? ⟨g, t * 6 + 3, none⟩ = some (.int .i64 sz) := (T6.out.1 3 (by decide)).1.trans (by rw [HX2.out]; rfl)
              have X7 := Lib.hid (show (w6.setCell ⟨g, t * 6 + 5, none⟩ (.slice A6 (fds.length + 1) c6)).cell? ⟨g, t * 6 + 3, none⟩ = some (.int .i64 sz) from by rw [World.cell?_setCell_other _ _ _ _ (fun e => by injection e with _ e; omega)]; exact x6)
              clear ho6 hg6 hat6
              refine hK.out _ _ x6 (fun hHeld => ?_)
              clear hK K
              try simp only [Act.put, List.setIfInBounds_toArray, List.set_cons_zero, List.set_cons_succ]
              refine wpAnyH_take (i := 15) (oi := _) (v := .pointer (some ⟨g, t * 6, none⟩)) rfl (by kernel_rfl) (by kernel_rfl) (by kernel_rfl) (fun _ _ _ h => h) (Or.inl ⟨by rfl, fun w hSw => by (try dsimp only at hSw); go_simp⟩) (by assumption) ?_
              try simp only [Act.put, List.setIfInBounds_toArray, List.set_cons_zero, List.set_cons_succ]
              refine wpAnyH_take (i := 16) (oi := _) (v := .pointer (some ⟨g, t * 6 + 5, none⟩)) rfl (by kernel_rfl) (by kernel_rfl) (by kernel_rfl) (fun _ _ _ h => h) (Or.inl ⟨by rfl, fun w hSw => by (try dsimp only at hSw); go_simp⟩) (by assumption) ?_
              try simp only [Act.put, List.setIfInBounds_toArray, List.set_cons_zero, List.set_cons_succ]
              refine wpAnyH_ready (rs := [17]) (by kernel_rfl) (by simp) (AllReadyH.cons (o := _) rfl (fun K hK => ?_) AllReadyH.nil)
              go_simp
              refine hK.out _ _ X7.out (fun hHeld => ?_)
              clear hK K
              try simp only [Act.put, List.setIfInBounds_toArray, List.set_cons_zero, List.set_cons_succ]
              refine wpAnyH_done (by kernel_rfl) ?_ _
              refine NoPanic.normal ?_
              have T7 := T6.out.2.1
              have e7 : (L.set t ((⟨k, ln, bs, sz, true, fds ++ [⟨s, u, sz⟩]⟩, .slice A6 (fds.length + 1) c6) : Tx)).getD t zX = (⟨k, ln, bs, sz, true, fds ++ [⟨s, u, sz⟩]⟩, .slice A6 (fds.length + 1) c6) := by rw [getD_set _ _ _ _ _ ht, if_pos rfl]
              have S8 := Lib.hid (tab_set (show TabAt (w6.setCell ⟨g, t * 6 + 5, none⟩ (.slice A6 (fds.length + 1) c6)) B p (.slice (some ⟨g, 0, none⟩) (L.set t ((⟨k, ln, bs, sz, true, fds ++ [⟨s, u, sz⟩]⟩, .slice A6 (fds.length + 1) c6) : Tx)).length c) (L.set t ((⟨k, ln, bs, sz, true, fds ++ [⟨s, u, sz⟩]⟩, .slice A6 (fds.length + 1) c6) : Tx)) from by rw [List.length_set]; exact T7) (t := t) (by rw [List.length_set]; exact ht) (j := 3) (by decide) (u := .int .i64 (sz + sz2)) (y := (⟨k, ln, bs, sz + sz2, true, fds ++ [⟨s, u, sz⟩]⟩, .slice A6 (fds.length + 1) c6)) (by rw [e7]; rfl) (by rw [e7]) (by rw [e7]))
              have K7 := Lib.hid ((KeptT.ofBelow (B := B) B6.out).trans T6.out.2.2)
              have x7 : (w6.setCell ⟨g, t * 6 + 5, none⟩ (.slice A6 (fds.length + 1) c6)).cell? ⟨g, t * 6 + 3, none⟩ = some (.int .i64 sz) := X7.out
              have g7 : (w6.setCell ⟨g, t * 6 + 5, none⟩ (.slice A6 (fds.length + 1) c6)).frozen? ⟨g, t * 6 + 3, none⟩ = false := by
                obtain ⟨g', c', h1, _, _, _, _, hcc⟩ := tab_cell T7 (t := t) (by rw [List.length_set]; exact ht)
                injection h1 with h1 _ _
                injection h1 with h1
                injection h1 with h1 _ _
                subst h1
                exact (hcc 3 (by decide)).2
              clear T6 X7 T7 e7 m6 g6 x6 x1 x2 x3 x4 NC ZA TA FA c1 c2 c3 c4 L1 C0 SC hHeld
              generalize (w6.setCell ⟨g, t * 6 + 5, none⟩ (.slice A6 (fds.length + 1) c6)) = w7 at *
              go_wp2_with fail
              go_ret
              exact ⟨_, _, by rw [HR.out]; rfl, by rw [HR.out]; simp [List.map_set, List.set_set], S8.out.1, K7.out.trans S8.out.2⟩
end Go.Proofs.Ytabkldahgjicbaa
