/- Symfile: the program's checkExports, Check. -/
import Derived.Test.YthmjniedfiabhaaSymC
import Derived.Test.YthmjniedfiabhaaSymG
import Derived.Test.YthmjniedfiabhaaFngC
import Derived.Deep.RegionHeld3
namespace Go.Proofs.Ythmjniedfiabhaa
open Go.ChangeShapes Go.WideShapes Go.ChangeAt Go.RowKit
set_option linter.unusedVariables false
set_option linter.unusedSimpArgs false

theorem ownsMap_below {P : Program} {k : TypeId} {R : Value → Option (DataW Unit × List MemPlace)} {w w' : World} {b n : Nat} {D : DataW Unit} (h : w.ownsMap P k R b n D) (hb : Below w.heap.size w w') : w'.ownsMap P k R b n D := by
  have hl := h.lt
  obtain ⟨es, clock, h1, h2⟩ := h
  exact ⟨es, clock, (hb.block b hl).trans h1, h2⟩

theorem drop_map {α β : Type} (f : α → β) (l : List α) (d : α) {t : Nat} (h : t < l.length) : (l.map f).drop t = f (l.getD t d) :: (l.map f).drop (t + 1) := by
  rw [← List.map_drop, drop_at l d h, List.map_cons, List.map_drop]

theorem expsE_bad {seen : List ByteArray} {x : Ex} {l : List Ex} (h : mayP x ≠ 0) : expsE seen (x :: l) = mayP x := if_pos h

theorem expsE_old {seen : List ByteArray} {x : Ex} {l : List Ex} (h : mayP x = 0) (h2 : x.nm ∈ seen) : expsE seen (x :: l) = 51 := by
  unfold expsE
  rw [if_neg (fun h' => h' h), if_pos h2]

theorem expsE_new {seen : List ByteArray} {x : Ex} {l : List Ex} (h : mayP x = 0) (h2 : x.nm ∉ seen) : expsE seen (x :: l) = expsE (x.nm :: seen) l := by
  conv => lhs; unfold expsE
  rw [if_neg (fun h' => h' h), if_neg h2]

set_option maxHeartbeats 16000000 in
set_option maxRecDepth 100000 in
theorem checkexps_any (A : Option Addr) (c : Nat) (es : List Exx) (B : Nat) (w : World) (h : ExpR B w (.slice A es.length c) es) (hn : es.length * 64 ≤ 140737488355328) (ho : ∀ e ∈ es, e.1.nm.size ≤ 140737488355328 ∧ e.1.ps.length * 16 ≤ 140737488355328) :
    Calls Try.prog 39 #[.slice A es.length c] w fun e w' => e = .returned (.int .i64 (if 4096 < es.length then 242 else expsE [] (es.map (·.1)))) ∧ Below w.heap.size w w' := by
  have H := Lib.hid h
  have HO := Lib.hid ho
  clear h ho
  by_cases h4 : 4096 < es.length
  · have hI : (4096 : Int) < es.length := by omega
    rw [if_pos h4]
    go_enter Try.func39, Try.ntmps39
    go_wp2_with fail
    go_ret
    exact ⟨rfl, Below.refl _ _⟩
  · have hI : ¬ (4096 : Int) < es.length := by omega
    rw [if_neg h4]
    generalize hr : expsE [] (es.map (·.1)) = r
    have E := Lib.hid hr
    clear hr
    have B0 := Lib.hid ((Below.refl w.heap.size w).alloc (Nat.le_refl _) (.map #[] 0))
    have M0 := Lib.hid (World.ownsMap_made w Try.prog 9 (plainElem (H := Unit) Try.prog 3))
    have hmm := @run_makeMap Try.prog
    go_enter Try.func39, Try.ntmps39
    go_wp2_with fail
    clear hmm
    go_loopw [13] (fun i wr => ∃ (t : Nat) (seen : List ByteArray) (D : DataW Unit), t ≤ es.length ∧ i = .int .i64 t ∧ r = expsE seen ((es.map (·.1)).drop t) ∧ CntD D seen ∧ wr.ownsMap Try.prog 9 (plainElem (H := Unit) Try.prog 3) w.heap.size t D ∧ Below w.heap.size w wr) (fun i _ => es.length - (intOf i).toNat)
    case atStart => exact ⟨0, [], _, Nat.zero_le _, rfl, E.out.symm, CntD.nil, M0.out, B0.out⟩
    case round =>
      obtain ⟨t, seen, D, ht, rfl, he, hC, hM, hb⟩ := hrel
      have HB := Lib.hid hb
      have HC := Lib.hid hC
      by_cases hlt : t < es.length
      · have hI : (t : Int) < es.length := by omega
        obtain ⟨b, off, rfl, hbl, nm, kd, ty, vl, ps, Ap, cp, hX, hpar, hc⟩ := (H.out.below hb).at hlt
        have hx := HO.out _ (getD_mem zEx hlt)
        rw [drop_map (·.1) es zEx hlt, hX] at he
        rw [hX] at hx
        have hx1 : nm.size ≤ 140737488355328 := hx.1
        have hx2 : ps.length * 16 ≤ 140737488355328 := hx.2
        have R0 := Lib.hid (fun h => he.trans (expsE_bad (x := ⟨nm, kd, ty, vl, ps⟩) h))
        have R1 := Lib.hid (fun h h2 => he.trans (expsE_old (x := ⟨nm, kd, ty, vl, ps⟩) h h2))
        have R2 := Lib.hid (fun h h2 => he.trans (expsE_new (x := ⟨nm, kd, ty, vl, ps⟩) h h2))
        have KN := Lib.hid (show keyOf Try.prog 9 (.string nm) = some (nmKey nm) from Go.WideMaps.keyOf_string_mk Try.underlying9 (by unfold maxLen; omega))
        have x0 : wr.cell? ⟨b, off + t * 5, none⟩ = some (.string nm) := hc 0 _ rfl
        have x1 : wr.cell? ⟨b, off + t * 5 + 1, none⟩ = some (.int .i64 kd) := hc 1 _ rfl
        have x2 : wr.cell? ⟨b, off + t * 5 + 2, none⟩ = some (.int .i64 ty) := hc 2 _ rfl
        have x3 : wr.cell? ⟨b, off + t * 5 + 3, none⟩ = some (.int .i32 vl) := hc 3 _ rfl
        have x4 : wr.cell? ⟨b, off + t * 5 + 4, none⟩ = some (.slice Ap ps.length cp) := hc 4 _ rfl
        have q1 := (Below.refl wr.heap.size wr).alloc (Nat.le_refl _) (.cells #[.string nm, .int .i64 kd, .int .i64 ty, .int .i32 vl, .slice Ap ps.length cp] pE)
        have X := Lib.hid (Whole.made wr pE #[.string nm, .int .i64 kd, .int .i64 ty, .int .i32 vl, .slice Ap ps.length cp] _ rfl)
        have y0 : (wr.alloc (.cells #[.string nm, .int .i64 kd, .int .i64 ty, .int .i32 vl, .slice Ap ps.length cp] pE)).cell? ⟨wr.heap.size, 0, none⟩ = some (.string nm) := X.out.cell 0
        have y1 : (wr.alloc (.cells #[.string nm, .int .i64 kd, .int .i64 ty, .int .i32 vl, .slice Ap ps.length cp] pE)).cell? ⟨wr.heap.size, 1, none⟩ = some (.int .i64 kd) := X.out.cell 1
        have y2 : (wr.alloc (.cells #[.string nm, .int .i64 kd, .int .i64 ty, .int .i32 vl, .slice Ap ps.length cp] pE)).cell? ⟨wr.heap.size, 2, none⟩ = some (.int .i64 ty) := X.out.cell 2
        have y3 : (wr.alloc (.cells #[.string nm, .int .i64 kd, .int .i64 ty, .int .i32 vl, .slice Ap ps.length cp] pE)).cell? ⟨wr.heap.size, 3, none⟩ = some (.int .i32 vl) := X.out.cell 3
        have y4 : (wr.alloc (.cells #[.string nm, .int .i64 kd, .int .i64 ty, .int .i32 vl, .slice Ap ps.length cp] pE)).cell? ⟨wr.heap.size, 4, none⟩ = some (.slice Ap ps.length cp) := X.out.cell 4
        have MA := Lib.hid (may_any nm kd ty vl ps Ap cp B _ (hpar.below q1) (by omega) (by omega))
        have M1 := Lib.hid (hM.alloc (.cells #[.string nm, .int .i64 kd, .int .i64 ty, .int .i32 vl, .slice Ap ps.length cp] pE))
        have B1 := Lib.hid (hb.alloc hb.size (.cells #[.string nm, .int .i64 kd, .int .i64 ty, .int .i32 vl, .slice Ap ps.length cp] pE))
        have NE := Lib.hid (show w.heap.size ≠ wr.heap.size from fun e => by have := hM.lt; omega)
        have SZ := Lib.hid (show t < maxLen by unfold maxLen; omega)
        generalize hm : mayP ⟨nm, kd, ty, vl, ps⟩ = m at *
        clear he hC hM hb hx hc hX hpar q1 hx1 hx2 hm
        by_cases hm0 : m = 0
        · subst hm0
          by_cases hS : nm ∈ seen
          · have R := Lib.hid (R1.out rfl hS)
            have HS := Lib.hid hS
            clear hS R0 R1 R2
            go_wp2_with fail
            clear x0 x1 x2 x3 x4 y0 y1 y2 y3 y4
            refine MA.out.mono ?_
            rintro e w2 ⟨rfl, hb2⟩
            have M2 := Lib.hid (ownsMap_below M1.out hb2)
            have B2 := Lib.hid (B1.out.trans (hb2.mono B1.out.size))
            have Y := Lib.hid (X.out.below hb2 X.out.lt)
            have y0 : w2.cell? ⟨wr.heap.size, 0, none⟩ = some (.string nm) := Y.out.cell 0
            clear hb2 MA M1 B1 X
            go_wp2_with (first | (at_lookup; refine wpList_lookup_own_int _ rfl _ _ mpT rfl 9 3 .i64 lawS Try.underlying79 Try.underlying3 (zeroI _) w.heap.size (t) _ rfl M2.out _ _ rfl KN.out ?_; intro c hat hwc; obtain rfl : c = 1 := HC.out.old HS.out hat; clear hat hwc) | (at_mapUpdate; refine wpList_mapUpdate_own _ rfl _ _ _ mpT rfl 9 3 lawS Try.underlying79 _ w.heap.size t _ rfl M2.out SZ.out _ _ _ rfl rfl KN.out _ [] (plainElem_int Try.underlying3 (by decide)) ?_; intro w3 hown2 hgrow2; have M3 := Lib.hid hown2; have B3 := Lib.hid (B2.out.grown hgrow2 B2.out.size (fun k hk => by injection hk with hk; omega)); have Y3 := Lib.hid (show Whole w3 wr.heap.size pE #[.string nm, .int .i64 kd, .int .i64 ty, .int .i32 vl, .slice Ap ps.length cp] from (hgrow2.block _ Y.out.lt (fun e => NE.out (by injection e with e; exact e.symm))).trans Y.out); have y3 : w3.cell? ⟨wr.heap.size, 0, none⟩ = some (.string nm) := Y3.out.cell 0; clear hown2 hgrow2) | (at_lookup; refine wpList_lookup_own_int _ rfl _ _ mpT rfl 9 3 .i64 lawS Try.underlying79 Try.underlying3 (zeroI _) w.heap.size (t + 1) _ rfl M3.out _ _ rfl KN.out ?_; intro c hat hwc; obtain rfl := HC.out.back hat; clear hat hwc))
            go_ret
            rw [R.out]
            exact ⟨rfl, B3.out⟩
          · have R := Lib.hid (R2.out rfl hS)
            have HS := Lib.hid hS
            clear hS R0 R1 R2
            go_wp2_with fail
            clear x0 x1 x2 x3 x4 y0 y1 y2 y3 y4
            refine MA.out.mono ?_
            rintro e w2 ⟨rfl, hb2⟩
            have M2 := Lib.hid (ownsMap_below M1.out hb2)
            have B2 := Lib.hid (B1.out.trans (hb2.mono B1.out.size))
            have Y := Lib.hid (X.out.below hb2 X.out.lt)
            have y0 : w2.cell? ⟨wr.heap.size, 0, none⟩ = some (.string nm) := Y.out.cell 0
            clear hb2 MA M1 B1 X
            go_wp2_with (first | (at_lookup; refine wpList_lookup_own_int _ rfl _ _ mpT rfl 9 3 .i64 lawS Try.underlying79 Try.underlying3 (zeroI _) w.heap.size (t) _ rfl M2.out _ _ rfl KN.out ?_; intro c hat hwc; obtain rfl : c = 0 := HC.out.new HS.out hat; clear hat hwc) | (at_mapUpdate; refine wpList_mapUpdate_own _ rfl _ _ _ mpT rfl 9 3 lawS Try.underlying79 _ w.heap.size t _ rfl M2.out SZ.out _ _ _ rfl rfl KN.out _ [] (plainElem_int Try.underlying3 (by decide)) ?_; intro w3 hown2 hgrow2; have M3 := Lib.hid hown2; have B3 := Lib.hid (B2.out.grown hgrow2 B2.out.size (fun k hk => by injection hk with hk; omega)); have Y3 := Lib.hid (show Whole w3 wr.heap.size pE #[.string nm, .int .i64 kd, .int .i64 ty, .int .i32 vl, .slice Ap ps.length cp] from (hgrow2.block _ Y.out.lt (fun e => NE.out (by injection e with e; exact e.symm))).trans Y.out); have y3 : w3.cell? ⟨wr.heap.size, 0, none⟩ = some (.string nm) := Y3.out.cell 0; clear hown2 hgrow2) | (at_lookup; refine wpList_lookup_own_int _ rfl _ _ mpT rfl 9 3 .i64 lawS Try.underlying79 Try.underlying3 (zeroI _) w.heap.size (t + 1) _ rfl M3.out _ _ rfl KN.out ?_; intro c hat hwc; obtain rfl := HC.out.back hat; clear hat hwc))
            go_roundw
            case rel => exact ⟨t + 1, nm :: seen, _, by omega, by go_num, R.out, HC.out.put, M3.out, B3.out⟩
            case measure => simp [intOf]; omega
        · have R := Lib.hid (R0.out hm0)
          have d0 : (m != 0) = true := by simp [hm0]
          clear hm0 R0 R1 R2
          go_wp2_with fail
          clear x0 x1 x2 x3 x4 y0 y1 y2 y3 y4
          refine MA.out.mono ?_
          rintro e w2 ⟨rfl, hb2⟩
          have B2 := Lib.hid (B1.out.trans (hb2.mono B1.out.size))
          clear hb2
          go_wp2_with fail
          go_ret
          rw [R.out]
          exact ⟨rfl, B2.out⟩
      · have hI : ¬ (t : Int) < es.length := by omega
        obtain rfl : t = es.length := by omega
        have R := Lib.hid (show r = 0 by rw [he, List.drop_eq_nil_of_le (by rw [List.length_map]; exact Nat.le_refl _)]; rfl)
        clear he hC hM hb
        go_wp2_with fail
        go_ret
        rw [R.out]
        exact ⟨rfl, HB.out⟩

/-- A file whose lists are short enough for its key to be reckoned. -/
structure FlSm (md : ByteArray) (es : List Exx) : Prop where
  md : md.size ≤ 200
  n : es.length ≤ 60
  ex : ∀ x ∈ es, ExSm x.1

theorem checkP_md {f : Fl} (h : ¬ nameOk f.md) : checkP f = 140 := if_pos h

theorem checkP_im {f : Fl} (h : nameOk f.md) (h1 : importsE f.md f.ims ≠ 0) : checkP f = importsE f.md f.ims := by
  unfold checkP
  rw [if_neg (fun h' => h' h), if_pos h1]

theorem checkP_ex {f : Fl} (h : nameOk f.md) (h1 : importsE f.md f.ims = 0) (h2 : f.exs.length ≤ 60) (h3 : expsE [] f.exs ≠ 0) : checkP f = expsE [] f.exs := by
  unfold checkP
  rw [if_neg (fun h' => h' h), if_neg (fun h' => h' h1), if_neg (by omega), if_pos h3]

theorem checkP_key {f : Fl} (h : nameOk f.md) (h1 : importsE f.md f.ims = 0) (h2 : f.exs.length ≤ 60) (h3 : expsE [] f.exs = 0) : checkP f = if f.key ≠ keyP f.md f.exs then 142 else 0 := by
  unfold checkP
  rw [if_neg (fun h' => h' h), if_neg (fun h' => h' h1), if_neg (by omega), if_neg (fun h' => h' h3)]

set_option maxHeartbeats 16000000 in
set_option maxRecDepth 100000 in
theorem check_any (md : ByteArray) (key : Int) (Ai : Option Addr) (im : List Im) (ci : Nat) (Ae : Option Addr) (es : List Exx) (ce B B' : Nat) (w : World) (hi : ImV B w (.slice Ai im.length ci) im) (he : ExpR B' w (.slice Ae es.length ce) es) (sm : FlSm md es) (hin : im.length ≤ 140737488355328) (hio : ∀ x ∈ im, x.nm.size ≤ 140737488355328) :
    Calls Try.prog 13 #[.agg #[.string md, .int .u32 key, .slice Ai im.length ci, .slice Ae es.length ce]] w fun e w' => e = .returned (.int .i64 (checkP ⟨md, key, im, es.map (·.1)⟩)) ∧ Below w.heap.size w w' := by
  have BA := Lib.hid ((Below.refl w.heap.size w).alloc (Nat.le_refl _) (.cells #[.string md, .int .u32 key, .slice Ai im.length ci, .slice Ae es.length ce] flT))
  have X := Lib.hid (Whole.made w flT #[.string md, .int .u32 key, .slice Ai im.length ci, .slice Ae es.length ce] _ rfl)
  have q0 : (w.alloc (.cells #[.string md, .int .u32 key, .slice Ai im.length ci, .slice Ae es.length ce] flT)).cell? ⟨w.heap.size, 0, none⟩ = some (.string md) := X.out.cell 0
  have q1 : (w.alloc (.cells #[.string md, .int .u32 key, .slice Ai im.length ci, .slice Ae es.length ce] flT)).cell? ⟨w.heap.size, 1, none⟩ = some (.int .u32 key) := X.out.cell 1
  have q2 : (w.alloc (.cells #[.string md, .int .u32 key, .slice Ai im.length ci, .slice Ae es.length ce] flT)).cell? ⟨w.heap.size, 2, none⟩ = some (.slice Ai im.length ci) := X.out.cell 2
  have q3 : (w.alloc (.cells #[.string md, .int .u32 key, .slice Ai im.length ci, .slice Ae es.length ce] flT)).cell? ⟨w.heap.size, 3, none⟩ = some (.slice Ae es.length ce) := X.out.cell 3
  have SM := Lib.hid sm
  have hmd := sm.md
  have hen := sm.n
  have NA := Lib.hid (fun W => name_any md W (by omega))
  have IA := Lib.hid (imports_any md Ai ci im B (w.alloc (.cells #[.string md, .int .u32 key, .slice Ai im.length ci, .slice Ae es.length ce] flT)) (hi.below BA.out) (by omega) hin hio)
  have EA := Lib.hid (fun W (hb : Below w.heap.size w W) => checkexps_any Ae ce es B' W (he.below hb) (by omega) (fun x hx => by have := sm.ex x hx; obtain ⟨h1, h2, _⟩ := this; omega))
  have KA := Lib.hid (fun W (hb : Below w.heap.size w W) => key_any md Ae ce es W (by omega) (he.below hb).toV sm.ex hen)
  have R0 := Lib.hid (@checkP_md ⟨md, key, im, es.map (·.1)⟩)
  have R1 := Lib.hid (@checkP_im ⟨md, key, im, es.map (·.1)⟩)
  have R2 := Lib.hid (fun a b => @checkP_ex ⟨md, key, im, es.map (·.1)⟩ a b (by show (es.map (·.1)).length ≤ 60; rw [List.length_map]; exact hen))
  have R3 := Lib.hid (fun a b => @checkP_key ⟨md, key, im, es.map (·.1)⟩ a b (by show (es.map (·.1)).length ≤ 60; rw [List.length_map]; exact hen))
  rw [if_neg (by omega)] at EA
  have KE := Lib.hid (show keyP md (es.map (·.1)) = fnvB 2166136261 (keyB md (es.map (·.1))) from rfl)
  simp only at R0 R1 R2 R3
  generalize hcp : checkP ⟨md, key, im, es.map (·.1)⟩ = r at *
  generalize hee : expsE [] (es.map (·.1)) = ee at *
  generalize hie : importsE md im = ie at *
  generalize fnvB 2166136261 (keyB md (es.map (·.1))) = kk at *
  rw [KE.out] at R3
  clear hi he sm hio hcp hee hie KE
  by_cases hN : nameOk md
  · rw [decide_eq_true hN] at NA
    have HN := Lib.hid hN
    clear hN
    go_enter Try.func13, Try.ntmps13
    go_wp2_with fail
    refine (NA.out _).mono ?_
    rintro e w1 ⟨rfl, rfl⟩
    go_wp2_with fail
    clear q0 q1 q2 q3
    refine IA.out.mono ?_
    rintro e w2 ⟨rfl, hb2⟩
    have B2 := Lib.hid (BA.out.trans (hb2.mono BA.out.size))
    have X2 := Lib.hid (X.out.below hb2 X.out.lt)
    clear hb2 IA
    by_cases hi0 : ie = 0
    · have HI := Lib.hid hi0
      subst hi0
      have R2i := Lib.hid (R2.out HN.out rfl)
      have R3i := Lib.hid (R3.out HN.out rfl)
      have E2 := Lib.hid (EA.out w2 B2.out)
      have r0 : w2.cell? ⟨w.heap.size, 0, none⟩ = some (.string md) := X2.out.cell 0
      have r1 : w2.cell? ⟨w.heap.size, 1, none⟩ = some (.int .u32 key) := X2.out.cell 1
      have r2 : w2.cell? ⟨w.heap.size, 2, none⟩ = some (.slice Ai im.length ci) := X2.out.cell 2
      have r3 : w2.cell? ⟨w.heap.size, 3, none⟩ = some (.slice Ae es.length ce) := X2.out.cell 3
      go_wp2_with fail
      clear r0 r1 r2 r3
      refine E2.out.mono ?_
      rintro e w3 ⟨rfl, hb3⟩
      have B3 := Lib.hid (B2.out.trans (hb3.mono B2.out.size))
      have X3 := Lib.hid (X2.out.below hb3 X2.out.lt)
      clear hb3 E2 X2 B2 EA
      by_cases he0 : ee = 0
      · subst he0
        have R3' := Lib.hid (R3i.out rfl)
        go_wp2_with fail
        generalize hV : w3 = V at *
        clear hV
        have C := Lib.hid (fun y (hy : Below V.heap.size V y) => show (fun y => Below V.heap.size V y ∧ y.cell? ⟨w.heap.size, 0, none⟩ = some (.string md) ∧ y.cell? ⟨w.heap.size, 1, none⟩ = some (.int .u32 key) ∧ y.cell? ⟨w.heap.size, 3, none⟩ = some (.slice Ae es.length ce)) y from ⟨hy, (X3.out.below hy X3.out.lt).cell 0, (X3.out.below hy X3.out.lt).cell 1, (X3.out.below hy X3.out.lt).cell 3⟩)
        have L0 := C.out V.drew (Below.refl _ _).drew
        have KY := Lib.hid (show ∀ y, (fun y => Below V.heap.size V y ∧ y.cell? ⟨w.heap.size, 0, none⟩ = some (.string md) ∧ y.cell? ⟨w.heap.size, 1, none⟩ = some (.int .u32 key) ∧ y.cell? ⟨w.heap.size, 3, none⟩ = some (.slice Ae es.length ce)) y → Calls Try.prog 40 #[.string md, .slice Ae es.length ce] y (fun e y' => e = .returned (.int .u32 kk) ∧ (fun y => Below V.heap.size V y ∧ y.cell? ⟨w.heap.size, 0, none⟩ = some (.string md) ∧ y.cell? ⟨w.heap.size, 1, none⟩ = some (.int .u32 key) ∧ y.cell? ⟨w.heap.size, 3, none⟩ = some (.slice Ae es.length ce)) y') from fun y hy => (KA.out y (B3.out.trans (hy.1.mono B3.out.size))).mono (fun e y' h => ⟨h.1, C.out y' (hy.1.trans (h.2.mono hy.1.size))⟩))
        by_cases hk : key = kk
        · subst hk
          have RR := Lib.hid (show r = 0 from R3'.out.trans (if_neg (fun h => h rfl)))
          go_region_held3 (fun y => Below V.heap.size V y ∧ y.cell? ⟨w.heap.size, 0, none⟩ = some (.string md) ∧ y.cell? ⟨w.heap.size, 1, none⟩ = some (.int .u32 key) ∧ y.cell? ⟨w.heap.size, 3, none⟩ = some (.slice Ae es.length ce))
            (first
              | with_reducible assumption
              | with_reducible exact L0
              | fail)
            (first
              | (go_at_call 40; refine (KY.out _ (by assumption)).mono ?_; rintro e y1 ⟨rfl, hs1⟩))
          all_goals
            rename_i hH
            have BH := Lib.hid (B3.out.trans (hH.1.mono B3.out.size))
            clear hH L0 C KY
            go_wp2_with fail
            go_ret
            rw [RR.out]
            exact ⟨rfl, BH.out⟩
        · have dk : (key != kk) = true := by simp [hk]
          have RR := Lib.hid (show r = 142 from R3'.out.trans (if_pos hk))
          clear hk
          go_region_held3 (fun y => Below V.heap.size V y ∧ y.cell? ⟨w.heap.size, 0, none⟩ = some (.string md) ∧ y.cell? ⟨w.heap.size, 1, none⟩ = some (.int .u32 key) ∧ y.cell? ⟨w.heap.size, 3, none⟩ = some (.slice Ae es.length ce))
            (first
              | with_reducible assumption
              | with_reducible exact L0
              | fail)
            (first
              | (go_at_call 40; refine (KY.out _ (by assumption)).mono ?_; rintro e y1 ⟨rfl, hs1⟩))
          all_goals
            rename_i hH
            have BH := Lib.hid (B3.out.trans (hH.1.mono B3.out.size))
            clear hH L0 C KY
            go_wp2_with fail
            go_ret
            rw [RR.out]
            exact ⟨rfl, BH.out⟩
      · have RR := Lib.hid (R2i.out he0)
        have d0 : (ee != 0) = true := by simp [he0]
        clear he0
        go_wp2_with fail
        go_ret
        rw [RR.out]
        exact ⟨rfl, B3.out⟩
    · have RR := Lib.hid (R1.out HN.out hi0)
      have d0 : (ie != 0) = true := by simp [hi0]
      clear hi0
      go_wp2_with fail
      go_ret
      rw [RR.out]
      exact ⟨rfl, B2.out⟩
  · rw [decide_eq_false hN] at NA
    have RR := Lib.hid (R0.out hN)
    clear hN
    go_enter Try.func13, Try.ntmps13
    go_wp2_with fail
    refine (NA.out _).mono ?_
    rintro e w1 ⟨rfl, rfl⟩
    go_wp2_with fail
    go_ret
    rw [RR.out]
    exact ⟨rfl, BA.out⟩
end Go.Proofs.Ythmjniedfiabhaa
