/- Objfile: the answers' Bytes. -/
import Derived.Test.YtdakooipelligaaObjJ
import Derived.BigQuiet
namespace Go.Proofs.Ytdakooipelligaa
open Go.ChangeShapes Go.WideShapes Go.ChangeAt Go.RowKit
set_option linter.unusedVariables false
set_option linter.unusedSimpArgs false

/-- append to an own row of integers, as one step of a region that draws. -/
theorem step_append_nums15 {P : Program} {ops : Array Oper} {o : Oper} {a : Act} {w : World} {K : Act → World → Prop} {Q : Exit → Act → World → Prop} {E : Prop}
    (s x : Operand) {t e : TypeId} {k : IntKind} {bytes : Nat} (hop : o.op = Op.call { callee := Callee.builtin Builtin.append, args := #[s, x], argTypes := #[t, t] }) (hw : Region.wanted o (yielded ops a.tmps) = true)
    (R : RowOf P t e k bytes) (B : Nat) (v : Value) (n : Nat) (ys : List Int) (hs : a.eval s = v) (hown : Owns k e w B v n ys)
    (A : Option Addr) (m c : Nat) (zs : List Int) (hx : a.eval x = .slice A m c) (hz : Nums k w A m zs) (hmax : (n + m) * bytes ≤ 140737488355328) (hbase : B ≤ w.heap.size)
    (hK : ∀ v' w', Owns k e w' B v' (n + m) (ys ++ zs) → w.grownBy w' v.ownBlock → (v'.ownBlock = v.ownBlock ∨ v'.ownBlock = some w.heap.size) → K (a.put o.dst v') w') :
    if Region.wanted o (yielded ops a.tmps) = true then Oper.wp P o a w K Q else E := by
  rw [if_pos hw]
  obtain ⟨v', w', hrun, r1, r2, r3⟩ := run_append_nums (P := P) (ty := o.type) w R B v n ys hown A m c zs hz hmax hbase
  unfold Oper.wp
  simp [execOp, hop, resolve, invoke, builtin, hs, hx, hrun, Result.andThen]
  exact hK v' w' r1 r2 r3

theorem objB_pieces2 (o : Oj) : objB o = (((((((((((((bytesOf 1347371521) ++ (cntB o.md.size ++ strI o.md)) ++ bytesOf o.key) ++ imsB o.ims) ++ cntI o.code.length) ++ o.code.flatMap bytesOf) ++ cntI o.fxs.length) ++ o.fxs.flatMap fxB) ++ cntI o.sgs.length) ++ o.sgs.flatMap sgB) ++ cntI o.data) ++ cntI o.excs) ++ cntI o.body) := by
  rw [objB_pieces]
  simp only [List.append_assoc]

set_option maxHeartbeats 16000000 in
set_option maxRecDepth 100000 in
theorem refbytes15_any (md : ByteArray) (key : Int) (Ai : Option Addr) (im : List Im) (ci : Nat) (Ac : Option Addr) (cd : List Int) (cc : Nat) (Af : Option Addr) (fx : List Fx) (cf : Nat) (As : Option Addr) (sg : List Sg) (cs : Nat) (dt ex bd : Int) (w : World) (hv : OjV w.heap.size w Ai im ci Ac cd Af fx cf As sg cs) (ok : OjOk ⟨md, key, im, cd, fx, sg, dt, ex, bd⟩) (hc : checkO ⟨md, key, im, cd, fx, sg, dt, ex, bd⟩ = 0) (n2 : cd.length ≤ 200) (n3 : fx.length ≤ 100) (n4 : sg.length ≤ 100) :
    Calls Try.prog 13 #[.agg #[.string md, .int .u32 key, .slice Ai im.length ci, .slice Ac cd.length cc, .slice Af fx.length cf, .slice As sg.length cs, .int .i64 dt, .int .i64 ex, .int .i64 bd]] w fun e w' => ∃ A c, e = .returned (.slice A (objB ⟨md, key, im, cd, fx, sg, dt, ex, bd⟩).length c) ∧ Below w.heap.size w w' ∧ Nums .u8 w' A (objB ⟨md, key, im, cd, fx, sg, dt, ex, bd⟩).length (objB ⟨md, key, im, cd, fx, sg, dt, ex, bd⟩) := by
  have BV0 := Lib.hid ((Below.refl w.heap.size w).alloc (Nat.le_refl _) (.cells #[.string md, .int .u32 key, .slice Ai im.length ci, .slice Ac cd.length cc, .slice Af fx.length cf, .slice As sg.length cs, .int .i64 dt, .int .i64 ex, .int .i64 bd] qT))
  have XX := Lib.hid (Whole.made w qT #[.string md, .int .u32 key, .slice Ai im.length ci, .slice Ac cd.length cc, .slice Af fx.length cf, .slice As sg.length cs, .int .i64 dt, .int .i64 ex, .int .i64 bd] _ rfl)
  have FT := Lib.hid (checkO_fit hc ok)
  have FP := Lib.hid (objB_pieces2 ⟨md, key, im, cd, fx, sg, dt, ex, bd⟩)
  simp only at FP
  have h64 : im.length ≤ 64 := FT.out.in64
  have hmd : md.size ≤ 32 := FT.out.md.2.2
  have LT := Lib.hid (show (cntB md.size ++ strI md).length ≤ 210 by rw [List.length_append, strI_len]; have := cntB_len10 (n := md.size) (by omega); omega)
  have FI := Lib.hid (show ∀ x ∈ im, ImSm x from fit_sm15 FT.out.ims)
  have LI := Lib.hid (imsB_len FI.out (by omega))
  have FFX := Lib.hid (show ∀ f ∈ fx, FxRd f from FT.out.fx)
  have FSG := Lib.hid (show ∀ s ∈ sg, SgRd s from FT.out.sg)
  have FCD := Lib.hid (show ∀ z ∈ cd, 0 ≤ z ∧ z ≤ 4294967295 from ok.2.2)
  have LC := Lib.hid (fun t => take_len_le (f := bytesOf) (k := 4) (n := 200) (l := cd) (fun z _ => Nat.le_refl 4) n2 t)
  have LX := Lib.hid (fun t => take_len_le (f := fxB) (k := 40) (n := 100) (l := fx) (fun f hf => fxB_len (FFX.out f hf)) n3 t)
  have LS := Lib.hid (fun t => take_len_le (f := sgB) (k := 20) (n := 100) (l := sg) (fun s hs => sgB_len (FSG.out s hs)) n4 t)
  have l4 : ∀ n, (bytesOf n).length = 4 := fun _ => rfl
  have L4 := Lib.hid l4
  have c10 : ∀ n : Int, n ≤ 9223372036854775807 → (cntI n).length ≤ 10 := fun n h => cntI_len h
  have C10 := Lib.hid c10
  have HV := Lib.hid (hv.below BV0.out)
  have HK := Lib.hid (show 0 ≤ key ∧ key ≤ 4294967295 from ok.1)
  have HD := Lib.hid (show (0 ≤ dt ∧ dt ≤ 16384) ∧ (0 ≤ ex ∧ ex ≤ 4096) ∧ 0 ≤ bd ∧ bd ≤ 16384 from ⟨FT.out.dt, FT.out.ex, FT.out.bd⟩)
  have RC := Lib.hid (fun (n : Int) (w : World) (h0 : -9223372036854775808 ≤ n) (h1 : n ≤ 9223372036854775807) => refcount_any n w h0 h1)
  generalize objB ⟨md, key, im, cd, fx, sg, dt, ex, bd⟩ = FB at *
  clear hv hc ok FT l4 c10
  go_enter Try.func13, Try.ntmps13
  go_wp2_with fail
  generalize hW0 : (w.alloc (.cells #[.string md, .int .u32 key, .slice Ai im.length ci, .slice Ac cd.length cc, .slice Af fx.length cf, .slice As sg.length cs, .int .i64 dt, .int .i64 ex, .int .i64 bd] qT)) = W0 at *
  clear hW0
  have X0 := Lib.hid XX.out
  have BV := Lib.hid (show Below W0.heap.size W0 W0.drew from (Below.refl _ _).drew)
  have L0 : W0.drew.cell? ⟨w.heap.size, 0, none⟩ = some (.string md) := X0.out.cell 0
  refine wp_region_noPanic ?_
  refine wp_region_held_drew (S := fun y => y.cell? ⟨w.heap.size, 0, none⟩ = some (.string md)) (by kernel_rfl) L0 (fun hHeld => ?_)
  refine wpAnyH_take (i := 1) (oi := _) (v := .pointer (some ⟨w.heap.size, 0, none⟩)) rfl (by kernel_rfl) (by kernel_rfl) (by kernel_rfl) (fun _ _ _ h => h) (Or.inl ⟨by rfl, fun w hSw => by (try dsimp only at hSw); go_simp⟩) (by assumption) ?_
  try simp only [Act.put, List.getElem_toArray, List.getElem_cons_succ, List.getElem_cons_zero, List.setIfInBounds_toArray, List.set_cons_zero, List.set_cons_succ]
  refine wpAnyH_take (i := 2) (oi := _) (v := .string md) rfl (by kernel_rfl) (by kernel_rfl) (by kernel_rfl) (fun _ _ _ h => h) (Or.inl ⟨by rfl, fun w hSw => by (try dsimp only at hSw); go_simp⟩) (by assumption) ?_
  try simp only [Act.put, List.getElem_toArray, List.getElem_cons_succ, List.getElem_cons_zero, List.setIfInBounds_toArray, List.set_cons_zero, List.set_cons_succ]
  refine wpAnyH_ready (rs := [0]) (by kernel_rfl) (by simp) (AllReadyH.cons (o := _) rfl (fun K hK => ?_) AllReadyH.nil)
  go_simp
  go_at_call 43
  refine (refbytes_any 1347371521 _ (by decide) (by decide)).mono ?_
  rintro e w1 ⟨A1, c1, rfl, ho1, hb1⟩
  have B1 := Lib.hid (BV.out.trans (hb1.mono BV.out.size))
  have O1 := Lib.hid (show Owns .u8 u8T w1 W0.heap.size (.slice A1 4 c1) (bytesOf 1347371521).length (bytesOf 1347371521) ∧ Below W0.heap.size W0 w1 from ⟨ho1, B1.out⟩)
  have S1 : w1.cell? ⟨w.heap.size, 0, none⟩ = some (.string md) := (X0.out.below B1.out X0.out.lt).cell 0
  clear ho1 hb1
  refine hK.out _ _ S1 (fun hHeld => ?_)
  clear hK K
  try simp only [Act.put, List.getElem_toArray, List.getElem_cons_succ, List.getElem_cons_zero, List.setIfInBounds_toArray, List.set_cons_zero, List.set_cons_succ]
  refine wpAnyH_ready (rs := [3]) (by kernel_rfl) (by simp) (AllReadyH.cons (o := _) rfl (fun K hK => ?_) AllReadyH.nil)
  go_simp
  go_at_call 44
  refine (reftext_any md w1 (by omega)).mono ?_
  rintro e w2 ⟨A2, c2, rfl, hb2, ho2⟩
  have O2 := Lib.hid (own_later O1.out hb2)
  have N2 := Lib.hid ho2.nums
  have S2 : w2.cell? ⟨w.heap.size, 0, none⟩ = some (.string md) := (X0.out.below O2.out.2 X0.out.lt).cell 0
  clear ho2 hb2
  refine hK.out _ _ S2 (fun hHeld => ?_)
  clear hK K
  try simp only [Act.put, List.getElem_toArray, List.getElem_cons_succ, List.getElem_cons_zero, List.setIfInBounds_toArray, List.set_cons_zero, List.set_cons_succ]
  refine wpAnyH_ready (rs := [4]) (by kernel_rfl) (by simp) (AllReadyH.cons (o := _) rfl (fun K hK => ?_) AllReadyH.nil)
  refine step_append_nums15 (.tmp 10) (.tmp 13) rfl rfl rowU8 W0.heap.size _ _ _ rfl O2.out.1 A2 _ c2 _ rfl N2.out (by have := LT.out; have := L4.out 1347371521; omega) O2.out.2.size ?_
  intro v3 w3 ho3 hg3 _
  have O3 := Lib.hid (own_grown rfl O2.out hg3 ho3)
  have S3 : w3.cell? ⟨w.heap.size, 0, none⟩ = some (.string md) := (X0.out.below O3.out.2 X0.out.lt).cell 0
  clear ho3 hg3
  refine hK.out _ _ S3 (fun hHeld => ?_)
  clear hK K
  try simp only [Act.put, List.getElem_toArray, List.getElem_cons_succ, List.getElem_cons_zero, List.setIfInBounds_toArray, List.set_cons_zero, List.set_cons_succ]
  refine wpAnyH_ready (rs := [5]) (by kernel_rfl) (by simp) (AllReadyH.cons (o := _) rfl (fun K hK => ?_) AllReadyH.nil)
  go_simp
  refine hK.out _ _ S3 (fun hHeld => ?_)
  clear hK K
  try simp only [Act.put, List.getElem_toArray, List.getElem_cons_succ, List.getElem_cons_zero, List.setIfInBounds_toArray, List.set_cons_zero, List.set_cons_succ]
  refine wpAnyH_done (by kernel_rfl) ?_ _
  refine NoPanic.normal ?_
  clear O1 O2 N2 B1 S1 S2 S3 L0 BV
  have OW := Lib.hid O3.out
  have LA := Lib.hid (show (bytesOf 1347371521 ++ (cntB md.size ++ strI md)).length ≤ 214 by rw [List.length_append]; have := L4.out 1347371521; have := LT.out; omega)
  clear O3
  generalize bytesOf 1347371521 ++ (cntB md.size ++ strI md) = z1 at *
  have q1 : w3.cell? ⟨w.heap.size, 1, none⟩ = some (.int .u32 key) := (X0.out.below OW.out.2 X0.out.lt).cell 1
  go_wp2_with fail
  clear q1
  refine (refbytes_any key _ HK.out.1 HK.out.2).mono ?_
  rintro e u1 ⟨A1, c1, rfl, ho, hb⟩
  have G1 := Lib.hid (own_later OW.out hb)
  have N1 := Lib.hid ho.nums
  clear ho hb OW 
  go_wp2_with (at_builtin; refine wpList_append_nums _ rfl _ _ rfl rowU8 W0.heap.size _ _ _ rfl G1.out.1 A1 _ c1 _ rfl N1.out (by have := LA.out; omega) G1.out.2.size ?_; intro v1 w1 ho hg _; have OW := Lib.hid (own_grown (L4.out key) G1.out hg ho); clear ho hg; have q2 : w1.cell? ⟨w.heap.size, 2, none⟩ = some (.slice Ai im.length ci) := (X0.out.below OW.out.2 X0.out.lt).cell 2)
  clear G1 N1
  have LB := Lib.hid (show (z1 ++ bytesOf key).length ≤ 218 by rw [List.length_append]; have := L4.out key; have := LA.out; omega)
  generalize z1 ++ bytesOf key = z2 at *
  clear q2
  refine (refiwrite_any Ai ci im _ (HV.out.below OW.out.2).toV.ims FI.out (by omega)).mono ?_
  rintro e u1 ⟨A1, c1, rfl, hb, ho⟩
  have G1 := Lib.hid (own_later OW.out hb)
  have N1 := Lib.hid ho.nums
  clear ho hb OW 
  go_wp2_with (at_builtin; refine wpList_append_nums _ rfl _ _ rfl rowU8 W0.heap.size _ _ _ rfl G1.out.1 A1 _ c1 _ rfl N1.out (by have := LB.out; have := LI.out; omega) G1.out.2.size ?_; intro v1 w1 ho hg _; have OW := Lib.hid (own_grown rfl G1.out hg ho); clear ho hg; have q3 : w1.cell? ⟨w.heap.size, 3, none⟩ = some (.slice Ac cd.length cc) := (X0.out.below OW.out.2 X0.out.lt).cell 3)
  clear G1 N1
  have LD := Lib.hid (show (z2 ++ imsB im).length ≤ 22228 by rw [List.length_append]; have := LB.out; have := LI.out; omega)
  generalize z2 ++ imsB im = z3 at *
  clear q3
  refine (RC.out cd.length _ (by omega) (by omega)).mono ?_
  rintro e u1 ⟨A1, c1, rfl, hb, ho⟩
  have G1 := Lib.hid (own_later OW.out hb)
  have N1 := Lib.hid ho.nums
  clear ho hb OW 
  go_wp2_with (at_builtin; refine wpList_append_nums _ rfl _ _ rfl rowU8 W0.heap.size _ _ _ rfl G1.out.1 A1 _ c1 _ rfl N1.out (by have := LD.out; have := C10.out cd.length (by omega); omega) G1.out.2.size ?_; intro v1 w1 ho hg _; have OW := Lib.hid (own_grown rfl G1.out hg ho); clear ho hg)
  clear G1 N1
  have LE := Lib.hid (show (z3 ++ cntI cd.length).length ≤ 22238 by rw [List.length_append]; have := LD.out; have := C10.out cd.length (by omega); omega)
  generalize z3 ++ cntI cd.length = z4 at *
  go_loopw [3, 4] (fun v i wr => ∃ t : Nat, t ≤ cd.length ∧ i = .int .i64 t ∧ (Owns .u8 u8T wr W0.heap.size v (z4 ++ (cd.take t).flatMap bytesOf).length (z4 ++ (cd.take t).flatMap bytesOf) ∧ Below W0.heap.size W0 wr)) (fun _ i _ => cd.length - (intOf i).toNat)
  case atStart => exact ⟨0, Nat.zero_le _, rfl, by rw [List.take_zero, List.flatMap_nil, List.append_nil]; exact OW.out⟩
  case round =>
    clear OW
    obtain ⟨t, ht, rfl, ho⟩ := hrel
    have OW := Lib.hid ho
    clear ho
    have q3 : wr.cell? ⟨w.heap.size, 3, none⟩ = some (.slice Ac cd.length cc) := (X0.out.below OW.out.2 X0.out.lt).cell 3
    have HR := Lib.hid (HV.out.below OW.out.2)
    by_cases hlt : t < cd.length
    · have hI : (t : Int) < cd.length := by omega
      obtain ⟨b, off, hA, _, hc⟩ := HR.out.cds.2 (by omega)
      rw [hA] at q3
      have x0 := hc t hlt
      have UM := Lib.hid (flat_take bytesOf cd 0 hlt)
      have ZB := FCD.out _ (getD_mem 0 hlt)
      have LL := Lib.hid (LC.out t)
      generalize cd.getD t 0 = z at *
      clear hc hA
      go_wp2_with fail
      clear x0 q3
      refine (refbytes_any z _ ZB.1 ZB.2).mono ?_
      rintro e u1 ⟨A1, c1, rfl, ho, hb⟩
      have G1 := Lib.hid (own_later OW.out hb)
      have N1 := Lib.hid ho.nums
      clear ho hb OW 
      go_wp2_with (at_builtin; refine wpList_append_nums _ rfl _ _ rfl rowU8 W0.heap.size _ _ _ rfl G1.out.1 A1 _ c1 _ rfl N1.out (by rw [List.length_append]; have := LE.out; have := LL.out; omega) G1.out.2.size ?_; intro v1 w1 ho hg _; have OW := Lib.hid (own_grown (L4.out z) G1.out hg ho); clear ho hg)
      clear G1 N1
      go_roundw
      case rel => exact ⟨t + 1, by omega, by go_num, by rw [UM.out, ← List.append_assoc]; exact OW.out⟩
      case measure => simp [intOf]; omega
    · have hI : ¬ (t : Int) < cd.length := by omega
      obtain rfl : t = cd.length := by omega
      rw [List.take_length] at OW
      have LF := Lib.hid (show (z4 ++ cd.flatMap bytesOf).length ≤ 23038 by rw [List.length_append]; have := LE.out; have := LC.out cd.length; rw [List.take_length] at this; omega)
      generalize z4 ++ cd.flatMap bytesOf = z5 at *
      have q4 : wr.cell? ⟨w.heap.size, 4, none⟩ = some (.slice Af fx.length cf) := (X0.out.below OW.out.2 X0.out.lt).cell 4
      go_wp2_with fail
      clear q3 q4
      refine (RC.out fx.length _ (by omega) (by omega)).mono ?_
      rintro e u1 ⟨A1, c1, rfl, hb, ho⟩
      have G1 := Lib.hid (own_later OW.out hb)
      have N1 := Lib.hid ho.nums
      clear ho hb OW 
      go_wp2_with (at_builtin; refine wpList_append_nums _ rfl _ _ rfl rowU8 W0.heap.size _ _ _ rfl G1.out.1 A1 _ c1 _ rfl N1.out (by have := LF.out; have := C10.out fx.length (by omega); omega) G1.out.2.size ?_; intro v1 w1 ho hg _; have OW := Lib.hid (own_grown rfl G1.out hg ho); clear ho hg)
      clear G1 N1
      have LG := Lib.hid (show (z5 ++ cntI fx.length).length ≤ 23048 by rw [List.length_append]; have := LF.out; have := C10.out fx.length (by omega); omega)
      generalize z5 ++ cntI fx.length = z6 at *
      go_loopw [3, 5] (fun v i wr => ∃ t : Nat, t ≤ fx.length ∧ i = .int .i64 t ∧ (Owns .u8 u8T wr W0.heap.size v (z6 ++ (fx.take t).flatMap fxB).length (z6 ++ (fx.take t).flatMap fxB) ∧ Below W0.heap.size W0 wr)) (fun _ i _ => fx.length - (intOf i).toNat)
      case atStart => exact ⟨0, Nat.zero_le _, rfl, by rw [List.take_zero, List.flatMap_nil, List.append_nil]; exact OW.out⟩
      case round =>
        clear OW
        obtain ⟨t, ht, rfl, ho⟩ := hrel
        have OW := Lib.hid ho
        clear ho
        have q4 : wr.cell? ⟨w.heap.size, 4, none⟩ = some (.slice Af fx.length cf) := (X0.out.below OW.out.2 X0.out.lt).cell 4
        have HR := Lib.hid (HV.out.below OW.out.2)
        by_cases hlt : t < fx.length
        · have hI : (t : Int) < fx.length := by omega
          obtain ⟨b, off, hA, _, x0, x1, x2, x3⟩ := fx_at HR.out.fxs hlt
          rw [hA] at q4
          have UM := Lib.hid (flat_take fxB fx zFx hlt)
          have ZB := FFX.out _ (getD_mem zFx hlt)
          have LL := Lib.hid (LX.out t)
          generalize fx.getD t zFx = s at *
          obtain ⟨pl, kd, fm, vl⟩ := s
          simp only at x0 x1 x2 x3
          have ZZ := Lib.hid (show ∀ z ∈ ([pl, kd, fm, vl] : List Int), 0 ≤ z ∧ z ≤ 1000000 from by
            obtain ⟨h1, h2, h3, h4⟩ := ZB
            simp only at h1 h2 h3 h4
            intro z hz
            simp only [List.mem_cons, List.not_mem_nil, or_false] at hz
            rcases hz with rfl | rfl | rfl | rfl <;> omega)
          have LDS := Lib.hid (show (z6 ++ (fx.take t).flatMap fxB).length ≤ 27048 by rw [List.length_append]; have := LG.out; have := LL.out; omega)
          have q1 := (Below.refl wr.heap.size wr).alloc (Nat.le_refl _) (.cells #[.int .i64 pl, .int .i64 kd, .int .i64 fm, .int .i64 vl] fxT)
          have Y1 := Lib.hid (Whole.made wr fxT #[.int .i64 pl, .int .i64 kd, .int .i64 fm, .int .i64 vl] _ rfl)
          have Y2 := Lib.hid (Whole.made (wr.alloc (.cells #[.int .i64 pl, .int .i64 kd, .int .i64 fm, .int .i64 vl] fxT)) 81 #[.int .i64 pl, .int .i64 kd, .int .i64 fm, .int .i64 vl] (wr.heap.size + 1) (by simp))
          have CL := Lib.hid (show ∀ k, k < 4 → (#[.int .i64 pl, .int .i64 kd, .int .i64 fm, .int .i64 vl] : Array Value)[k]? = some (.int .i64 (([pl, kd, fm, vl] : List Int).getD k 0)) from fun k hk => by
            match k, hk with
            | 0, _ => rfl
            | 1, _ => rfl
            | 2, _ => rfl
            | 3, _ => rfl)
          have OX := Lib.hid (own_later (own_later OW.out q1) ((Below.refl _ (wr.alloc (.cells #[.int .i64 pl, .int .i64 kd, .int .i64 fm, .int .i64 vl] fxT))).alloc (Nat.le_refl _) (.cells #[.int .i64 pl, .int .i64 kd, .int .i64 fm, .int .i64 vl] 81)))
          have y0 : (wr.alloc (.cells #[.int .i64 pl, .int .i64 kd, .int .i64 fm, .int .i64 vl] fxT)).cell? ⟨wr.heap.size, 0, none⟩ = some (.int .i64 pl) := Y1.out.cell 0
          have y1 : (wr.alloc (.cells #[.int .i64 pl, .int .i64 kd, .int .i64 fm, .int .i64 vl] fxT)).cell? ⟨wr.heap.size, 1, none⟩ = some (.int .i64 kd) := Y1.out.cell 1
          have y2 : (wr.alloc (.cells #[.int .i64 pl, .int .i64 kd, .int .i64 fm, .int .i64 vl] fxT)).cell? ⟨wr.heap.size, 2, none⟩ = some (.int .i64 fm) := Y1.out.cell 2
          have y3 : (wr.alloc (.cells #[.int .i64 pl, .int .i64 kd, .int .i64 fm, .int .i64 vl] fxT)).cell? ⟨wr.heap.size, 3, none⟩ = some (.int .i64 vl) := Y1.out.cell 3
          generalize hds : z6 ++ (fx.take t).flatMap fxB = ds at *
          have HDS := Lib.hid hds
          clear hds
          clear q1 ZB Y1 hA OW
          have OW := Lib.hid OX.out
          clear OX
          go_wp2_with fail
          clear x0 x1 x2 x3 y0 y1 y2 y3 q4
          generalize hW2 : (wr.alloc (.cells #[.int .i64 pl, .int .i64 kd, .int .i64 fm, .int .i64 vl] fxT)).alloc (.cells #[.int .i64 pl, .int .i64 kd, .int .i64 fm, .int .i64 vl] 81) = W2 at *
          clear hW2
          generalize wr.heap.size + 1 = p at *
          go_loopw [3, 8] (fun v i wr => ∃ k : Nat, k ≤ 4 ∧ i = .int .i64 k ∧ (Owns .u8 u8T wr W0.heap.size v (ds ++ (([pl, kd, fm, vl] : List Int).take k).flatMap cntI).length (ds ++ (([pl, kd, fm, vl] : List Int).take k).flatMap cntI) ∧ Below W0.heap.size W0 wr) ∧ Whole wr p 81 #[.int .i64 pl, .int .i64 kd, .int .i64 fm, .int .i64 vl]) (fun _ i _ => 4 - (intOf i).toNat)
          case atStart => exact ⟨0, by decide, rfl, by rw [List.take_zero, List.flatMap_nil, List.append_nil]; exact OW.out, Y2.out⟩
          case round =>
            clear OW Y2
            obtain ⟨k, hk, rfl, ho, hb2⟩ := hrel
            have OW := Lib.hid ho
            have YB := Lib.hid hb2
            clear ho hb2
            by_cases hk4 : k < 4
            · have hI4 : (k : Int) < 4 := by omega
              have y0 : wr.cell? ⟨p, k, none⟩ = some (.int .i64 (([pl, kd, fm, vl] : List Int).getD k 0)) := (YB.out.cell k).trans (CL.out k hk4)
              have UK := Lib.hid (flat_take cntI [pl, kd, fm, vl] 0 (show k < ([pl, kd, fm, vl] : List Int).length from hk4))
              have ZB := ZZ.out _ (getD_mem 0 (show k < ([pl, kd, fm, vl] : List Int).length from hk4))
              have LK := Lib.hid (take_len_le (f := cntI) (k := 10) (n := 4) (l := [pl, kd, fm, vl]) (fun z h => cntI_len (by have := ZZ.out z h; omega)) (Nat.le_refl 4) k)
              generalize ([pl, kd, fm, vl] : List Int).getD k 0 = z at *
              go_wp2_with fail
              clear y0
              refine (RC.out z _ (by omega) (by omega)).mono ?_
              rintro e u1 ⟨A1, c1, rfl, hb, ho⟩
              have G1 := Lib.hid (own_later OW.out hb)
              have N1 := Lib.hid ho.nums
              have YG := Lib.hid (YB.out.below hb YB.out.lt)
              clear ho hb OW
              go_wp2_with (at_builtin; refine wpList_append_nums _ rfl _ _ rfl rowU8 W0.heap.size _ _ _ rfl G1.out.1 A1 _ c1 _ rfl N1.out (by rw [List.length_append]; have := LDS.out; have := LK.out; have := C10.out z (by omega); omega) G1.out.2.size ?_; intro v1 w1 ho hg _; have OW := Lib.hid (own_grown rfl G1.out hg ho); have YK := Lib.hid (show Whole w1 p 81 #[.int .i64 pl, .int .i64 kd, .int .i64 fm, .int .i64 vl] from (hg.block p YG.out.lt (fun e => row_ne G1.out.1 YG.out (fun c fz e => by injection e with _ e _; exact absurd e (by decide)) e.symm)).trans YG.out); clear ho hg)
              clear G1 N1
              go_roundw
              case rel => exact ⟨k + 1, by omega, by go_num, by rw [UK.out, ← List.append_assoc]; exact OW.out, YK.out⟩
              case measure => simp [intOf]; omega
            · have hI4 : ¬ (k : Int) < 4 := by omega
              obtain rfl : k = 4 := by omega
              have OX := Lib.hid OW.out
              rw [show ([pl, kd, fm, vl] : List Int).take 4 = [pl, kd, fm, vl] from rfl, flat4] at OX
              clear OW
              have OW := Lib.hid OX.out
              clear OX
              go_wp2_with fail
              go_roundw
              case rel => exact ⟨t + 1, by omega, by go_num, by rw [UM.out, ← List.append_assoc, HDS.out]; exact OW.out⟩
              case measure => simp [intOf]; omega
        · have hI : ¬ (t : Int) < fx.length := by omega
          obtain rfl : t = fx.length := by omega
          rw [List.take_length] at OW
          have LH := Lib.hid (show (z6 ++ fx.flatMap fxB).length ≤ 27048 by rw [List.length_append]; have := LG.out; have := LX.out fx.length; rw [List.take_length] at this; omega)
          generalize z6 ++ fx.flatMap fxB = z7 at *
          have q5 : wr.cell? ⟨w.heap.size, 5, none⟩ = some (.slice As sg.length cs) := (X0.out.below OW.out.2 X0.out.lt).cell 5
          go_wp2_with fail
          clear q4 q5
          refine (RC.out sg.length _ (by omega) (by omega)).mono ?_
          rintro e u1 ⟨A1, c1, rfl, hb, ho⟩
          have G1 := Lib.hid (own_later OW.out hb)
          have N1 := Lib.hid ho.nums
          clear ho hb OW 
          go_wp2_with (at_builtin; refine wpList_append_nums _ rfl _ _ rfl rowU8 W0.heap.size _ _ _ rfl G1.out.1 A1 _ c1 _ rfl N1.out (by have := LH.out; have := C10.out sg.length (by omega); omega) G1.out.2.size ?_; intro v1 w1 ho hg _; have OW := Lib.hid (own_grown rfl G1.out hg ho); clear ho hg)
          clear G1 N1
          have LI8 := Lib.hid (show (z7 ++ cntI sg.length).length ≤ 27058 by rw [List.length_append]; have := LH.out; have := C10.out sg.length (by omega); omega)
          generalize z7 ++ cntI sg.length = z8 at *
          go_loopw [3, 9] (fun v i wr => ∃ t : Nat, t ≤ sg.length ∧ i = .int .i64 t ∧ (Owns .u8 u8T wr W0.heap.size v (z8 ++ (sg.take t).flatMap sgB).length (z8 ++ (sg.take t).flatMap sgB) ∧ Below W0.heap.size W0 wr)) (fun _ i _ => sg.length - (intOf i).toNat)
          case atStart => exact ⟨0, Nat.zero_le _, rfl, by rw [List.take_zero, List.flatMap_nil, List.append_nil]; exact OW.out⟩
          case round =>
            clear OW
            obtain ⟨t, ht, rfl, ho⟩ := hrel
            have OW := Lib.hid ho
            clear ho
            have q5 : wr.cell? ⟨w.heap.size, 5, none⟩ = some (.slice As sg.length cs) := (X0.out.below OW.out.2 X0.out.lt).cell 5
            have HR := Lib.hid (HV.out.below OW.out.2)
            by_cases hlt : t < sg.length
            · have hI : (t : Int) < sg.length := by omega
              obtain ⟨b, off, hA, _, x0, x1⟩ := sg_at HR.out.sgs hlt
              obtain ⟨b', off', hA', _, z0, z1⟩ := sg_at HV.out.sgs hlt
              rw [hA] at hA'
              injection hA' with hA'
              injection hA' with e1 e2
              subst e1 e2
              rw [hA] at q5
              have UM := Lib.hid (flat_take sgB sg zSg hlt)
              have ZB := FSG.out _ (getD_mem zSg hlt)
              have LL := Lib.hid (LS.out t)
              generalize sg.getD t zSg = s at *
              obtain ⟨st, pd⟩ := s
              simp only at x0 x1 z0 z1
              obtain ⟨hst, hpd⟩ := ZB
              simp only at hst hpd
              have LDS := Lib.hid (show (z8 ++ (sg.take t).flatMap sgB).length ≤ 29058 by rw [List.length_append]; have := LI8.out; have := LL.out; omega)
              generalize hds : z8 ++ (sg.take t).flatMap sgB = ds at *
              have HDS := Lib.hid hds
              clear hds
              have hwr : IntKind.i64.wrap (pd + 1) = pd + 1 := by rw [IntKind.wrap_i64]; omega
              have CS := Lib.hid (fun y (hy : Below W0.heap.size W0 y) => show y.cell? ⟨w.heap.size, 5, none⟩ = some (.slice (some ⟨b, off, none⟩) sg.length cs) ∧ y.cell? ⟨b, off + t * 2, none⟩ = some (.int .i64 st) ∧ y.cell? ⟨b, off + t * 2 + 1, none⟩ = some (.int .i64 pd) from ⟨by rw [← hA]; exact (X0.out.below hy X0.out.lt).cell 5, cell_later z0 hy, cell_later z1 hy⟩)
              obtain ⟨A0, c0, rfl, _⟩ := OW.out.1.form
              clear hA z0 z1
              go_wp2_with fail
              clear x0 x1 q5
              have OD := Lib.hid (show Owns .u8 u8T wr.drew W0.heap.size (.slice A0 ds.length c0) ds.length ds ∧ Below W0.heap.size W0 wr.drew from own_later OW.out (Below.refl _ _).drew)
              have L1 := CS.out wr.drew OD.out.2
              refine wp_region_noPanic ?_
              refine wp_region_held_drew (S := fun y => y.cell? ⟨w.heap.size, 5, none⟩ = some (.slice (some ⟨b, off, none⟩) sg.length cs) ∧ y.cell? ⟨b, off + t * 2, none⟩ = some (.int .i64 st) ∧ y.cell? ⟨b, off + t * 2 + 1, none⟩ = some (.int .i64 pd)) (by kernel_rfl) L1 (fun hHeld => ?_)
              refine wpAnyH_take (i := 0) (oi := _) (v := .slice A0 ds.length c0) rfl (by kernel_rfl) (by kernel_rfl) (by kernel_rfl) (fun _ _ _ h => h) (Or.inl ⟨by rfl, fun w hSw => by (try dsimp only at hSw); go_simp⟩) (by assumption) ?_
              try simp only [Act.put, List.getElem_toArray, List.getElem_cons_succ, List.getElem_cons_zero, List.setIfInBounds_toArray, List.set_cons_zero, List.set_cons_succ]
              refine wpAnyH_take (i := 1) (oi := _) (v := .pointer (some ⟨w.heap.size, 5, none⟩)) rfl (by kernel_rfl) (by kernel_rfl) (by kernel_rfl) (fun _ _ _ h => h) (Or.inl ⟨by rfl, fun w hSw => by (try dsimp only at hSw); go_simp⟩) (by assumption) ?_
              try simp only [Act.put, List.getElem_toArray, List.getElem_cons_succ, List.getElem_cons_zero, List.setIfInBounds_toArray, List.set_cons_zero, List.set_cons_succ]
              refine wpAnyH_take (i := 9) (oi := _) (v := .pointer (some ⟨w.heap.size, 5, none⟩)) rfl (by kernel_rfl) (by kernel_rfl) (by kernel_rfl) (fun _ _ _ h => h) (Or.inl ⟨by rfl, fun w hSw => by (try dsimp only at hSw); go_simp⟩) (by assumption) ?_
              try simp only [Act.put, List.getElem_toArray, List.getElem_cons_succ, List.getElem_cons_zero, List.setIfInBounds_toArray, List.set_cons_zero, List.set_cons_succ]
              refine wpAnyH_take (i := 2) (oi := _) (v := .slice (some ⟨b, off, none⟩) sg.length cs) rfl (by kernel_rfl) (by kernel_rfl) (by kernel_rfl) (fun _ _ _ h => h) (Or.inl ⟨by rfl, fun w hSw => by (try dsimp only at hSw); go_simp⟩) (by assumption) ?_
              try simp only [Act.put, List.getElem_toArray, List.getElem_cons_succ, List.getElem_cons_zero, List.setIfInBounds_toArray, List.set_cons_zero, List.set_cons_succ]
              refine wpAnyH_take (i := 10) (oi := _) (v := .slice (some ⟨b, off, none⟩) sg.length cs) rfl (by kernel_rfl) (by kernel_rfl) (by kernel_rfl) (fun _ _ _ h => h) (Or.inl ⟨by rfl, fun w hSw => by (try dsimp only at hSw); go_simp⟩) (by assumption) ?_
              try simp only [Act.put, List.getElem_toArray, List.getElem_cons_succ, List.getElem_cons_zero, List.setIfInBounds_toArray, List.set_cons_zero, List.set_cons_succ]
              refine wpAnyH_take (i := 3) (oi := _) (v := .int .i64 t) rfl (by kernel_rfl) (by kernel_rfl) (by kernel_rfl) (fun _ _ _ h => h) (Or.inl ⟨by rfl, fun w hSw => by (try dsimp only at hSw); go_simp⟩) (by assumption) ?_
              try simp only [Act.put, List.getElem_toArray, List.getElem_cons_succ, List.getElem_cons_zero, List.setIfInBounds_toArray, List.set_cons_zero, List.set_cons_succ]
              refine wpAnyH_take (i := 11) (oi := _) (v := .int .i64 t) rfl (by kernel_rfl) (by kernel_rfl) (by kernel_rfl) (fun _ _ _ h => h) (Or.inl ⟨by rfl, fun w hSw => by (try dsimp only at hSw); go_simp⟩) (by assumption) ?_
              try simp only [Act.put, List.getElem_toArray, List.getElem_cons_succ, List.getElem_cons_zero, List.setIfInBounds_toArray, List.set_cons_zero, List.set_cons_succ]
              refine wpAnyH_take (i := 4) (oi := _) (v := .pointer (some ⟨b, off + t * 2, none⟩)) rfl (by kernel_rfl) (by kernel_rfl) (by kernel_rfl) (fun _ _ _ h => h) (Or.inl ⟨by rfl, fun w hSw => by (try dsimp only at hSw); go_simp⟩) (by assumption) ?_
              try simp only [Act.put, List.getElem_toArray, List.getElem_cons_succ, List.getElem_cons_zero, List.setIfInBounds_toArray, List.set_cons_zero, List.set_cons_succ]
              refine wpAnyH_take (i := 12) (oi := _) (v := .pointer (some ⟨b, off + t * 2, none⟩)) rfl (by kernel_rfl) (by kernel_rfl) (by kernel_rfl) (fun _ _ _ h => h) (Or.inl ⟨by rfl, fun w hSw => by (try dsimp only at hSw); go_simp⟩) (by assumption) ?_
              try simp only [Act.put, List.getElem_toArray, List.getElem_cons_succ, List.getElem_cons_zero, List.setIfInBounds_toArray, List.set_cons_zero, List.set_cons_succ]
              refine wpAnyH_take (i := 5) (oi := _) (v := .pointer (some ⟨b, off + t * 2, none⟩)) rfl (by kernel_rfl) (by kernel_rfl) (by kernel_rfl) (fun _ _ _ h => h) (Or.inl ⟨by rfl, fun w hSw => by (try dsimp only at hSw); go_simp⟩) (by assumption) ?_
              try simp only [Act.put, List.getElem_toArray, List.getElem_cons_succ, List.getElem_cons_zero, List.setIfInBounds_toArray, List.set_cons_zero, List.set_cons_succ]
              refine wpAnyH_take (i := 13) (oi := _) (v := .pointer (some ⟨b, off + t * 2 + 1, none⟩)) rfl (by kernel_rfl) (by kernel_rfl) (by kernel_rfl) (fun _ _ _ h => h) (Or.inl ⟨by rfl, fun w hSw => by (try dsimp only at hSw); go_simp⟩) (by assumption) ?_
              try simp only [Act.put, List.getElem_toArray, List.getElem_cons_succ, List.getElem_cons_zero, List.setIfInBounds_toArray, List.set_cons_zero, List.set_cons_succ]
              refine wpAnyH_take (i := 6) (oi := _) (v := .int .i64 st) rfl (by kernel_rfl) (by kernel_rfl) (by kernel_rfl) (fun _ _ _ h => h) (Or.inl ⟨by rfl, fun w hSw => by (try dsimp only at hSw); go_simp⟩) (by assumption) ?_
              try simp only [Act.put, List.getElem_toArray, List.getElem_cons_succ, List.getElem_cons_zero, List.setIfInBounds_toArray, List.set_cons_zero, List.set_cons_succ]
              refine wpAnyH_take (i := 14) (oi := _) (v := .int .i64 pd) rfl (by kernel_rfl) (by kernel_rfl) (by kernel_rfl) (fun _ _ _ h => h) (Or.inl ⟨by rfl, fun w hSw => by (try dsimp only at hSw); go_simp⟩) (by assumption) ?_
              try simp only [Act.put, List.getElem_toArray, List.getElem_cons_succ, List.getElem_cons_zero, List.setIfInBounds_toArray, List.set_cons_zero, List.set_cons_succ]
              refine wpAnyH_take (i := 15) (oi := _) (v := .int .i64 (pd + 1)) rfl (by kernel_rfl) (by kernel_rfl) (by kernel_rfl) (fun _ _ _ h => h) (Or.inl ⟨by rfl, fun w hSw => by (try dsimp only at hSw); go_simp⟩) (by assumption) ?_
              try simp only [Act.put, List.getElem_toArray, List.getElem_cons_succ, List.getElem_cons_zero, List.setIfInBounds_toArray, List.set_cons_zero, List.set_cons_succ]
              refine wpAnyH_ready (rs := [7]) (by kernel_rfl) (by simp) (AllReadyH.cons (o := _) rfl (fun K hK => ?_) AllReadyH.nil)
              go_simp
              go_at_call 46
              refine (RC.out st _ (by omega) (by omega)).mono ?_
              rintro e u6 ⟨A6, c6, rfl, hb6, ho6⟩
              have O6 := Lib.hid (own_later OD.out hb6)
              have N6 := Lib.hid ho6.nums
              have S6 := CS.out u6 O6.out.2
              clear ho6 hb6
              refine hK.out _ _ S6 (fun hHeld => ?_)
              clear hK K
              try simp only [Act.put, List.getElem_toArray, List.getElem_cons_succ, List.getElem_cons_zero, List.setIfInBounds_toArray, List.set_cons_zero, List.set_cons_succ]
              refine wpAnyH_ready (rs := [8]) (by kernel_rfl) (by simp) (AllReadyH.cons (o := _) rfl (fun K hK => ?_) AllReadyH.nil)
              refine step_append_nums15 (.tmp 96) (.tmp 103) rfl rfl rowU8 W0.heap.size _ _ _ rfl O6.out.1 A6 _ c6 _ rfl N6.out (by have := LDS.out; have := C10.out st (by omega); omega) O6.out.2.size ?_
              intro v7 u7 ho7 hg7 _
              have O7 := Lib.hid (own_grown rfl O6.out hg7 ho7)
              have S7 := CS.out u7 O7.out.2
              clear ho7 hg7
              refine hK.out _ _ S7 (fun hHeld => ?_)
              clear hK K
              try simp only [Act.put, List.getElem_toArray, List.getElem_cons_succ, List.getElem_cons_zero, List.setIfInBounds_toArray, List.set_cons_zero, List.set_cons_succ]
              refine wpAnyH_ready (rs := [16]) (by kernel_rfl) (by simp) (AllReadyH.cons (o := _) rfl (fun K hK => ?_) AllReadyH.nil)
              go_simp
              go_at_call 46
              refine (RC.out (pd + 1) _ (by omega) (by omega)).mono ?_
              rintro e u8 ⟨A8, c8, rfl, hb8, ho8⟩
              have O8 := Lib.hid (own_later O7.out hb8)
              have N8 := Lib.hid ho8.nums
              have S8 := CS.out u8 O8.out.2
              clear ho8 hb8
              refine hK.out _ _ S8 (fun hHeld => ?_)
              clear hK K
              try simp only [Act.put, List.getElem_toArray, List.getElem_cons_succ, List.getElem_cons_zero, List.setIfInBounds_toArray, List.set_cons_zero, List.set_cons_succ]
              refine wpAnyH_ready (rs := [17]) (by kernel_rfl) (by simp) (AllReadyH.cons (o := _) rfl (fun K hK => ?_) AllReadyH.nil)
              refine step_append_nums15 (.tmp 104) (.tmp 112) rfl rfl rowU8 W0.heap.size _ _ _ rfl O8.out.1 A8 _ c8 _ rfl N8.out (by rw [List.length_append]; have := LDS.out; have := C10.out st (by omega); have := C10.out (pd + 1) (by omega); omega) O8.out.2.size ?_
              intro v9 u9 ho9 hg9 _
              have O9 := Lib.hid (own_grown rfl O8.out hg9 ho9)
              have S9 := CS.out u9 O9.out.2
              clear ho9 hg9
              refine hK.out _ _ S9 (fun hHeld => ?_)
              clear hK K
              try simp only [Act.put, List.getElem_toArray, List.getElem_cons_succ, List.getElem_cons_zero, List.setIfInBounds_toArray, List.set_cons_zero, List.set_cons_succ]
              refine wpAnyH_ready (rs := [18]) (by kernel_rfl) (by simp) (AllReadyH.cons (o := _) rfl (fun K hK => ?_) AllReadyH.nil)
              go_simp
              refine hK.out _ _ S9 (fun hHeld => ?_)
              clear hK K
              try simp only [Act.put, List.getElem_toArray, List.getElem_cons_succ, List.getElem_cons_zero, List.setIfInBounds_toArray, List.set_cons_zero, List.set_cons_succ]
              refine wpAnyH_done (by kernel_rfl) ?_ _
              refine NoPanic.normal ?_
              clear O6 O7 O8 N6 N8 S6 S7 S8 S9 L1 OD CS OW
              go_wp2_with fail
              go_roundw
              case rel => exact ⟨t + 1, by omega, by go_num, by rw [UM.out, ← List.append_assoc, HDS.out]; show Owns .u8 u8T u9 W0.heap.size v9 (ds ++ (cntI st ++ cntI (pd + 1))).length (ds ++ (cntI st ++ cntI (pd + 1))) ∧ _; rw [← List.append_assoc]; exact O9.out⟩
              case measure => simp [intOf]; omega
            · have hI : ¬ (t : Int) < sg.length := by omega
              obtain rfl : t = sg.length := by omega
              rw [List.take_length] at OW
              have LJ := Lib.hid (show (z8 ++ sg.flatMap sgB).length ≤ 29058 by rw [List.length_append]; have := LI8.out; have := LS.out sg.length; rw [List.take_length] at this; omega)
              generalize z8 ++ sg.flatMap sgB = z9 at *
              have q6 : wr.cell? ⟨w.heap.size, 6, none⟩ = some (.int .i64 dt) := (X0.out.below OW.out.2 X0.out.lt).cell 6
              have HD1 := HD.out
              go_wp2_with fail
              clear q5 q6
              refine (RC.out dt _ (by omega) (by omega)).mono ?_
              rintro e u1 ⟨A1, c1, rfl, hb, ho⟩
              have G1 := Lib.hid (own_later OW.out hb)
              have N1 := Lib.hid ho.nums
              clear ho hb OW 
              go_wp2_with (at_builtin; refine wpList_append_nums _ rfl _ _ rfl rowU8 W0.heap.size _ _ _ rfl G1.out.1 A1 _ c1 _ rfl N1.out (by have := LJ.out; have := C10.out dt (by omega); omega) G1.out.2.size ?_; intro v1 w1 ho hg _; have OW := Lib.hid (own_grown rfl G1.out hg ho); clear ho hg; have q7 : w1.cell? ⟨w.heap.size, 7, none⟩ = some (.int .i64 ex) := (X0.out.below OW.out.2 X0.out.lt).cell 7)
              clear G1 N1
              have LK := Lib.hid (show (z9 ++ cntI dt).length ≤ 29068 by rw [List.length_append]; have := LJ.out; have := C10.out dt (by omega); omega)
              generalize z9 ++ cntI dt = za at *
              clear q7
              refine (RC.out ex _ (by omega) (by omega)).mono ?_
              rintro e u1 ⟨A1, c1, rfl, hb, ho⟩
              have G1 := Lib.hid (own_later OW.out hb)
              have N1 := Lib.hid ho.nums
              clear ho hb OW 
              go_wp2_with (at_builtin; refine wpList_append_nums _ rfl _ _ rfl rowU8 W0.heap.size _ _ _ rfl G1.out.1 A1 _ c1 _ rfl N1.out (by have := LK.out; have := C10.out ex (by omega); omega) G1.out.2.size ?_; intro v1 w1 ho hg _; have OW := Lib.hid (own_grown rfl G1.out hg ho); clear ho hg; have q8 : w1.cell? ⟨w.heap.size, 8, none⟩ = some (.int .i64 bd) := (X0.out.below OW.out.2 X0.out.lt).cell 8)
              clear G1 N1
              have LM := Lib.hid (show (za ++ cntI ex).length ≤ 29078 by rw [List.length_append]; have := LK.out; have := C10.out ex (by omega); omega)
              generalize za ++ cntI ex = zb at *
              clear q8
              refine (RC.out bd _ (by omega) (by omega)).mono ?_
              rintro e u1 ⟨A1, c1, rfl, hb, ho⟩
              have G1 := Lib.hid (own_later OW.out hb)
              have N1 := Lib.hid ho.nums
              clear ho hb OW 
              go_wp2_with (at_builtin; refine wpList_append_nums _ rfl _ _ rfl rowU8 W0.heap.size _ _ _ rfl G1.out.1 A1 _ c1 _ rfl N1.out (by have := LM.out; have := C10.out bd (by omega); omega) G1.out.2.size ?_; intro v1 w1 ho hg _; have OW := Lib.hid (own_grown rfl G1.out hg ho); clear ho hg)
              clear G1 N1
              rw [← FP.out] at OW
              obtain ⟨A9, c9, rfl, _⟩ := OW.out.1.form
              have B9 := Lib.hid (BV0.out.trans (OW.out.2.mono BV0.out.size))
              have N9 := Lib.hid OW.out.1.nums
              clear OW
              go_ret
              exact ⟨A9, c9, rfl, B9.out, N9.out⟩
end Go.Proofs.Ytdakooipelligaa
