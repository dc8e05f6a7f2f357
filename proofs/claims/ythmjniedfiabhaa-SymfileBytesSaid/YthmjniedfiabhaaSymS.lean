/- Symfile: Encode; the answers' Bytes. -/
import Derived.Test.YthmjniedfiabhaaSymH
import Derived.Test.YthmjniedfiabhaaSymI
import Derived.Test.YthmjniedfiabhaaSymR
namespace Go.Proofs.Ythmjniedfiabhaa
open Go.ChangeShapes Go.WideShapes Go.ChangeAt Go.RowKit
set_option linter.unusedVariables false
set_option linter.unusedSimpArgs false

/-- append to an own row of integers, as one step of a region that draws. -/
theorem step_append_nums14 {P : Program} {ops : Array Oper} {o : Oper} {a : Act} {w : World} {K : Act → World → Prop} {Q : Exit → Act → World → Prop} {E : Prop}
    (s x : Operand) {t e : TypeId} {k : IntKind} {bytes : Nat} (hop : o.op = Op.call { callee := Callee.builtin Builtin.append, args := #[s, x], argTypes := #[t, t] }) (hw : Region.wanted o (yielded ops a.tmps) = true)
    (R : RowOf P t e k bytes) (B : Nat) (v : Value) (n : Nat) (ys : List Int) (hs : a.eval s = v) (hown : Owns k e w B v n ys)
    (A : Option Addr) (m c : Nat) (zs : List Int) (hx : a.eval x = .slice A m c) (hz : Nums k w A m zs) (hmax : (n + m) * bytes ≤ 140737488355328) (hbase : B ≤ w.heap.size)
    (hK : ∀ v' w', Owns k e w' B v' (n + m) (ys ++ zs) → w.grownBy w' v.ownBlock → (v'.ownBlock = v.ownBlock ∨ v'.ownBlock = some w.heap.size) → K (a.put o.dst v') w') :
    if Region.wanted o (yielded ops a.tmps) = true then Oper.wp P o a w K Q else E := by
  rw [if_pos hw]
  obtain ⟨v', w', hrun, r1, r2, r3⟩ := run_append_nums (P := P) (ty := o.type) w R B v n ys hown A m c zs hz hmax hbase
  unfold Oper.wp
  simp [execOp, hop, resolve, invoke, builtin, hs, hx, hrun, Result.andThen]
  exact hK v' w' r1 r2 r3

theorem fit_sm {l : List Im} (h : ∀ x ∈ l, ImFit x) : ∀ x ∈ l, ImSm x := fun x hx => ⟨by have := (h x hx).1; omega, (h x hx).2⟩

/-- The pieces of a file's bytes, as they are put. -/
theorem fileB_pieces (f : Fl) : fileB f = ((((bytesOf 1347639553) ++ (cntB f.md.size ++ strI f.md)) ++ bytesOf f.key) ++ imsB f.ims) ++ listB f.exs := by
  unfold fileB
  simp only [List.append_assoc]

set_option maxHeartbeats 16000000 in
set_option maxRecDepth 100000 in
theorem encode_bad (md : ByteArray) (key : Int) (Ai : Option Addr) (im : List Im) (ci : Nat) (Ae : Option Addr) (es : List Exx) (ce : Nat) (B : Nat) (w : World) (hi : ImV B w (.slice Ai im.length ci) im) (he : ExpV w.heap.size w (.slice Ae es.length ce) es) (sm : FlSm md es) (hin : im.length ≤ 140737488355328) (hio : ∀ x ∈ im, x.nm.size ≤ 140737488355328) (hc : checkP ⟨md, key, im, es.map (·.1)⟩ ≠ 0) :
    Calls Try.prog 18 #[.agg #[.string md, .int .u32 key, .slice Ai im.length ci, .slice Ae es.length ce]] w fun e w' => e = .returned (.tuple #[.slice none 0 0, .int .i64 (checkP ⟨md, key, im, es.map (·.1)⟩)]) ∧ Below w.heap.size w w' := by
  have BA := Lib.hid ((Below.refl w.heap.size w).alloc (Nat.le_refl _) (.cells #[.string md, .int .u32 key, .slice Ai im.length ci, .slice Ae es.length ce] flT))
  have X := Lib.hid (Whole.made w flT #[.string md, .int .u32 key, .slice Ai im.length ci, .slice Ae es.length ce] _ rfl)
  have q0 : (w.alloc (.cells #[.string md, .int .u32 key, .slice Ai im.length ci, .slice Ae es.length ce] flT)).cell? ⟨w.heap.size, 0, none⟩ = some (.string md) := X.out.cell 0
  have q1 : (w.alloc (.cells #[.string md, .int .u32 key, .slice Ai im.length ci, .slice Ae es.length ce] flT)).cell? ⟨w.heap.size, 1, none⟩ = some (.int .u32 key) := X.out.cell 1
  have q2 : (w.alloc (.cells #[.string md, .int .u32 key, .slice Ai im.length ci, .slice Ae es.length ce] flT)).cell? ⟨w.heap.size, 2, none⟩ = some (.slice Ai im.length ci) := X.out.cell 2
  have q3 : (w.alloc (.cells #[.string md, .int .u32 key, .slice Ai im.length ci, .slice Ae es.length ce] flT)).cell? ⟨w.heap.size, 3, none⟩ = some (.slice Ae es.length ce) := X.out.cell 3
  have CH := Lib.hid (check_any md key Ai im ci Ae es ce B w.heap.size (w.alloc (.cells #[.string md, .int .u32 key, .slice Ai im.length ci, .slice Ae es.length ce] flT)) (hi.below BA.out) (he.toR.below BA.out) sm hin hio)
  generalize checkP ⟨md, key, im, es.map (·.1)⟩ = m at *
  have d0 : (m != 0) = true := by simp [hc]
  clear hi he sm hio hc
  go_enter Try.func18, Try.ntmps18
  go_wp2_with fail
  refine CH.out.mono ?_
  rintro e w1 ⟨rfl, hb1⟩
  have B1 := Lib.hid (BA.out.trans (hb1.mono BA.out.size))
  clear hb1 q0 q1 q2 q3
  go_wp2_with fail
  go_ret2
  exact ⟨rfl, B1.out⟩

set_option maxHeartbeats 16000000 in
set_option maxRecDepth 100000 in
theorem encode_ok (md : ByteArray) (key : Int) (Ai : Option Addr) (im : List Im) (ci : Nat) (Ae : Option Addr) (es : List Exx) (ce : Nat) (B : Nat) (w : World) (hi : ImV B w (.slice Ai im.length ci) im) (he : ExpV w.heap.size w (.slice Ae es.length ce) es) (sm : FlSm md es) (hin : im.length ≤ 140737488355328) (hio : ∀ x ∈ im, x.nm.size ≤ 140737488355328) (hk : 0 ≤ key ∧ key ≤ 4294967295) (hc : checkP ⟨md, key, im, es.map (·.1)⟩ = 0) (hfi : ∀ x ∈ im, ImFit x) (h64 : im.length ≤ 64) :
    Calls Try.prog 18 #[.agg #[.string md, .int .u32 key, .slice Ai im.length ci, .slice Ae es.length ce]] w fun e w' => ∃ A c, e = .returned (.tuple #[.slice A (fileB ⟨md, key, im, es.map (·.1)⟩).length c, .int .i64 0]) ∧ Below w.heap.size w w' ∧ Nums .u8 w' A (fileB ⟨md, key, im, es.map (·.1)⟩).length (fileB ⟨md, key, im, es.map (·.1)⟩) := by
  have BA := Lib.hid ((Below.refl w.heap.size w).alloc (Nat.le_refl _) (.cells #[.string md, .int .u32 key, .slice Ai im.length ci, .slice Ae es.length ce] flT))
  have X := Lib.hid (Whole.made w flT #[.string md, .int .u32 key, .slice Ai im.length ci, .slice Ae es.length ce] _ rfl)
  have q0 : (w.alloc (.cells #[.string md, .int .u32 key, .slice Ai im.length ci, .slice Ae es.length ce] flT)).cell? ⟨w.heap.size, 0, none⟩ = some (.string md) := X.out.cell 0
  have q1 : (w.alloc (.cells #[.string md, .int .u32 key, .slice Ai im.length ci, .slice Ae es.length ce] flT)).cell? ⟨w.heap.size, 1, none⟩ = some (.int .u32 key) := X.out.cell 1
  have q2 : (w.alloc (.cells #[.string md, .int .u32 key, .slice Ai im.length ci, .slice Ae es.length ce] flT)).cell? ⟨w.heap.size, 2, none⟩ = some (.slice Ai im.length ci) := X.out.cell 2
  have q3 : (w.alloc (.cells #[.string md, .int .u32 key, .slice Ai im.length ci, .slice Ae es.length ce] flT)).cell? ⟨w.heap.size, 3, none⟩ = some (.slice Ae es.length ce) := X.out.cell 3
  have CH := Lib.hid (check_any md key Ai im ci Ae es ce B w.heap.size (w.alloc (.cells #[.string md, .int .u32 key, .slice Ai im.length ci, .slice Ae es.length ce] flT)) (hi.below BA.out) (he.toR.below BA.out) sm hin hio)
  rw [hc] at CH
  have FP := Lib.hid (fileB_pieces ⟨md, key, im, es.map (·.1)⟩)
  simp only at FP
  have hmd := sm.md
  have hen := sm.n
  have EX := Lib.hid (fun x hx => sm.ex x hx)
  have LT := Lib.hid (show (cntB md.size ++ strI md).length ≤ 210 by rw [List.length_append, strI_len]; have := cntB_len10 (n := md.size) (by omega); omega)
  have LI := Lib.hid (imsB_len (fit_sm hfi) (by omega))
  have LL := Lib.hid (listB_len sm.ex hen)
  have l4 : ∀ n, (bytesOf n).length = 4 := fun _ => rfl
  have L4 := Lib.hid l4
  have HI := Lib.hid (hi.below BA.out)
  have HE := Lib.hid (he.below BA.out)
  have FI := Lib.hid (fit_sm hfi)
  have HK := Lib.hid hk
  generalize fileB ⟨md, key, im, es.map (·.1)⟩ = FB at *
  clear hi he sm hio hc hfi hk l4
  go_enter Try.func18, Try.ntmps18
  go_wp2_with fail
  clear q0 q1 q2 q3
  refine CH.out.mono ?_
  rintro e w1 ⟨rfl, hb1⟩
  have B1 := Lib.hid (BA.out.trans (hb1.mono BA.out.size))
  have X1 := Lib.hid (X.out.below hb1 X.out.lt)
  have I1 := Lib.hid (HI.out.below hb1).toV
  have E1 := Lib.hid (HE.out.below hb1).toR.toV
  have b2 := (Below.refl w1.heap.size w1).alloc (Nat.le_refl _) (.cells #[.slice none 0 0] wrT)
  have A0 := Lib.hid (wrAt_new w1 w1.heap.size w1.heap.size rfl (Nat.le_refl _))
  have B2 := Lib.hid b2
  have X2 := Lib.hid (X1.out.below b2 X1.out.lt)
  have I2 := Lib.hid (I1.out.below b2)
  have E2 := Lib.hid (E1.out.below b2)
  have NX := Lib.hid (show ¬ WrS w1.heap.size none w.heap.size from fun hs => hs.elim (fun e => by have := X1.out.lt; omega) (fun e => by cases e))
  have P1 := Lib.hid ((WrPost.refl A0.out).word (n := 1347639553) b2.size (by decide) (by decide) (by decide))
  rw [List.nil_append] at P1
  clear hb1 b2 CH BA X HI HE
  go_wp2_with fail
  refine P1.out.mono ?_
  rintro e w2 ⟨rfl, hp2⟩
  have x2 : w2.cell? ⟨w.heap.size, 0, none⟩ = some (.string md) := hp2.cell (X2.out.cell 0) NX.out
  have P2 := Lib.hid hp2
  clear hp2 P1
  go_wp2_with fail
  clear x2
  refine (P2.out.text B2.out.size (by have := L4.out 1347639553; omega) (by omega)).mono ?_
  rintro e w3 ⟨rfl, hp3⟩
  have x3 : w3.cell? ⟨w.heap.size, 1, none⟩ = some (.int .u32 key) := hp3.cell (X2.out.cell 1) NX.out
  have P3 := Lib.hid hp3
  have LA := Lib.hid (show (bytesOf 1347639553 ++ (cntB md.size ++ strI md)).length ≤ 214 by rw [List.length_append]; have := L4.out 1347639553; have := LT.out; omega)
  clear hp3 P2
  generalize bytesOf 1347639553 ++ (cntB md.size ++ strI md) = z1 at *
  go_wp2_with fail
  clear x3
  refine (P3.out.word B2.out.size (by have := LA.out; omega) HK.out.1 HK.out.2).mono ?_
  rintro e w4 ⟨rfl, hp4⟩
  have x4 : w4.cell? ⟨w.heap.size, 2, none⟩ = some (.slice Ai im.length ci) := hp4.cell (X2.out.cell 2) NX.out
  have LB := Lib.hid (show (z1 ++ bytesOf key).length ≤ 218 by rw [List.length_append]; have := L4.out key; have := LA.out; omega)
  generalize z1 ++ bytesOf key = z2 at *
  obtain ⟨h4, a4, tr4⟩ := hp4.after
  have TR4 := Lib.hid tr4
  have WI := Lib.hid (iwrite_any Ai ci im w1.heap.size w1.heap.size h4 z2 w4 a4 (Nat.le_trans B2.out.size hp4.kept.size) (by have := LB.out; omega) (hp4.ims A0.out I2.out) FI.out (by omega))
  clear hp4 a4 tr4 P3
  go_wp2_with fail
  clear x4
  refine WI.out.mono ?_
  rintro e w5 ⟨rfl, hp5⟩
  have hp6 := TR4.out _ _ hp5
  have x5 : w5.cell? ⟨w.heap.size, 3, none⟩ = some (.slice Ae es.length ce) := hp6.cell (X2.out.cell 3) NX.out
  have LC := Lib.hid (show (z2 ++ imsB im).length ≤ 22228 by rw [List.length_append]; have := LB.out; have := LI.out; omega)
  generalize z2 ++ imsB im = z3 at *
  obtain ⟨h5, a5, tr5⟩ := hp6.after
  have TR5 := Lib.hid tr5
  have WE := Lib.hid (write_any Ae ce es w1.heap.size w1.heap.size h5 z3 w5 a5 (Nat.le_trans B2.out.size hp6.kept.size) (by have := LC.out; omega) (hp6.exps A0.out E2.out) EX.out hen)
  clear hp5 hp6 a5 tr5 WI TR4
  go_wp2_with fail
  clear x5
  refine WE.out.mono ?_
  rintro e w6 ⟨rfl, hp7⟩
  have hp8 := TR5.out _ _ hp7
  rw [← FP.out] at hp8
  have LF := Lib.hid (show FB.length ≤ 90000 by rw [FP.out, List.length_append]; have := LC.out; have := LL.out; omega)
  have B6 := Lib.hid (B1.out.trans ((KeptS.below B2.out hp8.kept B2.out.size A0.out.base').mono B1.out.size))
  obtain ⟨h8, a8, _⟩ := hp8.after
  have BY := Lib.hid (wbytes_any _ _ _ _ w6 a8 (by have := LF.out; omega))
  clear hp7 hp8 a8 WE TR5
  go_wp2_with fail
  refine BY.out.mono ?_
  rintro e w7 ⟨A7, c7, rfl, hb7, ho7⟩
  have B7 := Lib.hid (B6.out.trans (hb7.mono B6.out.size))
  have N7 := Lib.hid ho7.nums
  clear hb7 ho7 BY
  go_wp2_with fail
  go_ret2
  exact ⟨A7, c7, rfl, B7.out, N7.out⟩

set_option maxHeartbeats 16000000 in
set_option maxRecDepth 100000 in
theorem refbytes14_any (md : ByteArray) (key : Int) (Ai : Option Addr) (im : List Im) (ci : Nat) (Ae : Option Addr) (es : List Exx) (ce : Nat) (w : World) (hi : ImV w.heap.size w (.slice Ai im.length ci) im) (he : ExpV w.heap.size w (.slice Ae es.length ce) es) (sm : FlSm md es) (hk : 0 ≤ key ∧ key ≤ 4294967295) (hfi : ∀ x ∈ im, ImFit x) (h64 : im.length ≤ 64) :
    Calls Try.prog 21 #[.agg #[.string md, .int .u32 key, .slice Ai im.length ci, .slice Ae es.length ce]] w fun e w' => ∃ A c, e = .returned (.slice A (fileB ⟨md, key, im, es.map (·.1)⟩).length c) ∧ Below w.heap.size w w' ∧ Nums .u8 w' A (fileB ⟨md, key, im, es.map (·.1)⟩).length (fileB ⟨md, key, im, es.map (·.1)⟩) := by
  have BV0 := Lib.hid ((Below.refl w.heap.size w).alloc (Nat.le_refl _) (.cells #[.string md, .int .u32 key, .slice Ai im.length ci, .slice Ae es.length ce] rlT))
  have XX := Lib.hid (Whole.made w rlT #[.string md, .int .u32 key, .slice Ai im.length ci, .slice Ae es.length ce] _ rfl)
  have FP := Lib.hid (fileB_pieces ⟨md, key, im, es.map (·.1)⟩)
  simp only at FP
  have hmd := sm.md
  have hen := sm.n
  have EX := Lib.hid (fun x hx => sm.ex x hx)
  have LT := Lib.hid (show (cntB md.size ++ strI md).length ≤ 210 by rw [List.length_append, strI_len]; have := cntB_len10 (n := md.size) (by omega); omega)
  have LI := Lib.hid (imsB_len (fit_sm hfi) (by omega))
  have LL := Lib.hid (listB_len sm.ex hen)
  have L4 := Lib.hid (show ∀ n, (bytesOf n).length = 4 from fun _ => rfl)
  have HI := Lib.hid (hi.below BV0.out)
  have HE := Lib.hid (he.below BV0.out)
  have FI := Lib.hid (fit_sm hfi)
  have HK := Lib.hid hk
  generalize fileB ⟨md, key, im, es.map (·.1)⟩ = FB at *
  clear hi he sm hfi hk
  go_enter Try.func21, Try.ntmps21
  go_wp2_with fail
  generalize hW0 : (w.alloc (.cells #[.string md, .int .u32 key, .slice Ai im.length ci, .slice Ae es.length ce] rlT)) = W0 at *
  clear hW0
  have X0 := Lib.hid XX.out
  have BV := Lib.hid (show Below W0.heap.size W0 W0.drew from (Below.refl _ _).drew)
  have L0 : W0.drew.cell? ⟨w.heap.size, 0, none⟩ = some (.string md) := X0.out.cell 0
  refine wp_region_noPanic ?_
  refine wp_region_held_drew (S := fun y => y.cell? ⟨w.heap.size, 0, none⟩ = some (.string md)) (by kernel_rfl) L0 (fun hHeld => ?_)
  refine wpAnyH_take (i := 1) (oi := _) (v := .pointer (some ⟨w.heap.size, 0, none⟩)) rfl (by kernel_rfl) (by kernel_rfl) (by kernel_rfl) (fun _ _ _ h => h) (Or.inl ⟨by rfl, fun w hSw => by (try dsimp only at hSw); go_simp⟩) (by assumption) ?_
  try simp only [Act.put, List.getElem_toArray, List.getElem_cons_succ, List.getElem_cons_zero, List.setIfInBounds_toArray, List.set_cons_zero, List.set_cons_succ]
  refine wpAnyH_take (i := 2) (oi := _) (v := .string md) rfl (by kernel_rfl) (by kernel_rfl) (by kernel_rfl) (fun _ _ _ h => h) (Or.inl ⟨by rfl, fun w hSw => by (try dsimp only at hSw); go_simp⟩) (by assumption) ?_
  try simp only [Act.put, List.getElem_toArray, List.getElem_cons_succ, List.getElem_cons_zero, List.setIfInBounds_toArray, List.set_cons_zero, List.set_cons_succ]
  refine wpAnyH_ready (rs := [0]) (by kernel_rfl) (by simp) (AllReadyH.cons (o := _) rfl (fun K hK => ?_) AllReadyH.nil)
  go_simp
  go_at_call 49
  refine (refbytes_any 1347639553 _ (by decide) (by decide)).mono ?_
  rintro e w1 ⟨A1, c1, rfl, ho1, hb1⟩
  have B1 := Lib.hid (BV.out.trans (hb1.mono BV.out.size))
  have O1 := Lib.hid (show Owns .u8 u8T w1 W0.heap.size (.slice A1 4 c1) (bytesOf 1347639553).length (bytesOf 1347639553) ∧ Below W0.heap.size W0 w1 from ⟨ho1, B1.out⟩)
  have S1 : w1.cell? ⟨w.heap.size, 0, none⟩ = some (.string md) := (X0.out.below B1.out X0.out.lt).cell 0
  clear ho1 hb1
  refine hK.out _ _ S1 (fun hHeld => ?_)
  clear hK K
  try simp only [Act.put, List.getElem_toArray, List.getElem_cons_succ, List.getElem_cons_zero, List.setIfInBounds_toArray, List.set_cons_zero, List.set_cons_succ]
  refine wpAnyH_ready (rs := [3]) (by kernel_rfl) (by simp) (AllReadyH.cons (o := _) rfl (fun K hK => ?_) AllReadyH.nil)
  go_simp
  go_at_call 50
  refine (reftext_any md w1 (by omega)).mono ?_
  rintro e w2 ⟨A2, c2, rfl, hb2, ho2⟩
  have O2 := Lib.hid (own_later O1.out hb2)
  have N2 := Lib.hid ho2.nums
  have S2 : w2.cell? ⟨w.heap.size, 0, none⟩ = some (.string md) := (X0.out.below O2.out.2 X0.out.lt).cell 0
  clear ho2 hb2
  refine hK.out _ _ S2 (fun hHeld => ?_)
  clear hK K
  try simp only [Act.put, List.getElem_toArray, List.getElem_cons_succ, List.getElem_cons_zero, List.setIfInBounds_toArray, List.set_cons_zero, List.set_cons_succ]
  refine wpAnyH_ready (rs := [4]) (by kernel_rfl) (by simp) (AllReadyH.cons (o := _) rfl (fun K hK => ?_) AllReadyH.nil)
  refine step_append_nums14 (.tmp 4) (.tmp 7) rfl rfl rowU8 W0.heap.size _ _ _ rfl O2.out.1 A2 _ c2 _ rfl N2.out (by have := LT.out; have := L4.out 1347639553; omega) O2.out.2.size ?_
  intro v3 w3 ho3 hg3 _
  have O3 := Lib.hid (own_grown rfl O2.out hg3 ho3)
  have S3 : w3.cell? ⟨w.heap.size, 0, none⟩ = some (.string md) := (X0.out.below O3.out.2 X0.out.lt).cell 0
  clear ho3 hg3
  refine hK.out _ _ S3 (fun hHeld => ?_)
  clear hK K
  try simp only [Act.put, List.getElem_toArray, List.getElem_cons_succ, List.getElem_cons_zero, List.setIfInBounds_toArray, List.set_cons_zero, List.set_cons_succ]
  refine wpAnyH_ready (rs := [5]) (by kernel_rfl) (by simp) (AllReadyH.cons (o := _) rfl (fun K hK => ?_) AllReadyH.nil)
  go_simp
  refine hK.out _ _ S3 (fun hHeld => ?_)
  clear hK K
  try simp only [Act.put, List.getElem_toArray, List.getElem_cons_succ, List.getElem_cons_zero, List.setIfInBounds_toArray, List.set_cons_zero, List.set_cons_succ]
  refine wpAnyH_done (by kernel_rfl) ?_ _
  refine NoPanic.normal ?_
  clear O1 O2 N2 B1 S1 S2 S3 L0 BV
  have q1 : w3.cell? ⟨w.heap.size, 1, none⟩ = some (.int .u32 key) := (X0.out.below O3.out.2 X0.out.lt).cell 1
  have LA0 := Lib.hid (show (bytesOf 1347639553 ++ (cntB md.size ++ strI md)).length ≤ 214 by rw [List.length_append]; have := L4.out 1347639553; have := LT.out; omega)
  generalize bytesOf 1347639553 ++ (cntB md.size ++ strI md) = z1 at *
  go_wp2_with fail
  clear q1
  refine (refbytes_any key w3 HK.out.1 HK.out.2).mono ?_
  rintro e w4 ⟨A4, c4, rfl, ho4, hb4⟩
  have O4 := Lib.hid (own_later O3.out hb4)
  have N4 := Lib.hid ho4.nums
  clear ho4 hb4 O3
  go_wp2_with (at_builtin; refine wpList_append_nums _ rfl _ _ rfl rowU8 W0.heap.size _ _ _ rfl O4.out.1 A4 _ c4 _ rfl N4.out (by have := LA0.out; omega) O4.out.2.size ?_; intro v5 w5 ho hg _; have O5 := Lib.hid (own_grown (L4.out key) O4.out hg ho); clear ho hg)
  have LA := Lib.hid (show (z1 ++ bytesOf key).length ≤ 218 by rw [List.length_append]; have := L4.out key; have := LA0.out; omega)
  have X5 := Lib.hid (X0.out.below O5.out.2 X0.out.lt)
  have LB := Lib.hid (show ((z1 ++ bytesOf key) ++ imsB im).length ≤ 22228 by rw [List.length_append]; have := LA.out; have := LI.out; omega)
  generalize z1 ++ bytesOf key = z2 at *
  have WI := Lib.hid (fun y (hb : Below w5.heap.size w5 y) => refiwrite_any Ai ci im y ((HI.out.below O5.out.2).below hb).toV FI.out (by omega))
  have WE := Lib.hid (fun y (hb : Below W0.heap.size W0 y) => refbytes13_any Ae ce es y (HE.out.below hb).toR.toV EX.out hen)
  have BD := Lib.hid (show Below w5.heap.size w5 w5.drew from (Below.refl _ _).drew)
  have OD := Lib.hid (show Owns .u8 u8T w5.drew W0.heap.size v5 z2.length z2 ∧ Below W0.heap.size W0 w5.drew from own_later O5.out BD.out)
  have L1 : w5.drew.cell? ⟨w.heap.size, 2, none⟩ = some (.slice Ai im.length ci) ∧ w5.drew.cell? ⟨w.heap.size, 3, none⟩ = some (.slice Ae es.length ce) := ⟨X5.out.cell 2, X5.out.cell 3⟩
  obtain ⟨A5, c5, rfl, _⟩ := O5.out.1.form
  clear O4 N4 O5
  refine wp_region_noPanic ?_
  refine wp_region_held_drew (S := fun y => y.cell? ⟨w.heap.size, 2, none⟩ = some (.slice Ai im.length ci) ∧ y.cell? ⟨w.heap.size, 3, none⟩ = some (.slice Ae es.length ce)) (by kernel_rfl) L1 (fun hHeld => ?_)
  refine wpAnyH_take (i := 0) (oi := _) (v := .slice A5 z2.length c5) rfl (by kernel_rfl) (by kernel_rfl) (by kernel_rfl) (fun _ _ _ h => h) (Or.inl ⟨by rfl, fun w hSw => by (try dsimp only at hSw); go_simp⟩) (by assumption) ?_
  try simp only [Act.put, List.getElem_toArray, List.getElem_cons_succ, List.getElem_cons_zero, List.setIfInBounds_toArray, List.set_cons_zero, List.set_cons_succ]
  refine wpAnyH_take (i := 1) (oi := _) (v := .pointer (some ⟨w.heap.size, 2, none⟩)) rfl (by kernel_rfl) (by kernel_rfl) (by kernel_rfl) (fun _ _ _ h => h) (Or.inl ⟨by rfl, fun w hSw => by (try dsimp only at hSw); go_simp⟩) (by assumption) ?_
  try simp only [Act.put, List.getElem_toArray, List.getElem_cons_succ, List.getElem_cons_zero, List.setIfInBounds_toArray, List.set_cons_zero, List.set_cons_succ]
  refine wpAnyH_take (i := 2) (oi := _) (v := .slice Ai im.length ci) rfl (by kernel_rfl) (by kernel_rfl) (by kernel_rfl) (fun _ _ _ h => h) (Or.inl ⟨by rfl, fun w hSw => by (try dsimp only at hSw); go_simp⟩) (by assumption) ?_
  try simp only [Act.put, List.getElem_toArray, List.getElem_cons_succ, List.getElem_cons_zero, List.setIfInBounds_toArray, List.set_cons_zero, List.set_cons_succ]
  refine wpAnyH_take (i := 5) (oi := _) (v := .pointer (some ⟨w.heap.size, 3, none⟩)) rfl (by kernel_rfl) (by kernel_rfl) (by kernel_rfl) (fun _ _ _ h => h) (Or.inl ⟨by rfl, fun w hSw => by (try dsimp only at hSw); go_simp⟩) (by assumption) ?_
  try simp only [Act.put, List.getElem_toArray, List.getElem_cons_succ, List.getElem_cons_zero, List.setIfInBounds_toArray, List.set_cons_zero, List.set_cons_succ]
  refine wpAnyH_take (i := 6) (oi := _) (v := .slice Ae es.length ce) rfl (by kernel_rfl) (by kernel_rfl) (by kernel_rfl) (fun _ _ _ h => h) (Or.inl ⟨by rfl, fun w hSw => by (try dsimp only at hSw); go_simp⟩) (by assumption) ?_
  try simp only [Act.put, List.getElem_toArray, List.getElem_cons_succ, List.getElem_cons_zero, List.setIfInBounds_toArray, List.set_cons_zero, List.set_cons_succ]
  refine wpAnyH_ready (rs := [3]) (by kernel_rfl) (by simp) (AllReadyH.cons (o := _) rfl (fun K hK => ?_) AllReadyH.nil)
  go_simp
  go_at_call 27
  refine (WI.out _ BD.out).mono ?_
  rintro e w6 ⟨A6, c6, rfl, hb6, ho6⟩
  have O6 := Lib.hid (own_later OD.out hb6)
  have N6 := Lib.hid ho6.nums
  have S6 : w6.cell? ⟨w.heap.size, 2, none⟩ = some (.slice Ai im.length ci) ∧ w6.cell? ⟨w.heap.size, 3, none⟩ = some (.slice Ae es.length ce) := ⟨(X5.out.below (BD.out.trans (hb6.mono BD.out.size)) X5.out.lt).cell 2, (X5.out.below (BD.out.trans (hb6.mono BD.out.size)) X5.out.lt).cell 3⟩
  have B6 := Lib.hid (BD.out.trans (hb6.mono BD.out.size))
  clear ho6 hb6
  refine hK.out _ _ S6 (fun hHeld => ?_)
  clear hK K
  try simp only [Act.put, List.getElem_toArray, List.getElem_cons_succ, List.getElem_cons_zero, List.setIfInBounds_toArray, List.set_cons_zero, List.set_cons_succ]
  refine wpAnyH_ready (rs := [4]) (by kernel_rfl) (by simp) (AllReadyH.cons (o := _) rfl (fun K hK => ?_) AllReadyH.nil)
  refine step_append_nums14 (.tmp 14) (.tmp 17) rfl rfl rowU8 W0.heap.size _ _ _ rfl O6.out.1 A6 _ c6 _ rfl N6.out (by have := LA.out; have := LI.out; omega) O6.out.2.size ?_
  intro v7 w7 ho7 hg7 _
  have O7 := Lib.hid (own_grown rfl O6.out hg7 ho7)
  have S7 : w7.cell? ⟨w.heap.size, 2, none⟩ = some (.slice Ai im.length ci) ∧ w7.cell? ⟨w.heap.size, 3, none⟩ = some (.slice Ae es.length ce) := ⟨(X0.out.below O7.out.2 X0.out.lt).cell 2, (X0.out.below O7.out.2 X0.out.lt).cell 3⟩
  clear ho7 hg7
  refine hK.out _ _ S7 (fun hHeld => ?_)
  clear hK K
  try simp only [Act.put, List.getElem_toArray, List.getElem_cons_succ, List.getElem_cons_zero, List.setIfInBounds_toArray, List.set_cons_zero, List.set_cons_succ]
  refine wpAnyH_ready (rs := [7]) (by kernel_rfl) (by simp) (AllReadyH.cons (o := _) rfl (fun K hK => ?_) AllReadyH.nil)
  go_simp
  go_at_call 51
  refine (WE.out _ O7.out.2).mono ?_
  rintro e w8 ⟨A8, c8, rfl, hb8, ho8⟩
  have O8 := Lib.hid (own_later O7.out hb8)
  have N8 := Lib.hid ho8.nums
  have S8 : w8.cell? ⟨w.heap.size, 2, none⟩ = some (.slice Ai im.length ci) ∧ w8.cell? ⟨w.heap.size, 3, none⟩ = some (.slice Ae es.length ce) := ⟨(X0.out.below O8.out.2 X0.out.lt).cell 2, (X0.out.below O8.out.2 X0.out.lt).cell 3⟩
  clear ho8 hb8
  refine hK.out _ _ S8 (fun hHeld => ?_)
  clear hK K
  try simp only [Act.put, List.getElem_toArray, List.getElem_cons_succ, List.getElem_cons_zero, List.setIfInBounds_toArray, List.set_cons_zero, List.set_cons_succ]
  refine wpAnyH_ready (rs := [8]) (by kernel_rfl) (by simp) (AllReadyH.cons (o := _) rfl (fun K hK => ?_) AllReadyH.nil)
  refine step_append_nums14 (.tmp 18) (.tmp 21) rfl rfl rowU8 W0.heap.size _ _ _ rfl O8.out.1 A8 _ c8 _ rfl N8.out (by have := LB.out; have := LL.out; omega) O8.out.2.size ?_
  intro v9 w9 ho9 hg9 _
  have O9 := Lib.hid (own_grown rfl O8.out hg9 ho9)
  have S9 : w9.cell? ⟨w.heap.size, 2, none⟩ = some (.slice Ai im.length ci) ∧ w9.cell? ⟨w.heap.size, 3, none⟩ = some (.slice Ae es.length ce) := ⟨(X0.out.below O9.out.2 X0.out.lt).cell 2, (X0.out.below O9.out.2 X0.out.lt).cell 3⟩
  clear ho9 hg9
  refine hK.out _ _ S9 (fun hHeld => ?_)
  clear hK K
  try simp only [Act.put, List.getElem_toArray, List.getElem_cons_succ, List.getElem_cons_zero, List.setIfInBounds_toArray, List.set_cons_zero, List.set_cons_succ]
  refine wpAnyH_ready (rs := [9]) (by kernel_rfl) (by simp) (AllReadyH.cons (o := _) rfl (fun K hK => ?_) AllReadyH.nil)
  go_simp
  refine hK.out _ _ S9 (fun hHeld => ?_)
  clear hK K
  try simp only [Act.put, List.getElem_toArray, List.getElem_cons_succ, List.getElem_cons_zero, List.setIfInBounds_toArray, List.set_cons_zero, List.set_cons_succ]
  refine wpAnyH_done (by kernel_rfl) ?_ _
  refine NoPanic.normal ?_
  clear O6 O7 O8 N6 N8 S6 S7 S8 S9 L1 BD OD WI WE
  rw [← FP.out] at O9
  obtain ⟨A9, c9, rfl, _⟩ := O9.out.1.form
  have B9 := Lib.hid (BV0.out.trans (O9.out.2.mono BV0.out.size))
  have N9 := Lib.hid O9.out.1.nums
  clear O9
  go_wp2_with fail
  go_ret
  exact ⟨A9, c9, rfl, B9.out, N9.out⟩
end Go.Proofs.Ythmjniedfiabhaa
