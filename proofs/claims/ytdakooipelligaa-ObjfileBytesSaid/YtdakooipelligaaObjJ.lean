/- Objfile: writeCounts; Encode. -/
import Derived.Test.YtdakooipelligaaObjE
import Derived.Test.YtdakooipelligaaSymR
namespace Go.Proofs.Ytdakooipelligaa
open Go.ChangeShapes Go.WideShapes Go.ChangeAt Go.RowKit
set_option linter.unusedVariables false
set_option linter.unusedSimpArgs false

theorem WrPost.lst {α : Type} {f : α → List Value} {w w' : World} {B g : Nat} {h : Option Nat} {bs bs0 : List Int} (P : WrPost w w' B g h bs) (A : WrAt w B g h bs0) {v : Value} {l : List α} (he : LstV f B w v l) : LstV f B w' v l :=
  he.keep (Nat.le_refl _) P.kept.size fun b hb ht => P.kept.block b hb fun hs => by
    have := A.base' b hs
    omega

/-- Numbers that lie in memory, as a list. -/
theorem lst_of_nums {w : World} {l : List Int} {A : Option Addr} {c : Nat} (h : Nums .u32 w A l.length l) : LstV u32Cells w.heap.size w (.slice A l.length c) l := by
  refine ⟨A, c, rfl, fun hn => ?_⟩
  obtain ⟨b, off, e, hb, hc⟩ := h.2 (List.length_pos_iff.2 hn)
  refine ⟨b, off, e, hb, hb, fun j u hj => ?_⟩
  have hl : (l.flatMap u32Cells) = l.map (Value.int .u32) := by
    clear hc hj hn h
    induction l with
    | nil => rfl
    | cons z l ih => rw [List.flatMap_cons, ih]; rfl
  rw [hl, List.getElem?_map] at hj
  have hjl : j < l.length := by
    rcases Nat.lt_or_ge j l.length with h' | h'
    · exact h'
    · rw [List.getElem?_eq_none h'] at hj
      cases hj
  rw [List.getElem?_eq_getElem hjl] at hj
  rw [hc j hjl, List.getD_eq_getElem?_getD, List.getElem?_eq_getElem hjl]
  exact hj

theorem flat4 (a b c d : Int) : [a, b, c, d].flatMap cntI = fxB ⟨a, b, c, d⟩ := by
  show cntI a ++ (cntI b ++ (cntI c ++ (cntI d ++ []))) = (((cntI a ++ cntI b) ++ cntI c) ++ cntI d)
  simp only [List.append_nil, List.append_assoc]

theorem flat2 (a b : Int) : [a, b + 1].flatMap cntI = sgB ⟨a, b⟩ := by
  show cntI a ++ (cntI (b + 1) ++ []) = cntI a ++ cntI (b + 1)
  rw [List.append_nil]

theorem flat3 (a b c : Int) : [a, b, c].flatMap cntI = cntI a ++ (cntI b ++ cntI c) := by
  show cntI a ++ (cntI b ++ (cntI c ++ [])) = _
  rw [List.append_nil]

theorem flat_len_le {α β : Type} {f : α → List β} {k : Nat} {l : List α} (h : ∀ x ∈ l, (f x).length ≤ k) : (l.flatMap f).length ≤ l.length * k := by
  induction l with
  | nil => simp
  | cons x l ih =>
    rw [List.flatMap_cons, List.length_append, List.length_cons, Nat.add_mul]
    have h1 := h x List.mem_cons_self
    have h2 := ih (fun y hy => h y (List.mem_cons_of_mem _ hy))
    omega

theorem take_len_le {α β : Type} {f : α → List β} {k n : Nat} {l : List α} (h : ∀ x ∈ l, (f x).length ≤ k) (hn : l.length ≤ n) (t : Nat) : ((l.take t).flatMap f).length ≤ n * k := by
  have h1 := flat_len_le (l := l.take t) (k := k) (fun x hx => h x (List.mem_of_mem_take hx))
  have h2 : (l.take t).length ≤ n := by rw [List.length_take]; omega
  exact Nat.le_trans h1 (Nat.mul_le_mul_right _ h2)

theorem fxB_len {f : Fx} (h : FxRd f) : (fxB f).length ≤ 40 := by
  obtain ⟨h1, h2, h3, h4⟩ := h
  have a1 := cntI_len (n := f.pl) (by omega)
  have a2 := cntI_len (n := f.kd) (by omega)
  have a3 := cntI_len (n := f.md) (by omega)
  have a4 := cntI_len (n := f.vl) (by omega)
  unfold fxB
  simp only [List.length_append]
  omega

theorem sgB_len {s : Sg} (h : SgRd s) : (sgB s).length ≤ 20 := by
  obtain ⟨h1, h2⟩ := h
  have a1 := cntI_len (n := s.st) (by omega)
  have a2 := cntI_len (n := s.pd + 1) (by omega)
  unfold sgB
  simp only [List.length_append]
  omega

theorem fit_sm15 {l : List Im} (h : ∀ x ∈ l, ImFit x) : ∀ x ∈ l, ImSm x := fun x hx => ⟨by have := (h x hx).1; omega, (h x hx).2⟩

/-- The pieces of an object's bytes, as they are put. -/
theorem objB_pieces (o : Oj) : objB o = (((((((((((bytesOf 1347371521) ++ (cntB o.md.size ++ strI o.md)) ++ bytesOf o.key) ++ imsB o.ims) ++ cntI o.code.length) ++ o.code.flatMap bytesOf) ++ cntI o.fxs.length) ++ o.fxs.flatMap fxB) ++ cntI o.sgs.length) ++ o.sgs.flatMap sgB) ++ (cntI o.data ++ (cntI o.excs ++ cntI o.body))) := by
  unfold objB codeB fxsB sgsB
  simp only [List.append_assoc]

set_option maxHeartbeats 16000000 in
set_option maxRecDepth 100000 in
theorem wcounts_any (zs : List Int) (p n c B g : Nat) (h : Option Nat) (bs : List Int) (w : World) (hw : WrAt w B g h bs) (hB : B ≤ w.heap.size) (hl : bs.length ≤ 1000000) (hn : n = zs.length) (h4 : zs.length ≤ 4) (hz : ∀ z ∈ zs, 0 ≤ z ∧ z ≤ 1000000) (hc : ∀ j, j < zs.length → w.cell? ⟨p, j, none⟩ = some (.int .i64 (zs.getD j 0))) (hp : ¬ WrS g h p) :
    Calls Try.prog 29 #[.pointer (some ⟨g, 0, none⟩), .slice (some ⟨p, 0, none⟩) n c] w fun e w' => e = .returned (.tuple #[]) ∧ WrPost w w' B g h (bs ++ zs.flatMap cntI) := by
  subst hn
  have P0 := Lib.hid (WrPost.refl hw)
  have HB := Lib.hid hB
  have HC := Lib.hid hc
  have HP := Lib.hid hp
  have HZ := Lib.hid hz
  have LT := Lib.hid (fun t => take_len_le (f := cntI) (k := 10) (n := 4) (l := zs) (fun z h => cntI_len (by have := hz z h; omega)) h4 t)
  have LE := Lib.hid (show bs ++ zs.flatMap cntI = bs ++ (zs.take zs.length).flatMap cntI by rw [List.take_length])
  clear hw hB hc hp hz
  go_enter Try.func29, Try.ntmps29
  go_wp2_with fail
  go_loopw [8] (fun i wr => ∃ t : Nat, t ≤ zs.length ∧ i = .int .i64 t ∧ WrPost w wr B g h (bs ++ (zs.take t).flatMap cntI)) (fun i _ => zs.length - (intOf i).toNat)
  case atStart => exact ⟨0, Nat.zero_le _, rfl, by rw [List.take_zero, List.flatMap_nil, List.append_nil]; exact P0.out⟩
  case round =>
    obtain ⟨t, ht, rfl, hpr⟩ := hrel
    have PR := Lib.hid hpr
    clear hpr
    by_cases hlt : t < zs.length
    · have hI : (t : Int) < zs.length := by omega
      have x0 : wr.cell? ⟨p, t, none⟩ = some (.int .i64 (zs.getD t 0)) := PR.out.cell (HC.out t hlt) HP.out
      have UM := Lib.hid (flat_take cntI zs 0 hlt)
      have ZB := HZ.out _ (getD_mem 0 hlt)
      have LL := LT.out t
      generalize zs.getD t 0 = z at *
      go_wp2_with fail
      refine (PR.out.count HB.out (by rw [List.length_append]; omega) (by omega) (by omega)).mono ?_
      rintro e w2 ⟨rfl, hp2⟩
      have P2 := Lib.hid hp2
      clear hp2 x0
      go_wp2_with fail
      go_roundw
      case rel => exact ⟨t + 1, by omega, by go_num, by rw [UM.out, ← List.append_assoc]; exact P2.out⟩
      case measure => simp [intOf]; omega
    · have hI : ¬ (t : Int) < zs.length := by omega
      obtain rfl : t = zs.length := by omega
      go_wp2_with fail
      go_end0
      rw [LE.out]
      exact ⟨rfl, PR.out⟩

set_option maxHeartbeats 16000000 in
set_option maxRecDepth 100000 in
theorem oencode_bad (md : ByteArray) (key : Int) (Ai : Option Addr) (im : List Im) (ci : Nat) (Ac : Option Addr) (cd : List Int) (cc : Nat) (Af : Option Addr) (fx : List Fx) (cf : Nat) (As : Option Addr) (sg : List Sg) (cs : Nat) (dt ex bd : Int) (B : Nat) (w : World) (hv : OjV B w Ai im ci Ac cd Af fx cf As sg cs) (hn : OjN md im cd fx sg) (hc : checkO ⟨md, key, im, cd, fx, sg, dt, ex, bd⟩ ≠ 0) :
    Calls Try.prog 10 #[.agg #[.string md, .int .u32 key, .slice Ai im.length ci, .slice Ac cd.length cc, .slice Af fx.length cf, .slice As sg.length cs, .int .i64 dt, .int .i64 ex, .int .i64 bd]] w fun e w' => e = .returned (.tuple #[.slice none 0 0, .int .i64 (checkO ⟨md, key, im, cd, fx, sg, dt, ex, bd⟩)]) ∧ Below w.heap.size w w' := by
  have BA := Lib.hid ((Below.refl w.heap.size w).alloc (Nat.le_refl _) (.cells #[.string md, .int .u32 key, .slice Ai im.length ci, .slice Ac cd.length cc, .slice Af fx.length cf, .slice As sg.length cs, .int .i64 dt, .int .i64 ex, .int .i64 bd] oT))
  have X := Lib.hid (Whole.made w oT #[.string md, .int .u32 key, .slice Ai im.length ci, .slice Ac cd.length cc, .slice Af fx.length cf, .slice As sg.length cs, .int .i64 dt, .int .i64 ex, .int .i64 bd] _ rfl)
  have q0 : (w.alloc (.cells #[.string md, .int .u32 key, .slice Ai im.length ci, .slice Ac cd.length cc, .slice Af fx.length cf, .slice As sg.length cs, .int .i64 dt, .int .i64 ex, .int .i64 bd] oT)).cell? ⟨w.heap.size, 0, none⟩ = some (.string md) := X.out.cell 0
  have q1 : (w.alloc (.cells #[.string md, .int .u32 key, .slice Ai im.length ci, .slice Ac cd.length cc, .slice Af fx.length cf, .slice As sg.length cs, .int .i64 dt, .int .i64 ex, .int .i64 bd] oT)).cell? ⟨w.heap.size, 1, none⟩ = some (.int .u32 key) := X.out.cell 1
  have q2 : (w.alloc (.cells #[.string md, .int .u32 key, .slice Ai im.length ci, .slice Ac cd.length cc, .slice Af fx.length cf, .slice As sg.length cs, .int .i64 dt, .int .i64 ex, .int .i64 bd] oT)).cell? ⟨w.heap.size, 2, none⟩ = some (.slice Ai im.length ci) := X.out.cell 2
  have q3 : (w.alloc (.cells #[.string md, .int .u32 key, .slice Ai im.length ci, .slice Ac cd.length cc, .slice Af fx.length cf, .slice As sg.length cs, .int .i64 dt, .int .i64 ex, .int .i64 bd] oT)).cell? ⟨w.heap.size, 3, none⟩ = some (.slice Ac cd.length cc) := X.out.cell 3
  have q4 : (w.alloc (.cells #[.string md, .int .u32 key, .slice Ai im.length ci, .slice Ac cd.length cc, .slice Af fx.length cf, .slice As sg.length cs, .int .i64 dt, .int .i64 ex, .int .i64 bd] oT)).cell? ⟨w.heap.size, 4, none⟩ = some (.slice Af fx.length cf) := X.out.cell 4
  have q5 : (w.alloc (.cells #[.string md, .int .u32 key, .slice Ai im.length ci, .slice Ac cd.length cc, .slice Af fx.length cf, .slice As sg.length cs, .int .i64 dt, .int .i64 ex, .int .i64 bd] oT)).cell? ⟨w.heap.size, 5, none⟩ = some (.slice As sg.length cs) := X.out.cell 5
  have q6 : (w.alloc (.cells #[.string md, .int .u32 key, .slice Ai im.length ci, .slice Ac cd.length cc, .slice Af fx.length cf, .slice As sg.length cs, .int .i64 dt, .int .i64 ex, .int .i64 bd] oT)).cell? ⟨w.heap.size, 6, none⟩ = some (.int .i64 dt) := X.out.cell 6
  have q7 : (w.alloc (.cells #[.string md, .int .u32 key, .slice Ai im.length ci, .slice Ac cd.length cc, .slice Af fx.length cf, .slice As sg.length cs, .int .i64 dt, .int .i64 ex, .int .i64 bd] oT)).cell? ⟨w.heap.size, 7, none⟩ = some (.int .i64 ex) := X.out.cell 7
  have q8 : (w.alloc (.cells #[.string md, .int .u32 key, .slice Ai im.length ci, .slice Ac cd.length cc, .slice Af fx.length cf, .slice As sg.length cs, .int .i64 dt, .int .i64 ex, .int .i64 bd] oT)).cell? ⟨w.heap.size, 8, none⟩ = some (.int .i64 bd) := X.out.cell 8
  have CH := Lib.hid (ocheck_any md key Ai im ci Ac cd cc Af fx cf As sg cs dt ex bd B (w.alloc (.cells #[.string md, .int .u32 key, .slice Ai im.length ci, .slice Ac cd.length cc, .slice Af fx.length cf, .slice As sg.length cs, .int .i64 dt, .int .i64 ex, .int .i64 bd] oT)) (hv.below BA.out) hn)
  generalize checkO ⟨md, key, im, cd, fx, sg, dt, ex, bd⟩ = m at *
  have d0 : (m != 0) = true := by simp [hc]
  clear hv hn hc
  go_enter Try.func10, Try.ntmps10
  go_wp2_with fail
  refine CH.out.mono ?_
  rintro e w1 ⟨rfl, hb1⟩
  have B1 := Lib.hid (BA.out.trans (hb1.mono BA.out.size))
  clear hb1 q0 q1 q2 q3 q4 q5 q6 q7 q8
  go_wp2_with fail
  go_ret2
  exact ⟨rfl, B1.out⟩

set_option maxHeartbeats 16000000 in
set_option maxRecDepth 100000 in
theorem oencode_ok (md : ByteArray) (key : Int) (Ai : Option Addr) (im : List Im) (ci : Nat) (Ac : Option Addr) (cd : List Int) (cc : Nat) (Af : Option Addr) (fx : List Fx) (cf : Nat) (As : Option Addr) (sg : List Sg) (cs : Nat) (dt ex bd : Int) (B : Nat) (w : World) (hv : OjV B w Ai im ci Ac cd Af fx cf As sg cs) (hn : OjN md im cd fx sg) (ok : OjOk ⟨md, key, im, cd, fx, sg, dt, ex, bd⟩) (hc : checkO ⟨md, key, im, cd, fx, sg, dt, ex, bd⟩ = 0) (n2 : cd.length ≤ 200) (n3 : fx.length ≤ 100) (n4 : sg.length ≤ 100) :
    Calls Try.prog 10 #[.agg #[.string md, .int .u32 key, .slice Ai im.length ci, .slice Ac cd.length cc, .slice Af fx.length cf, .slice As sg.length cs, .int .i64 dt, .int .i64 ex, .int .i64 bd]] w fun e w' => ∃ A c, e = .returned (.tuple #[.slice A (objB ⟨md, key, im, cd, fx, sg, dt, ex, bd⟩).length c, .int .i64 0]) ∧ Below w.heap.size w w' ∧ Nums .u8 w' A (objB ⟨md, key, im, cd, fx, sg, dt, ex, bd⟩).length (objB ⟨md, key, im, cd, fx, sg, dt, ex, bd⟩) := by
  have BA := Lib.hid ((Below.refl w.heap.size w).alloc (Nat.le_refl _) (.cells #[.string md, .int .u32 key, .slice Ai im.length ci, .slice Ac cd.length cc, .slice Af fx.length cf, .slice As sg.length cs, .int .i64 dt, .int .i64 ex, .int .i64 bd] oT))
  have X := Lib.hid (Whole.made w oT #[.string md, .int .u32 key, .slice Ai im.length ci, .slice Ac cd.length cc, .slice Af fx.length cf, .slice As sg.length cs, .int .i64 dt, .int .i64 ex, .int .i64 bd] _ rfl)
  have q0 : (w.alloc (.cells #[.string md, .int .u32 key, .slice Ai im.length ci, .slice Ac cd.length cc, .slice Af fx.length cf, .slice As sg.length cs, .int .i64 dt, .int .i64 ex, .int .i64 bd] oT)).cell? ⟨w.heap.size, 0, none⟩ = some (.string md) := X.out.cell 0
  have q1 : (w.alloc (.cells #[.string md, .int .u32 key, .slice Ai im.length ci, .slice Ac cd.length cc, .slice Af fx.length cf, .slice As sg.length cs, .int .i64 dt, .int .i64 ex, .int .i64 bd] oT)).cell? ⟨w.heap.size, 1, none⟩ = some (.int .u32 key) := X.out.cell 1
  have q2 : (w.alloc (.cells #[.string md, .int .u32 key, .slice Ai im.length ci, .slice Ac cd.length cc, .slice Af fx.length cf, .slice As sg.length cs, .int .i64 dt, .int .i64 ex, .int .i64 bd] oT)).cell? ⟨w.heap.size, 2, none⟩ = some (.slice Ai im.length ci) := X.out.cell 2
  have q3 : (w.alloc (.cells #[.string md, .int .u32 key, .slice Ai im.length ci, .slice Ac cd.length cc, .slice Af fx.length cf, .slice As sg.length cs, .int .i64 dt, .int .i64 ex, .int .i64 bd] oT)).cell? ⟨w.heap.size, 3, none⟩ = some (.slice Ac cd.length cc) := X.out.cell 3
  have q4 : (w.alloc (.cells #[.string md, .int .u32 key, .slice Ai im.length ci, .slice Ac cd.length cc, .slice Af fx.length cf, .slice As sg.length cs, .int .i64 dt, .int .i64 ex, .int .i64 bd] oT)).cell? ⟨w.heap.size, 4, none⟩ = some (.slice Af fx.length cf) := X.out.cell 4
  have q5 : (w.alloc (.cells #[.string md, .int .u32 key, .slice Ai im.length ci, .slice Ac cd.length cc, .slice Af fx.length cf, .slice As sg.length cs, .int .i64 dt, .int .i64 ex, .int .i64 bd] oT)).cell? ⟨w.heap.size, 5, none⟩ = some (.slice As sg.length cs) := X.out.cell 5
  have q6 : (w.alloc (.cells #[.string md, .int .u32 key, .slice Ai im.length ci, .slice Ac cd.length cc, .slice Af fx.length cf, .slice As sg.length cs, .int .i64 dt, .int .i64 ex, .int .i64 bd] oT)).cell? ⟨w.heap.size, 6, none⟩ = some (.int .i64 dt) := X.out.cell 6
  have q7 : (w.alloc (.cells #[.string md, .int .u32 key, .slice Ai im.length ci, .slice Ac cd.length cc, .slice Af fx.length cf, .slice As sg.length cs, .int .i64 dt, .int .i64 ex, .int .i64 bd] oT)).cell? ⟨w.heap.size, 7, none⟩ = some (.int .i64 ex) := X.out.cell 7
  have q8 : (w.alloc (.cells #[.string md, .int .u32 key, .slice Ai im.length ci, .slice Ac cd.length cc, .slice Af fx.length cf, .slice As sg.length cs, .int .i64 dt, .int .i64 ex, .int .i64 bd] oT)).cell? ⟨w.heap.size, 8, none⟩ = some (.int .i64 bd) := X.out.cell 8
  have CH := Lib.hid (ocheck_any md key Ai im ci Ac cd cc Af fx cf As sg cs dt ex bd B (w.alloc (.cells #[.string md, .int .u32 key, .slice Ai im.length ci, .slice Ac cd.length cc, .slice Af fx.length cf, .slice As sg.length cs, .int .i64 dt, .int .i64 ex, .int .i64 bd] oT)) (hv.below BA.out) hn)
  rw [hc] at CH
  have FT := Lib.hid (checkO_fit hc ok)
  have FP := Lib.hid (objB_pieces ⟨md, key, im, cd, fx, sg, dt, ex, bd⟩)
  simp only at FP
  have h64 : im.length ≤ 64 := FT.out.in64
  have hmd : md.size ≤ 32 := FT.out.md.2.2
  have LT := Lib.hid (show (cntB md.size ++ strI md).length ≤ 210 by rw [List.length_append, strI_len]; have := cntB_len10 (n := md.size) (by omega); omega)
  have FI := Lib.hid (show ∀ x ∈ im, ImSm x from fit_sm15 FT.out.ims)
  have LI := Lib.hid (imsB_len FI.out (by omega))
  have FFX := Lib.hid (show ∀ f ∈ fx, FxRd f from FT.out.fx)
  have FSG := Lib.hid (show ∀ s ∈ sg, SgRd s from FT.out.sg)
  have FCD := Lib.hid (show ∀ z ∈ cd, 0 ≤ z ∧ z ≤ 4294967295 from ok.2.2)
  have LC := Lib.hid (fun t => take_len_le (f := bytesOf) (k := 4) (n := 200) (l := cd) (fun z _ => Nat.le_refl 4) n2 t)
  have LX := Lib.hid (fun t => take_len_le (f := fxB) (k := 40) (n := 100) (l := fx) (fun f hf => fxB_len (FFX.out f hf)) n3 t)
  have LS := Lib.hid (fun t => take_len_le (f := sgB) (k := 20) (n := 100) (l := sg) (fun s hs => sgB_len (FSG.out s hs)) n4 t)
  have l4 : ∀ n, (bytesOf n).length = 4 := fun _ => rfl
  have L4 := Lib.hid l4
  have c10 : ∀ n : Int, n ≤ 9223372036854775807 → (cntI n).length ≤ 10 := fun n h => cntI_len h
  have C10 := Lib.hid c10
  have HV := Lib.hid (hv.below BA.out)
  have HK := Lib.hid (show 0 ≤ key ∧ key ≤ 4294967295 from ok.1)
  have HD := Lib.hid (show (0 ≤ dt ∧ dt ≤ 16384) ∧ (0 ≤ ex ∧ ex ≤ 4096) ∧ 0 ≤ bd ∧ bd ≤ 16384 from ⟨FT.out.dt, FT.out.ex, FT.out.bd⟩)
  generalize objB ⟨md, key, im, cd, fx, sg, dt, ex, bd⟩ = FB at *
  clear hv hn hc ok FT l4 c10
  go_enter Try.func10, Try.ntmps10
  go_wp2_with fail
  clear q0 q1 q2 q3 q4 q5 q6 q7 q8
  refine CH.out.mono ?_
  rintro e w1 ⟨rfl, hb1⟩
  have B1 := Lib.hid (BA.out.trans (hb1.mono BA.out.size))
  have X1 := Lib.hid (X.out.below hb1 X.out.lt)
  have V1 := Lib.hid (HV.out.below hb1).toV
  have b2 := (Below.refl w1.heap.size w1).alloc (Nat.le_refl _) (.cells #[.slice none 0 0] wrT)
  have A0 := Lib.hid (wrAt_new w1 w1.heap.size w1.heap.size rfl (Nat.le_refl _))
  have B2 := Lib.hid b2
  have X2 := Lib.hid (X1.out.below b2 X1.out.lt)
  have I2 := Lib.hid (V1.out.ims.below b2)
  have N2 := Lib.hid ((lst_of_nums (c := cc) V1.out.cds).below b2)
  have F2 := Lib.hid (V1.out.fxs.below b2)
  have S2 := Lib.hid (V1.out.sgs.below b2)
  have NX := Lib.hid (show ¬ WrS w1.heap.size none w.heap.size from fun hs => hs.elim (fun e => by have := X1.out.lt; omega) (fun e => by cases e))
  have P1 := Lib.hid ((WrPost.refl A0.out).word (n := 1347371521) b2.size (by decide) (by decide) (by decide))
  rw [List.nil_append] at P1
  have SZ := Lib.hid b2.size
  clear hb1 b2 CH BA X HV V1
  generalize hU : w1.alloc (.cells #[.slice none 0 0] wrT) = U at *
  have HU := Lib.hid hU
  clear hU
  go_wp2_with fail
  rw [HU.out]
  refine P1.out.mono ?_
  rintro e w2 ⟨rfl, hp2⟩
  have x2 : w2.cell? ⟨w.heap.size, 0, none⟩ = some (.string md) := hp2.cell (X2.out.cell 0) NX.out
  have P2 := Lib.hid hp2
  clear hp2 P1
  go_wp2_with fail
  clear x2
  refine (P2.out.text SZ.out (by have := L4.out 1347371521; omega) (by omega)).mono ?_
  rintro e w3 ⟨rfl, hp3⟩
  have x3 : w3.cell? ⟨w.heap.size, 1, none⟩ = some (.int .u32 key) := hp3.cell (X2.out.cell 1) NX.out
  have P3 := Lib.hid hp3
  have LA := Lib.hid (show (bytesOf 1347371521 ++ (cntB md.size ++ strI md)).length ≤ 214 by rw [List.length_append]; have := L4.out 1347371521; have := LT.out; omega)
  clear hp3 P2
  generalize bytesOf 1347371521 ++ (cntB md.size ++ strI md) = z1 at *
  go_wp2_with fail
  clear x3
  refine (P3.out.word SZ.out (by have := LA.out; omega) HK.out.1 HK.out.2).mono ?_
  rintro e w4 ⟨rfl, hp4⟩
  have x4 : w4.cell? ⟨w.heap.size, 2, none⟩ = some (.slice Ai im.length ci) := hp4.cell (X2.out.cell 2) NX.out
  have LB := Lib.hid (show (z1 ++ bytesOf key).length ≤ 218 by rw [List.length_append]; have := L4.out key; have := LA.out; omega)
  generalize z1 ++ bytesOf key = z2 at *
  obtain ⟨h4, a4, tr4⟩ := hp4.after
  have TR4 := Lib.hid tr4
  have WI := Lib.hid (iwrite_any Ai ci im w1.heap.size w1.heap.size h4 z2 w4 a4 (Nat.le_trans SZ.out hp4.kept.size) (by have := LB.out; omega) (hp4.ims A0.out I2.out) FI.out (by omega))
  clear hp4 a4 tr4 P3
  go_wp2_with fail
  clear x4
  refine WI.out.mono ?_
  rintro e w5 ⟨rfl, hp5⟩
  have hp6 := TR4.out _ _ hp5
  have LD := Lib.hid (show (z2 ++ imsB im).length ≤ 22228 by rw [List.length_append]; have := LB.out; have := LI.out; omega)
  generalize z2 ++ imsB im = z3 at *
  have P5 := Lib.hid hp6
  have x3 : w5.cell? ⟨w.heap.size, 3, none⟩ = some (.slice Ac cd.length cc) := hp6.cell (X2.out.cell 3) NX.out
  clear hp5 hp6 WI TR4
  go_wp2_with fail
  clear x3
  refine (P5.out.count SZ.out (by have := LD.out; omega) (by omega) (by omega)).mono ?_
  rintro e w6 ⟨rfl, hp6⟩
  have LE := Lib.hid (show (z3 ++ cntI cd.length).length ≤ 22238 by rw [List.length_append]; have := LD.out; have := C10.out cd.length (by omega); omega)
  generalize z3 ++ cntI cd.length = z4 at *
  have P6 := Lib.hid hp6
  have x3 : w6.cell? ⟨w.heap.size, 3, none⟩ = some (.slice Ac cd.length cc) := hp6.cell (X2.out.cell 3) NX.out
  clear hp6 P5
  go_wp2_with fail
  clear x3
  go_loopw [34] (fun i wr => ∃ t : Nat, t ≤ cd.length ∧ i = .int .i64 t ∧ WrPost U wr w1.heap.size w1.heap.size none (z4 ++ (cd.take t).flatMap bytesOf)) (fun i _ => cd.length - (intOf i).toNat)
  case atStart => exact ⟨0, Nat.zero_le _, rfl, by rw [List.take_zero, List.flatMap_nil, List.append_nil]; exact P6.out⟩
  case round =>
    obtain ⟨t, ht, rfl, hpr⟩ := hrel
    have PR := Lib.hid hpr
    clear hpr P6
    by_cases hlt : t < cd.length
    · have hI : (t : Int) < cd.length := by omega
      obtain ⟨b, off, rfl, _, hc⟩ := (nums_of_lst (PR.out.lst A0.out N2.out)).2 (by omega)
      have x0 := hc t hlt
      have UM := Lib.hid (flat_take bytesOf cd 0 hlt)
      have ZB := FCD.out _ (getD_mem 0 hlt)
      have LL := LC.out t
      generalize cd.getD t 0 = z at *
      clear hc
      go_wp2_with fail
      refine (PR.out.word SZ.out (by rw [List.length_append]; have := LE.out; omega) ZB.1 ZB.2).mono ?_
      rintro e w2 ⟨rfl, hp2⟩
      have P2 := Lib.hid hp2
      clear hp2 x0
      go_wp2_with fail
      go_roundw
      case rel => exact ⟨t + 1, by omega, by go_num, by rw [UM.out, ← List.append_assoc]; exact P2.out⟩
      case measure => simp [intOf]; omega
    · have hI : ¬ (t : Int) < cd.length := by omega
      obtain rfl : t = cd.length := by omega
      have LF := Lib.hid (show (z4 ++ (cd.take cd.length).flatMap bytesOf).length ≤ 23038 by rw [List.length_append]; have := LE.out; have := LC.out cd.length; omega)
      rw [List.take_length] at PR LF
      generalize z4 ++ cd.flatMap bytesOf = z5 at *
      have x4 : wr.cell? ⟨w.heap.size, 4, none⟩ = some (.slice Af fx.length cf) := PR.out.cell (X2.out.cell 4) NX.out
      go_wp2_with fail
      clear x4
      refine (PR.out.count SZ.out (by have := LF.out; omega) (by omega) (by omega)).mono ?_
      rintro e w6 ⟨rfl, hp6⟩
      have LG := Lib.hid (show (z5 ++ cntI fx.length).length ≤ 23048 by rw [List.length_append]; have := LF.out; have := C10.out fx.length (by omega); omega)
      generalize z5 ++ cntI fx.length = z6 at *
      have P6 := Lib.hid hp6
      have x4 : w6.cell? ⟨w.heap.size, 4, none⟩ = some (.slice Af fx.length cf) := hp6.cell (X2.out.cell 4) NX.out
      clear hp6 PR
      go_wp2_with fail
      clear x4
      go_loopw [48] (fun i wr => ∃ t : Nat, t ≤ fx.length ∧ i = .int .i64 t ∧ WrPost U wr w1.heap.size w1.heap.size none (z6 ++ (fx.take t).flatMap fxB)) (fun i _ => fx.length - (intOf i).toNat)
      case atStart => exact ⟨0, Nat.zero_le _, rfl, by rw [List.take_zero, List.flatMap_nil, List.append_nil]; exact P6.out⟩
      case round =>
        obtain ⟨t, ht, rfl, hpr⟩ := hrel
        have PR := Lib.hid hpr
        clear hpr P6
        by_cases hlt : t < fx.length
        · have hI : (t : Int) < fx.length := by omega
          obtain ⟨b, off, rfl, _, x0, x1, x2, x3⟩ := fx_at (PR.out.lst A0.out F2.out) hlt
          have UM := Lib.hid (flat_take fxB fx zFx hlt)
          have ZB := FFX.out _ (getD_mem zFx hlt)
          have LL := LX.out t
          generalize fx.getD t zFx = s at *
          obtain ⟨pl, kd, fm, vl⟩ := s
          simp only at x0 x1 x2 x3
          have FL := Lib.hid (flat4 pl kd fm vl)
          have ZZ := Lib.hid (show ∀ z ∈ ([pl, kd, fm, vl] : List Int), 0 ≤ z ∧ z ≤ 1000000 from by
            obtain ⟨h1, h2, h3, h4⟩ := ZB
            simp only at h1 h2 h3 h4
            intro z hz
            simp only [List.mem_cons, List.not_mem_nil, or_false] at hz
            rcases hz with rfl | rfl | rfl | rfl <;> omega)
          have q1 := (Below.refl wr.heap.size wr).alloc (Nat.le_refl _) (.cells #[.int .i64 pl, .int .i64 kd, .int .i64 fm, .int .i64 vl] fxT)
          have Y1 := Lib.hid (Whole.made wr fxT #[.int .i64 pl, .int .i64 kd, .int .i64 fm, .int .i64 vl] _ rfl)
          have Y2 := Lib.hid (Whole.made (wr.alloc (.cells #[.int .i64 pl, .int .i64 kd, .int .i64 fm, .int .i64 vl] fxT)) 3 #[.int .i64 pl, .int .i64 kd, .int .i64 fm, .int .i64 vl] (wr.heap.size + 1) (by simp))
          have PB := Lib.hid ((PR.out.below q1).below ((Below.refl _ (wr.alloc (.cells #[.int .i64 pl, .int .i64 kd, .int .i64 fm, .int .i64 vl] fxT))).alloc (Nat.le_refl _) (.cells #[.int .i64 pl, .int .i64 kd, .int .i64 fm, .int .i64 vl] 3)))
          have y0 : (wr.alloc (.cells #[.int .i64 pl, .int .i64 kd, .int .i64 fm, .int .i64 vl] fxT)).cell? ⟨wr.heap.size, 0, none⟩ = some (.int .i64 pl) := Y1.out.cell 0
          have y1 : (wr.alloc (.cells #[.int .i64 pl, .int .i64 kd, .int .i64 fm, .int .i64 vl] fxT)).cell? ⟨wr.heap.size, 1, none⟩ = some (.int .i64 kd) := Y1.out.cell 1
          have y2 : (wr.alloc (.cells #[.int .i64 pl, .int .i64 kd, .int .i64 fm, .int .i64 vl] fxT)).cell? ⟨wr.heap.size, 2, none⟩ = some (.int .i64 fm) := Y1.out.cell 2
          have y3 : (wr.alloc (.cells #[.int .i64 pl, .int .i64 kd, .int .i64 fm, .int .i64 vl] fxT)).cell? ⟨wr.heap.size, 3, none⟩ = some (.int .i64 vl) := Y1.out.cell 3
          obtain ⟨h1, a1, tr1⟩ := PB.out.after
          have TR := Lib.hid tr1
          have WC := Lib.hid (wcounts_any [pl, kd, fm, vl] (wr.heap.size + 1) 4 4 w1.heap.size w1.heap.size h1 _ _ a1 (Nat.le_trans SZ.out PB.out.kept.size) (by rw [List.length_append]; have := LG.out; omega) rfl (by simp) ZZ.out (fun j hj => by
            have e := Y2.out.cell j
            have hj : j < 4 := hj
            match j, hj with
            | 0, _ => exact e
            | 1, _ => exact e
            | 2, _ => exact e
            | 3, _ => exact e) (fun hs => by
            obtain ⟨_, cs2, t2, e1, e2⟩ := a1.blocks hs
            have e3 := Y2.out
            unfold Whole at e3
            rw [e3] at e2
            injection e2 with e2
            injection e2 with _ e2 _
            rcases e1 with e1 | e1 <;> rw [e1] at e2 <;> exact absurd e2 (by decide)))
          rw [FL.out] at WC
          clear q1 a1 tr1 ZB PB Y1
          go_wp2_with fail
          clear x0 x1 x2 x3 y0 y1 y2 y3
          refine WC.out.mono ?_
          rintro e w2 ⟨rfl, hp2⟩
          have P2 := Lib.hid (TR.out _ _ hp2)
          clear hp2 WC TR Y2
          go_wp2_with fail
          go_roundw
          case rel => exact ⟨t + 1, by omega, by go_num, by rw [UM.out, ← List.append_assoc]; exact P2.out⟩
          case measure => simp [intOf]; omega
        · have hI : ¬ (t : Int) < fx.length := by omega
          obtain rfl : t = fx.length := by omega
          have LH := Lib.hid (show (z6 ++ (fx.take fx.length).flatMap fxB).length ≤ 27048 by rw [List.length_append]; have := LG.out; have := LX.out fx.length; omega)
          rw [List.take_length] at PR LH
          generalize z6 ++ fx.flatMap fxB = z7 at *
          have x5 : wr.cell? ⟨w.heap.size, 5, none⟩ = some (.slice As sg.length cs) := PR.out.cell (X2.out.cell 5) NX.out
          go_wp2_with fail
          clear x5
          refine (PR.out.count SZ.out (by have := LH.out; omega) (by omega) (by omega)).mono ?_
          rintro e w6 ⟨rfl, hp6⟩
          have LI8 := Lib.hid (show (z7 ++ cntI sg.length).length ≤ 27058 by rw [List.length_append]; have := LH.out; have := C10.out sg.length (by omega); omega)
          generalize z7 ++ cntI sg.length = z8 at *
          have P6 := Lib.hid hp6
          have x5 : w6.cell? ⟨w.heap.size, 5, none⟩ = some (.slice As sg.length cs) := hp6.cell (X2.out.cell 5) NX.out
          clear hp6 PR
          go_wp2_with fail
          clear x5
          go_loopw [70] (fun i wr => ∃ t : Nat, t ≤ sg.length ∧ i = .int .i64 t ∧ WrPost U wr w1.heap.size w1.heap.size none (z8 ++ (sg.take t).flatMap sgB)) (fun i _ => sg.length - (intOf i).toNat)
          case atStart => exact ⟨0, Nat.zero_le _, rfl, by rw [List.take_zero, List.flatMap_nil, List.append_nil]; exact P6.out⟩
          case round =>
            obtain ⟨t, ht, rfl, hpr⟩ := hrel
            have PR := Lib.hid hpr
            clear hpr P6
            by_cases hlt : t < sg.length
            · have hI : (t : Int) < sg.length := by omega
              obtain ⟨b, off, rfl, _, x0, x1⟩ := sg_at (PR.out.lst A0.out S2.out) hlt
              have UM := Lib.hid (flat_take sgB sg zSg hlt)
              have ZB := FSG.out _ (getD_mem zSg hlt)
              have LL := LS.out t
              generalize sg.getD t zSg = s at *
              obtain ⟨st, pd⟩ := s
              simp only at x0 x1
              have FL := Lib.hid (flat2 st pd)
              have ZZ := Lib.hid (show ∀ z ∈ ([st, pd + 1] : List Int), 0 ≤ z ∧ z ≤ 1000000 from by
                obtain ⟨h1, h2⟩ := ZB
                simp only at h1 h2
                intro z hz
                simp only [List.mem_cons, List.not_mem_nil, or_false] at hz
                rcases hz with rfl | rfl <;> omega)
              have HV := ZZ.out (pd + 1) (by simp)
              have q1 := (Below.refl wr.heap.size wr).alloc (Nat.le_refl _) (.cells #[.int .i64 st, .int .i64 pd] sgT)
              have Y1 := Lib.hid (Whole.made wr sgT #[.int .i64 st, .int .i64 pd] _ rfl)
              have Y2 := Lib.hid (Whole.made (wr.alloc (.cells #[.int .i64 st, .int .i64 pd] sgT)) 3 #[.int .i64 st, .int .i64 (pd + 1)] (wr.heap.size + 1) (by simp))
              have PB := Lib.hid ((PR.out.below q1).below ((Below.refl _ (wr.alloc (.cells #[.int .i64 st, .int .i64 pd] sgT))).alloc (Nat.le_refl _) (.cells #[.int .i64 st, .int .i64 (pd + 1)] 3)))
              have y0 : (wr.alloc (.cells #[.int .i64 st, .int .i64 pd] sgT)).cell? ⟨wr.heap.size, 0, none⟩ = some (.int .i64 st) := Y1.out.cell 0
              have y1 : (wr.alloc (.cells #[.int .i64 st, .int .i64 pd] sgT)).cell? ⟨wr.heap.size, 1, none⟩ = some (.int .i64 pd) := Y1.out.cell 1
              obtain ⟨h1, a1, tr1⟩ := PB.out.after
              have TR := Lib.hid tr1
              have WC := Lib.hid (wcounts_any [st, pd + 1] (wr.heap.size + 1) 2 2 w1.heap.size w1.heap.size h1 _ _ a1 (Nat.le_trans SZ.out PB.out.kept.size) (by rw [List.length_append]; have := LI8.out; omega) rfl (by simp) ZZ.out (fun j hj => by
                have e := Y2.out.cell j
                have hj : j < 2 := hj
                match j, hj with
                | 0, _ => exact e
                | 1, _ => exact e) (fun hs => by
                obtain ⟨_, cs2, t2, e1, e2⟩ := a1.blocks hs
                have e3 := Y2.out
                unfold Whole at e3
                rw [e3] at e2
                injection e2 with e2
                injection e2 with _ e2 _
                rcases e1 with e1 | e1 <;> rw [e1] at e2 <;> exact absurd e2 (by decide)))
              rw [FL.out] at WC
              clear q1 a1 tr1 ZB PB Y1
              go_wp2_with fail
              clear x0 x1 y0 y1
              refine WC.out.mono ?_
              rintro e w2 ⟨rfl, hp2⟩
              have P2 := Lib.hid (TR.out _ _ hp2)
              clear hp2 WC TR Y2
              go_wp2_with fail
              go_roundw
              case rel => exact ⟨t + 1, by omega, by go_num, by rw [UM.out, ← List.append_assoc]; exact P2.out⟩
              case measure => simp [intOf]; omega
            · have hI : ¬ (t : Int) < sg.length := by omega
              obtain rfl : t = sg.length := by omega
              have LJ := Lib.hid (show (z8 ++ (sg.take sg.length).flatMap sgB).length ≤ 29058 by rw [List.length_append]; have := LI8.out; have := LS.out sg.length; omega)
              rw [List.take_length] at PR LJ
              generalize z8 ++ sg.flatMap sgB = z9 at *
              have x6 : wr.cell? ⟨w.heap.size, 6, none⟩ = some (.int .i64 dt) := PR.out.cell (X2.out.cell 6) NX.out
              have x7 : wr.cell? ⟨w.heap.size, 7, none⟩ = some (.int .i64 ex) := PR.out.cell (X2.out.cell 7) NX.out
              have x8 : wr.cell? ⟨w.heap.size, 8, none⟩ = some (.int .i64 bd) := PR.out.cell (X2.out.cell 8) NX.out
              have Y2 := Lib.hid (Whole.made wr 3 #[.int .i64 dt, .int .i64 ex, .int .i64 bd] wr.heap.size rfl)
              have PB := Lib.hid (PR.out.below ((Below.refl _ wr).alloc (Nat.le_refl _) (.cells #[.int .i64 dt, .int .i64 ex, .int .i64 bd] 3)))
              obtain ⟨h1, a1, tr1⟩ := PB.out.after
              have TR := Lib.hid tr1
              have WC := Lib.hid (wcounts_any [dt, ex, bd] wr.heap.size 3 3 w1.heap.size w1.heap.size h1 _ _ a1 (Nat.le_trans SZ.out PB.out.kept.size) (by have := LJ.out; omega) rfl (by simp) (by
                have := HD.out
                intro z hz
                simp only [List.mem_cons, List.not_mem_nil, or_false] at hz
                rcases hz with rfl | rfl | rfl <;> omega) (fun j hj => by
                have e := Y2.out.cell j
                have hj : j < 3 := hj
                match j, hj with
                | 0, _ => exact e
                | 1, _ => exact e
                | 2, _ => exact e) (fun hs => by
                obtain ⟨_, cs2, t2, e1, e2⟩ := a1.blocks hs
                have e3 := Y2.out
                unfold Whole at e3
                rw [e3] at e2
                injection e2 with e2
                injection e2 with _ e2 _
                rcases e1 with e1 | e1 <;> rw [e1] at e2 <;> exact absurd e2 (by decide)))
              rw [flat3, ← FP.out] at WC
              clear a1 tr1 PB
              go_wp2_with fail
              clear x6 x7 x8
              refine WC.out.mono ?_
              rintro e w7 ⟨rfl, hp7⟩
              have hp8 := TR.out _ _ hp7
              have LF9 := Lib.hid (show FB.length ≤ 90000 by
                rw [FP.out, List.length_append, List.length_append, List.length_append]
                have := LJ.out
                have := C10.out dt (by have := HD.out; omega)
                have := C10.out ex (by have := HD.out; omega)
                have := C10.out bd (by have := HD.out; omega)
                omega)
              have B6 := Lib.hid (B1.out.trans ((KeptS.below B2.out hp8.kept B2.out.size A0.out.base').mono B1.out.size))
              obtain ⟨h8, a8, _⟩ := hp8.after
              have BY := Lib.hid (wbytes_any _ _ _ _ w7 a8 (by have := LF9.out; omega))
              clear hp7 hp8 a8 WC TR Y2
              go_wp2_with fail
              refine BY.out.mono ?_
              rintro e w8 ⟨A7, c7, rfl, hb7, ho7⟩
              have B7 := Lib.hid (B6.out.trans (hb7.mono B6.out.size))
              have N7 := Lib.hid ho7.nums
              clear hb7 ho7 BY
              go_wp2_with fail
              go_ret2
              exact ⟨A7, c7, rfl, B7.out, N7.out⟩
end Go.Proofs.Ytdakooipelligaa
