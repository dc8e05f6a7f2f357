/- Finger: the program's writeExport, Write, Key. -/
import Derived.Test.YthmjniedfiabhaaFngB
namespace Go.Proofs.Ythmjniedfiabhaa
open Go.ChangeShapes Go.WideShapes Go.ChangeAt Go.RowKit
set_option linter.unusedVariables false
set_option linter.unusedSimpArgs false

theorem WrAt.base' {w : World} {B g : Nat} {h : Option Nat} {bs : List Int} (hw : WrAt w B g h bs) : ∀ i, WrS g h i → B ≤ i := by
  have h2 := hw.own
  obtain ⟨v, _, _, _, hB⟩ := hw
  rintro i (rfl | hi)
  · exact hB
  · exact (h2 i hi).1

theorem WrAt.blocks {w : World} {B g : Nat} {h : Option Nat} {bs : List Int} (hw : WrAt w B g h bs) {i : Nat} (hi : WrS g h i) : i < w.heap.size ∧ ∃ cs t, (t = wrT ∨ t = u8T) ∧ w.heap[i]? = some (.cells cs t (0, 0)) := by
  obtain ⟨v, h1, h2, rfl, _⟩ := hw
  rcases hi with rfl | hi
  · exact ⟨h1.lt, _, _, .inl rfl, h1⟩
  · obtain ⟨_, h4, cs, h5⟩ := row_block h2 hi
    exact ⟨h4, _, _, .inr rfl, h5⟩

theorem WrPost.kept {w w' : World} {B g : Nat} {h : Option Nat} {bs : List Int} (P : WrPost w w' B g h bs) : KeptS (WrS g h) w w' := by
  obtain ⟨_, _, k, _⟩ := P
  exact k

theorem WrPost.cell {w w' : World} {B g : Nat} {h : Option Nat} {bs : List Int} (P : WrPost w w' B g h bs) {x o : Nat} {v : Value} (hx : w.cell? ⟨x, o, none⟩ = some v) (hn : ¬ WrS g h x) : w'.cell? ⟨x, o, none⟩ = some v := P.kept.cell hx hn

theorem WrPost.par {w w' : World} {B g : Nat} {h : Option Nat} {bs bs0 : List Int} (P : WrPost w w' B g h bs) (A : WrAt w B g h bs0) {v : Value} {ps : List (Int × Bool)} (hp : ParV B w v ps) : ParV B w' v ps :=
  hp.keep (Nat.le_refl _) P.kept.size fun b hb ht => P.kept.block b hb fun hs => by
    rcases ht with ht | ⟨cs, fz, e⟩
    · have := A.base' b hs
      omega
    · obtain ⟨_, cs', t, h1, h2⟩ := A.blocks hs
      rw [h2] at e
      injection e with e
      injection e with _ e _
      rcases h1 with h1 | h1
      · rw [h1] at e
        exact absurd e (by decide)
      · rw [h1] at e
        exact absurd e (by decide)

theorem WrPost.exps {w w' : World} {B g : Nat} {h : Option Nat} {bs bs0 : List Int} (P : WrPost w w' B g h bs) (A : WrAt w B g h bs0) {v : Value} {es : List Exx} (he : ExpV B w v es) : ExpV B w' v es :=
  he.keep P.kept.size fun b hb ht => P.kept.block b hb fun hs => by
    rcases ht with ht | ⟨cs, fz, e⟩
    · have := A.base' b hs
      omega
    · obtain ⟨_, cs', t, h1, h2⟩ := A.blocks hs
      rw [h2] at e
      injection e with e
      injection e with _ e _
      rcases h1 with h1 | h1
      · rw [h1] at e
        exact absurd e (by decide)
      · rw [h1] at e
        exact absurd e (by decide)

theorem WrPost.below {w w1 w2 : World} {B g : Nat} {h : Option Nat} {bs : List Int} (P : WrPost w w1 B g h bs) (hb : Below w1.heap.size w1 w2) : WrPost w w2 B g h bs := by
  obtain ⟨h1, a1, k1, o1⟩ := P
  exact ⟨h1, a1.below hb, k1.trans (S' := fun _ => False) (KeptS.ofBelow hb) (fun i hi => hi.elim), o1⟩

/-- What a Writer's call leaves, counted from a world ahead. -/
theorem WrPost.after {w0 w1 : World} {B g : Nat} {h : Option Nat} {bs : List Int} (P : WrPost w0 w1 B g h bs) : ∃ h1, WrAt w1 B g h1 bs ∧ ∀ w2 cs, WrPost w1 w2 B g h1 cs → WrPost w0 w2 B g h cs := by
  obtain ⟨h1, a1, k1, o1⟩ := P
  exact ⟨h1, a1, fun w2 cs q => WrPost.trans k1 o1 q⟩

theorem WrPost.count {w0 w1 : World} {B g : Nat} {h : Option Nat} {bs : List Int} (P : WrPost w0 w1 B g h bs) (hB : B ≤ w0.heap.size) (hl : bs.length ≤ 10000000) {n : Int} (h0 : -9223372036854775808 ≤ n) (h1 : n ≤ 9223372036854775807) :
    Calls Try.prog 59 #[.pointer (some ⟨g, 0, none⟩), .int .i64 n] w1 fun e w' => e = .returned (.tuple #[]) ∧ WrPost w0 w' B g h (bs ++ cntI n) := by
  obtain ⟨h', a, t⟩ := P.after
  exact (wcount_any n B g h' bs w1 a (Nat.le_trans hB P.kept.size) hl h0 h1).mono (fun e w' ⟨e1, e2⟩ => ⟨e1, t _ _ e2⟩)

theorem WrPost.number {w0 w1 : World} {B g : Nat} {h : Option Nat} {bs : List Int} (P : WrPost w0 w1 B g h bs) (hB : B ≤ w0.heap.size) (hl : bs.length ≤ 10000000) {n : Int} (h0 : -2147483648 ≤ n) (h1 : n ≤ 2147483647) :
    Calls Try.prog 84 #[.pointer (some ⟨g, 0, none⟩), .int .i32 n] w1 fun e w' => e = .returned (.tuple #[]) ∧ WrPost w0 w' B g h (bs ++ cntB (zigN n)) := by
  obtain ⟨h', a, t⟩ := P.after
  exact (wnumber_any n B g h' bs w1 a (Nat.le_trans hB P.kept.size) hl h0 h1).mono (fun e w' ⟨e1, e2⟩ => ⟨e1, t _ _ e2⟩)

theorem WrPost.text {w0 w1 : World} {B g : Nat} {h : Option Nat} {bs : List Int} (P : WrPost w0 w1 B g h bs) (hB : B ≤ w0.heap.size) (hl : bs.length ≤ 10000000) {s : ByteArray} (hs : s.size ≤ 10000000) :
    Calls Try.prog 43 #[.pointer (some ⟨g, 0, none⟩), .string s] w1 fun e w' => e = .returned (.tuple #[]) ∧ WrPost w0 w' B g h (bs ++ (cntB s.size ++ strI s)) := by
  obtain ⟨h', a, t⟩ := P.after
  exact (wtext_any s B g h' bs w1 a (Nat.le_trans hB P.kept.size) hl hs).mono (fun e w' ⟨e1, e2⟩ => ⟨e1, t _ _ e2⟩)

set_option maxHeartbeats 1000000 in
set_option maxRecDepth 100000 in
theorem number_any (b : Bool) (n : Int) (hn : n = if b then 1 else 0) (w : World) : Calls Try.prog 85 #[.bool b] w fun e w' => e = .returned (.int .i64 n) ∧ w = w' := by
  cases b
  · obtain rfl : n = 0 := hn
    go_enter Try.func85, Try.ntmps85
    go_wp2_with fail
    go_ret
    exact ⟨rfl, rfl⟩
  · obtain rfl : n = 1 := hn
    go_enter Try.func85, Try.ntmps85
    go_wp2_with fail
    go_ret
    exact ⟨rfl, rfl⟩

theorem cntI_bool (b : Bool) : cntI (if b then 1 else 0) = [if b then 1 else 0] := by
  cases b
  · exact cntB_small (n := 0) (by decide)
  · exact cntB_small (n := 1) (by decide)

/-- The program's Writer puts an export. -/
def ExPut (g B : Nat) (h : Option Nat) (bs : List Int) (w : World) (e : Ending) (w' : World) (x : Ex) : Prop := e = .returned (.tuple #[]) ∧ WrPost w w' B g h (bs ++ exB x)

set_option maxHeartbeats 8000000 in
set_option maxRecDepth 100000 in
theorem writeexp_any (nm : ByteArray) (kd ty vl : Int) (ps : List (Int × Bool)) (Ap : Option Addr) (cp B g : Nat) (h : Option Nat) (bs : List Int) (w : World) (hw : WrAt w B g h bs) (hB : B ≤ w.heap.size) (hl : bs.length ≤ 1000000) (hp : ParV B w (.slice Ap ps.length cp) ps) (hx : ExSm ⟨nm, kd, ty, vl, ps⟩) :
    Calls Try.prog 70 #[.pointer (some ⟨g, 0, none⟩), .agg #[.string nm, .int .i64 kd, .int .i64 ty, .int .i32 vl, .slice Ap ps.length cp]] w fun e w' => ExPut g B h bs w e w' ⟨nm, kd, ty, vl, ps⟩ := by
  obtain ⟨hs, hpn, hkd, hty, hvl, hps⟩ := hx
  have hs : nm.size ≤ 200 := hs
  have hpn : ps.length ≤ 60 := hpn
  have HK := Lib.hid (show -9223372036854775808 ≤ kd ∧ kd ≤ 9223372036854775807 from hkd)
  have HT := Lib.hid (show -9223372036854775808 ≤ ty ∧ ty ≤ 9223372036854775807 from hty)
  have HV := Lib.hid (show -2147483648 ≤ vl ∧ vl ≤ 2147483647 from hvl)
  have HP := Lib.hid (show ∀ q ∈ ps, ParOk q from hps)
  have b1 := (Below.refl w.heap.size w).alloc (Nat.le_refl _) (.cells #[.string nm, .int .i64 kd, .int .i64 ty, .int .i32 vl, .slice Ap ps.length cp] pE)
  have NX := Lib.hid (show ¬ WrS g h w.heap.size from fun hs => by have := (hw.blocks hs).1; omega)
  have A0 := Lib.hid (hw.below b1)
  have B1 := Lib.hid b1
  have X := Lib.hid (Whole.made w pE #[.string nm, .int .i64 kd, .int .i64 ty, .int .i32 vl, .slice Ap ps.length cp] _ rfl)
  have PV := Lib.hid (hp.below b1)
  have hB0 := Lib.hid (Nat.le_trans hB b1.size)
  have FIN := Lib.hid (show ∀ w2 cs, WrPost (w.alloc (.cells #[.string nm, .int .i64 kd, .int .i64 ty, .int .i32 vl, .slice Ap ps.length cp] pE)) w2 B g h cs → WrPost w w2 B g h cs from fun w2 cs q => WrPost.trans (KeptS.ofBelow b1) (.inl rfl) q)
  have HL := Lib.hid hl
  have l1 := Lib.hid (cntB_len10 (n := nm.size) (by omega))
  have l2 := Lib.hid (cntI_len hkd.2)
  have l3 := Lib.hid (cntI_len hty.2)
  have l4 := Lib.hid (cntB_len10 (n := zigN vl) (by have := zigN_le HV.out; omega))
  have l5 := Lib.hid (cntI_len (n := ps.length) (by omega))
  have l6 := Lib.hid (strI_len nm)
  have EX := Lib.hid (show exB ⟨nm, kd, ty, vl, ps⟩ = (cntB nm.size ++ strI nm) ++ (cntI kd ++ (cntI ty ++ (cntB (zigN vl) ++ (cntI ps.length ++ parsB ps)))) from rfl)
  clear hw hB hl hp hkd hty hvl hps b1
  have P0 := Lib.hid (WrPost.refl A0.out)
  have x0 : (w.alloc (.cells #[.string nm, .int .i64 kd, .int .i64 ty, .int .i32 vl, .slice Ap ps.length cp] pE)).cell? ⟨w.heap.size, 0, none⟩ = some (.string nm) := X.out.cell 0
  go_enter Try.func70, Try.ntmps70
  go_wp2_with fail
  clear x0
  generalize hw0 : (w.alloc (.cells #[.string nm, .int .i64 kd, .int .i64 ty, .int .i32 vl, .slice Ap ps.length cp] pE)) = w0 at *
  clear hw0
  refine (P0.out.text hB0.out (by have := HL.out; omega) (by omega)).mono ?_
  rintro e w1 ⟨rfl, hp1⟩
  have P1 := Lib.hid hp1
  have x1 : w1.cell? ⟨w.heap.size, 1, none⟩ = some (.int .i64 kd) := hp1.cell (X.out.cell 1) NX.out
  clear hp1 P0
  go_wp2_with fail
  clear x1
  refine (P1.out.count hB0.out (by have := HL.out; have := l1.out; have := l6.out; simp only [List.length_append]; omega) HK.out.1 HK.out.2).mono ?_
  rintro e w2 ⟨rfl, hp2⟩
  have P2 := Lib.hid hp2
  have x2 : w2.cell? ⟨w.heap.size, 2, none⟩ = some (.int .i64 ty) := hp2.cell (X.out.cell 2) NX.out
  clear hp2 P1
  go_wp2_with fail
  clear x2
  refine (P2.out.count hB0.out (by have := HL.out; have := l1.out; have := l6.out; have := l2.out; simp only [List.length_append]; omega) HT.out.1 HT.out.2).mono ?_
  rintro e w3 ⟨rfl, hp3⟩
  have P3 := Lib.hid hp3
  have x3 : w3.cell? ⟨w.heap.size, 3, none⟩ = some (.int .i32 vl) := hp3.cell (X.out.cell 3) NX.out
  clear hp3 P2
  go_wp2_with fail
  clear x3
  refine (P3.out.number hB0.out (by have := HL.out; have := l1.out; have := l6.out; have := l2.out; have := l3.out; simp only [List.length_append]; omega) HV.out.1 HV.out.2).mono ?_
  rintro e w4 ⟨rfl, hp4⟩
  have P4 := Lib.hid hp4
  have x4 : w4.cell? ⟨w.heap.size, 4, none⟩ = some (.slice Ap ps.length cp) := hp4.cell (X.out.cell 4) NX.out
  clear hp4 P3
  go_wp2_with fail
  clear x4
  refine (P4.out.count hB0.out (by have := HL.out; have := l1.out; have := l6.out; have := l2.out; have := l3.out; have := l4.out; simp only [List.length_append]; omega) (by omega) (by omega)).mono ?_
  rintro e w5 ⟨rfl, hp5⟩
  have HBS := Lib.hid (show ((((bs ++ (cntB nm.size ++ strI nm)) ++ cntI kd) ++ cntI ty) ++ cntB (zigN vl)) ++ cntI ps.length = bs ++ ((cntB nm.size ++ strI nm) ++ (cntI kd ++ (cntI ty ++ (cntB (zigN vl) ++ cntI ps.length)))) by simp only [List.append_assoc])
  have LB := Lib.hid (show (((((bs ++ (cntB nm.size ++ strI nm)) ++ cntI kd) ++ cntI ty) ++ cntB (zigN vl)) ++ cntI ps.length).length ≤ 1000300 by have := HL.out; have := l1.out; have := l6.out; have := l2.out; have := l3.out; have := l4.out; have := l5.out; simp only [List.length_append]; omega)
  have HEB := Lib.hid (show bs ++ exB ⟨nm, kd, ty, vl, ps⟩ = (((((bs ++ (cntB nm.size ++ strI nm)) ++ cntI kd) ++ cntI ty) ++ cntB (zigN vl)) ++ cntI ps.length) ++ parsB ps by rw [EX.out]; simp only [List.append_assoc])
  have x4 : w5.cell? ⟨w.heap.size, 4, none⟩ = some (.slice Ap ps.length cp) := hp5.cell (X.out.cell 4) NX.out
  generalize ((((bs ++ (cntB nm.size ++ strI nm)) ++ cntI kd) ++ cntI ty) ++ cntB (zigN vl)) ++ cntI ps.length = cs at *
  have P5 := Lib.hid hp5
  clear hp5 P4 EX HBS l1 l2 l3 l4 l5 l6 HL HK HT HV
  go_wp2_with fail
  clear x4
  go_loopw [30] (fun i wr => ∃ t : Nat, t ≤ ps.length ∧ i = .int .i64 t ∧ WrPost w0 wr B g h (cs ++ parsB (ps.take t))) (fun i _ => ps.length - (intOf i).toNat)
  case atStart => exact ⟨0, Nat.zero_le _, rfl, by rw [show parsB (ps.take 0) = [] from rfl, List.append_nil]; exact P5.out⟩
  case round =>
    obtain ⟨t, ht, rfl, hpr⟩ := hrel
    by_cases hlt : t < ps.length
    · have hI : (t : Int) < ps.length := by omega
      have hq := HP.out _ (getD_mem (0, false) hlt)
      have FT := Lib.hid (show parsB (ps.take (t + 1)) = parsB (ps.take t) ++ parB (ps.getD t (0, false)) from flat_take parB ps (0, false) hlt)
      have LT := Lib.hid (show (parsB (ps.take t)).length ≤ 660 from by
        have h1 := parsB_len (ps := ps.take t) (fun q hq => HP.out q (List.mem_of_mem_take hq))
        rw [List.length_take] at h1
        omega)
      obtain ⟨bb, off, rfl, y0, y1⟩ := (hpr.par A0.out PV.out).at hlt
      generalize ps.getD t (0, false) = q at *
      obtain ⟨qt, qr⟩ := q
      have HQ := Lib.hid (show -9223372036854775808 ≤ qt ∧ qt ≤ 9223372036854775807 from hq)
      obtain ⟨nr, hnr⟩ : ∃ nr : Int, nr = if qr then 1 else 0 := ⟨_, rfl⟩
      have PB := Lib.hid (show parB (qt, qr) = cntI qt ++ cntI nr by rw [hnr, cntI_bool]; rfl)
      have NB := Lib.hid (show 0 ≤ nr ∧ nr ≤ 1 by rw [hnr]; cases qr <;> decide)
      have NN := Lib.hid (fun W => number_any qr nr hnr W)
      clear hnr
      have LQ := Lib.hid (cntI_len hq.2)
      have q1 := (Below.refl wr.heap.size wr).alloc (Nat.le_refl _) (.cells #[.int .i64 qt, .bool qr] pP)
      have PR := Lib.hid (hpr.below q1)
      have Y := Lib.hid (Whole.made wr pP #[.int .i64 qt, .bool qr] _ rfl)
      have SZ := Lib.hid (show w0.heap.size ≤ wr.heap.size from hpr.kept.size)
      have NY := Lib.hid (show ¬ WrS g h wr.heap.size from fun hs => by have := (A0.out.blocks hs).1; have := SZ.out; omega)
      rw [← Nat.add_assoc] at y1
      simp only at y0 y1
      clear hq hpr q1
      go_wp2_with fail
      clear y0 y1
      generalize hW1 : wr.alloc (.cells #[.int .i64 qt, .bool qr] pP) = W1 at *
      clear hW1
      obtain ⟨h1, a1, tr1⟩ := PR.out.after
      have N1 := Lib.hid (show ¬ WrS g h1 wr.heap.size from fun hs => by
        obtain ⟨_, cs', ty', e1, e2⟩ := a1.blocks hs
        have e3 := Y.out
        unfold Whole at e3
        rw [e2] at e3
        injection e3 with e3
        injection e3 with _ e3 _
        rcases e1 with e1 | e1 <;> rw [e1] at e3 <;> exact absurd e3 (by decide))
      have Q1 := Lib.hid (WrPost.refl a1)
      have TR := Lib.hid tr1
      have BW := Lib.hid (Nat.le_trans hB0.out PR.out.kept.size)
      clear a1 tr1 PR
      refine (Q1.out.count BW.out (by have := LB.out; have := LT.out; simp only [List.length_append]; omega) HQ.out.1 HQ.out.2).mono ?_
      rintro e w6 ⟨rfl, hp6⟩
      have Q2 := Lib.hid hp6
      have y1 : w6.cell? ⟨wr.heap.size, 1, none⟩ = some (.bool qr) := hp6.cell (Y.out.cell 1) N1.out
      clear hp6 Q1
      go_wp2_with fail
      clear y1
      refine (NN.out w6).mono ?_
      rintro e w7 ⟨rfl, rfl⟩
      go_wp2_with fail
      refine (Q2.out.count BW.out (by have := LB.out; have := LT.out; have := LQ.out; simp only [List.length_append]; omega) (by have := NB.out; omega) (by have := NB.out; omega)).mono ?_
      rintro e w8 ⟨rfl, hp8⟩
      have Q3 := Lib.hid (TR.out _ _ hp8)
      clear hp8 Q2
      go_wp2_with fail
      go_roundw
      case rel =>
        refine ⟨t + 1, by omega, by go_num, ?_⟩
        rw [FT.out, PB.out, ← List.append_assoc, ← List.append_assoc]
        exact Q3.out
      case measure => simp [intOf]; omega
    · have hI : ¬ (t : Int) < ps.length := by omega
      obtain rfl : t = ps.length := by omega
      have PR := Lib.hid hpr
      clear hpr
      go_wp2_with fail
      go_end0
      refine ⟨rfl, FIN.out _ _ ?_⟩
      rw [HEB.out]
      have := PR.out
      rwa [List.take_length] at this

theorem ExpV.more {B B' : Nat} {w : World} {v : Value} {es : List Exx} (h : ExpV B w v es) (hB : B ≤ B') : ExpV B' w v es := by
  obtain ⟨A, c, h1, h2, h3⟩ := h
  refine ⟨A, c, h1, fun hn => ?_, fun e he => (h3 e he).more hB⟩
  obtain ⟨b, off, rfl, hb, hb2, hc⟩ := h2 hn
  exact ⟨b, off, rfl, Nat.lt_of_lt_of_le hb hB, hb2, hc⟩

theorem cntI_bytes (n : Int) : Byt (cntI n) := cntB_bytes _

theorem byt_app {a b : List Int} (ha : Byt a) (hb : Byt b) : Byt (a ++ b) := fun z hz => (List.mem_append.1 hz).elim (ha z) (hb z)

theorem parB_bytes (q : Int × Bool) : Byt (parB q) := byt_app (cntI_bytes _) (fun z hz => by
  obtain rfl := List.mem_singleton.1 hz
  cases q.2 <;> decide)

theorem parsB_bytes (ps : List (Int × Bool)) : Byt (parsB ps) := fun z hz => by
  obtain ⟨q, _, h⟩ := List.mem_flatMap.1 hz
  exact parB_bytes q z h

theorem exB_bytes (x : Ex) : Byt (exB x) := byt_app (byt_app (cntB_bytes _) (strI_bytes _)) (byt_app (cntI_bytes _) (byt_app (cntI_bytes _) (byt_app (cntB_bytes _) (byt_app (cntI_bytes _) (parsB_bytes _)))))

theorem listB_bytes (l : List Ex) : Byt (listB l) := byt_app (cntI_bytes _) (fun z hz => by
  obtain ⟨x, _, h⟩ := List.mem_flatMap.1 hz
  exact exB_bytes x z h)

theorem keyB_bytes (nm : ByteArray) (l : List Ex) : Byt (keyB nm l) := byt_app (byt_app (cntB_bytes _) (strI_bytes _)) (listB_bytes _)

theorem listB_len {l : List Exx} (h : ∀ x ∈ l, ExSm x.1) (hn : l.length ≤ 60) : (listB (l.map (·.1))).length ≤ 60010 := by
  have h1 := cntI_len (n := (l.map (·.1)).length) (by rw [List.length_map]; omega)
  have h2 := exsB_len (l := l.map (·.1)) (fun x hx => by
    obtain ⟨y, hy, rfl⟩ := List.mem_map.1 hx
    exact h y hy)
  unfold listB
  rw [List.length_append]
  rw [List.length_map] at h2
  omega

/-- What the program's Writer puts of a list so far. -/
def upTo (l : List Exx) (t : Nat) : List Int := exsB ((l.take t).map (·.1))

theorem upTo_more {l : List Exx} {t : Nat} (ht : t < l.length) : upTo l (t + 1) = upTo l t ++ exB (l.getD t zEx).1 := by
  unfold upTo exsB
  rw [List.map_take, List.map_take, flat_take exB (l.map (·.1)) zE (by rw [List.length_map]; exact ht), getD_map (·.1) l zEx zE ht]

theorem upTo_len {l : List Exx} (h : ∀ x ∈ l, ExSm x.1) {t : Nat} (ht : t ≤ 60) : (upTo l t).length ≤ 60000 := by
  have h2 := exsB_len (l := (l.take t).map (·.1)) (fun x hx => by
    obtain ⟨y, hy, rfl⟩ := List.mem_map.1 hx
    exact h y (List.mem_of_mem_take hy))
  rw [List.length_map, List.length_take] at h2
  unfold upTo
  omega

set_option maxHeartbeats 8000000 in
set_option maxRecDepth 100000 in
theorem write_any (A : Option Addr) (c : Nat) (es : List Exx) (B g : Nat) (h : Option Nat) (bs : List Int) (w : World) (hw : WrAt w B g h bs) (hB : B ≤ w.heap.size) (hl : bs.length ≤ 500000) (he : ExpV B w (.slice A es.length c) es) (hx : ∀ x ∈ es, ExSm x.1) (hn : es.length ≤ 60) :
    Calls Try.prog 44 #[.pointer (some ⟨g, 0, none⟩), .slice A es.length c] w fun e w' => e = .returned (.tuple #[]) ∧ WrPost w w' B g h (bs ++ listB (es.map (·.1))) := by
  have P0 := Lib.hid (WrPost.refl hw)
  have A0 := Lib.hid hw
  have HB := Lib.hid hB
  have HL := Lib.hid hl
  have HE := Lib.hid he
  have HX := Lib.hid hx
  have C := Lib.hid (cntI_len (n := es.length) (by omega))
  have LE := Lib.hid (show bs ++ listB (es.map (·.1)) = (bs ++ cntI es.length) ++ upTo es es.length by unfold listB upTo; rw [List.length_map, List.take_length, List.append_assoc])
  have U0 := Lib.hid (show upTo es 0 = [] from rfl)
  clear hw hB hl he hx
  generalize listB (es.map (·.1)) = LB at *
  go_enter Try.func44, Try.ntmps44
  go_wp2_with fail
  refine (P0.out.count HB.out (by have := HL.out; omega) (by omega) (by omega)).mono ?_
  rintro e w1 ⟨rfl, hp1⟩
  have P1 := Lib.hid hp1
  have LC := Lib.hid (show (bs ++ cntI es.length).length ≤ 500010 by rw [List.length_append]; have := HL.out; have := C.out; omega)
  clear hp1
  generalize bs ++ cntI es.length = cs at *
  go_wp2_with fail
  go_loopw [12] (fun i wr => ∃ t : Nat, t ≤ es.length ∧ i = .int .i64 t ∧ WrPost w wr B g h (cs ++ upTo es t)) (fun i _ => es.length - (intOf i).toNat)
  case atStart => exact ⟨0, Nat.zero_le _, rfl, by rw [U0.out, List.append_nil]; exact P1.out⟩
  case round =>
    obtain ⟨t, ht, rfl, hpr⟩ := hrel
    by_cases hlt : t < es.length
    · have hI : (t : Int) < es.length := by omega
      have UM := Lib.hid (upTo_more hlt)
      have UL := Lib.hid (upTo_len (l := es) HX.out (t := t) (by omega))
      have SM := Lib.hid (HX.out _ (getD_mem zEx hlt))
      obtain ⟨b, off, rfl, nm, kd, ty, vl, ps, Ap, cp, hX, hpar, hc⟩ := (hpr.exps A0.out HE.out).at hlt
      rw [hX] at UM SM
      have x0 : wr.cell? ⟨b, off + t * 5, none⟩ = some (.string nm) := hc 0 _ rfl
      have x1 : wr.cell? ⟨b, off + t * 5 + 1, none⟩ = some (.int .i64 kd) := hc 1 _ rfl
      have x2 : wr.cell? ⟨b, off + t * 5 + 2, none⟩ = some (.int .i64 ty) := hc 2 _ rfl
      have x3 : wr.cell? ⟨b, off + t * 5 + 3, none⟩ = some (.int .i32 vl) := hc 3 _ rfl
      have x4 : wr.cell? ⟨b, off + t * 5 + 4, none⟩ = some (.slice Ap ps.length cp) := hc 4 _ rfl
      have q1 := (Below.refl wr.heap.size wr).alloc (Nat.le_refl _) (.cells #[.string nm, .int .i64 kd, .int .i64 ty, .int .i32 vl, .slice Ap ps.length cp] pE)
      have Y := Lib.hid (Whole.made wr pE #[.string nm, .int .i64 kd, .int .i64 ty, .int .i32 vl, .slice Ap ps.length cp] _ rfl)
      have y0 : (wr.alloc (.cells #[.string nm, .int .i64 kd, .int .i64 ty, .int .i32 vl, .slice Ap ps.length cp] pE)).cell? ⟨wr.heap.size, 0, none⟩ = some (.string nm) := Y.out.cell 0
      have y1 : (wr.alloc (.cells #[.string nm, .int .i64 kd, .int .i64 ty, .int .i32 vl, .slice Ap ps.length cp] pE)).cell? ⟨wr.heap.size, 1, none⟩ = some (.int .i64 kd) := Y.out.cell 1
      have y2 : (wr.alloc (.cells #[.string nm, .int .i64 kd, .int .i64 ty, .int .i32 vl, .slice Ap ps.length cp] pE)).cell? ⟨wr.heap.size, 2, none⟩ = some (.int .i64 ty) := Y.out.cell 2
      have y3 : (wr.alloc (.cells #[.string nm, .int .i64 kd, .int .i64 ty, .int .i32 vl, .slice Ap ps.length cp] pE)).cell? ⟨wr.heap.size, 3, none⟩ = some (.int .i32 vl) := Y.out.cell 3
      have y4 : (wr.alloc (.cells #[.string nm, .int .i64 kd, .int .i64 ty, .int .i32 vl, .slice Ap ps.length cp] pE)).cell? ⟨wr.heap.size, 4, none⟩ = some (.slice Ap ps.length cp) := Y.out.cell 4
      have PV := Lib.hid (hpar.below q1)
      obtain ⟨h1, a1, tr1⟩ := (hpr.below q1).after
      have TR := Lib.hid tr1
      have WE := Lib.hid (writeexp_any nm kd ty vl ps Ap cp B g h1 _ _ a1 (Nat.le_trans HB.out (Nat.le_trans hpr.kept.size q1.size)) (by rw [List.length_append]; have := LC.out; have := UL.out; omega) PV.out SM.out)
      clear hc hX hpar hpr q1 a1 tr1 SM
      go_wp2_with fail
      refine WE.out.mono ?_
      rintro e w3 ⟨rfl, hp3⟩
      have P3 := Lib.hid (TR.out _ _ hp3)
      clear hp3 WE TR x0 x1 x2 x3 x4 y0 y1 y2 y3 y4 Y PV
      go_wp2_with fail
      go_roundw
      case rel =>
        refine ⟨t + 1, by omega, by go_num, ?_⟩
        rw [UM.out, ← List.append_assoc]
        exact P3.out
      case measure => simp [intOf]; omega
    · have hI : ¬ (t : Int) < es.length := by omega
      obtain rfl : t = es.length := by omega
      have PR := Lib.hid hpr
      clear hpr
      go_wp2_with fail
      go_end0
      refine ⟨rfl, ?_⟩
      rw [LE.out]
      exact PR.out

set_option maxHeartbeats 8000000 in
set_option maxRecDepth 100000 in
theorem key_any (nm : ByteArray) (A : Option Addr) (c : Nat) (es : List Exx) (w : World) (hs : nm.size ≤ 200) (he : ExpV w.heap.size w (.slice A es.length c) es) (hx : ∀ x ∈ es, ExSm x.1) (hn : es.length ≤ 60) :
    Calls Try.prog 40 #[.string nm, .slice A es.length c] w fun e w' => e = .returned (.int .u32 (fnvB 2166136261 (keyB nm (es.map (·.1))))) ∧ Below w.heap.size w w' := by
  have b1 := (Below.refl w.heap.size w).alloc (Nat.le_refl _) (.cells #[.slice none 0 0] wrT)
  have A0 := Lib.hid (wrAt_new w w.heap.size w.heap.size rfl (Nat.le_refl _))
  have B1 := Lib.hid b1
  have E0 := Lib.hid (he.below b1)
  have T0 := Lib.hid ((WrPost.refl A0.out).text b1.size (by decide) (s := nm) (by omega))
  have LT := Lib.hid (show (cntB nm.size ++ strI nm).length ≤ 210 by rw [List.length_append, strI_len]; have := cntB_len10 (n := nm.size) (by omega); omega)
  have LL := Lib.hid (listB_len hx hn)
  have KB := Lib.hid (show keyB nm (es.map (·.1)) = (cntB nm.size ++ strI nm) ++ listB (es.map (·.1)) from rfl)
  have KY := Lib.hid (keyB_bytes nm (es.map (·.1)))
  have HX := Lib.hid hx
  rw [List.nil_append] at T0
  clear b1 he hx
  go_enter Try.func40, Try.ntmps40
  go_wp2_with fail
  refine T0.out.mono ?_
  rintro e w1 ⟨rfl, hp1⟩
  obtain ⟨h1, a1, tr1⟩ := hp1.after
  have TR := Lib.hid tr1
  have WR := Lib.hid (write_any A c es w.heap.size w.heap.size h1 _ w1 a1 (Nat.le_trans B1.out.size hp1.kept.size) (by have := LT.out; omega) (hp1.exps A0.out E0.out) HX.out hn)
  clear hp1 a1 tr1
  go_wp2_with fail
  refine WR.out.mono ?_
  rintro e w2 ⟨rfl, hp2⟩
  have hp3 := TR.out _ _ hp2
  rw [← KB.out] at hp3
  have BB := Lib.hid (KeptS.below B1.out hp3.kept B1.out.size A0.out.base')
  obtain ⟨h2, a2, tr2⟩ := hp3.after
  have BY := Lib.hid (wbytes_any _ _ _ _ w2 a2 (by rw [KB.out, List.length_append]; have := LT.out; have := LL.out; omega))
  have KL := Lib.hid (show (keyB nm (es.map (·.1))).length ≤ 100000 by rw [KB.out, List.length_append]; have := LT.out; have := LL.out; omega)
  generalize hkb : keyB nm (es.map (·.1)) = kb at *
  have HKB := Lib.hid hkb
  clear hp2 hp3 a2 tr2 WR TR KB hkb
  go_wp2_with fail
  refine BY.out.mono ?_
  rintro e w3 ⟨A', c', rfl, hb, ho⟩
  have B3 := Lib.hid (BB.out.trans (hb.mono BB.out.size))
  have SM := Lib.hid (sum_any A' kb.length c' kb w3 ho.nums KY.out (by have := KL.out; omega))
  clear hb ho BB
  go_wp2_with fail
  refine SM.out.mono ?_
  rintro e w4 ⟨rfl, rfl⟩
  go_wp2_with fail
  go_ret
  rw [HKB.out]
  exact ⟨rfl, B3.out⟩
end Go.Proofs.Ythmjniedfiabhaa
