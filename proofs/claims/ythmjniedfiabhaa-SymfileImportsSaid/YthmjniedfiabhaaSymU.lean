/- Symfile: the answers' TakeWord. -/
import Derived.Test.YthmjniedfiabhaaFngK
import Derived.Test.YthmjniedfiabhaaSymA
import Derived.Test.YthmjniedfiabhaaRowSet
import Derived.Deep.RegionHeld3
namespace Go.Proofs.Ythmjniedfiabhaa
open Go.ChangeShapes Go.WideShapes Go.ChangeAt Go.RowKit
set_option linter.unusedVariables false
set_option linter.unusedSimpArgs false

abbrev a4T : TypeId := 123

/-- A byte that the answers' reader takes. -/
def byteS (st : RSt) : Int × RSt :=
  match st.1 with
  | [] => (0, ([], errP st.2 120))
  | b :: r => (b, (r, st.2))

theorem word_bytes (st : RSt) (hb : st.2 ≠ 0 → st.1 = []) : wordP st.1 st.2 = if (byteS (byteS (byteS (byteS st).2).2).2).2.2 = 0 then (word4 (byteS st).1 (byteS (byteS st).2).1 (byteS (byteS (byteS st).2).2).1 (byteS (byteS (byteS (byteS st).2).2).2).1, (byteS (byteS (byteS (byteS st).2).2).2).2) else (0, (byteS (byteS (byteS (byteS st).2).2).2).2) := by
  obtain ⟨zs, err⟩ := st
  by_cases he : err = 0
  · subst he
    match zs with
    | [] => rfl
    | [_] => rfl
    | [_, _] => rfl
    | [_, _, _] => rfl
    | _ :: _ :: _ :: _ :: _ => rfl
  · obtain rfl : zs = [] := hb he
    have e1 : ∀ e, err = 0 → e = err := fun e h => absurd h he
    have e2 : errP err 120 = err := if_neg he
    simp only [byteS, e2, if_neg he]
    rw [wordP_no (show ([] : List Int).length < 4 by decide), e2]

theorem byteS_ok {st : RSt} (hb : st.2 ≠ 0 → st.1 = []) : (byteS st).2.2 ≠ 0 → (byteS st).2.1 = [] := by
  obtain ⟨zs, err⟩ := st
  cases zs with
  | nil => exact fun _ => rfl
  | cons b r => exact fun h => absurd (hb h) (by simp)

theorem byteS_in {st : RSt} (h : Byt st.1) : (0 ≤ (byteS st).1 ∧ (byteS st).1 ≤ 255) ∧ Byt (byteS st).2.1 := by
  obtain ⟨zs, err⟩ := st
  cases zs with
  | nil => exact ⟨⟨(by decide : (0 : Int) ≤ 0), (by decide : (0 : Int) ≤ 255)⟩, fun z hz => by cases hz⟩
  | cons b r => exact ⟨h b List.mem_cons_self, fun z hz => h z (List.mem_cons_of_mem _ hz)⟩

/-- A byte of the answers' reader, whatever is left. -/
theorem refbyte_any (A : Option Addr) (n c : Nat) (st : RSt) (V w : World) (hV : Below V.heap.size V w) (h : RfV V A n c st.1 st.2) (hn : n ≤ 1000000) :
    Calls Try.prog 80 #[.agg #[.slice A n c, .int .i64 st.2]] w fun e w' => ∃ A' n' c', e = .returned (.tuple #[.agg #[.slice A' n' c', .int .i64 (byteS st).2.2], .int .u8 (byteS st).1]) ∧ RfV V A' n' c' (byteS st).2.1 (byteS st).2.2 ∧ n' ≤ 1000000 ∧ Below w.heap.size w w' := by
  obtain ⟨zs, err⟩ := st
  cases zs with
  | nil =>
    have hz : err ≠ 0 ∨ n = 0 := by
      by_cases he : err = 0
      · exact .inr (h.ok he).1.1.symm
      · exact .inl he
    have hne : errP err 120 ≠ 0 := by
      unfold errP
      split
      · decide
      · assumption
    exact (refbyte_no A n c err w hz).mono (fun e w' h' => ⟨A, n, c, h'.1, RfV.none hne, hn, h'.2⟩)
  | cons b r =>
    have he : err = 0 := Classical.byContradiction fun he => by
      have := h.bad he
      simp at this
    subst he
    exact (refbyte_yes A n c b r V w hV h hn).mono (fun e w' h' => by
      obtain ⟨A', n', c', h1, h2, h3, h4⟩ := h'
      exact ⟨A', n', c', h1, h2, Nat.le_trans h3 hn, h4⟩)

/-- Within TakeWord: the reader's box, the result's, the four bytes. -/
structure TwF (V w0 w : World) (A : Option Addr) (n c : Nat) (zs : List Int) (err : Int) (bs : Array Value) : Prop where
  VW : Below V.heap.size V w
  RV : RfV V A n c zs err
  RN : n ≤ 1000000
  Rp : Whole w w0.heap.size rfT #[.slice A n c, .int .i64 err]
  Rq : Whole w (w0.heap.size + 1) rfT #[.slice none 0 0, .int .i64 0]
  Ar : Whole w (w0.heap.size + 2) a4T bs
  B : Below w0.heap.size w0 w
  Vz : V.heap.size ≤ w0.heap.size

section
variable {V w0 w w' : World} {A A' : Option Addr} {n c n' c' : Nat} {zs zs' : List Int} {err err' : Int} {bs : Array Value}

theorem TwF.call (h : TwF V w0 w A n c zs err bs) (hb : Below w.heap.size w w') : TwF V w0 w' A n c zs err bs :=
  ⟨h.VW.trans (hb.mono h.VW.size), h.RV, h.RN, h.Rp.below hb h.Rp.lt, h.Rq.below hb h.Rq.lt, h.Ar.below hb h.Ar.lt, h.B.trans (hb.mono h.B.size), h.Vz⟩

theorem TwF.setp (h : TwF V w0 w A n c zs err bs) (hr : RfV V A' n' c' zs' err') (hn : n' ≤ 1000000) : TwF V w0 (w.setRow w0.heap.size #[.slice A' n' c', .int .i64 err']) A' n' c' zs' err' bs := by
  have s := h.Rp.setRow #[.slice A' n' c', .int .i64 err']
  have hk : KeptS (fun b => b = w0.heap.size) w (w.setRow w0.heap.size #[.slice A' n' c', .int .i64 err']) := KeptS.grown s.2 (fun b hb => by injection hb with hb; exact hb.symm)
  exact ⟨h.VW.grown s.2 h.VW.size (fun b hb => by injection hb with hb; have := h.Vz; omega), hr, hn, s.1, hk.whole h.Rq (by show ¬ w0.heap.size + 1 = w0.heap.size; omega), hk.whole h.Ar (by show ¬ w0.heap.size + 2 = w0.heap.size; omega), h.B.grown s.2 h.B.size (fun b hb => by injection hb with hb; omega), h.Vz⟩

theorem TwF.put (h : TwF V w0 w A n c zs err bs) (i : Nat) (u : Value) : TwF V w0 (w.setCell ⟨w0.heap.size + 2, i, none⟩ u) A n c zs err (bs.setIfInBounds i u) :=
  ⟨h.VW.grown (grown_set w _ i u) h.VW.size (fun b hb => by injection hb with hb; have := h.Vz; omega), h.RV, h.RN, h.Rp.far (by show w0.heap.size ≠ w0.heap.size + 2; omega) u, h.Rq.far (by show w0.heap.size + 1 ≠ w0.heap.size + 2; omega) u, h.Ar.store i u, h.B.setCell (by show w0.heap.size ≤ w0.heap.size + 2; omega) _, h.Vz⟩

theorem TwF.out (h : TwF V w0 w A n c zs err bs) : Whole (w.setRow (w0.heap.size + 1) #[.slice A n c, .int .i64 err]) (w0.heap.size + 1) rfT #[.slice A n c, .int .i64 err] ∧ Below w0.heap.size w0 (w.setRow (w0.heap.size + 1) #[.slice A n c, .int .i64 err]) := by
  have s := h.Rq.setRow #[.slice A n c, .int .i64 err]
  exact ⟨s.1, h.B.grown s.2 h.B.size (fun b hb => by injection hb with hb; omega)⟩
end

set_option maxHeartbeats 16000000 in
set_option maxRecDepth 100000 in
theorem reftake_word (A : Option Addr) (n c : Nat) (st : RSt) (V w : World) (hV : Below V.heap.size V w) (h : RfV V A n c st.1 st.2) (hn : n ≤ 1000000) (hb : Byt st.1) :
    Calls Try.prog 65 #[.agg #[.slice A n c, .int .i64 st.2]] w (RcPost V w (.int .u32 (wordP st.1 st.2).1) (wordP st.1 st.2).2.1 (wordP st.1 st.2).2.2) := by
  have HZI : (Try.prog.info? rfT).map (·.size) = some 2 := by kernel_rfl
  have WB := Lib.hid (word_bytes st h.bad)
  have UL := Lib.hid (show ∀ x zs err e w', RcPost V w x zs err e w' = (∃ A n c, e = .returned (.tuple #[.agg #[.slice A n c, .int .i64 err], x]) ∧ RfV V A n c zs err ∧ n ≤ 1000000 ∧ Below w.heap.size w w') from fun _ _ _ _ _ => rfl)
  have F0 := Lib.hid (show TwF V w (((w.alloc (.cells #[.slice A n c, .int .i64 st.2] rfT)).alloc (.cells #[.slice none 0 0, .int .i64 0] rfT)).alloc (.cells #[.int .u8 0, .int .u8 0, .int .u8 0, .int .u8 0] a4T)) A n c st.1 st.2 #[.int .u8 0, .int .u8 0, .int .u8 0, .int .u8 0] from
    have b := (((Below.refl w.heap.size w).alloc (Nat.le_refl _) (.cells #[.slice A n c, .int .i64 st.2] rfT)).alloc (by simp) (.cells #[.slice none 0 0, .int .i64 0] rfT)).alloc (by simp; omega) (.cells #[.int .u8 0, .int .u8 0, .int .u8 0, .int .u8 0] a4T)
    ⟨hV.trans (b.mono hV.size), h, hn, ((Whole.made w rfT _ _ rfl).alloc _).alloc _, (Whole.made _ rfT _ _ (by simp)).alloc _, Whole.made _ a4T _ _ (by simp), b, hV.size⟩)
  have BY := Lib.hid (fun A n c s W (h1 : Below V.heap.size V W) (h2 : RfV V A n c s.1 s.2) (h3 : n ≤ 1000000) => refbyte_any A n c s V W h1 h2 h3)
  have I0 := Lib.hid (byteS_in hb)
  have I1 := Lib.hid (byteS_in I0.out.2)
  have I2 := Lib.hid (byteS_in I1.out.2)
  have I3 := Lib.hid (byteS_in I2.out.2)
  have C0 := Lib.hid (BY.out A n c st _ F0.out.VW F0.out.RV F0.out.RN)
  generalize wordP st.1 st.2 = wp at *
  clear h hV hn hb
  go_enter Try.func65, Try.ntmps65
  have p0 : (((w.alloc (.cells #[.slice A n c, .int .i64 st.2] rfT)).alloc (.cells #[.slice none 0 0, .int .i64 0] rfT)).alloc (.cells #[.int .u8 0, .int .u8 0, .int .u8 0, .int .u8 0] a4T)).cell? ⟨w.heap.size, 0, none⟩ = some (.slice A n c) := F0.out.Rp.cell 0
  have p1 : (((w.alloc (.cells #[.slice A n c, .int .i64 st.2] rfT)).alloc (.cells #[.slice none 0 0, .int .i64 0] rfT)).alloc (.cells #[.int .u8 0, .int .u8 0, .int .u8 0, .int .u8 0] a4T)).cell? ⟨w.heap.size, 1, none⟩ = some (.int .i64 st.2) := F0.out.Rp.cell 1
  go_wp2_with fail
  refine wp_loop_rounds 5 ?_
  rw [rounds_succ]
  go_wp2_with fail
  generalize (((w.alloc (.cells #[.slice A n c, .int .i64 st.2] rfT)).alloc (.cells #[.slice none 0 0, .int .i64 0] rfT)).alloc (.cells #[.int .u8 0, .int .u8 0, .int .u8 0, .int .u8 0] a4T)) = V0 at *
  clear p0 p1
  refine C0.out.mono ?_
  rintro e x0 ⟨A1, n1, c1, rfl, hr, hn, hb⟩
  generalize hb0 : (byteS st).1 = b0 at *
  generalize hs0 : (byteS st).2 = s1 at *
  have G0 := Lib.hid (F0.out.call hb)
  have H0 := Lib.hid (G0.out.setp hr hn)
  have F1 := Lib.hid (show TwF V w ((x0.setRow w.heap.size #[.slice A1 n1 c1, .int .i64 s1.2]).setCell ⟨w.heap.size + 2, 0, none⟩ (.int .u8 b0)) A1 n1 c1 s1.1 s1.2 #[.int .u8 b0, .int .u8 0, .int .u8 0, .int .u8 0] from H0.out.put 0 (.int .u8 b0))
  generalize hZZ : x0.setRow w.heap.size #[.slice A1 n1 c1, .int .i64 s1.2] = Z0 at *
  have HZ0 := Lib.hid hZZ
  have EB0 := Lib.hid hb0
  have ES0 := Lib.hid hs0
  have z0 : Z0.cell? ⟨w.heap.size + 2, 0, none⟩ = some (.int .u8 0) := H0.out.Ar.cell 0
  have zf : Z0.frozen? ⟨w.heap.size + 2, 0, none⟩ = false := H0.out.Ar.free 0
  have C1 := Lib.hid (BY.out A1 n1 c1 s1 _ F1.out.VW F1.out.RV F1.out.RN)
  have p0 : (Z0.setCell ⟨w.heap.size + 2, 0, none⟩ (.int .u8 b0)).cell? ⟨w.heap.size, 0, none⟩ = some (.slice A1 n1 c1) := F1.out.Rp.cell 0
  have p1 : (Z0.setCell ⟨w.heap.size + 2, 0, none⟩ (.int .u8 b0)).cell? ⟨w.heap.size, 1, none⟩ = some (.int .i64 s1.2) := F1.out.Rp.cell 1
  clear hr hn hb hZZ hb0 hs0 C0 F0
  go_wp2_with (refine wpList_store_row rfl rfT (.tmp 1) (.tmp 14) rfl w.heap.size #[.slice A1 n1 c1, .int .i64 s1.2] rfl rfl rfT #[.slice A n c, .int .i64 st.2] G0.out.Rp HZI rfl (show (#[.slice A1 n1 c1, .int .i64 s1.2] : Array Value).all (·.oneCell') = true from by simp [Value.oneCell']) ?_; rw [HZ0.out])
  rw [rounds_succ]
  go_wp2_with fail
  generalize Z0.setCell ⟨w.heap.size + 2, 0, none⟩ (.int .u8 b0) = V1 at *
  clear p0 p1 z0 zf G0 H0 HZ0
  refine C1.out.mono ?_
  rintro e x1 ⟨A2, n2, c2, rfl, hr, hn, hb⟩
  generalize hb1 : (byteS s1).1 = b1 at *
  generalize hs1 : (byteS s1).2 = s2 at *
  have G1 := Lib.hid (F1.out.call hb)
  have H1 := Lib.hid (G1.out.setp hr hn)
  have F2 := Lib.hid (show TwF V w ((x1.setRow w.heap.size #[.slice A2 n2 c2, .int .i64 s2.2]).setCell ⟨w.heap.size + 2, 1, none⟩ (.int .u8 b1)) A2 n2 c2 s2.1 s2.2 #[.int .u8 b0, .int .u8 b1, .int .u8 0, .int .u8 0] from H1.out.put 1 (.int .u8 b1))
  generalize hZZ : x1.setRow w.heap.size #[.slice A2 n2 c2, .int .i64 s2.2] = Z1 at *
  have HZ1 := Lib.hid hZZ
  have EB1 := Lib.hid hb1
  have ES1 := Lib.hid hs1
  have z0 : Z1.cell? ⟨w.heap.size + 2, 1, none⟩ = some (.int .u8 0) := H1.out.Ar.cell 1
  have zf : Z1.frozen? ⟨w.heap.size + 2, 1, none⟩ = false := H1.out.Ar.free 1
  have C2 := Lib.hid (BY.out A2 n2 c2 s2 _ F2.out.VW F2.out.RV F2.out.RN)
  have p0 : (Z1.setCell ⟨w.heap.size + 2, 1, none⟩ (.int .u8 b1)).cell? ⟨w.heap.size, 0, none⟩ = some (.slice A2 n2 c2) := F2.out.Rp.cell 0
  have p1 : (Z1.setCell ⟨w.heap.size + 2, 1, none⟩ (.int .u8 b1)).cell? ⟨w.heap.size, 1, none⟩ = some (.int .i64 s2.2) := F2.out.Rp.cell 1
  clear hr hn hb hZZ hb1 hs1 C1 F1
  go_wp2_with (refine wpList_store_row rfl rfT (.tmp 1) (.tmp 14) rfl w.heap.size #[.slice A2 n2 c2, .int .i64 s2.2] rfl rfl rfT #[.slice A1 n1 c1, .int .i64 s1.2] G1.out.Rp HZI rfl (show (#[.slice A2 n2 c2, .int .i64 s2.2] : Array Value).all (·.oneCell') = true from by simp [Value.oneCell']) ?_; rw [HZ1.out])
  rw [rounds_succ]
  go_wp2_with fail
  generalize Z1.setCell ⟨w.heap.size + 2, 1, none⟩ (.int .u8 b1) = V2 at *
  clear p0 p1 z0 zf G1 H1 HZ1
  refine C2.out.mono ?_
  rintro e x2 ⟨A3, n3, c3, rfl, hr, hn, hb⟩
  generalize hb2 : (byteS s2).1 = b2 at *
  generalize hs2 : (byteS s2).2 = s3 at *
  have G2 := Lib.hid (F2.out.call hb)
  have H2 := Lib.hid (G2.out.setp hr hn)
  have F3 := Lib.hid (show TwF V w ((x2.setRow w.heap.size #[.slice A3 n3 c3, .int .i64 s3.2]).setCell ⟨w.heap.size + 2, 2, none⟩ (.int .u8 b2)) A3 n3 c3 s3.1 s3.2 #[.int .u8 b0, .int .u8 b1, .int .u8 b2, .int .u8 0] from H2.out.put 2 (.int .u8 b2))
  generalize hZZ : x2.setRow w.heap.size #[.slice A3 n3 c3, .int .i64 s3.2] = Z2 at *
  have HZ2 := Lib.hid hZZ
  have EB2 := Lib.hid hb2
  have ES2 := Lib.hid hs2
  have z0 : Z2.cell? ⟨w.heap.size + 2, 2, none⟩ = some (.int .u8 0) := H2.out.Ar.cell 2
  have zf : Z2.frozen? ⟨w.heap.size + 2, 2, none⟩ = false := H2.out.Ar.free 2
  have C3 := Lib.hid (BY.out A3 n3 c3 s3 _ F3.out.VW F3.out.RV F3.out.RN)
  have p0 : (Z2.setCell ⟨w.heap.size + 2, 2, none⟩ (.int .u8 b2)).cell? ⟨w.heap.size, 0, none⟩ = some (.slice A3 n3 c3) := F3.out.Rp.cell 0
  have p1 : (Z2.setCell ⟨w.heap.size + 2, 2, none⟩ (.int .u8 b2)).cell? ⟨w.heap.size, 1, none⟩ = some (.int .i64 s3.2) := F3.out.Rp.cell 1
  clear hr hn hb hZZ hb2 hs2 C2 F2
  go_wp2_with (refine wpList_store_row rfl rfT (.tmp 1) (.tmp 14) rfl w.heap.size #[.slice A3 n3 c3, .int .i64 s3.2] rfl rfl rfT #[.slice A2 n2 c2, .int .i64 s2.2] G2.out.Rp HZI rfl (show (#[.slice A3 n3 c3, .int .i64 s3.2] : Array Value).all (·.oneCell') = true from by simp [Value.oneCell']) ?_; rw [HZ2.out])
  rw [rounds_succ]
  go_wp2_with fail
  generalize Z2.setCell ⟨w.heap.size + 2, 2, none⟩ (.int .u8 b2) = V3 at *
  clear p0 p1 z0 zf G2 H2 HZ2
  refine C3.out.mono ?_
  rintro e x3 ⟨A4, n4, c4, rfl, hr, hn, hb⟩
  generalize hb3 : (byteS s3).1 = b3 at *
  generalize hs3 : (byteS s3).2 = s4 at *
  have G3 := Lib.hid (F3.out.call hb)
  have H3 := Lib.hid (G3.out.setp hr hn)
  have F4 := Lib.hid (show TwF V w ((x3.setRow w.heap.size #[.slice A4 n4 c4, .int .i64 s4.2]).setCell ⟨w.heap.size + 2, 3, none⟩ (.int .u8 b3)) A4 n4 c4 s4.1 s4.2 #[.int .u8 b0, .int .u8 b1, .int .u8 b2, .int .u8 b3] from H3.out.put 3 (.int .u8 b3))
  generalize hZZ : x3.setRow w.heap.size #[.slice A4 n4 c4, .int .i64 s4.2] = Z3 at *
  have HZ3 := Lib.hid hZZ
  have EB3 := Lib.hid hb3
  have ES3 := Lib.hid hs3
  have z0 : Z3.cell? ⟨w.heap.size + 2, 3, none⟩ = some (.int .u8 0) := H3.out.Ar.cell 3
  have zf : Z3.frozen? ⟨w.heap.size + 2, 3, none⟩ = false := H3.out.Ar.free 3
  have p0 : (Z3.setCell ⟨w.heap.size + 2, 3, none⟩ (.int .u8 b3)).cell? ⟨w.heap.size, 0, none⟩ = some (.slice A4 n4 c4) := F4.out.Rp.cell 0
  have p1 : (Z3.setCell ⟨w.heap.size + 2, 3, none⟩ (.int .u8 b3)).cell? ⟨w.heap.size, 1, none⟩ = some (.int .i64 s4.2) := F4.out.Rp.cell 1
  clear hr hn hb hZZ hb3 hs3 C3 F3
  go_wp2_with (refine wpList_store_row rfl rfT (.tmp 1) (.tmp 14) rfl w.heap.size #[.slice A4 n4 c4, .int .i64 s4.2] rfl rfl rfT #[.slice A3 n3 c3, .int .i64 s3.2] G3.out.Rp HZI rfl (show (#[.slice A4 n4 c4, .int .i64 s4.2] : Array Value).all (·.oneCell') = true from by simp [Value.oneCell']) ?_; rw [HZ3.out])
  generalize Z3.setCell ⟨w.heap.size + 2, 3, none⟩ (.int .u8 b3) = V4 at *
  clear z0 zf G3 H3 HZ3 EB0 EB1 EB2 EB3 ES0 ES1 ES2 ES3 BY
  by_cases he : s4.2 = 0
  case neg =>
    have hne : (s4.2 != 0) = true := by simp [he]
    have E := WB.out
    rw [if_neg he] at E
    subst E
    have HE := Lib.hid he
    have OO := Lib.hid F4.out.out
    have QW := Lib.hid F4.out.Rq
    generalize hZZ : V4.setRow (w.heap.size + 1) #[.slice A4 n4 c4, .int .i64 s4.2] = ZZ at *
    have HZZ := Lib.hid hZZ
    clear hZZ he WB
    rw [rounds_succ]
    go_wp2_with (refine wpList_store_row rfl rfT (.tmp 2) (.tmp 20) rfl (w.heap.size + 1) #[.slice A4 n4 c4, .int .i64 s4.2] rfl rfl rfT #[.slice none 0 0, .int .i64 0] QW.out HZI rfl (show (#[.slice A4 n4 c4, .int .i64 s4.2] : Array Value).all (·.oneCell') = true from by simp [Value.oneCell']) ?_; rw [HZZ.out])
    have z0 : ZZ.cell? ⟨w.heap.size + 1, 0, none⟩ = some (.slice A4 n4 c4) := OO.out.1.cell 0
    have z1 : ZZ.cell? ⟨w.heap.size + 1, 1, none⟩ = some (.int .i64 s4.2) := OO.out.1.cell 1
    refine bodyPost_ret (v := .tuple #[.agg #[.slice A4 n4 c4, .int .i64 s4.2], .int .u32 0]) ?_ rfl ?_
    · simp [results, Try.results65, go_sem, z0, z1]
    · rw [UL.out]
      exact ⟨A4, n4, c4, rfl, F4.out.RV, F4.out.RN, OO.out.2⟩
  obtain ⟨z4, e4⟩ := s4
  have he : e4 = 0 := he
  subst he
  have E := WB.out
  rw [if_pos rfl] at E
  subst E
  have hne : ((0 : Int) != 0) = false := by decide
  clear WB
  rw [rounds_succ]
  go_wp2_with fail
  clear p0 p1
  have FD := Lib.hid (F4.out.call (Below.refl _ _).drew)
  have OO := Lib.hid FD.out.out
  have QW := Lib.hid FD.out.Rq
  have w0 : V4.drew.cell? ⟨w.heap.size + 2, 0, none⟩ = some (.int .u8 b0) := FD.out.Ar.cell 0
  have w1 : V4.drew.cell? ⟨w.heap.size + 2, 0 + 1, none⟩ = some (.int .u8 b1) := FD.out.Ar.cell 1
  have w2 : V4.drew.cell? ⟨w.heap.size + 2, 0 + 2, none⟩ = some (.int .u8 b2) := FD.out.Ar.cell 2
  have w3 : V4.drew.cell? ⟨w.heap.size + 2, 0 + 3, none⟩ = some (.int .u8 b3) := FD.out.Ar.cell 3
  have RW := Lib.hid (refword_any (w.heap.size + 2) 0 4 b0 b1 b2 b3 V4.drew w0 w1 w2 w3 I0.out.1.1 I0.out.1.2 I1.out.1.1 I1.out.1.2 I2.out.1.1 I2.out.1.2 I3.out.1.1 I3.out.1.2)
  have L0 : V4.drew.cell? ⟨w.heap.size, 0, none⟩ = some (.slice A4 n4 c4) ∧ V4.drew.cell? ⟨w.heap.size, 1, none⟩ = some (.int .i64 0) := ⟨FD.out.Rp.cell 0, FD.out.Rp.cell 1⟩
  have H1 := Lib.hid (show (#[.slice A4 n4 c4, .int .i64 0] : Array Value).all (·.oneCell') = true from by simp [Value.oneCell'])
  have KZ := Lib.hid (show (V4.drew.setRow (w.heap.size + 1) #[.slice A4 n4 c4, .int .i64 0]).cell? ⟨w.heap.size, 0, none⟩ = some (.slice A4 n4 c4) ∧ (V4.drew.setRow (w.heap.size + 1) #[.slice A4 n4 c4, .int .i64 0]).cell? ⟨w.heap.size, 1, none⟩ = some (.int .i64 0) from by
    have hk : KeptS (fun b => b = w.heap.size + 1) V4.drew (V4.drew.setRow (w.heap.size + 1) #[.slice A4 n4 c4, .int .i64 0]) := KeptS.grown (FD.out.Rq.setRow _).2 (fun b hb => by injection hb with hb; exact hb.symm)
    have := hk.whole FD.out.Rp (by show ¬ w.heap.size = w.heap.size + 1; omega)
    exact ⟨this.cell 0, this.cell 1⟩)
  clear w0 w1 w2 w3
  refine wp_region_noPanic ?_
  refine wp_region_held_drew (S := fun y => y.cell? ⟨w.heap.size, 0, none⟩ = some (.slice A4 n4 c4) ∧ y.cell? ⟨w.heap.size, 1, none⟩ = some (.int .i64 0)) (by kernel_rfl) L0 (fun hHeld => ?_)
  refine wpAnyH_take (i := 0) (oi := _) (v := .agg #[.slice A4 n4 c4, .int .i64 0]) rfl (by kernel_rfl) (by kernel_rfl) (by kernel_rfl) (fun _ _ _ h => h) (Or.inl ⟨by rfl, fun w hSw => by (try dsimp only at hSw); go_simp⟩) (by assumption) ?_
  try simp only [Act.put, List.getElem_toArray, List.getElem_cons_succ, List.getElem_cons_zero, List.setIfInBounds_toArray, List.set_cons_zero, List.set_cons_succ]
  refine wpAnyH_take (i := 1) (oi := _) (v := .slice (some ⟨w.heap.size + 2, 0, none⟩) 4 4) rfl (by kernel_rfl) (by kernel_rfl) (by kernel_rfl) (fun _ _ _ h => h) (Or.inl ⟨by rfl, fun w hSw => by (try dsimp only at hSw); go_simp⟩) (by assumption) ?_
  try simp only [Act.put, List.getElem_toArray, List.getElem_cons_succ, List.getElem_cons_zero, List.setIfInBounds_toArray, List.set_cons_zero, List.set_cons_succ]
  refine wpAnyH_ready (rs := [2]) (by kernel_rfl) (by simp) (AllReadyH.cons (o := _) rfl (fun K hK => ?_) AllReadyH.nil)
  go_simp
  go_at_call 82
  refine (RW.out).mono ?_
  rintro e y1 ⟨rfl, rfl⟩
  have S2 := L0
  refine hK.out _ _ S2 (fun hHeld => ?_)
  clear hK K
  try simp only [Act.put, List.getElem_toArray, List.getElem_cons_succ, List.getElem_cons_zero, List.setIfInBounds_toArray, List.set_cons_zero, List.set_cons_succ]
  refine wpAnyH_ready (rs := [3]) (by kernel_rfl) (by simp) (AllReadyH.cons (o := _) rfl (fun K hK => ?_) AllReadyH.nil)
  refine wp_store_row rfT (.tmp 2) (.tmp 21) rfl (w.heap.size + 1) #[.slice A4 n4 c4, .int .i64 0] rfl rfl rfT #[.slice none 0 0, .int .i64 0] QW.out HZI rfl H1.out ?_
  have S3 := KZ.out
  generalize hZZ : V4.drew.setRow (w.heap.size + 1) #[.slice A4 n4 c4, .int .i64 0] = ZZ at *
  clear hZZ
  refine hK.out _ _ S3 (fun hHeld => ?_)
  clear hK K
  try simp only [Act.put, List.getElem_toArray, List.getElem_cons_succ, List.getElem_cons_zero, List.setIfInBounds_toArray, List.set_cons_zero, List.set_cons_succ]
  refine wpAnyH_ready (rs := [4]) (by kernel_rfl) (by simp) (AllReadyH.cons (o := _) rfl (fun K hK => ?_) AllReadyH.nil)
  go_simp
  refine hK.out _ _ S3 (fun hHeld => ?_)
  clear hK K
  try simp only [Act.put, List.getElem_toArray, List.getElem_cons_succ, List.getElem_cons_zero, List.setIfInBounds_toArray, List.set_cons_zero, List.set_cons_succ]
  refine wpAnyH_done (by kernel_rfl) ?_ _
  refine NoPanic.normal ?_
  clear S2 S3 L0 KZ RW
  go_wp2_with fail
  have z0 : ZZ.cell? ⟨w.heap.size + 1, 0, none⟩ = some (.slice A4 n4 c4) := OO.out.1.cell 0
  have z1 : ZZ.cell? ⟨w.heap.size + 1, 1, none⟩ = some (.int .i64 0) := OO.out.1.cell 1
  refine bodyPost_ret (v := .tuple #[.agg #[.slice A4 n4 c4, .int .i64 0], .int .u32 (word4 b0 b1 b2 b3)]) ?_ rfl ?_
  · simp [results, Try.results65, go_sem, z0, z1]
  · rw [UL.out]
    exact ⟨A4, n4, c4, rfl, F4.out.RV, F4.out.RN, OO.out.2⟩
end Go.Proofs.Ythmjniedfiabhaa
