/- Scopes: the program's Import. -/
import Derived.Test.YtpfoebnlngfebaaScpH
namespace Go.Proofs.Ytpfoebnlngfebaa
open Go.ChangeShapes Go.WideShapes Go.ChangeAt Go.RowKit
set_option linter.unusedVariables false
set_option linter.unusedSimpArgs false

/-- Exports that lie in memory, below block B. -/
def ExpV (B : Nat) (w : World) (v : Value) (es : List Exx) : Prop :=
  ∃ A c, v = .slice A es.length c ∧ (es ≠ [] → ∃ b off, A = some ⟨b, off, none⟩ ∧ b < B ∧ b < w.heap.size ∧ ∀ j u, (es.flatMap exCells)[j]? = some u → w.cell? ⟨b, off + j, none⟩ = some u) ∧ ∀ e ∈ es, ParV B w e.2 e.1.ps

theorem ExpV.keep {B : Nat} {w w' : World} {v : Value} {es : List Exx} (h : ExpV B w v es) (hs : w.heap.size ≤ w'.heap.size) (hk : ∀ b, b < w.heap.size → (b < B ∨ ∃ cs fz, w.heap[b]? = some (.cells cs pP fz)) → w'.heap[b]? = w.heap[b]?) : ExpV B w' v es := by
  obtain ⟨A, c, h1, h2, h3⟩ := h
  refine ⟨A, c, h1, fun hn => ?_, fun e he => (h3 e he).keep (Nat.le_refl _) hs hk⟩
  obtain ⟨b, off, rfl, hb, hb2, hc⟩ := h2 hn
  refine ⟨b, off, rfl, hb, Nat.lt_of_lt_of_le hb2 hs, fun j u hj => ?_⟩
  have := hc j u hj
  simp only [World.cell?] at this ⊢
  rw [hk b hb2 (.inl hb)]
  exact this

theorem ExpV.below {B : Nat} {w w' : World} {v : Value} {es : List Exx} (h : ExpV B w v es) (hb : Below w.heap.size w w') : ExpV B w' v es :=
  h.keep hb.size (fun b hb' _ => hb.block b hb')

theorem TabAt.keepExp {w w' : World} {B : Nat} {T : Tb} {s : Stt} (h : TabAt w B T s) (k : KeptS (Own T) w w') {v : Value} {es : List Exx} (hp : ExpV B w v es) : ExpV B w' v es :=
  hp.keep k.size fun b hb ht => h.keeps k hb (ht.imp id fun ⟨cs, fz, e⟩ => ⟨cs, pP, fz, by decide, by decide, by decide, e⟩)

/-- An export. -/
theorem ExpV.at {B : Nat} {w : World} {es : List Exx} {A : Option Addr} {c : Nat} (h : ExpV B w (.slice A es.length c) es) {t : Nat} (ht : t < es.length) :
    ∃ b off, A = some ⟨b, off, none⟩ ∧ ∃ nm kd ty vl ps Ap cp, es.getD t zEx = (⟨nm, kd, ty, vl, ps⟩, .slice Ap ps.length cp) ∧ ParV B w (.slice Ap ps.length cp) ps ∧
      (∀ j u, [Value.string nm, .int .i64 kd, .int .i64 ty, .int .i32 vl, .slice Ap ps.length cp][j]? = some u → w.cell? ⟨b, off + (t * 5 + j), none⟩ = some u) := by
  obtain ⟨A', c', h1, h2, h3⟩ := h
  injection h1 with h1 _ _
  subst h1
  obtain ⟨b, off, rfl, _, _, hc⟩ := h2 (fun e => by rw [e] at ht; exact absurd ht (by simp))
  have hm : es.getD t zEx ∈ es := by
    rw [List.getD_eq_getElem?_getD, List.getElem?_eq_getElem ht]
    exact List.getElem_mem ht
  have hp := h3 _ hm
  have hf := fun j hj => flat_at exCells 5 (fun _ => rfl) zEx es t j ht hj
  generalize es.getD t zEx = x at *
  obtain ⟨⟨nm, kd, ty, vl, ps⟩, pv⟩ := x
  obtain ⟨Ap, cp, rfl⟩ : ∃ Ap cp, pv = .slice Ap ps.length cp := hp.form
  refine ⟨b, off, rfl, nm, kd, ty, vl, ps, Ap, cp, rfl, hp, fun j u hj => ?_⟩
  have hj5 : j < 5 := (List.getElem?_eq_some_iff.1 hj).1
  exact hc _ _ ((hf j hj5).trans hj)

theorem TabAt.addMod {w w2 : World} {B : Nat} {T : Tb} {s : Stt} {mv' : Value} {m : Value × List Ox} (h : TabAt w B T s) (K : KeptS (fun k => k = T.p ∨ T.mv.ownBlock = some k) w w2)
    (hp : Whole w2 T.p pS (tbCells T.rv s.lev mv')) (hm : w2.ownsRow B pL 1 mv' (T.mx.length + 1) (T.mx.map (·.1) ++ [m.1])) (hv : ∀ b, mv'.ownBlock = some b → T.mv.ownBlock = some b ∨ w.heap.size ≤ b)
    (hr : RowO pO w2 B B m.1 m.2) (hne : ∀ b, m.1.ownBlock = some b → ¬ Own T b ∧ b < w.heap.size) : ChPost B T w { s with mods := s.mods ++ [m.2.map (·.1)] } w2 := by
  have KO : KeptS (Own T) w w2 := K.mono (fun k hk => hk.elim .inl (fun h1 => .inr (.inr h1)))
  have hsub : ∀ k, Own ⟨T.p, T.rv, T.rx, mv', T.mx ++ [m]⟩ k → Own T k ∨ w.heap.size ≤ k := by
    rintro k (rfl | ⟨j, hj', hb⟩ | hb)
    · exact .inl (.inl rfl)
    · exact .inl (.inr (.inl ⟨j, hj', hb⟩))
    · rcases hv k hb with h1 | h1
      · exact .inl (.inr (.inr h1))
      · exact .inr h1
  have hnp : ∀ {v : Value} {e : TypeId} {sz n : Nat} {xs : List Value}, w.ownsRow B e sz v n xs → e ≠ pS → e ≠ pL → ∀ b, v.ownBlock = some b → ¬ (b = T.p ∨ T.mv.ownBlock = some b) := fun hr he he2 b hb hs => by
    rcases hs with hs | hs
    · subst hs
      exact row_ne hr h.blk (fun _ _ h => by injection h with _ h; exact he h.symm) hb
    · obtain ⟨_, _, cs, e1⟩ := row_block hr hb
      obtain ⟨_, _, cs', e2⟩ := row_block h.mods hs
      rw [e1] at e2
      injection e2 with e2
      injection e2 with _ e2 _
      exact he2 e2
  refine ⟨⟨T.p, T.rv, T.rx, mv', T.mx ++ [m]⟩, rfl, ⟨hp, h.le, fun j hj => ?_, h.same, h.apart, ?_, fun q hq => ?_, fun q hq b hb ho => ?_, ?_⟩, KO, hsub⟩
  · have h1 := h.rows j hj
    exact ⟨K.row h1.row (hnp h1.row (by decide) (by decide)), fun x hx => h.keepPar KO (h1.par x hx)⟩
  · show w2.ownsRow B pL 1 mv' (T.mx ++ [m]).length ((T.mx ++ [m]).map (·.1))
    rw [List.length_append, List.map_append]
    exact hm
  · rcases List.mem_append.1 hq with hq | hq
    · exact h.keepRow KO (h.mrows q hq) (h.mapart q hq)
    · obtain rfl := List.mem_singleton.1 hq
      exact hr
  · rcases hsub b ho with h1 | h1
    · rcases List.mem_append.1 hq with hq | hq
      · exact h.mapart q hq b hb h1
      · obtain rfl := List.mem_singleton.1 hq
        exact (hne b hb).1 h1
    · rcases List.mem_append.1 hq with hq | hq
      · have := (row_block (h.mrows q hq).row hb).2.1
        omega
      · obtain rfl := List.mem_singleton.1 hq
        have := (hne b hb).2
        omega
  · show (T.mx ++ [m]).map (fun q => q.2.map (·.1)) = s.mods ++ [m.2.map (·.1)]
    rw [List.map_append, h.msame]
    rfl

theorem declP_mods (s : Stt) (x : Ob) : (declP s x).1.mods = s.mods ∧ (declP s x).1.lev = s.lev := by
  unfold declP
  split
  · exact ⟨rfl, rfl⟩
  · split
    · exact ⟨rfl, rfl⟩
    · split
      · exact ⟨rfl, rfl⟩
      · exact ⟨rfl, rfl⟩

theorem wrap_i32_small {n : Nat} (h : n ≤ 64) : IntKind.i32.wrap ((n : Int) + 1) = (n : Int) + 1 := by
  rw [IntKind.wrap_i32]
  omega

set_option maxHeartbeats 32000000 in
set_option maxRecDepth 100000 in
theorem import_full (B : Nat) (T : Tb) (s : Stt) (nm : ByteArray) (v : Value) (es : List Exx) (w : World) (h : TabAt w B T s) (he : ExpV B w v es) (hB : B ≤ w.heap.size) (hl : s.lev ≤ 64) (hlen : s.L.length ≤ 1000) (hml : s.mods.length ≤ 64) (hs : nm.size ≤ 140737488355328) (hes : ∀ e ∈ es, ObOk (expOb 0 e.1)) (hen : es.length * 64 ≤ 140737488355328) (hfull : 64 ≤ s.mods.length) :
    Calls Try.prog 35 #[.pointer (some ⟨T.p, 0, none⟩), .string nm, v] w fun e w' => e = .returned (.tuple #[.int .i64 (importP s nm (es.map (·.1))).2.1, .int .i64 (importP s nm (es.map (·.1))).2.2]) ∧ ChPost B T w (importP s nm (es.map (·.1))).1 w' := by
  have DP : importP s nm (es.map (·.1)) = (s, 0, 243) := if_pos hfull
  rw [DP]
  clear DP
  obtain ⟨Ae, ce, rfl⟩ : ∃ Ae ce, v = .slice Ae es.length ce := by
    obtain ⟨A, c, h1, _⟩ := he
    exact ⟨A, c, h1⟩
  obtain ⟨Am, cm, hmv⟩ := row_form h.mods
  have hmx : T.mx.length = s.mods.length := by rw [← h.msame, List.length_map]
  have u66 : w.cell? ⟨T.p, 66, none⟩ = some (.slice Am s.mods.length cm) := by rw [← hmx, ← hmv]; exact (h.blk.cell 66).trans tb_mod
  have HC := Lib.hid (h.chSame (Below.refl _ _))
  have hI : (64 : Int) ≤ s.mods.length := by omega
  clear h he hB hl hlen hs hes hen hmx hmv
  go_enter Try.func35, Try.ntmps35
  go_wp2_with fail
  go_ret2
  exact ⟨rfl, HC.out⟩

set_option maxHeartbeats 32000000 in
set_option maxRecDepth 100000 in
theorem import_bad (B : Nat) (T : Tb) (s : Stt) (nm : ByteArray) (v : Value) (es : List Exx) (w : World) (h : TabAt w B T s) (he : ExpV B w v es) (hB : B ≤ w.heap.size) (hl : s.lev ≤ 64) (hlen : s.L.length ≤ 1000) (hml : s.mods.length ≤ 64) (hs : nm.size ≤ 140737488355328) (hes : ∀ e ∈ es, ObOk (expOb 0 e.1)) (hen : es.length * 64 ≤ 140737488355328) (hfull : ¬ 64 ≤ s.mods.length) (hbad : (declP s (impOb ((s.mods.length : Int) + 1) nm)).2 ≠ 0) :
    Calls Try.prog 35 #[.pointer (some ⟨T.p, 0, none⟩), .string nm, v] w fun e w' => e = .returned (.tuple #[.int .i64 (importP s nm (es.map (·.1))).2.1, .int .i64 (importP s nm (es.map (·.1))).2.2]) ∧ ChPost B T w (importP s nm (es.map (·.1))).1 w' := by
  have DP : importP s nm (es.map (·.1)) = (s, 0, (declP s (impOb ((s.mods.length : Int) + 1) nm)).2) := by
    unfold importP
    rw [if_neg hfull]
    rw [show ((s.mods.length + 1 : Nat) : Int) = (s.mods.length : Int) + 1 by omega]
    rw [if_pos hbad]
  rw [DP]
  clear DP
  have DS : (declP s (impOb ((s.mods.length : Int) + 1) nm)).1 = s := by
    unfold declP at hbad ⊢
    split
    · rfl
    · split
      · rfl
      · split
        · rfl
        · rename_i h1 h2 h3
          rw [if_neg h1, if_neg h2, if_neg h3] at hbad
          exact absurd rfl hbad
  obtain ⟨Ae, ce, rfl⟩ : ∃ Ae ce, v = .slice Ae es.length ce := by
    obtain ⟨A, c, h1, _⟩ := he
    exact ⟨A, c, h1⟩
  obtain ⟨Am, cm, hmv⟩ := row_form h.mods
  have hmx : T.mx.length = s.mods.length := by rw [← h.msame, List.length_map]
  have u66 : w.cell? ⟨T.p, 66, none⟩ = some (.slice Am s.mods.length cm) := by rw [← hmx, ← hmv]; exact (h.blk.cell 66).trans tb_mod
  have hmI : ¬ (64 : Int) ≤ s.mods.length := by omega
  have hmL : (s.mods.length : Int) < 64 := by omega
  have hwr := wrap_i32_small hml
  have DD := Lib.hid (decl_any B T s nm 8 0 0 ((s.mods.length : Int) + 1) 0 false [] none 0 w h (ParV.nil _ _) hB hl hlen hs (by decide))
  have H := Lib.hid h
  have HE := Lib.hid he
  have HB := Lib.hid hB
  have HL := Lib.hid (And.intro hl hml)
  have HS := Lib.hid hes
  have HN := Lib.hid hen
  have DM := Lib.hid (declP_mods s (impOb ((s.mods.length : Int) + 1) nm))
  rw [show (⟨nm, 8, 0, 0, (s.mods.length : Int) + 1, 0, false, []⟩ : Ob) = impOb ((s.mods.length : Int) + 1) nm from rfl] at DD
  clear h he hB hl hlen hs hes hen hmx hmv hml
  generalize hdp : declP s (impOb ((s.mods.length : Int) + 1) nm) = dp at *
  obtain ⟨s1, e1⟩ := dp
  go_enter Try.func35, Try.ntmps35
  go_wp2_with fail
  refine DD.out.mono ?_
  rintro e w1 ⟨rfl, hC⟩
  have HC := Lib.hid hC
  clear hC DD u66
  have d : (e1 != 0) = true := bne_iff_ne.2 hbad
  have hs1 : s1 = s := DS
  clear hbad hdp DS
  subst hs1
  go_wp2_with fail
  go_ret2
  exact ⟨rfl, HC.out⟩

theorem ChPost.after {B : Nat} {T T1 : Tb} {w w1 w2 : World} {s : Stt} (h : ChPost B T1 w1 s w2) (hp : T1.p = T.p) (hK : KeptS (Own T) w w1) (hO : ∀ k, Own T1 k → Own T k ∨ w.heap.size ≤ k) : ChPost B T w s w2 := by
  obtain ⟨T', h1, h2, h3, h4⟩ := h
  exact ⟨T', h1.trans hp, h2, hK.trans h3 hO, fun k hk => (h4 k hk).elim (hO k) (fun h => .inr (Nat.le_trans hK.size h))⟩

theorem row_len {w : World} {B : Nat} {e : TypeId} {v : Value} {n : Nat} {l : List Ox} (h : w.ownsRow B e 8 v n (l.flatMap oxCells)) : l.length = n := by
  have h1 := h.1
  have hlen : ∀ (m : List Ox), (m.flatMap oxCells).length = m.length * 8 := by
    intro m
    induction m with
    | nil => rfl
    | cons x m ih => rw [List.flatMap_cons, List.length_append, ih, List.length_cons]; show 8 + _ = _; omega
  rw [hlen] at h1
  omega

set_option maxHeartbeats 32000000 in
set_option maxRecDepth 100000 in
theorem import_ok (B : Nat) (T : Tb) (s : Stt) (nm : ByteArray) (v : Value) (es : List Exx) (w : World) (h : TabAt w B T s) (he : ExpV B w v es) (hB : B ≤ w.heap.size) (hl : s.lev ≤ 64) (hlen : s.L.length ≤ 1000) (hml : s.mods.length ≤ 64) (hs : nm.size ≤ 140737488355328) (hes : ∀ e ∈ es, ObOk (expOb 0 e.1)) (hen : es.length * 64 ≤ 140737488355328) (hfull : ¬ 64 ≤ s.mods.length) (hgood : (declP s (impOb ((s.mods.length : Int) + 1) nm)).2 = 0) :
    Calls Try.prog 35 #[.pointer (some ⟨T.p, 0, none⟩), .string nm, v] w fun e w' => e = .returned (.tuple #[.int .i64 (importP s nm (es.map (·.1))).2.1, .int .i64 (importP s nm (es.map (·.1))).2.2]) ∧ ChPost B T w (importP s nm (es.map (·.1))).1 w' := by
  have DP : importP s nm (es.map (·.1)) = ({ (declP s (impOb ((s.mods.length : Int) + 1) nm)).1 with mods := s.mods ++ [(es.map (·.1)).map (expOb ((s.mods.length : Int) + 1))] }, (s.mods.length : Int) + 1, 0) := by
    unfold importP
    rw [if_neg hfull]
    rw [show ((s.mods.length + 1 : Nat) : Int) = (s.mods.length : Int) + 1 by omega]
    rw [if_neg (by rw [hgood]; decide)]
  rw [DP]
  clear DP
  obtain ⟨Ae, ce, rfl⟩ : ∃ Ae ce, v = .slice Ae es.length ce := by
    obtain ⟨A, c, h1, _⟩ := he
    exact ⟨A, c, h1⟩
  obtain ⟨Am, cm, hmv⟩ := row_form h.mods
  have hmx : T.mx.length = s.mods.length := by rw [← h.msame, List.length_map]
  have u66 : w.cell? ⟨T.p, 66, none⟩ = some (.slice Am s.mods.length cm) := by rw [← hmx, ← hmv]; exact (h.blk.cell 66).trans tb_mod
  have hmI : ¬ (64 : Int) ≤ s.mods.length := by omega
  have hmL : (s.mods.length : Int) < 64 := by omega
  have hwr := wrap_i32_small hml
  have DD := Lib.hid (decl_any B T s nm 8 0 0 ((s.mods.length : Int) + 1) 0 false [] none 0 w h (ParV.nil _ _) hB hl hlen hs (by decide))
  have H := Lib.hid h
  have HE := Lib.hid he
  have HB := Lib.hid hB
  have HL := Lib.hid (And.intro hl hml)
  have HS := Lib.hid hes
  have HN := Lib.hid hen
  have DM := Lib.hid (declP_mods s (impOb ((s.mods.length : Int) + 1) nm))
  rw [show (⟨nm, 8, 0, 0, (s.mods.length : Int) + 1, 0, false, []⟩ : Ob) = impOb ((s.mods.length : Int) + 1) nm from rfl] at DD
  clear h he hB hl hlen hs hes hen hmx hmv hml
  generalize hdp : declP s (impOb ((s.mods.length : Int) + 1) nm) = dp at *
  obtain ⟨s1, e1⟩ := dp
  go_enter Try.func35, Try.ntmps35
  go_wp2_with fail
  refine DD.out.mono ?_
  rintro e w1 ⟨rfl, hC⟩
  have HC := Lib.hid hC
  clear hC DD u66
  obtain rfl : e1 = 0 := hgood
  clear hdp
  have hn1 : s1.mods = s.mods := DM.out.1
  obtain ⟨T1, hp1, hT1, hK1, hO1⟩ := HC.out
  have HT1 := Lib.hid hT1
  have HK1 := Lib.hid (And.intro hp1 (And.intro hK1 hO1))
  have HE1 := Lib.hid (H.out.keepExp hK1 HE.out)
  have HN1 := Lib.hid hn1
  have HB1 := Lib.hid (Nat.le_trans HB.out hK1.size)
  obtain ⟨Am1, cm1, hmv1⟩ := row_form hT1.mods
  have hmx1 : T1.mx.length = s.mods.length := by rw [← hn1, ← hT1.msame, List.length_map]
  have HMV := Lib.hid (And.intro hmv1 hmx1)
  obtain ⟨i0, hi0, hz0, hz1, hz2⟩ := info_parts pO_info
  obtain ⟨j0, hj0, hy0, hy1, hy2⟩ := info_parts pL_info
  have hen47 := HN.out
  have hmk : ∀ W : World, (Instr.makeSlice 65 (.int .i64 0) (.int .i64 es.length)).run Try.prog W = .ok (.slice (some ⟨W.heap.size, 0, none⟩) 0 es.length) (W.alloc (.cells (madeCells (Value.cells (.agg #[.string ⟨#[]⟩, .int .i64 0, .int .i64 0, .int .i64 0, .int .i32 0, .int .i64 0, .bool false, .slice none 0 0])) (es.length * 8)) pO)) := fun W => by
    have h := run_make (P := Try.prog) W 65 pO i0 _ Try.underlying65 hi0 hz0 .i64 .i64 0 es.length (by decide) (by omega) (by rw [hz2]; omega) (by omega)
    rw [hz1] at h
    exact h
  have hcs : (madeCells (Value.cells (.agg #[.string ⟨#[]⟩, .int .i64 0, .int .i64 0, .int .i64 0, .int .i32 0, .int .i64 0, .bool false, .slice none 0 0])) (es.length * 8)).size = es.length * 8 := by simp [madeCells]
  generalize madeCells (Value.cells (.agg #[.string ⟨#[]⟩, .int .i64 0, .int .i64 0, .int .i64 0, .int .i32 0, .int .i64 0, .bool false, .slice none 0 0])) (es.length * 8) = CC at *
  have BA := Lib.hid ((Below.refl w1.heap.size w1).alloc (Nat.le_refl _) (.cells CC pO))
  have OE := Lib.hid (row_built (e := pO) (sz := 8) w1 CC 0 es.length hcs (Nat.zero_le _) (by unfold maxLen; omega) w1.heap.size (Nat.le_refl _) _ rfl [] (by simp))
  clear hT1 hK1 hO1 hp1 hn1 hmv1 hmx1 HC hcs HE
  go_wp2_with fail
  generalize w1.alloc (.cells CC pO) = V at *
  clear hmk
  go_loopw [10, 12, 39] (fun o _ i wr => ∃ (t : Nat) (l : List Ox), t ≤ es.length ∧ i = .int .i64 t ∧ RowO pO wr B w1.heap.size o l ∧ l.map (·.1) = ((es.take t).map (·.1)).map (expOb ((s.mods.length : Int) + 1)) ∧ Below w1.heap.size w1 wr) (fun _ _ i _ => es.length - (intOf i).toNat)
  case atStart => exact ⟨0, [], Nat.zero_le _, rfl, ⟨OE.out, fun _ h => (List.not_mem_nil h).elim⟩, rfl, BA.out⟩
  case round =>
    clear OE BA
    obtain ⟨t, l, ht, rfl, hrow, hmap, hb⟩ := hrel
    have hlen : l.length = t := by
      have h := congrArg List.length hmap
      simp only [List.length_map, List.length_take] at h
      omega
    obtain ⟨A3, c3, rfl⟩ := row_form hrow.row
    rw [hlen]
    have BW := Lib.hid hb
    have RW := Lib.hid hrow
    have HM := Lib.hid hmap
    have HLN := Lib.hid hlen
    clear hb hrow hmap hlen
    by_cases hlt : t < es.length
    · have hI : (t : Int) < es.length := by omega
      obtain ⟨b, off, rfl, enm, ekd, ety, evl, ps, Ap, cp, hX, hpar, hg⟩ := (HE1.out.below BW.out).at hlt
      have x0 : wr.cell? ⟨b, off + t * 5, none⟩ = some (.string enm) := hg 0 _ rfl
      have x1 : wr.cell? ⟨b, off + t * 5 + 1, none⟩ = some (.int .i64 ekd) := by rw [Nat.add_assoc]; exact hg 1 _ rfl
      have x2 : wr.cell? ⟨b, off + t * 5 + 2, none⟩ = some (.int .i64 ety) := by rw [Nat.add_assoc]; exact hg 2 _ rfl
      have x3 : wr.cell? ⟨b, off + t * 5 + 3, none⟩ = some (.int .i32 evl) := by rw [Nat.add_assoc]; exact hg 3 _ rfl
      have x4 : wr.cell? ⟨b, off + t * 5 + 4, none⟩ = some (.slice Ap ps.length cp) := by rw [Nat.add_assoc]; exact hg 4 _ rfl
      have hem : es.getD t zEx ∈ es := by
        rw [List.getD_eq_getElem?_getD, List.getElem?_eq_getElem hlt]
        exact List.getElem_mem hlt
      have hob := HS.out _ hem
      rw [hX] at hob
      have BE := Lib.hid (BW.out.alloc BW.out.size (.cells #[.string enm, .int .i64 ekd, .int .i64 ety, .int .i32 evl, .slice Ap ps.length cp] pE))
      have QE := Lib.hid (Whole.made wr pE #[.string enm, .int .i64 ekd, .int .i64 ety, .int .i32 evl, .slice Ap ps.length cp] _ rfl)
      have HBE := Lib.hid ((Below.refl wr.heap.size wr).alloc (Nat.le_refl _) (.cells #[.string enm, .int .i64 ekd, .int .i64 ety, .int .i32 evl, .slice Ap ps.length cp] pE))
      have OW := Lib.hid (own_any enm ekd ety 0 evl ((s.mods.length : Int) + 1) false ps Ap cp B (wr.alloc (.cells #[.string enm, .int .i64 ekd, .int .i64 ety, .int .i32 evl, .slice Ap ps.length cp] pE)) (hpar.below ((Below.refl _ _).alloc (Nat.le_refl _) _)) (Nat.le_trans HB1.out BE.out.size) hob.1 hob.2)
      have HM2 := Lib.hid (show ∀ Aq cq, (l ++ [((⟨enm, ekd, ety, 0, evl, (s.mods.length : Int) + 1, false, ps⟩ : Ob), Value.slice Aq ps.length cq)]).map (·.1) = ((es.take (t + 1)).map (·.1)).map (expOb ((s.mods.length : Int) + 1)) from fun Aq cq => by
        have e : es.take (t + 1) = es.take t ++ [es.getD t zEx] := by
          rw [List.take_add_one, List.getD_eq_getElem?_getD, List.getElem?_eq_getElem hlt]
          rfl
        rw [e, List.map_append, List.map_append, List.map_append, ← HM.out, hX]
        rfl)
      have q0 : (wr.alloc (.cells #[.string enm, .int .i64 ekd, .int .i64 ety, .int .i32 evl, .slice Ap ps.length cp] pE)).cell? ⟨wr.heap.size, 0, none⟩ = some (.string enm) := QE.out.cell 0
      have q1 : (wr.alloc (.cells #[.string enm, .int .i64 ekd, .int .i64 ety, .int .i32 evl, .slice Ap ps.length cp] pE)).cell? ⟨wr.heap.size, 1, none⟩ = some (.int .i64 ekd) := QE.out.cell 1
      have q2 : (wr.alloc (.cells #[.string enm, .int .i64 ekd, .int .i64 ety, .int .i32 evl, .slice Ap ps.length cp] pE)).cell? ⟨wr.heap.size, 2, none⟩ = some (.int .i64 ety) := QE.out.cell 2
      have q3 : (wr.alloc (.cells #[.string enm, .int .i64 ekd, .int .i64 ety, .int .i32 evl, .slice Ap ps.length cp] pE)).cell? ⟨wr.heap.size, 3, none⟩ = some (.int .i32 evl) := QE.out.cell 3
      have q4 : (wr.alloc (.cells #[.string enm, .int .i64 ekd, .int .i64 ety, .int .i32 evl, .slice Ap ps.length cp] pE)).cell? ⟨wr.heap.size, 4, none⟩ = some (.slice Ap ps.length cp) := QE.out.cell 4
      clear hX hpar hg hem hob HM
      go_wp2_with fail
      clear x0 x1 x2 x3 x4 q0 q1 q2 q3 q4
      generalize (wr.alloc (.cells #[.string enm, .int .i64 ekd, .int .i64 ety, .int .i32 evl, .slice Ap ps.length cp] pE)) = V1 at *
      refine OW.out.mono ?_
      rintro e y1 ⟨Aq, cq, rfl, hb1, hp1⟩
      have BY := Lib.hid (BE.out.trans (hb1.mono BE.out.size))
      have b2 := (Below.refl y1.heap.size y1).alloc (Nat.le_refl _) (.cells #[.string enm, .int .i64 ekd, .int .i64 ety, .int .i64 0, .int .i32 evl, .int .i64 ((s.mods.length : Int) + 1), .bool false, .slice Aq ps.length cq] pO)
      have BY2 := Lib.hid (BY.out.trans (b2.mono BY.out.size))
      have R2 := Lib.hid (RW.out.below ((Below.refl wr.heap.size wr).alloc (Nat.le_refl _) (.cells #[.string enm, .int .i64 ekd, .int .i64 ety, .int .i32 evl, .slice Ap ps.length cp] pE)))
      have NC := Lib.hid (show ∀ (j : Nat) u, ([.string enm, .int .i64 ekd, .int .i64 ety, .int .i64 0, .int .i32 evl, .int .i64 ((s.mods.length : Int) + 1), .bool false, .slice Aq ps.length cq] : List Value)[j]? = some u → (y1.alloc (.cells #[.string enm, .int .i64 ekd, .int .i64 ety, .int .i64 0, .int .i32 evl, .int .i64 ((s.mods.length : Int) + 1), .bool false, .slice Aq ps.length cq] pO)).cell? ((⟨y1.heap.size, 0, none⟩ : Addr).add j) = some u from fun j u hj => by
        rw [Go.WideShapes.add_plain, Nat.zero_add]
        exact ((Whole.made y1 pO #[.string enm, .int .i64 ekd, .int .i64 ety, .int .i64 0, .int .i32 evl, .int .i64 ((s.mods.length : Int) + 1), .bool false, .slice Aq ps.length cq] y1.heap.size rfl).cell j).trans (by simpa using hj))
      have HP2 := Lib.hid (hp1.below b2)
      have RY := Lib.hid (show RowO pO (y1.alloc (.cells #[.string enm, .int .i64 ekd, .int .i64 ety, .int .i64 0, .int .i32 evl, .int .i64 ((s.mods.length : Int) + 1), .bool false, .slice Aq ps.length cq] pO)) B w1.heap.size (.slice A3 t c3) l from by have h := RW.out; rw [HLN.out] at h; exact h.below ((HBE.out.trans (hb1.mono HBE.out.size)).trans (b2.mono (Nat.le_trans HBE.out.size hb1.size))))
      have hROW := RY.out.row
      rw [HLN.out] at hROW
      have HROW := Lib.hid hROW
      have hbase : w1.heap.size ≤ (y1.alloc (.cells #[.string enm, .int .i64 ekd, .int .i64 ety, .int .i64 0, .int .i32 evl, .int .i64 ((s.mods.length : Int) + 1), .bool false, .slice Aq ps.length cq] pO)).heap.size := BY2.out.size
      clear hb1 hp1 b2 hROW R2
      go_wp2_with (first | (at_builtin; refine wpList_append_own_wide _ rfl _ _ 65 rfl w1.heap.size pO i0 _ 8 88 Try.underlying65 hi0 hz0 hz1 hz2 rfl (by decide) (.slice A3 t c3) t (l.flatMap oxCells) rfl HROW.out ⟨y1.heap.size, 0, none⟩ 1 1 [.string enm, .int .i64 ekd, .int .i64 ety, .int .i64 0, .int .i32 evl, .int .i64 ((s.mods.length : Int) + 1), .bool false, .slice Aq ps.length cq] rfl rfl NC.out (fun u hu => by simp at hu; rcases hu with rfl | rfl | rfl | rfl | rfl | rfl | rfl | rfl <;> rfl) (by unfold maxLen; omega) (by omega) hbase ?_; intro v3 w3 ho3 hg3 hnl; have B3 := Lib.hid (BY2.out.grown hg3 hbase (fun b hb => (World.ownsRow.lt HROW.out b hb).1)); have O3 := Lib.hid (And.intro ho3 hg3); clear ho3 hg3 hnl))
      go_roundw
      case rel =>
        refine ⟨t + 1, l ++ [((⟨enm, ekd, ety, 0, evl, (s.mods.length : Int) + 1, false, ps⟩ : Ob), Value.slice Aq ps.length cq)], by omega, by go_num, ⟨?_, fun x hx => ?_⟩, HM2.out Aq cq, B3.out⟩
        · rw [List.length_append, List.flatMap_append, HLN.out]
          exact O3.out.1
        · have hk : ∀ {v : Value} {ps' : List (Int × Bool)}, ParV B (y1.alloc (.cells #[.string enm, .int .i64 ekd, .int .i64 ety, .int .i64 0, .int .i32 evl, .int .i64 ((s.mods.length : Int) + 1), .bool false, .slice Aq ps.length cq] pO)) v ps' → ParV B w3 v ps' := fun hp => hp.keep (Nat.le_refl _) O3.out.2.size fun b hb hh => O3.out.2.block b hb fun e => by
            obtain ⟨hb1, _, cs, e1⟩ := row_block HROW.out e.symm
            rcases hh with hh | ⟨cs', fz, hh⟩
            · have := HB1.out
              omega
            · rw [e1] at hh
              injection hh with hh
              injection hh with _ hh _
              exact absurd hh (by decide)
          rcases List.mem_append.1 hx with hx | hx
          · exact hk (RY.out.par x hx)
          · obtain rfl := List.mem_singleton.1 hx
            exact hk HP2.out
      case measure => simp [intOf]; omega
    · have hI : ¬ (t : Int) < es.length := by omega
      obtain rfl : t = es.length := by omega
      rw [List.take_length] at HM
      have hu66 : wr.cell? ⟨T.p, 66, none⟩ = some (.slice Am1 s.mods.length cm1) := by
        rw [← HK1.out.1, ← HMV.out.2, ← HMV.out.1]
        exact ((HT1.out.below BW.out).blk.cell 66).trans tb_mod
      have b2 := (Below.refl wr.heap.size wr).alloc (Nat.le_refl _) (.cells #[.slice A3 es.length c3] pL)
      have BY2 := Lib.hid (BW.out.trans (b2.mono BW.out.size))
      have TY := Lib.hid (HT1.out.below BY2.out)
      have RY := Lib.hid (show RowO pO (wr.alloc (.cells #[.slice A3 es.length c3] pL)) B w1.heap.size (.slice A3 es.length c3) l from by have h := RW.out; rw [HLN.out] at h; exact h.below b2)
      have NC := Lib.hid (show ∀ (j : Nat) u, ([.slice A3 es.length c3] : List Value)[j]? = some u → (wr.alloc (.cells #[.slice A3 es.length c3] pL)).cell? ((⟨wr.heap.size, 0, none⟩ : Addr).add j) = some u from fun j u hj => by
        rw [Go.WideShapes.add_plain, Nat.zero_add]
        exact ((Whole.made wr pL #[.slice A3 es.length c3] wr.heap.size rfl).cell j).trans (by simpa using hj))
      have hm1 := TY.out.mods
      rw [HMV.out.2, HMV.out.1, HMV.out.2] at hm1
      have HMR := Lib.hid hm1
      have HME := Lib.hid (show T1.mv.ownBlock = (Value.slice Am1 s.mods.length cm1).ownBlock from by rw [HMV.out.1]; cases Am1 <;> rfl)
      have hbase : B ≤ (wr.alloc (.cells #[.slice A3 es.length c3] pL)).heap.size := Nat.le_trans HB1.out BY2.out.size
      clear b2 hm1
      go_wp2_with (first | (at_builtin; refine wpList_append_own_at _ rfl _ _ 67 rfl B pL j0 _ 1 24 Try.underlying67 hj0 hy0 hy1 hy2 rfl (by decide) (.slice Am1 s.mods.length cm1) s.mods.length _ rfl HMR.out ⟨wr.heap.size, 0, none⟩ 1 1 [.slice A3 es.length c3] rfl rfl NC.out (fun u hu => by obtain rfl := List.mem_singleton.1 hu; rfl) (by unfold maxLen; omega) (by omega) hbase ?_; intro v3 y3 ho3 hg3 hnl hat; have hform : ∃ A6 c6, v3 = .slice A6 (s.mods.length + 1) c6 := row_form ho3; obtain ⟨A6, c6, rfl⟩ := hform; have K3 := Lib.hid (show KeptS (fun k => T1.mv.ownBlock = some k) (wr.alloc (.cells #[.slice A3 es.length c3] pL)) y3 from KeptS.grown hg3 (fun b hb => HME.out.trans hb)); have P3 := Lib.hid (K3.out.whole TY.out.blk (fun e => row_ne TY.out.mods TY.out.blk (fun _ _ h => by injection h with _ h; exact absurd h (by decide)) e)); have O3 := Lib.hid ho3; have HAT := Lib.hid hat; have q0 : y3.cell? ⟨T.p, 66, none⟩ = some T1.mv := (by rw [← HK1.out.1]; exact (P3.out.cell 66).trans tb_mod); have q1 : y3.frozen? ⟨T.p, 66, none⟩ = false := (by rw [← HK1.out.1]; exact P3.out.free 66); clear ho3 hg3 hnl hat))
      have hmf : ({ s1 with mods := s1.mods ++ [l.map (·.1)] } : Stt) = { s1 with mods := s.mods ++ [(es.map (·.1)).map (expOb ((s.mods.length : Int) + 1))] } := by rw [HM.out, HN1.out]
      have hpe := HK1.out.1
      have P4 : Whole (y3.setCell ⟨T.p, 66, none⟩ (.slice A6 (s.mods.length + 1) c6)) T1.p pS (tbCells T1.rv s1.lev (.slice A6 (s.mods.length + 1) c6)) := by
        have h := P3.out.store 66 (.slice A6 (s.mods.length + 1) c6)
        rw [tb_set_mod] at h
        rw [← hpe]
        exact h
      have K4 := Lib.hid (show KeptS (fun k => k = T1.p ∨ T1.mv.ownBlock = some k) (wr.alloc (.cells #[.slice A3 es.length c3] pL)) (y3.setCell ⟨T.p, 66, none⟩ (.slice A6 (s.mods.length + 1) c6)) from (K3.out.mono (fun _ h => .inr h)).trans (KeptS.set (.inl hpe.symm)) (fun _ h => .inl h))
      have KO := K4.out.mono (S' := Own T1) (fun k hk => hk.elim .inl (fun h1 => .inr (.inr h1)))
      have hob : ∀ b, (Value.slice A3 es.length c3).ownBlock = some b → ¬ Own T1 b ∧ b < (wr.alloc (.cells #[.slice A3 es.length c3] pL)).heap.size := fun b hb => by
        have hrr := RY.out.row
        obtain ⟨h1, h2, _⟩ := row_block hrr hb
        refine ⟨fun ho => ?_, h2⟩
        have := (HT1.out.own ho).2.1
        omega
      have O4 := World.ownsRow.kept O3.out (grown_set y3 T.p 66 (.slice A6 (s.mods.length + 1) c6)) (.inr (by rw [← hpe]; exact row_ne O3.out P3.out (fun _ _ h => by injection h with _ h; exact absurd h (by decide))))
      have HF := Lib.hid ((((TY.out.addMod (m := (.slice A3 es.length c3, l)) K4.out P4 (by rw [HMV.out.2]; exact O4) (fun b hb => by
        rcases HAT.out with h1 | h1
        · left; rw [HME.out, ← h1]; exact hb
        · exact .inr (Nat.le_of_eq (Option.some.inj (h1.symm.trans hb)))) (TY.out.keepRow KO (RY.out.more HB1.out) (fun b hb => (hob b hb).1)) hob).before BY2.out).after hpe HK1.out.2.1 HK1.out.2.2))
      rw [hmf] at HF
      clear O4 hob KO K4 P4 P3 O3 HAT hmf
      generalize y3.setCell ⟨T.p, 66, none⟩ (.slice A6 (s.mods.length + 1) c6) = Z at *
      rw [List.map_map] at HF
      go_ret2
      exact ⟨rfl, HF.out⟩

theorem import_any (B : Nat) (T : Tb) (s : Stt) (nm : ByteArray) (v : Value) (es : List Exx) (w : World) (h : TabAt w B T s) (he : ExpV B w v es) (hB : B ≤ w.heap.size) (hl : s.lev ≤ 64) (hlen : s.L.length ≤ 1000) (hml : s.mods.length ≤ 64) (hs : nm.size ≤ 140737488355328) (hes : ∀ e ∈ es, ObOk (expOb 0 e.1)) (hen : es.length * 64 ≤ 140737488355328) :
    Calls Try.prog 35 #[.pointer (some ⟨T.p, 0, none⟩), .string nm, v] w fun e w' => e = .returned (.tuple #[.int .i64 (importP s nm (es.map (·.1))).2.1, .int .i64 (importP s nm (es.map (·.1))).2.2]) ∧ ChPost B T w (importP s nm (es.map (·.1))).1 w' := by
  by_cases h1 : 64 ≤ s.mods.length
  · exact import_full B T s nm v es w h he hB hl hlen hml hs hes hen h1
  · by_cases h2 : (declP s (impOb ((s.mods.length : Int) + 1) nm)).2 = 0
    · exact import_ok B T s nm v es w h he hB hl hlen hml hs hes hen h1 h2
    · exact import_bad B T s nm v es w h he hB hl hlen hml hs hes hen h1 h2
end Go.Proofs.Ytpfoebnlngfebaa
