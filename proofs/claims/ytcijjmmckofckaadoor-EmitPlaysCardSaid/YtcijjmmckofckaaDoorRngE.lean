/- Ranges: a Builder in memory; its Mark, List. -/
import Derived.Test.YtcijjmmckofckaaDoorRngB
namespace Go.Proofs.YtcijjmmckofckaaDoor
open Go.ChangeShapes Go.WideShapes Go.ChangeAt Go.RowKit
set_option linter.unusedVariables false
set_option linter.unusedSimpArgs false

abbrev bdT : TypeId := 67

abbrev stT : TypeId := 34

theorem flat_take {α : Type} {f : α → List Value} {k : Nat} (hk : ∀ x, (f x).length = k) (l : List α) {m : Nat} (hm : m ≤ l.length) : (l.flatMap f).take (m * k) = (l.take m).flatMap f := by
  have e : (l.take m ++ l.drop m).flatMap f = (l.take m).flatMap f ++ (l.drop m).flatMap f := List.flatMap_append
  rw [List.take_append_drop] at e
  rw [e, List.take_append_of_le_length (by rw [flat_len hk, List.length_take]; exact Nat.mul_le_mul_right _ (by omega)), List.take_of_length_le (by rw [flat_len hk, List.length_take]; exact Nat.mul_le_mul_right _ (by omega))]

/-- The front of an own row. -/
theorem row_front {α : Type} {f : α → List Value} {k : Nat} (hk : ∀ x, (f x).length = k) {w : World} {B : Nat} {e : TypeId} {g c : Nat} {l : List α} {m : Nat} (h : w.ownsRow B e k (.slice (some ⟨g, 0, none⟩) l.length c) l.length (l.flatMap f)) (hm : m ≤ l.length) : w.ownsRow B e k (.slice (some ⟨g, 0, none⟩) m c) m ((l.take m).flatMap f) := by
  refine ⟨by rw [flat_len hk, List.length_take, Nat.min_eq_left hm], ?_⟩
  rcases h.2 with ⟨h1, _⟩ | ⟨g', cap, cur, h1, hB, hg, hcap, hx, hsz, htk⟩
  · cases h1
  · injection h1 with h1 _ h3
    injection h1 with h1
    injection h1 with h1 _ _
    subst h1 h3
    refine .inr ⟨g, c, cur, rfl, hB, hg, by omega, hx, hsz, ?_⟩
    rw [← flat_take hk l hm, ← htk, List.take_take, Nat.min_eq_left (Nat.mul_le_mul_right _ hm)]

theorem slice_front (g2 m n c : Nat) (h : m ≤ c) (hn : 0 < c) : ∀ W, (Instr.slice stT (.slice (some ⟨g2, 0, none⟩) n c) none (some (.int .i64 m)) none).run Tryd.prog W = .ok (.slice (some ⟨g2, 0, none⟩) m c) W := fun W => by
  have hs : Tryd.prog.underlying stT = some (.slice (Tryd.prog.elem stT)) := by kernel_rfl
  rw [run_slice_h W stT (some ⟨g2, 0, none⟩) n c hs .i64 m (by omega) (by omega)]
  have hz : (sizeOf (Tryd.prog.elem stT)).run Tryd.prog W = .ok 2 W := by simp [sizeOf, typeInfo, show Tryd.prog.info? (Tryd.prog.elem stT) = some Tryd.t91 from by kernel_rfl]; kernel_rfl
  rw [hz]
  simp [Result.andThen, sliced, Addr.add, show c ≠ 0 by omega]

/-- A Builder lies at block g, and holds these segments; h: the block of its own where they lie. -/
def BdAt (w : World) (B g : Nat) (h : Option Nat) (l : List Sg) : Prop := ∃ v, Whole w g bdT #[v] ∧ w.ownsRow B sgT 2 v l.length (l.flatMap sgCells) ∧ v.ownBlock = h ∧ B ≤ g

/-- What a Builder's call may change. -/
def BdS (g : Nat) (h : Option Nat) : Nat → Prop := fun b => b = g ∨ h = some b

/-- What a Builder's call leaves. -/
def BdPost (w w' : World) (B g : Nat) (h : Option Nat) (l : List Sg) : Prop := ∃ h', BdAt w' B g h' l ∧ KeptS (BdS g h) w w' ∧ (h' = h ∨ ∃ b, h' = some b ∧ w.heap.size ≤ b)

theorem BdAt.lt {w : World} {B g : Nat} {h : Option Nat} {l : List Sg} (hw : BdAt w B g h l) : g < w.heap.size := by
  obtain ⟨v, h1, _⟩ := hw
  exact h1.lt

theorem BdAt.own {w : World} {B g : Nat} {h : Option Nat} {l : List Sg} (hw : BdAt w B g h l) : B ≤ g ∧ ∀ b, h = some b → B ≤ b ∧ b < w.heap.size ∧ b ≠ g := by
  obtain ⟨v, h1, h2, rfl, hB⟩ := hw
  refine ⟨hB, fun b hb => ?_⟩
  obtain ⟨h4, h5, _⟩ := row_block h2 hb
  refine ⟨h4, h5, fun e => ?_⟩
  subst e
  have h3 : w.heap[b]? = some (.cells #[v] bdT (0, 0)) := h1
  exact row_ne h2 h3 (fun c fz e => by injection e with _ e _; exact absurd e (by decide)) hb

theorem BdAt.keep {S : Nat → Prop} {w w' : World} {B g : Nat} {h : Option Nat} {l : List Sg} (hw : BdAt w B g h l) (ks : KeptS S w w') (hg : ¬ S g) (hs : ∀ b, h = some b → ¬ S b) : BdAt w' B g h l := by
  obtain ⟨v, h1, h2, h3, hB⟩ := hw
  exact ⟨v, ks.whole h1 hg, ks.row h2 (fun b hb => hs b (h3 ▸ hb)), h3, hB⟩

theorem BdAt.below {w w' : World} {B g : Nat} {h : Option Nat} {l : List Sg} (hw : BdAt w B g h l) (hb : Below w.heap.size w w') : BdAt w' B g h l :=
  hw.keep (S := fun _ => False) (KeptS.ofBelow hb) (fun h => h) (fun _ _ h => h)

/-- What a Builder's call may change lies from B on. -/
theorem BdAt.from {w : World} {B g : Nat} {h : Option Nat} {l : List Sg} (hw : BdAt w B g h l) : ∀ b, BdS g h b → B ≤ b := by
  intro b hb
  rcases hb with rfl | hb
  · exact hw.own.1
  · exact (hw.own.2 b hb).1

/-- What a Builder's call leaves below B. -/
theorem BdPost.below {w w' : World} {B g : Nat} {h : Option Nat} {l l' : List Sg} (hw : BdAt w B g h l) (q : BdPost w w' B g h l') (hB : B ≤ w.heap.size) : Below B w w' := by
  obtain ⟨h', _, k, _⟩ := q
  exact KeptS.below (Below.refl B w) k hB hw.from

theorem bd_new (w : World) (B g : Nat) (hg : g = w.heap.size) (hB : B ≤ w.heap.size) : BdAt (w.alloc (.cells #[.slice none 0 0] bdT)) B g none [] :=
  ⟨_, Whole.made w bdT #[.slice none 0 0] g hg, row_nil _ _ _ _, rfl, by omega⟩

theorem mark_push {l : List Sg} {x p : Int} (h1 : ¬ (l ≠ [] ∧ x ≤ (lastS l).st)) (h2 : ¬ (l ≠ [] ∧ (lastS l).pd = p)) : markP l x p = l ++ [⟨x, p⟩] := by
  unfold markP
  rw [cut_no h1]
  exact if_neg h2

theorem mark_same {l : List Sg} {x p : Int} (h1 : ¬ (l ≠ [] ∧ x ≤ (lastS l).st)) (h2 : l ≠ [] ∧ (lastS l).pd = p) : markP l x p = l := by
  unfold markP
  rw [cut_no h1]
  exact if_pos h2

theorem mark_cut_push {l : List Sg} {x p : Int} (h1 : l ≠ [] ∧ x ≤ (lastS l).st) (h2 : ¬ (l.take (l.length - 1) ≠ [] ∧ (lastS (l.take (l.length - 1))).pd = p)) : markP l x p = l.take (l.length - 1) ++ [⟨(lastS l).st, p⟩] := by
  unfold markP
  rw [cut_yes h1]
  exact if_neg h2

theorem mark_cut_same {l : List Sg} {x p : Int} (h1 : l ≠ [] ∧ x ≤ (lastS l).st) (h2 : l.take (l.length - 1) ≠ [] ∧ (lastS (l.take (l.length - 1))).pd = p) : markP l x p = l.take (l.length - 1) := by
  unfold markP
  rw [cut_yes h1]
  exact if_pos h2

theorem last_at {l : List Sg} {m : Nat} (h : l.length = m + 1) : lastS l = l.getD m zSg := by
  unfold lastS
  rw [h, Nat.add_sub_cancel]

theorem last_take {l : List Sg} {m : Nat} (h : m + 1 ≤ l.length) : lastS (l.take (m + 1)) = l.getD m zSg := by
  rw [takeL l zSg (by omega)]
  exact lastS_snoc _ _

theorem ne_nil {l : List Sg} {m : Nat} (h : l.length = m + 1) : l ≠ [] := by
  intro e
  rw [e] at h
  cases h

theorem mark_len (l : List Sg) (x p : Int) : (markP l x p).length ≤ l.length + 1 := by
  by_cases h1 : l ≠ [] ∧ x ≤ (lastS l).st
  · by_cases h2 : l.take (l.length - 1) ≠ [] ∧ (lastS (l.take (l.length - 1))).pd = p
    · rw [mark_cut_same h1 h2, List.length_take]
      omega
    · rw [mark_cut_push h1 h2, List.length_append, List.length_take, List.length_singleton]
      omega
  · by_cases h2 : l ≠ [] ∧ (lastS l).pd = p
    · rw [mark_same h1 h2]
      omega
    · rw [mark_push h1 h2, List.length_append]
      simp

/-- The cells of a segment that was just made. -/
theorem sg_news (W : World) (y p : Int) : ∀ (j : Nat) u, (sgCells ⟨y, p⟩)[j]? = some u → (W.alloc (.cells #[.int .i64 y, .int .i64 p] sgT)).cell? ((⟨W.heap.size, 0, none⟩ : Addr).add j) = some u := fun j u hj => by
  rw [Go.WideShapes.add_plain, Nat.zero_add]
  exact ((Whole.made W sgT #[.int .i64 y, .int .i64 p] _ rfl).cell j).trans (by simpa [sgCells] using hj)

set_option maxHeartbeats 16000000 in
set_option maxRecDepth 100000 in
theorem mark_any (x pad : Int) (B g : Nat) (h : Option Nat) (l : List Sg) (w : World) (hw : BdAt w B g h l) (hB : B ≤ w.heap.size) (hn : l.length ≤ 1000000) :
    Calls Tryd.prog 57 #[.pointer (some ⟨g, 0, none⟩), .int .i64 x, .int .i64 pad] w fun e w' => e = .returned (.tuple #[]) ∧ BdPost w w' B g h (markP l x pad) := by
  obtain ⟨i0, hi, hz0, hz1, hz2⟩ := info_parts sgInfo
  obtain ⟨v, hW, hO, hHH, hBg⟩ := hw
  obtain ⟨A, c, rfl⟩ := row_form hO
  have HN := Lib.hid hn
  have HB := Lib.hid hB
  have NE := Lib.hid (show (Value.slice A l.length c).ownBlock ≠ some g from row_ne hO hW (fun c fz e => by injection e with _ e _; exact absurd e (by decide)))
  have c0 : w.cell? ⟨g, 0, none⟩ = some (.slice A l.length c) := hW.cell 0
  generalize hh : h = HH at *
  clear hh
  clear hn hB
  generalize hln : l.length = n at *
  rcases n with _ | m
  · have hl : l = [] := List.length_eq_zero_iff.1 hln
    have R := Lib.hid (show markP l x pad = l ++ [⟨x, pad⟩] from mark_push (fun h => h.1 hl) (fun h => h.1 hl))
    have LN := Lib.hid hln
    have VH := Lib.hid hHH
    have K0 := Lib.hid (show KeptS (BdS g HH) w w from KeptS.ofBelow (Below.refl _ _))
    have hW1 := hW
    have hO1 := hO
    clear hln hl hHH hW hO
    have WA := Lib.hid (hW1.alloc (.cells #[.int .i64 x, .int .i64 pad] sgT))
    have OA := Lib.hid (row_below hO1 ((Below.refl w.heap.size w).alloc (Nat.le_refl _) (.cells #[.int .i64 x, .int .i64 pad] sgT)))
    have NB := Lib.hid (sg_news w x pad)
    have BA := Lib.hid ((Below.refl w.heap.size w).alloc (Nat.le_refl _) (.cells #[.int .i64 x, .int .i64 pad] sgT))
    have GL := Lib.hid hW1.lt
    clear hW1 hO1
    go_enter Tryd.func57, Tryd.ntmps57
    go_wp2_with (at_builtin; refine wpList_append_own_at _ rfl _ _ stT rfl B sgT i0 _ 2 16 Tryd.underlying34 hi hz0 hz1 hz2 rfl (by decide) (.slice A 0 c) 0 (l.flatMap sgCells) rfl OA.out ⟨w.heap.size, 0, none⟩ 1 1 (sgCells ⟨x, pad⟩) rfl rfl NB.out (sg_one _) (by have := HN.out; unfold maxLen; omega) (by have := HN.out; omega) (Nat.le_trans HB.out (Nat.le_trans K0.out.size BA.out.size)) ?_; intro v3 w3 ho3 hg3 hnl hat; obtain ⟨A', c', rfl⟩ := row_form ho3; have G3 := Lib.hid hg3; have W3 := Lib.hid (show Whole w3 g bdT #[.slice A 0 c] from (hg3.block g WA.out.lt (fun e => NE.out e.symm)).trans WA.out); have O3 := Lib.hid ho3; have AT := Lib.hid hat; have d0 : w3.cell? ⟨g, 0, none⟩ = some (.slice A 0 c) := W3.out.cell 0; have f0 : w3.frozen? ⟨g, 0, none⟩ = false := W3.out.free 0; clear ho3 hg3 hat hnl)
    have WS := Lib.hid (show Whole (w3.setCell ⟨g, 0, none⟩ (.slice A' (0 + 1) c')) g bdT #[.slice A' (0 + 1) c'] from W3.out.store 0 _)
    have K1 : KeptS (BdS g HH) w (w.alloc (.cells #[.int .i64 x, .int .i64 pad] sgT)) := KeptS.ofBelow BA.out
    have K2 : KeptS (BdS g HH) (w.alloc (.cells #[.int .i64 x, .int .i64 pad] sgT)) w3 := KeptS.grown G3.out (fun b hb => .inr (VH.out.symm.trans hb))
    have K3 : KeptS (BdS g HH) w3 (w3.setCell ⟨g, 0, none⟩ (.slice A' (0 + 1) c')) := KeptS.set (.inl rfl)
    have KS := Lib.hid (((K0.out.trans K1 (fun i hi => .inl hi)).trans K2 (fun i hi => .inl hi)).trans K3 (fun i hi => .inl hi))
    have hn3 : (Value.slice A' (0 + 1) c').ownBlock ≠ some g := by
      rcases AT.out with e | e
      · rw [e]; exact NE.out
      · rw [e]
        intro e2
        injection e2 with e2
        have h6 := GL.out
        try simp only [World.setCell, Array.size_modify] at h6
        try simp [World.setCell] at h6
        simp [World.setCell] at e2
        omega
    have O4 := Lib.hid ((KeptS.set (S := fun b => b = g) (w := w3) (g := g) (j := 0) (u := .slice A' (0 + 1) c') rfl).row O3.out (fun b hb e => by subst e; exact hn3 hb))
    first | go_end0 | refine bodyPost_ret (results_none rfl _ _ _) rfl ?_
    refine ⟨rfl, _, ⟨_, WS.out, ?_, rfl, hBg⟩, KS.out, ?_⟩
    · rw [R.out, List.length_append, List.flatMap_append, List.flatMap_singleton, LN.out]
      exact O4.out
    · rcases AT.out with e | e
      · exact .inl (e.trans VH.out)
      · exact .inr ⟨_, e, by have := K0.out.size; simp <;> omega⟩
  obtain ⟨hcap, g2, rfl, hBg2, hg2, hcell⟩ := row_cell (f := sgCells) (fun _ => rfl) zSg hO hln (Nat.lt_succ_self m)
  have x0 : w.cell? ⟨g2, m * 2, none⟩ = some (.int .i64 (l.getD m zSg).st) := (hcell 0 (by decide)).1
  have x1 : w.cell? ⟨g2, m * 2 + 1, none⟩ = some (.int .i64 (l.getD m zSg).pd) := (hcell 1 (by decide)).1
  have LA := Lib.hid (last_at hln)
  have NN := Lib.hid (ne_nil hln)
  have dm : decide ((0 : Int) < (m : Int) + 1) = true := decide_eq_true (by omega)
  have hbm : m + 1 ≤ 1000000 := HN.out
  clear hcell
  by_cases hcut : x ≤ (l.getD m zSg).st
  case neg =>
    have dc : decide (x ≤ (l.getD m zSg).st) = false := decide_eq_false hcut
    have NC := Lib.hid (show ¬ (l ≠ [] ∧ x ≤ (lastS l).st) from fun h => hcut (by rw [← LA.out]; exact h.2))
    by_cases hp : (l.getD m zSg).pd = pad
    · have dp : ((l.getD m zSg).pd == pad) = true := beq_iff_eq.2 hp
      have R := Lib.hid (show markP l x pad = l from mark_same NC.out ⟨NN.out, by rw [LA.out]; exact hp⟩)
      generalize l.getD m zSg = s at *
      obtain ⟨st, pd⟩ := s
      simp only at x0 x1 dc dp
      have PA := Lib.hid (show BdAt w B g HH l from ⟨_, hW, by rw [hln]; exact hO, hHH, hBg⟩)
      clear hp hcut LA NC NN hln hHH hW hO
      go_enter Tryd.func57, Tryd.ntmps57
      go_wp2_with fail
      first | go_end0 | refine bodyPost_ret (results_none rfl _ _ _) rfl ?_
      refine ⟨rfl, HH, ?_, KeptS.ofBelow (Below.refl _ _), .inl rfl⟩
      rw [R.out]
      exact PA.out
    · have dp : ((l.getD m zSg).pd == pad) = false := beq_eq_false_iff_ne.2 hp
      have R := Lib.hid (show markP l x pad = l ++ [⟨x, pad⟩] from mark_push NC.out (fun h => hp (by rw [← LA.out]; exact h.2)))
      generalize l.getD m zSg = s at *
      obtain ⟨st, pd⟩ := s
      simp only at x0 x1 dc dp
      have LN := Lib.hid hln
      have VH := Lib.hid hHH
      have K0 := Lib.hid (show KeptS (BdS g HH) w w from KeptS.ofBelow (Below.refl _ _))
      have hW1 := hW
      have hO1 := hO
      clear hp hcut LA NC NN hln hHH hW hO
      have WA := Lib.hid (hW1.alloc (.cells #[.int .i64 x, .int .i64 pad] sgT))
      have OA := Lib.hid (row_below hO1 ((Below.refl w.heap.size w).alloc (Nat.le_refl _) (.cells #[.int .i64 x, .int .i64 pad] sgT)))
      have NB := Lib.hid (sg_news w x pad)
      have BA := Lib.hid ((Below.refl w.heap.size w).alloc (Nat.le_refl _) (.cells #[.int .i64 x, .int .i64 pad] sgT))
      have GL := Lib.hid hW1.lt
      clear hW1 hO1
      go_enter Tryd.func57, Tryd.ntmps57
      go_wp2_with (at_builtin; refine wpList_append_own_at _ rfl _ _ stT rfl B sgT i0 _ 2 16 Tryd.underlying34 hi hz0 hz1 hz2 rfl (by decide) (.slice (some ⟨g2, 0, none⟩) (m + 1) c) (m + 1) (l.flatMap sgCells) rfl OA.out ⟨w.heap.size, 0, none⟩ 1 1 (sgCells ⟨x, pad⟩) rfl rfl NB.out (sg_one _) (by have := HN.out; unfold maxLen; omega) (by have := HN.out; omega) (Nat.le_trans HB.out (Nat.le_trans K0.out.size BA.out.size)) ?_; intro v3 w3 ho3 hg3 hnl hat; obtain ⟨A', c', rfl⟩ := row_form ho3; have G3 := Lib.hid hg3; have W3 := Lib.hid (show Whole w3 g bdT #[.slice (some ⟨g2, 0, none⟩) (m + 1) c] from (hg3.block g WA.out.lt (fun e => NE.out e.symm)).trans WA.out); have O3 := Lib.hid ho3; have AT := Lib.hid hat; have d0 : w3.cell? ⟨g, 0, none⟩ = some (.slice (some ⟨g2, 0, none⟩) (m + 1) c) := W3.out.cell 0; have f0 : w3.frozen? ⟨g, 0, none⟩ = false := W3.out.free 0; clear ho3 hg3 hat hnl)
      have WS := Lib.hid (show Whole (w3.setCell ⟨g, 0, none⟩ (.slice A' ((m + 1) + 1) c')) g bdT #[.slice A' ((m + 1) + 1) c'] from W3.out.store 0 _)
      have K1 : KeptS (BdS g HH) w (w.alloc (.cells #[.int .i64 x, .int .i64 pad] sgT)) := KeptS.ofBelow BA.out
      have K2 : KeptS (BdS g HH) (w.alloc (.cells #[.int .i64 x, .int .i64 pad] sgT)) w3 := KeptS.grown G3.out (fun b hb => .inr (VH.out.symm.trans hb))
      have K3 : KeptS (BdS g HH) w3 (w3.setCell ⟨g, 0, none⟩ (.slice A' ((m + 1) + 1) c')) := KeptS.set (.inl rfl)
      have KS := Lib.hid (((K0.out.trans K1 (fun i hi => .inl hi)).trans K2 (fun i hi => .inl hi)).trans K3 (fun i hi => .inl hi))
      have hn3 : (Value.slice A' ((m + 1) + 1) c').ownBlock ≠ some g := by
        rcases AT.out with e | e
        · rw [e]; exact NE.out
        · rw [e]
          intro e2
          injection e2 with e2
          have h6 := GL.out
          try simp only [World.setCell, Array.size_modify] at h6
          try simp [World.setCell] at h6
          simp [World.setCell] at e2
          omega
      have O4 := Lib.hid ((KeptS.set (S := fun b => b = g) (w := w3) (g := g) (j := 0) (u := .slice A' ((m + 1) + 1) c') rfl).row O3.out (fun b hb e => by subst e; exact hn3 hb))
      first | go_end0 | refine bodyPost_ret (results_none rfl _ _ _) rfl ?_
      refine ⟨rfl, _, ⟨_, WS.out, ?_, rfl, hBg⟩, KS.out, ?_⟩
      · rw [R.out, List.length_append, List.flatMap_append, List.flatMap_singleton, LN.out]
        exact O4.out
      · rcases AT.out with e | e
        · exact .inl (e.trans VH.out)
        · exact .inr ⟨_, e, by have := K0.out.size; simp <;> omega⟩
  have dc : decide (x ≤ (l.getD m zSg).st) = true := decide_eq_true hcut
  have HC := Lib.hid (show l ≠ [] ∧ x ≤ (lastS l).st from ⟨NN.out, by rw [LA.out]; exact hcut⟩)
  have LT := Lib.hid (show l.take (l.length - 1) = l.take m by rw [hln, Nat.add_sub_cancel])
  have HSL := Lib.hid (slice_front g2 m (m + 1) c (by omega) (by omega))
  have f0 : w.frozen? ⟨g, 0, none⟩ = false := hW.free 0
  have gne : g2 ≠ g := fun e => NE.out (by rw [e]; rfl)
  have hO2 : w.ownsRow B sgT 2 (.slice (some ⟨g2, 0, none⟩) m c) m ((l.take m).flatMap sgCells) := row_front (f := sgCells) (k := 2) (l := l) (fun _ => rfl) (by rw [hln]; exact hO) (by omega)
  have hS : KeptS (fun b => b = g) w (w.setCell ⟨g, 0, none⟩ (.slice (some ⟨g2, 0, none⟩) m c)) := KeptS.set rfl
  have hO1 : (w.setCell ⟨g, 0, none⟩ (.slice (some ⟨g2, 0, none⟩) m c)).ownsRow B sgT 2 (.slice (some ⟨g2, 0, none⟩) m c) m ((l.take m).flatMap sgCells) := hS.row hO2 (fun b hb e => by subst e; exact NE.out hb)
  have hW1 : Whole (w.setCell ⟨g, 0, none⟩ (.slice (some ⟨g2, 0, none⟩) m c)) g bdT #[.slice (some ⟨g2, 0, none⟩) m c] := hW.store 0 _
  have K0 := Lib.hid (show KeptS (BdS g HH) w (w.setCell ⟨g, 0, none⟩ (.slice (some ⟨g2, 0, none⟩) m c)) from KeptS.set (.inl rfl))
  have LL := Lib.hid (show (l.take m).length = m by rw [List.length_take, hln]; omega)
  have VH := Lib.hid (show (Value.slice (some ⟨g2, 0, none⟩) m c).ownBlock = HH from hHH)
  rcases m with _ | k
  · have R := Lib.hid (show markP l x pad = l.take 0 ++ [⟨(l.getD 0 zSg).st, pad⟩] from by
      rw [mark_cut_push HC.out (fun h => by rw [LT.out] at h; exact h.1 rfl), LT.out, LA.out])
    generalize l.getD 0 zSg = s at *
    obtain ⟨st, pd⟩ := s
    have e0 : (w.setCell ⟨g, 0, none⟩ (.slice (some ⟨g2, 0, none⟩) 0 c)).cell? ⟨g, 0, none⟩ = some (.slice (some ⟨g2, 0, none⟩) 0 c) := hW1.cell 0
    have LN := Lib.hid LL.out
    have hsl : ∀ W, (Instr.slice stT (.slice (some ⟨g2, 0, none⟩) 1 c) none (some (.int .i64 0)) none).run Tryd.prog W = .ok (.slice (some ⟨g2, 0, none⟩) 0 c) W := HSL.out
    rw [Nat.zero_mul] at x0 x1
    simp only at x0 x1 dc R
    clear hcut LA NN hln hHH hW hO HC LT hO2 hS LL
    go_enter Tryd.func57, Tryd.ntmps57
    have WA := Lib.hid (hW1.alloc (.cells #[.int .i64 st, .int .i64 pad] sgT))
    have OA := Lib.hid (row_below hO1 ((Below.refl (w.setCell ⟨g, 0, none⟩ (.slice (some ⟨g2, 0, none⟩) 0 c)).heap.size (w.setCell ⟨g, 0, none⟩ (.slice (some ⟨g2, 0, none⟩) 0 c))).alloc (Nat.le_refl _) (.cells #[.int .i64 st, .int .i64 pad] sgT)))
    have NB := Lib.hid (sg_news (w.setCell ⟨g, 0, none⟩ (.slice (some ⟨g2, 0, none⟩) 0 c)) st pad)
    rw [show (w.setCell ⟨g, 0, none⟩ (.slice (some ⟨g2, 0, none⟩) 0 c)).heap.size = w.heap.size from by simp [World.setCell]] at NB
    have BA := Lib.hid ((Below.refl (w.setCell ⟨g, 0, none⟩ (.slice (some ⟨g2, 0, none⟩) 0 c)).heap.size (w.setCell ⟨g, 0, none⟩ (.slice (some ⟨g2, 0, none⟩) 0 c))).alloc (Nat.le_refl _) (.cells #[.int .i64 st, .int .i64 pad] sgT))
    have GL := Lib.hid hW1.lt
    clear hW1 hO1
    repeat (first | (go_big_may; first | (at_builtin; refine wpList_append_own_at _ rfl _ _ stT rfl B sgT i0 _ 2 16 Tryd.underlying34 hi hz0 hz1 hz2 rfl (by decide) (.slice (some ⟨g2, 0, none⟩) 0 c) 0 ((l.take 0).flatMap sgCells) rfl OA.out ⟨w.heap.size, 0, none⟩ 1 1 (sgCells ⟨st, pad⟩) rfl rfl NB.out (sg_one _) (by have := HN.out; unfold maxLen; omega) (by have := HN.out; omega) (Nat.le_trans HB.out (Nat.le_trans K0.out.size BA.out.size)) ?_; intro v3 w3 ho3 hg3 hnl hat; obtain ⟨A', c', rfl⟩ := row_form ho3; have G3 := Lib.hid hg3; have W3 := Lib.hid (show Whole w3 g bdT #[.slice (some ⟨g2, 0, none⟩) 0 c] from (hg3.block g WA.out.lt (fun e => NE.out e.symm)).trans WA.out); have O3 := Lib.hid ho3; have AT := Lib.hid hat; have d0 : w3.cell? ⟨g, 0, none⟩ = some (.slice (some ⟨g2, 0, none⟩) 0 c) := W3.out.cell 0; have f0 : w3.frozen? ⟨g, 0, none⟩ = false := W3.out.free 0; clear ho3 hg3 hat hnl)) | go_values | go_skip | go_guarded | go_step | go_upon)
    have WS := Lib.hid (show Whole (w3.setCell ⟨g, 0, none⟩ (.slice A' (0 + 1) c')) g bdT #[.slice A' (0 + 1) c'] from W3.out.store 0 _)
    have K1 : KeptS (BdS g HH) (w.setCell ⟨g, 0, none⟩ (.slice (some ⟨g2, 0, none⟩) 0 c)) ((w.setCell ⟨g, 0, none⟩ (.slice (some ⟨g2, 0, none⟩) 0 c)).alloc (.cells #[.int .i64 st, .int .i64 pad] sgT)) := KeptS.ofBelow BA.out
    have K2 : KeptS (BdS g HH) ((w.setCell ⟨g, 0, none⟩ (.slice (some ⟨g2, 0, none⟩) 0 c)).alloc (.cells #[.int .i64 st, .int .i64 pad] sgT)) w3 := KeptS.grown G3.out (fun b hb => .inr (VH.out.symm.trans hb))
    have K3 : KeptS (BdS g HH) w3 (w3.setCell ⟨g, 0, none⟩ (.slice A' (0 + 1) c')) := KeptS.set (.inl rfl)
    have KS := Lib.hid (((K0.out.trans K1 (fun i hi => .inl hi)).trans K2 (fun i hi => .inl hi)).trans K3 (fun i hi => .inl hi))
    have hn3 : (Value.slice A' (0 + 1) c').ownBlock ≠ some g := by
      rcases AT.out with e | e
      · rw [e]; exact NE.out
      · rw [e]
        intro e2
        injection e2 with e2
        have h6 := GL.out
        try simp only [World.setCell, Array.size_modify] at h6
        try simp [World.setCell] at h6
        simp [World.setCell] at e2
        omega
    have O4 := Lib.hid ((KeptS.set (S := fun b => b = g) (w := w3) (g := g) (j := 0) (u := .slice A' (0 + 1) c') rfl).row O3.out (fun b hb e => by subst e; exact hn3 hb))
    first | go_end0 | refine bodyPost_ret (results_none rfl _ _ _) rfl ?_
    refine ⟨rfl, _, ⟨_, WS.out, ?_, rfl, hBg⟩, KS.out, ?_⟩
    · rw [R.out, List.length_append, List.flatMap_append, List.flatMap_singleton, LN.out]
      exact O4.out
    · rcases AT.out with e | e
      · exact .inl (e.trans VH.out)
      · exact .inr ⟨_, e, by have := K0.out.size; simp <;> omega⟩
  · have hk : k < l.length := by omega
    have hsl : ∀ W, (Instr.slice stT (.slice (some ⟨g2, 0, none⟩) (k + 1 + 1) c) none (some (.int .i64 ((k : Int) + 1))) none).run Tryd.prog W = .ok (.slice (some ⟨g2, 0, none⟩) (k + 1) c) W := HSL.out
    have LA2 := Lib.hid (last_take (l := l) (m := k) (by omega))
    have NN2 := Lib.hid (show l.take (k + 1) ≠ [] from ne_nil LL.out)
    obtain ⟨_, g3, e3, _, _, hcell⟩ := row_cell (f := sgCells) (fun _ => rfl) zSg hO2 LL.out (Nat.lt_succ_self k)
    injection e3 with e3
    injection e3 with e3 _ _
    subst e3
    have hgk : (l.take (k + 1)).getD k zSg = l.getD k zSg := by simp [List.getD_eq_getElem?_getD, List.getElem?_take]
    rw [hgk] at hcell
    have p1 : (w.setCell ⟨g, 0, none⟩ (.slice (some ⟨g2, 0, none⟩) (k + 1) c)).cell? ⟨g2, k * 2 + 1, none⟩ = some (.int .i64 (l.getD k zSg).pd) := hS.cell (hcell 1 (by decide)).1 gne
    have e0 : (w.setCell ⟨g, 0, none⟩ (.slice (some ⟨g2, 0, none⟩) (k + 1) c)).cell? ⟨g, 0, none⟩ = some (.slice (some ⟨g2, 0, none⟩) (k + 1) c) := hW1.cell 0
    have dk : decide ((0 : Int) < (k : Int) + 1) = true := decide_eq_true (by omega)
    clear hcell hgk
    by_cases hp : (l.getD k zSg).pd = pad
    · have dp : ((l.getD k zSg).pd == pad) = true := beq_iff_eq.2 hp
      have R := Lib.hid (show markP l x pad = l.take (k + 1) from by
        rw [mark_cut_same HC.out (by rw [LT.out]; exact ⟨NN2.out, by rw [LA2.out]; exact hp⟩), LT.out])
      generalize (l.getD k zSg).pd = ppd at *
      generalize l.getD (k + 1) zSg = s at *
      obtain ⟨st, pd⟩ := s
      simp only at x0 x1 dc
      have PA := Lib.hid (show BdAt (w.setCell ⟨g, 0, none⟩ (.slice (some ⟨g2, 0, none⟩) (k + 1) c)) B g HH (l.take (k + 1)) from ⟨_, hW1, by rw [LL.out]; exact hO1, VH.out, hBg⟩)
      clear hp hcut LA NN hln hHH hW hO HC LT hO2 hS LL LA2 NN2 hW1 hO1 hk
      go_enter Tryd.func57, Tryd.ntmps57
      repeat (first | go_values | go_skip | go_guarded | go_step | go_upon)
      first | go_end0 | refine bodyPost_ret (results_none rfl _ _ _) rfl ?_
      refine ⟨rfl, HH, ?_, K0.out, .inl rfl⟩
      rw [R.out]
      exact PA.out
    · have dp : ((l.getD k zSg).pd == pad) = false := beq_eq_false_iff_ne.2 hp
      have R := Lib.hid (show markP l x pad = l.take (k + 1) ++ [⟨(l.getD (k + 1) zSg).st, pad⟩] from by
        rw [mark_cut_push HC.out (fun h => by rw [LT.out] at h; exact hp (by rw [← LA2.out]; exact h.2)), LT.out, LA.out])
      generalize (l.getD k zSg).pd = ppd at *
      generalize l.getD (k + 1) zSg = s at *
      obtain ⟨st, pd⟩ := s
      simp only at x0 x1 dc R
      have LN := Lib.hid LL.out
      clear hp hcut LA NN hln hHH hW hO HC LT hO2 hS LL LA2 NN2 hk
      go_enter Tryd.func57, Tryd.ntmps57
      have WA := Lib.hid (hW1.alloc (.cells #[.int .i64 st, .int .i64 pad] sgT))
      have OA := Lib.hid (row_below hO1 ((Below.refl (w.setCell ⟨g, 0, none⟩ (.slice (some ⟨g2, 0, none⟩) (k + 1) c)).heap.size (w.setCell ⟨g, 0, none⟩ (.slice (some ⟨g2, 0, none⟩) (k + 1) c))).alloc (Nat.le_refl _) (.cells #[.int .i64 st, .int .i64 pad] sgT)))
      have NB := Lib.hid (sg_news (w.setCell ⟨g, 0, none⟩ (.slice (some ⟨g2, 0, none⟩) (k + 1) c)) st pad)
      rw [show (w.setCell ⟨g, 0, none⟩ (.slice (some ⟨g2, 0, none⟩) (k + 1) c)).heap.size = w.heap.size from by simp [World.setCell]] at NB
      have BA := Lib.hid ((Below.refl (w.setCell ⟨g, 0, none⟩ (.slice (some ⟨g2, 0, none⟩) (k + 1) c)).heap.size (w.setCell ⟨g, 0, none⟩ (.slice (some ⟨g2, 0, none⟩) (k + 1) c))).alloc (Nat.le_refl _) (.cells #[.int .i64 st, .int .i64 pad] sgT))
      have GL := Lib.hid hW1.lt
      clear hW1 hO1
      repeat (first | (go_big_may; first | (at_builtin; refine wpList_append_own_at _ rfl _ _ stT rfl B sgT i0 _ 2 16 Tryd.underlying34 hi hz0 hz1 hz2 rfl (by decide) (.slice (some ⟨g2, 0, none⟩) (k + 1) c) (k + 1) ((l.take (k + 1)).flatMap sgCells) rfl OA.out ⟨w.heap.size, 0, none⟩ 1 1 (sgCells ⟨st, pad⟩) rfl rfl NB.out (sg_one _) (by have := HN.out; unfold maxLen; omega) (by have := HN.out; omega) (Nat.le_trans HB.out (Nat.le_trans K0.out.size BA.out.size)) ?_; intro v3 w3 ho3 hg3 hnl hat; obtain ⟨A', c', rfl⟩ := row_form ho3; have G3 := Lib.hid hg3; have W3 := Lib.hid (show Whole w3 g bdT #[.slice (some ⟨g2, 0, none⟩) (k + 1) c] from (hg3.block g WA.out.lt (fun e => NE.out e.symm)).trans WA.out); have O3 := Lib.hid ho3; have AT := Lib.hid hat; have d0 : w3.cell? ⟨g, 0, none⟩ = some (.slice (some ⟨g2, 0, none⟩) (k + 1) c) := W3.out.cell 0; have f0 : w3.frozen? ⟨g, 0, none⟩ = false := W3.out.free 0; clear ho3 hg3 hat hnl)) | go_values | go_skip | go_guarded | go_step | go_upon)
      have WS := Lib.hid (show Whole (w3.setCell ⟨g, 0, none⟩ (.slice A' ((k + 1) + 1) c')) g bdT #[.slice A' ((k + 1) + 1) c'] from W3.out.store 0 _)
      have K1 : KeptS (BdS g HH) (w.setCell ⟨g, 0, none⟩ (.slice (some ⟨g2, 0, none⟩) (k + 1) c)) ((w.setCell ⟨g, 0, none⟩ (.slice (some ⟨g2, 0, none⟩) (k + 1) c)).alloc (.cells #[.int .i64 st, .int .i64 pad] sgT)) := KeptS.ofBelow BA.out
      have K2 : KeptS (BdS g HH) ((w.setCell ⟨g, 0, none⟩ (.slice (some ⟨g2, 0, none⟩) (k + 1) c)).alloc (.cells #[.int .i64 st, .int .i64 pad] sgT)) w3 := KeptS.grown G3.out (fun b hb => .inr (VH.out.symm.trans hb))
      have K3 : KeptS (BdS g HH) w3 (w3.setCell ⟨g, 0, none⟩ (.slice A' ((k + 1) + 1) c')) := KeptS.set (.inl rfl)
      have KS := Lib.hid (((K0.out.trans K1 (fun i hi => .inl hi)).trans K2 (fun i hi => .inl hi)).trans K3 (fun i hi => .inl hi))
      have hn3 : (Value.slice A' ((k + 1) + 1) c').ownBlock ≠ some g := by
        rcases AT.out with e | e
        · rw [e]; exact NE.out
        · rw [e]
          intro e2
          injection e2 with e2
          have h6 := GL.out
          try simp only [World.setCell, Array.size_modify] at h6
          try simp [World.setCell] at h6
          simp [World.setCell] at e2
          omega
      have O4 := Lib.hid ((KeptS.set (S := fun b => b = g) (w := w3) (g := g) (j := 0) (u := .slice A' ((k + 1) + 1) c') rfl).row O3.out (fun b hb e => by subst e; exact hn3 hb))
      first | go_end0 | refine bodyPost_ret (results_none rfl _ _ _) rfl ?_
      refine ⟨rfl, _, ⟨_, WS.out, ?_, rfl, hBg⟩, KS.out, ?_⟩
      · rw [R.out, List.length_append, List.flatMap_append, List.flatMap_singleton, LN.out]
        exact O4.out
      · rcases AT.out with e | e
        · exact .inl (e.trans VH.out)
        · exact .inr ⟨_, e, by have := K0.out.size; simp <;> omega⟩

set_option maxHeartbeats 16000000 in
set_option maxRecDepth 100000 in
theorem list_any (B g : Nat) (h : Option Nat) (l : List Sg) (w : World) (hw : BdAt w B g h l) (hn : l.length ≤ 1000000) :
    Calls Tryd.prog 55 #[.pointer (some ⟨g, 0, none⟩)] w fun e w' => ∃ v', e = .returned v' ∧ Below w.heap.size w w' ∧ w'.ownsRow w.heap.size sgT 2 v' l.length (l.flatMap sgCells) := by
  obtain ⟨v, hW, hO, rfl, hBg⟩ := hw
  have c0 : w.cell? ⟨g, 0, none⟩ = some v := hW.cell 0
  have CL := Lib.hid (sgclone_any v w.heap.size l w (LstV.own (k := 2) (fun _ => rfl) (by decide) zSg hO) (by omega))
  obtain ⟨A, c, rfl⟩ := row_form hO
  clear hW hO hn
  go_enter Tryd.func55, Tryd.ntmps55
  go_wp2_with fail
  refine CL.out.mono ?_
  rintro e w1 ⟨v', rfl, hb, ho⟩
  obtain ⟨A2, c2, rfl⟩ := row_form ho
  have HB := Lib.hid hb
  have HO := Lib.hid ho
  clear hb ho
  go_wp2_with fail
  go_ret
  exact ⟨_, rfl, HB.out, HO.out⟩
end Go.Proofs.YtcijjmmckofckaaDoor
