/- Emit: the answers' Patch. -/
import Derived.Test.YtcijjmmckofckaaDoorEmtR
import Derived.Test.YtcijjmmckofckaaDoorEmtG
namespace Go.Proofs.YtcijjmmckofckaaDoor
open Go.ChangeShapes Go.WideShapes Go.ChangeAt Go.RowKit
set_option linter.unusedVariables false
set_option linter.unusedSimpArgs false

/-- Cells set one behind the other. -/
def msetL : List Value → Nat → List Value → List Value
  | xs, _, [] => xs
  | xs, o, v :: r => msetL (xs.set o v) (o + 1) r

theorem mset_at : ∀ (vs xs : List Value) (o j : Nat), o + vs.length ≤ xs.length → (msetL xs o vs)[j]? = if o ≤ j ∧ j < o + vs.length then vs[j - o]? else xs[j]?
  | [], xs, o, j, _ => by
    rw [if_neg (by rw [List.length_nil]; omega)]
    rfl
  | v :: r, xs, o, j, h => by
    rw [List.length_cons] at h
    rw [msetL, mset_at r (xs.set o v) (o + 1) j (by rw [List.length_set]; omega), List.length_cons]
    by_cases h1 : o + 1 ≤ j ∧ j < o + 1 + r.length
    · rw [if_pos h1, if_pos (by omega), show j - o = (j - (o + 1)) + 1 by omega]
      rfl
    · rw [if_neg h1]
      by_cases h2 : j = o
      · subst h2
        rw [if_pos (by omega), List.getElem?_set_self (by omega), Nat.sub_self]
        rfl
      · rw [if_neg (by omega), List.getElem?_set_ne (fun e => h2 e.symm)]

theorem mset_len : ∀ (vs xs : List Value) (o : Nat), (msetL xs o vs).length = xs.length
  | [], _, _ => rfl
  | v :: r, xs, o => by rw [msetL, mset_len r, List.length_set]

theorem mset_flat {α : Type} {f : α → List Value} {k : Nat} (hk : ∀ x, (f x).length = k) (h0 : 0 < k) (d y : α) (l : List α) {t : Nat} (ht : t < l.length) : msetL (l.flatMap f) (t * k) (f y) = (l.set t y).flatMap f := by
  have hL := flat_len (f := f) hk l
  have hL' := flat_len (f := f) hk (l.set t y)
  rw [List.length_set] at hL'
  have hb : t * k + k ≤ l.length * k := by
    have := Nat.mul_le_mul_right k (show t + 1 ≤ l.length from ht)
    rw [Nat.succ_mul] at this
    exact this
  apply List.ext_getElem?
  intro j
  rw [mset_at _ _ _ _ (by rw [hL, hk]; exact hb), hk]
  by_cases hj : j < l.length * k
  · have hr := Nat.mod_lt j h0
    have hd := Nat.div_add_mod j k
    have hq : j / k < l.length := Nat.div_lt_of_lt_mul (by rw [Nat.mul_comm]; exact hj)
    have ej : j = j / k * k + j % k := by rw [Nat.mul_comm]; exact hd.symm
    generalize j / k = q at *
    generalize j % k = r at *
    subst ej
    rw [flat_at f k hk d (l.set t y) q r (by rw [List.length_set]; exact hq) hr]
    by_cases e : q = t
    · subst e
      rw [if_pos (by omega), show (l.set q y).getD q d = y by simp [List.getD, hq], Nat.add_sub_cancel_left]
    · have hne : ¬ (t * k ≤ q * k + r ∧ q * k + r < t * k + k) := by
        rintro ⟨h1, h2⟩
        rcases Nat.lt_or_gt_of_ne e with h3 | h3
        · have := Nat.mul_le_mul_right k (show q + 1 ≤ t from h3)
          rw [Nat.succ_mul] at this
          omega
        · have := Nat.mul_le_mul_right k (show t + 1 ≤ q from h3)
          rw [Nat.succ_mul] at this
          omega
      rw [if_neg hne, flat_at f k hk d l q r hq hr]
      rw [List.getD_eq_getElem?_getD, List.getD_eq_getElem?_getD, List.getElem?_set, if_neg (fun h => e h.symm)]
  · rw [if_neg (by omega), List.getElem?_eq_none (by omega), List.getElem?_eq_none (by omega)]

theorem row_mset {B : Nat} {e : TypeId} {sz n c g : Nat} : ∀ (vs : List Value) (o : Nat) (w : World) (xs : List Value), w.ownsRow B e sz (.slice (some ⟨g, 0, none⟩) n c) n xs → (w.setCells g o vs).ownsRow B e sz (.slice (some ⟨g, 0, none⟩) n c) n (msetL xs o vs)
  | [], _, _, _, h => h
  | v :: r, o, w, xs, h => by
    rw [World.setCells, msetL]
    exact row_mset r (o + 1) _ _ (row_set h v)

theorem kept_cells17 {S : Nat → Prop} {g : Nat} (hS : S g) : ∀ (vs : List Value) (o : Nat) (w : World), KeptS S w (w.setCells g o vs)
  | [], _, w => KeptS.ofBelow (Below.refl _ _)
  | v :: r, o, w => by
    rw [World.setCells]
    exact (KeptS.set hS).trans (kept_cells17 hS r (o + 1) _) (fun _ h => .inl h)

theorem there_row17 {α : Type} {f : α → List Value} {k : Nat} (hk : ∀ x, (f x).length = k) (d : α) {w : World} {B : Nat} {e : TypeId} {g c : Nat} {l : List α} (h : w.ownsRow B e k (.slice (some ⟨g, 0, none⟩) l.length c) l.length (l.flatMap f)) {t : Nat} (ht : t < l.length) : w.there g (t * k) k := by
  obtain ⟨_, g', hA, _, _, hc⟩ := row_cell (f := f) hk d h rfl ht
  injection hA with hA
  injection hA with hA _ _
  subst hA
  exact fun j hj => ⟨by rw [(hc j hj).1, List.getElem?_eq_getElem (by rw [hk]; exact hj)]; rfl, (hc j hj).2⟩

theorem rown_some17 {w : World} {B : Nat} {e : TypeId} {sz : Nat} {v : Value} {n : Nat} {xs : List Value} (h : w.ownsRow B e sz v n xs) (hn : 0 < n) : ∃ g c, v = .slice (some ⟨g, 0, none⟩) n c := by
  rcases h.2 with ⟨_, h2⟩ | ⟨g, cap, cur, h1, _⟩
  · omega
  · exact ⟨g, cap, h1⟩

theorem Bx3.later {w W W' : World} {t0 t1 t2 : TypeId} {d0 d1 d2 : Array Value} {S : Nat → Prop} (h : Bx3 w W t0 t1 t2 d0 d1 d2) (K : KeptS S W W') (hS : ∀ b, S b → w.heap.size + 3 ≤ b) : Bx3 w W' t0 t1 t2 d0 d1 d2 :=
  ⟨KeptS.below h.b K h.b.size (fun b hb => by have := hS b hb; omega), K.whole h.x0 (fun e => by have := hS _ e; omega), K.whole h.x1 (fun e => by have := hS _ e; omega), K.whole h.x2 (fun e => by have := hS _ e; omega)⟩

set_option maxHeartbeats 16000000 in
set_option maxRecDepth 100000 in
theorem refpatch_bad (x n : Int) (T : Nat → Prop) (N : Nat) (m : Em) (AL : Option Addr) (cL : Nat) (AG : Option Addr) (cG : Nat) (AF : Option Addr) (cF : Nat) (AP : Option Addr) (cP : Nat) (AA : Option Addr) (cA : Nat) (gl pl al : List Int) (w : World) (h : RfR w T N m AL cL AG cG AF cF AP cP AA cA gl pl al) (hT : ∀ b, T b → b < w.heap.size) (hN : N ≤ 100000) (hx : x < 0 ∨ (m.L.length : Int) ≤ x) :
    Calls Tryd.prog 38 #[.agg #[.slice AL m.L.length cL, .slice AG gl.length cG, .slice AF m.fx.length cF, .slice AP pl.length cP, .slice AA al.length cA, .int .i64 m.dep, .int .i64 m.most, .int .i64 m.err], .int .i64 x, .int .i64 n] w (RfP T N w (patchE m x n)) := by
  have PE := Lib.hid (show patchE m x n = failE m 52 from if_pos hx)
  have b1 := (Below.refl w.heap.size w).alloc (Nat.le_refl _) (.cells #[.slice AL m.L.length cL, .slice AG gl.length cG, .slice AF m.fx.length cF, .slice AP pl.length cP, .slice AA al.length cA, .int .i64 m.dep, .int .i64 m.most, .int .i64 m.err] rfT)
  have BX := Lib.hid (show Bx2 w ((w.alloc (.cells #[.slice AL m.L.length cL, .slice AG gl.length cG, .slice AF m.fx.length cF, .slice AP pl.length cP, .slice AA al.length cA, .int .i64 m.dep, .int .i64 m.most, .int .i64 m.err] rfT)).alloc (.cells #[.slice none 0 0, .slice none 0 0, .slice none 0 0, .slice none 0 0, .slice none 0 0, .int .i64 0, .int .i64 0, .int .i64 0] rfT)) rfT rfT #[.slice AL m.L.length cL, .slice AG gl.length cG, .slice AF m.fx.length cF, .slice AP pl.length cP, .slice AA al.length cA, .int .i64 m.dep, .int .i64 m.most, .int .i64 m.err] #[.slice none 0 0, .slice none 0 0, .slice none 0 0, .slice none 0 0, .slice none 0 0, .int .i64 0, .int .i64 0, .int .i64 0] from ⟨b1.alloc b1.size (.cells #[.slice none 0 0, .slice none 0 0, .slice none 0 0, .slice none 0 0, .slice none 0 0, .int .i64 0, .int .i64 0, .int .i64 0] rfT), (Whole.made w rfT #[.slice AL m.L.length cL, .slice AG gl.length cG, .slice AF m.fx.length cF, .slice AP pl.length cP, .slice AA al.length cA, .int .i64 m.dep, .int .i64 m.most, .int .i64 m.err] _ rfl).alloc _, Whole.made (w.alloc (.cells #[.slice AL m.L.length cL, .slice AG gl.length cG, .slice AF m.fx.length cF, .slice AP pl.length cP, .slice AA al.length cA, .int .i64 m.dep, .int .i64 m.most, .int .i64 m.err] rfT)) rfT #[.slice none 0 0, .slice none 0 0, .slice none 0 0, .slice none 0 0, .slice none 0 0, .int .i64 0, .int .i64 0, .int .i64 0] _ (by simp)⟩)
  have HR := Lib.hid ((h.boxed 2).below BX.out.b)
  have HN := Lib.hid hN
  have HT0 := Lib.hid hT
  have S8 : (Tryd.prog.info? rfT).map (·.size) = some 8 := by kernel_rfl
  clear h hT hN b1
  have FE := Lib.hid (reffail_any 52 (fun b => T b ∨ (w.heap.size ≤ b ∧ b < w.heap.size + 2)) N m AL cL AG cG AF cF AP cP AA cA gl pl al ((w.alloc (.cells #[.slice AL m.L.length cL, .slice AG gl.length cG, .slice AF m.fx.length cF, .slice AP pl.length cP, .slice AA al.length cA, .int .i64 m.dep, .int .i64 m.most, .int .i64 m.err] rfT)).alloc (.cells #[.slice none 0 0, .slice none 0 0, .slice none 0 0, .slice none 0 0, .slice none 0 0, .int .i64 0, .int .i64 0, .int .i64 0] rfT)) HR.out (fun b hb => by
    have h1 := BX.out.x1.lt
    rcases hb with hb | hb
    · have := HT0.out b hb
      have := BX.out.x0.lt
      omega
    · omega) HN.out)
  generalize hm9 : failE m 52 = m9 at FE
  have M9 := Lib.hid hm9
  clear hm9
  obtain ⟨a0, a1, a2, a3, a4, a5, a6, a7⟩ := cells8 BX.out.x0
  by_cases h0 : x < 0
  case pos =>
    have d0 : decide (x < 0) = true := decide_eq_true h0
    clear hx h0
    go_enter Tryd.func38, Tryd.ntmps38
    go_wp2_with fail
    generalize ((w.alloc (.cells #[.slice AL m.L.length cL, .slice AG gl.length cG, .slice AF m.fx.length cF, .slice AP pl.length cP, .slice AA al.length cA, .int .i64 m.dep, .int .i64 m.most, .int .i64 m.err] rfT)).alloc (.cells #[.slice none 0 0, .slice none 0 0, .slice none 0 0, .slice none 0 0, .slice none 0 0, .int .i64 0, .int .i64 0, .int .i64 0] rfT)) = V at *
    refine FE.out.mono ?_
    rintro e y1 ⟨AL9, cL9, AG9, cG9, AF9, cF9, AP9, cP9, AA9, cA9, gl9, pl9, al9, rfl, hr9, hb9⟩
    have BE := Lib.hid (BX.out.below hb9)
    have RE := Lib.hid hr9
    have H1 := Lib.hid (show (#[.slice AL9 m9.L.length cL9, .slice AG9 gl9.length cG9, .slice AF9 m9.fx.length cF9, .slice AP9 pl9.length cP9, .slice AA9 al9.length cA9, .int .i64 m9.dep, .int .i64 m9.most, .int .i64 m9.err] : Array Value).all (·.oneCell') = true from by simp [Value.oneCell'])
    clear hb9 hr9 FE a0 a1 a2 a3 a4 a5 a6 a7
    simp only []
    go_at_K
    repeat (first | (go_big_may; first | (refine wpList_store_row rfl rfT (.tmp 6) (.tmp 19) rfl (w.heap.size + 1) #[.slice AL9 m9.L.length cL9, .slice AG9 gl9.length cG9, .slice AF9 m9.fx.length cF9, .slice AP9 pl9.length cP9, .slice AA9 al9.length cA9, .int .i64 m9.dep, .int .i64 m9.most, .int .i64 m9.err] rfl rfl rfT #[.slice none 0 0, .slice none 0 0, .slice none 0 0, .slice none 0 0, .slice none 0 0, .int .i64 0, .int .i64 0, .int .i64 0] BE.out.x1 S8 rfl H1.out ?_; generalize hZZ : (y1).setRow (w.heap.size + 1) #[.slice AL9 m9.L.length cL9, .slice AG9 gl9.length cG9, .slice AF9 m9.fx.length cF9, .slice AP9 pl9.length cP9, .slice AA9 al9.length cA9, .int .i64 m9.dep, .int .i64 m9.most, .int .i64 m9.err] = ZZ; have HZZ := Lib.hid hZZ; clear hZZ)) | go_values | go_skip | go_guarded | go_step | go_upon)
    have RZ := Lib.hid (HZZ.out ▸ (RE.out.later (BE.out.kept1 #[.slice AL9 m9.L.length cL9, .slice AG9 gl9.length cG9, .slice AF9 m9.fx.length cF9, .slice AP9 pl9.length cP9, .slice AA9 al9.length cA9, .int .i64 m9.dep, .int .i64 m9.most, .int .i64 m9.err]) (fun b hb => .inr hb)))
    have BZ := Lib.hid (HZZ.out ▸ BE.out.row1 #[.slice AL9 m9.L.length cL9, .slice AG9 gl9.length cG9, .slice AF9 m9.fx.length cF9, .slice AP9 pl9.length cP9, .slice AA9 al9.length cA9, .int .i64 m9.dep, .int .i64 m9.most, .int .i64 m9.err])
    rw [PE.out, M9.out]
    obtain ⟨z0, z1, z2, z3, z4, z5, z6, z7⟩ := cells8 BZ.out.x1
    refine bodyPost_ret (v := .agg #[.slice AL9 m9.L.length cL9, .slice AG9 gl9.length cG9, .slice AF9 m9.fx.length cF9, .slice AP9 pl9.length cP9, .slice AA9 al9.length cA9, .int .i64 m9.dep, .int .i64 m9.most, .int .i64 m9.err]) ?_ rfl ⟨AL9, cL9, AG9, cG9, AF9, cF9, AP9, cP9, AA9, cA9, gl9, pl9, al9, rfl, RZ.out.less (fun b hb => .inl hb), BZ.out.b⟩
    simp [results, Tryd.results38, go_sem, z0, z1, z2, z3, z4, z5, z6, z7]
  case neg =>
    have d0 : decide (x < 0) = false := decide_eq_false h0
    have d1 : decide ((m.L.length : Int) ≤ x) = true := decide_eq_true (by omega)
    clear hx h0
    go_enter Tryd.func38, Tryd.ntmps38
    go_wp2_with fail
    generalize ((w.alloc (.cells #[.slice AL m.L.length cL, .slice AG gl.length cG, .slice AF m.fx.length cF, .slice AP pl.length cP, .slice AA al.length cA, .int .i64 m.dep, .int .i64 m.most, .int .i64 m.err] rfT)).alloc (.cells #[.slice none 0 0, .slice none 0 0, .slice none 0 0, .slice none 0 0, .slice none 0 0, .int .i64 0, .int .i64 0, .int .i64 0] rfT)) = V at *
    refine FE.out.mono ?_
    rintro e y1 ⟨AL9, cL9, AG9, cG9, AF9, cF9, AP9, cP9, AA9, cA9, gl9, pl9, al9, rfl, hr9, hb9⟩
    have BE := Lib.hid (BX.out.below hb9)
    have RE := Lib.hid hr9
    have H1 := Lib.hid (show (#[.slice AL9 m9.L.length cL9, .slice AG9 gl9.length cG9, .slice AF9 m9.fx.length cF9, .slice AP9 pl9.length cP9, .slice AA9 al9.length cA9, .int .i64 m9.dep, .int .i64 m9.most, .int .i64 m9.err] : Array Value).all (·.oneCell') = true from by simp [Value.oneCell'])
    clear hb9 hr9 FE a0 a1 a2 a3 a4 a5 a6 a7
    simp only []
    go_at_K
    repeat (first | (go_big_may; first | (refine wpList_store_row rfl rfT (.tmp 6) (.tmp 19) rfl (w.heap.size + 1) #[.slice AL9 m9.L.length cL9, .slice AG9 gl9.length cG9, .slice AF9 m9.fx.length cF9, .slice AP9 pl9.length cP9, .slice AA9 al9.length cA9, .int .i64 m9.dep, .int .i64 m9.most, .int .i64 m9.err] rfl rfl rfT #[.slice none 0 0, .slice none 0 0, .slice none 0 0, .slice none 0 0, .slice none 0 0, .int .i64 0, .int .i64 0, .int .i64 0] BE.out.x1 S8 rfl H1.out ?_; generalize hZZ : (y1).setRow (w.heap.size + 1) #[.slice AL9 m9.L.length cL9, .slice AG9 gl9.length cG9, .slice AF9 m9.fx.length cF9, .slice AP9 pl9.length cP9, .slice AA9 al9.length cA9, .int .i64 m9.dep, .int .i64 m9.most, .int .i64 m9.err] = ZZ; have HZZ := Lib.hid hZZ; clear hZZ)) | go_values | go_skip | go_guarded | go_step | go_upon)
    have RZ := Lib.hid (HZZ.out ▸ (RE.out.later (BE.out.kept1 #[.slice AL9 m9.L.length cL9, .slice AG9 gl9.length cG9, .slice AF9 m9.fx.length cF9, .slice AP9 pl9.length cP9, .slice AA9 al9.length cA9, .int .i64 m9.dep, .int .i64 m9.most, .int .i64 m9.err]) (fun b hb => .inr hb)))
    have BZ := Lib.hid (HZZ.out ▸ BE.out.row1 #[.slice AL9 m9.L.length cL9, .slice AG9 gl9.length cG9, .slice AF9 m9.fx.length cF9, .slice AP9 pl9.length cP9, .slice AA9 al9.length cA9, .int .i64 m9.dep, .int .i64 m9.most, .int .i64 m9.err])
    rw [PE.out, M9.out]
    obtain ⟨z0, z1, z2, z3, z4, z5, z6, z7⟩ := cells8 BZ.out.x1
    refine bodyPost_ret (v := .agg #[.slice AL9 m9.L.length cL9, .slice AG9 gl9.length cG9, .slice AF9 m9.fx.length cF9, .slice AP9 pl9.length cP9, .slice AA9 al9.length cA9, .int .i64 m9.dep, .int .i64 m9.most, .int .i64 m9.err]) ?_ rfl ⟨AL9, cL9, AG9, cG9, AF9, cF9, AP9, cP9, AA9, cA9, gl9, pl9, al9, rfl, RZ.out.less (fun b hb => .inl hb), BZ.out.b⟩
    simp [results, Tryd.results38, go_sem, z0, z1, z2, z3, z4, z5, z6, z7]

set_option maxHeartbeats 16000000 in
set_option maxRecDepth 100000 in
theorem refpatch_in (t : Nat) (n : Int) (T : Nat → Prop) (N : Nat) (m : Em) (AL : Option Addr) (cL : Nat) (AG : Option Addr) (cG : Nat) (AF : Option Addr) (cF : Nat) (AP : Option Addr) (cP : Nat) (AA : Option Addr) (cA : Nat) (gl pl al : List Int) (w : World) (h : RfR w T N m AL cL AG cG AF cF AP cP AA cA gl pl al) (hT : ∀ b, T b → b < w.heap.size) (hN : N ≤ 100000) (ht : t < m.L.length) :
    Calls Tryd.prog 38 #[.agg #[.slice AL m.L.length cL, .slice AG gl.length cG, .slice AF m.fx.length cF, .slice AP pl.length cP, .slice AA al.length cA, .int .i64 m.dep, .int .i64 m.most, .int .i64 m.err], .int .i64 t, .int .i64 n] w (RfP T N w (patchE m t n)) := by
  have hl16 : m.L.length ≤ 16384 := h.ok.len
  have htl : (t : Int) < m.L.length := by omega
  have HLT := Lib.hid ht
  have HPOS := Lib.hid (show 0 < m.L.length by omega)
  have d0 : decide ((t : Int) < 0) = false := decide_eq_false (by omega)
  have d1 : decide ((m.L.length : Int) ≤ t) = false := decide_eq_false (by omega)
  have PY := Lib.hid (patch_yes (m := m) (n := n) ht)
  have PN := Lib.hid (patch_no (m := m) (n := n) ht)
  have OKS := Lib.hid (fun (hc : chk (numI (m.L.getD t zIns) n) = 0) => (by have := h.ok.patch t n; rwa [PY.out hc] at this : EmOk ⟨m.L.set t (numI (m.L.getD t zIns) n), m.fx, m.dep, m.most, m.err⟩))
  have b1 := (Below.refl w.heap.size w).alloc (Nat.le_refl _) (.cells #[.slice AL m.L.length cL, .slice AG gl.length cG, .slice AF m.fx.length cF, .slice AP pl.length cP, .slice AA al.length cA, .int .i64 m.dep, .int .i64 m.most, .int .i64 m.err] rfT)
  have BX := Lib.hid (show Bx2 w ((w.alloc (.cells #[.slice AL m.L.length cL, .slice AG gl.length cG, .slice AF m.fx.length cF, .slice AP pl.length cP, .slice AA al.length cA, .int .i64 m.dep, .int .i64 m.most, .int .i64 m.err] rfT)).alloc (.cells #[.slice none 0 0, .slice none 0 0, .slice none 0 0, .slice none 0 0, .slice none 0 0, .int .i64 0, .int .i64 0, .int .i64 0] rfT)) rfT rfT #[.slice AL m.L.length cL, .slice AG gl.length cG, .slice AF m.fx.length cF, .slice AP pl.length cP, .slice AA al.length cA, .int .i64 m.dep, .int .i64 m.most, .int .i64 m.err] #[.slice none 0 0, .slice none 0 0, .slice none 0 0, .slice none 0 0, .slice none 0 0, .int .i64 0, .int .i64 0, .int .i64 0] from ⟨b1.alloc b1.size (.cells #[.slice none 0 0, .slice none 0 0, .slice none 0 0, .slice none 0 0, .slice none 0 0, .int .i64 0, .int .i64 0, .int .i64 0] rfT), (Whole.made w rfT #[.slice AL m.L.length cL, .slice AG gl.length cG, .slice AF m.fx.length cF, .slice AP pl.length cP, .slice AA al.length cA, .int .i64 m.dep, .int .i64 m.most, .int .i64 m.err] _ rfl).alloc _, Whole.made (w.alloc (.cells #[.slice AL m.L.length cL, .slice AG gl.length cG, .slice AF m.fx.length cF, .slice AP pl.length cP, .slice AA al.length cA, .int .i64 m.dep, .int .i64 m.most, .int .i64 m.err] rfT)) rfT #[.slice none 0 0, .slice none 0 0, .slice none 0 0, .slice none 0 0, .slice none 0 0, .int .i64 0, .int .i64 0, .int .i64 0] _ (by simp)⟩)
  have HR := Lib.hid ((h.boxed 3).below BX.out.b)
  have HN := Lib.hid hN
  have HT0 := Lib.hid hT
  have S8 : (Tryd.prog.info? rfT).map (·.size) = some 8 := by kernel_rfl
  clear h hT hN b1
  have BX2 := BX
  clear BX
  obtain ⟨hcap, g2, rfl, _, _, hcell⟩ := row_cell (f := inC) (fun _ => rfl) zIns HR.out.fL.1 rfl ht
  have x0 := (hcell 0 (by decide)).1
  have x1 := (hcell 1 (by decide)).1
  have x2 := (hcell 2 (by decide)).1
  have x3 := (hcell 3 (by decide)).1
  have x4 := (hcell 4 (by decide)).1
  generalize hi0' : m.L.getD t zIns = i0 at *
  clear hi0' ht
  replace x0 : ((w.alloc (.cells #[.slice (some ⟨g2, 0, none⟩) m.L.length cL, .slice AG gl.length cG, .slice AF m.fx.length cF, .slice AP pl.length cP, .slice AA al.length cA, .int .i64 m.dep, .int .i64 m.most, .int .i64 m.err] rfT)).alloc (.cells #[.slice none 0 0, .slice none 0 0, .slice none 0 0, .slice none 0 0, .slice none 0 0, .int .i64 0, .int .i64 0, .int .i64 0] rfT)).cell? ⟨g2, t * 5, none⟩ = some (.int .i64 i0.op) := x0
  replace x1 : ((w.alloc (.cells #[.slice (some ⟨g2, 0, none⟩) m.L.length cL, .slice AG gl.length cG, .slice AF m.fx.length cF, .slice AP pl.length cP, .slice AA al.length cA, .int .i64 m.dep, .int .i64 m.most, .int .i64 m.err] rfT)).alloc (.cells #[.slice none 0 0, .slice none 0 0, .slice none 0 0, .slice none 0 0, .slice none 0 0, .int .i64 0, .int .i64 0, .int .i64 0] rfT)).cell? ⟨g2, t * 5 + 1, none⟩ = some (.int .i64 i0.a) := x1
  replace x2 : ((w.alloc (.cells #[.slice (some ⟨g2, 0, none⟩) m.L.length cL, .slice AG gl.length cG, .slice AF m.fx.length cF, .slice AP pl.length cP, .slice AA al.length cA, .int .i64 m.dep, .int .i64 m.most, .int .i64 m.err] rfT)).alloc (.cells #[.slice none 0 0, .slice none 0 0, .slice none 0 0, .slice none 0 0, .slice none 0 0, .int .i64 0, .int .i64 0, .int .i64 0] rfT)).cell? ⟨g2, t * 5 + 2, none⟩ = some (.int .i64 i0.b) := x2
  replace x3 : ((w.alloc (.cells #[.slice (some ⟨g2, 0, none⟩) m.L.length cL, .slice AG gl.length cG, .slice AF m.fx.length cF, .slice AP pl.length cP, .slice AA al.length cA, .int .i64 m.dep, .int .i64 m.most, .int .i64 m.err] rfT)).alloc (.cells #[.slice none 0 0, .slice none 0 0, .slice none 0 0, .slice none 0 0, .slice none 0 0, .int .i64 0, .int .i64 0, .int .i64 0] rfT)).cell? ⟨g2, t * 5 + 3, none⟩ = some (.int .i64 i0.c) := x3
  replace x4 : ((w.alloc (.cells #[.slice (some ⟨g2, 0, none⟩) m.L.length cL, .slice AG gl.length cG, .slice AF m.fx.length cF, .slice AP pl.length cP, .slice AA al.length cA, .int .i64 m.dep, .int .i64 m.most, .int .i64 m.err] rfT)).alloc (.cells #[.slice none 0 0, .slice none 0 0, .slice none 0 0, .slice none 0 0, .slice none 0 0, .int .i64 0, .int .i64 0, .int .i64 0] rfT)).cell? ⟨g2, t * 5 + 4, none⟩ = some (.int .i64 i0.n) := x4
  have BX := Lib.hid (show Bx3 w (((w.alloc (.cells #[.slice (some ⟨g2, 0, none⟩) m.L.length cL, .slice AG gl.length cG, .slice AF m.fx.length cF, .slice AP pl.length cP, .slice AA al.length cA, .int .i64 m.dep, .int .i64 m.most, .int .i64 m.err] rfT)).alloc (.cells #[.slice none 0 0, .slice none 0 0, .slice none 0 0, .slice none 0 0, .slice none 0 0, .int .i64 0, .int .i64 0, .int .i64 0] rfT)).alloc (.cells #[.int .i64 i0.op, .int .i64 i0.a, .int .i64 i0.b, .int .i64 i0.c, .int .i64 n] rnT)) rfT rfT rnT #[.slice (some ⟨g2, 0, none⟩) m.L.length cL, .slice AG gl.length cG, .slice AF m.fx.length cF, .slice AP pl.length cP, .slice AA al.length cA, .int .i64 m.dep, .int .i64 m.most, .int .i64 m.err] #[.slice none 0 0, .slice none 0 0, .slice none 0 0, .slice none 0 0, .slice none 0 0, .int .i64 0, .int .i64 0, .int .i64 0] #[.int .i64 i0.op, .int .i64 i0.a, .int .i64 i0.b, .int .i64 i0.c, .int .i64 n] from ⟨BX2.out.b.alloc BX2.out.b.size _, BX2.out.x0.alloc _, BX2.out.x1.alloc _, Whole.made ((w.alloc (.cells #[.slice (some ⟨g2, 0, none⟩) m.L.length cL, .slice AG gl.length cG, .slice AF m.fx.length cF, .slice AP pl.length cP, .slice AA al.length cA, .int .i64 m.dep, .int .i64 m.most, .int .i64 m.err] rfT)).alloc (.cells #[.slice none 0 0, .slice none 0 0, .slice none 0 0, .slice none 0 0, .slice none 0 0, .int .i64 0, .int .i64 0, .int .i64 0] rfT)) rnT #[.int .i64 i0.op, .int .i64 i0.a, .int .i64 i0.b, .int .i64 i0.c, .int .i64 n] _ (by simp)⟩)
  have XB := Lib.hid (show Whole (((w.alloc (.cells #[.slice (some ⟨g2, 0, none⟩) m.L.length cL, .slice AG gl.length cG, .slice AF m.fx.length cF, .slice AP pl.length cP, .slice AA al.length cA, .int .i64 m.dep, .int .i64 m.most, .int .i64 m.err] rfT)).alloc (.cells #[.slice none 0 0, .slice none 0 0, .slice none 0 0, .slice none 0 0, .slice none 0 0, .int .i64 0, .int .i64 0, .int .i64 0] rfT)).alloc (.cells #[.int .i64 i0.op, .int .i64 i0.a, .int .i64 i0.b, .int .i64 i0.c, .int .i64 i0.n] rnT)) (w.heap.size + 1 + 1) rnT #[.int .i64 i0.op, .int .i64 i0.a, .int .i64 i0.b, .int .i64 i0.c, .int .i64 i0.n] from Whole.made ((w.alloc (.cells #[.slice (some ⟨g2, 0, none⟩) m.L.length cL, .slice AG gl.length cG, .slice AF m.fx.length cF, .slice AP pl.length cP, .slice AA al.length cA, .int .i64 m.dep, .int .i64 m.most, .int .i64 m.err] rfT)).alloc (.cells #[.slice none 0 0, .slice none 0 0, .slice none 0 0, .slice none 0 0, .slice none 0 0, .int .i64 0, .int .i64 0, .int .i64 0] rfT)) rnT #[.int .i64 i0.op, .int .i64 i0.a, .int .i64 i0.b, .int .i64 i0.c, .int .i64 i0.n] _ (by simp))
  have HR := Lib.hid (HR.out.below ((Below.refl ((w.alloc (.cells #[.slice (some ⟨g2, 0, none⟩) m.L.length cL, .slice AG gl.length cG, .slice AF m.fx.length cF, .slice AP pl.length cP, .slice AA al.length cA, .int .i64 m.dep, .int .i64 m.most, .int .i64 m.err] rfT)).alloc (.cells #[.slice none 0 0, .slice none 0 0, .slice none 0 0, .slice none 0 0, .slice none 0 0, .int .i64 0, .int .i64 0, .int .i64 0] rfT)).heap.size ((w.alloc (.cells #[.slice (some ⟨g2, 0, none⟩) m.L.length cL, .slice AG gl.length cG, .slice AF m.fx.length cF, .slice AP pl.length cP, .slice AA al.length cA, .int .i64 m.dep, .int .i64 m.most, .int .i64 m.err] rfT)).alloc (.cells #[.slice none 0 0, .slice none 0 0, .slice none 0 0, .slice none 0 0, .slice none 0 0, .int .i64 0, .int .i64 0, .int .i64 0] rfT))).alloc (Nat.le_refl _) (.cells #[.int .i64 i0.op, .int .i64 i0.a, .int .i64 i0.b, .int .i64 i0.c, .int .i64 n] rnT)))
  have k4 : (((w.alloc (.cells #[.slice (some ⟨g2, 0, none⟩) m.L.length cL, .slice AG gl.length cG, .slice AF m.fx.length cF, .slice AP pl.length cP, .slice AA al.length cA, .int .i64 m.dep, .int .i64 m.most, .int .i64 m.err] rfT)).alloc (.cells #[.slice none 0 0, .slice none 0 0, .slice none 0 0, .slice none 0 0, .slice none 0 0, .int .i64 0, .int .i64 0, .int .i64 0] rfT)).alloc (.cells #[.int .i64 i0.op, .int .i64 i0.a, .int .i64 i0.b, .int .i64 i0.c, .int .i64 i0.n] rnT)).cell? ⟨w.heap.size + 1 + 1, 4, none⟩ = some (.int .i64 i0.n) := XB.out.cell 4
  have f4 : (((w.alloc (.cells #[.slice (some ⟨g2, 0, none⟩) m.L.length cL, .slice AG gl.length cG, .slice AF m.fx.length cF, .slice AP pl.length cP, .slice AA al.length cA, .int .i64 m.dep, .int .i64 m.most, .int .i64 m.err] rfT)).alloc (.cells #[.slice none 0 0, .slice none 0 0, .slice none 0 0, .slice none 0 0, .slice none 0 0, .int .i64 0, .int .i64 0, .int .i64 0] rfT)).alloc (.cells #[.int .i64 i0.op, .int .i64 i0.a, .int .i64 i0.b, .int .i64 i0.c, .int .i64 i0.n] rnT)).frozen? ⟨w.heap.size + 1 + 1, 4, none⟩ = false := XB.out.free 4
  have a0 : ((w.alloc (.cells #[.slice (some ⟨g2, 0, none⟩) m.L.length cL, .slice AG gl.length cG, .slice AF m.fx.length cF, .slice AP pl.length cP, .slice AA al.length cA, .int .i64 m.dep, .int .i64 m.most, .int .i64 m.err] rfT)).alloc (.cells #[.slice none 0 0, .slice none 0 0, .slice none 0 0, .slice none 0 0, .slice none 0 0, .int .i64 0, .int .i64 0, .int .i64 0] rfT)).cell? ⟨w.heap.size, 0, none⟩ = some (.slice (some ⟨g2, 0, none⟩) m.L.length cL) := BX2.out.x0.cell 0
  have s0 : (((w.alloc (.cells #[.slice (some ⟨g2, 0, none⟩) m.L.length cL, .slice AG gl.length cG, .slice AF m.fx.length cF, .slice AP pl.length cP, .slice AA al.length cA, .int .i64 m.dep, .int .i64 m.most, .int .i64 m.err] rfT)).alloc (.cells #[.slice none 0 0, .slice none 0 0, .slice none 0 0, .slice none 0 0, .slice none 0 0, .int .i64 0, .int .i64 0, .int .i64 0] rfT)).alloc (.cells #[.int .i64 i0.op, .int .i64 i0.a, .int .i64 i0.b, .int .i64 i0.c, .int .i64 n] rnT)).cell? ⟨w.heap.size + 1 + 1, 0, none⟩ = some (.int .i64 i0.op) := BX.out.x2.cell 0
  have s1 : (((w.alloc (.cells #[.slice (some ⟨g2, 0, none⟩) m.L.length cL, .slice AG gl.length cG, .slice AF m.fx.length cF, .slice AP pl.length cP, .slice AA al.length cA, .int .i64 m.dep, .int .i64 m.most, .int .i64 m.err] rfT)).alloc (.cells #[.slice none 0 0, .slice none 0 0, .slice none 0 0, .slice none 0 0, .slice none 0 0, .int .i64 0, .int .i64 0, .int .i64 0] rfT)).alloc (.cells #[.int .i64 i0.op, .int .i64 i0.a, .int .i64 i0.b, .int .i64 i0.c, .int .i64 n] rnT)).cell? ⟨w.heap.size + 1 + 1, 1, none⟩ = some (.int .i64 i0.a) := BX.out.x2.cell 1
  have s2 : (((w.alloc (.cells #[.slice (some ⟨g2, 0, none⟩) m.L.length cL, .slice AG gl.length cG, .slice AF m.fx.length cF, .slice AP pl.length cP, .slice AA al.length cA, .int .i64 m.dep, .int .i64 m.most, .int .i64 m.err] rfT)).alloc (.cells #[.slice none 0 0, .slice none 0 0, .slice none 0 0, .slice none 0 0, .slice none 0 0, .int .i64 0, .int .i64 0, .int .i64 0] rfT)).alloc (.cells #[.int .i64 i0.op, .int .i64 i0.a, .int .i64 i0.b, .int .i64 i0.c, .int .i64 n] rnT)).cell? ⟨w.heap.size + 1 + 1, 2, none⟩ = some (.int .i64 i0.b) := BX.out.x2.cell 2
  have s3 : (((w.alloc (.cells #[.slice (some ⟨g2, 0, none⟩) m.L.length cL, .slice AG gl.length cG, .slice AF m.fx.length cF, .slice AP pl.length cP, .slice AA al.length cA, .int .i64 m.dep, .int .i64 m.most, .int .i64 m.err] rfT)).alloc (.cells #[.slice none 0 0, .slice none 0 0, .slice none 0 0, .slice none 0 0, .slice none 0 0, .int .i64 0, .int .i64 0, .int .i64 0] rfT)).alloc (.cells #[.int .i64 i0.op, .int .i64 i0.a, .int .i64 i0.b, .int .i64 i0.c, .int .i64 n] rnT)).cell? ⟨w.heap.size + 1 + 1, 3, none⟩ = some (.int .i64 i0.c) := BX.out.x2.cell 3
  have s4 : (((w.alloc (.cells #[.slice (some ⟨g2, 0, none⟩) m.L.length cL, .slice AG gl.length cG, .slice AF m.fx.length cF, .slice AP pl.length cP, .slice AA al.length cA, .int .i64 m.dep, .int .i64 m.most, .int .i64 m.err] rfT)).alloc (.cells #[.slice none 0 0, .slice none 0 0, .slice none 0 0, .slice none 0 0, .slice none 0 0, .int .i64 0, .int .i64 0, .int .i64 0] rfT)).alloc (.cells #[.int .i64 i0.op, .int .i64 i0.a, .int .i64 i0.b, .int .i64 i0.c, .int .i64 n] rnT)).cell? ⟨w.heap.size + 1 + 1, 4, none⟩ = some (.int .i64 n) := BX.out.x2.cell 4
  have CK := Lib.hid (refcheck_any i0.op i0.a i0.b i0.c n (((w.alloc (.cells #[.slice (some ⟨g2, 0, none⟩) m.L.length cL, .slice AG gl.length cG, .slice AF m.fx.length cF, .slice AP pl.length cP, .slice AA al.length cA, .int .i64 m.dep, .int .i64 m.most, .int .i64 m.err] rfT)).alloc (.cells #[.slice none 0 0, .slice none 0 0, .slice none 0 0, .slice none 0 0, .slice none 0 0, .int .i64 0, .int .i64 0, .int .i64 0] rfT)).alloc (.cells #[.int .i64 i0.op, .int .i64 i0.a, .int .i64 i0.b, .int .i64 i0.c, .int .i64 n] rnT)))
  unfold instrV at CK
  have HT := Lib.hid (show ∀ b, (fun b => T b ∨ (w.heap.size ≤ b ∧ b < w.heap.size + 3)) b → b < (((w.alloc (.cells #[.slice (some ⟨g2, 0, none⟩) m.L.length cL, .slice AG gl.length cG, .slice AF m.fx.length cF, .slice AP pl.length cP, .slice AA al.length cA, .int .i64 m.dep, .int .i64 m.most, .int .i64 m.err] rfT)).alloc (.cells #[.slice none 0 0, .slice none 0 0, .slice none 0 0, .slice none 0 0, .slice none 0 0, .int .i64 0, .int .i64 0, .int .i64 0] rfT)).alloc (.cells #[.int .i64 i0.op, .int .i64 i0.a, .int .i64 i0.b, .int .i64 i0.c, .int .i64 n] rnT)).heap.size from fun b hb => by
    have h1 := BX.out.x2.lt
    rcases hb with hb | hb
    · have := HT0.out b hb
      have := BX.out.x0.lt
      omega
    · omega)
  have hcp := hcap
  clear hcell hcap
  by_cases hc : chk (numI i0 n) = 0
  case pos =>
    rw [show checkOf i0.op i0.a i0.b i0.c n = 0 from hc] at CK
    have PE := Lib.hid (PY.out hc)
    have OK1 := Lib.hid (OKS.out hc)
    obtain ⟨i1, hi0, hz0, hz1, hz2⟩ := info_parts rnInfo
    have H5s : (Tryd.prog.info? rnT).map (·.size) = some 5 := by kernel_rfl
    have H5o := Lib.hid (show (#[.int .i64 i0.op, .int .i64 i0.a, .int .i64 i0.b, .int .i64 i0.c, .int .i64 n] : Array Value).all (·.oneCell') = true from by simp [Value.oneCell'])
    clear PY PN OKS hc
    go_enter Tryd.func38, Tryd.ntmps38
    go_wp2_with fail
    generalize (((w.alloc (.cells #[.slice (some ⟨g2, 0, none⟩) m.L.length cL, .slice AG gl.length cG, .slice AF m.fx.length cF, .slice AP pl.length cP, .slice AA al.length cA, .int .i64 m.dep, .int .i64 m.most, .int .i64 m.err] rfT)).alloc (.cells #[.slice none 0 0, .slice none 0 0, .slice none 0 0, .slice none 0 0, .slice none 0 0, .int .i64 0, .int .i64 0, .int .i64 0] rfT)).alloc (.cells #[.int .i64 i0.op, .int .i64 i0.a, .int .i64 i0.b, .int .i64 i0.c, .int .i64 n] rnT)) = V at *
    refine CK.out.mono ?_
    rintro e y1 ⟨rfl, hb1⟩
    have BX := Lib.hid (BX.out.below hb1)
    have HR := Lib.hid (HR.out.below hb1)
    have HT := Lib.hid (show ∀ b, (fun b => T b ∨ (w.heap.size ≤ b ∧ b < w.heap.size + 3)) b → b < y1.heap.size from fun b hb2 => Nat.lt_of_lt_of_le (HT.out b hb2) hb1.size)
    have BA := Lib.hid ((Below.refl y1.heap.size y1).alloc (Nat.le_refl _) (.cells #[] rnT))
    have OE := Lib.hid (row_built (e := rnT) (sz := 5) y1 #[] 0 0 rfl (Nat.le_refl _) (Nat.zero_le _) y1.heap.size (Nat.le_refl _) _ rfl [] rfl)
    clear hb1 CK x0 x1 x2 x3 x4 k4 f4 a0 s0 s1 s2 s3 s4
    have a0 : (y1.alloc (.cells #[] rnT)).cell? ⟨w.heap.size, 0, none⟩ = some (.slice (some ⟨g2, 0, none⟩) m.L.length cL) := (BX.out.below BA.out).x0.cell 0
    simp only []
    go_at_K
    repeat (first | (go_big_may; first | (at_builtin; refine wp_app_any _ rfl _ _ 25 rfl y1.heap.size rnT i1 _ 5 40 Tryd.underlying25 hi0 hz0 hz1 hz2 rfl (by decide) (.slice (some ⟨y1.heap.size, 0, none⟩) 0 0) 0 [] rfl OE.out (.slice (some ⟨g2, 0, none⟩) m.L.length cL) m.L.length (m.L.flatMap inC) rfl (HR.out.below BA.out).fL.1 (one_flat in_one _) (by have := HR.out.ok.len; unfold maxLen; omega) (by have := HR.out.ok.len; omega) BA.out.size ?_; intro v6 w6 ho6 hg6 hat6; rw [Nat.zero_add, List.nil_append] at ho6; obtain ⟨g8, c6, hv6⟩ := rown_some17 ho6 HPOS.out; subst hv6; have B6 := Lib.hid (show Below y1.heap.size y1 w6 from BA.out.grown hg6 BA.out.size (fun b hb => (World.ownsRow.lt OE.out b hb).1)); have O6 := Lib.hid ho6; have TH := Lib.hid (there_row17 (f := inC) (k := 5) (fun _ => rfl) zIns ho6 HLT.out); clear ho6 hg6 hat6; have s0 : w6.cell? ⟨w.heap.size + 1 + 1, 0, none⟩ = some (.int .i64 i0.op) := (BX.out.below B6.out).x2.cell 0; have s1 : w6.cell? ⟨w.heap.size + 1 + 1, 1, none⟩ = some (.int .i64 i0.a) := (BX.out.below B6.out).x2.cell 1; have s2 : w6.cell? ⟨w.heap.size + 1 + 1, 2, none⟩ = some (.int .i64 i0.b) := (BX.out.below B6.out).x2.cell 2; have s3 : w6.cell? ⟨w.heap.size + 1 + 1, 3, none⟩ = some (.int .i64 i0.c) := (BX.out.below B6.out).x2.cell 3; have s4 : w6.cell? ⟨w.heap.size + 1 + 1, 4, none⟩ = some (.int .i64 n) := (BX.out.below B6.out).x2.cell 4) | (refine wpList_store_mid rfl rnT (.tmp 39) (.tmp 38) rfl g8 (t * 5) #[.int .i64 i0.op, .int .i64 i0.a, .int .i64 i0.b, .int .i64 i0.c, .int .i64 n] rfl rfl TH.out H5s H5o.out ?_; generalize hZ1 : w6.setCells g8 (t * 5) [.int .i64 i0.op, .int .i64 i0.a, .int .i64 i0.b, .int .i64 i0.c, .int .i64 n] = Z1; have HZ1 := Lib.hid hZ1; clear hZ1; have K7 := Lib.hid (show KeptS (fun b => b = g8) w6 Z1 from HZ1.out ▸ kept_cells17 (S := fun b => b = g8) rfl _ _ _); have O7 := Lib.hid (show Z1.ownsRow y1.heap.size rnT 5 (.slice (some ⟨g8, 0, none⟩) m.L.length c6) m.L.length (msetL (m.L.flatMap inC) (t * 5) [.int .i64 i0.op, .int .i64 i0.a, .int .i64 i0.b, .int .i64 i0.c, .int .i64 n]) from HZ1.out ▸ row_mset _ _ _ _ O6.out); have BX7 := Lib.hid ((BX.out.below B6.out).later K7.out (fun b hb => by have h1 := (row_block O6.out (b := g8) rfl).1; have h2 := BX.out.x2.lt; omega)); have c0 : Z1.cell? ⟨w.heap.size, 0, none⟩ = some (.slice (some ⟨g2, 0, none⟩) m.L.length cL) := BX7.out.x0.cell 0; have cf : Z1.frozen? ⟨w.heap.size, 0, none⟩ = false := BX7.out.x0.free 0; have BX8 := Lib.hid (show Bx3 w (Z1.setCell ⟨w.heap.size, 0, none⟩ (.slice (some ⟨g8, 0, none⟩) m.L.length c6)) rfT rfT rnT #[.slice (some ⟨g8, 0, none⟩) m.L.length c6, .slice AG gl.length cG, .slice AF m.fx.length cF, .slice AP pl.length cP, .slice AA al.length cA, .int .i64 m.dep, .int .i64 m.most, .int .i64 m.err] _ _ from BX7.out.set0 0 (.slice (some ⟨g8, 0, none⟩) m.L.length c6)); obtain ⟨e0, e1, e2, e3, e4, e5, e6, e7⟩ := cells8 BX8.out.x0; have H1 := Lib.hid (show (#[.slice (some ⟨g8, 0, none⟩) m.L.length c6, .slice AG gl.length cG, .slice AF m.fx.length cF, .slice AP pl.length cP, .slice AA al.length cA, .int .i64 m.dep, .int .i64 m.most, .int .i64 m.err] : Array Value).all (·.oneCell') = true from by simp [Value.oneCell'])) | (refine wpList_store_row rfl rfT (.tmp 6) (.tmp 42) rfl (w.heap.size + 1) #[.slice (some ⟨g8, 0, none⟩) m.L.length c6, .slice AG gl.length cG, .slice AF m.fx.length cF, .slice AP pl.length cP, .slice AA al.length cA, .int .i64 m.dep, .int .i64 m.most, .int .i64 m.err] rfl rfl rfT #[.slice none 0 0, .slice none 0 0, .slice none 0 0, .slice none 0 0, .slice none 0 0, .int .i64 0, .int .i64 0, .int .i64 0] BX8.out.x1 S8 rfl H1.out ?_; generalize hZZ : ((Z1.setCell ⟨w.heap.size, 0, none⟩ (.slice (some ⟨g8, 0, none⟩) m.L.length c6))).setRow (w.heap.size + 1) #[.slice (some ⟨g8, 0, none⟩) m.L.length c6, .slice AG gl.length cG, .slice AF m.fx.length cF, .slice AP pl.length cP, .slice AA al.length cA, .int .i64 m.dep, .int .i64 m.most, .int .i64 m.err] = ZZ; have HZZ := Lib.hid hZZ; clear hZZ)) | go_values | go_skip | go_guarded | go_step | go_upon)
    have hg8 : y1.heap.size ≤ g8 := (row_block O6.out (b := g8) rfl).1
    have hq2 := BX.out.x2.lt
    have K1 := (KeptS.ofBelow (S := fun _ => False) B6.out).trans K7.out (fun b hb => .inr (by rw [hb]; exact hg8))
    have K2 : KeptS (fun b => b = w.heap.size) Z1 (Z1.setCell ⟨w.heap.size, 0, none⟩ (.slice (some ⟨g8, 0, none⟩) m.L.length c6)) := KeptS.set rfl
    have K3 := BX8.out.kept1 #[.slice (some ⟨g8, 0, none⟩) m.L.length c6, .slice AG gl.length cG, .slice AF m.fx.length cF, .slice AP pl.length cP, .slice AA al.length cA, .int .i64 m.dep, .int .i64 m.most, .int .i64 m.err]
    have h0 := ((HR.out.later K1 (fun _ h => h.elim)).later K2 (fun b hb => .inr (by rw [hb]; omega))).later K3 (fun b hb => .inr hb)
    have hL := K3.row (K2.row O7.out (fun b hb e => by have := (row_block O7.out hb).1; omega)) (fun b hb e => by have := (row_block O7.out hb).1; omega)
    have hf : msetL (m.L.flatMap inC) (t * 5) [.int .i64 i0.op, .int .i64 i0.a, .int .i64 i0.b, .int .i64 i0.c, .int .i64 n] = (m.L.set t (numI i0 n)).flatMap inC := mset_flat (f := inC) (fun _ => rfl) (by decide) zIns (numI i0 n) m.L HLT.out
    rw [hf] at hL
    have hlen : (m.L.set t (numI i0 n)).length = m.L.length := List.length_set
    have RZ := Lib.hid (show RfR ZZ (fun b => T b ∨ (w.heap.size ≤ b ∧ b < w.heap.size + 3)) N ⟨m.L.set t (numI i0 n), m.fx, m.dep, m.most, m.err⟩ (some ⟨g8, 0, none⟩) c6 AG cG AF cF AP cP AA cA gl pl al from by
      rw [← HZZ.out]
      refine ⟨⟨?_, fun b hb ht => ?_⟩, h0.fG, h0.fF, h0.fP, h0.fA, by show gl.length ≤ (m.L.set t (numI i0 n)).length; rw [hlen]; exact h0.lg, h0.lp, h0.la, h0.lf, OK1.out, h0.nm⟩
      · show World.ownsRow _ 0 rnT 5 (.slice _ (m.L.set t (numI i0 n)).length c6) (m.L.set t (numI i0 n)).length _
        rw [hlen]
        exact row_more hL (Nat.zero_le _)
      · have h1 : g8 = b := Option.some.inj hb
        have h2 := HT.out b ht
        omega)
    have BZ := Lib.hid (HZZ.out ▸ BX8.out.row1 #[.slice (some ⟨g8, 0, none⟩) m.L.length c6, .slice AG gl.length cG, .slice AF m.fx.length cF, .slice AP pl.length cP, .slice AA al.length cA, .int .i64 m.dep, .int .i64 m.most, .int .i64 m.err])
    clear K1 K2 K3 h0 hL hf
    obtain ⟨z0, z1, z2, z3, z4, z5, z6, z7⟩ := cells8 BZ.out.x1
    refine bodyPost_ret (v := .agg #[.slice (some ⟨g8, 0, none⟩) m.L.length c6, .slice AG gl.length cG, .slice AF m.fx.length cF, .slice AP pl.length cP, .slice AA al.length cA, .int .i64 m.dep, .int .i64 m.most, .int .i64 m.err]) ?_ rfl ⟨some ⟨g8, 0, none⟩, c6, AG, cG, AF, cF, AP, cP, AA, cA, gl, pl, al, ?_, ?_, BZ.out.b⟩
    · simp [results, Tryd.results38, go_sem, z0, z1, z2, z3, z4, z5, z6, z7]
    · rw [PE.out]
      simp only [List.length_set]
    · rw [PE.out]
      exact RZ.out.less (fun b hb => .inl hb)
  case neg =>
    have dc : (checkOf i0.op i0.a i0.b i0.c n != 0) = true := by simpa [chk, numI] using hc
    have PE := Lib.hid (PN.out hc)
    have FB := Lib.hid (fun y (hr : RfR y (fun b => T b ∨ (w.heap.size ≤ b ∧ b < w.heap.size + 3)) N m (some ⟨g2, 0, none⟩) cL AG cG AF cF AP cP AA cA gl pl al) (ht : ∀ b, (fun b => T b ∨ (w.heap.size ≤ b ∧ b < w.heap.size + 3)) b → b < y.heap.size) => reffail_any 52 (fun b => T b ∨ (w.heap.size ≤ b ∧ b < w.heap.size + 3)) N m (some ⟨g2, 0, none⟩) cL AG cG AF cF AP cP AA cA gl pl al y hr ht HN.out)
    clear PY PN OKS hc
    go_enter Tryd.func38, Tryd.ntmps38
    go_wp2_with fail
    generalize (((w.alloc (.cells #[.slice (some ⟨g2, 0, none⟩) m.L.length cL, .slice AG gl.length cG, .slice AF m.fx.length cF, .slice AP pl.length cP, .slice AA al.length cA, .int .i64 m.dep, .int .i64 m.most, .int .i64 m.err] rfT)).alloc (.cells #[.slice none 0 0, .slice none 0 0, .slice none 0 0, .slice none 0 0, .slice none 0 0, .int .i64 0, .int .i64 0, .int .i64 0] rfT)).alloc (.cells #[.int .i64 i0.op, .int .i64 i0.a, .int .i64 i0.b, .int .i64 i0.c, .int .i64 n] rnT)) = V at *
    refine CK.out.mono ?_
    rintro e y1 ⟨rfl, hb1⟩
    have BX := Lib.hid (BX.out.below hb1)
    have HR := Lib.hid (HR.out.below hb1)
    have HT := Lib.hid (show ∀ b, (fun b => T b ∨ (w.heap.size ≤ b ∧ b < w.heap.size + 3)) b → b < y1.heap.size from fun b hb2 => Nat.lt_of_lt_of_le (HT.out b hb2) hb1.size)
    have FE := Lib.hid (FB.out y1 HR.out HT.out)
    generalize hm9 : failE m 52 = m9 at FE
    have M9 := Lib.hid hm9
    clear hm9 FB hb1 CK x0 x1 x2 x3 x4 k4 f4 a0 s0 s1 s2 s3 s4
    obtain ⟨a0, a1, a2, a3, a4, a5, a6, a7⟩ := cells8 BX.out.x0
    simp only []
    go_at_K
    go_wp2_with fail
    refine FE.out.mono ?_
    rintro e y2 ⟨AL9, cL9, AG9, cG9, AF9, cF9, AP9, cP9, AA9, cA9, gl9, pl9, al9, rfl, hr9, hb9⟩
    have BE := Lib.hid (BX.out.below hb9)
    have RE := Lib.hid hr9
    have H1 := Lib.hid (show (#[.slice AL9 m9.L.length cL9, .slice AG9 gl9.length cG9, .slice AF9 m9.fx.length cF9, .slice AP9 pl9.length cP9, .slice AA9 al9.length cA9, .int .i64 m9.dep, .int .i64 m9.most, .int .i64 m9.err] : Array Value).all (·.oneCell') = true from by simp [Value.oneCell'])
    clear hb9 hr9 FE a0 a1 a2 a3 a4 a5 a6 a7
    simp only []
    go_at_K
    repeat (first | (go_big_may; first | (refine wpList_store_row rfl rfT (.tmp 6) (.tmp 31) rfl (w.heap.size + 1) #[.slice AL9 m9.L.length cL9, .slice AG9 gl9.length cG9, .slice AF9 m9.fx.length cF9, .slice AP9 pl9.length cP9, .slice AA9 al9.length cA9, .int .i64 m9.dep, .int .i64 m9.most, .int .i64 m9.err] rfl rfl rfT #[.slice none 0 0, .slice none 0 0, .slice none 0 0, .slice none 0 0, .slice none 0 0, .int .i64 0, .int .i64 0, .int .i64 0] BE.out.x1 S8 rfl H1.out ?_; generalize hZZ : (y2).setRow (w.heap.size + 1) #[.slice AL9 m9.L.length cL9, .slice AG9 gl9.length cG9, .slice AF9 m9.fx.length cF9, .slice AP9 pl9.length cP9, .slice AA9 al9.length cA9, .int .i64 m9.dep, .int .i64 m9.most, .int .i64 m9.err] = ZZ; have HZZ := Lib.hid hZZ; clear hZZ)) | go_values | go_skip | go_guarded | go_step | go_upon)
    have RZ := Lib.hid (HZZ.out ▸ (RE.out.later (BE.out.kept1 #[.slice AL9 m9.L.length cL9, .slice AG9 gl9.length cG9, .slice AF9 m9.fx.length cF9, .slice AP9 pl9.length cP9, .slice AA9 al9.length cA9, .int .i64 m9.dep, .int .i64 m9.most, .int .i64 m9.err]) (fun b hb => .inr hb)))
    have BZ := Lib.hid (HZZ.out ▸ BE.out.row1 #[.slice AL9 m9.L.length cL9, .slice AG9 gl9.length cG9, .slice AF9 m9.fx.length cF9, .slice AP9 pl9.length cP9, .slice AA9 al9.length cA9, .int .i64 m9.dep, .int .i64 m9.most, .int .i64 m9.err])
    rw [PE.out, M9.out]
    obtain ⟨z0, z1, z2, z3, z4, z5, z6, z7⟩ := cells8 BZ.out.x1
    refine bodyPost_ret (v := .agg #[.slice AL9 m9.L.length cL9, .slice AG9 gl9.length cG9, .slice AF9 m9.fx.length cF9, .slice AP9 pl9.length cP9, .slice AA9 al9.length cA9, .int .i64 m9.dep, .int .i64 m9.most, .int .i64 m9.err]) ?_ rfl ⟨AL9, cL9, AG9, cG9, AF9, cF9, AP9, cP9, AA9, cA9, gl9, pl9, al9, rfl, RZ.out.less (fun b hb => .inl hb), BZ.out.b⟩
    simp [results, Tryd.results38, go_sem, z0, z1, z2, z3, z4, z5, z6, z7]

theorem refpatch_any (x n : Int) (T : Nat → Prop) (N : Nat) (m : Em) (AL : Option Addr) (cL : Nat) (AG : Option Addr) (cG : Nat) (AF : Option Addr) (cF : Nat) (AP : Option Addr) (cP : Nat) (AA : Option Addr) (cA : Nat) (gl pl al : List Int) (w : World) (h : RfR w T N m AL cL AG cG AF cF AP cP AA cA gl pl al) (hT : ∀ b, T b → b < w.heap.size) (hN : N ≤ 100000) :
    Calls Tryd.prog 38 #[.agg #[.slice AL m.L.length cL, .slice AG gl.length cG, .slice AF m.fx.length cF, .slice AP pl.length cP, .slice AA al.length cA, .int .i64 m.dep, .int .i64 m.most, .int .i64 m.err], .int .i64 x, .int .i64 n] w (RfP T N w (patchE m x n)) := by
  by_cases hx : x < 0 ∨ (m.L.length : Int) ≤ x
  · exact refpatch_bad x n T N m AL cL AG cG AF cF AP cP AA cA gl pl al w h hT hN hx
  · obtain ⟨t, rfl⟩ := Int.eq_ofNat_of_zero_le (show 0 ≤ x by omega)
    exact refpatch_in t n T N m AL cL AG cG AF cF AP cP AA cA gl pl al w h hT hN (by omega)
end Go.Proofs.YtcijjmmckofckaaDoor
