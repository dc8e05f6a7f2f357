/- Symfile: Make. -/
import Derived.Test.YthmjniedfiabhaaSymK
import Derived.Test.YthmjniedfiabhaaSymH
import Derived.Test.YthmjniedfiabhaaRowSet
namespace Go.Proofs.Ythmjniedfiabhaa
open Go.ChangeShapes Go.WideShapes Go.ChangeAt Go.RowKit
set_option linter.unusedVariables false
set_option linter.unusedSimpArgs false

theorem whole_ne {w : World} {g g' : Nat} {t t' : TypeId} {cs cs' : Array Value} (h : Whole w g t cs) (h' : Whole w g' t' cs') (hne : t ≠ t') : g ≠ g' := by
  intro e
  subst e
  unfold Whole at h h'
  rw [h] at h'
  injection h' with h'
  injection h' with _ h' _
  exact hne h'

theorem ParV.set {B : Nat} {w : World} {v : Value} {ps : List (Int × Bool)} {g j : Nat} {t : TypeId} {cs : Array Value} {u : Value} (h : ParV B w v ps) (hg : Whole w g t cs) (ht : t ≠ pP) (hB : B ≤ g) : ParV B (w.setCell ⟨g, j, none⟩ u) v ps :=
  h.keep (Nat.le_refl _) (by simp [World.setCell]) fun b hb hh => Below.heap_setCell w ⟨g, j, none⟩ u b fun e => by
    have e : b = g := e
    subst e
    rcases hh with hh | ⟨cs', fz, hh⟩
    · omega
    · unfold Whole at hg
      rw [hg] at hh
      injection hh with hh
      injection hh with _ hh _
      exact ht hh

/-- An own row beside a store into a block of another type. -/
theorem row_far {w : World} {B : Nat} {e : TypeId} {sz : Nat} {v : Value} {n : Nat} {xs : List Value} {g j : Nat} {t : TypeId} {cs : Array Value} {u : Value} (h : w.ownsRow B e sz v n xs) (hg : Whole w g t cs) (ht : t ≠ e) : (w.setCell ⟨g, j, none⟩ u).ownsRow B e sz v n xs :=
  World.ownsRow.kept (row := some g) h (grown_set w g j u) (.inr (row_ne h hg (fun c fz e' => ht (by injection e' with _ e' _))))

theorem RowE.far {w : World} {B B' : Nat} {v : Value} {l : List Exx} {g j : Nat} {t : TypeId} {cs : Array Value} {u : Value} (h : RowE w B B' v l) (hg : Whole w g t cs) (ht : t ≠ pE) (ht2 : t ≠ pP) (hB : B ≤ g) : RowE (w.setCell ⟨g, j, none⟩ u) B B' v l :=
  ⟨row_far h.row hg ht, fun x hx => (h.par x hx).set hg ht2 hB⟩

theorem map_set_same {l : List Exx} {t : Nat} (ht : t < l.length) (v : Value) : (l.set t ((l.getD t zEx).1, v)).map (·.1) = l.map (·.1) := by
  rw [List.map_set]
  apply list_set_same
  rw [List.getElem?_map, List.getD_eq_getElem?_getD, List.getElem?_eq_getElem ht]
  rfl

/-- Other parameters in an export's last cell. -/
theorem RowE.set {w : World} {B B' : Nat} {g c : Nat} {l : List Exx} {t : Nat} {v : Value} (h : RowE w B B' (.slice (some ⟨g, 0, none⟩) l.length c) l) (ht : t < l.length) (hB : B ≤ g) (hv : ParV B w v (l.getD t zEx).1.ps) :
    RowE (w.setCell ⟨g, t * 5 + 4, none⟩ v) B B' (.slice (some ⟨g, 0, none⟩) l.length c) (l.set t ((l.getD t zEx).1, v)) := by
  obtain ⟨_, _, cs, hg⟩ := row_block h.row (b := g) rfl
  have hg : Whole w g pE cs := hg
  have hr := row_set h.row v (j := t * 5 + 4)
  rw [flat_set exCells 5 (fun _ => rfl) zEx ((l.getD t zEx).1, v) 4 v l t ht (by decide) rfl] at hr
  refine ⟨by rw [List.length_set]; exact hr, fun x hx => ?_⟩
  rcases List.mem_or_eq_of_mem_set hx with hx | rfl
  · exact (h.par x hx).set hg (by decide) hB
  · exact hv.set hg (by decide) hB

/-- The same name in an export's first cell. -/
theorem RowE.same {w : World} {B B' : Nat} {g c : Nat} {l : List Exx} {t : Nat} (h : RowE w B B' (.slice (some ⟨g, 0, none⟩) l.length c) l) (ht : t < l.length) (hB : B ≤ g) :
    RowE (w.setCell ⟨g, t * 5, none⟩ (.string (l.getD t zEx).1.nm)) B B' (.slice (some ⟨g, 0, none⟩) l.length c) l := by
  obtain ⟨_, _, cs, hg⟩ := row_block h.row (b := g) rfl
  have hg : Whole w g pE cs := hg
  have hr := row_set h.row (.string (l.getD t zEx).1.nm) (j := t * 5)
  rw [list_set_same (show (l.flatMap exCells)[t * 5]? = some (.string (l.getD t zEx).1.nm) from flat_at exCells 5 (fun _ => rfl) zEx l t 0 ht (by decide))] at hr
  exact ⟨hr, fun x hx => (h.par x hx).set hg (by decide) hB⟩

/-- What Make has while it copies names. -/
structure MkF (w0 w : World) (p : Nat) (md : ByteArray) (key : Int) (vi ve : Value) (im : List Im) (l : List Exx) : Prop where
  B : Below w0.heap.size w0 w
  R : Whole w w0.heap.size flT #[.string ⟨#[]⟩, .int .u32 0, .slice none 0 0, .slice none 0 0]
  P : Whole w p flT #[.string md, .int .u32 key, vi, ve]
  I : w.ownsRow w0.heap.size pI 2 vi im.length (im.flatMap imCells)
  E : RowE w w0.heap.size w0.heap.size ve l

section
variable {w0 w w' : World} {p : Nat} {md : ByteArray} {key : Int} {vi ve : Value} {im : List Im} {l : List Exx}

theorem MkF.below (h : MkF w0 w p md key vi ve im l) (hb : Below w.heap.size w w') : MkF w0 w' p md key vi ve im l :=
  ⟨h.B.trans (hb.mono h.B.size), h.R.below hb h.R.lt, h.P.below hb h.P.lt, row_below h.I hb, h.E.below hb⟩

theorem MkF.nameI {g c t : Nat} (h : MkF w0 w p md key (.slice (some ⟨g, 0, none⟩) im.length c) ve im l) (ht : t < im.length) :
    MkF w0 (w.setCell ⟨g, t * 2, none⟩ (.string (im.getD t zI).nm)) p md key (.slice (some ⟨g, 0, none⟩) im.length c) ve im l := by
  obtain ⟨hB, _, cs, hg⟩ := row_block h.I (b := g) rfl
  have hg : Whole w g pI cs := hg
  have hr := row_set h.I (.string (im.getD t zI).nm) (j := t * 2)
  rw [list_set_same (show (im.flatMap imCells)[t * 2]? = some (.string (im.getD t zI).nm) from flat_at imCells 2 (fun _ => rfl) zI im t 0 ht (by decide))] at hr
  exact ⟨h.B.setCell hB _, h.R.far (whole_ne h.R hg (by decide)) _, h.P.far (whole_ne h.P hg (by decide)) _, hr, h.E.far hg (by decide) (by decide) hB⟩

theorem MkF.nameE {g c t : Nat} (h : MkF w0 w p md key vi (.slice (some ⟨g, 0, none⟩) l.length c) im l) (ht : t < l.length) :
    MkF w0 (w.setCell ⟨g, t * 5, none⟩ (.string (l.getD t zEx).1.nm)) p md key vi (.slice (some ⟨g, 0, none⟩) l.length c) im l := by
  obtain ⟨hB, _, cs, hg⟩ := row_block h.E.row (b := g) rfl
  have hg : Whole w g pE cs := hg
  exact ⟨h.B.setCell hB _, h.R.far (whole_ne h.R hg (by decide)) _, h.P.far (whole_ne h.P hg (by decide)) _, row_far h.I hg (by decide), h.E.same ht hB⟩

theorem MkF.cellE {g c t : Nat} (h : MkF w0 w p md key vi (.slice (some ⟨g, 0, none⟩) l.length c) im l) (ht : t < l.length) :
    (w.cell? ⟨g, t * 5, none⟩ = some (.string (l.getD t zEx).1.nm) ∧ w.frozen? ⟨g, t * 5, none⟩ = false) ∧ w.cell? ⟨g, t * 5 + 4, none⟩ = some (l.getD t zEx).2 ∧ w.frozen? ⟨g, t * 5 + 4, none⟩ = false := by
  obtain ⟨_, g', e, _, _, hc⟩ := row_cell (f := exCells) (fun _ => rfl) zEx h.E.row rfl ht
  injection e with e
  injection e with e _
  subst e
  exact ⟨hc 0 (by decide), hc 4 (by decide)⟩

theorem MkF.parsE {g c t : Nat} {v : Value} (h : MkF w0 w p md key vi (.slice (some ⟨g, 0, none⟩) l.length c) im l) (ht : t < l.length) (hv : ParV w0.heap.size w v (l.getD t zEx).1.ps) :
    MkF w0 (w.setCell ⟨g, t * 5 + 4, none⟩ v) p md key vi (.slice (some ⟨g, 0, none⟩) l.length c) im (l.set t ((l.getD t zEx).1, v)) := by
  obtain ⟨hB, _, cs, hg⟩ := row_block h.E.row (b := g) rfl
  have hg : Whole w g pE cs := hg
  exact ⟨h.B.setCell hB _, h.R.far (whole_ne h.R hg (by decide)) _, h.P.far (whole_ne h.P hg (by decide)) _, row_far h.I hg (by decide), h.E.set ht hB hv⟩

theorem MkF.out (h : MkF w0 w p md key vi ve im l) : Whole (w.setRow w0.heap.size #[.string md, .int .u32 key, vi, ve]) w0.heap.size flT #[.string md, .int .u32 key, vi, ve] ∧ Below w0.heap.size w0 (w.setRow w0.heap.size #[.string md, .int .u32 key, vi, ve]) ∧ (w.setRow w0.heap.size #[.string md, .int .u32 key, vi, ve]).ownsRow w0.heap.size pI 2 vi im.length (im.flatMap imCells) ∧ RowE (w.setRow w0.heap.size #[.string md, .int .u32 key, vi, ve]) w0.heap.size w0.heap.size ve l := by
  obtain ⟨h1, h2⟩ := h.R.setRow #[.string md, .int .u32 key, vi, ve]
  refine ⟨h1, h.B.grown h2 h.B.size (fun k hk => by injection hk with hk; omega), World.ownsRow.kept h.I h2 (.inr (row_ne h.I h.R (fun c fz e => by injection e with _ e _; exact absurd e (by decide)))), World.ownsRow.kept h.E.row h2 (.inr (row_ne h.E.row h.R (fun c fz e => by injection e with _ e _; exact absurd e (by decide)))), fun x hx => (h.E.par x hx).keep (Nat.le_refl _) h2.size (fun b hb ht => h2.block b hb (fun e => ?_))⟩
  injection e with e
  subst e
  rcases ht with ht | ⟨cs, fz, e⟩
  · omega
  · have hR : w.heap[w0.heap.size]? = some (.cells _ flT (0, 0)) := h.R
    rw [hR] at e
    injection e with e
    injection e with _ e _
    exact absurd e (by decide)
end

theorem sm_map {l es : List Exx} (h : l.map (·.1) = es.map (·.1)) (sm : ∀ x ∈ es, ExSm x.1) : ∀ x ∈ l, ExSm x.1 := fun x hx => by
  have h1 : x.1 ∈ es.map (·.1) := by rw [← h]; exact List.mem_map.2 ⟨x, hx, rfl⟩
  obtain ⟨y, hy, e⟩ := List.mem_map.1 h1
  rw [← e]
  exact sm y hy

/-- What Make leaves. -/
def MadePost (w : World) (md : ByteArray) (im : List Im) (es : List Exx) (e : Ending) (w' : World) : Prop :=
  ∃ vi ve l, e = .returned (.agg #[.string md, .int .u32 (keyP md (es.map (·.1))), vi, ve]) ∧ Below w.heap.size w w' ∧ w'.ownsRow w.heap.size pI 2 vi im.length (im.flatMap imCells) ∧ RowE w' w.heap.size w.heap.size ve l ∧ l.map (·.1) = es.map (·.1)

set_option maxHeartbeats 16000000 in
set_option maxRecDepth 100000 in
theorem make_any (md : ByteArray) (Ai : Option Addr) (im : List Im) (ci : Nat) (Ae : Option Addr) (es : List Exx) (ce B : Nat) (w : World) (hi : ImV B w (.slice Ai im.length ci) im) (he : ExpV w.heap.size w (.slice Ae es.length ce) es) (sm : FlSm md es) (hin : im.length * 24 ≤ 140737488355328) (hio : ∀ x ∈ im, x.nm.size ≤ 140737488355328) :
    Calls Try.prog 24 #[.string md, .slice Ai im.length ci, .slice Ae es.length ce] w fun e w' => MadePost w md im es e w' := by
  have UL := Lib.hid (show ∀ e w', MadePost w md im es e w' = (∃ vi ve l, e = .returned (.agg #[.string md, .int .u32 (keyP md (es.map (·.1))), vi, ve]) ∧ Below w.heap.size w w' ∧ w'.ownsRow w.heap.size pI 2 vi im.length (im.flatMap imCells) ∧ RowE w' w.heap.size w.heap.size ve l ∧ l.map (·.1) = es.map (·.1)) from fun _ _ => rfl)
  have B0 := Lib.hid ((Below.refl w.heap.size w).alloc (Nat.le_refl _) (.cells #[.string ⟨#[]⟩, .int .u32 0, .slice none 0 0, .slice none 0 0] flT))
  have R0 := Lib.hid (Whole.made w flT #[.string ⟨#[]⟩, .int .u32 0, .slice none 0 0, .slice none 0 0] _ rfl)
  have I0 := Lib.hid (hi.below B0.out)
  have E0 := Lib.hid (he.below B0.out)
  have SM := Lib.hid sm
  have HIO := Lib.hid hio
  have HIN := Lib.hid hin
  have hinl : im.length ≤ 140737488355328 := by omega
  have hmd := sm.md
  have hen := sm.n
  have SC := Lib.hid (fun (s : ByteArray) W (h : s.size ≤ 140737488355328) => sclone_any s W h)
  have KE := Lib.hid (show fnvB 2166136261 (keyB md (es.map (·.1))) = keyP md (es.map (·.1)) from rfl)
  generalize keyP md (es.map (·.1)) = key at *
  clear hi he sm hio hin
  go_enter Try.func24, Try.ntmps24
  go_wp2_with fail
  generalize hV : w.alloc (.cells #[.string ⟨#[]⟩, .int .u32 0, .slice none 0 0, .slice none 0 0] flT) = V at *
  clear hV
  refine (SC.out md V (by omega)).mono ?_
  rintro e w1 ⟨rfl, hb1⟩
  have B1 := Lib.hid (B0.out.trans (hb1.mono B0.out.size))
  have R1 := Lib.hid (R0.out.below hb1 R0.out.lt)
  have I1 := Lib.hid (I0.out.below hb1)
  have E1 := Lib.hid (E0.out.below hb1)
  have KA := Lib.hid (key_any md Ae ce es w1 (by omega) E1.out.toR.toV SM.out.ex hen)
  rw [KE.out] at KA
  clear hb1 B0 R0 I0 E0
  go_wp2_with fail
  refine KA.out.mono ?_
  rintro e w2 ⟨rfl, hb2⟩
  have B2 := Lib.hid (B1.out.trans (hb2.mono B1.out.size))
  have R2 := Lib.hid (R1.out.below hb2 R1.out.lt)
  have IC := Lib.hid (iclone_any Ai ci B im w2 (I1.out.below hb2) HIN.out)
  have E2 := Lib.hid (E1.out.below hb2)
  clear hb2 B1 R1 I1 E1 KA
  go_wp2_with fail
  refine IC.out.mono ?_
  rintro e w3 ⟨vi, rfl, hb3, hr3⟩
  have B3 := Lib.hid (B2.out.trans (hb3.mono B2.out.size))
  have R3 := Lib.hid (R2.out.below hb3 R2.out.lt)
  have I3 := Lib.hid (row_more hr3 B2.out.size)
  have EC := Lib.hid (eclone_any Ae ce w.heap.size es w3 (E2.out.below hb3) (by omega))
  clear hb3 hr3 B2 R2 IC E2
  go_wp2_with fail
  refine EC.out.mono ?_
  rintro e w4 ⟨ve, rfl, hb4, hr4⟩
  have M4 := Lib.hid (show MkF w (w4.alloc (.cells #[.string md, .int .u32 key, vi, ve] flT)) w4.heap.size md key vi ve im es from
    have b := (Below.refl w4.heap.size w4).alloc (Nat.le_refl _) (.cells #[.string md, .int .u32 key, vi, ve] flT)
    ⟨(B3.out.trans (hb4.mono B3.out.size)).alloc (Nat.le_trans B3.out.size hb4.size) _, (R3.out.below hb4 R3.out.lt).alloc _, Whole.made w4 flT _ _ rfl, row_below (row_below I3.out hb4) b, RowE.below ⟨row_more hr4.row B3.out.size, hr4.par⟩ b⟩)
  have PW := Lib.hid (show w.heap.size < w4.heap.size from Nat.lt_of_lt_of_le R3.out.lt hb4.size)
  obtain ⟨A1, c1, rfl⟩ := row_form I3.out
  obtain ⟨A2, c2, rfl⟩ := row_form hr4.row
  clear hb4 hr4 B3 R3 I3 EC
  have q2 : (w4.alloc (.cells #[.string md, .int .u32 key, .slice A1 im.length c1, .slice A2 es.length c2] flT)).cell? ⟨w4.heap.size, 2, none⟩ = some (.slice A1 im.length c1) := M4.out.P.cell 2
  go_wp2_with fail
  clear q2
  generalize w4.heap.size = p at *
  generalize hW : w4.alloc (.cells #[.string md, .int .u32 key, .slice A1 im.length c1, .slice A2 es.length c2] flT) = W at *
  clear hW
  go_loopw [24] (fun i wr => ∃ t : Nat, t ≤ im.length ∧ i = .int .i64 t ∧ MkF w wr p md key (.slice A1 im.length c1) (.slice A2 es.length c2) im es) (fun i _ => im.length - (intOf i).toNat)
  case atStart => exact ⟨0, Nat.zero_le _, rfl, M4.out⟩
  case round =>
    clear M4
    obtain ⟨t, ht, rfl, hM⟩ := hrel
    have M := Lib.hid hM
    by_cases hlt : t < im.length
    · have hI : (t : Int) < im.length := by omega
      obtain ⟨hcap, g, rfl, hBg, hgl, hcell⟩ := row_cell (f := imCells) (fun _ => rfl) zI hM.I rfl hlt
      have p0 : wr.cell? ⟨g, t * 2, none⟩ = some (.string (im.getD t zI).nm) := (hcell 0 (by decide)).1
      have f0 : wr.frozen? ⟨g, t * 2, none⟩ = false := (hcell 0 (by decide)).2
      have hx := HIO.out _ (getD_mem zI hlt)
      have NI := Lib.hid (show ∀ y, MkF w y p md key (.slice (some ⟨g, 0, none⟩) im.length c1) (.slice A2 es.length c2) im es → MkF w (y.setCell ⟨g, t * 2, none⟩ (.string (im.getD t zI).nm)) p md key (.slice (some ⟨g, 0, none⟩) im.length c1) (.slice A2 es.length c2) im es from fun y h => h.nameI hlt)
      have CI := Lib.hid (show ∀ y, MkF w y p md key (.slice (some ⟨g, 0, none⟩) im.length c1) (.slice A2 es.length c2) im es → y.cell? ⟨g, t * 2, none⟩ = some (.string (im.getD t zI).nm) ∧ y.frozen? ⟨g, t * 2, none⟩ = false from fun y h => by
        obtain ⟨_, g', e, _, _, hc⟩ := row_cell (f := imCells) (fun _ => rfl) zI h.I rfl hlt
        injection e with e
        injection e with e _
        subst e
        exact hc 0 (by decide))
      generalize hnm : (im.getD t zI).nm = nm at *
      clear hnm hcell hM hcap hgl
      generalize hve : Value.slice A2 es.length c2 = ve at *
      have C := Lib.hid (fun y (h : MkF w y p md key (.slice (some ⟨g, 0, none⟩) im.length c1) ve im es) => show (fun y => MkF w y p md key (.slice (some ⟨g, 0, none⟩) im.length c1) ve im es ∧ y.cell? ⟨p, 2, none⟩ = some (.slice (some ⟨g, 0, none⟩) im.length c1) ∧ y.cell? ⟨g, t * 2, none⟩ = some (.string nm) ∧ y.frozen? ⟨g, t * 2, none⟩ = false) y from ⟨h, h.P.cell 2, (CI.out y h).1, (CI.out y h).2⟩)
      have KB := Lib.hid (fun y (hy : (fun y => MkF w y p md key (.slice (some ⟨g, 0, none⟩) im.length c1) ve im es ∧ y.cell? ⟨p, 2, none⟩ = some (.slice (some ⟨g, 0, none⟩) im.length c1) ∧ y.cell? ⟨g, t * 2, none⟩ = some (.string nm) ∧ y.frozen? ⟨g, t * 2, none⟩ = false) y) y' (hb : Below y.heap.size y y') => C.out y' (hy.1.below hb))
      have KS := Lib.hid (fun y (hy : (fun y => MkF w y p md key (.slice (some ⟨g, 0, none⟩) im.length c1) ve im es ∧ y.cell? ⟨p, 2, none⟩ = some (.slice (some ⟨g, 0, none⟩) im.length c1) ∧ y.cell? ⟨g, t * 2, none⟩ = some (.string nm) ∧ y.frozen? ⟨g, t * 2, none⟩ = false) y) => show (fun y => MkF w y p md key (.slice (some ⟨g, 0, none⟩) im.length c1) ve im es ∧ y.cell? ⟨p, 2, none⟩ = some (.slice (some ⟨g, 0, none⟩) im.length c1) ∧ y.cell? ⟨g, t * 2, none⟩ = some (.string nm) ∧ y.frozen? ⟨g, t * 2, none⟩ = false) (y.setCell ⟨g, t * 2, none⟩ (.string nm)) from C.out _ (NI.out y hy.1))
      have L0 := C.out wr.drew (M.out.below (Below.refl _ _).drew)
      have SCS := Lib.hid (show ∀ y, (fun y => MkF w y p md key (.slice (some ⟨g, 0, none⟩) im.length c1) ve im es ∧ y.cell? ⟨p, 2, none⟩ = some (.slice (some ⟨g, 0, none⟩) im.length c1) ∧ y.cell? ⟨g, t * 2, none⟩ = some (.string nm) ∧ y.frozen? ⟨g, t * 2, none⟩ = false) y → Calls Try.prog 55 #[.string nm] y (fun e y' => e = .returned (.string nm) ∧ (fun y => MkF w y p md key (.slice (some ⟨g, 0, none⟩) im.length c1) ve im es ∧ y.cell? ⟨p, 2, none⟩ = some (.slice (some ⟨g, 0, none⟩) im.length c1) ∧ y.cell? ⟨g, t * 2, none⟩ = some (.string nm) ∧ y.frozen? ⟨g, t * 2, none⟩ = false) y') from fun y hy => (SC.out nm y hx).mono (fun e y' h => ⟨h.1, KB.out y hy y' h.2⟩))
      have q2 : wr.cell? ⟨p, 2, none⟩ = some (.slice (some ⟨g, 0, none⟩) im.length c1) := M.out.P.cell 2
      clear p0 f0
      go_wp2_with fail
      go_region_held3 (fun y => MkF w y p md key (.slice (some ⟨g, 0, none⟩) im.length c1) ve im es ∧ y.cell? ⟨p, 2, none⟩ = some (.slice (some ⟨g, 0, none⟩) im.length c1) ∧ y.cell? ⟨g, t * 2, none⟩ = some (.string nm) ∧ y.frozen? ⟨g, t * 2, none⟩ = false)
        (first
          | with_reducible assumption
          | with_reducible exact L0
          | with_reducible exact KS.out _ (by assumption)
          | fail)
        (first
          | (go_at_call 55; refine (SCS.out _ (by assumption)).mono ?_; rintro e y1 ⟨rfl, hs1⟩))
      all_goals
        rename_i hH
        have MH := Lib.hid hH.1
        clear hH L0 C CI NI KB KS SCS
        go_wp2_with fail
        go_roundw
        case rel => exact ⟨t + 1, by omega, by go_num, MH.out⟩
        case measure => simp [intOf]; omega
    · have hI : ¬ (t : Int) < im.length := by omega
      have q3 : wr.cell? ⟨p, 3, none⟩ = some (.slice A2 es.length c2) := hM.P.cell 3
      generalize hvi : Value.slice A1 im.length c1 = vi at *
      have PM := Lib.hid (fun (l' : List Exx) (h : l'.map (·.1) = es.map (·.1)) => sm_map h SM.out.ex)
      have UL2 := Lib.hid (show ∀ e w' vi ve l, (e = .returned (.agg #[.string md, .int .u32 key, vi, ve]) ∧ Below w.heap.size w w' ∧ w'.ownsRow w.heap.size pI 2 vi im.length (im.flatMap imCells) ∧ RowE w' w.heap.size w.heap.size ve l ∧ l.map (·.1) = es.map (·.1)) → MadePost w md im es e w' from fun e w' vi ve l h => by rw [UL.out]; exact ⟨vi, ve, l, h⟩)
      generalize hem : es.map (·.1) = em at *
      have EM := Lib.hid hem
      generalize hn2 : es.length = n2 at *
      have N2 := Lib.hid hn2
      clear SM UL KE hM hvi hem hn2 HIO HIN
      go_wp2_with fail
      clear q3
      generalize wr = WR at *
      go_loopw [43] (fun i wr => ∃ (t : Nat) (l : List Exx), t ≤ n2 ∧ i = .int .i64 t ∧ l.length = n2 ∧ l.map (·.1) = em ∧ MkF w wr p md key vi (.slice A2 n2 c2) im l) (fun i _ => n2 - (intOf i).toNat)
      case atStart => exact ⟨0, es, Nat.zero_le _, rfl, N2.out, EM.out, M.out⟩
      case round =>
        clear M N2 EM
        obtain ⟨t, l, ht, rfl, hll, hmap, hM⟩ := hrel
        subst hll
        have PM' := PM.out l hmap
        have HMAP := Lib.hid hmap
        have M := Lib.hid hM
        by_cases hlt : t < l.length
        · have hI : (t : Int) < l.length := by omega
          obtain ⟨g, rfl, hgl, Ap, cp, hpv, hpar, hc⟩ := hM.E.at hlt
          obtain ⟨⟨y0, f0⟩, y4, f4⟩ := hM.cellE hlt
          have q3 : wr.cell? ⟨p, 3, none⟩ = some (.slice (some ⟨g, 0, none⟩) l.length c2) := hM.P.cell 3
          have hx := PM' _ (getD_mem zEx hlt)
          have hx1 := hx.1
          have hx2 := hx.2.1
          rw [hpv] at y4
          clear hc f0 f4 PM' hx hgl hM hmap hpar y4
          have SC1 := Lib.hid (fun W => SC.out (l.getD t zEx).1.nm W (by omega))
          have HPV := Lib.hid hpv
          have HX2 := Lib.hid hx2
          have NE := Lib.hid (fun w' (h : MkF w w' p md key vi (.slice (some ⟨g, 0, none⟩) l.length c2) im l) => h.nameE hlt)
          have PE := Lib.hid (fun w' v (h : MkF w w' p md key vi (.slice (some ⟨g, 0, none⟩) l.length c2) im l) hv => h.parsE (v := v) hlt hv)
          have CE := Lib.hid (fun w' (h : MkF w w' p md key vi (.slice (some ⟨g, 0, none⟩) l.length c2) im l) => h.cellE hlt)
          have MS := Lib.hid (fun v => map_set_same hlt v)
          have GM := Lib.hid (getD_mem zEx hlt)
          generalize hex : l.getD t zEx = ex at *
          obtain ⟨⟨nm, kd, ty, vl, ps⟩, pv⟩ := ex
          simp only at *
          have HPV' := HPV.out
          subst HPV'
          clear hpv hx1 hx2 hex HPV
          go_wp2_with fail
          clear y0 q3
          refine (SC1.out _).mono ?_
          rintro e w1 ⟨rfl, hb1⟩
          have M1 := Lib.hid (M.out.below hb1)
          obtain ⟨⟨y0, f0⟩, _, _⟩ := CE.out w1 M1.out
          have M2 := Lib.hid (NE.out w1 M1.out)
          obtain ⟨_, y4, _⟩ := CE.out _ M2.out
          clear hb1 M M1 SC1
          go_wp2_with fail
          clear y0 f0 y4
          generalize w1.setCell ⟨g, t * 5, none⟩ (.string nm) = W2 at *
          refine (pclone_any (.slice Ap ps.length cp) w.heap.size ps W2 (M2.out.E.par _ GM.out) (by have := HX2.out; omega)).mono ?_
          rintro e w3 ⟨v3, rfl, hb3, hp3⟩
          have M3 := Lib.hid (M2.out.below hb3)
          obtain ⟨_, y4, f4⟩ := CE.out w3 M3.out
          have M4 := Lib.hid (PE.out w3 v3 M3.out hp3)
          obtain ⟨A3, c3, rfl⟩ := hp3.form
          clear hb3 hp3 M2 M3 CE PE NE
          go_wp2_with fail
          go_roundw
          case rel => exact ⟨t + 1, _, by omega, by go_num, by rw [List.length_set], by rw [MS.out]; exact HMAP.out, M4.out⟩
          case measure => simp [intOf]; omega
        · have hI : ¬ (t : Int) < l.length := by omega
          have q0 : wr.cell? ⟨p, 0, none⟩ = some (.string md) := hM.P.cell 0
          have q1 : wr.cell? ⟨p, 1, none⟩ = some (.int .u32 key) := hM.P.cell 1
          have q2 : wr.cell? ⟨p, 2, none⟩ = some vi := hM.P.cell 2
          have q3 : wr.cell? ⟨p, 3, none⟩ = some (.slice A2 l.length c2) := hM.P.cell 3
          obtain ⟨A1, c1, rfl⟩ := row_form hM.I
          have HZ4 : (Try.prog.info? flT).map (·.size) = some 4 := by kernel_rfl
          have RR := Lib.hid hM.R
          have OO := Lib.hid hM.out
          generalize hZZ : wr.setRow w.heap.size #[.string md, .int .u32 key, .slice A1 im.length c1, .slice A2 l.length c2] = ZZ at *
          have HZZ := Lib.hid hZZ
          clear hM hmap PM' hZZ
          go_wp2_with (refine wpList_store_row rfl flT (.tmp 6) (.tmp 67) rfl w.heap.size #[.string md, .int .u32 key, .slice A1 im.length c1, .slice A2 l.length c2] rfl rfl flT #[.string ⟨#[]⟩, .int .u32 0, .slice none 0 0, .slice none 0 0] RR.out HZ4 rfl (show (#[.string md, .int .u32 key, .slice A1 im.length c1, .slice A2 l.length c2] : Array Value).all (·.oneCell') = true from by simp [Value.oneCell']) ?_; rw [HZZ.out])
          obtain ⟨z, zb, zi, ze⟩ := OO.out
          have z0 : ZZ.cell? ⟨w.heap.size, 0, none⟩ = some (.string md) := z.cell 0
          have z1 : ZZ.cell? ⟨w.heap.size, 1, none⟩ = some (.int .u32 key) := z.cell 1
          have z2 : ZZ.cell? ⟨w.heap.size, 2, none⟩ = some (.slice A1 im.length c1) := z.cell 2
          have z3 : ZZ.cell? ⟨w.heap.size, 3, none⟩ = some (.slice A2 l.length c2) := z.cell 3
          refine bodyPost_ret (v := .agg #[.string md, .int .u32 key, .slice A1 im.length c1, .slice A2 l.length c2]) ?_ rfl (UL2.out _ _ _ _ _ ⟨rfl, zb, zi, ze, HMAP.out⟩)
          simp [results, Try.results24, go_sem, z0, z1, z2, z3]
end Go.Proofs.Ythmjniedfiabhaa
