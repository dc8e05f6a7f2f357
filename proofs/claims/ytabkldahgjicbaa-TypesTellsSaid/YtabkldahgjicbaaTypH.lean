/- Types: the program's Close; what the table holds behind a store, behind a field more. -/
import Derived.Test.YtabkldahgjicbaaTypG
namespace Go.Proofs.Ytabkldahgjicbaa
open Go.ChangeShapes Go.WideShapes Go.ChangeAt Go.RowKit
set_option linter.unusedVariables false
set_option linter.unusedSimpArgs false

/-- Where the types lie. -/
theorem tab_cell {w : World} {B p : Nat} {v : Value} {L : List Tx} (h : TabAt w B p v L) {t : Nat} (ht : t < L.length) : ∃ g c, v = .slice (some ⟨g, 0, none⟩) L.length c ∧ L.length ≤ c ∧ B ≤ g ∧ g < w.heap.size ∧ (∃ cs, Whole w g pT cs) ∧ ∀ j, j < 6 → w.cell? ⟨g, t * 6 + j, none⟩ = (txCells (L.getD t zX))[j]? ∧ w.frozen? ⟨g, t * 6 + j, none⟩ = false := by
  obtain ⟨A, c, rfl⟩ := row_form h.rows.rows
  obtain ⟨hc, g, rfl, hB, hgl, hg⟩ := row_cell (f := txCells) (fun _ => rfl) zX h.rows.rows rfl ht
  refine ⟨g, c, rfl, hc, hB, hgl, ?_, hg⟩
  rcases h.rows.rows.2 with ⟨h1, _⟩ | ⟨g', cap, cur, h1, _, hgg, _⟩
  · cases h1
  · injection h1 with h1 _ _
    injection h1 with h1
    injection h1 with h1 _ _
    subst h1
    exact ⟨cur, hgg⟩

theorem getD_set {α : Type} (L : List α) (t : Nat) (y d : α) (i : Nat) (hi : i < L.length) : (L.set t y).getD i d = if t = i then y else L.getD i d := by
  simp [List.getD, List.getElem?_set, hi]
  split <;> simp_all

theorem mem_set_at {α : Type} {L : List α} {t : Nat} {y z d : α} (h : z ∈ L.set t y) : z = y ∨ ∃ i, i < L.length ∧ i ≠ t ∧ z = L.getD i d := by
  obtain ⟨i, hi, rfl⟩ := List.getElem_of_mem h
  rw [List.length_set] at hi
  rw [List.getElem_set]
  by_cases e : t = i
  · simp [e]
  · right
    refine ⟨i, hi, fun h => e h.symm, ?_⟩
    simp [e, List.getD, hi]

/-- A cell of a type stored into, its fields left as they are. -/
theorem tab_set {w : World} {B p g c : Nat} {L : List Tx} (h : TabAt w B p (.slice (some ⟨g, 0, none⟩) L.length c) L) {t : Nat} (ht : t < L.length) {j : Nat} (hj : j < 6) {u : Value} {y : Tx} (hy : txCells y = (txCells (L.getD t zX)).set j u) (hf : y.1.fds = (L.getD t zX).1.fds) (h2 : y.2 = (L.getD t zX).2) :
    TabAt (w.setCell ⟨g, t * 6 + j, none⟩ u) B p (.slice (some ⟨g, 0, none⟩) L.length c) (L.set t y) ∧ KeptT B w (w.setCell ⟨g, t * 6 + j, none⟩ u) := by
  obtain ⟨g', c', h1, _, hB, hgl, ⟨cs, hW⟩, _⟩ := tab_cell h ht
  injection h1 with h1 _ _
  injection h1 with h1
  injection h1 with h1 _ _
  subst h1
  have hgs := grown_set w g (t * 6 + j) u
  have hpg : p ≠ g := fun e => by
    have h1 := h.blk
    rw [e] at h1
    unfold Whole at h1 hW
    rw [hW] at h1
    injection h1 with h1
    injection h1 with _ h1 _
    exact pB_pT h1.symm
  refine ⟨⟨h.blk.far hpg u, h.le, ⟨?_, ?_⟩, ?_⟩, KeptT.set hW hB (.inr (.inl rfl))⟩
  · rw [List.length_set, ← flat_set txCells 6 (fun _ => rfl) zX y j u L t ht hj hy]
    exact row_set h.rows.rows u
  · intro z hz
    have hmem : ∀ i, i < L.length → L.getD i zX ∈ L := fun i hi => by
      rw [List.getD_eq_getElem?_getD, List.getElem?_eq_getElem hi]
      exact List.getElem_mem hi
    have key : ∀ i, i < L.length → (w.setCell ⟨g, t * 6 + j, none⟩ u).ownsRow B pF 3 (L.getD i zX).2 (L.getD i zX).1.fds.length ((L.getD i zX).1.fds.flatMap Fd.cells) := fun i hi =>
      World.ownsRow.kept (h.rows.fds _ (hmem i hi)) hgs (.inr (row_ne (h.rows.fds _ (hmem i hi)) hW (fun _ _ h => pF_pT (by injection h with _ h; exact h.symm))))
    rcases mem_set_at (d := zX) hz with rfl | ⟨i, hi, _, rfl⟩
    · rw [hf, h2]
      exact key t ht
    · exact key i hi
  · intro i k hi hk hne
    rw [List.length_set] at hi hk
    have e : ∀ i, i < L.length → ((L.set t y).getD i zX).2 = (L.getD i zX).2 := fun i hi => by
      rw [getD_set _ _ _ _ _ hi]
      split
      · rename_i e
        rw [← e, h2]
      · rfl
    rw [e i hi, e k hk]
    exact h.apart i k hi hk hne

/-- A field more: it is appended, and the type's fields are stored. -/
theorem tab_field {w w6 : World} {B p g c : Nat} {L : List Tx} (h : TabAt w B p (.slice (some ⟨g, 0, none⟩) L.length c) L) {t : Nat} (ht : t < L.length) {fds : List Fd} {fv : Value} (hx1 : (L.getD t zX).1.fds = fds) (hx2 : (L.getD t zX).2 = fv) {v6 : Value} {f : Fd} (ho : w6.ownsRow B pF 3 v6 (fds.length + 1) (fds.flatMap Fd.cells ++ f.cells)) (hg : w.grownBy w6 fv.ownBlock) (hat : v6.ownBlock = fv.ownBlock ∨ v6.ownBlock = some w.heap.size) {y : Tx} (hy : txCells y = (txCells (L.getD t zX)).set 5 v6) (hyf : y.1.fds = fds ++ [f]) (hy2 : y.2 = v6) :
    (∀ j, j < 6 → w6.cell? ⟨g, t * 6 + j, none⟩ = (txCells (L.getD t zX))[j]? ∧ w6.frozen? ⟨g, t * 6 + j, none⟩ = false) ∧ TabAt (w6.setCell ⟨g, t * 6 + 5, none⟩ v6) B p (.slice (some ⟨g, 0, none⟩) L.length c) (L.set t y) ∧ KeptT B w (w6.setCell ⟨g, t * 6 + 5, none⟩ v6) := by
  obtain ⟨g', c', h1, _, hB, hgl, ⟨cs, hW⟩, hcell⟩ := tab_cell h ht
  injection h1 with h1 _ _
  injection h1 with h1
  injection h1 with h1 _ _
  subst h1
  have hmem : ∀ i, i < L.length → L.getD i zX ∈ L := fun i hi => by
    rw [List.getD_eq_getElem?_getD, List.getElem?_eq_getElem hi]
    exact List.getElem_mem hi
  have hF : w.ownsRow B pF 3 fv fds.length (fds.flatMap Fd.cells) := by
    have := h.rows.fds _ (hmem t ht)
    rw [hx1, hx2] at this
    exact this
  have NG : fv.ownBlock ≠ some g := row_ne hF hW (fun _ _ h => pF_pT (by injection h with _ h; exact h.symm))
  have NP : fv.ownBlock ≠ some p := row_ne hF h.blk (fun _ _ h => pB_pF (by injection h))
  have W6 : Whole w6 g pT cs := (hg.block g hgl (fun e => NG e.symm)).trans hW
  have P6 : Whole w6 p pB #[.slice (some ⟨g, 0, none⟩) L.length c] := (hg.block p h.blk.lt (fun e => NP e.symm)).trans h.blk
  have hgs := grown_set w6 g (t * 6 + 5) v6
  have hpg : p ≠ g := fun e => by
    have h1 := h.blk
    rw [e] at h1
    unfold Whole at h1 hW
    rw [hW] at h1
    injection h1 with h1
    injection h1 with _ h1 _
    exact pB_pT h1.symm
  have R6 : w6.ownsRow B pT 6 (.slice (some ⟨g, 0, none⟩) L.length c) L.length (L.flatMap txCells) := World.ownsRow.kept h.rows.rows hg (.inr (fun e => NG e.symm))
  have NG6 : v6.ownBlock ≠ some g := row_ne ho W6 (fun _ _ h => pF_pT (by injection h with _ h; exact h.symm))
  refine ⟨fun j hj => ⟨?_, W6.free _⟩, ⟨P6.far hpg v6, h.le, ⟨?_, ?_⟩, ?_⟩, (KeptT.grown hF (.inr (.inr rfl)) hg).trans (KeptT.set W6 hB (.inr (.inl rfl)))⟩
  · rw [W6.cell, ← hW.cell, (hcell j hj).1]
  · rw [List.length_set, ← flat_set txCells 6 (fun _ => rfl) zX y 5 v6 L t ht (by decide) hy]
    exact row_set R6 v6
  · intro z hz
    rcases mem_set_at (d := zX) hz with rfl | ⟨i, hi, hne, rfl⟩
    · rw [hyf, hy2, List.length_append, List.flatMap_append]
      exact World.ownsRow.kept (by simpa using ho) hgs (.inr NG6)
    · have ha := h.apart i t hi ht hne
      rw [hx2] at ha
      have h1 := World.ownsRow.kept (h.rows.fds _ (hmem i hi)) hg ha
      exact World.ownsRow.kept h1 hgs (.inr (row_ne h1 W6 (fun _ _ h => pF_pT (by injection h with _ h; exact h.symm))))
  · have hlt : ∀ i, i < L.length → ∀ b, (L.getD i zX).2.ownBlock = some b → b < w.heap.size := fun i hi b hb => (World.ownsRow.lt (h.rows.fds _ (hmem i hi)) b hb).2
    intro i k hi hk hne
    rw [List.length_set] at hi hk
    rw [getD_set _ _ _ _ _ hi, getD_set _ _ _ _ _ hk]
    by_cases e1 : t = i
    · subst e1
      rw [if_pos rfl, if_neg hne, hy2]
      cases hv : v6.ownBlock with
      | none => exact .inl rfl
      | some b =>
        right
        intro e
        rcases hat with hat | hat
        · rcases h.apart t k hi hk hne with h1 | h1
          · rw [hx2, ← hat, hv] at h1
            cases h1
          · rw [hx2, ← hat, hv] at h1
            exact h1 e
        · have := hlt k hk b e.symm
          rw [hv] at hat
          injection hat with hat
          omega
    · rw [if_neg e1]
      by_cases e2 : t = k
      · subst e2
        rw [if_pos rfl, hy2]
        rcases h.apart i t hi hk hne with h1 | h1
        · exact .inl h1
        · rcases hat with hat | hat
          · right
            rw [hat, ← hx2]
            exact h1
          · cases hv : (L.getD i zX).2.ownBlock with
            | none => exact .inl rfl
            | some b =>
              right
              rw [hat]
              intro e
              injection e with e
              have := hlt i hi b hv
              omega
      · rw [if_neg e2]
        exact h.apart i k hi hk hne

def closeP (L : List Ty) (id : Int) : List Ty × Int :=
  if (getT L id).opn = false then (L, 111) else (L.set id.toNat { getT L id with opn := false }, 0)

/-- What a call that may change the table leaves, where it answers the error alone. -/
def ChPost1 (B p : Nat) (w : World) (r : List Ty × Int) (e : Ending) (w' : World) : Prop :=
  ∃ v' L', e = .returned (.int .i64 r.2) ∧ L'.map (·.1) = r.1 ∧ TabAt w' B p v' L' ∧ KeptT B w w'

theorem ChPost1.same {B p : Nat} {w w1 : World} {v : Value} {L : List Tx} {r : List Ty × Int} (h : TabAt w B p v L) (hb : Below w.heap.size w w1) (hr : r.1 = L.map (·.1)) : ChPost1 B p w r (.returned (.int .i64 r.2)) w1 :=
  ⟨v, L, rfl, hr.symm, h.below hb, KeptT.ofBelow hb⟩

/-- A type that is open, or of which something may be, is there. -/
theorem getX_there {L : List Tx} {id : Int} (h : getX L id ≠ zX) : ∃ t : Nat, id = t ∧ t < L.length ∧ getX L id = L.getD t zX := by
  by_cases hin : 0 ≤ id ∧ id < L.length
  · exact ⟨id.toNat, by omega, by omega, if_pos hin⟩
  · exact absurd (getX_out hin) h

set_option maxHeartbeats 8000000 in
set_option maxRecDepth 100000 in
theorem close_any (p B : Nat) (v : Value) (L : List Tx) (id : Int) (w : World) (h : TabAt w B p v L) (hB : B ≤ w.heap.size) (hn : L.length ≤ 4096) :
    Calls Try.prog 37 #[.pointer (some ⟨p, 0, none⟩), .int .i64 id] w (ChPost1 B p w (closeP (L.map (·.1)) id)) := by
  have IO := Lib.hid (isopen_any p B v L id w h hn _ rfl)
  have CP := Lib.hid (show closeP (L.map (·.1)) id = if (getT (L.map (·.1)) id).opn = false then (L.map (·.1), 111) else ((L.map (·.1)).set id.toNat { getT (L.map (·.1)) id with opn := false }, 0) from rfl)
  rw [← getX_fst] at CP
  have SAME := Lib.hid (fun (r : List Ty × Int) w1 (hb : Below w.heap.size w w1) hr => ChPost1.same (r := r) h hb hr)
  generalize closeP (L.map (·.1)) id = r at *
  cases ho : (getX L id).1.opn with
  | false =>
    have HR := Lib.hid (CP.out.trans (if_pos ho))
    rw [ho] at IO
    clear CP ho h
    go_enter Try.func37, Try.ntmps37
    go_wp2_with fail
    refine IO.out.mono ?_
    rintro e w1 ⟨rfl, hb1⟩
    have B1 := Lib.hid hb1
    clear hb1 IO
    go_wp2_with fail
    go_ret
    have := SAME.out r _ B1.out (by rw [HR.out])
    rw [HR.out] at this ⊢
    exact this
  | true =>
    have HR := Lib.hid (CP.out.trans (if_neg (by rw [ho]; decide)))
    rw [ho] at IO
    obtain ⟨t, rfl, ht, hX⟩ := getX_there (L := L) (id := id) (fun e => by rw [e] at ho; cases ho)
    have htI : (t : Int) < L.length := by omega
    obtain ⟨g, c, rfl, hc, hBg, hgl, hW, hcell⟩ := tab_cell h ht
    have S := Lib.hid (fun w1 (hb : Below w.heap.size w w1) => tab_set (h.below hb) ht (j := 4) (by decide) (u := .bool false) (y := ({ (L.getD t zX).1 with opn := false }, (L.getD t zX).2)) rfl rfl rfl)
    have C0 := Lib.hid (fun w1 (hb : Below w.heap.size w w1) => And.intro (show w1.cell? ⟨p, 0, none⟩ = some (.slice (some ⟨g, 0, none⟩) L.length c) from (h.below hb).blk.cell 0) (show w1.cell? ⟨g, t * 6 + 4, none⟩ = some (.bool (L.getD t zX).1.opn) ∧ w1.frozen? ⟨g, t * 6 + 4, none⟩ = false from ⟨(hb.cell (p := ⟨g, t * 6 + 4, none⟩) hgl).trans (hcell 4 (by decide)).1, (hb.frozen (p := ⟨g, t * 6 + 4, none⟩) hgl).trans (hcell 4 (by decide)).2⟩))
    rw [hX] at HR
    clear CP ho h SAME hcell hW hX
    go_enter Try.func37, Try.ntmps37
    go_wp2_with fail
    refine IO.out.mono ?_
    rintro e w1 ⟨rfl, hb1⟩
    have B1 := Lib.hid hb1
    clear hb1 IO
    obtain ⟨c1, c2, c3⟩ := C0.out w1 B1.out
    go_wp2_with fail
    go_ret
    obtain ⟨T, K⟩ := S.out w1 B1.out
    exact ⟨_, _, by rw [HR.out]; rfl, by rw [HR.out]; simp [List.map_set], T, (KeptT.ofBelow B1.out).trans K⟩
end Go.Proofs.Ytabkldahgjicbaa
