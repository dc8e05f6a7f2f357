/- Types: strings.Clone, slices.Clone of fields; New; awake's parts. -/
import Derived.Test.YtabkldahgjicbaaTypD
import Derived.Test.YtabkldahgjicbaaShelf
import Derived.Laws.Cover3
namespace Go.Proofs.Ytabkldahgjicbaa
open Go.ChangeShapes Go.WideShapes Go.ChangeAt Go.RowKit
set_option linter.unusedVariables false
set_option linter.unusedSimpArgs false

set_option maxHeartbeats 4000000 in
set_option maxRecDepth 100000 in
theorem sclone_any (s : ByteArray) (w : World) (hs : s.size ≤ 140737488355328) :
    Calls Try.prog 28 #[.string s] w fun e w' => e = .returned (.string s) ∧ Below w.heap.size w w' := by
  have CL := Lib.hid (Try.stringslite_Clone s w (by omega))
  go_enter Try.func28, Try.ntmps28
  go_wp2_with fail
  refine CL.out.mono ?_
  rintro e w1 ⟨rfl, hb⟩
  have HB := Lib.hid hb
  clear hb
  go_wp2_with fail
  go_ret
  exact ⟨rfl, HB.out⟩

theorem pF_info : (Try.prog.info? pF).map (fun i => (i.zero, i.size, i.bytes)) = some (some (.agg #[.string ⟨#[]⟩, .int .i64 0, .int .i64 0]), 3, 32) := by kernel_rfl

theorem pT_info : (Try.prog.info? pT).map (fun i => (i.zero, i.size, i.bytes)) = some (some (.agg #[.int .i64 0, .int .i64 0, .int .i64 0, .int .i64 0, .bool false, .slice none 0 0]), 6, 64) := by kernel_rfl

theorem rF_info : (Try.prog.info? rF).map (fun i => (i.zero, i.size, i.bytes)) = some (some (.agg #[.string ⟨#[]⟩, .int .i64 0, .int .i64 0]), 3, 32) := by kernel_rfl

theorem rT_info : (Try.prog.info? rT).map (fun i => (i.zero, i.size, i.bytes)) = some (some (.agg #[.int .i64 0, .int .i64 0, .int .i64 0, .int .i64 0, .bool false, .slice none 0 0]), 6, 64) := by kernel_rfl

theorem fd_one : ∀ (fds : List Fd), ∀ u ∈ fds.flatMap Fd.cells, u.oneCell' = true := by
  intro fds u hu
  obtain ⟨f, _, hf⟩ := List.mem_flatMap.1 hu
  simp [Fd.cells] at hf
  rcases hf with rfl | rfl | rfl <;> rfl

set_option maxHeartbeats 4000000 in
set_option maxRecDepth 100000 in
/-- slices.Clone of fields: a row of its own. -/
theorem fclone_any (v : Value) (B : Nat) (fds : List Fd) (w : World) (h : w.ownsRow B pF 3 v fds.length (fds.flatMap Fd.cells)) (hn : fds.length ≤ 1000000) :
    Calls Try.prog 29 #[v] w fun e w' => ∃ v', e = .returned v' ∧ Below w.heap.size w w' ∧ w'.ownsRow w.heap.size pF 3 v' fds.length (fds.flatMap Fd.cells) := by
  obtain ⟨i0, hi, hz0, hz1, hz2⟩ := info_parts pF_info
  obtain ⟨A, c, rfl⟩ := row_form h
  have H := Lib.hid h
  clear h
  cases A with
  | none =>
    obtain ⟨hl, rfl⟩ : fds.length = 0 ∧ c = 0 := by
      rcases H.out.2 with ⟨h1, h2⟩ | ⟨g, cap, cur, h1, _⟩
      · injection h1 with _ _ h3
        exact ⟨h2, h3⟩
      · cases h1
    have hf : fds = [] := List.eq_nil_of_length_eq_zero hl
    subst hf
    have hnil : ∀ W : World, (binOp .eql 40 (.slice none 0 0) (.slice none 0 0)).run Try.prog W = .ok (.bool true) W := fun W => by
      simp only [binOp]
      simp [run_equal_slice_nil W 40 pF none 0 0 Try.underlying40]
    clear hl
    go_enter Try.func29, Try.ntmps29
    go_wp2_with fail
    go_ret
    exact ⟨_, rfl, Below.refl _ _, row_nil _ _ _ _⟩
  | some a =>
    have hnil : ∀ W : World, (binOp .eql 40 (.slice (some a) fds.length c) (.slice none 0 0)).run Try.prog W = .ok (.bool false) W := fun W => by
      simp only [binOp]
      simp [run_equal_slice_nil W 40 pF (some a) fds.length c Try.underlying40]
    have BA := Lib.hid ((Below.refl w.heap.size w).alloc (Nat.le_refl _) (.cells #[] pF))
    have HA := Lib.hid (row_below H.out BA.out)
    have OE := Lib.hid (row_built (e := pF) (sz := 3) w #[] 0 0 rfl (Nat.le_refl _) (Nat.zero_le _) w.heap.size (Nat.le_refl _) _ rfl [] rfl)
    have hzz : w.heap.size ≤ (w.alloc (.cells #[] pF)).heap.size := BA.out.size
    go_enter Try.func29, Try.ntmps29
    go_wp2_with (first | (at_builtin; refine wp_app_any _ rfl _ _ 40 rfl w.heap.size pF i0 _ 3 32 Try.underlying40 hi hz0 hz1 hz2 rfl (by decide) (.slice (some ⟨w.heap.size, 0, none⟩) 0 0) 0 [] rfl OE.out _ fds.length _ rfl HA.out (fd_one _) (by unfold maxLen; omega) (by omega) hzz ?_; intro v3 w3 ho3 hg3 hat; have B3 := Lib.hid (BA.out.grown hg3 hzz (fun b hb => (World.ownsRow.lt OE.out b hb).1)); have O3 := Lib.hid ho3; clear ho3 hg3 hat))
    go_ret
    exact ⟨_, rfl, B3.out, by have := O3.out; rwa [Nat.zero_add, List.nil_append] at this⟩

/-- The types that always exist. -/
def newL : List Ty := [⟨0, 0, 0, 0, false, []⟩, ⟨1, 0, 0, 4, false, []⟩, ⟨2, 0, 0, 4, false, []⟩, ⟨3, 0, 0, 4, false, []⟩, ⟨4, 0, 0, 4, false, []⟩]

def newX : List Tx := newL.map (fun x => (x, .slice none 0 0))

theorem newX_fds {F : TypeId} (w : World) (B : Nat) : ∀ x ∈ newX, w.ownsRow B F 3 x.2 x.1.fds.length (x.1.fds.flatMap Fd.cells) := by
  intro x hx
  simp [newX, newL] at hx
  rcases hx with rfl | rfl | rfl | rfl | rfl <;> exact row_nil _ _ _ _

theorem newX_val : ∀ i, (newX.getD i zX).2 = .slice none 0 0
  | 0 => rfl
  | 1 => rfl
  | 2 => rfl
  | 3 => rfl
  | 4 => rfl
  | _ + 5 => rfl

def newCells : Array Value := #[.int .i64 0, .int .i64 0, .int .i64 0, .int .i64 0, .bool false, .slice none 0 0, .int .i64 1, .int .i64 0, .int .i64 0, .int .i64 4, .bool false, .slice none 0 0, .int .i64 2, .int .i64 0, .int .i64 0, .int .i64 4, .bool false, .slice none 0 0, .int .i64 3, .int .i64 0, .int .i64 0, .int .i64 4, .bool false, .slice none 0 0, .int .i64 4, .int .i64 0, .int .i64 0, .int .i64 4, .bool false, .slice none 0 0]

theorem newX_rows {E F : TypeId} (B : Nat) (w : World) (hB : B ≤ w.heap.size) : RowsX E F (w.alloc (.cells newCells E)) B (.slice (some ⟨w.heap.size, 0, none⟩) 5 5) newX :=
  ⟨row_built w newCells 5 5 rfl (Nat.le_refl _) (by decide) B hB _ rfl _ rfl, newX_fds _ _⟩

set_option maxHeartbeats 4000000 in
set_option maxRecDepth 100000 in
theorem new_any (B : Nat) (w : World) (hB : B ≤ w.heap.size) :
    Calls Try.prog 22 #[] w fun e w' => ∃ p v, e = .returned (.pointer (some ⟨p, 0, none⟩)) ∧ TabAt w' B p v newX ∧ Below w.heap.size w w' := by
  go_enter Try.func22, Try.ntmps22
  go_wp2_with fail
  go_ret
  have hb := (Below.refl w.heap.size w).alloc (Nat.le_refl _) (.cells newCells pT)
  have hb1 := hb.alloc hb.size (.cells #[.slice (some ⟨w.heap.size, 0, none⟩) 5 5] pB)
  refine ⟨w.heap.size + 1, .slice (some ⟨w.heap.size, 0, none⟩) 5 5, rfl, ⟨Whole.made (w.alloc (.cells newCells pT)) pB _ _ (by simp), by omega, (newX_rows B w hB).below ((Below.refl _ _).alloc (Nat.le_refl _) _), fun i j _ _ _ => .inl (by rw [newX_val]; rfl)⟩, hb1⟩

set_option maxHeartbeats 4000000 in
set_option maxRecDepth 100000 in
theorem refnew_any (B : Nat) (w : World) (hB : B ≤ w.heap.size) :
    Calls Try.prog 24 #[] w fun e w' => ∃ v, e = .returned v ∧ RowsX rT rF w' B v newX ∧ Below w.heap.size w w' := by
  go_enter Try.func24, Try.ntmps24
  go_wp2_with fail
  go_ret
  exact ⟨_, rfl, newX_rows B w hB, (Below.refl w.heap.size w).alloc (Nat.le_refl _) (.cells newCells rT)⟩
end Go.Proofs.Ytabkldahgjicbaa
