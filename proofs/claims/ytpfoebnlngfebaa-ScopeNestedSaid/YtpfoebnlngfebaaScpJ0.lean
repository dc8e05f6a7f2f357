/- Scopes: the program's Member. -/
import Derived.Test.YtpfoebnlngfebaaScpI
namespace Go.Proofs.Ytpfoebnlngfebaa
open Go.ChangeShapes Go.WideShapes Go.ChangeAt Go.RowKit
set_option linter.unusedVariables false
set_option linter.unusedSimpArgs false

theorem memberP_in {s : Stt} {t : Nat} (nm : ByteArray) (ht : t < s.mods.length) : memberP s ((t : Int) + 1) nm = (s.mods.getD t []).find? (nameIs nm) := by
  unfold memberP
  rw [if_neg (by omega)]
  congr 1

/-- A module of the program's. -/
theorem TabAt.mod {w : World} {B : Nat} {T : Tb} {s : Stt} (h : TabAt w B T s) {t : Nat} (ht : t < s.mods.length) :
    ∃ g cm A c l, T.mv = .slice (some ⟨g, 0, none⟩) s.mods.length cm ∧ w.cell? ⟨g, t, none⟩ = some (.slice A l.length c) ∧ RowO pO w B B (.slice A l.length c) l ∧ s.mods.getD t [] = l.map (·.1) := by
  have hmx : T.mx.length = s.mods.length := by rw [← h.msame, List.length_map]
  have hm := h.mods
  have ht' : t < T.mx.length := by omega
  have hcell : ∀ g c, T.mv = .slice (some ⟨g, 0, none⟩) T.mx.length c → w.cell? ⟨g, t, none⟩ = some T.mx[t].1 := fun g c e => by
    have := World.ownsRow.cells hm (g := g) (by rw [e]; rfl) t T.mx[t].1 (by rw [List.getElem?_map, List.getElem?_eq_getElem ht']; rfl)
    simpa [Go.WideShapes.add_plain] using this
  rcases hm.2 with ⟨_, h2⟩ | ⟨g, cap, cur, h1, _⟩
  · omega
  · have hr := h.mrows T.mx[t] (List.getElem_mem ht')
    obtain ⟨A, c, hf⟩ := row_form hr.row
    rw [hf] at hr
    refine ⟨g, cap, A, c, T.mx[t].2, by rw [← hmx]; exact h1, by rw [← hf]; exact hcell g cap h1, hr, ?_⟩
    rw [← h.msame]
    simp [List.getD, ht']

set_option maxHeartbeats 16000000 in
set_option maxRecDepth 100000 in
theorem member_out (B : Nat) (T : Tb) (s : Stt) (m : Int) (nm : ByteArray) (w : World) (h : TabAt w B T s) (hB : B ≤ w.heap.size) (hml : s.mods.length ≤ 64) (hok : ∀ m ∈ s.mods, (∀ x ∈ m, ObOk x) ∧ m.length * 64 ≤ 140737488355328) (hbad : m < 1 ∨ (s.mods.length : Int) < m) :
    Calls Try.prog 13 #[.pointer (some ⟨T.p, 0, none⟩), .int .i64 m, .string nm] w (FoundPost B w (memberP s m nm)) := by
  have DP : memberP s m nm = none := if_pos hbad
  rw [DP]
  clear DP
  obtain ⟨Am, cm, hmv⟩ := row_form h.mods
  have hmx : T.mx.length = s.mods.length := by rw [← h.msame, List.length_map]
  have bV := (Below.refl w.heap.size w).alloc (Nat.le_refl _) (.cells #[.string ⟨#[]⟩, .int .i64 0, .int .i64 0, .int .i64 0, .int .i32 0, .int .i64 0, .bool false, .slice none 0 0] pO)
  have BV := Lib.hid bV
  have XV := Lib.hid (Whole.made w pO #[.string ⟨#[]⟩, .int .i64 0, .int .i64 0, .int .i64 0, .int .i32 0, .int .i64 0, .bool false, .slice none 0 0] _ rfl)
  have u66 : (w.alloc (.cells #[.string ⟨#[]⟩, .int .i64 0, .int .i64 0, .int .i64 0, .int .i32 0, .int .i64 0, .bool false, .slice none 0 0] pO)).cell? ⟨T.p, 66, none⟩ = some (.slice Am s.mods.length cm) := by rw [← hmx, ← hmv]; exact ((h.below bV).blk.cell 66).trans tb_mod
  clear h bV hmv hmx hok hB
  unfold FoundPost
  by_cases h1 : m < 1
  · go_enter Try.func13, Try.ntmps13
    go_wp2_with fail
    have x0 : (w.alloc (.cells #[.string ⟨#[]⟩, .int .i64 0, .int .i64 0, .int .i64 0, .int .i32 0, .int .i64 0, .bool false, .slice none 0 0] pO)).cell? ⟨w.heap.size, 0, none⟩ = some (.string ⟨#[]⟩) := XV.out.cell 0
    have x1 : (w.alloc (.cells #[.string ⟨#[]⟩, .int .i64 0, .int .i64 0, .int .i64 0, .int .i32 0, .int .i64 0, .bool false, .slice none 0 0] pO)).cell? ⟨w.heap.size, 1, none⟩ = some (.int .i64 0) := XV.out.cell 1
    have x2 : (w.alloc (.cells #[.string ⟨#[]⟩, .int .i64 0, .int .i64 0, .int .i64 0, .int .i32 0, .int .i64 0, .bool false, .slice none 0 0] pO)).cell? ⟨w.heap.size, 2, none⟩ = some (.int .i64 0) := XV.out.cell 2
    have x3 : (w.alloc (.cells #[.string ⟨#[]⟩, .int .i64 0, .int .i64 0, .int .i64 0, .int .i32 0, .int .i64 0, .bool false, .slice none 0 0] pO)).cell? ⟨w.heap.size, 3, none⟩ = some (.int .i64 0) := XV.out.cell 3
    have x4 : (w.alloc (.cells #[.string ⟨#[]⟩, .int .i64 0, .int .i64 0, .int .i64 0, .int .i32 0, .int .i64 0, .bool false, .slice none 0 0] pO)).cell? ⟨w.heap.size, 4, none⟩ = some (.int .i32 0) := XV.out.cell 4
    have x5 : (w.alloc (.cells #[.string ⟨#[]⟩, .int .i64 0, .int .i64 0, .int .i64 0, .int .i32 0, .int .i64 0, .bool false, .slice none 0 0] pO)).cell? ⟨w.heap.size, 5, none⟩ = some (.int .i64 0) := XV.out.cell 5
    have x6 : (w.alloc (.cells #[.string ⟨#[]⟩, .int .i64 0, .int .i64 0, .int .i64 0, .int .i32 0, .int .i64 0, .bool false, .slice none 0 0] pO)).cell? ⟨w.heap.size, 6, none⟩ = some (.bool false) := XV.out.cell 6
    have x7 : (w.alloc (.cells #[.string ⟨#[]⟩, .int .i64 0, .int .i64 0, .int .i64 0, .int .i32 0, .int .i64 0, .bool false, .slice none 0 0] pO)).cell? ⟨w.heap.size, 7, none⟩ = some (.slice none 0 0) := XV.out.cell 7
    refine bodyPost_ret (v := .tuple #[.agg #[.string ⟨#[]⟩, .int .i64 0, .int .i64 0, .int .i64 0, .int .i32 0, .int .i64 0, .bool false, .slice none 0 0], .int .i64 110]) ?_ rfl ⟨none, 0, rfl, BV.out, ParV.nil _ _⟩
    clear BV XV
    generalize (w.alloc (.cells #[.string ⟨#[]⟩, .int .i64 0, .int .i64 0, .int .i64 0, .int .i32 0, .int .i64 0, .bool false, .slice none 0 0] pO)) = Z at *
    simp [results, Try.results13, go_sem, x0, x1, x2, x3, x4, x5, x6, x7]
  · have h2 : (s.mods.length : Int) < m := hbad.resolve_left h1
    clear hbad
    go_enter Try.func13, Try.ntmps13
    go_wp2_with fail
    have x0 : (w.alloc (.cells #[.string ⟨#[]⟩, .int .i64 0, .int .i64 0, .int .i64 0, .int .i32 0, .int .i64 0, .bool false, .slice none 0 0] pO)).cell? ⟨w.heap.size, 0, none⟩ = some (.string ⟨#[]⟩) := XV.out.cell 0
    have x1 : (w.alloc (.cells #[.string ⟨#[]⟩, .int .i64 0, .int .i64 0, .int .i64 0, .int .i32 0, .int .i64 0, .bool false, .slice none 0 0] pO)).cell? ⟨w.heap.size, 1, none⟩ = some (.int .i64 0) := XV.out.cell 1
    have x2 : (w.alloc (.cells #[.string ⟨#[]⟩, .int .i64 0, .int .i64 0, .int .i64 0, .int .i32 0, .int .i64 0, .bool false, .slice none 0 0] pO)).cell? ⟨w.heap.size, 2, none⟩ = some (.int .i64 0) := XV.out.cell 2
    have x3 : (w.alloc (.cells #[.string ⟨#[]⟩, .int .i64 0, .int .i64 0, .int .i64 0, .int .i32 0, .int .i64 0, .bool false, .slice none 0 0] pO)).cell? ⟨w.heap.size, 3, none⟩ = some (.int .i64 0) := XV.out.cell 3
    have x4 : (w.alloc (.cells #[.string ⟨#[]⟩, .int .i64 0, .int .i64 0, .int .i64 0, .int .i32 0, .int .i64 0, .bool false, .slice none 0 0] pO)).cell? ⟨w.heap.size, 4, none⟩ = some (.int .i32 0) := XV.out.cell 4
    have x5 : (w.alloc (.cells #[.string ⟨#[]⟩, .int .i64 0, .int .i64 0, .int .i64 0, .int .i32 0, .int .i64 0, .bool false, .slice none 0 0] pO)).cell? ⟨w.heap.size, 5, none⟩ = some (.int .i64 0) := XV.out.cell 5
    have x6 : (w.alloc (.cells #[.string ⟨#[]⟩, .int .i64 0, .int .i64 0, .int .i64 0, .int .i32 0, .int .i64 0, .bool false, .slice none 0 0] pO)).cell? ⟨w.heap.size, 6, none⟩ = some (.bool false) := XV.out.cell 6
    have x7 : (w.alloc (.cells #[.string ⟨#[]⟩, .int .i64 0, .int .i64 0, .int .i64 0, .int .i32 0, .int .i64 0, .bool false, .slice none 0 0] pO)).cell? ⟨w.heap.size, 7, none⟩ = some (.slice none 0 0) := XV.out.cell 7
    refine bodyPost_ret (v := .tuple #[.agg #[.string ⟨#[]⟩, .int .i64 0, .int .i64 0, .int .i64 0, .int .i32 0, .int .i64 0, .bool false, .slice none 0 0], .int .i64 110]) ?_ rfl ⟨none, 0, rfl, BV.out, ParV.nil _ _⟩
    clear BV XV
    generalize (w.alloc (.cells #[.string ⟨#[]⟩, .int .i64 0, .int .i64 0, .int .i64 0, .int .i32 0, .int .i64 0, .bool false, .slice none 0 0] pO)) = Z at *
    simp [results, Try.results13, go_sem, x0, x1, x2, x3, x4, x5, x6, x7]
end Go.Proofs.Ytpfoebnlngfebaa
