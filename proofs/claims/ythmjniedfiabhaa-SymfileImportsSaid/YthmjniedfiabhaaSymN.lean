/- Symfile: the law's small, ref, is; the program's Same; the page's example. -/
import Derived.Test.YthmjniedfiabhaaSymL
import Derived.Test.YthmjniedfiabhaaSymM
import Derived.Test.YthmjniedfiabhaaFngG
import Derived.Test.YthmjniedfiabhaaFngH
import Derived.Test.YthmjniedfiabhaaSymI
namespace Go.Proofs.Ythmjniedfiabhaa
open Go.ChangeShapes Go.WideShapes Go.ChangeAt Go.RowKit
set_option linter.unusedVariables false
set_option linter.unusedSimpArgs false

/-- An export whose lists are short enough to be tried. -/
def smE (x : Ex) : Prop := x.nm.size ≤ 200 ∧ x.ps.length ≤ 40

instance (x : Ex) : Decidable (smE x) := by unfold smE; infer_instance

/-- A file that is tried. -/
def smF (md : ByteArray) (im : List Im) (es : List Exx) : Prop := (im.length ≤ 80 ∧ es.length ≤ 60 ∧ md.size ≤ 200) ∧ ∀ x ∈ es, smE x.1

instance (md : ByteArray) (im : List Im) (es : List Exx) : Decidable (smF md im es) := by unfold smF; infer_instance

/-- Are two files one? -/
noncomputable def sameFl (f g : Fl) : Bool := @decide (f = g) (Classical.propDecidable _)

theorem sameFl_yes {f g : Fl} (h : f = g) : sameFl f g = true := @decide_eq_true _ (Classical.propDecidable _) h

theorem sameFl_no {f g : Fl} (h : f ≠ g) : sameFl f g = false := @decide_eq_false _ (Classical.propDecidable _) h

theorem sameFl_parts (f g : Fl) (h1 : f.md = g.md) (h2 : f.key = g.key) (h3 : f.ims = g.ims) : sameFl f g = alike f.exs g.exs := by
  by_cases h : f.exs = g.exs
  · rw [alike_yes h, sameFl_yes]
    obtain ⟨a, b, c, d⟩ := f
    obtain ⟨a', b', c', d'⟩ := g
    simp only at h1 h2 h3 h
    rw [h1, h2, h3, h]
  · rw [alike_no h, sameFl_no (fun e => h (by rw [e]))]

set_option maxHeartbeats 16000000 in
set_option maxRecDepth 100000 in
theorem small14_any (md : ByteArray) (key : Int) (Ai : Option Addr) (im : List Im) (ci : Nat) (Ae : Option Addr) (es : List Exx) (ce : Nat) (B : Nat) (w : World) (he : ExpR B w (.slice Ae es.length ce) es) (hin : im.length ≤ 140737488355328) (hen : es.length ≤ 140737488355328) (hmd : md.size ≤ 140737488355328) (hs : ∀ e ∈ es, e.1.nm.size ≤ 140737488355328 ∧ e.1.ps.length * 16 ≤ 140737488355328) :
    Calls Try.prog 8 #[.agg #[.string md, .int .u32 key, .slice Ai im.length ci, .slice Ae es.length ce]] w fun e w' => e = .returned (.bool (decide (smF md im es))) ∧ Below w.heap.size w w' := by
  have BA := Lib.hid ((Below.refl w.heap.size w).alloc (Nat.le_refl _) (.cells #[.string md, .int .u32 key, .slice Ai im.length ci, .slice Ae es.length ce] flT))
  have X := Lib.hid (Whole.made w flT #[.string md, .int .u32 key, .slice Ai im.length ci, .slice Ae es.length ce] _ rfl)
  have q0 : (w.alloc (.cells #[.string md, .int .u32 key, .slice Ai im.length ci, .slice Ae es.length ce] flT)).cell? ⟨w.heap.size, 0, none⟩ = some (.string md) := X.out.cell 0
  have q1 : (w.alloc (.cells #[.string md, .int .u32 key, .slice Ai im.length ci, .slice Ae es.length ce] flT)).cell? ⟨w.heap.size, 1, none⟩ = some (.int .u32 key) := X.out.cell 1
  have q2 : (w.alloc (.cells #[.string md, .int .u32 key, .slice Ai im.length ci, .slice Ae es.length ce] flT)).cell? ⟨w.heap.size, 2, none⟩ = some (.slice Ai im.length ci) := X.out.cell 2
  have q3 : (w.alloc (.cells #[.string md, .int .u32 key, .slice Ai im.length ci, .slice Ae es.length ce] flT)).cell? ⟨w.heap.size, 3, none⟩ = some (.slice Ae es.length ce) := X.out.cell 3
  have HE := Lib.hid (he.below BA.out)
  have HS := Lib.hid hs
  have RN := Lib.hid (show ¬ (im.length ≤ 80 ∧ es.length ≤ 60 ∧ md.size ≤ 200) → decide (smF md im es) = false from fun h => decide_eq_false (fun h' => h h'.1))
  have RX := Lib.hid (show ∀ x ∈ es, ¬ smE x.1 → decide (smF md im es) = false from fun x hx h => decide_eq_false (fun h' => h (h'.2 x hx)))
  have RY := Lib.hid (show (im.length ≤ 80 ∧ es.length ≤ 60 ∧ md.size ≤ 200) → (∀ x ∈ es, smE x.1) → decide (smF md im es) = true from fun h h' => decide_eq_true ⟨h, h'⟩)
  generalize decide (smF md im es) = r at *
  clear he hs
  by_cases h1 : 80 < im.length
  · have d1 : decide ((80 : Int) < im.length) = true := decide_eq_true (by omega)
    have R := Lib.hid (RN.out (by omega))
    go_enter Try.func8, Try.ntmps8
    go_wp2_with fail
    go_ret
    rw [R.out]
    exact ⟨rfl, BA.out⟩
  have d1 : decide ((80 : Int) < im.length) = false := decide_eq_false (by omega)
  by_cases h2 : 60 < es.length
  · have d2 : decide ((60 : Int) < es.length) = true := decide_eq_true (by omega)
    have R := Lib.hid (RN.out (by omega))
    go_enter Try.func8, Try.ntmps8
    go_wp2_with fail
    go_ret
    rw [R.out]
    exact ⟨rfl, BA.out⟩
  have d2 : decide ((60 : Int) < es.length) = false := decide_eq_false (by omega)
  by_cases h3 : 200 < md.size
  · have d3 : decide ((200 : Int) < md.size) = true := decide_eq_true (by omega)
    have R := Lib.hid (RN.out (by omega))
    go_enter Try.func8, Try.ntmps8
    go_wp2_with fail
    go_ret
    rw [R.out]
    exact ⟨rfl, BA.out⟩
  have d3 : decide ((200 : Int) < md.size) = false := decide_eq_false (by omega)
  go_enter Try.func8, Try.ntmps8
  go_wp2_with fail
  generalize (w.alloc (.cells #[.string md, .int .u32 key, .slice Ai im.length ci, .slice Ae es.length ce] flT)) = V at *
  clear q0 q1 q2 q3
  go_loop [3] (fun i => ∃ t : Nat, t ≤ es.length ∧ i = .int .i64 t ∧ ∀ x ∈ es.take t, smE x.1) (fun i => es.length - (intOf i).toNat)
  case atStart => exact ⟨0, Nat.zero_le _, rfl, (fun x h => by cases h)⟩
  case round =>
    obtain ⟨t, ht, rfl, hp⟩ := hrel
    have HP := Lib.hid hp
    clear hp
    have q3 : V.cell? ⟨w.heap.size, 3, none⟩ = some (.slice Ae es.length ce) := X.out.cell 3
    by_cases hlt : t < es.length
    · have hJ : (t : Int) < es.length := by omega
      have MM := Lib.hid (getD_mem zEx hlt)
      have TK := Lib.hid (take_snoc es zEx hlt)
      obtain ⟨b, off, rfl, hbl, nm, kd, ty, vl, ps, Ap, cp, hX, hpar, hc⟩ := HE.out.at hlt
      have hok := HS.out _ MM.out
      rw [hX] at hok TK MM
      have hok1 : nm.size ≤ 140737488355328 := hok.1
      have hok2 : ps.length * 16 ≤ 140737488355328 := hok.2
      have x0 : V.cell? ⟨b, off + t * 5, none⟩ = some (.string nm) := hc 0 _ rfl
      have x4 : V.cell? ⟨b, off + t * 5 + 4, none⟩ = some (.slice Ap ps.length cp) := hc 4 _ rfl
      clear hX hok hpar hc
      by_cases h4 : 200 < nm.size
      · have d4 : decide ((200 : Int) < nm.size) = true := decide_eq_true (by omega)
        have R := Lib.hid (RX.out _ MM.out (fun h => by have := h.1; simp at this; omega))
        go_wp2_with fail
        go_ret
        rw [R.out]
        exact ⟨rfl, BA.out⟩
      · have d4 : decide ((200 : Int) < nm.size) = false := decide_eq_false (by omega)
        by_cases h5 : 40 < ps.length
        · have d5 : decide ((40 : Int) < ps.length) = true := decide_eq_true (by omega)
          have R := Lib.hid (RX.out _ MM.out (fun h => by have := h.2; simp at this; omega))
          go_wp2_with fail
          go_ret
          rw [R.out]
          exact ⟨rfl, BA.out⟩
        · have d5 : decide ((40 : Int) < ps.length) = false := decide_eq_false (by omega)
          go_wp2_with fail
          go_round
          case rel =>
            refine ⟨t + 1, by omega, by go_num, ?_⟩
            rw [TK.out]
            intro x hx
            rcases List.mem_append.1 hx with hx | hx
            · exact HP.out x hx
            · obtain rfl := List.mem_singleton.1 hx
              exact ⟨by show nm.size ≤ 200; omega, by show ps.length ≤ 40; omega⟩
          case measure => simp [intOf]; omega
    · have hJ : ¬ (t : Int) < es.length := by omega
      obtain rfl : t = es.length := by omega
      have R := Lib.hid (RY.out (by omega) (by have := HP.out; rwa [List.take_length] at this))
      go_wp2_with fail
      go_ret
      rw [R.out]
      exact ⟨rfl, BA.out⟩

set_option maxHeartbeats 16000000 in
set_option maxRecDepth 100000 in
theorem ref14_any (md : ByteArray) (key : Int) (Ai : Option Addr) (im : List Im) (ci : Nat) (Ae : Option Addr) (es : List Exx) (ce : Nat) (w : World) :
    Calls Try.prog 15 #[.agg #[.string md, .int .u32 key, .slice Ai im.length ci, .slice Ae es.length ce]] w fun e w' => e = .returned (.agg #[.string md, .int .u32 key, .slice Ai im.length ci, .slice Ae es.length ce]) ∧ Below w.heap.size w w' := by
  have X1 := Lib.hid ((Whole.made w flT #[.string md, .int .u32 key, .slice Ai im.length ci, .slice Ae es.length ce] _ rfl).alloc (.cells #[.string ⟨#[]⟩, .int .u32 0, .slice none 0 0, .slice none 0 0] rlT))
  have X2 := Lib.hid (Whole.made (w.alloc (.cells #[.string md, .int .u32 key, .slice Ai im.length ci, .slice Ae es.length ce] flT)) rlT #[.string md, .int .u32 key, .slice Ai im.length ci, .slice Ae es.length ce] (w.heap.size + 1) (by simp))
  have B2 := Lib.hid (show Below w.heap.size w ((w.alloc (.cells #[.string md, .int .u32 key, .slice Ai im.length ci, .slice Ae es.length ce] flT)).alloc (.cells #[.string md, .int .u32 key, .slice Ai im.length ci, .slice Ae es.length ce] rlT)) from ((Below.refl w.heap.size w).alloc (Nat.le_refl _) _).alloc (by simp) _)
  have q0 : ((w.alloc (.cells #[.string md, .int .u32 key, .slice Ai im.length ci, .slice Ae es.length ce] flT)).alloc (.cells #[.string ⟨#[]⟩, .int .u32 0, .slice none 0 0, .slice none 0 0] rlT)).cell? ⟨w.heap.size, 0, none⟩ = some (.string md) := X1.out.cell 0
  have q1 : ((w.alloc (.cells #[.string md, .int .u32 key, .slice Ai im.length ci, .slice Ae es.length ce] flT)).alloc (.cells #[.string ⟨#[]⟩, .int .u32 0, .slice none 0 0, .slice none 0 0] rlT)).cell? ⟨w.heap.size, 1, none⟩ = some (.int .u32 key) := X1.out.cell 1
  have q2 : ((w.alloc (.cells #[.string md, .int .u32 key, .slice Ai im.length ci, .slice Ae es.length ce] flT)).alloc (.cells #[.string ⟨#[]⟩, .int .u32 0, .slice none 0 0, .slice none 0 0] rlT)).cell? ⟨w.heap.size, 2, none⟩ = some (.slice Ai im.length ci) := X1.out.cell 2
  have q3 : ((w.alloc (.cells #[.string md, .int .u32 key, .slice Ai im.length ci, .slice Ae es.length ce] flT)).alloc (.cells #[.string ⟨#[]⟩, .int .u32 0, .slice none 0 0, .slice none 0 0] rlT)).cell? ⟨w.heap.size, 3, none⟩ = some (.slice Ae es.length ce) := X1.out.cell 3
  have r0 : ((w.alloc (.cells #[.string md, .int .u32 key, .slice Ai im.length ci, .slice Ae es.length ce] flT)).alloc (.cells #[.string md, .int .u32 key, .slice Ai im.length ci, .slice Ae es.length ce] rlT)).cell? ⟨w.heap.size + 1, 0, none⟩ = some (.string md) := X2.out.cell 0
  have r1 : ((w.alloc (.cells #[.string md, .int .u32 key, .slice Ai im.length ci, .slice Ae es.length ce] flT)).alloc (.cells #[.string md, .int .u32 key, .slice Ai im.length ci, .slice Ae es.length ce] rlT)).cell? ⟨w.heap.size + 1, 1, none⟩ = some (.int .u32 key) := X2.out.cell 1
  have r2 : ((w.alloc (.cells #[.string md, .int .u32 key, .slice Ai im.length ci, .slice Ae es.length ce] flT)).alloc (.cells #[.string md, .int .u32 key, .slice Ai im.length ci, .slice Ae es.length ce] rlT)).cell? ⟨w.heap.size + 1, 2, none⟩ = some (.slice Ai im.length ci) := X2.out.cell 2
  have r3 : ((w.alloc (.cells #[.string md, .int .u32 key, .slice Ai im.length ci, .slice Ae es.length ce] flT)).alloc (.cells #[.string md, .int .u32 key, .slice Ai im.length ci, .slice Ae es.length ce] rlT)).cell? ⟨w.heap.size + 1, 3, none⟩ = some (.slice Ae es.length ce) := X2.out.cell 3
  go_enter Try.func15, Try.ntmps15
  go_wp2_with fail
  refine bodyPost_ret (v := .agg #[.string md, .int .u32 key, .slice Ai im.length ci, .slice Ae es.length ce]) ?_ rfl ⟨rfl, B2.out⟩
  simp [results, Try.results15, go_sem, r0, r1, r2, r3]

set_option maxHeartbeats 16000000 in
set_option maxRecDepth 100000 in
theorem is14_any (md : ByteArray) (key : Int) (Ai : Option Addr) (im : List Im) (ci : Nat) (Ae : Option Addr) (es : List Exx) (ce : Nat) (md' : ByteArray) (key' : Int) (Ai' : Option Addr) (im' : List Im) (ci' : Nat) (Ae' : Option Addr) (es' : List Exx) (ce' : Nat) (B1 B2 E1 E2 : Nat) (w : World) (hi1 : ImV B1 w (.slice Ai im.length ci) im) (hi2 : ImV B2 w (.slice Ai' im'.length ci') im') (he1 : ExpR E1 w (.slice Ae es.length ce) es) (he2 : ExpR E2 w (.slice Ae' es'.length ce') es')
    (n1 : im.length ≤ 140737488355328) (n2 : im'.length ≤ 140737488355328) (hn : es.length * 64 ≤ 140737488355328) (hn2 : es'.length * 64 ≤ 140737488355328) (ho1 : ∀ x ∈ es, x.1.ps.length * 16 ≤ 140737488355328) (ho2 : ∀ x ∈ es', x.1.ps.length * 16 ≤ 140737488355328) :
    Calls Try.prog 22 #[.agg #[.string md, .int .u32 key, .slice Ai im.length ci, .slice Ae es.length ce], .agg #[.string md', .int .u32 key', .slice Ai' im'.length ci', .slice Ae' es'.length ce']] w fun e w' => e = .returned (.bool (sameFl ⟨md, key, im, es.map (·.1)⟩ ⟨md', key', im', es'.map (·.1)⟩)) ∧ Below w.heap.size w w' := by
  have X1 := Lib.hid ((Whole.made w flT #[.string md, .int .u32 key, .slice Ai im.length ci, .slice Ae es.length ce] _ rfl).alloc (.cells #[.string md', .int .u32 key', .slice Ai' im'.length ci', .slice Ae' es'.length ce'] rlT))
  have X2 := Lib.hid (Whole.made (w.alloc (.cells #[.string md, .int .u32 key, .slice Ai im.length ci, .slice Ae es.length ce] flT)) rlT #[.string md', .int .u32 key', .slice Ai' im'.length ci', .slice Ae' es'.length ce'] (w.heap.size + 1) (by simp))
  have BA := Lib.hid (show Below w.heap.size w ((w.alloc (.cells #[.string md, .int .u32 key, .slice Ai im.length ci, .slice Ae es.length ce] flT)).alloc (.cells #[.string md', .int .u32 key', .slice Ai' im'.length ci', .slice Ae' es'.length ce'] rlT)) from ((Below.refl w.heap.size w).alloc (Nat.le_refl _) _).alloc (by simp) _)
  have q0 : ((w.alloc (.cells #[.string md, .int .u32 key, .slice Ai im.length ci, .slice Ae es.length ce] flT)).alloc (.cells #[.string md', .int .u32 key', .slice Ai' im'.length ci', .slice Ae' es'.length ce'] rlT)).cell? ⟨w.heap.size, 0, none⟩ = some (.string md) := X1.out.cell 0
  have q1 : ((w.alloc (.cells #[.string md, .int .u32 key, .slice Ai im.length ci, .slice Ae es.length ce] flT)).alloc (.cells #[.string md', .int .u32 key', .slice Ai' im'.length ci', .slice Ae' es'.length ce'] rlT)).cell? ⟨w.heap.size, 1, none⟩ = some (.int .u32 key) := X1.out.cell 1
  have q2 : ((w.alloc (.cells #[.string md, .int .u32 key, .slice Ai im.length ci, .slice Ae es.length ce] flT)).alloc (.cells #[.string md', .int .u32 key', .slice Ai' im'.length ci', .slice Ae' es'.length ce'] rlT)).cell? ⟨w.heap.size, 2, none⟩ = some (.slice Ai im.length ci) := X1.out.cell 2
  have q3 : ((w.alloc (.cells #[.string md, .int .u32 key, .slice Ai im.length ci, .slice Ae es.length ce] flT)).alloc (.cells #[.string md', .int .u32 key', .slice Ai' im'.length ci', .slice Ae' es'.length ce'] rlT)).cell? ⟨w.heap.size, 3, none⟩ = some (.slice Ae es.length ce) := X1.out.cell 3
  have r0 : ((w.alloc (.cells #[.string md, .int .u32 key, .slice Ai im.length ci, .slice Ae es.length ce] flT)).alloc (.cells #[.string md', .int .u32 key', .slice Ai' im'.length ci', .slice Ae' es'.length ce'] rlT)).cell? ⟨w.heap.size + 1, 0, none⟩ = some (.string md') := X2.out.cell 0
  have r1 : ((w.alloc (.cells #[.string md, .int .u32 key, .slice Ai im.length ci, .slice Ae es.length ce] flT)).alloc (.cells #[.string md', .int .u32 key', .slice Ai' im'.length ci', .slice Ae' es'.length ce'] rlT)).cell? ⟨w.heap.size + 1, 1, none⟩ = some (.int .u32 key') := X2.out.cell 1
  have r2 : ((w.alloc (.cells #[.string md, .int .u32 key, .slice Ai im.length ci, .slice Ae es.length ce] flT)).alloc (.cells #[.string md', .int .u32 key', .slice Ai' im'.length ci', .slice Ae' es'.length ce'] rlT)).cell? ⟨w.heap.size + 1, 2, none⟩ = some (.slice Ai' im'.length ci') := X2.out.cell 2
  have r3 : ((w.alloc (.cells #[.string md, .int .u32 key, .slice Ai im.length ci, .slice Ae es.length ce] flT)).alloc (.cells #[.string md', .int .u32 key', .slice Ai' im'.length ci', .slice Ae' es'.length ce'] rlT)).cell? ⟨w.heap.size + 1, 3, none⟩ = some (.slice Ae' es'.length ce') := X2.out.cell 3
  have IC := Lib.hid (uses_any Ai Ai' ci ci' B1 B2 im im' ((w.alloc (.cells #[.string md, .int .u32 key, .slice Ai im.length ci, .slice Ae es.length ce] flT)).alloc (.cells #[.string md', .int .u32 key', .slice Ai' im'.length ci', .slice Ae' es'.length ce'] rlT)) (hi1.below BA.out) (hi2.below BA.out) n1 n2)
  have EC := Lib.hid (fun W (hb : Below w.heap.size w W) => exsame_any Ae Ae' ce ce' E1 E2 es es' W (he1.below hb) (he2.below hb) hn hn2 ho1 ho2)
  have RN := Lib.hid (show ¬ (md = md' ∧ key = key' ∧ im = im') → sameFl ⟨md, key, im, es.map (·.1)⟩ ⟨md', key', im', es'.map (·.1)⟩ = false from fun h => sameFl_no (fun e => h (by
    injection e with e1 e2 e3 e4
    exact ⟨e1, e2, e3⟩)))
  have RY := Lib.hid (show (md = md' ∧ key = key' ∧ im = im') → sameFl ⟨md, key, im, es.map (·.1)⟩ ⟨md', key', im', es'.map (·.1)⟩ = alike (es.map (·.1)) (es'.map (·.1)) from fun h => sameFl_parts _ _ h.1 h.2.1 h.2.2)
  generalize sameFl ⟨md, key, im, es.map (·.1)⟩ ⟨md', key', im', es'.map (·.1)⟩ = r at *
  generalize alike (es.map (·.1)) (es'.map (·.1)) = al at *
  clear hi1 hi2 he1 he2 ho1 ho2
  by_cases h1 : md = md'
  case neg =>
    have d1 := nm_ne h1
    have R := Lib.hid (RN.out (fun h => h1 h.1))
    clear h1
    go_enter Try.func22, Try.ntmps22
    go_wp2_with fail
    go_ret
    rw [R.out]
    exact ⟨rfl, BA.out⟩
  have d1 : (md.toList == md'.toList) = true := by rw [h1]; simp
  by_cases h2 : key = key'
  case neg =>
    have d2 : (key == key') = false := by simp [h2]
    have R := Lib.hid (RN.out (fun h => h2 h.2.1))
    clear h1 h2
    go_enter Try.func22, Try.ntmps22
    go_wp2_with fail
    go_ret
    rw [R.out]
    exact ⟨rfl, BA.out⟩
  have d2 : (key == key') = true := by simp [h2]
  by_cases h3 : im = im'
  case neg =>
    have R := Lib.hid (RN.out (fun h => h3 h.2.2))
    rw [sameI_no h3] at IC
    clear h1 h2 h3
    go_enter Try.func22, Try.ntmps22
    go_wp2_with fail
    refine IC.out.mono ?_
    rintro e w1 ⟨rfl, hb1⟩
    have B1' := Lib.hid (BA.out.trans (hb1.mono BA.out.size))
    clear hb1
    go_wp2_with fail
    go_ret
    rw [R.out]
    exact ⟨rfl, B1'.out⟩
  have R := Lib.hid (RY.out ⟨h1, h2, h3⟩)
  rw [sameI_yes h3] at IC
  clear h1 h2 h3
  go_enter Try.func22, Try.ntmps22
  go_wp2_with fail
  refine IC.out.mono ?_
  rintro e w1 ⟨rfl, hb1⟩
  have B1' := Lib.hid (BA.out.trans (hb1.mono BA.out.size))
  have Y1 := Lib.hid (X1.out.below hb1 X1.out.lt)
  have Y2 := Lib.hid (X2.out.below hb1 X2.out.lt)
  have E1' := Lib.hid (EC.out w1 B1'.out)
  have q3' : w1.cell? ⟨w.heap.size, 3, none⟩ = some (.slice Ae es.length ce) := Y1.out.cell 3
  have r3' : w1.cell? ⟨w.heap.size + 1, 3, none⟩ = some (.slice Ae' es'.length ce') := Y2.out.cell 3
  clear hb1 q0 q1 q2 q3 r0 r1 r2 r3
  go_wp2_with fail
  refine E1'.out.mono ?_
  rintro e w2 ⟨rfl, hb2⟩
  have B2' := Lib.hid (B1'.out.trans (hb2.mono B1'.out.size))
  clear hb2
  go_wp2_with fail
  go_ret
  rw [R.out]
  exact ⟨rfl, B2'.out⟩

set_option maxHeartbeats 16000000 in
set_option maxRecDepth 100000 in
theorem same14_any (md : ByteArray) (key : Int) (Ai : Option Addr) (im : List Im) (ci : Nat) (Ae : Option Addr) (es : List Exx) (ce : Nat) (md' : ByteArray) (key' : Int) (Ai' : Option Addr) (im' : List Im) (ci' : Nat) (Ae' : Option Addr) (es' : List Exx) (ce' : Nat) (B1 B2 E1 E2 : Nat) (w : World) (hi1 : ImV B1 w (.slice Ai im.length ci) im) (hi2 : ImV B2 w (.slice Ai' im'.length ci') im') (he1 : ExpR E1 w (.slice Ae es.length ce) es) (he2 : ExpR E2 w (.slice Ae' es'.length ce') es')
    (n1 : im.length ≤ 140737488355328) (n2 : im'.length ≤ 140737488355328) (hn : es.length * 64 ≤ 140737488355328) (hn2 : es'.length * 64 ≤ 140737488355328) (ho1 : ∀ x ∈ es, x.1.ps.length * 16 ≤ 140737488355328) (ho2 : ∀ x ∈ es', x.1.ps.length * 16 ≤ 140737488355328) :
    Calls Try.prog 23 #[.agg #[.string md, .int .u32 key, .slice Ai im.length ci, .slice Ae es.length ce], .agg #[.string md', .int .u32 key', .slice Ai' im'.length ci', .slice Ae' es'.length ce']] w fun e w' => e = .returned (.bool (sameFl ⟨md, key, im, es.map (·.1)⟩ ⟨md', key', im', es'.map (·.1)⟩)) ∧ Below w.heap.size w w' := by
  have X1 := Lib.hid ((Whole.made w flT #[.string md, .int .u32 key, .slice Ai im.length ci, .slice Ae es.length ce] _ rfl).alloc (.cells #[.string md', .int .u32 key', .slice Ai' im'.length ci', .slice Ae' es'.length ce'] flT))
  have X2 := Lib.hid (Whole.made (w.alloc (.cells #[.string md, .int .u32 key, .slice Ai im.length ci, .slice Ae es.length ce] flT)) flT #[.string md', .int .u32 key', .slice Ai' im'.length ci', .slice Ae' es'.length ce'] (w.heap.size + 1) (by simp))
  have BA := Lib.hid (show Below w.heap.size w ((w.alloc (.cells #[.string md, .int .u32 key, .slice Ai im.length ci, .slice Ae es.length ce] flT)).alloc (.cells #[.string md', .int .u32 key', .slice Ai' im'.length ci', .slice Ae' es'.length ce'] flT)) from ((Below.refl w.heap.size w).alloc (Nat.le_refl _) _).alloc (by simp) _)
  have q0 : ((w.alloc (.cells #[.string md, .int .u32 key, .slice Ai im.length ci, .slice Ae es.length ce] flT)).alloc (.cells #[.string md', .int .u32 key', .slice Ai' im'.length ci', .slice Ae' es'.length ce'] flT)).cell? ⟨w.heap.size, 0, none⟩ = some (.string md) := X1.out.cell 0
  have q1 : ((w.alloc (.cells #[.string md, .int .u32 key, .slice Ai im.length ci, .slice Ae es.length ce] flT)).alloc (.cells #[.string md', .int .u32 key', .slice Ai' im'.length ci', .slice Ae' es'.length ce'] flT)).cell? ⟨w.heap.size, 1, none⟩ = some (.int .u32 key) := X1.out.cell 1
  have q2 : ((w.alloc (.cells #[.string md, .int .u32 key, .slice Ai im.length ci, .slice Ae es.length ce] flT)).alloc (.cells #[.string md', .int .u32 key', .slice Ai' im'.length ci', .slice Ae' es'.length ce'] flT)).cell? ⟨w.heap.size, 2, none⟩ = some (.slice Ai im.length ci) := X1.out.cell 2
  have q3 : ((w.alloc (.cells #[.string md, .int .u32 key, .slice Ai im.length ci, .slice Ae es.length ce] flT)).alloc (.cells #[.string md', .int .u32 key', .slice Ai' im'.length ci', .slice Ae' es'.length ce'] flT)).cell? ⟨w.heap.size, 3, none⟩ = some (.slice Ae es.length ce) := X1.out.cell 3
  have r0 : ((w.alloc (.cells #[.string md, .int .u32 key, .slice Ai im.length ci, .slice Ae es.length ce] flT)).alloc (.cells #[.string md', .int .u32 key', .slice Ai' im'.length ci', .slice Ae' es'.length ce'] flT)).cell? ⟨w.heap.size + 1, 0, none⟩ = some (.string md') := X2.out.cell 0
  have r1 : ((w.alloc (.cells #[.string md, .int .u32 key, .slice Ai im.length ci, .slice Ae es.length ce] flT)).alloc (.cells #[.string md', .int .u32 key', .slice Ai' im'.length ci', .slice Ae' es'.length ce'] flT)).cell? ⟨w.heap.size + 1, 1, none⟩ = some (.int .u32 key') := X2.out.cell 1
  have r2 : ((w.alloc (.cells #[.string md, .int .u32 key, .slice Ai im.length ci, .slice Ae es.length ce] flT)).alloc (.cells #[.string md', .int .u32 key', .slice Ai' im'.length ci', .slice Ae' es'.length ce'] flT)).cell? ⟨w.heap.size + 1, 2, none⟩ = some (.slice Ai' im'.length ci') := X2.out.cell 2
  have r3 : ((w.alloc (.cells #[.string md, .int .u32 key, .slice Ai im.length ci, .slice Ae es.length ce] flT)).alloc (.cells #[.string md', .int .u32 key', .slice Ai' im'.length ci', .slice Ae' es'.length ce'] flT)).cell? ⟨w.heap.size + 1, 3, none⟩ = some (.slice Ae' es'.length ce') := X2.out.cell 3
  have IC := Lib.hid (iequal_any Ai Ai' ci ci' B1 B2 im im' ((w.alloc (.cells #[.string md, .int .u32 key, .slice Ai im.length ci, .slice Ae es.length ce] flT)).alloc (.cells #[.string md', .int .u32 key', .slice Ai' im'.length ci', .slice Ae' es'.length ce'] flT)) (hi1.below BA.out) (hi2.below BA.out) n1 n2)
  have EC := Lib.hid (fun W (hb : Below w.heap.size w W) => fsame_any Ae Ae' ce ce' E1 E2 es es' W (he1.below hb) (he2.below hb) hn hn2 ho1 ho2)
  have RN := Lib.hid (show ¬ (md = md' ∧ key = key' ∧ im = im') → sameFl ⟨md, key, im, es.map (·.1)⟩ ⟨md', key', im', es'.map (·.1)⟩ = false from fun h => sameFl_no (fun e => h (by
    injection e with e1 e2 e3 e4
    exact ⟨e1, e2, e3⟩)))
  have RY := Lib.hid (show (md = md' ∧ key = key' ∧ im = im') → sameFl ⟨md, key, im, es.map (·.1)⟩ ⟨md', key', im', es'.map (·.1)⟩ = alike (es.map (·.1)) (es'.map (·.1)) from fun h => sameFl_parts _ _ h.1 h.2.1 h.2.2)
  generalize sameFl ⟨md, key, im, es.map (·.1)⟩ ⟨md', key', im', es'.map (·.1)⟩ = r at *
  generalize alike (es.map (·.1)) (es'.map (·.1)) = al at *
  clear hi1 hi2 he1 he2 ho1 ho2
  by_cases h1 : md = md'
  case neg =>
    have d1 := nm_ne h1
    have R := Lib.hid (RN.out (fun h => h1 h.1))
    clear h1
    go_enter Try.func23, Try.ntmps23
    go_wp2_with fail
    go_ret
    rw [R.out]
    exact ⟨rfl, BA.out⟩
  have d1 : (md.toList == md'.toList) = true := by rw [h1]; simp
  by_cases h2 : key = key'
  case neg =>
    have d2 : (key == key') = false := by simp [h2]
    have R := Lib.hid (RN.out (fun h => h2 h.2.1))
    clear h1 h2
    go_enter Try.func23, Try.ntmps23
    go_wp2_with fail
    go_ret
    rw [R.out]
    exact ⟨rfl, BA.out⟩
  have d2 : (key == key') = true := by simp [h2]
  by_cases h3 : im = im'
  case neg =>
    have R := Lib.hid (RN.out (fun h => h3 h.2.2))
    rw [sameI_no h3] at IC
    clear h1 h2 h3
    go_enter Try.func23, Try.ntmps23
    go_wp2_with fail
    refine IC.out.mono ?_
    rintro e w1 ⟨rfl, hb1⟩
    have B1' := Lib.hid (BA.out.trans (hb1.mono BA.out.size))
    clear hb1
    go_wp2_with fail
    go_ret
    rw [R.out]
    exact ⟨rfl, B1'.out⟩
  have R := Lib.hid (RY.out ⟨h1, h2, h3⟩)
  rw [sameI_yes h3] at IC
  clear h1 h2 h3
  go_enter Try.func23, Try.ntmps23
  go_wp2_with fail
  refine IC.out.mono ?_
  rintro e w1 ⟨rfl, hb1⟩
  have B1' := Lib.hid (BA.out.trans (hb1.mono BA.out.size))
  have Y1 := Lib.hid (X1.out.below hb1 X1.out.lt)
  have Y2 := Lib.hid (X2.out.below hb1 X2.out.lt)
  have E1' := Lib.hid (EC.out w1 B1'.out)
  have q3' : w1.cell? ⟨w.heap.size, 3, none⟩ = some (.slice Ae es.length ce) := Y1.out.cell 3
  have r3' : w1.cell? ⟨w.heap.size + 1, 3, none⟩ = some (.slice Ae' es'.length ce') := Y2.out.cell 3
  clear hb1 q0 q1 q2 q3 r0 r1 r2 r3
  go_wp2_with fail
  refine E1'.out.mono ?_
  rintro e w2 ⟨rfl, hb2⟩
  have B2' := Lib.hid (B1'.out.trans (hb2.mono B1'.out.size))
  clear hb2
  go_wp2_with fail
  go_ret
  rw [R.out]
  exact ⟨rfl, B2'.out⟩

theorem awake_name : nameOk ⟨#[77]⟩ := by
  refine ⟨fun j hj => ?_, by decide, by decide⟩
  have hj : j < 1 := hj
  obtain rfl : j = 0 := by omega
  exact .inl (.inl (by decide))

theorem awake_check : checkP ⟨⟨#[77]⟩, keyP ⟨#[77]⟩ [], [], []⟩ = 0 := by
  rw [checkP_key awake_name rfl (Nat.zero_le _) rfl, if_neg (fun h => h rfl)]

set_option maxHeartbeats 16000000 in
set_option maxRecDepth 100000 in
theorem awake14_any (w : World) : Calls Try.prog 7 #[] w fun e w' => e = .returned (.bool true) ∧ Below w.heap.size w w' := by
  have MK := Lib.hid (make_any ⟨#[77]⟩ none [] 0 none [] 0 w.heap.size w (ImV.nil _ _ _ _) ⟨none, 0, rfl, fun h => absurd rfl h, fun e h => by cases h⟩ ⟨by decide, Nat.zero_le _, fun x h => by cases h⟩ (Nat.zero_le _) (fun x h => by cases h))
  go_enter Try.func7, Try.ntmps7
  go_wp2_with fail
  refine MK.out.mono ?_
  rintro e w1 ⟨vi, ve, l, rfl, hb1, hi, he, hm⟩
  obtain rfl : l = [] := List.map_eq_nil_iff.1 hm
  obtain ⟨A1, c1, rfl⟩ := row_form hi
  obtain ⟨A2, c2, rfl⟩ := row_form he.row
  have KE := Lib.hid awake_check
  generalize hk : keyP ⟨#[77]⟩ (([] : List Exx).map (·.1)) = key at *
  have CH0 := Lib.hid (show checkP ⟨⟨#[77]⟩, key, [], ([] : List Exx).map (·.1)⟩ = 0 from by rw [← hk]; exact awake_check)
  have bA := (Below.refl w1.heap.size w1).alloc (Nat.le_refl _) (.cells #[.string ⟨#[77]⟩, .int .u32 key, .slice A1 0 c1, .slice A2 0 c2] flT)
  have X := Lib.hid (Whole.made w1 flT #[.string ⟨#[77]⟩, .int .u32 key, .slice A1 0 c1, .slice A2 0 c2] _ rfl)
  have BB := Lib.hid (hb1.trans (bA.mono hb1.size))
  have CH := Lib.hid (check_any ⟨#[77]⟩ key A1 [] c1 A2 [] c2 w1.heap.size w1.heap.size _ (ImV.nil w1.heap.size (w1.alloc (.cells #[.string ⟨#[77]⟩, .int .u32 key, .slice A1 0 c1, .slice A2 0 c2] flT)) A1 c1) ⟨A2, c2, rfl, fun h => absurd rfl h, fun e h => by cases h⟩ ⟨by decide, Nat.zero_le _, fun x h => by cases h⟩ (Nat.zero_le _) (fun x h => by cases h))
  rw [CH0.out] at CH
  have q0 : (w1.alloc (.cells #[.string ⟨#[77]⟩, .int .u32 key, .slice A1 0 c1, .slice A2 0 c2] flT)).cell? ⟨w1.heap.size, 0, none⟩ = some (.string ⟨#[77]⟩) := X.out.cell 0
  have q1 : (w1.alloc (.cells #[.string ⟨#[77]⟩, .int .u32 key, .slice A1 0 c1, .slice A2 0 c2] flT)).cell? ⟨w1.heap.size, 1, none⟩ = some (.int .u32 key) := X.out.cell 1
  have q2 : (w1.alloc (.cells #[.string ⟨#[77]⟩, .int .u32 key, .slice A1 0 c1, .slice A2 0 c2] flT)).cell? ⟨w1.heap.size, 2, none⟩ = some (.slice A1 0 c1) := X.out.cell 2
  have q3 : (w1.alloc (.cells #[.string ⟨#[77]⟩, .int .u32 key, .slice A1 0 c1, .slice A2 0 c2] flT)).cell? ⟨w1.heap.size, 3, none⟩ = some (.slice A2 0 c2) := X.out.cell 3
  clear hb1 hi he hm hk bA MK KE
  go_wp2_with fail
  refine CH.out.mono ?_
  rintro e w2 ⟨rfl, hb2⟩
  have B2 := Lib.hid (BB.out.trans (hb2.mono BB.out.size))
  have X2 := Lib.hid (X.out.below hb2 X.out.lt)
  have q0' : w2.cell? ⟨w1.heap.size, 0, none⟩ = some (.string ⟨#[77]⟩) := X2.out.cell 0
  clear hb2 q0 q1 q2 q3
  go_wp2_with fail
  go_ret
  exact ⟨rfl, B2.out⟩
end Go.Proofs.Ythmjniedfiabhaa
