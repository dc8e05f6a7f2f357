/- Objfile: the law's small, Ref, Is; the page's example. -/
import Derived.Test.YtdakooipelligaaObjG
import Derived.Test.YtdakooipelligaaSymM
import Derived.Deep.RegionHeld3
namespace Go.Proofs.Ytdakooipelligaa
open Go.ChangeShapes Go.WideShapes Go.ChangeAt Go.RowKit
set_option linter.unusedVariables false
set_option linter.unusedSimpArgs false

/-- An object that is tried. -/
def smO (md : ByteArray) (im : List Im) (cd : List Int) (fx : List Fx) (sg : List Sg) : Prop := md.size ≤ 200 ∧ im.length ≤ 80 ∧ cd.length ≤ 200 ∧ fx.length ≤ 100 ∧ sg.length ≤ 100

instance (md : ByteArray) (im : List Im) (cd : List Int) (fx : List Fx) (sg : List Sg) : Decidable (smO md im cd fx sg) := by unfold smO; infer_instance

set_option maxHeartbeats 16000000 in
set_option maxRecDepth 100000 in
theorem small15_any (md : ByteArray) (key : Int) (Ai : Option Addr) (im : List Im) (ci : Nat) (Ac : Option Addr) (cd : List Int) (cc : Nat) (Af : Option Addr) (fx : List Fx) (cf : Nat) (As : Option Addr) (sg : List Sg) (cs : Nat) (dt ex bd : Int) (w : World) (hn : OjN md im cd fx sg) :
    Calls Try.prog 6 #[.agg #[.string md, .int .u32 key, .slice Ai im.length ci, .slice Ac cd.length cc, .slice Af fx.length cf, .slice As sg.length cs, .int .i64 dt, .int .i64 ex, .int .i64 bd]] w fun e w' => e = .returned (.bool (decide (smO md im cd fx sg))) ∧ Below w.heap.size w w' := by
  have BA := Lib.hid ((Below.refl w.heap.size w).alloc (Nat.le_refl _) (.cells #[.string md, .int .u32 key, .slice Ai im.length ci, .slice Ac cd.length cc, .slice Af fx.length cf, .slice As sg.length cs, .int .i64 dt, .int .i64 ex, .int .i64 bd] oT))
  have X := Lib.hid (Whole.made w oT #[.string md, .int .u32 key, .slice Ai im.length ci, .slice Ac cd.length cc, .slice Af fx.length cf, .slice As sg.length cs, .int .i64 dt, .int .i64 ex, .int .i64 bd] _ rfl)
  have q0 : (w.alloc (.cells #[.string md, .int .u32 key, .slice Ai im.length ci, .slice Ac cd.length cc, .slice Af fx.length cf, .slice As sg.length cs, .int .i64 dt, .int .i64 ex, .int .i64 bd] oT)).cell? ⟨w.heap.size, 0, none⟩ = some (.string md) := X.out.cell 0
  have q2 : (w.alloc (.cells #[.string md, .int .u32 key, .slice Ai im.length ci, .slice Ac cd.length cc, .slice Af fx.length cf, .slice As sg.length cs, .int .i64 dt, .int .i64 ex, .int .i64 bd] oT)).cell? ⟨w.heap.size, 2, none⟩ = some (.slice Ai im.length ci) := X.out.cell 2
  have q3 : (w.alloc (.cells #[.string md, .int .u32 key, .slice Ai im.length ci, .slice Ac cd.length cc, .slice Af fx.length cf, .slice As sg.length cs, .int .i64 dt, .int .i64 ex, .int .i64 bd] oT)).cell? ⟨w.heap.size, 3, none⟩ = some (.slice Ac cd.length cc) := X.out.cell 3
  have q4 : (w.alloc (.cells #[.string md, .int .u32 key, .slice Ai im.length ci, .slice Ac cd.length cc, .slice Af fx.length cf, .slice As sg.length cs, .int .i64 dt, .int .i64 ex, .int .i64 bd] oT)).cell? ⟨w.heap.size, 4, none⟩ = some (.slice Af fx.length cf) := X.out.cell 4
  have q5 : (w.alloc (.cells #[.string md, .int .u32 key, .slice Ai im.length ci, .slice Ac cd.length cc, .slice Af fx.length cf, .slice As sg.length cs, .int .i64 dt, .int .i64 ex, .int .i64 bd] oT)).cell? ⟨w.heap.size, 5, none⟩ = some (.slice As sg.length cs) := X.out.cell 5
  have n0 := hn.mdn
  have n1 := hn.imn
  have n2 := hn.cdn
  have n3 := hn.fxn
  have n4 := hn.sgn
  have RN := Lib.hid (show ¬ (md.size ≤ 200 ∧ im.length ≤ 80 ∧ cd.length ≤ 200 ∧ fx.length ≤ 100 ∧ sg.length ≤ 100) → decide (smO md im cd fx sg) = false from fun h => decide_eq_false h)
  have RY := Lib.hid (show (md.size ≤ 200 ∧ im.length ≤ 80 ∧ cd.length ≤ 200 ∧ fx.length ≤ 100 ∧ sg.length ≤ 100) → decide (smO md im cd fx sg) = true from fun h => decide_eq_true h)
  generalize decide (smO md im cd fx sg) = r at *
  clear hn
  by_cases h1 : (md.size : Int) ≤ 200
  case neg =>
    have dh1 : decide ((md.size : Int) ≤ 200) = false := decide_eq_false h1
    have RR := Lib.hid (RN.out (by omega))
    clear h1 RN RY
    go_enter Try.func6, Try.ntmps6
    go_wp2_with fail
    go_ret
    rw [RR.out]
    exact ⟨rfl, BA.out⟩
  have dh1 : decide ((md.size : Int) ≤ 200) = true := decide_eq_true h1
  by_cases h2 : (im.length : Int) ≤ 80
  case neg =>
    have dh2 : decide ((im.length : Int) ≤ 80) = false := decide_eq_false h2
    have RR := Lib.hid (RN.out (by omega))
    clear h1 h2 RN RY
    go_enter Try.func6, Try.ntmps6
    go_wp2_with fail
    go_ret
    rw [RR.out]
    exact ⟨rfl, BA.out⟩
  have dh2 : decide ((im.length : Int) ≤ 80) = true := decide_eq_true h2
  by_cases h3 : (cd.length : Int) ≤ 200
  case neg =>
    have dh3 : decide ((cd.length : Int) ≤ 200) = false := decide_eq_false h3
    have RR := Lib.hid (RN.out (by omega))
    clear h1 h2 h3 RN RY
    go_enter Try.func6, Try.ntmps6
    go_wp2_with fail
    go_ret
    rw [RR.out]
    exact ⟨rfl, BA.out⟩
  have dh3 : decide ((cd.length : Int) ≤ 200) = true := decide_eq_true h3
  by_cases h4 : (fx.length : Int) ≤ 100
  case neg =>
    have dh4 : decide ((fx.length : Int) ≤ 100) = false := decide_eq_false h4
    have RR := Lib.hid (RN.out (by omega))
    clear h1 h2 h3 h4 RN RY
    go_enter Try.func6, Try.ntmps6
    go_wp2_with fail
    go_ret
    rw [RR.out]
    exact ⟨rfl, BA.out⟩
  have dh4 : decide ((fx.length : Int) ≤ 100) = true := decide_eq_true h4
  by_cases h5 : (sg.length : Int) ≤ 100
  case neg =>
    have dh5 : decide ((sg.length : Int) ≤ 100) = false := decide_eq_false h5
    have RR := Lib.hid (RN.out (by omega))
    clear h1 h2 h3 h4 h5 RN RY
    go_enter Try.func6, Try.ntmps6
    go_wp2_with fail
    go_ret
    rw [RR.out]
    exact ⟨rfl, BA.out⟩
  have dh5 : decide ((sg.length : Int) ≤ 100) = true := decide_eq_true h5
  have RR := Lib.hid (RY.out (by omega))
  clear h1 h2 h3 h4 h5 RN RY
  go_enter Try.func6, Try.ntmps6
  go_wp2_with fail
  go_ret
  rw [RR.out]
  exact ⟨rfl, BA.out⟩

set_option maxHeartbeats 16000000 in
set_option maxRecDepth 100000 in
theorem ref15_any (md : ByteArray) (key : Int) (Ai : Option Addr) (im : List Im) (ci : Nat) (Ac : Option Addr) (cd : List Int) (cc : Nat) (Af : Option Addr) (fx : List Fx) (cf : Nat) (As : Option Addr) (sg : List Sg) (cs : Nat) (dt ex bd : Int) (w : World) :
    Calls Try.prog 9 #[.agg #[.string md, .int .u32 key, .slice Ai im.length ci, .slice Ac cd.length cc, .slice Af fx.length cf, .slice As sg.length cs, .int .i64 dt, .int .i64 ex, .int .i64 bd]] w fun e w' => e = .returned (.agg #[.string md, .int .u32 key, .slice Ai im.length ci, .slice Ac cd.length cc, .slice Af fx.length cf, .slice As sg.length cs, .int .i64 dt, .int .i64 ex, .int .i64 bd]) ∧ Below w.heap.size w w' := by
  have X1 := Lib.hid ((Whole.made w oT #[.string md, .int .u32 key, .slice Ai im.length ci, .slice Ac cd.length cc, .slice Af fx.length cf, .slice As sg.length cs, .int .i64 dt, .int .i64 ex, .int .i64 bd] _ rfl).alloc (.cells #[.string ⟨#[]⟩, .int .u32 0, .slice none 0 0, .slice none 0 0, .slice none 0 0, .slice none 0 0, .int .i64 0, .int .i64 0, .int .i64 0] qT))
  have X2 := Lib.hid (Whole.made (w.alloc (.cells #[.string md, .int .u32 key, .slice Ai im.length ci, .slice Ac cd.length cc, .slice Af fx.length cf, .slice As sg.length cs, .int .i64 dt, .int .i64 ex, .int .i64 bd] oT)) qT #[.string md, .int .u32 key, .slice Ai im.length ci, .slice Ac cd.length cc, .slice Af fx.length cf, .slice As sg.length cs, .int .i64 dt, .int .i64 ex, .int .i64 bd] (w.heap.size + 1) (by simp))
  have B2 := Lib.hid (show Below w.heap.size w ((w.alloc (.cells #[.string md, .int .u32 key, .slice Ai im.length ci, .slice Ac cd.length cc, .slice Af fx.length cf, .slice As sg.length cs, .int .i64 dt, .int .i64 ex, .int .i64 bd] oT)).alloc (.cells #[.string md, .int .u32 key, .slice Ai im.length ci, .slice Ac cd.length cc, .slice Af fx.length cf, .slice As sg.length cs, .int .i64 dt, .int .i64 ex, .int .i64 bd] qT)) from ((Below.refl w.heap.size w).alloc (Nat.le_refl _) _).alloc (by simp) _)
  have q0 : ((w.alloc (.cells #[.string md, .int .u32 key, .slice Ai im.length ci, .slice Ac cd.length cc, .slice Af fx.length cf, .slice As sg.length cs, .int .i64 dt, .int .i64 ex, .int .i64 bd] oT)).alloc (.cells #[.string ⟨#[]⟩, .int .u32 0, .slice none 0 0, .slice none 0 0, .slice none 0 0, .slice none 0 0, .int .i64 0, .int .i64 0, .int .i64 0] qT)).cell? ⟨w.heap.size, 0, none⟩ = some (.string md) := X1.out.cell 0
  have q1 : ((w.alloc (.cells #[.string md, .int .u32 key, .slice Ai im.length ci, .slice Ac cd.length cc, .slice Af fx.length cf, .slice As sg.length cs, .int .i64 dt, .int .i64 ex, .int .i64 bd] oT)).alloc (.cells #[.string ⟨#[]⟩, .int .u32 0, .slice none 0 0, .slice none 0 0, .slice none 0 0, .slice none 0 0, .int .i64 0, .int .i64 0, .int .i64 0] qT)).cell? ⟨w.heap.size, 1, none⟩ = some (.int .u32 key) := X1.out.cell 1
  have q2 : ((w.alloc (.cells #[.string md, .int .u32 key, .slice Ai im.length ci, .slice Ac cd.length cc, .slice Af fx.length cf, .slice As sg.length cs, .int .i64 dt, .int .i64 ex, .int .i64 bd] oT)).alloc (.cells #[.string ⟨#[]⟩, .int .u32 0, .slice none 0 0, .slice none 0 0, .slice none 0 0, .slice none 0 0, .int .i64 0, .int .i64 0, .int .i64 0] qT)).cell? ⟨w.heap.size, 2, none⟩ = some (.slice Ai im.length ci) := X1.out.cell 2
  have q3 : ((w.alloc (.cells #[.string md, .int .u32 key, .slice Ai im.length ci, .slice Ac cd.length cc, .slice Af fx.length cf, .slice As sg.length cs, .int .i64 dt, .int .i64 ex, .int .i64 bd] oT)).alloc (.cells #[.string ⟨#[]⟩, .int .u32 0, .slice none 0 0, .slice none 0 0, .slice none 0 0, .slice none 0 0, .int .i64 0, .int .i64 0, .int .i64 0] qT)).cell? ⟨w.heap.size, 3, none⟩ = some (.slice Ac cd.length cc) := X1.out.cell 3
  have q4 : ((w.alloc (.cells #[.string md, .int .u32 key, .slice Ai im.length ci, .slice Ac cd.length cc, .slice Af fx.length cf, .slice As sg.length cs, .int .i64 dt, .int .i64 ex, .int .i64 bd] oT)).alloc (.cells #[.string ⟨#[]⟩, .int .u32 0, .slice none 0 0, .slice none 0 0, .slice none 0 0, .slice none 0 0, .int .i64 0, .int .i64 0, .int .i64 0] qT)).cell? ⟨w.heap.size, 4, none⟩ = some (.slice Af fx.length cf) := X1.out.cell 4
  have q5 : ((w.alloc (.cells #[.string md, .int .u32 key, .slice Ai im.length ci, .slice Ac cd.length cc, .slice Af fx.length cf, .slice As sg.length cs, .int .i64 dt, .int .i64 ex, .int .i64 bd] oT)).alloc (.cells #[.string ⟨#[]⟩, .int .u32 0, .slice none 0 0, .slice none 0 0, .slice none 0 0, .slice none 0 0, .int .i64 0, .int .i64 0, .int .i64 0] qT)).cell? ⟨w.heap.size, 5, none⟩ = some (.slice As sg.length cs) := X1.out.cell 5
  have q6 : ((w.alloc (.cells #[.string md, .int .u32 key, .slice Ai im.length ci, .slice Ac cd.length cc, .slice Af fx.length cf, .slice As sg.length cs, .int .i64 dt, .int .i64 ex, .int .i64 bd] oT)).alloc (.cells #[.string ⟨#[]⟩, .int .u32 0, .slice none 0 0, .slice none 0 0, .slice none 0 0, .slice none 0 0, .int .i64 0, .int .i64 0, .int .i64 0] qT)).cell? ⟨w.heap.size, 6, none⟩ = some (.int .i64 dt) := X1.out.cell 6
  have q7 : ((w.alloc (.cells #[.string md, .int .u32 key, .slice Ai im.length ci, .slice Ac cd.length cc, .slice Af fx.length cf, .slice As sg.length cs, .int .i64 dt, .int .i64 ex, .int .i64 bd] oT)).alloc (.cells #[.string ⟨#[]⟩, .int .u32 0, .slice none 0 0, .slice none 0 0, .slice none 0 0, .slice none 0 0, .int .i64 0, .int .i64 0, .int .i64 0] qT)).cell? ⟨w.heap.size, 7, none⟩ = some (.int .i64 ex) := X1.out.cell 7
  have q8 : ((w.alloc (.cells #[.string md, .int .u32 key, .slice Ai im.length ci, .slice Ac cd.length cc, .slice Af fx.length cf, .slice As sg.length cs, .int .i64 dt, .int .i64 ex, .int .i64 bd] oT)).alloc (.cells #[.string ⟨#[]⟩, .int .u32 0, .slice none 0 0, .slice none 0 0, .slice none 0 0, .slice none 0 0, .int .i64 0, .int .i64 0, .int .i64 0] qT)).cell? ⟨w.heap.size, 8, none⟩ = some (.int .i64 bd) := X1.out.cell 8
  have r0 : ((w.alloc (.cells #[.string md, .int .u32 key, .slice Ai im.length ci, .slice Ac cd.length cc, .slice Af fx.length cf, .slice As sg.length cs, .int .i64 dt, .int .i64 ex, .int .i64 bd] oT)).alloc (.cells #[.string md, .int .u32 key, .slice Ai im.length ci, .slice Ac cd.length cc, .slice Af fx.length cf, .slice As sg.length cs, .int .i64 dt, .int .i64 ex, .int .i64 bd] qT)).cell? ⟨w.heap.size + 1, 0, none⟩ = some (.string md) := X2.out.cell 0
  have r1 : ((w.alloc (.cells #[.string md, .int .u32 key, .slice Ai im.length ci, .slice Ac cd.length cc, .slice Af fx.length cf, .slice As sg.length cs, .int .i64 dt, .int .i64 ex, .int .i64 bd] oT)).alloc (.cells #[.string md, .int .u32 key, .slice Ai im.length ci, .slice Ac cd.length cc, .slice Af fx.length cf, .slice As sg.length cs, .int .i64 dt, .int .i64 ex, .int .i64 bd] qT)).cell? ⟨w.heap.size + 1, 1, none⟩ = some (.int .u32 key) := X2.out.cell 1
  have r2 : ((w.alloc (.cells #[.string md, .int .u32 key, .slice Ai im.length ci, .slice Ac cd.length cc, .slice Af fx.length cf, .slice As sg.length cs, .int .i64 dt, .int .i64 ex, .int .i64 bd] oT)).alloc (.cells #[.string md, .int .u32 key, .slice Ai im.length ci, .slice Ac cd.length cc, .slice Af fx.length cf, .slice As sg.length cs, .int .i64 dt, .int .i64 ex, .int .i64 bd] qT)).cell? ⟨w.heap.size + 1, 2, none⟩ = some (.slice Ai im.length ci) := X2.out.cell 2
  have r3 : ((w.alloc (.cells #[.string md, .int .u32 key, .slice Ai im.length ci, .slice Ac cd.length cc, .slice Af fx.length cf, .slice As sg.length cs, .int .i64 dt, .int .i64 ex, .int .i64 bd] oT)).alloc (.cells #[.string md, .int .u32 key, .slice Ai im.length ci, .slice Ac cd.length cc, .slice Af fx.length cf, .slice As sg.length cs, .int .i64 dt, .int .i64 ex, .int .i64 bd] qT)).cell? ⟨w.heap.size + 1, 3, none⟩ = some (.slice Ac cd.length cc) := X2.out.cell 3
  have r4 : ((w.alloc (.cells #[.string md, .int .u32 key, .slice Ai im.length ci, .slice Ac cd.length cc, .slice Af fx.length cf, .slice As sg.length cs, .int .i64 dt, .int .i64 ex, .int .i64 bd] oT)).alloc (.cells #[.string md, .int .u32 key, .slice Ai im.length ci, .slice Ac cd.length cc, .slice Af fx.length cf, .slice As sg.length cs, .int .i64 dt, .int .i64 ex, .int .i64 bd] qT)).cell? ⟨w.heap.size + 1, 4, none⟩ = some (.slice Af fx.length cf) := X2.out.cell 4
  have r5 : ((w.alloc (.cells #[.string md, .int .u32 key, .slice Ai im.length ci, .slice Ac cd.length cc, .slice Af fx.length cf, .slice As sg.length cs, .int .i64 dt, .int .i64 ex, .int .i64 bd] oT)).alloc (.cells #[.string md, .int .u32 key, .slice Ai im.length ci, .slice Ac cd.length cc, .slice Af fx.length cf, .slice As sg.length cs, .int .i64 dt, .int .i64 ex, .int .i64 bd] qT)).cell? ⟨w.heap.size + 1, 5, none⟩ = some (.slice As sg.length cs) := X2.out.cell 5
  have r6 : ((w.alloc (.cells #[.string md, .int .u32 key, .slice Ai im.length ci, .slice Ac cd.length cc, .slice Af fx.length cf, .slice As sg.length cs, .int .i64 dt, .int .i64 ex, .int .i64 bd] oT)).alloc (.cells #[.string md, .int .u32 key, .slice Ai im.length ci, .slice Ac cd.length cc, .slice Af fx.length cf, .slice As sg.length cs, .int .i64 dt, .int .i64 ex, .int .i64 bd] qT)).cell? ⟨w.heap.size + 1, 6, none⟩ = some (.int .i64 dt) := X2.out.cell 6
  have r7 : ((w.alloc (.cells #[.string md, .int .u32 key, .slice Ai im.length ci, .slice Ac cd.length cc, .slice Af fx.length cf, .slice As sg.length cs, .int .i64 dt, .int .i64 ex, .int .i64 bd] oT)).alloc (.cells #[.string md, .int .u32 key, .slice Ai im.length ci, .slice Ac cd.length cc, .slice Af fx.length cf, .slice As sg.length cs, .int .i64 dt, .int .i64 ex, .int .i64 bd] qT)).cell? ⟨w.heap.size + 1, 7, none⟩ = some (.int .i64 ex) := X2.out.cell 7
  have r8 : ((w.alloc (.cells #[.string md, .int .u32 key, .slice Ai im.length ci, .slice Ac cd.length cc, .slice Af fx.length cf, .slice As sg.length cs, .int .i64 dt, .int .i64 ex, .int .i64 bd] oT)).alloc (.cells #[.string md, .int .u32 key, .slice Ai im.length ci, .slice Ac cd.length cc, .slice Af fx.length cf, .slice As sg.length cs, .int .i64 dt, .int .i64 ex, .int .i64 bd] qT)).cell? ⟨w.heap.size + 1, 8, none⟩ = some (.int .i64 bd) := X2.out.cell 8
  go_enter Try.func9, Try.ntmps9
  go_wp2_with fail
  refine bodyPost_ret (v := .agg #[.string md, .int .u32 key, .slice Ai im.length ci, .slice Ac cd.length cc, .slice Af fx.length cf, .slice As sg.length cs, .int .i64 dt, .int .i64 ex, .int .i64 bd]) ?_ rfl ⟨rfl, B2.out⟩
  simp [results, Try.results9, go_sem, r0, r1, r2, r3, r4, r5, r6, r7, r8]

set_option maxHeartbeats 16000000 in
set_option maxRecDepth 100000 in
theorem words_same15 (A1 A2 : Option Addr) (n c1 c2 : Nat) (zs : List Int) (w : World) (h1 : Nums .u32 w A1 n zs) (h2 : Nums .u32 w A2 n zs) (hn : n ≤ 1000000) :
    Calls Try.prog 48 #[.slice A1 n c1, .slice A2 n c2] w fun e w' => e = .returned (.bool true) ∧ Below w.heap.size w w' := by
  have H1 := Lib.hid h1
  have H2 := Lib.hid h2
  clear h1 h2
  go_enter Try.func48, Try.ntmps48
  go_wp2_with fail
  go_loopw [5] (fun i wr => ∃ t q : Nat, t ≤ n ∧ i = .int .i64 t ∧ wr = w.drewN q) (fun i _ => n - (intOf i).toNat)
  case atStart => exact ⟨0, 0, Nat.zero_le _, rfl, rfl⟩
  case round =>
    obtain ⟨t, q, ht, rfl, rfl⟩ := hrel
    by_cases hlt : t < n
    · have hI : (t : Int) < n := by omega
      obtain ⟨ba, oa, rfl, _, ha⟩ := H1.out.2 (by omega)
      obtain ⟨bb, ob, rfl, _, hb⟩ := H2.out.2 (by omega)
      have u0 := ha t hlt
      have v0 := hb t hlt
      clear ha hb
      generalize zs.getD t 0 = z at *
      go_wp2_with fail
      go_quiet (fail)
      go_wp2_with fail
      go_roundw
      case rel => exact ⟨t + 1, _, by omega, by go_num, rfl⟩
      case measure => simp [intOf]; omega
    · have hI : ¬ (t : Int) < n := by omega
      go_wp2_with fail
      go_ret
      exact ⟨rfl, below_drawn (Below.refl _ _) q⟩

set_option maxHeartbeats 16000000 in
set_option maxRecDepth 100000 in
theorem is15_any (md : ByteArray) (key : Int) (Ai : Option Addr) (im : List Im) (ci : Nat) (Ac : Option Addr) (cd : List Int) (cc : Nat) (Af : Option Addr) (fx : List Fx) (cf : Nat) (As : Option Addr) (sg : List Sg) (cs : Nat) (dt ex bd : Int) (Ai' : Option Addr) (ci' : Nat) (Ac' : Option Addr) (cc' : Nat) (Af' : Option Addr) (cf' : Nat) (As' : Option Addr) (cs' : Nat) (B B' : Nat) (w : World) (hv : OjV B w Ai im ci Ac cd Af fx cf As sg cs) (hv' : OjV B' w Ai' im ci' Ac' cd Af' fx cf' As' sg cs') (n1 : im.length ≤ 1000000) (n2 : cd.length ≤ 1000000) (n3 : fx.length ≤ 1000000) (n4 : sg.length ≤ 1000000) :
    Calls Try.prog 14 #[.agg #[.string md, .int .u32 key, .slice Ai im.length ci, .slice Ac cd.length cc, .slice Af fx.length cf, .slice As sg.length cs, .int .i64 dt, .int .i64 ex, .int .i64 bd], .agg #[.string md, .int .u32 key, .slice Ai' im.length ci', .slice Ac' cd.length cc', .slice Af' fx.length cf', .slice As' sg.length cs', .int .i64 dt, .int .i64 ex, .int .i64 bd]] w fun e w' => e = .returned (.bool true) ∧ Below w.heap.size w w' := by
  have X1 := Lib.hid ((Whole.made w oT #[.string md, .int .u32 key, .slice Ai im.length ci, .slice Ac cd.length cc, .slice Af fx.length cf, .slice As sg.length cs, .int .i64 dt, .int .i64 ex, .int .i64 bd] _ rfl).alloc (.cells #[.string md, .int .u32 key, .slice Ai' im.length ci', .slice Ac' cd.length cc', .slice Af' fx.length cf', .slice As' sg.length cs', .int .i64 dt, .int .i64 ex, .int .i64 bd] qT))
  have X2 := Lib.hid (Whole.made (w.alloc (.cells #[.string md, .int .u32 key, .slice Ai im.length ci, .slice Ac cd.length cc, .slice Af fx.length cf, .slice As sg.length cs, .int .i64 dt, .int .i64 ex, .int .i64 bd] oT)) qT #[.string md, .int .u32 key, .slice Ai' im.length ci', .slice Ac' cd.length cc', .slice Af' fx.length cf', .slice As' sg.length cs', .int .i64 dt, .int .i64 ex, .int .i64 bd] (w.heap.size + 1) (by simp))
  have BA := Lib.hid (show Below w.heap.size w ((w.alloc (.cells #[.string md, .int .u32 key, .slice Ai im.length ci, .slice Ac cd.length cc, .slice Af fx.length cf, .slice As sg.length cs, .int .i64 dt, .int .i64 ex, .int .i64 bd] oT)).alloc (.cells #[.string md, .int .u32 key, .slice Ai' im.length ci', .slice Ac' cd.length cc', .slice Af' fx.length cf', .slice As' sg.length cs', .int .i64 dt, .int .i64 ex, .int .i64 bd] qT)) from ((Below.refl w.heap.size w).alloc (Nat.le_refl _) _).alloc (by simp) _)
  have q0 : ((w.alloc (.cells #[.string md, .int .u32 key, .slice Ai im.length ci, .slice Ac cd.length cc, .slice Af fx.length cf, .slice As sg.length cs, .int .i64 dt, .int .i64 ex, .int .i64 bd] oT)).alloc (.cells #[.string md, .int .u32 key, .slice Ai' im.length ci', .slice Ac' cd.length cc', .slice Af' fx.length cf', .slice As' sg.length cs', .int .i64 dt, .int .i64 ex, .int .i64 bd] qT)).cell? ⟨w.heap.size, 0, none⟩ = some (.string md) := X1.out.cell 0
  have q1 : ((w.alloc (.cells #[.string md, .int .u32 key, .slice Ai im.length ci, .slice Ac cd.length cc, .slice Af fx.length cf, .slice As sg.length cs, .int .i64 dt, .int .i64 ex, .int .i64 bd] oT)).alloc (.cells #[.string md, .int .u32 key, .slice Ai' im.length ci', .slice Ac' cd.length cc', .slice Af' fx.length cf', .slice As' sg.length cs', .int .i64 dt, .int .i64 ex, .int .i64 bd] qT)).cell? ⟨w.heap.size, 1, none⟩ = some (.int .u32 key) := X1.out.cell 1
  have q2 : ((w.alloc (.cells #[.string md, .int .u32 key, .slice Ai im.length ci, .slice Ac cd.length cc, .slice Af fx.length cf, .slice As sg.length cs, .int .i64 dt, .int .i64 ex, .int .i64 bd] oT)).alloc (.cells #[.string md, .int .u32 key, .slice Ai' im.length ci', .slice Ac' cd.length cc', .slice Af' fx.length cf', .slice As' sg.length cs', .int .i64 dt, .int .i64 ex, .int .i64 bd] qT)).cell? ⟨w.heap.size, 2, none⟩ = some (.slice Ai im.length ci) := X1.out.cell 2
  have r0 : ((w.alloc (.cells #[.string md, .int .u32 key, .slice Ai im.length ci, .slice Ac cd.length cc, .slice Af fx.length cf, .slice As sg.length cs, .int .i64 dt, .int .i64 ex, .int .i64 bd] oT)).alloc (.cells #[.string md, .int .u32 key, .slice Ai' im.length ci', .slice Ac' cd.length cc', .slice Af' fx.length cf', .slice As' sg.length cs', .int .i64 dt, .int .i64 ex, .int .i64 bd] qT)).cell? ⟨w.heap.size + 1, 0, none⟩ = some (.string md) := X2.out.cell 0
  have r1 : ((w.alloc (.cells #[.string md, .int .u32 key, .slice Ai im.length ci, .slice Ac cd.length cc, .slice Af fx.length cf, .slice As sg.length cs, .int .i64 dt, .int .i64 ex, .int .i64 bd] oT)).alloc (.cells #[.string md, .int .u32 key, .slice Ai' im.length ci', .slice Ac' cd.length cc', .slice Af' fx.length cf', .slice As' sg.length cs', .int .i64 dt, .int .i64 ex, .int .i64 bd] qT)).cell? ⟨w.heap.size + 1, 1, none⟩ = some (.int .u32 key) := X2.out.cell 1
  have r2 : ((w.alloc (.cells #[.string md, .int .u32 key, .slice Ai im.length ci, .slice Ac cd.length cc, .slice Af fx.length cf, .slice As sg.length cs, .int .i64 dt, .int .i64 ex, .int .i64 bd] oT)).alloc (.cells #[.string md, .int .u32 key, .slice Ai' im.length ci', .slice Ac' cd.length cc', .slice Af' fx.length cf', .slice As' sg.length cs', .int .i64 dt, .int .i64 ex, .int .i64 bd] qT)).cell? ⟨w.heap.size + 1, 2, none⟩ = some (.slice Ai' im.length ci') := X2.out.cell 2
  have V1 := Lib.hid (hv.below BA.out)
  have V2 := Lib.hid (hv'.below BA.out)
  have US := Lib.hid (uses_any Ai Ai' ci ci' B B' im im ((w.alloc (.cells #[.string md, .int .u32 key, .slice Ai im.length ci, .slice Ac cd.length cc, .slice Af fx.length cf, .slice As sg.length cs, .int .i64 dt, .int .i64 ex, .int .i64 bd] oT)).alloc (.cells #[.string md, .int .u32 key, .slice Ai' im.length ci', .slice Ac' cd.length cc', .slice Af' fx.length cf', .slice As' sg.length cs', .int .i64 dt, .int .i64 ex, .int .i64 bd] qT)) V1.out.ims V2.out.ims (by omega) (by omega))
  rw [sameI_yes rfl] at US
  have WS := Lib.hid (fun y (h1 : Nums .u32 y Ac cd.length cd) (h2 : Nums .u32 y Ac' cd.length cd) => words_same15 Ac Ac' cd.length cc cc' cd y h1 h2 n2)
  have dm : (md.toList == md.toList) = true := by simp
  have dk : (key != key) = false := by simp
  have d6 : (dt != dt) = false := by simp
  have d7 : (ex != ex) = false := by simp
  have d8 : (bd != bd) = false := by simp
  have d4 : ((fx.length : Int) != (fx.length : Int)) = false := by simp
  have d5 : ((sg.length : Int) != (sg.length : Int)) = false := by simp
  clear hv hv'
  go_enter Try.func14, Try.ntmps14
  go_wp2_with fail
  clear q0 q1 q2 r0 r1 r2
  refine US.out.mono ?_
  rintro e w1 ⟨rfl, hb1⟩
  have B1 := Lib.hid (BA.out.trans (hb1.mono BA.out.size))
  have Y1 := Lib.hid (X1.out.below hb1 X1.out.lt)
  have Y2 := Lib.hid (X2.out.below hb1 X2.out.lt)
  have P1 := Lib.hid (V1.out.below hb1)
  have P2 := Lib.hid (V2.out.below hb1)
  have W1 := Lib.hid (WS.out w1 P1.out.cds P2.out.cds)
  have q3 : w1.cell? ⟨w.heap.size, 3, none⟩ = some (.slice Ac cd.length cc) := Y1.out.cell 3
  have r3 : w1.cell? ⟨w.heap.size + 1, 3, none⟩ = some (.slice Ac' cd.length cc') := Y2.out.cell 3
  clear hb1 X1 X2 V1 V2 US BA WS
  go_wp2_with fail
  clear q3 r3
  refine W1.out.mono ?_
  rintro e w2 ⟨rfl, hb2⟩
  have B2 := Lib.hid (B1.out.trans (hb2.mono B1.out.size))
  have Z1 := Lib.hid (Y1.out.below hb2 Y1.out.lt)
  have Z2 := Lib.hid (Y2.out.below hb2 Y2.out.lt)
  have Q1 := Lib.hid (P1.out.below hb2)
  have Q2 := Lib.hid (P2.out.below hb2)
  have q4 : w2.cell? ⟨w.heap.size, 4, none⟩ = some (.slice Af fx.length cf) := Z1.out.cell 4
  have q5 : w2.cell? ⟨w.heap.size, 5, none⟩ = some (.slice As sg.length cs) := Z1.out.cell 5
  have q6 : w2.cell? ⟨w.heap.size, 6, none⟩ = some (.int .i64 dt) := Z1.out.cell 6
  have q7 : w2.cell? ⟨w.heap.size, 7, none⟩ = some (.int .i64 ex) := Z1.out.cell 7
  have q8 : w2.cell? ⟨w.heap.size, 8, none⟩ = some (.int .i64 bd) := Z1.out.cell 8
  have r4 : w2.cell? ⟨w.heap.size + 1, 4, none⟩ = some (.slice Af' fx.length cf') := Z2.out.cell 4
  have r5 : w2.cell? ⟨w.heap.size + 1, 5, none⟩ = some (.slice As' sg.length cs') := Z2.out.cell 5
  have r6 : w2.cell? ⟨w.heap.size + 1, 6, none⟩ = some (.int .i64 dt) := Z2.out.cell 6
  have r7 : w2.cell? ⟨w.heap.size + 1, 7, none⟩ = some (.int .i64 ex) := Z2.out.cell 7
  have r8 : w2.cell? ⟨w.heap.size + 1, 8, none⟩ = some (.int .i64 bd) := Z2.out.cell 8
  clear hb2 Y1 Y2 P1 P2 W1 B1
  go_wp2_with fail
  clear q4 q5 q6 q7 q8 r4 r5 r6 r7 r8
  generalize w2 = V at *
  go_loopw [5] (fun i wr => ∃ t : Nat, t ≤ fx.length ∧ i = .int .i64 t ∧ Below V.heap.size V wr) (fun i _ => fx.length - (intOf i).toNat)
  case atStart => exact ⟨0, Nat.zero_le _, rfl, Below.refl _ _⟩
  case round =>
    obtain ⟨t, ht, rfl, hb⟩ := hrel
    have HB := Lib.hid hb
    have S1 := Lib.hid (Z1.out.below hb Z1.out.lt)
    have S2 := Lib.hid (Z2.out.below hb Z2.out.lt)
    have q4 : wr.cell? ⟨w.heap.size, 4, none⟩ = some (.slice Af fx.length cf) := S1.out.cell 4
    have r4 : wr.cell? ⟨w.heap.size + 1, 4, none⟩ = some (.slice Af' fx.length cf') := S2.out.cell 4
    have K1 := Lib.hid (Q1.out.below hb)
    have K2 := Lib.hid (Q2.out.below hb)
    clear hb
    by_cases hlt : t < fx.length
    · have hI : (t : Int) < fx.length := by omega
      have B0 := Lib.hid (fun nq => below_drawn HB.out nq)
      obtain ⟨b1, o1, hA1, _, x0, x1, x2, x3⟩ := fx_at K1.out.fxs hlt
      obtain ⟨b2, o2, hA2, _, y0, y1, y2, y3⟩ := fx_at K2.out.fxs hlt
      rw [hA1] at q4
      rw [hA2] at r4
      generalize fx.getD t zFx = s at *
      obtain ⟨pl, kd, fm, vl⟩ := s
      simp only at x0 x1 x2 x3 y0 y1 y2 y3
      clear hA1 hA2 K1 K2
      go_wp2_with fail
      go_quiet (fail)
      rename_i nq
      go_wp2_with fail
      go_roundw
      case rel => exact ⟨t + 1, by omega, by go_num, B0.out nq⟩
      case measure => simp [intOf]; omega
    · have hI : ¬ (t : Int) < fx.length := by omega
      obtain rfl : t = fx.length := by omega
      have BU := Lib.hid (B2.out.trans (HB.out.mono B2.out.size))
      have T1 := Lib.hid S1.out
      have T2 := Lib.hid S2.out
      clear Z1 Z2 Q1 Q2
      go_wp2_with fail
      clear q4 r4
      generalize wr = U at *
      go_loopw [6] (fun i wr => ∃ t : Nat, t ≤ sg.length ∧ i = .int .i64 t ∧ Below U.heap.size U wr) (fun i _ => sg.length - (intOf i).toNat)
      case atStart => exact ⟨0, Nat.zero_le _, rfl, Below.refl _ _⟩
      case round =>
        obtain ⟨t, ht, rfl, hb⟩ := hrel
        have HC := Lib.hid hb
        have S1 := Lib.hid (T1.out.below hb T1.out.lt)
        have S2 := Lib.hid (T2.out.below hb T2.out.lt)
        have q5 : wr.cell? ⟨w.heap.size, 5, none⟩ = some (.slice As sg.length cs) := S1.out.cell 5
        have r5 : wr.cell? ⟨w.heap.size + 1, 5, none⟩ = some (.slice As' sg.length cs') := S2.out.cell 5
        have L1 := Lib.hid (K1.out.below hb)
        have L2 := Lib.hid (K2.out.below hb)
        clear hb
        by_cases hlt : t < sg.length
        · have hI : (t : Int) < sg.length := by omega
          have B0 := Lib.hid (fun nq => below_drawn HC.out nq)
          obtain ⟨b1, o1, hA1, _, x0, x1⟩ := sg_at L1.out.sgs hlt
          obtain ⟨b2, o2, hA2, _, y0, y1⟩ := sg_at L2.out.sgs hlt
          rw [hA1] at q5
          rw [hA2] at r5
          generalize sg.getD t zSg = s at *
          obtain ⟨st, pd⟩ := s
          simp only at x0 x1 y0 y1
          clear hA1 hA2 L1 L2
          go_wp2_with fail
          go_quiet (fail)
          rename_i nq
          go_wp2_with fail
          go_roundw
          case rel => exact ⟨t + 1, by omega, by go_num, B0.out nq⟩
          case measure => simp [intOf]; omega
        · have hI : ¬ (t : Int) < sg.length := by omega
          obtain rfl : t = sg.length := by omega
          go_wp2_with fail
          go_ret
          exact ⟨rfl, BU.out.trans (HC.out.mono BU.out.size)⟩

theorem awake_name15 : nameOk ⟨#[77]⟩ := by
  refine ⟨fun j hj => ?_, by decide, by decide⟩
  have hj : j < 1 := hj
  obtain rfl : j = 0 := by omega
  exact .inl (.inl (by decide))

theorem awake_check15 : checkO ⟨⟨#[77]⟩, 0, [], [1], [], [⟨0, -1⟩], 0, 0, 0⟩ = 0 := by
  rw [checkO_form awake_name15 rfl (by decide) (by decide), if_neg]
  intro h
  exact h ⟨by decide, rfl, by decide, trivial⟩

set_option maxHeartbeats 16000000 in
set_option maxRecDepth 100000 in
theorem awake15_any (w : World) : Calls Try.prog 5 #[] w fun e w' => e = .returned (.bool true) ∧ Below w.heap.size w w' := by
  have B2 := Lib.hid (show Below w.heap.size w ((w.alloc (.cells #[.int .u32 1] u32T)).alloc (.cells #[.int .i64 0, .int .i64 (-1)] sgT)) from ((Below.refl w.heap.size w).alloc (Nat.le_refl _) _).alloc (by simp) _)
  have X1 := Lib.hid ((Whole.made w u32T #[.int .u32 1] _ rfl).alloc (.cells #[.int .i64 0, .int .i64 (-1)] sgT))
  have X2 := Lib.hid (Whole.made (w.alloc (.cells #[.int .u32 1] u32T)) sgT #[.int .i64 0, .int .i64 (-1)] (w.heap.size + 1) (by simp))
  have VV := Lib.hid (show OjV ((w.alloc (.cells #[.int .u32 1] u32T)).alloc (.cells #[.int .i64 0, .int .i64 (-1)] sgT)).heap.size ((w.alloc (.cells #[.int .u32 1] u32T)).alloc (.cells #[.int .i64 0, .int .i64 (-1)] sgT)) none [] 0 (some ⟨w.heap.size, 0, none⟩) [1] none [] 0 (some ⟨w.heap.size + 1, 0, none⟩) [⟨0, -1⟩] 1 from
    ⟨ImV.nil _ _ _ _, ⟨rfl, fun _ => ⟨w.heap.size, 0, rfl, X1.out.lt, fun j hj => by
      obtain rfl : j = 0 := by simp at hj; exact hj
      exact X1.out.cell 0⟩⟩, LstV.nil _ _ _ _ _, ⟨_, 1, rfl, fun _ => ⟨w.heap.size + 1, 0, rfl, X2.out.lt, X2.out.lt, fun j u hj => by
      rw [Nat.zero_add]
      exact (X2.out.cell j).trans (by simpa [sgCells] using hj)⟩⟩⟩)
  have CH := Lib.hid (ocheck_any ⟨#[77]⟩ 0 none [] 0 (some ⟨w.heap.size, 0, none⟩) [1] 1 none [] 0 (some ⟨w.heap.size + 1, 0, none⟩) [⟨0, -1⟩] 1 0 0 0 _ ((w.alloc (.cells #[.int .u32 1] u32T)).alloc (.cells #[.int .i64 0, .int .i64 (-1)] sgT)) VV.out ⟨by decide, by decide, fun x h => (List.not_mem_nil h).elim, by decide, by decide, by decide⟩)
  rw [awake_check15] at CH
  have CH2 := Lib.hid (show Calls Try.prog 7 #[.agg #[.string ⟨#[77]⟩, .int .u32 0, .slice none 0 0, .slice (some ⟨w.heap.size, 0, none⟩) 1 1, .slice none 0 0, .slice (some ⟨w.heap.size + 1, 0, none⟩) 1 1, .int .i64 0, .int .i64 0, .int .i64 0]] ((w.alloc (.cells #[.int .u32 1] u32T)).alloc (.cells #[.int .i64 0, .int .i64 (-1)] sgT)) (fun e w' => e = .returned (.int .i64 0) ∧ Below ((w.alloc (.cells #[.int .u32 1] u32T)).alloc (.cells #[.int .i64 0, .int .i64 (-1)] sgT)).heap.size ((w.alloc (.cells #[.int .u32 1] u32T)).alloc (.cells #[.int .i64 0, .int .i64 (-1)] sgT)) w') from CH.out)
  clear CH VV X1 X2
  go_enter Try.func5, Try.ntmps5
  go_wp2_with fail
  refine CH2.out.mono ?_
  rintro e w3 ⟨rfl, hb3⟩
  have B3 := Lib.hid (B2.out.trans (hb3.mono B2.out.size))
  clear hb3
  go_wp2_with fail
  go_ret
  exact ⟨rfl, B3.out⟩
end Go.Proofs.Ytdakooipelligaa
