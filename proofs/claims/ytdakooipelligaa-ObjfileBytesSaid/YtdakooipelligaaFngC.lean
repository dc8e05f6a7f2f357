/- Finger: the program's writeExport, Write, Key. -/
import Derived.Test.YtdakooipelligaaFngB
namespace Go.Proofs.Ytdakooipelligaa
open Go.ChangeShapes Go.WideShapes Go.ChangeAt Go.RowKit
set_option linter.unusedVariables false
set_option linter.unusedSimpArgs false

theorem WrAt.base' {w : World} {B g : Nat} {h : Option Nat} {bs : List Int} (hw : WrAt w B g h bs) : ∀ i, WrS g h i → B ≤ i := by
  have h2 := hw.own
  obtain ⟨v, _, _, _, hB⟩ := hw
  rintro i (rfl | hi)
  · exact hB
  · exact (h2 i hi).1

theorem WrAt.blocks {w : World} {B g : Nat} {h : Option Nat} {bs : List Int} (hw : WrAt w B g h bs) {i : Nat} (hi : WrS g h i) : i < w.heap.size ∧ ∃ cs t, (t = wrT ∨ t = u8T) ∧ w.heap[i]? = some (.cells cs t (0, 0)) := by
  obtain ⟨v, h1, h2, rfl, _⟩ := hw
  rcases hi with rfl | hi
  · exact ⟨h1.lt, _, _, .inl rfl, h1⟩
  · obtain ⟨_, h4, cs, h5⟩ := row_block h2 hi
    exact ⟨h4, _, _, .inr rfl, h5⟩

theorem WrPost.kept {w w' : World} {B g : Nat} {h : Option Nat} {bs : List Int} (P : WrPost w w' B g h bs) : KeptS (WrS g h) w w' := by
  obtain ⟨_, _, k, _⟩ := P
  exact k

theorem WrPost.cell {w w' : World} {B g : Nat} {h : Option Nat} {bs : List Int} (P : WrPost w w' B g h bs) {x o : Nat} {v : Value} (hx : w.cell? ⟨x, o, none⟩ = some v) (hn : ¬ WrS g h x) : w'.cell? ⟨x, o, none⟩ = some v := P.kept.cell hx hn

theorem WrPost.par {w w' : World} {B g : Nat} {h : Option Nat} {bs bs0 : List Int} (P : WrPost w w' B g h bs) (A : WrAt w B g h bs0) {v : Value} {ps : List (Int × Bool)} (hp : ParV B w v ps) : ParV B w' v ps :=
  hp.keep (Nat.le_refl _) P.kept.size fun b hb ht => P.kept.block b hb fun hs => by
    rcases ht with ht | ⟨cs, fz, e⟩
    · have := A.base' b hs
      omega
    · obtain ⟨_, cs', t, h1, h2⟩ := A.blocks hs
      rw [h2] at e
      injection e with e
      injection e with _ e _
      rcases h1 with h1 | h1
      · rw [h1] at e
        exact absurd e (by decide)
      · rw [h1] at e
        exact absurd e (by decide)

theorem WrPost.exps {w w' : World} {B g : Nat} {h : Option Nat} {bs bs0 : List Int} (P : WrPost w w' B g h bs) (A : WrAt w B g h bs0) {v : Value} {es : List Exx} (he : ExpV B w v es) : ExpV B w' v es :=
  he.keep P.kept.size fun b hb ht => P.kept.block b hb fun hs => by
    rcases ht with ht | ⟨cs, fz, e⟩
    · have := A.base' b hs
      omega
    · obtain ⟨_, cs', t, h1, h2⟩ := A.blocks hs
      rw [h2] at e
      injection e with e
      injection e with _ e _
      rcases h1 with h1 | h1
      · rw [h1] at e
        exact absurd e (by decide)
      · rw [h1] at e
        exact absurd e (by decide)

theorem WrPost.below {w w1 w2 : World} {B g : Nat} {h : Option Nat} {bs : List Int} (P : WrPost w w1 B g h bs) (hb : Below w1.heap.size w1 w2) : WrPost w w2 B g h bs := by
  obtain ⟨h1, a1, k1, o1⟩ := P
  exact ⟨h1, a1.below hb, k1.trans (S' := fun _ => False) (KeptS.ofBelow hb) (fun i hi => hi.elim), o1⟩

/-- What a Writer's call leaves, counted from a world ahead. -/
theorem WrPost.after {w0 w1 : World} {B g : Nat} {h : Option Nat} {bs : List Int} (P : WrPost w0 w1 B g h bs) : ∃ h1, WrAt w1 B g h1 bs ∧ ∀ w2 cs, WrPost w1 w2 B g h1 cs → WrPost w0 w2 B g h cs := by
  obtain ⟨h1, a1, k1, o1⟩ := P
  exact ⟨h1, a1, fun w2 cs q => WrPost.trans k1 o1 q⟩

theorem WrPost.count {w0 w1 : World} {B g : Nat} {h : Option Nat} {bs : List Int} (P : WrPost w0 w1 B g h bs) (hB : B ≤ w0.heap.size) (hl : bs.length ≤ 10000000) {n : Int} (h0 : -9223372036854775808 ≤ n) (h1 : n ≤ 9223372036854775807) :
    Calls Try.prog 28 #[.pointer (some ⟨g, 0, none⟩), .int .i64 n] w1 fun e w' => e = .returned (.tuple #[]) ∧ WrPost w0 w' B g h (bs ++ cntI n) := by
  obtain ⟨h', a, t⟩ := P.after
  exact (wcount_any n B g h' bs w1 a (Nat.le_trans hB P.kept.size) hl h0 h1).mono (fun e w' ⟨e1, e2⟩ => ⟨e1, t _ _ e2⟩)

theorem WrPost.text {w0 w1 : World} {B g : Nat} {h : Option Nat} {bs : List Int} (P : WrPost w0 w1 B g h bs) (hB : B ≤ w0.heap.size) (hl : bs.length ≤ 10000000) {s : ByteArray} (hs : s.size ≤ 10000000) :
    Calls Try.prog 26 #[.pointer (some ⟨g, 0, none⟩), .string s] w1 fun e w' => e = .returned (.tuple #[]) ∧ WrPost w0 w' B g h (bs ++ (cntB s.size ++ strI s)) := by
  obtain ⟨h', a, t⟩ := P.after
  exact (wtext_any s B g h' bs w1 a (Nat.le_trans hB P.kept.size) hl hs).mono (fun e w' ⟨e1, e2⟩ => ⟨e1, t _ _ e2⟩)

theorem cntI_bool (b : Bool) : cntI (if b then 1 else 0) = [if b then 1 else 0] := by
  cases b
  · exact cntB_small (n := 0) (by decide)
  · exact cntB_small (n := 1) (by decide)

/-- The program's Writer puts an export. -/
def ExPut (g B : Nat) (h : Option Nat) (bs : List Int) (w : World) (e : Ending) (w' : World) (x : Ex) : Prop := e = .returned (.tuple #[]) ∧ WrPost w w' B g h (bs ++ exB x)

theorem ExpV.more {B B' : Nat} {w : World} {v : Value} {es : List Exx} (h : ExpV B w v es) (hB : B ≤ B') : ExpV B' w v es := by
  obtain ⟨A, c, h1, h2, h3⟩ := h
  refine ⟨A, c, h1, fun hn => ?_, fun e he => (h3 e he).more hB⟩
  obtain ⟨b, off, rfl, hb, hb2, hc⟩ := h2 hn
  exact ⟨b, off, rfl, Nat.lt_of_lt_of_le hb hB, hb2, hc⟩

theorem cntI_bytes (n : Int) : Byt (cntI n) := cntB_bytes _

theorem byt_app {a b : List Int} (ha : Byt a) (hb : Byt b) : Byt (a ++ b) := fun z hz => (List.mem_append.1 hz).elim (ha z) (hb z)

theorem parB_bytes (q : Int × Bool) : Byt (parB q) := byt_app (cntI_bytes _) (fun z hz => by
  obtain rfl := List.mem_singleton.1 hz
  cases q.2 <;> decide)

theorem parsB_bytes (ps : List (Int × Bool)) : Byt (parsB ps) := fun z hz => by
  obtain ⟨q, _, h⟩ := List.mem_flatMap.1 hz
  exact parB_bytes q z h

theorem exB_bytes (x : Ex) : Byt (exB x) := byt_app (byt_app (cntB_bytes _) (strI_bytes _)) (byt_app (cntI_bytes _) (byt_app (cntI_bytes _) (byt_app (cntB_bytes _) (byt_app (cntI_bytes _) (parsB_bytes _)))))

theorem listB_bytes (l : List Ex) : Byt (listB l) := byt_app (cntI_bytes _) (fun z hz => by
  obtain ⟨x, _, h⟩ := List.mem_flatMap.1 hz
  exact exB_bytes x z h)

theorem keyB_bytes (nm : ByteArray) (l : List Ex) : Byt (keyB nm l) := byt_app (byt_app (cntB_bytes _) (strI_bytes _)) (listB_bytes _)

theorem listB_len {l : List Exx} (h : ∀ x ∈ l, ExSm x.1) (hn : l.length ≤ 60) : (listB (l.map (·.1))).length ≤ 60010 := by
  have h1 := cntI_len (n := (l.map (·.1)).length) (by rw [List.length_map]; omega)
  have h2 := exsB_len (l := l.map (·.1)) (fun x hx => by
    obtain ⟨y, hy, rfl⟩ := List.mem_map.1 hx
    exact h y hy)
  unfold listB
  rw [List.length_append]
  rw [List.length_map] at h2
  omega

/-- What the program's Writer puts of a list so far. -/
def upTo (l : List Exx) (t : Nat) : List Int := exsB ((l.take t).map (·.1))

theorem upTo_more {l : List Exx} {t : Nat} (ht : t < l.length) : upTo l (t + 1) = upTo l t ++ exB (l.getD t zEx).1 := by
  unfold upTo exsB
  rw [List.map_take, List.map_take, flat_take exB (l.map (·.1)) zE (by rw [List.length_map]; exact ht), getD_map (·.1) l zEx zE ht]

theorem upTo_len {l : List Exx} (h : ∀ x ∈ l, ExSm x.1) {t : Nat} (ht : t ≤ 60) : (upTo l t).length ≤ 60000 := by
  have h2 := exsB_len (l := (l.take t).map (·.1)) (fun x hx => by
    obtain ⟨y, hy, rfl⟩ := List.mem_map.1 hx
    exact h y (List.mem_of_mem_take hy))
  rw [List.length_map, List.length_take] at h2
  unfold upTo
  omega

end Go.Proofs.Ytdakooipelligaa