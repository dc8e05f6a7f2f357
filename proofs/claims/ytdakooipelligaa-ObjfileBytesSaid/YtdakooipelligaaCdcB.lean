/- Codec: slices.Clone of bytes; a Writer in memory, and its Byte, Len, Bytes. -/
import Derived.Test.YtdakooipelligaaWordD
import Derived.Test.YtdakooipelligaaRowLib
import Derived.Test.YtdakooipelligaaCdcA
import Derived.Laws.Cover3
import Derived.Lib.AppendStr
namespace Go.Proofs.Ytdakooipelligaa
open Go.ChangeShapes Go.WideShapes Go.ChangeAt Go.RowKit
set_option linter.unusedVariables false
set_option linter.unusedSimpArgs false

abbrev wrT : TypeId := 57

abbrev u8T : TypeId := 5

abbrev bsT : TypeId := 36

theorem Owns.keepS {S : Nat → Prop} {k : IntKind} {e : TypeId} {w w' : World} {B : Nat} {v : Value} {n : Nat} {zs : List Int} (h : Owns k e w B v n zs) (ks : KeptS S w w') (hs : ∀ b, v.ownBlock = some b → ¬ S b) : Owns k e w' B v n zs := ks.row h hs

theorem Owns.cap {k : IntKind} {e : TypeId} {w : World} {B : Nat} {A : Option Addr} {m c n : Nat} {zs : List Int} (h : Owns k e w B (.slice A m c) n zs) : n ≤ c := by
  rcases h.2 with ⟨h1, h2⟩ | ⟨g, cap, cur, h1, hb, hg, hn, _⟩
  · omega
  · injection h1 with _ _ h3
    omega

/-- A Writer lies at block g, and holds these bytes; h: the block of its own where they lie. -/
def WrAt (w : World) (B g : Nat) (h : Option Nat) (bs : List Int) : Prop := ∃ v, Whole w g wrT #[v] ∧ Owns .u8 u8T w B v bs.length bs ∧ v.ownBlock = h ∧ B ≤ g

/-- What a Writer's call may change. -/
def WrS (g : Nat) (h : Option Nat) : Nat → Prop := fun b => b = g ∨ h = some b

/-- What a Writer's call leaves. -/
def WrPost (w w' : World) (B g : Nat) (h : Option Nat) (bs : List Int) : Prop := ∃ h', WrAt w' B g h' bs ∧ KeptS (WrS g h) w w' ∧ (h' = h ∨ ∃ b, h' = some b ∧ w.heap.size ≤ b)

theorem WrAt.lt {w : World} {B g : Nat} {h : Option Nat} {bs : List Int} (hw : WrAt w B g h bs) : g < w.heap.size := by
  obtain ⟨v, h1, _⟩ := hw
  exact h1.lt

theorem WrAt.own {w : World} {B g : Nat} {h : Option Nat} {bs : List Int} (hw : WrAt w B g h bs) : ∀ b, h = some b → B ≤ b ∧ b < w.heap.size ∧ b ≠ g := by
  obtain ⟨v, h1, h2, rfl, hB⟩ := hw
  intro b hb
  refine ⟨(h2.lt b hb).1, (h2.lt b hb).2, fun e => ?_⟩
  subst e
  have h3 : w.heap[b]? = some (.cells #[v] wrT (0, 0)) := h1
  exact row_ne h2 h3 (fun c fz e => by injection e with _ e _; exact absurd e (by decide)) hb

theorem WrAt.keep {S : Nat → Prop} {w w' : World} {B g : Nat} {h : Option Nat} {bs : List Int} (hw : WrAt w B g h bs) (ks : KeptS S w w') (hg : ¬ S g) (hs : ∀ b, h = some b → ¬ S b) : WrAt w' B g h bs := by
  obtain ⟨v, h1, h2, h3, hB⟩ := hw
  exact ⟨v, ks.whole h1 hg, h2.keepS ks (fun b hb => hs b (h3 ▸ hb)), h3, hB⟩

theorem WrAt.below {w w' : World} {B g : Nat} {h : Option Nat} {bs : List Int} (hw : WrAt w B g h bs) (hb : Below w.heap.size w w') : WrAt w' B g h bs :=
  hw.keep (S := fun _ => False) (KeptS.ofBelow hb) (fun h => h) (fun _ _ h => h)

/-- How a Writer's own block moves. -/
def WrMv (w : World) (h h1 : Option Nat) : Prop := h1 = h ∨ ∃ b, h1 = some b ∧ w.heap.size ≤ b

theorem WrPost.trans {w w1 w2 : World} {B g : Nat} {h h1 : Option Nat} {cs : List Int} (k1 : KeptS (WrS g h) w w1) (o1 : WrMv w h h1) (q : WrPost w1 w2 B g h1 cs) : WrPost w w2 B g h cs := by
  obtain ⟨h2, a2, k2, o2⟩ := q
  refine ⟨h2, a2, k1.trans k2 (fun i hi => ?_), ?_⟩
  · rcases hi with rfl | hi
    · exact .inl (.inl rfl)
    · rcases o1 with rfl | ⟨b, rfl, hb⟩
      · exact .inl (.inr hi)
      · right
        injection hi with hi
        omega
  · have := k1.size
    rcases o2 with rfl | ⟨b, rfl, hb⟩
    · exact o1
    · exact .inr ⟨b, rfl, by omega⟩

theorem WrPost.refl {w : World} {B g : Nat} {h : Option Nat} {bs : List Int} (hw : WrAt w B g h bs) : WrPost w w B g h bs :=
  ⟨h, hw, KeptS.ofBelow (Below.refl _ _), .inl rfl⟩

/-- The Writer that was just declared. -/
theorem wrAt_new (w : World) (B g : Nat) (hg : g = w.heap.size) (hB : B ≤ w.heap.size) : WrAt (w.alloc (.cells #[.slice none 0 0] wrT)) B g none [] :=
  ⟨_, Whole.made w wrT #[.slice none 0 0] g hg, Owns.nil _ _ _ _, rfl, by omega⟩

set_option maxHeartbeats 1000000 in
set_option maxRecDepth 100000 in
/-- slices.Clone of bytes. -/
theorem bclone_any (A : Option Addr) (n c : Nat) (zs : List Int) (w : World) (h : Nums .u8 w A n zs) (hn : n ≤ 140737488355328) :
    Calls Try.prog 54 #[.slice A n c] w fun e w' => ∃ A' c', e = .returned (.slice A' n c') ∧ Below w.heap.size w w' ∧ Owns .u8 u8T w' w.heap.size (.slice A' n c') n zs := by
  cases A with
  | none =>
    obtain ⟨hl, hc⟩ := h
    obtain rfl : n = 0 := by
      rcases Nat.eq_zero_or_pos n with h0 | h0
      · exact h0
      · obtain ⟨b, off, h1, _⟩ := hc h0
        cases h1
    obtain rfl : zs = [] := List.eq_nil_of_length_eq_zero hl
    have hnil : ∀ W : World, (binOp .eql bsT (.slice none 0 c) (.slice none 0 0)).run Try.prog W = .ok (.bool true) W := fun W => by
      simp only [binOp]
      simp [run_equal_slice_nil W bsT u8T none 0 c Try.underlying36]
    clear hc hl hn
    go_enter Try.func54, Try.ntmps54
    go_wp2_with fail
    go_ret
    exact ⟨_, _, rfl, Below.refl _ _, Owns.nil _ _ _ _⟩
  | some a =>
    have hnil : ∀ W : World, (binOp .eql bsT (.slice (some a) n c) (.slice none 0 0)).run Try.prog W = .ok (.bool false) W := fun W => by
      simp only [binOp]
      simp [run_equal_slice_nil W bsT u8T (some a) n c Try.underlying36]
    have HN := Lib.hid hn
    have NB := Lib.hid (h.below ((Below.refl w.heap.size w).alloc (Nat.le_refl _) (.cells #[] u8T)))
    have BA := Lib.hid ((Below.refl w.heap.size w).alloc (Nat.le_refl _) (.cells #[] u8T))
    have OE := Lib.hid (owns_built .u8 u8T w [] #[] rfl 0 rfl (by decide) w.heap.size (Nat.le_refl _) w.heap.size rfl)
    clear h hn
    go_enter Try.func54, Try.ntmps54
    go_wp2_with (at_builtin; refine wpList_append_nums _ rfl _ _ rfl rowU8 w.heap.size (.slice (some ⟨w.heap.size, 0, none⟩) 0 0) 0 [] rfl OE.out (some a) n c zs rfl NB.out (by have := HN.out; omega) BA.out.size ?_; intro v3 w3 ho3 hg3 _; have B3 := Lib.hid (Owns.grown_below BA.out OE.out hg3 BA.out.size); have O3 := Lib.hid ho3; clear ho3 hg3)
    go_ret
    have ho := O3.out
    rw [Nat.zero_add, List.nil_append] at ho
    obtain ⟨A', c', rfl, _⟩ := ho.form
    exact ⟨A', c', rfl, B3.out, ho⟩

set_option maxHeartbeats 1000000 in
set_option maxRecDepth 100000 in
theorem wbyte_any (b : Int) (B g : Nat) (h : Option Nat) (bs : List Int) (w : World) (hw : WrAt w B g h bs) (hB : B ≤ w.heap.size) (hn : bs.length ≤ 100000000) :
    Calls Try.prog 58 #[.pointer (some ⟨g, 0, none⟩), .int .u8 b] w fun e w' => e = .returned (.tuple #[]) ∧ WrPost w w' B g h (bs ++ [b]) := by
  obtain ⟨v, hW, hO, rfl, hBg⟩ := hw
  have c0 : w.cell? ⟨g, 0, none⟩ = some v := hW.cell 0
  have hne : v.ownBlock ≠ some g := row_ne hO hW (fun c fz e => by injection e with _ e _; exact absurd e (by decide))
  have WA := Lib.hid (hW.alloc (.cells #[.int .u8 b] u8T))
  have OA := Lib.hid (hO.alloc (.cells #[.int .u8 b] u8T))
  have NB := Lib.hid (nums_built .u8 u8T w [b] #[.int .u8 b] rfl 1 rfl (by decide) w.heap.size rfl)
  have BA := Lib.hid ((Below.refl w.heap.size w).alloc (Nat.le_refl _) (.cells #[.int .u8 b] u8T))
  have HN := Lib.hid hn
  have HB := Lib.hid hB
  have NE := Lib.hid hne
  have GL := Lib.hid hW.lt
  have OL := Lib.hid hO.lt
  clear hn hB hne hW hO
  go_enter Try.func58, Try.ntmps58
  go_wp2_with (at_builtin; refine wpList_append_nums _ rfl _ _ rfl rowU8 B v bs.length bs rfl OA.out (some ⟨w.heap.size, 0, none⟩) 1 1 [b] rfl NB.out (by have := HN.out; omega) (Nat.le_trans HB.out BA.out.size) ?_; intro v3 w3 ho3 hg3 hat; obtain ⟨A', c', rfl, hz3⟩ := ho3.form; have G3 := Lib.hid hg3; have W3 := Lib.hid (show Whole w3 g wrT #[v] from (hg3.block g WA.out.lt (fun e => NE.out e.symm)).trans WA.out); have O3 := Lib.hid ho3; have AT := Lib.hid hat; have d0 : w3.cell? ⟨g, 0, none⟩ = some v := W3.out.cell 0; have f0 : w3.frozen? ⟨g, 0, none⟩ = false := W3.out.free 0; clear ho3 hg3 hat hz3)
  have WS := Lib.hid (show Whole (w3.setCell ⟨g, 0, none⟩ (.slice A' (bs.length + 1) c')) g wrT #[.slice A' (bs.length + 1) c'] from W3.out.store 0 _)
  have K1 : KeptS (WrS g v.ownBlock) w (w.alloc (.cells #[.int .u8 b] u8T)) := KeptS.ofBelow BA.out
  have K2 : KeptS (WrS g v.ownBlock) (w.alloc (.cells #[.int .u8 b] u8T)) w3 := KeptS.grown G3.out (fun b hb => .inr hb)
  have K3 : KeptS (WrS g v.ownBlock) w3 (w3.setCell ⟨g, 0, none⟩ (.slice A' (bs.length + 1) c')) := KeptS.set (.inl rfl)
  have KS := Lib.hid ((K1.trans K2 (fun i hi => .inl hi)).trans K3 (fun i hi => .inl hi))
  have hn3 : (Value.slice A' (bs.length + 1) c').ownBlock ≠ some g := by
    rcases AT.out with e | e
    · rw [e]; exact NE.out
    · rw [e]
      intro e2
      injection e2 with e2
      have := GL.out
      simp at e2
      omega
  have O4 := Lib.hid (O3.out.keepS (S := fun b => b = g) (KeptS.set (w := w3) (g := g) (j := 0) (u := .slice A' (bs.length + 1) c') rfl) (fun b hb e => by subst e; exact hn3 hb))
  go_end0
  refine ⟨rfl, _, ⟨_, WS.out, ?_, rfl, hBg⟩, KS.out, ?_⟩
  · rw [List.length_append]
    exact O4.out
  · rcases AT.out with e | e
    · exact .inl e
    · exact .inr ⟨_, e, by simp⟩

set_option maxHeartbeats 1000000 in
set_option maxRecDepth 100000 in
theorem wbytes_any (B g : Nat) (h : Option Nat) (bs : List Int) (w : World) (hw : WrAt w B g h bs) (hn : bs.length ≤ 100000000) :
    Calls Try.prog 30 #[.pointer (some ⟨g, 0, none⟩)] w fun e w' => ∃ A' c', e = .returned (.slice A' bs.length c') ∧ Below w.heap.size w w' ∧ Owns .u8 u8T w' w.heap.size (.slice A' bs.length c') bs.length bs := by
  obtain ⟨v, hW, hO, rfl, hBg⟩ := hw
  obtain ⟨A', c', rfl, hz⟩ := hO.form
  have c0 : w.cell? ⟨g, 0, none⟩ = some (.slice A' bs.length c') := hW.cell 0
  have CL := Lib.hid (bclone_any A' bs.length c' bs w hz (by omega))
  clear hW hO hz hn
  go_enter Try.func30, Try.ntmps30
  go_wp2_with fail
  refine CL.out.mono ?_
  rintro e w1 ⟨A2, c2, rfl, hb, ho⟩
  have HB := Lib.hid hb
  have HO := Lib.hid ho
  clear hb ho
  go_wp2_with fail
  go_ret
  exact ⟨_, _, rfl, HB.out, HO.out⟩
end Go.Proofs.Ytdakooipelligaa
