/- LisK LisM LisN LisO LisP in one. -/
import Derived.Test.YtoffagmoaedkbaaDoorLisGI
import Derived.RangeFuncNested
import Derived.RangeFuncBound
import Derived.RangeFuncCalls
import Derived.RangeFuncLeaves
import Derived.RangeFuncFrom
import Derived.OwnWalkIn
import Derived.TacticsInMore
import Derived.LoopNIn
import Derived.LoopIn
import Derived.Test.YtoffagmoaedkbaaDoorBuild
import Derived.Test.YtoffagmoaedkbaaDoorSlices
import Derived.Test.YtoffagmoaedkbaaDoorBlocks
import Derived.Lib.BufferMore
import Derived.Test.YtoffagmoaedkbaaDoorLisAD

/- Listing: the iterator of lines: what it yields, whatever the loop's body does but to what it reads. -/
namespace Go.Proofs.YtoffagmoaedkbaaDoor
open Go.ChangeShapes Go.WideShapes Go.ChangeAt Go.RowKit
set_option linter.unusedVariables false
set_option linter.unusedSimpArgs false
attribute [local go_sem] Oper.semAt_some

/-- What a round keeps: all below n but block g. -/
structure Kept (n g : Nat) (w w' : World) : Prop where
  os : w'.os = w.os
  tape : w'.tape = w.tape
  output : w'.output = w.output
  size : w.heap.size ≤ w'.heap.size
  block : ∀ i, i < n → i ≠ g → i < w.heap.size → w'.heap[i]? = w.heap[i]?

section
variable {n g : Nat} {a b c : World}

theorem Kept.refl (n g : Nat) (w : World) : Kept n g w w := ⟨rfl, rfl, rfl, Nat.le_refl _, fun _ _ _ _ => rfl⟩

theorem Kept.trans (h : Kept n g a b) (k : Kept n g b c) : Kept n g a c :=
  ⟨k.os.trans h.os, k.tape.trans h.tape, k.output.trans h.output, Nat.le_trans h.size k.size, fun i h1 h2 h3 => (k.block i h1 h2 (Nat.lt_of_lt_of_le h3 h.size)).trans (h.block i h1 h2 h3)⟩

theorem Kept.of_below (h : Below a.heap.size a b) : Kept n g a b := ⟨h.os, h.tape, h.output, h.size, fun i _ _ h3 => h.block i h3⟩

theorem Kept.of_lower {B : Nat} (h : Below B a b) (hn : n ≤ B) : Kept n g a b := ⟨h.os, h.tape, h.output, h.size, fun i h1 _ _ => h.block i (Nat.lt_of_lt_of_le h1 hn)⟩

/-- Below the lower of both all stands. -/
theorem Kept.below {B : Nat} (h : Kept n g a b) (hn : B ≤ n) (hg : B ≤ g) (ha : B ≤ a.heap.size) : Below B a b :=
  ⟨h.os, h.tape, h.output, h.size, fun i hi => h.block i (Nat.lt_of_lt_of_le hi hn) (fun e => by omega) (Nat.lt_of_lt_of_le hi ha)⟩

theorem Kept.cell (h : Kept n g a b) {p : Addr} {v : Value} (hc : a.cell? p = some v) (hn : p.block < n) (hg : p.block ≠ g) : b.cell? p = some v := by
  have hlt := block_lt hc
  rw [World.cell?_of_block (h.block _ hn hg hlt)]
  exact hc
end

/-- A text of a line's length. -/
abbrev Ln := { s : ByteArray // s.size ≤ 200 }

theorem lineOf_size (x y : Int) : (lineOf x y).size ≤ 200 := by
  have h1 := meanOf_size x y
  have h2 : (⟨#[32]⟩ : ByteArray).size = 1 := rfl
  unfold lineOf
  rw [ByteArray.size_append, ByteArray.size_append, ByteArray.size_append, ByteArray.size_append, hexStr_size, hexStr_size, h2]
  omega

/-- The k-th line. -/
def lnK (at_ : Int) (zs : List Int) (k : Nat) : Ln := ⟨lineOf ((at_ + 4 * k) % 4294967296) (zs.getD k 0), lineOf_size _ _⟩

def lnsTo (at_ : Int) (zs : List Int) (k : Nat) : List Ln := (List.range k).map (lnK at_ zs)

theorem lnsTo_succ (at_ : Int) (zs : List Int) (k : Nat) : lnsTo at_ zs (k + 1) = lnsTo at_ zs k ++ [lnK at_ zs k] := by
  unfold lnsTo
  rw [List.range_succ, List.map_append]
  rfl

theorem grown_none {w w' : World} (h : Below w.heap.size w w') : w.grownBy w' none := ⟨h.os, h.tape, h.output, h.size, fun i hi _ => h.block i hi⟩

set_option maxHeartbeats 8000000 in
set_option maxRecDepth 100000 in
theorem lines1_stops (n₀ g : Nat) (w0 w : World) (Lb Ab : Nat) (A : Option Addr) (n c : Nat) (zs : List Int) (at_ : Int)
    (hB : Below w0.heap.size w0 w) (hS : ShapesIn w0) (hN : NamesIn w0) (hg0 : w0.heap.size ≤ g) (hn0 : w0.heap.size ≤ n₀) (hw : n₀ ≤ w.heap.size)
    (hl : w.cell? ⟨Lb, 0, none⟩ = some (.slice A n c)) (ha : w.cell? ⟨Ab, 0, none⟩ = some (.int .u32 at_)) (hLn : Lb < n₀) (hLg : Lb ≠ g) (hAn : Ab < n₀) (hAg : Ab ≠ g)
    (hz : 0 < n → ∃ bz oz, A = some ⟨bz, oz, none⟩ ∧ bz < n₀ ∧ bz ≠ g ∧ ∀ k, k < n → w.cell? ⟨bz, oz + k, none⟩ = some (.int .u32 (zs.getD k 0)))
    (hu : ∀ k, 0 ≤ zs.getD k 0 ∧ zs.getD k 0 ≤ 4294967295) (hn : n ≤ 1000000) :
    SeqStopsK Fence.wide 3 Tryd.prog 82 #[.pointer (some ⟨Lb, 0, none⟩), .pointer (some ⟨Ab, 0, none⟩)] (fun x : Ln => #[.string x.1]) (Kept n₀ g) (· = lnsTo at_ zs n) (fun _ => True) n w := by
  intro l J Jx W hW hJ hJx hY h0
  have HY := Lib.hid hY
  have HS := Lib.hid (fun W' (h : Below w0.heap.size w0 W') => hS.below h (Nat.le_refl _))
  have HN := Lib.hid (fun W' (h : Below w0.heap.size w0 W') => hN.below h (Nat.le_refl _))
  have HJ := Lib.hid hJ
  have HZ := Lib.hid hz
  have HU := Lib.hid hu
  have HL := Lib.hid hl
  have HA := Lib.hid ha
  have HB := Lib.hid hB
  have hL0 : W.cell? ⟨Lb, 0, none⟩ = some (.slice A n c) := (hW.cell (p := ⟨Lb, 0, none⟩) (block_lt hl)).trans hl
  have KW := Lib.hid (show Kept n₀ g w W from Kept.of_below hW)
  have J0 := Lib.hid (show J (lnsTo at_ zs 0) W from h0)
  clear hY hS hN hJ hz hu hl ha hB h0 hJx
  refine callsIn_of_wp Tryd.func82 rfl trivial ?_ rfl
  simp only [Tryd.ntmps82, List.size_toArray, List.length_cons, List.length_nil, Nat.reduceAdd, Nat.reduceSub, Array.replicate_succ, Array.replicate_zero, List.push_toArray, List.append_toArray, List.nil_append, List.cons_append]
  gi_wp2
  gi_loopw [8] (fun i wr => ∃ k : Nat, k ≤ n ∧ i = .int .i64 k ∧ Kept n₀ g w wr ∧ J (lnsTo at_ zs k) wr) (fun i _ => n - (intOf i).toNat)
  case atStart => exact ⟨0, Nat.zero_le _, rfl, KW.out, J0.out⟩
  case round =>
    obtain ⟨k, hk, rfl, hK, hJk⟩ := hrel
    have KH := Lib.hid hK
    have JH := Lib.hid hJk
    clear hK hJk hL0
    by_cases hlt : k < n
    · have hI : (k : Int) < n := by omega
      obtain ⟨bz, oz, hA, hbn, hbg, hc⟩ := HZ.out (by omega)
      subst hA
      have u0 : wr.cell? ⟨bz, oz + k, none⟩ = some (.int .u32 (zs.getD k 0)) := KH.out.cell (hc k hlt) hbn hbg
      have a0 : wr.cell? ⟨Ab, 0, none⟩ = some (.int .u32 at_) := KH.out.cell HA.out hAn hAg
      have hxu := HU.out k
      have WB := Lib.hid (HB.out.trans (KH.out.below hn0 hg0 (Nat.le_trans hn0 hw)))
      have AD := Lib.hid (addressof_any at_ k wr (by omega))
      have LN := Lib.hid (line_any ((at_ + 4 * k) % 4294967296) (zs.getD k 0) wr (HS.out _ WB.out) (HN.out _ WB.out) (by omega) hxu.1 hxu.2)
      have LK := Lib.hid (show (lnK at_ zs k).1 = lineOf ((at_ + 4 * k) % 4294967296) (zs.getD k 0) from rfl)
      rw [← LK.out] at LN
      clear LK hc hxu
      generalize (at_ + 4 * (k : Int)) % 4294967296 = ak at *
      generalize zs.getD k 0 = x at *
      gi_wp2_with fail
      refine ⟨trivial, (callsIn_wide.2 AD.out).mono ?_⟩
      rintro e w1 ⟨rfl, rfl⟩
      gi_wp2_with fail
      refine ⟨trivial, (callsIn_wide.2 LN.out).mono ?_⟩
      rintro e w2 ⟨rfl, hb2⟩
      have K2 := Lib.hid (KH.out.trans (Kept.of_below hb2))
      have J2 := HJ.out (lnsTo at_ zs k) wr w2 none JH.out (grown_none hb2) (fun r h => by cases h)
      have SC := Lib.hid (lnsTo_succ at_ zs k)
      obtain ⟨fn, tmps, assign, body, hy, hR⟩ := HY.out _ (lnK at_ zs k) w2 J2 (by rw [show (lnsTo at_ zs k).length = k by simp [lnsTo]]; exact hlt)
      rw [← SC.out] at hR
      clear hb2 J2 SC AD LN KH JH u0 a0 WB
      generalize lnK at_ zs k = lk at *
      gi_wp2
      refine hR.mono ?_
      rintro e w3 (⟨rfl, hJ3, hk3⟩ | ⟨rfl, hJx3⟩)
      · have K3 := Lib.hid (K2.out.trans hk3)
        have J3 := Lib.hid hJ3
        clear hR hk3 hJ3 hy
        gi_wp2
        go_roundw
        case rel => exact ⟨k + 1, by omega, by go_num, K3.out, J3.out⟩
        case measure => simp [intOf]; omega
      · have J3 := Lib.hid hJx3
        clear hR hJx3 hy
        gi_wp2
        refine bodyPost_ret (results_none rfl _ _ _) rfl ?_
        exact ⟨⟨_, rfl⟩, .inr ⟨_, trivial, J3.out⟩⟩
    · have hI : ¬ (k : Int) < n := by omega
      obtain rfl : k = n := by omega
      gi_wp2
      go_end0
      first | exact ⟨⟨_, rfl⟩, .inl ⟨_, rfl, JH.out⟩⟩ | exact ⟨⟨_, rfl⟩, .inl JH.out⟩
end Go.Proofs.YtoffagmoaedkbaaDoor

/- Listing: lines, Lines, Print. -/
namespace Go.Proofs.YtoffagmoaedkbaaDoor
open Go.ChangeShapes Go.WideShapes Go.ChangeAt Go.RowKit
set_option linter.unusedVariables false
set_option linter.unusedSimpArgs false
attribute [local go_sem] Oper.semAt_some

abbrev boxAt (w : World) (at_ : Int) : World := w.alloc (.cells #[.int .u32 at_] 45)

abbrev boxes (w : World) (at_ : Int) (A : Option Addr) (n c : Nat) : World := (boxAt w at_).alloc (.cells #[.slice A n c] 23)

set_option maxHeartbeats 1000000 in
set_option maxRecDepth 100000 in
theorem lines_fn (at_ : Int) (A : Option Addr) (n c : Nat) (w : World) :
    Calls Tryd.prog 44 #[.int .u32 at_, .slice A n c] w fun e w' => e = .returned (.func (.func 82) #[] #[.pointer (some ⟨w.heap.size + 1, 0, none⟩), .pointer (some ⟨w.heap.size, 0, none⟩)]) ∧ w' = boxes w at_ A n c := by
  go_enter Tryd.func44, Tryd.ntmps44
  go_wp2
  go_ret
  exact ⟨rfl, rfl⟩

theorem rowU32P : RowOf Tryd.prog 23 45 .u32 4 := rowOf_mk Tryd.underlying23 (by kernel_rfl) (by decide)

set_option maxHeartbeats 4000000 in
set_option maxRecDepth 100000 in
theorem clone32_nil (w : World) :
    Calls Tryd.prog 46 #[.slice none 0 0] w fun e w' => ∃ v, e = .returned v ∧ Owns .u32 45 w' w.heap.size v 0 [] ∧ Below w.heap.size w w' := by
  have hnil : ∀ W, (binOp .eql 23 (.slice none 0 0) (.slice none 0 0)).run Tryd.prog W = .ok (.bool true) W := fun W => Lib.run_eql_slice_nil_nil W _ _ Tryd.underlying23
  go_enter Tryd.func46, Tryd.ntmps46
  go_wp2_with fail
  go_ret
  exact ⟨.slice none 0 0, rfl, Owns.nil _ _ _ _, Below.refl _ _⟩

set_option maxHeartbeats 4000000 in
set_option maxRecDepth 100000 in
theorem clone32_some (a : Addr) (m cap : Nat) (zs : List Int) (w : World) (hz : Nums .u32 w (some a) m zs) (hm : m ≤ 1000000) :
    Calls Tryd.prog 46 #[.slice (some a) m cap] w fun e w' => ∃ v, e = .returned v ∧ Owns .u32 45 w' w.heap.size v m zs ∧ Below w.heap.size w w' := by
  have NZ := Lib.hid (hz.below ((Below.refl _ _).alloc (Nat.le_refl _) (.cells #[] 45)))
  have OW := Lib.hid (owns_built .u32 45 w [] #[] rfl 0 rfl (Nat.zero_le _) w.heap.size (Nat.le_refl _) w.heap.size rfl)
  have B0 := Lib.hid ((Below.refl w.heap.size w).alloc (Nat.le_refl _) (.cells #[] 45))
  clear hz
  have hnil : ∀ W, (binOp .eql 23 (.slice (some a) m cap) (.slice none 0 0)).run Tryd.prog W = .ok (.bool false) W := fun W => Lib.run_eql_slice_some_nil W _ _ _ Tryd.underlying23
  go_enter Tryd.func46, Tryd.ntmps46
  go_wp2_with (at_builtin; refine wpList_append_nums _ rfl _ _ rfl rowU32P w.heap.size (.slice (some ⟨w.heap.size, 0, none⟩) 0 0) 0 [] rfl OW.out (some a) m cap zs rfl NZ.out (by omega) (by simp) ?_; intro v' w' ho hg hal; have HO := Lib.hid ho; have BG := Lib.hid (OW.out.grown_below B0.out hg (by simp)); clear ho hg)
  go_ret
  exact ⟨v', rfl, by simpa using HO.out, BG.out⟩

theorem clone32 (A : Option Addr) (m cap : Nat) (zs : List Int) (w : World) (hA : A = none → m = 0 ∧ cap = 0) (hz : Nums .u32 w A m zs) (hm : m ≤ 1000000) :
    Calls Tryd.prog 46 #[.slice A m cap] w fun e w' => ∃ v, e = .returned v ∧ Owns .u32 45 w' w.heap.size v m zs ∧ Below w.heap.size w w' := by
  cases A with
  | none =>
    obtain ⟨rfl, rfl⟩ := hA rfl
    obtain rfl : zs = [] := List.eq_nil_of_length_eq_zero hz.1
    exact clone32_nil w
  | some a => exact clone32_some a m cap zs w hz hm

set_option maxHeartbeats 1000000 in
set_option maxRecDepth 100000 in
theorem Lines_fn (at_ : Int) (A : Option Addr) (n c : Nat) (zs : List Int) (w : World) (hA : A = none → n = 0 ∧ c = 0) (hz : Nums .u32 w A n zs) (hn : n ≤ 1000000) :
    Calls Tryd.prog 24 #[.int .u32 at_, .slice A n c] w fun e w' => ∃ w1 A1 c1, e = .returned (.func (.func 82) #[] #[.pointer (some ⟨w1.heap.size + 1, 0, none⟩), .pointer (some ⟨w1.heap.size, 0, none⟩)]) ∧ Nums .u32 w1 A1 n zs ∧ Below w.heap.size w w1 ∧ w' = boxes w1 at_ A1 n c1 := by
  have CL := Lib.hid (clone32 A n c zs w hA hz hn)
  clear hz hA
  go_enter Tryd.func24, Tryd.ntmps24
  go_wp2_with fail
  refine CL.out.mono ?_
  rintro e w1 ⟨v, rfl, ho, hb⟩
  obtain ⟨A1, c1, rfl, hn1⟩ := ho.form
  have N1 := Lib.hid hn1
  have B1 := Lib.hid hb
  clear ho hb hn1 CL
  go_wp2_with fail
  refine (lines_fn at_ A1 n c1 w1).mono ?_
  rintro e w2 ⟨rfl, hw⟩
  have HW := Lib.hid hw
  clear hw
  go_wp2_with fail
  go_ret
  exact ⟨w1, A1, c1, rfl, N1.out, B1.out, HW.out⟩

/-- What String answers, and what it leaves. -/
theorem bldstring_all (B b : Nat) (l : List UInt8) (w : World) (h : Bldr w B b l) (hBw : B ≤ w.heap.size) :
    Calls Tryd.prog 39 #[.pointer (some ⟨b, 0, none⟩)] w fun e w' => e = .returned (.string ⟨l.toArray⟩) ∧ Below B w w' ∧ Rest b w w' := by
  refine (Tryd.Builder_String_any_k B b l w h hBw).mono ?_
  rintro e w' ⟨rfl, _, hb, hk⟩
  exact ⟨rfl, hb, hk⟩

/-- The bytes of lines, each with its line feed. -/
def bytesOf (l : List Ln) : List UInt8 := (l.map fun s => s.1.data.toList ++ [10]).flatten

theorem bytesOf_snoc (l : List Ln) (s : Ln) : bytesOf (l ++ [s]) = bytesOf l ++ s.1.data.toList ++ [10] := by
  simp [bytesOf]

theorem bldr_cells {w : World} {B b : Nat} {l : List UInt8} (h : Bldr w B b l) : ∃ cs, w.heap[b]? = some (.cells cs 83 (0, 0)) := by
  rcases h with ⟨_, v, hb, _⟩ | ⟨_, v, hb, _⟩ <;> exact ⟨_, hb⟩

theorem bldr_lt {w : World} {B b : Nat} {l : List UInt8} (h : Bldr w B b l) : b < w.heap.size := by
  obtain ⟨cs, h⟩ := bldr_cells h
  exact (Array.getElem?_eq_some_iff.1 h).1

theorem rest_others {b : Nat} {w w' : World} (h : Rest b w w') (hs : w.heap.size ≤ w'.heap.size) {cs : Array Value} {t : TypeId} {fz : Nat × Nat} (hb : w.heap[b]? = some (.cells cs t fz)) : KeepsOthers w w' := by
  refine ⟨hs, fun k o hk ho => h k o hk (fun e => ?_) (fun c fz e => ?_)⟩
  · injection e with e
    subst e
    rw [hk] at hb
    injection hb with hb
    subst hb
    cases ho
  · subst e
    cases ho

theorem bldr_own {w w' : World} {B b : Nat} {l : List UInt8} {row : Option Nat} (h : Bldr w B b l) (hg : w.grownBy w' row) (hr : ∀ r, row = some r → ∃ o : Obj, w.heap[r]? = some o ∧ o.isCells = false) : Bldr w' B b l := by
  have key : ∀ p, Lib.BuilderAtF 83 5 B b p (Lib.byteCells l) w → Lib.BuilderAtF 83 5 B b p (Lib.byteCells l) w' := by
    rintro p ⟨hB, v, hb, hown, hne⟩
    have nb : ∀ g c t fz, w.heap[g]? = some (.cells c t fz) → some g ≠ row := fun g c t fz hc e => by
      obtain ⟨o, ho, hc'⟩ := hr g e.symm
      rw [hc] at ho
      injection ho with ho
      subst ho
      cases hc'
    refine ⟨hB, v, (hg.block b (Array.getElem?_eq_some_iff.1 hb).1 (nb _ _ _ _ hb)).trans hb, hown.kept hg ?_, hne⟩
    rcases hown.2 with ⟨rfl, _⟩ | ⟨g, cap, cur, fz, rfl, _, hg', _⟩
    · exact .inl (by simp [Value.ownBlock])
    · exact .inr (by simpa [Value.ownBlock] using nb _ _ _ _ hg')
  exact h.elim (fun x => .inl (key _ x)) (fun x => .inr (key _ x))
end Go.Proofs.YtoffagmoaedkbaaDoor

/- Listing: Print, and the answers' Print. -/
namespace Go.Proofs.YtoffagmoaedkbaaDoor
open Go.ChangeShapes Go.WideShapes Go.ChangeAt Go.RowKit
set_option linter.unusedVariables false
set_option linter.unusedSimpArgs false
attribute [local go_sem] Oper.semAt_some

theorem bytesOf_len (l : List Ln) : (bytesOf l).length ≤ 201 * l.length := by
  induction l with
  | nil => simp [bytesOf]
  | cons s l ih =>
    have h2 := s.2
    have h3 : (bytesOf (s :: l)) = s.1.data.toList ++ [10] ++ bytesOf l := by simp [bytesOf]
    rw [h3]
    simp only [List.length_append, List.length_cons, List.length_nil]
    have : s.1.data.toList.length = s.1.size := Array.length_toList
    omega

theorem lnsTo_len (at_ : Int) (zs : List Int) (k : Nat) : (lnsTo at_ zs k).length = k := by simp [lnsTo]

/-- What is kept between two rounds of Print. -/
structure PrI (w V : World) (pre : List Ln) (W : World) : Prop where
  bld : Bldr W w.heap.size w.heap.size (bytesOf pre)
  kept : Kept (w.heap.size + 3) w.heap.size V W
  bel : Below w.heap.size w W

theorem pri_own (w V : World) (hV : V.heap.size = w.heap.size + 3) : OwnFrom V.heap.size (PrI w V) := by
  intro s A B row hs hg hr
  refine ⟨bldr_own hs.bld hg (fun r e => (hr r e).2), ⟨hg.os.trans hs.kept.os, hg.tape.trans hs.kept.tape, hg.output.trans hs.kept.output, Nat.le_trans hs.kept.size hg.size, fun i h1 h2 h3 => (hg.block i (Nat.lt_of_lt_of_le h3 hs.kept.size) (fun e => ?_)).trans (hs.kept.block i h1 h2 h3)⟩, hs.bel.grown hg hs.bel.size (fun k e => by have := (hr k e).1; omega)⟩
  have := (hr i e.symm).1
  omega

theorem kept_put (n g : Nat) (W : World) (l : Nat) (o' : Obj) (h : n ≤ l) : Kept n g W (W.putObj l o') :=
  ⟨rfl, rfl, rfl, by simp, fun i h1 _ _ => World.putObj_heap_other (by omega)⟩

/-- A write into the builder keeps what the iterator reads. -/
theorem kept_write {V W W' : World} {g : Nat} {c1 c2 : Array Value} {t1 t2 : TypeId} {f1 f2 : Nat × Nat} (hK : Kept (g + 3) g V W) (hV : V.heap.size = g + 3) (h1 : V.heap[g + 1]? = some (.cells c1 t1 f1)) (h2 : V.heap[g + 2]? = some (.cells c2 t2 f2)) (n1 : t1 ≠ 5) (n2 : t2 ≠ 5)
    (hb : Below g W W') (hr : Rest g W W') : Kept (g + 3) g W W' := by
  refine ⟨hb.os, hb.tape, hb.output, hb.size, fun i hi hne hlt => ?_⟩
  have e1 := (hK.block (g + 1) (by omega) (by omega) (by omega)).trans h1
  have e2 := (hK.block (g + 2) (by omega) (by omega) (by omega)).trans h2
  rcases Nat.lt_or_ge i g with h | h
  · exact hb.block i h
  · rcases (show i = g + 1 ∨ i = g + 2 by omega) with rfl | rfl
    · exact (hr _ _ e1 (by simp) (fun c fz e => n1 (by injection e))).trans e1.symm
    · exact (hr _ _ e2 (by simp) (fun c fz e => n2 (by injection e))).trans e2.symm

set_option maxHeartbeats 8000000 in
set_option maxRecDepth 100000 in
theorem print_any (at_ : Int) (A : Option Addr) (n c : Nat) (zs : List Int) (w : World) (hS : ShapesIn w) (hN : NamesIn w) (hz : Nums .u32 w A n zs) (hu : ∀ k, 0 ≤ zs.getD k 0 ∧ zs.getD k 0 ≤ 4294967295) (hn : n ≤ 1000) :
    Calls Tryd.prog 22 #[.int .u32 at_, .slice A n c] w fun e w' => e = .returned (.string ⟨(bytesOf (lnsTo at_ zs n)).toArray⟩) ∧ Below w.heap.size w w' := by
  have BN := Lib.hid (bldr_new w)
  have B0 := Lib.hid ((Below.refl w.heap.size w).alloc (Nat.le_refl _) (.cells #[.pointer none, .slice none 0 0] 83))
  have S0 := Lib.hid (show (w.alloc (.cells #[.pointer none, .slice none 0 0] 83)).heap.size = w.heap.size + 1 by simp)
  have LF := Lib.hid (fun w' => lines_fn at_ A n c w')
  have HS := Lib.hid hS
  have HN := Lib.hid hN
  have HZ := Lib.hid hz
  have HU := Lib.hid hu
  clear hS hN hz hu
  refine (callsIn_wide (n := 4)).1 ?_
  refine callsIn_of_wp_marks Tryd.func22 rfl trivial ?_ rfl
  simp only [Tryd.ntmps22, List.size_toArray, List.length_cons, List.length_nil, Nat.reduceAdd, Nat.reduceSub, Array.replicate_succ, Array.replicate_zero, List.push_toArray, List.append_toArray, List.nil_append, List.cons_append]
  gi_wp2_with fail
  generalize w.alloc (.cells #[.pointer none, .slice none 0 0] 83) = V1 at *
  refine ⟨trivial, (callsIn_wide.2 (LF.out V1)).mono ?_⟩
  rintro e w1 ⟨rfl, hw⟩
  have Z0 := S0.out
  have ZB := Lib.hid (show w1.heap.size = w.heap.size + 3 by rw [hw]; simp [S0.out])
  have BW := Lib.hid (show Below w.heap.size w w1 by rw [hw]; exact (B0.out.alloc B0.out.size _).alloc (by simp; omega) _)
  have BL := Lib.hid (show Bldr w1 w.heap.size w.heap.size (bytesOf []) by rw [hw]; exact bldr_own (bldr_own BN.out (World.grownBy_alloc _ _ none) (fun r e => by cases e)) (World.grownBy_alloc _ _ none) (fun r e => by cases e))
  have E1 := Lib.hid (show w1.heap[w.heap.size + 1]? = some (.cells #[.int .u32 at_] 45 (0, 0)) by
    rw [hw, ← Z0]
    exact (Below.heap_alloc _ _ _ (by simp)).trans (heap_alloc_new V1 _))
  have E2 := Lib.hid (show w1.heap[w.heap.size + 2]? = some (.cells #[.slice A n c] 23 (0, 0)) by
    rw [hw, show w.heap.size + 2 = (boxAt V1 at_).heap.size by simp; omega]
    exact heap_alloc_new _ _)
  have CA : w1.cell? ⟨w.heap.size + 1, 0, none⟩ = some (.int .u32 at_) := by rw [Lib.cell_of_heap E1.out]; rfl
  have CB : w1.cell? ⟨w.heap.size + 2, 0, none⟩ = some (.slice A n c) := by rw [Lib.cell_of_heap E2.out]; rfl
  have LS := Lib.hid (lines1_stops (w.heap.size + 3) w.heap.size w w1 (w.heap.size + 2) (w.heap.size + 1) A n c zs at_ BW.out HS.out HN.out (Nat.le_refl _) (by omega) (by rw [ZB.out]; exact Nat.le_refl _) CB CA (by omega) (by omega) (by omega) (by omega)
    (fun h0 => by
      obtain ⟨bz, oz, hA, hlt, hc⟩ := HZ.out.2 h0
      exact ⟨bz, oz, hA, by omega, by omega, fun k hk => (BW.out.cell (p := ⟨bz, oz + k, none⟩) hlt).trans (hc k hk)⟩) HU.out (by omega))
  have OW := Lib.hid (pri_own w w1 ZB.out)
  rw [Z0]
  clear hw B0 BN S0 LF HS HN HZ HU CA CB Z0
  gi_wp2_with fail
  refine wpIn_rangeFunc_ownF (F := Fence.wide) (n := 4) rfl (by omega) (gf := 82) (lb := #[.pointer (some ⟨w.heap.size + 2, 0, none⟩), .pointer (some ⟨w.heap.size + 1, 0, none⟩)]) rfl trivial (enters_of Tryd.func82 (by kernel_rfl) rfl)
    LS.out (fun h k => h.trans k) (fun W l o o' hl _ _ _ => kept_put _ _ W l o' (by rw [ZB.out] at hl; exact hl)) (Below.refl _ _) (fun _ => rfl)
    (PrI w w1) (fun _ _ _ => False) OW.out (fun _ _ _ _ _ hs _ _ => hs) ⟨BL.out, Kept.refl _ _ _, BW.out⟩
    (fun x => { tmps := #[.int .u32 at_, .slice A n c, undef, undef, .string ⟨#[]⟩, .pointer (some ⟨w.heap.size, 0, none⟩), .string x.1, .int .u32 at_, .slice A n c, .func (.func 82) #[] #[.pointer (some ⟨w.heap.size + 2, 0, none⟩), .pointer (some ⟨w.heap.size + 1, 0, none⟩)], .string x.1, undef, undef, undef, undef], defers := [] }) ?assign ?body ?done ?stop
  case assign =>
    intro l x W K hK
    gi_wp2
    exact hK
  case body =>
    rintro l pre x W hI hlen
    have hxs := x.2
    have hpl := bytesOf_len pre
    have hwz : w.heap.size ≤ W.heap.size := hI.bel.size
    have SN := Lib.hid (bytesOf_snoc pre x)
    have W1 := Lib.hid (writestring_any w.heap.size w.heap.size (bytesOf pre) x.1 W hI.bld (by omega) hwz)
    have WL := Lib.hid (show (bytesOf pre ++ x.1.data.toList).length ≤ 300000 by rw [List.length_append, show x.1.data.toList.length = x.1.size from Array.length_toList]; omega)
    have PI := Lib.hid hI
    clear hI hpl
    gi_wp2_with fail
    refine ⟨trivial, (CallsIn.inRound l (callsIn_wide.2 W1.out)).mono ?_⟩
    rintro e W2 ⟨rfl, hu2, hb2, hr2⟩
    have U2 := Lib.hid hu2.is
    have B2 := Lib.hid hb2
    have R2 := Lib.hid hr2
    have hwz2 : w.heap.size ≤ W2.heap.size := Nat.le_trans hwz hb2.size
    have W3 := Lib.hid (writestring_any w.heap.size w.heap.size (bytesOf pre ++ x.1.data.toList) ⟨#[10]⟩ W2 hu2.is (by have := WL.out; rw [show (⟨#[10]⟩ : ByteArray).size = 1 from rfl]; omega) hwz2)
    clear hu2 hb2 hr2 W1
    gi_wp2_with fail
    refine ⟨trivial, (CallsIn.inRound l (callsIn_wide.2 W3.out)).mono ?_⟩
    rintro e W4 ⟨rfl, hu4, hb4, hr4⟩
    have U4 := Lib.hid (show Bldr W4 w.heap.size w.heap.size (bytesOf (pre ++ [x])) by rw [SN.out]; exact hu4.is)
    have B4 := Lib.hid (B2.out.trans hb4)
    have R4 := Lib.hid (R2.out.trans hr4)
    clear hu4 hb4 hr4 W3
    gi_wp2
    obtain ⟨cs, hcs⟩ := bldr_cells PI.out.bld
    have K4 := kept_write PI.out.kept ZB.out E1.out E2.out (by decide) (by decide) B4.out R4.out
    exact ⟨rest_others R4.out B4.out.size hcs, K4, U4.out, PI.out.kept.trans K4, PI.out.bel.trans B4.out⟩
  case done =>
    rintro D ys W hD hys hI hK
    have hys' : ys = lnsTo at_ zs n := hys
    subst hys'
    have hwz : w.heap.size ≤ W.heap.size := hI.bel.size
    have BS := Lib.hid (bldstring_all w.heap.size w.heap.size (bytesOf (lnsTo at_ zs n)) W hI.bld hwz)
    have PI := Lib.hid hI
    obtain ⟨cs, hcs⟩ := bldr_cells hI.bld
    have HD := Lib.hid hK
    clear hI hK
    gi_wp2_with fail
    refine ⟨trivial, (callsIn_wide.2 BS.out).mono ?_⟩
    rintro e W2 ⟨rfl, hb2, hr2⟩
    have HD2 := (rest_others hr2 hb2.size hcs).same D _ HD.out rfl
    have B2 := Lib.hid (PI.out.bel.trans (hb2.mono (Nat.le_refl _)))
    clear hb2 hr2 BS
    gi_wp2
    refine ⟨by simp, .inl ⟨_, _, rfl, run_takeDeferred HD2, ?_⟩⟩
    exact ⟨_, results_tmp rfl _ _ _, rfl, B2.out.trans (belowK_b (w := w) (Nat.le_refl _) W2 D _ _ (by rw [ZB.out] at hD; omega) HD2 rfl rfl)⟩
  case stop =>
    rintro D c pre W _ _ h _
    exact h.elim
end Go.Proofs.YtoffagmoaedkbaaDoor

/- Listing: the answers' Print; what Print gives is read as its words. -/
namespace Go.Proofs.YtoffagmoaedkbaaDoor
open Go.ChangeShapes Go.WideShapes Go.ChangeAt Go.RowKit
set_option linter.unusedVariables false
set_option linter.unusedSimpArgs false

theorem u32_of_wf' {zs : List Int} (h : ∀ z ∈ zs, (Lit.int .u32 z).wf = true) (k : Nat) : 0 ≤ zs.getD k 0 ∧ zs.getD k 0 ≤ 4294967295 := by
  rw [List.getD_eq_getElem?_getD]
  cases hk : zs[k]? with
  | none => exact ⟨by decide, by decide⟩
  | some z => exact bounds_u32 (h z (List.mem_of_getElem? hk))

/-- The text so far. -/
def txtTo (at_ : Int) (zs : List Int) (k : Nat) : ByteArray := ⟨(bytesOf (lnsTo at_ zs k)).toArray⟩

theorem txtTo_zero (at_ : Int) (zs : List Int) : txtTo at_ zs 0 = ⟨#[]⟩ := rfl

theorem txtTo_succ (at_ : Int) (zs : List Int) (k : Nat) : txtTo at_ zs (k + 1) = txtTo at_ zs k ++ (lnK at_ zs k).1 ++ ⟨#[10]⟩ := by
  unfold txtTo
  rw [lnsTo_succ, bytesOf_snoc]
  apply ByteArray.ext
  apply Array.ext'
  simp

theorem txtTo_size (at_ : Int) (zs : List Int) (k : Nat) : (txtTo at_ zs k).size ≤ 201 * k := by
  have := bytesOf_len (lnsTo at_ zs k)
  rwa [lnsTo_len] at this

set_option maxHeartbeats 4000000 in
set_option maxRecDepth 100000 in
theorem refprint_any (at_ : Int) (A : Option Addr) (n c : Nat) (zs : List Int) (w : World) (ha : 0 ≤ at_ ∧ at_ ≤ 4294967295) (hz : Nums .u32 w A n zs) (hu : ∀ k, 0 ≤ zs.getD k 0 ∧ zs.getD k 0 ≤ 4294967295) (hn : n ≤ 1000) :
    Calls Tryd.prog 23 #[.int .u32 at_, .slice A n c] w fun e w' => e = .returned (.string (txtTo at_ zs n)) ∧ Below w.heap.size w w' := by
  have HZ := Lib.hid hz
  have HU := Lib.hid hu
  have HA := Lib.hid ha
  have TS := Lib.hid (txtTo_succ at_ zs)
  have TZ := Lib.hid (txtTo_size at_ zs)
  clear hz hu
  go_enter Tryd.func23, Tryd.ntmps23
  go_wp2_with fail
  go_loopw [5, 6] (fun v i wr => ∃ k : Nat, k ≤ n ∧ i = .int .i64 k ∧ v = .string (txtTo at_ zs k) ∧ Below w.heap.size w wr) (fun _ i _ => n - (intOf i).toNat)
  case atStart => exact ⟨0, Nat.zero_le _, rfl, rfl, Below.refl _ _⟩
  case round =>
    obtain ⟨k, hk, rfl, rfl, hb⟩ := hrel
    have HB := Lib.hid hb
    clear hb
    have tz := TZ.out k
    by_cases hlt : k < n
    · have hI : (k : Int) < n := by omega
      obtain ⟨bz, oz, hA, _, hc⟩ := (HZ.out.below HB.out).2 (by omega)
      subst hA
      have u0 := hc k hlt
      have hxu := HU.out k
      have RL := Lib.hid (fun w' => refline_any ((at_ + 4 * k) % 4294967296) (zs.getD k 0) w' (by omega) hxu.1 hxu.2)
      have TK := Lib.hid (TS.out k)
      have LK : (lnK at_ zs k).1 = lineOf ((at_ + 4 * k) % 4294967296) (zs.getD k 0) := rfl
      have hls := (lnK at_ zs k).2
      rw [← LK] at RL
      have EA := Lib.hid (show (at_ + 4 * (k : Int) % 4294967296) % 4294967296 = (at_ + 4 * k) % 4294967296 by omega)
      clear hc hxu LK ha
      generalize (lnK at_ zs k).1 = ln at *
      generalize txtTo at_ zs k = tx at *
      generalize zs.getD k 0 = x at *
      go_wp2_with fail
      refine (RL.out _).mono ?_
      rintro e w1 ⟨rfl, hb1⟩
      have B1 := Lib.hid (HB.out.trans (hb1.mono HB.out.size))
      have z1 : (tx ++ ln : ByteArray).size ≤ 1000000 := by rw [ByteArray.size_append]; omega
      clear hb1 HB RL
      go_wp2_with fail
      go_roundw
      case rel => exact ⟨k + 1, by omega, by go_num, by rw [TK.out], B1.out⟩
      case measure => simp [intOf]; omega
    · have hI : ¬ (k : Int) < n := by omega
      obtain rfl : k = n := by omega
      go_wp2_with fail
      go_ret
      exact ⟨rfl, HB.out⟩

/-- No byte of it is a control byte. -/
def High (s : ByteArray) : Prop := ∀ b ∈ s.data.toList, 32 ≤ b.toNat

theorem High.append {s t : ByteArray} (h : High s) (k : High t) : High (s ++ t) := by
  intro b hb
  have : (s ++ t).data.toList = s.data.toList ++ t.data.toList := by simp
  rw [this] at hb
  rcases List.mem_append.1 hb with hb | hb
  · exact h b hb
  · exact k b hb

theorem high_nums {l : List Int} (h : ∀ c ∈ l, 32 ≤ c ∧ c ≤ 255) : High (strOfNums l) := by
  intro b hb
  rw [strOfNums_data] at hb
  obtain ⟨c, hc, rfl⟩ := List.mem_map.1 hb
  have := h c hc
  simp only [UInt8.toNat_ofNat']
  omega

theorem high_one (x : UInt8) (h : 32 ≤ x.toNat) : High ⟨#[x]⟩ := by
  intro b hb
  simp at hb
  subst hb
  exact h

theorem high_empty : High ⟨#[]⟩ := by
  intro b hb
  simp at hb

theorem high_text (n : Int) : High (strOfNums (textNums n)) := by
  refine high_nums fun c hc => ?_
  unfold textNums at hc
  split at hc
  · rcases List.mem_cons.1 hc with rfl | hc
    · decide
    · have := decF_digit _ _ c hc
      omega
  · have := decF_digit _ _ c hc
    omega

theorem high_hex (n : Int) : High (hexStr n) := by
  refine high_nums fun c hc => ?_
  have h : ∀ m : Int, 32 ≤ hexdg (m % 16) ∧ hexdg (m % 16) ≤ 255 := fun m => by
    unfold hexdg
    split <;> omega
  unfold hexNums at hc
  simp only [List.mem_cons, List.not_mem_nil, or_false] at hc
  rcases hc with rfl | rfl | rfl | rfl | rfl | rfl | rfl | rfl <;> exact h _

theorem high_name (op : Int) : High (nameOf op) := by
  unfold nameOf
  split
  · have h : (nameRow.all fun x => x.data.toList.all fun b => decide (32 ≤ b.toNat)) = true := by decide +kernel
    rcases Nat.lt_or_ge op.toNat nameRow.length with hl | hl
    · have h1 := List.all_eq_true.1 h nameRow[op.toNat] (List.getElem_mem hl)
      rw [List.getD_eq_getElem?_getD, List.getElem?_eq_getElem hl]
      intro b hb
      exact of_decide_eq_true (List.all_eq_true.1 h1 b hb)
    · rw [List.getD_eq_getElem?_getD, List.getElem?_eq_none hl]
      exact high_empty
  · exact high_empty

theorem high_rt (op k r : Int) : High (rt op k r) := by
  unfold rt pfx
  split
  · exact high_empty.append (high_text r)
  · exact (high_one 114 (by decide)).append (high_text r)

theorem high_fields (op a b c n : Int) : ∀ x ∈ fieldTexts op a b c n, High x := by
  intro x hx
  unfold fieldTexts at hx
  simp only [List.mem_append] at hx
  rcases hx with hx | hx | hx | hx <;> split at hx <;> simp at hx <;> subst hx
  · exact high_rt _ _ _
  · exact high_rt _ _ _
  · exact high_rt _ _ _
  · exact high_text _

theorem high_join {s : ByteArray} {l : List ByteArray} (hs : High s) (hl : ∀ x ∈ l, High x) (k : Nat) : High (joinUp s l k) := by
  induction k with
  | zero => exact hs
  | succ k ih =>
    have hg : High (l.getD k ⟨#[]⟩) := by
      rw [List.getD_eq_getElem?_getD]
      cases h : l[k]? with
      | none => exact high_empty
      | some x => exact hl x (List.mem_of_getElem? h)
    unfold joinUp
    refine (High.append ?_ (high_one 32 (by decide))).append hg
    split
    · exact ih.append (high_one 44 (by decide))
    · exact ih

theorem high_textOf (op a b c n : Int) : High (textOf op a b c n) := high_join (high_name op) (high_fields op a b c n) _

theorem high_line (x y : Int) : High (lineOf x y) := by
  have hm : High (meanOf x y) := by
    unfold meanOf decText
    split
    · split
      · refine ((high_textOf _ _ _ _ _).append ?_).append (high_hex _)
        intro b hb
        simp at hb
        rcases hb with rfl | rfl | rfl | rfl <;> decide
      · exact high_textOf _ _ _ _ _
    · exact high_one 63 (by decide)
  unfold lineOf
  exact ((((high_hex x).append (high_one 32 (by decide))).append (high_hex y)).append (high_one 32 (by decide))).append hm

/-- A text's first line, where no byte of it is a line feed. -/
theorem cut_line {s : ByteArray} (h : High s) (r : List UInt8) : cutA ⟨(s.data.toList ++ 10 :: r).toArray⟩ 10 = s ∧ cutB ⟨(s.data.toList ++ 10 :: r).toArray⟩ 10 = ⟨r.toArray⟩ ∧ cutF ⟨(s.data.toList ++ 10 :: r).toArray⟩ 10 = true := by
  have hc := cut_ahead s.data.toList r 10 (fun b hb e => by have := h b hb; rw [e] at this; exact absurd this (by decide))
  have hd : (⟨(s.data.toList ++ 10 :: r).toArray⟩ : ByteArray).data.toList = s.data.toList ++ 10 :: r := by simp
  unfold cutA cutB cutF
  rw [hd, hc]
  exact ⟨by cases s; simp, rfl, rfl⟩

/-- The text of the lines from k on. -/
def txtFrom (at_ : Int) (zs : List Int) (n k : Nat) : List UInt8 := bytesOf ((lnsTo at_ zs n).drop k)

theorem txtFrom_succ {at_ : Int} {zs : List Int} {n k : Nat} (h : k < n) : txtFrom at_ zs n k = (lnK at_ zs k).1.data.toList ++ 10 :: txtFrom at_ zs n (k + 1) := by
  unfold txtFrom
  have hl : k < (lnsTo at_ zs n).length := by rw [lnsTo_len]; exact h
  rw [List.drop_eq_getElem_cons hl]
  have : (lnsTo at_ zs n)[k] = lnK at_ zs k := by simp [lnsTo]
  rw [this]
  simp [bytesOf]

theorem read_lines (at_ : Int) (zs : List Int) (n : Nat) (ha : 0 ≤ at_ ∧ at_ ≤ 4294967295) (hz : zs.length = n) (hu : ∀ k, 0 ≤ zs.getD k 0 ∧ zs.getD k 0 ≤ 4294967295) :
    ∀ m k f, n - k < m → k ≤ n → (0 < k → f = at_) → readFrom m ⟨(txtFrom at_ zs n k).toArray⟩ (zs.take k) f = (some (if k < n then at_ else f, zs), 0) := by
  intro m
  induction m with
  | zero => intro k f h; omega
  | succ m ih =>
    intro k f hm hk hf
    unfold readFrom
    by_cases hlt : k < n
    · have hx := hu k
      obtain ⟨l1, l2, l3⟩ := line_ok ((at_ + 4 * k) % 4294967296) (zs.getD k 0) (by omega) hx
      have hc := cut_line (s := (lnK at_ zs k).1) (high_line _ _) (txtFrom at_ zs n (k + 1))
      rw [← txtFrom_succ hlt] at hc
      have hsz : ¬ (⟨(txtFrom at_ zs n k).toArray⟩ : ByteArray).size = 0 := by
        rw [show (⟨(txtFrom at_ zs n k).toArray⟩ : ByteArray).size = (txtFrom at_ zs n k).length from List.size_toArray, txtFrom_succ hlt, List.length_append, List.length_cons]
        omega
      rw [if_neg hsz, hc.1, hc.2.1, hc.2.2]
      have hL : (lnK at_ zs k).1 = lineOf ((at_ + 4 * k) % 4294967296) (zs.getD k 0) := rfl
      rw [hL, l1, l2, l3]
      have hlen : (zs.take k).length = k := by rw [List.length_take]; omega
      have htk : zs.take k ++ [zs.getD k 0] = zs.take (k + 1) := by
        rw [List.take_succ_eq_append_getElem (by omega), List.getD_eq_getElem?_getD, List.getElem?_eq_getElem (by omega)]
        rfl
      have hv : (if k = 0 then (at_ + 4 * (k : Int)) % 4294967296 else f) = at_ := by
        by_cases h0 : k = 0
        · rw [if_pos h0]; omega
        · rw [if_neg h0]; exact hf (by omega)
      rw [hlen, htk, hv, if_pos ⟨rfl, rfl, rfl⟩, ih (k + 1) _ (by omega) (by omega) (fun _ => rfl), if_pos hlt]
      split <;> rfl
    · obtain rfl : k = n := by omega
      have : txtFrom at_ zs k k = [] := by
        unfold txtFrom
        rw [List.drop_of_length_le (by rw [lnsTo_len]; exact Nat.le_refl _)]
        rfl
      rw [this, if_pos (by rfl), if_neg hlt, List.take_of_length_le (by omega)]
end Go.Proofs.YtoffagmoaedkbaaDoor

/- Listing: the walk of the law ListingPrints. -/
namespace Go.Proofs.YtoffagmoaedkbaaDoor
open Go.ChangeShapes Go.WideShapes Go.ChangeAt Go.RowKit
set_option linter.unusedVariables false
set_option linter.unusedSimpArgs false
attribute [local go_sem] Oper.semAt_some

theorem seq_not_nil (f : Fn) (bs cs : Array Value) (w : World) : (binOp .eql 49 (.func f bs cs) .nilFunc).run Tryd.prog w = .ok (.bool false) w := by
  have ht := Tryd.underlying49
  have h : ∀ d : Nat, (Op.equalIn (d + 1) 49 (.func f bs cs) .nilFunc).run Tryd.prog w = .ok false w := fun d => by
    simp [Op.equalIn, run_underlying ht]
  simp only [binOp]
  simp [Op.equal, Op.maxDepth, h 9999]

/-- What is kept between two rounds: the text so far. -/
structure AllI (w V : World) (g : Nat) (pre : List Ln) (W : World) : Prop where
  txt : W.cell? ⟨g, 0, none⟩ = some (.string ⟨(bytesOf pre).toArray⟩)
  free : W.frozen? ⟨g, 0, none⟩ = false
  bel : Below w.heap.size w W
  kept : Kept g g V W

theorem alli_own (w V : World) (g : Nat) (hV : V.heap.size = g + 1) (hg : w.heap.size ≤ g) : OwnFrom V.heap.size (AllI w V g) := by
  intro s A B row hs hgr hr
  have hr' := fun r e => (hr r e).2
  refine ⟨cell_kept hs.txt hgr hr', (frozen_kept hs.txt hgr hr').trans hs.free, hs.bel.grown hgr hs.bel.size (fun k e => by have := (hr k e).1; omega), ⟨hgr.os.trans hs.kept.os, hgr.tape.trans hs.kept.tape, hgr.output.trans hs.kept.output, Nat.le_trans hs.kept.size hgr.size, fun i h1 h2 h3 => (hgr.block i (Nat.lt_of_lt_of_le h3 hs.kept.size) (fun e => ?_)).trans (hs.kept.block i h1 h2 h3)⟩⟩
  have := (hr i e.symm).1
  omega

theorem bytesOf_ge (l : List Ln) : l.length ≤ (bytesOf l).length := by
  induction l with
  | nil => simp
  | cons s l ih =>
    have h3 : (bytesOf (s :: l)) = s.1.data.toList ++ [10] ++ bytesOf l := by simp [bytesOf]
    rw [h3]
    simp only [List.length_append, List.length_cons, List.length_nil]
    omega

theorem kept_set {n g : Nat} (W : World) {p : Addr} (hp : n ≤ p.block) (v : Value) : Kept n g W (W.setCell p v) :=
  ⟨rfl, rfl, rfl, by simp [World.setCell], fun i h1 _ _ => Below.heap_setCell W p v i (by omega)⟩

theorem txt_snoc (pre : List Ln) (x : Ln) : (⟨(bytesOf (pre ++ [x])).toArray⟩ : ByteArray) = ⟨(bytesOf pre).toArray⟩ ++ x.1 ++ ⟨#[10]⟩ := by
  rw [bytesOf_snoc]
  apply ByteArray.ext
  apply Array.ext'
  simp

set_option maxHeartbeats 8000000 in
set_option maxRecDepth 100000 in
theorem prints_walk (w : World) (hS : ShapesIn w) (hN : NamesIn w) (hM : MaxIn w) (at_ : Int) (wa : (Lit.int .u32 at_).wf = true) (A : Option Addr) (n c : Nat) (zs : List Int) (hz : Nums .u32 w A n zs) (hm : n ≤ maxLen) (wz : ∀ z ∈ zs, (Lit.int .u32 z).wf = true) (hA : A = none → n = 0 ∧ c = 0) :
    Calls Tryd.prog 8 #[.int .u32 at_, .slice A n c] w fun e w' => e = .returned (.bool true) ∧ Below w.heap.size w w' := by
  have HS := Lib.hid hS
  have HN := Lib.hid hN
  have HM := Lib.hid hM
  have ba := bounds_u32 wa
  unfold maxLen at hm
  by_cases h1 : n ≤ 500
  case neg =>
    have d : decide ((500 : Int) < n) = true := decide_eq_true (by omega)
    clear hS hN hM hz wz hA ba wa
    refine (callsIn_wide (n := 4)).1 ?_
    refine callsIn_of_wp_marks Tryd.func8 rfl trivial ?_ rfl
    simp only [Tryd.ntmps8, List.size_toArray, List.length_cons, List.length_nil, Nat.reduceAdd, Nat.reduceSub, Array.replicate_succ, Array.replicate_zero, List.push_toArray, List.append_toArray, List.nil_append, List.cons_append]
    gi_wp2_with fail
    refine ⟨trivial, (callsIn_wide.2 (awake06_any _ HS.out HN.out)).mono ?_⟩
    rintro e w1 ⟨rfl, hb1⟩
    have B1 := Lib.hid hb1
    clear hb1
    gi_wp2_with fail
    exact ⟨_, results_tmp rfl _ _ _, rfl, B1.out⟩
  have d : decide ((500 : Int) < n) = false := decide_eq_false (by omega)
  have HU := Lib.hid (u32_of_wf' wz)
  have HZ := Lib.hid hz
  have HL := Lib.hid hz.1
  have PR := Lib.hid (fun w' hs hn hz' => print_any at_ A n c zs w' hs hn hz' HU.out (by omega))
  have RP := Lib.hid (fun w' hz' => refprint_any at_ A n c zs w' ba hz' HU.out (by omega))
  have LF := Lib.hid (fun w' hz' => Lines_fn at_ A n c zs w' hA hz' (by omega))
  have TX := Lib.hid (show (⟨(bytesOf (lnsTo at_ zs n)).toArray⟩ : ByteArray) = txtTo at_ zs n from rfl)
  have TZ := txtTo_size at_ zs n
  rw [TX.out] at PR
  have RD := Lib.hid (fun w' hs hn hm => read_any (txtTo at_ zs n) w' hs hn hm (by omega))
  have RL := Lib.hid (read_lines at_ zs n ba hz.1 HU.out ((txtTo at_ zs n).size + 1) 0 0 (by
    have := bytesOf_ge (lnsTo at_ zs n)
    rw [lnsTo_len] at this
    have h2 : (txtTo at_ zs n).size = (bytesOf (lnsTo at_ zs n)).length := List.size_toArray
    omega) (Nat.zero_le _) (fun h => by omega))
  have TF : (⟨(txtFrom at_ zs n 0).toArray⟩ : ByteArray) = txtTo at_ zs n := rfl
  rw [TF, List.take_zero] at RL
  rw [RL.out] at RD
  unfold ReadPost at RD
  simp only [Option.isSome_some, if_true] at RD
  clear hS hN hM hz wz hA wa TF RL
  refine (callsIn_wide (n := 4)).1 ?_
  refine callsIn_of_wp_marks Tryd.func8 rfl trivial ?_ rfl
  simp only [Tryd.ntmps8, List.size_toArray, List.length_cons, List.length_nil, Nat.reduceAdd, Nat.reduceSub, Array.replicate_succ, Array.replicate_zero, List.push_toArray, List.append_toArray, List.nil_append, List.cons_append]
  gi_wp2_with fail
  refine ⟨trivial, (callsIn_wide.2 (awake06_any _ HS.out HN.out)).mono ?_⟩
  rintro e w1 ⟨rfl, hb1⟩
  have B1 := Lib.hid hb1
  clear hb1
  gi_wp2_with fail
  refine ⟨trivial, (callsIn_wide.2 (PR.out _ (HS.out.below B1.out (Nat.le_refl _)) (HN.out.below B1.out (Nat.le_refl _)) (HZ.out.below B1.out))).mono ?_⟩
  rintro e w2 ⟨rfl, hb2⟩
  have B2 := Lib.hid (B1.out.trans (hb2.mono B1.out.size))
  clear hb2 B1
  gi_wp2_with fail
  refine ⟨trivial, (callsIn_wide.2 (RP.out _ (HZ.out.below B2.out))).mono ?_⟩
  rintro e w3 ⟨rfl, hb3⟩
  have B3 := Lib.hid (B2.out.trans (hb3.mono B2.out.size))
  clear hb3 B2
  gi_wp2_with fail
  refine ⟨trivial, (callsIn_wide.2 (LF.out _ (HZ.out.below B3.out))).mono ?_⟩
  rintro e w5 ⟨w4, A4, c4, rfl, hn4, hb4, hw⟩
  have E1 : w5.heap[w4.heap.size]? = some (.cells #[.int .u32 at_] 45 (0, 0)) := by
    rw [hw]
    exact (Below.heap_alloc _ _ _ (by simp)).trans (heap_alloc_new w4 _)
  have E2 : w5.heap[w4.heap.size + 1]? = some (.cells #[.slice A4 n c4] 23 (0, 0)) := by
    rw [hw, show w4.heap.size + 1 = (boxAt w4 at_).heap.size by simp]
    exact heap_alloc_new _ _
  have S5 : w5.heap.size = w4.heap.size + 2 := by rw [hw]; simp
  have B4 := B3.out.trans (hb4.mono B3.out.size)
  have B5 : Below w.heap.size w w5 := by rw [hw]; exact (B4.alloc B4.size _).alloc (by have := B4.size; simp; omega) _
  have B45 : Below w4.heap.size w4 w5 := by rw [hw]; exact ((Below.refl _ w4).alloc (Nat.le_refl _) _).alloc (by simp) _
  have hz4 : w.heap.size ≤ w4.heap.size := B4.size
  have CA : w5.cell? ⟨w4.heap.size, 0, none⟩ = some (.int .u32 at_) := by rw [Lib.cell_of_heap E1]; rfl
  have CB : w5.cell? ⟨w4.heap.size + 1, 0, none⟩ = some (.slice A4 n c4) := by rw [Lib.cell_of_heap E2]; rfl
  have LS := Lib.hid (lines1_stops w5.heap.size w5.heap.size w w5 (w4.heap.size + 1) w4.heap.size A4 n c4 zs at_ B5 HS.out HN.out (by omega) (by omega) (Nat.le_refl _) CB CA (by omega) (by omega) (by omega) (by omega)
    (fun h0 => by
      obtain ⟨bz, oz, hA, hlt, hc⟩ := hn4.2 h0
      exact ⟨bz, oz, hA, by omega, by omega, fun k hk => (B45.cell (p := ⟨bz, oz + k, none⟩) hlt).trans (hc k hk)⟩) HU.out (by omega))
  have BV := Lib.hid (B5.alloc (by omega) (.cells #[.string ⟨#[]⟩] 9))
  have BVK := Lib.hid ((Below.refl w5.heap.size w5).alloc (Nat.le_refl _) (.cells #[.string ⟨#[]⟩] 9))
  have QV := Lib.hid (Whole.made w5 9 #[.string ⟨#[]⟩] _ rfl)
  have SV := Lib.hid (show (w5.alloc (.cells #[.string ⟨#[]⟩] 9)).heap.size = w5.heap.size + 1 by simp)
  have hz5 : w.heap.size ≤ w5.heap.size := B5.size
  clear hw E1 E2 S5 B4 B5 B45 CA CB hb4 hn4 LF B3
  generalize w4.heap.size = a4 at *
  generalize hg : w5.heap.size = g at *
  have HG := Lib.hid hg
  clear hg
  have hnil := seq_not_nil (.func 82) #[] #[.pointer (some ⟨a4 + 1, 0, none⟩), .pointer (some ⟨a4, 0, none⟩)]
  gi_wp2_with fail
  clear hnil
  rw [HG.out]
  have CV : (w5.alloc (.cells #[.string ⟨#[]⟩] 9)).cell? ⟨g, 0, none⟩ = some (.string ⟨#[]⟩) := QV.out.cell 0
  have FV : (w5.alloc (.cells #[.string ⟨#[]⟩] 9)).frozen? ⟨g, 0, none⟩ = false := QV.out.free 0
  have TS := Lib.hid txt_snoc
  generalize txtTo at_ zs n = tx at *
  generalize hVV : w5.alloc (.cells #[.string ⟨#[]⟩] 9) = V at *
  clear hVV
  refine wpIn_rangeFunc_ownF (F := Fence.wide) (n := 4) rfl (by omega) (gf := 82) (lb := #[.pointer (some ⟨a4 + 1, 0, none⟩), .pointer (some ⟨a4, 0, none⟩)]) rfl trivial (enters_of Tryd.func82 (by kernel_rfl) rfl)
    LS.out (fun h k => h.trans k) (fun W l o o' hl _ _ _ => kept_put _ _ W l o' (by rw [SV.out] at hl; omega)) (by rw [HG.out]; exact BVK.out) (fun _ => rfl)
    (AllI w V g) (fun _ _ _ => False) (alli_own w V g SV.out hz5) (fun _ _ _ _ _ hs _ _ => hs) ⟨CV, FV, BV.out, Kept.refl _ _ _⟩
    (fun x => { tmps := #[.int .u32 at_, .slice A n c, undef, undef, .bool false, .string tx, .func (.func 82) #[] #[.pointer (some ⟨a4 + 1, 0, none⟩), .pointer (some ⟨a4, 0, none⟩)], .pointer (some ⟨g, 0, none⟩), .string x.1, undef, undef, undef, undef, .bool true, .bool false, .slice A n c, .int .i64 n, .bool false, .int .u32 at_, .slice A n c, .string tx, .string tx, .int .u32 at_, .slice A n c, .string tx, .bool false, .int .u32 at_, .slice A n c, .func (.func 82) #[] #[.pointer (some ⟨a4 + 1, 0, none⟩), .pointer (some ⟨a4, 0, none⟩)], .func (.func 82) #[] #[.pointer (some ⟨a4 + 1, 0, none⟩), .pointer (some ⟨a4, 0, none⟩)], .bool false, .func (.func 82) #[] #[.pointer (some ⟨a4 + 1, 0, none⟩), .pointer (some ⟨a4, 0, none⟩)], .string x.1, undef, undef, undef, undef, undef, undef, undef, undef, undef, undef, undef, undef, undef, undef, undef, undef, undef, undef, undef, undef, undef, undef, undef, undef, undef, undef, undef, undef, undef, undef, undef, undef, undef, undef, undef, undef, undef, undef, undef, undef, undef], defers := [] }) ?assign ?body ?done ?stop
  case assign =>
    intro l x W K hK
    gi_wp2
    exact hK
  case body =>
    rintro l pre x W hI hlen
    have hxs := x.2
    have hpl := bytesOf_len pre
    have SN := Lib.hid (TS.out pre x)
    have c0 := hI.txt
    have f0 := hI.free
    have PI := Lib.hid hI
    have hps : (⟨(bytesOf pre).toArray⟩ : ByteArray).size ≤ 201 * pre.length := hpl
    clear hI hpl
    generalize (⟨(bytesOf pre).toArray⟩ : ByteArray) = tp at *
    have z1 : (tp ++ x.1 : ByteArray).size ≤ 1000000 := by rw [ByteArray.size_append]; omega
    gi_wp2
    have B2 := PI.out.bel.setCell (p := ⟨g, 0, none⟩) hz5 (.string (tp ++ x.1 ++ ⟨#[10]⟩))
    have K2 := kept_set (n := g) (g := g) W (p := ⟨g, 0, none⟩) (Nat.le_refl _) (.string (tp ++ x.1 ++ ⟨#[10]⟩))
    exact ⟨KeepsOthers.setCell _ _ _, K2, by rw [SN.out]; exact World.cell?_setCell_same' _ _ _ (by rw [c0]; rfl), by rw [World.frozen?_setCell]; exact f0, B2, PI.out.kept.trans K2⟩
  case done =>
    rintro D ys W hD hys hI hK
    have hys' : ys = lnsTo at_ zs n := hys
    subst hys'
    have cg : W.cell? ⟨g, 0, none⟩ = some (.string tx) := by rw [← TX.out]; exact hI.txt
    have B2 := Lib.hid hI.bel
    have HD := Lib.hid hK
    have hDl : D < W.heap.size := (Array.getElem?_eq_some_iff.1 hK).1
    have hgl : g < W.heap.size := block_lt cg
    have RDW := Lib.hid (RD.out W (HS.out.below hI.bel (Nat.le_refl _)) (HN.out.below hI.bel (Nat.le_refl _)) (HM.out.below hI.bel (Nat.le_refl _)))
    clear hI hK RD PR RP
    gi_wp2_with fail
    refine ⟨trivial, (callsIn_wide.2 RDW.out).mono ?_⟩
    rintro e W3 ⟨f, v, ws, rfl, hr, ho, hb3⟩
    have hr' : f = (if 0 < n then at_ else 0) ∧ ws = zs := by
      rcases hr with hr | ⟨hr, _⟩
      · simp only [Option.some.injEq, Prod.mk.injEq] at hr
        exact ⟨hr.1.symm, hr.2.symm⟩
      · cases hr
    obtain ⟨hf, rfl⟩ := hr'
    obtain ⟨A6, c6, rfl, hn6⟩ := ho.form
    have B3 := Lib.hid (B2.out.trans (hb3.mono B2.out.size))
    have HD3 := Lib.hid ((hb3.block D hDl).trans HD.out)
    have hDl3 : D < W3.heap.size := Nat.lt_of_lt_of_le hDl hb3.size
    have cg3 : W3.cell? ⟨g, 0, none⟩ = some (.string tx) := (hb3.cell (p := ⟨g, 0, none⟩) hgl).trans cg
    have hlz := HL.out
    rw [hlz] at hn6
    have WS := Lib.hid (words_same A6 A n c6 c ws W3 hn6 (HZ.out.below B3.out) (by omega))
    clear hr ho hb3 cg HD hDl B2 RDW hn6
    rw [hlz]
    clear hlz
    by_cases h0 : 0 < n
    · rw [if_pos h0] at hf
      subst hf
      have hnI : ((n : Int) == 0) = false := by simp; omega
      gi_wp2_with fail
      refine ⟨trivial, (callsIn_wide.2 WS.out).mono ?_⟩
      rintro e W4 ⟨rfl, hb4⟩
      have B4 := Lib.hid (B3.out.trans (hb4.mono B3.out.size))
      have HD4 := (hb4.block D hDl3).trans HD3.out
      clear hb4
      gi_wp2
      refine ⟨by simp, .inl ⟨_, _, rfl, run_takeDeferred HD4, ?_⟩⟩
      exact ⟨_, results_tmp rfl _ _ _, rfl, B4.out.trans (belowK_b (w := w) (Nat.le_refl _) W4 D _ _ (by rw [SV.out] at hD; omega) HD4 rfl rfl)⟩
    · rw [if_neg h0] at hf
      subst hf
      obtain rfl : n = 0 := by omega
      cases hz0 : ((0 : Int) == at_) with
      | true =>
        gi_wp2_with fail
        refine ⟨trivial, (callsIn_wide.2 WS.out).mono ?_⟩
        rintro e W4 ⟨rfl, hb4⟩
        have B4 := Lib.hid (B3.out.trans (hb4.mono B3.out.size))
        have HD4 := (hb4.block D hDl3).trans HD3.out
        clear hb4
        gi_wp2
        refine ⟨by simp, .inl ⟨_, _, rfl, run_takeDeferred HD4, ?_⟩⟩
        exact ⟨_, results_tmp rfl _ _ _, rfl, B4.out.trans (belowK_b (w := w) (Nat.le_refl _) W4 D _ _ (by rw [SV.out] at hD; omega) HD4 rfl rfl)⟩
      | false =>
        gi_wp2_with fail
        refine ⟨trivial, (callsIn_wide.2 WS.out).mono ?_⟩
        rintro e W4 ⟨rfl, hb4⟩
        have B4 := Lib.hid (B3.out.trans (hb4.mono B3.out.size))
        have HD4 := (hb4.block D hDl3).trans HD3.out
        clear hb4
        gi_wp2
        refine ⟨by simp, .inl ⟨_, _, rfl, run_takeDeferred HD4, ?_⟩⟩
        exact ⟨_, results_tmp rfl _ _ _, rfl, B4.out.trans (belowK_b (w := w) (Nat.le_refl _) W4 D _ _ (by rw [SV.out] at hD; omega) HD4 rfl rfl)⟩
  case stop =>
    rintro D c pre W _ _ h _
    exact h.elim
end Go.Proofs.YtoffagmoaedkbaaDoor
