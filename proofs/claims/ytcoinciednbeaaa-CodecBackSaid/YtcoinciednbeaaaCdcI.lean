/- Codec: the law's put: a piece, at a Writer and at a row of bytes. -/
import Derived.Test.YtcoinciednbeaaaCdcH
namespace Go.Proofs.Ytcoinciednbeaaa
open Go.ChangeShapes Go.WideShapes Go.ChangeAt Go.RowKit
set_option linter.unusedVariables false
set_option linter.unusedSimpArgs false

abbrev pcT : TypeId := 28

/-- A piece. -/
structure Pc where
  kind : Int
  n : Int
  s : ByteArray

/-- A piece's cells. -/
def pcCells (p : Pc) : List Value := [.int .i64 p.kind, .int .i64 p.n, .string p.s]

/-- What is put for it. -/
def pieceB (p : Pc) : List Int :=
  if p.kind = 0 then [p.n % 256] else if p.kind = 1 then cntI p.n else if p.kind = 2 then cntB (zigN (wrap32 p.n)) else if p.kind = 3 then bytesOf (p.n % 4294967296) else if p.kind = 4 then cntB p.s.size ++ strI p.s else []

theorem pieceB_0 {p : Pc} (h : p.kind = 0) : pieceB p = [p.n % 256] := if_pos h

theorem pieceB_1 {p : Pc} (h : p.kind = 1) : pieceB p = cntI p.n := by
  unfold pieceB
  rw [if_neg (show ¬ p.kind = 0 by omega), if_pos h]

theorem pieceB_2 {p : Pc} (h : p.kind = 2) : pieceB p = cntB (zigN (wrap32 p.n)) := by
  unfold pieceB
  rw [if_neg (show ¬ p.kind = 0 by omega), if_neg (show ¬ p.kind = 1 by omega), if_pos h]

theorem pieceB_3 {p : Pc} (h : p.kind = 3) : pieceB p = bytesOf (p.n % 4294967296) := by
  unfold pieceB
  rw [if_neg (show ¬ p.kind = 0 by omega), if_neg (show ¬ p.kind = 1 by omega), if_neg (show ¬ p.kind = 2 by omega), if_pos h]

theorem pieceB_4 {p : Pc} (h : p.kind = 4) : pieceB p = cntB p.s.size ++ strI p.s := by
  unfold pieceB
  rw [if_neg (show ¬ p.kind = 0 by omega), if_neg (show ¬ p.kind = 1 by omega), if_neg (show ¬ p.kind = 2 by omega), if_neg (show ¬ p.kind = 3 by omega), if_pos h]

theorem pieceB_5 {p : Pc} (h0 : ¬ p.kind = 0) (h1 : ¬ p.kind = 1) (h2 : ¬ p.kind = 2) (h3 : ¬ p.kind = 3) (h4 : ¬ p.kind = 4) : pieceB p = [] := by
  unfold pieceB
  rw [if_neg h0, if_neg h1, if_neg h2, if_neg h3, if_neg h4]

theorem w32_in (n : Int) : -2147483648 ≤ wrap32 n ∧ wrap32 n ≤ 2147483647 := by
  unfold wrap32
  omega

theorem bytesOf_len (n : Int) : (bytesOf n).length = 4 := rfl

theorem pieceB_len (p : Pc) (h1 : p.n ≤ 9223372036854775807) (hs : p.s.size ≤ 1000) : (pieceB p).length ≤ 1010 := by
  have l1 : (cntI p.n).length ≤ 10 := cntB_len10 (n := p.n.toNat) (by omega)
  have l2 : (cntB (zigN (wrap32 p.n))).length ≤ 10 := cntB_len10 (by have := zigN_le (w32_in p.n); omega)
  have l4 : (cntB p.s.size).length ≤ 10 := cntB_len10 (by omega)
  unfold pieceB
  split
  · simp
  · split
    · omega
    · split
      · omega
      · split
        · rw [bytesOf_len]
          omega
        · split
          · rw [List.length_append, strI_len]
            omega
          · simp

/-- A Writer, and a row of bytes that lies apart. -/
structure Put (w : World) (B g : Nat) (h : Option Nat) (bs : List Int) (v : Value) (ys : List Int) : Prop where
  wr : WrAt w B g h bs
  own : Owns .u8 u8T w B v ys.length ys
  apart : ∀ b, v.ownBlock = some b → b ≠ g ∧ h ≠ some b

theorem Put.below {w w' : World} {B g : Nat} {h : Option Nat} {bs ys : List Int} {v : Value} (p : Put w B g h bs v ys) (hb : Below w.heap.size w w') : Put w' B g h bs v ys :=
  ⟨p.wr.below hb, p.own.below hb, p.apart⟩

theorem WrAt.base {w : World} {B g : Nat} {h : Option Nat} {bs : List Int} (hw : WrAt w B g h bs) : ∀ i, WrS g h i → B ≤ i := by
  obtain ⟨v, h1, h2, rfl, hB⟩ := hw
  intro i hi
  rcases hi with rfl | hi
  · exact hB
  · exact (h2.lt i hi).1

/-- Behind a Writer's call. -/
theorem Put.wrote {w w' : World} {B g : Nat} {h : Option Nat} {bs bs' ys : List Int} {v : Value} (p : Put w B g h bs v ys) (hB : B ≤ w.heap.size) (q : WrPost w w' B g h bs') : ∃ h', Put w' B g h' bs' v ys ∧ Below B w w' := by
  obtain ⟨h', a, k, o⟩ := q
  refine ⟨h', ⟨a, p.own.keepS k (fun b hb hs => ?_), fun b hb => ⟨(p.apart b hb).1, fun e => ?_⟩⟩, KeptS.below (Below.refl B w) k hB p.wr.base⟩
  · rcases hs with rfl | hs
    · exact (p.apart b hb).1 rfl
    · exact (p.apart b hb).2 hs
  · have hl := (p.own.lt b hb).2
    rcases o with rfl | ⟨b', rfl, hb'⟩
    · exact (p.apart b hb).2 e
    · injection e with e
      omega

/-- Behind an append to the row. -/
theorem Put.grew {w w' : World} {B g n : Nat} {h : Option Nat} {bs ys ys' : List Int} {v v' : Value} (p : Put w B g h bs v ys) (hB : B ≤ w.heap.size) (hg : w.grownBy w' v.ownBlock) (ho : Owns .u8 u8T w' B v' n ys') (hat : v'.ownBlock = v.ownBlock ∨ ∃ b, v'.ownBlock = some b ∧ w.heap.size ≤ b) : Put w' B g h bs v' ys' ∧ Below B w w' := by
  have k : KeptS (fun b => v.ownBlock = some b) w w' := KeptS.grown hg (fun b hb => hb)
  have hl := ho.len
  subst hl
  refine ⟨⟨p.wr.keep k (fun e => (p.apart g e).1 rfl) (fun b hb e => (p.apart b e).2 hb), ho, fun b hb => ?_⟩, KeptS.below (Below.refl B w) k hB (fun i hi => (p.own.lt i hi).1)⟩
  rcases hat with e | ⟨b', e, hb'⟩
  · rw [e] at hb
    exact p.apart b hb
  · rw [e] at hb
    injection hb with hb
    subst hb
    refine ⟨?_, fun e => ?_⟩
    · have := p.wr.lt
      omega
    · have := (p.wr.own b' e).2.1
      omega

/-- The box of a piece stands behind a Writer's call. -/
theorem box_stays {w w' : World} {B g : Nat} {h : Option Nat} {bs : List Int} {t : TypeId} {b : Nat} {cs : Array Value} (hw : WrAt w B g h bs) (hb : Whole (w.alloc (.cells cs t)) w.heap.size t cs) (k : KeptS (WrS g h) (w.alloc (.cells cs t)) w') : Whole w' w.heap.size t cs := by
  refine k.whole hb (fun e => ?_)
  rcases e with e | e
  · have := hw.lt
    omega
  · have := (hw.own _ e).2.1
    omega

/-- What put leaves. -/
def PutPost (w : World) (B g : Nat) (bs ys zs : List Int) (e : Ending) (w' : World) : Prop := ∃ h' v', e = .returned v' ∧ Put w' B g h' (bs ++ zs) v' (ys ++ zs) ∧ Below B w w'

set_option maxHeartbeats 2000000 in
set_option maxRecDepth 100000 in
theorem put_0 (n : Int) (s : ByteArray) (B g : Nat) (h : Option Nat) (bs ys : List Int) (A : Option Addr) (c : Nat) (w : World) (hp : Put w B g h bs (.slice A ys.length c) ys) (hB : B ≤ w.heap.size) (hn : bs.length ≤ 1000000) (hy : ys.length ≤ 1000000) (hs : s.size ≤ 1000) (hn0 : -9223372036854775808 ≤ n) (hn1 : n ≤ 9223372036854775807) :
    Calls Try.prog 7 #[.pointer (some ⟨g, 0, none⟩), .slice A ys.length c, .agg #[.int .i64 0, .int .i64 n, .string s]] w (PutPost w B g bs ys [n % 256]) := by
  have WB := Lib.hid (Whole.made w pcT #[.int .i64 0, .int .i64 n, .string s] _ rfl)
  have PA := Lib.hid (hp.below ((Below.refl w.heap.size w).alloc (Nat.le_refl _) (.cells #[.int .i64 0, .int .i64 n, .string s] pcT)))
  have BA := Lib.hid ((Below.refl B w).alloc hB (.cells #[.int .i64 0, .int .i64 n, .string s] pcT))
  have WR := Lib.hid hp.wr
  have HB := Lib.hid (show B ≤ (w.alloc (.cells #[.int .i64 0, .int .i64 n, .string s] pcT)).heap.size from Nat.le_trans hB BA.out.size)
  have HY := Lib.hid hy
  have p0 : (w.alloc (.cells #[.int .i64 0, .int .i64 n, .string s] pcT)).cell? ⟨w.heap.size, 0, none⟩ = some (.int .i64 0) := WB.out.cell 0
  have p1 : (w.alloc (.cells #[.int .i64 0, .int .i64 n, .string s] pcT)).cell? ⟨w.heap.size, 1, none⟩ = some (.int .i64 n) := WB.out.cell 1
  have p2 : (w.alloc (.cells #[.int .i64 0, .int .i64 n, .string s] pcT)).cell? ⟨w.heap.size, 2, none⟩ = some (.string s) := WB.out.cell 2
  have C := Lib.hid (wbyte_any (n % 256) B g h bs (w.alloc (.cells #[.int .i64 0, .int .i64 n, .string s] pcT)) PA.out.wr HB.out (by omega))
  clear hp hB hn hy hs
  go_enter Try.func7, Try.ntmps7
  go_wp2_with fail
  refine C.out.mono ?_
  rintro e w1 ⟨rfl, hq⟩
  have WB1 := Lib.hid (box_stays (b := 0) WR.out WB.out hq.choose_spec.2.1)
  obtain ⟨h', hp1, hb1⟩ := PA.out.wrote HB.out hq
  have P1 := Lib.hid hp1
  have B1 := Lib.hid (BA.out.trans hb1)
  have p1 : w1.cell? ⟨w.heap.size, 1, none⟩ = some (.int .i64 n) := WB1.out.cell 1
  have p2 : w1.cell? ⟨w.heap.size, 2, none⟩ = some (.string s) := WB1.out.cell 2
  have Z1 := Lib.hid (show B ≤ w1.heap.size from Nat.le_trans HB.out hb1.size)
  clear hq hp1 hb1 PA BA WB HB WR C
  have PA := Lib.hid (P1.out.below ((Below.refl w1.heap.size w1).alloc (Nat.le_refl _) (.cells #[.int .u8 (n % 256)] u8T)))
  have BA := Lib.hid (B1.out.alloc Z1.out (.cells #[.int .u8 (n % 256)] u8T))
  have ZA := Lib.hid (show B ≤ (w1.alloc (.cells #[.int .u8 (n % 256)] u8T)).heap.size from Nat.le_trans Z1.out (by simp))
  have NB := Lib.hid (nums_built .u8 u8T w1 [n % 256] #[.int .u8 (n % 256)] rfl 1 rfl (by decide) w1.heap.size rfl)
  clear P1 B1
  go_wp2_with (at_builtin; refine wpList_append_nums _ rfl _ _ rfl rowU8 B _ _ _ rfl PA.out.own (some ⟨w1.heap.size, 0, none⟩) 1 1 _ rfl NB.out (by have := HY.out; omega) ZA.out ?_; intro v3 w3 ho3 hg3 hat; have Q3 := Lib.hid (PA.out.grew ZA.out hg3 ho3 (hat.imp id fun e => ⟨_, e, Nat.le_refl _⟩)); clear ho3 hg3 hat)
  go_ret
  exact ⟨_, _, rfl, Q3.out.1, BA.out.trans Q3.out.2⟩

set_option maxHeartbeats 2000000 in
set_option maxRecDepth 100000 in
theorem put_1 (n : Int) (s : ByteArray) (B g : Nat) (h : Option Nat) (bs ys : List Int) (A : Option Addr) (c : Nat) (w : World) (hp : Put w B g h bs (.slice A ys.length c) ys) (hB : B ≤ w.heap.size) (hn : bs.length ≤ 1000000) (hy : ys.length ≤ 1000000) (hs : s.size ≤ 1000) (hn0 : -9223372036854775808 ≤ n) (hn1 : n ≤ 9223372036854775807) :
    Calls Try.prog 7 #[.pointer (some ⟨g, 0, none⟩), .slice A ys.length c, .agg #[.int .i64 1, .int .i64 n, .string s]] w (PutPost w B g bs ys (cntI n)) := by
  have WB := Lib.hid (Whole.made w pcT #[.int .i64 1, .int .i64 n, .string s] _ rfl)
  have PA := Lib.hid (hp.below ((Below.refl w.heap.size w).alloc (Nat.le_refl _) (.cells #[.int .i64 1, .int .i64 n, .string s] pcT)))
  have BA := Lib.hid ((Below.refl B w).alloc hB (.cells #[.int .i64 1, .int .i64 n, .string s] pcT))
  have WR := Lib.hid hp.wr
  have HB := Lib.hid (show B ≤ (w.alloc (.cells #[.int .i64 1, .int .i64 n, .string s] pcT)).heap.size from Nat.le_trans hB BA.out.size)
  have HY := Lib.hid hy
  have p0 : (w.alloc (.cells #[.int .i64 1, .int .i64 n, .string s] pcT)).cell? ⟨w.heap.size, 0, none⟩ = some (.int .i64 1) := WB.out.cell 0
  have p1 : (w.alloc (.cells #[.int .i64 1, .int .i64 n, .string s] pcT)).cell? ⟨w.heap.size, 1, none⟩ = some (.int .i64 n) := WB.out.cell 1
  have p2 : (w.alloc (.cells #[.int .i64 1, .int .i64 n, .string s] pcT)).cell? ⟨w.heap.size, 2, none⟩ = some (.string s) := WB.out.cell 2
  have C := Lib.hid (wcount_any n B g h bs (w.alloc (.cells #[.int .i64 1, .int .i64 n, .string s] pcT)) PA.out.wr HB.out (by omega) hn0 hn1)
  have LL := Lib.hid (show (cntI n).length ≤ 10 from cntB_len10 (n := n.toNat) (by omega))
  have RC := Lib.hid (fun W => refcount_any n W hn0 hn1)
  clear hp hB hn hy hs
  go_enter Try.func7, Try.ntmps7
  go_wp2_with fail
  refine C.out.mono ?_
  rintro e w1 ⟨rfl, hq⟩
  have WB1 := Lib.hid (box_stays (b := 0) WR.out WB.out hq.choose_spec.2.1)
  obtain ⟨h', hp1, hb1⟩ := PA.out.wrote HB.out hq
  have P1 := Lib.hid hp1
  have B1 := Lib.hid (BA.out.trans hb1)
  have p1 : w1.cell? ⟨w.heap.size, 1, none⟩ = some (.int .i64 n) := WB1.out.cell 1
  have p2 : w1.cell? ⟨w.heap.size, 2, none⟩ = some (.string s) := WB1.out.cell 2
  have Z1 := Lib.hid (show B ≤ w1.heap.size from Nat.le_trans HB.out hb1.size)
  clear hq hp1 hb1 PA BA WB HB WR C
  have R := Lib.hid (RC.out  w1)
  go_wp2_with fail
  refine R.out.mono ?_
  rintro e w2 ⟨A2, c2, rfl, hb2, ho2⟩
  have P2 := Lib.hid (P1.out.below hb2)
  have B2 := Lib.hid (B1.out.trans (hb2.mono Z1.out))
  have Z2 := Lib.hid (Nat.le_trans Z1.out hb2.size)
  have N2 := Lib.hid ho2.nums
  clear hb2 ho2 P1 B1 Z1 R
  go_wp2_with (at_builtin; refine wpList_append_nums _ rfl _ _ rfl rowU8 B _ _ _ rfl P2.out.own A2 _ c2 _ rfl N2.out (by have := HY.out; have := LL.out; omega) Z2.out ?_; intro v3 w3 ho3 hg3 hat; have Q3 := Lib.hid (P2.out.grew Z2.out hg3 ho3 (hat.imp id fun e => ⟨_, e, Nat.le_refl _⟩)); clear ho3 hg3 hat)
  go_ret
  exact ⟨_, _, rfl, Q3.out.1, B2.out.trans Q3.out.2⟩

set_option maxHeartbeats 2000000 in
set_option maxRecDepth 100000 in
theorem put_2 (n : Int) (s : ByteArray) (B g : Nat) (h : Option Nat) (bs ys : List Int) (A : Option Addr) (c : Nat) (w : World) (hp : Put w B g h bs (.slice A ys.length c) ys) (hB : B ≤ w.heap.size) (hn : bs.length ≤ 1000000) (hy : ys.length ≤ 1000000) (hs : s.size ≤ 1000) (hn0 : -9223372036854775808 ≤ n) (hn1 : n ≤ 9223372036854775807) :
    Calls Try.prog 7 #[.pointer (some ⟨g, 0, none⟩), .slice A ys.length c, .agg #[.int .i64 2, .int .i64 n, .string s]] w (PutPost w B g bs ys (cntB (zigN (wrap32 n)))) := by
  have WB := Lib.hid (Whole.made w pcT #[.int .i64 2, .int .i64 n, .string s] _ rfl)
  have PA := Lib.hid (hp.below ((Below.refl w.heap.size w).alloc (Nat.le_refl _) (.cells #[.int .i64 2, .int .i64 n, .string s] pcT)))
  have BA := Lib.hid ((Below.refl B w).alloc hB (.cells #[.int .i64 2, .int .i64 n, .string s] pcT))
  have WR := Lib.hid hp.wr
  have HB := Lib.hid (show B ≤ (w.alloc (.cells #[.int .i64 2, .int .i64 n, .string s] pcT)).heap.size from Nat.le_trans hB BA.out.size)
  have HY := Lib.hid hy
  have p0 : (w.alloc (.cells #[.int .i64 2, .int .i64 n, .string s] pcT)).cell? ⟨w.heap.size, 0, none⟩ = some (.int .i64 2) := WB.out.cell 0
  have p1 : (w.alloc (.cells #[.int .i64 2, .int .i64 n, .string s] pcT)).cell? ⟨w.heap.size, 1, none⟩ = some (.int .i64 n) := WB.out.cell 1
  have p2 : (w.alloc (.cells #[.int .i64 2, .int .i64 n, .string s] pcT)).cell? ⟨w.heap.size, 2, none⟩ = some (.string s) := WB.out.cell 2
  have hr := w32_in n
  have C := Lib.hid (wnumber_any (wrap32 n) B g h bs (w.alloc (.cells #[.int .i64 2, .int .i64 n, .string s] pcT)) PA.out.wr HB.out (by omega) hr.1 hr.2)
  have LL := Lib.hid (show (cntB (zigN (wrap32 n))).length ≤ 10 from cntB_len10 (by have := zigN_le hr; omega))
  have RC := Lib.hid (fun W => refnumber_any (wrap32 n) W hr.1 hr.2)
  clear hp hB hn hy hs hr
  go_enter Try.func7, Try.ntmps7
  go_wp2_with fail
  refine C.out.mono ?_
  rintro e w1 ⟨rfl, hq⟩
  have WB1 := Lib.hid (box_stays (b := 0) WR.out WB.out hq.choose_spec.2.1)
  obtain ⟨h', hp1, hb1⟩ := PA.out.wrote HB.out hq
  have P1 := Lib.hid hp1
  have B1 := Lib.hid (BA.out.trans hb1)
  have p1 : w1.cell? ⟨w.heap.size, 1, none⟩ = some (.int .i64 n) := WB1.out.cell 1
  have p2 : w1.cell? ⟨w.heap.size, 2, none⟩ = some (.string s) := WB1.out.cell 2
  have Z1 := Lib.hid (show B ≤ w1.heap.size from Nat.le_trans HB.out hb1.size)
  clear hq hp1 hb1 PA BA WB HB WR C
  have R := Lib.hid (RC.out  w1)
  go_wp2_with fail
  refine R.out.mono ?_
  rintro e w2 ⟨A2, c2, rfl, hb2, ho2⟩
  have P2 := Lib.hid (P1.out.below hb2)
  have B2 := Lib.hid (B1.out.trans (hb2.mono Z1.out))
  have Z2 := Lib.hid (Nat.le_trans Z1.out hb2.size)
  have N2 := Lib.hid ho2.nums
  clear hb2 ho2 P1 B1 Z1 R
  go_wp2_with (at_builtin; refine wpList_append_nums _ rfl _ _ rfl rowU8 B _ _ _ rfl P2.out.own A2 _ c2 _ rfl N2.out (by have := HY.out; have := LL.out; omega) Z2.out ?_; intro v3 w3 ho3 hg3 hat; have Q3 := Lib.hid (P2.out.grew Z2.out hg3 ho3 (hat.imp id fun e => ⟨_, e, Nat.le_refl _⟩)); clear ho3 hg3 hat)
  go_ret
  exact ⟨_, _, rfl, Q3.out.1, B2.out.trans Q3.out.2⟩

set_option maxHeartbeats 2000000 in
set_option maxRecDepth 100000 in
theorem put_3 (n : Int) (s : ByteArray) (B g : Nat) (h : Option Nat) (bs ys : List Int) (A : Option Addr) (c : Nat) (w : World) (hp : Put w B g h bs (.slice A ys.length c) ys) (hB : B ≤ w.heap.size) (hn : bs.length ≤ 1000000) (hy : ys.length ≤ 1000000) (hs : s.size ≤ 1000) (hn0 : -9223372036854775808 ≤ n) (hn1 : n ≤ 9223372036854775807) :
    Calls Try.prog 7 #[.pointer (some ⟨g, 0, none⟩), .slice A ys.length c, .agg #[.int .i64 3, .int .i64 n, .string s]] w (PutPost w B g bs ys (bytesOf (n % 4294967296))) := by
  have WB := Lib.hid (Whole.made w pcT #[.int .i64 3, .int .i64 n, .string s] _ rfl)
  have PA := Lib.hid (hp.below ((Below.refl w.heap.size w).alloc (Nat.le_refl _) (.cells #[.int .i64 3, .int .i64 n, .string s] pcT)))
  have BA := Lib.hid ((Below.refl B w).alloc hB (.cells #[.int .i64 3, .int .i64 n, .string s] pcT))
  have WR := Lib.hid hp.wr
  have HB := Lib.hid (show B ≤ (w.alloc (.cells #[.int .i64 3, .int .i64 n, .string s] pcT)).heap.size from Nat.le_trans hB BA.out.size)
  have HY := Lib.hid hy
  have p0 : (w.alloc (.cells #[.int .i64 3, .int .i64 n, .string s] pcT)).cell? ⟨w.heap.size, 0, none⟩ = some (.int .i64 3) := WB.out.cell 0
  have p1 : (w.alloc (.cells #[.int .i64 3, .int .i64 n, .string s] pcT)).cell? ⟨w.heap.size, 1, none⟩ = some (.int .i64 n) := WB.out.cell 1
  have p2 : (w.alloc (.cells #[.int .i64 3, .int .i64 n, .string s] pcT)).cell? ⟨w.heap.size, 2, none⟩ = some (.string s) := WB.out.cell 2
  have C := Lib.hid (wword_any (n % 4294967296) B g h bs (w.alloc (.cells #[.int .i64 3, .int .i64 n, .string s] pcT)) PA.out.wr HB.out (by omega) (by omega) (by omega))
  have LL := Lib.hid (show (bytesOf (n % 4294967296)).length ≤ 10 from by rw [bytesOf_len]; decide)
  have RC := Lib.hid (fun W => refbytes_any (n % 4294967296) W (by omega) (by omega))
  clear hp hB hn hy hs
  go_enter Try.func7, Try.ntmps7
  go_wp2_with fail
  refine C.out.mono ?_
  rintro e w1 ⟨rfl, hq⟩
  have WB1 := Lib.hid (box_stays (b := 0) WR.out WB.out hq.choose_spec.2.1)
  obtain ⟨h', hp1, hb1⟩ := PA.out.wrote HB.out hq
  have P1 := Lib.hid hp1
  have B1 := Lib.hid (BA.out.trans hb1)
  have p1 : w1.cell? ⟨w.heap.size, 1, none⟩ = some (.int .i64 n) := WB1.out.cell 1
  have p2 : w1.cell? ⟨w.heap.size, 2, none⟩ = some (.string s) := WB1.out.cell 2
  have Z1 := Lib.hid (show B ≤ w1.heap.size from Nat.le_trans HB.out hb1.size)
  clear hq hp1 hb1 PA BA WB HB WR C
  have R := Lib.hid (RC.out w1)
  go_wp2_with fail
  refine R.out.mono ?_
  rintro e w2 ⟨A2, c2, rfl, ho2, hb2⟩
  have P2 := Lib.hid (P1.out.below hb2)
  have B2 := Lib.hid (B1.out.trans (hb2.mono Z1.out))
  have Z2 := Lib.hid (Nat.le_trans Z1.out hb2.size)
  have N2 := Lib.hid ho2.nums
  clear hb2 ho2 P1 B1 Z1 R
  go_wp2_with (at_builtin; refine wpList_append_nums _ rfl _ _ rfl rowU8 B _ _ _ rfl P2.out.own A2 4 c2 _ rfl N2.out (by have := HY.out; omega) Z2.out ?_; intro v3 w3 ho3 hg3 hat; have Q3 := Lib.hid (P2.out.grew Z2.out hg3 ho3 (hat.imp id fun e => ⟨_, e, Nat.le_refl _⟩)); clear ho3 hg3 hat)
  go_ret
  exact ⟨_, _, rfl, Q3.out.1, B2.out.trans Q3.out.2⟩

set_option maxHeartbeats 2000000 in
set_option maxRecDepth 100000 in
theorem put_4 (n : Int) (s : ByteArray) (B g : Nat) (h : Option Nat) (bs ys : List Int) (A : Option Addr) (c : Nat) (w : World) (hp : Put w B g h bs (.slice A ys.length c) ys) (hB : B ≤ w.heap.size) (hn : bs.length ≤ 1000000) (hy : ys.length ≤ 1000000) (hs : s.size ≤ 1000) (hn0 : -9223372036854775808 ≤ n) (hn1 : n ≤ 9223372036854775807) :
    Calls Try.prog 7 #[.pointer (some ⟨g, 0, none⟩), .slice A ys.length c, .agg #[.int .i64 4, .int .i64 n, .string s]] w (PutPost w B g bs ys (cntB s.size ++ strI s)) := by
  have WB := Lib.hid (Whole.made w pcT #[.int .i64 4, .int .i64 n, .string s] _ rfl)
  have PA := Lib.hid (hp.below ((Below.refl w.heap.size w).alloc (Nat.le_refl _) (.cells #[.int .i64 4, .int .i64 n, .string s] pcT)))
  have BA := Lib.hid ((Below.refl B w).alloc hB (.cells #[.int .i64 4, .int .i64 n, .string s] pcT))
  have WR := Lib.hid hp.wr
  have HB := Lib.hid (show B ≤ (w.alloc (.cells #[.int .i64 4, .int .i64 n, .string s] pcT)).heap.size from Nat.le_trans hB BA.out.size)
  have HY := Lib.hid hy
  have p0 : (w.alloc (.cells #[.int .i64 4, .int .i64 n, .string s] pcT)).cell? ⟨w.heap.size, 0, none⟩ = some (.int .i64 4) := WB.out.cell 0
  have p1 : (w.alloc (.cells #[.int .i64 4, .int .i64 n, .string s] pcT)).cell? ⟨w.heap.size, 1, none⟩ = some (.int .i64 n) := WB.out.cell 1
  have p2 : (w.alloc (.cells #[.int .i64 4, .int .i64 n, .string s] pcT)).cell? ⟨w.heap.size, 2, none⟩ = some (.string s) := WB.out.cell 2
  have C := Lib.hid (wtext_any s B g h bs _ PA.out.wr HB.out (by omega) (by omega))
  have LL := Lib.hid (show (cntB s.size ++ strI s).length ≤ 1010 from by
    have := cntB_len10 (n := s.size) (by omega)
    rw [List.length_append, strI_len]
    omega)
  have RC := Lib.hid (fun W => reftext_any s W (by omega))
  generalize cntB s.size ++ strI s = L at *
  clear hp hB hn hy hs
  go_enter Try.func7, Try.ntmps7
  go_wp2_with fail
  refine C.out.mono ?_
  rintro e w1 ⟨rfl, hq⟩
  have WB1 := Lib.hid (box_stays (b := 0) WR.out WB.out hq.choose_spec.2.1)
  obtain ⟨h', hp1, hb1⟩ := PA.out.wrote HB.out hq
  have P1 := Lib.hid hp1
  have B1 := Lib.hid (BA.out.trans hb1)
  have p1 : w1.cell? ⟨w.heap.size, 1, none⟩ = some (.int .i64 n) := WB1.out.cell 1
  have p2 : w1.cell? ⟨w.heap.size, 2, none⟩ = some (.string s) := WB1.out.cell 2
  have Z1 := Lib.hid (show B ≤ w1.heap.size from Nat.le_trans HB.out hb1.size)
  clear hq hp1 hb1 PA BA WB HB WR C
  have R := Lib.hid (RC.out  w1)
  go_wp2_with fail
  refine R.out.mono ?_
  rintro e w2 ⟨A2, c2, rfl, hb2, ho2⟩
  have P2 := Lib.hid (P1.out.below hb2)
  have B2 := Lib.hid (B1.out.trans (hb2.mono Z1.out))
  have Z2 := Lib.hid (Nat.le_trans Z1.out hb2.size)
  have N2 := Lib.hid ho2.nums
  clear hb2 ho2 P1 B1 Z1 R
  go_wp2_with (at_builtin; refine wpList_append_nums _ rfl _ _ rfl rowU8 B _ _ _ rfl P2.out.own A2 _ c2 _ rfl N2.out (by have := HY.out; have := LL.out; omega) Z2.out ?_; intro v3 w3 ho3 hg3 hat; have Q3 := Lib.hid (P2.out.grew Z2.out hg3 ho3 (hat.imp id fun e => ⟨_, e, Nat.le_refl _⟩)); clear ho3 hg3 hat)
  go_ret
  exact ⟨_, _, rfl, Q3.out.1, B2.out.trans Q3.out.2⟩

set_option maxHeartbeats 2000000 in
set_option maxRecDepth 100000 in
theorem put_5 (k n : Int) (s : ByteArray) (B g : Nat) (h : Option Nat) (bs ys : List Int) (A : Option Addr) (c : Nat) (w : World) (hp : Put w B g h bs (.slice A ys.length c) ys) (hB : B ≤ w.heap.size) (hn : bs.length ≤ 1000000) (hy : ys.length ≤ 1000000) (hs : s.size ≤ 1000) (hn0 : -9223372036854775808 ≤ n) (hn1 : n ≤ 9223372036854775807) (h0 : ¬ k = 0) (h1 : ¬ k = 1) (h2 : ¬ k = 2) (h3 : ¬ k = 3) (h4 : ¬ k = 4) :
    Calls Try.prog 7 #[.pointer (some ⟨g, 0, none⟩), .slice A ys.length c, .agg #[.int .i64 k, .int .i64 n, .string s]] w (PutPost w B g bs ys []) := by
  have WB := Lib.hid (Whole.made w pcT #[.int .i64 k, .int .i64 n, .string s] _ rfl)
  have PA := Lib.hid (hp.below ((Below.refl w.heap.size w).alloc (Nat.le_refl _) (.cells #[.int .i64 k, .int .i64 n, .string s] pcT)))
  have BA := Lib.hid ((Below.refl B w).alloc hB (.cells #[.int .i64 k, .int .i64 n, .string s] pcT))
  have WR := Lib.hid hp.wr
  have HB := Lib.hid (show B ≤ (w.alloc (.cells #[.int .i64 k, .int .i64 n, .string s] pcT)).heap.size from Nat.le_trans hB BA.out.size)
  have HY := Lib.hid hy
  have p0 : (w.alloc (.cells #[.int .i64 k, .int .i64 n, .string s] pcT)).cell? ⟨w.heap.size, 0, none⟩ = some (.int .i64 k) := WB.out.cell 0
  have p1 : (w.alloc (.cells #[.int .i64 k, .int .i64 n, .string s] pcT)).cell? ⟨w.heap.size, 1, none⟩ = some (.int .i64 n) := WB.out.cell 1
  have p2 : (w.alloc (.cells #[.int .i64 k, .int .i64 n, .string s] pcT)).cell? ⟨w.heap.size, 2, none⟩ = some (.string s) := WB.out.cell 2
  have k0 : (k == 0) = false := by simp [h0]
  have k1 : (k == 1) = false := by simp [h1]
  have k2 : (k == 2) = false := by simp [h2]
  have k3 : (k == 3) = false := by simp [h3]
  have k4 : (k == 4) = false := by simp [h4]
  clear hp hB hn hy hs
  go_enter Try.func7, Try.ntmps7
  go_wp2_with fail
  refine bodyPost_ret (v := .slice A ys.length c) (by simp [results, Try.results7, go_sem]) rfl ?_
  refine ⟨h, _, rfl, ?_, BA.out⟩
  rw [List.append_nil, List.append_nil]
  exact PA.out

theorem put_any (p : Pc) (B g : Nat) (h : Option Nat) (bs ys : List Int) (v : Value) (w : World) (hp : Put w B g h bs v ys) (hB : B ≤ w.heap.size) (hn : bs.length ≤ 1000000) (hy : ys.length ≤ 1000000) (hs : p.s.size ≤ 1000) (hn0 : -9223372036854775808 ≤ p.n) (hn1 : p.n ≤ 9223372036854775807) :
    Calls Try.prog 7 #[.pointer (some ⟨g, 0, none⟩), v, .agg #[.int .i64 p.kind, .int .i64 p.n, .string p.s]] w (PutPost w B g bs ys (pieceB p)) := by
  obtain ⟨A, c, rfl, _⟩ := hp.own.form
  by_cases h0 : p.kind = 0
  · rw [pieceB_0 h0, h0]
    exact put_0 p.n p.s B g h bs ys A c w hp hB hn hy hs hn0 hn1
  · by_cases h1 : p.kind = 1
    · rw [pieceB_1 h1, h1]
      exact put_1 p.n p.s B g h bs ys A c w hp hB hn hy hs hn0 hn1
    · by_cases h2 : p.kind = 2
      · rw [pieceB_2 h2, h2]
        exact put_2 p.n p.s B g h bs ys A c w hp hB hn hy hs hn0 hn1
      · by_cases h3 : p.kind = 3
        · rw [pieceB_3 h3, h3]
          exact put_3 p.n p.s B g h bs ys A c w hp hB hn hy hs hn0 hn1
        · by_cases h4 : p.kind = 4
          · rw [pieceB_4 h4, h4]
            exact put_4 p.n p.s B g h bs ys A c w hp hB hn hy hs hn0 hn1
          · rw [pieceB_5 h0 h1 h2 h3 h4]
            exact put_5 p.kind p.n p.s B g h bs ys A c w hp hB hn hy hs hn0 hn1 h0 h1 h2 h3 h4
end Go.Proofs.Ytcoinciednbeaaa
