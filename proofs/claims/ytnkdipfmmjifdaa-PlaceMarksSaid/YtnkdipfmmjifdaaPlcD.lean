/- Place: New, and the page's example. -/
import Derived.Test.YtnkdipfmmjifdaaPlcC
import Derived.Test.YtnkdipfmmjifdaaBlocks
namespace Go.Proofs.Ytnkdipfmmjifdaa
open Go.ChangeShapes Go.WideShapes Go.ChangeAt Go.RowKit
set_option linter.unusedVariables false
set_option linter.unusedSimpArgs false

/-- An own row lies in no block that holds something else. -/
theorem Owns.ne {k : IntKind} {e : TypeId} {w : World} {B : Nat} {v : Value} {n : Nat} {zs : List Int} {g : Nat} {o : Obj} (h : Owns k e w B v n zs) (hb : w.heap[g]? = some o) (ho : ∀ c fz, o ≠ .cells c e fz) : v.ownBlock ≠ some g := by
  rcases h.2 with ⟨rfl, _⟩ | ⟨g', cap, cur, rfl, _, hg, _⟩
  · simp [Value.ownBlock]
  · intro he
    simp only [Value.ownBlock, Option.some.injEq] at he
    subst he
    rw [hg] at hb
    exact ho _ _ (Option.some.inj hb).symm

theorem Owns.iterAt {k : IntKind} {e : TypeId} {w : World} {B : Nat} {v : Value} {n : Nat} {zs : List Int} {g : Nat} {s : ByteArray} {p : Nat} (h : Owns k e w B v n zs) (hb : w.heap[g]? = some (.stringIter s p)) (q : Nat) : Owns k e (w.iterAt g s q) B v n zs :=
  World.ownsRow.kept (row := some g) h ⟨rfl, rfl, rfl, by rw [Lib.iterAt_size]; exact Nat.le_refl _, fun i _ hne => Lib.iterAt_other w g i s q (fun e => hne (by rw [e]))⟩ (.inr (h.ne hb (fun _ _ => by intro h; cases h)))

theorem Owns.far {k : IntKind} {e : TypeId} {w : World} {B : Nat} {v : Value} {n : Nat} {zs : List Int} {g : Nat} {t : TypeId} {cs : Array Value} (h : Owns k e w B v n zs) (hb : Whole w g t cs) (hne : t ≠ e) (i : Nat) (u : Value) : Owns k e (w.setCell ⟨g, i, none⟩ u) B v n zs :=
  World.ownsRow.kept (row := some g) h ⟨rfl, rfl, rfl, by simp [World.setCell], fun j _ hj => Below.heap_setCell w ⟨g, i, none⟩ u j (fun e => hj (by rw [e]))⟩ (.inr (h.ne hb (fun _ _ h => hne (by injection h))))

theorem rowI64P : RowOf Try.prog 42 3 .i64 8 := rowOf_mk Try.underlying42 (by kernel_rfl) (by decide)

def fI (s : ByteArray) (k : Nat) : List Int := (feedsTo s k).map Int.ofNat

/-- Between two rounds: the index so far, the place of the range. -/
structure Half (w : World) (B b : Nat) (s : ByteArray) (p : Nat) (A : Option Addr) (c : Nat) : Prop where
  it : w.heap[b + 1]? = some (.stringIter s p)
  idx : Whole w b 44 #[.string s, .slice A (cnt s p) c]
  own : Owns .i64 3 w B (.slice A (cnt s p) c) (cnt s p) (fI s p)
  nil : cnt s p = 0 → A = none ∧ c = 0

theorem idx_ne : (44 : TypeId) ≠ 3 := by decide

def NewPost (s : ByteArray) (w : World) (e : Ending) (w' : World) : Prop :=
  ∃ b A c, e = .returned (.pointer (some ⟨b, 0, none⟩)) ∧ Idx w' b s A c ∧ Below w.heap.size w w'

set_option maxHeartbeats 4000000 in
set_option maxRecDepth 100000 in
theorem new_any (s : ByteArray) (w : World) (hs : s.size ≤ 1000000) :
    Calls Try.prog 8 #[.string s] w (NewPost s w) := by
  have CL := Lib.hid (cloneS_any s w hs)
  go_enter Try.func8, Try.ntmps8
  go_wp2_with fail
  refine CL.out.mono ?_
  rintro e w1 ⟨rfl, hb1⟩
  have B1 := Lib.hid hb1
  have hz1 : w.heap.size ≤ w1.heap.size := hb1.size
  clear hb1 CL
  go_wp2_with fail
  have K0 := Lib.hid (Whole.made w1 44 #[.string s, .slice none 0 0] _ rfl)
  have B2 := Lib.hid (B1.out.alloc hz1 (.cells #[.string s, .slice none 0 0] 44))
  have S2 := Lib.hid (show (w1.alloc (.cells #[.string s, .slice none 0 0] 44)).heap.size = w1.heap.size + 1 by simp)
  generalize w1.alloc (.cells #[.string s, .slice none 0 0] 44) = W2 at *
  have LB := Lib.hid hz1
  clear B1
  generalize hb : w1.heap.size = b at *
  clear hb
  go_loopw [] (fun wr => ∃ (p : Nat) (A : Option Addr) (c : Nat), p ≤ s.size ∧ Half wr w.heap.size b s p A c ∧ Below w.heap.size w wr) (fun wr => s.size - wr.iterPos (b + 1))
  case atStart =>
    have hit := World.iter_heap W2 s 0
    refine ⟨0, none, 0, Nat.zero_le _, ⟨?_, K0.out.alloc _, Owns.nil _ _ _ _, fun _ => ⟨rfl, rfl⟩⟩, B2.out.alloc (by rw [S2.out]; have := LB.out; omega) _⟩
    rw [← S2.out]
    exact hit
  case round =>
    clear K0 B2 S2
    obtain ⟨p, A, c, hp, hH, hB⟩ := hrel
    obtain ⟨hit, hK, hO, hN⟩ := hH
    by_cases hlt : p < s.size
    · have hnx : ∀ ty, (Instr.next (.pointer (some ⟨b + 1, 0, none⟩)) true ty).run Try.prog wr = _ := fun ty => Lib.run_next_any_at wr (b + 1) s p ty hit hlt
      have hit2 := Lib.hid (Lib.iterAt_heap wr (b + 1) s p (p + (Utf8.decode s p).2) hit)
      have HK := Lib.hid (show Whole (wr.iterAt (b + 1) s (p + (Utf8.decode s p).2)) b 44 #[.string s, .slice A (cnt s p) c] from (Lib.iterAt_other wr (b + 1) b s _ (by omega)).trans hK)
      have HO := Lib.hid (hO.iterAt hit (p + (Utf8.decode s p).2))
      have HB := Lib.hid (Lib.below_iterAt hB (k := b + 1) (by omega) s (p + (Utf8.decode s p).2))
      have HN := Lib.hid hN
      obtain ⟨r1, r2, r3, r4⟩ := rune_feed s p hlt
      have hcl := cnt_le_self s p
      have HM := Lib.hid (show s.size - wr.iterPos (b + 1) = s.size - p by simp only [World.iterPos, hit])
      clear hit hK hO hB hN
      cases hf : feedAt s p with
      | false =>
        have d0 : (((Utf8.decode s p).1 : Int) == 10) = false := by
          have : (Utf8.decode s p).1 ≠ 10 := fun h => by rw [r3.1 h] at hf; cases hf
          simp only [beq_eq_false_iff_ne, ne_eq]
          omega
        have E := Lib.hid (show feedsTo s (p + (Utf8.decode s p).2) = feedsTo s p from feedsTo_gap _ fun i h1 h2 => by
          rcases Nat.eq_or_lt_of_le h1 with rfl | h1
          · exact hf
          · exact r4 i h1 h2)
        clear r3 r4 hf
        generalize Utf8.decode s p = D at *
        obtain ⟨r, n⟩ := D
        simp only at r1 r2 d0 hnx hit2 HK HO HB E
        have E2 := Lib.hid (show cnt s (p + n) = cnt s p from congrArg List.length E.out)
        go_wp2_with fail
        go_roundw
        case rel => exact ⟨p + n, A, c, by omega, ⟨hit2.out, by rw [E2.out]; exact HK.out, by unfold fI; rw [E2.out, E.out]; exact HO.out, by rw [E2.out]; exact HN.out⟩, HB.out⟩
        case measure => rw [HM.out]; simp only [World.iterPos, hit2.out]; omega
      | true =>
        have d0 : (((Utf8.decode s p).1 : Int) == 10) = true := by
          have : (Utf8.decode s p).1 = 10 := r3.2 hf
          rw [this]
          rfl
        have E := Lib.hid (show feedsTo s (p + (Utf8.decode s p).2) = feedsTo s p ++ [p] by
          obtain ⟨n, hn⟩ : ∃ n, (Utf8.decode s p).2 = 1 + n := ⟨(Utf8.decode s p).2 - 1, by omega⟩
          rw [hn, ← Nat.add_assoc, feedsTo_gap (k := p + 1) n (fun i h1 h2 => r4 i h1 (by omega)), feedsTo_yes hf])
        clear r3 r4 hf
        generalize Utf8.decode s p = D at *
        obtain ⟨r, n⟩ := D
        simp only at r1 r2 d0 hnx hit2 HK HO HB E
        have E2 := Lib.hid (show cnt s (p + n) = cnt s p + 1 from (congrArg List.length E.out).trans (by simp [cnt]))
        have E3 := Lib.hid (show fI s (p + n) = fI s p ++ [(p : Int)] by unfold fI; rw [E.out]; simp)
        clear E
        generalize fI s p = z1 at *
        generalize cnt s p = m at *
        have HI := Lib.hid hit2.out
        clear hit2
        generalize hV : wr.iterAt (b + 1) s (p + n) = V at *
        clear hV
        have c1 : V.cell? ⟨b, 1, none⟩ = some (.slice A m c) := HK.out.cell 1
        have ltb := HK.out.lt
        have vsz : w.heap.size ≤ V.heap.size := HB.out.size
        have BA := Lib.hid (HB.out.alloc vsz (.cells #[.int .i64 p] 3))
        have OA := Lib.hid (HO.out.alloc (.cells #[.int .i64 p] 3))
        have KA := Lib.hid (HK.out.alloc (.cells #[.int .i64 p] 3))
        have IA := Lib.hid (show (V.alloc (.cells #[.int .i64 p] 3)).heap[b + 1]? = some (.stringIter s (p + n)) from (Below.heap_alloc V _ (b + 1) (Array.getElem?_eq_some_iff.1 HI.out).1).trans HI.out)
        have NZ := Lib.hid (owns_built .i64 3 V [(p : Int)] #[.int .i64 p] rfl 1 rfl (by decide) V.heap.size (Nat.le_refl _) V.heap.size rfl).nums
        have HJ := Lib.hid hnx
        clear HK HB HO HI HN
        go_wp2_with (at_builtin; refine wpList_append_nums _ rfl _ _ rfl rowI64P w.heap.size (.slice A m c) m _ rfl OA.out (some ⟨V.heap.size, 0, none⟩) 1 1 [(p : Int)] rfl NZ.out (by omega) (by have := BA.out.size; simpa using this) ?_; intro v1 w3 ho3 hg3 hal; have NE := (OA.out.ne KA.out (fun _ _ h => idx_ne (by injection h))); have K3 := Lib.hid ((hg3.block b (by simp; omega) (fun e => NE e.symm)).trans KA.out); have I3 := Lib.hid ((hg3.block (b + 1) (by have := (Array.getElem?_eq_some_iff.1 IA.out).1; exact this) (fun e => OA.out.ne IA.out (fun _ _ h => by cases h) e.symm)).trans IA.out); have B3 := Lib.hid (Owns.grown_below BA.out OA.out hg3 (by have := BA.out.size; simpa using this)); obtain ⟨A2, c2, rfl, _⟩ := ho3.form; have O3 := Lib.hid ho3; have c3 : w3.cell? ⟨b, 1, none⟩ = some (.slice A m c) := Whole.cell K3.out 1; have f3 : w3.frozen? ⟨b, 1, none⟩ = false := Whole.free K3.out 1; clear ho3 hg3 NE hal c1)
        have K4 := Lib.hid (show Whole (w3.setCell ⟨b, 1, none⟩ (.slice A2 (m + 1) c2)) b 44 #[.string s, .slice A2 (m + 1) c2] from Whole.store K3.out 1 _)
        have I4 := Lib.hid (show (w3.setCell ⟨b, 1, none⟩ (.slice A2 (m + 1) c2)).heap[b + 1]? = some (.stringIter s (p + n)) from (Below.heap_setCell w3 ⟨b, 1, none⟩ _ (b + 1) (by simp)).trans I3.out)
        have O4 := Lib.hid (O3.out.far K3.out idx_ne 1 (.slice A2 (m + 1) c2))
        have B4 := Lib.hid (B3.out.setCell (p := ⟨b, 1, none⟩) LB.out (.slice A2 (m + 1) c2))
        go_roundw
        case rel => exact ⟨p + n, A2, c2, by omega, ⟨I4.out, by rw [E2.out]; exact K4.out, by rw [E2.out, E3.out]; exact O4.out, by rw [E2.out]; intro h; cases h⟩, B4.out⟩
        case measure => rw [HM.out]; simp only [World.iterPos, I4.out]; omega
    · have hnx : ∀ ty, (Instr.next (.pointer (some ⟨b + 1, 0, none⟩)) true ty).run Try.prog wr = _ := fun ty => Lib.run_next_end_at wr (b + 1) s p ty hit hlt
      obtain rfl : p = s.size := by omega
      have HK := Lib.hid hK
      have HO := Lib.hid hO
      have HB := Lib.hid hB
      have HN := Lib.hid hN
      clear hit hK hO hB hN
      go_wp2_with fail
      go_ret
      exact ⟨b, A, c, rfl, ⟨HK.out.cell 0, HK.out.cell 1, HO.out.nums, HN.out, HK.out.lt⟩, HB.out⟩
/-- The page's example. -/
def exP : ByteArray := ⟨#[97, 98, 10, 99]⟩

set_option maxHeartbeats 1000000 in
set_option maxRecDepth 100000 in
theorem awake07_any (w : World) : Calls Try.prog 7 #[] w fun e w' => e = .returned (.bool true) ∧ Below w.heap.size w w' := by
  have NW := Lib.hid (new_any exP w (by decide))
  have E1 : lnOf exP (plc exP 3) = 2 := by decide
  have E2 : clOf exP (plc exP 3) = 1 := by decide
  have E3 : offOf exP 1 3 = 2 := by decide
  have E4 : (fd exP).length = 1 := by decide
  have hz : exP.size ≤ 1000000 := by decide
  unfold NewPost at NW
  have HZ := Lib.hid hz
  have AA := Lib.hid (fun b A c w' (h : Idx w' b exP A c) => by have := at_any b exP A c 3 w' h hz; rwa [E1, E2] at this)
  have OA := Lib.hid (fun b A c w' (h : Idx w' b exP A c) => by have := offset_any b exP A c 1 3 w' h hz; rwa [E3, if_neg (by decide)] at this)
  have LA := Lib.hid (fun b A c w' (h : Idx w' b exP A c) => by have := lines_any b exP A c w' h hz; rwa [E4] at this)
  clear E1 E2 E3 E4 hz
  unfold exP at *
  go_enter Try.func7, Try.ntmps7
  go_wp2_with fail
  refine NW.out.mono ?_
  rintro e w1 ⟨b, A, c, rfl, hI, hb⟩
  have HI := Lib.hid hI
  have HB := Lib.hid hb
  clear hI hb
  go_wp2_with fail
  refine (AA.out b A c _ HI.out).mono ?_
  rintro e w2 ⟨rfl, q, rfl⟩
  have HI2 := Lib.hid (HI.out.below (below_drawn (Below.refl _ _) q))
  have HB2 := Lib.hid (below_drawn HB.out q)
  clear HI HB
  generalize w1.drewN q = W2 at *
  go_wp2_with fail
  refine (OA.out b A c _ HI2.out).mono ?_
  rintro e w3 ⟨rfl, q, rfl⟩
  have HI3 := Lib.hid (HI2.out.below (below_drawn (Below.refl _ _) q))
  have HB3 := Lib.hid (below_drawn HB2.out q)
  clear HI2 HB2
  generalize W2.drewN q = W3 at *
  go_wp2_with fail
  refine (LA.out b A c _ HI3.out).mono ?_
  rintro e w4 ⟨rfl, rfl⟩
  go_wp2_with fail
  go_ret
  exact ⟨rfl, HB3.out⟩
end Go.Proofs.Ytnkdipfmmjifdaa
