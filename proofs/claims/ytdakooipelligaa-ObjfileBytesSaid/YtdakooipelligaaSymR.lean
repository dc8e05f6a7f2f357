/- Symfile: imports written: both sides. -/
import Derived.Test.YtdakooipelligaaSymE
import Derived.Test.YtdakooipelligaaFngD
namespace Go.Proofs.Ytdakooipelligaa
open Go.ChangeShapes Go.WideShapes Go.ChangeAt Go.RowKit
set_option linter.unusedVariables false
set_option linter.unusedSimpArgs false

theorem WrPost.word {w0 w1 : World} {B g : Nat} {h : Option Nat} {bs : List Int} (P : WrPost w0 w1 B g h bs) (hB : B ≤ w0.heap.size) (hl : bs.length ≤ 10000000) {n : Int} (h0 : 0 ≤ n) (h1 : n ≤ 4294967295) :
    Calls Try.prog 25 #[.pointer (some ⟨g, 0, none⟩), .int .u32 n] w1 fun e w' => e = .returned (.tuple #[]) ∧ WrPost w0 w' B g h (bs ++ bytesOf n) := by
  obtain ⟨h', a, t⟩ := P.after
  exact (wword_any n B g h' bs w1 a (Nat.le_trans hB P.kept.size) hl h0 h1).mono (fun e w' ⟨e1, e2⟩ => ⟨e1, t _ _ e2⟩)

theorem WrPost.ims {w w' : World} {B g : Nat} {h : Option Nat} {bs bs0 : List Int} (P : WrPost w w' B g h bs) (A : WrAt w B g h bs0) {v : Value} {l : List Im} (he : ImV B w v l) : ImV B w' v l :=
  he.keep (Nat.le_refl _) P.kept.size fun b hb ht => P.kept.block b hb fun hs => by
    have := A.base' b hs
    omega

/-- An import whose text is short enough to be written. -/
def ImSm (x : Im) : Prop := x.nm.size ≤ 200 ∧ 0 ≤ x.key ∧ x.key ≤ 4294967295

theorem imB_len {x : Im} (h : ImSm x) : (imB x).length ≤ 220 := by
  unfold imB
  rw [List.length_append, List.length_append, strI_len]
  have h1 := cntB_len10 (n := x.nm.size) (by have := h.1; omega)
  have h2 : (bytesOf x.key).length = 4 := rfl
  have := h.1
  omega

theorem imsflat_len {l : List Im} (h : ∀ x ∈ l, ImSm x) : (l.flatMap imB).length ≤ l.length * 220 := by
  induction l with
  | nil => simp
  | cons x l ih =>
    rw [List.flatMap_cons, List.length_append, List.length_cons]
    have h1 := imB_len (h x List.mem_cons_self)
    have h2 := ih (fun y hy => h y (List.mem_cons_of_mem _ hy))
    omega

/-- What is put of imports so far. -/
def imsTo (l : List Im) (t : Nat) : List Int := (l.take t).flatMap imB

theorem imsTo_more {l : List Im} {t : Nat} (ht : t < l.length) : imsTo l (t + 1) = imsTo l t ++ imB (l.getD t zI) := flat_take imB l zI ht

theorem imsTo_len {l : List Im} (h : ∀ x ∈ l, ImSm x) {t : Nat} (ht : t ≤ 100) : (imsTo l t).length ≤ 22000 := by
  have h2 := imsflat_len (l := l.take t) (fun x hx => h x (List.mem_of_mem_take hx))
  rw [List.length_take] at h2
  unfold imsTo
  omega

theorem bytesOf_bytes (n : Int) : Byt (bytesOf n) := by
  intro z hz
  unfold bytesOf at hz
  simp at hz
  omega

theorem imB_bytes (x : Im) : Byt (imB x) := byt_app (byt_app (cntB_bytes _) (strI_bytes _)) (bytesOf_bytes _)

theorem imsB_bytes (l : List Im) : Byt (imsB l) := byt_app (cntI_bytes _) (fun z hz => by
  obtain ⟨x, _, h⟩ := List.mem_flatMap.1 hz
  exact imB_bytes x z h)

theorem imsB_len {l : List Im} (h : ∀ x ∈ l, ImSm x) (hn : l.length ≤ 100) : (imsB l).length ≤ 22010 := by
  have h1 := cntI_len (n := l.length) (by omega)
  have h2 := imsflat_len h
  unfold imsB
  rw [List.length_append]
  omega

set_option maxHeartbeats 16000000 in
set_option maxRecDepth 100000 in
theorem iwrite_any (A : Option Addr) (c : Nat) (l : List Im) (B g : Nat) (h : Option Nat) (bs : List Int) (w : World) (hw : WrAt w B g h bs) (hB : B ≤ w.heap.size) (hl : bs.length ≤ 500000) (he : ImV B w (.slice A l.length c) l) (hx : ∀ x ∈ l, ImSm x) (hn : l.length ≤ 100) :
    Calls Try.prog 27 #[.pointer (some ⟨g, 0, none⟩), .slice A l.length c] w fun e w' => e = .returned (.tuple #[]) ∧ WrPost w w' B g h (bs ++ imsB l) := by
  have P0 := Lib.hid (WrPost.refl hw)
  have A0 := Lib.hid hw
  have HB := Lib.hid hB
  have HL := Lib.hid hl
  have HE := Lib.hid he
  have HX := Lib.hid hx
  have C := Lib.hid (cntI_len (n := l.length) (by omega))
  have LE := Lib.hid (show bs ++ imsB l = (bs ++ cntI l.length) ++ imsTo l l.length by unfold imsB imsTo; rw [List.take_length, List.append_assoc])
  have U0 := Lib.hid (show imsTo l 0 = [] from rfl)
  clear hw hB hl he hx
  generalize imsB l = LB at *
  go_enter Try.func27, Try.ntmps27
  go_wp2_with fail
  refine (P0.out.count HB.out (by have := HL.out; omega) (by omega) (by omega)).mono ?_
  rintro e w1 ⟨rfl, hp1⟩
  have P1 := Lib.hid hp1
  have LC := Lib.hid (show (bs ++ cntI l.length).length ≤ 500010 by rw [List.length_append]; have := HL.out; have := C.out; omega)
  clear hp1
  generalize bs ++ cntI l.length = cs at *
  go_wp2_with fail
  go_loopw [12] (fun i wr => ∃ t : Nat, t ≤ l.length ∧ i = .int .i64 t ∧ WrPost w wr B g h (cs ++ imsTo l t)) (fun i _ => l.length - (intOf i).toNat)
  case atStart => exact ⟨0, Nat.zero_le _, rfl, by rw [U0.out, List.append_nil]; exact P1.out⟩
  case round =>
    obtain ⟨t, ht, rfl, hpr⟩ := hrel
    by_cases hlt : t < l.length
    · have hI : (t : Int) < l.length := by omega
      have UM := Lib.hid (imsTo_more hlt)
      have UL := Lib.hid (imsTo_len (l := l) HX.out (t := t) (by omega))
      have SM := HX.out _ (getD_mem zI hlt)
      obtain ⟨b, off, rfl, hbl, x0, x1⟩ := (hpr.ims A0.out HE.out).at hlt
      generalize l.getD t zI = x at *
      obtain ⟨nm, key⟩ := x
      simp only at x0 x1
      have S1 := Lib.hid (show nm.size ≤ 200 from SM.1)
      have S2 := Lib.hid (show 0 ≤ key ∧ key ≤ 4294967295 from SM.2)
      have LT := Lib.hid (show (cntB nm.size ++ strI nm).length ≤ 210 by rw [List.length_append, strI_len]; have := S1.out; have := cntB_len10 (n := nm.size) (by omega); omega)
      have q1 := (Below.refl wr.heap.size wr).alloc (Nat.le_refl _) (.cells #[.string nm, .int .u32 key] pI)
      have Y := Lib.hid (Whole.made wr pI #[.string nm, .int .u32 key] _ rfl)
      have y0 : (wr.alloc (.cells #[.string nm, .int .u32 key] pI)).cell? ⟨wr.heap.size, 0, none⟩ = some (.string nm) := Y.out.cell 0
      have PR := Lib.hid (hpr.below q1)
      have SZ := Lib.hid (Nat.le_trans HB.out (Nat.le_trans hpr.kept.size q1.size))
      have NY := Lib.hid (show ∀ h1 cs', WrAt (wr.alloc (.cells #[.string nm, .int .u32 key] pI)) B g h1 cs' → ¬ WrS g h1 wr.heap.size from fun h1 cs' a hs => by
        obtain ⟨_, cs2, t2, e1, e2⟩ := a.blocks hs
        have e3 := Y.out
        unfold Whole at e3
        rw [e3] at e2
        injection e2 with e2
        injection e2 with _ e2 _
        rcases e1 with e1 | e1 <;> rw [e1] at e2 <;> exact absurd e2 (by decide))
      have IE := Lib.hid (show imB ⟨nm, key⟩ = (cntB nm.size ++ strI nm) ++ bytesOf key from rfl)
      clear hpr q1 SM
      go_wp2_with fail
      clear x0 x1 y0
      generalize hW1 : wr.alloc (.cells #[.string nm, .int .u32 key] pI) = W1 at *
      clear hW1
      obtain ⟨h1, a1, tr1⟩ := PR.out.after
      have Q1 := Lib.hid (WrPost.refl a1)
      have N1 := Lib.hid (NY.out _ _ a1)
      have TR := Lib.hid tr1
      clear a1 tr1 PR NY
      refine (Q1.out.text SZ.out (by have := LC.out; have := UL.out; simp only [List.length_append]; omega) (by have := S1.out; omega)).mono ?_
      rintro e w3 ⟨rfl, hp3⟩
      have y1 : w3.cell? ⟨wr.heap.size, 1, none⟩ = some (.int .u32 key) := hp3.cell (Y.out.cell 1) N1.out
      have Q2 := Lib.hid hp3
      clear hp3 Q1
      go_wp2_with fail
      clear y1
      refine (Q2.out.word SZ.out (by have := LC.out; have := UL.out; have := LT.out; simp only [List.length_append] at *; omega) S2.out.1 S2.out.2).mono ?_
      rintro e w4 ⟨rfl, hp4⟩
      have P3 := Lib.hid (TR.out _ _ hp4)
      clear hp4 Q2 TR Y
      go_wp2_with fail
      go_roundw
      case rel =>
        refine ⟨t + 1, by omega, by go_num, ?_⟩
        rw [UM.out, IE.out, ← List.append_assoc, ← List.append_assoc]
        exact P3.out
      case measure => simp [intOf]; omega
    · have hI : ¬ (t : Int) < l.length := by omega
      obtain rfl : t = l.length := by omega
      have PR := Lib.hid hpr
      clear hpr
      go_wp2_with fail
      go_end0
      refine ⟨rfl, ?_⟩
      rw [LE.out]
      exact PR.out

theorem own_grown {W w w' : World} {v v' : Value} {bs zs : List Int} {n : Nat} (hn : zs.length = n) (h : Owns .u8 u8T w W.heap.size v bs.length bs ∧ Below W.heap.size W w) (hg : w.grownBy w' v.ownBlock) (ho : Owns .u8 u8T w' W.heap.size v' (bs.length + n) (bs ++ zs)) : Owns .u8 u8T w' W.heap.size v' (bs ++ zs).length (bs ++ zs) ∧ Below W.heap.size W w' :=
  ⟨by rw [List.length_append, hn]; exact ho, Owns.grown_below h.2 h.1 hg h.2.size⟩

theorem own_later {W w w' : World} {v : Value} {bs : List Int} (h : Owns .u8 u8T w W.heap.size v bs.length bs ∧ Below W.heap.size W w) (hb : Below w.heap.size w w') : Owns .u8 u8T w' W.heap.size v bs.length bs ∧ Below W.heap.size W w' :=
  ⟨h.1.keepS (S := fun _ => False) (KeptS.ofBelow hb) (fun _ _ h => h), h.2.trans (hb.mono h.2.size)⟩

set_option maxHeartbeats 16000000 in
set_option maxRecDepth 100000 in
theorem refiwrite_any (A : Option Addr) (c : Nat) (l : List Im) (W : World) (he : ImV W.heap.size W (.slice A l.length c) l) (hx : ∀ x ∈ l, ImSm x) (hn : l.length ≤ 100) :
    Calls Try.prog 45 #[.slice A l.length c] W fun e w' => ∃ A' c', e = .returned (.slice A' (imsB l).length c') ∧ Below W.heap.size W w' ∧ Owns .u8 u8T w' W.heap.size (.slice A' (imsB l).length c') (imsB l).length (imsB l) := by
  have HE := Lib.hid he
  have HX := Lib.hid hx
  have C := Lib.hid (cntI_len (n := l.length) (by omega))
  have RC := Lib.hid (refcount_any l.length W (by omega) (by omega))
  have LE := Lib.hid (show imsB l = cntI l.length ++ imsTo l l.length by unfold imsB imsTo; rw [List.take_length])
  have U0 := Lib.hid (show imsTo l 0 = [] from rfl)
  clear he hx
  generalize hcs : cntI l.length = cs at *
  clear hcs
  generalize hLL : imsB l = LL at *
  have HLL := Lib.hid hLL
  clear hLL
  go_enter Try.func45, Try.ntmps45
  go_wp2_with fail
  refine RC.out.mono ?_
  rintro e w1 ⟨A1, c1, rfl, hb1, ho1⟩
  have O1 := Lib.hid (show Owns .u8 u8T w1 W.heap.size _ cs.length cs ∧ Below W.heap.size W w1 from ⟨ho1, hb1⟩)
  clear hb1 ho1 RC
  go_wp2_with fail
  go_loopw [3, 4] (fun v i wr => ∃ t : Nat, t ≤ l.length ∧ i = .int .i64 t ∧ (Owns .u8 u8T wr W.heap.size v (cs ++ imsTo l t).length (cs ++ imsTo l t) ∧ Below W.heap.size W wr)) (fun _ i _ => l.length - (intOf i).toNat)
  case atStart => exact ⟨0, Nat.zero_le _, rfl, by rw [U0.out, List.append_nil]; exact O1.out⟩
  case round =>
    obtain ⟨t, ht, rfl, ho⟩ := hrel
    have HO := Lib.hid ho
    by_cases hlt : t < l.length
    · have hI : (t : Int) < l.length := by omega
      have UM := Lib.hid (imsTo_more hlt)
      have UL := imsTo_len (l := l) HX.out (t := t) (by omega)
      have SM := HX.out _ (getD_mem zI hlt)
      obtain ⟨b, off, rfl, hbl, x0, x1⟩ := HE.out.at hlt
      generalize l.getD t zI = x at *
      obtain ⟨nm, key⟩ := x
      simp only at x0 x1
      have S1 := SM.1
      have S2 := Lib.hid (show 0 ≤ key ∧ key ≤ 4294967295 from SM.2)
      simp only at S1
      have l1 := Lib.hid (show (cntB nm.size ++ strI nm).length ≤ 210 by rw [List.length_append, strI_len]; have := cntB_len10 (n := nm.size) (by omega); omega)
      have C1 := Lib.hid (fun w => reftext_any nm w (by omega))
      have C2 := Lib.hid (fun w => refbytes_any key w S2.out.1 S2.out.2)
      have UE := Lib.hid (show cs ++ imsTo l (t + 1) = ((cs ++ imsTo l t) ++ (cntB nm.size ++ strI nm)) ++ bytesOf key by rw [UM.out]; show cs ++ (imsTo l t ++ ((cntB nm.size ++ strI nm) ++ bytesOf key)) = _; simp only [List.append_assoc])
      have LD := Lib.hid (show (cs ++ imsTo l t).length ≤ 22010 by rw [List.length_append]; have := C.out; omega)
      have l2 := Lib.hid (show (bytesOf key).length = 4 from rfl)
      generalize cs ++ imsTo l t = ds at *
      generalize cntB nm.size ++ strI nm = z1 at *
      generalize bytesOf key = z2 at *
      have XL := Lib.hid (fun w (hb : Below W.heap.size W w) => show w.cell? ⟨b, off + t * 2 + 1, none⟩ = some (.int .u32 key) from cell_later x1 hb)
      have y0 : wr.cell? ⟨b, off + t * 2, none⟩ = some (.string nm) := cell_later x0 ho.2
      clear ho SM S1 x0 x1 UL
      go_wp2_with fail
      clear y0
      refine (C1.out _).mono ?_
      rintro e u1 ⟨A1, c1, rfl, hb, hz⟩
      have G1 := Lib.hid (own_later HO.out hb)
      have N1 := Lib.hid hz.nums
      clear hb hz C1 HO
      go_wp2_with (at_builtin; refine wpList_append_nums _ rfl _ _ rfl rowU8 W.heap.size _ _ _ rfl G1.out.1 A1 _ c1 _ rfl N1.out (by have := LD.out; have := l1.out; omega) G1.out.2.size ?_; intro v1 w1 ho hg _; have F1 := Lib.hid (own_grown rfl G1.out hg ho); clear ho hg; have y1 := XL.out w1 F1.out.2)
      clear G1 N1 y1
      refine (C2.out _).mono ?_
      rintro e u2 ⟨A2, c2, rfl, hz, hb⟩
      have G2 := Lib.hid (own_later F1.out hb)
      have N2 := Lib.hid hz.nums
      clear hb hz F1 C2
      go_wp2_with (at_builtin; refine wpList_append_nums _ rfl _ _ rfl rowU8 W.heap.size _ _ _ rfl G2.out.1 A2 _ c2 _ rfl N2.out (by (try simp only [List.length_append]); have := LD.out; have := l1.out; have := l2.out; omega) G2.out.2.size ?_; intro v2 w2 ho hg _; have F2 := Lib.hid (own_grown l2.out G2.out hg ho); clear ho hg)
      go_roundw
      case rel => exact ⟨t + 1, by omega, by go_num, by rw [UE.out]; exact F2.out⟩
      case measure => simp [intOf]; omega
    · have hI : ¬ (t : Int) < l.length := by omega
      obtain rfl : t = l.length := by omega
      rw [← LE.out] at HO
      obtain ⟨A', c', rfl, _⟩ := HO.out.1.form
      clear ho
      go_wp2_with fail
      go_ret
      exact ⟨A', c', rfl, HO.out.2, HO.out.1⟩
end Go.Proofs.Ytdakooipelligaa
