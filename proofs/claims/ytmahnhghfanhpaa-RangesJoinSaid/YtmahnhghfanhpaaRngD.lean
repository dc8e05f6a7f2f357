/- Ranges: Find of both. -/
import Derived.Test.YtmahnhghfanhpaaRngB
namespace Go.Proofs.Ytmahnhghfanhpaa
open Go.ChangeShapes Go.WideShapes Go.ChangeAt Go.RowKit
set_option linter.unusedVariables false
set_option linter.unusedSimpArgs false

/-- How many starts are not above a word, from the front on. -/
def pastN : List Sg → Int → Nat
  | [], _ => 0
  | s :: l, x => if s.st ≤ x then pastN l x + 1 else 0

theorem past_le : ∀ (l : List Sg) (x : Int), pastN l x ≤ l.length
  | [], _ => Nat.le_refl _
  | s :: l, x => by
    unfold pastN
    split
    · have := past_le l x
      simp
      omega
    · exact Nat.zero_le _

theorem past_iff : ∀ (l : List Sg) (x : Int) (i : Nat), riseS l → i < l.length → (x < (l.getD i zSg).st ↔ pastN l x ≤ i)
  | [], _, _, _, h => absurd h (Nat.not_lt_zero _)
  | s :: l, x, i, hr, hi => by
    obtain ⟨h1, h2⟩ := List.pairwise_cons.1 hr
    unfold pastN
    match i, hi with
    | 0, _ =>
      show x < s.st ↔ _
      split
      · constructor <;> intro h <;> omega
      · constructor <;> intro h <;> omega
    | i + 1, hi =>
      have hi' : i < l.length := by simpa using hi
      have ih := past_iff l x i h2 hi'
      have hs : s.st < (l.getD i zSg).st := h1 _ (getD_memS hi')
      show x < (l.getD i zSg).st ↔ _
      split
      · rw [ih]
        constructor <;> intro h <;> omega
      · constructor <;> intro h <;> omega

theorem find_past_at : ∀ (l : List Sg) (p x : Int), findP p l x = if pastN l x = 0 then p else (l.getD (pastN l x - 1) zSg).pd
  | [], p, x => rfl
  | s :: l, p, x => by
    have ih := find_past_at l s.pd x
    unfold findP pastN
    split
    · rw [ih]
      simp only [Nat.add_sub_cancel, Nat.add_one_ne_zero, if_false]
      cases hm : pastN l x with
      | zero => rfl
      | succ m =>
        simp only [Nat.add_one_ne_zero, if_false, Nat.add_sub_cancel]
        rfl
    · rfl

theorem find_drop (l : List Sg) (p x : Int) {t : Nat} (ht : t < l.length) : findP p (l.drop t) x = if (l.getD t zSg).st ≤ x then findP (l.getD t zSg).pd (l.drop (t + 1)) x else p := by
  rw [dropL l zSg ht]
  rfl

set_option maxHeartbeats 16000000 in
set_option maxRecDepth 100000 in
theorem findless_any (A : Option Addr) (l : List Sg) (c B i b1 b2 : Nat) (x : Int) (w : World) (h : LstV sgCells B w (.slice A l.length c) l) (hi : i < l.length) (h1 : w.cell? ⟨b1, 0, none⟩ = some (.slice A l.length c)) (h2 : w.cell? ⟨b2, 0, none⟩ = some (.int .i64 x)) :
    Calls Try.prog 25 #[.int .i64 i, .pointer (some ⟨b1, 0, none⟩), .pointer (some ⟨b2, 0, none⟩)] w fun e w' => e = .returned (.bool (decide (x < (l.getD i zSg).st))) ∧ ∃ q, w' = w.drewN q := by
  obtain ⟨b, off, rfl, hbl, x0, _⟩ := sg_at h hi
  have hI : (i : Int) < l.length := by omega
  generalize (l.getD i zSg).st = st at *
  clear h
  go_enter Try.func25, Try.ntmps25
  go_wp2_with fail
  go_quiet (fail)
  rename_i nq
  go_wp2_with fail
  go_ret
  exact ⟨rfl, nq, rfl⟩

set_option maxHeartbeats 16000000 in
set_option maxRecDepth 100000 in
/-- sort.Search of a place where a closure that only draws turns. -/
theorem search16_any (n k : Nat) (pa px : Value) (w : World) (hk : k ≤ n) (hn : n ≤ 140737488355328) (hf : ∀ (i q : Nat), i < n → Calls Try.prog 25 #[.int .i64 i, pa, px] (w.drewN q) fun e w' => e = .returned (.bool (decide (k ≤ i))) ∧ ∃ q', w' = (w.drewN q).drewN q') :
    Calls Try.prog 24 #[.int .i64 n, .func (.func 25) #[] #[pa, px]] w fun e w' => e = .returned (.int .i64 k) ∧ ∃ q, w' = w.drewN q := by
  have HF := Lib.hid hf
  clear hf
  go_enter Try.func24, Try.ntmps24
  go_wp2_with fail
  go_loopw [5, 6] (fun a b wr => ∃ lo hi q : Nat, lo ≤ k ∧ k ≤ hi ∧ hi ≤ n ∧ a = .int .i64 lo ∧ b = .int .i64 hi ∧ wr = w.drewN q) (fun a b _ => (intOf b - intOf a).toNat)
  case atStart => exact ⟨0, n, 0, Nat.zero_le _, hk, Nat.le_refl _, rfl, rfl, rfl⟩
  case round =>
    obtain ⟨lo, hi, q, hlo, hhi, hin, rfl, rfl, rfl⟩ := hrel
    by_cases hlt : lo < hi
    · have hI : (lo : Int) < hi := by omega
      have CL := Lib.hid (HF.out ((lo + hi) / 2) q (by omega))
      rw [show (((lo + hi) / 2 : Nat) : Int) = ((lo : Int) + (hi : Int)) / 2 by omega] at CL
      have hm1 : lo ≤ (lo + hi) / 2 := by omega
      have hm2 : (lo + hi) / 2 < hi := by omega
      have HM := Lib.hid (show ((lo : Int) + (hi : Int)) / 2 = (((lo + hi) / 2 : Nat) : Int) by omega)
      by_cases hd : k ≤ (lo + hi) / 2
      · rw [decide_eq_true hd] at CL
        go_wp2_with fail
        refine CL.out.mono ?_
        rintro e w2 ⟨rfl, q', rfl⟩
        rw [HM.out]
        generalize (lo + hi) / 2 = m at *
        go_wp2_with fail
        go_roundw
        case rel => exact ⟨lo, m, q + q', hlo, hd, by omega, rfl, rfl, rfl⟩
        case measure => simp [intOf]; omega
      · rw [decide_eq_false hd] at CL
        go_wp2_with fail
        refine CL.out.mono ?_
        rintro e w2 ⟨rfl, q', rfl⟩
        rw [HM.out]
        generalize (lo + hi) / 2 = m at *
        go_wp2_with fail
        go_roundw
        case rel => exact ⟨m + 1, hi, q + q', by omega, hhi, hin, by go_num, rfl, rfl⟩
        case measure => simp [intOf]; omega
    · have hI : ¬ (lo : Int) < hi := by omega
      obtain rfl : lo = hi := by omega
      obtain rfl : lo = k := by omega
      go_wp2_with fail
      go_ret
      exact ⟨rfl, q, rfl⟩

set_option maxHeartbeats 16000000 in
set_option maxRecDepth 100000 in
theorem find_any (A : Option Addr) (l : List Sg) (c B : Nat) (x : Int) (w : World) (h : LstV sgCells B w (.slice A l.length c) l) (hn : l.length ≤ 140737488355328) (hr : riseS l) :
    Calls Try.prog 12 #[.slice A l.length c, .int .i64 x] w fun e w' => e = .returned (.int .i64 (findP (-1) l x)) ∧ Below w.heap.size w w' := by
  have BA := Lib.hid (show Below w.heap.size w ((w.alloc (.cells #[.slice A l.length c] 22)).alloc (.cells #[.int .i64 x] 3)) from ((Below.refl w.heap.size w).alloc (Nat.le_refl _) _).alloc (by simp) _)
  have X1 := Lib.hid ((Whole.made w 22 #[.slice A l.length c] _ rfl).alloc (.cells #[.int .i64 x] 3))
  have X2 := Lib.hid (Whole.made (w.alloc (.cells #[.slice A l.length c] 22)) 3 #[.int .i64 x] (w.heap.size + 1) (by simp))
  have KB := Lib.hid (h.below BA.out)
  have SE := Lib.hid (search16_any l.length (pastN l x) (.pointer (some ⟨w.heap.size, 0, none⟩)) (.pointer (some ⟨w.heap.size + 1, 0, none⟩)) ((w.alloc (.cells #[.slice A l.length c] 22)).alloc (.cells #[.int .i64 x] 3)) (past_le l x) hn (fun i q hi => by
    have e := findless_any A l c B i w.heap.size (w.heap.size + 1) x (((w.alloc (.cells #[.slice A l.length c] 22)).alloc (.cells #[.int .i64 x] 3)).drewN q) (KB.out.below (below_drawn (Below.refl _ _) q)) hi (X1.out.cell 0) (X2.out.cell 0)
    rw [show decide (x < (l.getD i zSg).st) = decide (pastN l x ≤ i) by simp only [past_iff l x i hr hi]] at e
    exact e))
  have c0 : ((w.alloc (.cells #[.slice A l.length c] 22)).alloc (.cells #[.int .i64 x] 3)).cell? ⟨w.heap.size, 0, none⟩ = some (.slice A l.length c) := X1.out.cell 0
  have R0 := Lib.hid (find_past_at l (-1) x)
  have PL := Lib.hid (past_le l x)
  generalize findP (-1) l x = r at *
  generalize pastN l x = k at *
  generalize hV : ((w.alloc (.cells #[.slice A l.length c] 22)).alloc (.cells #[.int .i64 x] 3)) = V at *
  have HV := Lib.hid hV
  clear hV h X1 X2 hr
  rcases k with _ | m
  · have R := Lib.hid (R0.out.trans (if_pos rfl))
    clear R0
    have SE' := Lib.hid (show Calls Try.prog 24 #[.int .i64 l.length, .func (.func 25) #[] #[.pointer (some ⟨w.heap.size, 0, none⟩), .pointer (some ⟨w.heap.size + 1, 0, none⟩)]] V (fun e w' => e = .returned (.int .i64 0) ∧ ∃ q, w' = V.drewN q) from SE.out)
    clear SE
    go_enter Try.func12, Try.ntmps12
    go_wp2_with fail
    rw [HV.out]
    go_wp2_with fail
    refine SE'.out.mono ?_
    rintro e w1 ⟨rfl, q, rfl⟩
    go_wp2_with fail
    go_ret
    rw [R.out]
    exact ⟨rfl, below_drawn BA.out q⟩
  · have R := Lib.hid (R0.out.trans (if_neg (Nat.succ_ne_zero m)))
    have hm : m < l.length := PL.out
    obtain ⟨b, off, rfl, hbl, _, x1⟩ := sg_at KB.out hm
    rw [Nat.add_sub_cancel] at R
    generalize (l.getD m zSg).pd = pd at *
    have hI : (m : Int) < l.length := by omega
    have D0 := Lib.hid (fun q => show (V.drewN q).cell? ⟨w.heap.size, 0, none⟩ = some (.slice (some ⟨b, off, none⟩) l.length c) from c0)
    have D1 := Lib.hid (fun q => show (V.drewN q).cell? ⟨b, off + m * 2 + 1, none⟩ = some (.int .i64 pd) from x1)
    have SE' := Lib.hid (show Calls Try.prog 24 #[.int .i64 l.length, .func (.func 25) #[] #[.pointer (some ⟨w.heap.size, 0, none⟩), .pointer (some ⟨w.heap.size + 1, 0, none⟩)]] V (fun e w' => e = .returned (.int .i64 ((m : Int) + 1)) ∧ ∃ q, w' = V.drewN q) from SE.out)
    have dm : ((m : Int) + 1 == 0) = false := beq_eq_false_iff_ne.2 (by omega)
    clear SE R0 PL KB x1
    go_enter Try.func12, Try.ntmps12
    go_wp2_with fail
    rw [HV.out]
    go_wp2_with fail
    clear c0
    refine SE'.out.mono ?_
    rintro e w1 ⟨rfl, q, rfl⟩
    have c0 := D0.out q
    have x1 := D1.out q
    clear D0 D1
    go_wp2_with fail
    go_ret
    rw [R.out]
    exact ⟨rfl, below_drawn BA.out q⟩

set_option maxHeartbeats 16000000 in
set_option maxRecDepth 100000 in
theorem reffind_any (A : Option Addr) (l : List Sg) (c B : Nat) (x : Int) (w : World) (h : LstV sgCells B w (.slice A l.length c) l) (hn : l.length ≤ 140737488355328) :
    Calls Try.prog 13 #[.slice A l.length c, .int .i64 x] w fun e w' => e = .returned (.int .i64 (findP (-1) l x)) ∧ w = w' := by
  have H := Lib.hid h
  have R0 := Lib.hid (show findP (-1) l x = findP (-1) (l.drop 0) x from rfl)
  generalize findP (-1) l x = r at *
  clear h
  go_enter Try.func13, Try.ntmps13
  go_wp2_with fail
  go_loopw [5, 6] (fun p i wr => ∃ (t : Nat) (pp : Int), t ≤ l.length ∧ p = .int .i64 pp ∧ i = .int .i64 t ∧ r = findP pp (l.drop t) x ∧ w = wr) (fun _ i _ => l.length - (intOf i).toNat)
  case atStart => exact ⟨0, -1, Nat.zero_le _, rfl, rfl, R0.out, rfl⟩
  case round =>
    obtain ⟨t, pp, ht, rfl, rfl, hrt, rfl⟩ := hrel
    have RT := Lib.hid hrt
    clear hrt R0
    by_cases hlt : t < l.length
    · have hI : (t : Int) < l.length := by omega
      obtain ⟨b, off, rfl, hbl, x0, x1⟩ := sg_at H.out hlt
      have FD := Lib.hid (RT.out.trans (find_drop l pp x hlt))
      generalize l.getD t zSg = s at *
      obtain ⟨st, pd⟩ := s
      simp only at x0 x1 FD
      clear RT
      by_cases hs : st ≤ x
      · have ds : decide (st ≤ x) = true := decide_eq_true hs
        have RF := Lib.hid (FD.out.trans (if_pos hs))
        clear FD hs
        go_wp2_with fail
        go_roundw
        case rel => exact ⟨t + 1, pd, by omega, rfl, by go_num, RF.out, by first | rfl | trivial⟩
        case measure => simp [intOf]; omega
      · have ds : decide (st ≤ x) = false := decide_eq_false hs
        have R := Lib.hid (FD.out.trans (if_neg hs))
        clear FD hs
        go_wp2_with fail
        go_ret
        rw [R.out]
        exact ⟨rfl, rfl⟩
    · have hI : ¬ (t : Int) < l.length := by omega
      have R := Lib.hid (show r = pp from RT.out.trans (by rw [List.drop_of_length_le (by omega)]; rfl))
      clear RT
      go_wp2_with fail
      go_ret
      rw [R.out]
      exact ⟨rfl, rfl⟩
end Go.Proofs.Ytmahnhghfanhpaa
