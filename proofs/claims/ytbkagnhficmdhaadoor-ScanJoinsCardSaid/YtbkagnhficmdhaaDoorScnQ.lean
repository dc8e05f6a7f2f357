/- Scan, plain: the digits that the program hands to word.Parse and word.ParseHex. -/
import Derived.Test.YtbkagnhficmdhaaDoorScnP
import Derived.Test.YtbkagnhficmdhaaDoorScnF
import Derived.Lib.Case
import Derived.Lib.Repeat
namespace Go.Proofs.YtbkagnhficmdhaaDoor
open Go.ChangeShapes Go.WideShapes Go.ChangeAt Go.RowKit
set_option linter.unusedVariables false
set_option linter.unusedSimpArgs false

theorem trim_digits : ∀ (l : List UInt8), digAll (l.map fun b => (b.toNat : Int)) = true →
    digAll ((Lib.trimLeftB l 48).map fun b => (b.toNat : Int)) = true ∧ decSum ((Lib.trimLeftB l 48).map fun b => (b.toNat : Int)) = decSum (l.map fun b => (b.toNat : Int)) ∧ ((Lib.trimLeftB l 48).map fun b => (b.toNat : Int)).head? ≠ some 48
  | [], h => ⟨rfl, rfl, by simp [Lib.trimLeftB]⟩
  | c :: l, h => by
    have h' := digAll_cons.1 h
    by_cases hc : c = 48
    · have e : Lib.trimLeftB (c :: l) 48 = Lib.trimLeftB l 48 := by
        unfold Lib.trimLeftB
        rw [List.dropWhile_cons_of_pos (by simp [hc])]
      have ih := trim_digits l h'.2
      rw [e]
      refine ⟨ih.1, ih.2.1.trans ?_, ih.2.2⟩
      subst hc
      exact (decSum_zero _).symm
    · have e : Lib.trimLeftB (c :: l) 48 = c :: l := by
        unfold Lib.trimLeftB
        rw [List.dropWhile_cons_of_neg (by simp [hc])]
      rw [e]
      refine ⟨h, rfl, ?_⟩
      rw [List.map_cons, List.head?_cons]
      intro h1
      simp only [Option.some.injEq] at h1
      exact hc (UInt8.toNat_inj.1 (by show c.toNat = 48; omega))

theorem bys_mk (l : List UInt8) : bys ⟨l.toArray⟩ = l.map fun b => (b.toNat : Int) := by
  unfold bys
  rfl

theorem run_digAll (s : ByteArray) {k : Nat} (h : k ≤ s.size) : digAll (bys (s.extract k (endOf digN s k))) = true := by
  unfold digAll
  rw [List.all_eq_true]
  intro c hc
  obtain ⟨b, rfl, hb⟩ := run_all digN s.size s k h c hc
  have := digN_iff.1 hb
  simp only [Bool.and_eq_true, decide_eq_true_eq]
  omega

/-- The number that begins at a place, without a limit. -/
def realN (s : ByteArray) (k : Nat) : Nat := realF s.size s k 0

theorem numP_real (s : ByteArray) (k : Nat) : numP s k = if 2147483647 < realN s k then (badS k (endOf digN s k), 80) else (⟨2, k, endOf digN s k, s.extract k (endOf digN s k), realN s k⟩, 0) := by
  obtain ⟨h1, h2⟩ := satF_real s.size s k 0 0 (.inl rfl)
  unfold numP realN endOf
  rw [h1]
  unfold Near at h2
  rcases h2 with h2 | h2
  · rw [h2]
  · rw [if_pos h2.1, if_pos h2.2]

/-- What word.Parse makes of the digits. -/
def parsedV (n : Nat) : Value := if (n : Int) ≤ 2147483647 then .tuple #[.int .i32 n, .bool true] else .tuple #[.int .i32 0, .bool false]

theorem parse_trim (s : ByteArray) {k : Nat} (h : k ≤ s.size) (hne : Lib.trimLeftB (s.extract k (endOf digN s k)).data.toList 48 ≠ []) :
    parseRes (bys ⟨(Lib.trimLeftB (s.extract k (endOf digN s k)).data.toList 48).toArray⟩) = parsedV (realN s k) := by
  obtain ⟨h1, h2, h3⟩ := trim_digits _ (run_digAll s h)
  rw [bys_mk, parse_digits h1 (by simpa using hne) (.inl h3), h2]
  have := realF_sum s.size s k 0 h
  unfold parsedV realN
  rw [this]
  rfl

theorem parse_none (s : ByteArray) {k : Nat} (h : k ≤ s.size) (he : Lib.trimLeftB (s.extract k (endOf digN s k)).data.toList 48 = []) :
    parseRes (bys ⟨#[48]⟩) = parsedV (realN s k) := by
  obtain ⟨h1, h2, h3⟩ := trim_digits _ (run_digAll s h)
  rw [he] at h2
  have h0 := realF_sum s.size s k 0 h
  have hz : realN s k = 0 := by
    unfold realN
    have : (realF s.size s k 0 : Int) = 0 := by rw [h0]; exact h2.symm
    omega
  rw [hz, show bys ⟨#[48]⟩ = [48] from rfl, parse_digits (l := [48]) rfl (by simp) (.inr rfl)]
  rfl

/-! ### Digits of sixteen -/
theorem hexB_iff {c : Nat} : hexB c = true ↔ 0 ≤ hexD c := by
  unfold hexB digN hexD
  simp only [Bool.or_eq_true, Bool.and_eq_true, decide_eq_true_eq]
  split
  · rename_i h
    exact ⟨fun _ => by omega, fun _ => .inl h⟩
  · split
    · rename_i h
      exact ⟨fun _ => by omega, fun _ => .inr h⟩
    · exact ⟨fun h => by rcases h with h | h <;> contradiction, fun h => by omega⟩

theorem hexF_real : ∀ (f : Nat) (s : ByteArray) (k : Nat) (n v : Int), k ≤ s.size → n = v % 4294967296 →
    (hexF f s k n).1 = runF hexB f s k ∧ (hexF f s k n).2 = ((bys (s.extract k (runF hexB f s k))).foldl (fun v c => v * 16 + hexD c.toNat) v) % 4294967296
  | 0, s, k, n, v, h, hn => by
    unfold hexF runF
    rw [bys_nil]
    exact ⟨rfl, hn⟩
  | f + 1, s, k, n, v, h, hn => by
    unfold hexF runF
    by_cases h1 : k < s.size ∧ 0 ≤ hexD (byN s k)
    · rw [if_pos h1, if_pos ⟨h1.1, hexB_iff.2 h1.2⟩]
      have hb := runF_bound hexB f s (k + 1) h1.1
      have ih := hexF_real f s (k + 1) ((n * 16 + hexD (byN s k)) % 4294967296) (v * 16 + hexD (byN s k)) h1.1 (by omega)
      refine ⟨ih.1, ?_⟩
      rw [ih.2, bys_cons s (k := k) (e := runF hexB f s (k + 1)) (by omega) hb.2, List.foldl_cons]
      rfl
    · rw [if_neg h1, if_neg (fun h2 => h1 ⟨h2.1, hexB_iff.1 h2.2⟩), bys_nil]
      exact ⟨rfl, hn⟩

theorem hexval_lower (b : UInt8) (h : hexB b.toNat = true) : hexval ((Lib.lowerB b).toNat : Int) = hexD b.toNat := by
  have h0 : ((List.range 256).all fun c => !hexB c || decide (hexval ((Lib.lowerB c.toUInt8).toNat : Int) = hexD c)) = true := by kernel_rfl
  have h1 := List.all_eq_true.1 h0 b.toNat (List.mem_range.2 b.toNat_lt)
  rw [h] at h1
  simp only [Bool.not_true, Bool.false_or, decide_eq_true_eq] at h1
  rw [show b.toNat.toUInt8 = b from by simp] at h1
  exact h1

/-- The digits handed to word.ParseHex. -/
def padded (s : ByteArray) (k e : Nat) : ByteArray := ⟨(Lib.repeatL [48] (8 - (e - k))).toArray⟩ ++ ⟨(Lib.toLowerA (s.extract k e).data.toList).toArray⟩

theorem repeat_48 : ∀ k, Lib.repeatL [48] k = List.replicate k 48
  | 0 => rfl
  | k + 1 => by
    unfold Lib.repeatL
    rw [repeat_48 k, List.replicate_succ]
    rfl

theorem fold_zeros : ∀ (k : Nat), (List.replicate k (48 : Int)).foldl (fun w c => w * 16 + hexval c) 0 = 0
  | 0 => rfl
  | k + 1 => by
    rw [List.replicate_succ, List.foldl_cons]
    exact fold_zeros k

theorem lower_sum : ∀ (l : List UInt8) (v : Int), (∀ b ∈ l, hexB b.toNat = true) → ((Lib.toLowerA l).map fun b => (b.toNat : Int)).foldl (fun w c => w * 16 + hexval c) v = (l.map fun b => (b.toNat : Int)).foldl (fun v c => v * 16 + hexD c.toNat) v
  | [], v, _ => rfl
  | b :: l, v, h => by
    show (((Lib.toLowerA l).map fun b => (b.toNat : Int)).foldl (fun w c => w * 16 + hexval c) (v * 16 + hexval ((Lib.lowerB b).toNat : Int))) = ((l.map fun b => (b.toNat : Int)).foldl (fun v c => v * 16 + hexD c.toNat) (v * 16 + hexD ((b.toNat : Int)).toNat))
    rw [hexval_lower b (h b List.mem_cons_self), lower_sum l _ (fun c hc => h c (List.mem_cons_of_mem _ hc))]
    rfl

theorem lower_all (l : List UInt8) (h : ∀ b ∈ l, hexB b.toNat = true) : hexAll ((Lib.toLowerA l).map fun b => (b.toNat : Int)) = true := by
  unfold hexAll
  rw [List.all_eq_true]
  intro c hc
  obtain ⟨d, hd, rfl⟩ := List.mem_map.1 hc
  obtain ⟨b, hb, rfl⟩ := List.mem_map.1 (show d ∈ l.map Lib.lowerB from hd)
  rw [hexval_lower b (h b hb)]
  exact decide_eq_true (hexB_iff.1 (h b hb))

theorem run_bytes (s : ByteArray) {k : Nat} (h : k ≤ s.size) : ∀ b ∈ (s.extract k (endOf hexB s k)).data.toList, hexB b.toNat = true := by
  intro b hb
  obtain ⟨c, hc, hp⟩ := run_all hexB s.size s k h (b.toNat : Int) (List.mem_map.2 ⟨b, hb, rfl⟩)
  rw [show b.toNat = c by omega]
  exact hp

/-- The word that the digits from a place on are. -/
def realH (s : ByteArray) (k : Nat) : Int := (bys (s.extract k (endOf hexB s k))).foldl (fun v c => v * 16 + hexD c.toNat) 0

theorem padded_size (s : ByteArray) {k e : Nat} (h1 : k ≤ e) (h2 : e ≤ s.size) (h3 : e ≤ k + 8) : (padded s k e).size = 8 := by
  unfold padded
  rw [ByteArray.size_append]
  show (Lib.repeatL [48] (8 - (e - k))).toArray.size + (Lib.toLowerA (s.extract k e).data.toList).toArray.size = 8
  rw [repeat_48, List.size_toArray, List.size_toArray, List.length_replicate]
  unfold Lib.toLowerA
  rw [List.length_map, data_len, ByteArray.size_extract]
  omega

theorem padded_hex (s : ByteArray) {k : Nat} (h : k ≤ s.size) (h3 : endOf hexB s k ≤ k + 8) :
    hexRes (bys (padded s k (endOf hexB s k))) = .tuple #[.int .u32 (realH s k), .bool true] ∧ 0 ≤ realH s k ∧ realH s k ≤ 4294967295 := by
  have hb := endOf_bound hexB h
  have hr := run_bytes s h
  have hbys : bys (padded s k (endOf hexB s k)) = List.replicate (8 - (endOf hexB s k - k)) (48 : Int) ++ (Lib.toLowerA (s.extract k (endOf hexB s k)).data.toList).map fun b => (b.toNat : Int) := by
    unfold padded bys
    rw [ByteArray.data_append, Array.toList_append, List.map_append, repeat_48]
    congr 1
    show (List.replicate _ (48 : UInt8)).map _ = _
    rw [List.map_replicate]
    rfl
  have hall : hexAll (bys (padded s k (endOf hexB s k))) = true := by
    rw [hbys]
    unfold hexAll
    rw [List.all_append, Bool.and_eq_true]
    refine ⟨?_, lower_all _ hr⟩
    rw [List.all_eq_true]
    intro c hc
    rw [List.eq_of_mem_replicate hc]
    decide
  have hsum : hexSum (bys (padded s k (endOf hexB s k))) = realH s k := by
    rw [hbys]
    unfold hexSum realH
    rw [List.foldl_append, fold_zeros, lower_sum _ _ hr]
    rfl
  have hbd := hexSum_bound _ hall
  rw [bys_length, padded_size s hb.1 hb.2 h3] at hbd
  refine ⟨by rw [hexRes_yes hall, hsum], by omega, ?_⟩
  have : (16 : Int) ^ 8 = 4294967296 := by decide
  omega

theorem hexP_real (s : ByteArray) {f : Nat} (h : f < s.size) (hr : endOf hexB s (f + 1) ≤ f + 9 → 0 ≤ realH s (f + 1) ∧ realH s (f + 1) ≤ 4294967295) :
    hexP s f = if endOf hexB s (f + 1) = f + 1 ∨ f + 9 < endOf hexB s (f + 1) then (badS f (endOf hexB s (f + 1)), 80) else (⟨2, f, endOf hexB s (f + 1), s.extract f (endOf hexB s (f + 1)), sgn32 (realH s (f + 1))⟩, 0) := by
  obtain ⟨h1, h2⟩ := hexF_real s.size s (f + 1) 0 0 h rfl
  unfold hexP
  rw [h1, show runF hexB s.size s (f + 1) = endOf hexB s (f + 1) from rfl]
  split
  · rfl
  · rename_i hn
    have hb := hr (by omega)
    rw [h2]
    show ((⟨2, f, endOf hexB s (f + 1), s.extract f (endOf hexB s (f + 1)), sgn32 (realH s (f + 1) % 4294967296)⟩ : Sgn), (0 : Int)) = _
    rw [Int.emod_eq_of_lt hb.1 (by omega)]
end Go.Proofs.YtbkagnhficmdhaaDoor
