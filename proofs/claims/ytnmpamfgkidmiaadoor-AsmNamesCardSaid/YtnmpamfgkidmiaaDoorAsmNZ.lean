/- CutPlain InstrZ AsmP Build AsmQ0 AsmQ AsmN AsmO AsmX AsmY0 in one. -/
import Derived.Lib.SplitLaws
import Derived.Lib.IndexLaws
import Derived.Lib.IndexBytes
import Derived.Test.YtnmpamfgkidmiaaDoorInstrV
import Derived.Test.YtnmpamfgkidmiaaDoorInstrG
import Derived.Test.YtnmpamfgkidmiaaDoorAsmLM
import Derived.Test.YtnmpamfgkidmiaaDoorShelf
import Derived.Test.YtnmpamfgkidmiaaDoorLift
import Derived.Shelf.Strings.BuilderK
import Derived.Lib.Hide
import Derived.WalkKit
import Derived.BigCall
import Derived.Test.YtnmpamfgkidmiaaDoorWordB
import Derived.Deep.QuietTactic
import Derived.BigQuiet

/- Plain: a text cut at a byte. -/
namespace Go.Proofs.YtnmpamfgkidmiaaDoor
set_option linter.unusedVariables false
set_option linter.unusedSimpArgs false

/-- The pieces between the bytes c. -/
def cutL (c : UInt8) : List UInt8 → List (List UInt8)
  | [] => [[]]
  | b :: l => if b = c then [] :: cutL c l else (b :: (cutL c l).headD []) :: (cutL c l).tail

theorem cutL_cons (c b : UInt8) (l : List UInt8) : cutL c (b :: l) = if b = c then [] :: cutL c l else (b :: (cutL c l).headD []) :: (cutL c l).tail := rfl

theorem cutL_ne (c : UInt8) : ∀ l, cutL c l ≠ []
  | [] => by simp [cutL]
  | b :: l => by
    unfold cutL
    split <;> simp

theorem cutL_none {c : UInt8} : ∀ {l : List UInt8}, (∀ b ∈ l, b ≠ c) → cutL c l = [l]
  | [], _ => rfl
  | b :: l, h => by
    unfold cutL
    rw [if_neg (h b (by simp)), cutL_none (fun x hx => h x (by simp [hx]))]
    rfl

theorem cutL_app {c : UInt8} : ∀ {a : List UInt8} (r : List UInt8), (∀ b ∈ a, b ≠ c) → cutL c (a ++ c :: r) = a :: cutL c r
  | [], r, _ => by simp [cutL]
  | b :: a, r, h => by
    rw [List.cons_append, cutL_cons, if_neg (h b (by simp)), cutL_app r (fun x hx => h x (by simp [hx]))]
    rfl

theorem cutL_len (c : UInt8) : ∀ l, (cutL c l).length = l.count c + 1
  | [] => rfl
  | b :: l => by
    have ih := cutL_len c l
    unfold cutL
    by_cases h : b = c
    · subst h
      rw [if_pos rfl, List.length_cons, ih, List.count_cons_self]
    · rw [if_neg h, List.length_cons, List.length_tail, ih, List.count_cons_of_ne (by simpa using h)]
      rfl

theorem cutL_mem {c : UInt8} : ∀ {l p : List UInt8}, p ∈ cutL c l → ∀ b ∈ p, b ∈ l ∧ b ≠ c
  | [], p, h, b, hb => by
    simp [cutL] at h
    subst h
    cases hb
  | a :: l, p, h, b, hb => by
    unfold cutL at h
    split at h
    · rw [List.mem_cons] at h
      rcases h with rfl | h
      · cases hb
      · have := cutL_mem h b hb
        exact ⟨by simp [this.1], this.2⟩
    · rename_i hac
      rw [List.mem_cons] at h
      rcases h with rfl | h
      · rw [List.mem_cons] at hb
        rcases hb with rfl | hb
        · exact ⟨by simp, hac⟩
        · cases hc : cutL c l with
          | nil => exact absurd hc (cutL_ne c l)
          | cons x xs =>
            rw [hc] at hb
            have := cutL_mem (l := l) (p := x) (by rw [hc]; simp) b hb
            exact ⟨by simp [this.1], this.2⟩
      · have := cutL_mem (l := l) (p := p) (List.mem_of_mem_tail h) b hb
        exact ⟨by simp [this.1], this.2⟩

theorem index_no {c : UInt8} {l : List UInt8} (h : Lib.index l [c] = -1) : ∀ b ∈ l, b ≠ c := by
  rw [Lib.index_one] at h
  intro b hb e
  subst e
  obtain ⟨k, hk⟩ := List.getElem?_of_mem hb
  exact Lib.indexByte_none h k hk

theorem index_at {c : UInt8} {l : List UInt8} {i : Nat} (h : Lib.index l [c] = i) : l = l.take i ++ c :: l.drop (i + 1) ∧ ∀ b ∈ l.take i, b ≠ c := by
  rw [Lib.index_one] at h
  obtain ⟨h1, h2⟩ := Lib.indexByte_some h
  have hi : i < l.length := (List.getElem?_eq_some_iff.1 h1).1
  refine ⟨?_, fun b hb e => ?_⟩
  · have h3 : l[i] = c := (List.getElem?_eq_some_iff.1 h1).2
    conv => lhs; rw [← List.take_append_drop i l, List.drop_eq_getElem_cons hi, h3]
  · subst e
    obtain ⟨k, hk⟩ := List.getElem?_of_mem hb
    rw [List.getElem?_take] at hk
    split at hk
    · rename_i hki
      exact h2 k hki hk
    · cases hk

theorem splitK_cut (c : UInt8) : ∀ (k : Nat) (l : List UInt8), Lib.count l [c] = k → Lib.splitK [c] 0 k l = cutL c l
  | k, l, h => by
    by_cases hm : Lib.index l [c] = -1
    · rw [cutL_none (index_no hm)]
      cases k with
      | zero => rfl
      | succ k =>
        unfold Lib.splitK
        rw [if_pos (by rw [hm]; rfl)]
    · have hge := Lib.index_ge l [c]
      obtain ⟨i, hi⟩ : ∃ i : Nat, Lib.index l [c] = i := ⟨(Lib.index l [c]).toNat, by omega⟩
      have hh := Lib.count_hit (sub := [c]) (by simp) hi
      cases k with
      | zero => omega
      | succ k =>
        unfold Lib.splitK
        rw [if_neg (by rw [hi]; intro e; have := beq_iff_eq.1 e; omega), hi, Int.toNat_natCast, List.length_singleton, Nat.add_zero]
        obtain ⟨h1, h2⟩ := index_at hi
        rw [splitK_cut c k (l.drop (i + 1)) (by rw [List.length_singleton] at hh; omega)]
        conv => rhs; rw [h1]
        rw [cutL_app _ h2]

theorem splitB_cut (c : UInt8) (s : ByteArray) : (Lib.splitB ⟨#[c]⟩ 0 (Lib.countB s ⟨#[c]⟩) s).map (·.data.toList) = cutL c s.data.toList := by
  rw [Lib.splitB_data]
  exact splitK_cut c _ _ rfl

/-- Lines, each with a byte c behind it. -/
theorem cutL_lines {c : UInt8} : ∀ {ls : List (List UInt8)} (r : List UInt8), (∀ l ∈ ls, ∀ b ∈ l, b ≠ c) → cutL c ((ls.flatMap fun l => l ++ [c]) ++ r) = ls ++ cutL c r
  | [], r, _ => rfl
  | l :: ls, r, h => by
    rw [List.flatMap_cons, List.append_assoc, List.append_assoc, List.singleton_append, cutL_app _ (h l (by simp)), cutL_lines r (fun x hx => h x (by simp [hx]))]
    rfl

theorem cutL_many (c : UInt8) : ∀ n, cutL c (List.replicate n c) = List.replicate (n + 1) []
  | 0 => rfl
  | n + 1 => by
    rw [List.replicate_succ]
    unfold cutL
    rw [if_pos rfl, cutL_many c n]
    rfl

end Go.Proofs.YtnmpamfgkidmiaaDoor

/- Package instr, plain: an instruction's own fields' texts are that instruction. -/
namespace Go.Proofs.YtnmpamfgkidmiaaDoor
open Go.ChangeShapes Go.WideShapes Go.ChangeAt Go.RowKit
set_option linter.unusedVariables false

theorem has_app (p t : ByteArray) : Lib.hasPrefix (p ++ t).data.toList p.data.toList = true := by
  rw [ByteArray.data_append, Array.toList_append]
  unfold Lib.hasPrefix
  simp

theorem rest_app (p t : ByteArray) : restOf p (p ++ t) = t := by
  apply ByteArray.ext
  apply Array.ext'
  show Lib.trimPrefix (p ++ t).data.toList p.data.toList = _
  unfold Lib.trimPrefix
  rw [if_pos (has_app p t), ByteArray.data_append, Array.toList_append]
  simp

theorem pf_text (p : ByteArray) (r : Int) (h0 : -2147483648 ≤ r) (h1 : r ≤ 2147483647) : pfB p (p ++ strOfNums (textNums r)) = true ∧ pfN p (p ++ strOfNums (textNums r)) = r := by
  have hp := parseOf_text r (by omega) (by omega)
  have hk : parseOk (bys (restOf p (p ++ strOfNums (textNums r)))) = true := by
    rw [rest_app, bys_nums _ (textNums_byte r)]
    exact yes_text (digAll_text r) (by omega) (by omega) (by rw [hp])
  obtain ⟨a, b⟩ := pf_yes (has_app p (strOfNums (textNums r))) hk
  refine ⟨a, b.trans ?_⟩
  rw [rest_app, bys_nums _ (textNums_byte r)]
  exact hp

theorem pf_nt (r : Int) (h0 : -2147483648 ≤ r) (h1 : r ≤ 2147483647) : pfB ⟨#[]⟩ (nt r) = true ∧ pfN ⟨#[]⟩ (nt r) = r := by
  have h := pf_text ⟨#[]⟩ r h0 h1
  rw [show (⟨#[]⟩ : ByteArray) ++ strOfNums (textNums r) = nt r from ByteArray.empty_append] at h
  exact h

theorem good_imm {s a b c n : Int} (h : GoodP s a b c n) (h1 : 0 < bitsOf s) (h2 : s ≤ 8) : -2147483648 ≤ n ∧ n ≤ 2147483647 := by
  obtain ⟨_, _, _, _, _, _, _, _, _, l, u⟩ := h
  unfold lowOf at l
  unfold highOf at u
  omega

theorem own_texts {op a b c n : Int} (h : checkOf op a b c n = 0) :
    fillOk op (fieldTexts op a b c n) = true ∧ fa op (fieldTexts op a b c n) = a ∧ fb op (fieldTexts op a b c n) = b ∧ fc op (fieldTexts op a b c n) = c ∧ fn op (fieldTexts op a b c n) = n := by
  obtain ⟨hs, hg⟩ := good_of_check h
  have hr := shapeOf_range op
  have hG := hg
  obtain ⟨a0, a1, b0, b1, c0, c1, ga, gb, gc, gl, gh⟩ := hg
  have hgl : bitsOf (shapeOf op) = 0 → n = 0 := by
    unfold lowOf at gl
    unfold highOf at gh
    unfold bitsOf
    omega
  have P := fun k r (h0 : 0 ≤ r) (h1 : r ≤ 15) => pf_text (pfx op k) r (by omega) (by omega)
  have hk : ∀ ss, (checkOf op (fa op ss) (fb op ss) (fc op ss) (fn op ss) = 0 → ss.length = fillCount op → ka op ss = true → kb op ss = true → kc op ss = true → kn op ss = true → fillOk op ss = true) := fun ss h6 h1 h2 h3 h4 h5 => fillOk_yes hs h1 h2 h3 h4 h5 h6
  suffices H : ∀ ss, ss = fieldTexts op a b c n → ss.length = fillCount op ∧ ka op ss = true ∧ kb op ss = true ∧ kc op ss = true ∧ kn op ss = true ∧ fa op ss = a ∧ fb op ss = b ∧ fc op ss = c ∧ fn op ss = n by
    obtain ⟨k0, k1, k2, k3, k4, k5, k6, k7, k8⟩ := H _ rfl
    exact ⟨hk _ (by rw [k5, k6, k7, k8]; exact h) k0 k1 k2 k3 k4, k5, k6, k7, k8⟩
  clear hk h
  intro ss hss
  rcases (show (regsOf (shapeOf op) = 0 ∧ bitsOf (shapeOf op) = 0) ∨ (regsOf (shapeOf op) = 0 ∧ 0 < bitsOf (shapeOf op)) ∨ (regsOf (shapeOf op) = 1 ∧ bitsOf (shapeOf op) = 0) ∨ (regsOf (shapeOf op) = 1 ∧ 0 < bitsOf (shapeOf op)) ∨ (regsOf (shapeOf op) = 2 ∧ 0 < bitsOf (shapeOf op)) ∨ (regsOf (shapeOf op) = 3 ∧ bitsOf (shapeOf op) = 0) by unfold regsOf bitsOf; omega) with ⟨g1, g2⟩ | ⟨g1, g2⟩ | ⟨g1, g2⟩ | ⟨g1, g2⟩ | ⟨g1, g2⟩ | ⟨g1, g2⟩
  all_goals
    unfold fieldTexts at hss
    unfold fillCount ka kb kc kn fa fb fc fn
    rw [g1] at hss ga gb gc ⊢
  · rw [g2] at hss ⊢
    subst hss
    refine ⟨rfl, rfl, rfl, rfl, rfl, ?_, ?_, ?_, ?_⟩ <;> simp <;> omega
  · obtain ⟨n0, n1⟩ := good_imm hG g2 hr.2
    obtain ⟨x, y⟩ := pf_nt n n0 n1
    rw [if_pos g2] at hss ⊢
    rw [if_pos g2, if_pos g2]
    subst hss
    exact ⟨rfl, rfl, rfl, rfl, x, by simp; omega, by simp; omega, by simp; omega, y⟩
  · obtain ⟨x, y⟩ := P 0 a a0 a1
    rw [g2] at hss ⊢
    subst hss
    exact ⟨rfl, x, rfl, rfl, rfl, y, by simp; omega, by simp; omega, by simp; omega⟩
  · obtain ⟨x, y⟩ := P 0 a a0 a1
    obtain ⟨n0, n1⟩ := good_imm hG g2 hr.2
    obtain ⟨x4, y4⟩ := pf_nt n n0 n1
    rw [if_pos g2] at hss ⊢
    rw [if_pos g2, if_pos g2]
    subst hss
    exact ⟨rfl, x, rfl, rfl, x4, y, by simp; omega, by simp; omega, y4⟩
  · obtain ⟨x, y⟩ := P 0 a a0 a1
    obtain ⟨x2, y2⟩ := P 1 b b0 b1
    obtain ⟨n0, n1⟩ := good_imm hG g2 hr.2
    obtain ⟨x4, y4⟩ := pf_nt n n0 n1
    rw [if_pos g2] at hss ⊢
    rw [if_pos g2, if_pos g2]
    subst hss
    exact ⟨rfl, x, x2, rfl, x4, y, y2, by simp; omega, y4⟩
  · obtain ⟨x, y⟩ := P 0 a a0 a1
    obtain ⟨x2, y2⟩ := P 1 b b0 b1
    obtain ⟨x3, y3⟩ := P 2 c c0 c1
    rw [g2] at hss ⊢
    subst hss
    exact ⟨rfl, x, x2, x3, rfl, y, y2, y3, by simp; omega⟩
end Go.Proofs.YtnmpamfgkidmiaaDoor

/- Asm, plain: the lines that Source writes are read as their words. -/
namespace Go.Proofs.YtnmpamfgkidmiaaDoor
open Go.ChangeShapes Go.WideShapes Go.ChangeAt Go.RowKit
set_option linter.unusedVariables false
set_option linter.unusedSimpArgs false

/-- A byte of a field: a minus sign, an r, a digit. -/
def FbB (b : UInt8) : Prop := b.toNat = 45 ∨ b.toNat = 114 ∨ (48 ≤ b.toNat ∧ b.toNat ≤ 57)

/-- The text of a field. -/
def Fc (s : ByteArray) : Prop := s.data.toList ≠ [] ∧ ∀ b ∈ s.data.toList, FbB b

theorem text_class (n : Int) : ∀ c ∈ textNums n, c = 45 ∨ (48 ≤ c ∧ c ≤ 57) := by
  intro c hc
  unfold textNums at hc
  split at hc
  · rcases List.mem_cons.1 hc with rfl | hc
    · exact .inl rfl
    · exact .inr (decF_digit _ _ c hc)
  · exact .inr (decF_digit _ _ c hc)

theorem text_some (n : Int) : textNums n ≠ [] := by
  have := decF_length 20 n.natAbs (by decide)
  unfold textNums
  split
  · simp
  · intro e
    rw [e] at this
    simp at this

theorem fc_bys {t : ByteArray} {n : Int} (h : bys t = textNums n) : t.data.toList ≠ [] ∧ ∀ b ∈ t.data.toList, b.toNat = 45 ∨ (48 ≤ b.toNat ∧ b.toNat ≤ 57) := by
  constructor
  · intro e
    have : bys t = [] := by
      unfold bys
      rw [e]
      rfl
    rw [h] at this
    exact text_some n this
  · intro b hb
    have h1 : ((b.toNat : Nat) : Int) ∈ bys t := List.mem_map.2 ⟨b, hb, rfl⟩
    rw [h] at h1
    have := text_class n _ h1
    omega

theorem parse_own {l : List Int} (h : parseOk l = true) : l = textNums (parseOf l) := by
  unfold parseOk at h
  simp only [Bool.and_eq_true, decide_eq_true_eq] at h
  exact h.2.symm

theorem pre_split {p s : List UInt8} (h : Lib.hasPrefix s p = true) : s = p ++ Lib.trimPrefix s p := by
  unfold Lib.trimPrefix
  rw [if_pos h]
  unfold Lib.hasPrefix at h
  obtain ⟨t, rfl⟩ := List.isPrefixOf_iff_prefix.1 h
  simp

theorem pf_split {p s : ByteArray} (h : pfB p s = true) : s.data.toList = p.data.toList ++ (restOf p s).data.toList ∧ bys (restOf p s) = textNums (parseOf (bys (restOf p s))) := by
  unfold pfB at h
  rw [Bool.and_eq_true] at h
  refine ⟨?_, parse_own h.2⟩
  have := pre_split h.1
  unfold restOf
  simpa using this

theorem fc_pf {p s : ByteArray} (hp : p = ⟨#[]⟩ ∨ p = ⟨#[114]⟩) (h : pfB p s = true) : Fc s := by
  obtain ⟨h1, h2⟩ := pf_split h
  obtain ⟨h3, h4⟩ := fc_bys h2
  unfold Fc
  rw [h1]
  constructor
  · simp [h3]
  · intro b hb
    rcases List.mem_append.1 hb with hb | hb
    · rcases hp with rfl | rfl
      · simp at hb
      · simp at hb
        subst hb
        exact .inr (.inl rfl)
    · rcases h4 b hb with h | h
      · exact .inl h
      · exact .inr (.inr h)

theorem pfx_or (op k : Int) : pfx op k = ⟨#[]⟩ ∨ pfx op k = ⟨#[114]⟩ := by
  unfold pfx
  split
  · exact .inl rfl
  · exact .inr rfl

/-- A number is no name. -/
theorem num_no_name {s : ByteArray} (h : pfB ⟨#[]⟩ s = true) : nameB s = false := by
  obtain ⟨h1, h2⟩ := pf_split h
  obtain ⟨h3, h4⟩ := fc_bys h2
  have e : s.data.toList = (restOf ⟨#[]⟩ s).data.toList := h1
  rw [← e] at h3 h4
  have hs : 0 < s.size := by
    rw [Lib.size_eq]
    exact List.length_pos_iff.2 h3
  have hg := get_bang (s := s) (k := 0) hs
  have hm : s[0] ∈ s.data.toList := by
    have : s[0] = s.data[0] := rfl
    rw [this]
    exact Array.getElem_mem_toList _
  rcases h4 _ hm with h | h
  · refine nameB_no (i := 0) hs ?_
    rw [hg, h]
    decide
  · unfold nameB
    rw [hg]
    have : digI ((s[0].toNat : Nat) : Int) = true := by
      unfold digI
      rw [decide_eq_true (by omega), decide_eq_true (by omega)]
      rfl
    rw [this]
    simp

theorem fillCount_le (op : Int) : fillCount op ≤ 3 := by
  unfold fillCount
  rcases shape_cases op with h | h | h | h | h | h | h | h | h | h <;> rw [h] <;> decide

theorem fill_parts {op : Int} {ss : List ByteArray} (h : fillOk op ss = true) : shapeOf op ≠ -1 ∧ ss.length = fillCount op ∧ ka op ss = true ∧ kb op ss = true ∧ kc op ss = true ∧ kn op ss = true := by
  unfold fillOk at h
  simp only [Bool.and_eq_true, decide_eq_true_eq] at h
  exact ⟨h.1, h.2.1, h.2.2.1, h.2.2.2.1, h.2.2.2.2.1, h.2.2.2.2.2.1⟩

/-- Fields that are taken, one by one. -/
theorem fields_fc {op : Int} {ss : List ByteArray} (h : fillOk op ss = true) : ∀ f ∈ ss, Fc f := by
  obtain ⟨h0, h1, h2, h3, h4, h5⟩ := fill_parts h
  intro f hf
  obtain ⟨j, hj, rfl⟩ := List.getElem_of_mem hf
  have hd : ss.getD j ⟨#[]⟩ = ss[j] := by
    rw [List.getD_eq_getElem?_getD, List.getElem?_eq_getElem hj]
    rfl
  rw [← hd]
  unfold fillCount at h1
  unfold ka at h2
  unfold kb at h3
  unfold kc at h4
  unfold kn at h5
  have hr : 0 ≤ regsOf (shapeOf op) ∧ regsOf (shapeOf op) ≤ 3 := by
    unfold regsOf
    split
    · decide
    · split
      · decide
      · split <;> decide
  by_cases e : j = (regsOf (shapeOf op)).toNat
  · have hb : 0 < bitsOf (shapeOf op) := by
      split at h1 <;> omega
    rw [if_pos hb, ← e] at h5
    exact fc_pf (.inl rfl) h5
  · have hlt : j < (regsOf (shapeOf op)).toNat := by
      split at h1 <;> omega
    have hj3 : j = 0 ∨ j = 1 ∨ j = 2 := by omega
    rcases hj3 with rfl | rfl | rfl
    · rw [if_pos (by omega)] at h2
      exact fc_pf (pfx_or _ _) h2
    · rw [if_pos (by omega)] at h3
      exact fc_pf (pfx_or _ _) h3
    · rw [if_pos (by omega)] at h4
      exact fc_pf (pfx_or _ _) h4

theorem takes_shape {op : Int} (h : takesB op = true) : (op = 20 ∨ op = 21 ∨ op = 22 ∨ op = 23) ∧ 0 < bitsOf (shapeOf op) ∧ fillCount op = (regsOf (shapeOf op)).toNat + 1 := by
  unfold takesB at h
  simp only [Bool.and_eq_true, decide_eq_true_eq] at h
  rcases (show op = 20 ∨ op = 21 ∨ op = 22 ∨ op = 23 by omega) with rfl | rfl | rfl | rfl
  · exact ⟨.inl rfl, by decide, by decide⟩
  · exact ⟨.inr (.inl rfl), by decide, by decide⟩
  · exact ⟨.inr (.inr (.inl rfl)), by decide, by decide⟩
  · exact ⟨.inr (.inr (.inr rfl)), by decide, by decide⟩

/-- Fields that are taken end in no name. -/
theorem isNm_own {op : Int} {ss : List ByteArray} (h : fillOk op ss = true) : isNm op ss = false := by
  letI : LinesAt := ⟨0, #[]⟩
  cases ht : takesB op with
  | false => exact isNm_takes ss ht
  | true =>
    obtain ⟨_, hb, hc⟩ := takes_shape ht
    obtain ⟨h0, h1, h2, h3, h4, h5⟩ := fill_parts h
    unfold kn at h5
    rw [if_pos hb] at h5
    refine isNm_name op ?_
    unfold lastL
    rw [h1, hc, Nat.add_sub_cancel]
    exact num_no_name h5

/-! ### Fields, joined and split -/
def joinL : List (List UInt8) → List UInt8
  | [] => []
  | [f] => f
  | f :: g :: fs => f ++ 44 :: 32 :: joinL (g :: fs)

theorem index_two : ∀ (a r : List UInt8), (∀ b ∈ a, b ≠ 44) → Lib.index (a ++ 44 :: 32 :: r) [44, 32] = a.length
  | [], r, _ => by simp [Lib.index, List.isPrefixOf]
  | b :: a, r, h => by
    have hb : b ≠ 44 := h b (by simp)
    have ih := index_two a r (fun x hx => h x (by simp [hx]))
    have hp : ([44, 32] : List UInt8).isPrefixOf (b :: (a ++ 44 :: 32 :: r)) = false := by simp [List.isPrefixOf, Ne.symm hb]
    rw [List.cons_append]
    unfold Lib.index
    rw [hp, ih]
    have : ((a.length : Int) == -1) = false := by rw [beq_eq_false_iff_ne]; omega
    simp [this]

theorem index_two_no : ∀ (a : List UInt8), (∀ b ∈ a, b ≠ 44) → Lib.index a [44, 32] = -1
  | [], _ => by simp [Lib.index]
  | b :: a, h => by
    have hb : b ≠ 44 := h b (by simp)
    have ih := index_two_no a (fun x hx => h x (by simp [hx]))
    have hp : ([44, 32] : List UInt8).isPrefixOf (b :: a) = false := by simp [List.isPrefixOf, Ne.symm hb]
    unfold Lib.index
    rw [hp, ih]
    rfl

theorem splitK_two (k : Nat) (a r : List UInt8) (h : ∀ b ∈ a, b ≠ 44) : Lib.splitK [44, 32] 0 (k + 1) (a ++ 44 :: 32 :: r) = a :: Lib.splitK [44, 32] 0 k r := by
  conv => lhs; unfold Lib.splitK
  rw [index_two a r h, if_neg (by intro e; have := beq_iff_eq.1 e; omega), Int.toNat_natCast, Nat.add_zero]
  have e : (a ++ 44 :: 32 :: r).drop (a.length + ([44, 32] : List UInt8).length) = r := by
    rw [show a ++ 44 :: 32 :: r = (a ++ [44, 32]) ++ r by simp]
    rw [show a.length + ([44, 32] : List UInt8).length = (a ++ [44, 32]).length by simp]
    exact List.drop_left
  rw [e, List.take_left]

theorem splitK_no (k : Nat) (a : List UInt8) (h : ∀ b ∈ a, b ≠ 44) : Lib.splitK [44, 32] 0 k a = [a] := by
  cases k with
  | zero => rfl
  | succ k =>
    unfold Lib.splitK
    rw [index_two_no a h]
    rfl

theorem split_join : ∀ (fs : List (List UInt8)) (k : Nat), fs ≠ [] → fs.length ≤ k + 1 → (∀ f ∈ fs, ∀ b ∈ f, b ≠ 44) → Lib.splitK [44, 32] 0 k (joinL fs) = fs
  | [], _, h, _, _ => absurd rfl h
  | [f], k, _, _, h => splitK_no k f (h f (by simp))
  | f :: g :: fs, 0, _, hl, _ => by simp at hl
  | f :: g :: fs, k + 1, _, hl, h => by
    show Lib.splitK [44, 32] 0 (k + 1) (f ++ 44 :: 32 :: joinL (g :: fs)) = _
    rw [splitK_two k f _ (h f (by simp)), split_join (g :: fs) k (by simp) (by simpa using hl) (fun x hx => h x (by simp at hx ⊢; exact .inr hx))]

theorem split_join_more : ∀ (fs : List (List UInt8)) (k : Nat), k + 1 < fs.length → (∀ f ∈ fs, ∀ b ∈ f, b ≠ 44) → (Lib.splitK [44, 32] 0 k (joinL fs)).length = k + 1
  | [], k, hl, _ => by simp at hl
  | [f], k, hl, _ => by simp at hl
  | f :: g :: fs, 0, _, _ => rfl
  | f :: g :: fs, k + 1, hl, h => by
    show (Lib.splitK [44, 32] 0 (k + 1) (f ++ 44 :: 32 :: joinL (g :: fs))).length = _
    rw [splitK_two k f _ (h f (by simp)), List.length_cons, split_join_more (g :: fs) k (by simpa using hl) (fun x hx => h x (by simp at hx ⊢; exact .inr hx))]

theorem joinL_len : ∀ (fs : List (List UInt8)), fs.length ≤ (joinL fs).length + 1
  | [] => by simp
  | [f] => by simp
  | f :: g :: fs => by
    have := joinL_len (g :: fs)
    show _ ≤ (f ++ 44 :: 32 :: joinL (g :: fs)).length + 1
    simp only [List.length_cons, List.length_append] at this ⊢
    omega

theorem dinj {a b : ByteArray} (h : a.data.toList = b.data.toList) : a = b := by
  letI : LinesAt := ⟨0, #[]⟩
  exact data_inj h

theorem bytes_map {l m : List ByteArray} (h : l.map (·.data.toList) = m.map (·.data.toList)) : l = m := by
  induction l generalizing m with
  | nil =>
    cases m with
    | nil => rfl
    | cons _ _ => cases h
  | cons a l ih =>
    cases m with
    | nil => cases h
    | cons b m =>
      rw [List.map_cons, List.map_cons] at h
      injection h with h1 h2
      rw [dinj h1, ih h2]

theorem fieldsS_data (s : ByteArray) : (fieldsS s).map (·.data.toList) = Lib.splitK [44, 32] 0 (min 4 (s.size + 1) - 1) s.data.toList := by
  unfold fieldsS
  rw [Lib.splitB_data]

/-- Joined fields are split into just those, if they are no more than four. -/
theorem fieldsS_join {s : ByteArray} {fs : List ByteArray} (hs : s.data.toList = joinL (fs.map (·.data.toList))) (h0 : fs ≠ []) (h4 : fs.length ≤ 4) (h : ∀ f ∈ fs, ∀ b ∈ f.data.toList, b ≠ 44) : fieldsS s = fs := by
  apply bytes_map
  have hz := joinL_len (fs.map (·.data.toList))
  rw [← hs, ← Lib.size_eq, List.length_map] at hz
  rw [fieldsS_data, hs]
  refine split_join _ _ (by simpa using h0) (by rw [List.length_map]; omega) ?_
  intro f hf
  obtain ⟨g, hg, rfl⟩ := List.mem_map.1 hf
  exact h g hg

theorem fieldsS_more {s : ByteArray} {fs : List ByteArray} (hs : s.data.toList = joinL (fs.map (·.data.toList))) (h4 : 4 < fs.length) (h : ∀ f ∈ fs, ∀ b ∈ f.data.toList, b ≠ 44) : (fieldsS s).length = 4 := by
  have hz := joinL_len (fs.map (·.data.toList))
  rw [← hs, ← Lib.size_eq, List.length_map] at hz
  have : ((fieldsS s).map (·.data.toList)).length = 4 := by
    rw [fieldsS_data, hs, show min 4 (s.size + 1) - 1 = 3 by omega]
    refine split_join_more _ 3 (by rw [List.length_map]; omega) ?_
    intro f hf
    obtain ⟨g, hg, rfl⟩ := List.mem_map.1 hf
    exact h g hg
  simpa using this

/-! ### A line of Source -/
/-- The line of a word in Source's text. -/
def srcL (x : Int) : ByteArray := if OkX x then decText x else (⟨#[87, 79, 82, 68, 32]⟩ : ByteArray) ++ hexStr x

def nmOk (x : ByteArray) : Bool := !x.data.toList.isEmpty && ((x.data.toList.all fun b => decide (65 ≤ b.toNat) && decide (b.toNat ≤ 90)) && !(x.data.toList == [87, 79, 82, 68]))

theorem names_ok : ((List.range 35).all fun k => decide (k < 1) || nmOk (nameOf (k : Nat))) = true := by decide +kernel

theorem name_ok {op : Int} (h1 : 1 ≤ op) (h2 : op ≤ 34) : nmOk (nameOf op) = true := by
  obtain ⟨k, rfl⟩ := Int.eq_ofNat_of_zero_le (show 0 ≤ op by omega)
  have h := List.all_eq_true.1 names_ok k (List.mem_range.2 (by omega))
  rw [Bool.or_eq_true] at h
  rcases h with h | h
  · have := of_decide_eq_true h
    omega
  · exact h

theorem textOf_data {op a b c n : Int} (h : (fieldTexts op a b c n).length ≤ 3) : (textOf op a b c n).data.toList = (nameOf op).data.toList ++ (match fieldTexts op a b c n with | [] => [] | f :: fs => 32 :: joinL ((f :: fs).map (·.data.toList))) := by
  unfold textOf
  generalize fieldTexts op a b c n = fs at *
  match fs, h with
  | [], _ => simp [joinUp]
  | [x], _ => simp [joinUp, joinL]
  | [x, y], _ => simp [joinUp, joinL]
  | [x, y, z], _ => simp [joinUp, joinL]
  | x :: y :: z :: u :: l, h => simp at h

theorem fields_all {op : Int} {ss : List ByteArray} (h : fillOk op ss = true) : ∀ f ∈ ss, ∀ b ∈ f.data.toList, b ≠ 44 ∧ b ≠ 32 ∧ b ≠ 58 := by
  intro f hf b hb
  rcases (fields_fc h f hf).2 b hb with h | h | h <;> refine ⟨?_, ?_, ?_⟩ <;> rintro rfl <;> simp at h

theorem joinL_all {p : UInt8 → Prop} (h44 : p 44) (h32 : p 32) : ∀ {fs : List (List UInt8)}, (∀ f ∈ fs, ∀ b ∈ f, p b) → ∀ b ∈ joinL fs, p b
  | [], _, b, hb => by cases hb
  | [f], h, b, hb => h f (by simp) b hb
  | f :: g :: fs, h, b, hb => by
    have hb' : b ∈ f ++ 44 :: 32 :: joinL (g :: fs) := hb
    rw [List.mem_append, List.mem_cons, List.mem_cons] at hb'
    rcases hb' with hb | rfl | rfl | hb
    · exact h f (by simp) b hb
    · exact h44
    · exact h32
    · exact joinL_all h44 h32 (fun x hx => h x (by simp at hx ⊢; exact .inr hx)) b hb

theorem suffix_no {l : List UInt8} (h : ∀ b ∈ l, b ≠ 58) : Lib.hasSuffix l [58] = false := by
  cases hs : Lib.hasSuffix l [58] with
  | false => rfl
  | true =>
    unfold Lib.hasSuffix at hs
    obtain ⟨t, rfl⟩ := List.isSuffixOf_iff_suffix.1 hs
    exact absurd rfl (h 58 (by simp))

theorem prefix_no {x c : UInt8} {l : List UInt8} (h : x ≠ c) : Lib.hasPrefix (x :: l) [c] = false := by
  unfold Lib.hasPrefix
  simp [List.isPrefixOf, Ne.symm h]

theorem okX_check {x : Int} (h0 : 0 ≤ x) (h1 : x ≤ 4294967295) (h : OkX x) : checkOf (x / 16777216) (decA x) (decB x) (decC x) (decN x) = 0 ∧ encOf (x / 16777216) (decA x) (decB x) (decC x) (decN x) = x := by
  have hg := decGood h0 h1 h.1
  have hc := checkOf_good rfl h.1 hg
  refine ⟨hc, ?_⟩
  unfold encOf
  rw [if_pos hc]
  exact h.2

theorem hexStr_no58 (n : Int) : ∀ b ∈ (hexStr n).data.toList, b ≠ (58 : UInt8) := by
  intro b hb he
  subst he
  have h1 : (58 : Int) ∈ bys (hexStr n) := by
    unfold bys
    exact List.mem_map.2 ⟨58, hb, rfl⟩
  unfold hexStr at h1
  rw [bys_nums _ (hexNums_byte n)] at h1
  unfold hexNums hexdg at h1
  simp only [List.mem_cons, List.not_mem_nil, or_false] at h1
  rcases h1 with h | h | h | h | h | h | h | h <;> (split at h <;> omega)

theorem mk_eta (s : ByteArray) : (⟨s.data.toList.toArray⟩ : ByteArray) = s := by
  cases s
  simp

theorem readS_src [LinesAt] {x : Int} (h0 : 0 ≤ x) (h1 : x ≤ 4294967295) (k : Nat) (st : AsmS) : readS (srcL x) k st = addS x st := by
  unfold readS srcL
  by_cases hx : OkX x
  · rw [if_pos hx]
    obtain ⟨hc, he⟩ := okX_check h0 h1 hx
    have hop := shapeOf_some hx.1
    have hnm := name_ok hop.1 hop.2
    unfold decText
    generalize hopg : x / 16777216 = op at *
    generalize decA x = a at *
    generalize decB x = b at *
    generalize decC x = c at *
    generalize decN x = n at *
    obtain ⟨k0, k1, k2, k3, k4⟩ := own_texts hc
    have hall := fields_all k0
    have hl3 : (fieldTexts op a b c n).length ≤ 3 := by
      rw [(fill_parts k0).2.1]
      exact fillCount_le op
    have hd := textOf_data (op := op) (a := a) (b := b) (c := c) (n := n) hl3
    unfold nmOk at hnm
    simp only [Bool.and_eq_true, Bool.not_eq_true', List.all_eq_true, decide_eq_true_eq] at hnm
    obtain ⟨hn1, hn2, hn3⟩ := hnm
    have hopn : opOf (nameOf op) = op := by
      obtain ⟨j, rfl⟩ := Int.eq_ofNat_of_zero_le (show 0 ≤ op by omega)
      exact opFrom_at _ 34 1 j (by decide) (by decide) (by omega) (by omega) rfl
    have hins : ∀ k st, instS op (fieldTexts op a b c n) k st = addS x st := by
      intro k st
      rw [instS_no (isNm_own k0), if_pos k0]
      unfold wordF
      rw [k1, k2, k3, k4, he]
    have hb32 : ∀ b ∈ (nameOf op).data.toList, b ≠ 32 := fun b hb e => by
      have := hn2 b hb
      subst e
      simp at this
    have hnmc : ∃ y l, (nameOf op).data.toList = y :: l := by
      cases hh : (nameOf op).data.toList with
      | nil => rw [hh] at hn1; cases hn1
      | cons y l => exact ⟨y, l, rfl⟩
    have hlin : lnF (textOf op a b c n) = nameOf op ∧ (if lnB (textOf op a b c n) = true then fieldsS (lnR (textOf op a b c n)) else []) = fieldTexts op a b c n := by
      unfold lnF lnB lnR
      rw [hd]
      cases hf : fieldTexts op a b c n with
      | nil =>
        have hcut : Lib.cut ((nameOf op).data.toList ++ []) [32] = ((nameOf op).data.toList, [], false) := by
          rw [List.append_nil]
          exact cut_none _ _ hb32
        show (⟨(Lib.cut ((nameOf op).data.toList ++ []) [32]).1.toArray⟩ : ByteArray) = _ ∧ (if (Lib.cut ((nameOf op).data.toList ++ []) [32]).2.2 = true then _ else _) = _
        rw [hcut]
        exact ⟨mk_eta _, rfl⟩
      | cons f fs =>
        have hcut := cut_ahead (nameOf op).data.toList (joinL ((f :: fs).map (·.data.toList))) 32 hb32
        show (⟨(Lib.cut ((nameOf op).data.toList ++ 32 :: joinL ((f :: fs).map (·.data.toList))) [32]).1.toArray⟩ : ByteArray) = _ ∧ (if (Lib.cut ((nameOf op).data.toList ++ 32 :: joinL ((f :: fs).map (·.data.toList))) [32]).2.2 = true then fieldsS ⟨(Lib.cut ((nameOf op).data.toList ++ 32 :: joinL ((f :: fs).map (·.data.toList))) [32]).2.1.toArray⟩ else _) = _
        rw [hcut]
        refine ⟨mk_eta _, ?_⟩
        rw [if_pos rfl]
        rw [hf] at hall hl3
        exact fieldsS_join (by simp) (by simp) (by omega) (fun g hg b hb => (hall g hg b hb).1)
    obtain ⟨hlf, hlr⟩ := hlin
    have hne : (textOf op a b c n).toList.isEmpty = false := by
      rw [Lib.toList_data, hd]
      obtain ⟨y, l, hy⟩ := hnmc
      rw [hy]
      rfl
    have hpr : Lib.hasPrefix (textOf op a b c n).data.toList [59] = false := by
      rw [hd]
      obtain ⟨y, l, hy⟩ := hnmc
      have := hn2 y (by rw [hy]; simp)
      rw [hy, List.cons_append]
      exact prefix_no (fun e => by subst e; simp at this)
    have hsf : Lib.hasSuffix (textOf op a b c n).data.toList [58] = false := by
      rw [hd]
      refine suffix_no fun y hb => ?_
      rw [List.mem_append] at hb
      rcases hb with hb | hb
      · intro e
        have := hn2 y hb
        subst e
        simp at this
      · cases hf : fieldTexts op a b c n with
        | nil => rw [hf] at hb; cases hb
        | cons f fs =>
          rw [hf] at hb
          have hb' : y ∈ 32 :: joinL ((f :: fs).map (·.data.toList)) := hb
          rw [List.mem_cons] at hb'
          rcases hb' with rfl | hb'
          · decide
          · refine joinL_all (p := fun b => b ≠ 58) (by decide) (by decide) ?_ y hb'
            intro g hg
            obtain ⟨g', hg', rfl⟩ := List.mem_map.1 hg
            exact fun b hb => (hall g' (by rw [hf]; exact hg') b hb).2.2
    rw [hne, hpr, hsf, hlf, hlr, hopn]
    rw [if_neg (by decide), if_neg (by decide), if_neg (by decide), if_neg (by rw [Lib.toList_data, hn3]; decide)]
    exact hins k st
  · rw [if_neg hx]
    have hd : ((⟨#[87, 79, 82, 68, 32]⟩ : ByteArray) ++ hexStr x).data.toList = [87, 79, 82, 68] ++ 32 :: (hexStr x).data.toList := by simp
    have hcut := cut_ahead [87, 79, 82, 68] (hexStr x).data.toList 32 (by decide)
    have hlf : lnF ((⟨#[87, 79, 82, 68, 32]⟩ : ByteArray) ++ hexStr x) = ⟨#[87, 79, 82, 68]⟩ := by
      unfold lnF
      rw [hd, hcut]
    have hlr : lnR ((⟨#[87, 79, 82, 68, 32]⟩ : ByteArray) ++ hexStr x) = hexStr x := by
      unfold lnR
      rw [hd, hcut]
    have hsf : Lib.hasSuffix ((⟨#[87, 79, 82, 68, 32]⟩ : ByteArray) ++ hexStr x).data.toList [58] = false := by
      rw [hd]
      refine suffix_no fun b hb => ?_
      rcases List.mem_append.1 hb with hb | hb
      · simp at hb
        rcases hb with rfl | rfl | rfl | rfl <;> decide
      · rcases List.mem_cons.1 hb with rfl | hb
        · decide
        · exact hexStr_no58 x b hb
    have hne : ((⟨#[87, 79, 82, 68, 32]⟩ : ByteArray) ++ hexStr x).toList.isEmpty = false := by
      rw [Lib.toList_data, hd]
      rfl
    have hpr : Lib.hasPrefix ((⟨#[87, 79, 82, 68, 32]⟩ : ByteArray) ++ hexStr x).data.toList [59] = false := by
      rw [hd]
      exact prefix_no (by decide)
    rw [hne, hpr, hsf, hlf, hlr]
    rw [if_neg (by decide), if_neg (by decide), if_neg (by decide), if_pos (by rw [Lib.toList_data]; rfl)]
    unfold rawS
    rw [if_pos (hexOk_hex x), hexVal_hex x h0 h1]

end Go.Proofs.YtnmpamfgkidmiaaDoor

/- A strings.Builder: copyCheck, WriteString, WriteByte, over this program's own text (its copyCheck has no text for the panic, so the library's laying falls). -/
namespace Go.Proofs.YtnmpamfgkidmiaaDoor
open Go.ChangeShapes Go.WideShapes Go.ChangeAt Go.RowKit
set_option linter.unusedVariables false

/-- The builder at block b (from block B on) holds these bytes. -/
def Bldr (w : World) (B b : Nat) (l : List UInt8) : Prop := Lib.IsBuilderF 70 5 B b (Lib.byteCells l) w

/-- It holds them and has been written to. -/
def BldrU (w : World) (B b : Nat) (l : List UInt8) : Prop := Lib.BuilderAtF 70 5 B b (.pointer (some ⟨b, 0, none⟩)) (Lib.byteCells l) w

theorem BldrU.is {w : World} {B b : Nat} {l : List UInt8} (h : BldrU w B b l) : Bldr w B b l := .inr h

/-- What is no builder and no row of bytes stands. -/
abbrev Rest (b : Nat) (w w' : World) : Prop := Lib.OthersKept 5 (some b) w w'

theorem bldr_new (w : World) : Bldr (w.alloc (.cells #[.pointer none, .slice none 0 0] 70)) w.heap.size w.heap.size [] := .of (Lib.fresh_isBuilder _ _ w)

theorem builder_info : ∃ j, Tryd.prog.info? 70 = some j ∧ j.size = 2 := Option.map_eq_some_iff.1 (show (Tryd.prog.info? 70).map (·.size) = some 2 by kernel_rfl)

set_option maxHeartbeats 1000000 in
set_option maxRecDepth 100000 in
theorem copycheck_used (b : Nat) (w : World) (h0 : w.cell? ⟨b, 0, none⟩ = some (.pointer (some ⟨b, 0, none⟩))) :
    Calls Tryd.prog 54 #[.pointer (some ⟨b, 0, none⟩)] w fun e w' => e = .returned (.tuple #[]) ∧ w = w' := by
  obtain ⟨j, hj, _⟩ := builder_info
  have hne : ∀ W, (binOp .neq 68 (.pointer (some ⟨b, 0, none⟩)) (.pointer (some ⟨b, 0, none⟩))).run Tryd.prog W = .ok (.bool false) W := fun W => Lib.run_neq_ptr_same W _ Tryd.underlying68 hj
  clear hj
  go_enter Tryd.func54, Tryd.ntmps54
  go_wp2
  go_end0
  exact ⟨rfl, rfl⟩

set_option maxHeartbeats 1000000 in
set_option maxRecDepth 100000 in
theorem copycheck_new (b : Nat) (w : World) (h0 : w.cell? ⟨b, 0, none⟩ = some (.pointer none)) (hsh : w.shape? b = some (70, 2)) (hfz : w.frozen? ⟨b, 0, none⟩ = false) :
    Calls Tryd.prog 54 #[.pointer (some ⟨b, 0, none⟩)] w fun e w' => e = .returned (.tuple #[]) ∧ w' = w.setCell ⟨b, 0, none⟩ (.pointer (some ⟨b, 0, none⟩)) := by
  obtain ⟨j, hj, hjs⟩ := builder_info
  have hto := Lib.run_to_unsafe (P := Tryd.prog) w ⟨b, 0, none⟩ Tryd.underlying68 Tryd.underlying129 hj (by rw [hjs]; decide) hsh (Nat.zero_lt_succ 1)
  have hfrom := Lib.run_from_unsafe (P := Tryd.prog) w ⟨b, 0, none⟩ Tryd.underlying129 Tryd.underlying68 hj hsh (by kernel_rfl)
  have hcall : (callFunc 77 #[.pointer (some ⟨b, 0, none⟩)]).run Tryd.prog w = .ok (.value (.pointer (some ⟨b, 0, none⟩))) w := (run_callFunc_extern Tryd.func77 (by kernel_rfl) (by kernel_rfl) (by kernel_rfl) (e := Extern.AbiNoEscape.same) (by kernel_rfl) _ _).trans rfl
  clear hj hjs hsh
  go_enter Tryd.func54, Tryd.ntmps54
  go_wp2
  go_end0
  exact ⟨rfl, rfl⟩

theorem copycheck_any (B b : Nat) (l : List UInt8) (w : World) (h : Bldr w B b l) :
    Calls Tryd.prog 54 #[.pointer (some ⟨b, 0, none⟩)] w fun e w' => e = .returned (.tuple #[]) ∧ BldrU w' B b l ∧ Below B w w' ∧ Rest b w w' := by
  rcases h with h | h
  · refine (copycheck_new b w h.cell0 h.shape h.frozen0).mono ?_
    rintro e w' ⟨rfl, rfl⟩
    exact ⟨rfl, h.used _, (Below.refl B w).setCell (p := ⟨b, 0, none⟩) h.1 _, (Lib.OthersKept.refl _ _ w).setCell ⟨b, 0, none⟩ rfl _⟩
  · refine (copycheck_used b w h.cell0).mono ?_
    rintro e w' ⟨rfl, rfl⟩
    exact ⟨rfl, h, Below.refl B _, Lib.OthersKept.refl _ _ _⟩

theorem byte_info : (Tryd.prog.info? 5).map (fun i => (i.zero, i.size, i.bytes)) = some (some (.int .u8 0), 1, 1) := by kernel_rfl

theorem bldr_ne : (70 : TypeId) ≠ 5 := by decide

theorem strCells_bytes (s : ByteArray) : Lib.strCells s = Lib.byteCells s.data.toList := rfl

set_option maxHeartbeats 2000000 in
set_option maxRecDepth 100000 in
theorem writestring_any (B b : Nat) (l : List UInt8) (s : ByteArray) (w : World) (h : Bldr w B b l) (hlen : l.length + s.size ≤ 100000000) (hBw : B ≤ w.heap.size) :
    Calls Tryd.prog 28 #[.pointer (some ⟨b, 0, none⟩), .string s] w fun e w' => e = .returned (.tuple #[.int .i64 s.size, .nilIface]) ∧ BldrU w' B b (l ++ s.data.toList) ∧ Below B w w' ∧ Rest b w w' := by
  obtain ⟨i0, hi, hz0, hz1, hz2⟩ := info_parts byte_info
  have CC := Lib.hid (copycheck_any B b l w h)
  clear h
  go_enter Tryd.func28, Tryd.ntmps28
  go_wp2_with fail
  refine CC.out.mono ?_
  rintro e w1 ⟨rfl, h1, hb1, hk1⟩
  have hb1s := hb1.size
  obtain ⟨hB, v, hbk, hown, hne⟩ := h1
  have c0 : w1.cell? ⟨b, 0, none⟩ = some (.pointer (some ⟨b, 0, none⟩)) := by rw [Lib.cell_of_heap hbk]; rfl
  have c1 : w1.cell? ⟨b, 1, none⟩ = some v := by rw [Lib.cell_of_heap hbk]; rfl
  have hlB : (Lib.byteCells l).length = l.length := Lib.byteCells_length l
  have HK := Lib.hid hbk
  have HO := Lib.hid hown
  have HL := Lib.hid hlB
  have HN := Lib.hid hne
  have K1 := Lib.hid hk1
  have B1 := Lib.hid hb1
  clear hbk hown hlB hne hk1 hb1 CC
  go_wp2_with (at_builtin; refine Lib.wpList_append_own_stringF _ rfl _ _ 43 9 rfl B 5 i0 Tryd.underlying43 Tryd.underlying9 hi hz0 hz1 hz2 _ _ _ rfl HO.out s rfl ?c3 ?c4 ?c5 ?_)
  case c3 => rw [HL.out]; unfold maxLen; omega
  case c4 => rw [HL.out]; omega
  case c5 => omega
  intro v' w2 hown' hgrow _
  have hlt : b < w1.heap.size := (Array.getElem?_eq_some_iff.1 HK.out).1
  have hb2 : w2.heap[b]? = some (.cells #[.pointer (some ⟨b, 0, none⟩), v] 70 (0, 0)) := (hgrow.block b hlt (fun e => HN.out e.symm)).trans HK.out
  have d0 : w2.cell? ⟨b, 0, none⟩ = some (.pointer (some ⟨b, 0, none⟩)) := by rw [Lib.cell_of_heap hb2]; rfl
  have d1 : w2.cell? ⟨b, 1, none⟩ = some v := by rw [Lib.cell_of_heap hb2]; rfl
  have f1 : w2.frozen? ⟨b, 1, none⟩ = false := Lib.frozen_of_heap hb2 1
  have R2 := Lib.hid (K1.out.grown hgrow (Lib.ownsRowF_kind HO.out))
  have B2 := Lib.hid (B1.out.grown hgrow (by omega) (fun k hk => (HO.out.lt k hk).1))
  have U2 := Lib.hid (Lib.BuilderAtF.put (T := 70) (e := 5) (bs' := Lib.byteCells (l ++ s.data.toList)) hB hb2 (by rw [Lib.byteCells_append, List.length_append, ← strCells_bytes, Lib.strCells_length]; exact hown') bldr_ne)
  obtain ⟨ao, n', cap, rfl⟩ : ∃ ao n' cap, v' = .slice ao n' cap := by
    rcases hown'.2 with ⟨hv, _⟩ | ⟨g, cap, cur, fz, hv, _⟩
    · exact ⟨_, _, _, hv⟩
    · exact ⟨_, _, _, hv⟩
  clear hown' hgrow hb2 c0 c1
  go_wp2_with fail
  go_ret2
  exact ⟨rfl, U2.out, B2.out.setCell (p := ⟨b, 1, none⟩) hB _, R2.out.setCell ⟨b, 1, none⟩ rfl _⟩

/-- What String answers. -/
theorem bldstring_any (B b : Nat) (l : List UInt8) (w : World) (h : Bldr w B b l) (hBw : B ≤ w.heap.size) :
    Calls Tryd.prog 30 #[.pointer (some ⟨b, 0, none⟩)] w fun e w' => e = .returned (.string ⟨l.toArray⟩) ∧ Below B w w' := by
  refine (Tryd.Builder_String_any_k B b l w h hBw).mono ?_
  rintro e w' ⟨rfl, _, hb, _⟩
  exact ⟨rfl, hb⟩
end Go.Proofs.YtnmpamfgkidmiaaDoor

/- Asm: Source, plain. -/
namespace Go.Proofs.YtnmpamfgkidmiaaDoor
open Go.ChangeShapes Go.WideShapes Go.ChangeAt Go.RowKit
set_option linter.unusedVariables false
set_option linter.unusedSimpArgs false

theorem srcL_size (x : Int) : (srcL x).size ≤ 110 := by
  have h1 := textOf_size (x / 16777216) (decA x) (decB x) (decC x) (decN x)
  have h2 : (⟨#[87, 79, 82, 68, 32]⟩ : ByteArray).size = 5 := rfl
  unfold srcL decText
  split
  · omega
  · rw [ByteArray.size_append, hexStr_size, h2]
    omega

theorem dec_yes {x : Int} (h : OkX x) : decV x = .tuple #[instrV (x / 16777216) (decA x) (decB x) (decC x) (decN x), .int .i64 0] := by
  unfold decV
  exact if_pos h

theorem dec_no {x : Int} (h : ¬ OkX x) : decV x = .tuple #[instrV 0 0 0 0 0, .int .i64 21] := by
  unfold decV
  exact if_neg h

theorem src_yes {x : Int} (h : OkX x) : srcL x = decText x := if_pos h

theorem src_no {x : Int} (h : ¬ OkX x) : srcL x = (⟨#[87, 79, 82, 68, 32]⟩ : ByteArray) ++ hexStr x := if_neg h

/-- A builder stands while what lay there stands. -/
theorem bldr_below {w w' : World} {B b : Nat} {l : List UInt8} (h : Bldr w B b l) (hb' : Below w.heap.size w w') : Bldr w' B b l := by
  have hg : w.grownBy w' none := ⟨hb'.os, hb'.tape, hb'.output, hb'.size, fun i hi _ => hb'.block i hi⟩
  have key : ∀ p, Lib.BuilderAtF 70 5 B b p (Lib.byteCells l) w → Lib.BuilderAtF 70 5 B b p (Lib.byteCells l) w' := by
    rintro p ⟨hB, v, hb, hown, hne⟩
    refine ⟨hB, v, (hg.block b (Array.getElem?_eq_some_iff.1 hb).1 (by simp)).trans hb, hown.kept hg ?_, hne⟩
    rcases hown.2 with ⟨rfl, _⟩ | ⟨g, cap, cur, fz, rfl, _, hg', _⟩
    · exact .inl (by simp [Value.ownBlock])
    · exact .inr (by simp [Value.ownBlock])
  exact h.elim (fun x => .inl (key _ x)) (fun x => .inr (key _ x))

/-- The text of the first k words' lines, as bytes. -/
def srcTo (zs : List Int) (k : Nat) : List UInt8 := (zs.take k).flatMap fun x => (srcL x).data.toList ++ [10]

theorem srcTo_zero (zs : List Int) : srcTo zs 0 = [] := by simp [srcTo]

theorem srcTo_succ {zs : List Int} {k : Nat} (h : k < zs.length) : srcTo zs (k + 1) = srcTo zs k ++ (srcL (zs.getD k 0)).data.toList ++ [10] := by
  unfold srcTo
  rw [List.take_add_one, List.flatMap_append, List.getD_eq_getElem?_getD, List.getElem?_eq_getElem h]
  simp

theorem srcTo_len (zs : List Int) : ∀ k, k ≤ zs.length → (srcTo zs k).length ≤ 111 * k
  | 0, _ => by simp [srcTo]
  | k + 1, h => by
    have ih := srcTo_len zs k (by omega)
    have hz := srcL_size (zs.getD k 0)
    rw [srcTo_succ (by omega), List.length_append, List.length_append, ← Lib.size_eq]
    simp only [List.length_singleton]
    omega

/-- The text so far, of the answers' Source. -/
def srcT (zs : List Int) (k : Nat) : ByteArray := ⟨(srcTo zs k).toArray⟩

theorem srcT_zero (zs : List Int) : srcT zs 0 = ⟨#[]⟩ := by
  unfold srcT
  rw [srcTo_zero]

theorem srcT_succ {zs : List Int} {k : Nat} (h : k < zs.length) : srcT zs (k + 1) = srcT zs k ++ srcL (zs.getD k 0) ++ ⟨#[10]⟩ := by
  unfold srcT
  rw [srcTo_succ h]
  apply ByteArray.ext
  apply Array.ext'
  simp

theorem srcT_size {zs : List Int} {k : Nat} (h : k ≤ zs.length) : (srcT zs k).size ≤ 111 * k := by
  have := srcTo_len zs k h
  rw [Lib.size_eq]
  simpa [srcT] using this

end Go.Proofs.YtnmpamfgkidmiaaDoor

/- Asm: Source, and the answers' Source. -/
namespace Go.Proofs.YtnmpamfgkidmiaaDoor
open Go.ChangeShapes Go.WideShapes Go.ChangeAt Go.RowKit
set_option linter.unusedVariables false
set_option linter.unusedSimpArgs false

set_option maxHeartbeats 2000000 in
set_option maxRecDepth 100000 in
theorem sourceline_any (x : Int) (w : World) (hS : ShapesIn w) (hN : NamesIn w) (h0 : 0 ≤ x) (h1 : x ≤ 4294967295) :
    Calls Tryd.prog 29 #[.int .u32 x] w fun e w' => e = .returned (.string (srcL x)) ∧ Below w.heap.size w w' := by
  have HS := Lib.hid hS
  have HN := Lib.hid hN
  have DC := Lib.hid (fun w hs => decode_any x w hs h0 h1)
  by_cases hok : OkX x
  case neg =>
    rw [dec_no hok] at DC
    rw [src_no hok]
    have TX := Lib.hid (fun w hs hn => text02_any 0 0 0 0 0 w hs hn zero_i64 zero_i64 zero_i64 zero_i64)
    rw [check_zero] at TX
    have HX := Lib.hid (fun w => hex_any x w h0 h1)
    rw [show strOfNums (hexNums x) = hexStr x from rfl] at HX
    have hz := hexStr_size x
    unfold instrV at *
    clear hS hN hok h0 h1
    generalize hexStr x = hx at *
    go_enter Tryd.func29, Tryd.ntmps29
    go_wp2_with fail
    refine (DC.out _ HS.out).mono ?_
    rintro e w1 ⟨rfl, hb1⟩
    have B1 := Lib.hid (hb1.alloc hb1.size (.cells #[.int .i64 0, .int .i64 0, .int .i64 0, .int .i64 0, .int .i64 0] 93))
    have Q := Lib.hid (Whole.made w1 93 #[.int .i64 0, .int .i64 0, .int .i64 0, .int .i64 0, .int .i64 0] _ rfl)
    have HS1 := Lib.hid (HS.out.below B1.out (Nat.le_refl _))
    have HN1 := Lib.hid (HN.out.below B1.out (Nat.le_refl _))
    clear hb1
    go_wp2_with fail
    refine (TX.out _ HS1.out HN1.out).mono ?_
    rintro e w2 ⟨rfl, hb2⟩
    have B2 := Lib.hid (B1.out.trans (hb2.mono B1.out.size))
    clear hb2
    go_wp2_with fail
    refine (HX.out _).mono ?_
    rintro e w3 ⟨rfl, hb3⟩
    have B3 := Lib.hid (B2.out.trans (hb3.mono B2.out.size))
    clear hb3
    go_wp2_with fail
    go_ret
    exact ⟨rfl, B3.out⟩
  have hck := checkOf_good (a := decA x) (b := decB x) (c := decC x) (n := decN x) rfl hok.1 (decGood h0 h1 hok.1)
  obtain ⟨ia, ib, ic, inn⟩ := dec_i64 h0 h1 hok.1
  rw [dec_yes hok] at DC
  rw [src_yes hok]
  have TX := Lib.hid (fun w hs hn => text02_any (x / 16777216) (decA x) (decB x) (decC x) (decN x) w hs hn ia ib ic inn)
  rw [hck, if_pos rfl] at TX
  rw [show textOf (x / 16777216) (decA x) (decB x) (decC x) (decN x) = decText x from rfl] at TX
  unfold instrV at *
  clear hS hN hok h0 h1 hck ia ib ic inn
  generalize decText x = tx at *
  generalize decA x = a at *
  generalize decB x = b at *
  generalize decC x = c at *
  generalize decN x = n at *
  generalize x / 16777216 = op at *
  go_enter Tryd.func29, Tryd.ntmps29
  go_wp2_with fail
  refine (DC.out _ HS.out).mono ?_
  rintro e w1 ⟨rfl, hb1⟩
  have B1 := Lib.hid (hb1.alloc hb1.size (.cells #[.int .i64 op, .int .i64 a, .int .i64 b, .int .i64 c, .int .i64 n] 93))
  have Q := Lib.hid (Whole.made w1 93 #[.int .i64 op, .int .i64 a, .int .i64 b, .int .i64 c, .int .i64 n] _ rfl)
  have HS1 := Lib.hid (HS.out.below B1.out (Nat.le_refl _))
  have HN1 := Lib.hid (HN.out.below B1.out (Nat.le_refl _))
  clear hb1
  go_wp2_with fail
  generalize w1.alloc (.cells #[.int .i64 op, .int .i64 a, .int .i64 b, .int .i64 c, .int .i64 n] 93) = V1 at *
  refine (TX.out _ HS1.out HN1.out).mono ?_
  rintro e w2 ⟨rfl, hb2⟩
  have B2 := Lib.hid (B1.out.trans (hb2.mono B1.out.size))
  clear hb2
  go_wp2_with fail
  go_ret
  exact ⟨rfl, B2.out⟩

set_option maxHeartbeats 4000000 in
set_option maxRecDepth 100000 in
theorem source_any (A : Option Addr) (n c : Nat) (zs : List Int) (w : World) (hS : ShapesIn w) (hN : NamesIn w) (hz : Nums .u32 w A n zs) (hu : ∀ k, 0 ≤ zs.getD k 0 ∧ zs.getD k 0 ≤ 4294967295) (hn : n ≤ 1000) :
    Calls Tryd.prog 17 #[.slice A n c] w fun e w' => e = .returned (.string ⟨(srcTo zs n).toArray⟩) ∧ Below w.heap.size w w' := by
  have B0 := Lib.hid ((Below.refl w.heap.size w).alloc (Nat.le_refl _) (.cells #[.pointer none, .slice none 0 0] 70))
  have BN := Lib.hid (bldr_new w)
  have S0 := Lib.hid (show w.heap.size ≤ (w.alloc (.cells #[.pointer none, .slice none 0 0] 70)).heap.size by simp)
  have HS := Lib.hid hS
  have HN := Lib.hid hN
  have HZ := Lib.hid hz
  have HU := Lib.hid hu
  have TS := Lib.hid (fun k => @srcTo_succ zs k)
  have TZ := Lib.hid (srcTo_len zs)
  have SZ := Lib.hid srcL_size
  have hl := hz.1
  rw [hl] at TS TZ
  clear hS hN hz hu
  go_enter Tryd.func17, Tryd.ntmps17
  go_wp2_with fail
  generalize w.alloc (.cells #[.pointer none, .slice none 0 0] 70) = V at *
  have hbg : Bldr V w.heap.size w.heap.size (srcTo zs 0) := by rw [srcTo_zero]; exact BN.out
  have BG := Lib.hid hbg
  clear hbg BN
  go_loopw [8] (fun i wr => ∃ k : Nat, k ≤ n ∧ i = .int .i64 k ∧ Bldr wr w.heap.size w.heap.size (srcTo zs k) ∧ Below w.heap.size w wr ∧ w.heap.size ≤ wr.heap.size) (fun i _ => n - (intOf i).toNat)
  case atStart => exact ⟨0, Nat.zero_le _, rfl, BG.out, B0.out, S0.out⟩
  case round =>
    clear BG B0 S0
    obtain ⟨k, hk, rfl, hU, hB, hzr⟩ := hrel
    have U0 := Lib.hid hU
    have B1 := Lib.hid hB
    clear hU hB
    by_cases hlt : k < n
    · have hI : (k : Int) < n := by omega
      obtain ⟨bz, oz, hA, _, hc⟩ := (HZ.out.below B1.out).2 (by omega)
      subst hA
      have u0 := hc k hlt
      have hxu := HU.out k
      have tl := TZ.out k hk
      have sz := SZ.out (zs.getD k 0)
      have TK := Lib.hid (TS.out k hlt)
      have SL := Lib.hid (fun w' hs hn => sourceline_any (zs.getD k 0) w' hs hn hxu.1 hxu.2)
      clear hc hxu
      generalize srcL (zs.getD k 0) = ln at *
      generalize zs.getD k 0 = x at *
      generalize srcTo zs k = tx at *
      go_wp2_with fail
      refine (SL.out _ (HS.out.below B1.out (Nat.le_refl _)) (HN.out.below B1.out (Nat.le_refl _))).mono ?_
      rintro e w1 ⟨rfl, hb1⟩
      have U1 := Lib.hid (bldr_below U0.out hb1)
      have B2 := Lib.hid (B1.out.trans (hb1.mono hzr))
      have z2 := Nat.le_trans hzr hb1.size
      clear hb1 U0 B1 SL
      go_wp2_with fail
      refine (writestring_any w.heap.size w.heap.size tx ln w1 U1.out (by omega) z2).mono ?_
      rintro e w2 ⟨rfl, hu2, hb2, _⟩
      have U2 := Lib.hid hu2.is
      have B3 := Lib.hid (B2.out.trans hb2)
      have z3 := Nat.le_trans z2 hb2.size
      have W3 := Lib.hid (writestring_any w.heap.size w.heap.size (tx ++ ln.data.toList) ⟨#[10]⟩ w2 hu2.is (by rw [List.length_append, ← Lib.size_eq, show (⟨#[10]⟩ : ByteArray).size = 1 from rfl]; omega) z3)
      clear hu2 hb2 B2 U1
      go_wp2_with fail
      refine W3.out.mono ?_
      rintro e w4 ⟨rfl, hu4, hb4, _⟩
      have U4 := Lib.hid (show Bldr w4 w.heap.size w.heap.size (srcTo zs (k + 1)) by rw [TK.out]; exact hu4.is)
      have B4 := Lib.hid (B3.out.trans hb4)
      have z4 := Nat.le_trans z3 hb4.size
      clear hu4 hb4 B3 U2 W3
      go_wp2_with fail
      go_roundw
      case rel => exact ⟨k + 1, by omega, by go_num, U4.out, B4.out, z4⟩
      case measure => simp [intOf]; omega
    · have hI : ¬ (k : Int) < n := by omega
      obtain rfl : k = n := by omega
      generalize hll : srcTo zs k = l at *
      have HL := Lib.hid hll
      clear hll
      go_wp2_with fail
      refine (bldstring_any w.heap.size w.heap.size l wr U0.out hzr).mono ?_
      rintro e w7 ⟨rfl, hb7⟩
      have B7 := Lib.hid (B1.out.trans hb7)
      clear hb7
      go_wp2_with fail
      go_ret
      exact ⟨by rw [HL.out]; rfl, B7.out⟩

set_option maxHeartbeats 8000000 in
set_option maxRecDepth 100000 in
theorem refsource_any (A : Option Addr) (n c : Nat) (zs : List Int) (w : World) (hz : Nums .u32 w A n zs) (hu : ∀ k, 0 ≤ zs.getD k 0 ∧ zs.getD k 0 ≤ 4294967295) (hn : n ≤ 1000) :
    Calls Tryd.prog 18 #[.slice A n c] w fun e w' => e = .returned (.string (srcT zs n)) ∧ Below w.heap.size w w' := by
  have HZ := Lib.hid hz
  have HU := Lib.hid hu
  have TS := Lib.hid (fun k => @srcT_succ zs k)
  have TZ := Lib.hid (fun k => @srcT_size zs k)
  have T0 := Lib.hid (srcT_zero zs)
  have hl := hz.1
  rw [hl] at TS TZ
  clear hz hu
  go_enter Tryd.func18, Tryd.ntmps18
  go_wp2_with fail
  go_loopw [3, 4] (fun v i wr => ∃ k : Nat, k ≤ n ∧ i = .int .i64 k ∧ v = .string (srcT zs k) ∧ Below w.heap.size w wr) (fun _ i _ => n - (intOf i).toNat)
  case atStart => exact ⟨0, Nat.zero_le _, rfl, by rw [T0.out], Below.refl _ _⟩
  case round =>
    obtain ⟨k, hk, rfl, rfl, hb⟩ := hrel
    have HB := Lib.hid hb
    clear hb
    have tz := TZ.out k hk
    by_cases hlt : k < n
    · have hI : (k : Int) < n := by omega
      obtain ⟨bz, oz, hA, hbz, hc⟩ := (HZ.out.below HB.out).2 (by omega)
      subst hA
      have u0 := hc k hlt
      have hxu := HU.out k
      have TK := Lib.hid (TS.out k hlt)
      have DC := Lib.hid (fun w => refdecode_any (zs.getD k 0) w hxu.1 hxu.2)
      by_cases hok : OkX (zs.getD k 0)
      · rw [dec_yes hok] at DC
        rw [src_yes hok] at TK
        have hck := checkOf_good (a := decA (zs.getD k 0)) (b := decB (zs.getD k 0)) (c := decC (zs.getD k 0)) (n := decN (zs.getD k 0)) rfl hok.1 (decGood hxu.1 hxu.2 hok.1)
        obtain ⟨ia, ib, ic, inn⟩ := dec_i64 hxu.1 hxu.2 hok.1
        have TX := Lib.hid (fun w => reftext02_any (zs.getD k 0 / 16777216) (decA (zs.getD k 0)) (decB (zs.getD k 0)) (decC (zs.getD k 0)) (decN (zs.getD k 0)) w ia ib ic inn)
        rw [hck, if_pos rfl] at TX
        have z1 := textOf_size (zs.getD k 0 / 16777216) (decA (zs.getD k 0)) (decB (zs.getD k 0)) (decC (zs.getD k 0)) (decN (zs.getD k 0))
        rw [show textOf (zs.getD k 0 / 16777216) (decA (zs.getD k 0)) (decB (zs.getD k 0)) (decC (zs.getD k 0)) (decN (zs.getD k 0)) = decText (zs.getD k 0) from rfl] at TX z1
        unfold instrV at *
        clear hc hxu hck ia ib ic inn hok
        generalize decText (zs.getD k 0) = ln at *
        generalize srcT zs k = tx at *
        generalize decA (zs.getD k 0) = a at *
        generalize decB (zs.getD k 0) = b at *
        generalize decC (zs.getD k 0) = c' at *
        generalize decN (zs.getD k 0) = nn at *
        generalize zs.getD k 0 / 16777216 = op at *
        generalize zs.getD k 0 = x at *
        go_wp2_with fail
        refine (DC.out _).mono ?_
        rintro e w1 ⟨rfl, hb1⟩
        have B1 := Lib.hid ((HB.out.trans (hb1.mono HB.out.size)).alloc (Nat.le_trans HB.out.size hb1.size) (.cells #[.int .i64 op, .int .i64 a, .int .i64 b, .int .i64 c', .int .i64 nn] 78))
        have Q := Lib.hid (Whole.made w1 78 #[.int .i64 op, .int .i64 a, .int .i64 b, .int .i64 c', .int .i64 nn] _ rfl)
        clear hb1 HB DC
        go_wp2_with fail
        generalize w1.alloc (.cells #[.int .i64 op, .int .i64 a, .int .i64 b, .int .i64 c', .int .i64 nn] 78) = V1 at *
        refine (TX.out _).mono ?_
        rintro e w2 ⟨rfl, hb2⟩
        have B2 := Lib.hid (B1.out.trans (hb2.mono B1.out.size))
        have z2 : (tx ++ ln : ByteArray).size ≤ 1000000 := by rw [ByteArray.size_append]; omega
        clear hb2 B1 TX
        go_wp2_with fail
        go_roundw
        case rel => exact ⟨k + 1, by omega, by go_num, by rw [TK.out], B2.out⟩
        case measure => simp [intOf]; omega
      · rw [dec_no hok] at DC
        rw [src_no hok] at TK
        have HX := Lib.hid (fun w => refhex_any (zs.getD k 0) w hxu.1 hxu.2)
        rw [show strOfNums (hexNums (zs.getD k 0)) = hexStr (zs.getD k 0) from rfl] at HX
        have hz8 := hexStr_size (zs.getD k 0)
        unfold instrV at *
        clear hc hxu hok
        generalize hexStr (zs.getD k 0) = ln at *
        generalize srcT zs k = tx at *
        generalize zs.getD k 0 = x at *
        go_wp2_with fail
        refine (DC.out _).mono ?_
        rintro e w1 ⟨rfl, hb1⟩
        have B1 := Lib.hid ((HB.out.trans (hb1.mono HB.out.size)).alloc (Nat.le_trans HB.out.size hb1.size) (.cells #[.int .i64 0, .int .i64 0, .int .i64 0, .int .i64 0, .int .i64 0] 78))
        have u1 : (w1.alloc (.cells #[.int .i64 0, .int .i64 0, .int .i64 0, .int .i64 0, .int .i64 0] 78)).cell? ⟨bz, oz + k, none⟩ = some (.int .u32 x) := by
          have hb2 := hb1.alloc hb1.size (.cells #[.int .i64 0, .int .i64 0, .int .i64 0, .int .i64 0, .int .i64 0] 78)
          exact (hb2.cell (p := ⟨bz, oz + k, none⟩) (block_lt u0)).trans u0
        clear hb1 HB DC
        go_wp2_with fail
        generalize w1.alloc (.cells #[.int .i64 0, .int .i64 0, .int .i64 0, .int .i64 0, .int .i64 0] 78) = V1 at *
        refine (HX.out _).mono ?_
        rintro e w2 ⟨rfl, rfl⟩
        have B2 := B1
        have e5 : (⟨#[87, 79, 82, 68, 32]⟩ : ByteArray).size = 5 := rfl
        have z2 : (tx ++ ⟨#[87, 79, 82, 68, 32]⟩ : ByteArray).size ≤ 1000000 := by rw [ByteArray.size_append, e5]; omega
        have z3 : (tx ++ ⟨#[87, 79, 82, 68, 32]⟩ ++ ln : ByteArray).size ≤ 1000000 := by rw [ByteArray.size_append, ByteArray.size_append, e5]; omega
        clear B1 HX
        go_wp2_with fail
        go_roundw
        case rel => exact ⟨k + 1, by omega, by go_num, by rw [TK.out]; simp [ByteArray.append_assoc], B2.out⟩
        case measure => simp [intOf]; omega
    · have hI : ¬ (k : Int) < n := by omega
      obtain rfl : k = n := by omega
      go_wp2_with fail
      go_ret
      exact ⟨rfl, HB.out⟩
end Go.Proofs.YtnmpamfgkidmiaaDoor

/- Asm: Unit.At. -/
namespace Go.Proofs.YtnmpamfgkidmiaaDoor
open Go.ChangeShapes Go.WideShapes Go.ChangeAt Go.RowKit
set_option linter.unusedVariables false
set_option linter.unusedSimpArgs false

/-- The word of the first label of a name. -/
def atL : List Lab → ByteArray → Int
  | [], _ => -1
  | x :: l, s => if (x.1.toList == s.toList) = true then (x.2 : Int) else atL l s

def noLab : Lab := (⟨#[]⟩, 0)

theorem labs_cell {w : World} {B : Nat} {A : Option Addr} {n c : Nat} {l : List Lab} (h : w.ownsRow B 66 2 (.slice A n c) n (l.flatMap labCells)) (hn : l.length = n) {t : Nat} (ht : t < n) : n ≤ c ∧ ∃ g, A = some ⟨g, 0, none⟩ ∧ B ≤ g ∧ g < w.heap.size ∧ ∀ j, j < 2 → w.cell? ⟨g, t * 2 + j, none⟩ = (labCells (l.getD t noLab))[j]? := by
  letI : LinesAt := ⟨0, #[]⟩
  rcases h.2 with ⟨_, h2⟩ | ⟨g, cap, cur, h1, hB, hg, hcap, _, hsz, htk⟩
  · omega
  · injection h1 with h1 h2 h3
    subst h1 h3
    have hW : Whole w g 66 cur := hg
    refine ⟨hcap, g, rfl, hB, hW.lt, fun j hj => ?_⟩
    rw [hW.cell (t * 2 + j), ← row_cells labCells 2 (fun _ => rfl) noLab l t j (by omega) hj, ← htk, List.getElem?_take, if_pos (by omega), Array.getElem?_toList]

set_option maxHeartbeats 8000000 in
set_option maxRecDepth 100000 in
theorem at_any (A0 : Option Addr) (n0 c0 : Nat) (A : Option Addr) (c B : Nat) (ls : List Lab) (s : ByteArray) (w : World) (h : w.ownsRow B 66 2 (.slice A ls.length c) ls.length (ls.flatMap labCells)) (hn : ls.length ≤ 1000000) (hm : ∀ x ∈ ls, x.1.size ≤ 1000000) (hs : s.size ≤ 1000000) :
    Calls Tryd.prog 15 #[.agg #[.slice A0 n0 c0, .slice A ls.length c], .string s] w fun e w' => e = .returned (.int .i64 (atL ls s)) ∧ Below w.heap.size w w' := by
  have BU := Lib.hid ((Below.refl w.heap.size w).alloc (Nat.le_refl _) (.cells #[.slice A0 n0 c0, .slice A ls.length c] unitT))
  have Q := Lib.hid (Whole.made w unitT #[.slice A0 n0 c0, .slice A ls.length c] _ rfl)
  have q1 : (w.alloc (.cells #[.slice A0 n0 c0, .slice A ls.length c] unitT)).cell? ⟨w.heap.size, 1, none⟩ = some (.slice A ls.length c) := Q.out.cell 1
  have H := Lib.hid h
  have HM := Lib.hid hm
  have RR := Lib.hid (show atL (ls.drop 0) s = atL ls s from rfl)
  clear h hm
  generalize atL ls s = r at *
  go_enter Tryd.func15, Tryd.ntmps15
  go_wp2_with fail
  go_loopw [10] (fun i wr => ∃ t : Nat, t ≤ ls.length ∧ i = .int .i64 t ∧ Below w.heap.size w wr ∧ atL (ls.drop t) s = r) (fun i _ => ls.length - (intOf i).toNat)
  case atStart => exact ⟨0, Nat.zero_le _, rfl, BU.out, RR.out⟩
  case round =>
    obtain ⟨t, ht, rfl, hB, hR⟩ := hrel
    have HB := Lib.hid hB
    rcases Nat.lt_or_ge t ls.length with hlt | hge
    · have hIt : (t : Int) < ls.length := by omega
      obtain ⟨hc3, g, rfl, _, hgl, hg⟩ := labs_cell H.out rfl hlt
      have hO : ls.getD t noLab = ls[t] := by
        rw [List.getD_eq_getElem?_getD, List.getElem?_eq_getElem hlt]
        rfl
      have hlz := HM.out _ (List.getElem_mem hlt)
      have hstep : atL (ls[t] :: ls.drop (t + 1)) s = r := by rw [← List.drop_eq_getElem_cons hlt]; exact hR
      rw [hO] at hg
      generalize ls[t] = l at *
      obtain ⟨ln, lw⟩ := l
      have x0 : wr.cell? ⟨g, t * 2, none⟩ = some (.string ln) := (hB.cell (p := ⟨g, t * 2, none⟩) hgl).trans (hg 0 (by decide))
      have x1 : wr.cell? ⟨g, t * 2 + 1, none⟩ = some (.int .i64 lw) := (hB.cell (p := ⟨g, t * 2 + 1, none⟩) hgl).trans (hg 1 (by decide))
      have BA := Lib.hid (hB.alloc hB.size (.cells #[.string ln, .int .i64 lw] 66))
      have QL := Lib.hid (Whole.made wr 66 #[.string ln, .int .i64 lw] _ rfl)
      have y0 : (wr.alloc (.cells #[.string ln, .int .i64 lw] 66)).cell? ⟨wr.heap.size, 0, none⟩ = some (.string ln) := QL.out.cell 0
      have y1 : (wr.alloc (.cells #[.string ln, .int .i64 lw] 66)).cell? ⟨wr.heap.size, 1, none⟩ = some (.int .i64 lw) := QL.out.cell 1
      clear hg hO hB hR q1
      cases he : (ln.toList == s.toList) with
      | true =>
        have hX : r = lw := by
          rw [← hstep]
          exact if_pos he
        have HX := Lib.hid hX
        clear hstep hX
        go_wp2_with fail
        go_ret
        exact ⟨by rw [HX.out]; rfl, BA.out⟩
      | false =>
        have hX : atL (ls.drop (t + 1)) s = r := by
          rw [← hstep]
          exact (if_neg (by rw [he]; decide)).symm
        have HX := Lib.hid hX
        clear hstep hX
        go_wp2_with fail
        go_roundw
        case rel => exact ⟨t + 1, by omega, by go_num, BA.out, HX.out⟩
        case measure => simp [intOf]; omega
    · have hn : t = ls.length := by omega
      subst hn
      have hIt : decide ((ls.length : Int) < ls.length) = false := decide_eq_false (by omega)
      have hX : r = -1 := by
        rw [← hR, List.drop_length]
        rfl
      have HX := Lib.hid hX
      clear hX hR hB q1
      go_wp2_with fail
      go_ret
      exact ⟨by rw [HX.out]; rfl, HB.out⟩
end Go.Proofs.YtnmpamfgkidmiaaDoor

/- The laws of asm: the page's example. -/
namespace Go.Proofs.YtnmpamfgkidmiaaDoor
open Go.ChangeShapes Go.WideShapes Go.ChangeAt Go.RowKit
set_option linter.unusedVariables false
set_option linter.unusedSimpArgs false

/-- What Assemble leaves where nothing is wrong. -/
theorem asmres_ok {w : World} {r : Int × Nat × AsmS} {e : Ending} {w' : World} (h : AsmRes w r e w') (h0 : r.1 = 0) : ∃ A0 c0 A1 c1, e = .returned (.tuple #[.agg #[.slice A0 r.2.2.words.length c0, .slice A1 r.2.2.labels.length c1], .int .i64 r.2.1, .int .i64 0]) ∧ Below w.heap.size w w' ∧ Owns .u32 45 w' (w.heap.size + 1) (.slice A0 r.2.2.words.length c0) r.2.2.words.length r.2.2.words ∧ w'.ownsRow (w.heap.size + 1) 66 2 (.slice A1 r.2.2.labels.length c1) r.2.2.labels.length (r.2.2.labels.flatMap labCells) := by
  obtain ⟨v0, v1, he, hb, hy, _⟩ := h
  obtain ⟨ho, hl⟩ := hy h0
  obtain ⟨A0, c0, rfl, _⟩ := ho.form
  obtain ⟨A1, c1, rfl⟩ : ∃ A1 c1, v1 = .slice A1 r.2.2.labels.length c1 := by
    rcases hl.2 with ⟨h1, h2⟩ | ⟨g, cap, cur, h1, _⟩
    · exact ⟨none, 0, by rw [h2]; exact h1⟩
    · exact ⟨_, _, h1⟩
  exact ⟨A0, c0, A1, c1, by rw [he, h0], hb, ho, hl⟩

theorem ownsRow_below {w w' : World} {B : Nat} {e : TypeId} {sz : Nat} {v : Value} {n : Nat} {xs : List Value} (h : w.ownsRow B e sz v n xs) (hb : Below w.heap.size w w') : w'.ownsRow B e sz v n xs :=
  World.ownsRow.kept (row := none) h ⟨hb.os, hb.tape, hb.output, hb.size, fun i hi _ => hb.block i hi⟩ (by cases hv : v.ownBlock <;> simp)

theorem Tab.above {w : World} (hT : ∀ W, Below w.heap.size w W → Tab W) {w' : World} (hb : Below w.heap.size w w') : ∀ W, Below w'.heap.size w' W → Tab W :=
  fun W h => hT W (hb.trans (h.mono hb.size))

def loopT : ByteArray := ⟨#[108, 111, 111, 112]⟩

theorem at_loop : atL [(loopT, 0)] loopT = 0 := by kernel_rfl

theorem at_x : atL [(loopT, 0)] ⟨#[120]⟩ = -1 := by kernel_rfl

set_option maxHeartbeats 8000000 in
set_option maxRecDepth 100000 in
theorem awake05_any (w : World) (hT : ∀ W, Below w.heap.size w W → Tab W) :
    Calls Tryd.prog 8 #[] w fun e w' => e = .returned (.bool true) ∧ Below w.heap.size w w' := by
  have AN := Lib.hid ((asm_any awakeT w (by decide) hT (by rw [awake_n]; decide)).mono (fun e w' h => asmres_ok h awake_1))
  rw [awake_2, awake_3, awake_4] at AN
  unfold awakeT at AN
  have AL := Lib.hid (fun A0 n0 c0 A c B w h => at_any A0 n0 c0 A c B [(loopT, 0)] loopT w h (by decide) (by decide) (by decide))
  have AX := Lib.hid (fun A0 n0 c0 A c B w h => at_any A0 n0 c0 A c B [(loopT, 0)] ⟨#[120]⟩ w h (by decide) (by decide) (by decide))
  rw [at_loop] at AL
  rw [at_x] at AX
  rw [show [((⟨#[108, 111, 111, 112]⟩ : ByteArray), 0)] = [(loopT, 0)] from rfl] at AN
  unfold loopT at *
  simp only [List.length_singleton] at AN AL AX
  clear hT
  go_enter Tryd.func8, Tryd.ntmps8
  go_wp2_with fail
  refine AN.out.mono ?_
  rintro e w1 ⟨A0, c0, A1, c1, rfl, hb1, ho, hl⟩
  have B1 := Lib.hid (hb1.alloc hb1.size (.cells #[.slice A0 1 c0, .slice A1 1 c1] unitT))
  have Q := Lib.hid (Whole.made w1 unitT #[.slice A0 1 c0, .slice A1 1 c1] _ rfl)
  have OW := Lib.hid (ho.alloc (.cells #[.slice A0 1 c0, .slice A1 1 c1] unitT))
  have OL := Lib.hid (World.ownsRow.alloc hl (.cells #[.slice A0 1 c0, .slice A1 1 c1] unitT))
  obtain ⟨g, off, hA0, hgl, hc⟩ := OW.out.nums.2 (by decide)
  subst hA0
  have x0 := hc 0 (by decide)
  rw [Nat.add_zero, show ([385875967] : List Int).getD 0 0 = 385875967 from rfl] at x0
  clear hb1 ho hl AN hc hgl
  go_wp2_with fail
  generalize w1.alloc (.cells #[.slice (some ⟨g, off, none⟩) 1 c0, .slice A1 1 c1] unitT) = V at *
  refine (AL.out _ _ _ _ _ _ _ OL.out).mono ?_
  rintro e w2 ⟨rfl, hb2⟩
  have B2 := Lib.hid (B1.out.trans (hb2.mono B1.out.size))
  have Q2 := Lib.hid (Q.out.below hb2 Q.out.lt)
  have L2 := Lib.hid (ownsRow_below OL.out hb2)
  clear hb2 B1 Q OL OW x0 AL
  have q0 : w2.cell? ⟨w1.heap.size, 0, none⟩ = some (.slice (some ⟨g, off, none⟩) 1 c0) := Q2.out.cell 0
  have q1 : w2.cell? ⟨w1.heap.size, 1, none⟩ = some (.slice A1 1 c1) := Q2.out.cell 1
  go_wp2_with fail
  refine (AX.out _ _ _ _ _ _ _ L2.out).mono ?_
  rintro e w3 ⟨rfl, hb3⟩
  have B3 := Lib.hid (B2.out.trans (hb3.mono B2.out.size))
  clear hb3 B2
  go_wp2_with fail
  go_ret
  exact ⟨rfl, B3.out⟩
end Go.Proofs.YtnmpamfgkidmiaaDoor

/- Asm: the law AsmMany. -/
namespace Go.Proofs.YtnmpamfgkidmiaaDoor
open Go.ChangeShapes Go.WideShapes Go.ChangeAt Go.RowKit
set_option linter.unusedVariables false
set_option linter.unusedSimpArgs false

def tens (k n : Nat) : List Int := List.replicate k 10 ++ List.replicate (n - k) 0

def tenC (k n : Nat) : Array Value := ((tens k n).map (Value.int .u8)).toArray

theorem tenC_zero (n : Nat) : madeCells #[Value.int .u8 0] n = tenC 0 n := by
  unfold madeCells tenC tens
  apply Array.ext
  · simp
  · intro i h1 h2
    simp [Nat.mod_one]

theorem tenC_size {k n : Nat} (h : k ≤ n) : (tenC k n).size = n := by
  simp [tenC, tens]
  omega

theorem tenC_set {k n : Nat} (h : k < n) : (tenC k n).setIfInBounds k (.int .u8 10) = tenC (k + 1) n := by
  apply Array.ext_getElem?
  intro j
  unfold tenC tens
  rw [List.setIfInBounds_toArray, List.getElem?_toArray, List.getElem?_toArray, List.getElem?_set]
  by_cases hj : k = j
  · subst hj
    rw [if_pos rfl, if_pos (by simp; omega)]
    rw [List.getElem?_map, List.getElem?_append_left (by simp), List.getElem?_replicate, if_pos (by omega)]
    rfl
  · rw [if_neg hj, List.getElem?_map, List.getElem?_map]
    by_cases hl : j < k
    · rw [List.getElem?_append_left (by simpa using hl), List.getElem?_append_left (by simp; omega), List.getElem?_replicate, List.getElem?_replicate, if_pos hl, if_pos (by omega)]
    · rw [List.getElem?_append_right (by simp; omega), List.getElem?_append_right (by simp; omega), List.getElem?_replicate, List.getElem?_replicate]
      simp only [List.length_replicate]
      by_cases hn : j < n
      · rw [if_pos (by omega), if_pos (by omega)]
      · rw [if_neg (by omega), if_neg (by omega)]

theorem run_make_bytes (n : Nat) (hn : n ≤ 1000000) (w : World) :
    (Instr.makeSlice 43 (.int .i64 n) (.int .i64 n)).run Tryd.prog w = .ok (.slice (some ⟨w.heap.size, 0, none⟩) n n) (w.alloc (.cells (tenC 0 n) 5)) := by
  have h : (Tryd.prog.info? 5).map (fun i => (i.zero, i.size, i.bytes)) = some (some (.int .u8 0), 1, 1) := by kernel_rfl
  cases hp : Tryd.prog.info? 5 with
  | none => rw [hp] at h; cases h
  | some i =>
    rw [hp] at h
    simp only [Option.map_some, Option.some.injEq, Prod.mk.injEq] at h
    obtain ⟨hz, hs, hb⟩ := h
    have hr := run_make (P := Tryd.prog) w 43 5 i (.int .u8 0) Tryd.underlying43 hp hz .i64 .i64 n n (by omega) (Int.le_refl _) (by rw [hb]; omega) (by omega)
    rw [hr, hs, Int.toNat_natCast, Nat.mul_one, show (Value.int .u8 0).cells = #[Value.int .u8 0] from rfl, tenC_zero]

/-- A text of line feeds alone. -/
def feeds (n : Nat) : ByteArray := strOfNums (List.replicate n 10)

theorem feeds_data (n : Nat) : (feeds n).data.toList = List.replicate n (10 : UInt8) := by
  unfold feeds
  rw [strOfNums_data, List.map_replicate]
  rfl

theorem feeds_size (n : Nat) : (feeds n).size = n := by
  rw [Lib.size_eq, feeds_data, List.length_replicate]

theorem feeds_count (n : Nat) : Lib.countByte (feeds n).data.toList 10 = n := by
  rw [feeds_data]
  unfold Lib.countByte
  simp

theorem feeds_lines (n : Nat) : linesA (feeds n) = List.replicate (n + 1) ⟨#[]⟩ := by
  apply bytes_map
  unfold linesA
  rw [splitB_cut, feeds_data, cutL_many, List.map_replicate]

theorem readS_empty [LinesAt] (k : Nat) (st : AsmS) : readS ⟨#[]⟩ k st = (0, st) := by
  unfold readS
  rw [if_pos (by rw [Lib.toList_data]; rfl)]

theorem runS_empty (st : AsmS) : ∀ (m k : Nat), runS (List.replicate m ⟨#[]⟩) k st = (0, k + m, st)
  | 0, k => rfl
  | m + 1, k => by
    letI : LinesAt := ⟨0, #[]⟩
    rw [List.replicate_succ, runS_cons, readS_empty, if_pos rfl, runS_empty st m (k + 1)]
    rw [show k + 1 + m = k + (m + 1) by omega]

theorem feeds_asm (n : Nat) : asmF (feeds n) = (0, 0, ⟨[], [], []⟩) := by
  unfold asmF
  rw [feeds_lines, runS_empty, if_pos rfl]
  rfl

set_option maxHeartbeats 8000000 in
set_option maxRecDepth 100000 in
theorem asmmany_walk (w : World) (hT : ∀ W, Below w.heap.size w W → Tab W) (a : Int) (h0 : 0 ≤ a) (h1 : a ≤ 65535) :
    Calls Tryd.prog 6 #[.int .u16 a] w fun e w' => e = .returned (.bool true) ∧ Below w.heap.size w w' := by
  obtain ⟨n, hn⟩ : ∃ n : Nat, a.tmod 5000 = n := ⟨(a.tmod 5000).toNat, by rw [Int.tmod_eq_emod_of_nonneg h0]; omega⟩
  have hn5 : n < 5000 := by
    rw [Int.tmod_eq_emod_of_nonneg h0] at hn
    omega
  have AW := Lib.hid (awake05_any w hT)
  have HT := Lib.hid hT
  have MK := Lib.hid (fun w => run_make_bytes n (by omega) w)
  have TS := Lib.hid (fun k => @tenC_set k n)
  have TZ := Lib.hid (fun k => @tenC_size k n)
  have FS := Lib.hid (feeds_size n)
  have FC := Lib.hid (feeds_count n)
  have FU := Lib.hid (fun w h1 h2 => asm_full (feeds n) w h1 h2)
  have FA := Lib.hid (fun w h1 h2 h3 => asm_any (feeds n) w h1 h2 h3)
  rw [feeds_asm n] at FA
  have F0 : (tenC n n).size = n := tenC_size (Nat.le_refl n)
  have FE : ∀ i, i < n → (tenC n n)[i]? = some (.int .u8 ((List.replicate n (10 : Int)).getD i 0)) := by
    intro i hi
    unfold tenC tens
    simp [hi]
  have FH := Lib.hid FE
  clear hT FE F0
  go_enter Tryd.func6, Tryd.ntmps6
  go_wp2_with fail
  refine AW.out.mono ?_
  rintro e w1 ⟨rfl, hb1⟩
  have B1 := Lib.hid (hb1.alloc hb1.size (.cells (tenC 0 n) 5))
  have K1 := Lib.hid (Whole.made w1 5 (tenC 0 n) _ rfl)
  have hmake := MK.out w1
  have hz1 := hb1.size
  clear hb1 AW MK
  go_wp2_with fail
  generalize w1.alloc (.cells (tenC 0 n) 5) = V at *
  generalize hgg : w1.heap.size = g at *
  clear hgg hmake
  go_loopw [5] (fun i wr => ∃ k : Nat, k ≤ n ∧ i = .int .i64 k ∧ Whole wr g 5 (tenC k n) ∧ Below w.heap.size w wr) (fun i _ => n - (intOf i).toNat)
  case atStart => exact ⟨0, Nat.zero_le _, rfl, K1.out, B1.out⟩
  case round =>
    clear K1 B1
    obtain ⟨k, hk, rfl, hK, hB⟩ := hrel
    by_cases hlt : k < n
    · have hI : (k : Int) < n := by omega
      have E := TS.out k hlt
      have z := TZ.out k hk
      have c0 : wr.cell? ⟨g, k, none⟩ = some (.int .u8 0) := by
        rw [hK.cell k]
        unfold tenC tens
        rw [List.getElem?_toArray, List.getElem?_map, List.getElem?_append_right (by simp), List.getElem?_replicate]
        simp
        omega
      have f0 : wr.frozen? ⟨g, k, none⟩ = false := hK.free k
      have KS := Lib.hid (show Whole (wr.setCell ⟨g, k, none⟩ (.int .u8 10)) g 5 (tenC (k + 1) n) by rw [← E]; exact hK.store k _)
      have BS := Lib.hid (hB.setCell (p := ⟨g, k, none⟩) hz1 (.int .u8 10))
      clear hK hB E z
      go_wp2_with fail
      go_roundw
      case rel => exact ⟨k + 1, by omega, by go_num, KS.out, BS.out⟩
      case measure => simp [intOf]; omega
    · have hI : ¬ (k : Int) < n := by omega
      obtain rfl : k = n := by omega
      have KH := Lib.hid hK
      have BH := Lib.hid hB
      have hglt := hK.lt
      clear hK hB
      go_wp2_with fail
      rw [run_convert_bytes_arg _ 43 5 Tryd.underlying43 Tryd.underlying5 g 0 k k (List.replicate k 10) (by simp) (fun i hi => by rw [Nat.zero_add, KH.out.cell i, FH.out i hi]) 9 Tryd.underlying9]
      rw [show strOfNums (List.replicate k 10) = feeds k from rfl]
      by_cases hc : 4096 ≤ k
      · have FR := Lib.hid (FU.out wr (by rw [FS.out]; omega) (by rw [FC.out]; exact hc))
        have d : decide ((4096 : Int) < (k : Int) + 1) = true := decide_eq_true (by omega)
        clear FU FA FS FC
        generalize feeds k = tx at *
        go_wp2_with fail
        refine FR.out.mono ?_
        rintro e w2 ⟨rfl, hb2⟩
        have B2 := Lib.hid ((BH.out.trans (hb2.mono BH.out.size)).alloc (Nat.le_trans BH.out.size hb2.size) (.cells #[.slice none 0 0, .slice none 0 0] unitT))
        have Q := Lib.hid (Whole.made w2 unitT #[.slice none 0 0, .slice none 0 0] _ rfl)
        have q0 : (w2.alloc (.cells #[.slice none 0 0, .slice none 0 0] unitT)).cell? ⟨w2.heap.size, 0, none⟩ = some (.slice none 0 0) := Q.out.cell 0
        clear hb2
        go_wp2_with fail
        go_ret
        exact ⟨rfl, B2.out⟩
      · have FR := Lib.hid ((FA.out wr (by rw [FS.out]; omega) (Tab.above HT.out BH.out) (by rw [FC.out]; exact hc)).mono (fun e w' h => asmres_ok h rfl))
        have d : decide ((4096 : Int) < (k : Int) + 1) = false := decide_eq_false (by omega)
        simp only [List.length_nil] at FR
        clear FU FA FS FC
        generalize feeds k = tx at *
        go_wp2_with fail
        refine FR.out.mono ?_
        rintro e w2 ⟨A0, c0, A1, c1, rfl, hb2, _, _⟩
        have B2 := Lib.hid ((BH.out.trans (hb2.mono BH.out.size)).alloc (Nat.le_trans BH.out.size hb2.size) (.cells #[.slice A0 0 c0, .slice A1 0 c1] unitT))
        have Q := Lib.hid (Whole.made w2 unitT #[.slice A0 0 c0, .slice A1 0 c1] _ rfl)
        have q0 : (w2.alloc (.cells #[.slice A0 0 c0, .slice A1 0 c1] unitT)).cell? ⟨w2.heap.size, 0, none⟩ = some (.slice A0 0 c0) := Q.out.cell 0
        clear hb2
        go_wp2_with fail
        go_ret
        exact ⟨rfl, B2.out⟩
end Go.Proofs.YtnmpamfgkidmiaaDoor

/- Asm, plain: what Source's texts come to; two lists of words alike. -/
namespace Go.Proofs.YtnmpamfgkidmiaaDoor
open Go.ChangeShapes Go.WideShapes Go.ChangeAt Go.RowKit
set_option linter.unusedVariables false
set_option linter.unusedSimpArgs false

theorem u32_of_wf5 {zs : List Int} (h : ∀ z ∈ zs, (Lit.int .u32 z).wf = true) (k : Nat) : 0 ≤ zs.getD k 0 ∧ zs.getD k 0 ≤ 4294967295 := by
  rw [List.getD_eq_getElem?_getD]
  cases hk : zs[k]? with
  | none => exact ⟨by decide, by decide⟩
  | some z => exact bounds_u32 (h z (List.mem_of_getElem? hk))

theorem tab_of {w : World} (hS : ShapesIn w) (hN : NamesIn w) (hM : MaxIn w) : ∀ W, Below w.heap.size w W → Tab W :=
  fun W hb => ⟨hS.below hb (Nat.le_refl _), hN.below hb (Nat.le_refl _), hM.below hb (Nat.le_refl _)⟩

theorem hexStr_no10 (n : Int) : ∀ b ∈ (hexStr n).data.toList, b ≠ (10 : UInt8) := by
  intro b hb he
  subst he
  have h1 : (10 : Int) ∈ bys (hexStr n) := by
    unfold bys
    exact List.mem_map.2 ⟨10, hb, rfl⟩
  unfold hexStr at h1
  rw [bys_nums _ (hexNums_byte n)] at h1
  unfold hexNums hexdg at h1
  simp only [List.mem_cons, List.not_mem_nil, or_false] at h1
  rcases h1 with h | h | h | h | h | h | h | h <;> (split at h <;> omega)

theorem srcL_no10 {x : Int} (h0 : 0 ≤ x) (h1 : x ≤ 4294967295) : ∀ b ∈ (srcL x).data.toList, b ≠ (10 : UInt8) := by
  by_cases hx : OkX x
  · rw [src_yes hx]
    obtain ⟨hc, he⟩ := okX_check h0 h1 hx
    have hop := shapeOf_some hx.1
    have hnm := name_ok hop.1 hop.2
    obtain ⟨k0, _⟩ := own_texts hc
    have hf := fields_fc k0
    have hl3 : (fieldTexts (x / 16777216) (decA x) (decB x) (decC x) (decN x)).length ≤ 3 := by
      rw [(fill_parts k0).2.1]
      exact fillCount_le _
    unfold decText
    rw [textOf_data hl3]
    unfold nmOk at hnm
    simp only [Bool.and_eq_true, Bool.not_eq_true', List.all_eq_true, decide_eq_true_eq] at hnm
    intro y hy
    rcases List.mem_append.1 hy with hy | hy
    · intro e
      have := hnm.2.1 y hy
      subst e
      simp at this
    · cases hfs : fieldTexts (x / 16777216) (decA x) (decB x) (decC x) (decN x) with
      | nil => rw [hfs] at hy; cases hy
      | cons f fs =>
        rw [hfs] at hy
        have hy' : y ∈ 32 :: joinL ((f :: fs).map (·.data.toList)) := hy
        rcases List.mem_cons.1 hy' with rfl | hy'
        · decide
        · refine joinL_all (p := fun b => b ≠ 10) (by decide) (by decide) ?_ y hy'
          intro g hg
          obtain ⟨g', hg', rfl⟩ := List.mem_map.1 hg
          intro b hb e
          subst e
          rcases (hf g' (by rw [hfs]; exact hg')).2 10 hb with h | h | h <;> simp at h
  · rw [src_no hx]
    intro y hy
    have hd : ((⟨#[87, 79, 82, 68, 32]⟩ : ByteArray) ++ hexStr x).data.toList = [87, 79, 82, 68, 32] ++ (hexStr x).data.toList := by simp
    rw [hd] at hy
    rcases List.mem_append.1 hy with hy | hy
    · simp at hy
      rcases hy with rfl | rfl | rfl | rfl | rfl <;> decide
    · exact hexStr_no10 x y hy

theorem srcTo_flat (zs : List Int) (n : Nat) (h : zs.length = n) : srcTo zs n = (zs.map fun x => (srcL x).data.toList).flatMap fun l => l ++ [10] := by
  subst h
  unfold srcTo
  rw [List.take_length, List.flatMap_map]

/-- Two texts of Source, one behind the other, something between them. -/
theorem src_lines {zs : List Int} (hu : ∀ z ∈ zs, 0 ≤ z ∧ z ≤ 4294967295) (r : List UInt8) : cutL 10 (srcTo zs zs.length ++ r) = (zs.map fun x => (srcL x).data.toList) ++ cutL 10 r := by
  rw [srcTo_flat zs _ rfl, cutL_lines]
  intro l hl b hb
  obtain ⟨x, hx, rfl⟩ := List.mem_map.1 hl
  exact srcL_no10 (hu x hx).1 (hu x hx).2 b hb

theorem runS_src : ∀ (zs : List Int) (rest : List ByteArray) (k : Nat) (st : AsmS), (∀ z ∈ zs, 0 ≤ z ∧ z ≤ 4294967295) → st.words.length + zs.length ≤ 16384 → runS (zs.map srcL ++ rest) k st = runS rest (k + zs.length) ⟨st.words ++ zs, st.labels, st.opens⟩
  | [], rest, k, st, _, _ => by simp
  | z :: zs, rest, k, st, hu, hl => by
    letI : LinesAt := ⟨0, #[]⟩
    have hz := hu z (by simp)
    simp only [List.length_cons] at hl
    have ha : addS z st = (0, ⟨st.words ++ [z], st.labels, st.opens⟩) := by
      unfold addS
      rw [if_neg (by omega)]
    rw [List.map_cons, List.cons_append, runS_cons, readS_src hz.1 hz.2, ha, if_pos rfl, runS_src zs rest (k + 1) _ (fun x hx => hu x (by simp [hx])) (by simp; omega)]
    rw [show k + 1 + zs.length = k + (z :: zs).length by simp; omega]
    simp

theorem lines_data (text : ByteArray) : (linesA text).map (·.data.toList) = cutL 10 text.data.toList := by
  unfold linesA
  rw [splitB_cut]

theorem src_asm {zs : List Int} {n : Nat} (hn : zs.length = n) (hu : ∀ z ∈ zs, 0 ≤ z ∧ z ≤ 4294967295) (hl : n ≤ 16384) : asmF ⟨(srcTo zs n).toArray⟩ = (0, 0, ⟨zs, [], []⟩) := by
  subst hn
  have hL : linesA ⟨(srcTo zs zs.length).toArray⟩ = zs.map srcL ++ [⟨#[]⟩] := by
    apply bytes_map
    rw [lines_data]
    have := src_lines hu []
    rw [List.append_nil] at this
    simp [this, cutL]
  unfold asmF
  rw [hL, runS_src zs _ 0 _ hu (by simpa using hl)]
  rw [show runS [⟨#[]⟩] (0 + zs.length) (⟨([] : List Int) ++ zs, [], []⟩ : AsmS) = (0, 0 + zs.length + 1, ⟨[] ++ zs, [], []⟩) from runS_empty _ 1 _, if_pos rfl]
  rfl

theorem src_count {zs : List Int} {n : Nat} (hn : zs.length = n) (hu : ∀ z ∈ zs, 0 ≤ z ∧ z ≤ 4294967295) : Lib.countByte (⟨(srcTo zs n).toArray⟩ : ByteArray).data.toList 10 = n := by
  subst hn
  have h1 := cutL_len 10 (srcTo zs zs.length)
  have h2 := src_lines hu []
  rw [List.append_nil] at h2
  rw [h2] at h1
  unfold Lib.countByte
  simp [cutL] at h1 ⊢
  omega

/-- "; between" and a line feed. -/
def midT : ByteArray := ⟨#[59, 32, 98, 101, 116, 119, 101, 101, 110, 10]⟩

def midL : ByteArray := ⟨#[59, 32, 98, 101, 116, 119, 101, 101, 110]⟩

theorem readS_mid [LinesAt] (k : Nat) (st : AsmS) : readS midL k st = (0, st) := by
  unfold readS
  rw [if_neg (by rw [Lib.toList_data]; decide), if_pos (by decide)]

def joinT (a b : List Int) : ByteArray := ⟨(srcTo a a.length).toArray⟩ ++ midT ++ ⟨(srcTo b b.length).toArray⟩

theorem join_data (a b : List Int) : (joinT a b).data.toList = srcTo a a.length ++ (midL.data.toList ++ 10 :: srcTo b b.length) := by
  unfold joinT midT midL
  simp

theorem join_cut {a b : List Int} (ha : ∀ z ∈ a, 0 ≤ z ∧ z ≤ 4294967295) (hb : ∀ z ∈ b, 0 ≤ z ∧ z ≤ 4294967295) : cutL 10 (joinT a b).data.toList = (a.map fun x => (srcL x).data.toList) ++ midL.data.toList :: ((b.map fun x => (srcL x).data.toList) ++ [[]]) := by
  have h2 := src_lines hb []
  rw [List.append_nil] at h2
  rw [join_data, src_lines ha, cutL_app, h2]
  · rfl
  · decide

theorem join_asm {a b : List Int} (ha : ∀ z ∈ a, 0 ≤ z ∧ z ≤ 4294967295) (hb : ∀ z ∈ b, 0 ≤ z ∧ z ≤ 4294967295) (hl : a.length + b.length ≤ 16384) : asmF (joinT a b) = (0, 0, ⟨a ++ b, [], []⟩) := by
  letI : LinesAt := ⟨0, #[]⟩
  have hL : linesA (joinT a b) = a.map srcL ++ midL :: (b.map srcL ++ [⟨#[]⟩]) := by
    apply bytes_map
    rw [lines_data, join_cut ha hb]
    simp
    rfl
  unfold asmF
  rw [hL, runS_src a _ 0 _ ha (by simp; omega), runS_cons, readS_mid, if_pos rfl, runS_src b _ _ _ hb (by simp; omega)]
  rw [show ∀ k st, runS [⟨#[]⟩] k st = (0, k + 1, st) from fun k st => runS_empty st 1 k, if_pos rfl]
  rfl

theorem join_count {a b : List Int} (ha : ∀ z ∈ a, 0 ≤ z ∧ z ≤ 4294967295) (hb : ∀ z ∈ b, 0 ≤ z ∧ z ≤ 4294967295) : Lib.countByte (joinT a b).data.toList 10 = a.length + b.length + 1 := by
  have h1 := cutL_len 10 (joinT a b).data.toList
  rw [join_cut ha hb] at h1
  unfold Lib.countByte
  simp at h1 ⊢
  omega

set_option maxHeartbeats 4000000 in
set_option maxRecDepth 100000 in
theorem words_same5 (A1 A2 : Option Addr) (n c1 c2 : Nat) (zs : List Int) (w : World) (h1 : Nums .u32 w A1 n zs) (h2 : Nums .u32 w A2 n zs) (hn : n ≤ 1000000) :
    Calls Tryd.prog 11 #[.slice A1 n c1, .slice A2 n c2] w fun e w' => e = .returned (.bool true) ∧ Below w.heap.size w w' := by
  have H1 := Lib.hid h1
  have H2 := Lib.hid h2
  clear h1 h2
  go_enter Tryd.func11, Tryd.ntmps11
  go_wp2_with fail
  go_loopw [5] (fun i wr => ∃ t q : Nat, t ≤ n ∧ i = .int .i64 t ∧ wr = w.drewN q) (fun i _ => n - (intOf i).toNat)
  case atStart => exact ⟨0, 0, Nat.zero_le _, rfl, rfl⟩
  case round =>
    obtain ⟨t, q, ht, rfl, rfl⟩ := hrel
    by_cases hlt : t < n
    · have hI : (t : Int) < n := by omega
      obtain ⟨ba, oa, rfl, _, ha⟩ := H1.out.2 (by omega)
      obtain ⟨bb, ob, rfl, _, hb⟩ := H2.out.2 (by omega)
      have u0 := ha t hlt
      have v0 := hb t hlt
      clear ha hb
      generalize zs.getD t 0 = z at *
      go_wp2_with fail
      go_quiet (fail)
      go_wp2_with fail
      go_roundw
      case rel => exact ⟨t + 1, _, by omega, by go_num, rfl⟩
      case measure => simp [intOf]; omega
    · have hI : ¬ (t : Int) < n := by omega
      go_wp2_with fail
      go_ret
      exact ⟨rfl, below_drawn (Below.refl _ _) q⟩
end Go.Proofs.YtnmpamfgkidmiaaDoor
