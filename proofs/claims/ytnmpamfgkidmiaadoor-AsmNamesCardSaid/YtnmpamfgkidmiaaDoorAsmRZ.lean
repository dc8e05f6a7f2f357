/- AsmR AsmS AsmT AsmU AsmV AsmW AsmZ0 AsmZ1 AsmZ2 AsmZ3 Shaped in one. -/
import Derived.Test.YtnmpamfgkidmiaaDoorAsmLM
import Derived.Test.YtnmpamfgkidmiaaDoorInstrP
import Derived.Test.YtnmpamfgkidmiaaDoorAsmNZ
import Derived.Test.YtnmpamfgkidmiaaDoorInstrXf
import Derived.Deep.QuietTactic
import Derived.BigQuiet
import Derived.Test.YtnmpamfgkidmiaaDoorLift
import Derived.HandedShaped
import Derived.Shelf.Vars

/- Asm: the answers' Name, Find, Cut, op. -/
namespace Go.Proofs.YtnmpamfgkidmiaaDoor
open Go.ChangeShapes Go.WideShapes Go.ChangeAt Go.RowKit
set_option linter.unusedVariables false
set_option linter.unusedSimpArgs false

set_option maxHeartbeats 8000000 in
set_option maxRecDepth 100000 in
theorem refname05_any (s : ByteArray) (w : World) (hm : s.size ≤ 1000000) : Calls Tryd.prog 14 #[.string s] w fun e w' => e = .returned (.bool (nameB s)) ∧ w = w' := by
  by_cases h1 : 1 ≤ s.size
  case neg =>
    have hn : nameB s = false := by
      unfold nameB
      rw [decide_eq_false h1]
      rfl
    have d1 : decide ((s.size : Int) < 1) = true := decide_eq_true (by omega)
    rw [hn]
    clear hn
    go_enter Tryd.func14, Tryd.ntmps14
    go_wp2_with fail
    go_ret
    exact ⟨rfl, rfl⟩
  have d1 : decide ((s.size : Int) < 1) = false := decide_eq_false (by omega)
  by_cases h2 : s.size ≤ 32
  case neg =>
    have hn : nameB s = false := by
      unfold nameB
      rw [decide_eq_false h2]
      simp
    rw [hn]
    have d2 : decide ((32 : Int) < s.size) = true := decide_eq_true (by omega)
    clear hn h1
    go_enter Tryd.func14, Tryd.ntmps14
    go_wp2_with fail
    go_ret
    exact ⟨rfl, rfl⟩
  have d2 : decide ((32 : Int) < s.size) = false := decide_eq_false (by omega)
  have g0 := Lib.hid (get_bang (s := s) (k := 0) (by omega))
  have NY := Lib.hid (@nameB_yes s h1 h2)
  have NN := Lib.hid (fun i => @nameB_no s i)
  have GB := Lib.hid (fun k => @get_bang s k)
  have N0 := Lib.hid (show digI ((s.get! 0).toNat : Int) = true → nameB s = false from fun h => by unfold nameB; rw [h]; simp)
  generalize hnm : nameB s = r at *
  clear hnm
  go_enter Tryd.func14, Tryd.ntmps14
  go_wp2_with fail
  go_loop [3] (fun i => ∃ k : Nat, k ≤ s.size ∧ i = .int .i64 k ∧ (∀ j, j < k → okI ((s.get! j).toNat : Int) = true) ∧ (0 < k → digI ((s.get! 0).toNat : Int) = false)) (fun i => s.size - (intOf i).toNat)
  case atStart => exact ⟨0, Nat.zero_le _, rfl, fun j h => absurd h (Nat.not_lt_zero _), fun h => absurd h (Nat.lt_irrefl _)⟩
  case round =>
    obtain ⟨k, hk, rfl, hA, hD⟩ := hrel
    have HA := Lib.hid hA
    have HD := Lib.hid hD
    clear hA hD
    by_cases hlt : k < s.size
    · have hI : (k : Int) < s.size := by omega
      have E := Lib.hid (GB.out k hlt)
      have SA := Lib.hid (fun (h : okI (s[k].toNat : Int) = true) j (hj : j < k + 1) => (Nat.lt_or_ge j k).elim (HA.out j) (fun h' => by rw [show j = k by omega, E.out]; exact h))
      have SD := Lib.hid (fun (h : 0 < k ∨ digI (s[k].toNat : Int) = false) (hj : 0 < k + 1) => (Nat.eq_zero_or_pos k).elim (fun h0 => h.elim (fun h' => absurd h' (by omega)) (fun h' => by subst h0; rw [E.out]; exact h')) HD.out)
      have NK := Lib.hid (fun (h : okI (s[k].toNat : Int) = false) => NN.out k hlt (by rw [E.out]; exact h))
      have NZ := Lib.hid (fun (h0 : k = 0) (h : digI (s[k].toNat : Int) = true) => N0.out (by subst h0; rw [E.out]; exact h))
      clear E
      have h255 : s[k].toNat < 256 := s[k].toNat_lt
      have OK := Lib.hid (show okI (s[k].toNat : Int) = (((s[k].toNat : Int) == 95) || (decide (97 ≤ (s[k].toNat : Int)) && decide ((s[k].toNat : Int) ≤ 122)) || (decide (48 ≤ (s[k].toNat : Int)) && decide ((s[k].toNat : Int) ≤ 57))) from rfl)
      have DG := Lib.hid (show digI (s[k].toNat : Int) = (decide (48 ≤ (s[k].toNat : Int)) && decide ((s[k].toNat : Int) ≤ 57)) from rfl)
      have KP : decide ((0 : Int) < k) = decide (0 < k) := by simp
      rcases (show (97 ≤ s[k].toNat ∧ s[k].toNat ≤ 122) ∨ s[k].toNat = 95 ∨ (48 ≤ s[k].toNat ∧ s[k].toNat ≤ 57 ∧ 0 < k) ∨ (48 ≤ s[k].toNat ∧ s[k].toNat ≤ 57 ∧ k = 0) ∨ s[k].toNat < 48 ∨ (58 ≤ s[k].toNat ∧ s[k].toNat ≤ 94) ∨ s[k].toNat = 96 ∨ 122 < s[k].toNat by omega) with h | h | h | h | h | h | h | h
      · have e1 : decide ((97 : Int) ≤ s[k].toNat) = true := decide_eq_true (by omega)
        have e2 : decide ((s[k].toNat : Int) ≤ 122) = true := decide_eq_true (by omega)
        have S2 := Lib.hid (SA.out (by rw [OK.out, e1, e2]; simp))
        have S3 := Lib.hid (SD.out (.inr (by rw [DG.out, decide_eq_false (p := (s[k].toNat : Int) ≤ 57) (by omega), Bool.and_false])))
        clear SA SD NK NZ OK DG KP
        go_wp2_with fail
        go_round
        case rel => exact ⟨k + 1, by omega, by go_num, S2.out, S3.out⟩
        case measure => simp [intOf]; omega
      · have e1 : decide ((97 : Int) ≤ s[k].toNat) = false := decide_eq_false (by omega)
        have e3 : ((s[k].toNat : Int) == 95) = true := by simp; omega
        have S2 := Lib.hid (SA.out (by rw [OK.out, e3]; simp))
        have S3 := Lib.hid (SD.out (.inr (by rw [DG.out, decide_eq_false (p := (s[k].toNat : Int) ≤ 57) (by omega), Bool.and_false])))
        clear SA SD NK NZ OK DG KP h
        go_wp2_with fail
        go_round
        case rel => exact ⟨k + 1, by omega, by go_num, S2.out, S3.out⟩
        case measure => simp [intOf]; omega
      · have e1 : decide ((97 : Int) ≤ s[k].toNat) = false := decide_eq_false (by omega)
        have e3 : ((s[k].toNat : Int) == 95) = false := by simp; omega
        have e4 : decide ((48 : Int) ≤ s[k].toNat) = true := decide_eq_true (by omega)
        have e5 : decide ((s[k].toNat : Int) ≤ 57) = true := decide_eq_true (by omega)
        have e6 : decide ((0 : Int) < k) = true := decide_eq_true (by omega)
        have S2 := Lib.hid (SA.out (by rw [OK.out, e4, e5]; simp))
        have S3 := Lib.hid (SD.out (.inl h.2.2))
        clear SA SD NK NZ OK DG KP
        go_wp2_with fail
        go_round
        case rel => exact ⟨k + 1, by omega, by go_num, S2.out, S3.out⟩
        case measure => simp [intOf]; omega
      · have e5 : decide ((s[k].toNat : Int) ≤ 57) = true := decide_eq_true (by omega)
        have e4 : decide ((48 : Int) ≤ s[k].toNat) = true := decide_eq_true (by omega)
        have S2 := Lib.hid (NZ.out h.2.2 (by rw [DG.out, e4, e5]; rfl))
        clear SA SD NK NZ OK DG KP e4 e5
        obtain ⟨h3, h4, rfl⟩ := h
        have e1 : decide ((97 : Int) ≤ s[0].toNat) = false := decide_eq_false (by omega)
        have e3 : ((s[0].toNat : Int) == 95) = false := by simp; omega
        have e4 : decide ((48 : Int) ≤ s[0].toNat) = true := decide_eq_true (by omega)
        have e5 : decide ((s[0].toNat : Int) ≤ 57) = true := decide_eq_true (by omega)
        go_wp2_with fail
        go_ret
        exact ⟨by rw [S2.out]; rfl, rfl⟩
      · have e1 : decide ((97 : Int) ≤ s[k].toNat) = false := decide_eq_false (by omega)
        have e3 : ((s[k].toNat : Int) == 95) = false := by simp; omega
        have e4 : decide ((48 : Int) ≤ s[k].toNat) = false := decide_eq_false (by omega)
        have S2 := Lib.hid (NK.out (by rw [OK.out, e1, e3, e4]; rfl))
        clear SA SD NK NZ OK DG
        go_wp2_with fail
        all_goals
          go_ret
          exact ⟨by rw [S2.out]; rfl, rfl⟩
      · have e1 : decide ((97 : Int) ≤ s[k].toNat) = false := decide_eq_false (by omega)
        have e3 : ((s[k].toNat : Int) == 95) = false := by simp; omega
        have e4 : decide ((48 : Int) ≤ s[k].toNat) = true := decide_eq_true (by omega)
        have e5 : decide ((s[k].toNat : Int) ≤ 57) = false := decide_eq_false (by omega)
        have S2 := Lib.hid (NK.out (by rw [OK.out, e1, e3, e4, e5]; rfl))
        clear SA SD NK NZ OK DG
        go_wp2_with fail
        all_goals
          go_ret
          exact ⟨by rw [S2.out]; rfl, rfl⟩
      · have e1 : decide ((97 : Int) ≤ s[k].toNat) = false := decide_eq_false (by omega)
        have e3 : ((s[k].toNat : Int) == 95) = false := by simp; omega
        have e4 : decide ((48 : Int) ≤ s[k].toNat) = true := decide_eq_true (by omega)
        have e5 : decide ((s[k].toNat : Int) ≤ 57) = false := decide_eq_false (by omega)
        have S2 := Lib.hid (NK.out (by rw [OK.out, e1, e3, e4, e5]; rfl))
        clear SA SD NK NZ OK DG h
        go_wp2_with fail
        all_goals
          go_ret
          exact ⟨by rw [S2.out]; rfl, rfl⟩
      · have e1 : decide ((97 : Int) ≤ s[k].toNat) = true := decide_eq_true (by omega)
        have e2 : decide ((s[k].toNat : Int) ≤ 122) = false := decide_eq_false (by omega)
        have e3 : ((s[k].toNat : Int) == 95) = false := by simp; omega
        have e4 : decide ((48 : Int) ≤ s[k].toNat) = true := decide_eq_true (by omega)
        have e5 : decide ((s[k].toNat : Int) ≤ 57) = false := decide_eq_false (by omega)
        have S2 := Lib.hid (NK.out (by rw [OK.out, e1, e2, e3, e4, e5]; rfl))
        clear SA SD NK NZ OK DG
        go_wp2_with fail
        all_goals
          go_ret
          exact ⟨by rw [S2.out]; rfl, rfl⟩
    · have hI : ¬ (k : Int) < s.size := by omega
      have R := Lib.hid (NY.out (HD.out (by omega)) (fun j hj => HA.out j (by omega)))
      go_wp2_with fail
      go_ret
      exact ⟨by rw [R.out]; rfl, rfl⟩

/-- The word of the first label of a name. -/
def findL : List Lab → ByteArray → Int
  | [], _ => -1
  | x :: l, s => if (x.1.toList == s.toList) = true then (x.2 : Int) else findL l s

def noLb : Lab := (⟨#[]⟩, 0)

theorem row_cells05 {α : Type} (f : α → List Value) (k : Nat) (hk : ∀ x, (f x).length = k) (d : α) : ∀ (l : List α) (t j : Nat), t < l.length → j < k → (l.flatMap f)[t * k + j]? = (f (l.getD t d))[j]?
  | [], t, j, ht, _ => absurd ht (by simp)
  | x :: l, 0, j, _, hj => by
    rw [List.flatMap_cons, Nat.zero_mul, Nat.zero_add, List.getElem?_append_left (by rw [hk]; exact hj)]
    rfl
  | x :: l, t + 1, j, ht, hj => by
    have e : (t + 1) * k + j = k + (t * k + j) := by rw [Nat.add_mul]; omega
    rw [List.flatMap_cons, List.getElem?_append_right (by rw [hk, e]; omega), hk, e, Nat.add_sub_cancel_left, row_cells05 f k hk d l t j (by simpa using ht) hj]
    rfl

/-- The cells of an own row of structs. -/
theorem own_cell {α : Type} {f : α → List Value} {k : Nat} (hk : ∀ x, (f x).length = k) (d : α) {w : World} {B : Nat} {e : TypeId} {A : Option Addr} {n c : Nat} {l : List α} (h : w.ownsRow B e k (.slice A n c) n (l.flatMap f)) (hn : l.length = n) {t : Nat} (ht : t < n) : n ≤ c ∧ ∃ g, A = some ⟨g, 0, none⟩ ∧ B ≤ g ∧ g < w.heap.size ∧ ∀ j, j < k → w.cell? ⟨g, t * k + j, none⟩ = (f (l.getD t d))[j]? := by
  rcases h.2 with ⟨_, h2⟩ | ⟨g, cap, cur, h1, hB, hg, hcap, _, hsz, htk⟩
  · omega
  · injection h1 with h1 h2 h3
    subst h1 h3
    have hW : Whole w g e cur := hg
    refine ⟨hcap, g, rfl, hB, hW.lt, fun j hj => ?_⟩
    have hm : (t + 1) * k ≤ n * k := Nat.mul_le_mul_right k ht
    rw [Nat.add_mul] at hm
    rw [hW.cell (t * k + j), ← row_cells05 f k hk d l t j (by omega) hj, ← htk, List.getElem?_take, if_pos (by omega), Array.getElem?_toList]

set_option maxHeartbeats 4000000 in
set_option maxRecDepth 100000 in
theorem find05_any (A : Option Addr) (c B : Nat) (ls : List Lab) (s : ByteArray) (w : World) (h : w.ownsRow B 59 2 (.slice A ls.length c) ls.length (ls.flatMap labCells)) (hn : ls.length ≤ 1000000) (hm : ∀ x ∈ ls, x.1.size ≤ 1000000) (hs : s.size ≤ 1000000) :
    Calls Tryd.prog 16 #[.slice A ls.length c, .string s] w fun e w' => e = .returned (.int .i64 (findL ls s)) ∧ w = w' := by
  have H := Lib.hid h
  have HM := Lib.hid hm
  have RR := Lib.hid (show findL (ls.drop 0) s = findL ls s from rfl)
  clear h hm
  generalize findL ls s = r at *
  go_enter Tryd.func16, Tryd.ntmps16
  go_wp2_with fail
  go_loop [5] (fun i => ∃ t : Nat, t ≤ ls.length ∧ i = .int .i64 t ∧ findL (ls.drop t) s = r) (fun i => ls.length - (intOf i).toNat)
  case atStart => exact ⟨0, Nat.zero_le _, rfl, RR.out⟩
  case round =>
    obtain ⟨t, ht, rfl, hR⟩ := hrel
    rcases Nat.lt_or_ge t ls.length with hlt | hge
    · have hIt : (t : Int) < ls.length := by omega
      obtain ⟨hc3, g, rfl, _, hgl, hg⟩ := own_cell (f := labCells) (fun _ => rfl) noLb H.out rfl hlt
      have hO : ls.getD t noLb = ls[t] := by
        rw [List.getD_eq_getElem?_getD, List.getElem?_eq_getElem hlt]
        rfl
      have hlz := HM.out _ (List.getElem_mem hlt)
      have hstep : findL (ls[t] :: ls.drop (t + 1)) s = r := by rw [← List.drop_eq_getElem_cons hlt]; exact hR
      rw [hO] at hg
      generalize ls[t] = l at *
      obtain ⟨ln, lw⟩ := l
      have x0 : w.cell? ⟨g, t * 2, none⟩ = some (.string ln) := hg 0 (by decide)
      have x1 : w.cell? ⟨g, t * 2 + 1, none⟩ = some (.int .i64 lw) := hg 1 (by decide)
      clear hg hO hR
      cases he : (ln.toList == s.toList) with
      | true =>
        have hX : r = lw := by
          rw [← hstep]
          exact if_pos he
        have HX := Lib.hid hX
        clear hstep hX
        go_wp2_with fail
        go_ret
        exact ⟨by rw [HX.out]; rfl, rfl⟩
      | false =>
        have hX : findL (ls.drop (t + 1)) s = r := by
          rw [← hstep]
          exact (if_neg (by rw [he]; decide)).symm
        have HX := Lib.hid hX
        clear hstep hX
        go_wp2_with fail
        go_round
        case rel => exact ⟨t + 1, by omega, by go_num, HX.out⟩
        case measure => simp [intOf]; omega
    · have hn : t = ls.length := by omega
      subst hn
      have hIt : ¬ (ls.length : Int) < ls.length := by omega
      have hX : r = -1 := by
        rw [← hR, List.drop_length]
        rfl
      have HX := Lib.hid hX
      clear hX hR
      go_wp2_with fail
      go_ret
      exact ⟨by rw [HX.out]; rfl, rfl⟩

set_option maxHeartbeats 2000000 in
set_option maxRecDepth 100000 in
theorem op05_any (s : ByteArray) (w : World) (hs : s.size ≤ 1000000) :
    Calls Tryd.prog 49 #[.string s] w fun e w' => e = .returned (.int .i64 (opOf s)) ∧ Below w.heap.size w w' := by
  have HO := Lib.hid (show opOf s = opFrom s 1 34 from rfl)
  have RN := Lib.hid refname_any
  go_enter Tryd.func49, Tryd.ntmps49
  go_wp2_with fail
  go_loopw [3] (fun i wr => ∃ k : Nat, 1 ≤ k ∧ k ≤ 35 ∧ i = .int .i64 k ∧ opOf s = opFrom s k (35 - k) ∧ Below w.heap.size w wr) (fun i _ => 35 - (intOf i).toNat)
  case atStart => exact ⟨1, by omega, by omega, rfl, HO.out, Below.refl _ _⟩
  case round =>
    obtain ⟨k, hk1, hk2, rfl, ho, hB⟩ := hrel
    have HB := Lib.hid hB
    clear hB
    by_cases hlt2 : k < 35
    · have d3 : (k : Int) ≤ 34 := by omega
      have hstep : opFrom s k (35 - k) = if nameOf k = s then (k : Int) else opFrom s (k + 1) (34 - k) := by
        obtain ⟨m, hm⟩ : ∃ m, 35 - k = m + 1 := ⟨34 - k, by omega⟩
        rw [hm, show 34 - k = m by omega]
        rfl
      rw [hstep] at ho
      have RK := Lib.hid (RN.out k wr)
      clear hstep
      by_cases he : nameOf k = s
      · rw [if_pos he] at ho
        rw [he] at RK
        have HO2 := Lib.hid ho
        have hq : (s.toList == s.toList) = true := by simp
        clear he ho
        go_wp2_with fail
        refine RK.out.mono ?_
        rintro e w1 ⟨rfl, hb1⟩
        have B1 := Lib.hid (HB.out.trans (hb1.mono HB.out.size))
        clear hb1 HB RK
        go_wp2_with fail
        go_ret
        exact ⟨congrArg (fun z => Ending.returned (.int .i64 z)) HO2.out.symm, B1.out⟩
      · rw [if_neg he] at ho
        have HO2 := Lib.hid ho
        have hne : ((nameOf (k : Int)).toList == s.toList) = false := bytes_ne he
        generalize nameOf (k : Int) = u at *
        clear ho
        go_wp2_with fail
        refine RK.out.mono ?_
        rintro e w1 ⟨rfl, hb1⟩
        have B1 := Lib.hid (HB.out.trans (hb1.mono HB.out.size))
        clear hb1 HB RK
        go_wp2_with fail
        go_roundw
        case rel => exact ⟨k + 1, by omega, by omega, by go_num, by rw [HO2.out, show 35 - (k + 1) = 34 - k by omega], B1.out⟩
        case measure => simp [intOf]; omega
    · obtain rfl : k = 35 := by omega
      have HO2 := Lib.hid ho
      clear ho
      go_wp2_with fail
      go_ret
      exact ⟨congrArg (fun z => Ending.returned (.int .i64 z)) HO2.out.symm, HB.out⟩

/-- The pieces of a text between the bytes c. -/
def cutS (c : UInt8) (s : ByteArray) : List ByteArray := (cutL c s.data.toList).map (fun l => ⟨l.toArray⟩)

theorem cutS_none {c : UInt8} {s : ByteArray} {f : Nat} (h : ∀ j, f ≤ j → j < s.size → s.get! j ≠ c) : cutS c (s.extract f s.size) = [s.extract f s.size] := by
  unfold cutS
  rw [cutL_none]
  · rw [List.map_cons, List.map_nil, Array.toArray_toList]
  · intro b hb
    rw [Lib.extract_to_end] at hb
    obtain ⟨k, hk, rfl⟩ := List.getElem_of_mem hb
    have hl : k < s.data.toList.length - f := by simpa using hk
    rw [← Lib.size_eq] at hl
    rw [List.getElem_drop]
    have h2 := h (f + k) (by omega) (by omega)
    rw [get_bang (by omega)] at h2
    exact h2

theorem cutS_hit {c : UInt8} {s : ByteArray} {f i : Nat} (hf : f ≤ i) (hi : i < s.size) (h : ∀ j, f ≤ j → j < i → s.get! j ≠ c) (hc : s.get! i = c) : cutS c (s.extract f s.size) = s.extract f i :: cutS c (s.extract (i + 1) s.size) := by
  unfold cutS
  rw [Lib.extract_to_end, Lib.extract_to_end]
  have hil : i < s.data.toList.length := by rw [← Lib.size_eq]; exact hi
  have hci : s.data.toList[i] = c := by
    rw [get_bang hi] at hc
    exact hc
  have e : s.data.toList.drop f = (s.data.toList.drop f).take (i - f) ++ c :: s.data.toList.drop (i + 1) := by
    conv => lhs; rw [← List.take_append_drop (i - f) (s.data.toList.drop f)]
    rw [List.drop_drop, show f + (i - f) = i by omega, List.drop_eq_getElem_cons hil, hci]
  rw [e, cutL_app]
  · rw [List.map_cons]
    congr 1
    rw [Lib.extract_eq]
  · intro b hb
    obtain ⟨k, hk, rfl⟩ := List.getElem_of_mem hb
    have hl : k < i - f := by
      have := hk
      rw [List.length_take] at this
      omega
    rw [List.getElem_take, List.getElem_drop]
    have h2 := h (f + k) (by omega) (by omega)
    rw [get_bang (by omega)] at h2
    exact h2

set_option maxHeartbeats 4000000 in
set_option maxRecDepth 100000 in
theorem cut05_any (s : ByteArray) (c : UInt8) (w : World) (hs : s.size ≤ 1000000) :
    Calls Tryd.prog 23 #[.string s, .int .u8 c.toNat] w fun e w' => ∃ v, e = .returned v ∧ OwnsS 9 w' w.heap.size v (cutS c s).length (cutS c s) ∧ Below w.heap.size w w' := by
  have CS := Lib.hid (show cutS c s = [] ++ cutS c (s.extract 0 s.size) by simp)
  have CN := Lib.hid (fun f => @cutS_none c s f)
  have CH := Lib.hid (fun f i => @cutS_hit c s f i)
  have GB := Lib.hid (fun k => @get_bang s k)
  have CB := Lib.hid (show (cutS c s).length ≤ s.size + 1 by unfold cutS; rw [List.length_map, cutL_len]; have := List.count_le_length (a := c) (l := s.data.toList); rw [← Lib.size_eq] at this; omega)
  have O0 := Lib.hid (OwnsS.nil 9 w w.heap.size)
  generalize cutS c s = R at *
  go_enter Tryd.func23, Tryd.ntmps23
  go_wp2_with fail
  go_loopw [5, 6, 7] (fun v fr i wr => ∃ (f k n : Nat) (done : List ByteArray), f ≤ k ∧ k ≤ s.size ∧ i = .int .i64 k ∧ fr = .int .i64 f ∧ R = done ++ cutS c (s.extract f s.size) ∧ (∀ j, f ≤ j → j < k → s.get! j ≠ c) ∧ OwnsS 9 wr w.heap.size v n done ∧ Below w.heap.size w wr) (fun _ _ i _ => s.size - (intOf i).toNat)
  case atStart => exact ⟨0, 0, 0, [], Nat.le_refl _, Nat.zero_le _, rfl, rfl, CS.out, fun j h1 h2 => absurd h2 (Nat.not_lt_zero _), O0.out, Below.refl _ _⟩
  case round =>
    obtain ⟨f, k, n, done, hfk, hk, rfl, rfl, hR, hN, hO, hB⟩ := hrel
    have HR := Lib.hid hR
    have HN := Lib.hid hN
    have HO := Lib.hid hO
    have HB := Lib.hid hB
    have hnl := hO.len
    have hnb : n ≤ s.size + 1 := by
      have := CB.out
      rw [hR, List.length_append] at this
      omega
    obtain ⟨A, cp, rfl, _⟩ := hO.form
    clear hR hN hO hB
    by_cases hlt : k < s.size
    · have hI : (k : Int) < s.size := by omega
      have E := Lib.hid (GB.out k hlt)
      cases he : ((s[k].toNat : Int) == (c.toNat : Int)) with
      | true =>
        have hc : s.get! k = c := by
          rw [E.out]
          have : s[k].toNat = c.toNat := by
            have := beq_iff_eq.1 he
            omega
          exact UInt8.toNat_inj.1 this
        have R2 := Lib.hid (show R = (done ++ [s.extract f k]) ++ cutS c (s.extract (k + 1) s.size) by rw [HR.out, CH.out f k hfk hlt HN.out hc]; simp)
        have hsz : (s.extract f k).size ≤ 1000000 := by rw [ByteArray.size_extract]; omega
        clear E HR HN hc
        have hfI : (f : Int) ≤ k := by omega
        go_wp2_with (at_builtin; refine wpList_append_strs _ rfl _ _ rfl rowStr w.heap.size (.slice A n cp) n done rfl (HO.out.alloc _) (some ⟨wr.heap.size, 0, none⟩) 1 1 [s.extract f k] rfl (strs_built 9 wr [s.extract f k] _ rfl 1 rfl (by decide) _ rfl) (by omega) (Nat.le_trans HB.out.size (by simp)) ?_; intro v2 w2 ho2 hg2 _; have hb2 : Below w.heap.size wr w2 := OwnsS.grown_below ((Below.refl _ _).alloc HB.out.size _) (HO.out.alloc _) hg2 (Nat.le_trans HB.out.size (by simp)); have B2 := Lib.hid (HB.out.trans hb2); have O2 := Lib.hid ho2; clear ho2 hg2 hb2)
        go_roundw
        case rel => exact ⟨k + 1, k + 1, n + 1, done ++ [s.extract f k], Nat.le_refl _, by omega, by go_num, by go_num, R2.out, fun j h1 h2 => absurd h2 (by omega), O2.out, B2.out⟩
        case measure => simp [intOf]; omega
      | false =>
        have hc : s.get! k ≠ c := by
          rw [E.out]
          intro e
          rw [e] at he
          simp at he
        have N2 := Lib.hid (show ∀ j, f ≤ j → j < k + 1 → s.get! j ≠ c from fun j h1 h2 => (Nat.lt_or_ge j k).elim (HN.out j h1) (fun h' => by rw [show j = k by omega]; exact hc))
        clear E HN hc
        go_wp2_with fail
        go_roundw
        case rel => exact ⟨f, k + 1, n, done, by omega, by omega, by go_num, rfl, HR.out, N2.out, HO.out, HB.out⟩
        case measure => simp [intOf]; omega
    · have hI : ¬ (k : Int) < s.size := by omega
      have R2 := Lib.hid (show R = done ++ [s.extract f s.size] by rw [HR.out, CN.out f (fun j h1 h2 => HN.out j h1 (by omega))])
      have hsz : (s.extract f s.size).size ≤ 1000000 := by rw [ByteArray.size_extract]; omega
      have hfI : (f : Int) ≤ s.size := by omega
      clear HR HN
      go_wp2_with (at_builtin; refine wpList_append_strs _ rfl _ _ rfl rowStr w.heap.size (.slice A n cp) n done rfl (HO.out.alloc _) (some ⟨wr.heap.size, 0, none⟩) 1 1 [s.extract f s.size] rfl (strs_built 9 wr [s.extract f s.size] _ rfl 1 rfl (by decide) _ rfl) (by omega) (Nat.le_trans HB.out.size (by simp)) ?_; intro v2 w2 ho2 hg2 _; have hb2 : Below w.heap.size wr w2 := OwnsS.grown_below ((Below.refl _ _).alloc HB.out.size _) (HO.out.alloc _) hg2 (Nat.le_trans HB.out.size (by simp)); have B2 := Lib.hid (HB.out.trans hb2); have O2 := Lib.hid ho2; clear ho2 hg2 hb2)
      go_ret
      exact ⟨v2, rfl, by rw [R2.out, List.length_append, hnl]; exact O2.out, B2.out⟩
end Go.Proofs.YtnmpamfgkidmiaaDoor

/- Asm: the answers' named, fill. -/
namespace Go.Proofs.YtnmpamfgkidmiaaDoor
open Go.ChangeShapes Go.WideShapes Go.ChangeAt Go.RowKit
set_option linter.unusedVariables false
set_option linter.unusedSimpArgs false

/-- The name that a row's last field is; nothing. -/
def namedP (op : Int) (ss : List ByteArray) : ByteArray := if isNm op ss = true then lastL ss else ⟨#[]⟩

/-- The fields, a text in the place of the name. -/
def substL (op : Int) (ss : List ByteArray) (last : ByteArray) : List ByteArray := if isNm op ss = true then ss.set (ss.length - 1) last else ss

theorem isNm_ends {op : Int} {ss : List ByteArray} (h : isNm op ss = true) : 1 ≤ ss.length ∧ takesB op = true ∧ nameB (lastL ss) = true := by
  unfold isNm at h
  simp only [Bool.and_eq_true, decide_eq_true_eq] at h
  exact h

theorem name_some {s : ByteArray} (h : nameB s = true) : s.toList.isEmpty = false := by
  unfold nameB at h
  simp only [Bool.and_eq_true, decide_eq_true_eq] at h
  rw [Lib.toList_data]
  have h1 := h.1.1.1
  rw [Lib.size_eq] at h1
  cases hl : s.data.toList with
  | nil => rw [hl] at h1; simp at h1
  | cons a l => rfl

theorem named_yes {op : Int} {ss : List ByteArray} (h : isNm op ss = true) : namedP op ss = lastL ss ∧ (namedP op ss).toList.isEmpty = false := by
  have e : namedP op ss = lastL ss := if_pos h
  exact ⟨e, by rw [e]; exact name_some (isNm_ends h).2.2⟩

theorem named_no {op : Int} {ss : List ByteArray} (h : isNm op ss = false) : namedP op ss = ⟨#[]⟩ ∧ (namedP op ss).toList.isEmpty = true := by
  have e : namedP op ss = ⟨#[]⟩ := if_neg (by rw [h]; decide)
  exact ⟨e, by rw [e, Lib.toList_data]; rfl⟩

/-- A row as a value. -/
abbrev rowV (l op wd : Int) (v : Value) : Value := .agg #[.int .i64 l, .int .i64 op, .int .u32 wd, v]

set_option maxHeartbeats 8000000 in
set_option maxRecDepth 100000 in
theorem named05_any (l op wd : Int) (A : Option Addr) (n c : Nat) (ss : List ByteArray) (w : World) (hs : Strs w A n ss) (hz : ∀ z ∈ ss, z.size ≤ 1000000) (hn : n ≤ 1000000) :
    Calls Tryd.prog 51 #[rowV l op wd (.slice A n c)] w fun e w' => e = .returned (.string (namedP op ss)) ∧ Below w.heap.size w w' := by
  letI : LinesAt := ⟨0, #[]⟩
  have BB := Lib.hid ((Below.refl w.heap.size w).alloc (Nat.le_refl _) (.cells #[.int .i64 l, .int .i64 op, .int .u32 wd, .slice A n c] 61))
  have Q := Lib.hid (Whole.made w 61 #[.int .i64 l, .int .i64 op, .int .u32 wd, .slice A n c] _ rfl)
  have HS := Lib.hid (hs.below BB.out)
  have q1 : (w.alloc (.cells #[.int .i64 l, .int .i64 op, .int .u32 wd, .slice A n c] 61)).cell? ⟨w.heap.size, 1, none⟩ = some (.int .i64 op) := Q.out.cell 1
  have q3 : (w.alloc (.cells #[.int .i64 l, .int .i64 op, .int .u32 wd, .slice A n c] 61)).cell? ⟨w.heap.size, 3, none⟩ = some (.slice A n c) := Q.out.cell 3
  have hlen := hs.1
  cases ht : takesB op with
  | false =>
    have R := Lib.hid (named_no (isNm_takes ss ht)).1
    have hop : op < 20 ∨ 23 < op := by
      unfold takesB at ht
      rw [Bool.and_eq_false_iff, decide_eq_false_iff_not, decide_eq_false_iff_not] at ht
      omega
    rw [R.out]
    clear hs ht HS
    rcases hop with h | h
    · have d1 : decide (op < 20) = true := decide_eq_true h
      go_enter Tryd.func51, Tryd.ntmps51
      go_wp2_with fail
      go_ret
      exact ⟨rfl, BB.out⟩
    · have d1 : decide (op < 20) = false := decide_eq_false (by omega)
      have d2 : decide (23 < op) = true := decide_eq_true h
      go_enter Tryd.func51, Tryd.ntmps51
      go_wp2_with fail
      go_ret
      exact ⟨rfl, BB.out⟩
  | true =>
    have hop := ht
    unfold takesB at hop
    simp only [Bool.and_eq_true, decide_eq_true_eq] at hop
    have d1 : decide (op < 20) = false := decide_eq_false (by omega)
    have d2 : decide (23 < op) = false := decide_eq_false (by omega)
    rcases Nat.eq_zero_or_pos n with h0 | h0
    · subst h0
      have R := Lib.hid (named_no (isNm_zero op hlen)).1
      rw [R.out]
      clear hs ht HS hop
      go_enter Tryd.func51, Tryd.ntmps51
      go_wp2_with fail
      go_ret
      exact ⟨rfl, BB.out⟩
    · obtain ⟨m, rfl⟩ : ∃ m, n = m + 1 := ⟨n - 1, by omega⟩
      have dn : (((m + 1 : Nat) : Int) == 0) = false := by simp; omega
      have hll : lastL ss = ss.getD m ⟨#[]⟩ := by
        unfold lastL
        rw [hlen, Nat.add_sub_cancel]
      obtain ⟨bz, oz, rfl, _, hc⟩ := HS.out.2 (by omega)
      have u0 := hc m (Nat.lt_succ_self m)
      rw [← hll] at u0
      have hlz : (lastL ss).size ≤ 1000000 := by
        have hm : m < ss.length := by omega
        rw [hll, List.getD_eq_getElem?_getD, List.getElem?_eq_getElem hm]
        exact hz _ (List.getElem_mem hm)
      have NM := Lib.hid (fun w => refname05_any (lastL ss) w hlz)
      cases hb : nameB (lastL ss) with
      | true =>
        have R := Lib.hid (named_yes (isNm_yes (by omega) ht hb)).1
        rw [R.out]
        rw [hb] at NM
        clear hs ht HS hop hc hll hb R
        generalize lastL ss = ll at *
        go_enter Tryd.func51, Tryd.ntmps51
        go_wp2_with fail
        refine (NM.out _).mono ?_
        rintro e w1 ⟨rfl, rfl⟩
        go_wp2_with fail
        go_ret
        exact ⟨rfl, BB.out⟩
      | false =>
        have R := Lib.hid (named_no (isNm_name op hb)).1
        rw [R.out]
        rw [hb] at NM
        clear hs ht HS hop hc hll hb R
        generalize lastL ss = ll at *
        go_enter Tryd.func51, Tryd.ntmps51
        go_wp2_with fail
        refine (NM.out _).mono ?_
        rintro e w1 ⟨rfl, rfl⟩
        go_wp2_with fail
        go_ret
        exact ⟨rfl, BB.out⟩

theorem substL_len (op : Int) (ss : List ByteArray) (last : ByteArray) : (substL op ss last).length = ss.length := by
  unfold substL
  split <;> simp

theorem substL_at {op : Int} {ss : List ByteArray} {last : ByteArray} {k : Nat} (hk : k < ss.length) : (substL op ss last).getD k ⟨#[]⟩ = if k + 1 = ss.length ∧ isNm op ss = true then last else ss.getD k ⟨#[]⟩ := by
  unfold substL
  by_cases h : isNm op ss = true
  · rw [if_pos h]
    by_cases e : k + 1 = ss.length
    · rw [if_pos ⟨e, h⟩, List.getD_eq_getElem?_getD, show ss.length - 1 = k by omega, List.getElem?_set_self hk]
      rfl
    · rw [if_neg (fun x => e x.1), List.getD_eq_getElem?_getD, List.getElem?_set_ne (by omega), ← List.getD_eq_getElem?_getD]
  · rw [if_neg h, if_neg (fun x => h x.2)]

theorem take_snoc {l : List ByteArray} {k : Nat} (h : k < l.length) : l.take (k + 1) = l.take k ++ [l.getD k ⟨#[]⟩] := by
  rw [List.take_add_one, List.getElem?_eq_getElem h, List.getD_eq_getElem?_getD, List.getElem?_eq_getElem h]
  rfl

set_option maxHeartbeats 8000000 in
set_option maxRecDepth 100000 in
theorem reffill05_any (l op wd : Int) (A : Option Addr) (n c : Nat) (ss : List ByteArray) (last : ByteArray) (w : World) (hs : Strs w A n ss) (hz : ∀ z ∈ ss, z.size ≤ 1000000) (hn : n ≤ 1000000) (hl : last.size ≤ 1000000) :
    Calls Tryd.prog 50 #[rowV l op wd (.slice A n c), .string last] w (FillPost op (substL op ss last) w) := by
  have hlen := hs.1
  have hz2 : ∀ z ∈ substL op ss last, z.size ≤ maxLen := by
    intro z hz'
    unfold substL at hz'
    unfold maxLen
    split at hz'
    · rcases List.mem_or_eq_of_mem_set hz' with h | h
      · have := hz z h
        omega
      · subst h
        omega
    · have := hz z hz'
      omega
  have SL := Lib.hid (substL_len op ss last)
  have SA := Lib.hid (fun k => @substL_at op ss last k)
  have TK := Lib.hid (fun k => @take_snoc (substL op ss last) k)
  have FL := Lib.hid (fun A cp w h => reffill_long op A n cp (substL op ss last) w h hz2 hn)
  have T0 := Lib.hid (show (substL op ss last).take 0 = [] from rfl)
  have TN := Lib.hid (show (substL op ss last).take n = substL op ss last from List.take_of_length_le (by rw [SL.out]; omega))
  have NM := Lib.hid (fun w h => named05_any l op wd A n c ss w h hz hn)
  have NY := Lib.hid (@named_yes op ss)
  have NN := Lib.hid (@named_no op ss)
  rw [SL.out, hlen] at TK
  rw [hlen] at SA
  have HS := Lib.hid hs
  have BB := Lib.hid (((Below.refl w.heap.size w).alloc (Nat.le_refl _) (.cells #[.int .i64 l, .int .i64 op, .int .u32 wd, .slice A n c] 61)).alloc (by simp) (.cells #[.int .i64 0, .int .i64 0, .int .i64 0, .int .i64 0, .int .i64 0] 78))
  have Q := Lib.hid ((Whole.made w 61 #[.int .i64 l, .int .i64 op, .int .u32 wd, .slice A n c] _ rfl).alloc (.cells #[.int .i64 0, .int .i64 0, .int .i64 0, .int .i64 0, .int .i64 0] 78))
  have P := Lib.hid (Whole.made (w.alloc (.cells #[.int .i64 l, .int .i64 op, .int .u32 wd, .slice A n c] 61)) 78 #[.int .i64 0, .int .i64 0, .int .i64 0, .int .i64 0, .int .i64 0] (w.heap.size + 1) (by simp))
  have HB := Lib.hid (show ((w.alloc (.cells #[.int .i64 l, .int .i64 op, .int .u32 wd, .slice A n c] 61)).alloc (.cells #[.int .i64 0, .int .i64 0, .int .i64 0, .int .i64 0, .int .i64 0] 78)).heap.size = w.heap.size + 2 by simp)
  clear hs hz hz2 SL
  unfold FillPost
  generalize substL op ss last = S at *
  generalize namedP op ss = nm at *
  go_enter Tryd.func50, Tryd.ntmps50
  go_wp2_with fail
  generalize (w.alloc (.cells #[.int .i64 l, .int .i64 op, .int .u32 wd, .slice A n c] 61)).alloc (.cells #[.int .i64 0, .int .i64 0, .int .i64 0, .int .i64 0, .int .i64 0] 78) = V at *
  have O0 := Lib.hid (OwnsS.nil 9 V V.heap.size)
  go_loopw [6, 7] (fun v i wr => ∃ k : Nat, k ≤ n ∧ i = .int .i64 k ∧ OwnsS 9 wr V.heap.size v k (S.take k) ∧ Below V.heap.size V wr) (fun _ i _ => n - (intOf i).toNat)
  case atStart => exact ⟨0, Nat.zero_le _, rfl, by rw [T0.out]; exact O0.out, Below.refl _ _⟩
  case round =>
    obtain ⟨k, hk, rfl, hO, hB⟩ := hrel
    have HO := Lib.hid hO
    have HBr := Lib.hid hB
    obtain ⟨Av, cv, rfl, _⟩ := hO.form
    clear hO hB
    have hVl : w.heap.size < V.heap.size := by rw [HB.out]; omega
    have hVl1 : w.heap.size + 1 < V.heap.size := by rw [HB.out]; omega
    have Qr := Lib.hid (Q.out.below HBr.out hVl)
    have Pr := Lib.hid (P.out.below HBr.out hVl1)
    have q0 : wr.cell? ⟨w.heap.size, 0, none⟩ = some (.int .i64 l) := Qr.out.cell 0
    have q1 : wr.cell? ⟨w.heap.size, 1, none⟩ = some (.int .i64 op) := Qr.out.cell 1
    have q2 : wr.cell? ⟨w.heap.size, 2, none⟩ = some (.int .u32 wd) := Qr.out.cell 2
    have q3 : wr.cell? ⟨w.heap.size, 3, none⟩ = some (.slice A n c) := Qr.out.cell 3
    have BW := Lib.hid (BB.out.trans (HBr.out.mono (Nat.le_of_lt hVl)))
    by_cases hlt : k < n
    · have hI : (k : Int) < n := by omega
      have HSr := Lib.hid (HS.out.below BW.out)
      obtain ⟨bz, oz, rfl, hbz, hc⟩ := HSr.out.2 (by omega)
      have u0 := hc k hlt
      have TKk := Lib.hid (TK.out k hlt)
      have SAk := Lib.hid (SA.out k hlt)
      clear hc
      generalize hf : ss.getD k ⟨#[]⟩ = f at *
      have HF := Lib.hid hf
      clear hf
      by_cases hlast : k + 1 = n
      · have d : ((k : Int) == (n : Int) - 1) = true := by simp; omega
        have NMr := Lib.hid (NM.out wr HSr.out)
        cases hi : isNm op ss with
        | true =>
          have e : S.getD k ⟨#[]⟩ = last := by rw [SAk.out, if_pos ⟨hlast, hi⟩]
          have nm1 := (NY.out hi).2
          rw [e] at TKk
          clear SAk e hi
          go_wp2_with fail
          refine NMr.out.mono ?_
          rintro e w1 ⟨rfl, hb1⟩
          have O1 := Lib.hid (HO.out.below hb1)
          have B1 := Lib.hid (HBr.out.trans (hb1.mono HBr.out.size))
          clear hb1 HO HBr Qr Pr q0 q1 q2 q3 u0 BW NMr
          go_wp2_with (at_builtin; refine wpList_append_strs _ rfl _ _ rfl rowStr V.heap.size (.slice Av k cv) k _ rfl (O1.out.alloc _) (some ⟨w1.heap.size, 0, none⟩) 1 1 [last] rfl (strs_built 9 w1 [last] _ rfl 1 rfl (by decide) _ rfl) (by omega) (Nat.le_trans B1.out.size (by simp)) ?_; intro v2 w2 ho2 hg2 _; have hb2 : Below V.heap.size w1 w2 := OwnsS.grown_below ((Below.refl _ _).alloc B1.out.size _) (O1.out.alloc _) hg2 (Nat.le_trans B1.out.size (by simp)); have B2 := Lib.hid (B1.out.trans hb2); have O2 := Lib.hid ho2; clear ho2 hg2 hb2)
          go_roundw
          case rel => exact ⟨k + 1, by omega, by go_num, by rw [TKk.out]; exact O2.out, B2.out⟩
          case measure => simp [intOf]; omega
        | false =>
          have e : S.getD k ⟨#[]⟩ = f := by rw [SAk.out, if_neg (fun h => by rw [hi] at h; cases h.2)]
          have nm1 := (NN.out hi).2
          rw [e] at TKk
          clear SAk e hi
          go_wp2_with fail
          refine NMr.out.mono ?_
          rintro e w1 ⟨rfl, hb1⟩
          have O1 := Lib.hid (HO.out.below hb1)
          have B1 := Lib.hid (HBr.out.trans (hb1.mono HBr.out.size))
          clear hb1 HO HBr Qr Pr q0 q1 q2 q3 u0 BW NMr
          go_wp2_with (at_builtin; refine wpList_append_strs _ rfl _ _ rfl rowStr V.heap.size (.slice Av k cv) k _ rfl (O1.out.alloc _) (some ⟨w1.heap.size, 0, none⟩) 1 1 [f] rfl (strs_built 9 w1 [f] _ rfl 1 rfl (by decide) _ rfl) (by omega) (Nat.le_trans B1.out.size (by simp)) ?_; intro v2 w2 ho2 hg2 _; have hb2 : Below V.heap.size w1 w2 := OwnsS.grown_below ((Below.refl _ _).alloc B1.out.size _) (O1.out.alloc _) hg2 (Nat.le_trans B1.out.size (by simp)); have B2 := Lib.hid (B1.out.trans hb2); have O2 := Lib.hid ho2; clear ho2 hg2 hb2)
          go_roundw
          case rel => exact ⟨k + 1, by omega, by go_num, by rw [TKk.out]; exact O2.out, B2.out⟩
          case measure => simp [intOf]; omega
      · have d : ((k : Int) == (n : Int) - 1) = false := by simp; omega
        have e : S.getD k ⟨#[]⟩ = f := by rw [SAk.out, if_neg (fun h => hlast h.1)]
        rw [e] at TKk
        clear SAk e
        have O1 := Lib.hid HO.out
        have B1 := Lib.hid HBr.out
        go_wp2_with (at_builtin; refine wpList_append_strs _ rfl _ _ rfl rowStr V.heap.size (.slice Av k cv) k _ rfl (O1.out.alloc _) (some ⟨wr.heap.size, 0, none⟩) 1 1 [f] rfl (strs_built 9 wr [f] _ rfl 1 rfl (by decide) _ rfl) (by omega) (Nat.le_trans B1.out.size (by simp)) ?_; intro v2 w2 ho2 hg2 _; have hb2 : Below V.heap.size wr w2 := OwnsS.grown_below ((Below.refl _ _).alloc B1.out.size _) (O1.out.alloc _) hg2 (Nat.le_trans B1.out.size (by simp)); have B2 := Lib.hid (B1.out.trans hb2); have O2 := Lib.hid ho2; clear ho2 hg2 hb2)
        go_roundw
        case rel => exact ⟨k + 1, by omega, by go_num, by rw [TKk.out]; exact O2.out, B2.out⟩
        case measure => simp [intOf]; omega
    · have hI : ¬ (k : Int) < n := by omega
      obtain rfl : k = n := by omega
      have FR := Lib.hid (FL.out Av cv wr (by have := HO.out.nums; rw [TN.out] at this; exact this))
      unfold FillPost at FR
      generalize hok : fillOk op S = ok at *
      have HK := Lib.hid hok
      clear hok
      go_wp2_with fail
      refine FR.out.mono ?_
      rintro e w1 ⟨o, a, b, cc, nn, rfl, hf, hb1⟩
      have P1 := Lib.hid (Pr.out.below hb1 Pr.out.lt)
      have B1 := Lib.hid (BW.out.trans (hb1.mono BW.out.size))
      have HF := Lib.hid hf
      clear hb1 hf FR q0 q1 q2 q3
      have p0 : w1.cell? ⟨w.heap.size + 1, 0, none⟩ = some (.int .i64 0) := P1.out.cell 0
      have p1 : w1.cell? ⟨w.heap.size + 1, 1, none⟩ = some (.int .i64 0) := P1.out.cell 1
      have p2 : w1.cell? ⟨w.heap.size + 1, 2, none⟩ = some (.int .i64 0) := P1.out.cell 2
      have p3 : w1.cell? ⟨w.heap.size + 1, 3, none⟩ = some (.int .i64 0) := P1.out.cell 3
      have p4 : w1.cell? ⟨w.heap.size + 1, 4, none⟩ = some (.int .i64 0) := P1.out.cell 4
      have f4 : ∀ i, w1.frozen? ⟨w.heap.size + 1, i, none⟩ = false := P1.out.free
      go_wp2_with fail
      refine bodyPost_ret (v := .tuple #[.agg #[.int .i64 o, .int .i64 a, .int .i64 b, .int .i64 cc, .int .i64 nn], .bool ok]) ?_ rfl ⟨o, a, b, cc, nn, by rw [HK.out], by rw [HK.out]; exact HF.out, ?_⟩
      · simp [results, Tryd.results50, go_sem, p0, p1, p2, p3, p4]
      · repeat (first | exact B1.out | refine Below.setCell ?_ (Nat.le_succ w.heap.size) _)
end Go.Proofs.YtnmpamfgkidmiaaDoor

/- Asm: the answers' split. -/
namespace Go.Proofs.YtnmpamfgkidmiaaDoor
open Go.ChangeShapes Go.WideShapes Go.ChangeAt Go.RowKit
set_option linter.unusedVariables false
set_option linter.unusedSimpArgs false

theorem ln_none {s : ByteArray} (h : ∀ j, j < s.size → s.get! j ≠ 32) : lnB s = false ∧ lnF s = s := by
  have hc := cut_none s.data.toList 32 (fun b hb => by
    obtain ⟨k, hk, rfl⟩ := List.getElem_of_mem hb
    have hk2 : k < s.size := by rw [Lib.size_eq]; exact hk
    have := h k hk2
    rw [get_bang hk2] at this
    exact this)
  unfold lnB lnF
  rw [hc]
  exact ⟨rfl, by cases s; simp⟩

theorem ln_hit {s : ByteArray} {k : Nat} (hk : k < s.size) (h : ∀ j, j < k → s.get! j ≠ 32) (hc : s.get! k = 32) : lnB s = true ∧ lnF s = s.extract 0 k ∧ lnR s = s.extract (k + 1) s.size := by
  have hil : k < s.data.toList.length := by rw [← Lib.size_eq]; exact hk
  have hci : s.data.toList[k] = 32 := by
    rw [get_bang hk] at hc
    exact hc
  have e : s.data.toList = s.data.toList.take k ++ 32 :: s.data.toList.drop (k + 1) := by
    conv => lhs; rw [← List.take_append_drop k s.data.toList, List.drop_eq_getElem_cons hil, hci]
  have ha : ∀ b ∈ s.data.toList.take k, b ≠ 32 := by
    intro b hb
    obtain ⟨j, hj, rfl⟩ := List.getElem_of_mem hb
    have hj2 : j < k := by
      rw [List.length_take] at hj
      omega
    rw [List.getElem_take]
    have h2 := h j hj2
    rw [get_bang (by omega)] at h2
    exact h2
  have hcut := cut_ahead (s.data.toList.take k) (s.data.toList.drop (k + 1)) 32 ha
  rw [← e] at hcut
  unfold lnB lnF lnR
  rw [hcut]
  refine ⟨rfl, ?_, ?_⟩
  · apply ByteArray.ext
    apply Array.ext'
    rw [Lib.extract_from_zero]
  · apply ByteArray.ext
    apply Array.ext'
    rw [Lib.extract_to_end]

/-- May it be a field? -/
def clean (f : ByteArray) : Bool := decide (f.size ≠ 0) && decide ((cutS 32 f).length ≤ 1)

/-- The field that a piece is; b: it is the first one. -/
def fieldR (b : Bool) (p : ByteArray) : Option ByteArray :=
  if b = true then (if clean p = true then some p else none)
  else if p.size < 1 then none
  else if p.get! 0 ≠ 32 then none
  else (if clean (p.extract 1 p.size) = true then some (p.extract 1 p.size) else none)

def fieldsFrom : Bool → List ByteArray → Option (List ByteArray)
  | _, [] => some []
  | b, p :: ps => match fieldR b p with
    | none => none
    | some f => (fieldsFrom false ps).map (f :: ·)

/-- A line's first word and fields. -/
def splitP (s : ByteArray) : Option (ByteArray × List ByteArray) :=
  if lnB s = true then (fieldsFrom true (cutS 44 (lnR s))).map (fun fs => (lnF s, fs)) else some (lnF s, [])

def splitH : Option (ByteArray × List ByteArray) → ByteArray
  | some (h, _) => h
  | none => ⟨#[]⟩

def splitFs : Option (ByteArray × List ByteArray) → List ByteArray
  | some (_, fs) => fs
  | none => []

/-- What split leaves. -/
def SplitPost (r : Option (ByteArray × List ByteArray)) (w : World) (e : Ending) (w' : World) : Prop :=
  ∃ v, e = .returned (.tuple #[.string (splitH r), v, .bool r.isSome]) ∧ OwnsS 9 w' w.heap.size v (splitFs r).length (splitFs r) ∧ Below w.heap.size w w'

/-- A round: what is to come behind what is done. -/
theorem from_bad {R : Option (List ByteArray)} {PS done : List ByteArray} {i : Nat} {b : Bool} (h : R = (fieldsFrom b (PS.drop i)).map (done ++ ·)) (hi : i < PS.length) (hf : fieldR b (PS.getD i ⟨#[]⟩) = none) : R = none := by
  rw [h, List.drop_eq_getElem_cons hi]
  rw [List.getD_eq_getElem?_getD, List.getElem?_eq_getElem hi] at hf
  unfold fieldsFrom
  rw [show fieldR b PS[i] = none from hf]
  rfl

theorem from_good {R : Option (List ByteArray)} {PS done : List ByteArray} {i : Nat} {b : Bool} {f : ByteArray} (h : R = (fieldsFrom b (PS.drop i)).map (done ++ ·)) (hi : i < PS.length) (hf : fieldR b (PS.getD i ⟨#[]⟩) = some f) : R = (fieldsFrom false (PS.drop (i + 1))).map ((done ++ [f]) ++ ·) := by
  rw [h, List.drop_eq_getElem_cons hi]
  rw [List.getD_eq_getElem?_getD, List.getElem?_eq_getElem hi] at hf
  conv => lhs; unfold fieldsFrom
  rw [show fieldR b PS[i] = some f from hf]
  show Option.map _ (Option.map _ (fieldsFrom false (PS.drop (i + 1)))) = _
  rw [Option.map_map]
  congr 1
  funext x
  simp

theorem from_end {R : Option (List ByteArray)} {PS done : List ByteArray} {b : Bool} (h : R = (fieldsFrom b (PS.drop PS.length)).map (done ++ ·)) : R = some done := by
  rw [h, List.drop_length]
  unfold fieldsFrom
  simp

theorem clean_no0 {f : ByteArray} (h : f.size = 0) : clean f = false := by
  unfold clean
  rw [decide_eq_false (by omega), Bool.false_and]

theorem clean_no1 {f : ByteArray} (h : 1 < (cutS 32 f).length) : clean f = false := by
  unfold clean
  rw [decide_eq_false (p := (cutS 32 f).length ≤ 1) (by omega), Bool.and_false]

theorem clean_yes {f : ByteArray} (h0 : f.size ≠ 0) (h : ¬ 1 < (cutS 32 f).length) : clean f = true := by
  unfold clean
  rw [decide_eq_true h0, decide_eq_true (by omega)]
  rfl

theorem fieldR_t (p : ByteArray) : fieldR true p = if clean p = true then some p else none := if_pos rfl

theorem fieldR_short {p : ByteArray} (h : p.size < 1) : fieldR false p = none := by
  unfold fieldR
  rw [if_neg (by decide), if_pos h]

theorem fieldR_no {p : ByteArray} (h : ¬ p.size < 1) (hc : p.get! 0 ≠ 32) : fieldR false p = none := by
  unfold fieldR
  rw [if_neg (by decide), if_neg h, if_pos hc]

theorem fieldR_f {p : ByteArray} (h : ¬ p.size < 1) (hc : p.get! 0 = 32) : fieldR false p = if clean (p.extract 1 p.size) = true then some (p.extract 1 p.size) else none := by
  unfold fieldR
  rw [if_neg (by decide), if_neg h, if_neg (by rw [hc]; decide)]

theorem cutS_size (c : UInt8) (s : ByteArray) : (cutS c s).length ≤ s.size + 1 := by
  unfold cutS
  rw [List.length_map, cutL_len]
  have := List.count_le_length (a := c) (l := s.data.toList)
  rw [← Lib.size_eq] at this
  omega

theorem cutS_small {c : UInt8} {s : ByteArray} : ∀ z ∈ cutS c s, z.size ≤ s.size := by
  have key : ∀ (l p : List UInt8), p ∈ cutL c l → p.length ≤ l.length := by
    intro l
    induction l with
    | nil => intro p hp; simp [cutL] at hp; subst hp; simp
    | cons b l ih =>
      intro p hp
      rw [cutL_cons] at hp
      split at hp
      · rcases List.mem_cons.1 hp with rfl | hp
        · simp
        · have := ih p hp
          simp only [List.length_cons]
          omega
      · rcases List.mem_cons.1 hp with rfl | hp
        · cases hc : cutL c l with
          | nil => exact absurd hc (cutL_ne c l)
          | cons x xs =>
            have := ih x (by rw [hc]; simp)
            simp only [List.headD_cons, List.length_cons]
            omega
        · have := ih p (List.mem_of_mem_tail hp)
          simp only [List.length_cons]
          omega
  intro z hz
  unfold cutS at hz
  obtain ⟨p, hp, rfl⟩ := List.mem_map.1 hz
  have := key _ p hp
  rw [← Lib.size_eq] at this
  rw [Lib.size_eq]
  simpa using this

theorem from_small {N : Nat} : ∀ (b : Bool) (ps fs : List ByteArray), fieldsFrom b ps = some fs → (∀ p ∈ ps, p.size ≤ N) → fs.length = ps.length ∧ ∀ z ∈ fs, z.size ≤ N
  | _, [], fs, h, _ => by
    unfold fieldsFrom at h
    injection h with h
    subst h
    exact ⟨rfl, fun z hz => by cases hz⟩
  | b, p :: ps, fs, h, hp => by
    unfold fieldsFrom at h
    cases hf : fieldR b p with
    | none => rw [hf] at h; cases h
    | some f =>
      rw [hf] at h
      have hfz : f.size ≤ N := by
        have h0 := hp p (by simp)
        unfold fieldR at hf
        split at hf
        · split at hf
          · injection hf with hf
            subst hf
            exact h0
          · cases hf
        · split at hf
          · cases hf
          · split at hf
            · cases hf
            · split at hf
              · injection hf with hf
                subst hf
                rw [ByteArray.size_extract]
                omega
              · cases hf
      cases hr : fieldsFrom false ps with
      | none => rw [hr] at h; cases h
      | some fs' =>
        rw [hr] at h
        simp only [Option.map_some, Option.some.injEq] at h
        subst h
        obtain ⟨h1, h2⟩ := from_small false ps fs' hr (fun q hq => hp q (by simp [hq]))
        refine ⟨by simp [h1], fun z hz => ?_⟩
        rcases List.mem_cons.1 hz with rfl | hz
        · exact hfz
        · exact h2 z hz

theorem splitFs_small (s : ByteArray) : (splitH (splitP s)).size ≤ s.size ∧ (splitFs (splitP s)).length ≤ s.size + 1 ∧ ∀ z ∈ splitFs (splitP s), z.size ≤ s.size := by
  letI : LinesAt := ⟨0, #[]⟩
  unfold splitP
  split
  · cases hr : fieldsFrom true (cutS 44 (lnR s)) with
    | none => exact ⟨Nat.zero_le _, Nat.zero_le _, fun z hz => by cases hz⟩
    | some fs =>
      obtain ⟨h1, h2⟩ := from_small (N := s.size) true _ fs hr (fun p hp => Nat.le_trans (cutS_small p hp) (lnR_size s))
      refine ⟨lnF_size s, ?_, h2⟩
      show fs.length ≤ _
      rw [h1]
      have := cutS_size 44 (lnR s)
      have := lnR_size s
      omega
  · exact ⟨lnF_size s, Nat.zero_le _, fun z hz => by cases hz⟩

set_option maxHeartbeats 16000000 in
set_option maxRecDepth 100000 in
theorem split05_any (s : ByteArray) (w : World) (hs : s.size ≤ 1000000) :
    Calls Tryd.prog 47 #[.string s] w (SplitPost (splitP s) w) := by
  have LN := Lib.hid (@ln_none s)
  have LH := Lib.hid (fun k => @ln_hit s k)
  have GB := Lib.hid (fun k => @get_bang s k)
  have SP := Lib.hid (show splitP s = if lnB s = true then (fieldsFrom true (cutS 44 (lnR s))).map (fun fs => (lnF s, fs)) else some (lnF s, []) from rfl)
  unfold SplitPost
  generalize splitP s = r at *
  go_enter Tryd.func47, Tryd.ntmps47
  go_wp2_with fail
  go_loop [5] (fun i => ∃ k : Nat, k ≤ s.size ∧ i = .int .i64 k ∧ ∀ j, j < k → s.get! j ≠ 32) (fun i => s.size - (intOf i).toNat)
  case atStart => exact ⟨0, Nat.zero_le _, rfl, fun j h => absurd h (Nat.not_lt_zero _)⟩
  case round =>
    obtain ⟨k, hk, rfl, hA⟩ := hrel
    have HA := Lib.hid hA
    clear hA
    by_cases hlt : k < s.size
    · have hI : (k : Int) < s.size := by omega
      have E := Lib.hid (GB.out k hlt)
      cases h32 : ((s[k].toNat : Int) == 32) with
      | false =>
        have hc : s.get! k ≠ 32 := by
          rw [E.out]
          intro e
          rw [e] at h32
          simp at h32
        have S2 := Lib.hid (show ∀ j, j < k + 1 → s.get! j ≠ 32 from fun j hj => (Nat.lt_or_ge j k).elim (HA.out j) (fun h' => by rw [show j = k by omega]; exact hc))
        have h32' : ((s[k].toNat : Int) != 32) = true := by rw [bne, h32]; rfl
        clear E hc HA
        go_wp2_with fail
        go_round
        case rel => exact ⟨k + 1, by omega, by go_num, S2.out⟩
        case measure => simp [intOf]; omega
      | true =>
        have hc : s.get! k = 32 := by
          rw [E.out]
          have : s[k].toNat = 32 := by
            have := beq_iff_eq.1 h32
            omega
          exact UInt8.toNat_inj.1 this
        obtain ⟨l1, l2, l3⟩ := LH.out k hlt HA.out hc
        have SR := SP.out
        rw [l1, if_pos rfl, l2, l3] at SR
        have HSR := Lib.hid SR
        have h32' : ((s[k].toNat : Int) != 32) = false := by rw [bne, h32]; rfl
        have hkn : ((k : Int) == (s.size : Int)) = false := by simp; omega
        have hk1 : (k : Int) + 1 ≤ s.size := by omega
        have CT := Lib.hid (fun w => cut05_any (s.extract (k + 1) s.size) 44 w (by rw [ByteArray.size_extract]; omega))
        rw [show (((44 : UInt8).toNat : Nat) : Int) = 44 from rfl] at CT
        have CZ := Lib.hid (cutS_size 44 (s.extract (k + 1) s.size))
        have CSM := Lib.hid (@cutS_small 44 (s.extract (k + 1) s.size))
        have hes : (s.extract (k + 1) s.size).size ≤ 1000000 := by rw [ByteArray.size_extract]; omega
        have RR := Lib.hid (show fieldsFrom true (cutS 44 (s.extract (k + 1) s.size)) = (fieldsFrom true ((cutS 44 (s.extract (k + 1) s.size)).drop 0)).map ([] ++ ·) by simp)
        clear E hc SR l1 l2 l3 SP LN LH GB HA
        generalize hRd : fieldsFrom true (cutS 44 (s.extract (k + 1) s.size)) = R at *
        clear hRd
        generalize cutS 44 (s.extract (k + 1) s.size) = PS at *
        have hpn : PS.length ≤ 1000001 := by have := CZ.out; omega
        have PZ := Lib.hid (show ∀ z ∈ PS, z.size ≤ 1000000 from fun z hz => Nat.le_trans (CSM.out z hz) hes)
        clear CZ CSM
        go_wp2_with fail
        refine (CT.out _).mono ?_
        rintro e w1 ⟨vp, rfl, ho, hb1⟩
        obtain ⟨AP, cP, rfl, hstr⟩ := ho.form
        have HP := Lib.hid hstr
        have B1 := Lib.hid hb1
        clear ho hstr hb1 CT
        have hz1 := B1.out.size
        have O0 := Lib.hid (OwnsS.nil 9 w1 w1.heap.size)
        go_wp2_with fail
        go_loopw [6, 8] (fun v i wr => ∃ (t : Nat) (done : List ByteArray), t ≤ PS.length ∧ i = .int .i64 t ∧ R = (fieldsFrom (t == 0) (PS.drop t)).map (done ++ ·) ∧ OwnsS 9 wr w1.heap.size v t done ∧ Below w1.heap.size w1 wr) (fun _ i _ => PS.length - (intOf i).toNat)
        case atStart => exact ⟨0, [], Nat.zero_le _, rfl, RR.out, O0.out, Below.refl _ _⟩
        case round =>
          clear O0 RR
          obtain ⟨t, done, ht, rfl, hR, hO, hB⟩ := hrel
          have HR := Lib.hid hR
          have HO := Lib.hid hO
          have HB := Lib.hid hB
          have BW := Lib.hid (B1.out.trans (hB.mono hz1))
          obtain ⟨Av, cv, rfl, _⟩ := hO.form
          have hdl := hO.len
          clear hR hO hB
          by_cases hlt2 : t < PS.length
          · have hI2 : (t : Int) < PS.length := by omega
            obtain ⟨bz, oz, hAP, _, hc⟩ := (HP.out.below HB.out).2 (by omega)
            subst hAP
            have u0 := hc t hlt2
            have hpz : (PS.getD t ⟨#[]⟩).size ≤ 1000000 := by
              rw [List.getD_eq_getElem?_getD, List.getElem?_eq_getElem hlt2]
              exact PZ.out _ (List.getElem_mem hlt2)
            have RB := Lib.hid (fun hf => from_bad HR.out hlt2 hf)
            have RG := Lib.hid (fun f hf => from_good (f := f) HR.out hlt2 hf)
            clear hc HR
            generalize PS.getD t ⟨#[]⟩ = p at *
            have GP := Lib.hid (fun k => @get_bang p k)
            by_cases ht0 : t = 0
            · subst ht0
              rw [show ((0 : Nat) == 0) = true from rfl] at RB RG
              rw [fieldR_t] at RB RG
              have hcleanb := fun (h : clean p = false) => RB.out (by rw [h]; rfl)
              have hcleang := fun (h : clean p = true) => RG.out p (by rw [h]; rfl)
              have CB := Lib.hid hcleanb
              have CG := Lib.hid hcleang
              have u00 := u0
              simp only [Nat.add_zero] at u00
              clear hcleanb hcleang RB RG u0
              by_cases hf0 : p.size = 0
              · have d0 : ((p.size : Int) == 0) = true := beq_iff_eq.2 (by omega)
                have RN := Lib.hid (CB.out (clean_no0 hf0))
                rw [RN.out] at HSR
                have HSN := Lib.hid (show r = none from HSR.out)
                clear CB CG RN HSR
                go_wp2_with fail
                go_ret3
                exact ⟨_, by rw [HSN.out]; rfl, by rw [HSN.out]; exact OwnsS.nil _ _ _, BW.out⟩
              · have d0 : ((p.size : Int) == 0) = false := beq_eq_false_iff_ne.2 (by omega)
                have C2 := Lib.hid (fun w => cut05_any p 32 w (by omega))
                rw [show (((32 : UInt8).toNat : Nat) : Int) = 32 from rfl] at C2
                have hcz := cutS_size 32 p
                have hfz : p.size ≤ 1000000 := by omega
                by_cases hmany : 1 < (cutS 32 p).length
                · have dm : decide ((1 : Int) < (cutS 32 p).length) = true := decide_eq_true (by omega)
                  have RN := Lib.hid (CB.out (clean_no1 hmany))
                  rw [RN.out] at HSR
                  have HSN := Lib.hid (show r = none from HSR.out)
                  clear CB CG RN HSR
                  generalize cutS 32 p = Q at *
                  go_wp2_with fail
                  refine (C2.out _).mono ?_
                  rintro e w2 ⟨vq, rfl, hoq, hb2⟩
                  obtain ⟨AQ, cQ, rfl, _⟩ := hoq.form
                  have B2 := Lib.hid (BW.out.trans (hb2.mono BW.out.size))
                  clear hoq hb2
                  go_wp2_with fail
                  go_ret3
                  exact ⟨_, by rw [HSN.out]; rfl, by rw [HSN.out]; exact OwnsS.nil _ _ _, B2.out⟩
                · have dm : decide ((1 : Int) < (cutS 32 p).length) = false := decide_eq_false (by omega)
                  have R2 := Lib.hid (CG.out (clean_yes hf0 hmany))
                  clear CB CG HSR
                  generalize cutS 32 p = Q at *
                  go_wp2_with fail
                  refine (C2.out _).mono ?_
                  rintro e w2 ⟨vq, rfl, hoq, hb2⟩
                  obtain ⟨AQ, cQ, rfl, _⟩ := hoq.form
                  have O1 := Lib.hid (HO.out.below hb2)
                  have B1' := Lib.hid (HB.out.trans (hb2.mono HB.out.size))
                  clear hoq hb2 HO HB u00 BW
                  go_wp2_with (at_builtin; refine wpList_append_strs _ rfl _ _ rfl rowStr w1.heap.size (.slice Av 0 cv) 0 done rfl (O1.out.alloc _) (some ⟨w2.heap.size, 0, none⟩) 1 1 [p] rfl (strs_built 9 w2 [p] _ rfl 1 rfl (by decide) _ rfl) (by omega) (Nat.le_trans B1'.out.size (by simp)) ?_; intro v2 w3 ho2 hg2 _; have hb2 : Below w1.heap.size w2 w3 := OwnsS.grown_below ((Below.refl _ _).alloc B1'.out.size _) (O1.out.alloc _) hg2 (Nat.le_trans B1'.out.size (by simp)); have B2 := Lib.hid (B1'.out.trans hb2); have O2 := Lib.hid ho2; clear ho2 hg2 hb2)
                  go_roundw
                  case rel => exact ⟨1, done ++ [p], by omega, rfl, R2.out, O2.out, B2.out⟩
                  case measure => simp [intOf]; omega
            · have htI : decide ((0 : Int) < t) = true := decide_eq_true (by omega)
              have htb : (t == 0) = false := by simp; omega
              rw [htb] at RB RG
              by_cases hp1 : p.size < 1
              · have d1 : decide ((p.size : Int) < 1) = true := decide_eq_true (by omega)
                have RN := Lib.hid (RB.out (fieldR_short hp1))
                rw [RN.out] at HSR
                have HSN := Lib.hid (show r = none from HSR.out)
                clear RB RG RN HSR
                go_wp2_with fail
                go_ret3
                exact ⟨_, by rw [HSN.out]; rfl, by rw [HSN.out]; exact OwnsS.nil _ _ _, BW.out⟩
              · have d1 : decide ((p.size : Int) < 1) = false := decide_eq_false (by omega)
                have hp0 : 0 < p.size := by omega
                have hpI : (0 : Int) < p.size := by omega
                have E0 := Lib.hid (GP.out 0 hp0)
                cases hq : ((p[0].toNat : Int) == 32) with
                | false =>
                  have hq' : ((p[0].toNat : Int) != 32) = true := by rw [bne, hq]; rfl
                  have hne : p.get! 0 ≠ 32 := by
                    rw [E0.out]
                    intro e
                    rw [e] at hq
                    simp at hq
                  have RN := Lib.hid (RB.out (fieldR_no hp1 hne))
                  rw [RN.out] at HSR
                  have HSN := Lib.hid (show r = none from HSR.out)
                  clear RB RG RN HSR hne E0
                  go_wp2_with fail
                  go_ret3
                  exact ⟨_, by rw [HSN.out]; rfl, by rw [HSN.out]; exact OwnsS.nil _ _ _, BW.out⟩
                | true =>
                  have hq' : ((p[0].toNat : Int) != 32) = false := by rw [bne, hq]; rfl
                  have heq : p.get! 0 = 32 := by
                    rw [E0.out]
                    have : p[0].toNat = 32 := by
                      have := beq_iff_eq.1 hq
                      omega
                    exact UInt8.toNat_inj.1 this
                  rw [fieldR_f hp1 heq] at RB RG
                  have hcleanb := fun (h : clean (p.extract 1 p.size) = false) => RB.out (by rw [h]; rfl)
                  have hcleang := fun (h : clean (p.extract 1 p.size) = true) => RG.out (p.extract 1 p.size) (by rw [h]; rfl)
                  have CB := Lib.hid hcleanb
                  have CG := Lib.hid hcleang
                  have hp1I : (1 : Int) ≤ p.size := by omega
                  have hfz : (p.extract 1 p.size).size ≤ 1000000 := by rw [ByteArray.size_extract]; omega
                  clear hcleanb hcleang RB RG heq E0
                  generalize hfx : p.extract 1 p.size = f at *
                  have hsl : ∀ W, (Instr.slice 9 (.string p) (some (.int .i64 1)) none none).run Tryd.prog W = .ok (.string f) W := fun W => (run_slice_string_l W _ _ Tryd.underlying9 .i64 1 (by decide) hp1I).trans (by rw [← hfx]; rfl)
                  clear hfx
                  by_cases hf0 : f.size = 0
                  · have d0 : ((f.size : Int) == 0) = true := beq_iff_eq.2 (by omega)
                    have RN := Lib.hid (CB.out (clean_no0 hf0))
                    rw [RN.out] at HSR
                    have HSN := Lib.hid (show r = none from HSR.out)
                    clear CB CG RN HSR
                    go_wp2_with fail
                    go_ret3
                    exact ⟨_, by rw [HSN.out]; rfl, by rw [HSN.out]; exact OwnsS.nil _ _ _, BW.out⟩
                  · have d0 : ((f.size : Int) == 0) = false := beq_eq_false_iff_ne.2 (by omega)
                    have C2 := Lib.hid (fun w => cut05_any f 32 w (by omega))
                    rw [show (((32 : UInt8).toNat : Nat) : Int) = 32 from rfl] at C2
                    have hcz := cutS_size 32 f
                    have hfz : f.size ≤ 1000000 := by omega
                    by_cases hmany : 1 < (cutS 32 f).length
                    · have dm : decide ((1 : Int) < (cutS 32 f).length) = true := decide_eq_true (by omega)
                      have RN := Lib.hid (CB.out (clean_no1 hmany))
                      rw [RN.out] at HSR
                      have HSN := Lib.hid (show r = none from HSR.out)
                      clear CB CG RN HSR
                      generalize cutS 32 f = Q at *
                      go_wp2_with fail
                      refine (C2.out _).mono ?_
                      rintro e w2 ⟨vq, rfl, hoq, hb2⟩
                      obtain ⟨AQ, cQ, rfl, _⟩ := hoq.form
                      have B2 := Lib.hid (BW.out.trans (hb2.mono BW.out.size))
                      clear hoq hb2
                      go_wp2_with fail
                      go_ret3
                      exact ⟨_, by rw [HSN.out]; rfl, by rw [HSN.out]; exact OwnsS.nil _ _ _, B2.out⟩
                    · have dm : decide ((1 : Int) < (cutS 32 f).length) = false := decide_eq_false (by omega)
                      have R2 := Lib.hid (CG.out (clean_yes hf0 hmany))
                      clear CB CG HSR
                      generalize cutS 32 f = Q at *
                      go_wp2_with fail
                      refine (C2.out _).mono ?_
                      rintro e w2 ⟨vq, rfl, hoq, hb2⟩
                      obtain ⟨AQ, cQ, rfl, _⟩ := hoq.form
                      have O1 := Lib.hid (HO.out.below hb2)
                      have B1' := Lib.hid (HB.out.trans (hb2.mono HB.out.size))
                      clear hoq hb2 HO HB u0 BW
                      go_wp2_with (at_builtin; refine wpList_append_strs _ rfl _ _ rfl rowStr w1.heap.size (.slice Av t cv) t done rfl (O1.out.alloc _) (some ⟨w2.heap.size, 0, none⟩) 1 1 [f] rfl (strs_built 9 w2 [f] _ rfl 1 rfl (by decide) _ rfl) (by omega) (Nat.le_trans B1'.out.size (by simp)) ?_; intro v2 w3 ho2 hg2 _; have hb2 : Below w1.heap.size w2 w3 := OwnsS.grown_below ((Below.refl _ _).alloc B1'.out.size _) (O1.out.alloc _) hg2 (Nat.le_trans B1'.out.size (by simp)); have B2 := Lib.hid (B1'.out.trans hb2); have O2 := Lib.hid ho2; clear ho2 hg2 hb2)
                      go_roundw
                      case rel => exact ⟨t + 1, done ++ [f], by omega, by go_num, R2.out, O2.out, B2.out⟩
                      case measure => simp [intOf]; omega
          · have hI2 : ¬ (t : Int) < PS.length := by omega
            obtain rfl : t = PS.length := by omega
            have RE := Lib.hid (from_end HR.out)
            rw [RE.out] at HSR
            have HSN := Lib.hid (show r = some (s.extract 0 k, done) from HSR.out)
            clear HSR RE HR
            have hkk : (k : Int) ≤ s.size := by omega
            go_wp2_with fail
            go_ret3
            exact ⟨_, by rw [HSN.out]; rfl, by rw [HSN.out]; show OwnsS _ _ _ _ done.length done; rw [hdl]; exact HO.out.more hz1, BW.out⟩
    · have hI : ¬ (k : Int) < s.size := by omega
      obtain rfl : k = s.size := by omega
      have hq : ((s.size : Int) == (s.size : Int)) = true := by simp
      have hl := LN.out HA.out
      have SR := SP.out
      rw [hl.1, if_neg (by decide), hl.2] at SR
      have HSR := Lib.hid SR
      clear SR hl SP LN LH GB HA
      go_wp2_with fail
      go_ret3
      exact ⟨_, by rw [HSR.out]; rfl, by rw [HSR.out]; exact OwnsS.nil _ _ _, Below.refl _ _⟩
end Go.Proofs.YtnmpamfgkidmiaaDoor

/- Asm: the answers' parse, place. -/
namespace Go.Proofs.YtnmpamfgkidmiaaDoor
open Go.ChangeShapes Go.WideShapes Go.ChangeAt Go.RowKit
set_option linter.unusedVariables false
set_option linter.unusedSimpArgs false

/-- A row. -/
structure Row5 where
  line : Nat
  op : Int
  word : Int
  fields : List ByteArray

/-- The row that a line is. -/
def parseP (n : Nat) (s : ByteArray) : Option Row5 :=
  match splitP s with
  | none => none
  | some (h, fs) =>
    if (h.toList == [87, 79, 82, 68]) = true ∧ fs.length = 1 then (if hexOk (fs.getD 0 ⟨#[]⟩) = true then some ⟨n, 0, hexVal (fs.getD 0 ⟨#[]⟩), fs⟩ else none)
    else if opOf h = 0 then none
    else if fillOk (opOf h) (substL (opOf h) fs ⟨#[48]⟩) = true then some ⟨n, opOf h, 0, fs⟩ else none

theorem parseP_none {n : Nat} {s : ByteArray} (h : splitP s = none) : parseP n s = none := by
  unfold parseP
  rw [h]

theorem parseP_some {n : Nat} {s h : ByteArray} {fs : List ByteArray} (hs : splitP s = some (h, fs)) : parseP n s = if (h.toList == [87, 79, 82, 68]) = true ∧ fs.length = 1 then (if hexOk (fs.getD 0 ⟨#[]⟩) = true then some ⟨n, 0, hexVal (fs.getD 0 ⟨#[]⟩), fs⟩ else none) else if opOf h = 0 then none else if fillOk (opOf h) (substL (opOf h) fs ⟨#[48]⟩) = true then some ⟨n, opOf h, 0, fs⟩ else none := by
  unfold parseP
  rw [hs]

/-- What parse leaves. -/
def ParsePost (r : Option Row5) (w : World) (e : Ending) (w' : World) : Prop :=
  ∃ (l o wd : Int) (A : Option Addr) (m c : Nat), e = .returned (.tuple #[rowV l o wd (.slice A m c), .bool r.isSome]) ∧ (∀ x, r = some x → l = x.line ∧ o = x.op ∧ wd = x.word ∧ m = x.fields.length ∧ OwnsS 9 w' w.heap.size (.slice A m c) m x.fields) ∧ Below w.heap.size w w'

theorem ownsS_kept5 {w w' : World} {B : Nat} {A : Option Addr} {m c : Nat} {fs : List ByteArray} (h : OwnsS 9 w B (.slice A m c) m fs) (hb : Below w.heap.size w w') : OwnsS 9 w' B (.slice A m c) m fs := h.below hb

theorem str_row : (9 : TypeId) ≠ 61 := by decide

/-- A store into a block that holds rows keeps strings. -/
theorem ownsS_set {w : World} {B g i : Nat} {v : Value} {n : Nat} {fs : List ByteArray} {cs : Array Value} (h : OwnsS 9 w B v n fs) (hg : Whole w g 61 cs) (u : Value) : OwnsS 9 (w.setCell ⟨g, i, none⟩ u) B v n fs := by
  letI : LinesAt := ⟨0, #[]⟩
  have hgs : w.grownBy (w.setCell ⟨g, i, none⟩ u) (some g) := ⟨rfl, rfl, rfl, by simp [World.setCell], fun j _ hj => Below.heap_setCell w ⟨g, i, none⟩ u j (fun e => hj (by rw [e]))⟩
  exact h.kept hgs (.inr (ownsRow_ne h hg (fun _ _ e => str_row (by injection e with e1 e2; exact e2.symm))))

set_option maxHeartbeats 16000000 in
set_option maxRecDepth 100000 in
theorem parse05_any (n : Nat) (s : ByteArray) (w : World) (hs : s.size ≤ 100000) (hn : n ≤ 1000000) :
    Calls Tryd.prog 24 #[.int .i64 n, .string s] w (ParsePost (parseP n s) w) := by
  have SP := Lib.hid (fun w => split05_any s w (by omega))
  have FZ := Lib.hid (splitFs_small s)
  have BA := Lib.hid ((Below.refl w.heap.size w).alloc (Nat.le_refl _) (.cells #[.int .i64 0, .int .i64 0, .int .u32 0, .slice none 0 0] 61))
  have P := Lib.hid (Whole.made w 61 #[.int .i64 0, .int .i64 0, .int .u32 0, .slice none 0 0] _ rfl)
  have PN := Lib.hid (@parseP_none n s)
  have PS := Lib.hid (fun h fs => @parseP_some n s h fs)
  unfold ParsePost
  generalize parseP n s = R at *
  unfold SplitPost at SP
  go_enter Tryd.func24, Tryd.ntmps24
  go_wp2_with fail
  generalize w.alloc (.cells #[.int .i64 0, .int .i64 0, .int .u32 0, .slice none 0 0] 61) = V at *
  have hPl := P.out.lt
  cases hsp : splitP s with
  | none =>
    rw [hsp] at SP
    have HR := Lib.hid (show R = none from PN.out hsp)
    clear PN PS hsp FZ
    refine (SP.out V).mono ?_
    rintro e w1 ⟨v, rfl, ho, hb1⟩
    obtain ⟨Av, cv, rfl, _⟩ := ho.form
    have P1 := Lib.hid (P.out.below hb1 hPl)
    have B1 := Lib.hid (BA.out.trans (hb1.mono BA.out.size))
    clear ho hb1 SP
    have p0 : w1.cell? ⟨w.heap.size, 0, none⟩ = some (.int .i64 0) := P1.out.cell 0
    have p1 : w1.cell? ⟨w.heap.size, 1, none⟩ = some (.int .i64 0) := P1.out.cell 1
    have p2 : w1.cell? ⟨w.heap.size, 2, none⟩ = some (.int .u32 0) := P1.out.cell 2
    have p3 : w1.cell? ⟨w.heap.size, 3, none⟩ = some (.slice none 0 0) := P1.out.cell 3
    have f4 : ∀ i, w1.frozen? ⟨w.heap.size, i, none⟩ = false := P1.out.free
    go_wp2_with fail
    refine bodyPost_ret (v := .tuple #[rowV 0 0 0 (.slice none 0 0), .bool false]) ?_ rfl ⟨0, 0, 0, none, 0, 0, by rw [HR.out]; rfl, (fun x hx => by rw [HR.out] at hx; cases hx), ?_⟩
    · simp [results, Tryd.results24, go_sem, p0, p1, p2, p3]
    · repeat (first | exact B1.out | refine Below.setCell ?_ (Nat.le_refl w.heap.size) _)
  | some hf =>
    obtain ⟨h, fs⟩ := hf
    have PP := Lib.hid (PS.out h fs hsp)
    rw [hsp] at SP FZ
    have SP := Lib.hid (show ∀ w, Calls Tryd.prog 47 #[.string s] w fun e w' => ∃ v, e = .returned (.tuple #[.string h, v, .bool true]) ∧ OwnsS 9 w' w.heap.size v fs.length fs ∧ Below w.heap.size w w' from SP.out)
    have FZ := Lib.hid (show h.size ≤ s.size ∧ fs.length ≤ s.size + 1 ∧ ∀ z ∈ fs, z.size ≤ s.size from FZ.out)
    rename_i SP0 FZ0
    clear SP0 FZ0 hsp PN PS
    obtain ⟨hz1, hz2, hz3⟩ := FZ.out
    have hhz : h.size ≤ 1000000 := by omega
    have hfl : fs.length ≤ 1000000 := by omega
    have FS := Lib.hid (show ∀ z ∈ fs, z.size ≤ 1000000 from fun z hz => Nat.le_trans (hz3 z hz) (by omega))
    clear FZ hz1 hz2 hz3
    refine (SP.out V).mono ?_
    rintro e w1 ⟨v, rfl, ho, hb1⟩
    obtain ⟨Av, cv, rfl, _⟩ := ho.form
    have hwV : w.heap.size ≤ V.heap.size := Nat.le_of_lt hPl
    have P1 := Lib.hid ((P.out.below hb1 hPl).alloc (.cells #[.int .i64 n, .int .i64 0, .int .u32 0, .slice Av fs.length cv] 61))
    have B1 := Lib.hid ((BA.out.trans (hb1.mono BA.out.size)).alloc (Nat.le_trans BA.out.size hb1.size) (.cells #[.int .i64 n, .int .i64 0, .int .u32 0, .slice Av fs.length cv] 61))
    have Q1 := Lib.hid (Whole.made w1 61 #[.int .i64 n, .int .i64 0, .int .u32 0, .slice Av fs.length cv] _ rfl)
    have O1 := Lib.hid ((ho.more hwV).alloc (.cells #[.int .i64 n, .int .i64 0, .int .u32 0, .slice Av fs.length cv] 61))
    have gne : w1.heap.size ≠ w.heap.size := by have := hb1.size; omega
    have hwg : w.heap.size ≤ w1.heap.size := by have := hb1.size; omega
    clear ho hb1 SP P BA
    by_cases hW : (h.toList == [87, 79, 82, 68]) = true ∧ fs.length = 1
    · have PR := PP.out
      rw [if_pos hW] at PR
      obtain ⟨hW1, hW2⟩ := hW
      rw [hW2] at P1 B1 Q1 O1
      obtain ⟨bz, oz, rfl, _, hc⟩ := O1.out.nums.2 (by omega)
      have u0 := hc 0 (by omega)
      rw [Nat.add_zero] at u0
      have hfz : (fs.getD 0 ⟨#[]⟩).size ≤ maxLen := by
        have hp : 0 < fs.length := by omega
        rw [List.getD_eq_getElem?_getD, List.getElem?_eq_getElem hp]
        have := FS.out _ (List.getElem_mem hp)
        unfold maxLen
        exact Nat.le_trans this (by decide)
      have PH := Lib.hid (fun w => refparsehex_all (fs.getD 0 ⟨#[]⟩) w hfz)
      have HPR := Lib.hid PR
      clear hc PR PP hfz
      generalize hexOk (fs.getD 0 ⟨#[]⟩) = ok at *
      generalize hexVal (fs.getD 0 ⟨#[]⟩) = hv at *
      generalize fs.getD 0 ⟨#[]⟩ = f0 at *
      go_wp2_with fail
      generalize w1.alloc (.cells #[.int .i64 n, .int .i64 0, .int .u32 0, .slice (some ⟨bz, oz, none⟩) 1 cv] 61) = V2 at *
      refine (PH.out _).mono ?_
      rintro e w2 ⟨rfl, hb2⟩
      have P2 := Lib.hid (P1.out.below hb2 P1.out.lt)
      have Q2 := Lib.hid (Q1.out.below hb2 Q1.out.lt)
      have B2 := Lib.hid (B1.out.trans (hb2.mono B1.out.size))
      have O2 := Lib.hid (O1.out.below hb2)
      clear hb2 P1 Q1 B1 O1 PH u0
      have p0 : w2.cell? ⟨w.heap.size, 0, none⟩ = some (.int .i64 0) := P2.out.cell 0
      have p1 : w2.cell? ⟨w.heap.size, 1, none⟩ = some (.int .i64 0) := P2.out.cell 1
      have p2 : w2.cell? ⟨w.heap.size, 2, none⟩ = some (.int .u32 0) := P2.out.cell 2
      have p3 : w2.cell? ⟨w.heap.size, 3, none⟩ = some (.slice none 0 0) := P2.out.cell 3
      have f4 : ∀ i, w2.frozen? ⟨w.heap.size, i, none⟩ = false := P2.out.free
      have q0 : w2.cell? ⟨w1.heap.size, 0, none⟩ = some (.int .i64 n) := Q2.out.cell 0
      have q1 : w2.cell? ⟨w1.heap.size, 1, none⟩ = some (.int .i64 0) := Q2.out.cell 1
      have q2 : w2.cell? ⟨w1.heap.size, 2, none⟩ = some (.int .u32 0) := Q2.out.cell 2
      have q3 : w2.cell? ⟨w1.heap.size, 3, none⟩ = some (.slice (some ⟨bz, oz, none⟩) 1 cv) := Q2.out.cell 3
      have f9 : ∀ i, w2.frozen? ⟨w1.heap.size, i, none⟩ = false := Q2.out.free
      generalize w1.heap.size = g9 at *
      go_wp2_with fail
      refine bodyPost_ret (v := .tuple #[rowV n 0 hv (.slice (some ⟨bz, oz, none⟩) 1 cv), .bool ok]) ?_ rfl ⟨n, 0, hv, some ⟨bz, oz, none⟩, 1, cv, ?_, fun x hx => ?_, ?_⟩
      · simp [results, Tryd.results24, go_sem, p0, p1, p2, p3, q0, q1, q2, q3, gne]
      · rw [HPR.out]
        cases ok <;> rfl
      · rw [HPR.out] at hx
        cases hok : ok with
        | false =>
          rw [hok] at hx
          cases hx
        | true =>
          rw [hok, if_pos rfl] at hx
          injection hx with hx
          subst hx
          refine ⟨rfl, rfl, rfl, hW2.symm, ?_⟩
          exact ownsS_set (ownsS_set (ownsS_set (ownsS_set (ownsS_set O2.out Q2.out _) (P2.out.far (p := ⟨g9, 2, none⟩) (Ne.symm gne) _) _) ((P2.out.far (p := ⟨g9, 2, none⟩) (Ne.symm gne) _).store 0 _) _) (((P2.out.far (p := ⟨g9, 2, none⟩) (Ne.symm gne) _).store 0 _).store 1 _) _) ((((P2.out.far (p := ⟨g9, 2, none⟩) (Ne.symm gne) _).store 0 _).store 1 _).store 2 _) _
      · repeat (first | exact B2.out | refine Below.setCell ?_ (Nat.le_refl w.heap.size) _ | refine Below.setCell ?_ hwg _)
    · cases hq : (h.toList == [87, 79, 82, 68]) with
      | true =>
        have hl1 : ((fs.length : Int) == 1) = false := by
          have : fs.length ≠ 1 := fun e => hW ⟨hq, e⟩
          simp
          omega
        have OC := Lib.hid (fun w => op05_any h w hhz)
        by_cases ho0 : opOf h = 0
        · have PR := PP.out
          rw [if_neg hW, if_pos ho0] at PR
          have HPR := Lib.hid PR
          rw [ho0] at OC
          clear PR PP ho0 hW
          go_wp2_with fail
          generalize w1.alloc (.cells #[.int .i64 n, .int .i64 0, .int .u32 0, .slice Av fs.length cv] 61) = V2 at *
          refine (OC.out _).mono ?_
          rintro e w2 ⟨rfl, hb2⟩
          have P2 := Lib.hid (P1.out.below hb2 P1.out.lt)
          have Q2 := Lib.hid (Q1.out.below hb2 Q1.out.lt)
          have B2 := Lib.hid (B1.out.trans (hb2.mono B1.out.size))
          clear hb2 P1 Q1 B1 O1 OC
          have p0 : w2.cell? ⟨w.heap.size, 0, none⟩ = some (.int .i64 0) := P2.out.cell 0
          have p1 : w2.cell? ⟨w.heap.size, 1, none⟩ = some (.int .i64 0) := P2.out.cell 1
          have p2 : w2.cell? ⟨w.heap.size, 2, none⟩ = some (.int .u32 0) := P2.out.cell 2
          have p3 : w2.cell? ⟨w.heap.size, 3, none⟩ = some (.slice none 0 0) := P2.out.cell 3
          have f4 : ∀ i, w2.frozen? ⟨w.heap.size, i, none⟩ = false := P2.out.free
          have q0 : w2.cell? ⟨w1.heap.size, 0, none⟩ = some (.int .i64 n) := Q2.out.cell 0
          have q1 : w2.cell? ⟨w1.heap.size, 1, none⟩ = some (.int .i64 0) := Q2.out.cell 1
          have q2 : w2.cell? ⟨w1.heap.size, 2, none⟩ = some (.int .u32 0) := Q2.out.cell 2
          have q3 : w2.cell? ⟨w1.heap.size, 3, none⟩ = some (.slice Av fs.length cv) := Q2.out.cell 3
          have f9 : ∀ i, w2.frozen? ⟨w1.heap.size, i, none⟩ = false := Q2.out.free
          generalize w1.heap.size = g9 at *
          go_wp2_with fail
          refine bodyPost_ret (v := .tuple #[rowV n 0 0 (.slice Av fs.length cv), .bool false]) ?_ rfl ⟨n, 0, 0, Av, fs.length, cv, by rw [HPR.out]; rfl, (fun x hx => by rw [HPR.out] at hx; cases hx), ?_⟩
          · simp [results, Tryd.results24, go_sem, p0, p1, p2, p3, q0, q1, q2, q3, gne]
          · repeat (first | exact B2.out | refine Below.setCell ?_ (Nat.le_refl w.heap.size) _ | refine Below.setCell ?_ hwg _)
        · have hoI : (opOf h == 0) = false := by simpa using ho0
          have PR := PP.out
          rw [if_neg hW, if_neg ho0] at PR
          have HPR := Lib.hid PR
          have FR := Lib.hid (fun w hs => reffill05_any n (opOf h) 0 Av fs.length cv fs ⟨#[48]⟩ w hs FS.out hfl (by decide))
          unfold FillPost at FR
          clear PR PP ho0 hW
          generalize fillOk (opOf h) (substL (opOf h) fs ⟨#[48]⟩) = ok at *
          generalize substL (opOf h) fs ⟨#[48]⟩ = S at *
          generalize opOf h = op at *
          go_wp2_with fail
          generalize w1.alloc (.cells #[.int .i64 n, .int .i64 0, .int .u32 0, .slice Av fs.length cv] 61) = V2 at *
          refine (OC.out _).mono ?_
          rintro e w2 ⟨rfl, hb2⟩
          have P2 := Lib.hid (P1.out.below hb2 P1.out.lt)
          have Q2 := Lib.hid (Q1.out.below hb2 Q1.out.lt)
          have B2 := Lib.hid (B1.out.trans (hb2.mono B1.out.size))
          have O2 := Lib.hid (O1.out.below hb2)
          clear hb2 P1 Q1 B1 O1 OC
          have p0 : w2.cell? ⟨w.heap.size, 0, none⟩ = some (.int .i64 0) := P2.out.cell 0
          have p1 : w2.cell? ⟨w.heap.size, 1, none⟩ = some (.int .i64 0) := P2.out.cell 1
          have p2 : w2.cell? ⟨w.heap.size, 2, none⟩ = some (.int .u32 0) := P2.out.cell 2
          have p3 : w2.cell? ⟨w.heap.size, 3, none⟩ = some (.slice none 0 0) := P2.out.cell 3
          have f4 : ∀ i, w2.frozen? ⟨w.heap.size, i, none⟩ = false := P2.out.free
          have q0 : w2.cell? ⟨w1.heap.size, 0, none⟩ = some (.int .i64 n) := Q2.out.cell 0
          have q1 : w2.cell? ⟨w1.heap.size, 1, none⟩ = some (.int .i64 0) := Q2.out.cell 1
          have q2 : w2.cell? ⟨w1.heap.size, 2, none⟩ = some (.int .u32 0) := Q2.out.cell 2
          have q3 : w2.cell? ⟨w1.heap.size, 3, none⟩ = some (.slice Av fs.length cv) := Q2.out.cell 3
          have f9 : ∀ i, w2.frozen? ⟨w1.heap.size, i, none⟩ = false := Q2.out.free
          have QS := Lib.hid (show Whole (w2.setCell ⟨w1.heap.size, 1, none⟩ (.int .i64 op)) w1.heap.size 61 #[.int .i64 n, .int .i64 op, .int .u32 0, .slice Av fs.length cv] from Q2.out.store 1 _)
          have PS := Lib.hid (show Whole (w2.setCell ⟨w1.heap.size, 1, none⟩ (.int .i64 op)) w.heap.size 61 #[.int .i64 0, .int .i64 0, .int .u32 0, .slice none 0 0] from P2.out.far (p := ⟨w1.heap.size, 1, none⟩) (Ne.symm gne) _)
          have OS := Lib.hid (ownsS_set O2.out Q2.out (i := 1) (.int .i64 op))
          have BS := Lib.hid (B2.out.setCell (p := ⟨w1.heap.size, 1, none⟩) hwg (.int .i64 op))
          have NS := Lib.hid OS.out.nums
          have s0 : (w2.setCell ⟨w1.heap.size, 1, none⟩ (.int .i64 op)).cell? ⟨w1.heap.size, 0, none⟩ = some (.int .i64 n) := QS.out.cell 0
          have s1 : (w2.setCell ⟨w1.heap.size, 1, none⟩ (.int .i64 op)).cell? ⟨w1.heap.size, 1, none⟩ = some (.int .i64 op) := QS.out.cell 1
          have s2 : (w2.setCell ⟨w1.heap.size, 1, none⟩ (.int .i64 op)).cell? ⟨w1.heap.size, 2, none⟩ = some (.int .u32 0) := QS.out.cell 2
          have s3 : (w2.setCell ⟨w1.heap.size, 1, none⟩ (.int .i64 op)).cell? ⟨w1.heap.size, 3, none⟩ = some (.slice Av fs.length cv) := QS.out.cell 3
          generalize w1.heap.size = g9 at *
          clear P2 Q2 B2 O2
          go_wp2_with fail
          generalize w2.setCell ⟨g9, 1, none⟩ (.int .i64 op) = W3 at *
          refine (FR.out _ NS.out).mono ?_
          rintro e w4 ⟨o', a', b', c', n', rfl, _, hb4⟩
          have P4 := Lib.hid (PS.out.below hb4 PS.out.lt)
          have Q4 := Lib.hid (QS.out.below hb4 QS.out.lt)
          have B4 := Lib.hid (BS.out.trans (hb4.mono BS.out.size))
          have O4 := Lib.hid (OS.out.below hb4)
          clear hb4 FR NS OS BS PS QS s0 s1 s2 s3 p0 p1 p2 p3 q0 q1 q2 q3 f4 f9
          have p0 : w4.cell? ⟨w.heap.size, 0, none⟩ = some (.int .i64 0) := P4.out.cell 0
          have p1 : w4.cell? ⟨w.heap.size, 1, none⟩ = some (.int .i64 0) := P4.out.cell 1
          have p2 : w4.cell? ⟨w.heap.size, 2, none⟩ = some (.int .u32 0) := P4.out.cell 2
          have p3 : w4.cell? ⟨w.heap.size, 3, none⟩ = some (.slice none 0 0) := P4.out.cell 3
          have f4 : ∀ i, w4.frozen? ⟨w.heap.size, i, none⟩ = false := P4.out.free
          have q0 : w4.cell? ⟨g9, 0, none⟩ = some (.int .i64 n) := Q4.out.cell 0
          have q1 : w4.cell? ⟨g9, 1, none⟩ = some (.int .i64 op) := Q4.out.cell 1
          have q2 : w4.cell? ⟨g9, 2, none⟩ = some (.int .u32 0) := Q4.out.cell 2
          have q3 : w4.cell? ⟨g9, 3, none⟩ = some (.slice Av fs.length cv) := Q4.out.cell 3
          go_wp2_with fail
          refine bodyPost_ret (v := .tuple #[rowV n op 0 (.slice Av fs.length cv), .bool ok]) ?_ rfl ⟨n, op, 0, Av, fs.length, cv, ?_, fun x hx => ?_, ?_⟩
          · simp [results, Tryd.results24, go_sem, p0, p1, p2, p3, q0, q1, q2, q3, gne]
          · rw [HPR.out]
            cases ok <;> rfl
          · rw [HPR.out] at hx
            cases hok : ok with
            | false =>
              rw [hok] at hx
              cases hx
            | true =>
              rw [hok, if_pos rfl] at hx
              injection hx with hx
              subst hx
              refine ⟨rfl, rfl, rfl, rfl, ?_⟩
              exact ownsS_set (ownsS_set (ownsS_set (ownsS_set O4.out P4.out _) (P4.out.store 0 _) _) ((P4.out.store 0 _).store 1 _) _) (((P4.out.store 0 _).store 1 _).store 2 _) _
          · repeat (first | exact B4.out | refine Below.setCell ?_ (Nat.le_refl w.heap.size) _ | refine Below.setCell ?_ hwg _)
      | false =>
        have OC := Lib.hid (fun w => op05_any h w hhz)
        by_cases ho0 : opOf h = 0
        · have PR := PP.out
          rw [if_neg hW, if_pos ho0] at PR
          have HPR := Lib.hid PR
          rw [ho0] at OC
          clear PR PP ho0 hW
          go_wp2_with fail
          generalize w1.alloc (.cells #[.int .i64 n, .int .i64 0, .int .u32 0, .slice Av fs.length cv] 61) = V2 at *
          refine (OC.out _).mono ?_
          rintro e w2 ⟨rfl, hb2⟩
          have P2 := Lib.hid (P1.out.below hb2 P1.out.lt)
          have Q2 := Lib.hid (Q1.out.below hb2 Q1.out.lt)
          have B2 := Lib.hid (B1.out.trans (hb2.mono B1.out.size))
          clear hb2 P1 Q1 B1 O1 OC
          have p0 : w2.cell? ⟨w.heap.size, 0, none⟩ = some (.int .i64 0) := P2.out.cell 0
          have p1 : w2.cell? ⟨w.heap.size, 1, none⟩ = some (.int .i64 0) := P2.out.cell 1
          have p2 : w2.cell? ⟨w.heap.size, 2, none⟩ = some (.int .u32 0) := P2.out.cell 2
          have p3 : w2.cell? ⟨w.heap.size, 3, none⟩ = some (.slice none 0 0) := P2.out.cell 3
          have f4 : ∀ i, w2.frozen? ⟨w.heap.size, i, none⟩ = false := P2.out.free
          have q0 : w2.cell? ⟨w1.heap.size, 0, none⟩ = some (.int .i64 n) := Q2.out.cell 0
          have q1 : w2.cell? ⟨w1.heap.size, 1, none⟩ = some (.int .i64 0) := Q2.out.cell 1
          have q2 : w2.cell? ⟨w1.heap.size, 2, none⟩ = some (.int .u32 0) := Q2.out.cell 2
          have q3 : w2.cell? ⟨w1.heap.size, 3, none⟩ = some (.slice Av fs.length cv) := Q2.out.cell 3
          have f9 : ∀ i, w2.frozen? ⟨w1.heap.size, i, none⟩ = false := Q2.out.free
          generalize w1.heap.size = g9 at *
          go_wp2_with fail
          refine bodyPost_ret (v := .tuple #[rowV n 0 0 (.slice Av fs.length cv), .bool false]) ?_ rfl ⟨n, 0, 0, Av, fs.length, cv, by rw [HPR.out]; rfl, (fun x hx => by rw [HPR.out] at hx; cases hx), ?_⟩
          · simp [results, Tryd.results24, go_sem, p0, p1, p2, p3, q0, q1, q2, q3, gne]
          · repeat (first | exact B2.out | refine Below.setCell ?_ (Nat.le_refl w.heap.size) _ | refine Below.setCell ?_ hwg _)
        · have hoI : (opOf h == 0) = false := by simpa using ho0
          have PR := PP.out
          rw [if_neg hW, if_neg ho0] at PR
          have HPR := Lib.hid PR
          have FR := Lib.hid (fun w hs => reffill05_any n (opOf h) 0 Av fs.length cv fs ⟨#[48]⟩ w hs FS.out hfl (by decide))
          unfold FillPost at FR
          clear PR PP ho0 hW
          generalize fillOk (opOf h) (substL (opOf h) fs ⟨#[48]⟩) = ok at *
          generalize substL (opOf h) fs ⟨#[48]⟩ = S at *
          generalize opOf h = op at *
          go_wp2_with fail
          generalize w1.alloc (.cells #[.int .i64 n, .int .i64 0, .int .u32 0, .slice Av fs.length cv] 61) = V2 at *
          refine (OC.out _).mono ?_
          rintro e w2 ⟨rfl, hb2⟩
          have P2 := Lib.hid (P1.out.below hb2 P1.out.lt)
          have Q2 := Lib.hid (Q1.out.below hb2 Q1.out.lt)
          have B2 := Lib.hid (B1.out.trans (hb2.mono B1.out.size))
          have O2 := Lib.hid (O1.out.below hb2)
          clear hb2 P1 Q1 B1 O1 OC
          have p0 : w2.cell? ⟨w.heap.size, 0, none⟩ = some (.int .i64 0) := P2.out.cell 0
          have p1 : w2.cell? ⟨w.heap.size, 1, none⟩ = some (.int .i64 0) := P2.out.cell 1
          have p2 : w2.cell? ⟨w.heap.size, 2, none⟩ = some (.int .u32 0) := P2.out.cell 2
          have p3 : w2.cell? ⟨w.heap.size, 3, none⟩ = some (.slice none 0 0) := P2.out.cell 3
          have f4 : ∀ i, w2.frozen? ⟨w.heap.size, i, none⟩ = false := P2.out.free
          have q0 : w2.cell? ⟨w1.heap.size, 0, none⟩ = some (.int .i64 n) := Q2.out.cell 0
          have q1 : w2.cell? ⟨w1.heap.size, 1, none⟩ = some (.int .i64 0) := Q2.out.cell 1
          have q2 : w2.cell? ⟨w1.heap.size, 2, none⟩ = some (.int .u32 0) := Q2.out.cell 2
          have q3 : w2.cell? ⟨w1.heap.size, 3, none⟩ = some (.slice Av fs.length cv) := Q2.out.cell 3
          have f9 : ∀ i, w2.frozen? ⟨w1.heap.size, i, none⟩ = false := Q2.out.free
          have QS := Lib.hid (show Whole (w2.setCell ⟨w1.heap.size, 1, none⟩ (.int .i64 op)) w1.heap.size 61 #[.int .i64 n, .int .i64 op, .int .u32 0, .slice Av fs.length cv] from Q2.out.store 1 _)
          have PS := Lib.hid (show Whole (w2.setCell ⟨w1.heap.size, 1, none⟩ (.int .i64 op)) w.heap.size 61 #[.int .i64 0, .int .i64 0, .int .u32 0, .slice none 0 0] from P2.out.far (p := ⟨w1.heap.size, 1, none⟩) (Ne.symm gne) _)
          have OS := Lib.hid (ownsS_set O2.out Q2.out (i := 1) (.int .i64 op))
          have BS := Lib.hid (B2.out.setCell (p := ⟨w1.heap.size, 1, none⟩) hwg (.int .i64 op))
          have NS := Lib.hid OS.out.nums
          have s0 : (w2.setCell ⟨w1.heap.size, 1, none⟩ (.int .i64 op)).cell? ⟨w1.heap.size, 0, none⟩ = some (.int .i64 n) := QS.out.cell 0
          have s1 : (w2.setCell ⟨w1.heap.size, 1, none⟩ (.int .i64 op)).cell? ⟨w1.heap.size, 1, none⟩ = some (.int .i64 op) := QS.out.cell 1
          have s2 : (w2.setCell ⟨w1.heap.size, 1, none⟩ (.int .i64 op)).cell? ⟨w1.heap.size, 2, none⟩ = some (.int .u32 0) := QS.out.cell 2
          have s3 : (w2.setCell ⟨w1.heap.size, 1, none⟩ (.int .i64 op)).cell? ⟨w1.heap.size, 3, none⟩ = some (.slice Av fs.length cv) := QS.out.cell 3
          generalize w1.heap.size = g9 at *
          clear P2 Q2 B2 O2
          go_wp2_with fail
          generalize w2.setCell ⟨g9, 1, none⟩ (.int .i64 op) = W3 at *
          refine (FR.out _ NS.out).mono ?_
          rintro e w4 ⟨o', a', b', c', n', rfl, _, hb4⟩
          have P4 := Lib.hid (PS.out.below hb4 PS.out.lt)
          have Q4 := Lib.hid (QS.out.below hb4 QS.out.lt)
          have B4 := Lib.hid (BS.out.trans (hb4.mono BS.out.size))
          have O4 := Lib.hid (OS.out.below hb4)
          clear hb4 FR NS OS BS PS QS s0 s1 s2 s3 p0 p1 p2 p3 q0 q1 q2 q3 f4 f9
          have p0 : w4.cell? ⟨w.heap.size, 0, none⟩ = some (.int .i64 0) := P4.out.cell 0
          have p1 : w4.cell? ⟨w.heap.size, 1, none⟩ = some (.int .i64 0) := P4.out.cell 1
          have p2 : w4.cell? ⟨w.heap.size, 2, none⟩ = some (.int .u32 0) := P4.out.cell 2
          have p3 : w4.cell? ⟨w.heap.size, 3, none⟩ = some (.slice none 0 0) := P4.out.cell 3
          have f4 : ∀ i, w4.frozen? ⟨w.heap.size, i, none⟩ = false := P4.out.free
          have q0 : w4.cell? ⟨g9, 0, none⟩ = some (.int .i64 n) := Q4.out.cell 0
          have q1 : w4.cell? ⟨g9, 1, none⟩ = some (.int .i64 op) := Q4.out.cell 1
          have q2 : w4.cell? ⟨g9, 2, none⟩ = some (.int .u32 0) := Q4.out.cell 2
          have q3 : w4.cell? ⟨g9, 3, none⟩ = some (.slice Av fs.length cv) := Q4.out.cell 3
          go_wp2_with fail
          refine bodyPost_ret (v := .tuple #[rowV n op 0 (.slice Av fs.length cv), .bool ok]) ?_ rfl ⟨n, op, 0, Av, fs.length, cv, ?_, fun x hx => ?_, ?_⟩
          · simp [results, Tryd.results24, go_sem, p0, p1, p2, p3, q0, q1, q2, q3, gne]
          · rw [HPR.out]
            cases ok <;> rfl
          · rw [HPR.out] at hx
            cases hok : ok with
            | false =>
              rw [hok] at hx
              cases hx
            | true =>
              rw [hok, if_pos rfl] at hx
              injection hx with hx
              subst hx
              refine ⟨rfl, rfl, rfl, rfl, ?_⟩
              exact ownsS_set (ownsS_set (ownsS_set (ownsS_set O4.out P4.out _) (P4.out.store 0 _) _) ((P4.out.store 0 _).store 1 _) _) (((P4.out.store 0 _).store 1 _).store 2 _) _
          · repeat (first | exact B4.out | refine Below.setCell ?_ (Nat.le_refl w.heap.size) _ | refine Below.setCell ?_ hwg _)
end Go.Proofs.YtnmpamfgkidmiaaDoor

/- Asm: the answers' place. -/
namespace Go.Proofs.YtnmpamfgkidmiaaDoor
open Go.ChangeShapes Go.WideShapes Go.ChangeAt Go.RowKit
set_option linter.unusedVariables false
set_option linter.unusedSimpArgs false

/-- Rows in memory: each with the value of its fields. -/
abbrev RowX := Row5 × Value

def rowCells (r : RowX) : List Value := [.int .i64 r.1.line, .int .i64 r.1.op, .int .u32 r.1.word, r.2]

/-- The fields of all rows. -/
def RowsOk (w : World) (B : Nat) (rs : List RowX) : Prop := ∀ r ∈ rs, OwnsS 9 w B r.2 r.1.fields.length r.1.fields

def noRow : RowX := (⟨0, 0, 0, []⟩, .slice none 0 0)

/-- What stands in the place of a row's name. -/
def lastT (r : Row5) (ls : List Lab) (k : Nat) : ByteArray := if isNm r.op r.fields = true then nt (findL ls (lastL r.fields) - k - 1) else ⟨#[48]⟩

/-- A row's word, and the error's number. -/
def placeP (r : Row5) (ls : List Lab) (k : Nat) : Int × Int :=
  if r.op = 0 then (r.word, 0)
  else if isNm r.op r.fields = true ∧ findL ls (lastL r.fields) < 0 then (0, 50)
  else if fillOk r.op (substL r.op r.fields (lastT r ls k)) = true then (wordF r.op (substL r.op r.fields (lastT r ls k)), 0)
  else (0, 52)

theorem findL_bound {ls : List Lab} (h : ∀ x ∈ ls, x.2 ≤ 1000000) (s : ByteArray) : -1 ≤ findL ls s ∧ findL ls s ≤ 1000000 := by
  induction ls with
  | nil => exact ⟨Int.le_refl _, by show (-1 : Int) ≤ _; omega⟩
  | cons x l ih =>
    unfold findL
    split
    · have := h x (by simp)
      omega
    · exact ih (fun y hy => h y (by simp [hy]))

theorem wordF_enc {op : Int} {ss : List ByteArray} (h : fillOk op ss = true) : encR op (fa op ss) (fb op ss) (fc op ss) (fn op ss) = .tuple #[.int .u32 (wordF op ss), .int .i64 0] := by
  letI : LinesAt := ⟨0, #[]⟩
  unfold encR wordF
  rw [fill_check h]

theorem ownsRow_below5 {w w' : World} {B : Nat} {e : TypeId} {sz : Nat} {v : Value} {n : Nat} {xs : List Value} (h : w.ownsRow B e sz v n xs) (hb : Below w.heap.size w w') : w'.ownsRow B e sz v n xs :=
  World.ownsRow.kept (row := none) h ⟨hb.os, hb.tape, hb.output, hb.size, fun i hi _ => hb.block i hi⟩ (by cases hv : v.ownBlock <;> simp)

set_option maxHeartbeats 16000000 in
set_option maxRecDepth 100000 in
theorem place05_any (A : Option Addr) (c B : Nat) (rs : List RowX) (A2 : Option Addr) (c2 B2 : Nat) (ls : List Lab) (k : Nat) (w : World) (hr : w.ownsRow B 61 4 (.slice A rs.length c) rs.length (rs.flatMap rowCells)) (hf : RowsOk w B rs) (hl : w.ownsRow B2 59 2 (.slice A2 ls.length c2) ls.length (ls.flatMap labCells)) (hk : k < rs.length) (hn : rs.length ≤ 1000000) (hm : ls.length ≤ 1000000) (hlb : ∀ x ∈ ls, x.1.size ≤ 1000000 ∧ x.2 ≤ 1000000) (hz : ∀ r ∈ rs, r.1.fields.length ≤ 1000000 ∧ ∀ z ∈ r.1.fields, z.size ≤ 1000000) :
    Calls Tryd.prog 25 #[.slice A rs.length c, .slice A2 ls.length c2, .int .i64 k] w fun e w' => e = .returned (.tuple #[.int .u32 (placeP (rs.getD k noRow).1 ls k).1, .int .i64 (placeP (rs.getD k noRow).1 ls k).2]) ∧ Below w.heap.size w w' := by
  obtain ⟨hc, g, rfl, _, hgl, hg⟩ := own_cell (f := rowCells) (fun _ => rfl) noRow hr rfl hk
  have hmem : rs.getD k noRow ∈ rs := by
    rw [List.getD_eq_getElem?_getD, List.getElem?_eq_getElem hk]
    exact List.getElem_mem hk
  have hF := hf _ hmem
  obtain ⟨hz1, hz2⟩ := hz _ hmem
  have hkI : (k : Int) < rs.length := by omega
  have hnn : rs.length ≤ 1000000 := hn
  clear hf hz hmem hr
  generalize rs.length = n at *
  generalize rs.getD k noRow = rx at *
  obtain ⟨r, v⟩ := rx
  obtain ⟨l, op, wd, fs⟩ := r
  have hF : OwnsS 9 w B v fs.length fs := hF
  have hz1 : fs.length ≤ 1000000 := hz1
  have hz2 : ∀ z ∈ fs, z.size ≤ 1000000 := hz2
  obtain ⟨A3, c3, rfl, hS⟩ := OwnsS.form hF
  have x0 : w.cell? ⟨g, k * 4, none⟩ = some (.int .i64 l) := hg 0 (by decide)
  have x1 : w.cell? ⟨g, k * 4 + 1, none⟩ = some (.int .i64 op) := hg 1 (by decide)
  have x2 : w.cell? ⟨g, k * 4 + 2, none⟩ = some (.int .u32 wd) := hg 2 (by decide)
  have x3 : w.cell? ⟨g, k * 4 + 3, none⟩ = some (.slice A3 fs.length c3) := hg 3 (by decide)
  have BA := Lib.hid ((Below.refl w.heap.size w).alloc (Nat.le_refl _) (.cells #[.int .i64 l, .int .i64 op, .int .u32 wd, .slice A3 fs.length c3] 61))
  have Q := Lib.hid (Whole.made w 61 #[.int .i64 l, .int .i64 op, .int .u32 wd, .slice A3 fs.length c3] _ rfl)
  have HS := Lib.hid (Strs.below hS BA.out)
  have HL := Lib.hid (World.ownsRow.alloc hl (.cells #[.int .i64 l, .int .i64 op, .int .u32 wd, .slice A3 fs.length c3] 61))
  have HLB := Lib.hid hlb
  have HZ := Lib.hid hz2
  have PL := Lib.hid (show placeP ⟨l, op, wd, fs⟩ ls k = if op = 0 then (wd, 0) else if isNm op fs = true ∧ findL ls (lastL fs) < 0 then (0, 50) else if fillOk op (substL op fs (lastT ⟨l, op, wd, fs⟩ ls k)) = true then (wordF op (substL op fs (lastT ⟨l, op, wd, fs⟩ ls k)), 0) else (0, 52) from rfl)
  have LT := Lib.hid (show lastT ⟨l, op, wd, fs⟩ ls k = if isNm op fs = true then nt (findL ls (lastL fs) - k - 1) else ⟨#[48]⟩ from rfl)
  clear hF hS hl hlb hz2 hg
  generalize placeP ⟨l, op, wd, fs⟩ ls k = pr at *
  generalize lastT ⟨l, op, wd, fs⟩ ls k = lt at *
  show Calls Tryd.prog 25 _ w fun e w' => e = .returned (.tuple #[.int .u32 pr.1, .int .i64 pr.2]) ∧ Below w.heap.size w w'
  have q0 : (w.alloc (.cells #[.int .i64 l, .int .i64 op, .int .u32 wd, .slice A3 fs.length c3] 61)).cell? ⟨w.heap.size, 0, none⟩ = some (.int .i64 l) := Q.out.cell 0
  have q1 : (w.alloc (.cells #[.int .i64 l, .int .i64 op, .int .u32 wd, .slice A3 fs.length c3] 61)).cell? ⟨w.heap.size, 1, none⟩ = some (.int .i64 op) := Q.out.cell 1
  have q2 : (w.alloc (.cells #[.int .i64 l, .int .i64 op, .int .u32 wd, .slice A3 fs.length c3] 61)).cell? ⟨w.heap.size, 2, none⟩ = some (.int .u32 wd) := Q.out.cell 2
  have q3 : (w.alloc (.cells #[.int .i64 l, .int .i64 op, .int .u32 wd, .slice A3 fs.length c3] 61)).cell? ⟨w.heap.size, 3, none⟩ = some (.slice A3 fs.length c3) := Q.out.cell 3
  have hIop : n ≤ c := hc
  by_cases hop : op = 0
  · subst hop
    have HP := Lib.hid (show pr = (wd, 0) from PL.out.trans (if_pos rfl))
    clear PL LT
    go_enter Tryd.func25, Tryd.ntmps25
    go_wp2_with fail
    go_ret2
    exact ⟨by rw [HP.out]; rfl, BA.out⟩
  · have hop0 : (op == 0) = false := by simpa using hop
    have PL2 := Lib.hid (PL.out.trans (if_neg hop))
    have NM := Lib.hid (fun w h => named05_any l op wd A3 fs.length c3 fs w h HZ.out hz1)
    clear PL hop
    cases hi : isNm op fs with
    | false =>
      have nm := named_no hi
      rw [nm.1] at NM
      rw [hi, if_neg (by decide)] at LT
      have SL : substL op fs lt = fs := if_neg (by rw [hi]; decide)
      rw [hi, if_neg (fun h => by cases h.1), SL] at PL2
      have FR := Lib.hid (fun w hs => reffill05_any l op wd A3 fs.length c3 fs ⟨#[48]⟩ w hs HZ.out hz1 (by decide))
      rw [show substL op fs ⟨#[48]⟩ = fs from if_neg (by rw [hi]; decide)] at FR
      clear nm SL
      go_enter Tryd.func25, Tryd.ntmps25
      go_wp2_with fail
      generalize w.alloc (.cells #[.int .i64 l, .int .i64 op, .int .u32 wd, .slice A3 fs.length c3] 61) = V at *
      refine (NM.out _ HS.out).mono ?_
      rintro e w1 ⟨rfl, hb1⟩
      have B1 := Lib.hid (BA.out.trans (hb1.mono BA.out.size))
      have HS1 := Lib.hid (Strs.below HS.out hb1)
      have Q1 := Lib.hid (Q.out.below hb1 Q.out.lt)
      have hb1' := hb1
      clear hb1 q0 q1 q2 q3 BA HS Q
      have q0 : w1.cell? ⟨w.heap.size, 0, none⟩ = some (.int .i64 l) := Q1.out.cell 0
      have q1 : w1.cell? ⟨w.heap.size, 1, none⟩ = some (.int .i64 op) := Q1.out.cell 1
      have q2 : w1.cell? ⟨w.heap.size, 2, none⟩ = some (.int .u32 wd) := Q1.out.cell 2
      have q3 : w1.cell? ⟨w.heap.size, 3, none⟩ = some (.slice A3 fs.length c3) := Q1.out.cell 3
      clear hb1'
      go_wp2_with fail
      have FX := Lib.hid (FR.out _ HS1.out)
      unfold FillPost at FX
      cases hok : fillOk op fs with
      | false =>
        rw [hok] at FX
        have HP := Lib.hid (show pr = (0, 52) from PL2.out.trans (if_neg (by rw [hok]; decide)))
        clear hok
        refine FX.out.mono ?_
        rintro e w5 ⟨o', a', b', c', n', rfl, _, hb5⟩
        have B5 := Lib.hid ((B1.out.trans (hb5.mono B1.out.size)).alloc (Nat.le_trans B1.out.size hb5.size) (.cells #[.int .i64 o', .int .i64 a', .int .i64 b', .int .i64 c', .int .i64 n'] 78))
        clear hb5
        go_wp2_with fail
        go_ret2
        exact ⟨by rw [HP.out]; rfl, B5.out⟩
      | true =>
        have EN := Lib.hid (fun w => refencode_any op (fa op fs) (fb op fs) (fc op fs) (fn op fs) w)
        rw [wordF_enc hok] at EN
        have HP := Lib.hid (show pr = (wordF op fs, 0) from PL2.out.trans (if_pos hok))
        unfold instrV at EN
        rw [hok] at FX
        clear hok
        have FX2 := Lib.hid (FX.out.mono (R' := fun e w' => e = .returned (.tuple #[.agg #[.int .i64 op, .int .i64 (fa op fs), .int .i64 (fb op fs), .int .i64 (fc op fs), .int .i64 (fn op fs)], .bool true]) ∧ Below w1.heap.size w1 w') (by
          rintro e w5 ⟨o', a', b', c', n', rfl, hf5, hb5⟩
          obtain ⟨rfl, rfl, rfl, rfl, rfl⟩ := hf5 rfl
          exact ⟨rfl, hb5⟩))
        clear FX
        refine FX2.out.mono ?_
        rintro e w5 ⟨rfl, hb5⟩
        generalize wordF op fs = wf at *
        generalize fa op fs = ia at *
        generalize fb op fs = ib at *
        generalize fc op fs = ic at *
        generalize fn op fs = imm at *
        have B5 := Lib.hid ((B1.out.trans (hb5.mono B1.out.size)).alloc (Nat.le_trans B1.out.size hb5.size) (.cells #[.int .i64 op, .int .i64 ia, .int .i64 ib, .int .i64 ic, .int .i64 imm] 78))
        have Q5 := Lib.hid (Whole.made w5 78 #[.int .i64 op, .int .i64 ia, .int .i64 ib, .int .i64 ic, .int .i64 imm] _ rfl)
        clear hb5
        go_wp2_with fail
        refine (EN.out _).mono ?_
        rintro e w6 ⟨rfl, hb6⟩
        have B6 := Lib.hid (B5.out.trans (hb6.mono B5.out.size))
        clear hb6
        go_wp2_with fail
        go_ret2
        exact ⟨by rw [HP.out]; rfl, B6.out⟩
    | true =>
      have nm := named_yes hi
      rw [nm.1] at NM nm
      have nm2 := nm.2
      rw [hi, if_pos rfl] at LT
      rw [hi] at PL2
      have hlz : (lastL fs).size ≤ 1000000 := by
        have h1 := (isNm_ends hi).1
        unfold lastL
        have hp : fs.length - 1 < fs.length := by omega
        rw [List.getD_eq_getElem?_getD, List.getElem?_eq_getElem hp]
        exact HZ.out _ (List.getElem_mem hp)
      have FD := Lib.hid (fun w h => find05_any A2 c2 B2 ls (lastL fs) w h hm (fun x hx => (HLB.out x hx).1) hlz)
      have hb := findL_bound (fun x hx => (HLB.out x hx).2) (lastL fs)
      clear nm hlz
      generalize hfl : findL ls (lastL fs) = fl at *
      by_cases hneg : fl < 0
      · have HP := Lib.hid (show pr = (0, 50) from PL2.out.trans (if_pos ⟨rfl, hneg⟩))
        have dneg : decide (fl < 0) = true := decide_eq_true hneg
        clear PL2 LT hfl hb hneg
        generalize lastL fs = ll at *
        go_enter Tryd.func25, Tryd.ntmps25
        go_wp2_with fail
        generalize w.alloc (.cells #[.int .i64 l, .int .i64 op, .int .u32 wd, .slice A3 fs.length c3] 61) = V at *
        refine (NM.out _ HS.out).mono ?_
        rintro e w1 ⟨rfl, hb1⟩
        have B1 := Lib.hid (BA.out.trans (hb1.mono BA.out.size))
        have HS1 := Lib.hid (Strs.below HS.out hb1)
        have Q1 := Lib.hid (Q.out.below hb1 Q.out.lt)
        have hb1' := hb1
        clear hb1 q0 q1 q2 q3 BA HS Q
        have q0 : w1.cell? ⟨w.heap.size, 0, none⟩ = some (.int .i64 l) := Q1.out.cell 0
        have q1 : w1.cell? ⟨w.heap.size, 1, none⟩ = some (.int .i64 op) := Q1.out.cell 1
        have q2 : w1.cell? ⟨w.heap.size, 2, none⟩ = some (.int .u32 wd) := Q1.out.cell 2
        have q3 : w1.cell? ⟨w.heap.size, 3, none⟩ = some (.slice A3 fs.length c3) := Q1.out.cell 3
        have HL1 := Lib.hid (ownsRow_below5 HL.out hb1')
        clear hb1'
        go_wp2_with fail
        refine (NM.out _ HS1.out).mono ?_
        rintro e w2 ⟨rfl, hb2⟩
        have B2' := Lib.hid (B1.out.trans (hb2.mono B1.out.size))
        have HL2 := Lib.hid (ownsRow_below5 HL1.out hb2)
        clear hb2
        go_wp2_with fail
        refine (FD.out _ HL2.out).mono ?_
        rintro e w3 ⟨rfl, rfl⟩
        go_wp2_with fail
        go_ret2
        exact ⟨by rw [HP.out]; rfl, B2'.out⟩
      · have PL3 := Lib.hid (PL2.out.trans (if_neg (fun h => hneg h.2)))
        have dneg : decide (fl < 0) = false := decide_eq_false hneg
        have RT := Lib.hid (fun w => reftext_any (fl - k - 1) w (by omega) (by omega))
        rw [show strOfNums (textNums (fl - k - 1)) = nt (fl - k - 1) from rfl, ← LT.out] at RT
        have hlt : lt.size ≤ 1000000 := by
          rw [LT.out]
          exact Nat.le_trans (text_size _) (by decide)
        have FR := Lib.hid (fun w hs => reffill05_any l op wd A3 fs.length c3 fs lt w hs HZ.out hz1 hlt)
        clear PL2 LT hfl hneg
        generalize substL op fs lt = S at *
        generalize lastL fs = ll at *
        go_enter Tryd.func25, Tryd.ntmps25
        go_wp2_with fail
        generalize w.alloc (.cells #[.int .i64 l, .int .i64 op, .int .u32 wd, .slice A3 fs.length c3] 61) = V at *
        refine (NM.out _ HS.out).mono ?_
        rintro e w1 ⟨rfl, hb1⟩
        have B1 := Lib.hid (BA.out.trans (hb1.mono BA.out.size))
        have HS1 := Lib.hid (Strs.below HS.out hb1)
        have Q1 := Lib.hid (Q.out.below hb1 Q.out.lt)
        have hb1' := hb1
        clear hb1 q0 q1 q2 q3 BA HS Q
        have q0 : w1.cell? ⟨w.heap.size, 0, none⟩ = some (.int .i64 l) := Q1.out.cell 0
        have q1 : w1.cell? ⟨w.heap.size, 1, none⟩ = some (.int .i64 op) := Q1.out.cell 1
        have q2 : w1.cell? ⟨w.heap.size, 2, none⟩ = some (.int .u32 wd) := Q1.out.cell 2
        have q3 : w1.cell? ⟨w.heap.size, 3, none⟩ = some (.slice A3 fs.length c3) := Q1.out.cell 3
        have HL1 := Lib.hid (ownsRow_below5 HL.out hb1')
        clear hb1'
        go_wp2_with fail
        refine (NM.out _ HS1.out).mono ?_
        rintro e w2 ⟨rfl, hb2⟩
        have B2' := Lib.hid (B1.out.trans (hb2.mono B1.out.size))
        have HL2 := Lib.hid (ownsRow_below5 HL1.out hb2)
        have HS2 := Lib.hid (Strs.below HS1.out hb2)
        have Q2 := Lib.hid (Q1.out.below hb2 Q1.out.lt)
        clear hb2 q0 q1 q2 q3 B1 HS1 Q1 HL1
        go_wp2_with fail
        refine (FD.out _ HL2.out).mono ?_
        rintro e w3 ⟨rfl, rfl⟩
        go_wp2_with fail
        refine (RT.out _).mono ?_
        rintro e w4 ⟨rfl, hb4⟩
        have B1 := Lib.hid (B2'.out.trans (hb4.mono B2'.out.size))
        have HS1 := Lib.hid (Strs.below HS2.out hb4)
        have Q1 := Lib.hid (Q2.out.below hb4 Q2.out.lt)
        clear hb4 B2' HS2 Q2 HL2
        have q0 : w4.cell? ⟨w.heap.size, 0, none⟩ = some (.int .i64 l) := Q1.out.cell 0
        have q1 : w4.cell? ⟨w.heap.size, 1, none⟩ = some (.int .i64 op) := Q1.out.cell 1
        have q2 : w4.cell? ⟨w.heap.size, 2, none⟩ = some (.int .u32 wd) := Q1.out.cell 2
        have q3 : w4.cell? ⟨w.heap.size, 3, none⟩ = some (.slice A3 fs.length c3) := Q1.out.cell 3
        go_wp2_with fail
        have FX := Lib.hid (FR.out _ HS1.out)
        unfold FillPost at FX
        cases hok : fillOk op S with
        | false =>
          rw [hok] at FX
          have HP := Lib.hid (show pr = (0, 52) from PL3.out.trans (if_neg (by rw [hok]; decide)))
          clear hok
          refine FX.out.mono ?_
          rintro e w5 ⟨o', a', b', c', n', rfl, _, hb5⟩
          have B5 := Lib.hid ((B1.out.trans (hb5.mono B1.out.size)).alloc (Nat.le_trans B1.out.size hb5.size) (.cells #[.int .i64 o', .int .i64 a', .int .i64 b', .int .i64 c', .int .i64 n'] 78))
          clear hb5
          go_wp2_with fail
          go_ret2
          exact ⟨by rw [HP.out]; rfl, B5.out⟩
        | true =>
          have EN := Lib.hid (fun w => refencode_any op (fa op S) (fb op S) (fc op S) (fn op S) w)
          rw [wordF_enc hok] at EN
          have HP := Lib.hid (show pr = (wordF op S, 0) from PL3.out.trans (if_pos hok))
          unfold instrV at EN
          rw [hok] at FX
          clear hok
          have FX2 := Lib.hid (FX.out.mono (R' := fun e w' => e = .returned (.tuple #[.agg #[.int .i64 op, .int .i64 (fa op S), .int .i64 (fb op S), .int .i64 (fc op S), .int .i64 (fn op S)], .bool true]) ∧ Below w4.heap.size w4 w') (by
            rintro e w5 ⟨o', a', b', c', n', rfl, hf5, hb5⟩
            obtain ⟨rfl, rfl, rfl, rfl, rfl⟩ := hf5 rfl
            exact ⟨rfl, hb5⟩))
          clear FX
          refine FX2.out.mono ?_
          rintro e w5 ⟨rfl, hb5⟩
          generalize wordF op S = wf at *
          generalize fa op S = ia at *
          generalize fb op S = ib at *
          generalize fc op S = ic at *
          generalize fn op S = imm at *
          have B5 := Lib.hid ((B1.out.trans (hb5.mono B1.out.size)).alloc (Nat.le_trans B1.out.size hb5.size) (.cells #[.int .i64 op, .int .i64 ia, .int .i64 ib, .int .i64 ic, .int .i64 imm] 78))
          have Q5 := Lib.hid (Whole.made w5 78 #[.int .i64 op, .int .i64 ia, .int .i64 ib, .int .i64 ic, .int .i64 imm] _ rfl)
          clear hb5
          go_wp2_with fail
          refine (EN.out _).mono ?_
          rintro e w6 ⟨rfl, hb6⟩
          have B6 := Lib.hid (B5.out.trans (hb6.mono B5.out.size))
          clear hb6
          go_wp2_with fail
          go_ret2
          exact ⟨by rw [HP.out]; rfl, B6.out⟩
end Go.Proofs.YtnmpamfgkidmiaaDoor

/- Asm: the answers' Assemble. -/
namespace Go.Proofs.YtnmpamfgkidmiaaDoor
open Go.ChangeShapes Go.WideShapes Go.ChangeAt Go.RowKit
set_option linter.unusedVariables false
set_option linter.unusedSimpArgs false

/-- append to an own row of any elements. -/
theorem wpList_append_rows {P : Program} (w : World) {ops : Array Oper} {rest : List Oper} {o : Oper} {a : Act} {Q : Exit → Act → World → Prop} (hgd : o.guard = none) (s x : Operand) (t : TypeId) (ho : o.op = Op.call { callee := Callee.builtin Builtin.append, args := #[s, x], argTypes := #[t, t] })
    (base : Nat) (e : TypeId) (i : TypeInfo) (z : Value) (size bytes : Nat) (ht : P.underlying t = some (.slice e)) (hi : P.info? e = some i) (hz : i.zero = some z)
    (hsize : i.size = size) (hby : i.bytes = bytes) (hzs : z.cells.size = size) (hsz : 0 < size)
    (v : Value) (n : Nat) (xs : List Value) (hs : a.eval s = v) (hown : w.ownsRow base e size v n xs)
    (ad : Addr) (m c : Nat) (news : List Value) (hx : a.eval x = .slice (some ad) m c) (hl : news.length = m * size) (hnews : ∀ j u, news[j]? = some u → w.cell? (ad.add j) = some u) (h1 : ∀ u ∈ news, u.oneCell' = true)
    (h63 : n + m ≤ maxLen) (hbytes : (n + m) * bytes ≤ 140737488355328) (hbase : base ≤ w.heap.size)
    (h : ∀ v' w', w'.ownsRow base e size v' (n + m) (xs ++ news) → w.grownBy w' v.ownBlock → wpList P ops Q rest (a.put o.dst v') w') : wpList P ops Q (o :: rest) a w := by
  refine wpList_plain hgd fun K hK => ?_
  obtain ⟨v', w', hrun, r1, r2, _⟩ := run_append_own_at (P := P) w base t o.type e i z size bytes ht hi hz hsize hby hzs hsz v n xs hown ad m c news hl hnews h1 h63 hbytes hbase
  unfold Oper.wp execOp
  simp only [ho, resolve, invoke, builtin, Sem.run_bind, Sem.run_pure, Result.andThen_ok, List.map_toArray, List.map_cons, List.map_nil, hs, hx, hrun]
  exact hK _ _ (h v' w' r1 r2)

/-- What the lines so far come to. -/
structure RS where
  rows : List Row5
  labels : List Lab

/-- A line more. -/
def stepR (n : Nat) (l : ByteArray) (st : RS) : Int × RS :=
  if l.size = 0 then (0, st)
  else if l.get! 0 = 59 then (0, st)
  else if l.get! (l.size - 1) = 58 then
    (if nameB (l.extract 0 (l.size - 1)) = true then
      (if 0 ≤ findL st.labels (l.extract 0 (l.size - 1)) then (51, st) else (0, ⟨st.rows, st.labels ++ [(l.extract 0 (l.size - 1), st.rows.length)]⟩))
    else (22, st))
  else match parseP n l with
    | none => (22, st)
    | some x => if 16384 ≤ st.rows.length then (242, st) else (0, ⟨st.rows ++ [x], st.labels⟩)

theorem stepR_empty {n : Nat} {l : ByteArray} {st : RS} (h : l.size = 0) : stepR n l st = (0, st) := if_pos h

theorem stepR_rem {n : Nat} {l : ByteArray} {st : RS} (h0 : l.size ≠ 0) (h : l.get! 0 = 59) : stepR n l st = (0, st) := (if_neg h0).trans (if_pos h)

theorem stepR_lab {n : Nat} {l : ByteArray} {st : RS} (h0 : l.size ≠ 0) (h1 : l.get! 0 ≠ 59) (h : l.get! (l.size - 1) = 58) : stepR n l st = if nameB (l.extract 0 (l.size - 1)) = true then (if 0 ≤ findL st.labels (l.extract 0 (l.size - 1)) then (51, st) else (0, ⟨st.rows, st.labels ++ [(l.extract 0 (l.size - 1), st.rows.length)]⟩)) else (22, st) := (if_neg h0).trans ((if_neg h1).trans (if_pos h))

theorem stepR_bad {n : Nat} {l : ByteArray} {st : RS} (h0 : l.size ≠ 0) (h1 : l.get! 0 ≠ 59) (h : l.get! (l.size - 1) ≠ 58) (hp : parseP n l = none) : stepR n l st = (22, st) := (if_neg h0).trans ((if_neg h1).trans ((if_neg h).trans (by rw [hp])))

theorem stepR_row {n : Nat} {l : ByteArray} {st : RS} {x : Row5} (h0 : l.size ≠ 0) (h1 : l.get! 0 ≠ 59) (h : l.get! (l.size - 1) ≠ 58) (hp : parseP n l = some x) (hr : ¬ 16384 ≤ st.rows.length) : stepR n l st = (0, ⟨st.rows ++ [x], st.labels⟩) := (if_neg h0).trans ((if_neg h1).trans ((if_neg h).trans (by rw [hp]; exact if_neg hr)))

/-- All lines, from line n on. -/
def runR : List ByteArray → Nat → RS → Int × Nat × RS
  | [], n, st => (0, n, st)
  | l :: ls, n, st => if (stepR (n + 1) l st).1 = 0 then runR ls (n + 1) (stepR (n + 1) l st).2 else ((stepR (n + 1) l st).1, n + 1, st)

theorem runR_cons (l : ByteArray) (ls : List ByteArray) (n : Nat) (st : RS) : runR (l :: ls) n st = if (stepR (n + 1) l st).1 = 0 then runR ls (n + 1) (stepR (n + 1) l st).2 else ((stepR (n + 1) l st).1, n + 1, st) := rfl

/-- The words of rows, from row k on; or the first error, and its line. -/
def placesR (ls : List Lab) : List Row5 → Nat → Int × Nat × List Int
  | [], _ => (0, 0, [])
  | r :: rs, k => if (placeP r ls k).2 = 0 then (if (placesR ls rs (k + 1)).1 = 0 then (0, 0, (placeP r ls k).1 :: (placesR ls rs (k + 1)).2.2) else placesR ls rs (k + 1)) else ((placeP r ls k).2, r.line, [])

theorem placesR_cons (ls : List Lab) (r : Row5) (rs : List Row5) (k : Nat) : placesR ls (r :: rs) k = if (placeP r ls k).2 = 0 then (if (placesR ls rs (k + 1)).1 = 0 then (0, 0, (placeP r ls k).1 :: (placesR ls rs (k + 1)).2.2) else placesR ls rs (k + 1)) else ((placeP r ls k).2, r.line, []) := rfl

/-- What a text comes to: the error, the line, the words, the labels. -/
def refF (text : ByteArray) : Int × Nat × List Int × List Lab :=
  if 4096 < (cutS 10 text).length then (242, 4097, [], [])
  else if (runR (cutS 10 text) 0 ⟨[], []⟩).1 = 0 then
    (if (placesR (runR (cutS 10 text) 0 ⟨[], []⟩).2.2.labels (runR (cutS 10 text) 0 ⟨[], []⟩).2.2.rows 0).1 = 0 then
      (0, 0, (placesR (runR (cutS 10 text) 0 ⟨[], []⟩).2.2.labels (runR (cutS 10 text) 0 ⟨[], []⟩).2.2.rows 0).2.2, (runR (cutS 10 text) 0 ⟨[], []⟩).2.2.labels)
    else ((placesR (runR (cutS 10 text) 0 ⟨[], []⟩).2.2.labels (runR (cutS 10 text) 0 ⟨[], []⟩).2.2.rows 0).1, (placesR (runR (cutS 10 text) 0 ⟨[], []⟩).2.2.labels (runR (cutS 10 text) 0 ⟨[], []⟩).2.2.rows 0).2.1, [], []))
  else ((runR (cutS 10 text) 0 ⟨[], []⟩).1, (runR (cutS 10 text) 0 ⟨[], []⟩).2.1, [], [])

/-- What Assemble leaves. -/
def RefRes (w : World) (r : Int × Nat × List Int × List Lab) (e : Ending) (w' : World) : Prop :=
  ∃ v0 v1, e = .returned (.tuple #[v0, v1, .int .i64 r.2.1, .int .i64 r.1]) ∧ Below w.heap.size w w' ∧ Owns .u32 45 w' w.heap.size v0 r.2.2.1.length r.2.2.1 ∧ w'.ownsRow w.heap.size 59 2 v1 r.2.2.2.length (r.2.2.2.flatMap labCells)

/-- The rows' bounds. -/
structure RIn (st : RS) (k N : Nat) : Prop where
  rows : st.rows.length ≤ k
  labels : st.labels.length ≤ k
  names : ∀ x ∈ st.labels, x.1.size ≤ 32 ∧ x.2 ≤ k
  fields : ∀ r ∈ st.rows, r.fields.length ≤ N ∧ ∀ z ∈ r.fields, z.size ≤ N

theorem RIn.start (N : Nat) : RIn ⟨[], []⟩ 0 N := ⟨Nat.le_refl _, Nat.le_refl _, fun _ h => (List.not_mem_nil h).elim, fun _ h => (List.not_mem_nil h).elim⟩

theorem RIn.up {st : RS} {k N : Nat} (h : RIn st k N) : RIn st (k + 1) N := ⟨Nat.le_succ_of_le h.rows, Nat.le_succ_of_le h.labels, fun x hx => ⟨(h.names x hx).1, Nat.le_succ_of_le (h.names x hx).2⟩, h.fields⟩

theorem name_small5 {s : ByteArray} (h : nameB s = true) : s.size ≤ 32 := by
  unfold nameB at h
  simp only [Bool.and_eq_true, decide_eq_true_eq] at h
  exact h.1.1.2

theorem RIn.label {st : RS} {k N : Nat} (h : RIn st k N) {s : ByteArray} (hs : nameB s = true) : RIn ⟨st.rows, st.labels ++ [(s, st.rows.length)]⟩ (k + 1) N := by
  refine ⟨Nat.le_succ_of_le h.rows, by simp; exact h.labels, fun x hx => ?_, h.fields⟩
  rcases List.mem_append.1 hx with hx | hx
  · exact ⟨(h.names x hx).1, Nat.le_succ_of_le (h.names x hx).2⟩
  · rw [List.mem_singleton] at hx
    subst hx
    exact ⟨name_small5 hs, Nat.le_succ_of_le h.rows⟩

theorem parseP_fields {n : Nat} {l : ByteArray} {x : Row5} (h : parseP n l = some x) : x.line = n ∧ x.fields.length ≤ l.size + 1 ∧ ∀ z ∈ x.fields, z.size ≤ l.size := by
  have hz := splitFs_small l
  cases hs : splitP l with
  | none =>
    rw [parseP_none hs] at h
    cases h
  | some p =>
    obtain ⟨hd, fs⟩ := p
    rw [hs] at hz
    rw [parseP_some hs] at h
    split at h
    · split at h
      · injection h with h
        subst h
        exact ⟨rfl, hz.2⟩
      · cases h
    · split at h
      · cases h
      · split at h
        · injection h with h
          subst h
          exact ⟨rfl, hz.2⟩
        · cases h

theorem RIn.row {st : RS} {k N : Nat} (h : RIn st k N) {n : Nat} {l : ByteArray} {x : Row5} (hx : parseP n l = some x) (hl : l.size + 1 ≤ N) : RIn ⟨st.rows ++ [x], st.labels⟩ (k + 1) N := by
  obtain ⟨_, h1, h2⟩ := parseP_fields hx
  refine ⟨by simp; exact h.rows, Nat.le_succ_of_le h.labels, fun y hy => ⟨(h.names y hy).1, Nat.le_succ_of_le (h.names y hy).2⟩, fun r hr => ?_⟩
  rcases List.mem_append.1 hr with hr | hr
  · exact h.fields r hr
  · rw [List.mem_singleton] at hr
    subst hr
    exact ⟨by omega, fun z hz => by have := h2 z hz; omega⟩

theorem row_info : (Tryd.prog.info? 61).map (fun i => (i.zero, i.size, i.bytes)) = some (some (.agg #[.int .i64 0, .int .i64 0, .int .u32 0, .slice none 0 0]), 4, 48) := by kernel_rfl

theorem rlab_info : (Tryd.prog.info? 59).map (fun i => (i.zero, i.size, i.bytes)) = some (some (.agg #[.string ⟨#[]⟩, .int .i64 0]), 2, 24) := by kernel_rfl

theorem row_lab : (61 : TypeId) ≠ 59 := by decide
theorem str_rlab : (9 : TypeId) ≠ 59 := by decide
theorem u32_row : (45 : TypeId) ≠ 61 := by decide
theorem u32_rlab : (45 : TypeId) ≠ 59 := by decide
theorem u32_str : (45 : TypeId) ≠ 9 := by decide

theorem rows_apart {w : World} {B B' : Nat} {e e' : TypeId} {sz sz' : Nat} {v v' : Value} {n n' : Nat} {xs xs' : List Value} (h : w.ownsRow B e sz v n xs) (h' : w.ownsRow B' e' sz' v' n' xs') (hne : e ≠ e') : v.ownBlock = none ∨ v.ownBlock ≠ v'.ownBlock := by
  letI : LinesAt := ⟨0, #[]⟩
  exact ownsRow_apart h h' hne

theorem RowsOk.below {w w' : World} {B : Nat} {rs : List RowX} (h : RowsOk w B rs) (hb : Below w.heap.size w w') : RowsOk w' B rs := fun r hr => (h r hr).below hb

theorem RowsOk.grown {w w' : World} {B B' : Nat} {e : TypeId} {sz : Nat} {v : Value} {n : Nat} {xs : List Value} {rs : List RowX} (h : RowsOk w B rs) (ho : w.ownsRow B' e sz v n xs) (hne : (9 : TypeId) ≠ e) (hg : w.grownBy w' v.ownBlock) : RowsOk w' B rs :=
  fun r hr => (h r hr).kept hg (rows_apart (h r hr) ho hne)

theorem own_more {w : World} {B B' : Nat} {e : TypeId} {sz : Nat} {v : Value} {n : Nat} {xs : List Value} (h : w.ownsRow B e sz v n xs) (hB : B' ≤ B) : w.ownsRow B' e sz v n xs := by
  refine ⟨h.1, ?_⟩
  rcases h.2 with h1 | ⟨g, cap, cur, a1, a2, a3⟩
  · exact .inl h1
  · exact .inr ⟨g, cap, cur, a1, by omega, a3⟩

theorem slice_form {w : World} {B : Nat} {e : TypeId} {sz : Nat} {v : Value} {n : Nat} {xs : List Value} (h : w.ownsRow B e sz v n xs) : ∃ A c, v = .slice A n c := by
  rcases h.2 with ⟨h1, h2⟩ | ⟨g, cap, cur, h1, _⟩
  · exact ⟨none, 0, by rw [h2]; exact h1⟩
  · exact ⟨_, _, h1⟩

theorem placesR_zero (ls : List Lab) : ∀ (rs : List Row5) (k : Nat), (placesR ls rs k).1 = 0 → (placesR ls rs k).2.1 = 0
  | [], _, _ => rfl
  | r :: rs, k, h => by
    rw [placesR_cons] at h ⊢
    split at h
    · rename_i h1
      rw [if_pos h1]
      split at h
      · rename_i h2
        rw [if_pos h2]
      · rename_i h2
        exact absurd h h2
    · rename_i h1
      exact absurd h h1

theorem placesR_start (ls : List Lab) (rs : List Row5) (k : Nat) : placesR ls rs k = if (placesR ls rs k).1 = 0 then (0, 0, [] ++ (placesR ls rs k).2.2) else placesR ls rs k := by
  split
  · rename_i h
    have h2 := placesR_zero ls rs k h
    generalize placesR ls rs k = q at *
    obtain ⟨a, b, c⟩ := q
    simp at h h2 ⊢
    exact ⟨h, h2⟩
  · rfl

theorem placesR_step {ls : List Lab} {r : Row5} {rs : List Row5} {k : Nat} {P : Int × Nat × List Int} {done : List Int} (h : P = if (placesR ls (r :: rs) k).1 = 0 then (0, 0, done ++ (placesR ls (r :: rs) k).2.2) else placesR ls (r :: rs) k) (h2 : (placeP r ls k).2 = 0) : P = if (placesR ls rs (k + 1)).1 = 0 then (0, 0, (done ++ [(placeP r ls k).1]) ++ (placesR ls rs (k + 1)).2.2) else placesR ls rs (k + 1) := by
  rw [h, placesR_cons, if_pos h2]
  by_cases h3 : (placesR ls rs (k + 1)).1 = 0
  · rw [if_pos h3, if_pos h3, if_pos rfl]
    simp
  · rw [if_neg h3, if_neg h3, if_neg h3]

theorem placesR_err {ls : List Lab} {r : Row5} {rs : List Row5} {k : Nat} {P : Int × Nat × List Int} {done : List Int} (h : P = if (placesR ls (r :: rs) k).1 = 0 then (0, 0, done ++ (placesR ls (r :: rs) k).2.2) else placesR ls (r :: rs) k) (h2 : (placeP r ls k).2 ≠ 0) : P = ((placeP r ls k).2, r.line, []) := by
  rw [h, placesR_cons, if_neg h2, if_neg h2]

theorem rowU32W : RowOf Tryd.prog 23 45 .u32 4 := rowOf_mk Tryd.underlying23 (by kernel_rfl) (by decide)

set_option maxHeartbeats 32000000 in
set_option maxRecDepth 100000 in
theorem refasm_any (text : ByteArray) (w : World) (hs : text.size ≤ 50000) :
    Calls Tryd.prog 10 #[.string text] w (RefRes w (refF text)) := by
  have CT := Lib.hid (fun w => cut05_any text 10 w (by omega))
  rw [show (((10 : UInt8).toNat : Nat) : Int) = 10 from rfl] at CT
  have CZ := Lib.hid (cutS_size 10 text)
  have CM := Lib.hid (@cutS_small 10 text)
  have RR := Lib.hid (show runR ((cutS 10 text).drop 0) 0 ⟨[], []⟩ = runR (cutS 10 text) 0 ⟨[], []⟩ from rfl)
  have RF := Lib.hid (show refF text = if 4096 < (cutS 10 text).length then (242, 4097, [], []) else if (runR (cutS 10 text) 0 ⟨[], []⟩).1 = 0 then (if (placesR (runR (cutS 10 text) 0 ⟨[], []⟩).2.2.labels (runR (cutS 10 text) 0 ⟨[], []⟩).2.2.rows 0).1 = 0 then (0, 0, (placesR (runR (cutS 10 text) 0 ⟨[], []⟩).2.2.labels (runR (cutS 10 text) 0 ⟨[], []⟩).2.2.rows 0).2.2, (runR (cutS 10 text) 0 ⟨[], []⟩).2.2.labels) else ((placesR (runR (cutS 10 text) 0 ⟨[], []⟩).2.2.labels (runR (cutS 10 text) 0 ⟨[], []⟩).2.2.rows 0).1, (placesR (runR (cutS 10 text) 0 ⟨[], []⟩).2.2.labels (runR (cutS 10 text) 0 ⟨[], []⟩).2.2.rows 0).2.1, [], [])) else ((runR (cutS 10 text) 0 ⟨[], []⟩).1, (runR (cutS 10 text) 0 ⟨[], []⟩).2.1, [], []) from rfl)
  generalize refF text = rf at *
  generalize hrr : runR (cutS 10 text) 0 ⟨[], []⟩ = rr at *
  clear hrr
  generalize cutS 10 text = L at *
  unfold RefRes
  go_enter Tryd.func10, Tryd.ntmps10
  go_wp2_with fail
  refine (CT.out _).mono ?_
  rintro e w1 ⟨vl, rfl, ho1, hb1⟩
  obtain ⟨AL, cL, rfl, hstr⟩ := ho1.form
  have HL := Lib.hid hstr
  have B1 := Lib.hid hb1
  have hz1 := hb1.size
  clear ho1 hstr hb1 CT
  have LZ := Lib.hid (show ∀ z ∈ L, z.size ≤ 50000 from fun z hz => Nat.le_trans (CM.out z hz) hs)
  have hLn : L.length ≤ 50001 := by have := CZ.out; omega
  clear CM CZ
  by_cases hmany : 4096 < L.length
  · have d : decide ((4096 : Int) < L.length) = true := decide_eq_true (by omega)
    have HF := Lib.hid (show rf = (242, 4097, [], []) from RF.out.trans (if_pos hmany))
    clear RF RR
    go_wp2_with fail
    refine bodyPost_ret (v := .tuple #[.slice none 0 0, .slice none 0 0, .int .i64 4097, .int .i64 242]) ?_ rfl ⟨.slice none 0 0, .slice none 0 0, by rw [HF.out]; rfl, B1.out, by rw [HF.out]; exact Owns.nil _ _ _ _, by rw [HF.out]; exact ⟨rfl, .inl ⟨rfl, rfl⟩⟩⟩
    simp [results, Tryd.results10, go_sem]
  have d : decide ((4096 : Int) < L.length) = false := decide_eq_false (by omega)
  have RF2 := Lib.hid (RF.out.trans (if_neg hmany))
  clear RF
  have hL4 : L.length ≤ 4096 := by omega
  obtain ⟨ir, hir, hr0, hr1, hr2⟩ := info_parts row_info
  obtain ⟨il, hil, hq0, hq1, hq2⟩ := info_parts rlab_info
  have R0 := Lib.hid (show w1.ownsRow w1.heap.size 61 4 (.slice none 0 0) ([] : List RowX).length (([] : List RowX).flatMap rowCells) from ⟨rfl, .inl ⟨rfl, rfl⟩⟩)
  have L0 := Lib.hid (show w1.ownsRow w1.heap.size 59 2 (.slice none 0 0) ([] : List Lab).length (([] : List Lab).flatMap labCells) from ⟨rfl, .inl ⟨rfl, rfl⟩⟩)
  go_wp2_with fail
  go_loopw [7, 8, 9] (fun vr vl i wr => ∃ (t : Nat) (st : RS) (rv : List RowX), t ≤ L.length ∧ i = .int .i64 t ∧ rv.map (·.1) = st.rows ∧ wr.ownsRow w1.heap.size 61 4 vr rv.length (rv.flatMap rowCells) ∧ RowsOk wr w1.heap.size rv ∧ wr.ownsRow w1.heap.size 59 2 vl st.labels.length (st.labels.flatMap labCells) ∧ RIn st t 50001 ∧ Below w1.heap.size w1 wr ∧ runR (L.drop t) t st = rr) (fun _ _ i _ => L.length - (intOf i).toNat)
  case atStart => exact ⟨0, ⟨[], []⟩, [], Nat.zero_le _, rfl, rfl, R0.out, fun r hr => (List.not_mem_nil hr).elim, L0.out, RIn.start _, Below.refl _ _, RR.out⟩
  case round =>
    clear R0 L0 RR
    obtain ⟨t, st, rv, ht, rfl, hrv, hR, hOk, hLa, hIn, hB, hrun⟩ := hrel
    obtain ⟨AR, cR, rfl⟩ := slice_form hR
    obtain ⟨AB, cB, rfl⟩ := slice_form hLa
    have HR := Lib.hid hR
    have HK := Lib.hid hOk
    have HA := Lib.hid hLa
    have HI := Lib.hid hIn
    have HB := Lib.hid hB
    have HV := Lib.hid hrv
    have HU := Lib.hid hrun
    have BW := Lib.hid (B1.out.trans (hB.mono hz1))
    have hzr : w1.heap.size ≤ wr.heap.size := hB.size
    have hrl : rv.length = st.rows.length := by rw [← hrv, List.length_map]
    have hrt : rv.length ≤ t := by rw [hrl]; exact hIn.rows
    have hlt' : st.labels.length ≤ t := hIn.labels
    have HRL := Lib.hid hrl
    clear hR hOk hLa hIn hB hrv hrun hrl
    by_cases hlt : t < L.length
    · have hI : (t : Int) < L.length := by omega
      obtain ⟨bz, oz, rfl, _, hc⟩ := (HL.out.below HB.out).2 (by omega)
      have u0 := hc t hlt
      have hlz : (L.getD t ⟨#[]⟩).size ≤ 50000 := by
        rw [List.getD_eq_getElem?_getD, List.getElem?_eq_getElem hlt]
        exact LZ.out _ (List.getElem_mem hlt)
      have hstep : (if (stepR (t + 1) (L.getD t ⟨#[]⟩) st).1 = 0 then runR (L.drop (t + 1)) (t + 1) (stepR (t + 1) (L.getD t ⟨#[]⟩) st).2 else ((stepR (t + 1) (L.getD t ⟨#[]⟩) st).1, t + 1, st)) = rr := by
        rw [← runR_cons]
        have e : L.getD t ⟨#[]⟩ = L[t] := by rw [List.getD_eq_getElem?_getD, List.getElem?_eq_getElem hlt]; rfl
        rw [e, ← List.drop_eq_getElem_cons hlt]
        exact HU.out
      have HS := Lib.hid hstep
      clear hc hstep HU
      generalize L.getD t ⟨#[]⟩ = l at *
      have SE := Lib.hid (@stepR_empty (t + 1) l st)
      have SM := Lib.hid (@stepR_rem (t + 1) l st)
      have SL := Lib.hid (@stepR_lab (t + 1) l st)
      have SB := Lib.hid (@stepR_bad (t + 1) l st)
      have SX := Lib.hid (fun x => @stepR_row (t + 1) l st x)
      generalize stepR (t + 1) l st = sr at *
      by_cases hl0 : l.size = 0
      · have dl : ((l.size : Int) == 0) = true := beq_iff_eq.2 (by omega)
        have hsr : sr = (0, st) := SE.out hl0
        have HS2 := Lib.hid (show runR (L.drop (t + 1)) (t + 1) st = rr by have := HS.out; rw [hsr] at this; exact this)
        clear SE SM SL SB SX HS hsr hl0
        go_wp2_with fail
        go_roundw
        case rel => exact ⟨t + 1, st, rv, by omega, by go_num, HV.out, HR.out, HK.out, HA.out, HI.out.up, HB.out, HS2.out⟩
        case measure => simp [intOf]; omega
      · have dl : ((l.size : Int) == 0) = false := beq_eq_false_iff_ne.2 (by omega)
        have hl00 : 0 < l.size := by omega
        have hlI : (0 : Int) < l.size := by omega
        have E0 := Lib.hid (get_bang (s := l) (k := 0) hl00)
        clear SE
        cases h59 : ((l[0].toNat : Int) == 59) with
        | true =>
          have hc : l.get! 0 = 59 := by
            rw [E0.out]
            have : l[0].toNat = 59 := by
              have := beq_iff_eq.1 h59
              omega
            exact UInt8.toNat_inj.1 this
          have hsr : sr = (0, st) := SM.out hl0 hc
          have HS2 := Lib.hid (show runR (L.drop (t + 1)) (t + 1) st = rr by have := HS.out; rw [hsr] at this; exact this)
          clear SM SL SB SX HS hsr hc E0
          go_wp2_with fail
          go_roundw
          case rel => exact ⟨t + 1, st, rv, by omega, by go_num, HV.out, HR.out, HK.out, HA.out, HI.out.up, HB.out, HS2.out⟩
          case measure => simp [intOf]; omega
        | false =>
          have hc : l.get! 0 ≠ 59 := by
            rw [E0.out]
            intro e
            rw [e] at h59
            simp at h59
          have HC59 := Lib.hid hc
          clear hc E0 SM
          obtain ⟨m, hm⟩ : ∃ m, l.size = m + 1 := ⟨l.size - 1, by omega⟩
          have hml : m < l.size := by omega
          have EM := Lib.hid (get_bang (s := l) (k := m) hml)
          rw [show l.size - 1 = m by omega] at SL SB SX
          have hmI : (l.size : Int) - 1 = m := by omega
          have hmI2 : (m : Int) < l.size := by omega
          cases h58 : ((l[m].toNat : Int) == 58) with
          | true =>
            have hc : l.get! m = 58 := by
              rw [EM.out]
              have : l[m].toNat = 58 := by
                have := beq_iff_eq.1 h58
                omega
              exact UInt8.toNat_inj.1 this
            have SR4 := Lib.hid (SL.out hl0 HC59.out hc)
            have hnz : (l.extract 0 m).size ≤ 1000000 := by rw [ByteArray.size_extract]; omega
            have NM := Lib.hid (fun w => refname05_any (l.extract 0 m) w hnz)
            have hsl : ∀ W, (Instr.slice 9 (.string l) none (some (.int .i64 m)) none).run Tryd.prog W = .ok (.string (l.extract 0 m)) W := fun W => (run_slice_string_h W _ _ Tryd.underlying9 .i64 m (by omega) (by omega)).trans (by rw [Int.toNat_natCast])
            clear SL SB SX hc EM
            generalize l.extract 0 m = nm at *
            cases hnm : nameB nm with
            | false =>
              have hsr : sr = (22, st) := SR4.out.trans (if_neg (by rw [hnm]; decide))
              rw [hnm] at NM
              have hrr : rr = (22, t + 1, st) := by have := HS.out; rw [hsr] at this; exact this.symm
              have HF := Lib.hid (show rf = (22, t + 1, [], []) by have := RF2.out; rw [hrr] at this; exact this)
              clear SR4 HS hsr hnm hrr RF2
              go_wp2_with fail
              refine (NM.out _).mono ?_
              rintro e w2 ⟨rfl, rfl⟩
              go_wp2_with fail
              refine bodyPost_ret (v := .tuple #[.slice none 0 0, .slice none 0 0, .int .i64 ((t : Int) + 1), .int .i64 22]) ?_ rfl ⟨.slice none 0 0, .slice none 0 0, by rw [HF.out]; rfl, BW.out, by rw [HF.out]; exact Owns.nil _ _ _ _, by rw [HF.out]; exact ⟨rfl, .inl ⟨rfl, rfl⟩⟩⟩
              simp [results, Tryd.results10, go_sem]
            | true =>
              have SR5 := Lib.hid (SR4.out.trans (if_pos hnm))
              rw [hnm] at NM
              have hns := name_small5 hnm
              have FD := Lib.hid (find05_any AB cB w1.heap.size st.labels nm wr HA.out (by omega) (fun x hx => Nat.le_trans (HI.out.names x hx).1 (by decide)) hnz)
              have HIL := Lib.hid (HI.out.label hnm)
              clear SR4 hnm
              by_cases hfd : 0 ≤ findL st.labels nm
              · have df : decide (0 ≤ findL st.labels nm) = true := decide_eq_true hfd
                have hsr : sr = (51, st) := SR5.out.trans (if_pos hfd)
                have hrr : rr = (51, t + 1, st) := by have := HS.out; rw [hsr] at this; exact this.symm
                have HF := Lib.hid (show rf = (51, t + 1, [], []) by have := RF2.out; rw [hrr] at this; exact this)
                clear SR5 HS hsr hrr RF2 hfd
                generalize findL st.labels nm = fl at *
                go_wp2_with fail
                refine (NM.out _).mono ?_
                rintro e w2 ⟨rfl, rfl⟩
                go_wp2_with fail
                refine FD.out.mono ?_
                rintro e w2 ⟨rfl, rfl⟩
                go_wp2_with fail
                refine bodyPost_ret (v := .tuple #[.slice none 0 0, .slice none 0 0, .int .i64 ((t : Int) + 1), .int .i64 51]) ?_ rfl ⟨.slice none 0 0, .slice none 0 0, by rw [HF.out]; rfl, BW.out, by rw [HF.out]; exact Owns.nil _ _ _ _, by rw [HF.out]; exact ⟨rfl, .inl ⟨rfl, rfl⟩⟩⟩
                simp [results, Tryd.results10, go_sem]
              · have df : decide (0 ≤ findL st.labels nm) = false := decide_eq_false hfd
                have hsr : sr = (0, ⟨st.rows, st.labels ++ [(nm, st.rows.length)]⟩) := SR5.out.trans (if_neg hfd)
                have HS2 := Lib.hid (show runR (L.drop (t + 1)) (t + 1) ⟨st.rows, st.labels ++ [(nm, st.rows.length)]⟩ = rr by have := HS.out; rw [hsr] at this; exact this)
                have LA := Lib.hid (World.ownsRow.alloc HA.out (.cells #[.string nm, .int .i64 rv.length] 59))
                have RA := Lib.hid (World.ownsRow.alloc HR.out (.cells #[.string nm, .int .i64 rv.length] 59))
                have bA := (Below.refl wr.heap.size wr).alloc (Nat.le_refl _) (.cells #[.string nm, .int .i64 rv.length] 59)
                have KA := Lib.hid (HK.out.below bA)
                have BA := Lib.hid (HB.out.alloc hzr (.cells #[.string nm, .int .i64 rv.length] 59))
                have NC := Lib.hid (show ∀ (j : Nat) u, ([.string nm, .int .i64 rv.length] : List Value)[j]? = some u → (wr.alloc (.cells #[.string nm, .int .i64 rv.length] 59)).cell? ((⟨wr.heap.size, 0, none⟩ : Addr).add j) = some u from fun j u hj => by
                  rw [Go.WideShapes.add_plain, Nat.zero_add]
                  exact ((Whole.made wr 59 #[.string nm, .int .i64 rv.length] _ rfl).cell j).trans (by simpa using hj))
                clear SR5 HS hsr hfd bA HR HA HK HB BW
                generalize findL st.labels nm = fl at *
                go_wp2_with fail
                refine (NM.out _).mono ?_
                rintro e w2 ⟨rfl, rfl⟩
                go_wp2_with fail
                refine FD.out.mono ?_
                rintro e w2 ⟨rfl, rfl⟩
                go_wp2_with (at_builtin; refine wpList_append_rows _ rfl _ _ 30 rfl w1.heap.size 59 il _ 2 24 Tryd.underlying30 hil hq0 hq1 hq2 rfl (by decide) (.slice AB st.labels.length cB) st.labels.length _ rfl LA.out ⟨wr.heap.size, 0, none⟩ 1 1 [.string nm, .int .i64 rv.length] rfl rfl NC.out (fun u hu => by simp at hu; rcases hu with rfl | rfl <;> rfl) (by unfold maxLen; omega) (by omega) (by simp; omega) ?_; intro v2 w3 ho2 hg2; have R2 := Lib.hid (World.ownsRow.kept RA.out hg2 (rows_apart RA.out LA.out row_lab)); have K2 := Lib.hid (KA.out.grown LA.out str_rlab hg2); have B2 := Lib.hid (BA.out.grown hg2 (by simp; omega) (fun b hb => (World.ownsRow.lt LA.out b hb).1)); have L2 := Lib.hid ho2; clear ho2 hg2)
                go_roundw
                case rel => exact ⟨t + 1, ⟨st.rows, st.labels ++ [(nm, st.rows.length)]⟩, rv, by omega, by go_num, HV.out, R2.out, K2.out, by (have := L2.out; rw [HRL.out] at this; rw [List.length_append, List.flatMap_append]; exact this), HIL.out, B2.out, HS2.out⟩
                case measure => simp [intOf]; omega
          | false =>
            have hc : l.get! m ≠ 58 := by
              rw [EM.out]
              intro e
              rw [e] at h58
              simp at h58
            have PX := Lib.hid (parse05_any (t + 1) l wr (by omega) (by omega))
            rw [show ((t + 1 : Nat) : Int) = (t : Int) + 1 from rfl] at PX
            unfold ParsePost at PX
            cases hp : parseP (t + 1) l with
            | none =>
              have hsr : sr = (22, st) := SB.out hl0 HC59.out hc hp
              have hrr : rr = (22, t + 1, st) := by have := HS.out; rw [hsr] at this; exact this.symm
              have HF := Lib.hid (show rf = (22, t + 1, [], []) by have := RF2.out; rw [hrr] at this; exact this)
              rw [hp] at PX
              have PX2 := Lib.hid (show Calls Tryd.prog 24 #[.int .i64 ((t : Int) + 1), .string l] wr fun e w' => ∃ (l o wd : Int) (A : Option Addr) (m c : Nat), e = .returned (.tuple #[rowV l o wd (.slice A m c), .bool false]) ∧ Below wr.heap.size wr w' from PX.out.mono (by
                rintro e w' ⟨a1, a2, a3, a4, a5, a6, he, _, hb⟩
                exact ⟨a1, a2, a3, a4, a5, a6, he, hb⟩))
              clear PX SL SB SX HS hsr hrr RF2 hp hc EM
              go_wp2_with fail
              refine PX2.out.mono ?_
              rintro e w2 ⟨a1, a2, a3, a4, a5, a6, rfl, hb2⟩
              have B2 := Lib.hid ((BW.out.trans (hb2.mono BW.out.size)).alloc (Nat.le_trans BW.out.size hb2.size) (.cells #[.int .i64 a1, .int .i64 a2, .int .u32 a3, .slice a4 a5 a6] 61))
              clear hb2
              go_wp2_with fail
              refine bodyPost_ret (v := .tuple #[.slice none 0 0, .slice none 0 0, .int .i64 ((t : Int) + 1), .int .i64 22]) ?_ rfl ⟨.slice none 0 0, .slice none 0 0, by rw [HF.out]; rfl, B2.out, by rw [HF.out]; exact Owns.nil _ _ _ _, by rw [HF.out]; exact ⟨rfl, .inl ⟨rfl, rfl⟩⟩⟩
              simp [results, Tryd.results10, go_sem]
            | some x =>
              have hsr : sr = (0, ⟨st.rows ++ [x], st.labels⟩) := SX.out x hl0 HC59.out hc hp (by have := HRL.out; omega)
              have HS2 := Lib.hid (show runR (L.drop (t + 1)) (t + 1) ⟨st.rows ++ [x], st.labels⟩ = rr by have := HS.out; rw [hsr] at this; exact this)
              have HIL := Lib.hid (HI.out.row hp (by omega))
              have d16 : decide ((16384 : Int) ≤ rv.length) = false := decide_eq_false (by omega)
              rw [hp] at PX
              have PX2 := Lib.hid (show Calls Tryd.prog 24 #[.int .i64 ((t : Int) + 1), .string l] wr fun e w' => ∃ (A : Option Addr) (c : Nat), e = .returned (.tuple #[rowV x.line x.op x.word (.slice A x.fields.length c), .bool true]) ∧ OwnsS 9 w' wr.heap.size (.slice A x.fields.length c) x.fields.length x.fields ∧ Below wr.heap.size wr w' from PX.out.mono (by
                rintro e w' ⟨a1, a2, a3, a4, a5, a6, he, hx, hb⟩
                obtain ⟨rfl, rfl, rfl, rfl, ho⟩ := hx x rfl
                exact ⟨a4, a6, he, ho, hb⟩))
              clear PX SL SB SX HS hsr hp hc EM
              go_wp2_with fail
              refine PX2.out.mono ?_
              rintro e w2 ⟨A3, c3, rfl, hF, hb2⟩
              have bX := (hb2.alloc hb2.size (.cells #[.int .i64 x.line, .int .i64 x.op, .int .u32 x.word, .slice A3 x.fields.length c3] 61)).alloc (Nat.le_trans hb2.size (by simp)) (.cells #[.int .i64 x.line, .int .i64 x.op, .int .u32 x.word, .slice A3 x.fields.length c3] 61)
              have Q2 := Lib.hid (Whole.made w2 61 #[.int .i64 x.line, .int .i64 x.op, .int .u32 x.word, .slice A3 x.fields.length c3] _ rfl)
              have q0 : (w2.alloc (.cells #[.int .i64 x.line, .int .i64 x.op, .int .u32 x.word, .slice A3 x.fields.length c3] 61)).cell? ⟨w2.heap.size, 0, none⟩ = some (.int .i64 x.line) := Q2.out.cell 0
              have q1 : (w2.alloc (.cells #[.int .i64 x.line, .int .i64 x.op, .int .u32 x.word, .slice A3 x.fields.length c3] 61)).cell? ⟨w2.heap.size, 1, none⟩ = some (.int .i64 x.op) := Q2.out.cell 1
              have q2 : (w2.alloc (.cells #[.int .i64 x.line, .int .i64 x.op, .int .u32 x.word, .slice A3 x.fields.length c3] 61)).cell? ⟨w2.heap.size, 2, none⟩ = some (.int .u32 x.word) := Q2.out.cell 2
              have q3 : (w2.alloc (.cells #[.int .i64 x.line, .int .i64 x.op, .int .u32 x.word, .slice A3 x.fields.length c3] 61)).cell? ⟨w2.heap.size, 3, none⟩ = some (.slice A3 x.fields.length c3) := Q2.out.cell 3
              have LA := Lib.hid (ownsRow_below5 HA.out bX)
              have RA := Lib.hid (ownsRow_below5 HR.out bX)
              have KA := Lib.hid (HK.out.below bX)
              have BA := Lib.hid (HB.out.trans (bX.mono hzr))
              have FA := Lib.hid (((hF.more hzr).alloc (.cells #[.int .i64 x.line, .int .i64 x.op, .int .u32 x.word, .slice A3 x.fields.length c3] 61)).alloc (.cells #[.int .i64 x.line, .int .i64 x.op, .int .u32 x.word, .slice A3 x.fields.length c3] 61))
              have zA := bX.size
              have hz2 : wr.heap.size ≤ w2.heap.size := hb2.size
              have NC := Lib.hid (show ∀ (j : Nat) u, ([.int .i64 x.line, .int .i64 x.op, .int .u32 x.word, .slice A3 x.fields.length c3] : List Value)[j]? = some u → ((w2.alloc (.cells #[.int .i64 x.line, .int .i64 x.op, .int .u32 x.word, .slice A3 x.fields.length c3] 61)).alloc (.cells #[.int .i64 x.line, .int .i64 x.op, .int .u32 x.word, .slice A3 x.fields.length c3] 61)).cell? ((⟨w2.heap.size + 1, 0, none⟩ : Addr).add j) = some u from fun j u hj => by
                rw [Go.WideShapes.add_plain, Nat.zero_add]
                exact ((Whole.made (w2.alloc (.cells #[.int .i64 x.line, .int .i64 x.op, .int .u32 x.word, .slice A3 x.fields.length c3] 61)) 61 #[.int .i64 x.line, .int .i64 x.op, .int .u32 x.word, .slice A3 x.fields.length c3] (w2.heap.size + 1) (by simp)).cell j).trans (by simpa using hj))
              clear hF hb2 bX HR HA HK HB BW Q2 u0
              go_wp2_with (at_builtin; refine wpList_append_rows _ rfl _ _ 57 rfl w1.heap.size 61 ir _ 4 48 Tryd.underlying57 hir hr0 hr1 hr2 rfl (by decide) (.slice AR rv.length cR) rv.length _ rfl RA.out ⟨w2.heap.size + 1, 0, none⟩ 1 1 [.int .i64 x.line, .int .i64 x.op, .int .u32 x.word, .slice A3 x.fields.length c3] rfl rfl NC.out (fun u hu => by simp at hu; rcases hu with rfl | rfl | rfl | rfl <;> rfl) (by unfold maxLen; omega) (by omega) (by omega) ?_; intro v2 w3 ho2 hg2; have L2 := Lib.hid (World.ownsRow.kept LA.out hg2 (rows_apart LA.out RA.out row_lab.symm)); have K2 := Lib.hid (KA.out.grown RA.out str_row hg2); have F2 := Lib.hid (FA.out.kept hg2 (rows_apart FA.out RA.out str_row)); have B2 := Lib.hid (BA.out.grown hg2 (by omega) (fun b hb => (World.ownsRow.lt RA.out b hb).1)); have R2 := Lib.hid ho2; clear ho2 hg2)
              go_roundw
              case rel => exact ⟨t + 1, ⟨st.rows ++ [x], st.labels⟩, rv ++ [(x, .slice A3 x.fields.length c3)], by omega, by go_num, by (rw [List.map_append, HV.out]; rfl), by (have := R2.out; rw [List.length_append, List.flatMap_append]; exact this), (fun r hr => by rcases List.mem_append.1 hr with hr | hr; exact K2.out r hr; rw [List.mem_singleton] at hr; subst hr; exact F2.out), L2.out, HIL.out, B2.out, HS2.out⟩
              case measure => simp [intOf]; omega
    · have hI : ¬ (t : Int) < L.length := by omega
      obtain rfl : t = L.length := by omega
      have hrr : rr = (0, L.length, st) := by rw [← HU.out, List.drop_length]; rfl
      have hrf := RF2.out
      rw [hrr] at hrf
      have hrf2 : rf = if (placesR st.labels st.rows 0).1 = 0 then (0, 0, (placesR st.labels st.rows 0).2.2, st.labels) else ((placesR st.labels st.rows 0).1, (placesR st.labels st.rows 0).2.1, [], []) := hrf
      have PS := Lib.hid (placesR_start st.labels ((rv.drop 0).map (·.1)) 0)
      have hP0 : placesR st.labels ((rv.drop 0).map (·.1)) 0 = placesR st.labels st.rows 0 := by rw [List.drop_zero, HV.out]
      have PS2 := Lib.hid (hP0.symm.trans PS.out)
      have HRF := Lib.hid hrf2
      clear hrr hrf hrf2 RF2 HU PS hP0
      generalize placesR st.labels st.rows 0 = PR at *
      have O0 := Lib.hid (Owns.nil .u32 45 wr w1.heap.size)
      have HLB := Lib.hid (show ∀ x ∈ st.labels, x.1.size ≤ 1000000 ∧ x.2 ≤ 1000000 from fun x hx => ⟨Nat.le_trans (HI.out.names x hx).1 (by decide), Nat.le_trans (HI.out.names x hx).2 (by omega)⟩)
      have HZF := Lib.hid (show ∀ r ∈ rv, r.1.fields.length ≤ 1000000 ∧ ∀ z ∈ r.1.fields, z.size ≤ 1000000 from fun r hr => by
        have hm : r.1 ∈ st.rows := by rw [← HV.out]; exact List.mem_map.2 ⟨r, hr, rfl⟩
        obtain ⟨h1, h2⟩ := HI.out.fields _ hm
        exact ⟨by omega, fun z hz => by have := h2 z hz; omega⟩)
      clear HL HI BW
      go_wp2_with fail
      go_loopw [14, 15] (fun vo i w2 => ∃ (k : Nat) (done : List Int), k ≤ rv.length ∧ i = .int .i64 k ∧ PR = (if (placesR st.labels ((rv.drop k).map (·.1)) k).1 = 0 then (0, 0, done ++ (placesR st.labels ((rv.drop k).map (·.1)) k).2.2) else placesR st.labels ((rv.drop k).map (·.1)) k) ∧ Owns .u32 45 w2 w1.heap.size vo k done ∧ w2.ownsRow w1.heap.size 61 4 (.slice AR rv.length cR) rv.length (rv.flatMap rowCells) ∧ RowsOk w2 w1.heap.size rv ∧ w2.ownsRow w1.heap.size 59 2 (.slice AB st.labels.length cB) st.labels.length (st.labels.flatMap labCells) ∧ Below w1.heap.size w1 w2) (fun _ i _ => rv.length - (intOf i).toNat)
      case atStart => exact ⟨0, [], Nat.zero_le _, rfl, PS2.out, O0.out, HR.out, HK.out, HA.out, HB.out⟩
      case round =>
        clear PS2 O0 HR HK HA HB
        obtain ⟨k, done, hk, rfl, hPR, hO, hR, hK, hA, hB⟩ := hrel
        obtain ⟨Ao, co, rfl, _⟩ := hO.form
        have HO := Lib.hid hO
        have HR := Lib.hid hR
        have HK := Lib.hid hK
        have HA := Lib.hid hA
        have HB := Lib.hid hB
        have HPR := Lib.hid hPR
        have BW := Lib.hid (B1.out.trans (hB.mono hz1))
        have hdl := hO.len
        have hz2 := hB.size
        clear hO hK hA hB hPR
        by_cases hlt2 : k < rv.length
        · have hI2 : (k : Int) < rv.length := by omega
          obtain ⟨hcc, gr, rfl, _, hgl, hgc⟩ := own_cell (f := rowCells) (fun _ => rfl) noRow hR rfl hlt2
          have hgd : rv.getD k noRow = rv[k] := by rw [List.getD_eq_getElem?_getD, List.getElem?_eq_getElem hlt2]; rfl
          have hdr : (rv.drop k).map (·.1) = rv[k].1 :: (rv.drop (k + 1)).map (·.1) := by rw [List.drop_eq_getElem_cons hlt2, List.map_cons]
          have PC := Lib.hid (place05_any _ cR w1.heap.size rv AB cB w1.heap.size st.labels k wr HR.out HK.out HA.out hlt2 (by omega) (by omega) HLB.out HZF.out)
          rw [hgd] at hgc PC
          have x0 : wr.cell? ⟨gr, k * 4, none⟩ = some (.int .i64 rv[k].1.line) := hgc 0 (by decide)
          have hPR2 := HPR.out
          rw [hdr] at hPR2
          have PST := Lib.hid (fun h => placesR_step hPR2 h)
          have PER := Lib.hid (fun h => placesR_err hPR2 h)
          have hIcc : rv.length ≤ cR := hcc
          clear hR hgc hgd hdr hPR2 HPR
          generalize placeP rv[k].1 st.labels k = pp at *
          generalize rv[k].1.line = ln at *
          obtain ⟨pw, pe⟩ := pp
          by_cases hpe : pe = 0
          · subst hpe
            have PN := Lib.hid (PST.out rfl)
            clear PST PER x0
            go_wp2_with fail
            refine PC.out.mono ?_
            rintro e w3 ⟨rfl, hb3⟩
            have bX := hb3.alloc hb3.size (.cells #[.int .u32 pw] 45)
            have O3 := Lib.hid ((HO.out.below hb3).alloc (.cells #[.int .u32 pw] 45))
            have R3 := Lib.hid (ownsRow_below5 HR.out bX)
            have K3 := Lib.hid (HK.out.below bX)
            have L3 := Lib.hid (ownsRow_below5 HA.out bX)
            have B3 := Lib.hid (HB.out.trans (bX.mono hz2))
            have NZ := Lib.hid (owns_built .u32 45 w3 [pw] #[.int .u32 pw] rfl 1 rfl (by decide) w3.heap.size (Nat.le_refl _) w3.heap.size rfl).nums
            have hz3 : w1.heap.size ≤ (w3.alloc (.cells #[.int .u32 pw] 45)).heap.size := Nat.le_trans hz2 bX.size
            clear hb3 bX HO HR HK HA HB PC
            go_wp2_with (at_builtin; refine wpList_append_nums _ rfl _ _ rfl rowU32W w1.heap.size (.slice Ao k co) k done rfl O3.out (some ⟨w3.heap.size, 0, none⟩) 1 1 [pw] rfl NZ.out (by omega) hz3 ?_; intro v2 w4 ho2 hg2 _; have R2 := Lib.hid (World.ownsRow.kept R3.out hg2 (rows_apart R3.out O3.out u32_row.symm)); have K2 := Lib.hid (RowsOk.grown K3.out O3.out u32_str.symm hg2); have L2 := Lib.hid (World.ownsRow.kept L3.out hg2 (rows_apart L3.out O3.out u32_rlab.symm)); have B2 := Lib.hid (O3.out.grown_below B3.out hg2 hz3); have O2 := Lib.hid ho2; clear ho2 hg2)
            go_roundw
            case rel => exact ⟨k + 1, done ++ [pw], by omega, by go_num, PN.out, O2.out, R2.out, K2.out, L2.out, B2.out⟩
            case measure => simp [intOf]; omega
          · have dpe : (pe != 0) = true := by simpa using hpe
            have PN := Lib.hid (PER.out hpe)
            have HF := Lib.hid (show rf = (pe, ln, [], []) by have := HRF.out; rw [PN.out] at this; exact this.trans (if_neg hpe))
            clear PST PER hpe
            go_wp2_with fail
            refine PC.out.mono ?_
            rintro e w3 ⟨rfl, hb3⟩
            have y0 : w3.cell? ⟨gr, k * 4, none⟩ = some (.int .i64 ln) := (hb3.cell (p := ⟨gr, k * 4, none⟩) hgl).trans x0
            have B3 := Lib.hid (BW.out.trans (hb3.mono BW.out.size))
            clear hb3 x0 PC
            go_wp2_with fail
            go_quiet (fail)
            go_wp2_with fail
            refine bodyPost_ret (v := .tuple #[.slice none 0 0, .slice none 0 0, .int .i64 ln, .int .i64 pe]) ?_ rfl ⟨.slice none 0 0, .slice none 0 0, by rw [HF.out], below_drawn B3.out _, by rw [HF.out]; exact Owns.nil _ _ _ _, by rw [HF.out]; exact ⟨rfl, .inl ⟨rfl, rfl⟩⟩⟩
            simp [results, Tryd.results10, go_sem]
        · have hI2 : ¬ (k : Int) < rv.length := by omega
          obtain rfl : k = rv.length := by omega
          have hPR2 := HPR.out
          rw [List.drop_length] at hPR2
          have hP3 : PR = (0, 0, done) := hPR2.trans (by show (0, 0, done ++ []) = _; rw [List.append_nil])
          have HF := Lib.hid (show rf = (0, 0, done, st.labels) by have := HRF.out; rw [hP3] at this; exact this)
          clear hPR2 hP3 HPR HRF
          go_wp2_with fail
          refine bodyPost_ret (v := .tuple #[.slice Ao rv.length co, .slice AB st.labels.length cB, .int .i64 0, .int .i64 0]) ?_ rfl ⟨.slice Ao rv.length co, .slice AB st.labels.length cB, by rw [HF.out]; rfl, BW.out, by (rw [HF.out]; show Owns _ _ _ _ _ done.length done; rw [hdl]; exact HO.out.more hz1), by (rw [HF.out]; exact own_more HA.out hz1)⟩
          simp [results, Tryd.results10, go_sem]
end Go.Proofs.YtnmpamfgkidmiaaDoor

/- Asm, plain: a line is read as the answers read it. -/
namespace Go.Proofs.YtnmpamfgkidmiaaDoor
open Go.ChangeShapes Go.WideShapes Go.ChangeAt Go.RowKit
set_option linter.unusedVariables false
set_option linter.unusedSimpArgs false

theorem splitK_ne (sep : List UInt8) (k : Nat) (s : List UInt8) : ∃ q qs, Lib.splitK sep 0 k s = q :: qs := by
  cases k with
  | zero => exact ⟨s, [], rfl⟩
  | succ k =>
    unfold Lib.splitK
    split
    · exact ⟨s, [], rfl⟩
    · exact ⟨_, _, rfl⟩

theorem joinL_split : ∀ (k : Nat) (s : List UInt8), joinL (Lib.splitK [44, 32] 0 k s) = s
  | 0, s => rfl
  | k + 1, s => by
    unfold Lib.splitK
    rcases Lib.index_spec s [44, 32] with ⟨h, _⟩ | ⟨i, h, hi, ho, _⟩
    · rw [h]
      rfl
    · rw [h, if_neg (by intro e; have := beq_iff_eq.1 e; omega), Int.toNat_natCast, Nat.add_zero]
      obtain ⟨q, qs, hq⟩ := splitK_ne [44, 32] k (s.drop (i + ([44, 32] : List UInt8).length))
      have ih := joinL_split k (s.drop (i + ([44, 32] : List UInt8).length))
      rw [hq] at ih ⊢
      show s.take i ++ 44 :: 32 :: joinL (q :: qs) = s
      rw [ih]
      unfold Lib.occAt at ho
      obtain ⟨t, ht⟩ := List.isPrefixOf_iff_prefix.1 ho
      have e2 : s.drop (i + ([44, 32] : List UInt8).length) = t := by
        rw [← List.drop_drop, ← ht]
        rfl
      rw [e2]
      conv => rhs; rw [← List.take_append_drop i s, ← ht]
      rfl

/-- Pieces put together with a byte c between them. -/
def joinC (c : UInt8) : List (List UInt8) → List UInt8
  | [] => []
  | [p] => p
  | p :: q :: ps => p ++ c :: joinC c (q :: ps)

theorem joinC_cut (c : UInt8) : ∀ l : List UInt8, joinC c (cutL c l) = l
  | [] => rfl
  | b :: l => by
    have ih := joinC_cut c l
    rw [cutL_cons]
    cases hc : cutL c l with
    | nil => exact absurd hc (cutL_ne c l)
    | cons x xs =>
      rw [hc] at ih
      by_cases h : b = c
      · subst h
        rw [if_pos rfl]
        show [] ++ b :: joinC b (x :: xs) = _
        rw [ih]
        rfl
      · rw [if_neg h]
        cases xs with
        | nil =>
          show b :: x = _
          have : x = l := ih
          rw [this]
        | cons y ys =>
          show b :: x ++ c :: joinC c (y :: ys) = _
          have : x ++ c :: joinC c (y :: ys) = l := ih
          rw [List.cons_append, this]

theorem clean_parts {f : ByteArray} (h : clean f = true) : f.data.toList ≠ [] ∧ ∀ b ∈ f.data.toList, b ≠ 32 := by
  unfold clean at h
  simp only [Bool.and_eq_true, decide_eq_true_eq] at h
  refine ⟨fun e => h.1 (by rw [Lib.size_eq, e]; rfl), fun b hb e => ?_⟩
  have h2 := h.2
  unfold cutS at h2
  rw [List.length_map, cutL_len] at h2
  subst e
  have := List.count_pos_iff.2 hb
  omega

theorem clean_of {f : ByteArray} (h0 : f.data.toList ≠ []) (h : ∀ b ∈ f.data.toList, b ≠ 32) : clean f = true := by
  unfold clean cutS
  rw [List.length_map, cutL_none h, decide_eq_true, decide_eq_true]
  · rfl
  · exact Nat.le_refl _
  · rw [Lib.size_eq]
    exact fun e => h0 (List.eq_nil_of_length_eq_zero e)

theorem cutS_data (c : UInt8) (s : ByteArray) : (cutS c s).map (·.data.toList) = cutL c s.data.toList := by
  unfold cutS
  rw [List.map_map]
  conv => rhs; rw [← List.map_id (cutL c s.data.toList)]
  congr 1

theorem lines_cut (text : ByteArray) : linesA text = cutS 10 text := by
  apply bytes_map
  rw [lines_data, cutS_data]

/-- The other fields' pieces begin with a blank. -/
theorem from_rest : ∀ (ps fs : List ByteArray), fieldsFrom false ps = some fs → (∀ p ∈ ps, ∀ b ∈ p.data.toList, b ≠ 44) → ps.map (·.data.toList) = fs.map (fun f => 32 :: f.data.toList) ∧ ∀ f ∈ fs, clean f = true ∧ ∀ b ∈ f.data.toList, b ≠ 44
  | [], fs, h, _ => by
    unfold fieldsFrom at h
    injection h with h
    subst h
    exact ⟨rfl, fun f hf => by cases hf⟩
  | p :: ps, fs, h, hp => by
    unfold fieldsFrom at h
    cases hf : fieldR false p with
    | none => rw [hf] at h; cases h
    | some f =>
      rw [hf] at h
      cases hr : fieldsFrom false ps with
      | none => rw [hr] at h; cases h
      | some fs' =>
        rw [hr] at h
        simp only [Option.map_some, Option.some.injEq] at h
        subst h
        obtain ⟨h1, h2⟩ := from_rest ps fs' hr (fun q hq => hp q (by simp [hq]))
        unfold fieldR at hf
        rw [if_neg (by decide)] at hf
        split at hf
        · cases hf
        · rename_i hz
          split at hf
          · cases hf
          · rename_i hc
            split at hf
            · rename_i hcl
              injection hf with hf
              subst hf
              have h0 : 0 < p.size := by omega
              have hpd : p.data.toList = 32 :: (p.extract 1 p.size).data.toList := by
                rw [Lib.extract_to_end]
                have hl : 0 < p.data.toList.length := by rw [← Lib.size_eq]; exact h0
                rw [get_bang h0] at hc
                have hc' : p[0] = 32 := Classical.byContradiction hc
                conv => lhs; rw [← List.drop_zero (l := p.data.toList), List.drop_eq_getElem_cons hl]
                rw [show p.data.toList[0] = 32 from hc']
              refine ⟨by rw [List.map_cons, List.map_cons, h1, ← hpd], fun g hg => ?_⟩
              rcases List.mem_cons.1 hg with rfl | hg
              · exact ⟨hcl, fun b hb => hp p (by simp) b (by rw [hpd]; exact List.mem_cons_of_mem _ hb)⟩
              · exact h2 g hg
            · cases hf

theorem joinC_rest (f : List UInt8) : ∀ fs : List (List UInt8), joinC 44 (f :: fs.map (fun g => 32 :: g)) = joinL (f :: fs)
  | [] => rfl
  | g :: fs => by
    have ih := joinC_rest g fs
    show f ++ 44 :: joinC 44 ((32 :: g) :: fs.map (fun g => 32 :: g)) = f ++ 44 :: 32 :: joinL (g :: fs)
    have e : joinC 44 ((32 :: g) :: fs.map (fun g => 32 :: g)) = 32 :: joinC 44 (g :: fs.map (fun g => 32 :: g)) := by
      cases fs <;> rfl
    rw [e, ih]

/-- Fields that split takes: the text is theirs, joined. -/
theorem from_join {rest : ByteArray} {fs : List ByteArray} (h : fieldsFrom true (cutS 44 rest) = some fs) : rest.data.toList = joinL (fs.map (·.data.toList)) ∧ fs ≠ [] ∧ ∀ f ∈ fs, clean f = true ∧ ∀ b ∈ f.data.toList, b ≠ 44 := by
  have hd := cutS_data 44 rest
  have hj := joinC_cut 44 rest.data.toList
  rw [← hd] at hj
  have hm : ∀ p ∈ cutS 44 rest, ∀ b ∈ p.data.toList, b ≠ 44 := fun p hp b hb => by
    have : p.data.toList ∈ cutL 44 rest.data.toList := by rw [← hd]; exact List.mem_map.2 ⟨p, hp, rfl⟩
    exact (cutL_mem this b hb).2
  generalize cutS 44 rest = ps at *
  cases ps with
  | nil =>
    exact absurd hd.symm (cutL_ne _ _)
  | cons p ps =>
    unfold fieldsFrom at h
    rw [fieldR_t] at h
    by_cases hcl : clean p = true
    · rw [if_pos hcl] at h
      cases hr : fieldsFrom false ps with
      | none => rw [hr] at h; cases h
      | some fs' =>
        rw [hr] at h
        simp only [Option.map_some, Option.some.injEq] at h
        subst h
        obtain ⟨h1, h2⟩ := from_rest ps fs' hr (fun q hq => hm q (by simp [hq]))
        refine ⟨?_, by simp, fun f hf => ?_⟩
        · rw [List.map_cons, h1] at hj
          have := joinC_rest p.data.toList (fs'.map (·.data.toList))
          rw [List.map_map] at this
          rw [List.map_cons, ← this]
          exact hj.symm
        · rcases List.mem_cons.1 hf with rfl | hf
          · exact ⟨hcl, hm _ (by simp)⟩
          · exact h2 f hf
    · rw [if_neg hcl] at h
      cases h

theorem cut_joinL : ∀ (f : List UInt8) (fs : List (List UInt8)), (∀ b ∈ f, b ≠ 44) → (∀ g ∈ fs, ∀ b ∈ g, b ≠ 44) → cutL 44 (joinL (f :: fs)) = f :: fs.map (fun g => 32 :: g)
  | f, [], h, _ => cutL_none h
  | f, g :: fs, h, hs => by
    show cutL 44 (f ++ 44 :: 32 :: joinL (g :: fs)) = _
    rw [cutL_app _ h, cutL_cons, if_neg (by decide), cut_joinL g fs (hs g (by simp)) (fun x hx => hs x (by simp [hx]))]
    rfl

theorem from_false : ∀ (fs : List ByteArray), (∀ f ∈ fs, clean f = true) → fieldsFrom false (fs.map fun f => (⟨(32 :: f.data.toList).toArray⟩ : ByteArray)) = some fs
  | [], _ => rfl
  | f :: fs, h => by
    rw [List.map_cons]
    unfold fieldsFrom
    have hf : fieldR false ⟨(32 :: f.data.toList).toArray⟩ = some f := by
      have hz : (⟨(32 :: f.data.toList).toArray⟩ : ByteArray).size = f.data.toList.length + 1 := by rw [Lib.size_eq]; simp
      have hx : (⟨(32 :: f.data.toList).toArray⟩ : ByteArray).extract 1 (⟨(32 :: f.data.toList).toArray⟩ : ByteArray).size = f := by
        apply dinj
        rw [Lib.extract_to_end]
        simp
      rw [fieldR_f (by omega) (by rw [get_bang (by omega)]; rfl), hx, if_pos (h f (by simp))]
    rw [hf, from_false fs (fun g hg => h g (by simp [hg]))]
    rfl

/-- Clean fields, joined, are split into just those. -/
theorem from_good_fields {rest : ByteArray} {fs : List ByteArray} (hr : rest.data.toList = joinL (fs.map (·.data.toList))) (h0 : fs ≠ []) (h : ∀ f ∈ fs, clean f = true ∧ ∀ b ∈ f.data.toList, b ≠ 44) : fieldsFrom true (cutS 44 rest) = some fs := by
  cases fs with
  | nil => exact absurd rfl h0
  | cons f fs =>
    have hc : cutS 44 rest = f :: fs.map fun g => (⟨(32 :: g.data.toList).toArray⟩ : ByteArray) := by
      apply bytes_map
      rw [cutS_data, hr, List.map_cons, cut_joinL _ _ (h f (by simp)).2 (fun g hg b hb => by
        obtain ⟨g', hg', rfl⟩ := List.mem_map.1 hg
        exact (h g' (by simp [hg'])).2 b hb)]
      simp
    rw [hc]
    unfold fieldsFrom
    rw [fieldR_t, if_pos (h f (by simp)).1, from_false fs (fun g hg => (h g (by simp [hg])).1)]
    rfl

theorem fieldsS_joined (s : ByteArray) : s.data.toList = joinL ((fieldsS s).map (·.data.toList)) := by
  rw [fieldsS_data, joinL_split]

theorem name_bytes {s : ByteArray} (h : nameB s = true) : s.data.toList ≠ [] ∧ ∀ b ∈ s.data.toList, b ≠ 32 ∧ b ≠ 44 := by
  unfold nameB at h
  simp only [Bool.and_eq_true, decide_eq_true_eq, List.all_eq_true, List.mem_range] at h
  refine ⟨fun e => ?_, fun b hb => ?_⟩
  · have := h.1.1.1
    rw [Lib.size_eq, e] at this
    simp at this
  · obtain ⟨k, hk, rfl⟩ := List.getElem_of_mem hb
    have hk2 : k < s.size := by rw [Lib.size_eq]; exact hk
    have h2 := h.2 k hk2
    rw [get_bang hk2] at h2
    have h3 : okI ((s.data.toList[k]).toNat : Int) = true := h2
    refine ⟨fun e => ?_, fun e => ?_⟩ <;> rw [e] at h3 <;> revert h3 <;> decide

theorem fc_clean {f : ByteArray} (h : Fc f) : clean f = true ∧ ∀ b ∈ f.data.toList, b ≠ 44 := by
  refine ⟨clean_of h.1 (fun b hb => ?_), fun b hb => ?_⟩ <;> rcases h.2 b hb with h | h | h <;> rintro rfl <;> simp at h

/-- Fields that an operation takes, a name among them perhaps, are clean. -/
theorem taken_clean {op : Int} {gs : List ByteArray} (h : fillOk op (substL op gs ⟨#[48]⟩) = true) : gs.length ≤ 3 ∧ ∀ g ∈ gs, clean g = true ∧ ∀ b ∈ g.data.toList, b ≠ 44 := by
  have hl : gs.length ≤ 3 := by
    have := (fill_parts h).2.1
    rw [substL_len] at this
    rw [this]
    exact fillCount_le op
  refine ⟨hl, fun g hg => ?_⟩
  obtain ⟨j, hj, rfl⟩ := List.getElem_of_mem hg
  have ha := substL_at (op := op) (last := ⟨#[48]⟩) hj
  have hd : gs.getD j ⟨#[]⟩ = gs[j] := by rw [List.getD_eq_getElem?_getD, List.getElem?_eq_getElem hj]; rfl
  by_cases hc : j + 1 = gs.length ∧ isNm op gs = true
  · have hn := (isNm_ends hc.2).2.2
    have : lastL gs = gs[j] := by
      unfold lastL
      rw [← hd]
      congr 1
      omega
    rw [this] at hn
    obtain ⟨n1, n2⟩ := name_bytes hn
    exact ⟨clean_of n1 (fun b hb => (n2 b hb).1), fun b hb => (n2 b hb).2⟩
  · rw [if_neg hc, hd] at ha
    have hm : gs[j] ∈ substL op gs ⟨#[48]⟩ := by
      rw [← ha, List.getD_eq_getElem?_getD, List.getElem?_eq_getElem (by rw [substL_len]; exact hj)]
      exact List.getElem_mem _
    exact fc_clean (fields_fc h _ hm)

/-- The fields of both, where an operation takes them. -/
theorem fields_both {op : Int} {rest : ByteArray} : (fillOk op (substL op (fieldsS rest) ⟨#[48]⟩) = true → fieldsFrom true (cutS 44 rest) = some (fieldsS rest)) ∧ (∀ fs, fieldsFrom true (cutS 44 rest) = some fs → fillOk op (substL op fs ⟨#[48]⟩) = true → fieldsS rest = fs) := by
  refine ⟨fun h => ?_, fun fs hf h => ?_⟩
  · obtain ⟨_, h2⟩ := taken_clean h
    refine from_good_fields (fieldsS_joined rest) (fun e => ?_) h2
    obtain ⟨q, qs, hq⟩ := splitK_ne [44, 32] (min 4 (rest.size + 1) - 1) rest.data.toList
    have := fieldsS_data rest
    rw [e, hq] at this
    cases this
  · obtain ⟨h1, h2, h3⟩ := from_join hf
    have := (taken_clean h).1
    exact fieldsS_join h1 h2 (by omega) (fun f hf b hb => (h3 f hf).2 b hb)

theorem hexAll_byte {s : ByteArray} (h : hexOk s = true) : s.data.toList ≠ [] ∧ ∀ b ∈ s.data.toList, b ≠ 32 ∧ b ≠ 44 := by
  unfold hexOk at h
  simp only [Bool.and_eq_true, decide_eq_true_eq] at h
  refine ⟨fun e => ?_, fun b hb => ?_⟩
  · have := h.1
    rw [Lib.size_eq, e] at this
    simp at this
  · have hm : ((b.toNat : Nat) : Int) ∈ bys s := List.mem_map.2 ⟨b, hb, rfl⟩
    have h2 := h.2
    unfold hexAll at h2
    have h3 := List.all_eq_true.1 h2 _ hm
    refine ⟨fun e => ?_, fun e => ?_⟩ <;> subst e <;> revert h3 <;> decide
end Go.Proofs.YtnmpamfgkidmiaaDoor

/- Asm, plain: a text comes to what the answers say. -/
namespace Go.Proofs.YtnmpamfgkidmiaaDoor
open Go.ChangeShapes Go.WideShapes Go.ChangeAt Go.RowKit
set_option linter.unusedVariables false
set_option linter.unusedSimpArgs false

/-- A row's word, 0 in the place of the name. -/
def w0 (r : Row5) : Int := if r.op = 0 then r.word else wordF r.op (substL r.op r.fields ⟨#[48]⟩)

/-- The row at word k, as an open instruction. -/
def opnOf (k : Nat) (r : Row5) : Opn := ⟨r.op, fa r.op (substL r.op r.fields ⟨#[48]⟩), fb r.op (substL r.op r.fields ⟨#[48]⟩), fc r.op (substL r.op r.fields ⟨#[48]⟩), fn r.op (substL r.op r.fields ⟨#[48]⟩), lastL r.fields, k, r.line⟩

/-- The open ones among the rows, from word k on. -/
def opensF : Nat → List Row5 → List Opn
  | _, [] => []
  | k, r :: rs => if isNm r.op r.fields = true then opnOf k r :: opensF (k + 1) rs else opensF (k + 1) rs

theorem opensF_snoc : ∀ (k : Nat) (rs : List Row5) (r : Row5), opensF k (rs ++ [r]) = opensF k rs ++ (if isNm r.op r.fields = true then [opnOf (k + rs.length) r] else [])
  | k, [], r => by
    show (if isNm r.op r.fields = true then [opnOf k r] else []) = _
    rfl
  | k, q :: rs, r => by
    have ih := opensF_snoc (k + 1) rs r
    rw [List.cons_append]
    show (if isNm q.op q.fields = true then opnOf k q :: opensF (k + 1) (rs ++ [r]) else opensF (k + 1) (rs ++ [r])) = (if isNm q.op q.fields = true then opnOf k q :: opensF (k + 1) rs else opensF (k + 1) rs) ++ _
    rw [ih, show k + 1 + rs.length = k + (q :: rs).length by simp; omega]
    split <;> rfl

/-- A row that parse gives. -/
def RowOk (r : Row5) : Prop := (r.op = 0 ∧ isNm r.op r.fields = false) ∨ (r.op ≠ 0 ∧ fillOk r.op (substL r.op r.fields ⟨#[48]⟩) = true)

/-- Both states, side by side. -/
structure Rel (st : AsmS) (rt : RS) : Prop where
  labels : st.labels = rt.labels
  words : st.words = rt.rows.map w0
  opens : st.opens = opensF 0 rt.rows
  rows : ∀ r ∈ rt.rows, RowOk r

theorem Rel.start : Rel ⟨[], [], []⟩ ⟨[], []⟩ := ⟨rfl, rfl, rfl, fun _ h => (List.not_mem_nil h).elim⟩

theorem Rel.len {st : AsmS} {rt : RS} (h : Rel st rt) : st.words.length = rt.rows.length := by rw [h.words, List.length_map]

theorem isNm_0 (fs : List ByteArray) : isNm 0 fs = false := by
  letI : LinesAt := ⟨0, #[]⟩
  exact isNm_takes fs (by decide)

theorem findL_has (l : List Lab) (s : ByteArray) : hasL l s = decide (0 ≤ findL l s) := by
  induction l with
  | nil => rfl
  | cons x l ih =>
    unfold hasL at ih ⊢
    unfold findL
    rw [List.any_cons]
    by_cases h : (x.1.toList == s.toList) = true
    · rw [if_pos h, h, Bool.true_or, decide_eq_true (by omega)]
    · rw [if_neg h, ← ih]
      have : (x.1.toList == s.toList) = false := by simpa using h
      rw [this, Bool.false_or]

/-- A row more. -/
theorem Rel.row [LinesAt] {st : AsmS} {rt : RS} (h : Rel st rt) {r : Row5} (hr : RowOk r) (hl : rt.rows.length < 16384) {x : Int} {os : List Opn} (hx : x = w0 r) (ho : os = st.opens ++ (if isNm r.op r.fields = true then [opnOf rt.rows.length r] else [])) : (addS x ⟨st.words, st.labels, os⟩).1 = 0 ∧ Rel (addS x ⟨st.words, st.labels, os⟩).2 ⟨rt.rows ++ [r], rt.labels⟩ := by
  have hlen := h.len
  unfold addS
  rw [if_neg (by show ¬ 16384 ≤ st.words.length; omega)]
  refine ⟨rfl, h.labels, ?_, ?_, fun q hq => ?_⟩
  · show st.words ++ [x] = _
    rw [hx, h.words, List.map_append]
    rfl
  · show os = _
    rw [ho, opensF_snoc, ← h.opens, Nat.zero_add]
  · rcases List.mem_append.1 hq with hq | hq
    · exact h.rows q hq
    · rw [List.mem_singleton] at hq
      subst hq
      exact hr

theorem suffix_last {l : ByteArray} (h0 : l.size ≠ 0) : Lib.hasSuffix l.data.toList [58] = decide (l.get! (l.size - 1) = 58) := by
  have hl : l.data.toList ≠ [] := fun e => h0 (by rw [Lib.size_eq, e]; rfl)
  have hs := Lib.size_eq l
  have hlt : l.size - 1 < l.size := by omega
  have hg : l.get! (l.size - 1) = l.data.toList.getLast hl := by
    rw [get_bang hlt, List.getLast_eq_getElem]
    show l.data.toList[l.size - 1] = _
    congr 1
  rw [hg]
  generalize hm : l.data.toList = m at *
  clear hg hs hm
  obtain ⟨a, b, rfl⟩ : ∃ a b, m = a ++ [b] := ⟨m.dropLast, m.getLast hl, (List.dropLast_concat_getLast hl).symm⟩
  rw [List.getLast_concat]
  unfold Lib.hasSuffix
  by_cases hb : b = 58
  · subst hb
    rw [decide_eq_true rfl, List.isSuffixOf_iff_suffix]
    exact ⟨a, rfl⟩
  · rw [decide_eq_false hb]
    cases hq : List.isSuffixOf [58] (a ++ [b]) with
    | false => rfl
    | true =>
      obtain ⟨t, ht⟩ := List.isSuffixOf_iff_suffix.1 hq
      have := List.append_inj_right' ht rfl
      simp at this
      exact absurd this.symm hb

theorem prefix_first {l : ByteArray} (h0 : l.size ≠ 0) : Lib.hasPrefix l.data.toList [59] = decide (l.get! 0 = 59) := by
  have hl : l.data.toList ≠ [] := fun e => h0 (by rw [Lib.size_eq, e]; rfl)
  have hg : l.get! 0 = l.data.toList.head hl := by
    rw [get_bang (by omega), List.head_eq_getElem]
    rfl
  rw [hg]
  generalize l.data.toList = m at *
  cases m with
  | nil => exact absurd rfl hl
  | cons b m =>
    show List.isPrefixOf [59] (b :: m) = decide (b = 59)
    by_cases hb : b = 59
    · subst hb
      simp [List.isPrefixOf]
    · rw [decide_eq_false hb]
      simp [List.isPrefixOf, Ne.symm hb]

theorem stem_last {l : ByteArray} (h0 : l.size ≠ 0) (h : l.get! (l.size - 1) = 58) : stemOf l = l.extract 0 (l.size - 1) := by
  have hs : Lib.hasSuffix l.data.toList [58] = true := by rw [suffix_last h0, decide_eq_true h]
  apply dinj
  unfold stemOf Lib.trimSuffix
  rw [if_pos hs, Lib.extract_from_zero, ← Lib.size_eq]
  rfl

/-- WORD is no operation. -/
theorem word_op : opOf ⟨#[87, 79, 82, 68]⟩ = 0 := by decide +kernel

theorem size_empty {l : ByteArray} : l.toList.isEmpty = decide (l.size = 0) := by
  rw [Lib.toList_data, Lib.size_eq]
  cases l.data.toList with
  | nil => rfl
  | cons a m => simp

/-- A line comes to the same on both sides. -/
theorem step_same [LinesAt] {l : ByteArray} {n : Nat} {st : AsmS} {rt : RS} (h : Rel st rt) (hl : rt.rows.length < 16384) : (readS l n st).1 = (stepR n l rt).1 ∧ ((readS l n st).1 = 0 → Rel (readS l n st).2 (stepR n l rt).2) := by
  have hlen := h.len
  by_cases h0 : l.size = 0
  · rw [stepR_empty h0]
    unfold readS
    rw [size_empty, decide_eq_true h0, if_pos rfl]
    exact ⟨rfl, fun _ => h⟩
  by_cases h1 : l.get! 0 = 59
  · rw [stepR_rem h0 h1]
    unfold readS
    rw [size_empty, decide_eq_false h0, if_neg (by decide), prefix_first h0, decide_eq_true h1, if_pos rfl]
    exact ⟨rfl, fun _ => h⟩
  by_cases h2 : l.get! (l.size - 1) = 58
  · rw [stepR_lab h0 h1 h2]
    unfold readS
    rw [size_empty, decide_eq_false h0, if_neg (by decide), prefix_first h0, decide_eq_false h1, if_neg (by decide), suffix_last h0, decide_eq_true h2, if_pos rfl, stem_last h0 h2]
    unfold markS
    generalize l.extract 0 (l.size - 1) = nm
    cases hn : nameB nm with
    | false =>
      rw [if_neg (by decide), if_neg (by decide)]
      exact ⟨rfl, fun h => by cases h⟩
    | true =>
      rw [if_pos rfl, if_pos rfl, findL_has, h.labels]
      by_cases hf : 0 ≤ findL rt.labels nm
      · rw [decide_eq_true hf, if_pos rfl, if_pos hf]
        exact ⟨rfl, fun h => by cases h⟩
      · rw [decide_eq_false hf, if_neg (by decide), if_neg hf]
        refine ⟨rfl, fun _ => ⟨?_, h.words, h.opens, h.rows⟩⟩
        show _ ++ [(nm, st.words.length)] = _ ++ [(nm, rt.rows.length)]
        rw [hlen]
  have hread : readS l n st = if ((lnF l).toList == [87, 79, 82, 68]) = true then rawS (lnR l) st else instS (opOf (lnF l)) (if lnB l = true then fieldsS (lnR l) else []) n st := by
    conv => lhs; unfold readS
    rw [size_empty, decide_eq_false h0, if_neg (by decide), prefix_first h0, decide_eq_false h1, if_neg (by decide), suffix_last h0, decide_eq_false h2, if_neg (by decide)]
  rw [hread]
  have hbad := @stepR_bad n l rt h0 h1 h2
  have hrow := fun x hp => @stepR_row n l rt x h0 h1 h2 hp (by omega)
  by_cases hW : ((lnF l).toList == [87, 79, 82, 68]) = true
  · rw [if_pos hW]
    have hWn : lnF l = ⟨#[87, 79, 82, 68]⟩ := dinj (by rw [← Lib.toList_data]; exact beq_iff_eq.1 hW)
    unfold rawS
    have key : parseP n l = if hexOk (lnR l) = true then some ⟨n, 0, hexVal (lnR l), [lnR l]⟩ else none := by
      cases hB : lnB l with
      | false =>
        have hr : hexOk (lnR l) = false := by
          cases hx : hexOk (lnR l) with
          | false => rfl
          | true =>
            have := (hexAll_byte hx).1
            unfold lnB at hB
            unfold lnR at this
            unfold Lib.cut at hB this
            split at hB
            · cases hB
            · rename_i hq
              rw [if_neg hq] at this
              exact absurd rfl this
        rw [hr, if_neg (by decide)]
        have hs : splitP l = some (lnF l, []) := by
          unfold splitP
          rw [hB]
          rfl
        rw [parseP_some hs, if_neg (by intro h; cases h.2), hWn, if_pos word_op]
      | true =>
        have hs : splitP l = (fieldsFrom true (cutS 44 (lnR l))).map (fun fs => (lnF l, fs)) := by
          unfold splitP
          rw [hB]
          rfl
        cases hx : hexOk (lnR l) with
        | true =>
          obtain ⟨b1, b2⟩ := hexAll_byte hx
          have hF : fieldsFrom true (cutS 44 (lnR l)) = some [lnR l] := from_good_fields rfl (by simp) (fun f hf => by
            rw [List.mem_singleton] at hf
            subst hf
            exact ⟨clean_of b1 (fun b hb => (b2 b hb).1), fun b hb => (b2 b hb).2⟩)
          rw [hF] at hs
          rw [parseP_some hs, if_pos ⟨hW, rfl⟩]
          show (if hexOk (lnR l) = true then _ else _) = _
          rw [hx]
          rfl
        | false =>
          rw [if_neg (by decide)]
          cases hF : fieldsFrom true (cutS 44 (lnR l)) with
          | none =>
            rw [hF] at hs
            exact parseP_none hs
          | some fs =>
            rw [hF] at hs
            rw [parseP_some hs]
            by_cases h1' : fs.length = 1
            · rw [if_pos ⟨hW, h1'⟩]
              obtain ⟨f, rfl⟩ := List.length_eq_one_iff.1 h1'
              have hj := (from_join hF).1
              have : lnR l = f := dinj hj
              rw [this] at hx
              show (if hexOk f = true then _ else _) = _
              rw [hx]
              rfl
            · rw [if_neg (fun h => h1' h.2), hWn, if_pos word_op]
    cases hx : hexOk (lnR l) with
    | false =>
      rw [hx, if_neg (by decide)] at key
      rw [if_neg (by decide), hbad key]
      exact ⟨rfl, fun h => by cases h⟩
    | true =>
      rw [hx, if_pos rfl] at key
      rw [if_pos rfl, hrow _ key]
      have := h.row (r := ⟨n, 0, hexVal (lnR l), [lnR l]⟩) (.inl ⟨rfl, isNm_0 _⟩) hl (x := hexVal (lnR l)) (os := st.opens) rfl (by
        show _ = _ ++ (if isNm 0 [lnR l] = true then _ else _)
        rw [isNm_0]
        simp)
      exact ⟨this.1, fun _ => this.2⟩
  · rw [if_neg hW]
    have hnW : ∀ fs : List ByteArray, ¬ (((lnF l).toList == [87, 79, 82, 68]) = true ∧ fs.length = 1) := fun fs h => hW h.1
    generalize hop : opOf (lnF l) = op at *
    have key : parseP n l = if op = 0 then none else if fillOk op (substL op (if lnB l = true then fieldsS (lnR l) else []) ⟨#[48]⟩) = true then some ⟨n, op, 0, if lnB l = true then fieldsS (lnR l) else []⟩ else none := by
      cases hB : lnB l with
      | false =>
        have hs : splitP l = some (lnF l, []) := by
          unfold splitP
          rw [hB]
          rfl
        rw [parseP_some hs, if_neg (hnW _), hop]
        rfl
      | true =>
        have hs : splitP l = (fieldsFrom true (cutS 44 (lnR l))).map (fun fs => (lnF l, fs)) := by
          unfold splitP
          rw [hB]
          rfl
        rw [if_pos rfl]
        obtain ⟨f1, f2⟩ := fields_both (op := op) (rest := lnR l)
        cases hF : fieldsFrom true (cutS 44 (lnR l)) with
        | none =>
          rw [hF] at hs
          rw [parseP_none hs]
          split
          · rfl
          · rw [if_neg (fun h => by have := f1 h; rw [hF] at this; cases this)]
        | some fs =>
          rw [hF] at hs
          rw [parseP_some hs, if_neg (hnW _), hop]
          split
          · rfl
          · by_cases hk : fillOk op (substL op fs ⟨#[48]⟩) = true
            · rw [f2 fs hF hk]
            · rw [if_neg hk, if_neg (fun h => by
                have := f1 h
                rw [hF] at this
                injection this with this
                rw [this] at hk
                exact hk h)]
    generalize (if lnB l = true then fieldsS (lnR l) else []) = gs at *
    have hsub : subst0 op gs = substL op gs ⟨#[48]⟩ := rfl
    unfold instS
    rw [hsub]
    by_cases hk : fillOk op (substL op gs ⟨#[48]⟩) = true
    · have hop0 : op ≠ 0 := by
        intro e
        have := (fill_parts hk).1
        rw [e] at this
        exact this (by decide)
      rw [if_neg hop0, if_pos hk] at key
      rw [if_pos hk, hrow _ key]
      have := h.row (r := ⟨n, op, 0, gs⟩) (.inr ⟨hop0, hk⟩) hl (x := wordF op (substL op gs ⟨#[48]⟩)) (os := st.opens ++ (if isNm op gs = true then [opnOf rt.rows.length ⟨n, op, 0, gs⟩] else [])) (by unfold w0; rw [if_neg hop0]) rfl
      have e : (if isNm op gs = true then (⟨st.words, st.labels, st.opens ++ [⟨op, fa op (substL op gs ⟨#[48]⟩), fb op (substL op gs ⟨#[48]⟩), fc op (substL op gs ⟨#[48]⟩), fn op (substL op gs ⟨#[48]⟩), lastL gs, st.words.length, n⟩]⟩ : AsmS) else st) = ⟨st.words, st.labels, st.opens ++ (if isNm op gs = true then [opnOf rt.rows.length ⟨n, op, 0, gs⟩] else [])⟩ := by
        rw [hlen]
        split
        · rfl
        · simp
      rw [e]
      exact ⟨this.1, fun _ => this.2⟩
    · have hn : parseP n l = none := by
        rw [key, if_neg hk]
        split <;> rfl
      rw [if_neg hk, hbad hn]
      exact ⟨rfl, fun h => by cases h⟩
end Go.Proofs.YtnmpamfgkidmiaaDoor

/- Asm, plain: Assemble comes to what the answers say. -/
namespace Go.Proofs.YtnmpamfgkidmiaaDoor
open Go.ChangeShapes Go.WideShapes Go.ChangeAt Go.RowKit
set_option linter.unusedVariables false
set_option linter.unusedSimpArgs false

/-- The last label of a name is the first one. -/
def LabOk (l : List Lab) : Prop := ∀ s, 0 ≤ findL l s → (((placeL l s).getD 0 : Nat) : Int) = findL l s

theorem findL_snoc (l : List Lab) (x : Lab) (s : ByteArray) : findL (l ++ [x]) s = if 0 ≤ findL l s then findL l s else if (x.1.toList == s.toList) = true then (x.2 : Int) else -1 := by
  induction l with
  | nil =>
    show (if (x.1.toList == s.toList) = true then (x.2 : Int) else -1) = _
    rw [if_neg (show ¬ (0 : Int) ≤ findL [] s from by show ¬ (0 : Int) ≤ -1; omega)]
  | cons y l ih =>
    rw [List.cons_append]
    show (if (y.1.toList == s.toList) = true then (y.2 : Int) else findL (l ++ [x]) s) = _
    have e : findL (y :: l) s = if (y.1.toList == s.toList) = true then (y.2 : Int) else findL l s := rfl
    rw [e]
    by_cases h : (y.1.toList == s.toList) = true
    · rw [if_pos h, if_pos h, if_pos (by omega)]
    · rw [if_neg h, if_neg h, ih]

theorem LabOk.snoc {l : List Lab} (h : LabOk l) {nm : ByteArray} {k : Nat} (hn : ¬ 0 ≤ findL l nm) : LabOk (l ++ [(nm, k)]) := by
  letI : LinesAt := ⟨0, #[]⟩
  intro s hs
  rw [placeL_snoc]
  rw [findL_snoc] at hs ⊢
  by_cases e : nm = s
  · subst e
    rw [if_pos rfl, if_neg hn, if_pos (by simp)]
    rfl
  · have hne : (nm.toList == s.toList) = false := by
      rw [Lib.toList_data, Lib.toList_data]
      simp only [beq_eq_false_iff_ne, ne_eq]
      exact fun h => e (dinj h)
    rw [if_neg e]
    by_cases hf : 0 ≤ findL l s
    · rw [if_pos hf]
      exact h s hf
    · rw [if_neg hf] at hs
      rw [show (((nm, k) : Lab).1.toList == s.toList) = false from hne, if_neg (by decide)] at hs
      omega

/-- The labels of a state, and how many there are. -/
structure LabIn (rt : RS) (N : Nat) : Prop where
  ok : LabOk rt.labels
  bound : ∀ x ∈ rt.labels, x.1.size ≤ 32 ∧ x.2 ≤ rt.rows.length
  rows : rt.rows.length ≤ N
  labels : rt.labels.length ≤ N

theorem LabIn.start : LabIn ⟨[], []⟩ 0 := ⟨fun s hs => absurd hs (by show ¬ (0 : Int) ≤ -1; omega), fun _ h => (List.not_mem_nil h).elim, Nat.le_refl _, Nat.le_refl _⟩

theorem LabIn.up {rt : RS} {N : Nat} (h : LabIn rt N) : LabIn rt (N + 1) := ⟨h.ok, h.bound, Nat.le_succ_of_le h.rows, Nat.le_succ_of_le h.labels⟩

theorem stepR_in {n N : Nat} {l : ByteArray} {rt : RS} (h : LabIn rt N) (hl : rt.rows.length < 16384) (h0 : (stepR n l rt).1 = 0) : LabIn (stepR n l rt).2 (N + 1) := by
  by_cases c0 : l.size = 0
  · rw [stepR_empty c0]
    exact h.up
  by_cases c1 : l.get! 0 = 59
  · rw [stepR_rem c0 c1]
    exact h.up
  by_cases c2 : l.get! (l.size - 1) = 58
  · rw [stepR_lab c0 c1 c2] at h0 ⊢
    generalize l.extract 0 (l.size - 1) = nm at *
    cases hn : nameB nm with
    | false =>
      rw [hn, if_neg (by decide)] at h0
      cases h0
    | true =>
      rw [hn, if_pos rfl] at h0
      rw [if_pos rfl]
      by_cases hf : 0 ≤ findL rt.labels nm
      · rw [if_pos hf] at h0
        cases h0
      · rw [if_neg hf]
        refine ⟨h.ok.snoc hf, fun x hx => ?_, Nat.le_succ_of_le h.rows, by show (_ ++ [_]).length ≤ _; rw [List.length_append]; exact Nat.succ_le_succ h.labels⟩
        rcases List.mem_append.1 hx with hx | hx
        · exact h.bound x hx
        · rw [List.mem_singleton] at hx
          subst hx
          exact ⟨name_small5 hn, Nat.le_refl _⟩
  · cases hp : parseP n l with
    | none =>
      rw [stepR_bad c0 c1 c2 hp] at h0
      cases h0
    | some x =>
      rw [stepR_row c0 c1 c2 hp (by omega)]
      refine ⟨h.ok, fun y hy => ⟨(h.bound y hy).1, ?_⟩, by show (_ ++ [_]).length ≤ _; rw [List.length_append]; exact Nat.succ_le_succ h.rows, Nat.le_succ_of_le h.labels⟩
      have := (h.bound y hy).2
      show _ ≤ (_ ++ [_]).length
      rw [List.length_append]
      omega

/-- All lines on both sides. -/
theorem run_same : ∀ (ls : List ByteArray) (n N : Nat) (st : AsmS) (rt : RS), Rel st rt → LabIn rt N → N + ls.length ≤ 16384 → (runS ls n st).1 = (runR ls n rt).1 ∧ (runS ls n st).2.1 = (runR ls n rt).2.1 ∧ ((runR ls n rt).1 = 0 → Rel (runS ls n st).2.2 (runR ls n rt).2.2 ∧ LabIn (runR ls n rt).2.2 (N + ls.length))
  | [], n, N, st, rt, h, hi, _ => ⟨rfl, rfl, fun _ => ⟨h, hi⟩⟩
  | l :: ls, n, N, st, rt, h, hi, hl => by
    letI : LinesAt := ⟨0, #[]⟩
    simp only [List.length_cons] at hl
    have hrl : rt.rows.length < 16384 := by have := hi.rows; omega
    obtain ⟨e1, e2⟩ := step_same (l := l) (n := n + 1) h hrl
    rw [runS_cons, runR_cons]
    by_cases h0 : (stepR (n + 1) l rt).1 = 0
    · have h0' : (readS l (n + 1) st).1 = 0 := e1.trans h0
      rw [if_pos h0', if_pos h0]
      have := run_same ls (n + 1) (N + 1) _ _ (e2 h0') (stepR_in hi hrl h0) (by omega)
      rw [show N + 1 + ls.length = N + (l :: ls).length by simp; omega] at this
      exact this
    · rw [if_neg (by rw [e1]; exact h0), if_neg h0]
      exact ⟨e1, rfl, fun h => absurd h h0⟩

/-- An instruction's number in the place of its name. -/
theorem name_fill {op : Int} {fs : List ByteArray} (hi : isNm op fs = true) (hk : fillOk op (substL op fs ⟨#[48]⟩) = true) {m : Int} (h0 : -2147483648 ≤ m) (h1 : m ≤ 2147483647) :
    (fillOk op (substL op fs (nt m)) = true ↔ checkOf op (fa op (substL op fs ⟨#[48]⟩)) (fb op (substL op fs ⟨#[48]⟩)) (fc op (substL op fs ⟨#[48]⟩)) m = 0) ∧ wordF op (substL op fs (nt m)) = encOf op (fa op (substL op fs ⟨#[48]⟩)) (fb op (substL op fs ⟨#[48]⟩)) (fc op (substL op fs ⟨#[48]⟩)) m := by
  obtain ⟨hl1, ht, _⟩ := isNm_ends hi
  obtain ⟨_, hb, hcnt⟩ := takes_shape ht
  obtain ⟨p0, p1, p2, p3, p4, p5⟩ := fill_parts hk
  rw [substL_len] at p1
  have hlen : fs.length = (regsOf (shapeOf op)).toNat + 1 := p1.trans hcnt
  have hreg : ∀ (t : ByteArray) (j : Nat), (j : Int) < regsOf (shapeOf op) → (substL op fs t).getD j ⟨#[]⟩ = fs.getD j ⟨#[]⟩ := fun t j hj => by
    rw [substL_at (by omega), if_neg (by rintro ⟨e, _⟩; omega)]
  have hlast : ∀ t : ByteArray, (substL op fs t).getD (regsOf (shapeOf op)).toNat ⟨#[]⟩ = t := fun t => by
    rw [substL_at (by omega), if_pos ⟨by omega, hi⟩]
  obtain ⟨n1, n2⟩ := pf_nt m h0 h1
  have ea : fa op (substL op fs (nt m)) = fa op (substL op fs ⟨#[48]⟩) := by
    unfold fa
    split
    · rw [hreg _ 0 (by assumption), hreg _ 0 (by assumption)]
    · rfl
  have eb : fb op (substL op fs (nt m)) = fb op (substL op fs ⟨#[48]⟩) := by
    unfold fb
    split
    · rw [hreg _ 1 (by assumption), hreg _ 1 (by assumption)]
    · rfl
  have ec : fc op (substL op fs (nt m)) = fc op (substL op fs ⟨#[48]⟩) := by
    unfold fc
    split
    · rw [hreg _ 2 (by assumption), hreg _ 2 (by assumption)]
    · rfl
  have en : fn op (substL op fs (nt m)) = m := by
    unfold fn
    rw [if_pos hb, hlast, n2]
  have ka' : ka op (substL op fs (nt m)) = true := by
    unfold ka at p2 ⊢
    split
    · rename_i hq
      rw [if_pos hq, hreg _ 0 hq] at p2
      rw [hreg _ 0 hq]
      exact p2
    · rfl
  have kb' : kb op (substL op fs (nt m)) = true := by
    unfold kb at p3 ⊢
    split
    · rename_i hq
      rw [if_pos hq, hreg _ 1 hq] at p3
      rw [hreg _ 1 hq]
      exact p3
    · rfl
  have kc' : kc op (substL op fs (nt m)) = true := by
    unfold kc at p4 ⊢
    split
    · rename_i hq
      rw [if_pos hq, hreg _ 2 hq] at p4
      rw [hreg _ 2 hq]
      exact p4
    · rfl
  have kn' : kn op (substL op fs (nt m)) = true := by
    unfold kn
    rw [if_pos hb, hlast, n1]
  refine ⟨⟨fun h => ?_, fun h => ?_⟩, ?_⟩
  · letI : LinesAt := ⟨0, #[]⟩
    have := fill_check h
    rw [ea, eb, ec, en] at this
    exact this
  · exact fillOk_yes p0 (by rw [substL_len, p1]) ka' kb' kc' kn' (by rw [ea, eb, ec, en]; exact h)
  · unfold wordF
    rw [ea, eb, ec, en]

theorem set_mid (pre tl : List Int) (y x : Int) : (pre ++ y :: tl).set pre.length x = pre ++ x :: tl := by
  rw [List.set_append_right _ _ (Nat.le_refl _), Nat.sub_self]
  rfl

/-- The numbers of all names, on both sides. -/
theorem resolve_places {ls : List Lab} (hLab : LabOk ls) (hb : ∀ x ∈ ls, x.2 ≤ 16384) : ∀ (rs : List Row5) (pre : List Int), pre.length + rs.length ≤ 16384 → (∀ r ∈ rs, RowOk r) →
    (resolveF ls (opensF pre.length rs) (pre ++ rs.map w0)).1 = (placesR ls rs pre.length).1 ∧ (resolveF ls (opensF pre.length rs) (pre ++ rs.map w0)).2.1 = (placesR ls rs pre.length).2.1 ∧ ((placesR ls rs pre.length).1 = 0 → (resolveF ls (opensF pre.length rs) (pre ++ rs.map w0)).2.2 = pre ++ (placesR ls rs pre.length).2.2)
  | [], pre, _, _ => ⟨rfl, rfl, fun _ => rfl⟩
  | r :: rs, pre, hl, hr => by
    letI : LinesAt := ⟨0, #[]⟩
    simp only [List.length_cons] at hl
    have hro := hr r (by simp)
    have IH := fun x => resolve_places hLab hb rs (pre ++ [x]) (by simp; omega) (fun q hq => hr q (by simp [hq]))
    simp only [List.length_append, List.length_singleton, List.append_assoc, List.singleton_append] at IH
    have step : ∀ x : Int, (placeP r ls pre.length) = (x, 0) → ∀ q : Int × Nat × List Int, (q.1 = (placesR ls rs (pre.length + 1)).1 ∧ q.2.1 = (placesR ls rs (pre.length + 1)).2.1 ∧ ((placesR ls rs (pre.length + 1)).1 = 0 → q.2.2 = pre ++ x :: (placesR ls rs (pre.length + 1)).2.2)) → q.1 = (placesR ls (r :: rs) pre.length).1 ∧ q.2.1 = (placesR ls (r :: rs) pre.length).2.1 ∧ ((placesR ls (r :: rs) pre.length).1 = 0 → q.2.2 = pre ++ (placesR ls (r :: rs) pre.length).2.2) := by
      intro x hx q ⟨q1, q2, q3⟩
      rw [placesR_cons, hx, if_pos rfl]
      by_cases hz : (placesR ls rs (pre.length + 1)).1 = 0
      · rw [if_pos hz]
        exact ⟨q1.trans hz, q2.trans (placesR_zero ls rs _ hz), fun _ => q3 hz⟩
      · rw [if_neg hz]
        exact ⟨q1, q2, fun h => absurd h hz⟩
    cases hi : isNm r.op r.fields with
    | false =>
      have hop : opensF pre.length (r :: rs) = opensF (pre.length + 1) rs := by
        show (if isNm r.op r.fields = true then _ else _) = _
        rw [hi, if_neg (by decide)]
      have hs : ∀ t, substL r.op r.fields t = r.fields := fun t => by
        unfold substL
        rw [hi, if_neg (by decide)]
      have hpl : placeP r ls pre.length = (w0 r, 0) := by
        unfold placeP w0
        rcases hro with ⟨h0, _⟩ | ⟨h0, hk⟩
        · rw [if_pos h0, if_pos h0]
        · rw [hs] at hk
          rw [if_neg h0, if_neg h0, if_neg (by rw [hi]; rintro ⟨h, _⟩; cases h), hs, if_pos hk, hs]
      rw [hop, List.map_cons]
      exact step _ hpl _ (IH (w0 r))
    | true =>
      obtain ⟨h0, hk⟩ : r.op ≠ 0 ∧ fillOk r.op (substL r.op r.fields ⟨#[48]⟩) = true := by
        rcases hro with ⟨_, h⟩ | h
        · rw [hi] at h
          cases h
        · exact h
      have hop : opensF pre.length (r :: rs) = opnOf pre.length r :: opensF (pre.length + 1) rs := by
        show (if isNm r.op r.fields = true then _ else _) = _
        rw [hi, if_pos rfl]
      rw [hop, resolveF_cons, List.map_cons]
      show (if hasL ls (lastL r.fields) = true then _ else _ : Int × Nat × List Int).1 = _ ∧ (if hasL ls (lastL r.fields) = true then _ else _ : Int × Nat × List Int).2.1 = _ ∧ (_ → (if hasL ls (lastL r.fields) = true then _ else _ : Int × Nat × List Int).2.2 = _)
      rw [findL_has]
      by_cases hf : 0 ≤ findL ls (lastL r.fields)
      · have hfb := findL_bound (fun x hx => Nat.le_trans (hb x hx) (by decide)) (lastL r.fields)
        have hfu : findL ls (lastL r.fields) ≤ 1000000 := hfb.2
        have hnum : numO ls (opnOf pre.length r) = findL ls (lastL r.fields) - pre.length - 1 := by
          unfold numO
          rw [show (opnOf pre.length r).label = lastL r.fields from rfl, hLab _ hf]
          rfl
        obtain ⟨f1, f2⟩ := name_fill hi hk (m := findL ls (lastL r.fields) - pre.length - 1) (by omega) (by omega)
        have hlt : lastT r ls pre.length = nt (findL ls (lastL r.fields) - pre.length - 1) := by
          unfold lastT
          rw [hi, if_pos rfl]
        rw [decide_eq_true hf, if_pos rfl, hnum]
        show (if checkOf r.op (fa r.op (substL r.op r.fields ⟨#[48]⟩)) (fb r.op (substL r.op r.fields ⟨#[48]⟩)) (fc r.op (substL r.op r.fields ⟨#[48]⟩)) (findL ls (lastL r.fields) - pre.length - 1) = 0 then _ else _ : Int × Nat × List Int).1 = _ ∧ (if checkOf r.op (fa r.op (substL r.op r.fields ⟨#[48]⟩)) (fb r.op (substL r.op r.fields ⟨#[48]⟩)) (fc r.op (substL r.op r.fields ⟨#[48]⟩)) (findL ls (lastL r.fields) - pre.length - 1) = 0 then _ else _ : Int × Nat × List Int).2.1 = _ ∧ (_ → (if checkOf r.op (fa r.op (substL r.op r.fields ⟨#[48]⟩)) (fb r.op (substL r.op r.fields ⟨#[48]⟩)) (fc r.op (substL r.op r.fields ⟨#[48]⟩)) (findL ls (lastL r.fields) - pre.length - 1) = 0 then _ else _ : Int × Nat × List Int).2.2 = _)
        by_cases hc : checkOf r.op (fa r.op (substL r.op r.fields ⟨#[48]⟩)) (fb r.op (substL r.op r.fields ⟨#[48]⟩)) (fc r.op (substL r.op r.fields ⟨#[48]⟩)) (findL ls (lastL r.fields) - pre.length - 1) = 0
        · have hpl : placeP r ls pre.length = (wordF r.op (substL r.op r.fields (nt (findL ls (lastL r.fields) - pre.length - 1))), 0) := by
            unfold placeP
            rw [if_neg h0, if_neg (by rintro ⟨_, h⟩; omega), hlt, if_pos (f1.2 hc)]
          rw [if_pos hc]
          rw [show (opnOf pre.length r).at_ = pre.length from rfl, set_mid]
          refine step _ hpl _ ?_
          rw [f2]
          exact IH _
        · have hpl : placeP r ls pre.length = (0, 52) := by
            unfold placeP
            rw [if_neg h0, if_neg (by rintro ⟨_, h⟩; omega), hlt, if_neg (fun h => hc (f1.1 h))]
          rw [if_neg hc, placesR_cons, hpl, if_neg (by decide)]
          exact ⟨rfl, rfl, fun h => by cases h⟩
      · have hpl : placeP r ls pre.length = (0, 50) := by
          unfold placeP
          rw [if_neg h0, if_pos ⟨hi, by omega⟩]
        rw [decide_eq_false hf, if_neg (by decide), placesR_cons, hpl, if_neg (by decide)]
        exact ⟨rfl, rfl, fun h => by cases h⟩

theorem placesR_len (ls : List Lab) : ∀ (rs : List Row5) (k : Nat), (placesR ls rs k).2.2.length ≤ rs.length
  | [], _ => Nat.le_refl _
  | r :: rs, k => by
    have := placesR_len ls rs (k + 1)
    rw [placesR_cons]
    split
    · split
      · simp; omega
      · simp; omega
    · simp

/-- What Assemble comes to, and what the answers say. -/
theorem asm_same {text : ByteArray} (hc : ¬ 4096 ≤ Lib.countByte text.data.toList 10) :
    (asmF text).1 = (refF text).1 ∧ (asmF text).2.1 = (refF text).2.1 ∧ ((asmF text).1 = 0 → (asmF text).2.2.words = (refF text).2.2.1 ∧ (asmF text).2.2.labels = (refF text).2.2.2) ∧ ((asmF text).1 ≠ 0 → (refF text).2.2.1 = [] ∧ (refF text).2.2.2 = []) := by
  have hll : (cutS 10 text).length = Lib.countByte text.data.toList 10 + 1 := by
    unfold cutS Lib.countByte
    rw [List.length_map, cutL_len]
  have hmany : ¬ 4096 < (cutS 10 text).length := by omega
  have R := run_same (cutS 10 text) 0 0 ⟨[], [], []⟩ ⟨[], []⟩ Rel.start LabIn.start (by omega)
  unfold asmF refF
  rw [lines_cut, if_neg hmany]
  generalize runS (cutS 10 text) 0 ⟨[], [], []⟩ = a at *
  generalize runR (cutS 10 text) 0 ⟨[], []⟩ = b at *
  obtain ⟨e1, e2, e3⟩ := R
  by_cases h0 : b.1 = 0
  · have h0' : a.1 = 0 := e1.trans h0
    rw [if_pos h0', if_pos h0]
    obtain ⟨hrel, hlab⟩ := e3 h0
    have P := resolve_places hlab.ok (fun x hx => Nat.le_trans (hlab.bound x hx).2 (Nat.le_trans hlab.rows (by omega))) b.2.2.rows [] (by show 0 + _ ≤ _; have := hlab.rows; omega) hrel.rows
    simp only [List.length_nil, List.nil_append] at P
    rw [← hrel.words, ← hrel.opens, ← hrel.labels] at P
    rw [← hrel.labels]
    have RZ := resolveF_zero a.2.2.labels a.2.2.opens a.2.2.words
    generalize resolveF a.2.2.labels a.2.2.opens a.2.2.words = p at *
    generalize placesR a.2.2.labels b.2.2.rows 0 = q at *
    obtain ⟨p1, p2, p3⟩ := P
    by_cases hq : q.1 = 0
    · rw [if_pos hq]
      refine ⟨p1.trans hq, ?_, fun _ => ⟨p3 hq, rfl⟩, fun h => absurd (p1.trans hq) h⟩
      exact RZ (p1.trans hq)
    · rw [if_neg hq]
      exact ⟨p1, p2, fun h => absurd (p1.symm.trans h) hq, fun _ => ⟨rfl, rfl⟩⟩
  · rw [if_neg (by rw [e1]; exact h0), if_neg h0]
    exact ⟨e1, e2, fun h => absurd (e1.symm.trans h) h0, fun _ => ⟨rfl, rfl⟩⟩

/-- What the answers give is small. -/
theorem refF_small (text : ByteArray) : (refF text).2.2.1.length ≤ 16384 ∧ (refF text).2.2.2.length ≤ 16384 ∧ ∀ x ∈ (refF text).2.2.2, x.1.size ≤ 32 ∧ x.2 ≤ 16384 := by
  unfold refF
  by_cases hmany : 4096 < (cutS 10 text).length
  · rw [if_pos hmany]
    exact ⟨Nat.zero_le _, Nat.zero_le _, fun _ h => (List.not_mem_nil h).elim⟩
  · rw [if_neg hmany]
    have R := run_same (cutS 10 text) 0 0 ⟨[], [], []⟩ ⟨[], []⟩ Rel.start LabIn.start (by omega)
    generalize runR (cutS 10 text) 0 ⟨[], []⟩ = b at *
    by_cases h0 : b.1 = 0
    · rw [if_pos h0]
      obtain ⟨_, hlab⟩ := R.2.2 h0
      have hr := hlab.rows
      have hl := hlab.labels
      have hp := placesR_len b.2.2.labels b.2.2.rows 0
      split
      · refine ⟨by show (placesR _ _ _).2.2.length ≤ _; omega, by show b.2.2.labels.length ≤ _; omega, fun x hx => ?_⟩
        have := hlab.bound x hx
        exact ⟨this.1, by omega⟩
      · exact ⟨Nat.zero_le _, Nat.zero_le _, fun _ h => (List.not_mem_nil h).elim⟩
    · rw [if_neg h0]
      exact ⟨Nat.zero_le _, Nat.zero_le _, fun _ h => (List.not_mem_nil h).elim⟩
end Go.Proofs.YtnmpamfgkidmiaaDoor

/- Asm: the laws AsmTexts, AsmNames. -/
namespace Go.Proofs.YtnmpamfgkidmiaaDoor
open Go.ChangeShapes Go.WideShapes Go.ChangeAt Go.RowKit
set_option linter.unusedVariables false
set_option linter.unusedSimpArgs false

theorem atL_find : ∀ (l : List Lab) (s : ByteArray), atL l s = findL l s
  | [], _ => rfl
  | x :: l, s => by
    show (if (x.1.toList == s.toList) = true then (x.2 : Int) else atL l s) = if (x.1.toList == s.toList) = true then (x.2 : Int) else findL l s
    rw [atL_find l s]

theorem nil_form {w : World} {B : Nat} {e : TypeId} {sz : Nat} : w.ownsRow B e sz (.slice none 0 0) 0 [] := ⟨by simp, .inl ⟨rfl, rfl⟩⟩

/-- Assemble, against the answers. -/
theorem asm_ref (text : ByteArray) (w : World) (ht : text.size ≤ 900000) (hT : ∀ W, Below w.heap.size w W → Tab W) :
    Calls Tryd.prog 9 #[.string text] w fun e w' => ∃ A0 c0 A1 c1, e = .returned (.tuple #[.agg #[.slice A0 (refF text).2.2.1.length c0, .slice A1 (refF text).2.2.2.length c1], .int .i64 (refF text).2.1, .int .i64 (refF text).1]) ∧ Below w.heap.size w w' ∧ Owns .u32 45 w' (w.heap.size + 1) (.slice A0 (refF text).2.2.1.length c0) (refF text).2.2.1.length (refF text).2.2.1 ∧ w'.ownsRow (w.heap.size + 1) 66 2 (.slice A1 (refF text).2.2.2.length c1) (refF text).2.2.2.length ((refF text).2.2.2.flatMap labCells) := by
  by_cases hc : 4096 ≤ Lib.countByte text.data.toList 10
  · have hll : (cutS 10 text).length = Lib.countByte text.data.toList 10 + 1 := by
      unfold cutS Lib.countByte
      rw [List.length_map, cutL_len]
    have hr : refF text = (242, 4097, [], []) := by
      unfold refF
      rw [if_pos (by omega)]
    rw [hr]
    refine (asm_full text w (by omega) hc).mono ?_
    rintro e w' ⟨rfl, hb⟩
    exact ⟨none, 0, none, 0, rfl, hb, Owns.nil _ _ _ _, nil_form⟩
  · obtain ⟨h1, h2, h3, h4⟩ := asm_same hc
    refine (asm_any text w ht hT hc).mono ?_
    intro e w' h
    by_cases h0 : (asmF text).1 = 0
    · obtain ⟨A0, c0, A1, c1, rfl, hb, ho, hl⟩ := asmres_ok h h0
      obtain ⟨hw, hla⟩ := h3 h0
      rw [hw] at ho
      rw [hla] at hl
      exact ⟨A0, c0, A1, c1, by rw [hw, hla, h2, ← h1, h0], hb, ho, hl⟩
    · obtain ⟨v0, v1, he, hb, _, hn⟩ := h
      obtain ⟨rfl, rfl⟩ := hn h0
      obtain ⟨hw, hla⟩ := h4 h0
      exact ⟨none, 0, none, 0, by rw [he, hw, hla, h2, h1]; rfl, hb, by rw [hw]; exact Owns.nil _ _ _ _, by rw [hla]; exact nil_form⟩

set_option maxHeartbeats 8000000 in
set_option maxRecDepth 100000 in
theorem same05_any (A1 A2 : Option Addr) (c1 c2 B1 B2 : Nat) (ls : List Lab) (w : World) (h1 : w.ownsRow B1 66 2 (.slice A1 ls.length c1) ls.length (ls.flatMap labCells)) (h2 : w.ownsRow B2 59 2 (.slice A2 ls.length c2) ls.length (ls.flatMap labCells)) (hn : ls.length ≤ 1000000) (hz : ∀ x ∈ ls, x.1.size ≤ 1000000 ∧ x.2 ≤ 1000000) :
    Calls Tryd.prog 12 #[.slice A1 ls.length c1, .slice A2 ls.length c2] w fun e w' => e = .returned (.bool true) ∧ Below w.heap.size w w' := by
  have H1 := Lib.hid h1
  have H2 := Lib.hid h2
  have HZ := Lib.hid hz
  clear h1 h2 hz
  go_enter Tryd.func12, Tryd.ntmps12
  go_wp2_with fail
  go_loopw [5] (fun i wr => ∃ t q : Nat, t ≤ ls.length ∧ i = .int .i64 t ∧ wr = w.drewN q) (fun i _ => ls.length - (intOf i).toNat)
  case atStart => exact ⟨0, 0, Nat.zero_le _, rfl, rfl⟩
  case round =>
    obtain ⟨t, q, ht, rfl, rfl⟩ := hrel
    by_cases hlt : t < ls.length
    · have hI : (t : Int) < ls.length := by omega
      obtain ⟨hc1, g1, rfl, _, _, hg1⟩ := own_cell (f := labCells) (fun _ => rfl) noLb H1.out rfl hlt
      obtain ⟨hc2, g2, rfl, _, _, hg2⟩ := own_cell (f := labCells) (fun _ => rfl) noLb H2.out rfl hlt
      have hO : ls.getD t noLb = ls[t] := by
        rw [List.getD_eq_getElem?_getD, List.getElem?_eq_getElem hlt]
        rfl
      rw [hO] at hg1 hg2
      have hzz := HZ.out _ (List.getElem_mem hlt)
      generalize ls[t] = l at *
      obtain ⟨ln, lw⟩ := l
      have x0 : w.cell? ⟨g1, t * 2, none⟩ = some (.string ln) := hg1 0 (by decide)
      have x1 : w.cell? ⟨g1, t * 2 + 1, none⟩ = some (.int .i64 lw) := hg1 1 (by decide)
      have y0 : w.cell? ⟨g2, t * 2, none⟩ = some (.string ln) := hg2 0 (by decide)
      have y1 : w.cell? ⟨g2, t * 2 + 1, none⟩ = some (.int .i64 lw) := hg2 1 (by decide)
      have hne : (ln.toList != ln.toList) = false := by simp
      have hnw : ((lw : Int) != (lw : Int)) = false := by simp
      clear hg1 hg2 hO
      go_wp2_with fail
      go_quiet (fail)
      go_wp2_with fail
      go_roundw
      case rel => exact ⟨t + 1, _, by omega, by go_num, rfl⟩
      case measure => simp [intOf]; omega
    · have hI : ¬ (t : Int) < ls.length := by omega
      go_wp2_with fail
      go_ret
      exact ⟨rfl, below_drawn (Below.refl _ _) q⟩

set_option maxHeartbeats 8000000 in
set_option maxRecDepth 100000 in
theorem asmtexts_walk (w : World) (hT : ∀ W, Below w.heap.size w W → Tab W) (s : ByteArray) (hm : s.size ≤ maxLen) :
    Calls Tryd.prog 3 #[.string s] w fun e w' => e = .returned (.bool true) ∧ Below w.heap.size w w' := by
  have AW := Lib.hid (awake05_any w hT)
  have HT := Lib.hid hT
  unfold maxLen at hm
  by_cases hs : s.size ≤ 20000
  case neg =>
    have d : decide ((20000 : Int) < s.size) = true := decide_eq_true (by omega)
    clear hT
    go_enter Tryd.func3, Tryd.ntmps3
    go_wp2_with fail
    refine AW.out.mono ?_
    rintro e w1 ⟨rfl, hb1⟩
    have B1 := Lib.hid hb1
    clear hb1
    go_wp2_with fail
    go_ret
    exact ⟨rfl, B1.out⟩
  have d : decide ((20000 : Int) < s.size) = false := decide_eq_false (by omega)
  have FA := Lib.hid (fun w h => asm_ref s w (by omega) h)
  have FR := Lib.hid (fun w => refasm_any s w (by omega))
  obtain ⟨r1, r2, r3⟩ := refF_small s
  have R3 := Lib.hid (show ∀ x ∈ (refF s).2.2.2, x.1.size ≤ 1000000 ∧ x.2 ≤ 1000000 from fun x hx => ⟨by have := (r3 x hx).1; omega, by have := (r3 x hx).2; omega⟩)
  unfold RefRes at FR
  clear hT r3
  generalize refF s = r at *
  obtain ⟨er, ln, ws, ls⟩ := r
  have FA := Lib.hid (show ∀ w, (∀ W, Below w.heap.size w W → Tab W) → Calls Tryd.prog 9 #[.string s] w fun e w' => ∃ A0 c0 A1 c1, e = .returned (.tuple #[.agg #[.slice A0 ws.length c0, .slice A1 ls.length c1], .int .i64 ln, .int .i64 er]) ∧ Below w.heap.size w w' ∧ Owns .u32 45 w' (w.heap.size + 1) (.slice A0 ws.length c0) ws.length ws ∧ w'.ownsRow (w.heap.size + 1) 66 2 (.slice A1 ls.length c1) ls.length (ls.flatMap labCells) from FA.out)
  have FR := Lib.hid (show ∀ w, Calls Tryd.prog 10 #[.string s] w fun e w' => ∃ v0 v1, e = .returned (.tuple #[v0, v1, .int .i64 ln, .int .i64 er]) ∧ Below w.heap.size w w' ∧ Owns .u32 45 w' w.heap.size v0 ws.length ws ∧ w'.ownsRow w.heap.size 59 2 v1 ls.length (ls.flatMap labCells) from FR.out)
  have r1 : ws.length ≤ 16384 := r1
  have r2 : ls.length ≤ 16384 := r2
  have R3 := Lib.hid (show ∀ x ∈ ls, x.1.size ≤ 1000000 ∧ x.2 ≤ 1000000 from R3.out)
  go_enter Tryd.func3, Tryd.ntmps3
  go_wp2_with fail
  refine AW.out.mono ?_
  rintro e w1 ⟨rfl, hb1⟩
  have B1 := Lib.hid hb1
  clear hb1 AW
  go_wp2_with fail
  refine (FA.out _ (Tab.above HT.out B1.out)).mono ?_
  rintro e w2 ⟨A0, c0, A1, c1, rfl, hb2, ho, hl⟩
  have B2 := Lib.hid ((B1.out.trans (hb2.mono B1.out.size)).alloc (Nat.le_trans B1.out.size hb2.size) (.cells #[.slice A0 ws.length c0, .slice A1 ls.length c1] unitT))
  have Q := Lib.hid (Whole.made w2 unitT #[.slice A0 ws.length c0, .slice A1 ls.length c1] _ rfl)
  have O2 := Lib.hid (ho.alloc (.cells #[.slice A0 ws.length c0, .slice A1 ls.length c1] unitT)).nums
  have L2 := Lib.hid (World.ownsRow.alloc hl (.cells #[.slice A0 ws.length c0, .slice A1 ls.length c1] unitT))
  clear hb2 ho hl B1
  go_wp2_with fail
  generalize w2.alloc (.cells #[.slice A0 ws.length c0, .slice A1 ls.length c1] unitT) = V at *
  refine (FR.out _).mono ?_
  rintro e w3 ⟨v0, v1, rfl, hb3, ho, hl⟩
  obtain ⟨A2, c2, rfl, hn2⟩ := ho.form
  obtain ⟨A3, c3, rfl⟩ := slice_form hl
  have B3 := Lib.hid (B2.out.trans (hb3.mono B2.out.size))
  have Q3 := Lib.hid (Q.out.below hb3 Q.out.lt)
  have O3 := Lib.hid (O2.out.below hb3)
  have L3 := Lib.hid (ownsRow_below5 L2.out hb3)
  have N3 := Lib.hid hn2
  have M3 := Lib.hid hl
  clear hb3 ho hl hn2 B2 Q O2 L2
  have q0 : w3.cell? ⟨w2.heap.size, 0, none⟩ = some (.slice A0 ws.length c0) := Q3.out.cell 0
  have q1 : w3.cell? ⟨w2.heap.size, 1, none⟩ = some (.slice A1 ls.length c1) := Q3.out.cell 1
  go_wp2_with fail
  refine (words_same5 A0 A2 ws.length c0 c2 ws w3 O3.out N3.out (by omega)).mono ?_
  rintro e w4 ⟨rfl, hb4⟩
  have B4 := Lib.hid (B3.out.trans (hb4.mono B3.out.size))
  have Q4 := Lib.hid (Q3.out.below hb4 Q3.out.lt)
  have L4 := Lib.hid (ownsRow_below5 L3.out hb4)
  have M4 := Lib.hid (ownsRow_below5 M3.out hb4)
  clear hb4 B3 Q3 O3 L3 N3 M3 q0 q1
  have q1 : w4.cell? ⟨w2.heap.size, 1, none⟩ = some (.slice A1 ls.length c1) := Q4.out.cell 1
  go_wp2_with fail
  refine (same05_any A1 A3 c1 c3 _ _ ls w4 L4.out M4.out (by omega) R3.out).mono ?_
  rintro e w5 ⟨rfl, hb5⟩
  have B5 := Lib.hid (B4.out.trans (hb5.mono B4.out.size))
  clear hb5
  have e1 : ((ln : Int) == (ln : Int)) = true := by simp
  have e2 : (er == er) = true := by simp
  go_wp2_with fail
  go_ret
  exact ⟨rfl, B5.out⟩

set_option maxHeartbeats 8000000 in
set_option maxRecDepth 100000 in
theorem asmnames_walk (w : World) (hT : ∀ W, Below w.heap.size w W → Tab W) (s : ByteArray) (hm : s.size ≤ maxLen) (nm : ByteArray) (hm2 : nm.size ≤ maxLen) :
    Calls Tryd.prog 4 #[.string s, .string nm] w fun e w' => e = .returned (.bool true) ∧ Below w.heap.size w w' := by
  have AW := Lib.hid (awake05_any w hT)
  have HT := Lib.hid hT
  unfold maxLen at hm hm2
  by_cases hs : s.size ≤ 5000
  case neg =>
    have d : decide ((5000 : Int) < s.size) = true := decide_eq_true (by omega)
    clear hT
    go_enter Tryd.func4, Tryd.ntmps4
    go_wp2_with fail
    refine AW.out.mono ?_
    rintro e w1 ⟨rfl, hb1⟩
    have B1 := Lib.hid hb1
    clear hb1
    go_wp2_with fail
    go_ret
    exact ⟨rfl, B1.out⟩
  have d : decide ((5000 : Int) < s.size) = false := decide_eq_false (by omega)
  by_cases hs2 : nm.size ≤ 100
  case neg =>
    have d : decide ((100 : Int) < nm.size) = true := decide_eq_true (by omega)
    clear hT
    go_enter Tryd.func4, Tryd.ntmps4
    go_wp2_with fail
    refine AW.out.mono ?_
    rintro e w1 ⟨rfl, hb1⟩
    have B1 := Lib.hid hb1
    clear hb1
    go_wp2_with fail
    go_ret
    exact ⟨rfl, B1.out⟩
  have d' : decide ((100 : Int) < nm.size) = false := decide_eq_false (by omega)
  have FA := Lib.hid (fun w h => asm_ref s w (by omega) h)
  have FR := Lib.hid (fun w => refasm_any s w (by omega))
  obtain ⟨r1, r2, r3⟩ := refF_small s
  have R3 := Lib.hid (show ∀ x ∈ (refF s).2.2.2, x.1.size ≤ 1000000 from fun x hx => by have := (r3 x hx).1; omega)
  have NA := Lib.hid (fun w => name05_any nm w (by omega))
  have NB := Lib.hid (fun w => refname05_any nm w (by omega))
  unfold RefRes at FR
  clear hT r3
  generalize refF s = r at *
  obtain ⟨er, ln, ws, ls⟩ := r
  have FA := Lib.hid (show ∀ w, (∀ W, Below w.heap.size w W → Tab W) → Calls Tryd.prog 9 #[.string s] w fun e w' => ∃ A0 c0 A1 c1, e = .returned (.tuple #[.agg #[.slice A0 ws.length c0, .slice A1 ls.length c1], .int .i64 ln, .int .i64 er]) ∧ Below w.heap.size w w' ∧ Owns .u32 45 w' (w.heap.size + 1) (.slice A0 ws.length c0) ws.length ws ∧ w'.ownsRow (w.heap.size + 1) 66 2 (.slice A1 ls.length c1) ls.length (ls.flatMap labCells) from FA.out)
  have FR := Lib.hid (show ∀ w, Calls Tryd.prog 10 #[.string s] w fun e w' => ∃ v0 v1, e = .returned (.tuple #[v0, v1, .int .i64 ln, .int .i64 er]) ∧ Below w.heap.size w w' ∧ Owns .u32 45 w' w.heap.size v0 ws.length ws ∧ w'.ownsRow w.heap.size 59 2 v1 ls.length (ls.flatMap labCells) from FR.out)
  have r2 : ls.length ≤ 16384 := r2
  have R3 := Lib.hid (show ∀ x ∈ ls, x.1.size ≤ 1000000 from R3.out)
  have AT := Lib.hid (fun A0 n0 c0 A c B w h => at_any A0 n0 c0 A c B ls nm w h (by omega) R3.out (by omega))
  have FD := Lib.hid (fun A c B w h => find05_any A c B ls nm w h (by omega) R3.out (by omega))
  rw [atL_find] at AT
  generalize findL ls nm = fl at *
  generalize nameB nm = nb at *
  go_enter Tryd.func4, Tryd.ntmps4
  go_wp2_with fail
  refine AW.out.mono ?_
  rintro e w1 ⟨rfl, hb1⟩
  have B1 := Lib.hid hb1
  clear hb1 AW
  go_wp2_with fail
  refine (FA.out _ (Tab.above HT.out B1.out)).mono ?_
  rintro e w2 ⟨A0, c0, A1, c1, rfl, hb2, ho, hl⟩
  have B2 := Lib.hid ((B1.out.trans (hb2.mono B1.out.size)).alloc (Nat.le_trans B1.out.size hb2.size) (.cells #[.slice A0 ws.length c0, .slice A1 ls.length c1] unitT))
  have Q := Lib.hid (Whole.made w2 unitT #[.slice A0 ws.length c0, .slice A1 ls.length c1] _ rfl)
  have L2 := Lib.hid (World.ownsRow.alloc hl (.cells #[.slice A0 ws.length c0, .slice A1 ls.length c1] unitT))
  clear hb2 ho hl B1
  go_wp2_with fail
  generalize w2.alloc (.cells #[.slice A0 ws.length c0, .slice A1 ls.length c1] unitT) = V at *
  refine (FR.out _).mono ?_
  rintro e w3 ⟨v0, v1, rfl, hb3, ho, hl⟩
  obtain ⟨A2, c2, rfl, hn2⟩ := ho.form
  obtain ⟨A3, c3, rfl⟩ := slice_form hl
  have B3 := Lib.hid (B2.out.trans (hb3.mono B2.out.size))
  have Q3 := Lib.hid (Q.out.below hb3 Q.out.lt)
  have L3 := Lib.hid (ownsRow_below5 L2.out hb3)
  have M3 := Lib.hid hl
  clear hb3 ho hl hn2 B2 Q L2
  have q0 : w3.cell? ⟨w2.heap.size, 0, none⟩ = some (.slice A0 ws.length c0) := Q3.out.cell 0
  have q1 : w3.cell? ⟨w2.heap.size, 1, none⟩ = some (.slice A1 ls.length c1) := Q3.out.cell 1
  have e1 : (nb == nb) = true := by simp
  have e2 : (fl == fl) = true := by simp
  go_wp2_with fail
  refine (NA.out _).mono ?_
  rintro e w4 ⟨rfl, rfl⟩
  go_wp2_with fail
  refine (NB.out _).mono ?_
  rintro e w4 ⟨rfl, rfl⟩
  go_wp2_with fail
  refine (AT.out _ _ _ _ _ _ _ L3.out).mono ?_
  rintro e w4 ⟨rfl, hb4⟩
  have B4 := Lib.hid (B3.out.trans (hb4.mono B3.out.size))
  have M4 := Lib.hid (ownsRow_below5 M3.out hb4)
  clear hb4 B3 Q3 L3 M3 q0 q1
  go_wp2_with fail
  refine (FD.out _ _ _ _ M4.out).mono ?_
  rintro e w5 ⟨rfl, rfl⟩
  go_wp2_with fail
  go_ret
  exact ⟨rfl, B4.out⟩
end Go.Proofs.YtnmpamfgkidmiaaDoor

/- A row's proof that keeps what the world's shape gives: a variable of the library's own holds some number. -/
namespace Go.Proofs.YtnmpamfgkidmiaaDoor
open Go.ChangeShapes Go.WideShapes Go.ChangeAt Go.RowKit
set_option linter.unusedVariables false
variable {H : Type} {enc : TypeId × Value → H}

/-- A law's row, its condition X on the first world, and that world's shape. -/
theorem law_shaped {C : Checked} {os : Os} {f : FuncId} {fn : Func} {s : ChangeSpec} {X : World → Array Value → Prop} (hX : ∀ w w' args, World.heap w = World.heap w' → X w args → X w' args) (own : ownKnob C.prog.godebug = none) (started : os.Started) (noInit : C.prog.inits.idxOf? f = none) (hfn : C.prog.funcs[f]? = some fn)
    (witness : ∃ w tape i, World.os w = os ∧ (w.forCall tape i).Shaped C.prog ∧ i.vars = [] ∧ Input.okWide C.prog (w.forCall tape i) .any w.heap.size f i ∧ ((s.pre enc C.prog fn [] false (w.forCall tape i).memory i.args ∧ X (w.forCall tape i).memory i.args) ∧ sizedMet enc C.prog fn (OpenSpec.ofChange s) false (w.forCall tape i).memory i.args) ∧ ({} : Assume).holds C.prog (lone (Frame.enter C.prog f i.args .normal) [] (w.forCall tape i)))
    (law : ∀ W base args ds gs before, (∀ (j : Nat) t v, fn.params[j]? = some t → args[j]? = some v → Value.okWide C.prog W .any base t v) → DataW.Whole enc C.prog fn.params.toList s.vars false W args.toList ds gs before → X W args → W.ShapedOpen C.prog → Calls C.prog f args W fun e W' => ∃ v, e = .returned v ∧ s.post enc C.prog fn false true false false W args v W') :
    ReturnsInHanded {} C os f .any (fun w args => (s.pre enc C.prog fn [] false w args ∧ X w args) ∧ sizedMet enc C.prog fn (OpenSpec.ofChange s) false w args) (s.post enc C.prog fn false true false false) := by
  refine returnsInHanded_of_calls own started noInit witness ?_
  rintro w tape i - hsh - ⟨_, _, _, fn2, hfn2, _, _, _, _, hval⟩ ⟨⟨⟨ds, gs, before, hw, hc⟩, hx⟩, hz⟩ -
  obtain rfl : fn2 = fn := Option.some.inj (hfn2.symm.trans hfn)
  refine (law (w.forCall tape i) w.heap.size i.args ds gs before hval (hw.of_heap (by rfl)) (hX _ _ _ (by rfl) hx) hsh).mono ?_
  rintro e W' ⟨v, rfl, hp⟩
  exact ChangeSpec.post_blind hp
end Go.Proofs.YtnmpamfgkidmiaaDoor
