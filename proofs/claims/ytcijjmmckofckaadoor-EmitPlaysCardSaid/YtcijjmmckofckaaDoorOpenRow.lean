/- A slice that came in, its elements opened by a lemma of one, and a bound on all weights handed down. Over any program. -/
import Derived.Test.YtcijjmmckofckaaDoorRowLib
import Derived.Deep.Slices
import Derived.SizedLaws
namespace Go.Proofs.YtcijjmmckofckaaDoor
open Go.ChangeShapes Go.WideShapes Go.ChangeAt Go.RowKit
set_option linter.unusedVariables false
set_option linter.unusedSimpArgs false

section
variable {H : Type} {enc : TypeId × Value → H} {w : World}

theorem weights_part {P : Program} {t : TypeId} {fs : Array Field} {parts : List (DataW H)} {R : Nat} (ht : P.underlying t = some (.struct fs)) (hz : ∀ k ∈ (DataW.agg parts).weights P t, k ≤ R) {i : Nat} {f : Field} {d : DataW H} (hf : fs[i]? = some f) (hd : parts[i]? = some d) : ∀ k ∈ d.weights P f.type, k ≤ R := by
  intro k hk
  refine hz k ?_
  simp only [DataW.weights, ht]
  exact DataW.weights_mem_each (j := i) (t := f.type) (by rw [List.getElem?_map, Array.getElem?_toList, hf]; rfl) hd k hk

theorem weights_elem {P : Program} {e : TypeId} : ∀ {l : List (DataW H)} {d : DataW H}, d ∈ l → ∀ n ∈ d.weights P e, n ∈ DataW.weightsAll P e l
  | [], _, h, _, _ => by cases h
  | x :: l, d, h, n, hn => by
    simp only [DataW.weightsAll, List.mem_append]
    rcases List.mem_cons.1 h with rfl | h
    · exact .inl hn
    · exact .inr (weights_elem h n hn)

/-- A slice that came in, its elements each opened by one. -/
theorem open_row {P : Program} {X : Type} [Inhabited X] {R sz : Nat} {t e : TypeId} {fuel : Nat} {cs : List Value} {x : DataW H × List MemPlace} {f : X → List Value} {Good : X → Prop}
    (ht : P.underlying t = some (.slice e)) (hsz : ∀ o, (f o).length = sz) (hce : P.cellsOf e = sz) (h1 : 0 < sz)
    (one : ∀ n cs' y, DataW.trod enc P w 0 (fun _ => true) true n e cs' = some y → (∀ k ∈ y.1.weights P e, k ≤ R) → ∃ o : X, cs' = f o ∧ Good o)
    (h : DataW.trod enc P w 0 (fun _ => true) true fuel t cs = some x) (hz : ∀ k ∈ x.1.weights P t, k ≤ R) :
    ∃ A l c, cs = [.slice A l.length c] ∧ (A = none → c = 0 ∧ l = []) ∧ l.length ≤ maxLen ∧ l.length * P.bytesOf e ≤ R ∧ (∀ o ∈ l, Good o) ∧
      (l ≠ [] → ∃ b off, A = some ⟨b, off, none⟩ ∧ b < w.heap.size ∧ ∀ j u, (l.flatMap f)[j]? = some u → w.cell? ⟨b, off + j, none⟩ = some u) := by
  rcases Go.Deep.open_slice ht h with ⟨hcs, hx⟩ | ⟨a, len, cap, m, k, D, Pl, hcs, hb, hl, hm, hmm, hx, hcell⟩
  · exact ⟨none, [], 0, hcs, fun _ => ⟨rfl, rfl⟩, Nat.zero_le _, (by simp), (fun o h => (List.not_mem_nil h).elim), fun h => absurd rfl h⟩
  · simp only [if_true] at hmm
    subst hmm
    have hd1 : x.1 = .slice ((List.range len).map D) ((List.range (m - len)).map fun j => D (len + j)) := congrArg Prod.fst hx
    rw [hd1] at hz
    simp only [DataW.weights, ht, List.mem_cons, List.mem_append] at hz
    have hbytes := hz _ (.inl rfl)
    have each : ∀ i, i < len → ∃ o : X, (∃ cs', w.cells? 0 (a.add (i * sz)) sz = some cs' ∧ cs' = f o) ∧ Good o := by
      intro i hi
      obtain ⟨cs', h2, h3⟩ := hcell i (by omega)
      rw [hce] at h2
      obtain ⟨o, ho, hg⟩ := one _ _ _ h3 (fun k hk => hz k (.inr (.inl (weights_elem (List.mem_map.2 ⟨i, List.mem_range.2 hi, rfl⟩) k hk))))
      exact ⟨o, ⟨cs', h2, ho⟩, hg⟩
    obtain ⟨g, hg⟩ := Go.Deep.choose_lt each
    have hlen : ((List.range len).map g).length = len := by simp
    refine ⟨some a, (List.range len).map g, m, by rw [hlen]; exact hcs, (fun h => by cases h), by rw [hlen]; omega, ?_, ?_, fun hn => ?_⟩
    · rw [hlen]
      simp only [List.length_map, List.length_range] at hbytes
      exact Nat.le_trans (Nat.mul_le_mul_right _ (by omega)) hbytes
    · intro o ho
      obtain ⟨i, hi, rfl⟩ := List.mem_map.1 ho
      exact (hg i (List.mem_range.1 hi)).2
    · have hpos : 0 < len := by
        rcases Nat.eq_zero_or_pos len with e | e
        · subst e
          exact absurd rfl hn
        · exact e
      have cell : ∀ i r, i < len → r < sz → w.cell? (a.add (i * sz + r)) = (f (g i))[r]? := by
        intro i r hi hr
        obtain ⟨⟨cs', h2, rfl⟩, _⟩ := hg i hi
        obtain ⟨_, _, hc⟩ := World.cells?_some h2
        have := hc r hr
        rw [Go.Deep.add_add] at this
        exact this
      have ⟨u0, hu0⟩ : ∃ u, (f (g 0))[0]? = some u := ⟨_, List.getElem?_eq_getElem (by rw [hsz]; exact h1)⟩
      have c0 := (cell 0 0 hpos h1).trans hu0
      obtain ⟨b, off, spot⟩ := a
      have hspot : spot = none := by simpa [Addr.add] using World.cell?_spot c0
      subst hspot
      refine ⟨b, off, rfl, ?_, fun j u hj => ?_⟩
      · have := block_lt c0
        rwa [Go.WideShapes.add_plain] at this
      · have hjl : j < len * sz := by
          have h3 := (List.getElem?_eq_some_iff.1 hj).1
          have h4 : ∀ l : List X, (l.flatMap f).length = l.length * sz := by
            intro l
            induction l with
            | nil => simp
            | cons y l ih => rw [List.flatMap_cons, List.length_append, hsz, ih, List.length_cons, Nat.add_mul]; omega
          rw [h4, hlen] at h3
          exact h3
        have hi : j / sz < len := Nat.div_lt_of_lt_mul (by rw [Nat.mul_comm]; exact hjl)
        have hr : j % sz < sz := Nat.mod_lt _ h1
        have hd : j / sz * sz + j % sz = j := by rw [Nat.mul_comm]; exact Nat.div_add_mod j sz
        have f0 := flat_at f sz hsz (g 0) ((List.range len).map g) (j / sz) (j % sz) (by rw [hlen]; exact hi) hr
        rw [hd, hj] at f0
        have hgd : ((List.range len).map g).getD (j / sz) (g 0) = g (j / sz) := by
          rw [List.getD_eq_getElem?_getD, List.getElem?_map, List.getElem?_range hi]
          rfl
        rw [hgd] at f0
        have := (cell _ _ hi hr).trans f0.symm
        rw [hd, Go.WideShapes.add_plain] at this
        exact this

theorem size_weight {P : Program} {t : TypeId} {s : ByteArray} {R : Nat} (hz : ∀ k ∈ (DataW.lit (H := H) (.string s.data.toList)).weights P t, k ≤ R) : s.size ≤ R := by
  have := hz s.data.toList.length (by simp [DataW.weights])
  rw [Array.length_toList] at this
  exact this

end
end Go.Proofs.YtcijjmmckofckaaDoor
