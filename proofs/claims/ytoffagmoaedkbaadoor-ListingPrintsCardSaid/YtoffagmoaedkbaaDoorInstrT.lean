/- Package instr: Text: what the walks lean on. -/
import Derived.Test.YtoffagmoaedkbaaDoorInstrR
import Derived.Test.YtoffagmoaedkbaaDoorShelf
namespace Go.Proofs.YtoffagmoaedkbaaDoor
open Go.ChangeShapes Go.WideShapes Go.ChangeAt Go.RowKit
set_option linter.unusedVariables false

theorem OwnsS.big {e : TypeId} {w : World} {B : Nat} {v : Value} {n : Nat} {zs : List ByteArray} (h : OwnsS e w B v n zs) (h0 : 0 < n) :
    ∃ g cap, v = .slice (some ⟨g, 0, none⟩) n cap ∧ n ≤ cap ∧ g < w.heap.size ∧ ∀ (j : Nat) x, zs[j]? = some x → w.cell? ⟨g, 0 + j, none⟩ = some (.string x) := by
  obtain ⟨A, m, hv, hz⟩ := h.form
  rcases h.2 with ⟨_, hn⟩ | ⟨g, cap, cur, h1, hb, hg, hn, hm, hs, ht⟩
  · omega
  · refine ⟨g, cap, h1, hn, ?_, fun j x hx => ?_⟩
    · rcases Nat.lt_or_ge g w.heap.size with h2 | h2
      · exact h2
      · rw [Array.getElem?_eq_none h2] at hg; cases hg
    · rw [h1] at hv
      injection hv with hA _ _
      obtain ⟨b, off, hA2, _, hc⟩ := hz.2 h0
      rw [hA2] at hA
      injection hA with hA
      injection hA with e1 e2 _
      subst e1 e2
      have hj : j < zs.length := (List.getElem?_eq_some_iff.1 hx).1
      rw [hc j (by have := hz.1; omega)]
      simp [List.getD, hx]

/-- What strings.Join makes of the fields. -/
def joinS (xs : List ByteArray) : ByteArray := ⟨(Lib.join (xs.map (·.data.toList)) (⟨#[44, 32]⟩ : ByteArray).data.toList).toArray⟩

theorem join1 (nm x : ByteArray) : nm ++ ⟨#[32]⟩ ++ joinS [x] = joinUp nm [x] 1 := by
  apply ByteArray.ext
  apply Array.ext'
  simp [joinS, joinUp, Lib.join, List.intercalate]

theorem join2 (nm x y : ByteArray) : nm ++ ⟨#[32]⟩ ++ joinS [x, y] = joinUp nm [x, y] 2 := by
  apply ByteArray.ext
  apply Array.ext'
  simp [joinS, joinUp, Lib.join, List.intercalate]

theorem join3 (nm x y z : ByteArray) : nm ++ ⟨#[32]⟩ ++ joinS [x, y, z] = joinUp nm [x, y, z] 3 := by
  apply ByteArray.ext
  apply Array.ext'
  simp [joinS, joinUp, Lib.join, List.intercalate]

theorem joinS_size {op a b c n : Int} {nm : ByteArray} (hn : nm.size ≤ 5) {k : Nat} (hk : k ≤ 4) (h : nm ++ ⟨#[32]⟩ ++ joinS (fieldTexts op a b c n) = joinUp nm (fieldTexts op a b c n) k) : (joinS (fieldTexts op a b c n)).size ≤ 101 := by
  have h1 := join_small nm (fieldTexts op a b c n) hn (fields_small op a b c n).2 k
  rw [← h] at h1
  simp only [ByteArray.size_append] at h1
  omega

theorem pfx_size (op k : Int) : (pfx op k).size ≤ 1 := by
  have e0 : (⟨#[]⟩ : ByteArray).size = 0 := rfl
  have e1 : (⟨#[114]⟩ : ByteArray).size = 1 := rfl
  unfold pfx
  split <;> omega
end Go.Proofs.YtoffagmoaedkbaaDoor
