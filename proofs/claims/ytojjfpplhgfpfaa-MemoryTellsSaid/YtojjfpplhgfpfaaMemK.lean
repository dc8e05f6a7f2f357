/- The laws' played: the state that it keeps. -/
import Derived.Test.YtojjfpplhgfpfaaMemJ
namespace Go.Proofs.Ytojjfpplhgfpfaa
open Go.ChangeShapes Go.WideShapes Go.ChangeAt Go.RowKit
set_option linter.unusedVariables false

theorem storeWs_len (at_ e1 e4 v : Int) (ws : List Int) : (storeWs at_ e1 e4 v ws).length = ws.length := by
  unfold storeWs
  split
  · exact List.length_set
  · rfl

theorem storeWs_u32 {at_ e1 e4 v : Int} {ws : List Int} (h : ∀ z ∈ ws, U32 z) (hv : U32 v) : ∀ z ∈ storeWs at_ e1 e4 v ws, U32 z := by
  unfold storeWs
  split
  · intro z hz
    rcases List.mem_or_eq_of_mem_set hz with h1 | rfl
    · exact h z h1
    · exact hv
  · exact h

theorem fillWs_len (at_ : Int) (ws zs : List Int) (ha : 0 ≤ at_) : (fillWs at_ ws zs).length = ws.length := by
  unfold fillWs
  split
  · rename_i h
    refine length_splice _ _ _ ?_
    unfold fillRes at h
    split at h
    · omega
    · split at h <;> omega
  · rfl

theorem fillWs_u32 {at_ : Int} {ws zs : List Int} (h : ∀ z ∈ ws, U32 z) (hz : ∀ z ∈ zs, U32 z) : ∀ z ∈ fillWs at_ ws zs, U32 z := by
  unfold fillWs
  split
  · intro z hm
    unfold splice at hm
    rcases List.mem_append.1 hm with h1 | h1
    · exact h z (List.mem_of_mem_take h1)
    · rcases List.mem_append.1 h1 with h2 | h2
      · exact hz z h2
      · exact h z (List.mem_of_mem_drop h2)
  · exact h

structure St (B g9 g5 : Nat) (e0 e1 e2 e3 e4 : Int) (n : Nat) (w0 wr : World) (p h h2 : Nat) (ws : List Int) : Prop where
  mem : Whole wr p 68 (memCells e0 e1 e2 e3 e4 h n)
  wrd : Whole wr h 22 (words ws)
  ref : Whole wr h2 22 (words ws)
  var : Whole wr g9 32 (memCells e0 e1 e2 e3 e4 h2 n)
  res : Whole wr g5 32 #[.int .u32 0, .int .u32 0, .int .u32 0, .int .u32 0, .int .u32 0, .slice none 0 0]
  len : ws.length = n
  u32 : ∀ z ∈ ws, U32 z
  bp : B ≤ p
  bh : B ≤ h
  b9 : B ≤ g9
  b5 : B ≤ g5
  d1 : p ≠ h
  d2 : h2 ≠ h
  d3 : g9 ≠ h
  d4 : g5 ≠ h
  d5 : p ≠ g9
  d7 : h2 ≠ g9
  d8 : g5 ≠ g9
  d9 : p ≠ g5
  d10 : h2 ≠ g5
  bel : Below B w0 wr

section
variable {B g9 g5 : Nat} {e0 e1 e2 e3 e4 : Int} {n : Nat} {w0 wr w1 : World} {p h h2 : Nat} {ws : List Int}

theorem St.size (S : St B g9 g5 e0 e1 e2 e3 e4 n w0 wr p h h2 ws) : B ≤ wr.heap.size := by
  have := S.var.lt
  have := S.b9
  omega

theorem St.below (S : St B g9 g5 e0 e1 e2 e3 e4 n w0 wr p h h2 ws) (hb : Below wr.heap.size wr w1) : St B g9 g5 e0 e1 e2 e3 e4 n w0 w1 p h h2 ws :=
  ⟨S.mem.below hb S.mem.lt, S.wrd.below hb S.wrd.lt, S.ref.below hb S.ref.lt, S.var.below hb S.var.lt, S.res.below hb S.res.lt, S.len, S.u32, S.bp, S.bh, S.b9, S.b5, S.d1, S.d2, S.d3, S.d4, S.d5, S.d7, S.d8, S.d9, S.d10, S.bel.trans (hb.mono S.size)⟩

theorem St.alloc (S : St B g9 g5 e0 e1 e2 e3 e4 n w0 wr p h h2 ws) (o : Obj) : St B g9 g5 e0 e1 e2 e3 e4 n w0 (wr.alloc o) p h h2 ws := S.below ((Below.refl _ _).alloc (Nat.le_refl _) o)

/-- Behind a store or a fill at both. -/
theorem St.next (S : St B g9 g5 e0 e1 e2 e3 e4 n w0 wr p h h2 ws) {w2 w4 : World} {h2' : Nat} {ws' : List Int} {o : Obj} (hb2 : Below wr.heap.size wr w2) (hR : Whole w2 h2' 22 (words ws')) (hor : h2' = h2 ∨ wr.heap.size ≤ h2')
    (ho : Only h (w2.alloc o) w4) (hW : Whole w4 h 22 (words ws')) (hl : ws'.length = n) (hu : ∀ z ∈ ws', U32 z) :
    St B g9 g5 e0 e1 e2 e3 e4 n w0 ((((((w4.setCell ⟨g9, 0, none⟩ (.int .u32 e0)).setCell ⟨g9, 1, none⟩ (.int .u32 e1)).setCell ⟨g9, 2, none⟩ (.int .u32 e2)).setCell ⟨g9, 3, none⟩ (.int .u32 e3)).setCell ⟨g9, 4, none⟩ (.int .u32 e4)).setCell ⟨g9, 5, none⟩ (.slice (some ⟨h2', 0, none⟩) n n)) p h h2' ws' := by
  have S2 := (S.below hb2).alloc o
  have lh := S.wrd.lt
  have l9 := S.var.lt
  have n2 : h2' ≠ h := by
    rcases hor with rfl | h1
    · exact S.d2
    · omega
  have n9 : h2' ≠ g9 := by
    rcases hor with rfl | h1
    · exact S.d7
    · omega
  have l5 := S.res.lt
  have n10 : h2' ≠ g5 := by
    rcases hor with rfl | h1
    · exact S.d10
    · omega
  have hR4 := (hR.alloc o).only n2 ho
  have hM4 := S2.mem.only S.d1 ho
  have hV4 := S2.var.only S.d3 ho
  have hr4 := S2.res.only S.d4 ho
  have hb4 : Below B w0 w4 := S2.bel.trans (ho.below S.bh S2.size)
  exact ⟨((((((hM4.far (p := ⟨g9, 0, none⟩) S.d5 _).far (p := ⟨g9, 1, none⟩) S.d5 _).far (p := ⟨g9, 2, none⟩) S.d5 _).far (p := ⟨g9, 3, none⟩) S.d5 _).far (p := ⟨g9, 4, none⟩) S.d5 _).far (p := ⟨g9, 5, none⟩) S.d5 _), ((((((hW.far (p := ⟨g9, 0, none⟩) (Ne.symm S.d3) _).far (p := ⟨g9, 1, none⟩) (Ne.symm S.d3) _).far (p := ⟨g9, 2, none⟩) (Ne.symm S.d3) _).far (p := ⟨g9, 3, none⟩) (Ne.symm S.d3) _).far (p := ⟨g9, 4, none⟩) (Ne.symm S.d3) _).far (p := ⟨g9, 5, none⟩) (Ne.symm S.d3) _), ((((((hR4.far (p := ⟨g9, 0, none⟩) n9 _).far (p := ⟨g9, 1, none⟩) n9 _).far (p := ⟨g9, 2, none⟩) n9 _).far (p := ⟨g9, 3, none⟩) n9 _).far (p := ⟨g9, 4, none⟩) n9 _).far (p := ⟨g9, 5, none⟩) n9 _), ((((((hV4.store 0 (.int .u32 e0)).store 1 (.int .u32 e1)).store 2 (.int .u32 e2)).store 3 (.int .u32 e3)).store 4 (.int .u32 e4)).store 5 (.slice (some ⟨h2', 0, none⟩) n n)), ((((((hr4.far (p := ⟨g9, 0, none⟩) S.d8 _).far (p := ⟨g9, 1, none⟩) S.d8 _).far (p := ⟨g9, 2, none⟩) S.d8 _).far (p := ⟨g9, 3, none⟩) S.d8 _).far (p := ⟨g9, 4, none⟩) S.d8 _).far (p := ⟨g9, 5, none⟩) S.d8 _), hl, hu, S.bp, S.bh, S.b9, S.b5, S.d1, n2, S.d3, S.d4, S.d5, n9, S.d8, S.d9, n10, ((((((hb4.setCell (p := ⟨g9, 0, none⟩) S.b9 _).setCell (p := ⟨g9, 1, none⟩) S.b9 _).setCell (p := ⟨g9, 2, none⟩) S.b9 _).setCell (p := ⟨g9, 3, none⟩) S.b9 _).setCell (p := ⟨g9, 4, none⟩) S.b9 _).setCell (p := ⟨g9, 5, none⟩) S.b9 _)⟩

/-- Behind a clone, of which the old memory is then filled. -/
theorem St.cloned (S : St B g9 g5 e0 e1 e2 e3 e4 n w0 wr p h h2 ws) {w2 w4 : World} {p' h' : Nat} {o : Obj} (hb2 : Below wr.heap.size wr w2) (hM : Whole w2 p' 68 (memCells e0 e1 e2 e3 e4 h' n)) (hW : Whole w2 h' 22 (words ws)) (gh : wr.heap.size ≤ h') (gp : wr.heap.size ≤ p') (hne : p' ≠ h')
    (ho : Only h (w2.alloc o) w4) : St B g9 g5 e0 e1 e2 e3 e4 n w0 w4 p' h' h2 ws := by
  have S2 := (S.below hb2).alloc o
  have lh := S.wrd.lt
  have l9 := S.var.lt
  have l2 := S.ref.lt
  have l5 := S.res.lt
  have sz := S.size
  exact ⟨(hM.alloc o).only (by omega) ho, (hW.alloc o).only (by omega) ho, S2.ref.only S.d2 ho, S2.var.only S.d3 ho, S2.res.only S.d4 ho, S.len, S.u32, by omega, by omega, S.b9, S.b5, hne, by omega, by omega, by omega, by omega, S.d7, S.d8, by omega, S.d10, S2.bel.trans (ho.below S.bh S2.size)⟩
end

end Go.Proofs.Ytojjfpplhgfpfaa
