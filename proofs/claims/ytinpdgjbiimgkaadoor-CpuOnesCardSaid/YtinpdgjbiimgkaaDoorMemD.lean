/- Package memory: Store, Fill. -/
import Derived.Test.YtinpdgjbiimgkaaDoorMemC
import Derived.Laws.CopyOwn
import Derived.OwnWalk
namespace Go.Proofs.YtinpdgjbiimgkaaDoor
open Go.ChangeShapes Go.WideShapes Go.ChangeAt Go.RowKit
set_option linter.unusedVariables false

/-- Of the blocks that there are only block h turns. -/
structure Only (h : Nat) (w w' : World) : Prop where
  os : w'.os = w.os
  tape : w'.tape = w.tape
  output : w'.output = w.output
  size : w.heap.size ≤ w'.heap.size
  block : ∀ k, k < w.heap.size → k ≠ h → w'.heap[k]? = w.heap[k]?

theorem Only.below {h B : Nat} {w w' : World} (o : Only h w w') (h1 : B ≤ h) (h2 : B ≤ w.heap.size) : Below B w w' := ⟨o.os, o.tape, o.output, o.size, fun k hk => o.block k (by omega) (by omega)⟩

theorem Only.refl (h : Nat) (w : World) : Only h w w := ⟨rfl, rfl, rfl, Nat.le_refl _, fun _ _ _ => rfl⟩

theorem Only.set (w : World) (p : Addr) (u : Value) : Only p.block w (w.setCell p u) := ⟨rfl, rfl, rfl, by simp [World.setCell], fun k _ hk => Below.heap_setCell w p u k hk⟩

theorem Only.of_below {h B : Nat} {w w' : World} (hb : Below w.heap.size w w') : Only h w w' := ⟨hb.os, hb.tape, hb.output, hb.size, fun k hk _ => hb.block k hk⟩

theorem Whole.only {w w' : World} {g h : Nat} {t : TypeId} {cs : Array Value} (hw : Whole w g t cs) (hne : g ≠ h) (o : Only h w w') : Whole w' g t cs := (o.block g hw.lt hne).trans hw

theorem words_set (ws : List Int) (k : Nat) (v : Int) : (words ws).setIfInBounds k (.int .u32 v) = words (ws.set k v) := by
  unfold words
  simp

def storeRes (at_ e1 e4 : Int) : Int := if checkRes at_ e4 ≠ 0 then checkRes at_ e4 else if at_ < e1 then 32 else 0

def storeWs (at_ e1 e4 v : Int) (ws : List Int) : List Int := if storeRes at_ e1 e4 = 0 then ws.set (at_ / 4).toNat v else ws

def StorePost (at_ e1 e4 v : Int) (h : Nat) (ws : List Int) (w : World) (e : Ending) (w' : World) : Prop :=
  e = .returned (.int .i64 (storeRes at_ e1 e4)) ∧ Whole w' h 22 (words (storeWs at_ e1 e4 v ws)) ∧ Only h w w'

set_option maxHeartbeats 4000000 in
theorem store_any (p h n : Nat) (at_ v e1 e4 : Int) (ws : List Int) (w : World) (ha : U32 at_) (hv : U32 v) (h1 : w.cell? ⟨p, 1, none⟩ = some (.int .u32 e1)) (h4 : w.cell? ⟨p, 4, none⟩ = some (.int .u32 e4)) (hs : w.cell? ⟨p, 5, none⟩ = some (.slice (some ⟨h, 0, none⟩) n n)) (hw : Whole w h 22 (words ws)) (hn : ws.length = n) (hl : e4 = 4 * n) :
    Calls Tryd.prog 79 #[.pointer (some ⟨p, 0, none⟩), .int .u32 at_, .int .u32 v] w (StorePost at_ e1 e4 v h ws w) := by
  have C := Lib.hid (check_4 p at_ e4 w ha h4)
  obtain ⟨a0, a1⟩ := ha
  by_cases h0 : checkRes at_ e4 = 0
  · obtain ⟨z0, z1⟩ := checkRes_zero h0
    rw [h0] at C
    by_cases hlt : at_ < e1
    · have d1 : decide (at_ < e1) = true := decide_eq_true hlt
      have R := Lib.hid (show storeRes at_ e1 e4 = 32 by unfold storeRes; rw [if_neg (by simpa using h0), if_pos hlt])
      have RW := Lib.hid (show storeWs at_ e1 e4 v ws = ws by unfold storeWs; rw [R.out]; rfl)
      have HW := Lib.hid hw
      clear hlt h0 hw h4
      unfold StorePost
      go_enter Tryd.func79, Tryd.ntmps79
      go_wp2_with fail
      refine C.out.mono ?_
      rintro e w' ⟨rfl, rfl⟩
      go_wp2_with fail
      go_ret
      exact ⟨by rw [R.out]; rfl, by rw [RW.out]; exact HW.out, Only.refl _ _⟩
    · have d1 : decide (at_ < e1) = false := decide_eq_false hlt
      have R := Lib.hid (show storeRes at_ e1 e4 = 0 by unfold storeRes; rw [if_neg (by simpa using h0), if_neg hlt])
      obtain ⟨k, hk⟩ := Int.eq_ofNat_of_zero_le (show 0 ≤ at_ / 4 by omega)
      have RW := Lib.hid (show storeWs at_ e1 e4 v ws = ws.set k v by unfold storeWs; rw [R.out, if_pos rfl, hk]; rfl)
      have hkn : k < n := by omega
      have c0 := hw.word (k := k) (by omega)
      have f0 : w.frozen? ⟨h, k, none⟩ = false := hw.free k
      have HW := Lib.hid hw
      clear hlt h0 hw h4 hn hl
      unfold StorePost
      go_enter Tryd.func79, Tryd.ntmps79
      go_wp2_with fail
      refine C.out.mono ?_
      rintro e w' ⟨rfl, rfl⟩
      go_wp2_with fail
      go_ret
      refine ⟨by rw [R.out]; rfl, ?_, Only.set _ ⟨h, k, none⟩ _⟩
      rw [RW.out, ← words_set]
      exact HW.out.store k _
  · have R := Lib.hid (show storeRes at_ e1 e4 = checkRes at_ e4 by unfold storeRes; rw [if_pos h0])
    have RW := Lib.hid (show storeWs at_ e1 e4 v ws = ws by unfold storeWs; rw [R.out, if_neg h0])
    have HW := Lib.hid hw
    have hne : (checkRes at_ e4 != 0) = true := by simpa using h0
    clear h0 hw h4
    generalize checkRes at_ e4 = er at *
    unfold StorePost
    go_enter Tryd.func79, Tryd.ntmps79
    go_wp2_with fail
    refine C.out.mono ?_
    rintro e w' ⟨rfl, rfl⟩
    go_wp2_with fail
    go_ret
    exact ⟨by rw [R.out]; rfl, by rw [RW.out]; exact HW.out, Only.refl _ _⟩

def fillRes (at_ : Int) (n m : Nat) : Int := if at_ % 4 ≠ 0 then 30 else if (n : Int) < at_ / 4 + m then 31 else 0

def fillWs (at_ : Int) (ws zs : List Int) : List Int := if fillRes at_ ws.length zs.length = 0 then splice ws (at_ / 4).toNat zs else ws

def MFillPost (at_ : Int) (h : Nat) (ws zs : List Int) (w : World) (e : Ending) (w' : World) : Prop :=
  e = .returned (.int .i64 (fillRes at_ ws.length zs.length)) ∧ Whole w' h 22 (words (fillWs at_ ws zs)) ∧ Only h w w'

theorem Only.setRow (w : World) (g : Nat) (cs : Array Value) : Only g w (w.setRow g cs) := ⟨rfl, rfl, rfl, by simp [World.setRow], fun k _ hk => setRow_other w g k cs hk⟩

theorem Whole.setRow {w : World} {g : Nat} {t : TypeId} {cs : Array Value} (h : Whole w g t cs) (ds : Array Value) : Whole (w.setRow g ds) g t ds := setRow_heap w g cs ds t (0, 0) h

theorem words_splice (ws zs : List Int) (k : Nat) : ((words ws).toList.take k ++ (zs.map (Value.int .u32)) ++ (words ws).toList.drop (k + (zs.map (Value.int .u32)).length)).toArray = words (splice ws k zs) := by
  unfold words splice
  simp

/-- A copy of numbers into words of one's own. -/
theorem run_copy_words {P : Program} {dT sT ty elem : TypeId} (hu : P.underlying dT = some (.slice elem)) (hs : (P.info? elem).map (·.size) = some 1) {t : TypeId} {w : World} {h k m c dLen dCap : Nat} {A : Option Addr} {ws zs : List Int} (hw : Whole w h t (words ws)) (hz : Nums .u32 w A m zs) (h0 : 0 < m) (hfit : k + m ≤ ws.length) (hl : m ≤ dLen) :
    (Builtin.copy_ #[dT, sT] ty #[.slice (some ⟨h, k, none⟩) dLen dCap, .slice A m c]).run P w = .ok (goInt m) (w.setRow h (words (splice ws k zs))) := by
  obtain ⟨hzl, hc⟩ := hz
  obtain ⟨b, off, rfl, hlt, hcell⟩ := hc h0
  have hr := run_copy_row P w dT sT ty elem h k dLen dCap ⟨b, off, none⟩ m c (words ws) t (zs.map (Value.int .u32)) hu hs hw (by rw [List.length_map, hzl]; exact (Nat.min_eq_left hl).symm) (fun j v hj => by
    have hjl : j < zs.length := by
      have := (List.getElem?_eq_some_iff.1 hj).1
      simpa using this
    rw [Go.WideShapes.add_plain, hcell j (by omega)]
    rw [List.getElem?_map, List.getElem?_eq_getElem hjl] at hj
    simp only [Option.map_some, Option.some.injEq] at hj
    rw [← hj]
    simp [List.getD, hjl]) (by rw [words_size]; simp [hzl]; omega) (ints_oneCell .u32 zs)
  rw [words_splice] at hr
  rw [hr]
  simp [hzl]

theorem splice_nil {α : Type} (L : List α) (k : Nat) : splice L k [] = L := by unfold splice; simp

theorem fillPost_of {at_ : Int} {h : Nat} {ws zs ws2 : List Int} {w : World} {r : Int} (h1 : fillRes at_ ws.length zs.length = r) (h2 : fillWs at_ ws zs = ws2) : MFillPost at_ h ws zs w = fun e w' => e = .returned (.int .i64 r) ∧ Whole w' h 22 (words ws2) ∧ Only h w w' := by
  unfold MFillPost
  rw [h1, h2]

set_option maxHeartbeats 4000000 in
theorem mfill_any (p h n : Nat) (at_ : Int) (A : Option Addr) (m c : Nat) (ws zs : List Int) (w : World) (ha : U32 at_) (hs : w.cell? ⟨p, 5, none⟩ = some (.slice (some ⟨h, 0, none⟩) n n)) (hw : Whole w h 22 (words ws)) (hn : ws.length = n) (hn2 : n ≤ 1000000) (hz : Nums .u32 w A m zs) (hm : m ≤ 1000000) :
    Calls Tryd.prog 14 #[.pointer (some ⟨p, 0, none⟩), .int .u32 at_, .slice A m c] w (MFillPost at_ h ws zs w) := by
  obtain ⟨a0, a1⟩ := ha
  have hzl := hz.1
  have HW := Lib.hid hw
  have hL : fillRes at_ ws.length zs.length = fillRes at_ n m := by rw [hn, hzl]
  by_cases h0 : at_ % 4 = 0
  · have d1 : (at_ % 4 != 0) = false := by simpa using h0
    obtain ⟨k, hk⟩ := Int.eq_ofNat_of_zero_le (show 0 ≤ at_ / 4 by omega)
    have hk2 : k ≤ 1073741823 := by omega
    by_cases hp : n < k + m
    · have hR : fillRes at_ n m = 31 := by unfold fillRes; rw [if_neg (by omega), if_pos (by omega)]
      rw [fillPost_of (hL.trans hR) (show fillWs at_ ws zs = ws by unfold fillWs; rw [hL, hR]; rfl)]
      have d2 : decide ((n : Int) - k < m) = true := decide_eq_true (by omega)
      clear hw hp hz h0 hL hR
      go_enter Tryd.func14, Tryd.ntmps14
      go_wp2_with fail
      go_ret
      exact ⟨rfl, HW.out, Only.refl _ _⟩
    · have hR : fillRes at_ n m = 0 := by unfold fillRes; rw [if_neg (by omega), if_neg (by omega)]
      have d2 : decide ((n : Int) - k < m) = false := decide_eq_false (by omega)
      rw [fillPost_of (hL.trans hR) (show fillWs at_ ws zs = splice ws k zs by unfold fillWs; rw [hL, hR, if_pos rfl, hk]; rfl)]
      have hkm : k + m ≤ n := by omega
      clear h0 hp hL hR
      rcases Nat.eq_zero_or_pos m with hm0 | hm0
      · obtain rfl : zs = [] := List.eq_nil_of_length_eq_zero (by omega)
        subst hm0
        rw [splice_nil]
        have hcopy : ∀ (dp : Option Addr) (l1 c1 : Nat), (Builtin.copy_ #[27, 27] 3 #[.slice dp l1 c1, .slice A 0 c]).run Tryd.prog w = .ok (goInt 0) w := fun dp l1 c1 => run_copy_none (P := Tryd.prog) w _ _ _ 22 dp A l1 c1 0 c Tryd.underlying27 (by kernel_rfl) (by simp)
        clear hw hz
        go_enter Tryd.func14, Tryd.ntmps14
        go_wp2_with fail
        all_goals
          go_ret
          exact ⟨rfl, HW.out, Only.refl _ _⟩
      · have hcopy := run_copy_words (P := Tryd.prog) (dT := 27) (sT := 27) (ty := 3) (elem := 22) (dLen := n - k) (dCap := n - k) (c := c) Tryd.underlying27 (by kernel_rfl) hw hz hm0 (by omega : k + m ≤ ws.length) (by omega)
        have hnk : ¬ n = k := by omega
        have O1 := Lib.hid (Only.setRow w h (words (splice ws k zs)))
        have H1 := Lib.hid (hw.setRow (words (splice ws k zs)))
        clear hw hz
        generalize w.setRow h (words (splice ws k zs)) = w1 at *
        go_enter Tryd.func14, Tryd.ntmps14
        go_wp2_with fail
        go_ret
        exact ⟨rfl, H1.out, O1.out⟩
  · have d1 : (at_ % 4 != 0) = true := by simpa using h0
    have hR : fillRes at_ n m = 30 := by unfold fillRes; rw [if_pos h0]
    rw [fillPost_of (hL.trans hR) (show fillWs at_ ws zs = ws by unfold fillWs; rw [hL, hR]; rfl)]
    clear h0 hw hz hL hR
    go_enter Tryd.func14, Tryd.ntmps14
    go_wp2_with fail
    go_ret
    exact ⟨rfl, HW.out, Only.refl _ _⟩
end Go.Proofs.YtinpdgjbiimgkaaDoor
