/- Package cpu: execute: OUT. -/
import Derived.Test.YtinpdgjbiimgkaaDoorCpuB
import Derived.Test.YtinpdgjbiimgkaaDoorCpuO
namespace Go.Proofs.YtinpdgjbiimgkaaDoor
open Go.ChangeShapes Go.WideShapes Go.ChangeAt Go.RowKit
set_option linter.unusedVariables false

/-- The block of what went out, if it has one. -/
def ownList (v : Value) : List Nat := v.ownBlock.toList

theorem mem_own {v : Value} {b : Nat} : b ∈ ownList v ↔ v.ownBlock = some b := by
  unfold ownList
  cases v.ownBlock <;> simp [eq_comm]

/-- What OUT leaves. -/
def OPost (p B : Nat) (c : Cp) (v i : Value) (evs : List (Int × Int)) (w : World) (e : Ending) (w' : World) : Prop :=
  e = .returned (.tuple #[]) ∧ ∃ v', CpuAt w' p 67 c v' i ∧ Outs w' B v' evs ∧ (v'.ownBlock = v.ownBlock ∨ ∃ b, v'.ownBlock = some b ∧ w.heap.size ≤ b) ∧ But (p :: ownList v) w w'

set_option maxHeartbeats 16000000 in
set_option maxRecDepth 100000 in
theorem cexec_30 (p q B a b cc : Nat) (n : Int) (c : Cp) (v i : Value) (evs : List (Int × Int)) (w : World) (ha : a < 16) (hO : Outs w B v evs) (hB : B ≤ w.heap.size) (hlen : evs.length ≤ 900000000) (hvp : v.ownBlock ≠ some p) (hC : CpuAt w p 67 c v i) :
    Calls Tryd.prog 30 #[.pointer (some ⟨p, 0, none⟩), .pointer (some ⟨q, 0, none⟩), .agg #[.int .i64 30, .int .i64 a, .int .i64 b, .int .i64 cc, .int .i64 n]] w (OPost p B (passC c) v i (evs ++ [(n, wrap32 (c.r.getD a 0))]) w) := by
  rw [show wrap32 (c.r.getD a 0) = IntKind.i32.wrap (c.r.getD a 0) by rw [IntKind.wrap_i32, wrap32]]
  have HC := Lib.hid (hC.alloc (.cells #[.int .i64 30, .int .i64 a, .int .i64 b, .int .i64 cc, .int .i64 n] 51))
  have HO := Lib.hid (hO.below ((Below.refl _ _).alloc (Nat.le_refl _) (.cells #[.int .i64 30, .int .i64 a, .int .i64 b, .int .i64 cc, .int .i64 n] 51)))
  have B0 := Lib.hid ((But.refl (p :: ownList v) w).alloc (.cells #[.int .i64 30, .int .i64 a, .int .i64 b, .int .i64 cc, .int .i64 n] 51))
  have K0 := Lib.hid (Whole.made w 51 #[.int .i64 30, .int .i64 a, .int .i64 b, .int .i64 cc, .int .i64 n] _ rfl)
  have hpn : w.heap.size ≠ p := Nat.ne_of_gt hC.lt
  have S := Lib.hid (fun v w hC => cpass_any p c v i w hC)
  have haI : (a : Int) < 16 := by omega
  have PL := Lib.hid hC.lt
  have VS := Lib.hid (show (w.alloc (.cells #[.int .i64 30, .int .i64 a, .int .i64 b, .int .i64 cc, .int .i64 n] 51)).heap.size = w.heap.size + 1 by simp)
  have hBB : B ≤ (w.alloc (.cells #[.int .i64 30, .int .i64 a, .int .i64 b, .int .i64 cc, .int .i64 n] 51)).heap.size := by simp; omega
  obtain ⟨A0, cap0, hv, _⟩ := hO.form
  have VO := Lib.hid hvp
  have HL := Lib.hid hlen
  subst hv
  clear hC hO hB hlen hvp
  unfold OPost CPost at *
  go_enter Tryd.func30, Tryd.ntmps30
  go_wp2_with fail
  generalize w.alloc (.cells #[.int .i64 30, .int .i64 a, .int .i64 b, .int .i64 cc, .int .i64 n] 51) = V at *
  have k1 : V.cell? ⟨w.heap.size, 1, none⟩ = some (.int .i64 a) := K0.out.cell 1
  have k4 : V.cell? ⟨w.heap.size, 4, none⟩ = some (.int .i64 n) := K0.out.cell 4
  have qa := HC.out.reg ha
  have q23 := HC.out.outv
  have BH := Lib.hid hBB
  generalize hra : c.r.getD a 0 = ra at *
  have RA := Lib.hid hra
  clear hra
  have M := (HC.out.alloc (.cells #[.int .i64 n, .int .i32 (IntKind.i32.wrap ra)] 82)).drew
  have m23 : (V.alloc (.cells #[.int .i64 n, .int .i32 (IntKind.i32.wrap ra)] 82)).drew.cell? ⟨p, 23, none⟩ = some (.slice A0 evs.length cap0) := M.outv
  have MO := Lib.hid (HO.out.below ((Below.refl V.heap.size V).alloc (Nat.le_refl _) (.cells #[.int .i64 n, .int .i32 (IntKind.i32.wrap ra)] 82)).drew)
  have MC := Lib.hid M
  have MB := Lib.hid (B0.out.alloc (.cells #[.int .i64 n, .int .i32 (IntKind.i32.wrap ra)] 82)).drew
  have ME := Lib.hid (show Evs (V.alloc (.cells #[.int .i64 n, .int .i32 (IntKind.i32.wrap ra)] 82)).drew (some ⟨V.heap.size, 0, none⟩) 1 [(n, IntKind.i32.wrap ra)] from evs_made V n (IntKind.i32.wrap ra) V.heap.size rfl)
  clear M hBB
  go_region_law (refine step_append_evs rfl (.tmp 117) (.tmp 129) rfl B (.slice A0 evs.length cap0) evs rfl MO.out (some ⟨V.heap.size, 0, none⟩) 1 1 [(n, IntKind.i32.wrap ra)] rfl ME.out (by have := HL.out; omega) (by have := BH.out; simp; omega) ?_; intro v' w' ho hg hal; obtain ⟨A', c', rfl, _⟩ := ho.form; have XB := Lib.hid (MB.out.trans (But.of_grown (L := p :: ownList (.slice A0 evs.length cap0)) hg (fun b hb => List.mem_cons_of_mem _ (mem_own.2 hb)))); have XC := Lib.hid ((But.of_grown (L := ownList (.slice A0 evs.length cap0)) hg (fun b hb => mem_own.2 hb)).cpu MC.out (fun h => VO.out (mem_own.1 h))); have XO := Lib.hid (show Outs w' B (.slice A' (evs.length + 1) c') (evs ++ [(n, IntKind.i32.wrap ra)]) by have h := ho; rwa [List.length_append, List.length_singleton] at h); have XA := Lib.hid (show (Value.slice A' (evs.length + 1) c').ownBlock = (Value.slice A0 evs.length cap0).ownBlock ∨ (Value.slice A' (evs.length + 1) c').ownBlock = some (V.alloc (.cells #[.int .i64 n, .int .i32 (IntKind.i32.wrap ra)] 82)).drew.heap.size by have h := hal; rwa [List.length_append, List.length_singleton] at h); clear hal; have x23 := XC.out.outv; have xf := XC.out.free; clear ho hg)
  all_goals
    have YC := Lib.hid (XC.out.set_o (.slice A' (evs.length + 1) c'))
    have YB := Lib.hid (XB.out.setCell ⟨p, 23, none⟩ (.slice A' (evs.length + 1) c') List.mem_cons_self)
    have hv' : ∀ b, (Value.slice A' (evs.length + 1) c').ownBlock = some b → b ∉ [p] := by
      intro b hb hm
      rw [List.mem_singleton] at hm
      subst hm
      rcases XA.out with h | h
      · exact VO.out (h.symm.trans hb)
      · rw [h] at hb
        have h1 := PL.out
        have h2 := VS.out
        injection hb with hb
        simp at hb
        omega
    have YO := Lib.hid (XO.out.but ((But.refl [p] w').setCell ⟨p, 23, none⟩ (.slice A' (evs.length + 1) c') List.mem_cons_self) hv')
    have HV := Lib.hid hv'
    clear x23 xf XC XB XO hv' MC MB ME MO m23 k1 k4 q23 qa
    generalize w'.setCell ⟨p, 23, none⟩ (.slice A' (evs.length + 1) c') = Y at *
    go_wp2_with fail
    refine (S.out _ _ YC.out).mono ?_
    rintro e w2 ⟨rfl, hc, hb⟩
    go_wp2_with fail
    first | go_end0 | refine bodyPost_ret (results_none rfl _ _ _) rfl ?_
    refine ⟨rfl, _, hc, by rw [RA.out]; exact YO.out.but hb HV.out, ?_, YB.out.trans (hb.mono (fun k hk => by rw [List.mem_singleton] at hk; rw [hk]; exact List.mem_cons_self))⟩
    rcases XA.out with h | h
    · exact .inl h
    · exact .inr ⟨_, h, by have := VS.out; simp; omega⟩
end Go.Proofs.YtinpdgjbiimgkaaDoor
