/- Two arrays of five integers, the same: equal. Over any program. -/
import Derived.Test.YtojjfpplhgfpfaaLaid
namespace Go.Proofs.Ytojjfpplhgfpfaa
open Go.ChangeShapes Go.WideShapes Go.ChangeAt Go.RowKit
set_option linter.unusedVariables false

theorem run_part_arr {P : Program} {e : TypeId} {k : IntKind} (he : P.underlying e = some (.int k)) (hq' : (P.info? e).map (·.size) = some 1) (cs : Array Value) (j : Nat) (v : Value) (hc : cs[j]? = some v) (w : World) : (part e cs j).run P w = .ok v w := by
  have hagg : (isAgg e).run P w = .ok false w := by
    unfold isAgg
    simp [Sem.run_bind, run_underlying he]
  obtain ⟨i, hq, hs⟩ := Option.map_eq_some_iff.1 hq'
  simp [sizeOf, typeInfo, hq, hs, part, hagg, hc]

theorem run_equalIn_arr5 {P : Program} {t e : TypeId} {k : IntKind} (ht : P.underlying t = some (.array 5 e)) (he : P.underlying e = some (.int k)) (hq' : (P.info? e).map (·.size) = some 1) (d : Nat) (a0 a1 a2 a3 a4 : Int) (w : World) :
    (Op.equalIn (d + 2) t (.agg #[.int k a0, .int k a1, .int k a2, .int k a3, .int k a4]) (.agg #[.int k a0, .int k a1, .int k a2, .int k a3, .int k a4])).run P w = .ok true w := by
  have p0 := fun w => run_part_arr he hq' #[.int k a0, .int k a1, .int k a2, .int k a3, .int k a4] 0 (.int k a0) rfl w
  have p1 := fun w => run_part_arr he hq' #[.int k a0, .int k a1, .int k a2, .int k a3, .int k a4] 1 (.int k a1) rfl w
  have p2 := fun w => run_part_arr he hq' #[.int k a0, .int k a1, .int k a2, .int k a3, .int k a4] 2 (.int k a2) rfl w
  have p3 := fun w => run_part_arr he hq' #[.int k a0, .int k a1, .int k a2, .int k a3, .int k a4] 3 (.int k a3) rfl w
  have p4 := fun w => run_part_arr he hq' #[.int k a0, .int k a1, .int k a2, .int k a3, .int k a4] 4 (.int k a4) rfl w
  have q : ∀ (a : Int) (w : World), (Op.equalIn (d + 1) e (.int k a) (.int k a)).run P w = .ok true w := fun a w => by
    rw [run_equalIn_int w d e k k a a he]
    simp
  obtain ⟨i, hq, hs⟩ := Option.map_eq_some_iff.1 hq'
  unfold Op.equalIn
  simp [Sem.run_bind, run_underlying ht, sizeOf, typeInfo, hq, hs, Std.Legacy.Range.forIn_eq_forIn_range', Std.Legacy.Range.size, List.range', p0, p1, p2, p3, p4, q]
end Go.Proofs.Ytojjfpplhgfpfaa
