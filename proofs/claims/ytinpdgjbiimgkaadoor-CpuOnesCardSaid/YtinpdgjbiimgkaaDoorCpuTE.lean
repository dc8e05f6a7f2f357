/- Regions that draw and hold a call: what a slot holds behind puts; a call of a function with two, or three, arguments. Over any program. -/
import Derived.Test.YtinpdgjbiimgkaaDoorCpuT
namespace Go.Proofs.YtinpdgjbiimgkaaDoor
open Go.ChangeShapes Go.WideShapes Go.ChangeAt Go.RowKit
set_option linter.unusedVariables false

theorem eval_ne {a : Act} {d x : Nat} {v u : Value} (h : x ≠ d) (e : a.eval (.tmp x) = u) : (a.put (some d) v).eval (.tmp x) = u := by
  rw [← e]
  simp [Act.put, Act.eval, Array.getD_eq_getD_getElem?, Ne.symm h]

theorem eval_none {a : Act} {x : Nat} {v u : Value} (e : a.eval (.tmp x) = u) : (a.put none v).eval (.tmp x) = u := e

theorem size_put {a : Act} {d : Nat} {v : Value} {n : Nat} (h : a.tmps.size = n) : (a.put (some d) v).tmps.size = n := by
  rw [← h]
  simp [Act.put]

theorem size_none {a : Act} {v : Value} {n : Nat} (h : a.tmps.size = n) : (a.put none v).tmps.size = n := h

theorem eval_at {a : Act} {d : Nat} {v : Value} {n : Nat} (h : a.tmps.size = n) (hd : d < n) : (a.put (some d) v).eval (.tmp d) = v := by
  subst h
  simp [Act.put, Act.eval, Array.getD_eq_getD_getElem?, hd]

section
variable {P : Program} {ops : Array Oper} {op : Oper} {a : Act} {w : World} {K : Act → World → Prop} {Q : Exit → Act → World → Prop} {fn : Func}

theorem enter_any {f : FuncId} {args : Array Value} {xs : Array Operand} {ts : Array TypeId} (hf : P.funcs[f]? = some fn) (hn : (fn.name == "runtime.NumGoroutine") = false) (hb : fn.body.isNone = false) (ho : op.op = .call { callee := .value (.func f), args := xs, argTypes := ts }) (ha : xs.map a.eval = args) :
    (execOp a.eval op).run P w = Result.ok (Next.enter f args) w := by
  subst ha
  unfold execOp
  have hn2 : fn.name ≠ "runtime.NumGoroutine" := by simpa using hn
  have hb2 : ¬ fn.body = none := fun h => by rw [h] at hb; cases hb
  simp [ho, resolve, Act.eval, Deferred.ofValue, invoke, callFunc, Sem.run_bind, run_program, hf, hn2, hb2]

theorem step_call2 {f : FuncId} {x y : Operand} {ts : Array TypeId} (hf : P.funcs[f]? = some fn) (hn : (fn.name == "runtime.NumGoroutine") = false) (hb : fn.body.isNone = false) (hg : op.guard = none) (ho : op.op = .call { callee := .value (.func f), args := #[x, y], argTypes := ts }) (v1 v2 : Value) (h1 : a.eval x = v1) (h2 : a.eval y = v2)
    {R : Ending → World → Prop} (hc : Calls P f #[v1, v2] w R) (h : ∀ e w', R e w' → ∃ v, e = .returned v ∧ K (a.put op.dst v) w') : Stepped P ops op a w K Q :=
  step_call hg R (enter_any hf hn hb ho (by simp [h1, h2])) hc h

theorem step_call3 {f : FuncId} {x y z : Operand} {ts : Array TypeId} (hf : P.funcs[f]? = some fn) (hn : (fn.name == "runtime.NumGoroutine") = false) (hb : fn.body.isNone = false) (hg : op.guard = none) (ho : op.op = .call { callee := .value (.func f), args := #[x, y, z], argTypes := ts }) (v1 v2 v3 : Value) (h1 : a.eval x = v1) (h2 : a.eval y = v2) (h3 : a.eval z = v3)
    {R : Ending → World → Prop} (hc : Calls P f #[v1, v2, v3] w R) (h : ∀ e w', R e w' → ∃ v, e = .returned v ∧ K (a.put op.dst v) w') : Stepped P ops op a w K Q :=
  step_call hg R (enter_any hf hn hb ho (by simp [h1, h2, h3])) hc h
end
end Go.Proofs.YtinpdgjbiimgkaaDoor
