/- Package cpu and its answers, plain: what a step does. -/
import Derived.Test.YtinpdgjbiimgkaaDoorCpuF
import Derived.Test.YtinpdgjbiimgkaaDoorInstrI
import Derived.Test.YtinpdgjbiimgkaaDoorBitsPlain
namespace Go.Proofs.YtinpdgjbiimgkaaDoor
open Go.ChangeShapes Go.WideShapes Go.ChangeAt Go.RowKit
set_option linter.unusedVariables false

/-- A machine: its processor, what went out, its words. -/
structure St where
  c : Cp
  out : List (Int × Int)
  ws : List Int

/-- What an instruction does to the processor. -/
def execC (e1 e4 : Int) (inp ws : List Int) (op : Int) (a b cc : Nat) (n : Int) (c : Cp) : Cp :=
  if op = 1 then { c with st := 1 }
  else if op = 2 then setC c a (w32 n)
  else if op = 3 then setC c a (w32 (w32 n * 65536))
  else if op = 4 ∨ op = 5 ∨ op = 34 then setC c a (alu op (c.r.getD b 0) (w32 n))
  else if op = 9 then (if c.r.getD cc 0 = 0 then trapC c 3 else setC c a (w32 (dv (wrap32 (c.r.getD b 0)) (wrap32 (c.r.getD cc 0)))))
  else if op = 10 then (if c.r.getD cc 0 = 0 then trapC c 3 else setC c a (w32 (md (wrap32 (c.r.getD b 0)) (wrap32 (c.r.getD cc 0)))))
  else if op = 18 then loadC c a b n e4 ws
  else if op = 19 then storeC c b n e1 e4
  else if op = 20 then (if c.r.getD a 0 = 0 then jumpC c n else passC c)
  else if op = 21 then (if c.r.getD a 0 = 0 then passC c else jumpC c n)
  else if op = 22 then jumpC c n
  else if op = 23 then jumpC { c with r := c.r.set 14 (w32 (c.pc + 4)) } n
  else if op = 24 then { c with pc := c.r.getD a 0 }
  else if op = 25 then { c with r := c.r.set 14 (w32 (c.pc + 4)), pc := c.r.getD a 0 }
  else if op = 26 then (if c.r.getD a 0 < w32 n then passC c else trapC c b)
  else if op = 27 then (if c.r.getD a 0 = 0 then trapC c 2 else passC c)
  else if op = 28 then trapC c (w32 n)
  else if op = 29 then trapC c (c.r.getD a 0)
  else if op = 30 then passC c
  else if op = 31 then (if (inp.length : Int) ≤ c.taken then trapC c 7 else { setC c a (w32 (inp.getD c.taken.toNat 0)) with taken := c.taken + 1 })
  else if op = 32 then (if wrap32 c.li ≤ wrap32 (c.r.getD a 0) then passC c else trapC c 5)
  else if op = 33 then (if n = 0 then setC c a c.epc else if n = 1 then setC c a c.cause else faultC c 20)
  else setC c a (alu op (c.r.getD b 0) (c.r.getD cc 0))

def exec (e1 e4 : Int) (inp : List Int) (op : Int) (a b cc : Nat) (n : Int) (s : St) : St :=
  ⟨execC e1 e4 inp s.ws op a b cc n s.c, if op = 30 then s.out ++ [(n, wrap32 (s.c.r.getD a 0))] else s.out, if op = 19 then storeWs (addrC s.c b n) e1 e4 (s.c.r.getD a 0) s.ws else s.ws⟩

/-- Is a word an instruction? -/
def OkW (x : Int) : Prop := shapeOf (x / 16777216) ≠ -1 ∧ wordOf (x / 16777216) (decA x) (decB x) (decC x) (decN x) = x

instance (x : Int) : Decidable (OkW x) := by unfold OkW; infer_instance

def tick (c : Cp) : Cp := { c with steps := c.steps + 1 }

/-- A step. -/
def stepS (e0 e1 e4 : Int) (inp : List Int) (s : St) : St :=
  if s.c.st = 0 then
    if checkRes s.c.pc e0 = 0 then
      if OkW (readVal s.c.pc e0 s.ws) then
        exec e1 e4 inp (readVal s.c.pc e0 s.ws / 16777216) (decA (readVal s.c.pc e0 s.ws)).toNat (decB (readVal s.c.pc e0 s.ws)).toNat (decC (readVal s.c.pc e0 s.ws)).toNat (decN (readVal s.c.pc e0 s.ws)) { s with c := tick s.c }
      else { s with c := faultC (tick s.c) 21 }
    else { s with c := faultC (tick s.c) (checkRes s.c.pc e0) }
  else s

/-- Of a machine: its numbers are what words are. -/
structure Fine (m : Nat) (inp : List Int) (s : St) : Prop where
  len : s.c.r.length = 16
  ru : ∀ z ∈ s.c.r, U32 z
  pc : U32 s.c.pc
  epc : U32 s.c.epc
  cause : U32 s.c.cause
  ve : U32 s.c.ve
  gu : U32 s.c.gu
  li : U32 s.c.li
  wl : s.ws.length = m
  wu : ∀ z ∈ s.ws, U32 z
  tk : 0 ≤ s.c.taken ∧ s.c.taken ≤ inp.length

theorem u32_w (z : Int) : U32 (w32 z) := by unfold U32 w32; omega

theorem bits_u32 (f : BinOp) (x y : Int) (hf : f = .and ∨ f = .or ∨ f = .xor) : U32 (bits f .u32 x y) := by
  rcases hf with rfl | rfl | rfl
  all_goals
    unfold U32
    show 0 ≤ IntKind.u32.wrap _ ∧ IntKind.u32.wrap _ ≤ 4294967295
    rw [IntKind.wrap_u32]
    omega

theorem alu_u32 (op x y : Int) : U32 (alu op x y) := by
  unfold alu
  repeat' split
  all_goals first
    | exact u32_w _
    | exact bits_u32 _ _ _ (by simp)
    | (unfold U32; omega)

theorem regs_u32 {r : List Int} (h : ∀ z ∈ r, U32 z) (k : Nat) : U32 (r.getD k 0) := wordOfs h k

theorem set_u32 {r : List Int} (h : ∀ z ∈ r, U32 z) (k : Nat) {v : Int} (hv : U32 v) : ∀ z ∈ r.set k v, U32 z := fun z hz => by
  rcases List.mem_or_eq_of_mem_set hz with h1 | rfl
  · exact h z h1
  · exact hv

/-- Of a processor alone. -/
structure FineC (inp : List Int) (c : Cp) : Prop where
  len : c.r.length = 16
  ru : ∀ z ∈ c.r, U32 z
  pc : U32 c.pc
  epc : U32 c.epc
  cause : U32 c.cause
  ve : U32 c.ve
  gu : U32 c.gu
  li : U32 c.li
  tk : 0 ≤ c.taken ∧ c.taken ≤ inp.length

theorem Fine.cp {m : Nat} {inp : List Int} {s : St} (h : Fine m inp s) : FineC inp s.c := ⟨h.len, h.ru, h.pc, h.epc, h.cause, h.ve, h.gu, h.li, h.tk⟩

theorem FineC.fine {m : Nat} {inp : List Int} {s : St} (h : FineC inp s.c) (h1 : s.ws.length = m) (h2 : ∀ z ∈ s.ws, U32 z) : Fine m inp s := ⟨h.len, h.ru, h.pc, h.epc, h.cause, h.ve, h.gu, h.li, h1, h2, h.tk⟩
theorem fine_ite {inp : List Int} {p : Prop} [Decidable p] {x y : Cp} (h1 : p → FineC inp x) (h2 : ¬ p → FineC inp y) : FineC inp (if p then x else y) := by
  by_cases hp : p
  · rw [if_pos hp]
    exact h1 hp
  · rw [if_neg hp]
    exact h2 hp

section
variable {inp : List Int} {c : Cp} (h : FineC inp c)
include h

theorem FineC.fault (e : Int) : FineC inp (faultC c e) := ⟨h.len, h.ru, h.pc, h.epc, h.cause, h.ve, h.gu, h.li, h.tk⟩

theorem FineC.trap {z : Int} (hz : U32 z) : FineC inp (trapC c z) := by
  unfold trapC
  split
  · exact h.fault _
  · exact ⟨h.len, h.ru, h.ve, h.pc, hz, h.ve, h.gu, h.li, h.tk⟩

theorem FineC.pass : FineC inp (passC c) := ⟨h.len, h.ru, u32_w _, h.epc, h.cause, h.ve, h.gu, h.li, h.tk⟩

theorem FineC.setr (k : Nat) {v : Int} (hv : U32 v) : FineC inp { c with r := c.r.set k v } := ⟨by simp [h.len], set_u32 h.ru k hv, h.pc, h.epc, h.cause, h.ve, h.gu, h.li, h.tk⟩

theorem FineC.set (k : Nat) {v : Int} (hv : U32 v) : FineC inp (setC c k v) := (h.setr k hv).pass

theorem FineC.jump (n : Int) : FineC inp (jumpC c n) := ⟨h.len, h.ru, u32_w _, h.epc, h.cause, h.ve, h.gu, h.li, h.tk⟩

theorem FineC.goto {z : Int} (hz : U32 z) : FineC inp { c with pc := z } := ⟨h.len, h.ru, hz, h.epc, h.cause, h.ve, h.gu, h.li, h.tk⟩

theorem FineC.tick : FineC inp (tick c) := ⟨h.len, h.ru, h.pc, h.epc, h.cause, h.ve, h.gu, h.li, h.tk⟩

theorem FineC.exec (e1 e4 : Int) {ws : List Int} (hw : ∀ z ∈ ws, U32 z) (op : Int) (a b cc : Nat) (n : Int) (hb : b < 16) : FineC inp (execC e1 e4 inp ws op a b cc n c) := by
  have hr := regs_u32 h.ru
  unfold execC
  refine fine_ite (fun _ => ?_) (fun _ => ?_)
  · exact ⟨h.len, h.ru, h.pc, h.epc, h.cause, h.ve, h.gu, h.li, h.tk⟩
  refine fine_ite (fun _ => ?_) (fun _ => ?_)
  · exact h.set a (u32_w _)
  refine fine_ite (fun _ => ?_) (fun _ => ?_)
  · exact h.set a (u32_w _)
  refine fine_ite (fun _ => ?_) (fun _ => ?_)
  · exact h.set a (alu_u32 _ _ _)
  refine fine_ite (fun _ => ?_) (fun _ => ?_)
  · refine fine_ite (fun _ => ?_) (fun _ => ?_)
    · exact h.trap (by unfold U32; omega)
    · exact h.set a (u32_w _)
  refine fine_ite (fun _ => ?_) (fun _ => ?_)
  · refine fine_ite (fun _ => ?_) (fun _ => ?_)
    · exact h.trap (by unfold U32; omega)
    · exact h.set a (u32_w _)
  refine fine_ite (fun _ => ?_) (fun _ => ?_)
  · unfold loadC
    refine fine_ite (fun hz => ?_) (fun _ => ?_)
    · refine h.set a ?_
      unfold readVal
      rw [if_pos hz]
      exact wordOfs hw _
    · exact h.fault _
  refine fine_ite (fun _ => ?_) (fun _ => ?_)
  · unfold storeC
    refine fine_ite (fun _ => ?_) (fun _ => ?_)
    · exact h.pass
    · exact h.fault _
  refine fine_ite (fun _ => ?_) (fun _ => ?_)
  · refine fine_ite (fun _ => ?_) (fun _ => ?_)
    · exact h.jump _
    · exact h.pass
  refine fine_ite (fun _ => ?_) (fun _ => ?_)
  · refine fine_ite (fun _ => ?_) (fun _ => ?_)
    · exact h.pass
    · exact h.jump _
  refine fine_ite (fun _ => ?_) (fun _ => ?_)
  · exact h.jump _
  refine fine_ite (fun _ => ?_) (fun _ => ?_)
  · exact (h.setr 14 (u32_w _)).jump _
  refine fine_ite (fun _ => ?_) (fun _ => ?_)
  · exact h.goto (hr a)
  refine fine_ite (fun _ => ?_) (fun _ => ?_)
  · exact (h.setr 14 (u32_w _)).goto (hr a)
  refine fine_ite (fun _ => ?_) (fun _ => ?_)
  · refine fine_ite (fun _ => ?_) (fun _ => ?_)
    · exact h.pass
    · exact h.trap (by unfold U32; omega)
  refine fine_ite (fun _ => ?_) (fun _ => ?_)
  · refine fine_ite (fun _ => ?_) (fun _ => ?_)
    · exact h.trap (by unfold U32; omega)
    · exact h.pass
  refine fine_ite (fun _ => ?_) (fun _ => ?_)
  · exact h.trap (u32_w _)
  refine fine_ite (fun _ => ?_) (fun _ => ?_)
  · exact h.trap (hr a)
  refine fine_ite (fun _ => ?_) (fun _ => ?_)
  · exact h.pass
  refine fine_ite (fun _ => ?_) (fun _ => ?_)
  · refine fine_ite (fun _ => ?_) (fun _ => ?_)
    · exact h.trap (by unfold U32; omega)
    · rename_i hlt
      have g := h.set a (u32_w (inp.getD c.taken.toNat 0))
      have := h.tk
      exact ⟨g.len, g.ru, g.pc, g.epc, g.cause, g.ve, g.gu, g.li, ⟨by show 0 ≤ c.taken + 1; omega, by show c.taken + 1 ≤ inp.length; omega⟩⟩
  refine fine_ite (fun _ => ?_) (fun _ => ?_)
  · refine fine_ite (fun _ => ?_) (fun _ => ?_)
    · exact h.pass
    · exact h.trap (by unfold U32; omega)
  refine fine_ite (fun _ => ?_) (fun _ => ?_)
  · refine fine_ite (fun _ => ?_) (fun _ => ?_)
    · exact h.set a h.epc
    · refine fine_ite (fun _ => ?_) (fun _ => ?_)
      · exact h.set a h.cause
      · exact h.fault _
  exact h.set a (alu_u32 _ _ _)
end

theorem storeWs_len2 (at_ e1 e4 v : Int) (ws : List Int) : (storeWs at_ e1 e4 v ws).length = ws.length := by
  unfold storeWs
  split <;> simp

theorem storeWs_u32' {at_ e1 e4 v : Int} {ws : List Int} (h : ∀ z ∈ ws, U32 z) (hv : U32 v) : ∀ z ∈ storeWs at_ e1 e4 v ws, U32 z := by
  unfold storeWs
  split
  · exact set_u32 h _ hv
  · exact h

theorem dec_regs {x : Int} (h0 : 0 ≤ x) (h1 : x ≤ 4294967295) (h : shapeOf (x / 16777216) ≠ -1) : ∃ a b cc : Nat, a < 16 ∧ b < 16 ∧ cc < 16 ∧ decA x = a ∧ decB x = b ∧ decC x = cc ∧ (decA x).toNat = a ∧ (decB x).toNat = b ∧ (decC x).toNat = cc := by
  obtain ⟨a0, a1, b0, b1, c0, c1, _⟩ := decGood h0 h1 h
  exact ⟨(decA x).toNat, (decB x).toNat, (decC x).toNat, by omega, by omega, by omega, by omega, by omega, by omega, rfl, rfl, rfl⟩

theorem Fine.step {m : Nat} {e0 e1 e4 : Int} {inp : List Int} {s : St} (h : Fine m inp s) : Fine m inp (stepS e0 e1 e4 inp s) := by
  unfold stepS
  split
  · split
    · rename_i hc
      split
      · rename_i hk
        have hx : U32 (readVal s.c.pc e0 s.ws) := by
          unfold readVal
          rw [if_pos hc]
          exact wordOfs h.wu _
        obtain ⟨a, b, cc, ha, hb, hcc, _, _, _, ea, eb, ec⟩ := dec_regs hx.1 hx.2 hk.1
        rw [ea, eb, ec]
        refine FineC.fine (h.cp.tick.exec e1 e4 h.wu _ a b cc _ hb) ?_ ?_
        · unfold exec
          dsimp only
          split
          · rw [storeWs_len2]
            exact h.wl
          · exact h.wl
        · unfold exec
          dsimp only
          split
          · exact storeWs_u32' h.wu (regs_u32 h.ru a)
          · exact h.wu
      · exact FineC.fine (h.cp.tick.fault _) h.wl h.wu
    · exact FineC.fine (h.cp.tick.fault _) h.wl h.wu
  · exact h
end Go.Proofs.YtinpdgjbiimgkaaDoor
