/- Package cpu: a machine in the memory; execute, any operation. -/
import Derived.Test.YtlmokkopaididaaDoorCpuH0
import Derived.Test.YtlmokkopaididaaDoorCpuH1
import Derived.Test.YtlmokkopaididaaDoorCpuH2
import Derived.Test.YtlmokkopaididaaDoorCpuI
import Derived.Test.YtlmokkopaididaaDoorCpuP
namespace Go.Proofs.YtlmokkopaididaaDoor
open Go.ChangeShapes Go.WideShapes Go.ChangeAt Go.RowKit
set_option linter.unusedVariables false

/-- A machine in the memory: the processor (block p), the memory (blocks q, h), what went out (v), what is put in. -/
structure Mach (w : World) (B p q h m : Nat) (e0 e1 e2 e3 e4 : Int) (v : Value) (A : Option Addr) (mi cap : Nat) (inp : List Int) (s : St) : Prop where
  cpu : CpuAt w p 65 s.c v (.slice A mi cap)
  mem : Whole w q 93 (memCells e0 e1 e2 e3 e4 h m)
  wds : Whole w h 22 (words s.ws)
  outs : Outs w B v s.out
  inps : Nums .i32 w A mi inp
  pq : p ≠ q
  ph : p ≠ h
  qh : q ≠ h
  vp : v.ownBlock ≠ some p
  vq : v.ownBlock ≠ some q
  vh : v.ownBlock ≠ some h
  ia : ∀ b off, A = some ⟨b, off, none⟩ → b ≠ p ∧ b ≠ h ∧ v.ownBlock ≠ some b
  lp : B ≤ p
  lh : B ≤ h
  lw : B ≤ w.heap.size

theorem Nums.but {k : IntKind} {w w' : World} {A : Option Addr} {n : Nat} {zs : List Int} {L : List Nat} (h : Nums k w A n zs) (hb : But L w w') (hne : ∀ b off, A = some ⟨b, off, none⟩ → b ∉ L) : Nums k w' A n zs :=
  ⟨h.1, fun hn => by
    obtain ⟨b, off, rfl, hlt, hc⟩ := h.2 hn
    refine ⟨b, off, rfl, Nat.lt_of_lt_of_le hlt hb.size, fun j hj => ?_⟩
    have e := hb.block b hlt (hne b off rfl)
    have g := hc j hj
    simp only [World.cell?, e] at *
    exact g⟩

section
variable {w w' : World} {B p q h m : Nat} {e0 e1 e2 e3 e4 : Int} {v v' : Value} {A : Option Addr} {mi cap : Nat} {inp : List Int} {s s' : St}

theorem Mach.step_c (M : Mach w B p q h m e0 e1 e2 e3 e4 v A mi cap inp s) {c' : Cp} (hc : CpuAt w' p 65 c' v (.slice A mi cap)) (hb : But [p] w w') (he : s' = ⟨c', s.out, s.ws⟩) : Mach w' B p q h m e0 e1 e2 e3 e4 v A mi cap inp s' := by
  subst he
  exact { cpu := hc, mem := hb.whole M.mem (by simp [Ne.symm M.pq]), wds := hb.whole M.wds (by simp [Ne.symm M.ph]), outs := M.outs.but hb (fun b hv hm => by rw [List.mem_singleton] at hm; subst hm; exact M.vp hv), inps := M.inps.but hb (fun b off ha hm => by rw [List.mem_singleton] at hm; exact (M.ia b off ha).1 hm), pq := M.pq, ph := M.ph, qh := M.qh, vp := M.vp, vq := M.vq, vh := M.vh, ia := M.ia, lp := M.lp, lh := M.lh, lw := Nat.le_trans M.lw hb.size }

theorem Mach.step_s (M : Mach w B p q h m e0 e1 e2 e3 e4 v A mi cap inp s) {c' : Cp} {ws' : List Int} (hc : CpuAt w' p 65 c' v (.slice A mi cap)) (hx : Whole w' h 22 (words ws')) (hb : But [p, h] w w') (he : s' = ⟨c', s.out, ws'⟩) : Mach w' B p q h m e0 e1 e2 e3 e4 v A mi cap inp s' := by
  subst he
  exact { cpu := hc, mem := hb.whole M.mem (by simp [Ne.symm M.pq, M.qh]), wds := hx, outs := M.outs.but hb (fun b hv hm => by simp at hm; rcases hm with rfl | rfl; exact M.vp hv; exact M.vh hv), inps := M.inps.but hb (fun b off ha hm => by simp at hm; rcases hm with rfl | rfl; exact (M.ia _ off ha).1 rfl; exact (M.ia _ off ha).2.1 rfl), pq := M.pq, ph := M.ph, qh := M.qh, vp := M.vp, vq := M.vq, vh := M.vh, ia := M.ia, lp := M.lp, lh := M.lh, lw := Nat.le_trans M.lw hb.size }

/-- The value of what went out: the same block, or a new one. -/
def Newer (w : World) (v v' : Value) : Prop := v'.ownBlock = v.ownBlock ∨ ∃ b, v'.ownBlock = some b ∧ w.heap.size ≤ b

theorem Newer.ne {b : Nat} (hn : Newer w v v') (h : v.ownBlock ≠ some b) (hb : b < w.heap.size) : v'.ownBlock ≠ some b := by
  rcases hn with h1 | ⟨g, h1, h2⟩
  · rw [h1]; exact h
  · rw [h1]; intro e; injection e with e; omega

theorem Mach.inp_lt (M : Mach w B p q h m e0 e1 e2 e3 e4 v A mi cap inp s) {b off : Nat} (ha : A = some ⟨b, off, none⟩) (h0 : 0 < mi) : b < w.heap.size := by
  obtain ⟨b', off', h1, h2, _⟩ := M.inps.2 h0
  rw [ha] at h1
  injection h1 with h1
  injection h1 with h1
  omega

theorem Mach.step_o (M : Mach w B p q h m e0 e1 e2 e3 e4 v A mi cap inp s) (hi : ∀ b off, A = some ⟨b, off, none⟩ → b < w.heap.size) {c' : Cp} {out' : List (Int × Int)} (hc : CpuAt w' p 65 c' v' (.slice A mi cap)) (ho : Outs w' B v' out') (hn : Newer w v v') (hb : But (p :: ownList v) w w') (he : s' = ⟨c', out', s.ws⟩) : Mach w' B p q h m e0 e1 e2 e3 e4 v' A mi cap inp s' := by
  subst he
  have hq : q ∉ p :: ownList v := by
    intro hm
    rcases List.mem_cons.1 hm with h1 | h1
    · exact M.pq h1.symm
    · exact M.vq (mem_own.1 h1)
  have hh : h ∉ p :: ownList v := by
    intro hm
    rcases List.mem_cons.1 hm with h1 | h1
    · exact M.ph h1.symm
    · exact M.vh (mem_own.1 h1)
  exact { cpu := hc, mem := hb.whole M.mem hq, wds := hb.whole M.wds hh, outs := ho, inps := M.inps.but hb (fun b off ha hm => by rcases List.mem_cons.1 hm with h1 | h1; exact (M.ia b off ha).1 h1; exact (M.ia b off ha).2.2 (mem_own.1 h1)), pq := M.pq, ph := M.ph, qh := M.qh, vp := hn.ne M.vp M.cpu.lt, vq := hn.ne M.vq M.mem.lt, vh := hn.ne M.vh M.wds.lt, ia := fun b off ha => ⟨(M.ia b off ha).1, (M.ia b off ha).2.1, hn.ne (M.ia b off ha).2.2 (hi b off ha)⟩, lp := M.lp, lh := M.lh, lw := Nat.le_trans M.lw hb.size }
end

/-- What a call on a machine leaves. -/
def XPost (B p q h m : Nat) (e0 e1 e2 e3 e4 : Int) (v : Value) (A : Option Addr) (mi cap : Nat) (inp : List Int) (s : St) (r : Value) (w : World) (e : Ending) (w' : World) : Prop :=
  e = .returned r ∧ ∃ v', Mach w' B p q h m e0 e1 e2 e3 e4 v' A mi cap inp s ∧ Newer w v v' ∧ But (p :: h :: ownList v) w w'

theorem but_p {w w' : World} {p h : Nat} {v : Value} (hb : But [p] w w') : But (p :: h :: ownList v) w w' := hb.mono (fun k hk => by rw [List.mem_singleton] at hk; rw [hk]; exact List.mem_cons_self)

theorem but_ph {w w' : World} {p h : Nat} {v : Value} (hb : But [p, h] w w') : But (p :: h :: ownList v) w w' := hb.mono (fun k hk => by simp at hk; rcases hk with rfl | rfl <;> simp)

theorem but_po {w w' : World} {p h : Nat} {v : Value} (hb : But (p :: ownList v) w w') : But (p :: h :: ownList v) w w' := hb.mono (fun k hk => by rcases List.mem_cons.1 hk with rfl | h1 <;> simp_all)

set_option maxHeartbeats 8000000 in
theorem cexecute_any (B p q h m : Nat) (e0 e1 e2 e3 e4 : Int) (v : Value) (A : Option Addr) (mi cap : Nat) (inp : List Int) (s : St) (op : Int) (a b cc : Nat) (n : Int) (w : World) (M : Mach w B p q h m e0 e1 e2 e3 e4 v A mi cap inp s) (F : Fine m inp s)
    (hi : ∀ b off, A = some ⟨b, off, none⟩ → b < w.heap.size) (hl : e4 = 4 * m) (hmi : mi ≤ 1000000) (hlen : s.out.length ≤ 900000000) (hui : ∀ z ∈ inp, (Lit.int .i32 z).wf = true)
    (h1 : 1 ≤ op) (h34 : op ≤ 34) (ha : a < 16) (hb : b < 16) (hcc : cc < 16) :
    Calls Tryd.prog 35 #[.pointer (some ⟨p, 0, none⟩), .pointer (some ⟨q, 0, none⟩), .agg #[.int .i64 op, .int .i64 a, .int .i64 b, .int .i64 cc, .int .i64 n]] w (XPost B p q h m e0 e1 e2 e3 e4 v A mi cap inp (exec e1 e4 inp op a b cc n s) (.tuple #[]) w) := by
  have ua := regs_u32 F.ru a
  have ub := regs_u32 F.ru b
  have uc := regs_u32 F.ru cc
  have KC : ∀ {c' : Cp} {e : Ending} {w' : World}, CPost p c' v (.slice A mi cap) w e w' → exec e1 e4 inp op a b cc n s = ⟨c', s.out, s.ws⟩ → XPost B p q h m e0 e1 e2 e3 e4 v A mi cap inp (exec e1 e4 inp op a b cc n s) (.tuple #[]) w e w' := by
    rintro c' e w' ⟨rfl, hc, hbt⟩ he
    exact ⟨rfl, v, M.step_c hc hbt he, .inl rfl, but_p hbt⟩
  have hml := M.inps.1
  rcases (show op = 1 ∨ op = 2 ∨ op = 3 ∨ op = 4 ∨ op = 5 ∨ op = 6 ∨ op = 7 ∨ op = 8 ∨ op = 9 ∨ op = 10 ∨ op = 11 ∨ op = 12 ∨ op = 13 ∨ op = 14 ∨ op = 15 ∨ op = 16 ∨ op = 17 ∨ op = 18 ∨ op = 19 ∨ op = 20 ∨ op = 21 ∨ op = 22 ∨ op = 23 ∨ op = 24 ∨ op = 25 ∨ op = 26 ∨ op = 27 ∨ op = 28 ∨ op = 29 ∨ op = 30 ∨ op = 31 ∨ op = 32 ∨ op = 33 ∨ op = 34 by omega) with rfl | rfl | rfl | rfl | rfl | rfl | rfl | rfl | rfl | rfl | rfl | rfl | rfl | rfl | rfl | rfl | rfl | rfl | rfl | rfl | rfl | rfl | rfl | rfl | rfl | rfl | rfl | rfl | rfl | rfl | rfl | rfl | rfl | rfl
  · exact (cexec_1 p q a b cc n s.c v _ w ha hb hcc ua ub uc  M.cpu).mono (fun e w1 hp => KC hp (by simp [exec, execC, -List.getD_eq_getElem?_getD]))
  · exact (cexec_2 p q a b cc n s.c v _ w ha hb hcc ua ub uc  M.cpu).mono (fun e w1 hp => KC hp (by simp [exec, execC, -List.getD_eq_getElem?_getD]))
  · exact (cexec_3 p q a b cc n s.c v _ w ha hb hcc ua ub uc  M.cpu).mono (fun e w1 hp => KC hp (by simp [exec, execC, -List.getD_eq_getElem?_getD]))
  · exact (cexec_4 p q a b cc n s.c v _ w ha hb hcc ua ub uc  M.cpu).mono (fun e w1 hp => KC hp (by simp [exec, execC, -List.getD_eq_getElem?_getD]))
  · exact (cexec_5 p q a b cc n s.c v _ w ha hb hcc ua ub uc  M.cpu).mono (fun e w1 hp => KC hp (by simp [exec, execC, -List.getD_eq_getElem?_getD]))
  · exact (cexec_6 p q a b cc n s.c v _ w ha hb hcc ua ub uc  M.cpu).mono (fun e w1 hp => KC hp (by simp [exec, execC, -List.getD_eq_getElem?_getD]))
  · exact (cexec_7 p q a b cc n s.c v _ w ha hb hcc ua ub uc  M.cpu).mono (fun e w1 hp => KC hp (by simp [exec, execC, -List.getD_eq_getElem?_getD]))
  · exact (cexec_8 p q a b cc n s.c v _ w ha hb hcc ua ub uc  M.cpu).mono (fun e w1 hp => KC hp (by simp [exec, execC, -List.getD_eq_getElem?_getD]))
  · by_cases hz : s.c.r.getD cc 0 = 0
    · exact (cexec_9_zero p q a b cc n s.c v _ w ha hb hcc ua ub uc hz M.cpu).mono (fun e w1 hp => KC hp (by simp [exec, execC, -List.getD_eq_getElem?_getD, hz]))
    · exact (cexec_9 p q a b cc n s.c v _ w ha hb hcc ua ub uc hz M.cpu).mono (fun e w1 hp => KC hp (by simp [exec, execC, -List.getD_eq_getElem?_getD, hz]))
  · by_cases hz : s.c.r.getD cc 0 = 0
    · exact (cexec_10_zero p q a b cc n s.c v _ w ha hb hcc ua ub uc hz M.cpu).mono (fun e w1 hp => KC hp (by simp [exec, execC, -List.getD_eq_getElem?_getD, hz]))
    · exact (cexec_10 p q a b cc n s.c v _ w ha hb hcc ua ub uc hz M.cpu).mono (fun e w1 hp => KC hp (by simp [exec, execC, -List.getD_eq_getElem?_getD, hz]))
  · exact (cexec_11 p q a b cc n s.c v _ w ha hb hcc ua ub uc  M.cpu).mono (fun e w1 hp => KC hp (by simp [exec, execC, -List.getD_eq_getElem?_getD]))
  · exact (cexec_12 p q a b cc n s.c v _ w ha hb hcc ua ub uc  M.cpu).mono (fun e w1 hp => KC hp (by simp [exec, execC, -List.getD_eq_getElem?_getD]))
  · exact (cexec_13 p q a b cc n s.c v _ w ha hb hcc ua ub uc  M.cpu).mono (fun e w1 hp => KC hp (by simp [exec, execC, -List.getD_eq_getElem?_getD]))
  · exact (cexec_14 p q a b cc n s.c v _ w ha hb hcc ua ub uc  M.cpu).mono (fun e w1 hp => KC hp (by simp [exec, execC, -List.getD_eq_getElem?_getD]))
  · exact (cexec_15 p q a b cc n s.c v _ w ha hb hcc ua ub uc  M.cpu).mono (fun e w1 hp => KC hp (by simp [exec, execC, -List.getD_eq_getElem?_getD]))
  · exact (cexec_16 p q a b cc n s.c v _ w ha hb hcc ua ub uc  M.cpu).mono (fun e w1 hp => KC hp (by simp [exec, execC, -List.getD_eq_getElem?_getD]))
  · exact (cexec_17 p q a b cc n s.c v _ w ha hb hcc ua ub uc  M.cpu).mono (fun e w1 hp => KC hp (by simp [exec, execC, -List.getD_eq_getElem?_getD]))
  · exact (cexec_18 p q a b cc n s.c v _ w ha hb hcc ua ub uc h m e0 e1 e2 e3 e4 s.ws M.mem M.wds F.wl hl F.wu M.cpu).mono (fun e w1 hp => KC hp (by simp [exec, execC, -List.getD_eq_getElem?_getD]))
  · refine (cexec_19 p q a b cc n s.c v _ w ha hb hcc ua ub uc h m e0 e1 e2 e3 e4 s.ws M.mem M.wds F.wl hl F.wu ua M.pq M.ph M.qh M.cpu).mono ?_
    rintro e w1 ⟨rfl, hc, hx, hbt⟩
    exact ⟨rfl, v, M.step_s hc hx hbt (by simp [exec, execC, -List.getD_eq_getElem?_getD]), .inl rfl, but_ph hbt⟩
  · by_cases hz : s.c.r.getD a 0 = 0
    · exact (cexec_20_true p q a b cc n s.c v _ w ha hb hcc ua ub uc (by simp [-List.getD_eq_getElem?_getD, hz]) M.cpu).mono (fun e w1 hp => KC hp (by simp [exec, execC, -List.getD_eq_getElem?_getD, hz]))
    · exact (cexec_20_false p q a b cc n s.c v _ w ha hb hcc ua ub uc (by simp [-List.getD_eq_getElem?_getD, hz]) M.cpu).mono (fun e w1 hp => KC hp (by simp [exec, execC, -List.getD_eq_getElem?_getD, hz]))
  · by_cases hz : s.c.r.getD a 0 = 0
    · exact (cexec_21_false p q a b cc n s.c v _ w ha hb hcc ua ub uc (by simp [-List.getD_eq_getElem?_getD, hz]) M.cpu).mono (fun e w1 hp => KC hp (by simp [exec, execC, -List.getD_eq_getElem?_getD, hz]))
    · exact (cexec_21_true p q a b cc n s.c v _ w ha hb hcc ua ub uc (by simp [-List.getD_eq_getElem?_getD, hz]) M.cpu).mono (fun e w1 hp => KC hp (by simp [exec, execC, -List.getD_eq_getElem?_getD, hz]))
  · exact (cexec_22 p q a b cc n s.c v _ w ha hb hcc ua ub uc  M.cpu).mono (fun e w1 hp => KC hp (by simp [exec, execC, -List.getD_eq_getElem?_getD]))
  · exact (cexec_23 p q a b cc n s.c v _ w ha hb hcc ua ub uc  M.cpu).mono (fun e w1 hp => KC hp (by simp [exec, execC, -List.getD_eq_getElem?_getD]))
  · exact (cexec_24 p q a b cc n s.c v _ w ha hb hcc ua ub uc  M.cpu).mono (fun e w1 hp => KC hp (by simp [exec, execC, -List.getD_eq_getElem?_getD]))
  · exact (cexec_25 p q a b cc n s.c v _ w ha hb hcc ua ub uc  M.cpu).mono (fun e w1 hp => KC hp (by simp [exec, execC, -List.getD_eq_getElem?_getD]))
  · by_cases hz : s.c.r.getD a 0 < w32 n
    · exact (cexec_26_true p q a b cc n s.c v _ w ha hb hcc ua ub uc (decide_eq_true hz) M.cpu).mono (fun e w1 hp => KC hp (by simp [exec, execC, -List.getD_eq_getElem?_getD, hz]))
    · exact (cexec_26_false p q a b cc n s.c v _ w ha hb hcc ua ub uc (decide_eq_false hz) M.cpu).mono (fun e w1 hp => KC hp (by simp [exec, execC, -List.getD_eq_getElem?_getD, hz]))
  · by_cases hz : s.c.r.getD a 0 = 0
    · exact (cexec_27_false p q a b cc n s.c v _ w ha hb hcc ua ub uc (by simp [-List.getD_eq_getElem?_getD, hz]) M.cpu).mono (fun e w1 hp => KC hp (by simp [exec, execC, -List.getD_eq_getElem?_getD, hz]))
    · exact (cexec_27_true p q a b cc n s.c v _ w ha hb hcc ua ub uc (by simp [-List.getD_eq_getElem?_getD, hz]) M.cpu).mono (fun e w1 hp => KC hp (by simp [exec, execC, -List.getD_eq_getElem?_getD, hz]))
  · exact (cexec_28 p q a b cc n s.c v _ w ha hb hcc ua ub uc  M.cpu).mono (fun e w1 hp => KC hp (by simp [exec, execC, -List.getD_eq_getElem?_getD]))
  · exact (cexec_29 p q a b cc n s.c v _ w ha hb hcc ua ub uc  M.cpu).mono (fun e w1 hp => KC hp (by simp [exec, execC, -List.getD_eq_getElem?_getD]))
  · refine (cexec_30 p q B a b cc n s.c v _ s.out w ha M.outs M.lw hlen M.vp M.cpu).mono ?_
    rintro e w1 ⟨rfl, v', hc, ho, hn, hbt⟩
    exact ⟨rfl, v', M.step_o hi hc ho hn hbt (by simp [exec, execC, -List.getD_eq_getElem?_getD]), hn, but_po hbt⟩
  · obtain ⟨k, hk⟩ := Int.eq_ofNat_of_zero_le F.tk.1
    by_cases hz : mi ≤ k
    · exact (cexec_31_none p q a b cc n s.c v _ w ha hb hcc ua ub uc mi cap k A inp hk rfl hmi M.inps hui hz M.cpu).mono (fun e w1 hp => KC hp (by simp [exec, execC, -List.getD_eq_getElem?_getD, hk, hml, hz]))
    · exact (cexec_31_some p q a b cc n s.c v _ w ha hb hcc ua ub uc mi cap k A inp hk rfl hmi M.inps hui (by omega) M.cpu).mono (fun e w1 hp => KC hp (by simp [exec, execC, -List.getD_eq_getElem?_getD, hk, hml, hz]))
  · by_cases hz : wrap32 s.c.li ≤ wrap32 (s.c.r.getD a 0)
    · exact (cexec_32_true p q a b cc n s.c v _ w ha hb hcc ua ub uc (decide_eq_true hz) M.cpu).mono (fun e w1 hp => KC hp (by simp [exec, execC, -List.getD_eq_getElem?_getD, hz]))
    · exact (cexec_32_false p q a b cc n s.c v _ w ha hb hcc ua ub uc (decide_eq_false hz) M.cpu).mono (fun e w1 hp => KC hp (by simp [exec, execC, -List.getD_eq_getElem?_getD, hz]))
  · by_cases hz : n = 0
    · exact (cexec_33_0 p q a b cc n s.c v _ w ha hb hcc ua ub uc hz M.cpu).mono (fun e w1 hp => KC hp (by simp [exec, execC, -List.getD_eq_getElem?_getD, hz]))
    · by_cases hz1 : n = 1
      · exact (cexec_33_1 p q a b cc n s.c v _ w ha hb hcc ua ub uc hz1 M.cpu).mono (fun e w1 hp => KC hp (by simp [exec, execC, -List.getD_eq_getElem?_getD, hz1]))
      · exact (cexec_33_2 p q a b cc n s.c v _ w ha hb hcc ua ub uc (by simpa using hz) (by simpa using hz1) M.cpu).mono (fun e w1 hp => KC hp (by simp [exec, execC, -List.getD_eq_getElem?_getD, hz, hz1]))
  · exact (cexec_34 p q a b cc n s.c v _ w ha hb hcc ua ub uc  M.cpu).mono (fun e w1 hp => KC hp (by simp [exec, execC, -List.getD_eq_getElem?_getD]))
end Go.Proofs.YtlmokkopaididaaDoor
