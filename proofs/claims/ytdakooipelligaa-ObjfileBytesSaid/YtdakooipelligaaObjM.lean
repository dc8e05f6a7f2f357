/- Objfile: Decode of an object's bytes. -/
import Derived.Test.YtdakooipelligaaObjL
import Derived.Test.YtdakooipelligaaObjJ
namespace Go.Proofs.Ytdakooipelligaa
open Go.ChangeShapes Go.WideShapes Go.ChangeAt Go.RowKit
set_option linter.unusedVariables false
set_option linter.unusedSimpArgs false

/-- An object's bytes, as they are read. -/
theorem objB_chain (o : Oj) : objB o = bytesOf 1347371521 ++ ((cntB o.md.size ++ strI o.md) ++ (bytesOf o.key ++ (imsB o.ims ++ (cntI o.code.length ++ (o.code.flatMap bytesOf ++ (cntI o.fxs.length ++ (o.fxs.flatMap fxB ++ (cntI o.sgs.length ++ (o.sgs.flatMap sgB ++ (cntI o.data ++ (cntI o.excs ++ (cntI o.body ++ [])))))))))))) := by
  unfold objB codeB fxsB sgsB
  simp only [List.append_assoc, List.append_nil]

theorem row_nums {w : World} {B c : Nat} {A : Option Addr} {l : List Int} (h : w.ownsRow B u32T 1 (.slice A l.length c) l.length (l.flatMap u32Cells)) : Nums .u32 w A l.length l :=
  nums_of_lst (LstV.own (k := 1) (fun _ => rfl) (by decide) 0 h)

/-- In the middle of an object that is read: the Reader at g, the result's box, the object's box p, the lists that were read. -/
structure OcF (w0 w : World) (g D p : Nat) (zs : List Int) (cs : Array Value) (v2 : Value) (l2 : List Im) (v3 : Value) (l3 : List Int) (v4 : Value) (l4 : List Fx) (v5 : Value) (l5 : List Sg) : Prop where
  B : Below w0.heap.size w0 w
  R : RdAt w g D zs 0
  Q : Whole w w0.heap.size oT #[.string ⟨#[]⟩, .int .u32 0, .slice none 0 0, .slice none 0 0, .slice none 0 0, .slice none 0 0, .int .i64 0, .int .i64 0, .int .i64 0]
  P : Whole w p oT cs
  r2 : w.ownsRow (p + 1) pI 2 v2 l2.length (l2.flatMap imCells)
  r3 : w.ownsRow (p + 1) u32T 1 v3 l3.length (l3.flatMap u32Cells)
  r4 : w.ownsRow (p + 1) fxT 4 v4 l4.length (l4.flatMap fxCells)
  r5 : w.ownsRow (p + 1) sgT 2 v5 l5.length (l5.flatMap sgCells)
  lg : w0.heap.size < g
  lD : w0.heap.size < D
  gp : g < p
  Dp : D < p

section
variable {w0 w w' : World} {g D p : Nat} {zs zs' : List Int} {cs : Array Value} {v2 v3 v4 v5 : Value} {l2 : List Im} {l3 : List Int} {l4 : List Fx} {l5 : List Sg}

theorem row_past {S : Nat → Prop} {e : TypeId} {k n : Nat} {v : Value} {xs : List Value} (h : w.ownsRow (p + 1) e k v n xs) (hk : KeptS S w w') (hS : ∀ b, S b → b ≤ p) : w'.ownsRow (p + 1) e k v n xs :=
  hk.row h (fun b hb hs => by have := (World.ownsRow.lt h b hb).1; have := hS b hs; omega)

theorem OcF.call (h : OcF w0 w g D p zs cs v2 l2 v3 l3 v4 l4 v5 l5) (hr : RdAt w' g D zs' 0) (hk : KeptS (RdS g) w w') : OcF w0 w' g D p zs' cs v2 l2 v3 l3 v4 l4 v5 l5 := by
  have hS : ∀ b, RdS g b → b ≤ p := fun b hs => by have hs : b = g := hs; have := h.gp; omega
  exact ⟨KeptS.below h.B hk h.B.size (fun i hi => by have hi : i = g := hi; have := h.lg; omega), hr, hk.whole h.Q (fun hs => by have hs : w0.heap.size = g := hs; have := h.lg; omega), hk.whole h.P (fun hs => by have hs : p = g := hs; have := h.gp; omega),
    row_past h.r2 hk hS, row_past h.r3 hk hS, row_past h.r4 hk hS, row_past h.r5 hk hS, h.lg, h.lD, h.gp, h.Dp⟩

theorem OcF.put (h : OcF w0 w g D p zs cs v2 l2 v3 l3 v4 l4 v5 l5) (i : Nat) (u : Value) : OcF w0 (w.setCell ⟨p, i, none⟩ u) g D p zs (cs.setIfInBounds i u) v2 l2 v3 l3 v4 l4 v5 l5 := by
  have hk : KeptS (fun b => b = p) w (w.setCell ⟨p, i, none⟩ u) := KeptS.set rfl
  have hS : ∀ b, (fun b => b = p) b → b ≤ p := fun b hs => by have hs : b = p := hs; omega
  exact ⟨h.B.setCell (show w0.heap.size ≤ p by have := h.lg; have := h.gp; omega) _, rdAt_store h.R (by have := h.gp; omega) (by have := h.Dp; omega), h.Q.far (show w0.heap.size ≠ p by have := h.lg; have := h.gp; omega) _, h.P.store i u,
    row_past h.r2 hk hS, row_past h.r3 hk hS, row_past h.r4 hk hS, row_past h.r5 hk hS, h.lg, h.lD, h.gp, h.Dp⟩

theorem OcF.below (h : OcF w0 w g D p zs cs v2 l2 v3 l3 v4 l4 v5 l5) (hb : Below w.heap.size w w') : OcF w0 w' g D p zs cs v2 l2 v3 l3 v4 l4 v5 l5 :=
  ⟨h.B.trans (hb.mono h.B.size), h.R.below hb, h.Q.below hb h.Q.lt, h.P.below hb h.P.lt, row_below h.r2 hb, row_below h.r3 hb, row_below h.r4 hb, row_below h.r5 hb, h.lg, h.lD, h.gp, h.Dp⟩

theorem OcF.set2 (h : OcF w0 w g D p zs cs v2 l2 v3 l3 v4 l4 v5 l5) {v : Value} {l : List Im} {B : Nat} (ho : w.ownsRow B pI 2 v l.length (l.flatMap imCells)) (hB : p < B) : OcF w0 w g D p zs cs v l v3 l3 v4 l4 v5 l5 :=
  ⟨h.B, h.R, h.Q, h.P, row_more ho hB, h.r3, h.r4, h.r5, h.lg, h.lD, h.gp, h.Dp⟩

theorem OcF.set3 (h : OcF w0 w g D p zs cs v2 l2 v3 l3 v4 l4 v5 l5) {v : Value} {l : List Int} {B : Nat} (ho : w.ownsRow B u32T 1 v l.length (l.flatMap u32Cells)) (hB : p < B) : OcF w0 w g D p zs cs v2 l2 v l v4 l4 v5 l5 :=
  ⟨h.B, h.R, h.Q, h.P, h.r2, row_more ho hB, h.r4, h.r5, h.lg, h.lD, h.gp, h.Dp⟩

theorem OcF.set4 (h : OcF w0 w g D p zs cs v2 l2 v3 l3 v4 l4 v5 l5) {v : Value} {l : List Fx} {B : Nat} (ho : w.ownsRow B fxT 4 v l.length (l.flatMap fxCells)) (hB : p < B) : OcF w0 w g D p zs cs v2 l2 v3 l3 v l v5 l5 :=
  ⟨h.B, h.R, h.Q, h.P, h.r2, h.r3, row_more ho hB, h.r5, h.lg, h.lD, h.gp, h.Dp⟩

theorem OcF.set5 (h : OcF w0 w g D p zs cs v2 l2 v3 l3 v4 l4 v5 l5) {v : Value} {l : List Sg} {B : Nat} (ho : w.ownsRow B sgT 2 v l.length (l.flatMap sgCells)) (hB : p < B) : OcF w0 w g D p zs cs v2 l2 v3 l3 v4 l4 v l :=
  ⟨h.B, h.R, h.Q, h.P, h.r2, h.r3, h.r4, row_more ho hB, h.lg, h.lD, h.gp, h.Dp⟩
end

section
variable {w0 w : World} {g D p c2 c3 c4 c5 : Nat} {zs : List Int} {cs : Array Value} {A2 A3 A4 A5 : Option Addr} {l2 : List Im} {l3 : List Int} {l4 : List Fx} {l5 : List Sg}

theorem OcF.v (h : OcF w0 w g D p zs cs (.slice A2 l2.length c2) l2 (.slice A3 l3.length c3) l3 (.slice A4 l4.length c4) l4 (.slice A5 l5.length c5) l5) : OjV w.heap.size w A2 l2 c2 A3 l3 A4 l4 c4 A5 l5 c5 :=
  ⟨ImV.own h.r2, row_nums h.r3, LstV.own (k := 4) (fun _ => rfl) (by decide) zFx h.r4, LstV.own (k := 2) (fun _ => rfl) (by decide) zSg h.r5⟩

/-- The result's box written whole. -/
theorem OcF.row (h : OcF w0 w g D p zs cs (.slice A2 l2.length c2) l2 (.slice A3 l3.length c3) l3 (.slice A4 l4.length c4) l4 (.slice A5 l5.length c5) l5) (us : Array Value) :
    (Whole (w.setRow w0.heap.size us) w0.heap.size oT us ∧ Below w0.heap.size w0 (w.setRow w0.heap.size us)) ∧ OjV (w.setRow w0.heap.size us).heap.size (w.setRow w0.heap.size us) A2 l2 c2 A3 l3 A4 l4 c4 A5 l5 c5 := by
  have hq := h.Q.setRow us
  have hk : KeptS (fun b => b = w0.heap.size) w (w.setRow w0.heap.size us) := KeptS.grown hq.2 (fun b hb => by injection hb with hb; exact hb.symm)
  have hS : ∀ b, (fun b => b = w0.heap.size) b → b ≤ p := fun b hs => by have hs : b = w0.heap.size := hs; have := h.lg; have := h.gp; omega
  exact ⟨⟨hq.1, h.B.grown hq.2 h.B.size (fun k hk => by injection hk with hk; omega)⟩, ImV.own (row_past h.r2 hk hS), row_nums (row_past h.r3 hk hS), LstV.own (k := 4) (fun _ => rfl) (by decide) zFx (row_past h.r4 hk hS), LstV.own (k := 2) (fun _ => rfl) (by decide) zSg (row_past h.r5 hk hS)⟩
end

/-- What Decode leaves. -/
def OdPost (w : World) (md : ByteArray) (key : Int) (im : List Im) (cd : List Int) (fx : List Fx) (sg : List Sg) (dt ex bd : Int) (e : Ending) (w' : World) : Prop :=
  ∃ A2 c2 A3 c3 A4 c4 A5 c5, e = .returned (.tuple #[.agg #[.string md, .int .u32 key, .slice A2 im.length c2, .slice A3 cd.length c3, .slice A4 fx.length c4, .slice A5 sg.length c5, .int .i64 dt, .int .i64 ex, .int .i64 bd], .int .i64 0]) ∧ Below w.heap.size w w' ∧ OjV w'.heap.size w' A2 im c2 A3 cd A4 fx c4 A5 sg c5

set_option maxHeartbeats 16000000 in
set_option maxRecDepth 100000 in
theorem odecode_any (md : ByteArray) (key : Int) (im : List Im) (cd : List Int) (fx : List Fx) (sg : List Sg) (dt ex bd : Int) (A : Option Addr) (c : Nat) (w : World) (hc : checkO ⟨md, key, im, cd, fx, sg, dt, ex, bd⟩ = 0) (ok : OjOk ⟨md, key, im, cd, fx, sg, dt, ex, bd⟩) (hz : Nums .u8 w A (objB ⟨md, key, im, cd, fx, sg, dt, ex, bd⟩).length (objB ⟨md, key, im, cd, fx, sg, dt, ex, bd⟩)) (hb : Byt (objB ⟨md, key, im, cd, fx, sg, dt, ex, bd⟩)) (hl : (objB ⟨md, key, im, cd, fx, sg, dt, ex, bd⟩).length ≤ 100000) :
    Calls Try.prog 11 #[.slice A (objB ⟨md, key, im, cd, fx, sg, dt, ex, bd⟩).length c] w fun e w' => OdPost w md key im cd fx sg dt ex bd e w' := by
  have UL := Lib.hid (show ∀ e w', OdPost w md key im cd fx sg dt ex bd e w' = (∃ A2 c2 A3 c3 A4 c4 A5 c5, e = .returned (.tuple #[.agg #[.string md, .int .u32 key, .slice A2 im.length c2, .slice A3 cd.length c3, .slice A4 fx.length c4, .slice A5 sg.length c5, .int .i64 dt, .int .i64 ex, .int .i64 bd], .int .i64 0]) ∧ Below w.heap.size w w' ∧ OjV w'.heap.size w' A2 im c2 A3 cd A4 fx c4 A5 sg c5) from fun _ _ => rfl)
  have FT := Lib.hid (checkO_fit hc ok)
  have hn : OjN md im cd fx sg := by
    have a1 := FT.out.md.2.2
    have a2 := FT.out.in64
    have a3 := FT.out.n1
    have a4 := FT.out.n2
    have a5 := FT.out.n3
    simp only at a1 a2 a3 a4 a5
    exact ⟨by omega, by omega, fun x hx => by have := (FT.out.ims x hx).1; omega, by omega, by omega, by omega⟩
  have CH := Lib.hid (fun A2 c2 A3 c3 A4 c4 A5 c5 W (hv : OjV W.heap.size W A2 im c2 A3 cd A4 fx c4 A5 sg c5) => ocheck_any md key A2 im c2 A3 cd c3 A4 fx c4 A5 sg c5 dt ex bd W.heap.size W hv hn)
  rw [hc] at CH
  have CE := objB_chain ⟨md, key, im, cd, fx, sg, dt, ex, bd⟩
  simp only at CE
  rw [CE] at hz hb hl ⊢
  have k0 : BOk (bytesOf 1347371521 ++ ((cntB md.size ++ strI md) ++ (bytesOf key ++ (imsB im ++ (cntI cd.length ++ (cd.flatMap bytesOf ++ (cntI fx.length ++ (fx.flatMap fxB ++ (cntI sg.length ++ (sg.flatMap sgB ++ (cntI dt ++ (cntI ex ++ (cntI bd ++ []))))))))))))) := ⟨hb, hl⟩
  have kA : BOk ((cntB md.size ++ strI md) ++ (bytesOf key ++ (imsB im ++ (cntI cd.length ++ (cd.flatMap bytesOf ++ (cntI fx.length ++ (fx.flatMap fxB ++ (cntI sg.length ++ (sg.flatMap sgB ++ (cntI dt ++ (cntI ex ++ (cntI bd ++ [])))))))))))) := k0.right
  have kB : BOk (bytesOf key ++ (imsB im ++ (cntI cd.length ++ (cd.flatMap bytesOf ++ (cntI fx.length ++ (fx.flatMap fxB ++ (cntI sg.length ++ (sg.flatMap sgB ++ (cntI dt ++ (cntI ex ++ (cntI bd ++ []))))))))))) := kA.right
  have kC : BOk (imsB im ++ (cntI cd.length ++ (cd.flatMap bytesOf ++ (cntI fx.length ++ (fx.flatMap fxB ++ (cntI sg.length ++ (sg.flatMap sgB ++ (cntI dt ++ (cntI ex ++ (cntI bd ++ [])))))))))) := kB.right
  have kD : BOk (cntI cd.length ++ (cd.flatMap bytesOf ++ (cntI fx.length ++ (fx.flatMap fxB ++ (cntI sg.length ++ (sg.flatMap sgB ++ (cntI dt ++ (cntI ex ++ (cntI bd ++ []))))))))) := kC.right
  have kE : BOk (cntI fx.length ++ (fx.flatMap fxB ++ (cntI sg.length ++ (sg.flatMap sgB ++ (cntI dt ++ (cntI ex ++ (cntI bd ++ []))))))) := kD.right.right
  have kF : BOk (cntI sg.length ++ (sg.flatMap sgB ++ (cntI dt ++ (cntI ex ++ (cntI bd ++ []))))) := kE.right.right
  have kG : BOk (cntI dt ++ (cntI ex ++ (cntI bd ++ []))) := kF.right.right
  have kH : BOk (cntI ex ++ (cntI bd ++ [])) := kG.right
  have kI : BOk (cntI bd ++ []) := kH.right
  have f1 := FT.out.n1
  have f2 := FT.out.n2
  have f3 := FT.out.n3
  simp only at f1 f2 f3
  have CW1 := Lib.hid (fun g D W (h : RdAt W g D (bytesOf 1347371521 ++ ((cntB md.size ++ strI md) ++ (bytesOf key ++ (imsB im ++ (cntI cd.length ++ (cd.flatMap bytesOf ++ (cntI fx.length ++ (fx.flatMap fxB ++ (cntI sg.length ++ (sg.flatMap sgB ++ (cntI dt ++ (cntI ex ++ (cntI bd ++ []))))))))))))) 0) => rwd15_any 1347371521 (by decide) ((cntB md.size ++ strI md) ++ (bytesOf key ++ (imsB im ++ (cntI cd.length ++ (cd.flatMap bytesOf ++ (cntI fx.length ++ (fx.flatMap fxB ++ (cntI sg.length ++ (sg.flatMap sgB ++ (cntI dt ++ (cntI ex ++ (cntI bd ++ [])))))))))))) g D W h k0)
  have CT := Lib.hid (fun g D W (h : RdAt W g D ((cntB md.size ++ strI md) ++ (bytesOf key ++ (imsB im ++ (cntI cd.length ++ (cd.flatMap bytesOf ++ (cntI fx.length ++ (fx.flatMap fxB ++ (cntI sg.length ++ (sg.flatMap sgB ++ (cntI dt ++ (cntI ex ++ (cntI bd ++ [])))))))))))) 0) => rtext_any 32 g D ((cntB md.size ++ strI md) ++ (bytesOf key ++ (imsB im ++ (cntI cd.length ++ (cd.flatMap bytesOf ++ (cntI fx.length ++ (fx.flatMap fxB ++ (cntI sg.length ++ (sg.flatMap sgB ++ (cntI dt ++ (cntI ex ++ (cntI bd ++ [])))))))))))) 0 W h (by have := kA.2; omega) kA.1 (by decide))
  rw [show textP ((cntB md.size ++ strI md) ++ (bytesOf key ++ (imsB im ++ (cntI cd.length ++ (cd.flatMap bytesOf ++ (cntI fx.length ++ (fx.flatMap fxB ++ (cntI sg.length ++ (sg.flatMap sgB ++ (cntI dt ++ (cntI ex ++ (cntI bd ++ [])))))))))))) 0 32 = (md, bytesOf key ++ (imsB im ++ (cntI cd.length ++ (cd.flatMap bytesOf ++ (cntI fx.length ++ (fx.flatMap fxB ++ (cntI sg.length ++ (sg.flatMap sgB ++ (cntI dt ++ (cntI ex ++ (cntI bd ++ [])))))))))), 0) from txt_again md 32 _ FT.out.md.2.2 (by decide)] at CT
  have CW2 := Lib.hid (fun g D W (h : RdAt W g D (bytesOf key ++ (imsB im ++ (cntI cd.length ++ (cd.flatMap bytesOf ++ (cntI fx.length ++ (fx.flatMap fxB ++ (cntI sg.length ++ (sg.flatMap sgB ++ (cntI dt ++ (cntI ex ++ (cntI bd ++ []))))))))))) 0) => rwd15_any key ok.1 (imsB im ++ (cntI cd.length ++ (cd.flatMap bytesOf ++ (cntI fx.length ++ (fx.flatMap fxB ++ (cntI sg.length ++ (sg.flatMap sgB ++ (cntI dt ++ (cntI ex ++ (cntI bd ++ [])))))))))) g D W h kB)
  have CI := Lib.hid (fun g D W (h : RdAt W g D (imsB im ++ (cntI cd.length ++ (cd.flatMap bytesOf ++ (cntI fx.length ++ (fx.flatMap fxB ++ (cntI sg.length ++ (sg.flatMap sgB ++ (cntI dt ++ (cntI ex ++ (cntI bd ++ [])))))))))) 0) => iread_any g D (imsB im ++ (cntI cd.length ++ (cd.flatMap bytesOf ++ (cntI fx.length ++ (fx.flatMap fxB ++ (cntI sg.length ++ (sg.flatMap sgB ++ (cntI dt ++ (cntI ex ++ (cntI bd ++ []))))))))), 0) W h kC.rd)
  simp only [RdIms, show rdAllI (imsB im ++ (cntI cd.length ++ (cd.flatMap bytesOf ++ (cntI fx.length ++ (fx.flatMap fxB ++ (cntI sg.length ++ (sg.flatMap sgB ++ (cntI dt ++ (cntI ex ++ (cntI bd ++ []))))))))), 0) = (im, (cntI cd.length ++ (cd.flatMap bytesOf ++ (cntI fx.length ++ (fx.flatMap fxB ++ (cntI sg.length ++ (sg.flatMap sgB ++ (cntI dt ++ (cntI ex ++ (cntI bd ++ [])))))))), 0)) from rdAllI_again FT.out.ims FT.out.in64 _] at CI
  have CC := Lib.hid (fun g D W (h : RdAt W g D (cntI cd.length ++ (cd.flatMap bytesOf ++ (cntI fx.length ++ (fx.flatMap fxB ++ (cntI sg.length ++ (sg.flatMap sgB ++ (cntI dt ++ (cntI ex ++ (cntI bd ++ []))))))))) 0) => rlw15_any cd ok.2.2 f1 (cntI fx.length ++ (fx.flatMap fxB ++ (cntI sg.length ++ (sg.flatMap sgB ++ (cntI dt ++ (cntI ex ++ (cntI bd ++ []))))))) g D W h kD)
  have CF := Lib.hid (fun g D W (h : RdAt W g D (cntI fx.length ++ (fx.flatMap fxB ++ (cntI sg.length ++ (sg.flatMap sgB ++ (cntI dt ++ (cntI ex ++ (cntI bd ++ []))))))) 0) => rlf15_any fx FT.out.fx f2 (cntI sg.length ++ (sg.flatMap sgB ++ (cntI dt ++ (cntI ex ++ (cntI bd ++ []))))) g D W h kE)
  have CS := Lib.hid (fun g D W (h : RdAt W g D (cntI sg.length ++ (sg.flatMap sgB ++ (cntI dt ++ (cntI ex ++ (cntI bd ++ []))))) 0) => rls15_any sg FT.out.sg f3 (cntI dt ++ (cntI ex ++ (cntI bd ++ []))) g D W h kF)
  have C6 := Lib.hid (fun g D W (h : RdAt W g D (cntI dt ++ (cntI ex ++ (cntI bd ++ []))) 0) => rcnt15_any dt 16384 FT.out.dt.1 (by have := FT.out.dt.2; omega) (by decide) (cntI ex ++ (cntI bd ++ [])) g D W h kG)
  have C7 := Lib.hid (fun g D W (h : RdAt W g D (cntI ex ++ (cntI bd ++ [])) 0) => rcnt15_any ex 4096 FT.out.ex.1 (by have := FT.out.ex.2; omega) (by decide) (cntI bd ++ []) g D W h kH)
  have C8 := Lib.hid (fun g D W (h : RdAt W g D (cntI bd ++ []) 0) => rcnt15_any bd 16384 FT.out.bd.1 (by have := FT.out.bd.2; omega) (by decide) [] g D W h kI)
  simp only [RlPost] at CC CF CS
  have B0 := Lib.hid ((Below.refl w.heap.size w).alloc (Nat.le_refl _) (.cells #[.string ⟨#[]⟩, .int .u32 0, .slice none 0 0, .slice none 0 0, .slice none 0 0, .slice none 0 0, .int .i64 0, .int .i64 0, .int .i64 0] oT))
  have Q0 := Lib.hid (Whole.made w oT #[.string ⟨#[]⟩, .int .u32 0, .slice none 0 0, .slice none 0 0, .slice none 0 0, .slice none 0 0, .int .i64 0, .int .i64 0, .int .i64 0] _ rfl)
  have RD := Lib.hid (read_any A (bytesOf 1347371521 ++ ((cntB md.size ++ strI md) ++ (bytesOf key ++ (imsB im ++ (cntI cd.length ++ (cd.flatMap bytesOf ++ (cntI fx.length ++ (fx.flatMap fxB ++ (cntI sg.length ++ (sg.flatMap sgB ++ (cntI dt ++ (cntI ex ++ (cntI bd ++ []))))))))))))).length c (bytesOf 1347371521 ++ ((cntB md.size ++ strI md) ++ (bytesOf key ++ (imsB im ++ (cntI cd.length ++ (cd.flatMap bytesOf ++ (cntI fx.length ++ (fx.flatMap fxB ++ (cntI sg.length ++ (sg.flatMap sgB ++ (cntI dt ++ (cntI ex ++ (cntI bd ++ []))))))))))))) (w.alloc (.cells #[.string ⟨#[]⟩, .int .u32 0, .slice none 0 0, .slice none 0 0, .slice none 0 0, .slice none 0 0, .int .i64 0, .int .i64 0, .int .i64 0] oT)) (hz.below B0.out) (by omega))
  have HZ9 : (Try.prog.info? oT).map (·.size) = some 9 := by kernel_rfl
  clear hc ok hb kA kB kC kD kE kF kG kH kI k0 CE hz FT hn f1 f2 f3 hl
  generalize bytesOf 1347371521 ++ ((cntB md.size ++ strI md) ++ (bytesOf key ++ (imsB im ++ (cntI cd.length ++ (cd.flatMap bytesOf ++ (cntI fx.length ++ (fx.flatMap fxB ++ (cntI sg.length ++ (sg.flatMap sgB ++ (cntI dt ++ (cntI ex ++ (cntI bd ++ [])))))))))))) = q0 at *
  generalize (cntB md.size ++ strI md) ++ (bytesOf key ++ (imsB im ++ (cntI cd.length ++ (cd.flatMap bytesOf ++ (cntI fx.length ++ (fx.flatMap fxB ++ (cntI sg.length ++ (sg.flatMap sgB ++ (cntI dt ++ (cntI ex ++ (cntI bd ++ []))))))))))) = qA at *
  generalize bytesOf key ++ (imsB im ++ (cntI cd.length ++ (cd.flatMap bytesOf ++ (cntI fx.length ++ (fx.flatMap fxB ++ (cntI sg.length ++ (sg.flatMap sgB ++ (cntI dt ++ (cntI ex ++ (cntI bd ++ [])))))))))) = qB at *
  generalize imsB im ++ (cntI cd.length ++ (cd.flatMap bytesOf ++ (cntI fx.length ++ (fx.flatMap fxB ++ (cntI sg.length ++ (sg.flatMap sgB ++ (cntI dt ++ (cntI ex ++ (cntI bd ++ []))))))))) = qC at *
  generalize cntI cd.length ++ (cd.flatMap bytesOf ++ (cntI fx.length ++ (fx.flatMap fxB ++ (cntI sg.length ++ (sg.flatMap sgB ++ (cntI dt ++ (cntI ex ++ (cntI bd ++ [])))))))) = qD at *
  generalize cntI fx.length ++ (fx.flatMap fxB ++ (cntI sg.length ++ (sg.flatMap sgB ++ (cntI dt ++ (cntI ex ++ (cntI bd ++ [])))))) = qE at *
  generalize cntI sg.length ++ (sg.flatMap sgB ++ (cntI dt ++ (cntI ex ++ (cntI bd ++ [])))) = qF at *
  generalize cntI dt ++ (cntI ex ++ (cntI bd ++ [])) = qG at *
  generalize cntI ex ++ (cntI bd ++ []) = qH at *
  generalize cntI bd ++ [] = qI at *
  go_enter Try.func11, Try.ntmps11
  go_wp2_with fail
  refine RD.out.mono ?_
  rintro e w1 ⟨g, D, rfl, hg, hD, hb1, hr1⟩
  have LG := Lib.hid (show w.heap.size < g from Nat.lt_of_lt_of_le Q0.out.lt hg)
  have LD := Lib.hid (show w.heap.size < D from Nat.lt_of_lt_of_le Q0.out.lt hD)
  have Q1 := Lib.hid (Q0.out.below hb1 Q0.out.lt)
  have B1 := Lib.hid (B0.out.trans (hb1.mono B0.out.size))
  have W1 := Lib.hid (CW1.out g D w1 hr1)
  clear hg hD hb1 hr1 Q0 B0 RD CW1
  go_wp2_with fail
  refine W1.out.mono ?_
  rintro e w2 ⟨rfl, hr2, hk2⟩
  have GP := Lib.hid hr2.lt
  have F0 := Lib.hid (show OcF w (w2.alloc (.cells #[.string ⟨#[]⟩, .int .u32 0, .slice none 0 0, .slice none 0 0, .slice none 0 0, .slice none 0 0, .int .i64 0, .int .i64 0, .int .i64 0] oT)) g D w2.heap.size qA #[.string ⟨#[]⟩, .int .u32 0, .slice none 0 0, .slice none 0 0, .slice none 0 0, .slice none 0 0, .int .i64 0, .int .i64 0, .int .i64 0] (.slice none 0 0) [] (.slice none 0 0) [] (.slice none 0 0) [] (.slice none 0 0) [] from
    have b := (Below.refl w2.heap.size w2).alloc (Nat.le_refl _) (.cells #[.string ⟨#[]⟩, .int .u32 0, .slice none 0 0, .slice none 0 0, .slice none 0 0, .slice none 0 0, .int .i64 0, .int .i64 0, .int .i64 0] oT)
    have q := hk2.whole Q1.out (fun hs => by have hs : w.heap.size = g := hs; have := LG.out; omega)
    have bb := KeptS.below B1.out hk2 B1.out.size (fun i hi => by have hi : i = g := hi; have := LG.out; omega)
    ⟨bb.trans (b.mono bb.size), hr2.below b, q.alloc _, Whole.made w2 oT _ _ rfl, row_nil _ _ _ _, row_nil _ _ _ _, row_nil _ _ _ _, row_nil _ _ _ _, LG.out, LD.out, GP.out.1, GP.out.2⟩)
  have T1 := Lib.hid (CT.out g D _ F0.out.R)
  have dm : ((1347371521 : Int) != 1347371521) = false := by decide
  clear hr2 hk2 Q1 B1 W1 CT
  go_wp2_with fail
  generalize hV : w2.alloc (.cells #[.string ⟨#[]⟩, .int .u32 0, .slice none 0 0, .slice none 0 0, .slice none 0 0, .slice none 0 0, .int .i64 0, .int .i64 0, .int .i64 0] oT) = V at *
  clear hV
  generalize w2.heap.size = p at *
  refine T1.out.mono ?_
  rintro e u0 ⟨rfl, hr, hk⟩
  have H0 := Lib.hid (F0.out.call hr hk)
  have F1 := Lib.hid (show OcF w (u0.setCell ⟨p, 0, none⟩ (.string md)) g D p qB #[.string md, .int .u32 0, .slice none 0 0, .slice none 0 0, .slice none 0 0, .slice none 0 0, .int .i64 0, .int .i64 0, .int .i64 0] (.slice none 0 0) [] (.slice none 0 0) [] (.slice none 0 0) [] (.slice none 0 0) [] from H0.out.put 0 (.string md))
  have x0 : u0.cell? ⟨p, 0, none⟩ = some (.string ⟨#[]⟩) := H0.out.P.cell 0
  have f0 : u0.frozen? ⟨p, 0, none⟩ = false := H0.out.P.free 0
  have T2 := Lib.hid (CW2.out g D _ F1.out.R)
  clear hr hk F0 T1 CW2
  go_wp2_with fail
  clear x0 f0 H0
  generalize u0.setCell ⟨p, 0, none⟩ (.string md) = V1 at *
  refine T2.out.mono ?_
  rintro e u1 ⟨rfl, hr, hk⟩
  have H1 := Lib.hid (F1.out.call hr hk)
  have F2 := Lib.hid (show OcF w (u1.setCell ⟨p, 1, none⟩ (.int .u32 key)) g D p qC #[.string md, .int .u32 key, .slice none 0 0, .slice none 0 0, .slice none 0 0, .slice none 0 0, .int .i64 0, .int .i64 0, .int .i64 0] (.slice none 0 0) [] (.slice none 0 0) [] (.slice none 0 0) [] (.slice none 0 0) [] from H1.out.put 1 (.int .u32 key))
  have x1 : u1.cell? ⟨p, 1, none⟩ = some (.int .u32 0) := H1.out.P.cell 1
  have f1 : u1.frozen? ⟨p, 1, none⟩ = false := H1.out.P.free 1
  have T3 := Lib.hid (CI.out g D _ F2.out.R)
  clear hr hk F1 T2 CI
  go_wp2_with fail
  clear x1 f1 H1
  generalize u1.setCell ⟨p, 1, none⟩ (.int .u32 key) = V2 at *
  refine T3.out.mono ?_
  rintro e u2 ⟨v2, rfl, ho, hr, hk⟩
  obtain ⟨A2, c2, rfl⟩ := row_form ho
  have H2 := Lib.hid ((F2.out.call hr hk).set2 ho F2.out.P.lt)
  have F3 := Lib.hid (show OcF w (u2.setCell ⟨p, 2, none⟩ (.slice A2 im.length c2)) g D p qD #[.string md, .int .u32 key, .slice A2 im.length c2, .slice none 0 0, .slice none 0 0, .slice none 0 0, .int .i64 0, .int .i64 0, .int .i64 0] (.slice A2 im.length c2) im (.slice none 0 0) [] (.slice none 0 0) [] (.slice none 0 0) [] from H2.out.put 2 (.slice A2 im.length c2))
  have x2 : u2.cell? ⟨p, 2, none⟩ = some (.slice none 0 0) := H2.out.P.cell 2
  have f2 : u2.frozen? ⟨p, 2, none⟩ = false := H2.out.P.free 2
  have T4 := Lib.hid (CC.out g D _ F3.out.R)
  clear hr hk ho F2 T3 CC
  go_wp2_with fail
  clear x2 f2 H2
  generalize u2.setCell ⟨p, 2, none⟩ (.slice A2 im.length c2) = V3 at *
  refine T4.out.mono ?_
  rintro e u3 ⟨v3, rfl, ho, hr, hk⟩
  obtain ⟨A3, c3, rfl⟩ := row_form ho
  have H3 := Lib.hid ((F3.out.call hr hk).set3 ho F3.out.P.lt)
  have F4 := Lib.hid (show OcF w (u3.setCell ⟨p, 3, none⟩ (.slice A3 cd.length c3)) g D p qE #[.string md, .int .u32 key, .slice A2 im.length c2, .slice A3 cd.length c3, .slice none 0 0, .slice none 0 0, .int .i64 0, .int .i64 0, .int .i64 0] (.slice A2 im.length c2) im (.slice A3 cd.length c3) cd (.slice none 0 0) [] (.slice none 0 0) [] from H3.out.put 3 (.slice A3 cd.length c3))
  have x3 : u3.cell? ⟨p, 3, none⟩ = some (.slice none 0 0) := H3.out.P.cell 3
  have f3 : u3.frozen? ⟨p, 3, none⟩ = false := H3.out.P.free 3
  have T5 := Lib.hid (CF.out g D _ F4.out.R)
  clear hr hk ho F3 T4 CF
  go_wp2_with fail
  clear x3 f3 H3
  generalize u3.setCell ⟨p, 3, none⟩ (.slice A3 cd.length c3) = V4 at *
  refine T5.out.mono ?_
  rintro e u4 ⟨v4, rfl, ho, hr, hk⟩
  obtain ⟨A4, c4, rfl⟩ := row_form ho
  have H4 := Lib.hid ((F4.out.call hr hk).set4 ho F4.out.P.lt)
  have F5 := Lib.hid (show OcF w (u4.setCell ⟨p, 4, none⟩ (.slice A4 fx.length c4)) g D p qF #[.string md, .int .u32 key, .slice A2 im.length c2, .slice A3 cd.length c3, .slice A4 fx.length c4, .slice none 0 0, .int .i64 0, .int .i64 0, .int .i64 0] (.slice A2 im.length c2) im (.slice A3 cd.length c3) cd (.slice A4 fx.length c4) fx (.slice none 0 0) [] from H4.out.put 4 (.slice A4 fx.length c4))
  have x4 : u4.cell? ⟨p, 4, none⟩ = some (.slice none 0 0) := H4.out.P.cell 4
  have f4 : u4.frozen? ⟨p, 4, none⟩ = false := H4.out.P.free 4
  have T6 := Lib.hid (CS.out g D _ F5.out.R)
  clear hr hk ho F4 T5 CS
  go_wp2_with fail
  clear x4 f4 H4
  generalize u4.setCell ⟨p, 4, none⟩ (.slice A4 fx.length c4) = V5 at *
  refine T6.out.mono ?_
  rintro e u5 ⟨v5, rfl, ho, hr, hk⟩
  obtain ⟨A5, c5, rfl⟩ := row_form ho
  have H5 := Lib.hid ((F5.out.call hr hk).set5 ho F5.out.P.lt)
  have F6 := Lib.hid (show OcF w (u5.setCell ⟨p, 5, none⟩ (.slice A5 sg.length c5)) g D p qG #[.string md, .int .u32 key, .slice A2 im.length c2, .slice A3 cd.length c3, .slice A4 fx.length c4, .slice A5 sg.length c5, .int .i64 0, .int .i64 0, .int .i64 0] (.slice A2 im.length c2) im (.slice A3 cd.length c3) cd (.slice A4 fx.length c4) fx (.slice A5 sg.length c5) sg from H5.out.put 5 (.slice A5 sg.length c5))
  have x5 : u5.cell? ⟨p, 5, none⟩ = some (.slice none 0 0) := H5.out.P.cell 5
  have f5 : u5.frozen? ⟨p, 5, none⟩ = false := H5.out.P.free 5
  have T7 := Lib.hid (C6.out g D _ F6.out.R)
  clear hr hk ho F5 T6 C6
  go_wp2_with fail
  clear x5 f5 H5
  generalize u5.setCell ⟨p, 5, none⟩ (.slice A5 sg.length c5) = V6 at *
  refine T7.out.mono ?_
  rintro e u6 ⟨rfl, hr, hk⟩
  have H6 := Lib.hid (F6.out.call hr hk)
  have F7 := Lib.hid (show OcF w (u6.setCell ⟨p, 6, none⟩ (.int .i64 dt)) g D p qH #[.string md, .int .u32 key, .slice A2 im.length c2, .slice A3 cd.length c3, .slice A4 fx.length c4, .slice A5 sg.length c5, .int .i64 dt, .int .i64 0, .int .i64 0] (.slice A2 im.length c2) im (.slice A3 cd.length c3) cd (.slice A4 fx.length c4) fx (.slice A5 sg.length c5) sg from H6.out.put 6 (.int .i64 dt))
  have x6 : u6.cell? ⟨p, 6, none⟩ = some (.int .i64 0) := H6.out.P.cell 6
  have f6 : u6.frozen? ⟨p, 6, none⟩ = false := H6.out.P.free 6
  have T8 := Lib.hid (C7.out g D _ F7.out.R)
  clear hr hk F6 T7 C7
  go_wp2_with fail
  clear x6 f6 H6
  generalize u6.setCell ⟨p, 6, none⟩ (.int .i64 dt) = V7 at *
  refine T8.out.mono ?_
  rintro e u7 ⟨rfl, hr, hk⟩
  have H7 := Lib.hid (F7.out.call hr hk)
  have F8 := Lib.hid (show OcF w (u7.setCell ⟨p, 7, none⟩ (.int .i64 ex)) g D p qI #[.string md, .int .u32 key, .slice A2 im.length c2, .slice A3 cd.length c3, .slice A4 fx.length c4, .slice A5 sg.length c5, .int .i64 dt, .int .i64 ex, .int .i64 0] (.slice A2 im.length c2) im (.slice A3 cd.length c3) cd (.slice A4 fx.length c4) fx (.slice A5 sg.length c5) sg from H7.out.put 7 (.int .i64 ex))
  have x7 : u7.cell? ⟨p, 7, none⟩ = some (.int .i64 0) := H7.out.P.cell 7
  have f7 : u7.frozen? ⟨p, 7, none⟩ = false := H7.out.P.free 7
  have T9 := Lib.hid (C8.out g D _ F8.out.R)
  clear hr hk F7 T8 C8
  go_wp2_with fail
  clear x7 f7 H7
  generalize u7.setCell ⟨p, 7, none⟩ (.int .i64 ex) = V8 at *
  refine T9.out.mono ?_
  rintro e u8 ⟨rfl, hr, hk⟩
  have H8 := Lib.hid (F8.out.call hr hk)
  have F9 := Lib.hid (show OcF w (u8.setCell ⟨p, 8, none⟩ (.int .i64 bd)) g D p [] #[.string md, .int .u32 key, .slice A2 im.length c2, .slice A3 cd.length c3, .slice A4 fx.length c4, .slice A5 sg.length c5, .int .i64 dt, .int .i64 ex, .int .i64 bd] (.slice A2 im.length c2) im (.slice A3 cd.length c3) cd (.slice A4 fx.length c4) fx (.slice A5 sg.length c5) sg from H8.out.put 8 (.int .i64 bd))
  have x8 : u8.cell? ⟨p, 8, none⟩ = some (.int .i64 0) := H8.out.P.cell 8
  have f8 : u8.frozen? ⟨p, 8, none⟩ = false := H8.out.P.free 8
  have EN := Lib.hid (rend_any g D [] 0 _ F9.out.R (by decide))
  rw [if_pos rfl] at EN
  clear hr hk F8 T9
  go_wp2_with fail
  clear x8 f8 H8
  generalize u8.setCell ⟨p, 8, none⟩ (.int .i64 bd) = V9 at *
  refine EN.out.mono ?_
  rintro e w7 ⟨rfl, rfl⟩
  have CC := Lib.hid (CH.out A2 c2 A3 c3 A4 c4 A5 c5 V9 F9.out.v)
  have y0 : V9.cell? ⟨p, 0, none⟩ = some (.string md) := F9.out.P.cell 0
  have y1 : V9.cell? ⟨p, 1, none⟩ = some (.int .u32 key) := F9.out.P.cell 1
  have y2 : V9.cell? ⟨p, 2, none⟩ = some (.slice A2 im.length c2) := F9.out.P.cell 2
  have y3 : V9.cell? ⟨p, 3, none⟩ = some (.slice A3 cd.length c3) := F9.out.P.cell 3
  have y4 : V9.cell? ⟨p, 4, none⟩ = some (.slice A4 fx.length c4) := F9.out.P.cell 4
  have y5 : V9.cell? ⟨p, 5, none⟩ = some (.slice A5 sg.length c5) := F9.out.P.cell 5
  have y6 : V9.cell? ⟨p, 6, none⟩ = some (.int .i64 dt) := F9.out.P.cell 6
  have y7 : V9.cell? ⟨p, 7, none⟩ = some (.int .i64 ex) := F9.out.P.cell 7
  have y8 : V9.cell? ⟨p, 8, none⟩ = some (.int .i64 bd) := F9.out.P.cell 8
  clear EN CH
  go_wp2_with fail
  clear y0 y1 y2 y3 y4 y5 y6 y7 y8
  refine CC.out.mono ?_
  rintro e w8 ⟨rfl, hb8⟩
  have F10 := Lib.hid (F9.out.below hb8)
  have y0 : w8.cell? ⟨p, 0, none⟩ = some (.string md) := F10.out.P.cell 0
  have y1 : w8.cell? ⟨p, 1, none⟩ = some (.int .u32 key) := F10.out.P.cell 1
  have y2 : w8.cell? ⟨p, 2, none⟩ = some (.slice A2 im.length c2) := F10.out.P.cell 2
  have y3 : w8.cell? ⟨p, 3, none⟩ = some (.slice A3 cd.length c3) := F10.out.P.cell 3
  have y4 : w8.cell? ⟨p, 4, none⟩ = some (.slice A4 fx.length c4) := F10.out.P.cell 4
  have y5 : w8.cell? ⟨p, 5, none⟩ = some (.slice A5 sg.length c5) := F10.out.P.cell 5
  have y6 : w8.cell? ⟨p, 6, none⟩ = some (.int .i64 dt) := F10.out.P.cell 6
  have y7 : w8.cell? ⟨p, 7, none⟩ = some (.int .i64 ex) := F10.out.P.cell 7
  have y8 : w8.cell? ⟨p, 8, none⟩ = some (.int .i64 bd) := F10.out.P.cell 8
  clear hb8 F9 CC
  have SR := Lib.hid (F10.out.row #[.string md, .int .u32 key, .slice A2 im.length c2, .slice A3 cd.length c3, .slice A4 fx.length c4, .slice A5 sg.length c5, .int .i64 dt, .int .i64 ex, .int .i64 bd])
  have QW := Lib.hid F10.out.Q
  generalize hZZ : w8.setRow w.heap.size #[.string md, .int .u32 key, .slice A2 im.length c2, .slice A3 cd.length c3, .slice A4 fx.length c4, .slice A5 sg.length c5, .int .i64 dt, .int .i64 ex, .int .i64 bd] = ZZ at *
  have HZZ := Lib.hid hZZ
  clear hZZ F10
  go_wp2_with (refine wpList_store_row rfl oT (.tmp 2) (.tmp 53) rfl w.heap.size #[.string md, .int .u32 key, .slice A2 im.length c2, .slice A3 cd.length c3, .slice A4 fx.length c4, .slice A5 sg.length c5, .int .i64 dt, .int .i64 ex, .int .i64 bd] rfl rfl oT #[.string ⟨#[]⟩, .int .u32 0, .slice none 0 0, .slice none 0 0, .slice none 0 0, .slice none 0 0, .int .i64 0, .int .i64 0, .int .i64 0] QW.out HZ9 rfl (show (#[.string md, .int .u32 key, .slice A2 im.length c2, .slice A3 cd.length c3, .slice A4 fx.length c4, .slice A5 sg.length c5, .int .i64 dt, .int .i64 ex, .int .i64 bd] : Array Value).all (·.oneCell') = true from by simp [Value.oneCell']) ?_; rw [HZZ.out])
  have z0 : ZZ.cell? ⟨w.heap.size, 0, none⟩ = some (.string md) := SR.out.1.1.cell 0
  have z1 : ZZ.cell? ⟨w.heap.size, 1, none⟩ = some (.int .u32 key) := SR.out.1.1.cell 1
  have z2 : ZZ.cell? ⟨w.heap.size, 2, none⟩ = some (.slice A2 im.length c2) := SR.out.1.1.cell 2
  have z3 : ZZ.cell? ⟨w.heap.size, 3, none⟩ = some (.slice A3 cd.length c3) := SR.out.1.1.cell 3
  have z4 : ZZ.cell? ⟨w.heap.size, 4, none⟩ = some (.slice A4 fx.length c4) := SR.out.1.1.cell 4
  have z5 : ZZ.cell? ⟨w.heap.size, 5, none⟩ = some (.slice A5 sg.length c5) := SR.out.1.1.cell 5
  have z6 : ZZ.cell? ⟨w.heap.size, 6, none⟩ = some (.int .i64 dt) := SR.out.1.1.cell 6
  have z7 : ZZ.cell? ⟨w.heap.size, 7, none⟩ = some (.int .i64 ex) := SR.out.1.1.cell 7
  have z8 : ZZ.cell? ⟨w.heap.size, 8, none⟩ = some (.int .i64 bd) := SR.out.1.1.cell 8
  refine bodyPost_ret (v := .tuple #[.agg #[.string md, .int .u32 key, .slice A2 im.length c2, .slice A3 cd.length c3, .slice A4 fx.length c4, .slice A5 sg.length c5, .int .i64 dt, .int .i64 ex, .int .i64 bd], .int .i64 0]) ?_ rfl ?_
  · simp [results, Try.results11, go_sem, z0, z1, z2, z3, z4, z5, z6, z7, z8]
  · rw [UL.out]
    exact ⟨A2, c2, A3, c3, A4, c4, A5, c5, rfl, SR.out.1.2, SR.out.2⟩
end Go.Proofs.Ytdakooipelligaa
