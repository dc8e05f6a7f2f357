/- Finger: a Reader's Err, Left; the program's Read. -/
import Derived.Test.YthmjniedfiabhaaFngM
namespace Go.Proofs.Ythmjniedfiabhaa
open Go.ChangeShapes Go.WideShapes Go.ChangeAt Go.RowKit
set_option linter.unusedVariables false
set_option linter.unusedSimpArgs false

set_option maxHeartbeats 1000000 in
set_option maxRecDepth 100000 in
theorem rerr_any (g D : Nat) (zs : List Int) (err : Int) (w : World) (h : RdAt w g D zs err) :
    Calls Try.prog 31 #[.pointer (some ⟨g, 0, none⟩)] w fun e w' => e = .returned (.int .i64 err) ∧ w = w' := by
  obtain ⟨A, c, hW, hc, hD, hz⟩ := h
  have c1 : w.cell? ⟨g, 1, none⟩ = some (.int .i64 err) := hW.cell 1
  clear hW hc hD hz
  go_enter Try.func31, Try.ntmps31
  go_wp2_with fail
  go_ret
  exact ⟨rfl, rfl⟩

set_option maxHeartbeats 1000000 in
set_option maxRecDepth 100000 in
theorem rleft_any (g D : Nat) (zs : List Int) (err : Int) (w : World) (h : RdAt w g D zs err) :
    Calls Try.prog 32 #[.pointer (some ⟨g, 0, none⟩)] w fun e w' => e = .returned (.int .i64 zs.length) ∧ w = w' := by
  obtain ⟨A, c, hW, hc, hD, hz⟩ := h
  have c1 : w.cell? ⟨g, 0, none⟩ = some (.slice A zs.length c) := hW.cell 0
  clear hW hc hD hz
  go_enter Try.func32, Try.ntmps32
  go_wp2_with fail
  go_ret
  exact ⟨rfl, rfl⟩

/-- A made list beside a Reader's call. -/
theorem RowE.keepRd {w w' : World} {B' g D : Nat} {v : Value} {l : List Exx} {zs : List Int} {err : Int} (h : RowE w 0 B' v l) (hr : RdAt w g D zs err) (k : KeptS (RdS g) w w') (hg : g < B') : RowE w' 0 B' v l := by
  refine ⟨k.row h.row (fun b hb hs => ?_), fun x hx => (h.par x hx).keep (Nat.le_refl _) k.size (fun b hb ht => k.block b hb (fun hs => ?_))⟩
  · have := (World.ownsRow.lt h.row b hb).1
    have hs : b = g := hs
    omega
  · have hs : b = g := hs
    subst hs
    obtain ⟨A, c, hW, _⟩ := hr
    rcases ht with ht | ⟨cs, fz, e⟩
    · omega
    · have hW : w.heap[b]? = some (.cells _ rdT (0, 0)) := hW
      rw [hW] at e
      injection e with e
      injection e with _ e _
      exact absurd e (by decide)

/-- What Read leaves. -/
def RdList (w : World) (g D : Nat) (st : RSt) (e : Ending) (w' : World) : Prop :=
  ∃ v l, e = .returned v ∧ RowE w' 0 w.heap.size v l ∧ l.map (·.1) = (rdAll st).1 ∧ RdAt w' g D (rdAll st).2.1 (rdAll st).2.2 ∧ KeptS (RdS g) w w'

set_option maxHeartbeats 16000000 in
set_option maxRecDepth 100000 in
theorem read13_any (g D : Nat) (st0 : RSt) (w : World) (h : RdAt w g D st0.1 st0.2) (ok : RdOk st0) :
    Calls Try.prog 47 #[.pointer (some ⟨g, 0, none⟩)] w fun e w' => RdList w g D st0 e w' := by
  have C0 := Lib.hid (rcount_any 4096 g D st0.1 st0.2 w h (by have := ok.len; omega) ok.byt (by decide))
  have OK0 := Lib.hid (ok.groups 4096)
  have LN := Lib.hid (groupsP_le st0.1 st0.2 4096)
  have AL := Lib.hid (show rdExs (groupsP st0.1 st0.2 4096).1 [] (groupsP st0.1 st0.2 4096).2 = rdAll st0 from rfl)
  have LG := Lib.hid h.lt.1
  have LD := Lib.hid h.lt.2
  have UL := Lib.hid (show ∀ e w', RdList w g D st0 e w' = (∃ v l, e = .returned v ∧ RowE w' 0 w.heap.size v l ∧ l.map (·.1) = (rdAll st0).1 ∧ RdAt w' g D (rdAll st0).2.1 (rdAll st0).2.2 ∧ KeptS (RdS g) w w') from fun _ _ => rfl)
  obtain ⟨i0, hi0, hz0, hz1, hz2⟩ := info_parts exInfo
  clear h ok
  generalize rdAll st0 = RA at *
  generalize groupsP st0.1 st0.2 4096 = gn at *
  obtain ⟨n, zs1, e1⟩ := gn
  have hn : n ≤ 4096 := LN.out
  go_enter Try.func47, Try.ntmps47
  go_wp2_with fail
  refine C0.out.mono ?_
  rintro e w1 ⟨rfl, hr, hk⟩
  have R1 := Lib.hid hr
  have K1 := Lib.hid hk
  clear hr hk C0
  go_wp2_with fail
  go_loopw [3, 6] (fun v i wr => ∃ (t : Nat) (st : RSt) (l : List Exx), t ≤ n ∧ i = .int .i64 t ∧ RdOk st ∧ l.length = t ∧ rdExs (n - t) (l.map (·.1)) st = RA ∧ RowE wr 0 w.heap.size v l ∧ RdAt wr g D st.1 st.2 ∧ KeptS (RdS g) w wr) (fun _ i _ => n - (intOf i).toNat)
  case atStart => exact ⟨0, (zs1, e1), [], Nat.zero_le _, rfl, OK0.out, rfl, AL.out, RowE.nil _ _ _, R1.out, K1.out⟩
  case round =>
    clear R1 K1 OK0 AL
    obtain ⟨t, st, l, ht, rfl, hok, hpl, hrd, hrow, hr, hk⟩ := hrel
    obtain ⟨A0, c0, rfl⟩ := row_form hrow.row
    have OKS := Lib.hid hok
    have RD := Lib.hid hrd
    have HPL := Lib.hid hpl
    have PB := Lib.hid (show l.length ≤ 4096 by omega)
    have ROW := Lib.hid hrow
    have RR := Lib.hid hr
    have KK := Lib.hid hk
    clear hok hrd hpl hrow hr hk
    by_cases hlt : t < n
    · have hI : (t : Int) < n := by omega
      obtain ⟨zs, er⟩ := st
      have RX := Lib.hid (readexp_any g D zs er wr RR.out OKS.out)
      have OK2 := Lib.hid OKS.out.ex
      have GO := Lib.hid (show (rdEx (zs, er)).2.2 = 0 → rdExs (n - (t + 1)) (l.map (·.1) ++ [(rdEx (zs, er)).1]) (rdEx (zs, er)).2 = RA from fun h0 => by
        rw [← RD.out, show n - t = (n - (t + 1)) + 1 by omega, rdExs_go h0])
      have BAD := Lib.hid (show (rdEx (zs, er)).2.2 ≠ 0 → ([], (rdEx (zs, er)).2) = RA from fun h0 => by
        rw [← RD.out, show n - t = (n - (t + 1)) + 1 by omega, rdExs_bad h0])
      have XP := Lib.hid (rdEx_ps (zs, er))
      generalize rdEx (zs, er) = rx at *
      obtain ⟨x, zs2, er2⟩ := rx
      go_wp2_with fail
      refine RX.out.mono ?_
      rintro e w2 ⟨Ap, cp, rfl, hrow, hr, hk⟩
      have ROW2 := Lib.hid (ROW.out.keepRd RR.out hk LG.out)
      have KW := Lib.hid (KK.out.trans hk (fun i hi => .inl hi))
      have b1 := (Below.refl w2.heap.size w2).alloc (Nat.le_refl _) (.cells #[.string x.nm, .int .i64 x.kd, .int .i64 x.ty, .int .i32 x.vl, .slice Ap x.ps.length cp] pE)
      have PV := Lib.hid (show ParV 0 (w2.alloc (.cells #[.string x.nm, .int .i64 x.kd, .int .i64 x.ty, .int .i32 x.vl, .slice Ap x.ps.length cp] pE)) (.slice Ap x.ps.length cp) x.ps from (ParV.own hrow).below b1)
      have ROW3 := Lib.hid (ROW2.out.below b1)
      have RR3 := Lib.hid (hr.below b1)
      have KW3 := Lib.hid (KW.out.trans (S' := fun _ => False) (KeptS.ofBelow b1) (fun i hi => hi.elim))
      have NC := Lib.hid (show ∀ (j : Nat) u, ([.string x.nm, .int .i64 x.kd, .int .i64 x.ty, .int .i32 x.vl, .slice Ap x.ps.length cp] : List Value)[j]? = some u → (w2.alloc (.cells #[.string x.nm, .int .i64 x.kd, .int .i64 x.ty, .int .i32 x.vl, .slice Ap x.ps.length cp] pE)).cell? ((⟨w2.heap.size, 0, none⟩ : Addr).add j) = some u from fun j u hj => by rw [Go.WideShapes.add_plain, Nat.zero_add]; exact ((Whole.made w2 pE #[.string x.nm, .int .i64 x.kd, .int .i64 x.ty, .int .i32 x.vl, .slice Ap x.ps.length cp] _ rfl).cell j).trans (by simpa using hj))
      have HBASE := Lib.hid KW3.out.size
      clear RX ROW2 KW b1 hrow hr hk
      go_wp2_with (at_builtin; refine wpList_append_own_at _ rfl _ _ 24 rfl w.heap.size pE i0 _ 5 64 Try.underlying24 hi0 hz0 hz1 hz2 rfl (by decide) (.slice A0 l.length c0) l.length _ rfl ROW3.out.row ⟨w2.heap.size, 0, none⟩ 1 1 [.string x.nm, .int .i64 x.kd, .int .i64 x.ty, .int .i32 x.vl, .slice Ap x.ps.length cp] rfl rfl NC.out (fun u hu => by simp at hu; rcases hu with rfl | rfl | rfl | rfl | rfl <;> rfl) (by have := PB.out; unfold maxLen; omega) (by have := PB.out; omega) HBASE.out ?_; intro v3 w3 ho3 hg3 _ _; obtain ⟨A3, c3, rfl⟩ := row_form ho3; have ROW4 := Lib.hid (ROW3.out.grown (x := (x, .slice Ap x.ps.length cp)) (Nat.zero_le _) PV.out hg3 ho3); have HK4 := Lib.hid (show KeptS (fun b => (Value.slice A0 l.length c0).ownBlock = some b) _ w3 from KeptS.grown hg3 (fun b hb => hb)); have RR4 := Lib.hid (RR3.out.keep HK4.out (fun hs => by have := (World.ownsRow.lt ROW3.out.row g hs).1; have := LG.out; omega) (fun hs => by have := (World.ownsRow.lt ROW3.out.row D hs).1; have := LD.out; omega)); have KW4 := Lib.hid (KW3.out.trans HK4.out (fun i hi => .inr (World.ownsRow.lt ROW3.out.row i hi).1)); clear ho3 hg3)
      have ER := Lib.hid (rerr_any g D zs2 er2 w3 RR4.out)
      refine ER.out.mono ?_
      rintro e w4 ⟨rfl, rfl⟩
      by_cases h0 : er2 = 0
      · have hne : (er2 != 0) = false := by simp [h0]
        have RD3 := Lib.hid (GO.out h0)
        have HH := Lib.hid h0
        clear h0 GO BAD
        go_wp2_with fail
        go_roundw
        case rel => exact ⟨t + 1, (zs2, er2), l ++ [(x, .slice Ap x.ps.length cp)], by omega, by go_num, OK2.out, by rw [List.length_append, List.length_singleton, HPL.out], by rw [List.map_append]; exact RD3.out, ROW4.out, RR4.out, KW4.out⟩
        case measure => simp [intOf]; omega
      · have hne : (er2 != 0) = true := by simp [h0]
        have RD3 := Lib.hid (BAD.out h0)
        have HH := Lib.hid h0
        clear h0 GO BAD
        go_wp2_with fail
        go_ret
        rw [UL.out, ← RD3.out]
        exact ⟨_, [], rfl, RowE.nil _ _ _, rfl, RR4.out, KW4.out⟩
    · have hI : ¬ (t : Int) < n := by omega
      obtain rfl : t = n := by omega
      have E := RD.out
      rw [Nat.sub_self] at E
      have RE := Lib.hid (show (l.map (·.1), st) = RA from E)
      clear E
      go_wp2_with fail
      go_ret
      rw [UL.out, ← RE.out]
      exact ⟨_, l, rfl, ROW.out, rfl, RR.out, KK.out⟩
end Go.Proofs.Ythmjniedfiabhaa
