/- Scopes: the laws' played. -/
import Derived.Test.YtpfoebnlngfebaaScpY0
import Derived.Test.YtpfoebnlngfebaaScpR
import Derived.Test.YtpfoebnlngfebaaScpT
namespace Go.Proofs.Ytpfoebnlngfebaa
open Go.ChangeShapes Go.WideShapes Go.ChangeAt Go.RowKit
set_option linter.unusedVariables false
set_option linter.unusedSimpArgs false

theorem congrCell {w w' : World} {b : Nat} (h : w'.heap[b]? = w.heap[b]?) (i : Nat) : w'.cell? ⟨b, i, none⟩ = w.cell? ⟨b, i, none⟩ := by
  simp only [World.cell?]
  rw [h]

set_option maxHeartbeats 32000000 in
set_option maxRecDepth 100000 in
theorem played_any (A : Option Addr) (n c : Nat) (f : Nat → OpP) (B : Nat) (w : World) (hB : B ≤ w.heap.size) (hO : ∀ W, Below B w W → OpPs W B A n f) (hm : n ≤ maxLen) :
    Calls Try.prog 7 #[.slice A n c] w (PlayedPost B w) := by
  unfold maxLen at hm
  have W1 := Lib.hid (Whole.made w rS #[.slice none 0 0, .int .i64 0, .slice none 0 0] _ rfl)
  have b1 := (Below.refl w.heap.size w).alloc (Nat.le_refl _) (.cells #[.slice none 0 0, .int .i64 0, .slice none 0 0] rS)
  have NW := Lib.hid (new_any B (w.alloc (.cells #[.slice none 0 0, .int .i64 0, .slice none 0 0] rS)) (Nat.le_trans hB b1.size))
  have HO := Lib.hid hO
  have HB := Lib.hid hB
  have B1 := Lib.hid b1
  clear hO hB b1
  go_enter Try.func7, Try.ntmps7
  go_wp2_with fail
  refine NW.out.mono ?_
  rintro e w2 ⟨rfl, hT2, hb2⟩
  have hpz : (tab0 (w.alloc (.cells #[.slice none 0 0, .int .i64 0, .slice none 0 0] rS)).heap.size).p = (w.alloc (.cells #[.slice none 0 0, .int .i64 0, .slice none 0 0] rS)).heap.size := rfl
  generalize tab0 (w.alloc (.cells #[.slice none 0 0, .int .i64 0, .slice none 0 0] rS)).heap.size = T0 at *
  have BS := Lib.hid B1.out.size
  have W2 := Lib.hid (W1.out.below hb2 W1.out.lt)
  have BS2 := Lib.hid (Nat.le_trans BS.out hb2.size)
  generalize (w.alloc (.cells #[.slice none 0 0, .int .i64 0, .slice none 0 0] rS)).heap.size = p at *
  have hp0 : p = w2.heap.size - 1 ∨ True := .inr trivial
  have ba := (Below.refl w2.heap.size w2).alloc (Nat.le_refl _) (.cells #[.slice none 0 0, .int .i64 0, .slice none 0 0] rS)
  have T3 := Lib.hid (hT2.below ba)
  have G3 := Lib.hid (W2.out.below ba W2.out.lt)
  have G6 := Lib.hid (Whole.made w2 rS #[.slice none 0 0, .int .i64 0, .slice none 0 0] _ rfl)
  have B3 := Lib.hid (Below.mono ((B1.out.trans (hb2.mono BS.out)).trans (ba.mono BS2.out)) HB.out)
  have GG := Lib.hid (show w.heap.size < w2.heap.size from W2.out.lt)
  have R3 := Lib.hid (RefIn.start (w2.alloc (.cells #[.slice none 0 0, .int .i64 0, .slice none 0 0] rS)) B)
  clear hT2 hb2 ba NW W1 B1 hp0
  go_wp2_with fail
  generalize (w2.alloc (.cells #[.slice none 0 0, .int .i64 0, .slice none 0 0] rS)) = w3 at *
  generalize w2.heap.size = g6 at *
  clear W2
  go_loopw [7] (fun i wr => ∃ (t : Nat) (T : Tb) (AL : Option Addr) (cL : Nat) (lx : List Ox) (AM : Option Addr) (cM : Nat) (mx : List (Value × List Ox)) (s : Stt), t ≤ n ∧ t ≤ 100 ∧ i = .int .i64 t ∧ T.p = p ∧ Inv t s ∧ TabAt wr B T s ∧ RefIn wr B AL cL lx AM cM mx s ∧ Whole wr g6 rS #[.slice AL s.L.length cL, .int .i64 s.lev, .slice AM s.mods.length cM] ∧ Whole wr w.heap.size rS #[.slice none 0 0, .int .i64 0, .slice none 0 0] ∧ Below B w wr) (fun i _ => n - (intOf i).toNat)
  case atStart => exact ⟨0, T0, none, 0, [], none, 0, [], st0, Nat.zero_le _, Nat.zero_le _, rfl, hpz, Inv.start, T3.out, R3.out, G6.out, G3.out, B3.out⟩
  case round =>
    clear T3 R3 B3 G3 G6 hpz T0
    obtain ⟨t, T, AL, cL, lx, AM, cM, mx, s, ht, ht1, rfl, rfl, hI, hT, hR, hg6, hg0, hb⟩ := hrel
    have TT := Lib.hid hT
    have RR := Lib.hid hR
    have II := Lib.hid hI
    have G6 := Lib.hid hg6
    have G0 := Lib.hid hg0
    have BW := Lib.hid hb
    have BWS := Lib.hid (show w.heap.size ≤ wr.heap.size from hb.size)
    clear hT hR hI hg6 hg0 hb
    by_cases hlt : t < n ∧ t < 100
    · have hI : (t : Int) < n := by omega
      have hI6 : (t : Int) < 100 := by omega
      have HOT := Lib.hid (HO.out wr BW.out)
      obtain ⟨b, off, rfl, hbB, _, hcs⟩ := HOT.out.1 (by omega)
      have OG := Lib.hid (HOT.out.2 t hlt.1)
      have HC := Lib.hid (hcs t hlt.1)
      generalize f t = o at *
      have DO := Lib.hid (fun W (hb : Below wr.heap.size wr W) => do_any B T AL cL lx AM cM mx s o.kind o.on o.x.nm o.x.kd o.x.ty o.x.lv o.x.nn o.x.md o.x.ou o.x.ps o.A o.c o.E o.es o.ce t W (TT.out.below hb) (RR.out.below hb) II.out ht1 (Nat.le_trans HB.out (Nat.le_trans BWS.out hb.size)) (OG.out.par.below hb) OG.out.ok (OG.out.exs.below hb) OG.out.eok OG.out.elen)
      have ST := Lib.hid (II.out.doS o.kind o.on o.x (o.es.map (·.1)) OG.out.ok (fun e he => by obtain ⟨e', he', rfl⟩ := List.mem_map.1 he; exact OG.out.eok e' he') (by rw [List.length_map]; exact OG.out.elen))
      unfold DoPost at DO
      generalize doP s o.kind o.on o.x (o.es.map (·.1)) = r1 at *
      have BU := Lib.hid ((Below.refl wr.heap.size wr).drew)
      have BW0 := Lib.hid (Nat.le_trans HB.out BWS.out)
      have U6 := Lib.hid (show Whole wr.drew g6 rS #[.slice AL s.L.length cL, .int .i64 s.lev, .slice AM s.mods.length cM] from G6.out)
      have U0 := Lib.hid (show Whole wr.drew w.heap.size rS #[.slice none 0 0, .int .i64 0, .slice none 0 0] from G0.out)
      have CB := Lib.hid (fun (y : World) (hs : Whole y g6 rS #[.slice AL s.L.length cL, .int .i64 s.lev, .slice AM s.mods.length cM]) (hb : y.heap[b]? = wr.heap[b]?) => show y.cell? ⟨g6, 0, none⟩ = some (.slice AL s.L.length cL) ∧ y.cell? ⟨g6, 1, none⟩ = some (.int .i64 s.lev) ∧ y.cell? ⟨g6, 2, none⟩ = some (.slice AM s.mods.length cM) ∧ y.cell? ⟨b, off + t * 11, none⟩ = some (.int .i64 o.kind) ∧ y.cell? ⟨b, off + t * 11 + 1, none⟩ = some (.int .i64 o.on) ∧ y.cell? ⟨b, off + t * 11 + 2, none⟩ = some (.string o.x.nm) ∧ y.cell? ⟨b, off + t * 11 + 3, none⟩ = some (.int .i64 o.x.kd) ∧ y.cell? ⟨b, off + t * 11 + 4, none⟩ = some (.int .i64 o.x.ty) ∧ y.cell? ⟨b, off + t * 11 + 5, none⟩ = some (.int .i64 o.x.lv) ∧ y.cell? ⟨b, off + t * 11 + 6, none⟩ = some (.int .i32 o.x.nn) ∧ y.cell? ⟨b, off + t * 11 + 7, none⟩ = some (.int .i64 o.x.md) ∧ y.cell? ⟨b, off + t * 11 + 8, none⟩ = some (.bool o.x.ou) ∧ y.cell? ⟨b, off + t * 11 + 9, none⟩ = some (.slice o.A o.x.ps.length o.c) ∧ y.cell? ⟨b, off + t * 11 + 10, none⟩ = some (.slice o.E o.es.length o.ce) from ⟨hs.cell 0, hs.cell 1, hs.cell 2, (congrCell hb _).trans (HC.out 0 _ rfl), (congrCell hb _).trans (by rw [Nat.add_assoc]; exact HC.out 1 _ rfl), (congrCell hb _).trans (by rw [Nat.add_assoc]; exact HC.out 2 _ rfl), (congrCell hb _).trans (by rw [Nat.add_assoc]; exact HC.out 3 _ rfl), (congrCell hb _).trans (by rw [Nat.add_assoc]; exact HC.out 4 _ rfl), (congrCell hb _).trans (by rw [Nat.add_assoc]; exact HC.out 5 _ rfl), (congrCell hb _).trans (by rw [Nat.add_assoc]; exact HC.out 6 _ rfl), (congrCell hb _).trans (by rw [Nat.add_assoc]; exact HC.out 7 _ rfl), (congrCell hb _).trans (by rw [Nat.add_assoc]; exact HC.out 8 _ rfl), (congrCell hb _).trans (by rw [Nat.add_assoc]; exact HC.out 9 _ rfl), (congrCell hb _).trans (by rw [Nat.add_assoc]; exact HC.out 10 _ rfl)⟩)
      have L0 : wr.drew.cell? ⟨g6, 0, none⟩ = some (.slice AL s.L.length cL) ∧ wr.drew.cell? ⟨g6, 1, none⟩ = some (.int .i64 s.lev) ∧ wr.drew.cell? ⟨g6, 2, none⟩ = some (.slice AM s.mods.length cM) ∧ wr.drew.cell? ⟨b, off + t * 11, none⟩ = some (.int .i64 o.kind) ∧ wr.drew.cell? ⟨b, off + t * 11 + 1, none⟩ = some (.int .i64 o.on) ∧ wr.drew.cell? ⟨b, off + t * 11 + 2, none⟩ = some (.string o.x.nm) ∧ wr.drew.cell? ⟨b, off + t * 11 + 3, none⟩ = some (.int .i64 o.x.kd) ∧ wr.drew.cell? ⟨b, off + t * 11 + 4, none⟩ = some (.int .i64 o.x.ty) ∧ wr.drew.cell? ⟨b, off + t * 11 + 5, none⟩ = some (.int .i64 o.x.lv) ∧ wr.drew.cell? ⟨b, off + t * 11 + 6, none⟩ = some (.int .i32 o.x.nn) ∧ wr.drew.cell? ⟨b, off + t * 11 + 7, none⟩ = some (.int .i64 o.x.md) ∧ wr.drew.cell? ⟨b, off + t * 11 + 8, none⟩ = some (.bool o.x.ou) ∧ wr.drew.cell? ⟨b, off + t * 11 + 9, none⟩ = some (.slice o.A o.x.ps.length o.c) ∧ wr.drew.cell? ⟨b, off + t * 11 + 10, none⟩ = some (.slice o.E o.es.length o.ce) := CB.out _ U6.out rfl
      clear hcs HOT
      go_wp2_with fail
      refine wp_region_noPanic ?_
      refine wp_region_held_drew (S := fun y => y.cell? ⟨g6, 0, none⟩ = some (.slice AL s.L.length cL) ∧ y.cell? ⟨g6, 1, none⟩ = some (.int .i64 s.lev) ∧ y.cell? ⟨g6, 2, none⟩ = some (.slice AM s.mods.length cM) ∧ y.cell? ⟨b, off + t * 11, none⟩ = some (.int .i64 o.kind) ∧ y.cell? ⟨b, off + t * 11 + 1, none⟩ = some (.int .i64 o.on) ∧ y.cell? ⟨b, off + t * 11 + 2, none⟩ = some (.string o.x.nm) ∧ y.cell? ⟨b, off + t * 11 + 3, none⟩ = some (.int .i64 o.x.kd) ∧ y.cell? ⟨b, off + t * 11 + 4, none⟩ = some (.int .i64 o.x.ty) ∧ y.cell? ⟨b, off + t * 11 + 5, none⟩ = some (.int .i64 o.x.lv) ∧ y.cell? ⟨b, off + t * 11 + 6, none⟩ = some (.int .i32 o.x.nn) ∧ y.cell? ⟨b, off + t * 11 + 7, none⟩ = some (.int .i64 o.x.md) ∧ y.cell? ⟨b, off + t * 11 + 8, none⟩ = some (.bool o.x.ou) ∧ y.cell? ⟨b, off + t * 11 + 9, none⟩ = some (.slice o.A o.x.ps.length o.c) ∧ y.cell? ⟨b, off + t * 11 + 10, none⟩ = some (.slice o.E o.es.length o.ce)) (by kernel_rfl) L0 (fun hHeld => ?_)
      clear L0
      refine wpAnyH_take (i := 0) (oi := _) (v := .pointer (some ⟨T.p, 0, none⟩)) rfl (by kernel_rfl) (by kernel_rfl) (by kernel_rfl) (fun _ _ _ h => h) (Or.inl ⟨by rfl, fun w hSw => by (try dsimp only at hSw); go_simp⟩) (by assumption) ?_
      try simp only [Act.put, List.getElem_toArray, List.getElem_cons_succ, List.getElem_cons_zero, List.setIfInBounds_toArray, List.set_cons_zero, List.set_cons_succ]
      refine wpAnyH_take (i := 1) (oi := _) (v := .agg #[.slice AL s.L.length cL, .int .i64 s.lev, .slice AM s.mods.length cM]) rfl (by kernel_rfl) (by kernel_rfl) (by kernel_rfl) (fun _ _ _ h => h) (Or.inl ⟨by rfl, fun w hSw => by (try dsimp only at hSw); go_simp⟩) (by assumption) ?_
      try simp only [Act.put, List.getElem_toArray, List.getElem_cons_succ, List.getElem_cons_zero, List.setIfInBounds_toArray, List.set_cons_zero, List.set_cons_succ]
      refine wpAnyH_take (i := 2) (oi := _) (v := .slice (some ⟨b, off, none⟩) n c) rfl (by kernel_rfl) (by kernel_rfl) (by kernel_rfl) (fun _ _ _ h => h) (Or.inl ⟨by rfl, fun w hSw => by (try dsimp only at hSw); go_simp⟩) (by assumption) ?_
      try simp only [Act.put, List.getElem_toArray, List.getElem_cons_succ, List.getElem_cons_zero, List.setIfInBounds_toArray, List.set_cons_zero, List.set_cons_succ]
      refine wpAnyH_take (i := 3) (oi := _) (v := .int .i64 t) rfl (by kernel_rfl) (by kernel_rfl) (by kernel_rfl) (fun _ _ _ h => h) (Or.inl ⟨by rfl, fun w hSw => by (try dsimp only at hSw); go_simp⟩) (by assumption) ?_
      try simp only [Act.put, List.getElem_toArray, List.getElem_cons_succ, List.getElem_cons_zero, List.setIfInBounds_toArray, List.set_cons_zero, List.set_cons_succ]
      refine wpAnyH_take (i := 4) (oi := _) (v := .pointer (some ⟨b, off + t * 11, none⟩)) rfl (by kernel_rfl) (by kernel_rfl) (by kernel_rfl) (fun _ _ _ h => h) (Or.inl ⟨by rfl, fun w hSw => by (try dsimp only at hSw); go_simp⟩) (by assumption) ?_
      try simp only [Act.put, List.getElem_toArray, List.getElem_cons_succ, List.getElem_cons_zero, List.setIfInBounds_toArray, List.set_cons_zero, List.set_cons_succ]
      refine wpAnyH_take (i := 5) (oi := _) (v := .agg #[.int .i64 o.kind, .int .i64 o.on, .string o.x.nm, .int .i64 o.x.kd, .int .i64 o.x.ty, .int .i64 o.x.lv, .int .i32 o.x.nn, .int .i64 o.x.md, .bool o.x.ou, .slice o.A o.x.ps.length o.c, .slice o.E o.es.length o.ce]) rfl (by kernel_rfl) (by kernel_rfl) (by kernel_rfl) (fun _ _ _ h => h) (Or.inl ⟨by rfl, fun w hSw => by (try dsimp only at hSw); go_simp⟩) (by assumption) ?_
      try simp only [Act.put, List.getElem_toArray, List.getElem_cons_succ, List.getElem_cons_zero, List.setIfInBounds_toArray, List.set_cons_zero, List.set_cons_succ]
      refine wpAnyH_ready (rs := [6, 10]) (by kernel_rfl) (by simp) (AllReadyH.cons (o := _) rfl (fun K hK => ?_) (AllReadyH.cons (o := _) rfl (fun K hK => ?_) AllReadyH.nil))
      go_simp
      go_at_call 21
      refine (DO.out _ BU.out).mono ?_
      rintro e y1 ⟨AL2, cL2, lx2, AM2, cM2, mx2, rfl, hR2, hC⟩
      obtain ⟨T1, hp1, hT1, hK1, hO1⟩ := hC
      have TV := Lib.hid (TT.out.below BU.out)
      have E6 := Lib.hid (hK1.whole U6.out (TV.out.notOwn U6.out (by decide) (by decide) (by decide)))
      have E0 := Lib.hid (hK1.whole U0.out (TV.out.notOwn U0.out (by decide) (by decide) (by decide)))
      have hbb : y1.heap[b]? = wr.heap[b]? := (hK1.block b (show b < _ by have h1 := HB.out; have h2 := BWS.out; have h3 : wr.heap.size ≤ wr.drew.heap.size := BU.out.size; omega) (fun ho => by have h1 := (TV.out.own ho).1; omega)).trans (BU.out.block b (by have h1 := HB.out; have h2 := BWS.out; omega))
      have S1 : y1.cell? ⟨g6, 0, none⟩ = some (.slice AL s.L.length cL) ∧ y1.cell? ⟨g6, 1, none⟩ = some (.int .i64 s.lev) ∧ y1.cell? ⟨g6, 2, none⟩ = some (.slice AM s.mods.length cM) ∧ y1.cell? ⟨b, off + t * 11, none⟩ = some (.int .i64 o.kind) ∧ y1.cell? ⟨b, off + t * 11 + 1, none⟩ = some (.int .i64 o.on) ∧ y1.cell? ⟨b, off + t * 11 + 2, none⟩ = some (.string o.x.nm) ∧ y1.cell? ⟨b, off + t * 11 + 3, none⟩ = some (.int .i64 o.x.kd) ∧ y1.cell? ⟨b, off + t * 11 + 4, none⟩ = some (.int .i64 o.x.ty) ∧ y1.cell? ⟨b, off + t * 11 + 5, none⟩ = some (.int .i64 o.x.lv) ∧ y1.cell? ⟨b, off + t * 11 + 6, none⟩ = some (.int .i32 o.x.nn) ∧ y1.cell? ⟨b, off + t * 11 + 7, none⟩ = some (.int .i64 o.x.md) ∧ y1.cell? ⟨b, off + t * 11 + 8, none⟩ = some (.bool o.x.ou) ∧ y1.cell? ⟨b, off + t * 11 + 9, none⟩ = some (.slice o.A o.x.ps.length o.c) ∧ y1.cell? ⟨b, off + t * 11 + 10, none⟩ = some (.slice o.E o.es.length o.ce) := CB.out _ E6.out hbb
      have R2 := Lib.hid hR2
      have T2 := Lib.hid hT1
      have HP1 := Lib.hid hp1
      have BY := Lib.hid (KeptS.below (BW.out.trans (BU.out.mono BW0.out)) hK1 (Nat.le_trans BW0.out BU.out.size) (fun i hi => (TV.out.own hi).1))
      have HS1 := Lib.hid hK1.size
      have S3 : (Try.prog.info? rS).map (·.size) = some 3 := by kernel_rfl
      have H1 := Lib.hid (show (#[.slice AL2 r1.L.length cL2, .int .i64 r1.lev, .slice AM2 r1.mods.length cM2] : Array Value).all (·.oneCell') = true from by simp [Value.oneCell'])
      have HBB := Lib.hid hbb
      clear hp1 hT1 hK1 hO1 hR2 hbb
      clear hHeld; refine hK.out _ _ S1 (fun hHeld => ?_)
      clear hK K
      try simp only [Act.put, List.getElem_toArray, List.getElem_cons_succ, List.getElem_cons_zero, List.setIfInBounds_toArray, List.set_cons_zero, List.set_cons_succ]
      refine wpAnyH_take (i := 7) (oi := _) (v := .tuple #[.agg #[.slice AL2 r1.L.length cL2, .int .i64 r1.lev, .slice AM2 r1.mods.length cM2], .bool true]) rfl (by kernel_rfl) (by kernel_rfl) (by kernel_rfl) (fun _ _ _ h => h) (Or.inl ⟨by rfl, fun w hSw => by (try dsimp only at hSw); go_simp⟩) (by assumption) ?_
      try simp only [Act.put, List.getElem_toArray, List.getElem_cons_succ, List.getElem_cons_zero, List.setIfInBounds_toArray, List.set_cons_zero, List.set_cons_succ]
      refine wpAnyH_take (i := 8) (oi := _) (v := .agg #[.slice AL2 r1.L.length cL2, .int .i64 r1.lev, .slice AM2 r1.mods.length cM2]) rfl (by kernel_rfl) (by kernel_rfl) (by kernel_rfl) (fun _ _ _ h => h) (Or.inl ⟨by rfl, fun w hSw => by (try dsimp only at hSw); go_simp⟩) (by assumption) ?_
      try simp only [Act.put, List.getElem_toArray, List.getElem_cons_succ, List.getElem_cons_zero, List.setIfInBounds_toArray, List.set_cons_zero, List.set_cons_succ]
      refine wpAnyH_take (i := 9) (oi := _) (v := .bool true) rfl (by kernel_rfl) (by kernel_rfl) (by kernel_rfl) (fun _ _ _ h => h) (Or.inl ⟨by rfl, fun w hSw => by (try dsimp only at hSw); go_simp⟩) (by assumption) ?_
      try simp only [Act.put, List.getElem_toArray, List.getElem_cons_succ, List.getElem_cons_zero, List.setIfInBounds_toArray, List.set_cons_zero, List.set_cons_succ]
      refine wpAnyH_ready (rs := [10]) (by kernel_rfl) (by simp) (AllReadyH.cons (o := _) rfl (fun K hK => ?_) AllReadyH.nil)
      go_simp
      have ba := (Below.refl y1.heap.size y1).alloc (Nat.le_refl _) (.cells #[.slice none 0 0, .int .i64 0, .slice none 0 0] rS)
      have HBL := Lib.hid (show b < (y1.alloc (.cells #[.slice none 0 0, .int .i64 0, .slice none 0 0] rS)).heap.size from by have h1 := HB.out; have h2 := BWS.out; have h3 := HS1.out; have h4 : wr.heap.size ≤ wr.drew.heap.size := BU.out.size; have h5 := ba.size; omega)
      have HBV := Lib.hid ((ba.block b (by have h1 := HB.out; have h2 := BWS.out; have h3 := HS1.out; have h4 : wr.heap.size ≤ wr.drew.heap.size := BU.out.size; omega)).trans HBB.out)
      have F8 := Lib.hid (Whole.made y1 rS #[.slice none 0 0, .int .i64 0, .slice none 0 0] _ rfl)
      have F6 := Lib.hid (E6.out.below ba E6.out.lt)
      have F0 := Lib.hid (E0.out.below ba E0.out.lt)
      have TA := Lib.hid (T2.out.below ba)
      have RA := Lib.hid (R2.out.below ba)
      have BA := Lib.hid (BY.out.trans (ba.mono (Nat.le_trans HB.out (Nat.le_of_lt E0.out.lt))))
      have H8 := Lib.hid (Nat.le_trans HB.out (Nat.le_of_lt E0.out.lt))
      have H86 := Lib.hid E6.out.lt
      have H80 := Lib.hid E0.out.lt
      have S4 := CB.out _ F6.out HBV.out
      clear ba
      clear hHeld; refine hK.out _ _ S4 (fun hHeld => ?_)
      clear hK K
      try simp only [Act.put, List.getElem_toArray, List.getElem_cons_succ, List.getElem_cons_zero, List.setIfInBounds_toArray, List.set_cons_zero, List.set_cons_succ]
      refine wpAnyH_ready (rs := [11]) (by kernel_rfl) (by simp) (AllReadyH.cons (o := _) rfl (fun K hK => ?_) AllReadyH.nil)
      refine wp_store_row rS (.tmp 8) (.tmp 29) rfl (y1.heap.size) #[.slice AL2 r1.L.length cL2, .int .i64 r1.lev, .slice AM2 r1.mods.length cM2] rfl rfl rS #[.slice none 0 0, .int .i64 0, .slice none 0 0] F8.out S3 rfl H1.out ?_
      have hk := setRow_kept (S := fun k => k = y1.heap.size) (us := #[.slice AL2 r1.L.length cL2, .int .i64 r1.lev, .slice AM2 r1.mods.length cM2]) F8.out rfl
      have hbx : Boxes (y1.alloc (.cells #[.slice none 0 0, .int .i64 0, .slice none 0 0] rS)) B (fun k => k = y1.heap.size) := fun k hk => by subst hk; exact ⟨H8.out, _, F8.out⟩
      have P8 := Lib.hid (F8.out.setRow #[.slice AL2 r1.L.length cL2, .int .i64 r1.lev, .slice AM2 r1.mods.length cM2]).1
      have P6 := Lib.hid (hk.whole F6.out (fun e => by have := H86.out; omega))
      have P0 := Lib.hid (hk.whole F0.out (fun e => by have := H80.out; omega))
      have TB := Lib.hid (TA.out.boxes hk hbx)
      have RB := Lib.hid (RA.out.boxes hk hbx)
      have BZ := Lib.hid (KeptS.below BA.out hk (Nat.le_trans HB.out (Nat.le_of_lt F0.out.lt)) (fun k hk => by subst hk; exact H8.out))
      have hb5 := (hk.block b HBL.out (fun e => by have := H8.out; omega)).trans HBV.out
      have S5 := CB.out _ P6.out hb5
      have G8 := Lib.hid (show w.heap.size < y1.heap.size from by have := H80.out; omega)
      clear hk hbx hb5
      generalize hw4 : (y1.alloc (.cells #[.slice none 0 0, .int .i64 0, .slice none 0 0] rS)).setRow (y1.heap.size) #[.slice AL2 r1.L.length cL2, .int .i64 r1.lev, .slice AM2 r1.mods.length cM2] = w4 at *
      generalize y1.heap.size = g8 at *
      clear hw4
      clear hHeld; refine hK.out _ _ S5 (fun hHeld => ?_)
      clear hK K
      try simp only [Act.put, List.getElem_toArray, List.getElem_cons_succ, List.getElem_cons_zero, List.setIfInBounds_toArray, List.set_cons_zero, List.set_cons_succ]
      refine wpAnyH_ready (rs := [12]) (by kernel_rfl) (by simp) (AllReadyH.cons (o := _) rfl (fun K hK => ?_) AllReadyH.nil)
      go_simp
      clear hHeld; refine hK.out _ _ S5 (fun hHeld => ?_)
      clear hK K
      try simp only [Act.put, List.getElem_toArray, List.getElem_cons_succ, List.getElem_cons_zero, List.setIfInBounds_toArray, List.set_cons_zero, List.set_cons_succ]
      refine wpAnyH_done (by kernel_rfl) ?_ _
      refine NoPanic.normal ?_
      clear S4
      rotate_left
      go_simp
      have ba := (Below.refl wr.drew.heap.size wr.drew).alloc (Nat.le_refl _) (.cells #[.slice none 0 0, .int .i64 0, .slice none 0 0] rS)
      have BV := Lib.hid (BU.out.trans (ba.mono BU.out.size))
      have V8 := Lib.hid (show Whole (wr.drew.alloc (.cells #[.slice none 0 0, .int .i64 0, .slice none 0 0] rS)) wr.heap.size rS #[.slice none 0 0, .int .i64 0, .slice none 0 0] from Whole.made wr.drew rS #[.slice none 0 0, .int .i64 0, .slice none 0 0] _ rfl)
      have V6 := Lib.hid (U6.out.below ba U6.out.lt)
      have V0 := Lib.hid (U0.out.below ba U0.out.lt)
      have HBV0 := BV.out.block b (by have h1 := HB.out; have h2 := BWS.out; omega)
      have S0 := CB.out _ V6.out HBV0
      have H86 := Lib.hid (show g6 < wr.heap.size from U6.out.lt)
      have H80 := Lib.hid (show w.heap.size < wr.heap.size from U0.out.lt)
      have H8 := Lib.hid (show B ≤ wr.heap.size from BW0.out)
      clear ba HBV0
      clear hHeld; refine hK.out _ _ S0 (fun hHeld => ?_)
      clear hK K
      try simp only [Act.put, List.getElem_toArray, List.getElem_cons_succ, List.getElem_cons_zero, List.setIfInBounds_toArray, List.set_cons_zero, List.set_cons_succ]
      refine wpAnyH_ready (rs := [6]) (by kernel_rfl) (by simp) (AllReadyH.cons (o := _) rfl (fun K hK => ?_) AllReadyH.nil)
      go_simp
      go_at_call 21
      refine (DO.out _ BV.out).mono ?_
      rintro e y1 ⟨AL2, cL2, lx2, AM2, cM2, mx2, rfl, hR2, hC⟩
      obtain ⟨T1, hp1, hT1, hK1, hO1⟩ := hC
      have TV := Lib.hid (TT.out.below BV.out)
      have E6 := Lib.hid (hK1.whole V6.out (TV.out.notOwn V6.out (by decide) (by decide) (by decide)))
      have E0 := Lib.hid (hK1.whole V0.out (TV.out.notOwn V0.out (by decide) (by decide) (by decide)))
      have F8 := Lib.hid (hK1.whole V8.out (TV.out.notOwn V8.out (by decide) (by decide) (by decide)))
      have hbb : y1.heap[b]? = wr.heap[b]? := (hK1.block b (show b < _ by have h1 := HB.out; have h2 := BWS.out; have h3 : wr.heap.size ≤ (wr.drew.alloc (.cells #[.slice none 0 0, .int .i64 0, .slice none 0 0] rS)).heap.size := BV.out.size; omega) (fun ho => by have h1 := (TV.out.own ho).1; omega)).trans (BV.out.block b (by have h1 := HB.out; have h2 := BWS.out; omega))
      have S1 : y1.cell? ⟨g6, 0, none⟩ = some (.slice AL s.L.length cL) ∧ y1.cell? ⟨g6, 1, none⟩ = some (.int .i64 s.lev) ∧ y1.cell? ⟨g6, 2, none⟩ = some (.slice AM s.mods.length cM) ∧ y1.cell? ⟨b, off + t * 11, none⟩ = some (.int .i64 o.kind) ∧ y1.cell? ⟨b, off + t * 11 + 1, none⟩ = some (.int .i64 o.on) ∧ y1.cell? ⟨b, off + t * 11 + 2, none⟩ = some (.string o.x.nm) ∧ y1.cell? ⟨b, off + t * 11 + 3, none⟩ = some (.int .i64 o.x.kd) ∧ y1.cell? ⟨b, off + t * 11 + 4, none⟩ = some (.int .i64 o.x.ty) ∧ y1.cell? ⟨b, off + t * 11 + 5, none⟩ = some (.int .i64 o.x.lv) ∧ y1.cell? ⟨b, off + t * 11 + 6, none⟩ = some (.int .i32 o.x.nn) ∧ y1.cell? ⟨b, off + t * 11 + 7, none⟩ = some (.int .i64 o.x.md) ∧ y1.cell? ⟨b, off + t * 11 + 8, none⟩ = some (.bool o.x.ou) ∧ y1.cell? ⟨b, off + t * 11 + 9, none⟩ = some (.slice o.A o.x.ps.length o.c) ∧ y1.cell? ⟨b, off + t * 11 + 10, none⟩ = some (.slice o.E o.es.length o.ce) := CB.out _ E6.out hbb
      have R2 := Lib.hid hR2
      have T2 := Lib.hid hT1
      have HP1 := Lib.hid hp1
      have BY := Lib.hid (KeptS.below (BW.out.trans (BV.out.mono BW0.out)) hK1 (Nat.le_trans BW0.out BV.out.size) (fun i hi => (TV.out.own hi).1))
      have HS1 := Lib.hid hK1.size
      have S3 : (Try.prog.info? rS).map (·.size) = some 3 := by kernel_rfl
      have H1 := Lib.hid (show (#[.slice AL2 r1.L.length cL2, .int .i64 r1.lev, .slice AM2 r1.mods.length cM2] : Array Value).all (·.oneCell') = true from by simp [Value.oneCell'])
      have HBB := Lib.hid hbb
      clear hp1 hT1 hK1 hO1 hR2 hbb
      have F6 := Lib.hid E6.out
      have F0 := Lib.hid E0.out
      have TA := Lib.hid T2.out
      have RA := Lib.hid R2.out
      have BA := Lib.hid BY.out
      have HBV := Lib.hid HBB.out
      have HBL := Lib.hid (show b < y1.heap.size from by have h1 := HB.out; have h2 := BWS.out; have h3 := HS1.out; have h4 := BV.out.size; omega)
      clear hHeld; refine hK.out _ _ S1 (fun hHeld => ?_)
      clear hK K
      try simp only [Act.put, List.getElem_toArray, List.getElem_cons_succ, List.getElem_cons_zero, List.setIfInBounds_toArray, List.set_cons_zero, List.set_cons_succ]
      refine wpAnyH_take (i := 7) (oi := _) (v := .tuple #[.agg #[.slice AL2 r1.L.length cL2, .int .i64 r1.lev, .slice AM2 r1.mods.length cM2], .bool true]) rfl (by kernel_rfl) (by kernel_rfl) (by kernel_rfl) (fun _ _ _ h => h) (Or.inl ⟨by rfl, fun w hSw => by (try dsimp only at hSw); go_simp⟩) (by assumption) ?_
      try simp only [Act.put, List.getElem_toArray, List.getElem_cons_succ, List.getElem_cons_zero, List.setIfInBounds_toArray, List.set_cons_zero, List.set_cons_succ]
      refine wpAnyH_take (i := 8) (oi := _) (v := .agg #[.slice AL2 r1.L.length cL2, .int .i64 r1.lev, .slice AM2 r1.mods.length cM2]) rfl (by kernel_rfl) (by kernel_rfl) (by kernel_rfl) (fun _ _ _ h => h) (Or.inl ⟨by rfl, fun w hSw => by (try dsimp only at hSw); go_simp⟩) (by assumption) ?_
      try simp only [Act.put, List.getElem_toArray, List.getElem_cons_succ, List.getElem_cons_zero, List.setIfInBounds_toArray, List.set_cons_zero, List.set_cons_succ]
      refine wpAnyH_take (i := 9) (oi := _) (v := .bool true) rfl (by kernel_rfl) (by kernel_rfl) (by kernel_rfl) (fun _ _ _ h => h) (Or.inl ⟨by rfl, fun w hSw => by (try dsimp only at hSw); go_simp⟩) (by assumption) ?_
      try simp only [Act.put, List.getElem_toArray, List.getElem_cons_succ, List.getElem_cons_zero, List.setIfInBounds_toArray, List.set_cons_zero, List.set_cons_succ]
      refine wpAnyH_ready (rs := [11]) (by kernel_rfl) (by simp) (AllReadyH.cons (o := _) rfl (fun K hK => ?_) AllReadyH.nil)
      refine wp_store_row rS (.tmp 8) (.tmp 29) rfl (wr.heap.size) #[.slice AL2 r1.L.length cL2, .int .i64 r1.lev, .slice AM2 r1.mods.length cM2] rfl rfl rS #[.slice none 0 0, .int .i64 0, .slice none 0 0] F8.out S3 rfl H1.out ?_
      have hk := setRow_kept (S := fun k => k = wr.heap.size) (us := #[.slice AL2 r1.L.length cL2, .int .i64 r1.lev, .slice AM2 r1.mods.length cM2]) F8.out rfl
      have hbx : Boxes (y1) B (fun k => k = wr.heap.size) := fun k hk => by subst hk; exact ⟨H8.out, _, F8.out⟩
      have P8 := Lib.hid (F8.out.setRow #[.slice AL2 r1.L.length cL2, .int .i64 r1.lev, .slice AM2 r1.mods.length cM2]).1
      have P6 := Lib.hid (hk.whole F6.out (fun e => by have := H86.out; omega))
      have P0 := Lib.hid (hk.whole F0.out (fun e => by have := H80.out; omega))
      have TB := Lib.hid (TA.out.boxes hk hbx)
      have RB := Lib.hid (RA.out.boxes hk hbx)
      have BZ := Lib.hid (KeptS.below BA.out hk (Nat.le_trans HB.out (Nat.le_of_lt F0.out.lt)) (fun k hk => by subst hk; exact H8.out))
      have hb5 := (hk.block b HBL.out (fun e => by have := H8.out; omega)).trans HBV.out
      have S5 := CB.out _ P6.out hb5
      have G8 := Lib.hid (show w.heap.size < wr.heap.size from by have := H80.out; omega)
      clear hk hbx hb5
      generalize hw4 : (y1).setRow (wr.heap.size) #[.slice AL2 r1.L.length cL2, .int .i64 r1.lev, .slice AM2 r1.mods.length cM2] = w4 at *
      generalize wr.heap.size = g8 at *
      clear hw4
      clear hHeld; refine hK.out _ _ S5 (fun hHeld => ?_)
      clear hK K
      try simp only [Act.put, List.getElem_toArray, List.getElem_cons_succ, List.getElem_cons_zero, List.setIfInBounds_toArray, List.set_cons_zero, List.set_cons_succ]
      refine wpAnyH_ready (rs := [12]) (by kernel_rfl) (by simp) (AllReadyH.cons (o := _) rfl (fun K hK => ?_) AllReadyH.nil)
      go_simp
      clear hHeld; refine hK.out _ _ S5 (fun hHeld => ?_)
      clear hK K
      try simp only [Act.put, List.getElem_toArray, List.getElem_cons_succ, List.getElem_cons_zero, List.setIfInBounds_toArray, List.set_cons_zero, List.set_cons_succ]
      refine wpAnyH_done (by kernel_rfl) ?_ _
      refine NoPanic.normal ?_
      clear BV V8 V6 V0 S0
      all_goals
        clear hHeld S1 S5 DO CB BU TT RR BW OG HC TV E6 E0 F6 F0 F8 TA RA BA HBL HBV HBB HS1 U6 U0 R2 T2 BY H80 H8
        have yy0 : w4.cell? ⟨g8, 0, none⟩ = some (.slice AL2 r1.L.length cL2) := P8.out.cell 0
        have yy1 : w4.cell? ⟨g8, 1, none⟩ = some (.int .i64 r1.lev) := P8.out.cell 1
        have yy2 : w4.cell? ⟨g8, 2, none⟩ = some (.slice AM2 r1.mods.length cM2) := P8.out.cell 2
        have TB' := Lib.hid (fun y (hb : Below w4.heap.size w4 y) => TB.out.below hb)
        have hlr : r1.L.length ≤ 1000 := by have := ST.out.len; omega
        have LV := Lib.hid (fun y (hb : Below w4.heap.size w4 y) => level_any B T1 r1 y (TB.out.below hb))
        have NM := Lib.hid (fun y (hb : Below w4.heap.size w4 y) => names_any B T1 r1 y (TB.out.below hb) ST.out.lev hlr ST.out.ok)
        have RN := Lib.hid (fun y (hb : Below w4.heap.size w4 y) => refnames_any B AL2 cL2 lx2 AM2 cM2 mx2 r1 y (RB.out.below hb) hlr)
        have NS := Lib.hid (fun A1 A2 c1 c2 B1 B2 y h1 h2 => names_same A1 A2 c1 c2 B1 B2 (namesP r1) y h1 h2 (by have h1 := names_len ST.out; omega))
        rw [HP1.out] at LV NM
        generalize namesP r1 = ns at *
        have BD := Lib.hid ((Below.refl w4.heap.size w4).drew)
        have C := Lib.hid (fun y (hb : Below w4.heap.size w4 y) => show (fun y => y.cell? ⟨g8, 0, none⟩ = some (.slice AL2 r1.L.length cL2) ∧ y.cell? ⟨g8, 1, none⟩ = some (.int .i64 r1.lev) ∧ y.cell? ⟨g8, 2, none⟩ = some (.slice AM2 r1.mods.length cM2)) y from ⟨cell_later yy0 hb, cell_later yy1 hb, cell_later yy2 hb⟩)
        have L0 := C.out w4.drew BD.out
        try simp only [Act.put, List.getElem_toArray, List.getElem_cons_succ, List.getElem_cons_zero, List.setIfInBounds_toArray, List.set_cons_zero, List.set_cons_succ]
        go_wp2_with fail
        clear yy0 yy1 yy2
        go_region_held3 (fun y => y.cell? ⟨g8, 0, none⟩ = some (.slice AL2 r1.L.length cL2) ∧ y.cell? ⟨g8, 1, none⟩ = some (.int .i64 r1.lev) ∧ y.cell? ⟨g8, 2, none⟩ = some (.slice AM2 r1.mods.length cM2))
          (first
            | with_reducible assumption
            | with_reducible exact L0
            | with_reducible exact S2.out
            | with_reducible exact S3x.out
            | with_reducible exact S4x.out
            | fail)
          (first
            | (go_at_call 16; refine (LV.out _ BD.out).mono ?_; rintro e y1 ⟨rfl, rfl⟩)
            | (go_at_call 23; refine (NM.out _ BD.out).mono ?_; rintro e y2 ⟨v2, rfl, ho2, hb2⟩; obtain ⟨A3, c3, rfl⟩ := row_form ho2; have b2 := BD.out.trans (hb2.mono BD.out.size); have S2 := Lib.hid (C.out y2 b2); have B2 := Lib.hid b2; have N2 := Lib.hid ho2; clear ho2 hb2 b2)
            | (go_at_call 24; refine (RN.out _ B2.out).mono ?_; rintro e y3 ⟨v3, rfl, ho3, hb3⟩; obtain ⟨A4, c4, rfl⟩ := row_form ho3; have b3 := B2.out.trans (hb3.mono B2.out.size); have S3x := Lib.hid (C.out y3 b3); have B3 := Lib.hid b3; have N3 := Lib.hid (NS.out A3 A4 c3 c4 _ _ y3 (row_below N2.out hb3) ho3); clear ho3 hb3 b3)
            | (go_at_call 22; refine N3.out.mono ?_; rintro e y4 ⟨rfl, hb4⟩; have b4 := B3.out.trans (hb4.mono B3.out.size); have S4x := Lib.hid (C.out y4 b4); have B4 := Lib.hid b4; clear hb4 b4))
        rename_i hH
        clear hH S2 S3x S4x L0 C LV NM RN NS BD N2 N3 B2 B3 TB'
        have Q8 := Lib.hid (P8.out.below B4.out P8.out.lt)
        have Q6 := Lib.hid (P6.out.below B4.out P6.out.lt)
        have Q0 := Lib.hid (P0.out.below B4.out P0.out.lt)
        have TQ := Lib.hid (TB.out.below B4.out)
        have RQ := Lib.hid (RB.out.below B4.out)
        have BQ := Lib.hid (BZ.out.trans (B4.out.mono (Nat.le_trans HB.out (Nat.le_of_lt P0.out.lt))))
        clear TB RB BZ B4 P8 P6 P0
        have yy0 : y4.cell? ⟨g8, 0, none⟩ = some (.slice AL2 r1.L.length cL2) := Q8.out.cell 0
        have yy1 : y4.cell? ⟨g8, 1, none⟩ = some (.int .i64 r1.lev) := Q8.out.cell 1
        have yy2 : y4.cell? ⟨g8, 2, none⟩ = some (.slice AM2 r1.mods.length cM2) := Q8.out.cell 2
        go_wp2_with (first | (refine wpList_store_row rfl rS (.tmp 6) (.tmp 50) rfl (g6) #[.slice AL2 r1.L.length cL2, .int .i64 r1.lev, .slice AM2 r1.mods.length cM2] rfl rfl rS #[.slice AL s.L.length cL, .int .i64 s.lev, .slice AM s.mods.length cM] Q6.out S3 rfl H1.out ?_; generalize hZZ : (y4).setRow (g6) #[.slice AL2 r1.L.length cL2, .int .i64 r1.lev, .slice AM2 r1.mods.length cM2] = ZZ; have HZZ := Lib.hid hZZ; clear hZZ))
        clear yy0 yy1 yy2 S3 H1
        have K := setRow_kept (S := fun k => k = g6) (us := #[.slice AL2 r1.L.length cL2, .int .i64 r1.lev, .slice AM2 r1.mods.length cM2]) Q6.out rfl
        rw [HZZ.out] at K
        have SX := Lib.hid (Q6.out.setRow #[.slice AL2 r1.L.length cL2, .int .i64 r1.lev, .slice AM2 r1.mods.length cM2]).1
        rw [HZZ.out] at SX
        have hg := GG.out
        have hbg : B ≤ g6 := Nat.le_trans HB.out (Nat.le_of_lt hg)
        have hbx : Boxes y4 B (fun k => k = g6) := fun k hk => by subst hk; exact ⟨hbg, _, Q6.out⟩
        have Q0K := Lib.hid (K.whole Q0.out (fun e => by omega))
        have TK := Lib.hid (TQ.out.boxes K hbx)
        have RK := Lib.hid (RQ.out.boxes K hbx)
        have BK := Lib.hid (KeptS.below BQ.out K (Nat.le_trans HB.out (Nat.le_of_lt Q0.out.lt)) (fun k hk => by subst hk; exact hbg))
        clear K hbx TQ RQ BQ Q0 Q6 Q8
        go_roundw
        case rel => exact ⟨t + 1, T1, AL2, cL2, lx2, AM2, cM2, mx2, r1, by omega, by omega, by go_num, HP1.out, ST.out, TK.out, RK.out, SX.out, Q0K.out, BK.out⟩
        case measure => simp [intOf]; omega
    · have hE : (¬ (t : Int) < n) ∨ ((t : Int) < n ∧ ¬ (t : Int) < 100) := by omega
      have L0 : wr.drew.cell? ⟨g6, 0, none⟩ = some (.slice AL s.L.length cL) ∧ wr.drew.cell? ⟨g6, 1, none⟩ = some (.int .i64 s.lev) ∧ wr.drew.cell? ⟨g6, 2, none⟩ = some (.slice AM s.mods.length cM) := ⟨G6.out.cell 0, G6.out.cell 1, G6.out.cell 2⟩
      have U0 := Lib.hid (show Whole wr.drew w.heap.size rS #[.slice none 0 0, .int .i64 0, .slice none 0 0] from G0.out)
      have U6 := Lib.hid (show Whole wr.drew g6 rS #[.slice AL s.L.length cL, .int .i64 s.lev, .slice AM s.mods.length cM] from G6.out)
      have BU := Lib.hid ((Below.refl wr.heap.size wr).drew)
      have S3 : (Try.prog.info? rS).map (·.size) = some 3 := by kernel_rfl
      have H1 := Lib.hid (show (#[.slice AL s.L.length cL, .int .i64 s.lev, .slice AM s.mods.length cM] : Array Value).all (·.oneCell') = true from by simp [Value.oneCell'])
      clear hlt
      rcases hE with hI | ⟨hI, hI6⟩
      · go_wp2_with fail
        refine wp_region_noPanic ?_
        refine wp_region_held_drew (S := fun y => y.cell? ⟨g6, 0, none⟩ = some (.slice AL s.L.length cL) ∧ y.cell? ⟨g6, 1, none⟩ = some (.int .i64 s.lev) ∧ y.cell? ⟨g6, 2, none⟩ = some (.slice AM s.mods.length cM)) (by kernel_rfl) L0 (fun hHeld => ?_)
        clear L0
        refine wpAnyH_take (i := 0) (oi := _) (v := .pointer (some ⟨T.p, 0, none⟩)) rfl (by kernel_rfl) (by kernel_rfl) (by kernel_rfl) (fun _ _ _ h => h) (Or.inl ⟨by rfl, fun w hSw => by (try dsimp only at hSw); go_simp⟩) (by assumption) ?_
        try simp only [Act.put, List.getElem_toArray, List.getElem_cons_succ, List.getElem_cons_zero, List.setIfInBounds_toArray, List.set_cons_zero, List.set_cons_succ]
        refine wpAnyH_take (i := 1) (oi := _) (v := .agg #[.slice AL s.L.length cL, .int .i64 s.lev, .slice AM s.mods.length cM]) rfl (by kernel_rfl) (by kernel_rfl) (by kernel_rfl) (fun _ _ _ h => h) (Or.inl ⟨by rfl, fun w hSw => by (try dsimp only at hSw); go_simp⟩) (by assumption) ?_
        try simp only [Act.put, List.getElem_toArray, List.getElem_cons_succ, List.getElem_cons_zero, List.setIfInBounds_toArray, List.set_cons_zero, List.set_cons_succ]
        refine wpAnyH_ready (rs := [2]) (by kernel_rfl) (by simp) (AllReadyH.cons (o := _) rfl (fun K hK => ?_) AllReadyH.nil)
        go_simp
        refine hK.out _ _ hHeld (fun hHeld => ?_)
        clear hK K
        try simp only [Act.put, List.getElem_toArray, List.getElem_cons_succ, List.getElem_cons_zero, List.setIfInBounds_toArray, List.set_cons_zero, List.set_cons_succ]
        refine wpAnyH_ready (rs := [3]) (by kernel_rfl) (by simp) (AllReadyH.cons (o := _) rfl (fun K hK => ?_) AllReadyH.nil)
        refine wp_store_row rS (.tmp 3) (.tmp 52) rfl (w.heap.size) #[.slice AL s.L.length cL, .int .i64 s.lev, .slice AM s.mods.length cM] rfl rfl rS #[.slice none 0 0, .int .i64 0, .slice none 0 0] U0.out S3 rfl H1.out ?_
        have K := setRow_kept (S := fun k => k = w.heap.size) (us := #[.slice AL s.L.length cL, .int .i64 s.lev, .slice AM s.mods.length cM]) U0.out rfl
        have SX := (U0.out.setRow #[.slice AL s.L.length cL, .int .i64 s.lev, .slice AM s.mods.length cM]).1
        generalize wr.drew.setRow (w.heap.size) #[.slice AL s.L.length cL, .int .i64 s.lev, .slice AM s.mods.length cM] = ZZ at *
        have V6 := Lib.hid (K.whole U6.out (fun e => by have := GG.out; omega))
        have hbx : Boxes wr.drew B (fun k => k = w.heap.size) := fun k hk => by subst hk; exact ⟨HB.out, _, U0.out⟩
        have TK := (TT.out.below BU.out).boxes K hbx
        have RK := (RR.out.below BU.out).boxes K hbx
        have BK := KeptS.below (BW.out.trans (BU.out.mono (Nat.le_trans HB.out BWS.out))) K (Nat.le_trans HB.out (Nat.le_trans BWS.out BU.out.size)) (fun k hk => by subst hk; exact HB.out)
        have HF := Lib.hid (show PlayedPost B w (.returned (.tuple #[.pointer (some ⟨T.p, 0, none⟩), .agg #[.slice AL s.L.length cL, .int .i64 s.lev, .slice AM s.mods.length cM], .bool true])) ZZ from ⟨T.p, AL, cL, AM, cM, s, rfl, T, lx, mx, t, rfl, ht1, II.out, TK, RK, BK⟩)
        have HSX := Lib.hid SX
        have S5 : ZZ.cell? ⟨g6, 0, none⟩ = some (.slice AL s.L.length cL) ∧ ZZ.cell? ⟨g6, 1, none⟩ = some (.int .i64 s.lev) ∧ ZZ.cell? ⟨g6, 2, none⟩ = some (.slice AM s.mods.length cM) := ⟨V6.out.cell 0, V6.out.cell 1, V6.out.cell 2⟩
        clear K SX TK RK BK hbx V6
        refine hK.out _ _ S5 (fun hHeld => ?_)
        clear hK K
        try simp only [Act.put, List.getElem_toArray, List.getElem_cons_succ, List.getElem_cons_zero, List.setIfInBounds_toArray, List.set_cons_zero, List.set_cons_succ]
        refine wpAnyH_ready (rs := [4]) (by kernel_rfl) (by simp) (AllReadyH.cons (o := _) rfl (fun K hK => ?_) AllReadyH.nil)
        go_simp
        refine hK.out _ _ S5 (fun hHeld => ?_)
        clear hK K
        try simp only [Act.put, List.getElem_toArray, List.getElem_cons_succ, List.getElem_cons_zero, List.setIfInBounds_toArray, List.set_cons_zero, List.set_cons_succ]
        refine wpAnyH_done (by kernel_rfl) ?_ _
        refine NoPanic.normal ?_
        repeat (first | go_values | go_skip | go_guarded | go_step | go_upon)
        have z0 : ZZ.cell? ⟨w.heap.size, 0, none⟩ = some (.slice AL s.L.length cL) := HSX.out.cell 0
        have z1 : ZZ.cell? ⟨w.heap.size, 1, none⟩ = some (.int .i64 s.lev) := HSX.out.cell 1
        have z2 : ZZ.cell? ⟨w.heap.size, 2, none⟩ = some (.slice AM s.mods.length cM) := HSX.out.cell 2
        refine bodyPost_ret (v := .tuple #[.pointer (some ⟨T.p, 0, none⟩), .agg #[.slice AL s.L.length cL, .int .i64 s.lev, .slice AM s.mods.length cM], .bool true]) ?_ rfl HF.out
        clear HF HSX
        simp [results, Try.results7, go_sem, z0, z1, z2]
      · go_wp2_with fail
        refine wp_region_noPanic ?_
        refine wp_region_held_drew (S := fun y => y.cell? ⟨g6, 0, none⟩ = some (.slice AL s.L.length cL) ∧ y.cell? ⟨g6, 1, none⟩ = some (.int .i64 s.lev) ∧ y.cell? ⟨g6, 2, none⟩ = some (.slice AM s.mods.length cM)) (by kernel_rfl) L0 (fun hHeld => ?_)
        clear L0
        refine wpAnyH_take (i := 0) (oi := _) (v := .pointer (some ⟨T.p, 0, none⟩)) rfl (by kernel_rfl) (by kernel_rfl) (by kernel_rfl) (fun _ _ _ h => h) (Or.inl ⟨by rfl, fun w hSw => by (try dsimp only at hSw); go_simp⟩) (by assumption) ?_
        try simp only [Act.put, List.getElem_toArray, List.getElem_cons_succ, List.getElem_cons_zero, List.setIfInBounds_toArray, List.set_cons_zero, List.set_cons_succ]
        refine wpAnyH_take (i := 1) (oi := _) (v := .agg #[.slice AL s.L.length cL, .int .i64 s.lev, .slice AM s.mods.length cM]) rfl (by kernel_rfl) (by kernel_rfl) (by kernel_rfl) (fun _ _ _ h => h) (Or.inl ⟨by rfl, fun w hSw => by (try dsimp only at hSw); go_simp⟩) (by assumption) ?_
        try simp only [Act.put, List.getElem_toArray, List.getElem_cons_succ, List.getElem_cons_zero, List.setIfInBounds_toArray, List.set_cons_zero, List.set_cons_succ]
        refine wpAnyH_ready (rs := [2]) (by kernel_rfl) (by simp) (AllReadyH.cons (o := _) rfl (fun K hK => ?_) AllReadyH.nil)
        go_simp
        refine hK.out _ _ hHeld (fun hHeld => ?_)
        clear hK K
        try simp only [Act.put, List.getElem_toArray, List.getElem_cons_succ, List.getElem_cons_zero, List.setIfInBounds_toArray, List.set_cons_zero, List.set_cons_succ]
        refine wpAnyH_ready (rs := [3]) (by kernel_rfl) (by simp) (AllReadyH.cons (o := _) rfl (fun K hK => ?_) AllReadyH.nil)
        refine wp_store_row rS (.tmp 3) (.tmp 52) rfl (w.heap.size) #[.slice AL s.L.length cL, .int .i64 s.lev, .slice AM s.mods.length cM] rfl rfl rS #[.slice none 0 0, .int .i64 0, .slice none 0 0] U0.out S3 rfl H1.out ?_
        have K := setRow_kept (S := fun k => k = w.heap.size) (us := #[.slice AL s.L.length cL, .int .i64 s.lev, .slice AM s.mods.length cM]) U0.out rfl
        have SX := (U0.out.setRow #[.slice AL s.L.length cL, .int .i64 s.lev, .slice AM s.mods.length cM]).1
        generalize wr.drew.setRow (w.heap.size) #[.slice AL s.L.length cL, .int .i64 s.lev, .slice AM s.mods.length cM] = ZZ at *
        have V6 := Lib.hid (K.whole U6.out (fun e => by have := GG.out; omega))
        have hbx : Boxes wr.drew B (fun k => k = w.heap.size) := fun k hk => by subst hk; exact ⟨HB.out, _, U0.out⟩
        have TK := (TT.out.below BU.out).boxes K hbx
        have RK := (RR.out.below BU.out).boxes K hbx
        have BK := KeptS.below (BW.out.trans (BU.out.mono (Nat.le_trans HB.out BWS.out))) K (Nat.le_trans HB.out (Nat.le_trans BWS.out BU.out.size)) (fun k hk => by subst hk; exact HB.out)
        have HF := Lib.hid (show PlayedPost B w (.returned (.tuple #[.pointer (some ⟨T.p, 0, none⟩), .agg #[.slice AL s.L.length cL, .int .i64 s.lev, .slice AM s.mods.length cM], .bool true])) ZZ from ⟨T.p, AL, cL, AM, cM, s, rfl, T, lx, mx, t, rfl, ht1, II.out, TK, RK, BK⟩)
        have HSX := Lib.hid SX
        have S5 : ZZ.cell? ⟨g6, 0, none⟩ = some (.slice AL s.L.length cL) ∧ ZZ.cell? ⟨g6, 1, none⟩ = some (.int .i64 s.lev) ∧ ZZ.cell? ⟨g6, 2, none⟩ = some (.slice AM s.mods.length cM) := ⟨V6.out.cell 0, V6.out.cell 1, V6.out.cell 2⟩
        clear K SX TK RK BK hbx V6
        refine hK.out _ _ S5 (fun hHeld => ?_)
        clear hK K
        try simp only [Act.put, List.getElem_toArray, List.getElem_cons_succ, List.getElem_cons_zero, List.setIfInBounds_toArray, List.set_cons_zero, List.set_cons_succ]
        refine wpAnyH_ready (rs := [4]) (by kernel_rfl) (by simp) (AllReadyH.cons (o := _) rfl (fun K hK => ?_) AllReadyH.nil)
        go_simp
        refine hK.out _ _ S5 (fun hHeld => ?_)
        clear hK K
        try simp only [Act.put, List.getElem_toArray, List.getElem_cons_succ, List.getElem_cons_zero, List.setIfInBounds_toArray, List.set_cons_zero, List.set_cons_succ]
        refine wpAnyH_done (by kernel_rfl) ?_ _
        refine NoPanic.normal ?_
        repeat (first | go_values | go_skip | go_guarded | go_step | go_upon)
        have z0 : ZZ.cell? ⟨w.heap.size, 0, none⟩ = some (.slice AL s.L.length cL) := HSX.out.cell 0
        have z1 : ZZ.cell? ⟨w.heap.size, 1, none⟩ = some (.int .i64 s.lev) := HSX.out.cell 1
        have z2 : ZZ.cell? ⟨w.heap.size, 2, none⟩ = some (.slice AM s.mods.length cM) := HSX.out.cell 2
        refine bodyPost_ret (v := .tuple #[.pointer (some ⟨T.p, 0, none⟩), .agg #[.slice AL s.L.length cL, .int .i64 s.lev, .slice AM s.mods.length cM], .bool true]) ?_ rfl HF.out
        clear HF HSX
        simp [results, Try.results7, go_sem, z0, z1, z2]
end Go.Proofs.Ytpfoebnlngfebaa
