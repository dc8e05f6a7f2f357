/- Scopes: the answers' Find, Member. -/
import Derived.Test.YtpfoebnlngfebaaScpN
import Derived.Test.YtpfoebnlngfebaaRowSet
namespace Go.Proofs.Ytpfoebnlngfebaa
open Go.ChangeShapes Go.WideShapes Go.ChangeAt Go.RowKit
set_option linter.unusedVariables false
set_option linter.unusedSimpArgs false

set_option maxHeartbeats 16000000 in
set_option maxRecDepth 100000 in
theorem reffind_any (B : Nat) (AL : Option Addr) (cL : Nat) (lx : List Ox) (AM : Option Addr) (cM : Nat) (mx : List (Value × List Ox)) (s : Stt) (nm : ByteArray) (w : World) (h : RefIn w B AL cL lx AM cM mx s) (hB : B ≤ w.heap.size) (hl : s.lev ≤ 64) (hlen : s.L.length ≤ 1000) :
    Calls Try.prog 12 #[.agg #[.slice AL s.L.length cL, .int .i64 s.lev, .slice AM s.mods.length cM], .string nm] w (FoundPost B w (findP s nm)) := by
  have H := Lib.hid h
  have HB := Lib.hid hB
  have HL := Lib.hid (And.intro hl hlen)
  have b1 := (Below.refl w.heap.size w).alloc (Nat.le_refl _) (.cells #[.slice AL s.L.length cL, .int .i64 s.lev, .slice AM s.mods.length cM] rS)
  have b2 := b1.alloc b1.size (.cells #[.string ⟨#[]⟩, .int .i64 0, .int .i64 0, .int .i64 0, .int .i32 0, .int .i64 0, .bool false, .slice none 0 0] rO)
  have BV := Lib.hid b2
  have XQ := Lib.hid ((Whole.made w rS #[.slice AL s.L.length cL, .int .i64 s.lev, .slice AM s.mods.length cM] _ rfl).alloc (.cells #[.string ⟨#[]⟩, .int .i64 0, .int .i64 0, .int .i64 0, .int .i32 0, .int .i64 0, .bool false, .slice none 0 0] rO))
  have XV := Lib.hid (Whole.made (w.alloc (.cells #[.slice AL s.L.length cL, .int .i64 s.lev, .slice AM s.mods.length cM] rS)) rO #[.string ⟨#[]⟩, .int .i64 0, .int .i64 0, .int .i64 0, .int .i32 0, .int .i64 0, .bool false, .slice none 0 0] (w.heap.size + 1) (by simp))
  have RR := Lib.hid (show findN s nm (s.lev + 1) = findP s nm from rfl)
  have hln := h.len.1
  have HLN := Lib.hid hln
  clear h hB b1 b2 hln
  generalize findP s nm = r at *
  unfold FoundPost
  go_enter Try.func12, Try.ntmps12
  go_wp2_with fail
  generalize ((w.alloc (.cells #[.slice AL s.L.length cL, .int .i64 s.lev, .slice AM s.mods.length cM] rS)).alloc (.cells #[.string ⟨#[]⟩, .int .i64 0, .int .i64 0, .int .i64 0, .int .i32 0, .int .i64 0, .bool false, .slice none 0 0] rO)) = V at *
  go_loopw [6, 7] (fun i _ wr => ∃ k : Nat, k ≤ s.lev + 1 ∧ i = .int .i64 ((k : Int) - 1) ∧ Below w.heap.size w wr ∧ Whole wr w.heap.size rS #[.slice AL s.L.length cL, .int .i64 s.lev, .slice AM s.mods.length cM] ∧ Whole wr (w.heap.size + 1) rO #[.string ⟨#[]⟩, .int .i64 0, .int .i64 0, .int .i64 0, .int .i32 0, .int .i64 0, .bool false, .slice none 0 0] ∧ findN s nm k = r) (fun i _ _ => (intOf i + 1).toNat)
  case atStart => exact ⟨s.lev + 1, Nat.le_refl _, by congr 1; omega, BV.out, XQ.out, XV.out, RR.out⟩
  case round =>
    clear BV XV XQ RR
    obtain ⟨k, hk, rfl, hb, hq, hx, hr⟩ := hrel
    have BW := Lib.hid hb
    have XW := Lib.hid hx
    have QW := Lib.hid hq
    have HR := Lib.hid hr
    clear hb hx hr hq
    cases k with
    | zero =>
      rw [show (((0 : Nat) : Int) - 1) = -1 from rfl]
      have hrn : r = none := HR.out.symm
      clear HR
      subst hrn
      have H8 : (Try.prog.info? rO).map (·.size) = some 8 := by kernel_rfl
      have H1 := Lib.hid (show (#[.string ⟨#[]⟩, .int .i64 0, .int .i64 0, .int .i64 0, .int .i32 0, .int .i64 0, .bool false, .slice none 0 0] : Array Value).all (·.oneCell') = true from by simp [Value.oneCell'])
      repeat (first | (go_big_may; first | (refine wpList_store_row rfl rO (.tmp 4) (.tmp 25) rfl (w.heap.size + 1) #[.string ⟨#[]⟩, .int .i64 0, .int .i64 0, .int .i64 0, .int .i32 0, .int .i64 0, .bool false, .slice none 0 0] rfl rfl rO #[.string ⟨#[]⟩, .int .i64 0, .int .i64 0, .int .i64 0, .int .i32 0, .int .i64 0, .bool false, .slice none 0 0] XW.out H8 rfl H1.out ?_; generalize hZZ : (wr).setRow (w.heap.size + 1) #[.string ⟨#[]⟩, .int .i64 0, .int .i64 0, .int .i64 0, .int .i32 0, .int .i64 0, .bool false, .slice none 0 0] = ZZ; have HZZ := Lib.hid hZZ; clear hZZ)) | go_values | go_skip | go_guarded | go_step | go_upon)
      have SX := Lib.hid (XW.out.setRow #[.string ⟨#[]⟩, .int .i64 0, .int .i64 0, .int .i64 0, .int .i32 0, .int .i64 0, .bool false, .slice none 0 0])
      rw [HZZ.out] at SX
      have B5 := Lib.hid (show Below w.heap.size w ZZ from BW.out.grown SX.out.2 BW.out.size (fun b hb => by injection hb with hb; omega))
      have W9 := SX.out.1
      have x0 : ZZ.cell? ⟨w.heap.size + 1, 0, none⟩ = some (.string ⟨#[]⟩) := W9.cell 0
      have x1 : ZZ.cell? ⟨w.heap.size + 1, 1, none⟩ = some (.int .i64 0) := W9.cell 1
      have x2 : ZZ.cell? ⟨w.heap.size + 1, 2, none⟩ = some (.int .i64 0) := W9.cell 2
      have x3 : ZZ.cell? ⟨w.heap.size + 1, 3, none⟩ = some (.int .i64 0) := W9.cell 3
      have x4 : ZZ.cell? ⟨w.heap.size + 1, 4, none⟩ = some (.int .i32 0) := W9.cell 4
      have x5 : ZZ.cell? ⟨w.heap.size + 1, 5, none⟩ = some (.int .i64 0) := W9.cell 5
      have x6 : ZZ.cell? ⟨w.heap.size + 1, 6, none⟩ = some (.bool false) := W9.cell 6
      have x7 : ZZ.cell? ⟨w.heap.size + 1, 7, none⟩ = some (.slice none 0 0) := W9.cell 7
      refine bodyPost_ret (v := .tuple #[.agg #[.string ⟨#[]⟩, .int .i64 0, .int .i64 0, .int .i64 0, .int .i32 0, .int .i64 0, .bool false, .slice none 0 0], .int .i64 110]) ?_ rfl ⟨none, 0, rfl, B5.out, ParV.nil _ _⟩
      clear B5 SX W9
      simp [results, Try.results12, go_sem, x0, x1, x2, x3, x4, x5, x6, x7]
    | succ m =>
      rw [show (((m + 1 : Nat) : Int) - 1) = (m : Int) by omega]
      have hmI0 : (0 : Int) ≤ m := by omega
      have IX := Lib.hid (at_any B AL cL lx AM cM mx s m nm wr (H.out.below BW.out) hlen)
      have q0 : wr.cell? ⟨w.heap.size, 0, none⟩ = some (.slice AL s.L.length cL) := QW.out.cell 0
      have q1 : wr.cell? ⟨w.heap.size, 1, none⟩ = some (.int .i64 s.lev) := QW.out.cell 1
      have q2 : wr.cell? ⟨w.heap.size, 2, none⟩ = some (.slice AM s.mods.length cM) := QW.out.cell 2
      go_wp2_with fail
      refine IX.out.mono ?_
      rintro e w2 ⟨rfl, hb2⟩
      have B2 := Lib.hid (BW.out.trans (hb2.mono BW.out.size))
      have X2 := Lib.hid (XW.out.below hb2 XW.out.lt)
      have Q2 := Lib.hid (QW.out.below hb2 QW.out.lt)
      clear hb2 IX BW XW QW q0 q1 q2
      rcases at_idx s m nm with ⟨h1, h2⟩ | ⟨n, h0, h1, h2⟩
      · rw [h2]
        have HR2 := Lib.hid (show findN s nm m = r from by
          have h := HR.out
          unfold findN at h
          rw [h1] at h
          exact h)
        clear h1 h2 HR
        go_wp2_with fail
        go_roundw
        case rel => exact ⟨m, by omega, rfl, B2.out, Q2.out, X2.out, HR2.out⟩
        case measure => simp [intOf]
      · rw [h1]
        have hrs : some (s.L.getD n zO) = r := by
          have h := HR.out
          unfold findN at h
          rw [h2] at h
          exact h
        have hn' : n < lx.length := by rw [HLN.out]; exact h0
        have hrow := (H.out.below B2.out).rows
        rw [← HLN.out] at hrow
        obtain ⟨g, hA, hcap, _, hgl, nm', kd, ty, lv, nn, md, ou, ps, Ap, cp, hX, hpar, hg⟩ := hrow.at hn'
        subst hA
        rw [← H.out.same, show (lx.map (·.1)).getD n zO = (lx.getD n zX).1 by simp [List.getD, hn'], hX] at hrs
        subst hrs
        have hn0 : (n : Int) < s.L.length := by omega
        have HP := Lib.hid hpar
        have qa : w2.cell? ⟨w.heap.size, 0, none⟩ = some (.slice (some ⟨g, 0, none⟩) s.L.length cL) := Q2.out.cell 0
        have y0 : w2.cell? ⟨g, n * 8, none⟩ = some (.string nm') := (hg 0 _ rfl).1
        have y1 : w2.cell? ⟨g, n * 8 + 1, none⟩ = some (.int .i64 kd) := (hg 1 _ rfl).1
        have y2 : w2.cell? ⟨g, n * 8 + 2, none⟩ = some (.int .i64 ty) := (hg 2 _ rfl).1
        have y3 : w2.cell? ⟨g, n * 8 + 3, none⟩ = some (.int .i64 lv) := (hg 3 _ rfl).1
        have y4 : w2.cell? ⟨g, n * 8 + 4, none⟩ = some (.int .i32 nn) := (hg 4 _ rfl).1
        have y5 : w2.cell? ⟨g, n * 8 + 5, none⟩ = some (.int .i64 md) := (hg 5 _ rfl).1
        have y6 : w2.cell? ⟨g, n * 8 + 6, none⟩ = some (.bool ou) := (hg 6 _ rfl).1
        have y7 : w2.cell? ⟨g, n * 8 + 7, none⟩ = some (.slice Ap ps.length cp) := (hg 7 _ rfl).1
        clear hg hX hpar hrow HR h1 h2 h0 hn'
        simp only []
        go_at_K
        have H8 : (Try.prog.info? rO).map (·.size) = some 8 := by kernel_rfl
        have H1 := Lib.hid (show (#[.string nm', .int .i64 kd, .int .i64 ty, .int .i64 lv, .int .i32 nn, .int .i64 md, .bool ou, .slice Ap ps.length cp] : Array Value).all (·.oneCell') = true from by simp [Value.oneCell'])
        repeat (first | (go_big_may; first | (refine wpList_store_row rfl rO (.tmp 4) (.tmp 24) rfl (w.heap.size + 1) #[.string nm', .int .i64 kd, .int .i64 ty, .int .i64 lv, .int .i32 nn, .int .i64 md, .bool ou, .slice Ap ps.length cp] rfl rfl rO #[.string ⟨#[]⟩, .int .i64 0, .int .i64 0, .int .i64 0, .int .i32 0, .int .i64 0, .bool false, .slice none 0 0] X2.out H8 rfl H1.out ?_; generalize hZZ : (w2).setRow (w.heap.size + 1) #[.string nm', .int .i64 kd, .int .i64 ty, .int .i64 lv, .int .i32 nn, .int .i64 md, .bool ou, .slice Ap ps.length cp] = ZZ; have HZZ := Lib.hid hZZ; clear hZZ)) | go_values | go_skip | go_guarded | go_step | go_upon)
        have SX := Lib.hid (X2.out.setRow #[.string nm', .int .i64 kd, .int .i64 ty, .int .i64 lv, .int .i32 nn, .int .i64 md, .bool ou, .slice Ap ps.length cp])
        rw [HZZ.out] at SX
        have B5 := Lib.hid (show Below w.heap.size w ZZ from B2.out.grown SX.out.2 B2.out.size (fun b hb => by injection hb with hb; omega))
        have W9 := SX.out.1
        have x0 : ZZ.cell? ⟨w.heap.size + 1, 0, none⟩ = some (.string nm') := W9.cell 0
        have x1 : ZZ.cell? ⟨w.heap.size + 1, 1, none⟩ = some (.int .i64 kd) := W9.cell 1
        have x2 : ZZ.cell? ⟨w.heap.size + 1, 2, none⟩ = some (.int .i64 ty) := W9.cell 2
        have x3 : ZZ.cell? ⟨w.heap.size + 1, 3, none⟩ = some (.int .i64 lv) := W9.cell 3
        have x4 : ZZ.cell? ⟨w.heap.size + 1, 4, none⟩ = some (.int .i32 nn) := W9.cell 4
        have x5 : ZZ.cell? ⟨w.heap.size + 1, 5, none⟩ = some (.int .i64 md) := W9.cell 5
        have x6 : ZZ.cell? ⟨w.heap.size + 1, 6, none⟩ = some (.bool ou) := W9.cell 6
        have x7 : ZZ.cell? ⟨w.heap.size + 1, 7, none⟩ = some (.slice Ap ps.length cp) := W9.cell 7
        refine bodyPost_ret (v := .tuple #[.agg #[.string nm', .int .i64 kd, .int .i64 ty, .int .i64 lv, .int .i32 nn, .int .i64 md, .bool ou, .slice Ap ps.length cp], .int .i64 0]) ?_ rfl ⟨Ap, cp, rfl, B5.out, HP.out.grown X2.out (by decide) (by have := HB.out; omega) SX.out.2⟩
        clear B5 SX W9
        simp [results, Try.results12, go_sem, x0, x1, x2, x3, x4, x5, x6, x7]

theorem find_drop {α : Type} (p : α → Bool) (l : List α) (t : Nat) (d : α) (ht : t < l.length) : (l.drop t).find? p = if p (l.getD t d) then some (l.getD t d) else (l.drop (t + 1)).find? p := by
  have e : l.getD t d = l[t] := by rw [List.getD_eq_getElem?_getD, List.getElem?_eq_getElem ht]; rfl
  rw [e, List.drop_eq_getElem_cons ht, List.find?_cons]
  cases p l[t] <;> rfl

/-- A module of the answers'. -/
theorem RefIn.mod {w : World} {B : Nat} {AL : Option Addr} {cL : Nat} {lx : List Ox} {AM : Option Addr} {cM : Nat} {mx : List (Value × List Ox)} {s : Stt} (h : RefIn w B AL cL lx AM cM mx s) {t : Nat} (ht : t < s.mods.length) :
    ∃ g A c l, AM = some ⟨g, 0, none⟩ ∧ w.cell? ⟨g, t, none⟩ = some (.slice A l.length c) ∧ RowO rO w B B (.slice A l.length c) l ∧ s.mods.getD t [] = l.map (·.1) := by
  have hmx := h.len.2
  have hm := h.mods
  have ht' : t < mx.length := by omega
  have hcell : ∀ g, AM = some ⟨g, 0, none⟩ → w.cell? ⟨g, t, none⟩ = some mx[t].1 := fun g e => by
    subst e
    have := World.ownsRow.cells hm (g := g) rfl t mx[t].1 (by rw [List.getElem?_map, List.getElem?_eq_getElem ht']; rfl)
    simpa [Go.WideShapes.add_plain] using this
  rcases hm.2 with ⟨_, h2⟩ | ⟨g, cap, cur, h1, _⟩
  · omega
  · injection h1 with h1 _ _
    have hr := h.mrows mx[t] (List.getElem_mem ht')
    obtain ⟨A, c, hf⟩ := row_form hr.row
    rw [hf] at hr
    refine ⟨g, A, c, mx[t].2, h1, by rw [← hf]; exact hcell g h1, hr, ?_⟩
    rw [← h.msame]
    simp [List.getD, ht']

set_option maxHeartbeats 16000000 in
set_option maxRecDepth 100000 in
theorem refmember_out (B : Nat) (AL : Option Addr) (cL : Nat) (lx : List Ox) (AM : Option Addr) (cM : Nat) (mx : List (Value × List Ox)) (s : Stt) (m : Int) (nm : ByteArray) (w : World) (h : RefIn w B AL cL lx AM cM mx s) (hB : B ≤ w.heap.size) (hml : s.mods.length ≤ 64) (hok : ∀ m ∈ s.mods, m.length * 64 ≤ 140737488355328) (hbad : m < 1 ∨ (s.mods.length : Int) < m) :
    Calls Try.prog 14 #[.agg #[.slice AL s.L.length cL, .int .i64 s.lev, .slice AM s.mods.length cM], .int .i64 m, .string nm] w (FoundPost B w (memberP s m nm)) := by
  have DP : memberP s m nm = none := if_pos hbad
  rw [DP]
  clear DP
  have b1 := (Below.refl w.heap.size w).alloc (Nat.le_refl _) (.cells #[.slice AL s.L.length cL, .int .i64 s.lev, .slice AM s.mods.length cM] rS)
  have b2 := b1.alloc b1.size (.cells #[.string ⟨#[]⟩, .int .i64 0, .int .i64 0, .int .i64 0, .int .i32 0, .int .i64 0, .bool false, .slice none 0 0] rO)
  have BV := Lib.hid b2
  have XQ := Lib.hid ((Whole.made w rS #[.slice AL s.L.length cL, .int .i64 s.lev, .slice AM s.mods.length cM] _ rfl).alloc (.cells #[.string ⟨#[]⟩, .int .i64 0, .int .i64 0, .int .i64 0, .int .i32 0, .int .i64 0, .bool false, .slice none 0 0] rO))
  have XV := Lib.hid (Whole.made (w.alloc (.cells #[.slice AL s.L.length cL, .int .i64 s.lev, .slice AM s.mods.length cM] rS)) rO #[.string ⟨#[]⟩, .int .i64 0, .int .i64 0, .int .i64 0, .int .i32 0, .int .i64 0, .bool false, .slice none 0 0] (w.heap.size + 1) (by simp))
  have q2 : ((w.alloc (.cells #[.slice AL s.L.length cL, .int .i64 s.lev, .slice AM s.mods.length cM] rS)).alloc (.cells #[.string ⟨#[]⟩, .int .i64 0, .int .i64 0, .int .i64 0, .int .i32 0, .int .i64 0, .bool false, .slice none 0 0] rO)).cell? ⟨w.heap.size, 2, none⟩ = some (.slice AM s.mods.length cM) := XQ.out.cell 2
  clear h b1 b2 hok hB
  unfold FoundPost
  by_cases h1 : m < 1
  · go_enter Try.func14, Try.ntmps14
    repeat (first | go_values | go_skip | go_guarded | go_step | go_upon)
    have x0 : ((w.alloc (.cells #[.slice AL s.L.length cL, .int .i64 s.lev, .slice AM s.mods.length cM] rS)).alloc (.cells #[.string ⟨#[]⟩, .int .i64 0, .int .i64 0, .int .i64 0, .int .i32 0, .int .i64 0, .bool false, .slice none 0 0] rO)).cell? ⟨w.heap.size + 1, 0, none⟩ = some (.string ⟨#[]⟩) := XV.out.cell 0
    have x1 : ((w.alloc (.cells #[.slice AL s.L.length cL, .int .i64 s.lev, .slice AM s.mods.length cM] rS)).alloc (.cells #[.string ⟨#[]⟩, .int .i64 0, .int .i64 0, .int .i64 0, .int .i32 0, .int .i64 0, .bool false, .slice none 0 0] rO)).cell? ⟨w.heap.size + 1, 1, none⟩ = some (.int .i64 0) := XV.out.cell 1
    have x2 : ((w.alloc (.cells #[.slice AL s.L.length cL, .int .i64 s.lev, .slice AM s.mods.length cM] rS)).alloc (.cells #[.string ⟨#[]⟩, .int .i64 0, .int .i64 0, .int .i64 0, .int .i32 0, .int .i64 0, .bool false, .slice none 0 0] rO)).cell? ⟨w.heap.size + 1, 2, none⟩ = some (.int .i64 0) := XV.out.cell 2
    have x3 : ((w.alloc (.cells #[.slice AL s.L.length cL, .int .i64 s.lev, .slice AM s.mods.length cM] rS)).alloc (.cells #[.string ⟨#[]⟩, .int .i64 0, .int .i64 0, .int .i64 0, .int .i32 0, .int .i64 0, .bool false, .slice none 0 0] rO)).cell? ⟨w.heap.size + 1, 3, none⟩ = some (.int .i64 0) := XV.out.cell 3
    have x4 : ((w.alloc (.cells #[.slice AL s.L.length cL, .int .i64 s.lev, .slice AM s.mods.length cM] rS)).alloc (.cells #[.string ⟨#[]⟩, .int .i64 0, .int .i64 0, .int .i64 0, .int .i32 0, .int .i64 0, .bool false, .slice none 0 0] rO)).cell? ⟨w.heap.size + 1, 4, none⟩ = some (.int .i32 0) := XV.out.cell 4
    have x5 : ((w.alloc (.cells #[.slice AL s.L.length cL, .int .i64 s.lev, .slice AM s.mods.length cM] rS)).alloc (.cells #[.string ⟨#[]⟩, .int .i64 0, .int .i64 0, .int .i64 0, .int .i32 0, .int .i64 0, .bool false, .slice none 0 0] rO)).cell? ⟨w.heap.size + 1, 5, none⟩ = some (.int .i64 0) := XV.out.cell 5
    have x6 : ((w.alloc (.cells #[.slice AL s.L.length cL, .int .i64 s.lev, .slice AM s.mods.length cM] rS)).alloc (.cells #[.string ⟨#[]⟩, .int .i64 0, .int .i64 0, .int .i64 0, .int .i32 0, .int .i64 0, .bool false, .slice none 0 0] rO)).cell? ⟨w.heap.size + 1, 6, none⟩ = some (.bool false) := XV.out.cell 6
    have x7 : ((w.alloc (.cells #[.slice AL s.L.length cL, .int .i64 s.lev, .slice AM s.mods.length cM] rS)).alloc (.cells #[.string ⟨#[]⟩, .int .i64 0, .int .i64 0, .int .i64 0, .int .i32 0, .int .i64 0, .bool false, .slice none 0 0] rO)).cell? ⟨w.heap.size + 1, 7, none⟩ = some (.slice none 0 0) := XV.out.cell 7
    refine bodyPost_ret (v := .tuple #[.agg #[.string ⟨#[]⟩, .int .i64 0, .int .i64 0, .int .i64 0, .int .i32 0, .int .i64 0, .bool false, .slice none 0 0], .int .i64 110]) ?_ rfl ⟨none, 0, rfl, BV.out, ParV.nil _ _⟩
    clear BV XV
    generalize ((w.alloc (.cells #[.slice AL s.L.length cL, .int .i64 s.lev, .slice AM s.mods.length cM] rS)).alloc (.cells #[.string ⟨#[]⟩, .int .i64 0, .int .i64 0, .int .i64 0, .int .i32 0, .int .i64 0, .bool false, .slice none 0 0] rO)) = Z at *
    simp [results, Try.results14, go_sem, x0, x1, x2, x3, x4, x5, x6, x7]
  · have h2 : (s.mods.length : Int) < m := hbad.resolve_left h1
    clear hbad
    go_enter Try.func14, Try.ntmps14
    repeat (first | go_values | go_skip | go_guarded | go_step | go_upon)
    have x0 : ((w.alloc (.cells #[.slice AL s.L.length cL, .int .i64 s.lev, .slice AM s.mods.length cM] rS)).alloc (.cells #[.string ⟨#[]⟩, .int .i64 0, .int .i64 0, .int .i64 0, .int .i32 0, .int .i64 0, .bool false, .slice none 0 0] rO)).cell? ⟨w.heap.size + 1, 0, none⟩ = some (.string ⟨#[]⟩) := XV.out.cell 0
    have x1 : ((w.alloc (.cells #[.slice AL s.L.length cL, .int .i64 s.lev, .slice AM s.mods.length cM] rS)).alloc (.cells #[.string ⟨#[]⟩, .int .i64 0, .int .i64 0, .int .i64 0, .int .i32 0, .int .i64 0, .bool false, .slice none 0 0] rO)).cell? ⟨w.heap.size + 1, 1, none⟩ = some (.int .i64 0) := XV.out.cell 1
    have x2 : ((w.alloc (.cells #[.slice AL s.L.length cL, .int .i64 s.lev, .slice AM s.mods.length cM] rS)).alloc (.cells #[.string ⟨#[]⟩, .int .i64 0, .int .i64 0, .int .i64 0, .int .i32 0, .int .i64 0, .bool false, .slice none 0 0] rO)).cell? ⟨w.heap.size + 1, 2, none⟩ = some (.int .i64 0) := XV.out.cell 2
    have x3 : ((w.alloc (.cells #[.slice AL s.L.length cL, .int .i64 s.lev, .slice AM s.mods.length cM] rS)).alloc (.cells #[.string ⟨#[]⟩, .int .i64 0, .int .i64 0, .int .i64 0, .int .i32 0, .int .i64 0, .bool false, .slice none 0 0] rO)).cell? ⟨w.heap.size + 1, 3, none⟩ = some (.int .i64 0) := XV.out.cell 3
    have x4 : ((w.alloc (.cells #[.slice AL s.L.length cL, .int .i64 s.lev, .slice AM s.mods.length cM] rS)).alloc (.cells #[.string ⟨#[]⟩, .int .i64 0, .int .i64 0, .int .i64 0, .int .i32 0, .int .i64 0, .bool false, .slice none 0 0] rO)).cell? ⟨w.heap.size + 1, 4, none⟩ = some (.int .i32 0) := XV.out.cell 4
    have x5 : ((w.alloc (.cells #[.slice AL s.L.length cL, .int .i64 s.lev, .slice AM s.mods.length cM] rS)).alloc (.cells #[.string ⟨#[]⟩, .int .i64 0, .int .i64 0, .int .i64 0, .int .i32 0, .int .i64 0, .bool false, .slice none 0 0] rO)).cell? ⟨w.heap.size + 1, 5, none⟩ = some (.int .i64 0) := XV.out.cell 5
    have x6 : ((w.alloc (.cells #[.slice AL s.L.length cL, .int .i64 s.lev, .slice AM s.mods.length cM] rS)).alloc (.cells #[.string ⟨#[]⟩, .int .i64 0, .int .i64 0, .int .i64 0, .int .i32 0, .int .i64 0, .bool false, .slice none 0 0] rO)).cell? ⟨w.heap.size + 1, 6, none⟩ = some (.bool false) := XV.out.cell 6
    have x7 : ((w.alloc (.cells #[.slice AL s.L.length cL, .int .i64 s.lev, .slice AM s.mods.length cM] rS)).alloc (.cells #[.string ⟨#[]⟩, .int .i64 0, .int .i64 0, .int .i64 0, .int .i32 0, .int .i64 0, .bool false, .slice none 0 0] rO)).cell? ⟨w.heap.size + 1, 7, none⟩ = some (.slice none 0 0) := XV.out.cell 7
    refine bodyPost_ret (v := .tuple #[.agg #[.string ⟨#[]⟩, .int .i64 0, .int .i64 0, .int .i64 0, .int .i32 0, .int .i64 0, .bool false, .slice none 0 0], .int .i64 110]) ?_ rfl ⟨none, 0, rfl, BV.out, ParV.nil _ _⟩
    clear BV XV
    generalize ((w.alloc (.cells #[.slice AL s.L.length cL, .int .i64 s.lev, .slice AM s.mods.length cM] rS)).alloc (.cells #[.string ⟨#[]⟩, .int .i64 0, .int .i64 0, .int .i64 0, .int .i32 0, .int .i64 0, .bool false, .slice none 0 0] rO)) = Z at *
    simp [results, Try.results14, go_sem, x0, x1, x2, x3, x4, x5, x6, x7]

set_option maxHeartbeats 16000000 in
set_option maxRecDepth 100000 in
theorem refmember_in (B : Nat) (AL : Option Addr) (cL : Nat) (lx : List Ox) (AM : Option Addr) (cM : Nat) (mx : List (Value × List Ox)) (s : Stt) (k : Nat) (nm : ByteArray) (w : World) (h : RefIn w B AL cL lx AM cM mx s) (hB : B ≤ w.heap.size) (hml : s.mods.length ≤ 64) (hok : ∀ m ∈ s.mods, m.length * 64 ≤ 140737488355328) (ht : k < s.mods.length) :
    Calls Try.prog 14 #[.agg #[.slice AL s.L.length cL, .int .i64 s.lev, .slice AM s.mods.length cM], .int .i64 ((k : Int) + 1), .string nm] w (FoundPost B w (memberP s ((k : Int) + 1) nm)) := by
  rw [memberP_in nm ht]
  have b1 := (Below.refl w.heap.size w).alloc (Nat.le_refl _) (.cells #[.slice AL s.L.length cL, .int .i64 s.lev, .slice AM s.mods.length cM] rS)
  have b2 := b1.alloc b1.size (.cells #[.string ⟨#[]⟩, .int .i64 0, .int .i64 0, .int .i64 0, .int .i32 0, .int .i64 0, .bool false, .slice none 0 0] rO)
  have BV := Lib.hid b2
  have XQ := Lib.hid ((Whole.made w rS #[.slice AL s.L.length cL, .int .i64 s.lev, .slice AM s.mods.length cM] _ rfl).alloc (.cells #[.string ⟨#[]⟩, .int .i64 0, .int .i64 0, .int .i64 0, .int .i32 0, .int .i64 0, .bool false, .slice none 0 0] rO))
  have XV := Lib.hid (Whole.made (w.alloc (.cells #[.slice AL s.L.length cL, .int .i64 s.lev, .slice AM s.mods.length cM] rS)) rO #[.string ⟨#[]⟩, .int .i64 0, .int .i64 0, .int .i64 0, .int .i32 0, .int .i64 0, .bool false, .slice none 0 0] (w.heap.size + 1) (by simp))
  obtain ⟨g0, A, c, l, hAM, hcell, hrow, hlm⟩ := (h.below b2).mod ht
  subst hAM
  have hokm := hok (s.mods.getD k []) (by rw [List.getD_eq_getElem?_getD, List.getElem?_eq_getElem ht]; exact List.getElem_mem ht)
  rw [hlm] at hokm ⊢
  rw [List.length_map] at hokm
  have q2 : ((w.alloc (.cells #[.slice AL s.L.length cL, .int .i64 s.lev, .slice (some ⟨g0, 0, none⟩) s.mods.length cM] rS)).alloc (.cells #[.string ⟨#[]⟩, .int .i64 0, .int .i64 0, .int .i64 0, .int .i32 0, .int .i64 0, .bool false, .slice none 0 0] rO)).cell? ⟨w.heap.size, 2, none⟩ = some (.slice (some ⟨g0, 0, none⟩) s.mods.length cM) := XQ.out.cell 2
  have h1 : ¬ ((k : Int) + 1 < 1) := by omega
  have h2 : ¬ ((s.mods.length : Int) < (k : Int) + 1) := by omega
  have h3 : (k : Int) < s.mods.length := by omega
  have HR := Lib.hid hrow
  have HB := Lib.hid hB
  have RR := Lib.hid (show ((l.map (·.1)).drop 0).find? (nameIs nm) = (l.map (·.1)).find? (nameIs nm) from rfl)
  clear h b1 b2 hok hB hlm hrow
  generalize (l.map (·.1)).find? (nameIs nm) = r at *
  unfold FoundPost
  go_enter Try.func14, Try.ntmps14
  go_wp2_with fail
  generalize ((w.alloc (.cells #[.slice AL s.L.length cL, .int .i64 s.lev, .slice (some ⟨g0, 0, none⟩) s.mods.length cM] rS)).alloc (.cells #[.string ⟨#[]⟩, .int .i64 0, .int .i64 0, .int .i64 0, .int .i32 0, .int .i64 0, .bool false, .slice none 0 0] rO)) = V at *
  clear q2 hcell
  go_loopw [9] (fun i wr => ∃ t : Nat, t ≤ l.length ∧ i = .int .i64 t ∧ Below V.heap.size V wr ∧ ((l.map (·.1)).drop t).find? (nameIs nm) = r) (fun i _ => l.length - (intOf i).toNat)
  case atStart => exact ⟨0, Nat.zero_le _, rfl, Below.refl _ _, RR.out⟩
  case round =>
    obtain ⟨t, ht', rfl, hb, hr⟩ := hrel
    have BW := Lib.hid (BV.out.trans (hb.mono BV.out.size))
    have XW := Lib.hid (XV.out.below hb XV.out.lt)
    have BVR := Lib.hid hb
    have HRR := Lib.hid hr
    clear hb hr RR
    by_cases hlt : t < l.length
    · have hI : (t : Int) < l.length := by omega
      obtain ⟨g, rfl, hcap, _, hgl, nm', kd, ty, lv, nn, md, ou, ps, Ap, cp, hX, hpar, hg⟩ := (HR.out.below BVR.out).at hlt
      have E := HRR.out.symm.trans (find_drop (nameIs nm) (l.map (·.1)) t zO (by rw [List.length_map]; exact hlt))
      rw [show (l.map (·.1)).getD t zO = (l.getD t zX).1 by simp [List.getD, hlt], hX] at E
      have E2 := Lib.hid E
      have PA := Lib.hid (show nameIs nm ⟨nm', kd, ty, lv, nn, md, ou, ps⟩ = (nm'.toList == nm.toList) from rfl)
      have HP := Lib.hid hpar
      have y0 : wr.cell? ⟨g, t * 8, none⟩ = some (.string nm') := (hg 0 _ rfl).1
      have y1 : wr.cell? ⟨g, t * 8 + 1, none⟩ = some (.int .i64 kd) := (hg 1 _ rfl).1
      have y2 : wr.cell? ⟨g, t * 8 + 2, none⟩ = some (.int .i64 ty) := (hg 2 _ rfl).1
      have y3 : wr.cell? ⟨g, t * 8 + 3, none⟩ = some (.int .i64 lv) := (hg 3 _ rfl).1
      have y4 : wr.cell? ⟨g, t * 8 + 4, none⟩ = some (.int .i32 nn) := (hg 4 _ rfl).1
      have y5 : wr.cell? ⟨g, t * 8 + 5, none⟩ = some (.int .i64 md) := (hg 5 _ rfl).1
      have y6 : wr.cell? ⟨g, t * 8 + 6, none⟩ = some (.bool ou) := (hg 6 _ rfl).1
      have y7 : wr.cell? ⟨g, t * 8 + 7, none⟩ = some (.slice Ap ps.length cp) := (hg 7 _ rfl).1
      clear hg hX hpar HRR E
      cases hq : (nm'.toList == nm.toList) with
      | true =>
        have hrs := E2.out.trans (if_pos (by rw [PA.out, hq]))
        clear E2 PA
        subst hrs
        have H8 : (Try.prog.info? rO).map (·.size) = some 8 := by kernel_rfl
        have H1 := Lib.hid (show (#[.string nm', .int .i64 kd, .int .i64 ty, .int .i64 lv, .int .i32 nn, .int .i64 md, .bool ou, .slice Ap ps.length cp] : Array Value).all (·.oneCell') = true from by simp [Value.oneCell'])
        repeat (first | (go_big_may; first | (refine wpList_store_row rfl rO (.tmp 6) (.tmp 42) rfl (w.heap.size + 1) #[.string nm', .int .i64 kd, .int .i64 ty, .int .i64 lv, .int .i32 nn, .int .i64 md, .bool ou, .slice Ap ps.length cp] rfl rfl rO #[.string ⟨#[]⟩, .int .i64 0, .int .i64 0, .int .i64 0, .int .i32 0, .int .i64 0, .bool false, .slice none 0 0] XW.out H8 rfl H1.out ?_; generalize hZZ : (wr).setRow (w.heap.size + 1) #[.string nm', .int .i64 kd, .int .i64 ty, .int .i64 lv, .int .i32 nn, .int .i64 md, .bool ou, .slice Ap ps.length cp] = ZZ; have HZZ := Lib.hid hZZ; clear hZZ)) | go_values | go_skip | go_guarded | go_step | go_upon)
        have SX := Lib.hid (XW.out.setRow #[.string nm', .int .i64 kd, .int .i64 ty, .int .i64 lv, .int .i32 nn, .int .i64 md, .bool ou, .slice Ap ps.length cp])
        rw [HZZ.out] at SX
        have B5 := Lib.hid (show Below w.heap.size w ZZ from BW.out.grown SX.out.2 BW.out.size (fun b hb => by injection hb with hb; omega))
        have W9 := SX.out.1
        have x0 : ZZ.cell? ⟨w.heap.size + 1, 0, none⟩ = some (.string nm') := W9.cell 0
        have x1 : ZZ.cell? ⟨w.heap.size + 1, 1, none⟩ = some (.int .i64 kd) := W9.cell 1
        have x2 : ZZ.cell? ⟨w.heap.size + 1, 2, none⟩ = some (.int .i64 ty) := W9.cell 2
        have x3 : ZZ.cell? ⟨w.heap.size + 1, 3, none⟩ = some (.int .i64 lv) := W9.cell 3
        have x4 : ZZ.cell? ⟨w.heap.size + 1, 4, none⟩ = some (.int .i32 nn) := W9.cell 4
        have x5 : ZZ.cell? ⟨w.heap.size + 1, 5, none⟩ = some (.int .i64 md) := W9.cell 5
        have x6 : ZZ.cell? ⟨w.heap.size + 1, 6, none⟩ = some (.bool ou) := W9.cell 6
        have x7 : ZZ.cell? ⟨w.heap.size + 1, 7, none⟩ = some (.slice Ap ps.length cp) := W9.cell 7
        refine bodyPost_ret (v := .tuple #[.agg #[.string nm', .int .i64 kd, .int .i64 ty, .int .i64 lv, .int .i32 nn, .int .i64 md, .bool ou, .slice Ap ps.length cp], .int .i64 0]) ?_ rfl ⟨Ap, cp, rfl, B5.out, HP.out.grown XW.out (by decide) (by have := HB.out; omega) SX.out.2⟩
        clear B5 SX W9
        simp [results, Try.results14, go_sem, x0, x1, x2, x3, x4, x5, x6, x7]
      | false =>
        have HR2 := Lib.hid (E2.out.trans (if_neg (by rw [PA.out, hq]; decide)))
        clear E2 PA
        go_wp2_with fail
        go_roundw
        case rel => exact ⟨t + 1, by omega, by go_num, BVR.out, HR2.out.symm⟩
        case measure => simp [intOf]; omega
    · have hI : ¬ (t : Int) < l.length := by omega
      have hrn : r = none := by
        rw [← HRR.out, List.drop_of_length_le (by rw [List.length_map]; omega)]
        rfl
      clear HRR
      subst hrn
      have H8 : (Try.prog.info? rO).map (·.size) = some 8 := by kernel_rfl
      have H1 := Lib.hid (show (#[.string ⟨#[]⟩, .int .i64 0, .int .i64 0, .int .i64 0, .int .i32 0, .int .i64 0, .bool false, .slice none 0 0] : Array Value).all (·.oneCell') = true from by simp [Value.oneCell'])
      repeat (first | (go_big_may; first | (refine wpList_store_row rfl rO (.tmp 6) (.tmp 43) rfl (w.heap.size + 1) #[.string ⟨#[]⟩, .int .i64 0, .int .i64 0, .int .i64 0, .int .i32 0, .int .i64 0, .bool false, .slice none 0 0] rfl rfl rO #[.string ⟨#[]⟩, .int .i64 0, .int .i64 0, .int .i64 0, .int .i32 0, .int .i64 0, .bool false, .slice none 0 0] XW.out H8 rfl H1.out ?_; generalize hZZ : (wr).setRow (w.heap.size + 1) #[.string ⟨#[]⟩, .int .i64 0, .int .i64 0, .int .i64 0, .int .i32 0, .int .i64 0, .bool false, .slice none 0 0] = ZZ; have HZZ := Lib.hid hZZ; clear hZZ)) | go_values | go_skip | go_guarded | go_step | go_upon)
      have SX := Lib.hid (XW.out.setRow #[.string ⟨#[]⟩, .int .i64 0, .int .i64 0, .int .i64 0, .int .i32 0, .int .i64 0, .bool false, .slice none 0 0])
      rw [HZZ.out] at SX
      have B5 := Lib.hid (show Below w.heap.size w ZZ from BW.out.grown SX.out.2 BW.out.size (fun b hb => by injection hb with hb; omega))
      have W9 := SX.out.1
      have x0 : ZZ.cell? ⟨w.heap.size + 1, 0, none⟩ = some (.string ⟨#[]⟩) := W9.cell 0
      have x1 : ZZ.cell? ⟨w.heap.size + 1, 1, none⟩ = some (.int .i64 0) := W9.cell 1
      have x2 : ZZ.cell? ⟨w.heap.size + 1, 2, none⟩ = some (.int .i64 0) := W9.cell 2
      have x3 : ZZ.cell? ⟨w.heap.size + 1, 3, none⟩ = some (.int .i64 0) := W9.cell 3
      have x4 : ZZ.cell? ⟨w.heap.size + 1, 4, none⟩ = some (.int .i32 0) := W9.cell 4
      have x5 : ZZ.cell? ⟨w.heap.size + 1, 5, none⟩ = some (.int .i64 0) := W9.cell 5
      have x6 : ZZ.cell? ⟨w.heap.size + 1, 6, none⟩ = some (.bool false) := W9.cell 6
      have x7 : ZZ.cell? ⟨w.heap.size + 1, 7, none⟩ = some (.slice none 0 0) := W9.cell 7
      refine bodyPost_ret (v := .tuple #[.agg #[.string ⟨#[]⟩, .int .i64 0, .int .i64 0, .int .i64 0, .int .i32 0, .int .i64 0, .bool false, .slice none 0 0], .int .i64 110]) ?_ rfl ⟨none, 0, rfl, B5.out, ParV.nil _ _⟩
      clear B5 SX W9
      simp [results, Try.results14, go_sem, x0, x1, x2, x3, x4, x5, x6, x7]

theorem refmember_any (B : Nat) (AL : Option Addr) (cL : Nat) (lx : List Ox) (AM : Option Addr) (cM : Nat) (mx : List (Value × List Ox)) (s : Stt) (m : Int) (nm : ByteArray) (w : World) (h : RefIn w B AL cL lx AM cM mx s) (hB : B ≤ w.heap.size) (hml : s.mods.length ≤ 64) (hok : ∀ m ∈ s.mods, m.length * 64 ≤ 140737488355328) :
    Calls Try.prog 14 #[.agg #[.slice AL s.L.length cL, .int .i64 s.lev, .slice AM s.mods.length cM], .int .i64 m, .string nm] w (FoundPost B w (memberP s m nm)) := by
  by_cases hb : m < 1 ∨ (s.mods.length : Int) < m
  · exact refmember_out B AL cL lx AM cM mx s m nm w h hB hml hok hb
  · obtain ⟨t, rfl⟩ : ∃ t : Nat, m = (t : Int) + 1 := ⟨(m - 1).toNat, by omega⟩
    exact refmember_in B AL cL lx AM cM mx s t nm w h hB hml hok (by omega)
end Go.Proofs.Ytpfoebnlngfebaa
