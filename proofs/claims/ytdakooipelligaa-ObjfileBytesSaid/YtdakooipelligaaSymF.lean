/- Symfile: the program's Imports: names that occurred are counted in a map. -/
import Derived.Test.YtdakooipelligaaSymB
import Derived.Test.YtdakooipelligaaSymE
import Derived.Test.YtdakooipelligaaNameSet
namespace Go.Proofs.Ytdakooipelligaa
open Go.ChangeShapes Go.WideShapes Go.ChangeAt Go.RowKit
set_option linter.unusedVariables false
set_option linter.unusedSimpArgs false

abbrev mpT : TypeId := 85

theorem lawS : Go.Maps.Keyed Try.prog 9 := Go.Maps.string_keyed Try.underlying9

theorem zeroI (w : World) : (zeroValue 3).run Try.prog w = .ok (.int .i64 0) w := by kernel_rfl

/-- How often each name is in a map: once, if it is one of these. -/
structure CntD (D : DataW Unit) (L : List ByteArray) : Prop where
  isMap : Maps.IsMap D
  at' : ∀ s, D.atKey (nmKey s) (.lit (.int .i64 0)) = .lit (.int .i64 (if s ∈ L then 1 else 0))

theorem CntD.nil : CntD (.map []) [] := ⟨Maps.isMap_empty, fun s => by
  rw [if_neg (fun h => by cases h)]
  rfl⟩

theorem CntD.put {D : DataW Unit} {L : List ByteArray} {s : ByteArray} (h : CntD D L) : CntD (D.put (nmKey s) (.lit (.int .i64 1))) (s :: L) :=
  ⟨h.isMap.put _ _, fun t => by
    by_cases e : t = s
    · subst e
      rw [Maps.atKey_put_same h.isMap (show WideAt.IsKeyLit (nmKey t) from trivial), if_pos (List.mem_cons_self)]
    · rw [Maps.atKey_put_other (fun h => e (nmKey_inj h)), h.at' t]
      by_cases e2 : t ∈ L
      · rw [if_pos e2, if_pos (List.mem_cons_of_mem _ e2)]
      · rw [if_neg e2, if_neg (fun h => by rcases List.mem_cons.1 h with h | h; exact e h; exact e2 h)]⟩

theorem CntD.old {D : DataW Unit} {L : List ByteArray} {s : ByteArray} {c : Int} (h : CntD D L) (hs : s ∈ L) (hat : D.atKey (nmKey s) (.lit (.int .i64 0)) = .lit (.int .i64 c)) : c = 1 := by
  rw [h.at' s, if_pos hs] at hat
  injection hat with hat
  injection hat with _ hat
  exact hat.symm

theorem CntD.new {D : DataW Unit} {L : List ByteArray} {s : ByteArray} {c : Int} (h : CntD D L) (hs : s ∉ L) (hat : D.atKey (nmKey s) (.lit (.int .i64 0)) = .lit (.int .i64 c)) : c = 0 := by
  rw [h.at' s, if_neg hs] at hat
  injection hat with hat
  injection hat with _ hat
  exact hat.symm

theorem CntD.back {D : DataW Unit} {L : List ByteArray} {s : ByteArray} {c d : Int} (h : CntD D L) (hat : (D.put (nmKey s) (.lit (.int .i64 d))).atKey (nmKey s) (.lit (.int .i64 0)) = .lit (.int .i64 c)) : c = d := by
  rw [Maps.atKey_put_same h.isMap (show WideAt.IsKeyLit (nmKey s) from trivial)] at hat
  injection hat with hat
  injection hat with _ hat
  exact hat.symm

/-- A map literal's entry, at the operation. -/
theorem wpList_insert_own {H : Type} {P : Program} (w : World) {ops : Array Oper} {rest : List Oper} {o : Oper} {a : Act} {Q : Exit → Act → World → Prop}
    (hg : o.guard = none) (m x v : Operand) (t : TypeId) (hop : o.op = Op.insert t m x v)
    (k e : TypeId) (K : Go.Maps.Keyed P k) (ht : P.underlying t = some (.map k e)) (R : Value → Option (DataW H × List MemPlace)) (b n : Nat) (D : DataW H)
    (hm : a.eval m = .map (some b)) (hown : w.ownsMap P k R b n D) (hn : n < maxLen) (key val : Value) (kl : Lit) (hx : a.eval x = key) (hv : a.eval v = val) (hkey : keyOf P k key = some kl)
    (d : DataW H) (ps : List MemPlace) (hval : R val = some (d, ps))
    (hK : ∀ w', w'.ownsMap P k R b (n + 1) (D.put kl d) → w.grownBy w' (some b) → wpList P ops Q rest (a.put o.dst undef) w') :
    wpList P ops Q (o :: rest) a w := by
  refine wpList_plain hg fun K' hK' => ?_
  obtain ⟨w', hrun, r1, r2⟩ := hown.update K ht hn hkey hval
  unfold Oper.wp
  simp [execOp, hop, hm, hx, hv, hrun, Result.andThen]
  exact hK' _ _ (hK w' r1 r2)

theorem drop_at {α : Type} (l : List α) (d : α) {t : Nat} (h : t < l.length) : l.drop t = l.getD t d :: l.drop (t + 1) := by
  rw [List.drop_eq_getElem_cons h, List.getD_eq_getElem?_getD, List.getElem?_eq_getElem h]
  rfl

theorem impsE_no {seen : List ByteArray} {x : Im} {l : List Im} (h : ¬ nameOk x.nm) : impsE seen (x :: l) = 140 := if_pos h

theorem impsE_old {seen : List ByteArray} {x : Im} {l : List Im} (h : nameOk x.nm) (h2 : x.nm ∈ seen) : impsE seen (x :: l) = 51 := by
  unfold impsE
  rw [if_neg (fun h' => h' h), if_pos h2]

theorem impsE_new {seen : List ByteArray} {x : Im} {l : List Im} (h : nameOk x.nm) (h2 : x.nm ∉ seen) : impsE seen (x :: l) = impsE (x.nm :: seen) l := by
  conv => lhs; unfold impsE
  rw [if_neg (fun h' => h' h), if_neg h2]

set_option maxHeartbeats 16000000 in
set_option maxRecDepth 100000 in
theorem imports_any (md : ByteArray) (A : Option Addr) (c : Nat) (l : List Im) (B : Nat) (w : World) (h : ImV B w (.slice A l.length c) l) (hmd : md.size ≤ 140737488355328) (hn : l.length ≤ 140737488355328) (ho : ∀ x ∈ l, x.nm.size ≤ 140737488355328) :
    Calls Try.prog 16 #[.string md, .slice A l.length c] w fun e w' => e = .returned (.int .i64 (importsE md l)) ∧ Below w.heap.size w w' := by
  have H := Lib.hid h
  have HO := Lib.hid ho
  clear h ho
  by_cases h64 : 64 < l.length
  · have hI : (64 : Int) < l.length := by omega
    have R := Lib.hid (show importsE md l = 243 from if_pos h64)
    go_enter Try.func16, Try.ntmps16
    go_wp2_with fail
    go_ret
    rw [R.out]
    exact ⟨rfl, Below.refl _ _⟩
  · have hI : ¬ (64 : Int) < l.length := by omega
    have E := Lib.hid (show importsE md l = impsE [md] l from if_neg h64)
    have B0 := Lib.hid ((Below.refl w.heap.size w).alloc (Nat.le_refl _) (.map #[] 0))
    have M0 := Lib.hid (World.ownsMap_made w Try.prog 9 (plainElem (H := Unit) Try.prog 3))
    have K0 := Lib.hid (show keyOf Try.prog 9 (.string md) = some (nmKey md) from Go.WideMaps.keyOf_string_mk Try.underlying9 (by unfold maxLen; omega))
    have hmm := @run_makeMap Try.prog
    generalize importsE md l = r at *
    go_enter Try.func16, Try.ntmps16
    go_wp2_with (refine wpList_insert_own _ rfl _ _ _ mpT rfl 9 3 lawS Try.underlying85 _ w.heap.size 0 _ rfl M0.out (by decide) _ _ _ rfl rfl K0.out _ [] (plainElem_int Try.underlying3 (by decide)) ?_; intro w1 hown1 hgrow1; have M1 := Lib.hid hown1; have B1 := Lib.hid (B0.out.grown hgrow1 B0.out.size (fun k hk => by injection hk with hk; omega)); have C1 := Lib.hid (CntD.nil.put (s := md)); clear hown1 hgrow1)
    clear hmm M0 K0 B0
    go_loopw [16] (fun i wr => ∃ (t : Nat) (seen : List ByteArray) (D : DataW Unit), t ≤ l.length ∧ i = .int .i64 t ∧ r = impsE seen (l.drop t) ∧ CntD D seen ∧ wr.ownsMap Try.prog 9 (plainElem (H := Unit) Try.prog 3) w.heap.size (t + 1) D ∧ Below w.heap.size w wr) (fun i _ => l.length - (intOf i).toNat)
    case atStart => exact ⟨0, [md], _, Nat.zero_le _, rfl, E.out, C1.out, M1.out, B1.out⟩
    case round =>
      obtain ⟨t, seen, D, ht, rfl, he, hC, hM, hb⟩ := hrel
      have HB := Lib.hid hb
      have HC := Lib.hid hC
      by_cases hlt : t < l.length
      · have hI : (t : Int) < l.length := by omega
        obtain ⟨b, off, rfl, hbl, p0, p1⟩ := (H.out.below hb).at hlt
        have hx := HO.out _ (getD_mem zI hlt)
        rw [drop_at l zI hlt] at he
        generalize l.getD t zI = x at *
        obtain ⟨nm, key⟩ := x
        simp only at p0 p1 hx
        have R0 := Lib.hid (fun h => he.trans (impsE_no (x := ⟨nm, key⟩) h))
        have R1 := Lib.hid (fun h h2 => he.trans (impsE_old (x := ⟨nm, key⟩) h h2))
        have R2 := Lib.hid (fun h h2 => he.trans (impsE_new (x := ⟨nm, key⟩) h h2))
        have NA := Lib.hid (fun W => name_any nm W hx)
        have KN := Lib.hid (show keyOf Try.prog 9 (.string nm) = some (nmKey nm) from Go.WideMaps.keyOf_string_mk Try.underlying9 (by unfold maxLen; omega))
        have X := Lib.hid (Whole.made wr pI #[.string nm, .int .u32 key] _ rfl)
        have q0 : (wr.alloc (.cells #[.string nm, .int .u32 key] pI)).cell? ⟨wr.heap.size, 0, none⟩ = some (.string nm) := X.out.cell 0
        have M2 := Lib.hid (hM.alloc (.cells #[.string nm, .int .u32 key] pI))
        have B2 := Lib.hid (hb.alloc hb.size (.cells #[.string nm, .int .u32 key] pI))
        have NE := Lib.hid (show w.heap.size ≠ wr.heap.size from fun e => by have := hM.lt; omega)
        have SZ := Lib.hid (show t + 1 < maxLen by unfold maxLen; omega)
        clear he hC hM hb hx
        by_cases hN : nameOk nm
        · rw [decide_eq_true hN] at NA
          by_cases hS : nm ∈ seen
          · have R := Lib.hid (R1.out hN hS)
            have HS := Lib.hid hS
            clear hN hS R0 R1 R2
            go_wp2_with fail
            refine (NA.out _).mono ?_
            rintro e w2 ⟨rfl, rfl⟩
            generalize hW : wr.alloc (.cells #[.string nm, .int .u32 key] pI) = W at *
            clear hW p0 p1
            go_wp2_with (first | (at_lookup; refine wpList_lookup_own_int _ rfl _ _ mpT rfl 9 3 .i64 lawS Try.underlying85 Try.underlying3 (zeroI _) w.heap.size (t + 1) _ rfl M2.out _ _ rfl KN.out ?_; intro c hat hwc; obtain rfl : c = 1 := HC.out.old HS.out hat; clear hat hwc) | (at_mapUpdate; refine wpList_mapUpdate_own _ rfl _ _ _ mpT rfl 9 3 lawS Try.underlying85 _ w.heap.size (t + 1) _ rfl M2.out SZ.out _ _ _ rfl rfl KN.out _ [] (plainElem_int Try.underlying3 (by decide)) ?_; intro w2 hown2 hgrow2; have M3 := Lib.hid hown2; have B3 := Lib.hid (B2.out.grown hgrow2 B2.out.size (fun k hk => by injection hk with hk; omega)); have Y := Lib.hid (show Whole w2 wr.heap.size pI #[.string nm, .int .u32 key] from (hgrow2.block _ X.out.lt (fun e => NE.out (by injection e with e; exact e.symm))).trans X.out); have y0 : w2.cell? ⟨wr.heap.size, 0, none⟩ = some (.string nm) := Y.out.cell 0; clear hown2 hgrow2) | (at_lookup; refine wpList_lookup_own_int _ rfl _ _ mpT rfl 9 3 .i64 lawS Try.underlying85 Try.underlying3 (zeroI _) w.heap.size (t + 2) _ rfl M3.out _ _ rfl KN.out ?_; intro c hat hwc; obtain rfl := HC.out.back hat; clear hat hwc))
            go_ret
            rw [R.out]
            exact ⟨rfl, B3.out⟩
          · have R := Lib.hid (R2.out hN hS)
            have HS := Lib.hid hS
            clear hN hS R0 R1 R2
            go_wp2_with fail
            refine (NA.out _).mono ?_
            rintro e w2 ⟨rfl, rfl⟩
            generalize hW : wr.alloc (.cells #[.string nm, .int .u32 key] pI) = W at *
            clear hW p0 p1
            go_wp2_with (first | (at_lookup; refine wpList_lookup_own_int _ rfl _ _ mpT rfl 9 3 .i64 lawS Try.underlying85 Try.underlying3 (zeroI _) w.heap.size (t + 1) _ rfl M2.out _ _ rfl KN.out ?_; intro c hat hwc; obtain rfl : c = 0 := HC.out.new HS.out hat; clear hat hwc) | (at_mapUpdate; refine wpList_mapUpdate_own _ rfl _ _ _ mpT rfl 9 3 lawS Try.underlying85 _ w.heap.size (t + 1) _ rfl M2.out SZ.out _ _ _ rfl rfl KN.out _ [] (plainElem_int Try.underlying3 (by decide)) ?_; intro w2 hown2 hgrow2; have M3 := Lib.hid hown2; have B3 := Lib.hid (B2.out.grown hgrow2 B2.out.size (fun k hk => by injection hk with hk; omega)); have Y := Lib.hid (show Whole w2 wr.heap.size pI #[.string nm, .int .u32 key] from (hgrow2.block _ X.out.lt (fun e => NE.out (by injection e with e; exact e.symm))).trans X.out); have y0 : w2.cell? ⟨wr.heap.size, 0, none⟩ = some (.string nm) := Y.out.cell 0; clear hown2 hgrow2) | (at_lookup; refine wpList_lookup_own_int _ rfl _ _ mpT rfl 9 3 .i64 lawS Try.underlying85 Try.underlying3 (zeroI _) w.heap.size (t + 2) _ rfl M3.out _ _ rfl KN.out ?_; intro c hat hwc; obtain rfl := HC.out.back hat; clear hat hwc))
            go_roundw
            case rel => exact ⟨t + 1, nm :: seen, _, by omega, by go_num, R.out, HC.out.put, M3.out, B3.out⟩
            case measure => simp [intOf]; omega
        · rw [decide_eq_false hN] at NA
          have R := Lib.hid (R0.out hN)
          clear hN R0 R1 R2
          go_wp2_with fail
          refine (NA.out _).mono ?_
          rintro e w2 ⟨rfl, rfl⟩
          go_wp2_with fail
          go_ret
          rw [R.out]
          exact ⟨rfl, B2.out⟩
      · have hI : ¬ (t : Int) < l.length := by omega
        obtain rfl : t = l.length := by omega
        have R := Lib.hid (show r = 0 by rw [he, List.drop_length]; rfl)
        clear he hC hM hb
        go_wp2_with fail
        go_ret
        rw [R.out]
        exact ⟨rfl, HB.out⟩
end Go.Proofs.Ytdakooipelligaa
