/- Codec: a Writer's Word, Text; the answers' Count, Number, Text. -/
import Derived.Test.YtdakooipelligaaCdcC
namespace Go.Proofs.Ytdakooipelligaa
open Go.ChangeShapes Go.WideShapes Go.ChangeAt Go.RowKit
set_option linter.unusedVariables false
set_option linter.unusedSimpArgs false

/-- A text's bytes. -/
def strI (s : ByteArray) : List Int := s.data.toList.map fun b => (b.toNat : Int)

theorem strI_len (s : ByteArray) : (strI s).length = s.size := by
  unfold strI
  rw [List.length_map, Array.length_toList]
  rfl

theorem strI_cells (s : ByteArray) : (strI s).map (Value.int .u8) = Lib.strCells s := by
  unfold strI Lib.strCells
  rw [List.map_map]
  rfl

theorem strI_bytes (s : ByteArray) : ∀ b ∈ strI s, 0 ≤ b ∧ b ≤ 255 := by
  intro b hb
  unfold strI at hb
  obtain ⟨x, _, rfl⟩ := List.mem_map.1 hb
  have := x.toNat_lt
  omega

/-- append of a text to an own row of bytes. -/
theorem run_append_txt {P : Program} (w : World) {t u ty e : TypeId} (R : RowOf P t e .u8 1) (hu : P.underlying u = some .string) (B : Nat) (v : Value) (n : Nat) (ys : List Int) (hown : Owns .u8 e w B v n ys) (s : ByteArray)
    (hmax : n + s.size ≤ 100000000000000) (hbase : B ≤ w.heap.size) :
    ∃ v' w', (Builtin.append_ #[t, u] ty #[v, .string s]).run P w = .ok v' w' ∧ Owns .u8 e w' B v' (n + s.size) (ys ++ strI s) ∧ w.grownBy w' v.ownBlock ∧ (v'.ownBlock = v.ownBlock ∨ ∃ b, v'.ownBlock = some b ∧ w.heap.size ≤ b) := by
  obtain ⟨ht, ⟨i, hi, hz0, hs, hb⟩, hp⟩ := R
  have h63 : n + s.size ≤ maxLen := by unfold maxLen; omega
  have hbytes : n + s.size ≤ 140737488355328 := by omega
  have fin : ∀ v' w', (Builtin.append_ #[t, u] ty #[v, .string s]).run P w = .ok v' w' → w'.ownsRow B e 1 v' (n + s.size) (ys.map (Value.int .u8) ++ Lib.strCells s) → Owns .u8 e w' B v' (n + s.size) (ys ++ strI s) := by
    intro v' w' _ h2
    unfold Owns
    rw [List.map_append, strI_cells]
    exact h2
  obtain ⟨v', w', hrun, h2, h3, h4⟩ := Lib.run_append_own_string (P := P) w B t u ty e i ht hu hi hz0 hs hb v n (ys.map (Value.int .u8)) hown s h63 hbytes hbase
  refine ⟨v', w', hrun, fin v' w' hrun h2, h3, ?_⟩
  rcases hown.2 with ⟨rfl, rfl⟩ | ⟨g, cap, cur, rfl, hbg, hg, hnc, hcm, hcs, htake⟩
  · have hx : ys = [] := List.eq_nil_of_length_eq_zero hown.len
    subst hx
    obtain ⟨v2, w2, hrun2, g2, _, _⟩ := Lib.run_append_own_string (P := P) w w.heap.size t u ty e i ht hu hi hz0 hs hb (.slice none 0 0) 0 [] (row_nil _ _ _ _) s h63 hbytes (Nat.le_refl _)
    have e2 := hrun.symm.trans hrun2
    injection e2 with e2 e3
    subst e2 e3
    cases ho : v'.ownBlock with
    | none => exact .inl rfl
    | some b => exact .inr ⟨b, rfl, (World.ownsRow.lt g2 b ho).1⟩
  · by_cases hroom : n + s.size ≤ cap
    · have hcs' : cur.size = cap := by simpa using hcs
      have hr := Lib.run_append_room_string (P := P) w t u ty e i ht hu hi hs g n cap cur hg s hroom (by omega)
      have e2 := hrun.symm.trans hr
      injection e2 with e2 e3
      subst e2
      exact .inl rfl
    · have holds : ∀ j u, (ys.map (Value.int .u8))[j]? = some u → w.cell? ((⟨g, 0, none⟩ : Addr).add j) = some u := World.ownsRow.cells hown (g := g) rfl
      have hl := hown.len
      have hr := Lib.run_append_grow_string (P := P) w t u ty e i (.int .u8 0) ht hu hi hz0 ⟨g, 0, none⟩ n cap (ys.map (Value.int .u8)) (by rw [hs, List.length_map]; omega) holds s (by omega) (by omega) (by rw [hb]; exact growslice_fits (by omega) (by omega))
      have e2 := hrun.symm.trans hr
      injection e2 with e2 e3
      subst e2
      exact .inr ⟨_, rfl, Nat.le_refl _⟩

theorem wpList_append_txt {P : Program} (w : World) {ops : Array Oper} {rest : List Oper} {o : Oper} {a : Act} {Q : Exit → Act → World → Prop} (hgd : o.guard = none) (sl x : Operand) {t u e : TypeId}
    (ho : o.op = .call { callee := .builtin .append, args := #[sl, x], argTypes := #[t, u] }) (R : RowOf P t e .u8 1) (hu : P.underlying u = some .string) (B : Nat) (v : Value) (n : Nat) (ys : List Int) (hv : a.eval sl = v) (hown : Owns .u8 e w B v n ys) (s : ByteArray) (hx : a.eval x = .string s)
    (hmax : n + s.size ≤ 100000000000000) (hbase : B ≤ w.heap.size)
    (h : ∀ v' w', Owns .u8 e w' B v' (n + s.size) (ys ++ strI s) → w.grownBy w' v.ownBlock → (v'.ownBlock = v.ownBlock ∨ ∃ b, v'.ownBlock = some b ∧ w.heap.size ≤ b) → wpList P ops Q rest (a.put o.dst v') w') : wpList P ops Q (o :: rest) a w := by
  refine wpList_plain hgd fun K hK => ?_
  obtain ⟨v', w', hr, h2, h3, h4⟩ := run_append_txt (P := P) (ty := o.type) w R hu B v n ys hown s hmax hbase
  unfold Oper.wp execOp
  simp only [ho, resolve, invoke, builtin, Sem.run_bind, Sem.run_pure, Result.andThen_ok, List.map_toArray, List.map_cons, List.map_nil, hv, hx, hr]
  exact hK _ _ (h v' w' h2 h3 h4)

/-- A store behind an append, at a Writer. -/
theorem wr_stored {w w1 w3 : World} {B g n c : Nat} {v : Value} {A : Option Addr} {bs : List Int} (hw : Whole w g wrT #[v]) (hb : Below w.heap.size w w1) (hg : w1.grownBy w3 v.ownBlock) (hne : v.ownBlock ≠ some g) (hB : B ≤ g)
    (ho : Owns .u8 u8T w3 B (.slice A n c) n bs) (hat : (Value.slice A n c).ownBlock = v.ownBlock ∨ ∃ b, (Value.slice A n c).ownBlock = some b ∧ w.heap.size ≤ b) :
    Whole w3 g wrT #[v] ∧ WrPost w (w3.setCell ⟨g, 0, none⟩ (.slice A n c)) B g v.ownBlock bs := by
  have h1 : Whole w1 g wrT #[v] := hw.below hb hw.lt
  have h3 : Whole w3 g wrT #[v] := (hg.block g h1.lt (fun e => hne e.symm)).trans h1
  have hn3 : (Value.slice A n c).ownBlock ≠ some g := by
    rcases hat with e | ⟨b, e, hb⟩
    · rw [e]; exact hne
    · rw [e]
      intro e2
      injection e2 with e2
      have := hw.lt
      omega
  refine ⟨h3, _, ⟨_, h3.store 0 _, ?_, rfl, hB⟩, ?_, hat⟩
  · have := ho.keepS (S := fun b => b = g) (KeptS.set (w := w3) (g := g) (j := 0) (u := .slice A n c) rfl) (fun b hb e => by subst e; exact hn3 hb)
    have hl := ho.len
    subst hl
    exact this
  · have K1 : KeptS (WrS g v.ownBlock) w w1 := KeptS.ofBelow hb
    have K2 : KeptS (WrS g v.ownBlock) w1 w3 := KeptS.grown hg (fun b hb => .inr hb)
    have K3 : KeptS (WrS g v.ownBlock) w3 (w3.setCell ⟨g, 0, none⟩ (.slice A n c)) := KeptS.set (.inl rfl)
    exact (K1.trans K2 (fun i hi => .inl hi)).trans K3 (fun i hi => .inl hi)

set_option maxHeartbeats 1000000 in
set_option maxRecDepth 100000 in
theorem wword_any (n : Int) (B g : Nat) (h : Option Nat) (bs : List Int) (w : World) (hw : WrAt w B g h bs) (hB : B ≤ w.heap.size) (hn : bs.length ≤ 10000000) (h0 : 0 ≤ n) (h1 : n ≤ 4294967295) :
    Calls Try.prog 25 #[.pointer (some ⟨g, 0, none⟩), .int .u32 n] w fun e w' => e = .returned (.tuple #[]) ∧ WrPost w w' B g h (bs ++ bytesOf n) := by
  obtain ⟨v, hW, hO, rfl, hBg⟩ := hw
  have c0 : w.cell? ⟨g, 0, none⟩ = some v := hW.cell 0
  have hne : v.ownBlock ≠ some g := row_ne hO hW (fun c fz e => by injection e with _ e _; exact absurd e (by decide))
  have HW := Lib.hid hW
  have OA := Lib.hid (hO.alloc (.cells #[.int .u8 (n % 256), .int .u8 (n / 256 % 256), .int .u8 (n / 65536 % 256), .int .u8 (n / 16777216)] u8T))
  have NB := Lib.hid (nums_built .u8 u8T w [n % 256, n / 256 % 256, n / 65536 % 256, n / 16777216] #[.int .u8 (n % 256), .int .u8 (n / 256 % 256), .int .u8 (n / 65536 % 256), .int .u8 (n / 16777216)] rfl 4 rfl (by decide) w.heap.size rfl)
  have BA := Lib.hid ((Below.refl w.heap.size w).alloc (Nat.le_refl _) (.cells #[.int .u8 (n % 256), .int .u8 (n / 256 % 256), .int .u8 (n / 65536 % 256), .int .u8 (n / 16777216)] u8T))
  have HN := Lib.hid hn
  have HB := Lib.hid hB
  have NE := Lib.hid hne
  have E := Lib.hid (show [n % 256, n / 256 % 256, n / 65536 % 256, n / 16777216] = bytesOf n by unfold bytesOf; rw [show n / 16777216 % 256 = n / 16777216 by omega])
  clear hn hB hne hW hO
  go_enter Try.func25, Try.ntmps25
  go_wp2_with (at_builtin; refine wpList_append_nums _ rfl _ _ rfl rowU8 B v bs.length bs rfl OA.out (some ⟨w.heap.size, 0, none⟩) 4 4 _ rfl NB.out (by have := HN.out; omega) (Nat.le_trans HB.out BA.out.size) ?_; intro v3 w3 ho3 hg3 hat; obtain ⟨A', c', rfl, hz3⟩ := ho3.form; have ST := Lib.hid (wr_stored HW.out BA.out hg3 NE.out hBg ho3 (hat.imp id fun e => ⟨_, e, BA.out.size⟩)); have d0 : w3.cell? ⟨g, 0, none⟩ = some v := ST.out.1.cell 0; have f0 : w3.frozen? ⟨g, 0, none⟩ = false := ST.out.1.free 0; clear ho3 hg3 hat hz3)
  go_end0
  exact ⟨rfl, E.out ▸ ST.out.2⟩

set_option maxHeartbeats 1000000 in
set_option maxRecDepth 100000 in
theorem wtext_any (s : ByteArray) (B g : Nat) (h : Option Nat) (bs : List Int) (w : World) (hw : WrAt w B g h bs) (hB : B ≤ w.heap.size) (hn : bs.length ≤ 10000000) (hs : s.size ≤ 10000000) :
    Calls Try.prog 26 #[.pointer (some ⟨g, 0, none⟩), .string s] w fun e w' => e = .returned (.tuple #[]) ∧ WrPost w w' B g h (bs ++ (cntB s.size ++ strI s)) := by
  have C := Lib.hid (wcount_any s.size B g h bs w hw hB hn (by omega) (by omega))
  have L := Lib.hid (cntB_len10 (n := s.size) (by omega))
  have HN := Lib.hid hn
  have HB := Lib.hid hB
  have HS := Lib.hid hs
  have CI := Lib.hid (show cntI s.size = cntB s.size from rfl)
  clear hw hB hn hs
  go_enter Try.func26, Try.ntmps26
  go_wp2_with fail
  refine C.out.mono ?_
  rintro e w1 ⟨rfl, h1, ⟨v, hW, hO, rfl, hBg⟩, k1, o1⟩
  have c0 : w1.cell? ⟨g, 0, none⟩ = some v := hW.cell 0
  have NE := Lib.hid (show v.ownBlock ≠ some g from row_ne hO hW (fun c fz e => by injection e with _ e _; exact absurd e (by decide)))
  have HW := Lib.hid hW
  have HO := Lib.hid hO
  have K1 := Lib.hid k1
  have O1 := Lib.hid (show WrMv w h v.ownBlock from o1)
  have BR := Lib.hid (Below.refl w1.heap.size w1)
  have LB := Lib.hid (show (bs ++ cntI s.size).length + s.size ≤ 100000000000000 by rw [CI.out, List.length_append]; have := L.out; have := HN.out; have := HS.out; omega)
  clear hW hO k1 o1 C
  go_wp2_with (at_builtin; refine wpList_append_txt _ rfl _ _ rfl rowU8 Try.underlying9 B v _ _ rfl HO.out s rfl LB.out (Nat.le_trans HB.out K1.out.size) ?_; intro v3 w3 ho3 hg3 hat; obtain ⟨A', c', rfl, hz3⟩ := ho3.form; have ST := Lib.hid (wr_stored HW.out BR.out hg3 NE.out hBg ho3 hat); have d0 : w3.cell? ⟨g, 0, none⟩ = some v := ST.out.1.cell 0; have f0 : w3.frozen? ⟨g, 0, none⟩ = false := ST.out.1.free 0; clear ho3 hg3 hat hz3)
  go_end0
  refine ⟨rfl, ?_⟩
  have E : bs ++ (cntB s.size ++ strI s) = bs ++ cntI s.size ++ strI s := by rw [CI.out, List.append_assoc]
  have P := WrPost.trans K1.out O1.out ST.out.2
  rw [E]
  rwa [List.length_append] at P

set_option maxHeartbeats 1000000 in
set_option maxRecDepth 100000 in
theorem refcount_any (n : Int) (w : World) (h0 : -9223372036854775808 ≤ n) (h1 : n ≤ 9223372036854775807) :
    Calls Try.prog 46 #[.int .i64 n] w fun e w' => ∃ A c, e = .returned (.slice A (cntI n).length c) ∧ Below w.heap.size w w' ∧ Owns .u8 u8T w' w.heap.size (.slice A (cntI n).length c) (cntI n).length (cntI n) := by
  have CI := Lib.hid (show cntI n = cntB n.toNat from rfl)
  rw [CI.out]
  have HL := Lib.hid (cntB_len10 (n := n.toNat) (by omega))
  by_cases hneg : n < 0
  · have E0 := Lib.hid (show n.toNat = 0 by omega)
    rw [E0.out] at HL ⊢
    go_enter Try.func46, Try.ntmps46
    go_wp2_with fail
    go_loopw [0, 3] (fun i v wr => ∃ (done : List Int) (m : Nat), m < 9223372036854775808 ∧ i = .int .i64 m ∧ cntB 0 = done ++ cntB m ∧ Owns .u8 u8T wr w.heap.size v done.length done ∧ Below w.heap.size w wr) (fun i _ _ => (intOf i).toNat)
    case atStart => exact ⟨[], 0, by omega, rfl, rfl, Owns.nil _ _ _ _, Below.refl _ _⟩
    case round =>
      obtain ⟨done, m, hm, rfl, hc, ho, hb⟩ := hrel
      have HC := Lib.hid hc
      have hlen : done.length ≤ 10 := by
        have := HL.out
        rw [hc, List.length_append] at this
        omega
      have HO := Lib.hid ho
      have HB := Lib.hid hb
      have LE := Lib.hid hlen
      have HZ := Lib.hid hb.size
      clear hc ho hb hlen
      by_cases hlt : m < 128
      · have E := Lib.hid (cntB_small hlt)
        have OA := Lib.hid (HO.out.alloc (.cells #[.int .u8 m] u8T))
        have NB := Lib.hid (nums_built .u8 u8T wr [(m : Int)] #[.int .u8 m] rfl 1 rfl (by decide) wr.heap.size rfl)
        have BA := Lib.hid (HB.out.alloc HZ.out (.cells #[.int .u8 m] u8T))
        go_wp2_with (at_builtin; refine wpList_append_nums _ rfl _ _ rfl rowU8 w.heap.size _ done.length done rfl OA.out (some ⟨wr.heap.size, 0, none⟩) 1 1 _ rfl NB.out (by have := LE.out; omega) BA.out.size ?_; intro v3 w3 ho3 hg3 _; have B3 := Lib.hid (Owns.grown_below BA.out OA.out hg3 BA.out.size); have O3 := Lib.hid ho3; clear ho3 hg3)
        go_ret
        have ho := O3.out
        rw [← E.out, ← HC.out] at ho
        have hl := ho.len
        rw [← hl] at ho
        obtain ⟨A', c', rfl, _⟩ := ho.form
        exact ⟨A', c', rfl, B3.out, ho⟩
      · have hge : 128 ≤ m := by omega
        have E := Lib.hid (cntB_big hge)
        have e1 : (m : Int).tmod 128 = (m : Int) % 128 := Int.tmod_eq_emod_of_nonneg (by omega)
        have e2 : (m : Int).tdiv 128 = (m : Int) / 128 := Int.tdiv_eq_ediv_of_nonneg (by omega)
        have OA := Lib.hid (HO.out.alloc (.cells #[.int .u8 ((m : Int) % 128 + 128)] u8T))
        have NB := Lib.hid (nums_built .u8 u8T wr [(m : Int) % 128 + 128] #[.int .u8 ((m : Int) % 128 + 128)] rfl 1 rfl (by decide) wr.heap.size rfl)
        have BA := Lib.hid (HB.out.alloc HZ.out (.cells #[.int .u8 ((m : Int) % 128 + 128)] u8T))
        go_wp2_with (at_builtin; refine wpList_append_nums _ rfl _ _ rfl rowU8 w.heap.size _ done.length done rfl OA.out (some ⟨wr.heap.size, 0, none⟩) 1 1 _ rfl NB.out (by have := LE.out; omega) BA.out.size ?_; intro v3 w3 ho3 hg3 _; have B3 := Lib.hid (Owns.grown_below BA.out OA.out hg3 BA.out.size); have O3 := Lib.hid ho3; clear ho3 hg3)
        go_roundw
        case rel => 
          refine ⟨done ++ [(m : Int) % 128 + 128], m / 128, by omega, by go_num, ?_, ?_, B3.out⟩
          · rw [HC.out, E.out, List.append_assoc]
            simp
          · rw [List.length_append]
            exact O3.out
        case measure => simp [intOf]; omega
  · obtain ⟨k, rfl⟩ : ∃ k : Nat, n = k := ⟨n.toNat, by omega⟩
    rw [Int.toNat_natCast] at HL ⊢
    go_enter Try.func46, Try.ntmps46
    go_wp2_with fail
    go_loopw [0, 3] (fun i v wr => ∃ (done : List Int) (m : Nat), m < 9223372036854775808 ∧ i = .int .i64 m ∧ cntB k = done ++ cntB m ∧ Owns .u8 u8T wr w.heap.size v done.length done ∧ Below w.heap.size w wr) (fun i _ _ => (intOf i).toNat)
    case atStart => exact ⟨[], k, by omega, rfl, rfl, Owns.nil _ _ _ _, Below.refl _ _⟩
    case round =>
      obtain ⟨done, m, hm, rfl, hc, ho, hb⟩ := hrel
      have HC := Lib.hid hc
      have hlen : done.length ≤ 10 := by
        have := HL.out
        rw [hc, List.length_append] at this
        omega
      have HO := Lib.hid ho
      have HB := Lib.hid hb
      have LE := Lib.hid hlen
      have HZ := Lib.hid hb.size
      clear hc ho hb hlen
      by_cases hlt : m < 128
      · have E := Lib.hid (cntB_small hlt)
        have OA := Lib.hid (HO.out.alloc (.cells #[.int .u8 m] u8T))
        have NB := Lib.hid (nums_built .u8 u8T wr [(m : Int)] #[.int .u8 m] rfl 1 rfl (by decide) wr.heap.size rfl)
        have BA := Lib.hid (HB.out.alloc HZ.out (.cells #[.int .u8 m] u8T))
        go_wp2_with (at_builtin; refine wpList_append_nums _ rfl _ _ rfl rowU8 w.heap.size _ done.length done rfl OA.out (some ⟨wr.heap.size, 0, none⟩) 1 1 _ rfl NB.out (by have := LE.out; omega) BA.out.size ?_; intro v3 w3 ho3 hg3 _; have B3 := Lib.hid (Owns.grown_below BA.out OA.out hg3 BA.out.size); have O3 := Lib.hid ho3; clear ho3 hg3)
        go_ret
        have ho := O3.out
        rw [← E.out, ← HC.out] at ho
        have hl := ho.len
        rw [← hl] at ho
        obtain ⟨A', c', rfl, _⟩ := ho.form
        exact ⟨A', c', rfl, B3.out, ho⟩
      · have hge : 128 ≤ m := by omega
        have E := Lib.hid (cntB_big hge)
        have e1 : (m : Int).tmod 128 = (m : Int) % 128 := Int.tmod_eq_emod_of_nonneg (by omega)
        have e2 : (m : Int).tdiv 128 = (m : Int) / 128 := Int.tdiv_eq_ediv_of_nonneg (by omega)
        have OA := Lib.hid (HO.out.alloc (.cells #[.int .u8 ((m : Int) % 128 + 128)] u8T))
        have NB := Lib.hid (nums_built .u8 u8T wr [(m : Int) % 128 + 128] #[.int .u8 ((m : Int) % 128 + 128)] rfl 1 rfl (by decide) wr.heap.size rfl)
        have BA := Lib.hid (HB.out.alloc HZ.out (.cells #[.int .u8 ((m : Int) % 128 + 128)] u8T))
        go_wp2_with (at_builtin; refine wpList_append_nums _ rfl _ _ rfl rowU8 w.heap.size _ done.length done rfl OA.out (some ⟨wr.heap.size, 0, none⟩) 1 1 _ rfl NB.out (by have := LE.out; omega) BA.out.size ?_; intro v3 w3 ho3 hg3 _; have B3 := Lib.hid (Owns.grown_below BA.out OA.out hg3 BA.out.size); have O3 := Lib.hid ho3; clear ho3 hg3)
        go_roundw
        case rel => 
          refine ⟨done ++ [(m : Int) % 128 + 128], m / 128, by omega, by go_num, ?_, ?_, B3.out⟩
          · rw [HC.out, E.out, List.append_assoc]
            simp
          · rw [List.length_append]
            exact O3.out
        case measure => simp [intOf]; omega

set_option maxHeartbeats 1000000 in
set_option maxRecDepth 100000 in
theorem reftext_any (s : ByteArray) (w : World) (hs : s.size ≤ 10000000) :
    Calls Try.prog 44 #[.string s] w fun e w' => ∃ A c, e = .returned (.slice A (cntB s.size ++ strI s).length c) ∧ Below w.heap.size w w' ∧ Owns .u8 u8T w' w.heap.size (.slice A (cntB s.size ++ strI s).length c) (cntB s.size ++ strI s).length (cntB s.size ++ strI s) := by
  have C := Lib.hid (refcount_any s.size w (by omega) (by omega))
  have CI : cntI s.size = cntB s.size := rfl
  have L := Lib.hid (cntB_len10 (n := s.size) (by omega))
  have HS := Lib.hid hs
  rw [CI] at C
  clear CI hs
  generalize cntB s.size = D at *
  go_enter Try.func44, Try.ntmps44
  go_wp2_with fail
  refine C.out.mono ?_
  rintro e w1 ⟨A, c, rfl, hb, ho⟩
  have HB := Lib.hid hb
  have HO := Lib.hid ho
  clear hb ho
  go_wp2_with (at_builtin; refine wpList_append_txt _ rfl _ _ rfl rowU8 Try.underlying9 w.heap.size _ _ _ rfl HO.out s rfl (by have := L.out; have := HS.out; omega) HB.out.size ?_; intro v3 w3 ho3 hg3 hat; have B3 := Lib.hid (Owns.grown_below HB.out HO.out hg3 HB.out.size); have O3 := Lib.hid ho3; clear ho3 hg3)
  go_ret
  have ho := O3.out
  have hl : (D ++ strI s).length = D.length + s.size := by rw [List.length_append, strI_len]
  rw [← hl] at ho
  obtain ⟨A', c', rfl, _⟩ := ho.form
  exact ⟨A', c', rfl, B3.out, ho⟩
end Go.Proofs.Ytdakooipelligaa
