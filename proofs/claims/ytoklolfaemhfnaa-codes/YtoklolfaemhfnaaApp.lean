/-
  The walks of wire.appendWord, appendList and appendMsg: the bytes that the plain functions of the Codec text name are put behind what was there; all other memory is as it was.
-/
import Derived.Test.YtoklolfaemhfnaaFits2
import Derived.Maps.AppendAt
import Derived.Lib.AppendStr
import Derived.Lib.UnsafeStr
import Derived.Laws.IdiomStrings
namespace Go.Proofs.Ytoklolfaemhfnaa
open Go.RowKit

theorem info5 : (Try.prog.info? 5).map (fun i => (i.zero, i.size, i.bytes)) = some (some (.int .u8 0), 1, 1) := by kernel_rfl

/-- A slice of bytes of the call's own, and what it holds. -/
def OwnB (w : World) (base : Nat) (v : Value) (bs : List UInt8) : Prop := w.ownsRow base 5 1 v bs.length (Lib.byteCells bs)

/-- What an append leaves: all but v's own row is as it was; the new value lies there or in new memory. -/
def App (w : World) (v : Value) (w' : World) (v' : Value) : Prop :=
  w.grownBy w' v.ownBlock ∧ (v'.ownBlock = v.ownBlock ∨ ∃ g, v'.ownBlock = some g ∧ w.heap.size ≤ g)

theorem App.refl (w : World) (v : Value) : App w v w v := ⟨⟨rfl, rfl, rfl, Nat.le_refl _, fun _ _ _ => rfl⟩, .inl rfl⟩
theorem App.size {w w' : World} {v v' : Value} (h : App w v w' v') : w.heap.size ≤ w'.heap.size := h.1.size
theorem App.off {w w' : World} {v v' : Value} (h : App w v w' v') {b : Nat} (hb : b < w.heap.size) (ho : v.ownBlock ≠ some b) : v'.ownBlock ≠ some b := by
  rcases h.2 with e | ⟨g, e, hg⟩
  · rw [e]; exact ho
  · rw [e]; intro h; injection h with h; omega
theorem App.trans {w w1 w2 : World} {v v1 v2 : Value} (h : App w v w1 v1) (k : App w1 v1 w2 v2) : App w v w2 v2 := by
  refine ⟨⟨k.1.os.trans h.1.os, k.1.tape.trans h.1.tape, k.1.output.trans h.1.output, Nat.le_trans h.size k.size, fun b hb hne => ?_⟩, ?_⟩
  · have h1 := h.1.block b hb hne
    have h2 := k.1.block b (Nat.lt_of_lt_of_le hb h.size) (fun e => (h.off hb (fun e' => hne e'.symm)) e.symm)
    exact h2.trans h1
  · rcases k.2 with e | ⟨g, e, hg⟩
    · rw [e]; exact h.2
    · exact .inr ⟨g, e, Nat.le_trans h.size hg⟩
theorem App.alloc (w : World) (v : Value) (o : Obj) : App w v (w.alloc o) v :=
  ⟨⟨rfl, rfl, rfl, by simp, fun k hk _ => Below.heap_alloc _ _ _ hk⟩, .inl rfl⟩
theorem App.cell {w w' : World} {v v' : Value} (h : App w v w' v') {a : Addr} {u : Value} (hc : w.cell? a = some u) (ho : v.ownBlock ≠ some a.block) : w'.cell? a = some u := h.1.cell hc (Ne.symm ho)
theorem App.below {w w' : World} {v v' : Value} (h : App w v w' v') {base : Nat} (hb : base ≤ w.heap.size) (ho : ∀ k, v.ownBlock = some k → base ≤ k) : Below base w w' :=
  (Below.refl base w).grown h.1 hb ho

theorem App.mk {w w' : World} {v v' : Value} {H : Nat} (hg : w.grownBy w' v.ownBlock) (hat : v'.ownBlock = v.ownBlock ∨ v'.ownBlock = some H) (hH : w.heap.size ≤ H) : App w v w' v' :=
  ⟨hg, hat.elim .inl (fun e => .inr ⟨H, e, hH⟩)⟩

theorem OwnB.of {w : World} {base n : Nat} {v : Value} {bs : List UInt8} (h : w.ownsRow base 5 1 v n (Lib.byteCells bs)) : OwnB w base v bs := by
  have e := h.1
  rw [Lib.byteCells_length, Nat.mul_one] at e
  subst e
  exact h
theorem OwnB.eq {w : World} {base n : Nat} {v : Value} {bs bs' : List UInt8} (h : w.ownsRow base 5 1 v n (Lib.byteCells bs)) (e : bs = bs') : OwnB w base v bs' := e ▸ OwnB.of h
theorem OwnB.lt {w : World} {base : Nat} {v : Value} {bs : List UInt8} (h : OwnB w base v bs) (k : Nat) (hk : v.ownBlock = some k) : base ≤ k ∧ k < w.heap.size := World.ownsRow.lt h k hk
theorem OwnB.off {w : World} {base : Nat} {v : Value} {bs : List UInt8} (h : OwnB w base v bs) : v.ownBlock ≠ some w.heap.size := fun e => by have := (h.lt _ e).2; omega
theorem OwnB.alloc {w : World} {base : Nat} {v : Value} {bs : List UInt8} (h : OwnB w base v bs) (o : Obj) : OwnB (w.alloc o) base v bs := World.ownsRow.alloc h o
theorem OwnB.nil (w : World) (base : Nat) : OwnB w base (.slice none 0 0) [] := World.ownsRow_nil _ _ _ _
theorem OwnB.form {w : World} {base : Nat} {v : Value} {bs : List UInt8} (h : OwnB w base v bs) : ∃ ao n c, v = .slice ao n c := by
  rcases h.2 with ⟨hv, _⟩ | ⟨g, cap, cur, hv, _⟩
  · exact ⟨_, _, _, hv⟩
  · exact ⟨_, _, _, hv⟩

/-- 'append(b, s...)', s a string: where the new value lies. -/
theorem append_string_at (w : World) (ty : TypeId) (i : TypeInfo) (hi : Try.prog.info? 5 = some i) (hz : i.zero = some (.int .u8 0)) (hsize : i.size = 1) (hby : i.bytes = 1)
    {base : Nat} {v : Value} {bs : List UInt8} (hown : OwnB w base v bs) (s : ByteArray) (hbytes : bs.length + s.size ≤ 1000000000) {v' : Value} {w' : World}
    (hr : (Builtin.append_ #[43, 9] ty #[v, .string s]).run Try.prog w = .ok v' w') : v'.ownBlock = v.ownBlock ∨ v'.ownBlock = some w.heap.size := by
  have hxl : (Lib.byteCells bs).length = bs.length := Lib.byteCells_length bs
  rcases hown.2 with ⟨rfl, hn⟩ | ⟨g, cap, cur, rfl, hbg, hg, hnc, hcm, hcs, htake⟩
  · by_cases hm : s.size = 0
    · have hf := Lib.run_firstCells_string (P := Try.prog) w 1 s
      rw [hm] at hf
      have : (Builtin.append_ #[43, 9] ty #[.slice none 0 0, .string s]).run Try.prog w = .ok (.slice none 0 0) w := by
        simp [Builtin.append_, run_underlying Try.underlying43, run_underlying Try.underlying9, sizeOf, typeInfo, hi, hsize, Builtin.lenOf, hm, hf]
      rw [this] at hr
      injection hr with h1 h2
      rw [← h1]
      exact .inl rfl
    · have := run_append_nil_string (P := Try.prog) w 43 9 ty 5 i (.int .u8 0) Try.underlying43 Try.underlying9 hi hz s (by omega) (by omega) (by rw [hby]; omega)
      rw [this] at hr
      injection hr with h1 h2
      rw [← h1]
      exact .inr rfl
  · by_cases hroom : bs.length + s.size ≤ cap
    · have := Lib.run_append_room_string (P := Try.prog) w 43 9 ty 5 i Try.underlying43 Try.underlying9 hi hsize g bs.length cap cur hg s hroom (by omega)
      rw [this] at hr
      injection hr with h1 h2
      rw [← h1]
      exact .inl rfl
    · have holds : ∀ j u, (Lib.byteCells bs)[j]? = some u → w.cell? ((⟨g, 0, none⟩ : Addr).add j) = some u := World.ownsRow.cells hown (g := g) rfl
      have := Lib.run_append_grow_string (P := Try.prog) w 43 9 ty 5 i (.int .u8 0) Try.underlying43 Try.underlying9 hi hz ⟨g, 0, none⟩ bs.length cap (Lib.byteCells bs) (by rw [hsize, hxl]; omega) holds s (by omega) (by omega) (by rw [hby]; exact growslice_fits (by omega) (by omega))
      rw [this] at hr
      injection hr with h1 h2
      rw [← h1]
      exact .inr rfl

theorem word4_cells (n : Nat) (hn : n < 4294967296) : Lib.byteCells (Codec.word4 n) = [.int .u8 ((n : Int) / 16777216), .int .u8 ((n : Int) / 65536 % 256), .int .u8 ((n : Int) / 256 % 256), .int .u8 ((n : Int) % 256)] := by
  simp [Lib.byteCells, Codec.word4]
  omega

set_option maxHeartbeats 400000 in
theorem appendWord_any (v : Value) (bs : List UInt8) (n : Nat) (hn : n < 4294967296) (base : Nat) (w : World) (hown : OwnB w base v bs) (hbs : bs.length ≤ 100000000) (hB : base ≤ w.heap.size) :
    Calls Try.prog 26 #[v, .int .u32 n] w fun e w' => ∃ v', e = .returned v' ∧ OwnB w' base v' (bs ++ Codec.word4 n) ∧ App w v w' v' := by
  obtain ⟨i0, hi, hz0, hz1, hz2⟩ := info_parts info5
  have HW : Hid (_ = _) := word4_cells n hn
  go_enter Try.func26, Try.ntmps26
  go_wp2_with (at_builtin; refine wpList_append_own_at _ rfl _ _ 43 rfl base 5 i0 (.int .u8 0) 1 1 Try.underlying43 hi hz0 hz1 hz2 rfl (by decide) _ _ _ rfl (World.ownsRow.alloc hown _) ⟨w.heap.size, 0, none⟩ 4 4 [.int .u8 ((n : Int) / 16777216), .int .u8 ((n : Int) / 65536 % 256), .int .u8 ((n : Int) / 256 % 256), .int .u8 ((n : Int) % 256)] rfl rfl ?c1 ?c2 ?c3 ?c4 ?c5 ?_)
  case c1 =>
    intro j u hj
    match j, hj with
    | 0, hj => simp at hj; subst hj; simp [Addr.add]
    | 1, hj => simp at hj; subst hj; simp [Addr.add]
    | 2, hj => simp at hj; subst hj; simp [Addr.add]
    | 3, hj => simp at hj; subst hj; simp [Addr.add]
  case c2 => intro u hu; simp at hu; rcases hu with rfl | rfl | rfl | rfl <;> rfl
  case c3 => unfold maxLen; omega
  case c4 => omega
  case c5 => simp; omega
  intro v' w1 hown' hgrow _ hat
  rw [← HW.out, ← Lib.byteCells_append] at hown'
  go_wp2
  go_ret
  exact ⟨_, rfl, by simpa [OwnB, Codec.word4_length] using hown', (App.alloc w v _).trans (App.mk hgrow hat (by simp))⟩

theorem one_cell (w : World) (x : Int) : ∀ j u, [Value.int .u8 x][j]? = some u → (w.alloc (.cells #[.int .u8 x] 5)).cell? ((⟨w.heap.size, 0, none⟩ : Addr).add j) = some u := by
  intro j u hj
  match j, hj with
  | 0, hj => simp at hj; subst hj; simp [Addr.add]
theorem one_one (x : Int) : ∀ u ∈ [Value.int .u8 x], u.oneCell' = true := by
  intro u hu; simp at hu; subst hu; rfl
theorem snoc_cells (bs : List UInt8) (b : UInt8) (x : Int) (h : (b.toNat : Int) = x) : Lib.byteCells bs ++ [Value.int .u8 x] = Lib.byteCells (bs ++ [b]) := by
  subst h; simp [Lib.byteCells]
theorem b8_snoc (l : List Int) (k : Nat) (hk : k < l.length) : (l.take (k + 1)).map Codec.b8 = (l.take k).map Codec.b8 ++ [Codec.b8 (l.getD k 0)] := by
  rw [List.take_succ_eq_append_getElem hk, List.map_append, List.getD_eq_getElem?_getD, List.getElem?_eq_getElem hk]; rfl

/-- Numbers from 0 to 20, six at the most. -/
theorem fits_bound {l : List Int} (h : Codec.listFits l = true) : l.length ≤ 6 ∧ ∀ k, k < l.length → 0 ≤ l.getD k 0 ∧ l.getD k 0 ≤ 20 := by
  simp only [Codec.listFits, Bool.and_eq_true, decide_eq_true_eq, List.all_eq_true] at h
  refine ⟨h.1, fun k hk => ?_⟩
  rw [List.getD_eq_getElem?_getD, List.getElem?_eq_getElem hk]
  exact Codec.inB_iff.1 (h.2 _ (List.getElem_mem hk))

set_option maxHeartbeats 400000 in
theorem appendList_any (v : Value) (bs : List UInt8) (lv : Value) (l : List Int) (B base : Nat) (w : World) (hown : OwnB w base v bs) (hbs : bs.length ≤ 90000000) (hB : base ≤ w.heap.size) (hBb : B ≤ base)
    (hl : NumsAt w B lv l) (hf : Codec.listFits l = true) :
    Calls Try.prog 39 #[v, lv] w fun e w' => ∃ v', e = .returned v' ∧ OwnB w' base v' (bs ++ Codec.numsB l) ∧ App w v w' v' := by
  obtain ⟨i0, hi, hz0, hz1, hz2⟩ := info_parts info5
  obtain ⟨h6, hbd⟩ := fits_bound hf
  have HBD : Hid (∀ k, k < l.length → 0 ≤ l.getD k 0 ∧ l.getD k 0 ≤ 20) := hbd
  have HV : Hid (∀ k, v.ownBlock = some k → base ≤ k) := fun k hk => (hown.lt k hk).1
  clear hbd hf
  rcases hl with ⟨⟨ao0, c0, rfl⟩, rfl⟩ | ⟨b, off, cap, rfl, hbB, hc⟩
  · go_enter Try.func39, Try.ntmps39
    go_wp2_with (at_builtin; refine wpList_append_own_at _ rfl _ _ 43 rfl base 5 i0 (.int .u8 0) 1 1 Try.underlying43 hi hz0 hz1 hz2 rfl (by decide) _ _ _ rfl (World.ownsRow.alloc hown _) ⟨w.heap.size, 0, none⟩ 1 1 [.int .u8 0] rfl rfl (one_cell _ _) (one_one _) ?c3 ?c4 ?c5 ?_)
    case c3 => unfold maxLen; omega
    case c4 => omega
    case c5 => simp; omega
    intro v' w1 hown' hgrow _ hat
    rw [snoc_cells bs 0 0 rfl] at hown'
    go_wp2
    go_loop [0, 15] (fun u i => u = v' ∧ i = .int .i64 0) (fun _ _ => 0)
    case atStart => exact ⟨rfl, rfl⟩
    case round =>
      obtain ⟨rfl, rfl⟩ := hrel
      go_wp2
      go_ret
      exact ⟨_, rfl, by simpa [OwnB, Codec.numsB] using hown', (App.alloc w v _).trans (App.mk hgrow hat (by simp))⟩
  · have HC : Hid (∀ j, j < l.length → w.cell? ⟨b, off + j, none⟩ = some (.int .i64 (l.getD j 0))) := hc
    clear hc
    go_enter Try.func39, Try.ntmps39
    go_wp2_with (at_builtin; refine wpList_append_own_at _ rfl _ _ 43 rfl base 5 i0 (.int .u8 0) 1 1 Try.underlying43 hi hz0 hz1 hz2 rfl (by decide) _ _ _ rfl (World.ownsRow.alloc hown _) ⟨w.heap.size, 0, none⟩ 1 1 [.int .u8 (l.length : Int)] rfl rfl (one_cell _ _) (one_one _) ?c3 ?c4 ?c5 ?_)
    case c3 => unfold maxLen; omega
    case c4 => omega
    case c5 => simp; omega
    intro v' w1 hown' hgrow _ hat
    rw [snoc_cells bs (UInt8.ofNat l.length) _ (by simp; omega)] at hown'
    have happ : App w v w1 v' := (App.alloc w v _).trans (App.mk hgrow hat (by simp))
    clear hgrow hat
    go_wp2
    go_loopw [0, 15] (fun v' i wr => ∃ k : Nat, k ≤ l.length ∧ i = .int .i64 k ∧ OwnB wr base v' (bs ++ [UInt8.ofNat l.length] ++ (l.take k).map Codec.b8) ∧ App w v wr v') (fun _ i _ => l.length - (intOf i).toNat)
    case atStart => exact ⟨0, by omega, rfl, by simpa [OwnB] using hown', happ⟩
    case round =>
      obtain ⟨k, hk, rfl, hown, happ⟩ := hrel
      have hsz := happ.size
      by_cases hlt : k < l.length
      · have hbel : Below base w wr := happ.below hB HV.out
        have hck := (hbel.cell (p := ⟨b, off + k, none⟩) (by show b < _; omega)).trans (HC.out k hlt)
        have hb := HBD.out k hlt
        have HS : Hid (_ = _) := b8_snoc l k hlt
        generalize l.getD k 0 = x at hck hb HS
        obtain ⟨hx0, hx1⟩ := hb
        go_wp2_with (at_builtin; refine wpList_append_own_at _ rfl _ _ 43 rfl base 5 i0 (.int .u8 0) 1 1 Try.underlying43 hi hz0 hz1 hz2 rfl (by decide) _ _ _ rfl (World.ownsRow.alloc hown _) ⟨wr.heap.size, 0, none⟩ 1 1 [.int .u8 x] rfl rfl (one_cell _ _) (one_one _) ?c3 ?c4 ?c5 ?_)
        case c3 => unfold maxLen; simp; omega
        case c4 => simp; omega
        case c5 => simp; omega
        intro v' w1 hown' hgrow _ hat
        rw [snoc_cells _ (Codec.b8 x) _ (Codec.b8_toNat hx0 (by omega))] at hown'
        go_wp2
        go_roundw
        case rel => exact ⟨k + 1, by omega, by go_num, OwnB.eq hown' (by rw [HS.out]; simp), happ.trans ((App.alloc wr _ _).trans (App.mk hgrow hat (by simp)))⟩
        case measure => simp [intOf]; omega
      · go_wp2
        go_ret
        exact ⟨_, rfl, by rw [List.take_of_length_le (by omega)] at hown; simpa [Codec.numsB] using hown, happ⟩

/-- 'append(b, s...)' for the walk. -/
theorem wp_append_string {ops : Array Oper} {rest : List Oper} {o : Oper} {a : Act} {Q : Exit → Act → World → Prop} (w : World) (hgd : o.guard = none) (sl x : Operand)
    (ho : o.op = .call { callee := .builtin .append, args := #[sl, x], argTypes := #[43, 9] })
    (base : Nat) (v : Value) (bs : List UInt8) (hs : a.eval sl = v) (hown : OwnB w base v bs) (s : ByteArray) (hx : a.eval x = .string s)
    (hbytes : bs.length + s.size ≤ 1000000000) (hbase : base ≤ w.heap.size)
    (h : ∀ v' w', OwnB w' base v' (bs ++ s.data.toList) → App w v w' v' → wpList Try.prog ops Q rest (a.put o.dst v') w') : wpList Try.prog ops Q (o :: rest) a w := by
  obtain ⟨i0, hi, hz0, hz1, hz2⟩ := info_parts info5
  refine wpList_plain hgd fun K hK => ?_
  obtain ⟨v', w', hr, h2, h3, h4⟩ := Lib.run_append_own_string (P := Try.prog) w base 43 9 o.type 5 i0 Try.underlying43 Try.underlying9 hi hz0 hz1 hz2 v bs.length (Lib.byteCells bs) hown s (by unfold maxLen; omega) (by omega) hbase
  have hat := append_string_at w o.type i0 hi hz0 hz1 hz2 hown s hbytes hr
  unfold Oper.wp execOp
  simp only [ho, resolve, invoke, builtin, Sem.run_bind, Sem.run_pure, Result.andThen_ok, List.map_toArray, List.map_cons, List.map_nil, hs, hx, hr]
  exact hK _ _ (h v' w' (OwnB.of (n := bs.length + s.size) (by rw [Lib.byteCells_append]; exact h2)) (App.mk h3 hat (Nat.le_refl _)))

theorem two_cells (w : World) (H : Nat) (hH : w.heap.size = H) (x y : Int) : ∀ j u, [Value.int .u8 x, .int .u8 y][j]? = some u → (w.alloc (.cells #[.int .u8 x, .int .u8 y] 5)).cell? ((⟨H, 0, none⟩ : Addr).add j) = some u := by
  subst hH
  intro j u hj
  match j, hj with
  | 0, hj => simp at hj; subst hj; simp [Addr.add]
  | 1, hj => simp at hj; subst hj; simp [Addr.add]

theorem msg_bound {m : Codec.Msg} (h : Codec.msgFits m = true) : 0 ≤ m.sender ∧ m.sender ≤ 5 ∧ 1 ≤ m.seq ∧ m.seq ≤ 20 ∧ Codec.listFits m.time = true ∧ m.text.size ≤ 16 := by
  simp only [Codec.msgFits, Bool.and_eq_true, decide_eq_true_eq, Codec.inB_iff] at h
  exact ⟨h.1.1.1.1, h.1.1.1.2, h.1.1.2.1, h.1.1.2.2, h.1.2, h.2⟩

set_option maxHeartbeats 800000 in
theorem appendMsg_any (v : Value) (bs : List UInt8) (m : Codec.Msg) (tv : Value) (B base : Nat) (w : World) (hown : OwnB w base v bs) (hbs : bs.length ≤ 80000000) (hB : base ≤ w.heap.size) (hBb : B ≤ base)
    (ht : NumsAt w B tv m.time) (hf : Codec.msgFits m = true) :
    Calls Try.prog 40 #[v, .agg #[.int .i64 m.sender, .int .i64 m.seq, tv, .string m.text]] w fun e w' => ∃ v', e = .returned v' ∧ OwnB w' base v' (bs ++ Codec.msgB m) ∧ App w v w' v' := by
  obtain ⟨i0, hi, hz0, hz1, hz2⟩ := info_parts info5
  obtain ⟨s0, s1, q0, q1, hfl, hsz⟩ := msg_bound hf
  obtain ⟨ao, an, ac, rfl⟩ := ht.form
  have hoff := hown.off
  have HV : Hid (∀ k, v.ownBlock = some k → base ≤ k) := fun k hk => (hown.lt k hk).1
  have hlen := (fits_bound hfl).1
  clear hf
  go_enter Try.func40, Try.ntmps40
  go_wp2_with (at_builtin; refine wpList_append_own_at _ rfl _ _ 43 rfl base 5 i0 (.int .u8 0) 1 1 Try.underlying43 hi hz0 hz1 hz2 rfl (by decide) _ _ _ rfl (World.ownsRow.alloc (World.ownsRow.alloc hown _) _) ⟨w.heap.size + 1, 0, none⟩ 2 2 [.int .u8 m.sender, .int .u8 m.seq] rfl rfl ?c1 ?c2 ?c3 ?c4 ?c5 ?_)
  case c1 => exact two_cells (w.alloc _) _ (by simp) _ _
  case c2 => intro u hu; simp at hu; rcases hu with rfl | rfl <;> rfl
  case c3 => unfold maxLen; omega
  case c4 => omega
  case c5 => simp; omega
  intro v1 w1 hown1 hgrow _ hat
  have ha1 : App (w.alloc (.cells #[.int .i64 m.sender, .int .i64 m.seq, .slice ao an ac, .string m.text] 50)) v w1 v1 := (App.alloc _ v _).trans (App.mk hgrow hat (by simp))
  have ho1 : OwnB w1 base v1 (bs ++ [Codec.b8 m.sender, Codec.b8 m.seq]) := OwnB.of (n := bs.length + 2) (by
    have e : Lib.byteCells (bs ++ [Codec.b8 m.sender, Codec.b8 m.seq]) = Lib.byteCells bs ++ [.int .u8 m.sender, .int .u8 m.seq] := by
      simp [Lib.byteCells, Codec.b8_toNat s0 (show m.sender < 256 by omega), Codec.b8_toNat (show 0 ≤ m.seq by omega) (show m.seq < 256 by omega)]
    rw [e]; exact hown1)
  clear hown1 hgrow hat
  have hs1 := ha1.size
  simp at hs1
  have hoff1 := ha1.off (b := w.heap.size) (by simp) hoff
  have d2 := ha1.cell (a := ⟨w.heap.size, 2, none⟩) (u := .slice ao an ac) (by simp) hoff
  have d3 := ha1.cell (a := ⟨w.heap.size, 3, none⟩) (u := .string m.text) (by simp) hoff
  have hb1 : Below base w w1 := ((Below.refl base w).alloc hB _).trans (ha1.below (by simp; omega) HV.out)
  have ht1 := ht.below (hb1.mono hBb)
  go_wp2_with fail
  refine (appendList_any v1 _ (.slice ao an ac) m.time B base _ ho1 (by simp; omega) (by omega) hBb ht1 hfl).mono ?_
  rintro e w2 ⟨v2, rfl, ho2, ha2⟩
  have hs2 := ha2.size
  have hoff2 := ha2.off (b := w.heap.size) (by omega) hoff1
  have d3' := ha2.cell (a := ⟨w.heap.size, 3, none⟩) d3 hoff1
  clear ht1 d2 d3
  go_wp2_with (at_builtin; refine wpList_append_own_at _ rfl _ _ 43 rfl base 5 i0 (.int .u8 0) 1 1 Try.underlying43 hi hz0 hz1 hz2 rfl (by decide) _ _ _ rfl (World.ownsRow.alloc ho2 _) ⟨w2.heap.size, 0, none⟩ 1 1 [.int .u8 (m.text.size : Int)] rfl rfl (one_cell _ _) (one_one _) ?c3 ?c4 ?c5 ?_)
  case c3 => unfold maxLen; simp [Codec.numsB]; omega
  case c4 => simp [Codec.numsB]; omega
  case c5 => simp; omega
  intro v3 w3 hown3 hgrow _ hat
  have ha3 : App w2 v2 w3 v3 := (App.alloc _ v2 _).trans (App.mk hgrow hat (by simp))
  rw [snoc_cells _ (UInt8.ofNat m.text.size) _ (by simp; omega)] at hown3
  have ho3 := OwnB.of hown3
  clear hown3 hgrow hat
  have hs3 := ha3.size
  have d3'' := ha3.cell (a := ⟨w.heap.size, 3, none⟩) d3' hoff2
  clear d3'
  go_wp2_with (at_builtin; refine wp_append_string _ rfl _ _ rfl base _ _ rfl ho3 m.text rfl ?h1 ?h2 ?_)
  case h1 => simp [Codec.numsB]; omega
  case h2 => omega
  intro v4 w4 ho4 ha4
  go_wp2
  go_ret
  exact ⟨_, rfl, by simpa [Codec.msgB] using ho4, (((App.alloc w v _).trans ha1).trans ha2).trans (ha3.trans ha4)⟩
end Go.Proofs.Ytoklolfaemhfnaa
