/-
  The walk of wire.appendFrame: the frame's bytes, as the plain function bodyB of the Codec text names them.
-/
import Derived.Test.YtoklolfaemhfnaaApp
namespace Go.Proofs.Ytoklolfaemhfnaa
open Go.RowKit

theorem numsB_length {l : List Int} (h : Codec.listFits l = true) : (Codec.numsB l).length ≤ 7 := by
  have := (fits_bound h).1
  simp [Codec.numsB]; omega
theorem msgB_length {m : Codec.Msg} (h : Codec.msgFits m = true) : (Codec.msgB m).length ≤ 26 := by
  obtain ⟨_, _, _, _, ht, hx⟩ := msg_bound h
  have := numsB_length ht
  have e : m.text.data.toList.length = m.text.size := by rw [Array.length_toList]; rfl
  simp [Codec.msgB]; omega
theorem msgsB_length (l : List Codec.Msg) (h : l.all Codec.msgFits = true) : (Codec.msgsB l).length ≤ 26 * l.length := by
  induction l with
  | nil => simp [Codec.msgsB]
  | cons m l ih =>
    simp only [List.all_cons, Bool.and_eq_true] at h
    have h1 := msgB_length h.1
    have h2 := ih h.2
    have e : Codec.msgsB (m :: l) = Codec.msgB m ++ Codec.msgsB l := by simp [Codec.msgsB]
    rw [e, List.length_append, List.length_cons]; omega
theorem msgsB_take (l : List Codec.Msg) (k : Nat) (m : Codec.Msg) (hk : l[k]? = some m) : Codec.msgsB (l.take (k + 1)) = Codec.msgsB (l.take k) ++ Codec.msgB m := by
  obtain ⟨hlt, he⟩ := List.getElem?_eq_some_iff.1 hk
  rw [List.take_succ_eq_append_getElem hlt, Codec.msgsB_snoc, he]

/-- A message of a slice of messages, by its number. -/
theorem MsgsAt.entry {w : World} {B n c : Nat} {ao : Option Addr} {l : List Codec.Msg} (h : MsgsAt w B (.slice ao n c) l) :
    n = l.length ∧ ∀ k m, l[k]? = some m → ∃ b off xo xn xc, ao = some ⟨b, off, none⟩ ∧ b < B ∧ w.cell? ⟨b, off + k * 4, none⟩ = some (.int .i64 m.sender) ∧ w.cell? ⟨b, off + k * 4 + 1, none⟩ = some (.int .i64 m.seq) ∧
      w.cell? ⟨b, off + k * 4 + 2, none⟩ = some (.slice xo xn xc) ∧ w.cell? ⟨b, off + k * 4 + 3, none⟩ = some (.string m.text) ∧ NumsAt w B (.slice xo xn xc) m.time := by
  rcases h with ⟨⟨ao0, c0, hv⟩, rfl⟩ | ⟨b, off, cap, hv, hb, hc⟩
  · simp at hv
    exact ⟨by simp [hv], fun k m hk => by simp at hk⟩
  · simp at hv
    refine ⟨hv.2.1, fun k m hk => ?_⟩
    obtain ⟨tv, h0, h1, h2, h3, ht⟩ := hc k m hk
    obtain ⟨xo, xn, xc, rfl⟩ := ht.form
    exact ⟨b, off, xo, xn, xc, hv.1, hb, h0, h1, h2, h3, ht⟩

theorem bodyB_eq (k a b m : Int) (v u t : Nat) (row cut : List Int) (ms : List Codec.Msg) :
    Codec.bodyB ⟨k, a, b, m, v, u, t, row, cut, ms⟩ = (([Codec.b8 k, Codec.b8 a, Codec.b8 b, Codec.b8 m] ++ Codec.word4 v ++ Codec.word4 u ++ Codec.word4 t ++ Codec.numsB row ++ Codec.numsB cut) ++ [UInt8.ofNat ms.length]) ++ Codec.msgsB ms := rfl

theorem four_cells (w : World) (H : Nat) (hH : w.heap.size = H) (x y z t : Int) : ∀ j u, [Value.int .u8 x, .int .u8 y, .int .u8 z, .int .u8 t][j]? = some u → (w.alloc (.cells #[.int .u8 x, .int .u8 y, .int .u8 z, .int .u8 t] 5)).cell? ((⟨H, 0, none⟩ : Addr).add j) = some u := by
  subst hH
  intro j u hj
  match j, hj with
  | 0, hj => simp at hj; subst hj; simp [Addr.add]
  | 1, hj => simp at hj; subst hj; simp [Addr.add]
  | 2, hj => simp at hj; subst hj; simp [Addr.add]
  | 3, hj => simp at hj; subst hj; simp [Addr.add]

set_option maxHeartbeats 2000000 in
theorem appendFrame_any (k a b m : Int) (v u t : Nat) (row cut : List Int) (ms : List Codec.Msg) (rv cv mv : Value) (B : Nat) (w : World)
    (hr : NumsAt w B rv row) (hc : NumsAt w B cv cut) (hm : MsgsAt w B mv ms) (hB : B ≤ w.heap.size)
    (hk0 : 0 ≤ k) (hk1 : k ≤ 7) (ha0 : 0 ≤ a) (ha1 : a ≤ 5) (hb0 : 0 ≤ b) (hb1 : b ≤ 5) (hm0 : 0 ≤ m) (hm1 : m ≤ 63) (hv : v ≤ 2147483647) (hu : u ≤ 2147483647) (ht : t ≤ 2147483647)
    (hrf : Codec.listFits row = true) (hcf : Codec.listFits cut = true) (hml : ms.length ≤ 200) (hmf : ms.all Codec.msgFits = true) :
    Calls Try.prog 25 #[.slice none 0 0, .agg #[.int .i64 k, .int .i64 a, .int .i64 b, .int .i64 m, .int .i64 v, .int .i64 u, .int .i64 t, rv, cv, mv]] w
      fun e w' => ∃ x, e = .returned x ∧ OwnB w' w.heap.size x (Codec.bodyB ⟨k, a, b, m, v, u, t, row, cut, ms⟩) ∧ Below w.heap.size w w' := by
  obtain ⟨i0, hi, hz0, hz1, hz2⟩ := info_parts info5
  obtain ⟨ro, rn, rc, rfl⟩ := hr.form
  obtain ⟨co, cn, cc, rfl⟩ := hc.form
  obtain ⟨mo, mn, mc, rfl⟩ := hm.form
  have hrl := numsB_length hrf
  have hcl := numsB_length hcf
  have HR : Hid (∀ w', Below w.heap.size w w' → NumsAt w' B (.slice ro rn rc) row) := fun w' hb => hr.below (hb.mono hB)
  have HC : Hid (∀ w', Below w.heap.size w w' → NumsAt w' B (.slice co cn cc) cut) := fun w' hb => hc.below (hb.mono hB)
  obtain ⟨rfl, hent⟩ := hm.entry
  have HM : Hid (∀ k m, ms[k]? = some m → ∃ b off xo xn xc, mo = some ⟨b, off, none⟩ ∧ b < B ∧ w.cell? ⟨b, off + k * 4, none⟩ = some (.int .i64 m.sender) ∧ w.cell? ⟨b, off + k * 4 + 1, none⟩ = some (.int .i64 m.seq) ∧
      w.cell? ⟨b, off + k * 4 + 2, none⟩ = some (.slice xo xn xc) ∧ w.cell? ⟨b, off + k * 4 + 3, none⟩ = some (.string m.text) ∧ NumsAt w B (.slice xo xn xc) m.time) := hent
  clear hr hc hm hent
  have hoN : ∀ b, (Value.slice none 0 0).ownBlock ≠ some b := fun b => by simp [Value.ownBlock]
  have HO : Hid (∀ b, (Value.slice none 0 0).ownBlock ≠ some b) := hoN
  have hown0 : OwnB w w.heap.size (.slice none 0 0) [] := OwnB.nil _ _
  clear hoN
  go_enter Try.func25, Try.ntmps25
  go_wp2_with (at_builtin; refine wpList_append_own_at _ rfl _ _ 43 rfl w.heap.size 5 i0 (.int .u8 0) 1 1 Try.underlying43 hi hz0 hz1 hz2 rfl (by decide) _ _ _ rfl (World.ownsRow.alloc (World.ownsRow.alloc hown0 _) _) ⟨w.heap.size + 1, 0, none⟩ 4 4 [.int .u8 k, .int .u8 a, .int .u8 b, .int .u8 m] rfl rfl ?c1 ?c2 ?c3 ?c4 ?c5 ?_)
  case c1 => exact four_cells (w.alloc _) _ (by simp) _ _ _ _
  case c2 => intro u hu; simp at hu; rcases hu with rfl | rfl | rfl | rfl <;> rfl
  case c3 => unfold maxLen; show 0 + 4 ≤ 2 ^ 63 - 1; omega
  case c4 => simp
  case c5 => simp; omega
  intro v1 w1 hown1 hgrow _ hat
  have A1 : App (w.alloc (.cells #[.int .i64 k, .int .i64 a, .int .i64 b, .int .i64 m, .int .i64 v, .int .i64 u, .int .i64 t, .slice ro rn rc, .slice co cn cc, .slice mo ms.length mc] 28)) (.slice none 0 0) w1 v1 := (App.alloc _ _ _).trans (App.mk hgrow hat (by simp))
  have O1 : OwnB w1 w.heap.size v1 [Codec.b8 k, Codec.b8 a, Codec.b8 b, Codec.b8 m] := OwnB.of (n := 4) (by
    have e : Lib.byteCells [Codec.b8 k, Codec.b8 a, Codec.b8 b, Codec.b8 m] = [.int .u8 k, .int .u8 a, .int .u8 b, .int .u8 m] := by
      simp [Lib.byteCells, Codec.b8_toNat hk0 (show k < 256 by omega), Codec.b8_toNat ha0 (show a < 256 by omega), Codec.b8_toNat hb0 (show b < 256 by omega), Codec.b8_toNat hm0 (show m < 256 by omega)]
    rw [e]; simpa [Lib.byteCells] using hown1)
  clear hown1 hgrow hat hown0
  obtain ⟨W, hW⟩ : ∃ W, W = w.alloc (.cells #[.int .i64 k, .int .i64 a, .int .i64 b, .int .i64 m, .int .i64 v, .int .i64 u, .int .i64 t, .slice ro rn rc, .slice co cn cc, .slice mo ms.length mc] 28) := ⟨_, rfl⟩
  rw [← hW] at A1
  have HWs : Hid (W.heap.size = w.heap.size + 1) := by show _ = _; rw [hW]; simp
  have HWb : Hid (Below w.heap.size w W) := by show Below _ _ _; rw [hW]; exact (Below.refl _ _).alloc (Nat.le_refl _) _
  have b4 : W.cell? ⟨w.heap.size, 4, none⟩ = some (.int .i64 v) := by rw [hW]; simp
  have b5 : W.cell? ⟨w.heap.size, 5, none⟩ = some (.int .i64 u) := by rw [hW]; simp
  have b6 : W.cell? ⟨w.heap.size, 6, none⟩ = some (.int .i64 t) := by rw [hW]; simp
  have b7 : W.cell? ⟨w.heap.size, 7, none⟩ = some (.slice ro rn rc) := by rw [hW]; simp
  have b8 : W.cell? ⟨w.heap.size, 8, none⟩ = some (.slice co cn cc) := by rw [hW]; simp
  have b9 : W.cell? ⟨w.heap.size, 9, none⟩ = some (.slice mo ms.length mc) := by rw [hW]; simp
  clear hW
  have HA : Hid (∀ {wi vi}, App W (.slice none 0 0) wi vi → w.heap.size + 1 ≤ wi.heap.size ∧ Below w.heap.size w wi ∧ ∀ j x, W.cell? ⟨w.heap.size, j, none⟩ = some x → wi.cell? ⟨w.heap.size, j, none⟩ = some x) := by
    intro wi vi h
    have hs := h.size
    rw [HWs.out] at hs
    exact ⟨hs, HWb.out.trans (h.below (by rw [HWs.out]; omega) (fun k hk => absurd hk (HO.out k))), fun j x hx => h.cell hx (HO.out _)⟩
  obtain ⟨s1, B1, q1⟩ := HA.out A1
  have c4 := q1 4 _ b4
  clear q1
  go_wp2_with fail
  refine (appendWord_any v1 _ v (by omega) w.heap.size _ O1 (by simp) (by omega)).mono ?_
  rintro e w2 ⟨v2, rfl, O2, A2⟩
  replace A2 := A1.trans A2
  clear c4 A1 O1 s1 B1
  obtain ⟨s2, B2, q2⟩ := HA.out A2
  have c5 := q2 5 _ b5
  clear q2
  go_wp2_with fail
  refine (appendWord_any v2 _ u (by omega) w.heap.size _ O2 (by simp [Codec.word4_length]) (by omega)).mono ?_
  rintro e w3 ⟨v3, rfl, O3, A3⟩
  replace A3 := A2.trans A3
  clear c5 A2 O2 s2 B2
  obtain ⟨s3, B3, q3⟩ := HA.out A3
  have c6 := q3 6 _ b6
  clear q3
  go_wp2_with fail
  refine (appendWord_any v3 _ t (by omega) w.heap.size _ O3 (by simp [Codec.word4_length]) (by omega)).mono ?_
  rintro e w4 ⟨v4, rfl, O4, A4⟩
  replace A4 := A3.trans A4
  clear c6 A3 O3 s3 B3
  obtain ⟨s4, B4, q4⟩ := HA.out A4
  have c7 := q4 7 _ b7
  clear q4
  go_wp2_with fail
  refine (appendList_any v4 _ _ row B w.heap.size _ O4 (by simp [Codec.word4_length]) (by omega) hB (HR.out _ B4) hrf).mono ?_
  rintro e w5 ⟨v5, rfl, O5, A5⟩
  replace A5 := A4.trans A5
  clear c7 A4 O4 s4 B4
  obtain ⟨s5, B5, q5⟩ := HA.out A5
  have c8 := q5 8 _ b8
  clear q5
  go_wp2_with fail
  refine (appendList_any v5 _ _ cut B w.heap.size _ O5 (by simp [Codec.word4_length]; omega) (by omega) hB (HC.out _ B5) hcf).mono ?_
  rintro e w6 ⟨v6, rfl, O6, A6⟩
  replace A6 := A5.trans A6
  clear c8 A5 O5 s5 B5
  obtain ⟨s6, B6, q6⟩ := HA.out A6
  have c9 := q6 9 _ b9
  clear q6
  go_wp2_with (at_builtin; refine wpList_append_own_at _ rfl _ _ 43 rfl w.heap.size 5 i0 (.int .u8 0) 1 1 Try.underlying43 hi hz0 hz1 hz2 rfl (by decide) _ _ _ rfl (World.ownsRow.alloc O6 _) ⟨w6.heap.size, 0, none⟩ 1 1 [.int .u8 (ms.length : Int)] rfl rfl (one_cell _ _) (one_one _) ?c3 ?c4 ?c5 ?_)
  case c3 => unfold maxLen; simp [Codec.word4_length]; omega
  case c4 => simp [Codec.word4_length]; omega
  case c5 => simp; omega
  intro v7 w7 hown7 hgrow _ hat
  have A7 : App W (.slice none 0 0) w7 v7 := A6.trans ((App.alloc _ _ _).trans (App.mk hgrow hat (by simp)))
  rw [snoc_cells _ (UInt8.ofNat ms.length) _ (by simp; omega)] at hown7
  have O7 : OwnB w7 w.heap.size v7 (([Codec.b8 k, Codec.b8 a, Codec.b8 b, Codec.b8 m] ++ Codec.word4 v ++ Codec.word4 u ++ Codec.word4 t ++ Codec.numsB row ++ Codec.numsB cut) ++ [UInt8.ofNat ms.length]) := OwnB.eq hown7 (by simp)
  clear hown7 hgrow hat c9 A6 O6 s6 B6
  obtain ⟨s7, B7, q7⟩ := HA.out A7
  have c9 := q7 9 _ b9
  clear q7
  have HP : Hid (Codec.bodyB ⟨k, a, b, m, v, u, t, row, cut, ms⟩ = _ ++ Codec.msgsB ms) := bodyB_eq k a b m v u t row cut ms
  have hpl : (([Codec.b8 k, Codec.b8 a, Codec.b8 b, Codec.b8 m] ++ Codec.word4 v ++ Codec.word4 u ++ Codec.word4 t ++ Codec.numsB row ++ Codec.numsB cut) ++ [UInt8.ofNat ms.length]).length ≤ 40 := by
    simp [Codec.word4_length]; omega
  generalize (([Codec.b8 k, Codec.b8 a, Codec.b8 b, Codec.b8 m] ++ Codec.word4 v ++ Codec.word4 u ++ Codec.word4 t ++ Codec.numsB row ++ Codec.numsB cut) ++ [UInt8.ofNat ms.length]) = P at O7 HP hpl
  clear b4 b5 b6 b7 b8 b9
  go_wp2
  go_loopw [0, 55] (fun x i wr => ∃ j : Nat, j ≤ ms.length ∧ i = .int .i64 j ∧ OwnB wr w.heap.size x (P ++ Codec.msgsB (ms.take j)) ∧ App W (.slice none 0 0) wr x) (fun _ i _ => ms.length - (intOf i).toNat)
  case atStart => exact ⟨0, by omega, rfl, by simpa [Codec.msgsB] using O7, A7⟩
  case round =>
    obtain ⟨j, hj, rfl, O, A⟩ := hrel
    by_cases hlt : j < ms.length
    · obtain ⟨x, hx⟩ : ∃ x, ms[j]? = some x := ⟨ms[j], List.getElem?_eq_getElem hlt⟩
      obtain ⟨eb, off, xo, xn, xc, hmo, heB, c0, c1, c2, c3, ht⟩ := HM.out j x hx
      subst hmo
      obtain ⟨s8, B8, _⟩ := HA.out A
      have HS : Hid (_ = _) := msgsB_take ms j x hx
      have hfx : Codec.msgFits x = true := List.all_eq_true.1 hmf x (List.mem_of_getElem? hx)
      have hlen := msgsB_length (ms.take j) (by rw [List.all_eq_true] at hmf ⊢; exact fun y hy => hmf y (List.mem_of_mem_take hy))
      have hlen2 : (ms.take j).length ≤ 200 := by simp; omega
      have d0 := (B8.cell (p := ⟨eb, off + j * 4, none⟩) (by show eb < _; omega)).trans c0
      have d1 := (B8.cell (p := ⟨eb, off + j * 4 + 1, none⟩) (by show eb < _; omega)).trans c1
      have d2 := (B8.cell (p := ⟨eb, off + j * 4 + 2, none⟩) (by show eb < _; omega)).trans c2
      have d3 := (B8.cell (p := ⟨eb, off + j * 4 + 3, none⟩) (by show eb < _; omega)).trans c3
      have HT : Hid (∀ o, NumsAt (wr.alloc o) B (.slice xo xn xc) x.time) := fun o => ht.below ((B8.mono hB).alloc (by omega) o)
      clear c0 c1 c2 c3 ht hx
      go_wp2_with fail
      refine (appendMsg_any _ _ x (.slice xo xn xc) B w.heap.size _ (O.alloc _) (by simp; omega) (by simp; omega) hB (HT.out _) hfx).mono ?_
      rintro e w9 ⟨v9, rfl, O9, A9⟩
      have A9' := A.trans ((App.alloc _ _ _).trans A9)
      go_wp2
      go_roundw
      case rel => exact ⟨j + 1, by omega, by go_num, by rw [HS.out, ← List.append_assoc]; exact O9, A9'⟩
      case measure => simp [intOf]; omega
    · obtain ⟨s8, B8, _⟩ := HA.out A
      go_wp2
      go_ret
      exact ⟨_, rfl, by rw [HP.out]; rw [List.take_of_length_le (by omega)] at O; exact O, B8⟩
end Go.Proofs.Ytoklolfaemhfnaa
