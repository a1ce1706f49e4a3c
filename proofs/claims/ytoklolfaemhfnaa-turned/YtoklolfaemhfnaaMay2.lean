/-
  The walk of the document's May: the bounds of a frame, as the plain function fits of the Codec text says them.
-/
import Derived.Test.YtoklolfaemhfnaaMay
import Derived.Test.YtoklolfaemhfnaaRead2
namespace Go.Proofs.Ytoklolfaemhfnaa
open Go.RowKit

theorem msgs_no' (l : List Codec.Msg) (k : Nat) (m : Codec.Msg) (hk : l[k]? = some m) (h : Codec.msgFits m = false) : l.all Codec.msgFits = false := msgs_no l k m hk h
theorem fit_of (x : Codec.Msg) (h0 : Codec.listFits x.time = true) (h1 : ¬ x.sender < 0) (h2 : ¬ 5 < x.sender) (h3 : ¬ x.seq < 1) (h4 : ¬ 20 < x.seq) (h5 : ¬ 16 < x.text.size) : Codec.msgFits x = true := by
  simp [Codec.msgFits, Codec.inB, h0]; omega
theorem unfit0 {x : Codec.Msg} (h : Codec.listFits x.time = false) : Codec.msgFits x = false := by simp [Codec.msgFits, h]
theorem unfit1 {x : Codec.Msg} (h : x.sender < 0 ∨ 5 < x.sender ∨ x.seq < 1 ∨ 20 < x.seq ∨ 16 < x.text.size) : Codec.msgFits x = false := by
  cases e : Codec.msgFits x with
  | false => rfl
  | true => have := msg_bound e; omega

set_option maxHeartbeats 2000000 in
theorem may_lists (k a b m v u t : Int) (row cut : List Int) (mo : Option Addr) (mn mc B : Nat) (rv cv : Value) (w : World) (hr : NumsAt w B rv row) (hc : NumsAt w B cv cut) (hB : B ≤ w.heap.size) (hl1 : row.length ≤ maxLen) (hl2 : cut.length ≤ maxLen)
    (h1 : 1 ≤ k ∧ k ≤ 7 ∧ 0 ≤ a ∧ a ≤ 5 ∧ 0 ≤ b ∧ b ≤ 5 ∧ 0 ≤ m ∧ m ≤ 63) (h2 : 0 ≤ v ∧ v ≤ 2147483647 ∧ 0 ≤ u ∧ u ≤ 2147483647 ∧ 0 ≤ t ∧ t ≤ 2147483647)
    (h : Codec.listFits row = false ∨ Codec.listFits cut = false ∨ 200 < mn) :
    Calls Try.prog 19 #[.agg #[.int .i64 k, .int .i64 a, .int .i64 b, .int .i64 m, .int .i64 v, .int .i64 u, .int .i64 t, rv, cv, .slice mo mn mc]] w fun e w' => e = .returned (.bool false) ∧ Below w.heap.size w w' := by
  obtain ⟨ro, rn, rc, rfl⟩ := hr.form
  obtain ⟨co, cn, cc, rfl⟩ := hc.form
  have HR : Hid (∀ w', Below w.heap.size w w' → NumsAt w' B (.slice ro rn rc) row) := fun w' hb => hr.below (hb.mono hB)
  have HC : Hid (∀ w', Below w.heap.size w w' → NumsAt w' B (.slice co cn cc) cut) := fun w' hb => hc.below (hb.mono hB)
  have hb0 : ∀ o, Below w.heap.size w (w.alloc o) := fun o => (Below.refl _ _).alloc (Nat.le_refl _) o
  clear hr hc
  obtain ⟨p1, p2, p3, p4, p5, p6, p7, p8⟩ := h1
  obtain ⟨q1, q2, q3, q4, q5, q6⟩ := h2
  cases e1 : Codec.listFits row with
  | false =>
    clear h
    go_enter Try.func19, Try.ntmps19
    go_wp2_with fail
    refine (few_any _ row B _ (HR.out _ (hb0 _)) hl1).mono ?_
    rintro e w' ⟨rfl, rfl⟩
    go_wp2_with fail
    refine (few_any _ cut B _ (HC.out _ (hb0 _)) hl2).mono ?_
    rintro e w' ⟨rfl, rfl⟩
    go_wp2
    go_ret
    exact ⟨rfl, hb0 _⟩
  | true =>
    cases e2 : Codec.listFits cut with
    | false =>
      clear h
      go_enter Try.func19, Try.ntmps19
      go_wp2_with fail
      refine (few_any _ row B _ (HR.out _ (hb0 _)) hl1).mono ?_
      rintro e w' ⟨rfl, rfl⟩
      go_wp2_with fail
      refine (few_any _ cut B _ (HC.out _ (hb0 _)) hl2).mono ?_
      rintro e w' ⟨rfl, rfl⟩
      go_wp2
      go_ret
      exact ⟨rfl, hb0 _⟩
    | true =>
      have h3 : 200 < mn := by simp [e1, e2] at h; exact h
      clear h
      go_enter Try.func19, Try.ntmps19
      go_wp2_with fail
      refine (few_any _ row B _ (HR.out _ (hb0 _)) hl1).mono ?_
      rintro e w' ⟨rfl, rfl⟩
      go_wp2_with fail
      refine (few_any _ cut B _ (HC.out _ (hb0 _)) hl2).mono ?_
      rintro e w' ⟨rfl, rfl⟩
      go_wp2
      go_ret
      exact ⟨rfl, hb0 _⟩

set_option maxHeartbeats 4000000 in
theorem may_loop (k a b m v u t : Int) (row cut : List Int) (ms : List Codec.Msg) (mv : Value) (B : Nat) (rv cv : Value) (w : World) (hr : NumsAt w B rv row) (hc : NumsAt w B cv cut) (hm : MsgsAt w B mv ms) (hB : B ≤ w.heap.size) (hl1 : row.length ≤ maxLen) (hl2 : cut.length ≤ maxLen)
    (htl : ∀ x ∈ ms, x.time.length ≤ maxLen)
    (h1 : 1 ≤ k ∧ k ≤ 7 ∧ 0 ≤ a ∧ a ≤ 5 ∧ 0 ≤ b ∧ b ≤ 5 ∧ 0 ≤ m ∧ m ≤ 63) (h2 : 0 ≤ v ∧ v ≤ 2147483647 ∧ 0 ≤ u ∧ u ≤ 2147483647 ∧ 0 ≤ t ∧ t ≤ 2147483647)
    (e1 : Codec.listFits row = true) (e2 : Codec.listFits cut = true) (hml : ms.length ≤ 200) :
    Calls Try.prog 19 #[.agg #[.int .i64 k, .int .i64 a, .int .i64 b, .int .i64 m, .int .i64 v, .int .i64 u, .int .i64 t, rv, cv, mv]] w fun e w' => e = .returned (.bool (ms.all Codec.msgFits)) ∧ Below w.heap.size w w' := by
  obtain ⟨ro, rn, rc, rfl⟩ := hr.form
  obtain ⟨co, cn, cc, rfl⟩ := hc.form
  obtain ⟨mo, mn, mc, rfl⟩ := hm.form
  have HR : Hid (∀ w', Below w.heap.size w w' → NumsAt w' B (.slice ro rn rc) row) := fun w' hb => hr.below (hb.mono hB)
  have HC : Hid (∀ w', Below w.heap.size w w' → NumsAt w' B (.slice co cn cc) cut) := fun w' hb => hc.below (hb.mono hB)
  have HM : Hid (∀ w', Below w.heap.size w w' → MsgsAt w' B (.slice mo mn mc) ms) := fun w' hb => hm.below (hb.mono hB)
  obtain ⟨rfl, -⟩ := hm.entry
  have HT : Hid (∀ x ∈ ms, x.time.length ≤ maxLen) := htl
  have hb0 : ∀ o, Below w.heap.size w (w.alloc o) := fun o => (Below.refl _ _).alloc (Nat.le_refl _) o
  clear hr hc hm htl
  obtain ⟨p1, p2, p3, p4, p5, p6, p7, p8⟩ := h1
  obtain ⟨q1, q2, q3, q4, q5, q6⟩ := h2
  go_enter Try.func19, Try.ntmps19
  go_wp2_with fail
  refine (few_any _ row B _ (HR.out _ (hb0 _)) hl1).mono ?_
  rintro e w' ⟨rfl, rfl⟩
  go_wp2_with fail
  refine (few_any _ cut B _ (HC.out _ (hb0 _)) hl2).mono ?_
  rintro e w' ⟨rfl, rfl⟩
  go_wp2
  have P0 := BlkAt.new w w.heap.size rfl 28 #[.int .i64 k, .int .i64 a, .int .i64 b, .int .i64 m, .int .i64 v, .int .i64 u, .int .i64 t, .slice ro rn rc, .slice co cn cc, .slice mo ms.length mc]
  have B0 := hb0 (.cells #[.int .i64 k, .int .i64 a, .int .i64 b, .int .i64 m, .int .i64 v, .int .i64 u, .int .i64 t, .slice ro rn rc, .slice co cn cc, .slice mo ms.length mc] 28)
  go_loopw [5] (fun i wr => ∃ j : Nat, j ≤ ms.length ∧ i = .int .i64 j ∧ Hid ((ms.take j).all Codec.msgFits = true) ∧ BlkAt wr w.heap.size 28 #[.int .i64 k, .int .i64 a, .int .i64 b, .int .i64 m, .int .i64 v, .int .i64 u, .int .i64 t, .slice ro rn rc, .slice co cn cc, .slice mo ms.length mc] ∧ Below w.heap.size w wr) (fun i _ => ms.length - (intOf i).toNat)
  case atStart => exact ⟨0, by omega, rfl, rfl, P0, B0⟩
  case round =>
    clear P0 B0
    obtain ⟨j, hj, rfl, HA, P, hbel⟩ := hrel
    have hsz := P.lt
    have c9 := P.cell 9 _ rfl
    by_cases hlt : j < ms.length
    · obtain ⟨x, hx⟩ : ∃ x, ms[j]? = some x := ⟨ms[j], List.getElem?_eq_getElem hlt⟩
      obtain ⟨xb, off, xo, xn, xc, hmo, hxB, d0, d1, d2, d3, ht⟩ := (HM.out _ hbel).entry.2 j x hx
      subst hmo
      have HS : Hid (_ = _) := msgs_step ms j x hx
      have HNo : Hid (_ → _) := msgs_no ms j x hx
      have hxl := HT.out x (List.mem_of_getElem? hx)
      have HTT : Hid (∀ o, NumsAt (wr.alloc o) B (.slice xo xn xc) x.time) := fun o => ht.below ((Below.refl _ _).alloc (by omega) o)
      have HP : Hid (∀ o, BlkAt (wr.alloc o) w.heap.size 28 _) := fun o => P.alloc o
      have HBel : Hid (∀ o, Below w.heap.size w (wr.alloc o)) := fun o => hbel.alloc (by omega) o
      clear ht hx P
      cases e3 : Codec.listFits x.time with
      | false =>
        have HF : Hid (ms.all Codec.msgFits = false) := HNo.out (unfit0 e3)
        go_wp2_with fail
        refine (few_any _ x.time B _ (HTT.out _) hxl).mono ?_
        rintro e w' ⟨rfl, rfl⟩
        go_wp2
        go_ret
        exact ⟨ret_bool HF.out.symm, HBel.out _⟩
      | true =>
        by_cases g0 : x.sender < 0
        · have HF : Hid (ms.all Codec.msgFits = false) := HNo.out (unfit1 (by omega))
          go_wp2_with fail
          refine (few_any _ x.time B _ (HTT.out _) hxl).mono ?_
          rintro e w' ⟨rfl, rfl⟩
          go_wp2
          go_ret
          exact ⟨ret_bool HF.out.symm, HBel.out _⟩
        by_cases g1 : 5 < x.sender
        · have HF : Hid (ms.all Codec.msgFits = false) := HNo.out (unfit1 (by omega))
          go_wp2_with fail
          refine (few_any _ x.time B _ (HTT.out _) hxl).mono ?_
          rintro e w' ⟨rfl, rfl⟩
          go_wp2
          go_ret
          exact ⟨ret_bool HF.out.symm, HBel.out _⟩
        by_cases g2 : x.seq < 1
        · have HF : Hid (ms.all Codec.msgFits = false) := HNo.out (unfit1 (by omega))
          go_wp2_with fail
          refine (few_any _ x.time B _ (HTT.out _) hxl).mono ?_
          rintro e w' ⟨rfl, rfl⟩
          go_wp2
          go_ret
          exact ⟨ret_bool HF.out.symm, HBel.out _⟩
        by_cases g3 : 20 < x.seq
        · have HF : Hid (ms.all Codec.msgFits = false) := HNo.out (unfit1 (by omega))
          go_wp2_with fail
          refine (few_any _ x.time B _ (HTT.out _) hxl).mono ?_
          rintro e w' ⟨rfl, rfl⟩
          go_wp2
          go_ret
          exact ⟨ret_bool HF.out.symm, HBel.out _⟩
        by_cases g4 : 16 < x.text.size
        · have HF : Hid (ms.all Codec.msgFits = false) := HNo.out (unfit1 (by omega))
          go_wp2_with fail
          refine (few_any _ x.time B _ (HTT.out _) hxl).mono ?_
          rintro e w' ⟨rfl, rfl⟩
          go_wp2
          go_ret
          exact ⟨ret_bool HF.out.symm, HBel.out _⟩
        have HFit : Hid (Codec.msgFits x = true) := fit_of x e3 g0 g1 g2 g3 g4
        go_wp2_with fail
        refine (few_any _ x.time B _ (HTT.out _) hxl).mono ?_
        rintro e w' ⟨rfl, rfl⟩
        go_wp2
        go_roundw
        case rel => exact ⟨j + 1, by omega, by go_num, by show _ = _; rw [HS.out, HA.out, HFit.out]; rfl, HP.out _, HBel.out _⟩
        case measure => simp [intOf]; omega
    · have HF : Hid (ms.all Codec.msgFits = true) := by
        show _ = _
        have := HA.out
        rwa [List.take_of_length_le (by omega)] at this
      go_wp2
      go_ret
      exact ⟨ret_bool HF.out.symm, hbel⟩

end Go.Proofs.Ytoklolfaemhfnaa
