/-
  For the walk of the law News: last, made, plays, News.
-/
import Derived.Test.YtoklolfaemhfnaaGreatDoorNwQ
namespace Go.Proofs.YtoklolfaemhfnaaGreatDoor
open Go.RowKit

set_option maxHeartbeats 1600000 in
theorem last_any (lo n : Nat) (w0 w : World) (wb gx gy : Nat) (ev iv : Value) (h : St w0 w wb gx gy ev iv [] []) (hX : GrpX w0 lo wb gx n) (hY : GrpY w0 lo wb gy n) (hn : n ≤ 6) :
    Calls Tryz.prog 24 #[.pointer (some ⟨wb, 0, none⟩)] w fun e w' => e = .returned (.bool true) ∧ Below wb w0 w' := by
  have HX : Hid (GrpX w0 lo wb gx n) := hX
  have HY : Hid (GrpY w0 lo wb gy n) := hY
  have HS : Hid (St w0 w wb gx gy ev iv [] []) := h
  clear h hX hY
  go_enter Tryz.func24, Tryz.ntmps24
  go_wp2_with fail
  go_loopw [3] (fun i wr => ∃ p : Int, -1 ≤ p ∧ p ≤ 7 ∧ i = .int .i64 p ∧ ∃ ev iv E F, Hid (St w0 wr wb gx gy ev iv E F) ∧ Hid ((E.length : Int) = 4 * (p + 1)) ∧ Hid ((F.length : Int) = 4 * (p + 1))) (fun i _ => (7 - intOf i).toNat)
  case atStart => exact ⟨-1, by omega, by omega, rfl, ev, iv, [], [], HS, by show _ = _; simp, by show _ = _; simp⟩
  case round =>
    clear HS
    obtain ⟨p, hp0, hp1, rfl, ev, iv, E, F, HS, HE, HF⟩ := hrel
    by_cases hlt : p ≤ 6
    · go_wp2_with fail
      refine (proc_any p lo n w0 _ wb gx gy ev iv E F HS.out HX.out HY.out (by have := HF.out; omega) hn).mono ?_
      rintro e w1 ⟨rfl, iv1, F1, hst1, hl1⟩
      have HS1 : Hid (St w0 w1 wb gx gy ev iv1 E F1) := hst1
      have HF1 : Hid ((F1.length : Int) = 4 * (p + 1 + 1)) := by show _ = _; have := HF.out; omega
      clear hst1 hl1 HS HF
      go_wp2_with fail
      refine (told_any p lo n w0 _ wb gx gy ev iv1 E F1 HS1.out HX.out HY.out (by have := HE.out; omega)).mono ?_
      rintro e w2 ⟨rfl, ev2, E2, hst2, hl2⟩
      have HS2 : Hid (St w0 w2 wb gx gy ev2 iv1 E2 F1) := hst2
      have HE2 : Hid ((E2.length : Int) = 4 * (p + 1 + 1)) := by show _ = _; have := HE.out; omega
      clear hst2 hl2 HS1 HE
      go_wp2_with fail
      go_roundw
      case rel => exact ⟨p + 1, by omega, by omega, by go_num, ev2, iv1, E2, F1, HS2, HE2, HF1⟩
      case measure => simp [intOf]; omega
    · have c1 := HS.out.box.cell 1 _ rfl
      simp only [List.getElem_toArray, List.getElem_cons_zero, List.getElem_cons_succ] at c1
      have HYw : Hid (GrpY wr lo wb gy n) := HY.out.span (Span.of_below HS.out.bel (Nat.le_refl _))
      go_wp2_with (go_at_call 53; refine (rFlight_any lo wb gy n _ HYw.out).mono ?_; rintro e w' ⟨rfl, rfl⟩)
      go_loopw [7] (fun i wx => ∃ k : Int, -1 ≤ k ∧ k ≤ 1 ∧ i = .int .i64 k ∧ Hid (St w0 wx wb gx gy ev iv E F)) (fun i _ => (1 - intOf i).toNat)
      case atStart => exact ⟨-1, by omega, by omega, rfl, HS⟩
      case round =>
        clear HS c1 HYw
        obtain ⟨k, hk0, hk1, rfl, HS⟩ := hrel
        by_cases hk : k ≤ 0
        · go_wp2_with fail
          refine (frame_any k lo n w0 _ wb gx gy ev iv E F HS.out HX.out HY.out).mono ?_
          rintro e w1 ⟨rfl, rfl⟩
          go_wp2_with fail
          go_roundw
          case rel => exact ⟨k + 1, by omega, by omega, by go_num, HS⟩
          case measure => simp [intOf]; omega
        · go_wp2_with fail
          refine (flightW_any lo n w0 _ wb gx gy ev iv E F HS.out HX.out HY.out).mono ?_
          rintro e w1 ⟨rfl, rfl⟩
          go_wp2_with fail
          refine (looks_any w0 _ wb gx gy ev iv E F HS.out (by have := HE.out; omega) (by have := HF.out; omega)).mono ?_
          rintro e w2 ⟨rfl, hb2⟩
          have HB : Hid (Below wb w0 w2) := HS.out.bel.trans (hb2.mono (Nat.le_of_lt HS.out.box.lt))
          clear hb2
          go_wp2_with fail
          go_ret
          exact ⟨rfl, HB.out⟩

theorem GrpX.wide {w : World} {lo hi lo' hi' g n : Nat} (h : GrpX w lo hi g n) (h1 : lo' ≤ lo) (h2 : hi ≤ hi') : GrpX w lo' hi' g n := by
  obtain ⟨ps, fl, a1, a2, hb, hp⟩ := h
  refine ⟨ps, fl, by omega, by omega, hb, fun p hlt => ?_⟩
  obtain ⟨b, hc, hx⟩ := hp p hlt
  exact ⟨b, hc, hx.wide h1 h2⟩
theorem GrpY.wide {w : World} {lo hi lo' hi' g n : Nat} (h : GrpY w lo hi g n) (h1 : lo' ≤ lo) (h2 : hi ≤ hi') : GrpY w lo' hi' g n := by
  obtain ⟨ps, cap, x, y, a1, a2, hb, hp⟩ := h
  refine ⟨ps, cap, x, y, by omega, by omega, hb, fun p hlt => ?_⟩
  obtain ⟨b, hc, hx⟩ := hp p hlt
  exact ⟨b, hc, hx.keep (KeepT.refl _ _) h1 h2⟩

set_option maxHeartbeats 800000 in
theorem made_no (a b c : Int) (w : World) (h : ¬ okC a b c) : Calls Tryz.prog 21 #[.agg #[.int .i64 a, .int .i64 b, .int .i64 c]] w fun e w' => e = .returned (.tuple #[.pointer none, .bool true]) ∧ Below w.heap.size w w' := by
  have hC := BlkAt.new w w.heap.size rfl 23 #[.int .i64 a, .int .i64 b, .int .i64 c]
  have H : Hid (¬ okC a b c) := h
  clear h
  have c0 := hC.cell 0 _ rfl
  have c1 := hC.cell 1 _ rfl
  have c2 := hC.cell 2 _ rfl
  simp only [List.getElem_toArray, List.getElem_cons_zero, List.getElem_cons_succ] at c0 c1 c2
  go_enter Tryz.func21, Tryz.ntmps21
  go_wp2_with fail
  refine (newX_no a b c _ H.out).mono ?_
  rintro e w1 ⟨rfl, hb1⟩
  have hC1 := hC.below hb1 (by simp)
  have hB1 : Below w.heap.size w w1 := ((Below.refl _ _).alloc (Nat.le_refl _) _).trans (hb1.mono (by simp))
  clear c0 c1 c2
  have c0 := hC1.cell 0 _ rfl
  have c1 := hC1.cell 1 _ rfl
  have c2 := hC1.cell 2 _ rfl
  simp only [List.getElem_toArray, List.getElem_cons_zero, List.getElem_cons_succ] at c0 c1 c2
  clear hC hC1 hb1
  go_wp2_with fail
  refine (newY_no a b c _ H.out).mono ?_
  rintro e w2 ⟨rfl, hb2⟩
  have HB : Hid (Below w.heap.size w w2) := hB1.trans (hb2.mono hB1.size)
  clear c0 c1 c2 hb2 hB1
  go_wp2_with fail
  go_ret2
  exact ⟨rfl, HB.out⟩

set_option maxHeartbeats 800000 in
theorem made_yes (n : Nat) (b c : Int) (w : World) (h : okC n b c) : Calls Tryz.prog 21 #[.agg #[.int .i64 n, .int .i64 b, .int .i64 c]] w fun e w' => ∃ wb, e = .returned (.tuple #[.pointer (some ⟨wb, 0, none⟩), .bool true]) ∧ w.heap.size ≤ wb ∧ Below w.heap.size w w' ∧ ∃ gx gy lo, St w' w' wb gx gy (.slice none 0 0) (.slice none 0 0) [] [] ∧ GrpX w' lo wb gx n ∧ GrpY w' lo wb gy n := by
  have hC := BlkAt.new w w.heap.size rfl 23 #[.int .i64 n, .int .i64 b, .int .i64 c]
  have H : Hid (okC n b c) := h
  clear h
  have c0 := hC.cell 0 _ rfl
  have c1 := hC.cell 1 _ rfl
  have c2 := hC.cell 2 _ rfl
  simp only [List.getElem_toArray, List.getElem_cons_zero, List.getElem_cons_succ] at c0 c1 c2
  go_enter Tryz.func21, Tryz.ntmps21
  go_wp2_with fail
  refine (newX_yes n b c _ H.out).mono ?_
  rintro e w1 ⟨gx, rfl, hX, hb1⟩
  have hC1 := hC.below hb1 (by simp)
  have hB1 : Below w.heap.size w w1 := ((Below.refl _ _).alloc (Nat.le_refl _) _).trans (hb1.mono (by simp))
  have hs1 := hb1.size
  simp at hs1
  clear c0 c1 c2
  have c0 := hC1.cell 0 _ rfl
  have c1 := hC1.cell 1 _ rfl
  have c2 := hC1.cell 2 _ rfl
  simp only [List.getElem_toArray, List.getElem_cons_zero, List.getElem_cons_succ] at c0 c1 c2
  have HX : Hid (GrpX w1 w.heap.size w1.heap.size gx n) := hX.wide (by simp) (Nat.le_refl _)
  clear hC hC1 hb1 hX
  go_wp2_with fail
  refine (newY_yes n b c _ H.out).mono ?_
  rintro e w2 ⟨gy, rfl, hY, hb2⟩
  have hs2 := hb2.size
  have hB2 : Below w.heap.size w w2 := hB1.trans (hb2.mono hB1.size)
  have hbA : Below w2.heap.size w2 (w2.alloc (.cells #[.pointer (some ⟨gx, 0, none⟩), .pointer (some ⟨gy, 0, none⟩), .slice none 0 0, .slice none 0 0] 83)) := (Below.refl _ _).alloc (Nat.le_refl _) _
  have HX2 : Hid (GrpX (w2.alloc (.cells #[.pointer (some ⟨gx, 0, none⟩), .pointer (some ⟨gy, 0, none⟩), .slice none 0 0, .slice none 0 0] 83)) w.heap.size w2.heap.size gx n) := ((HX.out.span (Span.of_below hb2 (Nat.le_refl _))).wide (Nat.le_refl _) hs2).span (Span.of_below hbA (Nat.le_refl _))
  have HY2 : Hid (GrpY (w2.alloc (.cells #[.pointer (some ⟨gx, 0, none⟩), .pointer (some ⟨gy, 0, none⟩), .slice none 0 0, .slice none 0 0] 83)) w.heap.size w2.heap.size gy n) := (hY.wide (by omega) (Nat.le_refl _)).span (Span.of_below hbA (Nat.le_refl _))
  have HB2 : Hid (Below w.heap.size w (w2.alloc (.cells #[.pointer (some ⟨gx, 0, none⟩), .pointer (some ⟨gy, 0, none⟩), .slice none 0 0, .slice none 0 0] 83))) := hB2.alloc hB2.size _
  have HS2 : Hid (St (w2.alloc (.cells #[.pointer (some ⟨gx, 0, none⟩), .pointer (some ⟨gy, 0, none⟩), .slice none 0 0, .slice none 0 0] 83)) (w2.alloc (.cells #[.pointer (some ⟨gx, 0, none⟩), .pointer (some ⟨gy, 0, none⟩), .slice none 0 0, .slice none 0 0] 83)) w2.heap.size gx gy (.slice none 0 0) (.slice none 0 0) [] []) :=
    ⟨BlkAt.new _ _ rfl _ _, World.ownsRow_nil _ _ _ _, World.ownsRow_nil _ _ _ _, fun e he => absurd he (List.not_mem_nil), fun e he => absurd he (List.not_mem_nil), Below.refl _ _⟩
  have hs : w.heap.size ≤ w2.heap.size := by omega
  clear hY hb2 hbA hB1 hB2 HX c0 c1 c2
  go_wp2_with fail
  go_ret2
  exact ⟨_, rfl, hs, HB2.out, gx, gy, w.heap.size, HS2.out, HX2.out, HY2.out⟩

set_option maxHeartbeats 800000 in
theorem plays_new (a b c : Int) (w : World) : Calls Tryz.prog 12 #[.agg #[.int .i64 a, .int .i64 b, .int .i64 c], .slice none 0 0, .int .i64 0] w fun e w' => e = .returned (.bool true) ∧ Below w.heap.size w w' := by
  have hC := BlkAt.new w w.heap.size rfl 23 #[.int .i64 a, .int .i64 b, .int .i64 c]
  have c0 := hC.cell 0 _ rfl
  have c1 := hC.cell 1 _ rfl
  have c2 := hC.cell 2 _ rfl
  simp only [List.getElem_toArray, List.getElem_cons_zero, List.getElem_cons_succ] at c0 c1 c2
  clear hC
  by_cases hok : okC a b c
  · have hn : a = (a.toNat : Int) := by have := hok.1; omega
    have hn6 : a.toNat ≤ 6 := by have := hok.2.1; omega
    generalize a.toNat = n at hn hn6
    subst hn
    have H : Hid (okC n b c) := hok
    clear hok
    go_enter Tryz.func12, Tryz.ntmps12
    go_wp2_with fail
    refine (made_yes n b c _ H.out).mono ?_
    rintro e w1 ⟨wb, rfl, hwb, hb1, gx, gy, lo, hst, hX, hY⟩
    have HS : Hid (St w1 w1 wb gx gy (.slice none 0 0) (.slice none 0 0) [] []) := hst
    have HX : Hid (GrpX w1 lo wb gx n) := hX
    have HY : Hid (GrpY w1 lo wb gy n) := hY
    have HB : Hid (Below w.heap.size w w1) := ((Below.refl _ _).alloc (Nat.le_refl _) _).trans (hb1.mono (by simp))
    simp at hwb
    clear hst hX hY hb1 c0 c1 c2
    go_wp2_with fail
    go_loopw [9] (fun i wr => i = .int .i64 0 ∧ Hid (wr = w1)) (fun _ _ => 0)
    case atStart => exact ⟨rfl, rfl⟩
    case round =>
      obtain ⟨rfl, hw⟩ := hrel
      have hw' : wr = w1 := hw.out
      subst hw'
      clear hw
      go_wp2_with fail
      refine (last_any lo n wr _ wb gx gy _ _ HS.out HX.out HY.out hn6).mono ?_
      rintro e w2 ⟨rfl, hb2⟩
      have HB2 : Hid (Below w.heap.size w w2) := HB.out.trans (hb2.mono (by omega))
      clear hb2
      go_wp2_with fail
      go_ret
      exact ⟨rfl, HB2.out⟩
  · have H : Hid (¬ okC a b c) := hok
    clear hok
    go_enter Tryz.func12, Tryz.ntmps12
    go_wp2_with fail
    refine (made_no a b c _ H.out).mono ?_
    rintro e w1 ⟨rfl, hb1⟩
    have HB : Hid (Below w.heap.size w w1) := ((Below.refl _ _).alloc (Nat.le_refl _) _).trans (hb1.mono (by simp))
    clear hb1 c0 c1 c2
    go_wp2_with fail
    go_ret
    exact ⟨rfl, HB.out⟩

set_option maxHeartbeats 400000 in
theorem news_any (a b c : Int) (w : World) : Calls Tryz.prog 3 #[.agg #[.int .i64 a, .int .i64 b, .int .i64 c]] w fun e w' => e = .returned (.bool true) ∧ Below w.heap.size w w' := by
  have hC := BlkAt.new w w.heap.size rfl 23 #[.int .i64 a, .int .i64 b, .int .i64 c]
  have c0 := hC.cell 0 _ rfl
  have c1 := hC.cell 1 _ rfl
  have c2 := hC.cell 2 _ rfl
  simp only [List.getElem_toArray, List.getElem_cons_zero, List.getElem_cons_succ] at c0 c1 c2
  clear hC
  go_enter Tryz.func3, Tryz.ntmps3
  go_wp2_with fail
  refine (plays_new a b c _).mono ?_
  rintro e w1 ⟨rfl, hb1⟩
  have HB : Hid (Below w.heap.size w w1) := ((Below.refl _ _).alloc (Nat.le_refl _) _).trans (hb1.mono (by simp))
  clear hb1 c0 c1 c2
  go_wp2_with fail
  go_ret
  exact ⟨rfl, HB.out⟩
end Go.Proofs.YtoklolfaemhfnaaGreatDoor
