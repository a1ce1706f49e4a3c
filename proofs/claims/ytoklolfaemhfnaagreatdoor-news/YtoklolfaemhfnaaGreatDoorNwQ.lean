/-
  For the walk of the law News: proc at a process; told, frame, flight.
-/
import Derived.Test.YtoklolfaemhfnaaGreatDoorNwP
import Derived.Laws.Cover3
namespace Go.Proofs.YtoklolfaemhfnaaGreatDoor
open Go.RowKit

theorem rep_cell {n k : Nat} (h : k < n) : (ints (List.replicate n 0)).toArray[k]? = some (.int .i64 0) := by
  simp [ints, h]

set_option maxHeartbeats 1600000 in
theorem proc_yes (p : Nat) (lo n : Nat) (w0 w : World) (wb gx gy : Nat) (ev iv : Value) (E F : List (Value × Int)) (h : St w0 w wb gx gy ev iv E F) (hX : GrpX w0 lo wb gx n) (hY : GrpY w0 lo wb gy n) (hF : F.length ≤ 96) (hp : p < n) (hn : n ≤ 6) :
    Calls Tryz.prog 51 #[.pointer (some ⟨wb, 0, none⟩), .int .i64 p] w fun e w' => e = .returned (.bool true) ∧ ∃ iv' F', St w0 w' wb gx gy ev iv' E F' ∧ F'.length = F.length + 4 := by
  have hwb := h.box.lt
  have HS : Hid (∀ w', Below w.heap.size w w' → St w0 w' wb gx gy ev iv E F) := fun w' hb => h.later hb
  have HX : Hid (∀ w', Below w.heap.size w w' → GrpX w' lo wb gx n) := fun w' hb => hX.span (Span.of_below (h.later hb).bel (Nat.le_refl _))
  have HY : Hid (∀ w', Below w.heap.size w w' → GrpY w' lo wb gy n) := fun w' hb => hY.span (Span.of_below (h.later hb).bel (Nat.le_refl _))
  have HM : Hid (∀ e ∈ F, ∀ g, e.1.ownBlock = some g → g < w.heap.size) := fun e he g hg => mark_block (h.iM e he) g hg
  have c0 := h.box.cell 0 _ rfl
  simp only [List.getElem_toArray, List.getElem_cons_zero] at c0
  have hB0 : Below w.heap.size w w := Below.refl _ _
  clear h hX hY
  go_enter Tryz.func51, Tryz.ntmps51
  go_wp2_with fail
  refine (procX_yes p lo wb gx n _ (HX.out _ hB0) (Nat.le_of_lt hwb) hp hn).mono ?_
  rintro e w1 ⟨gr, cap, rfl, hov, hb1⟩
  have hA1 := BlkAt.new w1 w1.heap.size rfl 71 #[.bool true, .bool false, .bool false, .int .i64 0, .int .i64 (full n), .int .i64 0, .int .i64 0, .slice (some ⟨gr, 0, none⟩) n cap]
  have hb1' : Below w.heap.size w (w1.alloc (.cells #[.bool true, .bool false, .bool false, .int .i64 0, .int .i64 (full n), .int .i64 0, .int .i64 0, .slice (some ⟨gr, 0, none⟩) n cap] 71)) := hb1.alloc hb1.size _
  have c1 := (HS.out _ hb1').box.cell 1 _ rfl
  simp only [List.getElem_toArray, List.getElem_cons_zero, List.getElem_cons_succ] at c1
  have hs1 := hb1.size
  have HO1 : Hid (World.ownsRow (w1.alloc (.cells #[.bool true, .bool false, .bool false, .int .i64 0, .int .i64 (full n), .int .i64 0, .int .i64 0, .slice (some ⟨gr, 0, none⟩) n cap] 71)) w.heap.size 3 1 (.slice (some ⟨gr, 0, none⟩) n cap) n (ints (List.replicate n 0))) := hov.alloc _
  clear c0 hov
  go_wp2_with fail
  refine (procY_yes p lo wb gy n _ (HY.out _ hb1') (by simp; omega) hp hn).mono ?_
  rintro e w2 ⟨r, rfl, hr, hb2⟩
  have hA1' := (hA1.below hb2 (by simp)).alloc (.cells #[.bool true, .bool false, .bool false, .int .i64 0, .int .i64 (full n), .int .i64 0, .int .i64 0, .slice (some ⟨r, 0, none⟩) n n] 71)
  have hA2 := BlkAt.new w2 w2.heap.size rfl 71 #[.bool true, .bool false, .bool false, .int .i64 0, .int .i64 (full n), .int .i64 0, .int .i64 0, .slice (some ⟨r, 0, none⟩) n n]
  have hb2' : Below w.heap.size w (w2.alloc (.cells #[.bool true, .bool false, .bool false, .int .i64 0, .int .i64 (full n), .int .i64 0, .int .i64 0, .slice (some ⟨r, 0, none⟩) n n] 71)) := (hb1'.trans (hb2.mono hb1'.size)).alloc (by have := hb2.size; simp at this; omega) _
  have HO2 : Hid (World.ownsRow (w2.alloc (.cells #[.bool true, .bool false, .bool false, .int .i64 0, .int .i64 (full n), .int .i64 0, .int .i64 0, .slice (some ⟨r, 0, none⟩) n n] 71)) w.heap.size 3 1 (.slice (some ⟨gr, 0, none⟩) n cap) n (ints (List.replicate n 0))) := (ownsRow_later HO1.out hb2).alloc _
  have HR2 : Hid (BlkAt (w2.alloc (.cells #[.bool true, .bool false, .bool false, .int .i64 0, .int .i64 (full n), .int .i64 0, .int .i64 0, .slice (some ⟨r, 0, none⟩) n n] 71)) r 3 (ints (List.replicate n 0)).toArray) := hr.alloc _
  obtain ⟨p0, p1, p2, p3, p4, p5, p6, p7, -⟩ := hA1'.facts8
  obtain ⟨q0, q1, q2, q3, q4, q5, q6, q7, -⟩ := hA2.facts8
  have HB2 : Hid (Below w.heap.size w _) := hb2'
  clear hA1 hA1' hA2 hb2' hb1 hb1' hb2 c1 hr HO1
  go_wp2_with fail
  refine (sameInts_zero (some ⟨gr, 0, none⟩) (some ⟨r, 0, none⟩) n cap n _ hn (fun k hk => ⟨gr, rfl, (HO2.out.cellAt k (by omega)).trans (by simp [ints, hk])⟩) (fun k hk => ⟨r, rfl, HR2.out.cell k _ (rep_cell hk)⟩)).mono ?_
  rintro e w3 ⟨rfl, m, rfl⟩
  have HS3 : Hid (St _ _ _ _ _ _ _ _ _) := HS.out _ (below_drewN HB2.out m)
  have HO3 : Hid (World.ownsRow _ (wb + 1) 3 1 (.slice (some ⟨gr, 0, none⟩) n cap) n (ints (List.replicate n 0))) := ownsRow_base (ownsRow_later HO2.out (below_drewN (Below.refl _ _) m)) (by omega)
  have hgr := (HO2.out.lt gr rfl).1
  clear HS HX HY HB2 HR2 HO2
  go_wp2_with fail
  refine (ownInts_any w0 _ wb gx gy ev iv E F HS3.out (.slice (some ⟨gr, 0, none⟩) n cap) n _ HO3.out (by omega) (by omega) (fun g hg e he h2 => ?_)).mono ?_
  · have h1 : gr = g := by simpa [Value.ownBlock] using hg
    have := HM.out e he g h2
    omega
  rintro e w4 ⟨rfl, hst⟩
  have HF : Hid (∃ iv' F', St w0 w4 wb gx gy ev iv' E F' ∧ F'.length = F.length + 4) := hst
  clear hst
  go_wp2_with fail
  go_ret
  exact ⟨rfl, HF.out⟩

theorem proc_any (p : Int) (lo n : Nat) (w0 w : World) (wb gx gy : Nat) (ev iv : Value) (E F : List (Value × Int)) (h : St w0 w wb gx gy ev iv E F) (hX : GrpX w0 lo wb gx n) (hY : GrpY w0 lo wb gy n) (hF : F.length ≤ 96) (hn : n ≤ 6) :
    Calls Tryz.prog 51 #[.pointer (some ⟨wb, 0, none⟩), .int .i64 p] w fun e w' => e = .returned (.bool true) ∧ ∃ iv' F', St w0 w' wb gx gy ev iv' E F' ∧ F'.length = F.length + 4 := by
  cases hp : isP p n with
  | false => exact proc_no p lo n w0 w wb gx gy ev iv E F h hX hY hF hp
  | true =>
    obtain ⟨k, rfl, hk⟩ := isP_yes hp
    exact proc_yes k lo n w0 w wb gx gy ev iv E F h hX hY hF hk hn

set_option maxHeartbeats 800000 in
theorem told_any (p : Int) (lo n : Nat) (w0 w : World) (wb gx gy : Nat) (ev iv : Value) (E F : List (Value × Int)) (h : St w0 w wb gx gy ev iv E F) (hX : GrpX w0 lo wb gx n) (hY : GrpY w0 lo wb gy n) (hE : E.length ≤ 96) :
    Calls Tryz.prog 52 #[.pointer (some ⟨wb, 0, none⟩), .int .i64 p] w fun e w' => e = .returned (.bool true) ∧ ∃ ev' E', St w0 w' wb gx gy ev' iv E' F ∧ E'.length = E.length + 4 := by
  have HS : Hid (St w0 w wb gx gy ev iv E F) := h
  have HX : Hid (GrpX w lo wb gx n) := hX.span (Span.of_below h.bel (Nat.le_refl _))
  have HY : Hid (GrpY w lo wb gy n) := hY.span (Span.of_below h.bel (Nat.le_refl _))
  have c0 := h.box.cell 0 _ rfl
  have c1 := h.box.cell 1 _ rfl
  simp only [List.getElem_toArray, List.getElem_cons_zero, List.getElem_cons_succ] at c0 c1
  have hne := fun w' : World => run_neq_slice_nil (P := Tryz.prog) w' 35 64 none 0 0 Tryz.underlying35
  simp only [Option.isNone_none] at hne
  clear h hX hY
  cases hp : isP p n with
  | false =>
    go_enter Tryz.func52, Tryz.ntmps52
    go_wp2_with (first | (go_at_call 35; refine (eventsX_any p lo wb gx n _ HX.out).mono ?_; rintro e w' ⟨rfl, rfl⟩; rw [hp]) | (go_at_call 94; refine (rEvents_any p lo wb gy n _ HY.out).mono ?_; rintro e w' ⟨rfl, rfl⟩; rw [hp]))
    go_loopw [9] (fun i wr => i = .int .i64 0 ∧ Hid (St w0 wr wb gx gy ev iv E F)) (fun _ _ => 0)
    case atStart => exact ⟨rfl, HS⟩
    case round =>
      clear HS HX HY c0 c1
      obtain ⟨rfl, HS⟩ := hrel
      go_wp2_with fail
      refine (ownEvents_nil w0 _ wb gx gy ev iv E F HS.out (by omega)).mono ?_
      rintro e w4 ⟨rfl, hst⟩
      have HF : Hid (∃ ev' E', St w0 w4 wb gx gy ev' iv E' F ∧ E'.length = E.length + 4) := hst
      clear hst
      go_wp2_with fail
      go_ret
      exact ⟨rfl, HF.out⟩
  | true =>
    go_enter Tryz.func52, Tryz.ntmps52
    go_wp2_with (first | (go_at_call 35; refine (eventsX_any p lo wb gx n _ HX.out).mono ?_; rintro e w' ⟨rfl, rfl⟩; rw [hp]) | (go_at_call 94; refine (rEvents_any p lo wb gy n _ HY.out).mono ?_; rintro e w' ⟨rfl, rfl⟩; rw [hp]))
    go_loopw [9] (fun i wr => i = .int .i64 0 ∧ Hid (St w0 wr wb gx gy ev iv E F)) (fun _ _ => 0)
    case atStart => exact ⟨rfl, HS⟩
    case round =>
      clear HS HX HY c0 c1
      obtain ⟨rfl, HS⟩ := hrel
      go_wp2_with fail
      refine (ownEvents_nil w0 _ wb gx gy ev iv E F HS.out (by omega)).mono ?_
      rintro e w4 ⟨rfl, hst⟩
      have HF : Hid (∃ ev' E', St w0 w4 wb gx gy ev' iv E' F ∧ E'.length = E.length + 4) := hst
      clear hst
      go_wp2_with fail
      go_ret
      exact ⟨rfl, HF.out⟩

set_option maxHeartbeats 800000 in
theorem frame_any (k : Int) (lo n : Nat) (w0 w : World) (wb gx gy : Nat) (ev iv : Value) (E F : List (Value × Int)) (h : St w0 w wb gx gy ev iv E F) (hX : GrpX w0 lo wb gx n) (hY : GrpY w0 lo wb gy n) :
    Calls Tryz.prog 54 #[.pointer (some ⟨wb, 0, none⟩), .int .i64 k] w fun e w' => e = .returned (.bool true) ∧ w' = w := by
  have HX : Hid (GrpX w lo wb gx n) := hX.span (Span.of_below h.bel (Nat.le_refl _))
  have HY : Hid (GrpY w lo wb gy n) := hY.span (Span.of_below h.bel (Nat.le_refl _))
  have c0 := h.box.cell 0 _ rfl
  have c1 := h.box.cell 1 _ rfl
  simp only [List.getElem_toArray, List.getElem_cons_zero, List.getElem_cons_succ] at c0 c1
  clear h hX hY
  go_enter Tryz.func54, Tryz.ntmps54
  go_wp2_with (first | (go_at_call 96; refine (frameX_any k lo wb gx n _ HX.out).mono ?_; rintro e w' ⟨rfl, rfl⟩) | (go_at_call 84; refine (rFrame_any k lo wb gy n _ HY.out).mono ?_; rintro e w' ⟨rfl, rfl⟩))
  go_ret
  exact ⟨rfl, rfl⟩

set_option maxHeartbeats 800000 in
theorem flightW_any (lo n : Nat) (w0 w : World) (wb gx gy : Nat) (ev iv : Value) (E F : List (Value × Int)) (h : St w0 w wb gx gy ev iv E F) (hX : GrpX w0 lo wb gx n) (hY : GrpY w0 lo wb gy n) :
    Calls Tryz.prog 55 #[.pointer (some ⟨wb, 0, none⟩)] w fun e w' => e = .returned (.bool true) ∧ w' = w := by
  have HX : Hid (GrpX w lo wb gx n) := hX.span (Span.of_below h.bel (Nat.le_refl _))
  have HY : Hid (GrpY w lo wb gy n) := hY.span (Span.of_below h.bel (Nat.le_refl _))
  have c0 := h.box.cell 0 _ rfl
  have c1 := h.box.cell 1 _ rfl
  simp only [List.getElem_toArray, List.getElem_cons_zero, List.getElem_cons_succ] at c0 c1
  clear h hX hY
  go_enter Tryz.func55, Tryz.ntmps55
  go_wp2_with (first | (go_at_call 41; refine (flight_any lo wb gx n _ HX.out).mono ?_; rintro e w' ⟨rfl, rfl⟩) | (go_at_call 53; refine (rFlight_any lo wb gy n _ HY.out).mono ?_; rintro e w' ⟨rfl, rfl⟩))
  go_ret
  exact ⟨rfl, rfl⟩
end Go.Proofs.YtoklolfaemhfnaaGreatDoor
