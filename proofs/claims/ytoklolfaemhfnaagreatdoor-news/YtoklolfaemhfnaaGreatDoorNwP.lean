/-
  For the walk of the law News: what is asked of both sides: proc, told, frame, flight.
-/
import Derived.Test.YtoklolfaemhfnaaGreatDoorNwO
namespace Go.Proofs.YtoklolfaemhfnaaGreatDoor
open Go.RowKit

set_option maxHeartbeats 800000 in
theorem sameInts_zero (ao bo : Option Addr) (n ac bc : Nat) (w : World) (hn : n ≤ 6) (ha : ∀ k, k < n → ∃ g, ao = some ⟨g, 0, none⟩ ∧ w.cell? ⟨g, k, none⟩ = some (.int .i64 0)) (hb : ∀ k, k < n → ∃ g, bo = some ⟨g, 0, none⟩ ∧ w.cell? ⟨g, k, none⟩ = some (.int .i64 0)) :
    Calls Tryz.prog 63 #[.slice ao n ac, .slice bo n bc] w fun e w' => e = .returned (.bool true) ∧ ∃ m, w' = w.drewN m := by
  have HA : Hid (∀ k, k < n → ∃ g, ao = some ⟨g, 0, none⟩ ∧ w.cell? ⟨g, k, none⟩ = some (.int .i64 0)) := ha
  have HB : Hid (∀ k, k < n → ∃ g, bo = some ⟨g, 0, none⟩ ∧ w.cell? ⟨g, k, none⟩ = some (.int .i64 0)) := hb
  clear ha hb
  go_enter Tryz.func63, Tryz.ntmps63
  go_wp2
  go_loopw [5] (fun i wr => ∃ k : Nat, k ≤ n ∧ i = .int .i64 k ∧ ∃ m, wr = w.drewN m) (fun i _ => n - (intOf i).toNat)
  case atStart => exact ⟨0, by omega, rfl, 0, rfl⟩
  case round =>
    obtain ⟨k, hk, rfl, m, rfl⟩ := hrel
    by_cases hlt : k < n
    · obtain ⟨ab, rfl, ca⟩ := HA.out k hlt
      obtain ⟨bb, rfl, cb⟩ := HB.out k hlt
      have hk0 : (0 : Int) ≤ (k : Int) := Int.natCast_nonneg _
      have hk1 : (k : Int) < (n : Int) := by omega
      go_wp2
      go_quiet (fail)
      go_wp2
      go_roundw
      case rel => exact ⟨k + 1, by omega, by go_num, _, rfl⟩
      case measure => simp [intOf]; omega
    · go_wp2
      go_ret
      exact ⟨rfl, m, rfl⟩

set_option maxHeartbeats 800000 in
theorem proc_no (p : Int) (lo n : Nat) (w0 w : World) (wb gx gy : Nat) (ev iv : Value) (E F : List (Value × Int)) (h : St w0 w wb gx gy ev iv E F) (hX : GrpX w0 lo wb gx n) (hY : GrpY w0 lo wb gy n) (hF : F.length ≤ 96) (hp : isP p n = false) :
    Calls Tryz.prog 51 #[.pointer (some ⟨wb, 0, none⟩), .int .i64 p] w fun e w' => e = .returned (.bool true) ∧ ∃ iv' F', St w0 w' wb gx gy ev iv' E F' ∧ F'.length = F.length + 4 := by
  have hwb := h.box.lt
  have HS : Hid (∀ w', Below w.heap.size w w' → St w0 w' wb gx gy ev iv E F) := fun w' hb => h.later hb
  have HX : Hid (∀ w', Below w.heap.size w w' → GrpX w' lo wb gx n) := fun w' hb => hX.span (Span.of_below (h.later hb).bel (Nat.le_refl _))
  have HY : Hid (∀ w', Below w.heap.size w w' → GrpY w' lo wb gy n) := fun w' hb => hY.span (Span.of_below (h.later hb).bel (Nat.le_refl _))
  have c0 := h.box.cell 0 _ rfl
  simp only [List.getElem_toArray, List.getElem_cons_zero] at c0
  have hB0 : Below w.heap.size w w := Below.refl _ _
  clear h hX hY
  go_enter Tryz.func51, Tryz.ntmps51
  go_wp2_with fail
  refine (procX_no p lo wb gx n _ (HX.out _ hB0) (Nat.le_of_lt hwb) hp).mono ?_
  rintro e w1 ⟨rfl, hb1⟩
  have hA1 := BlkAt.new w1 w1.heap.size rfl 71 #[.bool false, .bool false, .bool false, .int .i64 0, .int .i64 0, .int .i64 0, .int .i64 0, .slice none 0 0]
  have hb1' : Below w.heap.size w (w1.alloc (.cells #[.bool false, .bool false, .bool false, .int .i64 0, .int .i64 0, .int .i64 0, .int .i64 0, .slice none 0 0] 71)) := hb1.alloc hb1.size _
  have c1 := (HS.out _ hb1').box.cell 1 _ rfl
  simp only [List.getElem_toArray, List.getElem_cons_zero, List.getElem_cons_succ] at c1
  have hs1 := hb1.size
  clear c0
  go_wp2_with fail
  refine (procY_no p lo wb gy n _ (HY.out _ hb1') (by simp; omega) hp).mono ?_
  rintro e w2 ⟨rfl, hb2⟩
  have hA1' := (hA1.below hb2 (by simp)).alloc (.cells #[.bool false, .bool false, .bool false, .int .i64 0, .int .i64 0, .int .i64 0, .int .i64 0, .slice none 0 0] 71)
  have hA2 := BlkAt.new w2 w2.heap.size rfl 71 #[.bool false, .bool false, .bool false, .int .i64 0, .int .i64 0, .int .i64 0, .int .i64 0, .slice none 0 0]
  have hb2' : Below w.heap.size w (w2.alloc (.cells #[.bool false, .bool false, .bool false, .int .i64 0, .int .i64 0, .int .i64 0, .int .i64 0, .slice none 0 0] 71)) := (hb1'.trans (hb2.mono hb1'.size)).alloc (by have := hb2.size; simp at this; omega) _
  obtain ⟨p0, p1, p2, p3, p4, p5, p6, p7, -⟩ := hA1'.facts8
  obtain ⟨q0, q1, q2, q3, q4, q5, q6, q7, -⟩ := hA2.facts8
  have HB2 : Hid (Below w.heap.size w _) := hb2'
  clear hA1 hA1' hA2 hb2' hb1 hb1' hb2 c1
  go_wp2_with fail
  refine (sameInts_zero none none 0 0 0 _ (by omega) (fun k hk => absurd hk (Nat.not_lt_zero _)) (fun k hk => absurd hk (Nat.not_lt_zero _))).mono ?_
  rintro e w3 ⟨rfl, m, rfl⟩
  have HS3 : Hid (St _ _ _ _ _ _ _ _ _) := HS.out _ (below_drewN HB2.out m)
  clear HS HX HY HB2
  go_wp2_with fail
  refine (ownInts_any w0 _ wb gx gy ev iv E F HS3.out (.slice none 0 0) 0 [] (World.ownsRow_nil _ _ _ _) (by omega) (by omega) (fun g hg => by cases hg)).mono ?_
  rintro e w4 ⟨rfl, hst⟩
  have HF : Hid (∃ iv' F', St w0 w4 wb gx gy ev iv' E F' ∧ F'.length = F.length + 4) := hst
  clear hst
  go_wp2_with fail
  go_ret
  exact ⟨rfl, HF.out⟩
end Go.Proofs.YtoklolfaemhfnaaGreatDoor
