/-
  For the walk of the law News: Proc and Events of the program's group.
-/
import Derived.Test.YtoklolfaemhfnaaGreatDoorNwC
namespace Go.Proofs.YtoklolfaemhfnaaGreatDoor
open Go.RowKit

theorem isP_yes {p : Int} {n : Nat} (h : isP p n = true) : ∃ k : Nat, p = k ∧ k < n := by
  simp [isP] at h
  exact ⟨p.toNat, by omega, by omega⟩

set_option maxHeartbeats 800000 in
theorem procX_no (p : Int) (lo hi g n : Nat) (w : World) (h : GrpX w lo hi g n) (hhi : hi ≤ w.heap.size) (hp : isP p n = false) : Calls Tryz.prog 43 #[.pointer (some ⟨g, 0, none⟩), .int .i64 p] w fun e w' => e = .returned (.tuple #[.agg #[.bool false, .bool false, .bool false, .int .i64 0, .int .i64 0, .int .i64 0, .int .i64 0, .slice none 0 0], .int .i64 4]) ∧ Below w.heap.size w w' := by
  have HG : Hid (∀ o, GrpX (w.alloc o) lo hi g n) := fun o => h.span (Span.of_below ((Below.refl _ _).alloc (Nat.le_refl _) o) hhi)
  have hPr := BlkAt.new w w.heap.size rfl 71 #[.bool false, .bool false, .bool false, .int .i64 0, .int .i64 0, .int .i64 0, .int .i64 0, .slice none 0 0]
  obtain ⟨p0, p1, p2, p3, p4, p5, p6, p7, r0, r1, r2, r3, r4, r5, r6, r7⟩ := hPr.facts8
  clear h
  go_enter Tryz.func43, Tryz.ntmps43
  go_wp2_with (go_at_call 64; refine (has_any p lo hi g n _ (HG.out _)).mono ?_; rintro e w' ⟨rfl, rfl⟩; rw [hp])
  exact bodyPost_ret (v := .tuple #[.agg #[.bool false, .bool false, .bool false, .int .i64 0, .int .i64 0, .int .i64 0, .int .i64 0, .slice none 0 0], .int .i64 4]) (by simp [results, Tryz.results43, go_sem, p0, p1, p2, p3, p4, p5, p6, p7]) rfl ⟨rfl, (Below.refl _ _).alloc (Nat.le_refl _) _⟩

set_option maxHeartbeats 800000 in
theorem procX_yes (p : Nat) (lo hi g n : Nat) (w : World) (h : GrpX w lo hi g n) (hhi : hi ≤ w.heap.size) (hp : p < n) (hn : n ≤ 6) : Calls Tryz.prog 43 #[.pointer (some ⟨g, 0, none⟩), .int .i64 p] w fun e w' =>
    ∃ gr cap, e = .returned (.tuple #[.agg #[.bool true, .bool false, .bool false, .int .i64 0, .int .i64 (full n), .int .i64 0, .int .i64 0, .slice (some ⟨gr, 0, none⟩) n cap], .int .i64 0]) ∧ w'.ownsRow w.heap.size 3 1 (.slice (some ⟨gr, 0, none⟩) n cap) n (ints (List.replicate n 0)) ∧ Below w.heap.size w w' := by
  have HG : Hid (∀ o, GrpX (w.alloc o) lo hi g n) := fun o => h.span (Span.of_below ((Below.refl _ _).alloc (Nat.le_refl _) o) hhi)
  have hPr := BlkAt.new w w.heap.size rfl 71 #[.bool false, .bool false, .bool false, .int .i64 0, .int .i64 0, .int .i64 0, .int .i64 0, .slice none 0 0]
  have hyes : isP p n = true := by simp [isP]; omega
  obtain ⟨ps, fl, h1, h2, hb, hps⟩ := h
  obtain ⟨b, hcp, hx⟩ := hps p hp
  have HX : Hid (∀ o, ProcX (w.alloc o) lo hi b p n) := fun o => hx.span (Span.of_below ((Below.refl _ _).alloc (Nat.le_refl _) o) hhi)
  have hc0 := hb.cell 0 _ rfl
  simp only [List.getElem_toArray, List.getElem_cons_zero] at hc0
  have hg : g < w.heap.size := by omega
  have hpsl : ps < w.heap.size := by omega
  have hp0 : (0 : Int) ≤ (p : Int) := Int.natCast_nonneg _
  have hp1 : (p : Int) < (n : Int) := by omega
  clear hb hps hx
  go_enter Tryz.func43, Tryz.ntmps43
  go_wp2_with (first | (go_at_call 64; refine (has_any p lo hi g n _ (HG.out _)).mono ?_; rintro e w' ⟨rfl, rfl⟩; rw [hyes]) | fail)
  refine (state_any lo hi b p n _ (HX.out _) hp hn (by simp; omega)).mono ?_
  rintro e w2 ⟨v, rfl, hov, hbv⟩
  obtain ⟨gr, cap, rfl, _, _⟩ := World.ownsRow.form hov (by omega)
  have hPr2 := hPr.below hbv (by simp)
  obtain ⟨p0, p1, p2, p3, p4, p5, p6, p7, r0, r1, r2, r3, r4, r5, r6, r7⟩ := hPr2.facts8
  go_wp2_with fail
  obtain ⟨hPf, hOn⟩ := store8 hPr2 (.bool true) (.bool false) (.bool false) (.int .i64 0) (.int .i64 (full n)) (.int .i64 0) (.int .i64 0) (.slice (some ⟨gr, 0, none⟩) n cap)
  clear p0 p1 p2 p3 p4 p5 p6 p7 r0 r1 r2 r3 r4 r5 r6 r7
  refine at_world (p := bodyPost _ _ _ _ _) _ (fun wf hwf => ?_)
  rw [← hwf.out] at hPf hOn
  clear hwf
  obtain ⟨p0, p1, p2, p3, p4, p5, p6, p7, -⟩ := hPf.facts8
  refine bodyPost_ret (v := .tuple #[.agg #[.bool true, .bool false, .bool false, .int .i64 0, .int .i64 (full n), .int .i64 0, .int .i64 0, .slice (some ⟨gr, 0, none⟩) n cap], .int .i64 0]) (by simp [results, Tryz.results43, go_sem, p0, p1, p2, p3, p4, p5, p6, p7]) rfl ⟨gr, cap, rfl, ?_, ?_⟩
  · exact ownsRow_same (ownsRow_base hov (by simp)) fun x hx => hOn.block x (by have := (hov.lt x hx).1; simp at this; omega)
  · exact (((Below.refl _ _).alloc (Nat.le_refl _) _).trans (hbv.mono (by simp))).trans (hOn.below (Nat.le_refl _))

/-! ### Events -/
set_option maxHeartbeats 400000 in
theorem cloneE_nil (w : World) : Calls Tryz.prog 107 #[.slice none 0 0] w fun e w' => e = .returned (.slice none 0 0) ∧ w' = w := by
  have hne := fun w' : World => Lib.run_eql_slice_nil (P := Tryz.prog) w' 35 64 none 0 0 0 0 Tryz.underlying35
  simp only [Option.isNone_none] at hne
  go_enter Tryz.func107, Tryz.ntmps107
  go_wp2
  go_ret
  exact ⟨rfl, rfl⟩

set_option maxHeartbeats 400000 in
theorem pEvents_any (lo hi b p n : Nat) (w : World) (h : ProcX w lo hi b p n) : Calls Tryz.prog 66 #[.pointer (some ⟨b, 0, none⟩)] w fun e w' => e = .returned (.slice none 0 0) ∧ w' = w := by
  obtain ⟨kb, mb, rb, win, h1, h2, h3, h4, hb, hm, hk, hr⟩ := h
  have c17 := hb.cell 17 _ rfl
  simp only [List.getElem_toArray, List.getElem_cons_zero, List.getElem_cons_succ] at c17
  clear hb hr hk hm
  go_enter Tryz.func66, Tryz.ntmps66
  go_wp2_with (go_at_call 107; refine (cloneE_nil _).mono ?_; rintro e w' ⟨rfl, rfl⟩)
  go_ret
  exact ⟨rfl, rfl⟩

set_option maxHeartbeats 800000 in
theorem eventsX_any (p : Int) (lo hi g n : Nat) (w : World) (h : GrpX w lo hi g n) : Calls Tryz.prog 35 #[.pointer (some ⟨g, 0, none⟩), .int .i64 p] w fun e w' => e = .returned (.tuple #[.slice none 0 0, .int .i64 (if isP p n then 0 else 4)]) ∧ w' = w := by
  have HG : Hid (GrpX w lo hi g n) := h
  cases hp : isP p n with
  | false =>
    clear h
    go_enter Tryz.func35, Tryz.ntmps35
    go_wp2_with (go_at_call 64; refine (has_any p lo hi g n _ HG.out).mono ?_; rintro e w' ⟨rfl, rfl⟩; rw [hp])
    go_ret2
    exact ⟨rfl, rfl⟩
  | true =>
    obtain ⟨k, rfl, hk⟩ := isP_yes hp
    obtain ⟨ps, fl, h1, h2, hb, hps⟩ := h
    obtain ⟨b, hcp, hx⟩ := hps k hk
    have HX : Hid (ProcX w lo hi b k n) := hx
    have hc0 := hb.cell 0 _ rfl
    simp only [List.getElem_toArray, List.getElem_cons_zero] at hc0
    have hp0 : (0 : Int) ≤ (k : Int) := Int.natCast_nonneg _
    have hp1 : (k : Int) < (n : Int) := by omega
    clear hb hps hx
    go_enter Tryz.func35, Tryz.ntmps35
    go_wp2_with (first | (go_at_call 64; refine (has_any k lo hi g n _ HG.out).mono ?_; rintro e w' ⟨rfl, rfl⟩; rw [hp]) | (go_at_call 66; refine (pEvents_any lo hi b k n _ HX.out).mono ?_; rintro e w' ⟨rfl, rfl⟩))
    go_ret2
    exact ⟨rfl, rfl⟩
end Go.Proofs.YtoklolfaemhfnaaGreatDoor
