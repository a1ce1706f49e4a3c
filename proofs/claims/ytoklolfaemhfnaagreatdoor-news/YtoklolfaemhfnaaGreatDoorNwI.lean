/-
  For the walk of the law News: Proc of the document's answer.
-/
import Derived.Test.YtoklolfaemhfnaaGreatDoorNwH
namespace Go.Proofs.YtoklolfaemhfnaaGreatDoor
open Go.RowKit

set_option maxHeartbeats 800000 in
theorem procY_no (p : Int) (lo hi g n : Nat) (w : World) (h : GrpY w lo hi g n) (hhi : hi ≤ w.heap.size) (hp : isP p n = false) : Calls Tryz.prog 92 #[.pointer (some ⟨g, 0, none⟩), .int .i64 p] w fun e w' => e = .returned (.tuple #[.agg #[.bool false, .bool false, .bool false, .int .i64 0, .int .i64 0, .int .i64 0, .int .i64 0, .slice none 0 0], .int .i64 4]) ∧ Below w.heap.size w w' := by
  have HG : Hid (∀ o, GrpY (w.alloc o) lo hi g n) := fun o => h.span (Span.of_below ((Below.refl _ _).alloc (Nat.le_refl _) o) hhi)
  have hPr := BlkAt.new w w.heap.size rfl 71 #[.bool false, .bool false, .bool false, .int .i64 0, .int .i64 0, .int .i64 0, .int .i64 0, .slice none 0 0]
  obtain ⟨p0, p1, p2, p3, p4, p5, p6, p7, r0, r1, r2, r3, r4, r5, r6, r7⟩ := hPr.facts8
  clear h
  go_enter Tryz.func92, Tryz.ntmps92
  go_wp2_with (go_at_call 134; refine (rproc_any p lo hi g n _ (HG.out _)).mono ?_; rintro e w' ⟨rfl, rfl⟩; rw [hp])
  exact bodyPost_ret (v := .tuple #[.agg #[.bool false, .bool false, .bool false, .int .i64 0, .int .i64 0, .int .i64 0, .int .i64 0, .slice none 0 0], .int .i64 4]) (by simp [results, Tryz.results92, go_sem, p0, p1, p2, p3, p4, p5, p6, p7]) rfl ⟨rfl, (Below.refl _ _).alloc (Nat.le_refl _) _⟩

set_option maxHeartbeats 1600000 in
theorem procY_yes (p : Nat) (lo hi g n : Nat) (w : World) (h : GrpY w lo hi g n) (hhi : hi ≤ w.heap.size) (hp : p < n) (hn : n ≤ 6) : Calls Tryz.prog 92 #[.pointer (some ⟨g, 0, none⟩), .int .i64 p] w fun e w' =>
    ∃ r, e = .returned (.tuple #[.agg #[.bool true, .bool false, .bool false, .int .i64 0, .int .i64 (full n), .int .i64 0, .int .i64 0, .slice (some ⟨r, 0, none⟩) n n], .int .i64 0]) ∧ BlkAt w' r 3 (ints (List.replicate n 0)).toArray ∧ Below w.heap.size w w' := by
  have HG : Hid (∀ w', Below w.heap.size w w' → GrpY w' lo hi g n) := fun w' hw => h.span (Span.of_below hw hhi)
  have hPr := BlkAt.new w w.heap.size rfl 71 #[.bool false, .bool false, .bool false, .int .i64 0, .int .i64 0, .int .i64 0, .int .i64 0, .slice none 0 0]
  have hyes : isP p n = true := by simp [isP]; omega
  obtain ⟨ps, cap, x, y, h1, h2, hb, hps⟩ := h
  obtain ⟨b, hcp, hx⟩ := hps p hp
  have HX : Hid (∀ w', Below w.heap.size w w' → ProcY w' lo hi b p n) := fun w' hw => hx.span (Span.of_below hw hhi)
  obtain ⟨kv, hbb, hx⟩ := hx
  have HS : Hid (∀ w', Below w.heap.size w w' → w'.cell? ⟨b, 1, none⟩ = some (.bool false) ∧ w'.cell? ⟨b, 2, none⟩ = some (.bool false) ∧ w'.cell? ⟨b, 3, none⟩ = some (.int .i64 0) ∧ w'.cell? ⟨b, 4, none⟩ = some (.int .i64 (full n)) ∧ w'.cell? ⟨b, 5, none⟩ = some (.int .i64 0) ∧ w'.cell? ⟨b, 8, none⟩ = some (.bool false)) := fun w' hw => by
    have hb' := hx.below hw (by omega)
    exact ⟨hb'.cell 1 _ rfl, hb'.cell 2 _ rfl, hb'.cell 3 _ rfl, hb'.cell 4 _ rfl, hb'.cell 5 _ rfl, hb'.cell 8 _ rfl⟩
  have HA : Hid (∀ o, Below w.heap.size w (w.alloc o)) := fun o => (Below.refl _ _).alloc (Nat.le_refl _) o
  have hc3 := hb.cell 3 _ rfl
  simp only [List.getElem_toArray, List.getElem_cons_zero, List.getElem_cons_succ] at hc3
  have hg : g < w.heap.size := by omega
  have hpsl : ps < w.heap.size := by omega
  have hp0 : (0 : Int) ≤ (p : Int) := Int.natCast_nonneg _
  have hp1 : (p : Int) < (n : Int) := by omega
  clear hb hps hx
  go_enter Tryz.func92, Tryz.ntmps92
  go_upto_region 5 with (go_at_call 134; refine (rproc_any p lo hi g n _ (HG.out _ (HA.out _))).mono ?_; rintro e w' ⟨rfl, rfl⟩; rw [hyes])
  refine Ends.begin (fun w' => w'.cell? ⟨b, 1, none⟩ = some (.bool false) ∧ w'.cell? ⟨b, 2, none⟩ = some (.bool false) ∧ w'.cell? ⟨b, 3, none⟩ = some (.int .i64 0) ∧ w'.cell? ⟨b, 4, none⟩ = some (.int .i64 (full n)) ∧ w'.cell? ⟨b, 5, none⟩ = some (.int .i64 0) ∧ w'.cell? ⟨b, 8, none⟩ = some (.bool false)) 27 (by kernel_rfl) (HS.out _ (HA.out _).drew) (fun hHeld => ?_)
  refine Ends.take 0 (v := ?v0) rfl rfl (by kernel_rfl) (by kernel_rfl) (by kernel_rfl) (by kernel_rfl) (fun _ _ _ h => h) (Or.inl ⟨by rfl, ?y0⟩) (by assumption) ?r0
  case y0 => (intro w' hSw; (try dsimp only at hSw); go_simp; (try with_reducible rfl))
  try simp only [Act.put, List.setIfInBounds_toArray, List.set_cons_zero, List.set_cons_succ, List.getElem_toArray, List.getElem_cons_zero]
  refine Ends.take 1 (v := ?v1) rfl rfl (by kernel_rfl) (by kernel_rfl) (by kernel_rfl) (by kernel_rfl) (fun _ _ _ h => h) (Or.inl ⟨by rfl, ?y1⟩) (by assumption) ?r1
  case y1 => (intro w' hSw; (try dsimp only at hSw); go_simp; (try with_reducible rfl))
  try simp only [Act.put, List.setIfInBounds_toArray, List.set_cons_zero, List.set_cons_succ, List.getElem_toArray, List.getElem_cons_zero, List.getElem_cons_succ]
  refine Ends.take 2 (v := ?v2) rfl rfl (by kernel_rfl) (by kernel_rfl) (by kernel_rfl) (by kernel_rfl) (fun _ _ _ h => h) (Or.inl ⟨by rfl, ?y2⟩) (by assumption) ?r2
  case y2 => (intro w' hSw; (try dsimp only at hSw); go_simp; (try with_reducible rfl))
  try simp only [Act.put, List.setIfInBounds_toArray, List.set_cons_zero, List.set_cons_succ, List.getElem_toArray, List.getElem_cons_zero, List.getElem_cons_succ]
  refine Ends.take 3 (v := ?v3) rfl rfl (by kernel_rfl) (by kernel_rfl) (by kernel_rfl) (by kernel_rfl) (fun _ _ _ h => h) (Or.inl ⟨by rfl, ?y3⟩) (by assumption) ?r3
  case y3 => (intro w' hSw; (try dsimp only at hSw); go_simp; (try with_reducible rfl))
  try simp only [Act.put, List.setIfInBounds_toArray, List.set_cons_zero, List.set_cons_succ, List.getElem_toArray, List.getElem_cons_zero, List.getElem_cons_succ]
  refine Ends.take 4 (v := ?v4) rfl rfl (by kernel_rfl) (by kernel_rfl) (by kernel_rfl) (by kernel_rfl) (fun _ _ _ h => h) (Or.inl ⟨by rfl, ?y4⟩) (by assumption) ?r4
  case y4 => (intro w' hSw; (try dsimp only at hSw); go_simp; (try with_reducible rfl))
  try simp only [Act.put, List.setIfInBounds_toArray, List.set_cons_zero, List.set_cons_succ, List.getElem_toArray, List.getElem_cons_zero, List.getElem_cons_succ]
  refine Ends.take 5 (v := ?v5) rfl rfl (by kernel_rfl) (by kernel_rfl) (by kernel_rfl) (by kernel_rfl) (fun _ _ _ h => h) (Or.inl ⟨by rfl, ?y5⟩) (by assumption) ?r5
  case y5 => (intro w' hSw; (try dsimp only at hSw); go_simp; (try with_reducible rfl))
  try simp only [Act.put, List.setIfInBounds_toArray, List.set_cons_zero, List.set_cons_succ, List.getElem_toArray, List.getElem_cons_zero, List.getElem_cons_succ]
  refine Ends.take 6 (v := ?v6) rfl rfl (by kernel_rfl) (by kernel_rfl) (by kernel_rfl) (by kernel_rfl) (fun _ _ _ h => h) (Or.inl ⟨by rfl, ?y6⟩) (by assumption) ?r6
  case y6 => (intro w' hSw; (try dsimp only at hSw); go_simp; (try with_reducible rfl))
  try simp only [Act.put, List.setIfInBounds_toArray, List.set_cons_zero, List.set_cons_succ, List.getElem_toArray, List.getElem_cons_zero, List.getElem_cons_succ]
  refine Ends.take 7 (v := ?v7) rfl rfl (by kernel_rfl) (by kernel_rfl) (by kernel_rfl) (by kernel_rfl) (fun _ _ _ h => h) (Or.inl ⟨by rfl, ?y7⟩) (by assumption) ?r7
  case y7 => (intro w' hSw; (try dsimp only at hSw); go_simp; (try with_reducible rfl))
  try simp only [Act.put, List.setIfInBounds_toArray, List.set_cons_zero, List.set_cons_succ, List.getElem_toArray, List.getElem_cons_zero, List.getElem_cons_succ]
  refine Ends.take 8 (v := ?v8) rfl rfl (by kernel_rfl) (by kernel_rfl) (by kernel_rfl) (by kernel_rfl) (fun _ _ _ h => h) (Or.inl ⟨by rfl, ?y8⟩) (by assumption) ?r8
  case y8 => (intro w' hSw; (try dsimp only at hSw); go_simp; (try with_reducible rfl))
  try simp only [Act.put, List.setIfInBounds_toArray, List.set_cons_zero, List.set_cons_succ, List.getElem_toArray, List.getElem_cons_zero, List.getElem_cons_succ]
  refine Ends.take 9 (v := ?v9) rfl rfl (by kernel_rfl) (by kernel_rfl) (by kernel_rfl) (by kernel_rfl) (fun _ _ _ h => h) (Or.inl ⟨by rfl, ?y9⟩) (by assumption) ?r9
  case y9 => (intro w' hSw; (try dsimp only at hSw); go_simp; (try with_reducible rfl))
  try simp only [Act.put, List.setIfInBounds_toArray, List.set_cons_zero, List.set_cons_succ, List.getElem_toArray, List.getElem_cons_zero, List.getElem_cons_succ]
  refine Ends.take 10 (v := ?v10) rfl rfl (by kernel_rfl) (by kernel_rfl) (by kernel_rfl) (by kernel_rfl) (fun _ _ _ h => h) (Or.inl ⟨by rfl, ?y10⟩) (by assumption) ?r10
  case y10 => (intro w' hSw; (try dsimp only at hSw); go_simp; (try with_reducible rfl))
  try simp only [Act.put, List.setIfInBounds_toArray, List.set_cons_zero, List.set_cons_succ, List.getElem_toArray, List.getElem_cons_zero, List.getElem_cons_succ]
  refine Ends.take 11 (v := ?v11) rfl rfl (by kernel_rfl) (by kernel_rfl) (by kernel_rfl) (by kernel_rfl) (fun _ _ _ h => h) (Or.inl ⟨by rfl, ?y11⟩) (by assumption) ?r11
  case y11 => (intro w' hSw; (try dsimp only at hSw); go_simp; (try with_reducible rfl))
  try simp only [Act.put, List.setIfInBounds_toArray, List.set_cons_zero, List.set_cons_succ, List.getElem_toArray, List.getElem_cons_zero, List.getElem_cons_succ]
  refine Ends.take 12 (v := ?v12) rfl rfl (by kernel_rfl) (by kernel_rfl) (by kernel_rfl) (by kernel_rfl) (fun _ _ _ h => h) (Or.inl ⟨by rfl, ?y12⟩) (by assumption) ?r12
  case y12 => (intro w' hSw; (try dsimp only at hSw); go_simp; (try with_reducible rfl))
  try simp only [Act.put, List.setIfInBounds_toArray, List.set_cons_zero, List.set_cons_succ, List.getElem_toArray, List.getElem_cons_zero, List.getElem_cons_succ]
  refine Ends.take 13 (v := ?v13) rfl rfl (by kernel_rfl) (by kernel_rfl) (by kernel_rfl) (by kernel_rfl) (fun _ _ _ h => h) (Or.inl ⟨by rfl, ?y13⟩) (by assumption) ?r13
  case y13 => (intro w' hSw; (try dsimp only at hSw); go_simp; (try with_reducible rfl))
  try simp only [Act.put, List.setIfInBounds_toArray, List.set_cons_zero, List.set_cons_succ, List.getElem_toArray, List.getElem_cons_zero, List.getElem_cons_succ]
  refine Ends.take 14 (v := ?v14) rfl rfl (by kernel_rfl) (by kernel_rfl) (by kernel_rfl) (by kernel_rfl) (fun _ _ _ h => h) (Or.inl ⟨by rfl, ?y14⟩) (by assumption) ?r14
  case y14 => (intro w' hSw; (try dsimp only at hSw); go_simp; (try with_reducible rfl))
  try simp only [Act.put, List.setIfInBounds_toArray, List.set_cons_zero, List.set_cons_succ, List.getElem_toArray, List.getElem_cons_zero, List.getElem_cons_succ]
  refine Ends.take 15 (v := ?v15) rfl rfl (by kernel_rfl) (by kernel_rfl) (by kernel_rfl) (by kernel_rfl) (fun _ _ _ h => h) (Or.inl ⟨by rfl, ?y15⟩) (by assumption) ?r15
  case y15 => (intro w' hSw; (try dsimp only at hSw); go_simp; (try with_reducible rfl))
  try simp only [Act.put, List.setIfInBounds_toArray, List.set_cons_zero, List.set_cons_succ, List.getElem_toArray, List.getElem_cons_zero, List.getElem_cons_succ]
  refine Ends.take 16 (v := ?v16) rfl rfl (by kernel_rfl) (by kernel_rfl) (by kernel_rfl) (by kernel_rfl) (fun _ _ _ h => h) (Or.inl ⟨by rfl, ?y16⟩) (by assumption) ?r16
  case y16 => (intro w' hSw; (try dsimp only at hSw); go_simp; (try with_reducible rfl))
  try simp only [Act.put, List.setIfInBounds_toArray, List.set_cons_zero, List.set_cons_succ, List.getElem_toArray, List.getElem_cons_zero, List.getElem_cons_succ]
  refine Ends.take 17 (v := ?v17) rfl rfl (by kernel_rfl) (by kernel_rfl) (by kernel_rfl) (by kernel_rfl) (fun _ _ _ h => h) (Or.inl ⟨by rfl, ?y17⟩) (by assumption) ?r17
  case y17 => (intro w' hSw; (try dsimp only at hSw); go_simp; (try with_reducible rfl))
  try simp only [Act.put, List.setIfInBounds_toArray, List.set_cons_zero, List.set_cons_succ, List.getElem_toArray, List.getElem_cons_zero, List.getElem_cons_succ]
  refine Ends.take 18 (v := ?v18) rfl rfl (by kernel_rfl) (by kernel_rfl) (by kernel_rfl) (by kernel_rfl) (fun _ _ _ h => h) (Or.inl ⟨by rfl, ?y18⟩) (by assumption) ?r18
  case y18 => (intro w' hSw; (try dsimp only at hSw); go_simp; (try with_reducible rfl))
  try simp only [Act.put, List.setIfInBounds_toArray, List.set_cons_zero, List.set_cons_succ, List.getElem_toArray, List.getElem_cons_zero, List.getElem_cons_succ]
  refine Ends.take 19 (v := ?v19) rfl rfl (by kernel_rfl) (by kernel_rfl) (by kernel_rfl) (by kernel_rfl) (fun _ _ _ h => h) (Or.inl ⟨by rfl, ?y19⟩) (by assumption) ?r19
  case y19 => (intro w' hSw; (try dsimp only at hSw); go_simp; (try with_reducible rfl))
  try simp only [Act.put, List.setIfInBounds_toArray, List.set_cons_zero, List.set_cons_succ, List.getElem_toArray, List.getElem_cons_zero, List.getElem_cons_succ]
  refine Ends.take 20 (v := ?v20) rfl rfl (by kernel_rfl) (by kernel_rfl) (by kernel_rfl) (by kernel_rfl) (fun _ _ _ h => h) (Or.inl ⟨by rfl, ?y20⟩) (by assumption) ?r20
  case y20 => (intro w' hSw; (try dsimp only at hSw); go_simp; (try with_reducible rfl))
  try simp only [Act.put, List.setIfInBounds_toArray, List.set_cons_zero, List.set_cons_succ, List.getElem_toArray, List.getElem_cons_zero, List.getElem_cons_succ]
  refine Ends.take 21 (v := ?v21) rfl rfl (by kernel_rfl) (by kernel_rfl) (by kernel_rfl) (by kernel_rfl) (fun _ _ _ h => h) (Or.inl ⟨by rfl, ?y21⟩) (by assumption) ?r21
  case y21 => (intro w' hSw; (try dsimp only at hSw); go_simp; (try with_reducible rfl))
  try simp only [Act.put, List.setIfInBounds_toArray, List.set_cons_zero, List.set_cons_succ, List.getElem_toArray, List.getElem_cons_zero, List.getElem_cons_succ]
  refine Ends.take 22 (v := ?v22) rfl rfl (by kernel_rfl) (by kernel_rfl) (by kernel_rfl) (by kernel_rfl) (fun _ _ _ h => h) (Or.inl ⟨by rfl, ?y22⟩) (by assumption) ?r22
  case y22 => (intro w' hSw; (try dsimp only at hSw); go_simp; (try with_reducible rfl))
  try simp only [Act.put, List.setIfInBounds_toArray, List.set_cons_zero, List.set_cons_succ, List.getElem_toArray, List.getElem_cons_zero, List.getElem_cons_succ]
  refine Ends.take 23 (v := ?v23) rfl rfl (by kernel_rfl) (by kernel_rfl) (by kernel_rfl) (by kernel_rfl) (fun _ _ _ h => h) (Or.inl ⟨by rfl, ?y23⟩) (by assumption) ?r23
  case y23 => (intro w' hSw; (try dsimp only at hSw); go_simp; (try with_reducible rfl))
  try simp only [Act.put, List.setIfInBounds_toArray, List.set_cons_zero, List.set_cons_succ, List.getElem_toArray, List.getElem_cons_zero, List.getElem_cons_succ]
  refine Ends.take 24 (v := ?v24) rfl rfl (by kernel_rfl) (by kernel_rfl) (by kernel_rfl) (by kernel_rfl) (fun _ _ _ h => h) (Or.inl ⟨by rfl, ?y24⟩) (by assumption) ?r24
  case y24 => (intro w' hSw; (try dsimp only at hSw); go_simp; (try with_reducible rfl))
  try simp only [Act.put, List.setIfInBounds_toArray, List.set_cons_zero, List.set_cons_succ, List.getElem_toArray, List.getElem_cons_zero, List.getElem_cons_succ]
  refine Ends.take 25 (v := ?v25) rfl rfl (by kernel_rfl) (by kernel_rfl) (by kernel_rfl) (by kernel_rfl) (fun _ _ _ h => h) (Or.inl ⟨by rfl, ?y25⟩) (by assumption) ?r25
  case y25 => (intro w' hSw; (try dsimp only at hSw); go_simp; (try with_reducible rfl))
  try simp only [Act.put, List.setIfInBounds_toArray, List.set_cons_zero, List.set_cons_succ, List.getElem_toArray, List.getElem_cons_zero, List.getElem_cons_succ]
  refine Ends.one 26 (by kernel_rfl) rfl (fun K hK => ?s26)
  go_simp
  refine hK.out _ _ (fun _ => HS.out _ ((HA.out _).drew.alloc (by simp) _)) (fun _ => ?_)
  clear hK K
  try simp only [Act.put, List.setIfInBounds_toArray, List.set_cons_zero, List.set_cons_succ, List.getElem_toArray, List.getElem_cons_zero, List.getElem_cons_succ]
  have hZ := BlkAt.new (w.alloc (.cells #[.bool false, .bool false, .bool false, .int .i64 0, .int .i64 0, .int .i64 0, .int .i64 0, .slice none 0 0] 71)) (w.heap.size + 1) (by simp) 71 #[.bool false, .bool false, .bool false, .int .i64 0, .int .i64 0, .int .i64 0, .int .i64 0, .slice none 0 0]
  obtain ⟨p0, p1, p2, p3, p4, p5, p6, p7, r0, r1, r2, r3, r4, r5, r6, r7⟩ := hZ.facts8
  refine Ends.one 27 (by kernel_rfl) rfl (fun K hK => ?s27)
  go_simp
  refine hK.out _ _ (fun h => absurd rfl h) (fun _ => ?_)
  clear hK K hZ hHeld
  clear p0 p1 p2 p3 p4 p5 p6 p7 r0 r1 r2 r3 r4 r5 r6 r7
  try simp only [Act.put, List.setIfInBounds_toArray, List.set_cons_zero, List.set_cons_succ, List.getElem_toArray, List.getElem_cons_zero, List.getElem_cons_succ]
  refine Ends.done (by kernel_rfl) ?_ _
  have hA5 := (BlkAt.new (w.alloc (.cells #[.bool false, .bool false, .bool false, .int .i64 0, .int .i64 0, .int .i64 0, .int .i64 0, .slice none 0 0] 71)) (w.heap.size + 1) (by simp) 71 #[.bool true, .bool false, .bool false, .int .i64 0, .int .i64 (full n), .int .i64 0, .int .i64 0, .slice none 0 0]).drew
  have hZ5 := (hPr.alloc (.cells #[.bool true, .bool false, .bool false, .int .i64 0, .int .i64 (full n), .int .i64 0, .int .i64 0, .slice none 0 0] 71)).drew
  have hB5 := ((HA.out (.cells #[.bool false, .bool false, .bool false, .int .i64 0, .int .i64 0, .int .i64 0, .int .i64 0, .slice none 0 0] 71)).alloc (by simp) (.cells #[.bool true, .bool false, .bool false, .int .i64 0, .int .i64 (full n), .int .i64 0, .int .i64 0, .slice none 0 0] 71)).drew
  go_wp2_with fail
  refine (rrow_any lo hi g b p n _ (HG.out _ hB5) (HX.out _ hB5) hn (by simp; omega)).mono ?_
  rintro e w6 ⟨r, rfl, hr, hb6⟩
  have hs6 := hb6.size
  simp at hs6
  have hA6 := hA5.below hb6 (by simp)
  have hZ6 := hZ5.below hb6 (by simp; omega)
  have a7 := hA6.cell 7 _ rfl
  have f7 := hA6.frozen 7
  simp only [List.getElem_toArray, List.getElem_cons_zero, List.getElem_cons_succ] at a7
  have hr1 : r ≠ w.heap.size + 1 := fun e => by
    subst e
    exact absurd rfl (blk_apart hr hA6 (by decide))
  have hr0 : r ≠ w.heap.size := fun e => by
    subst e
    exact absurd rfl (blk_apart hr hZ6 (by decide))
  have hA7 : BlkAt (w6.setCell ⟨w.heap.size + 1, 7, none⟩ (.slice (some ⟨r, 0, none⟩) n n)) (w.heap.size + 1) 71 #[.bool true, .bool false, .bool false, .int .i64 0, .int .i64 (full n), .int .i64 0, .int .i64 0, .slice (some ⟨r, 0, none⟩) n n] := hA6.set 7 _
  have hZ7 := hZ6.other (show w.heap.size ≠ w.heap.size + 1 by omega) 7 (.slice (some ⟨r, 0, none⟩) n n)
  have hR7 := hr.other hr1 7 (.slice (some ⟨r, 0, none⟩) n n)
  have hB7 := (hB5.trans (hb6.mono (by simp; omega))).trans (((Only.refl (w.heap.size + 1) w6).set 7 (.slice (some ⟨r, 0, none⟩) n n)).below (by omega))
  clear hA5 hZ5 hB5 hA6 hZ6 hr hb6
  have HA7 : Hid (BlkAt _ (w.heap.size + 1) 71 _) := hA7
  have HZ7 : Hid (BlkAt _ w.heap.size 71 _) := hZ7
  have HR7 : Hid (BlkAt _ r 3 _) := hR7
  have HB7 : Hid (Below w.heap.size w _) := hB7
  clear hA7 hZ7 hR7 hB7
  go_wp2_with fail
  refine (held_nil lo hi g b p n _ (HG.out _ HB7.out) (HX.out _ HB7.out) hn).mono ?_
  rintro e w8 ⟨rfl, hw8⟩
  rw [← hw8] at HA7 HZ7 HR7 HB7
  clear hw8 a7 f7
  obtain ⟨p0, p1, p2, p3, p4, p5, p6, p7, r0, r1, r2, r3, r4, r5, r6, r7⟩ := HA7.out.facts8
  obtain ⟨z0, z1, z2, z3, z4, z5, z6, z7, y0, y1, y2, y3, y4, y5, y6, y7⟩ := HZ7.out.facts8
  go_wp2_with fail
  have hZ9 := HZ7.out.other (show w.heap.size ≠ w.heap.size + 1 by omega) 6 (.int .i64 0)
  have hR9 := HR7.out.other hr1 6 (.int .i64 0)
  have hB9 := HB7.out.trans (((Only.refl (w.heap.size + 1) w8).set 6 (.int .i64 0)).below (by omega))
  obtain ⟨hPf, hOn⟩ := store8 hZ9 (.bool true) (.bool false) (.bool false) (.int .i64 0) (.int .i64 (full n)) (.int .i64 0) (.int .i64 0) (.slice (some ⟨r, 0, none⟩) n n)
  clear p0 p1 p2 p3 p4 p5 p6 p7 r0 r1 r2 r3 r4 r5 r6 r7 z0 z1 z2 z3 z4 z5 z6 z7 y0 y1 y2 y3 y4 y5 y6 y7
  refine at_world (p := bodyPost _ _ _ _ _) _ (fun wf hwf => ?_)
  rw [← hwf.out] at hPf hOn
  clear hwf
  obtain ⟨p0, p1, p2, p3, p4, p5, p6, p7, -⟩ := hPf.facts8
  refine bodyPost_ret (v := .tuple #[.agg #[.bool true, .bool false, .bool false, .int .i64 0, .int .i64 (full n), .int .i64 0, .int .i64 0, .slice (some ⟨r, 0, none⟩) n n], .int .i64 0]) (by simp [results, Tryz.results92, go_sem, p0, p1, p2, p3, p4, p5, p6, p7]) rfl ⟨r, rfl, ?_, ?_⟩
  · exact (hOn.block r hr0).trans hR9
  · exact hB9.trans (hOn.below (Nat.le_refl _))
end Go.Proofs.YtoklolfaemhfnaaGreatDoor
