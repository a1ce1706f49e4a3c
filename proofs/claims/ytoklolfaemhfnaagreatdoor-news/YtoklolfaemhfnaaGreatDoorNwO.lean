/-
  For the walk of the law News: looks: every list of the caller's reads as the caller has written it.
-/
import Derived.Test.YtoklolfaemhfnaaGreatDoorNwN
namespace Go.Proofs.YtoklolfaemhfnaaGreatDoor
open Go.RowKit

theorem St.entE {w0 wr : World} {wb gx gy : Nat} {ev iv : Value} {E F : List (Value × Int)} (h : St w0 wr wb gx gy ev iv E F) (k : Nat) (e : Value × Int) (hk : E[k]? = some e) : ∃ ga ca, ev = .slice (some ⟨ga, 0, none⟩) E.length ca ∧ wr.cell? ⟨ga, k * 2, none⟩ = some e.1 ∧ wr.cell? ⟨ga, k * 2 + 1, none⟩ = some (.int .i64 e.2) ∧ ga < wr.heap.size := by
  have hlt := (List.getElem?_eq_some_iff.1 hk).1
  have ha := h.evs
  obtain ⟨ga, ca, hv, _, h2⟩ := World.ownsRow.form ha (by omega)
  subst hv
  obtain ⟨h3, h4⟩ := numCells_at E k e hk
  exact ⟨ga, ca, rfl, (ha.cellAt (k * 2) (by omega)).trans h3, (ha.cellAt (k * 2 + 1) (by omega)).trans h4, h2⟩
theorem St.entI {w0 wr : World} {wb gx gy : Nat} {ev iv : Value} {E F : List (Value × Int)} (h : St w0 wr wb gx gy ev iv E F) (k : Nat) (e : Value × Int) (hk : F[k]? = some e) : ∃ ga ca, iv = .slice (some ⟨ga, 0, none⟩) F.length ca ∧ wr.cell? ⟨ga, k * 2, none⟩ = some e.1 ∧ wr.cell? ⟨ga, k * 2 + 1, none⟩ = some (.int .i64 e.2) ∧ ga < wr.heap.size := by
  have hlt := (List.getElem?_eq_some_iff.1 hk).1
  have ha := h.ins
  obtain ⟨ga, ca, hv, _, h2⟩ := World.ownsRow.form ha (by omega)
  subst hv
  obtain ⟨h3, h4⟩ := numCells_at F k e hk
  exact ⟨ga, ca, rfl, (ha.cellAt (k * 2) (by omega)).trans h3, (ha.cellAt (k * 2 + 1) (by omega)).trans h4, h2⟩
theorem MarkG.form {T : TypeId} {sz : Nat} {c : Int → List Value} {w : World} {v : Value} {m : Int} (h : MarkG T sz c w (v, m)) : ∃ (M : Nat) (ao : Option Addr) (n cp : Nat), m = M ∧ M ≤ 1000 ∧ v = .slice ao n cp ∧ n ≤ 1000 ∧ ∀ q, q < n → ∃ g, ao = some ⟨g, 0, none⟩ ∧ g < w.heap.size ∧ ∀ i u, (c M)[i]? = some u → w.cell? ⟨g, q * sz + i, none⟩ = some u := by
  rcases h with ⟨⟨h1, h2⟩, h | ⟨g, n, cap, cur, hv, hc, hm, hj⟩⟩
  · exact ⟨m.toNat, none, 0, 0, by simp only at h1; omega, by simp only at h2; omega, h, by omega, fun q hq => absurd hq (Nat.not_lt_zero _)⟩
  · have hM : m = (m.toNat : Int) := by simp only at h1; omega
    refine ⟨m.toNat, _, n, cap, hM, by simp only at h2; omega, hv, hm, fun q hq => ⟨g, rfl, (Array.getElem?_eq_some_iff.1 hc).1, fun i u hi => BlkAt.cell hc _ _ (hj q i u hq ?_)⟩⟩
    rw [← hM] at hi
    exact hi

set_option maxHeartbeats 1600000 in
theorem looks_any (w0 w : World) (wb gx gy : Nat) (ev iv : Value) (E F : List (Value × Int)) (h : St w0 w wb gx gy ev iv E F) (hE : E.length ≤ 100) (hF : F.length ≤ 100) : Calls Tryz.prog 23 #[.pointer (some ⟨wb, 0, none⟩)] w fun e w' => e = .returned (.bool true) ∧ Below w.heap.size w w' := by
  obtain ⟨eo, ec, rfl⟩ := own_form h.evs
  obtain ⟨io, ic, rfl⟩ := own_form h.ins
  obtain ⟨KE, hKE⟩ : ∃ K, K = E.length := ⟨_, rfl⟩
  obtain ⟨KF, hKF⟩ : ∃ K, K = F.length := ⟨_, rfl⟩
  rw [← hKE, ← hKF] at h
  rw [← hKE] at hE
  rw [← hKF] at hF
  have HKE : Hid (KE = E.length) := hKE
  have HKF : Hid (KF = F.length) := hKF
  have HS : Hid (∀ w', Below w.heap.size w w' → St w0 w' wb gx gy (.slice eo KE ec) (.slice io KF ic) E F) := fun w' hb => h.later hb
  have hwb := h.box.lt
  have HC : Hid (∀ w', Below w.heap.size w w' → w'.cell? ⟨wb, 2, none⟩ = some (.slice eo KE ec) ∧ w'.cell? ⟨wb, 3, none⟩ = some (.slice io KF ic)) := fun w' hb => ⟨(h.later hb).box.cell 2 _ rfl, (h.later hb).box.cell 3 _ rfl⟩
  clear h hKE hKF
  go_enter Tryz.func23, Tryz.ntmps23
  go_wp2_with fail
  go_loopw [3] (fun i wr => ∃ k : Nat, k ≤ KE ∧ i = .int .i64 k ∧ Hid (Below w.heap.size w wr)) (fun i _ => KE - (intOf i).toNat)
  case atStart => exact ⟨0, by omega, rfl, Below.refl _ _⟩
  case round =>
    obtain ⟨k, hk, rfl, HB⟩ := hrel
    have hsz := HB.out.size
    obtain ⟨c2, c3⟩ := HC.out _ HB.out
    by_cases hlt : k < KE
    · obtain ⟨⟨v, m⟩, he⟩ : ∃ e, E[k]? = some e := ⟨_, List.getElem?_eq_getElem (by rw [← HKE.out]; exact hlt)⟩
      obtain ⟨ga, ca, hv, e1, e2, hga⟩ := (HS.out _ HB.out).entE k _ he
      injection hv with e3 e4 e5
      clear e4
      subst e3 e5
      have HM : Hid (MarkG 64 6 evc wr (v, m)) := (HS.out _ HB.out).eM _ (List.mem_of_getElem? he)
      obtain ⟨M, ao, n, cp, rfl, hM, rfl, hn, hq⟩ := HM.out.form
      simp only at e1 e2
      clear hq he
      have hk0 : (0 : Int) ≤ (k : Int) := Int.natCast_nonneg _
      have hk1 : (k : Int) < (KE : Int) := by omega
      have HBo : Hid (BlkAt (wr.alloc (.cells #[.slice ao n cp, .int .i64 M] 85)) wr.heap.size 85 #[.slice ao n cp, .int .i64 M]) := BlkAt.new _ _ rfl _ _
      have HB1 : Hid (Below w.heap.size w (wr.alloc (.cells #[.slice ao n cp, .int .i64 M] 85))) := HB.out.alloc hsz _
      have HM1 : Hid (MarkG 64 6 evc (wr.alloc (.cells #[.slice ao n cp, .int .i64 M] 85)) (.slice ao n cp, (M : Int))) := HM.out.keepT (KeepT.alloc _ _ _)
      obtain ⟨B, hB⟩ : ∃ B, wr.heap.size = B := ⟨_, rfl⟩
      rw [hB] at HBo
      clear HB HM
      go_wp2_with fail
      go_loopw [5] (fun i wx => ∃ q : Nat, q ≤ n ∧ i = .int .i64 q ∧ Hid (Below w.heap.size w wx) ∧ Hid (BlkAt wx B 85 #[.slice ao n cp, .int .i64 M]) ∧ Hid (MarkG 64 6 evc wx (.slice ao n cp, (M : Int)))) (fun i _ => n - (intOf i).toNat)
      case atStart => exact ⟨0, by omega, rfl, HB1, HBo, HM1⟩
      case round =>
        clear HB1 HBo HM1 c2 c3 e1 e2 hsz hga
        obtain ⟨q, hq, rfl, HB, HBo, HM⟩ := hrel
        have b0 := HBo.out.cell 0 _ rfl
        have b1 := HBo.out.cell 1 _ rfl
        simp only [List.getElem_toArray, List.getElem_cons_zero, List.getElem_cons_succ] at b0 b1
        have hbl := HBo.out.lt
        by_cases hlt2 : q < n
        · obtain ⟨M', ao', n', cp', hMM, _, hvv, _, hcells⟩ := HM.out.form
          injection hvv with e3 e4 e5
          subst e3 e4 e5
          have hM2 : M' = M := by omega
          subst hM2
          obtain ⟨g, rfl, hg, hcs⟩ := hcells q hlt2
          have d0 := hcs 0 _ rfl
          have d1 := hcs 1 _ rfl
          have d2 := hcs 2 _ rfl
          have d3 := hcs 3 _ rfl
          have d4 := hcs 4 _ rfl
          have d5 := hcs 5 _ rfl
          rw [Nat.add_zero] at d0
          have hq0 : (0 : Int) ≤ (q : Int) := Int.natCast_nonneg _
          have hq1 : (q : Int) < (n : Int) := by omega
          clear hcs hcells hMM
          go_upto_region 8 with fail
          go_region_held3 (fun w' => w'.cell? ⟨B, 0, none⟩ = some (.slice (some ⟨g, 0, none⟩) n cp) ∧ w'.cell? ⟨B, 1, none⟩ = some (.int .i64 M') ∧ w'.cell? ⟨g, q * 6, none⟩ = some (.int .i64 (-1 - (M' : Int))) ∧ w'.cell? ⟨g, q * 6 + 1, none⟩ = some (.int .i64 0) ∧ w'.cell? ⟨g, q * 6 + 2, none⟩ = some (.int .i64 0) ∧ w'.cell? ⟨g, q * 6 + 3, none⟩ = some (.int .i64 0) ∧ w'.cell? ⟨g, q * 6 + 4, none⟩ = some (.int .i64 0) ∧ w'.cell? ⟨g, q * 6 + 5, none⟩ = some (.string ⟨#[109, 97, 114, 107]⟩)) (simp [go_sem, *]) (first | (go_at_call 50; refine (eventOf_any M' _ (by omega)).mono ?_; rintro e w' ⟨rfl, rfl⟩))
          have HB2 : Hid (Below w.heap.size w (wr.alloc (.cells #[.int .i64 (-1 - (M' : Int)), .int .i64 0, .int .i64 0, .int .i64 0, .int .i64 0, .string ⟨#[109, 97, 114, 107]⟩] 64)).drew) := (HB.out.alloc (by have := HB.out.size; omega) _).drew
          have HBo2 : Hid (BlkAt (wr.alloc (.cells #[.int .i64 (-1 - (M' : Int)), .int .i64 0, .int .i64 0, .int .i64 0, .int .i64 0, .string ⟨#[109, 97, 114, 107]⟩] 64)).drew B 85 #[.slice (some ⟨g, 0, none⟩) n cp, .int .i64 M']) := (HBo.out.alloc _).drew
          have HM2 : Hid (MarkG 64 6 evc (wr.alloc (.cells #[.int .i64 (-1 - (M' : Int)), .int .i64 0, .int .i64 0, .int .i64 0, .int .i64 0, .string ⟨#[109, 97, 114, 107]⟩] 64)).drew (.slice (some ⟨g, 0, none⟩) n cp, (M' : Int))) := HM.out.keepT (KeepT.alloc _ _ _).drew
          clear HB HBo HM
          all_goals (go_wp2_with fail)
          all_goals go_roundw
          case rel => exact ⟨q + 1, by omega, by go_num, HB2, HBo2, HM2⟩
          case measure => simp [intOf]; omega
        · have hq1 : ¬ (q : Int) < (n : Int) := by omega
          clear HBo HM
          go_wp2_with fail
          go_roundw
          case rel => exact ⟨k + 1, by omega, by go_num, HB⟩
          case measure => simp [intOf]; omega
    · have hk1 : ¬ (k : Int) < (KE : Int) := by omega
      go_wp2_with fail
      go_loopw [6] (fun i wx => ∃ k : Nat, k ≤ KF ∧ i = .int .i64 k ∧ Hid (Below w.heap.size w wx)) (fun i _ => KF - (intOf i).toNat)
      case atStart => exact ⟨0, by omega, rfl, HB⟩
      case round =>
        clear HB hsz c2 c3 hk1 hlt
        obtain ⟨k, hk, rfl, HB⟩ := hrel
        have hsz := HB.out.size
        obtain ⟨c2, c3⟩ := HC.out _ HB.out
        by_cases hlt : k < KF
        · obtain ⟨⟨v, m⟩, he⟩ : ∃ e, F[k]? = some e := ⟨_, List.getElem?_eq_getElem (by rw [← HKF.out]; exact hlt)⟩
          obtain ⟨ga, ca, hv, e1, e2, hga⟩ := (HS.out _ HB.out).entI k _ he
          injection hv with e3 e4 e5
          clear e4
          subst e3 e5
          have HM : Hid (MarkG 3 1 inc wr (v, m)) := (HS.out _ HB.out).iM _ (List.mem_of_getElem? he)
          obtain ⟨M, ao, n, cp, rfl, hM, rfl, hn, hq⟩ := HM.out.form
          simp only at e1 e2
          clear hq he
          have hk0 : (0 : Int) ≤ (k : Int) := Int.natCast_nonneg _
          have hk1 : (k : Int) < (KF : Int) := by omega
          have HBo : Hid (BlkAt (wr.alloc (.cells #[.slice ao n cp, .int .i64 M] 88)) wr.heap.size 88 #[.slice ao n cp, .int .i64 M]) := BlkAt.new _ _ rfl _ _
          have HB1 : Hid (Below w.heap.size w (wr.alloc (.cells #[.slice ao n cp, .int .i64 M] 88))) := HB.out.alloc hsz _
          have HM1 : Hid (MarkG 3 1 inc (wr.alloc (.cells #[.slice ao n cp, .int .i64 M] 88)) (.slice ao n cp, (M : Int))) := HM.out.keepT (KeepT.alloc _ _ _)
          obtain ⟨B, hB⟩ : ∃ B, wr.heap.size = B := ⟨_, rfl⟩
          rw [hB] at HBo
          clear HB HM
          go_wp2_with fail
          go_loopw [8] (fun i wx => ∃ q : Nat, q ≤ n ∧ i = .int .i64 q ∧ Hid (Below w.heap.size w wx) ∧ Hid (BlkAt wx B 88 #[.slice ao n cp, .int .i64 M]) ∧ Hid (MarkG 3 1 inc wx (.slice ao n cp, (M : Int)))) (fun i _ => n - (intOf i).toNat)
          case atStart => exact ⟨0, by omega, rfl, HB1, HBo, HM1⟩
          case round =>
            clear HB1 HBo HM1 c2 c3 e1 e2 hsz hga hB
            obtain ⟨q, hq, rfl, HB, HBo, HM⟩ := hrel
            have b0 := HBo.out.cell 0 _ rfl
            have b1 := HBo.out.cell 1 _ rfl
            simp only [List.getElem_toArray, List.getElem_cons_zero, List.getElem_cons_succ] at b0 b1
            by_cases hlt2 : q < n
            · obtain ⟨M', ao', n', cp', hMM, _, hvv, _, hcells⟩ := HM.out.form
              injection hvv with e3 e4 e5
              subst e3 e4 e5
              have hM2 : M' = M := by omega
              subst hM2
              obtain ⟨g, rfl, hg, hcs⟩ := hcells q hlt2
              have d0 := hcs 0 _ rfl
              rw [Nat.add_zero, Nat.mul_one] at d0
              have hq0 : (0 : Int) ≤ (q : Int) := Int.natCast_nonneg _
              have hq1 : (q : Int) < (n : Int) := by omega
              clear hcs hcells hMM
              have HB2 : Hid (∀ m, Below w.heap.size w (wr.drewN m)) := fun m => below_drewN HB.out m
              have HBo2 : Hid (∀ m, BlkAt (wr.drewN m) B 88 #[.slice (some ⟨g, 0, none⟩) n cp, .int .i64 M']) := fun m => HBo.out.below (below_drewN (Below.refl _ _) m) HBo.out.lt
              have HM2 : Hid (∀ m, MarkG 3 1 inc (wr.drewN m) (.slice (some ⟨g, 0, none⟩) n cp, (M' : Int))) := fun m => HM.out.keepT (.below (below_drewN (Below.refl _ _) m))
              clear HB HBo HM
              go_wp2_with fail
              go_quiet (fail)
              go_wp2_with fail
              go_roundw
              case rel => exact ⟨q + 1, by omega, by go_num, HB2.out _, HBo2.out _, HM2.out _⟩
              case measure => simp [intOf]; omega
            · have hq1 : ¬ (q : Int) < (n : Int) := by omega
              clear HBo HM
              go_wp2_with fail
              go_roundw
              case rel => exact ⟨k + 1, by omega, by go_num, HB⟩
              case measure => simp [intOf]; omega
        · have hk1 : ¬ (k : Int) < (KF : Int) := by omega
          go_wp2_with fail
          go_ret
          exact ⟨rfl, HB.out⟩
end Go.Proofs.YtoklolfaemhfnaaGreatDoor
