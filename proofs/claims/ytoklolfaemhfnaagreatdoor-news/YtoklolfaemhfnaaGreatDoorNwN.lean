/-
  For the walk of the law News: eventOf; ownEvents at an empty list.
-/
import Derived.Test.YtoklolfaemhfnaaGreatDoorNwM
namespace Go.Proofs.YtoklolfaemhfnaaGreatDoor
open Go.RowKit

set_option maxHeartbeats 400000 in
theorem eventOf_any (k : Nat) (w : World) (hk : k ≤ 1000) : Calls Tryz.prog 50 #[.int .i64 k] w fun e w' => e = .returned (.agg #[.int .i64 (-1 - (k : Int)), .int .i64 0, .int .i64 0, .int .i64 0, .int .i64 0, .string ⟨#[109, 97, 114, 107]⟩]) ∧ w' = w.alloc (.cells #[.int .i64 (-1 - (k : Int)), .int .i64 0, .int .i64 0, .int .i64 0, .int .i64 0, .string ⟨#[109, 97, 114, 107]⟩] 64) := by
  have hPr := BlkAt.new w w.heap.size rfl 64 #[.int .i64 (-1 - (k : Int)), .int .i64 0, .int .i64 0, .int .i64 0, .int .i64 0, .string ⟨#[109, 97, 114, 107]⟩]
  have p0 := hPr.cell 0 _ rfl
  have p1 := hPr.cell 1 _ rfl
  have p2 := hPr.cell 2 _ rfl
  have p3 := hPr.cell 3 _ rfl
  have p4 := hPr.cell 4 _ rfl
  have p5 := hPr.cell 5 _ rfl
  simp only [List.getElem_toArray, List.getElem_cons_zero, List.getElem_cons_succ] at p0 p1 p2 p3 p4 p5
  clear hPr
  go_enter Tryz.func50, Tryz.ntmps50
  go_wp2_with fail
  exact bodyPost_ret (v := .agg #[.int .i64 (-1 - (k : Int)), .int .i64 0, .int .i64 0, .int .i64 0, .int .i64 0, .string ⟨#[109, 97, 114, 107]⟩]) (by simp [results, Tryz.results50, go_sem, p0, p1, p2, p3, p4, p5]) rfl ⟨rfl, rfl⟩

theorem infoEv : (Tryz.prog.info? 85).map (fun i => (i.zero, i.size, i.bytes)) = some (some (.agg #[.slice none 0 0, .int .i64 0]), 2, 32) := by kernel_rfl
theorem infoEvent : (Tryz.prog.info? 64).map (fun i => (i.zero, i.size, i.bytes)) = some (some (.agg #[.int .i64 0, .int .i64 0, .int .i64 0, .int .i64 0, .int .i64 0, .string ⟨#[]⟩]), 6, 56) := by kernel_rfl
theorem six_cells (w : World) (X : Nat) (T : TypeId) (k : Int) (h : BlkAt w X T #[.int .i64 (-1 - k), .int .i64 0, .int .i64 0, .int .i64 0, .int .i64 0, .string ⟨#[109, 97, 114, 107]⟩]) : ∀ j x, (evc k)[j]? = some x → w.cell? ((⟨X, 0, none⟩ : Addr).add j) = some x := by
  intro j x hj
  rw [add0]
  exact h.cell j x (by simpa [evc] using hj)
theorem evc_one (k : Int) : ∀ u ∈ evc k, u.oneCell' = true := by
  intro u hu
  simp [evc] at hu
  rcases hu with rfl | rfl | rfl <;> rfl

set_option maxHeartbeats 1600000 in
theorem ownEvents_nil (w0 w : World) (wb gx gy : Nat) (ev iv : Value) (E F : List (Value × Int)) (h : St w0 w wb gx gy ev iv E F) (hE : E.length ≤ 100) : Calls Tryz.prog 95 #[.pointer (some ⟨wb, 0, none⟩), .slice none 0 0] w fun e w' => e = .returned (.tuple #[]) ∧ ∃ ev' E', St w0 w' wb gx gy ev' iv E' F ∧ E'.length = E.length + 4 := by
  obtain ⟨i0, hi0, hz0, hz1, hz2⟩ := info_parts infoEvent
  obtain ⟨i1, hi1, hy0, hy1, hy2⟩ := info_parts infoEv
  obtain ⟨io, ic, rfl⟩ := own_form h.evs
  obtain ⟨K, hK⟩ : ∃ K, K = E.length := ⟨_, rfl⟩
  have c2 := h.box.cell 2 _ rfl
  simp only [List.getElem_toArray, List.getElem_cons_zero, List.getElem_cons_succ] at c2
  rw [← hK] at c2 h hE
  have HK : Hid (K = E.length) := hK
  have HS : Hid (St w0 w wb gx gy (.slice io K ic) iv E F) := h
  clear h hK
  go_enter Tryz.func95, Tryz.ntmps95
  go_wp2_with fail
  go_loopw [5] (fun i wr => i = .int .i64 0 ∧ Hid (St w0 wr wb gx gy (.slice io K ic) iv E F)) (fun _ _ => 0)
  case atStart => exact ⟨rfl, HS⟩
  case round =>
    clear HS c2
    obtain ⟨rfl, HS⟩ := hrel
    have HM : Hid (MarkG 64 6 evc wr (.slice none 0 0, (K : Int))) := ⟨⟨by simp, by simp; omega⟩, .inl rfl⟩
    have HC : Hid (Cur 64 6 evc wr wb E (.slice none 0 0) 0 K) := ⟨World.ownsRow_nil _ _ _ _, fun e he g n cp hv hq => by cases hq⟩
    have c2 := HS.out.box.cell 2 _ rfl
    simp only [List.getElem_toArray, List.getElem_cons_zero, List.getElem_cons_succ] at c2
    have hwb := HS.out.box.lt
    have HO : Hid (World.ownsRow (wr.alloc (.cells #[.slice none 0 0, .int .i64 K] 85)) (wb + 1) 85 2 (.slice io K ic) K (numCells E)) := by
      have := HS.out.evs.alloc (.cells #[.slice none 0 0, .int .i64 K] 85)
      rw [← HK.out] at this
      exact this
    have HN : Hid (BlkAt (wr.alloc (.cells #[.slice none 0 0, .int .i64 K] 85)) wr.heap.size 85 #[.slice none 0 0, .int .i64 K]) := BlkAt.new _ _ rfl _ _
    have HB := HS.out.later ((Below.refl _ _).alloc (Nat.le_refl _) (.cells #[.slice none 0 0, .int .i64 K] 85))
    have HBd : Hid (St _ _ _ _ _ _ _ _ _) := HB
    clear HB
    go_wp2_with (at_builtin; refine wpList_append_own_at _ rfl _ _ 80 rfl (wb + 1) 85 i1 _ 2 32 Tryz.underlying80 hi1 hy0 hy1 hy2 rfl (by decide) _ _ _ rfl HO.out ⟨wr.heap.size, 0, none⟩ 1 1 [.slice none 0 0, .int .i64 K] rfl rfl (two_cells _ _ _ _ _ HN.out) (oneCell_two _ _ _ _) ?c3 ?c4 ?c5 ?_)
    case c3 => unfold maxLen; omega
    case c4 => omega
    case c5 => (try simp); omega
    intro v1 w1 ho hg _ _
    obtain ⟨g1, p1, rfl, _, _⟩ := World.ownsRow.form ho (by omega)
    have hX1 := blk_keepT HBd.out.box (KeepT.grown HO.out (by decide) hg)
    have d2 := hX1.cell 2 _ rfl
    have f2 := hX1.frozen 2
    simp only [List.getElem_toArray, List.getElem_cons_zero, List.getElem_cons_succ] at d2
    have k1 : KeepT 64 wr w1 := (KeepT.alloc _ _ _).trans (KeepT.grown HO.out (by decide) hg)
    have hX2 : KeepT 64 w1 (w1.setCell ⟨wb, 2, none⟩ (.slice (some ⟨g1, 0, none⟩) (K + 1) p1)) := KeepT.set hX1 (by decide) 2 _
    have hS1 := HBd.out.moreE (.slice none 0 0) K g1 p1 (by rw [← HK.out]; exact ho) hg (HM.out.keepT (KeepT.alloc _ _ _))
    rw [← HK.out] at hS1
    have HS1 : Hid (St _ _ _ _ _ _ _ _ _) := hS1
    have HC1 : Hid (Cur _ _ _ _ _ _ _ _ _) := (HC.out.keep (k1.trans hX2)).more
    clear hX1 hX2 k1 ho hg HO HN HBd HC HM HS hS1 c2
    go_wp2_with fail
    go_loopw [1, 6] (fun l i wx => ∃ (j : Nat) (ao : Option Addr) (c : Nat) (jo : Option Addr) (jc : Nat) (G : List (Value × Int)), j ≤ 3 ∧ i = .int .i64 j ∧ l = .slice ao j c ∧ Hid (G.length = K + 1 + j) ∧ Hid (St w0 wx wb gx gy (.slice jo (K + 1 + j) jc) iv G F) ∧ Hid (Cur 64 6 evc wx wb G (.slice ao j c) j K)) (fun _ i _ => 3 - (intOf i).toNat)
    case atStart => exact ⟨0, none, 0, _, _, _, by omega, rfl, rfl, by show _ = _; simp [← HK.out], HS1, HC1⟩
    case round =>
      clear HS1 HC1 d2 f2 hwb
      obtain ⟨j, ao, c, jo, jc, G, hj, rfl, rfl, HGl, HS, HC⟩ := hrel
      by_cases hlt2 : j < 3
      · have hj1 : (j : Int) < 3 := by omega
        have hwb := HS.out.box.lt
        obtain ⟨wA, hwA⟩ : ∃ wA, wA = (wr.alloc (.cells #[.int .i64 (-1 - (K : Int)), .int .i64 0, .int .i64 0, .int .i64 0, .int .i64 0, .string ⟨#[109, 97, 114, 107]⟩] 64)).alloc (.cells #[.int .i64 (-1 - (K : Int)), .int .i64 0, .int .i64 0, .int .i64 0, .int .i64 0, .string ⟨#[109, 97, 114, 107]⟩] 64) := ⟨_, rfl⟩
        have hbA : Below wr.heap.size wr wA := by rw [hwA]; exact ((Below.refl _ _).alloc (Nat.le_refl _) _).alloc (by simp) _
        have HSA : Hid (St w0 wA wb gx gy (.slice jo (K + 1 + j) jc) iv G F) := HS.out.later hbA
        have HCA : Hid (Cur 64 6 evc wA wb G (.slice ao j c) j K) := HC.out.keep (.below hbA)
        have HNA : Hid (BlkAt wA (wr.heap.size + 1) 64 #[.int .i64 (-1 - (K : Int)), .int .i64 0, .int .i64 0, .int .i64 0, .int .i64 0, .string ⟨#[109, 97, 114, 107]⟩]) := by rw [hwA]; exact BlkAt.new _ _ (by simp) _ _
        have hsA : wr.heap.size + 2 ≤ wA.heap.size := by rw [hwA]; simp
        have HWA : Hid (wA = _) := hwA
        clear HS HC hbA hwA
        go_wp2_with (first | (go_at_call 50; refine (eventOf_any K _ (by omega)).mono ?_; rintro e w' ⟨rfl, rfl⟩) | (at_builtin; rw [← HWA.out]; refine wpList_append_gen rfl _ _ 35 rfl (wb + 1) 64 i0 _ 6 56 Tryz.underlying35 hi0 hz0 hz1 hz2 rfl (by decide) _ _ _ rfl HCA.out.own ⟨wr.heap.size + 1, 0, none⟩ 1 (evc K) rfl rfl (six_cells _ _ _ _ HNA.out) (evc_one _) ?d3 ?d4 ?d5 ?_))
        case d3 => unfold maxLen; omega
        case d4 => omega
        case d5 => (try simp); omega
        intro g2 cap2 w2 ho2 hg2 hat2 hk2
        obtain ⟨hC2, hM2⟩ := HCA.out.grow HSA.out.eM (fun _ => rfl) g2 cap2 ho2 hg2 hat2 hk2
        have hS2 := HSA.out.events (fun T hT => KeepT.grown HCA.out.own (fun e => hT e.symm) hg2) hM2 (grown_below hg2 (by omega) (fun x hx => by have := (HCA.out.own.lt x hx).1; omega))
        have c2 := hS2.box.cell 2 _ rfl
        simp only [List.getElem_toArray, List.getElem_cons_zero, List.getElem_cons_succ] at c2
        have hwb2 := hS2.box.lt
        have HM2 : Hid (MarkG 64 6 evc w2 (.slice (some ⟨g2, 0, none⟩) (j + 1) cap2, (K : Int))) := MarkG.own hC2.own rfl (by omega) ⟨by omega, by omega⟩
        have HC2 : Hid (Cur _ _ _ _ _ _ _ _ _) := hC2
        have HO : Hid (World.ownsRow (w2.alloc (.cells #[.slice (some ⟨g2, 0, none⟩) (j + 1) cap2, .int .i64 K] 85)) (wb + 1) 85 2 (.slice jo (K + 1 + j) jc) (K + 1 + j) (numCells G)) := by
          have := hS2.evs.alloc (.cells #[.slice (some ⟨g2, 0, none⟩) (j + 1) cap2, .int .i64 K] 85)
          rw [HGl.out] at this
          exact this
        have HN : Hid (BlkAt (w2.alloc (.cells #[.slice (some ⟨g2, 0, none⟩) (j + 1) cap2, .int .i64 K] 85)) w2.heap.size 85 #[.slice (some ⟨g2, 0, none⟩) (j + 1) cap2, .int .i64 K]) := BlkAt.new _ _ rfl _ _
        have HBd : Hid (St _ _ _ _ _ _ _ _ _) := hS2.later ((Below.refl _ _).alloc (Nat.le_refl _) (.cells #[.slice (some ⟨g2, 0, none⟩) (j + 1) cap2, .int .i64 K] 85))
        clear hC2 hM2 hS2 ho2 hg2 hat2 hk2 HSA HCA HNA HWA hsA
        clear wA
        go_wp2_with (at_builtin; refine wpList_append_own_at _ rfl _ _ 80 rfl (wb + 1) 85 i1 _ 2 32 Tryz.underlying80 hi1 hy0 hy1 hy2 rfl (by decide) _ _ _ rfl HO.out ⟨w2.heap.size, 0, none⟩ 1 1 [.slice (some ⟨g2, 0, none⟩) (j + 1) cap2, .int .i64 K] rfl rfl (two_cells _ _ _ _ _ HN.out) (oneCell_two _ _ _ _) ?e3 ?e4 ?e5 ?_)
        case e3 => unfold maxLen; omega
        case e4 => omega
        case e5 => (try simp); omega
        intro v1 w1 ho hg _ _
        obtain ⟨g3, p3, rfl, _, _⟩ := World.ownsRow.form ho (by omega)
        have hX1 := blk_keepT HBd.out.box (KeepT.grown HO.out (by decide) hg)
        have d2 := hX1.cell 2 _ rfl
        have f2 := hX1.frozen 2
        simp only [List.getElem_toArray, List.getElem_cons_zero, List.getElem_cons_succ] at d2
        have k1 : KeepT 64 w2 w1 := (KeepT.alloc _ _ _).trans (KeepT.grown HO.out (by decide) hg)
        have hX2 : KeepT 64 w1 (w1.setCell ⟨wb, 2, none⟩ (.slice (some ⟨g3, 0, none⟩) (K + 1 + j + 1) p3)) := KeepT.set hX1 (by decide) 2 _
        have hS1 := HBd.out.moreE (.slice (some ⟨g2, 0, none⟩) (j + 1) cap2) K g3 p3 (by rw [HGl.out]; exact ho) hg (HM2.out.keepT (KeepT.alloc _ _ _))
        rw [HGl.out] at hS1
        have HS1 : Hid (St _ _ _ _ _ _ _ _ _) := hS1
        have HC1 : Hid (Cur _ _ _ _ _ _ _ _ _) := (HC2.out.keep (k1.trans hX2)).more
        have HG1 : Hid ((G ++ [(Value.slice (some ⟨g2, 0, none⟩) (j + 1) cap2, (K : Int))]).length = K + 1 + (j + 1)) := by show _ = _; rw [List.length_append, HGl.out]; simp; omega
        clear hX1 hX2 k1 ho hg HO HN HBd HM2 HC2 hS1 c2
        go_wp2_with fail
        go_roundw
        case rel => exact ⟨j + 1, _, _, _, _, _, by omega, by go_num, rfl, HG1, HS1, HC1⟩
        case measure => simp [intOf]; omega
      · have hj3 : j = 3 := by omega
        have hj1 : ¬ (j : Int) < 3 := by omega
        have HF : Hid (∃ ev' E', St w0 wr wb gx gy ev' iv E' F ∧ E'.length = E.length + 4) := ⟨_, _, HS.out, by rw [HGl.out, ← HK.out]; omega⟩
        clear HS HC HGl
        go_wp2_with fail
        go_end0
        exact ⟨rfl, HF.out⟩
end Go.Proofs.YtoklolfaemhfnaaGreatDoor
