/-
  For the walk of the law News: ownInts: a list that came out is the caller's.
-/
import Derived.Test.YtoklolfaemhfnaaGreatDoorNwL
namespace Go.Proofs.YtoklolfaemhfnaaGreatDoor
open Go.RowKit

theorem infoIn : (Tryz.prog.info? 88).map (fun i => (i.zero, i.size, i.bytes)) = some (some (.agg #[.slice none 0 0, .int .i64 0]), 2, 32) := by kernel_rfl

theorem two_cells (w : World) (X : Nat) (T : TypeId) (v u : Value) (h : BlkAt w X T #[v, u]) : ∀ j x, [v, u][j]? = some x → w.cell? ((⟨X, 0, none⟩ : Addr).add j) = some x := by
  intro j x hj
  rw [add0]
  exact h.cell j x (by simpa using hj)
theorem reps_inc (N : Nat) (K : Int) (xs : List Value) (hl : xs.length = N) (h : ∀ q, q < N → xs[q]? = some (.int .i64 (-1 - K))) : xs = reps N (inc K) := by
  apply List.ext_getElem?
  intro q
  by_cases hq : q < N
  · rw [h q hq]
    have := reps_at N (inc K) q 0 _ hq rfl
    simpa [inc] using this.symm
  · rw [List.getElem?_eq_none (by omega), List.getElem?_eq_none (by rw [reps_length]; simp [inc]; omega)]
theorem mark_block {T : TypeId} {sz : Nat} {c : Int → List Value} {w : World} {e : Value × Int} (h : MarkG T sz c w e) (g : Nat) (hg : e.1.ownBlock = some g) : g < w.heap.size := by
  rcases h with ⟨_, h | ⟨q, n, cap, cur, hv, hc, _⟩⟩
  · rw [h] at hg; cases hg
  · rw [hv] at hg
    have : q = g := by simpa [Value.ownBlock] using hg
    subst this
    exact (Array.getElem?_eq_some_iff.1 hc).1
theorem own_of_slice {e : Value} {g n cap : Nat} (h : e = .slice (some ⟨g, 0, none⟩) n cap) : e.ownBlock = some g := by rw [h]; rfl

/-- While a list is appended to: it is full of its mark; no other list is longer in its row. -/
structure Cur (T : TypeId) (sz : Nat) (c : Int → List Value) (wr : World) (wb : Nat) (F : List (Value × Int)) (l : Value) (N : Nat) (K : Int) : Prop where
  own : wr.ownsRow (wb + 1) T sz l N (reps N (c K))
  within : ∀ e ∈ F, Within e.1 l N

theorem Cur.grow {T : TypeId} {sz : Nat} {c : Int → List Value} {wr w1 : World} {wb : Nat} {F : List (Value × Int)} {l : Value} {N : Nat} {K : Int} (h : Cur T sz c wr wb F l N K) (hF : ∀ e ∈ F, MarkG T sz c wr e) (hlen : ∀ k, (c k).length = sz) (g cap : Nat)
    (hown : w1.ownsRow (wb + 1) T sz (.slice (some ⟨g, 0, none⟩) (N + 1) cap) (N + 1) (reps N (c K) ++ c K)) (hg : wr.grownBy w1 l.ownBlock) (hat : l.ownBlock = some g ∨ g = wr.heap.size)
    (hk : ∀ q cur, l.ownBlock = some q → wr.heap[q]? = some (.cells cur T (0, 0)) → ∃ cur', w1.heap[q]? = some (.cells cur' T (0, 0)) ∧ ∀ j, j < N * sz → cur'[j]? = cur[j]?) :
    Cur T sz c w1 wb F (.slice (some ⟨g, 0, none⟩) (N + 1) cap) (N + 1) K ∧ ∀ e ∈ F, MarkG T sz c w1 e := by
  refine ⟨⟨hown, fun e he q n cp hv hq => ?_⟩, fun e he => (hF e he).append (hlen _) (h.within e he) hg hk⟩
  have hq' : g = q := by simpa [Value.ownBlock] using hq
  subst hq'
  rcases hat with ha | ha
  · have := h.within e he g n cp hv ha
    omega
  · have := mark_block (hF e he) g (own_of_slice hv)
    omega
theorem Cur.keep {T : TypeId} {sz : Nat} {c : Int → List Value} {wr w1 : World} {wb : Nat} {F : List (Value × Int)} {l : Value} {N : Nat} {K : Int} (h : Cur T sz c wr wb F l N K) (k : KeepT T wr w1) : Cur T sz c w1 wb F l N K := ⟨own_keepT h.own k, h.within⟩
theorem Cur.more {T : TypeId} {sz : Nat} {c : Int → List Value} {wr : World} {wb : Nat} {F : List (Value × Int)} {l : Value} {N : Nat} {K : Int} (h : Cur T sz c wr wb F l N K) : Cur T sz c wr wb (F ++ [(l, K)]) l N K :=
  ⟨h.own, fun e he => by
    rcases List.mem_append.1 he with he | he
    · exact h.within e he
    · simp at he; subst he; exact within_self h.own l⟩

theorem oneCell_two (ao : Option Addr) (n c : Nat) (k : Int) : ∀ u ∈ [Value.slice ao n c, .int .i64 k], u.oneCell' = true := by
  intro u hu
  simp at hu
  rcases hu with rfl | rfl <;> rfl

set_option maxHeartbeats 1600000 in
theorem ownInts_any (w0 w : World) (wb gx gy : Nat) (ev iv : Value) (E F : List (Value × Int)) (h : St w0 w wb gx gy ev iv E F) (l : Value) (N : Nat) (xs : List Value) (hl : w.ownsRow (wb + 1) 3 1 l N xs) (hN : N ≤ 6) (hF : F.length ≤ 100)
    (hfr : ∀ g, l.ownBlock = some g → ∀ e ∈ F, e.1.ownBlock ≠ some g) : Calls Tryz.prog 93 #[.pointer (some ⟨wb, 0, none⟩), l] w fun e w' => e = .returned (.tuple #[]) ∧ ∃ iv' F', St w0 w' wb gx gy ev iv' E F' ∧ F'.length = F.length + 4 := by
  obtain ⟨i0, hi0, hz0, hz1, hz2⟩ := info_parts infoInt
  obtain ⟨i1, hi1, hy0, hy1, hy2⟩ := info_parts infoIn
  obtain ⟨lo, lc, rfl⟩ := own_form hl
  obtain ⟨io, ic, rfl⟩ := own_form h.ins
  obtain ⟨K, hK⟩ : ∃ K, K = F.length := ⟨_, rfl⟩
  have c3 := h.box.cell 3 _ rfl
  simp only [List.getElem_toArray, List.getElem_cons_zero, List.getElem_cons_succ] at c3
  rw [← hK] at c3 h hF
  have HK : Hid (K = F.length) := hK
  have HS : Hid (St w0 w wb gx gy ev (.slice io K ic) E F) := h
  have HL : Hid (w.ownsRow (wb + 1) 3 1 (.slice lo N lc) N xs) := hl
  have HFr : Hid (∀ g, (Value.slice lo N lc).ownBlock = some g → ∀ e ∈ F, e.1.ownBlock ≠ some g) := hfr
  clear h hl hfr hK
  go_enter Tryz.func93, Tryz.ntmps93
  go_wp2_with fail
  go_loopw [5] (fun i wr => ∃ k : Nat, k ≤ N ∧ i = .int .i64 k ∧ Hid (St w0 wr wb gx gy ev (.slice io K ic) E F) ∧ ∃ ys, Hid (wr.ownsRow (wb + 1) 3 1 (.slice lo N lc) N ys) ∧ Hid (∀ q, q < k → ys[q]? = some (.int .i64 (-1 - (K : Int))))) (fun i _ => N - (intOf i).toNat)
  case atStart => exact ⟨0, by omega, rfl, HS, xs, HL, fun q hq => absurd hq (Nat.not_lt_zero _)⟩
  case round =>
    clear HS HL c3
    obtain ⟨k, hk, rfl, HS, ys, HL, HY⟩ := hrel
    by_cases hlt : k < N
    · obtain ⟨g, cap, hv, hg1, hg2⟩ := World.ownsRow.form HL.out (by omega)
      injection hv with e1 _ e3
      subst e1 e3
      obtain ⟨cur, hcur⟩ := own_block HL.out (g := g) rfl
      have kc := HL.out.cellAt k (by omega)
      obtain ⟨y, hy⟩ : ∃ y, ys[k]? = some y := ⟨_, List.getElem?_eq_getElem (by have := HL.out.1; omega)⟩
      rw [hy] at kc
      have kf := HL.out.frozenAt k
      have hk0 : (0 : Int) ≤ (k : Int) := Int.natCast_nonneg _
      have hk1 : (k : Int) < (N : Int) := by omega
      have HS2 : Hid (St w0 (wr.setCell ⟨g, k, none⟩ (.int .i64 (-1 - (K : Int)))) wb gx gy ev (.slice io K ic) E F) := HS.out.ints (fun T hT => KeepT.set hcur (fun e => hT e.symm) k _) (fun e he => by
        rcases HS.out.iM e he with ⟨hz, h0 | ⟨q, n, cp, cr, hv, hc, hm, hj⟩⟩
        · exact ⟨hz, .inl h0⟩
        · refine ⟨hz, .inr ⟨q, n, cp, cr, hv, (heap_setCell_other wr ⟨g, k, none⟩ q _ (fun e1 => ?_)).trans hc, hm, hj⟩⟩
          have e2 : q = g := e1
          subst e2
          exact HFr.out q rfl e he (own_of_slice hv)) (((Only.refl g wr).set k _).below (by omega))
      have HL2 : Hid ((wr.setCell ⟨g, k, none⟩ (.int .i64 (-1 - (K : Int)))).ownsRow (wb + 1) 3 1 (.slice (some ⟨g, 0, none⟩) N lc) N (ys.set k (.int .i64 (-1 - (K : Int))))) := (HL.out.stored k _).1
      have HY2 : Hid (∀ q, q < k + 1 → (ys.set k (.int .i64 (-1 - (K : Int))))[q]? = some (.int .i64 (-1 - (K : Int)))) := fun q hq => by
        rw [List.getElem?_set]
        by_cases hqk : k = q
        · rw [if_pos hqk, if_pos (by have := HL.out.1; omega)]
        · rw [if_neg hqk]; exact HY.out q (by omega)
      clear HS HL HY hcur hy
      go_wp2_with fail
      go_roundw
      case rel => exact ⟨k + 1, by omega, by go_num, HS2, _, HL2, HY2⟩
      case measure => simp [intOf]; omega
    · have hkN : k = N := by omega
      have hk1 : ¬ (k : Int) < (N : Int) := by omega
      have hys : ys = reps N (inc K) := reps_inc N K ys (by have := HL.out.1; omega) (fun q hq => HY.out q (by omega))
      have HM : Hid (MarkG 3 1 inc wr (.slice lo N lc, (K : Int))) := MarkG.own (b := wb + 1) (by rw [← hys]; exact HL.out) rfl (by omega) ⟨by omega, by omega⟩
      have HC : Hid (Cur 3 1 inc wr wb F (.slice lo N lc) N K) := ⟨by rw [← hys]; exact HL.out, fun e he g n cp hv hq => absurd (own_of_slice hv) (HFr.out g hq e he)⟩
      have c3 := HS.out.box.cell 3 _ rfl
      simp only [List.getElem_toArray, List.getElem_cons_zero, List.getElem_cons_succ] at c3
      have hwb := HS.out.box.lt
      have HO : Hid (World.ownsRow (wr.alloc (.cells #[.slice lo N lc, .int .i64 K] 88)) (wb + 1) 88 2 (.slice io K ic) K (numCells F)) := by
        have := HS.out.ins.alloc (.cells #[.slice lo N lc, .int .i64 K] 88)
        rw [← HK.out] at this
        exact this
      have HN : Hid (BlkAt (wr.alloc (.cells #[.slice lo N lc, .int .i64 K] 88)) wr.heap.size 88 #[.slice lo N lc, .int .i64 K]) := BlkAt.new _ _ rfl _ _
      have HB := HS.out.later ((Below.refl _ _).alloc (Nat.le_refl _) (.cells #[.slice lo N lc, .int .i64 K] 88))
      have HBd : Hid (St _ _ _ _ _ _ _ _ _) := HB
      clear HB HL HY hys hkN
      go_wp2_with (at_builtin; refine wpList_append_own_at _ rfl _ _ 81 rfl (wb + 1) 88 i1 _ 2 32 Tryz.underlying81 hi1 hy0 hy1 hy2 rfl (by decide) _ _ _ rfl HO.out ⟨wr.heap.size, 0, none⟩ 1 1 [.slice lo N lc, .int .i64 K] rfl rfl (two_cells _ _ _ _ _ HN.out) (oneCell_two _ _ _ _) ?c3 ?c4 ?c5 ?_)
      case c3 => unfold maxLen; omega
      case c4 => omega
      case c5 => (try simp); omega
      intro v1 w1 ho hg _ _
      obtain ⟨g1, p1, rfl, _, _⟩ := World.ownsRow.form ho (by omega)
      have hX1 := blk_keepT HBd.out.box (KeepT.grown HO.out (by decide) hg)
      have d3 := hX1.cell 3 _ rfl
      have f3 := hX1.frozen 3
      simp only [List.getElem_toArray, List.getElem_cons_zero, List.getElem_cons_succ] at d3
      have k1 : KeepT 3 wr w1 := (KeepT.alloc _ _ _).trans (KeepT.grown HO.out (by decide) hg)
      have hX2 : KeepT 3 w1 (w1.setCell ⟨wb, 3, none⟩ (.slice (some ⟨g1, 0, none⟩) (K + 1) p1)) := KeepT.set hX1 (by decide) 3 _
      have hS1 := HBd.out.moreI (.slice lo N lc) K g1 p1 (by rw [← HK.out]; exact ho) hg (HM.out.keepT (KeepT.alloc _ _ _))
      rw [← HK.out] at hS1
      have HS1 : Hid (St _ _ _ _ _ _ _ _ _) := hS1
      have HC1 : Hid (Cur _ _ _ _ _ _ _ _ _) := (HC.out.keep (k1.trans hX2)).more
      clear hX1 hX2 k1 ho hg HO HN HBd HC HM HS hS1 c3
      go_wp2_with fail
      go_loopw [1, 6] (fun l i wx => ∃ (j : Nat) (ao : Option Addr) (c : Nat) (jo : Option Addr) (jc : Nat) (G : List (Value × Int)), j ≤ 3 ∧ i = .int .i64 j ∧ l = .slice ao (N + j) c ∧ Hid (G.length = K + 1 + j) ∧ Hid (St w0 wx wb gx gy ev (.slice jo (K + 1 + j) jc) E G) ∧ Hid (Cur 3 1 inc wx wb G (.slice ao (N + j) c) (N + j) K)) (fun _ i _ => 3 - (intOf i).toNat)
      case atStart => exact ⟨0, lo, lc, _, _, _, by omega, rfl, rfl, by show _ = _; simp [← HK.out], HS1, HC1⟩
      case round =>
        clear HS1 HC1 d3 f3 hwb
        obtain ⟨j, ao, c, jo, jc, G, hj, rfl, rfl, HGl, HS, HC⟩ := hrel
        by_cases hlt2 : j < 3
        · have hj1 : (j : Int) < 3 := by omega
          have hwb := HS.out.box.lt
          have HSA : Hid (St w0 (wr.alloc (.cells #[.int .i64 (-1 - (K : Int))] 3)) wb gx gy ev (.slice jo (K + 1 + j) jc) E G) := HS.out.later ((Below.refl _ _).alloc (Nat.le_refl _) _)
          have HCA : Hid (Cur 3 1 inc (wr.alloc (.cells #[.int .i64 (-1 - (K : Int))] 3)) wb G (.slice ao (N + j) c) (N + j) K) := HC.out.keep (KeepT.alloc _ _ _)
          have HNA : Hid (BlkAt (wr.alloc (.cells #[.int .i64 (-1 - (K : Int))] 3)) wr.heap.size 3 #[.int .i64 (-1 - (K : Int))]) := BlkAt.new _ _ rfl _ _
          clear HS HC
          go_wp2_with (at_builtin; refine wpList_append_gen rfl _ _ 69 rfl (wb + 1) 3 i0 (.int .i64 0) 1 8 Tryz.underlying69 hi0 hz0 hz1 hz2 rfl (by decide) _ _ _ rfl HCA.out.own ⟨wr.heap.size, 0, none⟩ 1 (inc K) rfl rfl (one_cell _ _ _ _ HNA.out) (one_one _ rfl) ?d3 ?d4 ?d5 ?_)
          case d3 => unfold maxLen; omega
          case d4 => omega
          case d5 => (try simp); omega
          intro g2 cap2 w2 ho2 hg2 hat2 hk2
          obtain ⟨hC2, hM2⟩ := HCA.out.grow HSA.out.iM (fun _ => rfl) g2 cap2 ho2 hg2 (by simpa using hat2) (by rw [Nat.mul_one]; exact hk2)
          have hS2 := HSA.out.ints (fun T hT => KeepT.grown HCA.out.own (fun e => hT e.symm) hg2) hM2 (grown_below hg2 (by simp; omega) (fun x hx => by have := (HCA.out.own.lt x hx).1; omega))
          have c3 := hS2.box.cell 3 _ rfl
          simp only [List.getElem_toArray, List.getElem_cons_zero, List.getElem_cons_succ] at c3
          have hwb2 := hS2.box.lt
          have HM2 : Hid (MarkG 3 1 inc w2 (.slice (some ⟨g2, 0, none⟩) (N + j + 1) cap2, (K : Int))) := MarkG.own hC2.own rfl (by omega) ⟨by omega, by omega⟩
          have HC2 : Hid (Cur _ _ _ _ _ _ _ _ _) := hC2
          have HO : Hid (World.ownsRow (w2.alloc (.cells #[.slice (some ⟨g2, 0, none⟩) (N + j + 1) cap2, .int .i64 K] 88)) (wb + 1) 88 2 (.slice jo (K + 1 + j) jc) (K + 1 + j) (numCells G)) := by
            have := hS2.ins.alloc (.cells #[.slice (some ⟨g2, 0, none⟩) (N + j + 1) cap2, .int .i64 K] 88)
            rw [HGl.out] at this
            exact this
          have HN : Hid (BlkAt (w2.alloc (.cells #[.slice (some ⟨g2, 0, none⟩) (N + j + 1) cap2, .int .i64 K] 88)) w2.heap.size 88 #[.slice (some ⟨g2, 0, none⟩) (N + j + 1) cap2, .int .i64 K]) := BlkAt.new _ _ rfl _ _
          have HBd : Hid (St _ _ _ _ _ _ _ _ _) := hS2.later ((Below.refl _ _).alloc (Nat.le_refl _) (.cells #[.slice (some ⟨g2, 0, none⟩) (N + j + 1) cap2, .int .i64 K] 88))
          clear hC2 hM2 hS2 ho2 hg2 hat2 hk2 HSA HCA HNA
          go_wp2_with (at_builtin; refine wpList_append_own_at _ rfl _ _ 81 rfl (wb + 1) 88 i1 _ 2 32 Tryz.underlying81 hi1 hy0 hy1 hy2 rfl (by decide) _ _ _ rfl HO.out ⟨w2.heap.size, 0, none⟩ 1 1 [.slice (some ⟨g2, 0, none⟩) (N + j + 1) cap2, .int .i64 K] rfl rfl (two_cells _ _ _ _ _ HN.out) (oneCell_two _ _ _ _) ?e3 ?e4 ?e5 ?_)
          case e3 => unfold maxLen; omega
          case e4 => omega
          case e5 => (try simp); omega
          intro v1 w1 ho hg _ _
          obtain ⟨g3, p3, rfl, _, _⟩ := World.ownsRow.form ho (by omega)
          have hX1 := blk_keepT HBd.out.box (KeepT.grown HO.out (by decide) hg)
          have d3 := hX1.cell 3 _ rfl
          have f3 := hX1.frozen 3
          simp only [List.getElem_toArray, List.getElem_cons_zero, List.getElem_cons_succ] at d3
          have k1 : KeepT 3 w2 w1 := (KeepT.alloc _ _ _).trans (KeepT.grown HO.out (by decide) hg)
          have hX2 : KeepT 3 w1 (w1.setCell ⟨wb, 3, none⟩ (.slice (some ⟨g3, 0, none⟩) (K + 1 + j + 1) p3)) := KeepT.set hX1 (by decide) 3 _
          have hS1 := HBd.out.moreI (.slice (some ⟨g2, 0, none⟩) (N + j + 1) cap2) K g3 p3 (by rw [HGl.out]; exact ho) hg (HM2.out.keepT (KeepT.alloc _ _ _))
          rw [HGl.out] at hS1
          have HS1 : Hid (St _ _ _ _ _ _ _ _ _) := hS1
          have HC1 : Hid (Cur _ _ _ _ _ _ _ _ _) := (HC2.out.keep (k1.trans hX2)).more
          have HG1 : Hid ((G ++ [(Value.slice (some ⟨g2, 0, none⟩) (N + j + 1) cap2, (K : Int))]).length = K + 1 + (j + 1)) := by show _ = _; rw [List.length_append, HGl.out]; simp; omega
          clear hX1 hX2 k1 ho hg HO HN HBd HM2 HC2 hS1 c3
          go_wp2_with fail
          go_roundw
          case rel => exact ⟨j + 1, _, _, _, _, _, by omega, by go_num, rfl, HG1, HS1, HC1⟩
          case measure => simp [intOf]; omega
        · have hj3 : j = 3 := by omega
          have hj1 : ¬ (j : Int) < 3 := by omega
          have HF : Hid (∃ iv' F', St w0 wr wb gx gy ev iv' E F' ∧ F'.length = F.length + 4) := ⟨_, _, HS.out, by rw [HGl.out, ← HK.out]; omega⟩
          clear HS HC HGl
          go_wp2_with fail
          go_end0
          exact ⟨rfl, HF.out⟩
end Go.Proofs.YtoklolfaemhfnaaGreatDoor
