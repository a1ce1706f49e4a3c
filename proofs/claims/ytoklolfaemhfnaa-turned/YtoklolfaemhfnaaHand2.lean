/-
  The walk of the law's handed, with the world behind it written out.
-/
import Derived.Test.YtoklolfaemhfnaaHand
namespace Go.Proofs.Ytoklolfaemhfnaa
open Go.RowKit

theorem setRow_alloc (w : World) (c c' : Array Value) (t : TypeId) : (w.alloc (.cells c t)).setRow w.heap.size c' = w.alloc (.cells c' t) := by
  have e : (w.heap.push (.cells c t)).modify w.heap.size (fun | .cells _ elem frozen => .cells c' elem frozen | o => o) = w.heap.push (.cells c' t) := by
    apply Array.ext
    · simp
    · intro i h1 h2
      rw [Array.getElem_modify]
      by_cases hi : w.heap.size = i
      · subst hi; simp
      · rw [if_neg hi]
        have : i < w.heap.size := by simp at h1; omega
        rw [Array.getElem_push_lt this, Array.getElem_push_lt this]
  show ({ w.alloc (.cells c t) with heap := _ } : World) = _
  exact congrArg (fun h => ({ w with heap := h } : World)) e

theorem at_world {p : World → Prop} (W : World) (h : ∀ w1, Hid (w1 = W) → p w1) : p W := h W rfl

set_option maxHeartbeats 800000 in
theorem handed_at (lv : Value) (l : List Int) (B : Nat) (w : World) (h : NumsAt w B lv l) (hB : B ≤ w.heap.size) (hlen : l.length ≤ 17592186043904) :
    Calls Try.prog 23 #[lv] w fun e w' => e = .returned (.slice (some ⟨w.heap.size, 0, none⟩) (l.length + 2) (l.length + 2)) ∧ w' = w.alloc (.cells (ints (l ++ [-77, -77])).toArray 3) := by
  obtain ⟨i0, hi, hz0, hz1, hz2⟩ := info_parts info3
  obtain ⟨ao, n, c, rfl⟩ := h.form
  obtain ⟨rfl, ent⟩ := h.entry
  have hsz : (Try.prog.info? 3).map (·.size) = some 1 := by rw [hi]; simp [hz1]
  obtain ⟨M, hM⟩ : ∃ M, M = List.replicate (l.length + 2) (Value.int .i64 0) := ⟨_, rfl⟩
  have hmk : ∀ u : World, (Instr.makeSlice 25 (.int .i64 ((l.length : Int) + 2)) (.int .i64 ((l.length : Int) + 2))).run Try.prog u =
      .ok (.slice (some ⟨u.heap.size, 0, none⟩) (l.length + 2) (l.length + 2)) (u.alloc (.cells M.toArray 3)) := fun u => by
    have h := run_make (P := Try.prog) u 25 3 i0 (.int .i64 0) Try.underlying25 hi hz0 .i64 .i64 ((l.length : Int) + 2) ((l.length : Int) + 2) (by omega) (Int.le_refl _) (by rw [hz2]; omega) (by omega)
    have e : ((l.length : Int) + 2).toNat = l.length + 2 := by omega
    rw [e] at h
    have e2 : madeCells (Value.int .i64 0).cells ((l.length + 2) * i0.size) = M.toArray := by
      rw [hM, hz1, Nat.mul_one]
      apply Array.ext'
      rw [show (Value.int .i64 0).cells = #[Value.int .i64 0] from rfl, made_list]
    rw [e2] at h
    exact h
  have hMl : M.length = l.length + 2 := by rw [hM]; simp
  have HM : Hid (M = List.replicate (l.length + 2) (Value.int .i64 0)) := hM
  clear hM
  have HG : Hid ((w.alloc (.cells M.toArray 3)).heap[w.heap.size]? = some (.cells M.toArray 3 (0, 0))) := heap_alloc_new w _
  have fin : ∀ (Y : Array Value), Y = (ints l ++ [Value.int .i64 0, Value.int .i64 0]).toArray → ((w.alloc (.cells Y 3)).setCell ⟨w.heap.size, l.length, none⟩ (.int .i64 (-77))).setCell ⟨w.heap.size, l.length + 1, none⟩ (.int .i64 (-77)) = w.alloc (.cells (ints (l ++ [-77, -77])).toArray 3) := by
    intro Y hY
    rw [World.setCell_alloc_at _ _ _ _ _ rfl, World.setCell_alloc_at _ _ _ _ _ rfl, hY]
    have e : (((ints l ++ [Value.int .i64 0, Value.int .i64 0]).toArray.setIfInBounds l.length (.int .i64 (-77))).setIfInBounds (l.length + 1) (.int .i64 (-77))) = (ints (l ++ [-77, -77])).toArray := by
      have hl : (ints l).length = l.length := ints_length l
      simp only [List.setIfInBounds_toArray]
      congr 1
      rw [List.set_append_right _ _ (by omega), List.set_append_right _ _ (by omega), hl]
      simp [ints]
    rw [e]
  have HFin : Hid (∀ (Y : Array Value), Y = (ints l ++ [Value.int .i64 0, Value.int .i64 0]).toArray → ((w.alloc (.cells Y 3)).setCell ⟨w.heap.size, l.length, none⟩ (.int .i64 (-77))).setCell ⟨w.heap.size, l.length + 1, none⟩ (.int .i64 (-77)) = w.alloc (.cells (ints (l ++ [-77, -77])).toArray 3)) := fin
  clear fin
  have go : ∀ (Y : Array Value), Y = (ints l ++ [Value.int .i64 0, Value.int .i64 0]).toArray → BlkAt (w.alloc (.cells Y 3)) w.heap.size 3 (ints l ++ [Value.int .i64 0, Value.int .i64 0]).toArray := by
    intro Y hY; rw [hY]; exact BlkAt.new w w.heap.size rfl 3 _
  have HGo : Hid (∀ (Y : Array Value), Y = (ints l ++ [Value.int .i64 0, Value.int .i64 0]).toArray → BlkAt (w.alloc (.cells Y 3)) w.heap.size 3 (ints l ++ [Value.int .i64 0, Value.int .i64 0]).toArray) := go
  clear go
  by_cases h0 : l.length = 0
  · have hl0 : l = [] := List.eq_nil_of_length_eq_zero h0
    have hMY : M.toArray = (ints l ++ [Value.int .i64 0, Value.int .i64 0]).toArray := by rw [HM.out, hl0]; rfl
    have V1 := HGo.out _ hMY
    have HF : Hid (_ = _) := HFin.out _ hMY
    have H0 : Hid (l.length = 0) := h0
    clear hMY hl0 h ent h0
    go_enter Try.func23, Try.ntmps23
    go_wp2_with (refine wpList_copy_nothing rfl _ _ 25 25 rfl 3 Try.underlying25 hsz _ _ _ _ _ _ (by rfl) (by rfl) ?c1 (at_world _ ?_))
    case c1 => have := H0.out; show min _ _ = 0; omega
    intro w1 hw1
    rw [← hw1.out] at V1 HF
    have c0 := V1.cell l.length (.int .i64 0) (by simp [← ints_length l])
    have f0 := V1.frozen l.length
    have c1 := V1.cell (l.length + 1) (.int .i64 0) (by simp [← ints_length l])
    have f1 := V1.frozen (l.length + 1)
    clear V1
    go_wp2
    go_ret
    exact ⟨rfl, HF.out⟩
  · obtain ⟨b, off, hao, hb, _⟩ := ent 0 (by omega)
    subst hao
    have HE : Hid (∀ j v, (ints l)[j]? = some v → (w.alloc (.cells M.toArray 3)).cell? ((⟨b, off, none⟩ : Addr).add j) = some v) := by
      intro j v hj
      have hjl : j < l.length := by have := (List.getElem?_eq_some_iff.1 hj).1; rwa [ints_length] at this
      obtain ⟨b', off', e, hb', hc⟩ := ent j hjl
      simp at e
      obtain ⟨rfl, rfl⟩ := e
      have e2 : (ints l)[j]? = some (.int .i64 (l.getD j 0)) := by
        rw [ints, List.getElem?_map, List.getElem?_eq_getElem hjl, List.getD_eq_getElem?_getD, List.getElem?_eq_getElem hjl]; rfl
      rw [e2] at hj
      injection hj with hj
      subst hj
      have hq : (w.alloc (.cells M.toArray 3)).cell? ⟨b, off + j, none⟩ = w.cell? ⟨b, off + j, none⟩ := World.cell?_of_block (Below.heap_alloc _ _ _ (show b < w.heap.size by omega))
      rw [show (⟨b, off, none⟩ : Addr).add j = ⟨b, off + j, none⟩ from by simp [Addr.add]]
      exact hq.trans hc
    have hMY : (ints l ++ M.drop (ints l).length).toArray = (ints l ++ [Value.int .i64 0, Value.int .i64 0]).toArray := by
      rw [HM.out, ints_length, List.drop_replicate, show l.length + 2 - l.length = 2 from by omega]
      rfl
    have HS : Hid ((w.alloc (.cells M.toArray 3)).setRow w.heap.size (ints l ++ M.drop (ints l).length).toArray = w.alloc (.cells (ints l ++ M.drop (ints l).length).toArray 3)) := setRow_alloc w _ _ 3
    have V1 := HGo.out _ hMY
    have HF : Hid (_ = _) := HFin.out _ hMY
    clear hMY h ent
    go_enter Try.func23, Try.ntmps23
    go_wp2_with (refine wpList_copy_own rfl _ _ 25 25 rfl 3 Try.underlying25 hsz w.heap.size 0 _ _ ⟨b, off, none⟩ _ _ (by rfl) (by rfl) M.toArray 3 HG.out (ints l) ?c1 HE.out ?c2 ?c3 (at_world _ ?_))
    case c1 => rw [ints_length]; show _ = min _ _; omega
    case c2 => rw [ints_length]; simp; omega
    case c3 => intro v hv; simp [ints] at hv; obtain ⟨x, _, rfl⟩ := hv; rfl
    intro w1 hw1
    rw [HS.out] at hw1
    rw [← hw1.out] at V1 HF
    have c0 := V1.cell l.length (.int .i64 0) (by simp [← ints_length l])
    have f0 := V1.frozen l.length
    have c1 := V1.cell (l.length + 1) (.int .i64 0) (by simp [← ints_length l])
    have f1 := V1.frozen (l.length + 1)
    clear V1
    go_wp2
    go_ret
    exact ⟨rfl, HF.out⟩
end Go.Proofs.Ytoklolfaemhfnaa
