/-
  The walk of the law's handed: a list as a caller hands it in, with two more behind it.
-/
import Derived.Test.YtoklolfaemhfnaaSame
namespace Go.Proofs.Ytoklolfaemhfnaa
open Go.RowKit

theorem made_list (n : Nat) : (madeCells #[Value.int .i64 0] n).toList = List.replicate n (.int .i64 0) := toList_madeCells_one _ _

set_option maxHeartbeats 800000 in
theorem handed_any (lv : Value) (l : List Int) (B : Nat) (w : World) (h : NumsAt w B lv l) (hB : B ≤ w.heap.size) (hlen : l.length ≤ 17592186043904) :
    Calls Try.prog 23 #[lv] w fun e w' => e = .returned (.slice (some ⟨w.heap.size, 0, none⟩) (l.length + 2) (l.length + 2)) ∧ BlkAt w' w.heap.size 3 (ints (l ++ [-77, -77])).toArray ∧ Below w.heap.size w w' := by
  obtain ⟨i0, hi, hz0, hz1, hz2⟩ := info_parts info3
  obtain ⟨ao, n, c, rfl⟩ := h.form
  obtain ⟨rfl, ent⟩ := h.entry
  have hsz : (Try.prog.info? 3).map (·.size) = some 1 := by rw [hi]; simp [hz1]
  obtain ⟨M, hM⟩ : ∃ M, M = List.replicate (l.length + 2) (Value.int .i64 0) := ⟨_, rfl⟩
  have hmk : ∀ u : World, (Instr.makeSlice 25 (.int .i64 ((l.length : Int) + 2)) (.int .i64 ((l.length : Int) + 2))).run Try.prog u =
      .ok (.slice (some ⟨u.heap.size, 0, none⟩) (l.length + 2) (l.length + 2)) (u.alloc (.cells M.toArray 3)) := fun u => by
    have h := run_make (P := Try.prog) u 25 3 i0 (.int .i64 0) Try.underlying25 hi hz0 .i64 .i64 ((l.length : Int) + 2) ((l.length : Int) + 2) (by omega) (Int.le_refl _) (by rw [hz2]; omega) (by omega)
    have e : ((l.length : Int) + 2).toNat = l.length + 2 := by omega
    rw [e] at h
    have e2 : madeCells (Value.int .i64 0).cells ((l.length + 2) * i0.size) = M.toArray := by
      rw [hM, hz1, Nat.mul_one]
      apply Array.ext'
      rw [show (Value.int .i64 0).cells = #[Value.int .i64 0] from rfl, made_list]
    rw [e2] at h
    exact h
  have hMl : M.length = l.length + 2 := by rw [hM]; simp
  have HM : Hid (M = List.replicate (l.length + 2) (Value.int .i64 0)) := hM
  clear hM
  have HE : Hid (0 < (ints l).length → (some (⟨w.heap.size, 0, none⟩ : Addr)) = some ⟨w.heap.size, 0, none⟩ ∧ ∃ ad, ao = some ad ∧ ∀ j v, (ints l)[j]? = some v → (w.alloc (.cells M.toArray 3)).cell? (ad.add j) = some v) := by
    intro hp
    rw [ints_length] at hp
    obtain ⟨b, off, rfl, hb, _⟩ := ent 0 hp
    refine ⟨rfl, _, rfl, fun j v hj => ?_⟩
    have hjl : j < l.length := by have := (List.getElem?_eq_some_iff.1 hj).1; rwa [ints_length] at this
    obtain ⟨b', off', e, hb', hc⟩ := ent j hjl
    simp at e
    obtain ⟨rfl, rfl⟩ := e
    have e2 : (ints l)[j]? = some (.int .i64 (l.getD j 0)) := by
      rw [ints, List.getElem?_map, List.getElem?_eq_getElem hjl, List.getD_eq_getElem?_getD, List.getElem?_eq_getElem hjl]; rfl
    rw [e2] at hj
    injection hj with hj
    subst hj
    have hq : (w.alloc (.cells M.toArray 3)).cell? ⟨b, off + j, none⟩ = w.cell? ⟨b, off + j, none⟩ := World.cell?_of_block (Below.heap_alloc _ _ _ (show b < w.heap.size by omega))
    rw [show (⟨b, off, none⟩ : Addr).add j = ⟨b, off + j, none⟩ from by simp [Addr.add]]
    exact hq.trans hc
  have HG : Hid ((w.alloc (.cells M.toArray 3)).heap[w.heap.size]? = some (.cells M.toArray 3 (0, 0))) := heap_alloc_new w _
  have HB0 : Hid (Below w.heap.size w (w.alloc (.cells M.toArray 3))) := (Below.refl _ _).alloc (Nat.le_refl _) _
  clear h ent
  go_enter Try.func23, Try.ntmps23
  go_wp2_with (refine wpList_copy_splice rfl _ _ 25 25 rfl 3 Try.underlying25 hsz _ _ _ _ _ _ (by rfl) (by rfl) w.heap.size 0 M 3 HG.out (ints l) ?c1 HE.out ?c2 ?c3 w.heap.size w HB0.out (Nat.le_refl _) ?_)
  case c1 => rw [ints_length]
  case c2 => rw [ints_length]; omega
  case c3 => intro v hv; simp [ints] at hv; obtain ⟨x, _, rfl⟩ := hv; rfl
  intro w1 hg1 hb1
  have e1 : splice M 0 (ints l) = ints l ++ [.int .i64 0, .int .i64 0] := by
    rw [HM.out, splice, List.take_zero, List.nil_append, Nat.zero_add, ints_length, List.drop_replicate, show l.length + 2 - l.length = 2 from by omega]
    rfl
  have V1 : BlkAt w1 w.heap.size 3 (ints l ++ [Value.int .i64 0, Value.int .i64 0]).toArray := by unfold BlkAt; rw [← e1]; exact hg1.out
  clear hg1 e1
  have c0 := V1.cell l.length (.int .i64 0) (by simp [← ints_length l])
  have f0 := V1.frozen l.length
  have c1 := V1.cell (l.length + 1) (.int .i64 0) (by simp [← ints_length l])
  have f1 := V1.frozen (l.length + 1)
  have V2 : Hid (BlkAt ((w1.setCell ⟨w.heap.size, l.length, none⟩ (.int .i64 (-77))).setCell ⟨w.heap.size, l.length + 1, none⟩ (.int .i64 (-77))) w.heap.size 3 (ints (l ++ [-77, -77])).toArray) := by
    have := (V1.set l.length (.int .i64 (-77))).set (l.length + 1) (.int .i64 (-77))
    have e : (((ints l ++ [Value.int .i64 0, Value.int .i64 0]).toArray.setIfInBounds l.length (.int .i64 (-77))).setIfInBounds (l.length + 1) (.int .i64 (-77))) = (ints (l ++ [-77, -77])).toArray := by
      have hl : (ints l).length = l.length := ints_length l
      simp only [List.setIfInBounds_toArray]
      congr 1
      rw [List.set_append_right _ _ (by omega), List.set_append_right _ _ (by omega), hl]
      simp [ints]
    rw [e] at this
    exact this
  have HB1 : Hid (Below _ _ _) := (hb1.setCell (p := ⟨w.heap.size, l.length, none⟩) (Nat.le_refl _) (.int .i64 (-77))).setCell (p := ⟨w.heap.size, l.length + 1, none⟩) (Nat.le_refl _) (.int .i64 (-77))
  clear V1 hb1
  go_wp2
  go_ret
  exact ⟨rfl, V2.out, HB1.out⟩
end Go.Proofs.Ytoklolfaemhfnaa
