/-
  For the walk of the law News: New of the document's answer.
-/
import Derived.Test.YtoklolfaemhfnaaGreatDoorNwH
namespace Go.Proofs.YtoklolfaemhfnaaGreatDoor
open Go.RowKit

theorem grown_below {w w' : World} {row : Option Nat} (h : w.grownBy w' row) {B : Nat} (hB : B ≤ w.heap.size) (hr : ∀ g, row = some g → B ≤ g) : Below B w w' :=
  ⟨h.os, h.tape, h.output, h.size, fun b hb => h.block b (by omega) (fun e => by have := hr b e.symm; omega)⟩
theorem one_one (v : Value) (h : v.oneCell' = true) : ∀ u ∈ [v], u.oneCell' = true := by intro u hu; simp at hu; subst hu; exact h
theorem one_cell (w : World) (X : Nat) (T : TypeId) (v : Value) (h : BlkAt w X T #[v]) : ∀ j u, [v][j]? = some u → w.cell? ((⟨X, 0, none⟩ : Addr).add j) = some u := by
  intro j u hj
  match j, hj with
  | 0, hj =>
    simp at hj
    subst hj
    rw [add0]
    exact h.cell 0 _ rfl

set_option maxHeartbeats 800000 in
theorem blank_any (n : Nat) (w : World) (hn : n ≤ 6) : Calls Tryz.prog 77 #[.int .i64 n] w fun e w' => (∃ v, e = .returned v ∧ ∃ ao c, v = .slice ao n c) ∧ Below w.heap.size w w' := by
  obtain ⟨i0, hi, hz0, hz1, hz2⟩ := info_parts infoInts
  have hmk := mk_ints n hn
  go_enter Tryz.func77, Tryz.ntmps77
  go_wp2
  go_loopw [3, 4] (fun l i wr => ∃ k : Nat, k ≤ n ∧ i = .int .i64 k ∧ Below w.heap.size w wr ∧ ∃ ao c xs, l = .slice ao k c ∧ wr.ownsRow w.heap.size 69 1 (.slice ao k c) k xs) (fun _ i _ => n - (intOf i).toNat)
  case atStart => exact ⟨0, by omega, rfl, Below.refl _ _, none, 0, [], rfl, World.ownsRow_nil _ _ _ _⟩
  case round =>
    obtain ⟨k, hk, rfl, hbel, ao, c, xs, rfl, hown⟩ := hrel
    have hsz := hbel.size
    by_cases hlt : k < n
    · have hk1 : (k : Int) < (n : Int) := by omega
      have HO : Hid (((wr.alloc (.cells (ints (List.replicate n 0)).toArray 3)).alloc (.cells #[.slice (some ⟨wr.heap.size, 0, none⟩) n n] 69)).ownsRow w.heap.size 69 1 (.slice ao k c) k xs) := (hown.alloc _).alloc _
      have HN : Hid (BlkAt ((wr.alloc (.cells (ints (List.replicate n 0)).toArray 3)).alloc (.cells #[.slice (some ⟨wr.heap.size, 0, none⟩) n n] 69)) (wr.heap.size + 1) 69 #[.slice (some ⟨wr.heap.size, 0, none⟩) n n]) := BlkAt.new _ _ (by simp) _ _
      have HB : Hid (Below w.heap.size w ((wr.alloc (.cells (ints (List.replicate n 0)).toArray 3)).alloc (.cells #[.slice (some ⟨wr.heap.size, 0, none⟩) n n] 69))) := (hbel.alloc (by omega) _).alloc (by simp; omega) _
      clear hown hbel
      go_wp2_with (at_builtin; refine wpList_append_own_at _ rfl _ _ 121 rfl w.heap.size 69 i0 (.slice none 0 0) 1 24 Tryz.underlying121 hi hz0 hz1 hz2 rfl (by decide) _ _ _ rfl HO.out ⟨wr.heap.size + 1, 0, none⟩ 1 1 [.slice (some ⟨wr.heap.size, 0, none⟩) n n] rfl rfl (one_cell _ _ _ _ HN.out) (one_one _ rfl) ?c3 ?c4 ?c5 ?_)
      case c3 => unfold maxLen; omega
      case c4 => omega
      case c5 => simp; omega
      intro v w2 ho hg _ _
      obtain ⟨g, cap, rfl, _, _⟩ := World.ownsRow.form ho (by omega)
      have HF : Hid (Below w.heap.size w w2) := HB.out.trans (grown_below hg (by simp; omega) (fun x hx => (HO.out.lt x hx).1))
      have HO2 : Hid (w2.ownsRow w.heap.size 69 1 _ _ _) := ho
      clear ho hg HO HN HB
      go_wp2_with fail
      go_roundw
      case rel => exact ⟨k + 1, by omega, by go_num, HF.out, _, _, _, rfl, HO2.out⟩
      case measure => simp [intOf]; omega
    · have hk1 : ¬ (k : Int) < (n : Int) := by omega
      have hkn : k = n := by omega
      subst hkn
      clear hown
      go_wp2
      go_ret
      exact ⟨⟨_, rfl, ao, c, rfl⟩, hbel⟩
end Go.Proofs.YtoklolfaemhfnaaGreatDoor
