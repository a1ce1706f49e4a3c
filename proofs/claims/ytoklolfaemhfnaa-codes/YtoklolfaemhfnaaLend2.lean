/-
  What lend leaves reads as the frame that came in.
-/
import Derived.Test.YtoklolfaemhfnaaLend
namespace Go.Proofs.Ytoklolfaemhfnaa
open Go.RowKit

theorem nums_of_blk {w : World} {g c : Nat} {l t : List Int} (h : BlkAt w g 3 (ints (l ++ t)).toArray) : NumsAt w w.heap.size (.slice (some ⟨g, 0, none⟩) l.length c) l := by
  refine .inr ⟨g, 0, c, rfl, h.lt, fun j hj => ?_⟩
  refine h.cell (0 + j) _ ?_
  rw [Nat.zero_add]
  simp [ints]
  rw [List.getElem?_append_left (by simpa using hj)]
  simp [List.getElem?_eq_getElem hj]

theorem tVals_at (ms : List Codec.Msg) : ∀ (gs : List Nat) (j : Nat) (m : Codec.Msg) (g : Nat), ms[j]? = some m → gs[j]? = some g → (tVals ms gs)[j]? = some (.slice (some ⟨g, 0, none⟩) m.time.length (m.time.length + 2)) := by
  induction ms with
  | nil => intro gs j m g h; simp at h
  | cons x ms ih =>
    intro gs j m g h1 h2
    cases gs with
    | nil => simp at h2
    | cons y gs =>
      cases j with
      | zero => simp at h1 h2; subst h1 h2; simp [tVals]
      | succ j => simp at h1 h2; simpa [tVals] using ih gs j m g h1 h2

theorem Lent.msgsAt {w : World} {base : Nat} {f : Codec.Frame} {gr gc g7 p7 : Nat} {tv : Value} {gs : List Nat} (h : Lent w base f gr gc g7 p7 tv gs) : MsgsAt w w.heap.size (.slice (some ⟨g7, 0, none⟩) f.msgs.length p7) f.msgs := by
  refine .inr ⟨g7, 0, p7, rfl, (h.msgs.lt g7 rfl).2, fun j m hj => ?_⟩
  have hjl := (List.getElem?_eq_some_iff.1 hj).1
  have hg : gs[j]? = some (gs[j]'(by have := h.len; omega)) := List.getElem?_eq_getElem (by have := h.len; omega)
  have hc := msgCells_at f.msgs (tVals f.msgs gs) j m _ hj (tVals_at _ _ _ _ _ hj hg)
  have hlen := msgCells_length f.msgs (tVals f.msgs gs) (tVals_length _ _ h.len)
  have hcell : ∀ q, q < 4 → w.cell? ⟨g7, 0 + j * 4 + q, none⟩ = (msgCells f.msgs (tVals f.msgs gs))[j * 4 + q]? := fun q hq => by
    rw [Nat.zero_add, h.msgs.cellAt (j * 4 + q) (by omega), List.getElem?_append_left (by omega)]
  have c0 := hcell 0 (by omega)
  simp only [Nat.add_zero] at c0
  exact ⟨_, c0.trans hc.1, (hcell 1 (by omega)).trans hc.2.1, (hcell 2 (by omega)).trans hc.2.2.1, (hcell 3 (by omega)).trans hc.2.2.2, nums_of_blk (h.each j m _ hj hg)⟩

theorem Lent.rowAt {w : World} {base : Nat} {f : Codec.Frame} {gr gc g7 p7 : Nat} {tv : Value} {gs : List Nat} (h : Lent w base f gr gc g7 p7 tv gs) : NumsAt w w.heap.size (.slice (some ⟨gr, 0, none⟩) f.row.length (f.row.length + 2)) f.row := nums_of_blk h.row
theorem Lent.cutAt {w : World} {base : Nat} {f : Codec.Frame} {gr gc g7 p7 : Nat} {tv : Value} {gs : List Nat} (h : Lent w base f gr gc g7 p7 tv gs) : NumsAt w w.heap.size (.slice (some ⟨gc, 0, none⟩) f.cut.length (f.cut.length + 2)) f.cut := nums_of_blk h.cut
/-- A later world that keeps what was there keeps what was lent. -/
theorem Lent.later {w w' : World} {base : Nat} {f : Codec.Frame} {gr gc g7 p7 : Nat} {tv : Value} {gs : List Nat} (h : Lent w base f gr gc g7 p7 tv gs) (hb : Below w.heap.size w w') : Lent w' base f gr gc g7 p7 tv gs :=
  ⟨h.row.below hb h.row.lt, h.cut.below hb h.cut.lt, h.len, ownsRow_later h.times hb, ownsRow_later h.msgs hb, fun j m g hj hg => (h.each j m g hj hg).below hb (h.each j m g hj hg).lt⟩
end Go.Proofs.Ytoklolfaemhfnaa
