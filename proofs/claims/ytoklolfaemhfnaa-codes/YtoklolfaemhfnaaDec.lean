/-
  The walk of wire.Decode: of bytes that are a frame's that frame and OK, its lists in memory of their own; of all others the frame of noughts and ErrFrame.
-/
import Derived.Test.YtoklolfaemhfnaaFrame
namespace Go.Proofs.Ytoklolfaemhfnaa
open Go.RowKit

theorem nums_of_own {w : World} {base n : Nat} {v : Value} {l : List Int} (h : w.ownsRow base 3 1 v n (ints l)) : NumsAt w w.heap.size v l := by
  have hn : l.length = n := by have := h.1; rw [ints_length] at this; omega
  rcases h.2 with ⟨hv, h0⟩ | ⟨g, cap, cur, hv, hb, hg, _⟩
  · exact .inl ⟨⟨_, _, hv⟩, List.eq_nil_of_length_eq_zero (by omega)⟩
  · refine .inr ⟨g, 0, cap, by rw [hv, hn], (h.lt g (by rw [hv]; rfl)).2, fun j hj => ?_⟩
    rw [Nat.zero_add]
    subst hv
    exact own_cell h hn j (by omega)

theorem msgCells_length (ms : List Codec.Msg) : ∀ tvs : List Value, tvs.length = ms.length → (msgCells ms tvs).length = 4 * ms.length := by
  induction ms with
  | nil => intro tvs h; simp [msgCells]
  | cons m ms ih =>
    intro tvs h
    cases tvs with
    | nil => simp at h
    | cons t tvs => simp [msgCells, ih tvs (by simpa using h)]; omega
theorem msgCells_at (ms : List Codec.Msg) : ∀ (tvs : List Value) (j : Nat) (m : Codec.Msg) (tv : Value), ms[j]? = some m → tvs[j]? = some tv →
    (msgCells ms tvs)[j * 4]? = some (.int .i64 m.sender) ∧ (msgCells ms tvs)[j * 4 + 1]? = some (.int .i64 m.seq) ∧ (msgCells ms tvs)[j * 4 + 2]? = some tv ∧ (msgCells ms tvs)[j * 4 + 3]? = some (.string m.text) := by
  induction ms with
  | nil => intro tvs j m tv h; simp at h
  | cons x ms ih =>
    intro tvs j m tv h1 h2
    cases tvs with
    | nil => simp at h2
    | cons t tvs =>
      cases j with
      | zero => simp at h1 h2; subst h1 h2; simp [msgCells]
      | succ j =>
        simp at h1 h2
        have := ih tvs j m tv h1 h2
        have e : ∀ q, (msgCells (x :: ms) (t :: tvs))[(j + 1) * 4 + q]? = (msgCells ms tvs)[j * 4 + q]? := by
          intro q
          rw [show (j + 1) * 4 + q = 4 + (j * 4 + q) from by omega, msgCells, List.getElem?_append_right (by simp)]
          simp
        have e0 := e 0
        simp only [Nat.add_zero] at e0
        rw [e0, e 1, e 2, e 3]
        exact this

theorem msgs_of_own {w : World} {base : Nat} {v : Value} {ms : List Codec.Msg} {tvs : List Value} (h : MsgsOwn w base v ms tvs) : MsgsAt w w.heap.size v ms := by
  obtain ⟨hl, hM, hT⟩ := h
  rcases hM.2 with ⟨hv, h0⟩ | ⟨g, cap, cur, hv, hb, hg, _⟩
  · exact .inl ⟨⟨_, _, hv⟩, List.eq_nil_of_length_eq_zero h0⟩
  · refine .inr ⟨g, 0, cap, hv, (hM.lt g (by rw [hv]; rfl)).2, fun j m hj => ?_⟩
    have hjl := (List.getElem?_eq_some_iff.1 hj).1
    have ht : tvs[j]? = some (tvs[j]'(by omega)) := List.getElem?_eq_getElem (by omega)
    refine ⟨tvs[j]'(by omega), ?_⟩
    have hc := msgCells_at ms tvs j m _ hj ht
    subst hv
    have hcell : ∀ q, q < 4 → w.cell? ⟨g, 0 + j * 4 + q, none⟩ = (msgCells ms tvs)[j * 4 + q]? := fun q hq => by
      rw [Nat.zero_add]; exact hM.cellAt (j * 4 + q) (by omega)
    have c0 := hcell 0 (by omega)
    simp only [Nat.add_zero] at c0
    exact ⟨c0.trans hc.1, (hcell 1 (by omega)).trans hc.2.1, (hcell 2 (by omega)).trans hc.2.2.1, (hcell 3 (by omega)).trans hc.2.2.2, nums_of_own (hT j m _ hj ht)⟩

theorem ownsRow_later {w w' : World} {base n sz : Nat} {e : TypeId} {v : Value} {xs : List Value} (h : w.ownsRow base e sz v n xs) (hb : Below w.heap.size w w') : w'.ownsRow base e sz v n xs := by
  have hg : w.grownBy w' none := ⟨hb.os, hb.tape, hb.output, hb.size, fun k hk _ => hb.block k hk⟩
  refine h.kept hg ?_
  rcases v.ownBlock with _ | g
  · exact .inl rfl
  · right; simp
theorem FrameOwn.later {w w' : World} {base : Nat} {f : Codec.Frame} {rv cv mv : Value} {tvs : List Value} (h : FrameOwn w base f rv cv mv tvs) (hb : Below w.heap.size w w') : FrameOwn w' base f rv cv mv tvs :=
  ⟨ownsRow_later h.row hb, ownsRow_later h.cut hb, ⟨h.msgs.1, ownsRow_later h.msgs.2.1 hb, fun k m tv hk ht => ownsRow_later (h.msgs.2.2 k m tv hk ht) hb⟩, h.apart⟩
theorem FrameOwn.setBelow {w : World} {base : Nat} {f : Codec.Frame} {rv cv mv : Value} {tvs : List Value} (h : FrameOwn w base f rv cv mv tvs) {a : Addr} (ha : a.block < base) (u : Value) : FrameOwn (w.setCell a u) base f rv cv mv tvs :=
  ⟨ownsRow_setCell_below h.row ha u, ownsRow_setCell_below h.cut ha u, ⟨h.msgs.1, ownsRow_setCell_below h.msgs.2.1 ha u, fun k m tv hk ht => ownsRow_setCell_below (h.msgs.2.2 k m tv hk ht) ha u⟩, h.apart⟩
theorem FrameOwn.base {w : World} {base base' : Nat} {f : Codec.Frame} {rv cv mv : Value} {tvs : List Value} (h : FrameOwn w base f rv cv mv tvs) (hb : base' ≤ base) : FrameOwn w base' f rv cv mv tvs :=
  ⟨ownsRow_base h.row hb, ownsRow_base h.cut hb, ⟨h.msgs.1, ownsRow_base h.msgs.2.1 hb, fun k m tv hk ht => ownsRow_base (h.msgs.2.2 k m tv hk ht) hb⟩, h.apart⟩

set_option maxHeartbeats 2000000 in
theorem decode_yes (s : List UInt8) (f : Codec.Frame) (l2 : List UInt8) (w : World) (hl : s.length ≤ 140737488351232) (hfl : Codec.frame s = (f, l2)) (hfit : Codec.fits f = true) (henc : Codec.encB f = s) :
    Calls Try.prog 14 #[.string ⟨s.toArray⟩] w fun e w' => ∃ rv cv mv tvs, e = .returned (.tuple #[.agg #[.int .i64 f.kind, .int .i64 f.src, .int .i64 f.dst, .int .i64 f.members, .int .i64 f.view, .int .i64 f.ballot, .int .i64 f.voted, rv, cv, mv], .int .i64 0]) ∧
      FrameOwn w' w.heap.size f rv cv mv tvs ∧ Below w.heap.size w w' := by
  have HFL : Hid (_ = _) := hfl
  have HE : Hid (_ = _) := henc
  clear hfl henc
  go_enter Try.func14, Try.ntmps14
  go_wp2_with fail
  have RA : RdAt ((w.alloc (.cells #[.int .i64 0, .int .i64 0, .int .i64 0, .int .i64 0, .int .i64 0, .int .i64 0, .int .i64 0, .slice none 0 0, .slice none 0 0, .slice none 0 0] 28)).alloc (.cells #[.string ⟨s.toArray⟩] 58)) (w.heap.size + 1) s := by
    have V0 := BlkAt.new (w.alloc (.cells #[.int .i64 0, .int .i64 0, .int .i64 0, .int .i64 0, .int .i64 0, .int .i64 0, .int .i64 0, .slice none 0 0, .slice none 0 0, .slice none 0 0] 28)) (w.heap.size + 1) (by simp) 58 #[.string ⟨s.toArray⟩]
    exact ⟨V0.cell 0 _ rfl, V0.frozen 0⟩
  have D0 := (BlkAt.new w w.heap.size rfl 28 #[.int .i64 0, .int .i64 0, .int .i64 0, .int .i64 0, .int .i64 0, .int .i64 0, .int .i64 0, .slice none 0 0, .slice none 0 0, .slice none 0 0]).alloc (.cells #[.string ⟨s.toArray⟩] 58)
  refine (frame_any s l2 f (w.heap.size + 1) _ HFL.out RA hl).mono ?_
  rintro e w1 ⟨rv, cv, mv, tvs, rfl, FO, r1⟩
  have D1 := D0.rd r1 (by omega)
  have s1 := r1.size
  simp at s1
  have b1 : Below w.heap.size w w1 := (((Below.refl w.heap.size w).alloc (Nat.le_refl _) _).alloc (by simp) _).trans (r1.below (by simp; omega) (by omega))
  replace FO := FO.base (base' := w.heap.size + 2) (by simp)
  clear RA D0 r1
  obtain ⟨ro, rn, rc, rfl⟩ := ownsRow_form FO.row
  obtain ⟨co, cn, cc, rfl⟩ := ownsRow_form FO.cut
  obtain ⟨mo, mn, mc, rfl⟩ := ownsRow_form FO.msgs.2.1
  have N1 := nums_of_own FO.row
  have N2 := nums_of_own FO.cut
  have N3 := msgs_of_own FO.msgs
  have bo : Below w1.heap.size w1 (w1.alloc (.cells #[.int .i64 f.kind, .int .i64 f.src, .int .i64 f.dst, .int .i64 f.members, .int .i64 f.view, .int .i64 f.ballot, .int .i64 f.voted, .slice ro rn rc, .slice co cn cc, .slice mo mn mc] 28)) := (Below.refl _ _).alloc (Nat.le_refl _) _
  have F1 := BlkAt.new w1 w1.heap.size rfl 28 #[.int .i64 f.kind, .int .i64 f.src, .int .i64 f.dst, .int .i64 f.members, .int .i64 f.view, .int .i64 f.ballot, .int .i64 f.voted, .slice ro rn rc, .slice co cn cc, .slice mo mn mc]
  have FO1 := FO.later bo
  have HN1 : Hid (NumsAt _ _ _ _) := N1.below bo
  have HN2 : Hid (NumsAt _ _ _ _) := N2.below bo
  have HN3 : Hid (MsgsAt _ _ _ _) := N3.below bo
  have D1' := D1.alloc (.cells #[.int .i64 f.kind, .int .i64 f.src, .int .i64 f.dst, .int .i64 f.members, .int .i64 f.view, .int .i64 f.ballot, .int .i64 f.voted, .slice ro rn rc, .slice co cn cc, .slice mo mn mc] 28)
  have hbA := b1.trans (bo.mono (by omega))
  clear N1 N2 N3 FO bo b1 D1
  go_wp2_with fail
  refine (encode_yes f _ _ _ w1.heap.size _ HN1.out HN2.out HN3.out (by simp) hfit).mono ?_
  rintro e w2 ⟨rfl, hb2⟩
  have D2 := D1'.below hb2 (by simp; omega)
  have F2 := F1.below hb2 (by simp)
  have FO2 := FO1.later hb2
  have hbB := hbA.trans (hb2.mono (by simp; omega))
  clear D1' F1 FO1 hb2 hbA HN1 HN2 HN3
  rw [HE.out]
  have g0 := D2.cell 0 _ rfl
  have q0 := D2.frozen 0
  have c0 := F2.cell 0 _ rfl
  have g1 := D2.cell 1 _ rfl
  have q1 := D2.frozen 1
  have c1 := F2.cell 1 _ rfl
  have g2 := D2.cell 2 _ rfl
  have q2 := D2.frozen 2
  have c2 := F2.cell 2 _ rfl
  have g3 := D2.cell 3 _ rfl
  have q3 := D2.frozen 3
  have c3 := F2.cell 3 _ rfl
  have g4 := D2.cell 4 _ rfl
  have q4 := D2.frozen 4
  have c4 := F2.cell 4 _ rfl
  have g5 := D2.cell 5 _ rfl
  have q5 := D2.frozen 5
  have c5 := F2.cell 5 _ rfl
  have g6 := D2.cell 6 _ rfl
  have q6 := D2.frozen 6
  have c6 := F2.cell 6 _ rfl
  have g7 := D2.cell 7 _ rfl
  have q7 := D2.frozen 7
  have c7 := F2.cell 7 _ rfl
  have g8 := D2.cell 8 _ rfl
  have q8 := D2.frozen 8
  have c8 := F2.cell 8 _ rfl
  have g9 := D2.cell 9 _ rfl
  have q9 := D2.frozen 9
  have c9 := F2.cell 9 _ rfl
  have hD2 : w.heap.size < w.heap.size + 2 := by omega
  have HF : Hid (FrameOwn _ _ _ _ _ _ _) := ((((((((((FO2.setBelow (a := ⟨w.heap.size, 0, none⟩) hD2 (.int .i64 f.kind)).setBelow (a := ⟨w.heap.size, 1, none⟩) hD2 (.int .i64 f.src)).setBelow (a := ⟨w.heap.size, 2, none⟩) hD2 (.int .i64 f.dst)).setBelow (a := ⟨w.heap.size, 3, none⟩) hD2 (.int .i64 f.members)).setBelow (a := ⟨w.heap.size, 4, none⟩) hD2 (.int .i64 f.view)).setBelow (a := ⟨w.heap.size, 5, none⟩) hD2 (.int .i64 f.ballot)).setBelow (a := ⟨w.heap.size, 6, none⟩) hD2 (.int .i64 f.voted)).setBelow (a := ⟨w.heap.size, 7, none⟩) hD2 (.slice ro rn rc)).setBelow (a := ⟨w.heap.size, 8, none⟩) hD2 (.slice co cn cc)).setBelow (a := ⟨w.heap.size, 9, none⟩) hD2 (.slice mo mn mc))
  have HB : Hid (Below _ _ _) := ((((((((((hbB.setCell (p := ⟨w.heap.size, 0, none⟩) (Nat.le_refl _) (.int .i64 f.kind)).setCell (p := ⟨w.heap.size, 1, none⟩) (Nat.le_refl _) (.int .i64 f.src)).setCell (p := ⟨w.heap.size, 2, none⟩) (Nat.le_refl _) (.int .i64 f.dst)).setCell (p := ⟨w.heap.size, 3, none⟩) (Nat.le_refl _) (.int .i64 f.members)).setCell (p := ⟨w.heap.size, 4, none⟩) (Nat.le_refl _) (.int .i64 f.view)).setCell (p := ⟨w.heap.size, 5, none⟩) (Nat.le_refl _) (.int .i64 f.ballot)).setCell (p := ⟨w.heap.size, 6, none⟩) (Nat.le_refl _) (.int .i64 f.voted)).setCell (p := ⟨w.heap.size, 7, none⟩) (Nat.le_refl _) (.slice ro rn rc)).setCell (p := ⟨w.heap.size, 8, none⟩) (Nat.le_refl _) (.slice co cn cc)).setCell (p := ⟨w.heap.size, 9, none⟩) (Nat.le_refl _) (.slice mo mn mc))
  clear hbB FO2 F2 D2
  go_wp2
  exact bodyPost_ret (v := .tuple #[.agg #[.int .i64 f.kind, .int .i64 f.src, .int .i64 f.dst, .int .i64 f.members, .int .i64 f.view, .int .i64 f.ballot, .int .i64 f.voted, .slice ro rn rc, .slice co cn cc, .slice mo mn mc], .int .i64 0]) (by simp [results, Try.results14, go_sem, g0, g1, g2, g3, g4, g5, g6, g7, g8, g9]) rfl ⟨_, _, _, tvs, rfl, HF.out.base (by omega), HB.out⟩

set_option maxHeartbeats 2000000 in
theorem decode_unfit (s : List UInt8) (f : Codec.Frame) (l2 : List UInt8) (w : World) (hl : s.length ≤ 140737488351232) (hfl : Codec.frame s = (f, l2)) (hfit : Codec.fits f = false) :
    Calls Try.prog 14 #[.string ⟨s.toArray⟩] w fun e w' => e = .returned (.tuple #[.agg #[.int .i64 0, .int .i64 0, .int .i64 0, .int .i64 0, .int .i64 0, .int .i64 0, .int .i64 0, .slice none 0 0, .slice none 0 0, .slice none 0 0], .int .i64 3]) ∧ Below w.heap.size w w' := by
  have HFL : Hid (_ = _) := hfl
  clear hfl
  go_enter Try.func14, Try.ntmps14
  go_wp2_with fail
  have RA : RdAt ((w.alloc (.cells #[.int .i64 0, .int .i64 0, .int .i64 0, .int .i64 0, .int .i64 0, .int .i64 0, .int .i64 0, .slice none 0 0, .slice none 0 0, .slice none 0 0] 28)).alloc (.cells #[.string ⟨s.toArray⟩] 58)) (w.heap.size + 1) s := by
    have V0 := BlkAt.new (w.alloc (.cells #[.int .i64 0, .int .i64 0, .int .i64 0, .int .i64 0, .int .i64 0, .int .i64 0, .int .i64 0, .slice none 0 0, .slice none 0 0, .slice none 0 0] 28)) (w.heap.size + 1) (by simp) 58 #[.string ⟨s.toArray⟩]
    exact ⟨V0.cell 0 _ rfl, V0.frozen 0⟩
  have D0 := (BlkAt.new w w.heap.size rfl 28 #[.int .i64 0, .int .i64 0, .int .i64 0, .int .i64 0, .int .i64 0, .int .i64 0, .int .i64 0, .slice none 0 0, .slice none 0 0, .slice none 0 0]).alloc (.cells #[.string ⟨s.toArray⟩] 58)
  refine (frame_any s l2 f (w.heap.size + 1) _ HFL.out RA hl).mono ?_
  rintro e w1 ⟨rv, cv, mv, tvs, rfl, FO, r1⟩
  have D1 := D0.rd r1 (by omega)
  have s1 := r1.size
  simp at s1
  have b1 : Below w.heap.size w w1 := (((Below.refl w.heap.size w).alloc (Nat.le_refl _) _).alloc (by simp) _).trans (r1.below (by simp; omega) (by omega))
  replace FO := FO.base (base' := w.heap.size + 2) (by simp)
  clear RA D0 r1
  obtain ⟨ro, rn, rc, rfl⟩ := ownsRow_form FO.row
  obtain ⟨co, cn, cc, rfl⟩ := ownsRow_form FO.cut
  obtain ⟨mo, mn, mc, rfl⟩ := ownsRow_form FO.msgs.2.1
  have N1 := nums_of_own FO.row
  have N2 := nums_of_own FO.cut
  have N3 := msgs_of_own FO.msgs
  have bo : Below w1.heap.size w1 (w1.alloc (.cells #[.int .i64 f.kind, .int .i64 f.src, .int .i64 f.dst, .int .i64 f.members, .int .i64 f.view, .int .i64 f.ballot, .int .i64 f.voted, .slice ro rn rc, .slice co cn cc, .slice mo mn mc] 28)) := (Below.refl _ _).alloc (Nat.le_refl _) _
  have F1 := BlkAt.new w1 w1.heap.size rfl 28 #[.int .i64 f.kind, .int .i64 f.src, .int .i64 f.dst, .int .i64 f.members, .int .i64 f.view, .int .i64 f.ballot, .int .i64 f.voted, .slice ro rn rc, .slice co cn cc, .slice mo mn mc]
  have FO1 := FO.later bo
  have HN1 : Hid (NumsAt _ _ _ _) := N1.below bo
  have HN2 : Hid (NumsAt _ _ _ _) := N2.below bo
  have HN3 : Hid (MsgsAt _ _ _ _) := N3.below bo
  have D1' := D1.alloc (.cells #[.int .i64 f.kind, .int .i64 f.src, .int .i64 f.dst, .int .i64 f.members, .int .i64 f.view, .int .i64 f.ballot, .int .i64 f.voted, .slice ro rn rc, .slice co cn cc, .slice mo mn mc] 28)
  have hbA := b1.trans (bo.mono (by omega))
  clear N1 N2 N3 FO bo b1 D1
  go_wp2_with fail
  refine (encode_no f _ _ _ w1.heap.size _ HN1.out HN2.out HN3.out (by simp) hfit).mono ?_
  rintro e w2 ⟨rfl, hb2⟩
  have D2 := D1'.below hb2 (by simp; omega)
  have hbB := hbA.trans (hb2.mono (by simp; omega))
  clear D1' F1 FO1 hb2 hbA HN1 HN2 HN3
  have g0 := D2.cell 0 _ rfl
  have q0 := D2.frozen 0
  have g1 := D2.cell 1 _ rfl
  have q1 := D2.frozen 1
  have g2 := D2.cell 2 _ rfl
  have q2 := D2.frozen 2
  have g3 := D2.cell 3 _ rfl
  have q3 := D2.frozen 3
  have g4 := D2.cell 4 _ rfl
  have q4 := D2.frozen 4
  have g5 := D2.cell 5 _ rfl
  have q5 := D2.frozen 5
  have g6 := D2.cell 6 _ rfl
  have q6 := D2.frozen 6
  have g7 := D2.cell 7 _ rfl
  have q7 := D2.frozen 7
  have g8 := D2.cell 8 _ rfl
  have q8 := D2.frozen 8
  have g9 := D2.cell 9 _ rfl
  have q9 := D2.frozen 9
  have HB : Hid (Below _ _ _) := ((((((((((hbB.setCell (p := ⟨w.heap.size, 0, none⟩) (Nat.le_refl _) (.int .i64 0)).setCell (p := ⟨w.heap.size, 1, none⟩) (Nat.le_refl _) (.int .i64 0)).setCell (p := ⟨w.heap.size, 2, none⟩) (Nat.le_refl _) (.int .i64 0)).setCell (p := ⟨w.heap.size, 3, none⟩) (Nat.le_refl _) (.int .i64 0)).setCell (p := ⟨w.heap.size, 4, none⟩) (Nat.le_refl _) (.int .i64 0)).setCell (p := ⟨w.heap.size, 5, none⟩) (Nat.le_refl _) (.int .i64 0)).setCell (p := ⟨w.heap.size, 6, none⟩) (Nat.le_refl _) (.int .i64 0)).setCell (p := ⟨w.heap.size, 7, none⟩) (Nat.le_refl _) (.slice none 0 0)).setCell (p := ⟨w.heap.size, 8, none⟩) (Nat.le_refl _) (.slice none 0 0)).setCell (p := ⟨w.heap.size, 9, none⟩) (Nat.le_refl _) (.slice none 0 0))
  clear hbB D2
  go_wp2
  exact bodyPost_ret (v := .tuple #[.agg #[.int .i64 0, .int .i64 0, .int .i64 0, .int .i64 0, .int .i64 0, .int .i64 0, .int .i64 0, .slice none 0 0, .slice none 0 0, .slice none 0 0], .int .i64 3]) (by simp [results, Try.results14, go_sem, g0, g1, g2, g3, g4, g5, g6, g7, g8, g9]) rfl ⟨rfl, HB.out⟩

theorem str_ne {a b : List UInt8} (h : a ≠ b) : (a == b) = false := by
  simpa using h

set_option maxHeartbeats 2000000 in
theorem decode_else (s : List UInt8) (f : Codec.Frame) (l2 : List UInt8) (w : World) (hl : s.length ≤ 140737488351232) (hfl : Codec.frame s = (f, l2)) (hfit : Codec.fits f = true) (henc : Codec.encB f ≠ s) :
    Calls Try.prog 14 #[.string ⟨s.toArray⟩] w fun e w' => e = .returned (.tuple #[.agg #[.int .i64 0, .int .i64 0, .int .i64 0, .int .i64 0, .int .i64 0, .int .i64 0, .int .i64 0, .slice none 0 0, .slice none 0 0, .slice none 0 0], .int .i64 3]) ∧ Below w.heap.size w w' := by
  have HFL : Hid (_ = _) := hfl
  have hne := str_ne henc
  clear hfl
  go_enter Try.func14, Try.ntmps14
  go_wp2_with fail
  have RA : RdAt ((w.alloc (.cells #[.int .i64 0, .int .i64 0, .int .i64 0, .int .i64 0, .int .i64 0, .int .i64 0, .int .i64 0, .slice none 0 0, .slice none 0 0, .slice none 0 0] 28)).alloc (.cells #[.string ⟨s.toArray⟩] 58)) (w.heap.size + 1) s := by
    have V0 := BlkAt.new (w.alloc (.cells #[.int .i64 0, .int .i64 0, .int .i64 0, .int .i64 0, .int .i64 0, .int .i64 0, .int .i64 0, .slice none 0 0, .slice none 0 0, .slice none 0 0] 28)) (w.heap.size + 1) (by simp) 58 #[.string ⟨s.toArray⟩]
    exact ⟨V0.cell 0 _ rfl, V0.frozen 0⟩
  have D0 := (BlkAt.new w w.heap.size rfl 28 #[.int .i64 0, .int .i64 0, .int .i64 0, .int .i64 0, .int .i64 0, .int .i64 0, .int .i64 0, .slice none 0 0, .slice none 0 0, .slice none 0 0]).alloc (.cells #[.string ⟨s.toArray⟩] 58)
  refine (frame_any s l2 f (w.heap.size + 1) _ HFL.out RA hl).mono ?_
  rintro e w1 ⟨rv, cv, mv, tvs, rfl, FO, r1⟩
  have D1 := D0.rd r1 (by omega)
  have s1 := r1.size
  simp at s1
  have b1 : Below w.heap.size w w1 := (((Below.refl w.heap.size w).alloc (Nat.le_refl _) _).alloc (by simp) _).trans (r1.below (by simp; omega) (by omega))
  replace FO := FO.base (base' := w.heap.size + 2) (by simp)
  clear RA D0 r1
  obtain ⟨ro, rn, rc, rfl⟩ := ownsRow_form FO.row
  obtain ⟨co, cn, cc, rfl⟩ := ownsRow_form FO.cut
  obtain ⟨mo, mn, mc, rfl⟩ := ownsRow_form FO.msgs.2.1
  have N1 := nums_of_own FO.row
  have N2 := nums_of_own FO.cut
  have N3 := msgs_of_own FO.msgs
  have bo : Below w1.heap.size w1 (w1.alloc (.cells #[.int .i64 f.kind, .int .i64 f.src, .int .i64 f.dst, .int .i64 f.members, .int .i64 f.view, .int .i64 f.ballot, .int .i64 f.voted, .slice ro rn rc, .slice co cn cc, .slice mo mn mc] 28)) := (Below.refl _ _).alloc (Nat.le_refl _) _
  have F1 := BlkAt.new w1 w1.heap.size rfl 28 #[.int .i64 f.kind, .int .i64 f.src, .int .i64 f.dst, .int .i64 f.members, .int .i64 f.view, .int .i64 f.ballot, .int .i64 f.voted, .slice ro rn rc, .slice co cn cc, .slice mo mn mc]
  have FO1 := FO.later bo
  have HN1 : Hid (NumsAt _ _ _ _) := N1.below bo
  have HN2 : Hid (NumsAt _ _ _ _) := N2.below bo
  have HN3 : Hid (MsgsAt _ _ _ _) := N3.below bo
  have D1' := D1.alloc (.cells #[.int .i64 f.kind, .int .i64 f.src, .int .i64 f.dst, .int .i64 f.members, .int .i64 f.view, .int .i64 f.ballot, .int .i64 f.voted, .slice ro rn rc, .slice co cn cc, .slice mo mn mc] 28)
  have hbA := b1.trans (bo.mono (by omega))
  clear N1 N2 N3 FO bo b1 D1
  go_wp2_with fail
  refine (encode_yes f _ _ _ w1.heap.size _ HN1.out HN2.out HN3.out (by simp) hfit).mono ?_
  rintro e w2 ⟨rfl, hb2⟩
  have D2 := D1'.below hb2 (by simp; omega)
  have hbB := hbA.trans (hb2.mono (by simp; omega))
  clear D1' F1 FO1 hb2 hbA HN1 HN2 HN3
  have g0 := D2.cell 0 _ rfl
  have q0 := D2.frozen 0
  have g1 := D2.cell 1 _ rfl
  have q1 := D2.frozen 1
  have g2 := D2.cell 2 _ rfl
  have q2 := D2.frozen 2
  have g3 := D2.cell 3 _ rfl
  have q3 := D2.frozen 3
  have g4 := D2.cell 4 _ rfl
  have q4 := D2.frozen 4
  have g5 := D2.cell 5 _ rfl
  have q5 := D2.frozen 5
  have g6 := D2.cell 6 _ rfl
  have q6 := D2.frozen 6
  have g7 := D2.cell 7 _ rfl
  have q7 := D2.frozen 7
  have g8 := D2.cell 8 _ rfl
  have q8 := D2.frozen 8
  have g9 := D2.cell 9 _ rfl
  have q9 := D2.frozen 9
  have HB : Hid (Below _ _ _) := ((((((((((hbB.setCell (p := ⟨w.heap.size, 0, none⟩) (Nat.le_refl _) (.int .i64 0)).setCell (p := ⟨w.heap.size, 1, none⟩) (Nat.le_refl _) (.int .i64 0)).setCell (p := ⟨w.heap.size, 2, none⟩) (Nat.le_refl _) (.int .i64 0)).setCell (p := ⟨w.heap.size, 3, none⟩) (Nat.le_refl _) (.int .i64 0)).setCell (p := ⟨w.heap.size, 4, none⟩) (Nat.le_refl _) (.int .i64 0)).setCell (p := ⟨w.heap.size, 5, none⟩) (Nat.le_refl _) (.int .i64 0)).setCell (p := ⟨w.heap.size, 6, none⟩) (Nat.le_refl _) (.int .i64 0)).setCell (p := ⟨w.heap.size, 7, none⟩) (Nat.le_refl _) (.slice none 0 0)).setCell (p := ⟨w.heap.size, 8, none⟩) (Nat.le_refl _) (.slice none 0 0)).setCell (p := ⟨w.heap.size, 9, none⟩) (Nat.le_refl _) (.slice none 0 0))
  clear hbB D2
  go_wp2
  exact bodyPost_ret (v := .tuple #[.agg #[.int .i64 0, .int .i64 0, .int .i64 0, .int .i64 0, .int .i64 0, .int .i64 0, .int .i64 0, .slice none 0 0, .slice none 0 0, .slice none 0 0], .int .i64 3]) (by simp [results, Try.results14, go_sem, g0, g1, g2, g3, g4, g5, g6, g7, g8, g9]) rfl ⟨rfl, HB.out⟩

theorem decode_no (s : List UInt8) (w : World) (hl : s.length ≤ 140737488351232) (h : Codec.isFrame s = false) :
    Calls Try.prog 14 #[.string ⟨s.toArray⟩] w fun e w' => e = .returned (.tuple #[.agg #[.int .i64 0, .int .i64 0, .int .i64 0, .int .i64 0, .int .i64 0, .int .i64 0, .int .i64 0, .slice none 0 0, .slice none 0 0, .slice none 0 0], .int .i64 3]) ∧ Below w.heap.size w w' := by
  obtain ⟨f, l2, hfl⟩ : ∃ f r, Codec.frame s = (f, r) := ⟨_, _, rfl⟩
  cases hfit : Codec.fits f with
  | false => exact decode_unfit s f l2 w hl hfl hfit
  | true =>
    refine decode_else s f l2 w hl hfl hfit (fun e => ?_)
    simp [Codec.isFrame, hfl, hfit, e] at h
end Go.Proofs.Ytoklolfaemhfnaa
