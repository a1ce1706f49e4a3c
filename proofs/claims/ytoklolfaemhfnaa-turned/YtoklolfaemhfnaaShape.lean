/-
  The walk of the law's shape: a frame that may be, out of a raw one.
-/
import Derived.Test.YtoklolfaemhfnaaEnds
import Derived.Deep.RegionHeld3
import Derived.Deep.RegionLaw
import Derived.Deep.DeepCutAuto
namespace Go.Proofs.Ytoklolfaemhfnaa
open Go.RowKit

/-- What shape's boxes and lists are at. -/
structure Sh (w wr : World) (box : Array Value) (h0 h1 h2 h3 h4 h5 h6 rv cv mv : Value) (zr zc : List Int) (acc : List Codec.Msg) (tvs : List Value) : Prop where
  inp : BlkAt wr w.heap.size 28 box
  res : BlkAt wr (w.heap.size + 1) 28 #[.int .i64 0, .int .i64 0, .int .i64 0, .int .i64 0, .int .i64 0, .int .i64 0, .int .i64 0, .slice none 0 0, .slice none 0 0, .slice none 0 0]
  out : BlkAt wr (w.heap.size + 1 + 1) 28 #[h0, h1, h2, h3, h4, h5, h6, rv, cv, mv]
  row : wr.ownsRow (w.heap.size + 3) 3 1 rv zr.length (ints zr)
  cut : wr.ownsRow (w.heap.size + 3) 3 1 cv zc.length (ints zc)
  msgs : MsgsOwn wr (w.heap.size + 3) mv acc tvs
  bel : Below w.heap.size w wr

theorem msgs_keepT {w w' : World} {base : Nat} {v : Value} {ms : List Codec.Msg} {tvs : List Value} (h : MsgsOwn w base v ms tvs) (k3 : KeepT 3 w w') (k50 : KeepT 50 w w') : MsgsOwn w' base v ms tvs :=
  ⟨h.1, own_keepT h.2.1 k50, fun k m tv h1 h2 => own_keepT (h.2.2 k m tv h1 h2) k3⟩
theorem Sh.keep {w wr w' : World} {box : Array Value} {h0 h1 h2 h3 h4 h5 h6 rv cv mv : Value} {zr zc : List Int} {acc : List Codec.Msg} {tvs : List Value} (h : Sh w wr box h0 h1 h2 h3 h4 h5 h6 rv cv mv zr zc acc tvs)
    (k28 : KeepT 28 wr w') (k3 : KeepT 3 wr w') (k50 : KeepT 50 wr w') (hb : Below w.heap.size wr w') : Sh w w' box h0 h1 h2 h3 h4 h5 h6 rv cv mv zr zc acc tvs :=
  ⟨blk_keepT h.inp k28, blk_keepT h.res k28, blk_keepT h.out k28, own_keepT h.row k3, own_keepT h.cut k3, msgs_keepT h.msgs k3 k50, h.bel.trans hb⟩
theorem Sh.later {w wr w' : World} {box : Array Value} {h0 h1 h2 h3 h4 h5 h6 rv cv mv : Value} {zr zc : List Int} {acc : List Codec.Msg} {tvs : List Value} (h : Sh w wr box h0 h1 h2 h3 h4 h5 h6 rv cv mv zr zc acc tvs)
    (hb : Below wr.heap.size wr w') : Sh w w' box h0 h1 h2 h3 h4 h5 h6 rv cv mv zr zc acc tvs :=
  h.keep (.below hb) (.below hb) (.below hb) (hb.mono h.bel.size)
theorem Sh.setRow {w wr : World} {box : Array Value} {h0 h1 h2 h3 h4 h5 h6 rv cv mv : Value} {zr zc : List Int} {acc : List Codec.Msg} {tvs : List Value} (h : Sh w wr box h0 h1 h2 h3 h4 h5 h6 rv cv mv zr zc acc tvs)
    (v : Value) (zs : List Int) (ho : wr.ownsRow (w.heap.size + 3) 3 1 v zs.length (ints zs)) : Sh w (wr.setCell ⟨w.heap.size + 1 + 1, 7, none⟩ v) box h0 h1 h2 h3 h4 h5 h6 v cv mv zs zc acc tvs := by
  have k : ∀ T : TypeId, 28 ≠ T → KeepT T wr (wr.setCell ⟨w.heap.size + 1 + 1, 7, none⟩ v) := fun T hT => .set h.out hT 7 v
  exact ⟨h.inp.other (by omega) 7 v, h.res.other (by omega) 7 v, h.out.set 7 v, own_keepT ho (k 3 (by decide)), own_keepT h.cut (k 3 (by decide)), msgs_keepT h.msgs (k 3 (by decide)) (k 50 (by decide)), h.bel.setCell (p := ⟨w.heap.size + 1 + 1, 7, none⟩) (by show w.heap.size ≤ w.heap.size + 1 + 1; omega) v⟩
theorem Sh.setCut {w wr : World} {box : Array Value} {h0 h1 h2 h3 h4 h5 h6 rv cv mv : Value} {zr zc : List Int} {acc : List Codec.Msg} {tvs : List Value} (h : Sh w wr box h0 h1 h2 h3 h4 h5 h6 rv cv mv zr zc acc tvs)
    (v : Value) (zs : List Int) (ho : wr.ownsRow (w.heap.size + 3) 3 1 v zs.length (ints zs)) : Sh w (wr.setCell ⟨w.heap.size + 1 + 1, 8, none⟩ v) box h0 h1 h2 h3 h4 h5 h6 rv v mv zr zs acc tvs := by
  have k : ∀ T : TypeId, 28 ≠ T → KeepT T wr (wr.setCell ⟨w.heap.size + 1 + 1, 8, none⟩ v) := fun T hT => .set h.out hT 8 v
  exact ⟨h.inp.other (by omega) 8 v, h.res.other (by omega) 8 v, h.out.set 8 v, own_keepT h.row (k 3 (by decide)), own_keepT ho (k 3 (by decide)), msgs_keepT h.msgs (k 3 (by decide)) (k 50 (by decide)), h.bel.setCell (p := ⟨w.heap.size + 1 + 1, 8, none⟩) (by show w.heap.size ≤ w.heap.size + 1 + 1; omega) v⟩
/-- Behind the append of a message, and the store of the longer list. -/
theorem Sh.more {w wr w' : World} {box : Array Value} {h0 h1 h2 h3 h4 h5 h6 rv cv mv : Value} {zr zc : List Int} {acc : List Codec.Msg} {tvs : List Value} (h : Sh w wr box h0 h1 h2 h3 h4 h5 h6 rv cv mv zr zc acc tvs)
    (x : Codec.Msg) (tv nv : Value) (ht : wr.ownsRow (w.heap.size + 3) 3 1 tv x.time.length (ints x.time)) (hg : wr.grownBy w' mv.ownBlock)
    (ho : w'.ownsRow (w.heap.size + 3) 50 4 nv (acc.length + 1) (msgCells acc tvs ++ [.int .i64 x.sender, .int .i64 x.seq, tv, .string x.text])) :
    Sh w (w'.setCell ⟨w.heap.size + 1 + 1, 9, none⟩ nv) box h0 h1 h2 h3 h4 h5 h6 rv cv nv zr zc (acc ++ [x]) (tvs ++ [tv]) := by
  have k : ∀ T : TypeId, 50 ≠ T → KeepT T wr w' := fun T hT => .grown h.msgs.2.1 hT hg
  have hb : Below w.heap.size wr w' := (Below.refl _ _).grown hg h.bel.size (fun q hq => by have := (h.msgs.2.1.lt q hq).1; omega)
  have ho2 := blk_keepT h.out (k 28 (by decide))
  have k2 : ∀ T : TypeId, 28 ≠ T → KeepT T w' (w'.setCell ⟨w.heap.size + 1 + 1, 9, none⟩ nv) := fun T hT => .set ho2 hT 9 nv
  have k3 := (k 3 (by decide)).trans (k2 3 (by decide))
  refine ⟨(blk_keepT h.inp (k 28 (by decide))).other (by omega) 9 nv, (blk_keepT h.res (k 28 (by decide))).other (by omega) 9 nv, ho2.set 9 nv, own_keepT h.row k3, own_keepT h.cut k3, ⟨by simp [h.msgs.1], ?_, fun j m t hj htj => ?_⟩,
    (h.bel.trans hb).setCell (p := ⟨w.heap.size + 1 + 1, 9, none⟩) (by show w.heap.size ≤ w.heap.size + 1 + 1; omega) nv⟩
  · rw [msgCells_snoc _ _ _ _ h.msgs.1, List.length_append]
    exact own_keepT ho (k2 50 (by decide))
  · have hlen := h.msgs.1
    rcases Nat.lt_or_ge j acc.length with hlt | hge
    · rw [List.getElem?_append_left hlt] at hj
      rw [List.getElem?_append_left (by omega)] at htj
      exact own_keepT (h.msgs.2.2 j m t hj htj) k3
    · rw [List.getElem?_append_right hge] at hj
      rw [List.getElem?_append_right (by omega)] at htj
      have e0 : j - acc.length = 0 := by
        rcases Nat.eq_zero_or_pos (j - acc.length) with e | e
        · exact e
        · rw [List.getElem?_eq_none (by simp; omega)] at hj; cases hj
      rw [e0] at hj
      rw [show j - tvs.length = 0 from by omega] at htj
      simp at hj htj
      subst hj htj
      exact own_keepT ht k3

/-- The result's box is filled. -/
structure KB (H D : Nat) (w0 w : World) : Prop where
  k3 : KeepT 3 w0 w
  k50 : KeepT 50 w0 w
  bel : Below H w0 w
  blk : ∃ cs, BlkAt w D 28 cs
  le : H ≤ D
theorem KB.begin (H : Nat) {D : Nat} {w : World} {cs : Array Value} (h : BlkAt w D 28 cs) (hD : H ≤ D) : KB H D w w := ⟨.refl _ _, .refl _ _, Below.refl _ _, ⟨cs, h⟩, hD⟩
theorem KB.set {H D : Nat} {w0 w : World} (h : KB H D w0 w) (j : Nat) (u : Value) : KB H D w0 (w.setCell ⟨D, j, none⟩ u) := by
  obtain ⟨cs, hb⟩ := h.blk
  exact ⟨h.k3.trans (.set hb (by decide) j u), h.k50.trans (.set hb (by decide) j u), h.bel.setCell (p := ⟨D, j, none⟩) h.le u, ⟨_, hb.set j u⟩, h.le⟩
theorem msgs_base {w : World} {base base' : Nat} {v : Value} {ms : List Codec.Msg} {tvs : List Value} (h : MsgsOwn w base v ms tvs) (hb : base' ≤ base) : MsgsOwn w base' v ms tvs :=
  ⟨h.1, ownsRow_base h.2.1 hb, fun k m tv h1 h2 => ownsRow_base (h.2.2 k m tv h1 h2) hb⟩
theorem new4 (w : World) (a b c d : Value) : ∀ j u, [a, b, c, d][j]? = some u → (w.alloc (.cells #[a, b, c, d] 50)).drew.cell? ((⟨w.heap.size, 0, none⟩ : Addr).add j) = some u :=
  World.news_of_block (cs := #[a, b, c, d]) (t := 50) (fr := (0, 0)) (heap_alloc_new w _)

set_option maxHeartbeats 2000000 in
theorem shape_any (f : Codec.Frame) (rv cv mv : Value) (B : Nat) (w : World) (hr : NumsAt w B rv f.row) (hc : NumsAt w B cv f.cut) (hm : MsgsAt w B mv f.msgs) (hB : B ≤ w.heap.size)
    (k0 : Ok64 f.kind) (k1 : Ok64 f.src) (k2 : Ok64 f.dst) (k3 : Ok64 f.members) (k4 : Ok64 f.view) (k5 : Ok64 f.ballot) (k6 : Ok64 f.voted)
    (hl1 : f.row.length ≤ maxLen) (hl2 : f.cut.length ≤ maxLen) (hl3 : f.msgs.length ≤ maxLen) (hk1 : ∀ k, k < f.row.length → Ok64 (f.row.getD k 0)) (hk2 : ∀ k, k < f.cut.length → Ok64 (f.cut.getD k 0))
    (hk3 : ∀ m ∈ f.msgs, Ok64 m.sender ∧ Ok64 m.seq ∧ m.time.length ≤ maxLen ∧ ∀ k, k < m.time.length → Ok64 (m.time.getD k 0)) :
    Calls Try.prog 13 #[.agg #[.int .i64 f.kind, .int .i64 f.src, .int .i64 f.dst, .int .i64 f.members, .int .i64 f.view, .int .i64 f.ballot, .int .i64 f.voted, rv, cv, mv]] w
      fun e w' => ∃ (g : Codec.Frame) (rv cv mv : Value), e = .returned (.agg #[.int .i64 g.kind, .int .i64 g.src, .int .i64 g.dst, .int .i64 g.members, .int .i64 g.view, .int .i64 g.ballot, .int .i64 g.voted, rv, cv, mv]) ∧
        Codec.fits g = true ∧ w'.ownsRow w.heap.size 3 1 rv g.row.length (ints g.row) ∧ w'.ownsRow w.heap.size 3 1 cv g.cut.length (ints g.cut) ∧ (∃ tvs, MsgsOwn w' w.heap.size mv g.msgs tvs) ∧ Below w.heap.size w w' := by
  obtain ⟨ro, rn, rc, rfl⟩ := hr.form
  obtain ⟨co, cn, cc, rfl⟩ := hc.form
  obtain ⟨mo, mn, mc, rfl⟩ := hm.form
  obtain ⟨f0, f1, f2, f3, f4, f5, f6, row, cut, ms⟩ := f
  simp only at *
  obtain ⟨a0, b0⟩ := k0
  obtain ⟨a1, b1⟩ := k1
  obtain ⟨a2, b2⟩ := k2
  obtain ⟨a3, b3⟩ := k3
  obtain ⟨a4, b4⟩ := k4
  obtain ⟨a5, b5⟩ := k5
  obtain ⟨a6, b6⟩ := k6
  have p0 := pk_bound f0 7 (by decide)
  obtain ⟨y0, hy0⟩ : ∃ y, y = pk f0 7 := ⟨_, rfl⟩
  obtain ⟨y1, hy1⟩ : ∃ y, y = pk f1 6 := ⟨_, rfl⟩
  obtain ⟨y2, hy2⟩ : ∃ y, y = pk f2 6 := ⟨_, rfl⟩
  obtain ⟨y3, hy3⟩ : ∃ y, y = pk f3 64 := ⟨_, rfl⟩
  obtain ⟨y4, hy4⟩ : ∃ y, y = pk f4 2147483648 := ⟨_, rfl⟩
  obtain ⟨y5, hy5⟩ : ∃ y, y = pk f5 2147483648 := ⟨_, rfl⟩
  obtain ⟨y6, hy6⟩ : ∃ y, y = pk f6 2147483648 := ⟨_, rfl⟩
  have p1 := pk_bound f1 6 (by decide)
  have p2 := pk_bound f2 6 (by decide)
  have p3 := pk_bound f3 64 (by decide)
  have p4 := pk_bound f4 2147483648 (by decide)
  have p5 := pk_bound f5 2147483648 (by decide)
  have p6 := pk_bound f6 2147483648 (by decide)
  rw [← hy0] at p0; rw [← hy1] at p1; rw [← hy2] at p2; rw [← hy3] at p3; rw [← hy4] at p4; rw [← hy5] at p5; rw [← hy6] at p6
  have H0 : Hid (_ = _) := hy0
  have H1 : Hid (_ = _) := hy1
  have H2 : Hid (_ = _) := hy2
  have H3 : Hid (_ = _) := hy3
  have H4 : Hid (_ = _) := hy4
  have H5 : Hid (_ = _) := hy5
  have H6 : Hid (_ = _) := hy6
  clear hy0 hy1 hy2 hy3 hy4 hy5 hy6
  have HR : Hid (∀ w', Below w.heap.size w w' → NumsAt w' B (.slice ro rn rc) row) := fun w' hb => hr.below (hb.mono hB)
  have HC : Hid (∀ w', Below w.heap.size w w' → NumsAt w' B (.slice co cn cc) cut) := fun w' hb => hc.below (hb.mono hB)
  have HM : Hid (∀ w', Below w.heap.size w w' → MsgsAt w' B (.slice mo mn mc) ms) := fun w' hb => hm.below (hb.mono hB)
  clear hr hc hm
  have HK1 : Hid (∀ k, k < row.length → Ok64 (row.getD k 0)) := hk1
  have HK2 : Hid (∀ k, k < cut.length → Ok64 (cut.getD k 0)) := hk2
  have HK3 : Hid (∀ m ∈ ms, Ok64 m.sender ∧ Ok64 m.seq ∧ m.time.length ≤ maxLen ∧ ∀ k, k < m.time.length → Ok64 (m.time.getD k 0)) := hk3
  clear hk1 hk2 hk3
  have HWR : Hid (IntKind.i64.wrap (1 + y0) = 1 + y0) := by
    have h0 := p0.1
    have h1 := p0.2
    show IntKind.i64.wrap (1 + y0) = 1 + y0
    simp [IntKind.wrap, IntKind.bits, IntKind.signed]
    omega
  obtain ⟨i0, hi, hz0, hz1, hz2⟩ := info_parts info50
  go_enter Try.func13, Try.ntmps13
  go_upto_region 1 with fail
  go_cut [3] (fun s3 wx => s3 = .pointer (some ⟨w.heap.size + 1 + 1, 0, none⟩) ∧ wx = (((w.alloc (.cells #[.int .i64 f0, .int .i64 f1, .int .i64 f2, .int .i64 f3, .int .i64 f4, .int .i64 f5, .int .i64 f6, .slice ro rn rc, .slice co cn cc, .slice mo mn mc] 28)).alloc (.cells #[.int .i64 0, .int .i64 0, .int .i64 0, .int .i64 0, .int .i64 0, .int .i64 0, .int .i64 0, .slice none 0 0, .slice none 0 0, .slice none 0 0] 28)).alloc (.cells #[.int .i64 (1 + y0), .int .i64 y1, .int .i64 y2, .int .i64 y3, .int .i64 y4, .int .i64 y5, .int .i64 y6, .slice none 0 0, .slice none 0 0, .slice none 0 0] 28)).drew)
  case first =>
    go_region_held3 (fun w' => w'.cell? ⟨w.heap.size, 0, none⟩ = some (.int .i64 f0) ∧ w'.cell? ⟨w.heap.size, 1, none⟩ = some (.int .i64 f1) ∧ w'.cell? ⟨w.heap.size, 2, none⟩ = some (.int .i64 f2) ∧ w'.cell? ⟨w.heap.size, 3, none⟩ = some (.int .i64 f3) ∧ w'.cell? ⟨w.heap.size, 4, none⟩ = some (.int .i64 f4) ∧ w'.cell? ⟨w.heap.size, 5, none⟩ = some (.int .i64 f5) ∧ w'.cell? ⟨w.heap.size, 6, none⟩ = some (.int .i64 f6)) (simp [go_sem, World.cell?_alloc_past])
    (first | (go_at_call_of 16 (Value.int .i64 f0); refine (pick_at f0 7 y0 _ H0.out (by decide) a0 b0).mono ?_; rintro e w' ⟨rfl, rfl⟩) | (go_at_call_of 16 (Value.int .i64 f1); refine (pick_at f1 6 y1 _ H1.out (by decide) a1 b1).mono ?_; rintro e w' ⟨rfl, rfl⟩) | (go_at_call_of 16 (Value.int .i64 f2); refine (pick_at f2 6 y2 _ H2.out (by decide) a2 b2).mono ?_; rintro e w' ⟨rfl, rfl⟩) | (go_at_call_of 16 (Value.int .i64 f3); refine (pick_at f3 64 y3 _ H3.out (by decide) a3 b3).mono ?_; rintro e w' ⟨rfl, rfl⟩) | (go_at_call_of 16 (Value.int .i64 f4); refine (pick_at f4 2147483648 y4 _ H4.out (by decide) a4 b4).mono ?_; rintro e w' ⟨rfl, rfl⟩) | (go_at_call_of 16 (Value.int .i64 f5); refine (pick_at f5 2147483648 y5 _ H5.out (by decide) a5 b5).mono ?_; rintro e w' ⟨rfl, rfl⟩) | (go_at_call_of 16 (Value.int .i64 f6); refine (pick_at f6 2147483648 y6 _ H6.out (by decide) a6 b6).mono ?_; rintro e w' ⟨rfl, rfl⟩))
    all_goals (go_wp2_with fail; go_meet; exact ⟨rfl, by rw [HWR.out]⟩)
  case rest =>
    obtain ⟨rfl, hw⟩ := hcut
    have S1 : Sh w wc #[.int .i64 f0, .int .i64 f1, .int .i64 f2, .int .i64 f3, .int .i64 f4, .int .i64 f5, .int .i64 f6, .slice ro rn rc, .slice co cn cc, .slice mo mn mc] (.int .i64 (1 + y0)) (.int .i64 y1) (.int .i64 y2) (.int .i64 y3) (.int .i64 y4) (.int .i64 y5) (.int .i64 y6) (.slice none 0 0) (.slice none 0 0) (.slice none 0 0) [] [] [] [] := by
      rw [hw]
      refine ⟨((BlkAt.new w w.heap.size rfl 28 _).alloc _).alloc _, ?_, ?_, World.ownsRow_nil _ _ _ _, World.ownsRow_nil _ _ _ _, ⟨rfl, World.ownsRow_nil _ _ _ _, fun k m tv hk => by simp at hk⟩, ((((Below.refl w.heap.size w).alloc (Nat.le_refl _) _).alloc (by simp) _).alloc (by simp; omega) _).drew⟩
      · exact (BlkAt.new (w.alloc _) (w.heap.size + 1) (by simp) 28 _).alloc _
      · exact BlkAt.new ((w.alloc _).alloc _) (w.heap.size + 1 + 1) (by simp) 28 _
    have Z1 : w.heap.size + 3 ≤ wc.heap.size := by rw [hw]; simp
    have HS1 : Hid (Sh _ _ _ _ _ _ _ _ _ _ _ _ _ _ _ _ _) := S1
    clear hw S1
    have c7 := HS1.out.inp.cell 7 _ rfl
    go_wp2_with fail
    refine (shaped_any _ row B _ (HR.out _ HS1.out.bel) (by omega) hl1 HK1.out).mono ?_
    rintro e w2 ⟨v2, rfl, zr, O2, fit2, hb2⟩
    obtain ⟨zo, zc, rfl⟩ := own_form O2
    have Z2 := hb2.size
    have S2 := HS1.out.later hb2
    have d7 := S2.out.cell 7 _ rfl
    have e7 := S2.out.frozen 7
    have HS2 : Hid (Sh _ _ _ _ _ _ _ _ _ _ _ _ _ _ _ _ _) := S2.setRow (.slice zo zr.length zc) zr (ownsRow_base (base' := w.heap.size + 3) O2 (by omega))
    have c8 := HS2.out.inp.cell 8 _ rfl
    have Z2' : w.heap.size + 3 ≤ (w2.setCell ⟨w.heap.size + 1 + 1, 7, none⟩ (.slice zo zr.length zc)).heap.size := by simp; omega
    have HFr : Hid (Codec.listFits zr = true) := fit2
    clear c7 O2 hb2 S2 HS1 fit2
    go_wp2_with fail
    refine (shaped_any _ cut B _ (HC.out _ HS2.out.bel) (by omega) hl2 HK2.out).mono ?_
    rintro e w3 ⟨v3, rfl, zk, O3, fit3, hb3⟩
    obtain ⟨zp, zd, rfl⟩ := own_form O3
    have Z3 := hb3.size
    have S3 := HS2.out.later hb3
    clear d7 e7 c8
    have d8 := S3.out.cell 8 _ rfl
    have e8 := S3.out.frozen 8
    have HS3 : Hid (Sh _ _ _ _ _ _ _ _ _ _ _ _ _ _ _ _ _) := S3.setCut (.slice zp zk.length zd) zk (ownsRow_base (base' := w.heap.size + 3) O3 (by omega))
    have c9 := HS3.out.inp.cell 9 _ rfl
    have Z3' : w.heap.size + 3 ≤ (w3.setCell ⟨w.heap.size + 1 + 1, 8, none⟩ (.slice zp zk.length zd)).heap.size := by simp at Z3 ⊢; omega
    have HFc : Hid (Codec.listFits zk = true) := fit3
    clear O3 hb3 S3 HS2 fit3
    go_wp2
    clear c9 d8 e8
    go_loopw [4] (fun i wr => ∃ (k : Nat) (acc : List Codec.Msg) (tvs : List Value) (qo : Option Addr) (qn qc : Nat), k ≤ mn ∧ k ≤ 200 ∧ i = .int .i64 k ∧ Hid (acc.length = k) ∧ Hid (acc.all Codec.msgFits = true) ∧ w.heap.size + 3 ≤ wr.heap.size ∧
      Hid (Sh w wr #[.int .i64 f0, .int .i64 f1, .int .i64 f2, .int .i64 f3, .int .i64 f4, .int .i64 f5, .int .i64 f6, .slice ro rn rc, .slice co cn cc, .slice mo mn mc] (.int .i64 (1 + y0)) (.int .i64 y1) (.int .i64 y2) (.int .i64 y3) (.int .i64 y4) (.int .i64 y5) (.int .i64 y6) (.slice zo zr.length zc) (.slice zp zk.length zd) (.slice qo qn qc) zr zk acc tvs)) (fun i _ => 200 - (intOf i).toNat)
    case atStart => exact ⟨0, [], [], none, 0, 0, by omega, by omega, rfl, rfl, rfl, Z3', HS3⟩
    case round =>
      clear HS3 Z3' Z3 Z2' Z2 Z1
      obtain ⟨k, acc, tvs, qo, qn, qc, hk, hk200, rfl, HAl, HAf, hz, HS⟩ := hrel
      have c9 := HS.out.inp.cell 9 _ rfl
      have hmn : mn = ms.length := (HM.out _ HS.out.bel).entry.1
      by_cases hlt : k < ms.length
      · by_cases hlt2 : k < 200
        · obtain ⟨m, hm⟩ : ∃ m, ms[k]? = some m := ⟨ms[k], List.getElem?_eq_getElem hlt⟩
          obtain ⟨mb, moff, xo, xn, xc, rfl, hmb, m0, m1, m2, m3, mt⟩ := (HM.out _ HS.out.bel).entry.2 k m hm
          obtain ⟨⟨s0, s1⟩, ⟨q0, q1⟩, htl, hok⟩ := HK3.out m (List.mem_of_getElem? hm)
          have HT : Hid (NumsAt wr B (.slice xo xn xc) m.time) := mt
          have HOK : Hid (∀ k, k < m.time.length → Ok64 (m.time.getD k 0)) := hok
          clear mt hok hm
          obtain ⟨ms', mq, mti, mx⟩ := m
          simp only at *
          subst hmn
          have hk0 : (0 : Int) ≤ (k : Int) := Int.natCast_nonneg _
          have hk1 : (k : Int) < (ms.length : Int) := by omega
          have hk2 : (k : Int) < 200 := by omega
          go_wp2_with fail
          refine (shaped_any _ mti B _ (HT.out.below ((Below.refl _ _).alloc (by omega) _)) (by simp; omega) htl HOK.out).mono ?_
          rintro e w2 ⟨v2, rfl, zt, O2, fit2, hb2⟩
          obtain ⟨tao, tac, rfl⟩ := own_form O2
          have V2 : BlkAt w2 wr.heap.size 50 #[.int .i64 ms', .int .i64 mq, .slice xo xn xc, .string mx] := (BlkAt.new _ _ rfl 50 _).below hb2 (by simp)
          have hbw : Below wr.heap.size wr w2 := ((Below.refl _ _).alloc (Nat.le_refl _) _).trans (hb2.mono (by simp))
          have Z2 : wr.heap.size + 1 ≤ w2.heap.size := by have := hb2.size; simpa using this
          have S2 := HS.out.later hbw
          have HS2 : Hid (Sh w w2 _ _ _ _ _ _ _ _ _ _ _ _ _ _ _) := S2
          have HOT : Hid (w2.ownsRow (w.heap.size + 3) 3 1 (.slice tao zt.length tac) zt.length (ints zt)) := ownsRow_base (base' := w.heap.size + 3) O2 (by simp; omega)
          have hqs := pk_bound ms' 6 (by decide)
          obtain ⟨ys, hys⟩ : ∃ y, y = pk ms' 6 := ⟨_, rfl⟩
          have hqq := pk_bound mq 20 (by decide)
          obtain ⟨yq, hyq⟩ : ∃ y, y = pk mq 20 := ⟨_, rfl⟩
          rw [← hys] at hqs
          rw [← hyq] at hqq
          obtain ⟨u0, u1⟩ := hqs
          obtain ⟨v0, v1⟩ := hqq
          have HYs : Hid (_ = _) := hys
          have HYq : Hid (_ = _) := hyq
          have HFt : Hid (Codec.listFits zt = true) := fit2
          have d0 := V2.cell 0 _ rfl
          have d1 := V2.cell 1 _ rfl
          have d3 := V2.cell 3 _ rfl
          have d9 := S2.out.cell 9 _ rfl
          have e9 := S2.out.frozen 9
          have hne : wr.heap.size ≠ w.heap.size + 1 + 1 := by omega
          have hne' : w.heap.size + 1 + 1 ≠ wr.heap.size := by omega
          have hlt7 : wr.heap.size < w2.heap.size := by omega
          have hlt8 : w.heap.size + 1 + 1 < w2.heap.size := by omega
          have HM2 : Hid (w2.ownsRow (w.heap.size + 3) 50 4 (.slice qo qn qc) acc.length (msgCells acc tvs)) := S2.msgs.2.1
          have HMne : Hid ((Value.slice qo qn qc).ownBlock ≠ some wr.heap.size) := fun e => by have := (HS.out.msgs.2.1.lt _ e).2; omega
          have HV2 : Hid (BlkAt w2 wr.heap.size 50 _) := V2
          have HWQ : Hid (IntKind.i64.wrap (1 + yq) = 1 + yq) := by
            show IntKind.i64.wrap (1 + yq) = 1 + yq
            simp [IntKind.wrap, IntKind.bits, IntKind.signed]
            omega
          have hacc := HAl.out
          have hacc2 : acc.length ≤ 200 := by omega
          clear O2 hb2 hbw S2 V2 HS HT HOK hys hyq fit2 m0 m1 m2 m3 c9 hacc
          go_upto_region 9 with fail
          refine Ends.begin (fun w' => w'.cell? ⟨wr.heap.size, 0, none⟩ = some (.int .i64 ms') ∧ w'.cell? ⟨wr.heap.size, 1, none⟩ = some (.int .i64 mq) ∧ w'.cell? ⟨wr.heap.size, 3, none⟩ = some (.string mx) ∧ w'.cell? ⟨w.heap.size + 1 + 1, 9, none⟩ = some (.slice qo qn qc)) 17 (by kernel_rfl) ⟨d0, d1, d3, d9⟩ (fun hHeld => ?_)
          refine Ends.take 0 (v := ?v0) rfl rfl (by kernel_rfl) (by kernel_rfl) (by kernel_rfl) (by kernel_rfl) (fun _ _ _ h => h) (Or.inl ⟨by rfl, ?y0⟩) (by assumption) ?r0
          case y0 => (intro w' hSw; (try dsimp only at hSw); go_simp; (try with_reducible rfl))
          try simp only [Act.put, List.setIfInBounds_toArray, List.set_cons_zero, List.set_cons_succ, List.getElem_toArray, List.getElem_cons_zero]
          refine Ends.take 1 (v := ?v1) rfl rfl (by kernel_rfl) (by kernel_rfl) (by kernel_rfl) (by kernel_rfl) (fun _ _ _ h => h) (Or.inl ⟨by rfl, ?y1⟩) (by assumption) ?r1
          case y1 => (intro w' hSw; (try dsimp only at hSw); go_simp; (try with_reducible rfl))
          try simp only [Act.put, List.setIfInBounds_toArray, List.set_cons_zero, List.set_cons_succ, List.getElem_toArray, List.getElem_cons_zero, List.getElem_cons_succ]
          refine Ends.take 2 (v := ?v2) rfl rfl (by kernel_rfl) (by kernel_rfl) (by kernel_rfl) (by kernel_rfl) (fun _ _ _ h => h) (Or.inl ⟨by rfl, ?y2⟩) (by assumption) ?r2
          case y2 => (intro w' hSw; (try dsimp only at hSw); go_simp; (try with_reducible rfl))
          try simp only [Act.put, List.setIfInBounds_toArray, List.set_cons_zero, List.set_cons_succ, List.getElem_toArray, List.getElem_cons_zero, List.getElem_cons_succ]
          refine Ends.take 3 (v := ?v3) rfl rfl (by kernel_rfl) (by kernel_rfl) (by kernel_rfl) (by kernel_rfl) (fun _ _ _ h => h) (Or.inl ⟨by rfl, ?y3⟩) (by assumption) ?r3
          case y3 => (intro w' hSw; (try dsimp only at hSw); go_simp; (try with_reducible rfl))
          try simp only [Act.put, List.setIfInBounds_toArray, List.set_cons_zero, List.set_cons_succ, List.getElem_toArray, List.getElem_cons_zero, List.getElem_cons_succ]
          refine Ends.take 5 (v := ?v5) rfl rfl (by kernel_rfl) (by kernel_rfl) (by kernel_rfl) (by kernel_rfl) (fun _ _ _ h => h) (Or.inl ⟨by rfl, ?y5⟩) (by assumption) ?r5
          case y5 => (intro w' hSw; (try dsimp only at hSw); go_simp; (try with_reducible rfl))
          try simp only [Act.put, List.setIfInBounds_toArray, List.set_cons_zero, List.set_cons_succ, List.getElem_toArray, List.getElem_cons_zero, List.getElem_cons_succ]
          refine Ends.take 6 (v := ?v6) rfl rfl (by kernel_rfl) (by kernel_rfl) (by kernel_rfl) (by kernel_rfl) (fun _ _ _ h => h) (Or.inl ⟨by rfl, ?y6⟩) (by assumption) ?r6
          case y6 => (intro w' hSw; (try dsimp only at hSw); go_simp; (try with_reducible rfl))
          try simp only [Act.put, List.setIfInBounds_toArray, List.set_cons_zero, List.set_cons_succ, List.getElem_toArray, List.getElem_cons_zero, List.getElem_cons_succ]
          refine Ends.take 9 (v := ?v9) rfl rfl (by kernel_rfl) (by kernel_rfl) (by kernel_rfl) (by kernel_rfl) (fun _ _ _ h => h) (Or.inl ⟨by rfl, ?y9⟩) (by assumption) ?r9
          case y9 => (intro w' hSw; (try dsimp only at hSw); go_simp; (try with_reducible rfl))
          try simp only [Act.put, List.setIfInBounds_toArray, List.set_cons_zero, List.set_cons_succ, List.getElem_toArray, List.getElem_cons_zero, List.getElem_cons_succ]
          refine Ends.take 10 (v := ?v10) rfl rfl (by kernel_rfl) (by kernel_rfl) (by kernel_rfl) (by kernel_rfl) (fun _ _ _ h => h) (Or.inl ⟨by rfl, ?y10⟩) (by assumption) ?r10
          case y10 => (intro w' hSw; (try dsimp only at hSw); go_simp; (try with_reducible rfl))
          try simp only [Act.put, List.setIfInBounds_toArray, List.set_cons_zero, List.set_cons_succ, List.getElem_toArray, List.getElem_cons_zero, List.getElem_cons_succ]
          refine Ends.take 11 (v := ?v11) rfl rfl (by kernel_rfl) (by kernel_rfl) (by kernel_rfl) (by kernel_rfl) (fun _ _ _ h => h) (Or.inl ⟨by rfl, ?y11⟩) (by assumption) ?r11
          case y11 => (intro w' hSw; (try dsimp only at hSw); go_simp; (try with_reducible rfl))
          try simp only [Act.put, List.setIfInBounds_toArray, List.set_cons_zero, List.set_cons_succ, List.getElem_toArray, List.getElem_cons_zero, List.getElem_cons_succ]
          refine Ends.one 4 (by kernel_rfl) rfl (fun K hK => ?s4)
          go_simp
          refine (pick_at ms' 6 ys _ HYs.out (by decide) s0 s1).mono ?_
          rintro e w' ⟨rfl, rfl⟩
          go_wp2_with fail
          refine hK.out _ _ (fun _ => hHeld) (fun _ => ?_)
          clear hK K
          try simp only [Act.put, List.setIfInBounds_toArray, List.set_cons_zero, List.set_cons_succ, List.getElem_toArray, List.getElem_cons_zero, List.getElem_cons_succ]
          refine Ends.one 7 (by kernel_rfl) rfl (fun K hK => ?s7)
          go_simp
          refine (pick_at mq 20 yq _ HYq.out (by decide) q0 q1).mono ?_
          rintro e w' ⟨rfl, rfl⟩
          go_wp2_with fail
          refine hK.out _ _ (fun _ => hHeld) (fun _ => ?_)
          clear hK K
          try simp only [Act.put, List.setIfInBounds_toArray, List.set_cons_zero, List.set_cons_succ, List.getElem_toArray, List.getElem_cons_zero, List.getElem_cons_succ]
          refine Ends.take 8 (v := ?v8) rfl rfl (by kernel_rfl) (by kernel_rfl) (by kernel_rfl) (by kernel_rfl) (fun _ _ _ h => h) (Or.inl ⟨by rfl, ?y8⟩) (by assumption) ?r8
          case y8 => (intro w' hSw; (try dsimp only at hSw); go_simp; (try with_reducible rfl))
          try simp only [Act.put, List.setIfInBounds_toArray, List.set_cons_zero, List.set_cons_succ, List.getElem_toArray, List.getElem_cons_zero, List.getElem_cons_succ]
          refine Ends.one 12 (by kernel_rfl) rfl (fun K hK => ?s12)
          go_simp
          refine (cut_any mx 16 (by decide) _).mono ?_
          rintro e w' ⟨tx, rfl, htx, rfl⟩
          go_wp2_with fail
          refine hK.out _ _ (fun _ => hHeld) (fun _ => ?_)
          clear hK K
          try simp only [Act.put, List.setIfInBounds_toArray, List.set_cons_zero, List.set_cons_succ, List.getElem_toArray, List.getElem_cons_zero, List.getElem_cons_succ]
          refine Ends.take 13 (v := ?v13) rfl rfl (by kernel_rfl) (by kernel_rfl) (by kernel_rfl) (by kernel_rfl) (fun _ _ _ h => h) (Or.inl ⟨by rfl, ?y13⟩) (by assumption) ?r13
          case y13 => (intro w' hSw; (try dsimp only at hSw); go_simp; (try with_reducible rfl))
          try simp only [Act.put, List.setIfInBounds_toArray, List.set_cons_zero, List.set_cons_succ, List.getElem_toArray, List.getElem_cons_zero, List.getElem_cons_succ]
          refine Ends.one 14 (by kernel_rfl) rfl (fun K hK => ?s14)
          go_simp
          refine hK.out _ _ (fun _ => ?k14) (fun hH => ?_)
          case k14 => simp [go_sem, *]
          clear hK K hHeld
          have hHeld := hH (by decide)
          clear hH
          try simp only [Act.put, List.setIfInBounds_toArray, List.set_cons_zero, List.set_cons_succ, List.getElem_toArray, List.getElem_cons_zero, List.getElem_cons_succ]
          refine Ends.one 15 (by kernel_rfl) rfl (fun K hK => ?s15)
          refine step_append_lies _ (by rfl) _ _ _ (by rfl) (w.heap.size + 3) 50 i0 _ 4 56 Try.underlying26 hi hz0 hz1 hz2 rfl (by omega) (.slice qo qn qc) acc.length (msgCells acc tvs) (by rfl) (World.ownsRow.drew (HM2.out.alloc _)) ⟨w2.heap.size, 0, none⟩ 1 1 [_, _, _, _] (by rfl) (by rfl) (new4 w2 _ _ _ _) (by simp [Value.oneCell']) (by omega) (by unfold maxLen; omega) (by omega) (by simp; omega) (w2.heap.size + 1) (by simp) ?_
          intro gg cap w3 hown3 hgrow hat hlt3
          have X3 := (HS2.out.out.alloc _).drew.grown hgrow (blk_ne (HS2.out.out) HM2.out (by decide))
          have c3 := X3.cell 9 _ rfl
          have f3 := X3.frozen 9
          have V3 := (HV2.out.alloc _).drew.grown hgrow HMne.out
          refine hK.out _ _ (fun _ => ⟨V3.cell 0 _ rfl, V3.cell 1 _ rfl, V3.cell 3 _ rfl, c3⟩) (fun hH => ?_)
          clear hK K hHeld V3
          have hHeld := hH (by decide)
          clear hH
          try simp only [Act.put, List.setIfInBounds_toArray, List.set_cons_zero, List.set_cons_succ, List.getElem_toArray, List.getElem_cons_zero, List.getElem_cons_succ]
          refine Ends.take 16 (v := ?v16) rfl rfl (by kernel_rfl) (by kernel_rfl) (by kernel_rfl) (by kernel_rfl) (fun _ _ _ h => h) (Or.inl ⟨by rfl, ?y16⟩) (by assumption) ?r16
          case y16 => (intro w' hSw; (try dsimp only at hSw); go_simp; (try with_reducible rfl))
          try simp only [Act.put, List.setIfInBounds_toArray, List.set_cons_zero, List.set_cons_succ, List.getElem_toArray, List.getElem_cons_zero, List.getElem_cons_succ]
          refine Ends.one 17 (by kernel_rfl) rfl (fun K hK => ?s17)
          go_simp
          refine hK.out _ _ (fun h => absurd rfl h) (fun _ => ?_)
          clear hK K
          try simp only [Act.put, List.setIfInBounds_toArray, List.set_cons_zero, List.set_cons_succ, List.getElem_toArray, List.getElem_cons_zero, List.getElem_cons_succ]
          refine Ends.done (by kernel_rfl) ?_ _
          rw [HWQ.out] at hown3 hgrow
          have hbA : Below w2.heap.size w2 (w2.alloc (.cells #[.int .i64 ys, .int .i64 (1 + yq), .slice tao zt.length tac, .string tx] 50)).drew := ((Below.refl _ _).alloc (Nat.le_refl _) _).drew
          have HN : Hid (Sh _ _ _ _ _ _ _ _ _ _ _ _ _ _ _ _ _) := (HS2.out.later hbA).more ⟨ys, 1 + yq, zt, tx⟩ (.slice tao zt.length tac) (.slice (some ⟨gg, 0, none⟩) (acc.length + 1) cap) (World.ownsRow.drew (HOT.out.alloc _)) hgrow hown3
          have HFx : Hid ((acc ++ [(⟨ys, 1 + yq, zt, tx⟩ : Codec.Msg)]).all Codec.msgFits = true) := by
            show _ = true
            rw [List.all_append, HAf.out]
            simp [Codec.msgFits, Codec.inB, HFt.out, u0, htx]
            omega
          have HAl2 : Hid ((acc ++ [(⟨ys, 1 + yq, zt, tx⟩ : Codec.Msg)]).length = k + 1) := by show _ = _; simp [HAl.out]
          have Z4 : w.heap.size + 3 ≤ (w3.setCell ⟨w.heap.size + 1 + 1, 9, none⟩ (.slice (some ⟨gg, 0, none⟩) (acc.length + 1) cap)).heap.size := by have := HN.out.out.lt; simp at this ⊢; omega
          clear hown3 hgrow hat hlt3 X3 c3 f3 hHeld hbA HS2 HM2 HV2 HOT d0 d1 d3 d9 e9
          go_wp2
          go_roundw
          case rel => exact ⟨k + 1, _, _, some ⟨gg, 0, none⟩, acc.length + 1, cap, by omega, by omega, by go_num, HAl2, HFx, Z4, HN⟩
          case measure => simp [intOf]; omega
        · have hk9 : k = 200 := by omega
          have hk2 : ¬ (k : Int) < 200 := by omega
          have hk1 : (k : Int) < (mn : Int) := by omega
          have hkk : k ≤ 200 := hk200
          clear hmn hk9
          obtain ⟨n0, n1, n2, n3, n4, n5, n6, n7, n8, n9⟩ := HS.out.out.cells10'
          obtain ⟨o0, o1, o2, o3, o4, o5, o6, o7, o8, o9⟩ := HS.out.res.cells10'
          have r0 := HS.out.res.frozen 0
          have r1 := HS.out.res.frozen 1
          have r2 := HS.out.res.frozen 2
          have r3 := HS.out.res.frozen 3
          have r4 := HS.out.res.frozen 4
          have r5 := HS.out.res.frozen 5
          have r6 := HS.out.res.frozen 6
          have r7 := HS.out.res.frozen 7
          have r8 := HS.out.res.frozen 8
          have r9 := HS.out.res.frozen 9
          have HK : Hid (KB w.heap.size (w.heap.size + 1) wr _) := ((((((((((KB.begin w.heap.size HS.out.res (by omega)).set 0 (.int .i64 (1 + y0))).set 1 (.int .i64 y1)).set 2 (.int .i64 y2)).set 3 (.int .i64 y3)).set 4 (.int .i64 y4)).set 5 (.int .i64 y5)).set 6 (.int .i64 y6)).set 7 (.slice zo zr.length zc)).set 8 (.slice zp zk.length zd)).set 9 (.slice qo qn qc)
          have HG : Hid (Codec.fits ⟨1 + y0, y1, y2, y3, y4, y5, y6, zr, zk, acc⟩ = true) := by
            show _ = true
            have hm : Codec.msgsFit acc = true := by unfold Codec.msgsFit; rw [HAf.out, HAl.out]; simp; omega
            simp [Codec.fits, Codec.headFits, Codec.ballotsFit, Codec.inB, HFr.out, HFc.out, hm]
            omega
          have HFin : Hid (World.ownsRow _ w.heap.size 3 1 (.slice zo zr.length zc) zr.length (ints zr) ∧ World.ownsRow _ w.heap.size 3 1 (.slice zp zk.length zd) zk.length (ints zk) ∧ MsgsOwn _ w.heap.size (.slice qo qn qc) acc tvs ∧ Below w.heap.size w _) := ⟨ownsRow_base (own_keepT HS.out.row HK.out.k3) (by omega), ownsRow_base (own_keepT HS.out.cut HK.out.k3) (by omega), msgs_base (msgs_keepT HS.out.msgs HK.out.k3 HK.out.k50) (by omega), HS.out.bel.trans HK.out.bel⟩
          clear HS HK HAl HAf HFr HFc
          go_wp2
          exact bodyPost_ret (v := .agg #[.int .i64 (1 + y0), .int .i64 y1, .int .i64 y2, .int .i64 y3, .int .i64 y4, .int .i64 y5, .int .i64 y6, .slice zo zr.length zc, .slice zp zk.length zd, .slice qo qn qc]) (by simp [results, Try.results13, go_sem, o0, o1, o2, o3, o4, o5, o6, o7, o8, o9]) rfl ⟨⟨1 + y0, y1, y2, y3, y4, y5, y6, zr, zk, acc⟩, _, _, _, rfl, HG.out, HFin.out.1, HFin.out.2.1, ⟨tvs, HFin.out.2.2.1⟩, HFin.out.2.2.2⟩
      · have hk1 : ¬ (k : Int) < (mn : Int) := by omega
        clear hmn
        obtain ⟨n0, n1, n2, n3, n4, n5, n6, n7, n8, n9⟩ := HS.out.out.cells10'
        obtain ⟨o0, o1, o2, o3, o4, o5, o6, o7, o8, o9⟩ := HS.out.res.cells10'
        have r0 := HS.out.res.frozen 0
        have r1 := HS.out.res.frozen 1
        have r2 := HS.out.res.frozen 2
        have r3 := HS.out.res.frozen 3
        have r4 := HS.out.res.frozen 4
        have r5 := HS.out.res.frozen 5
        have r6 := HS.out.res.frozen 6
        have r7 := HS.out.res.frozen 7
        have r8 := HS.out.res.frozen 8
        have r9 := HS.out.res.frozen 9
        have HK : Hid (KB w.heap.size (w.heap.size + 1) wr _) := ((((((((((KB.begin w.heap.size HS.out.res (by omega)).set 0 (.int .i64 (1 + y0))).set 1 (.int .i64 y1)).set 2 (.int .i64 y2)).set 3 (.int .i64 y3)).set 4 (.int .i64 y4)).set 5 (.int .i64 y5)).set 6 (.int .i64 y6)).set 7 (.slice zo zr.length zc)).set 8 (.slice zp zk.length zd)).set 9 (.slice qo qn qc)
        have HG : Hid (Codec.fits ⟨1 + y0, y1, y2, y3, y4, y5, y6, zr, zk, acc⟩ = true) := by
          show _ = true
          have hm : Codec.msgsFit acc = true := by unfold Codec.msgsFit; rw [HAf.out, HAl.out]; simp; omega
          simp [Codec.fits, Codec.headFits, Codec.ballotsFit, Codec.inB, HFr.out, HFc.out, hm]
          omega
        have HFin : Hid (World.ownsRow _ w.heap.size 3 1 (.slice zo zr.length zc) zr.length (ints zr) ∧ World.ownsRow _ w.heap.size 3 1 (.slice zp zk.length zd) zk.length (ints zk) ∧ MsgsOwn _ w.heap.size (.slice qo qn qc) acc tvs ∧ Below w.heap.size w _) := ⟨ownsRow_base (own_keepT HS.out.row HK.out.k3) (by omega), ownsRow_base (own_keepT HS.out.cut HK.out.k3) (by omega), msgs_base (msgs_keepT HS.out.msgs HK.out.k3 HK.out.k50) (by omega), HS.out.bel.trans HK.out.bel⟩
        clear HS HK HAl HAf HFr HFc
        go_wp2
        exact bodyPost_ret (v := .agg #[.int .i64 (1 + y0), .int .i64 y1, .int .i64 y2, .int .i64 y3, .int .i64 y4, .int .i64 y5, .int .i64 y6, .slice zo zr.length zc, .slice zp zk.length zd, .slice qo qn qc]) (by simp [results, Try.results13, go_sem, o0, o1, o2, o3, o4, o5, o6, o7, o8, o9]) rfl ⟨⟨1 + y0, y1, y2, y3, y4, y5, y6, zr, zk, acc⟩, _, _, _, rfl, HG.out, HFin.out.1, HFin.out.2.1, ⟨tvs, HFin.out.2.2.1⟩, HFin.out.2.2.2⟩
end Go.Proofs.Ytoklolfaemhfnaa
