/-
  The walk of the law's unspoilt, at a frame that is as it was: true.
-/
import Derived.Test.YtoklolfaemhfnaaLend2
namespace Go.Proofs.Ytoklolfaemhfnaa
open Go.RowKit

theorem nums_of_whole {w : World} {g c : Nat} {l : List Int} (h : BlkAt w g 3 (ints l).toArray) : NumsAt w w.heap.size (.slice (some ⟨g, 0, none⟩) l.length c) l := by
  have := nums_of_blk (c := c) (t := []) (l := l) (w := w) (g := g) (by simpa using h)
  exact this

theorem nums_of_new {w : World} {g N : Nat} {l : List Int} (h : BlkAt w g 3 (ints (l ++ [-77, -77])).toArray) (hg : g < N) : NumsAt w N (.slice (some ⟨g, 0, none⟩) (l.length + 2) (l.length + 2)) (l ++ [-77, -77]) := by
  rcases nums_of_whole (c := l.length + 2) h with ⟨⟨_, _, hv⟩, _⟩ | ⟨b, off, cap, hv, hB, hc⟩
  · simp at hv
  · simp at hv
    obtain ⟨⟨rfl, rfl⟩, rfl⟩ := hv
    exact .inr ⟨g, 0, l.length + 2, by simp, hg, hc⟩

theorem blk_drewN {w : World} {X : Nat} {T : TypeId} {cs : Array Value} (h : BlkAt w X T cs) (n : Nat) : BlkAt (w.drewN n) X T cs := h.below (below_drewN (Below.refl (X + 1) w) n) (Nat.lt_succ_self _)

/-- The two boxes of unspoilt: what was lent, and the frame. -/
structure Boxes (w : World) (X : Nat) (f : Codec.Frame) (gr gc g7 p7 : Nat) (tv rv cv mv : Value) : Prop where
  lent : BlkAt w X 34 #[.int .i64 f.kind, .int .i64 f.src, .int .i64 f.dst, .int .i64 f.members, .int .i64 f.view, .int .i64 f.ballot, .int .i64 f.voted, .slice (some ⟨gr, 0, none⟩) f.row.length (f.row.length + 2), .slice (some ⟨gc, 0, none⟩) f.cut.length (f.cut.length + 2), .slice (some ⟨g7, 0, none⟩) f.msgs.length p7, .slice (some ⟨gr, 0, none⟩) (f.row.length + 2) (f.row.length + 2), .slice (some ⟨gc, 0, none⟩) (f.cut.length + 2) (f.cut.length + 2), tv, .slice (some ⟨g7, 0, none⟩) (f.msgs.length + 1) p7]
  frame : BlkAt w (X + 1) 28 #[.int .i64 f.kind, .int .i64 f.src, .int .i64 f.dst, .int .i64 f.members, .int .i64 f.view, .int .i64 f.ballot, .int .i64 f.voted, rv, cv, mv]

theorem Boxes.cells {w : World} {X : Nat} {f : Codec.Frame} {gr gc g7 p7 : Nat} {tv rv cv mv : Value} (h : Boxes w X f gr gc g7 p7 tv rv cv mv) :
    w.cell? ⟨X, 10, none⟩ = some (.slice (some ⟨gr, 0, none⟩) (f.row.length + 2) (f.row.length + 2)) ∧ w.cell? ⟨X, 11, none⟩ = some (.slice (some ⟨gc, 0, none⟩) (f.cut.length + 2) (f.cut.length + 2)) ∧ w.cell? ⟨X, 12, none⟩ = some tv ∧ w.cell? ⟨X, 13, none⟩ = some (.slice (some ⟨g7, 0, none⟩) (f.msgs.length + 1) p7) ∧
    w.cell? ⟨X + 1, 7, none⟩ = some rv ∧ w.cell? ⟨X + 1, 8, none⟩ = some cv ∧ w.cell? ⟨X + 1, 9, none⟩ = some mv :=
  ⟨h.lent.cell 10 _ rfl, h.lent.cell 11 _ rfl, h.lent.cell 12 _ rfl, h.lent.cell 13 _ rfl, h.frame.cell 7 _ rfl, h.frame.cell 8 _ rfl, h.frame.cell 9 _ rfl⟩

theorem Boxes.below {w w' : World} {X : Nat} {f : Codec.Frame} {gr gc g7 p7 : Nat} {tv rv cv mv : Value} (h : Boxes w X f gr gc g7 p7 tv rv cv mv) {N : Nat} (hb : Below N w w') (hN : X + 1 < N) : Boxes w' X f gr gc g7 p7 tv rv cv mv :=
  ⟨h.lent.below hb (by omega), h.frame.below hb hN⟩

theorem Lent.cap {w : World} {base : Nat} {f : Codec.Frame} {gr gc g7 p7 : Nat} {tv : Value} {gs : List Nat} (h : Lent w base f gr gc g7 p7 tv gs) : f.msgs.length + 1 ≤ p7 := by
  rcases h.msgs.2 with ⟨hv, _⟩ | ⟨q, cap, cur, hv, _, _, hle, _⟩
  · cases hv
  · injection hv with h1 h2 h3; omega

theorem tCells_at (ms : List Codec.Msg) : ∀ (gs : List Nat) (j : Nat) (m : Codec.Msg) (g : Nat), ms[j]? = some m → gs[j]? = some g → (tCells ms gs)[j]? = some (.slice (some ⟨g, 0, none⟩) (m.time.length + 2) (m.time.length + 2)) := by
  induction ms with
  | nil => intro gs j m g h; simp at h
  | cons x ms ih =>
    intro gs j m g h1 h2
    cases gs with
    | nil => simp at h2
    | cons y gs =>
      cases j with
      | zero => simp at h1 h2; subst h1 h2; simp [tCells]
      | succ j => simp at h1 h2; simpa [tCells] using ih gs j m g h1 h2

/-- The k-th time that was lent. -/
theorem Lent.timeAt {w : World} {base : Nat} {f : Codec.Frame} {gr gc g7 p7 : Nat} {tv : Value} {gs : List Nat} (h : Lent w base f gr gc g7 p7 tv gs) (k : Nat) (m : Codec.Msg) (hk : f.msgs[k]? = some m) :
    ∃ gt ct g, tv = .slice (some ⟨gt, 0, none⟩) f.msgs.length ct ∧ gt < w.heap.size ∧ w.cell? ⟨gt, k, none⟩ = some (.slice (some ⟨g, 0, none⟩) (m.time.length + 2) (m.time.length + 2)) ∧ g < w.heap.size ∧
      NumsAt w w.heap.size (.slice (some ⟨g, 0, none⟩) (m.time.length + 2) (m.time.length + 2)) (m.time ++ [-77, -77]) := by
  have hkl := (List.getElem?_eq_some_iff.1 hk).1
  have hg : gs[k]? = some (gs[k]'(by have := h.len; omega)) := List.getElem?_eq_getElem (by have := h.len; omega)
  obtain ⟨gt, ct, hv, _, _⟩ := World.ownsRow.form h.times (by omega)
  have h2 := h.times
  rw [hv] at h2
  have hc := h2.cellAt k (by omega)
  have hb := h.each k m _ hk hg
  exact ⟨gt, ct, _, hv, (h2.lt gt rfl).2, hc.trans (tCells_at _ _ _ _ _ hk hg), hb.lt, nums_of_new hb hb.lt⟩

/-- What stands behind the messages that were lent. -/
theorem Lent.behind {w : World} {base : Nat} {f : Codec.Frame} {gr gc g7 p7 : Nat} {tv : Value} {gs : List Nat} (h : Lent w base f gr gc g7 p7 tv gs) : w.cell? ⟨g7, f.msgs.length * 4, none⟩ = some (.int .i64 (-77)) := by
  have hlen := msgCells_length f.msgs (tVals f.msgs gs) (tVals_length _ _ h.len)
  rw [h.msgs.cellAt (f.msgs.length * 4) (by omega), List.getElem?_append_right (by omega), show f.msgs.length * 4 - (msgCells f.msgs (tVals f.msgs gs)).length = 0 from by omega]
  rfl

set_option maxHeartbeats 1000000 in
theorem unspoilt_yes (f : Codec.Frame) (rv cv mv : Value) (B : Nat) (w : World) (hr : NumsAt w B rv f.row) (hc : NumsAt w B cv f.cut) (hm : MsgsAt w B mv f.msgs) (hB : B ≤ w.heap.size)
    (hl1 : f.row.length ≤ 17592186043904) (hl2 : f.cut.length ≤ 17592186043904) (hl3 : f.msgs.length ≤ 2513169434844) (htl : ∀ x ∈ f.msgs, x.time.length ≤ 17592186043904)
    (base gr gc g7 p7 : Nat) (tv : Value) (gs : List Nat) (hL : Lent w base f gr gc g7 p7 tv gs) :
    Calls Try.prog 11 #[.agg #[.int .i64 f.kind, .int .i64 f.src, .int .i64 f.dst, .int .i64 f.members, .int .i64 f.view, .int .i64 f.ballot, .int .i64 f.voted, .slice (some ⟨gr, 0, none⟩) f.row.length (f.row.length + 2), .slice (some ⟨gc, 0, none⟩) f.cut.length (f.cut.length + 2), .slice (some ⟨g7, 0, none⟩) f.msgs.length p7,
          .slice (some ⟨gr, 0, none⟩) (f.row.length + 2) (f.row.length + 2), .slice (some ⟨gc, 0, none⟩) (f.cut.length + 2) (f.cut.length + 2), tv, .slice (some ⟨g7, 0, none⟩) (f.msgs.length + 1) p7],
        .agg #[.int .i64 f.kind, .int .i64 f.src, .int .i64 f.dst, .int .i64 f.members, .int .i64 f.view, .int .i64 f.ballot, .int .i64 f.voted, rv, cv, mv]] w
      fun e w' => e = .returned (.bool true) ∧ Below w.heap.size w w' := by
  obtain ⟨ro, rn, rc, rfl⟩ := hr.form
  obtain ⟨co, cn, cc, rfl⟩ := hc.form
  obtain ⟨mo, mn, mc, rfl⟩ := hm.form
  obtain ⟨f0, f1, f2, f3, f4, f5, f6, row, cut, ms⟩ := f
  simp only at *
  have HR : Hid (∀ w', Below w.heap.size w w' → NumsAt w' B (.slice ro rn rc) row) := fun w' hb => hr.below (hb.mono hB)
  have HC : Hid (∀ w', Below w.heap.size w w' → NumsAt w' B (.slice co cn cc) cut) := fun w' hb => hc.below (hb.mono hB)
  obtain ⟨rfl, -⟩ := hm.entry
  have HM : Hid (∀ w', Below w.heap.size w w' → MsgsAt w' B (.slice mo ms.length mc) ms) := fun w' hb => hm.below (hb.mono hB)
  have HT : Hid (∀ x ∈ ms, x.time.length ≤ 17592186043904) := htl
  have HLe : Hid (∀ w', Below w.heap.size w w' → Lent w' base ⟨f0, f1, f2, f3, f4, f5, f6, row, cut, ms⟩ gr gc g7 p7 tv gs) := fun w' hb => hL.later hb
  have HLr : Hid (∀ w', Below w.heap.size w w' → NumsAt w' w.heap.size (.slice (some ⟨gr, 0, none⟩) (row.length + 2) (row.length + 2)) (row ++ [-77, -77])) := fun w' hb => by
    have := (nums_of_whole (c := row.length + 2) hL.row).below hb
    simpa using this
  have HLc : Hid (∀ w', Below w.heap.size w w' → NumsAt w' w.heap.size (.slice (some ⟨gc, 0, none⟩) (cut.length + 2) (cut.length + 2)) (cut ++ [-77, -77])) := fun w' hb => by
    have := (nums_of_whole (c := cut.length + 2) hL.cut).below hb
    simpa using this
  have HNew : Hid (∀ (W : World) (g N : Nat) (l : List Int), BlkAt W g 3 (ints (l ++ [-77, -77])).toArray → g < N → NumsAt W N (.slice (some ⟨g, 0, none⟩) (l.length + 2) (l.length + 2)) (l ++ [-77, -77])) := fun W g N l hb hg => nums_of_new hb hg
  have HLm : Hid (∀ w', Below w.heap.size w w' → MsgsAt w' w.heap.size (.slice (some ⟨g7, 0, none⟩) ms.length p7) ms) := fun w' hb => hL.msgsAt.below hb
  clear hr hc hm htl hL
  go_enter Try.func11, Try.ntmps11
  go_upto_region 1 with fail
  go_cut [5] (fun s5 wx => s5 = .bool true ∧ Hid (Boxes wx w.heap.size ⟨f0, f1, f2, f3, f4, f5, f6, row, cut, ms⟩ gr gc g7 p7 tv (.slice ro rn rc) (.slice co cn cc) (.slice mo ms.length mc)) ∧ Hid (Below w.heap.size w wx))
  case first =>
    go_region_held3 (fun w' => w'.cell? ⟨w.heap.size, 10, none⟩ = some (.slice (some ⟨gr, 0, none⟩) (row.length + 2) (row.length + 2)) ∧ w'.cell? ⟨w.heap.size + 1, 7, none⟩ = some (.slice ro rn rc)) (simp [go_sem, World.cell?_alloc_past])
      (first | (go_at_call_of 23 (Value.slice ro rn rc); refine (handed_at _ row B _ ?_ ?_ hl1).mono ?_; (exact HR.out _ (by repeat (first | exact Below.refl _ _ | apply Below.drew | refine Below.alloc ?_ (by first | omega | (simp <;> omega)) _))); (first | omega | (simp <;> omega)); rintro e w1 ⟨rfl, rfl⟩) | (go_at_call 27; refine (sameInts_any _ _ (row ++ [-77, -77]) w.heap.size (w.heap.size + 3) _ ?_ ?_ ?_).mono ?_; (exact HLr.out _ (by repeat (first | exact Below.refl _ _ | apply Below.drew | refine Below.alloc ?_ (by first | omega | (simp <;> omega)) _))); (exact HNew.out _ _ _ row (by repeat (first | exact BlkAt.new _ _ (by simp) 3 _ | refine BlkAt.drew ?_ | refine BlkAt.alloc ?_ _)) (by omega)); (unfold maxLen; simp <;> omega); rintro e w2 ⟨rfl, n2, rfl⟩))
    all_goals (go_wp2_with fail; go_meet)
    exact ⟨rfl, ⟨blk_drewN (((BlkAt.new _ _ rfl 34 _).alloc _).alloc _) _, blk_drewN ((BlkAt.new _ _ (by simp) 28 _).alloc _) _⟩, below_drewN ((((Below.refl _ _).alloc (Nat.le_refl _) _).alloc (by simp) _).alloc (by simp <;> omega) _) _⟩
  case rest =>
    obtain ⟨rfl, V1, HB1⟩ := hcut
    have hz1 : w.heap.size + 1 < wc.heap.size := V1.out.frame.lt
    have hz0 : w.heap.size < wc.heap.size := by omega
    obtain ⟨-, k11, -, -, -, k8, -⟩ := V1.out.cells
    simp only at k11
    go_upto_region 2 with fail
    go_cut [6] (fun s6 wx => s6 = .bool true ∧ Hid (Boxes wx w.heap.size ⟨f0, f1, f2, f3, f4, f5, f6, row, cut, ms⟩ gr gc g7 p7 tv (.slice ro rn rc) (.slice co cn cc) (.slice mo ms.length mc)) ∧ Hid (Below w.heap.size w wx))
    case first =>
      go_region_held3 (fun w' => w'.cell? ⟨w.heap.size, 11, none⟩ = some (.slice (some ⟨gc, 0, none⟩) (cut.length + 2) (cut.length + 2)) ∧ w'.cell? ⟨w.heap.size + 1, 8, none⟩ = some (.slice co cn cc)) (simp [go_sem, World.cell?_alloc_past, *])
        (first | (go_at_call_of 23 (Value.slice co cn cc); refine (handed_at _ cut B _ ?_ ?_ hl2).mono ?_; (exact HC.out _ (by repeat (first | exact HB1.out | apply Below.drew | refine Below.alloc ?_ (by first | omega | (simp <;> omega)) _))); (first | omega | (simp <;> omega)); rintro e w1 ⟨rfl, rfl⟩) | (go_at_call 27; refine (sameInts_any _ _ (cut ++ [-77, -77]) w.heap.size (wc.heap.size + 1) _ ?_ ?_ ?_).mono ?_; (exact HLc.out _ (by repeat (first | exact HB1.out | apply Below.drew | refine Below.alloc ?_ (by first | omega | (simp <;> omega)) _))); (exact HNew.out _ _ _ cut (by repeat (first | exact BlkAt.new _ _ (by simp) 3 _ | refine BlkAt.drew ?_ | refine BlkAt.alloc ?_ _)) (by omega)); (unfold maxLen; simp <;> omega); rintro e w2 ⟨rfl, n2, rfl⟩))
      all_goals (go_wp2_with fail; go_meet)
      exact ⟨rfl, V1.out.below (below_drewN ((Below.refl _ _).alloc (Nat.le_refl _) _) _) hz1, below_drewN (HB1.out.alloc (by omega) _) _⟩
    case rest =>
    clear V1 HB1 hz0 hz1 k11 k8
    obtain ⟨rfl, V1, HB1⟩ := hcut
    have hz1 : w.heap.size + 1 < wc.heap.size := V1.out.frame.lt
    have hz0 : w.heap.size < wc.heap.size := by omega
    obtain ⟨-, -, -, k13, -, -, k9⟩ := V1.out.cells
    simp only at k13
    have hp7 : ms.length + 1 ≤ p7 := (HLe.out _ HB1.out).cap
    have hi0 : (0 : Int) ≤ (ms.length : Int) := Int.natCast_nonneg _
    have hi1 : (ms.length : Int) ≤ (p7 : Int) := by omega
    have hi2 : ¬ (p7 : Int) < (ms.length : Int) := by omega
    have hi3 : ¬ (ms.length : Int) < 0 := by omega
    go_upto_region 4 with fail
    go_cut [8] (fun s6 wx => s6 = .bool true ∧ Hid (Boxes wx w.heap.size ⟨f0, f1, f2, f3, f4, f5, f6, row, cut, ms⟩ gr gc g7 p7 tv (.slice ro rn rc) (.slice co cn cc) (.slice mo ms.length mc)) ∧ Hid (Below w.heap.size w wx))
    case first =>
      go_region_held3 (fun w' => w'.cell? ⟨w.heap.size, 13, none⟩ = some (.slice (some ⟨g7, 0, none⟩) (ms.length + 1) p7) ∧ w'.cell? ⟨w.heap.size + 1, 9, none⟩ = some (.slice mo ms.length mc)) (simp [go_sem, *])
        (first | (go_at_call 28; refine (sameMsgs_any _ _ ms w.heap.size B _ (HLm.out _ HB1.out.drew) (HM.out _ HB1.out.drew) ?_ ?_ ?_ ?_).mono ?_; (simp <;> omega); (simp <;> omega); (unfold maxLen; omega); (intro m hm; have := HT.out m hm; unfold maxLen; omega); rintro e w2 ⟨rfl, hb2⟩; have HB2 : Hid (Below wc.heap.size wc w2) := (Below.refl wc.heap.size wc).drew.trans hb2; obtain ⟨hc2, -⟩ := bcell HB2.out; clear hb2))
      all_goals (go_wp2_with fail; go_meet)
      all_goals exact ⟨rfl, V1.out.below HB2.out hz1, HB1.out.trans (HB2.out.mono (by omega))⟩
    case rest =>
    clear V1 HB1 hz0 hz1 k13 k9
    obtain ⟨rfl, V1, HB1⟩ := hcut
    obtain ⟨-, -, -, k13, -, -, -⟩ := V1.out.cells
    simp only at k13
    have kb := (HLe.out _ HB1.out).behind
    simp only at kb
    have hi4 : (ms.length : Int) < (ms.length : Int) + 1 := by omega
    go_wp2
    clear k13 kb hi1 hi2 hi4
    go_loopw [9] (fun i wr => ∃ k : Nat, k ≤ ms.length ∧ i = .int .i64 k ∧ Hid (Boxes wr w.heap.size ⟨f0, f1, f2, f3, f4, f5, f6, row, cut, ms⟩ gr gc g7 p7 tv (.slice ro rn rc) (.slice co cn cc) (.slice mo ms.length mc)) ∧ Hid (Below w.heap.size w wr)) (fun i _ => ms.length - (intOf i).toNat)
    case atStart => exact ⟨0, by omega, rfl, V1, HB1⟩
    case round =>
      clear V1 HB1
      obtain ⟨k, hk, rfl, V1, HB1⟩ := hrel
      have hz1 : w.heap.size + 1 < wr.heap.size := V1.out.frame.lt
      have hz0 : w.heap.size < wr.heap.size := by omega
      by_cases hlt : k < ms.length
      · obtain ⟨m, hm⟩ : ∃ m, ms[k]? = some m := ⟨ms[k], List.getElem?_eq_getElem hlt⟩
        obtain ⟨mb, moff, xo, xn, xc, rfl, hmb, -, -, m2, -, mt⟩ := (HM.out _ HB1.out).entry.2 k m hm
        obtain ⟨gt, ct, g, rfl, hgt, ck, hg, ht⟩ := (HLe.out _ HB1.out).timeAt k m hm
        simp only at *
        obtain ⟨-, -, k12, -, -, -, k9⟩ := V1.out.cells
        try simp only at k12
        have hml := HT.out m (List.mem_of_getElem? hm)
        have HMT : Hid (NumsAt wr B (.slice xo xn xc) m.time) := mt
        have HLT : Hid (NumsAt wr wr.heap.size (.slice (some ⟨g, 0, none⟩) (m.time.length + 2) (m.time.length + 2)) (m.time ++ [-77, -77])) := ht
        clear mt ht hm
        have hk0 : (0 : Int) ≤ (k : Int) := Int.natCast_nonneg _
        have hk1 : (k : Int) < (ms.length : Int) := by omega
        have hmb' : mb < wr.heap.size := by omega
        go_upto_region 10 with fail
        go_cut [10] (fun s10 wx => s10 = .bool true ∧ Hid (Boxes wx w.heap.size ⟨f0, f1, f2, f3, f4, f5, f6, row, cut, ms⟩ gr gc g7 p7 (.slice (some ⟨gt, 0, none⟩) ms.length ct) (.slice ro rn rc) (.slice co cn cc) (.slice (some ⟨mb, moff, none⟩) ms.length mc)) ∧ Hid (Below w.heap.size w wx))
        case first =>
          go_region_held3 (fun w' => w'.cell? ⟨w.heap.size, 12, none⟩ = some (.slice (some ⟨gt, 0, none⟩) ms.length ct) ∧ w'.cell? ⟨w.heap.size + 1, 9, none⟩ = some (.slice (some ⟨mb, moff, none⟩) ms.length mc) ∧ w'.cell? ⟨gt, k, none⟩ = some (.slice (some ⟨g, 0, none⟩) (m.time.length + 2) (m.time.length + 2)) ∧ w'.cell? ⟨mb, moff + k * 4 + 2, none⟩ = some (.slice xo xn xc)) (simp [go_sem, *])
            (first | (go_at_call_of 23 (Value.slice xo xn xc); refine (handed_at _ m.time B _ ?_ ?_ hml).mono ?_; (exact HMT.out.below (by repeat (first | exact Below.refl _ _ | apply Below.drew | refine Below.alloc ?_ (by first | omega | (simp <;> omega)) _))); (first | omega | (simp <;> omega)); rintro e w1 ⟨rfl, rfl⟩) | (go_at_call 27; refine (sameInts_any _ _ (m.time ++ [-77, -77]) wr.heap.size (wr.heap.size + 1) _ ?_ ?_ ?_).mono ?_; (exact HLT.out.below (by repeat (first | exact Below.refl _ _ | apply Below.drew | refine Below.alloc ?_ (by first | omega | (simp <;> omega)) _))); (exact HNew.out _ _ _ m.time (by repeat (first | exact BlkAt.new _ _ (by simp) 3 _ | refine BlkAt.drew ?_ | refine BlkAt.alloc ?_ _)) (by omega)); (unfold maxLen; simp <;> omega); rintro e w2 ⟨rfl, n2, rfl⟩))
          all_goals (go_wp2_with fail; go_meet)
          all_goals exact ⟨rfl, V1.out.below (below_drewN ((Below.refl _ _).alloc (Nat.le_refl _) _) _) hz1, below_drewN (HB1.out.alloc (by omega) _) _⟩
        case rest =>
        obtain ⟨rfl, V2, HB2⟩ := hcut
        go_wp2
        go_roundw
        case rel => exact ⟨k + 1, by omega, by go_num, V2, HB2⟩
        case measure => simp [intOf]; omega
      · go_wp2
        go_ret
        exact ⟨rfl, HB1.out⟩
end Go.Proofs.Ytoklolfaemhfnaa
