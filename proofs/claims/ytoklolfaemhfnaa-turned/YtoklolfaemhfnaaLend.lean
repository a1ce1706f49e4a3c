/-
  The walk of the law's lend: a frame's lists are handed out with two strangers behind each, its messages with one more; what is lent reads as before.
-/
import Derived.Test.YtoklolfaemhfnaaHand2
import Derived.Test.YtoklolfaemhfnaaRefDec
import Derived.Deep.RegionHeld3
import Derived.Deep.DeepCutAuto
namespace Go.Proofs.Ytoklolfaemhfnaa
open Go.RowKit

theorem BlkAt.drew {w : World} {X : Nat} {T : TypeId} {cs : Array Value} (h : BlkAt w X T cs) : BlkAt w.drew X T cs := h

theorem info25 : (Try.prog.info? 25).map (fun i => (i.zero, i.size, i.bytes)) = some (some (.slice none 0 0), 1, 24) := by kernel_rfl

/-- The lists that were handed out for each message's Time. -/
def tCells : List Codec.Msg → List Nat → List Value
  | m :: ms, g :: gs => .slice (some ⟨g, 0, none⟩) (m.time.length + 2) (m.time.length + 2) :: tCells ms gs
  | _, _ => []
def tVals : List Codec.Msg → List Nat → List Value
  | m :: ms, g :: gs => .slice (some ⟨g, 0, none⟩) m.time.length (m.time.length + 2) :: tVals ms gs
  | _, _ => []
theorem tCells_snoc (ms : List Codec.Msg) : ∀ (gs : List Nat) (m : Codec.Msg) (g : Nat), gs.length = ms.length → tCells (ms ++ [m]) (gs ++ [g]) = tCells ms gs ++ [.slice (some ⟨g, 0, none⟩) (m.time.length + 2) (m.time.length + 2)] := by
  induction ms with
  | nil => intro gs m g h; have : gs = [] := List.eq_nil_of_length_eq_zero h; subst this; simp [tCells]
  | cons x ms ih =>
    intro gs m g h
    cases gs with
    | nil => simp at h
    | cons y gs => simp [tCells, ih gs m g (by simpa using h)]
theorem tVals_snoc (ms : List Codec.Msg) : ∀ (gs : List Nat) (m : Codec.Msg) (g : Nat), gs.length = ms.length → tVals (ms ++ [m]) (gs ++ [g]) = tVals ms gs ++ [.slice (some ⟨g, 0, none⟩) m.time.length (m.time.length + 2)] := by
  induction ms with
  | nil => intro gs m g h; have : gs = [] := List.eq_nil_of_length_eq_zero h; subst this; simp [tVals]
  | cons x ms ih =>
    intro gs m g h
    cases gs with
    | nil => simp at h
    | cons y gs => simp [tVals, ih gs m g (by simpa using h)]
theorem tVals_length (ms : List Codec.Msg) : ∀ gs : List Nat, gs.length = ms.length → (tVals ms gs).length = ms.length := by
  induction ms with
  | nil => intro gs h; simp [tVals]
  | cons m ms ih =>
    intro gs h
    cases gs with
    | nil => simp at h
    | cons g gs => simp [tVals, ih gs (by simpa using h)]
theorem blk_ne {w : World} {X b n sz : Nat} {t e : TypeId} {cs : Array Value} {v : Value} {xs : List Value} (h : BlkAt w X t cs) (h' : w.ownsRow b e sz v n xs) (hne : t ≠ e) : v.ownBlock ≠ some X := by
  intro hg
  rcases h'.2 with ⟨rfl, _⟩ | ⟨q, cap, cur, rfl, _, hq, _⟩
  · simp [Value.ownBlock] at hg
  · simp [Value.ownBlock] at hg
    subst hg
    unfold BlkAt at h
    rw [h] at hq
    simp at hq
    exact hne hq.2
theorem blk_apart {w : World} {X Y : Nat} {t e : TypeId} {cs ds : Array Value} (h : BlkAt w X t cs) (h' : BlkAt w Y e ds) (hne : t ≠ e) : X ≠ Y := by
  intro he
  subst he
  unfold BlkAt at h h'
  rw [h] at h'
  simp at h'
  exact hne h'.2
theorem ownsRow_of_grown {w w' : World} {b n sz : Nat} {e e' : TypeId} {v v' : Value} {xs : List Value} {b' n' sz' : Nat} {xs' : List Value} (h : w.ownsRow b e sz v n xs) (h' : w.ownsRow b' e' sz' v' n' xs') (hne : e ≠ e') (hg : w.grownBy w' v'.ownBlock) : w'.ownsRow b e sz v n xs := by
  refine h.kept hg ?_
  rcases ho : v.ownBlock with _ | q
  · exact .inl rfl
  · right; intro e; exact own_ne h h' hne q ho e.symm

/-- What lend has laid so far. -/
structure Lain (w : World) (b : Nat) (ms : List Codec.Msg) (gs : List Nat) (tv mv : Value) : Prop where
  len : gs.length = ms.length
  times : w.ownsRow b 25 1 tv ms.length (tCells ms gs)
  msgs : w.ownsRow b 50 4 mv ms.length (msgCells ms (tVals ms gs))
  each : ∀ (j : Nat) (m : Codec.Msg) (g : Nat), ms[j]? = some m → gs[j]? = some g → BlkAt w g 3 (ints (m.time ++ [-77, -77])).toArray

/-- What lend leaves: the lists handed out, each with its two strangers behind, and one message more. -/
structure Lent (w : World) (base : Nat) (f : Codec.Frame) (gr gc g7 p7 : Nat) (tv : Value) (gs : List Nat) : Prop where
  row : BlkAt w gr 3 (ints (f.row ++ [-77, -77])).toArray
  cut : BlkAt w gc 3 (ints (f.cut ++ [-77, -77])).toArray
  len : gs.length = f.msgs.length
  times : w.ownsRow base 25 1 tv f.msgs.length (tCells f.msgs gs)
  msgs : w.ownsRow base 50 4 (.slice (some ⟨g7, 0, none⟩) (f.msgs.length + 1) p7) (f.msgs.length + 1) (msgCells f.msgs (tVals f.msgs gs) ++ [.int .i64 (-77), .int .i64 0, .slice none 0 0, .string ⟨#[]⟩])
  each : ∀ (j : Nat) (m : Codec.Msg) (g : Nat), f.msgs[j]? = some m → gs[j]? = some g → BlkAt w g 3 (ints (m.time ++ [-77, -77])).toArray
theorem Lent.set {w : World} {base : Nat} {f : Codec.Frame} {gr gc g7 p7 : Nat} {tv : Value} {gs : List Nat} (h : Lent w base f gr gc g7 p7 tv gs) {Y : Nat} {cs : Array Value} (hY : BlkAt w Y 34 cs) (j : Nat) (u : Value) : Lent (w.setCell ⟨Y, j, none⟩ u) base f gr gc g7 p7 tv gs :=
  ⟨h.row.other (blk_apart h.row hY (by decide)) j u, h.cut.other (blk_apart h.cut hY (by decide)) j u, h.len, ownsRow_setOther h.times (blk_ne hY h.times (by decide)) j u, ownsRow_setOther h.msgs (blk_ne hY h.msgs (by decide)) j u, fun i m g hi hg => (h.each i m g hi hg).other (blk_apart (h.each i m g hi hg) hY (by decide)) j u⟩
theorem Lent.base {w : World} {base base' : Nat} {f : Codec.Frame} {gr gc g7 p7 : Nat} {tv : Value} {gs : List Nat} (h : Lent w base f gr gc g7 p7 tv gs) (hb : base' ≤ base) : Lent w base' f gr gc g7 p7 tv gs :=
  ⟨h.row, h.cut, h.len, ownsRow_base h.times hb, ownsRow_base h.msgs hb, h.each⟩
structure Laid (w0 w : World) (X D base : Nat) (f : Codec.Frame) (gr gc g7 p7 : Nat) (tv : Value) (gs : List Nat) : Prop where
  lent : Lent w base f gr gc g7 p7 tv gs
  bx : ∃ cs, BlkAt w X 34 cs
  bd : ∃ cs, BlkAt w D 34 cs
  hx : w0.heap.size ≤ X
  hd : w0.heap.size ≤ D
  ne : X ≠ D
  below : Below w0.heap.size w0 w
theorem Laid.setX {w0 w : World} {X D base : Nat} {f : Codec.Frame} {gr gc g7 p7 : Nat} {tv : Value} {gs : List Nat} (h : Laid w0 w X D base f gr gc g7 p7 tv gs) (j : Nat) (u : Value) : Laid w0 (w.setCell ⟨X, j, none⟩ u) X D base f gr gc g7 p7 tv gs := by
  obtain ⟨cs, hc⟩ := h.bx
  obtain ⟨ds, hd⟩ := h.bd
  exact ⟨h.lent.set hc j u, ⟨_, hc.set j u⟩, ⟨_, hd.other h.ne.symm j u⟩, h.hx, h.hd, h.ne, h.below.setCell (p := ⟨X, j, none⟩) h.hx u⟩
theorem Laid.setD {w0 w : World} {X D base : Nat} {f : Codec.Frame} {gr gc g7 p7 : Nat} {tv : Value} {gs : List Nat} (h : Laid w0 w X D base f gr gc g7 p7 tv gs) (j : Nat) (u : Value) : Laid w0 (w.setCell ⟨D, j, none⟩ u) X D base f gr gc g7 p7 tv gs := by
  obtain ⟨cs, hc⟩ := h.bx
  obtain ⟨ds, hd⟩ := h.bd
  exact ⟨h.lent.set hd j u, ⟨_, hc.other h.ne j u⟩, ⟨_, hd.set j u⟩, h.hx, h.hd, h.ne, h.below.setCell (p := ⟨D, j, none⟩) h.hd u⟩

theorem five (w : World) (a b c d e : Array Value) (ta tb tc td te : TypeId) :
    BlkAt (((((w.alloc (.cells a ta)).alloc (.cells b tb)).alloc (.cells c tc)).alloc (.cells d td)).alloc (.cells e te)).drew w.heap.size ta a ∧
    BlkAt (((((w.alloc (.cells a ta)).alloc (.cells b tb)).alloc (.cells c tc)).alloc (.cells d td)).alloc (.cells e te)).drew (w.heap.size + 1) tb b ∧
    BlkAt (((((w.alloc (.cells a ta)).alloc (.cells b tb)).alloc (.cells c tc)).alloc (.cells d td)).alloc (.cells e te)).drew (w.heap.size + 1 + 1) tc c ∧
    BlkAt (((((w.alloc (.cells a ta)).alloc (.cells b tb)).alloc (.cells c tc)).alloc (.cells d td)).alloc (.cells e te)).drew (w.heap.size + 1 + 1 + 1) td d ∧
    BlkAt (((((w.alloc (.cells a ta)).alloc (.cells b tb)).alloc (.cells c tc)).alloc (.cells d td)).alloc (.cells e te)).drew (w.heap.size + 1 + 1 + 1 + 1) te e ∧
    Below w.heap.size w (((((w.alloc (.cells a ta)).alloc (.cells b tb)).alloc (.cells c tc)).alloc (.cells d td)).alloc (.cells e te)).drew :=
  ⟨((((BlkAt.new w _ rfl _ _).alloc _).alloc _).alloc _).alloc _, (((BlkAt.new (w.alloc (.cells a ta)) _ (by simp) _ _).alloc _).alloc _).alloc _, ((BlkAt.new ((w.alloc (.cells a ta)).alloc (.cells b tb)) _ (by simp) _ _).alloc _).alloc _,
    (BlkAt.new (((w.alloc (.cells a ta)).alloc (.cells b tb)).alloc (.cells c tc)) _ (by simp) _ _).alloc _, BlkAt.new ((((w.alloc (.cells a ta)).alloc (.cells b tb)).alloc (.cells c tc)).alloc (.cells d td)) _ (by simp) _ _,
    ((((((Below.refl w.heap.size w).alloc (Nat.le_refl _) _).alloc (by simp) _).alloc (by simp; omega) _).alloc (by simp; omega) _).alloc (by simp; omega) _).drew⟩

set_option maxHeartbeats 1000000 in
theorem lend_any (f : Codec.Frame) (rv cv mv : Value) (B : Nat) (w : World) (hr : NumsAt w B rv f.row) (hc : NumsAt w B cv f.cut) (hm : MsgsAt w B mv f.msgs) (hB : B ≤ w.heap.size)
    (hl1 : f.row.length ≤ 17592186043904) (hl2 : f.cut.length ≤ 17592186043904) (hl3 : f.msgs.length ≤ 2513169434844) (htl : ∀ x ∈ f.msgs, x.time.length ≤ 17592186043904) :
    Calls Try.prog 9 #[.agg #[.int .i64 f.kind, .int .i64 f.src, .int .i64 f.dst, .int .i64 f.members, .int .i64 f.view, .int .i64 f.ballot, .int .i64 f.voted, rv, cv, mv]] w
      fun e w' => ∃ gr gc g7 p7 tv gs, e = .returned (.agg #[.int .i64 f.kind, .int .i64 f.src, .int .i64 f.dst, .int .i64 f.members, .int .i64 f.view, .int .i64 f.ballot, .int .i64 f.voted, .slice (some ⟨gr, 0, none⟩) f.row.length (f.row.length + 2), .slice (some ⟨gc, 0, none⟩) f.cut.length (f.cut.length + 2), .slice (some ⟨g7, 0, none⟩) f.msgs.length p7,
          .slice (some ⟨gr, 0, none⟩) (f.row.length + 2) (f.row.length + 2), .slice (some ⟨gc, 0, none⟩) (f.cut.length + 2) (f.cut.length + 2), tv, .slice (some ⟨g7, 0, none⟩) (f.msgs.length + 1) p7]) ∧ Lent w' w.heap.size f gr gc g7 p7 tv gs ∧ Below w.heap.size w w' := by
  obtain ⟨ro, rn, rc, rfl⟩ := hr.form
  obtain ⟨co, cn, cc, rfl⟩ := hc.form
  obtain ⟨mo, mn, mc, rfl⟩ := hm.form
  obtain ⟨f0, f1, f2, f3, f4, f5, f6, row, cut, ms⟩ := f
  simp only at *
  have HR : Hid (∀ w', Below w.heap.size w w' → NumsAt w' B (.slice ro rn rc) row) := fun w' hb => hr.below (hb.mono hB)
  have HC : Hid (∀ w', Below w.heap.size w w' → NumsAt w' B (.slice co cn cc) cut) := fun w' hb => hc.below (hb.mono hB)
  obtain ⟨rfl, -⟩ := hm.entry
  have HM : Hid (∀ w', Below w.heap.size w w' → MsgsAt w' B (.slice mo ms.length mc) ms) := fun w' hb => hm.below (hb.mono hB)
  have HT : Hid (∀ x ∈ ms, x.time.length ≤ 17592186043904) := htl
  have hrn : rn ≤ row.length + 2 := by have := hr.entry.1; omega
  have hcn : cn ≤ cut.length + 2 := by have := hc.entry.1; omega
  have HRN : Hid (rn = row.length) := hr.entry.1
  have HCN : Hid (cn = cut.length) := hc.entry.1
  clear hr hc hm htl
  obtain ⟨i0, hi0, hz0, hz1, hz2⟩ := info_parts info50
  obtain ⟨i1, hi1, hy0, hy1, hy2⟩ := info_parts info25
  go_enter Try.func9, Try.ntmps9
  go_upto_region 1 with fail
  go_cut [3] (fun s3 wx => ∃ X gr gc, s3 = .pointer (some ⟨X, 0, none⟩) ∧ w.heap.size + 2 ≤ X ∧ w.heap.size + 2 ≤ gr ∧ w.heap.size + 2 ≤ gc ∧ BlkAt wx w.heap.size 28 #[.int .i64 f0, .int .i64 f1, .int .i64 f2, .int .i64 f3, .int .i64 f4, .int .i64 f5, .int .i64 f6, .slice ro rn rc, .slice co cn cc, .slice mo ms.length mc] ∧ BlkAt wx (w.heap.size + 1) 34 #[.int .i64 0, .int .i64 0, .int .i64 0, .int .i64 0, .int .i64 0, .int .i64 0, .int .i64 0, .slice none 0 0, .slice none 0 0, .slice none 0 0, .slice none 0 0, .slice none 0 0, .slice none 0 0, .slice none 0 0] ∧ BlkAt wx X 34 #[.int .i64 f0, .int .i64 f1, .int .i64 f2, .int .i64 f3, .int .i64 f4, .int .i64 f5, .int .i64 f6, .slice ro rn rc, .slice co cn cc, .slice mo ms.length mc, .slice (some ⟨gr, 0, none⟩) (row.length + 2) (row.length + 2), .slice (some ⟨gc, 0, none⟩) (cut.length + 2) (cut.length + 2), .slice none 0 0, .slice none 0 0] ∧ BlkAt wx gr 3 (ints (row ++ [-77, -77])).toArray ∧ BlkAt wx gc 3 (ints (cut ++ [-77, -77])).toArray ∧ Below w.heap.size w wx)
  case first =>
    go_region_held3 (fun w' => w'.cell? ⟨w.heap.size, 0, none⟩ = some (.int .i64 f0) ∧ w'.cell? ⟨w.heap.size, 1, none⟩ = some (.int .i64 f1) ∧ w'.cell? ⟨w.heap.size, 2, none⟩ = some (.int .i64 f2) ∧ w'.cell? ⟨w.heap.size, 3, none⟩ = some (.int .i64 f3) ∧ w'.cell? ⟨w.heap.size, 4, none⟩ = some (.int .i64 f4) ∧ w'.cell? ⟨w.heap.size, 5, none⟩ = some (.int .i64 f5) ∧ w'.cell? ⟨w.heap.size, 6, none⟩ = some (.int .i64 f6) ∧ w'.cell? ⟨w.heap.size, 7, none⟩ = some (.slice ro rn rc) ∧ w'.cell? ⟨w.heap.size, 8, none⟩ = some (.slice co cn cc) ∧ w'.cell? ⟨w.heap.size, 9, none⟩ = some (.slice mo ms.length mc)) (simp [go_sem, World.cell?_alloc_past])
      (first | (go_at_call_of 23 (Value.slice ro rn rc); refine (handed_at _ row B _ ?_ ?_ hl1).mono ?_; (exact HR.out _ (by repeat (first | exact Below.refl _ _ | apply Below.drew | refine Below.alloc ?_ (by simp <;> omega) _))); (simp <;> omega); rintro e w1 ⟨rfl, rfl⟩) | (go_at_call_of 23 (Value.slice co cn cc); refine (handed_at _ cut B _ ?_ ?_ hl2).mono ?_; (exact HC.out _ (by repeat (first | exact Below.refl _ _ | apply Below.drew | refine Below.alloc ?_ (by simp <;> omega) _))); (simp <;> omega); rintro e w2 ⟨rfl, rfl⟩))
    all_goals (go_wp2_with fail; go_meet)
    · obtain ⟨h1, h2, h3, h4, h5, hb⟩ := five w _ _ _ _ _ _ _ _ _ _
      exact ⟨_, _, _, rfl, by omega, by omega, by omega, h1, h2, h5, h3, h4, hb⟩
    · obtain ⟨h1, h2, h3, h4, h5, hb⟩ := five w _ _ _ _ _ _ _ _ _ _
      exact ⟨_, _, _, rfl, by omega, by omega, by omega, h1, h2, h4, h3, h5, hb⟩
    · obtain ⟨h1, h2, h3, h4, h5, hb⟩ := five w _ _ _ _ _ _ _ _ _ _
      exact ⟨_, _, _, rfl, by omega, by omega, by omega, h1, h2, h3, h4, h5, hb⟩
  case rest =>
    obtain ⟨X, gr, gc, rfl, hX, hgr, hgc, P1, D1, X1, R1, K1, B1⟩ := hcut
    have c9 := P1.cell 9 _ rfl
    go_wp2
    clear c9
    go_loopw [5] (fun i wr => ∃ (k : Nat) (acc : List Codec.Msg) (gs : List Nat) (ta qo : Option Addr) (tn tc qn qc : Nat), k ≤ ms.length ∧ i = .int .i64 k ∧ Hid (acc = ms.take k) ∧ Lain wr (w.heap.size + 2) acc gs (.slice ta tn tc) (.slice qo qn qc) ∧
      BlkAt wr w.heap.size 28 #[.int .i64 f0, .int .i64 f1, .int .i64 f2, .int .i64 f3, .int .i64 f4, .int .i64 f5, .int .i64 f6, .slice ro rn rc, .slice co cn cc, .slice mo ms.length mc] ∧ BlkAt wr (w.heap.size + 1) 34 #[.int .i64 0, .int .i64 0, .int .i64 0, .int .i64 0, .int .i64 0, .int .i64 0, .int .i64 0, .slice none 0 0, .slice none 0 0, .slice none 0 0, .slice none 0 0, .slice none 0 0, .slice none 0 0, .slice none 0 0] ∧ BlkAt wr X 34 #[.int .i64 f0, .int .i64 f1, .int .i64 f2, .int .i64 f3, .int .i64 f4, .int .i64 f5, .int .i64 f6, .slice ro rn rc, .slice co cn cc, .slice mo ms.length mc, .slice (some ⟨gr, 0, none⟩) (row.length + 2) (row.length + 2), .slice (some ⟨gc, 0, none⟩) (cut.length + 2) (cut.length + 2), .slice ta tn tc, .slice qo qn qc] ∧ BlkAt wr gr 3 (ints (row ++ [-77, -77])).toArray ∧ BlkAt wr gc 3 (ints (cut ++ [-77, -77])).toArray ∧ Below w.heap.size w wr) (fun i _ => ms.length - (intOf i).toNat)
    case atStart => exact ⟨0, [], [], none, none, 0, 0, 0, 0, by omega, rfl, rfl, ⟨rfl, World.ownsRow_nil _ _ _ _, World.ownsRow_nil _ _ _ _, fun j m g hj => by simp at hj⟩, P1, D1, X1, R1, K1, B1⟩
    case round =>
      clear P1 D1 X1 R1 K1 B1
      obtain ⟨k, acc, gs, ta, qo, tn, tc, qn, qc, hk, rfl, HAcc, L, P1, D1, X1, R1, K1, B1⟩ := hrel
      have z1 := P1.lt
      have zD := D1.lt
      have zX := X1.lt
      have c9 := P1.cell 9 _ rfl
      by_cases hlt : k < ms.length
      · obtain ⟨x, hx⟩ : ∃ x, ms[k]? = some x := ⟨ms[k], List.getElem?_eq_getElem hlt⟩
        obtain ⟨xb, off, xo, xn, xc, hmo, hxB, d0, d1, d2, d3, htm⟩ := (HM.out _ B1).entry.2 k x hx
        subst hmo
        have hxn : xn = x.time.length := (htm.entry).1
        subst hxn
        have hxl := HT.out x (List.mem_of_getElem? hx)
        have HTk : Hid (acc ++ [x] = ms.take (k + 1)) := by
          show _ = _
          rw [HAcc.out]
          obtain ⟨h1, h2⟩ := List.getElem?_eq_some_iff.1 hx
          rw [List.take_succ_eq_append_getElem h1, h2]
        have HTm : Hid (∀ o, NumsAt (wr.alloc o) B (.slice xo x.time.length xc) x.time) := fun o => htm.below ((Below.refl _ _).alloc (by omega) o)
        clear htm hx
        go_wp2_with fail
        refine (handed_at _ x.time B _ (HTm.out _) (by simp; omega) hxl).mono ?_
        rintro e w2 ⟨rfl, hw2⟩
        rw [show (wr.alloc (.cells #[.int .i64 x.sender, .int .i64 x.seq, .slice xo x.time.length xc, .string x.text] 50)).heap.size = wr.heap.size + 1 from by simp]
        have M2 : BlkAt w2 wr.heap.size 50 #[.int .i64 x.sender, .int .i64 x.seq, .slice xo x.time.length xc, .string x.text] := by rw [hw2]; exact (BlkAt.new wr _ rfl _ _).alloc _
        have G2 : BlkAt w2 (wr.heap.size + 1) 3 (ints (x.time ++ [-77, -77])).toArray := by rw [hw2]; exact BlkAt.new (wr.alloc _) _ (by simp) _ _
        have P2 : BlkAt w2 w.heap.size 28 #[.int .i64 f0, .int .i64 f1, .int .i64 f2, .int .i64 f3, .int .i64 f4, .int .i64 f5, .int .i64 f6, .slice ro rn rc, .slice co cn cc, .slice (some ⟨xb, off, none⟩) ms.length mc] := by rw [hw2]; exact (P1.alloc _).alloc _
        have D2 : BlkAt w2 (w.heap.size + 1) 34 #[.int .i64 0, .int .i64 0, .int .i64 0, .int .i64 0, .int .i64 0, .int .i64 0, .int .i64 0, .slice none 0 0, .slice none 0 0, .slice none 0 0, .slice none 0 0, .slice none 0 0, .slice none 0 0, .slice none 0 0] := by rw [hw2]; exact (D1.alloc _).alloc _
        have X2 : BlkAt w2 X 34 #[.int .i64 f0, .int .i64 f1, .int .i64 f2, .int .i64 f3, .int .i64 f4, .int .i64 f5, .int .i64 f6, .slice ro rn rc, .slice co cn cc, .slice (some ⟨xb, off, none⟩) ms.length mc, .slice (some ⟨gr, 0, none⟩) (row.length + 2) (row.length + 2), .slice (some ⟨gc, 0, none⟩) (cut.length + 2) (cut.length + 2), .slice ta tn tc, .slice qo qn qc] := by rw [hw2]; exact (X1.alloc _).alloc _
        have R2 : BlkAt w2 gr 3 (ints (row ++ [-77, -77])).toArray := by rw [hw2]; exact (R1.alloc _).alloc _
        have K2 : BlkAt w2 gc 3 (ints (cut ++ [-77, -77])).toArray := by rw [hw2]; exact (K1.alloc _).alloc _
        have L2 : Lain w2 (w.heap.size + 2) acc gs (.slice ta tn tc) (.slice qo qn qc) := by
          rw [hw2]; exact ⟨L.len, (L.times.alloc _).alloc _, (L.msgs.alloc _).alloc _, fun j m g hj hg => ((L.each j m g hj hg).alloc _).alloc _⟩
        have B2 : Below w.heap.size w w2 := by rw [hw2]; exact (B1.alloc (by omega) _).alloc (by simp; omega) _
        have z2 : w2.heap.size = wr.heap.size + 2 := by rw [hw2]; simp
        have HZ2 : Hid (_ = _) := z2
        have htk : acc.length = k := by rw [HAcc.out]; simp; omega
        have HTK : Hid (_ = _) := htk
        have hqM : (Value.slice qo qn qc).ownBlock ≠ some wr.heap.size := fun e => by have := (L.msgs.lt _ e).2; omega
        clear hw2 z2 htk P1 D1 X1 R1 K1 L B1
        have c12 := X2.cell 12 _ rfl
        have f12 := X2.frozen 12
        go_wp2_with (at_builtin; refine wpList_append_own_at _ rfl _ _ 32 rfl (w.heap.size + 2) 25 i1 (.slice none 0 0) 1 24 Try.underlying32 hi1 hy0 hy1 hy2 rfl (by decide) _ _ _ rfl (L2.times.alloc _) ⟨w2.heap.size, 0, none⟩ 1 1 [.slice (some ⟨wr.heap.size + 1, 0, none⟩) (x.time.length + 2) (x.time.length + 2)] rfl rfl ?c1 ?c2 ?c3 ?c4 ?c5 ?_)
        case c1 =>
          intro j u hj
          match j, hj with
          | 0, hj => simp at hj; subst hj; simp [Addr.add]
        case c2 => intro u hu; simp at hu; subst hu; rfl
        case c3 => unfold maxLen; rw [HTK.out]; omega
        case c4 => rw [HTK.out]; omega
        case c5 => have := HZ2.out; simp; omega
        intro v3 w3 hown3 hgrow3 _ _
        obtain ⟨g3, p3, hv3, _, _⟩ := World.ownsRow.form hown3 (by omega)
        rw [hv3]
        rw [hv3] at hown3
        have z3 := hgrow3.size
        simp at z3
        have M3 := (M2.alloc (.cells #[.slice (some ⟨wr.heap.size + 1, 0, none⟩) (x.time.length + 2) (x.time.length + 2)] 25)).grown hgrow3 (blk_ne M2 L2.times (by decide))
        have G3 := (G2.alloc (.cells #[.slice (some ⟨wr.heap.size + 1, 0, none⟩) (x.time.length + 2) (x.time.length + 2)] 25)).grown hgrow3 (blk_ne G2 L2.times (by decide))
        have P3 := (P2.alloc (.cells #[.slice (some ⟨wr.heap.size + 1, 0, none⟩) (x.time.length + 2) (x.time.length + 2)] 25)).grown hgrow3 (blk_ne P2 L2.times (by decide))
        have D3 := (D2.alloc (.cells #[.slice (some ⟨wr.heap.size + 1, 0, none⟩) (x.time.length + 2) (x.time.length + 2)] 25)).grown hgrow3 (blk_ne D2 L2.times (by decide))
        have X3 := (X2.alloc (.cells #[.slice (some ⟨wr.heap.size + 1, 0, none⟩) (x.time.length + 2) (x.time.length + 2)] 25)).grown hgrow3 (blk_ne X2 L2.times (by decide))
        have R3 := (R2.alloc (.cells #[.slice (some ⟨wr.heap.size + 1, 0, none⟩) (x.time.length + 2) (x.time.length + 2)] 25)).grown hgrow3 (blk_ne R2 L2.times (by decide))
        have K3 := (K2.alloc (.cells #[.slice (some ⟨wr.heap.size + 1, 0, none⟩) (x.time.length + 2) (x.time.length + 2)] 25)).grown hgrow3 (blk_ne K2 L2.times (by decide))
        have Q3 := ownsRow_of_grown (L2.msgs.alloc (.cells #[.slice (some ⟨wr.heap.size + 1, 0, none⟩) (x.time.length + 2) (x.time.length + 2)] 25)) (L2.times.alloc (.cells #[.slice (some ⟨wr.heap.size + 1, 0, none⟩) (x.time.length + 2) (x.time.length + 2)] 25)) (by decide) hgrow3
        have E3 : Hid (∀ (j : Nat) (m : Codec.Msg) (g : Nat), acc[j]? = some m → gs[j]? = some g → BlkAt w3 g 3 (ints (m.time ++ [-77, -77])).toArray) := fun j m g hj hg => ((L2.each j m g hj hg).alloc (.cells #[.slice (some ⟨wr.heap.size + 1, 0, none⟩) (x.time.length + 2) (x.time.length + 2)] 25)).grown hgrow3 (blk_ne (L2.each j m g hj hg) L2.times (by decide))
        have B3 := (B2.alloc (by have := HZ2.out; omega) (.cells #[.slice (some ⟨wr.heap.size + 1, 0, none⟩) (x.time.length + 2) (x.time.length + 2)] 25)).grown hgrow3 (by have := HZ2.out; simp; omega) (fun q hq => by have := (L2.times.lt q hq).1; omega)
        have HL : Hid (gs.length = acc.length) := L2.len
        clear M2 G2 P2 D2 X2 R2 K2 L2 B2 hgrow3 c12 f12
        have c12 := X3.cell 12 _ rfl
        have f12 := X3.frozen 12
        have c13 := X3.cell 13 _ rfl
        have f13 := X3.frozen 13
        have m0 := M3.cell 0 _ rfl
        have m1 := M3.cell 1 _ rfl
        have m2 := M3.cell 2 _ rfl
        have m3 := M3.cell 3 _ rfl
        have mf := M3.frozen 2
        have hXM : X ≠ wr.heap.size := by omega
        have O4 := ownsRow_setOther (ownsRow_setOther Q3 (blk_ne X3 Q3 (by decide)) 12 (.slice (some ⟨g3, 0, none⟩) (acc.length + 1) p3)) hqM 2 (.slice (some ⟨wr.heap.size + 1, 0, none⟩) x.time.length (x.time.length + 2))
        go_wp2_with (at_builtin; refine wpList_append_own_at _ rfl _ _ 26 rfl (w.heap.size + 2) 50 i0 _ 4 56 Try.underlying26 hi0 hz0 hz1 hz2 rfl (by decide) _ _ _ rfl (O4.alloc _) ⟨w3.heap.size, 0, none⟩ 1 1 [.int .i64 x.sender, .int .i64 x.seq, .slice (some ⟨wr.heap.size + 1, 0, none⟩) x.time.length (x.time.length + 2), .string x.text] rfl rfl ?e1 ?e2 ?e3 ?e4 ?e5 ?_)
        case e1 => exact World.news_of_block (cs := #[.int .i64 x.sender, .int .i64 x.seq, .slice (some ⟨wr.heap.size + 1, 0, none⟩) x.time.length (x.time.length + 2), .string x.text]) (t := 50) (fr := (0, 0)) (by have := heap_alloc_new ((w3.setCell ⟨X, 12, none⟩ (.slice (some ⟨g3, 0, none⟩) (acc.length + 1) p3)).setCell ⟨wr.heap.size, 2, none⟩ (.slice (some ⟨wr.heap.size + 1, 0, none⟩) x.time.length (x.time.length + 2))) (.cells #[.int .i64 x.sender, .int .i64 x.seq, .slice (some ⟨wr.heap.size + 1, 0, none⟩) x.time.length (x.time.length + 2), .string x.text] 50); rwa [show ((w3.setCell ⟨X, 12, none⟩ (.slice (some ⟨g3, 0, none⟩) (acc.length + 1) p3)).setCell ⟨wr.heap.size, 2, none⟩ (.slice (some ⟨wr.heap.size + 1, 0, none⟩) x.time.length (x.time.length + 2))).heap.size = w3.heap.size from by simp] at this)
        case e2 => intro u hu; simp at hu; rcases hu with rfl | rfl | rfl | rfl <;> rfl
        case e3 => unfold maxLen; rw [HTK.out]; omega
        case e4 => rw [HTK.out]; omega
        case e5 => have := HZ2.out; simp; omega
        intro v5 w5 hown5 hgrow5 _ _
        obtain ⟨g5, p5, hv5, _, _⟩ := World.ownsRow.form hown5 (by omega)
        rw [hv5]
        rw [hv5] at hown5
        have hGX : wr.heap.size + 1 ≠ X := by omega
        have hGM : wr.heap.size + 1 ≠ wr.heap.size := by omega
        have X4 : BlkAt ((w3.setCell ⟨X, 12, none⟩ (.slice (some ⟨g3, 0, none⟩) (acc.length + 1) p3)).setCell ⟨wr.heap.size, 2, none⟩ (.slice (some ⟨wr.heap.size + 1, 0, none⟩) x.time.length (x.time.length + 2))) X 34 #[.int .i64 f0, .int .i64 f1, .int .i64 f2, .int .i64 f3, .int .i64 f4, .int .i64 f5, .int .i64 f6, .slice ro rn rc, .slice co cn cc, .slice (some ⟨xb, off, none⟩) ms.length mc, .slice (some ⟨gr, 0, none⟩) (row.length + 2) (row.length + 2), .slice (some ⟨gc, 0, none⟩) (cut.length + 2) (cut.length + 2), .slice (some ⟨g3, 0, none⟩) (acc.length + 1) p3, .slice qo qn qc] := BlkAt.other (X3.set 12 (.slice (some ⟨g3, 0, none⟩) (acc.length + 1) p3)) hXM 2 (.slice (some ⟨wr.heap.size + 1, 0, none⟩) x.time.length (x.time.length + 2))
        have P4 := (P3.other (show w.heap.size ≠ X by omega) 12 (.slice (some ⟨g3, 0, none⟩) (acc.length + 1) p3)).other (show w.heap.size ≠ wr.heap.size by omega) 2 (.slice (some ⟨wr.heap.size + 1, 0, none⟩) x.time.length (x.time.length + 2))
        have D4 := (D3.other (show w.heap.size + 1 ≠ X by omega) 12 (.slice (some ⟨g3, 0, none⟩) (acc.length + 1) p3)).other (show w.heap.size + 1 ≠ wr.heap.size by omega) 2 (.slice (some ⟨wr.heap.size + 1, 0, none⟩) x.time.length (x.time.length + 2))
        have R4 := (R3.other (blk_apart R3 X3 (by decide)) 12 (.slice (some ⟨g3, 0, none⟩) (acc.length + 1) p3)).other (blk_apart R3 M3 (by decide)) 2 (.slice (some ⟨wr.heap.size + 1, 0, none⟩) x.time.length (x.time.length + 2))
        have K4 := (K3.other (blk_apart K3 X3 (by decide)) 12 (.slice (some ⟨g3, 0, none⟩) (acc.length + 1) p3)).other (blk_apart K3 M3 (by decide)) 2 (.slice (some ⟨wr.heap.size + 1, 0, none⟩) x.time.length (x.time.length + 2))
        have G4 := (G3.other hGX 12 (.slice (some ⟨g3, 0, none⟩) (acc.length + 1) p3)).other hGM 2 (.slice (some ⟨wr.heap.size + 1, 0, none⟩) x.time.length (x.time.length + 2))
        have T4 := ownsRow_setOther (ownsRow_setOther hown3 (blk_ne X3 hown3 (by decide)) 12 (.slice (some ⟨g3, 0, none⟩) (acc.length + 1) p3)) (blk_ne M3 hown3 (by decide)) 2 (.slice (some ⟨wr.heap.size + 1, 0, none⟩) x.time.length (x.time.length + 2))
        have E4 : Hid (∀ (j : Nat) (m : Codec.Msg) (g : Nat), acc[j]? = some m → gs[j]? = some g → BlkAt ((w3.setCell ⟨X, 12, none⟩ (.slice (some ⟨g3, 0, none⟩) (acc.length + 1) p3)).setCell ⟨wr.heap.size, 2, none⟩ (.slice (some ⟨wr.heap.size + 1, 0, none⟩) x.time.length (x.time.length + 2))) g 3 (ints (m.time ++ [-77, -77])).toArray) := fun j m g hj hg => ((E3.out j m g hj hg).other (blk_apart (E3.out j m g hj hg) X3 (by decide)) 12 (.slice (some ⟨g3, 0, none⟩) (acc.length + 1) p3)).other (blk_apart (E3.out j m g hj hg) M3 (by decide)) 2 (.slice (some ⟨wr.heap.size + 1, 0, none⟩) x.time.length (x.time.length + 2))
        have B4 := (B3.setCell (p := ⟨X, 12, none⟩) (by show w.heap.size ≤ X; omega) (.slice (some ⟨g3, 0, none⟩) (acc.length + 1) p3)).setCell (p := ⟨wr.heap.size, 2, none⟩) (by show w.heap.size ≤ wr.heap.size; omega) (.slice (some ⟨wr.heap.size + 1, 0, none⟩) x.time.length (x.time.length + 2))
        have z4 : ((w3.setCell ⟨X, 12, none⟩ (.slice (some ⟨g3, 0, none⟩) (acc.length + 1) p3)).setCell ⟨wr.heap.size, 2, none⟩ (.slice (some ⟨wr.heap.size + 1, 0, none⟩) x.time.length (x.time.length + 2))).heap.size = w3.heap.size := by simp
        clear M3 G3 P3 D3 X3 R3 K3 Q3 E3 B3 hown3 c12 f12 c13 f13 m0 m1 m2 m3 mf
        have z5 := HZ2.out
        have X5 := (X4.alloc (.cells #[.int .i64 x.sender, .int .i64 x.seq, .slice (some ⟨wr.heap.size + 1, 0, none⟩) x.time.length (x.time.length + 2), .string x.text] 50)).grown hgrow5 (blk_ne X4 O4 (by decide))
        have P5 := (P4.alloc (.cells #[.int .i64 x.sender, .int .i64 x.seq, .slice (some ⟨wr.heap.size + 1, 0, none⟩) x.time.length (x.time.length + 2), .string x.text] 50)).grown hgrow5 (blk_ne P4 O4 (by decide))
        have D5 := (D4.alloc (.cells #[.int .i64 x.sender, .int .i64 x.seq, .slice (some ⟨wr.heap.size + 1, 0, none⟩) x.time.length (x.time.length + 2), .string x.text] 50)).grown hgrow5 (blk_ne D4 O4 (by decide))
        have R5 := (R4.alloc (.cells #[.int .i64 x.sender, .int .i64 x.seq, .slice (some ⟨wr.heap.size + 1, 0, none⟩) x.time.length (x.time.length + 2), .string x.text] 50)).grown hgrow5 (blk_ne R4 O4 (by decide))
        have K5 := (K4.alloc (.cells #[.int .i64 x.sender, .int .i64 x.seq, .slice (some ⟨wr.heap.size + 1, 0, none⟩) x.time.length (x.time.length + 2), .string x.text] 50)).grown hgrow5 (blk_ne K4 O4 (by decide))
        have G5 := (G4.alloc (.cells #[.int .i64 x.sender, .int .i64 x.seq, .slice (some ⟨wr.heap.size + 1, 0, none⟩) x.time.length (x.time.length + 2), .string x.text] 50)).grown hgrow5 (blk_ne G4 O4 (by decide))
        have T5 := ownsRow_of_grown (T4.alloc (.cells #[.int .i64 x.sender, .int .i64 x.seq, .slice (some ⟨wr.heap.size + 1, 0, none⟩) x.time.length (x.time.length + 2), .string x.text] 50)) (O4.alloc (.cells #[.int .i64 x.sender, .int .i64 x.seq, .slice (some ⟨wr.heap.size + 1, 0, none⟩) x.time.length (x.time.length + 2), .string x.text] 50)) (by decide) hgrow5
        have E5 : Hid (∀ (j : Nat) (m : Codec.Msg) (g : Nat), acc[j]? = some m → gs[j]? = some g → BlkAt w5 g 3 (ints (m.time ++ [-77, -77])).toArray) := fun j m g hj hg => ((E4.out j m g hj hg).alloc (.cells #[.int .i64 x.sender, .int .i64 x.seq, .slice (some ⟨wr.heap.size + 1, 0, none⟩) x.time.length (x.time.length + 2), .string x.text] 50)).grown hgrow5 (blk_ne (E4.out j m g hj hg) O4 (by decide))
        have B5 := (B4.alloc (by simp; omega) (.cells #[.int .i64 x.sender, .int .i64 x.seq, .slice (some ⟨wr.heap.size + 1, 0, none⟩) x.time.length (x.time.length + 2), .string x.text] 50)).grown hgrow5 (by simp; omega) (fun q hq => by have := (O4.lt q hq).1; omega)
        clear X4 P4 D4 R4 K4 G4 T4 E4 B4 O4 hgrow5 z4 z5
        have c13 := X5.cell 13 _ rfl
        have f13 := X5.frozen 13
        have L6 : Hid (Lain (w5.setCell ⟨X, 13, none⟩ (.slice (some ⟨g5, 0, none⟩) (acc.length + 1) p5)) (w.heap.size + 2) (acc ++ [x]) (gs ++ [wr.heap.size + 1]) (.slice (some ⟨g3, 0, none⟩) (acc.length + 1) p3) (.slice (some ⟨g5, 0, none⟩) (acc.length + 1) p5)) := by
          refine ⟨by simp [HL.out], ?_, ?_, ?_⟩
          · rw [tCells_snoc _ _ _ _ HL.out]
            have := ownsRow_setOther T5 (blk_ne X5 T5 (by decide)) 13 (.slice (some ⟨g5, 0, none⟩) (acc.length + 1) p5)
            simpa using this
          · rw [tVals_snoc _ _ _ _ HL.out, msgCells_snoc _ _ _ _ (tVals_length _ _ HL.out)]
            have := ownsRow_setOther hown5 (blk_ne X5 hown5 (by decide)) 13 (.slice (some ⟨g5, 0, none⟩) (acc.length + 1) p5)
            simpa using this
          · intro j m g hj hg
            by_cases hjl : j < acc.length
            · rw [List.getElem?_append_left hjl] at hj
              rw [List.getElem?_append_left (by have := HL.out; omega)] at hg
              have h6 := E5.out j m g hj hg
              exact h6.other (blk_apart h6 X5 (by decide)) 13 (.slice (some ⟨g5, 0, none⟩) (acc.length + 1) p5)
            · have hl := HL.out
              rw [List.getElem?_append_right (by omega)] at hj
              rw [List.getElem?_append_right (by omega)] at hg
              have hk0 : j - acc.length = 0 := by
                rcases Nat.eq_zero_or_pos (j - acc.length) with h | h
                · exact h
                · rw [List.getElem?_eq_none (by simp; omega)] at hj; cases hj
              rw [hk0] at hj
              rw [show j - gs.length = 0 from by omega] at hg
              simp at hj hg
              subst hj hg
              exact G5.other hGX 13 (.slice (some ⟨g5, 0, none⟩) (acc.length + 1) p5)
        have X6 : Hid (BlkAt _ _ 34 #[.int .i64 f0, .int .i64 f1, .int .i64 f2, .int .i64 f3, .int .i64 f4, .int .i64 f5, .int .i64 f6, .slice ro rn rc, .slice co cn cc, .slice (some ⟨xb, off, none⟩) ms.length mc, .slice (some ⟨gr, 0, none⟩) (row.length + 2) (row.length + 2), .slice (some ⟨gc, 0, none⟩) (cut.length + 2) (cut.length + 2), .slice (some ⟨g3, 0, none⟩) (acc.length + 1) p3, .slice (some ⟨g5, 0, none⟩) (acc.length + 1) p5]) := X5.set 13 (.slice (some ⟨g5, 0, none⟩) (acc.length + 1) p5)
        have P6 : Hid (BlkAt _ _ _ _) := P5.other (show w.heap.size ≠ X by omega) 13 (.slice (some ⟨g5, 0, none⟩) (acc.length + 1) p5)
        have D6 : Hid (BlkAt _ _ _ _) := D5.other (show w.heap.size + 1 ≠ X by omega) 13 (.slice (some ⟨g5, 0, none⟩) (acc.length + 1) p5)
        have R6 : Hid (BlkAt _ _ _ _) := R5.other (blk_apart R5 X5 (by decide)) 13 (.slice (some ⟨g5, 0, none⟩) (acc.length + 1) p5)
        have K6 : Hid (BlkAt _ _ _ _) := K5.other (blk_apart K5 X5 (by decide)) 13 (.slice (some ⟨g5, 0, none⟩) (acc.length + 1) p5)
        have B6 : Hid (Below _ _ _) := B5.setCell (p := ⟨X, 13, none⟩) (by show w.heap.size ≤ X; omega) (.slice (some ⟨g5, 0, none⟩) (acc.length + 1) p5)
        clear X5 P5 D5 R5 K5 G5 T5 E5 B5 hown5
        go_wp2
        go_roundw
        case rel => exact ⟨k + 1, acc ++ [x], _, _, _, _, _, _, _, by omega, by go_num, HTk, L6.out, P6.out, D6.out, X6.out, R6.out, K6.out, B6.out⟩
        case measure => simp [intOf]; omega
      · have hkn : k = ms.length := by omega
        subst hkn
        have HAm : Hid (acc = ms) := by show _ = _; rw [HAcc.out, List.take_length]
        have hal : acc.length = ms.length := by rw [HAm.out]
        have HAL : Hid (_ = _) := hal
        have hal1 : ms.length ≤ acc.length + 1 := by omega
        clear hal
        have c13 := X1.cell 13 _ rfl
        have f13 := X1.frozen 13
        go_wp2_with (at_builtin; refine wpList_append_own_at _ rfl _ _ 26 rfl (w.heap.size + 2) 50 i0 _ 4 56 Try.underlying26 hi0 hz0 hz1 hz2 rfl (by decide) _ _ _ rfl (L.msgs.alloc _) ⟨wr.heap.size, 0, none⟩ 1 1 [.int .i64 (-77), .int .i64 0, .slice none 0 0, .string ⟨#[]⟩] rfl rfl ?e1 ?e2 ?e3 ?e4 ?e5 ?_)
        case e1 => exact World.news_of_block (cs := #[.int .i64 (-77), .int .i64 0, .slice none 0 0, .string ⟨#[]⟩]) (t := 50) (fr := (0, 0)) (heap_alloc_new wr (.cells #[.int .i64 (-77), .int .i64 0, .slice none 0 0, .string ⟨#[]⟩] 50))
        case e2 => intro u hu; simp at hu; rcases hu with rfl | rfl | rfl | rfl <;> rfl
        case e3 => unfold maxLen; rw [HAL.out]; omega
        case e4 => rw [HAL.out]; omega
        case e5 => simp; omega
        intro v7 w7 hown7 hgrow7 _ _
        obtain ⟨g7, p7, hv7, _, _⟩ := World.ownsRow.form hown7 (by omega)
        rw [hv7]
        rw [hv7] at hown7
        have hcap : ms.length ≤ p7 := by
          rcases hown7.2 with ⟨hv, _⟩ | ⟨q, cap, cur, hv, _, _, hle, _⟩
          · cases hv
          · injection hv with h1 h2 h3; have := HAL.out; omega
        have X7 := (X1.alloc (.cells #[.int .i64 (-77), .int .i64 0, .slice none 0 0, .string ⟨#[]⟩] 50)).grown hgrow7 (blk_ne X1 L.msgs (by decide))
        have P7 := (P1.alloc (.cells #[.int .i64 (-77), .int .i64 0, .slice none 0 0, .string ⟨#[]⟩] 50)).grown hgrow7 (blk_ne P1 L.msgs (by decide))
        have D7 := (D1.alloc (.cells #[.int .i64 (-77), .int .i64 0, .slice none 0 0, .string ⟨#[]⟩] 50)).grown hgrow7 (blk_ne D1 L.msgs (by decide))
        have R7 := (R1.alloc (.cells #[.int .i64 (-77), .int .i64 0, .slice none 0 0, .string ⟨#[]⟩] 50)).grown hgrow7 (blk_ne R1 L.msgs (by decide))
        have K7 := (K1.alloc (.cells #[.int .i64 (-77), .int .i64 0, .slice none 0 0, .string ⟨#[]⟩] 50)).grown hgrow7 (blk_ne K1 L.msgs (by decide))
        have T7 := ownsRow_of_grown (L.times.alloc (.cells #[.int .i64 (-77), .int .i64 0, .slice none 0 0, .string ⟨#[]⟩] 50)) (L.msgs.alloc (.cells #[.int .i64 (-77), .int .i64 0, .slice none 0 0, .string ⟨#[]⟩] 50)) (by decide) hgrow7
        have E7 : Hid (∀ (j : Nat) (m : Codec.Msg) (g : Nat), acc[j]? = some m → gs[j]? = some g → BlkAt w7 g 3 (ints (m.time ++ [-77, -77])).toArray) := fun j m g hj hg => ((L.each j m g hj hg).alloc (.cells #[.int .i64 (-77), .int .i64 0, .slice none 0 0, .string ⟨#[]⟩] 50)).grown hgrow7 (blk_ne (L.each j m g hj hg) L.msgs (by decide))
        have B7 := (B1.alloc (by omega) (.cells #[.int .i64 (-77), .int .i64 0, .slice none 0 0, .string ⟨#[]⟩] 50)).grown hgrow7 (by simp; omega) (fun q hq => by have := (L.msgs.lt q hq).1; omega)
        have HL : Hid (gs.length = acc.length) := L.len
        have p7c := P7.cell 7 _ rfl
        have p8c := P7.cell 8 _ rfl
        have x7 := X7.cell 7 _ rfl
        have x7f := X7.frozen 7
        have x8 := X7.cell 8 _ rfl
        have x8f := X7.frozen 8
        have x9 := X7.cell 9 _ rfl
        have x9f := X7.frozen 9
        have x10 := X7.cell 10 _ rfl
        have x11 := X7.cell 11 _ rfl
        have x12 := X7.cell 12 _ rfl
        have x13 := X7.cell 13 _ rfl
        have x13f := X7.frozen 13
        have x0 := X7.cell 0 _ rfl
        have x1 := X7.cell 1 _ rfl
        have x2 := X7.cell 2 _ rfl
        have x3 := X7.cell 3 _ rfl
        have x4 := X7.cell 4 _ rfl
        have x5 := X7.cell 5 _ rfl
        have x6 := X7.cell 6 _ rfl
        have d0 := D7.cell 0 _ rfl
        have q0 := D7.frozen 0
        have d1 := D7.cell 1 _ rfl
        have q1 := D7.frozen 1
        have d2 := D7.cell 2 _ rfl
        have q2 := D7.frozen 2
        have d3 := D7.cell 3 _ rfl
        have q3 := D7.frozen 3
        have d4 := D7.cell 4 _ rfl
        have q4 := D7.frozen 4
        have d5 := D7.cell 5 _ rfl
        have q5 := D7.frozen 5
        have d6 := D7.cell 6 _ rfl
        have q6 := D7.frozen 6
        have d7 := D7.cell 7 _ rfl
        have q7 := D7.frozen 7
        have d8 := D7.cell 8 _ rfl
        have q8 := D7.frozen 8
        have d9 := D7.cell 9 _ rfl
        have q9 := D7.frozen 9
        have d10 := D7.cell 10 _ rfl
        have q10 := D7.frozen 10
        have d11 := D7.cell 11 _ rfl
        have q11 := D7.frozen 11
        have d12 := D7.cell 12 _ rfl
        have q12 := D7.frozen 12
        have d13 := D7.cell 13 _ rfl
        have q13 := D7.frozen 13
        have hPX : w.heap.size ≠ X := by omega
        have hDX : w.heap.size + 1 ≠ X := by omega
        have hXD : X ≠ w.heap.size + 1 := by omega
        have L7 : Hid (Laid w w7 X (w.heap.size + 1) (w.heap.size + 2) ⟨f0, f1, f2, f3, f4, f5, f6, row, cut, ms⟩ gr gc g7 p7 (.slice ta tn tc) gs) := by
          have e := HAm.out
          subst e
          exact ⟨⟨R7, K7, HL.out, T7, hown7, E7.out⟩, ⟨_, X7⟩, ⟨_, D7⟩, by omega, by omega, hXD, B7⟩
        clear L P1 D1 X1 R1 K1 B1 hgrow7 c13 f13 c9 R7 K7 T7 B7 hown7 E7
        go_wp2
        refine bodyPost_ret (v := .agg #[.int .i64 f0, .int .i64 f1, .int .i64 f2, .int .i64 f3, .int .i64 f4, .int .i64 f5, .int .i64 f6, .slice (some ⟨gr, 0, none⟩) rn (row.length + 2), .slice (some ⟨gc, 0, none⟩) cn (cut.length + 2), .slice (some ⟨g7, 0, none⟩) ms.length p7, .slice (some ⟨gr, 0, none⟩) (row.length + 2) (row.length + 2), .slice (some ⟨gc, 0, none⟩) (cut.length + 2) (cut.length + 2), .slice ta tn tc, .slice (some ⟨g7, 0, none⟩) (acc.length + 1) p7]) (by simp [results, Try.results9, go_sem, d0, d1, d2, d3, d4, d5, d6, d7, d8, d9, d10, d11, d12, d13]) rfl ⟨gr, gc, g7, p7, .slice ta tn tc, gs, by rw [HRN.out, HCN.out, HAL.out], ?_⟩
        have L8 : Laid w _ X (w.heap.size + 1) (w.heap.size + 2) ⟨f0, f1, f2, f3, f4, f5, f6, row, cut, ms⟩ gr gc g7 p7 (.slice ta tn tc) gs := (((((((((((((((((L7.out.setX 13 (.slice (some ⟨g7, 0, none⟩) (acc.length + 1) p7)).setX 7 (.slice (some ⟨gr, 0, none⟩) rn (row.length + 2))).setX 8 (.slice (some ⟨gc, 0, none⟩) cn (cut.length + 2))).setX 9 (.slice (some ⟨g7, 0, none⟩) ms.length p7)).setD 0 (.int .i64 f0)).setD 1 (.int .i64 f1)).setD 2 (.int .i64 f2)).setD 3 (.int .i64 f3)).setD 4 (.int .i64 f4)).setD 5 (.int .i64 f5)).setD 6 (.int .i64 f6)).setD 7 (.slice (some ⟨gr, 0, none⟩) rn (row.length + 2))).setD 8 (.slice (some ⟨gc, 0, none⟩) cn (cut.length + 2))).setD 9 (.slice (some ⟨g7, 0, none⟩) ms.length p7)).setD 10 (.slice (some ⟨gr, 0, none⟩) (row.length + 2) (row.length + 2))).setD 11 (.slice (some ⟨gc, 0, none⟩) (cut.length + 2) (cut.length + 2))).setD 12 (.slice ta tn tc)).setD 13 (.slice (some ⟨g7, 0, none⟩) (acc.length + 1) p7)
        exact ⟨L8.lent.base (by omega), L8.below⟩
end Go.Proofs.Ytoklolfaemhfnaa
