/-
  The walk of the law's spilt: no list shows another's mark.
-/
import Derived.Test.YtoklolfaemhfnaaSpl1
namespace Go.Proofs.Ytoklolfaemhfnaa
open Go.RowKit

theorem info68 : (Try.prog.info? 68).map (fun i => (i.zero, i.size, i.bytes)) = some (some (.agg #[.slice none 0 0, .int .i64 0]), 2, 32) := by kernel_rfl

theorem FrameOwn.timeCell {w : World} {base : Nat} {f : Codec.Frame} {rv cv mv : Value} {tvs : List Value} (h : FrameOwn w base f rv cv mv tvs) (k : Nat) (hk : k < f.msgs.length) :
    ∃ gm c ao n d, mv = .slice (some ⟨gm, 0, none⟩) f.msgs.length c ∧ tvs[k]? = some (.slice ao n d) ∧ w.cell? ⟨gm, k * 4 + 2, none⟩ = some (.slice ao n d) ∧ gm < w.heap.size := by
  obtain ⟨hlen, hown, heach⟩ := h.msgs
  obtain ⟨gm, c, rfl, _, hlt⟩ := World.ownsRow.form hown (by omega)
  have hm := List.getElem?_eq_getElem hk
  have ht := List.getElem?_eq_getElem (l := tvs) (i := k) (by omega)
  obtain ⟨ao, d, hv⟩ := own_form (heach k _ _ hm ht)
  have hc := (msgCells_at f.msgs tvs k _ _ hm ht).2.2.1
  rw [hv] at ht hc
  exact ⟨gm, c, ao, _, d, rfl, ht, (hown.cellAt (k * 4 + 2) (by omega)).trans hc, hlt⟩

theorem numCells_more (rv cv : Value) (acc : List Value) (t : Value) (k : Nat) (h : acc.length = k) : numCells (entries rv cv acc) ++ [t, .int .i64 (-3 - (k : Int))] = numCells (entries rv cv (acc ++ [t])) := by
  subst h
  have : entries rv cv (acc ++ [t]) = entries rv cv acc ++ [(t, -3 - (acc.length : Int))] := by simp [entries, timesE_snoc]
  rw [this, numCells_append]
  rfl

theorem entries_facts {w : World} {base top : Nat} {f : Codec.Frame} {rv cv mv : Value} {tvs : List Value} (h : FrameOwn w base f rv cv mv tvs) (htop : ∀ v ∈ mv :: rv :: cv :: tvs, ∀ g, v.ownBlock = some g → g < top)
    (hl1 : f.row.length ≤ 1000) (hl2 : f.cut.length ≤ 1000) (htl : ∀ x ∈ f.msgs, x.time.length ≤ 1000) :
    (entries rv cv tvs).length = f.msgs.length + 2 ∧ (∀ (j : Nat) (e : Value × Int), (entries rv cv tvs)[j]? = some e → ∃ xs : List Int, w.ownsRow base 3 1 e.1 xs.length (ints xs) ∧ xs.length ≤ 1000) ∧
    (∀ (i j : Nat) (e e' : Value × Int), i ≠ j → (entries rv cv tvs)[i]? = some e → (entries rv cv tvs)[j]? = some e' → ∀ g, e.1.ownBlock = some g → e'.1.ownBlock ≠ some g) ∧
    (∀ (j : Nat) (e : Value × Int), (entries rv cv tvs)[j]? = some e → ∀ g, e.1.ownBlock = some g → g < top) := by
  refine ⟨by simp [entries, timesE_length, h.msgs.1], fun j e hj => ?_, fun i j e e' hij h1 h2 => ?_, fun j e hj => ?_⟩
  · have hv := entries_at rv cv tvs j e hj
    match j with
    | 0 => simp at hv; rw [← hv]; exact ⟨f.row, h.row, hl1⟩
    | 1 => simp at hv; rw [← hv]; exact ⟨f.cut, h.cut, hl2⟩
    | j + 2 =>
      simp only [List.getElem?_cons_succ] at hv
      have hlt : j < f.msgs.length := by have := (List.getElem?_eq_some_iff.1 hv).1; have := h.msgs.1; omega
      have hm := List.getElem?_eq_getElem hlt
      exact ⟨_, h.msgs.2.2 j _ _ hm hv, htl _ (List.mem_of_getElem? hm)⟩
  · have ha := (List.pairwise_cons.1 h.apart).2
    exact apart_at ha hij (entries_at rv cv tvs i e h1) (entries_at rv cv tvs j e' h2)
  · exact htop e.1 (List.mem_cons_of_mem _ (List.mem_of_getElem? (entries_at rv cv tvs j e hj)))

theorem Mid.of_below {base top : Nat} {w w' : World} (h : Below w.heap.size w w') : Mid base top w w' := ⟨h.os, h.tape, h.output, h.size, fun b hb _ => h.block b hb⟩

theorem Com.entry {w wr : World} {base top L : Nat} {av mv : Value} {E : List (Value × Int)} {box : Array Value} (h : Com w wr base top L av mv E box) (k : Nat) (e : Value × Int) (hk : E[k]? = some e) (ga n ca : Nat) (hav : av = .slice (some ⟨ga, 0, none⟩) n ca) :
    wr.cell? ⟨ga, k * 2, none⟩ = some e.1 ∧ wr.cell? ⟨ga, k * 2 + 1, none⟩ = some (.int .i64 e.2) := by
  have hlt := (List.getElem?_eq_some_iff.1 hk).1
  have ha := h.all
  obtain ⟨ao, c, hv⟩ := own_form ha
  rw [hav] at hv ha
  injection hv with _ h2 _
  subst h2
  obtain ⟨h1, h2⟩ := numCells_at E k e hk
  exact ⟨(ha.cellAt (k * 2) (by omega)).trans h1, (ha.cellAt (k * 2 + 1) (by omega)).trans h2⟩

set_option maxHeartbeats 2000000 in
theorem spilt_no (f : Codec.Frame) (rv cv mv : Value) (tvs : List Value) (base top : Nat) (w : World) (h : FrameOwn w base f rv cv mv tvs)
    (htop : ∀ v ∈ mv :: rv :: cv :: tvs, ∀ g, v.ownBlock = some g → g < top) (hbt : base ≤ top) (hH : top ≤ w.heap.size)
    (hl1 : f.row.length ≤ 1000) (hl2 : f.cut.length ≤ 1000) (hl3 : f.msgs.length ≤ 1000) (htl : ∀ x ∈ f.msgs, x.time.length ≤ 1000) :
    Calls Try.prog 30 #[.agg #[.int .i64 f.kind, .int .i64 f.src, .int .i64 f.dst, .int .i64 f.members, .int .i64 f.view, .int .i64 f.ballot, .int .i64 f.voted, rv, cv, mv]] w
      fun e w' => e = .returned (.bool false) ∧ Mid base top w w' := by
  obtain ⟨i0, hi0, hz0, hz1, hz2⟩ := info_parts info68
  obtain ⟨ro, rc, hrv⟩ := own_form h.row
  obtain ⟨co, cc, hcv⟩ := own_form h.cut
  obtain ⟨mo, mc, hmv⟩ := own_form h.msgs.2.1
  obtain ⟨f0, f1, f2, f3, f4, f5, f6, row, cut, ms⟩ := f
  simp only at *
  subst hrv hcv hmv
  have HF : Hid (FrameOwn w base ⟨f0, f1, f2, f3, f4, f5, f6, row, cut, ms⟩ (.slice ro row.length rc) (.slice co cut.length cc) (.slice mo ms.length mc) tvs) := h
  have HTop : Hid (∀ v ∈ Value.slice mo ms.length mc :: .slice ro row.length rc :: .slice co cut.length cc :: tvs, ∀ g, v.ownBlock = some g → g < top) := htop
  have HTl : Hid (∀ x ∈ ms, x.time.length ≤ 1000) := htl
  clear h htop htl
  go_enter Try.func30, Try.ntmps30
  go_wp2
  go_loopw [3, 4] (fun a i wr => ∃ (k ga ca : Nat) (acc : List Value), k ≤ ms.length ∧ i = .int .i64 k ∧ a = .slice (some ⟨ga, 0, none⟩) (k + 2) ca ∧ Hid (acc = tvs.take k) ∧ Hid (acc.length = k) ∧
      Hid (wr.ownsRow (w.heap.size + 1) 68 2 (.slice (some ⟨ga, 0, none⟩) (k + 2) ca) (k + 2) (numCells (entries (.slice ro row.length rc) (.slice co cut.length cc) acc))) ∧
      Hid (BlkAt wr w.heap.size 28 #[.int .i64 f0, .int .i64 f1, .int .i64 f2, .int .i64 f3, .int .i64 f4, .int .i64 f5, .int .i64 f6, .slice ro row.length rc, .slice co cut.length cc, .slice mo ms.length mc]) ∧ Hid (Below w.heap.size w wr)) (fun _ i _ => ms.length - (intOf i).toNat)
  case atStart =>
    refine ⟨0, w.heap.size + 1, 2, [], by omega, rfl, rfl, rfl, rfl, ?_, (BlkAt.new _ _ rfl 28 _).alloc _, ((Below.refl _ _).alloc (Nat.le_refl _) _).alloc (by simp) _⟩
    have := World.ownsRow_lit (base := w.heap.size + 1) (e := 68) (size := 2) (w.alloc (.cells #[.int .i64 f0, .int .i64 f1, .int .i64 f2, .int .i64 f3, .int .i64 f4, .int .i64 f5, .int .i64 f6, .slice ro row.length rc, .slice co cut.length cc, .slice mo ms.length mc] 28)) #[.slice ro row.length rc, .int .i64 (-1), .slice co cut.length cc, .int .i64 (-2)] 2 (by simp) (by decide) rfl
    show World.ownsRow _ _ _ _ _ _ _
    simpa [numCells, entries, timesE] using this
  case round =>
    obtain ⟨k, ga, ca, acc, hk, rfl, rfl, HA, HAl, HO, HX, HB⟩ := hrel
    have hz := HX.out.lt
    have c9 := HX.out.cell 9 _ rfl
    by_cases hlt : k < ms.length
    · obtain ⟨gm, c, ao, n, d, hmv, htv, htc, hgm⟩ := HF.out.timeCell k hlt
      injection hmv with e1 _ e3
      subst e1 e3
      have htc' := (HB.out.cell (p := ⟨gm, k * 4 + 2, none⟩) hgm).trans htc
      clear htc
      have hk0 : (0 : Int) ≤ (k : Int) := Int.natCast_nonneg _
      have hk1 : (k : Int) < (ms.length : Int) := by omega
      have HTV : Hid (tvs[k]? = some (.slice ao n d)) := htv
      clear htv
      go_wp2_with (at_builtin; refine wpList_append_own_at _ rfl _ _ 69 rfl (w.heap.size + 1) 68 i0 _ 2 32 Try.underlying69 hi0 hz0 hz1 hz2 rfl (by decide) _ _ _ rfl (HO.out.alloc _) ⟨wr.heap.size, 0, none⟩ 1 1 [.slice ao n d, .int .i64 (-3 - (k : Int))] rfl rfl ?c1 ?c2 ?c3 ?c4 ?c5 ?_)
      case c2 => exact ⟨rfl, rfl⟩
      case c3 => unfold maxLen; omega
      case c4 => omega
      case c5 => omega
      intro v1 w1 hown1 hgrow1 _ _
      obtain ⟨g1, p1, hv1, _, _⟩ := World.ownsRow.form hown1 (by omega)
      subst hv1
      rw [numCells_more _ _ _ _ _ HAl.out] at hown1
      have HO1 : Hid (World.ownsRow _ _ _ _ _ _ _) := hown1
      have HX1 : Hid (BlkAt w1 _ _ _) := blk_keepT (HX.out.alloc _) (KeepT.grown (HO.out.alloc _) (by decide) hgrow1)
      have HB1 : Hid (Below w.heap.size w w1) := (HB.out.alloc (by omega) _).grown hgrow1 (by simp; omega) (fun q hq => by have := (HO.out.lt q hq).1; omega)
      have HA1 : Hid (acc ++ [Value.slice ao n d] = tvs.take (k + 1)) := by
        show _ = _
        rw [HA.out, List.take_add_one, HTV.out]; rfl
      have HAl1 : Hid ((acc ++ [Value.slice ao n d]).length = k + 1) := by show _ = _; simp [HAl.out]
      clear hown1 hgrow1 HO HX HB HA HAl HTV htc' c9
      go_wp2
      go_roundw
      case rel => exact ⟨k + 1, g1, p1, acc ++ [.slice ao n d], by omega, by go_num, rfl, HA1, HAl1, HO1, HX1, HB1⟩
      case measure => simp [intOf]; omega
    · have hkL : k = ms.length := by omega
      subst hkL
      have htk : acc = tvs := by rw [HA.out, List.take_of_length_le (by have := HF.out.msgs.1; simp only at this; omega)]
      subst htk
      obtain ⟨hEl, hE1, hE2, hE3⟩ := entries_facts HF.out HTop.out hl1 hl2 HTl.out
      obtain ⟨bx, hbx⟩ : ∃ bx : Array Value, bx = #[.int .i64 f0, .int .i64 f1, .int .i64 f2, .int .i64 f3, .int .i64 f4, .int .i64 f5, .int .i64 f6, .slice ro row.length rc, .slice co cut.length cc, .slice mo ms.length mc] := ⟨_, rfl⟩
      have hms := ownsRow_later HF.out.msgs.2.1 HB.out
      have HX2 := HX.out
      have HO2 := HO.out
      rw [← hbx] at HX2
      simp only at hEl hms
      have hbx9 : bx[9]? = some (.slice mo ms.length mc) := by rw [hbx]; rfl
      generalize entries (.slice ro row.length rc) (.slice co cut.length cc) acc = E at hEl hE1 hE2 hE3 HO2
      have HEA : Hid (∀ (i j : Nat) (e e' : Value × Int), i ≠ j → E[i]? = some e → E[j]? = some e' → ∀ g, e.1.ownBlock = some g → e'.1.ownBlock ≠ some g) := hE2
      have HET : Hid (∀ (j : Nat) (e : Value × Int), E[j]? = some e → ∀ g, e.1.ownBlock = some g → g < top) := hE3
      have HEL : Hid (E.length = ms.length + 2) := hEl
      have HC : Hid (Com w wr base top ms.length (.slice (some ⟨ga, 0, none⟩) (ms.length + 2) ca) (.slice mo ms.length mc) E bx) := ⟨by rw [hEl]; exact HO2, HX2, ⟨_, hms⟩, .of_below HB.out⟩
      have HP : Hid (Ph2 wr base E 0 0) := fun j e hj => by
        obtain ⟨xs, h1, h2⟩ := hE1 j e hj
        exact ⟨xs, ownsRow_later h1 HB.out, h2, fun h => absurd h (Nat.not_lt_zero _), fun _ q hq => absurd hq (Nat.not_lt_zero _)⟩
      have HBX : Hid (bx[9]? = some (.slice mo ms.length mc)) := hbx9
      clear hE1 hE2 hE3 HO2 HX2 hms hbx HA HAl HO HX HB hbx9 hEl
      go_wp2
      clear c9
      go_loopw [6] (fun i wx => ∃ k2 : Nat, k2 ≤ ms.length + 2 ∧ i = .int .i64 k2 ∧ Hid (Com w wx base top ms.length (.slice (some ⟨ga, 0, none⟩) (ms.length + 2) ca) (.slice mo ms.length mc) E bx) ∧ Hid (Ph2 wx base E k2 0)) (fun i _ => ms.length + 2 - (intOf i).toNat)
      case atStart => exact ⟨0, by omega, rfl, HC, HP⟩
      case round =>
        clear HC HP hz
        obtain ⟨k2, hk2, rfl, HC, HP⟩ := hrel
        by_cases hlt2 : k2 < ms.length + 2
        · obtain ⟨⟨ev, em⟩, he⟩ : ∃ e, E[k2]? = some e := ⟨_, List.getElem?_eq_getElem (by rw [HEL.out]; exact hlt2)⟩
          obtain ⟨xs, hx1, hx2, -⟩ := HP.out k2 _ he
          obtain ⟨eo, ec, hev⟩ := own_form hx1
          simp only at hev
          subst hev
          obtain ⟨N, hN⟩ : ∃ N, N = xs.length := ⟨_, rfl⟩
          rw [← hN] at he hx2
          have HE : Hid (E[k2]? = some (.slice eo N ec, em)) := he
          clear hx1 hN he
          clear xs
          have hk0 : (0 : Int) ≤ (k2 : Int) := Int.natCast_nonneg _
          have hk1 : (k2 : Int) < (ms.length : Int) + 2 := by omega
          go_wp2
          go_loopw [7] (fun i wx => ∃ q : Nat, q ≤ N ∧ i = .int .i64 q ∧ Hid (Com w wx base top ms.length (.slice (some ⟨ga, 0, none⟩) (ms.length + 2) ca) (.slice mo ms.length mc) E bx) ∧ Hid (Ph2 wx base E k2 q)) (fun i _ => N - (intOf i).toNat)
          case atStart => exact ⟨0, by omega, rfl, HC, HP⟩
          case round =>
            clear HC HP
            obtain ⟨q, hq, rfl, HC, HP⟩ := hrel
            obtain ⟨ka, kb⟩ := HC.out.entry k2 _ HE.out ga _ ca rfl
            by_cases hlt3 : q < N
            · obtain ⟨xs, hx1, -, -, -⟩ := HP.out k2 _ HE.out
              simp only at hx1
              obtain ⟨ao', c', hv⟩ := own_form hx1
              injection hv with e1 e2 e3
              subst e1 e2 e3
              obtain ⟨g, c, hv, hg1, hg2⟩ := World.ownsRow.form hx1 (by omega)
              injection hv with e1 _ e3
              subst e1 e3
              have kc := hx1.cellAt q (by omega)
              rw [show (ints xs)[q]? = some (.int .i64 (xs.getD q 0)) from by simp [ints, List.getElem?_eq_getElem hlt3]] at kc
              have kf := hx1.frozenAt q
              obtain ⟨cur, hcur⟩ := own_block hx1 rfl
              have HCu : Hid (wr.heap[g]? = some (.cells cur 3 (0, 0))) := hcur
              generalize xs.getD q 0 = y at kc
              have hOu : Hid (Ours base top w.heap.size g) := .inl ⟨hg1, HET.out k2 _ HE.out g rfl⟩
              clear hx1 hcur
              have hq0 : (0 : Int) ≤ (q : Int) := Int.natCast_nonneg _
              have hq1 : (q : Int) < (xs.length : Int) := by omega
              simp only at ka kb
              have hne : g ≠ ga := fun e => by
                obtain ⟨c2, h2⟩ := own_block HC.out.all (g := ga) rfl
                have h3 := HCu.out
                rw [e, h2] at h3
                simp at h3
              have hne' : ga ≠ g := fun e => hne e.symm
              have HS : Hid (Ph2 (wr.setCell ⟨g, q, none⟩ (.int .i64 em)) base E k2 (q + 1)) := HP.out.store g _ _ em HE.out hlt3 HEA.out
              have HD : Hid (Com w (wr.setCell ⟨g, q, none⟩ (.int .i64 em)) base top ms.length (.slice (some ⟨ga, 0, none⟩) (ms.length + 2) ca) (.slice mo ms.length mc) E bx) := HC.out.setInt HCu.out hOu.out q _
              clear HC HP
              go_upto_region 13 with fail
              go_region_held3 (fun w' => w'.cell? ⟨ga, k2 * 2, none⟩ = some (.slice (some ⟨g, 0, none⟩) xs.length ec) ∧ w'.cell? ⟨ga, k2 * 2 + 1, none⟩ = some (.int .i64 em)) (simp [go_sem, *]) (fail)
              have HS2 : Hid (Ph2 (wr.setCell ⟨g, q, none⟩ (.int .i64 em)).drew base E k2 (q + 1)) := HS.out.keep (KeepT.refl _ _).drew
              have HD2 : Hid (Com w (wr.setCell ⟨g, q, none⟩ (.int .i64 em)).drew base top ms.length (.slice (some ⟨ga, 0, none⟩) (ms.length + 2) ca) (.slice mo ms.length mc) E bx) := HD.out.keep (KeepT.refl _ _).drew (KeepT.refl _ _).drew (KeepT.refl _ _).drew HD.out.mid.drew
              clear HS HD HCu hOu
              go_wp2
              go_roundw
              case rel => exact ⟨q + 1, by omega, by go_num, HD2, HS2⟩
              case measure => simp [intOf]; omega
            · go_wp2
              go_roundw
              case rel => exact ⟨k2 + 1, by omega, by go_num, HC, HP.out.next N _ _ _ HE.out (by omega)⟩
              case measure => simp [intOf]; omega
        · have hkL : k2 = E.length := by rw [HEL.out]; omega
          have HP3 : Hid (Ph3 wr base top (ms.length + 2) E 0) := by
            show Ph3 _ _ _ _ _ _
            have h3 := HP.out
            rw [hkL] at h3
            have h4 := Ph3.begin h3 HEA.out HET.out
            rwa [HEL.out] at h4
          clear hkL HP
          go_wp2
          go_loopw [3, 8] (fun a i wx => ∃ (k : Nat) (ga ca n : Nat) (E : List (Value × Int)), k ≤ ms.length + 2 ∧ i = .int .i64 k ∧ a = .slice (some ⟨ga, 0, none⟩) n ca ∧ n ≤ ms.length + 2 + 3 * k ∧ Hid (E.length = n) ∧ Hid (Com w wx base top ms.length (.slice (some ⟨ga, 0, none⟩) n ca) (.slice mo ms.length mc) E bx) ∧ Hid (Ph3 wx base top (ms.length + 2) E k)) (fun _ i _ => ms.length + 2 - (intOf i).toNat)
          case atStart => exact ⟨0, ga, ca, ms.length + 2, E, by omega, rfl, rfl, by omega, HEL, HC, HP3⟩
          case round =>
            clear HC HP3 HEL HET HEA
            obtain ⟨k, gb, cb, n, F, hk3, rfl, rfl, hn, HFL, HC, HP⟩ := hrel
            by_cases hlt4 : k < ms.length + 2
            · obtain ⟨⟨ev, em⟩, he⟩ : ∃ e, F[k]? = some e := ⟨_, List.getElem?_eq_getElem (by have := HP.out.len; omega)⟩
              obtain ⟨N, hN, hcur⟩ := Cur.begin (w := w) HP.out hlt4 _ he
              obtain ⟨eo, ec, hev⟩ := own_form hcur.own
              simp only at hev
              subst hev
              obtain ⟨ka, -⟩ := HC.out.entry k _ he gb _ cb rfl
              simp only at ka
              have hnF : k < n := by rw [← HFL.out]; exact (List.getElem?_eq_some_iff.1 he).1
              have HFE : Hid (F[k]? = some (.slice eo N ec, em)) := he
              have HCu : Hid (Cur w wr base top (ms.length + 2) F k (.slice eo N ec) N em) := hcur
              have HP1 : Hid (Ph3 wr base top (ms.length + 2) F (k + 1)) := HP.out.next
              clear he hcur HP
              have hk0 : (0 : Int) ≤ (k : Int) := Int.natCast_nonneg _
              have hk1 : (k : Int) < (ms.length : Int) + 2 := by omega
              have hk2 : (k : Int) < (n : Int) := by omega
              go_wp2
              clear ka hk2 hnF
              go_loopw [3, 9, 10] (fun a l i wx => ∃ (q gb cb n : Nat) (F : List (Value × Int)) (lo : Option Addr) (lc : Nat) (ev : Value), q ≤ 3 ∧ i = .int .i64 q ∧ a = .slice (some ⟨gb, 0, none⟩) n cb ∧ l = .slice lo (N + q) lc ∧ n ≤ ms.length + 2 + 3 * k + q ∧ k < n ∧ Hid (F.length = n) ∧ Hid (F[k]? = some (ev, em)) ∧
                Hid (Com w wx base top ms.length (.slice (some ⟨gb, 0, none⟩) n cb) (.slice mo ms.length mc) F bx) ∧ Hid (Ph3 wx base top (ms.length + 2) F (k + 1)) ∧ Hid (Cur w wx base top (ms.length + 2) F k (.slice lo (N + q) lc) (N + q) em)) (fun _ _ i _ => 3 - (intOf i).toNat)
              case atStart => exact ⟨0, gb, cb, n, F, eo, ec, _, by omega, rfl, rfl, rfl, by omega, by rw [← HFL.out]; exact (List.getElem?_eq_some_iff.1 HFE.out).1, HFL, HFE, HC, HP1, HCu⟩
              case round =>
                clear HC HP1 HCu HFE HFL
                obtain ⟨q, gb, cb, n, F, lo, lc, ev, hq, rfl, rfl, rfl, hn, hkn, HFL, HFE, HC, HP, HCu⟩ := hrel
                have hq0 : (0 : Int) ≤ (q : Int) := Int.natCast_nonneg _
                by_cases hlt5 : q < 3
                · have hq1 : (q : Int) < 3 := by omega
                  have hk2 : (k : Int) < (n : Int) := by omega
                  obtain ⟨-, kb⟩ := HC.out.entry k _ HFE.out gb _ cb rfl
                  simp only at kb
                  go_wp2_with (at_builtin; refine wpList_append_int rfl _ _ rfl base _ _ _ rfl (HCu.out.own.alloc _) wr.heap.size 1 em rfl ?a1 ?a2 ?a3 ?_)
                  case a1 => simp
                  case a2 => omega
                  case a3 => have := HC.out.mid.size; simp; omega
                  intro g cap w2 hown hgrow hat hkp
                  have hsz := HC.out.mid.size
                  obtain ⟨hp2, hc2⟩ := append_step (HP.out.keep (KeepT.alloc 3 wr (.cells #[.int .i64 em] 3))) (HCu.out.keep (KeepT.alloc 3 wr (.cells #[.int .i64 em] 3))) (by simp; omega) g cap hown hgrow (by simpa using hat) hkp
                  have hom : ∀ T : TypeId, 3 ≠ T → KeepT T wr w2 := fun T hT => (KeepT.alloc T wr (.cells #[.int .i64 em] 3)).trans (KeepT.grown (HCu.out.own.alloc _) hT hgrow)
                  have HC2 : Hid (Com w w2 base top ms.length (.slice (some ⟨gb, 0, none⟩) n cb) (.slice mo ms.length mc) F bx) := HC.out.keep (hom _ (by decide)) (hom _ (by decide)) (hom _ (by decide)) ((HC.out.mid.alloc _).grown hgrow HCu.out.ours)
                  obtain ⟨hp3, hc3⟩ := more_step hp2 hc2
                  have HP3 : Hid (Ph3 w2 base top (ms.length + 2) (F ++ [(.slice (some ⟨g, 0, none⟩) (N + q + 1) cap, em)]) (k + 1)) := hp3
                  have HCu3 : Hid (Cur w w2 base top (ms.length + 2) (F ++ [(.slice (some ⟨g, 0, none⟩) (N + q + 1) cap, em)]) k (.slice (some ⟨g, 0, none⟩) (N + q + 1) cap) (N + q + 1) em) := hc3
                  clear hp2 hc2 hp3 hc3 hom hown hgrow hat hkp HC HP HCu kb hsz
                  obtain ⟨-, kb⟩ := HC2.out.entry k _ HFE.out gb _ cb rfl
                  simp only at kb
                  have hall := HC2.out.all
                  rw [HFL.out] at hall
                  have HAll : Hid (World.ownsRow _ _ _ _ _ _ _) := hall
                  clear hall
                  go_wp2_with (at_builtin; refine wpList_append_own_at _ rfl _ _ 69 rfl (w.heap.size + 1) 68 i0 _ 2 32 Try.underlying69 hi0 hz0 hz1 hz2 rfl (by decide) _ _ _ rfl (HAll.out.alloc _) ⟨w2.heap.size, 0, none⟩ 1 1 [.slice (some ⟨g, 0, none⟩) (N + q + 1) cap, .int .i64 em] rfl rfl ?d1 ?d2 ?d3 ?d4 ?d5 ?_)
                  case d1 =>
                    intro j u hj
                    match j, hj with
                    | 0, hj => simp at hj; subst hj; simp [Addr.add]
                    | 1, hj => simp at hj; subst hj; simp [Addr.add]
                  case d2 => intro u hu; simp at hu; rcases hu with rfl | rfl <;> rfl
                  case d3 => unfold maxLen; omega
                  case d4 => omega
                  case d5 => have := HC2.out.box.lt; simp; omega
                  intro v3 w3 hown3 hgrow3 _ _
                  obtain ⟨g3, p3, hv3, _, _⟩ := World.ownsRow.form hown3 (by omega)
                  subst hv3
                  have hom : ∀ T : TypeId, 68 ≠ T → KeepT T w2 w3 := fun T hT => (KeepT.alloc T w2 _).trans (KeepT.grown (HAll.out.alloc _) hT hgrow3)
                  have hlen3 : (F ++ [(Value.slice (some ⟨g, 0, none⟩) (N + q + 1) cap, em)]).length = n + 1 := by simp [HFL.out]
                  have HC3 : Hid (Com w w3 base top ms.length (.slice (some ⟨g3, 0, none⟩) (n + 1) p3) (.slice mo ms.length mc) (F ++ [(.slice (some ⟨g, 0, none⟩) (N + q + 1) cap, em)]) bx) := by
                    obtain ⟨cs, hcs⟩ := HC2.out.msgs
                    refine ⟨?_, blk_keepT HC2.out.box (hom _ (by decide)), ⟨cs, own_keepT hcs (hom _ (by decide))⟩, (HC2.out.mid.alloc _).grown hgrow3 fun x hx => .inr (by have := (HAll.out.lt x hx).1; omega)⟩
                    rw [hlen3, numCells_append]
                    exact hown3
                  have HP4 : Hid (Ph3 w3 _ _ _ _ _) := HP3.out.keep (hom _ (by decide))
                  have HCu4 : Hid (Cur w w3 _ _ _ _ _ _ _ _) := HCu3.out.keep (hom _ (by decide))
                  have HFE3 : Hid ((F ++ [(Value.slice (some ⟨g, 0, none⟩) (N + q + 1) cap, em)])[k]? = some (ev, em)) := by
                    show _ = _
                    rw [List.getElem?_append_left (by rw [HFL.out]; exact hkn)]
                    exact HFE.out
                  have HFL3 : Hid (_ = _) := hlen3
                  clear hlen3 hom hown3 hgrow3 HC2 HP3 HCu3 HFE HFL HAll kb
                  go_wp2
                  go_roundw
                  case rel => exact ⟨q + 1, g3, p3, n + 1, _, some ⟨g, 0, none⟩, cap, ev, by omega, by go_num, rfl, rfl, by omega, by omega, HFL3, HFE3, HC3, HP4, HCu4⟩
                  case measure => simp [intOf]; omega
                · have hq3 : q = 3 := by omega
                  subst hq3
                  go_wp2
                  go_roundw
                  case rel => exact ⟨k + 1, gb, cb, n, F, by omega, by go_num, rfl, by omega, HFL, HC, HP⟩
                  case measure => simp [intOf]; omega
            · have HM : Hid (∀ e ∈ F, Marked wr e) := HP.out.marked
              clear HP
              have hbox := HC.out.box.cell 9 _ HBX.out
              go_wp2
              clear hbox
              go_loopw [11] (fun i wx => ∃ k : Nat, k ≤ ms.length ∧ i = .int .i64 k ∧ Hid (Com w wx base top ms.length (.slice (some ⟨gb, 0, none⟩) n cb) (.slice mo ms.length mc) F bx) ∧ Hid (∀ e ∈ F, Marked wx e)) (fun i _ => ms.length - (intOf i).toNat)
              case atStart => exact ⟨0, by omega, rfl, HC, HM⟩
              case round =>
                clear HC HM
                obtain ⟨k, hk6, rfl, HC, HM⟩ := hrel
                have hbox := HC.out.box.cell 9 _ HBX.out
                by_cases hlt6 : k < ms.length
                · obtain ⟨cs, hcs⟩ := HC.out.msgs
                  obtain ⟨gm, c, hmv, hg1, hg2⟩ := World.ownsRow.form hcs (by omega)
                  injection hmv with e1 _ e3
                  subst e1 e3
                  have hOu : Hid (Ours base top w.heap.size gm) := .inl ⟨hg1, HTop.out _ List.mem_cons_self gm rfl⟩
                  have hlen := hcs.1
                  have hat : ∀ j, j < 4 → ∃ u, wr.cell? ⟨gm, k * 4 + j, none⟩ = some u := fun j hj => ⟨_, (hcs.cellAt (k * 4 + j) (by omega)).trans (List.getElem?_eq_getElem (by omega))⟩
                  obtain ⟨x0, m0⟩ := hat 0 (by omega)
                  obtain ⟨x1, m1⟩ := hat 1 (by omega)
                  obtain ⟨x2, m2⟩ := hat 2 (by omega)
                  obtain ⟨x3, m3⟩ := hat 3 (by omega)
                  rw [Nat.add_zero] at m0
                  have y0 := hcs.frozenAt (k * 4)
                  have y1 := hcs.frozenAt (k * 4 + 1)
                  have y2 := hcs.frozenAt (k * 4 + 2)
                  have y3 := hcs.frozenAt (k * 4 + 3)
                  obtain ⟨C0, K0⟩ := HC.out.setMsg hOu.out (k * 4) (.int .i64 (-77))
                  obtain ⟨C1, K1⟩ := C0.setMsg hOu.out (k * 4 + 1) (.int .i64 0)
                  obtain ⟨C2, K2⟩ := C1.setMsg hOu.out (k * 4 + 2) (.slice none 0 0)
                  obtain ⟨C3, K3⟩ := C2.setMsg hOu.out (k * 4 + 3) (.string ⟨#[]⟩)
                  have HC3 : Hid (Com _ _ _ _ _ _ _ _ _) := C3
                  have HM3 : Hid (∀ e ∈ F, Marked _ e) := fun e he => (HM.out e he).keepT (((K0.trans K1).trans K2).trans K3)
                  clear hcs hat hlen C0 C1 C2 C3 K0 K1 K2 K3 HC HM
                  have hk0 : (0 : Int) ≤ (k : Int) := Int.natCast_nonneg _
                  have hk1 : (k : Int) < (ms.length : Int) := by omega
                  go_wp2
                  go_roundw
                  case rel => exact ⟨k + 1, by omega, by go_num, HC3, HM3⟩
                  case measure => simp [intOf]; omega
                · have hkL : k = ms.length := by omega
                  subst hkL
                  go_wp2
                  clear hbox
                  go_loopw [12] (fun i wx => ∃ k : Nat, k ≤ n ∧ i = .int .i64 k ∧ Hid (Com w wx base top ms.length (.slice (some ⟨gb, 0, none⟩) n cb) (.slice mo ms.length mc) F bx) ∧ Hid (∀ e ∈ F, Marked wx e)) (fun i _ => n - (intOf i).toNat)
                  case atStart => exact ⟨0, by omega, rfl, HC, HM⟩
                  case round =>
                    clear HC HM
                    obtain ⟨k, hk7, rfl, HC, HM⟩ := hrel
                    by_cases hlt7 : k < n
                    · obtain ⟨⟨ev, em⟩, he⟩ : ∃ e, F[k]? = some e := ⟨_, List.getElem?_eq_getElem (by rw [HFL.out]; exact hlt7)⟩
                      have hmem := List.mem_of_getElem? he
                      obtain ⟨eo, N, ec, rfl, hN, -⟩ := (HM.out _ hmem).form
                      unfold maxLen at hN
                      have HFE : Hid (F[k]? = some (.slice eo N ec, em)) := he
                      have HMe : Hid ((Value.slice eo N ec, em) ∈ F) := hmem
                      clear he hmem
                      have hk0 : (0 : Int) ≤ (k : Int) := Int.natCast_nonneg _
                      have hk1 : (k : Int) < (n : Int) := by omega
                      go_wp2
                      go_loopw [13] (fun i wx => ∃ q : Nat, q ≤ N ∧ i = .int .i64 q ∧ Hid (Com w wx base top ms.length (.slice (some ⟨gb, 0, none⟩) n cb) (.slice mo ms.length mc) F bx) ∧ Hid (∀ e ∈ F, Marked wx e)) (fun i _ => N - (intOf i).toNat)
                      case atStart => exact ⟨0, by omega, rfl, HC, HM⟩
                      case round =>
                        clear HC HM
                        obtain ⟨q, hq, rfl, HC, HM⟩ := hrel
                        obtain ⟨ka, kb⟩ := HC.out.entry k _ HFE.out gb _ cb rfl
                        simp only at ka kb
                        by_cases hlt8 : q < N
                        · obtain ⟨eo', N', ec', hv, -, hcl⟩ := (HM.out _ HMe.out).form
                          injection hv with e1 e2 e3
                          subst e1 e2 e3
                          obtain ⟨g, rfl, hg, kc⟩ := hcl q hlt8
                          clear hcl
                          have hq0 : (0 : Int) ≤ (q : Int) := Int.natCast_nonneg _
                          have hq1 : (q : Int) < (N : Int) := by omega
                          go_wp2
                          go_quiet (fail)
                          go_wp2
                          go_roundw
                          case rel => exact ⟨q + 1, by omega, by go_num, HC.out.drewN _, fun e he => (HM.out e he).keepT (keepT_drewN _ _ _)⟩
                          case measure => simp [intOf]; omega
                        · go_wp2
                          go_roundw
                          case rel => exact ⟨k + 1, by omega, by go_num, HC, HM⟩
                          case measure => simp [intOf]; omega
                    · go_wp2
                      go_ret
                      exact ⟨rfl, HC.out.mid⟩
end Go.Proofs.Ytoklolfaemhfnaa
