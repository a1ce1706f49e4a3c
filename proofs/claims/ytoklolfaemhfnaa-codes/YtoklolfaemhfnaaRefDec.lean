/-
  The walk of the document's Decode: of bytes that are a frame's that frame and OK, of all others the frame of noughts and ErrFrame.
-/
import Derived.Test.YtoklolfaemhfnaaRef3
namespace Go.Proofs.Ytoklolfaemhfnaa
open Go.RowKit

theorem own_ne {w : World} {b b' n n' sz sz' : Nat} {e e' : TypeId} {v v' : Value} {xs xs' : List Value} (h : w.ownsRow b e sz v n xs) (h' : w.ownsRow b' e' sz' v' n' xs') (hne : e ≠ e') (g : Nat) (hg : v.ownBlock = some g) : v'.ownBlock ≠ some g := by
  intro hg'
  rcases h.2 with ⟨rfl, _⟩ | ⟨q, cap, cur, rfl, _, hq, _⟩
  · simp [Value.ownBlock] at hg
  · rcases h'.2 with ⟨rfl, _⟩ | ⟨q', cap', cur', rfl, _, hq', _⟩
    · simp [Value.ownBlock] at hg'
    · simp [Value.ownBlock] at hg hg'
      subst hg
      subst hg'
      rw [hq] at hq'
      simp at hq'
      exact hne hq'.2
theorem grownBy_setCell (w : World) (X j : Nat) (u : Value) : w.grownBy (w.setCell ⟨X, j, none⟩ u) (some X) :=
  ⟨rfl, rfl, rfl, by simp, fun k _ hk => Below.heap_setCell _ _ _ _ (fun e => hk (congrArg some e))⟩
theorem ownsRow_setOther {w : World} {b n sz : Nat} {e : TypeId} {v : Value} {xs : List Value} (h : w.ownsRow b e sz v n xs) {X : Nat} (hX : v.ownBlock ≠ some X) (j : Nat) (u : Value) : (w.setCell ⟨X, j, none⟩ u).ownsRow b e sz v n xs := by
  refine h.kept (grownBy_setCell w X j u) ?_
  exact .inr hX

/-- The rows of a frame that is being read, all from block b on and below block T. -/
structure Rows3 (w : World) (b T : Nat) (row cut : List Int) (rv cv mv : Value) (acc : List Codec.Msg) (tvs : List Value) : Prop where
  row : w.ownsRow b 3 1 rv row.length (ints row)
  cut : w.ownsRow b 3 1 cv cut.length (ints cut)
  msgs : MsgsOwn w b mv acc tvs
  top : ∀ v ∈ mv :: rv :: cv :: tvs, ∀ g, v.ownBlock = some g → b ≤ g ∧ g < T
theorem Rows3.alloc {w : World} {b T : Nat} {row cut : List Int} {rv cv mv : Value} {acc : List Codec.Msg} {tvs : List Value} (h : Rows3 w b T row cut rv cv mv acc tvs) (o : Obj) : Rows3 (w.alloc o) b T row cut rv cv mv acc tvs :=
  ⟨h.row.alloc o, h.cut.alloc o, ⟨h.msgs.1, h.msgs.2.1.alloc o, fun k m tv hk ht => (h.msgs.2.2 k m tv hk ht).alloc o⟩, h.top⟩
theorem Rows3.later {w w' : World} {b T : Nat} {row cut : List Int} {rv cv mv : Value} {acc : List Codec.Msg} {tvs : List Value} (h : Rows3 w b T row cut rv cv mv acc tvs) (hb : Below w.heap.size w w') : Rows3 w' b T row cut rv cv mv acc tvs :=
  ⟨ownsRow_later h.row hb, ownsRow_later h.cut hb, ⟨h.msgs.1, ownsRow_later h.msgs.2.1 hb, fun k m tv hk ht => ownsRow_later (h.msgs.2.2 k m tv hk ht) hb⟩, h.top⟩
theorem Rows3.up {w : World} {b T T' : Nat} {row cut : List Int} {rv cv mv : Value} {acc : List Codec.Msg} {tvs : List Value} (h : Rows3 w b T row cut rv cv mv acc tvs) (hT : T ≤ T') : Rows3 w b T' row cut rv cv mv acc tvs :=
  ⟨h.row, h.cut, h.msgs, fun v hv g hg => ⟨(h.top v hv g hg).1, by have := (h.top v hv g hg).2; omega⟩⟩
theorem Rows3.set {w : World} {b T : Nat} {row cut : List Int} {rv cv mv : Value} {acc : List Codec.Msg} {tvs : List Value} (h : Rows3 w b T row cut rv cv mv acc tvs) {X : Nat} (hX : X < b ∨ T ≤ X) (j : Nat) (u : Value) : Rows3 (w.setCell ⟨X, j, none⟩ u) b T row cut rv cv mv acc tvs := by
  have ne : ∀ v ∈ mv :: rv :: cv :: tvs, v.ownBlock ≠ some X := fun v hv e => by have := h.top v hv X e; omega
  refine ⟨ownsRow_setOther h.row (ne rv (by simp)) j u, ownsRow_setOther h.cut (ne cv (by simp)) j u, ⟨h.msgs.1, ownsRow_setOther h.msgs.2.1 (ne mv (by simp)) j u, fun k m tv hk ht => ?_⟩, h.top⟩
  exact ownsRow_setOther (h.msgs.2.2 k m tv hk ht) (ne tv (by simp [List.mem_of_getElem? ht])) j u
/-- One message more. -/
theorem Rows3.push {w w' : World} {b T g cap : Nat} {row cut : List Int} {rv cv mv tv : Value} {acc : List Codec.Msg} {tvs : List Value} {m : Codec.Msg} (h : Rows3 w b T row cut rv cv mv acc tvs)
    (ht : w.ownsRow b 3 1 tv m.time.length (ints m.time)) (htT : ∀ g, tv.ownBlock = some g → g < T)
    (hown : w'.ownsRow b 50 4 (.slice (some ⟨g, 0, none⟩) (acc.length + 1) cap) (acc.length + 1) (msgCells acc tvs ++ [.int .i64 m.sender, .int .i64 m.seq, tv, .string m.text]))
    (hgrow : w.grownBy w' mv.ownBlock) : Rows3 w' b (max T w'.heap.size) row cut rv cv (.slice (some ⟨g, 0, none⟩) (acc.length + 1) cap) (acc ++ [m]) (tvs ++ [tv]) := by
  have kp : ∀ {v : Value} {n : Nat} {xs : List Value}, w.ownsRow b 3 1 v n xs → w'.ownsRow b 3 1 v n xs := fun {v n xs} hv => by
    refine hv.kept hgrow ?_
    rcases ho : v.ownBlock with _ | q
    · exact .inl rfl
    · right; intro e; exact own_ne hv h.msgs.2.1 (by decide) q ho e.symm
  refine ⟨kp h.row, kp h.cut, ⟨by simp [h.msgs.1], ?_, ?_⟩, ?_⟩
  · rw [msgCells_snoc acc tvs m tv h.msgs.1]; simpa using hown
  · intro k y x hy hx
    by_cases hk : k < acc.length
    · rw [List.getElem?_append_left hk] at hy
      rw [List.getElem?_append_left (by have := h.msgs.1; omega)] at hx
      exact kp (h.msgs.2.2 k y x hy hx)
    · have hl := h.msgs.1
      rw [List.getElem?_append_right (by omega)] at hy
      rw [List.getElem?_append_right (by omega)] at hx
      have hk0 : k - acc.length = 0 := by
        rcases Nat.eq_zero_or_pos (k - acc.length) with h | h
        · exact h
        · rw [List.getElem?_eq_none (by simp; omega)] at hy; cases hy
      rw [hk0] at hy
      rw [show k - tvs.length = 0 from by omega] at hx
      simp at hy hx
      subst hy hx
      exact kp ht
  · intro v hv q hq
    simp at hv
    rcases hv with rfl | rfl | rfl | hv | rfl
    · have := hown.lt q hq; omega
    · have := h.top v (by simp) q hq; omega
    · have := h.top v (by simp) q hq; omega
    · have := h.top v (by simp [hv]) q hq; omega
    · have := ht.lt q hq; have := htT q hq; omega

theorem msgsR_times (n : Nat) : ∀ (l : List UInt8) (x : Codec.Msg), x ∈ (msgsR n l).1 → x.time.length < 256 := by
  induction n with
  | zero => intro l x hx; simp [msgsR] at hx
  | succ n ih =>
    intro l x hx
    rw [msgsR] at hx
    simp only [List.mem_cons] at hx
    rcases hx with rfl | hx
    · exact (nums_bound _).1
    · exact ih _ x hx
theorem refuse_of {s : List UInt8} (h : Codec.fits (frameR s) = false ∨ Codec.encB (frameR s) ≠ s) : Codec.isFrame s = false := by
  cases e : Codec.isFrame s with
  | false => rfl
  | true =>
    obtain ⟨_, h1, h2⟩ := readers_agree s e
    rcases h with h | h
    · rw [h1] at h; cases h
    · exact absurd h2 h
theorem accept_of {s : List UInt8} (h1 : Codec.fits (frameR s) = true) (h2 : Codec.encB (frameR s) = s) : Codec.isFrame s = true := by
  have := Codec.isFrame_enc _ h1
  rwa [h2] at this

set_option maxRecDepth 100000 in
set_option maxHeartbeats 4000000 in
theorem refDec_any (s : List UInt8) (w : World) (hs : s.length ≤ 1000000000000000) :
    Calls Try.prog 29 #[.string ⟨s.toArray⟩] w fun e w' => Below w.heap.size w w' ∧
      ((Codec.isFrame s = true ∧ ∃ rv cv mv, e = .returned (.tuple #[.agg #[.int .i64 (frameR s).kind, .int .i64 (frameR s).src, .int .i64 (frameR s).dst, .int .i64 (frameR s).members, .int .i64 (frameR s).view, .int .i64 (frameR s).ballot, .int .i64 (frameR s).voted, rv, cv, mv], .int .i64 0]) ∧
          NumsAt w' w'.heap.size rv (frameR s).row ∧ NumsAt w' w'.heap.size cv (frameR s).cut ∧ MsgsAt w' w'.heap.size mv (frameR s).msgs) ∨
        (Codec.isFrame s = false ∧ e = .returned (.tuple #[.agg #[.int .i64 0, .int .i64 0, .int .i64 0, .int .i64 0, .int .i64 0, .int .i64 0, .int .i64 0, .slice none 0 0, .slice none 0 0, .slice none 0 0], .int .i64 3]))) := by
  obtain ⟨i0, hi0, hz0, hz1, hz2⟩ := info_parts info50
  obtain ⟨x0, h0⟩ : ∃ x, atB s 0 = x := ⟨_, rfl⟩
  obtain ⟨x1, h1⟩ : ∃ x, atB s 1 = x := ⟨_, rfl⟩
  obtain ⟨x2, h2⟩ : ∃ x, atB s 2 = x := ⟨_, rfl⟩
  obtain ⟨x3, h3⟩ : ∃ x, atB s 3 = x := ⟨_, rfl⟩
  obtain ⟨x4, h4⟩ : ∃ x, (Codec.word (s.drop 4)).1 = x := ⟨_, rfl⟩
  obtain ⟨x5, h5⟩ : ∃ x, (Codec.word (s.drop 8)).1 = x := ⟨_, rfl⟩
  obtain ⟨x6, h6⟩ : ∃ x, (Codec.word (s.drop 12)).1 = x := ⟨_, rfl⟩
  obtain ⟨a, ha⟩ : ∃ a : Nat, atB s 16 = (a : Int) := ⟨(atB s 16).toNat, by have := atB_bound s 16; omega⟩
  obtain ⟨c, hc⟩ : ∃ c : Nat, atB s (17 + a) = (c : Int) := ⟨(atB s (17 + a)).toNat, by have := atB_bound s (17 + a); omega⟩
  obtain ⟨n, hn⟩ : ∃ n : Nat, atB s (17 + a + 1 + c) = (n : Int) := ⟨(atB s (17 + a + 1 + c)).toNat, by have := atB_bound s (17 + a + 1 + c); omega⟩
  have ba : a < 256 := by have := atB_bound s 16; omega
  have bc : c < 256 := by have := atB_bound s (17 + a); omega
  have bn : n < 256 := by have := atB_bound s (17 + a + 1 + c); omega
  have C0 : Hid (∀ w, Calls Try.prog 41 #[.string ⟨s.toArray⟩, .int .i64 0] w fun e w' => e = .returned (.int .i64 x0) ∧ w' = w) := fun w => h0 ▸ at_any s 0 w hs (by omega)
  have C1 : Hid (∀ w, Calls Try.prog 41 #[.string ⟨s.toArray⟩, .int .i64 1] w fun e w' => e = .returned (.int .i64 x1) ∧ w' = w) := fun w => h1 ▸ at_any s 1 w hs (by omega)
  have C2 : Hid (∀ w, Calls Try.prog 41 #[.string ⟨s.toArray⟩, .int .i64 2] w fun e w' => e = .returned (.int .i64 x2) ∧ w' = w) := fun w => h2 ▸ at_any s 2 w hs (by omega)
  have C3 : Hid (∀ w, Calls Try.prog 41 #[.string ⟨s.toArray⟩, .int .i64 3] w fun e w' => e = .returned (.int .i64 x3) ∧ w' = w) := fun w => h3 ▸ at_any s 3 w hs (by omega)
  have C4 : Hid (∀ w, Calls Try.prog 42 #[.string ⟨s.toArray⟩, .int .i64 4] w fun e w' => e = .returned (.int .i64 x4) ∧ w' = w) := fun w => h4 ▸ four_any s 4 w hs (by omega)
  have C5 : Hid (∀ w, Calls Try.prog 42 #[.string ⟨s.toArray⟩, .int .i64 8] w fun e w' => e = .returned (.int .i64 x5) ∧ w' = w) := fun w => h5 ▸ four_any s 8 w hs (by omega)
  have C6 : Hid (∀ w, Calls Try.prog 42 #[.string ⟨s.toArray⟩, .int .i64 12] w fun e w' => e = .returned (.int .i64 x6) ∧ w' = w) := fun w => h6 ▸ four_any s 12 w hs (by omega)
  have C7 : Hid (∀ w, Calls Try.prog 41 #[.string ⟨s.toArray⟩, .int .i64 16] w fun e w' => e = .returned (.int .i64 (a : Int)) ∧ w' = w) := fun w => ha ▸ at_any s 16 w hs (by omega)
  have C8 : Hid (∀ w, Calls Try.prog 43 #[.string ⟨s.toArray⟩, .int .i64 17, .int .i64 (a : Int)] w fun e w' => ∃ v, e = .returned v ∧ w'.ownsRow w.heap.size 3 1 v a (ints (Codec.octs a (s.drop 17)).1) ∧ Below w.heap.size w w') := fun w => numbers_any s 17 a w hs (by omega) ba
  have C9 : Hid (∀ w, Calls Try.prog 41 #[.string ⟨s.toArray⟩, .int .i64 (17 + (a : Int))] w fun e w' => e = .returned (.int .i64 (c : Int)) ∧ w' = w) := fun w => by
    have := at_any s (17 + a) w hs (by omega); rw [hc] at this; simpa using this
  have C10 : Hid (∀ w, Calls Try.prog 43 #[.string ⟨s.toArray⟩, .int .i64 (17 + (a : Int) + 1), .int .i64 (c : Int)] w fun e w' => ∃ v, e = .returned v ∧ w'.ownsRow w.heap.size 3 1 v c (ints (Codec.octs c (s.drop (17 + a + 1))).1) ∧ Below w.heap.size w w') := fun w => by
    have := numbers_any s (17 + a + 1) c w hs (by omega) bc; simpa using this
  have C11 : Hid (∀ w, Calls Try.prog 41 #[.string ⟨s.toArray⟩, .int .i64 (17 + (a : Int) + 1 + (c : Int))] w fun e w' => e = .returned (.int .i64 (n : Int)) ∧ w' = w) := fun w => by
    have := at_any s (17 + a + 1 + c) w hs (by omega); rw [hn] at this; simpa using this
  obtain ⟨row, hrow⟩ : ∃ row, (Codec.octs a (s.drop 17)).1 = row := ⟨_, rfl⟩
  obtain ⟨cut, hcut⟩ : ∃ cut, (Codec.octs c (s.drop (17 + a + 1))).1 = cut := ⟨_, rfl⟩
  have hrl : row.length = a := by rw [← hrow, octs_length]
  have hcl : cut.length = c := by rw [← hcut, octs_length]
  rw [hrow] at C8
  rw [hcut] at C10
  obtain ⟨ms, hms⟩ : ∃ ms, (msgsR n (s.drop (17 + a + 1 + c + 1))).1 = ms := ⟨_, rfl⟩
  have HF : Hid (frameR s = ⟨x0, x1, x2, x3, x4, x5, x6, row, cut, ms⟩) := by
    show _ = _
    rw [frameR_at, h0, h1, h2, h3, h4, h5, h6, ha]
    simp only [Int.toNat_natCast]
    rw [hc]
    simp only [Int.toNat_natCast]
    rw [hn]
    simp only [Int.toNat_natCast]
    rw [hrow, hcut, hms]
  have HMS : Hid (_ = _) := hms
  clear h0 h1 h2 h3 h4 h5 h6 ha hc hn hrow hcut hms
  go_enter Try.func29, Try.ntmps29
  go_wp2_with fail
  refine (C0.out _).mono ?_
  rintro e w' ⟨rfl, rfl⟩
  go_wp2_with fail
  refine (C1.out _).mono ?_
  rintro e w' ⟨rfl, rfl⟩
  go_wp2_with fail
  refine (C2.out _).mono ?_
  rintro e w' ⟨rfl, rfl⟩
  go_wp2_with fail
  refine (C3.out _).mono ?_
  rintro e w' ⟨rfl, rfl⟩
  go_wp2_with fail
  refine (C4.out _).mono ?_
  rintro e w' ⟨rfl, rfl⟩
  go_wp2_with fail
  refine (C5.out _).mono ?_
  rintro e w' ⟨rfl, rfl⟩
  go_wp2_with fail
  refine (C6.out _).mono ?_
  rintro e w' ⟨rfl, rfl⟩
  go_wp2_with fail
  refine (C7.out _).mono ?_
  rintro e w' ⟨rfl, rfl⟩
  have D0 := (BlkAt.new w w.heap.size rfl 28 #[.int .i64 0, .int .i64 0, .int .i64 0, .int .i64 0, .int .i64 0, .int .i64 0, .int .i64 0, .slice none 0 0, .slice none 0 0, .slice none 0 0]).alloc (.cells #[.int .i64 x0, .int .i64 x1, .int .i64 x2, .int .i64 x3, .int .i64 x4, .int .i64 x5, .int .i64 x6, .slice none 0 0, .slice none 0 0, .slice none 0 0] 28)
  have X0 := BlkAt.new (w.alloc (.cells #[.int .i64 0, .int .i64 0, .int .i64 0, .int .i64 0, .int .i64 0, .int .i64 0, .int .i64 0, .slice none 0 0, .slice none 0 0, .slice none 0 0] 28)) (w.heap.size + 1) (by simp) 28 #[.int .i64 x0, .int .i64 x1, .int .i64 x2, .int .i64 x3, .int .i64 x4, .int .i64 x5, .int .i64 x6, .slice none 0 0, .slice none 0 0, .slice none 0 0]
  have B0 : Below w.heap.size w ((w.alloc (.cells #[.int .i64 0, .int .i64 0, .int .i64 0, .int .i64 0, .int .i64 0, .int .i64 0, .int .i64 0, .slice none 0 0, .slice none 0 0, .slice none 0 0] 28)).alloc (.cells #[.int .i64 x0, .int .i64 x1, .int .i64 x2, .int .i64 x3, .int .i64 x4, .int .i64 x5, .int .i64 x6, .slice none 0 0, .slice none 0 0, .slice none 0 0] 28)) := ((Below.refl w.heap.size w).alloc (Nat.le_refl _) _).alloc (by simp) _
  go_wp2_with fail
  refine (C8.out _).mono ?_
  rintro e w1 ⟨v1, rfl, O1, hb1⟩
  obtain ⟨ro, rn, rc, rfl⟩ := ownsRow_form O1
  have D1 := D0.below hb1 (by simp; omega)
  have X1 := X0.below hb1 (by simp)
  have B1 := B0.trans (hb1.mono (by simp; omega))
  have z1 : w.heap.size + 2 ≤ w1.heap.size := by have := hb1.size; simp at this; omega
  replace O1 := ownsRow_base (base' := w.heap.size + 2) O1 (by simp)
  clear D0 X0 B0 hb1
  have c7 := X1.cell 7 _ rfl
  have f7 := X1.frozen 7
  go_wp2_with fail
  replace D1 := D1.other (show w.heap.size ≠ w.heap.size + 1 by omega) 7 (.slice ro rn rc)
  replace X1 : BlkAt _ _ 28 #[.int .i64 x0, .int .i64 x1, .int .i64 x2, .int .i64 x3, .int .i64 x4, .int .i64 x5, .int .i64 x6, .slice ro rn rc, .slice none 0 0, .slice none 0 0] := X1.set 7 (.slice ro rn rc)
  replace B1 := B1.setCell (p := ⟨w.heap.size + 1, 7, none⟩) (by show w.heap.size ≤ w.heap.size + 1; omega) (.slice ro rn rc)
  replace O1 := ownsRow_setCell_below O1 (a := ⟨w.heap.size + 1, 7, none⟩) (by show w.heap.size + 1 < w.heap.size + 2; omega) (.slice ro rn rc)
  refine (C9.out _).mono ?_
  rintro e w' ⟨rfl, rfl⟩
  go_wp2_with fail
  refine (C10.out _).mono ?_
  rintro e w2 ⟨v2, rfl, O2, hb2⟩
  obtain ⟨co, cn, cc, rfl⟩ := ownsRow_form O2
  have D2 := D1.below hb2 D1.lt
  have X2 := X1.below hb2 X1.lt
  have B2 := B1.trans (hb2.mono (by simp; omega))
  have z2 : w.heap.size + 2 ≤ w2.heap.size := by have := hb2.size; simp at this; omega
  have O1' := ownsRow_later O1 hb2
  replace O2 := ownsRow_base (base' := w.heap.size + 2) O2 (by simp; omega)
  clear D1 X1 B1 O1 hb2 c7 f7
  have c8 := X2.cell 8 _ rfl
  have f8 := X2.frozen 8
  go_wp2_with fail
  replace D2 := D2.other (show w.heap.size ≠ w.heap.size + 1 by omega) 8 (.slice co cn cc)
  replace X2 : BlkAt _ _ 28 #[.int .i64 x0, .int .i64 x1, .int .i64 x2, .int .i64 x3, .int .i64 x4, .int .i64 x5, .int .i64 x6, .slice ro rn rc, .slice co cn cc, .slice none 0 0] := X2.set 8 (.slice co cn cc)
  replace B2 := B2.setCell (p := ⟨w.heap.size + 1, 8, none⟩) (by show w.heap.size ≤ w.heap.size + 1; omega) (.slice co cn cc)
  replace O1' := ownsRow_setCell_below O1' (a := ⟨w.heap.size + 1, 8, none⟩) (by show w.heap.size + 1 < w.heap.size + 2; omega) (.slice co cn cc)
  replace O2 := ownsRow_setCell_below O2 (a := ⟨w.heap.size + 1, 8, none⟩) (by show w.heap.size + 1 < w.heap.size + 2; omega) (.slice co cn cc)
  refine (C11.out _).mono ?_
  rintro e w3 ⟨rfl, hw3⟩
  rw [← hw3] at D2 X2 B2 O1' O2
  have z3 : w.heap.size + 2 ≤ w3.heap.size := by rw [hw3]; simpa using z2
  clear hw3 z2 z1 c8 f8
  have R : Rows3 w3 (w.heap.size + 2) w3.heap.size row cut (.slice ro rn rc) (.slice co cn cc) (.slice none 0 0) [] [] := by
    refine ⟨by rw [hrl]; exact O1', by rw [hcl]; exact O2, ⟨rfl, World.ownsRow_nil _ _ _ _, fun k m tv hk => by simp at hk⟩, ?_⟩
    intro v hv g hg
    simp at hv
    rcases hv with rfl | rfl | rfl
    · simp [Value.ownBlock] at hg
    · exact O1'.lt g hg
    · exact O2.lt g hg
  clear O1' O2
  go_wp2
  go_loopw [5, 8] (fun i j wr => ∃ (k p : Nat) (acc : List Codec.Msg) (tvs : List Value) (mo : Option Addr) (mn mc : Nat), k ≤ n ∧ j = .int .i64 k ∧ i = .int .i64 p ∧ p ≤ 1000 + 520 * k ∧ acc.length = k ∧
      Hid (ms = acc ++ (msgsR (n - k) (s.drop p)).1) ∧ Rows3 wr (w.heap.size + 2) wr.heap.size row cut (.slice ro rn rc) (.slice co cn cc) (.slice mo mn mc) acc tvs ∧
      BlkAt wr (w.heap.size + 1) 28 #[.int .i64 x0, .int .i64 x1, .int .i64 x2, .int .i64 x3, .int .i64 x4, .int .i64 x5, .int .i64 x6, .slice ro rn rc, .slice co cn cc, .slice mo mn mc] ∧ BlkAt wr w.heap.size 28 #[.int .i64 0, .int .i64 0, .int .i64 0, .int .i64 0, .int .i64 0, .int .i64 0, .int .i64 0, .slice none 0 0, .slice none 0 0, .slice none 0 0] ∧ Below w.heap.size w wr) (fun _ j _ => n - (intOf j).toNat)
  case atStart => exact ⟨0, 17 + a + 1 + c + 1, [], [], none, 0, 0, by omega, rfl, by go_num, by omega, rfl, by show _ = _; rw [← HMS.out]; simp, R, X2, D2, B2⟩
  case round =>
    clear R X2 D2 B2
    obtain ⟨k, p, acc, tvs, mo, mn, mc, hk, rfl, rfl, hp, hacc, HA, R, X, D, Bw⟩ := hrel
    have hXs := X.lt
    by_cases hlt : k < n
    · obtain ⟨y0, g0⟩ : ∃ y, atB s p = y := ⟨_, rfl⟩
      obtain ⟨y1, g1⟩ : ∃ y, atB s (p + 1) = y := ⟨_, rfl⟩
      obtain ⟨tn, g2⟩ : ∃ tn : Nat, atB s (p + 2) = (tn : Int) := ⟨(atB s (p + 2)).toNat, by have := atB_bound s (p + 2); omega⟩
      obtain ⟨xn, g3⟩ : ∃ xn : Nat, atB s (p + 3 + tn) = (xn : Int) := ⟨(atB s (p + 3 + tn)).toNat, by have := atB_bound s (p + 3 + tn); omega⟩
      have bt : tn < 256 := by have := atB_bound s (p + 2); omega
      have bx : xn < 256 := by have := atB_bound s (p + 3 + tn); omega
      have E0 : Hid (∀ w, Calls Try.prog 41 #[.string ⟨s.toArray⟩, .int .i64 (p : Int)] w fun e w' => e = .returned (.int .i64 y0) ∧ w' = w) := fun w => g0 ▸ at_any s p w hs (by omega)
      have E1 : Hid (∀ w, Calls Try.prog 41 #[.string ⟨s.toArray⟩, .int .i64 ((p : Int) + 1)] w fun e w' => e = .returned (.int .i64 y1) ∧ w' = w) := fun w => g1 ▸ at_any s (p + 1) w hs (by omega)
      have E2 : Hid (∀ w, Calls Try.prog 41 #[.string ⟨s.toArray⟩, .int .i64 ((p : Int) + 2)] w fun e w' => e = .returned (.int .i64 (tn : Int)) ∧ w' = w) := fun w => g2 ▸ at_any s (p + 2) w hs (by omega)
      have E3 : Hid (∀ w, Calls Try.prog 43 #[.string ⟨s.toArray⟩, .int .i64 ((p : Int) + 3), .int .i64 (tn : Int)] w fun e w' => ∃ v, e = .returned v ∧ w'.ownsRow w.heap.size 3 1 v tn (ints (Codec.octs tn (s.drop (p + 3))).1) ∧ Below w.heap.size w w') := fun w => numbers_any s (p + 3) tn w hs (by omega) bt
      have E4 : Hid (∀ w, Calls Try.prog 41 #[.string ⟨s.toArray⟩, .int .i64 ((p : Int) + 3 + (tn : Int))] w fun e w' => e = .returned (.int .i64 (xn : Int)) ∧ w' = w) := fun w => by
        have := at_any s (p + 3 + tn) w hs (by omega); rw [g3] at this; simpa using this
      obtain ⟨zs, hzs⟩ : ∃ zs, (Codec.octs tn (s.drop (p + 3))).1 = zs := ⟨_, rfl⟩
      have hzl : zs.length = tn := by rw [← hzs, octs_length]
      have HS : Hid (msgR (s.drop p) = (⟨y0, y1, zs, tailR s (p + 3 + tn)⟩, s.drop (p + 3 + tn + 1 + xn))) := by
        show _ = _
        rw [msgR_at, g0, g1, g2]
        simp only [Int.toNat_natCast]
        rw [g3, hzs]
        simp only [Int.toNat_natCast]
      rw [hzs] at E3
      have HA2 : Hid (ms = (acc ++ [⟨y0, y1, zs, tailR s (p + 3 + tn)⟩]) ++ (msgsR (n - (k + 1)) (s.drop (p + 3 + tn + 1 + xn))).1) := by
        show _ = _
        rw [HA.out, show n - k = (n - (k + 1)) + 1 from by omega, msgsR, HS.out]
        simp
      have HTl : Hid (tailR s (p + 3 + tn) = ⟨(if p + 3 + tn + 1 + xn ≤ s.length then (s.drop (p + 3 + tn + 1)).take xn else []).toArray⟩) := by
        show _ = _; rw [tailR, g3]; simp only [Int.toNat_natCast]
      have HZL : Hid (_ = _) := hzl
      have HACC : Hid (_ = _) := hacc
      clear g0 g1 g2 g3 hzs hzl hacc HS HA
      go_wp2_with fail
      refine (E0.out _).mono ?_
      rintro e w' ⟨rfl, hw'⟩
      rw [hw']
      go_wp2_with fail
      refine (E1.out _).mono ?_
      rintro e w' ⟨rfl, hw'⟩
      rw [hw']
      have R1 := R.alloc (.cells #[.int .i64 y0, .int .i64 y1, .slice none 0 0, .string ⟨#[]⟩] 50)
      have X1 := X.alloc (.cells #[.int .i64 y0, .int .i64 y1, .slice none 0 0, .string ⟨#[]⟩] 50)
      have D1 := D.alloc (.cells #[.int .i64 y0, .int .i64 y1, .slice none 0 0, .string ⟨#[]⟩] 50)
      have B1 := Bw.alloc (by omega) (.cells #[.int .i64 y0, .int .i64 y1, .slice none 0 0, .string ⟨#[]⟩] 50)
      have M1 := BlkAt.new wr wr.heap.size rfl 50 #[.int .i64 y0, .int .i64 y1, .slice none 0 0, .string ⟨#[]⟩]
      clear R X D Bw
      go_wp2_with fail
      refine (E2.out _).mono ?_
      rintro e w' ⟨rfl, hw'⟩
      rw [hw']
      go_wp2_with fail
      refine (E3.out _).mono ?_
      rintro e w2 ⟨v2, rfl, O2, hb2⟩
      obtain ⟨to, tn', tc, rfl⟩ := ownsRow_form O2
      have R2 := R1.later hb2
      have X2 := X1.below hb2 X1.lt
      have D2 := D1.below hb2 D1.lt
      have M2 := M1.below hb2 M1.lt
      have B2 := B1.trans (hb2.mono (by simp; omega))
      have z2 := hb2.size
      simp at z2
      have HO2 : Hid (∀ g, (Value.slice to tn' tc).ownBlock = some g → wr.heap.size + 1 ≤ g ∧ g < w2.heap.size) := fun g hg => by have := O2.lt g hg; simp at this; omega
      replace O2 := ownsRow_base (base' := w.heap.size + 2) O2 (by simp; omega)
      clear R1 X1 D1 M1 B1 hb2
      have c2 := M2.cell 2 _ rfl
      have f2 := M2.frozen 2
      go_wp2_with fail
      have hMo : (Value.slice to tn' tc).ownBlock ≠ some wr.heap.size := fun e => by have := (HO2.out _ e).1; omega
      replace R2 := R2.set (X := wr.heap.size) (.inr (Nat.le_refl _)) 2 (.slice to tn' tc)
      replace X2 := X2.other (show w.heap.size + 1 ≠ wr.heap.size by omega) 2 (.slice to tn' tc)
      replace D2 := D2.other (show w.heap.size ≠ wr.heap.size by omega) 2 (.slice to tn' tc)
      replace M2 : BlkAt _ _ 50 #[.int .i64 y0, .int .i64 y1, .slice to tn' tc, .string ⟨#[]⟩] := M2.set 2 (.slice to tn' tc)
      replace B2 := B2.setCell (p := ⟨wr.heap.size, 2, none⟩) (by show w.heap.size ≤ wr.heap.size; omega) (.slice to tn' tc)
      replace O2 := ownsRow_setOther O2 hMo 2 (.slice to tn' tc)
      clear c2 f2
      refine (E4.out _).mono ?_
      rintro e w3 ⟨rfl, hw3⟩
      rw [← hw3] at R2 X2 D2 M2 B2 O2
      have z3 : w3.heap.size = w2.heap.size := by rw [hw3]; simp
      clear hw3
      have c0 := M2.cell 0 _ rfl
      have c1 := M2.cell 1 _ rfl
      have c2 := M2.cell 2 _ rfl
      have c3 := M2.cell 3 _ rfl
      have f3 := M2.frozen 3
      have c9 := X2.cell 9 _ rfl
      have f9 := X2.frozen 9
      by_cases hle : p + 3 + tn + 1 + xn ≤ s.length
      · have HTX : ((⟨s.toArray⟩ : ByteArray).extract (p + 3 + tn + 1) (p + 3 + tn + 1 + xn)) = tailR s (p + 3 + tn) := by
          rw [HTl.out, if_pos hle]
          apply ByteArray.ext
          apply Array.ext'
          rw [Lib.extract_data]
          simp
        have HTX' : Hid (_ = _) := HTX
        clear HTX
        have R3 := R2.set (X := wr.heap.size) (.inr (Nat.le_refl _)) 3 (.string ((⟨s.toArray⟩ : ByteArray).extract (p + 3 + tn + 1) (p + 3 + tn + 1 + xn)))
        have X3 := X2.other (show w.heap.size + 1 ≠ wr.heap.size by omega) 3 (.string ((⟨s.toArray⟩ : ByteArray).extract (p + 3 + tn + 1) (p + 3 + tn + 1 + xn)))
        have D3 := D2.other (show w.heap.size ≠ wr.heap.size by omega) 3 (.string ((⟨s.toArray⟩ : ByteArray).extract (p + 3 + tn + 1) (p + 3 + tn + 1 + xn)))
        have B3 := B2.setCell (p := ⟨wr.heap.size, 3, none⟩) (by show w.heap.size ≤ wr.heap.size; omega) (.string ((⟨s.toArray⟩ : ByteArray).extract (p + 3 + tn + 1) (p + 3 + tn + 1 + xn)))
        have O3 := ownsRow_setOther O2 hMo 3 (.string ((⟨s.toArray⟩ : ByteArray).extract (p + 3 + tn + 1) (p + 3 + tn + 1 + xn)))
        go_wp2_with (at_builtin; refine wpList_append_own_at _ rfl _ _ 26 rfl (w.heap.size + 2) 50 i0 _ 4 56 Try.underlying26 hi0 hz0 hz1 hz2 rfl (by decide) _ _ _ rfl (R3.msgs.2.1.alloc _) ⟨w2.heap.size, 0, none⟩ 1 1 [.int .i64 y0, .int .i64 y1, .slice to tn' tc, .string ((⟨s.toArray⟩ : ByteArray).extract (p + 3 + tn + 1) (p + 3 + tn + 1 + xn))] rfl rfl ?c1 ?c2 ?c3 ?c4 ?c5 ?_)
        case c1 => exact World.news_of_block (cs := #[.int .i64 y0, .int .i64 y1, .slice to tn' tc, .string ((⟨s.toArray⟩ : ByteArray).extract (p + 3 + tn + 1) (p + 3 + tn + 1 + xn))]) (t := 50) (fr := (0, 0)) (by have := heap_alloc_new (w3.setCell ⟨wr.heap.size, 3, none⟩ (.string ((⟨s.toArray⟩ : ByteArray).extract (p + 3 + tn + 1) (p + 3 + tn + 1 + xn)))) (.cells #[.int .i64 y0, .int .i64 y1, .slice to tn' tc, .string ((⟨s.toArray⟩ : ByteArray).extract (p + 3 + tn + 1) (p + 3 + tn + 1 + xn))] 50); rwa [show (w3.setCell ⟨wr.heap.size, 3, none⟩ (.string ((⟨s.toArray⟩ : ByteArray).extract (p + 3 + tn + 1) (p + 3 + tn + 1 + xn)))).heap.size = w2.heap.size from by simp [z3]] at this)
        case c2 => intro u hu; simp at hu; rcases hu with rfl | rfl | rfl | rfl <;> rfl
        case c3 => unfold maxLen; rw [HACC.out]; omega
        case c4 => rw [HACC.out]; omega
        case c5 => simp; omega
        intro v4 w4 hown4 hgrow hnil hat
        have hf4 : ∃ g4 cap4, v4 = .slice (some ⟨g4, 0, none⟩) (acc.length + 1) cap4 := by
          obtain ⟨g, cp, e, _⟩ := World.ownsRow.form hown4 (by omega)
          exact ⟨g, cp, e⟩
        obtain ⟨g4, cap4, hv4⟩ := hf4
        rw [hv4]
        rw [hv4] at hown4
        have ht4 := HTX'
        have R4 : Rows3 w4 (w.heap.size + 2) (max w4.heap.size w4.heap.size) row cut (.slice ro rn rc) (.slice co cn cc) (.slice (some ⟨g4, 0, none⟩) (acc.length + 1) cap4) (acc ++ [⟨y0, y1, zs, tailR s (p + 3 + tn)⟩]) (tvs ++ [.slice to tn' tc]) := by
          have hsz4 := hgrow.size
          simp at hsz4
          refine Rows3.push (m := ⟨y0, y1, zs, tailR s (p + 3 + tn)⟩) ((R3.alloc _).up (by omega)) ?_ ?_ ?_ hgrow
          · simp only [HZL.out]; exact O3.alloc _
          · intro g hg; have := (HO2.out g hg).2; omega
          · rw [ht4.out] at hown4; exact hown4
        rw [Nat.max_self] at R4
        have hmX : (Value.slice mo mn mc).ownBlock ≠ some (w.heap.size + 1) := fun e => by have := (R3.top _ (by simp) _ e).1; omega
        have hmD : (Value.slice mo mn mc).ownBlock ≠ some w.heap.size := fun e => by have := (R3.top _ (by simp) _ e).1; omega
        have X4 := (X3.alloc (.cells #[.int .i64 y0, .int .i64 y1, .slice to tn' tc, .string ((⟨s.toArray⟩ : ByteArray).extract (p + 3 + tn + 1) (p + 3 + tn + 1 + xn))] 50)).grown hgrow hmX
        have D4 := (D3.alloc (.cells #[.int .i64 y0, .int .i64 y1, .slice to tn' tc, .string ((⟨s.toArray⟩ : ByteArray).extract (p + 3 + tn + 1) (p + 3 + tn + 1 + xn))] 50)).grown hgrow hmD
        have B4 := (B3.alloc (by first | (simp; omega) | omega) (.cells #[.int .i64 y0, .int .i64 y1, .slice to tn' tc, .string ((⟨s.toArray⟩ : ByteArray).extract (p + 3 + tn + 1) (p + 3 + tn + 1 + xn))] 50)).grown hgrow (by simp; omega) (fun q hq => by have := (R3.top _ (by simp) q hq).1; omega)
        clear hown4 hgrow hat hnil R3 X3 D3 B3 O3 R2 X2 D2 M2 B2 O2 c0 c1 c2 c3 f3 c9 f9
        have c9 := X4.cell 9 _ rfl
        have f9 := X4.frozen 9
        have R5 := R4.set (X := w.heap.size + 1) (.inl (by omega)) 9 (.slice (some ⟨g4, 0, none⟩) (acc.length + 1) cap4)
        have X5 : Hid (BlkAt _ _ 28 #[.int .i64 x0, .int .i64 x1, .int .i64 x2, .int .i64 x3, .int .i64 x4, .int .i64 x5, .int .i64 x6, .slice ro rn rc, .slice co cn cc, .slice (some ⟨g4, 0, none⟩) (acc.length + 1) cap4]) := X4.set 9 (.slice (some ⟨g4, 0, none⟩) (acc.length + 1) cap4)
        have D5 : Hid (BlkAt _ _ _ _) := D4.other (show w.heap.size ≠ w.heap.size + 1 by omega) 9 (.slice (some ⟨g4, 0, none⟩) (acc.length + 1) cap4)
        have B5 : Hid (Below _ _ _) := B4.setCell (p := ⟨w.heap.size + 1, 9, none⟩) (by show w.heap.size ≤ w.heap.size + 1; omega) (.slice (some ⟨g4, 0, none⟩) (acc.length + 1) cap4)
        clear R4 X4 D4 B4
        go_wp2
        go_roundw
        case rel => exact ⟨k + 1, p + 3 + tn + 1 + xn, acc ++ [⟨y0, y1, zs, tailR s (p + 3 + tn)⟩], _, _, _, _, by omega, by go_num, by go_num, by omega, by simp [HACC.out], HA2, by simpa using R5, X5.out, D5.out, B5.out⟩
        case measure => simp [intOf]; omega

      · have HTX' : Hid ((⟨#[]⟩ : ByteArray) = tailR s (p + 3 + tn)) := by
          show _ = _
          rw [HTl.out, if_neg hle]
        have R3 := R2
        have X3 := X2
        have D3 := D2
        have B3 := B2
        have O3 := O2
        go_wp2_with (at_builtin; refine wpList_append_own_at _ rfl _ _ 26 rfl (w.heap.size + 2) 50 i0 _ 4 56 Try.underlying26 hi0 hz0 hz1 hz2 rfl (by decide) _ _ _ rfl (R3.msgs.2.1.alloc _) ⟨w2.heap.size, 0, none⟩ 1 1 [.int .i64 y0, .int .i64 y1, .slice to tn' tc, .string (⟨#[]⟩ : ByteArray)] rfl rfl ?c1 ?c2 ?c3 ?c4 ?c5 ?_)
        case c1 => exact World.news_of_block (cs := #[.int .i64 y0, .int .i64 y1, .slice to tn' tc, .string (⟨#[]⟩ : ByteArray)]) (t := 50) (fr := (0, 0)) (by have := heap_alloc_new w3 (.cells #[.int .i64 y0, .int .i64 y1, .slice to tn' tc, .string (⟨#[]⟩ : ByteArray)] 50); rwa [show w3.heap.size = w2.heap.size from by simp [z3]] at this)
        case c2 => intro u hu; simp at hu; rcases hu with rfl | rfl | rfl | rfl <;> rfl
        case c3 => unfold maxLen; rw [HACC.out]; omega
        case c4 => rw [HACC.out]; omega
        case c5 => simp; omega
        intro v4 w4 hown4 hgrow hnil hat
        have hf4 : ∃ g4 cap4, v4 = .slice (some ⟨g4, 0, none⟩) (acc.length + 1) cap4 := by
          obtain ⟨g, cp, e, _⟩ := World.ownsRow.form hown4 (by omega)
          exact ⟨g, cp, e⟩
        obtain ⟨g4, cap4, hv4⟩ := hf4
        rw [hv4]
        rw [hv4] at hown4
        have ht4 := HTX'
        have R4 : Rows3 w4 (w.heap.size + 2) (max w4.heap.size w4.heap.size) row cut (.slice ro rn rc) (.slice co cn cc) (.slice (some ⟨g4, 0, none⟩) (acc.length + 1) cap4) (acc ++ [⟨y0, y1, zs, tailR s (p + 3 + tn)⟩]) (tvs ++ [.slice to tn' tc]) := by
          have hsz4 := hgrow.size
          simp at hsz4
          refine Rows3.push (m := ⟨y0, y1, zs, tailR s (p + 3 + tn)⟩) ((R3.alloc _).up (by omega)) ?_ ?_ ?_ hgrow
          · simp only [HZL.out]; exact O3.alloc _
          · intro g hg; have := (HO2.out g hg).2; omega
          · rw [ht4.out] at hown4; exact hown4
        rw [Nat.max_self] at R4
        have hmX : (Value.slice mo mn mc).ownBlock ≠ some (w.heap.size + 1) := fun e => by have := (R3.top _ (by simp) _ e).1; omega
        have hmD : (Value.slice mo mn mc).ownBlock ≠ some w.heap.size := fun e => by have := (R3.top _ (by simp) _ e).1; omega
        have X4 := (X3.alloc (.cells #[.int .i64 y0, .int .i64 y1, .slice to tn' tc, .string (⟨#[]⟩ : ByteArray)] 50)).grown hgrow hmX
        have D4 := (D3.alloc (.cells #[.int .i64 y0, .int .i64 y1, .slice to tn' tc, .string (⟨#[]⟩ : ByteArray)] 50)).grown hgrow hmD
        have B4 := (B3.alloc (by first | (simp; omega) | omega) (.cells #[.int .i64 y0, .int .i64 y1, .slice to tn' tc, .string (⟨#[]⟩ : ByteArray)] 50)).grown hgrow (by simp; omega) (fun q hq => by have := (R3.top _ (by simp) q hq).1; omega)
        clear hown4 hgrow hat hnil R3 X3 D3 B3 O3 R2 X2 D2 M2 B2 O2 c0 c1 c2 c3 f3 c9 f9
        have c9 := X4.cell 9 _ rfl
        have f9 := X4.frozen 9
        have R5 := R4.set (X := w.heap.size + 1) (.inl (by omega)) 9 (.slice (some ⟨g4, 0, none⟩) (acc.length + 1) cap4)
        have X5 : Hid (BlkAt _ _ 28 #[.int .i64 x0, .int .i64 x1, .int .i64 x2, .int .i64 x3, .int .i64 x4, .int .i64 x5, .int .i64 x6, .slice ro rn rc, .slice co cn cc, .slice (some ⟨g4, 0, none⟩) (acc.length + 1) cap4]) := X4.set 9 (.slice (some ⟨g4, 0, none⟩) (acc.length + 1) cap4)
        have D5 : Hid (BlkAt _ _ _ _) := D4.other (show w.heap.size ≠ w.heap.size + 1 by omega) 9 (.slice (some ⟨g4, 0, none⟩) (acc.length + 1) cap4)
        have B5 : Hid (Below _ _ _) := B4.setCell (p := ⟨w.heap.size + 1, 9, none⟩) (by show w.heap.size ≤ w.heap.size + 1; omega) (.slice (some ⟨g4, 0, none⟩) (acc.length + 1) cap4)
        clear R4 X4 D4 B4
        go_wp2
        go_roundw
        case rel => exact ⟨k + 1, p + 3 + tn + 1 + xn, acc ++ [⟨y0, y1, zs, tailR s (p + 3 + tn)⟩], _, _, _, _, by omega, by go_num, by go_num, by omega, by simp [HACC.out], HA2, by simpa using R5, X5.out, D5.out, B5.out⟩
        case measure => simp [intOf]; omega

    · have hkn : k = n := by omega
      subst hkn
      have HMA : Hid (ms = acc) := by
        show _ = _
        have := HA.out
        rw [Nat.sub_self] at this
        simpa [msgsR] using this
      have htl : ∀ x ∈ ms, x.time.length ≤ maxLen := fun x hx => by
        have := msgsR_times _ _ x (by rw [HMS.out]; exact hx)
        unfold maxLen; omega
      have N1 := nums_of_own R.row
      have N2 := nums_of_own R.cut
      have N3 := msgs_of_own R.msgs
      rw [← HMA.out] at N3
      have HN1 : Hid (NumsAt _ _ _ _) := N1
      have HN2 : Hid (NumsAt _ _ _ _) := N2
      have HN3 : Hid (MsgsAt _ _ _ _) := N3
      have HTl : Hid (∀ x ∈ ms, x.time.length ≤ maxLen) := htl
      have hrm : row.length ≤ maxLen := by rw [hrl]; unfold maxLen; omega
      have hcm : cut.length ≤ maxLen := by rw [hcl]; unfold maxLen; omega
      clear N1 N2 N3 htl HA
      cases hfit : Codec.fits ⟨x0, x1, x2, x3, x4, x5, x6, row, cut, ms⟩ with
      | false =>
        have HNo : Hid (Codec.isFrame s = false) := refuse_of (.inl (by rw [HF.out]; exact hfit))
        have X2 := X
        have c0 := X2.cell 0 _ rfl
        have c1 := X2.cell 1 _ rfl
        have c2 := X2.cell 2 _ rfl
        have c3 := X2.cell 3 _ rfl
        have c4 := X2.cell 4 _ rfl
        have c5 := X2.cell 5 _ rfl
        have c6 := X2.cell 6 _ rfl
        have c7 := X2.cell 7 _ rfl
        have c8 := X2.cell 8 _ rfl
        have c9 := X2.cell 9 _ rfl
        go_wp2_with fail
        refine (refEnc_no ⟨x0, x1, x2, x3, x4, x5, x6, row, cut, ms⟩ _ _ _ wr.heap.size _ HN1.out HN2.out HN3.out (Nat.le_refl _) hrm hcm HTl.out hfit).mono ?_
        rintro e w2 ⟨rfl, hb2⟩
        clear c0 c1 c2 c3 c4 c5 c6 c7 c8 c9 X2
        have D2 := D.below hb2 D.lt
        have B2 := Bw.trans (hb2.mono (by omega))
        have g0 := D2.cell 0 _ rfl
        have q0 := D2.frozen 0
        have g1 := D2.cell 1 _ rfl
        have q1 := D2.frozen 1
        have g2 := D2.cell 2 _ rfl
        have q2 := D2.frozen 2
        have g3 := D2.cell 3 _ rfl
        have q3 := D2.frozen 3
        have g4 := D2.cell 4 _ rfl
        have q4 := D2.frozen 4
        have g5 := D2.cell 5 _ rfl
        have q5 := D2.frozen 5
        have g6 := D2.cell 6 _ rfl
        have q6 := D2.frozen 6
        have g7 := D2.cell 7 _ rfl
        have q7 := D2.frozen 7
        have g8 := D2.cell 8 _ rfl
        have q8 := D2.frozen 8
        have g9 := D2.cell 9 _ rfl
        have q9 := D2.frozen 9
        have HB : Hid (Below _ _ _) := ((((((((((B2.setCell (p := ⟨w.heap.size, 0, none⟩) (Nat.le_refl _) (.int .i64 0)).setCell (p := ⟨w.heap.size, 1, none⟩) (Nat.le_refl _) (.int .i64 0)).setCell (p := ⟨w.heap.size, 2, none⟩) (Nat.le_refl _) (.int .i64 0)).setCell (p := ⟨w.heap.size, 3, none⟩) (Nat.le_refl _) (.int .i64 0)).setCell (p := ⟨w.heap.size, 4, none⟩) (Nat.le_refl _) (.int .i64 0)).setCell (p := ⟨w.heap.size, 5, none⟩) (Nat.le_refl _) (.int .i64 0)).setCell (p := ⟨w.heap.size, 6, none⟩) (Nat.le_refl _) (.int .i64 0)).setCell (p := ⟨w.heap.size, 7, none⟩) (Nat.le_refl _) (.slice none 0 0)).setCell (p := ⟨w.heap.size, 8, none⟩) (Nat.le_refl _) (.slice none 0 0)).setCell (p := ⟨w.heap.size, 9, none⟩) (Nat.le_refl _) (.slice none 0 0))
        clear B2 D2 hb2 R X D Bw
        go_wp2
        exact bodyPost_ret (v := .tuple #[.agg #[.int .i64 0, .int .i64 0, .int .i64 0, .int .i64 0, .int .i64 0, .int .i64 0, .int .i64 0, .slice none 0 0, .slice none 0 0, .slice none 0 0], .int .i64 3]) (by simp [results, Try.results29, go_sem, g0, g1, g2, g3, g4, g5, g6, g7, g8, g9]) rfl ⟨HB.out, .inr ⟨HNo.out, rfl⟩⟩
      | true =>
        by_cases henc : Codec.encB ⟨x0, x1, x2, x3, x4, x5, x6, row, cut, ms⟩ = s
        · have HYes : Hid (Codec.isFrame s = true) := accept_of (by rw [HF.out]; exact hfit) (by rw [HF.out]; exact henc)
          have HEn : Hid (_ = _) := henc
          clear henc
          have X2 := X
          have c0 := X2.cell 0 _ rfl
          have c1 := X2.cell 1 _ rfl
          have c2 := X2.cell 2 _ rfl
          have c3 := X2.cell 3 _ rfl
          have c4 := X2.cell 4 _ rfl
          have c5 := X2.cell 5 _ rfl
          have c6 := X2.cell 6 _ rfl
          have c7 := X2.cell 7 _ rfl
          have c8 := X2.cell 8 _ rfl
          have c9 := X2.cell 9 _ rfl
          go_wp2_with fail
          refine (refEnc_yes ⟨x0, x1, x2, x3, x4, x5, x6, row, cut, ms⟩ _ _ _ wr.heap.size _ HN1.out HN2.out HN3.out (Nat.le_refl _) hfit).mono ?_
          rintro e w2 ⟨rfl, hb2⟩
          rw [HEn.out]
          clear c0 c1 c2 c3 c4 c5 c6 c7 c8 c9 X2
          have D2 := D.below hb2 D.lt
          have X2 := X.below hb2 X.lt
          have R2 := R.later hb2
          have B2 := Bw.trans (hb2.mono (by omega))
          have g0 := D2.cell 0 _ rfl
          have q0 := D2.frozen 0
          have g1 := D2.cell 1 _ rfl
          have q1 := D2.frozen 1
          have g2 := D2.cell 2 _ rfl
          have q2 := D2.frozen 2
          have g3 := D2.cell 3 _ rfl
          have q3 := D2.frozen 3
          have g4 := D2.cell 4 _ rfl
          have q4 := D2.frozen 4
          have g5 := D2.cell 5 _ rfl
          have q5 := D2.frozen 5
          have g6 := D2.cell 6 _ rfl
          have q6 := D2.frozen 6
          have g7 := D2.cell 7 _ rfl
          have q7 := D2.frozen 7
          have g8 := D2.cell 8 _ rfl
          have q8 := D2.frozen 8
          have g9 := D2.cell 9 _ rfl
          have q9 := D2.frozen 9
          have c0 := X2.cell 0 _ rfl
          have c1 := X2.cell 1 _ rfl
          have c2 := X2.cell 2 _ rfl
          have c3 := X2.cell 3 _ rfl
          have c4 := X2.cell 4 _ rfl
          have c5 := X2.cell 5 _ rfl
          have c6 := X2.cell 6 _ rfl
          have c7 := X2.cell 7 _ rfl
          have c8 := X2.cell 8 _ rfl
          have c9 := X2.cell 9 _ rfl
          have HB : Hid (Below _ _ _) := ((((((((((B2.setCell (p := ⟨w.heap.size, 0, none⟩) (Nat.le_refl _) (.int .i64 x0)).setCell (p := ⟨w.heap.size, 1, none⟩) (Nat.le_refl _) (.int .i64 x1)).setCell (p := ⟨w.heap.size, 2, none⟩) (Nat.le_refl _) (.int .i64 x2)).setCell (p := ⟨w.heap.size, 3, none⟩) (Nat.le_refl _) (.int .i64 x3)).setCell (p := ⟨w.heap.size, 4, none⟩) (Nat.le_refl _) (.int .i64 x4)).setCell (p := ⟨w.heap.size, 5, none⟩) (Nat.le_refl _) (.int .i64 x5)).setCell (p := ⟨w.heap.size, 6, none⟩) (Nat.le_refl _) (.int .i64 x6)).setCell (p := ⟨w.heap.size, 7, none⟩) (Nat.le_refl _) (.slice ro rn rc)).setCell (p := ⟨w.heap.size, 8, none⟩) (Nat.le_refl _) (.slice co cn cc)).setCell (p := ⟨w.heap.size, 9, none⟩) (Nat.le_refl _) (.slice mo mn mc))
          have HRw : Hid (Rows3 _ _ _ _ _ _ _ _ _ _) := ((((((((((R2.set (X := w.heap.size) (.inl (by omega)) 0 (.int .i64 x0)).set (X := w.heap.size) (.inl (by omega)) 1 (.int .i64 x1)).set (X := w.heap.size) (.inl (by omega)) 2 (.int .i64 x2)).set (X := w.heap.size) (.inl (by omega)) 3 (.int .i64 x3)).set (X := w.heap.size) (.inl (by omega)) 4 (.int .i64 x4)).set (X := w.heap.size) (.inl (by omega)) 5 (.int .i64 x5)).set (X := w.heap.size) (.inl (by omega)) 6 (.int .i64 x6)).set (X := w.heap.size) (.inl (by omega)) 7 (.slice ro rn rc)).set (X := w.heap.size) (.inl (by omega)) 8 (.slice co cn cc)).set (X := w.heap.size) (.inl (by omega)) 9 (.slice mo mn mc))
          clear B2 D2 hb2 R X D Bw X2 R2
          go_wp2
          refine bodyPost_ret (v := .tuple #[.agg #[.int .i64 x0, .int .i64 x1, .int .i64 x2, .int .i64 x3, .int .i64 x4, .int .i64 x5, .int .i64 x6, .slice ro rn rc, .slice co cn cc, .slice mo mn mc], .int .i64 0]) (by simp [results, Try.results29, go_sem, g0, g1, g2, g3, g4, g5, g6, g7, g8, g9]) rfl ⟨HB.out, .inl ⟨HYes.out, _, _, _, by rw [HF.out], ?_, ?_, ?_⟩⟩
          · rw [HF.out]; exact nums_of_own HRw.out.row
          · rw [HF.out]; exact nums_of_own HRw.out.cut
          · rw [HF.out]; simp only [HMA.out]; exact msgs_of_own HRw.out.msgs
        · have HNo : Hid (Codec.isFrame s = false) := refuse_of (.inr (by rw [HF.out]; exact henc))
          have hne := str_ne henc
          have X2 := X
          have c0 := X2.cell 0 _ rfl
          have c1 := X2.cell 1 _ rfl
          have c2 := X2.cell 2 _ rfl
          have c3 := X2.cell 3 _ rfl
          have c4 := X2.cell 4 _ rfl
          have c5 := X2.cell 5 _ rfl
          have c6 := X2.cell 6 _ rfl
          have c7 := X2.cell 7 _ rfl
          have c8 := X2.cell 8 _ rfl
          have c9 := X2.cell 9 _ rfl
          go_wp2_with fail
          refine (refEnc_yes ⟨x0, x1, x2, x3, x4, x5, x6, row, cut, ms⟩ _ _ _ wr.heap.size _ HN1.out HN2.out HN3.out (Nat.le_refl _) hfit).mono ?_
          rintro e w2 ⟨rfl, hb2⟩
          clear c0 c1 c2 c3 c4 c5 c6 c7 c8 c9 X2
          have D2 := D.below hb2 D.lt
          have B2 := Bw.trans (hb2.mono (by omega))
          have g0 := D2.cell 0 _ rfl
          have q0 := D2.frozen 0
          have g1 := D2.cell 1 _ rfl
          have q1 := D2.frozen 1
          have g2 := D2.cell 2 _ rfl
          have q2 := D2.frozen 2
          have g3 := D2.cell 3 _ rfl
          have q3 := D2.frozen 3
          have g4 := D2.cell 4 _ rfl
          have q4 := D2.frozen 4
          have g5 := D2.cell 5 _ rfl
          have q5 := D2.frozen 5
          have g6 := D2.cell 6 _ rfl
          have q6 := D2.frozen 6
          have g7 := D2.cell 7 _ rfl
          have q7 := D2.frozen 7
          have g8 := D2.cell 8 _ rfl
          have q8 := D2.frozen 8
          have g9 := D2.cell 9 _ rfl
          have q9 := D2.frozen 9
          have HB : Hid (Below _ _ _) := ((((((((((B2.setCell (p := ⟨w.heap.size, 0, none⟩) (Nat.le_refl _) (.int .i64 0)).setCell (p := ⟨w.heap.size, 1, none⟩) (Nat.le_refl _) (.int .i64 0)).setCell (p := ⟨w.heap.size, 2, none⟩) (Nat.le_refl _) (.int .i64 0)).setCell (p := ⟨w.heap.size, 3, none⟩) (Nat.le_refl _) (.int .i64 0)).setCell (p := ⟨w.heap.size, 4, none⟩) (Nat.le_refl _) (.int .i64 0)).setCell (p := ⟨w.heap.size, 5, none⟩) (Nat.le_refl _) (.int .i64 0)).setCell (p := ⟨w.heap.size, 6, none⟩) (Nat.le_refl _) (.int .i64 0)).setCell (p := ⟨w.heap.size, 7, none⟩) (Nat.le_refl _) (.slice none 0 0)).setCell (p := ⟨w.heap.size, 8, none⟩) (Nat.le_refl _) (.slice none 0 0)).setCell (p := ⟨w.heap.size, 9, none⟩) (Nat.le_refl _) (.slice none 0 0))
          clear B2 D2 hb2 R X D Bw
          go_wp2
          exact bodyPost_ret (v := .tuple #[.agg #[.int .i64 0, .int .i64 0, .int .i64 0, .int .i64 0, .int .i64 0, .int .i64 0, .int .i64 0, .slice none 0 0, .slice none 0 0, .slice none 0 0], .int .i64 3]) (by simp [results, Try.results29, go_sem, g0, g1, g2, g3, g4, g5, g6, g7, g8, g9]) rfl ⟨HB.out, .inr ⟨HNo.out, rfl⟩⟩
end Go.Proofs.Ytoklolfaemhfnaa
