/-
  The walk of the law's decodes: true at every string.
-/
import Derived.Test.YtoklolfaemhfnaaSpl2
namespace Go.Proofs.Ytoklolfaemhfnaa
open Go.RowKit

/-- The frame that Decode answers, and its error. -/
def decF (s : List UInt8) : Codec.Frame := if Codec.isFrame s then frameR s else ⟨0, 0, 0, 0, 0, 0, 0, [], [], []⟩
def decE (s : List UInt8) : Int := if Codec.isFrame s then 0 else 3

theorem decF_bound (s : List UInt8) : (decF s).row.length ≤ 1000 ∧ (decF s).cut.length ≤ 1000 ∧ (decF s).msgs.length ≤ 1000 ∧ ∀ x ∈ (decF s).msgs, x.time.length ≤ 1000 := by
  unfold decF
  cases h : Codec.isFrame s with
  | false => simp
  | true =>
    simp only [if_true]
    obtain ⟨-, hf, -⟩ := readers_agree s h
    obtain ⟨-, -, h1, h2, h3, h4⟩ := (fits_iff _).1 hf
    refine ⟨?_, ?_, ?_, ?_⟩
    · have := (fits_bound h1).1; omega
    · have := (fits_bound h2).1; omega
    · omega
    · intro x hx
      have := List.all_eq_true.1 h4 x hx
      unfold Codec.msgFits at this
      simp at this
      have := (fits_bound this.1.2).1
      omega

theorem decode_any (s : List UInt8) (w : World) (hl : s.length ≤ 140737488351232) :
    Calls Try.prog 14 #[.string ⟨s.toArray⟩] w fun e w' => ∃ rv cv mv tvs, e = .returned (.tuple #[.agg #[.int .i64 (decF s).kind, .int .i64 (decF s).src, .int .i64 (decF s).dst, .int .i64 (decF s).members, .int .i64 (decF s).view, .int .i64 (decF s).ballot, .int .i64 (decF s).voted, rv, cv, mv], .int .i64 (decE s)]) ∧
      FrameOwn w' w.heap.size (decF s) rv cv mv tvs ∧ Below w.heap.size w w' := by
  cases h : Codec.isFrame s with
  | false =>
    refine (decode_no s w hl h).mono ?_
    rintro e w' ⟨rfl, hb⟩
    refine ⟨.slice none 0 0, .slice none 0 0, .slice none 0 0, [], by simp [decF, decE, h], ?_, hb⟩
    simp only [decF, h]
    exact ⟨World.ownsRow_nil _ _ _ _, World.ownsRow_nil _ _ _ _, ⟨rfl, World.ownsRow_nil _ _ _ _, fun k m tv hk => by simp at hk⟩, by simp [Apart, Value.ownBlock]⟩
  | true =>
    obtain ⟨h1, h2, h3⟩ := readers_agree s h
    have hfl : Codec.frame s = (frameR s, (Codec.frame s).2) := by rw [h1]
    refine (decode_yes s (frameR s) _ w hl hfl h2 h3).mono ?_
    rintro e w' ⟨rv, cv, mv, tvs, rfl, hf, hb⟩
    exact ⟨rv, cv, mv, tvs, by simp [decF, decE, h], by simpa [decF, h] using hf, hb⟩

theorem refDec_one (s : List UInt8) (w : World) (hs : s.length ≤ 1000000000000000) :
    Calls Try.prog 29 #[.string ⟨s.toArray⟩] w fun e w' => ∃ rv cv mv, e = .returned (.tuple #[.agg #[.int .i64 (decF s).kind, .int .i64 (decF s).src, .int .i64 (decF s).dst, .int .i64 (decF s).members, .int .i64 (decF s).view, .int .i64 (decF s).ballot, .int .i64 (decF s).voted, rv, cv, mv], .int .i64 (decE s)]) ∧
      NumsAt w' w'.heap.size rv (decF s).row ∧ NumsAt w' w'.heap.size cv (decF s).cut ∧ MsgsAt w' w'.heap.size mv (decF s).msgs ∧ Below w.heap.size w w' := by
  refine (refDec_any s w hs).mono ?_
  rintro e w' ⟨hb, ⟨h, rv, cv, mv, rfl, h1, h2, h3⟩ | ⟨h, rfl⟩⟩
  · exact ⟨rv, cv, mv, by simp [decF, decE, h], by simpa [decF, h] using h1, by simpa [decF, h] using h2, by simpa [decF, h] using h3, hb⟩
  · exact ⟨.slice none 0 0, .slice none 0 0, .slice none 0 0, by simp [decF, decE, h], by simp only [decF, h]; exact .inl ⟨⟨_, _, rfl⟩, rfl⟩, by simp only [decF, h]; exact .inl ⟨⟨_, _, rfl⟩, rfl⟩, by simp only [decF, h]; exact .inl ⟨⟨_, _, rfl⟩, rfl⟩, hb⟩

theorem own_mid {w w' : World} {base top b n sz : Nat} {e : TypeId} {v : Value} {xs : List Value} (h : w.ownsRow b e sz v n xs) (hm : Mid base top w w') (ht : top ≤ b) : w'.ownsRow b e sz v n xs := by
  rcases h with ⟨hl, ⟨rfl, h0⟩ | ⟨q, cap, cur, rfl, hb, hq, hr⟩⟩
  · exact ⟨hl, .inl ⟨rfl, h0⟩⟩
  · have hlt := (Array.getElem?_eq_some_iff.1 hq).1
    refine ⟨hl, .inr ⟨q, cap, cur, rfl, hb, (hm.block q hlt ?_).trans hq, hr⟩⟩
    rintro (⟨h1, h2⟩ | h1) <;> omega
theorem FrameOwn.mid {w w' : World} {base top b : Nat} {f : Codec.Frame} {rv cv mv : Value} {tvs : List Value} (h : FrameOwn w b f rv cv mv tvs) (hm : Mid base top w w') (ht : top ≤ b) : FrameOwn w' b f rv cv mv tvs :=
  ⟨own_mid h.row hm ht, own_mid h.cut hm ht, ⟨h.msgs.1, own_mid h.msgs.2.1 hm ht, fun k m tv h1 h2 => own_mid (h.msgs.2.2 k m tv h1 h2) hm ht⟩, h.apart⟩
theorem Mid.below {base top : Nat} {w w' : World} (hm : Mid base top w w') (h : base ≤ w.heap.size) : Below base w w' :=
  ⟨hm.os, hm.tape, hm.output, hm.size, fun k hk => hm.block k (by omega) (by rintro (⟨h1, h2⟩ | h1) <;> omega)⟩
theorem FrameOwn.tops {w : World} {b : Nat} {f : Codec.Frame} {rv cv mv : Value} {tvs : List Value} (h : FrameOwn w b f rv cv mv tvs) : ∀ v ∈ mv :: rv :: cv :: tvs, ∀ g, v.ownBlock = some g → g < w.heap.size := by
  intro v hv g hg
  simp only [List.mem_cons] at hv
  rcases hv with rfl | rfl | rfl | hv
  · exact (h.msgs.2.1.lt g hg).2
  · exact (h.row.lt g hg).2
  · exact (h.cut.lt g hg).2
  · obtain ⟨k, hk⟩ := List.getElem?_of_mem hv
    have hlt : k < f.msgs.length := by have := (List.getElem?_eq_some_iff.1 hk).1; have := h.msgs.1; omega
    exact ((h.msgs.2.2 k _ v (List.getElem?_eq_getElem hlt) hk).lt g hg).2

set_option maxHeartbeats 1000000 in
theorem decodes_yes (s : List UInt8) (w : World) (hl : s.length ≤ 140737488351232) :
    Calls Try.prog 12 #[.string ⟨s.toArray⟩] w fun e w' => e = .returned (.bool true) ∧ Below w.heap.size w w' := by
  have hdec := fun w => decode_any s w hl
  have href := fun w => refDec_one s w (by omega)
  obtain ⟨b1, b2, b3, b4⟩ := decF_bound s
  generalize decF s = f at hdec href b1 b2 b3 b4
  generalize decE s = er at hdec href
  obtain ⟨f0, f1, f2, f3, f4, f5, f6, row, cut, ms⟩ := f
  simp only at hdec href b1 b2 b3 b4
  have HD : Hid (∀ w, Calls Try.prog 14 _ w _) := hdec
  have HR : Hid (∀ w, Calls Try.prog 29 _ w _) := href
  clear hdec href
  go_enter Try.func12, Try.ntmps12
  go_wp2_with fail
  refine (HR.out w).mono ?_
  rintro e w1 ⟨rv, cv, mv, rfl, n1, n2, n3, hb1⟩
  obtain ⟨ro, rn, rc, rfl⟩ := n1.form
  obtain ⟨co, cn, cc, rfl⟩ := n2.form
  obtain ⟨mo, mn, mc, rfl⟩ := n3.form
  have HN : Hid (NumsAt w1 w1.heap.size (.slice ro rn rc) row ∧ NumsAt w1 w1.heap.size (.slice co cn cc) cut ∧ MsgsAt w1 w1.heap.size (.slice mo mn mc) ms) := ⟨n1, n2, n3⟩
  have HB1 : Hid (Below w.heap.size w w1) := hb1
  clear n1 n2 n3 hb1
  go_wp2_with fail
  refine (HD.out _).mono ?_
  rintro e w2 ⟨rv2, cv2, mv2, tv2, rfl, hf2, hb2⟩
  obtain ⟨ro2, rc2, hrv⟩ := own_form hf2.row
  obtain ⟨co2, cc2, hcv⟩ := own_form hf2.cut
  obtain ⟨mo2, mc2, hmv⟩ := own_form hf2.msgs.2.1
  simp only at hrv hcv hmv
  subst hrv hcv hmv
  have HA2 : Hid (BlkAt w2 w1.heap.size 28 #[.int .i64 f0, .int .i64 f1, .int .i64 f2, .int .i64 f3, .int .i64 f4, .int .i64 f5, .int .i64 f6, .slice ro rn rc, .slice co cn cc, .slice mo mn mc]) := (BlkAt.new _ _ rfl 28 _).below hb2 (by simp)
  have HF2 : Hid (FrameOwn w2 (w1.heap.size + 1) ⟨f0, f1, f2, f3, f4, f5, f6, row, cut, ms⟩ (.slice ro2 row.length rc2) (.slice co2 cut.length cc2) (.slice mo2 ms.length mc2) tv2) := hf2.base (by simp)
  have HB2 : Hid (Below w1.heap.size w1 w2) := ((Below.refl _ _).alloc (Nat.le_refl _) _).trans (hb2.mono (by simp))
  have hz2 : w1.heap.size + 1 ≤ w2.heap.size := by have := hb2.size; simpa using this
  clear hf2 hb2
  go_wp2_with fail
  refine (HD.out _).mono ?_
  rintro e w3 ⟨rv3, cv3, mv3, tv3, rfl, hf3, hb3⟩
  obtain ⟨ro3, rc3, hrv⟩ := own_form hf3.row
  obtain ⟨co3, cc3, hcv⟩ := own_form hf3.cut
  obtain ⟨mo3, mc3, hmv⟩ := own_form hf3.msgs.2.1
  simp only at hrv hcv hmv
  subst hrv hcv hmv
  have HA3 : Hid (BlkAt w3 w1.heap.size 28 #[.int .i64 f0, .int .i64 f1, .int .i64 f2, .int .i64 f3, .int .i64 f4, .int .i64 f5, .int .i64 f6, .slice ro rn rc, .slice co cn cc, .slice mo mn mc]) := (HA2.out.alloc _).below hb3 (by simp; omega)
  have HO3 : Hid (BlkAt w3 w2.heap.size 28 #[.int .i64 f0, .int .i64 f1, .int .i64 f2, .int .i64 f3, .int .i64 f4, .int .i64 f5, .int .i64 f6, .slice ro2 row.length rc2, .slice co2 cut.length cc2, .slice mo2 ms.length mc2]) := (BlkAt.new _ _ rfl 28 _).below hb3 (by simp)
  have HF3 : Hid (FrameOwn w3 (w2.heap.size + 1) ⟨f0, f1, f2, f3, f4, f5, f6, row, cut, ms⟩ (.slice ro3 row.length rc3) (.slice co3 cut.length cc3) (.slice mo3 ms.length mc3) tv3) := hf3.base (by simp)
  have HB3 : Hid (Below w2.heap.size w2 w3) := ((Below.refl _ _).alloc (Nat.le_refl _) _).trans (hb3.mono (by simp))
  have hz3 : w2.heap.size + 1 ≤ w3.heap.size := by have := hb3.size; simpa using this
  clear hf3 hb3 HA2
  obtain ⟨p0, p1, p2, p3, p4, p5, p6, p7, p8, p9⟩ := HA3.out.cells10'
  obtain ⟨q0, q1, q2, q3, q4, q5, q6, q7, q8, q9⟩ := HO3.out.cells10'
  have hx1 : w1.heap.size < w3.heap.size := by omega
  have hx2 : w2.heap.size < w3.heap.size := by omega
  go_wp2_with fail
  have HV : Hid (∀ o, Below w3.heap.size w3 (w3.alloc o)) := fun o => (Below.refl _ _).alloc (Nat.le_refl _) o
  have HV2 : Hid (∀ o, Below w2.heap.size w2 (w3.alloc o)) := fun o => HB3.out.trans ((HV.out o).mono (by omega))
  have HV1 : Hid (∀ o, Below w1.heap.size w1 (w3.alloc o)) := fun o => HB2.out.trans ((HV2.out o).mono (by omega))
  have hml : ∀ x ∈ ms, x.time.length ≤ maxLen := fun x hx => by have := b4 x hx; unfold maxLen; omega
  have HML : Hid (∀ x ∈ ms, x.time.length ≤ maxLen) := hml
  clear hml
  refine (sameFrames_any ⟨f0, f1, f2, f3, f4, f5, f6, row, cut, ms⟩ _ _ _ _ _ _ w2.heap.size w1.heap.size _ ((nums_of_own HF2.out.row).below (HV2.out _)) ((nums_of_own HF2.out.cut).below (HV2.out _)) ((msgs_of_own HF2.out.msgs).below (HV2.out _))
    (HN.out.1.below (HV1.out _)) (HN.out.2.1.below (HV1.out _)) (HN.out.2.2.below (HV1.out _)) (by simp; omega) (by simp; omega) (by show row.length ≤ maxLen; unfold maxLen; omega) (by show cut.length ≤ maxLen; unfold maxLen; omega) (by show ms.length ≤ maxLen; unfold maxLen; omega) HML.out).mono ?_
  rintro e w4 ⟨rfl, hb4⟩
  have hz4 : w3.heap.size + 1 ≤ w4.heap.size := by have := hb4.size; simpa using this
  have HG4 : Hid (BlkAt w4 w3.heap.size 28 #[.int .i64 f0, .int .i64 f1, .int .i64 f2, .int .i64 f3, .int .i64 f4, .int .i64 f5, .int .i64 f6, .slice ro3 row.length rc3, .slice co3 cut.length cc3, .slice mo3 ms.length mc3]) := (BlkAt.new _ _ rfl 28 _).below hb4 (by simp)
  have HB34 : Hid (Below w3.heap.size w3 w4) := (HV.out _).trans (hb4.mono (by simp))
  have HB24 : Hid (Below w2.heap.size w2 w4) := HB3.out.trans (HB34.out.mono (by omega))
  have HB14 : Hid (Below w1.heap.size w1 w4) := HB2.out.trans (HB24.out.mono (by omega))
  have HA4 : Hid (BlkAt w4 w1.heap.size 28 _) := HA3.out.below HB34.out (by omega)
  have HO4 := HO3.out.below HB34.out (by omega)
  clear p0 p1 p2 p3 p4 p5 p6 p7 p8 p9 q0 q1 q2 q3 q4 q5 q6 q7 q8 q9 hb4
  obtain ⟨q0, q1, q2, q3, q4, q5, q6, q7, q8, q9⟩ := HO4.cells10'
  clear HO4
  go_wp2_with fail
  refine (spilt_no ⟨f0, f1, f2, f3, f4, f5, f6, row, cut, ms⟩ _ _ _ tv2 (w1.heap.size + 1) w2.heap.size _ (HF2.out.later HB24.out) HF2.out.tops hz2 HB24.out.size b1 b2 b3 b4).mono ?_
  rintro e w5 ⟨rfl, hm5⟩
  have hz5 := hm5.size
  have HB45 : Hid (Below (w1.heap.size + 1) w4 w5) := hm5.below (by omega)
  have HF5 : Hid (FrameOwn w5 (w2.heap.size + 1) ⟨f0, f1, f2, f3, f4, f5, f6, row, cut, ms⟩ (.slice ro3 row.length rc3) (.slice co3 cut.length cc3) (.slice mo3 ms.length mc3) tv3) := (HF3.out.later HB34.out).mid hm5 (by omega)
  have HA5 := HA4.out.below HB45.out (by omega)
  have HG5 : BlkAt w5 w3.heap.size 28 #[.int .i64 f0, .int .i64 f1, .int .i64 f2, .int .i64 f3, .int .i64 f4, .int .i64 f5, .int .i64 f6, .slice ro3 row.length rc3, .slice co3 cut.length cc3, .slice mo3 ms.length mc3] := (hm5.block w3.heap.size (by omega) (by rintro (⟨h1, h2⟩ | h1) <;> omega)).trans HG4.out
  have HB15 : Hid (Below w1.heap.size w1 w5) := HB14.out.trans (HB45.out.mono (by omega))
  clear q0 q1 q2 q3 q4 q5 q6 q7 q8 q9 hm5
  obtain ⟨p0, p1, p2, p3, p4, p5, p6, p7, p8, p9⟩ := HA5.cells10'
  obtain ⟨q0, q1, q2, q3, q4, q5, q6, q7, q8, q9⟩ := HG5.cells10'
  clear HA5 HG5
  go_wp2_with fail
  refine (sameFrames_any ⟨f0, f1, f2, f3, f4, f5, f6, row, cut, ms⟩ _ _ _ _ _ _ w5.heap.size w1.heap.size _ (nums_of_own HF5.out.row) (nums_of_own HF5.out.cut) (msgs_of_own HF5.out.msgs)
    (HN.out.1.below HB15.out) (HN.out.2.1.below HB15.out) (HN.out.2.2.below HB15.out) (Nat.le_refl _) (by omega) (by show row.length ≤ maxLen; unfold maxLen; omega) (by show cut.length ≤ maxLen; unfold maxLen; omega) (by show ms.length ≤ maxLen; unfold maxLen; omega) HML.out).mono ?_
  rintro e w6 ⟨rfl, hb6⟩
  have hz1 := HB1.out.size
  have HB6 : Hid (Below w.heap.size w w6) := HB1.out.trans ((HB15.out.mono hz1).trans (hb6.mono (by omega)))
  clear hb6
  go_wp2
  go_ret
  exact ⟨rfl, HB6.out⟩
end Go.Proofs.Ytoklolfaemhfnaa
