/-
  The walk of wire.Encode: of a frame that keeps the bounds the bytes of encB and OK, else no bytes and ErrFrame.
-/
import Derived.Test.YtoklolfaemhfnaaApp2
namespace Go.Proofs.Ytoklolfaemhfnaa
open Go.RowKit

/-- 'string(b)' of bytes of the call's own. -/
theorem convert_own {w : World} {base : Nat} {ao : Option Addr} {n c : Nat} {bs : List UInt8} (h : OwnB w base (.slice ao n c) bs) :
    (convert 43 9 (.slice ao n c)).run Try.prog w = .ok (.string ⟨bs.toArray⟩) w := by
  rcases h.2 with ⟨hv, h0⟩ | ⟨g, cap, cur, hv, hb, hg, _, _, _, htake⟩
  · simp at hv
    obtain ⟨rfl, rfl, rfl⟩ := hv
    have : bs = [] := List.eq_nil_of_length_eq_zero h0
    subst this
    rw [run_convert_bytes_string w 43 9 5 none 0 0 Try.underlying43 Try.underlying5 Try.underlying9]
    simp [Conv.bytesToString]
    rfl
  · simp at hv
    obtain ⟨rfl, rfl, rfl⟩ := hv
    refine run_convert_bytes_back w 43 9 5 ⟨g, 0, none⟩ c bs Try.underlying43 Try.underlying5 Try.underlying9 ?_
    intro j hj
    have h1 := World.ownsRow.cells h (g := g) rfl j (.int .u8 (bs[j].toNat : Int)) (by simp [Lib.byteCells, hj])
    exact h1

theorem encB_length {f : Codec.Frame} (h : Codec.fits f = true) : (Codec.bodyB f).length ≤ 5300 := by
  simp only [Codec.fits, Codec.msgsFit, Bool.and_eq_true, decide_eq_true_eq] at h
  obtain ⟨⟨⟨⟨_, _⟩, hr⟩, hc⟩, hml, hm⟩ := h
  have h1 := numsB_length hr
  have h2 := numsB_length hc
  have h3 := msgsB_length f.msgs hm
  simp [Codec.bodyB, Codec.word4_length]; omega

set_option maxHeartbeats 800000 in
theorem encode_no (f : Codec.Frame) (rv cv mv : Value) (B : Nat) (w : World) (hr : NumsAt w B rv f.row) (hc : NumsAt w B cv f.cut) (hm : MsgsAt w B mv f.msgs) (hB : B ≤ w.heap.size) (hf : Codec.fits f = false) :
    Calls Try.prog 10 #[.agg #[.int .i64 f.kind, .int .i64 f.src, .int .i64 f.dst, .int .i64 f.members, .int .i64 f.view, .int .i64 f.ballot, .int .i64 f.voted, rv, cv, mv]] w
      fun e w' => e = .returned (.tuple #[.string ⟨#[]⟩, .int .i64 3]) ∧ Below w.heap.size w w' := by
  obtain ⟨ro, rn, rc, rfl⟩ := hr.form
  obtain ⟨co, cn, cc, rfl⟩ := hc.form
  obtain ⟨mo, mn, mc, rfl⟩ := hm.form
  have HR : Hid (∀ w', Below w.heap.size w w' → NumsAt w' B (.slice ro rn rc) f.row) := fun w' hb => hr.below (hb.mono hB)
  have HC : Hid (∀ w', Below w.heap.size w w' → NumsAt w' B (.slice co cn cc) f.cut) := fun w' hb => hc.below (hb.mono hB)
  have HM : Hid (∀ w', Below w.heap.size w w' → MsgsAt w' B (.slice mo mn mc) f.msgs) := fun w' hb => hm.below (hb.mono hB)
  clear hr hc hm
  have hb0 : ∀ o, Below w.heap.size w (w.alloc o) := fun o => (Below.refl _ _).alloc (Nat.le_refl _) o
  go_enter Try.func10, Try.ntmps10
  go_wp2_with (go_at_call 24; refine (frameFits_any f _ _ _ B _ (HR.out _ (hb0 _)) (HC.out _ (hb0 _)) (HM.out _ (hb0 _)) (by simp; omega)).mono ?_; rintro e w1 ⟨rfl, hb1⟩)
  go_ret2
  exact ⟨rfl, (hb0 _).trans (hb1.mono (by simp))⟩

set_option maxHeartbeats 800000 in
theorem encode_yes (f : Codec.Frame) (rv cv mv : Value) (B : Nat) (w : World) (hr : NumsAt w B rv f.row) (hc : NumsAt w B cv f.cut) (hm : MsgsAt w B mv f.msgs) (hB : B ≤ w.heap.size) (hf : Codec.fits f = true) :
    Calls Try.prog 10 #[.agg #[.int .i64 f.kind, .int .i64 f.src, .int .i64 f.dst, .int .i64 f.members, .int .i64 f.view, .int .i64 f.ballot, .int .i64 f.voted, rv, cv, mv]] w
      fun e w' => e = .returned (.tuple #[.string ⟨(Codec.encB f).toArray⟩, .int .i64 0]) ∧ Below w.heap.size w w' := by
  obtain ⟨ro, rn, rc, rfl⟩ := hr.form
  obtain ⟨co, cn, cc, rfl⟩ := hc.form
  obtain ⟨mo, mn, mc, rfl⟩ := hm.form
  have HR : Hid (∀ w', Below w.heap.size w w' → NumsAt w' B (.slice ro rn rc) f.row) := fun w' hb => hr.below (hb.mono hB)
  have HC : Hid (∀ w', Below w.heap.size w w' → NumsAt w' B (.slice co cn cc) f.cut) := fun w' hb => hc.below (hb.mono hB)
  have HM : Hid (∀ w', Below w.heap.size w w' → MsgsAt w' B (.slice mo mn mc) f.msgs) := fun w' hb => hm.below (hb.mono hB)
  clear hr hc hm
  have hb0 : ∀ o, Below w.heap.size w (w.alloc o) := fun o => (Below.refl _ _).alloc (Nat.le_refl _) o
  have hlen := encB_length hf
  have HE : Hid (Codec.encB f = Codec.bodyB f ++ Codec.word4 (Crc.sum (Codec.bodyB f))) := rfl
  obtain ⟨k, a, b, m, v, u, t, row, cut, ms⟩ := f
  have hf' := hf
  simp only [Codec.fits, Codec.headFits, Codec.ballotsFit, Codec.msgsFit, Bool.and_eq_true, decide_eq_true_eq, Codec.inB_iff] at hf'
  obtain ⟨⟨⟨⟨⟨⟨⟨k1, a1⟩, b1⟩, m1⟩, ⟨v1, u1⟩, t1⟩, hrf⟩, hcf⟩, hml, hmf⟩ := hf'
  obtain ⟨v, rfl⟩ := Int.eq_ofNat_of_zero_le v1.1
  obtain ⟨u, rfl⟩ := Int.eq_ofNat_of_zero_le u1.1
  obtain ⟨t, rfl⟩ := Int.eq_ofNat_of_zero_le t1.1
  simp only at HR HC HM ⊢
  have HF : Hid (∀ (w : World) (hr : NumsAt w B (.slice ro rn rc) row) (hc : NumsAt w B (.slice co cn cc) cut) (hm : MsgsAt w B (.slice mo mn mc) ms) (_ : B ≤ w.heap.size), Calls Try.prog 25 #[.slice none 0 0, .agg #[.int .i64 k, .int .i64 a, .int .i64 b, .int .i64 m, .int .i64 v, .int .i64 u, .int .i64 t, .slice ro rn rc, .slice co cn cc, .slice mo mn mc]] w
      fun e w' => ∃ x, e = .returned x ∧ OwnB w' w.heap.size x (Codec.bodyB ⟨k, a, b, m, v, u, t, row, cut, ms⟩) ∧ Below w.heap.size w w') := fun w hr hc hm hB =>
    appendFrame_any k a b m v u t row cut ms _ _ _ B w hr hc hm hB (by omega) k1.2 a1.1 a1.2 b1.1 b1.2 m1.1 m1.2 (by omega) (by omega) (by omega) hrf hcf hml hmf
  have HFit : Hid (∀ (w : World) (hr : NumsAt w B (.slice ro rn rc) row) (hc : NumsAt w B (.slice co cn cc) cut) (hm : MsgsAt w B (.slice mo mn mc) ms) (_ : B ≤ w.heap.size), Calls Try.prog 24 #[.agg #[.int .i64 k, .int .i64 a, .int .i64 b, .int .i64 m, .int .i64 v, .int .i64 u, .int .i64 t, .slice ro rn rc, .slice co cn cc, .slice mo mn mc]] w
      fun e w' => e = .returned (.bool true) ∧ Below w.heap.size w w') := fun w hr hc hm hB =>
    (frameFits_any ⟨k, a, b, m, v, u, t, row, cut, ms⟩ _ _ _ B w hr hc hm hB).mono (fun e w' h => by rw [hf] at h; exact h)
  generalize Codec.bodyB ⟨k, a, b, m, v, u, t, row, cut, ms⟩ = bd at HE HF hlen
  generalize Codec.encB ⟨k, a, b, m, v, u, t, row, cut, ms⟩ = en at HE ⊢
  clear k1 a1 b1 m1 v1 u1 t1 hrf hcf hml hmf hf
  go_enter Try.func10, Try.ntmps10
  go_wp2_with fail
  refine (HFit.out _ (HR.out _ (hb0 _)) (HC.out _ (hb0 _)) (HM.out _ (hb0 _)) (by simp; omega)).mono ?_
  rintro e w1 ⟨rfl, hb1⟩
  have hb1' := (hb0 _).trans (hb1.mono (by simp))
  have hs1 := hb1.size
  simp at hs1
  obtain ⟨hc1, hf1⟩ := bcell hb1
  go_wp2_with fail
  refine (HF.out _ (HR.out _ hb1') (HC.out _ hb1') (HM.out _ hb1') (by omega)).mono ?_
  rintro e w2 ⟨x, rfl, O2, hb2⟩
  have hb2' := hb1'.trans (hb2.mono (by omega))
  have hs2 := hb2.size
  obtain ⟨xo, xn, xc, rfl⟩ := O2.form
  have hcv := convert_own O2
  go_wp2_with fail
  refine (wireSum_any ⟨bd.toArray⟩ _ (by unfold maxLen; show bd.toArray.size ≤ _; simp; omega)).mono ?_
  rintro e w2 ⟨rfl, rfl⟩
  go_wp2_with fail
  refine (appendWord_any _ bd (Crc.sum bd) (Crc.sum_lt _) _ _ O2 (by omega) (by omega)).mono ?_
  rintro e w3 ⟨y, rfl, O3, A3⟩
  obtain ⟨yo, yn, yc, rfl⟩ := O3.form
  have hcv3 := convert_own O3
  have hb3 := hb2'.trans ((A3.below (Nat.le_trans hs1 hs2 |> fun h => by omega) (fun k hk => (O2.lt k hk).1)).mono (by omega))
  go_wp2
  go_ret2
  exact ⟨by rw [HE.out]; rfl, hb3⟩
end Go.Proofs.Ytoklolfaemhfnaa
