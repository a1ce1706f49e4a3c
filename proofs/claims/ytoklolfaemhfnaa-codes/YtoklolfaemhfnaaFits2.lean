/-
  The walks of wire.headFits, ballotsFit and frameFits: what the plain functions of the Codec text say.
-/
import Derived.Test.YtoklolfaemhfnaaFits
namespace Go.Proofs.Ytoklolfaemhfnaa
open Go.RowKit

set_option maxHeartbeats 1600000 in
theorem headFits_any (f : Codec.Frame) (ro co mo : Option Addr) (rn rc cn cc mn mc : Nat) (w : World) :
    Calls Try.prog 35 #[.agg #[.int .i64 f.kind, .int .i64 f.src, .int .i64 f.dst, .int .i64 f.members, .int .i64 f.view, .int .i64 f.ballot, .int .i64 f.voted, .slice ro rn rc, .slice co cn cc, .slice mo mn mc]] w
      fun e w' => e = .returned (.bool (Codec.headFits f)) ∧ Below w.heap.size w w' := by
  obtain ⟨k, a, b, m, v, u, t, row, cut, ms⟩ := f
  simp only
  have HX : Hid (Codec.headFits ⟨k, a, b, m, v, u, t, row, cut, ms⟩ = (Codec.inB k 1 7 && Codec.inB a 0 5 && Codec.inB b 0 5 && Codec.inB m 0 63)) := rfl
  generalize Codec.headFits ⟨k, a, b, m, v, u, t, row, cut, ms⟩ = r at HX ⊢
  cases h1 : Codec.inB k 1 7 <;> cases h2 : Codec.inB a 0 5 <;> cases h3 : Codec.inB b 0 5 <;> cases h4 : Codec.inB m 0 63
  all_goals
    go_enter Try.func35, Try.ntmps35
    go_wp2_with (go_at_call 48; refine (within_any _ _ _ _).mono ?_; rintro e w' ⟨rfl, rfl⟩)
    go_ret
    exact ⟨ret_bool (by rw [HX.out, h1, h2, h3, h4]; rfl), (Below.refl _ _).alloc (Nat.le_refl _) _⟩

set_option maxHeartbeats 1600000 in
theorem ballotsFit_any (f : Codec.Frame) (ro co mo : Option Addr) (rn rc cn cc mn mc : Nat) (w : World) :
    Calls Try.prog 36 #[.agg #[.int .i64 f.kind, .int .i64 f.src, .int .i64 f.dst, .int .i64 f.members, .int .i64 f.view, .int .i64 f.ballot, .int .i64 f.voted, .slice ro rn rc, .slice co cn cc, .slice mo mn mc]] w
      fun e w' => e = .returned (.bool (Codec.ballotsFit f)) ∧ Below w.heap.size w w' := by
  obtain ⟨k, a, b, m, v, u, t, row, cut, ms⟩ := f
  simp only
  have HX : Hid (Codec.ballotsFit ⟨k, a, b, m, v, u, t, row, cut, ms⟩ = (Codec.inB v 0 2147483647 && Codec.inB u 0 2147483647 && Codec.inB t 0 2147483647)) := rfl
  generalize Codec.ballotsFit ⟨k, a, b, m, v, u, t, row, cut, ms⟩ = r at HX ⊢
  cases h1 : Codec.inB v 0 2147483647 <;> cases h2 : Codec.inB u 0 2147483647 <;> cases h3 : Codec.inB t 0 2147483647
  all_goals
    go_enter Try.func36, Try.ntmps36
    go_wp2_with (go_at_call 48; refine (within_any _ _ _ _).mono ?_; rintro e w' ⟨rfl, rfl⟩)
    go_ret
    exact ⟨ret_bool (by rw [HX.out, h1, h2, h3]; rfl), (Below.refl _ _).alloc (Nat.le_refl _) _⟩

theorem bcell {W w1 : World} (hb : Below W.heap.size W w1) : (∀ b o, b < W.heap.size → w1.cell? ⟨b, o, none⟩ = W.cell? ⟨b, o, none⟩) ∧ (∀ b o, b < W.heap.size → w1.frozen? ⟨b, o, none⟩ = W.frozen? ⟨b, o, none⟩) :=
  ⟨fun b o h => hb.cell (p := ⟨b, o, none⟩) h, fun b o h => hb.frozen (p := ⟨b, o, none⟩) h⟩

set_option maxHeartbeats 1600000 in
theorem frameFits_any (f : Codec.Frame) (rv cv mv : Value) (B : Nat) (w : World) (hr : NumsAt w B rv f.row) (hc : NumsAt w B cv f.cut) (hm : MsgsAt w B mv f.msgs) (hB : B ≤ w.heap.size) :
    Calls Try.prog 24 #[.agg #[.int .i64 f.kind, .int .i64 f.src, .int .i64 f.dst, .int .i64 f.members, .int .i64 f.view, .int .i64 f.ballot, .int .i64 f.voted, rv, cv, mv]] w
      fun e w' => e = .returned (.bool (Codec.fits f)) ∧ Below w.heap.size w w' := by
  obtain ⟨ro, rn, rc, rfl⟩ := hr.form
  obtain ⟨co, cn, cc, rfl⟩ := hc.form
  obtain ⟨mo, mn, mc, rfl⟩ := hm.form
  have HR : Hid (∀ w', Below B w w' → NumsAt w' B (.slice ro rn rc) f.row) := fun w' hb => hr.below hb
  have HC : Hid (∀ w', Below B w w' → NumsAt w' B (.slice co cn cc) f.cut) := fun w' hb => hc.below hb
  have HM : Hid (∀ w', Below B w w' → MsgsAt w' B (.slice mo mn mc) f.msgs) := fun w' hb => hm.below hb
  clear hr hc hm
  have HX : Hid (Codec.fits f = (Codec.headFits f && Codec.ballotsFit f && Codec.listFits f.row && Codec.listFits f.cut && Codec.msgsFit f.msgs)) := rfl
  generalize Codec.fits f = r at HX ⊢
  have hb0 : ∀ o, Below w.heap.size w (w.alloc o) := fun o => (Below.refl _ _).alloc (Nat.le_refl _) o
  cases h1 : Codec.headFits f with
  | false =>
    go_enter Try.func24, Try.ntmps24
    go_wp2_with (go_at_call 35; refine (headFits_any f _ _ _ _ _ _ _ _ _ _).mono ?_; rintro e w1 ⟨rfl, hb1⟩; obtain ⟨hc1, hf1⟩ := bcell hb1)
    go_ret
    exact ⟨ret_bool (by rw [HX.out, h1]; rfl), (hb0 _).trans (hb1.mono (by simp))⟩
  | true =>
    cases h2 : Codec.ballotsFit f with
    | false =>
      go_enter Try.func24, Try.ntmps24
      go_wp2_with (first | (go_at_call 35; refine (headFits_any f _ _ _ _ _ _ _ _ _ _).mono ?_; rintro e w1 ⟨rfl, hb1⟩; obtain ⟨hc1, hf1⟩ := bcell hb1) | (go_at_call 36; refine (ballotsFit_any f _ _ _ _ _ _ _ _ _ _).mono ?_; rintro e w2 ⟨rfl, hb2⟩; obtain ⟨hc2, hf2⟩ := bcell hb2))
      go_ret
      exact ⟨ret_bool (by rw [HX.out, h1, h2]; rfl), ((hb0 _).trans (hb1.mono (by simp))).trans (hb2.mono (by have := hb1.size; simp at this; omega))⟩
    | true =>
      cases h3 : Codec.listFits f.row with
      | false =>
        go_enter Try.func24, Try.ntmps24
        go_wp2_with (first | (go_at_call 35; refine (headFits_any f _ _ _ _ _ _ _ _ _ _).mono ?_; rintro e w1 ⟨rfl, hb1⟩; obtain ⟨hc1, hf1⟩ := bcell hb1; have hz1 : w.heap.size < w1.heap.size := by (have := hb1.size; simp at this; omega)) | (go_at_call 36; refine (ballotsFit_any f _ _ _ _ _ _ _ _ _ _).mono ?_; rintro e w2 ⟨rfl, hb2⟩; obtain ⟨hc2, hf2⟩ := bcell hb2; have hz2 := hb2.size; have hbb : Below w.heap.size w w2 := ((hb0 _).trans (hb1.mono (by simp))).trans (hb2.mono (by omega))))
        refine (listFits_any _ f.row B _ (HR.out _ (hbb.mono hB))).mono ?_
        rintro e w' ⟨rfl, rfl⟩
        go_wp2
        go_ret
        exact ⟨ret_bool (by rw [HX.out, h1, h2, h3]; rfl), hbb⟩
      | true =>
        cases h4 : Codec.listFits f.cut with
        | false =>
          go_enter Try.func24, Try.ntmps24
          go_wp2_with (first | (go_at_call 35; refine (headFits_any f _ _ _ _ _ _ _ _ _ _).mono ?_; rintro e w1 ⟨rfl, hb1⟩; obtain ⟨hc1, hf1⟩ := bcell hb1; have hz1 : w.heap.size < w1.heap.size := by (have := hb1.size; simp at this; omega)) | (go_at_call 36; refine (ballotsFit_any f _ _ _ _ _ _ _ _ _ _).mono ?_; rintro e w2 ⟨rfl, hb2⟩; obtain ⟨hc2, hf2⟩ := bcell hb2; have hz2 := hb2.size; have hbb : Below w.heap.size w w2 := ((hb0 _).trans (hb1.mono (by simp))).trans (hb2.mono (by omega))))
          refine (listFits_any _ f.row B _ (HR.out _ (hbb.mono hB))).mono ?_
          rintro e w' ⟨rfl, rfl⟩
          go_wp2_with fail
          refine (listFits_any _ f.cut B _ (HC.out _ (hbb.mono hB))).mono ?_
          rintro e w' ⟨rfl, rfl⟩
          go_wp2
          go_ret
          exact ⟨ret_bool (by rw [HX.out, h1, h2, h3, h4]; rfl), hbb⟩
        | true =>
          go_enter Try.func24, Try.ntmps24
          go_wp2_with (first | (go_at_call 35; refine (headFits_any f _ _ _ _ _ _ _ _ _ _).mono ?_; rintro e w1 ⟨rfl, hb1⟩; obtain ⟨hc1, hf1⟩ := bcell hb1; have hz1 : w.heap.size < w1.heap.size := by (have := hb1.size; simp at this; omega)) | (go_at_call 36; refine (ballotsFit_any f _ _ _ _ _ _ _ _ _ _).mono ?_; rintro e w2 ⟨rfl, hb2⟩; obtain ⟨hc2, hf2⟩ := bcell hb2; have hz2 := hb2.size; have hbb : Below w.heap.size w w2 := ((hb0 _).trans (hb1.mono (by simp))).trans (hb2.mono (by omega))))
          refine (listFits_any _ f.row B _ (HR.out _ (hbb.mono hB))).mono ?_
          rintro e w' ⟨rfl, rfl⟩
          go_wp2_with fail
          refine (listFits_any _ f.cut B _ (HC.out _ (hbb.mono hB))).mono ?_
          rintro e w' ⟨rfl, rfl⟩
          go_wp2_with fail
          refine (msgsFit_any _ f.msgs B _ (HM.out _ (hbb.mono hB)) (by have := hbb.size; omega)).mono ?_
          rintro e w3 ⟨rfl, hb3⟩
          go_wp2
          go_ret
          exact ⟨ret_bool (by rw [HX.out, h1, h2, h3, h4]; simp), hbb.trans (hb3.mono (by have := hbb.size; omega))⟩
end Go.Proofs.Ytoklolfaemhfnaa
