/-
  The document's May, whole.
-/
import Derived.Test.YtoklolfaemhfnaaMay2
namespace Go.Proofs.Ytoklolfaemhfnaa
open Go.RowKit

theorem may_any (f : Codec.Frame) (rv cv mv : Value) (B : Nat) (w : World) (hr : NumsAt w B rv f.row) (hc : NumsAt w B cv f.cut) (hm : MsgsAt w B mv f.msgs) (hB : B ≤ w.heap.size)
    (hl1 : f.row.length ≤ maxLen) (hl2 : f.cut.length ≤ maxLen) (htl : ∀ x ∈ f.msgs, x.time.length ≤ maxLen) :
    Calls Try.prog 19 #[.agg #[.int .i64 f.kind, .int .i64 f.src, .int .i64 f.dst, .int .i64 f.members, .int .i64 f.view, .int .i64 f.ballot, .int .i64 f.voted, rv, cv, mv]] w fun e w' => e = .returned (.bool (Codec.fits f)) ∧ Below w.heap.size w w' := by
  have hiff := fits_iff f
  by_cases h : (1 ≤ f.kind ∧ f.kind ≤ 7 ∧ 0 ≤ f.src ∧ f.src ≤ 5 ∧ 0 ≤ f.dst ∧ f.dst ≤ 5 ∧ 0 ≤ f.members ∧ f.members ≤ 63) ∧ (0 ≤ f.view ∧ f.view ≤ 2147483647 ∧ 0 ≤ f.ballot ∧ f.ballot ≤ 2147483647 ∧ 0 ≤ f.voted ∧ f.voted ≤ 2147483647)
  · obtain ⟨ha, hb⟩ := h
    by_cases h2 : Codec.listFits f.row = false ∨ Codec.listFits f.cut = false ∨ 200 < f.msgs.length
    · have e : Codec.fits f = false := by
        cases e : Codec.fits f with
        | false => rfl
        | true =>
          obtain ⟨_, _, i, j, k, _⟩ := hiff.1 e
          rcases h2 with h2 | h2 | h2
          · rw [i] at h2; cases h2
          · rw [j] at h2; cases h2
          · omega
      rw [e]
      obtain ⟨mo, mn, mc, rfl⟩ := hm.form
      obtain ⟨rfl, -⟩ := hm.entry
      exact may_lists _ _ _ _ _ _ _ f.row f.cut mo _ mc B rv cv w hr hc hB hl1 hl2 ha hb h2
    · have e1 : Codec.listFits f.row = true := by cases e : Codec.listFits f.row <;> simp_all
      have e2 : Codec.listFits f.cut = true := by cases e : Codec.listFits f.cut <;> simp_all
      have e3 : f.msgs.length ≤ 200 := by simp_all
      have e : Codec.fits f = f.msgs.all Codec.msgFits := by
        cases e : f.msgs.all Codec.msgFits with
        | true => exact hiff.2 ⟨ha, hb, e1, e2, e3, e⟩
        | false =>
          cases e' : Codec.fits f with
          | false => rfl
          | true => have := (hiff.1 e').2.2.2.2.2; rw [e] at this; cases this
      rw [e]
      exact may_loop _ _ _ _ _ _ _ f.row f.cut f.msgs mv B rv cv w hr hc hm hB hl1 hl2 htl ha hb e1 e2 e3
  · have e : Codec.fits f = false := by
      cases e : Codec.fits f with
      | false => rfl
      | true => exact absurd ⟨(hiff.1 e).1, (hiff.1 e).2.1⟩ h
    rw [e]
    obtain ⟨ro, rn, rc, rfl⟩ := hr.form
    obtain ⟨co, cn, cc, rfl⟩ := hc.form
    obtain ⟨mo, mn, mc, rfl⟩ := hm.form
    exact may_head _ _ _ _ _ _ _ _ _ _ _ _ _ _ _ _ w h
end Go.Proofs.Ytoklolfaemhfnaa
