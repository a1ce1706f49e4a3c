/-
  The walks of the law's sameInts, sameMsgs and sameFrames, at equal contents: true.
-/
import Derived.Test.YtoklolfaemhfnaaShp
import Derived.Deep.QuietTactic
import Derived.BigQuiet
import Derived.Laws.CopyOwn
namespace Go.Proofs.Ytoklolfaemhfnaa
open Go.RowKit

theorem below_drews {B : Nat} {a w : World} (h : Below B a w) (n : Nat) : Below B a (w.drewN n) := by
  induction n with
  | zero => exact h
  | succ n ih => exact ih.drew

/-- A number of a slice of numbers, by its place. -/
theorem NumsAt.entry {w : World} {B n c : Nat} {ao : Option Addr} {l : List Int} (h : NumsAt w B (.slice ao n c) l) :
    n = l.length ∧ ∀ k, k < l.length → ∃ b off, ao = some ⟨b, off, none⟩ ∧ b < B ∧ w.cell? ⟨b, off + k, none⟩ = some (.int .i64 (l.getD k 0)) := by
  rcases h with ⟨⟨ao0, c0, hv⟩, rfl⟩ | ⟨b, off, cap, hv, hb, hc⟩
  · simp at hv
    exact ⟨by simp [hv], fun k hk => by simp at hk⟩
  · simp at hv
    exact ⟨hv.2.1, fun k hk => ⟨b, off, hv.1, hb, hc k hk⟩⟩

set_option maxHeartbeats 800000 in
theorem sameInts_any (av bv : Value) (l : List Int) (B B' : Nat) (w : World) (ha : NumsAt w B av l) (hb : NumsAt w B' bv l) (hlen : l.length ≤ maxLen) :
    Calls Try.prog 27 #[av, bv] w fun e w' => e = .returned (.bool true) ∧ ∃ n, w' = w.drewN n := by
  unfold maxLen at hlen
  obtain ⟨ao, an, ac, rfl⟩ := ha.form
  obtain ⟨bo, bn, bc, rfl⟩ := hb.form
  obtain ⟨rfl, ea⟩ := ha.entry
  obtain ⟨rfl, eb⟩ := hb.entry
  have EA : Hid (∀ k, k < l.length → ∃ b off, ao = some ⟨b, off, none⟩ ∧ b < B ∧ w.cell? ⟨b, off + k, none⟩ = some (.int .i64 (l.getD k 0))) := ea
  have EB : Hid (∀ k, k < l.length → ∃ b off, bo = some ⟨b, off, none⟩ ∧ b < B' ∧ w.cell? ⟨b, off + k, none⟩ = some (.int .i64 (l.getD k 0))) := eb
  clear ha hb ea eb
  go_enter Try.func27, Try.ntmps27
  go_wp2
  go_loopw [5] (fun i wr => ∃ k : Nat, k ≤ l.length ∧ i = .int .i64 k ∧ ∃ n, wr = w.drewN n) (fun i _ => l.length - (intOf i).toNat)
  case atStart => exact ⟨0, by omega, rfl, 0, rfl⟩
  case round =>
    obtain ⟨k, hk, rfl, n, rfl⟩ := hrel
    by_cases hlt : k < l.length
    · obtain ⟨ab, aoff, rfl, hab, ca⟩ := EA.out k hlt
      obtain ⟨bb, boff, rfl, hbb, cb⟩ := EB.out k hlt
      generalize l.getD k 0 = x at ca cb
      have hk0 : (0 : Int) ≤ (k : Int) := Int.natCast_nonneg _
      have hk1 : (k : Int) < (l.length : Int) := by omega
      go_wp2
      go_quiet (fail)
      go_wp2
      go_roundw
      case rel => exact ⟨k + 1, by omega, by go_num, _, rfl⟩
      case measure => simp [intOf]; omega
    · go_wp2
      go_ret
      exact ⟨rfl, n, rfl⟩

set_option maxHeartbeats 1600000 in
theorem sameMsgs_any (av bv : Value) (l : List Codec.Msg) (B B' : Nat) (w : World) (ha : MsgsAt w B av l) (hb : MsgsAt w B' bv l) (hB : B ≤ w.heap.size) (hB' : B' ≤ w.heap.size) (hlen : l.length ≤ maxLen) (htl : ∀ m ∈ l, m.time.length ≤ maxLen) :
    Calls Try.prog 28 #[av, bv] w fun e w' => e = .returned (.bool true) ∧ Below w.heap.size w w' := by
  unfold maxLen at hlen
  obtain ⟨ao, an, ac, rfl⟩ := ha.form
  obtain ⟨bo, bn, bc, rfl⟩ := hb.form
  have HA : Hid (∀ w', Below w.heap.size w w' → MsgsAt w' B (.slice ao an ac) l) := fun w' h => ha.below (h.mono hB)
  have HB : Hid (∀ w', Below w.heap.size w w' → MsgsAt w' B' (.slice bo bn bc) l) := fun w' h => hb.below (h.mono hB')
  obtain ⟨rfl, -⟩ := ha.entry
  obtain ⟨rfl, -⟩ := hb.entry
  have HT : Hid (∀ m ∈ l, m.time.length ≤ maxLen) := htl
  clear ha hb htl
  go_enter Try.func28, Try.ntmps28
  go_wp2
  go_loopw [5] (fun i wr => ∃ k : Nat, k ≤ l.length ∧ i = .int .i64 k ∧ Below w.heap.size w wr) (fun i _ => l.length - (intOf i).toNat)
  case atStart => exact ⟨0, by omega, rfl, Below.refl _ _⟩
  case round =>
    obtain ⟨k, hk, rfl, hbel⟩ := hrel
    have hsz := hbel.size
    by_cases hlt : k < l.length
    · obtain ⟨m, hm⟩ : ∃ m, l[k]? = some m := ⟨l[k], List.getElem?_eq_getElem hlt⟩
      obtain ⟨ab, aoff, xo, xn, xc, rfl, hab, a0, a1, a2, a3, at'⟩ := (HA.out _ hbel).entry.2 k m hm
      obtain ⟨bb, boff, yo, yn, yc, rfl, hbb, b0, b1, b2, b3, bt⟩ := (HB.out _ hbel).entry.2 k m hm
      have hml := HT.out m (List.mem_of_getElem? hm)
      have HAT : Hid (NumsAt _ _ _ _) := at'
      have HBT : Hid (NumsAt _ _ _ _) := bt
      clear at' bt hm
      have hk0 : (0 : Int) ≤ (k : Int) := Int.natCast_nonneg _
      have hk1 : (k : Int) < (l.length : Int) := by omega
      go_wp2
      go_quiet ((go_at_call 27; exact Calls.quiet_of (sameInts_any _ _ m.time B B' _ (HAT.out.below (below_drewN (Below.refl _ _) _)) (HBT.out.below (below_drewN (Below.refl _ _) _)) hml)))
      go_wp2
      go_quiet (fail)
      go_wp2
      go_roundw
      case rel => exact ⟨k + 1, by omega, by go_num, below_drewN hbel _⟩
      case measure => simp [intOf]; omega
    · go_wp2
      go_ret
      exact ⟨rfl, hbel⟩

set_option maxHeartbeats 1600000 in
theorem sameFrames_any (f : Codec.Frame) (ra ca ma rb cb mb : Value) (B B' : Nat) (w : World) (har : NumsAt w B ra f.row) (hac : NumsAt w B ca f.cut) (ham : MsgsAt w B ma f.msgs)
    (hbr : NumsAt w B' rb f.row) (hbc : NumsAt w B' cb f.cut) (hbm : MsgsAt w B' mb f.msgs) (hB : B ≤ w.heap.size) (hB' : B' ≤ w.heap.size)
    (hl1 : f.row.length ≤ maxLen) (hl2 : f.cut.length ≤ maxLen) (hl3 : f.msgs.length ≤ maxLen) (htl : ∀ m ∈ f.msgs, m.time.length ≤ maxLen) :
    Calls Try.prog 15 #[.agg #[.int .i64 f.kind, .int .i64 f.src, .int .i64 f.dst, .int .i64 f.members, .int .i64 f.view, .int .i64 f.ballot, .int .i64 f.voted, ra, ca, ma],
        .agg #[.int .i64 f.kind, .int .i64 f.src, .int .i64 f.dst, .int .i64 f.members, .int .i64 f.view, .int .i64 f.ballot, .int .i64 f.voted, rb, cb, mb]] w
      fun e w' => e = .returned (.bool true) ∧ Below w.heap.size w w' := by
  obtain ⟨ro, rn, rc, rfl⟩ := har.form
  obtain ⟨co, cn, cc, rfl⟩ := hac.form
  obtain ⟨mo, mn, mc, rfl⟩ := ham.form
  obtain ⟨ro', rn', rc', rfl⟩ := hbr.form
  obtain ⟨co', cn', cc', rfl⟩ := hbc.form
  obtain ⟨mo', mn', mc', rfl⟩ := hbm.form
  have HR : Hid (∀ w', Below w.heap.size w w' → NumsAt w' B (.slice ro rn rc) f.row ∧ NumsAt w' B' (.slice ro' rn' rc') f.row) := fun w' hb => ⟨har.below (hb.mono hB), hbr.below (hb.mono hB')⟩
  have HC : Hid (∀ w', Below w.heap.size w w' → NumsAt w' B (.slice co cn cc) f.cut ∧ NumsAt w' B' (.slice co' cn' cc') f.cut) := fun w' hb => ⟨hac.below (hb.mono hB), hbc.below (hb.mono hB')⟩
  have HM : Hid (∀ w', Below w.heap.size w w' → MsgsAt w' B (.slice mo mn mc) f.msgs ∧ MsgsAt w' B' (.slice mo' mn' mc') f.msgs) := fun w' hb => ⟨ham.below (hb.mono hB), hbm.below (hb.mono hB')⟩
  clear har hac ham hbr hbc hbm
  have hb0 : ∀ o o', Below w.heap.size w ((w.alloc o).alloc o') := fun o o' => ((Below.refl _ _).alloc (Nat.le_refl _) o).alloc (by simp) o'
  have HB0 : Hid (∀ o o', Below w.heap.size w ((w.alloc o).alloc o')) := hb0
  clear hb0
  go_enter Try.func15, Try.ntmps15
  go_wp2_with fail
  refine (sameInts_any _ _ f.row B B' _ (HR.out _ (HB0.out _ _)).1 (HR.out _ (HB0.out _ _)).2 hl1).mono ?_
  rintro e w1 ⟨rfl, n1, rfl⟩
  go_wp2_with fail
  refine (sameInts_any _ _ f.cut B B' _ (HC.out _ (below_drewN (HB0.out _ _) _)).1 (HC.out _ (below_drewN (HB0.out _ _) _)).2 hl2).mono ?_
  rintro e w2 ⟨rfl, n2, rfl⟩
  go_wp2_with fail
  refine (sameMsgs_any _ _ f.msgs B B' _ (HM.out _ (below_drewN (HB0.out _ _) _)).1 (HM.out _ (below_drewN (HB0.out _ _) _)).2 (by simp; omega) (by simp; omega) hl3 htl).mono ?_
  rintro e w3 ⟨rfl, hb3⟩
  obtain ⟨hc3, hf3⟩ := bcell hb3
  have hb3' := (below_drewN (HB0.out _ _) _).trans (hb3.mono (by simp; omega))
  go_wp2
  go_ret
  exact ⟨rfl, hb3'⟩
end Go.Proofs.Ytoklolfaemhfnaa
