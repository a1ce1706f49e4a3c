/-
  The plain mathematics of the document's other reader of frames: it finds the same frames. No Go in it.
-/
import Derived.Test.YtoklolfaemhfnaaRef2
import Derived.Test.YtoklolfaemhfnaaDec
namespace Go.Proofs.Ytoklolfaemhfnaa
open Go.RowKit

/-! ### The other reader: it leaves a text out that is cut short -/
def textR (s : List UInt8) : ByteArray × List UInt8 :=
  (⟨(if (Codec.oct s).1.toNat ≤ (Codec.oct s).2.length then (Codec.oct s).2.take (Codec.oct s).1.toNat else []).toArray⟩, (Codec.oct s).2.drop (Codec.oct s).1.toNat)
def msgR (s : List UInt8) : Codec.Msg × List UInt8 :=
  let a := Codec.oct s
  let b := Codec.oct a.2
  let t := Codec.nums b.2
  let x := textR t.2
  (⟨a.1, b.1, t.1, x.1⟩, x.2)
def msgsR : Nat → List UInt8 → List Codec.Msg × List UInt8
  | 0, s => ([], s)
  | n + 1, s => ((msgR s).1 :: (msgsR n (msgR s).2).1, (msgsR n (msgR s).2).2)
def frameR (s : List UInt8) : Codec.Frame :=
  let k := Codec.oct s
  let a := Codec.oct k.2
  let b := Codec.oct a.2
  let m := Codec.oct b.2
  let v := Codec.word m.2
  let u := Codec.word v.2
  let t := Codec.word u.2
  let r := Codec.nums t.2
  let c := Codec.nums r.2
  let n := Codec.oct c.2
  ⟨k.1, a.1, b.1, m.1, v.1, u.1, t.1, r.1, c.1, (msgsR n.1.toNat n.2).1⟩

theorem textR_back (t : ByteArray) (r : List UInt8) (h : t.size ≤ 16) : textR (UInt8.ofNat t.size :: (t.data.toList ++ r)) = (t, r) := by
  have e : (UInt8.ofNat t.size).toNat = t.size := by simp; omega
  have l : t.data.toList.length = t.size := by rw [Array.length_toList]; rfl
  simp only [textR, Codec.oct_cons, e, Int.toNat_natCast]
  rw [if_pos (by simp), ← l, List.take_left, List.drop_left]
theorem msgR_back (m : Codec.Msg) (r : List UInt8) (h : Codec.msgFits m = true) : msgR (Codec.msgB m ++ r) = (m, r) := by
  obtain ⟨s0, s1, q0, q1, ht, hx⟩ := msg_bound h
  simp only [msgR, Codec.msgB, List.cons_append, List.nil_append, List.append_assoc, Codec.oct_cons, Codec.nums_back _ _ ht, textR_back _ _ hx, Codec.b8_toNat s0 (by omega), Codec.b8_toNat (show (0 : Int) ≤ m.seq by omega) (by omega)]
theorem msgsR_back (l : List Codec.Msg) (r : List UInt8) (h : l.all Codec.msgFits = true) : msgsR l.length (Codec.msgsB l ++ r) = (l, r) := by
  induction l with
  | nil => rfl
  | cons m l ih =>
    simp only [List.all_cons, Bool.and_eq_true] at h
    have e : Codec.msgsB (m :: l) ++ r = Codec.msgB m ++ (Codec.msgsB l ++ r) := by simp [Codec.msgsB]
    rw [e]
    simp only [List.length_cons, msgsR, msgR_back m _ h.1, ih h.2]
theorem frameR_back (f : Codec.Frame) (r : List UInt8) (h : Codec.fits f = true) : frameR (Codec.bodyB f ++ r) = f := by
  obtain ⟨⟨p1, p2, p3, p4, p5, p6, p7, p8⟩, ⟨q1, q2, q3, q4, q5, q6⟩, hr, hc, hl, hm⟩ := (fits_iff f).1 h
  have e : (UInt8.ofNat f.msgs.length).toNat = f.msgs.length := by simp; omega
  simp only [frameR, Codec.bodyB, List.cons_append, List.nil_append, List.append_assoc, Codec.oct_cons, Codec.word4_back _ _ (show f.view.toNat < 4294967296 by omega), Codec.word4_back _ _ (show f.ballot.toNat < 4294967296 by omega),
    Codec.word4_back _ _ (show f.voted.toNat < 4294967296 by omega), Codec.nums_back _ _ hr, Codec.nums_back _ _ hc, e, Int.toNat_natCast, msgsR_back _ _ hm,
    Codec.b8_toNat (show (0 : Int) ≤ f.kind by omega) (by omega), Codec.b8_toNat p3 (by omega), Codec.b8_toNat p5 (by omega), Codec.b8_toNat p7 (by omega)]
  rw [Int.toNat_of_nonneg q1, Int.toNat_of_nonneg q3, Int.toNat_of_nonneg q5]

/-- The two readers find the same frames. -/
theorem readers_agree (s : List UInt8) (h : Codec.isFrame s = true) : frameR s = (Codec.frame s).1 ∧ Codec.fits (frameR s) = true ∧ Codec.encB (frameR s) = s := by
  simp only [Codec.isFrame, Bool.and_eq_true, decide_eq_true_eq] at h
  have e : frameR s = (Codec.frame s).1 := by
    have := frameR_back (Codec.frame s).1 (Codec.word4 (Crc.sum (Codec.bodyB (Codec.frame s).1))) h.1
    rw [show Codec.bodyB (Codec.frame s).1 ++ Codec.word4 (Crc.sum (Codec.bodyB (Codec.frame s).1)) = s from h.2] at this
    exact this
  rw [e]
  exact ⟨rfl, h.1, h.2⟩
theorem readers_refuse (s : List UInt8) (h : Codec.isFrame s = false) : Codec.fits (frameR s) = false ∨ Codec.encB (frameR s) ≠ s := by
  cases hf : Codec.fits (frameR s) with
  | false => exact .inl rfl
  | true =>
    right
    intro e
    have := Codec.isFrame_enc _ hf
    rw [e, h] at this
    cases this

/-! ### By places -/
def tailR (s : List UInt8) (p : Nat) : ByteArray := ⟨(if p + 1 + (atB s p).toNat ≤ s.length then (s.drop (p + 1)).take (atB s p).toNat else []).toArray⟩
theorem textR_at (s : List UInt8) (p : Nat) (hp : p + 1 ≤ s.length ∨ (atB s p).toNat = 0) : textR (s.drop p) = (tailR s p, s.drop (p + 1 + (atB s p).toNat)) := by
  rw [textR, oct_at]
  simp only [List.length_drop, List.drop_drop, tailR]
  congr 3
  by_cases h : p + 1 + (atB s p).toNat ≤ s.length
  · rw [if_pos h, if_pos (by omega)]
  · rw [if_neg h]
    by_cases h2 : (atB s p).toNat ≤ s.length - (p + 1)
    · rw [if_pos h2]
      rcases hp with hp | hp
      · omega
      · rw [hp]; simp
    · rw [if_neg h2]
theorem at_past (s : List UInt8) (p : Nat) : p + 1 ≤ s.length ∨ (atB s p).toNat = 0 := by
  rcases Nat.lt_or_ge p s.length with h | h
  · left; omega
  · right; rw [atB_out s p h]; rfl
theorem nums_at (s : List UInt8) (p : Nat) : Codec.nums (s.drop p) = ((Codec.octs (atB s p).toNat (s.drop (p + 1))).1, s.drop (p + 1 + (atB s p).toNat)) := by
  rw [Codec.nums, oct_at]
  simp only
  rw [octs_at]
theorem msgR_at (s : List UInt8) (p : Nat) : msgR (s.drop p) = (⟨atB s p, atB s (p + 1), (Codec.octs (atB s (p + 2)).toNat (s.drop (p + 3))).1, tailR s (p + 3 + (atB s (p + 2)).toNat)⟩, s.drop (p + 3 + (atB s (p + 2)).toNat + 1 + (atB s (p + 3 + (atB s (p + 2)).toNat)).toNat)) := by
  simp only [msgR, oct_at, nums_at, textR_at _ _ (at_past _ _)]
theorem frameR_at (s : List UInt8) : frameR s =
    ⟨atB s 0, atB s 1, atB s 2, atB s 3, (Codec.word (s.drop 4)).1, (Codec.word (s.drop 8)).1, (Codec.word (s.drop 12)).1, (Codec.octs (atB s 16).toNat (s.drop 17)).1,
      (Codec.octs (atB s (17 + (atB s 16).toNat)).toNat (s.drop (17 + (atB s 16).toNat + 1))).1,
      (msgsR (atB s (17 + (atB s 16).toNat + 1 + (atB s (17 + (atB s 16).toNat)).toNat)).toNat (s.drop (17 + (atB s 16).toNat + 1 + (atB s (17 + (atB s 16).toNat)).toNat + 1))).1⟩ := by
  have h0 : s = s.drop 0 := by simp
  have e : frameR s = frameR (s.drop 0) := by rw [← h0]
  rw [e]
  simp only [frameR, oct_at, word_at', nums_at]
end Go.Proofs.Ytoklolfaemhfnaa
