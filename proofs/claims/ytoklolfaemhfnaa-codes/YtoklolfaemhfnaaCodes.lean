/-
  The walk of the law Codes: true at every frame and every string.
-/
import Derived.Test.YtoklolfaemhfnaaDcs
namespace Go.Proofs.Ytoklolfaemhfnaa
open Go.RowKit

/-- The bytes that Encode answers, and its error. -/
def encO (f : Codec.Frame) : List UInt8 := if Codec.fits f then Codec.encB f else []
def encE (f : Codec.Frame) : Int := if Codec.fits f then 0 else 3
theorem encO_length (f : Codec.Frame) : (encO f).length ≤ 6000 := by
  unfold encO
  cases h : Codec.fits f with
  | false => simp
  | true =>
    have := encB_length h
    simp [Codec.encB, Codec.word4_length]
    omega

theorem encode_any (f : Codec.Frame) (rv cv mv : Value) (B : Nat) (w : World) (hr : NumsAt w B rv f.row) (hc : NumsAt w B cv f.cut) (hm : MsgsAt w B mv f.msgs) (hB : B ≤ w.heap.size) :
    Calls Try.prog 10 #[.agg #[.int .i64 f.kind, .int .i64 f.src, .int .i64 f.dst, .int .i64 f.members, .int .i64 f.view, .int .i64 f.ballot, .int .i64 f.voted, rv, cv, mv]] w
      fun e w' => e = .returned (.tuple #[.string ⟨(encO f).toArray⟩, .int .i64 (encE f)]) ∧ Below w.heap.size w w' := by
  unfold encO encE
  cases h : Codec.fits f with
  | false => exact encode_no f rv cv mv B w hr hc hm hB h
  | true => exact encode_yes f rv cv mv B w hr hc hm hB h

theorem refEnc_any (f : Codec.Frame) (rv cv mv : Value) (B : Nat) (w : World) (hr : NumsAt w B rv f.row) (hc : NumsAt w B cv f.cut) (hm : MsgsAt w B mv f.msgs) (hB : B ≤ w.heap.size)
    (hl1 : f.row.length ≤ maxLen) (hl2 : f.cut.length ≤ maxLen) (htl : ∀ x ∈ f.msgs, x.time.length ≤ maxLen) :
    Calls Try.prog 8 #[.agg #[.int .i64 f.kind, .int .i64 f.src, .int .i64 f.dst, .int .i64 f.members, .int .i64 f.view, .int .i64 f.ballot, .int .i64 f.voted, rv, cv, mv]] w
      fun e w' => e = .returned (.tuple #[.string ⟨(encO f).toArray⟩, .int .i64 (encE f)]) ∧ Below w.heap.size w w' := by
  unfold encO encE
  cases h : Codec.fits f with
  | false => exact refEnc_no f rv cv mv B w hr hc hm hB hl1 hl2 htl h
  | true => exact refEnc_yes f rv cv mv B w hr hc hm hB h

theorem BlkAt.cells14 {w : World} {X : Nat} {T : TypeId} {a0 a1 a2 a3 a4 a5 a6 a7 a8 a9 a10 a11 a12 a13 : Value} (h : BlkAt w X T #[a0, a1, a2, a3, a4, a5, a6, a7, a8, a9, a10, a11, a12, a13]) :
    w.cell? ⟨X, 0, none⟩ = some a0 ∧ w.cell? ⟨X, 1, none⟩ = some a1 ∧ w.cell? ⟨X, 2, none⟩ = some a2 ∧ w.cell? ⟨X, 3, none⟩ = some a3 ∧ w.cell? ⟨X, 4, none⟩ = some a4 ∧ w.cell? ⟨X, 5, none⟩ = some a5 ∧ w.cell? ⟨X, 6, none⟩ = some a6 ∧ w.cell? ⟨X, 7, none⟩ = some a7 ∧ w.cell? ⟨X, 8, none⟩ = some a8 ∧ w.cell? ⟨X, 9, none⟩ = some a9 ∧ w.cell? ⟨X, 10, none⟩ = some a10 ∧ w.cell? ⟨X, 11, none⟩ = some a11 ∧ w.cell? ⟨X, 12, none⟩ = some a12 ∧ w.cell? ⟨X, 13, none⟩ = some a13 :=
  ⟨h.cell 0 _ rfl, h.cell 1 _ rfl, h.cell 2 _ rfl, h.cell 3 _ rfl, h.cell 4 _ rfl, h.cell 5 _ rfl, h.cell 6 _ rfl, h.cell 7 _ rfl, h.cell 8 _ rfl, h.cell 9 _ rfl, h.cell 10 _ rfl, h.cell 11 _ rfl, h.cell 12 _ rfl, h.cell 13 _ rfl⟩

set_option maxHeartbeats 1000000 in
theorem codes_yes (f : Codec.Frame) (rv cv mv : Value) (B : Nat) (w : World) (hr : NumsAt w B rv f.row) (hc : NumsAt w B cv f.cut) (hm : MsgsAt w B mv f.msgs) (hB : B ≤ w.heap.size)
    (hl1 : f.row.length ≤ 17592186043904) (hl2 : f.cut.length ≤ 17592186043904) (hl3 : f.msgs.length ≤ 2513169434844) (htl : ∀ x ∈ f.msgs, x.time.length ≤ 17592186043904) (s : List UInt8) (hs : s.length ≤ 140737488351232) :
    Calls Try.prog 4 #[.agg #[.int .i64 f.kind, .int .i64 f.src, .int .i64 f.dst, .int .i64 f.members, .int .i64 f.view, .int .i64 f.ballot, .int .i64 f.voted, rv, cv, mv], .string ⟨s.toArray⟩] w
      fun e w' => e = .returned (.bool true) ∧ Below w.heap.size w w' := by
  obtain ⟨ro, rn, rc, rfl⟩ := hr.form
  obtain ⟨co, cn, cc, rfl⟩ := hc.form
  obtain ⟨mo, mn, mc, rfl⟩ := hm.form
  have HR : Hid (∀ w', Below w.heap.size w w' → NumsAt w' B (.slice ro rn rc) f.row ∧ NumsAt w' B (.slice co cn cc) f.cut ∧ MsgsAt w' B (.slice mo mn mc) f.msgs) := fun w' hb => ⟨hr.below (hb.mono hB), hc.below (hb.mono hB), hm.below (hb.mono hB)⟩
  have hbl := encO_length f
  obtain ⟨b, hb⟩ : ∃ b, b = encO f := ⟨_, rfl⟩
  obtain ⟨er, her⟩ : ∃ er, er = encE f := ⟨_, rfl⟩
  rw [← hb] at hbl
  have HE : Hid (∀ w', Below w.heap.size w w' → Calls Try.prog 8 #[.agg #[.int .i64 f.kind, .int .i64 f.src, .int .i64 f.dst, .int .i64 f.members, .int .i64 f.view, .int .i64 f.ballot, .int .i64 f.voted, .slice ro rn rc, .slice co cn cc, .slice mo mn mc]] w'
      fun e w'' => e = .returned (.tuple #[.string ⟨b.toArray⟩, .int .i64 er]) ∧ Below w'.heap.size w' w'') := fun w' hw => by
    rw [hb, her]
    exact refEnc_any f _ _ _ B w' (HR.out w' hw).1 (HR.out w' hw).2.1 (HR.out w' hw).2.2 (Nat.le_trans hB hw.size) (by unfold maxLen; omega) (by unfold maxLen; omega) (fun x hx => by have := htl x hx; unfold maxLen; omega)
  have HL : Hid (∀ w', Below w.heap.size w w' → Calls Try.prog 9 #[.agg #[.int .i64 f.kind, .int .i64 f.src, .int .i64 f.dst, .int .i64 f.members, .int .i64 f.view, .int .i64 f.ballot, .int .i64 f.voted, .slice ro rn rc, .slice co cn cc, .slice mo mn mc]] w'
      fun e w'' => ∃ gr gc g7 p7 tv gs, e = .returned (.agg #[.int .i64 f.kind, .int .i64 f.src, .int .i64 f.dst, .int .i64 f.members, .int .i64 f.view, .int .i64 f.ballot, .int .i64 f.voted, .slice (some ⟨gr, 0, none⟩) f.row.length (f.row.length + 2), .slice (some ⟨gc, 0, none⟩) f.cut.length (f.cut.length + 2), .slice (some ⟨g7, 0, none⟩) f.msgs.length p7,
          .slice (some ⟨gr, 0, none⟩) (f.row.length + 2) (f.row.length + 2), .slice (some ⟨gc, 0, none⟩) (f.cut.length + 2) (f.cut.length + 2), tv, .slice (some ⟨g7, 0, none⟩) (f.msgs.length + 1) p7]) ∧ Lent w'' w'.heap.size f gr gc g7 p7 tv gs ∧ Below w'.heap.size w' w'') := fun w' hw =>
    lend_any f _ _ _ B w' (HR.out w' hw).1 (HR.out w' hw).2.1 (HR.out w' hw).2.2 (Nat.le_trans hB hw.size) hl1 hl2 hl3 htl
  have HU : Hid (∀ w' base gr gc g7 p7 tv gs, Below w.heap.size w w' → Lent w' base f gr gc g7 p7 tv gs → Calls Try.prog 11 #[.agg #[.int .i64 f.kind, .int .i64 f.src, .int .i64 f.dst, .int .i64 f.members, .int .i64 f.view, .int .i64 f.ballot, .int .i64 f.voted, .slice (some ⟨gr, 0, none⟩) f.row.length (f.row.length + 2), .slice (some ⟨gc, 0, none⟩) f.cut.length (f.cut.length + 2), .slice (some ⟨g7, 0, none⟩) f.msgs.length p7,
          .slice (some ⟨gr, 0, none⟩) (f.row.length + 2) (f.row.length + 2), .slice (some ⟨gc, 0, none⟩) (f.cut.length + 2) (f.cut.length + 2), tv, .slice (some ⟨g7, 0, none⟩) (f.msgs.length + 1) p7],
        .agg #[.int .i64 f.kind, .int .i64 f.src, .int .i64 f.dst, .int .i64 f.members, .int .i64 f.view, .int .i64 f.ballot, .int .i64 f.voted, .slice ro rn rc, .slice co cn cc, .slice mo mn mc]] w'
      fun e w'' => e = .returned (.bool true) ∧ Below w'.heap.size w' w'') := fun w' base gr gc g7 p7 tv gs hw hl =>
    unspoilt_yes f _ _ _ B w' (HR.out w' hw).1 (HR.out w' hw).2.1 (HR.out w' hw).2.2 (Nat.le_trans hB hw.size) hl1 hl2 hl3 htl base gr gc g7 p7 tv gs hl
  have HEw : Hid (∀ w' rv cv mv, NumsAt w' w'.heap.size rv f.row → NumsAt w' w'.heap.size cv f.cut → MsgsAt w' w'.heap.size mv f.msgs → Calls Try.prog 10 #[.agg #[.int .i64 f.kind, .int .i64 f.src, .int .i64 f.dst, .int .i64 f.members, .int .i64 f.view, .int .i64 f.ballot, .int .i64 f.voted, rv, cv, mv]] w'
      fun e w'' => e = .returned (.tuple #[.string ⟨b.toArray⟩, .int .i64 er]) ∧ Below w'.heap.size w' w'') := fun w' rv cv mv h1 h2 h3 => by
    rw [hb, her]
    exact encode_any f rv cv mv _ w' h1 h2 h3 (Nat.le_refl _)
  clear hr hc hm hb her HR htl hl1 hl2 hl3
  obtain ⟨f0, f1, f2, f3, f4, f5, f6, row, cut, ms⟩ := f
  simp only at *
  go_enter Try.func4, Try.ntmps4
  go_wp2_with fail
  refine (HE.out _ ((Below.refl _ _).alloc (Nat.le_refl _) _)).mono ?_
  rintro e w1 ⟨rfl, hb1⟩
  have HX1 : BlkAt w1 w.heap.size 28 #[.int .i64 f0, .int .i64 f1, .int .i64 f2, .int .i64 f3, .int .i64 f4, .int .i64 f5, .int .i64 f6, .slice ro rn rc, .slice co cn cc, .slice mo mn mc] := (BlkAt.new _ _ rfl 28 _).below hb1 (by simp)
  have HXh : Hid (BlkAt w1 w.heap.size 28 #[.int .i64 f0, .int .i64 f1, .int .i64 f2, .int .i64 f3, .int .i64 f4, .int .i64 f5, .int .i64 f6, .slice ro rn rc, .slice co cn cc, .slice mo mn mc]) := HX1
  have HB1 : Hid (Below w.heap.size w w1) := ((Below.refl _ _).alloc (Nat.le_refl _) _).trans (hb1.mono (by simp))
  have hz1 : w.heap.size + 1 ≤ w1.heap.size := by have := hb1.size; simpa using this
  clear hb1
  obtain ⟨p0, p1, p2, p3, p4, p5, p6, p7, p8, p9⟩ := HX1.cells10'
  clear HX1
  go_wp2_with fail
  refine (HL.out _ HB1.out).mono ?_
  rintro e w2 ⟨gr, gc, g7, c7, tv, gs, rfl, hle, hb2⟩
  obtain ⟨tao, tc, htv⟩ := own_form hle.times
  simp only at htv
  subst htv
  have HLe : Hid (∀ w', Below w2.heap.size w2 w' → Lent w' w1.heap.size ⟨f0, f1, f2, f3, f4, f5, f6, row, cut, ms⟩ gr gc g7 c7 (.slice tao ms.length tc) gs) := fun w' hw => hle.later hw
  have HB2 : Hid (Below w.heap.size w w2) := HB1.out.trans (hb2.mono (by omega))
  have HX2 : Hid (BlkAt w2 w.heap.size 28 #[.int .i64 f0, .int .i64 f1, .int .i64 f2, .int .i64 f3, .int .i64 f4, .int .i64 f5, .int .i64 f6, .slice ro rn rc, .slice co cn cc, .slice mo mn mc]) := HXh.out.below hb2 (by omega)
  have hz2 := hb2.size
  have HV : Hid (∀ o, Below w2.heap.size w2 (w2.alloc o)) := fun o => (Below.refl _ _).alloc (Nat.le_refl _) o
  clear p0 p1 p2 p3 p4 p5 p6 p7 p8 p9 hle hb2 HXh
  go_wp2_with fail
  refine (HEw.out _ _ _ _ (HLe.out _ (HV.out _)).rowAt (HLe.out _ (HV.out _)).cutAt (HLe.out _ (HV.out _)).msgsAt).mono ?_
  rintro e w3 ⟨rfl, hb3⟩
  have HB3 : Hid (Below w2.heap.size w2 w3) := (HV.out _).trans (hb3.mono (by simp))
  have hz3 : w2.heap.size + 1 ≤ w3.heap.size := by have := hb3.size; simpa using this
  have HO3 := (BlkAt.new w2 _ rfl 34 _).below hb3 (by simp)
  have HX3 := HX2.out.below HB3.out (by omega)
  obtain ⟨p0, p1, p2, p3, p4, p5, p6, p7, p8, p9⟩ := HX3.cells10'
  obtain ⟨q0, q1, q2, q3, q4, q5, q6, q7, q8, q9, q10, q11, q12, q13⟩ := HO3.cells14
  clear hb3 HO3 HX3
  go_wp2_with fail
  refine (HU.out w3 _ _ _ _ _ _ _ (HB2.out.trans (HB3.out.mono (by omega))) (HLe.out _ HB3.out)).mono ?_
  rintro e w4 ⟨rfl, hb4⟩
  have hz4 := hb4.size
  have HB4 : Hid (Below w.heap.size w w4) := (HB2.out.trans (HB3.out.mono (by omega))).trans (hb4.mono (by omega))
  clear p0 p1 p2 p3 p4 p5 p6 p7 p8 p9 q0 q1 q2 q3 q4 q5 q6 q7 q8 q9 q10 q11 q12 q13 hb4
  go_wp2_with fail
  refine (decodes_yes s _ hs).mono ?_
  rintro e w5 ⟨rfl, hb5⟩
  have hz5 := hb5.size
  have HB5 : Hid (Below w.heap.size w w5) := HB4.out.trans (hb5.mono (by omega))
  clear hb5
  go_wp2_with fail
  refine (decodes_yes b _ (by omega)).mono ?_
  rintro e w6 ⟨rfl, hb6⟩
  have HB6 : Hid (Below w.heap.size w w6) := HB5.out.trans (hb6.mono (by omega))
  clear hb6
  go_wp2
  go_ret
  exact ⟨rfl, HB6.out⟩
end Go.Proofs.Ytoklolfaemhfnaa
