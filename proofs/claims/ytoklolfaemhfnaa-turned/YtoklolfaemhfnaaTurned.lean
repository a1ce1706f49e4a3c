/-
  The walk of the law Turned: true at every frame and every two numbers.
-/
import Derived.Test.YtoklolfaemhfnaaShape
import Derived.Test.YtoklolfaemhfnaaOpn
namespace Go.Proofs.Ytoklolfaemhfnaa
open Go.RowKit

theorem ok64_of {n : Int} (h : Fit64 n) : Ok64 n := h
theorem ok64_list {l : List Int} (h : ∀ n ∈ l, Fit64 n) : ∀ k, k < l.length → Ok64 (l.getD k 0) := fun k hk => by
  rw [List.getD_eq_getElem?_getD, List.getElem?_eq_getElem hk]
  exact h _ (List.getElem_mem hk)

theorem u8_of {n : Nat} (h : n < 2 ^ 8) : (UInt8.ofNat n).toNat = n := by
  rw [UInt8.toNat_ofNat']
  exact Nat.mod_eq_of_lt h

/-- A byte XORed with a number from 1 to 255 is another byte. -/
theorem other_byte (c : UInt8) (y : Int) (h0 : 0 ≤ y) (h1 : y < 255) : ∃ d : UInt8, d ≠ c ∧ bits .xor .u8 (c.toNat : Int) (IntKind.u8.wrap (IntKind.i64.wrap (1 + y))) = (d.toNat : Int) := by
  have e1 : IntKind.i64.wrap (1 + y) = 1 + y := by simp [IntKind.wrap, IntKind.bits, IntKind.signed]; omega
  have e2 : IntKind.u8.wrap (1 + y) = 1 + y := by simp [IntKind.wrap, IntKind.bits, IntKind.signed]; omega
  obtain ⟨n, hn⟩ : ∃ n : Nat, 1 + y = n := ⟨(1 + y).toNat, by omega⟩
  have hc := c.toNat_lt
  rw [e1, e2, hn, u8_xor_nat _ _ (by omega) (by omega)]
  have hlt : c.toNat ^^^ n < 2 ^ 8 := Nat.xor_lt_two_pow (by simpa using hc) (by omega)
  refine ⟨UInt8.ofNat (c.toNat ^^^ n), fun h => ?_, ?_⟩
  · have h2 := congrArg UInt8.toNat h
    rw [u8_of hlt] at h2
    have h3 : n = 0 := by
      have := congrArg (fun x => c.toNat ^^^ x) h2
      simpa [← Nat.xor_assoc] using this
    omega
  · rw [u8_of hlt]

/-- 'string([]byte{d})' -/
theorem conv_one (w : World) (d : UInt8) (m : Nat) : (convert 43 9 (.slice (some ⟨w.heap.size, 0, none⟩) 1 1)).run Try.prog ((w.drewN m).alloc (.cells #[.int .u8 (d.toNat : Int)] 5)) = .ok (.string ⟨#[d]⟩) ((w.drewN m).alloc (.cells #[.int .u8 (d.toNat : Int)] 5)) := by
  refine run_convert_bytes_back _ 43 9 5 ⟨w.heap.size, 0, none⟩ 1 [d] Try.underlying43 Try.underlying5 Try.underlying9 ?_
  have hb := BlkAt.new (w.drewN m) w.heap.size (by simp) 5 #[.int .u8 (d.toNat : Int)]
  intro j hj
  have hj0 : j = 0 := by simpa using hj
  subst hj0
  simpa [Addr.add] using hb.cell 0 _ rfl

/-- The bytes with one of them turned. -/
theorem parts_eq (b : List UInt8) (k : Nat) (d : UInt8) : (⟨b.toArray⟩ : ByteArray).extract 0 k ++ ⟨#[d]⟩ ++ (⟨b.toArray⟩ : ByteArray).extract (k + 1) b.length = ⟨(b.take k ++ d :: b.drop (k + 1)).toArray⟩ := by
  apply ByteArray.ext
  rw [ByteArray.data_append, ByteArray.data_append, ByteArray.data_extract, ByteArray.data_extract]
  apply Array.ext'
  have h1 : (b.toArray.extract 0 k).toList = b.take k := by simp
  have h2 : (b.toArray.extract (k + 1) b.length).toList = b.drop (k + 1) := by
    simp
    rw [List.take_of_length_le (by simp)]
  rw [Array.toList_append, Array.toList_append, h1, h2]
  simp

/-- Ten fields stored into a box. -/
theorem KB.ten {H D : Nat} {w : World} {cs : Array Value} (h : BlkAt w D 28 cs) (hD : H ≤ D) (a0 a1 a2 a3 a4 a5 a6 a7 a8 a9 : Value) :
    KB H D w ((((((((((w.setCell ⟨D, 0, none⟩ a0).setCell ⟨D, 1, none⟩ a1).setCell ⟨D, 2, none⟩ a2).setCell ⟨D, 3, none⟩ a3).setCell ⟨D, 4, none⟩ a4).setCell ⟨D, 5, none⟩ a5).setCell ⟨D, 6, none⟩ a6).setCell ⟨D, 7, none⟩ a7).setCell ⟨D, 8, none⟩ a8).setCell ⟨D, 9, none⟩ a9) :=
  ((((((((((KB.begin H h hD).set 0 a0).set 1 a1).set 2 a2).set 3 a3).set 4 a4).set 5 a5).set 6 a6).set 7 a7).set 8 a8).set 9 a9
theorem ten_blk {w : World} {D : Nat} {x0 x1 x2 x3 x4 x5 x6 x7 x8 x9 : Value} (h : BlkAt w D 28 #[x0, x1, x2, x3, x4, x5, x6, x7, x8, x9]) (a0 a1 a2 a3 a4 a5 a6 a7 a8 a9 : Value) :
    BlkAt ((((((((((w.setCell ⟨D, 0, none⟩ a0).setCell ⟨D, 1, none⟩ a1).setCell ⟨D, 2, none⟩ a2).setCell ⟨D, 3, none⟩ a3).setCell ⟨D, 4, none⟩ a4).setCell ⟨D, 5, none⟩ a5).setCell ⟨D, 6, none⟩ a6).setCell ⟨D, 7, none⟩ a7).setCell ⟨D, 8, none⟩ a8).setCell ⟨D, 9, none⟩ a9) D 28 #[a0, a1, a2, a3, a4, a5, a6, a7, a8, a9] := by
  have b0 : BlkAt _ D 28 #[a0, x1, x2, x3, x4, x5, x6, x7, x8, x9] := h.set 0 a0
  have b1 : BlkAt _ D 28 #[a0, a1, x2, x3, x4, x5, x6, x7, x8, x9] := b0.set 1 a1
  have b2 : BlkAt _ D 28 #[a0, a1, a2, x3, x4, x5, x6, x7, x8, x9] := b1.set 2 a2
  have b3 : BlkAt _ D 28 #[a0, a1, a2, a3, x4, x5, x6, x7, x8, x9] := b2.set 3 a3
  have b4 : BlkAt _ D 28 #[a0, a1, a2, a3, a4, x5, x6, x7, x8, x9] := b3.set 4 a4
  have b5 : BlkAt _ D 28 #[a0, a1, a2, a3, a4, a5, x6, x7, x8, x9] := b4.set 5 a5
  have b6 : BlkAt _ D 28 #[a0, a1, a2, a3, a4, a5, a6, x7, x8, x9] := b5.set 6 a6
  have b7 : BlkAt _ D 28 #[a0, a1, a2, a3, a4, a5, a6, a7, x8, x9] := b6.set 7 a7
  have b8 : BlkAt _ D 28 #[a0, a1, a2, a3, a4, a5, a6, a7, a8, x9] := b7.set 8 a8
  have b9 : BlkAt _ D 28 #[a0, a1, a2, a3, a4, a5, a6, a7, a8, a9] := b8.set 9 a9
  exact b9

set_option maxHeartbeats 2000000 in
theorem turned_yes (f : Codec.Frame) (rv cv mv : Value) (w : World) (hr : NumsAt w w.heap.size rv f.row) (hc : NumsAt w w.heap.size cv f.cut) (hm : MsgsAt w w.heap.size mv f.msgs) (hraw : RawOk f) (pa pb : Int) (hpa : Fit64 pa) (hpb : Fit64 pb) :
    Calls Try.prog 5 #[.agg #[.int .i64 f.kind, .int .i64 f.src, .int .i64 f.dst, .int .i64 f.members, .int .i64 f.view, .int .i64 f.ballot, .int .i64 f.voted, rv, cv, mv], .int .i64 pa, .int .i64 pb] w
      fun e w' => e = .returned (.bool true) ∧ Below w.heap.size w w' := by
  obtain ⟨ro, rn, rc, rfl⟩ := hr.form
  obtain ⟨co, cn, cc, rfl⟩ := hc.form
  obtain ⟨mo, mn, mc, rfl⟩ := hm.form
  obtain ⟨k0, k1, k2, k3, k4, k5, k6, l1, l2, m1, m2, m3, m4⟩ := hraw
  have HSh : Hid (∀ o, Calls Try.prog 13 #[.agg #[.int .i64 f.kind, .int .i64 f.src, .int .i64 f.dst, .int .i64 f.members, .int .i64 f.view, .int .i64 f.ballot, .int .i64 f.voted, .slice ro rn rc, .slice co cn cc, .slice mo mn mc]] (w.alloc o)
      fun e w' => ∃ (g : Codec.Frame) (rv cv mv : Value), e = .returned (.agg #[.int .i64 g.kind, .int .i64 g.src, .int .i64 g.dst, .int .i64 g.members, .int .i64 g.view, .int .i64 g.ballot, .int .i64 g.voted, rv, cv, mv]) ∧
        Codec.fits g = true ∧ w'.ownsRow (w.alloc o).heap.size 3 1 rv g.row.length (ints g.row) ∧ w'.ownsRow (w.alloc o).heap.size 3 1 cv g.cut.length (ints g.cut) ∧ (∃ tvs, MsgsOwn w' (w.alloc o).heap.size mv g.msgs tvs) ∧ Below (w.alloc o).heap.size (w.alloc o) w') := fun o => by
    have hb : Below w.heap.size w (w.alloc o) := (Below.refl _ _).alloc (Nat.le_refl _) o
    exact shape_any f _ _ _ w.heap.size (w.alloc o) (hr.below hb) (hc.below hb) (hm.below hb) (by simp) k0 k1 k2 k3 k4 k5 k6 (by unfold maxLen; omega) (by unfold maxLen; omega) (by unfold maxLen; omega) (ok64_list l1) (ok64_list l2)
      (fun m hm => ⟨(m4 m hm).2.2.1, (m4 m hm).2.2.2.1, by have := (m4 m hm).1; unfold maxLen; omega, ok64_list (m4 m hm).2.2.2.2⟩)
  obtain ⟨f0, f1, f2, f3, f4, f5, f6, row, cut, ms⟩ := f
  simp only at *
  clear hr hc hm k0 k1 k2 k3 k4 k5 k6 l1 l2 m1 m2 m3 m4
  obtain ⟨pa0, pa1⟩ := hpa
  obtain ⟨pb0, pb1⟩ := hpb
  go_enter Try.func5, Try.ntmps5
  go_wp2_with fail
  refine (HSh.out _).mono ?_
  rintro e w1 ⟨g, rv, cv, mv, rfl, hfit, hr1, hc1, ⟨tvs, hm1⟩, hb1⟩
  obtain ⟨go, gc, hrv⟩ := own_form hr1
  obtain ⟨ho, hcc, hcv⟩ := own_form hc1
  obtain ⟨io, ic, hmv⟩ := own_form hm1.2.1
  subst hrv hcv hmv
  have HX1 : BlkAt w1 w.heap.size 28 #[.int .i64 f0, .int .i64 f1, .int .i64 f2, .int .i64 f3, .int .i64 f4, .int .i64 f5, .int .i64 f6, .slice ro rn rc, .slice co cn cc, .slice mo mn mc] := (BlkAt.new _ _ rfl 28 _).below hb1 (by simp)
  have HB1 : Hid (Below w.heap.size w w1) := ((Below.refl _ _).alloc (Nat.le_refl _) _).trans (hb1.mono (by simp))
  have hz1 : w.heap.size + 1 ≤ w1.heap.size := by have := hb1.size; simpa using this
  have HFit : Hid (Codec.fits g = true) := hfit
  obtain ⟨g0, g1, g2, g3, g4, g5, g6, grow, gcut, gms⟩ := g
  simp only at *
  have KT := KB.ten (H := w.heap.size) HX1 (Nat.le_refl _) (.int .i64 g0) (.int .i64 g1) (.int .i64 g2) (.int .i64 g3) (.int .i64 g4) (.int .i64 g5) (.int .i64 g6) (.slice go grow.length gc) (.slice ho gcut.length hcc) (.slice io gms.length ic)
  have BT := ten_blk HX1 (.int .i64 g0) (.int .i64 g1) (.int .i64 g2) (.int .i64 g3) (.int .i64 g4) (.int .i64 g5) (.int .i64 g6) (.slice go grow.length gc) (.slice ho gcut.length hcc) (.slice io gms.length ic)
  have HOwn : Hid (NumsAt _ _ (.slice go grow.length gc) grow ∧ NumsAt _ _ (.slice ho gcut.length hcc) gcut ∧ MsgsAt _ _ (.slice io gms.length ic) gms) := ⟨nums_of_own (own_keepT hr1 KT.k3), nums_of_own (own_keepT hc1 KT.k3), msgs_of_own (msgs_keepT hm1 KT.k3 KT.k50)⟩
  have HKb : Hid (Below w.heap.size w1 _) := KT.bel
  have HBox : Hid (BlkAt _ w.heap.size 28 _) := BT
  obtain ⟨wb, hwb⟩ : ∃ wb, wb = ((((((((((w1.setCell ⟨w.heap.size, 0, none⟩ (.int .i64 g0)).setCell ⟨w.heap.size, 1, none⟩ (.int .i64 g1)).setCell ⟨w.heap.size, 2, none⟩ (.int .i64 g2)).setCell ⟨w.heap.size, 3, none⟩ (.int .i64 g3)).setCell ⟨w.heap.size, 4, none⟩ (.int .i64 g4)).setCell ⟨w.heap.size, 5, none⟩ (.int .i64 g5)).setCell ⟨w.heap.size, 6, none⟩ (.int .i64 g6)).setCell ⟨w.heap.size, 7, none⟩ (.slice go grow.length gc)).setCell ⟨w.heap.size, 8, none⟩ (.slice ho gcut.length hcc)).setCell ⟨w.heap.size, 9, none⟩ (.slice io gms.length ic)) := ⟨_, rfl⟩
  obtain ⟨p0, p1, p2, p3, p4, p5, p6, p7, p8, p9⟩ := HX1.cells10'
  have r0 := HX1.frozen 0
  have r1 := HX1.frozen 1
  have r2 := HX1.frozen 2
  have r3 := HX1.frozen 3
  have r4 := HX1.frozen 4
  have r5 := HX1.frozen 5
  have r6 := HX1.frozen 6
  have r7 := HX1.frozen 7
  have r8 := HX1.frozen 8
  have r9 := HX1.frozen 9
  have HWb : Hid (_ = _) := hwb
  clear hwb KT BT HX1 hb1 hr1 hc1 hm1 hfit
  go_wp2_with fail
  have hwb := HWb.out
  rw [← hwb] at HOwn HKb HBox ⊢
  clear hwb HWb p0 p1 p2 p3 p4 p5 p6 p7 p8 p9 r0 r1 r2 r3 r4 r5 r6 r7 r8 r9
  obtain ⟨-, -, q1, q2, q3, q4⟩ := (fits_iff _).1 HFit.out
  have hq1 := (fits_bound q1).1
  have hq2 := (fits_bound q2).1
  have hq4 : ∀ x ∈ gms, x.time.length ≤ 6 := fun x hx => by
    have h := List.all_eq_true.1 q4 x hx
    unfold Codec.msgFits at h
    simp at h
    exact (fits_bound h.1.2).1
  simp only at hq1 hq2 q3
  have HQ4 : Hid (∀ x ∈ gms, x.time.length ≤ 6) := hq4
  clear q1 q2 q4 hq4
  have hzb := HKb.out.size
  refine (lend_any ⟨g0, g1, g2, g3, g4, g5, g6, grow, gcut, gms⟩ _ _ _ wb.heap.size wb HOwn.out.1 HOwn.out.2.1 HOwn.out.2.2 (Nat.le_refl _) (by show grow.length ≤ _; omega) (by show gcut.length ≤ _; omega) (by show gms.length ≤ _; omega) (fun x hx => by have := HQ4.out x hx; omega)).mono ?_
  rintro e w2 ⟨gr, gd, g7, c7, tv, gs, rfl, hle, hb2⟩
  obtain ⟨tao, tac, htv⟩ := own_form hle.times
  simp only at htv
  subst htv
  have HLe : Hid (∀ w', Below w2.heap.size w2 w' → Lent w' wb.heap.size ⟨g0, g1, g2, g3, g4, g5, g6, grow, gcut, gms⟩ gr gd g7 c7 (.slice tao gms.length tac) gs) := fun w' hw => hle.later hw
  have HB2 : Hid (Below wb.heap.size wb w2) := hb2
  have hz2 := hb2.size
  have HV : Hid (∀ o, Below w2.heap.size w2 (w2.alloc o)) := fun o => (Below.refl _ _).alloc (Nat.le_refl _) o
  clear hle hb2
  go_wp2_with fail
  refine (encode_yes ⟨g0, g1, g2, g3, g4, g5, g6, grow, gcut, gms⟩ _ _ _ _ _ (HLe.out _ (HV.out _)).rowAt (HLe.out _ (HV.out _)).cutAt (HLe.out _ (HV.out _)).msgsAt (Nat.le_refl _) HFit.out).mono ?_
  rintro e w3 ⟨rfl, hb3⟩
  have HB3 : Hid (Below w2.heap.size w2 w3) := (HV.out _).trans (hb3.mono (by simp))
  have hz3 : w2.heap.size + 1 ≤ w3.heap.size := by have := hb3.size; simpa using this
  have hlen0 : (Codec.encB ⟨g0, g1, g2, g3, g4, g5, g6, grow, gcut, gms⟩).length ≤ 6000 ∧ 4 ≤ (Codec.encB ⟨g0, g1, g2, g3, g4, g5, g6, grow, gcut, gms⟩).length := by
    have := encB_length HFit.out
    simp [Codec.encB, Codec.word4_length]
    omega
  obtain ⟨b, hb⟩ : ∃ b, b = Codec.encB ⟨g0, g1, g2, g3, g4, g5, g6, grow, gcut, gms⟩ := ⟨_, rfl⟩
  rw [← hb] at hlen0 ⊢
  obtain ⟨hlb1, hlb2⟩ := hlen0
  have HEb : Hid (b = Codec.encB ⟨g0, g1, g2, g3, g4, g5, g6, grow, gcut, gms⟩) := hb
  have hb4 : ¬ (b.length : Int) < 4 := by omega
  clear hb hb3
  go_wp2_with fail
  have hrb : Codec.frame b = (⟨g0, g1, g2, g3, g4, g5, g6, grow, gcut, gms⟩, (Codec.frame b).2) := by
    have := Codec.read_back _ HFit.out
    rw [← HEb.out] at this
    rw [← this]
  refine (decode_yes b ⟨g0, g1, g2, g3, g4, g5, g6, grow, gcut, gms⟩ _ w3 (by omega) hrb HFit.out HEb.out.symm).mono ?_
  clear hrb
  rintro e w4 ⟨rv4, cv4, mv4, tv4, rfl, hf4, hb4'⟩
  obtain ⟨ro4, rc4, hrv⟩ := own_form hf4.row
  obtain ⟨co4, cc4, hcv⟩ := own_form hf4.cut
  obtain ⟨mo4, mc4, hmv⟩ := own_form hf4.msgs.2.1
  simp only at hrv hcv hmv
  subst hrv hcv hmv
  have hz4 := hb4'.size
  have HF4 : Hid (FrameOwn w4 w3.heap.size ⟨g0, g1, g2, g3, g4, g5, g6, grow, gcut, gms⟩ _ _ _ tv4) := hf4
  have HB24 : Hid (Below wb.heap.size wb w4) := (HB2.out.trans (HB3.out.mono (by omega))).trans (hb4'.mono (by omega))
  have HBx := HBox.out.below HB24.out (by omega)
  obtain ⟨p0, p1, p2, p3, p4, p5, p6, p7, p8, p9⟩ := HBx.cells10'
  have hx1 : w.heap.size < w4.heap.size := by omega
  clear hf4 hb4' HBx
  go_wp2_with fail
  have HV4 : Hid (∀ o, Below w4.heap.size w4 (w4.alloc o)) := fun o => (Below.refl _ _).alloc (Nat.le_refl _) o
  have HVb : Hid (∀ o, Below wb.heap.size wb (w4.alloc o)) := fun o => HB24.out.trans ((HV4.out o).mono (by omega))
  refine (sameFrames_any ⟨g0, g1, g2, g3, g4, g5, g6, grow, gcut, gms⟩ _ _ _ _ _ _ wb.heap.size w4.heap.size _ (HOwn.out.1.below (HVb.out _)) (HOwn.out.2.1.below (HVb.out _)) (HOwn.out.2.2.below (HVb.out _))
    ((nums_of_own HF4.out.row).below (HV4.out _)) ((nums_of_own HF4.out.cut).below (HV4.out _)) ((msgs_of_own HF4.out.msgs).below (HV4.out _)) (by simp; omega) (by simp) (by show grow.length ≤ maxLen; unfold maxLen; omega) (by show gcut.length ≤ maxLen; unfold maxLen; omega) (by show gms.length ≤ maxLen; unfold maxLen; omega) (fun x hx => by have := HQ4.out x hx; unfold maxLen; omega)).mono ?_
  rintro e w5 ⟨rfl, hb5⟩
  have hz5 : w4.heap.size + 1 ≤ w5.heap.size := by have := hb5.size; simpa using this
  have HB5 : Hid (Below w.heap.size w w5) := ((HB1.out.trans HKb.out).trans ((HVb.out _).mono (by omega))).trans (hb5.mono (by simp; omega))
  clear hb5 p0 p1 p2 p3 p4 p5 p6 p7 p8 p9 HF4 HV4 HVb HB24 HOwn HBox HLe HV HB2 HB3
  have hpk := pk_bound pa b.length (by omega)
  obtain ⟨ya, hya⟩ : ∃ y, y = pk pa b.length := ⟨_, rfl⟩
  rw [← hya] at hpk
  have HYa : Hid (_ = _) := hya
  clear hya
  obtain ⟨ka, hka⟩ : ∃ k : Nat, ya = k := ⟨ya.toNat, by omega⟩
  subst hka
  have hka : ka < b.length := by omega
  go_wp2_with fail
  refine (pick_at pa b.length ka _ HYa.out (by omega) pa0 pa1).mono ?_
  rintro e w6 ⟨rfl, rfl⟩
  have hka0 : (0 : Int) ≤ (ka : Int) := Int.natCast_nonneg _
  have hka1 : (ka : Int) < (b.length : Int) := by omega
  have hpk2 := pk_bound pb 255 (by omega)
  obtain ⟨yb, hyb⟩ : ∃ y, y = pk pb 255 := ⟨_, rfl⟩
  rw [← hyb] at hpk2
  have HYb : Hid (_ = _) := hyb
  obtain ⟨hyb0, hyb1⟩ := hpk2
  clear hyb hpk
  obtain ⟨d, hd, hdx⟩ := other_byte b[ka] yb hyb0 hyb1
  have HD : Hid (d ≠ b[ka]) := hd
  have HDX : Hid (bits .xor .u8 (b[ka].toNat : Int) (IntKind.u8.wrap (IntKind.i64.wrap (1 + yb))) = (d.toNat : Int)) := hdx
  clear hd hdx
  go_upto_region 11 with fail
  go_cut [13] (fun s13 wx => s13 = .int .u8 (d.toNat : Int) ∧ ∃ n, wx = w6.drewN n)
  case first =>
    go_region_held3 (fun _ => True) (trivial) (first | (go_at_call 16; refine (pick_at pb 255 yb _ HYb.out (by decide) pb0 pb1).mono ?_; rintro e w' ⟨rfl, rfl⟩))
    all_goals (go_wp2_with fail; go_meet)
    all_goals exact ⟨by have := HDX.out; exact congrArg (Value.int .u8) this, 1, rfl⟩
  case rest =>
    obtain ⟨rfl, n, rfl⟩ := hcut
    have hk2 : (ka : Int) ≤ (b.length : Int) := by omega
    have hk3 : (0 : Int) ≤ (ka : Int) + 1 := by omega
    have hk4 : (ka : Int) + 1 ≤ (b.length : Int) := by omega
    have hw1 : IntKind.i64.wrap ((ka : Int) + 1) = (ka : Int) + 1 := by simp [IntKind.wrap, IntKind.bits, IntKind.signed]; omega
    have hcv := fun m => conv_one w6 d m
    have hbad : Codec.isFrame (b.take ka ++ d :: b.drop (ka + 1)) = false := Codec.spoilt ⟨g0, g1, g2, g3, g4, g5, g6, grow, gcut, gms⟩ (b.take ka) (b.drop (ka + 1)) b[ka] d (by rw [← HEb.out, ← List.drop_eq_getElem_cons hka, List.take_append_drop]) HD.out
    have hparts := parts_eq b ka d
    have HBad : Hid (∀ W : World, Calls Try.prog 14 #[.string ((⟨b.toArray⟩ : ByteArray).extract 0 ka ++ ⟨#[d]⟩ ++ (⟨b.toArray⟩ : ByteArray).extract (ka + 1) b.length)] W fun e w' => e = .returned (.tuple #[.agg #[.int .i64 0, .int .i64 0, .int .i64 0, .int .i64 0, .int .i64 0, .int .i64 0, .int .i64 0, .slice none 0 0, .slice none 0 0, .slice none 0 0], .int .i64 3]) ∧ Below W.heap.size W w') := fun W => by
      rw [hparts]
      exact decode_no _ W (by simp; omega) hbad
    have hsz : (⟨b.toArray⟩ : ByteArray).size = b.length := rfl
    have hs1 : ((⟨b.toArray⟩ : ByteArray).extract 0 ka).size = ka := by rw [ByteArray.size_extract, hsz]; omega
    have hs2 : ((⟨b.toArray⟩ : ByteArray).extract (ka + 1) b.length).size = b.length - (ka + 1) := by rw [ByteArray.size_extract, hsz]; omega
    have hs4 : (⟨#[d]⟩ : ByteArray).size = 1 := rfl
    have hs3 : ((⟨b.toArray⟩ : ByteArray).extract 0 ka ++ ⟨#[d]⟩).size = ka + 1 := by rw [ByteArray.size_append, hs1, hs4]
    have ho1 : ¬ 9223372036854775807 < ka + 1 := by omega
    have ho2 : ¬ 9223372036854775807 < ka + 1 + (b.length - (ka + 1)) := by omega
    clear hbad hparts
    go_upto_region 12 with fail
    go_cut [9] (fun s9 wx => s9 = .int .i64 3 ∧ Below w.heap.size w wx)
    case first =>
      refine Ends.begin (fun _ => True) 16 (by kernel_rfl) trivial (fun hHeld => ?_)
      refine Ends.take 0 (v := ?v0) rfl rfl (by kernel_rfl) (by kernel_rfl) (by kernel_rfl) (by kernel_rfl) (fun _ _ _ h => h) (Or.inl ⟨by rfl, ?y0⟩) (by assumption) ?r0
      case y0 => (intro w' hSw; go_simp; (try with_reducible rfl))
      try simp only [Act.put, List.setIfInBounds_toArray, List.set_cons_zero, List.set_cons_succ, List.getElem_toArray, List.getElem_cons_zero]
      refine Ends.take 1 (v := ?v1) rfl rfl (by kernel_rfl) (by kernel_rfl) (by kernel_rfl) (by kernel_rfl) (fun _ _ _ h => h) (Or.inl ⟨by rfl, ?y1⟩) (by assumption) ?r1
      case y1 => (intro w' hSw; go_simp; (try with_reducible rfl))
      try simp only [Act.put, List.setIfInBounds_toArray, List.set_cons_zero, List.set_cons_succ, List.getElem_toArray, List.getElem_cons_zero, List.getElem_cons_succ]
      refine Ends.take 2 (v := ?v2) rfl rfl (by kernel_rfl) (by kernel_rfl) (by kernel_rfl) (by kernel_rfl) (fun _ _ _ h => h) (Or.inl ⟨by rfl, ?y2⟩) (by assumption) ?r2
      case y2 => (intro w' hSw; go_simp; (try with_reducible rfl))
      try simp only [Act.put, List.setIfInBounds_toArray, List.set_cons_zero, List.set_cons_succ, List.getElem_toArray, List.getElem_cons_zero, List.getElem_cons_succ]
      refine Ends.take 3 (v := ?v3) rfl rfl (by kernel_rfl) (by kernel_rfl) (by kernel_rfl) (by kernel_rfl) (fun _ _ _ h => h) (Or.inl ⟨by rfl, ?y3⟩) (by assumption) ?r3
      case y3 => (intro w' hSw; go_simp; (try with_reducible rfl))
      try simp only [Act.put, List.setIfInBounds_toArray, List.set_cons_zero, List.set_cons_succ, List.getElem_toArray, List.getElem_cons_zero, List.getElem_cons_succ]
      refine Ends.take 7 (v := ?v7) rfl rfl (by kernel_rfl) (by kernel_rfl) (by kernel_rfl) (by kernel_rfl) (fun _ _ _ h => h) (Or.inl ⟨by rfl, ?y7⟩) (by assumption) ?r7
      case y7 => (intro w' hSw; go_simp; (try with_reducible rfl))
      try simp only [Act.put, List.setIfInBounds_toArray, List.set_cons_zero, List.set_cons_succ, List.getElem_toArray, List.getElem_cons_zero, List.getElem_cons_succ]
      refine Ends.take 8 (v := ?v8) rfl rfl (by kernel_rfl) (by kernel_rfl) (by kernel_rfl) (by kernel_rfl) (fun _ _ _ h => h) (Or.inl ⟨by rfl, ?y8⟩) (by assumption) ?r8
      case y8 => (intro w' hSw; go_simp; (try with_reducible rfl))
      try simp only [Act.put, List.setIfInBounds_toArray, List.set_cons_zero, List.set_cons_succ, List.getElem_toArray, List.getElem_cons_zero, List.getElem_cons_succ]
      refine Ends.take 9 (v := ?v9) rfl rfl (by kernel_rfl) (by kernel_rfl) (by kernel_rfl) (by kernel_rfl) (fun _ _ _ h => h) (Or.inl ⟨by rfl, ?y9⟩) (by assumption) ?r9
      case y9 => (intro w' hSw; go_simp; (try with_reducible rfl))
      try simp only [Act.put, List.setIfInBounds_toArray, List.set_cons_zero, List.set_cons_succ, List.getElem_toArray, List.getElem_cons_zero, List.getElem_cons_succ]
      refine Ends.take 10 (v := ?v10) rfl rfl (by kernel_rfl) (by kernel_rfl) (by kernel_rfl) (by kernel_rfl) (fun _ _ _ h => h) (Or.inl ⟨by rfl, ?y10⟩) (by assumption) ?r10
      case y10 => (intro w' hSw; go_simp; (try with_reducible rfl))
      try simp only [Act.put, List.setIfInBounds_toArray, List.set_cons_zero, List.set_cons_succ, List.getElem_toArray, List.getElem_cons_zero, List.getElem_cons_succ]
      refine Ends.one 4 (by kernel_rfl) rfl (fun K hK => ?s4)
      go_simp
      refine hK.out _ _ (fun _ => trivial) (fun _ => ?_)
      clear hK K
      try simp only [Act.put, List.setIfInBounds_toArray, List.set_cons_zero, List.set_cons_succ, List.getElem_toArray, List.getElem_cons_zero, List.getElem_cons_succ]
      refine Ends.one 5 (by kernel_rfl) rfl (fun K hK => ?s5)
      go_simp
      refine hK.out _ _ (fun _ => trivial) (fun _ => ?_)
      clear hK K
      try simp only [Act.put, List.setIfInBounds_toArray, List.set_cons_zero, List.set_cons_succ, List.getElem_toArray, List.getElem_cons_zero, List.getElem_cons_succ]
      refine Ends.take 6 (v := ?v6) rfl rfl (by kernel_rfl) (by kernel_rfl) (by kernel_rfl) (by kernel_rfl) (fun _ _ _ h => h) (Or.inl ⟨by rfl, ?y6⟩) (by assumption) ?r6
      case y6 => (intro w' hSw; go_simp; (try with_reducible rfl))
      try simp only [Act.put, List.setIfInBounds_toArray, List.set_cons_zero, List.set_cons_succ, List.getElem_toArray, List.getElem_cons_zero, List.getElem_cons_succ]
      refine Ends.take 11 (v := ?v11) rfl rfl (by kernel_rfl) (by kernel_rfl) (by kernel_rfl) (by kernel_rfl) (fun _ _ _ h => h) (Or.inl ⟨by rfl, ?y11⟩) (by assumption) ?r11
      case y11 => (intro w' hSw; go_simp; (try with_reducible rfl))
      try simp only [Act.put, List.setIfInBounds_toArray, List.set_cons_zero, List.set_cons_succ, List.getElem_toArray, List.getElem_cons_zero, List.getElem_cons_succ]
      refine Ends.one 12 (by kernel_rfl) rfl (fun K hK => ?s12)
      go_simp
      refine (HBad.out _).mono ?_
      rintro e w7 ⟨rfl, hb7⟩
      go_wp2_with fail
      refine hK.out _ _ (fun _ => trivial) (fun _ => ?_)
      clear hK K
      try simp only [Act.put, List.setIfInBounds_toArray, List.set_cons_zero, List.set_cons_succ, List.getElem_toArray, List.getElem_cons_zero, List.getElem_cons_succ]
      refine Ends.take 13 (v := ?v13) rfl rfl (by kernel_rfl) (by kernel_rfl) (by kernel_rfl) (by kernel_rfl) (fun _ _ _ h => h) (Or.inl ⟨by rfl, ?y13⟩) (by assumption) ?r13
      case y13 => (intro w' hSw; go_simp; (try with_reducible rfl))
      try simp only [Act.put, List.setIfInBounds_toArray, List.set_cons_zero, List.set_cons_succ, List.getElem_toArray, List.getElem_cons_zero, List.getElem_cons_succ]
      refine Ends.take 14 (v := ?v14) rfl rfl (by kernel_rfl) (by kernel_rfl) (by kernel_rfl) (by kernel_rfl) (fun _ _ _ h => h) (Or.inl ⟨by rfl, ?y14⟩) (by assumption) ?r14
      case y14 => (intro w' hSw; go_simp; (try with_reducible rfl))
      try simp only [Act.put, List.setIfInBounds_toArray, List.set_cons_zero, List.set_cons_succ, List.getElem_toArray, List.getElem_cons_zero, List.getElem_cons_succ]
      refine Ends.take 15 (v := ?v15) rfl rfl (by kernel_rfl) (by kernel_rfl) (by kernel_rfl) (by kernel_rfl) (fun _ _ _ h => h) (Or.inl ⟨by rfl, ?y15⟩) (by assumption) ?r15
      case y15 => (intro w' hSw; go_simp; (try with_reducible rfl))
      try simp only [Act.put, List.setIfInBounds_toArray, List.set_cons_zero, List.set_cons_succ, List.getElem_toArray, List.getElem_cons_zero, List.getElem_cons_succ]
      refine Ends.one 16 (by kernel_rfl) rfl (fun K hK => ?s16)
      go_simp
      refine hK.out _ _ (fun _ => trivial) (fun _ => ?_)
      clear hK K
      try simp only [Act.put, List.setIfInBounds_toArray, List.set_cons_zero, List.set_cons_succ, List.getElem_toArray, List.getElem_cons_zero, List.getElem_cons_succ]
      refine Ends.done (by kernel_rfl) ?_ _
      go_wp2_with fail
      go_meet
      have hz6 := HB5.out.size
      exact ⟨rfl, ((below_drewN HB5.out (n + 1)).alloc (by simp; omega) _).trans (hb7.mono (by simp; omega))⟩
    case rest =>
      obtain ⟨rfl, hbf⟩ := hcut
      go_wp2
      go_ret
      exact ⟨rfl, hbf⟩
end Go.Proofs.Ytoklolfaemhfnaa
