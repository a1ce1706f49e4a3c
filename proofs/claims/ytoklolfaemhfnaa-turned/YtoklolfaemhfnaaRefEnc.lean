/-
  The walk of the document's Encode: the same bytes as the plain function encB of the Codec text, or none.
-/
import Derived.Test.YtoklolfaemhfnaaMay3
import Derived.Test.YtoklolfaemhfnaaRead2
import Derived.Test.YtoklolfaemhfnaaApp2
import Derived.Deep.RegionHeld3
namespace Go.Proofs.Ytoklolfaemhfnaa
open Go.RowKit

theorem BlkAt.cells10' {w : World} {X : Nat} {T : TypeId} {a0 a1 a2 a3 a4 a5 a6 a7 a8 a9 : Value} (h : BlkAt w X T #[a0, a1, a2, a3, a4, a5, a6, a7, a8, a9]) :
    w.cell? ⟨X, 0, none⟩ = some a0 ∧ w.cell? ⟨X, 1, none⟩ = some a1 ∧ w.cell? ⟨X, 2, none⟩ = some a2 ∧ w.cell? ⟨X, 3, none⟩ = some a3 ∧ w.cell? ⟨X, 4, none⟩ = some a4 ∧ w.cell? ⟨X, 5, none⟩ = some a5 ∧ w.cell? ⟨X, 6, none⟩ = some a6 ∧ w.cell? ⟨X, 7, none⟩ = some a7 ∧ w.cell? ⟨X, 8, none⟩ = some a8 ∧ w.cell? ⟨X, 9, none⟩ = some a9 :=
  ⟨h.cell 0 _ rfl, h.cell 1 _ rfl, h.cell 2 _ rfl, h.cell 3 _ rfl, h.cell 4 _ rfl, h.cell 5 _ rfl, h.cell 6 _ rfl, h.cell 7 _ rfl, h.cell 8 _ rfl, h.cell 9 _ rfl⟩

theorem BlkAt.cells4 {w : World} {X : Nat} {T : TypeId} {a0 a1 a2 a3 : Value} (h : BlkAt w X T #[a0, a1, a2, a3]) :
    w.cell? ⟨X, 0, none⟩ = some a0 ∧ w.cell? ⟨X, 1, none⟩ = some a1 ∧ w.cell? ⟨X, 2, none⟩ = some a2 ∧ w.cell? ⟨X, 3, none⟩ = some a3 :=
  ⟨h.cell 0 _ rfl, h.cell 1 _ rfl, h.cell 2 _ rfl, h.cell 3 _ rfl⟩

/-- A block that the call keeps, and all that was there before it. -/
structure One (w wx : World) (P : Nat) (tp : TypeId) (cp : Array Value) : Prop where
  p : BlkAt wx P tp cp
  b : Below w.heap.size w wx
  z : w.heap.size + 1 ≤ wx.heap.size
theorem One.drew {w wx : World} {P : Nat} {tp : TypeId} {cp : Array Value} (h : One w wx P tp cp) : One w wx.drew P tp cp := ⟨h.p, h.b.drew, h.z⟩
theorem One.alloc {w wx : World} {P : Nat} {tp : TypeId} {cp : Array Value} (h : One w wx P tp cp) (o : Obj) : One w (wx.alloc o) P tp cp :=
  ⟨h.p.alloc o, h.b.alloc (by have := h.z; omega) o, by have := h.z; simp; omega⟩
theorem One.later {w wx w' : World} {P : Nat} {tp : TypeId} {cp : Array Value} (h : One w wx P tp cp) (hb : Below wx.heap.size wx w') : One w w' P tp cp :=
  ⟨h.p.below hb h.p.lt, h.b.trans (hb.mono (by have := h.z; omega)), by have := h.z; have := hb.size; omega⟩
theorem One.undrew {w wx w' : World} {P : Nat} {tp : TypeId} {cp : Array Value} (h : One w wx.drew P tp cp) (hb : Below wx.drew.heap.size wx.drew w') : One w w' P tp cp := h.later hb

set_option maxHeartbeats 2000000 in
theorem refEnc_start (k a b m : Int) (v u t : Nat) (row cut : List Int) (ms : List Codec.Msg) (ro co mo : Option Addr) (rn rc cn cc mc B : Nat) (w : World)
    (HR : Hid (∀ w', Below w.heap.size w w' → NumsAt w' B (.slice ro rn rc) row)) (HC : Hid (∀ w', Below w.heap.size w w' → NumsAt w' B (.slice co cn cc) cut))
    (HM : Hid (∀ w', Below w.heap.size w w' → MsgsAt w' B (.slice mo ms.length mc) ms)) (hmf : ms.all Codec.msgFits = true)
    (hB : B ≤ w.heap.size) (k0 : 0 ≤ k) (k1 : k ≤ 7) (a0 : 0 ≤ a) (a1 : a ≤ 5) (b0 : 0 ≤ b) (b1 : b ≤ 5) (m0 : 0 ≤ m) (m1 : m ≤ 63) (hv : v ≤ 2147483647) (hu : u ≤ 2147483647) (ht : t ≤ 2147483647)
    (hrf : Codec.listFits row = true) (hcf : Codec.listFits cut = true) (hml : ms.length ≤ 200)
    (HMay : Hid (∀ o, Calls Try.prog 19 #[.agg #[.int .i64 k, .int .i64 a, .int .i64 b, .int .i64 m, .int .i64 v, .int .i64 u, .int .i64 t, .slice ro rn rc, .slice co cn cc, .slice mo ms.length mc]] (w.alloc o) fun e w' => e = .returned (.bool true) ∧ Below (w.alloc o).heap.size (w.alloc o) w')) :
    Calls Try.prog 8 #[.agg #[.int .i64 k, .int .i64 a, .int .i64 b, .int .i64 m, .int .i64 v, .int .i64 u, .int .i64 t, .slice ro rn rc, .slice co cn cc, .slice mo ms.length mc]] w fun e w' => e = .returned (.tuple #[.string ⟨(Codec.encB ⟨k, a, b, m, v, u, t, row, cut, ms⟩).toArray⟩, .int .i64 0]) ∧ Below w.heap.size w w' := by
  have HE : Hid (Codec.encB ⟨k, a, b, m, v, u, t, row, cut, ms⟩ = Codec.bodyB ⟨k, a, b, m, v, u, t, row, cut, ms⟩ ++ Codec.word4 (Crc.sum (Codec.bodyB ⟨k, a, b, m, v, u, t, row, cut, ms⟩))) := rfl
  have HBd : Hid (_ = _) := bodyB_eq k a b m v u t row cut ms
  have O0 : One w (w.alloc (.cells #[.int .i64 k, .int .i64 a, .int .i64 b, .int .i64 m, .int .i64 v, .int .i64 u, .int .i64 t, .slice ro rn rc, .slice co cn cc, .slice mo ms.length mc] 28)) w.heap.size 28 #[.int .i64 k, .int .i64 a, .int .i64 b, .int .i64 m, .int .i64 v, .int .i64 u, .int .i64 t, .slice ro rn rc, .slice co cn cc, .slice mo ms.length mc] :=
    ⟨BlkAt.new w w.heap.size rfl 28 _, (Below.refl _ _).alloc (Nat.le_refl _) _, by simp⟩
  have l1 := Codec.word4_length v
  have l2 := Codec.word4_length u
  have l3 := Codec.word4_length t
  go_enter Try.func8, Try.ntmps8
  go_wp2_with fail
  refine (HMay.out _).mono ?_
  rintro e w1 ⟨rfl, hb1⟩
  have O1 := O0.later hb1
  clear O0 hb1
  go_wp2
  go_region_held3 (fun w' => w'.cell? ⟨w.heap.size, 0, none⟩ = some (.int .i64 k) ∧ w'.cell? ⟨w.heap.size, 1, none⟩ = some (.int .i64 a) ∧ w'.cell? ⟨w.heap.size, 2, none⟩ = some (.int .i64 b) ∧ w'.cell? ⟨w.heap.size, 3, none⟩ = some (.int .i64 m) ∧ w'.cell? ⟨w.heap.size, 4, none⟩ = some (.int .i64 v) ∧ w'.cell? ⟨w.heap.size, 5, none⟩ = some (.int .i64 u) ∧ w'.cell? ⟨w.heap.size, 6, none⟩ = some (.int .i64 t)) (first | exact ⟨O8.p.cells10'.1, O8.p.cells10'.2.1, O8.p.cells10'.2.2.1, O8.p.cells10'.2.2.2.1, O8.p.cells10'.2.2.2.2.1, O8.p.cells10'.2.2.2.2.2.1, O8.p.cells10'.2.2.2.2.2.2.1⟩ | exact ⟨O7.p.cells10'.1, O7.p.cells10'.2.1, O7.p.cells10'.2.2.1, O7.p.cells10'.2.2.2.1, O7.p.cells10'.2.2.2.2.1, O7.p.cells10'.2.2.2.2.2.1, O7.p.cells10'.2.2.2.2.2.2.1⟩ | exact ⟨O6.p.cells10'.1, O6.p.cells10'.2.1, O6.p.cells10'.2.2.1, O6.p.cells10'.2.2.2.1, O6.p.cells10'.2.2.2.2.1, O6.p.cells10'.2.2.2.2.2.1, O6.p.cells10'.2.2.2.2.2.2.1⟩ | exact ⟨O5.p.cells10'.1, O5.p.cells10'.2.1, O5.p.cells10'.2.2.1, O5.p.cells10'.2.2.2.1, O5.p.cells10'.2.2.2.2.1, O5.p.cells10'.2.2.2.2.2.1, O5.p.cells10'.2.2.2.2.2.2.1⟩ | exact ⟨O4.p.cells10'.1, O4.p.cells10'.2.1, O4.p.cells10'.2.2.1, O4.p.cells10'.2.2.2.1, O4.p.cells10'.2.2.2.2.1, O4.p.cells10'.2.2.2.2.2.1, O4.p.cells10'.2.2.2.2.2.2.1⟩ | exact ⟨O3.p.cells10'.1, O3.p.cells10'.2.1, O3.p.cells10'.2.2.1, O3.p.cells10'.2.2.2.1, O3.p.cells10'.2.2.2.2.1, O3.p.cells10'.2.2.2.2.2.1, O3.p.cells10'.2.2.2.2.2.2.1⟩ | exact ⟨O2.p.cells10'.1, O2.p.cells10'.2.1, O2.p.cells10'.2.2.1, O2.p.cells10'.2.2.2.1, O2.p.cells10'.2.2.2.2.1, O2.p.cells10'.2.2.2.2.2.1, O2.p.cells10'.2.2.2.2.2.2.1⟩ | exact ⟨O1.drew.p.cells10'.1, O1.drew.p.cells10'.2.1, O1.drew.p.cells10'.2.2.1, O1.drew.p.cells10'.2.2.2.1, O1.drew.p.cells10'.2.2.2.2.1, O1.drew.p.cells10'.2.2.2.2.2.1, O1.drew.p.cells10'.2.2.2.2.2.2.1⟩)
    (first | (go_at_call_of 20 (Value.int .i64 k); refine (byteOf_any k _ k0 (by omega)).mono ?_; rintro e w2 ⟨rfl, hb⟩; have O2 := O1.drew.later hb; clear hb) | (go_at_call_of 20 (Value.int .i64 a); refine (byteOf_any a _ a0 (by omega)).mono ?_; rintro e w3 ⟨rfl, hb⟩; have O3 := O2.later hb; clear hb) | (go_at_call_of 20 (Value.int .i64 b); refine (byteOf_any b _ b0 (by omega)).mono ?_; rintro e w4 ⟨rfl, hb⟩; have O4 := O3.later hb; clear hb) | (go_at_call_of 20 (Value.int .i64 m); refine (byteOf_any m _ m0 (by omega)).mono ?_; rintro e w5 ⟨rfl, hb⟩; have O5 := O4.later hb; clear hb) | (go_at_call_of 21 (Value.int .i64 (v : Int)); refine (high_any v _ (by omega)).mono ?_; rintro e w6 ⟨rfl, hb⟩; have O6 := O5.later hb; clear hb) | (go_at_call_of 21 (Value.int .i64 (u : Int)); refine (high_any u _ (by omega)).mono ?_; rintro e w7 ⟨rfl, hb⟩; have O7 := O6.later hb; clear hb) | (go_at_call_of 21 (Value.int .i64 (t : Int)); refine (high_any t _ (by omega)).mono ?_; rintro e w8 ⟨rfl, hb⟩; have O8 := O7.later hb; clear hb))
  clear O1 O2 O3 O4 O5 O6 O7
  have e1 : (⟨#[Codec.b8 k]⟩ ++ ⟨#[Codec.b8 a]⟩ ++ ⟨#[Codec.b8 b]⟩ ++ ⟨#[Codec.b8 m]⟩ ++ ⟨(Codec.word4 v).toArray⟩ ++ ⟨(Codec.word4 u).toArray⟩ ++ ⟨(Codec.word4 t).toArray⟩ : ByteArray) = ⟨([Codec.b8 k, Codec.b8 a, Codec.b8 b, Codec.b8 m] ++ Codec.word4 v ++ Codec.word4 u ++ Codec.word4 t).toArray⟩ := by
    apply ByteArray.ext; simp
  rw [e1]
  clear e1
  obtain ⟨L1, hL1⟩ : ∃ L, L = [Codec.b8 k, Codec.b8 a, Codec.b8 b, Codec.b8 m] ++ Codec.word4 v ++ Codec.word4 u ++ Codec.word4 t := ⟨_, rfl⟩
  have g1 : L1.length = 16 := by rw [hL1]; simp [Codec.word4_length]
  rw [← hL1]
  have HL1 : Hid (_ = _) := hL1
  clear hL1 l1 l2 l3
  have g2 : (Codec.numsB row).length ≤ 7 := numsB_length hrf
  have g3 : (Codec.numsB cut).length ≤ 7 := numsB_length hcf
  have q1 : ¬ 9223372036854775807 < 16 + (Codec.numsB row).length := by omega
  have q2 : ¬ 9223372036854775807 < 16 + (Codec.numsB row).length + (Codec.numsB cut).length := by omega
  have q3 : ¬ 9223372036854775807 < 16 + (Codec.numsB row).length + (Codec.numsB cut).length + 1 := by omega
  go_wp2_with fail
  go_region_held3 (fun w' => w'.cell? ⟨w.heap.size, 7, none⟩ = some (.slice ro rn rc) ∧ w'.cell? ⟨w.heap.size, 8, none⟩ = some (.slice co cn cc) ∧ w'.cell? ⟨w.heap.size, 9, none⟩ = some (.slice mo ms.length mc)) (first | exact ⟨O11.p.cells10'.2.2.2.2.2.2.2.1, O11.p.cells10'.2.2.2.2.2.2.2.2.1, O11.p.cells10'.2.2.2.2.2.2.2.2.2⟩ | exact ⟨O10.p.cells10'.2.2.2.2.2.2.2.1, O10.p.cells10'.2.2.2.2.2.2.2.2.1, O10.p.cells10'.2.2.2.2.2.2.2.2.2⟩ | exact ⟨O9.p.cells10'.2.2.2.2.2.2.2.1, O9.p.cells10'.2.2.2.2.2.2.2.2.1, O9.p.cells10'.2.2.2.2.2.2.2.2.2⟩ | exact ⟨O8.drew.p.cells10'.2.2.2.2.2.2.2.1, O8.drew.p.cells10'.2.2.2.2.2.2.2.2.1, O8.drew.p.cells10'.2.2.2.2.2.2.2.2.2⟩)
    (first | (go_at_call_of 22 (Value.slice ro rn rc); refine (counted_any _ row B _ ?_ ?_ hrf).mono ?_; (exact HR.out _ O8.drew.b); (exact Nat.le_trans hB (Nat.le_of_succ_le O8.drew.z)); rintro e w9 ⟨rfl, hb⟩; have O9 := O8.drew.later hb; clear hb) | (go_at_call_of 22 (Value.slice co cn cc); refine (counted_any _ cut B _ ?_ ?_ hcf).mono ?_; (exact HC.out _ O9.b); (exact Nat.le_trans hB (Nat.le_of_succ_le O9.z)); rintro e w10 ⟨rfl, hb⟩; have O10 := O9.later hb; clear hb) | (go_at_call 20; refine (byteOf_any _ _ ?_ ?_).mono ?_; (omega); (omega); rintro e w11 ⟨rfl, hb⟩; have O11 := O10.later hb; clear hb))
  clear O8 O9 O10 q1 q2 q3 g2 g3
  have e2 : (⟨L1.toArray⟩ ++ ⟨(Codec.numsB row).toArray⟩ ++ ⟨(Codec.numsB cut).toArray⟩ ++ ⟨#[Codec.b8 (ms.length : Int)]⟩ : ByteArray) = ⟨(L1 ++ Codec.numsB row ++ Codec.numsB cut ++ [UInt8.ofNat ms.length]).toArray⟩ := by
    apply ByteArray.ext; simp [Codec.b8]
  rw [e2]
  clear e2
  obtain ⟨P, hP⟩ : ∃ P, P = L1 ++ Codec.numsB row ++ Codec.numsB cut ++ [UInt8.ofNat ms.length] := ⟨_, rfl⟩
  have hpl : P.length ≤ 50 := by
    have := numsB_length hrf
    have := numsB_length hcf
    rw [hP]; simp; omega
  rw [← hP]
  have HP : Hid (_ = _) := hP
  clear hP g1
  go_wp2
  go_loopw [5, 6] (fun s i wr => ∃ (j : Nat) (L : List UInt8), j ≤ ms.length ∧ i = .int .i64 j ∧ s = .string ⟨L.toArray⟩ ∧ L.length ≤ 50 + 26 * j ∧ Hid (L = P ++ Codec.msgsB (ms.take j)) ∧ One w wr w.heap.size 28 #[.int .i64 k, .int .i64 a, .int .i64 b, .int .i64 m, .int .i64 v, .int .i64 u, .int .i64 t, .slice ro rn rc, .slice co cn cc, .slice mo ms.length mc]) (fun _ i _ => ms.length - (intOf i).toNat)
  case atStart => exact ⟨0, P, by omega, rfl, rfl, by omega, by show _ = _; simp [Codec.msgsB], O11⟩
  case round =>
    clear O11
    obtain ⟨j, L, hj, rfl, rfl, hLl, HL, O⟩ := hrel
    have c9 := O.p.cell 9 _ rfl
    by_cases hlt : j < ms.length
    · obtain ⟨x, hx⟩ : ∃ x, ms[j]? = some x := ⟨ms[j], List.getElem?_eq_getElem hlt⟩
      obtain ⟨xb, off, xo, xn, xc, hmo, hxB, d0, d1, d2, d3, htm⟩ := (HM.out _ O.b).entry.2 j x hx
      subst hmo
      have HS : Hid (_ = _) := msgsB_take ms j x hx
      have hfx : Codec.msgFits x = true := List.all_eq_true.1 hmf x (List.mem_of_getElem? hx)
      obtain ⟨s0, s1, r0, r1, htf, htx⟩ := msg_bound hfx
      have gt := numsB_length htf
      have HTm : Hid (∀ w', Below wr.heap.size wr w' → NumsAt w' B (.slice xo xn xc) x.time) := fun w' hb => htm.below (hb.mono (by have := O.z; omega))
      have u1 : ¬ 9223372036854775807 < L.length + 1 := by omega
      have u2 : ¬ 9223372036854775807 < L.length + 1 + 1 := by omega
      have u3 : ¬ 9223372036854775807 < L.length + 1 + 1 + (Codec.numsB x.time).length := by omega
      have u4 : ¬ 9223372036854775807 < L.length + 1 + 1 + (Codec.numsB x.time).length + 1 := by omega
      have u5 : ¬ 9223372036854775807 < L.length + 1 + 1 + (Codec.numsB x.time).length + 1 + x.text.size := by omega
      have OM : One wr (wr.alloc (.cells #[.int .i64 x.sender, .int .i64 x.seq, .slice xo xn xc, .string x.text] 50)) wr.heap.size 50 #[.int .i64 x.sender, .int .i64 x.seq, .slice xo xn xc, .string x.text] := ⟨BlkAt.new wr wr.heap.size rfl 50 _, (Below.refl _ _).alloc (Nat.le_refl _) _, by simp⟩
      have HOb : Hid (∀ w', Below wr.heap.size wr w' → One w w' w.heap.size 28 _) := fun w' hb => O.later hb
      clear htm hx
      go_wp2_with fail
      generalize wr.alloc (.cells #[.int .i64 x.sender, .int .i64 x.seq, .slice xo xn xc, .string x.text] 50) = wm at OM ⊢
      go_region_held3 (fun w' => w'.cell? ⟨wr.heap.size, 0, none⟩ = some (.int .i64 x.sender) ∧ w'.cell? ⟨wr.heap.size, 1, none⟩ = some (.int .i64 x.seq) ∧ w'.cell? ⟨wr.heap.size, 2, none⟩ = some (.slice xo xn xc) ∧ w'.cell? ⟨wr.heap.size, 3, none⟩ = some (.string x.text)) (first | exact M4.p.cells4 | exact M3.p.cells4 | exact M2.p.cells4 | exact M1.p.cells4 | exact OM.drew.p.cells4)
        (first | (go_at_call_of 20 (Value.int .i64 x.sender); refine (byteOf_any _ _ s0 (by omega)).mono ?_; rintro e y1 ⟨rfl, hb⟩; have M1 := OM.drew.later hb; clear hb) | (go_at_call_of 20 (Value.int .i64 x.seq); refine (byteOf_any _ _ (by omega) (by omega)).mono ?_; rintro e y2 ⟨rfl, hb⟩; have M2 := M1.later hb; clear hb) | (go_at_call 22; refine (counted_any _ x.time B _ ?_ ?_ htf).mono ?_; (exact HTm.out _ M2.b); (have := M2.z; have := O.z; omega); rintro e y3 ⟨rfl, hb⟩; have M3 := M2.later hb; clear hb) | (go_at_call 20; refine (byteOf_any _ _ ?_ ?_).mono ?_; (omega); (omega); rintro e y4 ⟨rfl, hb⟩; have M4 := M3.later hb; clear hb))
      have O5 := HOb.out _ M4.b
      have e3 : (⟨L.toArray⟩ ++ ⟨#[Codec.b8 x.sender]⟩ ++ ⟨#[Codec.b8 x.seq]⟩ ++ ⟨(Codec.numsB x.time).toArray⟩ ++ ⟨#[Codec.b8 (x.text.size : Int)]⟩ ++ x.text : ByteArray) = ⟨(L ++ Codec.msgB x).toArray⟩ := by
        apply ByteArray.ext; simp [Codec.msgB, Codec.b8]
      go_wp2_with fail
      rw [e3]
      go_wp2
      go_roundw
      case rel => exact ⟨j + 1, L ++ Codec.msgB x, by omega, by go_num, rfl, by have := msgB_length hfx; simp; omega, by show _ = _; rw [HS.out, ← List.append_assoc, ← HL.out], O5⟩
      case measure => simp [intOf]; omega
    · have HLe : Hid (L = P ++ Codec.msgsB ms) := by
        show _ = _
        have := HL.out
        rwa [List.take_of_length_le (by omega)] at this
      go_wp2_with fail
      refine (refSum_any ⟨L.toArray⟩ _ (by show L.toArray.size ≤ _; simp; omega)).mono ?_
      rintro e w12 ⟨rfl, hb⟩
      have O12 := O.later hb
      have hsl := Crc.sum_lt L
      have l4 := Codec.word4_length (Crc.sum L)
      clear hb O
      have e4 : (⟨L.toArray⟩ ++ ⟨(Codec.word4 (Crc.sum L)).toArray⟩ : ByteArray) = ⟨(L ++ Codec.word4 (Crc.sum L)).toArray⟩ := str_app _ _
      go_wp2_with fail
      refine (high_any (Crc.sum L) _ hsl).mono ?_
      rintro e w13 ⟨rfl, hb⟩
      have O13 := O12.later hb
      go_wp2
      go_ret2
      exact ⟨by rw [HE.out, HBd.out, ← HL1.out, ← HP.out, ← HLe.out]; rfl, O13.b⟩

theorem refEnc_yes (f : Codec.Frame) (rv cv mv : Value) (B : Nat) (w : World) (hr : NumsAt w B rv f.row) (hc : NumsAt w B cv f.cut) (hm : MsgsAt w B mv f.msgs) (hB : B ≤ w.heap.size) (hf : Codec.fits f = true) :
    Calls Try.prog 8 #[.agg #[.int .i64 f.kind, .int .i64 f.src, .int .i64 f.dst, .int .i64 f.members, .int .i64 f.view, .int .i64 f.ballot, .int .i64 f.voted, rv, cv, mv]] w fun e w' => e = .returned (.tuple #[.string ⟨(Codec.encB f).toArray⟩, .int .i64 0]) ∧ Below w.heap.size w w' := by
  have hx := (fits_iff f).1 hf
  obtain ⟨⟨p1, p2, p3, p4, p5, p6, p7, p8⟩, ⟨q1, q2, q3, q4, q5, q6⟩, h1, h2, h3, h4⟩ := hx
  have hl1 : f.row.length ≤ maxLen := by have := (fits_bound h1).1; unfold maxLen; omega
  have hl2 : f.cut.length ≤ maxLen := by have := (fits_bound h2).1; unfold maxLen; omega
  have htl : ∀ x ∈ f.msgs, x.time.length ≤ maxLen := fun x hx => by
    have := (fits_bound (msg_bound (List.all_eq_true.1 h4 x hx)).2.2.2.2.1).1
    unfold maxLen; omega
  have hmay : ∀ o, Calls Try.prog 19 #[.agg #[.int .i64 f.kind, .int .i64 f.src, .int .i64 f.dst, .int .i64 f.members, .int .i64 f.view, .int .i64 f.ballot, .int .i64 f.voted, rv, cv, mv]] (w.alloc o) fun e w' => e = .returned (.bool (Codec.fits f)) ∧ Below (w.alloc o).heap.size (w.alloc o) w' := fun o =>
    may_any f rv cv mv B (w.alloc o) (hr.below ((Below.refl _ _).alloc hB o)) (hc.below ((Below.refl _ _).alloc hB o)) (hm.below ((Below.refl _ _).alloc hB o)) (by simp; omega) hl1 hl2 htl
  rw [hf] at hmay
  obtain ⟨ro, rn, rc, rfl⟩ := hr.form
  obtain ⟨co, cn, cc, rfl⟩ := hc.form
  obtain ⟨mo, mn, mc, rfl⟩ := hm.form
  obtain ⟨rfl, -⟩ := hm.entry
  obtain ⟨k, a, b, m, v, u, t, row, cut, ms⟩ := f
  simp only at *
  obtain ⟨v, rfl⟩ := Int.eq_ofNat_of_zero_le q1
  obtain ⟨u, rfl⟩ := Int.eq_ofNat_of_zero_le q3
  obtain ⟨t, rfl⟩ := Int.eq_ofNat_of_zero_le q5
  exact refEnc_start k a b m v u t row cut ms ro co mo rn rc cn cc mc B w (fun w' hb => hr.below (hb.mono hB)) (fun w' hb => hc.below (hb.mono hB)) (fun w' hb => hm.below (hb.mono hB)) h4 hB (by omega) p2 p3 p4 p5 p6 p7 p8 (by omega) (by omega) (by omega) h1 h2 h3 hmay

set_option maxHeartbeats 800000 in
theorem refEnc_no (f : Codec.Frame) (rv cv mv : Value) (B : Nat) (w : World) (hr : NumsAt w B rv f.row) (hc : NumsAt w B cv f.cut) (hm : MsgsAt w B mv f.msgs) (hB : B ≤ w.heap.size)
    (hl1 : f.row.length ≤ maxLen) (hl2 : f.cut.length ≤ maxLen) (htl : ∀ x ∈ f.msgs, x.time.length ≤ maxLen) (hf : Codec.fits f = false) :
    Calls Try.prog 8 #[.agg #[.int .i64 f.kind, .int .i64 f.src, .int .i64 f.dst, .int .i64 f.members, .int .i64 f.view, .int .i64 f.ballot, .int .i64 f.voted, rv, cv, mv]] w fun e w' => e = .returned (.tuple #[.string ⟨#[]⟩, .int .i64 3]) ∧ Below w.heap.size w w' := by
  have hmay : ∀ o, Calls Try.prog 19 #[.agg #[.int .i64 f.kind, .int .i64 f.src, .int .i64 f.dst, .int .i64 f.members, .int .i64 f.view, .int .i64 f.ballot, .int .i64 f.voted, rv, cv, mv]] (w.alloc o) fun e w' => e = .returned (.bool (Codec.fits f)) ∧ Below (w.alloc o).heap.size (w.alloc o) w' := fun o =>
    may_any f rv cv mv B (w.alloc o) (hr.below ((Below.refl _ _).alloc hB o)) (hc.below ((Below.refl _ _).alloc hB o)) (hm.below ((Below.refl _ _).alloc hB o)) (by simp; omega) hl1 hl2 htl
  rw [hf] at hmay
  obtain ⟨ro, rn, rc, rfl⟩ := hr.form
  obtain ⟨co, cn, cc, rfl⟩ := hc.form
  obtain ⟨mo, mn, mc, rfl⟩ := hm.form
  have HMay : Hid (∀ o, Calls Try.prog 19 _ (w.alloc o) fun e w' => e = .returned (.bool false) ∧ Below (w.alloc o).heap.size (w.alloc o) w') := hmay
  clear hmay hr hc hm htl
  go_enter Try.func8, Try.ntmps8
  go_wp2_with fail
  refine (HMay.out _).mono ?_
  rintro e w1 ⟨rfl, hb1⟩
  go_wp2
  go_ret2
  exact ⟨rfl, ((Below.refl _ _).alloc (Nat.le_refl _) _).trans (hb1.mono (by simp))⟩
end Go.Proofs.Ytoklolfaemhfnaa
