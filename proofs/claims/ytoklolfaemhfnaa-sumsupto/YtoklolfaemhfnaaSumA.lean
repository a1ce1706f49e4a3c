/-
  The walks of wire.shiftOut and wire.Sum: each returns what the plain function of the Crc text reckons, at every word and every string, and leaves the world as it was.
-/
import Derived.Test.YtoklolfaemhfnaaRows
import Derived.WalkKit
import Derived.WalkSpells
import Derived.WalkLawsBesides
import Derived.Laws.BitsAllLaws
import Derived.Test.YtoklolfaemhfnaaCrc
namespace Go.Proofs.Ytoklolfaemhfnaa
open Go.RowKit

theorem ret_int {k : IntKind} {a b : Int} (h : a = b) : Ending.returned (.int k a) = .returned (.int k b) := by rw [h]

theorem and_one (x : Nat) (hx : x < 4294967296) : bits .and .u32 (x : Int) 1 = ((x % 2 : Nat) : Int) := by
  have := u32_and_nat x 1 hx (by omega)
  rw [Nat.and_one_is_mod] at this
  exact this
theorem xor_poly (x : Nat) (hx : x < 4294967296) : bits .xor .u32 ((x : Int) / 2) 3988292384 = ((x / 2 ^^^ 3988292384 : Nat) : Int) := by
  have := u32_xor_nat (x / 2) 3988292384 (by omega) (by omega)
  rw [← this]
  rfl

set_option maxHeartbeats 400000 in
theorem shiftOut_any (x : Nat) (hx : x < 4294967296) (w : World) :
    Calls Try.prog 17 #[.int .u32 x] w fun e w' => e = .returned (.int .u32 (Crc.sh x)) ∧ w' = w := by
  have h1 := and_one x hx
  have h2 := xor_poly x hx
  by_cases hp : x % 2 = 1
  · have h3 : Crc.sh x = x / 2 ^^^ 3988292384 := by simp [Crc.sh, hp]
    have H3 : Hid (Crc.sh x = x / 2 ^^^ 3988292384) := h3
    have H2 : Hid (bits .xor .u32 ((x : Int) / 2) 3988292384 = ((x / 2 ^^^ 3988292384 : Nat) : Int)) := h2
    clear h2 h3
    have h4 : (bits .and .u32 (x : Int) 1 == 1) = true := by rw [h1]; simp; omega
    clear h1
    go_enter Try.func17, Try.ntmps17
    go_wp2
    go_ret
    exact ⟨ret_int (by rw [H2.out, H3.out]), rfl⟩
  · have H3 : Hid (Crc.sh x = x / 2) := by show Crc.sh x = x / 2; simp [Crc.sh, hp]
    have h4 : (bits .and .u32 (x : Int) 1 == 1) = false := by rw [h1]; simp; omega
    clear h1 h2
    go_enter Try.func17, Try.ntmps17
    go_wp2
    go_ret
    exact ⟨ret_int (by rw [H3.out]; simp), rfl⟩

theorem xor_byte (c : Nat) (hc : c < 4294967296) (b : UInt8) : bits .xor .u32 (c : Int) ((b.toNat : Int) % 4294967296) = ((c ^^^ b.toNat : Nat) : Int) := by
  have hb := b.toNat_lt
  have := u32_xor_nat c b.toNat hc (by omega)
  rw [← this, show (b.toNat : Int) % 4294967296 = b.toNat from by omega]
theorem xor_all (c : Nat) (hc : c < 4294967296) : bits .xor .u32 IntKind.u32.max (c : Int) = ((c ^^^ 4294967295 : Nat) : Int) := by
  have := u32_xor_nat 4294967295 c (by omega) hc
  rw [Nat.xor_comm, ← this]
  rfl
theorem byteAt (s : ByteArray) (k : Nat) (h : k < s.size) : s.data.toList.getD k 0 = s[k] := by
  rw [List.getD_eq_getElem?_getD, List.getElem?_eq_getElem (by simpa using h)]; rfl
theorem sizeLen (s : ByteArray) : s.data.toList.length = s.size := by rw [Array.length_toList]; rfl

set_option maxHeartbeats 800000 in
theorem wireSum_any (s : ByteArray) (w : World) (hs : s.size ≤ maxLen) :
    Calls Try.prog 6 #[.string s] w fun e w' => e = .returned (.int .u32 (Crc.sum s.data.toList)) ∧ w' = w := by
  unfold maxLen at hs
  go_enter Try.func6, Try.ntmps6
  go_wp2
  go_loop [3, 7] (fun v i => ∃ k c : Nat, k ≤ s.size ∧ i = .int .i64 k ∧ v = .int .u32 c ∧ c < 4294967296 ∧ Hid (c = Crc.crc (s.data.toList.take k))) (fun _ i => s.size - (intOf i).toNat)
  case atStart => exact ⟨0, 4294967295, Nat.zero_le _, rfl, rfl, by omega, rfl⟩
  case round =>
    obtain ⟨k, c, hk, rfl, rfl, hc, HC⟩ := hrel
    by_cases hlt : k < s.size
    · have hx := xor_byte c hc s[k]
      have hb : c ^^^ s[k].toNat < 4294967296 := Nat.xor_lt_two_pow (n := 32) (by omega) (by have := s[k].toNat_lt; omega)
      have HB : Hid (c ^^^ s[k].toNat = Crc.crc (s.data.toList.take k) ^^^ (s.data.toList.getD k 0).toNat) := by
        show _ = _; rw [HC.out, byteAt s k hlt]
      go_wp2
      clear hx
      generalize c ^^^ s[k].toNat = x at hb HB ⊢
      go_loop [3, 16] (fun v j => ∃ t y : Nat, t ≤ 8 ∧ j = .int .i64 t ∧ v = .int .u32 y ∧ y < 4294967296 ∧ Hid (y = Crc.shs t x)) (fun _ j => 8 - (intOf j).toNat)
      case atStart => exact ⟨0, x, by omega, rfl, rfl, hb, rfl⟩
      case round =>
        obtain ⟨t, y, ht, rfl, rfl, hy, HY⟩ := hrel
        by_cases hlt2 : t < 8
        · go_wp2_with (go_at_call 17; refine (shiftOut_any y hy _).mono ?_; rintro e w' ⟨rfl, rfl⟩)
          go_round
          case rel => exact ⟨t + 1, Crc.sh y, by omega, by go_num, rfl, Crc.sh_lt y hy, by rw [HY.out]; exact rfl⟩
          case measure => simp [intOf]; omega
        · go_wp2
          go_round
          case rel => exact ⟨k + 1, y, by omega, by go_num, rfl, hy, by
            show _ = _
            rw [HY.out, HB.out, show t = 8 from by omega, Crc.crc_step _ k (by rw [sizeLen]; exact hlt)]⟩
          case measure => simp [intOf]; omega
    · go_wp2
      go_ret
      exact ⟨ret_int (by rw [xor_all c hc, HC.out, List.take_of_length_le (by rw [sizeLen]; omega)]; rfl), rfl⟩
end Go.Proofs.Ytoklolfaemhfnaa
