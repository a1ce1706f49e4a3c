/-
  The walks of chorusref.bitsOf and chorusref.Sum: the long division of bits gives the same word, where the string has at most 1048576 bytes; below the blocks that were there the world is as it was.
-/
import Derived.Test.YtoklolfaemhfnaaSumA
import Derived.Deep.AppendLies
namespace Go.Proofs.Ytoklolfaemhfnaa
open Go.RowKit

theorem info3 : (Try.prog.info? 3).map (fun i => (i.zero, i.size, i.bytes)) = some (some (.int .i64 0), 1, 8) := by kernel_rfl

/-- A list of numbers as cells. -/
def ints (l : List Int) : List Value := l.map (Value.int .i64)
theorem ints_length (l : List Int) : (ints l).length = l.length := by simp [ints]
theorem ints_snoc (l : List Int) (x : Int) : ints l ++ [.int .i64 x] = ints (l ++ [x]) := by simp [ints]

set_option maxHeartbeats 800000 in
theorem bitsOf_any (s : ByteArray) (w : World) (hs : s.size ≤ 1048576) :
    Calls Try.prog 18 #[.string s] w fun e w' => ∃ v, e = .returned v ∧ w'.ownsRow w.heap.size 3 1 v (8 * s.size) (ints (Crc.bitList s.data.toList (8 * s.size))) ∧ Below w.heap.size w w' := by
  obtain ⟨i0, hi, hz0, hz1, hz2⟩ := info_parts info3
  go_enter Try.func18, Try.ntmps18
  go_wp2
  go_loopw [3, 4] (fun v i wr => ∃ k : Nat, k ≤ s.size ∧ i = .int .i64 k ∧ wr.ownsRow w.heap.size 3 1 v (8 * k) (ints (Crc.bitList s.data.toList (8 * k))) ∧ Below w.heap.size w wr) (fun _ i _ => s.size - (intOf i).toNat)
  case atStart => exact ⟨0, Nat.zero_le _, rfl, World.ownsRow_nil _ _ _ _, Below.refl _ _⟩
  case round =>
    obtain ⟨k, hk, rfl, hown, hbel⟩ := hrel
    by_cases hlt : k < s.size
    · go_wp2
      go_loopw [3, 5, 6] (fun v n j wr => ∃ t y : Nat, t ≤ 8 ∧ j = .int .i64 t ∧ n = .int .i64 y ∧ y < 256 ∧ Hid (y = s[k].toNat / 2 ^ t) ∧ wr.ownsRow w.heap.size 3 1 v (8 * k + t) (ints (Crc.bitList s.data.toList (8 * k + t))) ∧ Below w.heap.size w wr) (fun _ _ j _ => 8 - (intOf j).toNat)
      case atStart =>
        have hb := s[k].toNat_lt
        exact ⟨0, s[k].toNat, by omega, rfl, by rw [IntWalk.wrap64_in _ ⟨by omega, by omega⟩], hb, by show _ = _; simp, hown, hbel⟩
      case round =>
        obtain ⟨t, y, ht, rfl, rfl, hy, HY, hown, hbel⟩ := hrel
        have hsz := hbel.size
        by_cases hlt2 : t < 8
        · have hbit : Hid (Crc.b2i (Crc.msgBit s.data.toList (8 * k + t)) = (y : Int) % 2) := by
            show _ = _
            rw [Crc.msgBit_mod _ _ _ hlt2, byteAt s k hlt, HY.out]
          go_wp2_with (at_builtin; refine wpList_append_own _ rfl _ _ 25 rfl w.heap.size 3 i0 (.int .i64 0) 1 8 Try.underlying25 hi hz0 hz1 hz2 rfl (by decide) _ _ _ rfl (hown.alloc _) ⟨wr.heap.size, 0, none⟩ 1 1 [.int .i64 ((y : Int) % 2)] rfl rfl ?c1 ?c2 ?c3 ?c4 ?c5 ?_)
          case c1 =>
            intro j u hj
            match j, hj with
            | 0, hj => simp at hj; subst hj; simp [Addr.add]
          case c2 => intro u hu; simp at hu; subst hu; rfl
          case c3 => unfold maxLen; omega
          case c4 => omega
          case c5 => simp; omega
          · intro v' w1 hown' hgrow _
            rw [ints_snoc, ← hbit.out, ← Crc.bitList_succ] at hown'
            have hb2 := (hbel.alloc (by omega) (.cells #[.int .i64 ((y : Int) % 2)] 3)).grown hgrow (by simp; omega) (fun k hk => (hown.lt k hk).1)
            go_wp2
            go_roundw
            case rel => exact ⟨t + 1, y / 2, by omega, by go_num, by go_num, by omega, by show _ = _; rw [HY.out, Nat.div_div_eq_div_mul, ← Nat.pow_succ], hown', hb2⟩
            case measure => simp [intOf]; omega
        · go_wp2
          go_roundw
          case rel => exact ⟨k + 1, by omega, by go_num, by rw [show 8 * (k + 1) = 8 * k + t from by omega]; exact hown, hbel⟩
          case measure => simp [intOf]; omega
    · go_wp2
      go_ret
      exact ⟨_, rfl, by rw [show s.size = k from by omega]; exact hown, hbel⟩

theorem own_cell {w : World} {base g n cap : Nat} {l : List Int} (h : w.ownsRow base 3 1 (.slice (some ⟨g, 0, none⟩) n cap) n (ints l)) (hl : l.length = n) (j : Nat) (hj : j < n) :
    w.cell? ⟨g, j, none⟩ = some (.int .i64 (l.getD j 0)) := by
  rw [h.cellAt j (by omega), ints, List.getElem?_map, List.getElem?_eq_getElem (by omega), List.getD_eq_getElem?_getD, List.getElem?_eq_getElem (by omega)]
  rfl
theorem own_flip {w : World} {base g n cap : Nat} {l : List Int} (h : w.ownsRow base 3 1 (.slice (some ⟨g, 0, none⟩) n cap) n (ints l)) (j : Nat) :
    (w.setCell ⟨g, j, none⟩ (.int .i64 (1 - l.getD j 0))).ownsRow base 3 1 (.slice (some ⟨g, 0, none⟩) n cap) n (ints (Crc.flip l j)) := by
  have := (h.stored j (.int .i64 (1 - l.getD j 0))).1
  rw [ints, Crc.flip, List.map_set]
  exact this

theorem two_pow_le (t : Nat) (h : t < 32) : 2 ^ t ≤ 2147483648 := by
  have : 2 ^ t ≤ 2 ^ 31 := Nat.pow_le_pow_right (by omega) (by omega)
  omega
theorem pow_cell (w : World) (k : Nat) (hk : k < 15) : (w.alloc (.cells #[.int .i64 32, .int .i64 26, .int .i64 23, .int .i64 22, .int .i64 16, .int .i64 12, .int .i64 11, .int .i64 10, .int .i64 8, .int .i64 7, .int .i64 5, .int .i64 4, .int .i64 2, .int .i64 1, .int .i64 0] 3)).cell? ⟨w.heap.size, k, none⟩ = some (.int .i64 ((Crc.powers.getD k 0 : Nat) : Int)) := by
  match k, hk with
  | 0, _ | 1, _ | 2, _ | 3, _ | 4, _ | 5, _ | 6, _ | 7, _ | 8, _ | 9, _ | 10, _ | 11, _ | 12, _ | 13, _ | 14, _ => simp [Crc.powers]
theorem pow_le (k : Nat) : Crc.powers.getD k 0 ≤ 32 := by
  by_cases h : k < 15
  · have : ∀ k, k < 15 → Crc.powers.getD k 0 ≤ 32 := by decide
    exact this k h
  · rw [List.getD_eq_getElem?_getD, List.getElem?_eq_none (by simp [Crc.powers]; omega)]; simp
theorem entry_bit {bs : List UInt8} {t : Nat} {l : List Int} (h : Crc.Left bs t l) (k j : Nat) (hj : t ≤ j) (hl : j < l.length) :
    (Crc.flips l t k).getD j 0 = 0 ∨ (Crc.flips l t k).getD j 0 = 1 := by
  have := Crc.foldflip_bit t j (Crc.powers.take k) l _ hl (h.2 j hj hl)
  unfold Crc.flips
  rw [this]
  exact Crc.b2i_cases _

set_option maxHeartbeats 2000000 in
theorem refSum_any (s : ByteArray) (w : World) (hs : s.size ≤ 1048576) :
    Calls Try.prog 7 #[.string s] w fun e w' => e = .returned (.int .u32 (Crc.sum s.data.toList)) ∧ Below w.heap.size w w' := by
  obtain ⟨i0, hi, hz0, hz1, hz2⟩ := info_parts info3
  go_enter Try.func7, Try.ntmps7
  go_wp2_with (go_at_call 18; refine (bitsOf_any s _ hs).mono ?_; rintro e w' ⟨v, rfl, hown, hbel⟩)
  go_loopw [3, 4] (fun v i wr => ∃ t : Nat, t ≤ 32 ∧ i = .int .i64 t ∧ wr.ownsRow w.heap.size 3 1 v (8 * s.size + t) (ints (Crc.bitList s.data.toList (8 * s.size + t))) ∧ Below w.heap.size w wr) (fun _ i _ => 32 - (intOf i).toNat)
  case atStart => exact ⟨0, Nat.zero_le _, rfl, hown, hbel⟩
  case round =>
    obtain ⟨t, ht, rfl, hown, hbel⟩ := hrel
    have hsz := hbel.size
    by_cases hlt : t < 32
    · go_wp2_with (at_builtin; refine wpList_append_own _ rfl _ _ 25 rfl w.heap.size 3 i0 (.int .i64 0) 1 8 Try.underlying25 hi hz0 hz1 hz2 rfl (by decide) _ _ _ rfl (hown.alloc _) ⟨wr.heap.size, 0, none⟩ 1 1 [.int .i64 0] rfl rfl ?c1 ?c2 ?c3 ?c4 ?c5 ?_)
      case c1 =>
        intro j u hj
        match j, hj with
        | 0, hj => simp at hj; subst hj; simp [Addr.add]
      case c2 => intro u hu; simp at hu; subst hu; rfl
      case c3 => unfold maxLen; omega
      case c4 => omega
      case c5 => simp; omega
      · intro v' w1 hown' hgrow _
        rw [ints_snoc, show (0 : Int) = Crc.b2i (Crc.msgBit s.data.toList (8 * s.size + t)) from by rw [Crc.msgBit_past _ _ (by rw [sizeLen]; omega)]; rfl, ← Crc.bitList_succ] at hown'
        have hb2 := (hbel.alloc (by omega) (.cells #[.int .i64 0] 3)).grown hgrow (by simp; omega) (fun k hk => (hown.lt k hk).1)
        go_wp2
        go_roundw
        case rel => exact ⟨t + 1, by omega, by go_num, hown', hb2⟩
        case measure => simp [intOf]; omega
    · have ht2 : t = 32 := by omega
      subst ht2
      obtain ⟨g, cap, hv, hg1, hg2⟩ := hown.form (by omega)
      rw [hv] at hown ⊢
      clear hv
      have hst := Crc.turned_start s.data.toList
      rw [sizeLen] at hst
      generalize Crc.bitList s.data.toList (8 * s.size + 32) = l0 at hown hst
      go_wp2
      go_loopw [5] (fun i wr => ∃ t l, t ≤ 32 ∧ i = .int .i64 (t : Nat) ∧ Crc.turned s.data.toList t l ∧ wr.ownsRow w.heap.size 3 1 (.slice (some ⟨g, 0, none⟩) (8 * s.size + 32) cap) (8 * s.size + 32) (ints l) ∧ Below w.heap.size w wr) (fun i _ => 32 - (intOf i).toNat)
      case atStart => exact ⟨0, l0, by omega, rfl, hst, hown, hbel⟩
      case round =>
        obtain ⟨t, l, ht, rfl, htu, hown, hbel⟩ := hrel
        have hll := htu.1
        rw [sizeLen] at hll
        by_cases hlt : t < 32
        · have hc := own_cell hown hll t (by omega)
          have hf := hown.frozenAt t
          have hin := htu.2 t (by omega)
          have hbd := Crc.b2i_cases (Crc.msgBit s.data.toList t ^^ decide (t < t))
          rw [← hin] at hbd
          clear hin
          generalize hx : l.getD t 0 = x at hc hbd
          have HX : Hid (l.getD t 0 = x) := hx
          clear hx hll
          have hx0 : 0 ≤ x := by omega
          have hx1 : x ≤ 1 := by omega
          clear hbd
          go_wp2
          go_roundw
          case rel =>
            refine ⟨t + 1, Crc.flip l t, by omega, by go_num, Crc.turned_step htu, ?_, hbel.setCell hg1 _⟩
            rw [← HX.out]; exact own_flip hown t
          case measure => simp [intOf]; omega
        · have ht2 : t = 32 := by omega
          subst ht2
          have hleft := Crc.turned_left htu
          have hsz := hbel.size
          have hgP := (hown.lt g rfl).2
          go_wp2
          have hown2 := hown.alloc (.cells #[.int .i64 32, .int .i64 26, .int .i64 23, .int .i64 22, .int .i64 16, .int .i64 12, .int .i64 11, .int .i64 10, .int .i64 8, .int .i64 7, .int .i64 5, .int .i64 4, .int .i64 2, .int .i64 1, .int .i64 0] 3)
          have hbel2 := hbel.alloc (by omega) (.cells #[.int .i64 32, .int .i64 26, .int .i64 23, .int .i64 22, .int .i64 16, .int .i64 12, .int .i64 11, .int .i64 10, .int .i64 8, .int .i64 7, .int .i64 5, .int .i64 4, .int .i64 2, .int .i64 1, .int .i64 0] 3)
          have hpow : ∀ k, k < 15 → (wr.alloc (.cells #[.int .i64 32, .int .i64 26, .int .i64 23, .int .i64 22, .int .i64 16, .int .i64 12, .int .i64 11, .int .i64 10, .int .i64 8, .int .i64 7, .int .i64 5, .int .i64 4, .int .i64 2, .int .i64 1, .int .i64 0] 3)).cell? ⟨wr.heap.size, k, none⟩ = some (.int .i64 ((Crc.powers.getD k 0 : Nat) : Int)) := fun k hk => pow_cell wr k hk
          generalize wr.alloc (.cells #[.int .i64 32, .int .i64 26, .int .i64 23, .int .i64 22, .int .i64 16, .int .i64 12, .int .i64 11, .int .i64 10, .int .i64 8, .int .i64 7, .int .i64 5, .int .i64 4, .int .i64 2, .int .i64 1, .int .i64 0] 3) = wa at hown2 hbel2 hpow ⊢
          generalize wr.heap.size = P at hpow hgP hsz ⊢
          clear hown hbel
          go_loopw [7] (fun i wr => ∃ t l, t ≤ 8 * s.size ∧ i = .int .i64 (t : Nat) ∧ Crc.Left s.data.toList t l ∧ wr.ownsRow w.heap.size 3 1 (.slice (some ⟨g, 0, none⟩) (8 * s.size + 32) cap) (8 * s.size + 32) (ints l) ∧ Hid (∀ k, k < 15 → wr.cell? ⟨P, k, none⟩ = some (.int .i64 ((Crc.powers.getD k 0 : Nat) : Int))) ∧ Below w.heap.size w wr) (fun i _ => 8 * s.size - (intOf i).toNat)
          case atStart => exact ⟨0, l, by omega, rfl, hleft, hown2, hpow, hbel2⟩
          case round =>
            obtain ⟨t, l, ht, rfl, hle, hown, hpow, hbel⟩ := hrel
            have hll := hle.1
            rw [sizeLen] at hll
            by_cases hlt : t < 8 * s.size
            · have hc := own_cell hown hll t (by omega)
              have hin := Crc.left_head hle (by omega)
              rw [hin] at hc
              clear hin
              have HLL : Hid (l.length = 8 * s.size + 32) := hll
              clear hll
              cases hbit : (Crc.msgBit s.data.toList t ^^ (Crc.reg s.data.toList t).testBit 0) with
              | false =>
                have hle2 := Crc.left_skip hle hbit
                rw [hbit] at hc
                have hc' : wr.cell? ⟨g, t, none⟩ = some (.int .i64 0) := hc
                clear hc hbit
                go_wp2
                go_roundw
                case rel => exact ⟨t + 1, l, by omega, by go_num, hle2, hown, hpow, hbel⟩
                case measure => simp [intOf]; omega
              | true =>
                have hle2 := Crc.left_step hle hbit
                rw [hbit] at hc
                have hc' : wr.cell? ⟨g, t, none⟩ = some (.int .i64 1) := hc
                clear hc hbit
                go_wp2
                go_loopw [8] (fun i wr => ∃ k, k ≤ 15 ∧ i = .int .i64 (k : Nat) ∧ wr.ownsRow w.heap.size 3 1 (.slice (some ⟨g, 0, none⟩) (8 * s.size + 32) cap) (8 * s.size + 32) (ints (Crc.flips l t k)) ∧ Hid (∀ k, k < 15 → wr.cell? ⟨P, k, none⟩ = some (.int .i64 ((Crc.powers.getD k 0 : Nat) : Int))) ∧ Below w.heap.size w wr) (fun i _ => 15 - (intOf i).toNat)
                case atStart => exact ⟨0, by omega, rfl, hown, hpow, hbel⟩
                case round =>
                  obtain ⟨k, hk, rfl, hown, hpow, hbel⟩ := hrel
                  by_cases hlt2 : k < 15
                  · have hpk := hpow.out k hlt2
                    have hp32 := pow_le k
                    have HF : Hid (Crc.flips l t (k + 1) = Crc.flip (Crc.flips l t k) (t + 32 - Crc.powers.getD k 0)) := Crc.flips_succ l t k hlt2
                    generalize Crc.powers.getD k 0 = p at hpk hp32 HF
                    have hc := own_cell hown (by rw [Crc.flips_length]; exact HLL.out) (t + 32 - p) (by omega)
                    have hf := hown.frozenAt (t + 32 - p)
                    have hbd := entry_bit hle k (t + 32 - p) (by omega) (by rw [HLL.out]; omega)
                    generalize hx : (Crc.flips l t k).getD (t + 32 - p) 0 = x at hc hbd
                    have HX : Hid ((Crc.flips l t k).getD (t + 32 - p) 0 = x) := hx
                    clear hx
                    have hx0 : 0 ≤ x := by omega
                    have hx1 : x ≤ 1 := by omega
                    clear hbd
                    go_wp2
                    go_roundw
                    case rel =>
                      refine ⟨k + 1, by omega, by go_num, ?_, ?_, hbel.setCell hg1 _⟩
                      · rw [HF.out, ← HX.out]; exact own_flip hown _
                      · intro j hj
                        rw [World.cell?_setCell_other _ _ _ _ (fun e => by injection e; omega)]
                        exact hpow.out j hj
                    case measure => simp [intOf]; omega
                  · have hk2 : k = 15 := by omega
                    subst hk2
                    go_wp2
                    go_roundw
                    case rel => exact ⟨t + 1, _, by omega, by go_num, hle2, hown, hpow, hbel⟩
                    case measure => simp [intOf]; omega
            · have ht2 : t = 8 * s.size := by omega
              subst ht2
              have hend : ∀ j, j < 32 → wr.cell? ⟨g, 8 * s.size + j, none⟩ = some (.int .i64 (Crc.b2i (!(Crc.sum s.data.toList).testBit j))) := by
                intro j hj
                rw [own_cell hown hll (8 * s.size + j) (by omega)]
                have := Crc.left_end (by rw [sizeLen]; exact hle) j hj
                rw [sizeLen] at this
                rw [this]
              have HEND : Hid (∀ j, j < 32 → wr.cell? ⟨g, 8 * s.size + j, none⟩ = some (.int .i64 (Crc.b2i (!(Crc.sum s.data.toList).testBit j)))) := hend
              clear hend
              have HSUM : Hid (Crc.sum s.data.toList % 2 ^ 32 = Crc.sum s.data.toList) := Crc.sum_mod _
              have HLT : Hid (Crc.sum s.data.toList < 4294967296) := Crc.sum_lt _
              obtain ⟨S, hS⟩ : ∃ S, S = Crc.sum s.data.toList := ⟨_, rfl⟩
              rw [← hS] at HEND HSUM HLT
              have HS : Hid (S = Crc.sum s.data.toList) := hS
              clear hS
              clear hown hle hpow hll
              go_wp2
              go_loop [10, 11, 12] (fun a b i => ∃ t q y : Nat, t ≤ 32 ∧ i = .int .i64 (8 * (s.size : Int) + t) ∧ a = .int .i64 y ∧ Hid (y = S % 2 ^ t) ∧ y < 4294967296 ∧ b = .int .i64 q ∧ Hid (q = 2 ^ t) ∧ q ≤ 4294967296) (fun _ _ i => 8 * s.size + 32 - (intOf i).toNat)
              case atStart => exact ⟨0, 1, 0, by omega, by go_num, rfl, by show _ = _; rw [Nat.pow_zero, Nat.mod_one], by omega, rfl, rfl, by omega⟩
              case round =>
                obtain ⟨t, q, y, ht, rfl, rfl, HY, hy, rfl, HQ, hq⟩ := hrel
                by_cases hlt : t < 32
                · have hc := HEND.out t hlt
                  have hq2 : q ≤ 2147483648 := by rw [HQ.out]; exact two_pow_le t hlt
                  have HQ2 : Hid (2 * q = 2 ^ (t + 1)) := by show _ = _; rw [Nat.pow_succ, HQ.out, Nat.mul_comm]
                  cases hb : S.testBit t with
                  | false =>
                    have HY2 : Hid (y = S % 2 ^ (t + 1)) := by show _ = _; rw [Crc.mod_step_no S t hb]; exact HY.out
                    rw [hb] at hc
                    have hc' : wr.cell? ⟨g, 8 * s.size + t, none⟩ = some (.int .i64 1) := hc
                    clear hc hb
                    go_wp2
                    go_round
                    case rel => exact ⟨t + 1, 2 * q, y, by omega, by go_num, by go_num, HY2, hy, by go_num, HQ2, by omega⟩
                    case measure => simp [intOf]; omega
                  | true =>
                    have HY2 : Hid (y + q = S % 2 ^ (t + 1)) := by show _ = _; rw [Crc.mod_step_yes S t hb, HY.out, HQ.out]
                    have hy2 : y + q < 4294967296 := by rw [HY2.out]; exact Nat.lt_of_le_of_lt (Nat.mod_le _ _) HLT.out
                    rw [hb] at hc
                    have hc' : wr.cell? ⟨g, 8 * s.size + t, none⟩ = some (.int .i64 0) := hc
                    clear hc hb
                    go_wp2
                    go_round
                    case rel => exact ⟨t + 1, 2 * q, y + q, by omega, by go_num, by go_num, HY2, hy2, by go_num, HQ2, by omega⟩
                    case measure => simp [intOf]; omega
                · have ht2 : t = 32 := by omega
                  subst ht2
                  go_wp2
                  go_ret
                  exact ⟨ret_int (by rw [← HS.out, ← HSUM.out, ← HY.out]), hbel⟩
end Go.Proofs.Ytoklolfaemhfnaa
