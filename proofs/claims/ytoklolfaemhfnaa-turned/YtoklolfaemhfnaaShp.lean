/-
  The walks of the law's pick, shaped and cut.
-/
import Derived.Test.YtoklolfaemhfnaaDec
namespace Go.Proofs.Ytoklolfaemhfnaa
open Go.RowKit

/-- A raw number as one of n. -/
def pk (c n : Int) : Int := (if c < 0 then -(c + 1) else c) % n
theorem pk_bound (c n : Int) (hn : 0 < n) : 0 ≤ pk c n ∧ pk c n < n := ⟨Int.emod_nonneg _ (by omega), Int.emod_lt_of_pos _ hn⟩

set_option maxHeartbeats 400000 in
theorem pick_any (c n : Int) (w : World) (hn : 0 < n) (hc0 : -9223372036854775808 ≤ c) (hc1 : c ≤ 9223372036854775807) :
    Calls Try.prog 16 #[.int .i64 c, .int .i64 n] w fun e w' => e = .returned (.int .i64 (pk c n)) ∧ w' = w := by
  by_cases h : c < 0
  · have H : Hid (pk c n = -(c + 1) % n) := by show _ = _; simp [pk, h]
    have h1 : 0 ≤ -(c + 1) := by omega
    go_enter Try.func16, Try.ntmps16
    go_wp2
    go_ret
    exact ⟨ret_int (by rw [H.out, ← Int.tmod_eq_emod_of_nonneg h1, Int.neg_tmod]), rfl⟩
  · have H : Hid (pk c n = c % n) := by show _ = _; simp [pk, h]
    go_enter Try.func16, Try.ntmps16
    go_wp2
    go_ret
    exact ⟨ret_int H.out.symm, rfl⟩

theorem pick_at (c n y : Int) (w : World) (hy : y = pk c n) (hn : 0 < n) (hc0 : -9223372036854775808 ≤ c) (hc1 : c ≤ 9223372036854775807) :
    Calls Try.prog 16 #[.int .i64 c, .int .i64 n] w fun e w' => e = .returned (.int .i64 y) ∧ w' = w := hy ▸ pick_any c n w hn hc0 hc1

def Ok64 (x : Int) : Prop := -9223372036854775808 ≤ x ∧ x ≤ 9223372036854775807

set_option maxHeartbeats 800000 in
theorem shaped_any (lv : Value) (l : List Int) (B : Nat) (w : World) (hl : NumsAt w B lv l) (hB : B ≤ w.heap.size) (hlen : l.length ≤ maxLen) (hok : ∀ k, k < l.length → Ok64 (l.getD k 0)) :
    Calls Try.prog 31 #[lv] w fun e w' => ∃ v, e = .returned v ∧ ∃ zs : List Int, w'.ownsRow w.heap.size 3 1 v zs.length (ints zs) ∧ Codec.listFits zs = true ∧ Below w.heap.size w w' := by
  obtain ⟨i0, hi, hz0, hz1, hz2⟩ := info_parts info3
  unfold maxLen at hlen
  rcases hl with ⟨⟨ao0, c0, rfl⟩, rfl⟩ | ⟨b, off, cap, rfl, hbB, hc⟩
  · go_enter Try.func31, Try.ntmps31
    go_wp2
    go_loop [3, 4] (fun u i => u = .slice none 0 0 ∧ i = .int .i64 0) (fun _ _ => 0)
    case atStart => exact ⟨rfl, rfl⟩
    case round =>
      obtain ⟨rfl, rfl⟩ := hrel
      go_wp2
      go_ret
      exact ⟨_, rfl, [], World.ownsRow_nil _ _ _ _, rfl, Below.refl _ _⟩
  · have HC : Hid (∀ j, j < l.length → w.cell? ⟨b, off + j, none⟩ = some (.int .i64 (l.getD j 0))) := hc
    have HK : Hid (∀ k, k < l.length → Ok64 (l.getD k 0)) := hok
    clear hc hok
    go_enter Try.func31, Try.ntmps31
    go_wp2
    go_loopw [3, 4] (fun v i wr => ∃ (k : Nat) (zs : List Int), k ≤ l.length ∧ k ≤ 6 ∧ i = .int .i64 k ∧ Hid (zs.length = k) ∧ Hid (zs.all (fun n => Codec.inB n 0 20) = true) ∧ wr.ownsRow w.heap.size 3 1 v k (ints zs) ∧ Below w.heap.size w wr) (fun _ i _ => l.length - (intOf i).toNat)
    case atStart => exact ⟨0, [], by omega, by omega, rfl, rfl, rfl, World.ownsRow_nil _ _ _ _, Below.refl _ _⟩
    case round =>
      obtain ⟨k, zs, hk, hk6, rfl, HZ, HA, hown, hbel⟩ := hrel
      have hsz := hbel.size
      by_cases hlt : k < l.length
      · by_cases hlt6 : k < 6
        · have hck := (hbel.cell (p := ⟨b, off + k, none⟩) (by show b < _; omega)).trans (HC.out k hlt)
          have hx := HK.out k hlt
          generalize l.getD k 0 = x at hck hx
          obtain ⟨x0, x1⟩ := hx
          have hp := pk_bound x 21 (by omega)
          obtain ⟨y, hy⟩ : ∃ y, y = pk x 21 := ⟨_, rfl⟩
          rw [← hy] at hp
          have HY : Hid (_ = _) := hy
          clear hy
          obtain ⟨y0, y1⟩ := hp
          go_wp2_with fail
          refine (pick_at x 21 y _ HY.out (by decide) x0 x1).mono ?_
          rintro e w' ⟨rfl, rfl⟩
          go_wp2_with (at_builtin; refine wpList_append_own _ rfl _ _ 25 rfl w.heap.size 3 i0 (.int .i64 0) 1 8 Try.underlying25 hi hz0 hz1 hz2 rfl (by decide) _ _ _ rfl (hown.alloc _) ⟨w'.heap.size, 0, none⟩ 1 1 [.int .i64 y] rfl rfl (one_int _ _ rfl _) (int_one _) ?c3 ?c4 ?c5 ?_)
          case c3 => unfold maxLen; omega
          case c4 => omega
          case c5 => simp; omega
          intro v' w1 hown' hgrow _
          rw [ints_snoc] at hown'
          have hb2 := (hbel.alloc (by omega) (.cells #[.int .i64 y] 3)).grown hgrow (by simp; omega) (fun k hk => (hown.lt k hk).1)
          go_wp2
          go_roundw
          case rel => exact ⟨k + 1, zs ++ [y], by omega, by omega, by go_num, by show _ = _; simp [HZ.out], by show _ = _; rw [List.all_append, HA.out]; simp [Codec.inB, y0]; omega, hown', hb2⟩
          case measure => simp [intOf]; omega
        · go_wp2
          go_ret
          exact ⟨_, rfl, zs, by rw [HZ.out]; exact hown, by unfold Codec.listFits; rw [HA.out, HZ.out]; simp; omega, hbel⟩
      · go_wp2
        go_ret
        exact ⟨_, rfl, zs, by rw [HZ.out]; exact hown, by unfold Codec.listFits; rw [HA.out, HZ.out]; simp; omega, hbel⟩

set_option maxHeartbeats 400000 in
theorem cut_any (s : ByteArray) (n : Nat) (hn : n ≤ 1000) (w : World) :
    Calls Try.prog 32 #[.string s, .int .i64 n] w fun e w' => ∃ t : ByteArray, e = .returned (.string t) ∧ t.size ≤ n ∧ w' = w := by
  by_cases h : s.size ≤ n
  · go_enter Try.func32, Try.ntmps32
    go_wp2
    go_ret
    exact ⟨_, rfl, h, rfl⟩
  · go_enter Try.func32, Try.ntmps32
    go_wp2
    go_ret
    refine ⟨_, rfl, ?_, rfl⟩
    simp [ByteArray.size_extract]
    omega
end Go.Proofs.Ytoklolfaemhfnaa
