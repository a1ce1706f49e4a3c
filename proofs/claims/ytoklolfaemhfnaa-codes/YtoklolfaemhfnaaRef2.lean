/-
  The walks of the document's at, four and numbers: the plain readers of the Codec text, by places.
-/
import Derived.Test.YtoklolfaemhfnaaRefEnc
namespace Go.Proofs.Ytoklolfaemhfnaa
open Go.RowKit

/-- The byte number i, 0 where there is none. -/
def atB (s : List UInt8) (i : Nat) : Int := (Codec.oct (s.drop i)).1
theorem atB_in (s : List UInt8) (i : Nat) (h : i < s.length) : atB s i = ((s[i]'h).toNat : Int) := by
  rw [atB, List.drop_eq_getElem_cons h]; rfl
theorem atB_out (s : List UInt8) (i : Nat) (h : s.length ≤ i) : atB s i = 0 := by
  rw [atB, List.drop_of_length_le h]; rfl
theorem atB_bound (s : List UInt8) (i : Nat) : 0 ≤ atB s i ∧ atB s i < 256 := ⟨(oct_bound _).1, (oct_bound _).2.1⟩
theorem oct_rest (s : List UInt8) (i : Nat) : (Codec.oct (s.drop i)).2 = s.drop (i + 1) := by
  rcases Nat.lt_or_ge i s.length with h | h
  · rw [List.drop_eq_getElem_cons h]; rfl
  · rw [List.drop_of_length_le h, List.drop_of_length_le (by omega)]; rfl
theorem oct_at (s : List UInt8) (i : Nat) : Codec.oct (s.drop i) = (atB s i, s.drop (i + 1)) := by
  rw [← oct_rest]; rfl

set_option maxHeartbeats 400000 in
theorem at_any (s : List UInt8) (i : Nat) (w : World) (_hs : s.length ≤ 1000000000000000) (hi : i ≤ 2000000000000000) :
    Calls Try.prog 41 #[.string ⟨s.toArray⟩, .int .i64 i] w fun e w' => e = .returned (.int .i64 (atB s i)) ∧ w' = w := by
  by_cases h : i < s.length
  · have HA : Hid (_ = _) := atB_in s i h
    have HW : Hid (wrap64 ((s[i]'h).toNat : Int) = ((s[i]'h).toNat : Int)) := by
      have := (s[i]'h).toNat_lt
      exact IntWalk.wrap64_in _ ⟨by omega, by omega⟩
    go_enter Try.func41, Try.ntmps41
    go_wp2
    go_ret
    refine ⟨ret_int ?_, rfl⟩
    rw [HA.out, ← HW.out]
    rfl
  · have HA : Hid (_ = _) := atB_out s i (by omega)
    go_enter Try.func41, Try.ntmps41
    go_wp2
    go_ret
    exact ⟨ret_int HA.out.symm, rfl⟩

theorem word_at' (s : List UInt8) (i : Nat) : Codec.word (s.drop i) = (((atB s i * 256 + atB s (i + 1)) * 256 + atB s (i + 2)) * 256 + atB s (i + 3), s.drop (i + 4)) := by
  unfold Codec.word
  rw [oct_at s i]
  simp only
  rw [oct_at s (i + 1)]
  simp only
  rw [oct_at s (i + 1 + 1)]
  simp only
  rw [oct_at s (i + 1 + 1 + 1)]

set_option maxHeartbeats 400000 in
theorem four_any (s : List UInt8) (i : Nat) (w : World) (hs : s.length ≤ 1000000000000000) (hi : i ≤ 1000000000000000) :
    Calls Try.prog 42 #[.string ⟨s.toArray⟩, .int .i64 i] w fun e w' => e = .returned (.int .i64 (Codec.word (s.drop i)).1) ∧ w' = w := by
  have HW : Hid (_ = _) := word_at' s i
  obtain ⟨x0, h0⟩ : ∃ x, atB s i = x := ⟨_, rfl⟩
  obtain ⟨x1, h1⟩ : ∃ x, atB s (i + 1) = x := ⟨_, rfl⟩
  obtain ⟨x2, h2⟩ : ∃ x, atB s (i + 2) = x := ⟨_, rfl⟩
  obtain ⟨x3, h3⟩ : ∃ x, atB s (i + 3) = x := ⟨_, rfl⟩
  have b0 := atB_bound s i
  have b1 := atB_bound s (i + 1)
  have b2 := atB_bound s (i + 2)
  have b3 := atB_bound s (i + 3)
  rw [h0] at b0; rw [h1] at b1; rw [h2] at b2; rw [h3] at b3
  have C0 : Hid (∀ w, Calls Try.prog 41 #[.string ⟨s.toArray⟩, .int .i64 i] w fun e w' => e = .returned (.int .i64 x0) ∧ w' = w) := fun w => h0 ▸ at_any s i w hs (by omega)
  have C1 : Hid (∀ w, Calls Try.prog 41 #[.string ⟨s.toArray⟩, .int .i64 ((i : Int) + 1)] w fun e w' => e = .returned (.int .i64 x1) ∧ w' = w) := fun w => h1 ▸ at_any s (i + 1) w hs (by omega)
  have C2 : Hid (∀ w, Calls Try.prog 41 #[.string ⟨s.toArray⟩, .int .i64 ((i : Int) + 2)] w fun e w' => e = .returned (.int .i64 x2) ∧ w' = w) := fun w => h2 ▸ at_any s (i + 2) w hs (by omega)
  have C3 : Hid (∀ w, Calls Try.prog 41 #[.string ⟨s.toArray⟩, .int .i64 ((i : Int) + 3)] w fun e w' => e = .returned (.int .i64 x3) ∧ w' = w) := fun w => h3 ▸ at_any s (i + 3) w hs (by omega)
  have E : Hid ((Codec.word (s.drop i)).1 = ((x0 * 256 + x1) * 256 + x2) * 256 + x3) := by show _ = _; rw [HW.out, h0, h1, h2, h3]
  clear h0 h1 h2 h3 HW
  generalize (Codec.word (s.drop i)).1 = z at E ⊢
  go_enter Try.func42, Try.ntmps42
  go_wp2_with fail
  refine (C0.out _).mono ?_
  rintro e w' ⟨rfl, rfl⟩
  go_wp2_with fail
  refine (C1.out _).mono ?_
  rintro e w' ⟨rfl, rfl⟩
  go_wp2_with fail
  refine (C2.out _).mono ?_
  rintro e w' ⟨rfl, rfl⟩
  go_wp2_with fail
  refine (C3.out _).mono ?_
  rintro e w' ⟨rfl, rfl⟩
  go_wp2
  go_ret
  exact ⟨ret_int E.out.symm, rfl⟩

theorem octs_at (s : List UInt8) (n : Nat) : ∀ i, Codec.octs n (s.drop i) = ((List.range n).map (fun k => atB s (i + k)), s.drop (i + n)) := by
  induction n with
  | zero => intro i; simp [Codec.octs]
  | succ n ih =>
    intro i
    rw [Codec.octs, oct_at]
    simp only
    rw [ih (i + 1), List.range_succ_eq_map]
    simp only [List.map_cons, List.map_map, Nat.add_zero]
    rw [show i + 1 + n = i + (n + 1) from by omega]
    congr 2
    apply List.map_congr_left
    intro k _
    simp [Nat.add_assoc, Nat.add_comm 1 k]

set_option maxHeartbeats 800000 in
theorem numbers_any (s : List UInt8) (i n : Nat) (w : World) (hs : s.length ≤ 1000000000000000) (hi : i ≤ 1000000000000000) (hn : n < 256) :
    Calls Try.prog 43 #[.string ⟨s.toArray⟩, .int .i64 i, .int .i64 n] w fun e w' => ∃ v, e = .returned v ∧ w'.ownsRow w.heap.size 3 1 v n (ints (Codec.octs n (s.drop i)).1) ∧ Below w.heap.size w w' := by
  obtain ⟨i0, hi0, hz0, hz1, hz2⟩ := info_parts info3
  have HO : Hid (_ = _) := octs_at s n i
  go_enter Try.func43, Try.ntmps43
  go_wp2
  go_loopw [7, 8] (fun v j wr => ∃ k : Nat, k ≤ n ∧ j = .int .i64 k ∧ wr.ownsRow w.heap.size 3 1 v k (ints ((List.range k).map (fun q => atB s (i + q)))) ∧ Below w.heap.size w wr) (fun _ j _ => n - (intOf j).toNat)
  case atStart => exact ⟨0, by omega, rfl, World.ownsRow_nil _ _ _ _, Below.refl _ _⟩
  case round =>
    obtain ⟨k, hk, rfl, hown, hbel⟩ := hrel
    have hsz := hbel.size
    by_cases hlt : k < n
    · obtain ⟨x, hx⟩ : ∃ x, atB s (i + k) = x := ⟨_, rfl⟩
      have C : Hid (∀ w, Calls Try.prog 41 #[.string ⟨s.toArray⟩, .int .i64 ((i : Int) + k)] w fun e w' => e = .returned (.int .i64 x) ∧ w' = w) := fun w => hx ▸ at_any s (i + k) w hs (by omega)
      have HS : Hid (ints ((List.range k).map (fun q => atB s (i + q))) ++ [Value.int .i64 x] = ints ((List.range (k + 1)).map (fun q => atB s (i + q)))) := by
        show _ = _
        rw [List.range_succ, List.map_append, ints_snoc, ← hx]; rfl
      clear hx
      go_wp2_with fail
      refine (C.out _).mono ?_
      rintro e w' ⟨rfl, rfl⟩
      go_wp2_with (at_builtin; refine wpList_append_own _ rfl _ _ 25 rfl w.heap.size 3 i0 (.int .i64 0) 1 8 Try.underlying25 hi0 hz0 hz1 hz2 rfl (by decide) _ _ _ rfl (hown.alloc _) ⟨w'.heap.size, 0, none⟩ 1 1 [.int .i64 x] rfl rfl (one_int _ _ rfl _) (int_one _) ?c3 ?c4 ?c5 ?_)
      case c3 => unfold maxLen; omega
      case c4 => omega
      case c5 => simp; omega
      intro v' w1 hown' hgrow _
      rw [HS.out] at hown'
      have hb2 := (hbel.alloc (by omega) (.cells #[.int .i64 x] 3)).grown hgrow (by simp; omega) (fun k hk => (hown.lt k hk).1)
      go_wp2
      go_roundw
      case rel => exact ⟨k + 1, by omega, by go_num, hown', hb2⟩
      case measure => simp [intOf]; omega
    · have hkn : k = n := by omega
      subst hkn
      go_wp2
      go_ret
      exact ⟨_, rfl, by rw [HO.out]; exact hown, hbel⟩
end Go.Proofs.Ytoklolfaemhfnaa
