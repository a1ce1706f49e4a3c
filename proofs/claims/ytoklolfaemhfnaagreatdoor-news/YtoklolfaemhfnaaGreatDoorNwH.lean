/-
  For the walk of the law News: a new group of the document's answer, as it lies in memory, and what can be asked of it.
-/
import Derived.Test.YtoklolfaemhfnaaGreatDoorNwG
namespace Go.Proofs.YtoklolfaemhfnaaGreatDoor
open Go.RowKit

/-- A new process of the document's answer. -/
def ProcY (w : World) (lo hi b p n : Nat) : Prop :=
  ∃ kv : Value, (lo ≤ b ∧ b < hi) ∧ BlkAt w b 131 #[.int .i64 p, .bool false, .bool false, .int .i64 0, .int .i64 (full n), .int .i64 0, kv, .slice none 0 0, .bool false, .int .i64 0, .int .i64 0, .int .i64 0, .slice none 0 0,
    .int .i64 0, .int .i64 0, .slice none 0 0, .slice none 0 0, .slice none 0 0, .bool false, .int .i64 0, .slice none 0 0, .slice none 0 0]

theorem ProcY.span {w w' : World} {lo hi b p n : Nat} (h : ProcY w lo hi b p n) (hs : Span lo hi w w') : ProcY w' lo hi b p n := by
  obtain ⟨kv, h1, hb⟩ := h
  exact ⟨kv, h1, hb.span hs h1.1 h1.2⟩

/-- A new group of the document's answer. -/
def GrpY (w : World) (lo hi g n : Nat) : Prop :=
  ∃ pb cap : Nat, ∃ x y : Int, (lo ≤ g ∧ g < hi) ∧ (lo ≤ pb ∧ pb < hi) ∧ BlkAt w g 119 #[.int .i64 n, .int .i64 x, .int .i64 y, .slice (some ⟨pb, 0, none⟩) n cap, .slice none 0 0] ∧
    ∀ p, p < n → ∃ b, w.cell? ⟨pb, p, none⟩ = some (.pointer (some ⟨b, 0, none⟩)) ∧ ProcY w lo hi b p n

theorem GrpY.span {w w' : World} {lo hi g n : Nat} (h : GrpY w lo hi g n) (hs : Span lo hi w w') : GrpY w' lo hi g n := by
  obtain ⟨ps, cap, x, y, h1, h2, hb, hp⟩ := h
  refine ⟨ps, cap, x, y, h1, h2, hb.span hs h1.1 h1.2, fun p hlt => ?_⟩
  obtain ⟨b, hc, hx⟩ := hp p hlt
  exact ⟨b, (World.cell?_of_block (a := ⟨ps, p, none⟩) (hs ps h2.1 h2.2)).trans hc, hx.span hs⟩

set_option maxHeartbeats 400000 in
theorem rproc_any (p : Int) (lo hi g n : Nat) (w : World) (h : GrpY w lo hi g n) : Calls Tryz.prog 134 #[.pointer (some ⟨g, 0, none⟩), .int .i64 p] w fun e w' => e = .returned (.bool (isP p n)) ∧ w' = w := by
  obtain ⟨ps, cap, x, y, h1, h2, hb, -⟩ := h
  have c0 := hb.cell 3 _ rfl
  clear hb
  by_cases hp : 0 ≤ p
  · by_cases hq : p < n
    · go_enter Tryz.func134, Tryz.ntmps134
      go_wp2
      go_ret
      exact ⟨ret_bool (by simp [isP, hp, hq]), rfl⟩
    · go_enter Tryz.func134, Tryz.ntmps134
      go_wp2
      go_ret
      exact ⟨ret_bool (by simp [isP, hq]), rfl⟩
  · go_enter Tryz.func134, Tryz.ntmps134
    go_wp2
    go_ret
    exact ⟨ret_bool (by simp [isP]; omega), rfl⟩

set_option maxHeartbeats 400000 in
theorem rFlight_any (lo hi g n : Nat) (w : World) (h : GrpY w lo hi g n) : Calls Tryz.prog 53 #[.pointer (some ⟨g, 0, none⟩)] w fun e w' => e = .returned (.int .i64 0) ∧ w' = w := by
  obtain ⟨ps, cap, x, y, h1, h2, hb, -⟩ := h
  have c1 := hb.cell 4 _ rfl
  clear hb
  go_enter Tryz.func53, Tryz.ntmps53
  go_wp2
  go_ret
  exact ⟨rfl, rfl⟩

set_option maxHeartbeats 400000 in
theorem there_any (k : Int) (lo hi g n : Nat) (w : World) (h : GrpY w lo hi g n) : Calls Tryz.prog 122 #[.pointer (some ⟨g, 0, none⟩), .int .i64 k] w fun e w' => e = .returned (.bool false) ∧ w' = w := by
  obtain ⟨ps, cap, x, y, h1, h2, hb, -⟩ := h
  have c1 := hb.cell 4 _ rfl
  clear hb
  by_cases hk : 0 ≤ k
  · have hk2 : ¬ k < 0 := by omega
    go_enter Tryz.func122, Tryz.ntmps122
    go_wp2
    go_ret
    exact ⟨rfl, rfl⟩
  · go_enter Tryz.func122, Tryz.ntmps122
    go_wp2
    go_ret
    exact ⟨rfl, rfl⟩

set_option maxHeartbeats 400000 in
theorem rFrame_any (k : Int) (lo hi g n : Nat) (w : World) (h : GrpY w lo hi g n) : Calls Tryz.prog 84 #[.pointer (some ⟨g, 0, none⟩), .int .i64 k] w fun e w' => e = .returned (.tuple #[.string ⟨#[]⟩, .int .i64 11]) ∧ w' = w := by
  go_enter Tryz.func84, Tryz.ntmps84
  go_wp2_with (go_at_call 122; refine (there_any k lo hi g n _ h).mono ?_; rintro e w' ⟨rfl, rfl⟩)
  go_ret2
  exact ⟨rfl, rfl⟩

set_option maxHeartbeats 800000 in
theorem rEvents_any (p : Int) (lo hi g n : Nat) (w : World) (h : GrpY w lo hi g n) : Calls Tryz.prog 94 #[.pointer (some ⟨g, 0, none⟩), .int .i64 p] w fun e w' => e = .returned (.tuple #[.slice none 0 0, .int .i64 (if isP p n then 0 else 4)]) ∧ w' = w := by
  have HG : Hid (GrpY w lo hi g n) := h
  cases hp : isP p n with
  | false =>
    clear h
    go_enter Tryz.func94, Tryz.ntmps94
    go_wp2_with (go_at_call 134; refine (rproc_any p lo hi g n _ HG.out).mono ?_; rintro e w' ⟨rfl, rfl⟩; rw [hp])
    go_ret2
    exact ⟨rfl, rfl⟩
  | true =>
    obtain ⟨k, rfl, hk⟩ := isP_yes hp
    obtain ⟨ps, cap, x, y, h1, h2, hb, hps⟩ := h
    obtain ⟨b, hcp, kv, hbb, hx⟩ := hps k hk
    have hc3 := hb.cell 3 _ rfl
    have hc21 := hx.cell 21 _ rfl
    simp only [List.getElem_toArray, List.getElem_cons_zero, List.getElem_cons_succ] at hc3 hc21
    have hp0 : (0 : Int) ≤ (k : Int) := Int.natCast_nonneg _
    have hp1 : (k : Int) < (n : Int) := by omega
    clear hb hps hx
    go_enter Tryz.func94, Tryz.ntmps94
    go_wp2_with (first | (go_at_call 134; refine (rproc_any k lo hi g n _ HG.out).mono ?_; rintro e w' ⟨rfl, rfl⟩; rw [hp]))
    go_ret2
    exact ⟨rfl, rfl⟩

/-! ### row, held, Proc -/
set_option maxHeartbeats 800000 in
theorem rrow_any (lo hi g b p n : Nat) (w : World) (h : GrpY w lo hi g n) (hx : ProcY w lo hi b p n) (hn : n ≤ 6) (hhi : hi ≤ w.heap.size) : Calls Tryz.prog 129 #[.pointer (some ⟨g, 0, none⟩), .pointer (some ⟨b, 0, none⟩)] w fun e w' => ∃ r, e = .returned (.slice (some ⟨r, 0, none⟩) n n) ∧ BlkAt w' r 3 (ints (List.replicate n 0)).toArray ∧ Below w.heap.size w w' := by
  obtain ⟨ps, cap, x, y, h1, h2, hb, -⟩ := h
  obtain ⟨kv, hbb, hx⟩ := hx
  have hmk := mk_ints n hn
  have c0 := hb.cell 0 _ rfl
  have c21 := hx.cell 21 _ rfl
  simp only [List.getElem_toArray, List.getElem_cons_zero, List.getElem_cons_succ] at c0 c21
  have hgl : g < w.heap.size := by omega
  have hbl : b < w.heap.size := by omega
  have HN : Hid (BlkAt (w.alloc (.cells (ints (List.replicate n 0)).toArray 3)) w.heap.size 3 (ints (List.replicate n 0)).toArray) := BlkAt.new w w.heap.size rfl _ _
  have HB : Hid (Below w.heap.size w (w.alloc (.cells (ints (List.replicate n 0)).toArray 3))) := (Below.refl _ _).alloc (Nat.le_refl _) _
  clear hb hx
  go_enter Tryz.func129, Tryz.ntmps129
  go_wp2
  go_loop [6] (fun i => i = .int .i64 0) (fun _ => 0)
  case atStart => rfl
  case round =>
    subst hrel
    go_wp2
    go_ret
    exact ⟨w.heap.size, rfl, HN.out, HB.out⟩

set_option maxHeartbeats 1600000 in
theorem held_nil (lo hi g b p n : Nat) (w : World) (h : GrpY w lo hi g n) (hx : ProcY w lo hi b p n) (hn : n ≤ 6) : Calls Tryz.prog 130 #[.pointer (some ⟨g, 0, none⟩), .pointer (some ⟨b, 0, none⟩), .slice none 0 0] w fun e w' => e = .returned (.slice none 0 0) ∧ w' = w := by
  obtain ⟨ps, cap, x, y, h1, h2, hb, -⟩ := h
  obtain ⟨kv, hbb, hx⟩ := hx
  have c0 := hb.cell 0 _ rfl
  have c7 := hx.cell 7 _ rfl
  simp only [List.getElem_toArray, List.getElem_cons_zero, List.getElem_cons_succ] at c0 c7
  clear hb hx
  go_enter Tryz.func130, Tryz.ntmps130
  go_wp2
  go_loop [7, 8] (fun l i => l = .slice none 0 0 ∧ ∃ k : Nat, k ≤ n ∧ i = .int .i64 k) (fun _ i => n - (intOf i).toNat)
  case atStart => exact ⟨rfl, 0, by omega, rfl⟩
  case round =>
    obtain ⟨rfl, k, hk, rfl⟩ := hrel
    by_cases hlt : k < n
    · have hk1 : (k : Int) < (n : Int) := by omega
      go_wp2
      go_loop [7, 9] (fun l i => l = .slice none 0 0 ∧ ∃ j : Nat, 1 ≤ j ∧ j ≤ 21 ∧ i = .int .i64 j) (fun _ i => 21 - (intOf i).toNat)
      case atStart => exact ⟨rfl, 1, by omega, by omega, rfl⟩
      case round =>
        obtain ⟨rfl, j, hj0, hj, rfl⟩ := hrel
        by_cases hjl : j ≤ 20
        · have hj1 : (j : Int) ≤ 20 := by omega
          go_wp2
          go_loop [7, 10] (fun l i => l = .slice none 0 0 ∧ i = .int .i64 0) (fun _ _ => 0)
          case atStart => exact ⟨rfl, rfl⟩
          case round =>
            obtain ⟨rfl, rfl⟩ := hrel
            go_wp2
            go_round
            case rel => exact ⟨rfl, j + 1, by omega, by omega, by go_num⟩
            case measure => simp [intOf]; omega
        · have hj1 : ¬ (j : Int) ≤ 20 := by omega
          go_wp2
          go_round
          case rel => exact ⟨rfl, k + 1, by omega, by go_num⟩
          case measure => simp [intOf]; omega
    · have hk1 : ¬ (k : Int) < (n : Int) := by omega
      go_wp2
      go_ret
      exact ⟨rfl, rfl⟩
end Go.Proofs.YtoklolfaemhfnaaGreatDoor
