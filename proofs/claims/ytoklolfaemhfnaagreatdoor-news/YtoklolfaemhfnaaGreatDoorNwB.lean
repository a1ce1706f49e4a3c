/-
  For the walk of the law News: a new group of the program's, as it lies in memory, and what can be asked of it.
-/
import Derived.Test.YtoklolfaemhfnaaGreatDoorNwA
namespace Go.Proofs.YtoklolfaemhfnaaGreatDoor
open Go.RowKit

/-- A new process of the program's: number p of n; all its blocks lie in the span. -/
def ProcX (w : World) (lo hi b p n : Nat) : Prop :=
  ∃ kb mb rb : Nat, ∃ win : Int, (lo ≤ b ∧ b < hi) ∧ (lo ≤ kb ∧ kb < hi) ∧ (lo ≤ mb ∧ mb < hi) ∧ (lo ≤ rb ∧ rb < hi) ∧
    BlkAt w b 159 #[.int .i64 p, .int .i64 n, .int .i64 win, .bool false, .bool false, .bool false, .int .i64 0, .int .i64 (full n), .int .i64 0, .int .i64 0, .int .i64 0, .int .i64 0, .slice none 0 0, .pointer none,
      .slice (some ⟨kb, 0, none⟩) n n, .map (some mb), .slice none 0 0, .slice none 0 0, .slice none 0 0] ∧
    w.heap[mb]? = some (.map #[] 0) ∧ w.cell? ⟨kb, p, none⟩ = some (.slice (some ⟨rb, 0, none⟩) n n) ∧ BlkAt w rb 3 (ints (List.replicate n 0)).toArray

theorem ProcX.span {w w' : World} {lo hi b p n : Nat} (h : ProcX w lo hi b p n) (hs : Span lo hi w w') : ProcX w' lo hi b p n := by
  obtain ⟨kb, mb, rb, win, h1, h2, h3, h4, hb, hm, hk, hr⟩ := h
  exact ⟨kb, mb, rb, win, h1, h2, h3, h4, hb.span hs h1.1 h1.2, (hs mb h3.1 h3.2).trans hm, (World.cell?_of_block (a := ⟨kb, p, none⟩) (hs kb h2.1 h2.2)).trans hk, hr.span hs h4.1 h4.2⟩

/-- A new group of the program's. -/
def GrpX (w : World) (lo hi g n : Nat) : Prop :=
  ∃ ps : Nat, ∃ fl : Int, (lo ≤ g ∧ g < hi) ∧ (lo ≤ ps ∧ ps < hi) ∧ BlkAt w g 97 #[.slice (some ⟨ps, 0, none⟩) n n, .int .i64 fl, .slice none 0 0] ∧
    ∀ p, p < n → ∃ b, w.cell? ⟨ps, p, none⟩ = some (.pointer (some ⟨b, 0, none⟩)) ∧ ProcX w lo hi b p n

theorem GrpX.span {w w' : World} {lo hi g n : Nat} (h : GrpX w lo hi g n) (hs : Span lo hi w w') : GrpX w' lo hi g n := by
  obtain ⟨ps, fl, h1, h2, hb, hp⟩ := h
  refine ⟨ps, fl, h1, h2, hb.span hs h1.1 h1.2, fun p hlt => ?_⟩
  obtain ⟨b, hc, hx⟩ := hp p hlt
  exact ⟨b, (World.cell?_of_block (a := ⟨ps, p, none⟩) (hs ps h2.1 h2.2)).trans hc, hx.span hs⟩

/-- Is p a number of a process? -/
def isP (p : Int) (n : Nat) : Bool := decide (0 ≤ p) && decide (p < n)

set_option maxHeartbeats 400000 in
theorem has_any (p : Int) (lo hi g n : Nat) (w : World) (h : GrpX w lo hi g n) : Calls Tryz.prog 64 #[.pointer (some ⟨g, 0, none⟩), .int .i64 p] w fun e w' => e = .returned (.bool (isP p n)) ∧ w' = w := by
  obtain ⟨ps, fl, h1, h2, hb, -⟩ := h
  have c0 := hb.cell 0 _ rfl
  clear hb
  by_cases hp : 0 ≤ p
  · by_cases hq : p < n
    · go_enter Tryz.func64, Tryz.ntmps64
      go_wp2
      go_ret
      exact ⟨ret_bool (by simp [isP, hp, hq]), rfl⟩
    · go_enter Tryz.func64, Tryz.ntmps64
      go_wp2
      go_ret
      exact ⟨ret_bool (by simp [isP, hq]), rfl⟩
  · go_enter Tryz.func64, Tryz.ntmps64
    go_wp2
    go_ret
    exact ⟨ret_bool (by simp [isP]; omega), rfl⟩

set_option maxHeartbeats 400000 in
theorem count_any (lo hi g n : Nat) (w : World) (h : GrpX w lo hi g n) : Calls Tryz.prog 72 #[.pointer (some ⟨g, 1, none⟩)] w fun e w' => e = .returned (.int .i64 0) ∧ w' = w := by
  obtain ⟨ps, fl, h1, h2, hb, -⟩ := h
  have c1 := hb.cell 2 _ rfl
  clear hb
  go_enter Tryz.func72, Tryz.ntmps72
  go_wp2
  go_ret
  exact ⟨rfl, rfl⟩

set_option maxHeartbeats 400000 in
theorem flight_any (lo hi g n : Nat) (w : World) (h : GrpX w lo hi g n) : Calls Tryz.prog 41 #[.pointer (some ⟨g, 0, none⟩)] w fun e w' => e = .returned (.int .i64 0) ∧ w' = w := by
  go_enter Tryz.func41, Tryz.ntmps41
  go_wp2_with (go_at_call 72; refine (count_any lo hi g n _ h).mono ?_; rintro e w' ⟨rfl, rfl⟩)
  go_ret
  exact ⟨rfl, rfl⟩

set_option maxHeartbeats 400000 in
theorem nhas_any (k : Int) (lo hi g n : Nat) (w : World) (h : GrpX w lo hi g n) : Calls Tryz.prog 113 #[.pointer (some ⟨g, 1, none⟩), .int .i64 k] w fun e w' => e = .returned (.bool false) ∧ w' = w := by
  obtain ⟨ps, fl, h1, h2, hb, -⟩ := h
  have c1 := hb.cell 2 _ rfl
  clear hb
  by_cases hk : 0 ≤ k
  · have hk2 : ¬ k < 0 := by omega
    go_enter Tryz.func113, Tryz.ntmps113
    go_wp2
    go_ret
    exact ⟨rfl, rfl⟩
  · go_enter Tryz.func113, Tryz.ntmps113
    go_wp2
    go_ret
    exact ⟨rfl, rfl⟩

set_option maxHeartbeats 400000 in
theorem bytes_any (k : Int) (lo hi g n : Nat) (w : World) (h : GrpX w lo hi g n) : Calls Tryz.prog 135 #[.pointer (some ⟨g, 1, none⟩), .int .i64 k] w fun e w' => e = .returned (.tuple #[.string ⟨#[]⟩, .int .i64 11]) ∧ w' = w := by
  go_enter Tryz.func135, Tryz.ntmps135
  go_wp2_with (go_at_call 113; refine (nhas_any k lo hi g n _ h).mono ?_; rintro e w' ⟨rfl, rfl⟩)
  go_ret2
  exact ⟨rfl, rfl⟩

set_option maxHeartbeats 400000 in
theorem frameX_any (k : Int) (lo hi g n : Nat) (w : World) (h : GrpX w lo hi g n) : Calls Tryz.prog 96 #[.pointer (some ⟨g, 0, none⟩), .int .i64 k] w fun e w' => e = .returned (.tuple #[.string ⟨#[]⟩, .int .i64 11]) ∧ w' = w := by
  go_enter Tryz.func96, Tryz.ntmps96
  go_wp2_with (go_at_call 135; refine (bytes_any k lo hi g n _ h).mono ?_; rintro e w' ⟨rfl, rfl⟩)
  go_ret2
  exact ⟨rfl, rfl⟩
end Go.Proofs.YtoklolfaemhfnaaGreatDoor
