/-
  For the walk of the law News: New of the document's group.
-/
import Derived.Test.YtoklolfaemhfnaaGreatDoorNwI
import Derived.Test.YtoklolfaemhfnaaGreatDoorNwJ
namespace Go.Proofs.YtoklolfaemhfnaaGreatDoor
open Go.RowKit

/-- The blocks of one element type are as they were. -/
def KeepT (T : TypeId) (w w' : World) : Prop := ∀ (g : Nat) (cur : Array Value), w.heap[g]? = some (.cells cur T (0, 0)) → w'.heap[g]? = some (.cells cur T (0, 0))
theorem KeepT.refl (T : TypeId) (w : World) : KeepT T w w := fun _ _ h => h
theorem KeepT.trans {T : TypeId} {a b c : World} (h : KeepT T a b) (k : KeepT T b c) : KeepT T a c := fun g cur e => k g cur (h g cur e)
theorem KeepT.drew {T : TypeId} {a b : World} (h : KeepT T a b) : KeepT T a b.drew := h
theorem KeepT.below {T : TypeId} {a b : World} (h : Below a.heap.size a b) : KeepT T a b := fun g _ e => (h.block g (Array.getElem?_eq_some_iff.1 e).1).trans e
theorem KeepT.alloc (T : TypeId) (w : World) (o : Obj) : KeepT T w (w.alloc o) := .below ((Below.refl _ _).alloc (Nat.le_refl _) o)
theorem own_block {w : World} {b n sz : Nat} {e : TypeId} {v : Value} {xs : List Value} (h : w.ownsRow b e sz v n xs) {g : Nat} (hg : v.ownBlock = some g) : ∃ cur, w.heap[g]? = some (.cells cur e (0, 0)) := by
  rcases h.2 with ⟨rfl, _⟩ | ⟨q, cap, cur, rfl, _, hq, _⟩
  · cases hg
  · have : q = g := by simpa [Value.ownBlock] using hg
    subst this
    exact ⟨cur, hq⟩
theorem KeepT.grown {T : TypeId} {w w' : World} {b n sz : Nat} {e : TypeId} {v : Value} {xs : List Value} (h : w.ownsRow b e sz v n xs) (hne : e ≠ T) (hg : w.grownBy w' v.ownBlock) : KeepT T w w' := fun g cur hc => by
  refine (hg.block g (Array.getElem?_eq_some_iff.1 hc).1 fun he => ?_).trans hc
  obtain ⟨c2, h2⟩ := own_block h he.symm
  rw [hc] at h2
  injection h2 with h2
  injection h2 with _ h3 _
  exact hne h3.symm
theorem KeepT.set {T T' : TypeId} {w : World} {X : Nat} {cs : Array Value} (h : w.heap[X]? = some (.cells cs T' (0, 0))) (hne : T' ≠ T) (j : Nat) (u : Value) : KeepT T w (w.setCell ⟨X, j, none⟩ u) := fun g cur hc => by
  refine (heap_setCell_other w ⟨X, j, none⟩ g u fun he => ?_).trans hc
  have he' : g = X := he
  subst he'
  rw [hc] at h
  injection h with h2
  injection h2 with _ h3 _
  exact hne h3.symm
theorem own_keepT {w w' : World} {b n sz : Nat} {e : TypeId} {v : Value} {xs : List Value} (h : w.ownsRow b e sz v n xs) (k : KeepT e w w') : w'.ownsRow b e sz v n xs := by
  rcases h with ⟨hl, ⟨rfl, h0⟩ | ⟨q, cap, cur, rfl, hb, hq, hr⟩⟩
  · exact ⟨hl, .inl ⟨rfl, h0⟩⟩
  · exact ⟨hl, .inr ⟨q, cap, cur, rfl, hb, k q cur hq, hr⟩⟩
theorem blk_keepT {w w' : World} {X : Nat} {T : TypeId} {cs : Array Value} (h : BlkAt w X T cs) (k : KeepT T w w') : BlkAt w' X T cs := k X cs h
theorem own_form {w : World} {b n sz : Nat} {e : TypeId} {v : Value} {xs : List Value} (h : w.ownsRow b e sz v n xs) : ∃ ao c, v = .slice ao n c := by
  rcases h with ⟨hl, ⟨rfl, rfl⟩ | ⟨q, cap, cur, rfl, _⟩⟩
  · exact ⟨none, 0, rfl⟩
  · exact ⟨_, cap, rfl⟩

theorem ProcY.keep {w w' : World} {lo hi lo' hi' b p n : Nat} (h : ProcY w lo hi b p n) (k : KeepT 131 w w') (h1 : lo' ≤ lo) (h2 : hi ≤ hi') : ProcY w' lo' hi' b p n := by
  obtain ⟨kv, hb, hx⟩ := h
  exact ⟨kv, by omega, blk_keepT hx k⟩

theorem infoProcY : (Tryz.prog.info? 120).map (fun i => (i.zero, i.size, i.bytes)) = some (some (.pointer none), 1, 8) := by kernel_rfl

set_option maxHeartbeats 1600000 in
theorem newY_no (a b c : Int) (w : World) (h : ¬ okC a b c) : Calls Tryz.prog 47 #[.agg #[.int .i64 a, .int .i64 b, .int .i64 c]] w fun e w' => e = .returned (.tuple #[.pointer none, .int .i64 1]) ∧ Below w.heap.size w w' := by
  have H : Hid (¬ okC a b c) := h
  clear h
  by_cases h1 : a < 1
  · go_enter Tryz.func47, Tryz.ntmps47
    go_wp2
    go_ret2
    exact ⟨rfl, (Below.refl _ _).alloc (Nat.le_refl _) _⟩
  · by_cases h2 : 6 < a
    · go_enter Tryz.func47, Tryz.ntmps47
      go_wp2
      go_ret2
      exact ⟨rfl, (Below.refl _ _).alloc (Nat.le_refl _) _⟩
    · by_cases h3 : b < 1
      · go_enter Tryz.func47, Tryz.ntmps47
        go_wp2
        go_ret2
        exact ⟨rfl, (Below.refl _ _).alloc (Nat.le_refl _) _⟩
      · by_cases h4 : 8 < b
        · go_enter Tryz.func47, Tryz.ntmps47
          go_wp2
          go_ret2
          exact ⟨rfl, (Below.refl _ _).alloc (Nat.le_refl _) _⟩
        · by_cases h5 : c < 1
          · go_enter Tryz.func47, Tryz.ntmps47
            go_wp2
            go_ret2
            exact ⟨rfl, (Below.refl _ _).alloc (Nat.le_refl _) _⟩
          · by_cases h6 : 4000 < c
            · go_enter Tryz.func47, Tryz.ntmps47
              go_wp2
              go_ret2
              exact ⟨rfl, (Below.refl _ _).alloc (Nat.le_refl _) _⟩
            · exact absurd ⟨by omega, by omega, by omega, by omega, by omega, by omega⟩ H.out

set_option maxHeartbeats 1600000 in
theorem newY_yes (n : Nat) (b c : Int) (w : World) (h : okC n b c) : Calls Tryz.prog 47 #[.agg #[.int .i64 n, .int .i64 b, .int .i64 c]] w fun e w' => ∃ g, e = .returned (.tuple #[.pointer (some ⟨g, 0, none⟩), .int .i64 0]) ∧ GrpY w' w.heap.size w'.heap.size g n ∧ Below w.heap.size w w' := by
  obtain ⟨h1, h2, h3, h4, h5, h6⟩ := h
  have hn : n ≤ 6 := by omega
  have hn1 : 1 ≤ n := by omega
  have k1 : ¬ (n : Int) < 1 := by omega
  have k2 : ¬ (6 : Int) < n := by omega
  have k3 : ¬ b < 1 := by omega
  have k4 : ¬ 8 < b := by omega
  have k5 : ¬ c < 1 := by omega
  have k6 : ¬ 4000 < c := by omega
  obtain ⟨i0, hi, hz0, hz1, hz2⟩ := info_parts infoProcY
  clear h1 h2 h3 h4 h5 h6
  go_enter Tryz.func47, Tryz.ntmps47
  go_wp2_with fail
  go_loopw [5, 6] (fun a i wr => ∃ k : Nat, k ≤ n ∧ a = .int .i64 (full k) ∧ i = .int .i64 k ∧ BlkAt wr w.heap.size 23 #[.int .i64 n, .int .i64 b, .int .i64 c] ∧ BlkAt wr (w.heap.size + 1) 119 #[.int .i64 n, .int .i64 b, .int .i64 c, .slice none 0 0, .slice none 0 0] ∧ Below w.heap.size w wr) (fun _ i _ => n - (intOf i).toNat)
  case atStart => exact ⟨0, by omega, rfl, rfl, (BlkAt.new w w.heap.size rfl _ _).alloc _, BlkAt.new _ _ (by simp) _ _, ((Below.refl _ _).alloc (Nat.le_refl _) _).alloc (by simp) _⟩
  case round =>
    obtain ⟨k, hk, rfl, rfl, HC, HG, hbel⟩ := hrel
    have c0 := HC.cell 0 _ rfl
    simp only [List.getElem_toArray, List.getElem_cons_zero] at c0
    have HCd : Hid (BlkAt wr w.heap.size 23 _) := HC
    have HGd : Hid (BlkAt wr (w.heap.size + 1) 119 _) := HG
    have HBl : Hid (Below w.heap.size w wr) := hbel
    clear HC HG hbel
    by_cases hlt : k < n
    · have hk1' : (k : Int) < (n : Int) := by omega
      go_wp2_with (go_at_call 76; refine (with_any k _ (by omega)).mono ?_; rintro e w' ⟨rfl, rfl⟩)
      go_roundw
      case rel => exact ⟨k + 1, by omega, rfl, by go_num, HCd.out, HGd.out, HBl.out⟩
      case measure => simp [intOf]; omega
    · have hkn : n = k := by omega
      have hkn1 : ¬ (n : Int) < (n : Int) := by omega
      subst hkn
      clear hlt hk
      have hsz := HGd.out.lt
      go_wp2_with fail
      go_loopw [7] (fun i wx => ∃ j : Nat, j ≤ n ∧ i = .int .i64 j ∧ BlkAt wx w.heap.size 23 #[.int .i64 n, .int .i64 b, .int .i64 c] ∧ Below w.heap.size w wx ∧ ∃ ao cap xs, BlkAt wx (w.heap.size + 1) 119 #[.int .i64 n, .int .i64 b, .int .i64 c, .slice ao j cap, .slice none 0 0] ∧
          wx.ownsRow (w.heap.size + 2) 120 1 (.slice ao j cap) j xs ∧ ∀ q, q < j → ∃ x, xs[q]? = some (.pointer (some ⟨x, 0, none⟩)) ∧ ProcY wx w.heap.size wx.heap.size x q n) (fun i _ => n - (intOf i).toNat)
      case atStart => exact ⟨0, by omega, rfl, HCd.out, HBl.out, none, 0, [], HGd.out, World.ownsRow_nil _ _ _ _, fun q hq => absurd hq (Nat.not_lt_zero _)⟩
      case round =>
        clear HCd HGd HBl c0 hsz
        obtain ⟨j, hj, rfl, HC, hbel, ao, cap, xs, HG, hown, hps⟩ := hrel
        have hxl : xs.length = j := by have := hown.1; simpa using this
        have hsz := HG.lt
        have c0 := HC.cell 0 _ rfl
        simp only [List.getElem_toArray, List.getElem_cons_zero] at c0
        by_cases hlt2 : j < n
        · have hk1' : (j : Int) < (n : Int) := by omega
          have HBl : Hid (Below w.heap.size w wr) := hbel
          have HPs : Hid (∀ q, q < j → ∃ x, xs[q]? = some (.pointer (some ⟨x, 0, none⟩)) ∧ ProcY wr w.heap.size wr.heap.size x q n) := hps
          have HOw : Hid (wr.ownsRow (w.heap.size + 2) 120 1 (.slice ao j cap) j xs) := hown
          have HS : Hid (∀ w', Below wr.heap.size wr w' → w'.cell? ⟨w.heap.size, 0, none⟩ = some (.int .i64 n) ∧ w'.cell? ⟨w.heap.size + 1, 3, none⟩ = some (.slice ao j cap)) := fun w' hw => ⟨(HC.below hw HC.lt).cell 0 _ rfl, (HG.below hw HG.lt).cell 3 _ rfl⟩
          have HCd : Hid (BlkAt wr w.heap.size 23 _) := HC
          have HGd : Hid (BlkAt wr (w.heap.size + 1) 119 _) := HG
          clear HC HG hbel hps hown
          go_upto_region 12 with fail
          refine Ends.begin (fun w' => w'.cell? ⟨w.heap.size, 0, none⟩ = some (.int .i64 n) ∧ w'.cell? ⟨w.heap.size + 1, 3, none⟩ = some (.slice ao j cap)) 16 (by kernel_rfl) (HS.out _ (Below.refl _ _).drew) (fun hHeld => ?_)
          refine Ends.take 0 (v := ?v0) rfl rfl (by kernel_rfl) (by kernel_rfl) (by kernel_rfl) (by kernel_rfl) (fun _ _ _ h => h) (Or.inl ⟨by rfl, ?y0⟩) (by assumption) ?r0
          case y0 => (intro w' hSw; (try dsimp only at hSw); go_simp; (try with_reducible rfl))
          try simp only [Act.put, List.setIfInBounds_toArray, List.set_cons_zero, List.set_cons_succ, List.getElem_toArray, List.getElem_cons_zero]
          refine Ends.take 1 (v := ?v1) rfl rfl (by kernel_rfl) (by kernel_rfl) (by kernel_rfl) (by kernel_rfl) (fun _ _ _ h => h) (Or.inl ⟨by rfl, ?y1⟩) (by assumption) ?r1
          case y1 => (intro w' hSw; (try dsimp only at hSw); go_simp; (try with_reducible rfl))
          try simp only [Act.put, List.setIfInBounds_toArray, List.set_cons_zero, List.set_cons_succ, List.getElem_toArray, List.getElem_cons_zero, List.getElem_cons_succ]
          refine Ends.take 2 (v := ?v2) rfl rfl (by kernel_rfl) (by kernel_rfl) (by kernel_rfl) (by kernel_rfl) (fun _ _ _ h => h) (Or.inl ⟨by rfl, ?y2⟩) (by assumption) ?r2
          case y2 => (intro w' hSw; (try dsimp only at hSw); go_simp; (try with_reducible rfl))
          try simp only [Act.put, List.setIfInBounds_toArray, List.set_cons_zero, List.set_cons_succ, List.getElem_toArray, List.getElem_cons_zero, List.getElem_cons_succ]
          refine Ends.take 3 (v := ?v3) rfl rfl (by kernel_rfl) (by kernel_rfl) (by kernel_rfl) (by kernel_rfl) (fun _ _ _ h => h) (Or.inl ⟨by rfl, ?y3⟩) (by assumption) ?r3
          case y3 => (intro w' hSw; (try dsimp only at hSw); go_simp; (try with_reducible rfl))
          try simp only [Act.put, List.setIfInBounds_toArray, List.set_cons_zero, List.set_cons_succ, List.getElem_toArray, List.getElem_cons_zero, List.getElem_cons_succ]
          refine Ends.take 4 (v := ?v4) rfl rfl (by kernel_rfl) (by kernel_rfl) (by kernel_rfl) (by kernel_rfl) (fun _ _ _ h => h) (Or.inl ⟨by rfl, ?y4⟩) (by assumption) ?r4
          case y4 => (intro w' hSw; (try dsimp only at hSw); go_simp; (try with_reducible rfl))
          try simp only [Act.put, List.setIfInBounds_toArray, List.set_cons_zero, List.set_cons_succ, List.getElem_toArray, List.getElem_cons_zero, List.getElem_cons_succ]
          refine Ends.take 5 (v := ?v5) rfl rfl (by kernel_rfl) (by kernel_rfl) (by kernel_rfl) (by kernel_rfl) (fun _ _ _ h => h) (Or.inl ⟨by rfl, ?y5⟩) (by assumption) ?r5
          case y5 => (intro w' hSw; (try dsimp only at hSw); go_simp; (try with_reducible rfl))
          try simp only [Act.put, List.setIfInBounds_toArray, List.set_cons_zero, List.set_cons_succ, List.getElem_toArray, List.getElem_cons_zero, List.getElem_cons_succ]
          refine Ends.take 6 (v := ?v6) rfl rfl (by kernel_rfl) (by kernel_rfl) (by kernel_rfl) (by kernel_rfl) (fun _ _ _ h => h) (Or.inl ⟨by rfl, ?y6⟩) (by assumption) ?r6
          case y6 => (intro w' hSw; (try dsimp only at hSw); go_simp; (try with_reducible rfl))
          try simp only [Act.put, List.setIfInBounds_toArray, List.set_cons_zero, List.set_cons_succ, List.getElem_toArray, List.getElem_cons_zero, List.getElem_cons_succ]
          refine Ends.take 7 (v := ?v7) rfl rfl (by kernel_rfl) (by kernel_rfl) (by kernel_rfl) (by kernel_rfl) (fun _ _ _ h => h) (Or.inl ⟨by rfl, ?y7⟩) (by assumption) ?r7
          case y7 => (intro w' hSw; (try dsimp only at hSw); go_simp; (try with_reducible rfl))
          try simp only [Act.put, List.setIfInBounds_toArray, List.set_cons_zero, List.set_cons_succ, List.getElem_toArray, List.getElem_cons_zero, List.getElem_cons_succ]
          refine Ends.take 8 (v := ?v8) rfl rfl (by kernel_rfl) (by kernel_rfl) (by kernel_rfl) (by kernel_rfl) (fun _ _ _ h => h) (Or.inl ⟨by rfl, ?y8⟩) (by assumption) ?r8
          case y8 => (intro w' hSw; (try dsimp only at hSw); go_simp; (try with_reducible rfl))
          try simp only [Act.put, List.setIfInBounds_toArray, List.set_cons_zero, List.set_cons_succ, List.getElem_toArray, List.getElem_cons_zero, List.getElem_cons_succ]
          refine Ends.one 9 (by kernel_rfl) rfl (fun K hK => ?s9)
          go_simp
          refine (blank_any n _ hn).mono ?_
          rintro e w1 ⟨⟨v, rfl, bo, bc, rfl⟩, hb1⟩
          have hbS : Below wr.heap.size wr w1 := (Below.refl _ _).drew.trans hb1
          go_wp2_with fail
          refine hK.out _ _ (fun _ => HS.out _ hbS) (fun _ => ?_)
          clear hK K hHeld
          have hHeld := HS.out _ hbS
          try simp only [Act.put, List.setIfInBounds_toArray, List.set_cons_zero, List.set_cons_succ, List.getElem_toArray, List.getElem_cons_zero, List.getElem_cons_succ]
          refine Ends.take 10 (v := ?v10) rfl rfl (by kernel_rfl) (by kernel_rfl) (by kernel_rfl) (by kernel_rfl) (fun _ _ _ h => h) (Or.inl ⟨by rfl, ?y10⟩) (by assumption) ?r10
          case y10 => (intro w' hSw; (try dsimp only at hSw); go_simp; (try with_reducible rfl))
          try simp only [Act.put, List.setIfInBounds_toArray, List.set_cons_zero, List.set_cons_succ, List.getElem_toArray, List.getElem_cons_zero, List.getElem_cons_succ]
          refine Ends.one 11 (by kernel_rfl) rfl (fun K hK => ?s11)
          go_simp
          have hs1 := hbS.size
          have hbA := hbS.alloc hs1 (.cells #[.int .i64 j, .bool false, .bool false, .int .i64 0, .int .i64 (full n), .int .i64 0, .slice bo n bc, .slice none 0 0, .bool false, .int .i64 0, .int .i64 0, .int .i64 0, .slice none 0 0, .int .i64 0, .int .i64 0, .slice none 0 0, .slice none 0 0, .slice none 0 0, .bool false, .int .i64 0, .slice none 0 0, .slice none 0 0] 131)
          refine hK.out _ _ (fun _ => HS.out _ hbA) (fun _ => ?_)
          clear hK K hHeld
          have hHeld := HS.out _ hbA
          try simp only [Act.put, List.setIfInBounds_toArray, List.set_cons_zero, List.set_cons_succ, List.getElem_toArray, List.getElem_cons_zero, List.getElem_cons_succ]
          refine Ends.one 12 (by kernel_rfl) rfl (fun K hK => ?s12)
          go_simp
          have hbB := hbA.alloc (by simp; omega) (.cells #[.pointer (some ⟨w1.heap.size, 0, none⟩)] 120)
          refine hK.out _ _ (fun _ => HS.out _ hbB) (fun _ => ?_)
          clear hK K hHeld
          have hHeld := HS.out _ hbB
          try simp only [Act.put, List.setIfInBounds_toArray, List.set_cons_zero, List.set_cons_succ, List.getElem_toArray, List.getElem_cons_zero, List.getElem_cons_succ]
          have hbB2 : Hid (Below wr.heap.size wr _) := hbB
          refine Ends.one 13 (by kernel_rfl) rfl (fun K hK => ?s13)
          refine step_append_lies _ (by rfl) _ _ _ (by rfl) (w.heap.size + 2) 120 i0 _ 1 8 Tryz.underlying116 hi hz0 hz1 hz2 rfl (by omega) (.slice ao j cap) j xs (by rfl) (ownsRow_later HOw.out hbB) ⟨w1.heap.size + 1, 0, none⟩ 1 1 [.pointer (some ⟨w1.heap.size, 0, none⟩)] (by rfl) (by rfl) (one_cell _ _ _ _ (BlkAt.new _ _ (by simp) _ _)) (one_one _ rfl) (by omega) (by unfold maxLen; omega) (by omega) (by simp; omega) (w1.heap.size + 2) (by simp) ?_
          intro gg cap2 w3 hown3 hgrow hat hlt3
          have kT : ∀ T, 120 ≠ T → KeepT T _ w3 := fun T hT => KeepT.grown (ownsRow_later HOw.out hbB) hT hgrow
          have HC3 := blk_keepT (HCd.out.below hbB HCd.out.lt) (kT 23 (by decide))
          have HG3 := blk_keepT (HGd.out.below hbB HGd.out.lt) (kT 119 (by decide))
          have hS3 : w3.cell? ⟨w.heap.size, 0, none⟩ = some (.int .i64 n) ∧ w3.cell? ⟨w.heap.size + 1, 3, none⟩ = some (.slice ao j cap) := ⟨HC3.cell 0 _ rfl, HG3.cell 3 _ rfl⟩
          refine hK.out _ _ (fun _ => hS3) (fun _ => ?_)
          clear hK K hHeld
          have hHeld := hS3
          have q1 := hS3.2
          have q2 := HG3.frozen 3
          try simp only [Act.put, List.setIfInBounds_toArray, List.set_cons_zero, List.set_cons_succ, List.getElem_toArray, List.getElem_cons_zero, List.getElem_cons_succ]
          have HF3 : Hid (BlkAt (w3.setCell ⟨w.heap.size + 1, 3, none⟩ (.slice (some ⟨gg, 0, none⟩) (j + 1) cap2)) (w.heap.size + 1) 119 #[.int .i64 n, .int .i64 b, .int .i64 c, .slice (some ⟨gg, 0, none⟩) (j + 1) cap2, .slice none 0 0]) := HG3.set 3 _
          have HB3 : Hid (Below w.heap.size w (w3.setCell ⟨w.heap.size + 1, 3, none⟩ (.slice (some ⟨gg, 0, none⟩) (j + 1) cap2))) := ((HBl.out.trans (hbB.mono HBl.out.size)).trans (grown_below hgrow (by simp; omega) (fun x hx => by have := ((ownsRow_later HOw.out hbB).lt x hx).1; omega))).trans (((Only.refl (w.heap.size + 1) w3).set 3 _).below (by omega))
          have HCf : Hid (BlkAt (w3.setCell ⟨w.heap.size + 1, 3, none⟩ (.slice (some ⟨gg, 0, none⟩) (j + 1) cap2)) w.heap.size 23 #[.int .i64 n, .int .i64 b, .int .i64 c]) := HC3.other (by omega) 3 _
          have HOf : Hid (World.ownsRow (w3.setCell ⟨w.heap.size + 1, 3, none⟩ (.slice (some ⟨gg, 0, none⟩) (j + 1) cap2)) (w.heap.size + 2) 120 1 (.slice (some ⟨gg, 0, none⟩) (j + 1) cap2) (j + 1) (xs ++ [.pointer (some ⟨w1.heap.size, 0, none⟩)])) := own_keepT hown3 (KeepT.set HG3 (by decide) 3 _)
          have HPf : Hid (∀ q, q < j + 1 → ∃ x, (xs ++ [Value.pointer (some ⟨w1.heap.size, 0, none⟩)])[q]? = some (.pointer (some ⟨x, 0, none⟩)) ∧ ProcY (w3.setCell ⟨w.heap.size + 1, 3, none⟩ (.slice (some ⟨gg, 0, none⟩) (j + 1) cap2)) w.heap.size (w3.setCell ⟨w.heap.size + 1, 3, none⟩ (.slice (some ⟨gg, 0, none⟩) (j + 1) cap2)).heap.size x q n) := fun q hq => by
            have hgs := hgrow.size
            simp at hgs
            rcases Nat.lt_or_ge q j with hqj | hqj
            · obtain ⟨x, hx1, hx2⟩ := HPs.out q hqj
              exact ⟨x, by rw [List.getElem?_append_left (by omega)]; exact hx1, hx2.keep (((KeepT.below hbB).trans (kT 131 (by decide))).trans (KeepT.set HG3 (by decide) 3 _)) (Nat.le_refl _) (by simp; omega)⟩
            · have hqe : q = j := by omega
              subst hqe
              refine ⟨w1.heap.size, by rw [List.getElem?_append_right (by omega), hxl]; simp, .slice bo n bc, ⟨by omega, by simp; omega⟩, ?_⟩
              exact blk_keepT (((BlkAt.new w1 w1.heap.size rfl 131 _).alloc _)) ((kT 131 (by decide)).trans (KeepT.set HG3 (by decide) 3 _))
          clear HC3 HG3 hS3 kT hown3 hgrow hat hlt3 HCd HGd HOw HPs HBl HS
          refine Ends.one 14 (by kernel_rfl) rfl (fun K hK => ?s14)
          go_simp
          refine hK.out _ _ (fun _ => hHeld) (fun _ => ?_)
          clear hK K
          try simp only [Act.put, List.setIfInBounds_toArray, List.set_cons_zero, List.set_cons_succ, List.getElem_toArray, List.getElem_cons_zero, List.getElem_cons_succ]
          refine Ends.take 15 (v := ?v15) rfl rfl (by kernel_rfl) (by kernel_rfl) (by kernel_rfl) (by kernel_rfl) (fun _ _ _ h => h) (Or.inl ⟨by rfl, ?y15⟩) (by assumption) ?r15
          case y15 => (intro w' hSw; (try dsimp only at hSw); go_simp; (try with_reducible rfl))
          try simp only [Act.put, List.setIfInBounds_toArray, List.set_cons_zero, List.set_cons_succ, List.getElem_toArray, List.getElem_cons_zero, List.getElem_cons_succ]
          refine Ends.one 16 (by kernel_rfl) rfl (fun K hK => ?s16)
          go_simp
          refine hK.out _ _ (fun h => absurd rfl h) (fun _ => ?_)
          clear hK K
          try simp only [Act.put, List.setIfInBounds_toArray, List.set_cons_zero, List.set_cons_succ, List.getElem_toArray, List.getElem_cons_zero, List.getElem_cons_succ]
          refine Ends.done (by kernel_rfl) ?_ _
          go_wp2_with fail
          go_roundw
          case rel => exact ⟨j + 1, by omega, by go_num, HCf.out, HB3.out, _, _, _, HF3.out, HOf.out, HPf.out⟩
          case measure => simp [intOf]; omega
        · have hjn : n = j := by omega
          subst hjn
          have hkn2 : ¬ (n : Int) < (n : Int) := by omega
          obtain ⟨pb, pc, hv, hpl, hph⟩ := World.ownsRow.form hown (by omega)
          injection hv with hv1 _ hv3
          subst hv1 hv3
          have HF : Hid (∃ g, g = w.heap.size + 1 ∧ GrpY wr w.heap.size wr.heap.size g n) := ⟨_, rfl, pb, cap, b, c, ⟨by omega, by omega⟩, ⟨by omega, hph⟩, HG, fun q hq => by
            obtain ⟨x, h1, h2⟩ := hps q hq
            exact ⟨x, (hown.cellAt q (by omega)).trans h1, h2⟩⟩
          have HBl : Hid (Below w.heap.size w wr) := hbel
          clear HG HC hown hps hbel
          go_wp2
          go_ret2
          obtain ⟨g', rfl, hx⟩ := HF.out
          exact ⟨_, rfl, hx, HBl.out⟩
end Go.Proofs.YtoklolfaemhfnaaGreatDoor
