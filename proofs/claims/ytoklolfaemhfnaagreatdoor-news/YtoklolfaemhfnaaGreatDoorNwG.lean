/-
  For the walk of the law News: New of the program's group.
-/
import Derived.Test.YtoklolfaemhfnaaGreatDoorNwF
namespace Go.Proofs.YtoklolfaemhfnaaGreatDoor
open Go.RowKit

theorem ProcX.wide {w : World} {lo hi lo' hi' b p n : Nat} (h : ProcX w lo hi b p n) (h1 : lo' ≤ lo) (h2 : hi ≤ hi') : ProcX w lo' hi' b p n := by
  obtain ⟨kb, mb, rb, win, a1, a2, a3, a4, rest⟩ := h
  exact ⟨kb, mb, rb, win, by omega, by omega, by omega, by omega, rest⟩

theorem infoPtr : (Tryz.prog.info? 102).map (fun i => (i.zero, i.size, i.bytes)) = some (some (.pointer none), 1, 8) := by kernel_rfl
/-- make of a list of n nil pointers. -/
theorem mk_ptrs (n : Nat) (hn : n ≤ 6) (u : World) : (Instr.makeSlice 93 (.int .i64 n) (.int .i64 n)).run Tryz.prog u = .ok (.slice (some ⟨u.heap.size, 0, none⟩) n n) (u.alloc (.cells (Array.replicate n (Value.pointer none)) 102)) := by
  obtain ⟨i0, hi, hz0, hz1, hz2⟩ := info_parts infoPtr
  have h := run_make (P := Tryz.prog) u 93 102 i0 (.pointer none) Tryz.underlying93 hi hz0 .i64 .i64 (n : Int) (n : Int) (by omega) (Int.le_refl _) (by rw [hz2]; omega) (by omega)
  rw [Int.toNat_natCast] at h
  have e2 : madeCells (Value.pointer none).cells (n * i0.size) = (Array.replicate n (Value.pointer none)) := by
    rw [hz1, Nat.mul_one]
    apply Array.ext'
    rw [show (Value.pointer none).cells = #[Value.pointer none] from rfl, toList_madeCells_one]
    simp
  rw [e2] at h
  exact h

theorem four (w : World) (o0 o1 o2 o3 : Obj) : ((((w.alloc o0).alloc o1).alloc o2).alloc o3).heap[w.heap.size]? = some o0 ∧ ((((w.alloc o0).alloc o1).alloc o2).alloc o3).heap[w.heap.size + 1]? = some o1 ∧ ((((w.alloc o0).alloc o1).alloc o2).alloc o3).heap[w.heap.size + 1 + 1]? = some o2 ∧ ((((w.alloc o0).alloc o1).alloc o2).alloc o3).heap[w.heap.size + 1 + 1 + 1]? = some o3 ∧ Below w.heap.size w ((((w.alloc o0).alloc o1).alloc o2).alloc o3) := by
  obtain ⟨h1, h2, h3, h4⟩ := three (w.alloc o0) o1 o2 o3
  have s0 : (w.alloc o0).heap.size = w.heap.size + 1 := by simp
  rw [s0] at h1 h2 h3 h4
  exact ⟨(h4.block _ (by omega)).trans (heap_alloc_new w o0), h1, h2, h3, ((Below.refl _ _).alloc (Nat.le_refl _) o0).trans (h4.mono (by omega))⟩

/-- The bounds of P6. -/
def okC (a b c : Int) : Prop := 1 ≤ a ∧ a ≤ 6 ∧ 1 ≤ b ∧ b ≤ 8 ∧ 1 ≤ c ∧ c ≤ 4000

set_option maxHeartbeats 1600000 in
theorem newX_no (a b c : Int) (w : World) (h : ¬ okC a b c) : Calls Tryz.prog 38 #[.agg #[.int .i64 a, .int .i64 b, .int .i64 c]] w fun e w' => e = .returned (.tuple #[.pointer none, .int .i64 1]) ∧ Below w.heap.size w w' := by
  have H : Hid (¬ okC a b c) := h
  clear h
  by_cases h1 : a < 1
  · go_enter Tryz.func38, Tryz.ntmps38
    go_wp2
    go_ret2
    exact ⟨rfl, (Below.refl _ _).alloc (Nat.le_refl _) _⟩
  · by_cases h2 : 6 < a
    · go_enter Tryz.func38, Tryz.ntmps38
      go_wp2
      go_ret2
      exact ⟨rfl, (Below.refl _ _).alloc (Nat.le_refl _) _⟩
    · by_cases h3 : b < 1
      · go_enter Tryz.func38, Tryz.ntmps38
        go_wp2
        go_ret2
        exact ⟨rfl, (Below.refl _ _).alloc (Nat.le_refl _) _⟩
      · by_cases h4 : 8 < b
        · go_enter Tryz.func38, Tryz.ntmps38
          go_wp2
          go_ret2
          exact ⟨rfl, (Below.refl _ _).alloc (Nat.le_refl _) _⟩
        · by_cases h5 : c < 1
          · go_enter Tryz.func38, Tryz.ntmps38
            go_wp2
            go_ret2
            exact ⟨rfl, (Below.refl _ _).alloc (Nat.le_refl _) _⟩
          · by_cases h6 : 4000 < c
            · go_enter Tryz.func38, Tryz.ntmps38
              go_wp2
              go_ret2
              exact ⟨rfl, (Below.refl _ _).alloc (Nat.le_refl _) _⟩
            · exact absurd ⟨by omega, by omega, by omega, by omega, by omega, by omega⟩ H.out

set_option maxHeartbeats 1600000 in
theorem newX_yes (n : Nat) (b c : Int) (w : World) (h : okC n b c) : Calls Tryz.prog 38 #[.agg #[.int .i64 n, .int .i64 b, .int .i64 c]] w fun e w' => ∃ g, e = .returned (.tuple #[.pointer (some ⟨g, 0, none⟩), .int .i64 0]) ∧ GrpX w' w.heap.size w'.heap.size g n ∧ Below w.heap.size w w' := by
  obtain ⟨h1, h2, h3, h4, h5, h6⟩ := h
  have hn : n ≤ 6 := by omega
  have k1 : ¬ (n : Int) < 1 := by omega
  have k2 : ¬ (6 : Int) < n := by omega
  have k3 : ¬ b < 1 := by omega
  have k4 : ¬ 8 < b := by omega
  have k5 : ¬ c < 1 := by omega
  have k6 : ¬ 4000 < c := by omega
  have hmk := mk_ptrs n hn
  clear h1 h2 h3 h4 h5 h6
  go_enter Tryz.func38, Tryz.ntmps38
  go_upto_region 3 with fail
  go_cut [4] (fun s wx => ∃ g ps, s = .pointer (some ⟨g, 0, none⟩) ∧ w.heap.size ≤ g ∧ w.heap.size ≤ ps ∧ BlkAt wx g 97 #[.slice (some ⟨ps, 0, none⟩) n n, .int .i64 c, .slice none 0 0] ∧ BlkAt wx ps 102 (Array.replicate n (Value.pointer none)) ∧ BlkAt wx w.heap.size 23 #[.int .i64 n, .int .i64 b, .int .i64 c] ∧ Below w.heap.size w wx)
  case first =>
    go_region_held3 (fun w' => w'.cell? ⟨w.heap.size, 0, none⟩ = some (.int .i64 n) ∧ w'.cell? ⟨w.heap.size, 2, none⟩ = some (.int .i64 c)) (simp [go_sem, World.cell?_alloc_past]) (first | (go_at_call 68; refine (netNew_any c _).mono ?_; rintro e w' ⟨rfl, rfl⟩))
    all_goals (go_wp2_with fail; go_meet)
    all_goals first
      | (obtain ⟨t0, t1, t2, t3, t4⟩ := four w (.cells #[.int .i64 n, .int .i64 b, .int .i64 c] 23) (.cells #[.int .i64 c, .slice none 0 0] 95) (.cells (Array.replicate n (Value.pointer none)) 102) (.cells #[.slice (some ⟨w.heap.size + 1 + 1, 0, none⟩) n n, .int .i64 c, .slice none 0 0] 97)
         exact ⟨w.heap.size + 1 + 1 + 1, w.heap.size + 1 + 1, rfl, by omega, by omega, t3, t2, t0, t4.drew⟩)
      | (obtain ⟨t0, t1, t2, t3, t4⟩ := four w (.cells #[.int .i64 n, .int .i64 b, .int .i64 c] 23) (.cells (Array.replicate n (Value.pointer none)) 102) (.cells #[.int .i64 c, .slice none 0 0] 95) (.cells #[.slice (some ⟨w.heap.size + 1, 0, none⟩) n n, .int .i64 c, .slice none 0 0] 97)
         exact ⟨w.heap.size + 1 + 1 + 1, w.heap.size + 1, rfl, by omega, by omega, t3, t1, t0, t4.drew⟩)
  case rest =>
    obtain ⟨g, ps, rfl, hg1, hp1, HG, HP, HC, hbel⟩ := hcut
    have c0 := HG.cell 0 _ rfl
    simp only [List.getElem_toArray, List.getElem_cons_zero] at c0
    obtain ⟨L, hL⟩ : ∃ L, L = wc.heap.size := ⟨_, rfl⟩
    have hgl : g < L := by rw [hL]; exact HG.lt
    have hpl : ps < L := by rw [hL]; exact HP.lt
    have hcl : w.heap.size < L := by rw [hL]; exact HC.lt
    have hne1 : g ≠ ps := blk_apart HG HP (by decide)
    have hne2 : w.heap.size ≠ ps := blk_apart HC HP (by decide)
    go_wp2_with fail
    go_loopw [47] (fun i wr => ∃ k : Nat, k ≤ n ∧ i = .int .i64 k ∧ L ≤ wr.heap.size ∧ BlkAt wr g 97 #[.slice (some ⟨ps, 0, none⟩) n n, .int .i64 c, .slice none 0 0] ∧ BlkAt wr w.heap.size 23 #[.int .i64 n, .int .i64 b, .int .i64 c] ∧ Below w.heap.size w wr ∧
      ∃ cs : Array Value, BlkAt wr ps 102 cs ∧ cs.size = n ∧ ∀ q, q < k → ∃ x, cs[q]? = some (.pointer (some ⟨x, 0, none⟩)) ∧ ProcX wr L wr.heap.size x q n) (fun i _ => n - (intOf i).toNat)
    case atStart => exact ⟨0, by omega, rfl, by omega, HG, HC, hbel, _, HP, by simp, fun q hq => absurd hq (Nat.not_lt_zero _)⟩
    case round =>
      clear HG HP HC hbel c0
      obtain ⟨k, hk, rfl, hLs, HG, HC, hbel, cs, HP, hcs, hrows⟩ := hrel
      by_cases hlt : k < n
      · have hk0 : (0 : Int) ≤ (k : Int) := Int.natCast_nonneg _
        have hk1' : (k : Int) < (n : Int) := by omega
        have HGd : Hid (BlkAt wr g 97 _) := HG
        have HCd : Hid (BlkAt wr w.heap.size 23 _) := HC
        have HPd : Hid (BlkAt wr ps 102 cs) := HP
        have HBl : Hid (Below w.heap.size w wr) := hbel
        have HRd : Hid (∀ q, q < k → ∃ x, cs[q]? = some (.pointer (some ⟨x, 0, none⟩)) ∧ ProcX wr L wr.heap.size x q n) := hrows
        have HS : Hid (∀ w', Below L wr w' → w'.cell? ⟨g, 0, none⟩ = some (.slice (some ⟨ps, 0, none⟩) n n) ∧ w'.cell? ⟨w.heap.size, 0, none⟩ = some (.int .i64 n) ∧ w'.cell? ⟨w.heap.size, 1, none⟩ = some (.int .i64 b)) := fun w' hw => ⟨(HG.below hw hgl).cell 0 _ rfl, (HC.below hw hcl).cell 0 _ rfl, (HC.below hw hcl).cell 1 _ rfl⟩
        clear HG HC HP hbel hrows
        go_upto_region 7 with fail
        refine Ends.begin (fun w' => w'.cell? ⟨g, 0, none⟩ = some (.slice (some ⟨ps, 0, none⟩) n n) ∧ w'.cell? ⟨w.heap.size, 0, none⟩ = some (.int .i64 n) ∧ w'.cell? ⟨w.heap.size, 1, none⟩ = some (.int .i64 b)) 12 (by kernel_rfl) (HS.out _ (Below.refl _ _).drew) (fun hHeld => ?_)
        refine Ends.take 0 (v := ?v0) rfl rfl (by kernel_rfl) (by kernel_rfl) (by kernel_rfl) (by kernel_rfl) (fun _ _ _ h => h) (Or.inl ⟨by rfl, ?y0⟩) (by assumption) ?r0
        case y0 => (intro w' hSw; (try dsimp only at hSw); go_simp; (try with_reducible rfl))
        try simp only [Act.put, List.setIfInBounds_toArray, List.set_cons_zero, List.set_cons_succ, List.getElem_toArray, List.getElem_cons_zero]
        refine Ends.take 1 (v := ?v1) rfl rfl (by kernel_rfl) (by kernel_rfl) (by kernel_rfl) (by kernel_rfl) (fun _ _ _ h => h) (Or.inl ⟨by rfl, ?y1⟩) (by assumption) ?r1
        case y1 => (intro w' hSw; (try dsimp only at hSw); go_simp; (try with_reducible rfl))
        try simp only [Act.put, List.setIfInBounds_toArray, List.set_cons_zero, List.set_cons_succ, List.getElem_toArray, List.getElem_cons_zero, List.getElem_cons_succ]
        refine Ends.take 2 (v := ?v2) rfl rfl (by kernel_rfl) (by kernel_rfl) (by kernel_rfl) (by kernel_rfl) (fun _ _ _ h => h) (Or.inl ⟨by rfl, ?y2⟩) (by assumption) ?r2
        case y2 => (intro w' hSw; (try dsimp only at hSw); go_simp; (try with_reducible rfl))
        try simp only [Act.put, List.setIfInBounds_toArray, List.set_cons_zero, List.set_cons_succ, List.getElem_toArray, List.getElem_cons_zero, List.getElem_cons_succ]
        refine Ends.take 3 (v := ?v3) rfl rfl (by kernel_rfl) (by kernel_rfl) (by kernel_rfl) (by kernel_rfl) (fun _ _ _ h => h) (Or.inl ⟨by rfl, ?y3⟩) (by assumption) ?r3
        case y3 => (intro w' hSw; (try dsimp only at hSw); go_simp; (try with_reducible rfl))
        try simp only [Act.put, List.setIfInBounds_toArray, List.set_cons_zero, List.set_cons_succ, List.getElem_toArray, List.getElem_cons_zero, List.getElem_cons_succ]
        refine Ends.take 4 (v := ?v4) rfl rfl (by kernel_rfl) (by kernel_rfl) (by kernel_rfl) (by kernel_rfl) (fun _ _ _ h => h) (Or.inl ⟨by rfl, ?y4⟩) (by assumption) ?r4
        case y4 => (intro w' hSw; (try dsimp only at hSw); go_simp; (try with_reducible rfl))
        try simp only [Act.put, List.setIfInBounds_toArray, List.set_cons_zero, List.set_cons_succ, List.getElem_toArray, List.getElem_cons_zero, List.getElem_cons_succ]
        refine Ends.take 5 (v := ?v5) rfl rfl (by kernel_rfl) (by kernel_rfl) (by kernel_rfl) (by kernel_rfl) (fun _ _ _ h => h) (Or.inl ⟨by rfl, ?y5⟩) (by assumption) ?r5
        case y5 => (intro w' hSw; (try dsimp only at hSw); go_simp; (try with_reducible rfl))
        try simp only [Act.put, List.setIfInBounds_toArray, List.set_cons_zero, List.set_cons_succ, List.getElem_toArray, List.getElem_cons_zero, List.getElem_cons_succ]
        refine Ends.take 6 (v := ?v6) rfl rfl (by kernel_rfl) (by kernel_rfl) (by kernel_rfl) (by kernel_rfl) (fun _ _ _ h => h) (Or.inl ⟨by rfl, ?y6⟩) (by assumption) ?r6
        case y6 => (intro w' hSw; (try dsimp only at hSw); go_simp; (try with_reducible rfl))
        try simp only [Act.put, List.setIfInBounds_toArray, List.set_cons_zero, List.set_cons_succ, List.getElem_toArray, List.getElem_cons_zero, List.getElem_cons_succ]
        refine Ends.take 7 (v := ?v7) rfl rfl (by kernel_rfl) (by kernel_rfl) (by kernel_rfl) (by kernel_rfl) (fun _ _ _ h => h) (Or.inl ⟨by rfl, ?y7⟩) (by assumption) ?r7
        case y7 => (intro w' hSw; (try dsimp only at hSw); go_simp; (try with_reducible rfl))
        try simp only [Act.put, List.setIfInBounds_toArray, List.set_cons_zero, List.set_cons_succ, List.getElem_toArray, List.getElem_cons_zero, List.getElem_cons_succ]
        refine Ends.take 8 (v := ?v8) rfl rfl (by kernel_rfl) (by kernel_rfl) (by kernel_rfl) (by kernel_rfl) (fun _ _ _ h => h) (Or.inl ⟨by rfl, ?y8⟩) (by assumption) ?r8
        case y8 => (intro w' hSw; (try dsimp only at hSw); go_simp; (try with_reducible rfl))
        try simp only [Act.put, List.setIfInBounds_toArray, List.set_cons_zero, List.set_cons_succ, List.getElem_toArray, List.getElem_cons_zero, List.getElem_cons_succ]
        refine Ends.take 9 (v := ?v9) rfl rfl (by kernel_rfl) (by kernel_rfl) (by kernel_rfl) (by kernel_rfl) (fun _ _ _ h => h) (Or.inl ⟨by rfl, ?y9⟩) (by assumption) ?r9
        case y9 => (intro w' hSw; (try dsimp only at hSw); go_simp; (try with_reducible rfl))
        try simp only [Act.put, List.setIfInBounds_toArray, List.set_cons_zero, List.set_cons_succ, List.getElem_toArray, List.getElem_cons_zero, List.getElem_cons_succ]
        refine Ends.one 10 (by kernel_rfl) rfl (fun K hK => ?s10)
        go_simp
        refine (procNew_any k n b _ hlt hn).mono ?_
        rintro e w1 ⟨x, rfl, hx, hb1⟩
        have hbS : Below wr.heap.size wr w1 := (Below.refl _ _).drew.trans hb1
        go_wp2_with fail
        refine hK.out _ _ (fun _ => HS.out _ (hbS.mono hLs)) (fun _ => ?_)
        clear hK K hHeld
        have hHeld := HS.out _ (hbS.mono hLs)
        try simp only [Act.put, List.setIfInBounds_toArray, List.set_cons_zero, List.set_cons_succ, List.getElem_toArray, List.getElem_cons_zero, List.getElem_cons_succ]
        obtain ⟨u, hu⟩ : ∃ u, cs[k]? = some u := ⟨_, Array.getElem?_eq_getElem (show k < cs.size by omega)⟩
        have HP1 := HPd.out.below hbS (by omega)
        have q1 := HP1.cell k u hu
        have q2 := HP1.frozen k
        have HP1d : Hid (BlkAt w1 ps 102 cs) := HP1
        clear HP1 hu
        refine Ends.take 11 (v := ?v11) rfl rfl (by kernel_rfl) (by kernel_rfl) (by kernel_rfl) (by kernel_rfl) (fun _ _ _ h => h) (Or.inl ⟨by rfl, ?y11⟩) (by assumption) ?r11
        case y11 => (intro w' hSw; (try dsimp only at hSw); go_simp; (try with_reducible rfl))
        try simp only [Act.put, List.setIfInBounds_toArray, List.set_cons_zero, List.set_cons_succ, List.getElem_toArray, List.getElem_cons_zero, List.getElem_cons_succ]
        refine Ends.one 12 (by kernel_rfl) rfl (fun K hK => ?s12)
        go_simp
        refine hK.out _ _ (fun h => absurd rfl h) (fun _ => ?_)
        clear hK K
        try simp only [Act.put, List.setIfInBounds_toArray, List.set_cons_zero, List.set_cons_succ, List.getElem_toArray, List.getElem_cons_zero, List.getElem_cons_succ]
        refine Ends.done (by kernel_rfl) ?_ _
        go_wp2_with fail
        go_roundw
        case rel =>
          have hsz := hbS.size
          have hOn := (Only.refl ps w1).set k (Value.pointer (some ⟨x, 0, none⟩))
          refine ⟨k + 1, by omega, by go_num, ?_, ?_, ?_, ?_, cs.setIfInBounds k _, HP1d.out.set k _, by simpa using hcs, fun q hq => ?_⟩
          · rw [hOn.size]; omega
          · exact (HGd.out.below hbS (by omega)).other hne1 _ _
          · exact (HCd.out.below hbS (by omega)).other hne2 _ _
          · exact (HBl.out.trans (hbS.mono HBl.out.size)).trans (hOn.below hp1)
          · rw [hOn.size]
            rcases Nat.lt_or_ge q k with hqk | hqk
            · obtain ⟨y, h1, h2⟩ := HRd.out q hqk
              have h3 := ((h2.span (Span.of_below hbS (Nat.le_refl _))).wide (Nat.le_refl _) hsz).span (Span.setCell w1 (.inl hpl) k (Value.pointer (some ⟨x, 0, none⟩)))
              exact ⟨y, by rw [Array.getElem?_setIfInBounds_ne (by omega)]; exact h1, h3⟩
            · have hqe : q = k := by omega
              subst hqe
              exact ⟨x, by rw [Array.getElem?_setIfInBounds_self_of_lt (by omega)], (hx.wide (by simpa using hLs) (Nat.le_refl _)).span (Span.setCell w1 (.inl hpl) q _)⟩
        case measure => simp [intOf]; omega
      · have hkn : k = n := by omega
        have hkn1 : ¬ (k : Int) < (n : Int) := by omega
        have HF : Hid (∃ g', g' = g ∧ GrpX wr w.heap.size wr.heap.size g' n) := ⟨g, rfl, ps, c, ⟨hg1, by omega⟩, ⟨hp1, by omega⟩, HG, fun q hq => by
          obtain ⟨x, h1, h2⟩ := hrows q (by omega)
          exact ⟨x, HP.cell q _ h1, h2.wide (by omega) (Nat.le_refl _)⟩⟩
        have HBl : Hid (Below w.heap.size w wr) := hbel
        clear HG HC HP hrows hbel
        go_wp2
        go_ret2
        obtain ⟨g', rfl, hx⟩ := HF.out
        exact ⟨g', rfl, hx, HBl.out⟩
end Go.Proofs.YtoklolfaemhfnaaGreatDoor
