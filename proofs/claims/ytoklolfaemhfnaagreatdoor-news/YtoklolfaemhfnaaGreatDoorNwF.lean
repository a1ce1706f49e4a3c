/-
  For the walk of the law News: New of the program's network, process and group.
-/
import Derived.Test.YtoklolfaemhfnaaGreatDoorNwD
import Derived.WideMake
namespace Go.Proofs.YtoklolfaemhfnaaGreatDoor
open Go.RowKit

set_option maxHeartbeats 400000 in
theorem netNew_any (fl : Int) (w : World) : Calls Tryz.prog 68 #[.int .i64 fl] w fun e w' => e = .returned (.agg #[.int .i64 fl, .slice none 0 0]) ∧ w' = w.alloc (.cells #[.int .i64 fl, .slice none 0 0] 95) := by
  have hPr := BlkAt.new w w.heap.size rfl 95 #[.int .i64 fl, .slice none 0 0]
  have p0 := hPr.cell 0 _ rfl
  have p1 := hPr.cell 1 _ rfl
  simp only [List.getElem_toArray, List.getElem_cons_zero, List.getElem_cons_succ] at p0 p1
  clear hPr
  go_enter Tryz.func68, Tryz.ntmps68
  go_wp2_with fail
  exact bodyPost_ret (v := .agg #[.int .i64 fl, .slice none 0 0]) (by simp [results, Tryz.results68, go_sem, p0, p1]) rfl ⟨rfl, rfl⟩

theorem infoInts : (Tryz.prog.info? 69).map (fun i => (i.zero, i.size, i.bytes)) = some (some (.slice none 0 0), 1, 24) := by kernel_rfl

/-- make of a list of n noughts. -/
theorem mk_ints (n : Nat) (hn : n ≤ 6) (u : World) : (Instr.makeSlice 69 (.int .i64 n) (.int .i64 n)).run Tryz.prog u = .ok (.slice (some ⟨u.heap.size, 0, none⟩) n n) (u.alloc (.cells (ints (List.replicate n 0)).toArray 3)) := by
  obtain ⟨i0, hi, hz0, hz1, hz2⟩ := info_parts infoInt
  have h := run_make (P := Tryz.prog) u 69 3 i0 (.int .i64 0) Tryz.underlying69 hi hz0 .i64 .i64 (n : Int) (n : Int) (by omega) (Int.le_refl _) (by rw [hz2]; omega) (by omega)
  rw [Int.toNat_natCast] at h
  have e2 : madeCells (Value.int .i64 0).cells (n * i0.size) = (ints (List.replicate n 0)).toArray := by
    rw [hz1, Nat.mul_one]
    apply Array.ext'
    rw [show (Value.int .i64 0).cells = #[Value.int .i64 0] from rfl, toList_madeCells_one]
    simp [ints]
  rw [e2] at h
  exact h
/-- make of a list of n empty lists. -/
theorem mk_intss (n : Nat) (hn : n ≤ 6) (u : World) : (Instr.makeSlice 121 (.int .i64 n) (.int .i64 n)).run Tryz.prog u = .ok (.slice (some ⟨u.heap.size, 0, none⟩) n n) (u.alloc (.cells (Array.replicate n (Value.slice none 0 0)) 69)) := by
  obtain ⟨i0, hi, hz0, hz1, hz2⟩ := info_parts infoInts
  have h := run_make (P := Tryz.prog) u 121 69 i0 (.slice none 0 0) Tryz.underlying121 hi hz0 .i64 .i64 (n : Int) (n : Int) (by omega) (Int.le_refl _) (by rw [hz2]; omega) (by omega)
  rw [Int.toNat_natCast] at h
  have e2 : madeCells (Value.slice none 0 0).cells (n * i0.size) = (Array.replicate n (Value.slice none 0 0)) := by
    rw [hz1, Nat.mul_one]
    apply Array.ext'
    rw [show (Value.slice none 0 0).cells = #[Value.slice none 0 0] from rfl, toList_madeCells_one]
    simp
  rw [e2] at h
  exact h

set_option maxHeartbeats 1600000 in
theorem procNew_any (p n : Nat) (win : Int) (w : World) (hp : p < n) (hn : n ≤ 6) : Calls Tryz.prog 69 #[.int .i64 p, .int .i64 n, .int .i64 win] w fun e w' => ∃ b, e = .returned (.pointer (some ⟨b, 0, none⟩)) ∧ ProcX w' w.heap.size w'.heap.size b p n ∧ Below w.heap.size w w' := by
  have hmk := mk_intss n hn
  have hmm := fun u : World => run_makeMap_plain (P := Tryz.prog) u 156
  obtain ⟨i0, hi, hz0, hz1, hz2⟩ := info_parts infoInts
  go_enter Tryz.func69, Tryz.ntmps69
  go_upto_region 1 with fail
  go_cut [7] (fun s wx => ∃ b kb mb, s = .pointer (some ⟨b, 0, none⟩) ∧ w.heap.size ≤ b ∧ w.heap.size ≤ kb ∧ w.heap.size ≤ mb ∧ BlkAt wx b 159 #[.int .i64 p, .int .i64 n, .int .i64 win, .bool false, .bool false, .bool false, .int .i64 0, .int .i64 (full n), .int .i64 0, .int .i64 0, .int .i64 0, .int .i64 0, .slice none 0 0, .pointer none,
      .slice (some ⟨kb, 0, none⟩) n n, .map (some mb), .slice none 0 0, .slice none 0 0, .slice none 0 0] ∧ wx.heap[mb]? = some (.map #[] 0) ∧ BlkAt wx kb 69 (Array.replicate n (Value.slice none 0 0)) ∧ Below w.heap.size w wx)
  case first =>
    go_region_held3 (fun _ => True) (trivial) (first | (go_at_call 108; refine (everyone_any n _ hn).mono ?_; rintro e w' ⟨rfl, rfl⟩))
    all_goals (go_wp2_with fail; go_meet)
    all_goals first
      | (obtain ⟨t1, t2, t3, t4⟩ := three w (.map #[] 0) (.cells (Array.replicate n (Value.slice none 0 0)) 69) (.cells #[.int .i64 p, .int .i64 n, .int .i64 win, .bool false, .bool false, .bool false, .int .i64 0, .int .i64 (full n), .int .i64 0, .int .i64 0, .int .i64 0, .int .i64 0, .slice none 0 0, .pointer none, .slice (some ⟨w.heap.size + 1, 0, none⟩) n n, .map (some w.heap.size), .slice none 0 0, .slice none 0 0, .slice none 0 0] 159)
         exact ⟨w.heap.size + 1 + 1, w.heap.size + 1, w.heap.size, rfl, by omega, by omega, by omega, t3, t1, t2, t4.drew⟩)
      | (obtain ⟨t1, t2, t3, t4⟩ := three w (.cells (Array.replicate n (Value.slice none 0 0)) 69) (.map #[] 0) (.cells #[.int .i64 p, .int .i64 n, .int .i64 win, .bool false, .bool false, .bool false, .int .i64 0, .int .i64 (full n), .int .i64 0, .int .i64 0, .int .i64 0, .int .i64 0, .slice none 0 0, .pointer none, .slice (some ⟨w.heap.size, 0, none⟩) n n, .map (some (w.heap.size + 1)), .slice none 0 0, .slice none 0 0, .slice none 0 0] 159)
         exact ⟨w.heap.size + 1 + 1, w.heap.size, w.heap.size + 1, rfl, by omega, by omega, by omega, t3, t2, t1, t4.drew⟩)
  case rest =>
    obtain ⟨b, kb, mb, rfl, hb1, hk1, hm1, HB, HM, HK, hbel⟩ := hcut
    have c14 := HB.cell 14 _ rfl
    simp only [List.getElem_toArray, List.getElem_cons_zero, List.getElem_cons_succ] at c14
    go_wp2
    go_loopw [24] (fun i wr => ∃ k : Nat, k ≤ n ∧ i = .int .i64 k ∧ BlkAt wr b 159 #[.int .i64 p, .int .i64 n, .int .i64 win, .bool false, .bool false, .bool false, .int .i64 0, .int .i64 (full n), .int .i64 0, .int .i64 0, .int .i64 0, .int .i64 0, .slice none 0 0, .pointer none, .slice (some ⟨kb, 0, none⟩) n n, .map (some mb), .slice none 0 0, .slice none 0 0, .slice none 0 0] ∧ wr.heap[mb]? = some (.map #[] 0) ∧ Below w.heap.size w wr ∧
      ∃ cs : Array Value, BlkAt wr kb 69 cs ∧ cs.size = n ∧ ∀ q, q < k → ∃ rb, cs[q]? = some (.slice (some ⟨rb, 0, none⟩) n n) ∧ w.heap.size ≤ rb ∧ BlkAt wr rb 3 (ints (List.replicate n 0)).toArray) (fun i _ => n - (intOf i).toNat)
    case atStart => exact ⟨0, by omega, rfl, HB, HM, hbel, _, HK, by simp, fun q hq => absurd hq (Nat.not_lt_zero _)⟩
    case round =>
      clear HB HM HK hbel c14
      obtain ⟨k, hk, rfl, HB, HM, hbel, cs, HK, hcs, hrows⟩ := hrel
      have c14 := HB.cell 14 _ rfl
      simp only [List.getElem_toArray, List.getElem_cons_zero, List.getElem_cons_succ] at c14
      by_cases hlt : k < n
      · have hk0 : (0 : Int) ≤ (k : Int) := Int.natCast_nonneg _
        have hk1' : (k : Int) < (n : Int) := by omega
        have hm2 := mk_ints n hn
        obtain ⟨u, hu⟩ : ∃ u, cs[k]? = some u := ⟨_, Array.getElem?_eq_getElem (show k < cs.size by omega)⟩
        have HB2 := HB.alloc (.cells (ints (List.replicate n 0)).toArray 3)
        have HK2 := HK.alloc (.cells (ints (List.replicate n 0)).toArray 3)
        have q1 := HK2.cell k u hu
        have q2 := HK2.frozen k
        have HBd : Hid (BlkAt wr b 159 _) := HB
        have HB2d : Hid (BlkAt _ b 159 _) := HB2
        have HK2d : Hid (BlkAt _ kb 69 _) := HK2
        have HMd : Hid (wr.heap[mb]? = some (.map #[] 0)) := HM
        have HRd : Hid (∀ q, q < k → ∃ rb, cs[q]? = some (.slice (some ⟨rb, 0, none⟩) n n) ∧ w.heap.size ≤ rb ∧ BlkAt wr rb 3 (ints (List.replicate n 0)).toArray) := hrows
        clear HB HK HB2 HK2 HM hrows hu
        go_upto_region 5 with fail
        refine Ends.begin (fun w' => w'.cell? ⟨b, 14, none⟩ = some (.slice (some ⟨kb, 0, none⟩) n n)) 8 (by kernel_rfl) (HBd.out.drew.cell 14 _ rfl) (fun hHeld => ?_)
        refine Ends.take 0 (v := ?v0) rfl rfl (by kernel_rfl) (by kernel_rfl) (by kernel_rfl) (by kernel_rfl) (fun _ _ _ h => h) (Or.inl ⟨by rfl, ?y0⟩) (by assumption) ?r0
        case y0 => (intro w' hSw; (try dsimp only at hSw); go_simp; (try with_reducible rfl))
        try simp only [Act.put, List.setIfInBounds_toArray, List.set_cons_zero, List.set_cons_succ, List.getElem_toArray, List.getElem_cons_zero]
        refine Ends.take 1 (v := ?v1) rfl rfl (by kernel_rfl) (by kernel_rfl) (by kernel_rfl) (by kernel_rfl) (fun _ _ _ h => h) (Or.inl ⟨by rfl, ?y1⟩) (by assumption) ?r1
        case y1 => (intro w' hSw; (try dsimp only at hSw); go_simp; (try with_reducible rfl))
        try simp only [Act.put, List.setIfInBounds_toArray, List.set_cons_zero, List.set_cons_succ, List.getElem_toArray, List.getElem_cons_zero, List.getElem_cons_succ]
        refine Ends.take 2 (v := ?v2) rfl rfl (by kernel_rfl) (by kernel_rfl) (by kernel_rfl) (by kernel_rfl) (fun _ _ _ h => h) (Or.inl ⟨by rfl, ?y2⟩) (by assumption) ?r2
        case y2 => (intro w' hSw; (try dsimp only at hSw); go_simp; (try with_reducible rfl))
        try simp only [Act.put, List.setIfInBounds_toArray, List.set_cons_zero, List.set_cons_succ, List.getElem_toArray, List.getElem_cons_zero, List.getElem_cons_succ]
        refine Ends.take 3 (v := ?v3) rfl rfl (by kernel_rfl) (by kernel_rfl) (by kernel_rfl) (by kernel_rfl) (fun _ _ _ h => h) (Or.inl ⟨by rfl, ?y3⟩) (by assumption) ?r3
        case y3 => (intro w' hSw; (try dsimp only at hSw); go_simp; (try with_reducible rfl))
        try simp only [Act.put, List.setIfInBounds_toArray, List.set_cons_zero, List.set_cons_succ, List.getElem_toArray, List.getElem_cons_zero, List.getElem_cons_succ]
        refine Ends.take 4 (v := ?v4) rfl rfl (by kernel_rfl) (by kernel_rfl) (by kernel_rfl) (by kernel_rfl) (fun _ _ _ h => h) (Or.inl ⟨by rfl, ?y4⟩) (by assumption) ?r4
        case y4 => (intro w' hSw; (try dsimp only at hSw); go_simp; (try with_reducible rfl))
        try simp only [Act.put, List.setIfInBounds_toArray, List.set_cons_zero, List.set_cons_succ, List.getElem_toArray, List.getElem_cons_zero, List.getElem_cons_succ]
        refine Ends.take 5 (v := ?v5) rfl rfl (by kernel_rfl) (by kernel_rfl) (by kernel_rfl) (by kernel_rfl) (fun _ _ _ h => h) (Or.inl ⟨by rfl, ?y5⟩) (by assumption) ?r5
        case y5 => (intro w' hSw; (try dsimp only at hSw); go_simp; (try with_reducible rfl))
        try simp only [Act.put, List.setIfInBounds_toArray, List.set_cons_zero, List.set_cons_succ, List.getElem_toArray, List.getElem_cons_zero, List.getElem_cons_succ]
        refine Ends.one 6 (by kernel_rfl) rfl (fun K hK => ?s6)
        go_simp
        refine hK.out _ _ (fun _ => HB2d.out.drew.cell 14 _ rfl) (fun _ => ?_)
        clear hK K hHeld
        have hHeld := HB2d.out.drew.cell 14 _ rfl
        simp only [List.getElem_toArray, List.getElem_cons_zero, List.getElem_cons_succ] at hHeld
        try simp only [Act.put, List.setIfInBounds_toArray, List.set_cons_zero, List.set_cons_succ, List.getElem_toArray, List.getElem_cons_zero, List.getElem_cons_succ]
        refine Ends.take 7 (v := ?v7) rfl rfl (by kernel_rfl) (by kernel_rfl) (by kernel_rfl) (by kernel_rfl) (fun _ _ _ h => h) (Or.inl ⟨by rfl, ?y7⟩) (by assumption) ?r7
        case y7 => (intro w' hSw; (try dsimp only at hSw); go_simp; (try with_reducible rfl))
        try simp only [Act.put, List.setIfInBounds_toArray, List.set_cons_zero, List.set_cons_succ, List.getElem_toArray, List.getElem_cons_zero, List.getElem_cons_succ]
        refine Ends.one 8 (by kernel_rfl) rfl (fun K hK => ?s8)
        go_simp
        refine hK.out _ _ (fun h => absurd rfl h) (fun _ => ?_)
        clear hK K
        try simp only [Act.put, List.setIfInBounds_toArray, List.set_cons_zero, List.set_cons_succ, List.getElem_toArray, List.getElem_cons_zero, List.getElem_cons_succ]
        refine Ends.done (by kernel_rfl) ?_ _
        go_wp2_with fail
        go_roundw
        case rel =>
          have hne1 : b ≠ kb := blk_apart HB2d.out HK2d.out (by decide)
          have hne2 : mb ≠ kb := fun e => by
            have hh := HK2d.out
            have hm3 : (wr.alloc (.cells (ints (List.replicate n 0)).toArray 3)).heap[mb]? = some (.map #[] 0) := (Below.heap_alloc _ _ _ (Array.getElem?_eq_some_iff.1 HMd.out).1).trans HMd.out
            exact blk_map hh hm3 e.symm
          have hsz := hbel.size
          refine ⟨k + 1, by omega, by go_num, (HB2d.out.other hne1 _ _).drew, ?_, ((hbel.alloc (by omega) _).trans (((Only.refl kb _).set k _).below hk1)).drew, cs.setIfInBounds k _, (HK2d.out.set k _).drew, by simpa using hcs, fun q hq => ?_⟩
          · exact (Below.heap_setCell _ _ _ _ hne2).trans ((Below.heap_alloc _ _ _ (Array.getElem?_eq_some_iff.1 HMd.out).1).trans HMd.out)
          · rcases Nat.lt_or_ge q k with hqk | hqk
            · obtain ⟨rb, h1, h2, h3⟩ := HRd.out q hqk
              have h4 := h3.alloc (.cells (ints (List.replicate n 0)).toArray 3)
              exact ⟨rb, by rw [Array.getElem?_setIfInBounds_ne (by omega)]; exact h1, h2, (h4.other (blk_apart h4 HK2d.out (by decide)) _ _).drew⟩
            · have hqe : q = k := by omega
              subst hqe
              have h4 := BlkAt.new wr wr.heap.size rfl 3 (ints (List.replicate n 0)).toArray
              exact ⟨wr.heap.size, by rw [Array.getElem?_setIfInBounds_self_of_lt (by omega)], by omega, (h4.other (blk_apart h4 HK2d.out (by decide)) _ _).drew⟩
        case measure => simp [intOf]; omega
      · have hkn : k = n := by omega
        have hkn1 : ¬ (k : Int) < (n : Int) := by omega
        obtain ⟨rb, g1, g2, g3⟩ := hrows p (by omega)
        have HF : Hid (∃ b', b' = b ∧ ProcX wr w.heap.size wr.heap.size b' p n) := ⟨b, rfl, kb, mb, rb, win, ⟨hb1, HB.lt⟩, ⟨hk1, HK.lt⟩, ⟨hm1, (Array.getElem?_eq_some_iff.1 HM).1⟩, ⟨g2, g3.lt⟩, HB, HM, HK.cell p _ g1, g3⟩
        have HBl : Hid (Below w.heap.size w wr) := hbel
        clear HB HM HK hrows g1 g3 hbel
        go_wp2
        go_ret
        obtain ⟨b', rfl, hx⟩ := HF.out
        exact ⟨b', rfl, hx, HBl.out⟩
end Go.Proofs.YtoklolfaemhfnaaGreatDoor
