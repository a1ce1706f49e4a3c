/-
  A frame that came in as an argument, opened: its value, how its lists lie, how long they can be.
-/
import Derived.Test.YtoklolfaemhfnaaFits
import Derived.ProofKit
import Derived.OpenShut
import Derived.ShutString
import Derived.SizedLaws
import Derived.Carry
import Derived.ChangeSlices
import Derived.Deep.Slices
namespace Go.Proofs.Ytoklolfaemhfnaa
open Go.ChangeShapes Go.WideShapes Go.ChangeAt Go.RowKit

theorem c3 : Try.prog.cellsOf 3 = 1 := by kernel_rfl
theorem c25 : Try.prog.cellsOf 25 = 1 := by kernel_rfl
theorem c26 : Try.prog.cellsOf 26 = 1 := by kernel_rfl
theorem c9 : Try.prog.cellsOf 9 = 1 := by kernel_rfl
theorem c28 : Try.prog.cellsOf 28 = 10 := by kernel_rfl
theorem c50 : Try.prog.cellsOf 50 = 4 := by kernel_rfl
theorem y3 : Try.prog.bytesOf 3 = 8 := by kernel_rfl
theorem y50 : Try.prog.bytesOf 50 = 56 := by kernel_rfl

/-- A number that an int can be. -/
def Fit64 (n : Int) : Prop := -9223372036854775808 ≤ n ∧ n ≤ 9223372036854775807
theorem fit64_of {n : Int} (h : (Lit.int .i64 n).wf = true) : Fit64 n := by
  simp only [Lit.wf, Bool.and_eq_true, decide_eq_true_eq] at h
  exact h

section
variable {H : Type} {enc : TypeId × Value → H} {W : World}

theorem block_of_cell {w : World} {a : Addr} {v : Value} (h : w.cell? a = some v) : a.block < w.heap.size := by
  unfold World.cell? at h
  split at h
  · rename_i he; exact (Array.getElem?_eq_some_iff.1 he).1
  · cases h

theorem open_nums {fuel : Nat} {cs : List Value} {x : DataW H × List MemPlace} (h : DataW.trod enc Try.prog W 0 (fun _ => true) true fuel 25 cs = some x) (hw : ∀ n ∈ x.1.weights Try.prog 25, n ≤ reachBytes) :
    ∃ v l, cs = [v] ∧ NumsAt W W.heap.size v l ∧ l.length ≤ 17592186043904 ∧ ∀ n ∈ l, Fit64 n := by
  rcases open_ints Try.underlying25 Try.underlying3 c3 h with ⟨rfl, rfl⟩ | ⟨a, len, cap, zs, rfl, _, hl, hm, hz, rfl, hcell, hwf⟩
  · exact ⟨_, [], rfl, .inl ⟨⟨_, _, rfl⟩, rfl⟩, by simp, by simp⟩
  · simp only [if_true] at hz
    have hb : len * 8 ≤ reachBytes := by
      have := hw ((zs.take len).length * 8 + (zs.drop len).length * 8) (by
        simp only [DataW.weights, Try.underlying25, y3, lits, List.length_map]
        rw [← Nat.add_mul]
        exact List.mem_cons_self)
      simp at this
      omega
    have hr : reachBytes = 140737488351232 := by decide
    rcases Nat.eq_zero_or_pos len with h0 | hp
    · subst h0
      exact ⟨_, [], rfl, .inl ⟨⟨_, _, rfl⟩, rfl⟩, by simp, by simp⟩
    · obtain ⟨b, off, spot⟩ := a
      have hspot : spot = none := by simpa [Addr.add] using World.cell?_spot (hcell 0 (by omega))
      subst hspot
      have hblk : b < W.heap.size := by have := block_of_cell (hcell 0 (by omega)); simpa [Addr.add] using this
      refine ⟨_, zs.take len, rfl, .inr ⟨b, off, cap, by simp; omega, hblk, fun j hj => ?_⟩, by simp; omega, fun n hn => fit64_of (hwf n (List.mem_of_mem_take hn))⟩
      rw [List.length_take] at hj
      have := hcell j (by omega)
      rw [add_plain] at this
      rw [this, List.getD_eq_getElem?_getD, List.getD_eq_getElem?_getD, List.getElem?_take, if_pos (by omega)]

theorem weights_part {t u o : Nat} {fs : Array Field} (ht : Try.prog.underlying t = some (.struct fs)) {xs : List (DataW H × List MemPlace)} {i : Nat} {y : DataW H × List MemPlace} (hf : (fs[i]?).map (fun f => (f.type, f.offset)) = some (u, o)) (hy : xs[i]? = some y)
    (hw : ∀ n ∈ (DataW.agg (xs.map (·.1))).weights Try.prog t, n ≤ reachBytes) : ∀ n ∈ y.1.weights Try.prog u, n ≤ reachBytes := by
  obtain ⟨f, hg, he⟩ := Option.map_eq_some_iff.1 hf
  injection he with h1 h2
  subst h1
  intro n hn
  refine hw n ?_
  simp only [DataW.weights, ht]
  exact DataW.weights_mem_each (j := i) (t := f.type) (d := y.1) (by simp [hg]) (by simp [hy]) n hn

theorem weights_all {e : TypeId} : ∀ {l : List (DataW H)} {d : DataW H}, d ∈ l → ∀ n ∈ d.weights Try.prog e, n ∈ DataW.weightsAll Try.prog e l
  | x :: l, d, hd, n, hn => by
    simp only [DataW.weightsAll, List.mem_append]
    rcases List.mem_cons.1 hd with rfl | hd
    · exact .inl hn
    · exact .inr (weights_all hd n hn)

theorem field_some {fs : Array Field} {fuel : Nat} {cs : List Value} {xs : List (DataW H × List MemPlace)} (hlen : xs.length = fs.size)
    (hf : ∀ (i : Nat) (f : Field), fs[i]? = some f → DataW.trod enc Try.prog W 0 (fun _ => true) true fuel f.type ((cs.drop f.offset).take (Try.prog.cellsOf f.type)) = xs[i]?) (i u o : Nat) (h : (fs[i]?).map (fun f => (f.type, f.offset)) = some (u, o)) :
    ∃ y, xs[i]? = some y ∧ DataW.trod enc Try.prog W 0 (fun _ => true) true fuel u ((cs.drop o).take (Try.prog.cellsOf u)) = some y := by
  obtain ⟨f, hg, he⟩ := Option.map_eq_some_iff.1 h
  injection he with h1 h2
  subst h1 h2
  have hi : i < xs.length := by have := (Array.getElem?_eq_some_iff.1 hg).1; omega
  exact ⟨_, List.getElem?_eq_getElem hi, (hf i f hg).trans (List.getElem?_eq_getElem hi)⟩

/-- A message. -/
theorem open_msg {fuel : Nat} {cs : List Value} {x : DataW H × List MemPlace} (h : DataW.trod enc Try.prog W 0 (fun _ => true) true fuel 50 cs = some x) (hw : ∀ n ∈ x.1.weights Try.prog 50, n ≤ reachBytes) :
    ∃ (m : Codec.Msg) (tv : Value), cs = [.int .i64 m.sender, .int .i64 m.seq, tv, .string m.text] ∧ NumsAt W W.heap.size tv m.time ∧ m.time.length ≤ 17592186043904 ∧ m.text.size ≤ maxLen ∧ Fit64 m.sender ∧ Fit64 m.seq ∧ ∀ n ∈ m.time, Fit64 n := by
  obtain ⟨xs, n, _, rfl, hl, hlen, hf⟩ := DataW.trod_struct Try.underlying50 h
  rw [c50] at hl
  obtain ⟨q0, q1, q2, q3, rfl⟩ : ∃ q0 q1 q2 q3, cs = [q0, q1, q2, q3] := by
    match cs, hl with
    | [q0, q1, q2, q3], _ => exact ⟨q0, q1, q2, q3, rfl⟩
  obtain ⟨z0, _, h0⟩ := field_some hlen hf 0 3 0 rfl
  obtain ⟨z1, _, h1⟩ := field_some hlen hf 1 3 1 rfl
  obtain ⟨z2, e2, h2⟩ := field_some hlen hf 2 25 2 rfl
  obtain ⟨z3, _, h3⟩ := field_some hlen hf 3 9 3 rfl
  rw [c3] at h0 h1
  rw [c25] at h2
  rw [c9] at h3
  obtain ⟨n0, b0, _, w0⟩ := DataW.trod_int Try.underlying3 h0
  obtain ⟨n1, b1, _, w1⟩ := DataW.trod_int Try.underlying3 h1
  obtain ⟨v2, l2, b2, hn2, hl2, hf2⟩ := open_nums h2 (weights_part Try.underlying50 (i := 2) (o := 2) rfl e2 hw)
  obtain ⟨s3, b3, _, hs3⟩ := DataW.trod_string Try.underlying9 h3
  simp at b0 b1 b2 b3
  subst b0 b1 b2 b3
  exact ⟨⟨n0, n1, l2, s3⟩, _, rfl, hn2, hl2, hs3, fit64_of w0, fit64_of w1, hf2⟩

theorem choose_list {α : Type} {p : Nat → α → Prop} : ∀ (n : Nat), (∀ i, i < n → ∃ a, p i a) → ∃ l : List α, l.length = n ∧ ∀ i a, l[i]? = some a → p i a
  | 0, _ => ⟨[], rfl, fun i a h => by simp at h⟩
  | n + 1, h => by
    obtain ⟨l, hl, hp⟩ := choose_list n (fun i hi => h i (by omega))
    obtain ⟨a, ha⟩ := h n (by omega)
    refine ⟨l ++ [a], by simp [hl], fun i b hb => ?_⟩
    rcases Nat.lt_or_ge i n with hi | hi
    · rw [List.getElem?_append_left (by omega)] at hb
      exact hp i b hb
    · rw [List.getElem?_append_right (by omega)] at hb
      have : i - l.length = 0 := by
        rcases Nat.eq_zero_or_pos (i - l.length) with e | e
        · exact e
        · rw [List.getElem?_eq_none (by simp; omega)] at hb; cases hb
      rw [this] at hb
      simp at hb
      subst hb
      have : i = n := by omega
      subst this
      exact ha

/-- A list of messages. -/
theorem open_msgs {fuel : Nat} {cs : List Value} {x : DataW H × List MemPlace} (h : DataW.trod enc Try.prog W 0 (fun _ => true) true fuel 26 cs = some x) (hw : ∀ n ∈ x.1.weights Try.prog 26, n ≤ reachBytes) :
    ∃ (v : Value) (ms : List Codec.Msg), cs = [v] ∧ MsgsAt W W.heap.size v ms ∧ ms.length ≤ 2513169434844 ∧ ∀ m ∈ ms, m.time.length ≤ 17592186043904 ∧ m.text.size ≤ maxLen ∧ Fit64 m.sender ∧ Fit64 m.seq ∧ ∀ n ∈ m.time, Fit64 n := by
  rcases Deep.open_slice Try.underlying26 h with ⟨rfl, rfl⟩ | ⟨a, len, cap, m, n, D, Pl, rfl, _, hl, hm, hmm, rfl, hx⟩
  · exact ⟨_, [], rfl, .inl ⟨⟨_, _, rfl⟩, rfl⟩, by simp, by simp⟩
  · simp only [if_true] at hmm
    have hr : reachBytes = 140737488351232 := by decide
    have hb : len * 56 ≤ reachBytes := by
      have := hw _ (by
        simp only [DataW.weights, Try.underlying26, y50]
        exact List.mem_cons_self)
      simp at this
      omega
    have hwi : ∀ i, i < len → ∀ k ∈ (D i).weights Try.prog 50, k ≤ reachBytes := fun i hi k hk => by
      refine hw k ?_
      simp only [DataW.weights, Try.underlying26]
      refine List.mem_cons_of_mem _ (List.mem_append_left _ (weights_all ?_ k hk))
      exact List.mem_map.2 ⟨i, by simpa using hi, rfl⟩
    rcases Nat.eq_zero_or_pos len with h0 | hp
    · subst h0
      exact ⟨_, [], rfl, .inl ⟨⟨_, _, rfl⟩, rfl⟩, by simp, by simp⟩
    · rw [c50] at hx
      obtain ⟨b, off, spot⟩ := a
      have hcell : ∀ i, i < len → ∀ j, j < 4 → ∃ cs', W.cells? 0 ((⟨b, off, spot⟩ : Addr).add (i * 4)) 4 = some cs' ∧ W.cell? (((⟨b, off, spot⟩ : Addr).add (i * 4)).add j) = cs'[j]? ∧ cs'.length = 4 := fun i hi j hj => by
        obtain ⟨cs', h1, _⟩ := hx i (by omega)
        obtain ⟨_, h3, h4⟩ := World.cells?_some h1
        exact ⟨cs', h1, h4 j hj, h3⟩
      have hspot : spot = none := by
        obtain ⟨cs', _, h2, h3⟩ := hcell 0 hp 0 (by omega)
        rw [List.getElem?_eq_getElem (by omega)] at h2
        simpa [Addr.add] using World.cell?_spot h2
      subst hspot
      have hblk : b < W.heap.size := by
        obtain ⟨cs', _, h2, h3⟩ := hcell 0 hp 0 (by omega)
        rw [List.getElem?_eq_getElem (by omega)] at h2
        simpa [Addr.add] using block_of_cell h2
      obtain ⟨ms, hms, hp2⟩ := choose_list (α := Codec.Msg) (p := fun i m => ∃ tv, W.cell? ⟨b, off + i * 4, none⟩ = some (.int .i64 m.sender) ∧ W.cell? ⟨b, off + i * 4 + 1, none⟩ = some (.int .i64 m.seq) ∧
          W.cell? ⟨b, off + i * 4 + 2, none⟩ = some tv ∧ W.cell? ⟨b, off + i * 4 + 3, none⟩ = some (.string m.text) ∧ NumsAt W W.heap.size tv m.time ∧ m.time.length ≤ 17592186043904 ∧ m.text.size ≤ maxLen ∧ Fit64 m.sender ∧ Fit64 m.seq ∧ ∀ n ∈ m.time, Fit64 n) len (fun i hi => by
        obtain ⟨cs', h1, h2⟩ := hx i (by omega)
        obtain ⟨_, h3, h4⟩ := World.cells?_some h1
        obtain ⟨mm, tv, rfl, g1, g2, g3, g4⟩ := open_msg h2 (hwi i hi)
        simp only [add_plain] at h4
        exact ⟨mm, tv, by simpa using h4 0 (by omega), h4 1 (by omega), h4 2 (by omega), h4 3 (by omega), g1, g2, g3, g4⟩)
      refine ⟨_, ms, rfl, .inr ⟨b, off, cap, by rw [hms], hblk, fun j mm hj => ?_⟩, by omega, fun mm hmm => ?_⟩
      · obtain ⟨tv, g0, g1, g2, g3, g4, _⟩ := hp2 j mm hj
        exact ⟨tv, g0, g1, g2, g3, g4⟩
      · obtain ⟨j, hj⟩ := List.getElem?_of_mem hmm
        obtain ⟨tv, g0, g1, g2, g3, g4, g5⟩ := hp2 j mm hj
        exact g5

/-- A frame that the raw numbers of the arguments make. -/
def RawOk (f : Codec.Frame) : Prop := Fit64 f.kind ∧ Fit64 f.src ∧ Fit64 f.dst ∧ Fit64 f.members ∧ Fit64 f.view ∧ Fit64 f.ballot ∧ Fit64 f.voted ∧ (∀ n ∈ f.row, Fit64 n) ∧ (∀ n ∈ f.cut, Fit64 n) ∧
  f.row.length ≤ 17592186043904 ∧ f.cut.length ≤ 17592186043904 ∧ f.msgs.length ≤ 2513169434844 ∧ ∀ m ∈ f.msgs, m.time.length ≤ 17592186043904 ∧ m.text.size ≤ maxLen ∧ Fit64 m.sender ∧ Fit64 m.seq ∧ ∀ n ∈ m.time, Fit64 n

theorem open_frame {r : Reach} {b0 : Nat} {v : Value} {d : DataW H} {ps : List MemPlace} (hval : Value.okWide Try.prog W r b0 28 v) (hd : DataW.Trod enc Try.prog W 0 (fun _ => true) true 28 v d ps) (hw : ∀ n ∈ d.weights Try.prog 28, n ≤ reachBytes) :
    ∃ (f : Codec.Frame) (rv cv mv : Value), v = .agg #[.int .i64 f.kind, .int .i64 f.src, .int .i64 f.dst, .int .i64 f.members, .int .i64 f.view, .int .i64 f.ballot, .int .i64 f.voted, rv, cv, mv] ∧
      NumsAt W W.heap.size rv f.row ∧ NumsAt W W.heap.size cv f.cut ∧ MsgsAt W W.heap.size mv f.msgs ∧ RawOk f := by
  obtain ⟨cs, rfl, hsz⟩ := okWide_struct Try.underlying28 hval
  obtain ⟨fuel, hf0⟩ := hd
  obtain ⟨xs, n, _, hx, hl, hlen, hf⟩ := DataW.trod_struct Try.underlying28 hf0
  rw [c28] at hl
  simp only [Prod.mk.injEq] at hx
  obtain ⟨rfl, -⟩ := hx
  obtain ⟨l⟩ := cs
  have hcl : (Value.agg ⟨l⟩).cells.toList = l := rfl
  obtain ⟨q0, q1, q2, q3, q4, q5, q6, q7, q8, q9, rfl⟩ : ∃ q0 q1 q2 q3 q4 q5 q6 q7 q8 q9, l = [q0, q1, q2, q3, q4, q5, q6, q7, q8, q9] := by
    rw [hcl] at hl
    match l, hl with
    | [q0, q1, q2, q3, q4, q5, q6, q7, q8, q9], _ => exact ⟨q0, q1, q2, q3, q4, q5, q6, q7, q8, q9, rfl⟩
  rw [hcl] at hf
  obtain ⟨z0, _, h0⟩ := field_some hlen hf 0 3 0 rfl
  obtain ⟨z1, _, h1⟩ := field_some hlen hf 1 3 1 rfl
  obtain ⟨z2, _, h2⟩ := field_some hlen hf 2 3 2 rfl
  obtain ⟨z3, _, h3⟩ := field_some hlen hf 3 3 3 rfl
  obtain ⟨z4, _, h4⟩ := field_some hlen hf 4 3 4 rfl
  obtain ⟨z5, _, h5⟩ := field_some hlen hf 5 3 5 rfl
  obtain ⟨z6, _, h6⟩ := field_some hlen hf 6 3 6 rfl
  obtain ⟨z7, e7, h7⟩ := field_some hlen hf 7 25 7 rfl
  obtain ⟨z8, e8, h8⟩ := field_some hlen hf 8 25 8 rfl
  obtain ⟨z9, e9, h9⟩ := field_some hlen hf 9 26 9 rfl
  rw [c3] at h0 h1 h2 h3 h4 h5 h6
  rw [c25] at h7 h8
  rw [c26] at h9
  obtain ⟨n0, b0', _, w0⟩ := DataW.trod_int Try.underlying3 h0
  obtain ⟨n1, b1, _, w1⟩ := DataW.trod_int Try.underlying3 h1
  obtain ⟨n2, b2, _, w2⟩ := DataW.trod_int Try.underlying3 h2
  obtain ⟨n3, b3, _, w3⟩ := DataW.trod_int Try.underlying3 h3
  obtain ⟨n4, b4, _, w4⟩ := DataW.trod_int Try.underlying3 h4
  obtain ⟨n5, b5, _, w5⟩ := DataW.trod_int Try.underlying3 h5
  obtain ⟨n6, b6, _, w6⟩ := DataW.trod_int Try.underlying3 h6
  obtain ⟨v7, l7, b7, g7, k7, f7⟩ := open_nums h7 (weights_part Try.underlying28 (i := 7) (o := 7) rfl e7 hw)
  obtain ⟨v8, l8, b8, g8, k8, f8⟩ := open_nums h8 (weights_part Try.underlying28 (i := 8) (o := 8) rfl e8 hw)
  obtain ⟨v9, l9, b9, g9, k9, f9⟩ := open_msgs h9 (weights_part Try.underlying28 (i := 9) (o := 9) rfl e9 hw)
  simp at b0' b1 b2 b3 b4 b5 b6 b7 b8 b9
  subst b0' b1 b2 b3 b4 b5 b6 b7 b8 b9
  exact ⟨⟨n0, n1, n2, n3, n4, n5, n6, l7, l8, l9⟩, _, _, _, rfl, g7, g8, g9, fit64_of w0, fit64_of w1, fit64_of w2, fit64_of w3, fit64_of w4, fit64_of w5, fit64_of w6, f7, f8, k7, k8, k9, f9⟩
end
end Go.Proofs.Ytoklolfaemhfnaa
