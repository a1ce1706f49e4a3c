/-
  For the walk of the law's spilt: append onto a list of numbers, with what becomes of the row that was appended to; lists of numbers with their marks; a world that is changed in some blocks alone.
-/
import Derived.Test.YtoklolfaemhfnaaUns
namespace Go.Proofs.Ytoklolfaemhfnaa
open Go.RowKit

/-- append of one number to a list that is owned: what stood in the old row stands there still. -/
theorem append_int_run (ty : TypeId) (w : World) (base : Nat) (v : Value) (n : Nat) (xs : List Value) (hown : w.ownsRow base 3 1 v n xs) (A c : Nat) (x : Int)
    (hx : w.cell? ⟨A, 0, none⟩ = some (.int .i64 x)) (hn : n ≤ 1000000) (hbase : base ≤ w.heap.size) :
    ∃ g cap w', (Builtin.append_ #[25, 25] ty #[v, .slice (some ⟨A, 0, none⟩) 1 c]).run Try.prog w = .ok (.slice (some ⟨g, 0, none⟩) (n + 1) cap) w' ∧ w'.ownsRow base 3 1 (.slice (some ⟨g, 0, none⟩) (n + 1) cap) (n + 1) (xs ++ [.int .i64 x]) ∧
      w.grownBy w' v.ownBlock ∧ (v.ownBlock = some g ∨ g = w.heap.size) ∧
      ∀ q cur, v.ownBlock = some q → w.heap[q]? = some (.cells cur 3 (0, 0)) → ∃ cur', w'.heap[q]? = some (.cells cur' 3 (0, 0)) ∧ ∀ j, j < n → cur'[j]? = cur[j]? := by
  obtain ⟨i0, hi, hz0, hz1, hz2⟩ := info_parts info3
  have hnews : ∀ j u, [Value.int .i64 x][j]? = some u → w.cell? ((⟨A, 0, none⟩ : Addr).add j) = some u := by
    intro j u hj
    match j, hj with
    | 0, hj =>
      simp at hj
      subst hj
      simpa [Addr.add] using hx
  have h1 : ∀ u ∈ [Value.int .i64 x], u.oneCell' = true := by intro u hu; simp at hu; subst hu; rfl
  obtain ⟨v', w', hr, h2, h3, _, h5⟩ := run_append_own_at (P := Try.prog) w base 25 ty 3 i0 (.int .i64 0) 1 8 Try.underlying25 hi hz0 hz1 hz2 rfl (by decide) v n xs hown ⟨A, 0, none⟩ 1 c [.int .i64 x] rfl hnews h1 (by unfold maxLen; omega) (by omega) hbase
  obtain ⟨g, cap, rfl, _, hlt⟩ := World.ownsRow.form h2 (by omega)
  refine ⟨g, cap, w', hr, h2, h3, ?_, ?_⟩
  · rcases h5 with h5 | h5
    · exact .inl (by rw [← h5]; rfl)
    · right; simpa [Value.ownBlock] using h5
  · intro q cur hq hc
    rcases hown.2 with ⟨rfl, rfl⟩ | ⟨g', cap', cur', rfl, hbg, hg', hnc, hcm, hcs, htake⟩
    · simp [Value.ownBlock] at hq
    · have e1 : g' = q := by simpa [Value.ownBlock] using hq
      subst e1
      have e2 : cur' = cur := by rw [hg'] at hc; simpa using hc
      subst e2
      by_cases hroom : n + 1 ≤ cap'
      · have hr2 := run_append_room (P := Try.prog) w 25 ty 3 i0 Try.underlying25 hi g' n cap' cur' hg' ⟨A, 0, none⟩ 1 c [.int .i64 x] (by rw [hz1]; rfl) hnews h1 hroom (by rw [hz1, hcs]; simp; omega)
        rw [hr] at hr2
        injection hr2 with _ e3
        subst e3
        refine ⟨_, setRow_heap w g' cur' _ 3 _ hg', fun j hj => ?_⟩
        have hjl : j < (List.take (n * i0.size) cur'.toList).length := by rw [hz1]; simp; omega
        simp only [List.getElem?_toArray, List.append_assoc]
        rw [List.getElem?_append_left hjl, List.getElem?_take, if_pos (by rw [hz1]; omega)]
        simp
      · have hr2 := run_append_grow (P := Try.prog) w 25 ty 3 i0 (.int .i64 0) Try.underlying25 hi hz0 ⟨g', 0, none⟩ n cap' xs (by rw [hz1]; exact hown.1) (hown.cells (g := g') rfl) ⟨A, 0, none⟩ 1 c [.int .i64 x] (by rw [hz1]; rfl) hnews (by omega) (by omega) (growslice_fits (by omega) (by rw [hz2]; omega))
        rw [hr] at hr2
        injection hr2 with _ e3
        subst e3
        refine ⟨cur', (heap_alloc_old w.drew _ (show g' < w.drew.heap.size from (Array.getElem?_eq_some_iff.1 hg').1)).trans hg', fun j _ => rfl⟩

theorem wpList_append_int {ops : Array Oper} {rest : List Oper} {o : Oper} {a : Act} {Q : Exit → Act → World → Prop} {w : World} (hgd : o.guard = none) (s x : Operand)
    (ho : o.op = .call { callee := .builtin .append, args := #[s, x], argTypes := #[25, 25] }) (base : Nat) (v : Value) (n : Nat) (xs : List Value) (hs : a.eval s = v) (hown : w.ownsRow base 3 1 v n xs)
    (A c : Nat) (y : Int) (hx : a.eval x = .slice (some ⟨A, 0, none⟩) 1 c) (hy : w.cell? ⟨A, 0, none⟩ = some (.int .i64 y)) (hn : n ≤ 1000000) (hbase : base ≤ w.heap.size)
    (h : ∀ g cap w', w'.ownsRow base 3 1 (.slice (some ⟨g, 0, none⟩) (n + 1) cap) (n + 1) (xs ++ [.int .i64 y]) → w.grownBy w' v.ownBlock → (v.ownBlock = some g ∨ g = w.heap.size) →
      (∀ q cur, v.ownBlock = some q → w.heap[q]? = some (.cells cur 3 (0, 0)) → ∃ cur', w'.heap[q]? = some (.cells cur' 3 (0, 0)) ∧ ∀ j, j < n → cur'[j]? = cur[j]?) → wpList Try.prog ops Q rest (a.put o.dst (.slice (some ⟨g, 0, none⟩) (n + 1) cap)) w') :
    wpList Try.prog ops Q (o :: rest) a w := by
  refine wpList_plain hgd fun K hK => ?_
  obtain ⟨g, cap, w', hr, h2, h3, h4, h5⟩ := append_int_run o.type w base v n xs hown A c y hy hn hbase
  unfold Oper.wp execOp
  simp only [ho, resolve, invoke, builtin, Sem.run_bind, Sem.run_pure, Result.andThen_ok, List.map_toArray, List.map_cons, List.map_nil, hs, hx, hr]
  exact hK _ _ (h g cap w' h2 h3 h4 h5)

/-- A list of lists with their marks, as it lies in memory. -/
def numCells : List (Value × Int) → List Value
  | [] => []
  | e :: E => e.1 :: .int .i64 e.2 :: numCells E

theorem numCells_length : ∀ E : List (Value × Int), (numCells E).length = E.length * 2
  | [] => rfl
  | e :: E => by simp [numCells, numCells_length E]; omega
theorem numCells_append : ∀ (E F : List (Value × Int)), numCells (E ++ F) = numCells E ++ numCells F
  | [], F => rfl
  | e :: E, F => by simp [numCells, numCells_append E F]
theorem numCells_at : ∀ (E : List (Value × Int)) (k : Nat) (e : Value × Int), E[k]? = some e → (numCells E)[k * 2]? = some e.1 ∧ (numCells E)[k * 2 + 1]? = some (.int .i64 e.2)
  | [], k, e, h => by simp at h
  | x :: E, 0, e, h => by simp at h; subst h; simp [numCells]
  | x :: E, k + 1, e, h => by
    have ih := numCells_at E k e (by simpa using h)
    rw [show (k + 1) * 2 = k * 2 + 1 + 1 from by omega]
    simpa [numCells] using ih

/-- Every number of the list is its mark. -/
def Marked (w : World) (e : Value × Int) : Prop :=
  e.1 = .slice none 0 0 ∨ ∃ g n cap cur, e.1 = .slice (some ⟨g, 0, none⟩) n cap ∧ w.heap[g]? = some (.cells cur 3 (0, 0)) ∧ n ≤ maxLen ∧ ∀ j, j < n → cur[j]? = some (.int .i64 e.2)

/-- The list e, if it lies in l's row, is no longer than N. -/
def Within (e l : Value) (N : Nat) : Prop := ∀ g n cap, e = .slice (some ⟨g, 0, none⟩) n cap → l.ownBlock = some g → n ≤ N

/-- The blocks that the caller may write into: those of the answer, and new ones. -/
def Ours (base top H g : Nat) : Prop := (base ≤ g ∧ g < top) ∨ H ≤ g

/-- Only the caller's blocks have changed. -/
structure Mid (base top : Nat) (w w' : World) : Prop where
  os : w'.os = w.os
  tape : w'.tape = w.tape
  output : w'.output = w.output
  size : w.heap.size ≤ w'.heap.size
  block : ∀ b, b < w.heap.size → ¬ Ours base top w.heap.size b → w'.heap[b]? = w.heap[b]?

theorem Mid.refl (base top : Nat) (w : World) : Mid base top w w := ⟨rfl, rfl, rfl, Nat.le_refl _, fun _ _ _ => rfl⟩
theorem Mid.drew {base top : Nat} {w w' : World} (h : Mid base top w w') : Mid base top w w'.drew := ⟨h.os, h.tape, h.output, h.size, h.block⟩
theorem Mid.drewN {base top : Nat} {w w' : World} (h : Mid base top w w') (n : Nat) : Mid base top w (w'.drewN n) := by
  have hb := below_drewN (Below.refl (w'.heap.size) w') n
  exact ⟨hb.os.trans h.os, hb.tape.trans h.tape, hb.output.trans h.output, Nat.le_trans h.size hb.size, fun b h1 h2 => (hb.block b (Nat.lt_of_lt_of_le h1 h.size)).trans (h.block b h1 h2)⟩
theorem Mid.alloc {base top : Nat} {w w' : World} (h : Mid base top w w') (o : Obj) : Mid base top w (w'.alloc o) := by
  have hb : Below w'.heap.size w' (w'.alloc o) := (Below.refl _ _).alloc (Nat.le_refl _) o
  exact ⟨hb.os.trans h.os, hb.tape.trans h.tape, hb.output.trans h.output, Nat.le_trans h.size hb.size, fun b h1 h2 => (hb.block b (Nat.lt_of_lt_of_le h1 h.size)).trans (h.block b h1 h2)⟩
theorem Mid.setCell {base top : Nat} {w w' : World} (h : Mid base top w w') {g : Nat} (hg : Ours base top w.heap.size g) (j : Nat) (u : Value) : Mid base top w (w'.setCell ⟨g, j, none⟩ u) := by
  refine ⟨h.os, h.tape, h.output, by simpa using h.size, fun b h1 h2 => ?_⟩
  have hne : b ≠ g := fun e => h2 (e ▸ hg)
  have := h.block b h1 h2
  rw [← this]
  exact heap_setCell_other w' _ b u hne
theorem Mid.grown {base top : Nat} {w w1 w2 : World} (h : Mid base top w w1) {row : Option Nat} (hg : w1.grownBy w2 row) (hr : ∀ g, row = some g → Ours base top w.heap.size g) : Mid base top w w2 :=
  ⟨hg.os.trans h.os, hg.tape.trans h.tape, hg.output.trans h.output, Nat.le_trans h.size hg.size, fun b h1 h2 => (hg.block b (Nat.lt_of_lt_of_le h1 h.size) (fun e => h2 (hr b e.symm))).trans (h.block b h1 h2)⟩

/-- The blocks of one element type are as they were. -/
def KeepT (T : TypeId) (w w' : World) : Prop := ∀ (g : Nat) (cur : Array Value), w.heap[g]? = some (.cells cur T (0, 0)) → w'.heap[g]? = some (.cells cur T (0, 0))
theorem KeepT.refl (T : TypeId) (w : World) : KeepT T w w := fun _ _ h => h
theorem KeepT.trans {T : TypeId} {a b c : World} (h : KeepT T a b) (k : KeepT T b c) : KeepT T a c := fun g cur e => k g cur (h g cur e)
theorem KeepT.drew {T : TypeId} {a b : World} (h : KeepT T a b) : KeepT T a b.drew := h
theorem KeepT.below {T : TypeId} {a b : World} (h : Below a.heap.size a b) : KeepT T a b := fun g _ e => (h.block g (Array.getElem?_eq_some_iff.1 e).1).trans e
theorem KeepT.alloc (T : TypeId) (w : World) (o : Obj) : KeepT T w (w.alloc o) := .below ((Below.refl _ _).alloc (Nat.le_refl _) o)
theorem own_block {w : World} {b n sz : Nat} {e : TypeId} {v : Value} {xs : List Value} (h : w.ownsRow b e sz v n xs) {g : Nat} (hg : v.ownBlock = some g) : ∃ cur, w.heap[g]? = some (.cells cur e (0, 0)) := by
  rcases h.2 with ⟨rfl, _⟩ | ⟨q, cap, cur, rfl, _, hq, _⟩
  · cases hg
  · have : q = g := by simpa [Value.ownBlock] using hg
    subst this
    exact ⟨cur, hq⟩
theorem KeepT.grown {T : TypeId} {w w' : World} {b n sz : Nat} {e : TypeId} {v : Value} {xs : List Value} (h : w.ownsRow b e sz v n xs) (hne : e ≠ T) (hg : w.grownBy w' v.ownBlock) : KeepT T w w' := fun g cur hc => by
  refine (hg.block g (Array.getElem?_eq_some_iff.1 hc).1 fun he => ?_).trans hc
  obtain ⟨c2, h2⟩ := own_block h he.symm
  rw [hc] at h2
  injection h2 with h2
  injection h2 with _ h3 _
  exact hne h3.symm
theorem KeepT.set {T T' : TypeId} {w : World} {X : Nat} {cs : Array Value} (h : w.heap[X]? = some (.cells cs T' (0, 0))) (hne : T' ≠ T) (j : Nat) (u : Value) : KeepT T w (w.setCell ⟨X, j, none⟩ u) := fun g cur hc => by
  refine (heap_setCell_other w ⟨X, j, none⟩ g u fun he => ?_).trans hc
  have he' : g = X := he
  subst he'
  rw [hc] at h
  injection h with h2
  injection h2 with _ h3 _
  exact hne h3.symm
theorem own_keepT {w w' : World} {b n sz : Nat} {e : TypeId} {v : Value} {xs : List Value} (h : w.ownsRow b e sz v n xs) (k : KeepT e w w') : w'.ownsRow b e sz v n xs := by
  rcases h with ⟨hl, ⟨rfl, h0⟩ | ⟨q, cap, cur, rfl, hb, hq, hr⟩⟩
  · exact ⟨hl, .inl ⟨rfl, h0⟩⟩
  · exact ⟨hl, .inr ⟨q, cap, cur, rfl, hb, k q cur hq, hr⟩⟩
theorem blk_keepT {w w' : World} {X : Nat} {T : TypeId} {cs : Array Value} (h : BlkAt w X T cs) (k : KeepT T w w') : BlkAt w' X T cs := k X cs h
theorem Marked.keepT {w w' : World} {e : Value × Int} (h : Marked w e) (k : KeepT 3 w w') : Marked w' e := by
  rcases h with h | ⟨g, n, cap, cur, hv, hc, hm, hj⟩
  · exact .inl h
  · exact .inr ⟨g, n, cap, cur, hv, k g cur hc, hm, hj⟩
/-- A list with its mark, behind an append onto l. -/
theorem Marked.append {w w' : World} {e : Value × Int} {l : Value} {N : Nat} (h : Marked w e) (hw : Within e.1 l N) (hg : w.grownBy w' l.ownBlock)
    (hk : ∀ q cur, l.ownBlock = some q → w.heap[q]? = some (.cells cur 3 (0, 0)) → ∃ cur', w'.heap[q]? = some (.cells cur' 3 (0, 0)) ∧ ∀ j, j < N → cur'[j]? = cur[j]?) : Marked w' e := by
  rcases h with h | ⟨g, n, cap, cur, hv, hc, hm, hj⟩
  · exact .inl h
  · by_cases he : l.ownBlock = some g
    · obtain ⟨cur', h1, h2⟩ := hk g cur he hc
      have := hw g n cap hv he
      exact .inr ⟨g, n, cap, cur', hv, h1, hm, fun j hjn => (h2 j (by omega)).trans (hj j hjn)⟩
    · exact .inr ⟨g, n, cap, cur, hv, (hg.block g (Array.getElem?_eq_some_iff.1 hc).1 (fun e => he e.symm)).trans hc, hm, hj⟩
/-- A list that is owned and full of its mark. -/
theorem Marked.own {w : World} {b n : Nat} {v : Value} {m : Int} (h : w.ownsRow b 3 1 v n (ints (List.replicate n m))) : Marked w (v, m) := by
  rcases h with ⟨hl, ⟨rfl, h0⟩ | ⟨q, cap, cur, rfl, hb, hq, hnc, hcm, _, ht⟩⟩
  · exact .inl rfl
  · refine .inr ⟨q, n, cap, cur, rfl, hq, Nat.le_trans hnc hcm, fun j hj => ?_⟩
    have : (cur.toList.take (n * 1))[j]? = (ints (List.replicate n m))[j]? := by rw [ht]
    rw [List.getElem?_take, if_pos (by omega)] at this
    simp [ints, hj] at this
    simpa using this
theorem own_form {w : World} {b n sz : Nat} {e : TypeId} {v : Value} {xs : List Value} (h : w.ownsRow b e sz v n xs) : ∃ ao c, v = .slice ao n c := by
  rcases h with ⟨hl, ⟨rfl, rfl⟩ | ⟨q, cap, cur, rfl, _⟩⟩
  · exact ⟨none, 0, rfl⟩
  · exact ⟨_, cap, rfl⟩
theorem within_self {w : World} {b n sz : Nat} {e : TypeId} {v : Value} {xs : List Value} (h : w.ownsRow b e sz v n xs) (N : Nat) (hN : n ≤ N) (l : Value) : Within v l N := by
  intro g k cap hv _
  obtain ⟨ao, c, rfl⟩ := own_form h
  injection hv with _ h2 _
  omega
theorem within_apart {e l : Value} (h : ∀ g, e.ownBlock = some g → l.ownBlock ≠ some g) (N : Nat) : Within e l N := by
  intro g n cap he hl
  subst he
  exact absurd hl (h g rfl)

/-- The lists of the answer, each with its mark. -/
def timesE : Nat → List Value → List (Value × Int)
  | _, [] => []
  | i, t :: ts => (t, -3 - (i : Int)) :: timesE (i + 1) ts
theorem timesE_length : ∀ (i : Nat) (ts : List Value), (timesE i ts).length = ts.length
  | _, [] => rfl
  | i, t :: ts => by simp [timesE, timesE_length (i + 1) ts]
theorem timesE_at : ∀ (i : Nat) (ts : List Value) (j : Nat), (timesE i ts)[j]? = (ts[j]?).map fun t => (t, -3 - ((i + j : Nat) : Int))
  | i, [], j => by simp [timesE]
  | i, t :: ts, 0 => by simp [timesE]
  | i, t :: ts, j + 1 => by
    rw [timesE, List.getElem?_cons_succ, timesE_at (i + 1) ts j, List.getElem?_cons_succ, show i + 1 + j = i + (j + 1) from by omega]
theorem timesE_snoc (i : Nat) (ts : List Value) (t : Value) : timesE i (ts ++ [t]) = timesE i ts ++ [(t, -3 - ((i + ts.length : Nat) : Int))] := by
  induction ts generalizing i with
  | nil => simp [timesE]
  | cons x ts ih => simp [timesE, ih]; omega
def entries (rv cv : Value) (tvs : List Value) : List (Value × Int) := (rv, -1) :: (cv, -2) :: timesE 0 tvs
theorem entries_at (rv cv : Value) (tvs : List Value) (j : Nat) (e : Value × Int) (h : (entries rv cv tvs)[j]? = some e) : (rv :: cv :: tvs)[j]? = some e.1 := by
  match j with
  | 0 => simp [entries] at h; subst h; rfl
  | 1 => simp [entries] at h; subst h; rfl
  | j + 2 =>
    simp only [entries, List.getElem?_cons_succ, timesE_at] at h ⊢
    cases ht : tvs[j]? with
    | none => rw [ht] at h; simp at h
    | some t => rw [ht] at h; simp at h; subst h; rfl
theorem apart_at {vs : List Value} (h : Apart vs) {i j : Nat} {a b : Value} (hij : i ≠ j) (ha : vs[i]? = some a) (hb : vs[j]? = some b) : ∀ g, a.ownBlock = some g → b.ownBlock ≠ some g := by
  have hp := List.pairwise_iff_getElem.1 h
  obtain ⟨hi, rfl⟩ := List.getElem?_eq_some_iff.1 ha
  obtain ⟨hj, rfl⟩ := List.getElem?_eq_some_iff.1 hb
  intro g h1 h2
  rcases Nat.lt_or_ge i j with hlt | hge
  · exact hp i j hi hj hlt g h1 h2
  · exact hp j i hj hi (by omega) g h2 h1
end Go.Proofs.Ytoklolfaemhfnaa
