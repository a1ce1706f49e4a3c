/-
  For the walk of the law News: the law's World: the two groups and the caller's lists, each full of its mark; append, with what becomes of the row that was appended to.
-/
import Derived.Test.YtoklolfaemhfnaaGreatDoorNwK
namespace Go.Proofs.YtoklolfaemhfnaaGreatDoor
open Go.RowKit

/-- append of one element to a list that is owned: what stood in the old row stands there still. -/
theorem append_gen_run (t ty e : TypeId) (i : TypeInfo) (z : Value) (size bytes : Nat) (ht : Tryz.prog.underlying t = some (.slice e)) (hi : Tryz.prog.info? e = some i) (hz : i.zero = some z) (hsize : i.size = size) (hby : i.bytes = bytes) (hzs : z.cells.size = size) (hsz : 0 < size)
    (w : World) (base : Nat) (v : Value) (n : Nat) (xs : List Value) (hown : w.ownsRow base e size v n xs) (ad : Addr) (c : Nat) (news : List Value) (hl : news.length = 1 * size) (hnews : ∀ j u, news[j]? = some u → w.cell? (ad.add j) = some u) (h1 : ∀ u ∈ news, u.oneCell' = true)
    (h63 : n + 1 ≤ maxLen) (hbytes : (n + 1) * bytes ≤ 140737488355328) (hbase : base ≤ w.heap.size) :
    ∃ g cap w', (Builtin.append_ #[t, t] ty #[v, .slice (some ad) 1 c]).run Tryz.prog w = .ok (.slice (some ⟨g, 0, none⟩) (n + 1) cap) w' ∧ w'.ownsRow base e size (.slice (some ⟨g, 0, none⟩) (n + 1) cap) (n + 1) (xs ++ news) ∧
      w.grownBy w' v.ownBlock ∧ (v.ownBlock = some g ∨ g = w.heap.size) ∧
      ∀ q cur, v.ownBlock = some q → w.heap[q]? = some (.cells cur e (0, 0)) → ∃ cur', w'.heap[q]? = some (.cells cur' e (0, 0)) ∧ ∀ j, j < n * size → cur'[j]? = cur[j]? := by
  obtain ⟨v', w', hr, h2, h3, _, h5⟩ := run_append_own_at (P := Tryz.prog) w base t ty e i z size bytes ht hi hz hsize hby hzs hsz v n xs hown ad 1 c news hl hnews h1 h63 hbytes hbase
  obtain ⟨g, cap, rfl, _, hlt⟩ := World.ownsRow.form h2 (by omega)
  refine ⟨g, cap, w', hr, h2, h3, ?_, ?_⟩
  · rcases h5 with h5 | h5
    · exact .inl (by rw [← h5]; rfl)
    · right; simpa [Value.ownBlock] using h5
  · intro q cur hq hc
    rcases hown.2 with ⟨rfl, rfl⟩ | ⟨g', cap', cur', rfl, hbg, hg', hnc, hcm, hcs, htake⟩
    · simp [Value.ownBlock] at hq
    · have e1 : g' = q := by simpa [Value.ownBlock] using hq
      subst e1
      have e2 : cur' = cur := by rw [hg'] at hc; simpa using hc
      subst e2
      by_cases hroom : n + 1 ≤ cap'
      · have hfit : n * i.size + news.length ≤ cur'.size := by
          rw [hsize, hcs, hl, ← Nat.add_mul]
          exact Nat.mul_le_mul_right _ hroom
        have hr2 := run_append_room (P := Tryz.prog) w t ty e i ht hi g' n cap' cur' hg' ad 1 c news (by rw [hsize]; exact hl) hnews h1 hroom hfit
        rw [hr] at hr2
        injection hr2 with _ e3
        subst e3
        refine ⟨_, setRow_heap w g' cur' _ e _ hg', fun j hj => ?_⟩
        have hjl : j < (List.take (n * i.size) cur'.toList).length := by rw [hsize] at hfit ⊢; simp; omega
        simp only [List.getElem?_toArray, List.append_assoc]
        rw [List.getElem?_append_left hjl, List.getElem?_take, if_pos (by rw [hsize]; omega)]
        simp
      · have hr2 := run_append_grow (P := Tryz.prog) w t ty e i z ht hi hz ⟨g', 0, none⟩ n cap' xs (by rw [hsize]; exact hown.1) (hown.cells (g := g') rfl) ad 1 c news (by rw [hsize]; exact hl) hnews (by omega) (by unfold maxLen at h63; omega) (growslice_fits (by omega) (by rw [hby]; omega))
        rw [hr] at hr2
        injection hr2 with _ e3
        subst e3
        refine ⟨cur', (heap_alloc_old w.drew _ (show g' < w.drew.heap.size from (Array.getElem?_eq_some_iff.1 hg').1)).trans hg', fun j _ => rfl⟩

theorem wpList_append_gen {ops : Array Oper} {rest : List Oper} {o : Oper} {a : Act} {Q : Exit → Act → World → Prop} {w : World} (hgd : o.guard = none) (s x : Operand) (t : TypeId)
    (ho : o.op = .call { callee := .builtin .append, args := #[s, x], argTypes := #[t, t] }) (base : Nat) (e : TypeId) (i : TypeInfo) (z : Value) (size bytes : Nat) (ht : Tryz.prog.underlying t = some (.slice e)) (hi : Tryz.prog.info? e = some i) (hz : i.zero = some z) (hsize : i.size = size) (hby : i.bytes = bytes) (hzs : z.cells.size = size) (hsz : 0 < size)
    (v : Value) (n : Nat) (xs : List Value) (hs : a.eval s = v) (hown : w.ownsRow base e size v n xs) (ad : Addr) (c : Nat) (news : List Value) (hx : a.eval x = .slice (some ad) 1 c) (hl : news.length = 1 * size) (hnews : ∀ j u, news[j]? = some u → w.cell? (ad.add j) = some u) (h1 : ∀ u ∈ news, u.oneCell' = true)
    (h63 : n + 1 ≤ maxLen) (hbytes : (n + 1) * bytes ≤ 140737488355328) (hbase : base ≤ w.heap.size)
    (h : ∀ g cap w', w'.ownsRow base e size (.slice (some ⟨g, 0, none⟩) (n + 1) cap) (n + 1) (xs ++ news) → w.grownBy w' v.ownBlock → (v.ownBlock = some g ∨ g = w.heap.size) →
      (∀ q cur, v.ownBlock = some q → w.heap[q]? = some (.cells cur e (0, 0)) → ∃ cur', w'.heap[q]? = some (.cells cur' e (0, 0)) ∧ ∀ j, j < n * size → cur'[j]? = cur[j]?) → wpList Tryz.prog ops Q rest (a.put o.dst (.slice (some ⟨g, 0, none⟩) (n + 1) cap)) w') :
    wpList Tryz.prog ops Q (o :: rest) a w := by
  refine wpList_plain hgd fun K hK => ?_
  obtain ⟨g, cap, w', hr, h2, h3, h4, h5⟩ := append_gen_run t o.type e i z size bytes ht hi hz hsize hby hzs hsz w base v n xs hown ad c news hl hnews h1 h63 hbytes hbase
  unfold Oper.wp execOp
  simp only [ho, resolve, invoke, builtin, Sem.run_bind, Sem.run_pure, Result.andThen_ok, List.map_toArray, List.map_cons, List.map_nil, hs, hx, hr]
  exact hK _ _ (h g cap w' h2 h3 h4 h5)

/-- A list of lists with their marks, as it lies in memory. -/
def numCells : List (Value × Int) → List Value
  | [] => []
  | e :: E => e.1 :: .int .i64 e.2 :: numCells E
theorem numCells_length : ∀ E : List (Value × Int), (numCells E).length = E.length * 2
  | [] => rfl
  | e :: E => by simp [numCells, numCells_length E]; omega
theorem numCells_append : ∀ (E F : List (Value × Int)), numCells (E ++ F) = numCells E ++ numCells F
  | [], F => rfl
  | e :: E, F => by simp [numCells, numCells_append E F]
theorem numCells_at : ∀ (E : List (Value × Int)) (k : Nat) (e : Value × Int), E[k]? = some e → (numCells E)[k * 2]? = some e.1 ∧ (numCells E)[k * 2 + 1]? = some (.int .i64 e.2)
  | [], k, e, h => by simp at h
  | x :: E, 0, e, h => by simp at h; subst h; simp [numCells]
  | x :: E, k + 1, e, h => by
    have ih := numCells_at E k e (by simpa using h)
    rw [show (k + 1) * 2 = k * 2 + 1 + 1 from by omega]
    simpa [numCells] using ih

/-- What the caller writes into a list of numbers, and into one of events. -/
def inc (k : Int) : List Value := [.int .i64 (-1 - k)]
def evc (k : Int) : List Value := [.int .i64 (-1 - k), .int .i64 0, .int .i64 0, .int .i64 0, .int .i64 0, .string ⟨#[109, 97, 114, 107]⟩]

/-- N times the same cells. -/
def reps : Nat → List Value → List Value
  | 0, _ => []
  | n + 1, c => reps n c ++ c
theorem reps_length : ∀ (n : Nat) (c : List Value), (reps n c).length = n * c.length
  | 0, _ => by simp [reps]
  | n + 1, c => by simp [reps, reps_length n c, Nat.add_mul]
theorem reps_at : ∀ (n : Nat) (c : List Value) (j i : Nat) (u : Value), j < n → c[i]? = some u → (reps n c)[j * c.length + i]? = some u
  | 0, _, _, _, _, h, _ => absurd h (Nat.not_lt_zero _)
  | n + 1, c, j, i, u, h, hi => by
    have hil := (List.getElem?_eq_some_iff.1 hi).1
    rcases Nat.lt_or_ge j n with hj | hj
    · have hlt : j * c.length + i < (reps n c).length := by
        rw [reps_length]
        calc j * c.length + i < j * c.length + c.length := by omega
          _ = (j + 1) * c.length := by rw [Nat.add_mul, Nat.one_mul]
          _ ≤ n * c.length := Nat.mul_le_mul_right _ hj
      rw [reps, List.getElem?_append_left hlt]
      exact reps_at n c j i u hj hi
    · have : j = n := by omega
      subst this
      rw [reps, List.getElem?_append_right (by rw [reps_length]; omega), reps_length, Nat.add_sub_cancel_left]
      exact hi

/-- Every element of the list is its mark. -/
def MarkG (T : TypeId) (sz : Nat) (c : Int → List Value) (w : World) (e : Value × Int) : Prop :=
  (0 ≤ e.2 ∧ e.2 ≤ 1000) ∧ (e.1 = .slice none 0 0 ∨ ∃ g n cap cur, e.1 = .slice (some ⟨g, 0, none⟩) n cap ∧ w.heap[g]? = some (.cells cur T (0, 0)) ∧ n ≤ 1000 ∧ ∀ j i u, j < n → (c e.2)[i]? = some u → cur[j * sz + i]? = some u)

theorem MarkG.keepT {T : TypeId} {sz : Nat} {c : Int → List Value} {w w' : World} {e : Value × Int} (h : MarkG T sz c w e) (k : KeepT T w w') : MarkG T sz c w' e := by
  rcases h with ⟨h0, h | ⟨g, n, cap, cur, hv, hc, hm, hj⟩⟩
  · exact ⟨h0, .inl h⟩
  · exact ⟨h0, .inr ⟨g, n, cap, cur, hv, k g cur hc, hm, hj⟩⟩
/-- The list e, if it lies in l's row, is no longer than N. -/
def Within (e l : Value) (N : Nat) : Prop := ∀ g n cap, e = .slice (some ⟨g, 0, none⟩) n cap → l.ownBlock = some g → n ≤ N
/-- A list with its mark, behind an append onto l. -/
theorem MarkG.append {T : TypeId} {sz : Nat} {c : Int → List Value} {w w' : World} {e : Value × Int} {l : Value} {N : Nat} (h : MarkG T sz c w e) (hlen : (c e.2).length = sz) (hw : Within e.1 l N) (hg : w.grownBy w' l.ownBlock)
    (hk : ∀ q cur, l.ownBlock = some q → w.heap[q]? = some (.cells cur T (0, 0)) → ∃ cur', w'.heap[q]? = some (.cells cur' T (0, 0)) ∧ ∀ j, j < N * sz → cur'[j]? = cur[j]?) : MarkG T sz c w' e := by
  rcases h with ⟨h0, h | ⟨g, n, cap, cur, hv, hc, hm, hj⟩⟩
  · exact ⟨h0, .inl h⟩
  · refine ⟨h0, ?_⟩
    by_cases he : l.ownBlock = some g
    · obtain ⟨cur', h1, h2⟩ := hk g cur he hc
      have hnN := hw g n cap hv he
      refine .inr ⟨g, n, cap, cur', hv, h1, hm, fun j i u hjn hi => (h2 _ ?_).trans (hj j i u hjn hi)⟩
      have hil := (List.getElem?_eq_some_iff.1 hi).1
      calc j * sz + i < j * sz + sz := by omega
        _ = (j + 1) * sz := by rw [Nat.add_mul, Nat.one_mul]
        _ ≤ N * sz := Nat.mul_le_mul_right _ (by omega)
    · exact .inr ⟨g, n, cap, cur, hv, (hg.block g (Array.getElem?_eq_some_iff.1 hc).1 (fun e => he e.symm)).trans hc, hm, hj⟩
/-- A list that is owned and full of its mark. -/
theorem MarkG.own {T : TypeId} {sz : Nat} {c : Int → List Value} {w : World} {b n : Nat} {v : Value} {k : Int} (h : w.ownsRow b T sz v n (reps n (c k))) (hlen : (c k).length = sz) (hn : n ≤ 1000) (hk : 0 ≤ k ∧ k ≤ 1000) : MarkG T sz c w (v, k) := by
  refine ⟨hk, ?_⟩
  rcases h with ⟨hl, ⟨rfl, h0⟩ | ⟨q, cap, cur, rfl, hb, hq, hnc, hcm, _, ht⟩⟩
  · exact .inl rfl
  · refine .inr ⟨q, n, cap, cur, rfl, hq, hn, fun j i u hj hi => ?_⟩
    have h1 := reps_at n (c k) j i u hj hi
    have hil : i < (c k).length := (List.getElem?_eq_some_iff.1 hi).1
    have hlt : j * sz + i < n * sz := by
      calc j * sz + i < j * sz + sz := by omega
        _ = (j + 1) * sz := by rw [Nat.add_mul, Nat.one_mul]
        _ ≤ n * sz := Nat.mul_le_mul_right _ hj
    rw [hlen, ← ht, List.getElem?_take, if_pos hlt] at h1
    simpa using h1
theorem within_self {w : World} {b n sz : Nat} {e : TypeId} {v : Value} {xs : List Value} (h : w.ownsRow b e sz v n xs) (l : Value) : Within v l n := by
  intro g k cap hv _
  obtain ⟨ao, c, rfl⟩ := own_form h
  injection hv with _ h2 _
  omega

/-- The law's World: its block, the groups' addresses, the caller's lists with their marks. -/
structure St (w0 wr : World) (wb gx gy : Nat) (ev iv : Value) (E F : List (Value × Int)) : Prop where
  box : BlkAt wr wb 83 #[.pointer (some ⟨gx, 0, none⟩), .pointer (some ⟨gy, 0, none⟩), ev, iv]
  evs : wr.ownsRow (wb + 1) 85 2 ev E.length (numCells E)
  ins : wr.ownsRow (wb + 1) 88 2 iv F.length (numCells F)
  eM : ∀ e ∈ E, MarkG 64 6 evc wr e
  iM : ∀ e ∈ F, MarkG 3 1 inc wr e
  bel : Below wb w0 wr

theorem St.later {w0 wr w' : World} {wb gx gy : Nat} {ev iv : Value} {E F : List (Value × Int)} (h : St w0 wr wb gx gy ev iv E F) (hb : Below wr.heap.size wr w') : St w0 w' wb gx gy ev iv E F :=
  ⟨h.box.below hb h.box.lt, own_keepT h.evs (.below hb), own_keepT h.ins (.below hb), fun e he => (h.eM e he).keepT (.below hb), fun e he => (h.iM e he).keepT (.below hb), h.bel.trans (hb.mono (Nat.le_of_lt h.box.lt))⟩

/-- What changes when a list of numbers, that the caller owns, is written into or appended to. -/
theorem St.ints {w0 wr w' : World} {wb gx gy : Nat} {ev iv : Value} {E F : List (Value × Int)} (h : St w0 wr wb gx gy ev iv E F) (k : ∀ T, T ≠ 3 → KeepT T wr w') (hI : ∀ e ∈ F, MarkG 3 1 inc w' e) (hb : Below wb wr w') : St w0 w' wb gx gy ev iv E F :=
  ⟨blk_keepT h.box (k _ (by decide)), own_keepT h.evs (k _ (by decide)), own_keepT h.ins (k _ (by decide)), fun e he => (h.eM e he).keepT (k _ (by decide)), hI, h.bel.trans hb⟩
theorem St.events {w0 wr w' : World} {wb gx gy : Nat} {ev iv : Value} {E F : List (Value × Int)} (h : St w0 wr wb gx gy ev iv E F) (k : ∀ T, T ≠ 64 → KeepT T wr w') (hE : ∀ e ∈ E, MarkG 64 6 evc w' e) (hb : Below wb wr w') : St w0 w' wb gx gy ev iv E F :=
  ⟨blk_keepT h.box (k _ (by decide)), own_keepT h.evs (k _ (by decide)), own_keepT h.ins (k _ (by decide)), hE, fun e he => (h.iM e he).keepT (k _ (by decide)), h.bel.trans hb⟩

/-- A list more among those of numbers: the longer list of lists, and the store of it. -/
theorem St.moreI {w0 wr w1 : World} {wb gx gy : Nat} {ev iv : Value} {E F : List (Value × Int)} (h : St w0 wr wb gx gy ev iv E F) (l : Value) (k : Int) (g cap : Nat) (hown : w1.ownsRow (wb + 1) 88 2 (.slice (some ⟨g, 0, none⟩) (F.length + 1) cap) (F.length + 1) (numCells F ++ [l, .int .i64 k]))
    (hg : wr.grownBy w1 iv.ownBlock) (hm : MarkG 3 1 inc wr (l, k)) : St w0 (w1.setCell ⟨wb, 3, none⟩ (.slice (some ⟨g, 0, none⟩) (F.length + 1) cap)) wb gx gy ev (.slice (some ⟨g, 0, none⟩) (F.length + 1) cap) E (F ++ [(l, k)]) := by
  have k1 : ∀ T, T ≠ 88 → KeepT T wr w1 := fun T hT => KeepT.grown h.ins (fun e => hT e.symm) hg
  have hB1 := blk_keepT h.box (k1 83 (by decide))
  have k2 : ∀ T, T ≠ 83 → KeepT T w1 (w1.setCell ⟨wb, 3, none⟩ (.slice (some ⟨g, 0, none⟩) (F.length + 1) cap)) := fun T hT => KeepT.set hB1 (fun e => hT e.symm) 3 _
  refine ⟨hB1.set 3 _, own_keepT h.evs ((k1 _ (by decide)).trans (k2 _ (by decide))), ?_, fun e he => (h.eM e he).keepT ((k1 _ (by decide)).trans (k2 _ (by decide))), fun e he => ?_, ?_⟩
  · rw [numCells_append, List.length_append]
    exact own_keepT hown (k2 _ (by decide))
  · rcases List.mem_append.1 he with he | he
    · exact (h.iM e he).keepT ((k1 _ (by decide)).trans (k2 _ (by decide)))
    · simp at he
      subst he
      exact hm.keepT ((k1 _ (by decide)).trans (k2 _ (by decide)))
  · exact (h.bel.trans (grown_below hg (Nat.le_of_lt h.box.lt) (fun x hx => by have := (h.ins.lt x hx).1; omega))).trans (((Only.refl wb w1).set 3 _).below (Nat.le_refl _))
theorem St.moreE {w0 wr w1 : World} {wb gx gy : Nat} {ev iv : Value} {E F : List (Value × Int)} (h : St w0 wr wb gx gy ev iv E F) (l : Value) (k : Int) (g cap : Nat) (hown : w1.ownsRow (wb + 1) 85 2 (.slice (some ⟨g, 0, none⟩) (E.length + 1) cap) (E.length + 1) (numCells E ++ [l, .int .i64 k]))
    (hg : wr.grownBy w1 ev.ownBlock) (hm : MarkG 64 6 evc wr (l, k)) : St w0 (w1.setCell ⟨wb, 2, none⟩ (.slice (some ⟨g, 0, none⟩) (E.length + 1) cap)) wb gx gy (.slice (some ⟨g, 0, none⟩) (E.length + 1) cap) iv (E ++ [(l, k)]) F := by
  have k1 : ∀ T, T ≠ 85 → KeepT T wr w1 := fun T hT => KeepT.grown h.evs (fun e => hT e.symm) hg
  have hB1 := blk_keepT h.box (k1 83 (by decide))
  have k2 : ∀ T, T ≠ 83 → KeepT T w1 (w1.setCell ⟨wb, 2, none⟩ (.slice (some ⟨g, 0, none⟩) (E.length + 1) cap)) := fun T hT => KeepT.set hB1 (fun e => hT e.symm) 2 _
  refine ⟨hB1.set 2 _, ?_, own_keepT h.ins ((k1 _ (by decide)).trans (k2 _ (by decide))), fun e he => ?_, fun e he => (h.iM e he).keepT ((k1 _ (by decide)).trans (k2 _ (by decide))), ?_⟩
  · rw [numCells_append, List.length_append]
    exact own_keepT hown (k2 _ (by decide))
  · rcases List.mem_append.1 he with he | he
    · exact (h.eM e he).keepT ((k1 _ (by decide)).trans (k2 _ (by decide)))
    · simp at he
      subst he
      exact hm.keepT ((k1 _ (by decide)).trans (k2 _ (by decide)))
  · exact (h.bel.trans (grown_below hg (Nat.le_of_lt h.box.lt) (fun x hx => by have := (h.evs.lt x hx).1; omega))).trans (((Only.refl wb w1).set 2 _).below (Nat.le_refl _))
end Go.Proofs.YtoklolfaemhfnaaGreatDoor
