/-
  For the walk of the law's spilt: what holds in its loops.
-/
import Derived.Test.YtoklolfaemhfnaaSpl0
namespace Go.Proofs.Ytoklolfaemhfnaa
open Go.RowKit

/-- What holds from the first loop on. -/
structure Com (w wr : World) (base top L : Nat) (av mv : Value) (E : List (Value × Int)) (box : Array Value) : Prop where
  all : wr.ownsRow (w.heap.size + 1) 68 2 av E.length (numCells E)
  box : BlkAt wr w.heap.size 28 box
  msgs : ∃ cs, wr.ownsRow base 50 4 mv L cs
  mid : Mid base top w wr

theorem Com.keep {w wr w' : World} {base top L : Nat} {av mv : Value} {E : List (Value × Int)} {box : Array Value} (h : Com w wr base top L av mv E box) (k1 : KeepT 68 wr w') (k2 : KeepT 28 wr w') (k3 : KeepT 50 wr w') (hm : Mid base top w w') : Com w w' base top L av mv E box := by
  obtain ⟨cs, hc⟩ := h.msgs
  exact ⟨own_keepT h.all k1, blk_keepT h.box k2, ⟨cs, own_keepT hc k3⟩, hm⟩

theorem keepT_drewN (T : TypeId) (w : World) (n : Nat) : KeepT T w (w.drewN n) := .below (below_drewN (Below.refl _ _) n)
theorem Com.drewN {w wr : World} {base top L : Nat} {av mv : Value} {E : List (Value × Int)} {box : Array Value} (h : Com w wr base top L av mv E box) (n : Nat) : Com w (wr.drewN n) base top L av mv E box :=
  h.keep (keepT_drewN _ _ _) (keepT_drewN _ _ _) (keepT_drewN _ _ _) (h.mid.drewN n)
theorem Com.setInt {w wr : World} {base top L : Nat} {av mv : Value} {E : List (Value × Int)} {box : Array Value} (h : Com w wr base top L av mv E box) {g : Nat} {cur : Array Value} (hg : wr.heap[g]? = some (.cells cur 3 (0, 0))) (ho : Ours base top w.heap.size g) (j : Nat) (u : Value) : Com w (wr.setCell ⟨g, j, none⟩ u) base top L av mv E box :=
  h.keep (.set hg (by decide) j u) (.set hg (by decide) j u) (.set hg (by decide) j u) (h.mid.setCell ho j u)

/-- The second loop: the lists are filled with their marks, the k-th up to its i-th number. -/
def Ph2 (wr : World) (base : Nat) (E : List (Value × Int)) (k i : Nat) : Prop :=
  ∀ (j : Nat) (e : Value × Int), E[j]? = some e → ∃ xs : List Int, wr.ownsRow base 3 1 e.1 xs.length (ints xs) ∧ xs.length ≤ 1000 ∧ (j < k → ∀ q, q < xs.length → xs[q]? = some e.2) ∧ (j = k → ∀ q, q < i → xs[q]? = some e.2)

theorem Ph2.keep {wr w' : World} {base : Nat} {E : List (Value × Int)} {k i : Nat} (h : Ph2 wr base E k i) (hk : KeepT 3 wr w') : Ph2 w' base E k i := fun j e hj => by
  obtain ⟨xs, h1, h2⟩ := h j e hj
  exact ⟨xs, own_keepT h1 hk, h2⟩
theorem Ph2.next {wr : World} {base : Nat} {E : List (Value × Int)} {k i : Nat} (h : Ph2 wr base E k i) (N : Nat) (ao : Option Addr) (c : Nat) (m : Int) (hk : E[k]? = some (.slice ao N c, m)) (hi : N ≤ i) : Ph2 wr base E (k + 1) 0 := fun j e hj => by
  obtain ⟨xs, h1, h2, h3, h4⟩ := h j e hj
  refine ⟨xs, h1, h2, fun hlt q hq => ?_, fun _ q hq => absurd hq (Nat.not_lt_zero _)⟩
  rcases Nat.lt_or_ge j k with hjk | hjk
  · exact h3 hjk q hq
  · have : j = k := by omega
    subst this
    rw [hk] at hj
    injection hj with hj
    subst hj
    obtain ⟨ao', c', hv⟩ := own_form h1
    injection hv with _ hN _
    exact h4 rfl q (by omega)
theorem ints_set (xs : List Int) (i : Nat) (m : Int) : ints (xs.set i m) = (ints xs).set i (.int .i64 m) := by simp [ints, List.map_set]
theorem Ph2.store {wr : World} {base : Nat} {E : List (Value × Int)} {k i : Nat} (h : Ph2 wr base E k i) (g N c : Nat) (m : Int) (hk : E[k]? = some (.slice (some ⟨g, 0, none⟩) N c, m)) (hi : i < N)
    (hap : ∀ (i j : Nat) (e e' : Value × Int), i ≠ j → E[i]? = some e → E[j]? = some e' → ∀ g, e.1.ownBlock = some g → e'.1.ownBlock ≠ some g) : Ph2 (wr.setCell ⟨g, i, none⟩ (.int .i64 m)) base E k (i + 1) := fun j e hj => by
  obtain ⟨xs, h1, h2, h3, h4⟩ := h j e hj
  by_cases hjk : j = k
  · subst hjk
    rw [hk] at hj
    injection hj with hj
    subst hj
    obtain ⟨ao', c', hv⟩ := own_form h1
    injection hv with _ hN _
    subst hN
    have hs := (h1.stored i (.int .i64 m)).1
    rw [← ints_set] at hs
    refine ⟨xs.set i m, by simpa using hs, by simpa using h2, fun hlt => absurd hlt (Nat.lt_irrefl _), fun _ q hq => ?_⟩
    rw [List.getElem?_set]
    by_cases hqi : i = q
    · rw [if_pos hqi, if_pos hi]
    · rw [if_neg hqi]; exact h4 rfl q (by omega)
  · refine ⟨xs, ownsRow_setOther h1 (hap k j _ e (fun e => hjk e.symm) hk hj g rfl) i _, h2, h3, fun e => absurd e hjk⟩

/-- The third loop: every list reads as its mark; those from the k-th on are still to be appended to. -/
structure Ph3 (wr : World) (base top n0 : Nat) (E : List (Value × Int)) (k : Nat) : Prop where
  marked : ∀ e ∈ E, Marked wr e
  len : n0 ≤ E.length
  ahead : ∀ (j : Nat) (e : Value × Int), k ≤ j → j < n0 → E[j]? = some e → (∃ N, N ≤ 1000 ∧ wr.ownsRow base 3 1 e.1 N (ints (List.replicate N e.2))) ∧ (∀ g, e.1.ownBlock = some g → g < top) ∧ ∀ (i : Nat) (e' : Value × Int), i ≠ j → E[i]? = some e' → ∀ g, e'.1.ownBlock = some g → e.1.ownBlock ≠ some g

theorem Ph3.keep {wr w' : World} {base top n0 : Nat} {E : List (Value × Int)} {k : Nat} (h : Ph3 wr base top n0 E k) (hk : KeepT 3 wr w') : Ph3 w' base top n0 E k :=
  ⟨fun e he => (h.marked e he).keepT hk, h.len, fun j e h1 h2 h3 => by
    obtain ⟨⟨N, hN, ho⟩, ht⟩ := h.ahead j e h1 h2 h3
    exact ⟨⟨N, hN, own_keepT ho hk⟩, ht⟩⟩

theorem replicate_of {xs : List Int} {m : Int} (h : ∀ q, q < xs.length → xs[q]? = some m) : xs = List.replicate xs.length m := by
  apply List.ext_getElem?
  intro q
  by_cases hq : q < xs.length
  · rw [h q hq]; simp [hq]
  · rw [List.getElem?_eq_none (by omega), List.getElem?_eq_none (by simpa using hq)]

theorem Ph3.begin {wr : World} {base top : Nat} {E : List (Value × Int)} (h : Ph2 wr base E E.length 0) (hap : ∀ (i j : Nat) (e e' : Value × Int), i ≠ j → E[i]? = some e → E[j]? = some e' → ∀ g, e.1.ownBlock = some g → e'.1.ownBlock ≠ some g)
    (ht : ∀ (j : Nat) (e : Value × Int), E[j]? = some e → ∀ g, e.1.ownBlock = some g → g < top) : Ph3 wr base top E.length E 0 := by
  have key : ∀ (j : Nat) (e : Value × Int), E[j]? = some e → ∃ N, N ≤ 1000 ∧ wr.ownsRow base 3 1 e.1 N (ints (List.replicate N e.2)) := fun j e hj => by
    obtain ⟨xs, h1, h2, h3, _⟩ := h j e hj
    have := replicate_of (h3 (List.getElem?_eq_some_iff.1 hj).1)
    exact ⟨xs.length, h2, by rw [← this]; exact h1⟩
  refine ⟨fun e he => ?_, Nat.le_refl _, fun j e _ _ hj => ⟨key j e hj, ht j e hj, fun i e' hi h1 => hap i j e' e hi h1 hj⟩⟩
  obtain ⟨j, hj⟩ := List.getElem?_of_mem he
  obtain ⟨N, _, ho⟩ := key j e hj
  exact Marked.own ho

/-- The list that is being appended to. -/
structure Cur (w wr : World) (base top n0 : Nat) (E : List (Value × Int)) (k : Nat) (l : Value) (N : Nat) (m : Int) : Prop where
  own : wr.ownsRow base 3 1 l N (ints (List.replicate N m))
  within : ∀ e ∈ E, Within e.1 l N
  far : ∀ (j : Nat) (e : Value × Int), k < j → j < n0 → E[j]? = some e → ∀ g, l.ownBlock = some g → e.1.ownBlock ≠ some g
  ours : ∀ g, l.ownBlock = some g → Ours base top w.heap.size g

theorem Cur.begin {w wr : World} {base top n0 : Nat} {E : List (Value × Int)} {k : Nat} (h : Ph3 wr base top n0 E k) (hk : k < n0) (e : Value × Int) (he : E[k]? = some e) : ∃ N, N ≤ 1000 ∧ Cur w wr base top n0 E k e.1 N e.2 := by
  obtain ⟨⟨N, hN, ho⟩, ht, hap⟩ := h.ahead k e (Nat.le_refl _) hk he
  refine ⟨N, hN, ho, fun x hx => ?_, fun j e' h1 h2 h3 g hg => ?_, fun g hg => .inl ⟨(ho.lt g hg).1, ht g hg⟩⟩
  · obtain ⟨i, hi⟩ := List.getElem?_of_mem hx
    by_cases hik : i = k
    · subst hik
      rw [he] at hi
      injection hi with hi
      subst hi
      exact within_self ho N (Nat.le_refl _) _
    · exact within_apart (hap i x hik hi) N
  · exact (h.ahead j e' (by omega) h2 h3).2.2 k e (by omega) he g hg

theorem Ph3.next {wr : World} {base top n0 : Nat} {E : List (Value × Int)} {k : Nat} (h : Ph3 wr base top n0 E k) : Ph3 wr base top n0 E (k + 1) := ⟨h.marked, h.len, fun j e h1 => h.ahead j e (by omega)⟩

theorem Cur.keep {w wr w' : World} {base top n0 : Nat} {E : List (Value × Int)} {k : Nat} {l : Value} {N : Nat} {m : Int} (h : Cur w wr base top n0 E k l N m) (hk : KeepT 3 wr w') : Cur w w' base top n0 E k l N m := ⟨own_keepT h.own hk, h.within, h.far, h.ours⟩

theorem ints_rep (N : Nat) (m : Int) : ints (List.replicate N m) ++ [Value.int .i64 m] = ints (List.replicate (N + 1) m) := by
  rw [List.replicate_succ']; simp [ints]

/-- Behind the append onto l. -/
theorem append_step {w wr w' : World} {base top n0 : Nat} {E : List (Value × Int)} {k : Nat} {l : Value} {N : Nat} {m : Int} (h3 : Ph3 wr base top n0 E (k + 1)) (hc : Cur w wr base top n0 E k l N m) (hm : w.heap.size ≤ wr.heap.size) (g cap : Nat)
    (hown : w'.ownsRow base 3 1 (.slice (some ⟨g, 0, none⟩) (N + 1) cap) (N + 1) (ints (List.replicate N m) ++ [.int .i64 m])) (hg : wr.grownBy w' l.ownBlock) (hat : l.ownBlock = some g ∨ g = wr.heap.size)
    (hk : ∀ q cur, l.ownBlock = some q → wr.heap[q]? = some (.cells cur 3 (0, 0)) → ∃ cur', w'.heap[q]? = some (.cells cur' 3 (0, 0)) ∧ ∀ j, j < N → cur'[j]? = cur[j]?) :
    Ph3 w' base top n0 E (k + 1) ∧ Cur w w' base top n0 E k (.slice (some ⟨g, 0, none⟩) (N + 1) cap) (N + 1) m := by
  rw [ints_rep] at hown
  refine ⟨⟨fun e he => (h3.marked e he).append (hc.within e he) hg hk, h3.len, fun j e h1 h2 h4 => ?_⟩, ⟨hown, fun e he => ?_, fun j e h1 h2 h4 q hq => ?_, fun q hq => ?_⟩⟩
  · obtain ⟨⟨M, hM, ho⟩, ht⟩ := h3.ahead j e h1 h2 h4
    refine ⟨⟨M, hM, ho.kept hg ?_⟩, ht⟩
    cases hb : e.1.ownBlock with
    | none => exact .inl rfl
    | some q => exact .inr fun e2 => hc.far j e (by omega) h2 h4 q e2.symm hb
  · intro q n cp hv hq
    have hq' : g = q := by simpa [Value.ownBlock] using hq
    subst hq'
    rcases hat with ha | ha
    · have := hc.within e he g n cp hv ha
      omega
    · rcases h3.marked e he with hn | ⟨g2, n2, c2, cur, hv2, hh, _, _⟩
      · rw [hn] at hv; cases hv
      · rw [hv] at hv2
        injection hv2 with h5 _ _
        injection h5 with h5
        injection h5 with h5 _ _
        have := (Array.getElem?_eq_some_iff.1 hh).1
        omega
  · have hq' : g = q := by simpa [Value.ownBlock] using hq
    subst hq'
    rcases hat with ha | ha
    · exact hc.far j e h1 h2 h4 g ha
    · intro hb
      obtain ⟨⟨M, hM, ho⟩, _⟩ := h3.ahead j e (by omega) h2 h4
      have := (ho.lt g hb).2
      omega
  · have hq' : g = q := by simpa [Value.ownBlock] using hq
    subst hq'
    rcases hat with ha | ha
    · exact hc.ours g ha
    · exact .inr (by omega)

/-- The new list stands among the others. -/
theorem more_step {w wr : World} {base top n0 : Nat} {E : List (Value × Int)} {k : Nat} {l : Value} {N : Nat} {m : Int} (h3 : Ph3 wr base top n0 E (k + 1)) (hc : Cur w wr base top n0 E k l N m) :
    Ph3 wr base top n0 (E ++ [(l, m)]) (k + 1) ∧ Cur w wr base top n0 (E ++ [(l, m)]) k l N m := by
  have old : ∀ j, j < n0 → (E ++ [(l, m)])[j]? = E[j]? := fun j hj => List.getElem?_append_left (by have := h3.len; omega)
  refine ⟨⟨fun e he => ?_, by have := h3.len; simp; omega, fun j e h1 h2 h4 => ?_⟩, ⟨hc.own, fun e he => ?_, fun j e h1 h2 h4 => hc.far j e h1 h2 (by rwa [old j h2] at h4), hc.ours⟩⟩
  · rcases List.mem_append.1 he with he | he
    · exact h3.marked e he
    · simp at he; subst he; exact Marked.own hc.own
  · rw [old j h2] at h4
    obtain ⟨h5, h6, h7⟩ := h3.ahead j e h1 h2 h4
    refine ⟨h5, h6, fun i e' hi he' g hg => ?_⟩
    rcases Nat.lt_or_ge i E.length with hlt | hge
    · rw [List.getElem?_append_left hlt] at he'
      exact h7 i e' hi he' g hg
    · rw [List.getElem?_append_right hge] at he'
      have : i - E.length = 0 := by
        rcases Nat.eq_zero_or_pos (i - E.length) with h | h
        · exact h
        · rw [List.getElem?_eq_none (by simp; omega)] at he'; cases he'
      rw [this] at he'
      simp at he'
      subst he'
      exact hc.far j e (by omega) h2 h4 g hg
  · rcases List.mem_append.1 he with he | he
    · exact hc.within e he
    · simp at he; subst he; exact within_self hc.own N (Nat.le_refl _) _

theorem Com.setMsg {w wr : World} {base top L gm mc : Nat} {av : Value} {E : List (Value × Int)} {box : Array Value} (h : Com w wr base top L av (.slice (some ⟨gm, 0, none⟩) L mc) E box) (ho : Ours base top w.heap.size gm) (j : Nat) (u : Value) :
    Com w (wr.setCell ⟨gm, j, none⟩ u) base top L av (.slice (some ⟨gm, 0, none⟩) L mc) E box ∧ KeepT 3 wr (wr.setCell ⟨gm, j, none⟩ u) := by
  obtain ⟨cs, hc⟩ := h.msgs
  obtain ⟨cur, hg⟩ := own_block hc rfl
  exact ⟨⟨own_keepT h.all (.set hg (by decide) j u), blk_keepT h.box (.set hg (by decide) j u), ⟨_, (hc.stored j u).1⟩, h.mid.setCell ho j u⟩, .set hg (by decide) j u⟩
/-- What the k-th of the lists looks like. -/
theorem Marked.form {w : World} {v : Value} {m : Int} (h : Marked w (v, m)) : ∃ ao n c, v = .slice ao n c ∧ n ≤ maxLen ∧ ∀ q, q < n → ∃ g, ao = some ⟨g, 0, none⟩ ∧ g < w.heap.size ∧ w.cell? ⟨g, q, none⟩ = some (.int .i64 m) := by
  rcases h with h | ⟨g, n, cap, cur, hv, hc, hm, hj⟩
  · exact ⟨none, 0, 0, h, Nat.zero_le _, fun q hq => absurd hq (Nat.not_lt_zero _)⟩
  · exact ⟨_, n, cap, hv, hm, fun q hq => ⟨g, rfl, (Array.getElem?_eq_some_iff.1 hc).1, BlkAt.cell hc q _ (hj q hq)⟩⟩
end Go.Proofs.Ytoklolfaemhfnaa
