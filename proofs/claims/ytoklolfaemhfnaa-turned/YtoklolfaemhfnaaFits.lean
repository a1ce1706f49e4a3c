/-
  The walks of wire's bounds (within, listFits, msgFits, msgsFit): each returns what the plain function of the Codec text says; below the blocks that were there the world is as it was.
-/
import Derived.Test.YtoklolfaemhfnaaSumB
import Derived.Test.YtoklolfaemhfnaaCodec
namespace Go.Proofs.Ytoklolfaemhfnaa
open Go.RowKit

theorem ret_bool {a b : Bool} (h : a = b) : Ending.returned (.bool a) = .returned (.bool b) := by rw [h]

/-- A slice of numbers: what it holds, all below block B. -/
def NumsAt (w : World) (B : Nat) (v : Value) (l : List Int) : Prop :=
  ((∃ ao c, v = .slice ao 0 c) ∧ l = []) ∨
  ∃ b off cap, v = .slice (some ⟨b, off, none⟩) l.length cap ∧ b < B ∧ ∀ j, j < l.length → w.cell? ⟨b, off + j, none⟩ = some (.int .i64 (l.getD j 0))

/-- A slice of messages. -/
def MsgsAt (w : World) (B : Nat) (v : Value) (l : List Codec.Msg) : Prop :=
  ((∃ ao c, v = .slice ao 0 c) ∧ l = []) ∨
  ∃ b off cap, v = .slice (some ⟨b, off, none⟩) l.length cap ∧ b < B ∧ ∀ j m, l[j]? = some m →
    ∃ tv, w.cell? ⟨b, off + j * 4, none⟩ = some (.int .i64 m.sender) ∧ w.cell? ⟨b, off + j * 4 + 1, none⟩ = some (.int .i64 m.seq) ∧
      w.cell? ⟨b, off + j * 4 + 2, none⟩ = some tv ∧ w.cell? ⟨b, off + j * 4 + 3, none⟩ = some (.string m.text) ∧ NumsAt w B tv m.time

theorem NumsAt.below {w w' : World} {B : Nat} {v : Value} {l : List Int} (h : NumsAt w B v l) (hb : Below B w w') : NumsAt w' B v l := by
  rcases h with ⟨hv, hl⟩ | ⟨b, off, cap, hv, hB, hc⟩
  · exact .inl ⟨hv, hl⟩
  · exact .inr ⟨b, off, cap, hv, hB, fun j hj => (hb.cell (p := ⟨b, off + j, none⟩) hB).trans (hc j hj)⟩
theorem NumsAt.up {w : World} {B B' : Nat} {v : Value} {l : List Int} (h : NumsAt w B v l) (hb : B ≤ B') : NumsAt w B' v l := by
  rcases h with ⟨hv, hl⟩ | ⟨b, off, cap, hv, hB, hc⟩
  · exact .inl ⟨hv, hl⟩
  · exact .inr ⟨b, off, cap, hv, by omega, hc⟩
theorem MsgsAt.below {w w' : World} {B : Nat} {v : Value} {l : List Codec.Msg} (h : MsgsAt w B v l) (hb : Below B w w') : MsgsAt w' B v l := by
  rcases h with ⟨hv, hl⟩ | ⟨b, off, cap, hv, hB, hc⟩
  · exact .inl ⟨hv, hl⟩
  · refine .inr ⟨b, off, cap, hv, hB, fun j m hj => ?_⟩
    obtain ⟨tv, h0, h1, h2, h3, ht⟩ := hc j m hj
    exact ⟨tv, (hb.cell (p := ⟨b, _, none⟩) hB).trans h0, (hb.cell (p := ⟨b, _, none⟩) hB).trans h1, (hb.cell (p := ⟨b, _, none⟩) hB).trans h2, (hb.cell (p := ⟨b, _, none⟩) hB).trans h3, ht.below hb⟩
theorem MsgsAt.up {w : World} {B B' : Nat} {v : Value} {l : List Codec.Msg} (h : MsgsAt w B v l) (hb : B ≤ B') : MsgsAt w B' v l := by
  rcases h with ⟨hv, hl⟩ | ⟨b, off, cap, hv, hB, hc⟩
  · exact .inl ⟨hv, hl⟩
  · refine .inr ⟨b, off, cap, hv, by omega, fun j m hj => ?_⟩
    obtain ⟨tv, h0, h1, h2, h3, ht⟩ := hc j m hj
    exact ⟨tv, h0, h1, h2, h3, ht.up hb⟩

theorem NumsAt.form {w : World} {B : Nat} {v : Value} {l : List Int} (h : NumsAt w B v l) : ∃ ao n c, v = .slice ao n c := by
  rcases h with ⟨⟨_, _, hv⟩, _⟩ | ⟨b, off, cap, hv, _⟩
  · exact ⟨_, _, _, hv⟩
  · exact ⟨_, _, _, hv⟩
theorem MsgsAt.form {w : World} {B : Nat} {v : Value} {l : List Codec.Msg} (h : MsgsAt w B v l) : ∃ ao n c, v = .slice ao n c := by
  rcases h with ⟨⟨_, _, hv⟩, _⟩ | ⟨b, off, cap, hv, _⟩
  · exact ⟨_, _, _, hv⟩
  · exact ⟨_, _, _, hv⟩

/-! ### The bounds of P4 -/
set_option maxHeartbeats 400000 in
theorem within_any (n lo hi : Int) (w : World) :
    Calls Try.prog 48 #[.int .i64 n, .int .i64 lo, .int .i64 hi] w fun e w' => e = .returned (.bool (Codec.inB n lo hi)) ∧ w' = w := by
  by_cases h1 : lo ≤ n
  · by_cases h2 : n ≤ hi
    · have H : Hid (Codec.inB n lo hi = true) := Codec.inB_iff.2 ⟨h1, h2⟩
      go_enter Try.func48, Try.ntmps48
      go_wp2
      go_ret
      exact ⟨ret_bool H.out.symm, rfl⟩
    · have H : Hid (Codec.inB n lo hi = false) := by show _ = _; simp [Codec.inB, h2]
      go_enter Try.func48, Try.ntmps48
      go_wp2
      go_ret
      exact ⟨ret_bool H.out.symm, rfl⟩
  · have H : Hid (Codec.inB n lo hi = false) := by show _ = _; simp [Codec.inB, h1]
    go_enter Try.func48, Try.ntmps48
    go_wp2
    go_ret
    exact ⟨ret_bool H.out.symm, rfl⟩

theorem all_step (l : List Int) (k : Nat) (hk : k < l.length) : (l.take (k + 1)).all (fun n => Codec.inB n 0 20) = ((l.take k).all (fun n => Codec.inB n 0 20) && Codec.inB (l.getD k 0) 0 20) := by
  rw [List.take_succ_eq_append_getElem hk, List.all_append, List.getD_eq_getElem?_getD, List.getElem?_eq_getElem hk]; simp
theorem all_no (l : List Int) (k : Nat) (hk : k < l.length) (h : Codec.inB (l.getD k 0) 0 20 = false) : l.all (fun n => Codec.inB n 0 20) = false := by
  rw [List.all_eq_false]
  refine ⟨l.getD k 0, ?_, by rw [h]; simp⟩
  rw [List.getD_eq_getElem?_getD, List.getElem?_eq_getElem hk]; simp

set_option maxHeartbeats 400000 in
theorem listFits_any (v : Value) (l : List Int) (B : Nat) (w : World) (h : NumsAt w B v l) :
    Calls Try.prog 37 #[v] w fun e w' => e = .returned (.bool (Codec.listFits l)) ∧ w' = w := by
  rcases h with ⟨⟨ao0, c0, rfl⟩, rfl⟩ | ⟨b, off, cap, rfl, -, hc⟩
  · go_enter Try.func37, Try.ntmps37
    go_wp2
    go_loop [10] (fun i => i = .int .i64 0) (fun _ => 0)
    case atStart => rfl
    case round =>
      subst hrel
      go_wp2
      go_ret
      exact ⟨rfl, rfl⟩
  · by_cases h6 : l.length ≤ 6
    · have HC : Hid (∀ j, j < l.length → w.cell? ⟨b, off + j, none⟩ = some (.int .i64 (l.getD j 0))) := hc
      clear hc
      go_enter Try.func37, Try.ntmps37
      go_wp2
      go_loop [10] (fun i => ∃ k : Nat, k ≤ l.length ∧ i = .int .i64 k ∧ Hid ((l.take k).all (fun n => Codec.inB n 0 20) = true)) (fun i => l.length - (intOf i).toNat)
      case atStart => exact ⟨0, by omega, rfl, rfl⟩
      case round =>
        obtain ⟨k, hk, rfl, HA⟩ := hrel
        by_cases hlt : k < l.length
        · have hck := HC.out k hlt
          have HS : Hid (_ = _) := all_step l k hlt
          have HN : Hid (_ → _) := all_no l k hlt
          generalize l.getD k 0 = x at hck HS HN
          cases hin : Codec.inB x 0 20 with
          | true =>
            go_wp2_with (go_at_call 48; refine (within_any _ _ _ _).mono ?_; rintro e w' ⟨rfl, rfl⟩)
            go_round
            case rel => exact ⟨k + 1, by omega, by go_num, by show _ = _; rw [HS.out, HA.out, hin]; rfl⟩
            case measure => simp [intOf]; omega
          | false =>
            have HF : Hid (Codec.listFits l = false) := by show _ = _; unfold Codec.listFits; rw [HN.out hin]; simp
            go_wp2_with (go_at_call 48; refine (within_any _ _ _ _).mono ?_; rintro e w' ⟨rfl, rfl⟩)
            go_ret
            exact ⟨ret_bool HF.out.symm, rfl⟩
        · have HF : Hid (Codec.listFits l = true) := by
            show _ = _
            have := HA.out
            rw [List.take_of_length_le (by omega)] at this
            unfold Codec.listFits; rw [this]; simp [h6]
          go_wp2
          go_ret
          exact ⟨ret_bool HF.out.symm, rfl⟩
    · have HF : Hid (Codec.listFits l = false) := by show _ = _; simp [Codec.listFits, h6]
      go_enter Try.func37, Try.ntmps37
      go_wp2
      go_ret
      exact ⟨ret_bool HF.out.symm, rfl⟩

/-- The value of a message. -/
def msgV (m : Codec.Msg) (tv : Value) : Value := .agg #[.int .i64 m.sender, .int .i64 m.seq, tv, .string m.text]
/-- The value of a frame. -/
def frameV (f : Codec.Frame) (rv cv mv : Value) : Value := .agg #[.int .i64 f.kind, .int .i64 f.src, .int .i64 f.dst, .int .i64 f.members, .int .i64 f.view, .int .i64 f.ballot, .int .i64 f.voted, rv, cv, mv]

set_option maxHeartbeats 400000 in
theorem msgFits_any (m : Codec.Msg) (tv : Value) (B : Nat) (w : World) (h : NumsAt w B tv m.time) (hB : B ≤ w.heap.size) :
    Calls Try.prog 49 #[.agg #[.int .i64 m.sender, .int .i64 m.seq, tv, .string m.text]] w fun e w' => e = .returned (.bool (Codec.msgFits m)) ∧ Below w.heap.size w w' := by
  obtain ⟨a, b, l, x⟩ := m
  have ht : ∀ o, NumsAt (w.alloc o) B tv l := fun o => h.below ((Below.refl _ _).alloc hB o)
  have HT : Hid (∀ o, NumsAt (w.alloc o) B tv l) := ht
  clear ht h
  simp only
  have HX : Hid (Codec.msgFits ⟨a, b, l, x⟩ = (Codec.inB a 0 5 && Codec.inB b 1 20 && Codec.listFits l && decide (x.size ≤ 16))) := rfl
  generalize Codec.msgFits ⟨a, b, l, x⟩ = r at HX ⊢
  cases h1 : Codec.inB a 0 5 with
  | false =>
    go_enter Try.func49, Try.ntmps49
    go_wp2_with (go_at_call 48; refine (within_any _ _ _ _).mono ?_; rintro e w' ⟨rfl, rfl⟩)
    go_ret
    exact ⟨ret_bool (by rw [HX.out, h1]; rfl), (Below.refl _ _).alloc (Nat.le_refl _) _⟩
  | true =>
    cases h2 : Codec.inB b 1 20 with
    | false =>
      go_enter Try.func49, Try.ntmps49
      go_wp2_with (go_at_call 48; refine (within_any _ _ _ _).mono ?_; rintro e w' ⟨rfl, rfl⟩)
      go_ret
      exact ⟨ret_bool (by rw [HX.out, h1, h2]; rfl), (Below.refl _ _).alloc (Nat.le_refl _) _⟩
    | true =>
      cases h3 : Codec.listFits l with
      | false =>
        go_enter Try.func49, Try.ntmps49
        go_wp2_with (first | (go_at_call 48; refine (within_any _ _ _ _).mono ?_; rintro e w' ⟨rfl, rfl⟩) | (go_at_call 37; refine (listFits_any tv l B _ (HT.out _)).mono ?_; rintro e w' ⟨rfl, rfl⟩))
        go_ret
        exact ⟨ret_bool (by rw [HX.out, h1, h2, h3]; rfl), (Below.refl _ _).alloc (Nat.le_refl _) _⟩
      | true =>
        by_cases h4 : x.size ≤ 16
        · go_enter Try.func49, Try.ntmps49
          go_wp2_with (first | (go_at_call 48; refine (within_any _ _ _ _).mono ?_; rintro e w' ⟨rfl, rfl⟩) | (go_at_call 37; refine (listFits_any tv l B _ (HT.out _)).mono ?_; rintro e w' ⟨rfl, rfl⟩))
          go_ret
          exact ⟨ret_bool (by rw [HX.out, h1, h2, h3]; simp [h4]; omega), (Below.refl _ _).alloc (Nat.le_refl _) _⟩
        · go_enter Try.func49, Try.ntmps49
          go_wp2_with (first | (go_at_call 48; refine (within_any _ _ _ _).mono ?_; rintro e w' ⟨rfl, rfl⟩) | (go_at_call 37; refine (listFits_any tv l B _ (HT.out _)).mono ?_; rintro e w' ⟨rfl, rfl⟩))
          go_ret
          exact ⟨ret_bool (by rw [HX.out, h1, h2, h3]; simp [h4]; omega), (Below.refl _ _).alloc (Nat.le_refl _) _⟩

theorem msgs_step (l : List Codec.Msg) (k : Nat) (m : Codec.Msg) (hk : l[k]? = some m) : (l.take (k + 1)).all Codec.msgFits = ((l.take k).all Codec.msgFits && Codec.msgFits m) := by
  have h := (List.getElem?_eq_some_iff.1 hk)
  obtain ⟨hlt, he⟩ := h
  rw [List.take_succ_eq_append_getElem hlt, List.all_append, he]; simp
theorem msgs_no (l : List Codec.Msg) (k : Nat) (m : Codec.Msg) (hk : l[k]? = some m) (h : Codec.msgFits m = false) : l.all Codec.msgFits = false := by
  rw [List.all_eq_false]
  exact ⟨m, List.mem_of_getElem? hk, by rw [h]; simp⟩

set_option maxHeartbeats 800000 in
theorem msgsFit_any (v : Value) (l : List Codec.Msg) (B : Nat) (w : World) (h : MsgsAt w B v l) (hB : B ≤ w.heap.size) :
    Calls Try.prog 38 #[v] w fun e w' => e = .returned (.bool (Codec.msgsFit l)) ∧ Below w.heap.size w w' := by
  rcases h with ⟨⟨ao0, c0, rfl⟩, rfl⟩ | ⟨b, off, cap, rfl, hbB, hc⟩
  · go_enter Try.func38, Try.ntmps38
    go_wp2
    go_loop [10] (fun i => i = .int .i64 0) (fun _ => 0)
    case atStart => rfl
    case round =>
      subst hrel
      go_wp2
      go_ret
      exact ⟨rfl, Below.refl _ _⟩
  · by_cases h6 : l.length ≤ 200
    · have HC : Hid (∀ j m, l[j]? = some m →
        ∃ tv, w.cell? ⟨b, off + j * 4, none⟩ = some (.int .i64 m.sender) ∧ w.cell? ⟨b, off + j * 4 + 1, none⟩ = some (.int .i64 m.seq) ∧
        w.cell? ⟨b, off + j * 4 + 2, none⟩ = some tv ∧ w.cell? ⟨b, off + j * 4 + 3, none⟩ = some (.string m.text) ∧ NumsAt w B tv m.time) := hc
      clear hc
      go_enter Try.func38, Try.ntmps38
      go_wp2
      go_loopw [10] (fun i wr => ∃ k : Nat, k ≤ l.length ∧ i = .int .i64 k ∧ Hid ((l.take k).all Codec.msgFits = true) ∧ Below w.heap.size w wr) (fun i _ => l.length - (intOf i).toNat)
      case atStart => exact ⟨0, by omega, rfl, rfl, Below.refl _ _⟩
      case round =>
        obtain ⟨k, hk, rfl, HA, hbel⟩ := hrel
        have hsz := hbel.size
        by_cases hlt : k < l.length
        · obtain ⟨m, hm⟩ : ∃ m, l[k]? = some m := ⟨l[k], List.getElem?_eq_getElem hlt⟩
          obtain ⟨tv, c0, c1, c2, c3, ht⟩ := HC.out k m hm
          obtain ⟨ao, n, c, rfl⟩ := ht.form
          have HS : Hid (_ = _) := msgs_step l k m hm
          have HN : Hid (_ → _) := msgs_no l k m hm
          have d0 := (hbel.cell (p := ⟨b, off + k * 4, none⟩) (by show b < _; omega)).trans c0
          have d1 := (hbel.cell (p := ⟨b, off + k * 4 + 1, none⟩) (by show b < _; omega)).trans c1
          have d2 := (hbel.cell (p := ⟨b, off + k * 4 + 2, none⟩) (by show b < _; omega)).trans c2
          have d3 := (hbel.cell (p := ⟨b, off + k * 4 + 3, none⟩) (by show b < _; omega)).trans c3
          have HT : Hid (∀ o, NumsAt (wr.alloc o) B (.slice ao n c) m.time) := fun o => ht.below ((hbel.mono hB).alloc (by omega) o)
          clear c0 c1 c2 c3 ht hm
          cases hin : Codec.msgFits m with
          | true =>
            go_wp2_with (go_at_call 49; refine (msgFits_any m (.slice ao n c) B _ (HT.out _) (by simp; omega)).mono ?_; rintro e w' ⟨rfl, hb2⟩)
            go_roundw
            case rel =>
              have hb3 := (hbel.alloc (by omega) (.cells #[.int .i64 m.sender, .int .i64 m.seq, .slice ao n c, .string m.text] 50)).trans (hb2.mono (by simp; omega))
              exact ⟨k + 1, by omega, by go_num, by show _ = _; rw [HS.out, HA.out, hin]; rfl, hb3⟩
            case measure => simp [intOf]; omega
          | false =>
            have HF : Hid (Codec.msgsFit l = false) := by show _ = _; unfold Codec.msgsFit; rw [HN.out hin]; simp
            go_wp2_with (go_at_call 49; refine (msgFits_any m (.slice ao n c) B _ (HT.out _) (by simp; omega)).mono ?_; rintro e w' ⟨rfl, hb2⟩)
            go_ret
            have hb3 := (hbel.alloc (by omega) (.cells #[.int .i64 m.sender, .int .i64 m.seq, .slice ao n c, .string m.text] 50)).trans (hb2.mono (by simp; omega))
            exact ⟨ret_bool HF.out.symm, hb3⟩
        · have HF : Hid (Codec.msgsFit l = true) := by
            show _ = _
            have := HA.out
            rw [List.take_of_length_le (by omega)] at this
            unfold Codec.msgsFit; rw [this]; simp [h6]
          go_wp2
          go_ret
          exact ⟨ret_bool HF.out.symm, hbel⟩
    · have HF : Hid (Codec.msgsFit l = false) := by show _ = _; simp [Codec.msgsFit, h6]
      go_enter Try.func38, Try.ntmps38
      go_wp2
      go_ret
      exact ⟨ret_bool HF.out.symm, Below.refl _ _⟩

end Go.Proofs.Ytoklolfaemhfnaa
