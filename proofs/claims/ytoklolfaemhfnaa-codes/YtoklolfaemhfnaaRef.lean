/-
  The walks of the document's few, byteOf, high and counted: the bounds and the bytes of the Codec text.
-/
import Derived.Test.YtoklolfaemhfnaaEnc
namespace Go.Proofs.Ytoklolfaemhfnaa
open Go.RowKit

theorem few_all (l : List Int) (k : Nat) (hk : k < l.length) (h : Codec.inB (l.getD k 0) 0 20 = false) : Codec.listFits l = false := by
  unfold Codec.listFits; rw [all_no l k hk h]; simp

set_option maxHeartbeats 800000 in
theorem few_any (v : Value) (l : List Int) (B : Nat) (w : World) (h : NumsAt w B v l) (hlen : l.length ≤ maxLen) :
    Calls Try.prog 34 #[v] w fun e w' => e = .returned (.bool (Codec.listFits l)) ∧ w' = w := by
  unfold maxLen at hlen
  rcases h with ⟨⟨ao0, c0, rfl⟩, rfl⟩ | ⟨b, off, cap, rfl, -, hc⟩
  · go_enter Try.func34, Try.ntmps34
    go_wp2
    go_loop [3] (fun i => i = .int .i64 0) (fun _ => 0)
    case atStart => rfl
    case round =>
      subst hrel
      go_wp2
      go_ret
      exact ⟨rfl, rfl⟩
  · have HC : Hid (∀ j, j < l.length → w.cell? ⟨b, off + j, none⟩ = some (.int .i64 (l.getD j 0))) := hc
    clear hc
    go_enter Try.func34, Try.ntmps34
    go_wp2
    go_loop [3] (fun i => ∃ k : Nat, k ≤ l.length ∧ i = .int .i64 k ∧ Hid ((l.take k).all (fun n => Codec.inB n 0 20) = true)) (fun i => l.length - (intOf i).toNat)
    case atStart => exact ⟨0, by omega, rfl, rfl⟩
    case round =>
      obtain ⟨k, hk, rfl, HA⟩ := hrel
      by_cases hlt : k < l.length
      · have hck := HC.out k hlt
        have HS : Hid (_ = _) := all_step l k hlt
        have HN : Hid (_ → _) := few_all l k hlt
        generalize l.getD k 0 = x at hck HS HN
        by_cases hx0 : x < 0
        · have HF : Hid (Codec.listFits l = false) := HN.out (by simp [Codec.inB]; omega)
          go_wp2
          go_ret
          exact ⟨ret_bool HF.out.symm, rfl⟩
        · by_cases hx1 : 20 < x
          · have HF : Hid (Codec.listFits l = false) := HN.out (by simp [Codec.inB]; omega)
            go_wp2
            go_ret
            exact ⟨ret_bool HF.out.symm, rfl⟩
          · have HI : Hid (Codec.inB x 0 20 = true) := by show _ = _; simp [Codec.inB]; omega
            go_wp2
            go_round
            case rel => exact ⟨k + 1, by omega, by go_num, by show _ = _; rw [HS.out, HA.out, HI.out]; rfl⟩
            case measure => simp [intOf]; omega
      · have HF : Hid (Codec.listFits l = decide ((l.length : Int) ≤ 6)) := by
          show _ = _
          have := HA.out
          rw [List.take_of_length_le (by omega)] at this
          unfold Codec.listFits; rw [this]; simp
          omega
        go_wp2
        go_ret
        exact ⟨ret_bool HF.out.symm, rfl⟩

theorem own_lit (w : World) (bs : List UInt8) (cs : Array Value) (n : Nat) (hn : bs.length = n) (hcs : cs.toList = Lib.byteCells bs) (hb : bs.length ≤ 1000) : OwnB (w.alloc (.cells cs 5)) w.heap.size (.slice (some ⟨w.heap.size, 0, none⟩) n n) bs := by
  have h := World.ownsRow_lit (base := w.heap.size) (e := 5) (size := 1) w cs n (Nat.le_refl _) (by unfold maxLen; omega) (by rw [← Array.length_toList, hcs, Lib.byteCells_length]; omega)
  rw [hcs] at h
  exact OwnB.of h

set_option maxHeartbeats 400000 in
theorem byteOf_any (n : Int) (w : World) (h0 : 0 ≤ n) (h1 : n < 256) :
    Calls Try.prog 20 #[.int .i64 n] w fun e w' => e = .returned (.string ⟨[Codec.b8 n].toArray⟩) ∧ Below w.heap.size w w' := by
  have hcv := convert_own (own_lit w [Codec.b8 n] #[.int .u8 n] 1 rfl (by simp [Lib.byteCells, Codec.b8_toNat h0 h1]) (by simp))
  go_enter Try.func20, Try.ntmps20
  go_wp2
  go_ret
  exact ⟨rfl, (Below.refl _ _).alloc (Nat.le_refl _) _⟩

set_option maxHeartbeats 400000 in
theorem high_any (n : Nat) (w : World) (h1 : n < 4294967296) :
    Calls Try.prog 21 #[.int .i64 n] w fun e w' => e = .returned (.string ⟨(Codec.word4 n).toArray⟩) ∧ Below w.heap.size w w' := by
  have hcv := convert_own (own_lit w (Codec.word4 n) #[.int .u8 ((n : Int) / 16777216 % 256), .int .u8 ((n : Int) / 65536 % 256), .int .u8 ((n : Int) / 256 % 256), .int .u8 ((n : Int) % 256)] 4 rfl (by simp [Lib.byteCells, Codec.word4]) (by simp [Codec.word4]))
  go_enter Try.func21, Try.ntmps21
  go_wp2
  go_ret
  exact ⟨rfl, (Below.refl _ _).alloc (Nat.le_refl _) _⟩

theorem str_app (a b : List UInt8) : (⟨a.toArray⟩ : ByteArray) ++ ⟨b.toArray⟩ = ⟨(a ++ b).toArray⟩ := by
  apply ByteArray.ext
  simp

set_option maxHeartbeats 800000 in
theorem counted_any (v : Value) (l : List Int) (B : Nat) (w : World) (h : NumsAt w B v l) (hB : B ≤ w.heap.size) (hf : Codec.listFits l = true) :
    Calls Try.prog 22 #[v] w fun e w' => e = .returned (.string ⟨(Codec.numsB l).toArray⟩) ∧ Below w.heap.size w w' := by
  obtain ⟨h6, hbd⟩ := fits_bound hf
  have HBD : Hid (∀ k, k < l.length → 0 ≤ l.getD k 0 ∧ l.getD k 0 ≤ 20) := hbd
  clear hbd hf
  obtain ⟨ao, n, c, rfl⟩ := h.form
  have HN : Hid (∀ w', Below w.heap.size w w' → NumsAt w' B (.slice ao n c) l) := fun w' hb => h.below (hb.mono hB)
  have hnl : n = l.length := by
    rcases h with ⟨⟨ao0, c0, hv⟩, rfl⟩ | ⟨b, off, cap, hv, _⟩
    · simp at hv; simp [hv]
    · simp at hv; exact hv.2.1
  subst hnl
  clear h
  have HB8 : Hid ([Codec.b8 (l.length : Int)] = [UInt8.ofNat l.length]) := by show _ = _; simp [Codec.b8]
  go_enter Try.func22, Try.ntmps22
  go_wp2_with fail
  refine (byteOf_any _ _ (by omega) (by omega)).mono ?_
  rintro e w1 ⟨rfl, hb1⟩
  go_wp2
  go_loopw [3, 4] (fun s i wr => ∃ k : Nat, k ≤ l.length ∧ i = .int .i64 k ∧ s = .string ⟨([UInt8.ofNat l.length] ++ (l.take k).map Codec.b8).toArray⟩ ∧ Below w.heap.size w wr) (fun _ i _ => l.length - (intOf i).toNat)
  case atStart => exact ⟨0, by omega, rfl, by rw [HB8.out]; simp, hb1⟩
  case round =>
    obtain ⟨k, hk, rfl, rfl, hbel⟩ := hrel
    have hsz := hbel.size
    by_cases hlt : k < l.length
    · obtain ⟨b, off, hao, hck⟩ : ∃ b off, ao = some ⟨b, off, none⟩ ∧ wr.cell? ⟨b, off + k, none⟩ = some (.int .i64 (l.getD k 0)) := by
        rcases HN.out wr hbel with ⟨hv, rfl⟩ | ⟨b, off, cap, hv, hb, hc⟩
        · simp at hlt
        · simp at hv; exact ⟨b, off, hv.1, hc k hlt⟩
      subst hao
      have hb := HBD.out k hlt
      have HS : Hid (_ = _) := b8_snoc l k hlt
      generalize l.getD k 0 = x at hck hb HS
      obtain ⟨x0, x1⟩ := hb
      obtain ⟨L, hL⟩ : ∃ L, L = [UInt8.ofNat l.length] ++ (l.take k).map Codec.b8 := ⟨_, rfl⟩
      rw [← hL]
      have HL : Hid (_ = _) := hL
      have hLl : L.length ≤ 8 := by rw [hL]; simp; omega
      clear hL
      have happ := str_app L [Codec.b8 x]
      go_wp2_with fail
      refine (byteOf_any x _ x0 (by omega)).mono ?_
      rintro e w2 ⟨rfl, hb2⟩
      go_wp2
      go_roundw
      case rel => exact ⟨k + 1, by omega, by go_num, by rw [HS.out, ← List.append_assoc, ← HL.out], hbel.trans (hb2.mono (by omega))⟩
      case measure => simp [intOf]; omega
    · go_wp2
      go_ret
      refine ⟨?_, hbel⟩
      rw [List.take_of_length_le (by omega)]
      rfl

theorem may_no1 {f : Codec.Frame} (h : Codec.headFits f = false) : Codec.fits f = false := by simp [Codec.fits, h]

/-- The bounds as they stand in the other road. -/
theorem fits_iff (f : Codec.Frame) : Codec.fits f = true ↔ (1 ≤ f.kind ∧ f.kind ≤ 7 ∧ 0 ≤ f.src ∧ f.src ≤ 5 ∧ 0 ≤ f.dst ∧ f.dst ≤ 5 ∧ 0 ≤ f.members ∧ f.members ≤ 63) ∧
    (0 ≤ f.view ∧ f.view ≤ 2147483647 ∧ 0 ≤ f.ballot ∧ f.ballot ≤ 2147483647 ∧ 0 ≤ f.voted ∧ f.voted ≤ 2147483647) ∧ Codec.listFits f.row = true ∧ Codec.listFits f.cut = true ∧ f.msgs.length ≤ 200 ∧ f.msgs.all Codec.msgFits = true := by
  simp only [Codec.fits, Codec.headFits, Codec.ballotsFit, Codec.msgsFit, Bool.and_eq_true, decide_eq_true_eq, Codec.inB_iff]
  constructor
  · rintro ⟨⟨⟨⟨⟨⟨⟨a, b⟩, c⟩, d⟩, ⟨e, g⟩, h⟩, i⟩, j⟩, k, l⟩
    exact ⟨⟨a.1, a.2, b.1, b.2, c.1, c.2, d.1, d.2⟩, ⟨e.1, e.2, g.1, g.2, h.1, h.2⟩, i, j, k, l⟩
  · rintro ⟨⟨a, a', b, b', c, c', d, d'⟩, ⟨e, e', g, g', h, h'⟩, i, j, k, l⟩
    exact ⟨⟨⟨⟨⟨⟨⟨⟨a, a'⟩, ⟨b, b'⟩⟩, ⟨c, c'⟩⟩, ⟨d, d'⟩⟩, ⟨⟨e, e'⟩, ⟨g, g'⟩⟩, ⟨h, h'⟩⟩, i⟩, j⟩, k, l⟩
end Go.Proofs.Ytoklolfaemhfnaa
