/-
  WALKS: codec's Reader.Fixed and Writer.Fixed, of a seat without Uint and Int.
-/
import Derived.Test.YticmkepocacmhaaWr
import Derived.LoopTactic
import Derived.OwnWalk
import Derived.Laws.BitsAllLaws
namespace Go.Proofs.Yticmkepocacmhaa
open Go Go.RowKit

theorem int_u64 {a b : Int} (h : a = b) : Value.int .u64 a = .int .u64 b := by rw [h]
theorem bs_get (s : List UInt8) (k : Nat) (h : k < (bs s).size) : (bs s)[k] = s[k]'(by rwa [bs_size] at h) := by
  show (bs s).data[k] = _
  simp [bs]

theorem iw_any (n : Int) (w : World) :
    Calls Try.prog 49 #[.int .i64 n] w fun e w' => e = .returned (.bool (decide (1 ≤ n) && decide (n ≤ 8))) ∧ w = w' := by
  by_cases h : 1 ≤ n
  · have h1 : decide (1 ≤ n) = true := by simpa using h
    go_enter Try.func49, Try.ntmps49
    go_wp2
    go_ret
    exact ⟨by simp [h], rfl⟩
  · have h1 : decide (1 ≤ n) = false := by simpa using h
    go_enter Try.func49, Try.ntmps49
    go_wp2
    go_ret
    exact ⟨by simp [h], rfl⟩

theorem ret_u64 {a b : Int} (h : a = b) : Ending.returned (.int .u64 a) = .returned (.int .u64 b) := by rw [h]
theorem u8v_of {m : Nat} (h : m < 256) : u8v (UInt8.ofNat m) = .int .u8 m := by
  unfold u8v
  rw [tn h]

theorem bev_take (l : List UInt8) (k : Nat) (h : k < l.length) : bev (l.take (k + 1)) = bev (l.take k) * 256 + l[k].toNat := by
  rw [List.take_succ_eq_append_getElem h, bev_snoc]
theorem bev_take_lt (l : List UInt8) (k : Nat) (h : k ≤ l.length) (h8 : l.length ≤ 8) : bev (l.take k) < 256 ^ k ∧ bev (l.take k) < 18446744073709551616 := by
  have h1 := bev_lt (l.take k)
  rw [List.length_take, Nat.min_eq_left h] at h1
  have h2 : 256 ^ k ≤ 256 ^ 8 := Nat.pow_le_pow_right (by omega) (by omega)
  exact ⟨h1, by omega⟩
theorem shl_or {x b : Nat} (hx : x < 72057594037927936) (hb : b < 256) : bits .or .u64 (IntKind.u64.wrap ((x : Int) * 256)) (b : Int) = ((x * 256 + b : Nat) : Int) := by
  rw [IntKind.wrap_u64, show (x : Int) * 256 % 18446744073709551616 = ((x * 256 : Nat) : Int) by omega, u64_or_nat _ _ (by omega) (by omega), nat_join 8 _ _ (by omega) (by omega)]

theorem fx_step {t : List UInt8} {k : Nat} (h : k < t.length) (h8 : t.length ≤ 8) :
    bits .or .u64 (IntKind.u64.wrap ((bev (t.take k) : Int) * 256)) (IntKind.u64.wrap (t[k].toNat : Int)) = ((bev (t.take (k + 1)) : Nat) : Int) := by
  have hb := (bev_take_lt t k (by omega) h8).1
  have h7 : 256 ^ k ≤ 256 ^ 7 := Nat.pow_le_pow_right (by omega) (by omega)
  have hc := t[k].toNat_lt
  rw [bev_take t k h, IntKind.wrap_u64 (t[k].toNat : Int), show (t[k].toNat : Int) % 18446744073709551616 = (t[k].toNat : Int) by omega, shl_or (by omega) hc]
set_option maxHeartbeats 1000000 in
set_option maxRecDepth 100000 in
theorem rfixed_ok (P : Nat) (s : List UInt8) (m : Nat) (h1m : 1 ≤ m) (hm8 : m ≤ 8) (hml : m ≤ s.length) (hs : s.length ≤ 140737488355328) (w : World) (h : Rd w P s false) :
    Calls Try.prog 33 #[.pointer (some ⟨P, 0, none⟩), .int .i64 m] w fun e w' => e = .returned (.int .u64 (bev (s.take m) : Nat)) ∧ Rd w' P (s.drop m) false ∧ Step (· = P) w w' := by
  have HR := Lib.hid h
  have d1 : decide (1 ≤ (m : Int)) = true := by simp; omega
  have d2 : decide ((m : Int) ≤ 8) = true := by simp; omega
  have hz : (bs (s.take m)).size = m := by rw [bs_size, List.length_take]; omega
  have hl : (s.take m).length = m := by rw [List.length_take]; omega
  have HL := Lib.hid hl
  clear h hl
  go_enter Try.func33, Try.ntmps33
  go_wp2_with (first | (go_at_call 49; refine (iw_any m _).mono ?_; rintro e w1 ⟨rfl, rfl⟩) | (go_at_call 51; refine (raw_ok P _ m hml hs _ HR.out).mono ?_; rintro e w2 ⟨rfl, hr2, hst2⟩))
  generalize htt : s.take m = t at *
  go_loop [6, 18] (fun n i => ∃ k : Nat, k ≤ m ∧ i = .int .i64 k ∧ n = .int .u64 (bev (t.take k) : Nat)) (fun _ i => m - (intOf i).toNat)
  case atStart => exact ⟨0, by omega, rfl, rfl⟩
  case round =>
    obtain ⟨k, hk, rfl, rfl⟩ := hrel
    have hb := bev_take_lt t k (by rw [HL.out]; exact hk) (by rw [HL.out]; exact hm8)
    by_cases hlt : k < m
    · go_wp2
      go_round
      case rel =>
        have hlt' : k < t.length := by rw [HL.out]; exact hlt
        refine ⟨k + 1, by omega, by go_num, int_u64 ?_⟩
        rw [bs_get t k (by rw [bs_size]; exact hlt')]
        exact fx_step hlt' (by rw [HL.out]; exact hm8)
      case measure => simp [intOf]; omega
    · go_wp2
      go_ret
      refine ⟨ret_u64 ?_, hr2, hst2⟩
      rw [List.take_of_length_le (by rw [HL.out]; omega)]
set_option maxHeartbeats 1000000 in
set_option maxRecDepth 100000 in
theorem rfixed_nil {P : Nat} (m : Nat) (h1m : 1 ≤ m) (hm8 : m ≤ 8) (w : World)
    (hr : Calls Try.prog 51 #[.pointer (some ⟨P, 0, none⟩), .int .i64 m] w fun e w' => e = .returned (.string (bs [])) ∧ Rd w' P [] true ∧ Step (· = P) w w') :
    Calls Try.prog 33 #[.pointer (some ⟨P, 0, none⟩), .int .i64 m] w fun e w' => e = .returned (.int .u64 0) ∧ Rd w' P [] true ∧ Step (· = P) w w' := by
  have HC := Lib.hid hr
  have d1 : decide (1 ≤ (m : Int)) = true := by simp; omega
  have d2 : decide ((m : Int) ≤ 8) = true := by simp; omega
  have hz : (bs []).size = 0 := rfl
  clear hr
  go_enter Try.func33, Try.ntmps33
  go_wp2_with (first | (go_at_call 49; refine (iw_any m _).mono ?_; rintro e w1 ⟨rfl, rfl⟩) | (go_at_call 51; refine HC.out.mono ?_; rintro e w2 ⟨rfl, hr2, hst2⟩))
  go_loop [6, 18] (fun n i => i = .int .i64 0 ∧ n = .int .u64 0) (fun _ _ => 0)
  case atStart => exact ⟨rfl, rfl⟩
  case round =>
    obtain ⟨rfl, rfl⟩ := hrel
    go_wp2
    go_ret
    exact ⟨rfl, hr2, hst2⟩
theorem fxF_take (m : Nat) : ∀ (n k : Nat), k < m → (fxF m n).take (k + 1) = (fxF m n).take k ++ [UInt8.ofNat (n / 256 ^ (m - 1 - k) % 256)] := by
  induction m with
  | zero => intro n k h; omega
  | succ m ih =>
    intro n k h
    have hl := fxF_len m (n / 256)
    unfold fxF
    rcases Nat.lt_or_ge k m with h1 | h1
    · rw [List.take_append_of_le_length (by omega), List.take_append_of_le_length (by omega), ih _ _ h1, Nat.div_div_eq_div_mul]
      rw [show m + 1 - 1 - k = (m - 1 - k) + 1 by omega, Nat.pow_succ, Nat.mul_comm 256]
    · have : k = m := by omega
      subst this
      rw [List.take_of_length_le (by simp [hl]), List.take_append_of_le_length (by omega), List.take_of_length_le (by omega)]
      simp

theorem fx_byte {n j : Nat} : (n : Int) / 2 ^ (8 * j) % 256 = ((n / 256 ^ j % 256 : Nat) : Int) := by
  rw [show (256 : Nat) ^ j = 2 ^ (8 * j) by rw [Nat.pow_mul]]
  simp
set_option maxHeartbeats 1000000 in
set_option maxRecDepth 100000 in
theorem wfixed_any {P : Nat} {own : Nat → Prop} {l : List UInt8} {n m : Nat} (hl : l.length + 10 ≤ 140737488355328) (hn : n < 18446744073709551616) (h1m : 1 ≤ m) (hm8 : m ≤ 8) {w : World} (h : Wr w P own l) (hnew : ∀ k, w.heap.size ≤ k → own k) :
    Calls Try.prog 42 #[.pointer (some ⟨P, 0, none⟩), .int .i64 m, .int .u64 n] w fun e w' => e = .returned (.tuple #[]) ∧ Wr w' P own (l ++ fxF m n) ∧ Step own w w' := by
  obtain ⟨i0, hi, hz0, hz1, hz2⟩ := info_parts info_u8
  have HW := Lib.hid h
  have HN := Lib.hid hnew
  have hn1 : (n : Int) ≤ 18446744073709551615 := by omega
  have d1 : decide (1 ≤ (m : Int)) = true := by simp; omega
  have d2 : decide ((m : Int) ≤ 8) = true := by simp; omega
  clear h hnew
  go_enter Try.func42, Try.ntmps42
  go_wp2_with (go_at_call 49; refine (iw_any m _).mono ?_; rintro e w1 ⟨rfl, rfl⟩)
  go_loopw [6, 12] (fun v i wr => ∃ k : Nat, k ≤ m ∧ i = .int .i64 k ∧ wr.ownsRow w.heap.size 5 1 v k (((fxF m n).take k).map u8v) ∧ Below w.heap.size w wr)
    (fun _ i _ => m - (intOf i).toNat)
  case atStart => exact ⟨0, by omega, rfl, World.ownsRow_nil _ _ _ _, Below.refl _ _⟩
  case round =>
    obtain ⟨k, hk, rfl, hown, hB⟩ := hrel
    have HB := Lib.hid hB
    clear hB
    by_cases hlt : k < m
    · go_wp2_with (at_builtin; refine wpList_append_own _ rfl _ _ 75 rfl w.heap.size 5 i0 (.int .u8 0) 1 1 Try.underlying75 hi hz0 hz1 hz2 rfl (by decide) _ _ _ rfl (hown.alloc _) ⟨wr.heap.size, 0, none⟩ 1 1 [.int .u8 ((n : Int) / 2 ^ (8 * (m - 1 - k)) % 256)] rfl rfl ?c1 ?c2 ?c3 ?c4 ?c5 ?_)
      case c1 => intro j u hj; match j, hj with | 0, hj => simp at hj; subst hj; simp [Addr.add]
      case c2 => intro u hu; simp at hu; subst hu; rfl
      case c3 => unfold maxLen; omega
      case c4 => omega
      case c5 => have := HB.out.size; simp; omega
      intro v' w1 hown1 hgrow _
      have HO := Lib.hid hown1
      have HB1 : Hid (Below w.heap.size w w1) := ((HB.out.alloc HB.out.size _).grown hgrow (by have := HB.out.size; simp; omega) (fun k hk => (hown.lt k hk).1))
      clear hown hown1 hgrow
      go_wp2
      go_roundw
      case rel =>
        refine ⟨k + 1, by omega, by go_num, ?_, HB1.out⟩
        have := HO.out
        rw [fx_byte, ← u8v_of (Nat.mod_lt _ (by omega)), ← List.map_take, ← List.map_singleton, ← List.map_append, ← fxF_take m n k hlt] at this
        exact this
      case measure => simp [intOf]; omega
    · obtain rfl : k = m := by omega
      have hlen := fxF_len k n
      rw [List.take_of_length_le (by omega)] at hown
      obtain ⟨g, cap', rfl⟩ : ∃ g cap', u6 = .slice (some ⟨g, 0, none⟩) k cap' := by
        rcases hown.2 with ⟨_, h⟩ | ⟨g, cap', _, h, _⟩
        · omega
        · exact ⟨g, cap', h⟩
      have hrow : Row wr g cap' (fxF k n) := Row.of_owns hown
      have hconv : (convert 75 9 (.slice (some ⟨g, 0, none⟩) k cap')).run Try.prog wr = .ok (.string (bs (fxF k n))) wr := by
        have := run_convert_bytes_back wr _ _ 5 ⟨g, 0, none⟩ cap' (fxF k n) Try.underlying75 Try.underlying5 Try.underlying9 (fun j hj => by rw [Addr.add_lit, Nat.zero_add]; exact hrow.cell hj)
        rwa [hlen] at this
      have HST : Hid (Step own w wr) := Step.of_below HB.out
      have HW1 : Hid (Wr wr P own l) := HW.out.step (S := fun _ => False) (Step.of_below HB.out) (fun _ _ _ h => h)
      have HN1 : Hid (∀ k, wr.heap.size ≤ k → own k) := fun k hk => HN.out k (Nat.le_trans HB.out.size hk)
      have HL : Hid (l.length + (fxF k n).length ≤ 140737488355328) := by rw [hlen]; show _ ≤ _; omega
      clear hown hrow hlen
      go_wp2_with (go_at_call 54; refine (wraw_any (fxF k n) HL.out HW1.out HN1.out).mono ?_; rintro e w2 ⟨rfl, hw2, hs2⟩)
      go_returns
      exact ⟨rfl, hw2, HST.out.trans hs2⟩
theorem bs_append (l m : List UInt8) : bs l ++ bs m = bs (l ++ m) := by
  apply ByteArray.ext
  simp [bs]

/-- What a call has made itself: blocks from B on. -/
def from_ (B : Nat) (k : Nat) : Prop := B ≤ k
theorem Step.toBelow {w w' : World} (h : Step (from_ w.heap.size) w w') : Below w.heap.size w w' := h.below (Nat.le_refl _) (fun _ h => h)
theorem Rd.new (w : World) (s : List UInt8) : Rd (w.alloc (.cells #[.string (bs s), .bool false] 68)) w.heap.size s false := ⟨alloc_blk _ _⟩

end Go.Proofs.Yticmkepocacmhaa
