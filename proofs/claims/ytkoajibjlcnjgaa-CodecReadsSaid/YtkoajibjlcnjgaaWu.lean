/-
  WALKS: codec.Writer: Uint, Int, Text: the bytes that are put behind what a writer has.
-/
import Derived.Test.YtkoajibjlcnjgaaWr
import Derived.Test.YtkoajibjlcnjgaaRi
import Derived.LoopTactic
import Derived.OwnWalk
namespace Go.Proofs.Ytkoajibjlcnjgaa
open Go Go.RowKit

theorem or128 {m : Nat} : bits .or .u8 ((m : Int) % 256) 128 = ((m % 128 + 128 : Nat) : Int) := by
  rw [show (m : Int) % 256 = ((m % 256 : Nat) : Int) by omega, show (128 : Int) = ((128 : Nat) : Int) by rfl, u8_or_nat _ _ (by omega) (by omega)]
  congr 1
  rcases Nat.lt_or_ge (m % 256) 128 with h | h
  · rw [Nat.or_comm, nat_join 7 128 _ (by omega) (by omega)]; omega
  · have e : m % 256 = 128 + (m % 128) := by omega
    have e2 : 128 + m % 128 = 128 ||| m % 128 := (nat_join 7 128 _ (by omega) (by omega)).symm
    rw [e, e2, Nat.or_comm, ← Nat.or_assoc, Nat.or_self, ← e2]; omega
theorem u8v_of {m : Nat} (h : m < 256) : u8v (UInt8.ofNat m) = .int .u8 m := by
  unfold u8v
  rw [tn h]

/-- What holds at a round's head. -/
structure UInv (w wr : World) (n : Nat) (v : Value) (pre : List UInt8) (f m : Nat) : Prop where
  eq : pre ++ ubF f m = ub n
  lt : m < 2 ^ (7 * f + 1)
  len : pre.length + f = 9
  own : wr.ownsRow w.heap.size 5 1 v pre.length (pre.map u8v)
  below : Below w.heap.size w wr

set_option maxHeartbeats 1000000 in
set_option maxRecDepth 100000 in
theorem wuint_any {P : Nat} {own : Nat → Prop} {l : List UInt8} {n : Nat} (hl : l.length + 10 ≤ 140737488355328) (hn : n < 18446744073709551616) {w : World} (h : Wr w P own l) (hnew : ∀ k, w.heap.size ≤ k → own k) :
    Calls Try.prog 11 #[.pointer (some ⟨P, 0, none⟩), .int .u64 n] w fun e w' => e = .returned (.tuple #[]) ∧ Wr w' P own (l ++ ub n) ∧ Step own w w' := by
  obtain ⟨i0, hi, hz0, hz1, hz2⟩ := info_parts info_u8
  have HW := Lib.hid h
  have HN := Lib.hid hnew
  have hn64 := Lib.hid hn
  clear h hnew hn
  go_enter Try.func11, Try.ntmps11
  go_wp2
  go_loopw [4, 1] (fun v nn wr => ∃ (pre : List UInt8) (f m : Nat), UInv w wr n v pre f m ∧ nn = .int .u64 m)
    (fun _ nn _ => (intOf nn).toNat)
  case atStart => exact ⟨[], 9, n, ⟨rfl, by simpa using hn64.out, rfl, World.ownsRow_nil _ _ _ _, Below.refl _ _⟩, rfl⟩
  case round =>
    obtain ⟨pre, f, m, hI, rfl⟩ := hrel
    have hm64 : (m : Int) ≤ 18446744073709551615 := by
      have h1 := hI.lt
      have h2 := hI.len
      have h3 : 2 ^ (7 * f + 1) ≤ 2 ^ 64 := Nat.pow_le_pow_right (by omega) (by omega)
      omega
    have hown := hI.own
    have HI := Lib.hid hI
    clear hI
    by_cases hlt : 128 ≤ m
    · go_wp2_with (at_builtin; refine wpList_append_own _ rfl _ _ 54 rfl w.heap.size 5 i0 (.int .u8 0) 1 1 Try.underlying54 hi hz0 hz1 hz2 rfl (by decide) _ _ _ rfl (hown.alloc _) ⟨wr.heap.size, 0, none⟩ 1 1 [.int .u8 (bits .or .u8 ((m : Int) % 256) 128)] rfl rfl ?c1 ?c2 ?c3 ?c4 ?c5 ?_)
      case c1 => intro j u hj; match j, hj with | 0, hj => simp at hj; subst hj; simp [Addr.add]
      case c2 => intro u hu; simp at hu; subst hu; rfl
      case c3 => have := HI.out.len; unfold maxLen; omega
      case c4 => have := HI.out.len; omega
      case c5 => have := HI.out.below.size; simp; omega
      intro v' w1 hown1 hgrow _
      have HO := Lib.hid hown1
      have HB : Hid (Below w.heap.size w w1) := ((HI.out.below.alloc HI.out.below.size _).grown hgrow (by have := HI.out.below.size; simp; omega) (fun k hk => (hown.lt k hk).1))
      clear hown hown1 hgrow
      go_wp2
      go_roundw
      case rel =>
        have hl := HI.out.lt
        have hn := HI.out.len
        obtain ⟨f', rfl⟩ : ∃ f', f = f' + 1 := ⟨f - 1, by
          rcases Nat.eq_zero_or_pos f with h0 | h0
          · subst h0; simp at hl; omega
          · omega⟩
        refine ⟨pre ++ [UInt8.ofNat (m % 128 + 128)], f', m / 128, ⟨?_, ?_, ?_, ?_, HB.out⟩, ?_⟩
        · rw [← HI.out.eq, ubF_ge hlt, List.append_assoc]; rfl
        · rw [pw] at hl; omega
        · rw [List.length_append]; simp; omega
        · have := HO.out
          rw [or128, ← u8v_of (by omega)] at this
          simpa using this
        · rfl
      case measure => simp [intOf]; omega
    · go_wp2_with (at_builtin; refine wpList_append_own _ rfl _ _ 54 rfl w.heap.size 5 i0 (.int .u8 0) 1 1 Try.underlying54 hi hz0 hz1 hz2 rfl (by decide) _ _ _ rfl (hown.alloc _) ⟨wr.heap.size, 0, none⟩ 1 1 [.int .u8 ((m : Int) % 256)] rfl rfl ?c1 ?c2 ?c3 ?c4 ?c5 ?_)
      case c1 => intro j u hj; match j, hj with | 0, hj => simp at hj; subst hj; simp [Addr.add]; omega
      case c2 => intro u hu; simp at hu; subst hu; rfl
      case c3 => have := HI.out.len; unfold maxLen; omega
      case c4 => have := HI.out.len; omega
      case c5 => have := HI.out.below.size; simp; omega
      intro v' w1 hown1 hgrow _
      obtain ⟨g, cap', rfl⟩ : ∃ g cap', v' = .slice (some ⟨g, 0, none⟩) (pre.length + 1) cap' := by
        rcases hown1.2 with ⟨_, h⟩ | ⟨g, cap', _, h, _⟩
        · omega
        · exact ⟨g, cap', h⟩
      have he : pre ++ [UInt8.ofNat m] = ub n := by rw [← HI.out.eq, ubF_lt (by omega)]
      have hrow : Row w1 g cap' (ub n) := by
        rw [show (m : Int) % 256 = (m : Int) by omega, ← u8v_of (by omega), ← List.map_singleton, ← List.map_append, he] at hown1
        exact Row.of_owns hown1
      have hlen : pre.length + 1 = (ub n).length := by rw [← he]; simp
      have HB : Hid (Below w.heap.size w w1) := ((HI.out.below.alloc HI.out.below.size _).grown hgrow (by have := HI.out.below.size; simp; omega) (fun k hk => (hown.lt k hk).1))
      have hconv : (convert 54 9 (.slice (some ⟨g, 0, none⟩) (pre.length + 1) cap')).run Try.prog w1 = .ok (.string (bs (ub n))) w1 := by
        rw [hlen]
        exact run_convert_bytes_back w1 _ _ 5 ⟨g, 0, none⟩ cap' (ub n) Try.underlying54 Try.underlying5 Try.underlying9 (fun j hj => by rw [Addr.add_lit, Nat.zero_add]; exact hrow.cell hj)
      have HST : Hid (Step own w w1) := Step.of_below HB.out
      have HW1 : Hid (Wr w1 P own l) := HW.out.step (S := fun _ => False) (Step.of_below HB.out) (fun _ _ _ h => h)
      have HN1 : Hid (∀ k, w1.heap.size ≤ k → own k) := fun k hk => HN.out k (Nat.le_trans HB.out.size hk)
      have HL : Hid (l.length + (ub n).length ≤ 140737488355328) := by have := (ub_len n).2; show _ ≤ _; omega
      clear hown hown1 hgrow he hrow hlen
      go_wp2_with (go_at_call 19; refine (wraw_any (ub n) HL.out HW1.out HN1.out).mono ?_; rintro e w2 ⟨rfl, hw2, hs2⟩)
      go_end0
      exact ⟨rfl, hw2, HST.out.trans hs2⟩
end Go.Proofs.Ytkoajibjlcnjgaa
