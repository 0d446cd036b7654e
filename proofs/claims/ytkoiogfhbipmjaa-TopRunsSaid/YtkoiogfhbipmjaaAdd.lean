/-
  WALKS: wide.Of, Add, Sub, Less: what they answer, of any two numbers.
-/
import Derived.Test.YtkoiogfhbipmjaaChecked
import Derived.Test.YtkoiogfhbipmjaaMath
import Derived.WalkKit
import Derived.BigQuiet
import Derived.Deep.QuietTactic
import Derived.Handy
import Derived.Lib.Hide
import Derived.Laws.Externs
import Derived.Laws.StructEq
import Derived.Shelf.Spec.BitsCarry
namespace Go.Proofs.Ytkoiogfhbipmjaa
open Go Go.RowKit

/-- What math/bits.Add64 hands back: the sum's lower half, and the carry. -/
def aLo (x y c : Int) : Int := (x + y + c) % 18446744073709551616
def aCy (x y c : Int) : Int := (x + y + c) / 18446744073709551616
theorem add64_run (x y c : Int) (hx : 0 ≤ x) (hy : 0 ≤ y) (hc : 0 ≤ c) (hc' : c ≤ 1) (w : World) :
    (callFunc 22 #[.int .u64 x, .int .u64 y, .int .u64 c]).run Try.prog w = .ok (.value (.tuple #[.int .u64 (aLo x y c), .int .u64 (aCy x y c)])) w := by
  rw [run_callFunc_extern Try.func22 (by kernel_rfl) (by kernel_rfl) (by kernel_rfl) (e := add64Entry) (by kernel_rfl), run_add64 x y c (by omega) (by omega) (by omega) (by omega)]
  simp only [Result.andThen, aLo, aCy]

theorem w_eq {h l h' l' : Int} (e1 : h = h') (e2 : l = l') : Value.agg #[.int .u64 h, .int .u64 l] = Value.agg #[.int .u64 h', .int .u64 l'] := by rw [e1, e2]
theorem we_eq {h l h' l' e e' : Int} (e1 : h = h') (e2 : l = l') (e3 : e = e') :
    Ending.returned (.tuple #[.agg #[.int .u64 h, .int .u64 l], .int .i64 e]) = Ending.returned (.tuple #[.agg #[.int .u64 h', .int .u64 l'], .int .i64 e']) := by rw [e1, e2, e3]
theorem zero_hi : hiZ U.zero = 0 := rfl
theorem zero_lo : loZ U.zero = 0 := rfl
theorem bcell {W w1 : World} (hb : Below W.heap.size W w1) : (∀ b o, b < W.heap.size → w1.cell? ⟨b, o, none⟩ = W.cell? ⟨b, o, none⟩) ∧ (∀ b o, b < W.heap.size → w1.frozen? ⟨b, o, none⟩ = W.frozen? ⟨b, o, none⟩) :=
  ⟨fun b o h => hb.cell (p := ⟨b, o, none⟩) h, fun b o h => hb.frozen (p := ⟨b, o, none⟩) h⟩

theorem bdn {B n : Nat} {a w : World} (h : Below B a w) : Below B a (w.drewN n) := ⟨h.os, h.tape, h.output, h.size, h.block⟩

theorem below_of {w W w1 : World} (h : Below w.heap.size w W) (hb : Below W.heap.size W w1) : Below w.heap.size w w1 := h.trans (hb.mono h.size)
theorem of_any (n : Int) (w : World) :
    Calls Try.prog 8 #[.int .u64 n] w fun e w' => e = .returned (.agg #[.int .u64 0, .int .u64 n]) ∧ w.alloc (.cells #[.int .u64 0, .int .u64 n] 28) = w' := by
  go_enter Try.func8, Try.ntmps8
  go_wp2
  go_returns
  exact ⟨rfl, rfl⟩

set_option maxHeartbeats 400000 in
theorem add_any (a b : U) (w : World) :
    Calls Try.prog 16 #[.agg #[.int .u64 (hiZ a), .int .u64 (loZ a)], .agg #[.int .u64 (hiZ b), .int .u64 (loZ b)]] w fun e w' =>
      e = .returned (.tuple #[.agg #[.int .u64 (hiZ (addU a b)), .int .u64 (loZ (addU a b))], .int .i64 (addE a b)]) ∧ Below w.heap.size w w' := by
  have a1 := hiZ_nonneg a; have a2 := hiZ_le a; have a3 := loZ_nonneg a; have a4 := loZ_le a
  have b1 := hiZ_nonneg b; have b2 := hiZ_le b; have b3 := loZ_nonneg b; have b4 := loZ_le b
  have hcy : 0 ≤ aCy (loZ a) (loZ b) 0 ∧ aCy (loZ a) (loZ b) 0 ≤ 1 := by unfold aCy; omega
  have e1 : ∀ w, (callFunc 22 #[.int .u64 (loZ a), .int .u64 (loZ b), .int .u64 0]).run Try.prog w = .ok (.value (.tuple #[.int .u64 (aLo (loZ a) (loZ b) 0), .int .u64 (aCy (loZ a) (loZ b) 0)])) w := fun w => add64_run _ _ _ a3 b3 (by omega) (by omega) w
  have e2 : ∀ w, (callFunc 22 #[.int .u64 (hiZ a), .int .u64 (hiZ b), .int .u64 (aCy (loZ a) (loZ b) 0)]).run Try.prog w = .ok (.value (.tuple #[.int .u64 (aLo (hiZ a) (hiZ b) (aCy (loZ a) (loZ b) 0)), .int .u64 (aCy (hiZ a) (hiZ b) (aCy (loZ a) (loZ b) 0))])) w := fun w => add64_run _ _ _ a1 b1 hcy.1 hcy.2 w
  have va := a.val; have vb := b.val
  by_cases hov : a.n + b.n < 340282366920938463463374607431768211456
  · have h0 : (aCy (hiZ a) (hiZ b) (aCy (loZ a) (loZ b) 0) != 0) = false := by
      have : aCy (hiZ a) (hiZ b) (aCy (loZ a) (loZ b) 0) = 0 := by unfold aCy; omega
      rw [this]; rfl
    have hr : hiZ (addU a b) = aLo (hiZ a) (hiZ b) (aCy (loZ a) (loZ b) 0) ∧ loZ (addU a b) = aLo (loZ a) (loZ b) 0 := by
      refine halves_of ?_ (by unfold aLo; omega) (by unfold aLo; omega)
      unfold addU; rw [cutU_n hov]; unfold aLo aCy; omega
    have HR := Lib.hid hr
    clear hr va vb
    go_enter Try.func16, Try.ntmps16
    go_wp2
    go_returns
    exact ⟨we_eq HR.out.1.symm HR.out.2.symm (cutE_lt hov).symm, by go_grown⟩
  · have h0 : (aCy (hiZ a) (hiZ b) (aCy (loZ a) (loZ b) 0) != 0) = true := by
      have : aCy (hiZ a) (hiZ b) (aCy (loZ a) (loZ b) 0) ≠ 0 := by unfold aCy; omega
      simpa using this
    clear va vb
    go_enter Try.func16, Try.ntmps16
    go_wp2
    go_returns
    exact ⟨we_eq (by unfold addU; rw [cutU_ge (by omega)]; rfl) (by unfold addU; rw [cutU_ge (by omega)]; rfl) (cutE_ge (by omega)).symm, by go_grown⟩


set_option maxHeartbeats 400000 in
theorem less_any (a b : U) (w : World) :
    Calls Try.prog 20 #[.agg #[.int .u64 (hiZ a), .int .u64 (loZ a)], .agg #[.int .u64 (hiZ b), .int .u64 (loZ b)]] w fun e w' =>
      e = .returned (.bool (lessB a b)) ∧ Below w.heap.size w w' := by
  have a1 := hiZ_nonneg a; have a2 := hiZ_le a; have a3 := loZ_nonneg a; have a4 := loZ_le a
  have b1 := hiZ_nonneg b; have b2 := hiZ_le b; have b3 := loZ_nonneg b; have b4 := loZ_le b
  have va := a.val; have vb := b.val
  have key : lessB a b = (decide (hiZ a < hiZ b) || ((hiZ a == hiZ b) && decide (loZ a < loZ b))) := by
    unfold lessB
    rw [Bool.eq_iff_iff]
    simp
    omega
  have HK := Lib.hid key
  clear key va vb
  by_cases h1 : hiZ a < hiZ b
  · go_enter Try.func20, Try.ntmps20
    go_wp2
    go_returns
    exact ⟨by rw [HK.out]; simp [h1], by go_grown⟩
  · by_cases h2 : hiZ a = hiZ b
    · have h2' : (hiZ a == hiZ b) = true := by simp [h2]
      have H2 := Lib.hid h2
      clear h2
      go_enter Try.func20, Try.ntmps20
      go_wp2
      go_returns
      exact ⟨by rw [HK.out, h2', decide_eq_false (show ¬ hiZ a < hiZ b by omega)]; simp, by go_grown⟩
    · have h2' : (hiZ a == hiZ b) = false := by simp [h2]
      clear h2
      go_enter Try.func20, Try.ntmps20
      go_wp2
      go_returns
      exact ⟨by rw [HK.out, h2', decide_eq_false (show ¬ hiZ a < hiZ b by omega)]; simp, by go_grown⟩

end Go.Proofs.Ytkoiogfhbipmjaa
