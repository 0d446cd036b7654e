/-
  WALKS: wide.Of, Add, Sub, Less: what they answer, of any two numbers.
-/
import Derived.Test.YtnbchhjanlpdlaaDoorChecked
import Derived.Test.YtnbchhjanlpdlaaDoorMath
import Derived.WalkKit
import Derived.BigQuiet
import Derived.Deep.QuietTactic
import Derived.Handy
import Derived.Lib.Hide
import Derived.Laws.Externs
import Derived.Laws.StructEq
import Derived.Shelf.Spec.BitsCarry
namespace Go.Proofs.YtnbchhjanlpdlaaDoor
open Go Go.RowKit

/-- What math/bits.Add64 hands back: the sum's lower half, and the carry. -/
def aLo (x y c : Int) : Int := (x + y + c) % 18446744073709551616
def aCy (x y c : Int) : Int := (x + y + c) / 18446744073709551616
theorem add64_run (x y c : Int) (hx : 0 ≤ x) (hy : 0 ≤ y) (hc : 0 ≤ c) (hc' : c ≤ 1) (w : World) :
    (callFunc 40 #[.int .u64 x, .int .u64 y, .int .u64 c]).run Tryd.prog w = .ok (.value (.tuple #[.int .u64 (aLo x y c), .int .u64 (aCy x y c)])) w := by
  rw [run_callFunc_extern Tryd.func40 (by kernel_rfl) (by kernel_rfl) (by kernel_rfl) (e := add64Entry) (by kernel_rfl), run_add64 x y c (by omega) (by omega) (by omega) (by omega)]
  simp only [Result.andThen, aLo, aCy]
/-- What math/bits.Sub64 hands back: the difference's lower half, and what is owed. -/
def sLo (x y c : Int) : Int := (x - y - c) % 18446744073709551616
def sCy (x y c : Int) : Int := if x < y + c then 1 else 0
theorem sub64_run (x y c : Int) (hx : 0 ≤ x) (hy : 0 ≤ y) (hy' : y ≤ 18446744073709551615) (hc : 0 ≤ c) (hc' : c ≤ 1) (w : World) :
    (callFunc 43 #[.int .u64 x, .int .u64 y, .int .u64 c]).run Tryd.prog w = .ok (.value (.tuple #[.int .u64 (sLo x y c), .int .u64 (sCy x y c)])) w := by
  obtain ⟨x, rfl⟩ := Int.eq_ofNat_of_zero_le hx
  obtain ⟨y, rfl⟩ := Int.eq_ofNat_of_zero_le hy
  obtain ⟨c, rfl⟩ := Int.eq_ofNat_of_zero_le hc
  rw [run_callFunc_extern Tryd.func43 (by kernel_rfl) (by kernel_rfl) (by kernel_rfl) (e := sub64Entry) (by kernel_rfl), run_sub64 x y c (by omega)]
  simp only [Result.andThen]
  have e1 : (((x + 18446744073709551616 - y - c) % 18446744073709551616 : Nat) : Int) = sLo x y c := by unfold sLo; omega
  have e2 : ((if x < y + c then 1 else 0 : Nat) : Int) = sCy x y c := by
    unfold sCy
    by_cases h : x < y + c
    · rw [if_pos h, if_pos (by omega)]; rfl
    · rw [if_neg h, if_neg (by omega)]; rfl
  rw [e1, e2]

theorem w_eq {h l h' l' : Int} (e1 : h = h') (e2 : l = l') : Value.agg #[.int .u64 h, .int .u64 l] = Value.agg #[.int .u64 h', .int .u64 l'] := by rw [e1, e2]
theorem we_eq {h l h' l' e e' : Int} (e1 : h = h') (e2 : l = l') (e3 : e = e') :
    Ending.returned (.tuple #[.agg #[.int .u64 h, .int .u64 l], .int .i64 e]) = Ending.returned (.tuple #[.agg #[.int .u64 h', .int .u64 l'], .int .i64 e']) := by rw [e1, e2, e3]
theorem zero_hi : hiZ U.zero = 0 := rfl
theorem zero_lo : loZ U.zero = 0 := rfl
theorem bcell {W w1 : World} (hb : Below W.heap.size W w1) : (∀ b o, b < W.heap.size → w1.cell? ⟨b, o, none⟩ = W.cell? ⟨b, o, none⟩) ∧ (∀ b o, b < W.heap.size → w1.frozen? ⟨b, o, none⟩ = W.frozen? ⟨b, o, none⟩) :=
  ⟨fun b o h => hb.cell (p := ⟨b, o, none⟩) h, fun b o h => hb.frozen (p := ⟨b, o, none⟩) h⟩

theorem bdn {B n : Nat} {a w : World} (h : Below B a w) : Below B a (w.drewN n) := ⟨h.os, h.tape, h.output, h.size, h.block⟩

theorem below_of {w W w1 : World} (h : Below w.heap.size w W) (hb : Below W.heap.size W w1) : Below w.heap.size w w1 := h.trans (hb.mono h.size)
theorem of_any (n : Int) (w : World) :
    Calls Tryd.prog 18 #[.int .u64 n] w fun e w' => e = .returned (.agg #[.int .u64 0, .int .u64 n]) ∧ w.alloc (.cells #[.int .u64 0, .int .u64 n] 24) = w' := by
  go_enter Tryd.func18, Tryd.ntmps18
  go_wp2
  go_returns
  exact ⟨rfl, rfl⟩

set_option maxHeartbeats 400000 in
theorem add_any (a b : U) (w : World) :
    Calls Tryd.prog 7 #[.agg #[.int .u64 (hiZ a), .int .u64 (loZ a)], .agg #[.int .u64 (hiZ b), .int .u64 (loZ b)]] w fun e w' =>
      e = .returned (.tuple #[.agg #[.int .u64 (hiZ (addU a b)), .int .u64 (loZ (addU a b))], .int .i64 (addE a b)]) ∧ Below w.heap.size w w' := by
  have a1 := hiZ_nonneg a; have a2 := hiZ_le a; have a3 := loZ_nonneg a; have a4 := loZ_le a
  have b1 := hiZ_nonneg b; have b2 := hiZ_le b; have b3 := loZ_nonneg b; have b4 := loZ_le b
  have hcy : 0 ≤ aCy (loZ a) (loZ b) 0 ∧ aCy (loZ a) (loZ b) 0 ≤ 1 := by unfold aCy; omega
  have e1 : ∀ w, (callFunc 40 #[.int .u64 (loZ a), .int .u64 (loZ b), .int .u64 0]).run Tryd.prog w = .ok (.value (.tuple #[.int .u64 (aLo (loZ a) (loZ b) 0), .int .u64 (aCy (loZ a) (loZ b) 0)])) w := fun w => add64_run _ _ _ a3 b3 (by omega) (by omega) w
  have e2 : ∀ w, (callFunc 40 #[.int .u64 (hiZ a), .int .u64 (hiZ b), .int .u64 (aCy (loZ a) (loZ b) 0)]).run Tryd.prog w = .ok (.value (.tuple #[.int .u64 (aLo (hiZ a) (hiZ b) (aCy (loZ a) (loZ b) 0)), .int .u64 (aCy (hiZ a) (hiZ b) (aCy (loZ a) (loZ b) 0))])) w := fun w => add64_run _ _ _ a1 b1 hcy.1 hcy.2 w
  have va := a.val; have vb := b.val
  by_cases hov : a.n + b.n < 340282366920938463463374607431768211456
  · have h0 : (aCy (hiZ a) (hiZ b) (aCy (loZ a) (loZ b) 0) != 0) = false := by
      have : aCy (hiZ a) (hiZ b) (aCy (loZ a) (loZ b) 0) = 0 := by unfold aCy; omega
      rw [this]; rfl
    have hr : hiZ (addU a b) = aLo (hiZ a) (hiZ b) (aCy (loZ a) (loZ b) 0) ∧ loZ (addU a b) = aLo (loZ a) (loZ b) 0 := by
      refine halves_of ?_ (by unfold aLo; omega) (by unfold aLo; omega)
      unfold addU; rw [cutU_n hov]; unfold aLo aCy; omega
    have HR := Lib.hid hr
    clear hr va vb
    go_enter Tryd.func7, Tryd.ntmps7
    go_wp2
    go_returns
    exact ⟨we_eq HR.out.1.symm HR.out.2.symm (cutE_lt hov).symm, by go_grown⟩
  · have h0 : (aCy (hiZ a) (hiZ b) (aCy (loZ a) (loZ b) 0) != 0) = true := by
      have : aCy (hiZ a) (hiZ b) (aCy (loZ a) (loZ b) 0) ≠ 0 := by unfold aCy; omega
      simpa using this
    clear va vb
    go_enter Tryd.func7, Tryd.ntmps7
    go_wp2
    go_returns
    exact ⟨we_eq (by unfold addU; rw [cutU_ge (by omega)]; rfl) (by unfold addU; rw [cutU_ge (by omega)]; rfl) (cutE_ge (by omega)).symm, by go_grown⟩

set_option maxHeartbeats 400000 in
theorem sub_any (a b : U) (w : World) :
    Calls Tryd.prog 9 #[.agg #[.int .u64 (hiZ a), .int .u64 (loZ a)], .agg #[.int .u64 (hiZ b), .int .u64 (loZ b)]] w fun e w' =>
      e = .returned (.tuple #[.agg #[.int .u64 (hiZ (subU a b)), .int .u64 (loZ (subU a b))], .int .i64 (subE a b)]) ∧ Below w.heap.size w w' := by
  have a1 := hiZ_nonneg a; have a2 := hiZ_le a; have a3 := loZ_nonneg a; have a4 := loZ_le a
  have b1 := hiZ_nonneg b; have b2 := hiZ_le b; have b3 := loZ_nonneg b; have b4 := loZ_le b
  have hcy : 0 ≤ sCy (loZ a) (loZ b) 0 ∧ sCy (loZ a) (loZ b) 0 ≤ 1 := by unfold sCy; split <;> omega
  have e1 : ∀ w, (callFunc 43 #[.int .u64 (loZ a), .int .u64 (loZ b), .int .u64 0]).run Tryd.prog w = .ok (.value (.tuple #[.int .u64 (sLo (loZ a) (loZ b) 0), .int .u64 (sCy (loZ a) (loZ b) 0)])) w := fun w => sub64_run _ _ _ a3 b3 b4 (by omega) (by omega) w
  have e2 : ∀ w, (callFunc 43 #[.int .u64 (hiZ a), .int .u64 (hiZ b), .int .u64 (sCy (loZ a) (loZ b) 0)]).run Tryd.prog w = .ok (.value (.tuple #[.int .u64 (sLo (hiZ a) (hiZ b) (sCy (loZ a) (loZ b) 0)), .int .u64 (sCy (hiZ a) (hiZ b) (sCy (loZ a) (loZ b) 0))])) w := fun w => sub64_run _ _ _ a1 b1 b2 hcy.1 hcy.2 w
  have va := a.val; have vb := b.val
  have vc : sCy (loZ a) (loZ b) 0 = if loZ a < loZ b then 1 else 0 := by unfold sCy; rw [Int.add_zero]
  by_cases hov : a.n < b.n
  · have h0 : (sCy (hiZ a) (hiZ b) (sCy (loZ a) (loZ b) 0) != 0) = true := by
      have : sCy (hiZ a) (hiZ b) (sCy (loZ a) (loZ b) 0) = 1 := by
        generalize sCy (loZ a) (loZ b) 0 = c at *
        unfold sCy
        rw [if_pos]
        split at vc <;> omega
      rw [this]; rfl
    have hz : subU a b = U.zero := U.ext (by show a.n - b.n = 0; omega)
    have HZ := Lib.hid hz
    clear va vb vc hz
    go_enter Tryd.func9, Tryd.ntmps9
    go_wp2
    go_returns
    exact ⟨we_eq (by rw [HZ.out]; rfl) (by rw [HZ.out]; rfl) (by unfold subE; rw [if_pos hov]), by go_grown⟩
  · have h0 : (sCy (hiZ a) (hiZ b) (sCy (loZ a) (loZ b) 0) != 0) = false := by
      have : sCy (hiZ a) (hiZ b) (sCy (loZ a) (loZ b) 0) = 0 := by
        generalize sCy (loZ a) (loZ b) 0 = c at *
        unfold sCy
        rw [if_neg]
        split at vc <;> omega
      rw [this]; rfl
    have hr : hiZ (subU a b) = sLo (hiZ a) (hiZ b) (sCy (loZ a) (loZ b) 0) ∧ loZ (subU a b) = sLo (loZ a) (loZ b) 0 := by
      refine halves_of ?_ (by unfold sLo; omega) (by unfold sLo; omega)
      show ((a.n - b.n : Nat) : Int) = _
      generalize sCy (loZ a) (loZ b) 0 = c at *
      unfold sLo
      split at vc <;> omega
    have HR := Lib.hid hr
    clear va vb vc hr
    go_enter Tryd.func9, Tryd.ntmps9
    go_wp2
    go_returns
    exact ⟨we_eq HR.out.1.symm HR.out.2.symm (by unfold subE; rw [if_neg hov]), by go_grown⟩

set_option maxHeartbeats 400000 in
theorem less_any (a b : U) (w : World) :
    Calls Tryd.prog 16 #[.agg #[.int .u64 (hiZ a), .int .u64 (loZ a)], .agg #[.int .u64 (hiZ b), .int .u64 (loZ b)]] w fun e w' =>
      e = .returned (.bool (lessB a b)) ∧ Below w.heap.size w w' := by
  have a1 := hiZ_nonneg a; have a2 := hiZ_le a; have a3 := loZ_nonneg a; have a4 := loZ_le a
  have b1 := hiZ_nonneg b; have b2 := hiZ_le b; have b3 := loZ_nonneg b; have b4 := loZ_le b
  have va := a.val; have vb := b.val
  have key : lessB a b = (decide (hiZ a < hiZ b) || ((hiZ a == hiZ b) && decide (loZ a < loZ b))) := by
    unfold lessB
    rw [Bool.eq_iff_iff]
    simp
    omega
  have HK := Lib.hid key
  clear key va vb
  by_cases h1 : hiZ a < hiZ b
  · go_enter Tryd.func16, Tryd.ntmps16
    go_wp2
    go_returns
    exact ⟨by rw [HK.out]; simp [h1], by go_grown⟩
  · by_cases h2 : hiZ a = hiZ b
    · have h2' : (hiZ a == hiZ b) = true := by simp [h2]
      have H2 := Lib.hid h2
      clear h2
      go_enter Tryd.func16, Tryd.ntmps16
      go_wp2
      go_returns
      exact ⟨by rw [HK.out, h2', decide_eq_false (show ¬ hiZ a < hiZ b by omega)]; simp, by go_grown⟩
    · have h2' : (hiZ a == hiZ b) = false := by simp [h2]
      clear h2
      go_enter Tryd.func16, Tryd.ntmps16
      go_wp2
      go_returns
      exact ⟨by rw [HK.out, h2', decide_eq_false (show ¬ hiZ a < hiZ b by omega)]; simp, by go_grown⟩

end Go.Proofs.YtnbchhjanlpdlaaDoor
