/-
  EVENTS AND CELLS AS WHOLE BLOCKS: what the walks of XOp's laws ask of them.
-/
import Derived.Test.YtohkioakipjanaaCe6
import Derived.Test.YtohkioakipjanaaOp
namespace Go.Proofs.Ytohkioakipjanaa
open Go Go.RowKit

def wdA (u : U) : Array Value := #[.int .u64 (hiZ u), .int .u64 (loZ u)]
theorem wdInfo : (Try.prog.info? 67).map (·.size) = some 2 := by kernel_rfl
theorem evA_one (e : Ev) : (evA e).all (·.oneCell') = true := by simp [evA, Value.oneCell']
theorem wdA_one (u : U) : (wdA u).all (·.oneCell') = true := by simp [wdA, Value.oneCell']
theorem ceA_one (x : Ce) : (ceA x).all (·.oneCell') = true := by simp [ceA, Value.oneCell']
theorem ceA_pf (x : Ce) : ∀ j, j < (evA x.f).size → (ceA x)[1 + j]? = (evA x.f)[j]? := fun j hj => by
  match j, hj with
  | 0, _ => rfl
  | 1, _ => rfl
  | 2, _ => rfl
  | 3, _ => rfl
  | k + 4, h => exact absurd h (by simp [evA])
theorem ceA_pl (x : Ce) : ∀ j, j < (evA x.l).size → (ceA x)[5 + j]? = (evA x.l)[j]? := fun j hj => by
  match j, hj with
  | 0, _ => rfl
  | 1, _ => rfl
  | 2, _ => rfl
  | 3, _ => rfl
  | k + 4, h => exact absurd h (by simp [evA])
theorem ceA_pi (x : Ce) : ∀ j, j < (wdA x.i).size → (ceA x)[9 + j]? = (wdA x.i)[j]? := fun j hj => by
  match j, hj with
  | 0, _ => rfl
  | 1, _ => rfl
  | k + 2, h => exact absurd h (by simp [wdA])
theorem ce_zero : (Try.prog.info? 69).map (·.zero) = some (some (.agg (ceA zeroCe))) := by kernel_rfl
theorem ev_zero : (Try.prog.info? 27).map (·.zero) = some (some (.agg (evA zeroEv))) := by kernel_rfl
theorem wd_zero : (Try.prog.info? 67).map (·.zero) = some (some (.agg (wdA U.zero))) := by kernel_rfl
theorem build_ce0 (w : World) : (Instr.build 69 #[]).run Try.prog w = .ok (.agg (ceA zeroCe)) w := by
  rw [ceA_zero]
  go_simp
theorem build_wd0 (w : World) : (Instr.build 67 #[]).run Try.prog w = .ok (.agg (wdA U.zero)) w := by
  show _ = Result.ok (Value.agg #[.int .u64 0, .int .u64 0]) w
  go_simp
theorem build_ce (n : Int) (f l : Ev) (i : U) (r g s : Int) (w : World) : (Instr.build 69 #[(0, .int .i64 n), (1, .agg (evA f)), (2, .agg (evA l)), (3, .agg (wdA i)), (4, .int .i64 r), (5, .int .i64 g), (6, .int .i64 s)]).run Try.prog w = .ok (.agg (ceA ⟨n, f, l, i, r, g, s⟩)) w := by
  unfold evA wdA ceA
  go_simp
theorem build_ce1 (n : Int) (f l : Ev) (w : World) : (Instr.build 69 #[(0, .int .i64 n), (1, .agg (evA f)), (2, .agg (evA l))]).run Try.prog w = .ok (.agg (ceA ⟨n, f, l, U.zero, 0, 0, 0⟩)) w := by
  unfold evA ceA
  simp only [zero_hi, zero_lo]
  go_simp
theorem ev_eql_yes {x y : Ev} (h : x = y) (w : World) : (binOp .eql 27 (.agg (evA x)) (.agg (evA y))).run Try.prog w = .ok (.bool true) w := by rw [ev_eql, eqB_yes h]
theorem ev_eql_no {x y : Ev} (h : ¬ x = y) (w : World) : (binOp .eql 27 (.agg (evA x)) (.agg (evA y))).run Try.prog w = .ok (.bool false) w := by rw [ev_eql, eqB_no h]
theorem ce_eql_yes {x y : Ce} (h : x = y) (w : World) : (binOp .eql 69 (.agg (ceA x)) (.agg (ceA y))).run Try.prog w = .ok (.bool true) w := by rw [ce_eql, eqB_yes h]
theorem ce_eql_no {x y : Ce} (h : ¬ x = y) (w : World) : (binOp .eql 69 (.agg (ceA x)) (.agg (ceA y))).run Try.prog w = .ok (.bool false) w := by rw [ce_eql, eqB_no h]
theorem wd_eql (x y : U) (w : World) : (binOp .eql 67 (.agg (wdA x)) (.agg (wdA y))).run Try.prog w = .ok (.bool (eqB x y)) w := by
  unfold wdA
  go_simp
  by_cases h : x = y
  · rw [eqB_yes h]; subst h; simp
  · rw [eqB_no h]
    repeat' split
    all_goals first | rfl | exact absurd (U.halves_inj (by assumption) (by assumption)) h
theorem wd_eql_yes {x y : U} (h : x = y) (w : World) : (binOp .eql 67 (.agg (wdA x)) (.agg (wdA y))).run Try.prog w = .ok (.bool true) w := by rw [wd_eql, eqB_yes h]
theorem wd_eql_no {x y : U} (h : ¬ x = y) (w : World) : (binOp .eql 67 (.agg (wdA x)) (.agg (wdA y))).run Try.prog w = .ok (.bool false) w := by rw [wd_eql, eqB_no h]
end Go.Proofs.Ytohkioakipjanaa
