/-
  WALKS: package conf: sectors, factors, place.
-/
import Derived.Test.YticmkepocacmhaaW9
import Derived.Test.YticmkepocacmhaaDr
import Derived.BigRegion
import Derived.RegionTactic
import Derived.ChangeAlike
namespace Go.Proofs.Yticmkepocacmhaa
open Go Go.RowKit

section
variable {P : Program} {ops : Array Oper} {rest : List Oper} {op : Oper} {a : Act} {w : World} {Q : Exit → Act → World → Prop}
/-- A part of an array by value. -/
theorem wl_index {t : TypeId} {x i : Operand} {v k r : Value} (ho : op.op = .index t x i) (hw : Region.wanted op (yielded ops a.tmps) = true) (hx : a.eval x = v) (hi : a.eval i = k) (hr : (Instr.index t v k).run P w = .ok r w)
    (h : wpList P ops Q rest (a.put op.dst r) w) : wpList P ops Q (op :: rest) a w := by
  refine wl_ok hw ?_ h
  unfold execOp
  simp only [ho, hx, hi, Sem.run_bind, hr, Result.andThen_ok, Sem.run_pure]
end
theorem ixw0 (x y z : Value) (w : World) : (Instr.index 22 (.agg #[x, y, z]) (.int .i64 0)).run Try.prog w = .ok x w := by
  simp [Instr.index, asIntOf, go_sem]
theorem ixw1 (x y z : Value) (w : World) : (Instr.index 22 (.agg #[x, y, z]) (.int .i64 1)).run Try.prog w = .ok y w := by
  simp [Instr.index, asIntOf, go_sem]
theorem ixw2 (x y z : Value) (w : World) : (Instr.index 22 (.agg #[x, y, z]) (.int .i64 2)).run Try.prog w = .ok z w := by
  simp [Instr.index, asIntOf, go_sem]
theorem ixn0 (x y z : Value) (w : World) : (Instr.index 23 (.agg #[x, y, z]) (.int .i64 0)).run Try.prog w = .ok x w := by
  simp [Instr.index, asIntOf, go_sem]
theorem ixn1 (x y z : Value) (w : World) : (Instr.index 23 (.agg #[x, y, z]) (.int .i64 1)).run Try.prog w = .ok y w := by
  simp [Instr.index, asIntOf, go_sem]
theorem ixn2 (x y z : Value) (w : World) : (Instr.index 23 (.agg #[x, y, z]) (.int .i64 2)).run Try.prog w = .ok z w := by
  simp [Instr.index, asIntOf, go_sem]
/-- A configuration. -/
structure Cf where
  raw : Int
  w0 : Int
  w1 : Int
  w2 : Int
  n0 : Int
  n1 : Int
  n2 : Int
  cap : Int
  log : Int
def cfA (c : Cf) : Array Value := #[.int .i64 c.raw, .int .i64 c.w0, .int .i64 c.w1, .int .i64 c.w2, .int .i64 c.n0, .int .i64 c.n1, .int .i64 c.n2, .int .i64 c.cap, .int .i64 c.log]
def arA (x y z : Int) : Array Value := #[.int .i64 x, .int .i64 y, .int .i64 z]
/-- How many sectors n things need. -/
def secI (n e : Int) : Int := (n + e - 1) / e
def placeI (c : Cf) : Int := 1 + secI c.raw 16 + secI c.n0 4 + secI c.n1 4 + secI c.n2 4

theorem sec_any (n e : Int) (h0 : 1 ≤ e) (h1 : e ≤ 128) (h2 : 0 ≤ n) (h3 : n ≤ 1000000) (w0 : World) :
    Calls Try.prog 40 #[.int .i64 n, .int .i64 e] w0 fun r w' => r = .returned (.int .i64 (secI n e)) ∧ w0 = w' := by
  go_enter Try.func40, Try.ntmps40
  go_wp2
  go_ret
  exact ⟨rfl, rfl⟩
theorem sec16_bd {n : Int} (h0 : 1 ≤ n) (h1 : n ≤ 4096) : 1 ≤ secI n 16 ∧ secI n 16 ≤ 256 := by unfold secI; omega
theorem sec4_bd {n : Int} (h0 : 1 ≤ n) (h1 : n ≤ 4096) : 1 ≤ secI n 4 ∧ secI n 4 ≤ 1024 := by unfold secI; omega
set_option maxHeartbeats 4000000 in
set_option maxRecDepth 100000 in
theorem place_raw (raw w0 w1 w2 n0 n1 n2 cap log : Int) (hr : SlotsOk raw) (h0 : SlotsOk n0) (h1 : SlotsOk n1) (h2 : SlotsOk n2) (w : World) :
    Calls Try.prog 37 #[.agg #[.int .i64 raw, .int .i64 w0, .int .i64 w1, .int .i64 w2, .int .i64 n0, .int .i64 n1, .int .i64 n2, .int .i64 cap, .int .i64 log]] w fun e w' => e = .returned (.int .i64 (1 + secI raw 16 + secI n0 4 + secI n1 4 + secI n2 4)) ∧ Below w.heap.size w w' := by
  have HS0 := Lib.hid (fun w1 => sec_any raw 16 (by omega) (by omega) (by have := hr.1; omega) (by have := hr.2; omega) w1)
  have HS1 := Lib.hid (fun w1 => sec_any n0 4 (by omega) (by omega) (by have := h0.1; omega) (by have := h0.2; omega) w1)
  have HS2 := Lib.hid (fun w1 => sec_any n1 4 (by omega) (by omega) (by have := h1.1; omega) (by have := h1.2; omega) w1)
  have HS3 := Lib.hid (fun w1 => sec_any n2 4 (by omega) (by omega) (by have := h2.1; omega) (by have := h2.2; omega) w1)
  obtain ⟨a0, a1⟩ := sec16_bd hr.1 hr.2
  obtain ⟨b0, b1⟩ := sec4_bd h0.1 h0.2
  obtain ⟨c0, c1⟩ := sec4_bd h1.1 h1.2
  obtain ⟨d0, d1⟩ := sec4_bd h2.1 h2.2
  generalize secI raw 16 = s0 at *
  generalize secI n0 4 = s1 at *
  generalize secI n1 4 = s2 at *
  generalize secI n2 4 = s3 at *
  clear hr h0 h1 h2
  go_enter Try.func37, Try.ntmps37
  go_wp2_with ((go_at_call 40; (with_reducible refine (HS0.out _).mono ?_); rintro e w1 ⟨rfl, rfl⟩))
  refine wp_loop_rounds 4 ?_
  (rw [rounds_succ]; go_wp2_with (first | ((with_reducible refine at_slot 14 ?_); refine wl_index rfl rfl rfl rfl (ixn0 _ _ _ _) ?_) | (go_at_call 40; (with_reducible refine (HS1.out _).mono ?_); rintro e w1 ⟨rfl, rfl⟩)))
  (rw [rounds_succ]; go_wp2_with (first | ((with_reducible refine at_slot 14 ?_); refine wl_index rfl rfl rfl rfl (ixn1 _ _ _ _) ?_) | (go_at_call 40; (with_reducible refine (HS2.out _).mono ?_); rintro e w1 ⟨rfl, rfl⟩)))
  (rw [rounds_succ]; go_wp2_with (first | ((with_reducible refine at_slot 14 ?_); refine wl_index rfl rfl rfl rfl (ixn2 _ _ _ _) ?_) | (go_at_call 40; (with_reducible refine (HS3.out _).mono ?_); rintro e w1 ⟨rfl, rfl⟩)))
  (rw [rounds_succ]; go_wp2_with fail)
  go_ret
  exact ⟨rfl, by go_grown⟩

set_option maxHeartbeats 4000000 in
set_option maxRecDepth 100000 in
theorem factors_raw (a b c : Int) (h0 : WidthOk a) (h1 : WidthOk b) (h2 : WidthOk c) (w : World) :
    Calls Try.prog 39 #[.agg #[.int .i64 a, .int .i64 b, .int .i64 c]] w fun e w' => e = .returned (.agg #[.int .i64 0, .int .i64 (b / a), .int .i64 (c / b)]) ∧ Below w.heap.size w w' := by
  obtain ⟨a0, a1⟩ := h0
  obtain ⟨b0, b1⟩ := h1
  obtain ⟨c0, c1⟩ := h2
  have q0 : 0 ≤ b / a := Int.ediv_nonneg (by omega) (by omega)
  have q1 : b / a ≤ b := Int.ediv_le_self _ (by omega)
  have q2 : 0 ≤ c / b := Int.ediv_nonneg (by omega) (by omega)
  have q3 : c / b ≤ c := Int.ediv_le_self _ (by omega)
  go_enter Try.func39, Try.ntmps39
  go_wp2
  refine wp_loop_rounds 3 ?_
  (rw [rounds_succ]; go_wp2_with fail)
  go_region
  go_wp2_with fail
  (rw [rounds_succ]; go_wp2_with fail)
  go_region
  go_wp2_with fail
  (rw [rounds_succ]; go_wp2_with fail)
  refine bodyPost_ret (v := .agg #[.int .i64 0, .int .i64 (b / a), .int .i64 (c / b)]) (by simp [results, Try.results39, go_sem]) rfl ⟨rfl, by go_grown⟩
end Go.Proofs.Yticmkepocacmhaa
