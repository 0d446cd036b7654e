/-
  THE DOCUMENT'S ANSWERS for configurations: plimsollref10.Check, Factor, Index, Home, Place, Size, Retention.
-/
import Derived.Test.YticmkepocacmhaaPt
import Derived.Test.YticmkepocacmhaaCs5
namespace Go.Proofs.Yticmkepocacmhaa
open Go Go.RowKit

def mxI (m n : Int) : Int := if m < n then n else m
section
variable {P : Program} {ops : Array Oper} {S : World → Prop} {op : Oper} {a : Act}
theorem yi_max {x y : Operand} {ts : Array TypeId} {m n : Int} (ho : op.op = .call { callee := .builtin .max, args := #[x, y], argTypes := ts }) (hw : Region.wanted op (yielded ops a.tmps) = true) (hx : a.eval x = .int .i64 m) (hy : a.eval y = .int .i64 n) : YieldsIf P ops S op (.int .i64 (mxI m n)) a := by
  refine yi_ok hw fun w => ?_
  unfold execOp mxI
  cases x <;> cases y <;> simp [Act.eval] at hx hy <;> simp [ho, hx, hy, Act.eval, resolve, Deferred.ofValue, invoke, go_sem]
end
theorem rplace_at {c : Cf} (ht : TiersOk c) (hr : SlotsOk c.raw) (w : World) : Calls Try.prog 38 #[.agg (cfA c)] w fun e w' => e = .returned (.int .i64 (placeI c)) ∧ Below w.heap.size w w' :=
  rplace_raw _ _ _ _ _ _ _ _ _ hr ht.1.1.2 ht.1.2.1.2 ht.1.2.2.2 w
set_option maxHeartbeats 4000000 in
set_option maxRecDepth 100000 in
theorem rck_small {c : Cf} (h : TiersOk c) (hr : SlotsOk c.raw) (hp : 1 ≤ c.cap ∧ c.cap ≤ 65536) (h1 : 1 ≤ c.log) (h2 : c.log ≤ 8192) (hl : c.log ≤ placeI c) (w : World) : Calls Try.prog 13 #[.agg (cfA c)] w fun e w' => e = .returned (.int .i64 2) ∧ Below w.heap.size w w' := by
  have HP := Lib.hid (fun w1 => rplace_at h hr w1)
  obtain ⟨p0, p1⟩ := place_bd h hr
  obtain ⟨⟨⟨⟨a0, A0⟩, b0, B0⟩, ⟨⟨a1, A1⟩, b1, B1⟩, ⟨a2, A2⟩, b2, B2⟩, ⟨x1, y1⟩, x2, y2⟩ := h
  obtain ⟨r0, r1⟩ := hr
  obtain ⟨c0, c1⟩ := hp
  have m1 : 0 ≤ c.w1 % c.w0 := Int.emod_nonneg _ (by omega)
  have q1 : 0 ≤ c.w1 / c.w0 := Int.ediv_nonneg (by omega) (by omega)
  have Q1 : c.w1 / c.w0 ≤ c.w1 := Int.ediv_le_self _ (by omega)
  have N1 : ¬ c.w0 = 0 := by omega
  have P1 : 0 ≤ c.w1 := by omega
  have t1 : Int.tmod c.w1 c.w0 = c.w1 % c.w0 := Int.tmod_eq_emod_of_nonneg P1
  have u1 : Int.tdiv c.w1 c.w0 = c.w1 / c.w0 := Int.tdiv_eq_ediv_of_nonneg P1
  have U1 : IntKind.i64.wrap (c.w1 / c.w0) = c.w1 / c.w0 := by rw [IntKind.wrap_i64]; omega
  have g1 : decide (c.n0 < c.w1 / c.w0) = false := by simp; omega
  have m2 : 0 ≤ c.w2 % c.w1 := Int.emod_nonneg _ (by omega)
  have q2 : 0 ≤ c.w2 / c.w1 := Int.ediv_nonneg (by omega) (by omega)
  have Q2 : c.w2 / c.w1 ≤ c.w2 := Int.ediv_le_self _ (by omega)
  have N2 : ¬ c.w1 = 0 := by omega
  have P2 : 0 ≤ c.w2 := by omega
  have t2 : Int.tmod c.w2 c.w1 = c.w2 % c.w1 := Int.tmod_eq_emod_of_nonneg P2
  have u2 : Int.tdiv c.w2 c.w1 = c.w2 / c.w1 := Int.tdiv_eq_ediv_of_nonneg P2
  have U2 : IntKind.i64.wrap (c.w2 / c.w1) = c.w2 / c.w1 := by rw [IntKind.wrap_i64]; omega
  have g2 : decide (c.n1 < c.w2 / c.w1) = false := by simp; omega
  have z0 : IntKind.i64.wrap 0 = 0 := by decide
  have z1 : IntKind.i64.wrap 1 = 1 := by decide
  obtain ⟨p, hpp⟩ : ∃ p, p = placeI c := ⟨_, rfl⟩
  rw [← hpp] at HP p0 p1 hl
  clear hpp
  have oraw : decide (c.raw < 1) = false := by simp; omega
  have Oraw : decide (4096 < c.raw) = false := by simp; omega
  have ocap : decide (c.cap < 1) = false := by simp; omega
  have Ocap : decide (65536 < c.cap) = false := by simp; omega
  have olog : decide (c.log < 1) = false := by simp; omega
  have Olog : decide (8192 < c.log) = false := by simp; omega
  have ow0 : decide (c.w0 < 1) = false := by simp; omega
  have Ow0 : decide (1099511627776 < c.w0) = false := by simp; omega
  have on0 : decide (c.n0 < 1) = false := by simp; omega
  have On0 : decide (4096 < c.n0) = false := by simp; omega
  have ow1 : decide (c.w1 < 1) = false := by simp; omega
  have Ow1 : decide (1099511627776 < c.w1) = false := by simp; omega
  have on1 : decide (c.n1 < 1) = false := by simp; omega
  have On1 : decide (4096 < c.n1) = false := by simp; omega
  have ow2 : decide (c.w2 < 1) = false := by simp; omega
  have Ow2 : decide (1099511627776 < c.w2) = false := by simp; omega
  have on2 : decide (c.n2 < 1) = false := by simp; omega
  have On2 : decide (4096 < c.n2) = false := by simp; omega
  have gl : decide (c.log ≤ p) = true := by simp; omega
  
  have HB := Lib.hid (Below.refl w.heap.size w)
  go_enter Try.func13, Try.ntmps13
  go_wp2_with (first
      | ((with_reducible refine at_slot 1 ?_); refine wl_box (A := (cfA c)) rfl rfl rfl ?_; intro W1 g1 k1 hb hle; have L1 := Lib.hid (Nat.le_trans HB.out.size hle); replace HB := Lib.hid (below_tr HB.out hb); clear hb hle)
      | ((with_reducible refine at_slot 5 ?_); refine wl_ld1 (v := .int .i64 c.raw) rfl rfl rfl k1 Try.underlying3 rfl rfl ?_)
      | ((with_reducible refine at_slot 9 ?_); refine wl_ld1 (v := .int .i64 c.raw) rfl rfl rfl k1 Try.underlying3 rfl rfl ?_)
      | ((with_reducible refine at_slot 14 ?_); refine wl_ld1 (v := .int .i64 c.cap) rfl rfl rfl k1 Try.underlying3 rfl rfl ?_)
      | ((with_reducible refine at_slot 19 ?_); refine wl_ld1 (v := .int .i64 c.cap) rfl rfl rfl k1 Try.underlying3 rfl rfl ?_)
      | ((with_reducible refine at_slot 24 ?_); refine wl_ld1 (v := .int .i64 c.log) rfl rfl rfl k1 Try.underlying3 rfl rfl ?_)
      | ((with_reducible refine at_slot 29 ?_); refine wl_ld1 (v := .int .i64 c.log) rfl rfl rfl k1 Try.underlying3 rfl rfl ?_))
  refine wp_loop_rounds 4 ?_
  rw [rounds_succ]
  go_wp2_with (first
      | ((with_reducible refine at_slot 39 ?_); refine wl_ld1 (v := .int .i64 c.w0) rfl rfl rfl k1 Try.underlying2 rfl rfl ?_)
      | ((with_reducible refine at_slot 45 ?_); refine wl_ld1 (v := .int .i64 c.w0) rfl rfl rfl k1 Try.underlying2 rfl rfl ?_)
      | ((with_reducible refine at_slot 52 ?_); refine wl_ld1 (v := .int .i64 c.n0) rfl rfl rfl k1 Try.underlying3 rfl rfl ?_)
      | ((with_reducible refine at_slot 59 ?_); refine wl_ld1 (v := .int .i64 c.n0) rfl rfl rfl k1 Try.underlying3 rfl rfl ?_))
  refine wp_region_held_drew (S := fun w' => Blk w' g1 25 (cfA c) ∧ Below w.heap.size w w') (by kernel_rfl) ⟨k1.drew, HB.out.drew⟩ (fun hS => ?_)
  clear k1
  have hS2 := hS
  obtain ⟨k1, hB⟩ := hS2
  replace HB := Lib.hid hB
  clear hB
  refine wpAnyH_take (i := 0) (oi := ⟨some 62, _, _, _, _, _⟩) (v := .int .i64 0) rfl (by kernel_rfl) (by kernel_rfl) (by kernel_rfl) (fun _ _ _ h => h) (yi_mv (Or.inl rfl) rfl rfl) hS ?_
  simp only [Act.put, List.setIfInBounds_toArray, List.set_cons_zero, List.set_cons_succ]
  refine wpAnyH_take (i := 1) (oi := ⟨some 63, _, _, _, _, _⟩) (v := .bool false) rfl (by kernel_rfl) (by kernel_rfl) (by kernel_rfl) (fun _ _ _ h => h) (yi_ok rfl (fun _ => by go_simp)) hS ?_
  simp only [Act.put, List.setIfInBounds_toArray, List.set_cons_zero, List.set_cons_succ]
  refine wpAnyH_take (i := 2) (oi := ⟨some 64, _, _, _, _, _⟩) (v := .bool false) rfl (by kernel_rfl) (by kernel_rfl) (by kernel_rfl) (fun _ _ _ h => h) (yi_mv (Or.inl rfl) rfl rfl) hS ?_
  simp only [Act.put, List.setIfInBounds_toArray, List.set_cons_zero, List.set_cons_succ]
  refine wpAnyH_take (i := 3) (oi := ⟨some 65, _, _, _, _, _⟩) (v := undef) rfl (by kernel_rfl) (by kernel_rfl) (by kernel_rfl) (fun _ _ _ h => h) (yi_no (by kernel_rfl)) hS ?_
  simp only [Act.put, List.setIfInBounds_toArray, List.set_cons_zero, List.set_cons_succ]
  refine wpAnyH_take (i := 4) (oi := ⟨some 66, _, _, _, _, _⟩) (v := undef) rfl (by kernel_rfl) (by kernel_rfl) (by kernel_rfl) (fun _ _ _ h => h) (yi_no (by kernel_rfl)) hS ?_
  simp only [Act.put, List.setIfInBounds_toArray, List.set_cons_zero, List.set_cons_succ]
  refine wpAnyH_take (i := 5) (oi := ⟨some 67, _, _, _, _, _⟩) (v := undef) rfl (by kernel_rfl) (by kernel_rfl) (by kernel_rfl) (fun _ _ _ h => h) (yi_no (by kernel_rfl)) hS ?_
  simp only [Act.put, List.setIfInBounds_toArray, List.set_cons_zero, List.set_cons_succ]
  refine wpAnyH_take (i := 6) (oi := ⟨some 68, _, _, _, _, _⟩) (v := undef) rfl (by kernel_rfl) (by kernel_rfl) (by kernel_rfl) (fun _ _ _ h => h) (yi_no (by kernel_rfl)) hS ?_
  simp only [Act.put, List.setIfInBounds_toArray, List.set_cons_zero, List.set_cons_succ]
  refine wpAnyH_take (i := 7) (oi := ⟨some 69, _, _, _, _, _⟩) (v := undef) rfl (by kernel_rfl) (by kernel_rfl) (by kernel_rfl) (fun _ _ _ h => h) (yi_no (by kernel_rfl)) hS ?_
  simp only [Act.put, List.setIfInBounds_toArray, List.set_cons_zero, List.set_cons_succ]
  refine wpAnyH_take (i := 8) (oi := ⟨some 70, _, _, _, _, _⟩) (v := undef) rfl (by kernel_rfl) (by kernel_rfl) (by kernel_rfl) (fun _ _ _ h => h) (yi_no (by kernel_rfl)) hS ?_
  simp only [Act.put, List.setIfInBounds_toArray, List.set_cons_zero, List.set_cons_succ]
  refine wpAnyH_take (i := 9) (oi := ⟨some 71, _, _, _, _, _⟩) (v := undef) rfl (by kernel_rfl) (by kernel_rfl) (by kernel_rfl) (fun _ _ _ h => h) (yi_no (by kernel_rfl)) hS ?_
  simp only [Act.put, List.setIfInBounds_toArray, List.set_cons_zero, List.set_cons_succ]
  refine wpAnyH_take (i := 10) (oi := ⟨some 72, _, _, _, _, _⟩) (v := undef) rfl (by kernel_rfl) (by kernel_rfl) (by kernel_rfl) (fun _ _ _ h => h) (yi_no (by kernel_rfl)) hS ?_
  simp only [Act.put, List.setIfInBounds_toArray, List.set_cons_zero, List.set_cons_succ]
  refine wpAnyH_take (i := 11) (oi := ⟨some 73, _, _, _, _, _⟩) (v := undef) rfl (by kernel_rfl) (by kernel_rfl) (by kernel_rfl) (fun _ _ _ h => h) (yi_no (by kernel_rfl)) hS ?_
  simp only [Act.put, List.setIfInBounds_toArray, List.set_cons_zero, List.set_cons_succ]
  refine wpAnyH_take (i := 12) (oi := ⟨some 74, _, _, _, _, _⟩) (v := undef) rfl (by kernel_rfl) (by kernel_rfl) (by kernel_rfl) (fun _ _ _ h => h) (yi_no (by kernel_rfl)) hS ?_
  simp only [Act.put, List.setIfInBounds_toArray, List.set_cons_zero, List.set_cons_succ]
  refine wpAnyH_take (i := 13) (oi := ⟨some 75, _, _, _, _, _⟩) (v := undef) rfl (by kernel_rfl) (by kernel_rfl) (by kernel_rfl) (fun _ _ _ h => h) (yi_no (by kernel_rfl)) hS ?_
  simp only [Act.put, List.setIfInBounds_toArray, List.set_cons_zero, List.set_cons_succ]
  refine wpAnyH_take (i := 14) (oi := ⟨some 76, _, _, _, _, _⟩) (v := undef) rfl (by kernel_rfl) (by kernel_rfl) (by kernel_rfl) (fun _ _ _ h => h) (yi_no (by kernel_rfl)) hS ?_
  simp only [Act.put, List.setIfInBounds_toArray, List.set_cons_zero, List.set_cons_succ]
  refine wpAnyH_take (i := 15) (oi := ⟨some 77, _, _, _, _, _⟩) (v := undef) rfl (by kernel_rfl) (by kernel_rfl) (by kernel_rfl) (fun _ _ _ h => h) (yi_no (by kernel_rfl)) hS ?_
  simp only [Act.put, List.setIfInBounds_toArray, List.set_cons_zero, List.set_cons_succ]
  refine wpAnyH_take (i := 16) (oi := ⟨some 78, _, _, _, _, _⟩) (v := undef) rfl (by kernel_rfl) (by kernel_rfl) (by kernel_rfl) (fun _ _ _ h => h) (yi_no (by kernel_rfl)) hS ?_
  simp only [Act.put, List.setIfInBounds_toArray, List.set_cons_zero, List.set_cons_succ]
  refine wpAnyH_take (i := 17) (oi := ⟨some 79, _, _, _, _, _⟩) (v := undef) rfl (by kernel_rfl) (by kernel_rfl) (by kernel_rfl) (fun _ _ _ h => h) (yi_no (by kernel_rfl)) hS ?_
  simp only [Act.put, List.setIfInBounds_toArray, List.set_cons_zero, List.set_cons_succ]
  refine wpAnyH_take (i := 18) (oi := ⟨some 80, _, _, _, _, _⟩) (v := undef) rfl (by kernel_rfl) (by kernel_rfl) (by kernel_rfl) (fun _ _ _ h => h) (yi_no (by kernel_rfl)) hS ?_
  simp only [Act.put, List.setIfInBounds_toArray, List.set_cons_zero, List.set_cons_succ]
  refine wpAnyH_take (i := 19) (oi := ⟨some 81, _, _, _, _, _⟩) (v := undef) rfl (by kernel_rfl) (by kernel_rfl) (by kernel_rfl) (fun _ _ _ h => h) (yi_no (by kernel_rfl)) hS ?_
  simp only [Act.put, List.setIfInBounds_toArray, List.set_cons_zero, List.set_cons_succ]
  refine wpAnyH_take (i := 20) (oi := ⟨some 82, _, _, _, _, _⟩) (v := undef) rfl (by kernel_rfl) (by kernel_rfl) (by kernel_rfl) (fun _ _ _ h => h) (yi_no (by kernel_rfl)) hS ?_
  simp only [Act.put, List.setIfInBounds_toArray, List.set_cons_zero, List.set_cons_succ]
  refine wpAnyH_take (i := 21) (oi := ⟨some 83, _, _, _, _, _⟩) (v := undef) rfl (by kernel_rfl) (by kernel_rfl) (by kernel_rfl) (fun _ _ _ h => h) (yi_no (by kernel_rfl)) hS ?_
  simp only [Act.put, List.setIfInBounds_toArray, List.set_cons_zero, List.set_cons_succ]
  refine wpAnyH_take (i := 22) (oi := ⟨some 84, _, _, _, _, _⟩) (v := undef) rfl (by kernel_rfl) (by kernel_rfl) (by kernel_rfl) (fun _ _ _ h => h) (yi_no (by kernel_rfl)) hS ?_
  simp only [Act.put, List.setIfInBounds_toArray, List.set_cons_zero, List.set_cons_succ]
  refine wpAnyH_take (i := 23) (oi := ⟨some 85, _, _, _, _, _⟩) (v := undef) rfl (by kernel_rfl) (by kernel_rfl) (by kernel_rfl) (fun _ _ _ h => h) (yi_no (by kernel_rfl)) hS ?_
  simp only [Act.put, List.setIfInBounds_toArray, List.set_cons_zero, List.set_cons_succ]
  refine wpAnyH_take (i := 24) (oi := ⟨some 86, _, _, _, _, _⟩) (v := undef) rfl (by kernel_rfl) (by kernel_rfl) (by kernel_rfl) (fun _ _ _ h => h) (yi_no (by kernel_rfl)) hS ?_
  simp only [Act.put, List.setIfInBounds_toArray, List.set_cons_zero, List.set_cons_succ]
  refine wpAnyH_take (i := 25) (oi := ⟨some 87, _, _, _, _, _⟩) (v := undef) rfl (by kernel_rfl) (by kernel_rfl) (by kernel_rfl) (fun _ _ _ h => h) (yi_no (by kernel_rfl)) hS ?_
  simp only [Act.put, List.setIfInBounds_toArray, List.set_cons_zero, List.set_cons_succ]
  refine wpAnyH_take (i := 26) (oi := ⟨some 88, _, _, _, _, _⟩) (v := undef) rfl (by kernel_rfl) (by kernel_rfl) (by kernel_rfl) (fun _ _ _ h => h) (yi_no (by kernel_rfl)) hS ?_
  simp only [Act.put, List.setIfInBounds_toArray, List.set_cons_zero, List.set_cons_succ]
  refine wpAnyH_take (i := 27) (oi := ⟨some 89, _, _, _, _, _⟩) (v := undef) rfl (by kernel_rfl) (by kernel_rfl) (by kernel_rfl) (fun _ _ _ h => h) (yi_no (by kernel_rfl)) hS ?_
  simp only [Act.put, List.setIfInBounds_toArray, List.set_cons_zero, List.set_cons_succ]
  refine wpAnyH_take (i := 28) (oi := ⟨some 90, _, _, _, _, _⟩) (v := undef) rfl (by kernel_rfl) (by kernel_rfl) (by kernel_rfl) (fun _ _ _ h => h) (yi_no (by kernel_rfl)) hS ?_
  simp only [Act.put, List.setIfInBounds_toArray, List.set_cons_zero, List.set_cons_succ]
  refine wpAnyH_take (i := 29) (oi := ⟨some 91, _, _, _, _, _⟩) (v := undef) rfl (by kernel_rfl) (by kernel_rfl) (by kernel_rfl) (fun _ _ _ h => h) (yi_no (by kernel_rfl)) hS ?_
  simp only [Act.put, List.setIfInBounds_toArray, List.set_cons_zero, List.set_cons_succ]
  refine wpAnyH_take (i := 30) (oi := ⟨some 92, _, _, _, _, _⟩) (v := undef) rfl (by kernel_rfl) (by kernel_rfl) (by kernel_rfl) (fun _ _ _ h => h) (yi_no (by kernel_rfl)) hS ?_
  simp only [Act.put, List.setIfInBounds_toArray, List.set_cons_zero, List.set_cons_succ]
  refine wpAnyH_take (i := 31) (oi := ⟨some 93, _, _, _, _, _⟩) (v := undef) rfl (by kernel_rfl) (by kernel_rfl) (by kernel_rfl) (fun _ _ _ h => h) (yi_no (by kernel_rfl)) hS ?_
  simp only [Act.put, List.setIfInBounds_toArray, List.set_cons_zero, List.set_cons_succ]
  refine wpAnyH_take (i := 32) (oi := ⟨some 94, _, _, _, _, _⟩) (v := .bool false) rfl (by kernel_rfl) (by kernel_rfl) (by kernel_rfl) (fun _ _ _ h => h) (yi_pick0 rfl rfl rfl rfl) hS ?_
  simp only [Act.put, List.setIfInBounds_toArray, List.set_cons_zero, List.set_cons_succ]
  refine wpAnyH_done (by kernel_rfl) ?_ _
  clear hS
  go_wp2_with fail
  rw [rounds_succ]
  go_wp2_with (first
      | ((with_reducible refine at_slot 39 ?_); refine wl_ld1 (v := .int .i64 c.w1) rfl rfl rfl k1 Try.underlying2 rfl rfl ?_)
      | ((with_reducible refine at_slot 45 ?_); refine wl_ld1 (v := .int .i64 c.w1) rfl rfl rfl k1 Try.underlying2 rfl rfl ?_)
      | ((with_reducible refine at_slot 52 ?_); refine wl_ld1 (v := .int .i64 c.n1) rfl rfl rfl k1 Try.underlying3 rfl rfl ?_)
      | ((with_reducible refine at_slot 59 ?_); refine wl_ld1 (v := .int .i64 c.n1) rfl rfl rfl k1 Try.underlying3 rfl rfl ?_))
  refine wp_region_held_drew (S := fun w' => Blk w' g1 25 (cfA c) ∧ Below w.heap.size w w') (by kernel_rfl) ⟨k1.drew, HB.out.drew⟩ (fun hS => ?_)
  clear k1
  have hS2 := hS
  obtain ⟨k1, hB⟩ := hS2
  replace HB := Lib.hid hB
  clear hB
  refine wpAnyH_take (i := 0) (oi := ⟨some 62, _, _, _, _, _⟩) (v := .int .i64 1) rfl (by kernel_rfl) (by kernel_rfl) (by kernel_rfl) (fun _ _ _ h => h) (yi_mv (Or.inl rfl) rfl rfl) hS ?_
  simp only [Act.put, List.setIfInBounds_toArray, List.set_cons_zero, List.set_cons_succ]
  refine wpAnyH_take (i := 1) (oi := ⟨some 63, _, _, _, _, _⟩) (v := .bool true) rfl (by kernel_rfl) (by kernel_rfl) (by kernel_rfl) (fun _ _ _ h => h) (yi_ok rfl (fun _ => by go_simp)) hS ?_
  simp only [Act.put, List.setIfInBounds_toArray, List.set_cons_zero, List.set_cons_succ]
  refine wpAnyH_take (i := 2) (oi := ⟨some 64, _, _, _, _, _⟩) (v := .bool true) rfl (by kernel_rfl) (by kernel_rfl) (by kernel_rfl) (fun _ _ _ h => h) (yi_mv (Or.inl rfl) rfl rfl) hS ?_
  simp only [Act.put, List.setIfInBounds_toArray, List.set_cons_zero, List.set_cons_succ]
  refine wpAnyH_take (i := 3) (oi := ⟨some 65, _, _, _, _, _⟩) (v := .int .i64 1) rfl (by kernel_rfl) (by kernel_rfl) (by kernel_rfl) (fun _ _ _ h => h) (yi_mv (Or.inl rfl) (by kernel_rfl) rfl) hS ?_
  simp only [Act.put, List.setIfInBounds_toArray, List.set_cons_zero, List.set_cons_succ]
  refine wpAnyH_take (i := 4) (oi := ⟨some 66, _, _, _, _, _⟩) (v := .pointer (some ⟨g1, 1, none⟩)) rfl (by kernel_rfl) (by kernel_rfl) (by kernel_rfl) (fun _ _ _ h => h) (yi_ok (by kernel_rfl) (fun _ => by go_simp)) hS ?_
  simp only [Act.put, List.setIfInBounds_toArray, List.set_cons_zero, List.set_cons_succ]
  refine wpAnyH_take (i := 5) (oi := ⟨some 67, _, _, _, _, _⟩) (v := .pointer (some ⟨g1, 2, none⟩)) rfl (by kernel_rfl) (by kernel_rfl) (by kernel_rfl) (fun _ _ _ h => h) (yi_ok (by kernel_rfl) (fun _ => by go_simp)) hS ?_
  simp only [Act.put, List.setIfInBounds_toArray, List.set_cons_zero, List.set_cons_succ]
  refine wpAnyH_take (i := 6) (oi := ⟨some 68, _, _, _, _, _⟩) (v := .int .i64 c.w1) rfl (by kernel_rfl) (by kernel_rfl) (by kernel_rfl) (fun _ _ _ h => h) (yi_ld1 (v := .int .i64 c.w1) rfl (by kernel_rfl) rfl (fun w' h => h.1) Try.underlying2 rfl rfl) hS ?_
  simp only [Act.put, List.setIfInBounds_toArray, List.set_cons_zero, List.set_cons_succ]
  refine wpAnyH_take (i := 7) (oi := ⟨some 69, _, _, _, _, _⟩) (v := .int .i64 1) rfl (by kernel_rfl) (by kernel_rfl) (by kernel_rfl) (fun _ _ _ h => h) (yi_mv (Or.inl rfl) (by kernel_rfl) rfl) hS ?_
  simp only [Act.put, List.setIfInBounds_toArray, List.set_cons_zero, List.set_cons_succ]
  refine wpAnyH_take (i := 8) (oi := ⟨some 70, _, _, _, _, _⟩) (v := .int .i64 0) rfl (by kernel_rfl) (by kernel_rfl) (by kernel_rfl) (fun _ _ _ h => h) (yi_ok (by kernel_rfl) (fun _ => by go_simp)) hS ?_
  simp only [Act.put, List.setIfInBounds_toArray, List.set_cons_zero, List.set_cons_succ]
  refine wpAnyH_take (i := 9) (oi := ⟨some 71, _, _, _, _, _⟩) (v := .pointer (some ⟨g1, 1, none⟩)) rfl (by kernel_rfl) (by kernel_rfl) (by kernel_rfl) (fun _ _ _ h => h) (yi_ok (by kernel_rfl) (fun _ => by go_simp)) hS ?_
  simp only [Act.put, List.setIfInBounds_toArray, List.set_cons_zero, List.set_cons_succ]
  refine wpAnyH_take (i := 10) (oi := ⟨some 72, _, _, _, _, _⟩) (v := .pointer (some ⟨g1, 1, none⟩)) rfl (by kernel_rfl) (by kernel_rfl) (by kernel_rfl) (fun _ _ _ h => h) (yi_ok (by kernel_rfl) (fun _ => by go_simp)) hS ?_
  simp only [Act.put, List.setIfInBounds_toArray, List.set_cons_zero, List.set_cons_succ]
  refine wpAnyH_take (i := 11) (oi := ⟨some 73, _, _, _, _, _⟩) (v := .int .i64 c.w0) rfl (by kernel_rfl) (by kernel_rfl) (by kernel_rfl) (fun _ _ _ h => h) (yi_ld1 (v := .int .i64 c.w0) rfl (by kernel_rfl) rfl (fun w' h => h.1) Try.underlying2 rfl rfl) hS ?_
  simp only [Act.put, List.setIfInBounds_toArray, List.set_cons_zero, List.set_cons_succ]
  refine wpAnyH_take (i := 12) (oi := ⟨some 74, _, _, _, _, _⟩) (v := .int .i64 0) rfl (by kernel_rfl) (by kernel_rfl) (by kernel_rfl) (fun _ _ _ h => h) (yi_ok (by kernel_rfl) (fun _ => by go_simp)) hS ?_
  simp only [Act.put, List.setIfInBounds_toArray, List.set_cons_zero, List.set_cons_succ]
  refine wpAnyH_take (i := 13) (oi := ⟨some 75, _, _, _, _, _⟩) (v := .bool false) rfl (by kernel_rfl) (by kernel_rfl) (by kernel_rfl) (fun _ _ _ h => h) (yi_ok (by kernel_rfl) (fun _ => by go_simp)) hS ?_
  simp only [Act.put, List.setIfInBounds_toArray, List.set_cons_zero, List.set_cons_succ]
  refine wpAnyH_take (i := 14) (oi := ⟨some 76, _, _, _, _, _⟩) (v := .bool false) rfl (by kernel_rfl) (by kernel_rfl) (by kernel_rfl) (fun _ _ _ h => h) (yi_mv (Or.inl rfl) (by kernel_rfl) rfl) hS ?_
  simp only [Act.put, List.setIfInBounds_toArray, List.set_cons_zero, List.set_cons_succ]
  refine wpAnyH_take (i := 15) (oi := ⟨some 77, _, _, _, _, _⟩) (v := .int .i64 1) rfl (by kernel_rfl) (by kernel_rfl) (by kernel_rfl) (fun _ _ _ h => h) (yi_mv (Or.inl rfl) (by kernel_rfl) rfl) hS ?_
  simp only [Act.put, List.setIfInBounds_toArray, List.set_cons_zero, List.set_cons_succ]
  refine wpAnyH_take (i := 16) (oi := ⟨some 78, _, _, _, _, _⟩) (v := .int .i64 0) rfl (by kernel_rfl) (by kernel_rfl) (by kernel_rfl) (fun _ _ _ h => h) (yi_ok (by kernel_rfl) (fun _ => by go_simp)) hS ?_
  simp only [Act.put, List.setIfInBounds_toArray, List.set_cons_zero, List.set_cons_succ]
  refine wpAnyH_take (i := 17) (oi := ⟨some 79, _, _, _, _, _⟩) (v := .pointer (some ⟨g1, 4, none⟩)) rfl (by kernel_rfl) (by kernel_rfl) (by kernel_rfl) (fun _ _ _ h => h) (yi_ok (by kernel_rfl) (fun _ => by go_simp)) hS ?_
  simp only [Act.put, List.setIfInBounds_toArray, List.set_cons_zero, List.set_cons_succ]
  refine wpAnyH_take (i := 18) (oi := ⟨some 80, _, _, _, _, _⟩) (v := .pointer (some ⟨g1, 4, none⟩)) rfl (by kernel_rfl) (by kernel_rfl) (by kernel_rfl) (fun _ _ _ h => h) (yi_ok (by kernel_rfl) (fun _ => by go_simp)) hS ?_
  simp only [Act.put, List.setIfInBounds_toArray, List.set_cons_zero, List.set_cons_succ]
  refine wpAnyH_take (i := 19) (oi := ⟨some 81, _, _, _, _, _⟩) (v := .int .i64 c.n0) rfl (by kernel_rfl) (by kernel_rfl) (by kernel_rfl) (fun _ _ _ h => h) (yi_ld1 (v := .int .i64 c.n0) rfl (by kernel_rfl) rfl (fun w' h => h.1) Try.underlying3 rfl rfl) hS ?_
  simp only [Act.put, List.setIfInBounds_toArray, List.set_cons_zero, List.set_cons_succ]
  refine wpAnyH_take (i := 20) (oi := ⟨some 82, _, _, _, _, _⟩) (v := .int .i64 1) rfl (by kernel_rfl) (by kernel_rfl) (by kernel_rfl) (fun _ _ _ h => h) (yi_mv (Or.inl rfl) (by kernel_rfl) rfl) hS ?_
  simp only [Act.put, List.setIfInBounds_toArray, List.set_cons_zero, List.set_cons_succ]
  refine wpAnyH_take (i := 21) (oi := ⟨some 83, _, _, _, _, _⟩) (v := .pointer (some ⟨g1, 1, none⟩)) rfl (by kernel_rfl) (by kernel_rfl) (by kernel_rfl) (fun _ _ _ h => h) (yi_ok (by kernel_rfl) (fun _ => by go_simp)) hS ?_
  simp only [Act.put, List.setIfInBounds_toArray, List.set_cons_zero, List.set_cons_succ]
  refine wpAnyH_take (i := 22) (oi := ⟨some 84, _, _, _, _, _⟩) (v := .pointer (some ⟨g1, 2, none⟩)) rfl (by kernel_rfl) (by kernel_rfl) (by kernel_rfl) (fun _ _ _ h => h) (yi_ok (by kernel_rfl) (fun _ => by go_simp)) hS ?_
  simp only [Act.put, List.setIfInBounds_toArray, List.set_cons_zero, List.set_cons_succ]
  refine wpAnyH_take (i := 23) (oi := ⟨some 85, _, _, _, _, _⟩) (v := .int .i64 c.w1) rfl (by kernel_rfl) (by kernel_rfl) (by kernel_rfl) (fun _ _ _ h => h) (yi_ld1 (v := .int .i64 c.w1) rfl (by kernel_rfl) rfl (fun w' h => h.1) Try.underlying2 rfl rfl) hS ?_
  simp only [Act.put, List.setIfInBounds_toArray, List.set_cons_zero, List.set_cons_succ]
  refine wpAnyH_take (i := 24) (oi := ⟨some 86, _, _, _, _, _⟩) (v := .int .i64 1) rfl (by kernel_rfl) (by kernel_rfl) (by kernel_rfl) (fun _ _ _ h => h) (yi_mv (Or.inl rfl) (by kernel_rfl) rfl) hS ?_
  simp only [Act.put, List.setIfInBounds_toArray, List.set_cons_zero, List.set_cons_succ]
  refine wpAnyH_take (i := 25) (oi := ⟨some 87, _, _, _, _, _⟩) (v := .int .i64 0) rfl (by kernel_rfl) (by kernel_rfl) (by kernel_rfl) (fun _ _ _ h => h) (yi_ok (by kernel_rfl) (fun _ => by go_simp)) hS ?_
  simp only [Act.put, List.setIfInBounds_toArray, List.set_cons_zero, List.set_cons_succ]
  refine wpAnyH_take (i := 26) (oi := ⟨some 88, _, _, _, _, _⟩) (v := .pointer (some ⟨g1, 1, none⟩)) rfl (by kernel_rfl) (by kernel_rfl) (by kernel_rfl) (fun _ _ _ h => h) (yi_ok (by kernel_rfl) (fun _ => by go_simp)) hS ?_
  simp only [Act.put, List.setIfInBounds_toArray, List.set_cons_zero, List.set_cons_succ]
  refine wpAnyH_take (i := 27) (oi := ⟨some 89, _, _, _, _, _⟩) (v := .pointer (some ⟨g1, 1, none⟩)) rfl (by kernel_rfl) (by kernel_rfl) (by kernel_rfl) (fun _ _ _ h => h) (yi_ok (by kernel_rfl) (fun _ => by go_simp)) hS ?_
  simp only [Act.put, List.setIfInBounds_toArray, List.set_cons_zero, List.set_cons_succ]
  refine wpAnyH_take (i := 28) (oi := ⟨some 90, _, _, _, _, _⟩) (v := .int .i64 c.w0) rfl (by kernel_rfl) (by kernel_rfl) (by kernel_rfl) (fun _ _ _ h => h) (yi_ld1 (v := .int .i64 c.w0) rfl (by kernel_rfl) rfl (fun w' h => h.1) Try.underlying2 rfl rfl) hS ?_
  simp only [Act.put, List.setIfInBounds_toArray, List.set_cons_zero, List.set_cons_succ]
  refine wpAnyH_take (i := 29) (oi := ⟨some 91, _, _, _, _, _⟩) (v := .int .i64 (c.w1 / c.w0)) rfl (by kernel_rfl) (by kernel_rfl) (by kernel_rfl) (fun _ _ _ h => h) (yi_ok (by kernel_rfl) (fun _ => by go_simp)) hS ?_
  simp only [Act.put, List.setIfInBounds_toArray, List.set_cons_zero, List.set_cons_succ]
  refine wpAnyH_take (i := 30) (oi := ⟨some 92, _, _, _, _, _⟩) (v := .bool false) rfl (by kernel_rfl) (by kernel_rfl) (by kernel_rfl) (fun _ _ _ h => h) (yi_ok (by kernel_rfl) (fun _ => by go_simp)) hS ?_
  simp only [Act.put, List.setIfInBounds_toArray, List.set_cons_zero, List.set_cons_succ]
  refine wpAnyH_take (i := 31) (oi := ⟨some 93, _, _, _, _, _⟩) (v := .bool false) rfl (by kernel_rfl) (by kernel_rfl) (by kernel_rfl) (fun _ _ _ h => h) (yi_pick0 rfl (by kernel_rfl) rfl rfl) hS ?_
  simp only [Act.put, List.setIfInBounds_toArray, List.set_cons_zero, List.set_cons_succ]
  refine wpAnyH_take (i := 32) (oi := ⟨some 94, _, _, _, _, _⟩) (v := .bool false) rfl (by kernel_rfl) (by kernel_rfl) (by kernel_rfl) (fun _ _ _ h => h) (yi_pick1 rfl rfl rfl rfl) hS ?_
  simp only [Act.put, List.setIfInBounds_toArray, List.set_cons_zero, List.set_cons_succ]
  refine wpAnyH_done (by kernel_rfl) ?_ _
  clear hS
  go_wp2_with fail
  rw [rounds_succ]
  go_wp2_with (first
      | ((with_reducible refine at_slot 39 ?_); refine wl_ld1 (v := .int .i64 c.w2) rfl rfl rfl k1 Try.underlying2 rfl rfl ?_)
      | ((with_reducible refine at_slot 45 ?_); refine wl_ld1 (v := .int .i64 c.w2) rfl rfl rfl k1 Try.underlying2 rfl rfl ?_)
      | ((with_reducible refine at_slot 52 ?_); refine wl_ld1 (v := .int .i64 c.n2) rfl rfl rfl k1 Try.underlying3 rfl rfl ?_)
      | ((with_reducible refine at_slot 59 ?_); refine wl_ld1 (v := .int .i64 c.n2) rfl rfl rfl k1 Try.underlying3 rfl rfl ?_))
  refine wp_region_held_drew (S := fun w' => Blk w' g1 25 (cfA c) ∧ Below w.heap.size w w') (by kernel_rfl) ⟨k1.drew, HB.out.drew⟩ (fun hS => ?_)
  clear k1
  have hS2 := hS
  obtain ⟨k1, hB⟩ := hS2
  replace HB := Lib.hid hB
  clear hB
  refine wpAnyH_take (i := 0) (oi := ⟨some 62, _, _, _, _, _⟩) (v := .int .i64 2) rfl (by kernel_rfl) (by kernel_rfl) (by kernel_rfl) (fun _ _ _ h => h) (yi_mv (Or.inl rfl) rfl rfl) hS ?_
  simp only [Act.put, List.setIfInBounds_toArray, List.set_cons_zero, List.set_cons_succ]
  refine wpAnyH_take (i := 1) (oi := ⟨some 63, _, _, _, _, _⟩) (v := .bool true) rfl (by kernel_rfl) (by kernel_rfl) (by kernel_rfl) (fun _ _ _ h => h) (yi_ok rfl (fun _ => by go_simp)) hS ?_
  simp only [Act.put, List.setIfInBounds_toArray, List.set_cons_zero, List.set_cons_succ]
  refine wpAnyH_take (i := 2) (oi := ⟨some 64, _, _, _, _, _⟩) (v := .bool true) rfl (by kernel_rfl) (by kernel_rfl) (by kernel_rfl) (fun _ _ _ h => h) (yi_mv (Or.inl rfl) rfl rfl) hS ?_
  simp only [Act.put, List.setIfInBounds_toArray, List.set_cons_zero, List.set_cons_succ]
  refine wpAnyH_take (i := 3) (oi := ⟨some 65, _, _, _, _, _⟩) (v := .int .i64 2) rfl (by kernel_rfl) (by kernel_rfl) (by kernel_rfl) (fun _ _ _ h => h) (yi_mv (Or.inl rfl) (by kernel_rfl) rfl) hS ?_
  simp only [Act.put, List.setIfInBounds_toArray, List.set_cons_zero, List.set_cons_succ]
  refine wpAnyH_take (i := 4) (oi := ⟨some 66, _, _, _, _, _⟩) (v := .pointer (some ⟨g1, 1, none⟩)) rfl (by kernel_rfl) (by kernel_rfl) (by kernel_rfl) (fun _ _ _ h => h) (yi_ok (by kernel_rfl) (fun _ => by go_simp)) hS ?_
  simp only [Act.put, List.setIfInBounds_toArray, List.set_cons_zero, List.set_cons_succ]
  refine wpAnyH_take (i := 5) (oi := ⟨some 67, _, _, _, _, _⟩) (v := .pointer (some ⟨g1, 3, none⟩)) rfl (by kernel_rfl) (by kernel_rfl) (by kernel_rfl) (fun _ _ _ h => h) (yi_ok (by kernel_rfl) (fun _ => by go_simp)) hS ?_
  simp only [Act.put, List.setIfInBounds_toArray, List.set_cons_zero, List.set_cons_succ]
  refine wpAnyH_take (i := 6) (oi := ⟨some 68, _, _, _, _, _⟩) (v := .int .i64 c.w2) rfl (by kernel_rfl) (by kernel_rfl) (by kernel_rfl) (fun _ _ _ h => h) (yi_ld1 (v := .int .i64 c.w2) rfl (by kernel_rfl) rfl (fun w' h => h.1) Try.underlying2 rfl rfl) hS ?_
  simp only [Act.put, List.setIfInBounds_toArray, List.set_cons_zero, List.set_cons_succ]
  refine wpAnyH_take (i := 7) (oi := ⟨some 69, _, _, _, _, _⟩) (v := .int .i64 2) rfl (by kernel_rfl) (by kernel_rfl) (by kernel_rfl) (fun _ _ _ h => h) (yi_mv (Or.inl rfl) (by kernel_rfl) rfl) hS ?_
  simp only [Act.put, List.setIfInBounds_toArray, List.set_cons_zero, List.set_cons_succ]
  refine wpAnyH_take (i := 8) (oi := ⟨some 70, _, _, _, _, _⟩) (v := .int .i64 1) rfl (by kernel_rfl) (by kernel_rfl) (by kernel_rfl) (fun _ _ _ h => h) (yi_ok (by kernel_rfl) (fun _ => by go_simp)) hS ?_
  simp only [Act.put, List.setIfInBounds_toArray, List.set_cons_zero, List.set_cons_succ]
  refine wpAnyH_take (i := 9) (oi := ⟨some 71, _, _, _, _, _⟩) (v := .pointer (some ⟨g1, 1, none⟩)) rfl (by kernel_rfl) (by kernel_rfl) (by kernel_rfl) (fun _ _ _ h => h) (yi_ok (by kernel_rfl) (fun _ => by go_simp)) hS ?_
  simp only [Act.put, List.setIfInBounds_toArray, List.set_cons_zero, List.set_cons_succ]
  refine wpAnyH_take (i := 10) (oi := ⟨some 72, _, _, _, _, _⟩) (v := .pointer (some ⟨g1, 2, none⟩)) rfl (by kernel_rfl) (by kernel_rfl) (by kernel_rfl) (fun _ _ _ h => h) (yi_ok (by kernel_rfl) (fun _ => by go_simp)) hS ?_
  simp only [Act.put, List.setIfInBounds_toArray, List.set_cons_zero, List.set_cons_succ]
  refine wpAnyH_take (i := 11) (oi := ⟨some 73, _, _, _, _, _⟩) (v := .int .i64 c.w1) rfl (by kernel_rfl) (by kernel_rfl) (by kernel_rfl) (fun _ _ _ h => h) (yi_ld1 (v := .int .i64 c.w1) rfl (by kernel_rfl) rfl (fun w' h => h.1) Try.underlying2 rfl rfl) hS ?_
  simp only [Act.put, List.setIfInBounds_toArray, List.set_cons_zero, List.set_cons_succ]
  refine wpAnyH_take (i := 12) (oi := ⟨some 74, _, _, _, _, _⟩) (v := .int .i64 0) rfl (by kernel_rfl) (by kernel_rfl) (by kernel_rfl) (fun _ _ _ h => h) (yi_ok (by kernel_rfl) (fun _ => by go_simp)) hS ?_
  simp only [Act.put, List.setIfInBounds_toArray, List.set_cons_zero, List.set_cons_succ]
  refine wpAnyH_take (i := 13) (oi := ⟨some 75, _, _, _, _, _⟩) (v := .bool false) rfl (by kernel_rfl) (by kernel_rfl) (by kernel_rfl) (fun _ _ _ h => h) (yi_ok (by kernel_rfl) (fun _ => by go_simp)) hS ?_
  simp only [Act.put, List.setIfInBounds_toArray, List.set_cons_zero, List.set_cons_succ]
  refine wpAnyH_take (i := 14) (oi := ⟨some 76, _, _, _, _, _⟩) (v := .bool false) rfl (by kernel_rfl) (by kernel_rfl) (by kernel_rfl) (fun _ _ _ h => h) (yi_mv (Or.inl rfl) (by kernel_rfl) rfl) hS ?_
  simp only [Act.put, List.setIfInBounds_toArray, List.set_cons_zero, List.set_cons_succ]
  refine wpAnyH_take (i := 15) (oi := ⟨some 77, _, _, _, _, _⟩) (v := .int .i64 2) rfl (by kernel_rfl) (by kernel_rfl) (by kernel_rfl) (fun _ _ _ h => h) (yi_mv (Or.inl rfl) (by kernel_rfl) rfl) hS ?_
  simp only [Act.put, List.setIfInBounds_toArray, List.set_cons_zero, List.set_cons_succ]
  refine wpAnyH_take (i := 16) (oi := ⟨some 78, _, _, _, _, _⟩) (v := .int .i64 1) rfl (by kernel_rfl) (by kernel_rfl) (by kernel_rfl) (fun _ _ _ h => h) (yi_ok (by kernel_rfl) (fun _ => by go_simp)) hS ?_
  simp only [Act.put, List.setIfInBounds_toArray, List.set_cons_zero, List.set_cons_succ]
  refine wpAnyH_take (i := 17) (oi := ⟨some 79, _, _, _, _, _⟩) (v := .pointer (some ⟨g1, 4, none⟩)) rfl (by kernel_rfl) (by kernel_rfl) (by kernel_rfl) (fun _ _ _ h => h) (yi_ok (by kernel_rfl) (fun _ => by go_simp)) hS ?_
  simp only [Act.put, List.setIfInBounds_toArray, List.set_cons_zero, List.set_cons_succ]
  refine wpAnyH_take (i := 18) (oi := ⟨some 80, _, _, _, _, _⟩) (v := .pointer (some ⟨g1, 5, none⟩)) rfl (by kernel_rfl) (by kernel_rfl) (by kernel_rfl) (fun _ _ _ h => h) (yi_ok (by kernel_rfl) (fun _ => by go_simp)) hS ?_
  simp only [Act.put, List.setIfInBounds_toArray, List.set_cons_zero, List.set_cons_succ]
  refine wpAnyH_take (i := 19) (oi := ⟨some 81, _, _, _, _, _⟩) (v := .int .i64 c.n1) rfl (by kernel_rfl) (by kernel_rfl) (by kernel_rfl) (fun _ _ _ h => h) (yi_ld1 (v := .int .i64 c.n1) rfl (by kernel_rfl) rfl (fun w' h => h.1) Try.underlying3 rfl rfl) hS ?_
  simp only [Act.put, List.setIfInBounds_toArray, List.set_cons_zero, List.set_cons_succ]
  refine wpAnyH_take (i := 20) (oi := ⟨some 82, _, _, _, _, _⟩) (v := .int .i64 2) rfl (by kernel_rfl) (by kernel_rfl) (by kernel_rfl) (fun _ _ _ h => h) (yi_mv (Or.inl rfl) (by kernel_rfl) rfl) hS ?_
  simp only [Act.put, List.setIfInBounds_toArray, List.set_cons_zero, List.set_cons_succ]
  refine wpAnyH_take (i := 21) (oi := ⟨some 83, _, _, _, _, _⟩) (v := .pointer (some ⟨g1, 1, none⟩)) rfl (by kernel_rfl) (by kernel_rfl) (by kernel_rfl) (fun _ _ _ h => h) (yi_ok (by kernel_rfl) (fun _ => by go_simp)) hS ?_
  simp only [Act.put, List.setIfInBounds_toArray, List.set_cons_zero, List.set_cons_succ]
  refine wpAnyH_take (i := 22) (oi := ⟨some 84, _, _, _, _, _⟩) (v := .pointer (some ⟨g1, 3, none⟩)) rfl (by kernel_rfl) (by kernel_rfl) (by kernel_rfl) (fun _ _ _ h => h) (yi_ok (by kernel_rfl) (fun _ => by go_simp)) hS ?_
  simp only [Act.put, List.setIfInBounds_toArray, List.set_cons_zero, List.set_cons_succ]
  refine wpAnyH_take (i := 23) (oi := ⟨some 85, _, _, _, _, _⟩) (v := .int .i64 c.w2) rfl (by kernel_rfl) (by kernel_rfl) (by kernel_rfl) (fun _ _ _ h => h) (yi_ld1 (v := .int .i64 c.w2) rfl (by kernel_rfl) rfl (fun w' h => h.1) Try.underlying2 rfl rfl) hS ?_
  simp only [Act.put, List.setIfInBounds_toArray, List.set_cons_zero, List.set_cons_succ]
  refine wpAnyH_take (i := 24) (oi := ⟨some 86, _, _, _, _, _⟩) (v := .int .i64 2) rfl (by kernel_rfl) (by kernel_rfl) (by kernel_rfl) (fun _ _ _ h => h) (yi_mv (Or.inl rfl) (by kernel_rfl) rfl) hS ?_
  simp only [Act.put, List.setIfInBounds_toArray, List.set_cons_zero, List.set_cons_succ]
  refine wpAnyH_take (i := 25) (oi := ⟨some 87, _, _, _, _, _⟩) (v := .int .i64 1) rfl (by kernel_rfl) (by kernel_rfl) (by kernel_rfl) (fun _ _ _ h => h) (yi_ok (by kernel_rfl) (fun _ => by go_simp)) hS ?_
  simp only [Act.put, List.setIfInBounds_toArray, List.set_cons_zero, List.set_cons_succ]
  refine wpAnyH_take (i := 26) (oi := ⟨some 88, _, _, _, _, _⟩) (v := .pointer (some ⟨g1, 1, none⟩)) rfl (by kernel_rfl) (by kernel_rfl) (by kernel_rfl) (fun _ _ _ h => h) (yi_ok (by kernel_rfl) (fun _ => by go_simp)) hS ?_
  simp only [Act.put, List.setIfInBounds_toArray, List.set_cons_zero, List.set_cons_succ]
  refine wpAnyH_take (i := 27) (oi := ⟨some 89, _, _, _, _, _⟩) (v := .pointer (some ⟨g1, 2, none⟩)) rfl (by kernel_rfl) (by kernel_rfl) (by kernel_rfl) (fun _ _ _ h => h) (yi_ok (by kernel_rfl) (fun _ => by go_simp)) hS ?_
  simp only [Act.put, List.setIfInBounds_toArray, List.set_cons_zero, List.set_cons_succ]
  refine wpAnyH_take (i := 28) (oi := ⟨some 90, _, _, _, _, _⟩) (v := .int .i64 c.w1) rfl (by kernel_rfl) (by kernel_rfl) (by kernel_rfl) (fun _ _ _ h => h) (yi_ld1 (v := .int .i64 c.w1) rfl (by kernel_rfl) rfl (fun w' h => h.1) Try.underlying2 rfl rfl) hS ?_
  simp only [Act.put, List.setIfInBounds_toArray, List.set_cons_zero, List.set_cons_succ]
  refine wpAnyH_take (i := 29) (oi := ⟨some 91, _, _, _, _, _⟩) (v := .int .i64 (c.w2 / c.w1)) rfl (by kernel_rfl) (by kernel_rfl) (by kernel_rfl) (fun _ _ _ h => h) (yi_ok (by kernel_rfl) (fun _ => by go_simp)) hS ?_
  simp only [Act.put, List.setIfInBounds_toArray, List.set_cons_zero, List.set_cons_succ]
  refine wpAnyH_take (i := 30) (oi := ⟨some 92, _, _, _, _, _⟩) (v := .bool false) rfl (by kernel_rfl) (by kernel_rfl) (by kernel_rfl) (fun _ _ _ h => h) (yi_ok (by kernel_rfl) (fun _ => by go_simp)) hS ?_
  simp only [Act.put, List.setIfInBounds_toArray, List.set_cons_zero, List.set_cons_succ]
  refine wpAnyH_take (i := 31) (oi := ⟨some 93, _, _, _, _, _⟩) (v := .bool false) rfl (by kernel_rfl) (by kernel_rfl) (by kernel_rfl) (fun _ _ _ h => h) (yi_pick0 rfl (by kernel_rfl) rfl rfl) hS ?_
  simp only [Act.put, List.setIfInBounds_toArray, List.set_cons_zero, List.set_cons_succ]
  refine wpAnyH_take (i := 32) (oi := ⟨some 94, _, _, _, _, _⟩) (v := .bool false) rfl (by kernel_rfl) (by kernel_rfl) (by kernel_rfl) (fun _ _ _ h => h) (yi_pick1 rfl rfl rfl rfl) hS ?_
  simp only [Act.put, List.setIfInBounds_toArray, List.set_cons_zero, List.set_cons_succ]
  refine wpAnyH_done (by kernel_rfl) ?_ _
  clear hS
  go_wp2_with fail
  rw [rounds_succ]
  go_wp2_with fail
  refine wp_region_held_drew (S := fun w' => Blk w' g1 25 (cfA c) ∧ Below w.heap.size w w') (by kernel_rfl) ⟨k1.drew, HB.out.drew⟩ (fun hS => ?_)
  clear k1
  have hS2 := hS
  obtain ⟨k1, hB⟩ := hS2
  replace HB := Lib.hid hB
  clear hB
  refine wpAnyH_take (i := 0) (oi := ⟨some 95, _, _, _, _, _⟩) (v := .pointer (some ⟨g1, 8, none⟩)) rfl (by kernel_rfl) (by kernel_rfl) (by kernel_rfl) (fun _ _ _ h => h) (yi_ok rfl (fun _ => by go_simp)) hS ?_
  simp only [Act.put, List.setIfInBounds_toArray, List.set_cons_zero, List.set_cons_succ]
  refine wpAnyH_take (i := 1) (oi := ⟨some 96, _, _, _, _, _⟩) (v := .int .i64 c.log) rfl (by kernel_rfl) (by kernel_rfl) (by kernel_rfl) (fun _ _ _ h => h) (yi_ld1 (v := .int .i64 c.log) rfl rfl rfl (fun w' h => h.1) Try.underlying3 rfl rfl) hS ?_
  simp only [Act.put, List.setIfInBounds_toArray, List.set_cons_zero, List.set_cons_succ]
  refine wpAnyH_take (i := 2) (oi := ⟨some 97, _, _, _, _, _⟩) (v := .agg (cfA c)) rfl (by kernel_rfl) (by kernel_rfl) (by kernel_rfl) (fun _ _ _ h => h) (yi_ld0 rfl rfl rfl (fun w' h => h.1) Try.underlying25 rfl cfInfo) hS ?_
  simp only [Act.put, List.setIfInBounds_toArray, List.set_cons_zero, List.set_cons_succ]
  refine anyH_call (i := 3) (op := ⟨some 98, _, _, _, _, _⟩) (by kernel_rfl) rfl rfl rfl Try.func38 (by kernel_rfl) rfl (HP.out _) rfl (fun w' hb => ⟨k1.keep hb, below_tr HB.out hb⟩) (fun w' hb hS2 => ?_)
  simp only [Act.put, List.setIfInBounds_toArray, List.set_cons_zero, List.set_cons_succ]
  clear hb
  replace hS := hS2
  clear hS2
  clear k1
  have hS2 := hS
  obtain ⟨k1, hB⟩ := hS2
  replace HB := Lib.hid hB
  clear hB
  refine wpAnyH_take (i := 4) (oi := ⟨some 99, _, _, _, _, _⟩) (v := .bool true) rfl (by kernel_rfl) (by kernel_rfl) (by kernel_rfl) (fun _ _ _ h => h) (yi_ok rfl (fun _ => by go_simp)) hS ?_
  simp only [Act.put, List.setIfInBounds_toArray, List.set_cons_zero, List.set_cons_succ]
  refine wpAnyH_done (by kernel_rfl) ?_ _
  clear hS
  go_wp2_with fail
  go_ret
  exact ⟨rfl, HB.out⟩
set_option maxHeartbeats 4000000 in
set_option maxRecDepth 100000 in
theorem rck_good {c : Cf} (h : TiersOk c) (hr : SlotsOk c.raw) (hp : 1 ≤ c.cap ∧ c.cap ≤ 65536) (h1 : 1 ≤ c.log) (h2 : c.log ≤ 8192) (hl : placeI c + 1 ≤ c.log) (w : World) : Calls Try.prog 13 #[.agg (cfA c)] w fun e w' => e = .returned (.int .i64 0) ∧ Below w.heap.size w w' := by
  have HP := Lib.hid (fun w1 => rplace_at h hr w1)
  obtain ⟨p0, p1⟩ := place_bd h hr
  obtain ⟨⟨⟨⟨a0, A0⟩, b0, B0⟩, ⟨⟨a1, A1⟩, b1, B1⟩, ⟨a2, A2⟩, b2, B2⟩, ⟨x1, y1⟩, x2, y2⟩ := h
  obtain ⟨r0, r1⟩ := hr
  obtain ⟨c0, c1⟩ := hp
  have m1 : 0 ≤ c.w1 % c.w0 := Int.emod_nonneg _ (by omega)
  have q1 : 0 ≤ c.w1 / c.w0 := Int.ediv_nonneg (by omega) (by omega)
  have Q1 : c.w1 / c.w0 ≤ c.w1 := Int.ediv_le_self _ (by omega)
  have N1 : ¬ c.w0 = 0 := by omega
  have P1 : 0 ≤ c.w1 := by omega
  have t1 : Int.tmod c.w1 c.w0 = c.w1 % c.w0 := Int.tmod_eq_emod_of_nonneg P1
  have u1 : Int.tdiv c.w1 c.w0 = c.w1 / c.w0 := Int.tdiv_eq_ediv_of_nonneg P1
  have U1 : IntKind.i64.wrap (c.w1 / c.w0) = c.w1 / c.w0 := by rw [IntKind.wrap_i64]; omega
  have g1 : decide (c.n0 < c.w1 / c.w0) = false := by simp; omega
  have m2 : 0 ≤ c.w2 % c.w1 := Int.emod_nonneg _ (by omega)
  have q2 : 0 ≤ c.w2 / c.w1 := Int.ediv_nonneg (by omega) (by omega)
  have Q2 : c.w2 / c.w1 ≤ c.w2 := Int.ediv_le_self _ (by omega)
  have N2 : ¬ c.w1 = 0 := by omega
  have P2 : 0 ≤ c.w2 := by omega
  have t2 : Int.tmod c.w2 c.w1 = c.w2 % c.w1 := Int.tmod_eq_emod_of_nonneg P2
  have u2 : Int.tdiv c.w2 c.w1 = c.w2 / c.w1 := Int.tdiv_eq_ediv_of_nonneg P2
  have U2 : IntKind.i64.wrap (c.w2 / c.w1) = c.w2 / c.w1 := by rw [IntKind.wrap_i64]; omega
  have g2 : decide (c.n1 < c.w2 / c.w1) = false := by simp; omega
  have z0 : IntKind.i64.wrap 0 = 0 := by decide
  have z1 : IntKind.i64.wrap 1 = 1 := by decide
  obtain ⟨p, hpp⟩ : ∃ p, p = placeI c := ⟨_, rfl⟩
  rw [← hpp] at HP p0 p1 hl
  clear hpp
  have oraw : decide (c.raw < 1) = false := by simp; omega
  have Oraw : decide (4096 < c.raw) = false := by simp; omega
  have ocap : decide (c.cap < 1) = false := by simp; omega
  have Ocap : decide (65536 < c.cap) = false := by simp; omega
  have olog : decide (c.log < 1) = false := by simp; omega
  have Olog : decide (8192 < c.log) = false := by simp; omega
  have ow0 : decide (c.w0 < 1) = false := by simp; omega
  have Ow0 : decide (1099511627776 < c.w0) = false := by simp; omega
  have on0 : decide (c.n0 < 1) = false := by simp; omega
  have On0 : decide (4096 < c.n0) = false := by simp; omega
  have ow1 : decide (c.w1 < 1) = false := by simp; omega
  have Ow1 : decide (1099511627776 < c.w1) = false := by simp; omega
  have on1 : decide (c.n1 < 1) = false := by simp; omega
  have On1 : decide (4096 < c.n1) = false := by simp; omega
  have ow2 : decide (c.w2 < 1) = false := by simp; omega
  have Ow2 : decide (1099511627776 < c.w2) = false := by simp; omega
  have on2 : decide (c.n2 < 1) = false := by simp; omega
  have On2 : decide (4096 < c.n2) = false := by simp; omega
  have gl : decide (c.log ≤ p) = false := by simp; omega
  
  have HB := Lib.hid (Below.refl w.heap.size w)
  go_enter Try.func13, Try.ntmps13
  go_wp2_with (first
      | ((with_reducible refine at_slot 1 ?_); refine wl_box (A := (cfA c)) rfl rfl rfl ?_; intro W1 g1 k1 hb hle; have L1 := Lib.hid (Nat.le_trans HB.out.size hle); replace HB := Lib.hid (below_tr HB.out hb); clear hb hle)
      | ((with_reducible refine at_slot 5 ?_); refine wl_ld1 (v := .int .i64 c.raw) rfl rfl rfl k1 Try.underlying3 rfl rfl ?_)
      | ((with_reducible refine at_slot 9 ?_); refine wl_ld1 (v := .int .i64 c.raw) rfl rfl rfl k1 Try.underlying3 rfl rfl ?_)
      | ((with_reducible refine at_slot 14 ?_); refine wl_ld1 (v := .int .i64 c.cap) rfl rfl rfl k1 Try.underlying3 rfl rfl ?_)
      | ((with_reducible refine at_slot 19 ?_); refine wl_ld1 (v := .int .i64 c.cap) rfl rfl rfl k1 Try.underlying3 rfl rfl ?_)
      | ((with_reducible refine at_slot 24 ?_); refine wl_ld1 (v := .int .i64 c.log) rfl rfl rfl k1 Try.underlying3 rfl rfl ?_)
      | ((with_reducible refine at_slot 29 ?_); refine wl_ld1 (v := .int .i64 c.log) rfl rfl rfl k1 Try.underlying3 rfl rfl ?_))
  refine wp_loop_rounds 4 ?_
  rw [rounds_succ]
  go_wp2_with (first
      | ((with_reducible refine at_slot 39 ?_); refine wl_ld1 (v := .int .i64 c.w0) rfl rfl rfl k1 Try.underlying2 rfl rfl ?_)
      | ((with_reducible refine at_slot 45 ?_); refine wl_ld1 (v := .int .i64 c.w0) rfl rfl rfl k1 Try.underlying2 rfl rfl ?_)
      | ((with_reducible refine at_slot 52 ?_); refine wl_ld1 (v := .int .i64 c.n0) rfl rfl rfl k1 Try.underlying3 rfl rfl ?_)
      | ((with_reducible refine at_slot 59 ?_); refine wl_ld1 (v := .int .i64 c.n0) rfl rfl rfl k1 Try.underlying3 rfl rfl ?_))
  refine wp_region_held_drew (S := fun w' => Blk w' g1 25 (cfA c) ∧ Below w.heap.size w w') (by kernel_rfl) ⟨k1.drew, HB.out.drew⟩ (fun hS => ?_)
  clear k1
  have hS2 := hS
  obtain ⟨k1, hB⟩ := hS2
  replace HB := Lib.hid hB
  clear hB
  refine wpAnyH_take (i := 0) (oi := ⟨some 62, _, _, _, _, _⟩) (v := .int .i64 0) rfl (by kernel_rfl) (by kernel_rfl) (by kernel_rfl) (fun _ _ _ h => h) (yi_mv (Or.inl rfl) rfl rfl) hS ?_
  simp only [Act.put, List.setIfInBounds_toArray, List.set_cons_zero, List.set_cons_succ]
  refine wpAnyH_take (i := 1) (oi := ⟨some 63, _, _, _, _, _⟩) (v := .bool false) rfl (by kernel_rfl) (by kernel_rfl) (by kernel_rfl) (fun _ _ _ h => h) (yi_ok rfl (fun _ => by go_simp)) hS ?_
  simp only [Act.put, List.setIfInBounds_toArray, List.set_cons_zero, List.set_cons_succ]
  refine wpAnyH_take (i := 2) (oi := ⟨some 64, _, _, _, _, _⟩) (v := .bool false) rfl (by kernel_rfl) (by kernel_rfl) (by kernel_rfl) (fun _ _ _ h => h) (yi_mv (Or.inl rfl) rfl rfl) hS ?_
  simp only [Act.put, List.setIfInBounds_toArray, List.set_cons_zero, List.set_cons_succ]
  refine wpAnyH_take (i := 3) (oi := ⟨some 65, _, _, _, _, _⟩) (v := undef) rfl (by kernel_rfl) (by kernel_rfl) (by kernel_rfl) (fun _ _ _ h => h) (yi_no (by kernel_rfl)) hS ?_
  simp only [Act.put, List.setIfInBounds_toArray, List.set_cons_zero, List.set_cons_succ]
  refine wpAnyH_take (i := 4) (oi := ⟨some 66, _, _, _, _, _⟩) (v := undef) rfl (by kernel_rfl) (by kernel_rfl) (by kernel_rfl) (fun _ _ _ h => h) (yi_no (by kernel_rfl)) hS ?_
  simp only [Act.put, List.setIfInBounds_toArray, List.set_cons_zero, List.set_cons_succ]
  refine wpAnyH_take (i := 5) (oi := ⟨some 67, _, _, _, _, _⟩) (v := undef) rfl (by kernel_rfl) (by kernel_rfl) (by kernel_rfl) (fun _ _ _ h => h) (yi_no (by kernel_rfl)) hS ?_
  simp only [Act.put, List.setIfInBounds_toArray, List.set_cons_zero, List.set_cons_succ]
  refine wpAnyH_take (i := 6) (oi := ⟨some 68, _, _, _, _, _⟩) (v := undef) rfl (by kernel_rfl) (by kernel_rfl) (by kernel_rfl) (fun _ _ _ h => h) (yi_no (by kernel_rfl)) hS ?_
  simp only [Act.put, List.setIfInBounds_toArray, List.set_cons_zero, List.set_cons_succ]
  refine wpAnyH_take (i := 7) (oi := ⟨some 69, _, _, _, _, _⟩) (v := undef) rfl (by kernel_rfl) (by kernel_rfl) (by kernel_rfl) (fun _ _ _ h => h) (yi_no (by kernel_rfl)) hS ?_
  simp only [Act.put, List.setIfInBounds_toArray, List.set_cons_zero, List.set_cons_succ]
  refine wpAnyH_take (i := 8) (oi := ⟨some 70, _, _, _, _, _⟩) (v := undef) rfl (by kernel_rfl) (by kernel_rfl) (by kernel_rfl) (fun _ _ _ h => h) (yi_no (by kernel_rfl)) hS ?_
  simp only [Act.put, List.setIfInBounds_toArray, List.set_cons_zero, List.set_cons_succ]
  refine wpAnyH_take (i := 9) (oi := ⟨some 71, _, _, _, _, _⟩) (v := undef) rfl (by kernel_rfl) (by kernel_rfl) (by kernel_rfl) (fun _ _ _ h => h) (yi_no (by kernel_rfl)) hS ?_
  simp only [Act.put, List.setIfInBounds_toArray, List.set_cons_zero, List.set_cons_succ]
  refine wpAnyH_take (i := 10) (oi := ⟨some 72, _, _, _, _, _⟩) (v := undef) rfl (by kernel_rfl) (by kernel_rfl) (by kernel_rfl) (fun _ _ _ h => h) (yi_no (by kernel_rfl)) hS ?_
  simp only [Act.put, List.setIfInBounds_toArray, List.set_cons_zero, List.set_cons_succ]
  refine wpAnyH_take (i := 11) (oi := ⟨some 73, _, _, _, _, _⟩) (v := undef) rfl (by kernel_rfl) (by kernel_rfl) (by kernel_rfl) (fun _ _ _ h => h) (yi_no (by kernel_rfl)) hS ?_
  simp only [Act.put, List.setIfInBounds_toArray, List.set_cons_zero, List.set_cons_succ]
  refine wpAnyH_take (i := 12) (oi := ⟨some 74, _, _, _, _, _⟩) (v := undef) rfl (by kernel_rfl) (by kernel_rfl) (by kernel_rfl) (fun _ _ _ h => h) (yi_no (by kernel_rfl)) hS ?_
  simp only [Act.put, List.setIfInBounds_toArray, List.set_cons_zero, List.set_cons_succ]
  refine wpAnyH_take (i := 13) (oi := ⟨some 75, _, _, _, _, _⟩) (v := undef) rfl (by kernel_rfl) (by kernel_rfl) (by kernel_rfl) (fun _ _ _ h => h) (yi_no (by kernel_rfl)) hS ?_
  simp only [Act.put, List.setIfInBounds_toArray, List.set_cons_zero, List.set_cons_succ]
  refine wpAnyH_take (i := 14) (oi := ⟨some 76, _, _, _, _, _⟩) (v := undef) rfl (by kernel_rfl) (by kernel_rfl) (by kernel_rfl) (fun _ _ _ h => h) (yi_no (by kernel_rfl)) hS ?_
  simp only [Act.put, List.setIfInBounds_toArray, List.set_cons_zero, List.set_cons_succ]
  refine wpAnyH_take (i := 15) (oi := ⟨some 77, _, _, _, _, _⟩) (v := undef) rfl (by kernel_rfl) (by kernel_rfl) (by kernel_rfl) (fun _ _ _ h => h) (yi_no (by kernel_rfl)) hS ?_
  simp only [Act.put, List.setIfInBounds_toArray, List.set_cons_zero, List.set_cons_succ]
  refine wpAnyH_take (i := 16) (oi := ⟨some 78, _, _, _, _, _⟩) (v := undef) rfl (by kernel_rfl) (by kernel_rfl) (by kernel_rfl) (fun _ _ _ h => h) (yi_no (by kernel_rfl)) hS ?_
  simp only [Act.put, List.setIfInBounds_toArray, List.set_cons_zero, List.set_cons_succ]
  refine wpAnyH_take (i := 17) (oi := ⟨some 79, _, _, _, _, _⟩) (v := undef) rfl (by kernel_rfl) (by kernel_rfl) (by kernel_rfl) (fun _ _ _ h => h) (yi_no (by kernel_rfl)) hS ?_
  simp only [Act.put, List.setIfInBounds_toArray, List.set_cons_zero, List.set_cons_succ]
  refine wpAnyH_take (i := 18) (oi := ⟨some 80, _, _, _, _, _⟩) (v := undef) rfl (by kernel_rfl) (by kernel_rfl) (by kernel_rfl) (fun _ _ _ h => h) (yi_no (by kernel_rfl)) hS ?_
  simp only [Act.put, List.setIfInBounds_toArray, List.set_cons_zero, List.set_cons_succ]
  refine wpAnyH_take (i := 19) (oi := ⟨some 81, _, _, _, _, _⟩) (v := undef) rfl (by kernel_rfl) (by kernel_rfl) (by kernel_rfl) (fun _ _ _ h => h) (yi_no (by kernel_rfl)) hS ?_
  simp only [Act.put, List.setIfInBounds_toArray, List.set_cons_zero, List.set_cons_succ]
  refine wpAnyH_take (i := 20) (oi := ⟨some 82, _, _, _, _, _⟩) (v := undef) rfl (by kernel_rfl) (by kernel_rfl) (by kernel_rfl) (fun _ _ _ h => h) (yi_no (by kernel_rfl)) hS ?_
  simp only [Act.put, List.setIfInBounds_toArray, List.set_cons_zero, List.set_cons_succ]
  refine wpAnyH_take (i := 21) (oi := ⟨some 83, _, _, _, _, _⟩) (v := undef) rfl (by kernel_rfl) (by kernel_rfl) (by kernel_rfl) (fun _ _ _ h => h) (yi_no (by kernel_rfl)) hS ?_
  simp only [Act.put, List.setIfInBounds_toArray, List.set_cons_zero, List.set_cons_succ]
  refine wpAnyH_take (i := 22) (oi := ⟨some 84, _, _, _, _, _⟩) (v := undef) rfl (by kernel_rfl) (by kernel_rfl) (by kernel_rfl) (fun _ _ _ h => h) (yi_no (by kernel_rfl)) hS ?_
  simp only [Act.put, List.setIfInBounds_toArray, List.set_cons_zero, List.set_cons_succ]
  refine wpAnyH_take (i := 23) (oi := ⟨some 85, _, _, _, _, _⟩) (v := undef) rfl (by kernel_rfl) (by kernel_rfl) (by kernel_rfl) (fun _ _ _ h => h) (yi_no (by kernel_rfl)) hS ?_
  simp only [Act.put, List.setIfInBounds_toArray, List.set_cons_zero, List.set_cons_succ]
  refine wpAnyH_take (i := 24) (oi := ⟨some 86, _, _, _, _, _⟩) (v := undef) rfl (by kernel_rfl) (by kernel_rfl) (by kernel_rfl) (fun _ _ _ h => h) (yi_no (by kernel_rfl)) hS ?_
  simp only [Act.put, List.setIfInBounds_toArray, List.set_cons_zero, List.set_cons_succ]
  refine wpAnyH_take (i := 25) (oi := ⟨some 87, _, _, _, _, _⟩) (v := undef) rfl (by kernel_rfl) (by kernel_rfl) (by kernel_rfl) (fun _ _ _ h => h) (yi_no (by kernel_rfl)) hS ?_
  simp only [Act.put, List.setIfInBounds_toArray, List.set_cons_zero, List.set_cons_succ]
  refine wpAnyH_take (i := 26) (oi := ⟨some 88, _, _, _, _, _⟩) (v := undef) rfl (by kernel_rfl) (by kernel_rfl) (by kernel_rfl) (fun _ _ _ h => h) (yi_no (by kernel_rfl)) hS ?_
  simp only [Act.put, List.setIfInBounds_toArray, List.set_cons_zero, List.set_cons_succ]
  refine wpAnyH_take (i := 27) (oi := ⟨some 89, _, _, _, _, _⟩) (v := undef) rfl (by kernel_rfl) (by kernel_rfl) (by kernel_rfl) (fun _ _ _ h => h) (yi_no (by kernel_rfl)) hS ?_
  simp only [Act.put, List.setIfInBounds_toArray, List.set_cons_zero, List.set_cons_succ]
  refine wpAnyH_take (i := 28) (oi := ⟨some 90, _, _, _, _, _⟩) (v := undef) rfl (by kernel_rfl) (by kernel_rfl) (by kernel_rfl) (fun _ _ _ h => h) (yi_no (by kernel_rfl)) hS ?_
  simp only [Act.put, List.setIfInBounds_toArray, List.set_cons_zero, List.set_cons_succ]
  refine wpAnyH_take (i := 29) (oi := ⟨some 91, _, _, _, _, _⟩) (v := undef) rfl (by kernel_rfl) (by kernel_rfl) (by kernel_rfl) (fun _ _ _ h => h) (yi_no (by kernel_rfl)) hS ?_
  simp only [Act.put, List.setIfInBounds_toArray, List.set_cons_zero, List.set_cons_succ]
  refine wpAnyH_take (i := 30) (oi := ⟨some 92, _, _, _, _, _⟩) (v := undef) rfl (by kernel_rfl) (by kernel_rfl) (by kernel_rfl) (fun _ _ _ h => h) (yi_no (by kernel_rfl)) hS ?_
  simp only [Act.put, List.setIfInBounds_toArray, List.set_cons_zero, List.set_cons_succ]
  refine wpAnyH_take (i := 31) (oi := ⟨some 93, _, _, _, _, _⟩) (v := undef) rfl (by kernel_rfl) (by kernel_rfl) (by kernel_rfl) (fun _ _ _ h => h) (yi_no (by kernel_rfl)) hS ?_
  simp only [Act.put, List.setIfInBounds_toArray, List.set_cons_zero, List.set_cons_succ]
  refine wpAnyH_take (i := 32) (oi := ⟨some 94, _, _, _, _, _⟩) (v := .bool false) rfl (by kernel_rfl) (by kernel_rfl) (by kernel_rfl) (fun _ _ _ h => h) (yi_pick0 rfl rfl rfl rfl) hS ?_
  simp only [Act.put, List.setIfInBounds_toArray, List.set_cons_zero, List.set_cons_succ]
  refine wpAnyH_done (by kernel_rfl) ?_ _
  clear hS
  go_wp2_with fail
  rw [rounds_succ]
  go_wp2_with (first
      | ((with_reducible refine at_slot 39 ?_); refine wl_ld1 (v := .int .i64 c.w1) rfl rfl rfl k1 Try.underlying2 rfl rfl ?_)
      | ((with_reducible refine at_slot 45 ?_); refine wl_ld1 (v := .int .i64 c.w1) rfl rfl rfl k1 Try.underlying2 rfl rfl ?_)
      | ((with_reducible refine at_slot 52 ?_); refine wl_ld1 (v := .int .i64 c.n1) rfl rfl rfl k1 Try.underlying3 rfl rfl ?_)
      | ((with_reducible refine at_slot 59 ?_); refine wl_ld1 (v := .int .i64 c.n1) rfl rfl rfl k1 Try.underlying3 rfl rfl ?_))
  refine wp_region_held_drew (S := fun w' => Blk w' g1 25 (cfA c) ∧ Below w.heap.size w w') (by kernel_rfl) ⟨k1.drew, HB.out.drew⟩ (fun hS => ?_)
  clear k1
  have hS2 := hS
  obtain ⟨k1, hB⟩ := hS2
  replace HB := Lib.hid hB
  clear hB
  refine wpAnyH_take (i := 0) (oi := ⟨some 62, _, _, _, _, _⟩) (v := .int .i64 1) rfl (by kernel_rfl) (by kernel_rfl) (by kernel_rfl) (fun _ _ _ h => h) (yi_mv (Or.inl rfl) rfl rfl) hS ?_
  simp only [Act.put, List.setIfInBounds_toArray, List.set_cons_zero, List.set_cons_succ]
  refine wpAnyH_take (i := 1) (oi := ⟨some 63, _, _, _, _, _⟩) (v := .bool true) rfl (by kernel_rfl) (by kernel_rfl) (by kernel_rfl) (fun _ _ _ h => h) (yi_ok rfl (fun _ => by go_simp)) hS ?_
  simp only [Act.put, List.setIfInBounds_toArray, List.set_cons_zero, List.set_cons_succ]
  refine wpAnyH_take (i := 2) (oi := ⟨some 64, _, _, _, _, _⟩) (v := .bool true) rfl (by kernel_rfl) (by kernel_rfl) (by kernel_rfl) (fun _ _ _ h => h) (yi_mv (Or.inl rfl) rfl rfl) hS ?_
  simp only [Act.put, List.setIfInBounds_toArray, List.set_cons_zero, List.set_cons_succ]
  refine wpAnyH_take (i := 3) (oi := ⟨some 65, _, _, _, _, _⟩) (v := .int .i64 1) rfl (by kernel_rfl) (by kernel_rfl) (by kernel_rfl) (fun _ _ _ h => h) (yi_mv (Or.inl rfl) (by kernel_rfl) rfl) hS ?_
  simp only [Act.put, List.setIfInBounds_toArray, List.set_cons_zero, List.set_cons_succ]
  refine wpAnyH_take (i := 4) (oi := ⟨some 66, _, _, _, _, _⟩) (v := .pointer (some ⟨g1, 1, none⟩)) rfl (by kernel_rfl) (by kernel_rfl) (by kernel_rfl) (fun _ _ _ h => h) (yi_ok (by kernel_rfl) (fun _ => by go_simp)) hS ?_
  simp only [Act.put, List.setIfInBounds_toArray, List.set_cons_zero, List.set_cons_succ]
  refine wpAnyH_take (i := 5) (oi := ⟨some 67, _, _, _, _, _⟩) (v := .pointer (some ⟨g1, 2, none⟩)) rfl (by kernel_rfl) (by kernel_rfl) (by kernel_rfl) (fun _ _ _ h => h) (yi_ok (by kernel_rfl) (fun _ => by go_simp)) hS ?_
  simp only [Act.put, List.setIfInBounds_toArray, List.set_cons_zero, List.set_cons_succ]
  refine wpAnyH_take (i := 6) (oi := ⟨some 68, _, _, _, _, _⟩) (v := .int .i64 c.w1) rfl (by kernel_rfl) (by kernel_rfl) (by kernel_rfl) (fun _ _ _ h => h) (yi_ld1 (v := .int .i64 c.w1) rfl (by kernel_rfl) rfl (fun w' h => h.1) Try.underlying2 rfl rfl) hS ?_
  simp only [Act.put, List.setIfInBounds_toArray, List.set_cons_zero, List.set_cons_succ]
  refine wpAnyH_take (i := 7) (oi := ⟨some 69, _, _, _, _, _⟩) (v := .int .i64 1) rfl (by kernel_rfl) (by kernel_rfl) (by kernel_rfl) (fun _ _ _ h => h) (yi_mv (Or.inl rfl) (by kernel_rfl) rfl) hS ?_
  simp only [Act.put, List.setIfInBounds_toArray, List.set_cons_zero, List.set_cons_succ]
  refine wpAnyH_take (i := 8) (oi := ⟨some 70, _, _, _, _, _⟩) (v := .int .i64 0) rfl (by kernel_rfl) (by kernel_rfl) (by kernel_rfl) (fun _ _ _ h => h) (yi_ok (by kernel_rfl) (fun _ => by go_simp)) hS ?_
  simp only [Act.put, List.setIfInBounds_toArray, List.set_cons_zero, List.set_cons_succ]
  refine wpAnyH_take (i := 9) (oi := ⟨some 71, _, _, _, _, _⟩) (v := .pointer (some ⟨g1, 1, none⟩)) rfl (by kernel_rfl) (by kernel_rfl) (by kernel_rfl) (fun _ _ _ h => h) (yi_ok (by kernel_rfl) (fun _ => by go_simp)) hS ?_
  simp only [Act.put, List.setIfInBounds_toArray, List.set_cons_zero, List.set_cons_succ]
  refine wpAnyH_take (i := 10) (oi := ⟨some 72, _, _, _, _, _⟩) (v := .pointer (some ⟨g1, 1, none⟩)) rfl (by kernel_rfl) (by kernel_rfl) (by kernel_rfl) (fun _ _ _ h => h) (yi_ok (by kernel_rfl) (fun _ => by go_simp)) hS ?_
  simp only [Act.put, List.setIfInBounds_toArray, List.set_cons_zero, List.set_cons_succ]
  refine wpAnyH_take (i := 11) (oi := ⟨some 73, _, _, _, _, _⟩) (v := .int .i64 c.w0) rfl (by kernel_rfl) (by kernel_rfl) (by kernel_rfl) (fun _ _ _ h => h) (yi_ld1 (v := .int .i64 c.w0) rfl (by kernel_rfl) rfl (fun w' h => h.1) Try.underlying2 rfl rfl) hS ?_
  simp only [Act.put, List.setIfInBounds_toArray, List.set_cons_zero, List.set_cons_succ]
  refine wpAnyH_take (i := 12) (oi := ⟨some 74, _, _, _, _, _⟩) (v := .int .i64 0) rfl (by kernel_rfl) (by kernel_rfl) (by kernel_rfl) (fun _ _ _ h => h) (yi_ok (by kernel_rfl) (fun _ => by go_simp)) hS ?_
  simp only [Act.put, List.setIfInBounds_toArray, List.set_cons_zero, List.set_cons_succ]
  refine wpAnyH_take (i := 13) (oi := ⟨some 75, _, _, _, _, _⟩) (v := .bool false) rfl (by kernel_rfl) (by kernel_rfl) (by kernel_rfl) (fun _ _ _ h => h) (yi_ok (by kernel_rfl) (fun _ => by go_simp)) hS ?_
  simp only [Act.put, List.setIfInBounds_toArray, List.set_cons_zero, List.set_cons_succ]
  refine wpAnyH_take (i := 14) (oi := ⟨some 76, _, _, _, _, _⟩) (v := .bool false) rfl (by kernel_rfl) (by kernel_rfl) (by kernel_rfl) (fun _ _ _ h => h) (yi_mv (Or.inl rfl) (by kernel_rfl) rfl) hS ?_
  simp only [Act.put, List.setIfInBounds_toArray, List.set_cons_zero, List.set_cons_succ]
  refine wpAnyH_take (i := 15) (oi := ⟨some 77, _, _, _, _, _⟩) (v := .int .i64 1) rfl (by kernel_rfl) (by kernel_rfl) (by kernel_rfl) (fun _ _ _ h => h) (yi_mv (Or.inl rfl) (by kernel_rfl) rfl) hS ?_
  simp only [Act.put, List.setIfInBounds_toArray, List.set_cons_zero, List.set_cons_succ]
  refine wpAnyH_take (i := 16) (oi := ⟨some 78, _, _, _, _, _⟩) (v := .int .i64 0) rfl (by kernel_rfl) (by kernel_rfl) (by kernel_rfl) (fun _ _ _ h => h) (yi_ok (by kernel_rfl) (fun _ => by go_simp)) hS ?_
  simp only [Act.put, List.setIfInBounds_toArray, List.set_cons_zero, List.set_cons_succ]
  refine wpAnyH_take (i := 17) (oi := ⟨some 79, _, _, _, _, _⟩) (v := .pointer (some ⟨g1, 4, none⟩)) rfl (by kernel_rfl) (by kernel_rfl) (by kernel_rfl) (fun _ _ _ h => h) (yi_ok (by kernel_rfl) (fun _ => by go_simp)) hS ?_
  simp only [Act.put, List.setIfInBounds_toArray, List.set_cons_zero, List.set_cons_succ]
  refine wpAnyH_take (i := 18) (oi := ⟨some 80, _, _, _, _, _⟩) (v := .pointer (some ⟨g1, 4, none⟩)) rfl (by kernel_rfl) (by kernel_rfl) (by kernel_rfl) (fun _ _ _ h => h) (yi_ok (by kernel_rfl) (fun _ => by go_simp)) hS ?_
  simp only [Act.put, List.setIfInBounds_toArray, List.set_cons_zero, List.set_cons_succ]
  refine wpAnyH_take (i := 19) (oi := ⟨some 81, _, _, _, _, _⟩) (v := .int .i64 c.n0) rfl (by kernel_rfl) (by kernel_rfl) (by kernel_rfl) (fun _ _ _ h => h) (yi_ld1 (v := .int .i64 c.n0) rfl (by kernel_rfl) rfl (fun w' h => h.1) Try.underlying3 rfl rfl) hS ?_
  simp only [Act.put, List.setIfInBounds_toArray, List.set_cons_zero, List.set_cons_succ]
  refine wpAnyH_take (i := 20) (oi := ⟨some 82, _, _, _, _, _⟩) (v := .int .i64 1) rfl (by kernel_rfl) (by kernel_rfl) (by kernel_rfl) (fun _ _ _ h => h) (yi_mv (Or.inl rfl) (by kernel_rfl) rfl) hS ?_
  simp only [Act.put, List.setIfInBounds_toArray, List.set_cons_zero, List.set_cons_succ]
  refine wpAnyH_take (i := 21) (oi := ⟨some 83, _, _, _, _, _⟩) (v := .pointer (some ⟨g1, 1, none⟩)) rfl (by kernel_rfl) (by kernel_rfl) (by kernel_rfl) (fun _ _ _ h => h) (yi_ok (by kernel_rfl) (fun _ => by go_simp)) hS ?_
  simp only [Act.put, List.setIfInBounds_toArray, List.set_cons_zero, List.set_cons_succ]
  refine wpAnyH_take (i := 22) (oi := ⟨some 84, _, _, _, _, _⟩) (v := .pointer (some ⟨g1, 2, none⟩)) rfl (by kernel_rfl) (by kernel_rfl) (by kernel_rfl) (fun _ _ _ h => h) (yi_ok (by kernel_rfl) (fun _ => by go_simp)) hS ?_
  simp only [Act.put, List.setIfInBounds_toArray, List.set_cons_zero, List.set_cons_succ]
  refine wpAnyH_take (i := 23) (oi := ⟨some 85, _, _, _, _, _⟩) (v := .int .i64 c.w1) rfl (by kernel_rfl) (by kernel_rfl) (by kernel_rfl) (fun _ _ _ h => h) (yi_ld1 (v := .int .i64 c.w1) rfl (by kernel_rfl) rfl (fun w' h => h.1) Try.underlying2 rfl rfl) hS ?_
  simp only [Act.put, List.setIfInBounds_toArray, List.set_cons_zero, List.set_cons_succ]
  refine wpAnyH_take (i := 24) (oi := ⟨some 86, _, _, _, _, _⟩) (v := .int .i64 1) rfl (by kernel_rfl) (by kernel_rfl) (by kernel_rfl) (fun _ _ _ h => h) (yi_mv (Or.inl rfl) (by kernel_rfl) rfl) hS ?_
  simp only [Act.put, List.setIfInBounds_toArray, List.set_cons_zero, List.set_cons_succ]
  refine wpAnyH_take (i := 25) (oi := ⟨some 87, _, _, _, _, _⟩) (v := .int .i64 0) rfl (by kernel_rfl) (by kernel_rfl) (by kernel_rfl) (fun _ _ _ h => h) (yi_ok (by kernel_rfl) (fun _ => by go_simp)) hS ?_
  simp only [Act.put, List.setIfInBounds_toArray, List.set_cons_zero, List.set_cons_succ]
  refine wpAnyH_take (i := 26) (oi := ⟨some 88, _, _, _, _, _⟩) (v := .pointer (some ⟨g1, 1, none⟩)) rfl (by kernel_rfl) (by kernel_rfl) (by kernel_rfl) (fun _ _ _ h => h) (yi_ok (by kernel_rfl) (fun _ => by go_simp)) hS ?_
  simp only [Act.put, List.setIfInBounds_toArray, List.set_cons_zero, List.set_cons_succ]
  refine wpAnyH_take (i := 27) (oi := ⟨some 89, _, _, _, _, _⟩) (v := .pointer (some ⟨g1, 1, none⟩)) rfl (by kernel_rfl) (by kernel_rfl) (by kernel_rfl) (fun _ _ _ h => h) (yi_ok (by kernel_rfl) (fun _ => by go_simp)) hS ?_
  simp only [Act.put, List.setIfInBounds_toArray, List.set_cons_zero, List.set_cons_succ]
  refine wpAnyH_take (i := 28) (oi := ⟨some 90, _, _, _, _, _⟩) (v := .int .i64 c.w0) rfl (by kernel_rfl) (by kernel_rfl) (by kernel_rfl) (fun _ _ _ h => h) (yi_ld1 (v := .int .i64 c.w0) rfl (by kernel_rfl) rfl (fun w' h => h.1) Try.underlying2 rfl rfl) hS ?_
  simp only [Act.put, List.setIfInBounds_toArray, List.set_cons_zero, List.set_cons_succ]
  refine wpAnyH_take (i := 29) (oi := ⟨some 91, _, _, _, _, _⟩) (v := .int .i64 (c.w1 / c.w0)) rfl (by kernel_rfl) (by kernel_rfl) (by kernel_rfl) (fun _ _ _ h => h) (yi_ok (by kernel_rfl) (fun _ => by go_simp)) hS ?_
  simp only [Act.put, List.setIfInBounds_toArray, List.set_cons_zero, List.set_cons_succ]
  refine wpAnyH_take (i := 30) (oi := ⟨some 92, _, _, _, _, _⟩) (v := .bool false) rfl (by kernel_rfl) (by kernel_rfl) (by kernel_rfl) (fun _ _ _ h => h) (yi_ok (by kernel_rfl) (fun _ => by go_simp)) hS ?_
  simp only [Act.put, List.setIfInBounds_toArray, List.set_cons_zero, List.set_cons_succ]
  refine wpAnyH_take (i := 31) (oi := ⟨some 93, _, _, _, _, _⟩) (v := .bool false) rfl (by kernel_rfl) (by kernel_rfl) (by kernel_rfl) (fun _ _ _ h => h) (yi_pick0 rfl (by kernel_rfl) rfl rfl) hS ?_
  simp only [Act.put, List.setIfInBounds_toArray, List.set_cons_zero, List.set_cons_succ]
  refine wpAnyH_take (i := 32) (oi := ⟨some 94, _, _, _, _, _⟩) (v := .bool false) rfl (by kernel_rfl) (by kernel_rfl) (by kernel_rfl) (fun _ _ _ h => h) (yi_pick1 rfl rfl rfl rfl) hS ?_
  simp only [Act.put, List.setIfInBounds_toArray, List.set_cons_zero, List.set_cons_succ]
  refine wpAnyH_done (by kernel_rfl) ?_ _
  clear hS
  go_wp2_with fail
  rw [rounds_succ]
  go_wp2_with (first
      | ((with_reducible refine at_slot 39 ?_); refine wl_ld1 (v := .int .i64 c.w2) rfl rfl rfl k1 Try.underlying2 rfl rfl ?_)
      | ((with_reducible refine at_slot 45 ?_); refine wl_ld1 (v := .int .i64 c.w2) rfl rfl rfl k1 Try.underlying2 rfl rfl ?_)
      | ((with_reducible refine at_slot 52 ?_); refine wl_ld1 (v := .int .i64 c.n2) rfl rfl rfl k1 Try.underlying3 rfl rfl ?_)
      | ((with_reducible refine at_slot 59 ?_); refine wl_ld1 (v := .int .i64 c.n2) rfl rfl rfl k1 Try.underlying3 rfl rfl ?_))
  refine wp_region_held_drew (S := fun w' => Blk w' g1 25 (cfA c) ∧ Below w.heap.size w w') (by kernel_rfl) ⟨k1.drew, HB.out.drew⟩ (fun hS => ?_)
  clear k1
  have hS2 := hS
  obtain ⟨k1, hB⟩ := hS2
  replace HB := Lib.hid hB
  clear hB
  refine wpAnyH_take (i := 0) (oi := ⟨some 62, _, _, _, _, _⟩) (v := .int .i64 2) rfl (by kernel_rfl) (by kernel_rfl) (by kernel_rfl) (fun _ _ _ h => h) (yi_mv (Or.inl rfl) rfl rfl) hS ?_
  simp only [Act.put, List.setIfInBounds_toArray, List.set_cons_zero, List.set_cons_succ]
  refine wpAnyH_take (i := 1) (oi := ⟨some 63, _, _, _, _, _⟩) (v := .bool true) rfl (by kernel_rfl) (by kernel_rfl) (by kernel_rfl) (fun _ _ _ h => h) (yi_ok rfl (fun _ => by go_simp)) hS ?_
  simp only [Act.put, List.setIfInBounds_toArray, List.set_cons_zero, List.set_cons_succ]
  refine wpAnyH_take (i := 2) (oi := ⟨some 64, _, _, _, _, _⟩) (v := .bool true) rfl (by kernel_rfl) (by kernel_rfl) (by kernel_rfl) (fun _ _ _ h => h) (yi_mv (Or.inl rfl) rfl rfl) hS ?_
  simp only [Act.put, List.setIfInBounds_toArray, List.set_cons_zero, List.set_cons_succ]
  refine wpAnyH_take (i := 3) (oi := ⟨some 65, _, _, _, _, _⟩) (v := .int .i64 2) rfl (by kernel_rfl) (by kernel_rfl) (by kernel_rfl) (fun _ _ _ h => h) (yi_mv (Or.inl rfl) (by kernel_rfl) rfl) hS ?_
  simp only [Act.put, List.setIfInBounds_toArray, List.set_cons_zero, List.set_cons_succ]
  refine wpAnyH_take (i := 4) (oi := ⟨some 66, _, _, _, _, _⟩) (v := .pointer (some ⟨g1, 1, none⟩)) rfl (by kernel_rfl) (by kernel_rfl) (by kernel_rfl) (fun _ _ _ h => h) (yi_ok (by kernel_rfl) (fun _ => by go_simp)) hS ?_
  simp only [Act.put, List.setIfInBounds_toArray, List.set_cons_zero, List.set_cons_succ]
  refine wpAnyH_take (i := 5) (oi := ⟨some 67, _, _, _, _, _⟩) (v := .pointer (some ⟨g1, 3, none⟩)) rfl (by kernel_rfl) (by kernel_rfl) (by kernel_rfl) (fun _ _ _ h => h) (yi_ok (by kernel_rfl) (fun _ => by go_simp)) hS ?_
  simp only [Act.put, List.setIfInBounds_toArray, List.set_cons_zero, List.set_cons_succ]
  refine wpAnyH_take (i := 6) (oi := ⟨some 68, _, _, _, _, _⟩) (v := .int .i64 c.w2) rfl (by kernel_rfl) (by kernel_rfl) (by kernel_rfl) (fun _ _ _ h => h) (yi_ld1 (v := .int .i64 c.w2) rfl (by kernel_rfl) rfl (fun w' h => h.1) Try.underlying2 rfl rfl) hS ?_
  simp only [Act.put, List.setIfInBounds_toArray, List.set_cons_zero, List.set_cons_succ]
  refine wpAnyH_take (i := 7) (oi := ⟨some 69, _, _, _, _, _⟩) (v := .int .i64 2) rfl (by kernel_rfl) (by kernel_rfl) (by kernel_rfl) (fun _ _ _ h => h) (yi_mv (Or.inl rfl) (by kernel_rfl) rfl) hS ?_
  simp only [Act.put, List.setIfInBounds_toArray, List.set_cons_zero, List.set_cons_succ]
  refine wpAnyH_take (i := 8) (oi := ⟨some 70, _, _, _, _, _⟩) (v := .int .i64 1) rfl (by kernel_rfl) (by kernel_rfl) (by kernel_rfl) (fun _ _ _ h => h) (yi_ok (by kernel_rfl) (fun _ => by go_simp)) hS ?_
  simp only [Act.put, List.setIfInBounds_toArray, List.set_cons_zero, List.set_cons_succ]
  refine wpAnyH_take (i := 9) (oi := ⟨some 71, _, _, _, _, _⟩) (v := .pointer (some ⟨g1, 1, none⟩)) rfl (by kernel_rfl) (by kernel_rfl) (by kernel_rfl) (fun _ _ _ h => h) (yi_ok (by kernel_rfl) (fun _ => by go_simp)) hS ?_
  simp only [Act.put, List.setIfInBounds_toArray, List.set_cons_zero, List.set_cons_succ]
  refine wpAnyH_take (i := 10) (oi := ⟨some 72, _, _, _, _, _⟩) (v := .pointer (some ⟨g1, 2, none⟩)) rfl (by kernel_rfl) (by kernel_rfl) (by kernel_rfl) (fun _ _ _ h => h) (yi_ok (by kernel_rfl) (fun _ => by go_simp)) hS ?_
  simp only [Act.put, List.setIfInBounds_toArray, List.set_cons_zero, List.set_cons_succ]
  refine wpAnyH_take (i := 11) (oi := ⟨some 73, _, _, _, _, _⟩) (v := .int .i64 c.w1) rfl (by kernel_rfl) (by kernel_rfl) (by kernel_rfl) (fun _ _ _ h => h) (yi_ld1 (v := .int .i64 c.w1) rfl (by kernel_rfl) rfl (fun w' h => h.1) Try.underlying2 rfl rfl) hS ?_
  simp only [Act.put, List.setIfInBounds_toArray, List.set_cons_zero, List.set_cons_succ]
  refine wpAnyH_take (i := 12) (oi := ⟨some 74, _, _, _, _, _⟩) (v := .int .i64 0) rfl (by kernel_rfl) (by kernel_rfl) (by kernel_rfl) (fun _ _ _ h => h) (yi_ok (by kernel_rfl) (fun _ => by go_simp)) hS ?_
  simp only [Act.put, List.setIfInBounds_toArray, List.set_cons_zero, List.set_cons_succ]
  refine wpAnyH_take (i := 13) (oi := ⟨some 75, _, _, _, _, _⟩) (v := .bool false) rfl (by kernel_rfl) (by kernel_rfl) (by kernel_rfl) (fun _ _ _ h => h) (yi_ok (by kernel_rfl) (fun _ => by go_simp)) hS ?_
  simp only [Act.put, List.setIfInBounds_toArray, List.set_cons_zero, List.set_cons_succ]
  refine wpAnyH_take (i := 14) (oi := ⟨some 76, _, _, _, _, _⟩) (v := .bool false) rfl (by kernel_rfl) (by kernel_rfl) (by kernel_rfl) (fun _ _ _ h => h) (yi_mv (Or.inl rfl) (by kernel_rfl) rfl) hS ?_
  simp only [Act.put, List.setIfInBounds_toArray, List.set_cons_zero, List.set_cons_succ]
  refine wpAnyH_take (i := 15) (oi := ⟨some 77, _, _, _, _, _⟩) (v := .int .i64 2) rfl (by kernel_rfl) (by kernel_rfl) (by kernel_rfl) (fun _ _ _ h => h) (yi_mv (Or.inl rfl) (by kernel_rfl) rfl) hS ?_
  simp only [Act.put, List.setIfInBounds_toArray, List.set_cons_zero, List.set_cons_succ]
  refine wpAnyH_take (i := 16) (oi := ⟨some 78, _, _, _, _, _⟩) (v := .int .i64 1) rfl (by kernel_rfl) (by kernel_rfl) (by kernel_rfl) (fun _ _ _ h => h) (yi_ok (by kernel_rfl) (fun _ => by go_simp)) hS ?_
  simp only [Act.put, List.setIfInBounds_toArray, List.set_cons_zero, List.set_cons_succ]
  refine wpAnyH_take (i := 17) (oi := ⟨some 79, _, _, _, _, _⟩) (v := .pointer (some ⟨g1, 4, none⟩)) rfl (by kernel_rfl) (by kernel_rfl) (by kernel_rfl) (fun _ _ _ h => h) (yi_ok (by kernel_rfl) (fun _ => by go_simp)) hS ?_
  simp only [Act.put, List.setIfInBounds_toArray, List.set_cons_zero, List.set_cons_succ]
  refine wpAnyH_take (i := 18) (oi := ⟨some 80, _, _, _, _, _⟩) (v := .pointer (some ⟨g1, 5, none⟩)) rfl (by kernel_rfl) (by kernel_rfl) (by kernel_rfl) (fun _ _ _ h => h) (yi_ok (by kernel_rfl) (fun _ => by go_simp)) hS ?_
  simp only [Act.put, List.setIfInBounds_toArray, List.set_cons_zero, List.set_cons_succ]
  refine wpAnyH_take (i := 19) (oi := ⟨some 81, _, _, _, _, _⟩) (v := .int .i64 c.n1) rfl (by kernel_rfl) (by kernel_rfl) (by kernel_rfl) (fun _ _ _ h => h) (yi_ld1 (v := .int .i64 c.n1) rfl (by kernel_rfl) rfl (fun w' h => h.1) Try.underlying3 rfl rfl) hS ?_
  simp only [Act.put, List.setIfInBounds_toArray, List.set_cons_zero, List.set_cons_succ]
  refine wpAnyH_take (i := 20) (oi := ⟨some 82, _, _, _, _, _⟩) (v := .int .i64 2) rfl (by kernel_rfl) (by kernel_rfl) (by kernel_rfl) (fun _ _ _ h => h) (yi_mv (Or.inl rfl) (by kernel_rfl) rfl) hS ?_
  simp only [Act.put, List.setIfInBounds_toArray, List.set_cons_zero, List.set_cons_succ]
  refine wpAnyH_take (i := 21) (oi := ⟨some 83, _, _, _, _, _⟩) (v := .pointer (some ⟨g1, 1, none⟩)) rfl (by kernel_rfl) (by kernel_rfl) (by kernel_rfl) (fun _ _ _ h => h) (yi_ok (by kernel_rfl) (fun _ => by go_simp)) hS ?_
  simp only [Act.put, List.setIfInBounds_toArray, List.set_cons_zero, List.set_cons_succ]
  refine wpAnyH_take (i := 22) (oi := ⟨some 84, _, _, _, _, _⟩) (v := .pointer (some ⟨g1, 3, none⟩)) rfl (by kernel_rfl) (by kernel_rfl) (by kernel_rfl) (fun _ _ _ h => h) (yi_ok (by kernel_rfl) (fun _ => by go_simp)) hS ?_
  simp only [Act.put, List.setIfInBounds_toArray, List.set_cons_zero, List.set_cons_succ]
  refine wpAnyH_take (i := 23) (oi := ⟨some 85, _, _, _, _, _⟩) (v := .int .i64 c.w2) rfl (by kernel_rfl) (by kernel_rfl) (by kernel_rfl) (fun _ _ _ h => h) (yi_ld1 (v := .int .i64 c.w2) rfl (by kernel_rfl) rfl (fun w' h => h.1) Try.underlying2 rfl rfl) hS ?_
  simp only [Act.put, List.setIfInBounds_toArray, List.set_cons_zero, List.set_cons_succ]
  refine wpAnyH_take (i := 24) (oi := ⟨some 86, _, _, _, _, _⟩) (v := .int .i64 2) rfl (by kernel_rfl) (by kernel_rfl) (by kernel_rfl) (fun _ _ _ h => h) (yi_mv (Or.inl rfl) (by kernel_rfl) rfl) hS ?_
  simp only [Act.put, List.setIfInBounds_toArray, List.set_cons_zero, List.set_cons_succ]
  refine wpAnyH_take (i := 25) (oi := ⟨some 87, _, _, _, _, _⟩) (v := .int .i64 1) rfl (by kernel_rfl) (by kernel_rfl) (by kernel_rfl) (fun _ _ _ h => h) (yi_ok (by kernel_rfl) (fun _ => by go_simp)) hS ?_
  simp only [Act.put, List.setIfInBounds_toArray, List.set_cons_zero, List.set_cons_succ]
  refine wpAnyH_take (i := 26) (oi := ⟨some 88, _, _, _, _, _⟩) (v := .pointer (some ⟨g1, 1, none⟩)) rfl (by kernel_rfl) (by kernel_rfl) (by kernel_rfl) (fun _ _ _ h => h) (yi_ok (by kernel_rfl) (fun _ => by go_simp)) hS ?_
  simp only [Act.put, List.setIfInBounds_toArray, List.set_cons_zero, List.set_cons_succ]
  refine wpAnyH_take (i := 27) (oi := ⟨some 89, _, _, _, _, _⟩) (v := .pointer (some ⟨g1, 2, none⟩)) rfl (by kernel_rfl) (by kernel_rfl) (by kernel_rfl) (fun _ _ _ h => h) (yi_ok (by kernel_rfl) (fun _ => by go_simp)) hS ?_
  simp only [Act.put, List.setIfInBounds_toArray, List.set_cons_zero, List.set_cons_succ]
  refine wpAnyH_take (i := 28) (oi := ⟨some 90, _, _, _, _, _⟩) (v := .int .i64 c.w1) rfl (by kernel_rfl) (by kernel_rfl) (by kernel_rfl) (fun _ _ _ h => h) (yi_ld1 (v := .int .i64 c.w1) rfl (by kernel_rfl) rfl (fun w' h => h.1) Try.underlying2 rfl rfl) hS ?_
  simp only [Act.put, List.setIfInBounds_toArray, List.set_cons_zero, List.set_cons_succ]
  refine wpAnyH_take (i := 29) (oi := ⟨some 91, _, _, _, _, _⟩) (v := .int .i64 (c.w2 / c.w1)) rfl (by kernel_rfl) (by kernel_rfl) (by kernel_rfl) (fun _ _ _ h => h) (yi_ok (by kernel_rfl) (fun _ => by go_simp)) hS ?_
  simp only [Act.put, List.setIfInBounds_toArray, List.set_cons_zero, List.set_cons_succ]
  refine wpAnyH_take (i := 30) (oi := ⟨some 92, _, _, _, _, _⟩) (v := .bool false) rfl (by kernel_rfl) (by kernel_rfl) (by kernel_rfl) (fun _ _ _ h => h) (yi_ok (by kernel_rfl) (fun _ => by go_simp)) hS ?_
  simp only [Act.put, List.setIfInBounds_toArray, List.set_cons_zero, List.set_cons_succ]
  refine wpAnyH_take (i := 31) (oi := ⟨some 93, _, _, _, _, _⟩) (v := .bool false) rfl (by kernel_rfl) (by kernel_rfl) (by kernel_rfl) (fun _ _ _ h => h) (yi_pick0 rfl (by kernel_rfl) rfl rfl) hS ?_
  simp only [Act.put, List.setIfInBounds_toArray, List.set_cons_zero, List.set_cons_succ]
  refine wpAnyH_take (i := 32) (oi := ⟨some 94, _, _, _, _, _⟩) (v := .bool false) rfl (by kernel_rfl) (by kernel_rfl) (by kernel_rfl) (fun _ _ _ h => h) (yi_pick1 rfl rfl rfl rfl) hS ?_
  simp only [Act.put, List.setIfInBounds_toArray, List.set_cons_zero, List.set_cons_succ]
  refine wpAnyH_done (by kernel_rfl) ?_ _
  clear hS
  go_wp2_with fail
  rw [rounds_succ]
  go_wp2_with fail
  refine wp_region_held_drew (S := fun w' => Blk w' g1 25 (cfA c) ∧ Below w.heap.size w w') (by kernel_rfl) ⟨k1.drew, HB.out.drew⟩ (fun hS => ?_)
  clear k1
  have hS2 := hS
  obtain ⟨k1, hB⟩ := hS2
  replace HB := Lib.hid hB
  clear hB
  refine wpAnyH_take (i := 0) (oi := ⟨some 95, _, _, _, _, _⟩) (v := .pointer (some ⟨g1, 8, none⟩)) rfl (by kernel_rfl) (by kernel_rfl) (by kernel_rfl) (fun _ _ _ h => h) (yi_ok rfl (fun _ => by go_simp)) hS ?_
  simp only [Act.put, List.setIfInBounds_toArray, List.set_cons_zero, List.set_cons_succ]
  refine wpAnyH_take (i := 1) (oi := ⟨some 96, _, _, _, _, _⟩) (v := .int .i64 c.log) rfl (by kernel_rfl) (by kernel_rfl) (by kernel_rfl) (fun _ _ _ h => h) (yi_ld1 (v := .int .i64 c.log) rfl rfl rfl (fun w' h => h.1) Try.underlying3 rfl rfl) hS ?_
  simp only [Act.put, List.setIfInBounds_toArray, List.set_cons_zero, List.set_cons_succ]
  refine wpAnyH_take (i := 2) (oi := ⟨some 97, _, _, _, _, _⟩) (v := .agg (cfA c)) rfl (by kernel_rfl) (by kernel_rfl) (by kernel_rfl) (fun _ _ _ h => h) (yi_ld0 rfl rfl rfl (fun w' h => h.1) Try.underlying25 rfl cfInfo) hS ?_
  simp only [Act.put, List.setIfInBounds_toArray, List.set_cons_zero, List.set_cons_succ]
  refine anyH_call (i := 3) (op := ⟨some 98, _, _, _, _, _⟩) (by kernel_rfl) rfl rfl rfl Try.func38 (by kernel_rfl) rfl (HP.out _) rfl (fun w' hb => ⟨k1.keep hb, below_tr HB.out hb⟩) (fun w' hb hS2 => ?_)
  simp only [Act.put, List.setIfInBounds_toArray, List.set_cons_zero, List.set_cons_succ]
  clear hb
  replace hS := hS2
  clear hS2
  clear k1
  have hS2 := hS
  obtain ⟨k1, hB⟩ := hS2
  replace HB := Lib.hid hB
  clear hB
  refine wpAnyH_take (i := 4) (oi := ⟨some 99, _, _, _, _, _⟩) (v := .bool false) rfl (by kernel_rfl) (by kernel_rfl) (by kernel_rfl) (fun _ _ _ h => h) (yi_ok rfl (fun _ => by go_simp)) hS ?_
  simp only [Act.put, List.setIfInBounds_toArray, List.set_cons_zero, List.set_cons_succ]
  refine wpAnyH_done (by kernel_rfl) ?_ _
  clear hS
  go_wp2_with fail
  go_ret
  exact ⟨rfl, HB.out⟩
theorem rck_yes {c : Cf} (h : CfOk c) (w : World) : Calls Try.prog 13 #[.agg (cfA c)] w fun e w' => e = .returned (.int .i64 0) ∧ Below w.heap.size w w' :=
  rck_good h.1 h.2.1 h.2.2.1 (by have := (log_bd h).1; omega) h.2.2.2.2 h.2.2.2.1 w
theorem rck_no {c : Cf} (h : ¬ CfOk c) (w : World) : Calls Try.prog 13 #[.agg (cfA c)] w fun e w' => e = .returned (.int .i64 2) ∧ Below w.heap.size w w' := by
  by_cases t0 : c.raw < 1
  · exact rck_0  t0 w
  by_cases t1 : 4096 < c.raw
  · exact rck_1 (by omega) t1 w
  by_cases t2 : c.cap < 1
  · exact rck_2 (by omega) (by omega) t2 w
  by_cases t3 : 65536 < c.cap
  · exact rck_3 (by omega) (by omega) (by omega) t3 w
  by_cases t4 : c.log < 1
  · exact rck_4 (by omega) (by omega) (by omega) (by omega) t4 w
  by_cases t5 : 8192 < c.log
  · exact rck_5 (by omega) (by omega) (by omega) (by omega) (by omega) t5 w
  by_cases s00 : c.w0 < 1
  · exact rck_00 (by omega) (by omega) (by omega) (by omega) (by omega) (by omega)  s00 w
  by_cases s01 : 1099511627776 < c.w0
  · exact rck_01 (by omega) (by omega) (by omega) (by omega) (by omega) (by omega) (by omega) s01 w
  by_cases s02 : c.n0 < 1
  · exact rck_02 (by omega) (by omega) (by omega) (by omega) (by omega) (by omega) (by omega) (by omega) s02 w
  by_cases s03 : 4096 < c.n0
  · exact rck_03 (by omega) (by omega) (by omega) (by omega) (by omega) (by omega) (by omega) (by omega) (by omega) s03 w
  by_cases s10 : c.w1 < 1
  · exact rck_10 (by omega) (by omega) (by omega) (by omega) (by omega) (by omega) (by omega) (by omega) (by omega) (by omega)   s10 w
  by_cases s11 : 1099511627776 < c.w1
  · exact rck_11 (by omega) (by omega) (by omega) (by omega) (by omega) (by omega) (by omega) (by omega) (by omega) (by omega)  (by omega) s11 w
  by_cases s12 : c.n1 < 1
  · exact rck_12 (by omega) (by omega) (by omega) (by omega) (by omega) (by omega) (by omega) (by omega) (by omega) (by omega)  (by omega) (by omega) s12 w
  by_cases s13 : 4096 < c.n1
  · exact rck_13 (by omega) (by omega) (by omega) (by omega) (by omega) (by omega) (by omega) (by omega) (by omega) (by omega)  (by omega) (by omega) (by omega) s13 w
  by_cases x1 : c.w1 % c.w0 = 0
  · by_cases y1n : c.n0 < c.w1 / c.w0
    · exact rck_1b (by omega) (by omega) (by omega) (by omega) (by omega) (by omega) (by omega) (by omega) (by omega) (by omega)  (by omega) (by omega) (by omega) (by omega) x1 y1n w
    · have y1 : c.w1 / c.w0 ≤ c.n0 := by omega
      by_cases s20 : c.w2 < 1
      · exact rck_20 (by omega) (by omega) (by omega) (by omega) (by omega) (by omega) (by omega) (by omega) (by omega) (by omega) (by omega) (by omega) (by omega) (by omega) x1 y1  s20 w
      by_cases s21 : 1099511627776 < c.w2
      · exact rck_21 (by omega) (by omega) (by omega) (by omega) (by omega) (by omega) (by omega) (by omega) (by omega) (by omega) (by omega) (by omega) (by omega) (by omega) x1 y1 (by omega) s21 w
      by_cases s22 : c.n2 < 1
      · exact rck_22 (by omega) (by omega) (by omega) (by omega) (by omega) (by omega) (by omega) (by omega) (by omega) (by omega) (by omega) (by omega) (by omega) (by omega) x1 y1 (by omega) (by omega) s22 w
      by_cases s23 : 4096 < c.n2
      · exact rck_23 (by omega) (by omega) (by omega) (by omega) (by omega) (by omega) (by omega) (by omega) (by omega) (by omega) (by omega) (by omega) (by omega) (by omega) x1 y1 (by omega) (by omega) (by omega) s23 w
      by_cases x2 : c.w2 % c.w1 = 0
      · by_cases y2n : c.n1 < c.w2 / c.w1
        · exact rck_2b (by omega) (by omega) (by omega) (by omega) (by omega) (by omega) (by omega) (by omega) (by omega) (by omega) (by omega) (by omega) (by omega) (by omega) x1 y1 (by omega) (by omega) (by omega) (by omega) x2 y2n w
        · have y2 : c.w2 / c.w1 ≤ c.n1 := by omega
          have ht : TiersOk c := ⟨⟨⟨⟨by omega, by omega⟩, by omega, by omega⟩, ⟨⟨by omega, by omega⟩, by omega, by omega⟩, ⟨by omega, by omega⟩, by omega, by omega⟩, ⟨x1, y1⟩, x2, y2⟩
          have hr : SlotsOk c.raw := ⟨by omega, by omega⟩
          exact rck_small ht hr ⟨by omega, by omega⟩ (by omega) (by omega) (by have hh : ¬ (placeI c + 1 ≤ c.log) := fun e => h ⟨ht, hr, ⟨by omega, by omega⟩, e, by omega⟩; omega) w
      · exact rck_2a (by omega) (by omega) (by omega) (by omega) (by omega) (by omega) (by omega) (by omega) (by omega) (by omega) (by omega) (by omega) (by omega) (by omega) x1 y1 (by omega) (by omega) (by omega) (by omega) x2 w
  · exact rck_1a (by omega) (by omega) (by omega) (by omega) (by omega) (by omega) (by omega) (by omega) (by omega) (by omega)  (by omega) (by omega) (by omega) (by omega) x1 w
set_option maxHeartbeats 4000000 in
set_option maxRecDepth 100000 in
theorem rfac_no {c : Cf} {t : Int} (h : ¬ CfOk c) (w : World) : Calls Try.prog 15 #[.agg (cfA c), .int .i64 t] w fun e w' => e = .returned (.int .i64 0) ∧ Below w.heap.size w w' := by
  have HC := Lib.hid h
  clear h
  have HB := Lib.hid (Below.refl w.heap.size w)
  go_enter Try.func15, Try.ntmps15
  go_wp2_with (first
      | ((with_reducible refine at_slot 2 ?_); refine wl_box (A := (cfA c)) rfl rfl rfl ?_; intro W1 g1 k1 hb hle; have L1 := Lib.hid (Nat.le_trans HB.out.size hle); replace HB := Lib.hid (below_tr HB.out hb); clear hb hle)
      | ((with_reducible refine at_slot 5 ?_); refine wl_ld0 rfl rfl rfl k1 Try.underlying25 rfl cfInfo ?_)
      | ((with_reducible refine at_slot 6 ?_); refine wl_call rfl rfl Try.func13 (by kernel_rfl) rfl (rck_no HC.out _) rfl ?_; intro V1 hb; replace k1 := k1.keep hb; replace HB := Lib.hid (below_tr HB.out hb); clear hb))
  go_ret
  exact ⟨rfl, HB.out⟩
set_option maxHeartbeats 4000000 in
set_option maxRecDepth 100000 in
theorem rfac_lo {c : Cf} {t : Int} (h : CfOk c) (ht : t < 1) (w : World) : Calls Try.prog 15 #[.agg (cfA c), .int .i64 t] w fun e w' => e = .returned (.int .i64 0) ∧ Below w.heap.size w w' := by
  have HC := Lib.hid h
  have d1 : decide (t < 1) = true := by simp; omega
  clear h ht
  have HB := Lib.hid (Below.refl w.heap.size w)
  go_enter Try.func15, Try.ntmps15
  go_wp2_with (first
      | ((with_reducible refine at_slot 2 ?_); refine wl_box (A := (cfA c)) rfl rfl rfl ?_; intro W1 g1 k1 hb hle; have L1 := Lib.hid (Nat.le_trans HB.out.size hle); replace HB := Lib.hid (below_tr HB.out hb); clear hb hle)
      | ((with_reducible refine at_slot 5 ?_); refine wl_ld0 rfl rfl rfl k1 Try.underlying25 rfl cfInfo ?_)
      | ((with_reducible refine at_slot 6 ?_); refine wl_call rfl rfl Try.func13 (by kernel_rfl) rfl (rck_yes HC.out _) rfl ?_; intro V1 hb; replace k1 := k1.keep hb; replace HB := Lib.hid (below_tr HB.out hb); clear hb))
  go_ret
  exact ⟨rfl, HB.out⟩
set_option maxHeartbeats 4000000 in
set_option maxRecDepth 100000 in
theorem rfac_hi {c : Cf} {t : Int} (h : CfOk c) (h0 : 1 ≤ t) (ht : 2 < t) (w : World) : Calls Try.prog 15 #[.agg (cfA c), .int .i64 t] w fun e w' => e = .returned (.int .i64 0) ∧ Below w.heap.size w w' := by
  have HC := Lib.hid h
  have d1 : decide (t < 1) = false := by simp; omega
  have d2 : decide (2 < t) = true := by simp; omega
  clear h
  have HB := Lib.hid (Below.refl w.heap.size w)
  go_enter Try.func15, Try.ntmps15
  go_wp2_with (first
      | ((with_reducible refine at_slot 2 ?_); refine wl_box (A := (cfA c)) rfl rfl rfl ?_; intro W1 g1 k1 hb hle; have L1 := Lib.hid (Nat.le_trans HB.out.size hle); replace HB := Lib.hid (below_tr HB.out hb); clear hb hle)
      | ((with_reducible refine at_slot 5 ?_); refine wl_ld0 rfl rfl rfl k1 Try.underlying25 rfl cfInfo ?_)
      | ((with_reducible refine at_slot 6 ?_); refine wl_call rfl rfl Try.func13 (by kernel_rfl) rfl (rck_yes HC.out _) rfl ?_; intro V1 hb; replace k1 := k1.keep hb; replace HB := Lib.hid (below_tr HB.out hb); clear hb))
  go_ret
  exact ⟨rfl, HB.out⟩
set_option maxHeartbeats 4000000 in
set_option maxRecDepth 100000 in
theorem rfac_1 {c : Cf} (h : CfOk c) (w : World) : Calls Try.prog 15 #[.agg (cfA c), .int .i64 1] w fun e w' => e = .returned (.int .i64 (c.w1 / c.w0)) ∧ Below w.heap.size w w' := by
  obtain ⟨a0, A0⟩ := h.1.1.1.1
  obtain ⟨a1, A1⟩ := h.1.1.2.1.1
  obtain ⟨a2, A2⟩ := h.1.1.2.2.1
  have q1 : 0 ≤ c.w1 / c.w0 := Int.ediv_nonneg (by omega) (by omega)
  have Q1 : c.w1 / c.w0 ≤ c.w1 := Int.ediv_le_self _ (by omega)
  have N1 : ¬ c.w0 = 0 := by omega
  have P1 : 0 ≤ c.w1 := by omega
  have u1 : Int.tdiv c.w1 c.w0 = c.w1 / c.w0 := Int.tdiv_eq_ediv_of_nonneg P1
  have U1 : IntKind.i64.wrap (c.w1 / c.w0) = c.w1 / c.w0 := by rw [IntKind.wrap_i64]; omega
  have z0 : IntKind.i64.wrap 0 = 0 := by decide
  have z1 : IntKind.i64.wrap 1 = 1 := by decide
  have HC := Lib.hid h
  clear h
  have HB := Lib.hid (Below.refl w.heap.size w)
  go_enter Try.func15, Try.ntmps15
  go_wp2_with (first
      | ((with_reducible refine at_slot 2 ?_); refine wl_box (A := (cfA c)) rfl rfl rfl ?_; intro W1 g1 k1 hb hle; have L1 := Lib.hid (Nat.le_trans HB.out.size hle); replace HB := Lib.hid (below_tr HB.out hb); clear hb hle)
      | ((with_reducible refine at_slot 5 ?_); refine wl_ld0 rfl rfl rfl k1 Try.underlying25 rfl cfInfo ?_)
      | ((with_reducible refine at_slot 6 ?_); refine wl_call rfl rfl Try.func13 (by kernel_rfl) rfl (rck_yes HC.out _) rfl ?_; intro V1 hb; replace k1 := k1.keep hb; replace HB := Lib.hid (below_tr HB.out hb); clear hb))
  refine wp_region_held_drew (S := fun w' => Blk w' g1 25 (cfA c) ∧ Below w.heap.size w w') (by kernel_rfl) ⟨k1.drew, HB.out.drew⟩ (fun hS => ?_)
  clear k1
  have hS2 := hS
  obtain ⟨k1, hB⟩ := hS2
  replace HB := Lib.hid hB
  clear hB
  refine wpAnyH_take (i := 0) (oi := ⟨some 16, _, _, _, _, _⟩) (v := .int .i64 1) rfl (by kernel_rfl) (by kernel_rfl) (by kernel_rfl) (fun _ _ _ h => h) (yi_mv (Or.inl rfl) rfl rfl) hS ?_
  simp only [Act.put, List.setIfInBounds_toArray, List.set_cons_zero, List.set_cons_succ]
  refine wpAnyH_take (i := 1) (oi := ⟨some 17, _, _, _, _, _⟩) (v := .pointer (some ⟨g1, 1, none⟩)) rfl (by kernel_rfl) (by kernel_rfl) (by kernel_rfl) (fun _ _ _ h => h) (yi_ok rfl (fun _ => by go_simp)) hS ?_
  simp only [Act.put, List.setIfInBounds_toArray, List.set_cons_zero, List.set_cons_succ]
  refine wpAnyH_take (i := 2) (oi := ⟨some 18, _, _, _, _, _⟩) (v := .pointer (some ⟨g1, 2, none⟩)) rfl (by kernel_rfl) (by kernel_rfl) (by kernel_rfl) (fun _ _ _ h => h) (yi_ok rfl (fun _ => by go_simp)) hS ?_
  simp only [Act.put, List.setIfInBounds_toArray, List.set_cons_zero, List.set_cons_succ]
  refine wpAnyH_take (i := 3) (oi := ⟨some 19, _, _, _, _, _⟩) (v := .int .i64 c.w1) rfl (by kernel_rfl) (by kernel_rfl) (by kernel_rfl) (fun _ _ _ h => h) (yi_ld1 (v := .int .i64 c.w1) rfl rfl rfl (fun w' h => h.1) Try.underlying2 rfl rfl) hS ?_
  simp only [Act.put, List.setIfInBounds_toArray, List.set_cons_zero, List.set_cons_succ]
  refine wpAnyH_take (i := 4) (oi := ⟨some 20, _, _, _, _, _⟩) (v := .int .i64 1) rfl (by kernel_rfl) (by kernel_rfl) (by kernel_rfl) (fun _ _ _ h => h) (yi_mv (Or.inl rfl) rfl rfl) hS ?_
  simp only [Act.put, List.setIfInBounds_toArray, List.set_cons_zero, List.set_cons_succ]
  refine wpAnyH_take (i := 5) (oi := ⟨some 21, _, _, _, _, _⟩) (v := .int .i64 0) rfl (by kernel_rfl) (by kernel_rfl) (by kernel_rfl) (fun _ _ _ h => h) (yi_ok rfl (fun _ => by go_simp)) hS ?_
  simp only [Act.put, List.setIfInBounds_toArray, List.set_cons_zero, List.set_cons_succ]
  refine wpAnyH_take (i := 6) (oi := ⟨some 22, _, _, _, _, _⟩) (v := .pointer (some ⟨g1, 1, none⟩)) rfl (by kernel_rfl) (by kernel_rfl) (by kernel_rfl) (fun _ _ _ h => h) (yi_ok rfl (fun _ => by go_simp)) hS ?_
  simp only [Act.put, List.setIfInBounds_toArray, List.set_cons_zero, List.set_cons_succ]
  refine wpAnyH_take (i := 7) (oi := ⟨some 23, _, _, _, _, _⟩) (v := .pointer (some ⟨g1, 1, none⟩)) rfl (by kernel_rfl) (by kernel_rfl) (by kernel_rfl) (fun _ _ _ h => h) (yi_ok rfl (fun _ => by go_simp)) hS ?_
  simp only [Act.put, List.setIfInBounds_toArray, List.set_cons_zero, List.set_cons_succ]
  refine wpAnyH_take (i := 8) (oi := ⟨some 24, _, _, _, _, _⟩) (v := .int .i64 c.w0) rfl (by kernel_rfl) (by kernel_rfl) (by kernel_rfl) (fun _ _ _ h => h) (yi_ld1 (v := .int .i64 c.w0) rfl rfl rfl (fun w' h => h.1) Try.underlying2 rfl rfl) hS ?_
  simp only [Act.put, List.setIfInBounds_toArray, List.set_cons_zero, List.set_cons_succ]
  refine wpAnyH_take (i := 9) (oi := ⟨some 25, _, _, _, _, _⟩) (v := .int .i64 (c.w1 / c.w0)) rfl (by kernel_rfl) (by kernel_rfl) (by kernel_rfl) (fun _ _ _ h => h) (yi_ok rfl (fun _ => by go_simp)) hS ?_
  simp only [Act.put, List.setIfInBounds_toArray, List.set_cons_zero, List.set_cons_succ]
  refine wpAnyH_take (i := 10) (oi := ⟨some 4, _, _, _, _, _⟩) (v := .int .i64 (c.w1 / c.w0)) rfl (by kernel_rfl) (by kernel_rfl) (by kernel_rfl) (fun _ _ _ h => h) (yi_mv (Or.inr rfl) rfl rfl) hS ?_
  simp only [Act.put, List.setIfInBounds_toArray, List.set_cons_zero, List.set_cons_succ]
  refine wpAnyH_done (by kernel_rfl) ?_ _
  clear hS
  go_wp2_with fail
  go_ret
  exact ⟨rfl, HB.out⟩
set_option maxHeartbeats 4000000 in
set_option maxRecDepth 100000 in
theorem rfac_2 {c : Cf} (h : CfOk c) (w : World) : Calls Try.prog 15 #[.agg (cfA c), .int .i64 2] w fun e w' => e = .returned (.int .i64 (c.w2 / c.w1)) ∧ Below w.heap.size w w' := by
  obtain ⟨a0, A0⟩ := h.1.1.1.1
  obtain ⟨a1, A1⟩ := h.1.1.2.1.1
  obtain ⟨a2, A2⟩ := h.1.1.2.2.1
  have q2 : 0 ≤ c.w2 / c.w1 := Int.ediv_nonneg (by omega) (by omega)
  have Q2 : c.w2 / c.w1 ≤ c.w2 := Int.ediv_le_self _ (by omega)
  have N2 : ¬ c.w1 = 0 := by omega
  have P2 : 0 ≤ c.w2 := by omega
  have u2 : Int.tdiv c.w2 c.w1 = c.w2 / c.w1 := Int.tdiv_eq_ediv_of_nonneg P2
  have U2 : IntKind.i64.wrap (c.w2 / c.w1) = c.w2 / c.w1 := by rw [IntKind.wrap_i64]; omega
  have z0 : IntKind.i64.wrap 0 = 0 := by decide
  have z1 : IntKind.i64.wrap 1 = 1 := by decide
  have HC := Lib.hid h
  clear h
  have HB := Lib.hid (Below.refl w.heap.size w)
  go_enter Try.func15, Try.ntmps15
  go_wp2_with (first
      | ((with_reducible refine at_slot 2 ?_); refine wl_box (A := (cfA c)) rfl rfl rfl ?_; intro W1 g1 k1 hb hle; have L1 := Lib.hid (Nat.le_trans HB.out.size hle); replace HB := Lib.hid (below_tr HB.out hb); clear hb hle)
      | ((with_reducible refine at_slot 5 ?_); refine wl_ld0 rfl rfl rfl k1 Try.underlying25 rfl cfInfo ?_)
      | ((with_reducible refine at_slot 6 ?_); refine wl_call rfl rfl Try.func13 (by kernel_rfl) rfl (rck_yes HC.out _) rfl ?_; intro V1 hb; replace k1 := k1.keep hb; replace HB := Lib.hid (below_tr HB.out hb); clear hb))
  refine wp_region_held_drew (S := fun w' => Blk w' g1 25 (cfA c) ∧ Below w.heap.size w w') (by kernel_rfl) ⟨k1.drew, HB.out.drew⟩ (fun hS => ?_)
  clear k1
  have hS2 := hS
  obtain ⟨k1, hB⟩ := hS2
  replace HB := Lib.hid hB
  clear hB
  refine wpAnyH_take (i := 0) (oi := ⟨some 16, _, _, _, _, _⟩) (v := .int .i64 2) rfl (by kernel_rfl) (by kernel_rfl) (by kernel_rfl) (fun _ _ _ h => h) (yi_mv (Or.inl rfl) rfl rfl) hS ?_
  simp only [Act.put, List.setIfInBounds_toArray, List.set_cons_zero, List.set_cons_succ]
  refine wpAnyH_take (i := 1) (oi := ⟨some 17, _, _, _, _, _⟩) (v := .pointer (some ⟨g1, 1, none⟩)) rfl (by kernel_rfl) (by kernel_rfl) (by kernel_rfl) (fun _ _ _ h => h) (yi_ok rfl (fun _ => by go_simp)) hS ?_
  simp only [Act.put, List.setIfInBounds_toArray, List.set_cons_zero, List.set_cons_succ]
  refine wpAnyH_take (i := 2) (oi := ⟨some 18, _, _, _, _, _⟩) (v := .pointer (some ⟨g1, 3, none⟩)) rfl (by kernel_rfl) (by kernel_rfl) (by kernel_rfl) (fun _ _ _ h => h) (yi_ok rfl (fun _ => by go_simp)) hS ?_
  simp only [Act.put, List.setIfInBounds_toArray, List.set_cons_zero, List.set_cons_succ]
  refine wpAnyH_take (i := 3) (oi := ⟨some 19, _, _, _, _, _⟩) (v := .int .i64 c.w2) rfl (by kernel_rfl) (by kernel_rfl) (by kernel_rfl) (fun _ _ _ h => h) (yi_ld1 (v := .int .i64 c.w2) rfl rfl rfl (fun w' h => h.1) Try.underlying2 rfl rfl) hS ?_
  simp only [Act.put, List.setIfInBounds_toArray, List.set_cons_zero, List.set_cons_succ]
  refine wpAnyH_take (i := 4) (oi := ⟨some 20, _, _, _, _, _⟩) (v := .int .i64 2) rfl (by kernel_rfl) (by kernel_rfl) (by kernel_rfl) (fun _ _ _ h => h) (yi_mv (Or.inl rfl) rfl rfl) hS ?_
  simp only [Act.put, List.setIfInBounds_toArray, List.set_cons_zero, List.set_cons_succ]
  refine wpAnyH_take (i := 5) (oi := ⟨some 21, _, _, _, _, _⟩) (v := .int .i64 1) rfl (by kernel_rfl) (by kernel_rfl) (by kernel_rfl) (fun _ _ _ h => h) (yi_ok rfl (fun _ => by go_simp)) hS ?_
  simp only [Act.put, List.setIfInBounds_toArray, List.set_cons_zero, List.set_cons_succ]
  refine wpAnyH_take (i := 6) (oi := ⟨some 22, _, _, _, _, _⟩) (v := .pointer (some ⟨g1, 1, none⟩)) rfl (by kernel_rfl) (by kernel_rfl) (by kernel_rfl) (fun _ _ _ h => h) (yi_ok rfl (fun _ => by go_simp)) hS ?_
  simp only [Act.put, List.setIfInBounds_toArray, List.set_cons_zero, List.set_cons_succ]
  refine wpAnyH_take (i := 7) (oi := ⟨some 23, _, _, _, _, _⟩) (v := .pointer (some ⟨g1, 2, none⟩)) rfl (by kernel_rfl) (by kernel_rfl) (by kernel_rfl) (fun _ _ _ h => h) (yi_ok rfl (fun _ => by go_simp)) hS ?_
  simp only [Act.put, List.setIfInBounds_toArray, List.set_cons_zero, List.set_cons_succ]
  refine wpAnyH_take (i := 8) (oi := ⟨some 24, _, _, _, _, _⟩) (v := .int .i64 c.w1) rfl (by kernel_rfl) (by kernel_rfl) (by kernel_rfl) (fun _ _ _ h => h) (yi_ld1 (v := .int .i64 c.w1) rfl rfl rfl (fun w' h => h.1) Try.underlying2 rfl rfl) hS ?_
  simp only [Act.put, List.setIfInBounds_toArray, List.set_cons_zero, List.set_cons_succ]
  refine wpAnyH_take (i := 9) (oi := ⟨some 25, _, _, _, _, _⟩) (v := .int .i64 (c.w2 / c.w1)) rfl (by kernel_rfl) (by kernel_rfl) (by kernel_rfl) (fun _ _ _ h => h) (yi_ok rfl (fun _ => by go_simp)) hS ?_
  simp only [Act.put, List.setIfInBounds_toArray, List.set_cons_zero, List.set_cons_succ]
  refine wpAnyH_take (i := 10) (oi := ⟨some 4, _, _, _, _, _⟩) (v := .int .i64 (c.w2 / c.w1)) rfl (by kernel_rfl) (by kernel_rfl) (by kernel_rfl) (fun _ _ _ h => h) (yi_mv (Or.inr rfl) rfl rfl) hS ?_
  simp only [Act.put, List.setIfInBounds_toArray, List.set_cons_zero, List.set_cons_succ]
  refine wpAnyH_done (by kernel_rfl) ?_ _
  clear hS
  go_wp2_with fail
  go_ret
  exact ⟨rfl, HB.out⟩
theorem rfac_any (c : Cf) (t : Int) (w : World) : Calls Try.prog 15 #[.agg (cfA c), .int .i64 t] w fun e w' => e = .returned (.int .i64 (facI c t)) ∧ Below w.heap.size w w' := by
  unfold facI
  by_cases h : CfOk c
  · rw [if_pos h]
    by_cases h1 : t = 1
    · subst h1; exact rfac_1 h w
    · rw [if_neg h1]
      by_cases h2 : t = 2
      · subst h2; exact rfac_2 h w
      · rw [if_neg h2]
        by_cases h0 : t < 1
        · exact rfac_lo h h0 w
        · exact rfac_hi h (by omega) (by omega) w
  · rw [if_neg h]; exact rfac_no h w
end Go.Proofs.Yticmkepocacmhaa
