/-
  WALKS: plimsollref02.Check; the package-level variable plimsollref02.one.
-/
import Derived.Test.YtnbchhjanlpdlaaDoorQb
namespace Go.Proofs.YtnbchhjanlpdlaaDoor
open Go Go.RowKit

/-- The variable reads 1. -/
structure OneW (w : World) : Prop where
  c0 : w.cell? ⟨0, 0, none⟩ = some (.int .u64 0)
  c1 : w.cell? ⟨0, 1, none⟩ = some (.int .u64 1)
  lt : 0 < w.heap.size
theorem OneW.keep {w w' : World} (h : OneW w) (hb : Below w.heap.size w w') : OneW w' :=
  ⟨by rw [hb.cell (p := ⟨0, 0, none⟩) h.lt]; exact h.c0, by rw [hb.cell (p := ⟨0, 1, none⟩) h.lt]; exact h.c1, Nat.lt_of_lt_of_le h.lt hb.size⟩

set_option maxHeartbeats 4000000 in
set_option maxRecDepth 100000 in
theorem rcheck (n d : U) (w : World) (hone : OneW w) :
    Calls Tryd.prog 35 #[.agg #[.int .u64 (hiZ n), .int .u64 (loZ n), .int .u64 (hiZ d), .int .u64 (loZ d)]] w fun e w' => e = .returned (.int .i64 (checkE n d)) ∧ Below w.heap.size w w' := by
  have HO := Lib.hid hone
  clear hone
  obtain ⟨w0, hw0⟩ : ∃ x, x = w.alloc (.cells #[.int .u64 (hiZ n), .int .u64 (loZ n), .int .u64 (hiZ d), .int .u64 (loZ d)] 41) := ⟨_, rfl⟩
  obtain ⟨g, hg⟩ : ∃ x, x = w.heap.size := ⟨_, rfl⟩
  have B0 : Below w.heap.size w w0 := by rw [hw0]; exact (show Below w.heap.size w _ by go_grown)
  have K0 : Blk4 w0.drew g (hiZ n) (loZ n) (hiZ d) (loZ d) := by rw [hw0]; exact (Blk4.new_at _ _ hg).drew
  have O0 : OneW w0.drew := (HO.out.keep B0).keep (Below.refl _ _).drew
  have B1 : Below w.heap.size w w0.drew := B0.drew
  by_cases hd : d.n = 0
  · have hE : checkE n d = 2 := by unfold checkE redB; rw [if_neg (by simp [hd])]
    have HE := Lib.hid hE
    have he := eql_yes (x := hiZ d) (y := loZ d) (x' := 0) (y' := 0) ((zero_iff d).2 hd).1 ((zero_iff d).2 hd).2
    clear hd hE O0 HO
    have K := Lib.hid (show Blk4 w0 g (hiZ n) (loZ n) (hiZ d) (loZ d) by rw [hw0]; exact Blk4.new_at _ _ hg)
    go_enter Tryd.func35, Tryd.ntmps35
    go_upto_region 1 with fail
    rw [← hw0, ← hg]
    have HBZ := Lib.hid B0
    clear hw0 hg B0 K0
    have HB1 := Lib.hid HBZ.out
    clear B1 HBZ
    have e0 := K.out.c0
    have e1 := K.out.c1
    have e2 := K.out.c2
    have e3 := K.out.c3
    go_quiet (fail)
    go_wp2_with fail
    go_ret
    exact ⟨by rw [HE.out]; rfl, bdn HB1.out⟩
  · have he := eql_no (x := hiZ d) (y := loZ d) (x' := 0) (y' := 0) (fun h => hd ((zero_iff d).1 h))
    by_cases h1 : Nat.gcd n.n d.n = 1
    · have hE : checkE n d = 0 := by unfold checkE redB; rw [if_pos (by simp [hd, h1])]
      have hq := neq_no (x := hiZ (gcdW n d)) (y := loZ (gcdW n d)) (x' := 0) (y' := 1) (by have : (gcdW n d).n = 1 := h1; unfold hiZ; omega) (by have : (gcdW n d).n = 1 := h1; unfold loZ; omega)
      have HE := Lib.hid hE
      clear hE hd h1
      go_enter Tryd.func35, Tryd.ntmps35
      go_upto_region 1 with fail
      rw [← hw0, ← hg]
      clear hw0 hg B0
      have e0 := K0.c0
      have e1 := K0.c1
      have e2 := K0.c2
      have e3 := K0.c3
      have o0 := O0.c0
      have o1 := O0.c1
      go_region_held3 (fun w' => w'.cell? ⟨g, 0, none⟩ = some (.int .u64 (hiZ n)) ∧ w'.cell? ⟨g, 1, none⟩ = some (.int .u64 (loZ n)) ∧ w'.cell? ⟨g, 2, none⟩ = some (.int .u64 (hiZ d)) ∧ w'.cell? ⟨g, 3, none⟩ = some (.int .u64 (loZ d)) ∧ w'.cell? ⟨0, 0, none⟩ = some (.int .u64 0) ∧ w'.cell? ⟨0, 1, none⟩ = some (.int .u64 1)) (exact ⟨by assumption, by assumption, by assumption, by assumption, by assumption, by assumption⟩) ((go_at_call 33; refine (rgcd n d _).mono ?_; rintro e wx ⟨rfl, hbx⟩; have kx := Blk4.keep (by assumption) hbx; have ox := OneW.keep (by assumption) hbx; have ux : Below w.heap.size w wx := below_of (by assumption) hbx; clear hbx; have f0 := kx.c0; have f1 := kx.c1; have f2 := kx.c2; have f3 := kx.c3; have p0 := ox.c0; have p1 := ox.c1))
      all_goals
        go_wp2_with fail
        go_ret
        exact ⟨by rw [HE.out]; rfl, by assumption⟩
    · have hE : checkE n d = 2 := by unfold checkE redB; rw [if_neg (by simp [h1])]
      have hgn : (gcdW n d).n ≠ 1 := h1
      have hq := neq_yes (x := hiZ (gcdW n d)) (y := loZ (gcdW n d)) (x' := 0) (y' := 1) (fun h => hgn (by
        have hv := (gcdW n d).val
        rw [h.1, h.2] at hv
        omega))
      clear hgn
      have HE := Lib.hid hE
      clear hE hd h1
      go_enter Tryd.func35, Tryd.ntmps35
      go_upto_region 1 with fail
      rw [← hw0, ← hg]
      clear hw0 hg B0
      have e0 := K0.c0
      have e1 := K0.c1
      have e2 := K0.c2
      have e3 := K0.c3
      have o0 := O0.c0
      have o1 := O0.c1
      go_region_held3 (fun w' => w'.cell? ⟨g, 0, none⟩ = some (.int .u64 (hiZ n)) ∧ w'.cell? ⟨g, 1, none⟩ = some (.int .u64 (loZ n)) ∧ w'.cell? ⟨g, 2, none⟩ = some (.int .u64 (hiZ d)) ∧ w'.cell? ⟨g, 3, none⟩ = some (.int .u64 (loZ d)) ∧ w'.cell? ⟨0, 0, none⟩ = some (.int .u64 0) ∧ w'.cell? ⟨0, 1, none⟩ = some (.int .u64 1)) (exact ⟨by assumption, by assumption, by assumption, by assumption, by assumption, by assumption⟩) ((go_at_call 33; refine (rgcd n d _).mono ?_; rintro e wx ⟨rfl, hbx⟩; have kx := Blk4.keep (by assumption) hbx; have ox := OneW.keep (by assumption) hbx; have ux : Below w.heap.size w wx := below_of (by assumption) hbx; clear hbx; have f0 := kx.c0; have f1 := kx.c1; have f2 := kx.c2; have f3 := kx.c3; have p0 := ox.c0; have p1 := ox.c1))
      all_goals
        go_wp2_with fail
        go_ret
        exact ⟨by rw [HE.out]; rfl, by assumption⟩
end Go.Proofs.YtnbchhjanlpdlaaDoor
