/-
  WALKS: ratio.divide: how often one number of 128 bits goes into another one, and what is left.
-/
import Derived.Test.YtnbchhjanlpdlaaDoorParse
import Derived.Test.YtnbchhjanlpdlaaDoorRatMath
import Derived.Deep.RegionHeld3
import Derived.RegionTactic
import Derived.ChangeAlike
namespace Go.Proofs.YtnbchhjanlpdlaaDoor
open Go Go.RowKit

theorem ww_eq {h l h2 l2 h' l' h2' l2' : Int} (e1 : h = h') (e2 : l = l') (e3 : h2 = h2') (e4 : l2 = l2') :
    Ending.returned (.tuple #[.agg #[.int .u64 h, .int .u64 l], .agg #[.int .u64 h2, .int .u64 l2]]) = Ending.returned (.tuple #[.agg #[.int .u64 h', .int .u64 l'], .agg #[.int .u64 h2', .int .u64 l2']]) := by rw [e1, e2, e3, e4]
theorem wdiv_z {a : U} {k : Nat} {kz : Int} (hz : kz = (k : Int)) (hk0 : 0 < k) (hk : k < 18446744073709551616) (w : World) :
    Calls Tryd.prog 13 #[.agg #[.int .u64 (hiZ a), .int .u64 (loZ a)], .int .u64 kz] w fun e w' =>
      e = .returned (.tuple #[.agg #[.int .u64 (hiZ (divU a k)), .int .u64 (loZ (divU a k))], .int .u64 (remZ a k), .int .i64 0]) ∧ Below w.heap.size w w' := by
  subst hz
  exact wdiv_any a k hk0 hk w

set_option maxHeartbeats 4000000 in
set_option maxRecDepth 100000 in
theorem divide_lo (a b : U) (hb0 : b.n ≠ 0) (hb : b.n < 18446744073709551616) (w : World) :
    Calls Tryd.prog 48 #[.agg #[.int .u64 (hiZ a), .int .u64 (loZ a)], .agg #[.int .u64 (hiZ b), .int .u64 (loZ b)]] w fun e w' =>
      e = .returned (.tuple #[.agg #[.int .u64 (hiZ (divW a b)), .int .u64 (loZ (divW a b))], .agg #[.int .u64 (hiZ (modW a b)), .int .u64 (loZ (modW a b))]]) ∧ Below w.heap.size w w' := by
  have tE : (hiZ b == 0) = true := by
    have : hiZ b = 0 := by unfold hiZ; omega
    simpa using this
  have hlo : loZ b = (b.n : Int) := by unfold loZ; omega
  have HLO := Lib.hid hlo
  clear hlo
  go_enter Tryd.func48, Tryd.ntmps48
  go_wp2_with fail
  refine (wdiv_z HLO.out (by omega) hb _).mono ?_
  rintro e w1 ⟨rfl, hb1⟩
  have B1 : Below w.heap.size w w1 := (by refine below_of ?_ hb1; go_grown)
  have kr : Blk2 w1 (w.heap.size + 1 + 1) 0 0 := (by refine Blk2.keep ?_ hb1; repeat' (first | (with_reducible assumption) | ((with_reducible refine Blk2.new_at _ _ ?_); (simp; done)) | (with_reducible refine Blk2.drew ?_) | (with_reducible refine Blk2.alloc ?_ _)))
  have ks : Blk2 w1 (w.heap.size + 1 + 1 + 1) 0 0 := (by refine Blk2.keep ?_ hb1; repeat' (first | (with_reducible assumption) | ((with_reducible refine Blk2.new_at _ _ ?_); (simp; done)) | (with_reducible refine Blk2.drew ?_) | (with_reducible refine Blk2.alloc ?_ _)))
  have z1 := B1.size
  have cr := kr.c0; have dr := kr.c1; have fr := kr.f0; have gr := kr.f1; have lr := kr.lt
  have cs := ks.c0; have ds := ks.c1; have fs := ks.f0; have gs := ks.f1; have ls := ks.lt
  clear hb1
  go_wp2_with fail
  have hm0 : hiZ (modW a b) = 0 ∧ loZ (modW a b) = remZ a b.n := by
    refine halves_of ?_ ?_ ?_
    · show ((a.n % b.n : Nat) : Int) = _
      unfold remZ
      omega
    · exact (remZ_lt a b.n (by omega)).1
    · have := (remZ_lt a b.n (by omega)).2; omega
  have HM := Lib.hid hm0
  clear hm0
  have i2 : w.heap.size ≤ w.heap.size + 1 + 1 := by omega
  have i3 : w.heap.size ≤ w.heap.size + 1 + 1 + 1 := by omega
  have i4 : w.heap.size + 1 + 1 ≠ w.heap.size + 1 + 1 + 1 := by omega
  generalize w.heap.size + 1 + 1 + 1 = g3 at *
  generalize w.heap.size + 1 + 1 = g2 at *
  go_region_with ((go_at_call 18; refine (of_any _ _).mono ?_; rintro e w7 ⟨rfl, rfl⟩))
  all_goals
    have q2 := (((kr.set (hiZ (divU a b.n)) (loZ (divU a b.n))).other ⟨g3, 0, none⟩ (.int .u64 0) i4).other ⟨g3, 1, none⟩ (.int .u64 (remZ a b.n)) i4)
    have q3 := (((ks.other ⟨g2, 0, none⟩ (.int .u64 (hiZ (divU a b.n))) i4.symm).other ⟨g2, 1, none⟩ (.int .u64 (loZ (divU a b.n))) i4.symm).set 0 (remZ a b.n))
    have q2' := ((q2.alloc (.cells #[.int .u64 (hiZ (divU a b.n)), .int .u64 (loZ (divU a b.n))] 24)).alloc (.cells #[.int .u64 0, .int .u64 (remZ a b.n)] 24)).drew
    have q3' := ((q3.alloc (.cells #[.int .u64 (hiZ (divU a b.n)), .int .u64 (loZ (divU a b.n))] 24)).alloc (.cells #[.int .u64 0, .int .u64 (remZ a b.n)] 24)).drew
    have u0 := q2'.c0; have u1 := q2'.c1; have u2 := q3'.c0; have u3 := q3'.c1
    clear q2 q3 q2' q3'
    have U0 := Lib.hid u0; have U1 := Lib.hid u1; have U2 := Lib.hid u2; have U3 := Lib.hid u3
    clear u0 u1 u2 u3
    go_wp2_with fail
    have u0 := U0.out; have u1 := U1.out; have u2 := U2.out; have u3 := U3.out
    refine bodyPost_ret (v := .tuple #[.agg #[.int .u64 (hiZ (divU a b.n)), .int .u64 (loZ (divU a b.n))], .agg #[.int .u64 0, .int .u64 (remZ a b.n)]]) (by simp [results, Tryd.results48, go_sem, u0, u1, u2, u3]) rfl ?_
    exact ⟨ww_eq rfl rfl HM.out.1.symm HM.out.2.symm, by go_grown⟩

end Go.Proofs.YtnbchhjanlpdlaaDoor
