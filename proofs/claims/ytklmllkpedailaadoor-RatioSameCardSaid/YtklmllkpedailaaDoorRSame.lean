/-
  WALKS: plimsolllaw02.RatioSame: it answers true.
-/
import Derived.Test.YtklmllkpedailaaDoorLives2
import Derived.Deep.RegionHeld3
namespace Go.Proofs.YtklmllkpedailaaDoor
open Go Go.RowKit

theorem rs_parts {a b : U} (hb : b.n ≠ 0) : (redN a b).n * (gcdW a b).n = a.n ∧ (redD a b).n * (gcdW a b).n = b.n ∧ (gcdW a b).n ≠ 0 ∧ checkE (redN a b) (redD a b) = 0 := by
  have hg : Nat.gcd a.n b.n ≠ 0 := gcd_pos hb
  have h1 : (redN a b).n * (gcdW a b).n = a.n := Nat.div_mul_cancel (Nat.gcd_dvd_left a.n b.n)
  have h2 : (redD a b).n * (gcdW a b).n = b.n := Nat.div_mul_cancel (Nat.gcd_dvd_right a.n b.n)
  refine ⟨h1, h2, hg, ?_⟩
  have h3 : (redD a b).n ≠ 0 := by intro h; rw [h] at h2; omega
  have h4 : Nat.gcd (redN a b).n (redD a b).n = 1 := Nat.gcd_div_gcd_div_gcd_of_pos_right (Nat.pos_of_ne_zero hb)
  unfold checkE redB
  rw [if_pos (decide_eq_true ⟨h3, h4⟩)]
theorem rs_times {x g : U} {a : U} (h : x.n * g.n = a.n) (hg : hiZ g = 0) (w : World) :
    Calls Tryd.prog 17 #[.agg #[.int .u64 (hiZ x), .int .u64 (loZ x)], .int .u64 (loZ g)] w fun e w' => e = .returned (.tuple #[.agg #[.int .u64 (hiZ a), .int .u64 (loZ a)], .int .i64 0]) ∧ Below w.heap.size w w' := by
  obtain ⟨e1, e2⟩ := lo_of hg
  have hl := a.lt
  rw [e1]
  refine (times_any x g.n e2 w).mono ?_
  rintro e w' ⟨rfl, hb⟩
  have e3 : timesU x g.n = a := by unfold timesU; rw [h]; exact U.ext (cutU_n hl)
  have e4 : timesE x g.n = 0 := by unfold timesE; rw [h]; exact cutE_lt hl
  exact ⟨we_eq' (congrArg hiZ e3) (congrArg loZ e3) e4, hb⟩
theorem rs_check {x y : U} (h : checkE x y = 0) (w : World) :
    Calls Tryd.prog 40 #[.agg #[.int .u64 (hiZ x), .int .u64 (loZ x), .int .u64 (hiZ y), .int .u64 (loZ y)]] w fun e w' => e = .returned (.int .i64 0) ∧ Below w.heap.size w w' := by
  refine (check_any x y w).mono ?_
  rintro e w' ⟨rfl, hb⟩
  exact ⟨i_eq h.symm, hb⟩
theorem rs_same {a b : U} {k : Nat} (hb : b.n ≠ 0) (hk : k ≠ 0) (ha' : a.n * k < 340282366920938463463374607431768211456) (hb' : b.n * k < 340282366920938463463374607431768211456) :
    (timesU b k).n ≠ 0 ∧ redN (timesU a k) (timesU b k) = redN a b ∧ redD (timesU a k) (timesU b k) = redD a b := by
  have e1 : (timesU a k).n = a.n * k := cutU_n ha'
  have e2 : (timesU b k).n = b.n * k := cutU_n hb'
  have hk' : 0 < k := Nat.pos_of_ne_zero hk
  refine ⟨?_, U.ext ?_, U.ext ?_⟩
  · rw [e2]; exact Nat.mul_ne_zero hb hk
  · show (timesU a k).n / Nat.gcd (timesU a k).n (timesU b k).n = a.n / Nat.gcd a.n b.n
    rw [e1, e2, Nat.gcd_mul_right]
    exact Nat.mul_div_mul_right _ _ hk'
  · show (timesU b k).n / Nat.gcd (timesU a k).n (timesU b k).n = b.n / Nat.gcd a.n b.n
    rw [e1, e2, Nat.gcd_mul_right]
    exact Nat.mul_div_mul_right _ _ hk'
theorem rs_reduce {c d a b : U} (hd : d.n ≠ 0) (h1 : redN c d = redN a b) (h2 : redD c d = redD a b) (w : World) :
    Calls Tryd.prog 31 #[.agg #[.int .u64 (hiZ c), .int .u64 (loZ c)], .agg #[.int .u64 (hiZ d), .int .u64 (loZ d)]] w fun e w' => e = .returned (.tuple #[.agg #[.int .u64 (hiZ (redN a b)), .int .u64 (loZ (redN a b)), .int .u64 (hiZ (redD a b)), .int .u64 (loZ (redD a b))], .int .i64 0]) ∧ Below w.heap.size w w' := by
  rw [← h1, ← h2]
  exact reduce_any c d hd w

set_option maxHeartbeats 8000000 in
set_option maxRecDepth 100000 in
theorem rsame_zero (a b : U) (k : Nat) (hk : k < 18446744073709551616) (w : World) (htab : tabs w) (hb : b.n = 0) :
    Calls Tryd.prog 9 #[.agg #[.int .u64 (hiZ a), .int .u64 (loZ a)], .agg #[.int .u64 (hiZ b), .int .u64 (loZ b)], .int .u64 k] w fun e w' => e = .returned (.bool true) ∧ Below w.heap.size w w' := by
  have HT := Lib.hid htab
  have HK := Lib.hid hk
  clear htab hk
  have he := eql_yes (x := hiZ b) (y := loZ b) (x' := 0) (y' := 0) ((zero_iff b).2 hb).1 ((zero_iff b).2 hb).2
  have HB := Lib.hid hb
  clear hb
  go_enter Tryd.func9, Tryd.ntmps9
  go_wp2_with fail
  have ka0 : Blk2 ((w.alloc (.cells #[.int .u64 (hiZ a), .int .u64 (loZ a)] 24)).alloc (.cells #[.int .u64 (hiZ b), .int .u64 (loZ b)] 24)) (w.heap.size) (hiZ a) (loZ a) := (by repeat' (first | (with_reducible assumption) | ((with_reducible refine Blk2.new_at _ _ ?_); (simp; done)) | ((with_reducible refine Blk4.new_at _ _ ?_); (simp; done)) | (with_reducible refine Blk2.drew ?_) | (with_reducible refine Blk2.drewN ?_) | (with_reducible refine Blk2.alloc ?_ _) | (with_reducible refine Blk4.drew ?_) | (with_reducible refine Blk4.drewN ?_) | (with_reducible refine Blk4.alloc ?_ _)))
  have kb0 : Blk2 ((w.alloc (.cells #[.int .u64 (hiZ a), .int .u64 (loZ a)] 24)).alloc (.cells #[.int .u64 (hiZ b), .int .u64 (loZ b)] 24)) (w.heap.size + 1) (hiZ b) (loZ b) := (by repeat' (first | (with_reducible assumption) | ((with_reducible refine Blk2.new_at _ _ ?_); (simp; done)) | ((with_reducible refine Blk4.new_at _ _ ?_); (simp; done)) | (with_reducible refine Blk2.drew ?_) | (with_reducible refine Blk2.drewN ?_) | (with_reducible refine Blk2.alloc ?_ _) | (with_reducible refine Blk4.drew ?_) | (with_reducible refine Blk4.drewN ?_) | (with_reducible refine Blk4.alloc ?_ _)))
  have B0 : Below w.heap.size w ((w.alloc (.cells #[.int .u64 (hiZ a), .int .u64 (loZ a)] 24)).alloc (.cells #[.int .u64 (hiZ b), .int .u64 (loZ b)] 24)) := (by go_grown)
  have o1 : w.heap.size < w.heap.size + 1 := by omega
  generalize w.heap.size + 1 = g1 at *
  generalize ((w.alloc (.cells #[.int .u64 (hiZ a), .int .u64 (loZ a)] 24)).alloc (.cells #[.int .u64 (hiZ b), .int .u64 (loZ b)] 24)) = w0 at *
  have z0 := B0.size
  have ca0 := ka0.c0; have da0 := ka0.c1; have fa0 := ka0.f0; have ga0 := ka0.f1; have la0 := ka0.lt
  have cb0 := kb0.c0; have db0 := kb0.c1; have fb0 := kb0.f0; have gb0 := kb0.f1; have lb0 := kb0.lt
  refine (lives2_any _ (tabs_stays HT.out (by go_grown))).mono ?_
  rintro e w1 ⟨rfl, hb1⟩
  have B1 : Below w.heap.size w w1 := (by refine below_of ?_ hb1; go_grown)
  have ka1 : Blk2 w1 (w.heap.size) (hiZ a) (loZ a) := (by refine Blk2.keep ?_ hb1; repeat' (first | (with_reducible assumption) | ((with_reducible refine Blk2.new_at _ _ ?_); (simp; done)) | ((with_reducible refine Blk4.new_at _ _ ?_); (simp; done)) | (with_reducible refine Blk2.drew ?_) | (with_reducible refine Blk2.drewN ?_) | (with_reducible refine Blk2.alloc ?_ _) | (with_reducible refine Blk4.drew ?_) | (with_reducible refine Blk4.drewN ?_) | (with_reducible refine Blk4.alloc ?_ _)))
  have kb1 : Blk2 w1 (g1) (hiZ b) (loZ b) := (by refine Blk2.keep ?_ hb1; repeat' (first | (with_reducible assumption) | ((with_reducible refine Blk2.new_at _ _ ?_); (simp; done)) | ((with_reducible refine Blk4.new_at _ _ ?_); (simp; done)) | (with_reducible refine Blk2.drew ?_) | (with_reducible refine Blk2.drewN ?_) | (with_reducible refine Blk2.alloc ?_ _) | (with_reducible refine Blk4.drew ?_) | (with_reducible refine Blk4.drewN ?_) | (with_reducible refine Blk4.alloc ?_ _)))
  clear hb1 B0 z0 ka0 ca0 da0 fa0 ga0 la0 kb0 cb0 db0 fb0 gb0 lb0
  have z1 := B1.size
  have ca1 := ka1.c0; have da1 := ka1.c1; have fa1 := ka1.f0; have ga1 := ka1.f1; have la1 := ka1.lt
  have cb1 := kb1.c0; have db1 := kb1.c1; have fb1 := kb1.f0; have gb1 := kb1.f1; have lb1 := kb1.lt
  go_wp2_with fail
  refine (reduce_zero a b HB.out _).mono ?_
  rintro e w2 ⟨rfl, hb2⟩
  have B2 : Below w.heap.size w w2 := (by refine below_of ?_ hb2; go_grown)
  have ka2 : Blk2 w2 (w.heap.size) (hiZ a) (loZ a) := (by refine Blk2.keep ?_ hb2; repeat' (first | (with_reducible assumption) | ((with_reducible refine Blk2.new_at _ _ ?_); (simp; done)) | ((with_reducible refine Blk4.new_at _ _ ?_); (simp; done)) | (with_reducible refine Blk2.drew ?_) | (with_reducible refine Blk2.drewN ?_) | (with_reducible refine Blk2.alloc ?_ _) | (with_reducible refine Blk4.drew ?_) | (with_reducible refine Blk4.drewN ?_) | (with_reducible refine Blk4.alloc ?_ _)))
  have kb2 : Blk2 w2 (g1) (hiZ b) (loZ b) := (by refine Blk2.keep ?_ hb2; repeat' (first | (with_reducible assumption) | ((with_reducible refine Blk2.new_at _ _ ?_); (simp; done)) | ((with_reducible refine Blk4.new_at _ _ ?_); (simp; done)) | (with_reducible refine Blk2.drew ?_) | (with_reducible refine Blk2.drewN ?_) | (with_reducible refine Blk2.alloc ?_ _) | (with_reducible refine Blk4.drew ?_) | (with_reducible refine Blk4.drewN ?_) | (with_reducible refine Blk4.alloc ?_ _)))
  clear hb2 B1 z1 ka1 ca1 da1 fa1 ga1 la1 kb1 cb1 db1 fb1 gb1 lb1
  have z2 := B2.size
  have ca2 := ka2.c0; have da2 := ka2.c1; have fa2 := ka2.f0; have ga2 := ka2.f1; have la2 := ka2.lt
  have cb2 := kb2.c0; have db2 := kb2.c1; have fb2 := kb2.f0; have gb2 := kb2.f1; have lb2 := kb2.lt
  go_wp2_with fail
  go_ret
  exact ⟨rfl, by go_grown⟩
set_option maxHeartbeats 8000000 in
set_option maxRecDepth 100000 in
theorem rsame_g_n0 (a b : U) (k : Nat) (hk : k < 18446744073709551616) (w : World) (htab : tabs w) (hb : b.n ≠ 0) (hg : hiZ (gcdW a b) = 0) (hk0 : k = 0) :
    Calls Tryd.prog 9 #[.agg #[.int .u64 (hiZ a), .int .u64 (loZ a)], .agg #[.int .u64 (hiZ b), .int .u64 (loZ b)], .int .u64 k] w fun e w' => e = .returned (.bool true) ∧ Below w.heap.size w w' := by
  have HT := Lib.hid htab
  have HK := Lib.hid hk
  clear htab hk
  have tk : ((k : Int) == 0) = true := by simp; omega
  clear hk0
  have HR := Lib.hid (rs_parts (a := a) hb)
  have HB := Lib.hid hb
  have tg : (hiZ (gcdW a b) == 0) = true := by simpa using hg
  have HG := Lib.hid hg
  clear hb hg
  go_enter Tryd.func9, Tryd.ntmps9
  go_wp2_with fail
  have ka0 : Blk2 ((w.alloc (.cells #[.int .u64 (hiZ a), .int .u64 (loZ a)] 24)).alloc (.cells #[.int .u64 (hiZ b), .int .u64 (loZ b)] 24)) (w.heap.size) (hiZ a) (loZ a) := (by repeat' (first | (with_reducible assumption) | ((with_reducible refine Blk2.new_at _ _ ?_); (simp; done)) | ((with_reducible refine Blk4.new_at _ _ ?_); (simp; done)) | (with_reducible refine Blk2.drew ?_) | (with_reducible refine Blk2.drewN ?_) | (with_reducible refine Blk2.alloc ?_ _) | (with_reducible refine Blk4.drew ?_) | (with_reducible refine Blk4.drewN ?_) | (with_reducible refine Blk4.alloc ?_ _)))
  have kb0 : Blk2 ((w.alloc (.cells #[.int .u64 (hiZ a), .int .u64 (loZ a)] 24)).alloc (.cells #[.int .u64 (hiZ b), .int .u64 (loZ b)] 24)) (w.heap.size + 1) (hiZ b) (loZ b) := (by repeat' (first | (with_reducible assumption) | ((with_reducible refine Blk2.new_at _ _ ?_); (simp; done)) | ((with_reducible refine Blk4.new_at _ _ ?_); (simp; done)) | (with_reducible refine Blk2.drew ?_) | (with_reducible refine Blk2.drewN ?_) | (with_reducible refine Blk2.alloc ?_ _) | (with_reducible refine Blk4.drew ?_) | (with_reducible refine Blk4.drewN ?_) | (with_reducible refine Blk4.alloc ?_ _)))
  have B0 : Below w.heap.size w ((w.alloc (.cells #[.int .u64 (hiZ a), .int .u64 (loZ a)] 24)).alloc (.cells #[.int .u64 (hiZ b), .int .u64 (loZ b)] 24)) := (by go_grown)
  have o1 : w.heap.size < w.heap.size + 1 := by omega
  generalize w.heap.size + 1 = g1 at *
  generalize ((w.alloc (.cells #[.int .u64 (hiZ a), .int .u64 (loZ a)] 24)).alloc (.cells #[.int .u64 (hiZ b), .int .u64 (loZ b)] 24)) = w0 at *
  have z0 := B0.size
  have ca0 := ka0.c0; have da0 := ka0.c1; have fa0 := ka0.f0; have ga0 := ka0.f1; have la0 := ka0.lt
  have cb0 := kb0.c0; have db0 := kb0.c1; have fb0 := kb0.f0; have gb0 := kb0.f1; have lb0 := kb0.lt
  refine (lives2_any _ (tabs_stays HT.out (by go_grown))).mono ?_
  rintro e w1 ⟨rfl, hb1⟩
  have B1 : Below w.heap.size w w1 := (by refine below_of ?_ hb1; go_grown)
  have ka1 : Blk2 w1 (w.heap.size) (hiZ a) (loZ a) := (by refine Blk2.keep ?_ hb1; repeat' (first | (with_reducible assumption) | ((with_reducible refine Blk2.new_at _ _ ?_); (simp; done)) | ((with_reducible refine Blk4.new_at _ _ ?_); (simp; done)) | (with_reducible refine Blk2.drew ?_) | (with_reducible refine Blk2.drewN ?_) | (with_reducible refine Blk2.alloc ?_ _) | (with_reducible refine Blk4.drew ?_) | (with_reducible refine Blk4.drewN ?_) | (with_reducible refine Blk4.alloc ?_ _)))
  have kb1 : Blk2 w1 (g1) (hiZ b) (loZ b) := (by refine Blk2.keep ?_ hb1; repeat' (first | (with_reducible assumption) | ((with_reducible refine Blk2.new_at _ _ ?_); (simp; done)) | ((with_reducible refine Blk4.new_at _ _ ?_); (simp; done)) | (with_reducible refine Blk2.drew ?_) | (with_reducible refine Blk2.drewN ?_) | (with_reducible refine Blk2.alloc ?_ _) | (with_reducible refine Blk4.drew ?_) | (with_reducible refine Blk4.drewN ?_) | (with_reducible refine Blk4.alloc ?_ _)))
  clear hb1 B0 z0 ka0 ca0 da0 fa0 ga0 la0 kb0 cb0 db0 fb0 gb0 lb0
  have z1 := B1.size
  have ca1 := ka1.c0; have da1 := ka1.c1; have fa1 := ka1.f0; have ga1 := ka1.f1; have la1 := ka1.lt
  have cb1 := kb1.c0; have db1 := kb1.c1; have fb1 := kb1.f0; have gb1 := kb1.f1; have lb1 := kb1.lt
  go_wp2_with fail
  refine (reduce_any a b HB.out _).mono ?_
  rintro e w2 ⟨rfl, hb2⟩
  have B2 : Below w.heap.size w w2 := (by refine below_of ?_ hb2; go_grown)
  have ka2 : Blk2 w2 (w.heap.size) (hiZ a) (loZ a) := (by refine Blk2.keep ?_ hb2; repeat' (first | (with_reducible assumption) | ((with_reducible refine Blk2.new_at _ _ ?_); (simp; done)) | ((with_reducible refine Blk4.new_at _ _ ?_); (simp; done)) | (with_reducible refine Blk2.drew ?_) | (with_reducible refine Blk2.drewN ?_) | (with_reducible refine Blk2.alloc ?_ _) | (with_reducible refine Blk4.drew ?_) | (with_reducible refine Blk4.drewN ?_) | (with_reducible refine Blk4.alloc ?_ _)))
  have kb2 : Blk2 w2 (g1) (hiZ b) (loZ b) := (by refine Blk2.keep ?_ hb2; repeat' (first | (with_reducible assumption) | ((with_reducible refine Blk2.new_at _ _ ?_); (simp; done)) | ((with_reducible refine Blk4.new_at _ _ ?_); (simp; done)) | (with_reducible refine Blk2.drew ?_) | (with_reducible refine Blk2.drewN ?_) | (with_reducible refine Blk2.alloc ?_ _) | (with_reducible refine Blk4.drew ?_) | (with_reducible refine Blk4.drewN ?_) | (with_reducible refine Blk4.alloc ?_ _)))
  clear hb2 B1 z1 ka1 ca1 da1 fa1 ga1 la1 kb1 cb1 db1 fb1 gb1 lb1
  have z2 := B2.size
  have ca2 := ka2.c0; have da2 := ka2.c1; have fa2 := ka2.f0; have ga2 := ka2.f1; have la2 := ka2.lt
  have cb2 := kb2.c0; have db2 := kb2.c1; have fb2 := kb2.f0; have gb2 := kb2.f1; have lb2 := kb2.lt
  go_wp2_with fail
  refine (rs_check HR.out.2.2.2 _).mono ?_
  rintro e w3 ⟨rfl, hb3⟩
  have B3 : Below w.heap.size w w3 := (by refine below_of ?_ hb3; go_grown)
  have ka3 : Blk2 w3 (w.heap.size) (hiZ a) (loZ a) := (by refine Blk2.keep ?_ hb3; repeat' (first | (with_reducible assumption) | ((with_reducible refine Blk2.new_at _ _ ?_); (simp; done)) | ((with_reducible refine Blk4.new_at _ _ ?_); (simp; done)) | (with_reducible refine Blk2.drew ?_) | (with_reducible refine Blk2.drewN ?_) | (with_reducible refine Blk2.alloc ?_ _) | (with_reducible refine Blk4.drew ?_) | (with_reducible refine Blk4.drewN ?_) | (with_reducible refine Blk4.alloc ?_ _)))
  have kb3 : Blk2 w3 (g1) (hiZ b) (loZ b) := (by refine Blk2.keep ?_ hb3; repeat' (first | (with_reducible assumption) | ((with_reducible refine Blk2.new_at _ _ ?_); (simp; done)) | ((with_reducible refine Blk4.new_at _ _ ?_); (simp; done)) | (with_reducible refine Blk2.drew ?_) | (with_reducible refine Blk2.drewN ?_) | (with_reducible refine Blk2.alloc ?_ _) | (with_reducible refine Blk4.drew ?_) | (with_reducible refine Blk4.drewN ?_) | (with_reducible refine Blk4.alloc ?_ _)))
  have kf3 : Blk4 w3 (w2.heap.size) (hiZ (redN a b)) (loZ (redN a b)) (hiZ (redD a b)) (loZ (redD a b)) := (by refine Blk4.keep ?_ hb3; repeat' (first | (with_reducible assumption) | ((with_reducible refine Blk2.new_at _ _ ?_); (simp; done)) | ((with_reducible refine Blk4.new_at _ _ ?_); (simp; done)) | (with_reducible refine Blk2.drew ?_) | (with_reducible refine Blk2.drewN ?_) | (with_reducible refine Blk2.alloc ?_ _) | (with_reducible refine Blk4.drew ?_) | (with_reducible refine Blk4.drewN ?_) | (with_reducible refine Blk4.alloc ?_ _)))
  clear hb3 B2 z2 ka2 ca2 da2 fa2 ga2 la2 kb2 cb2 db2 fb2 gb2 lb2
  have z3 := B3.size
  have ca3 := ka3.c0; have da3 := ka3.c1; have fa3 := ka3.f0; have ga3 := ka3.f1; have la3 := ka3.lt
  have cb3 := kb3.c0; have db3 := kb3.c1; have fb3 := kb3.f0; have gb3 := kb3.f1; have lb3 := kb3.lt
  have cf3 := kf3.c0; have df3 := kf3.c1; have ef3 := kf3.c2; have hf3 := kf3.c3; have ff3 := kf3.f 0; have gf3 := kf3.f 1; have if3 := kf3.f 2; have jf3 := kf3.f 3; have lf3 := kf3.lt
  go_wp2_with fail
  refine (gcd_any a b _).mono ?_
  rintro e w4 ⟨rfl, hb4⟩
  have B4 : Below w.heap.size w w4 := (by refine below_of ?_ hb4; go_grown)
  have ka4 : Blk2 w4 (w.heap.size) (hiZ a) (loZ a) := (by refine Blk2.keep ?_ hb4; repeat' (first | (with_reducible assumption) | ((with_reducible refine Blk2.new_at _ _ ?_); (simp; done)) | ((with_reducible refine Blk4.new_at _ _ ?_); (simp; done)) | (with_reducible refine Blk2.drew ?_) | (with_reducible refine Blk2.drewN ?_) | (with_reducible refine Blk2.alloc ?_ _) | (with_reducible refine Blk4.drew ?_) | (with_reducible refine Blk4.drewN ?_) | (with_reducible refine Blk4.alloc ?_ _)))
  have kb4 : Blk2 w4 (g1) (hiZ b) (loZ b) := (by refine Blk2.keep ?_ hb4; repeat' (first | (with_reducible assumption) | ((with_reducible refine Blk2.new_at _ _ ?_); (simp; done)) | ((with_reducible refine Blk4.new_at _ _ ?_); (simp; done)) | (with_reducible refine Blk2.drew ?_) | (with_reducible refine Blk2.drewN ?_) | (with_reducible refine Blk2.alloc ?_ _) | (with_reducible refine Blk4.drew ?_) | (with_reducible refine Blk4.drewN ?_) | (with_reducible refine Blk4.alloc ?_ _)))
  have kf4 : Blk4 w4 (w2.heap.size) (hiZ (redN a b)) (loZ (redN a b)) (hiZ (redD a b)) (loZ (redD a b)) := (by refine Blk4.keep ?_ hb4; repeat' (first | (with_reducible assumption) | ((with_reducible refine Blk2.new_at _ _ ?_); (simp; done)) | ((with_reducible refine Blk4.new_at _ _ ?_); (simp; done)) | (with_reducible refine Blk2.drew ?_) | (with_reducible refine Blk2.drewN ?_) | (with_reducible refine Blk2.alloc ?_ _) | (with_reducible refine Blk4.drew ?_) | (with_reducible refine Blk4.drewN ?_) | (with_reducible refine Blk4.alloc ?_ _)))
  clear hb4 B3 z3 ka3 ca3 da3 fa3 ga3 la3 kb3 cb3 db3 fb3 gb3 lb3 kf3 cf3 df3 ef3 hf3 ff3 gf3 if3 jf3 lf3
  have z4 := B4.size
  have ca4 := ka4.c0; have da4 := ka4.c1; have fa4 := ka4.f0; have ga4 := ka4.f1; have la4 := ka4.lt
  have cb4 := kb4.c0; have db4 := kb4.c1; have fb4 := kb4.f0; have gb4 := kb4.f1; have lb4 := kb4.lt
  have cf4 := kf4.c0; have df4 := kf4.c1; have ef4 := kf4.c2; have hf4 := kf4.c3; have ff4 := kf4.f 0; have gf4 := kf4.f 1; have if4 := kf4.f 2; have jf4 := kf4.f 3; have lf4 := kf4.lt
  go_wp2_with fail
  refine (rs_times (g := gcdW a b) HR.out.1 HG.out _).mono ?_
  rintro e w5 ⟨rfl, hb5⟩
  have B5 : Below w.heap.size w w5 := (by refine below_of ?_ hb5; go_grown)
  have ka5 : Blk2 w5 (w.heap.size) (hiZ a) (loZ a) := (by refine Blk2.keep ?_ hb5; repeat' (first | (with_reducible assumption) | ((with_reducible refine Blk2.new_at _ _ ?_); (simp; done)) | ((with_reducible refine Blk4.new_at _ _ ?_); (simp; done)) | (with_reducible refine Blk2.drew ?_) | (with_reducible refine Blk2.drewN ?_) | (with_reducible refine Blk2.alloc ?_ _) | (with_reducible refine Blk4.drew ?_) | (with_reducible refine Blk4.drewN ?_) | (with_reducible refine Blk4.alloc ?_ _)))
  have kb5 : Blk2 w5 (g1) (hiZ b) (loZ b) := (by refine Blk2.keep ?_ hb5; repeat' (first | (with_reducible assumption) | ((with_reducible refine Blk2.new_at _ _ ?_); (simp; done)) | ((with_reducible refine Blk4.new_at _ _ ?_); (simp; done)) | (with_reducible refine Blk2.drew ?_) | (with_reducible refine Blk2.drewN ?_) | (with_reducible refine Blk2.alloc ?_ _) | (with_reducible refine Blk4.drew ?_) | (with_reducible refine Blk4.drewN ?_) | (with_reducible refine Blk4.alloc ?_ _)))
  have kf5 : Blk4 w5 (w2.heap.size) (hiZ (redN a b)) (loZ (redN a b)) (hiZ (redD a b)) (loZ (redD a b)) := (by refine Blk4.keep ?_ hb5; repeat' (first | (with_reducible assumption) | ((with_reducible refine Blk2.new_at _ _ ?_); (simp; done)) | ((with_reducible refine Blk4.new_at _ _ ?_); (simp; done)) | (with_reducible refine Blk2.drew ?_) | (with_reducible refine Blk2.drewN ?_) | (with_reducible refine Blk2.alloc ?_ _) | (with_reducible refine Blk4.drew ?_) | (with_reducible refine Blk4.drewN ?_) | (with_reducible refine Blk4.alloc ?_ _)))
  have kg5 : Blk2 w5 (w4.heap.size) (hiZ (gcdW a b)) (loZ (gcdW a b)) := (by refine Blk2.keep ?_ hb5; repeat' (first | (with_reducible assumption) | ((with_reducible refine Blk2.new_at _ _ ?_); (simp; done)) | ((with_reducible refine Blk4.new_at _ _ ?_); (simp; done)) | (with_reducible refine Blk2.drew ?_) | (with_reducible refine Blk2.drewN ?_) | (with_reducible refine Blk2.alloc ?_ _) | (with_reducible refine Blk4.drew ?_) | (with_reducible refine Blk4.drewN ?_) | (with_reducible refine Blk4.alloc ?_ _)))
  clear hb5 B4 z4 ka4 ca4 da4 fa4 ga4 la4 kb4 cb4 db4 fb4 gb4 lb4 kf4 cf4 df4 ef4 hf4 ff4 gf4 if4 jf4 lf4
  have z5 := B5.size
  have ca5 := ka5.c0; have da5 := ka5.c1; have fa5 := ka5.f0; have ga5 := ka5.f1; have la5 := ka5.lt
  have cb5 := kb5.c0; have db5 := kb5.c1; have fb5 := kb5.f0; have gb5 := kb5.f1; have lb5 := kb5.lt
  have cf5 := kf5.c0; have df5 := kf5.c1; have ef5 := kf5.c2; have hf5 := kf5.c3; have ff5 := kf5.f 0; have gf5 := kf5.f 1; have if5 := kf5.f 2; have jf5 := kf5.f 3; have lf5 := kf5.lt
  have cg5 := kg5.c0; have dg5 := kg5.c1; have fg5 := kg5.f0; have gg5 := kg5.f1; have lg5 := kg5.lt
  go_wp2_with fail
  refine (rs_times (g := gcdW a b) HR.out.2.1 HG.out _).mono ?_
  rintro e w6 ⟨rfl, hb6⟩
  have B6 : Below w.heap.size w w6 := (by refine below_of ?_ hb6; go_grown)
  have ka6 : Blk2 w6 (w.heap.size) (hiZ a) (loZ a) := (by refine Blk2.keep ?_ hb6; repeat' (first | (with_reducible assumption) | ((with_reducible refine Blk2.new_at _ _ ?_); (simp; done)) | ((with_reducible refine Blk4.new_at _ _ ?_); (simp; done)) | (with_reducible refine Blk2.drew ?_) | (with_reducible refine Blk2.drewN ?_) | (with_reducible refine Blk2.alloc ?_ _) | (with_reducible refine Blk4.drew ?_) | (with_reducible refine Blk4.drewN ?_) | (with_reducible refine Blk4.alloc ?_ _)))
  have kb6 : Blk2 w6 (g1) (hiZ b) (loZ b) := (by refine Blk2.keep ?_ hb6; repeat' (first | (with_reducible assumption) | ((with_reducible refine Blk2.new_at _ _ ?_); (simp; done)) | ((with_reducible refine Blk4.new_at _ _ ?_); (simp; done)) | (with_reducible refine Blk2.drew ?_) | (with_reducible refine Blk2.drewN ?_) | (with_reducible refine Blk2.alloc ?_ _) | (with_reducible refine Blk4.drew ?_) | (with_reducible refine Blk4.drewN ?_) | (with_reducible refine Blk4.alloc ?_ _)))
  have kf6 : Blk4 w6 (w2.heap.size) (hiZ (redN a b)) (loZ (redN a b)) (hiZ (redD a b)) (loZ (redD a b)) := (by refine Blk4.keep ?_ hb6; repeat' (first | (with_reducible assumption) | ((with_reducible refine Blk2.new_at _ _ ?_); (simp; done)) | ((with_reducible refine Blk4.new_at _ _ ?_); (simp; done)) | (with_reducible refine Blk2.drew ?_) | (with_reducible refine Blk2.drewN ?_) | (with_reducible refine Blk2.alloc ?_ _) | (with_reducible refine Blk4.drew ?_) | (with_reducible refine Blk4.drewN ?_) | (with_reducible refine Blk4.alloc ?_ _)))
  have kg6 : Blk2 w6 (w4.heap.size) (hiZ (gcdW a b)) (loZ (gcdW a b)) := (by refine Blk2.keep ?_ hb6; repeat' (first | (with_reducible assumption) | ((with_reducible refine Blk2.new_at _ _ ?_); (simp; done)) | ((with_reducible refine Blk4.new_at _ _ ?_); (simp; done)) | (with_reducible refine Blk2.drew ?_) | (with_reducible refine Blk2.drewN ?_) | (with_reducible refine Blk2.alloc ?_ _) | (with_reducible refine Blk4.drew ?_) | (with_reducible refine Blk4.drewN ?_) | (with_reducible refine Blk4.alloc ?_ _)))
  have kx6 : Blk2 w6 (w5.heap.size) (hiZ a) (loZ a) := (by refine Blk2.keep ?_ hb6; repeat' (first | (with_reducible assumption) | ((with_reducible refine Blk2.new_at _ _ ?_); (simp; done)) | ((with_reducible refine Blk4.new_at _ _ ?_); (simp; done)) | (with_reducible refine Blk2.drew ?_) | (with_reducible refine Blk2.drewN ?_) | (with_reducible refine Blk2.alloc ?_ _) | (with_reducible refine Blk4.drew ?_) | (with_reducible refine Blk4.drewN ?_) | (with_reducible refine Blk4.alloc ?_ _)))
  clear hb6 B5 z5 ka5 ca5 da5 fa5 ga5 la5 kb5 cb5 db5 fb5 gb5 lb5 kf5 cf5 df5 ef5 hf5 ff5 gf5 if5 jf5 lf5 kg5 cg5 dg5 fg5 gg5 lg5
  have z6 := B6.size
  have ca6 := ka6.c0; have da6 := ka6.c1; have fa6 := ka6.f0; have ga6 := ka6.f1; have la6 := ka6.lt
  have cb6 := kb6.c0; have db6 := kb6.c1; have fb6 := kb6.f0; have gb6 := kb6.f1; have lb6 := kb6.lt
  have cf6 := kf6.c0; have df6 := kf6.c1; have ef6 := kf6.c2; have hf6 := kf6.c3; have ff6 := kf6.f 0; have gf6 := kf6.f 1; have if6 := kf6.f 2; have jf6 := kf6.f 3; have lf6 := kf6.lt
  have cg6 := kg6.c0; have dg6 := kg6.c1; have fg6 := kg6.f0; have gg6 := kg6.f1; have lg6 := kg6.lt
  have cx6 := kx6.c0; have dx6 := kx6.c1; have fx6 := kx6.f0; have gx6 := kx6.f1; have lx6 := kx6.lt
  go_wp2_with fail
  refine (times_any a k HK.out _).mono ?_
  rintro e w7 ⟨rfl, hb7⟩
  have B7 : Below w.heap.size w w7 := (by refine below_of ?_ hb7; go_grown)
  have ka7 : Blk2 w7 (w.heap.size) (hiZ a) (loZ a) := (by refine Blk2.keep ?_ hb7; repeat' (first | (with_reducible assumption) | ((with_reducible refine Blk2.new_at _ _ ?_); (simp; done)) | ((with_reducible refine Blk4.new_at _ _ ?_); (simp; done)) | (with_reducible refine Blk2.drew ?_) | (with_reducible refine Blk2.drewN ?_) | (with_reducible refine Blk2.alloc ?_ _) | (with_reducible refine Blk4.drew ?_) | (with_reducible refine Blk4.drewN ?_) | (with_reducible refine Blk4.alloc ?_ _)))
  have kb7 : Blk2 w7 (g1) (hiZ b) (loZ b) := (by refine Blk2.keep ?_ hb7; repeat' (first | (with_reducible assumption) | ((with_reducible refine Blk2.new_at _ _ ?_); (simp; done)) | ((with_reducible refine Blk4.new_at _ _ ?_); (simp; done)) | (with_reducible refine Blk2.drew ?_) | (with_reducible refine Blk2.drewN ?_) | (with_reducible refine Blk2.alloc ?_ _) | (with_reducible refine Blk4.drew ?_) | (with_reducible refine Blk4.drewN ?_) | (with_reducible refine Blk4.alloc ?_ _)))
  have kf7 : Blk4 w7 (w2.heap.size) (hiZ (redN a b)) (loZ (redN a b)) (hiZ (redD a b)) (loZ (redD a b)) := (by refine Blk4.keep ?_ hb7; repeat' (first | (with_reducible assumption) | ((with_reducible refine Blk2.new_at _ _ ?_); (simp; done)) | ((with_reducible refine Blk4.new_at _ _ ?_); (simp; done)) | (with_reducible refine Blk2.drew ?_) | (with_reducible refine Blk2.drewN ?_) | (with_reducible refine Blk2.alloc ?_ _) | (with_reducible refine Blk4.drew ?_) | (with_reducible refine Blk4.drewN ?_) | (with_reducible refine Blk4.alloc ?_ _)))
  have kg7 : Blk2 w7 (w4.heap.size) (hiZ (gcdW a b)) (loZ (gcdW a b)) := (by refine Blk2.keep ?_ hb7; repeat' (first | (with_reducible assumption) | ((with_reducible refine Blk2.new_at _ _ ?_); (simp; done)) | ((with_reducible refine Blk4.new_at _ _ ?_); (simp; done)) | (with_reducible refine Blk2.drew ?_) | (with_reducible refine Blk2.drewN ?_) | (with_reducible refine Blk2.alloc ?_ _) | (with_reducible refine Blk4.drew ?_) | (with_reducible refine Blk4.drewN ?_) | (with_reducible refine Blk4.alloc ?_ _)))
  have kx7 : Blk2 w7 (w5.heap.size) (hiZ a) (loZ a) := (by refine Blk2.keep ?_ hb7; repeat' (first | (with_reducible assumption) | ((with_reducible refine Blk2.new_at _ _ ?_); (simp; done)) | ((with_reducible refine Blk4.new_at _ _ ?_); (simp; done)) | (with_reducible refine Blk2.drew ?_) | (with_reducible refine Blk2.drewN ?_) | (with_reducible refine Blk2.alloc ?_ _) | (with_reducible refine Blk4.drew ?_) | (with_reducible refine Blk4.drewN ?_) | (with_reducible refine Blk4.alloc ?_ _)))
  have ky7 : Blk2 w7 (w6.heap.size) (hiZ b) (loZ b) := (by refine Blk2.keep ?_ hb7; repeat' (first | (with_reducible assumption) | ((with_reducible refine Blk2.new_at _ _ ?_); (simp; done)) | ((with_reducible refine Blk4.new_at _ _ ?_); (simp; done)) | (with_reducible refine Blk2.drew ?_) | (with_reducible refine Blk2.drewN ?_) | (with_reducible refine Blk2.alloc ?_ _) | (with_reducible refine Blk4.drew ?_) | (with_reducible refine Blk4.drewN ?_) | (with_reducible refine Blk4.alloc ?_ _)))
  clear hb7 B6 z6 ka6 ca6 da6 fa6 ga6 la6 kb6 cb6 db6 fb6 gb6 lb6 kf6 cf6 df6 ef6 hf6 ff6 gf6 if6 jf6 lf6 kg6 cg6 dg6 fg6 gg6 lg6 kx6 cx6 dx6 fx6 gx6 lx6
  have z7 := B7.size
  have ca7 := ka7.c0; have da7 := ka7.c1; have fa7 := ka7.f0; have ga7 := ka7.f1; have la7 := ka7.lt
  have cb7 := kb7.c0; have db7 := kb7.c1; have fb7 := kb7.f0; have gb7 := kb7.f1; have lb7 := kb7.lt
  have cf7 := kf7.c0; have df7 := kf7.c1; have ef7 := kf7.c2; have hf7 := kf7.c3; have ff7 := kf7.f 0; have gf7 := kf7.f 1; have if7 := kf7.f 2; have jf7 := kf7.f 3; have lf7 := kf7.lt
  have cg7 := kg7.c0; have dg7 := kg7.c1; have fg7 := kg7.f0; have gg7 := kg7.f1; have lg7 := kg7.lt
  have cx7 := kx7.c0; have dx7 := kx7.c1; have fx7 := kx7.f0; have gx7 := kx7.f1; have lx7 := kx7.lt
  have cy7 := ky7.c0; have dy7 := ky7.c1; have fy7 := ky7.f0; have gy7 := ky7.f1; have ly7 := ky7.lt
  go_wp2_with fail
  refine (times_any b k HK.out _).mono ?_
  rintro e w8 ⟨rfl, hb8⟩
  have B8 : Below w.heap.size w w8 := (by refine below_of ?_ hb8; go_grown)
  have ka8 : Blk2 w8 (w.heap.size) (hiZ a) (loZ a) := (by refine Blk2.keep ?_ hb8; repeat' (first | (with_reducible assumption) | ((with_reducible refine Blk2.new_at _ _ ?_); (simp; done)) | ((with_reducible refine Blk4.new_at _ _ ?_); (simp; done)) | (with_reducible refine Blk2.drew ?_) | (with_reducible refine Blk2.drewN ?_) | (with_reducible refine Blk2.alloc ?_ _) | (with_reducible refine Blk4.drew ?_) | (with_reducible refine Blk4.drewN ?_) | (with_reducible refine Blk4.alloc ?_ _)))
  have kb8 : Blk2 w8 (g1) (hiZ b) (loZ b) := (by refine Blk2.keep ?_ hb8; repeat' (first | (with_reducible assumption) | ((with_reducible refine Blk2.new_at _ _ ?_); (simp; done)) | ((with_reducible refine Blk4.new_at _ _ ?_); (simp; done)) | (with_reducible refine Blk2.drew ?_) | (with_reducible refine Blk2.drewN ?_) | (with_reducible refine Blk2.alloc ?_ _) | (with_reducible refine Blk4.drew ?_) | (with_reducible refine Blk4.drewN ?_) | (with_reducible refine Blk4.alloc ?_ _)))
  have kf8 : Blk4 w8 (w2.heap.size) (hiZ (redN a b)) (loZ (redN a b)) (hiZ (redD a b)) (loZ (redD a b)) := (by refine Blk4.keep ?_ hb8; repeat' (first | (with_reducible assumption) | ((with_reducible refine Blk2.new_at _ _ ?_); (simp; done)) | ((with_reducible refine Blk4.new_at _ _ ?_); (simp; done)) | (with_reducible refine Blk2.drew ?_) | (with_reducible refine Blk2.drewN ?_) | (with_reducible refine Blk2.alloc ?_ _) | (with_reducible refine Blk4.drew ?_) | (with_reducible refine Blk4.drewN ?_) | (with_reducible refine Blk4.alloc ?_ _)))
  have kg8 : Blk2 w8 (w4.heap.size) (hiZ (gcdW a b)) (loZ (gcdW a b)) := (by refine Blk2.keep ?_ hb8; repeat' (first | (with_reducible assumption) | ((with_reducible refine Blk2.new_at _ _ ?_); (simp; done)) | ((with_reducible refine Blk4.new_at _ _ ?_); (simp; done)) | (with_reducible refine Blk2.drew ?_) | (with_reducible refine Blk2.drewN ?_) | (with_reducible refine Blk2.alloc ?_ _) | (with_reducible refine Blk4.drew ?_) | (with_reducible refine Blk4.drewN ?_) | (with_reducible refine Blk4.alloc ?_ _)))
  have kx8 : Blk2 w8 (w5.heap.size) (hiZ a) (loZ a) := (by refine Blk2.keep ?_ hb8; repeat' (first | (with_reducible assumption) | ((with_reducible refine Blk2.new_at _ _ ?_); (simp; done)) | ((with_reducible refine Blk4.new_at _ _ ?_); (simp; done)) | (with_reducible refine Blk2.drew ?_) | (with_reducible refine Blk2.drewN ?_) | (with_reducible refine Blk2.alloc ?_ _) | (with_reducible refine Blk4.drew ?_) | (with_reducible refine Blk4.drewN ?_) | (with_reducible refine Blk4.alloc ?_ _)))
  have ky8 : Blk2 w8 (w6.heap.size) (hiZ b) (loZ b) := (by refine Blk2.keep ?_ hb8; repeat' (first | (with_reducible assumption) | ((with_reducible refine Blk2.new_at _ _ ?_); (simp; done)) | ((with_reducible refine Blk4.new_at _ _ ?_); (simp; done)) | (with_reducible refine Blk2.drew ?_) | (with_reducible refine Blk2.drewN ?_) | (with_reducible refine Blk2.alloc ?_ _) | (with_reducible refine Blk4.drew ?_) | (with_reducible refine Blk4.drewN ?_) | (with_reducible refine Blk4.alloc ?_ _)))
  have kc8 : Blk2 w8 (w7.heap.size) (hiZ (timesU a k)) (loZ (timesU a k)) := (by refine Blk2.keep ?_ hb8; repeat' (first | (with_reducible assumption) | ((with_reducible refine Blk2.new_at _ _ ?_); (simp; done)) | ((with_reducible refine Blk4.new_at _ _ ?_); (simp; done)) | (with_reducible refine Blk2.drew ?_) | (with_reducible refine Blk2.drewN ?_) | (with_reducible refine Blk2.alloc ?_ _) | (with_reducible refine Blk4.drew ?_) | (with_reducible refine Blk4.drewN ?_) | (with_reducible refine Blk4.alloc ?_ _)))
  clear hb8 B7 z7 ka7 ca7 da7 fa7 ga7 la7 kb7 cb7 db7 fb7 gb7 lb7 kf7 cf7 df7 ef7 hf7 ff7 gf7 if7 jf7 lf7 kg7 cg7 dg7 fg7 gg7 lg7 kx7 cx7 dx7 fx7 gx7 lx7 ky7 cy7 dy7 fy7 gy7 ly7
  have z8 := B8.size
  have ca8 := ka8.c0; have da8 := ka8.c1; have fa8 := ka8.f0; have ga8 := ka8.f1; have la8 := ka8.lt
  have cb8 := kb8.c0; have db8 := kb8.c1; have fb8 := kb8.f0; have gb8 := kb8.f1; have lb8 := kb8.lt
  have cf8 := kf8.c0; have df8 := kf8.c1; have ef8 := kf8.c2; have hf8 := kf8.c3; have ff8 := kf8.f 0; have gf8 := kf8.f 1; have if8 := kf8.f 2; have jf8 := kf8.f 3; have lf8 := kf8.lt
  have cg8 := kg8.c0; have dg8 := kg8.c1; have fg8 := kg8.f0; have gg8 := kg8.f1; have lg8 := kg8.lt
  have cx8 := kx8.c0; have dx8 := kx8.c1; have fx8 := kx8.f0; have gx8 := kx8.f1; have lx8 := kx8.lt
  have cy8 := ky8.c0; have dy8 := ky8.c1; have fy8 := ky8.f0; have gy8 := ky8.f1; have ly8 := ky8.lt
  have cc8 := kc8.c0; have dc8 := kc8.c1; have fc8 := kc8.f0; have gc8 := kc8.f1; have lc8 := kc8.lt
  go_wp2_with fail
  go_ret
  exact ⟨rfl, by go_grown⟩
set_option maxHeartbeats 8000000 in
set_option maxRecDepth 100000 in
theorem rsame_g_e3 (a b : U) (k : Nat) (hk : k < 18446744073709551616) (w : World) (htab : tabs w) (hb : b.n ≠ 0) (hg : hiZ (gcdW a b) = 0) (hk0 : k ≠ 0) (h3 : timesE a k ≠ 0) :
    Calls Tryd.prog 9 #[.agg #[.int .u64 (hiZ a), .int .u64 (loZ a)], .agg #[.int .u64 (hiZ b), .int .u64 (loZ b)], .int .u64 k] w fun e w' => e = .returned (.bool true) ∧ Below w.heap.size w w' := by
  have HT := Lib.hid htab
  have HK := Lib.hid hk
  clear htab hk
  have tk : ((k : Int) == 0) = false := by simp; omega
  have t3 : (timesE a k != 0) = true := by simpa using h3
  clear hk0 h3
  have HR := Lib.hid (rs_parts (a := a) hb)
  have HB := Lib.hid hb
  have tg : (hiZ (gcdW a b) == 0) = true := by simpa using hg
  have HG := Lib.hid hg
  clear hb hg
  go_enter Tryd.func9, Tryd.ntmps9
  go_wp2_with fail
  have ka0 : Blk2 ((w.alloc (.cells #[.int .u64 (hiZ a), .int .u64 (loZ a)] 24)).alloc (.cells #[.int .u64 (hiZ b), .int .u64 (loZ b)] 24)) (w.heap.size) (hiZ a) (loZ a) := (by repeat' (first | (with_reducible assumption) | ((with_reducible refine Blk2.new_at _ _ ?_); (simp; done)) | ((with_reducible refine Blk4.new_at _ _ ?_); (simp; done)) | (with_reducible refine Blk2.drew ?_) | (with_reducible refine Blk2.drewN ?_) | (with_reducible refine Blk2.alloc ?_ _) | (with_reducible refine Blk4.drew ?_) | (with_reducible refine Blk4.drewN ?_) | (with_reducible refine Blk4.alloc ?_ _)))
  have kb0 : Blk2 ((w.alloc (.cells #[.int .u64 (hiZ a), .int .u64 (loZ a)] 24)).alloc (.cells #[.int .u64 (hiZ b), .int .u64 (loZ b)] 24)) (w.heap.size + 1) (hiZ b) (loZ b) := (by repeat' (first | (with_reducible assumption) | ((with_reducible refine Blk2.new_at _ _ ?_); (simp; done)) | ((with_reducible refine Blk4.new_at _ _ ?_); (simp; done)) | (with_reducible refine Blk2.drew ?_) | (with_reducible refine Blk2.drewN ?_) | (with_reducible refine Blk2.alloc ?_ _) | (with_reducible refine Blk4.drew ?_) | (with_reducible refine Blk4.drewN ?_) | (with_reducible refine Blk4.alloc ?_ _)))
  have B0 : Below w.heap.size w ((w.alloc (.cells #[.int .u64 (hiZ a), .int .u64 (loZ a)] 24)).alloc (.cells #[.int .u64 (hiZ b), .int .u64 (loZ b)] 24)) := (by go_grown)
  have o1 : w.heap.size < w.heap.size + 1 := by omega
  generalize w.heap.size + 1 = g1 at *
  generalize ((w.alloc (.cells #[.int .u64 (hiZ a), .int .u64 (loZ a)] 24)).alloc (.cells #[.int .u64 (hiZ b), .int .u64 (loZ b)] 24)) = w0 at *
  have z0 := B0.size
  have ca0 := ka0.c0; have da0 := ka0.c1; have fa0 := ka0.f0; have ga0 := ka0.f1; have la0 := ka0.lt
  have cb0 := kb0.c0; have db0 := kb0.c1; have fb0 := kb0.f0; have gb0 := kb0.f1; have lb0 := kb0.lt
  refine (lives2_any _ (tabs_stays HT.out (by go_grown))).mono ?_
  rintro e w1 ⟨rfl, hb1⟩
  have B1 : Below w.heap.size w w1 := (by refine below_of ?_ hb1; go_grown)
  have ka1 : Blk2 w1 (w.heap.size) (hiZ a) (loZ a) := (by refine Blk2.keep ?_ hb1; repeat' (first | (with_reducible assumption) | ((with_reducible refine Blk2.new_at _ _ ?_); (simp; done)) | ((with_reducible refine Blk4.new_at _ _ ?_); (simp; done)) | (with_reducible refine Blk2.drew ?_) | (with_reducible refine Blk2.drewN ?_) | (with_reducible refine Blk2.alloc ?_ _) | (with_reducible refine Blk4.drew ?_) | (with_reducible refine Blk4.drewN ?_) | (with_reducible refine Blk4.alloc ?_ _)))
  have kb1 : Blk2 w1 (g1) (hiZ b) (loZ b) := (by refine Blk2.keep ?_ hb1; repeat' (first | (with_reducible assumption) | ((with_reducible refine Blk2.new_at _ _ ?_); (simp; done)) | ((with_reducible refine Blk4.new_at _ _ ?_); (simp; done)) | (with_reducible refine Blk2.drew ?_) | (with_reducible refine Blk2.drewN ?_) | (with_reducible refine Blk2.alloc ?_ _) | (with_reducible refine Blk4.drew ?_) | (with_reducible refine Blk4.drewN ?_) | (with_reducible refine Blk4.alloc ?_ _)))
  clear hb1 B0 z0 ka0 ca0 da0 fa0 ga0 la0 kb0 cb0 db0 fb0 gb0 lb0
  have z1 := B1.size
  have ca1 := ka1.c0; have da1 := ka1.c1; have fa1 := ka1.f0; have ga1 := ka1.f1; have la1 := ka1.lt
  have cb1 := kb1.c0; have db1 := kb1.c1; have fb1 := kb1.f0; have gb1 := kb1.f1; have lb1 := kb1.lt
  go_wp2_with fail
  refine (reduce_any a b HB.out _).mono ?_
  rintro e w2 ⟨rfl, hb2⟩
  have B2 : Below w.heap.size w w2 := (by refine below_of ?_ hb2; go_grown)
  have ka2 : Blk2 w2 (w.heap.size) (hiZ a) (loZ a) := (by refine Blk2.keep ?_ hb2; repeat' (first | (with_reducible assumption) | ((with_reducible refine Blk2.new_at _ _ ?_); (simp; done)) | ((with_reducible refine Blk4.new_at _ _ ?_); (simp; done)) | (with_reducible refine Blk2.drew ?_) | (with_reducible refine Blk2.drewN ?_) | (with_reducible refine Blk2.alloc ?_ _) | (with_reducible refine Blk4.drew ?_) | (with_reducible refine Blk4.drewN ?_) | (with_reducible refine Blk4.alloc ?_ _)))
  have kb2 : Blk2 w2 (g1) (hiZ b) (loZ b) := (by refine Blk2.keep ?_ hb2; repeat' (first | (with_reducible assumption) | ((with_reducible refine Blk2.new_at _ _ ?_); (simp; done)) | ((with_reducible refine Blk4.new_at _ _ ?_); (simp; done)) | (with_reducible refine Blk2.drew ?_) | (with_reducible refine Blk2.drewN ?_) | (with_reducible refine Blk2.alloc ?_ _) | (with_reducible refine Blk4.drew ?_) | (with_reducible refine Blk4.drewN ?_) | (with_reducible refine Blk4.alloc ?_ _)))
  clear hb2 B1 z1 ka1 ca1 da1 fa1 ga1 la1 kb1 cb1 db1 fb1 gb1 lb1
  have z2 := B2.size
  have ca2 := ka2.c0; have da2 := ka2.c1; have fa2 := ka2.f0; have ga2 := ka2.f1; have la2 := ka2.lt
  have cb2 := kb2.c0; have db2 := kb2.c1; have fb2 := kb2.f0; have gb2 := kb2.f1; have lb2 := kb2.lt
  go_wp2_with fail
  refine (rs_check HR.out.2.2.2 _).mono ?_
  rintro e w3 ⟨rfl, hb3⟩
  have B3 : Below w.heap.size w w3 := (by refine below_of ?_ hb3; go_grown)
  have ka3 : Blk2 w3 (w.heap.size) (hiZ a) (loZ a) := (by refine Blk2.keep ?_ hb3; repeat' (first | (with_reducible assumption) | ((with_reducible refine Blk2.new_at _ _ ?_); (simp; done)) | ((with_reducible refine Blk4.new_at _ _ ?_); (simp; done)) | (with_reducible refine Blk2.drew ?_) | (with_reducible refine Blk2.drewN ?_) | (with_reducible refine Blk2.alloc ?_ _) | (with_reducible refine Blk4.drew ?_) | (with_reducible refine Blk4.drewN ?_) | (with_reducible refine Blk4.alloc ?_ _)))
  have kb3 : Blk2 w3 (g1) (hiZ b) (loZ b) := (by refine Blk2.keep ?_ hb3; repeat' (first | (with_reducible assumption) | ((with_reducible refine Blk2.new_at _ _ ?_); (simp; done)) | ((with_reducible refine Blk4.new_at _ _ ?_); (simp; done)) | (with_reducible refine Blk2.drew ?_) | (with_reducible refine Blk2.drewN ?_) | (with_reducible refine Blk2.alloc ?_ _) | (with_reducible refine Blk4.drew ?_) | (with_reducible refine Blk4.drewN ?_) | (with_reducible refine Blk4.alloc ?_ _)))
  have kf3 : Blk4 w3 (w2.heap.size) (hiZ (redN a b)) (loZ (redN a b)) (hiZ (redD a b)) (loZ (redD a b)) := (by refine Blk4.keep ?_ hb3; repeat' (first | (with_reducible assumption) | ((with_reducible refine Blk2.new_at _ _ ?_); (simp; done)) | ((with_reducible refine Blk4.new_at _ _ ?_); (simp; done)) | (with_reducible refine Blk2.drew ?_) | (with_reducible refine Blk2.drewN ?_) | (with_reducible refine Blk2.alloc ?_ _) | (with_reducible refine Blk4.drew ?_) | (with_reducible refine Blk4.drewN ?_) | (with_reducible refine Blk4.alloc ?_ _)))
  clear hb3 B2 z2 ka2 ca2 da2 fa2 ga2 la2 kb2 cb2 db2 fb2 gb2 lb2
  have z3 := B3.size
  have ca3 := ka3.c0; have da3 := ka3.c1; have fa3 := ka3.f0; have ga3 := ka3.f1; have la3 := ka3.lt
  have cb3 := kb3.c0; have db3 := kb3.c1; have fb3 := kb3.f0; have gb3 := kb3.f1; have lb3 := kb3.lt
  have cf3 := kf3.c0; have df3 := kf3.c1; have ef3 := kf3.c2; have hf3 := kf3.c3; have ff3 := kf3.f 0; have gf3 := kf3.f 1; have if3 := kf3.f 2; have jf3 := kf3.f 3; have lf3 := kf3.lt
  go_wp2_with fail
  refine (gcd_any a b _).mono ?_
  rintro e w4 ⟨rfl, hb4⟩
  have B4 : Below w.heap.size w w4 := (by refine below_of ?_ hb4; go_grown)
  have ka4 : Blk2 w4 (w.heap.size) (hiZ a) (loZ a) := (by refine Blk2.keep ?_ hb4; repeat' (first | (with_reducible assumption) | ((with_reducible refine Blk2.new_at _ _ ?_); (simp; done)) | ((with_reducible refine Blk4.new_at _ _ ?_); (simp; done)) | (with_reducible refine Blk2.drew ?_) | (with_reducible refine Blk2.drewN ?_) | (with_reducible refine Blk2.alloc ?_ _) | (with_reducible refine Blk4.drew ?_) | (with_reducible refine Blk4.drewN ?_) | (with_reducible refine Blk4.alloc ?_ _)))
  have kb4 : Blk2 w4 (g1) (hiZ b) (loZ b) := (by refine Blk2.keep ?_ hb4; repeat' (first | (with_reducible assumption) | ((with_reducible refine Blk2.new_at _ _ ?_); (simp; done)) | ((with_reducible refine Blk4.new_at _ _ ?_); (simp; done)) | (with_reducible refine Blk2.drew ?_) | (with_reducible refine Blk2.drewN ?_) | (with_reducible refine Blk2.alloc ?_ _) | (with_reducible refine Blk4.drew ?_) | (with_reducible refine Blk4.drewN ?_) | (with_reducible refine Blk4.alloc ?_ _)))
  have kf4 : Blk4 w4 (w2.heap.size) (hiZ (redN a b)) (loZ (redN a b)) (hiZ (redD a b)) (loZ (redD a b)) := (by refine Blk4.keep ?_ hb4; repeat' (first | (with_reducible assumption) | ((with_reducible refine Blk2.new_at _ _ ?_); (simp; done)) | ((with_reducible refine Blk4.new_at _ _ ?_); (simp; done)) | (with_reducible refine Blk2.drew ?_) | (with_reducible refine Blk2.drewN ?_) | (with_reducible refine Blk2.alloc ?_ _) | (with_reducible refine Blk4.drew ?_) | (with_reducible refine Blk4.drewN ?_) | (with_reducible refine Blk4.alloc ?_ _)))
  clear hb4 B3 z3 ka3 ca3 da3 fa3 ga3 la3 kb3 cb3 db3 fb3 gb3 lb3 kf3 cf3 df3 ef3 hf3 ff3 gf3 if3 jf3 lf3
  have z4 := B4.size
  have ca4 := ka4.c0; have da4 := ka4.c1; have fa4 := ka4.f0; have ga4 := ka4.f1; have la4 := ka4.lt
  have cb4 := kb4.c0; have db4 := kb4.c1; have fb4 := kb4.f0; have gb4 := kb4.f1; have lb4 := kb4.lt
  have cf4 := kf4.c0; have df4 := kf4.c1; have ef4 := kf4.c2; have hf4 := kf4.c3; have ff4 := kf4.f 0; have gf4 := kf4.f 1; have if4 := kf4.f 2; have jf4 := kf4.f 3; have lf4 := kf4.lt
  go_wp2_with fail
  refine (rs_times (g := gcdW a b) HR.out.1 HG.out _).mono ?_
  rintro e w5 ⟨rfl, hb5⟩
  have B5 : Below w.heap.size w w5 := (by refine below_of ?_ hb5; go_grown)
  have ka5 : Blk2 w5 (w.heap.size) (hiZ a) (loZ a) := (by refine Blk2.keep ?_ hb5; repeat' (first | (with_reducible assumption) | ((with_reducible refine Blk2.new_at _ _ ?_); (simp; done)) | ((with_reducible refine Blk4.new_at _ _ ?_); (simp; done)) | (with_reducible refine Blk2.drew ?_) | (with_reducible refine Blk2.drewN ?_) | (with_reducible refine Blk2.alloc ?_ _) | (with_reducible refine Blk4.drew ?_) | (with_reducible refine Blk4.drewN ?_) | (with_reducible refine Blk4.alloc ?_ _)))
  have kb5 : Blk2 w5 (g1) (hiZ b) (loZ b) := (by refine Blk2.keep ?_ hb5; repeat' (first | (with_reducible assumption) | ((with_reducible refine Blk2.new_at _ _ ?_); (simp; done)) | ((with_reducible refine Blk4.new_at _ _ ?_); (simp; done)) | (with_reducible refine Blk2.drew ?_) | (with_reducible refine Blk2.drewN ?_) | (with_reducible refine Blk2.alloc ?_ _) | (with_reducible refine Blk4.drew ?_) | (with_reducible refine Blk4.drewN ?_) | (with_reducible refine Blk4.alloc ?_ _)))
  have kf5 : Blk4 w5 (w2.heap.size) (hiZ (redN a b)) (loZ (redN a b)) (hiZ (redD a b)) (loZ (redD a b)) := (by refine Blk4.keep ?_ hb5; repeat' (first | (with_reducible assumption) | ((with_reducible refine Blk2.new_at _ _ ?_); (simp; done)) | ((with_reducible refine Blk4.new_at _ _ ?_); (simp; done)) | (with_reducible refine Blk2.drew ?_) | (with_reducible refine Blk2.drewN ?_) | (with_reducible refine Blk2.alloc ?_ _) | (with_reducible refine Blk4.drew ?_) | (with_reducible refine Blk4.drewN ?_) | (with_reducible refine Blk4.alloc ?_ _)))
  have kg5 : Blk2 w5 (w4.heap.size) (hiZ (gcdW a b)) (loZ (gcdW a b)) := (by refine Blk2.keep ?_ hb5; repeat' (first | (with_reducible assumption) | ((with_reducible refine Blk2.new_at _ _ ?_); (simp; done)) | ((with_reducible refine Blk4.new_at _ _ ?_); (simp; done)) | (with_reducible refine Blk2.drew ?_) | (with_reducible refine Blk2.drewN ?_) | (with_reducible refine Blk2.alloc ?_ _) | (with_reducible refine Blk4.drew ?_) | (with_reducible refine Blk4.drewN ?_) | (with_reducible refine Blk4.alloc ?_ _)))
  clear hb5 B4 z4 ka4 ca4 da4 fa4 ga4 la4 kb4 cb4 db4 fb4 gb4 lb4 kf4 cf4 df4 ef4 hf4 ff4 gf4 if4 jf4 lf4
  have z5 := B5.size
  have ca5 := ka5.c0; have da5 := ka5.c1; have fa5 := ka5.f0; have ga5 := ka5.f1; have la5 := ka5.lt
  have cb5 := kb5.c0; have db5 := kb5.c1; have fb5 := kb5.f0; have gb5 := kb5.f1; have lb5 := kb5.lt
  have cf5 := kf5.c0; have df5 := kf5.c1; have ef5 := kf5.c2; have hf5 := kf5.c3; have ff5 := kf5.f 0; have gf5 := kf5.f 1; have if5 := kf5.f 2; have jf5 := kf5.f 3; have lf5 := kf5.lt
  have cg5 := kg5.c0; have dg5 := kg5.c1; have fg5 := kg5.f0; have gg5 := kg5.f1; have lg5 := kg5.lt
  go_wp2_with fail
  refine (rs_times (g := gcdW a b) HR.out.2.1 HG.out _).mono ?_
  rintro e w6 ⟨rfl, hb6⟩
  have B6 : Below w.heap.size w w6 := (by refine below_of ?_ hb6; go_grown)
  have ka6 : Blk2 w6 (w.heap.size) (hiZ a) (loZ a) := (by refine Blk2.keep ?_ hb6; repeat' (first | (with_reducible assumption) | ((with_reducible refine Blk2.new_at _ _ ?_); (simp; done)) | ((with_reducible refine Blk4.new_at _ _ ?_); (simp; done)) | (with_reducible refine Blk2.drew ?_) | (with_reducible refine Blk2.drewN ?_) | (with_reducible refine Blk2.alloc ?_ _) | (with_reducible refine Blk4.drew ?_) | (with_reducible refine Blk4.drewN ?_) | (with_reducible refine Blk4.alloc ?_ _)))
  have kb6 : Blk2 w6 (g1) (hiZ b) (loZ b) := (by refine Blk2.keep ?_ hb6; repeat' (first | (with_reducible assumption) | ((with_reducible refine Blk2.new_at _ _ ?_); (simp; done)) | ((with_reducible refine Blk4.new_at _ _ ?_); (simp; done)) | (with_reducible refine Blk2.drew ?_) | (with_reducible refine Blk2.drewN ?_) | (with_reducible refine Blk2.alloc ?_ _) | (with_reducible refine Blk4.drew ?_) | (with_reducible refine Blk4.drewN ?_) | (with_reducible refine Blk4.alloc ?_ _)))
  have kf6 : Blk4 w6 (w2.heap.size) (hiZ (redN a b)) (loZ (redN a b)) (hiZ (redD a b)) (loZ (redD a b)) := (by refine Blk4.keep ?_ hb6; repeat' (first | (with_reducible assumption) | ((with_reducible refine Blk2.new_at _ _ ?_); (simp; done)) | ((with_reducible refine Blk4.new_at _ _ ?_); (simp; done)) | (with_reducible refine Blk2.drew ?_) | (with_reducible refine Blk2.drewN ?_) | (with_reducible refine Blk2.alloc ?_ _) | (with_reducible refine Blk4.drew ?_) | (with_reducible refine Blk4.drewN ?_) | (with_reducible refine Blk4.alloc ?_ _)))
  have kg6 : Blk2 w6 (w4.heap.size) (hiZ (gcdW a b)) (loZ (gcdW a b)) := (by refine Blk2.keep ?_ hb6; repeat' (first | (with_reducible assumption) | ((with_reducible refine Blk2.new_at _ _ ?_); (simp; done)) | ((with_reducible refine Blk4.new_at _ _ ?_); (simp; done)) | (with_reducible refine Blk2.drew ?_) | (with_reducible refine Blk2.drewN ?_) | (with_reducible refine Blk2.alloc ?_ _) | (with_reducible refine Blk4.drew ?_) | (with_reducible refine Blk4.drewN ?_) | (with_reducible refine Blk4.alloc ?_ _)))
  have kx6 : Blk2 w6 (w5.heap.size) (hiZ a) (loZ a) := (by refine Blk2.keep ?_ hb6; repeat' (first | (with_reducible assumption) | ((with_reducible refine Blk2.new_at _ _ ?_); (simp; done)) | ((with_reducible refine Blk4.new_at _ _ ?_); (simp; done)) | (with_reducible refine Blk2.drew ?_) | (with_reducible refine Blk2.drewN ?_) | (with_reducible refine Blk2.alloc ?_ _) | (with_reducible refine Blk4.drew ?_) | (with_reducible refine Blk4.drewN ?_) | (with_reducible refine Blk4.alloc ?_ _)))
  clear hb6 B5 z5 ka5 ca5 da5 fa5 ga5 la5 kb5 cb5 db5 fb5 gb5 lb5 kf5 cf5 df5 ef5 hf5 ff5 gf5 if5 jf5 lf5 kg5 cg5 dg5 fg5 gg5 lg5
  have z6 := B6.size
  have ca6 := ka6.c0; have da6 := ka6.c1; have fa6 := ka6.f0; have ga6 := ka6.f1; have la6 := ka6.lt
  have cb6 := kb6.c0; have db6 := kb6.c1; have fb6 := kb6.f0; have gb6 := kb6.f1; have lb6 := kb6.lt
  have cf6 := kf6.c0; have df6 := kf6.c1; have ef6 := kf6.c2; have hf6 := kf6.c3; have ff6 := kf6.f 0; have gf6 := kf6.f 1; have if6 := kf6.f 2; have jf6 := kf6.f 3; have lf6 := kf6.lt
  have cg6 := kg6.c0; have dg6 := kg6.c1; have fg6 := kg6.f0; have gg6 := kg6.f1; have lg6 := kg6.lt
  have cx6 := kx6.c0; have dx6 := kx6.c1; have fx6 := kx6.f0; have gx6 := kx6.f1; have lx6 := kx6.lt
  go_wp2_with fail
  refine (times_any a k HK.out _).mono ?_
  rintro e w7 ⟨rfl, hb7⟩
  have B7 : Below w.heap.size w w7 := (by refine below_of ?_ hb7; go_grown)
  have ka7 : Blk2 w7 (w.heap.size) (hiZ a) (loZ a) := (by refine Blk2.keep ?_ hb7; repeat' (first | (with_reducible assumption) | ((with_reducible refine Blk2.new_at _ _ ?_); (simp; done)) | ((with_reducible refine Blk4.new_at _ _ ?_); (simp; done)) | (with_reducible refine Blk2.drew ?_) | (with_reducible refine Blk2.drewN ?_) | (with_reducible refine Blk2.alloc ?_ _) | (with_reducible refine Blk4.drew ?_) | (with_reducible refine Blk4.drewN ?_) | (with_reducible refine Blk4.alloc ?_ _)))
  have kb7 : Blk2 w7 (g1) (hiZ b) (loZ b) := (by refine Blk2.keep ?_ hb7; repeat' (first | (with_reducible assumption) | ((with_reducible refine Blk2.new_at _ _ ?_); (simp; done)) | ((with_reducible refine Blk4.new_at _ _ ?_); (simp; done)) | (with_reducible refine Blk2.drew ?_) | (with_reducible refine Blk2.drewN ?_) | (with_reducible refine Blk2.alloc ?_ _) | (with_reducible refine Blk4.drew ?_) | (with_reducible refine Blk4.drewN ?_) | (with_reducible refine Blk4.alloc ?_ _)))
  have kf7 : Blk4 w7 (w2.heap.size) (hiZ (redN a b)) (loZ (redN a b)) (hiZ (redD a b)) (loZ (redD a b)) := (by refine Blk4.keep ?_ hb7; repeat' (first | (with_reducible assumption) | ((with_reducible refine Blk2.new_at _ _ ?_); (simp; done)) | ((with_reducible refine Blk4.new_at _ _ ?_); (simp; done)) | (with_reducible refine Blk2.drew ?_) | (with_reducible refine Blk2.drewN ?_) | (with_reducible refine Blk2.alloc ?_ _) | (with_reducible refine Blk4.drew ?_) | (with_reducible refine Blk4.drewN ?_) | (with_reducible refine Blk4.alloc ?_ _)))
  have kg7 : Blk2 w7 (w4.heap.size) (hiZ (gcdW a b)) (loZ (gcdW a b)) := (by refine Blk2.keep ?_ hb7; repeat' (first | (with_reducible assumption) | ((with_reducible refine Blk2.new_at _ _ ?_); (simp; done)) | ((with_reducible refine Blk4.new_at _ _ ?_); (simp; done)) | (with_reducible refine Blk2.drew ?_) | (with_reducible refine Blk2.drewN ?_) | (with_reducible refine Blk2.alloc ?_ _) | (with_reducible refine Blk4.drew ?_) | (with_reducible refine Blk4.drewN ?_) | (with_reducible refine Blk4.alloc ?_ _)))
  have kx7 : Blk2 w7 (w5.heap.size) (hiZ a) (loZ a) := (by refine Blk2.keep ?_ hb7; repeat' (first | (with_reducible assumption) | ((with_reducible refine Blk2.new_at _ _ ?_); (simp; done)) | ((with_reducible refine Blk4.new_at _ _ ?_); (simp; done)) | (with_reducible refine Blk2.drew ?_) | (with_reducible refine Blk2.drewN ?_) | (with_reducible refine Blk2.alloc ?_ _) | (with_reducible refine Blk4.drew ?_) | (with_reducible refine Blk4.drewN ?_) | (with_reducible refine Blk4.alloc ?_ _)))
  have ky7 : Blk2 w7 (w6.heap.size) (hiZ b) (loZ b) := (by refine Blk2.keep ?_ hb7; repeat' (first | (with_reducible assumption) | ((with_reducible refine Blk2.new_at _ _ ?_); (simp; done)) | ((with_reducible refine Blk4.new_at _ _ ?_); (simp; done)) | (with_reducible refine Blk2.drew ?_) | (with_reducible refine Blk2.drewN ?_) | (with_reducible refine Blk2.alloc ?_ _) | (with_reducible refine Blk4.drew ?_) | (with_reducible refine Blk4.drewN ?_) | (with_reducible refine Blk4.alloc ?_ _)))
  clear hb7 B6 z6 ka6 ca6 da6 fa6 ga6 la6 kb6 cb6 db6 fb6 gb6 lb6 kf6 cf6 df6 ef6 hf6 ff6 gf6 if6 jf6 lf6 kg6 cg6 dg6 fg6 gg6 lg6 kx6 cx6 dx6 fx6 gx6 lx6
  have z7 := B7.size
  have ca7 := ka7.c0; have da7 := ka7.c1; have fa7 := ka7.f0; have ga7 := ka7.f1; have la7 := ka7.lt
  have cb7 := kb7.c0; have db7 := kb7.c1; have fb7 := kb7.f0; have gb7 := kb7.f1; have lb7 := kb7.lt
  have cf7 := kf7.c0; have df7 := kf7.c1; have ef7 := kf7.c2; have hf7 := kf7.c3; have ff7 := kf7.f 0; have gf7 := kf7.f 1; have if7 := kf7.f 2; have jf7 := kf7.f 3; have lf7 := kf7.lt
  have cg7 := kg7.c0; have dg7 := kg7.c1; have fg7 := kg7.f0; have gg7 := kg7.f1; have lg7 := kg7.lt
  have cx7 := kx7.c0; have dx7 := kx7.c1; have fx7 := kx7.f0; have gx7 := kx7.f1; have lx7 := kx7.lt
  have cy7 := ky7.c0; have dy7 := ky7.c1; have fy7 := ky7.f0; have gy7 := ky7.f1; have ly7 := ky7.lt
  go_wp2_with fail
  refine (times_any b k HK.out _).mono ?_
  rintro e w8 ⟨rfl, hb8⟩
  have B8 : Below w.heap.size w w8 := (by refine below_of ?_ hb8; go_grown)
  have ka8 : Blk2 w8 (w.heap.size) (hiZ a) (loZ a) := (by refine Blk2.keep ?_ hb8; repeat' (first | (with_reducible assumption) | ((with_reducible refine Blk2.new_at _ _ ?_); (simp; done)) | ((with_reducible refine Blk4.new_at _ _ ?_); (simp; done)) | (with_reducible refine Blk2.drew ?_) | (with_reducible refine Blk2.drewN ?_) | (with_reducible refine Blk2.alloc ?_ _) | (with_reducible refine Blk4.drew ?_) | (with_reducible refine Blk4.drewN ?_) | (with_reducible refine Blk4.alloc ?_ _)))
  have kb8 : Blk2 w8 (g1) (hiZ b) (loZ b) := (by refine Blk2.keep ?_ hb8; repeat' (first | (with_reducible assumption) | ((with_reducible refine Blk2.new_at _ _ ?_); (simp; done)) | ((with_reducible refine Blk4.new_at _ _ ?_); (simp; done)) | (with_reducible refine Blk2.drew ?_) | (with_reducible refine Blk2.drewN ?_) | (with_reducible refine Blk2.alloc ?_ _) | (with_reducible refine Blk4.drew ?_) | (with_reducible refine Blk4.drewN ?_) | (with_reducible refine Blk4.alloc ?_ _)))
  have kf8 : Blk4 w8 (w2.heap.size) (hiZ (redN a b)) (loZ (redN a b)) (hiZ (redD a b)) (loZ (redD a b)) := (by refine Blk4.keep ?_ hb8; repeat' (first | (with_reducible assumption) | ((with_reducible refine Blk2.new_at _ _ ?_); (simp; done)) | ((with_reducible refine Blk4.new_at _ _ ?_); (simp; done)) | (with_reducible refine Blk2.drew ?_) | (with_reducible refine Blk2.drewN ?_) | (with_reducible refine Blk2.alloc ?_ _) | (with_reducible refine Blk4.drew ?_) | (with_reducible refine Blk4.drewN ?_) | (with_reducible refine Blk4.alloc ?_ _)))
  have kg8 : Blk2 w8 (w4.heap.size) (hiZ (gcdW a b)) (loZ (gcdW a b)) := (by refine Blk2.keep ?_ hb8; repeat' (first | (with_reducible assumption) | ((with_reducible refine Blk2.new_at _ _ ?_); (simp; done)) | ((with_reducible refine Blk4.new_at _ _ ?_); (simp; done)) | (with_reducible refine Blk2.drew ?_) | (with_reducible refine Blk2.drewN ?_) | (with_reducible refine Blk2.alloc ?_ _) | (with_reducible refine Blk4.drew ?_) | (with_reducible refine Blk4.drewN ?_) | (with_reducible refine Blk4.alloc ?_ _)))
  have kx8 : Blk2 w8 (w5.heap.size) (hiZ a) (loZ a) := (by refine Blk2.keep ?_ hb8; repeat' (first | (with_reducible assumption) | ((with_reducible refine Blk2.new_at _ _ ?_); (simp; done)) | ((with_reducible refine Blk4.new_at _ _ ?_); (simp; done)) | (with_reducible refine Blk2.drew ?_) | (with_reducible refine Blk2.drewN ?_) | (with_reducible refine Blk2.alloc ?_ _) | (with_reducible refine Blk4.drew ?_) | (with_reducible refine Blk4.drewN ?_) | (with_reducible refine Blk4.alloc ?_ _)))
  have ky8 : Blk2 w8 (w6.heap.size) (hiZ b) (loZ b) := (by refine Blk2.keep ?_ hb8; repeat' (first | (with_reducible assumption) | ((with_reducible refine Blk2.new_at _ _ ?_); (simp; done)) | ((with_reducible refine Blk4.new_at _ _ ?_); (simp; done)) | (with_reducible refine Blk2.drew ?_) | (with_reducible refine Blk2.drewN ?_) | (with_reducible refine Blk2.alloc ?_ _) | (with_reducible refine Blk4.drew ?_) | (with_reducible refine Blk4.drewN ?_) | (with_reducible refine Blk4.alloc ?_ _)))
  have kc8 : Blk2 w8 (w7.heap.size) (hiZ (timesU a k)) (loZ (timesU a k)) := (by refine Blk2.keep ?_ hb8; repeat' (first | (with_reducible assumption) | ((with_reducible refine Blk2.new_at _ _ ?_); (simp; done)) | ((with_reducible refine Blk4.new_at _ _ ?_); (simp; done)) | (with_reducible refine Blk2.drew ?_) | (with_reducible refine Blk2.drewN ?_) | (with_reducible refine Blk2.alloc ?_ _) | (with_reducible refine Blk4.drew ?_) | (with_reducible refine Blk4.drewN ?_) | (with_reducible refine Blk4.alloc ?_ _)))
  clear hb8 B7 z7 ka7 ca7 da7 fa7 ga7 la7 kb7 cb7 db7 fb7 gb7 lb7 kf7 cf7 df7 ef7 hf7 ff7 gf7 if7 jf7 lf7 kg7 cg7 dg7 fg7 gg7 lg7 kx7 cx7 dx7 fx7 gx7 lx7 ky7 cy7 dy7 fy7 gy7 ly7
  have z8 := B8.size
  have ca8 := ka8.c0; have da8 := ka8.c1; have fa8 := ka8.f0; have ga8 := ka8.f1; have la8 := ka8.lt
  have cb8 := kb8.c0; have db8 := kb8.c1; have fb8 := kb8.f0; have gb8 := kb8.f1; have lb8 := kb8.lt
  have cf8 := kf8.c0; have df8 := kf8.c1; have ef8 := kf8.c2; have hf8 := kf8.c3; have ff8 := kf8.f 0; have gf8 := kf8.f 1; have if8 := kf8.f 2; have jf8 := kf8.f 3; have lf8 := kf8.lt
  have cg8 := kg8.c0; have dg8 := kg8.c1; have fg8 := kg8.f0; have gg8 := kg8.f1; have lg8 := kg8.lt
  have cx8 := kx8.c0; have dx8 := kx8.c1; have fx8 := kx8.f0; have gx8 := kx8.f1; have lx8 := kx8.lt
  have cy8 := ky8.c0; have dy8 := ky8.c1; have fy8 := ky8.f0; have gy8 := ky8.f1; have ly8 := ky8.lt
  have cc8 := kc8.c0; have dc8 := kc8.c1; have fc8 := kc8.f0; have gc8 := kc8.f1; have lc8 := kc8.lt
  go_wp2_with fail
  go_ret
  exact ⟨rfl, by go_grown⟩
set_option maxHeartbeats 8000000 in
set_option maxRecDepth 100000 in
theorem rsame_g_e4 (a b : U) (k : Nat) (hk : k < 18446744073709551616) (w : World) (htab : tabs w) (hb : b.n ≠ 0) (hg : hiZ (gcdW a b) = 0) (hk0 : k ≠ 0) (h3 : timesE a k = 0) (h4 : timesE b k ≠ 0) :
    Calls Tryd.prog 9 #[.agg #[.int .u64 (hiZ a), .int .u64 (loZ a)], .agg #[.int .u64 (hiZ b), .int .u64 (loZ b)], .int .u64 k] w fun e w' => e = .returned (.bool true) ∧ Below w.heap.size w w' := by
  have HT := Lib.hid htab
  have HK := Lib.hid hk
  clear htab hk
  have tk : ((k : Int) == 0) = false := by simp; omega
  have t3 : (timesE a k != 0) = false := by rw [h3]; rfl
  have t4 : (timesE b k != 0) = true := by simpa using h4
  clear hk0 h3 h4
  have HR := Lib.hid (rs_parts (a := a) hb)
  have HB := Lib.hid hb
  have tg : (hiZ (gcdW a b) == 0) = true := by simpa using hg
  have HG := Lib.hid hg
  clear hb hg
  go_enter Tryd.func9, Tryd.ntmps9
  go_wp2_with fail
  have ka0 : Blk2 ((w.alloc (.cells #[.int .u64 (hiZ a), .int .u64 (loZ a)] 24)).alloc (.cells #[.int .u64 (hiZ b), .int .u64 (loZ b)] 24)) (w.heap.size) (hiZ a) (loZ a) := (by repeat' (first | (with_reducible assumption) | ((with_reducible refine Blk2.new_at _ _ ?_); (simp; done)) | ((with_reducible refine Blk4.new_at _ _ ?_); (simp; done)) | (with_reducible refine Blk2.drew ?_) | (with_reducible refine Blk2.drewN ?_) | (with_reducible refine Blk2.alloc ?_ _) | (with_reducible refine Blk4.drew ?_) | (with_reducible refine Blk4.drewN ?_) | (with_reducible refine Blk4.alloc ?_ _)))
  have kb0 : Blk2 ((w.alloc (.cells #[.int .u64 (hiZ a), .int .u64 (loZ a)] 24)).alloc (.cells #[.int .u64 (hiZ b), .int .u64 (loZ b)] 24)) (w.heap.size + 1) (hiZ b) (loZ b) := (by repeat' (first | (with_reducible assumption) | ((with_reducible refine Blk2.new_at _ _ ?_); (simp; done)) | ((with_reducible refine Blk4.new_at _ _ ?_); (simp; done)) | (with_reducible refine Blk2.drew ?_) | (with_reducible refine Blk2.drewN ?_) | (with_reducible refine Blk2.alloc ?_ _) | (with_reducible refine Blk4.drew ?_) | (with_reducible refine Blk4.drewN ?_) | (with_reducible refine Blk4.alloc ?_ _)))
  have B0 : Below w.heap.size w ((w.alloc (.cells #[.int .u64 (hiZ a), .int .u64 (loZ a)] 24)).alloc (.cells #[.int .u64 (hiZ b), .int .u64 (loZ b)] 24)) := (by go_grown)
  have o1 : w.heap.size < w.heap.size + 1 := by omega
  generalize w.heap.size + 1 = g1 at *
  generalize ((w.alloc (.cells #[.int .u64 (hiZ a), .int .u64 (loZ a)] 24)).alloc (.cells #[.int .u64 (hiZ b), .int .u64 (loZ b)] 24)) = w0 at *
  have z0 := B0.size
  have ca0 := ka0.c0; have da0 := ka0.c1; have fa0 := ka0.f0; have ga0 := ka0.f1; have la0 := ka0.lt
  have cb0 := kb0.c0; have db0 := kb0.c1; have fb0 := kb0.f0; have gb0 := kb0.f1; have lb0 := kb0.lt
  refine (lives2_any _ (tabs_stays HT.out (by go_grown))).mono ?_
  rintro e w1 ⟨rfl, hb1⟩
  have B1 : Below w.heap.size w w1 := (by refine below_of ?_ hb1; go_grown)
  have ka1 : Blk2 w1 (w.heap.size) (hiZ a) (loZ a) := (by refine Blk2.keep ?_ hb1; repeat' (first | (with_reducible assumption) | ((with_reducible refine Blk2.new_at _ _ ?_); (simp; done)) | ((with_reducible refine Blk4.new_at _ _ ?_); (simp; done)) | (with_reducible refine Blk2.drew ?_) | (with_reducible refine Blk2.drewN ?_) | (with_reducible refine Blk2.alloc ?_ _) | (with_reducible refine Blk4.drew ?_) | (with_reducible refine Blk4.drewN ?_) | (with_reducible refine Blk4.alloc ?_ _)))
  have kb1 : Blk2 w1 (g1) (hiZ b) (loZ b) := (by refine Blk2.keep ?_ hb1; repeat' (first | (with_reducible assumption) | ((with_reducible refine Blk2.new_at _ _ ?_); (simp; done)) | ((with_reducible refine Blk4.new_at _ _ ?_); (simp; done)) | (with_reducible refine Blk2.drew ?_) | (with_reducible refine Blk2.drewN ?_) | (with_reducible refine Blk2.alloc ?_ _) | (with_reducible refine Blk4.drew ?_) | (with_reducible refine Blk4.drewN ?_) | (with_reducible refine Blk4.alloc ?_ _)))
  clear hb1 B0 z0 ka0 ca0 da0 fa0 ga0 la0 kb0 cb0 db0 fb0 gb0 lb0
  have z1 := B1.size
  have ca1 := ka1.c0; have da1 := ka1.c1; have fa1 := ka1.f0; have ga1 := ka1.f1; have la1 := ka1.lt
  have cb1 := kb1.c0; have db1 := kb1.c1; have fb1 := kb1.f0; have gb1 := kb1.f1; have lb1 := kb1.lt
  go_wp2_with fail
  refine (reduce_any a b HB.out _).mono ?_
  rintro e w2 ⟨rfl, hb2⟩
  have B2 : Below w.heap.size w w2 := (by refine below_of ?_ hb2; go_grown)
  have ka2 : Blk2 w2 (w.heap.size) (hiZ a) (loZ a) := (by refine Blk2.keep ?_ hb2; repeat' (first | (with_reducible assumption) | ((with_reducible refine Blk2.new_at _ _ ?_); (simp; done)) | ((with_reducible refine Blk4.new_at _ _ ?_); (simp; done)) | (with_reducible refine Blk2.drew ?_) | (with_reducible refine Blk2.drewN ?_) | (with_reducible refine Blk2.alloc ?_ _) | (with_reducible refine Blk4.drew ?_) | (with_reducible refine Blk4.drewN ?_) | (with_reducible refine Blk4.alloc ?_ _)))
  have kb2 : Blk2 w2 (g1) (hiZ b) (loZ b) := (by refine Blk2.keep ?_ hb2; repeat' (first | (with_reducible assumption) | ((with_reducible refine Blk2.new_at _ _ ?_); (simp; done)) | ((with_reducible refine Blk4.new_at _ _ ?_); (simp; done)) | (with_reducible refine Blk2.drew ?_) | (with_reducible refine Blk2.drewN ?_) | (with_reducible refine Blk2.alloc ?_ _) | (with_reducible refine Blk4.drew ?_) | (with_reducible refine Blk4.drewN ?_) | (with_reducible refine Blk4.alloc ?_ _)))
  clear hb2 B1 z1 ka1 ca1 da1 fa1 ga1 la1 kb1 cb1 db1 fb1 gb1 lb1
  have z2 := B2.size
  have ca2 := ka2.c0; have da2 := ka2.c1; have fa2 := ka2.f0; have ga2 := ka2.f1; have la2 := ka2.lt
  have cb2 := kb2.c0; have db2 := kb2.c1; have fb2 := kb2.f0; have gb2 := kb2.f1; have lb2 := kb2.lt
  go_wp2_with fail
  refine (rs_check HR.out.2.2.2 _).mono ?_
  rintro e w3 ⟨rfl, hb3⟩
  have B3 : Below w.heap.size w w3 := (by refine below_of ?_ hb3; go_grown)
  have ka3 : Blk2 w3 (w.heap.size) (hiZ a) (loZ a) := (by refine Blk2.keep ?_ hb3; repeat' (first | (with_reducible assumption) | ((with_reducible refine Blk2.new_at _ _ ?_); (simp; done)) | ((with_reducible refine Blk4.new_at _ _ ?_); (simp; done)) | (with_reducible refine Blk2.drew ?_) | (with_reducible refine Blk2.drewN ?_) | (with_reducible refine Blk2.alloc ?_ _) | (with_reducible refine Blk4.drew ?_) | (with_reducible refine Blk4.drewN ?_) | (with_reducible refine Blk4.alloc ?_ _)))
  have kb3 : Blk2 w3 (g1) (hiZ b) (loZ b) := (by refine Blk2.keep ?_ hb3; repeat' (first | (with_reducible assumption) | ((with_reducible refine Blk2.new_at _ _ ?_); (simp; done)) | ((with_reducible refine Blk4.new_at _ _ ?_); (simp; done)) | (with_reducible refine Blk2.drew ?_) | (with_reducible refine Blk2.drewN ?_) | (with_reducible refine Blk2.alloc ?_ _) | (with_reducible refine Blk4.drew ?_) | (with_reducible refine Blk4.drewN ?_) | (with_reducible refine Blk4.alloc ?_ _)))
  have kf3 : Blk4 w3 (w2.heap.size) (hiZ (redN a b)) (loZ (redN a b)) (hiZ (redD a b)) (loZ (redD a b)) := (by refine Blk4.keep ?_ hb3; repeat' (first | (with_reducible assumption) | ((with_reducible refine Blk2.new_at _ _ ?_); (simp; done)) | ((with_reducible refine Blk4.new_at _ _ ?_); (simp; done)) | (with_reducible refine Blk2.drew ?_) | (with_reducible refine Blk2.drewN ?_) | (with_reducible refine Blk2.alloc ?_ _) | (with_reducible refine Blk4.drew ?_) | (with_reducible refine Blk4.drewN ?_) | (with_reducible refine Blk4.alloc ?_ _)))
  clear hb3 B2 z2 ka2 ca2 da2 fa2 ga2 la2 kb2 cb2 db2 fb2 gb2 lb2
  have z3 := B3.size
  have ca3 := ka3.c0; have da3 := ka3.c1; have fa3 := ka3.f0; have ga3 := ka3.f1; have la3 := ka3.lt
  have cb3 := kb3.c0; have db3 := kb3.c1; have fb3 := kb3.f0; have gb3 := kb3.f1; have lb3 := kb3.lt
  have cf3 := kf3.c0; have df3 := kf3.c1; have ef3 := kf3.c2; have hf3 := kf3.c3; have ff3 := kf3.f 0; have gf3 := kf3.f 1; have if3 := kf3.f 2; have jf3 := kf3.f 3; have lf3 := kf3.lt
  go_wp2_with fail
  refine (gcd_any a b _).mono ?_
  rintro e w4 ⟨rfl, hb4⟩
  have B4 : Below w.heap.size w w4 := (by refine below_of ?_ hb4; go_grown)
  have ka4 : Blk2 w4 (w.heap.size) (hiZ a) (loZ a) := (by refine Blk2.keep ?_ hb4; repeat' (first | (with_reducible assumption) | ((with_reducible refine Blk2.new_at _ _ ?_); (simp; done)) | ((with_reducible refine Blk4.new_at _ _ ?_); (simp; done)) | (with_reducible refine Blk2.drew ?_) | (with_reducible refine Blk2.drewN ?_) | (with_reducible refine Blk2.alloc ?_ _) | (with_reducible refine Blk4.drew ?_) | (with_reducible refine Blk4.drewN ?_) | (with_reducible refine Blk4.alloc ?_ _)))
  have kb4 : Blk2 w4 (g1) (hiZ b) (loZ b) := (by refine Blk2.keep ?_ hb4; repeat' (first | (with_reducible assumption) | ((with_reducible refine Blk2.new_at _ _ ?_); (simp; done)) | ((with_reducible refine Blk4.new_at _ _ ?_); (simp; done)) | (with_reducible refine Blk2.drew ?_) | (with_reducible refine Blk2.drewN ?_) | (with_reducible refine Blk2.alloc ?_ _) | (with_reducible refine Blk4.drew ?_) | (with_reducible refine Blk4.drewN ?_) | (with_reducible refine Blk4.alloc ?_ _)))
  have kf4 : Blk4 w4 (w2.heap.size) (hiZ (redN a b)) (loZ (redN a b)) (hiZ (redD a b)) (loZ (redD a b)) := (by refine Blk4.keep ?_ hb4; repeat' (first | (with_reducible assumption) | ((with_reducible refine Blk2.new_at _ _ ?_); (simp; done)) | ((with_reducible refine Blk4.new_at _ _ ?_); (simp; done)) | (with_reducible refine Blk2.drew ?_) | (with_reducible refine Blk2.drewN ?_) | (with_reducible refine Blk2.alloc ?_ _) | (with_reducible refine Blk4.drew ?_) | (with_reducible refine Blk4.drewN ?_) | (with_reducible refine Blk4.alloc ?_ _)))
  clear hb4 B3 z3 ka3 ca3 da3 fa3 ga3 la3 kb3 cb3 db3 fb3 gb3 lb3 kf3 cf3 df3 ef3 hf3 ff3 gf3 if3 jf3 lf3
  have z4 := B4.size
  have ca4 := ka4.c0; have da4 := ka4.c1; have fa4 := ka4.f0; have ga4 := ka4.f1; have la4 := ka4.lt
  have cb4 := kb4.c0; have db4 := kb4.c1; have fb4 := kb4.f0; have gb4 := kb4.f1; have lb4 := kb4.lt
  have cf4 := kf4.c0; have df4 := kf4.c1; have ef4 := kf4.c2; have hf4 := kf4.c3; have ff4 := kf4.f 0; have gf4 := kf4.f 1; have if4 := kf4.f 2; have jf4 := kf4.f 3; have lf4 := kf4.lt
  go_wp2_with fail
  refine (rs_times (g := gcdW a b) HR.out.1 HG.out _).mono ?_
  rintro e w5 ⟨rfl, hb5⟩
  have B5 : Below w.heap.size w w5 := (by refine below_of ?_ hb5; go_grown)
  have ka5 : Blk2 w5 (w.heap.size) (hiZ a) (loZ a) := (by refine Blk2.keep ?_ hb5; repeat' (first | (with_reducible assumption) | ((with_reducible refine Blk2.new_at _ _ ?_); (simp; done)) | ((with_reducible refine Blk4.new_at _ _ ?_); (simp; done)) | (with_reducible refine Blk2.drew ?_) | (with_reducible refine Blk2.drewN ?_) | (with_reducible refine Blk2.alloc ?_ _) | (with_reducible refine Blk4.drew ?_) | (with_reducible refine Blk4.drewN ?_) | (with_reducible refine Blk4.alloc ?_ _)))
  have kb5 : Blk2 w5 (g1) (hiZ b) (loZ b) := (by refine Blk2.keep ?_ hb5; repeat' (first | (with_reducible assumption) | ((with_reducible refine Blk2.new_at _ _ ?_); (simp; done)) | ((with_reducible refine Blk4.new_at _ _ ?_); (simp; done)) | (with_reducible refine Blk2.drew ?_) | (with_reducible refine Blk2.drewN ?_) | (with_reducible refine Blk2.alloc ?_ _) | (with_reducible refine Blk4.drew ?_) | (with_reducible refine Blk4.drewN ?_) | (with_reducible refine Blk4.alloc ?_ _)))
  have kf5 : Blk4 w5 (w2.heap.size) (hiZ (redN a b)) (loZ (redN a b)) (hiZ (redD a b)) (loZ (redD a b)) := (by refine Blk4.keep ?_ hb5; repeat' (first | (with_reducible assumption) | ((with_reducible refine Blk2.new_at _ _ ?_); (simp; done)) | ((with_reducible refine Blk4.new_at _ _ ?_); (simp; done)) | (with_reducible refine Blk2.drew ?_) | (with_reducible refine Blk2.drewN ?_) | (with_reducible refine Blk2.alloc ?_ _) | (with_reducible refine Blk4.drew ?_) | (with_reducible refine Blk4.drewN ?_) | (with_reducible refine Blk4.alloc ?_ _)))
  have kg5 : Blk2 w5 (w4.heap.size) (hiZ (gcdW a b)) (loZ (gcdW a b)) := (by refine Blk2.keep ?_ hb5; repeat' (first | (with_reducible assumption) | ((with_reducible refine Blk2.new_at _ _ ?_); (simp; done)) | ((with_reducible refine Blk4.new_at _ _ ?_); (simp; done)) | (with_reducible refine Blk2.drew ?_) | (with_reducible refine Blk2.drewN ?_) | (with_reducible refine Blk2.alloc ?_ _) | (with_reducible refine Blk4.drew ?_) | (with_reducible refine Blk4.drewN ?_) | (with_reducible refine Blk4.alloc ?_ _)))
  clear hb5 B4 z4 ka4 ca4 da4 fa4 ga4 la4 kb4 cb4 db4 fb4 gb4 lb4 kf4 cf4 df4 ef4 hf4 ff4 gf4 if4 jf4 lf4
  have z5 := B5.size
  have ca5 := ka5.c0; have da5 := ka5.c1; have fa5 := ka5.f0; have ga5 := ka5.f1; have la5 := ka5.lt
  have cb5 := kb5.c0; have db5 := kb5.c1; have fb5 := kb5.f0; have gb5 := kb5.f1; have lb5 := kb5.lt
  have cf5 := kf5.c0; have df5 := kf5.c1; have ef5 := kf5.c2; have hf5 := kf5.c3; have ff5 := kf5.f 0; have gf5 := kf5.f 1; have if5 := kf5.f 2; have jf5 := kf5.f 3; have lf5 := kf5.lt
  have cg5 := kg5.c0; have dg5 := kg5.c1; have fg5 := kg5.f0; have gg5 := kg5.f1; have lg5 := kg5.lt
  go_wp2_with fail
  refine (rs_times (g := gcdW a b) HR.out.2.1 HG.out _).mono ?_
  rintro e w6 ⟨rfl, hb6⟩
  have B6 : Below w.heap.size w w6 := (by refine below_of ?_ hb6; go_grown)
  have ka6 : Blk2 w6 (w.heap.size) (hiZ a) (loZ a) := (by refine Blk2.keep ?_ hb6; repeat' (first | (with_reducible assumption) | ((with_reducible refine Blk2.new_at _ _ ?_); (simp; done)) | ((with_reducible refine Blk4.new_at _ _ ?_); (simp; done)) | (with_reducible refine Blk2.drew ?_) | (with_reducible refine Blk2.drewN ?_) | (with_reducible refine Blk2.alloc ?_ _) | (with_reducible refine Blk4.drew ?_) | (with_reducible refine Blk4.drewN ?_) | (with_reducible refine Blk4.alloc ?_ _)))
  have kb6 : Blk2 w6 (g1) (hiZ b) (loZ b) := (by refine Blk2.keep ?_ hb6; repeat' (first | (with_reducible assumption) | ((with_reducible refine Blk2.new_at _ _ ?_); (simp; done)) | ((with_reducible refine Blk4.new_at _ _ ?_); (simp; done)) | (with_reducible refine Blk2.drew ?_) | (with_reducible refine Blk2.drewN ?_) | (with_reducible refine Blk2.alloc ?_ _) | (with_reducible refine Blk4.drew ?_) | (with_reducible refine Blk4.drewN ?_) | (with_reducible refine Blk4.alloc ?_ _)))
  have kf6 : Blk4 w6 (w2.heap.size) (hiZ (redN a b)) (loZ (redN a b)) (hiZ (redD a b)) (loZ (redD a b)) := (by refine Blk4.keep ?_ hb6; repeat' (first | (with_reducible assumption) | ((with_reducible refine Blk2.new_at _ _ ?_); (simp; done)) | ((with_reducible refine Blk4.new_at _ _ ?_); (simp; done)) | (with_reducible refine Blk2.drew ?_) | (with_reducible refine Blk2.drewN ?_) | (with_reducible refine Blk2.alloc ?_ _) | (with_reducible refine Blk4.drew ?_) | (with_reducible refine Blk4.drewN ?_) | (with_reducible refine Blk4.alloc ?_ _)))
  have kg6 : Blk2 w6 (w4.heap.size) (hiZ (gcdW a b)) (loZ (gcdW a b)) := (by refine Blk2.keep ?_ hb6; repeat' (first | (with_reducible assumption) | ((with_reducible refine Blk2.new_at _ _ ?_); (simp; done)) | ((with_reducible refine Blk4.new_at _ _ ?_); (simp; done)) | (with_reducible refine Blk2.drew ?_) | (with_reducible refine Blk2.drewN ?_) | (with_reducible refine Blk2.alloc ?_ _) | (with_reducible refine Blk4.drew ?_) | (with_reducible refine Blk4.drewN ?_) | (with_reducible refine Blk4.alloc ?_ _)))
  have kx6 : Blk2 w6 (w5.heap.size) (hiZ a) (loZ a) := (by refine Blk2.keep ?_ hb6; repeat' (first | (with_reducible assumption) | ((with_reducible refine Blk2.new_at _ _ ?_); (simp; done)) | ((with_reducible refine Blk4.new_at _ _ ?_); (simp; done)) | (with_reducible refine Blk2.drew ?_) | (with_reducible refine Blk2.drewN ?_) | (with_reducible refine Blk2.alloc ?_ _) | (with_reducible refine Blk4.drew ?_) | (with_reducible refine Blk4.drewN ?_) | (with_reducible refine Blk4.alloc ?_ _)))
  clear hb6 B5 z5 ka5 ca5 da5 fa5 ga5 la5 kb5 cb5 db5 fb5 gb5 lb5 kf5 cf5 df5 ef5 hf5 ff5 gf5 if5 jf5 lf5 kg5 cg5 dg5 fg5 gg5 lg5
  have z6 := B6.size
  have ca6 := ka6.c0; have da6 := ka6.c1; have fa6 := ka6.f0; have ga6 := ka6.f1; have la6 := ka6.lt
  have cb6 := kb6.c0; have db6 := kb6.c1; have fb6 := kb6.f0; have gb6 := kb6.f1; have lb6 := kb6.lt
  have cf6 := kf6.c0; have df6 := kf6.c1; have ef6 := kf6.c2; have hf6 := kf6.c3; have ff6 := kf6.f 0; have gf6 := kf6.f 1; have if6 := kf6.f 2; have jf6 := kf6.f 3; have lf6 := kf6.lt
  have cg6 := kg6.c0; have dg6 := kg6.c1; have fg6 := kg6.f0; have gg6 := kg6.f1; have lg6 := kg6.lt
  have cx6 := kx6.c0; have dx6 := kx6.c1; have fx6 := kx6.f0; have gx6 := kx6.f1; have lx6 := kx6.lt
  go_wp2_with fail
  refine (times_any a k HK.out _).mono ?_
  rintro e w7 ⟨rfl, hb7⟩
  have B7 : Below w.heap.size w w7 := (by refine below_of ?_ hb7; go_grown)
  have ka7 : Blk2 w7 (w.heap.size) (hiZ a) (loZ a) := (by refine Blk2.keep ?_ hb7; repeat' (first | (with_reducible assumption) | ((with_reducible refine Blk2.new_at _ _ ?_); (simp; done)) | ((with_reducible refine Blk4.new_at _ _ ?_); (simp; done)) | (with_reducible refine Blk2.drew ?_) | (with_reducible refine Blk2.drewN ?_) | (with_reducible refine Blk2.alloc ?_ _) | (with_reducible refine Blk4.drew ?_) | (with_reducible refine Blk4.drewN ?_) | (with_reducible refine Blk4.alloc ?_ _)))
  have kb7 : Blk2 w7 (g1) (hiZ b) (loZ b) := (by refine Blk2.keep ?_ hb7; repeat' (first | (with_reducible assumption) | ((with_reducible refine Blk2.new_at _ _ ?_); (simp; done)) | ((with_reducible refine Blk4.new_at _ _ ?_); (simp; done)) | (with_reducible refine Blk2.drew ?_) | (with_reducible refine Blk2.drewN ?_) | (with_reducible refine Blk2.alloc ?_ _) | (with_reducible refine Blk4.drew ?_) | (with_reducible refine Blk4.drewN ?_) | (with_reducible refine Blk4.alloc ?_ _)))
  have kf7 : Blk4 w7 (w2.heap.size) (hiZ (redN a b)) (loZ (redN a b)) (hiZ (redD a b)) (loZ (redD a b)) := (by refine Blk4.keep ?_ hb7; repeat' (first | (with_reducible assumption) | ((with_reducible refine Blk2.new_at _ _ ?_); (simp; done)) | ((with_reducible refine Blk4.new_at _ _ ?_); (simp; done)) | (with_reducible refine Blk2.drew ?_) | (with_reducible refine Blk2.drewN ?_) | (with_reducible refine Blk2.alloc ?_ _) | (with_reducible refine Blk4.drew ?_) | (with_reducible refine Blk4.drewN ?_) | (with_reducible refine Blk4.alloc ?_ _)))
  have kg7 : Blk2 w7 (w4.heap.size) (hiZ (gcdW a b)) (loZ (gcdW a b)) := (by refine Blk2.keep ?_ hb7; repeat' (first | (with_reducible assumption) | ((with_reducible refine Blk2.new_at _ _ ?_); (simp; done)) | ((with_reducible refine Blk4.new_at _ _ ?_); (simp; done)) | (with_reducible refine Blk2.drew ?_) | (with_reducible refine Blk2.drewN ?_) | (with_reducible refine Blk2.alloc ?_ _) | (with_reducible refine Blk4.drew ?_) | (with_reducible refine Blk4.drewN ?_) | (with_reducible refine Blk4.alloc ?_ _)))
  have kx7 : Blk2 w7 (w5.heap.size) (hiZ a) (loZ a) := (by refine Blk2.keep ?_ hb7; repeat' (first | (with_reducible assumption) | ((with_reducible refine Blk2.new_at _ _ ?_); (simp; done)) | ((with_reducible refine Blk4.new_at _ _ ?_); (simp; done)) | (with_reducible refine Blk2.drew ?_) | (with_reducible refine Blk2.drewN ?_) | (with_reducible refine Blk2.alloc ?_ _) | (with_reducible refine Blk4.drew ?_) | (with_reducible refine Blk4.drewN ?_) | (with_reducible refine Blk4.alloc ?_ _)))
  have ky7 : Blk2 w7 (w6.heap.size) (hiZ b) (loZ b) := (by refine Blk2.keep ?_ hb7; repeat' (first | (with_reducible assumption) | ((with_reducible refine Blk2.new_at _ _ ?_); (simp; done)) | ((with_reducible refine Blk4.new_at _ _ ?_); (simp; done)) | (with_reducible refine Blk2.drew ?_) | (with_reducible refine Blk2.drewN ?_) | (with_reducible refine Blk2.alloc ?_ _) | (with_reducible refine Blk4.drew ?_) | (with_reducible refine Blk4.drewN ?_) | (with_reducible refine Blk4.alloc ?_ _)))
  clear hb7 B6 z6 ka6 ca6 da6 fa6 ga6 la6 kb6 cb6 db6 fb6 gb6 lb6 kf6 cf6 df6 ef6 hf6 ff6 gf6 if6 jf6 lf6 kg6 cg6 dg6 fg6 gg6 lg6 kx6 cx6 dx6 fx6 gx6 lx6
  have z7 := B7.size
  have ca7 := ka7.c0; have da7 := ka7.c1; have fa7 := ka7.f0; have ga7 := ka7.f1; have la7 := ka7.lt
  have cb7 := kb7.c0; have db7 := kb7.c1; have fb7 := kb7.f0; have gb7 := kb7.f1; have lb7 := kb7.lt
  have cf7 := kf7.c0; have df7 := kf7.c1; have ef7 := kf7.c2; have hf7 := kf7.c3; have ff7 := kf7.f 0; have gf7 := kf7.f 1; have if7 := kf7.f 2; have jf7 := kf7.f 3; have lf7 := kf7.lt
  have cg7 := kg7.c0; have dg7 := kg7.c1; have fg7 := kg7.f0; have gg7 := kg7.f1; have lg7 := kg7.lt
  have cx7 := kx7.c0; have dx7 := kx7.c1; have fx7 := kx7.f0; have gx7 := kx7.f1; have lx7 := kx7.lt
  have cy7 := ky7.c0; have dy7 := ky7.c1; have fy7 := ky7.f0; have gy7 := ky7.f1; have ly7 := ky7.lt
  go_wp2_with fail
  refine (times_any b k HK.out _).mono ?_
  rintro e w8 ⟨rfl, hb8⟩
  have B8 : Below w.heap.size w w8 := (by refine below_of ?_ hb8; go_grown)
  have ka8 : Blk2 w8 (w.heap.size) (hiZ a) (loZ a) := (by refine Blk2.keep ?_ hb8; repeat' (first | (with_reducible assumption) | ((with_reducible refine Blk2.new_at _ _ ?_); (simp; done)) | ((with_reducible refine Blk4.new_at _ _ ?_); (simp; done)) | (with_reducible refine Blk2.drew ?_) | (with_reducible refine Blk2.drewN ?_) | (with_reducible refine Blk2.alloc ?_ _) | (with_reducible refine Blk4.drew ?_) | (with_reducible refine Blk4.drewN ?_) | (with_reducible refine Blk4.alloc ?_ _)))
  have kb8 : Blk2 w8 (g1) (hiZ b) (loZ b) := (by refine Blk2.keep ?_ hb8; repeat' (first | (with_reducible assumption) | ((with_reducible refine Blk2.new_at _ _ ?_); (simp; done)) | ((with_reducible refine Blk4.new_at _ _ ?_); (simp; done)) | (with_reducible refine Blk2.drew ?_) | (with_reducible refine Blk2.drewN ?_) | (with_reducible refine Blk2.alloc ?_ _) | (with_reducible refine Blk4.drew ?_) | (with_reducible refine Blk4.drewN ?_) | (with_reducible refine Blk4.alloc ?_ _)))
  have kf8 : Blk4 w8 (w2.heap.size) (hiZ (redN a b)) (loZ (redN a b)) (hiZ (redD a b)) (loZ (redD a b)) := (by refine Blk4.keep ?_ hb8; repeat' (first | (with_reducible assumption) | ((with_reducible refine Blk2.new_at _ _ ?_); (simp; done)) | ((with_reducible refine Blk4.new_at _ _ ?_); (simp; done)) | (with_reducible refine Blk2.drew ?_) | (with_reducible refine Blk2.drewN ?_) | (with_reducible refine Blk2.alloc ?_ _) | (with_reducible refine Blk4.drew ?_) | (with_reducible refine Blk4.drewN ?_) | (with_reducible refine Blk4.alloc ?_ _)))
  have kg8 : Blk2 w8 (w4.heap.size) (hiZ (gcdW a b)) (loZ (gcdW a b)) := (by refine Blk2.keep ?_ hb8; repeat' (first | (with_reducible assumption) | ((with_reducible refine Blk2.new_at _ _ ?_); (simp; done)) | ((with_reducible refine Blk4.new_at _ _ ?_); (simp; done)) | (with_reducible refine Blk2.drew ?_) | (with_reducible refine Blk2.drewN ?_) | (with_reducible refine Blk2.alloc ?_ _) | (with_reducible refine Blk4.drew ?_) | (with_reducible refine Blk4.drewN ?_) | (with_reducible refine Blk4.alloc ?_ _)))
  have kx8 : Blk2 w8 (w5.heap.size) (hiZ a) (loZ a) := (by refine Blk2.keep ?_ hb8; repeat' (first | (with_reducible assumption) | ((with_reducible refine Blk2.new_at _ _ ?_); (simp; done)) | ((with_reducible refine Blk4.new_at _ _ ?_); (simp; done)) | (with_reducible refine Blk2.drew ?_) | (with_reducible refine Blk2.drewN ?_) | (with_reducible refine Blk2.alloc ?_ _) | (with_reducible refine Blk4.drew ?_) | (with_reducible refine Blk4.drewN ?_) | (with_reducible refine Blk4.alloc ?_ _)))
  have ky8 : Blk2 w8 (w6.heap.size) (hiZ b) (loZ b) := (by refine Blk2.keep ?_ hb8; repeat' (first | (with_reducible assumption) | ((with_reducible refine Blk2.new_at _ _ ?_); (simp; done)) | ((with_reducible refine Blk4.new_at _ _ ?_); (simp; done)) | (with_reducible refine Blk2.drew ?_) | (with_reducible refine Blk2.drewN ?_) | (with_reducible refine Blk2.alloc ?_ _) | (with_reducible refine Blk4.drew ?_) | (with_reducible refine Blk4.drewN ?_) | (with_reducible refine Blk4.alloc ?_ _)))
  have kc8 : Blk2 w8 (w7.heap.size) (hiZ (timesU a k)) (loZ (timesU a k)) := (by refine Blk2.keep ?_ hb8; repeat' (first | (with_reducible assumption) | ((with_reducible refine Blk2.new_at _ _ ?_); (simp; done)) | ((with_reducible refine Blk4.new_at _ _ ?_); (simp; done)) | (with_reducible refine Blk2.drew ?_) | (with_reducible refine Blk2.drewN ?_) | (with_reducible refine Blk2.alloc ?_ _) | (with_reducible refine Blk4.drew ?_) | (with_reducible refine Blk4.drewN ?_) | (with_reducible refine Blk4.alloc ?_ _)))
  clear hb8 B7 z7 ka7 ca7 da7 fa7 ga7 la7 kb7 cb7 db7 fb7 gb7 lb7 kf7 cf7 df7 ef7 hf7 ff7 gf7 if7 jf7 lf7 kg7 cg7 dg7 fg7 gg7 lg7 kx7 cx7 dx7 fx7 gx7 lx7 ky7 cy7 dy7 fy7 gy7 ly7
  have z8 := B8.size
  have ca8 := ka8.c0; have da8 := ka8.c1; have fa8 := ka8.f0; have ga8 := ka8.f1; have la8 := ka8.lt
  have cb8 := kb8.c0; have db8 := kb8.c1; have fb8 := kb8.f0; have gb8 := kb8.f1; have lb8 := kb8.lt
  have cf8 := kf8.c0; have df8 := kf8.c1; have ef8 := kf8.c2; have hf8 := kf8.c3; have ff8 := kf8.f 0; have gf8 := kf8.f 1; have if8 := kf8.f 2; have jf8 := kf8.f 3; have lf8 := kf8.lt
  have cg8 := kg8.c0; have dg8 := kg8.c1; have fg8 := kg8.f0; have gg8 := kg8.f1; have lg8 := kg8.lt
  have cx8 := kx8.c0; have dx8 := kx8.c1; have fx8 := kx8.f0; have gx8 := kx8.f1; have lx8 := kx8.lt
  have cy8 := ky8.c0; have dy8 := ky8.c1; have fy8 := ky8.f0; have gy8 := ky8.f1; have ly8 := ky8.lt
  have cc8 := kc8.c0; have dc8 := kc8.c1; have fc8 := kc8.f0; have gc8 := kc8.f1; have lc8 := kc8.lt
  go_wp2_with fail
  go_ret
  exact ⟨rfl, by go_grown⟩
set_option maxHeartbeats 8000000 in
set_option maxRecDepth 100000 in
theorem rsame_g_ok (a b : U) (k : Nat) (hk : k < 18446744073709551616) (w : World) (htab : tabs w) (hb : b.n ≠ 0) (hg : hiZ (gcdW a b) = 0) (hk0 : k ≠ 0) (h3 : a.n * k < 340282366920938463463374607431768211456) (h4 : b.n * k < 340282366920938463463374607431768211456) :
    Calls Tryd.prog 9 #[.agg #[.int .u64 (hiZ a), .int .u64 (loZ a)], .agg #[.int .u64 (hiZ b), .int .u64 (loZ b)], .int .u64 k] w fun e w' => e = .returned (.bool true) ∧ Below w.heap.size w w' := by
  have HT := Lib.hid htab
  have HK := Lib.hid hk
  clear htab hk
  have tk : ((k : Int) == 0) = false := by simp; omega
  have t3 : (timesE a k != 0) = false := by rw [show timesE a k = 0 from cutE_lt h3]; rfl
  have t4 : (timesE b k != 0) = false := by rw [show timesE b k = 0 from cutE_lt h4]; rfl
  have HS := Lib.hid (rs_same (a := a) hb hk0 h3 h4)
  clear hk0 h3 h4
  have HR := Lib.hid (rs_parts (a := a) hb)
  have HB := Lib.hid hb
  have tg : (hiZ (gcdW a b) == 0) = true := by simpa using hg
  have HG := Lib.hid hg
  clear hb hg
  go_enter Tryd.func9, Tryd.ntmps9
  go_wp2_with fail
  have ka0 : Blk2 ((w.alloc (.cells #[.int .u64 (hiZ a), .int .u64 (loZ a)] 24)).alloc (.cells #[.int .u64 (hiZ b), .int .u64 (loZ b)] 24)) (w.heap.size) (hiZ a) (loZ a) := (by repeat' (first | (with_reducible assumption) | ((with_reducible refine Blk2.new_at _ _ ?_); (simp; done)) | ((with_reducible refine Blk4.new_at _ _ ?_); (simp; done)) | (with_reducible refine Blk2.drew ?_) | (with_reducible refine Blk2.drewN ?_) | (with_reducible refine Blk2.alloc ?_ _) | (with_reducible refine Blk4.drew ?_) | (with_reducible refine Blk4.drewN ?_) | (with_reducible refine Blk4.alloc ?_ _)))
  have kb0 : Blk2 ((w.alloc (.cells #[.int .u64 (hiZ a), .int .u64 (loZ a)] 24)).alloc (.cells #[.int .u64 (hiZ b), .int .u64 (loZ b)] 24)) (w.heap.size + 1) (hiZ b) (loZ b) := (by repeat' (first | (with_reducible assumption) | ((with_reducible refine Blk2.new_at _ _ ?_); (simp; done)) | ((with_reducible refine Blk4.new_at _ _ ?_); (simp; done)) | (with_reducible refine Blk2.drew ?_) | (with_reducible refine Blk2.drewN ?_) | (with_reducible refine Blk2.alloc ?_ _) | (with_reducible refine Blk4.drew ?_) | (with_reducible refine Blk4.drewN ?_) | (with_reducible refine Blk4.alloc ?_ _)))
  have B0 : Below w.heap.size w ((w.alloc (.cells #[.int .u64 (hiZ a), .int .u64 (loZ a)] 24)).alloc (.cells #[.int .u64 (hiZ b), .int .u64 (loZ b)] 24)) := (by go_grown)
  have o1 : w.heap.size < w.heap.size + 1 := by omega
  generalize w.heap.size + 1 = g1 at *
  generalize ((w.alloc (.cells #[.int .u64 (hiZ a), .int .u64 (loZ a)] 24)).alloc (.cells #[.int .u64 (hiZ b), .int .u64 (loZ b)] 24)) = w0 at *
  have z0 := B0.size
  have ca0 := ka0.c0; have da0 := ka0.c1; have fa0 := ka0.f0; have ga0 := ka0.f1; have la0 := ka0.lt
  have cb0 := kb0.c0; have db0 := kb0.c1; have fb0 := kb0.f0; have gb0 := kb0.f1; have lb0 := kb0.lt
  refine (lives2_any _ (tabs_stays HT.out (by go_grown))).mono ?_
  rintro e w1 ⟨rfl, hb1⟩
  have B1 : Below w.heap.size w w1 := (by refine below_of ?_ hb1; go_grown)
  have ka1 : Blk2 w1 (w.heap.size) (hiZ a) (loZ a) := (by refine Blk2.keep ?_ hb1; repeat' (first | (with_reducible assumption) | ((with_reducible refine Blk2.new_at _ _ ?_); (simp; done)) | ((with_reducible refine Blk4.new_at _ _ ?_); (simp; done)) | (with_reducible refine Blk2.drew ?_) | (with_reducible refine Blk2.drewN ?_) | (with_reducible refine Blk2.alloc ?_ _) | (with_reducible refine Blk4.drew ?_) | (with_reducible refine Blk4.drewN ?_) | (with_reducible refine Blk4.alloc ?_ _)))
  have kb1 : Blk2 w1 (g1) (hiZ b) (loZ b) := (by refine Blk2.keep ?_ hb1; repeat' (first | (with_reducible assumption) | ((with_reducible refine Blk2.new_at _ _ ?_); (simp; done)) | ((with_reducible refine Blk4.new_at _ _ ?_); (simp; done)) | (with_reducible refine Blk2.drew ?_) | (with_reducible refine Blk2.drewN ?_) | (with_reducible refine Blk2.alloc ?_ _) | (with_reducible refine Blk4.drew ?_) | (with_reducible refine Blk4.drewN ?_) | (with_reducible refine Blk4.alloc ?_ _)))
  clear hb1 B0 z0 ka0 ca0 da0 fa0 ga0 la0 kb0 cb0 db0 fb0 gb0 lb0
  have z1 := B1.size
  have ca1 := ka1.c0; have da1 := ka1.c1; have fa1 := ka1.f0; have ga1 := ka1.f1; have la1 := ka1.lt
  have cb1 := kb1.c0; have db1 := kb1.c1; have fb1 := kb1.f0; have gb1 := kb1.f1; have lb1 := kb1.lt
  go_wp2_with fail
  refine (reduce_any a b HB.out _).mono ?_
  rintro e w2 ⟨rfl, hb2⟩
  have B2 : Below w.heap.size w w2 := (by refine below_of ?_ hb2; go_grown)
  have ka2 : Blk2 w2 (w.heap.size) (hiZ a) (loZ a) := (by refine Blk2.keep ?_ hb2; repeat' (first | (with_reducible assumption) | ((with_reducible refine Blk2.new_at _ _ ?_); (simp; done)) | ((with_reducible refine Blk4.new_at _ _ ?_); (simp; done)) | (with_reducible refine Blk2.drew ?_) | (with_reducible refine Blk2.drewN ?_) | (with_reducible refine Blk2.alloc ?_ _) | (with_reducible refine Blk4.drew ?_) | (with_reducible refine Blk4.drewN ?_) | (with_reducible refine Blk4.alloc ?_ _)))
  have kb2 : Blk2 w2 (g1) (hiZ b) (loZ b) := (by refine Blk2.keep ?_ hb2; repeat' (first | (with_reducible assumption) | ((with_reducible refine Blk2.new_at _ _ ?_); (simp; done)) | ((with_reducible refine Blk4.new_at _ _ ?_); (simp; done)) | (with_reducible refine Blk2.drew ?_) | (with_reducible refine Blk2.drewN ?_) | (with_reducible refine Blk2.alloc ?_ _) | (with_reducible refine Blk4.drew ?_) | (with_reducible refine Blk4.drewN ?_) | (with_reducible refine Blk4.alloc ?_ _)))
  clear hb2 B1 z1 ka1 ca1 da1 fa1 ga1 la1 kb1 cb1 db1 fb1 gb1 lb1
  have z2 := B2.size
  have ca2 := ka2.c0; have da2 := ka2.c1; have fa2 := ka2.f0; have ga2 := ka2.f1; have la2 := ka2.lt
  have cb2 := kb2.c0; have db2 := kb2.c1; have fb2 := kb2.f0; have gb2 := kb2.f1; have lb2 := kb2.lt
  go_wp2_with fail
  refine (rs_check HR.out.2.2.2 _).mono ?_
  rintro e w3 ⟨rfl, hb3⟩
  have B3 : Below w.heap.size w w3 := (by refine below_of ?_ hb3; go_grown)
  have ka3 : Blk2 w3 (w.heap.size) (hiZ a) (loZ a) := (by refine Blk2.keep ?_ hb3; repeat' (first | (with_reducible assumption) | ((with_reducible refine Blk2.new_at _ _ ?_); (simp; done)) | ((with_reducible refine Blk4.new_at _ _ ?_); (simp; done)) | (with_reducible refine Blk2.drew ?_) | (with_reducible refine Blk2.drewN ?_) | (with_reducible refine Blk2.alloc ?_ _) | (with_reducible refine Blk4.drew ?_) | (with_reducible refine Blk4.drewN ?_) | (with_reducible refine Blk4.alloc ?_ _)))
  have kb3 : Blk2 w3 (g1) (hiZ b) (loZ b) := (by refine Blk2.keep ?_ hb3; repeat' (first | (with_reducible assumption) | ((with_reducible refine Blk2.new_at _ _ ?_); (simp; done)) | ((with_reducible refine Blk4.new_at _ _ ?_); (simp; done)) | (with_reducible refine Blk2.drew ?_) | (with_reducible refine Blk2.drewN ?_) | (with_reducible refine Blk2.alloc ?_ _) | (with_reducible refine Blk4.drew ?_) | (with_reducible refine Blk4.drewN ?_) | (with_reducible refine Blk4.alloc ?_ _)))
  have kf3 : Blk4 w3 (w2.heap.size) (hiZ (redN a b)) (loZ (redN a b)) (hiZ (redD a b)) (loZ (redD a b)) := (by refine Blk4.keep ?_ hb3; repeat' (first | (with_reducible assumption) | ((with_reducible refine Blk2.new_at _ _ ?_); (simp; done)) | ((with_reducible refine Blk4.new_at _ _ ?_); (simp; done)) | (with_reducible refine Blk2.drew ?_) | (with_reducible refine Blk2.drewN ?_) | (with_reducible refine Blk2.alloc ?_ _) | (with_reducible refine Blk4.drew ?_) | (with_reducible refine Blk4.drewN ?_) | (with_reducible refine Blk4.alloc ?_ _)))
  clear hb3 B2 z2 ka2 ca2 da2 fa2 ga2 la2 kb2 cb2 db2 fb2 gb2 lb2
  have z3 := B3.size
  have ca3 := ka3.c0; have da3 := ka3.c1; have fa3 := ka3.f0; have ga3 := ka3.f1; have la3 := ka3.lt
  have cb3 := kb3.c0; have db3 := kb3.c1; have fb3 := kb3.f0; have gb3 := kb3.f1; have lb3 := kb3.lt
  have cf3 := kf3.c0; have df3 := kf3.c1; have ef3 := kf3.c2; have hf3 := kf3.c3; have ff3 := kf3.f 0; have gf3 := kf3.f 1; have if3 := kf3.f 2; have jf3 := kf3.f 3; have lf3 := kf3.lt
  go_wp2_with fail
  refine (gcd_any a b _).mono ?_
  rintro e w4 ⟨rfl, hb4⟩
  have B4 : Below w.heap.size w w4 := (by refine below_of ?_ hb4; go_grown)
  have ka4 : Blk2 w4 (w.heap.size) (hiZ a) (loZ a) := (by refine Blk2.keep ?_ hb4; repeat' (first | (with_reducible assumption) | ((with_reducible refine Blk2.new_at _ _ ?_); (simp; done)) | ((with_reducible refine Blk4.new_at _ _ ?_); (simp; done)) | (with_reducible refine Blk2.drew ?_) | (with_reducible refine Blk2.drewN ?_) | (with_reducible refine Blk2.alloc ?_ _) | (with_reducible refine Blk4.drew ?_) | (with_reducible refine Blk4.drewN ?_) | (with_reducible refine Blk4.alloc ?_ _)))
  have kb4 : Blk2 w4 (g1) (hiZ b) (loZ b) := (by refine Blk2.keep ?_ hb4; repeat' (first | (with_reducible assumption) | ((with_reducible refine Blk2.new_at _ _ ?_); (simp; done)) | ((with_reducible refine Blk4.new_at _ _ ?_); (simp; done)) | (with_reducible refine Blk2.drew ?_) | (with_reducible refine Blk2.drewN ?_) | (with_reducible refine Blk2.alloc ?_ _) | (with_reducible refine Blk4.drew ?_) | (with_reducible refine Blk4.drewN ?_) | (with_reducible refine Blk4.alloc ?_ _)))
  have kf4 : Blk4 w4 (w2.heap.size) (hiZ (redN a b)) (loZ (redN a b)) (hiZ (redD a b)) (loZ (redD a b)) := (by refine Blk4.keep ?_ hb4; repeat' (first | (with_reducible assumption) | ((with_reducible refine Blk2.new_at _ _ ?_); (simp; done)) | ((with_reducible refine Blk4.new_at _ _ ?_); (simp; done)) | (with_reducible refine Blk2.drew ?_) | (with_reducible refine Blk2.drewN ?_) | (with_reducible refine Blk2.alloc ?_ _) | (with_reducible refine Blk4.drew ?_) | (with_reducible refine Blk4.drewN ?_) | (with_reducible refine Blk4.alloc ?_ _)))
  clear hb4 B3 z3 ka3 ca3 da3 fa3 ga3 la3 kb3 cb3 db3 fb3 gb3 lb3 kf3 cf3 df3 ef3 hf3 ff3 gf3 if3 jf3 lf3
  have z4 := B4.size
  have ca4 := ka4.c0; have da4 := ka4.c1; have fa4 := ka4.f0; have ga4 := ka4.f1; have la4 := ka4.lt
  have cb4 := kb4.c0; have db4 := kb4.c1; have fb4 := kb4.f0; have gb4 := kb4.f1; have lb4 := kb4.lt
  have cf4 := kf4.c0; have df4 := kf4.c1; have ef4 := kf4.c2; have hf4 := kf4.c3; have ff4 := kf4.f 0; have gf4 := kf4.f 1; have if4 := kf4.f 2; have jf4 := kf4.f 3; have lf4 := kf4.lt
  go_wp2_with fail
  refine (rs_times (g := gcdW a b) HR.out.1 HG.out _).mono ?_
  rintro e w5 ⟨rfl, hb5⟩
  have B5 : Below w.heap.size w w5 := (by refine below_of ?_ hb5; go_grown)
  have ka5 : Blk2 w5 (w.heap.size) (hiZ a) (loZ a) := (by refine Blk2.keep ?_ hb5; repeat' (first | (with_reducible assumption) | ((with_reducible refine Blk2.new_at _ _ ?_); (simp; done)) | ((with_reducible refine Blk4.new_at _ _ ?_); (simp; done)) | (with_reducible refine Blk2.drew ?_) | (with_reducible refine Blk2.drewN ?_) | (with_reducible refine Blk2.alloc ?_ _) | (with_reducible refine Blk4.drew ?_) | (with_reducible refine Blk4.drewN ?_) | (with_reducible refine Blk4.alloc ?_ _)))
  have kb5 : Blk2 w5 (g1) (hiZ b) (loZ b) := (by refine Blk2.keep ?_ hb5; repeat' (first | (with_reducible assumption) | ((with_reducible refine Blk2.new_at _ _ ?_); (simp; done)) | ((with_reducible refine Blk4.new_at _ _ ?_); (simp; done)) | (with_reducible refine Blk2.drew ?_) | (with_reducible refine Blk2.drewN ?_) | (with_reducible refine Blk2.alloc ?_ _) | (with_reducible refine Blk4.drew ?_) | (with_reducible refine Blk4.drewN ?_) | (with_reducible refine Blk4.alloc ?_ _)))
  have kf5 : Blk4 w5 (w2.heap.size) (hiZ (redN a b)) (loZ (redN a b)) (hiZ (redD a b)) (loZ (redD a b)) := (by refine Blk4.keep ?_ hb5; repeat' (first | (with_reducible assumption) | ((with_reducible refine Blk2.new_at _ _ ?_); (simp; done)) | ((with_reducible refine Blk4.new_at _ _ ?_); (simp; done)) | (with_reducible refine Blk2.drew ?_) | (with_reducible refine Blk2.drewN ?_) | (with_reducible refine Blk2.alloc ?_ _) | (with_reducible refine Blk4.drew ?_) | (with_reducible refine Blk4.drewN ?_) | (with_reducible refine Blk4.alloc ?_ _)))
  have kg5 : Blk2 w5 (w4.heap.size) (hiZ (gcdW a b)) (loZ (gcdW a b)) := (by refine Blk2.keep ?_ hb5; repeat' (first | (with_reducible assumption) | ((with_reducible refine Blk2.new_at _ _ ?_); (simp; done)) | ((with_reducible refine Blk4.new_at _ _ ?_); (simp; done)) | (with_reducible refine Blk2.drew ?_) | (with_reducible refine Blk2.drewN ?_) | (with_reducible refine Blk2.alloc ?_ _) | (with_reducible refine Blk4.drew ?_) | (with_reducible refine Blk4.drewN ?_) | (with_reducible refine Blk4.alloc ?_ _)))
  clear hb5 B4 z4 ka4 ca4 da4 fa4 ga4 la4 kb4 cb4 db4 fb4 gb4 lb4 kf4 cf4 df4 ef4 hf4 ff4 gf4 if4 jf4 lf4
  have z5 := B5.size
  have ca5 := ka5.c0; have da5 := ka5.c1; have fa5 := ka5.f0; have ga5 := ka5.f1; have la5 := ka5.lt
  have cb5 := kb5.c0; have db5 := kb5.c1; have fb5 := kb5.f0; have gb5 := kb5.f1; have lb5 := kb5.lt
  have cf5 := kf5.c0; have df5 := kf5.c1; have ef5 := kf5.c2; have hf5 := kf5.c3; have ff5 := kf5.f 0; have gf5 := kf5.f 1; have if5 := kf5.f 2; have jf5 := kf5.f 3; have lf5 := kf5.lt
  have cg5 := kg5.c0; have dg5 := kg5.c1; have fg5 := kg5.f0; have gg5 := kg5.f1; have lg5 := kg5.lt
  go_wp2_with fail
  refine (rs_times (g := gcdW a b) HR.out.2.1 HG.out _).mono ?_
  rintro e w6 ⟨rfl, hb6⟩
  have B6 : Below w.heap.size w w6 := (by refine below_of ?_ hb6; go_grown)
  have ka6 : Blk2 w6 (w.heap.size) (hiZ a) (loZ a) := (by refine Blk2.keep ?_ hb6; repeat' (first | (with_reducible assumption) | ((with_reducible refine Blk2.new_at _ _ ?_); (simp; done)) | ((with_reducible refine Blk4.new_at _ _ ?_); (simp; done)) | (with_reducible refine Blk2.drew ?_) | (with_reducible refine Blk2.drewN ?_) | (with_reducible refine Blk2.alloc ?_ _) | (with_reducible refine Blk4.drew ?_) | (with_reducible refine Blk4.drewN ?_) | (with_reducible refine Blk4.alloc ?_ _)))
  have kb6 : Blk2 w6 (g1) (hiZ b) (loZ b) := (by refine Blk2.keep ?_ hb6; repeat' (first | (with_reducible assumption) | ((with_reducible refine Blk2.new_at _ _ ?_); (simp; done)) | ((with_reducible refine Blk4.new_at _ _ ?_); (simp; done)) | (with_reducible refine Blk2.drew ?_) | (with_reducible refine Blk2.drewN ?_) | (with_reducible refine Blk2.alloc ?_ _) | (with_reducible refine Blk4.drew ?_) | (with_reducible refine Blk4.drewN ?_) | (with_reducible refine Blk4.alloc ?_ _)))
  have kf6 : Blk4 w6 (w2.heap.size) (hiZ (redN a b)) (loZ (redN a b)) (hiZ (redD a b)) (loZ (redD a b)) := (by refine Blk4.keep ?_ hb6; repeat' (first | (with_reducible assumption) | ((with_reducible refine Blk2.new_at _ _ ?_); (simp; done)) | ((with_reducible refine Blk4.new_at _ _ ?_); (simp; done)) | (with_reducible refine Blk2.drew ?_) | (with_reducible refine Blk2.drewN ?_) | (with_reducible refine Blk2.alloc ?_ _) | (with_reducible refine Blk4.drew ?_) | (with_reducible refine Blk4.drewN ?_) | (with_reducible refine Blk4.alloc ?_ _)))
  have kg6 : Blk2 w6 (w4.heap.size) (hiZ (gcdW a b)) (loZ (gcdW a b)) := (by refine Blk2.keep ?_ hb6; repeat' (first | (with_reducible assumption) | ((with_reducible refine Blk2.new_at _ _ ?_); (simp; done)) | ((with_reducible refine Blk4.new_at _ _ ?_); (simp; done)) | (with_reducible refine Blk2.drew ?_) | (with_reducible refine Blk2.drewN ?_) | (with_reducible refine Blk2.alloc ?_ _) | (with_reducible refine Blk4.drew ?_) | (with_reducible refine Blk4.drewN ?_) | (with_reducible refine Blk4.alloc ?_ _)))
  have kx6 : Blk2 w6 (w5.heap.size) (hiZ a) (loZ a) := (by refine Blk2.keep ?_ hb6; repeat' (first | (with_reducible assumption) | ((with_reducible refine Blk2.new_at _ _ ?_); (simp; done)) | ((with_reducible refine Blk4.new_at _ _ ?_); (simp; done)) | (with_reducible refine Blk2.drew ?_) | (with_reducible refine Blk2.drewN ?_) | (with_reducible refine Blk2.alloc ?_ _) | (with_reducible refine Blk4.drew ?_) | (with_reducible refine Blk4.drewN ?_) | (with_reducible refine Blk4.alloc ?_ _)))
  clear hb6 B5 z5 ka5 ca5 da5 fa5 ga5 la5 kb5 cb5 db5 fb5 gb5 lb5 kf5 cf5 df5 ef5 hf5 ff5 gf5 if5 jf5 lf5 kg5 cg5 dg5 fg5 gg5 lg5
  have z6 := B6.size
  have ca6 := ka6.c0; have da6 := ka6.c1; have fa6 := ka6.f0; have ga6 := ka6.f1; have la6 := ka6.lt
  have cb6 := kb6.c0; have db6 := kb6.c1; have fb6 := kb6.f0; have gb6 := kb6.f1; have lb6 := kb6.lt
  have cf6 := kf6.c0; have df6 := kf6.c1; have ef6 := kf6.c2; have hf6 := kf6.c3; have ff6 := kf6.f 0; have gf6 := kf6.f 1; have if6 := kf6.f 2; have jf6 := kf6.f 3; have lf6 := kf6.lt
  have cg6 := kg6.c0; have dg6 := kg6.c1; have fg6 := kg6.f0; have gg6 := kg6.f1; have lg6 := kg6.lt
  have cx6 := kx6.c0; have dx6 := kx6.c1; have fx6 := kx6.f0; have gx6 := kx6.f1; have lx6 := kx6.lt
  go_wp2_with fail
  refine (times_any a k HK.out _).mono ?_
  rintro e w7 ⟨rfl, hb7⟩
  have B7 : Below w.heap.size w w7 := (by refine below_of ?_ hb7; go_grown)
  have ka7 : Blk2 w7 (w.heap.size) (hiZ a) (loZ a) := (by refine Blk2.keep ?_ hb7; repeat' (first | (with_reducible assumption) | ((with_reducible refine Blk2.new_at _ _ ?_); (simp; done)) | ((with_reducible refine Blk4.new_at _ _ ?_); (simp; done)) | (with_reducible refine Blk2.drew ?_) | (with_reducible refine Blk2.drewN ?_) | (with_reducible refine Blk2.alloc ?_ _) | (with_reducible refine Blk4.drew ?_) | (with_reducible refine Blk4.drewN ?_) | (with_reducible refine Blk4.alloc ?_ _)))
  have kb7 : Blk2 w7 (g1) (hiZ b) (loZ b) := (by refine Blk2.keep ?_ hb7; repeat' (first | (with_reducible assumption) | ((with_reducible refine Blk2.new_at _ _ ?_); (simp; done)) | ((with_reducible refine Blk4.new_at _ _ ?_); (simp; done)) | (with_reducible refine Blk2.drew ?_) | (with_reducible refine Blk2.drewN ?_) | (with_reducible refine Blk2.alloc ?_ _) | (with_reducible refine Blk4.drew ?_) | (with_reducible refine Blk4.drewN ?_) | (with_reducible refine Blk4.alloc ?_ _)))
  have kf7 : Blk4 w7 (w2.heap.size) (hiZ (redN a b)) (loZ (redN a b)) (hiZ (redD a b)) (loZ (redD a b)) := (by refine Blk4.keep ?_ hb7; repeat' (first | (with_reducible assumption) | ((with_reducible refine Blk2.new_at _ _ ?_); (simp; done)) | ((with_reducible refine Blk4.new_at _ _ ?_); (simp; done)) | (with_reducible refine Blk2.drew ?_) | (with_reducible refine Blk2.drewN ?_) | (with_reducible refine Blk2.alloc ?_ _) | (with_reducible refine Blk4.drew ?_) | (with_reducible refine Blk4.drewN ?_) | (with_reducible refine Blk4.alloc ?_ _)))
  have kg7 : Blk2 w7 (w4.heap.size) (hiZ (gcdW a b)) (loZ (gcdW a b)) := (by refine Blk2.keep ?_ hb7; repeat' (first | (with_reducible assumption) | ((with_reducible refine Blk2.new_at _ _ ?_); (simp; done)) | ((with_reducible refine Blk4.new_at _ _ ?_); (simp; done)) | (with_reducible refine Blk2.drew ?_) | (with_reducible refine Blk2.drewN ?_) | (with_reducible refine Blk2.alloc ?_ _) | (with_reducible refine Blk4.drew ?_) | (with_reducible refine Blk4.drewN ?_) | (with_reducible refine Blk4.alloc ?_ _)))
  have kx7 : Blk2 w7 (w5.heap.size) (hiZ a) (loZ a) := (by refine Blk2.keep ?_ hb7; repeat' (first | (with_reducible assumption) | ((with_reducible refine Blk2.new_at _ _ ?_); (simp; done)) | ((with_reducible refine Blk4.new_at _ _ ?_); (simp; done)) | (with_reducible refine Blk2.drew ?_) | (with_reducible refine Blk2.drewN ?_) | (with_reducible refine Blk2.alloc ?_ _) | (with_reducible refine Blk4.drew ?_) | (with_reducible refine Blk4.drewN ?_) | (with_reducible refine Blk4.alloc ?_ _)))
  have ky7 : Blk2 w7 (w6.heap.size) (hiZ b) (loZ b) := (by refine Blk2.keep ?_ hb7; repeat' (first | (with_reducible assumption) | ((with_reducible refine Blk2.new_at _ _ ?_); (simp; done)) | ((with_reducible refine Blk4.new_at _ _ ?_); (simp; done)) | (with_reducible refine Blk2.drew ?_) | (with_reducible refine Blk2.drewN ?_) | (with_reducible refine Blk2.alloc ?_ _) | (with_reducible refine Blk4.drew ?_) | (with_reducible refine Blk4.drewN ?_) | (with_reducible refine Blk4.alloc ?_ _)))
  clear hb7 B6 z6 ka6 ca6 da6 fa6 ga6 la6 kb6 cb6 db6 fb6 gb6 lb6 kf6 cf6 df6 ef6 hf6 ff6 gf6 if6 jf6 lf6 kg6 cg6 dg6 fg6 gg6 lg6 kx6 cx6 dx6 fx6 gx6 lx6
  have z7 := B7.size
  have ca7 := ka7.c0; have da7 := ka7.c1; have fa7 := ka7.f0; have ga7 := ka7.f1; have la7 := ka7.lt
  have cb7 := kb7.c0; have db7 := kb7.c1; have fb7 := kb7.f0; have gb7 := kb7.f1; have lb7 := kb7.lt
  have cf7 := kf7.c0; have df7 := kf7.c1; have ef7 := kf7.c2; have hf7 := kf7.c3; have ff7 := kf7.f 0; have gf7 := kf7.f 1; have if7 := kf7.f 2; have jf7 := kf7.f 3; have lf7 := kf7.lt
  have cg7 := kg7.c0; have dg7 := kg7.c1; have fg7 := kg7.f0; have gg7 := kg7.f1; have lg7 := kg7.lt
  have cx7 := kx7.c0; have dx7 := kx7.c1; have fx7 := kx7.f0; have gx7 := kx7.f1; have lx7 := kx7.lt
  have cy7 := ky7.c0; have dy7 := ky7.c1; have fy7 := ky7.f0; have gy7 := ky7.f1; have ly7 := ky7.lt
  go_wp2_with fail
  refine (times_any b k HK.out _).mono ?_
  rintro e w8 ⟨rfl, hb8⟩
  have B8 : Below w.heap.size w w8 := (by refine below_of ?_ hb8; go_grown)
  have ka8 : Blk2 w8 (w.heap.size) (hiZ a) (loZ a) := (by refine Blk2.keep ?_ hb8; repeat' (first | (with_reducible assumption) | ((with_reducible refine Blk2.new_at _ _ ?_); (simp; done)) | ((with_reducible refine Blk4.new_at _ _ ?_); (simp; done)) | (with_reducible refine Blk2.drew ?_) | (with_reducible refine Blk2.drewN ?_) | (with_reducible refine Blk2.alloc ?_ _) | (with_reducible refine Blk4.drew ?_) | (with_reducible refine Blk4.drewN ?_) | (with_reducible refine Blk4.alloc ?_ _)))
  have kb8 : Blk2 w8 (g1) (hiZ b) (loZ b) := (by refine Blk2.keep ?_ hb8; repeat' (first | (with_reducible assumption) | ((with_reducible refine Blk2.new_at _ _ ?_); (simp; done)) | ((with_reducible refine Blk4.new_at _ _ ?_); (simp; done)) | (with_reducible refine Blk2.drew ?_) | (with_reducible refine Blk2.drewN ?_) | (with_reducible refine Blk2.alloc ?_ _) | (with_reducible refine Blk4.drew ?_) | (with_reducible refine Blk4.drewN ?_) | (with_reducible refine Blk4.alloc ?_ _)))
  have kf8 : Blk4 w8 (w2.heap.size) (hiZ (redN a b)) (loZ (redN a b)) (hiZ (redD a b)) (loZ (redD a b)) := (by refine Blk4.keep ?_ hb8; repeat' (first | (with_reducible assumption) | ((with_reducible refine Blk2.new_at _ _ ?_); (simp; done)) | ((with_reducible refine Blk4.new_at _ _ ?_); (simp; done)) | (with_reducible refine Blk2.drew ?_) | (with_reducible refine Blk2.drewN ?_) | (with_reducible refine Blk2.alloc ?_ _) | (with_reducible refine Blk4.drew ?_) | (with_reducible refine Blk4.drewN ?_) | (with_reducible refine Blk4.alloc ?_ _)))
  have kg8 : Blk2 w8 (w4.heap.size) (hiZ (gcdW a b)) (loZ (gcdW a b)) := (by refine Blk2.keep ?_ hb8; repeat' (first | (with_reducible assumption) | ((with_reducible refine Blk2.new_at _ _ ?_); (simp; done)) | ((with_reducible refine Blk4.new_at _ _ ?_); (simp; done)) | (with_reducible refine Blk2.drew ?_) | (with_reducible refine Blk2.drewN ?_) | (with_reducible refine Blk2.alloc ?_ _) | (with_reducible refine Blk4.drew ?_) | (with_reducible refine Blk4.drewN ?_) | (with_reducible refine Blk4.alloc ?_ _)))
  have kx8 : Blk2 w8 (w5.heap.size) (hiZ a) (loZ a) := (by refine Blk2.keep ?_ hb8; repeat' (first | (with_reducible assumption) | ((with_reducible refine Blk2.new_at _ _ ?_); (simp; done)) | ((with_reducible refine Blk4.new_at _ _ ?_); (simp; done)) | (with_reducible refine Blk2.drew ?_) | (with_reducible refine Blk2.drewN ?_) | (with_reducible refine Blk2.alloc ?_ _) | (with_reducible refine Blk4.drew ?_) | (with_reducible refine Blk4.drewN ?_) | (with_reducible refine Blk4.alloc ?_ _)))
  have ky8 : Blk2 w8 (w6.heap.size) (hiZ b) (loZ b) := (by refine Blk2.keep ?_ hb8; repeat' (first | (with_reducible assumption) | ((with_reducible refine Blk2.new_at _ _ ?_); (simp; done)) | ((with_reducible refine Blk4.new_at _ _ ?_); (simp; done)) | (with_reducible refine Blk2.drew ?_) | (with_reducible refine Blk2.drewN ?_) | (with_reducible refine Blk2.alloc ?_ _) | (with_reducible refine Blk4.drew ?_) | (with_reducible refine Blk4.drewN ?_) | (with_reducible refine Blk4.alloc ?_ _)))
  have kc8 : Blk2 w8 (w7.heap.size) (hiZ (timesU a k)) (loZ (timesU a k)) := (by refine Blk2.keep ?_ hb8; repeat' (first | (with_reducible assumption) | ((with_reducible refine Blk2.new_at _ _ ?_); (simp; done)) | ((with_reducible refine Blk4.new_at _ _ ?_); (simp; done)) | (with_reducible refine Blk2.drew ?_) | (with_reducible refine Blk2.drewN ?_) | (with_reducible refine Blk2.alloc ?_ _) | (with_reducible refine Blk4.drew ?_) | (with_reducible refine Blk4.drewN ?_) | (with_reducible refine Blk4.alloc ?_ _)))
  clear hb8 B7 z7 ka7 ca7 da7 fa7 ga7 la7 kb7 cb7 db7 fb7 gb7 lb7 kf7 cf7 df7 ef7 hf7 ff7 gf7 if7 jf7 lf7 kg7 cg7 dg7 fg7 gg7 lg7 kx7 cx7 dx7 fx7 gx7 lx7 ky7 cy7 dy7 fy7 gy7 ly7
  have z8 := B8.size
  have ca8 := ka8.c0; have da8 := ka8.c1; have fa8 := ka8.f0; have ga8 := ka8.f1; have la8 := ka8.lt
  have cb8 := kb8.c0; have db8 := kb8.c1; have fb8 := kb8.f0; have gb8 := kb8.f1; have lb8 := kb8.lt
  have cf8 := kf8.c0; have df8 := kf8.c1; have ef8 := kf8.c2; have hf8 := kf8.c3; have ff8 := kf8.f 0; have gf8 := kf8.f 1; have if8 := kf8.f 2; have jf8 := kf8.f 3; have lf8 := kf8.lt
  have cg8 := kg8.c0; have dg8 := kg8.c1; have fg8 := kg8.f0; have gg8 := kg8.f1; have lg8 := kg8.lt
  have cx8 := kx8.c0; have dx8 := kx8.c1; have fx8 := kx8.f0; have gx8 := kx8.f1; have lx8 := kx8.lt
  have cy8 := ky8.c0; have dy8 := ky8.c1; have fy8 := ky8.f0; have gy8 := ky8.f1; have ly8 := ky8.lt
  have cc8 := kc8.c0; have dc8 := kc8.c1; have fc8 := kc8.f0; have gc8 := kc8.f1; have lc8 := kc8.lt
  go_wp2_with fail
  refine (rs_reduce HS.out.1 HS.out.2.1 HS.out.2.2 _).mono ?_
  rintro e w9 ⟨rfl, hb9⟩
  have B9 : Below w.heap.size w w9 := (by refine below_of ?_ hb9; go_grown)
  have ka9 : Blk2 w9 (w.heap.size) (hiZ a) (loZ a) := (by refine Blk2.keep ?_ hb9; repeat' (first | (with_reducible assumption) | ((with_reducible refine Blk2.new_at _ _ ?_); (simp; done)) | ((with_reducible refine Blk4.new_at _ _ ?_); (simp; done)) | (with_reducible refine Blk2.drew ?_) | (with_reducible refine Blk2.drewN ?_) | (with_reducible refine Blk2.alloc ?_ _) | (with_reducible refine Blk4.drew ?_) | (with_reducible refine Blk4.drewN ?_) | (with_reducible refine Blk4.alloc ?_ _)))
  have kb9 : Blk2 w9 (g1) (hiZ b) (loZ b) := (by refine Blk2.keep ?_ hb9; repeat' (first | (with_reducible assumption) | ((with_reducible refine Blk2.new_at _ _ ?_); (simp; done)) | ((with_reducible refine Blk4.new_at _ _ ?_); (simp; done)) | (with_reducible refine Blk2.drew ?_) | (with_reducible refine Blk2.drewN ?_) | (with_reducible refine Blk2.alloc ?_ _) | (with_reducible refine Blk4.drew ?_) | (with_reducible refine Blk4.drewN ?_) | (with_reducible refine Blk4.alloc ?_ _)))
  have kf9 : Blk4 w9 (w2.heap.size) (hiZ (redN a b)) (loZ (redN a b)) (hiZ (redD a b)) (loZ (redD a b)) := (by refine Blk4.keep ?_ hb9; repeat' (first | (with_reducible assumption) | ((with_reducible refine Blk2.new_at _ _ ?_); (simp; done)) | ((with_reducible refine Blk4.new_at _ _ ?_); (simp; done)) | (with_reducible refine Blk2.drew ?_) | (with_reducible refine Blk2.drewN ?_) | (with_reducible refine Blk2.alloc ?_ _) | (with_reducible refine Blk4.drew ?_) | (with_reducible refine Blk4.drewN ?_) | (with_reducible refine Blk4.alloc ?_ _)))
  have kg9 : Blk2 w9 (w4.heap.size) (hiZ (gcdW a b)) (loZ (gcdW a b)) := (by refine Blk2.keep ?_ hb9; repeat' (first | (with_reducible assumption) | ((with_reducible refine Blk2.new_at _ _ ?_); (simp; done)) | ((with_reducible refine Blk4.new_at _ _ ?_); (simp; done)) | (with_reducible refine Blk2.drew ?_) | (with_reducible refine Blk2.drewN ?_) | (with_reducible refine Blk2.alloc ?_ _) | (with_reducible refine Blk4.drew ?_) | (with_reducible refine Blk4.drewN ?_) | (with_reducible refine Blk4.alloc ?_ _)))
  have kx9 : Blk2 w9 (w5.heap.size) (hiZ a) (loZ a) := (by refine Blk2.keep ?_ hb9; repeat' (first | (with_reducible assumption) | ((with_reducible refine Blk2.new_at _ _ ?_); (simp; done)) | ((with_reducible refine Blk4.new_at _ _ ?_); (simp; done)) | (with_reducible refine Blk2.drew ?_) | (with_reducible refine Blk2.drewN ?_) | (with_reducible refine Blk2.alloc ?_ _) | (with_reducible refine Blk4.drew ?_) | (with_reducible refine Blk4.drewN ?_) | (with_reducible refine Blk4.alloc ?_ _)))
  have ky9 : Blk2 w9 (w6.heap.size) (hiZ b) (loZ b) := (by refine Blk2.keep ?_ hb9; repeat' (first | (with_reducible assumption) | ((with_reducible refine Blk2.new_at _ _ ?_); (simp; done)) | ((with_reducible refine Blk4.new_at _ _ ?_); (simp; done)) | (with_reducible refine Blk2.drew ?_) | (with_reducible refine Blk2.drewN ?_) | (with_reducible refine Blk2.alloc ?_ _) | (with_reducible refine Blk4.drew ?_) | (with_reducible refine Blk4.drewN ?_) | (with_reducible refine Blk4.alloc ?_ _)))
  have kc9 : Blk2 w9 (w7.heap.size) (hiZ (timesU a k)) (loZ (timesU a k)) := (by refine Blk2.keep ?_ hb9; repeat' (first | (with_reducible assumption) | ((with_reducible refine Blk2.new_at _ _ ?_); (simp; done)) | ((with_reducible refine Blk4.new_at _ _ ?_); (simp; done)) | (with_reducible refine Blk2.drew ?_) | (with_reducible refine Blk2.drewN ?_) | (with_reducible refine Blk2.alloc ?_ _) | (with_reducible refine Blk4.drew ?_) | (with_reducible refine Blk4.drewN ?_) | (with_reducible refine Blk4.alloc ?_ _)))
  have kd9 : Blk2 w9 (w8.heap.size) (hiZ (timesU b k)) (loZ (timesU b k)) := (by refine Blk2.keep ?_ hb9; repeat' (first | (with_reducible assumption) | ((with_reducible refine Blk2.new_at _ _ ?_); (simp; done)) | ((with_reducible refine Blk4.new_at _ _ ?_); (simp; done)) | (with_reducible refine Blk2.drew ?_) | (with_reducible refine Blk2.drewN ?_) | (with_reducible refine Blk2.alloc ?_ _) | (with_reducible refine Blk4.drew ?_) | (with_reducible refine Blk4.drewN ?_) | (with_reducible refine Blk4.alloc ?_ _)))
  clear hb9 B8 z8 ka8 ca8 da8 fa8 ga8 la8 kb8 cb8 db8 fb8 gb8 lb8 kf8 cf8 df8 ef8 hf8 ff8 gf8 if8 jf8 lf8 kg8 cg8 dg8 fg8 gg8 lg8 kx8 cx8 dx8 fx8 gx8 lx8 ky8 cy8 dy8 fy8 gy8 ly8 kc8 cc8 dc8 fc8 gc8 lc8
  have z9 := B9.size
  have ca9 := ka9.c0; have da9 := ka9.c1; have fa9 := ka9.f0; have ga9 := ka9.f1; have la9 := ka9.lt
  have cb9 := kb9.c0; have db9 := kb9.c1; have fb9 := kb9.f0; have gb9 := kb9.f1; have lb9 := kb9.lt
  have cf9 := kf9.c0; have df9 := kf9.c1; have ef9 := kf9.c2; have hf9 := kf9.c3; have ff9 := kf9.f 0; have gf9 := kf9.f 1; have if9 := kf9.f 2; have jf9 := kf9.f 3; have lf9 := kf9.lt
  have cg9 := kg9.c0; have dg9 := kg9.c1; have fg9 := kg9.f0; have gg9 := kg9.f1; have lg9 := kg9.lt
  have cx9 := kx9.c0; have dx9 := kx9.c1; have fx9 := kx9.f0; have gx9 := kx9.f1; have lx9 := kx9.lt
  have cy9 := ky9.c0; have dy9 := ky9.c1; have fy9 := ky9.f0; have gy9 := ky9.f1; have ly9 := ky9.lt
  have cc9 := kc9.c0; have dc9 := kc9.c1; have fc9 := kc9.f0; have gc9 := kc9.f1; have lc9 := kc9.lt
  have cd9 := kd9.c0; have dd9 := kd9.c1; have fd9 := kd9.f0; have gd9 := kd9.f1; have ld9 := kd9.lt
  go_wp2_with fail
  go_ret
  exact ⟨rfl, by go_grown⟩
set_option maxHeartbeats 8000000 in
set_option maxRecDepth 100000 in
theorem rsame_h_n0 (a b : U) (k : Nat) (hk : k < 18446744073709551616) (w : World) (htab : tabs w) (hb : b.n ≠ 0) (hg : hiZ (gcdW a b) ≠ 0) (hk0 : k = 0) :
    Calls Tryd.prog 9 #[.agg #[.int .u64 (hiZ a), .int .u64 (loZ a)], .agg #[.int .u64 (hiZ b), .int .u64 (loZ b)], .int .u64 k] w fun e w' => e = .returned (.bool true) ∧ Below w.heap.size w w' := by
  have HT := Lib.hid htab
  have HK := Lib.hid hk
  clear htab hk
  have tk : ((k : Int) == 0) = true := by simp; omega
  clear hk0
  have HR := Lib.hid (rs_parts (a := a) hb)
  have HB := Lib.hid hb
  have tg : (hiZ (gcdW a b) == 0) = false := by simpa using hg
  have HG := Lib.hid hg
  clear hb hg
  go_enter Tryd.func9, Tryd.ntmps9
  go_wp2_with fail
  have ka0 : Blk2 ((w.alloc (.cells #[.int .u64 (hiZ a), .int .u64 (loZ a)] 24)).alloc (.cells #[.int .u64 (hiZ b), .int .u64 (loZ b)] 24)) (w.heap.size) (hiZ a) (loZ a) := (by repeat' (first | (with_reducible assumption) | ((with_reducible refine Blk2.new_at _ _ ?_); (simp; done)) | ((with_reducible refine Blk4.new_at _ _ ?_); (simp; done)) | (with_reducible refine Blk2.drew ?_) | (with_reducible refine Blk2.drewN ?_) | (with_reducible refine Blk2.alloc ?_ _) | (with_reducible refine Blk4.drew ?_) | (with_reducible refine Blk4.drewN ?_) | (with_reducible refine Blk4.alloc ?_ _)))
  have kb0 : Blk2 ((w.alloc (.cells #[.int .u64 (hiZ a), .int .u64 (loZ a)] 24)).alloc (.cells #[.int .u64 (hiZ b), .int .u64 (loZ b)] 24)) (w.heap.size + 1) (hiZ b) (loZ b) := (by repeat' (first | (with_reducible assumption) | ((with_reducible refine Blk2.new_at _ _ ?_); (simp; done)) | ((with_reducible refine Blk4.new_at _ _ ?_); (simp; done)) | (with_reducible refine Blk2.drew ?_) | (with_reducible refine Blk2.drewN ?_) | (with_reducible refine Blk2.alloc ?_ _) | (with_reducible refine Blk4.drew ?_) | (with_reducible refine Blk4.drewN ?_) | (with_reducible refine Blk4.alloc ?_ _)))
  have B0 : Below w.heap.size w ((w.alloc (.cells #[.int .u64 (hiZ a), .int .u64 (loZ a)] 24)).alloc (.cells #[.int .u64 (hiZ b), .int .u64 (loZ b)] 24)) := (by go_grown)
  have o1 : w.heap.size < w.heap.size + 1 := by omega
  generalize w.heap.size + 1 = g1 at *
  generalize ((w.alloc (.cells #[.int .u64 (hiZ a), .int .u64 (loZ a)] 24)).alloc (.cells #[.int .u64 (hiZ b), .int .u64 (loZ b)] 24)) = w0 at *
  have z0 := B0.size
  have ca0 := ka0.c0; have da0 := ka0.c1; have fa0 := ka0.f0; have ga0 := ka0.f1; have la0 := ka0.lt
  have cb0 := kb0.c0; have db0 := kb0.c1; have fb0 := kb0.f0; have gb0 := kb0.f1; have lb0 := kb0.lt
  refine (lives2_any _ (tabs_stays HT.out (by go_grown))).mono ?_
  rintro e w1 ⟨rfl, hb1⟩
  have B1 : Below w.heap.size w w1 := (by refine below_of ?_ hb1; go_grown)
  have ka1 : Blk2 w1 (w.heap.size) (hiZ a) (loZ a) := (by refine Blk2.keep ?_ hb1; repeat' (first | (with_reducible assumption) | ((with_reducible refine Blk2.new_at _ _ ?_); (simp; done)) | ((with_reducible refine Blk4.new_at _ _ ?_); (simp; done)) | (with_reducible refine Blk2.drew ?_) | (with_reducible refine Blk2.drewN ?_) | (with_reducible refine Blk2.alloc ?_ _) | (with_reducible refine Blk4.drew ?_) | (with_reducible refine Blk4.drewN ?_) | (with_reducible refine Blk4.alloc ?_ _)))
  have kb1 : Blk2 w1 (g1) (hiZ b) (loZ b) := (by refine Blk2.keep ?_ hb1; repeat' (first | (with_reducible assumption) | ((with_reducible refine Blk2.new_at _ _ ?_); (simp; done)) | ((with_reducible refine Blk4.new_at _ _ ?_); (simp; done)) | (with_reducible refine Blk2.drew ?_) | (with_reducible refine Blk2.drewN ?_) | (with_reducible refine Blk2.alloc ?_ _) | (with_reducible refine Blk4.drew ?_) | (with_reducible refine Blk4.drewN ?_) | (with_reducible refine Blk4.alloc ?_ _)))
  clear hb1 B0 z0 ka0 ca0 da0 fa0 ga0 la0 kb0 cb0 db0 fb0 gb0 lb0
  have z1 := B1.size
  have ca1 := ka1.c0; have da1 := ka1.c1; have fa1 := ka1.f0; have ga1 := ka1.f1; have la1 := ka1.lt
  have cb1 := kb1.c0; have db1 := kb1.c1; have fb1 := kb1.f0; have gb1 := kb1.f1; have lb1 := kb1.lt
  go_wp2_with fail
  refine (reduce_any a b HB.out _).mono ?_
  rintro e w2 ⟨rfl, hb2⟩
  have B2 : Below w.heap.size w w2 := (by refine below_of ?_ hb2; go_grown)
  have ka2 : Blk2 w2 (w.heap.size) (hiZ a) (loZ a) := (by refine Blk2.keep ?_ hb2; repeat' (first | (with_reducible assumption) | ((with_reducible refine Blk2.new_at _ _ ?_); (simp; done)) | ((with_reducible refine Blk4.new_at _ _ ?_); (simp; done)) | (with_reducible refine Blk2.drew ?_) | (with_reducible refine Blk2.drewN ?_) | (with_reducible refine Blk2.alloc ?_ _) | (with_reducible refine Blk4.drew ?_) | (with_reducible refine Blk4.drewN ?_) | (with_reducible refine Blk4.alloc ?_ _)))
  have kb2 : Blk2 w2 (g1) (hiZ b) (loZ b) := (by refine Blk2.keep ?_ hb2; repeat' (first | (with_reducible assumption) | ((with_reducible refine Blk2.new_at _ _ ?_); (simp; done)) | ((with_reducible refine Blk4.new_at _ _ ?_); (simp; done)) | (with_reducible refine Blk2.drew ?_) | (with_reducible refine Blk2.drewN ?_) | (with_reducible refine Blk2.alloc ?_ _) | (with_reducible refine Blk4.drew ?_) | (with_reducible refine Blk4.drewN ?_) | (with_reducible refine Blk4.alloc ?_ _)))
  clear hb2 B1 z1 ka1 ca1 da1 fa1 ga1 la1 kb1 cb1 db1 fb1 gb1 lb1
  have z2 := B2.size
  have ca2 := ka2.c0; have da2 := ka2.c1; have fa2 := ka2.f0; have ga2 := ka2.f1; have la2 := ka2.lt
  have cb2 := kb2.c0; have db2 := kb2.c1; have fb2 := kb2.f0; have gb2 := kb2.f1; have lb2 := kb2.lt
  go_wp2_with fail
  refine (rs_check HR.out.2.2.2 _).mono ?_
  rintro e w3 ⟨rfl, hb3⟩
  have B3 : Below w.heap.size w w3 := (by refine below_of ?_ hb3; go_grown)
  have ka3 : Blk2 w3 (w.heap.size) (hiZ a) (loZ a) := (by refine Blk2.keep ?_ hb3; repeat' (first | (with_reducible assumption) | ((with_reducible refine Blk2.new_at _ _ ?_); (simp; done)) | ((with_reducible refine Blk4.new_at _ _ ?_); (simp; done)) | (with_reducible refine Blk2.drew ?_) | (with_reducible refine Blk2.drewN ?_) | (with_reducible refine Blk2.alloc ?_ _) | (with_reducible refine Blk4.drew ?_) | (with_reducible refine Blk4.drewN ?_) | (with_reducible refine Blk4.alloc ?_ _)))
  have kb3 : Blk2 w3 (g1) (hiZ b) (loZ b) := (by refine Blk2.keep ?_ hb3; repeat' (first | (with_reducible assumption) | ((with_reducible refine Blk2.new_at _ _ ?_); (simp; done)) | ((with_reducible refine Blk4.new_at _ _ ?_); (simp; done)) | (with_reducible refine Blk2.drew ?_) | (with_reducible refine Blk2.drewN ?_) | (with_reducible refine Blk2.alloc ?_ _) | (with_reducible refine Blk4.drew ?_) | (with_reducible refine Blk4.drewN ?_) | (with_reducible refine Blk4.alloc ?_ _)))
  have kf3 : Blk4 w3 (w2.heap.size) (hiZ (redN a b)) (loZ (redN a b)) (hiZ (redD a b)) (loZ (redD a b)) := (by refine Blk4.keep ?_ hb3; repeat' (first | (with_reducible assumption) | ((with_reducible refine Blk2.new_at _ _ ?_); (simp; done)) | ((with_reducible refine Blk4.new_at _ _ ?_); (simp; done)) | (with_reducible refine Blk2.drew ?_) | (with_reducible refine Blk2.drewN ?_) | (with_reducible refine Blk2.alloc ?_ _) | (with_reducible refine Blk4.drew ?_) | (with_reducible refine Blk4.drewN ?_) | (with_reducible refine Blk4.alloc ?_ _)))
  clear hb3 B2 z2 ka2 ca2 da2 fa2 ga2 la2 kb2 cb2 db2 fb2 gb2 lb2
  have z3 := B3.size
  have ca3 := ka3.c0; have da3 := ka3.c1; have fa3 := ka3.f0; have ga3 := ka3.f1; have la3 := ka3.lt
  have cb3 := kb3.c0; have db3 := kb3.c1; have fb3 := kb3.f0; have gb3 := kb3.f1; have lb3 := kb3.lt
  have cf3 := kf3.c0; have df3 := kf3.c1; have ef3 := kf3.c2; have hf3 := kf3.c3; have ff3 := kf3.f 0; have gf3 := kf3.f 1; have if3 := kf3.f 2; have jf3 := kf3.f 3; have lf3 := kf3.lt
  go_wp2_with fail
  refine (gcd_any a b _).mono ?_
  rintro e w4 ⟨rfl, hb4⟩
  have B4 : Below w.heap.size w w4 := (by refine below_of ?_ hb4; go_grown)
  have ka4 : Blk2 w4 (w.heap.size) (hiZ a) (loZ a) := (by refine Blk2.keep ?_ hb4; repeat' (first | (with_reducible assumption) | ((with_reducible refine Blk2.new_at _ _ ?_); (simp; done)) | ((with_reducible refine Blk4.new_at _ _ ?_); (simp; done)) | (with_reducible refine Blk2.drew ?_) | (with_reducible refine Blk2.drewN ?_) | (with_reducible refine Blk2.alloc ?_ _) | (with_reducible refine Blk4.drew ?_) | (with_reducible refine Blk4.drewN ?_) | (with_reducible refine Blk4.alloc ?_ _)))
  have kb4 : Blk2 w4 (g1) (hiZ b) (loZ b) := (by refine Blk2.keep ?_ hb4; repeat' (first | (with_reducible assumption) | ((with_reducible refine Blk2.new_at _ _ ?_); (simp; done)) | ((with_reducible refine Blk4.new_at _ _ ?_); (simp; done)) | (with_reducible refine Blk2.drew ?_) | (with_reducible refine Blk2.drewN ?_) | (with_reducible refine Blk2.alloc ?_ _) | (with_reducible refine Blk4.drew ?_) | (with_reducible refine Blk4.drewN ?_) | (with_reducible refine Blk4.alloc ?_ _)))
  have kf4 : Blk4 w4 (w2.heap.size) (hiZ (redN a b)) (loZ (redN a b)) (hiZ (redD a b)) (loZ (redD a b)) := (by refine Blk4.keep ?_ hb4; repeat' (first | (with_reducible assumption) | ((with_reducible refine Blk2.new_at _ _ ?_); (simp; done)) | ((with_reducible refine Blk4.new_at _ _ ?_); (simp; done)) | (with_reducible refine Blk2.drew ?_) | (with_reducible refine Blk2.drewN ?_) | (with_reducible refine Blk2.alloc ?_ _) | (with_reducible refine Blk4.drew ?_) | (with_reducible refine Blk4.drewN ?_) | (with_reducible refine Blk4.alloc ?_ _)))
  clear hb4 B3 z3 ka3 ca3 da3 fa3 ga3 la3 kb3 cb3 db3 fb3 gb3 lb3 kf3 cf3 df3 ef3 hf3 ff3 gf3 if3 jf3 lf3
  have z4 := B4.size
  have ca4 := ka4.c0; have da4 := ka4.c1; have fa4 := ka4.f0; have ga4 := ka4.f1; have la4 := ka4.lt
  have cb4 := kb4.c0; have db4 := kb4.c1; have fb4 := kb4.f0; have gb4 := kb4.f1; have lb4 := kb4.lt
  have cf4 := kf4.c0; have df4 := kf4.c1; have ef4 := kf4.c2; have hf4 := kf4.c3; have ff4 := kf4.f 0; have gf4 := kf4.f 1; have if4 := kf4.f 2; have jf4 := kf4.f 3; have lf4 := kf4.lt
  go_wp2_with fail
  refine (times_any a k HK.out _).mono ?_
  rintro e w5 ⟨rfl, hb5⟩
  have B5 : Below w.heap.size w w5 := (by refine below_of ?_ hb5; go_grown)
  have ka5 : Blk2 w5 (w.heap.size) (hiZ a) (loZ a) := (by refine Blk2.keep ?_ hb5; repeat' (first | (with_reducible assumption) | ((with_reducible refine Blk2.new_at _ _ ?_); (simp; done)) | ((with_reducible refine Blk4.new_at _ _ ?_); (simp; done)) | (with_reducible refine Blk2.drew ?_) | (with_reducible refine Blk2.drewN ?_) | (with_reducible refine Blk2.alloc ?_ _) | (with_reducible refine Blk4.drew ?_) | (with_reducible refine Blk4.drewN ?_) | (with_reducible refine Blk4.alloc ?_ _)))
  have kb5 : Blk2 w5 (g1) (hiZ b) (loZ b) := (by refine Blk2.keep ?_ hb5; repeat' (first | (with_reducible assumption) | ((with_reducible refine Blk2.new_at _ _ ?_); (simp; done)) | ((with_reducible refine Blk4.new_at _ _ ?_); (simp; done)) | (with_reducible refine Blk2.drew ?_) | (with_reducible refine Blk2.drewN ?_) | (with_reducible refine Blk2.alloc ?_ _) | (with_reducible refine Blk4.drew ?_) | (with_reducible refine Blk4.drewN ?_) | (with_reducible refine Blk4.alloc ?_ _)))
  have kf5 : Blk4 w5 (w2.heap.size) (hiZ (redN a b)) (loZ (redN a b)) (hiZ (redD a b)) (loZ (redD a b)) := (by refine Blk4.keep ?_ hb5; repeat' (first | (with_reducible assumption) | ((with_reducible refine Blk2.new_at _ _ ?_); (simp; done)) | ((with_reducible refine Blk4.new_at _ _ ?_); (simp; done)) | (with_reducible refine Blk2.drew ?_) | (with_reducible refine Blk2.drewN ?_) | (with_reducible refine Blk2.alloc ?_ _) | (with_reducible refine Blk4.drew ?_) | (with_reducible refine Blk4.drewN ?_) | (with_reducible refine Blk4.alloc ?_ _)))
  have kg5 : Blk2 w5 (w4.heap.size) (hiZ (gcdW a b)) (loZ (gcdW a b)) := (by refine Blk2.keep ?_ hb5; repeat' (first | (with_reducible assumption) | ((with_reducible refine Blk2.new_at _ _ ?_); (simp; done)) | ((with_reducible refine Blk4.new_at _ _ ?_); (simp; done)) | (with_reducible refine Blk2.drew ?_) | (with_reducible refine Blk2.drewN ?_) | (with_reducible refine Blk2.alloc ?_ _) | (with_reducible refine Blk4.drew ?_) | (with_reducible refine Blk4.drewN ?_) | (with_reducible refine Blk4.alloc ?_ _)))
  clear hb5 B4 z4 ka4 ca4 da4 fa4 ga4 la4 kb4 cb4 db4 fb4 gb4 lb4 kf4 cf4 df4 ef4 hf4 ff4 gf4 if4 jf4 lf4
  have z5 := B5.size
  have ca5 := ka5.c0; have da5 := ka5.c1; have fa5 := ka5.f0; have ga5 := ka5.f1; have la5 := ka5.lt
  have cb5 := kb5.c0; have db5 := kb5.c1; have fb5 := kb5.f0; have gb5 := kb5.f1; have lb5 := kb5.lt
  have cf5 := kf5.c0; have df5 := kf5.c1; have ef5 := kf5.c2; have hf5 := kf5.c3; have ff5 := kf5.f 0; have gf5 := kf5.f 1; have if5 := kf5.f 2; have jf5 := kf5.f 3; have lf5 := kf5.lt
  have cg5 := kg5.c0; have dg5 := kg5.c1; have fg5 := kg5.f0; have gg5 := kg5.f1; have lg5 := kg5.lt
  go_wp2_with fail
  refine (times_any b k HK.out _).mono ?_
  rintro e w6 ⟨rfl, hb6⟩
  have B6 : Below w.heap.size w w6 := (by refine below_of ?_ hb6; go_grown)
  have ka6 : Blk2 w6 (w.heap.size) (hiZ a) (loZ a) := (by refine Blk2.keep ?_ hb6; repeat' (first | (with_reducible assumption) | ((with_reducible refine Blk2.new_at _ _ ?_); (simp; done)) | ((with_reducible refine Blk4.new_at _ _ ?_); (simp; done)) | (with_reducible refine Blk2.drew ?_) | (with_reducible refine Blk2.drewN ?_) | (with_reducible refine Blk2.alloc ?_ _) | (with_reducible refine Blk4.drew ?_) | (with_reducible refine Blk4.drewN ?_) | (with_reducible refine Blk4.alloc ?_ _)))
  have kb6 : Blk2 w6 (g1) (hiZ b) (loZ b) := (by refine Blk2.keep ?_ hb6; repeat' (first | (with_reducible assumption) | ((with_reducible refine Blk2.new_at _ _ ?_); (simp; done)) | ((with_reducible refine Blk4.new_at _ _ ?_); (simp; done)) | (with_reducible refine Blk2.drew ?_) | (with_reducible refine Blk2.drewN ?_) | (with_reducible refine Blk2.alloc ?_ _) | (with_reducible refine Blk4.drew ?_) | (with_reducible refine Blk4.drewN ?_) | (with_reducible refine Blk4.alloc ?_ _)))
  have kf6 : Blk4 w6 (w2.heap.size) (hiZ (redN a b)) (loZ (redN a b)) (hiZ (redD a b)) (loZ (redD a b)) := (by refine Blk4.keep ?_ hb6; repeat' (first | (with_reducible assumption) | ((with_reducible refine Blk2.new_at _ _ ?_); (simp; done)) | ((with_reducible refine Blk4.new_at _ _ ?_); (simp; done)) | (with_reducible refine Blk2.drew ?_) | (with_reducible refine Blk2.drewN ?_) | (with_reducible refine Blk2.alloc ?_ _) | (with_reducible refine Blk4.drew ?_) | (with_reducible refine Blk4.drewN ?_) | (with_reducible refine Blk4.alloc ?_ _)))
  have kg6 : Blk2 w6 (w4.heap.size) (hiZ (gcdW a b)) (loZ (gcdW a b)) := (by refine Blk2.keep ?_ hb6; repeat' (first | (with_reducible assumption) | ((with_reducible refine Blk2.new_at _ _ ?_); (simp; done)) | ((with_reducible refine Blk4.new_at _ _ ?_); (simp; done)) | (with_reducible refine Blk2.drew ?_) | (with_reducible refine Blk2.drewN ?_) | (with_reducible refine Blk2.alloc ?_ _) | (with_reducible refine Blk4.drew ?_) | (with_reducible refine Blk4.drewN ?_) | (with_reducible refine Blk4.alloc ?_ _)))
  have kc6 : Blk2 w6 (w5.heap.size) (hiZ (timesU a k)) (loZ (timesU a k)) := (by refine Blk2.keep ?_ hb6; repeat' (first | (with_reducible assumption) | ((with_reducible refine Blk2.new_at _ _ ?_); (simp; done)) | ((with_reducible refine Blk4.new_at _ _ ?_); (simp; done)) | (with_reducible refine Blk2.drew ?_) | (with_reducible refine Blk2.drewN ?_) | (with_reducible refine Blk2.alloc ?_ _) | (with_reducible refine Blk4.drew ?_) | (with_reducible refine Blk4.drewN ?_) | (with_reducible refine Blk4.alloc ?_ _)))
  clear hb6 B5 z5 ka5 ca5 da5 fa5 ga5 la5 kb5 cb5 db5 fb5 gb5 lb5 kf5 cf5 df5 ef5 hf5 ff5 gf5 if5 jf5 lf5 kg5 cg5 dg5 fg5 gg5 lg5
  have z6 := B6.size
  have ca6 := ka6.c0; have da6 := ka6.c1; have fa6 := ka6.f0; have ga6 := ka6.f1; have la6 := ka6.lt
  have cb6 := kb6.c0; have db6 := kb6.c1; have fb6 := kb6.f0; have gb6 := kb6.f1; have lb6 := kb6.lt
  have cf6 := kf6.c0; have df6 := kf6.c1; have ef6 := kf6.c2; have hf6 := kf6.c3; have ff6 := kf6.f 0; have gf6 := kf6.f 1; have if6 := kf6.f 2; have jf6 := kf6.f 3; have lf6 := kf6.lt
  have cg6 := kg6.c0; have dg6 := kg6.c1; have fg6 := kg6.f0; have gg6 := kg6.f1; have lg6 := kg6.lt
  have cc6 := kc6.c0; have dc6 := kc6.c1; have fc6 := kc6.f0; have gc6 := kc6.f1; have lc6 := kc6.lt
  go_wp2_with fail
  go_ret
  exact ⟨rfl, by go_grown⟩
set_option maxHeartbeats 8000000 in
set_option maxRecDepth 100000 in
theorem rsame_h_e3 (a b : U) (k : Nat) (hk : k < 18446744073709551616) (w : World) (htab : tabs w) (hb : b.n ≠ 0) (hg : hiZ (gcdW a b) ≠ 0) (hk0 : k ≠ 0) (h3 : timesE a k ≠ 0) :
    Calls Tryd.prog 9 #[.agg #[.int .u64 (hiZ a), .int .u64 (loZ a)], .agg #[.int .u64 (hiZ b), .int .u64 (loZ b)], .int .u64 k] w fun e w' => e = .returned (.bool true) ∧ Below w.heap.size w w' := by
  have HT := Lib.hid htab
  have HK := Lib.hid hk
  clear htab hk
  have tk : ((k : Int) == 0) = false := by simp; omega
  have t3 : (timesE a k != 0) = true := by simpa using h3
  clear hk0 h3
  have HR := Lib.hid (rs_parts (a := a) hb)
  have HB := Lib.hid hb
  have tg : (hiZ (gcdW a b) == 0) = false := by simpa using hg
  have HG := Lib.hid hg
  clear hb hg
  go_enter Tryd.func9, Tryd.ntmps9
  go_wp2_with fail
  have ka0 : Blk2 ((w.alloc (.cells #[.int .u64 (hiZ a), .int .u64 (loZ a)] 24)).alloc (.cells #[.int .u64 (hiZ b), .int .u64 (loZ b)] 24)) (w.heap.size) (hiZ a) (loZ a) := (by repeat' (first | (with_reducible assumption) | ((with_reducible refine Blk2.new_at _ _ ?_); (simp; done)) | ((with_reducible refine Blk4.new_at _ _ ?_); (simp; done)) | (with_reducible refine Blk2.drew ?_) | (with_reducible refine Blk2.drewN ?_) | (with_reducible refine Blk2.alloc ?_ _) | (with_reducible refine Blk4.drew ?_) | (with_reducible refine Blk4.drewN ?_) | (with_reducible refine Blk4.alloc ?_ _)))
  have kb0 : Blk2 ((w.alloc (.cells #[.int .u64 (hiZ a), .int .u64 (loZ a)] 24)).alloc (.cells #[.int .u64 (hiZ b), .int .u64 (loZ b)] 24)) (w.heap.size + 1) (hiZ b) (loZ b) := (by repeat' (first | (with_reducible assumption) | ((with_reducible refine Blk2.new_at _ _ ?_); (simp; done)) | ((with_reducible refine Blk4.new_at _ _ ?_); (simp; done)) | (with_reducible refine Blk2.drew ?_) | (with_reducible refine Blk2.drewN ?_) | (with_reducible refine Blk2.alloc ?_ _) | (with_reducible refine Blk4.drew ?_) | (with_reducible refine Blk4.drewN ?_) | (with_reducible refine Blk4.alloc ?_ _)))
  have B0 : Below w.heap.size w ((w.alloc (.cells #[.int .u64 (hiZ a), .int .u64 (loZ a)] 24)).alloc (.cells #[.int .u64 (hiZ b), .int .u64 (loZ b)] 24)) := (by go_grown)
  have o1 : w.heap.size < w.heap.size + 1 := by omega
  generalize w.heap.size + 1 = g1 at *
  generalize ((w.alloc (.cells #[.int .u64 (hiZ a), .int .u64 (loZ a)] 24)).alloc (.cells #[.int .u64 (hiZ b), .int .u64 (loZ b)] 24)) = w0 at *
  have z0 := B0.size
  have ca0 := ka0.c0; have da0 := ka0.c1; have fa0 := ka0.f0; have ga0 := ka0.f1; have la0 := ka0.lt
  have cb0 := kb0.c0; have db0 := kb0.c1; have fb0 := kb0.f0; have gb0 := kb0.f1; have lb0 := kb0.lt
  refine (lives2_any _ (tabs_stays HT.out (by go_grown))).mono ?_
  rintro e w1 ⟨rfl, hb1⟩
  have B1 : Below w.heap.size w w1 := (by refine below_of ?_ hb1; go_grown)
  have ka1 : Blk2 w1 (w.heap.size) (hiZ a) (loZ a) := (by refine Blk2.keep ?_ hb1; repeat' (first | (with_reducible assumption) | ((with_reducible refine Blk2.new_at _ _ ?_); (simp; done)) | ((with_reducible refine Blk4.new_at _ _ ?_); (simp; done)) | (with_reducible refine Blk2.drew ?_) | (with_reducible refine Blk2.drewN ?_) | (with_reducible refine Blk2.alloc ?_ _) | (with_reducible refine Blk4.drew ?_) | (with_reducible refine Blk4.drewN ?_) | (with_reducible refine Blk4.alloc ?_ _)))
  have kb1 : Blk2 w1 (g1) (hiZ b) (loZ b) := (by refine Blk2.keep ?_ hb1; repeat' (first | (with_reducible assumption) | ((with_reducible refine Blk2.new_at _ _ ?_); (simp; done)) | ((with_reducible refine Blk4.new_at _ _ ?_); (simp; done)) | (with_reducible refine Blk2.drew ?_) | (with_reducible refine Blk2.drewN ?_) | (with_reducible refine Blk2.alloc ?_ _) | (with_reducible refine Blk4.drew ?_) | (with_reducible refine Blk4.drewN ?_) | (with_reducible refine Blk4.alloc ?_ _)))
  clear hb1 B0 z0 ka0 ca0 da0 fa0 ga0 la0 kb0 cb0 db0 fb0 gb0 lb0
  have z1 := B1.size
  have ca1 := ka1.c0; have da1 := ka1.c1; have fa1 := ka1.f0; have ga1 := ka1.f1; have la1 := ka1.lt
  have cb1 := kb1.c0; have db1 := kb1.c1; have fb1 := kb1.f0; have gb1 := kb1.f1; have lb1 := kb1.lt
  go_wp2_with fail
  refine (reduce_any a b HB.out _).mono ?_
  rintro e w2 ⟨rfl, hb2⟩
  have B2 : Below w.heap.size w w2 := (by refine below_of ?_ hb2; go_grown)
  have ka2 : Blk2 w2 (w.heap.size) (hiZ a) (loZ a) := (by refine Blk2.keep ?_ hb2; repeat' (first | (with_reducible assumption) | ((with_reducible refine Blk2.new_at _ _ ?_); (simp; done)) | ((with_reducible refine Blk4.new_at _ _ ?_); (simp; done)) | (with_reducible refine Blk2.drew ?_) | (with_reducible refine Blk2.drewN ?_) | (with_reducible refine Blk2.alloc ?_ _) | (with_reducible refine Blk4.drew ?_) | (with_reducible refine Blk4.drewN ?_) | (with_reducible refine Blk4.alloc ?_ _)))
  have kb2 : Blk2 w2 (g1) (hiZ b) (loZ b) := (by refine Blk2.keep ?_ hb2; repeat' (first | (with_reducible assumption) | ((with_reducible refine Blk2.new_at _ _ ?_); (simp; done)) | ((with_reducible refine Blk4.new_at _ _ ?_); (simp; done)) | (with_reducible refine Blk2.drew ?_) | (with_reducible refine Blk2.drewN ?_) | (with_reducible refine Blk2.alloc ?_ _) | (with_reducible refine Blk4.drew ?_) | (with_reducible refine Blk4.drewN ?_) | (with_reducible refine Blk4.alloc ?_ _)))
  clear hb2 B1 z1 ka1 ca1 da1 fa1 ga1 la1 kb1 cb1 db1 fb1 gb1 lb1
  have z2 := B2.size
  have ca2 := ka2.c0; have da2 := ka2.c1; have fa2 := ka2.f0; have ga2 := ka2.f1; have la2 := ka2.lt
  have cb2 := kb2.c0; have db2 := kb2.c1; have fb2 := kb2.f0; have gb2 := kb2.f1; have lb2 := kb2.lt
  go_wp2_with fail
  refine (rs_check HR.out.2.2.2 _).mono ?_
  rintro e w3 ⟨rfl, hb3⟩
  have B3 : Below w.heap.size w w3 := (by refine below_of ?_ hb3; go_grown)
  have ka3 : Blk2 w3 (w.heap.size) (hiZ a) (loZ a) := (by refine Blk2.keep ?_ hb3; repeat' (first | (with_reducible assumption) | ((with_reducible refine Blk2.new_at _ _ ?_); (simp; done)) | ((with_reducible refine Blk4.new_at _ _ ?_); (simp; done)) | (with_reducible refine Blk2.drew ?_) | (with_reducible refine Blk2.drewN ?_) | (with_reducible refine Blk2.alloc ?_ _) | (with_reducible refine Blk4.drew ?_) | (with_reducible refine Blk4.drewN ?_) | (with_reducible refine Blk4.alloc ?_ _)))
  have kb3 : Blk2 w3 (g1) (hiZ b) (loZ b) := (by refine Blk2.keep ?_ hb3; repeat' (first | (with_reducible assumption) | ((with_reducible refine Blk2.new_at _ _ ?_); (simp; done)) | ((with_reducible refine Blk4.new_at _ _ ?_); (simp; done)) | (with_reducible refine Blk2.drew ?_) | (with_reducible refine Blk2.drewN ?_) | (with_reducible refine Blk2.alloc ?_ _) | (with_reducible refine Blk4.drew ?_) | (with_reducible refine Blk4.drewN ?_) | (with_reducible refine Blk4.alloc ?_ _)))
  have kf3 : Blk4 w3 (w2.heap.size) (hiZ (redN a b)) (loZ (redN a b)) (hiZ (redD a b)) (loZ (redD a b)) := (by refine Blk4.keep ?_ hb3; repeat' (first | (with_reducible assumption) | ((with_reducible refine Blk2.new_at _ _ ?_); (simp; done)) | ((with_reducible refine Blk4.new_at _ _ ?_); (simp; done)) | (with_reducible refine Blk2.drew ?_) | (with_reducible refine Blk2.drewN ?_) | (with_reducible refine Blk2.alloc ?_ _) | (with_reducible refine Blk4.drew ?_) | (with_reducible refine Blk4.drewN ?_) | (with_reducible refine Blk4.alloc ?_ _)))
  clear hb3 B2 z2 ka2 ca2 da2 fa2 ga2 la2 kb2 cb2 db2 fb2 gb2 lb2
  have z3 := B3.size
  have ca3 := ka3.c0; have da3 := ka3.c1; have fa3 := ka3.f0; have ga3 := ka3.f1; have la3 := ka3.lt
  have cb3 := kb3.c0; have db3 := kb3.c1; have fb3 := kb3.f0; have gb3 := kb3.f1; have lb3 := kb3.lt
  have cf3 := kf3.c0; have df3 := kf3.c1; have ef3 := kf3.c2; have hf3 := kf3.c3; have ff3 := kf3.f 0; have gf3 := kf3.f 1; have if3 := kf3.f 2; have jf3 := kf3.f 3; have lf3 := kf3.lt
  go_wp2_with fail
  refine (gcd_any a b _).mono ?_
  rintro e w4 ⟨rfl, hb4⟩
  have B4 : Below w.heap.size w w4 := (by refine below_of ?_ hb4; go_grown)
  have ka4 : Blk2 w4 (w.heap.size) (hiZ a) (loZ a) := (by refine Blk2.keep ?_ hb4; repeat' (first | (with_reducible assumption) | ((with_reducible refine Blk2.new_at _ _ ?_); (simp; done)) | ((with_reducible refine Blk4.new_at _ _ ?_); (simp; done)) | (with_reducible refine Blk2.drew ?_) | (with_reducible refine Blk2.drewN ?_) | (with_reducible refine Blk2.alloc ?_ _) | (with_reducible refine Blk4.drew ?_) | (with_reducible refine Blk4.drewN ?_) | (with_reducible refine Blk4.alloc ?_ _)))
  have kb4 : Blk2 w4 (g1) (hiZ b) (loZ b) := (by refine Blk2.keep ?_ hb4; repeat' (first | (with_reducible assumption) | ((with_reducible refine Blk2.new_at _ _ ?_); (simp; done)) | ((with_reducible refine Blk4.new_at _ _ ?_); (simp; done)) | (with_reducible refine Blk2.drew ?_) | (with_reducible refine Blk2.drewN ?_) | (with_reducible refine Blk2.alloc ?_ _) | (with_reducible refine Blk4.drew ?_) | (with_reducible refine Blk4.drewN ?_) | (with_reducible refine Blk4.alloc ?_ _)))
  have kf4 : Blk4 w4 (w2.heap.size) (hiZ (redN a b)) (loZ (redN a b)) (hiZ (redD a b)) (loZ (redD a b)) := (by refine Blk4.keep ?_ hb4; repeat' (first | (with_reducible assumption) | ((with_reducible refine Blk2.new_at _ _ ?_); (simp; done)) | ((with_reducible refine Blk4.new_at _ _ ?_); (simp; done)) | (with_reducible refine Blk2.drew ?_) | (with_reducible refine Blk2.drewN ?_) | (with_reducible refine Blk2.alloc ?_ _) | (with_reducible refine Blk4.drew ?_) | (with_reducible refine Blk4.drewN ?_) | (with_reducible refine Blk4.alloc ?_ _)))
  clear hb4 B3 z3 ka3 ca3 da3 fa3 ga3 la3 kb3 cb3 db3 fb3 gb3 lb3 kf3 cf3 df3 ef3 hf3 ff3 gf3 if3 jf3 lf3
  have z4 := B4.size
  have ca4 := ka4.c0; have da4 := ka4.c1; have fa4 := ka4.f0; have ga4 := ka4.f1; have la4 := ka4.lt
  have cb4 := kb4.c0; have db4 := kb4.c1; have fb4 := kb4.f0; have gb4 := kb4.f1; have lb4 := kb4.lt
  have cf4 := kf4.c0; have df4 := kf4.c1; have ef4 := kf4.c2; have hf4 := kf4.c3; have ff4 := kf4.f 0; have gf4 := kf4.f 1; have if4 := kf4.f 2; have jf4 := kf4.f 3; have lf4 := kf4.lt
  go_wp2_with fail
  refine (times_any a k HK.out _).mono ?_
  rintro e w5 ⟨rfl, hb5⟩
  have B5 : Below w.heap.size w w5 := (by refine below_of ?_ hb5; go_grown)
  have ka5 : Blk2 w5 (w.heap.size) (hiZ a) (loZ a) := (by refine Blk2.keep ?_ hb5; repeat' (first | (with_reducible assumption) | ((with_reducible refine Blk2.new_at _ _ ?_); (simp; done)) | ((with_reducible refine Blk4.new_at _ _ ?_); (simp; done)) | (with_reducible refine Blk2.drew ?_) | (with_reducible refine Blk2.drewN ?_) | (with_reducible refine Blk2.alloc ?_ _) | (with_reducible refine Blk4.drew ?_) | (with_reducible refine Blk4.drewN ?_) | (with_reducible refine Blk4.alloc ?_ _)))
  have kb5 : Blk2 w5 (g1) (hiZ b) (loZ b) := (by refine Blk2.keep ?_ hb5; repeat' (first | (with_reducible assumption) | ((with_reducible refine Blk2.new_at _ _ ?_); (simp; done)) | ((with_reducible refine Blk4.new_at _ _ ?_); (simp; done)) | (with_reducible refine Blk2.drew ?_) | (with_reducible refine Blk2.drewN ?_) | (with_reducible refine Blk2.alloc ?_ _) | (with_reducible refine Blk4.drew ?_) | (with_reducible refine Blk4.drewN ?_) | (with_reducible refine Blk4.alloc ?_ _)))
  have kf5 : Blk4 w5 (w2.heap.size) (hiZ (redN a b)) (loZ (redN a b)) (hiZ (redD a b)) (loZ (redD a b)) := (by refine Blk4.keep ?_ hb5; repeat' (first | (with_reducible assumption) | ((with_reducible refine Blk2.new_at _ _ ?_); (simp; done)) | ((with_reducible refine Blk4.new_at _ _ ?_); (simp; done)) | (with_reducible refine Blk2.drew ?_) | (with_reducible refine Blk2.drewN ?_) | (with_reducible refine Blk2.alloc ?_ _) | (with_reducible refine Blk4.drew ?_) | (with_reducible refine Blk4.drewN ?_) | (with_reducible refine Blk4.alloc ?_ _)))
  have kg5 : Blk2 w5 (w4.heap.size) (hiZ (gcdW a b)) (loZ (gcdW a b)) := (by refine Blk2.keep ?_ hb5; repeat' (first | (with_reducible assumption) | ((with_reducible refine Blk2.new_at _ _ ?_); (simp; done)) | ((with_reducible refine Blk4.new_at _ _ ?_); (simp; done)) | (with_reducible refine Blk2.drew ?_) | (with_reducible refine Blk2.drewN ?_) | (with_reducible refine Blk2.alloc ?_ _) | (with_reducible refine Blk4.drew ?_) | (with_reducible refine Blk4.drewN ?_) | (with_reducible refine Blk4.alloc ?_ _)))
  clear hb5 B4 z4 ka4 ca4 da4 fa4 ga4 la4 kb4 cb4 db4 fb4 gb4 lb4 kf4 cf4 df4 ef4 hf4 ff4 gf4 if4 jf4 lf4
  have z5 := B5.size
  have ca5 := ka5.c0; have da5 := ka5.c1; have fa5 := ka5.f0; have ga5 := ka5.f1; have la5 := ka5.lt
  have cb5 := kb5.c0; have db5 := kb5.c1; have fb5 := kb5.f0; have gb5 := kb5.f1; have lb5 := kb5.lt
  have cf5 := kf5.c0; have df5 := kf5.c1; have ef5 := kf5.c2; have hf5 := kf5.c3; have ff5 := kf5.f 0; have gf5 := kf5.f 1; have if5 := kf5.f 2; have jf5 := kf5.f 3; have lf5 := kf5.lt
  have cg5 := kg5.c0; have dg5 := kg5.c1; have fg5 := kg5.f0; have gg5 := kg5.f1; have lg5 := kg5.lt
  go_wp2_with fail
  refine (times_any b k HK.out _).mono ?_
  rintro e w6 ⟨rfl, hb6⟩
  have B6 : Below w.heap.size w w6 := (by refine below_of ?_ hb6; go_grown)
  have ka6 : Blk2 w6 (w.heap.size) (hiZ a) (loZ a) := (by refine Blk2.keep ?_ hb6; repeat' (first | (with_reducible assumption) | ((with_reducible refine Blk2.new_at _ _ ?_); (simp; done)) | ((with_reducible refine Blk4.new_at _ _ ?_); (simp; done)) | (with_reducible refine Blk2.drew ?_) | (with_reducible refine Blk2.drewN ?_) | (with_reducible refine Blk2.alloc ?_ _) | (with_reducible refine Blk4.drew ?_) | (with_reducible refine Blk4.drewN ?_) | (with_reducible refine Blk4.alloc ?_ _)))
  have kb6 : Blk2 w6 (g1) (hiZ b) (loZ b) := (by refine Blk2.keep ?_ hb6; repeat' (first | (with_reducible assumption) | ((with_reducible refine Blk2.new_at _ _ ?_); (simp; done)) | ((with_reducible refine Blk4.new_at _ _ ?_); (simp; done)) | (with_reducible refine Blk2.drew ?_) | (with_reducible refine Blk2.drewN ?_) | (with_reducible refine Blk2.alloc ?_ _) | (with_reducible refine Blk4.drew ?_) | (with_reducible refine Blk4.drewN ?_) | (with_reducible refine Blk4.alloc ?_ _)))
  have kf6 : Blk4 w6 (w2.heap.size) (hiZ (redN a b)) (loZ (redN a b)) (hiZ (redD a b)) (loZ (redD a b)) := (by refine Blk4.keep ?_ hb6; repeat' (first | (with_reducible assumption) | ((with_reducible refine Blk2.new_at _ _ ?_); (simp; done)) | ((with_reducible refine Blk4.new_at _ _ ?_); (simp; done)) | (with_reducible refine Blk2.drew ?_) | (with_reducible refine Blk2.drewN ?_) | (with_reducible refine Blk2.alloc ?_ _) | (with_reducible refine Blk4.drew ?_) | (with_reducible refine Blk4.drewN ?_) | (with_reducible refine Blk4.alloc ?_ _)))
  have kg6 : Blk2 w6 (w4.heap.size) (hiZ (gcdW a b)) (loZ (gcdW a b)) := (by refine Blk2.keep ?_ hb6; repeat' (first | (with_reducible assumption) | ((with_reducible refine Blk2.new_at _ _ ?_); (simp; done)) | ((with_reducible refine Blk4.new_at _ _ ?_); (simp; done)) | (with_reducible refine Blk2.drew ?_) | (with_reducible refine Blk2.drewN ?_) | (with_reducible refine Blk2.alloc ?_ _) | (with_reducible refine Blk4.drew ?_) | (with_reducible refine Blk4.drewN ?_) | (with_reducible refine Blk4.alloc ?_ _)))
  have kc6 : Blk2 w6 (w5.heap.size) (hiZ (timesU a k)) (loZ (timesU a k)) := (by refine Blk2.keep ?_ hb6; repeat' (first | (with_reducible assumption) | ((with_reducible refine Blk2.new_at _ _ ?_); (simp; done)) | ((with_reducible refine Blk4.new_at _ _ ?_); (simp; done)) | (with_reducible refine Blk2.drew ?_) | (with_reducible refine Blk2.drewN ?_) | (with_reducible refine Blk2.alloc ?_ _) | (with_reducible refine Blk4.drew ?_) | (with_reducible refine Blk4.drewN ?_) | (with_reducible refine Blk4.alloc ?_ _)))
  clear hb6 B5 z5 ka5 ca5 da5 fa5 ga5 la5 kb5 cb5 db5 fb5 gb5 lb5 kf5 cf5 df5 ef5 hf5 ff5 gf5 if5 jf5 lf5 kg5 cg5 dg5 fg5 gg5 lg5
  have z6 := B6.size
  have ca6 := ka6.c0; have da6 := ka6.c1; have fa6 := ka6.f0; have ga6 := ka6.f1; have la6 := ka6.lt
  have cb6 := kb6.c0; have db6 := kb6.c1; have fb6 := kb6.f0; have gb6 := kb6.f1; have lb6 := kb6.lt
  have cf6 := kf6.c0; have df6 := kf6.c1; have ef6 := kf6.c2; have hf6 := kf6.c3; have ff6 := kf6.f 0; have gf6 := kf6.f 1; have if6 := kf6.f 2; have jf6 := kf6.f 3; have lf6 := kf6.lt
  have cg6 := kg6.c0; have dg6 := kg6.c1; have fg6 := kg6.f0; have gg6 := kg6.f1; have lg6 := kg6.lt
  have cc6 := kc6.c0; have dc6 := kc6.c1; have fc6 := kc6.f0; have gc6 := kc6.f1; have lc6 := kc6.lt
  go_wp2_with fail
  go_ret
  exact ⟨rfl, by go_grown⟩
set_option maxHeartbeats 8000000 in
set_option maxRecDepth 100000 in
theorem rsame_h_e4 (a b : U) (k : Nat) (hk : k < 18446744073709551616) (w : World) (htab : tabs w) (hb : b.n ≠ 0) (hg : hiZ (gcdW a b) ≠ 0) (hk0 : k ≠ 0) (h3 : timesE a k = 0) (h4 : timesE b k ≠ 0) :
    Calls Tryd.prog 9 #[.agg #[.int .u64 (hiZ a), .int .u64 (loZ a)], .agg #[.int .u64 (hiZ b), .int .u64 (loZ b)], .int .u64 k] w fun e w' => e = .returned (.bool true) ∧ Below w.heap.size w w' := by
  have HT := Lib.hid htab
  have HK := Lib.hid hk
  clear htab hk
  have tk : ((k : Int) == 0) = false := by simp; omega
  have t3 : (timesE a k != 0) = false := by rw [h3]; rfl
  have t4 : (timesE b k != 0) = true := by simpa using h4
  clear hk0 h3 h4
  have HR := Lib.hid (rs_parts (a := a) hb)
  have HB := Lib.hid hb
  have tg : (hiZ (gcdW a b) == 0) = false := by simpa using hg
  have HG := Lib.hid hg
  clear hb hg
  go_enter Tryd.func9, Tryd.ntmps9
  go_wp2_with fail
  have ka0 : Blk2 ((w.alloc (.cells #[.int .u64 (hiZ a), .int .u64 (loZ a)] 24)).alloc (.cells #[.int .u64 (hiZ b), .int .u64 (loZ b)] 24)) (w.heap.size) (hiZ a) (loZ a) := (by repeat' (first | (with_reducible assumption) | ((with_reducible refine Blk2.new_at _ _ ?_); (simp; done)) | ((with_reducible refine Blk4.new_at _ _ ?_); (simp; done)) | (with_reducible refine Blk2.drew ?_) | (with_reducible refine Blk2.drewN ?_) | (with_reducible refine Blk2.alloc ?_ _) | (with_reducible refine Blk4.drew ?_) | (with_reducible refine Blk4.drewN ?_) | (with_reducible refine Blk4.alloc ?_ _)))
  have kb0 : Blk2 ((w.alloc (.cells #[.int .u64 (hiZ a), .int .u64 (loZ a)] 24)).alloc (.cells #[.int .u64 (hiZ b), .int .u64 (loZ b)] 24)) (w.heap.size + 1) (hiZ b) (loZ b) := (by repeat' (first | (with_reducible assumption) | ((with_reducible refine Blk2.new_at _ _ ?_); (simp; done)) | ((with_reducible refine Blk4.new_at _ _ ?_); (simp; done)) | (with_reducible refine Blk2.drew ?_) | (with_reducible refine Blk2.drewN ?_) | (with_reducible refine Blk2.alloc ?_ _) | (with_reducible refine Blk4.drew ?_) | (with_reducible refine Blk4.drewN ?_) | (with_reducible refine Blk4.alloc ?_ _)))
  have B0 : Below w.heap.size w ((w.alloc (.cells #[.int .u64 (hiZ a), .int .u64 (loZ a)] 24)).alloc (.cells #[.int .u64 (hiZ b), .int .u64 (loZ b)] 24)) := (by go_grown)
  have o1 : w.heap.size < w.heap.size + 1 := by omega
  generalize w.heap.size + 1 = g1 at *
  generalize ((w.alloc (.cells #[.int .u64 (hiZ a), .int .u64 (loZ a)] 24)).alloc (.cells #[.int .u64 (hiZ b), .int .u64 (loZ b)] 24)) = w0 at *
  have z0 := B0.size
  have ca0 := ka0.c0; have da0 := ka0.c1; have fa0 := ka0.f0; have ga0 := ka0.f1; have la0 := ka0.lt
  have cb0 := kb0.c0; have db0 := kb0.c1; have fb0 := kb0.f0; have gb0 := kb0.f1; have lb0 := kb0.lt
  refine (lives2_any _ (tabs_stays HT.out (by go_grown))).mono ?_
  rintro e w1 ⟨rfl, hb1⟩
  have B1 : Below w.heap.size w w1 := (by refine below_of ?_ hb1; go_grown)
  have ka1 : Blk2 w1 (w.heap.size) (hiZ a) (loZ a) := (by refine Blk2.keep ?_ hb1; repeat' (first | (with_reducible assumption) | ((with_reducible refine Blk2.new_at _ _ ?_); (simp; done)) | ((with_reducible refine Blk4.new_at _ _ ?_); (simp; done)) | (with_reducible refine Blk2.drew ?_) | (with_reducible refine Blk2.drewN ?_) | (with_reducible refine Blk2.alloc ?_ _) | (with_reducible refine Blk4.drew ?_) | (with_reducible refine Blk4.drewN ?_) | (with_reducible refine Blk4.alloc ?_ _)))
  have kb1 : Blk2 w1 (g1) (hiZ b) (loZ b) := (by refine Blk2.keep ?_ hb1; repeat' (first | (with_reducible assumption) | ((with_reducible refine Blk2.new_at _ _ ?_); (simp; done)) | ((with_reducible refine Blk4.new_at _ _ ?_); (simp; done)) | (with_reducible refine Blk2.drew ?_) | (with_reducible refine Blk2.drewN ?_) | (with_reducible refine Blk2.alloc ?_ _) | (with_reducible refine Blk4.drew ?_) | (with_reducible refine Blk4.drewN ?_) | (with_reducible refine Blk4.alloc ?_ _)))
  clear hb1 B0 z0 ka0 ca0 da0 fa0 ga0 la0 kb0 cb0 db0 fb0 gb0 lb0
  have z1 := B1.size
  have ca1 := ka1.c0; have da1 := ka1.c1; have fa1 := ka1.f0; have ga1 := ka1.f1; have la1 := ka1.lt
  have cb1 := kb1.c0; have db1 := kb1.c1; have fb1 := kb1.f0; have gb1 := kb1.f1; have lb1 := kb1.lt
  go_wp2_with fail
  refine (reduce_any a b HB.out _).mono ?_
  rintro e w2 ⟨rfl, hb2⟩
  have B2 : Below w.heap.size w w2 := (by refine below_of ?_ hb2; go_grown)
  have ka2 : Blk2 w2 (w.heap.size) (hiZ a) (loZ a) := (by refine Blk2.keep ?_ hb2; repeat' (first | (with_reducible assumption) | ((with_reducible refine Blk2.new_at _ _ ?_); (simp; done)) | ((with_reducible refine Blk4.new_at _ _ ?_); (simp; done)) | (with_reducible refine Blk2.drew ?_) | (with_reducible refine Blk2.drewN ?_) | (with_reducible refine Blk2.alloc ?_ _) | (with_reducible refine Blk4.drew ?_) | (with_reducible refine Blk4.drewN ?_) | (with_reducible refine Blk4.alloc ?_ _)))
  have kb2 : Blk2 w2 (g1) (hiZ b) (loZ b) := (by refine Blk2.keep ?_ hb2; repeat' (first | (with_reducible assumption) | ((with_reducible refine Blk2.new_at _ _ ?_); (simp; done)) | ((with_reducible refine Blk4.new_at _ _ ?_); (simp; done)) | (with_reducible refine Blk2.drew ?_) | (with_reducible refine Blk2.drewN ?_) | (with_reducible refine Blk2.alloc ?_ _) | (with_reducible refine Blk4.drew ?_) | (with_reducible refine Blk4.drewN ?_) | (with_reducible refine Blk4.alloc ?_ _)))
  clear hb2 B1 z1 ka1 ca1 da1 fa1 ga1 la1 kb1 cb1 db1 fb1 gb1 lb1
  have z2 := B2.size
  have ca2 := ka2.c0; have da2 := ka2.c1; have fa2 := ka2.f0; have ga2 := ka2.f1; have la2 := ka2.lt
  have cb2 := kb2.c0; have db2 := kb2.c1; have fb2 := kb2.f0; have gb2 := kb2.f1; have lb2 := kb2.lt
  go_wp2_with fail
  refine (rs_check HR.out.2.2.2 _).mono ?_
  rintro e w3 ⟨rfl, hb3⟩
  have B3 : Below w.heap.size w w3 := (by refine below_of ?_ hb3; go_grown)
  have ka3 : Blk2 w3 (w.heap.size) (hiZ a) (loZ a) := (by refine Blk2.keep ?_ hb3; repeat' (first | (with_reducible assumption) | ((with_reducible refine Blk2.new_at _ _ ?_); (simp; done)) | ((with_reducible refine Blk4.new_at _ _ ?_); (simp; done)) | (with_reducible refine Blk2.drew ?_) | (with_reducible refine Blk2.drewN ?_) | (with_reducible refine Blk2.alloc ?_ _) | (with_reducible refine Blk4.drew ?_) | (with_reducible refine Blk4.drewN ?_) | (with_reducible refine Blk4.alloc ?_ _)))
  have kb3 : Blk2 w3 (g1) (hiZ b) (loZ b) := (by refine Blk2.keep ?_ hb3; repeat' (first | (with_reducible assumption) | ((with_reducible refine Blk2.new_at _ _ ?_); (simp; done)) | ((with_reducible refine Blk4.new_at _ _ ?_); (simp; done)) | (with_reducible refine Blk2.drew ?_) | (with_reducible refine Blk2.drewN ?_) | (with_reducible refine Blk2.alloc ?_ _) | (with_reducible refine Blk4.drew ?_) | (with_reducible refine Blk4.drewN ?_) | (with_reducible refine Blk4.alloc ?_ _)))
  have kf3 : Blk4 w3 (w2.heap.size) (hiZ (redN a b)) (loZ (redN a b)) (hiZ (redD a b)) (loZ (redD a b)) := (by refine Blk4.keep ?_ hb3; repeat' (first | (with_reducible assumption) | ((with_reducible refine Blk2.new_at _ _ ?_); (simp; done)) | ((with_reducible refine Blk4.new_at _ _ ?_); (simp; done)) | (with_reducible refine Blk2.drew ?_) | (with_reducible refine Blk2.drewN ?_) | (with_reducible refine Blk2.alloc ?_ _) | (with_reducible refine Blk4.drew ?_) | (with_reducible refine Blk4.drewN ?_) | (with_reducible refine Blk4.alloc ?_ _)))
  clear hb3 B2 z2 ka2 ca2 da2 fa2 ga2 la2 kb2 cb2 db2 fb2 gb2 lb2
  have z3 := B3.size
  have ca3 := ka3.c0; have da3 := ka3.c1; have fa3 := ka3.f0; have ga3 := ka3.f1; have la3 := ka3.lt
  have cb3 := kb3.c0; have db3 := kb3.c1; have fb3 := kb3.f0; have gb3 := kb3.f1; have lb3 := kb3.lt
  have cf3 := kf3.c0; have df3 := kf3.c1; have ef3 := kf3.c2; have hf3 := kf3.c3; have ff3 := kf3.f 0; have gf3 := kf3.f 1; have if3 := kf3.f 2; have jf3 := kf3.f 3; have lf3 := kf3.lt
  go_wp2_with fail
  refine (gcd_any a b _).mono ?_
  rintro e w4 ⟨rfl, hb4⟩
  have B4 : Below w.heap.size w w4 := (by refine below_of ?_ hb4; go_grown)
  have ka4 : Blk2 w4 (w.heap.size) (hiZ a) (loZ a) := (by refine Blk2.keep ?_ hb4; repeat' (first | (with_reducible assumption) | ((with_reducible refine Blk2.new_at _ _ ?_); (simp; done)) | ((with_reducible refine Blk4.new_at _ _ ?_); (simp; done)) | (with_reducible refine Blk2.drew ?_) | (with_reducible refine Blk2.drewN ?_) | (with_reducible refine Blk2.alloc ?_ _) | (with_reducible refine Blk4.drew ?_) | (with_reducible refine Blk4.drewN ?_) | (with_reducible refine Blk4.alloc ?_ _)))
  have kb4 : Blk2 w4 (g1) (hiZ b) (loZ b) := (by refine Blk2.keep ?_ hb4; repeat' (first | (with_reducible assumption) | ((with_reducible refine Blk2.new_at _ _ ?_); (simp; done)) | ((with_reducible refine Blk4.new_at _ _ ?_); (simp; done)) | (with_reducible refine Blk2.drew ?_) | (with_reducible refine Blk2.drewN ?_) | (with_reducible refine Blk2.alloc ?_ _) | (with_reducible refine Blk4.drew ?_) | (with_reducible refine Blk4.drewN ?_) | (with_reducible refine Blk4.alloc ?_ _)))
  have kf4 : Blk4 w4 (w2.heap.size) (hiZ (redN a b)) (loZ (redN a b)) (hiZ (redD a b)) (loZ (redD a b)) := (by refine Blk4.keep ?_ hb4; repeat' (first | (with_reducible assumption) | ((with_reducible refine Blk2.new_at _ _ ?_); (simp; done)) | ((with_reducible refine Blk4.new_at _ _ ?_); (simp; done)) | (with_reducible refine Blk2.drew ?_) | (with_reducible refine Blk2.drewN ?_) | (with_reducible refine Blk2.alloc ?_ _) | (with_reducible refine Blk4.drew ?_) | (with_reducible refine Blk4.drewN ?_) | (with_reducible refine Blk4.alloc ?_ _)))
  clear hb4 B3 z3 ka3 ca3 da3 fa3 ga3 la3 kb3 cb3 db3 fb3 gb3 lb3 kf3 cf3 df3 ef3 hf3 ff3 gf3 if3 jf3 lf3
  have z4 := B4.size
  have ca4 := ka4.c0; have da4 := ka4.c1; have fa4 := ka4.f0; have ga4 := ka4.f1; have la4 := ka4.lt
  have cb4 := kb4.c0; have db4 := kb4.c1; have fb4 := kb4.f0; have gb4 := kb4.f1; have lb4 := kb4.lt
  have cf4 := kf4.c0; have df4 := kf4.c1; have ef4 := kf4.c2; have hf4 := kf4.c3; have ff4 := kf4.f 0; have gf4 := kf4.f 1; have if4 := kf4.f 2; have jf4 := kf4.f 3; have lf4 := kf4.lt
  go_wp2_with fail
  refine (times_any a k HK.out _).mono ?_
  rintro e w5 ⟨rfl, hb5⟩
  have B5 : Below w.heap.size w w5 := (by refine below_of ?_ hb5; go_grown)
  have ka5 : Blk2 w5 (w.heap.size) (hiZ a) (loZ a) := (by refine Blk2.keep ?_ hb5; repeat' (first | (with_reducible assumption) | ((with_reducible refine Blk2.new_at _ _ ?_); (simp; done)) | ((with_reducible refine Blk4.new_at _ _ ?_); (simp; done)) | (with_reducible refine Blk2.drew ?_) | (with_reducible refine Blk2.drewN ?_) | (with_reducible refine Blk2.alloc ?_ _) | (with_reducible refine Blk4.drew ?_) | (with_reducible refine Blk4.drewN ?_) | (with_reducible refine Blk4.alloc ?_ _)))
  have kb5 : Blk2 w5 (g1) (hiZ b) (loZ b) := (by refine Blk2.keep ?_ hb5; repeat' (first | (with_reducible assumption) | ((with_reducible refine Blk2.new_at _ _ ?_); (simp; done)) | ((with_reducible refine Blk4.new_at _ _ ?_); (simp; done)) | (with_reducible refine Blk2.drew ?_) | (with_reducible refine Blk2.drewN ?_) | (with_reducible refine Blk2.alloc ?_ _) | (with_reducible refine Blk4.drew ?_) | (with_reducible refine Blk4.drewN ?_) | (with_reducible refine Blk4.alloc ?_ _)))
  have kf5 : Blk4 w5 (w2.heap.size) (hiZ (redN a b)) (loZ (redN a b)) (hiZ (redD a b)) (loZ (redD a b)) := (by refine Blk4.keep ?_ hb5; repeat' (first | (with_reducible assumption) | ((with_reducible refine Blk2.new_at _ _ ?_); (simp; done)) | ((with_reducible refine Blk4.new_at _ _ ?_); (simp; done)) | (with_reducible refine Blk2.drew ?_) | (with_reducible refine Blk2.drewN ?_) | (with_reducible refine Blk2.alloc ?_ _) | (with_reducible refine Blk4.drew ?_) | (with_reducible refine Blk4.drewN ?_) | (with_reducible refine Blk4.alloc ?_ _)))
  have kg5 : Blk2 w5 (w4.heap.size) (hiZ (gcdW a b)) (loZ (gcdW a b)) := (by refine Blk2.keep ?_ hb5; repeat' (first | (with_reducible assumption) | ((with_reducible refine Blk2.new_at _ _ ?_); (simp; done)) | ((with_reducible refine Blk4.new_at _ _ ?_); (simp; done)) | (with_reducible refine Blk2.drew ?_) | (with_reducible refine Blk2.drewN ?_) | (with_reducible refine Blk2.alloc ?_ _) | (with_reducible refine Blk4.drew ?_) | (with_reducible refine Blk4.drewN ?_) | (with_reducible refine Blk4.alloc ?_ _)))
  clear hb5 B4 z4 ka4 ca4 da4 fa4 ga4 la4 kb4 cb4 db4 fb4 gb4 lb4 kf4 cf4 df4 ef4 hf4 ff4 gf4 if4 jf4 lf4
  have z5 := B5.size
  have ca5 := ka5.c0; have da5 := ka5.c1; have fa5 := ka5.f0; have ga5 := ka5.f1; have la5 := ka5.lt
  have cb5 := kb5.c0; have db5 := kb5.c1; have fb5 := kb5.f0; have gb5 := kb5.f1; have lb5 := kb5.lt
  have cf5 := kf5.c0; have df5 := kf5.c1; have ef5 := kf5.c2; have hf5 := kf5.c3; have ff5 := kf5.f 0; have gf5 := kf5.f 1; have if5 := kf5.f 2; have jf5 := kf5.f 3; have lf5 := kf5.lt
  have cg5 := kg5.c0; have dg5 := kg5.c1; have fg5 := kg5.f0; have gg5 := kg5.f1; have lg5 := kg5.lt
  go_wp2_with fail
  refine (times_any b k HK.out _).mono ?_
  rintro e w6 ⟨rfl, hb6⟩
  have B6 : Below w.heap.size w w6 := (by refine below_of ?_ hb6; go_grown)
  have ka6 : Blk2 w6 (w.heap.size) (hiZ a) (loZ a) := (by refine Blk2.keep ?_ hb6; repeat' (first | (with_reducible assumption) | ((with_reducible refine Blk2.new_at _ _ ?_); (simp; done)) | ((with_reducible refine Blk4.new_at _ _ ?_); (simp; done)) | (with_reducible refine Blk2.drew ?_) | (with_reducible refine Blk2.drewN ?_) | (with_reducible refine Blk2.alloc ?_ _) | (with_reducible refine Blk4.drew ?_) | (with_reducible refine Blk4.drewN ?_) | (with_reducible refine Blk4.alloc ?_ _)))
  have kb6 : Blk2 w6 (g1) (hiZ b) (loZ b) := (by refine Blk2.keep ?_ hb6; repeat' (first | (with_reducible assumption) | ((with_reducible refine Blk2.new_at _ _ ?_); (simp; done)) | ((with_reducible refine Blk4.new_at _ _ ?_); (simp; done)) | (with_reducible refine Blk2.drew ?_) | (with_reducible refine Blk2.drewN ?_) | (with_reducible refine Blk2.alloc ?_ _) | (with_reducible refine Blk4.drew ?_) | (with_reducible refine Blk4.drewN ?_) | (with_reducible refine Blk4.alloc ?_ _)))
  have kf6 : Blk4 w6 (w2.heap.size) (hiZ (redN a b)) (loZ (redN a b)) (hiZ (redD a b)) (loZ (redD a b)) := (by refine Blk4.keep ?_ hb6; repeat' (first | (with_reducible assumption) | ((with_reducible refine Blk2.new_at _ _ ?_); (simp; done)) | ((with_reducible refine Blk4.new_at _ _ ?_); (simp; done)) | (with_reducible refine Blk2.drew ?_) | (with_reducible refine Blk2.drewN ?_) | (with_reducible refine Blk2.alloc ?_ _) | (with_reducible refine Blk4.drew ?_) | (with_reducible refine Blk4.drewN ?_) | (with_reducible refine Blk4.alloc ?_ _)))
  have kg6 : Blk2 w6 (w4.heap.size) (hiZ (gcdW a b)) (loZ (gcdW a b)) := (by refine Blk2.keep ?_ hb6; repeat' (first | (with_reducible assumption) | ((with_reducible refine Blk2.new_at _ _ ?_); (simp; done)) | ((with_reducible refine Blk4.new_at _ _ ?_); (simp; done)) | (with_reducible refine Blk2.drew ?_) | (with_reducible refine Blk2.drewN ?_) | (with_reducible refine Blk2.alloc ?_ _) | (with_reducible refine Blk4.drew ?_) | (with_reducible refine Blk4.drewN ?_) | (with_reducible refine Blk4.alloc ?_ _)))
  have kc6 : Blk2 w6 (w5.heap.size) (hiZ (timesU a k)) (loZ (timesU a k)) := (by refine Blk2.keep ?_ hb6; repeat' (first | (with_reducible assumption) | ((with_reducible refine Blk2.new_at _ _ ?_); (simp; done)) | ((with_reducible refine Blk4.new_at _ _ ?_); (simp; done)) | (with_reducible refine Blk2.drew ?_) | (with_reducible refine Blk2.drewN ?_) | (with_reducible refine Blk2.alloc ?_ _) | (with_reducible refine Blk4.drew ?_) | (with_reducible refine Blk4.drewN ?_) | (with_reducible refine Blk4.alloc ?_ _)))
  clear hb6 B5 z5 ka5 ca5 da5 fa5 ga5 la5 kb5 cb5 db5 fb5 gb5 lb5 kf5 cf5 df5 ef5 hf5 ff5 gf5 if5 jf5 lf5 kg5 cg5 dg5 fg5 gg5 lg5
  have z6 := B6.size
  have ca6 := ka6.c0; have da6 := ka6.c1; have fa6 := ka6.f0; have ga6 := ka6.f1; have la6 := ka6.lt
  have cb6 := kb6.c0; have db6 := kb6.c1; have fb6 := kb6.f0; have gb6 := kb6.f1; have lb6 := kb6.lt
  have cf6 := kf6.c0; have df6 := kf6.c1; have ef6 := kf6.c2; have hf6 := kf6.c3; have ff6 := kf6.f 0; have gf6 := kf6.f 1; have if6 := kf6.f 2; have jf6 := kf6.f 3; have lf6 := kf6.lt
  have cg6 := kg6.c0; have dg6 := kg6.c1; have fg6 := kg6.f0; have gg6 := kg6.f1; have lg6 := kg6.lt
  have cc6 := kc6.c0; have dc6 := kc6.c1; have fc6 := kc6.f0; have gc6 := kc6.f1; have lc6 := kc6.lt
  go_wp2_with fail
  go_ret
  exact ⟨rfl, by go_grown⟩
set_option maxHeartbeats 8000000 in
set_option maxRecDepth 100000 in
theorem rsame_h_ok (a b : U) (k : Nat) (hk : k < 18446744073709551616) (w : World) (htab : tabs w) (hb : b.n ≠ 0) (hg : hiZ (gcdW a b) ≠ 0) (hk0 : k ≠ 0) (h3 : a.n * k < 340282366920938463463374607431768211456) (h4 : b.n * k < 340282366920938463463374607431768211456) :
    Calls Tryd.prog 9 #[.agg #[.int .u64 (hiZ a), .int .u64 (loZ a)], .agg #[.int .u64 (hiZ b), .int .u64 (loZ b)], .int .u64 k] w fun e w' => e = .returned (.bool true) ∧ Below w.heap.size w w' := by
  have HT := Lib.hid htab
  have HK := Lib.hid hk
  clear htab hk
  have tk : ((k : Int) == 0) = false := by simp; omega
  have t3 : (timesE a k != 0) = false := by rw [show timesE a k = 0 from cutE_lt h3]; rfl
  have t4 : (timesE b k != 0) = false := by rw [show timesE b k = 0 from cutE_lt h4]; rfl
  have HS := Lib.hid (rs_same (a := a) hb hk0 h3 h4)
  clear hk0 h3 h4
  have HR := Lib.hid (rs_parts (a := a) hb)
  have HB := Lib.hid hb
  have tg : (hiZ (gcdW a b) == 0) = false := by simpa using hg
  have HG := Lib.hid hg
  clear hb hg
  go_enter Tryd.func9, Tryd.ntmps9
  go_wp2_with fail
  have ka0 : Blk2 ((w.alloc (.cells #[.int .u64 (hiZ a), .int .u64 (loZ a)] 24)).alloc (.cells #[.int .u64 (hiZ b), .int .u64 (loZ b)] 24)) (w.heap.size) (hiZ a) (loZ a) := (by repeat' (first | (with_reducible assumption) | ((with_reducible refine Blk2.new_at _ _ ?_); (simp; done)) | ((with_reducible refine Blk4.new_at _ _ ?_); (simp; done)) | (with_reducible refine Blk2.drew ?_) | (with_reducible refine Blk2.drewN ?_) | (with_reducible refine Blk2.alloc ?_ _) | (with_reducible refine Blk4.drew ?_) | (with_reducible refine Blk4.drewN ?_) | (with_reducible refine Blk4.alloc ?_ _)))
  have kb0 : Blk2 ((w.alloc (.cells #[.int .u64 (hiZ a), .int .u64 (loZ a)] 24)).alloc (.cells #[.int .u64 (hiZ b), .int .u64 (loZ b)] 24)) (w.heap.size + 1) (hiZ b) (loZ b) := (by repeat' (first | (with_reducible assumption) | ((with_reducible refine Blk2.new_at _ _ ?_); (simp; done)) | ((with_reducible refine Blk4.new_at _ _ ?_); (simp; done)) | (with_reducible refine Blk2.drew ?_) | (with_reducible refine Blk2.drewN ?_) | (with_reducible refine Blk2.alloc ?_ _) | (with_reducible refine Blk4.drew ?_) | (with_reducible refine Blk4.drewN ?_) | (with_reducible refine Blk4.alloc ?_ _)))
  have B0 : Below w.heap.size w ((w.alloc (.cells #[.int .u64 (hiZ a), .int .u64 (loZ a)] 24)).alloc (.cells #[.int .u64 (hiZ b), .int .u64 (loZ b)] 24)) := (by go_grown)
  have o1 : w.heap.size < w.heap.size + 1 := by omega
  generalize w.heap.size + 1 = g1 at *
  generalize ((w.alloc (.cells #[.int .u64 (hiZ a), .int .u64 (loZ a)] 24)).alloc (.cells #[.int .u64 (hiZ b), .int .u64 (loZ b)] 24)) = w0 at *
  have z0 := B0.size
  have ca0 := ka0.c0; have da0 := ka0.c1; have fa0 := ka0.f0; have ga0 := ka0.f1; have la0 := ka0.lt
  have cb0 := kb0.c0; have db0 := kb0.c1; have fb0 := kb0.f0; have gb0 := kb0.f1; have lb0 := kb0.lt
  refine (lives2_any _ (tabs_stays HT.out (by go_grown))).mono ?_
  rintro e w1 ⟨rfl, hb1⟩
  have B1 : Below w.heap.size w w1 := (by refine below_of ?_ hb1; go_grown)
  have ka1 : Blk2 w1 (w.heap.size) (hiZ a) (loZ a) := (by refine Blk2.keep ?_ hb1; repeat' (first | (with_reducible assumption) | ((with_reducible refine Blk2.new_at _ _ ?_); (simp; done)) | ((with_reducible refine Blk4.new_at _ _ ?_); (simp; done)) | (with_reducible refine Blk2.drew ?_) | (with_reducible refine Blk2.drewN ?_) | (with_reducible refine Blk2.alloc ?_ _) | (with_reducible refine Blk4.drew ?_) | (with_reducible refine Blk4.drewN ?_) | (with_reducible refine Blk4.alloc ?_ _)))
  have kb1 : Blk2 w1 (g1) (hiZ b) (loZ b) := (by refine Blk2.keep ?_ hb1; repeat' (first | (with_reducible assumption) | ((with_reducible refine Blk2.new_at _ _ ?_); (simp; done)) | ((with_reducible refine Blk4.new_at _ _ ?_); (simp; done)) | (with_reducible refine Blk2.drew ?_) | (with_reducible refine Blk2.drewN ?_) | (with_reducible refine Blk2.alloc ?_ _) | (with_reducible refine Blk4.drew ?_) | (with_reducible refine Blk4.drewN ?_) | (with_reducible refine Blk4.alloc ?_ _)))
  clear hb1 B0 z0 ka0 ca0 da0 fa0 ga0 la0 kb0 cb0 db0 fb0 gb0 lb0
  have z1 := B1.size
  have ca1 := ka1.c0; have da1 := ka1.c1; have fa1 := ka1.f0; have ga1 := ka1.f1; have la1 := ka1.lt
  have cb1 := kb1.c0; have db1 := kb1.c1; have fb1 := kb1.f0; have gb1 := kb1.f1; have lb1 := kb1.lt
  go_wp2_with fail
  refine (reduce_any a b HB.out _).mono ?_
  rintro e w2 ⟨rfl, hb2⟩
  have B2 : Below w.heap.size w w2 := (by refine below_of ?_ hb2; go_grown)
  have ka2 : Blk2 w2 (w.heap.size) (hiZ a) (loZ a) := (by refine Blk2.keep ?_ hb2; repeat' (first | (with_reducible assumption) | ((with_reducible refine Blk2.new_at _ _ ?_); (simp; done)) | ((with_reducible refine Blk4.new_at _ _ ?_); (simp; done)) | (with_reducible refine Blk2.drew ?_) | (with_reducible refine Blk2.drewN ?_) | (with_reducible refine Blk2.alloc ?_ _) | (with_reducible refine Blk4.drew ?_) | (with_reducible refine Blk4.drewN ?_) | (with_reducible refine Blk4.alloc ?_ _)))
  have kb2 : Blk2 w2 (g1) (hiZ b) (loZ b) := (by refine Blk2.keep ?_ hb2; repeat' (first | (with_reducible assumption) | ((with_reducible refine Blk2.new_at _ _ ?_); (simp; done)) | ((with_reducible refine Blk4.new_at _ _ ?_); (simp; done)) | (with_reducible refine Blk2.drew ?_) | (with_reducible refine Blk2.drewN ?_) | (with_reducible refine Blk2.alloc ?_ _) | (with_reducible refine Blk4.drew ?_) | (with_reducible refine Blk4.drewN ?_) | (with_reducible refine Blk4.alloc ?_ _)))
  clear hb2 B1 z1 ka1 ca1 da1 fa1 ga1 la1 kb1 cb1 db1 fb1 gb1 lb1
  have z2 := B2.size
  have ca2 := ka2.c0; have da2 := ka2.c1; have fa2 := ka2.f0; have ga2 := ka2.f1; have la2 := ka2.lt
  have cb2 := kb2.c0; have db2 := kb2.c1; have fb2 := kb2.f0; have gb2 := kb2.f1; have lb2 := kb2.lt
  go_wp2_with fail
  refine (rs_check HR.out.2.2.2 _).mono ?_
  rintro e w3 ⟨rfl, hb3⟩
  have B3 : Below w.heap.size w w3 := (by refine below_of ?_ hb3; go_grown)
  have ka3 : Blk2 w3 (w.heap.size) (hiZ a) (loZ a) := (by refine Blk2.keep ?_ hb3; repeat' (first | (with_reducible assumption) | ((with_reducible refine Blk2.new_at _ _ ?_); (simp; done)) | ((with_reducible refine Blk4.new_at _ _ ?_); (simp; done)) | (with_reducible refine Blk2.drew ?_) | (with_reducible refine Blk2.drewN ?_) | (with_reducible refine Blk2.alloc ?_ _) | (with_reducible refine Blk4.drew ?_) | (with_reducible refine Blk4.drewN ?_) | (with_reducible refine Blk4.alloc ?_ _)))
  have kb3 : Blk2 w3 (g1) (hiZ b) (loZ b) := (by refine Blk2.keep ?_ hb3; repeat' (first | (with_reducible assumption) | ((with_reducible refine Blk2.new_at _ _ ?_); (simp; done)) | ((with_reducible refine Blk4.new_at _ _ ?_); (simp; done)) | (with_reducible refine Blk2.drew ?_) | (with_reducible refine Blk2.drewN ?_) | (with_reducible refine Blk2.alloc ?_ _) | (with_reducible refine Blk4.drew ?_) | (with_reducible refine Blk4.drewN ?_) | (with_reducible refine Blk4.alloc ?_ _)))
  have kf3 : Blk4 w3 (w2.heap.size) (hiZ (redN a b)) (loZ (redN a b)) (hiZ (redD a b)) (loZ (redD a b)) := (by refine Blk4.keep ?_ hb3; repeat' (first | (with_reducible assumption) | ((with_reducible refine Blk2.new_at _ _ ?_); (simp; done)) | ((with_reducible refine Blk4.new_at _ _ ?_); (simp; done)) | (with_reducible refine Blk2.drew ?_) | (with_reducible refine Blk2.drewN ?_) | (with_reducible refine Blk2.alloc ?_ _) | (with_reducible refine Blk4.drew ?_) | (with_reducible refine Blk4.drewN ?_) | (with_reducible refine Blk4.alloc ?_ _)))
  clear hb3 B2 z2 ka2 ca2 da2 fa2 ga2 la2 kb2 cb2 db2 fb2 gb2 lb2
  have z3 := B3.size
  have ca3 := ka3.c0; have da3 := ka3.c1; have fa3 := ka3.f0; have ga3 := ka3.f1; have la3 := ka3.lt
  have cb3 := kb3.c0; have db3 := kb3.c1; have fb3 := kb3.f0; have gb3 := kb3.f1; have lb3 := kb3.lt
  have cf3 := kf3.c0; have df3 := kf3.c1; have ef3 := kf3.c2; have hf3 := kf3.c3; have ff3 := kf3.f 0; have gf3 := kf3.f 1; have if3 := kf3.f 2; have jf3 := kf3.f 3; have lf3 := kf3.lt
  go_wp2_with fail
  refine (gcd_any a b _).mono ?_
  rintro e w4 ⟨rfl, hb4⟩
  have B4 : Below w.heap.size w w4 := (by refine below_of ?_ hb4; go_grown)
  have ka4 : Blk2 w4 (w.heap.size) (hiZ a) (loZ a) := (by refine Blk2.keep ?_ hb4; repeat' (first | (with_reducible assumption) | ((with_reducible refine Blk2.new_at _ _ ?_); (simp; done)) | ((with_reducible refine Blk4.new_at _ _ ?_); (simp; done)) | (with_reducible refine Blk2.drew ?_) | (with_reducible refine Blk2.drewN ?_) | (with_reducible refine Blk2.alloc ?_ _) | (with_reducible refine Blk4.drew ?_) | (with_reducible refine Blk4.drewN ?_) | (with_reducible refine Blk4.alloc ?_ _)))
  have kb4 : Blk2 w4 (g1) (hiZ b) (loZ b) := (by refine Blk2.keep ?_ hb4; repeat' (first | (with_reducible assumption) | ((with_reducible refine Blk2.new_at _ _ ?_); (simp; done)) | ((with_reducible refine Blk4.new_at _ _ ?_); (simp; done)) | (with_reducible refine Blk2.drew ?_) | (with_reducible refine Blk2.drewN ?_) | (with_reducible refine Blk2.alloc ?_ _) | (with_reducible refine Blk4.drew ?_) | (with_reducible refine Blk4.drewN ?_) | (with_reducible refine Blk4.alloc ?_ _)))
  have kf4 : Blk4 w4 (w2.heap.size) (hiZ (redN a b)) (loZ (redN a b)) (hiZ (redD a b)) (loZ (redD a b)) := (by refine Blk4.keep ?_ hb4; repeat' (first | (with_reducible assumption) | ((with_reducible refine Blk2.new_at _ _ ?_); (simp; done)) | ((with_reducible refine Blk4.new_at _ _ ?_); (simp; done)) | (with_reducible refine Blk2.drew ?_) | (with_reducible refine Blk2.drewN ?_) | (with_reducible refine Blk2.alloc ?_ _) | (with_reducible refine Blk4.drew ?_) | (with_reducible refine Blk4.drewN ?_) | (with_reducible refine Blk4.alloc ?_ _)))
  clear hb4 B3 z3 ka3 ca3 da3 fa3 ga3 la3 kb3 cb3 db3 fb3 gb3 lb3 kf3 cf3 df3 ef3 hf3 ff3 gf3 if3 jf3 lf3
  have z4 := B4.size
  have ca4 := ka4.c0; have da4 := ka4.c1; have fa4 := ka4.f0; have ga4 := ka4.f1; have la4 := ka4.lt
  have cb4 := kb4.c0; have db4 := kb4.c1; have fb4 := kb4.f0; have gb4 := kb4.f1; have lb4 := kb4.lt
  have cf4 := kf4.c0; have df4 := kf4.c1; have ef4 := kf4.c2; have hf4 := kf4.c3; have ff4 := kf4.f 0; have gf4 := kf4.f 1; have if4 := kf4.f 2; have jf4 := kf4.f 3; have lf4 := kf4.lt
  go_wp2_with fail
  refine (times_any a k HK.out _).mono ?_
  rintro e w5 ⟨rfl, hb5⟩
  have B5 : Below w.heap.size w w5 := (by refine below_of ?_ hb5; go_grown)
  have ka5 : Blk2 w5 (w.heap.size) (hiZ a) (loZ a) := (by refine Blk2.keep ?_ hb5; repeat' (first | (with_reducible assumption) | ((with_reducible refine Blk2.new_at _ _ ?_); (simp; done)) | ((with_reducible refine Blk4.new_at _ _ ?_); (simp; done)) | (with_reducible refine Blk2.drew ?_) | (with_reducible refine Blk2.drewN ?_) | (with_reducible refine Blk2.alloc ?_ _) | (with_reducible refine Blk4.drew ?_) | (with_reducible refine Blk4.drewN ?_) | (with_reducible refine Blk4.alloc ?_ _)))
  have kb5 : Blk2 w5 (g1) (hiZ b) (loZ b) := (by refine Blk2.keep ?_ hb5; repeat' (first | (with_reducible assumption) | ((with_reducible refine Blk2.new_at _ _ ?_); (simp; done)) | ((with_reducible refine Blk4.new_at _ _ ?_); (simp; done)) | (with_reducible refine Blk2.drew ?_) | (with_reducible refine Blk2.drewN ?_) | (with_reducible refine Blk2.alloc ?_ _) | (with_reducible refine Blk4.drew ?_) | (with_reducible refine Blk4.drewN ?_) | (with_reducible refine Blk4.alloc ?_ _)))
  have kf5 : Blk4 w5 (w2.heap.size) (hiZ (redN a b)) (loZ (redN a b)) (hiZ (redD a b)) (loZ (redD a b)) := (by refine Blk4.keep ?_ hb5; repeat' (first | (with_reducible assumption) | ((with_reducible refine Blk2.new_at _ _ ?_); (simp; done)) | ((with_reducible refine Blk4.new_at _ _ ?_); (simp; done)) | (with_reducible refine Blk2.drew ?_) | (with_reducible refine Blk2.drewN ?_) | (with_reducible refine Blk2.alloc ?_ _) | (with_reducible refine Blk4.drew ?_) | (with_reducible refine Blk4.drewN ?_) | (with_reducible refine Blk4.alloc ?_ _)))
  have kg5 : Blk2 w5 (w4.heap.size) (hiZ (gcdW a b)) (loZ (gcdW a b)) := (by refine Blk2.keep ?_ hb5; repeat' (first | (with_reducible assumption) | ((with_reducible refine Blk2.new_at _ _ ?_); (simp; done)) | ((with_reducible refine Blk4.new_at _ _ ?_); (simp; done)) | (with_reducible refine Blk2.drew ?_) | (with_reducible refine Blk2.drewN ?_) | (with_reducible refine Blk2.alloc ?_ _) | (with_reducible refine Blk4.drew ?_) | (with_reducible refine Blk4.drewN ?_) | (with_reducible refine Blk4.alloc ?_ _)))
  clear hb5 B4 z4 ka4 ca4 da4 fa4 ga4 la4 kb4 cb4 db4 fb4 gb4 lb4 kf4 cf4 df4 ef4 hf4 ff4 gf4 if4 jf4 lf4
  have z5 := B5.size
  have ca5 := ka5.c0; have da5 := ka5.c1; have fa5 := ka5.f0; have ga5 := ka5.f1; have la5 := ka5.lt
  have cb5 := kb5.c0; have db5 := kb5.c1; have fb5 := kb5.f0; have gb5 := kb5.f1; have lb5 := kb5.lt
  have cf5 := kf5.c0; have df5 := kf5.c1; have ef5 := kf5.c2; have hf5 := kf5.c3; have ff5 := kf5.f 0; have gf5 := kf5.f 1; have if5 := kf5.f 2; have jf5 := kf5.f 3; have lf5 := kf5.lt
  have cg5 := kg5.c0; have dg5 := kg5.c1; have fg5 := kg5.f0; have gg5 := kg5.f1; have lg5 := kg5.lt
  go_wp2_with fail
  refine (times_any b k HK.out _).mono ?_
  rintro e w6 ⟨rfl, hb6⟩
  have B6 : Below w.heap.size w w6 := (by refine below_of ?_ hb6; go_grown)
  have ka6 : Blk2 w6 (w.heap.size) (hiZ a) (loZ a) := (by refine Blk2.keep ?_ hb6; repeat' (first | (with_reducible assumption) | ((with_reducible refine Blk2.new_at _ _ ?_); (simp; done)) | ((with_reducible refine Blk4.new_at _ _ ?_); (simp; done)) | (with_reducible refine Blk2.drew ?_) | (with_reducible refine Blk2.drewN ?_) | (with_reducible refine Blk2.alloc ?_ _) | (with_reducible refine Blk4.drew ?_) | (with_reducible refine Blk4.drewN ?_) | (with_reducible refine Blk4.alloc ?_ _)))
  have kb6 : Blk2 w6 (g1) (hiZ b) (loZ b) := (by refine Blk2.keep ?_ hb6; repeat' (first | (with_reducible assumption) | ((with_reducible refine Blk2.new_at _ _ ?_); (simp; done)) | ((with_reducible refine Blk4.new_at _ _ ?_); (simp; done)) | (with_reducible refine Blk2.drew ?_) | (with_reducible refine Blk2.drewN ?_) | (with_reducible refine Blk2.alloc ?_ _) | (with_reducible refine Blk4.drew ?_) | (with_reducible refine Blk4.drewN ?_) | (with_reducible refine Blk4.alloc ?_ _)))
  have kf6 : Blk4 w6 (w2.heap.size) (hiZ (redN a b)) (loZ (redN a b)) (hiZ (redD a b)) (loZ (redD a b)) := (by refine Blk4.keep ?_ hb6; repeat' (first | (with_reducible assumption) | ((with_reducible refine Blk2.new_at _ _ ?_); (simp; done)) | ((with_reducible refine Blk4.new_at _ _ ?_); (simp; done)) | (with_reducible refine Blk2.drew ?_) | (with_reducible refine Blk2.drewN ?_) | (with_reducible refine Blk2.alloc ?_ _) | (with_reducible refine Blk4.drew ?_) | (with_reducible refine Blk4.drewN ?_) | (with_reducible refine Blk4.alloc ?_ _)))
  have kg6 : Blk2 w6 (w4.heap.size) (hiZ (gcdW a b)) (loZ (gcdW a b)) := (by refine Blk2.keep ?_ hb6; repeat' (first | (with_reducible assumption) | ((with_reducible refine Blk2.new_at _ _ ?_); (simp; done)) | ((with_reducible refine Blk4.new_at _ _ ?_); (simp; done)) | (with_reducible refine Blk2.drew ?_) | (with_reducible refine Blk2.drewN ?_) | (with_reducible refine Blk2.alloc ?_ _) | (with_reducible refine Blk4.drew ?_) | (with_reducible refine Blk4.drewN ?_) | (with_reducible refine Blk4.alloc ?_ _)))
  have kc6 : Blk2 w6 (w5.heap.size) (hiZ (timesU a k)) (loZ (timesU a k)) := (by refine Blk2.keep ?_ hb6; repeat' (first | (with_reducible assumption) | ((with_reducible refine Blk2.new_at _ _ ?_); (simp; done)) | ((with_reducible refine Blk4.new_at _ _ ?_); (simp; done)) | (with_reducible refine Blk2.drew ?_) | (with_reducible refine Blk2.drewN ?_) | (with_reducible refine Blk2.alloc ?_ _) | (with_reducible refine Blk4.drew ?_) | (with_reducible refine Blk4.drewN ?_) | (with_reducible refine Blk4.alloc ?_ _)))
  clear hb6 B5 z5 ka5 ca5 da5 fa5 ga5 la5 kb5 cb5 db5 fb5 gb5 lb5 kf5 cf5 df5 ef5 hf5 ff5 gf5 if5 jf5 lf5 kg5 cg5 dg5 fg5 gg5 lg5
  have z6 := B6.size
  have ca6 := ka6.c0; have da6 := ka6.c1; have fa6 := ka6.f0; have ga6 := ka6.f1; have la6 := ka6.lt
  have cb6 := kb6.c0; have db6 := kb6.c1; have fb6 := kb6.f0; have gb6 := kb6.f1; have lb6 := kb6.lt
  have cf6 := kf6.c0; have df6 := kf6.c1; have ef6 := kf6.c2; have hf6 := kf6.c3; have ff6 := kf6.f 0; have gf6 := kf6.f 1; have if6 := kf6.f 2; have jf6 := kf6.f 3; have lf6 := kf6.lt
  have cg6 := kg6.c0; have dg6 := kg6.c1; have fg6 := kg6.f0; have gg6 := kg6.f1; have lg6 := kg6.lt
  have cc6 := kc6.c0; have dc6 := kc6.c1; have fc6 := kc6.f0; have gc6 := kc6.f1; have lc6 := kc6.lt
  go_wp2_with fail
  refine (rs_reduce HS.out.1 HS.out.2.1 HS.out.2.2 _).mono ?_
  rintro e w7 ⟨rfl, hb7⟩
  have B7 : Below w.heap.size w w7 := (by refine below_of ?_ hb7; go_grown)
  have ka7 : Blk2 w7 (w.heap.size) (hiZ a) (loZ a) := (by refine Blk2.keep ?_ hb7; repeat' (first | (with_reducible assumption) | ((with_reducible refine Blk2.new_at _ _ ?_); (simp; done)) | ((with_reducible refine Blk4.new_at _ _ ?_); (simp; done)) | (with_reducible refine Blk2.drew ?_) | (with_reducible refine Blk2.drewN ?_) | (with_reducible refine Blk2.alloc ?_ _) | (with_reducible refine Blk4.drew ?_) | (with_reducible refine Blk4.drewN ?_) | (with_reducible refine Blk4.alloc ?_ _)))
  have kb7 : Blk2 w7 (g1) (hiZ b) (loZ b) := (by refine Blk2.keep ?_ hb7; repeat' (first | (with_reducible assumption) | ((with_reducible refine Blk2.new_at _ _ ?_); (simp; done)) | ((with_reducible refine Blk4.new_at _ _ ?_); (simp; done)) | (with_reducible refine Blk2.drew ?_) | (with_reducible refine Blk2.drewN ?_) | (with_reducible refine Blk2.alloc ?_ _) | (with_reducible refine Blk4.drew ?_) | (with_reducible refine Blk4.drewN ?_) | (with_reducible refine Blk4.alloc ?_ _)))
  have kf7 : Blk4 w7 (w2.heap.size) (hiZ (redN a b)) (loZ (redN a b)) (hiZ (redD a b)) (loZ (redD a b)) := (by refine Blk4.keep ?_ hb7; repeat' (first | (with_reducible assumption) | ((with_reducible refine Blk2.new_at _ _ ?_); (simp; done)) | ((with_reducible refine Blk4.new_at _ _ ?_); (simp; done)) | (with_reducible refine Blk2.drew ?_) | (with_reducible refine Blk2.drewN ?_) | (with_reducible refine Blk2.alloc ?_ _) | (with_reducible refine Blk4.drew ?_) | (with_reducible refine Blk4.drewN ?_) | (with_reducible refine Blk4.alloc ?_ _)))
  have kg7 : Blk2 w7 (w4.heap.size) (hiZ (gcdW a b)) (loZ (gcdW a b)) := (by refine Blk2.keep ?_ hb7; repeat' (first | (with_reducible assumption) | ((with_reducible refine Blk2.new_at _ _ ?_); (simp; done)) | ((with_reducible refine Blk4.new_at _ _ ?_); (simp; done)) | (with_reducible refine Blk2.drew ?_) | (with_reducible refine Blk2.drewN ?_) | (with_reducible refine Blk2.alloc ?_ _) | (with_reducible refine Blk4.drew ?_) | (with_reducible refine Blk4.drewN ?_) | (with_reducible refine Blk4.alloc ?_ _)))
  have kc7 : Blk2 w7 (w5.heap.size) (hiZ (timesU a k)) (loZ (timesU a k)) := (by refine Blk2.keep ?_ hb7; repeat' (first | (with_reducible assumption) | ((with_reducible refine Blk2.new_at _ _ ?_); (simp; done)) | ((with_reducible refine Blk4.new_at _ _ ?_); (simp; done)) | (with_reducible refine Blk2.drew ?_) | (with_reducible refine Blk2.drewN ?_) | (with_reducible refine Blk2.alloc ?_ _) | (with_reducible refine Blk4.drew ?_) | (with_reducible refine Blk4.drewN ?_) | (with_reducible refine Blk4.alloc ?_ _)))
  have kd7 : Blk2 w7 (w6.heap.size) (hiZ (timesU b k)) (loZ (timesU b k)) := (by refine Blk2.keep ?_ hb7; repeat' (first | (with_reducible assumption) | ((with_reducible refine Blk2.new_at _ _ ?_); (simp; done)) | ((with_reducible refine Blk4.new_at _ _ ?_); (simp; done)) | (with_reducible refine Blk2.drew ?_) | (with_reducible refine Blk2.drewN ?_) | (with_reducible refine Blk2.alloc ?_ _) | (with_reducible refine Blk4.drew ?_) | (with_reducible refine Blk4.drewN ?_) | (with_reducible refine Blk4.alloc ?_ _)))
  clear hb7 B6 z6 ka6 ca6 da6 fa6 ga6 la6 kb6 cb6 db6 fb6 gb6 lb6 kf6 cf6 df6 ef6 hf6 ff6 gf6 if6 jf6 lf6 kg6 cg6 dg6 fg6 gg6 lg6 kc6 cc6 dc6 fc6 gc6 lc6
  have z7 := B7.size
  have ca7 := ka7.c0; have da7 := ka7.c1; have fa7 := ka7.f0; have ga7 := ka7.f1; have la7 := ka7.lt
  have cb7 := kb7.c0; have db7 := kb7.c1; have fb7 := kb7.f0; have gb7 := kb7.f1; have lb7 := kb7.lt
  have cf7 := kf7.c0; have df7 := kf7.c1; have ef7 := kf7.c2; have hf7 := kf7.c3; have ff7 := kf7.f 0; have gf7 := kf7.f 1; have if7 := kf7.f 2; have jf7 := kf7.f 3; have lf7 := kf7.lt
  have cg7 := kg7.c0; have dg7 := kg7.c1; have fg7 := kg7.f0; have gg7 := kg7.f1; have lg7 := kg7.lt
  have cc7 := kc7.c0; have dc7 := kc7.c1; have fc7 := kc7.f0; have gc7 := kc7.f1; have lc7 := kc7.lt
  have cd7 := kd7.c0; have dd7 := kd7.c1; have fd7 := kd7.f0; have gd7 := kd7.f1; have ld7 := kd7.lt
  go_wp2_with fail
  go_ret
  exact ⟨rfl, by go_grown⟩
theorem rsame_any (a b : U) (k : Nat) (hk : k < 18446744073709551616) (w : World) (htab : tabs w) :
    Calls Tryd.prog 9 #[.agg #[.int .u64 (hiZ a), .int .u64 (loZ a)], .agg #[.int .u64 (hiZ b), .int .u64 (loZ b)], .int .u64 k] w fun e w' => e = .returned (.bool true) ∧ Below w.heap.size w w' := by
  by_cases hb : b.n = 0
  · exact rsame_zero a b k hk w htab hb
  · by_cases hg : hiZ (gcdW a b) = 0
    · by_cases hk0 : k = 0
      · exact rsame_g_n0 a b k hk w htab hb hg hk0
      · by_cases h3 : a.n * k < 340282366920938463463374607431768211456
        · by_cases h4 : b.n * k < 340282366920938463463374607431768211456
          · exact rsame_g_ok a b k hk w htab hb hg hk0 h3 h4
          · exact rsame_g_e4 a b k hk w htab hb hg hk0 (cutE_lt h3) (by rw [show timesE b k = 1 from cutE_ge (by omega)]; omega)
        · exact rsame_g_e3 a b k hk w htab hb hg hk0 (by rw [show timesE a k = 1 from cutE_ge (by omega)]; omega)
    · by_cases hk0 : k = 0
      · exact rsame_h_n0 a b k hk w htab hb hg hk0
      · by_cases h3 : a.n * k < 340282366920938463463374607431768211456
        · by_cases h4 : b.n * k < 340282366920938463463374607431768211456
          · exact rsame_h_ok a b k hk w htab hb hg hk0 h3 h4
          · exact rsame_h_e4 a b k hk w htab hb hg hk0 (cutE_lt h3) (by rw [show timesE b k = 1 from cutE_ge (by omega)]; omega)
        · exact rsame_h_e3 a b k hk w htab hb hg hk0 (by rw [show timesE a k = 1 from cutE_ge (by omega)]; omega)
end Go.Proofs.YtklmllkpedailaaDoor
