/-
  WALKS: ratio.Rate, ratio.Text.
-/
import Derived.Test.YtnbchhjanlpdlaaDoorFrac2
import Derived.Test.YtnbchhjanlpdlaaDoorLives
import Derived.Deep.RegionHeld3
namespace Go.Proofs.YtnbchhjanlpdlaaDoor
open Go Go.RowKit

set_option maxHeartbeats 8000000 in
set_option maxRecDepth 100000 in
theorem rate_zero (a : U) (w : World) :
    Calls Tryd.prog 27 #[.agg #[.int .u64 (hiZ a), .int .u64 (loZ a)], .int .u64 0] w fun e w' =>
      e = .returned (.tuple #[.agg #[.int .u64 0, .int .u64 0, .int .u64 0, .int .u64 0], .int .i64 12]) ∧ Below w.heap.size w w' := by
  go_enter Tryd.func27, Tryd.ntmps27
  go_wp2_with fail
  go_returns
  exact ⟨rfl, by go_grown⟩
def rateN (a : U) (k : Nat) : U := redN (timesU a 1000) (cutU k)
def rateD (a : U) (k : Nat) : U := redD (timesU a 1000) (cutU k)
theorem hi_small {k : Nat} (hk : k < 18446744073709551616) : hiZ (cutU k) = 0 := by have := cutU_n (n := k) (by omega); unfold hiZ; omega
theorem lo_small {k : Nat} (hk : k < 18446744073709551616) : loZ (cutU k) = k := by have := cutU_n (n := k) (by omega); unfold loZ; omega
theorem n_small {k : Nat} (hk : k < 18446744073709551616) : (cutU k).n = k := cutU_n (by omega)
theorem reduce_at {n d : U} {a b c e : Int} (h1 : a = hiZ n) (h2 : b = loZ n) (h3 : c = hiZ d) (h4 : e = loZ d) (hd : d.n ≠ 0) (w : World) :
    Calls Tryd.prog 25 #[.agg #[.int .u64 a, .int .u64 b], .agg #[.int .u64 c, .int .u64 e]] w fun e w' =>
      e = .returned (.tuple #[.agg #[.int .u64 (hiZ (redN n d)), .int .u64 (loZ (redN n d)), .int .u64 (hiZ (redD n d)), .int .u64 (loZ (redD n d))], .int .i64 0]) ∧ Below w.heap.size w w' := by
  subst h1 h2 h3 h4
  exact reduce_any n d hd w
theorem rate_red (a : U) (k : Nat) (hk0 : 0 < k) (hk : k < 18446744073709551616) (w : World) :
    Calls Tryd.prog 25 #[.agg #[.int .u64 (hiZ (timesU a 1000)), .int .u64 (loZ (timesU a 1000))], .agg #[.int .u64 0, .int .u64 k]] w fun e w' =>
      e = .returned (.tuple #[.agg #[.int .u64 (hiZ (rateN a k)), .int .u64 (loZ (rateN a k)), .int .u64 (hiZ (rateD a k)), .int .u64 (loZ (rateD a k))], .int .i64 0]) ∧ Below w.heap.size w w' :=
  reduce_at rfl rfl (hi_small hk).symm (lo_small hk).symm (by rw [n_small hk]; omega) w
set_option maxHeartbeats 8000000 in
set_option maxRecDepth 100000 in
theorem rate_over (a : U) (k : Nat) (hk0 : 0 < k) (hk : k < 18446744073709551616) (hm : a.n * 1000 ≥ 340282366920938463463374607431768211456) (w : World) :
    Calls Tryd.prog 27 #[.agg #[.int .u64 (hiZ a), .int .u64 (loZ a)], .int .u64 k] w fun e w' =>
      e = .returned (.tuple #[.agg #[.int .u64 0, .int .u64 0, .int .u64 0, .int .u64 0], .int .i64 1]) ∧ Below w.heap.size w w' := by
  have hk1 : ((k : Int) == 0) = false := by simp; omega
  have h0 : timesE a 1000 = 1 := cutE_ge hm
  have t0 : (timesE a 1000 != 0) = true := by rw [h0]; rfl
  have HE := Lib.hid h0
  have HK0 := Lib.hid hk0
  have HK := Lib.hid hk
  clear hm h0 hk0 hk
  go_enter Tryd.func27, Tryd.ntmps27
  go_upto_region 1 with fail
  have ki0 : Blk2 ((w.alloc (.cells #[.int .u64 (hiZ a), .int .u64 (loZ a)] 24)).alloc (.cells #[.int .u64 0, .int .u64 0, .int .u64 0, .int .u64 0] 41)) (w.heap.size) (hiZ a) (loZ a) := (by repeat' (first | (with_reducible assumption) | ((with_reducible refine Blk2.new_at _ _ ?_); (simp; done)) | ((with_reducible refine Blk4.new_at _ _ ?_); (simp; done)) | (with_reducible refine Blk2.drew ?_) | (with_reducible refine Blk2.drewN ?_) | (with_reducible refine Blk2.alloc ?_ _) | (with_reducible refine Blk4.drew ?_) | (with_reducible refine Blk4.drewN ?_) | (with_reducible refine Blk4.alloc ?_ _)))
  have kr0 : Blk4 ((w.alloc (.cells #[.int .u64 (hiZ a), .int .u64 (loZ a)] 24)).alloc (.cells #[.int .u64 0, .int .u64 0, .int .u64 0, .int .u64 0] 41)) (w.heap.size + 1) (0) (0) (0) (0) := (by repeat' (first | (with_reducible assumption) | ((with_reducible refine Blk2.new_at _ _ ?_); (simp; done)) | ((with_reducible refine Blk4.new_at _ _ ?_); (simp; done)) | (with_reducible refine Blk2.drew ?_) | (with_reducible refine Blk2.drewN ?_) | (with_reducible refine Blk2.alloc ?_ _) | (with_reducible refine Blk4.drew ?_) | (with_reducible refine Blk4.drewN ?_) | (with_reducible refine Blk4.alloc ?_ _)))
  have B0 : Below w.heap.size w ((w.alloc (.cells #[.int .u64 (hiZ a), .int .u64 (loZ a)] 24)).alloc (.cells #[.int .u64 0, .int .u64 0, .int .u64 0, .int .u64 0] 41)) := (by go_grown)
  have o1 : w.heap.size < w.heap.size + 1 := by omega
  generalize w.heap.size + 1 = g1 at *
  generalize ((w.alloc (.cells #[.int .u64 (hiZ a), .int .u64 (loZ a)] 24)).alloc (.cells #[.int .u64 0, .int .u64 0, .int .u64 0, .int .u64 0] 41)) = w0 at *
  have z0 := B0.size
  have ci0 := ki0.c0; have di0 := ki0.c1; have fi0 := ki0.f0; have gi0 := ki0.f1; have li0 := ki0.lt
  have cr0 := kr0.c0; have dr0 := kr0.c1; have er0 := kr0.c2; have hr0 := kr0.c3; have fr0 := kr0.f 0; have gr0 := kr0.f 1; have ir0 := kr0.f 2; have jr0 := kr0.f 3; have lr0 := kr0.lt
  go_wp2_with fail
  refine (times_at (a := a) rfl rfl 1000 (by decide) _).mono ?_
  rintro e w1 ⟨rfl, hb1⟩
  have B1 : Below w.heap.size w w1 := (by refine below_of ?_ hb1; go_grown)
  have ki1 : Blk2 w1 (w.heap.size) (hiZ a) (loZ a) := (by refine Blk2.keep ?_ hb1; repeat' (first | (with_reducible assumption) | ((with_reducible refine Blk2.new_at _ _ ?_); (simp; done)) | ((with_reducible refine Blk4.new_at _ _ ?_); (simp; done)) | (with_reducible refine Blk2.drew ?_) | (with_reducible refine Blk2.drewN ?_) | (with_reducible refine Blk2.alloc ?_ _) | (with_reducible refine Blk4.drew ?_) | (with_reducible refine Blk4.drewN ?_) | (with_reducible refine Blk4.alloc ?_ _)))
  have kr1 : Blk4 w1 (g1) (0) (0) (0) (0) := (by refine Blk4.keep ?_ hb1; repeat' (first | (with_reducible assumption) | ((with_reducible refine Blk2.new_at _ _ ?_); (simp; done)) | ((with_reducible refine Blk4.new_at _ _ ?_); (simp; done)) | (with_reducible refine Blk2.drew ?_) | (with_reducible refine Blk2.drewN ?_) | (with_reducible refine Blk2.alloc ?_ _) | (with_reducible refine Blk4.drew ?_) | (with_reducible refine Blk4.drewN ?_) | (with_reducible refine Blk4.alloc ?_ _)))
  clear hb1 B0 z0 ki0 ci0 di0 fi0 gi0 li0 kr0 cr0 dr0 er0 hr0 fr0 gr0 ir0 jr0 lr0
  have z1 := B1.size
  have ci1 := ki1.c0; have di1 := ki1.c1; have fi1 := ki1.f0; have gi1 := ki1.f1; have li1 := ki1.lt
  have cr1 := kr1.c0; have dr1 := kr1.c1; have er1 := kr1.c2; have hr1 := kr1.c3; have fr1 := kr1.f 0; have gr1 := kr1.f 1; have ir1 := kr1.f 2; have jr1 := kr1.f 3; have lr1 := kr1.lt
  have q := ((kr1.set (0) (0) (0) (0)).alloc (.cells #[.int .u64 (hiZ (timesU a 1000)), .int .u64 (loZ (timesU a 1000))] 24))
  have U0 := Lib.hid q.c0
  have U1 := Lib.hid q.c1
  have U2 := Lib.hid q.c2
  have U3 := Lib.hid q.c3
  clear q
  go_wp2_with fail
  have u0 := U0.out
  have u1 := U1.out
  have u2 := U2.out
  have u3 := U3.out
  refine bodyPost_ret (v := .tuple #[.agg #[.int .u64 (0), .int .u64 (0), .int .u64 (0), .int .u64 (0)], .int .i64 (timesE a 1000)]) (by simp [results, Tryd.results27, go_sem, u0, u1, u2, u3]) rfl ?_
  exact ⟨fe_eq rfl rfl rfl rfl HE.out, by go_grown⟩
set_option maxHeartbeats 8000000 in
set_option maxRecDepth 100000 in
theorem rate_any (a : U) (k : Nat) (hk0 : 0 < k) (hk : k < 18446744073709551616) (hm : a.n * 1000 < 340282366920938463463374607431768211456) (w : World) :
    Calls Tryd.prog 27 #[.agg #[.int .u64 (hiZ a), .int .u64 (loZ a)], .int .u64 k] w fun e w' =>
      e = .returned (.tuple #[.agg #[.int .u64 (hiZ (rateN a k)), .int .u64 (loZ (rateN a k)), .int .u64 (hiZ (rateD a k)), .int .u64 (loZ (rateD a k))], .int .i64 0]) ∧ Below w.heap.size w w' := by
  have hk1 : ((k : Int) == 0) = false := by simp; omega
  have h0 : timesE a 1000 = 0 := cutE_lt hm
  have t0 : (timesE a 1000 != 0) = false := by rw [h0]; rfl
  have HE := Lib.hid h0
  have HK0 := Lib.hid hk0
  have HK := Lib.hid hk
  clear hm h0 hk0 hk
  go_enter Tryd.func27, Tryd.ntmps27
  go_upto_region 1 with fail
  have ki0 : Blk2 ((w.alloc (.cells #[.int .u64 (hiZ a), .int .u64 (loZ a)] 24)).alloc (.cells #[.int .u64 0, .int .u64 0, .int .u64 0, .int .u64 0] 41)) (w.heap.size) (hiZ a) (loZ a) := (by repeat' (first | (with_reducible assumption) | ((with_reducible refine Blk2.new_at _ _ ?_); (simp; done)) | ((with_reducible refine Blk4.new_at _ _ ?_); (simp; done)) | (with_reducible refine Blk2.drew ?_) | (with_reducible refine Blk2.drewN ?_) | (with_reducible refine Blk2.alloc ?_ _) | (with_reducible refine Blk4.drew ?_) | (with_reducible refine Blk4.drewN ?_) | (with_reducible refine Blk4.alloc ?_ _)))
  have kr0 : Blk4 ((w.alloc (.cells #[.int .u64 (hiZ a), .int .u64 (loZ a)] 24)).alloc (.cells #[.int .u64 0, .int .u64 0, .int .u64 0, .int .u64 0] 41)) (w.heap.size + 1) (0) (0) (0) (0) := (by repeat' (first | (with_reducible assumption) | ((with_reducible refine Blk2.new_at _ _ ?_); (simp; done)) | ((with_reducible refine Blk4.new_at _ _ ?_); (simp; done)) | (with_reducible refine Blk2.drew ?_) | (with_reducible refine Blk2.drewN ?_) | (with_reducible refine Blk2.alloc ?_ _) | (with_reducible refine Blk4.drew ?_) | (with_reducible refine Blk4.drewN ?_) | (with_reducible refine Blk4.alloc ?_ _)))
  have B0 : Below w.heap.size w ((w.alloc (.cells #[.int .u64 (hiZ a), .int .u64 (loZ a)] 24)).alloc (.cells #[.int .u64 0, .int .u64 0, .int .u64 0, .int .u64 0] 41)) := (by go_grown)
  have o1 : w.heap.size < w.heap.size + 1 := by omega
  generalize w.heap.size + 1 = g1 at *
  generalize ((w.alloc (.cells #[.int .u64 (hiZ a), .int .u64 (loZ a)] 24)).alloc (.cells #[.int .u64 0, .int .u64 0, .int .u64 0, .int .u64 0] 41)) = w0 at *
  have z0 := B0.size
  have ci0 := ki0.c0; have di0 := ki0.c1; have fi0 := ki0.f0; have gi0 := ki0.f1; have li0 := ki0.lt
  have cr0 := kr0.c0; have dr0 := kr0.c1; have er0 := kr0.c2; have hr0 := kr0.c3; have fr0 := kr0.f 0; have gr0 := kr0.f 1; have ir0 := kr0.f 2; have jr0 := kr0.f 3; have lr0 := kr0.lt
  go_wp2_with fail
  refine (times_at (a := a) rfl rfl 1000 (by decide) _).mono ?_
  rintro e w1 ⟨rfl, hb1⟩
  have B1 : Below w.heap.size w w1 := (by refine below_of ?_ hb1; go_grown)
  have ki1 : Blk2 w1 (w.heap.size) (hiZ a) (loZ a) := (by refine Blk2.keep ?_ hb1; repeat' (first | (with_reducible assumption) | ((with_reducible refine Blk2.new_at _ _ ?_); (simp; done)) | ((with_reducible refine Blk4.new_at _ _ ?_); (simp; done)) | (with_reducible refine Blk2.drew ?_) | (with_reducible refine Blk2.drewN ?_) | (with_reducible refine Blk2.alloc ?_ _) | (with_reducible refine Blk4.drew ?_) | (with_reducible refine Blk4.drewN ?_) | (with_reducible refine Blk4.alloc ?_ _)))
  have kr1 : Blk4 w1 (g1) (0) (0) (0) (0) := (by refine Blk4.keep ?_ hb1; repeat' (first | (with_reducible assumption) | ((with_reducible refine Blk2.new_at _ _ ?_); (simp; done)) | ((with_reducible refine Blk4.new_at _ _ ?_); (simp; done)) | (with_reducible refine Blk2.drew ?_) | (with_reducible refine Blk2.drewN ?_) | (with_reducible refine Blk2.alloc ?_ _) | (with_reducible refine Blk4.drew ?_) | (with_reducible refine Blk4.drewN ?_) | (with_reducible refine Blk4.alloc ?_ _)))
  clear hb1 B0 z0 ki0 ci0 di0 fi0 gi0 li0 kr0 cr0 dr0 er0 hr0 fr0 gr0 ir0 jr0 lr0
  have z1 := B1.size
  have ci1 := ki1.c0; have di1 := ki1.c1; have fi1 := ki1.f0; have gi1 := ki1.f1; have li1 := ki1.lt
  have cr1 := kr1.c0; have dr1 := kr1.c1; have er1 := kr1.c2; have hr1 := kr1.c3; have fr1 := kr1.f 0; have gr1 := kr1.f 1; have ir1 := kr1.f 2; have jr1 := kr1.f 3; have lr1 := kr1.lt
  go_wp2_with fail
  go_region_held3 (fun w' => w'.cell? ⟨w1.heap.size, 0, none⟩ = some (.int .u64 (hiZ (timesU a 1000))) ∧ w'.cell? ⟨w1.heap.size, 1, none⟩ = some (.int .u64 (loZ (timesU a 1000)))) (first | exact ⟨by assumption, by assumption⟩ | go_keep | exact ⟨by (rw [World.cell?_setCell_other _ _ _ _ (by simp <;> omega), World.cell?_setCell_other _ _ _ _ (by simp <;> omega), World.cell?_setCell_other _ _ _ _ (by simp <;> omega), World.cell?_setCell_other _ _ _ _ (by simp <;> omega)]; assumption), by (rw [World.cell?_setCell_other _ _ _ _ (by simp <;> omega), World.cell?_setCell_other _ _ _ _ (by simp <;> omega), World.cell?_setCell_other _ _ _ _ (by simp <;> omega), World.cell?_setCell_other _ _ _ _ (by simp <;> omega)]; assumption)⟩) (first
    | (go_at_call 18; refine (of_any _ _).mono ?_; rintro e wo ⟨rfl, rfl⟩)
    | (go_at_call 25; refine (rate_red a k HK0.out HK.out _).mono ?_; rintro e wx ⟨rfl, hbx⟩; have xm : Blk2 wx (w1.heap.size) (hiZ (timesU a 1000)) (loZ (timesU a 1000)) := (by refine Blk2.keep ?_ hbx; repeat' (first | (with_reducible assumption) | ((with_reducible refine Blk2.new_at _ _ ?_); (simp; done)) | ((with_reducible refine Blk4.new_at _ _ ?_); (simp; done)) | (with_reducible refine Blk2.drew ?_) | (with_reducible refine Blk2.drewN ?_) | (with_reducible refine Blk2.alloc ?_ _) | (with_reducible refine Blk4.drew ?_) | (with_reducible refine Blk4.drewN ?_) | (with_reducible refine Blk4.alloc ?_ _))); have xr : Blk4 wx g1 0 0 0 0 := (by refine Blk4.keep ?_ hbx; repeat' (first | (with_reducible assumption) | ((with_reducible refine Blk2.new_at _ _ ?_); (simp; done)) | ((with_reducible refine Blk4.new_at _ _ ?_); (simp; done)) | (with_reducible refine Blk2.drew ?_) | (with_reducible refine Blk2.drewN ?_) | (with_reducible refine Blk2.alloc ?_ _) | (with_reducible refine Blk4.drew ?_) | (with_reducible refine Blk4.drewN ?_) | (with_reducible refine Blk4.alloc ?_ _))); have xm0 := xm.c0; have xm1 := xm.c1; have xm2 := xm.lt; have xr0 := xr.c0; have xr1 := xr.c1; have xr2 := xr.c2; have xr3 := xr.c3; have xr4 := xr.f 0; have xr5 := xr.f 1; have xr6 := xr.f 2; have xr7 := xr.f 3; have xr8 := xr.lt; have xB : Below w.heap.size w wx := (by refine below_of ?_ hbx; go_grown); have xz := xB.size; clear hbx))
  have q := xr.set (hiZ (rateN a k)) (loZ (rateN a k)) (hiZ (rateD a k)) (loZ (rateD a k))
  have U0 := Lib.hid q.c0
  have U1 := Lib.hid q.c1
  have U2 := Lib.hid q.c2
  have U3 := Lib.hid q.c3
  clear q
  go_wp2_with fail
  have u0 := U0.out
  have u1 := U1.out
  have u2 := U2.out
  have u3 := U3.out
  refine bodyPost_ret (v := .tuple #[.agg #[.int .u64 (hiZ (rateN a k)), .int .u64 (loZ (rateN a k)), .int .u64 (hiZ (rateD a k)), .int .u64 (loZ (rateD a k))], .int .i64 0]) (by simp [results, Tryd.results27, go_sem, u0, u1, u2, u3]) rfl ?_
  exact ⟨rfl, by go_grown⟩
theorem rate_at {a : U} {ah al : Int} (h1 : ah = hiZ a) (h2 : al = loZ a) (k : Nat) (hk0 : 0 < k) (hk : k < 18446744073709551616) (hm : a.n * 1000 < 340282366920938463463374607431768211456) (w : World) :
    Calls Tryd.prog 27 #[.agg #[.int .u64 ah, .int .u64 al], .int .u64 k] w fun e w' =>
      e = .returned (.tuple #[.agg #[.int .u64 (hiZ (rateN a k)), .int .u64 (loZ (rateN a k)), .int .u64 (hiZ (rateD a k)), .int .u64 (loZ (rateD a k))], .int .i64 0]) ∧ Below w.heap.size w w' := by
  subst h1 h2
  exact rate_any a k hk0 hk hm w
end Go.Proofs.YtnbchhjanlpdlaaDoor
