/-
  THE LAW plimsolllaw01.WideOrder: sums do not hang on the order; so often and once more: the walk: it answers true, of any three numbers and any number of 64 bits.
-/
import Derived.Test.YtklmllkpedailaaDoorLives
namespace Go.Proofs.YtklmllkpedailaaDoor
open Go Go.RowKit

theorem sum3_n {x y z : U} {n : Nat} (hn : x.n + (y.n + (z.n + 0)) = n) (W : World) (g : Nat) (hg : g = W.heap.size) :
    Calls Tryd.prog 27 #[.slice (some ⟨g, 0, none⟩) 3 3] (W.alloc (.cells #[.int .u64 (hiZ x), .int .u64 (loZ x), .int .u64 (hiZ y), .int .u64 (loZ y), .int .u64 (hiZ z), .int .u64 (loZ z)] 24)) fun e w' =>
      e = .returned (.tuple #[.agg #[.int .u64 (hiZ (cutU n)), .int .u64 (loZ (cutU n))], .int .i64 (cutE n)]) ∧
        Below (W.alloc (.cells #[.int .u64 (hiZ x), .int .u64 (loZ x), .int .u64 (hiZ y), .int .u64 (loZ y), .int .u64 (hiZ z), .int .u64 (loZ z)] 24)).heap.size (W.alloc (.cells #[.int .u64 (hiZ x), .int .u64 (loZ x), .int .u64 (hiZ y), .int .u64 (loZ y), .int .u64 (hiZ z), .int .u64 (loZ z)] 24)) w' := by
  subst hn
  exact sum3_at rfl rfl rfl rfl rfl rfl W g hg
theorem times_z {a : U} {k : Nat} {kz : Int} (hz : kz = (k : Int)) (hk : k < 18446744073709551616) (w : World) :
    Calls Tryd.prog 17 #[.agg #[.int .u64 (hiZ a), .int .u64 (loZ a)], .int .u64 kz] w fun e w' =>
      e = .returned (.tuple #[.agg #[.int .u64 (hiZ (timesU a k)), .int .u64 (loZ (timesU a k))], .int .i64 (timesE a k)]) ∧ Below w.heap.size w w' := by
  subst hz
  exact times_any a k hk w
theorem times_more {a : U} {k : Nat} (h : a.n * k < 340282366920938463463374607431768211456) : timesU a (k + 1) = addU (timesU a k) a ∧ timesE a (k + 1) = addE (timesU a k) a := by
  have e : a.n * (k + 1) = (timesU a k).n + a.n := by unfold timesU; rw [cutU_n h, Nat.mul_succ]
  unfold addU addE
  rw [← e]
  exact ⟨rfl, rfl⟩
theorem times_more_at {a : U} {k : Nat} {kz : Int} (h : a.n * k < 340282366920938463463374607431768211456) (hz : kz = (k : Int) + 1) (hk : k + 1 < 18446744073709551616) (w : World) :
    Calls Tryd.prog 17 #[.agg #[.int .u64 (hiZ a), .int .u64 (loZ a)], .int .u64 kz] w fun e w' =>
      e = .returned (.tuple #[.agg #[.int .u64 (hiZ (addU (timesU a k) a)), .int .u64 (loZ (addU (timesU a k) a))], .int .i64 (addE (timesU a k) a)]) ∧ Below w.heap.size w w' := by
  rw [← (times_more h).1, ← (times_more h).2]
  exact times_z (by rw [hz]; rfl) hk w

set_option maxHeartbeats 4000000 in
set_option maxRecDepth 100000 in
theorem order_walk (a b c : U) (k : Nat) (hk : k < 18446744073709551616) (w : World) (htab : tabs w) :
    Calls Tryd.prog 6 #[.agg #[.int .u64 (hiZ a), .int .u64 (loZ a)], .agg #[.int .u64 (hiZ b), .int .u64 (loZ b)], .agg #[.int .u64 (hiZ c), .int .u64 (loZ c)], .int .u64 k] w fun e w' =>
      e = .returned (.bool true) ∧ Below w.heap.size w w' := by
  have HT := Lib.hid htab
  clear htab
  have hk0 : 0 ≤ (k : Int) := by omega
  have hk1 : (k : Int) ≤ 18446744073709551615 := by omega
  by_cases hf : a.n * k < 340282366920938463463374607431768211456
  · have tE : (timesE a k != 0) = false := by rw [show timesE a k = 0 from cutE_lt hf]; rfl
    have HF := Lib.hid hf
    clear hf
    by_cases hl : k = 18446744073709551615
    · have e1 : ((k : Int) == 18446744073709551615) = true := by rw [hl]; rfl
      clear hl
      go_enter Tryd.func6, Tryd.ntmps6
      go_wp2_with fail
      refine (lives_any _ (tabs_stays HT.out (by go_grown))).mono ?_
      rintro e w1 ⟨rfl, hb1⟩
      have B1 : Below w.heap.size w w1 := (by refine below_of ?_ hb1; go_grown)
      have ka1 : Blk2 w1 (w.heap.size) (hiZ a) (loZ a) := (by refine Blk2.keep ?_ hb1; repeat' (first | (with_reducible assumption) | (with_reducible refine Blk2.new_at _ _ (by simp; done)) | (with_reducible refine Blk2.drew ?_) | (with_reducible refine Blk2.drewN ?_) | (with_reducible refine Blk2.alloc ?_ _)))
      have kb1 : Blk2 w1 (w.heap.size + 1) (hiZ b) (loZ b) := (by refine Blk2.keep ?_ hb1; repeat' (first | (with_reducible assumption) | (with_reducible refine Blk2.new_at _ _ (by simp; done)) | (with_reducible refine Blk2.drew ?_) | (with_reducible refine Blk2.drewN ?_) | (with_reducible refine Blk2.alloc ?_ _)))
      have kc1 : Blk2 w1 (w.heap.size + 2) (hiZ c) (loZ c) := (by refine Blk2.keep ?_ hb1; repeat' (first | (with_reducible assumption) | (with_reducible refine Blk2.new_at _ _ (by simp; done)) | (with_reducible refine Blk2.drew ?_) | (with_reducible refine Blk2.drewN ?_) | (with_reducible refine Blk2.alloc ?_ _)))
      clear hb1
      have z1 := B1.size
      have ca1 := ka1.c0
      have da1 := ka1.c1
      have la1 := ka1.lt
      have cb1 := kb1.c0
      have db1 := kb1.c1
      have lb1 := kb1.lt
      have cc1 := kc1.c0
      have dc1 := kc1.c1
      have lc1 := kc1.lt
      go_wp2_with fail
      refine (sum3_n (x := a) (y := b) (z := c) (n := a.n + b.n + c.n) (by omega) _ _ (by simp)).mono ?_
      rintro e w2 ⟨rfl, hb2⟩
      have B2 : Below w.heap.size w w2 := (by refine below_of ?_ hb2; go_grown)
      have ka2 : Blk2 w2 (w.heap.size) (hiZ a) (loZ a) := (by refine Blk2.keep ?_ hb2; repeat' (first | (with_reducible assumption) | (with_reducible refine Blk2.new_at _ _ (by simp; done)) | (with_reducible refine Blk2.drew ?_) | (with_reducible refine Blk2.drewN ?_) | (with_reducible refine Blk2.alloc ?_ _)))
      have kb2 : Blk2 w2 (w.heap.size + 1) (hiZ b) (loZ b) := (by refine Blk2.keep ?_ hb2; repeat' (first | (with_reducible assumption) | (with_reducible refine Blk2.new_at _ _ (by simp; done)) | (with_reducible refine Blk2.drew ?_) | (with_reducible refine Blk2.drewN ?_) | (with_reducible refine Blk2.alloc ?_ _)))
      have kc2 : Blk2 w2 (w.heap.size + 2) (hiZ c) (loZ c) := (by refine Blk2.keep ?_ hb2; repeat' (first | (with_reducible assumption) | (with_reducible refine Blk2.new_at _ _ (by simp; done)) | (with_reducible refine Blk2.drew ?_) | (with_reducible refine Blk2.drewN ?_) | (with_reducible refine Blk2.alloc ?_ _)))
      clear hb2 B1 z1 ka1 ca1 da1 la1 kb1 cb1 db1 lb1 kc1 cc1 dc1 lc1
      have z2 := B2.size
      have ca2 := ka2.c0
      have da2 := ka2.c1
      have la2 := ka2.lt
      have cb2 := kb2.c0
      have db2 := kb2.c1
      have lb2 := kb2.lt
      have cc2 := kc2.c0
      have dc2 := kc2.c1
      have lc2 := kc2.lt
      go_wp2_with fail
      refine (sum3_n (x := c) (y := b) (z := a) (n := a.n + b.n + c.n) (by omega) _ _ (by simp)).mono ?_
      rintro e w3 ⟨rfl, hb3⟩
      have B3 : Below w.heap.size w w3 := (by refine below_of ?_ hb3; go_grown)
      have ka3 : Blk2 w3 (w.heap.size) (hiZ a) (loZ a) := (by refine Blk2.keep ?_ hb3; repeat' (first | (with_reducible assumption) | (with_reducible refine Blk2.new_at _ _ (by simp; done)) | (with_reducible refine Blk2.drew ?_) | (with_reducible refine Blk2.drewN ?_) | (with_reducible refine Blk2.alloc ?_ _)))
      have kb3 : Blk2 w3 (w.heap.size + 1) (hiZ b) (loZ b) := (by refine Blk2.keep ?_ hb3; repeat' (first | (with_reducible assumption) | (with_reducible refine Blk2.new_at _ _ (by simp; done)) | (with_reducible refine Blk2.drew ?_) | (with_reducible refine Blk2.drewN ?_) | (with_reducible refine Blk2.alloc ?_ _)))
      have kc3 : Blk2 w3 (w.heap.size + 2) (hiZ c) (loZ c) := (by refine Blk2.keep ?_ hb3; repeat' (first | (with_reducible assumption) | (with_reducible refine Blk2.new_at _ _ (by simp; done)) | (with_reducible refine Blk2.drew ?_) | (with_reducible refine Blk2.drewN ?_) | (with_reducible refine Blk2.alloc ?_ _)))
      have kx3 : Blk2 w3 (w2.heap.size) (hiZ (cutU (a.n + b.n + c.n))) (loZ (cutU (a.n + b.n + c.n))) := (by refine Blk2.keep ?_ hb3; repeat' (first | (with_reducible assumption) | (with_reducible refine Blk2.new_at _ _ (by simp; done)) | (with_reducible refine Blk2.drew ?_) | (with_reducible refine Blk2.drewN ?_) | (with_reducible refine Blk2.alloc ?_ _)))
      clear hb3 B2 z2 ka2 ca2 da2 la2 kb2 cb2 db2 lb2 kc2 cc2 dc2 lc2
      have z3 := B3.size
      have ca3 := ka3.c0
      have da3 := ka3.c1
      have la3 := ka3.lt
      have cb3 := kb3.c0
      have db3 := kb3.c1
      have lb3 := kb3.lt
      have cc3 := kc3.c0
      have dc3 := kc3.c1
      have lc3 := kc3.lt
      have cx3 := kx3.c0
      have dx3 := kx3.c1
      have lx3 := kx3.lt
      go_wp2_with fail
      refine (times_z (k := k) rfl hk _).mono ?_
      rintro e w4 ⟨rfl, hb4⟩
      have B4 : Below w.heap.size w w4 := (by refine below_of ?_ hb4; go_grown)
      have ka4 : Blk2 w4 (w.heap.size) (hiZ a) (loZ a) := (by refine Blk2.keep ?_ hb4; repeat' (first | (with_reducible assumption) | (with_reducible refine Blk2.new_at _ _ (by simp; done)) | (with_reducible refine Blk2.drew ?_) | (with_reducible refine Blk2.drewN ?_) | (with_reducible refine Blk2.alloc ?_ _)))
      clear hb4 B3 z3 ka3 ca3 da3 la3 kb3 cb3 db3 lb3 kc3 cc3 dc3 lc3 kx3 cx3 dx3 lx3
      have z4 := B4.size
      have ca4 := ka4.c0
      have da4 := ka4.c1
      have la4 := ka4.lt
      go_wp2_with fail
      go_ret
      exact ⟨rfl, by go_grown⟩
    · have e1 : ((k : Int) == 18446744073709551615) = false := by simp; omega
      have hk2 : (k : Int) ≤ 18446744073709551614 := by omega
      clear hl
      go_enter Tryd.func6, Tryd.ntmps6
      go_wp2_with fail
      refine (lives_any _ (tabs_stays HT.out (by go_grown))).mono ?_
      rintro e w1 ⟨rfl, hb1⟩
      have B1 : Below w.heap.size w w1 := (by refine below_of ?_ hb1; go_grown)
      have ka1 : Blk2 w1 (w.heap.size) (hiZ a) (loZ a) := (by refine Blk2.keep ?_ hb1; repeat' (first | (with_reducible assumption) | (with_reducible refine Blk2.new_at _ _ (by simp; done)) | (with_reducible refine Blk2.drew ?_) | (with_reducible refine Blk2.drewN ?_) | (with_reducible refine Blk2.alloc ?_ _)))
      have kb1 : Blk2 w1 (w.heap.size + 1) (hiZ b) (loZ b) := (by refine Blk2.keep ?_ hb1; repeat' (first | (with_reducible assumption) | (with_reducible refine Blk2.new_at _ _ (by simp; done)) | (with_reducible refine Blk2.drew ?_) | (with_reducible refine Blk2.drewN ?_) | (with_reducible refine Blk2.alloc ?_ _)))
      have kc1 : Blk2 w1 (w.heap.size + 2) (hiZ c) (loZ c) := (by refine Blk2.keep ?_ hb1; repeat' (first | (with_reducible assumption) | (with_reducible refine Blk2.new_at _ _ (by simp; done)) | (with_reducible refine Blk2.drew ?_) | (with_reducible refine Blk2.drewN ?_) | (with_reducible refine Blk2.alloc ?_ _)))
      clear hb1
      have z1 := B1.size
      have ca1 := ka1.c0
      have da1 := ka1.c1
      have la1 := ka1.lt
      have cb1 := kb1.c0
      have db1 := kb1.c1
      have lb1 := kb1.lt
      have cc1 := kc1.c0
      have dc1 := kc1.c1
      have lc1 := kc1.lt
      go_wp2_with fail
      refine (sum3_n (x := a) (y := b) (z := c) (n := a.n + b.n + c.n) (by omega) _ _ (by simp)).mono ?_
      rintro e w2 ⟨rfl, hb2⟩
      have B2 : Below w.heap.size w w2 := (by refine below_of ?_ hb2; go_grown)
      have ka2 : Blk2 w2 (w.heap.size) (hiZ a) (loZ a) := (by refine Blk2.keep ?_ hb2; repeat' (first | (with_reducible assumption) | (with_reducible refine Blk2.new_at _ _ (by simp; done)) | (with_reducible refine Blk2.drew ?_) | (with_reducible refine Blk2.drewN ?_) | (with_reducible refine Blk2.alloc ?_ _)))
      have kb2 : Blk2 w2 (w.heap.size + 1) (hiZ b) (loZ b) := (by refine Blk2.keep ?_ hb2; repeat' (first | (with_reducible assumption) | (with_reducible refine Blk2.new_at _ _ (by simp; done)) | (with_reducible refine Blk2.drew ?_) | (with_reducible refine Blk2.drewN ?_) | (with_reducible refine Blk2.alloc ?_ _)))
      have kc2 : Blk2 w2 (w.heap.size + 2) (hiZ c) (loZ c) := (by refine Blk2.keep ?_ hb2; repeat' (first | (with_reducible assumption) | (with_reducible refine Blk2.new_at _ _ (by simp; done)) | (with_reducible refine Blk2.drew ?_) | (with_reducible refine Blk2.drewN ?_) | (with_reducible refine Blk2.alloc ?_ _)))
      clear hb2 B1 z1 ka1 ca1 da1 la1 kb1 cb1 db1 lb1 kc1 cc1 dc1 lc1
      have z2 := B2.size
      have ca2 := ka2.c0
      have da2 := ka2.c1
      have la2 := ka2.lt
      have cb2 := kb2.c0
      have db2 := kb2.c1
      have lb2 := kb2.lt
      have cc2 := kc2.c0
      have dc2 := kc2.c1
      have lc2 := kc2.lt
      go_wp2_with fail
      refine (sum3_n (x := c) (y := b) (z := a) (n := a.n + b.n + c.n) (by omega) _ _ (by simp)).mono ?_
      rintro e w3 ⟨rfl, hb3⟩
      have B3 : Below w.heap.size w w3 := (by refine below_of ?_ hb3; go_grown)
      have ka3 : Blk2 w3 (w.heap.size) (hiZ a) (loZ a) := (by refine Blk2.keep ?_ hb3; repeat' (first | (with_reducible assumption) | (with_reducible refine Blk2.new_at _ _ (by simp; done)) | (with_reducible refine Blk2.drew ?_) | (with_reducible refine Blk2.drewN ?_) | (with_reducible refine Blk2.alloc ?_ _)))
      have kb3 : Blk2 w3 (w.heap.size + 1) (hiZ b) (loZ b) := (by refine Blk2.keep ?_ hb3; repeat' (first | (with_reducible assumption) | (with_reducible refine Blk2.new_at _ _ (by simp; done)) | (with_reducible refine Blk2.drew ?_) | (with_reducible refine Blk2.drewN ?_) | (with_reducible refine Blk2.alloc ?_ _)))
      have kc3 : Blk2 w3 (w.heap.size + 2) (hiZ c) (loZ c) := (by refine Blk2.keep ?_ hb3; repeat' (first | (with_reducible assumption) | (with_reducible refine Blk2.new_at _ _ (by simp; done)) | (with_reducible refine Blk2.drew ?_) | (with_reducible refine Blk2.drewN ?_) | (with_reducible refine Blk2.alloc ?_ _)))
      have kx3 : Blk2 w3 (w2.heap.size) (hiZ (cutU (a.n + b.n + c.n))) (loZ (cutU (a.n + b.n + c.n))) := (by refine Blk2.keep ?_ hb3; repeat' (first | (with_reducible assumption) | (with_reducible refine Blk2.new_at _ _ (by simp; done)) | (with_reducible refine Blk2.drew ?_) | (with_reducible refine Blk2.drewN ?_) | (with_reducible refine Blk2.alloc ?_ _)))
      clear hb3 B2 z2 ka2 ca2 da2 la2 kb2 cb2 db2 lb2 kc2 cc2 dc2 lc2
      have z3 := B3.size
      have ca3 := ka3.c0
      have da3 := ka3.c1
      have la3 := ka3.lt
      have cb3 := kb3.c0
      have db3 := kb3.c1
      have lb3 := kb3.lt
      have cc3 := kc3.c0
      have dc3 := kc3.c1
      have lc3 := kc3.lt
      have cx3 := kx3.c0
      have dx3 := kx3.c1
      have lx3 := kx3.lt
      go_wp2_with fail
      refine (times_z (k := k) rfl hk _).mono ?_
      rintro e w4 ⟨rfl, hb4⟩
      have B4 : Below w.heap.size w w4 := (by refine below_of ?_ hb4; go_grown)
      have ka4 : Blk2 w4 (w.heap.size) (hiZ a) (loZ a) := (by refine Blk2.keep ?_ hb4; repeat' (first | (with_reducible assumption) | (with_reducible refine Blk2.new_at _ _ (by simp; done)) | (with_reducible refine Blk2.drew ?_) | (with_reducible refine Blk2.drewN ?_) | (with_reducible refine Blk2.alloc ?_ _)))
      clear hb4 B3 z3 ka3 ca3 da3 la3 kb3 cb3 db3 lb3 kc3 cc3 dc3 lc3 kx3 cx3 dx3 lx3
      have z4 := B4.size
      have ca4 := ka4.c0
      have da4 := ka4.c1
      have la4 := ka4.lt
      go_wp2_with fail
      refine (times_more_at HF.out rfl (by omega) _).mono ?_
      rintro e w5 ⟨rfl, hb5⟩
      have B5 : Below w.heap.size w w5 := (by refine below_of ?_ hb5; go_grown)
      have ka5 : Blk2 w5 (w.heap.size) (hiZ a) (loZ a) := (by refine Blk2.keep ?_ hb5; repeat' (first | (with_reducible assumption) | (with_reducible refine Blk2.new_at _ _ (by simp; done)) | (with_reducible refine Blk2.drew ?_) | (with_reducible refine Blk2.drewN ?_) | (with_reducible refine Blk2.alloc ?_ _)))
      have kp5 : Blk2 w5 (w4.heap.size) (hiZ (timesU a k)) (loZ (timesU a k)) := (by refine Blk2.keep ?_ hb5; repeat' (first | (with_reducible assumption) | (with_reducible refine Blk2.new_at _ _ (by simp; done)) | (with_reducible refine Blk2.drew ?_) | (with_reducible refine Blk2.drewN ?_) | (with_reducible refine Blk2.alloc ?_ _)))
      clear hb5 B4 z4 ka4 ca4 da4 la4
      have z5 := B5.size
      have ca5 := ka5.c0
      have da5 := ka5.c1
      have la5 := ka5.lt
      have cp5 := kp5.c0
      have dp5 := kp5.c1
      have lp5 := kp5.lt
      go_wp2_with fail
      refine (add_any (timesU a k) a _).mono ?_
      rintro e w6 ⟨rfl, hb6⟩
      have B6 : Below w.heap.size w w6 := (by refine below_of ?_ hb6; go_grown)
      have ka6 : Blk2 w6 (w.heap.size) (hiZ a) (loZ a) := (by refine Blk2.keep ?_ hb6; repeat' (first | (with_reducible assumption) | (with_reducible refine Blk2.new_at _ _ (by simp; done)) | (with_reducible refine Blk2.drew ?_) | (with_reducible refine Blk2.drewN ?_) | (with_reducible refine Blk2.alloc ?_ _)))
      have kp6 : Blk2 w6 (w4.heap.size) (hiZ (timesU a k)) (loZ (timesU a k)) := (by refine Blk2.keep ?_ hb6; repeat' (first | (with_reducible assumption) | (with_reducible refine Blk2.new_at _ _ (by simp; done)) | (with_reducible refine Blk2.drew ?_) | (with_reducible refine Blk2.drewN ?_) | (with_reducible refine Blk2.alloc ?_ _)))
      have kq6 : Blk2 w6 (w5.heap.size) (hiZ (addU (timesU a k) a)) (loZ (addU (timesU a k) a)) := (by refine Blk2.keep ?_ hb6; repeat' (first | (with_reducible assumption) | (with_reducible refine Blk2.new_at _ _ (by simp; done)) | (with_reducible refine Blk2.drew ?_) | (with_reducible refine Blk2.drewN ?_) | (with_reducible refine Blk2.alloc ?_ _)))
      clear hb6 B5 z5 ka5 ca5 da5 la5 kp5 cp5 dp5 lp5
      have z6 := B6.size
      have ca6 := ka6.c0
      have da6 := ka6.c1
      have la6 := ka6.lt
      have cp6 := kp6.c0
      have dp6 := kp6.c1
      have lp6 := kp6.lt
      have cq6 := kq6.c0
      have dq6 := kq6.c1
      have lq6 := kq6.lt
      go_wp2_with fail
      go_ret
      exact ⟨rfl, by go_grown⟩
  · have tE : (timesE a k != 0) = true := by rw [show timesE a k = 1 from cutE_ge (by omega)]; rfl
    clear hf
    go_enter Tryd.func6, Tryd.ntmps6
    go_wp2_with fail
    refine (lives_any _ (tabs_stays HT.out (by go_grown))).mono ?_
    rintro e w1 ⟨rfl, hb1⟩
    have B1 : Below w.heap.size w w1 := (by refine below_of ?_ hb1; go_grown)
    have ka1 : Blk2 w1 (w.heap.size) (hiZ a) (loZ a) := (by refine Blk2.keep ?_ hb1; repeat' (first | (with_reducible assumption) | (with_reducible refine Blk2.new_at _ _ (by simp; done)) | (with_reducible refine Blk2.drew ?_) | (with_reducible refine Blk2.drewN ?_) | (with_reducible refine Blk2.alloc ?_ _)))
    have kb1 : Blk2 w1 (w.heap.size + 1) (hiZ b) (loZ b) := (by refine Blk2.keep ?_ hb1; repeat' (first | (with_reducible assumption) | (with_reducible refine Blk2.new_at _ _ (by simp; done)) | (with_reducible refine Blk2.drew ?_) | (with_reducible refine Blk2.drewN ?_) | (with_reducible refine Blk2.alloc ?_ _)))
    have kc1 : Blk2 w1 (w.heap.size + 2) (hiZ c) (loZ c) := (by refine Blk2.keep ?_ hb1; repeat' (first | (with_reducible assumption) | (with_reducible refine Blk2.new_at _ _ (by simp; done)) | (with_reducible refine Blk2.drew ?_) | (with_reducible refine Blk2.drewN ?_) | (with_reducible refine Blk2.alloc ?_ _)))
    clear hb1
    have z1 := B1.size
    have ca1 := ka1.c0
    have da1 := ka1.c1
    have la1 := ka1.lt
    have cb1 := kb1.c0
    have db1 := kb1.c1
    have lb1 := kb1.lt
    have cc1 := kc1.c0
    have dc1 := kc1.c1
    have lc1 := kc1.lt
    go_wp2_with fail
    refine (sum3_n (x := a) (y := b) (z := c) (n := a.n + b.n + c.n) (by omega) _ _ (by simp)).mono ?_
    rintro e w2 ⟨rfl, hb2⟩
    have B2 : Below w.heap.size w w2 := (by refine below_of ?_ hb2; go_grown)
    have ka2 : Blk2 w2 (w.heap.size) (hiZ a) (loZ a) := (by refine Blk2.keep ?_ hb2; repeat' (first | (with_reducible assumption) | (with_reducible refine Blk2.new_at _ _ (by simp; done)) | (with_reducible refine Blk2.drew ?_) | (with_reducible refine Blk2.drewN ?_) | (with_reducible refine Blk2.alloc ?_ _)))
    have kb2 : Blk2 w2 (w.heap.size + 1) (hiZ b) (loZ b) := (by refine Blk2.keep ?_ hb2; repeat' (first | (with_reducible assumption) | (with_reducible refine Blk2.new_at _ _ (by simp; done)) | (with_reducible refine Blk2.drew ?_) | (with_reducible refine Blk2.drewN ?_) | (with_reducible refine Blk2.alloc ?_ _)))
    have kc2 : Blk2 w2 (w.heap.size + 2) (hiZ c) (loZ c) := (by refine Blk2.keep ?_ hb2; repeat' (first | (with_reducible assumption) | (with_reducible refine Blk2.new_at _ _ (by simp; done)) | (with_reducible refine Blk2.drew ?_) | (with_reducible refine Blk2.drewN ?_) | (with_reducible refine Blk2.alloc ?_ _)))
    clear hb2 B1 z1 ka1 ca1 da1 la1 kb1 cb1 db1 lb1 kc1 cc1 dc1 lc1
    have z2 := B2.size
    have ca2 := ka2.c0
    have da2 := ka2.c1
    have la2 := ka2.lt
    have cb2 := kb2.c0
    have db2 := kb2.c1
    have lb2 := kb2.lt
    have cc2 := kc2.c0
    have dc2 := kc2.c1
    have lc2 := kc2.lt
    go_wp2_with fail
    refine (sum3_n (x := c) (y := b) (z := a) (n := a.n + b.n + c.n) (by omega) _ _ (by simp)).mono ?_
    rintro e w3 ⟨rfl, hb3⟩
    have B3 : Below w.heap.size w w3 := (by refine below_of ?_ hb3; go_grown)
    have ka3 : Blk2 w3 (w.heap.size) (hiZ a) (loZ a) := (by refine Blk2.keep ?_ hb3; repeat' (first | (with_reducible assumption) | (with_reducible refine Blk2.new_at _ _ (by simp; done)) | (with_reducible refine Blk2.drew ?_) | (with_reducible refine Blk2.drewN ?_) | (with_reducible refine Blk2.alloc ?_ _)))
    have kb3 : Blk2 w3 (w.heap.size + 1) (hiZ b) (loZ b) := (by refine Blk2.keep ?_ hb3; repeat' (first | (with_reducible assumption) | (with_reducible refine Blk2.new_at _ _ (by simp; done)) | (with_reducible refine Blk2.drew ?_) | (with_reducible refine Blk2.drewN ?_) | (with_reducible refine Blk2.alloc ?_ _)))
    have kc3 : Blk2 w3 (w.heap.size + 2) (hiZ c) (loZ c) := (by refine Blk2.keep ?_ hb3; repeat' (first | (with_reducible assumption) | (with_reducible refine Blk2.new_at _ _ (by simp; done)) | (with_reducible refine Blk2.drew ?_) | (with_reducible refine Blk2.drewN ?_) | (with_reducible refine Blk2.alloc ?_ _)))
    have kx3 : Blk2 w3 (w2.heap.size) (hiZ (cutU (a.n + b.n + c.n))) (loZ (cutU (a.n + b.n + c.n))) := (by refine Blk2.keep ?_ hb3; repeat' (first | (with_reducible assumption) | (with_reducible refine Blk2.new_at _ _ (by simp; done)) | (with_reducible refine Blk2.drew ?_) | (with_reducible refine Blk2.drewN ?_) | (with_reducible refine Blk2.alloc ?_ _)))
    clear hb3 B2 z2 ka2 ca2 da2 la2 kb2 cb2 db2 lb2 kc2 cc2 dc2 lc2
    have z3 := B3.size
    have ca3 := ka3.c0
    have da3 := ka3.c1
    have la3 := ka3.lt
    have cb3 := kb3.c0
    have db3 := kb3.c1
    have lb3 := kb3.lt
    have cc3 := kc3.c0
    have dc3 := kc3.c1
    have lc3 := kc3.lt
    have cx3 := kx3.c0
    have dx3 := kx3.c1
    have lx3 := kx3.lt
    go_wp2_with fail
    refine (times_z (k := k) rfl hk _).mono ?_
    rintro e w4 ⟨rfl, hb4⟩
    have B4 : Below w.heap.size w w4 := (by refine below_of ?_ hb4; go_grown)
    have ka4 : Blk2 w4 (w.heap.size) (hiZ a) (loZ a) := (by refine Blk2.keep ?_ hb4; repeat' (first | (with_reducible assumption) | (with_reducible refine Blk2.new_at _ _ (by simp; done)) | (with_reducible refine Blk2.drew ?_) | (with_reducible refine Blk2.drewN ?_) | (with_reducible refine Blk2.alloc ?_ _)))
    clear hb4 B3 z3 ka3 ca3 da3 la3 kb3 cb3 db3 lb3 kc3 cc3 dc3 lc3 kx3 cx3 dx3 lx3
    have z4 := B4.size
    have ca4 := ka4.c0
    have da4 := ka4.c1
    have la4 := ka4.lt
    go_wp2_with fail
    go_ret
    exact ⟨rfl, by go_grown⟩
end Go.Proofs.YtklmllkpedailaaDoor
