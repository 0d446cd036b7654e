/-
  WALKS: plimsolllaw02.RatioOrder: it answers true.
-/
import Derived.Test.YtklmllkpedailaaDoorBetMath
import Derived.Test.YtklmllkpedailaaDoorLives2
import Derived.Deep.RegionHeld3
namespace Go.Proofs.YtklmllkpedailaaDoor
open Go Go.RowKit

theorem eqlF_yes {a b c d a' b' c' d' : Int} (h1 : a = a') (h2 : b = b') (h3 : c = c') (h4 : d = d') (w : World) :
    (binOp .eql 43 (.agg #[.int .u64 a, .int .u64 b, .int .u64 c, .int .u64 d]) (.agg #[.int .u64 a', .int .u64 b', .int .u64 c', .int .u64 d'])).run Tryd.prog w = .ok (.bool true) w := by
  subst h1 h2 h3 h4
  go_simp
theorem eqlF_no {a b c d a' b' c' d' : Int} (h : ¬ (a = a' ∧ b = b' ∧ c = c' ∧ d = d')) (w : World) :
    (binOp .eql 43 (.agg #[.int .u64 a, .int .u64 b, .int .u64 c, .int .u64 d]) (.agg #[.int .u64 a', .int .u64 b', .int .u64 c', .int .u64 d'])).run Tryd.prog w = .ok (.bool false) w := by
  by_cases h1 : a = a'
  · subst h1
    by_cases h2 : b = b'
    · subst h2
      by_cases h3 : c = c'
      · subst h3
        have h4 : (d == d') = false := by simpa using h
        go_simp
      · have h3' : (c == c') = false := by simpa using h3
        go_simp
    · have h2' : (b == b') = false := by simpa using h2
      go_simp
  · have h1' : (a == a') = false := by simpa using h1
    go_simp
theorem redB_iff {n d : U} : redB n d = true ↔ d.n ≠ 0 ∧ Nat.gcd n.n d.n = 1 := by unfold redB; simp
/-- Two reduced fractions of one value are one. -/
theorem red_eq {a b c d : U} (h1 : redB a b = true) (h2 : redB c d = true) (h : a.n * d.n = c.n * b.n) : a = c ∧ b = d := by
  obtain ⟨b0, g1⟩ := redB_iff.1 h1
  obtain ⟨d0, g2⟩ := redB_iff.1 h2
  have k1 : b.n ∣ d.n := by
    have : b.n ∣ a.n * d.n := ⟨c.n, by rw [h, Nat.mul_comm]⟩
    exact Nat.Coprime.dvd_of_dvd_mul_left (Nat.Coprime.symm g1) this
  have k2 : d.n ∣ b.n := by
    have : d.n ∣ c.n * b.n := ⟨a.n, by rw [← h, Nat.mul_comm]⟩
    exact Nat.Coprime.dvd_of_dvd_mul_left (Nat.Coprime.symm g2) this
  have e := Nat.dvd_antisymm k1 k2
  rw [e] at h
  exact ⟨U.ext (Nat.eq_of_mul_eq_mul_right (Nat.pos_of_ne_zero d0) h), U.ext e⟩
theorem lessFE_swap (a b c d : U) : lessFE c d a b = lessFE a b c d := by
  unfold lessFE
  by_cases h : redB a b = true ∧ redB c d = true
  · rw [if_pos h, if_pos ⟨h.2, h.1⟩]
    by_cases g : a.n * d.n < 340282366920938463463374607431768211456 ∧ c.n * b.n < 340282366920938463463374607431768211456
    · rw [if_pos g, if_pos ⟨g.2, g.1⟩]
    · rw [if_neg g, if_neg (fun k => g ⟨k.2, k.1⟩)]
  · rw [if_neg h, if_neg (fun k => h ⟨k.2, k.1⟩)]
theorem lessFB_ne {a b c d : U} (h : lessFE a b c d ≠ 0) : lessFB a b c d = false := by unfold lessFB; simp [h]
theorem lessFB_ok {a b c d : U} (h : lessFE a b c d = 0) : lessFB a b c d = decide (a.n * d.n < c.n * b.n) := by unfold lessFB; simp [h]
theorem lessFE_red {a b c d : U} (h : lessFE a b c d = 0) : redB a b = true ∧ redB c d = true := by
  unfold lessFE at h
  by_cases g : redB a b = true ∧ redB c d = true
  · exact g
  · rw [if_neg g] at h; omega
/-- Of two that can be told, one is less, or they are one. -/
theorem trichF {a b c d : U} (h : lessFE a b c d = 0) :
    (lessFB a b c d = true ∧ lessFB c d a b = false ∧ ¬ (hiZ a = hiZ c ∧ loZ a = loZ c ∧ hiZ b = hiZ d ∧ loZ b = loZ d)) ∨
    (lessFB a b c d = false ∧ lessFB c d a b = true ∧ ¬ (hiZ a = hiZ c ∧ loZ a = loZ c ∧ hiZ b = hiZ d ∧ loZ b = loZ d)) ∨
    (lessFB a b c d = false ∧ lessFB c d a b = false ∧ (hiZ a = hiZ c ∧ loZ a = loZ c ∧ hiZ b = hiZ d ∧ loZ b = loZ d)) := by
  have h' : lessFE c d a b = 0 := by rw [lessFE_swap]; exact h
  obtain ⟨r1, r2⟩ := lessFE_red h
  rw [lessFB_ok h, lessFB_ok h']
  rcases Nat.lt_trichotomy (a.n * d.n) (c.n * b.n) with g | g | g
  · refine Or.inl ⟨by simpa using g, by simp; omega, fun k => ?_⟩
    obtain ⟨e1, e2⟩ := f_ne k
    subst e1 e2
    omega
  · exact Or.inr (Or.inr ⟨by simp; omega, by simp; omega, f_eq (red_eq r1 r2 g)⟩)
  · refine Or.inr (Or.inl ⟨by simp; omega, by simpa using g, fun k => ?_⟩)
    obtain ⟨e1, e2⟩ := f_ne k
    subst e1 e2
    omega
structure RoC (w wx : World) (a b : U) (g : Nat) : Prop where
  below : Below w.heap.size w wx
  rx : Blk4 wx w.heap.size (hiZ a) (loZ a) (hiZ b) (loZ b)
  rf : Blk4 wx g (hiZ (divW a b)) (loZ (divW a b)) 0 1
theorem ro_less {a b c d : U} {p : Bool} {e : Int} (h1 : lessFB a b c d = p) (h2 : lessFE a b c d = e) (w : World) :
    Calls Tryd.prog 44 #[.agg #[.int .u64 (hiZ a), .int .u64 (loZ a), .int .u64 (hiZ b), .int .u64 (loZ b)], .agg #[.int .u64 (hiZ c), .int .u64 (loZ c), .int .u64 (hiZ d), .int .u64 (loZ d)]] w fun e' w' => e' = .returned (.tuple #[.bool p, .int .i64 e]) ∧ Below w.heap.size w w' := by
  subst h1 h2
  exact rless_any a b c d w
/-- The floor is not above. -/
theorem ro_last (a b : U) (w : World) :
    Calls Tryd.prog 44 #[.agg #[.int .u64 (hiZ a), .int .u64 (loZ a), .int .u64 (hiZ b), .int .u64 (loZ b)], .agg #[.int .u64 (hiZ (divW a b)), .int .u64 (loZ (divW a b)), .int .u64 0, .int .u64 1]] w fun e' w' =>
      e' = .returned (.tuple #[.bool false, .int .i64 (lessFE a b (divW a b) (cutU 1))]) ∧ Below w.heap.size w w' := by
  have e1 : (cutU 1).n = 1 := cutU_n (by omega)
  have h := ro_less (a := a) (b := b) (c := divW a b) (d := cutU 1) (p := false) (e := lessFE a b (divW a b) (cutU 1)) ?_ rfl w
  · rw [hi_small (by omega), lo_small (by omega)] at h
    exact h
  · by_cases g : lessFE a b (divW a b) (cutU 1) = 0
    · rw [lessFB_ok g, e1]
      have : (divW a b).n * b.n ≤ a.n := Nat.div_mul_le_self a.n b.n
      simp
      omega
    · exact lessFB_ne g

set_option maxHeartbeats 8000000 in
set_option maxRecDepth 100000 in
theorem rorder_bad (a b c d : U) (w : World) (htab : tabs w) (h : lessFE a b c d ≠ 0) :
    Calls Tryd.prog 10 #[.agg #[.int .u64 (hiZ a), .int .u64 (loZ a), .int .u64 (hiZ b), .int .u64 (loZ b)], .agg #[.int .u64 (hiZ c), .int .u64 (loZ c), .int .u64 (hiZ d), .int .u64 (loZ d)]] w fun e w' => e = .returned (.bool true) ∧ Below w.heap.size w w' := by
  have HT := Lib.hid htab
  clear htab
  have te : (lessFE a b c d != 0) = true := by simpa using h
  have HB := Lib.hid (lessFB_ne h)
  have h' : lessFE c d a b ≠ 0 := by rw [lessFE_swap]; exact h
  have HB' := Lib.hid (lessFB_ne h')
  clear h h'
  go_enter Tryd.func10, Tryd.ntmps10
  go_wp2_with fail
  have kx0 : Blk4 ((w.alloc (.cells #[.int .u64 (hiZ a), .int .u64 (loZ a), .int .u64 (hiZ b), .int .u64 (loZ b)] 43)).alloc (.cells #[.int .u64 (hiZ c), .int .u64 (loZ c), .int .u64 (hiZ d), .int .u64 (loZ d)] 43)) (w.heap.size) (hiZ a) (loZ a) (hiZ b) (loZ b) := (by repeat' (first | (with_reducible assumption) | ((with_reducible refine Blk2.new_at _ _ ?_); (simp; done)) | ((with_reducible refine Blk4.new_at _ _ ?_); (simp; done)) | (with_reducible refine Blk2.drew ?_) | (with_reducible refine Blk2.drewN ?_) | (with_reducible refine Blk2.alloc ?_ _) | (with_reducible refine Blk4.drew ?_) | (with_reducible refine Blk4.drewN ?_) | (with_reducible refine Blk4.alloc ?_ _)))
  have ky0 : Blk4 ((w.alloc (.cells #[.int .u64 (hiZ a), .int .u64 (loZ a), .int .u64 (hiZ b), .int .u64 (loZ b)] 43)).alloc (.cells #[.int .u64 (hiZ c), .int .u64 (loZ c), .int .u64 (hiZ d), .int .u64 (loZ d)] 43)) (w.heap.size + 1) (hiZ c) (loZ c) (hiZ d) (loZ d) := (by repeat' (first | (with_reducible assumption) | ((with_reducible refine Blk2.new_at _ _ ?_); (simp; done)) | ((with_reducible refine Blk4.new_at _ _ ?_); (simp; done)) | (with_reducible refine Blk2.drew ?_) | (with_reducible refine Blk2.drewN ?_) | (with_reducible refine Blk2.alloc ?_ _) | (with_reducible refine Blk4.drew ?_) | (with_reducible refine Blk4.drewN ?_) | (with_reducible refine Blk4.alloc ?_ _)))
  have B0 : Below w.heap.size w ((w.alloc (.cells #[.int .u64 (hiZ a), .int .u64 (loZ a), .int .u64 (hiZ b), .int .u64 (loZ b)] 43)).alloc (.cells #[.int .u64 (hiZ c), .int .u64 (loZ c), .int .u64 (hiZ d), .int .u64 (loZ d)] 43)) := (by go_grown)
  have o1 : w.heap.size < w.heap.size + 1 := by omega
  generalize w.heap.size + 1 = g1 at *
  generalize ((w.alloc (.cells #[.int .u64 (hiZ a), .int .u64 (loZ a), .int .u64 (hiZ b), .int .u64 (loZ b)] 43)).alloc (.cells #[.int .u64 (hiZ c), .int .u64 (loZ c), .int .u64 (hiZ d), .int .u64 (loZ d)] 43)) = w0 at *
  have z0 := B0.size
  have cx0 := kx0.c0; have dx0 := kx0.c1; have ex0 := kx0.c2; have hx0 := kx0.c3; have fx0 := kx0.f 0; have gx0 := kx0.f 1; have ix0 := kx0.f 2; have jx0 := kx0.f 3; have lx0 := kx0.lt
  have cy0 := ky0.c0; have dy0 := ky0.c1; have ey0 := ky0.c2; have hy0 := ky0.c3; have fy0 := ky0.f 0; have gy0 := ky0.f 1; have iy0 := ky0.f 2; have jy0 := ky0.f 3; have ly0 := ky0.lt
  refine (lives2_any _ (tabs_stays HT.out (by go_grown))).mono ?_
  rintro e w1 ⟨rfl, hb1⟩
  have B1 : Below w.heap.size w w1 := (by refine below_of ?_ hb1; go_grown)
  have kx1 : Blk4 w1 (w.heap.size) (hiZ a) (loZ a) (hiZ b) (loZ b) := (by refine Blk4.keep ?_ hb1; repeat' (first | (with_reducible assumption) | ((with_reducible refine Blk2.new_at _ _ ?_); (simp; done)) | ((with_reducible refine Blk4.new_at _ _ ?_); (simp; done)) | (with_reducible refine Blk2.drew ?_) | (with_reducible refine Blk2.drewN ?_) | (with_reducible refine Blk2.alloc ?_ _) | (with_reducible refine Blk4.drew ?_) | (with_reducible refine Blk4.drewN ?_) | (with_reducible refine Blk4.alloc ?_ _)))
  have ky1 : Blk4 w1 (g1) (hiZ c) (loZ c) (hiZ d) (loZ d) := (by refine Blk4.keep ?_ hb1; repeat' (first | (with_reducible assumption) | ((with_reducible refine Blk2.new_at _ _ ?_); (simp; done)) | ((with_reducible refine Blk4.new_at _ _ ?_); (simp; done)) | (with_reducible refine Blk2.drew ?_) | (with_reducible refine Blk2.drewN ?_) | (with_reducible refine Blk2.alloc ?_ _) | (with_reducible refine Blk4.drew ?_) | (with_reducible refine Blk4.drewN ?_) | (with_reducible refine Blk4.alloc ?_ _)))
  clear hb1 B0 z0 kx0 cx0 dx0 ex0 hx0 fx0 gx0 ix0 jx0 lx0 ky0 cy0 dy0 ey0 hy0 fy0 gy0 iy0 jy0 ly0
  have z1 := B1.size
  have cx1 := kx1.c0; have dx1 := kx1.c1; have ex1 := kx1.c2; have hx1 := kx1.c3; have fx1 := kx1.f 0; have gx1 := kx1.f 1; have ix1 := kx1.f 2; have jx1 := kx1.f 3; have lx1 := kx1.lt
  have cy1 := ky1.c0; have dy1 := ky1.c1; have ey1 := ky1.c2; have hy1 := ky1.c3; have fy1 := ky1.f 0; have gy1 := ky1.f 1; have iy1 := ky1.f 2; have jy1 := ky1.f 3; have ly1 := ky1.lt
  go_wp2_with fail
  refine (ro_less (a := a) (b := b) (c := c) (d := d) HB.out rfl _).mono ?_
  rintro e w2 ⟨rfl, hb2⟩
  have B2 : Below w.heap.size w w2 := (by refine below_of ?_ hb2; go_grown)
  have kx2 : Blk4 w2 (w.heap.size) (hiZ a) (loZ a) (hiZ b) (loZ b) := (by refine Blk4.keep ?_ hb2; repeat' (first | (with_reducible assumption) | ((with_reducible refine Blk2.new_at _ _ ?_); (simp; done)) | ((with_reducible refine Blk4.new_at _ _ ?_); (simp; done)) | (with_reducible refine Blk2.drew ?_) | (with_reducible refine Blk2.drewN ?_) | (with_reducible refine Blk2.alloc ?_ _) | (with_reducible refine Blk4.drew ?_) | (with_reducible refine Blk4.drewN ?_) | (with_reducible refine Blk4.alloc ?_ _)))
  have ky2 : Blk4 w2 (g1) (hiZ c) (loZ c) (hiZ d) (loZ d) := (by refine Blk4.keep ?_ hb2; repeat' (first | (with_reducible assumption) | ((with_reducible refine Blk2.new_at _ _ ?_); (simp; done)) | ((with_reducible refine Blk4.new_at _ _ ?_); (simp; done)) | (with_reducible refine Blk2.drew ?_) | (with_reducible refine Blk2.drewN ?_) | (with_reducible refine Blk2.alloc ?_ _) | (with_reducible refine Blk4.drew ?_) | (with_reducible refine Blk4.drewN ?_) | (with_reducible refine Blk4.alloc ?_ _)))
  clear hb2 B1 z1 kx1 cx1 dx1 ex1 hx1 fx1 gx1 ix1 jx1 lx1 ky1 cy1 dy1 ey1 hy1 fy1 gy1 iy1 jy1 ly1
  have z2 := B2.size
  have cx2 := kx2.c0; have dx2 := kx2.c1; have ex2 := kx2.c2; have hx2 := kx2.c3; have fx2 := kx2.f 0; have gx2 := kx2.f 1; have ix2 := kx2.f 2; have jx2 := kx2.f 3; have lx2 := kx2.lt
  have cy2 := ky2.c0; have dy2 := ky2.c1; have ey2 := ky2.c2; have hy2 := ky2.c3; have fy2 := ky2.f 0; have gy2 := ky2.f 1; have iy2 := ky2.f 2; have jy2 := ky2.f 3; have ly2 := ky2.lt
  go_wp2_with fail
  refine (ro_less (a := c) (b := d) (c := a) (d := b) HB'.out (lessFE_swap a b c d) _).mono ?_
  rintro e w3 ⟨rfl, hb3⟩
  have B3 : Below w.heap.size w w3 := (by refine below_of ?_ hb3; go_grown)
  have kx3 : Blk4 w3 (w.heap.size) (hiZ a) (loZ a) (hiZ b) (loZ b) := (by refine Blk4.keep ?_ hb3; repeat' (first | (with_reducible assumption) | ((with_reducible refine Blk2.new_at _ _ ?_); (simp; done)) | ((with_reducible refine Blk4.new_at _ _ ?_); (simp; done)) | (with_reducible refine Blk2.drew ?_) | (with_reducible refine Blk2.drewN ?_) | (with_reducible refine Blk2.alloc ?_ _) | (with_reducible refine Blk4.drew ?_) | (with_reducible refine Blk4.drewN ?_) | (with_reducible refine Blk4.alloc ?_ _)))
  have ky3 : Blk4 w3 (g1) (hiZ c) (loZ c) (hiZ d) (loZ d) := (by refine Blk4.keep ?_ hb3; repeat' (first | (with_reducible assumption) | ((with_reducible refine Blk2.new_at _ _ ?_); (simp; done)) | ((with_reducible refine Blk4.new_at _ _ ?_); (simp; done)) | (with_reducible refine Blk2.drew ?_) | (with_reducible refine Blk2.drewN ?_) | (with_reducible refine Blk2.alloc ?_ _) | (with_reducible refine Blk4.drew ?_) | (with_reducible refine Blk4.drewN ?_) | (with_reducible refine Blk4.alloc ?_ _)))
  clear hb3 B2 z2 kx2 cx2 dx2 ex2 hx2 fx2 gx2 ix2 jx2 lx2 ky2 cy2 dy2 ey2 hy2 fy2 gy2 iy2 jy2 ly2
  have z3 := B3.size
  have cx3 := kx3.c0; have dx3 := kx3.c1; have ex3 := kx3.c2; have hx3 := kx3.c3; have fx3 := kx3.f 0; have gx3 := kx3.f 1; have ix3 := kx3.f 2; have jx3 := kx3.f 3; have lx3 := kx3.lt
  have cy3 := ky3.c0; have dy3 := ky3.c1; have ey3 := ky3.c2; have hy3 := ky3.c3; have fy3 := ky3.f 0; have gy3 := ky3.f 1; have iy3 := ky3.f 2; have jy3 := ky3.f 3; have ly3 := ky3.lt
  go_wp2_with fail
  go_ret
  exact ⟨rfl, by go_grown⟩
set_option maxHeartbeats 8000000 in
set_option maxRecDepth 100000 in
theorem rorder_ok (a b c d : U) (w : World) (htab : tabs w) (h : lessFE a b c d = 0) (p q r : Bool) (hp : lessFB a b c d = p) (hq : lessFB c d a b = q)
    (he : ∀ w, (binOp .eql 43 (.agg #[.int .u64 (hiZ a), .int .u64 (loZ a), .int .u64 (hiZ b), .int .u64 (loZ b)]) (.agg #[.int .u64 (hiZ c), .int .u64 (loZ c), .int .u64 (hiZ d), .int .u64 (loZ d)])).run Tryd.prog w = .ok (.bool r) w)
    (hpqr : (p = true ∧ q = false ∧ r = false) ∨ (p = false ∧ q = true ∧ r = false) ∨ (p = false ∧ q = false ∧ r = true)) :
    Calls Tryd.prog 10 #[.agg #[.int .u64 (hiZ a), .int .u64 (loZ a), .int .u64 (hiZ b), .int .u64 (loZ b)], .agg #[.int .u64 (hiZ c), .int .u64 (loZ c), .int .u64 (hiZ d), .int .u64 (loZ d)]] w fun e w' => e = .returned (.bool true) ∧ Below w.heap.size w w' := by
  have HT := Lib.hid htab
  clear htab
  have HB := Lib.hid hp
  have HB' := Lib.hid hq
  have HE := Lib.hid h
  have HE' := Lib.hid (show lessFE c d a b = 0 by rw [lessFE_swap]; exact h)
  have HD := Lib.hid (redB_iff.1 (lessFE_red h).1).1
  have HP := Lib.hid hpqr
  clear h hp hq hpqr
  go_enter Tryd.func10, Tryd.ntmps10
  go_wp2_with fail
  have kx0 : Blk4 ((w.alloc (.cells #[.int .u64 (hiZ a), .int .u64 (loZ a), .int .u64 (hiZ b), .int .u64 (loZ b)] 43)).alloc (.cells #[.int .u64 (hiZ c), .int .u64 (loZ c), .int .u64 (hiZ d), .int .u64 (loZ d)] 43)) (w.heap.size) (hiZ a) (loZ a) (hiZ b) (loZ b) := (by repeat' (first | (with_reducible assumption) | ((with_reducible refine Blk2.new_at _ _ ?_); (simp; done)) | ((with_reducible refine Blk4.new_at _ _ ?_); (simp; done)) | (with_reducible refine Blk2.drew ?_) | (with_reducible refine Blk2.drewN ?_) | (with_reducible refine Blk2.alloc ?_ _) | (with_reducible refine Blk4.drew ?_) | (with_reducible refine Blk4.drewN ?_) | (with_reducible refine Blk4.alloc ?_ _)))
  have ky0 : Blk4 ((w.alloc (.cells #[.int .u64 (hiZ a), .int .u64 (loZ a), .int .u64 (hiZ b), .int .u64 (loZ b)] 43)).alloc (.cells #[.int .u64 (hiZ c), .int .u64 (loZ c), .int .u64 (hiZ d), .int .u64 (loZ d)] 43)) (w.heap.size + 1) (hiZ c) (loZ c) (hiZ d) (loZ d) := (by repeat' (first | (with_reducible assumption) | ((with_reducible refine Blk2.new_at _ _ ?_); (simp; done)) | ((with_reducible refine Blk4.new_at _ _ ?_); (simp; done)) | (with_reducible refine Blk2.drew ?_) | (with_reducible refine Blk2.drewN ?_) | (with_reducible refine Blk2.alloc ?_ _) | (with_reducible refine Blk4.drew ?_) | (with_reducible refine Blk4.drewN ?_) | (with_reducible refine Blk4.alloc ?_ _)))
  have B0 : Below w.heap.size w ((w.alloc (.cells #[.int .u64 (hiZ a), .int .u64 (loZ a), .int .u64 (hiZ b), .int .u64 (loZ b)] 43)).alloc (.cells #[.int .u64 (hiZ c), .int .u64 (loZ c), .int .u64 (hiZ d), .int .u64 (loZ d)] 43)) := (by go_grown)
  have o1 : w.heap.size < w.heap.size + 1 := by omega
  generalize w.heap.size + 1 = g1 at *
  generalize ((w.alloc (.cells #[.int .u64 (hiZ a), .int .u64 (loZ a), .int .u64 (hiZ b), .int .u64 (loZ b)] 43)).alloc (.cells #[.int .u64 (hiZ c), .int .u64 (loZ c), .int .u64 (hiZ d), .int .u64 (loZ d)] 43)) = w0 at *
  have z0 := B0.size
  have cx0 := kx0.c0; have dx0 := kx0.c1; have ex0 := kx0.c2; have hx0 := kx0.c3; have fx0 := kx0.f 0; have gx0 := kx0.f 1; have ix0 := kx0.f 2; have jx0 := kx0.f 3; have lx0 := kx0.lt
  have cy0 := ky0.c0; have dy0 := ky0.c1; have ey0 := ky0.c2; have hy0 := ky0.c3; have fy0 := ky0.f 0; have gy0 := ky0.f 1; have iy0 := ky0.f 2; have jy0 := ky0.f 3; have ly0 := ky0.lt
  refine (lives2_any _ (tabs_stays HT.out (by go_grown))).mono ?_
  rintro e w1 ⟨rfl, hb1⟩
  have B1 : Below w.heap.size w w1 := (by refine below_of ?_ hb1; go_grown)
  have kx1 : Blk4 w1 (w.heap.size) (hiZ a) (loZ a) (hiZ b) (loZ b) := (by refine Blk4.keep ?_ hb1; repeat' (first | (with_reducible assumption) | ((with_reducible refine Blk2.new_at _ _ ?_); (simp; done)) | ((with_reducible refine Blk4.new_at _ _ ?_); (simp; done)) | (with_reducible refine Blk2.drew ?_) | (with_reducible refine Blk2.drewN ?_) | (with_reducible refine Blk2.alloc ?_ _) | (with_reducible refine Blk4.drew ?_) | (with_reducible refine Blk4.drewN ?_) | (with_reducible refine Blk4.alloc ?_ _)))
  have ky1 : Blk4 w1 (g1) (hiZ c) (loZ c) (hiZ d) (loZ d) := (by refine Blk4.keep ?_ hb1; repeat' (first | (with_reducible assumption) | ((with_reducible refine Blk2.new_at _ _ ?_); (simp; done)) | ((with_reducible refine Blk4.new_at _ _ ?_); (simp; done)) | (with_reducible refine Blk2.drew ?_) | (with_reducible refine Blk2.drewN ?_) | (with_reducible refine Blk2.alloc ?_ _) | (with_reducible refine Blk4.drew ?_) | (with_reducible refine Blk4.drewN ?_) | (with_reducible refine Blk4.alloc ?_ _)))
  clear hb1 B0 z0 kx0 cx0 dx0 ex0 hx0 fx0 gx0 ix0 jx0 lx0 ky0 cy0 dy0 ey0 hy0 fy0 gy0 iy0 jy0 ly0
  have z1 := B1.size
  have cx1 := kx1.c0; have dx1 := kx1.c1; have ex1 := kx1.c2; have hx1 := kx1.c3; have fx1 := kx1.f 0; have gx1 := kx1.f 1; have ix1 := kx1.f 2; have jx1 := kx1.f 3; have lx1 := kx1.lt
  have cy1 := ky1.c0; have dy1 := ky1.c1; have ey1 := ky1.c2; have hy1 := ky1.c3; have fy1 := ky1.f 0; have gy1 := ky1.f 1; have iy1 := ky1.f 2; have jy1 := ky1.f 3; have ly1 := ky1.lt
  go_wp2_with fail
  refine (ro_less (a := a) (b := b) (c := c) (d := d) HB.out HE.out _).mono ?_
  rintro e w2 ⟨rfl, hb2⟩
  have B2 : Below w.heap.size w w2 := (by refine below_of ?_ hb2; go_grown)
  have kx2 : Blk4 w2 (w.heap.size) (hiZ a) (loZ a) (hiZ b) (loZ b) := (by refine Blk4.keep ?_ hb2; repeat' (first | (with_reducible assumption) | ((with_reducible refine Blk2.new_at _ _ ?_); (simp; done)) | ((with_reducible refine Blk4.new_at _ _ ?_); (simp; done)) | (with_reducible refine Blk2.drew ?_) | (with_reducible refine Blk2.drewN ?_) | (with_reducible refine Blk2.alloc ?_ _) | (with_reducible refine Blk4.drew ?_) | (with_reducible refine Blk4.drewN ?_) | (with_reducible refine Blk4.alloc ?_ _)))
  have ky2 : Blk4 w2 (g1) (hiZ c) (loZ c) (hiZ d) (loZ d) := (by refine Blk4.keep ?_ hb2; repeat' (first | (with_reducible assumption) | ((with_reducible refine Blk2.new_at _ _ ?_); (simp; done)) | ((with_reducible refine Blk4.new_at _ _ ?_); (simp; done)) | (with_reducible refine Blk2.drew ?_) | (with_reducible refine Blk2.drewN ?_) | (with_reducible refine Blk2.alloc ?_ _) | (with_reducible refine Blk4.drew ?_) | (with_reducible refine Blk4.drewN ?_) | (with_reducible refine Blk4.alloc ?_ _)))
  clear hb2 B1 z1 kx1 cx1 dx1 ex1 hx1 fx1 gx1 ix1 jx1 lx1 ky1 cy1 dy1 ey1 hy1 fy1 gy1 iy1 jy1 ly1
  have z2 := B2.size
  have cx2 := kx2.c0; have dx2 := kx2.c1; have ex2 := kx2.c2; have hx2 := kx2.c3; have fx2 := kx2.f 0; have gx2 := kx2.f 1; have ix2 := kx2.f 2; have jx2 := kx2.f 3; have lx2 := kx2.lt
  have cy2 := ky2.c0; have dy2 := ky2.c1; have ey2 := ky2.c2; have hy2 := ky2.c3; have fy2 := ky2.f 0; have gy2 := ky2.f 1; have iy2 := ky2.f 2; have jy2 := ky2.f 3; have ly2 := ky2.lt
  go_wp2_with fail
  refine (ro_less (a := c) (b := d) (c := a) (d := b) HB'.out HE'.out _).mono ?_
  rintro e w3 ⟨rfl, hb3⟩
  have B3 : Below w.heap.size w w3 := (by refine below_of ?_ hb3; go_grown)
  have kx3 : Blk4 w3 (w.heap.size) (hiZ a) (loZ a) (hiZ b) (loZ b) := (by refine Blk4.keep ?_ hb3; repeat' (first | (with_reducible assumption) | ((with_reducible refine Blk2.new_at _ _ ?_); (simp; done)) | ((with_reducible refine Blk4.new_at _ _ ?_); (simp; done)) | (with_reducible refine Blk2.drew ?_) | (with_reducible refine Blk2.drewN ?_) | (with_reducible refine Blk2.alloc ?_ _) | (with_reducible refine Blk4.drew ?_) | (with_reducible refine Blk4.drewN ?_) | (with_reducible refine Blk4.alloc ?_ _)))
  have ky3 : Blk4 w3 (g1) (hiZ c) (loZ c) (hiZ d) (loZ d) := (by refine Blk4.keep ?_ hb3; repeat' (first | (with_reducible assumption) | ((with_reducible refine Blk2.new_at _ _ ?_); (simp; done)) | ((with_reducible refine Blk4.new_at _ _ ?_); (simp; done)) | (with_reducible refine Blk2.drew ?_) | (with_reducible refine Blk2.drewN ?_) | (with_reducible refine Blk2.alloc ?_ _) | (with_reducible refine Blk4.drew ?_) | (with_reducible refine Blk4.drewN ?_) | (with_reducible refine Blk4.alloc ?_ _)))
  clear hb3 B2 z2 kx2 cx2 dx2 ex2 hx2 fx2 gx2 ix2 jx2 lx2 ky2 cy2 dy2 ey2 hy2 fy2 gy2 iy2 jy2 ly2
  have z3 := B3.size
  have cx3 := kx3.c0; have dx3 := kx3.c1; have ex3 := kx3.c2; have hx3 := kx3.c3; have fx3 := kx3.f 0; have gx3 := kx3.f 1; have ix3 := kx3.f 2; have jx3 := kx3.f 3; have lx3 := kx3.lt
  have cy3 := ky3.c0; have dy3 := ky3.c1; have ey3 := ky3.c2; have hy3 := ky3.c3; have fy3 := ky3.f 0; have gy3 := ky3.f 1; have iy3 := ky3.f 2; have jy3 := ky3.f 3; have ly3 := ky3.lt
  go_wp2_with fail
  clear he
  rcases HP.out with ⟨rfl, rfl, rfl⟩ | ⟨rfl, rfl, rfl⟩ | ⟨rfl, rfl, rfl⟩
  all_goals
    clear HP
    refine wp_loop_rounds 4 ?_
    (rw [rounds_succ]; go_wp2_with fail)
    (rw [rounds_succ]; go_wp2_with fail)
    (rw [rounds_succ]; go_wp2_with fail)
    (rw [rounds_succ]; go_wp2_with fail)
    refine (floor_any a b HD.out _).mono ?_
    rintro e w4 ⟨rfl, hb4⟩
    have B4 : Below w.heap.size w w4 := (by refine below_of ?_ hb4; go_grown)
    have kx4 : Blk4 w4 (w.heap.size) (hiZ a) (loZ a) (hiZ b) (loZ b) := (by refine Blk4.keep ?_ hb4; repeat' (first | (with_reducible assumption) | ((with_reducible refine Blk2.new_at _ _ ?_); (simp; done)) | ((with_reducible refine Blk4.new_at _ _ ?_); (simp; done)) | (with_reducible refine Blk2.drew ?_) | (with_reducible refine Blk2.drewN ?_) | (with_reducible refine Blk2.alloc ?_ _) | (with_reducible refine Blk4.drew ?_) | (with_reducible refine Blk4.drewN ?_) | (with_reducible refine Blk4.alloc ?_ _)))
    clear hb4 B3 z3 kx3 cx3 dx3 ex3 hx3 fx3 gx3 ix3 jx3 lx3 ky3 cy3 dy3 ey3 hy3 fy3 gy3 iy3 jy3 ly3
    have z4 := B4.size
    have cx4 := kx4.c0; have dx4 := kx4.c1; have ex4 := kx4.c2; have hx4 := kx4.c3; have fx4 := kx4.f 0; have gx4 := kx4.f 1; have ix4 := kx4.f 2; have jx4 := kx4.f 3; have lx4 := kx4.lt
    go_upto_region 17 with fail
    go_cut [14] (fun s14 wx => ∃ g, s14 = .pointer (some ⟨g, 0, none⟩) ∧ RoC w wx a b g)
    case first =>
      go_region_held3 (fun w' => w'.cell? ⟨w4.heap.size, 0, none⟩ = some (.int .u64 (hiZ (divW a b))) ∧ w'.cell? ⟨w4.heap.size, 1, none⟩ = some (.int .u64 (loZ (divW a b)))) (first | exact ⟨by assumption, by assumption⟩ | go_keep | exact ⟨by (rw [World.cell?_setCell_other _ _ _ _ (by simp <;> omega), World.cell?_setCell_other _ _ _ _ (by simp <;> omega), World.cell?_setCell_other _ _ _ _ (by simp <;> omega), World.cell?_setCell_other _ _ _ _ (by simp <;> omega)]; assumption), by (rw [World.cell?_setCell_other _ _ _ _ (by simp <;> omega), World.cell?_setCell_other _ _ _ _ (by simp <;> omega), World.cell?_setCell_other _ _ _ _ (by simp <;> omega), World.cell?_setCell_other _ _ _ _ (by simp <;> omega)]; assumption)⟩) (first
        | (go_at_call 24; refine (of_any _ _).mono ?_; rintro e w7 ⟨rfl, rfl⟩))
      all_goals
        go_wp2_with fail
        go_meet
        refine ⟨_, rfl, by go_grown, ?_, ?_⟩
        · first
          | ((repeat' (first | (with_reducible assumption) | ((with_reducible refine Blk2.new_at _ _ ?_); (simp; done)) | ((with_reducible refine Blk4.new_at _ _ ?_); (simp; done)) | (with_reducible refine Blk2.drew ?_) | (with_reducible refine Blk2.drewN ?_) | (with_reducible refine Blk2.alloc ?_ _) | (with_reducible refine Blk4.drew ?_) | (with_reducible refine Blk4.drewN ?_) | (with_reducible refine Blk4.alloc ?_ _))); done)
          | (refine Blk4.other (Blk4.other (Blk4.other (Blk4.other ?_ _ _ (by simp <;> omega)) _ _ (by simp <;> omega)) _ _ (by simp <;> omega)) _ _ (by simp <;> omega); (repeat' (first | (with_reducible assumption) | ((with_reducible refine Blk2.new_at _ _ ?_); (simp; done)) | ((with_reducible refine Blk4.new_at _ _ ?_); (simp; done)) | (with_reducible refine Blk2.drew ?_) | (with_reducible refine Blk2.drewN ?_) | (with_reducible refine Blk2.alloc ?_ _) | (with_reducible refine Blk4.drew ?_) | (with_reducible refine Blk4.drewN ?_) | (with_reducible refine Blk4.alloc ?_ _))); done)
        · first
          | ((repeat' (first | (with_reducible assumption) | ((with_reducible refine Blk2.new_at _ _ ?_); (simp; done)) | ((with_reducible refine Blk4.new_at _ _ ?_); (simp; done)) | (with_reducible refine Blk2.drew ?_) | (with_reducible refine Blk2.drewN ?_) | (with_reducible refine Blk2.alloc ?_ _) | (with_reducible refine Blk4.drew ?_) | (with_reducible refine Blk4.drewN ?_) | (with_reducible refine Blk4.alloc ?_ _))); done)
          | (refine Blk4.set (a := 0) (b := 0) (c := 0) (d := 0) ?_ _ _ _ _; (repeat' (first | (with_reducible assumption) | ((with_reducible refine Blk2.new_at _ _ ?_); (simp; done)) | ((with_reducible refine Blk4.new_at _ _ ?_); (simp; done)) | (with_reducible refine Blk2.drew ?_) | (with_reducible refine Blk2.drewN ?_) | (with_reducible refine Blk2.alloc ?_ _) | (with_reducible refine Blk4.drew ?_) | (with_reducible refine Blk4.drewN ?_) | (with_reducible refine Blk4.alloc ?_ _))); done)
    case rest =>
      obtain ⟨g, rfl, hC⟩ := hcut
      have kx5 := hC.rx; have kf5 := hC.rf; have B5 := hC.below; have z5 := B5.size
      clear hC B4 z4 kx4 cx4 dx4 ex4 hx4 fx4 gx4 ix4 jx4 lx4
      have cx5 := kx5.c0; have dx5 := kx5.c1; have ex5 := kx5.c2; have hx5 := kx5.c3; have fx5 := kx5.f 0; have gx5 := kx5.f 1; have ix5 := kx5.f 2; have jx5 := kx5.f 3; have lx5 := kx5.lt
      have cf5 := kf5.c0; have df5 := kf5.c1; have ef5 := kf5.c2; have hf5 := kf5.c3; have ff5 := kf5.f 0; have gf5 := kf5.f 1; have if5 := kf5.f 2; have jf5 := kf5.f 3; have lf5 := kf5.lt
      go_wp2_with fail
      refine (ro_last a b _).mono ?_
      rintro e w6 ⟨rfl, hb6⟩
      have B6 : Below w.heap.size w w6 := (by refine below_of ?_ hb6; go_grown)
      have kx6 : Blk4 w6 (w.heap.size) (hiZ a) (loZ a) (hiZ b) (loZ b) := (by refine Blk4.keep ?_ hb6; repeat' (first | (with_reducible assumption) | ((with_reducible refine Blk2.new_at _ _ ?_); (simp; done)) | ((with_reducible refine Blk4.new_at _ _ ?_); (simp; done)) | (with_reducible refine Blk2.drew ?_) | (with_reducible refine Blk2.drewN ?_) | (with_reducible refine Blk2.alloc ?_ _) | (with_reducible refine Blk4.drew ?_) | (with_reducible refine Blk4.drewN ?_) | (with_reducible refine Blk4.alloc ?_ _)))
      have kf6 : Blk4 w6 (g) (hiZ (divW a b)) (loZ (divW a b)) (0) (1) := (by refine Blk4.keep ?_ hb6; repeat' (first | (with_reducible assumption) | ((with_reducible refine Blk2.new_at _ _ ?_); (simp; done)) | ((with_reducible refine Blk4.new_at _ _ ?_); (simp; done)) | (with_reducible refine Blk2.drew ?_) | (with_reducible refine Blk2.drewN ?_) | (with_reducible refine Blk2.alloc ?_ _) | (with_reducible refine Blk4.drew ?_) | (with_reducible refine Blk4.drewN ?_) | (with_reducible refine Blk4.alloc ?_ _)))
      clear hb6 B5 z5 kx5 cx5 dx5 ex5 hx5 fx5 gx5 ix5 jx5 lx5 kf5 cf5 df5 ef5 hf5 ff5 gf5 if5 jf5 lf5
      have z6 := B6.size
      have cx6 := kx6.c0; have dx6 := kx6.c1; have ex6 := kx6.c2; have hx6 := kx6.c3; have fx6 := kx6.f 0; have gx6 := kx6.f 1; have ix6 := kx6.f 2; have jx6 := kx6.f 3; have lx6 := kx6.lt
      have cf6 := kf6.c0; have df6 := kf6.c1; have ef6 := kf6.c2; have hf6 := kf6.c3; have ff6 := kf6.f 0; have gf6 := kf6.f 1; have if6 := kf6.f 2; have jf6 := kf6.f 3; have lf6 := kf6.lt
      go_wp2_with fail
      all_goals
        go_ret
        exact ⟨rfl, by go_grown⟩
theorem rorder_any (a b c d : U) (w : World) (htab : tabs w) :
    Calls Tryd.prog 10 #[.agg #[.int .u64 (hiZ a), .int .u64 (loZ a), .int .u64 (hiZ b), .int .u64 (loZ b)], .agg #[.int .u64 (hiZ c), .int .u64 (loZ c), .int .u64 (hiZ d), .int .u64 (loZ d)]] w fun e w' => e = .returned (.bool true) ∧ Below w.heap.size w w' := by
  by_cases h : lessFE a b c d = 0
  · rcases trichF h with ⟨h1, h2, ne⟩ | ⟨h1, h2, ne⟩ | ⟨h1, h2, e1, e2, e3, e4⟩
    · exact rorder_ok a b c d w htab h _ _ _ h1 h2 (eqlF_no ne) (Or.inl ⟨rfl, rfl, rfl⟩)
    · exact rorder_ok a b c d w htab h _ _ _ h1 h2 (eqlF_no ne) (Or.inr (Or.inl ⟨rfl, rfl, rfl⟩))
    · exact rorder_ok a b c d w htab h _ _ _ h1 h2 (eqlF_yes e1 e2 e3 e4) (Or.inr (Or.inr ⟨rfl, rfl, rfl⟩))
  · exact rorder_bad a b c d w htab h
end Go.Proofs.YtklmllkpedailaaDoor
