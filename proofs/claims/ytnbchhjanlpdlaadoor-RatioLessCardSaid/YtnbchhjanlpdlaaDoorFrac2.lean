/-
  WALKS: ratio.Check, times, Floor, Less.
-/
import Derived.Test.YtnbchhjanlpdlaaDoorFrac
namespace Go.Proofs.YtnbchhjanlpdlaaDoor
open Go Go.RowKit

/-- Is n over d reduced? -/
def redB (n d : U) : Bool := decide (d.n ≠ 0 ∧ Nat.gcd n.n d.n = 1)
def checkE (n d : U) : Int := if redB n d = true then 0 else 2
theorem red_iff {n d : U} (hd : d.n ≠ 0) : (redN n d = n ∧ redD n d = d) ↔ Nat.gcd n.n d.n = 1 := by
  constructor
  · rintro ⟨_, h⟩
    have e : d.n / Nat.gcd n.n d.n = d.n := congrArg U.n h
    have g0 : Nat.gcd n.n d.n ≠ 0 := gcd_pos hd
    rcases Nat.lt_or_ge 1 (Nat.gcd n.n d.n) with g | g
    · have := Nat.div_lt_self (Nat.pos_of_ne_zero hd) g
      omega
    · omega
  · intro h
    refine ⟨U.ext ?_, U.ext ?_⟩
    · show n.n / Nat.gcd n.n d.n = n.n
      rw [h, Nat.div_one]
    · show d.n / Nat.gcd n.n d.n = d.n
      rw [h, Nat.div_one]
theorem i_eq {e f : Int} (h : f = e) : Ending.returned (.int .i64 e) = Ending.returned (.int .i64 f) := by rw [h]
theorem f_eq {a b c d : U} (h : a = b ∧ c = d) : hiZ a = hiZ b ∧ loZ a = loZ b ∧ hiZ c = hiZ d ∧ loZ c = loZ d := by rw [h.1, h.2]; exact ⟨rfl, rfl, rfl, rfl⟩
theorem f_ne {a b c d : U} (h : hiZ a = hiZ b ∧ loZ a = loZ b ∧ hiZ c = hiZ d ∧ loZ c = loZ d) : a = b ∧ c = d := ⟨U.halves_inj h.1 h.2.1, U.halves_inj h.2.2.1 h.2.2.2⟩
theorem neq_frac_no {a b c d a' b' c' d' : Int} (h1 : a = a') (h2 : b = b') (h3 : c = c') (h4 : d = d') (w : World) :
    (binOp .neq 41 (.agg #[.int .u64 a, .int .u64 b, .int .u64 c, .int .u64 d]) (.agg #[.int .u64 a', .int .u64 b', .int .u64 c', .int .u64 d'])).run Tryd.prog w = .ok (.bool false) w := by
  subst h1 h2 h3 h4
  go_simp
theorem neq_frac_yes {a b c d a' b' c' d' : Int} (h : ¬ (a = a' ∧ b = b' ∧ c = c' ∧ d = d')) (w : World) :
    (binOp .neq 41 (.agg #[.int .u64 a, .int .u64 b, .int .u64 c, .int .u64 d]) (.agg #[.int .u64 a', .int .u64 b', .int .u64 c', .int .u64 d'])).run Tryd.prog w = .ok (.bool true) w := by
  by_cases h1 : a = a'
  · subst h1
    by_cases h2 : b = b'
    · subst h2
      by_cases h3 : c = c'
      · subst h3
        have h4 : (d == d') = false := by simpa using h
        go_simp
      · have h3' : (c == c') = false := by simpa using h3
        go_simp
    · have h2' : (b == b') = false := by simpa using h2
      go_simp
  · have h1' : (a == a') = false := by simpa using h1
    go_simp

set_option maxHeartbeats 8000000 in
set_option maxRecDepth 100000 in
theorem check_any (n d : U) (w : World) :
    Calls Tryd.prog 34 #[.agg #[.int .u64 (hiZ n), .int .u64 (loZ n), .int .u64 (hiZ d), .int .u64 (loZ d)]] w fun e w' => e = .returned (.int .i64 (checkE n d)) ∧ Below w.heap.size w w' := by
  by_cases hd : d.n = 0
  · have hE : checkE n d = 2 := by unfold checkE redB; rw [if_neg (by simp [hd])]
    have HE := Lib.hid hE
    clear hE
    go_enter Tryd.func34, Tryd.ntmps34
    go_wp2_with fail
    have kf0 : Blk4 (w.alloc (.cells #[.int .u64 (hiZ n), .int .u64 (loZ n), .int .u64 (hiZ d), .int .u64 (loZ d)] 41)) (w.heap.size) (hiZ n) (loZ n) (hiZ d) (loZ d) := (by repeat' (first | (with_reducible assumption) | ((with_reducible refine Blk2.new_at _ _ ?_); (simp; done)) | ((with_reducible refine Blk4.new_at _ _ ?_); (simp; done)) | (with_reducible refine Blk2.drew ?_) | (with_reducible refine Blk2.drewN ?_) | (with_reducible refine Blk2.alloc ?_ _) | (with_reducible refine Blk4.drew ?_) | (with_reducible refine Blk4.drewN ?_) | (with_reducible refine Blk4.alloc ?_ _)))
    have B0 : Below w.heap.size w (w.alloc (.cells #[.int .u64 (hiZ n), .int .u64 (loZ n), .int .u64 (hiZ d), .int .u64 (loZ d)] 41)) := (by go_grown)
    generalize (w.alloc (.cells #[.int .u64 (hiZ n), .int .u64 (loZ n), .int .u64 (hiZ d), .int .u64 (loZ d)] 41)) = w0 at *
    have z0 := B0.size
    have cf0 := kf0.c0; have df0 := kf0.c1; have ef0 := kf0.c2; have hf0 := kf0.c3; have ff0 := kf0.f 0; have gf0 := kf0.f 1; have if0 := kf0.f 2; have jf0 := kf0.f 3; have lf0 := kf0.lt
    refine (reduce_zero n d hd _).mono ?_
    rintro e w1 ⟨rfl, hb1⟩
    have B1 : Below w.heap.size w w1 := (by refine below_of ?_ hb1; go_grown)
    have kf1 : Blk4 w1 (w.heap.size) (hiZ n) (loZ n) (hiZ d) (loZ d) := (by refine Blk4.keep ?_ hb1; repeat' (first | (with_reducible assumption) | ((with_reducible refine Blk2.new_at _ _ ?_); (simp; done)) | ((with_reducible refine Blk4.new_at _ _ ?_); (simp; done)) | (with_reducible refine Blk2.drew ?_) | (with_reducible refine Blk2.drewN ?_) | (with_reducible refine Blk2.alloc ?_ _) | (with_reducible refine Blk4.drew ?_) | (with_reducible refine Blk4.drewN ?_) | (with_reducible refine Blk4.alloc ?_ _)))
    clear hb1 B0 z0 kf0 cf0 df0 ef0 hf0 ff0 gf0 if0 jf0 lf0
    have z1 := B1.size
    have cf1 := kf1.c0; have df1 := kf1.c1; have ef1 := kf1.c2; have hf1 := kf1.c3; have ff1 := kf1.f 0; have gf1 := kf1.f 1; have if1 := kf1.f 2; have jf1 := kf1.f 3; have lf1 := kf1.lt
    go_wp2_with fail
    go_ret
    exact ⟨i_eq HE.out, by go_grown⟩
  · by_cases hr : Nat.gcd n.n d.n = 1
    · have hE : checkE n d = 0 := by unfold checkE redB; rw [if_pos (by simp [hd, hr])]
      obtain ⟨q1, q2, q3, q4⟩ := f_eq ((red_iff hd).2 hr)
      have he := neq_frac_no q1 q2 q3 q4
      have HE := Lib.hid hE
      have HD := Lib.hid hd
      clear hE q1 q2 q3 q4 hr hd
      go_enter Tryd.func34, Tryd.ntmps34
      go_wp2_with fail
      have kf0 : Blk4 (w.alloc (.cells #[.int .u64 (hiZ n), .int .u64 (loZ n), .int .u64 (hiZ d), .int .u64 (loZ d)] 41)) (w.heap.size) (hiZ n) (loZ n) (hiZ d) (loZ d) := (by repeat' (first | (with_reducible assumption) | ((with_reducible refine Blk2.new_at _ _ ?_); (simp; done)) | ((with_reducible refine Blk4.new_at _ _ ?_); (simp; done)) | (with_reducible refine Blk2.drew ?_) | (with_reducible refine Blk2.drewN ?_) | (with_reducible refine Blk2.alloc ?_ _) | (with_reducible refine Blk4.drew ?_) | (with_reducible refine Blk4.drewN ?_) | (with_reducible refine Blk4.alloc ?_ _)))
      have B0 : Below w.heap.size w (w.alloc (.cells #[.int .u64 (hiZ n), .int .u64 (loZ n), .int .u64 (hiZ d), .int .u64 (loZ d)] 41)) := (by go_grown)
      generalize (w.alloc (.cells #[.int .u64 (hiZ n), .int .u64 (loZ n), .int .u64 (hiZ d), .int .u64 (loZ d)] 41)) = w0 at *
      have z0 := B0.size
      have cf0 := kf0.c0; have df0 := kf0.c1; have ef0 := kf0.c2; have hf0 := kf0.c3; have ff0 := kf0.f 0; have gf0 := kf0.f 1; have if0 := kf0.f 2; have jf0 := kf0.f 3; have lf0 := kf0.lt
      refine (reduce_any n d HD.out _).mono ?_
      rintro e w1 ⟨rfl, hb1⟩
      have B1 : Below w.heap.size w w1 := (by refine below_of ?_ hb1; go_grown)
      have kf1 : Blk4 w1 (w.heap.size) (hiZ n) (loZ n) (hiZ d) (loZ d) := (by refine Blk4.keep ?_ hb1; repeat' (first | (with_reducible assumption) | ((with_reducible refine Blk2.new_at _ _ ?_); (simp; done)) | ((with_reducible refine Blk4.new_at _ _ ?_); (simp; done)) | (with_reducible refine Blk2.drew ?_) | (with_reducible refine Blk2.drewN ?_) | (with_reducible refine Blk2.alloc ?_ _) | (with_reducible refine Blk4.drew ?_) | (with_reducible refine Blk4.drewN ?_) | (with_reducible refine Blk4.alloc ?_ _)))
      clear hb1 B0 z0 kf0 cf0 df0 ef0 hf0 ff0 gf0 if0 jf0 lf0
      have z1 := B1.size
      have cf1 := kf1.c0; have df1 := kf1.c1; have ef1 := kf1.c2; have hf1 := kf1.c3; have ff1 := kf1.f 0; have gf1 := kf1.f 1; have if1 := kf1.f 2; have jf1 := kf1.f 3; have lf1 := kf1.lt
      go_wp2_with fail
      go_ret
      exact ⟨i_eq HE.out, by go_grown⟩
    · have hE : checkE n d = 2 := by unfold checkE redB; rw [if_neg (by simp [hr])]
      have he := neq_frac_yes (fun h => hr ((red_iff hd).1 (f_ne h)))
      have HE := Lib.hid hE
      have HD := Lib.hid hd
      clear hE hr hd
      go_enter Tryd.func34, Tryd.ntmps34
      go_wp2_with fail
      have kf0 : Blk4 (w.alloc (.cells #[.int .u64 (hiZ n), .int .u64 (loZ n), .int .u64 (hiZ d), .int .u64 (loZ d)] 41)) (w.heap.size) (hiZ n) (loZ n) (hiZ d) (loZ d) := (by repeat' (first | (with_reducible assumption) | ((with_reducible refine Blk2.new_at _ _ ?_); (simp; done)) | ((with_reducible refine Blk4.new_at _ _ ?_); (simp; done)) | (with_reducible refine Blk2.drew ?_) | (with_reducible refine Blk2.drewN ?_) | (with_reducible refine Blk2.alloc ?_ _) | (with_reducible refine Blk4.drew ?_) | (with_reducible refine Blk4.drewN ?_) | (with_reducible refine Blk4.alloc ?_ _)))
      have B0 : Below w.heap.size w (w.alloc (.cells #[.int .u64 (hiZ n), .int .u64 (loZ n), .int .u64 (hiZ d), .int .u64 (loZ d)] 41)) := (by go_grown)
      generalize (w.alloc (.cells #[.int .u64 (hiZ n), .int .u64 (loZ n), .int .u64 (hiZ d), .int .u64 (loZ d)] 41)) = w0 at *
      have z0 := B0.size
      have cf0 := kf0.c0; have df0 := kf0.c1; have ef0 := kf0.c2; have hf0 := kf0.c3; have ff0 := kf0.f 0; have gf0 := kf0.f 1; have if0 := kf0.f 2; have jf0 := kf0.f 3; have lf0 := kf0.lt
      refine (reduce_any n d HD.out _).mono ?_
      rintro e w1 ⟨rfl, hb1⟩
      have B1 : Below w.heap.size w w1 := (by refine below_of ?_ hb1; go_grown)
      have kf1 : Blk4 w1 (w.heap.size) (hiZ n) (loZ n) (hiZ d) (loZ d) := (by refine Blk4.keep ?_ hb1; repeat' (first | (with_reducible assumption) | ((with_reducible refine Blk2.new_at _ _ ?_); (simp; done)) | ((with_reducible refine Blk4.new_at _ _ ?_); (simp; done)) | (with_reducible refine Blk2.drew ?_) | (with_reducible refine Blk2.drewN ?_) | (with_reducible refine Blk2.alloc ?_ _) | (with_reducible refine Blk4.drew ?_) | (with_reducible refine Blk4.drewN ?_) | (with_reducible refine Blk4.alloc ?_ _)))
      clear hb1 B0 z0 kf0 cf0 df0 ef0 hf0 ff0 gf0 if0 jf0 lf0
      have z1 := B1.size
      have cf1 := kf1.c0; have df1 := kf1.c1; have ef1 := kf1.c2; have hf1 := kf1.c3; have ff1 := kf1.f 0; have gf1 := kf1.f 1; have if1 := kf1.f 2; have jf1 := kf1.f 3; have lf1 := kf1.lt
      go_wp2_with fail
      go_ret
      exact ⟨i_eq HE.out, by go_grown⟩

def mulU (a b : U) : U := cutU (a.n * b.n)
def mulE (a b : U) : Int := cutE (a.n * b.n)
theorem mul_big {a b : U} (ha : hiZ a ≠ 0) (hb : hiZ b ≠ 0) : 340282366920938463463374607431768211456 ≤ a.n * b.n := by
  have h1 : 18446744073709551616 ≤ a.n := by unfold hiZ at ha; omega
  have h2 : 18446744073709551616 ≤ b.n := by unfold hiZ at hb; omega
  have := Nat.mul_le_mul h1 h2
  omega
theorem lo_of {b : U} (hb : hiZ b = 0) : loZ b = (b.n : Int) ∧ b.n < 18446744073709551616 := by unfold hiZ at hb; unfold loZ; omega
set_option maxHeartbeats 8000000 in
set_option maxRecDepth 100000 in
theorem rtimes_any (a b : U) (w : World) :
    Calls Tryd.prog 50 #[.agg #[.int .u64 (hiZ a), .int .u64 (loZ a)], .agg #[.int .u64 (hiZ b), .int .u64 (loZ b)]] w fun e w' =>
      e = .returned (.tuple #[.agg #[.int .u64 (hiZ (mulU a b)), .int .u64 (loZ (mulU a b))], .int .i64 (mulE a b)]) ∧ Below w.heap.size w w' := by
  by_cases ha : hiZ a = 0
  · by_cases hb : hiZ b = 0
    · have ta : (hiZ a != 0) = false := by simpa using ha
      have tb : (hiZ b != 0) = false := by simpa using hb
      have HL := Lib.hid (lo_of hb)
      clear ha hb
      go_enter Tryd.func50, Tryd.ntmps50
      go_upto_region 1 with fail
      have ka0 : Blk2 (((w.alloc (.cells #[.int .u64 (hiZ a), .int .u64 (loZ a)] 24)).alloc (.cells #[.int .u64 (hiZ b), .int .u64 (loZ b)] 24)).alloc (.cells #[.int .u64 0, .int .u64 0] 24)) (w.heap.size) (hiZ a) (loZ a) := (by repeat' (first | (with_reducible assumption) | ((with_reducible refine Blk2.new_at _ _ ?_); (simp; done)) | ((with_reducible refine Blk4.new_at _ _ ?_); (simp; done)) | (with_reducible refine Blk2.drew ?_) | (with_reducible refine Blk2.drewN ?_) | (with_reducible refine Blk2.alloc ?_ _) | (with_reducible refine Blk4.drew ?_) | (with_reducible refine Blk4.drewN ?_) | (with_reducible refine Blk4.alloc ?_ _)))
      have kb0 : Blk2 (((w.alloc (.cells #[.int .u64 (hiZ a), .int .u64 (loZ a)] 24)).alloc (.cells #[.int .u64 (hiZ b), .int .u64 (loZ b)] 24)).alloc (.cells #[.int .u64 0, .int .u64 0] 24)) (w.heap.size + 1) (hiZ b) (loZ b) := (by repeat' (first | (with_reducible assumption) | ((with_reducible refine Blk2.new_at _ _ ?_); (simp; done)) | ((with_reducible refine Blk4.new_at _ _ ?_); (simp; done)) | (with_reducible refine Blk2.drew ?_) | (with_reducible refine Blk2.drewN ?_) | (with_reducible refine Blk2.alloc ?_ _) | (with_reducible refine Blk4.drew ?_) | (with_reducible refine Blk4.drewN ?_) | (with_reducible refine Blk4.alloc ?_ _)))
      have kr0 : Blk2 (((w.alloc (.cells #[.int .u64 (hiZ a), .int .u64 (loZ a)] 24)).alloc (.cells #[.int .u64 (hiZ b), .int .u64 (loZ b)] 24)).alloc (.cells #[.int .u64 0, .int .u64 0] 24)) (w.heap.size + 1 + 1) (0) (0) := (by repeat' (first | (with_reducible assumption) | ((with_reducible refine Blk2.new_at _ _ ?_); (simp; done)) | ((with_reducible refine Blk4.new_at _ _ ?_); (simp; done)) | (with_reducible refine Blk2.drew ?_) | (with_reducible refine Blk2.drewN ?_) | (with_reducible refine Blk2.alloc ?_ _) | (with_reducible refine Blk4.drew ?_) | (with_reducible refine Blk4.drewN ?_) | (with_reducible refine Blk4.alloc ?_ _)))
      have B0 : Below w.heap.size w (((w.alloc (.cells #[.int .u64 (hiZ a), .int .u64 (loZ a)] 24)).alloc (.cells #[.int .u64 (hiZ b), .int .u64 (loZ b)] 24)).alloc (.cells #[.int .u64 0, .int .u64 0] 24)) := (by go_grown)
      have o1 : w.heap.size < w.heap.size + 1 := by omega
      have o2 : w.heap.size + 1 < w.heap.size + 1 + 1 := by omega
      generalize w.heap.size + 1 + 1 = g2 at *
      generalize w.heap.size + 1 = g1 at *
      generalize (((w.alloc (.cells #[.int .u64 (hiZ a), .int .u64 (loZ a)] 24)).alloc (.cells #[.int .u64 (hiZ b), .int .u64 (loZ b)] 24)).alloc (.cells #[.int .u64 0, .int .u64 0] 24)) = w0 at *
      have z0 := B0.size
      have ca0 := ka0.c0; have da0 := ka0.c1; have fa0 := ka0.f0; have ga0 := ka0.f1; have la0 := ka0.lt
      have cb0 := kb0.c0; have db0 := kb0.c1; have fb0 := kb0.f0; have gb0 := kb0.f1; have lb0 := kb0.lt
      have cr0 := kr0.c0; have dr0 := kr0.c1; have fr0 := kr0.f0; have gr0 := kr0.f1; have lr0 := kr0.lt
      go_wp2_with fail
      refine (times_zb HL.out.1 HL.out.2 _).mono ?_
      rintro e w1 ⟨rfl, hb1⟩
      have B1 := below_of B0 hb1
      have kr1 := kr0.keep hb1
      clear hb1 B0 z0 ka0 ca0 da0 fa0 ga0 la0 kb0 cb0 db0 fb0 gb0 lb0 kr0 cr0 dr0 fr0 gr0 lr0
      have z1 := B1.size
      have cr1 := kr1.c0; have dr1 := kr1.c1; have fr1 := kr1.f0; have gr1 := kr1.f1; have lr1 := kr1.lt
      have q := (kr1.set (hiZ (timesU a b.n)) (loZ (timesU a b.n)))
      have U0 := Lib.hid q.c0
      have U1 := Lib.hid q.c1
      clear q
      go_wp2_with fail
      have u0 := U0.out
      have u1 := U1.out
      refine bodyPost_ret (v := .tuple #[.agg #[.int .u64 (hiZ (timesU a b.n)), .int .u64 (loZ (timesU a b.n))], .int .i64 (timesE a b.n)]) (by simp [results, Tryd.results50, go_sem, u0, u1]) rfl ?_
      exact ⟨rfl, by go_grown⟩
    · have ta : (hiZ a != 0) = false := by simpa using ha
      have tb : (hiZ b != 0) = true := by simpa using hb
      have HL := Lib.hid (lo_of ha)
      have hcm : timesU b a.n = mulU a b ∧ timesE b a.n = mulE a b := by unfold timesU timesE mulU mulE; rw [Nat.mul_comm]; exact ⟨rfl, rfl⟩
      have HC := Lib.hid hcm
      clear ha hb hcm
      go_enter Tryd.func50, Tryd.ntmps50
      go_upto_region 1 with fail
      have ka0 : Blk2 (((w.alloc (.cells #[.int .u64 (hiZ a), .int .u64 (loZ a)] 24)).alloc (.cells #[.int .u64 (hiZ b), .int .u64 (loZ b)] 24)).alloc (.cells #[.int .u64 0, .int .u64 0] 24)) (w.heap.size) (hiZ a) (loZ a) := (by repeat' (first | (with_reducible assumption) | ((with_reducible refine Blk2.new_at _ _ ?_); (simp; done)) | ((with_reducible refine Blk4.new_at _ _ ?_); (simp; done)) | (with_reducible refine Blk2.drew ?_) | (with_reducible refine Blk2.drewN ?_) | (with_reducible refine Blk2.alloc ?_ _) | (with_reducible refine Blk4.drew ?_) | (with_reducible refine Blk4.drewN ?_) | (with_reducible refine Blk4.alloc ?_ _)))
      have kb0 : Blk2 (((w.alloc (.cells #[.int .u64 (hiZ a), .int .u64 (loZ a)] 24)).alloc (.cells #[.int .u64 (hiZ b), .int .u64 (loZ b)] 24)).alloc (.cells #[.int .u64 0, .int .u64 0] 24)) (w.heap.size + 1) (hiZ b) (loZ b) := (by repeat' (first | (with_reducible assumption) | ((with_reducible refine Blk2.new_at _ _ ?_); (simp; done)) | ((with_reducible refine Blk4.new_at _ _ ?_); (simp; done)) | (with_reducible refine Blk2.drew ?_) | (with_reducible refine Blk2.drewN ?_) | (with_reducible refine Blk2.alloc ?_ _) | (with_reducible refine Blk4.drew ?_) | (with_reducible refine Blk4.drewN ?_) | (with_reducible refine Blk4.alloc ?_ _)))
      have kr0 : Blk2 (((w.alloc (.cells #[.int .u64 (hiZ a), .int .u64 (loZ a)] 24)).alloc (.cells #[.int .u64 (hiZ b), .int .u64 (loZ b)] 24)).alloc (.cells #[.int .u64 0, .int .u64 0] 24)) (w.heap.size + 1 + 1) (0) (0) := (by repeat' (first | (with_reducible assumption) | ((with_reducible refine Blk2.new_at _ _ ?_); (simp; done)) | ((with_reducible refine Blk4.new_at _ _ ?_); (simp; done)) | (with_reducible refine Blk2.drew ?_) | (with_reducible refine Blk2.drewN ?_) | (with_reducible refine Blk2.alloc ?_ _) | (with_reducible refine Blk4.drew ?_) | (with_reducible refine Blk4.drewN ?_) | (with_reducible refine Blk4.alloc ?_ _)))
      have B0 : Below w.heap.size w (((w.alloc (.cells #[.int .u64 (hiZ a), .int .u64 (loZ a)] 24)).alloc (.cells #[.int .u64 (hiZ b), .int .u64 (loZ b)] 24)).alloc (.cells #[.int .u64 0, .int .u64 0] 24)) := (by go_grown)
      have o1 : w.heap.size < w.heap.size + 1 := by omega
      have o2 : w.heap.size + 1 < w.heap.size + 1 + 1 := by omega
      generalize w.heap.size + 1 + 1 = g2 at *
      generalize w.heap.size + 1 = g1 at *
      generalize (((w.alloc (.cells #[.int .u64 (hiZ a), .int .u64 (loZ a)] 24)).alloc (.cells #[.int .u64 (hiZ b), .int .u64 (loZ b)] 24)).alloc (.cells #[.int .u64 0, .int .u64 0] 24)) = w0 at *
      have z0 := B0.size
      have ca0 := ka0.c0; have da0 := ka0.c1; have fa0 := ka0.f0; have ga0 := ka0.f1; have la0 := ka0.lt
      have cb0 := kb0.c0; have db0 := kb0.c1; have fb0 := kb0.f0; have gb0 := kb0.f1; have lb0 := kb0.lt
      have cr0 := kr0.c0; have dr0 := kr0.c1; have fr0 := kr0.f0; have gr0 := kr0.f1; have lr0 := kr0.lt
      go_wp2_with fail
      refine (times_zb HL.out.1 HL.out.2 _).mono ?_
      rintro e w1 ⟨rfl, hb1⟩
      have s0 : Below w.heap.size w ((((w0.setCell ⟨w.heap.size, 0, none⟩ (.int .u64 (hiZ b))).setCell ⟨w.heap.size, 1, none⟩ (.int .u64 (loZ b))).setCell ⟨g1, 0, none⟩ (.int .u64 (hiZ a))).setCell ⟨g1, 1, none⟩ (.int .u64 (loZ a))) := by go_grown
      have sr := (((kr0.other ⟨w.heap.size, 0, none⟩ (.int .u64 (hiZ b)) (by simp <;> omega)).other ⟨w.heap.size, 1, none⟩ (.int .u64 (loZ b)) (by simp <;> omega)).other ⟨g1, 0, none⟩ (.int .u64 (hiZ a)) (by simp <;> omega)).other ⟨g1, 1, none⟩ (.int .u64 (loZ a)) (by simp <;> omega)
      have B1 := below_of s0 hb1
      have kr1 := sr.keep hb1
      clear s0 sr
      clear hb1 B0 z0 ka0 ca0 da0 fa0 ga0 la0 kb0 cb0 db0 fb0 gb0 lb0 kr0 cr0 dr0 fr0 gr0 lr0
      have z1 := B1.size
      have cr1 := kr1.c0; have dr1 := kr1.c1; have fr1 := kr1.f0; have gr1 := kr1.f1; have lr1 := kr1.lt
      have q := (kr1.set (hiZ (timesU b a.n)) (loZ (timesU b a.n)))
      have U0 := Lib.hid q.c0
      have U1 := Lib.hid q.c1
      clear q
      go_wp2_with fail
      have u0 := U0.out
      have u1 := U1.out
      refine bodyPost_ret (v := .tuple #[.agg #[.int .u64 (hiZ (timesU b a.n)), .int .u64 (loZ (timesU b a.n))], .int .i64 (timesE b a.n)]) (by simp [results, Tryd.results50, go_sem, u0, u1]) rfl ?_
      exact ⟨we_eq' (congrArg hiZ HC.out.1) (congrArg loZ HC.out.1) HC.out.2, by go_grown⟩
  · by_cases hb : hiZ b = 0
    · have ta : (hiZ a != 0) = true := by simpa using ha
      have tb : (hiZ b != 0) = false := by simpa using hb
      have HL := Lib.hid (lo_of hb)
      clear ha hb
      go_enter Tryd.func50, Tryd.ntmps50
      go_upto_region 1 with fail
      have ka0 : Blk2 (((w.alloc (.cells #[.int .u64 (hiZ a), .int .u64 (loZ a)] 24)).alloc (.cells #[.int .u64 (hiZ b), .int .u64 (loZ b)] 24)).alloc (.cells #[.int .u64 0, .int .u64 0] 24)) (w.heap.size) (hiZ a) (loZ a) := (by repeat' (first | (with_reducible assumption) | ((with_reducible refine Blk2.new_at _ _ ?_); (simp; done)) | ((with_reducible refine Blk4.new_at _ _ ?_); (simp; done)) | (with_reducible refine Blk2.drew ?_) | (with_reducible refine Blk2.drewN ?_) | (with_reducible refine Blk2.alloc ?_ _) | (with_reducible refine Blk4.drew ?_) | (with_reducible refine Blk4.drewN ?_) | (with_reducible refine Blk4.alloc ?_ _)))
      have kb0 : Blk2 (((w.alloc (.cells #[.int .u64 (hiZ a), .int .u64 (loZ a)] 24)).alloc (.cells #[.int .u64 (hiZ b), .int .u64 (loZ b)] 24)).alloc (.cells #[.int .u64 0, .int .u64 0] 24)) (w.heap.size + 1) (hiZ b) (loZ b) := (by repeat' (first | (with_reducible assumption) | ((with_reducible refine Blk2.new_at _ _ ?_); (simp; done)) | ((with_reducible refine Blk4.new_at _ _ ?_); (simp; done)) | (with_reducible refine Blk2.drew ?_) | (with_reducible refine Blk2.drewN ?_) | (with_reducible refine Blk2.alloc ?_ _) | (with_reducible refine Blk4.drew ?_) | (with_reducible refine Blk4.drewN ?_) | (with_reducible refine Blk4.alloc ?_ _)))
      have kr0 : Blk2 (((w.alloc (.cells #[.int .u64 (hiZ a), .int .u64 (loZ a)] 24)).alloc (.cells #[.int .u64 (hiZ b), .int .u64 (loZ b)] 24)).alloc (.cells #[.int .u64 0, .int .u64 0] 24)) (w.heap.size + 1 + 1) (0) (0) := (by repeat' (first | (with_reducible assumption) | ((with_reducible refine Blk2.new_at _ _ ?_); (simp; done)) | ((with_reducible refine Blk4.new_at _ _ ?_); (simp; done)) | (with_reducible refine Blk2.drew ?_) | (with_reducible refine Blk2.drewN ?_) | (with_reducible refine Blk2.alloc ?_ _) | (with_reducible refine Blk4.drew ?_) | (with_reducible refine Blk4.drewN ?_) | (with_reducible refine Blk4.alloc ?_ _)))
      have B0 : Below w.heap.size w (((w.alloc (.cells #[.int .u64 (hiZ a), .int .u64 (loZ a)] 24)).alloc (.cells #[.int .u64 (hiZ b), .int .u64 (loZ b)] 24)).alloc (.cells #[.int .u64 0, .int .u64 0] 24)) := (by go_grown)
      have o1 : w.heap.size < w.heap.size + 1 := by omega
      have o2 : w.heap.size + 1 < w.heap.size + 1 + 1 := by omega
      generalize w.heap.size + 1 + 1 = g2 at *
      generalize w.heap.size + 1 = g1 at *
      generalize (((w.alloc (.cells #[.int .u64 (hiZ a), .int .u64 (loZ a)] 24)).alloc (.cells #[.int .u64 (hiZ b), .int .u64 (loZ b)] 24)).alloc (.cells #[.int .u64 0, .int .u64 0] 24)) = w0 at *
      have z0 := B0.size
      have ca0 := ka0.c0; have da0 := ka0.c1; have fa0 := ka0.f0; have ga0 := ka0.f1; have la0 := ka0.lt
      have cb0 := kb0.c0; have db0 := kb0.c1; have fb0 := kb0.f0; have gb0 := kb0.f1; have lb0 := kb0.lt
      have cr0 := kr0.c0; have dr0 := kr0.c1; have fr0 := kr0.f0; have gr0 := kr0.f1; have lr0 := kr0.lt
      go_wp2_with fail
      refine (times_zb HL.out.1 HL.out.2 _).mono ?_
      rintro e w1 ⟨rfl, hb1⟩
      have B1 := below_of B0 hb1
      have kr1 := kr0.keep hb1
      clear hb1 B0 z0 ka0 ca0 da0 fa0 ga0 la0 kb0 cb0 db0 fb0 gb0 lb0 kr0 cr0 dr0 fr0 gr0 lr0
      have z1 := B1.size
      have cr1 := kr1.c0; have dr1 := kr1.c1; have fr1 := kr1.f0; have gr1 := kr1.f1; have lr1 := kr1.lt
      have q := (kr1.set (hiZ (timesU a b.n)) (loZ (timesU a b.n)))
      have U0 := Lib.hid q.c0
      have U1 := Lib.hid q.c1
      clear q
      go_wp2_with fail
      have u0 := U0.out
      have u1 := U1.out
      refine bodyPost_ret (v := .tuple #[.agg #[.int .u64 (hiZ (timesU a b.n)), .int .u64 (loZ (timesU a b.n))], .int .i64 (timesE a b.n)]) (by simp [results, Tryd.results50, go_sem, u0, u1]) rfl ?_
      exact ⟨rfl, by go_grown⟩
    · have ta : (hiZ a != 0) = true := by simpa using ha
      have tb : (hiZ b != 0) = true := by simpa using hb
      have hbig := mul_big ha hb
      have HB := Lib.hid hbig
      clear ha hb hbig
      go_enter Tryd.func50, Tryd.ntmps50
      go_wp2_with fail
      go_returns
      exact ⟨we_eq' (by unfold mulU; rw [cutU_ge HB.out]; rfl) (by unfold mulU; rw [cutU_ge HB.out]; rfl) (cutE_ge HB.out).symm, by go_grown⟩

set_option maxHeartbeats 8000000 in
set_option maxRecDepth 100000 in
theorem floor_zero (n d : U) (hd : d.n = 0) (w : World) :
    Calls Tryd.prog 29 #[.agg #[.int .u64 (hiZ n), .int .u64 (loZ n), .int .u64 (hiZ d), .int .u64 (loZ d)]] w fun e w' =>
      e = .returned (.tuple #[.agg #[.int .u64 0, .int .u64 0], .int .i64 2]) ∧ Below w.heap.size w w' := by
  have he := eql_yes (x := hiZ d) (y := loZ d) (x' := 0) (y' := 0) ((zero_iff d).2 hd).1 ((zero_iff d).2 hd).2
  clear hd
  go_enter Tryd.func29, Tryd.ntmps29
  go_wp2_with fail
  go_returns
  exact ⟨rfl, by go_grown⟩
set_option maxHeartbeats 8000000 in
set_option maxRecDepth 100000 in
theorem floor_any (n d : U) (hd : d.n ≠ 0) (w : World) :
    Calls Tryd.prog 29 #[.agg #[.int .u64 (hiZ n), .int .u64 (loZ n), .int .u64 (hiZ d), .int .u64 (loZ d)]] w fun e w' =>
      e = .returned (.tuple #[.agg #[.int .u64 (hiZ (divW n d)), .int .u64 (loZ (divW n d))], .int .i64 0]) ∧ Below w.heap.size w w' := by
  have he := eql_no (x := hiZ d) (y := loZ d) (x' := 0) (y' := 0) (fun h => hd ((zero_iff d).1 h))
  have HD := Lib.hid hd
  clear hd
  go_enter Tryd.func29, Tryd.ntmps29
  go_upto_region 1 with fail
  have kf0 : Blk4 ((w.alloc (.cells #[.int .u64 (hiZ n), .int .u64 (loZ n), .int .u64 (hiZ d), .int .u64 (loZ d)] 41)).alloc (.cells #[.int .u64 0, .int .u64 0] 24)) (w.heap.size) (hiZ n) (loZ n) (hiZ d) (loZ d) := (by repeat' (first | (with_reducible assumption) | ((with_reducible refine Blk2.new_at _ _ ?_); (simp; done)) | ((with_reducible refine Blk4.new_at _ _ ?_); (simp; done)) | (with_reducible refine Blk2.drew ?_) | (with_reducible refine Blk2.drewN ?_) | (with_reducible refine Blk2.alloc ?_ _) | (with_reducible refine Blk4.drew ?_) | (with_reducible refine Blk4.drewN ?_) | (with_reducible refine Blk4.alloc ?_ _)))
  have kr0 : Blk2 ((w.alloc (.cells #[.int .u64 (hiZ n), .int .u64 (loZ n), .int .u64 (hiZ d), .int .u64 (loZ d)] 41)).alloc (.cells #[.int .u64 0, .int .u64 0] 24)) (w.heap.size + 1) (0) (0) := (by repeat' (first | (with_reducible assumption) | ((with_reducible refine Blk2.new_at _ _ ?_); (simp; done)) | ((with_reducible refine Blk4.new_at _ _ ?_); (simp; done)) | (with_reducible refine Blk2.drew ?_) | (with_reducible refine Blk2.drewN ?_) | (with_reducible refine Blk2.alloc ?_ _) | (with_reducible refine Blk4.drew ?_) | (with_reducible refine Blk4.drewN ?_) | (with_reducible refine Blk4.alloc ?_ _)))
  have B0 : Below w.heap.size w ((w.alloc (.cells #[.int .u64 (hiZ n), .int .u64 (loZ n), .int .u64 (hiZ d), .int .u64 (loZ d)] 41)).alloc (.cells #[.int .u64 0, .int .u64 0] 24)) := (by go_grown)
  have o1 : w.heap.size < w.heap.size + 1 := by omega
  generalize w.heap.size + 1 = g1 at *
  generalize ((w.alloc (.cells #[.int .u64 (hiZ n), .int .u64 (loZ n), .int .u64 (hiZ d), .int .u64 (loZ d)] 41)).alloc (.cells #[.int .u64 0, .int .u64 0] 24)) = w0 at *
  have z0 := B0.size
  have cf0 := kf0.c0; have df0 := kf0.c1; have ef0 := kf0.c2; have hf0 := kf0.c3; have ff0 := kf0.f 0; have gf0 := kf0.f 1; have if0 := kf0.f 2; have jf0 := kf0.f 3; have lf0 := kf0.lt
  have cr0 := kr0.c0; have dr0 := kr0.c1; have fr0 := kr0.f0; have gr0 := kr0.f1; have lr0 := kr0.lt
  go_wp2_with fail
  refine (divide_any n d HD.out _).mono ?_
  rintro e w1 ⟨rfl, hb1⟩
  have B1 : Below w.heap.size w w1 := (by refine below_of ?_ hb1; go_grown)
  have kf1 : Blk4 w1 (w.heap.size) (hiZ n) (loZ n) (hiZ d) (loZ d) := (by refine Blk4.keep ?_ hb1; repeat' (first | (with_reducible assumption) | ((with_reducible refine Blk2.new_at _ _ ?_); (simp; done)) | ((with_reducible refine Blk4.new_at _ _ ?_); (simp; done)) | (with_reducible refine Blk2.drew ?_) | (with_reducible refine Blk2.drewN ?_) | (with_reducible refine Blk2.alloc ?_ _) | (with_reducible refine Blk4.drew ?_) | (with_reducible refine Blk4.drewN ?_) | (with_reducible refine Blk4.alloc ?_ _)))
  have kr1 : Blk2 w1 (g1) (0) (0) := (by refine Blk2.keep ?_ hb1; repeat' (first | (with_reducible assumption) | ((with_reducible refine Blk2.new_at _ _ ?_); (simp; done)) | ((with_reducible refine Blk4.new_at _ _ ?_); (simp; done)) | (with_reducible refine Blk2.drew ?_) | (with_reducible refine Blk2.drewN ?_) | (with_reducible refine Blk2.alloc ?_ _) | (with_reducible refine Blk4.drew ?_) | (with_reducible refine Blk4.drewN ?_) | (with_reducible refine Blk4.alloc ?_ _)))
  clear hb1 B0 z0 kf0 cf0 df0 ef0 hf0 ff0 gf0 if0 jf0 lf0 kr0 cr0 dr0 fr0 gr0 lr0
  have z1 := B1.size
  have cf1 := kf1.c0; have df1 := kf1.c1; have ef1 := kf1.c2; have hf1 := kf1.c3; have ff1 := kf1.f 0; have gf1 := kf1.f 1; have if1 := kf1.f 2; have jf1 := kf1.f 3; have lf1 := kf1.lt
  have cr1 := kr1.c0; have dr1 := kr1.c1; have fr1 := kr1.f0; have gr1 := kr1.f1; have lr1 := kr1.lt
  have q := (((kr1.set (hiZ (divW n d)) (loZ (divW n d))).alloc (.cells #[.int .u64 (hiZ (divW n d)), .int .u64 (loZ (divW n d))] 24)).alloc (.cells #[.int .u64 (hiZ (modW n d)), .int .u64 (loZ (modW n d))] 24))
  have U0 := Lib.hid q.c0
  have U1 := Lib.hid q.c1
  clear q
  go_wp2_with fail
  have u0 := U0.out
  have u1 := U1.out
  refine bodyPost_ret (v := .tuple #[.agg #[.int .u64 (hiZ (divW n d)), .int .u64 (loZ (divW n d))], .int .i64 (0)]) (by simp [results, Tryd.results29, go_sem, u0, u1]) rfl ?_
  exact ⟨rfl, by go_grown⟩

def lessFE (a b c d : U) : Int := if redB a b = true ∧ redB c d = true then (if a.n * d.n < 340282366920938463463374607431768211456 ∧ c.n * b.n < 340282366920938463463374607431768211456 then 0 else 1) else 2
def lessFB (a b c d : U) : Bool := decide (lessFE a b c d = 0 ∧ a.n * d.n < c.n * b.n)
theorem be_eq {p q : Bool} {e f : Int} (h1 : p = q) (h2 : e = f) : Ending.returned (.tuple #[.bool p, .int .i64 e]) = Ending.returned (.tuple #[.bool q, .int .i64 f]) := by rw [h1, h2]
theorem check_no {n d : U} (h : redB n d = false) : checkE n d = 2 := by unfold checkE; rw [if_neg (by rw [h]; simp)]
theorem check_yes {n d : U} (h : redB n d = true) : checkE n d = 0 := by unfold checkE; rw [if_pos h]
theorem lessF_bad {a b c d : U} (h : redB a b = false ∨ redB c d = false) : lessFB a b c d = false ∧ lessFE a b c d = 2 := by
  have e : lessFE a b c d = 2 := by unfold lessFE; rw [if_neg (by rcases h with h | h <;> rw [h] <;> simp)]
  exact ⟨by unfold lessFB; rw [e]; simp, e⟩
theorem lessF_over {a b c d : U} (h1 : redB a b = true) (h2 : redB c d = true) (h : ¬ (a.n * d.n < 340282366920938463463374607431768211456 ∧ c.n * b.n < 340282366920938463463374607431768211456)) : lessFB a b c d = false ∧ lessFE a b c d = 1 := by
  have e : lessFE a b c d = 1 := by unfold lessFE; rw [if_pos ⟨h1, h2⟩, if_neg h]
  exact ⟨by unfold lessFB; rw [e]; simp, e⟩
theorem lessF_ok {a b c d : U} (h1 : redB a b = true) (h2 : redB c d = true) (h3 : a.n * d.n < 340282366920938463463374607431768211456) (h4 : c.n * b.n < 340282366920938463463374607431768211456) :
    lessB (mulU a d) (mulU c b) = lessFB a b c d ∧ lessFE a b c d = 0 := by
  have e : lessFE a b c d = 0 := by unfold lessFE; rw [if_pos ⟨h1, h2⟩, if_pos ⟨h3, h4⟩]
  refine ⟨?_, e⟩
  unfold lessB lessFB mulU
  rw [cutU_n h3, cutU_n h4, e]
  simp
set_option maxHeartbeats 8000000 in
set_option maxRecDepth 100000 in
theorem rless_any (a b c d : U) (w : World) :
    Calls Tryd.prog 38 #[.agg #[.int .u64 (hiZ a), .int .u64 (loZ a), .int .u64 (hiZ b), .int .u64 (loZ b)], .agg #[.int .u64 (hiZ c), .int .u64 (loZ c), .int .u64 (hiZ d), .int .u64 (loZ d)]] w fun e w' =>
      e = .returned (.tuple #[.bool (lessFB a b c d), .int .i64 (lessFE a b c d)]) ∧ Below w.heap.size w w' := by
  by_cases h1 : redB a b = true
  · have t1 : (checkE a b != 0) = false := by rw [check_yes h1]; rfl
    by_cases h2 : redB c d = true
    · have t2 : (checkE c d != 0) = false := by rw [check_yes h2]; rfl
      by_cases h3 : a.n * d.n < 340282366920938463463374607431768211456
      · have t3 : (mulE a d != 0) = false := by rw [show mulE a d = 0 from cutE_lt h3]; rfl
        by_cases h4 : c.n * b.n < 340282366920938463463374607431768211456
        · have t4 : (mulE c b != 0) = false := by rw [show mulE c b = 0 from cutE_lt h4]; rfl
          have HV := Lib.hid (lessF_ok h1 h2 h3 h4)
          clear h1 h2 h3 h4
          go_enter Tryd.func38, Tryd.ntmps38
          go_upto_region 1 with fail
          have kx0 : Blk4 ((w.alloc (.cells #[.int .u64 (hiZ a), .int .u64 (loZ a), .int .u64 (hiZ b), .int .u64 (loZ b)] 41)).alloc (.cells #[.int .u64 (hiZ c), .int .u64 (loZ c), .int .u64 (hiZ d), .int .u64 (loZ d)] 41)) (w.heap.size) (hiZ a) (loZ a) (hiZ b) (loZ b) := (by repeat' (first | (with_reducible assumption) | ((with_reducible refine Blk2.new_at _ _ ?_); (simp; done)) | ((with_reducible refine Blk4.new_at _ _ ?_); (simp; done)) | (with_reducible refine Blk2.drew ?_) | (with_reducible refine Blk2.drewN ?_) | (with_reducible refine Blk2.alloc ?_ _) | (with_reducible refine Blk4.drew ?_) | (with_reducible refine Blk4.drewN ?_) | (with_reducible refine Blk4.alloc ?_ _)))
          have ky0 : Blk4 ((w.alloc (.cells #[.int .u64 (hiZ a), .int .u64 (loZ a), .int .u64 (hiZ b), .int .u64 (loZ b)] 41)).alloc (.cells #[.int .u64 (hiZ c), .int .u64 (loZ c), .int .u64 (hiZ d), .int .u64 (loZ d)] 41)) (w.heap.size + 1) (hiZ c) (loZ c) (hiZ d) (loZ d) := (by repeat' (first | (with_reducible assumption) | ((with_reducible refine Blk2.new_at _ _ ?_); (simp; done)) | ((with_reducible refine Blk4.new_at _ _ ?_); (simp; done)) | (with_reducible refine Blk2.drew ?_) | (with_reducible refine Blk2.drewN ?_) | (with_reducible refine Blk2.alloc ?_ _) | (with_reducible refine Blk4.drew ?_) | (with_reducible refine Blk4.drewN ?_) | (with_reducible refine Blk4.alloc ?_ _)))
          have B0 : Below w.heap.size w ((w.alloc (.cells #[.int .u64 (hiZ a), .int .u64 (loZ a), .int .u64 (hiZ b), .int .u64 (loZ b)] 41)).alloc (.cells #[.int .u64 (hiZ c), .int .u64 (loZ c), .int .u64 (hiZ d), .int .u64 (loZ d)] 41)) := (by go_grown)
          have o1 : w.heap.size < w.heap.size + 1 := by omega
          generalize w.heap.size + 1 = g1 at *
          generalize ((w.alloc (.cells #[.int .u64 (hiZ a), .int .u64 (loZ a), .int .u64 (hiZ b), .int .u64 (loZ b)] 41)).alloc (.cells #[.int .u64 (hiZ c), .int .u64 (loZ c), .int .u64 (hiZ d), .int .u64 (loZ d)] 41)) = w0 at *
          have z0 := B0.size
          have cx0 := kx0.c0; have dx0 := kx0.c1; have ex0 := kx0.c2; have hx0 := kx0.c3; have fx0 := kx0.f 0; have gx0 := kx0.f 1; have ix0 := kx0.f 2; have jx0 := kx0.f 3; have lx0 := kx0.lt
          have cy0 := ky0.c0; have dy0 := ky0.c1; have ey0 := ky0.c2; have hy0 := ky0.c3; have fy0 := ky0.f 0; have gy0 := ky0.f 1; have iy0 := ky0.f 2; have jy0 := ky0.f 3; have ly0 := ky0.lt
          go_wp2_with fail
          refine (check_any a b _).mono ?_
          rintro e w1 ⟨rfl, hb1⟩
          have B1 : Below w.heap.size w w1 := (by refine below_of ?_ hb1; go_grown)
          have kx1 : Blk4 w1 (w.heap.size) (hiZ a) (loZ a) (hiZ b) (loZ b) := (by refine Blk4.keep ?_ hb1; repeat' (first | (with_reducible assumption) | ((with_reducible refine Blk2.new_at _ _ ?_); (simp; done)) | ((with_reducible refine Blk4.new_at _ _ ?_); (simp; done)) | (with_reducible refine Blk2.drew ?_) | (with_reducible refine Blk2.drewN ?_) | (with_reducible refine Blk2.alloc ?_ _) | (with_reducible refine Blk4.drew ?_) | (with_reducible refine Blk4.drewN ?_) | (with_reducible refine Blk4.alloc ?_ _)))
          have ky1 : Blk4 w1 (g1) (hiZ c) (loZ c) (hiZ d) (loZ d) := (by refine Blk4.keep ?_ hb1; repeat' (first | (with_reducible assumption) | ((with_reducible refine Blk2.new_at _ _ ?_); (simp; done)) | ((with_reducible refine Blk4.new_at _ _ ?_); (simp; done)) | (with_reducible refine Blk2.drew ?_) | (with_reducible refine Blk2.drewN ?_) | (with_reducible refine Blk2.alloc ?_ _) | (with_reducible refine Blk4.drew ?_) | (with_reducible refine Blk4.drewN ?_) | (with_reducible refine Blk4.alloc ?_ _)))
          clear hb1 B0 z0 kx0 cx0 dx0 ex0 hx0 fx0 gx0 ix0 jx0 lx0 ky0 cy0 dy0 ey0 hy0 fy0 gy0 iy0 jy0 ly0
          have z1 := B1.size
          have cx1 := kx1.c0; have dx1 := kx1.c1; have ex1 := kx1.c2; have hx1 := kx1.c3; have fx1 := kx1.f 0; have gx1 := kx1.f 1; have ix1 := kx1.f 2; have jx1 := kx1.f 3; have lx1 := kx1.lt
          have cy1 := ky1.c0; have dy1 := ky1.c1; have ey1 := ky1.c2; have hy1 := ky1.c3; have fy1 := ky1.f 0; have gy1 := ky1.f 1; have iy1 := ky1.f 2; have jy1 := ky1.f 3; have ly1 := ky1.lt
          go_wp2_with fail
          refine (check_any c d _).mono ?_
          rintro e w2 ⟨rfl, hb2⟩
          have B2 : Below w.heap.size w w2 := (by refine below_of ?_ hb2; go_grown)
          have kx2 : Blk4 w2 (w.heap.size) (hiZ a) (loZ a) (hiZ b) (loZ b) := (by refine Blk4.keep ?_ hb2; repeat' (first | (with_reducible assumption) | ((with_reducible refine Blk2.new_at _ _ ?_); (simp; done)) | ((with_reducible refine Blk4.new_at _ _ ?_); (simp; done)) | (with_reducible refine Blk2.drew ?_) | (with_reducible refine Blk2.drewN ?_) | (with_reducible refine Blk2.alloc ?_ _) | (with_reducible refine Blk4.drew ?_) | (with_reducible refine Blk4.drewN ?_) | (with_reducible refine Blk4.alloc ?_ _)))
          have ky2 : Blk4 w2 (g1) (hiZ c) (loZ c) (hiZ d) (loZ d) := (by refine Blk4.keep ?_ hb2; repeat' (first | (with_reducible assumption) | ((with_reducible refine Blk2.new_at _ _ ?_); (simp; done)) | ((with_reducible refine Blk4.new_at _ _ ?_); (simp; done)) | (with_reducible refine Blk2.drew ?_) | (with_reducible refine Blk2.drewN ?_) | (with_reducible refine Blk2.alloc ?_ _) | (with_reducible refine Blk4.drew ?_) | (with_reducible refine Blk4.drewN ?_) | (with_reducible refine Blk4.alloc ?_ _)))
          clear hb2 B1 z1 kx1 cx1 dx1 ex1 hx1 fx1 gx1 ix1 jx1 lx1 ky1 cy1 dy1 ey1 hy1 fy1 gy1 iy1 jy1 ly1
          have z2 := B2.size
          have cx2 := kx2.c0; have dx2 := kx2.c1; have ex2 := kx2.c2; have hx2 := kx2.c3; have fx2 := kx2.f 0; have gx2 := kx2.f 1; have ix2 := kx2.f 2; have jx2 := kx2.f 3; have lx2 := kx2.lt
          have cy2 := ky2.c0; have dy2 := ky2.c1; have ey2 := ky2.c2; have hy2 := ky2.c3; have fy2 := ky2.f 0; have gy2 := ky2.f 1; have iy2 := ky2.f 2; have jy2 := ky2.f 3; have ly2 := ky2.lt
          go_wp2_with fail
          refine (rtimes_any a d _).mono ?_
          rintro e w3 ⟨rfl, hb3⟩
          have B3 : Below w.heap.size w w3 := (by refine below_of ?_ hb3; go_grown)
          have kx3 : Blk4 w3 (w.heap.size) (hiZ a) (loZ a) (hiZ b) (loZ b) := (by refine Blk4.keep ?_ hb3; repeat' (first | (with_reducible assumption) | ((with_reducible refine Blk2.new_at _ _ ?_); (simp; done)) | ((with_reducible refine Blk4.new_at _ _ ?_); (simp; done)) | (with_reducible refine Blk2.drew ?_) | (with_reducible refine Blk2.drewN ?_) | (with_reducible refine Blk2.alloc ?_ _) | (with_reducible refine Blk4.drew ?_) | (with_reducible refine Blk4.drewN ?_) | (with_reducible refine Blk4.alloc ?_ _)))
          have ky3 : Blk4 w3 (g1) (hiZ c) (loZ c) (hiZ d) (loZ d) := (by refine Blk4.keep ?_ hb3; repeat' (first | (with_reducible assumption) | ((with_reducible refine Blk2.new_at _ _ ?_); (simp; done)) | ((with_reducible refine Blk4.new_at _ _ ?_); (simp; done)) | (with_reducible refine Blk2.drew ?_) | (with_reducible refine Blk2.drewN ?_) | (with_reducible refine Blk2.alloc ?_ _) | (with_reducible refine Blk4.drew ?_) | (with_reducible refine Blk4.drewN ?_) | (with_reducible refine Blk4.alloc ?_ _)))
          clear hb3 B2 z2 kx2 cx2 dx2 ex2 hx2 fx2 gx2 ix2 jx2 lx2 ky2 cy2 dy2 ey2 hy2 fy2 gy2 iy2 jy2 ly2
          have z3 := B3.size
          have cx3 := kx3.c0; have dx3 := kx3.c1; have ex3 := kx3.c2; have hx3 := kx3.c3; have fx3 := kx3.f 0; have gx3 := kx3.f 1; have ix3 := kx3.f 2; have jx3 := kx3.f 3; have lx3 := kx3.lt
          have cy3 := ky3.c0; have dy3 := ky3.c1; have ey3 := ky3.c2; have hy3 := ky3.c3; have fy3 := ky3.f 0; have gy3 := ky3.f 1; have iy3 := ky3.f 2; have jy3 := ky3.f 3; have ly3 := ky3.lt
          go_wp2_with fail
          refine (rtimes_any c b _).mono ?_
          rintro e w4 ⟨rfl, hb4⟩
          have B4 : Below w.heap.size w w4 := (by refine below_of ?_ hb4; go_grown)
          have kx4 : Blk4 w4 (w.heap.size) (hiZ a) (loZ a) (hiZ b) (loZ b) := (by refine Blk4.keep ?_ hb4; repeat' (first | (with_reducible assumption) | ((with_reducible refine Blk2.new_at _ _ ?_); (simp; done)) | ((with_reducible refine Blk4.new_at _ _ ?_); (simp; done)) | (with_reducible refine Blk2.drew ?_) | (with_reducible refine Blk2.drewN ?_) | (with_reducible refine Blk2.alloc ?_ _) | (with_reducible refine Blk4.drew ?_) | (with_reducible refine Blk4.drewN ?_) | (with_reducible refine Blk4.alloc ?_ _)))
          have ky4 : Blk4 w4 (g1) (hiZ c) (loZ c) (hiZ d) (loZ d) := (by refine Blk4.keep ?_ hb4; repeat' (first | (with_reducible assumption) | ((with_reducible refine Blk2.new_at _ _ ?_); (simp; done)) | ((with_reducible refine Blk4.new_at _ _ ?_); (simp; done)) | (with_reducible refine Blk2.drew ?_) | (with_reducible refine Blk2.drewN ?_) | (with_reducible refine Blk2.alloc ?_ _) | (with_reducible refine Blk4.drew ?_) | (with_reducible refine Blk4.drewN ?_) | (with_reducible refine Blk4.alloc ?_ _)))
          have kp4 : Blk2 w4 (w3.heap.size) (hiZ (mulU a d)) (loZ (mulU a d)) := (by refine Blk2.keep ?_ hb4; repeat' (first | (with_reducible assumption) | ((with_reducible refine Blk2.new_at _ _ ?_); (simp; done)) | ((with_reducible refine Blk4.new_at _ _ ?_); (simp; done)) | (with_reducible refine Blk2.drew ?_) | (with_reducible refine Blk2.drewN ?_) | (with_reducible refine Blk2.alloc ?_ _) | (with_reducible refine Blk4.drew ?_) | (with_reducible refine Blk4.drewN ?_) | (with_reducible refine Blk4.alloc ?_ _)))
          clear hb4 B3 z3 kx3 cx3 dx3 ex3 hx3 fx3 gx3 ix3 jx3 lx3 ky3 cy3 dy3 ey3 hy3 fy3 gy3 iy3 jy3 ly3
          have z4 := B4.size
          have cx4 := kx4.c0; have dx4 := kx4.c1; have ex4 := kx4.c2; have hx4 := kx4.c3; have fx4 := kx4.f 0; have gx4 := kx4.f 1; have ix4 := kx4.f 2; have jx4 := kx4.f 3; have lx4 := kx4.lt
          have cy4 := ky4.c0; have dy4 := ky4.c1; have ey4 := ky4.c2; have hy4 := ky4.c3; have fy4 := ky4.f 0; have gy4 := ky4.f 1; have iy4 := ky4.f 2; have jy4 := ky4.f 3; have ly4 := ky4.lt
          have cp4 := kp4.c0; have dp4 := kp4.c1; have fp4 := kp4.f0; have gp4 := kp4.f1; have lp4 := kp4.lt
          go_wp2_with fail
          refine (less_any (mulU a d) (mulU c b) _).mono ?_
          rintro e w5 ⟨rfl, hb5⟩
          have B5 : Below w.heap.size w w5 := (by refine below_of ?_ hb5; go_grown)
          have kx5 : Blk4 w5 (w.heap.size) (hiZ a) (loZ a) (hiZ b) (loZ b) := (by refine Blk4.keep ?_ hb5; repeat' (first | (with_reducible assumption) | ((with_reducible refine Blk2.new_at _ _ ?_); (simp; done)) | ((with_reducible refine Blk4.new_at _ _ ?_); (simp; done)) | (with_reducible refine Blk2.drew ?_) | (with_reducible refine Blk2.drewN ?_) | (with_reducible refine Blk2.alloc ?_ _) | (with_reducible refine Blk4.drew ?_) | (with_reducible refine Blk4.drewN ?_) | (with_reducible refine Blk4.alloc ?_ _)))
          have ky5 : Blk4 w5 (g1) (hiZ c) (loZ c) (hiZ d) (loZ d) := (by refine Blk4.keep ?_ hb5; repeat' (first | (with_reducible assumption) | ((with_reducible refine Blk2.new_at _ _ ?_); (simp; done)) | ((with_reducible refine Blk4.new_at _ _ ?_); (simp; done)) | (with_reducible refine Blk2.drew ?_) | (with_reducible refine Blk2.drewN ?_) | (with_reducible refine Blk2.alloc ?_ _) | (with_reducible refine Blk4.drew ?_) | (with_reducible refine Blk4.drewN ?_) | (with_reducible refine Blk4.alloc ?_ _)))
          have kp5 : Blk2 w5 (w3.heap.size) (hiZ (mulU a d)) (loZ (mulU a d)) := (by refine Blk2.keep ?_ hb5; repeat' (first | (with_reducible assumption) | ((with_reducible refine Blk2.new_at _ _ ?_); (simp; done)) | ((with_reducible refine Blk4.new_at _ _ ?_); (simp; done)) | (with_reducible refine Blk2.drew ?_) | (with_reducible refine Blk2.drewN ?_) | (with_reducible refine Blk2.alloc ?_ _) | (with_reducible refine Blk4.drew ?_) | (with_reducible refine Blk4.drewN ?_) | (with_reducible refine Blk4.alloc ?_ _)))
          clear hb5 B4 z4 kx4 cx4 dx4 ex4 hx4 fx4 gx4 ix4 jx4 lx4 ky4 cy4 dy4 ey4 hy4 fy4 gy4 iy4 jy4 ly4 kp4 cp4 dp4 fp4 gp4 lp4
          have z5 := B5.size
          have cx5 := kx5.c0; have dx5 := kx5.c1; have ex5 := kx5.c2; have hx5 := kx5.c3; have fx5 := kx5.f 0; have gx5 := kx5.f 1; have ix5 := kx5.f 2; have jx5 := kx5.f 3; have lx5 := kx5.lt
          have cy5 := ky5.c0; have dy5 := ky5.c1; have ey5 := ky5.c2; have hy5 := ky5.c3; have fy5 := ky5.f 0; have gy5 := ky5.f 1; have iy5 := ky5.f 2; have jy5 := ky5.f 3; have ly5 := ky5.lt
          have cp5 := kp5.c0; have dp5 := kp5.c1; have fp5 := kp5.f0; have gp5 := kp5.f1; have lp5 := kp5.lt
          go_wp2_with fail
          go_ret2
          exact ⟨be_eq HV.out.1 HV.out.2.symm, by go_grown⟩
        · have e4 : mulE c b = 1 := cutE_ge (by omega)
          have t4 : (mulE c b != 0) = true := by rw [e4]; rfl
          have HE4 := Lib.hid e4
          have HV := Lib.hid (lessF_over h1 h2 (fun h => h4 h.2))
          clear h1 h2 h3 h4 e4
          go_enter Tryd.func38, Tryd.ntmps38
          go_upto_region 1 with fail
          have kx0 : Blk4 ((w.alloc (.cells #[.int .u64 (hiZ a), .int .u64 (loZ a), .int .u64 (hiZ b), .int .u64 (loZ b)] 41)).alloc (.cells #[.int .u64 (hiZ c), .int .u64 (loZ c), .int .u64 (hiZ d), .int .u64 (loZ d)] 41)) (w.heap.size) (hiZ a) (loZ a) (hiZ b) (loZ b) := (by repeat' (first | (with_reducible assumption) | ((with_reducible refine Blk2.new_at _ _ ?_); (simp; done)) | ((with_reducible refine Blk4.new_at _ _ ?_); (simp; done)) | (with_reducible refine Blk2.drew ?_) | (with_reducible refine Blk2.drewN ?_) | (with_reducible refine Blk2.alloc ?_ _) | (with_reducible refine Blk4.drew ?_) | (with_reducible refine Blk4.drewN ?_) | (with_reducible refine Blk4.alloc ?_ _)))
          have ky0 : Blk4 ((w.alloc (.cells #[.int .u64 (hiZ a), .int .u64 (loZ a), .int .u64 (hiZ b), .int .u64 (loZ b)] 41)).alloc (.cells #[.int .u64 (hiZ c), .int .u64 (loZ c), .int .u64 (hiZ d), .int .u64 (loZ d)] 41)) (w.heap.size + 1) (hiZ c) (loZ c) (hiZ d) (loZ d) := (by repeat' (first | (with_reducible assumption) | ((with_reducible refine Blk2.new_at _ _ ?_); (simp; done)) | ((with_reducible refine Blk4.new_at _ _ ?_); (simp; done)) | (with_reducible refine Blk2.drew ?_) | (with_reducible refine Blk2.drewN ?_) | (with_reducible refine Blk2.alloc ?_ _) | (with_reducible refine Blk4.drew ?_) | (with_reducible refine Blk4.drewN ?_) | (with_reducible refine Blk4.alloc ?_ _)))
          have B0 : Below w.heap.size w ((w.alloc (.cells #[.int .u64 (hiZ a), .int .u64 (loZ a), .int .u64 (hiZ b), .int .u64 (loZ b)] 41)).alloc (.cells #[.int .u64 (hiZ c), .int .u64 (loZ c), .int .u64 (hiZ d), .int .u64 (loZ d)] 41)) := (by go_grown)
          have o1 : w.heap.size < w.heap.size + 1 := by omega
          generalize w.heap.size + 1 = g1 at *
          generalize ((w.alloc (.cells #[.int .u64 (hiZ a), .int .u64 (loZ a), .int .u64 (hiZ b), .int .u64 (loZ b)] 41)).alloc (.cells #[.int .u64 (hiZ c), .int .u64 (loZ c), .int .u64 (hiZ d), .int .u64 (loZ d)] 41)) = w0 at *
          have z0 := B0.size
          have cx0 := kx0.c0; have dx0 := kx0.c1; have ex0 := kx0.c2; have hx0 := kx0.c3; have fx0 := kx0.f 0; have gx0 := kx0.f 1; have ix0 := kx0.f 2; have jx0 := kx0.f 3; have lx0 := kx0.lt
          have cy0 := ky0.c0; have dy0 := ky0.c1; have ey0 := ky0.c2; have hy0 := ky0.c3; have fy0 := ky0.f 0; have gy0 := ky0.f 1; have iy0 := ky0.f 2; have jy0 := ky0.f 3; have ly0 := ky0.lt
          go_wp2_with fail
          refine (check_any a b _).mono ?_
          rintro e w1 ⟨rfl, hb1⟩
          have B1 : Below w.heap.size w w1 := (by refine below_of ?_ hb1; go_grown)
          have kx1 : Blk4 w1 (w.heap.size) (hiZ a) (loZ a) (hiZ b) (loZ b) := (by refine Blk4.keep ?_ hb1; repeat' (first | (with_reducible assumption) | ((with_reducible refine Blk2.new_at _ _ ?_); (simp; done)) | ((with_reducible refine Blk4.new_at _ _ ?_); (simp; done)) | (with_reducible refine Blk2.drew ?_) | (with_reducible refine Blk2.drewN ?_) | (with_reducible refine Blk2.alloc ?_ _) | (with_reducible refine Blk4.drew ?_) | (with_reducible refine Blk4.drewN ?_) | (with_reducible refine Blk4.alloc ?_ _)))
          have ky1 : Blk4 w1 (g1) (hiZ c) (loZ c) (hiZ d) (loZ d) := (by refine Blk4.keep ?_ hb1; repeat' (first | (with_reducible assumption) | ((with_reducible refine Blk2.new_at _ _ ?_); (simp; done)) | ((with_reducible refine Blk4.new_at _ _ ?_); (simp; done)) | (with_reducible refine Blk2.drew ?_) | (with_reducible refine Blk2.drewN ?_) | (with_reducible refine Blk2.alloc ?_ _) | (with_reducible refine Blk4.drew ?_) | (with_reducible refine Blk4.drewN ?_) | (with_reducible refine Blk4.alloc ?_ _)))
          clear hb1 B0 z0 kx0 cx0 dx0 ex0 hx0 fx0 gx0 ix0 jx0 lx0 ky0 cy0 dy0 ey0 hy0 fy0 gy0 iy0 jy0 ly0
          have z1 := B1.size
          have cx1 := kx1.c0; have dx1 := kx1.c1; have ex1 := kx1.c2; have hx1 := kx1.c3; have fx1 := kx1.f 0; have gx1 := kx1.f 1; have ix1 := kx1.f 2; have jx1 := kx1.f 3; have lx1 := kx1.lt
          have cy1 := ky1.c0; have dy1 := ky1.c1; have ey1 := ky1.c2; have hy1 := ky1.c3; have fy1 := ky1.f 0; have gy1 := ky1.f 1; have iy1 := ky1.f 2; have jy1 := ky1.f 3; have ly1 := ky1.lt
          go_wp2_with fail
          refine (check_any c d _).mono ?_
          rintro e w2 ⟨rfl, hb2⟩
          have B2 : Below w.heap.size w w2 := (by refine below_of ?_ hb2; go_grown)
          have kx2 : Blk4 w2 (w.heap.size) (hiZ a) (loZ a) (hiZ b) (loZ b) := (by refine Blk4.keep ?_ hb2; repeat' (first | (with_reducible assumption) | ((with_reducible refine Blk2.new_at _ _ ?_); (simp; done)) | ((with_reducible refine Blk4.new_at _ _ ?_); (simp; done)) | (with_reducible refine Blk2.drew ?_) | (with_reducible refine Blk2.drewN ?_) | (with_reducible refine Blk2.alloc ?_ _) | (with_reducible refine Blk4.drew ?_) | (with_reducible refine Blk4.drewN ?_) | (with_reducible refine Blk4.alloc ?_ _)))
          have ky2 : Blk4 w2 (g1) (hiZ c) (loZ c) (hiZ d) (loZ d) := (by refine Blk4.keep ?_ hb2; repeat' (first | (with_reducible assumption) | ((with_reducible refine Blk2.new_at _ _ ?_); (simp; done)) | ((with_reducible refine Blk4.new_at _ _ ?_); (simp; done)) | (with_reducible refine Blk2.drew ?_) | (with_reducible refine Blk2.drewN ?_) | (with_reducible refine Blk2.alloc ?_ _) | (with_reducible refine Blk4.drew ?_) | (with_reducible refine Blk4.drewN ?_) | (with_reducible refine Blk4.alloc ?_ _)))
          clear hb2 B1 z1 kx1 cx1 dx1 ex1 hx1 fx1 gx1 ix1 jx1 lx1 ky1 cy1 dy1 ey1 hy1 fy1 gy1 iy1 jy1 ly1
          have z2 := B2.size
          have cx2 := kx2.c0; have dx2 := kx2.c1; have ex2 := kx2.c2; have hx2 := kx2.c3; have fx2 := kx2.f 0; have gx2 := kx2.f 1; have ix2 := kx2.f 2; have jx2 := kx2.f 3; have lx2 := kx2.lt
          have cy2 := ky2.c0; have dy2 := ky2.c1; have ey2 := ky2.c2; have hy2 := ky2.c3; have fy2 := ky2.f 0; have gy2 := ky2.f 1; have iy2 := ky2.f 2; have jy2 := ky2.f 3; have ly2 := ky2.lt
          go_wp2_with fail
          refine (rtimes_any a d _).mono ?_
          rintro e w3 ⟨rfl, hb3⟩
          have B3 : Below w.heap.size w w3 := (by refine below_of ?_ hb3; go_grown)
          have kx3 : Blk4 w3 (w.heap.size) (hiZ a) (loZ a) (hiZ b) (loZ b) := (by refine Blk4.keep ?_ hb3; repeat' (first | (with_reducible assumption) | ((with_reducible refine Blk2.new_at _ _ ?_); (simp; done)) | ((with_reducible refine Blk4.new_at _ _ ?_); (simp; done)) | (with_reducible refine Blk2.drew ?_) | (with_reducible refine Blk2.drewN ?_) | (with_reducible refine Blk2.alloc ?_ _) | (with_reducible refine Blk4.drew ?_) | (with_reducible refine Blk4.drewN ?_) | (with_reducible refine Blk4.alloc ?_ _)))
          have ky3 : Blk4 w3 (g1) (hiZ c) (loZ c) (hiZ d) (loZ d) := (by refine Blk4.keep ?_ hb3; repeat' (first | (with_reducible assumption) | ((with_reducible refine Blk2.new_at _ _ ?_); (simp; done)) | ((with_reducible refine Blk4.new_at _ _ ?_); (simp; done)) | (with_reducible refine Blk2.drew ?_) | (with_reducible refine Blk2.drewN ?_) | (with_reducible refine Blk2.alloc ?_ _) | (with_reducible refine Blk4.drew ?_) | (with_reducible refine Blk4.drewN ?_) | (with_reducible refine Blk4.alloc ?_ _)))
          clear hb3 B2 z2 kx2 cx2 dx2 ex2 hx2 fx2 gx2 ix2 jx2 lx2 ky2 cy2 dy2 ey2 hy2 fy2 gy2 iy2 jy2 ly2
          have z3 := B3.size
          have cx3 := kx3.c0; have dx3 := kx3.c1; have ex3 := kx3.c2; have hx3 := kx3.c3; have fx3 := kx3.f 0; have gx3 := kx3.f 1; have ix3 := kx3.f 2; have jx3 := kx3.f 3; have lx3 := kx3.lt
          have cy3 := ky3.c0; have dy3 := ky3.c1; have ey3 := ky3.c2; have hy3 := ky3.c3; have fy3 := ky3.f 0; have gy3 := ky3.f 1; have iy3 := ky3.f 2; have jy3 := ky3.f 3; have ly3 := ky3.lt
          go_wp2_with fail
          refine (rtimes_any c b _).mono ?_
          rintro e w4 ⟨rfl, hb4⟩
          have B4 : Below w.heap.size w w4 := (by refine below_of ?_ hb4; go_grown)
          have kx4 : Blk4 w4 (w.heap.size) (hiZ a) (loZ a) (hiZ b) (loZ b) := (by refine Blk4.keep ?_ hb4; repeat' (first | (with_reducible assumption) | ((with_reducible refine Blk2.new_at _ _ ?_); (simp; done)) | ((with_reducible refine Blk4.new_at _ _ ?_); (simp; done)) | (with_reducible refine Blk2.drew ?_) | (with_reducible refine Blk2.drewN ?_) | (with_reducible refine Blk2.alloc ?_ _) | (with_reducible refine Blk4.drew ?_) | (with_reducible refine Blk4.drewN ?_) | (with_reducible refine Blk4.alloc ?_ _)))
          have ky4 : Blk4 w4 (g1) (hiZ c) (loZ c) (hiZ d) (loZ d) := (by refine Blk4.keep ?_ hb4; repeat' (first | (with_reducible assumption) | ((with_reducible refine Blk2.new_at _ _ ?_); (simp; done)) | ((with_reducible refine Blk4.new_at _ _ ?_); (simp; done)) | (with_reducible refine Blk2.drew ?_) | (with_reducible refine Blk2.drewN ?_) | (with_reducible refine Blk2.alloc ?_ _) | (with_reducible refine Blk4.drew ?_) | (with_reducible refine Blk4.drewN ?_) | (with_reducible refine Blk4.alloc ?_ _)))
          have kp4 : Blk2 w4 (w3.heap.size) (hiZ (mulU a d)) (loZ (mulU a d)) := (by refine Blk2.keep ?_ hb4; repeat' (first | (with_reducible assumption) | ((with_reducible refine Blk2.new_at _ _ ?_); (simp; done)) | ((with_reducible refine Blk4.new_at _ _ ?_); (simp; done)) | (with_reducible refine Blk2.drew ?_) | (with_reducible refine Blk2.drewN ?_) | (with_reducible refine Blk2.alloc ?_ _) | (with_reducible refine Blk4.drew ?_) | (with_reducible refine Blk4.drewN ?_) | (with_reducible refine Blk4.alloc ?_ _)))
          clear hb4 B3 z3 kx3 cx3 dx3 ex3 hx3 fx3 gx3 ix3 jx3 lx3 ky3 cy3 dy3 ey3 hy3 fy3 gy3 iy3 jy3 ly3
          have z4 := B4.size
          have cx4 := kx4.c0; have dx4 := kx4.c1; have ex4 := kx4.c2; have hx4 := kx4.c3; have fx4 := kx4.f 0; have gx4 := kx4.f 1; have ix4 := kx4.f 2; have jx4 := kx4.f 3; have lx4 := kx4.lt
          have cy4 := ky4.c0; have dy4 := ky4.c1; have ey4 := ky4.c2; have hy4 := ky4.c3; have fy4 := ky4.f 0; have gy4 := ky4.f 1; have iy4 := ky4.f 2; have jy4 := ky4.f 3; have ly4 := ky4.lt
          have cp4 := kp4.c0; have dp4 := kp4.c1; have fp4 := kp4.f0; have gp4 := kp4.f1; have lp4 := kp4.lt
          go_wp2_with fail
          go_ret2
          exact ⟨be_eq HV.out.1.symm (HE4.out.trans HV.out.2.symm), by go_grown⟩
      · have e3 : mulE a d = 1 := cutE_ge (by omega)
        have t3 : (mulE a d != 0) = true := by rw [e3]; rfl
        have HE3 := Lib.hid e3
        have HV := Lib.hid (lessF_over h1 h2 (fun h => h3 h.1))
        clear h1 h2 h3 e3
        go_enter Tryd.func38, Tryd.ntmps38
        go_upto_region 1 with fail
        have kx0 : Blk4 ((w.alloc (.cells #[.int .u64 (hiZ a), .int .u64 (loZ a), .int .u64 (hiZ b), .int .u64 (loZ b)] 41)).alloc (.cells #[.int .u64 (hiZ c), .int .u64 (loZ c), .int .u64 (hiZ d), .int .u64 (loZ d)] 41)) (w.heap.size) (hiZ a) (loZ a) (hiZ b) (loZ b) := (by repeat' (first | (with_reducible assumption) | ((with_reducible refine Blk2.new_at _ _ ?_); (simp; done)) | ((with_reducible refine Blk4.new_at _ _ ?_); (simp; done)) | (with_reducible refine Blk2.drew ?_) | (with_reducible refine Blk2.drewN ?_) | (with_reducible refine Blk2.alloc ?_ _) | (with_reducible refine Blk4.drew ?_) | (with_reducible refine Blk4.drewN ?_) | (with_reducible refine Blk4.alloc ?_ _)))
        have ky0 : Blk4 ((w.alloc (.cells #[.int .u64 (hiZ a), .int .u64 (loZ a), .int .u64 (hiZ b), .int .u64 (loZ b)] 41)).alloc (.cells #[.int .u64 (hiZ c), .int .u64 (loZ c), .int .u64 (hiZ d), .int .u64 (loZ d)] 41)) (w.heap.size + 1) (hiZ c) (loZ c) (hiZ d) (loZ d) := (by repeat' (first | (with_reducible assumption) | ((with_reducible refine Blk2.new_at _ _ ?_); (simp; done)) | ((with_reducible refine Blk4.new_at _ _ ?_); (simp; done)) | (with_reducible refine Blk2.drew ?_) | (with_reducible refine Blk2.drewN ?_) | (with_reducible refine Blk2.alloc ?_ _) | (with_reducible refine Blk4.drew ?_) | (with_reducible refine Blk4.drewN ?_) | (with_reducible refine Blk4.alloc ?_ _)))
        have B0 : Below w.heap.size w ((w.alloc (.cells #[.int .u64 (hiZ a), .int .u64 (loZ a), .int .u64 (hiZ b), .int .u64 (loZ b)] 41)).alloc (.cells #[.int .u64 (hiZ c), .int .u64 (loZ c), .int .u64 (hiZ d), .int .u64 (loZ d)] 41)) := (by go_grown)
        have o1 : w.heap.size < w.heap.size + 1 := by omega
        generalize w.heap.size + 1 = g1 at *
        generalize ((w.alloc (.cells #[.int .u64 (hiZ a), .int .u64 (loZ a), .int .u64 (hiZ b), .int .u64 (loZ b)] 41)).alloc (.cells #[.int .u64 (hiZ c), .int .u64 (loZ c), .int .u64 (hiZ d), .int .u64 (loZ d)] 41)) = w0 at *
        have z0 := B0.size
        have cx0 := kx0.c0; have dx0 := kx0.c1; have ex0 := kx0.c2; have hx0 := kx0.c3; have fx0 := kx0.f 0; have gx0 := kx0.f 1; have ix0 := kx0.f 2; have jx0 := kx0.f 3; have lx0 := kx0.lt
        have cy0 := ky0.c0; have dy0 := ky0.c1; have ey0 := ky0.c2; have hy0 := ky0.c3; have fy0 := ky0.f 0; have gy0 := ky0.f 1; have iy0 := ky0.f 2; have jy0 := ky0.f 3; have ly0 := ky0.lt
        go_wp2_with fail
        refine (check_any a b _).mono ?_
        rintro e w1 ⟨rfl, hb1⟩
        have B1 : Below w.heap.size w w1 := (by refine below_of ?_ hb1; go_grown)
        have kx1 : Blk4 w1 (w.heap.size) (hiZ a) (loZ a) (hiZ b) (loZ b) := (by refine Blk4.keep ?_ hb1; repeat' (first | (with_reducible assumption) | ((with_reducible refine Blk2.new_at _ _ ?_); (simp; done)) | ((with_reducible refine Blk4.new_at _ _ ?_); (simp; done)) | (with_reducible refine Blk2.drew ?_) | (with_reducible refine Blk2.drewN ?_) | (with_reducible refine Blk2.alloc ?_ _) | (with_reducible refine Blk4.drew ?_) | (with_reducible refine Blk4.drewN ?_) | (with_reducible refine Blk4.alloc ?_ _)))
        have ky1 : Blk4 w1 (g1) (hiZ c) (loZ c) (hiZ d) (loZ d) := (by refine Blk4.keep ?_ hb1; repeat' (first | (with_reducible assumption) | ((with_reducible refine Blk2.new_at _ _ ?_); (simp; done)) | ((with_reducible refine Blk4.new_at _ _ ?_); (simp; done)) | (with_reducible refine Blk2.drew ?_) | (with_reducible refine Blk2.drewN ?_) | (with_reducible refine Blk2.alloc ?_ _) | (with_reducible refine Blk4.drew ?_) | (with_reducible refine Blk4.drewN ?_) | (with_reducible refine Blk4.alloc ?_ _)))
        clear hb1 B0 z0 kx0 cx0 dx0 ex0 hx0 fx0 gx0 ix0 jx0 lx0 ky0 cy0 dy0 ey0 hy0 fy0 gy0 iy0 jy0 ly0
        have z1 := B1.size
        have cx1 := kx1.c0; have dx1 := kx1.c1; have ex1 := kx1.c2; have hx1 := kx1.c3; have fx1 := kx1.f 0; have gx1 := kx1.f 1; have ix1 := kx1.f 2; have jx1 := kx1.f 3; have lx1 := kx1.lt
        have cy1 := ky1.c0; have dy1 := ky1.c1; have ey1 := ky1.c2; have hy1 := ky1.c3; have fy1 := ky1.f 0; have gy1 := ky1.f 1; have iy1 := ky1.f 2; have jy1 := ky1.f 3; have ly1 := ky1.lt
        go_wp2_with fail
        refine (check_any c d _).mono ?_
        rintro e w2 ⟨rfl, hb2⟩
        have B2 : Below w.heap.size w w2 := (by refine below_of ?_ hb2; go_grown)
        have kx2 : Blk4 w2 (w.heap.size) (hiZ a) (loZ a) (hiZ b) (loZ b) := (by refine Blk4.keep ?_ hb2; repeat' (first | (with_reducible assumption) | ((with_reducible refine Blk2.new_at _ _ ?_); (simp; done)) | ((with_reducible refine Blk4.new_at _ _ ?_); (simp; done)) | (with_reducible refine Blk2.drew ?_) | (with_reducible refine Blk2.drewN ?_) | (with_reducible refine Blk2.alloc ?_ _) | (with_reducible refine Blk4.drew ?_) | (with_reducible refine Blk4.drewN ?_) | (with_reducible refine Blk4.alloc ?_ _)))
        have ky2 : Blk4 w2 (g1) (hiZ c) (loZ c) (hiZ d) (loZ d) := (by refine Blk4.keep ?_ hb2; repeat' (first | (with_reducible assumption) | ((with_reducible refine Blk2.new_at _ _ ?_); (simp; done)) | ((with_reducible refine Blk4.new_at _ _ ?_); (simp; done)) | (with_reducible refine Blk2.drew ?_) | (with_reducible refine Blk2.drewN ?_) | (with_reducible refine Blk2.alloc ?_ _) | (with_reducible refine Blk4.drew ?_) | (with_reducible refine Blk4.drewN ?_) | (with_reducible refine Blk4.alloc ?_ _)))
        clear hb2 B1 z1 kx1 cx1 dx1 ex1 hx1 fx1 gx1 ix1 jx1 lx1 ky1 cy1 dy1 ey1 hy1 fy1 gy1 iy1 jy1 ly1
        have z2 := B2.size
        have cx2 := kx2.c0; have dx2 := kx2.c1; have ex2 := kx2.c2; have hx2 := kx2.c3; have fx2 := kx2.f 0; have gx2 := kx2.f 1; have ix2 := kx2.f 2; have jx2 := kx2.f 3; have lx2 := kx2.lt
        have cy2 := ky2.c0; have dy2 := ky2.c1; have ey2 := ky2.c2; have hy2 := ky2.c3; have fy2 := ky2.f 0; have gy2 := ky2.f 1; have iy2 := ky2.f 2; have jy2 := ky2.f 3; have ly2 := ky2.lt
        go_wp2_with fail
        refine (rtimes_any a d _).mono ?_
        rintro e w3 ⟨rfl, hb3⟩
        have B3 : Below w.heap.size w w3 := (by refine below_of ?_ hb3; go_grown)
        have kx3 : Blk4 w3 (w.heap.size) (hiZ a) (loZ a) (hiZ b) (loZ b) := (by refine Blk4.keep ?_ hb3; repeat' (first | (with_reducible assumption) | ((with_reducible refine Blk2.new_at _ _ ?_); (simp; done)) | ((with_reducible refine Blk4.new_at _ _ ?_); (simp; done)) | (with_reducible refine Blk2.drew ?_) | (with_reducible refine Blk2.drewN ?_) | (with_reducible refine Blk2.alloc ?_ _) | (with_reducible refine Blk4.drew ?_) | (with_reducible refine Blk4.drewN ?_) | (with_reducible refine Blk4.alloc ?_ _)))
        have ky3 : Blk4 w3 (g1) (hiZ c) (loZ c) (hiZ d) (loZ d) := (by refine Blk4.keep ?_ hb3; repeat' (first | (with_reducible assumption) | ((with_reducible refine Blk2.new_at _ _ ?_); (simp; done)) | ((with_reducible refine Blk4.new_at _ _ ?_); (simp; done)) | (with_reducible refine Blk2.drew ?_) | (with_reducible refine Blk2.drewN ?_) | (with_reducible refine Blk2.alloc ?_ _) | (with_reducible refine Blk4.drew ?_) | (with_reducible refine Blk4.drewN ?_) | (with_reducible refine Blk4.alloc ?_ _)))
        clear hb3 B2 z2 kx2 cx2 dx2 ex2 hx2 fx2 gx2 ix2 jx2 lx2 ky2 cy2 dy2 ey2 hy2 fy2 gy2 iy2 jy2 ly2
        have z3 := B3.size
        have cx3 := kx3.c0; have dx3 := kx3.c1; have ex3 := kx3.c2; have hx3 := kx3.c3; have fx3 := kx3.f 0; have gx3 := kx3.f 1; have ix3 := kx3.f 2; have jx3 := kx3.f 3; have lx3 := kx3.lt
        have cy3 := ky3.c0; have dy3 := ky3.c1; have ey3 := ky3.c2; have hy3 := ky3.c3; have fy3 := ky3.f 0; have gy3 := ky3.f 1; have iy3 := ky3.f 2; have jy3 := ky3.f 3; have ly3 := ky3.lt
        go_wp2_with fail
        go_ret2
        exact ⟨be_eq HV.out.1.symm (HE3.out.trans HV.out.2.symm), by go_grown⟩
    · have h2' : redB c d = false := by simpa using h2
      have t2 : (checkE c d != 0) = true := by rw [check_no h2']; rfl
      have HV := Lib.hid (lessF_bad (a := a) (b := b) (Or.inr h2'))
      clear h1 h2 h2'
      go_enter Tryd.func38, Tryd.ntmps38
      go_upto_region 1 with fail
      have kx0 : Blk4 ((w.alloc (.cells #[.int .u64 (hiZ a), .int .u64 (loZ a), .int .u64 (hiZ b), .int .u64 (loZ b)] 41)).alloc (.cells #[.int .u64 (hiZ c), .int .u64 (loZ c), .int .u64 (hiZ d), .int .u64 (loZ d)] 41)) (w.heap.size) (hiZ a) (loZ a) (hiZ b) (loZ b) := (by repeat' (first | (with_reducible assumption) | ((with_reducible refine Blk2.new_at _ _ ?_); (simp; done)) | ((with_reducible refine Blk4.new_at _ _ ?_); (simp; done)) | (with_reducible refine Blk2.drew ?_) | (with_reducible refine Blk2.drewN ?_) | (with_reducible refine Blk2.alloc ?_ _) | (with_reducible refine Blk4.drew ?_) | (with_reducible refine Blk4.drewN ?_) | (with_reducible refine Blk4.alloc ?_ _)))
      have ky0 : Blk4 ((w.alloc (.cells #[.int .u64 (hiZ a), .int .u64 (loZ a), .int .u64 (hiZ b), .int .u64 (loZ b)] 41)).alloc (.cells #[.int .u64 (hiZ c), .int .u64 (loZ c), .int .u64 (hiZ d), .int .u64 (loZ d)] 41)) (w.heap.size + 1) (hiZ c) (loZ c) (hiZ d) (loZ d) := (by repeat' (first | (with_reducible assumption) | ((with_reducible refine Blk2.new_at _ _ ?_); (simp; done)) | ((with_reducible refine Blk4.new_at _ _ ?_); (simp; done)) | (with_reducible refine Blk2.drew ?_) | (with_reducible refine Blk2.drewN ?_) | (with_reducible refine Blk2.alloc ?_ _) | (with_reducible refine Blk4.drew ?_) | (with_reducible refine Blk4.drewN ?_) | (with_reducible refine Blk4.alloc ?_ _)))
      have B0 : Below w.heap.size w ((w.alloc (.cells #[.int .u64 (hiZ a), .int .u64 (loZ a), .int .u64 (hiZ b), .int .u64 (loZ b)] 41)).alloc (.cells #[.int .u64 (hiZ c), .int .u64 (loZ c), .int .u64 (hiZ d), .int .u64 (loZ d)] 41)) := (by go_grown)
      have o1 : w.heap.size < w.heap.size + 1 := by omega
      generalize w.heap.size + 1 = g1 at *
      generalize ((w.alloc (.cells #[.int .u64 (hiZ a), .int .u64 (loZ a), .int .u64 (hiZ b), .int .u64 (loZ b)] 41)).alloc (.cells #[.int .u64 (hiZ c), .int .u64 (loZ c), .int .u64 (hiZ d), .int .u64 (loZ d)] 41)) = w0 at *
      have z0 := B0.size
      have cx0 := kx0.c0; have dx0 := kx0.c1; have ex0 := kx0.c2; have hx0 := kx0.c3; have fx0 := kx0.f 0; have gx0 := kx0.f 1; have ix0 := kx0.f 2; have jx0 := kx0.f 3; have lx0 := kx0.lt
      have cy0 := ky0.c0; have dy0 := ky0.c1; have ey0 := ky0.c2; have hy0 := ky0.c3; have fy0 := ky0.f 0; have gy0 := ky0.f 1; have iy0 := ky0.f 2; have jy0 := ky0.f 3; have ly0 := ky0.lt
      go_wp2_with fail
      refine (check_any a b _).mono ?_
      rintro e w1 ⟨rfl, hb1⟩
      have B1 : Below w.heap.size w w1 := (by refine below_of ?_ hb1; go_grown)
      have kx1 : Blk4 w1 (w.heap.size) (hiZ a) (loZ a) (hiZ b) (loZ b) := (by refine Blk4.keep ?_ hb1; repeat' (first | (with_reducible assumption) | ((with_reducible refine Blk2.new_at _ _ ?_); (simp; done)) | ((with_reducible refine Blk4.new_at _ _ ?_); (simp; done)) | (with_reducible refine Blk2.drew ?_) | (with_reducible refine Blk2.drewN ?_) | (with_reducible refine Blk2.alloc ?_ _) | (with_reducible refine Blk4.drew ?_) | (with_reducible refine Blk4.drewN ?_) | (with_reducible refine Blk4.alloc ?_ _)))
      have ky1 : Blk4 w1 (g1) (hiZ c) (loZ c) (hiZ d) (loZ d) := (by refine Blk4.keep ?_ hb1; repeat' (first | (with_reducible assumption) | ((with_reducible refine Blk2.new_at _ _ ?_); (simp; done)) | ((with_reducible refine Blk4.new_at _ _ ?_); (simp; done)) | (with_reducible refine Blk2.drew ?_) | (with_reducible refine Blk2.drewN ?_) | (with_reducible refine Blk2.alloc ?_ _) | (with_reducible refine Blk4.drew ?_) | (with_reducible refine Blk4.drewN ?_) | (with_reducible refine Blk4.alloc ?_ _)))
      clear hb1 B0 z0 kx0 cx0 dx0 ex0 hx0 fx0 gx0 ix0 jx0 lx0 ky0 cy0 dy0 ey0 hy0 fy0 gy0 iy0 jy0 ly0
      have z1 := B1.size
      have cx1 := kx1.c0; have dx1 := kx1.c1; have ex1 := kx1.c2; have hx1 := kx1.c3; have fx1 := kx1.f 0; have gx1 := kx1.f 1; have ix1 := kx1.f 2; have jx1 := kx1.f 3; have lx1 := kx1.lt
      have cy1 := ky1.c0; have dy1 := ky1.c1; have ey1 := ky1.c2; have hy1 := ky1.c3; have fy1 := ky1.f 0; have gy1 := ky1.f 1; have iy1 := ky1.f 2; have jy1 := ky1.f 3; have ly1 := ky1.lt
      go_wp2_with fail
      refine (check_any c d _).mono ?_
      rintro e w2 ⟨rfl, hb2⟩
      have B2 : Below w.heap.size w w2 := (by refine below_of ?_ hb2; go_grown)
      have kx2 : Blk4 w2 (w.heap.size) (hiZ a) (loZ a) (hiZ b) (loZ b) := (by refine Blk4.keep ?_ hb2; repeat' (first | (with_reducible assumption) | ((with_reducible refine Blk2.new_at _ _ ?_); (simp; done)) | ((with_reducible refine Blk4.new_at _ _ ?_); (simp; done)) | (with_reducible refine Blk2.drew ?_) | (with_reducible refine Blk2.drewN ?_) | (with_reducible refine Blk2.alloc ?_ _) | (with_reducible refine Blk4.drew ?_) | (with_reducible refine Blk4.drewN ?_) | (with_reducible refine Blk4.alloc ?_ _)))
      have ky2 : Blk4 w2 (g1) (hiZ c) (loZ c) (hiZ d) (loZ d) := (by refine Blk4.keep ?_ hb2; repeat' (first | (with_reducible assumption) | ((with_reducible refine Blk2.new_at _ _ ?_); (simp; done)) | ((with_reducible refine Blk4.new_at _ _ ?_); (simp; done)) | (with_reducible refine Blk2.drew ?_) | (with_reducible refine Blk2.drewN ?_) | (with_reducible refine Blk2.alloc ?_ _) | (with_reducible refine Blk4.drew ?_) | (with_reducible refine Blk4.drewN ?_) | (with_reducible refine Blk4.alloc ?_ _)))
      clear hb2 B1 z1 kx1 cx1 dx1 ex1 hx1 fx1 gx1 ix1 jx1 lx1 ky1 cy1 dy1 ey1 hy1 fy1 gy1 iy1 jy1 ly1
      have z2 := B2.size
      have cx2 := kx2.c0; have dx2 := kx2.c1; have ex2 := kx2.c2; have hx2 := kx2.c3; have fx2 := kx2.f 0; have gx2 := kx2.f 1; have ix2 := kx2.f 2; have jx2 := kx2.f 3; have lx2 := kx2.lt
      have cy2 := ky2.c0; have dy2 := ky2.c1; have ey2 := ky2.c2; have hy2 := ky2.c3; have fy2 := ky2.f 0; have gy2 := ky2.f 1; have iy2 := ky2.f 2; have jy2 := ky2.f 3; have ly2 := ky2.lt
      go_wp2_with fail
      go_ret2
      exact ⟨be_eq HV.out.1.symm HV.out.2.symm, by go_grown⟩
  · have h1' : redB a b = false := by simpa using h1
    have t1 : (checkE a b != 0) = true := by rw [check_no h1']; rfl
    have HV := Lib.hid (lessF_bad (c := c) (d := d) (Or.inl h1'))
    clear h1 h1'
    go_enter Tryd.func38, Tryd.ntmps38
    go_upto_region 1 with fail
    have kx0 : Blk4 ((w.alloc (.cells #[.int .u64 (hiZ a), .int .u64 (loZ a), .int .u64 (hiZ b), .int .u64 (loZ b)] 41)).alloc (.cells #[.int .u64 (hiZ c), .int .u64 (loZ c), .int .u64 (hiZ d), .int .u64 (loZ d)] 41)) (w.heap.size) (hiZ a) (loZ a) (hiZ b) (loZ b) := (by repeat' (first | (with_reducible assumption) | ((with_reducible refine Blk2.new_at _ _ ?_); (simp; done)) | ((with_reducible refine Blk4.new_at _ _ ?_); (simp; done)) | (with_reducible refine Blk2.drew ?_) | (with_reducible refine Blk2.drewN ?_) | (with_reducible refine Blk2.alloc ?_ _) | (with_reducible refine Blk4.drew ?_) | (with_reducible refine Blk4.drewN ?_) | (with_reducible refine Blk4.alloc ?_ _)))
    have ky0 : Blk4 ((w.alloc (.cells #[.int .u64 (hiZ a), .int .u64 (loZ a), .int .u64 (hiZ b), .int .u64 (loZ b)] 41)).alloc (.cells #[.int .u64 (hiZ c), .int .u64 (loZ c), .int .u64 (hiZ d), .int .u64 (loZ d)] 41)) (w.heap.size + 1) (hiZ c) (loZ c) (hiZ d) (loZ d) := (by repeat' (first | (with_reducible assumption) | ((with_reducible refine Blk2.new_at _ _ ?_); (simp; done)) | ((with_reducible refine Blk4.new_at _ _ ?_); (simp; done)) | (with_reducible refine Blk2.drew ?_) | (with_reducible refine Blk2.drewN ?_) | (with_reducible refine Blk2.alloc ?_ _) | (with_reducible refine Blk4.drew ?_) | (with_reducible refine Blk4.drewN ?_) | (with_reducible refine Blk4.alloc ?_ _)))
    have B0 : Below w.heap.size w ((w.alloc (.cells #[.int .u64 (hiZ a), .int .u64 (loZ a), .int .u64 (hiZ b), .int .u64 (loZ b)] 41)).alloc (.cells #[.int .u64 (hiZ c), .int .u64 (loZ c), .int .u64 (hiZ d), .int .u64 (loZ d)] 41)) := (by go_grown)
    have o1 : w.heap.size < w.heap.size + 1 := by omega
    generalize w.heap.size + 1 = g1 at *
    generalize ((w.alloc (.cells #[.int .u64 (hiZ a), .int .u64 (loZ a), .int .u64 (hiZ b), .int .u64 (loZ b)] 41)).alloc (.cells #[.int .u64 (hiZ c), .int .u64 (loZ c), .int .u64 (hiZ d), .int .u64 (loZ d)] 41)) = w0 at *
    have z0 := B0.size
    have cx0 := kx0.c0; have dx0 := kx0.c1; have ex0 := kx0.c2; have hx0 := kx0.c3; have fx0 := kx0.f 0; have gx0 := kx0.f 1; have ix0 := kx0.f 2; have jx0 := kx0.f 3; have lx0 := kx0.lt
    have cy0 := ky0.c0; have dy0 := ky0.c1; have ey0 := ky0.c2; have hy0 := ky0.c3; have fy0 := ky0.f 0; have gy0 := ky0.f 1; have iy0 := ky0.f 2; have jy0 := ky0.f 3; have ly0 := ky0.lt
    go_wp2_with fail
    refine (check_any a b _).mono ?_
    rintro e w1 ⟨rfl, hb1⟩
    have B1 : Below w.heap.size w w1 := (by refine below_of ?_ hb1; go_grown)
    have kx1 : Blk4 w1 (w.heap.size) (hiZ a) (loZ a) (hiZ b) (loZ b) := (by refine Blk4.keep ?_ hb1; repeat' (first | (with_reducible assumption) | ((with_reducible refine Blk2.new_at _ _ ?_); (simp; done)) | ((with_reducible refine Blk4.new_at _ _ ?_); (simp; done)) | (with_reducible refine Blk2.drew ?_) | (with_reducible refine Blk2.drewN ?_) | (with_reducible refine Blk2.alloc ?_ _) | (with_reducible refine Blk4.drew ?_) | (with_reducible refine Blk4.drewN ?_) | (with_reducible refine Blk4.alloc ?_ _)))
    have ky1 : Blk4 w1 (g1) (hiZ c) (loZ c) (hiZ d) (loZ d) := (by refine Blk4.keep ?_ hb1; repeat' (first | (with_reducible assumption) | ((with_reducible refine Blk2.new_at _ _ ?_); (simp; done)) | ((with_reducible refine Blk4.new_at _ _ ?_); (simp; done)) | (with_reducible refine Blk2.drew ?_) | (with_reducible refine Blk2.drewN ?_) | (with_reducible refine Blk2.alloc ?_ _) | (with_reducible refine Blk4.drew ?_) | (with_reducible refine Blk4.drewN ?_) | (with_reducible refine Blk4.alloc ?_ _)))
    clear hb1 B0 z0 kx0 cx0 dx0 ex0 hx0 fx0 gx0 ix0 jx0 lx0 ky0 cy0 dy0 ey0 hy0 fy0 gy0 iy0 jy0 ly0
    have z1 := B1.size
    have cx1 := kx1.c0; have dx1 := kx1.c1; have ex1 := kx1.c2; have hx1 := kx1.c3; have fx1 := kx1.f 0; have gx1 := kx1.f 1; have ix1 := kx1.f 2; have jx1 := kx1.f 3; have lx1 := kx1.lt
    have cy1 := ky1.c0; have dy1 := ky1.c1; have ey1 := ky1.c2; have hy1 := ky1.c3; have fy1 := ky1.f 0; have gy1 := ky1.f 1; have iy1 := ky1.f 2; have jy1 := ky1.f 3; have ly1 := ky1.lt
    go_wp2_with fail
    go_ret2
    exact ⟨be_eq HV.out.1.symm HV.out.2.symm, by go_grown⟩
end Go.Proofs.YtnbchhjanlpdlaaDoor
