/-
  WALKS: ratio.Reduce, Rate, Floor, Check, times, Less, Text.
-/
import Derived.Test.YtnbchhjanlpdlaaDoorGcd
namespace Go.Proofs.YtnbchhjanlpdlaaDoor
open Go Go.RowKit

/-- A block of four numbers of 64 bits: a fraction. -/
structure Blk4 (w : World) (g : Nat) (a b c d : Int) : Prop where
  blk : w.heap[g]? = some (.cells #[.int .u64 a, .int .u64 b, .int .u64 c, .int .u64 d] 41 (0, 0))
section
variable {w w' : World} {g : Nat} {a b c d : Int}
theorem Blk4.c0 (x : Blk4 w g a b c d) : w.cell? ⟨g, 0, none⟩ = some (.int .u64 a) := by rw [cell_blk x.blk]; rfl
theorem Blk4.c1 (x : Blk4 w g a b c d) : w.cell? ⟨g, 1, none⟩ = some (.int .u64 b) := by rw [cell_blk x.blk]; rfl
theorem Blk4.c2 (x : Blk4 w g a b c d) : w.cell? ⟨g, 2, none⟩ = some (.int .u64 c) := by rw [cell_blk x.blk]; rfl
theorem Blk4.c3 (x : Blk4 w g a b c d) : w.cell? ⟨g, 3, none⟩ = some (.int .u64 d) := by rw [cell_blk x.blk]; rfl
theorem Blk4.f (x : Blk4 w g a b c d) (i : Nat) : w.frozen? ⟨g, i, none⟩ = false := free_blk x.blk i
theorem Blk4.lt (x : Blk4 w g a b c d) : g < w.heap.size := by
  rcases Nat.lt_or_ge g w.heap.size with h' | h'
  · exact h'
  · have := x.blk; rw [Array.getElem?_eq_none h'] at this; cases this
theorem Blk4.keep (x : Blk4 w g a b c d) (hb : Below w.heap.size w w') : Blk4 w' g a b c d := ⟨by rw [hb.block g x.lt]; exact x.blk⟩
theorem Blk4.alloc (x : Blk4 w g a b c d) (o : Obj) : Blk4 (w.alloc o) g a b c d := x.keep ((Below.refl _ _).alloc (Nat.le_refl _) o)
theorem Blk4.drew (x : Blk4 w g a b c d) : Blk4 w.drew g a b c d := ⟨x.blk⟩
theorem Blk4.drewN {n : Nat} (x : Blk4 w g a b c d) : Blk4 (w.drewN n) g a b c d := ⟨x.blk⟩
theorem Blk4.new_at (w : World) (g : Nat) {a b c d : Int} (hg : g = w.heap.size) : Blk4 (w.alloc (.cells #[.int .u64 a, .int .u64 b, .int .u64 c, .int .u64 d] 41)) g a b c d := ⟨by
  subst hg
  show (w.heap.push _)[w.heap.size]? = _
  rw [Array.getElem?_push, if_pos rfl]⟩
theorem Blk4.other (x : Blk4 w g a b c d) (p : Addr) (v : Value) (hne : g ≠ p.block) : Blk4 (w.setCell p v) g a b c d := ⟨by rw [Below.heap_setCell _ _ _ _ hne]; exact x.blk⟩
theorem Blk4.set (x : Blk4 w g a b c d) (a' b' c' d' : Int) : Blk4 ((((w.setCell ⟨g, 0, none⟩ (.int .u64 a')).setCell ⟨g, 1, none⟩ (.int .u64 b')).setCell ⟨g, 2, none⟩ (.int .u64 c')).setCell ⟨g, 3, none⟩ (.int .u64 d')) g a' b' c' d' := by
  have e1 := Joins.block_setCell (i := 0) x.blk (.int .u64 a')
  have e2 := Joins.block_setCell (i := 1) e1 (.int .u64 b')
  have e3 := Joins.block_setCell (i := 2) e2 (.int .u64 c')
  have e4 := Joins.block_setCell (i := 3) e3 (.int .u64 d')
  exact ⟨e4⟩
end
theorem fe_eq {a b c d a' b' c' d' e e' : Int} (h1 : a = a') (h2 : b = b') (h3 : c = c') (h4 : d = d') (h5 : e = e') :
    Ending.returned (.tuple #[.agg #[.int .u64 a, .int .u64 b, .int .u64 c, .int .u64 d], .int .i64 e]) = Ending.returned (.tuple #[.agg #[.int .u64 a', .int .u64 b', .int .u64 c', .int .u64 d'], .int .i64 e']) := by rw [h1, h2, h3, h4, h5]

def redN (n d : U) : U := divW n (gcdW n d)
def redD (n d : U) : U := divW d (gcdW n d)
theorem gcd_pos {n d : U} (h : d.n ≠ 0) : (gcdW n d).n ≠ 0 := by
  show Nat.gcd n.n d.n ≠ 0
  intro e
  exact h (Nat.eq_zero_of_gcd_eq_zero_right e)
-- GENERATED
set_option maxHeartbeats 8000000 in
set_option maxRecDepth 100000 in
theorem reduce_any (n d : U) (hd : d.n ≠ 0) (w : World) :
    Calls Tryd.prog 25 #[.agg #[.int .u64 (hiZ n), .int .u64 (loZ n)], .agg #[.int .u64 (hiZ d), .int .u64 (loZ d)]] w fun e w' =>
      e = .returned (.tuple #[.agg #[.int .u64 (hiZ (redN n d)), .int .u64 (loZ (redN n d)), .int .u64 (hiZ (redD n d)), .int .u64 (loZ (redD n d))], .int .i64 0]) ∧ Below w.heap.size w w' := by
  have he := eql_no (x := hiZ d) (y := loZ d) (x' := 0) (y' := 0) (fun h => hd ((zero_iff d).1 h))
  have HD := Lib.hid hd
  clear hd
  go_enter Tryd.func25, Tryd.ntmps25
  go_wp2_with fail
  have kn0 : Blk2 (((w.alloc (.cells #[.int .u64 (hiZ n), .int .u64 (loZ n)] 24)).alloc (.cells #[.int .u64 (hiZ d), .int .u64 (loZ d)] 24)).alloc (.cells #[.int .u64 0, .int .u64 0, .int .u64 0, .int .u64 0] 41)) (w.heap.size) (hiZ n) (loZ n) := (by repeat' (first | (with_reducible assumption) | ((with_reducible refine Blk2.new_at _ _ ?_); (simp; done)) | ((with_reducible refine Blk4.new_at _ _ ?_); (simp; done)) | (with_reducible refine Blk2.drew ?_) | (with_reducible refine Blk2.drewN ?_) | (with_reducible refine Blk2.alloc ?_ _) | (with_reducible refine Blk4.drew ?_) | (with_reducible refine Blk4.drewN ?_) | (with_reducible refine Blk4.alloc ?_ _)))
  have kd0 : Blk2 (((w.alloc (.cells #[.int .u64 (hiZ n), .int .u64 (loZ n)] 24)).alloc (.cells #[.int .u64 (hiZ d), .int .u64 (loZ d)] 24)).alloc (.cells #[.int .u64 0, .int .u64 0, .int .u64 0, .int .u64 0] 41)) (w.heap.size + 1) (hiZ d) (loZ d) := (by repeat' (first | (with_reducible assumption) | ((with_reducible refine Blk2.new_at _ _ ?_); (simp; done)) | ((with_reducible refine Blk4.new_at _ _ ?_); (simp; done)) | (with_reducible refine Blk2.drew ?_) | (with_reducible refine Blk2.drewN ?_) | (with_reducible refine Blk2.alloc ?_ _) | (with_reducible refine Blk4.drew ?_) | (with_reducible refine Blk4.drewN ?_) | (with_reducible refine Blk4.alloc ?_ _)))
  have kr0 : Blk4 (((w.alloc (.cells #[.int .u64 (hiZ n), .int .u64 (loZ n)] 24)).alloc (.cells #[.int .u64 (hiZ d), .int .u64 (loZ d)] 24)).alloc (.cells #[.int .u64 0, .int .u64 0, .int .u64 0, .int .u64 0] 41)) (w.heap.size + 1 + 1) (0) (0) (0) (0) := (by repeat' (first | (with_reducible assumption) | ((with_reducible refine Blk2.new_at _ _ ?_); (simp; done)) | ((with_reducible refine Blk4.new_at _ _ ?_); (simp; done)) | (with_reducible refine Blk2.drew ?_) | (with_reducible refine Blk2.drewN ?_) | (with_reducible refine Blk2.alloc ?_ _) | (with_reducible refine Blk4.drew ?_) | (with_reducible refine Blk4.drewN ?_) | (with_reducible refine Blk4.alloc ?_ _)))
  have B0 : Below w.heap.size w (((w.alloc (.cells #[.int .u64 (hiZ n), .int .u64 (loZ n)] 24)).alloc (.cells #[.int .u64 (hiZ d), .int .u64 (loZ d)] 24)).alloc (.cells #[.int .u64 0, .int .u64 0, .int .u64 0, .int .u64 0] 41)) := (by go_grown)
  have o1 : w.heap.size < w.heap.size + 1 := by omega
  have o2 : w.heap.size + 1 < w.heap.size + 1 + 1 := by omega
  generalize w.heap.size + 1 + 1 = g2 at *
  generalize w.heap.size + 1 = g1 at *
  generalize (((w.alloc (.cells #[.int .u64 (hiZ n), .int .u64 (loZ n)] 24)).alloc (.cells #[.int .u64 (hiZ d), .int .u64 (loZ d)] 24)).alloc (.cells #[.int .u64 0, .int .u64 0, .int .u64 0, .int .u64 0] 41)) = w0 at *
  have z0 := B0.size
  have cn0 := kn0.c0; have dn0 := kn0.c1; have fn0 := kn0.f0; have gn0 := kn0.f1; have ln0 := kn0.lt
  have cd0 := kd0.c0; have dd0 := kd0.c1; have fd0 := kd0.f0; have gd0 := kd0.f1; have ld0 := kd0.lt
  have cr0 := kr0.c0; have dr0 := kr0.c1; have er0 := kr0.c2; have hr0 := kr0.c3; have fr0 := kr0.f 0; have gr0 := kr0.f 1; have ir0 := kr0.f 2; have jr0 := kr0.f 3; have lr0 := kr0.lt
  refine (gcd_any n d _).mono ?_
  rintro e w1 ⟨rfl, hb1⟩
  have B1 : Below w.heap.size w w1 := (by refine below_of ?_ hb1; go_grown)
  have kn1 : Blk2 w1 (w.heap.size) (hiZ n) (loZ n) := (by refine Blk2.keep ?_ hb1; repeat' (first | (with_reducible assumption) | ((with_reducible refine Blk2.new_at _ _ ?_); (simp; done)) | ((with_reducible refine Blk4.new_at _ _ ?_); (simp; done)) | (with_reducible refine Blk2.drew ?_) | (with_reducible refine Blk2.drewN ?_) | (with_reducible refine Blk2.alloc ?_ _) | (with_reducible refine Blk4.drew ?_) | (with_reducible refine Blk4.drewN ?_) | (with_reducible refine Blk4.alloc ?_ _)))
  have kd1 : Blk2 w1 (g1) (hiZ d) (loZ d) := (by refine Blk2.keep ?_ hb1; repeat' (first | (with_reducible assumption) | ((with_reducible refine Blk2.new_at _ _ ?_); (simp; done)) | ((with_reducible refine Blk4.new_at _ _ ?_); (simp; done)) | (with_reducible refine Blk2.drew ?_) | (with_reducible refine Blk2.drewN ?_) | (with_reducible refine Blk2.alloc ?_ _) | (with_reducible refine Blk4.drew ?_) | (with_reducible refine Blk4.drewN ?_) | (with_reducible refine Blk4.alloc ?_ _)))
  have kr1 : Blk4 w1 (g2) (0) (0) (0) (0) := (by refine Blk4.keep ?_ hb1; repeat' (first | (with_reducible assumption) | ((with_reducible refine Blk2.new_at _ _ ?_); (simp; done)) | ((with_reducible refine Blk4.new_at _ _ ?_); (simp; done)) | (with_reducible refine Blk2.drew ?_) | (with_reducible refine Blk2.drewN ?_) | (with_reducible refine Blk2.alloc ?_ _) | (with_reducible refine Blk4.drew ?_) | (with_reducible refine Blk4.drewN ?_) | (with_reducible refine Blk4.alloc ?_ _)))
  clear hb1 B0 z0 kn0 cn0 dn0 fn0 gn0 ln0 kd0 cd0 dd0 fd0 gd0 ld0 kr0 cr0 dr0 er0 hr0 fr0 gr0 ir0 jr0 lr0
  have z1 := B1.size
  have cn1 := kn1.c0; have dn1 := kn1.c1; have fn1 := kn1.f0; have gn1 := kn1.f1; have ln1 := kn1.lt
  have cd1 := kd1.c0; have dd1 := kd1.c1; have fd1 := kd1.f0; have gd1 := kd1.f1; have ld1 := kd1.lt
  have cr1 := kr1.c0; have dr1 := kr1.c1; have er1 := kr1.c2; have hr1 := kr1.c3; have fr1 := kr1.f 0; have gr1 := kr1.f 1; have ir1 := kr1.f 2; have jr1 := kr1.f 3; have lr1 := kr1.lt
  go_wp2_with fail
  refine (divide_any n (gcdW n d) (gcd_pos HD.out) _).mono ?_
  rintro e w2 ⟨rfl, hb2⟩
  have B2 : Below w.heap.size w w2 := (by refine below_of ?_ hb2; go_grown)
  have kn2 : Blk2 w2 (w.heap.size) (hiZ n) (loZ n) := (by refine Blk2.keep ?_ hb2; repeat' (first | (with_reducible assumption) | ((with_reducible refine Blk2.new_at _ _ ?_); (simp; done)) | ((with_reducible refine Blk4.new_at _ _ ?_); (simp; done)) | (with_reducible refine Blk2.drew ?_) | (with_reducible refine Blk2.drewN ?_) | (with_reducible refine Blk2.alloc ?_ _) | (with_reducible refine Blk4.drew ?_) | (with_reducible refine Blk4.drewN ?_) | (with_reducible refine Blk4.alloc ?_ _)))
  have kd2 : Blk2 w2 (g1) (hiZ d) (loZ d) := (by refine Blk2.keep ?_ hb2; repeat' (first | (with_reducible assumption) | ((with_reducible refine Blk2.new_at _ _ ?_); (simp; done)) | ((with_reducible refine Blk4.new_at _ _ ?_); (simp; done)) | (with_reducible refine Blk2.drew ?_) | (with_reducible refine Blk2.drewN ?_) | (with_reducible refine Blk2.alloc ?_ _) | (with_reducible refine Blk4.drew ?_) | (with_reducible refine Blk4.drewN ?_) | (with_reducible refine Blk4.alloc ?_ _)))
  have kr2 : Blk4 w2 (g2) (0) (0) (0) (0) := (by refine Blk4.keep ?_ hb2; repeat' (first | (with_reducible assumption) | ((with_reducible refine Blk2.new_at _ _ ?_); (simp; done)) | ((with_reducible refine Blk4.new_at _ _ ?_); (simp; done)) | (with_reducible refine Blk2.drew ?_) | (with_reducible refine Blk2.drewN ?_) | (with_reducible refine Blk2.alloc ?_ _) | (with_reducible refine Blk4.drew ?_) | (with_reducible refine Blk4.drewN ?_) | (with_reducible refine Blk4.alloc ?_ _)))
  have kb2 : Blk2 w2 (w1.heap.size) (hiZ (gcdW n d)) (loZ (gcdW n d)) := (by refine Blk2.keep ?_ hb2; repeat' (first | (with_reducible assumption) | ((with_reducible refine Blk2.new_at _ _ ?_); (simp; done)) | ((with_reducible refine Blk4.new_at _ _ ?_); (simp; done)) | (with_reducible refine Blk2.drew ?_) | (with_reducible refine Blk2.drewN ?_) | (with_reducible refine Blk2.alloc ?_ _) | (with_reducible refine Blk4.drew ?_) | (with_reducible refine Blk4.drewN ?_) | (with_reducible refine Blk4.alloc ?_ _)))
  clear hb2 B1 z1 kn1 cn1 dn1 fn1 gn1 ln1 kd1 cd1 dd1 fd1 gd1 ld1 kr1 cr1 dr1 er1 hr1 fr1 gr1 ir1 jr1 lr1
  have z2 := B2.size
  have cn2 := kn2.c0; have dn2 := kn2.c1; have fn2 := kn2.f0; have gn2 := kn2.f1; have ln2 := kn2.lt
  have cd2 := kd2.c0; have dd2 := kd2.c1; have fd2 := kd2.f0; have gd2 := kd2.f1; have ld2 := kd2.lt
  have cr2 := kr2.c0; have dr2 := kr2.c1; have er2 := kr2.c2; have hr2 := kr2.c3; have fr2 := kr2.f 0; have gr2 := kr2.f 1; have ir2 := kr2.f 2; have jr2 := kr2.f 3; have lr2 := kr2.lt
  have cb2 := kb2.c0; have db2 := kb2.c1; have fb2 := kb2.f0; have gb2 := kb2.f1; have lb2 := kb2.lt
  go_wp2_with fail
  refine (divide_any d (gcdW n d) (gcd_pos HD.out) _).mono ?_
  rintro e w3 ⟨rfl, hb3⟩
  have B3 : Below w.heap.size w w3 := (by refine below_of ?_ hb3; go_grown)
  have kn3 : Blk2 w3 (w.heap.size) (hiZ n) (loZ n) := (by refine Blk2.keep ?_ hb3; repeat' (first | (with_reducible assumption) | ((with_reducible refine Blk2.new_at _ _ ?_); (simp; done)) | ((with_reducible refine Blk4.new_at _ _ ?_); (simp; done)) | (with_reducible refine Blk2.drew ?_) | (with_reducible refine Blk2.drewN ?_) | (with_reducible refine Blk2.alloc ?_ _) | (with_reducible refine Blk4.drew ?_) | (with_reducible refine Blk4.drewN ?_) | (with_reducible refine Blk4.alloc ?_ _)))
  have kd3 : Blk2 w3 (g1) (hiZ d) (loZ d) := (by refine Blk2.keep ?_ hb3; repeat' (first | (with_reducible assumption) | ((with_reducible refine Blk2.new_at _ _ ?_); (simp; done)) | ((with_reducible refine Blk4.new_at _ _ ?_); (simp; done)) | (with_reducible refine Blk2.drew ?_) | (with_reducible refine Blk2.drewN ?_) | (with_reducible refine Blk2.alloc ?_ _) | (with_reducible refine Blk4.drew ?_) | (with_reducible refine Blk4.drewN ?_) | (with_reducible refine Blk4.alloc ?_ _)))
  have kr3 : Blk4 w3 (g2) (0) (0) (0) (0) := (by refine Blk4.keep ?_ hb3; repeat' (first | (with_reducible assumption) | ((with_reducible refine Blk2.new_at _ _ ?_); (simp; done)) | ((with_reducible refine Blk4.new_at _ _ ?_); (simp; done)) | (with_reducible refine Blk2.drew ?_) | (with_reducible refine Blk2.drewN ?_) | (with_reducible refine Blk2.alloc ?_ _) | (with_reducible refine Blk4.drew ?_) | (with_reducible refine Blk4.drewN ?_) | (with_reducible refine Blk4.alloc ?_ _)))
  have kb3 : Blk2 w3 (w1.heap.size) (hiZ (gcdW n d)) (loZ (gcdW n d)) := (by refine Blk2.keep ?_ hb3; repeat' (first | (with_reducible assumption) | ((with_reducible refine Blk2.new_at _ _ ?_); (simp; done)) | ((with_reducible refine Blk4.new_at _ _ ?_); (simp; done)) | (with_reducible refine Blk2.drew ?_) | (with_reducible refine Blk2.drewN ?_) | (with_reducible refine Blk2.alloc ?_ _) | (with_reducible refine Blk4.drew ?_) | (with_reducible refine Blk4.drewN ?_) | (with_reducible refine Blk4.alloc ?_ _)))
  have kp3 : Blk2 w3 (w2.heap.size) (hiZ (divW n (gcdW n d))) (loZ (divW n (gcdW n d))) := (by refine Blk2.keep ?_ hb3; repeat' (first | (with_reducible assumption) | ((with_reducible refine Blk2.new_at _ _ ?_); (simp; done)) | ((with_reducible refine Blk4.new_at _ _ ?_); (simp; done)) | (with_reducible refine Blk2.drew ?_) | (with_reducible refine Blk2.drewN ?_) | (with_reducible refine Blk2.alloc ?_ _) | (with_reducible refine Blk4.drew ?_) | (with_reducible refine Blk4.drewN ?_) | (with_reducible refine Blk4.alloc ?_ _)))
  clear hb3 B2 z2 kn2 cn2 dn2 fn2 gn2 ln2 kd2 cd2 dd2 fd2 gd2 ld2 kr2 cr2 dr2 er2 hr2 fr2 gr2 ir2 jr2 lr2 kb2 cb2 db2 fb2 gb2 lb2
  have z3 := B3.size
  have cn3 := kn3.c0; have dn3 := kn3.c1; have fn3 := kn3.f0; have gn3 := kn3.f1; have ln3 := kn3.lt
  have cd3 := kd3.c0; have dd3 := kd3.c1; have fd3 := kd3.f0; have gd3 := kd3.f1; have ld3 := kd3.lt
  have cr3 := kr3.c0; have dr3 := kr3.c1; have er3 := kr3.c2; have hr3 := kr3.c3; have fr3 := kr3.f 0; have gr3 := kr3.f 1; have ir3 := kr3.f 2; have jr3 := kr3.f 3; have lr3 := kr3.lt
  have cb3 := kb3.c0; have db3 := kb3.c1; have fb3 := kb3.f0; have gb3 := kb3.f1; have lb3 := kb3.lt
  have cp3 := kp3.c0; have dp3 := kp3.c1; have fp3 := kp3.f0; have gp3 := kp3.f1; have lp3 := kp3.lt
  have q := (((kr3.set (hiZ (divW n (gcdW n d))) (loZ (divW n (gcdW n d))) (hiZ (divW d (gcdW n d))) (loZ (divW d (gcdW n d)))).alloc (.cells #[.int .u64 (hiZ (divW d (gcdW n d))), .int .u64 (loZ (divW d (gcdW n d)))] 24)).alloc (.cells #[.int .u64 (hiZ (modW d (gcdW n d))), .int .u64 (loZ (modW d (gcdW n d)))] 24))
  have U0 := Lib.hid q.c0
  have U1 := Lib.hid q.c1
  have U2 := Lib.hid q.c2
  have U3 := Lib.hid q.c3
  clear q
  go_wp2_with fail
  have u0 := U0.out
  have u1 := U1.out
  have u2 := U2.out
  have u3 := U3.out
  refine bodyPost_ret (v := .tuple #[.agg #[.int .u64 (hiZ (divW n (gcdW n d))), .int .u64 (loZ (divW n (gcdW n d))), .int .u64 (hiZ (divW d (gcdW n d))), .int .u64 (loZ (divW d (gcdW n d)))], .int .i64 (0)]) (by simp [results, Tryd.results25, go_sem, u0, u1, u2, u3]) rfl ?_
  exact ⟨fe_eq rfl rfl rfl rfl rfl, by go_grown⟩
set_option maxHeartbeats 8000000 in
set_option maxRecDepth 100000 in
theorem reduce_zero (n d : U) (hd : d.n = 0) (w : World) :
    Calls Tryd.prog 25 #[.agg #[.int .u64 (hiZ n), .int .u64 (loZ n)], .agg #[.int .u64 (hiZ d), .int .u64 (loZ d)]] w fun e w' =>
      e = .returned (.tuple #[.agg #[.int .u64 0, .int .u64 0, .int .u64 0, .int .u64 0], .int .i64 1]) ∧ Below w.heap.size w w' := by
  have he := eql_yes (x := hiZ d) (y := loZ d) (x' := 0) (y' := 0) ((zero_iff d).2 hd).1 ((zero_iff d).2 hd).2
  clear hd
  go_enter Tryd.func25, Tryd.ntmps25
  go_wp2_with fail
  go_returns
  exact ⟨rfl, by go_grown⟩
end Go.Proofs.YtnbchhjanlpdlaaDoor
