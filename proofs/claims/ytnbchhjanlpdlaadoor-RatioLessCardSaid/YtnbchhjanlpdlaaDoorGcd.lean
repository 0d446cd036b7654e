/-
  WALKS: ratio.Gcd: the greatest number that goes into both.
-/
import Derived.Test.YtnbchhjanlpdlaaDoorDivHi
import Derived.Test.YtnbchhjanlpdlaaDoorText
import Derived.Deep.RegionWith
namespace Go.Proofs.YtnbchhjanlpdlaaDoor
open Go Go.RowKit

theorem neq_wide (x y x' y' : Int) (w : World) : (binOp .neq 24 (.agg #[.int .u64 x, .int .u64 y]) (.agg #[.int .u64 x', .int .u64 y'])).run Tryd.prog w = .ok (.bool (!(x == x' && y == y'))) w := by
  by_cases h : x = x'
  · subst h
    by_cases g : y = y'
    · subst g; go_simp
    · have g' : (y == y') = false := by simpa using g
      go_simp
  · have h' : (x == x') = false := by simpa using h
    go_simp
theorem neq_no {x y x' y' : Int} (h : x = x') (g : y = y') (w : World) : (binOp .neq 24 (.agg #[.int .u64 x, .int .u64 y]) (.agg #[.int .u64 x', .int .u64 y'])).run Tryd.prog w = .ok (.bool false) w := by
  rw [neq_wide, h, g]; simp
theorem neq_yes {x y x' y' : Int} (h : ¬ (x = x' ∧ y = y')) (w : World) : (binOp .neq 24 (.agg #[.int .u64 x, .int .u64 y]) (.agg #[.int .u64 x', .int .u64 y'])).run Tryd.prog w = .ok (.bool true) w := by
  rw [neq_wide, show (x == x' && y == y') = false by rw [Bool.eq_false_iff]; simpa using h]; rfl
theorem zero_iff (b : U) : (hiZ b = 0 ∧ loZ b = 0) ↔ b.n = 0 := by unfold hiZ loZ; omega

/-- What holds at a round's head. -/
structure GcdInv (w wr : World) (g1 g2 : Nat) (a b A B : U) : Prop where
  below : Below w.heap.size w wr
  ra : Blk2 wr w.heap.size (hiZ A) (loZ A)
  rb : Blk2 wr g1 (hiZ B) (loZ B)
  r2 : Blk2 wr g2 0 0
  val : gcdW A B = gcdW a b

set_option maxHeartbeats 8000000 in
set_option maxRecDepth 100000 in
theorem gcd_any (a b : U) (w : World) :
    Calls Tryd.prog 32 #[.agg #[.int .u64 (hiZ a), .int .u64 (loZ a)], .agg #[.int .u64 (hiZ b), .int .u64 (loZ b)]] w fun e w' =>
      e = .returned (.agg #[.int .u64 (hiZ (gcdW a b)), .int .u64 (loZ (gcdW a b))]) ∧ Below w.heap.size w w' := by
  go_enter Tryd.func32, Tryd.ntmps32
  go_wp2_with fail
  have hI : GcdInv w (((w.alloc (.cells #[.int .u64 (hiZ a), .int .u64 (loZ a)] 24)).alloc (.cells #[.int .u64 (hiZ b), .int .u64 (loZ b)] 24)).alloc (.cells #[.int .u64 0, .int .u64 0] 24)) (w.heap.size + 1) (w.heap.size + 1 + 1) a b a b := by
    refine ⟨by go_grown, ?_, ?_, ?_, rfl⟩
    all_goals repeat' (first | ((with_reducible refine Blk2.new_at _ _ ?_); (simp; done)) | (with_reducible refine Blk2.drewN ?_) | (with_reducible refine Blk2.alloc ?_ _))
  have i1 : w.heap.size < w.heap.size + 1 := by omega
  have i2 : w.heap.size + 1 < w.heap.size + 1 + 1 := by omega
  generalize w.heap.size + 1 + 1 = g2 at *
  generalize w.heap.size + 1 = g1 at *
  generalize ((w.alloc (.cells #[.int .u64 (hiZ a), .int .u64 (loZ a)] 24)).alloc (.cells #[.int .u64 (hiZ b), .int .u64 (loZ b)] 24)).alloc (.cells #[.int .u64 0, .int .u64 0] 24) = W3 at *
  have HI0 := Lib.hid hI
  clear hI
  go_loopg [] (b.n + 1) (fun gg wr => ∃ (A B : U), gg = B.n + 1 ∧ GcdInv w wr g1 g2 a b A B)
  case atStart => exact ⟨a, b, rfl, HI0.out⟩
  case round =>
    clear HI0
    obtain ⟨A, B, hgg, hI⟩ := hrel
    have HGG := Lib.hid hgg
    have ca := hI.ra.c0; have da := hI.ra.c1; have fa := hI.ra.f0; have ga := hI.ra.f1; have la := hI.ra.lt
    have cb := hI.rb.c0; have db := hI.rb.c1; have fb := hI.rb.f0; have gb := hI.rb.f1; have lb := hI.rb.lt
    have c2 := hI.r2.c0; have d2 := hI.r2.c1; have f2 := hI.r2.f0; have h2 := hI.r2.f1; have l2 := hI.r2.lt
    have HI := Lib.hid hI
    clear hI hgg
    by_cases hB : B.n = 0
    · have he := neq_no ((zero_iff B).2 hB).1 ((zero_iff B).2 hB).2
      have hv := HI.out.val
      rw [gcdW_zero A B hB] at hv
      have HV := Lib.hid hv
      have q := HI.out.r2.set (hiZ A) (loZ A)
      have U0 := Lib.hid q.c0; have U1 := Lib.hid q.c1
      clear hv hB q
      go_wp2_with fail
      have u0 := U0.out; have u1 := U1.out
      refine bodyPost_ret (v := .agg #[.int .u64 (hiZ A), .int .u64 (loZ A)]) (by simp [results, Tryd.results32, go_sem, u0, u1]) rfl ?_
      have hb' := HI.out.below; have hz' := hb'.size
      exact ⟨by rw [HV.out], by go_grown⟩
    · have he := neq_yes (x := hiZ B) (y := loZ B) (x' := 0) (y' := 0) (fun h => hB ((zero_iff B).1 h))
      have HB := Lib.hid hB
      clear hB
      go_upto_region 3 with (go_at_call 48; refine (divide_any A B HB.out _).mono ?_; rintro e w1 ⟨rfl, hb1⟩)
      have B1 := below_of HI.out.below hb1
      have ka := HI.out.ra.keep hb1
      have kb := HI.out.rb.keep hb1
      have k2 := HI.out.r2.keep hb1
      have ca1 := ka.c0; have da1 := ka.c1; have fa1 := ka.f0; have ga1 := ka.f1; have la1 := ka.lt
      have cb1 := kb.c0; have db1 := kb.c1; have fb1 := kb.f0; have gb1 := kb.f1; have lb1 := kb.lt
      have z1 := B1.size
      clear hb1 ca da fa ga la cb db fb gb lb c2 d2 f2 h2 l2
      go_region_with ((fail))
      all_goals
        go_wp2_with fail
        go_roundg ((modW A B).n + 1)
        case measure =>
          have h1 := HGG.out
          have h2 : (modW A B).n < B.n := Nat.mod_lt _ (by have := HB.out; omega)
          omega
        case rel =>
          refine ⟨B, modW A B, rfl, by go_grown, ?_, ?_, ?_, by rw [gcdW_step]; exact HI.out.val⟩
          · exact (((((ka.set (hiZ B) (loZ B)).other _ _ (by simp <;> omega)).other _ _ (by simp <;> omega)).alloc _).alloc _).drew
          · exact (((((kb.other _ _ (by simp <;> omega)).other _ _ (by simp <;> omega)).set _ _).alloc _).alloc _).drew
          · exact (((((((k2.other _ _ (by simp <;> omega)).other _ _ (by simp <;> omega)).other _ _ (by simp <;> omega)).other _ _ (by simp <;> omega)).alloc _).alloc _)).drew
end Go.Proofs.YtnbchhjanlpdlaaDoor
