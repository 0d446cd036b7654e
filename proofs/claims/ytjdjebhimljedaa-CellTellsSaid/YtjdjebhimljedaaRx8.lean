/-
  WALKS: plimsollref01.Sum (for a seat without Text).
-/
import Derived.Test.YtjdjebhimljedaaRa
import Derived.Test.YtjdjebhimljedaaSum
namespace Go.Proofs.Ytjdjebhimljedaa
open Go Go.RowKit

set_option maxHeartbeats 1000000 in
theorem rsum (l : List U) (b off cap : Nat) (w : World) (hrow : rowOf w b off l) (hb : b < w.heap.size) (hlen : l.length ≤ 9223372036854775807) :
    Calls Try.prog 23 #[.slice (some ⟨b, off, none⟩) l.length cap] w fun e w' =>
      e = .returned (.tuple #[.agg #[.int .u64 (hiZ (cutU (sumN l))), .int .u64 (loZ (cutU (sumN l)))], .int .i64 (cutE (sumN l))]) ∧ Below w.heap.size w w' := by
  have HR := Lib.hid hrow
  clear hrow
  go_enter Try.func23, Try.ntmps23
  go_wp2_with fail
  go_loopw [11] (fun i wr => ∃ k : Nat, k ≤ l.length ∧ i = .int .i64 k ∧ SumInv w wr l k) (fun i _ => l.length - (intOf i).toNat)
  case atStart => exact ⟨0, Nat.zero_le _, rfl, sumInv_start w l⟩
  case round =>
    obtain ⟨k, hk, rfl, hI⟩ := hrel
    rename World => wr
    obtain ⟨S, hS⟩ : ∃ S, S = cutU (sumN (l.take k)) := ⟨_, rfl⟩
    have hSn : S.n = sumN (l.take k) := by rw [hS]; exact cutU_n hI.fits
    have hr1 := hI.r1
    rw [← hS] at hr1
    have HSN := Lib.hid hSn
    clear hSn hS
    have z0 := hI.r0.c0; have z1 := hI.r0.c1; have z2 := hI.r0.f0; have z3 := hI.r0.f1
    have y0 := hr1.c0; have y1 := hr1.c1; have y2 := hr1.f0; have y3 := hr1.f1
    have s0 := hI.r0.lt
    have s1 := hr1.lt
    have HI := Lib.hid hI
    have HR1 := Lib.hid hr1
    clear hI hr1
    by_cases hlt : k < l.length
    · obtain ⟨q0, q1⟩ := HR.out k hlt
      rw [← HI.out.below.cell (p := ⟨b, off + k * 2, none⟩) hb] at q0
      rw [← HI.out.below.cell (p := ⟨b, off + k * 2 + 1, none⟩) hb] at q1
      have hst := Lib.hid (sumN_take l k hlt)
      have hle := Lib.hid (sumN_le l (k + 1))
      have hb0 : Below w.heap.size w (wr.alloc (.cells #[.int .u64 (hiZ l[k]), .int .u64 (loZ l[k])] 26)) := HI.out.below.alloc (by omega) _
      by_cases hov : S.n + l[k].n < 340282366920938463463374607431768211456
      · have hE : (addE S l[k] != 0) = false := by rw [show addE S l[k] = 0 from cutE_lt hov]; rfl
        have HOV := Lib.hid hov
        clear hov
        go_wp2_with fail
        refine (radd _ _ _).mono ?_
        rintro e w1 ⟨rfl, hb1⟩
        have x0 := (HI.out.r0.alloc (.cells #[.int .u64 (hiZ l[k]), .int .u64 (loZ l[k])] 26)).keep hb1
        have x1 := (HR1.out.alloc (.cells #[.int .u64 (hiZ l[k]), .int .u64 (loZ l[k])] 26)).keep hb1
        have X0 := Lib.hid x0
        have X1 := Lib.hid x1
        have HB1 := Lib.hid (below_of hb0 hb1)
        have a0 := x1.c0; have a1 := x1.c1; have a2 := x1.f0; have a3 := x1.f1
        have t0 := x0.lt; have t1 := x1.lt
        clear x0 x1 hb0 hb1
        go_wp2_with fail
        go_roundw
        case rel =>
          have hb := HB1.out
          have e : cutU (sumN (l.take (k + 1))) = addU S l[k] := by unfold addU; rw [hst.out, HSN.out]
          have r1 := (X1.out.set (hiZ (addU S l[k])) (loZ (addU S l[k]))).alloc (.cells #[.int .u64 (hiZ (addU S l[k])), .int .u64 (loZ (addU S l[k]))] 26)
          exact ⟨k + 1, by omega, by go_num, by go_grown, ((X0.out.other _ _ (by simp)).other _ _ (by simp)).alloc _, by rw [e]; exact r1, by rw [hst.out, ← HSN.out]; exact HOV.out⟩
        case measure => simp [intOf]; omega
      · have hE : (addE S l[k] != 0) = true := by rw [show addE S l[k] = 1 from cutE_ge (by omega)]; rfl
        have HOV := Lib.hid hov
        clear hov
        go_wp2_with fail
        refine (radd _ _ _).mono ?_
        rintro e w1 ⟨rfl, hb1⟩
        have x0 := (HI.out.r0.alloc (.cells #[.int .u64 (hiZ l[k]), .int .u64 (loZ l[k])] 26)).keep hb1
        have HB1 := Lib.hid (below_of hb0 hb1)
        have a0 := x0.c0; have a1 := x0.c1; have a2 := x0.f0; have a3 := x0.f1
        have t0 := x0.lt
        have g := (x0.set 0 0).alloc (.cells #[.int .u64 (hiZ (addU S l[k])), .int .u64 (loZ (addU S l[k]))] 26)
        have g0 := Lib.hid g.c0
        have g1 := Lib.hid g.c1
        clear x0 hb0 hb1 g
        go_wp2_with fail
        have g0' := g0.out
        have g1' := g1.out
        refine bodyPost_ret (v := .tuple #[.agg #[.int .u64 0, .int .u64 0], .int .i64 (addE S l[k])]) (by simp [results, Try.results23, go_sem, g0', g1']) rfl ?_
        have hb := HB1.out
        have hge : 340282366920938463463374607431768211456 ≤ sumN l := by
          have h1 := hst.out; have h2 := hle.out; have h3 := HSN.out; have h4 := HOV.out
          omega
        refine ⟨we_eq' ?_ ?_ ?_, by go_grown⟩
        · rw [cutU_ge hge]; rfl
        · rw [cutU_ge hge]; rfl
        · rw [cutE_ge hge]; exact cutE_ge (Nat.le_of_not_lt HOV.out)
    · have g := HI.out.r0.set (hiZ S) (loZ S)
      have g0 := Lib.hid g.c0
      have g1 := Lib.hid g.c1
      clear g
      go_wp2_with fail
      have g0' := g0.out
      have g1' := g1.out
      refine bodyPost_ret (v := .tuple #[.agg #[.int .u64 (hiZ S), .int .u64 (loZ S)], .int .i64 0]) (by simp [results, Try.results23, go_sem, g0', g1']) rfl ?_
      have hb := HI.out.below
      have ht : l.take k = l := List.take_of_length_le (by omega)
      have h3 := HSN.out
      have h4 := HI.out.fits
      rw [ht] at h3 h4
      have e : cutU (sumN l) = S := U.ext (by rw [cutU_n h4, h3])
      exact ⟨we_eq' (by rw [e]) (by rw [e]) (cutE_lt h4).symm, by go_grown⟩

end Go.Proofs.Ytjdjebhimljedaa
