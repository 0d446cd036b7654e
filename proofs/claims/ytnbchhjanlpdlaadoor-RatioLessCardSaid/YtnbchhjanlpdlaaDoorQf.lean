/-
  THE FRAME OF THE ROWS OF ratio: the four listed variables; plimsollref02.one reads 1.
-/
import Derived.Test.YtnbchhjanlpdlaaDoorFrame3
import Derived.Test.YtnbchhjanlpdlaaDoorQc
namespace Go.Proofs.YtnbchhjanlpdlaaDoor
open Go Go.ChangeShapes Go.WideShapes Go.ChangeAt Go.RowKit Go.Joins

def laid4 : List (String × DataW Unit) := [("math/bits.deBruijn32tab", Rows.laid_math_bits_deBruijn32tab), ("math/bits.deBruijn64tab", Rows.laid_math_bits_deBruijn64tab), ("internal/strconv.uint64pow10", Rows.laid_internal_strconv_uint64pow10), ("plimsoll/plimsollref02.one", Rows.laid_plimsoll_plimsollref02_one)]
theorem door_met4 (os : Os) (args : Array Value) : laidMetH Tryd.prog laid4 ((World.doorLaid Tryd.prog 4000 os).forCall (fun _ _ => 0) ⟨#[], args, []⟩).memory :=
  laidMetH_of_parts3 (fuel := 8) (laidMet_of_run' 8 (by kernel_rfl) (by kernel_rfl)) (by kernel_rfl) (by kernel_rfl)
theorem gone : Tryd.prog.globalNamed "plimsoll/plimsollref02.one" = some 0 := by kernel_rfl
theorem oneTy : (Tryd.prog.globals[0]?).map (·.type) = some 24 := by kernel_rfl
theorem of_laid4 {W : World} (h : laidMetH Tryd.prog laid4 W) : tabs W ∧ OneW W := by
  rw [MakeChecks.laidMetH_plain _ _ _ (by kernel_rfl)] at h
  obtain ⟨ps, ⟨g0, t0, cs0, f0, p0, q0, hg0, ht0, hv0, hd0, ⟨g1, t1, cs1, f1, p1, q1, hg1, ht1, hv1, hd1, ⟨g2, t2, cs2, f2, p2, q2, hg2, ht2, hv2, hd2, ⟨g3, t3, cs3, f3, p3, q3, hg3, ht3, hv3, hd3, _⟩, _⟩, _⟩, _⟩, _⟩ := h
  refine ⟨?_, ?_⟩
  · obtain rfl := Option.some.inj (gtab.symm.trans hg2)
    obtain rfl := Option.some.inj (tabTy.symm.trans ht2)
    rw [tab_eq] at hd2
    have e := Lib.cells_of_tab Tryd.underlying93 Tryd.underlying22 tabE tabC hd2
    show W.var? Tryd.prog "internal/strconv.uint64pow10" = _
    rw [hv2, ← e]
  · obtain rfl := Option.some.inj (gone.symm.trans hg3)
    obtain rfl := Option.some.inj (oneTy.symm.trans ht3)
    obtain ⟨_, _, _, _, hlen, _, _⟩ := trod_struct2 Tryd.underlying24 hd3
    rw [cellsW] at hlen
    obtain ⟨c0, c1, hcs⟩ : ∃ c0 c1, cs3.toList = [c0, c1] := by
      match h : cs3.toList, hlen with
      | [c0, c1], _ => exact ⟨c0, c1, rfl⟩
    rw [hcs] at hd3
    obtain ⟨a, rfl, rfl, he⟩ := open_wl hd3
    have e0 : hiZ a = 0 ∧ loZ a = 1 := by
      have h := congrArg Prod.fst he
      simp [Rows.laid_plimsoll_plimsollref02_one] at h
      exact ⟨h.1.symm, h.2.symm⟩
    have hc : cs3 = #[.int .u64 0, .int .u64 1] := by rw [← e0.1, ← e0.2]; exact Array.toList_inj.1 (by rw [hcs])
    subst hc
    unfold World.var? at hv3
    rw [gone] at hv3
    have hb : ∃ t fr, W.heap[0]? = some (.cells #[.int .u64 0, .int .u64 1] t fr) := by
      simp only [Option.bind_some] at hv3
      split at hv3
      · rename_i cs t fr heq
        obtain rfl := Option.some.inj hv3
        exact ⟨t, fr, heq⟩
      · cases hv3
    obtain ⟨t, fr, hb⟩ := hb
    exact ⟨by rw [cell_blk hb]; rfl, by rw [cell_blk hb]; rfl, blk_lt hb⟩
end Go.Proofs.YtnbchhjanlpdlaaDoor
