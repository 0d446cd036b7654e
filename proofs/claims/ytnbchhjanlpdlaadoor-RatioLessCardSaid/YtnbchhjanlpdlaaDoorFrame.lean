/-
  THE FRAME OF THE ROWS: what the listed tables give a walk; a world that meets the condition; arguments that are numbers of 128 bits opened and shut.
-/
import Derived.Test.YtnbchhjanlpdlaaDoorRows
import Derived.Test.YtnbchhjanlpdlaaDoorTie
import Derived.Test.YtnbchhjanlpdlaaDoorFmt
import Derived.ProofKit
import Derived.OpenShut
import Derived.LaidMore
import Derived.Stop.Joined
import Derived.Lib.SmallJoins
namespace Go.Proofs.YtnbchhjanlpdlaaDoor
open Go Go.ChangeShapes Go.WideShapes Go.ChangeAt Go.RowKit Go.Joins

theorem own : ownKnob Tryd.prog.godebug = none := by kernel_rfl
def laid3 : List (String × DataW Unit) := [("math/bits.deBruijn32tab", Rows.laid_math_bits_deBruijn32tab), ("math/bits.deBruijn64tab", Rows.laid_math_bits_deBruijn64tab), ("internal/strconv.uint64pow10", Rows.laid_internal_strconv_uint64pow10)]

theorem tab_eq : (Rows.laid_internal_strconv_uint64pow10 : DataW Unit) = Lib.tabData .u64 Lib.pow10Tab := by rfl
theorem tabTy : (Tryd.prog.globals[3]?).map (·.type) = some 93 := by kernel_rfl
theorem tabC : Tryd.prog.cellsOf 93 = 20 := by kernel_rfl
theorem tabE : Tryd.prog.cellsOf 22 = 1 := by kernel_rfl
theorem tabs_of_laid3 {W : World} (h : laidMetH Tryd.prog laid3 W) : tabs W := by
  rw [MakeChecks.laidMetH_plain _ _ _ (by kernel_rfl)] at h
  obtain ⟨ps, ⟨g0, t0, cs0, f0, p0, q0, hg0, ht0, hv0, hd0, ⟨g1, t1, cs1, f1, p1, q1, hg1, ht1, hv1, hd1, ⟨g2, t2, cs2, f2, p2, q2, hg2, ht2, hv2, hd2, _⟩, _⟩, _⟩, _⟩ := h
  obtain rfl := Option.some.inj (gtab.symm.trans hg2)
  obtain rfl := Option.some.inj (tabTy.symm.trans ht2)
  rw [tab_eq] at hd2
  have e := Lib.cells_of_tab Tryd.underlying93 Tryd.underlying22 tabE tabC hd2
  show W.var? Tryd.prog "internal/strconv.uint64pow10" = _
  rw [hv2, ← e]

theorem wfields : Tryd.prog.underlying 24 = some (.struct (Tryd.prog.fieldsOf 24)) := by kernel_rfl
theorem cellsW : Tryd.prog.cellsOf 24 = 2 := by kernel_rfl
theorem door_met (os : Os) (args : Array Value) : laidMetH Tryd.prog laid3 ((World.doorLaid Tryd.prog 4000 os).forCall (fun _ _ => 0) ⟨#[], args, []⟩).memory :=
  laidMetH_of_parts3 (fuel := 8) (laidMet_of_run' 8 (by kernel_rfl) (by kernel_rfl)) (by kernel_rfl) (by kernel_rfl)

theorem wf_u64 {n : Int} (h : (Lit.int .u64 n).wf = true) : 0 ≤ n ∧ n ≤ 18446744073709551615 := by
  simp [Lit.wf, IntKind.min, IntKind.max, IntKind.bits, IntKind.signed] at h
  omega
theorem wf_u64' {n : Int} (h : 0 ≤ n) (h' : n ≤ 18446744073709551615) : (Lit.int .u64 n).wf = true := WalkArith.wf_u64 (by omega)

section
variable {H : Type} {enc : TypeId × Value → H} {W : World} {sp : Nat → Bool}
set_option maxRecDepth 100000 in
/-- Where the arguments hold no memory: what the row asks behind the call, of a world of which 'Below' alone is known. -/
theorem post_plain {P : Program} {f : Func} {s : ChangeSpec} {apart fresh handsOn again : Bool} {W' : World} {args : Array Value} {v : Value} {ds gs : List (DataW H)} (hW : DataW.Whole enc P f.params.toList s.vars apart W args.toList ds gs [])
    (hb : Below W.heap.size W W') (hargs : ∀ k : Nat → Bool, DataW.TrodAll enc P W' 0 k true f.params.toList args.toList (s.fn H (ds ++ gs)).args [])
    (hres : ∀ (b : Nat) (k : Nat → Bool) (hd : Bool), DataW.TrodAll enc P W' b k hd f.resultTypes.toList (v.resultList f.resultTypes.size) (s.fn H (ds ++ gs)).results [])
    (hvars : ∀ k : Nat → Bool, DataW.TrodVars enc P W' k s.vars (s.fn H (ds ++ gs)).vars [])
    (hok : ∀ (j : Nat) (t : TypeId) (r : Value), f.resultTypes[j]? = some t → (v.resultList f.resultTypes.size)[j]? = some r → Value.okWide P W' .any 0 t r) :
    s.post enc P f apart fresh handsOn again W args v W' := by
  have kept := hb.frame fun _ => False
  refine ⟨ds, gs, [], [], [], [], hW, hres _ _ _, hargs _, hvars _, World.keptBut_mono (fun _ h => h.elim) kept, fun _ => ⟨hok, (s.fn H (ds ++ gs)).results ++ (s.fn H (ds ++ gs)).args, (s.fn H (ds ++ gs)).vars, [], ?_, ?_⟩⟩
  · refine ⟨[], [], trodAll_append (hargs _) (hres _ _ _), hvars _, rfl, ?_, fun _ => List.nodup_nil⟩
    intro _ _ h
    cases h
  · intro _ h
    cases h
set_option maxRecDepth 100000 in
/-- A number of 128 bits that came in, opened. -/
theorem open_wide {r : Reach} {b0 base : Nat} {held : Bool} {v : Value} {d : DataW H} {p : List MemPlace} (hv : Value.okWide Tryd.prog W r b0 24 v) (h : DataW.Trod enc Tryd.prog W base sp held 24 v d p) :
    ∃ a : U, v = .agg #[.int .u64 (hiZ a), .int .u64 (loZ a)] ∧ d = .agg [.lit (.int .u64 (hiZ a)), .lit (.int .u64 (loZ a))] ∧ p = [] := by
  obtain ⟨c0, c1, y0, y1, m, rfl, rfl, rfl, hy0, hy1⟩ := open_agg2 Tryd.underlying24 (by kernel_rfl) cellsW hv h
  obtain ⟨x, e0, rfl, wx⟩ := DataW.trod_int Tryd.underlying22 hy0
  obtain ⟨y, e1, rfl, wy⟩ := DataW.trod_int Tryd.underlying22 hy1
  simp at e0 e1
  subst e0 e1
  obtain ⟨x0, x1⟩ := wf_u64 wx
  obtain ⟨z0, z1⟩ := wf_u64 wy
  obtain ⟨a, rfl, rfl, _⟩ := U.of_halves x y x0 x1 z0 z1
  exact ⟨a, rfl, rfl, rfl⟩
set_option maxRecDepth 100000 in
/-- .. and shut, in any world. -/
theorem shut_wide (a : U) {base : Nat} {held : Bool} : DataW.Trod enc Tryd.prog W base sp held 24 (.agg #[.int .u64 (hiZ a), .int .u64 (loZ a)]) (.agg [.lit (.int .u64 (hiZ a)), .lit (.int .u64 (loZ a))]) [] :=
  shut_agg2 (y0 := (.lit (.int .u64 (hiZ a)), [])) (y1 := (.lit (.int .u64 (loZ a)), [])) Tryd.underlying24 (by kernel_rfl) cellsW
    ⟨1, by simp [DataW.trod, Tryd.underlying22, wf_u64' (hiZ_nonneg a) (hiZ_le a)]⟩ ⟨1, by simp [DataW.trod, Tryd.underlying22, wf_u64' (loZ_nonneg a) (loZ_le a)]⟩
end
end Go.Proofs.YtnbchhjanlpdlaaDoor
