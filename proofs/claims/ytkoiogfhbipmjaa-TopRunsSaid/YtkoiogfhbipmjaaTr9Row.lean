/-
  plimsolltop.TopRuns answers true, whatever its arguments (any runs, any number), and leaves them as they were.
-/
import Derived.Test.YtkoiogfhbipmjaaTr9
import Derived.Test.YtkoiogfhbipmjaaFr9
namespace Go.Proofs.Ytkoiogfhbipmjaa.topRuns
open Go Go.ChangeShapes Go.WideShapes Go.ChangeAt Go.RowKit Go.Joins
open Go.ChangeMaps (open_string shut_string)

set_option maxRecDepth 100000 in
theorem lifted (os : Os) (started : os.Started) (H : Type) (enc : TypeId × Value → H) :
    ReturnsInHanded {} Try.checked os 4 .any (Rows.topRunsSpec.pre6 enc Try.prog Try.f4 [] false) (Rows.topRunsSpec.post enc Try.prog Try.f4 false true false false) := by
  refine returnsInHanded_of_change (C := Try.checked) own started (by kernel_rfl) Try.func4
    (ChangeSpec.witness6 (enc := enc) (C := Try.checked) false ⟨#[], #[.slice none 0 0, .int .u8 0], []⟩ 8 (by kernel_rfl) (by kernel_rfl) (by kernel_rfl) (by kernel_rfl)) ?_
  intro W base args ds gs before hval0 hW _ _
  have hval : ∀ (j : Nat) t v, Try.f4.params[j]? = some t → args[j]? = some v → Value.okWide Try.prog W .any base t v := hval0
  have hW' := hW
  obtain ⟨p, q, hA0, hV, rfl, hfz, hnd⟩ := hW
  have hA : DataW.TrodAll enc Try.prog W 0 (fun _ => true) true Try.f4.params.toList args.toList ds p := hA0
  rw [Try.params4] at hA hval
  obtain ⟨v0, vs0, d0, ds0, p0, q0, hargs, rfl, rfl, h0, r0⟩ := trodAll_cons hA
  obtain ⟨v1, vs1, d1, ds1, p1, q1, rfl, rfl, rfl, h1, r1⟩ := trodAll_cons r0
  obtain ⟨rfl, rfl, rfl⟩ := trodAll_nil r1
  obtain rfl : args = #[v0, v1] := by cases args; simp_all
  obtain ⟨rfl, rfl⟩ := trodVars_none hV
  have hpost := fun W' (hb : Below W.heap.size W W') => law_post (W' := W') laidOut hW' rfl (by kernel_rfl) hb rfl (by kernel_rfl) Try.underlying4
  clear hA0 hval0
  obtain ⟨ao0, b0, off0, cap0, l0, rfl, hm0, hat0, hcap0⟩ := open_runs (hval 0 36 v0 rfl rfl) h0
  obtain ⟨n1, rfl, rfl, rfl, wn1⟩ := open_int Try.underlying5 (hval 1 5 v1 rfl rfl) h1
  obtain ⟨n1a, n1b⟩ := wf_u8 wn1
  obtain ⟨k1, rfl⟩ := Int.eq_ofNat_of_zero_le n1a
  refine (law_of tra_sem ((dCons dU16s (dCons dU8 dNil)).enc (l0, (k1 : Int), ())) [.slice ao0 l0.length cap0, .int .u8 k1] W (show (_ : CRes).p from ⟨hat0.bd, by omega, by omega⟩) rfl rfl ⟨hat0.g hcap0.1 hcap0.2, GRep.v _ rfl, trivial⟩ rfl).mono fun e W' ⟨he, hb⟩ => ?_
  exact ⟨_, he, hpost W' hb⟩

theorem proved : Rows.TopRunsSaid :=
  OpenClaim.holds_of_wide 4 Try.f4 rfl rfl rfl rfl rfl rfl rfl ⟨rfl, rfl, rfl, rfl, rfl⟩ rfl rfl rfl rfl rfl (by kernel_rfl) Try.func4 (by kernel_rfl)
    (of_decide_eq_true (by kernel_rfl)) (by unfold Func.isWrapper; first | (rw [if_pos (by decide +kernel)]; kernel_rfl) | (rw [if_neg (by decide +kernel)]; exact ⟨rfl, rfl⟩))
    (fun os started H enc _ => lifted os started H enc)
#print axioms proved
end Go.Proofs.Ytkoiogfhbipmjaa.topRuns
