/-
  plimsolltop.TopLater answers true, whatever its arguments (any list of events, any number), and leaves them as they were.
-/
import Derived.Test.YtkoiogfhbipmjaaTl9
import Derived.Test.YtkoiogfhbipmjaaFr9
namespace Go.Proofs.Ytkoiogfhbipmjaa.topLater
open Go Go.ChangeShapes Go.WideShapes Go.ChangeAt Go.RowKit Go.Joins
open Go.ChangeMaps (open_string shut_string)

set_option maxRecDepth 100000 in
theorem lifted (os : Os) (started : os.Started) (H : Type) (enc : TypeId × Value → H) :
    ReturnsInHanded {} Try.checked os 3 .any (Rows.topLaterSpec.pre6 enc Try.prog Try.f3 [] false) (Rows.topLaterSpec.post enc Try.prog Try.f3 false true false false) := by
  refine returnsInHanded_of_change (C := Try.checked) own started (by kernel_rfl) Try.func3
    (ChangeSpec.witness6 (enc := enc) (C := Try.checked) false ⟨#[], #[.slice none 0 0, .int .i64 0], []⟩ 8 (by kernel_rfl) (by kernel_rfl) (by kernel_rfl) (by kernel_rfl)) ?_
  intro W base args ds gs before hval0 hW _ _
  have hval : ∀ (j : Nat) t v, Try.f3.params[j]? = some t → args[j]? = some v → Value.okWide Try.prog W .any base t v := hval0
  have hW' := hW
  obtain ⟨p, q, hA0, hV, rfl, hfz, hnd⟩ := hW
  have hA : DataW.TrodAll enc Try.prog W 0 (fun _ => true) true Try.f3.params.toList args.toList ds p := hA0
  rw [Try.params3] at hA hval
  obtain ⟨v0, vs0, d0, ds0, p0, q0, hargs, rfl, rfl, h0, r0⟩ := trodAll_cons hA
  obtain ⟨v1, vs1, d1, ds1, p1, q1, rfl, rfl, rfl, h1, r1⟩ := trodAll_cons r0
  obtain ⟨rfl, rfl, rfl⟩ := trodAll_nil r1
  obtain rfl : args = #[v0, v1] := by cases args; simp_all
  obtain ⟨rfl, rfl⟩ := trodVars_none hV
  have hpost := fun W' (hb : Below W.heap.size W W') => law_post (W' := W') laidOut hW' rfl (by kernel_rfl) hb rfl (by kernel_rfl) Try.underlying4
  clear hA0 hval0
  obtain ⟨ao0, b0, off0, cap0, l0, rfl, hm0, hat0, hcap0⟩ := open_evs (hval 0 22 v0 rfl rfl) h0
  obtain ⟨n1, rfl, rfl, rfl, wn1⟩ := open_int Try.underlying2 (hval 1 2 v1 rfl rfl) h1
  obtain ⟨n1a, n1b⟩ := wf_i64 wn1
  refine (law_of tla_sem (((dCons dEvs (dCons dI64 dNil))).enc (l0, n1, ())) [.slice ao0 l0.length cap0, .int .i64 n1] W (show (_ : CRes).p from ⟨Nat.le_trans hm0 (by decide), fun e he => (by obtain ⟨j, hj, rfl⟩ := List.mem_iff_getElem.1 he; exact hat0.fits j hj), n1a, n1b⟩) rfl rfl ⟨hat0.g hcap0.1 hcap0.2, GRep.v _ rfl, trivial⟩ rfl).mono fun e W' ⟨he, hb⟩ => ?_
  exact ⟨_, he, hpost W' hb⟩

theorem proved : Rows.TopLaterSaid :=
  OpenClaim.holds_of_wide 3 Try.f3 rfl rfl rfl rfl rfl rfl rfl ⟨rfl, rfl, rfl, rfl, rfl⟩ rfl rfl rfl rfl rfl (by kernel_rfl) Try.func3 (by kernel_rfl)
    (of_decide_eq_true (by kernel_rfl)) (by unfold Func.isWrapper; first | (rw [if_pos (by decide +kernel)]; kernel_rfl) | (rw [if_neg (by decide +kernel)]; exact ⟨rfl, rfl⟩))
    (fun os started H enc _ => lifted os started H enc)
#print axioms proved
end Go.Proofs.Ytkoiogfhbipmjaa.topLater
