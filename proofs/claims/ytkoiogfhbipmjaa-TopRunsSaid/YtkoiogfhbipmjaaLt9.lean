/-
  CONTRACTS, by the abstract machine: begins4; TopLater.
-/
import Derived.Test.YtkoiogfhbipmjaaOf9
namespace Go.Proofs.Ytkoiogfhbipmjaa
open Go Go.RowKit

theorem G9_ok : KnownAll [(6, cof), (7, evchk), (10, rises), (8, wof)] := ⟨known cof_sem Try.func6 rfl rfl, known evchk_sem Try.func7 rfl rfl, known rises_sem Try.func10 rfl rfl, known wof_sem Try.func8 rfl rfl, trivial⟩
noncomputable def V9 : Env Try.prog := env _ G9_ok
theorem bg4_run (u : Unit) : runs (V9) (Try.f5) ([]) (dNil.enc u) ([.g (.v (.bool true))]) = (True ∧ ((True ∧ True ∧ True) ∧ True ∧ True ∧ True) ∧ ((True ∧ True ∧ True) ∧ True ∧ True ∧ True) ∧ True ∧ True ∧ ((True ∧ True) ∧ True) ∧ ((True ∧ True) ∧ True) ∧ True ∧ True ∧ ((True ∧ True ∧ True) ∧ True ∧ True ∧ True) ∧ ((2 = 2 ∧ True) ∧ (2 = 2 ∧ True) ∧ Nat.le 2 9223372036854775807 ∧ ∀ (e : D.Ev), e ∈ Prod.fst ([D.Ev.mk (3 : Int) (5 : Int) (0 : Int) false, D.Ev.mk (9 : Int) (7 : Int) (0 : Int) false], ()) → EvIn e) ∧ True ∧ True ∧ True ∧ True ∧ ((True ∧ True) ∧ True) ∧ True ∧ True ∧ True ∧ ((True ∧ True ∧ True) ∧ True ∧ True ∧ True) ∧ ((2 = 2 ∧ True) ∧ (2 = 2 ∧ True) ∧ Nat.le 2 9223372036854775807 ∧ ∀ (e : D.Ev), e ∈ Prod.fst ([D.Ev.mk (3 : Int) (5 : Int) (0 : Int) false, D.Ev.mk (9 : Int) (7 : Int) (0 : Int) false], ()) → EvIn e) ∧ True ∧ True ∧ True ∧ True ∧ ((True ∧ True) ∧ True) ∧ True ∧ True ∧ True ∧ True ∧ bif ofE [D.Ev.mk (3 : Int) (5 : Int) (0 : Int) false, D.Ev.mk (9 : Int) (7 : Int) (0 : Int) false] == (0 : Int) then True ∧ True ∧ True ∧ True ∧ True ∧ bif decide (D.Ce.n (Ce.d (ofC [D.Ev.mk (3 : Int) (5 : Int) (0 : Int) false, D.Ev.mk (9 : Int) (7 : Int) (0 : Int) false])) = (2 : Int)) then True ∧ True ∧ ((True ∧ True) ∧ (True ∧ True) ∧ True) ∧ True ∧ True ∧ True ∧ bif eqD (D.Wd.mk (D.Ce.hi (Ce.d (ofC [D.Ev.mk (3 : Int) (5 : Int) (0 : Int) false, D.Ev.mk (9 : Int) (7 : Int) (0 : Int) false]))) (D.Ce.lo (Ce.d (ofC [D.Ev.mk (3 : Int) (5 : Int) (0 : Int) false, D.Ev.mk (9 : Int) (7 : Int) (0 : Int) false])))) (D.Wd.mk (0 : Int) (2 : Int)) then True ∧ True ∧ True ∧ True ∧ True ∧ bif decide (D.Ce.s (Ce.d (ofC [D.Ev.mk (3 : Int) (5 : Int) (0 : Int) false, D.Ev.mk (9 : Int) (7 : Int) (0 : Int) false])) = (6 : Int)) then True ∧ True ∧ True ∧ True ∧ bif decide (risE [D.Ev.mk (3 : Int) (5 : Int) (0 : Int) false, D.Ev.mk (9 : Int) (7 : Int) (0 : Int) false] = (0 : Int)) then True ∧ ((True ∧ True) ∧ (True ∧ True) ∧ True) ∧ True ∧ True ∧ True ∧ bif eqD (riW [D.Ev.mk (3 : Int) (5 : Int) (0 : Int) false, D.Ev.mk (9 : Int) (7 : Int) (0 : Int) false]) (D.Wd.mk (0 : Int) (2 : Int)) then ((True ∧ True) ∧ True ∧ True) ∧ ((True ∧ True) ∧ (True ∧ True) ∧ EvIn (D.Ev.mk (-1 : Int) (0 : Int) (0 : Int) false)) ∧ True ∧ True ∧ True ∧ (True ∧ Value.bool (decide (evE (D.Ev.mk (-1 : Int) (0 : Int) (0 : Int) false) = (2 : Int))) = Value.bool true) ∧ True else True ∧ True ∧ (True ∧ Value.bool false = Value.bool true) ∧ True else True ∧ True ∧ True ∧ True ∧ (True ∧ Value.bool false = Value.bool true) ∧ True else True ∧ True ∧ True ∧ True ∧ True ∧ True ∧ (True ∧ Value.bool false = Value.bool true) ∧ True else True ∧ True ∧ True ∧ True ∧ True ∧ True ∧ True ∧ True ∧ (True ∧ Value.bool false = Value.bool true) ∧ True else True ∧ True ∧ True ∧ True ∧ True ∧ True ∧ True ∧ True ∧ True ∧ True ∧ (True ∧ Value.bool false = Value.bool true) ∧ True else True ∧ True ∧ True ∧ True ∧ True ∧ True ∧ True ∧ True ∧ True ∧ True ∧ True ∧ True ∧ (True ∧ Value.bool false = Value.bool true) ∧ True) := by kernel_rfl
noncomputable def bg4 : Spec := mkS dNil (fun _ => True) fun _ => [.g (.v (.bool true))]
abbrev ba : Ev := ⟨3, 5, 0, false⟩
abbrev bb : Ev := ⟨9, 7, 0, false⟩
theorem ba_ok : EvOk ba := by constructor <;> first | decide | (intro h; cases h)
theorem bb_ok : EvOk bb := by constructor <;> first | decide | (intro h; cases h)
theorem bab_me : meC (oneC ba) (oneC bb) = ⟨2, ba, bb, cutU 2, 0, 0, 6⟩ ∧ meE (oneC ba) (oneC bb) = 0 :=
  me_lit (k := 0) (m := 0) (j := 2) (oneC_ok.2 ba_ok) (oneC_ok.2 bb_ok) (by decide) (by decide) (by decide) z_n z_n rfl rfl rfl rfl (by omega) rfl rfl rfl rfl rfl rfl
theorem bab_of : ofC [ba, bb] = ⟨2, ba, bb, cutU 2, 0, 0, 6⟩ ∧ ofE [ba, bb] = 0 := by
  have hok : AllOk [ba, bb] := fun j hj => by
    match j, hj with
    | 0, _ => exact ba_ok
    | 1, _ => exact bb_ok
  obtain ⟨e1, e2⟩ := ofC_yes hok
  have h := all2 (oneC_ok.2 ba_ok) bab_me
  exact ⟨e1.trans (h.1.trans (if_pos rfl)), e2.trans h.2⟩
theorem bab_ris : risE [ba, bb] = 0 ∧ riW [ba, bb] = ⟨0, 2⟩ := by
  obtain ⟨h1, h2⟩ := ris_of bab_of.2
  refine ⟨h1, ?_⟩
  unfold riW
  rw [h2, bab_of.1, show (cutU 2).n = 2 from cutU_n (by omega), show cutU 2 = U.small 2 (by omega) from U.ext (cutU_n (by omega))]
  rfl
theorem bg4_sem : CallSem Try.prog 5 bg4 := by
  refine semS V9 mixed Try.func5 dNil _ _ (fun _ => []) (fun a => ⟨rfl, rfl, rfl⟩) ?_
  intro u _
  refine Eq.mpr (bg4_run u) ?_
  simp only [true_and, and_true]
  have hin : ∀ e : D.Ev, e ∈ [(⟨3, 5, 0, false⟩ : D.Ev), ⟨9, 7, 0, false⟩] → EvIn e := fun e he => by
    simp only [List.mem_cons, List.not_mem_nil, or_false] at he
    rcases he with rfl | rfl
    · exact ba_ok.in
    · exact bb_ok.in
  have hle : Nat.le 2 9223372036854775807 := show (2 : Nat) ≤ 9223372036854775807 by omega
  have e1 : ofE [(⟨3, 5, 0, false⟩ : D.Ev), ⟨9, 7, 0, false⟩] = 0 := bab_of.2
  have e2 : ofC [(⟨3, 5, 0, false⟩ : D.Ev), ⟨9, 7, 0, false⟩] = ⟨2, ba, bb, cutU 2, 0, 0, 6⟩ := bab_of.1
  have e3 : risE [(⟨3, 5, 0, false⟩ : D.Ev), ⟨9, 7, 0, false⟩] = 0 := bab_ris.1
  have e4 : riW [(⟨3, 5, 0, false⟩ : D.Ev), ⟨9, 7, 0, false⟩] = ⟨0, 2⟩ := bab_ris.2
  have e5 : hiZ (cutU 2) = 0 ∧ loZ (cutU 2) = 2 := by
    rw [show cutU 2 = U.small 2 (by omega) from U.ext (cutU_n (by omega))]
    exact ⟨rfl, rfl⟩
  rw [e1, e2, e3, e4]
  simp only [d_n, d_hi, d_lo, d_s, e5.1, e5.2, eqD_yes rfl]
  refine ⟨⟨hle, hin⟩, ⟨hle, hin⟩, en_in, ?_⟩
  rw [evE_no en_no]
  rfl
end Go.Proofs.Ytkoiogfhbipmjaa
