/-
  CONTRACTS, by values: wide.Of, Add, Less, Times.
-/
import Derived.Test.YtkoiogfhbipmjaaSp
import Derived.Test.YtkoiogfhbipmjaaCm
namespace Go.Proofs.Ytkoiogfhbipmjaa
open Go Go.RowKit

def U.d (u : U) : D.Wd := ⟨hiZ u, loZ u⟩
noncomputable def D.Wd.u (x : D.Wd) : U := opq (fun x : D.Wd => cutU (x.hi * 18446744073709551616 + x.lo).toNat) x
theorem u_d (u : U) : (D.Wd.mk (hiZ u) (loZ u)).u = u := by
  unfold D.Wd.u
  rw [opq_eq]
  have h := u.val
  have hl := u.lt
  refine U.ext ?_
  rw [cutU_n] <;> (dsimp only; omega)
theorem u_d' (u : U) : u.d.u = u := u_d u
theorem mixed : Try.prog.follows .mixedOrders = true := by kernel_rfl
def wof : Spec := mkS ((dCons dU64 dNil)) (fun _ => True) fun p => [.agg (wdG ⟨0, p.1⟩)]
theorem wof_sem : CallSem Try.prog 8 wof := by
  refine semV _ _ _ (fun p => [.v (.int .u64 p.1)]) (fun p => [.a [.int .u64 0, .int .u64 p.1]]) (fun a => rfl) (fun a => rfl) (fun a => rfl) fun a _ w => ?_
  refine (of_any a.1 w).mono ?_
  rintro e w' ⟨rfl, rfl⟩
  exact ⟨rfl, (Below.refl _ _).alloc (Nat.le_refl _) _⟩
noncomputable def wadd : Spec := mkS ((dCons dWd (dCons dWd dNil))) (fun p => (∃ u : U, p.1 = u.d) ∧ ∃ v : U, p.2.1 = v.d) fun p => [.agg (wdG (opq addU p.1.u p.2.1.u).d), .g (.i64 (opq addE p.1.u p.2.1.u))]
theorem wadd_sem : CallSem Try.prog 16 wadd := by
  refine semV _ _ _ (fun p => [.a (wdV p.1), .a (wdV p.2.1)]) (fun p => [.a (wdV (opq addU p.1.u p.2.1.u).d), .v (.int .i64 (opq addE p.1.u p.2.1.u))]) (fun a => rfl) (fun a => rfl) (fun a => rfl) ?_
  simp only [opq_eq]
  rintro ⟨a, b, q⟩ ⟨⟨u, rfl⟩, v, rfl⟩ w
  refine (add_any u v w).mono ?_
  rintro e w' ⟨rfl, hb⟩
  refine ⟨?_, hb⟩
  rw [u_d' u, u_d' v]
  rfl
noncomputable def wless : Spec := mkS ((dCons dWd (dCons dWd dNil))) (fun p => (∃ u : U, p.1 = u.d) ∧ ∃ v : U, p.2.1 = v.d) fun p => [.g (.v (.bool (opq lessB p.1.u p.2.1.u)))]
theorem wless_sem : CallSem Try.prog 20 wless := by
  refine semV _ _ _ (fun p => [.a (wdV p.1), .a (wdV p.2.1)]) (fun p => [.v (.bool (opq lessB p.1.u p.2.1.u))]) (fun a => rfl) (fun a => rfl) (fun a => rfl) ?_
  simp only [opq_eq]
  rintro ⟨a, b, q⟩ ⟨⟨u, rfl⟩, v, rfl⟩ w
  refine (less_any u v w).mono ?_
  rintro e w' ⟨rfl, hb⟩
  refine ⟨?_, hb⟩
  rw [u_d' u, u_d' v]
  rfl
noncomputable def wtimes : Spec := mkS ((dCons dWd (dCons dU64 dNil))) (fun p => (∃ u : U, p.1 = u.d) ∧ 0 ≤ p.2.1 ∧ p.2.1 ≤ 18446744073709551615) fun p => [.agg (wdG (opq timesU p.1.u p.2.1.toNat).d), .g (.i64 (opq timesE p.1.u p.2.1.toNat))]
theorem wtimes_sem : CallSem Try.prog 19 wtimes := by
  refine semV _ _ _ (fun p => [.a (wdV p.1), .v (.int .u64 p.2.1)]) (fun p => [.a (wdV (opq timesU p.1.u p.2.1.toNat).d), .v (.int .i64 (opq timesE p.1.u p.2.1.toNat))]) (fun a => rfl) (fun a => rfl) (fun a => rfl) ?_
  simp only [opq_eq]
  rintro ⟨a, b, q⟩ ⟨⟨u, rfl⟩, h0, h1⟩ w
  obtain ⟨k, rfl⟩ := Int.eq_ofNat_of_zero_le h0
  refine (times_any u k (by dsimp only at h1; omega) w).mono ?_
  rintro e w' ⟨rfl, hb⟩
  refine ⟨?_, hb⟩
  rw [u_d' u]
  rfl
/-- What is known of a function, and that it can be called. -/
def Known (f : FuncId) (s : Spec) : Prop := CallSem Try.prog f s ∧ ∃ fn, Try.prog.funcs[f]? = some fn ∧ (fn.name == "runtime.NumGoroutine") = false ∧ fn.body.isSome = true
theorem known {f : FuncId} {fn : Func} {s : Spec} (h : CallSem Try.prog f s) (hf : Try.prog.funcs[f]? = some fn) (h1 : (fn.name == "runtime.NumGoroutine") = false) (h2 : fn.body.isSome = true) : Known f s := ⟨h, fn, hf, h1, h2⟩
def KnownAll : List (Nat × Spec) → Prop
  | [] => True
  | p :: l => Known p.1 p.2 ∧ KnownAll l
theorem known_mem : ∀ {G : List (Nat × Spec)}, KnownAll G → ∀ f s, (f, s) ∈ G → Known f s
  | [], _, f, s, h => by cases h
  | p :: l, hk, f, s, h => by
    rcases List.mem_cons.1 h with rfl | h
    · exact hk.1
    · exact known_mem hk.2 f s h
noncomputable def env (G : List (Nat × Spec)) (h : KnownAll G) : Env Try.prog := ⟨eqT, kOf, G, fun f s hs => known_mem h f s hs⟩
end Go.Proofs.Ytkoiogfhbipmjaa
