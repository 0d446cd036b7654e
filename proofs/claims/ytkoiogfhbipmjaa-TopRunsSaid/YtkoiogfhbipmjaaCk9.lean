/-
  CONTRACTS, by the abstract machine: cell.isZero, areRightEnds, areRightNumbers, Check.
-/
import Derived.Test.YtkoiogfhbipmjaaRi9
namespace Go.Proofs.Ytkoiogfhbipmjaa
open Go Go.RowKit

/-- A contract over cells, told by what they are. -/
def mkE {α β : Type} (d : Dec α) (e : β → α) (o : α → β) (p : β → Prop) (r : β → List RV) : Spec := mkS d (fun a => ∃ b, a = e b ∧ p b) fun a => r (o a)
theorem semE {α β : Type} {P : Program} (V : Env P) (hm : P.follows .mixedOrders = true) {f : FuncId} {fn : Func} (hf : P.funcs[f]? = some fn) (d : Dec α) (e : β → α) (o : α → β) (p : β → Prop) (r : β → List RV) (L : β → List (Nat × LTr)) (ho : ∀ b, o (e b) = b)
    (h0 : ∀ a, noRef (d.enc a) = true ∧ Nat.ble (d.enc a).length fn.ntmps = true ∧ Nat.ble (frOf (r (o a))).length 1 = true)
    (h : ∀ b, p b → runs V fn (L b) (d.enc (e b)) (r b)) : CallSem P f (mkE d e o p r) := by
  refine semS V hm hf d _ _ (fun a => L (o a)) h0 ?_
  rintro a ⟨b, rfl, hb⟩
  rw [ho]
  exact h b hb
theorem u_zero : (D.Wd.mk 0 0).u = U.zero := u_d U.zero
theorem ceO_zero : ceO ⟨0, ⟨0, 0, 0, false⟩, ⟨0, 0, 0, false⟩, 0, 0, 0, 0, 0⟩ = zeroCe := ce_d zeroCe
theorem ceO_one (e : Ev) : ceO ⟨1, e, e, 0, 0, 0, 0, 0⟩ = oneC e := by
  have h := ce_d (oneC e)
  rw [show (oneC e).i = U.zero from rfl, zero_hi, zero_lo] at h
  exact h
theorem d_inj {x y : Ce} : eqD x.d y.d = eqD x y := by
  by_cases h : x = y
  · rw [eqD_yes h, eqD_yes (congrArg Ce.d h)]
  · rw [eqD_no h, eqD_no fun e => h (by rw [← ce_d' x, e, ce_d'])]
theorem d_inj' {x y : Ce} : eqD (D.Ce.mk x.n x.f x.l (hiZ x.i) (loZ x.i) x.r x.g x.s) (D.Ce.mk y.n y.f y.l (hiZ y.i) (loZ y.i) y.r y.g y.s) = eqD x y := d_inj
theorem d_zero {x : Ce} : eqD (D.Ce.mk x.n x.f x.l (hiZ x.i) (loZ x.i) x.r x.g x.s) ⟨0, ⟨0, 0, 0, false⟩, ⟨0, 0, 0, false⟩, 0, 0, 0, 0, 0⟩ = eqD x zeroCe := d_inj (y := zeroCe)
theorem d_zero' {x : Ce} : eqD (D.Ce.mk x.n x.f x.l (hiZ x.i) (loZ x.i) x.r x.g x.s) (D.Ce.mk 0 (D.Ev.mk 0 0 0 false) (D.Ev.mk 0 0 0 false) 0 0 0 0 0) = eqD x zeroCe := d_zero
abbrev d1C : Dec (D.Ce × Unit) := (dCons dCe dNil)
abbrev e1C (x : Ce) : D.Ce × Unit := (x.d, ())
noncomputable abbrev o1C (a : D.Ce × Unit) : Ce := ceO a.1
noncomputable def isz : Spec := mkE d1C e1C o1C (fun _ => True) fun x => [.g (.v (.bool (eqD x zeroCe)))]
theorem isz_run (x : Ce) : runs (V2) (Try.f12) ([]) (d1C.enc (e1C x)) ([.g (.v (.bool (eqD x zeroCe)))]) = (((True ∧ True) ∧ True) ∧ True ∧ True ∧ (True ∧ True) ∧ True ∧ True ∧ (True ∧ Value.bool (eqD (D.Ce.mk (Ce.n x) (Ce.f x) (Ce.l x) (hiZ (Ce.i x)) (loZ (Ce.i x)) (Ce.r x) (Ce.g x) (Ce.s x)) (D.Ce.mk (0 : Int) (D.Ev.mk (0 : Int) (0 : Int) (0 : Int) false) (D.Ev.mk (0 : Int) (0 : Int) (0 : Int) false) (0 : Int) (0 : Int) (0 : Int) (0 : Int) (0 : Int))) = Value.bool (eqD x (Ce.mk (0 : Int) (D.Ev.mk (0 : Int) (0 : Int) (0 : Int) false) (D.Ev.mk (0 : Int) (0 : Int) (0 : Int) false) (U.mk 0 U.zero._proof_2) (0 : Int) (0 : Int) (0 : Int)))) ∧ True) := by kernel_rfl
theorem isz_sem : CallSem Try.prog 12 isz := by
  refine semE V2 mixed Try.func12 d1C e1C o1C _ _ (fun _ => []) (fun b => ce_d' b) (fun a => ⟨rfl, rfl, rfl⟩) fun x _ => ?_
  refine Eq.mpr (isz_run x) ?_
  simp only [true_and, and_true]
  rw [show eqD (D.Ce.mk x.n x.f x.l (hiZ x.i) (loZ x.i) x.r x.g x.s) ⟨0, ⟨0, 0, 0, false⟩, ⟨0, 0, 0, false⟩, 0, 0, 0, 0, 0⟩ = eqD x zeroCe from d_zero]
  rfl
open Classical in
noncomputable def endsB (x : Ce) : Bool := decide (EndsOk x)
theorem endsB_yes {x : Ce} (h : EndsOk x) : endsB x = true := by unfold endsB; simpa using h
theorem endsB_no {x : Ce} (h : ¬ EndsOk x) : endsB x = false := by unfold endsB; simpa using h
open Classical in
noncomputable def numsB (x : Ce) : Bool := decide (NumsOk x)
theorem numsB_yes {x : Ce} (h : NumsOk x) : numsB x = true := by unfold numsB; simpa using h
theorem numsB_no {x : Ce} (h : ¬ NumsOk x) : numsB x = false := by unfold numsB; simpa using h
theorem G3_ok : KnownAll [(7, evchk), (18, foll), (8, wof), (19, wtimes), (20, wless), (12, isz)] := ⟨known evchk_sem Try.func7 rfl rfl, known foll_sem Try.func18 rfl rfl, known wof_sem Try.func8 rfl rfl, known wtimes_sem Try.func19 rfl rfl, known wless_sem Try.func20 rfl rfl, known isz_sem Try.func12 rfl rfl, trivial⟩
noncomputable def V3 : Env Try.prog := env _ G3_ok
noncomputable def rends : Spec := mkE d1C e1C o1C CeIn fun x => [.g (.v (.bool (endsB x)))]
theorem rends_run (x : Ce) : runs (V3) (Try.f13) ([]) (d1C.enc (e1C x)) ([.g (.v (.bool (endsB x)))]) = (((True ∧ True) ∧ True) ∧ True ∧ True ∧ True ∧ True ∧ bif Ce.n x == (1 : Int) then True ∧ True ∧ ((True ∧ True) ∧ (True ∧ True) ∧ EvIn (Ce.f x)) ∧ True ∧ True ∧ bif evE (Ce.f x) == (0 : Int) then True ∧ True ∧ True ∧ True ∧ True ∧ True ∧ True ∧ (True ∧ Value.bool (eqD (Ce.f x) (Ce.l x)) = Value.bool (endsB x)) ∧ True else True ∧ True ∧ (True ∧ Value.bool false = Value.bool (endsB x)) ∧ True else True ∧ True ∧ True ∧ True ∧ bif decide (Ce.n x > (1 : Int)) then True ∧ True ∧ True ∧ True ∧ ((True ∧ True ∧ True) ∧ (True ∧ True ∧ True) ∧ EvIn (Ce.f x) ∧ EvIn (Ce.l x)) ∧ True ∧ True ∧ bif folB (Ce.f x) (Ce.l x) then True ∧ True ∧ True ∧ True ∧ True ∧ True ∧ True ∧ True ∧ True ∧ True ∧ True ∧ True ∧ True ∧ (True ∧ Value.bool (decide (Ce.n x ≤ IntKind.wrap IntKind.i64 (IntKind.wrap IntKind.i64 (D.Ev.t (Ce.l x) - D.Ev.t (Ce.f x)) + (1 : Int)))) = Value.bool (endsB x)) ∧ True else True ∧ True ∧ (True ∧ Value.bool false = Value.bool (endsB x)) ∧ True else True ∧ True ∧ True ∧ True ∧ (True ∧ Value.bool false = Value.bool (endsB x)) ∧ True) := by kernel_rfl
theorem rends_sem : CallSem Try.prog 13 rends := by
  refine semE V3 mixed Try.func13 d1C e1C o1C _ _ (fun _ => []) (fun b => ce_d' b) (fun a => ⟨rfl, rfl, rfl⟩) fun x hx => ?_
  refine Eq.mpr (rends_run x) ?_
  simp only [true_and, and_true, hx.f, hx.l]
  rw [folB_e]
  by_cases h1 : x.n = 1
  · rw [show (x.n == 1) = true from by simp [h1]]
    simp only [cond_true]
    by_cases hf : EvOk x.f
    · rw [evE_yes hf]
      refine congrArg Value.bool ?_
      by_cases he : x.f = x.l
      · rw [eqD_yes he, endsB_yes ⟨by omega, hf, he ▸ hf, fun _ => he, fun h => by omega, by rw [he, h1]; omega⟩]
      · rw [eqD_no he, endsB_no fun h => he (h.one h1)]
    · rw [evE_no hf, endsB_no fun h => hf h.f]
      rfl
  · rw [show (x.n == 1) = false from by simp [h1]]
    simp only [cond_false]
    by_cases h2 : x.n > 1
    · simp only [h2, decide_true, cond_true]
      by_cases hf : Fol x.f x.l
      · have hbe := beE_good hf.1 hf.2.1 hf.2.2
        have a1 := hf.1.t0; have a2 := hf.1.t1; have a3 := hf.2.1.t0; have a4 := hf.2.1.t1; have a5 := hf.2.2
        rw [hbe, IntWalk.i64_in (x.l.t - x.f.t) (by omega), IntWalk.i64_in _ (by omega)]
        refine congrArg Value.bool ?_
        by_cases h3 : x.n ≤ x.l.t - x.f.t + 1
        · rw [endsB_yes ⟨by omega, hf.1, hf.2.1, fun h => absurd h h1, fun _ => hf.2.2, h3⟩]; simpa using h3
        · rw [endsB_no fun h => h3 h.le]; simpa using h3
      · have hbe : (beE x.f x.l == 0) = false := by
          cases hq : (beE x.f x.l == 0) with
          | false => rfl
          | true =>
            rw [← folB_e, folB_iff] at hq
            exact absurd hq hf
        rw [hbe, endsB_no fun h => hf ⟨h.f, h.l, h.more h2⟩]
        rfl
    · simp only [h2, decide_false, cond_false]
      rw [endsB_no fun h => by have := h.n; omega]
noncomputable def rnums : Spec := mkE d1C e1C o1C (fun x => CeIn x ∧ EndsOk x) fun x => [.g (.v (.bool (numsB x)))]
theorem rnums_run (x : Ce) : runs (V3) (Try.f14) ([]) (d1C.enc (e1C x)) ([.g (.v (.bool (numsB x)))]) = (((True ∧ True) ∧ True) ∧ True ∧ True ∧ True ∧ True ∧ True ∧ bif decide (Ce.r x < (0 : Int)) then True ∧ True ∧ True ∧ True ∧ True ∧ True ∧ (True ∧ Value.bool false = Value.bool (numsB x)) ∧ True else True ∧ True ∧ True ∧ True ∧ True ∧ bif decide (Ce.g x < (0 : Int)) then True ∧ True ∧ True ∧ True ∧ (True ∧ Value.bool false = Value.bool (numsB x)) ∧ True else True ∧ True ∧ True ∧ True ∧ True ∧ bif decide (Ce.s x < (0 : Int)) then True ∧ True ∧ (True ∧ Value.bool false = Value.bool (numsB x)) ∧ True else True ∧ True ∧ True ∧ True ∧ True ∧ True ∧ True ∧ True ∧ True ∧ True ∧ True ∧ bif decide (Ce.s x > IntKind.wrap IntKind.i64 (D.Ev.t (Ce.l x) - D.Ev.t (Ce.f x))) then True ∧ (True ∧ Value.bool false = Value.bool (numsB x)) ∧ True else True ∧ True ∧ True ∧ True ∧ True ∧ True ∧ True ∧ True ∧ bif decide (Ce.g x ≥ IntKind.wrap IntKind.i64 (Ce.n x - Ce.r x)) then True ∧ (True ∧ Value.bool false = Value.bool (numsB x)) ∧ True else ((True ∧ True) ∧ (True ∧ True) ∧ True) ∧ True ∧ True ∧ True ∧ True ∧ ((True ∧ True ∧ True) ∧ (True ∧ True ∧ True) ∧ (∃ u, D.Wd.mk (0 : Int) (18446744073709551615 : Int) = D.Wd.mk (hiZ u) (loZ u)) ∧ (0 : Int) ≤ IntKind.wrap IntKind.u64 (IntKind.wrap IntKind.i64 (Ce.n x - (1 : Int))) ∧ IntKind.wrap IntKind.u64 (IntKind.wrap IntKind.i64 (Ce.n x - (1 : Int))) ≤ (18446744073709551615 : Int)) ∧ True ∧ True ∧ True ∧ True ∧ ((True ∧ True) ∧ True) ∧ True ∧ True ∧ True ∧ True ∧ bif opq timesE (D.Wd.u (D.Wd.mk (0 : Int) (18446744073709551615 : Int))) (Int.toNat (IntKind.wrap IntKind.u64 (IntKind.wrap IntKind.i64 (Ce.n x - (1 : Int))))) == (0 : Int) then True ∧ True ∧ True ∧ ((True ∧ True ∧ True) ∧ (True ∧ True ∧ True) ∧ (∃ u, D.Wd.mk (hiZ (opq timesU (D.Wd.u (D.Wd.mk (0 : Int) (18446744073709551615 : Int))) (Int.toNat (IntKind.wrap IntKind.u64 (IntKind.wrap IntKind.i64 (Ce.n x - (1 : Int))))))) (loZ (opq timesU (D.Wd.u (D.Wd.mk (0 : Int) (18446744073709551615 : Int))) (Int.toNat (IntKind.wrap IntKind.u64 (IntKind.wrap IntKind.i64 (Ce.n x - (1 : Int))))))) = D.Wd.mk (hiZ u) (loZ u)) ∧ ∃ v, D.Wd.mk (hiZ (Ce.i x)) (loZ (Ce.i x)) = D.Wd.mk (hiZ v) (loZ v)) ∧ True ∧ True ∧ True ∧ (True ∧ (Value.bool !opq lessB (D.Wd.u (D.Wd.mk (hiZ (opq timesU (D.Wd.u (D.Wd.mk (0 : Int) (18446744073709551615 : Int))) (Int.toNat (IntKind.wrap IntKind.u64 (IntKind.wrap IntKind.i64 (Ce.n x - (1 : Int))))))) (loZ (opq timesU (D.Wd.u (D.Wd.mk (0 : Int) (18446744073709551615 : Int))) (Int.toNat (IntKind.wrap IntKind.u64 (IntKind.wrap IntKind.i64 (Ce.n x - (1 : Int))))))))) (D.Wd.u (D.Wd.mk (hiZ (Ce.i x)) (loZ (Ce.i x))))) = Value.bool (numsB x)) ∧ True else True ∧ True ∧ (True ∧ Value.bool false = Value.bool (numsB x)) ∧ True) := by kernel_rfl
theorem rnums_sem : CallSem Try.prog 14 rnums := by
  refine semE V3 mixed Try.func14 d1C e1C o1C _ _ (fun _ => []) (fun b => ce_d' b) (fun a => ⟨rfl, rfl, rfl⟩) fun x hx => ?_
  refine Eq.mpr (rnums_run x) ?_
  obtain ⟨hi, he⟩ := hx
  have u0 := he.n; have u1 := he.f.t0; have u2 := he.f.t1; have u3 := he.l.t0; have u4 := he.l.t1; have u5 := he.t; have u6 := he.le
  have q0 := hi.n0; have q1 := hi.n1; have r0 := hi.r0; have r1 := hi.r1
  have hmax : (D.Wd.mk 0 18446744073709551615).u = maxU := u_d maxU
  simp only [true_and, and_true, opq_eq, u_d, hmax, IntWalk.i64_in (x.l.t - x.f.t) (by omega), IntWalk.i64_in (x.n - 1) (by omega), IntWalk.u64_in (x.n - 1) (by omega)]
  refine cond_mk (fun h => by rw [numsB_no fun h' => by have := h'.r; simp at h; omega]) (fun h1 => ?_)
  refine cond_mk (fun h => by rw [numsB_no fun h' => by have := h'.g; simp at h; omega]) (fun h2 => ?_)
  refine cond_mk (fun h => by rw [numsB_no fun h' => by have := h'.s; simp at h; omega]) (fun h3 => ?_)
  refine cond_mk (fun h => by rw [numsB_no fun h' => by have := h'.s1; simp at h; omega]) (fun h4 => ?_)
  have h1 : 0 ≤ x.r := by simpa using h1
  have h2 : 0 ≤ x.g := by simpa using h2
  have h3 : 0 ≤ x.s := by simpa using h3
  have h4 : x.s ≤ x.l.t - x.f.t := by simpa using h4
  rw [IntWalk.i64_in (x.n - x.r) (by omega)]
  refine cond_mk (fun h => by rw [numsB_no fun h' => by have := h'.rg; simp at h; omega]) (fun h5 => ?_)
  have h5 : x.g < x.n - x.r := by simpa using h5
  have hk : (x.n - 1).toNat < 18446744073709551616 := by omega
  have hE : timesE maxU (x.n - 1).toNat = 0 := cutE_lt (most_n hk)
  rw [hE]
  refine ⟨⟨⟨maxU, rfl⟩, by omega, by omega⟩, ⟨⟨_, rfl⟩, _, rfl⟩, ?_⟩
  refine congrArg Value.bool ?_
  have hT : (timesU maxU (x.n - 1).toNat).n = 18446744073709551615 * (x.n - 1).toNat := cutU_n (most_n hk)
  have hL : lessB (timesU maxU (x.n - 1).toNat) x.i = decide (18446744073709551615 * (x.n - 1).toNat < x.i.n) := by unfold lessB; rw [hT]
  rw [hL]
  by_cases hb : x.i.n ≤ 18446744073709551615 * (x.n - 1).toNat
  · rw [numsB_yes ⟨h1, h2, h3, h4, by omega, hb⟩, decide_eq_false (by omega)]; rfl
  · rw [numsB_no fun h => hb h.i, decide_eq_true (by omega)]; rfl
theorem G4_ok : KnownAll [(12, isz), (13, rends), (14, rnums)] := ⟨known isz_sem Try.func12 rfl rfl, known rends_sem Try.func13 rfl rfl, known rnums_sem Try.func14 rfl rfl, trivial⟩
noncomputable def V4 : Env Try.prog := env _ G4_ok
noncomputable def cechk : Spec := mkE d1C e1C o1C CeIn fun x => [.g (.i64 (ceE x))]
theorem cechk_run (x : Ce) : runs (V4) (Try.f9) ([]) (d1C.enc (e1C x)) ([.g (.i64 (ceE x))]) = (((True ∧ True) ∧ True) ∧ True ∧ True ∧ ((True ∧ True) ∧ (True ∧ True) ∧ ∃ b, (D.Ce.mk (Ce.n x) (Ce.f x) (Ce.l x) (hiZ (Ce.i x)) (loZ (Ce.i x)) (Ce.r x) (Ce.g x) (Ce.s x), ()) = (D.Ce.mk (Ce.n b) (Ce.f b) (Ce.l b) (hiZ (Ce.i b)) (loZ (Ce.i b)) (Ce.r b) (Ce.g b) (Ce.s b), ()) ∧ True) ∧ True ∧ bif eqD (ceO (D.Ce.mk (Ce.n x) (Ce.f x) (Ce.l x) (hiZ (Ce.i x)) (loZ (Ce.i x)) (Ce.r x) (Ce.g x) (Ce.s x))) zeroCe then True ∧ True ∧ (True ∧ Value.int IntKind.i64 (0 : Int) = Value.int IntKind.i64 (ceE x)) ∧ True else True ∧ ((True ∧ True) ∧ (True ∧ True) ∧ ∃ b, (D.Ce.mk (Ce.n x) (Ce.f x) (Ce.l x) (hiZ (Ce.i x)) (loZ (Ce.i x)) (Ce.r x) (Ce.g x) (Ce.s x), ()) = (D.Ce.mk (Ce.n b) (Ce.f b) (Ce.l b) (hiZ (Ce.i b)) (loZ (Ce.i b)) (Ce.r b) (Ce.g b) (Ce.s b), ()) ∧ CeIn b) ∧ True ∧ bif endsB (ceO (D.Ce.mk (Ce.n x) (Ce.f x) (Ce.l x) (hiZ (Ce.i x)) (loZ (Ce.i x)) (Ce.r x) (Ce.g x) (Ce.s x))) then True ∧ ((True ∧ True) ∧ (True ∧ True) ∧ ∃ b, (D.Ce.mk (Ce.n x) (Ce.f x) (Ce.l x) (hiZ (Ce.i x)) (loZ (Ce.i x)) (Ce.r x) (Ce.g x) (Ce.s x), ()) = (D.Ce.mk (Ce.n b) (Ce.f b) (Ce.l b) (hiZ (Ce.i b)) (loZ (Ce.i b)) (Ce.r b) (Ce.g b) (Ce.s b), ()) ∧ CeIn b ∧ EndsOk b) ∧ True ∧ True ∧ bif numsB (ceO (D.Ce.mk (Ce.n x) (Ce.f x) (Ce.l x) (hiZ (Ce.i x)) (loZ (Ce.i x)) (Ce.r x) (Ce.g x) (Ce.s x))) then True ∧ (True ∧ Value.int IntKind.i64 (0 : Int) = Value.int IntKind.i64 (ceE x)) ∧ True else True ∧ (True ∧ Value.int IntKind.i64 (2 : Int) = Value.int IntKind.i64 (ceE x)) ∧ True else True ∧ True ∧ True ∧ (True ∧ Value.int IntKind.i64 (2 : Int) = Value.int IntKind.i64 (ceE x)) ∧ True) := by kernel_rfl
theorem cechk_sem : CallSem Try.prog 9 cechk := by
  refine semE V4 mixed Try.func9 d1C e1C o1C _ _ (fun _ => []) (fun b => ce_d' b) (fun a => ⟨rfl, rfl, rfl⟩) fun x hx => ?_
  refine Eq.mpr (cechk_run x) ?_
  simp only [true_and, and_true, ce_d]
  refine ⟨⟨x, rfl⟩, ?_⟩
  by_cases hz : x = zeroCe
  · rw [eqD_yes hz, ceE_yes (Or.inl hz)]
    rfl
  · rw [eqD_no hz]
    refine ⟨⟨x, rfl, hx⟩, ?_⟩
    by_cases he : EndsOk x
    · rw [endsB_yes he]
      refine ⟨⟨x, rfl, hx, he⟩, ?_⟩
      by_cases hn : NumsOk x
      · rw [numsB_yes hn, ceE_yes (Or.inr ⟨he, hn⟩)]
        rfl
      · rw [numsB_no hn, ceE_no fun h => by rcases h with h | h; exact hz h; exact hn h.2]
        rfl
    · rw [endsB_no he, ceE_no fun h => by rcases h with h | h; exact hz h; exact he h.1]
      rfl
end Go.Proofs.Ytkoiogfhbipmjaa
