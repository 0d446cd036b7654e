/-
  CONTRACTS, by the abstract machine: event.Follow, Rises.
-/
import Derived.Test.YtkoiogfhbipmjaaEc
namespace Go.Proofs.Ytkoiogfhbipmjaa
open Go Go.RowKit

theorem G2_ok : KnownAll [(7, evchk), (15, betn), (16, wadd)] := ⟨known evchk_sem Try.func7 rfl rfl, known betn_sem Try.func15 rfl rfl, known wadd_sem Try.func16 rfl rfl, trivial⟩
noncomputable def V2 : Env Try.prog := env _ G2_ok
open Classical in
noncomputable def folB (p c : Ev) : Bool := decide (Fol p c)
open Classical in
theorem folB_iff {p c : Ev} : folB p c = true ↔ Fol p c := by
  unfold folB
  exact decide_eq_true_iff
theorem folB_e (p c : Ev) : folB p c = (beE p c == 0) := by
  unfold folB Fol
  by_cases hp : EvOk p ∧ EvOk c
  · by_cases ht : p.t < c.t
    · rw [beE_good hp.1 hp.2 ht]; simp [hp, ht]
    · rw [beE_time hp.1 hp.2 ht]; simp [hp, ht]
  · rw [beE_no hp]; simp; intro h1 h2; exact absurd ⟨h1, h2⟩ hp
noncomputable def foll : Spec := mkS ((dCons dEv (dCons dEv dNil))) (fun p => EvIn p.1 ∧ EvIn p.2.1) fun p => [.g (.v (.bool (folB p.1 p.2.1)))]
theorem foll_run (p c : D.Ev) : runs (V2) (Try.f18) ([]) (((dCons dEv (dCons dEv dNil))).enc (p, c, ())) ([.g (.v (.bool (folB p c)))]) = (((True ∧ True) ∧ True) ∧ ((True ∧ True) ∧ True) ∧ True ∧ True ∧ True ∧ ((True ∧ True ∧ True) ∧ (True ∧ True ∧ True) ∧ EvIn p ∧ EvIn c) ∧ True ∧ True ∧ True ∧ True ∧ ((True ∧ True) ∧ True) ∧ True ∧ True ∧ True ∧ True ∧ (True ∧ Value.bool (beE p c == (0 : Int)) = Value.bool (folB p c)) ∧ True) := by kernel_rfl
theorem foll_sem : CallSem Try.prog 18 foll := by
  refine semS V2 mixed Try.func18 ((dCons dEv (dCons dEv dNil))) _ _ (fun _ => []) (fun a => ⟨rfl, rfl, rfl⟩) ?_
  rintro ⟨p, c, q⟩ ⟨ip, ic⟩
  refine Eq.mpr (foll_run p c) ?_
  dsimp only at ip ic
  simp only [true_and, and_true, ip, ic, folB_e]
/-- What Rises has come to ahead of the p-th. -/
def riI (l : List Ev) (i : Nat × Nat) : Prop := 1 ≤ i.1 ∧ i.2 ≤ i.1 * 18446744073709551615 ∧ (i.1 ≤ l.length ∨ l = []) ∧
  match l.drop (i.1 - 1) with
  | [] => risE l = 0 ∧ risN l = i.2
  | e :: m => risE l = riE e m ∧ risN l = riN e i.2 m
def riL (l : List D.Ev) : LoopI := { ι := Nat × Nat, ok := riI l, st := fun i => ⟨[(5, .one (.i64 i.1)), (4, .one (.ptr 5 0)), (2, .one (.ptr 0 0)), (0, .one (.g (.sl (.ev l))))], [(5, .box 28 [.u64 (hiZ (cutU i.2)), .u64 (loZ (cutU i.2))]), (0, .box 28 [.u64 0, .u64 0])]⟩, μ := fun i => l.length - i.1, nx := 6 }
noncomputable def riW (l : List Ev) : D.Wd := (cutU (risN l)).d
noncomputable def rises : Spec := mkS ((dCons dEvs dNil)) (fun p => p.1.length ≤ 9223372036854775807 ∧ ∀ e, e ∈ p.1 → EvIn e) fun p => [.agg (wdG (riW p.1)), .g (.i64 (risE p.1))]
theorem rises_run (l : List D.Ev) : runs (V2) (Try.f10) ([(5, leaf (riL l))]) (((dCons dEvs dNil)).enc (l, ())) ([.agg (wdG (riW l)), .g (.i64 (risE l))]) = (True ∧ True ∧ True ∧ True ∧ True ∧ bif (↑(List.length l) : Int) == (1 : Int) then (True ∧ True) ∧ True ∧ ((0 : Int) ≤ (0 : Int) ∧ (0 : Int) < (↑(List.length l) : Int)) ∧ True ∧ ((True ∧ True) ∧ (True ∧ True) ∧ EvIn (List.getD l 0 (D.Ev.mk (0 : Int) (0 : Int) (0 : Int) false))) ∧ ((True ∧ True) ∧ True) ∧ True ∧ (True ∧ Value.int IntKind.u64 (0 : Int) = Value.int IntKind.u64 (D.Wd.hi (riW l)) ∧ Value.int IntKind.u64 (0 : Int) = Value.int IntKind.u64 (D.Wd.lo (riW l)) ∧ True) ∧ (True ∧ Value.int IntKind.i64 (evE (List.getD l 0 (D.Ev.mk (0 : Int) (0 : Int) (0 : Int) false))) = Value.int IntKind.i64 (risE l)) ∧ True else True ∧ True ∧ (∃ i, riI l i ∧ True ∧ true = true ∧ ((true = true ∧ TV.one (AV.g (GV.v (Value.int IntKind.i64 (1 : Int)))) = TV.one (AV.g (GV.v (Value.int IntKind.i64 (↑(Prod.fst i) : Int))))) ∧ (true = true ∧ TV.one (AV.ptr 5 0) = TV.one (AV.ptr 5 0)) ∧ (true = true ∧ TV.one (AV.ptr 0 0) = TV.one (AV.ptr 0 0)) ∧ (true = true ∧ TV.one (AV.g (GV.sl (SL.ev l))) = TV.one (AV.g (GV.sl (SL.ev l)))) ∧ True) ∧ Ob.box 28 [GV.v (Value.int IntKind.u64 (0 : Int)), GV.v (Value.int IntKind.u64 (0 : Int))] = Ob.box 28 [GV.v (Value.int IntKind.u64 (0 : Int)), GV.v (Value.int IntKind.u64 (0 : Int))] ∧ Ob.box 28 [GV.v (Value.int IntKind.u64 (hiZ (cutU (Prod.snd i)))), GV.v (Value.int IntKind.u64 (loZ (cutU (Prod.snd i))))] = Ob.box 28 [GV.v (Value.int IntKind.u64 (0 : Int)), GV.v (Value.int IntKind.u64 (0 : Int))] ∧ True) ∧ ∀ (i : Nat × Nat), riI l i → True ∧ True ∧ True ∧ True ∧ bif decide ((↑(Prod.fst i) : Int) < (↑(List.length l) : Int)) then True ∧ True ∧ True ∧ ((0 : Int) ≤ IntKind.wrap IntKind.i64 ((↑(Prod.fst i) : Int) - (1 : Int)) ∧ IntKind.wrap IntKind.i64 ((↑(Prod.fst i) : Int) - (1 : Int)) < (↑(List.length l) : Int)) ∧ True ∧ True ∧ True ∧ ((0 : Int) ≤ (↑(Prod.fst i) : Int) ∧ (↑(Prod.fst i) : Int) < (↑(List.length l) : Int)) ∧ True ∧ ((True ∧ True ∧ True) ∧ (True ∧ True ∧ True) ∧ EvIn (List.getD l (Int.toNat (IntKind.wrap IntKind.i64 ((↑(Prod.fst i) : Int) - (1 : Int)))) (D.Ev.mk (0 : Int) (0 : Int) (0 : Int) false)) ∧ EvIn (List.getD l (Int.toNat (↑(Prod.fst i) : Int)) (D.Ev.mk (0 : Int) (0 : Int) (0 : Int) false))) ∧ True ∧ True ∧ True ∧ True ∧ ((True ∧ True) ∧ True) ∧ True ∧ True ∧ True ∧ bif beE (List.getD l (Int.toNat (IntKind.wrap IntKind.i64 ((↑(Prod.fst i) : Int) - (1 : Int)))) (D.Ev.mk (0 : Int) (0 : Int) (0 : Int) false)) (List.getD l (Int.toNat (↑(Prod.fst i) : Int)) (D.Ev.mk (0 : Int) (0 : Int) (0 : Int) false)) != (0 : Int) then (True ∧ True) ∧ True ∧ ((True ∧ True) ∧ True) ∧ True ∧ (True ∧ Value.int IntKind.u64 (0 : Int) = Value.int IntKind.u64 (D.Wd.hi (riW l)) ∧ Value.int IntKind.u64 (0 : Int) = Value.int IntKind.u64 (D.Wd.lo (riW l)) ∧ True) ∧ (True ∧ Value.int IntKind.i64 (beE (List.getD l (Int.toNat (IntKind.wrap IntKind.i64 ((↑(Prod.fst i) : Int) - (1 : Int)))) (D.Ev.mk (0 : Int) (0 : Int) (0 : Int) false)) (List.getD l (Int.toNat (↑(Prod.fst i) : Int)) (D.Ev.mk (0 : Int) (0 : Int) (0 : Int) false))) = Value.int IntKind.i64 (risE l)) ∧ True else True ∧ True ∧ True ∧ ((True ∧ True ∧ True) ∧ (True ∧ True ∧ True) ∧ (∃ u, D.Wd.mk (hiZ (cutU (Prod.snd i))) (loZ (cutU (Prod.snd i))) = D.Wd.mk (hiZ u) (loZ u)) ∧ ∃ v, D.Wd.mk (hiZ (Ce.i (beC (List.getD l (Int.toNat (IntKind.wrap IntKind.i64 ((↑(Prod.fst i) : Int) - (1 : Int)))) (D.Ev.mk (0 : Int) (0 : Int) (0 : Int) false)) (List.getD l (Int.toNat (↑(Prod.fst i) : Int)) (D.Ev.mk (0 : Int) (0 : Int) (0 : Int) false))))) (loZ (Ce.i (beC (List.getD l (Int.toNat (IntKind.wrap IntKind.i64 ((↑(Prod.fst i) : Int) - (1 : Int)))) (D.Ev.mk (0 : Int) (0 : Int) (0 : Int) false)) (List.getD l (Int.toNat (↑(Prod.fst i) : Int)) (D.Ev.mk (0 : Int) (0 : Int) (0 : Int) false))))) = D.Wd.mk (hiZ v) (loZ v)) ∧ True ∧ True ∧ True ∧ True ∧ ((True ∧ True) ∧ True) ∧ True ∧ True ∧ True ∧ bif opq addE (D.Wd.u (D.Wd.mk (hiZ (cutU (Prod.snd i))) (loZ (cutU (Prod.snd i))))) (D.Wd.u (D.Wd.mk (hiZ (Ce.i (beC (List.getD l (Int.toNat (IntKind.wrap IntKind.i64 ((↑(Prod.fst i) : Int) - (1 : Int)))) (D.Ev.mk (0 : Int) (0 : Int) (0 : Int) false)) (List.getD l (Int.toNat (↑(Prod.fst i) : Int)) (D.Ev.mk (0 : Int) (0 : Int) (0 : Int) false))))) (loZ (Ce.i (beC (List.getD l (Int.toNat (IntKind.wrap IntKind.i64 ((↑(Prod.fst i) : Int) - (1 : Int)))) (D.Ev.mk (0 : Int) (0 : Int) (0 : Int) false)) (List.getD l (Int.toNat (↑(Prod.fst i) : Int)) (D.Ev.mk (0 : Int) (0 : Int) (0 : Int) false))))))) != (0 : Int) then (True ∧ True) ∧ True ∧ ((True ∧ True) ∧ True) ∧ True ∧ (True ∧ Value.int IntKind.u64 (0 : Int) = Value.int IntKind.u64 (D.Wd.hi (riW l)) ∧ Value.int IntKind.u64 (0 : Int) = Value.int IntKind.u64 (D.Wd.lo (riW l)) ∧ True) ∧ (True ∧ Value.int IntKind.i64 (opq addE (D.Wd.u (D.Wd.mk (hiZ (cutU (Prod.snd i))) (loZ (cutU (Prod.snd i))))) (D.Wd.u (D.Wd.mk (hiZ (Ce.i (beC (List.getD l (Int.toNat (IntKind.wrap IntKind.i64 ((↑(Prod.fst i) : Int) - (1 : Int)))) (D.Ev.mk (0 : Int) (0 : Int) (0 : Int) false)) (List.getD l (Int.toNat (↑(Prod.fst i) : Int)) (D.Ev.mk (0 : Int) (0 : Int) (0 : Int) false))))) (loZ (Ce.i (beC (List.getD l (Int.toNat (IntKind.wrap IntKind.i64 ((↑(Prod.fst i) : Int) - (1 : Int)))) (D.Ev.mk (0 : Int) (0 : Int) (0 : Int) false)) (List.getD l (Int.toNat (↑(Prod.fst i) : Int)) (D.Ev.mk (0 : Int) (0 : Int) (0 : Int) false)))))))) = Value.int IntKind.i64 (risE l)) ∧ True else True ∧ ((True ∧ True) ∧ True) ∧ True ∧ True ∧ True ∧ ∃ j, riI l j ∧ Nat.sub (List.length l) (Prod.fst j) < Nat.sub (List.length l) (Prod.fst i) ∧ true = true ∧ ((true = true ∧ TV.one (AV.g (GV.v (Value.int IntKind.i64 (IntKind.wrap IntKind.i64 ((↑(Prod.fst i) : Int) + (1 : Int)))))) = TV.one (AV.g (GV.v (Value.int IntKind.i64 (↑(Prod.fst j) : Int))))) ∧ (true = true ∧ TV.one (AV.ptr 5 0) = TV.one (AV.ptr 5 0)) ∧ (true = true ∧ TV.one (AV.ptr 0 0) = TV.one (AV.ptr 0 0)) ∧ (true = true ∧ TV.one (AV.g (GV.sl (SL.ev l))) = TV.one (AV.g (GV.sl (SL.ev l)))) ∧ True) ∧ Ob.box 28 [GV.v (Value.int IntKind.u64 (0 : Int)), GV.v (Value.int IntKind.u64 (0 : Int))] = Ob.box 28 [GV.v (Value.int IntKind.u64 (0 : Int)), GV.v (Value.int IntKind.u64 (0 : Int))] ∧ Ob.box 28 [GV.v (Value.int IntKind.u64 (hiZ (cutU (Prod.snd j)))), GV.v (Value.int IntKind.u64 (loZ (cutU (Prod.snd j))))] = Ob.box 28 [GV.v (Value.int IntKind.u64 (hiZ (opq addU (D.Wd.u (D.Wd.mk (hiZ (cutU (Prod.snd i))) (loZ (cutU (Prod.snd i))))) (D.Wd.u (D.Wd.mk (hiZ (Ce.i (beC (List.getD l (Int.toNat (IntKind.wrap IntKind.i64 ((↑(Prod.fst i) : Int) - (1 : Int)))) (D.Ev.mk (0 : Int) (0 : Int) (0 : Int) false)) (List.getD l (Int.toNat (↑(Prod.fst i) : Int)) (D.Ev.mk (0 : Int) (0 : Int) (0 : Int) false))))) (loZ (Ce.i (beC (List.getD l (Int.toNat (IntKind.wrap IntKind.i64 ((↑(Prod.fst i) : Int) - (1 : Int)))) (D.Ev.mk (0 : Int) (0 : Int) (0 : Int) false)) (List.getD l (Int.toNat (↑(Prod.fst i) : Int)) (D.Ev.mk (0 : Int) (0 : Int) (0 : Int) false)))))))))), GV.v (Value.int IntKind.u64 (loZ (opq addU (D.Wd.u (D.Wd.mk (hiZ (cutU (Prod.snd i))) (loZ (cutU (Prod.snd i))))) (D.Wd.u (D.Wd.mk (hiZ (Ce.i (beC (List.getD l (Int.toNat (IntKind.wrap IntKind.i64 ((↑(Prod.fst i) : Int) - (1 : Int)))) (D.Ev.mk (0 : Int) (0 : Int) (0 : Int) false)) (List.getD l (Int.toNat (↑(Prod.fst i) : Int)) (D.Ev.mk (0 : Int) (0 : Int) (0 : Int) false))))) (loZ (Ce.i (beC (List.getD l (Int.toNat (IntKind.wrap IntKind.i64 ((↑(Prod.fst i) : Int) - (1 : Int)))) (D.Ev.mk (0 : Int) (0 : Int) (0 : Int) false)) (List.getD l (Int.toNat (↑(Prod.fst i) : Int)) (D.Ev.mk (0 : Int) (0 : Int) (0 : Int) false))))))))))] ∧ True else True ∧ ((True ∧ True) ∧ True) ∧ True ∧ (True ∧ Value.int IntKind.u64 (hiZ (cutU (Prod.snd i))) = Value.int IntKind.u64 (D.Wd.hi (riW l)) ∧ Value.int IntKind.u64 (loZ (cutU (Prod.snd i))) = Value.int IntKind.u64 (D.Wd.lo (riW l)) ∧ True) ∧ (True ∧ Value.int IntKind.i64 (0 : Int) = Value.int IntKind.i64 (risE l)) ∧ True) := by kernel_rfl
theorem riW_zero {l : List Ev} (h : risN l = 0) : riW l = ⟨0, 0⟩ := by
  unfold riW
  rw [h, show cutU 0 = U.zero from U.ext (cutU_n (by omega))]
  rfl
theorem getD_mem {α : Type} {l : List α} {i : Nat} {d : α} (h : i < l.length) : l.getD i d ∈ l := by
  rw [List.getD_eq_getElem?_getD, List.getElem?_eq_getElem h]
  exact List.getElem_mem h
theorem rises_sem : CallSem Try.prog 10 rises := by
  refine semS V2 mixed Try.func10 ((dCons dEvs dNil)) _ _ (fun p => [(5, leaf (riL p.1))]) (fun a => ⟨rfl, rfl, rfl⟩) ?_
  rintro ⟨l, q⟩ ⟨hl, hin⟩
  refine Eq.mpr (rises_run l) ?_
  dsimp only at hl hin
  simp only [true_and, and_true]
  refine cond_mk (fun h => ?_) (fun h => ?_)
  · have h : l.length = 1 := by have := eq_of_beq h; omega
    obtain ⟨e, rfl⟩ := List.length_eq_one_iff.1 h
    refine ⟨⟨by omega, by simp⟩, hin e (by simp), ?_, rfl⟩
    rw [riW_zero (l := [e]) rfl]
    exact ⟨rfl, rfl⟩
  · have h : l.length ≠ 1 := fun e => by rw [e] at h; cases h
    refine ⟨⟨(1, 0), ⟨Nat.le_refl _, by omega, ?_, ?_⟩, rfl, rfl⟩, ?_⟩
    · rcases l with _ | ⟨e, l⟩
      · exact .inr rfl
      · exact .inl (by simp)
    · rcases l with _ | ⟨e, _ | ⟨c, l⟩⟩
      · exact ⟨rfl, rfl⟩
      · exact absurd rfl h
      · exact ⟨rfl, rfl⟩
    · rintro ⟨p, acc⟩ ⟨h1, hb, hle, hr⟩
      dsimp only at h1 hb hle hr ⊢
      refine cond_mk (fun h2 => ?_) (fun h2 => ?_)
      · have hlt : p < l.length := by simpa using h2
        have hw : IntKind.i64.wrap ((p : Int) - 1) = ((p - 1 : Nat) : Int) := by rw [IntWalk.i64_in _ (by omega)]; omega
        have hw2 : IntKind.i64.wrap ((p : Int) + 1) = ((p + 1 : Nat) : Int) := by rw [IntWalk.i64_in _ (by omega)]; omega
        rw [hw, hw2]
        simp only [Int.toNat_natCast]
        have e2 : l.drop p = l.getD p ⟨0, 0, 0, false⟩ :: l.drop (p + 1) := by
          rw [List.drop_eq_getElem_cons hlt, List.getD_eq_getElem?_getD, List.getElem?_eq_getElem hlt]; rfl
        have e1 : l.drop (p - 1) = l.getD (p - 1) ⟨0, 0, 0, false⟩ :: l.drop p := by
          rw [List.drop_eq_getElem_cons (show p - 1 < l.length by omega), List.getD_eq_getElem?_getD, List.getElem?_eq_getElem (by omega), show p - 1 + 1 = p by omega]; rfl
        rw [e1, e2] at hr
        have ia := hin _ (getD_mem (d := ⟨0, 0, 0, false⟩) (show p - 1 < l.length by omega))
        have ib := hin _ (getD_mem (d := ⟨0, 0, 0, false⟩) hlt)
        simp only [riE, riN] at hr
        generalize l.getD (p - 1) ⟨0, 0, 0, false⟩ = a at *
        generalize hbq : l.getD p ⟨0, 0, 0, false⟩ = b at *
        refine ⟨⟨by omega, by omega⟩, ⟨by omega, by omega⟩, ⟨ia, ib⟩, ?_⟩
        by_cases hE : beE a b = 0
        · have hbd := be_bd hE
          rw [if_pos hE, if_pos hE] at hr
          have hn : (cutU acc).n = acc := cutU_n (by omega)
          have e3 : addE (cutU acc) (beC a b).i = 0 := cutE_lt (by rw [hn]; omega)
          have e4 : addU (cutU acc) (beC a b).i = cutU (acc + (beC a b).i.n) := by unfold addU; rw [hn]
          simp only [opq_eq, u_d, hE, e3, e4, bne_self_eq_false, cond_false]
          refine ⟨⟨⟨_, rfl⟩, _, rfl⟩, (p + 1, acc + (beC a b).i.n), ⟨by dsimp only; omega, by dsimp only; omega, .inl hlt, ?_⟩, by simp only [Nat.sub_eq]; omega, rfl, rfl⟩
          dsimp only
          rw [show p + 1 - 1 = p by omega, e2]
          exact hr
        · rw [if_neg hE, if_neg hE] at hr
          have : (beE a b != 0) = true := by simpa using hE
          rw [this]
          refine ⟨?_, by rw [hr.1]⟩
          rw [riW_zero hr.2]
          exact ⟨rfl, rfl⟩
      · have hge : l.length ≤ p := by simpa using h2
        have hd : l.drop (p - 1) = [] ∨ ∃ e, l.drop (p - 1) = [e] := by
          have hlen : (l.drop (p - 1)).length ≤ 1 := by rw [List.length_drop]; omega
          rcases hq : l.drop (p - 1) with _ | ⟨e, _ | ⟨c, m⟩⟩
          · exact .inl rfl
          · exact .inr ⟨e, rfl⟩
          · rw [hq] at hlen; simp at hlen
        have hr' : risE l = 0 ∧ risN l = acc := by
          rcases hd with hd | ⟨e, hd⟩ <;> rw [hd] at hr <;> exact hr
        refine ⟨?_, by rw [hr'.1]⟩
        unfold riW
        rw [hr'.2]
        exact ⟨rfl, rfl⟩
end Go.Proofs.Ytkoiogfhbipmjaa
