/-
  AN ABSTRACT MACHINE, 16: regions, drawn or not.
-/
import Derived.Test.YtkoiogfhbipmjaaAm15
namespace Go.Proofs.Ytkoiogfhbipmjaa
open Go Go.RowKit

section
variable {P : Program} {c : Cx} {ρ : Rho} {S : St} {a : Act} {w : World} {Q : Exit → Act → World → Prop} {ops : Array Oper}
theorem mem_any {l m : List Nat} {i : Nat} (h1 : i ∈ l) (h2 : i ∈ m) : meets l m = true := List.any_eq_true.2 ⟨i, h1, memB_iff.2 h2⟩
theorem dstIn_of {d : Option Tmp} {l : List Nat} {t : Nat} (h : d = some t) (hm : t ∈ l) : dstIn d l = true := by subst h; exact memB_iff.2 hm
theorem dstEq_of {d d' : Option Tmp} {t : Nat} (h : d = some t) (h' : d' = some t) : dstEq d d' = true := by subst h; subst h'; exact Nat.beq_refl t
/-- They read or write what the other one writes: bound. -/
theorem bound (V : Env P) {L : List Tr} {D : Nat → Bool} (hok : allOk ops L 0 = true) (hcl : Closed ops D) {i j : Nat} {x y : Tr} (hx : L[i]? = some x) (hy : L[j]? = some y) (hi : D i = false) (hr : ∀ f k, reach ops f k i = true → k ≠ i → D k = true) (hne : D j ≠ Nat.blt j i) (hc : conf x y = true) : j = i := by
  rcases Nat.lt_trichotomy j i with h | h | h
  · exfalso
    have hb : Nat.blt j i = true := Nat.ble_eq_true_of_le h
    rw [hb] at hne
    have hc' : conf y x = true := by
      simp only [conf, Bool.or_eq_true] at hc ⊢
      rcases hc with (((hc | hc) | hc) | hc) | hc
      · exact .inl (.inl (.inl (.inr hc)))
      · exact .inl (.inl (.inl (.inl hc)))
      · refine .inl (.inl (.inr ?_))
        revert hc
        cases x.o.dst <;> cases y.o.dst <;> simp [dstEq]
        intro h; exact h.symm
      · exact .inr hc
      · exact .inl (.inr hc)
    have := allOk_at L 0 j i y x hok hy hx h hc'
    rw [Nat.zero_add, Nat.zero_add] at this
    exact hne (hr _ _ this (by omega))
  · exact h
  · exfalso
    have hb : Nat.blt j i = false := by
      cases hq : Nat.blt j i with
      | false => rfl
      | true => have : j < i := Nat.le_of_ble_eq_true hq; omega
    rw [hb] at hne
    have hD : D j = true := by cases hq : D j with
      | true => rfl
      | false => exact absurd hq hne
    have := allOk_at L 0 i j x y hok hx hy h hc
    rw [Nat.zero_add, Nat.zero_add] at this
    rw [reach_closed hcl this hD] at hi
    cases hi
theorem getD_set {l : Array Bool} {i j : Nat} (hi : i < l.size) : (l.setIfInBounds i true).getD j false = (l.getD j false || Nat.beq j i) := by
  rw [Array.getD_eq_getD_getElem?, Array.getD_eq_getD_getElem?, Array.getElem?_setIfInBounds]
  by_cases h : i = j
  · subst h
    simp [hi]
  · have : Nat.beq j i = false := by
      cases hq : Nat.beq j i with
      | false => rfl
      | true => exact absurd (Nat.eq_of_beq_eq_true hq).symm h
    rw [if_neg h, this, Bool.or_false]
theorem rep_false {n j : Nat} : (Array.replicate n false).getD j false = false := by
  rw [Array.getD_eq_getD_getElem?, Array.getElem?_replicate]
  split <;> rfl
theorem SR.drew (h : SR c ρ S a w) : SR c ρ S a w.drew :=
  h.step (I := fun _ => False) ⟨fun _ _ => rfl, fun _ _ hf => hf.elim, rfl, rfl, rfl, Nat.le_refl _, fun _ _ _ => rfl⟩ rfl (fun _ _ => rfl) (fun _ hf => hf.elim) (fun _ hf => hf.elim) (fun _ _ _ hf => hf.elim)
theorem good_fresh (V : Env P) {nt : Nat} (L : List Tr) : ∀ (i n : Nat) (S : St), Good V nt ops L i n S → FreshFrom S n → FreshFrom (made (fun _ => true) L i S) (n + L.length) := by
  induction L with
  | nil => intro i n S _ hf; exact hf
  | cons y L ih =>
    intro i n S hgood hf
    obtain ⟨S1, h1, h2, h3, h4, h5⟩ := hgood
    have hfr : FreshFrom (y.app S1) (n + 1) := by
      have hf1 := hf.eqv h1
      intro id hid
      show look .no (y.u ++ S1.o) id = _
      rcases h4 with h4 | h4
      · rw [h4.2.2.2.2.1, look_no (idsOk_mem h4.2.2.1) id hid]
        exact hf1 id (by omega)
      · rw [h4.2.2]
        exact hf1 id (by omega)
    have := ih (i + 1) (n + 1) (y.app S1) h5 hfr
    have e : Eqv (made (fun _ => true) L (i + 1) (y.app S1)) (made (fun _ => true) L (i + 1) (y.app S)) := made_eqv (app_eqv h1.symm)
    have := this.eqv e
    rw [show n + 1 + L.length = n + (y :: L).length by simp; omega] at this
    exact this
theorem draw_sound (V : Env P) (hm : P.follows .mixedOrders = true) {id n : Nat} {k : List Tr → St → Prop} (h : SR c ρ S a w) (hf : FreshFrom S n) (hk : drawE V c.nt ops ops.toList n S [] k)
    (hq : ∀ L ρ' S' a' w', SR c ρ' S' a' w' → FreshFrom S' (n + ops.size) → k L S' → Q .normal a' w') (hall : ∀ L S', k L S' → allOk ops L.reverse 0 = true) : (Code.region id ops true).wp P Q a w := by
  obtain ⟨L, Sf, hlen, hgood, hSf, hkL⟩ := drawE_good V (i := 0) (fun m => by simp) hk
  have hok : allOk ops L 0 = true := by have := hall _ _ hkL; simpa using this
  have hlen' : L.length = ops.size := by simpa using hlen
  have hall_at : ∀ i, i < ops.size → ∃ x, L[i]? = some x := fun i hi => ⟨L[i]'(by omega), List.getElem?_eq_getElem _⟩
  refine wp_region_inv (fun listed a w => listed.size = ops.size ∧ Closed ops (fun j => listed.getD j false) ∧ ∃ ρ, SR c ρ (made (fun j => listed.getD j false) L 0 S) a w) hm ⟨by simp, fun j o e hj => ?_, ρ, ?_⟩ ?_ ?_
  · have hj' : (Array.replicate ops.size false).getD j false = true := hj
    rw [rep_false] at hj'
    cases hj'
  · have e : ∀ (l : List Tr) (m : Nat) (A : St), made (fun j => (Array.replicate ops.size false).getD j false) l m A = A := fun l => by
      induction l with
      | nil => intro m A; rfl
      | cons z l ih =>
        intro m A
        have hb : (Array.replicate ops.size false).getD m false = false := rep_false
        show made _ l (m + 1) (bif (Array.replicate ops.size false).getD m false then z.app A else A) = A
        rw [hb]
        exact ih _ _
    rw [e]
    exact h.drew
  · rintro listed a w i ⟨hsz, hcl, ρ, hS⟩ hi
    obtain ⟨hlt, hun, hpre⟩ := ready_spec hi
    obtain ⟨x, hx⟩ := hall_at i hlt
    obtain ⟨S1, he1, hst, ho, hd, hfr1⟩ := good_at V L 0 n i S x hgood hf hx
    rw [Nat.zero_add] at he1 ho
    have hD : (fun j => listed.getD j false) i = false := by
      have := hun
      rw [Array.getD_eq_getD_getElem?] at this
      show listed.getD i false = false
      rw [Array.getD_eq_getD_getElem?, Array.getElem?_eq_getElem (by omega)]
      rw [Array.getElem?_eq_getElem (by omega)] at this
      exact this
    have hpre' : ∀ e, e ∈ x.o.after.toList → Region.binds .any e = true → listed.getD e.on false = true := fun e he hb => by
      have := hpre _ ho
      rw [Array.all_eq_true_iff_forall_mem] at this
      have := this e (by simpa using he)
      rw [hb] at this
      simpa using this
    have hr : ∀ f k, reach ops f k i = true → k ≠ i → (fun j => listed.getD j false) k = true := fun f k hre _ => by
      cases f with
      | zero => cases hre
      | succ f =>
        unfold reach at hre
        rw [ho] at hre
        dsimp only at hre
        rw [Bool.or_eq_true] at hre
        rcases hre with hre | hre
        · obtain ⟨e, he, hb⟩ := List.any_eq_true.1 hre
          rw [Bool.and_eq_true] at hb
          have := hpre' e he hb.1
          rwa [Nat.eq_of_beq_eq_true hb.2] at this
        · obtain ⟨e, he, hb⟩ := List.any_eq_true.1 hre
          rw [Bool.and_eq_true] at hb
          exact reach_closed hcl hb.2 (hpre' e he hb.1)
    have agT : ∀ t, t ∈ x.rd → (made (fun j => listed.getD j false) L 0 S).tmp t = S1.tmp t := fun t ht => by
      rw [← he1.1 t]
      refine made_tmp rfl fun j y hy hne hdst => ?_
      rw [Nat.zero_add] at hne
      have := bound V hok hcl hx hy hD hr hne (by simp only [conf, Bool.or_eq_true]; exact .inl (.inl (.inl (.inr (dstIn_of hdst ht)))))
      subst this
      apply hne
      have hb : Nat.blt j j = false := by
        cases hq : Nat.blt j j with
        | false => rfl
        | true => have : j < j := Nat.le_of_ble_eq_true hq; omega
      rw [hb]; exact hD
    have agO : ∀ t, t ∈ x.ids → (made (fun j => listed.getD j false) L 0 S).ob t = S1.ob t := fun t ht => by
      rw [← he1.2 t]
      refine made_ob rfl fun j y hy hne hw => ?_
      rw [Nat.zero_add] at hne
      have := bound V hok hcl hx hy hD hr hne (by simp only [conf, Bool.or_eq_true]; exact .inr (mem_any hw ht))
      subst this
      apply hne
      have hb : Nat.blt j j = false := by
        cases hq : Nat.blt j j with
        | false => rfl
        | true => have : j < j := Nat.le_of_ble_eq_true hq; omega
      rw [hb]; exact hD
    have fin : ∀ {ρ' : Rho} {a' : Act} {w' : World}, SR c ρ' (x.app (made (fun j => listed.getD j false) L 0 S)) a' w' → (listed.setIfInBounds i true).size = ops.size ∧ Closed ops (fun j => (listed.setIfInBounds i true).getD j false) ∧ ∃ ρ, SR c ρ (made (fun j => (listed.setIfInBounds i true).getD j false) L 0 S) a' w' := fun {ρ' a' w'} hSR => by
      have hfun : (fun j => (listed.setIfInBounds i true).getD j false) = fun j => listed.getD j false || Nat.beq j i := funext fun j => getD_set (by omega)
      refine ⟨by simpa using hsz, ?_, ρ', ?_⟩
      · rw [hfun]
        intro j o e hj ho' he hb
        rw [Bool.or_eq_true] at hj ⊢
        rcases hj with hj | hj
        · exact .inl (hcl j o e hj ho' he hb)
        · obtain rfl := Nat.eq_of_beq_eq_true hj
          rw [ho] at ho'; cases ho'
          exact .inl (hpre' e he hb)
      · rw [hfun]
        have hout : ∀ j y, L[j]? = some y → i < j → listed.getD j false = true → conf x y = true → False := fun j y hy hlt hDj hc => by
          have := allOk_at L 0 i j x y hok hx hy hlt hc
          rw [Nat.zero_add, Nat.zero_add] at this
          have h9 : listed.getD i false = true := reach_closed hcl this hDj
          have h8 : listed.getD i false = false := hD
          rw [h8] at h9
          cases h9
        refine hSR.congr ⟨fun t => ?_, fun t => ?_⟩
        · have := made_add_tmp (D := fun j => listed.getD j false) (t := t) (l := L) (i := 0) (k := i) (x := x) (S := S) (S' := S) hx (by rw [Nat.zero_add]; exact hD) rfl fun hdst j y hy hlt hDj hdy => hout j y hy hlt (by simpa using hDj) (by simp only [conf, Bool.or_eq_true]; exact .inl (.inl (.inr (dstEq_of hdst hdy))))
          simpa using this
        · have := made_add_ob (D := fun j => listed.getD j false) (t := t) (l := L) (i := 0) (k := i) (x := x) (S := S) (S' := S) hx (by rw [Nat.zero_add]; exact hD) rfl fun hw j y hy hlt hDj hwy => hout j y hy hlt (by simpa using hDj) (by
            simp only [conf, Bool.or_eq_true]
            refine .inr (mem_any hwy ?_)
            rcases hst with hst | hst
            · exact hst.2.2.2.2.2.2.2.2 t hw
            · rw [hst.2.2] at hw; cases hw)
          simpa using this
    unfold wpOp
    rw [ho]
    dsimp only
    have hdst := dst_ok hd
    rcases hst with ⟨hg, hp, hi', hv, hu, hrd, hnid, hids, _⟩ | ⟨⟨d, b, hg, hdr, ht⟩, hv, hu⟩
    · have hag : Agree S1 (made (fun j => listed.getD j false) L 0 S) x.o.op.operands.toList := ⟨fun t ht => (agT t (hrd t ht)).symm, fun id hid => (agO id (hids id hid)).symm⟩
      have heq := op_agree V (nid := n + i) hag
      have hno : (made (fun j => listed.getD j false) L 0 S).ob (n + i) = .no := (agO _ hnid).trans (hfr1 _ (Nat.le_refl _))
      have hw : Region.wanted x.o (yielded ops a.tmps) = true := by
        rcases hg with hg | ⟨d, b, hg, ht, hdr⟩
        · unfold guardOf at hg
          cases hgg : x.o.guard with
          | none => simp [Region.wanted, hgg]
          | some jb => rw [hgg] at hg; cases hg
        · unfold guardOf at hg
          cases hgg : x.o.guard with
          | none => rw [hgg] at hg; cases hg
          | some jb =>
            rw [hgg] at hg
            have e1 : (ops[jb.1]?).bind (·.dst) = some d := (Prod.mk.inj (Option.some.inj hg)).1
            have e2 : jb.2 = b := (Prod.mk.inj (Option.some.inj hg)).2
            have hy := yielded_bool (ops := ops) e1 (tmp_bool hS ((agT d hdr).trans ht))
            simp [Region.wanted, hgg, hy, e2]
      rw [if_pos hw]
      refine .inl (Oper.wp_mono (fun a' w' => ?_) (op_sound V hS hno x.o (by rw [← heq]; exact hp) hdst))
      rintro ⟨ρ', h2⟩
      refine fin (ρ' := ρ') ?_
      rw [← heq] at h2
      unfold St.post at h2
      rw [← hv, ← hu] at h2
      exact h2
    · have hw : Region.wanted x.o (yielded ops a.tmps) = false := by
        unfold guardOf at hg
        cases hgg : x.o.guard with
        | none => rw [hgg] at hg; cases hg
        | some jb =>
          rw [hgg] at hg
          have e1 : (ops[jb.1]?).bind (·.dst) = some d := (Prod.mk.inj (Option.some.inj hg)).1
          have e2 : jb.2 = b := (Prod.mk.inj (Option.some.inj hg)).2
          rcases ht with ⟨t, ht, htb⟩ | ⟨xs, ht⟩
          · have hy := yielded_bool (ops := ops) e1 (tmp_bool hS ((agT d hdr).trans ht))
            simp only [Region.wanted, hgg, hy, e2]
            simpa using htb
          · have h1 := hS.tm d
            rw [(agT d hdr).trans ht] at h1
            obtain ⟨vs, hvv, -⟩ := h1
            have hy := yielded_tup (ops := ops) e1 hvv
            simp [Region.wanted, hgg, hy]
      rw [hw]
      refine fin (ρ' := ρ) ?_
      have h2 := hS.skip (dst := x.o.dst) hdst
      unfold Tr.app
      rw [hv, hu]
      exact h2
  · rintro listed a w ⟨hsz, hcl, ρ, hS⟩ hready
    have hallL : ∀ i, i < ops.size → listed.getD i false = true := fun i => by
      induction i using Nat.strongRecOn with
      | _ i ih =>
        intro hlt
        cases hq2 : listed.getD i false with
        | true => rfl
        | false =>
          exfalso
          obtain ⟨x, hx⟩ := hall_at i hlt
          obtain ⟨S1, -, -, ho, -, -⟩ := good_at V L 0 n i S x hgood hf hx
          rw [Nat.zero_add] at ho
          have hin : i ∈ Region.ready .any ops listed := by
            refine ready_in ho ?_ ?_
            · rw [Array.getD_eq_getD_getElem?, Array.getElem?_eq_getElem (by omega)] at hq2 ⊢
              exact hq2
            · rw [Array.all_eq_true_iff_forall_mem]
              intro e he
              cases hb : Region.binds .any e with
              | false => rfl
              | true =>
                have hlt2 := allOk_edge L 0 i x e hok hx (by simpa using he) hb
                simpa using ih e.on (by omega) (by omega)
          rw [hready] at hin
          cases hin
    have heqv : Eqv (made (fun j => listed.getD j false) L 0 S) Sf := by
      refine Eqv.trans ⟨fun t => made_tmp rfl fun j y hy hne => ?_, fun t => made_ob rfl fun j y hy hne => ?_⟩ hSf.symm
      · exact absurd (hallL (0 + j) (by have := (List.getElem?_eq_some_iff.1 hy).1; omega)) hne
      · exact absurd (hallL (0 + j) (by have := (List.getElem?_eq_some_iff.1 hy).1; omega)) hne
    refine hq _ ρ Sf a w (hS.congr heqv) ?_ hkL
    have := (good_fresh V L 0 n S hgood hf).eqv hSf.symm
    rwa [hlen'] at this
/-- A region, drawn or not. -/
def regE {P : Program} (V : Env P) (nt : Nat) (ops : Array Oper) (draw : Bool) (n : Nat) (S : St) (k : Nat → St → Prop) : Prop :=
  bif draw then drawE V nt ops ops.toList n S [] (fun acc S' => bif allOk ops acc.reverse 0 then k (n + ops.size) S' else False)
  else seqE V nt ops ops.toList n S k
theorem regE_sound (V : Env P) (hm : P.follows .mixedOrders = true) {id n : Nat} {draw : Bool} {k : Nat → St → Prop} (h : SR c ρ S a w) (hf : FreshFrom S n) (hk : regE V c.nt ops draw n S k)
    (hq : ∀ n' ρ' S' a' w', SR c ρ' S' a' w' → FreshFrom S' n' → k n' S' → Q .normal a' w') : (Code.region id ops draw).wp P Q a w := by
  cases draw with
  | true =>
    refine draw_sound V hm h hf (k := fun acc S' => bif allOk ops acc.reverse 0 then k (n + ops.size) S' else False) hk (fun L ρ' S' a' w' h1 h2 h3 => ?_) fun L S' h3 => ?_
    · cases hb : allOk ops L.reverse 0 with
      | false => rw [hb] at h3; exact h3.elim
      | true => rw [hb] at h3; exact hq _ ρ' S' a' w' h1 h2 h3
    · cases hb : allOk ops L.reverse 0 with
      | false => rw [hb] at h3; exact h3.elim
      | true => rfl
  | false => exact wp_region_list (seqE_sound V ops.toList n ρ S a w k h hf hk hq)
end
end Go.Proofs.Ytkoiogfhbipmjaa
