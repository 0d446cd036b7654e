/-
  AN ABSTRACT MACHINE, 12: code: regions in their order, tests, loops, ends.
-/
import Derived.Test.YtkoiogfhbipmjaaAm11
import Derived.Scope
namespace Go.Proofs.Ytkoiogfhbipmjaa
open Go Go.RowKit

def dstOk (nt : Nat) : Option Tmp → Bool
  | some d => Nat.blt d nt
  | none => true
def idsOk (n : Nat) : List (Nat × Ob) → Bool
  | [] => true
  | p :: l => Nat.blt p.1 n && idsOk n l
/-- What a guard asks: the temporary, and the answer that is wanted. -/
def guardOf (ops : Array Oper) (o : Oper) : Option (Option Tmp × Bool) :=
  match o.guard with
  | none => none
  | some (j, b) => some ((ops[j]?).bind (·.dst), b)
def skipT (S : St) (dst : Option Tmp) : St := ⟨match dst with
  | some d => (d, .tup []) :: S.t
  | none => S.t, S.o⟩
/-- Operations one behind the other. -/
def seqE {P : Program} (V : Env P) (nt : Nat) (ops : Array Oper) : List Oper → Nat → St → (Nat → St → Prop) → Prop
  | [], n, S, k => k n S
  | o :: rest, n, S, k =>
    bif dstOk nt o.dst then
      (match guardOf ops o with
      | none => bif idsOk (n + 1) (opE V S n o.op).u then (opE V S n o.op).p ∧ seqE V nt ops rest (n + 1) (S.post o.dst (opE V S n o.op)) k else False
      | some (some d, b) => match S.tmp d with
        | .one (.g (.v (.bool t))) => cond t
          (cond b (bif idsOk (n + 1) (opE V ⟨(d, .one (.b true)) :: S.t, S.o⟩ n o.op).u then (opE V ⟨(d, .one (.b true)) :: S.t, S.o⟩ n o.op).p ∧ seqE V nt ops rest (n + 1) (St.post ⟨(d, .one (.b true)) :: S.t, S.o⟩ o.dst (opE V ⟨(d, .one (.b true)) :: S.t, S.o⟩ n o.op)) k else False)
            (seqE V nt ops rest (n + 1) (skipT ⟨(d, .one (.b true)) :: S.t, S.o⟩ o.dst) k))
          (cond b (seqE V nt ops rest (n + 1) (skipT ⟨(d, .one (.b false)) :: S.t, S.o⟩ o.dst) k)
            (bif idsOk (n + 1) (opE V ⟨(d, .one (.b false)) :: S.t, S.o⟩ n o.op).u then (opE V ⟨(d, .one (.b false)) :: S.t, S.o⟩ n o.op).p ∧ seqE V nt ops rest (n + 1) (St.post ⟨(d, .one (.b false)) :: S.t, S.o⟩ o.dst (opE V ⟨(d, .one (.b false)) :: S.t, S.o⟩ n o.op)) k else False))
        | .tup _ => seqE V nt ops rest (n + 1) (skipT S o.dst) k
        | _ => False
      | some (none, _) => False)
    else False
section
variable {P : Program} {c : Cx} {ρ : Rho} {S : St} {a : Act} {w : World} {Q : Exit → Act → World → Prop} {ops : Array Oper}
theorem dst_ok {nt : Nat} {dst : Option Tmp} (h : dstOk nt dst = true) : ∀ d, dst = some d → d < nt := fun d e => by
  subst e
  exact Nat.le_of_ble_eq_true h
/-- Nothing is there from n on. -/
def FreshFrom (S : St) (n : Nat) : Prop := ∀ id, n ≤ id → S.ob id = .no
theorem look_no {α : Type} {d : α} : ∀ {u o : List (Nat × α)} {n : Nat}, (∀ p, p ∈ u → p.1 < n) → ∀ id, n ≤ id → look d (u ++ o) id = look d o id
  | [], _, _, _, _, _ => rfl
  | (i, x) :: u, o, n, h, id, hid => by
    have h1 : i < n := h (i, x) List.mem_cons_self
    have : Nat.beq i id = false := by
      cases hq : Nat.beq i id with
      | false => rfl
      | true => have := Nat.eq_of_beq_eq_true hq; omega
    show look d ((i, x) :: (u ++ o)) id = _
    simp only [look, this, cond_false]
    exact look_no (fun p hp => h p (List.mem_cons_of_mem _ hp)) id hid
theorem idsOk_mem {n : Nat} : ∀ {u : List (Nat × Ob)}, idsOk n u = true → ∀ p, p ∈ u → p.1 < n
  | [], _, _, h => by cases h
  | q :: u, h, p, hp => by
    simp only [idsOk, Bool.and_eq_true] at h
    rcases List.mem_cons.1 hp with rfl | hp
    · exact Nat.le_of_ble_eq_true h.1
    · exact idsOk_mem h.2 p hp
theorem FreshFrom.post {n : Nat} {dst : Option Tmp} {r : Out} (h : FreshFrom S n) (hi : idsOk (n + 1) r.u = true) : FreshFrom (S.post dst r) (n + 1) := fun id hid => by
  show look .no (r.u ++ S.o) id = _
  rw [look_no (idsOk_mem hi) id hid]
  exact h id (by omega)
theorem SR.lit (h : SR c ρ S a w) {d : Nat} {t : Bool} (hd : S.tmp d = .one (.b t)) : SR c ρ ⟨(d, .one (.b t)) :: S.t, S.o⟩ a w where
  tm := fun i => by
    show Rep c.X ρ S.ob w (look _ ((d, .one (.b t)) :: S.t) i) _
    simp only [look]
    cases hq : Nat.beq d i with
    | true =>
      have e := Nat.eq_of_beq_eq_true hq
      subst e
      have := h.tm d
      rw [hd] at this
      exact this
    | false => exact h.tm i
  sz := h.sz
  df := h.df
  ob := h.ob
  lv := h.lv
  ij := h.ij
  fr := h.fr
  xo := h.xo
  xl := h.xl
theorem SR.skip (h : SR c ρ S a w) {dst : Option Tmp} (hd : ∀ d, dst = some d → d < c.nt) : SR c ρ (skipT S dst) (a.put dst undef) w := by
  cases dst with
  | none => exact h
  | some d => exact h.put (x := .tup []) (v := undef) ⟨[], rfl, trivial⟩ (hd d rfl)
theorem tmp_bool (h : SR c ρ S a w) {d : Nat} {t : Bool} (hd : S.tmp d = .one (.b t)) : a.tmps.getD d undef = .bool t := by
  have := h.tm d
  rw [hd] at this
  exact (rep_v (o := S.ob) this).1
theorem yielded_bool {j d : Nat} {t : Bool} (hd : (ops[j]?).bind (·.dst) = some d) (ht : a.tmps.getD d undef = .bool t) : yielded ops a.tmps j = some t := by
  unfold yielded
  rw [hd]
  rw [Array.getD_eq_getD_getElem?] at ht
  cases hq : a.tmps[d]? with
  | none => rw [hq] at ht; cases ht
  | some v => rw [hq] at ht; simp at ht; subst ht; simp [hq]
theorem yielded_tup {j d : Nat} {vs : Array Value} (hd : (ops[j]?).bind (·.dst) = some d) (ht : a.tmps.getD d undef = .tuple vs) : yielded ops a.tmps j = none := by
  unfold yielded
  rw [hd]
  rw [Array.getD_eq_getD_getElem?] at ht
  cases hq : a.tmps[d]? with
  | none => simp [hq]
  | some v => rw [hq] at ht; simp at ht; subst ht; simp [hq]
theorem seqE_sound (V : Env P) : ∀ (l : List Oper) (n : Nat) (ρ : Rho) (S : St) (a : Act) (w : World) (k : Nat → St → Prop), SR c ρ S a w → FreshFrom S n → seqE V c.nt ops l n S k → (∀ n' ρ' S' a' w', SR c ρ' S' a' w' → FreshFrom S' n' → k n' S' → Q .normal a' w') → wpList P ops Q l a w
  | [], n, ρ, S, a, w, k, h, hf, hk, hq => hq n ρ S a w h hf hk
  | o :: rest, n, ρ, S, a, w, k, h, hf, hk, hq => by
    unfold seqE at hk
    cases hd : dstOk c.nt o.dst with
    | false => rw [hd] at hk; exact hk.elim
    | true =>
      rw [hd] at hk
      simp only [cond_true] at hk
      have hdst := dst_ok hd
      have run : ∀ {S1 : St}, SR c ρ S1 a w → FreshFrom S1 n → Region.wanted o (yielded ops a.tmps) = true → (bif idsOk (n + 1) (opE V S1 n o.op).u then (opE V S1 n o.op).p ∧ seqE V c.nt ops rest (n + 1) (S1.post o.dst (opE V S1 n o.op)) k else False) → wpList P ops Q (o :: rest) a w := fun {S1} h1 hf1 hw hk1 => by
        cases hi : idsOk (n + 1) (opE V S1 n o.op).u with
        | false => rw [hi] at hk1; exact hk1.elim
        | true =>
          rw [hi] at hk1
          refine wpList_step fun K hK => ?_
          rw [if_pos hw]
          refine Oper.wp_mono (fun a' w' => ?_) (op_sound V h1 (hf1 n (Nat.le_refl _)) o hk1.1 hdst)
          rintro ⟨ρ', h2⟩
          exact hK a' w' (seqE_sound V rest (n + 1) ρ' _ a' w' k h2 (hf1.post hi) hk1.2 hq)
      have skip : ∀ {S1 : St}, SR c ρ S1 a w → FreshFrom S1 n → Region.wanted o (yielded ops a.tmps) = false → seqE V c.nt ops rest (n + 1) (skipT S1 o.dst) k → wpList P ops Q (o :: rest) a w := fun {S1} h1 hf1 hw hk1 => by
        refine wpList_step fun K hK => ?_
        rw [hw]
        exact hK _ _ (seqE_sound V rest (n + 1) ρ _ _ w k (h1.skip hdst) (fun id hid => hf1 id (by omega)) hk1 hq)
      cases hg : o.guard with
      | none =>
        have e : guardOf ops o = none := by unfold guardOf; rw [hg]
        rw [e] at hk
        exact run h hf (by simp [Region.wanted, hg]) hk
      | some jb =>
        obtain ⟨j, b⟩ := jb
        have e : guardOf ops o = some ((ops[j]?).bind (·.dst), b) := by unfold guardOf; rw [hg]
        rw [e] at hk
        cases hdj : (ops[j]?).bind (·.dst) with
        | none => rw [hdj] at hk; exact hk.elim
        | some d =>
          rw [hdj] at hk
          dsimp only at hk
          split at hk
          · rename_i t ht
            have hy := yielded_bool (ops := ops) hdj (tmp_bool h ht)
            have hwn : Region.wanted o (yielded ops a.tmps) = (t == b) := by simp [Region.wanted, hg, hy]
            have hl := h.lit ht
            cases t <;> cases b <;> simp only [cond_true, cond_false] at hk
            · exact run hl hf hwn hk
            · exact skip hl hf hwn hk
            · exact skip hl hf hwn hk
            · exact run hl hf hwn hk
          · rename_i xs ht
            have h1 := h.tm d
            rw [ht] at h1
            obtain ⟨vs, hv, -⟩ := h1
            have hy := yielded_tup (ops := ops) hdj hv
            exact skip h hf (by simp [Region.wanted, hg, hy]) hk
          · exact hk.elim
end
end Go.Proofs.Ytkoiogfhbipmjaa
