/-
  AN ABSTRACT MACHINE, 18: code, and what a function does.
-/
import Derived.Test.YtkoiogfhbipmjaaAm17
namespace Go.Proofs.Ytkoiogfhbipmjaa
open Go Go.RowKit

def firstR : Code → Option Nat
  | .region id _ _ => some id
  | .seq x y => match firstR x with
    | some r => some r
    | none => firstR y
  | .cond _ x y => match firstR x with
    | some r => some r
    | none => firstR y
  | .block _ b => firstR b
  | .loop b => firstR b
  | .scope b => firstR b
  | _ => none
/-- Loops, and those within them, which may hang on what is hidden in the outer one. -/
inductive LTr where
  | mk (I : LoopI) (sub : I.ι → List (Nat × LTr))
def LTr.I : LTr → LoopI
  | .mk I _ => I
def LTr.sub : (T : LTr) → T.I.ι → List (Nat × LTr)
  | .mk _ s => s
/-- A loop without another one in it. -/
def leaf (I : LoopI) : LTr := .mk I fun _ => []
def findL : List (Nat × LTr) → Nat → Option LTr
  | [], _ => none
  | (i, x) :: l, j => bif Nat.beq i j then some x else findL l j
/-- Slices that are nil, as slices of one's own that have nothing: the temporary, the object, what it has. -/
def nilS (S : St) : List (Nat × Nat × TypeId × SL) → St
  | [] => S
  | (t, id, T, s) :: l => nilS ⟨(t, .one (.row id 0)) :: S.t, (id, .row T s) :: S.o⟩ l
def nilP (S : St) : List (Nat × Nat × TypeId × SL) → Prop
  | [] => True
  | (t, id, T, s) :: l => (S.tmp t = .one (.v (.slice none 0 0)) ∧ S.ob id = .no ∧ s.len = 0) ∧ nilP ⟨(t, .one (.row id 0)) :: S.t, (id, .row T s) :: S.o⟩ l
def idOf : AV → Option Nat
  | .ptr id _ => some id
  | .row id _ => some id
  | .rp id _ _ _ => some id
  | _ => none
/-- The other names of the objects of T, in S: by what the temporaries of T have in S. -/
def mAdd (S : St) (acc : List (Nat × Nat)) : List (Nat × TV) → List (Nat × Nat)
  | [] => acc
  | (t, .one x) :: l => match idOf x, S.tmp t with
    | some i, .one y => match idOf y, find acc i with
      | some j, none => mAdd S ((i, j) :: acc) l
      | _, _ => mAdd S acc l
    | _, _ => mAdd S acc l
  | (_, .tup _) :: l => mAdd S acc l
def mOf (S T : St) : List (Nat × Nat) := mAdd S [] T.t
def SL.none : SL → SL
  | .ev _ => .ev [] | .ce _ => .ce [] | .wd _ => .wd [] | .slot _ => .slot [] | .lab _ => .lab [] | .mat _ => .mat [] | .int k _ => .int k [] | .str _ => .str [] | .ints k _ => .ints k [] | .labs _ => .labs []
def zAdd (S T : St) : List (Nat × TV) → List (Nat × Nat × TypeId × SL)
  | [] => []
  | (t, .one (.row i _)) :: l => match T.ob i, S.tmp t with
    | .row ty s, .one (.g (.v (.slice none 0 0))) => (t, 1000000 + t, ty, s.none) :: zAdd S T l
    | _, _ => zAdd S T l
  | _ :: l => zAdd S T l
def zOf (S T : St) : List (Nat × Nat × TypeId × SL) := zAdd S T T.t
/-- The loop is come into from here. -/
def Enter (I : LoopI) (S : St) : Prop := ∃ i, I.ok i ∧ nilP S (zOf S (I.st i)) ∧ Le (mOf (nilS S (zOf S (I.st i))) (I.st i)) I.nx (nilS S (zOf S (I.st i))) (I.st i)
/-- The loop goes on from here. -/
def Again (I : LoopI) (i : I.ι) (S : St) : Prop := ∃ j, I.ok j ∧ I.μ j < I.μ i ∧ Le (mOf S (I.st j)) I.nx S (I.st j)
def awp {P : Program} (V : Env P) (nt : Nat) : List (Nat × LTr) → Code → Nat → St → (Ex → Nat → St → Prop) → Prop
  | L, .skip, n, S, k => k .nor n S
  | L, .region _ ops draw, n, S, k => regE V nt ops draw n S fun n' S' => k .nor n' S'
  | L, .seq x y, n, S, k => awp V nt L x n S fun e n' S' => match e with
    | .nor => awp V nt L y n' S' k
    | .exi id => k (.exi id) n' S'
    | .ret => k .ret n' S'
  | L, .cond (.tmp d) x y, n, S, k => match S.tmp d with
    | .one (.g (.v (.bool t))) => cond t (awp V nt L x n ⟨(d, .one (.b true)) :: S.t, S.o⟩ k) (awp V nt L y n ⟨(d, .one (.b false)) :: S.t, S.o⟩ k)
    | _ => False
  | L, .cond (.const (.bool t)) x y, n, S, k => cond t (awp V nt L x n S k) (awp V nt L y n S k)
  | L, .block id b, n, S, k => awp V nt L b n S fun e n' S' => match e with
    | .nor => k .nor n' S'
    | .exi i => bif Nat.beq i id then k .nor n' S' else k (.exi i) n' S'
    | .ret => k .ret n' S'
  | L, .exit id, n, S, k => k (.exi id) n S
  | L, .ret, n, S, k => k .ret n S
  | L, .scope b, n, S, k => awp V nt L b n S k
  | L, .label _, n, S, k => k .nor n S
  | L, .loop b, n, S, k => match (firstR b).bind (findL L) with
    | some T => Enter T.I S ∧ ∀ i, T.I.ok i → awp V nt (T.sub i) b T.I.nx (T.I.st i) fun e n' S' => match e with
      | .nor => Again T.I i S'
      | .exi id => k (.exi id) n' S'
      | .ret => k .ret n' S'
    | none => False
  | _, _, _, _, _ => False
def toExit : Ex → Exit
  | .nor => .normal
  | .exi id => .exit id
  | .ret => .ret
section
variable {P : Program} {c : Cx} {ρ : Rho} {S T : St} {a : Act} {w : World} {Q : Exit → Act → World → Prop}
theorem Le.fresh {m : List (Nat × Nat)} {nx : Nat} (h : Le m nx S T) : FreshFrom T nx := fun id hid => by
  obtain ⟨hb, -, -⟩ := h
  simp only [Bool.and_eq_true] at hb
  obtain ⟨⟨⟨-, -⟩, b3⟩, b4⟩ := hb
  refine look_none fun hm => ?_
  have h1 := List.all_eq_true.1 b3 id hm
  obtain ⟨j, hj⟩ := Option.isSome_iff_exists.1 h1
  have h2 := List.all_eq_true.1 b4 id (List.mem_map.2 ⟨(id, j), find_mem hj, rfl⟩)
  have : id < nx := Nat.le_of_ble_eq_true h2
  omega
theorem SR.nils (z : List (Nat × Nat × TypeId × SL)) : ∀ {ρ : Rho} {S : St}, SR c ρ S a w → nilP S z → ∃ ρ', SR c ρ' (nilS S z) a w := by
  induction z with
  | nil => intro ρ S h _; exact ⟨ρ, h⟩
  | cons p z ih =>
    intro ρ S h hp
    obtain ⟨t, id, T, s⟩ := p
    obtain ⟨⟨h1, h2, h3⟩, h4⟩ := hp
    have hv := h.tm t
    rw [h1] at hv
    have hv' : a.tmps.getD t undef = .slice none 0 0 := (rep_v (o := S.ob) hv).1
    obtain ⟨q, -⟩ := h.one (w' := w) id (.cur (.slice none 0 0)) (.row T s) (fun b hb => by cases hb) rfl rfl rfl (Nat.le_refl _) (fun _ _ _ => rfl) (by rw [h2]; trivial)
      ⟨_, [], upd_self, ⟨by simp [h3], .inl ⟨rfl, h3⟩⟩, fun j r hj => by have := (SL.at_lt hj).1; omega⟩
    refine ih (ρ := upd ρ id (.cur (.slice none 0 0))) ?_ h4
    refine ⟨fun i => ?_, q.sz, q.df, q.ob, q.lv, q.ij, q.fr, q.xo, q.xl⟩
    show Rep _ _ _ _ (look _ ((t, TV.one (.row id 0)) :: S.t) i) _
    simp only [look]
    cases hb : Nat.beq t i with
    | false => exact q.tm i
    | true =>
      rw [← Nat.eq_of_beq_eq_true hb, hv']
      show Rep1 _ _ _ _ (.row id 0) _
      simp only [Rep1]
      rw [show St.ob ⟨(t, TV.one (.row id 0)) :: S.t, (id, .row T s) :: S.o⟩ id = .row T s from ob_self]
      exact ⟨Nat.zero_le _, fun _ => upd_self⟩
theorem least {p : Nat → Prop} (h : ∃ r, p r) : ∃ r, p r ∧ ∀ s, p s → r ≤ s := by
  obtain ⟨r, hr⟩ := h
  induction r using Nat.strongRecOn with
  | _ r ih =>
    by_cases hx : ∃ s, s < r ∧ p s
    · obtain ⟨s, h1, h2⟩ := hx; exact ih s h1 h2
    · refine ⟨r, hr, fun s hs => ?_⟩
      rcases Nat.lt_or_ge s r with h | h
      · exact absurd ⟨s, h, hs⟩ hx
      · exact h
theorem awp_sound (V : Env P) (hm : P.follows .mixedOrders = true) (code : Code) : ∀ {L : List (Nat × LTr)} {n : Nat} {ρ : Rho} {S : St} {a : Act} {w : World} {k : Ex → Nat → St → Prop} {Q : Exit → Act → World → Prop}, SR c ρ S a w → FreshFrom S n → awp V c.nt L code n S k →
    (∀ e n' ρ' S' a' w', SR c ρ' S' a' w' → FreshFrom S' n' → k e n' S' → Q (toExit e) a' w') → code.wp P Q a w := by
  induction code with
  | skip => intro L n ρ S a w k Q h hf hk hq; exact wp_skip (hq .nor n ρ S a w h hf hk)
  | region id ops draw => intro L n ρ S a w k Q h hf hk hq; exact regE_sound V hm h hf hk fun n' ρ' S' a' w' h1 h2 h3 => hq .nor n' ρ' S' a' w' h1 h2 h3
  | seq x y ihx ihy =>
    intro L n ρ S a w k Q h hf hk hq
    refine wp_seq (ihx h hf hk fun e n' ρ' S' a' w' h1 h2 h3 => ?_)
    cases e with
    | nor => exact ihy h1 h2 h3 hq
    | exi id => exact hq (.exi id) n' ρ' S' a' w' h1 h2 h3
    | ret => exact hq .ret n' ρ' S' a' w' h1 h2 h3
  | cond o x y ihx ihy =>
    intro L n ρ S a w k Q h hf hk hq
    cases o with
    | tmp d =>
      unfold awp at hk
      split at hk
      · rename_i t ht
        have hv : a.eval (.tmp d) = .bool t := tmp_bool h ht
        have hl := h.lit ht
        refine wp_cond hv ?_
        cases t
        · exact ihy hl hf hk hq
        · exact ihx hl hf hk hq
      · exact hk.elim
    | const v =>
      cases v <;> try (exact hk.elim)
      rename_i t
      refine wp_cond (t := t) rfl ?_
      cases t
      · exact ihy h hf hk hq
      · exact ihx h hf hk hq
    | global g => exact hk.elim
    | func f => exact hk.elim
  | block id b ih =>
    intro L n ρ S a w k Q h hf hk hq
    refine wp_block (ih h hf hk fun e n' ρ' S' a' w' h1 h2 h3 => ?_)
    cases e with
    | nor => exact hq .nor n' ρ' S' a' w' h1 h2 h3
    | exi i =>
      dsimp only at h3
      show (if i = id then Q .normal a' w' else Q (.exit i) a' w')
      cases hb : Nat.beq i id with
      | true =>
        rw [hb] at h3
        rw [if_pos (Nat.eq_of_beq_eq_true hb)]
        exact hq .nor n' ρ' S' a' w' h1 h2 h3
      | false =>
        rw [hb] at h3
        rw [if_neg fun e => by rw [e, Nat.beq_refl] at hb; cases hb]
        exact hq (.exi i) n' ρ' S' a' w' h1 h2 h3
    | ret => exact hq .ret n' ρ' S' a' w' h1 h2 h3
  | loop b ih =>
    intro L n ρ S a w k Q h hf hk hq
    unfold awp at hk
    split at hk
    · rename_i T hI
      obtain ⟨I, sub⟩ := T
      dsimp only [LTr.I, LTr.sub] at hk
      obtain ⟨⟨i, hok, hz, hle⟩, hround⟩ := hk
      obtain ⟨ρ1, h1⟩ := SR.nils _ h hz
      obtain ⟨ρ2, h2⟩ := h1.le hle
      let rnk : Act → World → Nat → Prop := fun a w r => ∃ i ρ, I.ok i ∧ SR c ρ (I.st i) a w ∧ FreshFrom (I.st i) I.nx ∧ I.μ i ≤ r
      have key : ∀ r a w, rnk a w r → (Code.loop b).wp P Q a w := fun r => by
        classical
        intro a w hr
        let μ : Act → World → Nat := fun a w => if hx : ∃ r, rnk a w r then (least hx).choose else 0
        refine wp_loop (fun a w => ∃ r, rnk a w r) μ ⟨r, hr⟩ fun a w hex => ?_
        have hμ : μ a w = (least hex).choose := dif_pos hex
        obtain ⟨i, ρ, hok, hs, hfr, hle⟩ := (least hex).choose_spec.1
        refine ih hs hfr (hround i hok) fun e n' ρ' S' a' w' q1 q2 q3 => ?_
        cases e with
        | nor =>
          obtain ⟨j, hj, hlt, hle2⟩ := q3
          obtain ⟨ρ3, h3⟩ := q1.le hle2
          have hr' : rnk a' w' (I.μ j) := ⟨j, ρ3, hj, h3, hle2.fresh, Nat.le_refl _⟩
          have hex' : ∃ r, rnk a' w' r := ⟨_, hr'⟩
          refine ⟨hex', ?_⟩
          rw [hμ]
          have hμ' : μ a' w' = (least hex').choose := dif_pos hex'
          rw [hμ']
          have := (least hex').choose_spec.2 _ hr'
          omega
        | exi id => exact hq (.exi id) n' ρ' S' a' w' q1 q2 q3
        | ret => exact hq .ret n' ρ' S' a' w' q1 q2 q3
      exact key _ a w ⟨i, ρ2, hok, h2, hle.fresh, Nat.le_refl _⟩
    · exact hk.elim
  | rangeFunc f ps x y _ _ => intro L n ρ S a w k Q h hf hk hq; exact hk.elim
  | exit id => intro L n ρ S a w k Q h hf hk hq; exact wp_exit (hq (.exi id) n ρ S a w h hf hk)
  | scope b ih =>
    intro L n ρ S a w k Q h hf hk hq
    refine wp_scope_straight (ih h hf hk fun e n' ρ' S' a' w' h1 h2 h3 => ?_)
    cases e with
    | nor => exact hq .nor n' ρ' S' a' w' h1 h2 h3
    | exi i => exact hq (.exi i) n' ρ' S' a' w' h1 h2 h3
    | ret => exact hq .ret n' ρ' S' a' w' h1 h2 h3
  | label l => intro L n ρ S a w k Q h hf hk hq; exact wp_label (hq .nor n ρ S a w h hf hk)
  | goto l => intro L n ρ S a w k Q h hf hk hq; exact hk.elim
  | ret => intro L n ρ S a w k Q h hf hk hq; exact wp_ret (hq .ret n ρ S a w h hf hk)
  | refuse s => intro L n ρ S a w k Q h hf hk hq; exact hk.elim
end
end Go.Proofs.Ytkoiogfhbipmjaa
