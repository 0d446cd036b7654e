/-
  AN ABSTRACT MACHINE: contracts over typed arguments; contracts of functions of values alone.
-/
import Derived.Test.YtkoiogfhbipmjaaAr
namespace Go.Proofs.Ytkoiogfhbipmjaa
open Go Go.RowKit

/-- The same, but nothing that evaluates looks into it. -/
noncomputable def opq {α : Type} (a : α) : α := (Classical.choice ⟨(⟨a, rfl⟩ : {x : α // x = a})⟩ : {x : α // x = a}).1
theorem opq_eq {α : Type} (a : α) : opq a = a := (Classical.choice ⟨(⟨a, rfl⟩ : {x : α // x = a})⟩ : {x : α // x = a}).2
/-- One argument. -/
structure D1 (α : Type) where
  dec : XV → Option α
  enc : α → XV
  ok : ∀ {x a}, dec x = some a → x = enc a
/-- Arguments. -/
structure Dec (α : Type) where
  dec : List XV → Option α
  enc : α → List XV
  ok : ∀ {x a}, dec x = some a → x = enc a
def decNil : List XV → Option Unit
  | [] => some ()
  | _ => none
def dNil : Dec Unit := ⟨decNil, fun _ => [], fun {x a} h => by
  unfold decNil at h
  split at h
  · rfl
  · cases h⟩
def decCons {α β : Type} (d : XV → Option α) (r : List XV → Option β) : List XV → Option (α × β)
  | x :: l => match d x with
    | some a => match r l with
      | some b => some (a, b)
      | none => none
    | none => none
  | [] => none
def dCons {α β : Type} (d : D1 α) (r : Dec β) : Dec (α × β) := ⟨decCons d.dec r.dec, fun p => d.enc p.1 :: r.enc p.2, fun {x a} h => by
  unfold decCons at h
  split at h
  · split at h
    · rename_i h1
      split at h
      · rename_i h2
        cases h
        rw [d.ok h1, r.ok h2]
      · cases h
    · cases h
  · cases h⟩
def decI64 : XV → Option Int
  | .g (.v (.int .i64 n)) => some n
  | _ => none
def dI64 : D1 Int := ⟨decI64, fun n => .g (.i64 n), fun {x a} h => by
  unfold decI64 at h
  split at h
  · cases h; rfl
  · cases h⟩
def decU64 : XV → Option Int
  | .g (.v (.int .u64 n)) => some n
  | _ => none
def dU64 : D1 Int := ⟨decU64, fun n => .g (.u64 n), fun {x a} h => by
  unfold decU64 at h
  split at h
  · cases h; rfl
  · cases h⟩
def decU8 : XV → Option Int
  | .g (.v (.int .u8 n)) => some n
  | _ => none
def dU8 : D1 Int := ⟨decU8, fun n => .g (.v (.int .u8 n)), fun {x a} h => by
  unfold decU8 at h
  split at h
  · cases h; rfl
  · cases h⟩
def decB : XV → Option Bool
  | .g (.v (.bool b)) => some b
  | _ => none
def dB : D1 Bool := ⟨decB, fun b => .g (.v (.bool b)), fun {x a} h => by
  unfold decB at h
  split at h
  · cases h; rfl
  · cases h⟩
def decS : XV → Option ByteArray
  | .g (.v (.string b)) => some b
  | _ => none
def dS : D1 ByteArray := ⟨decS, fun b => .g (.v (.string b)), fun {x a} h => by
  unfold decS at h
  split at h
  · cases h; rfl
  · cases h⟩
/-- A slice: nil is one that has nothing. -/
def decSL (e : SL) : XV → Option SL
  | .g (.sl s) => some s
  | .g (.v (.slice none 0 0)) => some e
  | _ => none
def decEvs : XV → Option (List D.Ev)
  | .g (.sl (.ev l)) => some l
  | _ => none
def dEvs : D1 (List D.Ev) := ⟨decEvs, fun l => .g (.sl (.ev l)), fun {x a} h => by
  unfold decEvs at h
  split at h
  · cases h; rfl
  · cases h⟩
def decCes : XV → Option (List D.Ce)
  | .g (.sl (.ce l)) => some l
  | _ => none
def dCes : D1 (List D.Ce) := ⟨decCes, fun l => .g (.sl (.ce l)), fun {x a} h => by
  unfold decCes at h
  split at h
  · cases h; rfl
  · cases h⟩
def decWds : XV → Option (List D.Wd)
  | .g (.sl (.wd l)) => some l
  | _ => none
def dWds : D1 (List D.Wd) := ⟨decWds, fun l => .g (.sl (.wd l)), fun {x a} h => by
  unfold decWds at h
  split at h
  · cases h; rfl
  · cases h⟩
def decSlots : XV → Option (List D.Slot)
  | .g (.sl (.slot l)) => some l
  | _ => none
def dSlots : D1 (List D.Slot) := ⟨decSlots, fun l => .g (.sl (.slot l)), fun {x a} h => by
  unfold decSlots at h
  split at h
  · cases h; rfl
  · cases h⟩
def decU16s : XV → Option (List (List Int))
  | .g (.sl (.ints .u16 l)) => some l
  | _ => none
def dU16s : D1 (List (List Int)) := ⟨decU16s, fun l => .g (.sl (.ints .u16 l)), fun {x a} h => by
  unfold decU16s at h
  split at h
  · cases h; rfl
  · cases h⟩
def decAgg {α : Type} (d : List GV → Option α) : XV → Option α
  | .agg cs => d cs
  | _ => none
def dAgg {α : Type} (d : List GV → Option α) (e : α → List GV) (ok : ∀ {l a}, d l = some a → l = e a) : D1 α := ⟨decAgg d, fun a => .agg (e a), fun {x a} h => by
  unfold decAgg at h
  split at h
  · rw [ok h]
  · cases h⟩
def dEv : D1 D.Ev := dAgg decEv evG decEv_eq
def dCe : D1 D.Ce := dAgg decCe ceG decCe_eq
def dWd : D1 D.Wd := dAgg decWd wdG decWd_eq
def dSlot : D1 D.Slot := dAgg decSlot slotG decSlot_eq
/-- What a function does with its arguments. -/
def mkS {α : Type} (d : Dec α) (p : α → Prop) (r : α → List RV) : Spec := fun args => match d.dec args with
  | some a => ⟨p a, r a, []⟩
  | none => ⟨False, [], []⟩
theorem mkS_p {α : Type} {d : Dec α} {p : α → Prop} {r : α → List RV} {args : List XV} (h : (mkS d p r args).p) : ∃ a, args = d.enc a ∧ p a ∧ mkS d p r args = ⟨p a, r a, []⟩ := by
  have h0 := h
  unfold mkS at h
  split at h
  · rename_i a ha
    refine ⟨a, d.ok ha, h, ?_⟩
    unfold mkS
    rw [ha]
  · exact h.elim
theorem semS {α : Type} {P : Program} (V : Env P) (hm : P.follows .mixedOrders = true) {f : FuncId} {fn : Func} (hf : P.funcs[f]? = some fn) (d : Dec α) (p : α → Prop) (r : α → List RV) (L : α → List (Nat × LTr))
    (h0 : ∀ a, noRef (d.enc a) = true ∧ Nat.ble (d.enc a).length fn.ntmps = true ∧ Nat.ble (frOf (r a)).length 1 = true)
    (h : ∀ a, p a → runs V fn (L a) (d.enc a) (r a)) : CallSem P f (mkS d p r) := by
  refine callsem V hm hf fun args hp => ?_
  obtain ⟨a, rfl, hpa, he⟩ := mkS_p hp
  rw [he]
  obtain ⟨q1, q2, q3⟩ := h0 a
  exact ⟨L a, ⟨q1, q2, rfl, q3⟩, h a hpa⟩
/-- Values alone. -/
def vX : List Value → XV
  | [v] => .g (.v v)
  | vs => .agg (vs.map .v)
inductive VV where
  | v (x : Value)
  | a (xs : List Value)
def VV.x : VV → XV
  | .v x => .g (.v x)
  | .a xs => .agg (xs.map .v)
def VV.r : VV → RV
  | .v x => .g (.v x)
  | .a xs => .agg (xs.map .v)
def VV.e : VV → Value
  | .v x => x
  | .a xs => .agg xs.toArray
theorem grepL_iff {w : World} {W : Nat → Prop} : ∀ {xs : List Value}, xs.all (·.oneCell') = true → GRepL w W (xs.map .v) xs
  | [], _ => trivial
  | x :: xs, h => by
    simp only [List.all_cons, Bool.and_eq_true] at h
    exact ⟨GRep.v x h.1, grepL_iff (xs := xs) h.2⟩
def VV.one : VV → Bool
  | .v x => x.oneCell'
  | .a xs => xs.all (·.oneCell')
theorem xrep_vv {w : World} {W : Nat → Prop} : ∀ {l : List VV} {vs : List Value} {bs : List Nat}, XRep w W (l.map VV.x) vs bs → vs = l.map VV.e ∧ bs = []
  | [], [], [], _ => ⟨rfl, rfl⟩
  | .v x :: l, v :: vs, bs, h => by
    obtain ⟨h1, h2⟩ := h
    obtain ⟨e1, e2⟩ := xrep_vv (l := l) h2
    cases h1
    exact ⟨by rw [e1]; rfl, e2⟩
  | .a xs :: l, v :: vs, bs, h => by
    obtain ⟨⟨us, e, hu⟩, h2⟩ := h
    obtain ⟨e1, e2⟩ := xrep_vv (l := l) h2
    refine ⟨?_, e2⟩
    rw [e1, e, grepL_v hu]
    rfl
  | [], _ :: _, _, h => h.elim
  | .v _ :: _, [], _, h => h.elim
  | .a _ :: _, [], _, h => h.elim
  | [], [], _ :: _, h => h.elim
theorem r1_vv {w : World} {W : Nat → Prop} {fv : Option Value} {x : VV} (h : x.one = true) : R1 w W fv x.r x.e := by
  cases x with
  | v x => exact GRep.v x h
  | a xs => exact ⟨xs, rfl, grepL_iff h⟩
theorem r1l_vv {w : World} {W : Nat → Prop} {fv : Option Value} : ∀ {l : List VV}, l.all VV.one = true → R1L w W fv (l.map VV.r) (l.map VV.e)
  | [], _ => trivial
  | x :: l, h => by
    simp only [List.all_cons, Bool.and_eq_true] at h
    exact ⟨r1_vv h.1, r1l_vv h.2⟩
def vvE : List VV → Value
  | [x] => x.e
  | l => .tuple (l.map VV.e).toArray
/-- A contract of values alone is a contract. -/
theorem semV {α : Type} {P : Program} {f : FuncId} (d : Dec α) (p : α → Prop) (r : α → List RV) (va vr : α → List VV) (h1 : ∀ a, d.enc a = (va a).map VV.x) (h2 : ∀ a, r a = (vr a).map VV.r) (h3 : ∀ a, (vr a).all VV.one = true)
    (h : ∀ a, p a → ∀ w, Calls P f ((va a).map VV.e).toArray w fun e w' => e = .returned (vvE (vr a)) ∧ Below w.heap.size w w') : CallSem P f (mkS d p r) := by
  intro args vs bs w X hbn hbs hX hx hp
  obtain ⟨a, rfl, hpa, he⟩ := mkS_p hp
  rw [he]
  rw [h1] at hx
  obtain ⟨rfl, rfl⟩ := xrep_vv hx
  refine (h a hpa w).mono ?_
  rintro e w' ⟨rfl, hb⟩
  refine ⟨_, none, rfl, ⟨hb.os, hb.tape, hb.output, hb.size, fun k hk _ => hb.block k hk⟩, fun b ⟨v, hv, _⟩ => (by cases hv), ?_, ?_⟩
  · rw [h1]
    have : ∀ l : List VV, RefRep w' (fun b => X b ∨ b ∈ ([] : List Nat) ∨ Fresh none b) (l.map VV.x) [] [] := fun l => by
      induction l with
      | nil => trivial
      | cons x l ih => cases x <;> exact ih
    exact this _
  · dsimp only
    rw [h2]
    have h3a := h3 a
    revert h3a
    generalize vr a = l
    intro h3a
    cases l with
    | nil => exact ⟨[], rfl, trivial⟩
    | cons x l =>
      cases l with
      | nil =>
        simp only [List.all_cons, Bool.and_eq_true] at h3a
        exact r1_vv h3a.1
      | cons y l => exact ⟨_, rfl, r1l_vv h3a⟩
end Go.Proofs.Ytkoiogfhbipmjaa
