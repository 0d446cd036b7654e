/-
  AN ABSTRACT MACHINE, 2: operations that make values alone.
-/
import Derived.Test.YtkoiogfhbipmjaaAm1
namespace Go.Proofs.Ytkoiogfhbipmjaa
open Go Go.RowKit

/-- How many cells a type has, and whether it is a row of them. -/
def lay (P : Program) (t : TypeId) : Option (Nat × Bool) :=
  match P.underlying t, P.info? t with
  | some d, some i => some (i.size, d.isRow)
  | _, _ => none
theorem lay_some {P : Program} {t : TypeId} {n : Nat} {b : Bool} (h : lay P t = some (n, b)) : ∃ d i, P.underlying t = some d ∧ P.info? t = some i ∧ i.size = n ∧ d.isRow = b := by
  unfold lay at h
  cases h1 : P.underlying t with
  | none => simp [h1] at h
  | some d =>
    cases h2 : P.info? t with
    | none => simp [h1, h2] at h
    | some i => simp [h1, h2] at h; exact ⟨d, i, rfl, rfl, h.1, h.2⟩
theorem run_isAgg {P : Program} {t : TypeId} {d : TypeDesc} (h : P.underlying t = some d) (w : World) : (isAgg t).run P w = .ok d.isRow w := by
  unfold isAgg
  rw [Sem.run_bind, run_underlying h w]
  cases d <;> rfl
theorem run_sizeOf' {P : Program} {t : TypeId} {i : TypeInfo} (h : P.info? t = some i) (w : World) : (sizeOf t).run P w = .ok i.size w := by
  simp [sizeOf, typeInfo, Sem.run_bind, h]
/-- What an operation comes to: its value, what it makes of objects, and what must hold. -/
structure Out where
  x : TV
  u : List (Nat × Ob)
  p : Prop
abbrev Out.fail : Out := ⟨.one .any, [], False⟩
abbrev Out.val (x : AV) : Out := ⟨.one x, [], True⟩
abbrev Out.valP (x : AV) (p : Prop) : Out := ⟨.one x, [], p⟩
/-- Out of cells. -/
def partG (P : Program) (t : TypeId) (cs : List GV) (off : Nat) : Out :=
  match lay P t with
  | some (n, true) => bif Nat.ble (off + n) cs.length then .val (.agg ((cs.drop off).take n)) else .fail
  | some (_, false) => match cs[off]? with
    | some g => .val (.g g)
    | none => .fail
  | none => .fail
/-- What a value operation has to do. -/
def ValS (P : Program) (m : Sem Value) (X : Nat → Prop) (ρ : Rho) (o : Nat → Ob) (w : World) (r : Out) : Prop := r.p → r.u = [] ∧ ∃ v, m.run P w = .ok v w ∧ Rep X ρ o w r.x v
section
variable {P : Program} {X : Nat → Prop} {ρ : Rho} {o : Nat → Ob} {w : World}
theorem ValS.fail {m : Sem Value} : ValS P m X ρ o w .fail := fun h => h.elim
theorem ValS.pure {v : Value} {x : AV} (h : Rep1 X ρ o w x v) : ValS P (pure v) X ρ o w (.val x) := fun _ => ⟨rfl, v, rfl, h⟩
theorem ValS.run {m : Sem Value} {v : Value} {x : AV} {p : Prop} (hr : p → m.run P w = .ok v w) (h : p → Rep1 X ρ o w x v) : ValS P m X ρ o w (.valP x p) := fun hp => ⟨rfl, v, hr hp, h hp⟩
theorem rep_v {v u : Value} (h : Rep1 X ρ o w (.v u) v) : v = u ∧ u.oneCell' = true := by
  cases (show GRep w (Wr X ρ) (.v u) v from h) with
  | v _ h1 => exact ⟨rfl, h1⟩
theorem rep_of {v : Value} (h : v.oneCell' = true) : Rep1 X ρ o w (.v v) v := GRep.v v h
theorem rep_g {x : GV} {v : Value} (h : GRep w (Wr X ρ) x v) : Rep1 X ρ o w (.g x) v := h
theorem part_sound {t : TypeId} {cs : List GV} {vs : List Value} (off : Nat) (h : GRepL w (Wr X ρ) cs vs) : ValS P (part t vs.toArray off) X ρ o w (partG P t cs off) := by
  unfold partG
  split
  · rename_i n hl
    obtain ⟨d, i, h1, h2, rfl, h3⟩ := lay_some hl
    cases hb : Nat.ble (off + i.size) cs.length with
    | false => exact ValS.fail
    | true =>
      refine ValS.run (v := .agg ((vs.drop off).take i.size).toArray) (fun _ => ?_) fun _ => ⟨_, rfl, (h.drop off).take i.size⟩
      unfold part
      rw [Sem.run_bind, run_isAgg h1 w, h3]
      simp [Sem.run_bind, run_sizeOf' h2, List.take_drop, Nat.add_comm]
  · rename_i n hl
    obtain ⟨d, i, h1, h2, rfl, h3⟩ := lay_some hl
    split
    · rename_i g hg
      obtain ⟨v, hv, hr⟩ := h.get hg
      refine ValS.run (v := v) (fun _ => ?_) fun _ => hr
      unfold part
      rw [Sem.run_bind, run_isAgg h1 w, h3]
      simp [hv]
    · exact ValS.fail
  · exact ValS.fail
/-- Numbers. -/
def intE (op : BinOp) (k : IntKind) (m n : Int) : Out :=
  match op with
  | .add => .val (.v (.int k (k.wrap (m + n))))
  | .sub => .val (.v (.int k (k.wrap (m - n))))
  | .mul => .val (.v (.int k (k.wrap (m * n))))
  | .quo => .valP (.v (.int k (k.wrap (m.tdiv n)))) (n ≠ 0)
  | .rem => .valP (.v (.int k (m.tmod n))) (n ≠ 0)
  | .eql => .val (.b (m == n))
  | .neq => .val (.b (m != n))
  | .lss => .val (.b (decide (m < n)))
  | .leq => .val (.b (decide (m ≤ n)))
  | .gtr => .val (.b (decide (m > n)))
  | .geq => .val (.b (decide (m ≥ n)))
  | _ => .fail
theorem intE_sound {op : BinOp} {t u : TypeId} {a b : Operand} {k : IntKind} {m n : Int} : ValS P (do eqGuard op t a b (.int k m) (.int k n); binOp op t (.int k m) (.int k n)) X ρ o w (intE op k m n) := by
  cases op <;> simp only [intE] <;> first
    | exact ValS.fail
    | (refine ValS.run (v := .int k _) (fun h => ?_) fun _ => rep_of rfl; simp_all [eqGuard, binOp, Op.intArith, Op.intDiv, Sem.run_bind]; done)
    | (refine ValS.run (v := .bool _) (fun _ => ?_) fun _ => rep_of rfl; simp [eqGuard, binOp, Op.intCmp, Sem.run_bind])
def strE (op : BinOp) (x y : ByteArray) : Out :=
  match op with
  | .eql => .val (.b (x.toList == y.toList))
  | .neq => .val (.b (!(x.toList == y.toList)))
  | _ => .fail
theorem strE_sound {op : BinOp} {t : TypeId} {a b : Operand} {x y : ByteArray} : ValS P (do eqGuard op t a b (.string x) (.string y); binOp op t (.string x) (.string y)) X ρ o w (strE op x y) := by
  cases op <;> simp only [strE] <;> first
    | exact ValS.fail
    | (refine ValS.run (v := .bool _) (fun _ => ?_) fun _ => rep_of rfl; simp [eqGuard, binOp, Op.stringOp, Sem.run_bind])
/-- How values of a struct are held against one another. -/
structure EqT (P : Program) where
  eq : TypeId → List GV → List GV → Option Bool
  sound : ∀ {t : TypeId} {xs ys : List GV} {b : Bool} {W : Nat → Prop} {w : World} {vx vy : List Value}, eq t xs ys = some b → GRepL w W xs vx → GRepL w W ys vy →
    P.eqGuardType P.depth t = false ∧ (Op.equal t (.agg vx.toArray) (.agg vy.toArray)).run P w = .ok b w
theorem run_beq {t : TypeId} (h : P.underlying t = some .bool) (a b : Bool) (w : World) : (Op.equal t (.bool a) (.bool b)).run P w = .ok (a == b) w := by
  show (Op.equalIn (9999 + 1) t (.bool a) (.bool b)).run P w = _
  unfold Op.equalIn
  rw [Sem.run_bind, run_underlying h w]
  rfl
def binE (E : EqT P) (op : BinOp) (t : TypeId) (x y : AV) : Out :=
  match x, y with
  | .g (.v (.int k m)), .g (.v (.int k' n)) => if k = k' then intE op k m n else .fail
  | .g (.v (.string a)), .g (.v (.string b)) => strE op a b
  | .g (.v (.bool a)), .g (.v (.bool b)) =>
    match P.underlying t, op with
    | some .bool, .eql => .val (.b (a == b))
    | some .bool, .neq => .val (.b (!(a == b)))
    | _, _ => .fail
  | .agg xs, .agg ys =>
    match E.eq t xs ys, op with
    | some r, .eql => .val (.b r)
    | some r, .neq => .val (.b (!r))
    | _, _ => .fail
  | _, _ => .fail
theorem binE_sound {E : EqT P} {op : BinOp} {t : TypeId} {a b : Operand} {x y : AV} {vx vy : Value} (hx : Rep1 X ρ o w x vx) (hy : Rep1 X ρ o w y vy) : ValS P (do eqGuard op t a b vx vy; binOp op t vx vy) X ρ o w (binE E op t x y) := by
  unfold binE
  split
  · rename_i k m k' n
    obtain ⟨rfl, -⟩ := rep_v hx
    obtain ⟨rfl, -⟩ := rep_v hy
    split
    · rename_i h; subst h; exact intE_sound (u := t)
    · exact ValS.fail
  · obtain ⟨rfl, -⟩ := rep_v hx
    obtain ⟨rfl, -⟩ := rep_v hy
    exact strE_sound
  · obtain ⟨rfl, -⟩ := rep_v hx
    obtain ⟨rfl, -⟩ := rep_v hy
    rename_i a b
    split
    · rename_i h
      refine ValS.run (v := .bool _) (fun _ => ?_) fun _ => rep_of rfl
      have e := run_beq h a b w
      simp [eqGuard, binOp, Sem.run_bind, e]
    · rename_i h
      refine ValS.run (v := .bool _) (fun _ => ?_) fun _ => rep_of rfl
      have e := run_beq h a b w
      simp [eqGuard, binOp, Sem.run_bind, e]
    · exact ValS.fail
  · obtain ⟨ux, rfl, h1⟩ := hx
    obtain ⟨uy, rfl, h2⟩ := hy
    split
    · rename_i r h
      obtain ⟨h3, h4⟩ := E.sound h h1 h2
      refine ValS.run (v := .bool r) (fun _ => ?_) fun _ => rep_of rfl
      rw [Sem.run_bind, run_eqGuard_agg (hm := h3)]
      simp [binOp, Sem.run_bind, h4]
    · rename_i r h
      obtain ⟨h3, h4⟩ := E.sound h h1 h2
      refine ValS.run (v := .bool (!r)) (fun _ => ?_) fun _ => rep_of rfl
      rw [Sem.run_bind, run_eqGuard_agg (hm := h3)]
      simp [binOp, Sem.run_bind, h4]
    · exact ValS.fail
  · exact ValS.fail
def unE (op : UnOp) (x : AV) : Out :=
  match op, x with
  | .not, .g (.v (.bool b)) => .val (.b (!b))
  | .neg, .g (.v (.int k n)) => .val (.v (.int k (k.wrap (0 - n))))
  | _, _ => .fail
theorem unE_sound {op : UnOp} {x : AV} {vx : Value} (hx : Rep1 X ρ o w x vx) : ValS P (Op.unary op vx) X ρ o w (unE op x) := by
  unfold unE
  split
  · obtain ⟨rfl, -⟩ := rep_v hx
    exact ValS.run (v := .bool _) (fun _ => rfl) fun _ => rep_of rfl
  · obtain ⟨rfl, -⟩ := rep_v hx
    exact ValS.run (v := .int _ _) (fun _ => rfl) fun _ => rep_of rfl
  · exact ValS.fail
def convE (P : Program) (src dst : TypeId) (x : AV) : Out :=
  match P.underlying src, P.underlying dst, x with
  | some _, some (.int k), .g (.v (.int _ n)) => .val (.v (.int k (k.wrap n)))
  | _, _, _ => .fail
theorem convE_sound {src dst : TypeId} {x : AV} {vx : Value} (hx : Rep1 X ρ o w x vx) : ValS P (convert src dst vx) X ρ o w (convE P src dst x) := by
  unfold convE
  split
  · rename_i d k kk n h1 h2
    obtain ⟨rfl, -⟩ := rep_v hx
    refine ValS.run (v := .int _ _) (fun _ => ?_) fun _ => rep_of rfl
    simp [convert, Sem.run_bind, run_underlying h1, run_underlying h2, Conv.intToInt]
  · exact ValS.fail
def fieldE (P : Program) (t : TypeId) (x : AV) (f : Nat) : Out :=
  match P.underlying t, x with
  | some (.struct fs), .agg cs => match fs[f]? with
    | some q => partG P q.type cs q.offset
    | none => .fail
  | _, _ => .fail
theorem fieldE_sound {t : TypeId} {x : AV} {f : Nat} {vx : Value} (hx : Rep1 X ρ o w x vx) : ValS P (Instr.field t vx f) X ρ o w (fieldE P t x f) := by
  unfold fieldE
  split
  · rename_i fs cs h1
    obtain ⟨vs, rfl, h2⟩ := hx
    split
    · rename_i q hq
      intro hp
      obtain ⟨e, v, hr, hv⟩ := part_sound (P := P) (t := q.type) q.offset h2 hp
      refine ⟨e, v, ?_, hv⟩
      unfold Instr.field
      simp [Sem.run_bind, run_underlying h1, hq, asAgg, hr]
    · exact ValS.fail
  · exact ValS.fail
/-- An array's part, by a number. -/
def indexE (P : Program) (t : TypeId) (x i : AV) : Out :=
  match P.underlying t, x, i with
  | some (.array len e), .agg cs, .g (.v (.int _ n)) => match lay P e with
    | some (k, _) => bif decide (0 ≤ n) && decide (n < len) then partG P e cs (n.toNat * k) else .fail
    | none => .fail
  | _, _, _ => .fail
theorem indexE_sound {t : TypeId} {x i : AV} {vx vi : Value} (hx : Rep1 X ρ o w x vx) (hi : Rep1 X ρ o w i vi) : ValS P (Instr.index t vx vi) X ρ o w (indexE P t x i) := by
  unfold indexE
  split
  · rename_i len e cs k n h1
    obtain ⟨vs, rfl, h2⟩ := hx
    obtain ⟨rfl, -⟩ := rep_v hi
    split
    · rename_i m b hl
      obtain ⟨d, i, h4, h5, rfl, h6⟩ := lay_some hl
      cases hb : decide (0 ≤ n) && decide (n < len) with
      | false => exact ValS.fail
      | true =>
        intro hp
        obtain ⟨e', v, hr, hv⟩ := part_sound (P := P) (t := e) (n.toNat * i.size) h2 hp
        refine ⟨e', v, ?_, hv⟩
        have hb' : 0 ≤ n ∧ n < len := by simpa using hb
        unfold Instr.index
        simp [Sem.run_bind, run_underlying h1, asIntOf, hb', run_sizeOf' h5, hr]
    · exact ValS.fail
  · exact ValS.fail
def extractE (x : TV) (i : Nat) : Out :=
  match x with
  | .tup xs => match xs[i]? with
    | some y => .val y
    | none => .fail
  | _ => .fail
theorem rep1l_get : ∀ {xs : List AV} {vs : List Value} {i : Nat} {x : AV}, Rep1L X ρ o w xs vs → xs[i]? = some x → ∃ v, vs[i]? = some v ∧ Rep1 X ρ o w x v
  | [], [], i, x, _, hg => by simp at hg
  | _ :: _, v :: _, 0, x, h, hg => ⟨v, rfl, by simp at hg; exact hg ▸ h.1⟩
  | _ :: _, _ :: _, i + 1, x, h, hg => by
    obtain ⟨v, a, b⟩ := rep1l_get h.2 (i := i) (by simpa using hg)
    exact ⟨v, by simpa using a, b⟩
  | [], _ :: _, _, _, h, _ => h.elim
  | _ :: _, [], _, _, h, _ => h.elim
theorem extractE_sound {x : TV} {i : Nat} {vx : Value} (hx : Rep X ρ o w x vx) : ValS P (Instr.extract vx i) X ρ o w (extractE x i) := by
  unfold extractE
  split
  · obtain ⟨vs, rfl, h⟩ := hx
    split
    · rename_i y hy
      obtain ⟨v, h1, h2⟩ := rep1l_get h hy
      exact ValS.run (v := v) (fun _ => by simp [Instr.extract, h1]) fun _ => h2
    · exact ValS.fail
  · exact ValS.fail
def pickT (b : Bool) (x y : TV) : TV :=
  match x, y with
  | .one (.g (.v (.bool p))), .one (.g (.v (.bool q))) => .one (.b (bif b then p else q))
  | x, y => bif b then x else y
theorem pickT_sound {b : Bool} {x y : TV} {vx vy : Value} (hx : Rep X ρ o w x vx) (hy : Rep X ρ o w y vy) : Rep X ρ o w (pickT b x y) (if b then vx else vy) := by
  unfold pickT
  split
  · obtain ⟨rfl, -⟩ := rep_v (o := o) hx
    obtain ⟨rfl, -⟩ := rep_v (o := o) hy
    cases b <;> exact rep_of (o := o) rfl
  · cases b <;> assumption
end
end Go.Proofs.Ytkoiogfhbipmjaa
