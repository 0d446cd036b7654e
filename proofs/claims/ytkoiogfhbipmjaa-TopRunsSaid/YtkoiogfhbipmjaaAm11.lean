/-
  AN ABSTRACT MACHINE, 11: one operation, whatever it is.
-/
import Derived.Test.YtkoiogfhbipmjaaAm10
namespace Go.Proofs.Ytkoiogfhbipmjaa
open Go Go.RowKit

def constT (v : Value) : TV :=
  bif v.oneCell' then .one (.v v) else match v with
  | .agg cs => bif cs.toList.all (·.oneCell') then .one (.agg (cs.toList.map .v)) else .one .any
  | _ => .one .any
def evO (S : St) : Operand → TV
  | .tmp t => S.tmp t
  | .const v => constT v
  | .global _ => .one .any
  | .func f => .one (.v (.func (.func f) #[] #[]))
def one : TV → AV
  | .one x => x
  | .tup _ => .any
def evA (S : St) (x : Operand) : AV := one (evO S x)
def St.post (S : St) (dst : Option Tmp) (r : Out) : St := ⟨match dst with
  | some d => (d, r.x) :: S.t
  | none => S.t, r.u ++ S.o⟩
def frzO (o : List (Nat × Ob)) (xs : List AV) (k : (Nat → Ob) → Out) : Out :=
  let f := frzL o xs
  let r := k (look .no (f.1 ++ o))
  ⟨r.x, r.u ++ f.1, f.2 ∧ r.p⟩
def nilE (ob : Nat → Ob) (x : AV) : Out :=
  match shiftE ob 0 x with
  | some (_, p) => .valP x p
  | none => .fail
def callOp {P : Program} (V : Env P) (S : St) (nid : Nat) (c : Call) : Out :=
  match c.callee with
  | .value (.func f) => frzO S.o (c.args.toList.map (evA S)) fun ob => callE V.G ob f nid (c.args.toList.map (evA S))
  | .builtin .len => match c.args.toList, c.argTypes.toList with
    | [x], [t] => lenE P S.ob t (evA S x)
    | _, _ => .fail
  | .builtin .append => match c.args.toList, c.argTypes.toList with
    | [x, y], [t, t'] => bif Nat.beq t t' then appE P V.K S.ob t nid (evA S x) (evA S y) else .fail
    | _, _ => .fail
  | _ => .fail
def opE {P : Program} (V : Env P) (S : St) (nid : Nat) (op : Op) : Out :=
  match op with
  | .move x => ⟨evO S x, [], True⟩
  | .assign x => ⟨evO S x, [], True⟩
  | .pick q x y => match evA S q with
    | .g (.v (.bool t)) => ⟨pickT t (evO S x) (evO S y), [], True⟩
    | _ => .fail
  | .alloc T => allocE P T nid
  | .box T x => frzO S.o [evA S x] fun ob => boxE ob T nid (evA S x)
  | .build t ps => frzO S.o (ps.toList.map fun p => evA S p.2) fun ob => buildE P ob t (ps.toList.map fun p => (p.1, evA S p.2))
  | .buildSlice t n ps => frzO S.o (ps.toList.map fun p => evA S p.2) fun ob => bsliceE P V.K ob t n nid (ps.toList.map fun p => (p.1, evA S p.2))
  | .load t x => loadE P S.ob t (evA S x)
  | .store t x y => frzO S.o [evA S y] fun ob => storeE P ob t (evA S x) (evA S y)
  | .nilCheck x => nilE S.ob (evA S x)
  | .binOp b t x y _ => binE V.E b t (evA S x) (evA S y)
  | .unOp u _ x => unE u (evA S x)
  | .convert s d x => convE P s d (evA S x)
  | .makeSlice t x y => makeE P V.K t nid (evA S x) (evA S y)
  | .slice t x lo hi mx => sliceE P t (evA S x) (lo.map (evA S)) (hi.map (evA S)) mx.isSome
  | .fieldAddr t x f => fieldAddrE P S.ob t (evA S x) f
  | .field t x f => fieldE P t (evA S x) f
  | .indexAddr t x i => indexAddrE P S.ob t (evA S x) (evA S i)
  | .index t x i => indexE P t (evA S x) (evA S i)
  | .extract x i => extractE (evO S x) i
  | .call c => callOp V S nid c
  | _ => .fail
section
variable {P : Program} {c : Cx} {ρ : Rho} {S : St} {a : Act} {w : World} {Q : Exit → Act → World → Prop}
theorem constT_sound {X : Nat → Prop} {o : Nat → Ob} (v : Value) : Rep X ρ o w (constT v) v := by
  unfold constT
  cases hb : v.oneCell' with
  | true => exact GRep.v v hb
  | false =>
    simp only [cond_false]
    split
    · rename_i cs
      cases hc : cs.toList.all (·.oneCell') with
      | true => exact ⟨cs.toList, by simp, gl_v hc⟩
      | false => trivial
    · trivial
theorem evO_sound (h : SR c ρ S a w) (x : Operand) : Rep c.X ρ S.ob w (evO S x) (a.eval x) := by
  cases x with
  | tmp t => exact h.tm t
  | const v => exact constT_sound v
  | global g => trivial
  | func f => exact GRep.v _ rfl
theorem one_sound {X : Nat → Prop} {o : Nat → Ob} {x : TV} {v : Value} (h : Rep X ρ o w x v) : Rep1 X ρ o w (one x) v := by
  cases x with
  | one x => exact h
  | tup xs => trivial
theorem evA_sound (h : SR c ρ S a w) (x : Operand) : Rep1 c.X ρ S.ob w (evA S x) (a.eval x) := one_sound (evO_sound h x)
theorem evA_t {S' : St} (ht : S'.t = S.t) (x : Operand) : evA S' x = evA S x := by
  cases x <;> simp [evA, evO, St.tmp, ht]
theorem evAL_sound (h : SR c ρ S a w) : ∀ l : List Operand, Rep1L c.X ρ S.ob w (l.map (evA S)) (l.map a.eval)
  | [] => trivial
  | x :: l => ⟨evA_sound h x, evAL_sound h l⟩
theorem evP_sound (h : SR c ρ S a w) : ∀ l : List (Nat × Operand), All2 (Rep1P c.X ρ S.ob w) (l.map fun p => (p.1, evA S p.2)) (l.map fun p => (p.1, a.eval p.2))
  | [] => .nil
  | x :: l => .cons ⟨rfl, evA_sound h x.2⟩ (evP_sound h l)
theorem post_sr {r : Out} (h : SR c ρ ⟨S.t, r.u ++ S.o⟩ a w) {dst : Option Tmp} {v : Value} (hx : Rep c.X ρ (St.ob ⟨S.t, r.u ++ S.o⟩) w r.x v) (hd : ∀ d, dst = some d → d < c.nt) : SR c ρ (S.post dst r) (a.put dst v) w := by
  cases dst with
  | none => exact h
  | some d => exact h.put hx (hd d rfl)
theorem wp_of_mem {o : Oper} {m : Sem Value} {r : Out} (he : execOp a.eval o = (do pure (Next.value (← m)))) (hm : MemS P m c ρ S a w r) (hp : r.p) (hd : ∀ d, o.dst = some d → d < c.nt) : o.wp P a w (fun a' w' => ∃ ρ', SR c ρ' (S.post o.dst r) a' w') Q := by
  obtain ⟨v, w', ρ', h1, h2, h3⟩ := hm hp
  unfold Oper.wp
  have : (execOp a.eval o).run P w = .ok (.value v) w' := by rw [he, Sem.run_bind, h1]; rfl
  rw [this]
  exact ⟨ρ', post_sr h2 h3 hd⟩
theorem wp_of_val {o : Oper} {m : Sem Value} {r : Out} (h : SR c ρ S a w) (he : execOp a.eval o = (do pure (Next.value (← m)))) (hm : ValS P m c.X ρ S.ob w r) (hp : r.p) (hd : ∀ d, o.dst = some d → d < c.nt) : o.wp P a w (fun a' w' => ∃ ρ', SR c ρ' (S.post o.dst r) a' w') Q :=
  wp_of_mem he (hm.mem h) hp hd
theorem frz_no {nid : Nat} : ∀ {xs : List AV} {o : List (Nat × Ob)}, look .no o nid = .no → look .no ((frzL o xs).1 ++ o) nid = .no
  | [], _, h => h
  | x :: xs, o, h => by
    have h1 : look .no ((frz (look .no o) x).1 ++ o) nid = .no := by
      unfold frz
      split
      · rename_i id n
        split
        · rename_i T s hs
          show look .no ((id, Ob.fz s) :: o) nid = _
          have : Nat.beq id nid = false := by
            cases hq : Nat.beq id nid with
            | false => rfl
            | true => rw [Nat.eq_of_beq_eq_true hq] at hs; rw [h] at hs; cases hs
          simp [look, this, h]
        · exact h
        · exact h
      · exact h
    have h2 := frz_no (xs := xs) h1
    simp only [frzL, List.append_assoc]
    exact h2
/-- With what is no longer written. -/
theorem frzO_sound (h : SR c ρ S a w) {nid : Nat} (hn : S.ob nid = .no) {xs : List AV} {k : (Nat → Ob) → Out} {m : Sem Value} (hk : ∀ ρ1 S1, S1.t = S.t → SR c ρ1 S1 a w → S1.ob nid = .no → S1.ob = look .no ((frzL S.o xs).1 ++ S.o) → MemS P m c ρ1 S1 a w (k S1.ob)) : MemS P m c ρ S a w (frzO S.o xs k) := fun hp => by
  obtain ⟨ρ1, h1⟩ := frzL_sound xs h hp.1
  obtain ⟨v, w', ρ', q1, q2, q3⟩ := hk ρ1 ⟨S.t, (frzL S.o xs).1 ++ S.o⟩ rfl h1 (frz_no hn) rfl hp.2
  refine ⟨v, w', ρ', q1, ?_, ?_⟩
  · simp only [frzO, List.append_assoc]; exact q2
  · simp only [frzO, List.append_assoc]; exact q3
theorem frzO_soundU (h : SR c ρ S a w) {nid : Nat} (hn : S.ob nid = .no) {xs : List AV} {k : (Nat → Ob) → Out} {m : Sem Unit} (hk : ∀ ρ1 S1, S1.t = S.t → SR c ρ1 S1 a w → S1.ob nid = .no → S1.ob = look .no ((frzL S.o xs).1 ++ S.o) → MemU P m c ρ1 S1 a w (k S1.ob)) : MemU P m c ρ S a w (frzO S.o xs k) := fun hp => by
  obtain ⟨ρ1, h1⟩ := frzL_sound xs h hp.1
  obtain ⟨w', ρ', q1, q2, q3⟩ := hk ρ1 ⟨S.t, (frzL S.o xs).1 ++ S.o⟩ rfl h1 (frz_no hn) rfl hp.2
  refine ⟨w', ρ', q1, ?_, q3⟩
  simp only [frzO, List.append_assoc]; exact q2
/-- THE OPERATION. -/
theorem op_sound (V : Env P) (h : SR c ρ S a w) {nid : Nat} (hn : S.ob nid = .no) (o : Oper) (hp : (opE V S nid o.op).p) (hd : ∀ d, o.dst = some d → d < c.nt) : o.wp P a w (fun a' w' => ∃ ρ', SR c ρ' (S.post o.dst (opE V S nid o.op)) a' w') Q := by
  have pv : ∀ {v : Value} {x : TV}, execOp a.eval o = pure (Next.value v) → Rep c.X ρ S.ob w x v → o.wp P a w (fun a' w' => ∃ ρ', SR c ρ' (S.post o.dst ⟨x, [], True⟩) a' w') Q := fun {v x} he hx => by
    unfold Oper.wp
    rw [he]
    exact ⟨ρ, post_sr (r := ⟨x, [], True⟩) h hx hd⟩
  revert hp
  cases ho : o.op <;> intro hp <;> try (exact hp.elim)
  case move x => exact pv (by simp only [execOp, ho]) (evO_sound h x)
  case assign x => exact pv (by simp only [execOp, ho]) (evO_sound h x)
  case pick q x y =>
    unfold opE at hp ⊢
    dsimp only at hp ⊢
    split at hp
    · rename_i t hq
      try simp only [hq]
      have hb := evA_sound h q
      rw [hq] at hb
      obtain ⟨e, -⟩ := rep_v hb
      unfold Oper.wp
      have hr : (execOp a.eval o).run P w = .ok (.value (if t then a.eval x else a.eval y)) w := by
        simp only [execOp, ho, e]
        simp [asBool, Sem.run_bind]
      rw [hr]
      exact ⟨ρ, post_sr (r := ⟨pickT t (evO S x) (evO S y), [], True⟩) h (pickT_sound (evO_sound h x) (evO_sound h y)) hd⟩
    · exact hp.elim
  case alloc T => exact wp_of_mem (m := Instr.alloc T true (.tuple #[])) (by simp only [execOp, ho]) (allocE_sound h hn) hp hd
  case box T x => exact wp_of_mem (m := Instr.box T (a.eval x)) (by simp only [execOp, ho]) (frzO_sound h hn fun ρ1 S1 ht h1 hn1 _ => by rw [← evA_t ht x]; exact boxE_sound h1 hn1 (evA_sound h1 x)) hp hd
  case build t ps =>
    refine wp_of_mem (m := Instr.build t (ps.map fun (i, x) => (i, a.eval x))) (by simp only [execOp, ho]) (frzO_sound h hn fun ρ1 S1 ht h1 hn1 _ => ?_) hp hd
    rw [show (fun p : Nat × Operand => (p.1, evA S p.2)) = fun p => (p.1, evA S1 p.2) from funext fun p => by rw [evA_t ht]]
    exact (buildE_sound (by rw [Array.toList_map]; exact evP_sound h1 ps.toList)).mem h1
  case buildSlice t n ps =>
    refine wp_of_mem (m := Instr.buildSlice t n (ps.map fun (i, x) => (i, a.eval x))) (by simp only [execOp, ho]) (frzO_sound h hn fun ρ1 S1 ht h1 hn1 _ => ?_) hp hd
    rw [show (fun p : Nat × Operand => (p.1, evA S p.2)) = fun p => (p.1, evA S1 p.2) from funext fun p => by rw [evA_t ht]]
    exact bsliceE_sound h1 hn1 (by rw [Array.toList_map]; exact evP_sound h1 ps.toList)
  case load t x => exact wp_of_val h (m := Instr.loadAt t (a.eval x)) (by simp only [execOp, ho]) (loadE_sound h (evA_sound h x)) hp hd
  case store t x y =>
    obtain ⟨w', ρ', q1, q2, q3⟩ := frzO_soundU (P := P) (m := Instr.storeAt t (a.eval x) (a.eval y)) h hn (xs := [evA S y]) (k := fun ob => storeE P ob t (evA S x) (evA S y)) (fun ρ1 S1 ht h1 hn1 _ => by rw [← evA_t ht x, ← evA_t ht y]; exact storeE_sound h1 (evA_sound h1 x) (evA_sound h1 y)) hp
    unfold Oper.wp
    have : (execOp a.eval o).run P w = .ok .skip w' := by simp only [execOp, ho, Sem.run_bind, q1]; rfl
    rw [this]
    refine ⟨ρ', post_sr (r := opE V S nid (.store t x y)) q2 ?_ hd⟩
    rw [show (opE V S nid (.store t x y)).x = .one .any from q3]
    trivial
  case nilCheck x =>
    unfold opE nilE at hp ⊢
    dsimp only at hp ⊢
    split at hp
    · rename_i y p hs
      try simp only [hs]
      obtain ⟨b, off, e, -⟩ := shift_sound (evA_sound h x) hs hp
      refine wp_of_val h (m := pure (a.eval x)) ?_ (ValS.run (v := a.eval x) (fun _ => rfl) fun _ => evA_sound h x) hp hd
      simp only [execOp, ho, e]
      rfl
    · exact hp.elim
  case binOp b t x y t' => exact wp_of_val h (m := do eqGuard b t x y (a.eval x) (a.eval y); binOp b t (a.eval x) (a.eval y)) (by simp only [execOp, ho]) (binE_sound (evA_sound h x) (evA_sound h y)) hp hd
  case unOp u t x => exact wp_of_val h (m := Op.unary u (a.eval x)) (by simp only [execOp, ho]) (unE_sound (evA_sound h x)) hp hd
  case convert s d x => exact wp_of_val h (m := convert s d (a.eval x)) (by simp only [execOp, ho]) (convE_sound (evA_sound h x)) hp hd
  case makeSlice t x y => exact wp_of_mem (m := Instr.makeSlice t (a.eval x) (a.eval y)) (by simp only [execOp, ho]) (makeE_sound h hn (evA_sound h x) (evA_sound h y)) hp hd
  case slice t x lo hi mx =>
    refine wp_of_val h (m := Instr.sliceAt t (a.eval x) (lo.map a.eval) (hi.map a.eval) (mx.map a.eval)) (by simp only [execOp, ho]) ?_ hp hd
    have : (opE V S nid (.slice t x lo hi mx)) = sliceE P t (evA S x) (lo.map (evA S)) (hi.map (evA S)) (mx.map a.eval).isSome := by cases mx <;> rfl
    rw [this]
    refine sliceE_sound (evA_sound h x) (fun y hy => ?_) (fun hy => ?_) (fun y hy => ?_) fun hy => ?_
    · cases lo with
      | none => cases hy
      | some z => cases hy; exact ⟨_, rfl, evA_sound h z⟩
    · cases lo with
      | none => rfl
      | some z => cases hy
    · cases hi with
      | none => cases hy
      | some z => cases hy; exact ⟨_, rfl, evA_sound h z⟩
    · cases hi with
      | none => rfl
      | some z => cases hy
  case fieldAddr t x f => exact wp_of_val h (m := Instr.fieldAt t (a.eval x) f) (by simp only [execOp, ho]) (fieldAddrE_sound (evA_sound h x)) hp hd
  case field t x f => exact wp_of_val h (m := Instr.field t (a.eval x) f) (by simp only [execOp, ho]) (fieldE_sound (evA_sound h x)) hp hd
  case indexAddr t x i => exact wp_of_val h (m := Instr.indexAt t (a.eval x) (a.eval i)) (by simp only [execOp, ho]) (indexAddrE_sound h (evA_sound h x) (evA_sound h i)) hp hd
  case index t x i => exact wp_of_val h (m := Instr.index t (a.eval x) (a.eval i)) (by simp only [execOp, ho]) (indexE_sound (evA_sound h x) (evA_sound h i)) hp hd
  case extract x i => exact wp_of_val h (m := Instr.extract (a.eval x) i) (by simp only [execOp, ho]) (extractE_sound (evO_sound h x)) hp hd
  case call cl =>
    have hop : opE V S nid (.call cl) = callOp V S nid cl := rfl
    rw [hop] at hp ⊢
    unfold callOp at hp ⊢
    split at hp
    · rename_i f hc
      try simp only [hc]
      obtain ⟨ρ1, h1⟩ := frzL_sound _ h hp.1
      have hx : Rep1L c.X ρ1 (St.ob ⟨S.t, (frzL S.o (cl.args.toList.map (evA S))).1 ++ S.o⟩) w (cl.args.toList.map (evA S)) (cl.args.toList.map a.eval) := by
        have := evAL_sound h1 cl.args.toList
        rwa [show evA ⟨S.t, (frzL S.o (cl.args.toList.map (evA S))).1 ++ S.o⟩ = evA S from funext fun x => evA_t rfl x] at this
      obtain ⟨⟨fn, hf1, hf2, hf3⟩, hcall⟩ := callE_sound V h1 (f := f) (frz_no hn) hx hp.2
      have hne : fn.name ≠ "runtime.NumGoroutine" := by simpa using hf2
      obtain ⟨code, hcode⟩ := Option.isSome_iff_exists.1 hf3
      have hr : (execOp a.eval o).run P w = .ok (.enter f (cl.args.toList.map a.eval).toArray) w := by
        unfold execOp
        have e : cl.args.map a.eval = (cl.args.toList.map a.eval).toArray := Array.ext' (by rw [Array.toList_map])
        rw [← e]
        simp [ho, resolve, hc, Act.eval, Deferred.ofValue, invoke, callFunc, hf1, hne, hcode, Sem.run_bind]
      unfold Oper.wp
      rw [hr, Oper.upon_enter]
      refine hcall.mono ?_
      rintro e w' ⟨v, ρ', rfl, q1, q2⟩
      refine ⟨ρ', post_sr ?_ ?_ hd⟩
      · simp only [frzO, List.append_assoc]; exact q1
      · simp only [frzO, List.append_assoc]; exact q2
    · rename_i hc
      try simp only [hc]
      split at hp
      · rename_i x t hx ht
        try simp only [hx, ht]
        have ha : cl.args = #[x] := Array.ext' hx
        have hty : cl.argTypes = #[t] := Array.ext' ht
        refine wp_of_val h (m := Builtin.len_ #[t] o.type #[a.eval x]) ?_ (lenE_sound h (evA_sound h x)) hp hd
        simp only [execOp, ho, resolve, hc, ha, hty, invoke, builtin, pure_bind, List.map_toArray, List.map_cons, List.map_nil]
      · exact hp.elim
    · rename_i hc
      try simp only [hc]
      split at hp
      · rename_i x y t t' hx ht
        try simp only [hx, ht]
        cases hb : Nat.beq t t' with
        | false => rw [hb] at hp; exact hp.elim
        | true =>
          rw [hb] at hp
          obtain rfl := Nat.eq_of_beq_eq_true hb
          have ha : cl.args = #[x, y] := Array.ext' hx
          have hty : cl.argTypes = #[t, t] := Array.ext' ht
          refine wp_of_mem (m := Builtin.append_ #[t, t] o.type #[a.eval x, a.eval y]) ?_ (appE_sound h hn (evA_sound h x) (evA_sound h y)) hp hd
          simp only [execOp, ho, resolve, hc, ha, hty, invoke, builtin, pure_bind, List.map_toArray, List.map_cons, List.map_nil]
      · exact hp.elim
    · exact hp.elim
end
end Go.Proofs.Ytkoiogfhbipmjaa
