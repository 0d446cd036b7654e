/-
  AN ABSTRACT MACHINE, 13: an operation asks of the state only what its operands speak of.
-/
import Derived.Test.YtkoiogfhbipmjaaAm12
namespace Go.Proofs.Ytkoiogfhbipmjaa
open Go Go.RowKit

/-- The objects that a value speaks of. -/
def AV.ids : AV → List Nat
  | .ptr id _ => [id]
  | .row id _ => [id]
  | .rp id _ _ _ => [id]
  | _ => []
def idsL : List AV → List Nat
  | [] => []
  | x :: l => x.ids ++ idsL l
section
variable {P : Program} {ob ob' : Nat → Ob}
theorem ptrE_c {x : AV} (h : ∀ id, id ∈ x.ids → ob id = ob' id) : ptrE ob x = ptrE ob' x := by
  cases x <;> first | rfl | (simp only [ptrE]; rw [h _ (List.mem_singleton.2 rfl)])
theorem shiftE_c {d : Nat} {x : AV} (h : ∀ id, id ∈ x.ids → ob id = ob' id) : shiftE ob d x = shiftE ob' d x := by
  cases x <;> first | rfl | (simp only [shiftE]; rw [h _ (List.mem_singleton.2 rfl)])
theorem gC_c {x : AV} (h : ∀ id, id ∈ x.ids → ob id = ob' id) : gC ob x = gC ob' x := by
  cases x <;> first | rfl | (simp only [gC]; rw [h _ (List.mem_singleton.2 rfl)])
theorem slE_c {x : AV} (h : ∀ id, id ∈ x.ids → ob id = ob' id) : slE ob x = slE ob' x := by
  cases x <;> first | rfl | (simp only [slE]; rw [h _ (List.mem_singleton.2 rfl)]; done) | (rename_i q; cases q <;> rfl)
theorem frz_c {x : AV} (h : ∀ id, id ∈ x.ids → ob id = ob' id) : frz ob x = frz ob' x := by
  cases x <;> first | rfl | (simp only [frz]; rw [h _ (List.mem_singleton.2 rfl)])
theorem toX_c {x : AV} (h : ∀ id, id ∈ x.ids → ob id = ob' id) : toX ob x = toX ob' x := by
  cases x with
  | ptr id off => have := h id (List.mem_singleton.2 rfl); cases off <;> simp only [toX, this]
  | row id n => have := h id (List.mem_singleton.2 rfl); simp only [toX, this]
  | _ => rfl
theorem toXL_c : ∀ {xs : List AV}, (∀ id, id ∈ idsL xs → ob id = ob' id) → toXL ob xs = toXL ob' xs
  | [], _ => rfl
  | x :: xs, h => by
    unfold toXL
    rw [toX_c (x := x) fun id hi => h id (List.mem_append_left _ hi), toXL_c (xs := xs) fun id hi => h id (List.mem_append_right _ hi)]
theorem partsG_c : ∀ {l : List (Nat × AV)}, (∀ id, id ∈ idsL (l.map (·.2)) → ob id = ob' id) → partsG ob l = partsG ob' l
  | [], _ => rfl
  | (i, x) :: l, h => by
    unfold partsG
    rw [gC_c (x := x) fun id hi => h id (List.mem_append_left _ hi), partsG_c (l := l) fun id hi => h id (List.mem_append_right _ hi)]
theorem look_app {α : Type} {d : α} {id : Nat} : ∀ {u o o' : List (Nat × α)}, look d o id = look d o' id → look d (u ++ o) id = look d (u ++ o') id
  | [], _, _, h => h
  | (i, x) :: u, o, o', h => by
    show look d ((i, x) :: (u ++ o)) id = look d ((i, x) :: (u ++ o')) id
    simp only [look]
    rw [look_app h]
theorem frzL_c : ∀ {xs : List AV} {o o' : List (Nat × Ob)}, (∀ id, id ∈ idsL xs → look .no o id = look .no o' id) → frzL o xs = frzL o' xs
  | [], _, _, _ => rfl
  | x :: xs, o, o', h => by
    unfold frzL
    have e : frz (look .no o) x = frz (look .no o') x := frz_c fun id hi => h id (List.mem_append_left _ hi)
    simp only [e]
    rw [frzL_c (xs := xs) (o := (frz (look .no o') x).1 ++ o) (o' := (frz (look .no o') x).1 ++ o') fun id hi => look_app (h id (List.mem_append_right _ hi))]
theorem frzO_c {xs : List AV} {o o' : List (Nat × Ob)} {k k' : (Nat → Ob) → Out} (h : ∀ id, id ∈ idsL xs → look .no o id = look .no o' id) (hk : k (look .no ((frzL o xs).1 ++ o)) = k' (look .no ((frzL o xs).1 ++ o'))) : frzO o xs k = frzO o' xs k' := by
  unfold frzO
  rw [← frzL_c h]
  simp only [hk]
/-- The temporaries that an operand reads. -/
def opTmps : Operand → List Nat
  | .tmp t => [t]
  | _ => []
def tmpsL : List Operand → List Nat
  | [] => []
  | x :: l => opTmps x ++ tmpsL l
/-- The objects that operands speak of. -/
def opIds (S : St) : List Operand → List Nat
  | [] => []
  | x :: l => (evA S x).ids ++ opIds S l
theorem opIds_eq {S : St} : ∀ {l : List Operand}, opIds S l = idsL (l.map (evA S))
  | [] => rfl
  | x :: l => by simp only [opIds, List.map_cons, idsL, opIds_eq]
structure Agree (S S' : St) (l : List Operand) : Prop where
  t : ∀ i, i ∈ tmpsL l → S.tmp i = S'.tmp i
  o : ∀ id, id ∈ opIds S l → S.ob id = S'.ob id
theorem evO_c {S S' : St} {x : Operand} (h : ∀ i, i ∈ opTmps x → S.tmp i = S'.tmp i) : evO S x = evO S' x := by
  cases x <;> first | rfl | exact h _ (List.mem_singleton.2 rfl)
theorem mem_tmps {x : Operand} {i : Nat} : ∀ {l : List Operand}, x ∈ l → i ∈ opTmps x → i ∈ tmpsL l
  | y :: l, hx, hi => by
    rcases List.mem_cons.1 hx with rfl | hx
    · exact List.mem_append_left _ hi
    · exact List.mem_append_right _ (mem_tmps hx hi)
theorem mem_ids {S : St} {x : Operand} {i : Nat} : ∀ {l : List Operand}, x ∈ l → i ∈ (evA S x).ids → i ∈ opIds S l
  | y :: l, hx, hi => by
    rcases List.mem_cons.1 hx with rfl | hx
    · exact List.mem_append_left _ hi
    · exact List.mem_append_right _ (mem_ids hx hi)
theorem Agree.ev {S S' : St} {l : List Operand} (h : Agree S S' l) {x : Operand} (hx : x ∈ l) : evO S x = evO S' x := evO_c fun i hi => h.t i (mem_tmps hx hi)
theorem Agree.ea {S S' : St} {l : List Operand} (h : Agree S S' l) {x : Operand} (hx : x ∈ l) : evA S x = evA S' x := by
  unfold evA; rw [h.ev hx]
theorem Agree.id {S S' : St} {l : List Operand} (h : Agree S S' l) {x : Operand} (hx : x ∈ l) : ∀ id, id ∈ (evA S x).ids → S.ob id = S'.ob id := fun id hi => h.o id (mem_ids hx hi)
theorem Agree.map {S S' : St} {l m : List Operand} (h : Agree S S' l) (hm : ∀ x, x ∈ m → x ∈ l) : m.map (evA S) = m.map (evA S') := List.map_congr_left fun x hx => h.ea (hm x hx)
theorem Agree.ids {S S' : St} {l m : List Operand} (h : Agree S S' l) (hm : ∀ x, x ∈ m → x ∈ l) : ∀ id, id ∈ idsL (m.map (evA S)) → S.ob id = S'.ob id := by
  induction m with
  | nil => intro id hi; cases hi
  | cons x m ih =>
    intro id hi
    rcases List.mem_append.1 hi with hi | hi
    · exact h.id (hm x List.mem_cons_self) id hi
    · exact ih (fun y hy => hm y (List.mem_cons_of_mem _ hy)) id hi
/-- The operands, without the places in a slice. -/
theorem op_agree (V : Env P) {S S' : St} {nid : Nat} {op : Op} (h : Agree S S' op.operands.toList) : opE V S nid op = opE V S' nid op := by
  have lk : ∀ {id : Nat}, S.ob id = look .no S.o id := rfl
  cases op <;> try rfl
  case move x => simp only [opE]; rw [h.ev (x := x) (by simp [Op.operands])]
  case assign x => simp only [opE]; rw [h.ev (x := x) (by simp [Op.operands])]
  case pick q x y => simp only [opE]; rw [h.ev (x := x) (by simp [Op.operands]), h.ev (x := y) (by simp [Op.operands]), h.ea (x := q) (by simp [Op.operands])]
  case box T x =>
    have e := h.ea (x := x) (by simp [Op.operands])
    have i := h.id (x := x) (by simp [Op.operands])
    simp only [opE, ← e]
    refine frzO_c (fun id hi => i id (by simpa [idsL] using hi)) ?_
    unfold boxE
    rw [gC_c (x := evA S x) fun id hi => look_app (i id hi)]
  case build t ps =>
    have hm : ∀ x, x ∈ ps.toList.map (·.2) → x ∈ (Op.build t ps).operands.toList := fun x hx => by simpa [Op.operands] using hx
    have e := h.map hm
    have i := h.ids hm
    rw [List.map_map, List.map_map] at e
    have e2 : (ps.toList.map fun p => (p.1, evA S p.2)) = ps.toList.map fun p => (p.1, evA S' p.2) := List.map_congr_left fun p hp => by rw [h.ea (hm p.2 (List.mem_map_of_mem hp))]
    simp only [opE]
    rw [show (ps.toList.map fun p => evA S' p.2) = ps.toList.map fun p => evA S p.2 from e.symm, ← e2]
    rw [List.map_map] at i
    refine frzO_c i ?_
    unfold buildE
    rw [partsG_c (l := ps.toList.map fun p => (p.1, evA S p.2)) fun id hi => look_app (i id (by rw [List.map_map] at hi; exact hi))]
  case buildSlice t n ps =>
    have hm : ∀ x, x ∈ ps.toList.map (·.2) → x ∈ (Op.buildSlice t n ps).operands.toList := fun x hx => by simpa [Op.operands] using hx
    have e := h.map hm
    have i := h.ids hm
    rw [List.map_map, List.map_map] at e
    have e2 : (ps.toList.map fun p => (p.1, evA S p.2)) = ps.toList.map fun p => (p.1, evA S' p.2) := List.map_congr_left fun p hp => by rw [h.ea (hm p.2 (List.mem_map_of_mem hp))]
    simp only [opE]
    rw [show (ps.toList.map fun p => evA S' p.2) = ps.toList.map fun p => evA S p.2 from e.symm, ← e2]
    rw [List.map_map] at i
    refine frzO_c i ?_
    unfold bsliceE
    rw [partsG_c (l := ps.toList.map fun p => (p.1, evA S p.2)) fun id hi => look_app (i id (by rw [List.map_map] at hi; exact hi))]
  case load t x =>
    simp only [opE]
    rw [← h.ea (x := x) (by simp [Op.operands])]
    unfold loadE
    rw [ptrE_c (h.id (x := x) (by simp [Op.operands]))]
  case store t x y =>
    have ex := h.ea (x := x) (by simp [Op.operands])
    have ey := h.ea (x := y) (by simp [Op.operands])
    have ix := h.id (x := x) (by simp [Op.operands])
    have iy := h.id (x := y) (by simp [Op.operands])
    simp only [opE, ← ex, ← ey]
    refine frzO_c (fun id hi => iy id (by simpa [idsL] using hi)) ?_
    unfold storeE
    rw [gC_c (ob := look .no ((frzL S.o [evA S y]).1 ++ S.o)) (ob' := look .no ((frzL S.o [evA S y]).1 ++ S'.o)) (x := evA S y) fun id hi => look_app (iy id hi)]
    cases hx : evA S x <;> try rfl
    · rename_i id off
      have q : look .no ((frzL S.o [evA S y]).1 ++ S.o) id = look .no ((frzL S.o [evA S y]).1 ++ S'.o) id := look_app (ix id (by rw [hx]; exact List.mem_singleton.2 rfl))
      simp only [q]
    · rename_i id n j d
      have q : look .no ((frzL S.o [evA S y]).1 ++ S.o) id = look .no ((frzL S.o [evA S y]).1 ++ S'.o) id := look_app (ix id (by rw [hx]; exact List.mem_singleton.2 rfl))
      simp only [q]
  case nilCheck x =>
    simp only [opE]
    rw [← h.ea (x := x) (by simp [Op.operands])]
    unfold nilE
    rw [shiftE_c (h.id (x := x) (by simp [Op.operands]))]
  case binOp b t x y t' => simp only [opE]; rw [h.ea (x := x) (by simp [Op.operands]), h.ea (x := y) (by simp [Op.operands])]
  case unOp u t x => simp only [opE]; rw [h.ea (x := x) (by simp [Op.operands])]
  case convert s d x => simp only [opE]; rw [h.ea (x := x) (by simp [Op.operands])]
  case makeSlice t x y => simp only [opE]; rw [h.ea (x := x) (by simp [Op.operands]), h.ea (x := y) (by simp [Op.operands])]
  case slice t x lo hi mx =>
    simp only [opE]
    rw [h.ea (x := x) (by simp [Op.operands])]
    have e1 : lo.map (evA S) = lo.map (evA S') := by
      cases lo with
      | none => rfl
      | some z => simp only [Option.map_some]; rw [h.ea (x := z) (by simp [Op.operands])]
    have e2 : hi.map (evA S) = hi.map (evA S') := by
      cases hi with
      | none => rfl
      | some z => simp only [Option.map_some]; rw [h.ea (x := z) (by simp [Op.operands])]
    rw [e1, e2]
  case fieldAddr t x f =>
    simp only [opE]
    rw [← h.ea (x := x) (by simp [Op.operands])]
    unfold fieldAddrE
    simp only [shiftE_c (h.id (x := x) (by simp [Op.operands]))]
  case field t x f => simp only [opE]; rw [h.ea (x := x) (by simp [Op.operands])]
  case indexAddr t x i =>
    have ix := h.id (x := x) (by simp [Op.operands])
    simp only [opE]
    rw [← h.ea (x := x) (by simp [Op.operands]), ← h.ea (x := i) (by simp [Op.operands])]
    unfold indexAddrE
    simp only [shiftE_c ix]
    cases hx : evA S x with
    | row id m => simp only [ix id (by rw [hx]; exact List.mem_singleton.2 rfl)]
    | g q => cases q <;> rfl
    | _ => rfl
  case index t x i => simp only [opE]; rw [h.ea (x := x) (by simp [Op.operands]), h.ea (x := i) (by simp [Op.operands])]
  case extract x i => simp only [opE]; rw [h.ev (x := x) (by simp [Op.operands])]
  case call cl =>
    have hm : ∀ x, x ∈ cl.args.toList → x ∈ (Op.call cl).operands.toList := fun x hx => by simp [Op.operands, Call.operands]; right; simpa using hx
    have e := h.map hm
    have i := h.ids hm
    show callOp V S nid cl = callOp V S' nid cl
    unfold callOp
    split
    · rename_i f hc
      rw [← e]
      refine frzO_c i ?_
      unfold callE
      rw [toXL_c fun id hi => look_app (i id hi)]
    · split
      · rename_i x t hx ht
        have hx' := hm x (by rw [hx]; simp)
        rw [← h.ea hx']
        unfold lenE
        rw [slE_c (h.id hx')]
      · rfl
    · split
      · rename_i x y t t' hx ht
        have hx' := hm x (by rw [hx]; simp)
        have hy' := hm y (by rw [hx]; simp)
        rw [← h.ea hx', ← h.ea hy']
        unfold appE
        simp only [slE_c (h.id hy')]
        have ix := h.id hx'
        cases hq : evA S x with
        | row id m => simp only [ix id (by rw [hq]; exact List.mem_singleton.2 rfl)]
        | g q =>
          cases q with
          | sl s => rfl
          | v v =>
            cases v <;> first
              | rfl
              | (rename_i b n m; cases b <;> cases n <;> cases m <;> rfl)
        | _ => rfl
      · rfl
    · rfl
end
end Go.Proofs.Ytkoiogfhbipmjaa
