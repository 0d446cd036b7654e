/-
  AN ABSTRACT MACHINE, 7: structs and slices that are built, made, copied; how long a slice is.
-/
import Derived.Test.YtkoiogfhbipmjaaAm6
import Derived.Laws.Tables
import Derived.Laws.CopyRow
namespace Go.Proofs.Ytkoiogfhbipmjaa
open Go Go.RowKit

inductive All2 {α β : Type} (R : α → β → Prop) : List α → List β → Prop where
  | nil : All2 R [] []
  | cons {x : α} {y : β} {l : List α} {m : List β} (h : R x y) (t : All2 R l m) : All2 R (x :: l) (y :: m)
def fillG (place : Nat → Option (Nat × Nat)) (cells : List GV) : List (Nat × List GV) → Option (List GV)
  | [] => some cells
  | (i, gs) :: rest => match place i with
    | none => none
    | some (off, n) => bif Nat.beq gs.length n && Nat.ble (off + gs.length) cells.length then fillG place (cells.take off ++ gs ++ cells.drop (off + gs.length)) rest else none
def partsG (ob : Nat → Ob) : List (Nat × AV) → Option (List (Nat × List GV) × Prop)
  | [] => some ([], True)
  | (i, x) :: l => match gC ob x, partsG ob l with
    | some (cs, p), some (r, q) => some ((i, cs) :: r, p ∧ q)
    | _, _ => none
section
variable {P : Program} {c : Cx} {ρ : Rho} {S : St} {a : Act} {w : World}
theorem fold_splice (off : Nat) : ∀ (us : List Value) (k : Nat) (A : Array Value), off + k + us.length ≤ A.size → (us.zipIdx k).foldl (fun cs (x : Value × Nat) => cs.setIfInBounds (off + x.2) x.1) A = (A.toList.take (off + k) ++ us ++ A.toList.drop (off + k + us.length)).toArray
  | [], k, A, _ => by simp
  | u :: us, k, A, h => by
    simp only [List.zipIdx_cons, List.foldl_cons]
    rw [fold_splice off us (k + 1) _ (by simp at h ⊢; omega)]
    have := list_seg_step A.toList (off + k) u us (by simp at h ⊢; omega)
    simp only [Array.toList_setIfInBounds, List.length_cons]
    rw [← this]
    congr 1
theorem fill_sound {W : Nat → Prop} {place : Nat → Option (Nat × Nat)} : ∀ {parts : List (Nat × List GV)} {vparts : List (Nat × Value)} {cs rs : List GV} {vs : List Value}, fillG place cs parts = some rs → GRepL w W cs vs →
    All2 (fun (x : Nat × List GV) (y : Nat × Value) => x.1 = y.1 ∧ ∃ us : List Value, y.2.cells = us.toArray ∧ GRepL w W x.2 us) parts vparts → ∃ us : List Value, Instr.fill place vs.toArray vparts = some us.toArray ∧ GRepL w W rs us
  | [], _, cs, rs, vs, h, hg, .nil => by cases h; exact ⟨vs, rfl, hg⟩
  | (i, gs) :: rest, (j, y) :: vrest, cs, rs, vs, h, hg, .cons ⟨e, us, he, hu⟩ hr => by
    dsimp only at e he hu
    subst e
    unfold fillG at h
    split at h
    · cases h
    · rename_i off n hp
      cases hb : Nat.beq gs.length n && Nat.ble (off + gs.length) cs.length with
      | false => rw [hb] at h; cases h
      | true =>
        rw [hb] at h
        simp only [Bool.and_eq_true] at hb
        obtain ⟨h1, h2⟩ := hb
        replace h1 := Nat.eq_of_beq_eq_true h1
        replace h2 := Nat.le_of_ble_eq_true h2
        have h3 : us.length = gs.length := hu.length.symm
        have h4 : vs.length = cs.length := hg.length.symm
        obtain ⟨xs, q1, q2⟩ := fill_sound (place := place) h (gl_splice (o := off) hg hu) hr
        refine ⟨xs, ?_, q2⟩
        unfold Instr.fill
        simp only [hp, he]
        rw [if_neg (by simp; omega)]
        rw [← q1]
        congr 1
        have := fold_splice off us 0 vs.toArray (by simp; omega)
        rw [← Array.foldl_toList, Array.toList_zipIdx]
        simpa using this
/-- A struct, or an array, of its parts. -/
def buildE (P : Program) (ob : Nat → Ob) (t : TypeId) (parts : List (Nat × AV)) : Out :=
  match partsG ob parts, zeroG P t with
  | some (ps, p), some zs => match P.underlying t with
    | some (.array _ e) => match P.info? e with
      | some ie => match fillG (fun i => some (i * ie.size, ie.size)) zs ps with
        | some rs => .valP (.agg rs) p
        | none => .fail
      | none => .fail
    | some (.struct fs) => match fs.toList.mapM (fun f => (P.info? f.type).map fun i => (f.offset, i.size)) with
      | some places => match fillG (places.toArray[·]?) zs ps with
        | some rs => .valP (.agg rs) p
        | none => .fail
      | none => .fail
    | _ => .fail
  | _, _ => .fail
def Rep1P (X : Nat → Prop) (ρ : Rho) (o : Nat → Ob) (w : World) (x : Nat × AV) (y : Nat × Value) : Prop := x.1 = y.1 ∧ Rep1 X ρ o w x.2 y.2
theorem parts_sound {X : Nat → Prop} {ob : Nat → Ob} : ∀ {parts : List (Nat × AV)} {vs : List (Nat × Value)} {ps : List (Nat × List GV)} {p : Prop}, partsG ob parts = some (ps, p) → All2 (Rep1P X ρ ob w) parts vs → p →
    All2 (fun (x : Nat × List GV) (y : Nat × Value) => x.1 = y.1 ∧ ∃ us : List Value, y.2.cells = us.toArray ∧ GRepL w (Wr X ρ) x.2 us) ps vs
  | [], _, _, _, h, .nil, _ => by cases h; exact .nil
  | (i, x) :: l, (j, y) :: vs, ps, p, h, .cons hx hr, hp => by
    unfold partsG at h
    split at h
    · rename_i cs p' r q h1 h2
      cases h
      exact .cons ⟨hx.1, gC_sound hx.2 h1 hp.1⟩ (parts_sound h2 hr hp.2)
    · cases h
theorem zero_some {t : TypeId} {zs : List GV} (h : zeroG P t = some zs) : ∃ z, (P.info? t).map (·.zero) = some (some z) ∧ zs = z.cells.toList.map .v ∧ z.cells.toList.all (·.oneCell') = true := by
  unfold zeroG at h
  split at h
  · rename_i z hz
    cases hb : z.cells.toList.all (·.oneCell') with
    | false => rw [hb] at h; cases h
    | true => rw [hb] at h; cases h; exact ⟨z, hz, rfl, hb⟩
  · cases h
theorem buildE_sound {X : Nat → Prop} {ob : Nat → Ob} {t : TypeId} {parts : List (Nat × AV)} {vs : Array (Nat × Value)} (hx : All2 (Rep1P X ρ ob w) parts vs.toList) : ValS P (Instr.build t vs) X ρ ob w (buildE P ob t parts) := by
  unfold buildE
  split
  · rename_i ps p zs h1 h2
    obtain ⟨z, hz, rfl, hall⟩ := zero_some h2
    obtain ⟨it, hit, hz'⟩ : ∃ it, P.info? t = some it ∧ it.zero = some z := by
      cases hq : P.info? t with
      | none => simp [hq] at hz
      | some i => exact ⟨i, rfl, by simpa [hq] using hz⟩
    split
    · rename_i len e hu
      split
      · rename_i ie hie
        split
        · rename_i rs hf
          refine fun hp => ?_
          obtain ⟨us, q1, q2⟩ := fill_sound hf (gl_v hall) (parts_sound h1 hx hp)
          exact ⟨rfl, .agg us.toArray, run_build w t vs us.toArray (by simpa [Program.built, hit, hu, hz', hie] using q1), us, rfl, q2⟩
        · exact ValS.fail
      · exact ValS.fail
    · rename_i fs hu
      split
      · rename_i places hpl
        split
        · rename_i rs hf
          refine fun hp => ?_
          obtain ⟨us, q1, q2⟩ := fill_sound hf (gl_v hall) (parts_sound h1 hx hp)
          refine ⟨rfl, .agg us.toArray, run_build w t vs us.toArray ?_, us, rfl, q2⟩
          unfold Program.built
          simp only [hit, hu, hz', hpl]
          simpa using q1
        · exact ValS.fail
      · exact ValS.fail
    · exact ValS.fail
  · exact ValS.fail
/-- Zeros. -/
def zerosG (zs : List GV) (n : Nat) : List GV := (List.range n).map fun i => zs.getD (i % zs.length) (.v undef)
theorem zeros_gl {W : Nat → Prop} {z : Value} (h : z.cells.toList.all (·.oneCell') = true) (n : Nat) (hz : 0 < z.cells.size ∨ n = 0) : GRepL w W (zerosG (z.cells.toList.map .v) n) ((Array.range n).map (z.cells[· % z.cells.size]!)).toList := by
  refine GRepL.of (by simp [zerosG]) fun i g x hg hx => ?_
  unfold zerosG at hg
  rcases hz with hz | rfl
  · have hi : i < n := by have := (List.getElem?_eq_some_iff.1 hg).1; simpa using this
    rw [List.getElem?_map, List.getElem?_range hi] at hg
    cases hg
    have hlt : i % z.cells.size < z.cells.size := Nat.mod_lt _ hz
    have e : x = z.cells[i % z.cells.size] := by
      simp [hi] at hx
      rw [← hx, getElem!_pos]
    subst e
    have : (List.map GV.v z.cells.toList).getD (i % (List.map GV.v z.cells.toList).length) (.v undef) = .v z.cells[i % z.cells.size] := by
      simp [List.getD_eq_getElem?_getD, hlt]
    show GRep w W ((List.map GV.v z.cells.toList).getD (i % (List.map GV.v z.cells.toList).length) (.v undef)) _
    rw [this]
    exact .v _ (List.all_eq_true.1 h _ (by simp))
  · simp at hg
def bsliceE (P : Program) (K : TypeId → Option SL) (ob : Nat → Ob) (t : TypeId) (n nid : Nat) (parts : List (Nat × AV)) : Out :=
  match partsG ob parts, P.underlying t with
  | some (ps, p), some (.slice e) => match P.info? e, zeroG P e, K e with
    | some ie, some zs, some e0 => bif Nat.ble (n * ie.size) 16777216 && Nat.blt 0 ie.size && Nat.beq zs.length ie.size && Nat.beq e0.k ie.size && Nat.beq e0.len 0 then
      (match fillG (fun i => some (i * ie.size, ie.size)) (zerosG zs (n * ie.size)) ps with
      | some rs => bif Nat.beq rs.length (n * ie.size) then (match SL.ofC e0 n rs with
        | some s => ⟨.one (.row nid n), [(nid, .row e s)], p⟩
        | none => .fail) else .fail
      | none => .fail) else .fail
    | _, _, _ => .fail
  | _, _ => .fail
theorem run_bslice (w : World) (t e : TypeId) (len : Nat) (parts : Array (Nat × Value)) (cells : Array Value) (ie : TypeInfo) (z : Value)
    (hu : P.underlying t = some (.slice e)) (hie : P.info? e = some ie) (hz : ie.zero = some z) (hsmall : len * ie.size ≤ 16777216)
    (h : Instr.fill (fun i => some (i * ie.size, ie.size)) ((Array.range (len * ie.size)).map (z.cells[· % z.cells.size]!)) parts.toList = some cells) :
    (Instr.buildSlice t len parts).run P w = .ok (.slice (some ⟨w.heap.size, 0, none⟩) len len) (w.alloc (.cells cells e)) := by
  have h1 : ¬ len * ie.size > 2 ^ 24 := by omega
  by_cases h0 : len * ie.size = 0
  · rw [h0] at h
    have e0 : (Array.range 0).map (z.cells[· % z.cells.size]!) = (Array.range 0).map ((#[] : Array Value)[· % 0]!) := by simp
    rw [e0] at h
    have e1 : (#[] : Array Value).size = 0 := rfl
    simp [Instr.buildSlice, run_underlying hu, sizeOf, typeInfo, hie, h0, newRow] at h ⊢
    simp [h, newRow]
  · simp [Instr.buildSlice, run_underlying hu, sizeOf, typeInfo, zeroValue, hie, hz, h1, h0, h, newRow]
theorem bsliceE_sound (h : SR c ρ S a w) {K : TypeId → Option SL} {t : TypeId} {n nid : Nat} (hn : S.ob nid = .no) {parts : List (Nat × AV)} {vs : Array (Nat × Value)} (hx : All2 (Rep1P c.X ρ S.ob w) parts vs.toList) : MemS P (Instr.buildSlice t n vs) c ρ S a w (bsliceE P K S.ob t n nid parts) := by
  unfold bsliceE
  split
  · rename_i ps p e h1 hu
    split
    · rename_i ie zs e0 hie hzs hK
      cases hb : Nat.ble (n * ie.size) 16777216 && Nat.blt 0 ie.size && Nat.beq zs.length ie.size && Nat.beq e0.k ie.size && Nat.beq e0.len 0 with
      | false => exact MemS.fail
      | true =>
        simp only [Bool.and_eq_true] at hb
        obtain ⟨⟨⟨⟨q1, q2⟩, q3⟩, q4⟩, q5⟩ := hb
        replace q1 := Nat.le_of_ble_eq_true q1
        replace q2 : 0 < ie.size := Nat.le_of_ble_eq_true q2
        replace q3 := Nat.eq_of_beq_eq_true q3
        replace q4 := Nat.eq_of_beq_eq_true q4
        replace q5 := Nat.eq_of_beq_eq_true q5
        simp only [cond_true]
        split
        · rename_i rs hf
          cases hb2 : Nat.beq rs.length (n * ie.size) with
          | false => exact MemS.fail
          | true =>
            replace hb2 := Nat.eq_of_beq_eq_true hb2
            simp only [cond_true]
            split
            · rename_i s hs
              refine fun hp => ?_
              obtain ⟨z, hz, rfl, hall⟩ := zero_some hzs
              have hz' : ie.zero = some z := by simpa [hie] using hz
              have hzl : z.cells.size = ie.size := by simpa using q3
              obtain ⟨us, p1, p2⟩ := fill_sound hf (zeros_gl (w := w) (W := Wr c.X ρ) hall _ (.inl (by omega))) (parts_sound h1 hx hp)
              obtain ⟨s1, s2, s3, s4⟩ := SL.ofC_spec q5 hs
              have hul : us.length = n * ie.size := by rw [← p2.length]; exact hb2
              refine ⟨_, w.alloc (.cells us.toArray e), _, run_bslice w t e n vs us.toArray ie z hu hie hz' q1 (by rw [Array.toArray_toList] at p1; exact p1), h.newrow hn (v := .slice (some ⟨w.heap.size, 0, none⟩) n n) (ys := us) (World.grownBy_alloc w _ none) ?_ (fun b hb => by cases hb; exact Nat.le_refl _) fun j r hj => ?_, ?_⟩
              · rw [s1, s2, q4]
                refine ⟨hul, .inr ⟨w.heap.size, n, us.toArray, rfl, Nat.zero_le _, new_block _ _, Nat.le_refl _, ?_, by simp [hul], List.take_of_length_le (by simp [hul])⟩⟩
                have : n ≤ n * ie.size := Nat.le_mul_of_pos_right n q2
                simp [maxLen]; omega
              · rw [s4 j r hj, s2]
                exact (p2.drop _).take _
              · show Rep1 c.X (upd ρ nid (.cur (.slice (some ⟨w.heap.size, 0, none⟩) n n))) (St.ob ⟨S.t, [(nid, Ob.row e s)] ++ S.o⟩) (w.alloc (.cells us.toArray e)) (.row nid n) (.slice (some ⟨w.heap.size, 0, none⟩) n n)
                simp only [Rep1]
                rw [show St.ob ⟨S.t, [(nid, Ob.row e s)] ++ S.o⟩ nid = .row e s from ob_self]
                exact ⟨by omega, fun _ => upd_self⟩
            · exact MemS.fail
        · exact MemS.fail
    · exact MemS.fail
  · exact MemS.fail
end
end Go.Proofs.Ytkoiogfhbipmjaa
