/-
  AN ABSTRACT MACHINE, 4: places in memory: their addresses, what is read there, what is written there.
-/
import Derived.Test.YtkoiogfhbipmjaaAm3
import Derived.Test.YtkoiogfhbipmjaaOp
namespace Go.Proofs.Ytkoiogfhbipmjaa
open Go Go.RowKit

section
variable {P : Program} {c : Cx} {ρ : Rho} {S : St} {a : Act} {w : World}
/-- What lies at an address, from there on. -/
def ptrE (ob : Nat → Ob) : AV → Option (List GV × Prop)
  | .ptr id off => match ob id with
    | .box _ cs => some (cs.drop off, True)
    | _ => none
  | .el cs => some (cs, True)
  | .rp id n j d => match ob id with
    | .row _ s => some ((s.get j).drop d, n = s.len ∧ j < s.len)
    | _ => none
  | _ => none
theorem range_drop {b o n : Nat} {vs : List Value} (h : w.rangeAt b o vs) : w.rangeAt b (o + n) (vs.drop n) := fun j v hv => by
  rw [List.getElem?_drop] at hv
  rw [show o + n + j = o + (n + j) by omega]
  exact h _ _ hv
theorem range_take {b o n : Nat} {vs : List Value} (h : w.rangeAt b o vs) : w.rangeAt b o (vs.take n) := fun j v hv => by
  rw [List.getElem?_take] at hv
  split at hv
  · exact h _ _ hv
  · cases hv
theorem box_at (h : SR c ρ S a w) {id : Nat} {T : TypeId} {cs : List GV} (ho : S.ob id = .box T cs) : ∃ b vs, ρ id = .blk b ∧ w.heap[b]? = some (.cells (List.toArray vs) T (0, 0)) ∧ GRepL w (Wr c.X ρ) cs vs := by
  have := h.ob id; rw [ho] at this; exact this
theorem row_at (h : SR c ρ S a w) {id : Nat} {T : TypeId} {s : SL} (ho : S.ob id = .row T s) : ∃ v xs, ρ id = .cur v ∧ w.ownsRow 0 T s.k v s.len xs ∧ ∀ (j : Nat) (r : List GV), s.at j = some r → GRepL w (Wr c.X ρ) r ((xs.drop (j * s.k)).take s.k) := by
  have := h.ob id; rw [ho] at this; exact this
theorem ptr_sound (h : SR c ρ S a w) {x : AV} {v : Value} {cs : List GV} {p : Prop} (hx : Rep1 c.X ρ S.ob w x v) (hp : ptrE S.ob x = some (cs, p)) (h0 : p) : ∃ b o vs, v = .pointer (some ⟨b, o, none⟩) ∧ GRepL w (Wr c.X ρ) cs vs ∧ w.rangeAt b o vs := by
  unfold ptrE at hp
  split at hp
  · rename_i id off
    split at hp
    · rename_i T cs' ho
      cases hp
      obtain ⟨b, vs, e, h1, h2⟩ := box_at h ho
      simp only [Rep1, ho] at hx
      obtain ⟨b', e', rfl⟩ := hx
      rw [e] at e'; cases e'
      refine ⟨b, off, vs.drop off, rfl, h2.drop off, ?_⟩
      have : w.rangeAt b 0 vs := fun j u hu => by rw [cell_block h1, Nat.zero_add]; simpa using hu
      simpa using range_drop (n := off) this
    · cases hp
  · cases hp
    obtain ⟨b, off, vs, rfl, h1, h2⟩ := hx
    exact ⟨b, off, vs, rfl, h1, fun j u hu => (h2 j u hu).2⟩
  · rename_i id n j d
    split at hp
    · rename_i T s ho
      cases hp
      obtain ⟨u, xs, e, h1, h2⟩ := row_at h ho
      simp only [Rep1, ho] at hx
      obtain ⟨b, cap, e', rfl⟩ := hx.2 h0.1
      rw [e] at e'; cases e'
      refine ⟨b, j * s.k + d, ((xs.drop (j * s.k)).take s.k).drop d, rfl, (h2 j _ (SL.at_get h0.2)).drop d, ?_⟩
      rcases h1.2 with ⟨hh, -⟩ | ⟨g, cap', cur, hh, _, hg, hle, _, hcs, htk⟩
      · cases hh
      · cases hh
        have : w.rangeAt b 0 xs := fun i q hq => by
          rw [cell_block hg, Nat.zero_add]
          rw [← htk, List.getElem?_take] at hq
          split at hq
          · simpa using hq
          · cases hq
        exact range_drop (range_take (by simpa using range_drop (n := j * s.k) this))
    · cases hp
  · cases hp
def loadE (P : Program) (ob : Nat → Ob) (t : TypeId) (x : AV) : Out :=
  match ptrE ob x with
  | some (cs, p) => match lay P t with
    | some (n, true) => bif Nat.ble n cs.length then .valP (.agg (cs.take n)) p else .fail
    | some (_, false) => match cs with
      | g :: _ => .valP (.g g) p
      | [] => .fail
    | none => .fail
  | none => .fail
theorem loadE_sound (h : SR c ρ S a w) {t : TypeId} {x : AV} {v : Value} (hx : Rep1 c.X ρ S.ob w x v) : ValS P (Instr.loadAt t v) c.X ρ S.ob w (loadE P S.ob t x) := by
  unfold loadE
  split
  · rename_i cs p hp
    split
    · rename_i n hl
      obtain ⟨d, i, h1, h2, rfl, h3⟩ := lay_some hl
      cases hb : Nat.ble i.size cs.length with
      | false => exact ValS.fail
      | true =>
        refine fun h0 => ?_
        obtain ⟨b, o, vs, rfl, h4, h5⟩ := ptr_sound h hx hp h0
        have hle : i.size ≤ vs.length := by rw [← h4.length]; exact Nat.le_of_ble_eq_true hb
        exact ⟨rfl, _, run_loadAt_mid (P := P) w b o t (vs.take i.size) d (range_take h5) h1 h3 (by simp [h2, hle]), _, rfl, h4.take _⟩
    · rename_i n hl
      obtain ⟨d, i, h1, h2, rfl, h3⟩ := lay_some hl
      cases cs with
      | nil => exact ValS.fail
      | cons g r =>
        refine fun h0 => ?_
        obtain ⟨b, o, vs, rfl, h4, h5⟩ := ptr_sound h hx hp h0
        cases vs with
        | nil => exact h4.elim
        | cons u us =>
          refine ⟨rfl, u, ?_, h4.1⟩
          have hc : w.cell? ⟨b, o, none⟩ = some u := by have := h5 0 u rfl; simpa using this
          have hagg := run_isAgg h1 w
          rw [h3] at hagg
          simp [Instr.loadAt, Instr.sureAddr, Sem.run_bind, loadVar, hagg, hc]
    · exact ValS.fail
  · exact ValS.fail
/-- So many cells further. -/
def shiftE (ob : Nat → Ob) (d : Nat) : AV → Option (AV × Prop)
  | .ptr id off => match ob id with
    | .box _ _ => some (.ptr id (off + d), True)
    | _ => none
  | .el cs => some (.el (cs.drop d), True)
  | .rp id n j e => match ob id with
    | .row _ s => some (.rp id n j (e + d), n = s.len)
    | _ => none
  | _ => none
theorem shift_sound {X : Nat → Prop} {ob : Nat → Ob} {d : Nat} {x y : AV} {v : Value} {p : Prop} (hx : Rep1 X ρ ob w x v) (hs : shiftE ob d x = some (y, p)) (h0 : p) : ∃ b o, v = .pointer (some ⟨b, o, none⟩) ∧ Rep1 X ρ ob w y (.pointer (some ⟨b, o + d, none⟩)) := by
  unfold shiftE at hs
  split at hs
  · rename_i id off
    split at hs
    · rename_i T cs ho
      cases hs
      simp only [Rep1, ho] at hx ⊢
      obtain ⟨b, e, rfl⟩ := hx
      exact ⟨b, off, rfl, b, e, rfl⟩
    · cases hs
  · cases hs
    obtain ⟨b, off, vs, rfl, h1, h2⟩ := hx
    refine ⟨b, off, rfl, b, off + d, vs.drop d, rfl, h1.drop d, fun i u hu => ?_⟩
    rw [List.getElem?_drop] at hu
    rw [show off + d + i = off + (d + i) by omega]
    exact h2 _ _ hu
  · rename_i id n j e
    split at hs
    · rename_i T s ho
      cases hs
      simp only [Rep1, ho] at hx ⊢
      obtain ⟨b, cap, e', rfl⟩ := hx.2 h0
      exact ⟨b, j * s.k + e, rfl, hx.1, fun _ => ⟨b, cap, e', by rw [Nat.add_assoc]⟩⟩
    · cases hs
  · cases hs
def fieldAddrE (P : Program) (ob : Nat → Ob) (t : TypeId) (x : AV) (f : Nat) : Out :=
  match P.underlying t with
  | some (.struct fs) => match fs[f]? with
    | some q => match lay P q.type with
      | some (_ + 1, _) => match shiftE ob q.offset x with
        | some (y, p) => .valP y p
        | none => .fail
      | _ => .fail
    | none => .fail
  | _ => .fail
theorem fieldAddrE_sound {X : Nat → Prop} {ob : Nat → Ob} {t : TypeId} {x : AV} {f : Nat} {v : Value} (hx : Rep1 X ρ ob w x v) : ValS P (Instr.fieldAt t v f) X ρ ob w (fieldAddrE P ob t x f) := by
  unfold fieldAddrE
  split
  · rename_i fs h1
    split
    · rename_i q hq
      split
      · rename_i n b hl
        obtain ⟨d, i, h2, h3, h4, h5⟩ := lay_some hl
        split
        · rename_i y p hs
          refine fun h0 => ?_
          obtain ⟨b, o, rfl, hy⟩ := shift_sound hx hs h0
          refine ⟨rfl, _, ?_, hy⟩
          simp [Instr.fieldAt, Instr.sureAddr, Sem.run_bind, run_underlying h1, hq, fieldPlace, run_sizeOf' h3, h4, Addr.add_mid]
        · exact ValS.fail
      · exact ValS.fail
    · exact ValS.fail
  · exact ValS.fail
def indexAddrE (P : Program) (ob : Nat → Ob) (t : TypeId) (x i : AV) : Out :=
  match i with
  | .g (.v (.int _ n)) => match P.underlying t with
    | some (.slice e) => match lay P e with
      | some (k, _) => match x with
        | .g (.sl s) => bif Nat.beq k s.k then .valP (.el (s.get n.toNat)) (0 ≤ n ∧ n < s.len) else .fail
        | .row id m => match ob id with
          | .row _ s => bif Nat.beq k s.k then .valP (.rp id m n.toNat 0) (m = s.len ∧ 0 ≤ n ∧ n < s.len) else .fail
          | .fz s => bif Nat.beq k s.k then .valP (.el (s.get n.toNat)) (m = s.len ∧ 0 ≤ n ∧ n < s.len) else .fail
          | _ => .fail
        | _ => .fail
      | none => .fail
    | some (.array len e) => match lay P e with
      | some (k, _) => bif decide (0 ≤ n) && decide (n < len) then (match shiftE ob (n.toNat * k) x with
        | some (y, p) => .valP y p
        | none => .fail) else .fail
      | none => .fail
    | _ => .fail
  | _ => .fail
theorem sl_index {W : Nat → Prop} {t e : TypeId} {s : SL} {v : Value} {n : Int} {kd : IntKind} {d : TypeInfo} (hu : P.underlying t = some (.slice e)) (hi : P.info? e = some d) (hk : d.size = s.k) (h : GRep w W (.sl s) v) (h0 : 0 ≤ n) (h1 : n < s.len) :
    ∃ b o vs, (Instr.indexAt t v (.int kd n)).run P w = .ok (.pointer (some ⟨b, o, none⟩)) w ∧ GRepL w W (s.get n.toNat) vs ∧ ∀ (i : Nat) (u : Value), vs[i]? = some u → ¬ W b ∧ w.cell? ⟨b, o + i, none⟩ = some u := by
  cases h with
  | sl _ ao cap val hcap hn hc hr =>
    have hlt : n.toNat < s.len := by omega
    have hat := SL.at_get hlt
    obtain ⟨-, hlen⟩ := SL.at_lt hat
    have hk0 : 0 < s.k := by cases s <;> simp [SL.k]
    obtain ⟨b, o, rfl, hb, -⟩ := hc _ _ 0 ((s.get n.toNat)[0]'(by omega)) hat (List.getElem?_eq_getElem _)
    refine ⟨b, o + n.toNat * s.k, (List.range s.k).map (val n.toNat), ?_, GRepL.of (by simp [hlen]) fun i g x hg hx => ?_, fun i u hu => ?_⟩
    · simp [Instr.indexAt, asIntOf, Sem.run_bind, run_underlying hu, h0, h1, run_sizeOf' hi, hk, Addr.add_mid]
    · have := hr _ _ i g hat hg
      rw [List.getElem?_map] at hx
      cases hq : (List.range s.k)[i]? with
      | none => rw [hq] at hx; cases hx
      | some j =>
        rw [hq] at hx
        obtain ⟨h3, h4⟩ := List.getElem?_eq_some_iff.1 hq
        simp at h4; subst h4
        simp at hx; subst hx
        exact this
    · rw [List.getElem?_map] at hu
      cases hq : (List.range s.k)[i]? with
      | none => rw [hq] at hu; cases hu
      | some j =>
        rw [hq] at hu
        obtain ⟨h3, h4⟩ := List.getElem?_eq_some_iff.1 hq
        simp at h3 h4; subst h4
        simp at hu; subst hu
        obtain ⟨b', o', he, hb', hcell⟩ := hc _ _ i ((s.get n.toNat)[i]'(by omega)) hat (List.getElem?_eq_getElem _)
        cases he
        exact ⟨hb', hcell⟩
theorem indexAddrE_sound (h : SR c ρ S a w) {t : TypeId} {x i : AV} {v vi : Value} (hx : Rep1 c.X ρ S.ob w x v) (hi : Rep1 c.X ρ S.ob w i vi) : ValS P (Instr.indexAt t v vi) c.X ρ S.ob w (indexAddrE P S.ob t x i) := by
  unfold indexAddrE
  split
  · rename_i kd n
    obtain ⟨rfl, -⟩ := rep_v hi
    split
    · rename_i e hu
      split
      · rename_i k bb hl
        obtain ⟨d, inf, h1, h2, rfl, h3⟩ := lay_some hl
        split
        · rename_i s
          cases hk : Nat.beq inf.size s.k with
          | false => exact ValS.fail
          | true =>
            refine fun h0 => ?_
            obtain ⟨b, o, vs, hr, h4, h5⟩ := sl_index (P := P) (kd := kd) hu h2 (Nat.eq_of_beq_eq_true hk) hx h0.1 h0.2
            exact ⟨rfl, _, hr, b, o, vs, rfl, h4, h5⟩
        · rename_i id m
          split
          · rename_i T s ho
            cases hk : Nat.beq inf.size s.k with
            | false => exact ValS.fail
            | true =>
              refine fun ⟨hm, h0, h4⟩ => ?_
              simp only [Rep1, ho] at hx
              have hv := hx.2 hm
              obtain ⟨v', xs, e', h5, h6⟩ := row_at h ho
              rw [hv] at e'; cases e'
              rcases h5.2 with ⟨hh, hz⟩ | ⟨g, cap, cur, rfl, _⟩
              · omega
              · refine ⟨rfl, .pointer (some ⟨g, n.toNat * s.k, none⟩), ?_, ?_⟩
                · simp [Instr.indexAt, asIntOf, Sem.run_bind, run_underlying hu, h0, h4, run_sizeOf' h2, Nat.eq_of_beq_eq_true hk, Addr.add_mid]
                · show Rep1 c.X ρ S.ob w (.rp id m n.toNat 0) _
                  simp only [Rep1]
                  rw [ho]
                  show m ≤ s.len ∧ (m = s.len → _)
                  refine ⟨Nat.le_of_eq hm, fun _ => ⟨g, cap, ?_, by simp⟩⟩
                  rw [hv, hm]
          · rename_i s ho
            cases hk : Nat.beq inf.size s.k with
            | false => exact ValS.fail
            | true =>
              refine fun ⟨hm, h0, h4⟩ => ?_
              simp only [Rep1, ho] at hx
              obtain ⟨b, o, vs, hr, h5, h6⟩ := sl_index (P := P) (kd := kd) hu h2 (Nat.eq_of_beq_eq_true hk) (hx hm) h0 h4
              exact ⟨rfl, _, hr, b, o, vs, rfl, h5, h6⟩
          · exact ValS.fail
        · exact ValS.fail
      · exact ValS.fail
    · rename_i len e hu
      split
      · rename_i k bb hl
        obtain ⟨d, inf, h1, h2, rfl, h3⟩ := lay_some hl
        cases hb : decide (0 ≤ n) && decide (n < len) with
        | false => exact ValS.fail
        | true =>
          simp only [cond_true]
          have hb' : 0 ≤ n ∧ n < len := by simpa using hb
          split
          · rename_i y p hs
            refine fun h0 => ?_
            obtain ⟨b, o, rfl, hy⟩ := shift_sound hx hs h0
            refine ⟨rfl, _, ?_, hy⟩
            simp [Instr.indexAt, Instr.sureAddr, asIntOf, Sem.run_bind, run_underlying hu, hb', run_sizeOf' h2, Addr.add_mid]
          · exact ValS.fail
      · exact ValS.fail
    · exact ValS.fail
  · exact ValS.fail
end
end Go.Proofs.Ytkoiogfhbipmjaa
