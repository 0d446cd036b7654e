/-
  AN ABSTRACT MACHINE, 5: stores; structs and slices that are built.
-/
import Derived.Test.YtkoiogfhbipmjaaAm4
namespace Go.Proofs.Ytkoiogfhbipmjaa
open Go Go.RowKit

section
variable {P : Program} {c : Cx} {ρ : Rho} {S : St} {a : Act} {w : World}
theorem setCells_list {g : Nat} {t : TypeId} {fr : Nat × Nat} {A : Array Value} {us : List Value} {o : Nat} (h : w.heap[g]? = some (.cells A t fr)) (hs : o + us.length ≤ A.size) :
    (w.setCells g o us).heap[g]? = some (.cells (A.toList.take o ++ us ++ A.toList.drop (o + us.length)).toArray t fr) := by
  obtain ⟨A', h1, h2, h3, h4⟩ := setCells_part (w := w) us o w A h hs
  rw [h1]
  congr 2
  refine Array.ext' (List.ext_getElem? fun j => ?_)
  show A'.toList[j]? = (A.toList.take o ++ us ++ A.toList.drop (o + us.length))[j]?
  rw [Array.getElem?_toList, List.append_assoc]
  rcases Nat.lt_or_ge j o with hj | hj
  · rw [h3 j (.inl hj), List.getElem?_append_left (by simp; omega), List.getElem?_take, if_pos hj]
    simp
  · rw [List.getElem?_append_right (by simp; omega)]
    have e : (A.toList.take o).length = o := by simp; omega
    rw [e]
    rcases Nat.lt_or_ge j (o + us.length) with h5 | h5
    · rw [List.getElem?_append_left (by omega)]
      have := h4 (j - o) (by omega)
      rw [show o + (j - o) = j by omega] at this
      exact this
    · rw [List.getElem?_append_right (by omega), h3 j (.inr h5), List.getElem?_drop]
      rw [show o + us.length + (j - o - us.length) = j by omega]
      simp
theorem gl_one : ∀ {gs : List GV} {W : Nat → Prop} {vs : List Value}, GRepL w W gs vs → vs.all (·.oneCell') = true := fun h => List.all_eq_true.2 fun x hx => GRepL.one h x hx
def storeE (P : Program) (ob : Nat → Ob) (t : TypeId) (x y : AV) : Out :=
  match gC ob y, lay P t with
  | some (cs, p), some (n, _) => bif Nat.beq cs.length n then
    (match x with
    | .ptr id off => match ob id with
      | .box T cur => bif Nat.ble (off + n) cur.length then ⟨.one .any, [(id, .box T (cur.take off ++ cs ++ cur.drop (off + n)))], p⟩ else .fail
      | _ => .fail
    | .rp id m j d => match ob id with
      | .row T s => bif Nat.ble (d + n) s.k then (match s.put j ((s.get j).take d ++ cs ++ (s.get j).drop (d + n)) with
        | some s' => ⟨.one .any, [(id, .row T s')], p ∧ m = s.len ∧ j < s.len⟩
        | none => .fail) else .fail
      | _ => .fail
    | _ => .fail) else .fail
  | _, _ => .fail
/-- What an operation without a value has to do. -/
def MemU (P : Program) (m : Sem Unit) (c : Cx) (ρ : Rho) (S : St) (a : Act) (w : World) (r : Out) : Prop := r.p → ∃ w' ρ', m.run P w = .ok () w' ∧ SR c ρ' ⟨S.t, r.u ++ S.o⟩ a w' ∧ r.x = .one .any
theorem MemU.fail {m : Sem Unit} : MemU P m c ρ S a w .fail := fun h => h.elim
theorem upd_id {id : Nat} : upd ρ id (ρ id) = ρ := by
  funext j
  unfold upd
  split
  · rename_i h; rw [h]
  · rfl
theorem list_splice {α : Type} {l us : List α} {o k : Nat} (n : Nat) (h : o + us.length ≤ l.length) (hn : n ≤ o ∨ o + us.length ≤ n) (hk : n + k ≤ o ∨ o + us.length ≤ n) : ((l.take o ++ us ++ l.drop (o + us.length)).drop n).take k = (l.drop n).take k := by
  refine List.ext_getElem? fun j => ?_
  rw [List.getElem?_take, List.getElem?_take]
  split
  · rename_i hj
    rw [List.getElem?_drop, List.getElem?_drop, List.append_assoc]
    rcases Nat.lt_or_ge (n + j) o with h1 | h1
    · rw [List.getElem?_append_left (by simp; omega), List.getElem?_take, if_pos h1]
    · have e : (l.take o).length = o := by simp; omega
      rw [List.getElem?_append_right (by omega), e, List.getElem?_append_right (by omega), List.getElem?_drop]
      congr 1
      omega
  · rfl
theorem list_splice_in {α : Type} {l us : List α} {o d k : Nat} (h : o + d + us.length ≤ l.length) (hd : d + us.length ≤ k) (hk : o + k ≤ l.length) : ((l.take (o + d) ++ us ++ l.drop (o + d + us.length)).drop o).take k = ((l.drop o).take k).take d ++ us ++ ((l.drop o).take k).drop (d + us.length) := by
  refine List.ext_getElem? fun j => ?_
  have e1 : (l.take (o + d)).length = o + d := by simp; omega
  have e2 : (((l.drop o).take k).take d).length = d := by simp; omega
  rw [List.getElem?_take, List.getElem?_drop, List.append_assoc, List.append_assoc]
  split
  · rename_i hj
    rcases Nat.lt_or_ge j d with h1 | h1
    · rw [List.getElem?_append_left (l₁ := l.take (o + d)) (by omega), List.getElem?_append_left (l₁ := ((l.drop o).take k).take d) (by omega), List.getElem?_take, if_pos (by omega), List.getElem?_take, if_pos h1, List.getElem?_take, if_pos hj, List.getElem?_drop]
    · rw [List.getElem?_append_right (l₁ := l.take (o + d)) (by omega), List.getElem?_append_right (l₁ := ((l.drop o).take k).take d) (by omega), e1, e2]
      rw [show o + j - (o + d) = j - d by omega]
      rcases Nat.lt_or_ge (j - d) us.length with h2 | h2
      · rw [List.getElem?_append_left (l₁ := us) h2, List.getElem?_append_left (l₁ := us) h2]
      · rw [List.getElem?_append_right (l₁ := us) h2, List.getElem?_append_right (l₁ := us) h2, List.getElem?_drop, List.getElem?_drop, List.getElem?_take, if_pos (by omega), List.getElem?_drop]
        congr 1
        omega
  · rename_i hj
    symm
    rw [List.getElem?_eq_none_iff]
    simp only [List.length_append, List.length_take, List.length_drop]
    omega
theorem gl_splice {W : Nat → Prop} {cs us : List GV} {vs xs : List Value} {o : Nat} (h : GRepL w W cs vs) (h' : GRepL w W us xs) : GRepL w W (cs.take o ++ us ++ cs.drop (o + us.length)) (vs.take o ++ xs ++ vs.drop (o + xs.length)) := by
  rw [← h'.length]
  exact ((h.take o).app h').app (h.drop _)
theorem storeE_sound (h : SR c ρ S a w) {t : TypeId} {x y : AV} {vx vy : Value} (hx : Rep1 c.X ρ S.ob w x vx) (hy : Rep1 c.X ρ S.ob w y vy) : MemU P (Instr.storeAt t vx vy) c ρ S a w (storeE P S.ob t x y) := by
  unfold storeE
  split
  · rename_i cs p n bb hg hl
    obtain ⟨d, inf, h1, h2, rfl, h3⟩ := lay_some hl
    cases hb : Nat.beq cs.length inf.size with
    | false => exact MemU.fail
    | true =>
      have hlen : cs.length = inf.size := Nat.eq_of_beq_eq_true hb
      simp only [cond_true]
      split
      · rename_i id off
        split
        · rename_i T cur ho
          cases hle : Nat.ble (off + inf.size) cur.length with
          | false => exact MemU.fail
          | true =>
            have hle' : off + inf.size ≤ cur.length := Nat.le_of_ble_eq_true hle
            refine fun hp => ?_
            obtain ⟨us, hus, h4⟩ := gC_sound hy hg hp
            obtain ⟨b, vs, e, h5, h6⟩ := box_at h ho
            simp only [Rep1, ho] at hx
            obtain ⟨b', e', rfl⟩ := hx
            rw [e] at e'; cases e'
            have hul : us.length = inf.size := by rw [← h4.length, hlen]
            have hvl : vs.length = cur.length := h6.length.symm
            have hthere : w.there b off vy.cells.size := fun j hj => by
              rw [hus] at hj
              have hj' : j < us.length := by simpa using hj
              refine ⟨?_, free_block h5 _⟩
              rw [cell_block h5]
              simp [List.getElem?_eq_getElem (show off + j < vs.length by omega)]
            have hrun := run_storeVar_any (P := P) w b off t vy hthere (by rw [h2, hus]; simp [hul]) (by rw [hus]; simpa using gl_one h4)
            have hset := setCells_list (us := us) (o := off) h5 (by simp; omega)
            have hu := setCells_upd b us off w
            rw [show vy.cells.toList = us by rw [hus]] at hrun
            refine ⟨_, upd ρ id (ρ id), ?_, (h.one id (ρ id) (.box T _) (fun b hb => .inl hb) hu.os hu.tape hu.output hu.size (fun k hk hne => hu.block k hk fun hh => hne (by rw [hh, e]; rfl)) ?_ ?_).1, rfl⟩
            · simp only [Instr.storeAt, Instr.sureAddr, Sem.run_bind, Sem.run_pure, Result.andThen_ok, hrun]
            · rw [ho]; exact upd_self
            · rw [upd_id]
              refine ⟨b, _, e, hset, ?_⟩
              have hc : Chg ρ ρ (fun j => j = id) w (w.setCells b off us) := ⟨fun _ _ => rfl, fun _ _ _ hb => .inl hb, hu.os, hu.tape, hu.output, hu.size, fun k hk hne => hu.block k hk fun hh => hne id rfl (by rw [hh, e]; rfl)⟩
              have := hc.gl (gl_splice (o := off) h6 h4)
              rw [hlen] at this
              exact this
        · exact MemU.fail
      · rename_i id m j dd
        split
        · rename_i T s ho
          cases hle : Nat.ble (dd + inf.size) s.k with
          | false => exact MemU.fail
          | true =>
            have hle' : dd + inf.size ≤ s.k := Nat.le_of_ble_eq_true hle
            simp only [cond_true]
            split
            · rename_i s' hput
              refine fun ⟨hp, hm, hj⟩ => ?_
              obtain ⟨us, hus, h4⟩ := gC_sound hy hg hp
              obtain ⟨v', xs, e, h5, h6⟩ := row_at h ho
              simp only [Rep1, ho] at hx
              obtain ⟨b, cap, e', rfl⟩ := hx.2 hm
              rw [e] at e'; cases e'
              obtain ⟨hl1, hl2⟩ := h5
              rcases hl2 with ⟨hh, -⟩ | ⟨g, cap', cur, hh, h7, h8, h9, h10, h11, h12⟩
              · cases hh
              · cases hh
                obtain ⟨p1, p2, p3, p4, p5⟩ := SL.put_spec hput
                have hul : us.length = inf.size := by rw [← h4.length, hlen]
                have hmul : j * s.k + s.k ≤ s.len * s.k := by
                  have := Nat.mul_le_mul_right s.k (show j + 1 ≤ s.len from hj)
                  rw [Nat.add_mul, Nat.one_mul] at this
                  exact this
                have hmul2 : s.len * s.k ≤ cap * s.k := Nat.mul_le_mul_right _ h9
                have hthere : w.there b (j * s.k + dd) vy.cells.size := fun i hi => by
                  rw [hus] at hi
                  have hi' : i < us.length := by simpa using hi
                  refine ⟨?_, free_block h8 _⟩
                  rw [cell_block h8, Array.getElem?_eq_getElem (by omega)]
                  rfl
                have hrun := run_storeVar_any (P := P) w b (j * s.k + dd) t vy hthere (by rw [h2, hus]; simp [hul]) (by rw [hus]; simpa using gl_one h4)
                have hset := setCells_list (us := us) (o := j * s.k + dd) h8 (by omega)
                have hu := setCells_upd b us (j * s.k + dd) w
                rw [show vy.cells.toList = us by rw [hus]] at hrun
                have hbl : (ρ id).block = some b := by rw [e]; rfl
                have hc : Chg ρ ρ (fun j => j = id) w (w.setCells b (j * s.k + dd) us) := ⟨fun _ _ => rfl, fun _ _ _ hb => .inl hb, hu.os, hu.tape, hu.output, hu.size, fun k hk hne => hu.block k hk fun hh => hne id rfl (by rw [hh]; exact hbl)⟩
                refine ⟨_, upd ρ id (ρ id), ?_, (h.one id (ρ id) (.row T s') (fun b hb => .inl hb) hu.os hu.tape hu.output hu.size (fun k hk hne => hu.block k hk fun hh => hne (by rw [hh]; exact hbl)) ?_ ?_).1, rfl⟩
                · simp only [Instr.storeAt, Instr.sureAddr, Sem.run_bind, Sem.run_pure, Result.andThen_ok, hrun]
                · rw [ho]; exact ⟨Nat.le_of_eq p1.symm, fun _ => ⟨p2, upd_self⟩⟩
                · rw [upd_id]
                  have hxl : xs.length = s.len * s.k := hl1
                  have hcl : cur.toList.length = cap * s.k := by simpa using h11
                  have hxs : (cur.toList.take (j * s.k + dd) ++ us ++ cur.toList.drop (j * s.k + dd + us.length)).take (s.len * s.k) = xs.take (j * s.k + dd) ++ us ++ xs.drop (j * s.k + dd + us.length) := by
                    rw [← h12]
                    refine List.ext_getElem? fun i => ?_
                    have e1 : (cur.toList.take (j * s.k + dd)).length = j * s.k + dd := by simp; omega
                    have e2 : ((cur.toList.take (s.len * s.k)).take (j * s.k + dd)).length = j * s.k + dd := by simp; omega
                    rw [List.getElem?_take, List.append_assoc, List.append_assoc]
                    split
                    · rename_i hi
                      rcases Nat.lt_or_ge i (j * s.k + dd) with q1 | q1
                      · rw [List.getElem?_append_left (l₁ := cur.toList.take (j * s.k + dd)) (by omega), List.getElem?_append_left (l₁ := (cur.toList.take (s.len * s.k)).take (j * s.k + dd)) (by omega), List.getElem?_take, if_pos q1, List.getElem?_take, if_pos q1, List.getElem?_take, if_pos hi]
                      · rw [List.getElem?_append_right (l₁ := cur.toList.take (j * s.k + dd)) (by omega), List.getElem?_append_right (l₁ := (cur.toList.take (s.len * s.k)).take (j * s.k + dd)) (by omega), e1, e2]
                        rcases Nat.lt_or_ge (i - (j * s.k + dd)) us.length with q2 | q2
                        · rw [List.getElem?_append_left q2, List.getElem?_append_left q2]
                        · rw [List.getElem?_append_right q2, List.getElem?_append_right q2, List.getElem?_drop, List.getElem?_drop, List.getElem?_take, if_pos (by omega)]
                    · symm
                      rw [List.getElem?_eq_none_iff]
                      simp only [List.length_append, List.length_take, List.length_drop]
                      omega
                  refine ⟨_, xs.take (j * s.k + dd) ++ us ++ xs.drop (j * s.k + dd + us.length), e, ⟨?_, .inr ⟨b, cap, _, by rw [p1], h7, hset, by omega, h10, ?_, ?_⟩⟩, fun i r hr => ?_⟩
                  · rw [p1, p2]; simp; omega
                  · rw [p2]; simp; omega
                  · rw [p1, p2]; simpa using hxs
                  · rw [p2]
                    by_cases hi : i = j
                    · subst hi
                      rw [p5 hj] at hr
                      cases hr
                      rw [list_splice_in (by omega) (by omega) (by omega)]
                      have := hc.gl (gl_splice (o := dd) (h6 i _ (SL.at_get hj)) h4)
                      rw [hlen] at this
                      exact this
                    · rw [p4 i hi] at hr
                      have hil := (SL.at_lt hr).1
                      have q : i * s.k + s.k ≤ j * s.k ∨ j * s.k + s.k ≤ i * s.k := by
                        rcases Nat.lt_or_gt_of_ne hi with q | q
                        · left; have := Nat.mul_le_mul_right s.k (show i + 1 ≤ j from q); rw [Nat.add_mul, Nat.one_mul] at this; exact this
                        · right; have := Nat.mul_le_mul_right s.k (show j + 1 ≤ i from q); rw [Nat.add_mul, Nat.one_mul] at this; exact this
                      rw [list_splice (i * s.k) (by omega) (by omega) (by omega)]
                      exact hc.gl (h6 i r hr)
            · exact MemU.fail
        · exact MemU.fail
      · exact MemU.fail
  · exact MemU.fail
end
end Go.Proofs.Ytkoiogfhbipmjaa
