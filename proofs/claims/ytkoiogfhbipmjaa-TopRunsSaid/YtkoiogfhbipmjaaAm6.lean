/-
  AN ABSTRACT MACHINE, 6: structs and slices that are built, made, appended to, copied.
-/
import Derived.Test.YtkoiogfhbipmjaaAm5
import Derived.Maps.AppendAt
import Derived.Deep.Upon
import Derived.Laws.OwnMore
namespace Go.Proofs.Ytkoiogfhbipmjaa
open Go Go.RowKit

/-- A thing ahead. -/
def SL.cons : List GV → SL → Option SL
  | cs, .ev l => (decEv cs).map fun x => .ev (x :: l)
  | cs, .wd l => (decWd cs).map fun x => .wd (x :: l)
  | cs, .ce l => (decCe cs).map fun x => .ce (x :: l)
  | cs, .slot l => (decSlot cs).map fun x => .slot (x :: l)
  | cs, .lab l => (decLab cs).map fun x => .lab (x :: l)
  | cs, .mat l => (decMat cs).map fun x => .mat (x :: l)
  | cs, .int k l => (decInt k cs).map fun x => .int k (x :: l)
  | cs, .str l => (decStr cs).map fun x => .str (x :: l)
  | cs, .ints k l => (decInts k cs).map fun x => .ints k (x :: l)
  | cs, .labs l => (decLabs cs).map fun x => .labs (x :: l)
theorem SL.cons_spec {s s' : SL} {cs : List GV} (h : s.cons cs = some s') : s'.len = s.len + 1 ∧ s'.k = s.k ∧ cs.length = s.k ∧ s'.at 0 = some cs ∧ ∀ j, s'.at (j + 1) = s.at j := by
  cases s <;> simp only [SL.cons, Option.map_eq_some_iff] at h <;> obtain ⟨x, hx, rfl⟩ := h <;>
    first
      | rw [decEv_eq hx] | rw [decWd_eq hx] | rw [decCe_eq hx] | rw [decSlot_eq hx] | rw [decLab_eq hx] | rw [decMat_eq hx] | rw [decInt_eq hx] | rw [decStr_eq hx] | rw [decInts_eq hx] | rw [decLabs_eq hx]
  all_goals exact ⟨by simp [SL.len], rfl, rfl, by simp [SL.at], fun j => by simp [SL.at]⟩
/-- Of cells, so many things. -/
def SL.ofC (e : SL) : Nat → List GV → Option SL
  | 0, _ => some e
  | n + 1, cs => match SL.ofC e n (cs.drop e.k) with
    | some s => s.cons (cs.take e.k)
    | none => none
theorem SL.ofC_spec {e : SL} (he : e.len = 0) : ∀ {n : Nat} {cs : List GV} {s : SL}, SL.ofC e n cs = some s → s.len = n ∧ s.k = e.k ∧ n * e.k ≤ cs.length ∧ ∀ j r, s.at j = some r → r = (cs.drop (j * e.k)).take e.k
  | 0, cs, s, h => by
    cases h
    refine ⟨he, rfl, by omega, fun j r hr => ?_⟩
    have := (SL.at_lt hr).1
    omega
  | n + 1, cs, s, h => by
    unfold SL.ofC at h
    split at h
    · rename_i s1 h1
      obtain ⟨a1, a2, a3, a4⟩ := SL.ofC_spec he h1
      obtain ⟨b1, b2, b3, b4, b5⟩ := SL.cons_spec h
      have hk : e.k ≤ cs.length := by rw [a2] at b3; simp at b3; omega
      refine ⟨by omega, by omega, by rw [Nat.add_mul, Nat.one_mul]; simp at a3; omega, fun j r hr => ?_⟩
      cases j with
      | zero => rw [b4] at hr; cases hr; simp
      | succ j =>
        rw [b5] at hr
        rw [a4 j r hr, List.drop_drop, Nat.add_mul, Nat.one_mul, Nat.add_comm]
    · cases h
/-- One behind the other. -/
def SL.app : SL → SL → Option SL
  | .ev l, .ev m => some (.ev (l ++ m))
  | .wd l, .wd m => some (.wd (l ++ m))
  | .ce l, .ce m => some (.ce (l ++ m))
  | .slot l, .slot m => some (.slot (l ++ m))
  | .lab l, .lab m => some (.lab (l ++ m))
  | .mat l, .mat m => some (.mat (l ++ m))
  | .int k l, .int k' m => if k = k' then some (.int k (l ++ m)) else none
  | .str l, .str m => some (.str (l ++ m))
  | .ints k l, .ints k' m => if k = k' then some (.ints k (l ++ m)) else none
  | .labs l, .labs m => some (.labs (l ++ m))
  | _, _ => none
theorem SL.app_spec {s t r : SL} (h : s.app t = some r) : r.len = s.len + t.len ∧ r.k = s.k ∧ t.k = s.k ∧ (∀ j, j < s.len → r.at j = s.at j) ∧ ∀ j, r.at (s.len + j) = t.at j := by
  unfold SL.app at h
  split at h
  all_goals first
    | (cases h; done)
    | (cases h
       refine ⟨by simp [SL.len], rfl, rfl, fun j hj => ?_, fun j => ?_⟩
       · simp only [SL.len] at hj; simp only [SL.at]; rw [List.getElem?_append_left hj]
       · simp only [SL.at, SL.len]; rw [List.getElem?_append_right (by omega)]; simp)
    | (split at h
       · rename_i e; cases h; subst e
         refine ⟨by simp [SL.len], rfl, rfl, fun j hj => ?_, fun j => ?_⟩
         · simp only [SL.len] at hj; simp only [SL.at]; rw [List.getElem?_append_left hj]
         · simp only [SL.at, SL.len]; rw [List.getElem?_append_right (by omega)]; simp
       · cases h)
section
variable {P : Program} {c : Cx} {ρ : Rho} {S : St} {a : Act} {w : World}
/-- What a slice has, cell by cell. -/
structure Rd (w : World) (W : Nat → Prop) (s : SL) (v : Value) (ys : List Value) : Prop where
  len : ys.length = s.len * s.k
  rep : ∀ (j : Nat) (r : List GV), s.at j = some r → GRepL w W r ((ys.drop (j * s.k)).take s.k)
  at_ : ∃ ao cap, v = .slice ao s.len cap ∧ s.len ≤ cap ∧ (0 < s.len → ∃ b o, ao = some ⟨b, o, none⟩ ∧ ∀ j u, ys[j]? = some u → w.cell? ⟨b, o + j, none⟩ = some u)
theorem rd_g {W : Nat → Prop} {s : SL} {v : Value} (h : GRep w W (.sl s) v) : ∃ ys, Rd w W s v ys := by
  cases h with
  | sl _ ao cap val hcap hn hc hr =>
    have hk0 : 0 < s.k := by cases s <;> simp [SL.k]
    have hget : ∀ i, i < s.len * s.k → ∃ r g, s.at (i / s.k) = some r ∧ r[i % s.k]? = some g := fun i hi => by
      have h1 : i / s.k < s.len := Nat.div_lt_of_lt_mul (by rw [Nat.mul_comm]; exact hi)
      obtain ⟨r, hr⟩ := SL.at_some h1
      have h2 := (SL.at_lt hr).2
      have h3 : i % s.k < r.length := by rw [h2]; exact Nat.mod_lt _ hk0
      exact ⟨r, r[i % s.k], hr, List.getElem?_eq_getElem h3⟩
    refine ⟨(List.range (s.len * s.k)).map fun i => val (i / s.k) (i % s.k), by simp, fun j r hj => ?_, ao, cap, rfl, hcap, fun h0 => ?_⟩
    · obtain ⟨h1, h2⟩ := SL.at_lt hj
      have hmul : j * s.k + s.k ≤ s.len * s.k := by
        have := Nat.mul_le_mul_right s.k (show j + 1 ≤ s.len from h1)
        rw [Nat.add_mul, Nat.one_mul] at this
        exact this
      refine GRepL.of (by simp; omega) fun i g x hg hx => ?_
      have hi : i < s.k := by rw [← h2]; exact (List.getElem?_eq_some_iff.1 hg).1
      rw [drop_take_get, if_pos hi, List.getElem?_map, List.getElem?_range (by omega)] at hx
      cases hx
      have e1 : (j * s.k + i) / s.k = j := by rw [Nat.mul_comm, Nat.mul_add_div hk0, Nat.div_eq_of_lt hi]; rfl
      have e2 : (j * s.k + i) % s.k = i := by rw [Nat.mul_comm, Nat.mul_add_mod, Nat.mod_eq_of_lt hi]
      show GRep w W g (val ((j * s.k + i) / s.k) ((j * s.k + i) % s.k))
      rw [e1, e2]
      exact hr j r i g hj hg
    · obtain ⟨r, g, q1, q2⟩ := hget 0 (Nat.mul_pos h0 hk0)
      obtain ⟨b, o, e, -, -⟩ := hc _ _ _ _ q1 q2
      refine ⟨b, o, e, fun i u hu => ?_⟩
      rw [List.getElem?_map] at hu
      rcases Nat.lt_or_ge i (s.len * s.k) with hi | hi
      · rw [List.getElem?_range hi] at hu
        cases hu
        obtain ⟨r, g, q1, q2⟩ := hget i hi
        obtain ⟨b', o', e', -, h3⟩ := hc _ _ _ _ q1 q2
        rw [e] at e'; cases e'
        rw [← h3]
        congr 2
        rw [Nat.add_assoc]
        congr 1
        have := Nat.div_add_mod i s.k
        rw [Nat.mul_comm] at this
        exact this.symm
      · rw [List.getElem?_eq_none (by simpa using hi)] at hu; cases hu
/-- What may be read: a slice of one's own too. -/
def slE (ob : Nat → Ob) : AV → Option (SL × Prop)
  | .g (.sl s) => some (s, True)
  | .row id n => match ob id with
    | .row _ s => some (s, n = s.len)
    | .fz s => some (s, n = s.len)
    | _ => none
  | _ => none
theorem sl_sound (h : SR c ρ S a w) {x : AV} {v : Value} {s : SL} {p : Prop} (hx : Rep1 c.X ρ S.ob w x v) (hs : slE S.ob x = some (s, p)) (h0 : p) : ∃ ys, Rd w (Wr c.X ρ) s v ys := by
  unfold slE at hs
  split at hs
  · cases hs; exact rd_g hx
  · rename_i id n
    split at hs
    · rename_i T s' ho
      cases hs
      simp only [Rep1, ho] at hx
      have hv := hx.2 h0
      obtain ⟨v', xs, e, ⟨h1, h2⟩, h3⟩ := row_at h ho
      rw [hv] at e; cases e
      refine ⟨xs, h1, h3, ?_⟩
      rcases h2 with ⟨rfl, hn⟩ | ⟨g, cap, cur, rfl, _, hg, hle, _, _, htk⟩
      · exact ⟨none, 0, by rw [hn], by omega, fun h => by omega⟩
      · refine ⟨_, cap, rfl, hle, fun _ => ⟨g, 0, rfl, fun j u hu => ?_⟩⟩
        rw [cell_block hg, Nat.zero_add]
        rw [← htk, List.getElem?_take] at hu
        split at hu
        · simpa using hu
        · cases hu
    · rename_i s' ho
      cases hs
      simp only [Rep1, ho] at hx
      exact rd_g (hx h0)
    · cases hs
  · cases hs
theorem own_lt {b : Nat} {T : TypeId} {k : Nat} {v : Value} {n : Nat} {xs : List Value} (h : w.ownsRow b T k v n xs) : ∀ g, v.ownBlock = some g → g < w.heap.size := by
  intro g hg
  rcases h.2 with ⟨rfl, _⟩ | ⟨q, cap, cur, rfl, _, hq, _⟩
  · simp [Value.ownBlock] at hg
  · simp [Value.ownBlock] at hg
    subst hg
    exact (Array.getElem?_eq_some_iff.1 hq).1
/-- A new slice of one's own. -/
theorem SR.newrow (h : SR c ρ S a w) {w' : World} {nid : Nat} (hn : S.ob nid = .no) {T : TypeId} {s : SL} {v : Value} {ys : List Value} (hg : w.grownBy w' none) (ho : w'.ownsRow 0 T s.k v s.len ys) (hb : ∀ b, v.ownBlock = some b → w.heap.size ≤ b)
    (hr : ∀ (j : Nat) (r : List GV), s.at j = some r → GRepL w (Wr c.X ρ) r ((ys.drop (j * s.k)).take s.k)) :
    SR c (upd ρ nid (.cur v)) ⟨S.t, (nid, .row T s) :: S.o⟩ a w' := by
  have hbl : ∀ b, (Lo.cur v).block = some b → (ρ nid).block = some b ∨ (w.heap.size ≤ b ∧ b < w'.heap.size) := fun b hb' => .inr ⟨hb b hb', own_lt ho b hb'⟩
  have hk : ∀ b, b < w.heap.size → w'.heap[b]? = w.heap[b]? := fun b hb => hg.block b hb (by simp)
  have hc : Chg ρ (upd ρ nid (.cur v)) (fun j => j = nid) w w' := ⟨fun j hj => upd_ne hj, fun j b hj hb => by subst hj; rw [upd_self] at hb; exact hbl b hb, hg.os, hg.tape, hg.output, hg.size, fun b hb _ => hk b hb⟩
  refine (h.one nid _ (.row T s) hbl hg.os hg.tape hg.output hg.size (fun b hb _ => hk b hb) ?_ ?_).1
  · rw [hn]; trivial
  · exact ⟨v, ys, upd_self, ho, fun j r hj => hc.gl (hr j r hj)⟩
/-- Appended to. -/
def appE (P : Program) (K : TypeId → Option SL) (ob : Nat → Ob) (t : TypeId) (nid : Nat) (x y : AV) : Out :=
  match P.underlying t, slE ob y with
  | some (.slice e), some (s2, q) => match P.info? e, K e with
    | some i, some e0 => match i.zero with
      | some z => bif Nat.beq z.cells.size i.size && Nat.blt 0 i.size && Nat.beq i.size s2.k && Nat.beq i.size e0.k && Nat.beq e0.len 0 then
        (match x with
        | .row id n => match ob id with
          | .row T s => match s.app s2 with
            | some s' => bif Nat.beq T e then ⟨.one (.row id (n + s2.len)), [(id, .row T s')], n = s.len ∧ q ∧ n + s2.len ≤ maxLen ∧ (n + s2.len) * i.bytes ≤ 140737488355328⟩ else .fail
            | none => .fail
          | _ => .fail
        | .g (.v (.slice none 0 0)) => match e0.app s2 with
          | some s' => ⟨.one (.row nid s2.len), [(nid, .row e s')], q ∧ s2.len ≤ maxLen ∧ s2.len * i.bytes ≤ 140737488355328⟩
          | none => .fail
        | _ => .fail) else .fail
      | none => .fail
    | _, _ => .fail
  | _, _ => .fail
theorem run_app' {W : Nat → Prop} {t ty e : TypeId} {i : TypeInfo} {z v v2 : Value} {s2 : SL} {n : Nat} {xs ys : List Value} (ht : P.underlying t = some (.slice e)) (hi : P.info? e = some i) (hz : i.zero = some z) (hzs : z.cells.size = i.size) (h0 : 0 < i.size) (hk : i.size = s2.k)
    (hown : w.ownsRow 0 e i.size v n xs) (hrd : Rd w W s2 v2 ys) (hone : ∀ u ∈ ys, u.oneCell' = true) (h63 : n + s2.len ≤ maxLen) (hby : (n + s2.len) * i.bytes ≤ 140737488355328) :
    ∃ v' w', (Builtin.append_ #[t, t] ty #[v, v2]).run P w = .ok v' w' ∧ w'.ownsRow 0 e i.size v' (n + s2.len) (xs ++ ys) ∧ w.grownBy w' v.ownBlock ∧ (v'.ownBlock = v.ownBlock ∨ v'.ownBlock = some w.heap.size) := by
  obtain ⟨ao, cap, rfl, hcap, hat⟩ := hrd.at_
  rcases Nat.eq_zero_or_pos s2.len with hy | hy
  · have hys : ys = [] := List.eq_nil_of_length_eq_zero (by rw [hrd.len, hy, Nat.zero_mul])
    subst hys
    have hle : ∃ bs len cp, v = .slice bs len cp ∧ len ≤ cp := by
      rcases hown.2 with ⟨rfl, _⟩ | ⟨g, cap, cur, rfl, _, _, h, _⟩
      · exact ⟨_, _, _, rfl, Nat.le_refl _⟩
      · exact ⟨_, _, _, rfl, h⟩
    obtain ⟨bs, len, cp, rfl, hle⟩ := hle
    refine ⟨_, w, run_append_nothing w t t ty e i ht hi bs len cp hle _ ⟨Or.inl ⟨e, ht⟩, fun w' => by simp [Builtin.lenOf, hy], ?_, ?_, by simp, by simp⟩, by simpa [hy] using hown, ⟨rfl, rfl, rfl, Nat.le_refl _, fun _ _ _ => rfl⟩, Or.inl rfl⟩
    · cases ao <;> simp [Builtin.firstCells, loadCells, loadCellsFrom]
    · cases ao <;> simp [Builtin.firstCells, loadCells, loadCellsFrom]
  · obtain ⟨b, o, rfl, hcells⟩ := hat hy
    obtain ⟨v', w', hr, a1, a2, _, a4⟩ := run_append_own_at (P := P) w 0 t ty e i z i.size i.bytes ht hi hz rfl rfl hzs h0 v n xs hown ⟨b, o, none⟩ s2.len cap ys (by rw [hrd.len, hk]) (fun j u hu => by rw [Addr.add_mid]; exact hcells j u hu) hone h63 hby (Nat.zero_le _)
    exact ⟨v', w', hr, a1, a2, a4⟩
theorem gl_mem {W : Nat → Prop} {s : SL} {v : Value} {ys : List Value} (h : Rd w W s v ys) : ∀ u ∈ ys, u.oneCell' = true := fun u hu => by
  obtain ⟨i, hi⟩ := List.mem_iff_getElem?.1 hu
  have hlt : i < s.len * s.k := by rw [← h.len]; exact (List.getElem?_eq_some_iff.1 hi).1
  have hk0 : 0 < s.k := by cases s <;> simp [SL.k]
  have h1 : i / s.k < s.len := Nat.div_lt_of_lt_mul (by rw [Nat.mul_comm]; exact hlt)
  obtain ⟨r, hr⟩ := SL.at_some h1
  have := h.rep _ _ hr
  refine GRepL.one this u (List.mem_iff_getElem?.2 ⟨i % s.k, ?_⟩)
  rw [drop_take_get, if_pos (Nat.mod_lt _ hk0), ← hi]
  congr 1
  have := Nat.div_add_mod i s.k
  rw [Nat.mul_comm] at this
  exact this
theorem rows_app {W W' : Nat → Prop} {w' : World} {s s2 s' : SL} {xs ys : List Value} (hs : s.app s2 = some s') (hx : xs.length = s.len * s.k) (h1 : ∀ (j : Nat) (r : List GV), s.at j = some r → GRepL w' W r ((xs.drop (j * s.k)).take s.k)) (hy : ys.length = s2.len * s2.k) (h2 : ∀ (j : Nat) (r : List GV), s2.at j = some r → GRepL w' W r ((ys.drop (j * s2.k)).take s2.k)) :
    ∀ (j : Nat) (r : List GV), s'.at j = some r → GRepL w' W r (((xs ++ ys).drop (j * s'.k)).take s'.k) := fun j r hr => by
  obtain ⟨a1, a2, a3, a4, a5⟩ := SL.app_spec hs
  rw [a2]
  rcases Nat.lt_or_ge j s.len with hj | hj
  · rw [a4 j hj] at hr
    have hmul : j * s.k + s.k ≤ s.len * s.k := by
      have := Nat.mul_le_mul_right s.k (show j + 1 ≤ s.len from hj)
      rw [Nat.add_mul, Nat.one_mul] at this
      exact this
    have := h1 j r hr
    rwa [List.drop_append_of_le_length (by omega), List.take_append_of_le_length (by simp; omega)]
  · obtain ⟨i, rfl⟩ : ∃ i, j = s.len + i := ⟨j - s.len, by omega⟩
    rw [a5] at hr
    have := h2 i r hr
    rw [a3] at this
    rw [Nat.add_mul, ← hx, List.drop_append, List.drop_eq_nil_of_le (by omega)]
    simpa using this
theorem appE_sound (h : SR c ρ S a w) {K : TypeId → Option SL} {t ty : TypeId} {nid : Nat} (hn : S.ob nid = .no) {x y : AV} {vx vy : Value} (hx : Rep1 c.X ρ S.ob w x vx) (hy : Rep1 c.X ρ S.ob w y vy) : MemS P (Builtin.append_ #[t, t] ty #[vx, vy]) c ρ S a w (appE P K S.ob t nid x y) := by
  unfold appE
  split
  · rename_i e s2 q hu hs2
    split
    · rename_i i e0 hi hK
      split
      · rename_i z hz
        cases hb : Nat.beq z.cells.size i.size && Nat.blt 0 i.size && Nat.beq i.size s2.k && Nat.beq i.size e0.k && Nat.beq e0.len 0 with
        | false => exact MemS.fail
        | true =>
          simp only [Bool.and_eq_true] at hb
          obtain ⟨⟨⟨⟨q1, q2⟩, q3⟩, q4⟩, q5⟩ := hb
          have q2' : 0 < i.size := Nat.le_of_ble_eq_true q2
          replace q1 := Nat.eq_of_beq_eq_true q1
          replace q3 := Nat.eq_of_beq_eq_true q3
          replace q4 := Nat.eq_of_beq_eq_true q4
          replace q5 := Nat.eq_of_beq_eq_true q5
          simp only [cond_true]
          split
          · rename_i id n
            split
            · rename_i T s ho
              split
              · rename_i s' hs'
                cases hT : Nat.beq T e with
                | false => exact MemS.fail
                | true =>
                  obtain rfl := Nat.eq_of_beq_eq_true hT
                  refine fun ⟨hns, hq, h63, hby⟩ => ?_
                  obtain ⟨a1, a2, a3, a4, a5⟩ := SL.app_spec hs'
                  obtain ⟨ys, hrd⟩ := sl_sound h hy hs2 hq
                  obtain ⟨v, xs, ev, hown, hrep⟩ := row_at h ho
                  simp only [Rep1, ho] at hx
                  have hv := hx.2 hns
                  rw [hv] at ev; cases ev
                  have hsk : s.k = i.size := by rw [← a3, ← q3]
                  rw [hsk, ← hns] at hown
                  obtain ⟨v', w', hr, b1, b2, b3⟩ := run_app' (P := P) (ty := ty) hu hi hz q1 q2' q3 hown hrd (gl_mem hrd) h63 hby
                  have hbl : ∀ b, (Lo.cur v').block = some b → (ρ id).block = some b ∨ (w.heap.size ≤ b ∧ b < w'.heap.size) := fun b hb' => by
                    rcases b3 with h3 | h3
                    · left; rw [hv]; show vx.ownBlock = some b; rw [← h3]; exact hb'
                    · right
                      have := own_lt b1 b hb'
                      have e : v'.ownBlock = some b := hb'
                      rw [h3] at e; cases e
                      exact ⟨Nat.le_refl _, this⟩
                  have hk : ∀ b, b < w.heap.size → (ρ id).block ≠ some b → w'.heap[b]? = w.heap[b]? := fun b hb hne => b2.block b hb (fun hh => hne (by rw [hv]; exact hh.symm))
                  have hc : Chg ρ (upd ρ id (.cur v')) (fun j => j = id) w w' := ⟨fun j hj => upd_ne hj, fun j b hj hb => by subst hj; rw [upd_self] at hb; exact hbl b hb, b2.os, b2.tape, b2.output, b2.size, fun b hb hne => hk b hb (hne id rfl)⟩
                  refine ⟨v', w', upd ρ id (.cur v'), hr, (h.one id _ (.row T s') hbl b2.os b2.tape b2.output b2.size hk ?_ ?_).1, ?_⟩
                  · rw [ho]
                    refine ⟨by omega, fun hl => ⟨a2, ?_⟩⟩
                    rw [upd_self, hv]
                    -- nothing was appended
                    have hz2 : s2.len = 0 := by omega
                    obtain ⟨ao, cap, rfl, -, -⟩ := hrd.at_
                    have hle : ∃ bs len cp, vx = .slice bs len cp ∧ len ≤ cp := by
                      rcases hown.2 with ⟨rfl, _⟩ | ⟨g, cap, cur, rfl, _, _, h, _⟩
                      · exact ⟨_, _, _, rfl, Nat.le_refl _⟩
                      · exact ⟨_, _, _, rfl, h⟩
                    obtain ⟨bs, len, cp, rfl, hle⟩ := hle
                    have hr2 := run_append_nothing (P := P) w t t ty T i hu hi bs len cp hle (.slice ao s2.len cap) ⟨Or.inl ⟨T, hu⟩, fun w' => by simp [Builtin.lenOf, hz2], by cases ao <;> simp [Builtin.firstCells, loadCells, loadCellsFrom], by cases ao <;> simp [Builtin.firstCells, loadCells, loadCellsFrom], by simp, by simp⟩
                    rw [hr2] at hr
                    cases hr
                    rfl
                  · refine ⟨v', xs ++ ys, upd_self, ?_, fun j r hj => ?_⟩
                    · rw [a1, a2, hsk, ← hns]; exact b1
                    · exact hc.gl (rows_app (W' := fun _ => False) hs' (by rw [hown.1, hsk, hns]) hrep hrd.len hrd.rep j r hj)
                  · show Rep1 c.X (upd ρ id (.cur v')) (St.ob ⟨S.t, [(id, Ob.row T s')] ++ S.o⟩) w' (.row id (n + s2.len)) v'
                    simp only [Rep1]
                    rw [show St.ob ⟨S.t, [(id, Ob.row T s')] ++ S.o⟩ id = .row T s' from ob_self]
                    exact ⟨by omega, fun _ => upd_self⟩
              · exact MemS.fail
            · exact MemS.fail
          · split
            · rename_i s' hs'
              refine fun ⟨hq, h63, hby⟩ => ?_
              obtain ⟨rfl, -⟩ := rep_v hx
              obtain ⟨a1, a2, a3, a4, a5⟩ := SL.app_spec hs'
              obtain ⟨ys, hrd⟩ := sl_sound h hy hs2 hq
              have hown : w.ownsRow 0 e i.size (.slice none 0 0) 0 [] := ⟨by simp, .inl ⟨rfl, rfl⟩⟩
              obtain ⟨v', w', hr, b1, b2, b3⟩ := run_app' (P := P) (ty := ty) hu hi hz q1 q2' q3 hown hrd (gl_mem hrd) (by omega) (by simpa using hby)
              have e1 : s'.len = s2.len := by omega
              refine ⟨v', w', _, hr, h.newrow hn (v := v') (ys := ys) b2 ?_ (fun b hb => ?_) fun j r hj => ?_, ?_⟩
              · rw [e1, a2, ← q4]; simpa using b1
              · rcases b3 with h3 | h3
                · rw [h3] at hb; cases hb
                · rw [h3] at hb; cases hb; exact Nat.le_refl _
              · have := rows_app (W' := fun _ => False) hs' (xs := []) (by rw [q5, Nat.zero_mul]; rfl) (fun j r hj => by have := (SL.at_lt hj).1; omega) hrd.len hrd.rep j r hj
                simpa using this
              · show Rep1 c.X _ _ w' (.row nid s2.len) v'
                simp only [Rep1]
                rw [show St.ob ⟨S.t, [(nid, Ob.row e s')] ++ S.o⟩ nid = .row e s' from ob_self]
                exact ⟨by omega, fun _ => upd_self⟩
            · exact MemS.fail
          · exact MemS.fail
      · exact MemS.fail
    · exact MemS.fail
  · exact MemS.fail
end
end Go.Proofs.Ytkoiogfhbipmjaa
