/-
  RINGS: rows of things in memory, the state of a ring, what it has; what is as it was but for a ring's blocks.
-/
import Derived.Test.YtohkioakipjanaaSl
import Derived.Deep.AppendLies
import Derived.OwnWalk
namespace Go.Proofs.Ytohkioakipjanaa
open Go Go.RowKit

/-! ### Lists in rows of cells -/
section
variable {α : Type} {c : α → List Value} {k : Nat}
def fl (c : α → List Value) : List α → List Value
  | [] => []
  | a :: l => c a ++ fl c l
theorem fl_append (l m : List α) : fl c (l ++ m) = fl c l ++ fl c m := by
  induction l with
  | nil => rfl
  | cons a l ih => simp only [List.cons_append, fl, ih, List.append_assoc]
theorem fl_len (hk : ∀ x, (c x).length = k) (l : List α) : (fl c l).length = l.length * k := by
  induction l with
  | nil => simp [fl]
  | cons a l ih => simp only [fl, List.length_append, List.length_cons, ih, hk, Nat.succ_mul]; omega
theorem fl_get (hk : ∀ x, (c x).length = k) (l : List α) : ∀ (i j : Nat), j < k → (fl c l)[i * k + j]? = (l[i]?).bind (fun x => (c x)[j]?) := by
  induction l with
  | nil => intro i j _; simp [fl]
  | cons a l ih =>
    intro i j hj
    cases i with
    | zero =>
      have hj' : 0 * k + j < (c a).length := by rw [hk]; omega
      simp only [fl]
      rw [List.getElem?_append_left hj', Nat.zero_mul, Nat.zero_add]
      rfl
    | succ i =>
      have e : (i + 1) * k + j = (c a).length + (i * k + j) := by rw [hk, Nat.succ_mul]; omega
      simp only [fl]
      rw [e, List.getElem?_append_right (by omega), Nat.add_sub_cancel_left, ih i j hj]
      rfl
theorem fl_at (hk : ∀ x, (c x).length = k) {l : List α} {i : Nat} {x : α} (h : l[i]? = some x) {j : Nat} {u : Value} (hu : (c x)[j]? = some u) : (fl c l)[i * k + j]? = some u := by
  have hj : j < k := by rw [← hk x]; exact (List.getElem?_eq_some_iff.1 hu).1
  rw [fl_get hk l i j hj, h]
  exact hu
/-- One thing of a row is another one. -/
theorem fl_set (hk : ∀ x, (c x).length = k) (h0 : 0 < k) {A B : Array Value} {s : List α} {n i : Nat} {x : α} (hA : A.toList.take (n * k) = fl c s) (hn : s.length = n) (hi : i < n) (hs : B.size = A.size) (hsz : n * k ≤ A.size)
    (h1 : ∀ j, j < i * k ∨ i * k + k ≤ j → B[j]? = A[j]?) (h2 : ∀ j, j < k → B[i * k + j]? = (c x)[j]?) : B.toList.take (n * k) = fl c (s.set i x) := by
  refine List.ext_getElem? fun j => ?_
  rcases Nat.lt_or_ge j (n * k) with hj | hj
  · obtain ⟨q, r, rfl, hr⟩ : ∃ q r, j = q * k + r ∧ r < k := ⟨j / k, j % k, by rw [Nat.mul_comm]; exact (Nat.div_add_mod j k).symm, Nat.mod_lt _ h0⟩
    rw [List.getElem?_take, if_pos hj, fl_get hk _ q r hr]
    by_cases hq : q = i
    · subst hq
      rw [List.getElem?_set_self (by omega)]
      simpa using h2 r hr
    · rw [List.getElem?_set_ne (Ne.symm hq), ← fl_get hk s q r hr, ← hA, List.getElem?_take, if_pos hj]
      have : q * k + r < i * k ∨ i * k + k ≤ q * k + r := by
        rcases Nat.lt_or_gt_of_ne hq with h | h
        · left
          have : (q + 1) * k ≤ i * k := Nat.mul_le_mul_right _ h
          rw [Nat.succ_mul] at this; omega
        · right
          have : (i + 1) * k ≤ q * k := Nat.mul_le_mul_right _ h
          rw [Nat.succ_mul] at this; omega
      simpa using h1 _ this
  · rw [List.getElem?_eq_none (by simp; omega), List.getElem?_eq_none (by rw [fl_len hk, List.length_set, hn]; exact hj)]
end

/-! ### What one owns -/
section
variable {w w' : World} {base n size : Nat} {t : TypeId} {v : Value} {xs : List Value}
theorem own_same (h : w.ownsRow base t size v n xs) (hb : ∀ q, v.ownBlock = some q → w'.heap[q]? = w.heap[q]?) : w'.ownsRow base t size v n xs := by
  refine ⟨h.1, ?_⟩
  rcases h.2 with h | ⟨g, cap, cur, e, hg, hblk, r⟩
  · exact Or.inl h
  · exact Or.inr ⟨g, cap, cur, e, hg, (hb g (by rw [e]; rfl)).trans hblk, r⟩
theorem own_keep (h : w.ownsRow base t size v n xs) (hb : Below w.heap.size w w') : w'.ownsRow base t size v n xs :=
  own_same h fun q hq => hb.block q (h.lt q hq).2
theorem own_v (h : w.ownsRow base t size v n xs) : (v = .slice none 0 0 ∧ n = 0) ∨ ∃ q cap, v = .slice (some ⟨q, 0, none⟩) n cap ∧ n ≤ cap := by
  rcases h.2 with h | ⟨g, cap, cur, e, _, _, h1, _⟩
  · exact Or.inl h
  · exact Or.inr ⟨g, cap, e, h1⟩
theorem own_blk {q : Nat} (h : w.ownsRow base t size v n xs) (hq : v.ownBlock = some q) : ∃ A cap, Blk w q t A ∧ v = .slice (some ⟨q, 0, none⟩) n cap ∧ n ≤ cap ∧ cap ≤ maxLen ∧ A.size = cap * size ∧ A.toList.take (n * size) = xs := by
  rcases h.2 with ⟨h, _⟩ | ⟨g, cap, cur, e, hg, hblk, h1, h2, h3, h4⟩
  · rw [h] at hq; cases hq
  · rw [e] at hq
    have : g = q := by simpa [Value.ownBlock] using hq
    subst this
    exact ⟨cur, cap, hblk, e, h1, h2, h3, h4⟩
theorem own_cell {q j : Nat} {u : Value} (h : w.ownsRow base t size v n xs) (hq : v.ownBlock = some q) (hu : xs[j]? = some u) : w.cell? ⟨q, j, none⟩ = some u := by
  obtain ⟨A, cap, hb, _, _, _, _, e⟩ := own_blk h hq
  rw [← e] at hu
  rw [List.getElem?_take] at hu
  split at hu
  · rw [cell_block hb]; simpa using hu
  · cases hu
theorem own_weak {b2 : Nat} (h : w.ownsRow base t size v n xs) (hb : b2 ≤ base) : w.ownsRow b2 t size v n xs := by
  refine ⟨h.1, ?_⟩
  rcases h.2 with h | ⟨g, cap, cur, e, hg, r⟩
  · exact Or.inl h
  · exact Or.inr ⟨g, cap, cur, e, Nat.le_trans hb hg, r⟩
end
section
variable {α : Type} {c : α → List Value} {k : Nat} {w : World} {base n : Nat} {t : TypeId} {v : Value}
/-- A thing of a row, as cells. -/
theorem own_range (hk : ∀ x, (c x).length = k) {s : List α} {i q : Nat} {x : α} (h : w.ownsRow base t k v n (fl c s)) (hq : v.ownBlock = some q) (hx : s[i]? = some x) : w.rangeAt q (i * k) (c x) := fun _ _ hu =>
  own_cell h hq (fl_at hk hx hu)
end

/-! ### What is as it was -/
/-- All but a block, and perhaps another one. -/
structure Chg (g : Nat) (o : Option Nat) (w w' : World) : Prop where
  os : w'.os = w.os
  tape : w'.tape = w.tape
  output : w'.output = w.output
  size : w.heap.size ≤ w'.heap.size
  block : ∀ k, k < w.heap.size → k ≠ g → o ≠ some k → w'.heap[k]? = w.heap[k]?
/-- A row that is the same, or a new one. -/
def New (w : World) (o o' : Option Nat) : Prop := o' = o ∨ ∃ q, o' = some q ∧ w.heap.size ≤ q
section
variable {g : Nat} {o o' : Option Nat} {a b d w w' : World}
theorem Chg.refl (g : Nat) (o : Option Nat) (w : World) : Chg g o w w := ⟨rfl, rfl, rfl, Nat.le_refl _, fun _ _ _ _ => rfl⟩
theorem Chg.trans (h : Chg g o a b) (k : Chg g o' b d) (ho : New a o o') : Chg g o a d :=
  ⟨k.os.trans h.os, k.tape.trans h.tape, k.output.trans h.output, Nat.le_trans h.size k.size, fun i hi h1 h2 => (k.block i (Nat.lt_of_lt_of_le hi h.size) h1 (by
    rcases ho with rfl | ⟨q, rfl, hq⟩
    · exact h2
    · intro e; cases e; omega)).trans (h.block i hi h1 h2)⟩
theorem Chg.tr (h : Chg g o a b) (k : Chg g o b d) : Chg g o a d := h.trans k (Or.inl rfl)
theorem Chg.of_below (h : Below a.heap.size a b) : Chg g o a b := ⟨h.os, h.tape, h.output, h.size, fun k hk _ _ => h.block k hk⟩
theorem Chg.grow (h : Chg g o a b) (hb : Below b.heap.size b d) : Chg g o a d := h.tr (.of_below hb)
theorem Chg.upd (h : Upd g a b) : Chg g o a b := ⟨h.os, h.tape, h.output, h.size, fun k hk h1 _ => h.block k hk h1⟩
theorem Chg.upd_o {q : Nat} (h : Upd q a b) : Chg g (some q) a b := ⟨h.os, h.tape, h.output, h.size, fun k hk _ h2 => h.block k hk (fun e => h2 (by rw [e]))⟩
theorem Chg.grown (h : a.grownBy b o) : Chg g o a b := ⟨h.os, h.tape, h.output, h.size, fun k hk _ h2 => h.block k hk (fun e => h2 e.symm)⟩
theorem Chg.drew (h : Chg g o a b) : Chg g o a b.drew := ⟨h.os, h.tape, h.output, h.size, h.block⟩
theorem Chg.below {B : Nat} (h : Chg g o a b) (hB : B ≤ a.heap.size) (hg : B ≤ g) (ho : ∀ q, o = some q → B ≤ q) : Below B a b :=
  ⟨h.os, h.tape, h.output, h.size, fun k hk => h.block k (by omega) (by omega) (fun e => by have := ho k e; omega)⟩
theorem Chg.blk {k : Nat} {T : TypeId} {A : Array Value} (h : Chg g o a b) (hb : Blk a k T A) (h1 : k ≠ g) (h2 : o ≠ some k) : Blk b k T A := (h.block k hb.lt h1 h2).trans hb
theorem New.refl (w : World) (o : Option Nat) : New w o o := Or.inl rfl
theorem New.ne (h : New w o o') {k : Nat} (hk : k < w.heap.size) (h2 : o ≠ some k) : o' ≠ some k := by
  rcases h with rfl | ⟨q, rfl, hq⟩
  · exact h2
  · intro e; cases e; omega
theorem New.trans {o2 : Option Nat} (h : New a o o') (h' : New b o' o2) (hs : a.heap.size ≤ b.heap.size) : New a o o2 := by
  rcases h' with rfl | ⟨q, rfl, hq⟩
  · exact h
  · exact Or.inr ⟨q, rfl, by omega⟩
theorem New.ge {B : Nat} (h : New w o o') (hB : B ≤ w.heap.size) (ho : ∀ q, o = some q → B ≤ q) : ∀ q, o' = some q → B ≤ q := by
  rcases h with rfl | ⟨q, rfl, hq⟩
  · exact ho
  · intro q' e; cases e; omega
end

/-! ### A ring's state -/
structure St (α : Type) where
  room : Nat
  first : Nat
  size : Nat
  s : List α
  lost : Int
namespace St
variable {α : Type}
def place (t : St α) (i : Nat) : Nat := (t.first + i) % t.room
def drop1 (t : St α) (z : α) : St α := ⟨t.room, (t.first + 1) % t.room, t.size - 1, t.s.set t.first z, t.lost⟩
def loss (t : St α) : St α := ⟨t.room, t.first, t.size, t.s, IntKind.u64.wrap (t.lost + 1)⟩
def app (t : St α) (x : α) : St α := ⟨t.room, t.first, t.size + 1, t.s ++ [x], t.lost⟩
def put (t : St α) (x : α) : St α := ⟨t.room, t.first, t.size + 1, t.s.set (t.place t.size) x, t.lost⟩
end St
/-- It has these things. -/
structure Is {α : Type} (t : St α) (L : List α) : Prop where
  room : 0 < t.room
  first : t.first < t.room
  len : t.size = L.length
  le : t.size ≤ t.room
  sl : t.s.length ≤ t.room
  way : t.s.length = t.room ∨ t.first + t.size = t.s.length
  get : ∀ i, i < L.length → t.s[t.place i]? = L[i]?
section
variable {α : Type} {t : St α} {L : List α} {z x : α}
theorem mod_two {a m : Nat} (_ : 0 < m) (ha : a < 2 * m) : a % m = if a < m then a else a - m := by
  split
  · rename_i h; exact Nat.mod_eq_of_lt h
  · rename_i h
    rw [Nat.mod_eq_sub_mod (by omega), Nat.mod_eq_of_lt (by omega)]
theorem place_eq (h : Is t L) {i : Nat} (hi : i ≤ t.room) : t.place i = if t.first + i < t.room then t.first + i else t.first + i - t.room := by
  unfold St.place
  have := h.first
  exact mod_two h.room (by omega)
theorem Is.new {room : Nat} (h : 0 < room) : Is (⟨room, 0, 0, [], 0⟩ : St α) [] :=
  ⟨h, h, rfl, Nat.zero_le _, Nat.zero_le _, Or.inr rfl, fun i hi => by simp at hi⟩
theorem Is.place_lt (h : Is t L) {i : Nat} (hi : i < L.length) : t.place i < t.s.length := by
  have h1 := h.get i hi
  rw [List.getElem?_eq_getElem hi] at h1
  exact (List.getElem?_eq_some_iff.1 h1).1
theorem Is.place_le (h : Is t L) (hf : t.size < t.room) : t.place t.size ≤ t.s.length ∧ (t.place t.size = t.s.length → t.s.length < t.room) := by
  rw [place_eq h (by omega)]
  have := h.first; have := h.sl
  rcases h.way with h1 | h1 <;> split <;> refine ⟨by omega, by omega⟩
theorem Is.head (h : Is t L) (h0 : 0 < t.size) : t.first < t.s.length ∧ t.s[t.first]? = L[0]? := by
  have hl := h.len
  have h1 := h.get 0 (by omega)
  have e : t.place 0 = t.first := by rw [place_eq h (by omega), Nat.add_zero, if_pos h.first]
  rw [e] at h1
  refine ⟨?_, h1⟩
  have h2 : L[0]? = some (L[0]'(by omega)) := List.getElem?_eq_getElem (by omega)
  rw [h2] at h1
  exact (List.getElem?_eq_some_iff.1 h1).1
theorem Is.drop1 (h : Is t L) (h0 : 0 < t.size) (z : α) : Is (t.drop1 z) L.tail := by
  have hl := h.len
  have hf := h.first
  have hh := (h.head h0).1
  have hle := h.le
  have hsl := h.sl
  have e1 : (t.first + 1) % t.room = if t.first + 1 < t.room then t.first + 1 else 0 := by
    rw [mod_two h.room (by omega)]
    split <;> omega
  refine ⟨h.room, ?_, by simp [St.drop1, hl], by simp only [St.drop1]; omega, by simpa [St.drop1] using h.sl, ?_, fun i hi => ?_⟩
  · simp only [St.drop1]; exact Nat.mod_lt _ h.room
  · simp only [St.drop1, List.length_set]
    rw [e1]
    rcases h.way with h1 | h1
    · exact Or.inl h1
    · split
      · right; omega
      · left; omega
  · have hi' : i + 1 < L.length := by simp at hi; omega
    have g1 := h.get (i + 1) hi'
    have e2 : (t.drop1 z).place i = t.place (i + 1) := by
      unfold St.place St.drop1
      simp only
      rw [Nat.mod_add_mod]
      congr 1
      omega
    rw [e2]
    simp only [St.drop1]
    have hne : t.first ≠ t.place (i + 1) := by
      rw [place_eq h (by omega)]
      split <;> omega
    rw [List.getElem?_set_ne hne, g1, List.getElem?_tail]
theorem Is.loss (h : Is t L) : Is t.loss L := ⟨h.room, h.first, h.len, h.le, h.sl, h.way, h.get⟩
theorem Is.app (h : Is t L) (hf : t.size < t.room) (hp : t.place t.size = t.s.length) (x : α) : Is (t.app x) (L ++ [x]) := by
  have hl := h.len
  have hfi := h.first
  have hs := (h.place_le hf).2 hp
  have hw : t.first + t.size = t.s.length := by
    rcases h.way with h1 | h1
    · omega
    · exact h1
  refine ⟨h.room, hfi, by simp [St.app, hl], by simp only [St.app]; omega, by simp [St.app]; omega, Or.inr (by simp [St.app]; omega), fun i hi => ?_⟩
  have e : (t.app x).place i = t.place i := rfl
  rw [e]
  simp only [St.app]
  rcases Nat.lt_or_ge i L.length with hi2 | hi2
  · rw [List.getElem?_append_left (h.place_lt hi2), List.getElem?_append_left hi2]
    exact h.get i hi2
  · have : i = L.length := by simp at hi; omega
    subst this
    rw [← hl, hp, hl]
    simp
theorem Is.put (h : Is t L) (hf : t.size < t.room) (hp : t.place t.size < t.s.length) (x : α) : Is (t.put x) (L ++ [x]) := by
  have hl := h.len
  have hfi := h.first
  have hsl := h.sl
  have hfull : t.s.length = t.room := by
    rcases h.way with h1 | h1
    · exact h1
    · rw [place_eq h (by omega)] at hp
      split at hp <;> omega
  refine ⟨h.room, hfi, by simp [St.put, hl], by simp only [St.put]; omega, by simpa [St.put] using h.sl, Or.inl (by simpa [St.put] using hfull), fun i hi => ?_⟩
  have e : (t.put x).place i = t.place i := rfl
  rw [e]
  simp only [St.put]
  rcases Nat.lt_or_ge i L.length with hi2 | hi2
  · have hne : t.place t.size ≠ t.place i := by
      rw [place_eq h (by omega), place_eq h (by omega)]
      split <;> split <;> omega
    rw [List.getElem?_set_ne hne, List.getElem?_append_left hi2]
    exact h.get i hi2
  · have : i = L.length := by simp at hi; omega
    subst this
    rw [← hl, List.getElem?_set_self hp, hl]
    simp
end
/-- What a ring has behind Put. -/
def putL {α : Type} (room : Nat) (L : List α) (x : α) : List α := if L.length = room then L.tail ++ [x] else L ++ [x]
def putX {α : Type} (room : Nat) (L : List α) (z : α) : α := if L.length = room then L.headD z else z
def putB {α : Type} (room : Nat) (L : List α) : Bool := L.length == room
def putN {α : Type} (room : Nat) (L : List α) (lost : Int) : Int := if L.length = room then IntKind.u64.wrap (lost + 1) else lost

/-- A ring in memory: its block, its row. -/
structure RgA {α : Type} (TR T : TypeId) (k : Nat) (c : α → List Value) (w : World) (g : Nat) (v : Value) (t : St α) : Prop where
  blk : Blk w g TR #[v, .int .i64 t.room, .int .i64 t.first, .int .i64 t.size, .int .u64 t.lost]
  own : w.ownsRow 0 T k v t.s.length (fl c t.s)
  ne : v.ownBlock ≠ some g
structure RgI {α : Type} (TR T : TypeId) (k : Nat) (c : α → List Value) (w : World) (g : Nat) (o : Option Nat) (room : Nat) (L : List α) (lost : Int) : Prop where
  ex : ∃ v t, RgA TR T k c w g v t ∧ v.ownBlock = o ∧ Is t L ∧ t.room = room ∧ t.lost = lost
section
variable {α : Type} {TR T : TypeId} {k : Nat} {c : α → List Value} {w w' : World} {g : Nat} {v : Value} {t : St α} {o : Option Nat} {room : Nat} {L : List α} {lost : Int}
theorem RgA.lt (h : RgA TR T k c w g v t) : g < w.heap.size := h.blk.lt
theorem RgA.keep (h : RgA TR T k c w g v t) (hb : Below w.heap.size w w') : RgA TR T k c w' g v t := ⟨h.blk.keep hb, own_keep h.own hb, h.ne⟩
theorem RgA.drew (h : RgA TR T k c w g v t) : RgA TR T k c w.drew g v t := ⟨h.blk, own_same h.own (fun _ _ => rfl), h.ne⟩
theorem RgA.chg {g' : Nat} {o' : Option Nat} (h : RgA TR T k c w g v t) (hc : Chg g' o' w w') (h1 : g ≠ g') (h2 : o' ≠ some g) (h3 : v.ownBlock ≠ some g') (h4 : ∀ q, v.ownBlock = some q → o' ≠ some q) : RgA TR T k c w' g v t :=
  ⟨hc.blk h.blk h1 h2, own_same h.own (fun q hq => hc.block q (h.own.lt q hq).2 (fun e => h3 (by rw [hq, e])) (h4 q hq)), h.ne⟩
theorem RgI.keep (h : RgI TR T k c w g o room L lost) (hb : Below w.heap.size w w') : RgI TR T k c w' g o room L lost := by
  obtain ⟨v, t, h1, h2⟩ := h.ex
  exact ⟨v, t, h1.keep hb, h2⟩
theorem RgI.chg {g' : Nat} {o' : Option Nat} (h : RgI TR T k c w g o room L lost) (hc : Chg g' o' w w') (h1 : g ≠ g') (h2 : o' ≠ some g) (h3 : o ≠ some g') (h4 : ∀ q, o = some q → o' ≠ some q) : RgI TR T k c w' g o room L lost := by
  obtain ⟨v, t, a, rfl, b⟩ := h.ex
  exact ⟨v, t, a.chg hc h1 h2 h3 h4, rfl, b⟩
theorem RgI.lt (h : RgI TR T k c w g o room L lost) : g < w.heap.size := by
  obtain ⟨v, t, h1, h2⟩ := h.ex
  exact h1.lt
theorem RgI.o_lt (h : RgI TR T k c w g o room L lost) : ∀ q, o = some q → q < w.heap.size := by
  obtain ⟨v, t, h1, rfl, _⟩ := h.ex
  exact fun q hq => (h1.own.lt q hq).2
theorem RgI.ne (h : RgI TR T k c w g o room L lost) : o ≠ some g := by
  obtain ⟨v, t, h1, rfl, _⟩ := h.ex
  exact h1.ne
theorem RgI.le (h : RgI TR T k c w g o room L lost) : L.length ≤ room ∧ 0 < room := by
  obtain ⟨v, t, _, _, i, rfl, _⟩ := h.ex
  exact ⟨by rw [← i.len]; exact i.le, i.room⟩
end

section
variable {α : Type} {TR T : TypeId} {k : Nat} {c : α → List Value} {w w' : World} {g : Nat} {o : Option Nat} {room : Nat} {L : List α} {lost : Int}
/-- A ring's parts. -/
theorem RgI.flat (h : RgI TR T k c w g o room L lost) : ∃ (v : Value) (first : Nat) (s : List α), Blk w g TR #[v, .int .i64 room, .int .i64 first, .int .i64 L.length, .int .u64 lost] ∧ w.ownsRow 0 T k v s.length (fl c s) ∧ v.ownBlock = o ∧ o ≠ some g ∧ Is ⟨room, first, L.length, s, lost⟩ L := by
  obtain ⟨v, ⟨r, f, z, s, l⟩, ⟨h1, h2, h3⟩, rfl, hI, rfl, rfl⟩ := h.ex
  have hz : z = L.length := hI.len
  subst hz
  exact ⟨v, f, s, h1, h2, rfl, h3, hI⟩
theorem RgI.of {v : Value} {first : Nat} {s : List α} (h1 : Blk w g TR #[v, .int .i64 room, .int .i64 (first : Nat), .int .i64 L.length, .int .u64 lost]) (h2 : w.ownsRow 0 T k v s.length (fl c s)) (h3 : v.ownBlock = o) (h4 : o ≠ some g) (h5 : Is ⟨room, first, L.length, s, lost⟩ L) : RgI TR T k c w g o room L lost :=
  ⟨v, ⟨room, first, L.length, s, lost⟩, ⟨h1, h2, by rw [h3]; exact h4⟩, h3, h5, rfl, rfl⟩
end
section
variable {α : Type} {room : Nat} {L : List α} {x z : α} {lost : Int}
theorem putL_yes (h : L.length = room) : putL room L x = L.tail ++ [x] := by unfold putL; rw [if_pos h]
theorem putL_no (h : ¬ L.length = room) : putL room L x = L ++ [x] := by unfold putL; rw [if_neg h]
theorem putX_yes (h : L.length = room) : putX room L z = L.headD z := by unfold putX; rw [if_pos h]
theorem putX_no (h : ¬ L.length = room) : putX room L z = z := by unfold putX; rw [if_neg h]
theorem putB_yes (h : L.length = room) : putB room L = true := by unfold putB; simpa using h
theorem putB_no (h : ¬ L.length = room) : putB room L = false := by unfold putB; simpa using h
theorem putN_yes (h : L.length = room) : putN room L lost = IntKind.u64.wrap (lost + 1) := by unfold putN; rw [if_pos h]
theorem putN_no (h : ¬ L.length = room) : putN room L lost = lost := by unfold putN; rw [if_neg h]
end
theorem Blk.keep_chg {w W : World} {g : Nat} {T : TypeId} {A : Array Value} {o : Option Nat} (h : Blk w g T A) (hg : w.grownBy W o) (hne : o ≠ some g) : Blk W g T A := (hg.block g h.lt (fun e => hne e.symm)).trans h
theorem rg_dn {B n : Nat} {a w : World} (h : Below B a w) : Below B a (w.drewN n) := ⟨h.os, h.tape, h.output, h.size, h.block⟩
/-- How many go. -/
def dropN (n : Int) (len : Nat) : Nat := if n < 0 then 0 else if n < len then n.toNat else len
theorem dropN_one {n : Nat} (h : 0 < n) : dropN 1 n = 1 := by unfold dropN; split <;> (try split) <;> omega
theorem dropN_le (n : Int) (len : Nat) : dropN n len ≤ len := by unfold dropN; split <;> (try split) <;> omega
theorem dropN_max (n : Int) (len : Nat) {r : Int} (h : (if (len : Int) < n then (len : Int) else n) = r) : (if (0 : Int) < r then r else 0) = (dropN n len : Nat) := by
  subst h
  unfold dropN
  split <;> split <;> (try split) <;> (try split) <;> omega
/-- One thing of a row is written over. -/
theorem own_put {α : Type} {c : α → List Value} {k : Nat} (hk : ∀ x, (c x).length = k) (h0 : 0 < k) {w W : World} {base q i : Nat} {t : TypeId} {v : Value} {s : List α} {x : α} {A B : Array Value} {cap : Nat} (_ : w.ownsRow base t k v s.length (fl c s)) (_ : v.ownBlock = some q)
    (hv : v = .slice (some ⟨q, 0, none⟩) s.length cap) (hb : base ≤ q) (hA : A.size = cap * k) (hAt : A.toList.take (s.length * k) = fl c s) (hc : s.length ≤ cap) (hm : cap ≤ maxLen) (hi : i < s.length) (hW : Blk W q t B) (hs : B.size = A.size)
    (h1 : ∀ j, j < i * k ∨ i * k + k ≤ j → B[j]? = A[j]?) (h2 : ∀ j, j < k → B[i * k + j]? = (c x)[j]?) : W.ownsRow base t k v (s.set i x).length (fl c (s.set i x)) := by
  have hle : s.length * k ≤ A.size := by rw [hA]; exact Nat.mul_le_mul_right _ hc
  refine ⟨by rw [fl_len hk], Or.inr ⟨q, cap, B, by rw [hv, List.length_set], hb, hW, by rw [List.length_set]; exact hc, hm, by rw [hs, hA], ?_⟩⟩
  rw [List.length_set]
  exact fl_set hk h0 hAt rfl hi hs hle h1 h2
/-! ### Operations -/
section
variable {P : Program} {ops : Array Oper} {rest : List Oper} {op : Oper} {a : Act} {w : World} {Q : Exit → Act → World → Prop} {K : Act → World → Prop} {E : Prop} {S : World → Prop}
theorem run_ix {t e : TypeId} {B n cap k i : Nat} (h : P.underlying t = some (.slice e)) (hs : (P.info? e).map (·.size) = some k) (hi : i < n) (hn : n ≤ 9223372036854775807) (w : World) :
    (Instr.indexAt t (.slice (some ⟨B, 0, none⟩) n cap) (.int .i64 i)).run P w = .ok (.pointer (some ⟨B, i * k, none⟩)) w := by
  have h1 : (i : Int) < n := by omega
  have h2 : IntKind.i64.wrap (i : Int) = i := by rw [IntKind.wrap_i64]; omega
  cases hq : P.info? e with
  | none => simp [hq] at hs
  | some inf =>
    have h3 : inf.size = k := by simpa [hq] using hs
    have hadd : (⟨B, 0, none⟩ : Addr).add (i * k) = ⟨B, i * k, none⟩ := by unfold Addr.add; split <;> simp_all
    simp [Instr.indexAt, asIntOf, Sem.run_bind, run_underlying h, sizeOf, typeInfo, hq, h3, hadd]
    intro hx
    omega
theorem wl_ix {t e : TypeId} {x y : Operand} {B n cap k i : Nat} (ho : op.op = .indexAddr t x y) (hw : Region.wanted op (yielded ops a.tmps) = true) (hx : a.eval x = .slice (some ⟨B, 0, none⟩) n cap) (hy : a.eval y = .int .i64 i)
    (h : P.underlying t = some (.slice e)) (hs : (P.info? e).map (·.size) = some k) (hi : i < n) (hn : n ≤ 9223372036854775807)
    (hr : wpList P ops Q rest (a.put op.dst (.pointer (some ⟨B, i * k, none⟩))) w) : wpList P ops Q (op :: rest) a w := by
  refine wl_ok hw ?_ hr
  unfold execOp
  simp only [ho, hx, hy, Sem.run_bind, run_ix h hs hi hn, Result.andThen_ok, Sem.run_pure]
theorem yi_ix {t e : TypeId} {x y : Operand} {B n cap k i : Nat} (ho : op.op = .indexAddr t x y) (hw : Region.wanted op (yielded ops a.tmps) = true) (hx : a.eval x = .slice (some ⟨B, 0, none⟩) n cap) (hy : a.eval y = .int .i64 i)
    (h : P.underlying t = some (.slice e)) (hs : (P.info? e).map (·.size) = some k) (hi : i < n) (hn : n ≤ 9223372036854775807) : YieldsIf P ops S op (.pointer (some ⟨B, i * k, none⟩)) a := by
  refine yi_ok hw fun w => ?_
  unfold execOp
  simp only [ho, hx, hy, Sem.run_bind, run_ix h hs hi hn, Result.andThen_ok, Sem.run_pure]
/-- One cell is read, of whatever block. -/
theorem wl_ldc {ty : TypeId} {x : Operand} {g o : Nat} {d : TypeDesc} {v : Value} (ho : op.op = .load ty x) (hw : Region.wanted op (yielded ops a.tmps) = true) (hx : a.eval x = .pointer (some ⟨g, o, none⟩)) (hc : w.cell? ⟨g, o, none⟩ = some v)
    (hu : P.underlying ty = some d) (hd : d.isRow = false)
    (h : wpList P ops Q rest (a.put op.dst v) w) : wpList P ops Q (op :: rest) a w := by
  refine wl_ok hw ?_ h
  have hagg : (isAgg ty).run P w = .ok false w := by
    unfold isAgg
    rw [Sem.run_bind, run_underlying hu w]
    cases d <;> simp_all
  unfold execOp
  simp [ho, hx, Instr.loadAt, Instr.sureAddr, Sem.run_bind, loadVar, hagg, hc]
/-- How many a slice has. -/
theorem wl_len {x : Operand} {t e : TypeId} {v : Value} {n : Nat} (ho : op.op = .call { callee := .builtin .len, args := #[x], argTypes := #[t] }) (hw : Region.wanted op (yielded ops a.tmps) = true) (hx : a.eval x = v) (ht : P.underlying t = some (.slice e)) (hv : (v = .slice none 0 0 ∧ n = 0) ∨ ∃ q cap, v = .slice (some ⟨q, 0, none⟩) n cap ∧ n ≤ cap)
    (h : wpList P ops Q rest (a.put op.dst (.int .i64 n)) w) : wpList P ops Q (op :: rest) a w := by
  refine wl_ok hw ?_ h
  unfold execOp
  rcases hv with ⟨rfl, rfl⟩ | ⟨q, cap, rfl, _⟩
  · cases x <;> simp [Act.eval] at hx <;> simp [ho, hx, Act.eval, resolve, invoke, builtin, Builtin.len_, Sem.run_bind, run_underlying ht, goInt]
  · cases x <;> simp [Act.eval] at hx <;> simp [ho, hx, Act.eval, resolve, invoke, builtin, Builtin.len_, Sem.run_bind, run_underlying ht, goInt]
/-- Two numbers are added. -/
theorem add_u64 (m n : Int) (w : World) : (binOp .add 25 (.int .u64 m) (.int .u64 n)).run Try.prog w = .ok (.int .u64 (IntKind.u64.wrap (m + n))) w := by
  go_simp
/-- The smaller, the greater of two numbers. -/
theorem wl_mn {x y : Operand} {ts : Array TypeId} {m n : Int} (ho : op.op = .call { callee := .builtin .min, args := #[x, y], argTypes := ts }) (hw : Region.wanted op (yielded ops a.tmps) = true) (hx : a.eval x = .int .i64 m) (hy : a.eval y = .int .i64 n)
    {r : Int} (hr : (if n < m then n else m) = r) (h : wpList P ops Q rest (a.put op.dst (.int .i64 r)) w) : wpList P ops Q (op :: rest) a w := by
  subst hr
  refine wl_ok hw ?_ h
  unfold execOp
  cases x <;> cases y <;> simp [Act.eval] at hx hy <;> simp [ho, hx, hy, Act.eval, resolve, invoke, go_sem]
theorem wl_mx {x y : Operand} {ts : Array TypeId} {m n : Int} (ho : op.op = .call { callee := .builtin .max, args := #[x, y], argTypes := ts }) (hw : Region.wanted op (yielded ops a.tmps) = true) (hx : a.eval x = .int .i64 m) (hy : a.eval y = .int .i64 n)
    {r : Int} (hr : (if m < n then n else m) = r) (h : wpList P ops Q rest (a.put op.dst (.int .i64 r)) w) : wpList P ops Q (op :: rest) a w := by
  subst hr
  refine wl_ok hw ?_ h
  unfold execOp
  cases x <;> cases y <;> simp [Act.eval] at hx hy <;> simp [ho, hx, hy, Act.eval, resolve, invoke, go_sem]
/-- In a drawn region: a value of k cells is written into a block, from o on. -/
theorem wq_st {ty : TypeId} {x y : Operand} {g o k : Nat} {T : TypeId} {A : Array Value} {v : Value} (ho : op.op = .store ty x y) (hw : Region.wanted op (yielded ops a.tmps) = true) (hx : a.eval x = .pointer (some ⟨g, o, none⟩)) (hy : a.eval y = v) (hb : Blk w g T A)
    (hi : (P.info? ty).map (·.size) = some k) (hk : v.cells.size = k) (h1 : v.cells.all (·.oneCell') = true) (hn : o + k ≤ A.size)
    (h : ∀ (W : World) (B : Array Value), Blk W g T B → B.size = A.size → (∀ j, j < o ∨ o + k ≤ j → B[j]? = A[j]?) → (∀ j, j < k → B[o + j]? = v.cells[j]?) → Upd g w W → K (a.put op.dst undef) W) :
    if Region.wanted op (yielded ops a.tmps) then op.wp P a w K Q else E := by
  subst hk
  obtain ⟨B, b1, b2, b3, b4⟩ := setCells_part (w := w) v.cells.toList o w A hb (by simpa using hn)
  have := run_storeVar_any (P := P) w g o ty v (hb.there o _ hn) hi h1
  rw [if_pos hw]
  unfold Oper.wp execOp
  simp only [ho, hx, hy, Instr.storeAt, Instr.sureAddr, Sem.run_bind, Sem.run_pure, Result.andThen_ok, this]
  exact h _ B b1 b2 (fun j hj => b3 j (by simpa using hj)) (fun j hj => by rw [b4 j (by simpa using hj)]; simp) (setCells_upd g _ o w)
/-- The same, one operation after another. -/
theorem wl_stq {ty : TypeId} {x y : Operand} {g o k : Nat} {T : TypeId} {A : Array Value} {v : Value} (ho : op.op = .store ty x y) (hw : Region.wanted op (yielded ops a.tmps) = true) (hx : a.eval x = .pointer (some ⟨g, o, none⟩)) (hy : a.eval y = v) (hb : Blk w g T A)
    (hi : (P.info? ty).map (·.size) = some k) (hk : v.cells.size = k) (h1 : v.cells.all (·.oneCell') = true) (hn : o + k ≤ A.size)
    (h : ∀ (W : World) (B : Array Value), Blk W g T B → B.size = A.size → (∀ j, j < o ∨ o + k ≤ j → B[j]? = A[j]?) → (∀ j, j < k → B[o + j]? = v.cells[j]?) → Upd g w W → wpList P ops Q rest (a.put op.dst undef) W) : wpList P ops Q (op :: rest) a w := by
  subst hk
  obtain ⟨B, b1, b2, b3, b4⟩ := setCells_part (w := w) v.cells.toList o w A hb (by simpa using hn)
  have := run_storeVar_any (P := P) w g o ty v (hb.there o _ hn) hi h1
  refine wl_skip hw ?_ (h _ B b1 b2 (fun j hj => b3 j (by simpa using hj)) (fun j hj => by rw [b4 j (by simpa using hj)]; simp) (setCells_upd g _ o w))
  unfold execOp
  simp only [ho, hx, hy, Instr.storeAt, Instr.sureAddr, Sem.run_bind, Sem.run_pure, Result.andThen_ok, this]
end
section
variable {P : Program} {ops : Array Oper} {Q : Exit → Act → World → Prop} {md : Region.Mode} {S : World → Prop} {op : Oper} {a : Act}
/-- In a drawn region: the one operation that may come up now. -/
theorem anyH_one {i fuel : Nat} {listed : Array Bool} {w : World} (hrd : Region.ready md ops listed = [i]) (hi : ops[i]? = some op)
    (h : ∀ K' : Act → World → Prop, (∀ a' w', S w' → (S w' → wpAnyH P md ops Q S fuel (listed.setIfInBounds i true) a' w') → K' a' w') → if Region.wanted op (yielded ops a.tmps) = true then op.wp P a w K' Q else K' (a.put op.dst undef) w) : wpAnyH P md ops Q S (fuel + 1) listed a w :=
  wpAnyH_ready hrd (by simp) (AllReadyH.cons hi (fun K' hK => h K' (fun a' w' hs hk => hK.out a' w' hs hk)) AllReadyH.nil)
end
end Go.Proofs.Ytohkioakipjanaa
