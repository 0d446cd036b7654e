/-
  A DRAWN REGION WITH ONE VARIABLE ('x, err := f(g(..), a.b)'): what holds meanwhile, whatever has come up: the variable's block, all else as it was.
-/
import Derived.Test.YtkoiogfhbipmjaaChecked
import Derived.WalkKit
import Derived.BigQuiet
import Derived.Deep.QuietTactic
import Derived.Handy
import Derived.Lib.Hide
import Derived.Deep.RegionHeld3
import Derived.Deep.MidRow
import Derived.Deep.Cut
import Derived.LoopTactic
namespace Go.Proofs.Ytkoiogfhbipmjaa
open Go Go.RowKit

section
variable {P : Program} {ops : Array Oper} {Q : Exit → Act → World → Prop} {md : Region.Mode}
theorem fl_spec {listed : Array Bool} {i : Nat} (h : i ∈ Region.ready md ops listed) :
    i < ops.size ∧ listed.getD i true = false ∧ ∀ o, ops[i]? = some o → o.after.all (fun e => !Region.binds md e || listed.getD e.on false) = true := by
  unfold Region.ready at h
  rw [List.mem_filter, List.mem_range] at h
  obtain ⟨h1, h2⟩ := h
  rw [Bool.and_eq_true] at h2
  refine ⟨h1, by simpa using h2.1, fun o ho => ?_⟩
  have h3 := h2.2
  rw [ho] at h3
  exact h3
theorem fl_in {listed : Array Bool} {i : Nat} {o : Oper} (ho : ops[i]? = some o) (hl : listed.getD i true = false) (ha : o.after.all (fun e => !Region.binds md e || listed.getD e.on false) = true) : i ∈ Region.ready md ops listed := by
  unfold Region.ready
  rw [List.mem_filter, List.mem_range]
  refine ⟨(Array.getElem?_eq_some_iff.1 ho).1, ?_⟩
  rw [Bool.and_eq_true]
  refine ⟨by rw [hl]; rfl, ?_⟩
  rw [ho]
  exact ha
/-- How many have not come up. -/
def flLeft (listed : Array Bool) : Nat := listed.toList.count false
theorem flLeft_set {listed : Array Bool} {i : Nat} (hl : listed.getD i true = false) : flLeft (listed.setIfInBounds i true) + 1 = flLeft listed := by
  have hi : i < listed.size := by
    rcases Nat.lt_or_ge i listed.size with h | h
    · exact h
    · rw [Array.getD_eq_getD_getElem?, Array.getElem?_eq_none h] at hl; cases hl
  have hi' : i < listed.toList.length := by simpa using hi
  have e : listed.toList[i] = false := by
    rw [Array.getD_eq_getD_getElem?, Array.getElem?_eq_getElem hi] at hl
    simpa using hl
  have h0 : 0 < listed.toList.count false := List.count_pos_iff.2 (by rw [← e]; exact List.getElem_mem _)
  have h1 : (listed.setIfInBounds i true).toList.count false = listed.toList.count false - 1 := by
    rw [Array.toList_setIfInBounds, List.count_set hi', e]
    rfl
  unfold flLeft
  omega
theorem fl_any (J : Array Bool → Act → World → Prop)
    (hstep : ∀ listed a w i, J listed a w → i ∈ Region.ready md ops listed → wpOp P ops Q i (fun a' w' => J (listed.setIfInBounds i true) a' w') a w)
    (hend : ∀ listed a w, J listed a w → Region.ready md ops listed = [] → Q .normal a w) :
    ∀ (fuel : Nat) (listed : Array Bool) (a : Act) (w : World), flLeft listed ≤ fuel → J listed a w → wpAny P md ops Q fuel listed a w
  | 0, listed, a, w, hf, hJ => by
    have hr : Region.ready md ops listed = [] := by
      cases hr : Region.ready md ops listed with
      | nil => rfl
      | cons i l =>
        have h := (fl_spec (md := md) (ops := ops) (listed := listed) (i := i) (by rw [hr]; exact List.mem_cons_self)).2.1
        have := flLeft_set h
        omega
    exact ⟨hr, hend listed a w hJ hr⟩
  | fuel + 1, listed, a, w, hf, hJ =>
    ⟨hend listed a w hJ, fun i hi => wpOp_mono (fun a' w' hJ' => fl_any J hstep hend fuel _ a' w' (by have := flLeft_set (fl_spec hi).2.1; omega) hJ') (hstep listed a w i hJ hi)⟩
/-- THE LAW: an invariant of what has come up, of the state, and of the world. -/
theorem wp_region_fl (J : Array Bool → Act → World → Prop) {id : Nat} {a : Act} {w : World} (hm : P.follows .mixedOrders = true)
    (h0 : J (Array.replicate ops.size false) a w.drew)
    (hstep : ∀ listed a w i, J listed a w → i ∈ Region.ready .any ops listed → wpOp P ops Q i (fun a' w' => J (listed.setIfInBounds i true) a' w') a w)
    (hend : ∀ listed a w, J listed a w → Region.ready .any ops listed = [] → Q .normal a w) : (Code.region id ops true).wp P Q a w :=
  wp_region_any hm (fl_any J hstep hend _ _ _ _ (by unfold flLeft; simp) h0)
end

/-- What is as it was, but for one block. -/
structure Upd (g : Nat) (w w' : World) : Prop where
  os : w'.os = w.os
  tape : w'.tape = w.tape
  output : w'.output = w.output
  size : w.heap.size ≤ w'.heap.size
  block : ∀ k, k < w.heap.size → k ≠ g → w'.heap[k]? = w.heap[k]?
section
variable {g : Nat} {a b c w w' : World}
theorem Upd.refl (g : Nat) (w : World) : Upd g w w := ⟨rfl, rfl, rfl, Nat.le_refl _, fun _ _ _ => rfl⟩
theorem Upd.trans (h : Upd g a b) (k : Upd g b c) : Upd g a c :=
  ⟨k.os.trans h.os, k.tape.trans h.tape, k.output.trans h.output, Nat.le_trans h.size k.size, fun i hi hs => (k.block i (Nat.lt_of_lt_of_le hi h.size) hs).trans (h.block i hi hs)⟩
theorem Upd.of_below (h : Below a.heap.size a w) : Upd g a w := ⟨h.os, h.tape, h.output, h.size, fun k hk _ => h.block k hk⟩
theorem Upd.grow (h : Upd g a w) (hb : Below w.heap.size w w') : Upd g a w' := h.trans (.of_below hb)
theorem Upd.drew (h : Upd g a w) : Upd g a w.drew := ⟨h.os, h.tape, h.output, h.size, h.block⟩
theorem Upd.below {B : Nat} (h : Upd g a w) (hB : B ≤ a.heap.size) (hg : B ≤ g) : Below B a w := ⟨h.os, h.tape, h.output, h.size, fun k hk => h.block k (by omega) (by omega)⟩
theorem Upd.move {g' : Nat} (h : Upd g a w) (hg : a.heap.size ≤ g) : Upd g' a w := .of_below (h.below (Nat.le_refl _) hg)
theorem Upd.keep {k : Nat} {o : Obj} (h : Upd g a w) (hb : a.heap[k]? = some o) (hk : k ≠ g) : w.heap[k]? = some o := (h.block k (Array.getElem?_eq_some_iff.1 hb).1 hk).trans hb
end
theorem setCells_upd (g : Nat) : ∀ (vs : List Value) (o : Nat) (w : World), Upd g w (w.setCells g o vs)
  | [], _, w => Upd.refl g w
  | v :: r, o, w => by
    refine Upd.trans ?_ (setCells_upd g r (o + 1) (w.setCell ⟨g, o, none⟩ v))
    exact ⟨rfl, rfl, rfl, by simp [World.setCell], fun k _ hk => Below.heap_setCell _ _ _ _ hk⟩
theorem set_block {w : World} {g i : Nat} {cs : Array Value} {t : TypeId} {fr : Nat × Nat} (h : w.heap[g]? = some (.cells cs t fr)) (v : Value) : (w.setCell ⟨g, i, none⟩ v).heap[g]? = some (.cells (cs.set! i v) t fr) := by
  simp only [World.setCell, Array.getElem?_modify, if_pos, h]
  rfl
theorem setCells_block {g : Nat} {t : TypeId} {fr : Nat × Nat} : ∀ (vs : List Value) (o : Nat) (w : World) (cs : Array Value), w.heap[g]? = some (.cells cs t fr) → cs.size = o + vs.length →
    ∃ cs' : Array Value, (w.setCells g o vs).heap[g]? = some (.cells cs' t fr) ∧ cs'.size = cs.size ∧ (∀ j, j < o → cs'[j]? = cs[j]?) ∧ (∀ j, j < vs.length → cs'[o + j]? = vs[j]?)
  | [], o, w, cs, h, hs => ⟨cs, h, rfl, fun _ _ => rfl, fun j hj => by simp at hj⟩
  | v :: r, o, w, cs, h, hs => by
    have h1 := set_block (i := o) h v
    obtain ⟨cs', a1, a2, a3, a4⟩ := setCells_block r (o + 1) (w.setCell ⟨g, o, none⟩ v) (cs.set! o v) h1 (by simp at hs ⊢; omega)
    refine ⟨cs', a1, by rw [a2]; simp, fun j hj => ?_, fun j hj => ?_⟩
    · rw [a3 j (by omega)]
      simp only [Array.set!_eq_setIfInBounds]
      rw [Array.getElem?_setIfInBounds_ne (by omega)]
    · match j with
      | 0 =>
        have := a3 o (by omega)
        rw [Nat.add_zero, this]
        simp only [Array.set!_eq_setIfInBounds]
        rw [Array.getElem?_setIfInBounds_self]
        rw [if_pos (by simp at hs; omega)]
        rfl
      | k + 1 =>
        have := a4 k (by simpa using hj)
        rw [show o + (k + 1) = o + 1 + k by omega, this]
        rfl
/-- A whole block written over. -/
theorem setCells_whole {w : World} {g : Nat} {t : TypeId} {fr : Nat × Nat} {cs V : Array Value} (h : w.heap[g]? = some (.cells cs t fr)) (hs : cs.size = V.size) : (w.setCells g 0 V.toList).heap[g]? = some (.cells V t fr) := by
  obtain ⟨cs', a1, a2, _, a4⟩ := setCells_block V.toList 0 w cs h (by simp [hs])
  have : cs' = V := by
    refine Array.ext_getElem? fun j => ?_
    rcases Nat.lt_or_ge j V.size with hj | hj
    · have := a4 j (by simpa using hj)
      rw [Nat.zero_add] at this
      rw [this]
      simp
    · rw [Array.getElem?_eq_none (by omega), Array.getElem?_eq_none hj]
  rw [a1, this]
theorem there_block {w : World} {g n : Nat} {t : TypeId} {cs : Array Value} (h : w.heap[g]? = some (.cells cs t (0, 0))) (hn : n = cs.size) : w.there g 0 n := fun j hj => by
  rw [Nat.zero_add]
  refine ⟨?_, by simp [World.frozen?, h]⟩
  have : w.cell? ⟨g, j, none⟩ = cs[j]? := by simp [World.cell?, h]
  rw [this, Array.getElem?_eq_getElem (by omega)]
  rfl
theorem range_block {w : World} {g : Nat} {t : TypeId} {fr : Nat × Nat} {cs : Array Value} (h : w.heap[g]? = some (.cells cs t fr)) : w.rangeAt g 0 cs.toList := fun j v hv => by
  have : w.cell? ⟨g, j, none⟩ = cs[j]? := by simp [World.cell?, h]
  rw [Nat.zero_add, this]; simpa using hv
theorem cell_block {w : World} {g : Nat} {t : TypeId} {fr : Nat × Nat} {cs : Array Value} (h : w.heap[g]? = some (.cells cs t fr)) (i : Nat) : w.cell? ⟨g, i, none⟩ = cs[i]? := by simp [World.cell?, h]
theorem free_block {w : World} {g : Nat} {t : TypeId} {cs : Array Value} (h : w.heap[g]? = some (.cells cs t (0, 0))) (i : Nat) : w.frozen? ⟨g, i, none⟩ = false := by simp [World.frozen?, h]
theorem block_new (w : World) (o : Obj) : (w.alloc o).heap[w.heap.size]? = some o := by
  show (w.heap.push o)[w.heap.size]? = _
  simp

/-- What holds when these of a region's operations have come up: the variable is made (bk), and written (bm). -/
structure FJ (B : Nat) (w0 W : World) (T : TypeId) (Z V : Array Value) (bk bm : Bool) (xk : Value) (g : Nat) : Prop where
  upd : Upd g w0 W
  low : B ≤ g
  var : bk = true → xk = .pointer (some ⟨g, 0, none⟩) ∧ W.heap[g]? = some (.cells (if bm then V else Z) T (0, 0))
  ord : bm = true → bk = true
section
variable {B g : Nat} {w0 W W' : World} {T : TypeId} {Z V : Array Value} {bk bm : Bool} {xk : Value}
theorem FJ.start (w0 : World) (T : TypeId) (Z V : Array Value) {x : Value} : FJ w0.heap.size w0 w0.drew T Z V false false x w0.heap.size := ⟨(Upd.refl _ _).drew, Nat.le_refl _, nofun, nofun⟩
theorem FJ.start_old {w0 : World} {T : TypeId} {Z : Array Value} (V : Array Value) {B g : Nat} (h : w0.heap[g]? = some (.cells Z T (0, 0))) (hB : B ≤ g) : FJ B w0 w0.drew T Z V true false (.pointer (some ⟨g, 0, none⟩)) g := ⟨(Upd.refl _ _).drew, hB, fun _ => ⟨rfl, h⟩, fun _ => rfl⟩
theorem FJ.grow (h : FJ B w0 W T Z V bk bm xk g) (hb : Below W.heap.size W W') : FJ B w0 W' T Z V bk bm xk g :=
  ⟨h.upd.grow hb, h.low, fun k => by
    obtain ⟨e, b⟩ := h.var k
    exact ⟨e, (hb.block g (Array.getElem?_eq_some_iff.1 b).1).trans b⟩, h.ord⟩
theorem FJ.alloc (h : FJ w0.heap.size w0 W T Z V false bm xk g) : FJ w0.heap.size w0 (W.alloc (.cells Z T)) T Z V true bm (.pointer (some ⟨W.heap.size, 0, none⟩)) W.heap.size := by
  have hm : bm = false := by
    cases bm with
    | false => rfl
    | true => have := h.ord rfl; cases this
  subst hm
  exact ⟨(h.upd.move h.low).grow ((Below.refl _ _).alloc (Nat.le_refl _) _), h.upd.size, fun _ => ⟨rfl, block_new _ _⟩, fun _ => rfl⟩
theorem FJ.store (h : FJ B w0 W T Z V true bm xk g) (hs : Z.size = V.size) : FJ B w0 (W.setCells g 0 V.toList) T Z V true true xk g := by
  obtain ⟨e, b⟩ := h.var rfl
  refine ⟨h.upd.trans (setCells_upd g _ 0 W), h.low, fun _ => ⟨e, ?_⟩, fun _ => rfl⟩
  refine setCells_whole b ?_
  split <;> simp [hs]
theorem FJ.there (h : FJ B w0 W T Z V true bm xk g) (hs : Z.size = V.size) : W.there g 0 V.size := by
  obtain ⟨e, b⟩ := h.var rfl
  refine there_block b ?_
  split <;> simp [hs]
end
end Go.Proofs.Ytkoiogfhbipmjaa
