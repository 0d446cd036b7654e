/-
  WALKS: cell.isZero, areRightEnds, areRightNumbers, Check: what they answer, of any cell.
-/
import Derived.Test.YtjdjebhimljedaaEv
import Derived.Test.YtjdjebhimljedaaSum
import Derived.Test.YtjdjebhimljedaaWm
import Derived.Deep.RegionHeld3
import Derived.Deep.Cut
import Derived.Deep.MidRow
import Derived.LoopTactic
namespace Go.Proofs.Ytjdjebhimljedaa
open Go Go.RowKit

structure Ce where
  n : Int
  f : Ev
  l : Ev
  i : U
  r : Int
  g : Int
  s : Int
def zeroEv : Ev := ⟨0, 0, 0, false⟩
def zeroCe : Ce := ⟨0, zeroEv, zeroEv, U.zero, 0, 0, 0⟩
/-- A cell's values. -/
def ceA (x : Ce) : Array Value := #[.int .i64 x.n, .int .i64 x.f.t, .int .u64 x.f.v, .int .i64 x.f.c, .bool x.f.s, .int .i64 x.l.t, .int .u64 x.l.v, .int .i64 x.l.c, .bool x.l.s, .int .u64 (hiZ x.i), .int .u64 (loZ x.i), .int .i64 x.r, .int .i64 x.g, .int .i64 x.s]
theorem ceA_zero : ceA zeroCe = #[.int .i64 0, .int .i64 0, .int .u64 0, .int .i64 0, .bool false, .int .i64 0, .int .u64 0, .int .i64 0, .bool false, .int .u64 0, .int .u64 0, .int .i64 0, .int .i64 0, .int .i64 0] := rfl
theorem Ev.ext' {x y : Ev} (h1 : x.t = y.t) (h2 : x.v = y.v) (h3 : x.c = y.c) (h4 : x.s = y.s) : x = y := by
  cases x; cases y; simp_all
theorem Ce.ext' {x y : Ce} (h1 : x.n = y.n) (h2 : x.f = y.f) (h3 : x.l = y.l) (h4 : x.i = y.i) (h5 : x.r = y.r) (h6 : x.g = y.g) (h7 : x.s = y.s) : x = y := by
  cases x; cases y; simp_all
def evA (e : Ev) : Array Value := #[.int .i64 e.t, .int .u64 e.v, .int .i64 e.c, .bool e.s]
open Classical in
noncomputable def eqB {α : Type} (x y : α) : Bool := decide (x = y)
theorem eqB_yes {α : Type} {x y : α} (h : x = y) : eqB x y = true := by unfold eqB; simpa using h
theorem eqB_no {α : Type} {x y : α} (h : ¬ x = y) : eqB x y = false := by unfold eqB; simpa using h
theorem ev_eql (x y : Ev) (w : World) : (binOp .eql 24 (.agg (evA x)) (.agg (evA y))).run Try.prog w = .ok (.bool (eqB x y)) w := by
  unfold evA
  go_simp
  by_cases h : x = y
  · rw [eqB_yes h]; subst h; simp
  · rw [eqB_no h]
    repeat' split
    all_goals first | rfl | exact absurd (Ev.ext' (by assumption) (by assumption) (by assumption) (by assumption)) h
theorem if_none {p : Prop} [Decidable p] {w : World} {x : Result Value} (h : p → x = .ok (.bool false) w) : (if p then x else .ok (.bool false) w) = .ok (.bool false) w := by
  split
  · exact h (by assumption)
  · rfl
theorem ce_eql (x y : Ce) (w : World) : (binOp .eql 28 (.agg (ceA x)) (.agg (ceA y))).run Try.prog w = .ok (.bool (eqB x y)) w := by
  unfold ceA
  go_simp
  by_cases h : x = y
  · rw [eqB_yes h]; subst h; simp
  · rw [eqB_no h]
    refine if_none fun h1 => if_none fun h2 => if_none fun h3 => if_none fun h4 => if_none fun h5 => if_none fun h6 => if_none fun h7 => if_none fun h8 => if_none fun h9 => if_none fun h10 => if_none fun h11 => if_none fun h12 => if_none fun h13 => ?_
    refine if_neg fun h14 => h ?_
    exact Ce.ext' h1 (Ev.ext' h2 h3 h4 h5) (Ev.ext' h6 h7 h8 h9) (U.halves_inj h10 h11) h12 h13 h14

theorem ceInfo : (Try.prog.info? 28).map (·.size) = some 14 := by kernel_rfl
theorem evInfo : (Try.prog.info? 24).map (·.size) = some 4 := by kernel_rfl
theorem lt_blk {w : World} {g : Nat} {o : Obj} (h : w.heap[g]? = some o) : g < w.heap.size := (Array.getElem?_eq_some_iff.1 h).1
theorem cell_alloc {w : World} {a : Addr} {v : Value} (o : Obj) (h : w.cell? a = some v) : (w.alloc o).cell? a = some v := ((Below.refl w.heap.size w).alloc (Nat.le_refl _) o).cell (World.block_lt_of_cell? w a h) |>.trans h
theorem alloc_at (w : World) {g : Nat} (o : Obj) (hg : g = w.heap.size) : (w.alloc o).heap[g]? = some o := by
  subst hg
  show (w.heap.push o)[w.heap.size]? = _
  simp
theorem alloc_old {w : World} {g : Nat} {o : Obj} (h : w.heap[g]? = some o) (o' : Obj) : (w.alloc o').heap[g]? = some o := (Below.heap_alloc w o' g (lt_blk h)).trans h
/-- A block that is a whole cell; a whole event. -/
def CeAt (w : World) (g : Nat) (x : Ce) : Prop := w.heap[g]? = some (.cells (ceA x) 28 (0, 0))
def EvAt (w : World) (g : Nat) (x : Ev) : Prop := w.heap[g]? = some (.cells (evA x) 24 (0, 0))
section
variable {w w' : World} {g : Nat} {x : Ce} {e : Ev}
theorem CeAt.lt (h : CeAt w g x) : g < w.heap.size := lt_blk h
theorem CeAt.alloc (h : CeAt w g x) (o : Obj) : CeAt (w.alloc o) g x := alloc_old h o
theorem CeAt.new (w : World) {g : Nat} (x : Ce) (hg : g = w.heap.size) : CeAt (w.alloc (.cells (ceA x) 28)) g x := alloc_at w _ hg
theorem CeAt.drew (h : CeAt w g x) : CeAt w.drew g x := h
theorem CeAt.keep (h : CeAt w g x) (hb : Below w.heap.size w w') : CeAt w' g x := (hb.block g h.lt).trans h
theorem CeAt.range (h : CeAt w g x) : w.rangeAt g 0 (ceA x).toList := fun j v hv => by
  rw [Nat.zero_add, cell_blk h]; simpa using hv
theorem CeAt.load (h : CeAt w g x) : (Instr.loadAt 28 (.pointer (some ⟨g, 0, none⟩))).run Try.prog w = .ok (.agg (ceA x)) w :=
  run_loadAt_mid w g 0 28 (ceA x).toList _ h.range Try.underlying28 rfl ceInfo
theorem EvAt.lt (h : EvAt w g e) : g < w.heap.size := lt_blk h
theorem EvAt.alloc (h : EvAt w g e) (o : Obj) : EvAt (w.alloc o) g e := alloc_old h o
theorem EvAt.new (w : World) {g : Nat} (x : Ev) (hg : g = w.heap.size) : EvAt (w.alloc (.cells (evA x) 24)) g x := alloc_at w _ hg
theorem EvAt.drew (h : EvAt w g e) : EvAt w.drew g e := h
theorem EvAt.keep (h : EvAt w g e) (hb : Below w.heap.size w w') : EvAt w' g e := (hb.block g h.lt).trans h
theorem EvAt.range (h : EvAt w g e) : w.rangeAt g 0 (evA e).toList := fun j v hv => by
  rw [Nat.zero_add, cell_blk h]; simpa using hv
theorem EvAt.load (h : EvAt w g e) : (Instr.loadAt 24 (.pointer (some ⟨g, 0, none⟩))).run Try.prog w = .ok (.agg (evA e)) w :=
  run_loadAt_mid w g 0 24 (evA e).toList _ h.range Try.underlying24 rfl evInfo
theorem EvAt.c (h : EvAt w g e) : w.cell? ⟨g, 0, none⟩ = some (.int .i64 e.t) ∧ w.cell? ⟨g, 1, none⟩ = some (.int .u64 e.v) ∧ w.cell? ⟨g, 2, none⟩ = some (.int .i64 e.c) ∧ w.cell? ⟨g, 3, none⟩ = some (.bool e.s) := by
  refine ⟨?_, ?_, ?_, ?_⟩ <;> (rw [cell_blk h]; rfl)
end

set_option maxRecDepth 100000 in
theorem isZero_any (x : Ce) (w : World) :
    Calls Try.prog 19 #[.agg (ceA x)] w fun e w' => e = .returned (.bool (eqB x zeroCe)) ∧ Below w.heap.size w w' := by
  have hz := ce_eql x zeroCe
  rw [ceA_zero] at hz
  go_enter Try.func19, Try.ntmps19
  go_upto_region 1 with fail
  have HB := Lib.hid (show Below w.heap.size w (w.alloc (.cells (ceA x) 28)) by go_grown)
  have C0 := CeAt.new w x rfl
  generalize w.alloc (.cells (ceA x) 28) = w0 at *
  refine wp_region_lit ?_
  refine wpList_load_mid rfl _ _ rfl w.heap.size 0 rfl (ceA x).toList _ C0.range Try.underlying28 rfl ceInfo ?_
  simp only [Array.toArray_toList]
  clear C0
  go_wp2
  go_ret
  exact ⟨rfl, HB.out⟩

theorem ev_ck {e : Ev} (hi : EvIn e) (w : World) : Calls Try.prog 17 #[.agg (evA e)] w fun r w' => r = .returned (.int .i64 (evE e)) ∧ Below w.heap.size w w' := ev_any e.t e.v e.c e.s hi w
theorem ev_yes {e : Ev} (h : EvOk e) (w : World) : Calls Try.prog 17 #[.agg (evA e)] w fun r w' => r = .returned (.int .i64 0) ∧ Below w.heap.size w w' := by
  have := ev_ck h.in w
  rwa [evE_yes h] at this
theorem ev_no {e : Ev} (hi : EvIn e) (h : ¬ EvOk e) (w : World) : Calls Try.prog 17 #[.agg (evA e)] w fun r w' => r = .returned (.int .i64 2) ∧ Below w.heap.size w w' := by
  have := ev_ck hi w
  rwa [evE_no h] at this

/-- What a cell's numbers are between. -/
structure CeIn (x : Ce) : Prop where
  f : EvIn x.f
  l : EvIn x.l
  n0 : -9223372036854775808 ≤ x.n
  n1 : x.n ≤ 9223372036854775807
  r0 : -9223372036854775808 ≤ x.r
  r1 : x.r ≤ 9223372036854775807
  g0 : -9223372036854775808 ≤ x.g
  g1 : x.g ≤ 9223372036854775807
  s0 : -9223372036854775808 ≤ x.s
  s1 : x.s ≤ 9223372036854775807
/-- Are its ends right? -/
structure EndsOk (x : Ce) : Prop where
  n : 1 ≤ x.n
  f : EvOk x.f
  l : EvOk x.l
  one : x.n = 1 → x.f = x.l
  more : 1 < x.n → x.f.t < x.l.t
  le : x.n ≤ x.l.t - x.f.t + 1
theorem EndsOk.t {x : Ce} (h : EndsOk x) : x.f.t ≤ x.l.t := by
  by_cases h1 : x.n = 1
  · rw [h.one h1]; exact Int.le_refl _
  · have := h.more (by have := h.n; omega); omega
structure NumsOk (x : Ce) : Prop where
  r : 0 ≤ x.r
  g : 0 ≤ x.g
  s : 0 ≤ x.s
  s1 : x.s ≤ x.l.t - x.f.t
  rg : x.r + x.g < x.n
  i : x.i.n ≤ 18446744073709551615 * (x.n - 1).toNat
def CeOk (x : Ce) : Prop := x = zeroCe ∨ EndsOk x ∧ NumsOk x
open Classical in
noncomputable def ceE (x : Ce) : Int := if CeOk x then 0 else 2
theorem ceE_yes {x : Ce} (h : CeOk x) : ceE x = 0 := by unfold ceE; rw [if_pos h]
theorem ceE_no {x : Ce} (h : ¬ CeOk x) : ceE x = 2 := by unfold ceE; rw [if_neg h]
theorem CeAt.c {w : World} {g : Nat} {x : Ce} (h : CeAt w g x) : w.cell? ⟨g, 0, none⟩ = some (.int .i64 x.n) ∧ w.cell? ⟨g, 9, none⟩ = some (.int .u64 (hiZ x.i)) ∧ w.cell? ⟨g, 10, none⟩ = some (.int .u64 (loZ x.i)) ∧ w.cell? ⟨g, 11, none⟩ = some (.int .i64 x.r) ∧ w.cell? ⟨g, 12, none⟩ = some (.int .i64 x.g) ∧ w.cell? ⟨g, 13, none⟩ = some (.int .i64 x.s) := by
  refine ⟨?_, ?_, ?_, ?_, ?_, ?_⟩ <;> (rw [cell_blk h]; rfl)
theorem CeAt.c0 {w : World} {g : Nat} {x : Ce} (h : CeAt w g x) : w.cell? ⟨g, 0, none⟩ = some (.int .i64 x.n) := h.c.1
theorem ce_keep {w : World} {g : Nat} {x : Ce} (h : CeAt w g x) : CeAt w g x ∧ w.cell? ⟨g, 0, none⟩ = some (.int .i64 x.n) := ⟨h, h.c0⟩
theorem CeAt.other {w : World} {g : Nat} {x : Ce} {a : Addr} {v : Value} (h : CeAt w g x) (hne : g ≠ a.block) : CeAt (w.setCell a v) g x := (Below.heap_setCell _ _ _ _ hne).trans h
theorem CeAt.cf {w : World} {g : Nat} {x : Ce} (h : CeAt w g x) : w.cell? ⟨g, 1, none⟩ = some (.int .i64 x.f.t) ∧ w.cell? ⟨g, 2, none⟩ = some (.int .u64 x.f.v) ∧ w.cell? ⟨g, 3, none⟩ = some (.int .i64 x.f.c) ∧ w.cell? ⟨g, 4, none⟩ = some (.bool x.f.s) := by
  refine ⟨?_, ?_, ?_, ?_⟩ <;> (rw [cell_blk h]; rfl)
theorem CeAt.cl {w : World} {g : Nat} {x : Ce} (h : CeAt w g x) : w.cell? ⟨g, 5, none⟩ = some (.int .i64 x.l.t) ∧ w.cell? ⟨g, 6, none⟩ = some (.int .u64 x.l.v) ∧ w.cell? ⟨g, 7, none⟩ = some (.int .i64 x.l.c) ∧ w.cell? ⟨g, 8, none⟩ = some (.bool x.l.s) := by
  refine ⟨?_, ?_, ?_, ?_⟩ <;> (rw [cell_blk h]; rfl)
theorem CeAt.rf {w : World} {g : Nat} {x : Ce} (h : CeAt w g x) : w.rangeAt g 1 (evA x.f).toList := fun j v hv => by
  obtain ⟨h0, h1, h2, h3⟩ := h.cf
  match j, hv with
  | 0, hv => rw [h0]; exact hv
  | 1, hv => rw [h1]; exact hv
  | 2, hv => rw [h2]; exact hv
  | 3, hv => rw [h3]; exact hv
  | k + 4, hv => simp [evA] at hv
theorem CeAt.rl {w : World} {g : Nat} {x : Ce} (h : CeAt w g x) : w.rangeAt g 5 (evA x.l).toList := fun j v hv => by
  obtain ⟨h0, h1, h2, h3⟩ := h.cl
  match j, hv with
  | 0, hv => rw [h0]; exact hv
  | 1, hv => rw [h1]; exact hv
  | 2, hv => rw [h2]; exact hv
  | 3, hv => rw [h3]; exact hv
  | k + 4, hv => simp [evA] at hv

set_option maxRecDepth 100000 in
/-- areRightNumbers, where one of the first tests fails. -/
theorem nums_no (x : Ce) (hi : CeIn x) (he : EndsOk x) (hn : ¬ (0 ≤ x.r ∧ 0 ≤ x.g ∧ 0 ≤ x.s ∧ x.s ≤ x.l.t - x.f.t ∧ x.r + x.g < x.n)) (w : World) :
    Calls Try.prog 26 #[.agg (ceA x)] w fun e w' => e = .returned (.bool false) ∧ Below w.heap.size w w' := by
  have q0 := hi.n0; have q1 := hi.n1; have q2 := hi.r0; have q3 := hi.r1; have q4 := hi.g0; have q5 := hi.g1
  have u0 := he.n; have u1 := he.f.t0; have u2 := he.f.t1; have u3 := he.l.t0; have u4 := he.l.t1; have u5 := he.t; have u6 := he.le
  clear hi he
  have HN := Lib.hid hn
  clear hn
  go_enter Try.func26, Try.ntmps26
  go_upto_region 1 with fail
  have HB := Lib.hid (show Below w.heap.size w (w.alloc (.cells (ceA x) 28)) by go_grown)
  have C0 := CeAt.new w x rfl
  generalize w.alloc (.cells (ceA x) 28) = w0 at *
  obtain ⟨c0, c9, c10, c11, c12, c13⟩ := C0.c
  obtain ⟨f0, _⟩ := C0.cf
  obtain ⟨l0, _⟩ := C0.cl
  clear C0 c9 c10
  go_wp2
  all_goals first
  | (go_ret; exact ⟨rfl, HB.out⟩)
  | exact absurd ⟨by omega, by omega, by omega, by omega, by omega⟩ HN.out
end Go.Proofs.Ytjdjebhimljedaa
