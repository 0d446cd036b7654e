/-
  WALKS: cell.isZero, areRightEnds, areRightNumbers, Check: what they answer, of any cell.
-/
import Derived.Test.YtohkioakipjanaaEv6
import Derived.Deep.RegionHeld3
import Derived.Deep.Cut
import Derived.Deep.MidRow
import Derived.LoopTactic
namespace Go.Proofs.Ytohkioakipjanaa
open Go Go.RowKit

theorem zero_hi : hiZ U.zero = 0 := rfl
theorem zero_lo : loZ U.zero = 0 := rfl
theorem bcell {W w1 : World} (hb : Below W.heap.size W w1) : (∀ b o, b < W.heap.size → w1.cell? ⟨b, o, none⟩ = W.cell? ⟨b, o, none⟩) ∧ (∀ b o, b < W.heap.size → w1.frozen? ⟨b, o, none⟩ = W.frozen? ⟨b, o, none⟩) :=
  ⟨fun b o h => hb.cell (p := ⟨b, o, none⟩) h, fun b o h => hb.frozen (p := ⟨b, o, none⟩) h⟩

theorem bdn {B n : Nat} {a w : World} (h : Below B a w) : Below B a (w.drewN n) := ⟨h.os, h.tape, h.output, h.size, h.block⟩

theorem below_of {w W w1 : World} (h : Below w.heap.size w W) (hb : Below W.heap.size W w1) : Below w.heap.size w w1 := h.trans (hb.mono h.size)
theorem of_any (n : Int) (w : World) :
    Calls Try.prog 43 #[.int .u64 n] w fun e w' => e = .returned (.agg #[.int .u64 0, .int .u64 n]) ∧ w.alloc (.cells #[.int .u64 0, .int .u64 n] 67) = w' := by
  go_enter Try.func43, Try.ntmps43
  go_wp2
  go_returns
  exact ⟨rfl, rfl⟩

structure Ce where
  n : Int
  f : Ev
  l : Ev
  i : U
  r : Int
  g : Int
  s : Int
def zeroEv : Ev := ⟨0, 0, 0, false⟩
def zeroCe : Ce := ⟨0, zeroEv, zeroEv, U.zero, 0, 0, 0⟩
/-- A cell's values. -/
def ceA (x : Ce) : Array Value := #[.int .i64 x.n, .int .i64 x.f.t, .int .u64 x.f.v, .int .i64 x.f.c, .bool x.f.s, .int .i64 x.l.t, .int .u64 x.l.v, .int .i64 x.l.c, .bool x.l.s, .int .u64 (hiZ x.i), .int .u64 (loZ x.i), .int .i64 x.r, .int .i64 x.g, .int .i64 x.s]
theorem ceA_zero : ceA zeroCe = #[.int .i64 0, .int .i64 0, .int .u64 0, .int .i64 0, .bool false, .int .i64 0, .int .u64 0, .int .i64 0, .bool false, .int .u64 0, .int .u64 0, .int .i64 0, .int .i64 0, .int .i64 0] := rfl
theorem Ev.ext' {x y : Ev} (h1 : x.t = y.t) (h2 : x.v = y.v) (h3 : x.c = y.c) (h4 : x.s = y.s) : x = y := by
  cases x; cases y; simp_all
theorem Ce.ext' {x y : Ce} (h1 : x.n = y.n) (h2 : x.f = y.f) (h3 : x.l = y.l) (h4 : x.i = y.i) (h5 : x.r = y.r) (h6 : x.g = y.g) (h7 : x.s = y.s) : x = y := by
  cases x; cases y; simp_all
def evA (e : Ev) : Array Value := #[.int .i64 e.t, .int .u64 e.v, .int .i64 e.c, .bool e.s]
open Classical in
noncomputable def eqB {α : Type} (x y : α) : Bool := decide (x = y)
theorem eqB_yes {α : Type} {x y : α} (h : x = y) : eqB x y = true := by unfold eqB; simpa using h
theorem eqB_no {α : Type} {x y : α} (h : ¬ x = y) : eqB x y = false := by unfold eqB; simpa using h
theorem ev_eql (x y : Ev) (w : World) : (binOp .eql 27 (.agg (evA x)) (.agg (evA y))).run Try.prog w = .ok (.bool (eqB x y)) w := by
  unfold evA
  go_simp
  by_cases h : x = y
  · rw [eqB_yes h]; subst h; simp
  · rw [eqB_no h]
    repeat' split
    all_goals first | rfl | exact absurd (Ev.ext' (by assumption) (by assumption) (by assumption) (by assumption)) h
theorem if_none {p : Prop} [Decidable p] {w : World} {x : Result Value} (h : p → x = .ok (.bool false) w) : (if p then x else .ok (.bool false) w) = .ok (.bool false) w := by
  split
  · exact h (by assumption)
  · rfl
theorem ce_eql (x y : Ce) (w : World) : (binOp .eql 69 (.agg (ceA x)) (.agg (ceA y))).run Try.prog w = .ok (.bool (eqB x y)) w := by
  unfold ceA
  go_simp
  by_cases h : x = y
  · rw [eqB_yes h]; subst h; simp
  · rw [eqB_no h]
    refine if_none fun h1 => if_none fun h2 => if_none fun h3 => if_none fun h4 => if_none fun h5 => if_none fun h6 => if_none fun h7 => if_none fun h8 => if_none fun h9 => if_none fun h10 => if_none fun h11 => if_none fun h12 => if_none fun h13 => ?_
    refine if_neg fun h14 => h ?_
    exact Ce.ext' h1 (Ev.ext' h2 h3 h4 h5) (Ev.ext' h6 h7 h8 h9) (U.halves_inj h10 h11) h12 h13 h14

theorem ceInfo : (Try.prog.info? 69).map (·.size) = some 14 := by kernel_rfl
theorem evInfo : (Try.prog.info? 27).map (·.size) = some 4 := by kernel_rfl
theorem lt_blk {w : World} {g : Nat} {o : Obj} (h : w.heap[g]? = some o) : g < w.heap.size := (Array.getElem?_eq_some_iff.1 h).1
theorem cell_alloc {w : World} {a : Addr} {v : Value} (o : Obj) (h : w.cell? a = some v) : (w.alloc o).cell? a = some v := ((Below.refl w.heap.size w).alloc (Nat.le_refl _) o).cell (World.block_lt_of_cell? w a h) |>.trans h
theorem alloc_at (w : World) {g : Nat} (o : Obj) (hg : g = w.heap.size) : (w.alloc o).heap[g]? = some o := by
  subst hg
  show (w.heap.push o)[w.heap.size]? = _
  simp
theorem alloc_old {w : World} {g : Nat} {o : Obj} (h : w.heap[g]? = some o) (o' : Obj) : (w.alloc o').heap[g]? = some o := (Below.heap_alloc w o' g (lt_blk h)).trans h
/-- A block that is a whole cell; a whole event. -/
def CeAt (w : World) (g : Nat) (x : Ce) : Prop := w.heap[g]? = some (.cells (ceA x) 69 (0, 0))
def EvAt (w : World) (g : Nat) (x : Ev) : Prop := w.heap[g]? = some (.cells (evA x) 27 (0, 0))
section
variable {w w' : World} {g : Nat} {x : Ce} {e : Ev}
theorem CeAt.lt (h : CeAt w g x) : g < w.heap.size := lt_blk h
theorem CeAt.alloc (h : CeAt w g x) (o : Obj) : CeAt (w.alloc o) g x := alloc_old h o
theorem CeAt.new (w : World) {g : Nat} (x : Ce) (hg : g = w.heap.size) : CeAt (w.alloc (.cells (ceA x) 69)) g x := alloc_at w _ hg
theorem CeAt.drew (h : CeAt w g x) : CeAt w.drew g x := h
theorem CeAt.keep (h : CeAt w g x) (hb : Below w.heap.size w w') : CeAt w' g x := (hb.block g h.lt).trans h
theorem CeAt.range (h : CeAt w g x) : w.rangeAt g 0 (ceA x).toList := fun j v hv => by
  rw [Nat.zero_add, cell_block h]; simpa using hv
theorem CeAt.load (h : CeAt w g x) : (Instr.loadAt 69 (.pointer (some ⟨g, 0, none⟩))).run Try.prog w = .ok (.agg (ceA x)) w :=
  run_loadAt_mid w g 0 69 (ceA x).toList _ h.range Try.underlying69 rfl ceInfo
theorem EvAt.lt (h : EvAt w g e) : g < w.heap.size := lt_blk h
theorem EvAt.alloc (h : EvAt w g e) (o : Obj) : EvAt (w.alloc o) g e := alloc_old h o
theorem EvAt.new (w : World) {g : Nat} (x : Ev) (hg : g = w.heap.size) : EvAt (w.alloc (.cells (evA x) 27)) g x := alloc_at w _ hg
theorem EvAt.drew (h : EvAt w g e) : EvAt w.drew g e := h
theorem EvAt.keep (h : EvAt w g e) (hb : Below w.heap.size w w') : EvAt w' g e := (hb.block g h.lt).trans h
theorem EvAt.range (h : EvAt w g e) : w.rangeAt g 0 (evA e).toList := fun j v hv => by
  rw [Nat.zero_add, cell_block h]; simpa using hv
theorem EvAt.load (h : EvAt w g e) : (Instr.loadAt 27 (.pointer (some ⟨g, 0, none⟩))).run Try.prog w = .ok (.agg (evA e)) w :=
  run_loadAt_mid w g 0 27 (evA e).toList _ h.range Try.underlying27 rfl evInfo
theorem EvAt.c (h : EvAt w g e) : w.cell? ⟨g, 0, none⟩ = some (.int .i64 e.t) ∧ w.cell? ⟨g, 1, none⟩ = some (.int .u64 e.v) ∧ w.cell? ⟨g, 2, none⟩ = some (.int .i64 e.c) ∧ w.cell? ⟨g, 3, none⟩ = some (.bool e.s) := by
  refine ⟨?_, ?_, ?_, ?_⟩ <;> (rw [cell_block h]; rfl)
end

theorem ev_ck {e : Ev} (hi : EvIn e) (w : World) : Calls Try.prog 26 #[.agg (evA e)] w fun r w' => r = .returned (.int .i64 (evE e)) ∧ Below w.heap.size w w' := ev_any e.t e.v e.c e.s hi w
theorem ev_yes {e : Ev} (h : EvOk e) (w : World) : Calls Try.prog 26 #[.agg (evA e)] w fun r w' => r = .returned (.int .i64 0) ∧ Below w.heap.size w w' := by
  have := ev_ck h.in w
  rwa [evE_yes h] at this
theorem ev_no {e : Ev} (hi : EvIn e) (h : ¬ EvOk e) (w : World) : Calls Try.prog 26 #[.agg (evA e)] w fun r w' => r = .returned (.int .i64 2) ∧ Below w.heap.size w w' := by
  have := ev_ck hi w
  rwa [evE_no h] at this

end Go.Proofs.Ytohkioakipjanaa
