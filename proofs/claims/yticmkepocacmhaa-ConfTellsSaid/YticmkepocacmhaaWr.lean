/-
  WALKS: codec.Writer: Out, Raw: what a writer has, and what it is behind them.
-/
import Derived.Test.YticmkepocacmhaaRow
namespace Go.Proofs.Yticmkepocacmhaa
open Go Go.RowKit

/-- A zero writer. -/
structure Wr0 (w : World) (P : Nat) : Prop where
  blk : w.heap[P]? = some (.cells #[.pointer none, .int .i64 0] 60 (0, 0))
/-- A writer with a buffer. -/
structure WrB (w : World) (P Q g cap : Nat) (l : List UInt8) : Prop where
  hp : w.heap[P]? = some (.cells #[.pointer (some ⟨Q, 0, none⟩), .int .i64 l.length] 60 (0, 0))
  hq : w.heap[Q]? = some (.cells #[.slice (some ⟨g, 0, none⟩) l.length cap] 78 (0, 0))
  row : Row w g cap l
section
variable {w : World} {P Q g cap : Nat} {l : List UInt8}
theorem ty_ne {a b : Nat} {cs ds : Array Value} {t u : TypeId} {fr fs : Nat × Nat} (h : w.heap[a]? = some (.cells cs t fr)) (h' : w.heap[b]? = some (.cells ds u fs)) (hne : t ≠ u) : a ≠ b := by
  rintro rfl
  rw [h] at h'
  cases h'
  exact hne rfl
theorem WrB.pq (h : WrB w P Q g cap l) : P ≠ Q := ty_ne h.hp h.hq (by decide)
theorem WrB.pg (h : WrB w P Q g cap l) : P ≠ g := by obtain ⟨_, _, hg, _⟩ := h.row.row; exact ty_ne h.hp hg (by decide)
theorem WrB.qg (h : WrB w P Q g cap l) : Q ≠ g := by obtain ⟨_, _, hg, _⟩ := h.row.row; exact ty_ne h.hq hg (by decide)
theorem WrB.step {S : Nat → Prop} {w' : World} (h : WrB w P Q g cap l) (hs : Step S w w') (h1 : ¬ S P) (h2 : ¬ S Q) (h3 : ¬ S g) : WrB w' P Q g cap l :=
  ⟨(hs.block P (lt_blk h.hp) h1).trans h.hp, (hs.block Q (lt_blk h.hq) h2).trans h.hq, h.row.step hs h3⟩
end
/-- A writer that has the bytes l; its blocks are among own. -/
def Wr (w : World) (P : Nat) (own : Nat → Prop) (l : List UInt8) : Prop :=
  own P ∧ ((l = [] ∧ Wr0 w P) ∨ ∃ Q g cap, WrB w P Q g cap l ∧ own Q ∧ own g)
section
variable {w : World} {P : Nat} {own : Nat → Prop} {l : List UInt8}
theorem Wr.shrink {own2 : Nat → Prop} (h : Wr w P own l) (hs : ∀ k, own k → k < w.heap.size → own2 k) : Wr w P own2 l := by
  obtain ⟨h1, ⟨h2, h3⟩ | ⟨Q, g, cap, h3, h4, h5⟩⟩ := h
  · exact ⟨hs _ h1 (lt_blk h3.blk), Or.inl ⟨h2, h3⟩⟩
  · exact ⟨hs _ h1 (lt_blk h3.hp), Or.inr ⟨Q, g, cap, h3, hs _ h4 (lt_blk h3.hq), hs _ h5 h3.row.lt⟩⟩
theorem Wr.step {S : Nat → Prop} {w' : World} (h : Wr w P own l) (hs : Step S w w') (hn : ∀ k, own k → k < w.heap.size → ¬ S k) : Wr w' P own l := by
  obtain ⟨h1, ⟨h2, h3⟩ | ⟨Q, g, cap, h3, h4, h5⟩⟩ := h
  · exact ⟨h1, Or.inl ⟨h2, ⟨(hs.block P (lt_blk h3.blk) (hn _ h1 (lt_blk h3.blk))).trans h3.blk⟩⟩⟩
  · exact ⟨h1, Or.inr ⟨Q, g, cap, h3.step hs (hn _ h1 (lt_blk h3.hp)) (hn _ h4 (lt_blk h3.hq)) (hn _ h5 h3.row.lt), h4, h5⟩⟩
theorem Wr.exact (h : Wr w P own l) : ∃ own0 : Nat → Prop, Wr w P own0 l ∧ ∀ k, own0 k → own k ∧ k < w.heap.size :=
  ⟨fun k => own k ∧ k < w.heap.size, h.shrink (fun k a b => ⟨a, b⟩), fun _ h => h⟩
theorem Wr.here (h : Wr w P own l) : P < w.heap.size := by
  obtain ⟨_, ⟨_, h3⟩ | ⟨Q, g, cap, h3, _, _⟩⟩ := h
  · exact lt_blk h3.blk
  · exact lt_blk h3.hp
end
theorem Wr.made (w : World) : Wr (w.alloc (.cells #[.pointer none, .int .i64 0] 60)) w.heap.size (· = w.heap.size) [] :=
  ⟨rfl, Or.inl ⟨rfl, ⟨alloc_blk w _⟩⟩⟩

set_option maxRecDepth 100000 in
theorem out_zero (P : Nat) (w : World) (h : Wr0 w P) :
    Calls Try.prog 43 #[.pointer (some ⟨P, 0, none⟩)] w fun e w' => e = .returned (.string (bs [])) ∧ w = w' := by
  have c0 : w.cell? ⟨P, 0, none⟩ = some (.pointer none) := by rw [cell_blk h.blk]; rfl
  clear h
  go_enter Try.func43, Try.ntmps43
  go_wp2
  go_ret
  exact ⟨rfl, rfl⟩

/-- Nothing but answers has been drawn. -/
def Drn (w w' : World) : Prop := ∃ n, w.drewN n = w'
set_option maxHeartbeats 1000000 in
set_option maxRecDepth 100000 in
theorem out_buf (P Q g cap : Nat) (l : List UInt8) (hl : l.length ≤ 140737488355328) (w : World) (h : WrB w P Q g cap l) :
    Calls Try.prog 43 #[.pointer (some ⟨P, 0, none⟩)] w fun e w' => e = .returned (.string (bs l)) ∧ Drn w w' := by
  have c0 : w.cell? ⟨P, 0, none⟩ = some (.pointer (some ⟨Q, 0, none⟩)) := by rw [cell_blk h.hp]; rfl
  have c1 : w.cell? ⟨P, 1, none⟩ = some (.int .i64 l.length) := by rw [cell_blk h.hp]; rfl
  have c2 : w.cell? ⟨Q, 0, none⟩ = some (.slice (some ⟨g, 0, none⟩) l.length cap) := by rw [cell_blk h.hq]; rfl
  have hc := h.row.le
  have hm := h.row.capLe
  unfold maxLen at hm
  have hconv : ∀ (n c : Nat), (convert 75 9 (.slice (some ⟨g, 0, none⟩) l.length c)).run Try.prog (w.drewN n) = .ok (.string (bs l)) (w.drewN n) := fun n c =>
    run_convert_bytes_back (w.drewN n) _ _ 5 ⟨g, 0, none⟩ c l Try.underlying75 Try.underlying5 Try.underlying9 (fun j hj => by rw [Addr.add_lit, Nat.zero_add]; exact h.row.cell hj)
  clear h
  go_enter Try.func43, Try.ntmps43
  go_wp2
  go_quiet (fail)
  go_wp2
  go_ret
  exact ⟨rfl, nq, rfl⟩

theorem Drn.step {S : Nat → Prop} {w w' : World} (h : Drn w w') : Step S w w' := by
  obtain ⟨n, rfl⟩ := h
  exact (Step.refl _ _).drewN n
theorem Drn.heap {w w' : World} (h : Drn w w') : w'.heap = w.heap := by
  obtain ⟨n, rfl⟩ := h
  rfl
theorem WrB.drawn {w w' : World} {P Q g cap : Nat} {l : List UInt8} (h : WrB w P Q g cap l) (hd : w'.heap = w.heap) : WrB w' P Q g cap l := by
  obtain ⟨a, b, ⟨c⟩⟩ := h
  rw [← hd] at a b c
  exact ⟨a, b, ⟨c⟩⟩
theorem Row.drawn {w w' : World} {g cap : Nat} {l : List UInt8} (h : Row w g cap l) (hd : w'.heap = w.heap) : Row w' g cap l := by
  obtain ⟨c⟩ := h
  rw [← hd] at c
  exact ⟨c⟩

/-- append(b, s...), as one step of a region that draws its order. -/
theorem step_append_row {ops : Array Oper} {o : Oper} {a : Act} {w : World} {K : Act → World → Prop} {Q : Exit → Act → World → Prop} {E : Prop}
    (hg : o.guard = none) (s x : Operand) (hop : o.op = Op.call { callee := Callee.builtin Builtin.append, args := #[s, x], argTypes := #[75, 9] })
    (g cap : Nat) (l t : List UInt8) (hs : a.eval s = .slice (some ⟨g, 0, none⟩) l.length cap) (hx : a.eval x = .string (bs t)) (hrow : Row w g cap l) (hlen : l.length + t.length ≤ 140737488355328)
    (hK : ∀ g' cap' w', Row w' g' cap' (l ++ t) → Step (· = g) w w' → (g' = g ∨ w.heap.size ≤ g') → K (a.put o.dst (.slice (some ⟨g', 0, none⟩) (l.length + t.length) cap')) w') :
    if Region.wanted o (yielded ops a.tmps) = true then Oper.wp Try.prog o a w K Q else E := by
  have hw : Region.wanted o (yielded ops a.tmps) = true := by simp [Region.wanted, hg]
  rw [if_pos hw]
  obtain ⟨g', cap', w', hrun, h1, h2, h3⟩ := run_append_row hrow t hlen o.type
  unfold Oper.wp
  simp [execOp, hop, resolve, invoke, builtin, hs, hx, hrun, Result.andThen]
  exact hK g' cap' w' h1 h2 h3

/-- What holds where only the row g and new blocks may have turned. -/
theorem WrB.cells {w w1 : World} {P Q g cap : Nat} {l : List UInt8} (h : WrB w P Q g cap l) (hs : Step (· = g) w w1) :
    w1.cell? ⟨P, 0, none⟩ = some (.pointer (some ⟨Q, 0, none⟩)) ∧ w1.cell? ⟨P, 1, none⟩ = some (.int .i64 l.length) ∧ w1.cell? ⟨Q, 0, none⟩ = some (.slice (some ⟨g, 0, none⟩) l.length cap) ∧
      w1.frozen? ⟨P, 1, none⟩ = false ∧ w1.frozen? ⟨Q, 0, none⟩ = false ∧ w1.frozen? ⟨P, 0, none⟩ = false := by
  have hp := (hs.block P (lt_blk h.hp) h.pg).trans h.hp
  have hq := (hs.block Q (lt_blk h.hq) h.qg).trans h.hq
  exact ⟨by rw [cell_blk hp]; rfl, by rw [cell_blk hp]; rfl, by rw [cell_blk hq]; rfl, free_blk hp 1, free_blk hq 0, free_blk hp 0⟩

theorem raw_end {w0 w1 : World} {P Q g cap g' cap' : Nat} {l t : List UInt8} (h : WrB w0 P Q g cap l) (hr : Row w1 g' cap' (l ++ t)) (hs : Step (· = g) w0 w1) (ho : g' = g ∨ w0.heap.size ≤ g') {n : Int} {m : Nat} (hm : m = (l ++ t).length) (hn : n = ((l ++ t).length : Int)) :
    WrB ((w1.setCell ⟨Q, 0, none⟩ (.slice (some ⟨g', 0, none⟩) m cap')).setCell ⟨P, 1, none⟩ (.int .i64 n)) P Q g' cap' (l ++ t) ∧
      Step (fun k => k = P ∨ k = Q ∨ k = g) w0 ((w1.setCell ⟨Q, 0, none⟩ (.slice (some ⟨g', 0, none⟩) m cap')).setCell ⟨P, 1, none⟩ (.int .i64 n)) := by
  subst hn hm
  have hp := (hs.block P (lt_blk h.hp) h.pg).trans h.hp
  have hq := (hs.block Q (lt_blk h.hq) h.qg).trans h.hq
  have hpq := h.pq
  have hlt := lt_blk h.hp
  have hlt2 := lt_blk h.hq
  have hPg : P ≠ g' := by
    rcases ho with ho | ho
    · rw [ho]; exact h.pg
    · omega
  have hQg : Q ≠ g' := by
    rcases ho with ho | ho
    · rw [ho]; exact h.qg
    · omega
  refine ⟨⟨?_, ?_, ?_⟩, ?_⟩
  · rw [set_blk (w := w1.setCell _ _) (by rw [set_other _ hpq]; exact hp)]
    rfl
  · rw [set_other _ (Ne.symm hpq), set_blk hq]
    rfl
  · refine (hr.step (S := fun k => k = P ∨ k = Q) (((Step.refl _ _).setCell (Or.inr rfl) _).setCell (Or.inl rfl) _) ?_)
    rintro (e | e)
    · exact hPg e.symm
    · exact hQg e.symm
  · exact ((hs.mono (T := fun k => k = P ∨ k = Q ∨ k = g) (fun k hk => Or.inr (Or.inr hk))).setCell (p := ⟨Q, 0, none⟩) (Or.inr (Or.inl rfl)) _).setCell (p := ⟨P, 1, none⟩) (Or.inl rfl) _

/-- What Raw makes of a writer with a buffer. -/
def BufPost (P Q g : Nat) (w : World) (l : List UInt8) (w' : World) : Prop :=
  ∃ g' cap', WrB w' P Q g' cap' l ∧ Step (fun k => k = P ∨ k = Q ∨ k = g) w w' ∧ (g' = g ∨ w.heap.size ≤ g')

set_option maxHeartbeats 1000000 in
set_option maxRecDepth 100000 in
theorem wraw_buf (P Q g cap : Nat) (l t : List UInt8) (hl : l.length + t.length ≤ 140737488355328) (w : World) (h : WrB w P Q g cap l) :
    Calls Try.prog 54 #[.pointer (some ⟨P, 0, none⟩), .string (bs t)] w fun e w' => e = .returned (.tuple #[]) ∧ BufPost P Q g w (l ++ t) w' := by
  obtain ⟨c0, c1, c2, f1, f2, f0⟩ := h.cells (Step.refl _ _)
  have HW := Lib.hid h
  have hpq := h.pq
  have hqp := Ne.symm hpq
  have hc := h.row.le
  have hm := h.row.capLe
  unfold maxLen at hm
  clear h
  go_enter Try.func54, Try.ntmps54
  go_wp2
  go_quiet (fail)
  go_wp2
  have HW0 : Hid (WrB (w.drewN nq) P Q g cap l) := HW.out.drawn rfl
  have HS0 : Hid (Step (fun k => k = P ∨ k = Q ∨ k = g) w (w.drewN nq)) := (Step.refl _ _).drewN nq
  obtain ⟨c0', c1', c2', f1', f2', f0'⟩ := HW0.out.cells (Step.refl _ _)
  have HZ : Hid ((w.drewN nq).heap.size = w.heap.size) := rfl
  clear c0 c1 c2 f0 f1 f2
  generalize w.drewN nq = w0 at *
  go_region_law (refine step_append_row rfl (.tmp 44) (.tmp 45) rfl g cap l t (by simp [Act.eval, Act.put]) (by simp [Act.eval, Act.put]) (HW0.out.row.drawn rfl) hl ?_; intro g' cap' w1 hr1 hs1 ho1; obtain ⟨c0n, c1n, c2n, f1n, f2n, f0n⟩ := HW0.out.cells ((Step.refl _ _).drew.trans hs1); have HR1 := Lib.hid hr1; have HS1 := Lib.hid hs1; have HO1 := Lib.hid ho1; clear hr1 hs1 ho1)
  all_goals
    go_wp2
    go_end0
    obtain ⟨e1, e2⟩ := raw_end (t := t) (n := ((l.length : Int) + (t.length : Int))) (m := l.length + t.length) HW0.out HR1.out ((Step.refl _ _).drew.trans HS1.out) HO1.out (by simp) (by simp)
    exact ⟨rfl, g', cap', e1, HS0.out.trans e2, by rw [← HZ.out]; exact HO1.out⟩

/-- What Raw makes of a zero writer. -/
def ZeroPost (P : Nat) (w : World) (l : List UInt8) (w' : World) : Prop :=
  ∃ Q g cap, WrB w' P Q g cap l ∧ Step (· = P) w w' ∧ w.heap.size ≤ Q ∧ w.heap.size ≤ g
theorem zero_post {P Q g g' cap : Nat} {w w2 w' : World} {l : List UInt8} (h : WrB w' P Q g' cap ([] ++ l)) (hs : Step (· = P) w w2) (hs2 : Step (fun k => k = P ∨ k = Q ∨ k = g) w2 w') (hQ : w.heap.size ≤ Q) (hg : w.heap.size ≤ g)
    (ho : g' = g ∨ w2.drew.heap.size ≤ g') : ZeroPost P w l w' := by
  have hz : w2.drew.heap.size = w2.heap.size := rfl
  refine ⟨Q, g', cap, h, ⟨hs2.os.trans hs.os, hs2.tape.trans hs.tape, hs2.output.trans hs.output, Nat.le_trans hs.size hs2.size, fun k hk hn => ?_⟩, hQ, ?_⟩
  · have := hs.size
    rw [hs2.block k (by omega) (by rintro (e | e | e); exact hn e; all_goals omega)]
    exact hs.block k hk hn
  · have := hs.size
    omega
set_option maxHeartbeats 1000000 in
set_option maxRecDepth 100000 in
theorem wraw_zero (P : Nat) (t : List UInt8) (hl : t.length ≤ 140737488355328) (w : World) (h : Wr0 w P) :
    Calls Try.prog 54 #[.pointer (some ⟨P, 0, none⟩), .string (bs t)] w fun e w' => e = .returned (.tuple #[]) ∧ ZeroPost P w t w' := by
  have c0 : w.cell? ⟨P, 0, none⟩ = some (.pointer none) := by rw [cell_blk h.blk]; rfl
  have f0 : w.frozen? ⟨P, 0, none⟩ = false := free_blk h.blk 0
  have HW := Lib.hid h
  have hlt := lt_blk h.blk
  clear h
  go_enter Try.func54, Try.ntmps54
  go_wp2
  go_quiet (fail)
  have HW0 : Hid (Wr0 (w.drewN nq) P) := ⟨HW.out.blk⟩
  have HS0 : Hid (Step (· = P) w (w.drewN nq)) := (Step.refl _ _).drewN nq
  have c0' : (w.drewN nq).cell? ⟨P, 0, none⟩ = some (.pointer none) := c0
  have f0' : (w.drewN nq).frozen? ⟨P, 0, none⟩ = false := f0
  have hlt' : P < (w.drewN nq).heap.size := hlt
  have HZ : Hid ((w.drewN nq).heap.size = w.heap.size) := rfl
  clear c0 f0 hlt
  generalize w.drewN nq = w0 at *
  obtain ⟨C, W1, hcv, hrow, hst1, hsz1⟩ := conv_row w0 [] (by simp)
  simp only [List.length_nil] at hcv
  have hb1 := (hst1.block P hlt' (fun h => h)).trans HW0.out.blk
  have hlt1 : P < W1.heap.size := lt_blk hb1
  have c0'' : W1.cell? ⟨P, 0, none⟩ = some (.pointer none) := by rw [cell_blk hb1]; rfl
  have f0'' : W1.frozen? ⟨P, 0, none⟩ = false := free_blk hb1 0
  have HR := Lib.hid hrow
  have HS1 := Lib.hid hst1
  have HB1 := Lib.hid hb1
  have HZ1 := Lib.hid hsz1
  clear hrow hst1 hb1 hsz1
  go_wp2_with (go_at_call 43; refine (out_zero P _ HW0.out).mono ?_; rintro e w' ⟨rfl, rfl⟩)
  have hne : P ≠ W1.heap.size := by omega
  have hpq : P ≠ W1.heap.size := hne
  have hqp := Ne.symm hpq
  have HW2 : Hid (WrB ((W1.setCell ⟨P, 0, none⟩ (.pointer (some ⟨W1.heap.size, 0, none⟩))).alloc (.cells #[.slice (some ⟨w0.heap.size, 0, none⟩) 0 C] 78)) P W1.heap.size w0.heap.size C []) := by
    have hz : (W1.setCell ⟨P, 0, none⟩ (.pointer (some ⟨W1.heap.size, 0, none⟩))).heap.size = W1.heap.size := by simp [World.setCell]
    refine ⟨alloc_old (by rw [set_blk HB1.out]; rfl) _, ?_, ?_⟩
    · have := alloc_blk (W1.setCell ⟨P, 0, none⟩ (.pointer (some ⟨W1.heap.size, 0, none⟩))) (.cells #[.slice (some ⟨w0.heap.size, 0, none⟩) 0 C] 78)
      rw [hz] at this
      exact this
    · exact HR.out.step (S := (· = P)) (((Step.refl _ _).own _).alloc _) (by have := HZ1.out; omega)
  have HS2 : Hid (Step (· = P) w ((W1.setCell ⟨P, 0, none⟩ (.pointer (some ⟨W1.heap.size, 0, none⟩))).alloc (.cells #[.slice (some ⟨w0.heap.size, 0, none⟩) 0 C] 78))) :=
    ((HS0.out.trans (HS1.out.mono (fun _ h => h.elim))).own _).alloc _
  have hz2 : w.heap.size ≤ w0.heap.size := by rw [HZ.out]; exact Nat.le_refl _
  have hz3 : w.heap.size ≤ W1.heap.size := by have := HZ1.out; omega
  have HG := Lib.hid hz2
  have HQ := Lib.hid hz3
  have hC0 := HR.out.le
  have hC1 := HR.out.capLe
  unfold maxLen at hC1
  clear hz2 hz3 c0' f0' c0'' f0'' hcv hlt1 hne HR HS1 HB1 HZ1 HS0 HW0 HW
  generalize (W1.setCell ⟨P, 0, none⟩ (.pointer (some ⟨W1.heap.size, 0, none⟩))).alloc (.cells #[.slice (some ⟨w0.heap.size, 0, none⟩) 0 C] 78) = w2 at *
  generalize W1.heap.size = Q at *
  generalize w0.heap.size = g at *
  obtain ⟨d0, d1, d2, d3, d4, d5⟩ := HW2.out.cells (Step.refl _ _)
  go_region_law (refine step_append_row rfl (.tmp 44) (.tmp 45) rfl g C [] t (by simp [Act.eval, Act.put]) (by simp [Act.eval, Act.put]) (HW2.out.row.drawn rfl) (by simpa using hl) ?_; intro g' cap' w3 hr1 hs1 ho1; obtain ⟨c0n, c1n, c2n, f1n, f2n, f0n⟩ := HW2.out.cells ((Step.refl _ _).drew.trans hs1); have HR1 := Lib.hid hr1; have HS3 := Lib.hid hs1; have HO1 := Lib.hid ho1; clear hr1 hs1 ho1)
  all_goals
    go_wp2
    go_end0
    obtain ⟨e1, e2⟩ := raw_end (t := t) (n := (t.length : Int)) (m := t.length) HW2.out HR1.out ((Step.refl _ _).drew.trans HS3.out) HO1.out (by simp) (by simp)
    exact ⟨rfl, zero_post e1 HS2.out e2 HQ.out HG.out HO1.out⟩

/-! ### Out and Raw, of any writer. -/
theorem out_any {P : Nat} {own : Nat → Prop} {l : List UInt8} (hl : l.length ≤ 140737488355328) {w : World} (h : Wr w P own l) :
    Calls Try.prog 43 #[.pointer (some ⟨P, 0, none⟩)] w fun e w' => e = .returned (.string (bs l)) ∧ Drn w w' := by
  obtain ⟨_, ⟨rfl, h3⟩ | ⟨Q, g, cap, h3, _, _⟩⟩ := h
  · exact (out_zero P w h3).mono fun e w' ⟨h1, h2⟩ => ⟨h1, 0, h2⟩
  · exact out_buf P Q g cap l hl w h3
theorem wraw_any {P : Nat} {own : Nat → Prop} {l : List UInt8} (t : List UInt8) (hl : l.length + t.length ≤ 140737488355328) {w : World} (h : Wr w P own l) (hn : ∀ k, w.heap.size ≤ k → own k) :
    Calls Try.prog 54 #[.pointer (some ⟨P, 0, none⟩), .string (bs t)] w fun e w' => e = .returned (.tuple #[]) ∧ Wr w' P own (l ++ t) ∧ Step own w w' := by
  obtain ⟨hP, ⟨rfl, h3⟩ | ⟨Q, g, cap, h3, hQ, hg⟩⟩ := h
  · refine (wraw_zero P t (by simpa using hl) w h3).mono fun e w' ⟨h1, Q, g, cap, h4, h5, h6, h7⟩ => ?_
    exact ⟨h1, ⟨hP, Or.inr ⟨Q, g, cap, h4, hn _ h6, hn _ h7⟩⟩, h5.mono fun k hk => by rw [hk]; exact hP⟩
  · refine (wraw_buf P Q g cap l t hl w h3).mono fun e w' ⟨h1, g', cap', h4, h5, h6⟩ => ?_
    refine ⟨h1, ⟨hP, Or.inr ⟨Q, g', cap', h4, hQ, ?_⟩⟩, h5.mono ?_⟩
    · rcases h6 with rfl | h6
      · exact hg
      · exact hn _ h6
    · rintro k (rfl | rfl | rfl)
      · exact hP
      · exact hQ
      · exact hg
end Go.Proofs.Yticmkepocacmhaa
