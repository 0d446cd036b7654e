/-
  TWO NUMBERS' BYTES IN TWO NEW ARRAYS ('x, y := Bytes(a), Bytes(b)'), in whatever order: what holds meanwhile.
-/
import Derived.Test.YtjdjebhimljedaaRo
namespace Go.Proofs.Ytjdjebhimljedaa
open Go Go.RowKit

theorem Blk16.setCells {w : World} {g : Nat} {f0 : Nat → Int} (x : Blk16 w g f0) (f : Nat → Int) : Blk16 (w.setCells g 0 (A16 f).toList) g f := x.put f
theorem Blk16.setCells_other {w : World} {g g' : Nat} {f0 f : Nat → Int} (x : Blk16 w g f0) (hne : g ≠ g') : Blk16 (w.setCells g' 0 (A16 f).toList) g f0 :=
  show Blk16 (put16 w g' f) g f0 from ((((((((((((((((x.other _ _ hne).other _ _ hne).other _ _ hne).other _ _ hne).other _ _ hne).other _ _ hne).other _ _ hne).other _ _ hne).other _ _ hne).other _ _ hne).other _ _ hne).other _ _ hne).other _ _ hne).other _ _ hne).other _ _ hne).other _ _ hne)
theorem below_setCells {w0 w : World} {b g : Nat} {f : Nat → Int} (h : Below b w0 w) (hle : b ≤ g) : Below b w0 (w.setCells g 0 (A16 f).toList) := below_put16 h hle
theorem Blk16.there {w : World} {g : Nat} {f : Nat → Int} (x : Blk16 w g f) : w.there g 0 16 := fun j hj => by
  rw [Nat.zero_add]
  exact ⟨by rw [x.cell hj]; rfl, x.free j⟩
/-- What holds when these operations have come up. -/
structure PairJ (w0 : World) (a b : U) (W : World) (b0 b1 b2 b3 b4 b5 b6 b7 : Bool) (x0 x1 x2 x3 x4 x5 : Value) (g6 g7 : Nat) : Prop where
  below : Below w0.heap.size w0 W
  e0 : b0 = true → x0 = .agg #[.int .u64 (hiZ a), .int .u64 (loZ a)]
  e1 : b1 = true → x1 = .agg (A16 (byf a.n))
  e2 : b2 = true → x2 = .agg #[.int .u64 (hiZ b), .int .u64 (loZ b)]
  e3 : b3 = true → x3 = .agg (A16 (byf b.n))
  k4 : b4 = true → x4 = .pointer (some ⟨g6, 0, none⟩) ∧ w0.heap.size ≤ g6 ∧ ∃ f, Blk16 W g6 f ∧ (b6 = true → f = byf a.n)
  k5 : b5 = true → x5 = .pointer (some ⟨g7, 0, none⟩) ∧ w0.heap.size ≤ g7 ∧ ∃ f, Blk16 W g7 f ∧ (b7 = true → f = byf b.n)
  ne : b4 = true → b5 = true → g6 ≠ g7
  o6 : b6 = true → b4 = true
  o7 : b7 = true → b5 = true
section
variable {w0 W W' : World} {a b : U} {b0 b1 b2 b3 b4 b5 b6 b7 : Bool} {x0 x1 x2 x3 x4 x5 : Value} {g6 g7 : Nat}
theorem PairJ.start (w : World) (a b : U) : PairJ w a b w.drew false false false false false false false false undef undef undef undef undef undef 0 0 :=
  ⟨(Below.refl _ _).drew, nofun, nofun, nofun, nofun, nofun, nofun, nofun, nofun, nofun⟩
theorem PairJ.grow (h : PairJ w0 a b W b0 b1 b2 b3 b4 b5 b6 b7 x0 x1 x2 x3 x4 x5 g6 g7) (hb : Below W.heap.size W W') : PairJ w0 a b W' b0 b1 b2 b3 b4 b5 b6 b7 x0 x1 x2 x3 x4 x5 g6 g7 :=
  ⟨below_of h.below hb, h.e0, h.e1, h.e2, h.e3, fun k => by obtain ⟨p, q, f, r, s⟩ := h.k4 k; exact ⟨p, q, f, r.keep hb, s⟩, fun k => by obtain ⟨p, q, f, r, s⟩ := h.k5 k; exact ⟨p, q, f, r.keep hb, s⟩, h.ne, h.o6, h.o7⟩
theorem PairJ.load0 (h : PairJ w0 a b W b0 b1 b2 b3 b4 b5 b6 b7 x0 x1 x2 x3 x4 x5 g6 g7) : PairJ w0 a b W true b1 b2 b3 b4 b5 b6 b7 (.agg #[.int .u64 (hiZ a), .int .u64 (loZ a)]) x1 x2 x3 x4 x5 g6 g7 :=
  ⟨h.below, fun _ => rfl, h.e1, h.e2, h.e3, h.k4, h.k5, h.ne, h.o6, h.o7⟩
theorem PairJ.load2 (h : PairJ w0 a b W b0 b1 b2 b3 b4 b5 b6 b7 x0 x1 x2 x3 x4 x5 g6 g7) : PairJ w0 a b W b0 b1 true b3 b4 b5 b6 b7 x0 x1 (.agg #[.int .u64 (hiZ b), .int .u64 (loZ b)]) x3 x4 x5 g6 g7 :=
  ⟨h.below, h.e0, h.e1, fun _ => rfl, h.e3, h.k4, h.k5, h.ne, h.o6, h.o7⟩
theorem PairJ.call1 (h : PairJ w0 a b W b0 b1 b2 b3 b4 b5 b6 b7 x0 x1 x2 x3 x4 x5 g6 g7) (hb : Below W.heap.size W W') : PairJ w0 a b W' b0 true b2 b3 b4 b5 b6 b7 x0 (.agg (A16 (byf a.n))) x2 x3 x4 x5 g6 g7 := by
  have h := h.grow hb
  exact ⟨h.below, h.e0, fun _ => rfl, h.e2, h.e3, h.k4, h.k5, h.ne, h.o6, h.o7⟩
theorem PairJ.call3 (h : PairJ w0 a b W b0 b1 b2 b3 b4 b5 b6 b7 x0 x1 x2 x3 x4 x5 g6 g7) (hb : Below W.heap.size W W') : PairJ w0 a b W' b0 b1 b2 true b4 b5 b6 b7 x0 x1 x2 (.agg (A16 (byf b.n))) x4 x5 g6 g7 := by
  have h := h.grow hb
  exact ⟨h.below, h.e0, h.e1, h.e2, fun _ => rfl, h.k4, h.k5, h.ne, h.o6, h.o7⟩
theorem PairJ.alloc4 (h : PairJ w0 a b W b0 b1 b2 b3 false b5 b6 b7 x0 x1 x2 x3 x4 x5 g6 g7) : PairJ w0 a b (W.alloc (.cells (A16 z16) 58)) b0 b1 b2 b3 true b5 b6 b7 x0 x1 x2 x3 (.pointer (some ⟨W.heap.size, 0, none⟩)) x5 W.heap.size g7 := by
  have h' := h.grow ((Below.refl W.heap.size W).alloc (Nat.le_refl _) (.cells (A16 z16) 58))
  refine ⟨h'.below, h'.e0, h'.e1, h'.e2, h'.e3, fun _ => ⟨rfl, h.below.size, z16, Blk16.new_at _ _ rfl, fun k => ?_⟩, h'.k5, fun _ k => ?_, fun _ => rfl, h'.o7⟩
  · have := h.o6 k; cases this
  · obtain ⟨_, _, f, r, _⟩ := h.k5 k
    have := r.lt; omega
theorem PairJ.alloc5 (h : PairJ w0 a b W b0 b1 b2 b3 b4 false b6 b7 x0 x1 x2 x3 x4 x5 g6 g7) : PairJ w0 a b (W.alloc (.cells (A16 z16) 58)) b0 b1 b2 b3 b4 true b6 b7 x0 x1 x2 x3 x4 (.pointer (some ⟨W.heap.size, 0, none⟩)) g6 W.heap.size := by
  have h' := h.grow ((Below.refl W.heap.size W).alloc (Nat.le_refl _) (.cells (A16 z16) 58))
  refine ⟨h'.below, h'.e0, h'.e1, h'.e2, h'.e3, h'.k4, fun _ => ⟨rfl, h.below.size, z16, Blk16.new_at _ _ rfl, fun k => ?_⟩, fun k _ => ?_, h'.o6, fun _ => rfl⟩
  · have := h.o7 k; cases this
  · obtain ⟨_, _, f, r, _⟩ := h.k4 k
    have := r.lt; omega
theorem PairJ.store6 (h : PairJ w0 a b W b0 b1 b2 b3 true true b6 b7 x0 x1 x2 x3 x4 x5 g6 g7) : PairJ w0 a b (W.setCells g6 0 (A16 (byf a.n)).toList) b0 b1 b2 b3 true true true b7 x0 x1 x2 x3 x4 x5 g6 g7 := by
  obtain ⟨p, q, f, r, s⟩ := h.k4 rfl
  obtain ⟨p', q', f', r', s'⟩ := h.k5 rfl
  have hne := h.ne rfl rfl
  exact ⟨below_setCells h.below q, h.e0, h.e1, h.e2, h.e3, fun _ => ⟨p, q, _, r.setCells _, fun _ => rfl⟩, fun _ => ⟨p', q', f', r'.setCells_other (Ne.symm hne), s'⟩, h.ne, fun _ => rfl, h.o7⟩
theorem PairJ.store7 (h : PairJ w0 a b W b0 b1 b2 b3 true true b6 b7 x0 x1 x2 x3 x4 x5 g6 g7) : PairJ w0 a b (W.setCells g7 0 (A16 (byf b.n)).toList) b0 b1 b2 b3 true true b6 true x0 x1 x2 x3 x4 x5 g6 g7 := by
  obtain ⟨p, q, f, r, s⟩ := h.k4 rfl
  obtain ⟨p', q', f', r', s'⟩ := h.k5 rfl
  have hne := h.ne rfl rfl
  exact ⟨below_setCells h.below q', h.e0, h.e1, h.e2, h.e3, fun _ => ⟨p, q, f, r.setCells_other hne, s⟩, fun _ => ⟨p', q', _, r'.setCells _, fun _ => rfl⟩, h.ne, h.o6, fun _ => rfl⟩
end
theorem info16 : (Try.prog.info? 58).map (·.size) = some 16 := by kernel_rfl
theorem one16 (f : Nat → Int) : (A16 f).all (·.oneCell') = true := by simp [A16, Value.oneCell']
end Go.Proofs.Ytjdjebhimljedaa
