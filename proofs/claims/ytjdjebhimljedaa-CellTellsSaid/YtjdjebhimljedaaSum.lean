/-
  WALKS: wide.Sum: any numbers' sum.
-/
import Derived.Test.YtjdjebhimljedaaAdd
import Derived.Lib.SmallJoins
namespace Go.Proofs.Ytjdjebhimljedaa
open Go Go.RowKit

/-- The sum of numbers. -/
def sumN : List U → Nat
  | [] => 0
  | a :: l => a.n + sumN l
theorem sumN_take (l : List U) (k : Nat) (h : k < l.length) : sumN (l.take (k + 1)) = sumN (l.take k) + l[k].n := by
  induction l generalizing k with
  | nil => simp at h
  | cons a l ih =>
    cases k with
    | zero => simp [sumN]
    | succ k =>
      simp only [List.take_succ_cons, sumN, List.getElem_cons_succ]
      rw [ih k (by simpa using h)]
      omega
theorem sumN_le (l : List U) (k : Nat) : sumN (l.take k) ≤ sumN l := by
  induction l generalizing k with
  | nil => simp [sumN]
  | cons a l ih =>
    cases k with
    | zero => simp [sumN]
    | succ k => simp only [List.take_succ_cons, sumN]; have := ih k; omega
/-- What the cells of a slice of numbers hold. -/
def rowOf (w : World) (b off : Nat) (l : List U) : Prop := ∀ i (h : i < l.length), w.cell? ⟨b, off + i * 2, none⟩ = some (.int .u64 (hiZ l[i])) ∧ w.cell? ⟨b, off + i * 2 + 1, none⟩ = some (.int .u64 (loZ l[i]))
theorem we_eq' {h l h' l' e e' : Int} (e1 : h = h') (e2 : l = l') (e3 : e = e') :
    Ending.returned (.tuple #[.agg #[.int .u64 h, .int .u64 l], .int .i64 e]) = Ending.returned (.tuple #[.agg #[.int .u64 h', .int .u64 l'], .int .i64 e']) := by rw [e1, e2, e3]

theorem cell_blk {w : World} {g : Nat} {cs : Array Value} {t : TypeId} {fr : Nat × Nat} (h : w.heap[g]? = some (.cells cs t fr)) (i : Nat) : w.cell? ⟨g, i, none⟩ = cs[i]? := by simp [World.cell?, h]
theorem free_blk {w : World} {g : Nat} {cs : Array Value} {t : TypeId} (h : w.heap[g]? = some (.cells cs t (0, 0))) (i : Nat) : w.frozen? ⟨g, i, none⟩ = false := by simp [World.frozen?, h]
/-- A block of two numbers of 64 bits, of the call's own. -/
structure Blk2 (w : World) (g : Nat) (h l : Int) : Prop where
  blk : w.heap[g]? = some (.cells #[.int .u64 h, .int .u64 l] 26 (0, 0))
theorem Blk2.c0 {w : World} {g : Nat} {h l : Int} (x : Blk2 w g h l) : w.cell? ⟨g, 0, none⟩ = some (.int .u64 h) := by rw [cell_blk x.blk]; rfl
theorem Blk2.c1 {w : World} {g : Nat} {h l : Int} (x : Blk2 w g h l) : w.cell? ⟨g, 1, none⟩ = some (.int .u64 l) := by rw [cell_blk x.blk]; rfl
theorem Blk2.f0 {w : World} {g : Nat} {h l : Int} (x : Blk2 w g h l) : w.frozen? ⟨g, 0, none⟩ = false := free_blk x.blk 0
theorem Blk2.f1 {w : World} {g : Nat} {h l : Int} (x : Blk2 w g h l) : w.frozen? ⟨g, 1, none⟩ = false := free_blk x.blk 1
theorem Blk2.lt {w : World} {g : Nat} {h l : Int} (x : Blk2 w g h l) : g < w.heap.size := by
  rcases Nat.lt_or_ge g w.heap.size with h' | h'
  · exact h'
  · have := x.blk; rw [Array.getElem?_eq_none h'] at this; cases this
theorem Blk2.keep {w w' : World} {g : Nat} {h l : Int} (x : Blk2 w g h l) (hb : Below w.heap.size w w') : Blk2 w' g h l := ⟨by rw [hb.block g x.lt]; exact x.blk⟩
theorem Blk2.alloc {w : World} {g : Nat} {h l : Int} (x : Blk2 w g h l) (o : Obj) : Blk2 (w.alloc o) g h l := x.keep ((Below.refl _ _).alloc (Nat.le_refl _) o)
theorem Blk2.new (w : World) (h l : Int) : Blk2 (w.alloc (.cells #[.int .u64 h, .int .u64 l] 26)) w.heap.size h l := ⟨by
  show (w.heap.push _)[w.heap.size]? = _
  rw [Array.getElem?_push, if_pos rfl]⟩
theorem Blk2.set {w : World} {g : Nat} {h l : Int} (x : Blk2 w g h l) (h' l' : Int) : Blk2 ((w.setCell ⟨g, 0, none⟩ (.int .u64 h')).setCell ⟨g, 1, none⟩ (.int .u64 l')) g h' l' := by
  have e1 := Joins.block_setCell (i := 0) x.blk (.int .u64 h')
  have e2 := Joins.block_setCell (i := 1) e1 (.int .u64 l')
  exact ⟨e2⟩
theorem Blk2.other {w : World} {g : Nat} {h l : Int} (x : Blk2 w g h l) (a : Addr) (v : Value) (hne : g ≠ a.block) : Blk2 (w.setCell a v) g h l := ⟨by rw [Below.heap_setCell _ _ _ _ hne]; exact x.blk⟩

theorem Blk2.new_at (w : World) (g : Nat) {h l : Int} (hg : g = w.heap.size) : Blk2 (w.alloc (.cells #[.int .u64 h, .int .u64 l] 26)) g h l := by
  subst hg; exact Blk2.new w h l
theorem Blk2.drew {w : World} {g : Nat} {h l : Int} (x : Blk2 w g h l) : Blk2 w.drew g h l := ⟨x.blk⟩
theorem Blk2.drewN {w : World} {g n : Nat} {h l : Int} (x : Blk2 w g h l) : Blk2 (w.drewN n) g h l := ⟨x.blk⟩
/-- What holds at a round's head. -/
structure SumInv (w wr : World) (l : List U) (k : Nat) : Prop where
  below : Below w.heap.size w wr
  r0 : Blk2 wr w.heap.size 0 0
  r1 : Blk2 wr (w.heap.size + 1) (hiZ (cutU (sumN (l.take k)))) (loZ (cutU (sumN (l.take k))))
  fits : sumN (l.take k) < 340282366920938463463374607431768211456

theorem sumInv_start (w : World) (l : List U) : SumInv w ((w.alloc (.cells #[.int .u64 0, .int .u64 0] 26)).alloc (.cells #[.int .u64 0, .int .u64 0] 26)) l 0 := by
  refine ⟨by go_grown, (Blk2.new w 0 0).alloc _, ?_, by simp [sumN]⟩
  have h := Blk2.new (w.alloc (.cells #[.int .u64 0, .int .u64 0] 26)) 0 0
  have e : (w.alloc (.cells #[.int .u64 0, .int .u64 0] 26)).heap.size = w.heap.size + 1 := by simp
  rw [e] at h
  have e2 : cutU (sumN (l.take 0)) = U.zero := by rw [List.take_zero]; exact U.ext (cutU_n (by simp [sumN]))
  rw [e2]
  exact h

set_option maxHeartbeats 1000000 in
theorem sum_any (l : List U) (b off cap : Nat) (w : World) (hrow : rowOf w b off l) (hb : b < w.heap.size) (hlen : l.length ≤ 9223372036854775807) :
    Calls Try.prog 21 #[.slice (some ⟨b, off, none⟩) l.length cap] w fun e w' =>
      e = .returned (.tuple #[.agg #[.int .u64 (hiZ (cutU (sumN l))), .int .u64 (loZ (cutU (sumN l)))], .int .i64 (cutE (sumN l))]) ∧ Below w.heap.size w w' := by
  have HR := Lib.hid hrow
  clear hrow
  go_enter Try.func21, Try.ntmps21
  go_wp2_with fail
  go_loopw [11] (fun i wr => ∃ k : Nat, k ≤ l.length ∧ i = .int .i64 k ∧ SumInv w wr l k) (fun i _ => l.length - (intOf i).toNat)
  case atStart => exact ⟨0, Nat.zero_le _, rfl, sumInv_start w l⟩
  case round =>
    obtain ⟨k, hk, rfl, hI⟩ := hrel
    rename World => wr
    obtain ⟨S, hS⟩ : ∃ S, S = cutU (sumN (l.take k)) := ⟨_, rfl⟩
    have hSn : S.n = sumN (l.take k) := by rw [hS]; exact cutU_n hI.fits
    have hr1 := hI.r1
    rw [← hS] at hr1
    have HSN := Lib.hid hSn
    clear hSn hS
    have z0 := hI.r0.c0; have z1 := hI.r0.c1; have z2 := hI.r0.f0; have z3 := hI.r0.f1
    have y0 := hr1.c0; have y1 := hr1.c1; have y2 := hr1.f0; have y3 := hr1.f1
    have s0 := hI.r0.lt
    have s1 := hr1.lt
    have HI := Lib.hid hI
    have HR1 := Lib.hid hr1
    clear hI hr1
    by_cases hlt : k < l.length
    · obtain ⟨q0, q1⟩ := HR.out k hlt
      rw [← HI.out.below.cell (p := ⟨b, off + k * 2, none⟩) hb] at q0
      rw [← HI.out.below.cell (p := ⟨b, off + k * 2 + 1, none⟩) hb] at q1
      have hst := Lib.hid (sumN_take l k hlt)
      have hle := Lib.hid (sumN_le l (k + 1))
      have hb0 : Below w.heap.size w (wr.alloc (.cells #[.int .u64 (hiZ l[k]), .int .u64 (loZ l[k])] 26)) := HI.out.below.alloc (by omega) _
      by_cases hov : S.n + l[k].n < 340282366920938463463374607431768211456
      · have hE : (addE S l[k] != 0) = false := by rw [show addE S l[k] = 0 from cutE_lt hov]; rfl
        have HOV := Lib.hid hov
        clear hov
        go_wp2_with fail
        refine (add_any _ _ _).mono ?_
        rintro e w1 ⟨rfl, hb1⟩
        have x0 := (HI.out.r0.alloc (.cells #[.int .u64 (hiZ l[k]), .int .u64 (loZ l[k])] 26)).keep hb1
        have x1 := (HR1.out.alloc (.cells #[.int .u64 (hiZ l[k]), .int .u64 (loZ l[k])] 26)).keep hb1
        have X0 := Lib.hid x0
        have X1 := Lib.hid x1
        have HB1 := Lib.hid (below_of hb0 hb1)
        have a0 := x1.c0; have a1 := x1.c1; have a2 := x1.f0; have a3 := x1.f1
        have t0 := x0.lt; have t1 := x1.lt
        clear x0 x1 hb0 hb1
        go_wp2_with fail
        go_roundw
        case rel =>
          have hb := HB1.out
          have e : cutU (sumN (l.take (k + 1))) = addU S l[k] := by unfold addU; rw [hst.out, HSN.out]
          have r1 := (X1.out.set (hiZ (addU S l[k])) (loZ (addU S l[k]))).alloc (.cells #[.int .u64 (hiZ (addU S l[k])), .int .u64 (loZ (addU S l[k]))] 26)
          exact ⟨k + 1, by omega, by go_num, by go_grown, ((X0.out.other _ _ (by simp)).other _ _ (by simp)).alloc _, by rw [e]; exact r1, by rw [hst.out, ← HSN.out]; exact HOV.out⟩
        case measure => simp [intOf]; omega
      · have hE : (addE S l[k] != 0) = true := by rw [show addE S l[k] = 1 from cutE_ge (by omega)]; rfl
        have HOV := Lib.hid hov
        clear hov
        go_wp2_with fail
        refine (add_any _ _ _).mono ?_
        rintro e w1 ⟨rfl, hb1⟩
        have x0 := (HI.out.r0.alloc (.cells #[.int .u64 (hiZ l[k]), .int .u64 (loZ l[k])] 26)).keep hb1
        have HB1 := Lib.hid (below_of hb0 hb1)
        have a0 := x0.c0; have a1 := x0.c1; have a2 := x0.f0; have a3 := x0.f1
        have t0 := x0.lt
        have g := (x0.set 0 0).alloc (.cells #[.int .u64 (hiZ (addU S l[k])), .int .u64 (loZ (addU S l[k]))] 26)
        have g0 := Lib.hid g.c0
        have g1 := Lib.hid g.c1
        clear x0 hb0 hb1 g
        go_wp2_with fail
        have g0' := g0.out
        have g1' := g1.out
        refine bodyPost_ret (v := .tuple #[.agg #[.int .u64 0, .int .u64 0], .int .i64 (addE S l[k])]) (by simp [results, Try.results21, go_sem, g0', g1']) rfl ?_
        have hb := HB1.out
        have hge : 340282366920938463463374607431768211456 ≤ sumN l := by
          have h1 := hst.out; have h2 := hle.out; have h3 := HSN.out; have h4 := HOV.out
          omega
        refine ⟨we_eq' ?_ ?_ ?_, by go_grown⟩
        · rw [cutU_ge hge]; rfl
        · rw [cutU_ge hge]; rfl
        · rw [cutE_ge hge]; exact cutE_ge (Nat.le_of_not_lt HOV.out)
    · have g := HI.out.r0.set (hiZ S) (loZ S)
      have g0 := Lib.hid g.c0
      have g1 := Lib.hid g.c1
      clear g
      go_wp2_with fail
      have g0' := g0.out
      have g1' := g1.out
      refine bodyPost_ret (v := .tuple #[.agg #[.int .u64 (hiZ S), .int .u64 (loZ S)], .int .i64 0]) (by simp [results, Try.results21, go_sem, g0', g1']) rfl ?_
      have hb := HI.out.below
      have ht : l.take k = l := List.take_of_length_le (by omega)
      have h3 := HSN.out
      have h4 := HI.out.fits
      rw [ht] at h3 h4
      have e : cutU (sumN l) = S := U.ext (by rw [cutU_n h4, h3])
      exact ⟨we_eq' (by rw [e]) (by rw [e]) (cutE_lt h4).symm, by go_grown⟩
end Go.Proofs.Ytjdjebhimljedaa
