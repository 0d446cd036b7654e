/-
  WALKS: plimsollref02.Product: two numbers' product, as thirty-two bytes.
-/
import Derived.Test.YtnbchhjanlpdlaaDoorQc
import Derived.Laws.Rows
namespace Go.Proofs.YtnbchhjanlpdlaaDoor
open Go Go.RowKit

/-- Thirty-two cells. -/
abbrev A32 (f : Nat → Int) : Array Value := #[.int .i64 (f 0), .int .i64 (f 1), .int .i64 (f 2), .int .i64 (f 3), .int .i64 (f 4), .int .i64 (f 5), .int .i64 (f 6), .int .i64 (f 7), .int .i64 (f 8), .int .i64 (f 9), .int .i64 (f 10), .int .i64 (f 11), .int .i64 (f 12), .int .i64 (f 13), .int .i64 (f 14), .int .i64 (f 15), .int .i64 (f 16), .int .i64 (f 17), .int .i64 (f 18), .int .i64 (f 19), .int .i64 (f 20), .int .i64 (f 21), .int .i64 (f 22), .int .i64 (f 23), .int .i64 (f 24), .int .i64 (f 25), .int .i64 (f 26), .int .i64 (f 27), .int .i64 (f 28), .int .i64 (f 29), .int .i64 (f 30), .int .i64 (f 31)]
theorem below32 {P : Nat → Prop} (h0 : P 0) (h1 : P 1) (h2 : P 2) (h3 : P 3) (h4 : P 4) (h5 : P 5) (h6 : P 6) (h7 : P 7) (h8 : P 8) (h9 : P 9) (h10 : P 10) (h11 : P 11) (h12 : P 12) (h13 : P 13) (h14 : P 14) (h15 : P 15) (h16 : P 16) (h17 : P 17) (h18 : P 18) (h19 : P 19) (h20 : P 20) (h21 : P 21) (h22 : P 22) (h23 : P 23) (h24 : P 24) (h25 : P 25) (h26 : P 26) (h27 : P 27) (h28 : P 28) (h29 : P 29) (h30 : P 30) (h31 : P 31) : ∀ j, j < 32 → P j
  | 0, _ => h0 | 1, _ => h1 | 2, _ => h2 | 3, _ => h3 | 4, _ => h4 | 5, _ => h5 | 6, _ => h6 | 7, _ => h7 | 8, _ => h8 | 9, _ => h9 | 10, _ => h10 | 11, _ => h11 | 12, _ => h12 | 13, _ => h13 | 14, _ => h14 | 15, _ => h15 | 16, _ => h16 | 17, _ => h17 | 18, _ => h18 | 19, _ => h19 | 20, _ => h20 | 21, _ => h21 | 22, _ => h22 | 23, _ => h23 | 24, _ => h24 | 25, _ => h25 | 26, _ => h26 | 27, _ => h27 | 28, _ => h28 | 29, _ => h29 | 30, _ => h30 | 31, _ => h31
  | n + 32, h => by omega
theorem A32_get (f : Nat → Int) : ∀ j, j < 32 → (A32 f)[j]? = some (.int .i64 (f j)) := below32 rfl rfl rfl rfl rfl rfl rfl rfl rfl rfl rfl rfl rfl rfl rfl rfl rfl rfl rfl rfl rfl rfl rfl rfl rfl rfl rfl rfl rfl rfl rfl rfl
theorem A32_congr {f g : Nat → Int} (h : ∀ j, j < 32 → f j = g j) : A32 f = A32 g := by
  simp only [A32]
  rw [h 0 (by decide), h 1 (by decide), h 2 (by decide), h 3 (by decide), h 4 (by decide), h 5 (by decide), h 6 (by decide), h 7 (by decide), h 8 (by decide), h 9 (by decide), h 10 (by decide), h 11 (by decide), h 12 (by decide), h 13 (by decide), h 14 (by decide), h 15 (by decide), h 16 (by decide), h 17 (by decide), h 18 (by decide), h 19 (by decide), h 20 (by decide), h 21 (by decide), h 22 (by decide), h 23 (by decide), h 24 (by decide), h 25 (by decide), h 26 (by decide), h 27 (by decide), h 28 (by decide), h 29 (by decide), h 30 (by decide), h 31 (by decide)]
theorem A32_set (f : Nat → Int) (x : Int) : ∀ i, i < 32 → (A32 f).set! i (.int .i64 x) = A32 (upd f i x) := below32 rfl rfl rfl rfl rfl rfl rfl rfl rfl rfl rfl rfl rfl rfl rfl rfl rfl rfl rfl rfl rfl rfl rfl rfl rfl rfl rfl rfl rfl rfl rfl rfl
/-- A block of thirty-two cells, of the call's own. -/
structure Blk32 (w : World) (g : Nat) (f : Nat → Int) : Prop where
  blk : w.heap[g]? = some (.cells (A32 f) 63 (0, 0))
section
variable {w w' : World} {g n : Nat} {f f' : Nat → Int}
theorem Blk32.cell (h : Blk32 w g f) {j : Nat} (hj : j < 32) : w.cell? ⟨g, j, none⟩ = some (.int .i64 (f j)) := by rw [cell_blk h.blk, A32_get f j hj]
theorem Blk32.free (h : Blk32 w g f) (j : Nat) : w.frozen? ⟨g, j, none⟩ = false := free_blk h.blk j
theorem Blk32.lt (h : Blk32 w g f) : g < w.heap.size := blk_lt h.blk
theorem Blk32.keep (x : Blk32 w g f) (hb : Below w.heap.size w w') : Blk32 w' g f := ⟨by rw [hb.block g x.lt]; exact x.blk⟩
theorem Blk32.alloc (x : Blk32 w g f) (o : Obj) : Blk32 (w.alloc o) g f := x.keep ((Below.refl _ _).alloc (Nat.le_refl _) o)
theorem Blk32.drew (x : Blk32 w g f) : Blk32 w.drew g f := ⟨x.blk⟩
theorem Blk32.drewN (x : Blk32 w g f) : Blk32 (w.drewN n) g f := ⟨x.blk⟩
theorem Blk32.new_at (w : World) (g : Nat) {f : Nat → Int} (hg : g = w.heap.size) : Blk32 (w.alloc (.cells (A32 f) 63)) g f := by
  subst hg
  refine ⟨?_⟩
  show (w.heap.push _)[w.heap.size]? = _
  rw [Array.getElem?_push, if_pos rfl]
theorem Blk32.other (x : Blk32 w g f) (a : Addr) (v : Value) (hne : g ≠ a.block) : Blk32 (w.setCell a v) g f := ⟨by rw [Below.heap_setCell _ _ _ _ hne]; exact x.blk⟩
theorem Blk32.set (x : Blk32 w g f) {i : Nat} (hi : i < 32) (v : Int) : Blk32 (w.setCell ⟨g, i, none⟩ (.int .i64 v)) g (upd f i v) :=
  ⟨by rw [Joins.block_setCell (i := i) x.blk (.int .i64 v), ← A32_set f v i hi, Array.set!_eq_setIfInBounds]⟩
theorem Blk32.congr (x : Blk32 w g f) (h : ∀ j, j < 32 → f j = f' j) : Blk32 w g f' := ⟨by rw [← A32_congr h]; exact x.blk⟩
/-- All cells set. -/
abbrev put32 (w : World) (g : Nat) (f : Nat → Int) : World := ((((((((((((((((((((((((((((((((w.setCell ⟨g, 0, none⟩ (.int .i64 (f 0))).setCell ⟨g, 1, none⟩ (.int .i64 (f 1))).setCell ⟨g, 2, none⟩ (.int .i64 (f 2))).setCell ⟨g, 3, none⟩ (.int .i64 (f 3))).setCell ⟨g, 4, none⟩ (.int .i64 (f 4))).setCell ⟨g, 5, none⟩ (.int .i64 (f 5))).setCell ⟨g, 6, none⟩ (.int .i64 (f 6))).setCell ⟨g, 7, none⟩ (.int .i64 (f 7))).setCell ⟨g, 8, none⟩ (.int .i64 (f 8))).setCell ⟨g, 9, none⟩ (.int .i64 (f 9))).setCell ⟨g, 10, none⟩ (.int .i64 (f 10))).setCell ⟨g, 11, none⟩ (.int .i64 (f 11))).setCell ⟨g, 12, none⟩ (.int .i64 (f 12))).setCell ⟨g, 13, none⟩ (.int .i64 (f 13))).setCell ⟨g, 14, none⟩ (.int .i64 (f 14))).setCell ⟨g, 15, none⟩ (.int .i64 (f 15))).setCell ⟨g, 16, none⟩ (.int .i64 (f 16))).setCell ⟨g, 17, none⟩ (.int .i64 (f 17))).setCell ⟨g, 18, none⟩ (.int .i64 (f 18))).setCell ⟨g, 19, none⟩ (.int .i64 (f 19))).setCell ⟨g, 20, none⟩ (.int .i64 (f 20))).setCell ⟨g, 21, none⟩ (.int .i64 (f 21))).setCell ⟨g, 22, none⟩ (.int .i64 (f 22))).setCell ⟨g, 23, none⟩ (.int .i64 (f 23))).setCell ⟨g, 24, none⟩ (.int .i64 (f 24))).setCell ⟨g, 25, none⟩ (.int .i64 (f 25))).setCell ⟨g, 26, none⟩ (.int .i64 (f 26))).setCell ⟨g, 27, none⟩ (.int .i64 (f 27))).setCell ⟨g, 28, none⟩ (.int .i64 (f 28))).setCell ⟨g, 29, none⟩ (.int .i64 (f 29))).setCell ⟨g, 30, none⟩ (.int .i64 (f 30))).setCell ⟨g, 31, none⟩ (.int .i64 (f 31)))
theorem Blk32.put (x : Blk32 w g f') (f : Nat → Int) : Blk32 (put32 w g f) g f :=
  Blk32.congr (((((((((((((((((((((((((((((((((x.set (i := 0) (by decide) (f 0)).set (i := 1) (by decide) (f 1)).set (i := 2) (by decide) (f 2)).set (i := 3) (by decide) (f 3)).set (i := 4) (by decide) (f 4)).set (i := 5) (by decide) (f 5)).set (i := 6) (by decide) (f 6)).set (i := 7) (by decide) (f 7)).set (i := 8) (by decide) (f 8)).set (i := 9) (by decide) (f 9)).set (i := 10) (by decide) (f 10)).set (i := 11) (by decide) (f 11)).set (i := 12) (by decide) (f 12)).set (i := 13) (by decide) (f 13)).set (i := 14) (by decide) (f 14)).set (i := 15) (by decide) (f 15)).set (i := 16) (by decide) (f 16)).set (i := 17) (by decide) (f 17)).set (i := 18) (by decide) (f 18)).set (i := 19) (by decide) (f 19)).set (i := 20) (by decide) (f 20)).set (i := 21) (by decide) (f 21)).set (i := 22) (by decide) (f 22)).set (i := 23) (by decide) (f 23)).set (i := 24) (by decide) (f 24)).set (i := 25) (by decide) (f 25)).set (i := 26) (by decide) (f 26)).set (i := 27) (by decide) (f 27)).set (i := 28) (by decide) (f 28)).set (i := 29) (by decide) (f 29)).set (i := 30) (by decide) (f 30)).set (i := 31) (by decide) (f 31))) (below32 rfl rfl rfl rfl rfl rfl rfl rfl rfl rfl rfl rfl rfl rfl rfl rfl rfl rfl rfl rfl rfl rfl rfl rfl rfl rfl rfl rfl rfl rfl rfl rfl)
theorem below_put32 {w0 w : World} {b g : Nat} {f : Nat → Int} (h : Below b w0 w) (hle : b ≤ g) : Below b w0 (put32 w g f) := ((((((((((((((((((((((((((((((((h.setCell (p := ⟨g, 0, none⟩) hle _).setCell (p := ⟨g, 1, none⟩) hle _).setCell (p := ⟨g, 2, none⟩) hle _).setCell (p := ⟨g, 3, none⟩) hle _).setCell (p := ⟨g, 4, none⟩) hle _).setCell (p := ⟨g, 5, none⟩) hle _).setCell (p := ⟨g, 6, none⟩) hle _).setCell (p := ⟨g, 7, none⟩) hle _).setCell (p := ⟨g, 8, none⟩) hle _).setCell (p := ⟨g, 9, none⟩) hle _).setCell (p := ⟨g, 10, none⟩) hle _).setCell (p := ⟨g, 11, none⟩) hle _).setCell (p := ⟨g, 12, none⟩) hle _).setCell (p := ⟨g, 13, none⟩) hle _).setCell (p := ⟨g, 14, none⟩) hle _).setCell (p := ⟨g, 15, none⟩) hle _).setCell (p := ⟨g, 16, none⟩) hle _).setCell (p := ⟨g, 17, none⟩) hle _).setCell (p := ⟨g, 18, none⟩) hle _).setCell (p := ⟨g, 19, none⟩) hle _).setCell (p := ⟨g, 20, none⟩) hle _).setCell (p := ⟨g, 21, none⟩) hle _).setCell (p := ⟨g, 22, none⟩) hle _).setCell (p := ⟨g, 23, none⟩) hle _).setCell (p := ⟨g, 24, none⟩) hle _).setCell (p := ⟨g, 25, none⟩) hle _).setCell (p := ⟨g, 26, none⟩) hle _).setCell (p := ⟨g, 27, none⟩) hle _).setCell (p := ⟨g, 28, none⟩) hle _).setCell (p := ⟨g, 29, none⟩) hle _).setCell (p := ⟨g, 30, none⟩) hle _).setCell (p := ⟨g, 31, none⟩) hle _)
theorem Blk32.setCells (x : Blk32 w g f') (f : Nat → Int) : Blk32 (w.setCells g 0 (A32 f).toList) g f := x.put f
theorem Blk32.setCells_other {g' : Nat} (x : Blk32 w g f') (hne : g ≠ g') : Blk32 (w.setCells g' 0 (A32 f).toList) g f' :=
  show Blk32 (put32 w g' f) g f' from ((((((((((((((((((((((((((((((((x.other _ _ hne).other _ _ hne).other _ _ hne).other _ _ hne).other _ _ hne).other _ _ hne).other _ _ hne).other _ _ hne).other _ _ hne).other _ _ hne).other _ _ hne).other _ _ hne).other _ _ hne).other _ _ hne).other _ _ hne).other _ _ hne).other _ _ hne).other _ _ hne).other _ _ hne).other _ _ hne).other _ _ hne).other _ _ hne).other _ _ hne).other _ _ hne).other _ _ hne).other _ _ hne).other _ _ hne).other _ _ hne).other _ _ hne).other _ _ hne).other _ _ hne).other _ _ hne)
theorem below_setCells32 {w0 w : World} {b g : Nat} {f : Nat → Int} (h : Below b w0 w) (hle : b ≤ g) : Below b w0 (w.setCells g 0 (A32 f).toList) := below_put32 h hle
theorem Blk32.there (x : Blk32 w g f) : w.there g 0 32 := fun j hj => by
  rw [Nat.zero_add]
  exact ⟨by rw [x.cell hj]; rfl, x.free j⟩
theorem Blk32.range (h : Blk32 w g f) : w.rangeAt g 0 (A32 f).toList := fun j v hv => by
  have hj : j < 32 := (List.getElem?_eq_some_iff.1 hv).1
  have e := A32_get f j hj
  rw [Nat.zero_add, h.cell hj, ← e]
  simpa using hv
end
theorem info32 : (Tryd.prog.info? 63).map (·.size) = some 32 := by kernel_rfl
theorem one32 (f : Nat → Int) : (A32 f).all (·.oneCell') = true := by simp [A32, Value.oneCell']

/-! ### The sum in the middle -/
/-- The product of the first i bytes; with so many bytes of the next one's. -/
def pI (a b i : Nat) : Nat := a % 256 ^ i * b
def tK (a b i k : Nat) : Nat := pI a b i % 256 ^ (i + k) + byt a i * (b % 256 ^ k) * 256 ^ i
theorem pI_lt {a b i : Nat} (hb : b < 256 ^ 16) : pI a b i < 256 ^ (i + 16) := by
  unfold pI
  rw [Nat.pow_add]
  exact Nat.mul_lt_mul_of_lt_of_le (Nat.mod_lt _ (p256 i)) (Nat.le_of_lt hb) (p256 16)
theorem tK_start (a b i : Nat) : tK a b i 0 = pI a b i % 256 ^ i := by unfold tK; simp [Nat.mod_one]
theorem tK_next (a b i k : Nat) : tK a b i (k + 1) = tK a b i k + (byt (pI a b i) (i + k) + byt a i * byt b k) * 256 ^ (i + k) := by
  unfold tK
  rw [show i + (k + 1) = i + k + 1 by omega, byt_next, byt_next b k, Nat.mul_add, Nat.add_mul, Nat.add_mul, Nat.pow_add 256 i k]
  have e : byt a i * (byt b k * 256 ^ k) * 256 ^ i = byt a i * byt b k * (256 ^ i * 256 ^ k) := by
    rw [← Nat.mul_assoc, Nat.mul_assoc, Nat.mul_comm (256 ^ k)]
  rw [e]; omega
theorem tK_lt (a b i k : Nat) : tK a b i k < 256 ^ (i + k) * 256 := by
  unfold tK
  have h1 := Nat.mod_lt (pI a b i) (p256 (i + k))
  have h2 := byt_lt a i
  have h3 := Nat.mod_lt b (p256 k)
  have h4 : byt a i * (b % 256 ^ k) ≤ 255 * 256 ^ k := Nat.mul_le_mul (by omega) (by omega)
  have h5 : byt a i * (b % 256 ^ k) * 256 ^ i ≤ 255 * 256 ^ k * 256 ^ i := Nat.mul_le_mul_right _ h4
  have h6 : 255 * 256 ^ k * 256 ^ i = 255 * 256 ^ (i + k) := by rw [Nat.mul_assoc, ← Nat.pow_add, Nat.add_comm k i]
  omega
/-- What is carried. -/
def cK (a b i k : Nat) : Nat := tK a b i k / 256 ^ (i + k)
theorem cK_lt (a b i k : Nat) : cK a b i k < 256 := Nat.div_lt_of_lt_mul (tK_lt a b i k)
theorem cK_start (a b i : Nat) : cK a b i 0 = 0 := by unfold cK; rw [tK_start]; exact Nat.div_eq_of_lt (Nat.mod_lt _ (p256 i))
theorem tK_div (a b i k : Nat) : tK a b i (k + 1) / 256 ^ (i + k) = byt (pI a b i) (i + k) + byt a i * byt b k + cK a b i k := by
  rw [tK_next, Nat.add_mul_div_right _ _ (p256 _)]; unfold cK; omega
theorem cK_next (a b i k : Nat) : cK a b i (k + 1) = (byt (pI a b i) (i + k) + byt a i * byt b k + cK a b i k) / 256 := by
  rw [← tK_div]; unfold cK; rw [show i + (k + 1) = i + k + 1 by omega, Nat.pow_succ, ← Nat.div_div_eq_div_mul]
theorem byt_tK (a b i k : Nat) : byt (tK a b i (k + 1)) (i + k) = (byt (pI a b i) (i + k) + byt a i * byt b k + cK a b i k) % 256 := by unfold byt; rw [tK_div]; rfl
theorem byt_low {x y e j : Nat} (h : j < e) : byt (x + y * 256 ^ e) j = byt x j := by
  unfold byt
  have e1 : y * 256 ^ e = (y * 256 ^ (e - j - 1)) * 256 * 256 ^ j := by rw [Nat.mul_assoc, ← Nat.pow_succ', Nat.mul_assoc, ← Nat.pow_add]; congr 2; omega
  rw [e1, Nat.add_mul_div_right _ _ (p256 j), Nat.add_mul_mod_self_right]
/-- The cells in the middle. -/
def mid (a b i k : Nat) : Nat → Int := fun j => if j < i + k then ((byt (tK a b i k) j : Nat) : Int) else ((byt (pI a b i) j : Nat) : Int)
theorem byt_mod {x e j : Nat} (h : j < e) : byt (x % 256 ^ e) j = byt x j := by
  have h1 := byt_low (x := x % 256 ^ e) (y := x / 256 ^ e) h
  rw [Nat.mul_comm, Nat.mod_add_div] at h1
  exact h1.symm
theorem mid_start (a b i j : Nat) : byf (pI a b i) j = mid a b i 0 j := by
  unfold mid byf
  by_cases h : j < i + 0
  · rw [if_pos h, tK_start, byt_mod (by omega)]
  · rw [if_neg h]
theorem mid_at (a b i k : Nat) : mid a b i k (i + k) = ((byt (pI a b i) (i + k) : Nat) : Int) := by unfold mid; rw [if_neg (by omega)]
theorem mid_next (a b i k j : Nat) : upd (mid a b i k) (i + k) ((byt (tK a b i (k + 1)) (i + k) : Nat) : Int) j = mid a b i (k + 1) j := by
  unfold upd mid
  by_cases h1 : j = i + k
  · rw [if_pos h1, if_pos (by omega), h1]
  · rw [if_neg h1]
    by_cases h2 : j < i + k
    · rw [if_pos h2, if_pos (by omega), tK_next, byt_low h2]
    · rw [if_neg h2, if_neg (by omega)]
theorem pI_next {a b i : Nat} (hb : b < 256 ^ 16) : tK a b i 16 = pI a b (i + 1) := by
  unfold tK
  rw [Nat.mod_eq_of_lt (pI_lt hb), Nat.mod_eq_of_lt hb]
  unfold pI
  rw [byt_next, Nat.add_mul, Nat.mul_assoc, Nat.mul_assoc, Nat.mul_comm b]
theorem byt_zero {x j : Nat} (h : x < 256 ^ j) : byt x j = 0 := by unfold byt; rw [Nat.div_eq_of_lt h]
theorem mid_end {a b i : Nat} (hb : b < 256 ^ 16) (j : Nat) : upd (mid a b i 16) (i + 16) ((cK a b i 16 : Nat) : Int) j = byf (pI a b (i + 1)) j := by
  have h0 := pI_lt (a := a) (i := i) hb
  have h1 := pI_lt (a := a) (i := i + 1) hb
  unfold upd mid byf
  by_cases h2 : j = i + 16
  · rw [if_pos h2, h2]
    unfold cK
    rw [pI_next hb]
    have h3 : pI a b (i + 1) / 256 ^ (i + 16) < 256 := Nat.div_lt_of_lt_mul (by rw [show i + 1 + 16 = i + 16 + 1 by omega, Nat.pow_succ] at h1; exact h1)
    unfold byt
    rw [Nat.mod_eq_of_lt h3]
  · rw [if_neg h2]
    by_cases h3 : j < i + 16
    · rw [if_pos h3, pI_next hb]
    · have h4 : 256 ^ (i + 16) ≤ 256 ^ j := Nat.pow_le_pow_right (by decide) (by omega)
      have h5 : 256 ^ (i + 1 + 16) ≤ 256 ^ j := Nat.pow_le_pow_right (by decide) (by omega)
      rw [if_neg h3, byt_zero (by omega), byt_zero (by omega)]
/-- What holds at the outer round's head. -/
structure ProdInv (w0 wr : World) (g6 g7 po pr : Nat) (a b : U) (f : Nat → Int) : Prop where
  below : Below w0.heap.size w0 wr ∨ True
  bw : ∀ w : World, w.heap.size ≤ po → Below w.heap.size w w0 → Below w.heap.size w wr
  r6 : Blk16 wr g6 (byf a.n)
  r7 : Blk16 wr g7 (byf b.n)
  ro : Blk32 wr po f
  rr : Blk32 wr pr z16
theorem ProdInv.drewN {w0 wr : World} {g6 g7 po pr n : Nat} {a b : U} {f : Nat → Int} (h : ProdInv w0 wr g6 g7 po pr a b f) : ProdInv w0 (wr.drewN n) g6 g7 po pr a b f :=
  ⟨Or.inr trivial, fun w h1 h2 => bdn (h.bw w h1 h2), h.r6.drewN, h.r7.drewN, h.ro.drewN, h.rr.drewN⟩
theorem ProdInv.set {w0 wr : World} {g6 g7 po pr : Nat} {a b : U} {f : Nat → Int} (h : ProdInv w0 wr g6 g7 po pr a b f) (h6 : g6 ≠ po) (h7 : g7 ≠ po) (hr : pr ≠ po) {i : Nat} (hi : i < 32) (v : Int) :
    ProdInv w0 (wr.setCell ⟨po, i, none⟩ (.int .i64 v)) g6 g7 po pr a b (upd f i v) :=
  ⟨Or.inr trivial, fun w h1 h2 => (h.bw w h1 h2).setCell (p := ⟨po, i, none⟩) h1 _, h.r6.other _ _ h6, h.r7.other _ _ h7, h.ro.set hi v, h.rr.other _ _ hr⟩
theorem ProdInv.congr {w0 wr : World} {g6 g7 po pr : Nat} {a b : U} {f f' : Nat → Int} (h : ProdInv w0 wr g6 g7 po pr a b f) (e : ∀ j, j < 32 → f j = f' j) : ProdInv w0 wr g6 g7 po pr a b f' :=
  ⟨Or.inr trivial, h.bw, h.r6, h.r7, h.ro.congr e, h.rr⟩

set_option maxHeartbeats 4000000 in
set_option maxRecDepth 100000 in
theorem rproduct (a b : U) (w : World) :
    Calls Tryd.prog 51 #[.agg #[.int .u64 (hiZ a), .int .u64 (loZ a)], .agg #[.int .u64 (hiZ b), .int .u64 (loZ b)]] w fun e w' =>
      e = .returned (.agg (A32 (byf (a.n * b.n)))) ∧ Below w.heap.size w w' := by
  go_enter Tryd.func51, Tryd.ntmps51
  go_upto_region 2 with fail
  obtain ⟨w0, hw0⟩ : ∃ w0, w0 = (((w.alloc (.cells #[.int .u64 (hiZ a), .int .u64 (loZ a)] 24)).alloc (.cells #[.int .u64 (hiZ b), .int .u64 (loZ b)] 24)).alloc (.cells (A32 z16) 63)).alloc (.cells (A32 z16) 63) := ⟨_, rfl⟩
  obtain ⟨pa, hpa⟩ : ∃ g, g = w.heap.size := ⟨_, rfl⟩
  obtain ⟨pb, hpb⟩ : ∃ g, g = w.heap.size + 1 := ⟨_, rfl⟩
  obtain ⟨pr, hpr⟩ : ∃ g, g = w.heap.size + 1 + 1 := ⟨_, rfl⟩
  obtain ⟨po, hpo⟩ : ∃ g, g = w.heap.size + 1 + 1 + 1 := ⟨_, rfl⟩
  have HA : Hid (Blk2 w0 pa (hiZ a) (loZ a)) := by rw [hw0]; exact (((Blk2.new_at _ _ hpa).alloc _).alloc _).alloc _
  have HB2 : Hid (Blk2 w0 pb (hiZ b) (loZ b)) := by rw [hw0]; exact ((Blk2.new_at _ _ (by simp [hpb])).alloc _).alloc _
  have HR : Hid (Blk32 w0 pr z16) := by rw [hw0]; exact (Blk32.new_at _ _ (by simp [hpr])).alloc _
  have HO : Hid (Blk32 w0 po z16) := by rw [hw0]; exact Blk32.new_at _ _ (by simp [hpo])
  have HW : Hid (Below w.heap.size w w0) := by rw [hw0]; exact (show Below w.heap.size w _ by go_grown)
  simp only [A32, z16] at hw0
  rw [← hw0, ← hpo, ← hpr, ← hpb, ← hpa]
  have HG : Hid (w.heap.size ≤ po ∧ w.heap.size ≤ pr) := ⟨by omega, by omega⟩
  have nro : pr ≠ po := by omega
  clear hw0 hpa hpb hpr hpo
  refine wp_region_inv (J := fun listed act W => ∃ (b0 b1 b2 b3 b4 b5 b6 b7 : Bool) (x0 x1 x2 x3 x4 x5 : Value) (g6 g7 : Nat), listed = #[b0, b1, b2, b3, b4, b5, b6, b7] ∧ act = { tmps := #[.agg #[.int .u64 (hiZ a), .int .u64 (loZ a)], .agg #[.int .u64 (hiZ b), .int .u64 (loZ b)], .pointer (some ⟨pa, 0, none⟩), .pointer (some ⟨pb, 0, none⟩), .pointer (some ⟨pr, 0, none⟩), .pointer (some ⟨po, 0, none⟩), x4, x5, undef, undef, undef, undef, x0, x1, x2, x3, undef, undef, undef, undef, undef, undef, undef, undef, undef, undef, undef, undef, undef, undef, undef, undef, undef, undef, undef, undef, undef, undef, undef, undef, undef, undef, undef, undef, undef, undef, undef, undef, undef, undef, undef, undef, undef, undef, undef], defers := [] } ∧ PairJ w0 a b W b0 b1 b2 b3 b4 b5 b6 b7 x0 x1 x2 x3 x4 x5 g6 g7) (by kernel_rfl) ⟨false, false, false, false, false, false, false, false, undef, undef, undef, undef, undef, undef, 0, 0, rfl, rfl, PairJ.start _ _ _⟩ ?_ ?_
  · intro listed act W i hJ hi
    obtain ⟨b0, b1, b2, b3, b4, b5, b6, b7, x0, x1, x2, x3, x4, x5, g6, g7, rfl, rfl, hJ⟩ := hJ
    have HJ := Lib.hid hJ
    obtain ⟨hi1, hi2, hi3⟩ := ready_spec hi
    clear hJ hi
    have hi4 : i < 8 := hi1
    clear hi1
    have hcase : i = 0 ∨ i = 1 ∨ i = 2 ∨ i = 3 ∨ i = 4 ∨ i = 5 ∨ i = 6 ∨ i = 7 := by omega
    clear hi4
    rcases hcase with rfl | rfl | rfl | rfl | rfl | rfl | rfl | rfl
    · refine wpOp_step (o := _) rfl (fun K hK => ?_)
      have HK := Lib.hid hK
      clear hK
      clear hi3 hi2
      have c0 := (HA.out.keep HJ.out.below).c0
      have c1 := (HA.out.keep HJ.out.below).c1
      go_simp
      exact HK.out _ _ ⟨_, _, _, _, _, _, _, _, _, _, _, _, _, _, _, _, rfl, rfl, HJ.out.load0⟩
    · refine wpOp_step (o := _) rfl (fun K hK => ?_)
      have HK := Lib.hid hK
      clear hK
      have hd := hi3 _ rfl
      simp [Region.binds] at hd
      clear hi3 hi2
      have q0 : b0 = true := by (cases b0 with | true => rfl | false => simp at hd)
      obtain rfl := HJ.out.e0 q0
      clear hd
      go_simp
      go_at_call 41
      refine (rbytes a _).mono ?_
      rintro e w1 ⟨rfl, hb⟩
      exact HK.out _ _ ⟨_, _, _, _, _, _, _, _, _, _, _, _, _, _, _, _, rfl, rfl, HJ.out.call1 hb⟩
    · refine wpOp_step (o := _) rfl (fun K hK => ?_)
      have HK := Lib.hid hK
      clear hK
      clear hi3 hi2
      have c0 := (HB2.out.keep HJ.out.below).c0
      have c1 := (HB2.out.keep HJ.out.below).c1
      go_simp
      exact HK.out _ _ ⟨_, _, _, _, _, _, _, _, _, _, _, _, _, _, _, _, rfl, rfl, HJ.out.load2⟩
    · refine wpOp_step (o := _) rfl (fun K hK => ?_)
      have HK := Lib.hid hK
      clear hK
      have hd := hi3 _ rfl
      simp [Region.binds] at hd
      clear hi3 hi2
      have q2 : b2 = true := by (cases b2 with | true => rfl | false => simp at hd)
      obtain rfl := HJ.out.e2 q2
      clear hd
      go_simp
      go_at_call 41
      refine (rbytes b _).mono ?_
      rintro e w1 ⟨rfl, hb⟩
      exact HK.out _ _ ⟨_, _, _, _, _, _, _, _, _, _, _, _, _, _, _, _, rfl, rfl, HJ.out.call3 hb⟩
    · refine wpOp_step (o := _) rfl (fun K hK => ?_)
      have HK := Lib.hid hK
      clear hK
      clear hi3
      obtain rfl : b4 = false := hi2
      go_simp
      exact HK.out _ _ ⟨_, _, _, _, _, _, _, _, _, _, _, _, _, _, _, _, rfl, rfl, HJ.out.alloc4⟩
    · refine wpOp_step (o := _) rfl (fun K hK => ?_)
      have HK := Lib.hid hK
      clear hK
      clear hi3
      obtain rfl : b5 = false := hi2
      go_simp
      exact HK.out _ _ ⟨_, _, _, _, _, _, _, _, _, _, _, _, _, _, _, _, rfl, rfl, HJ.out.alloc5⟩
    · refine wpOp_step (o := _) rfl (fun K hK => ?_)
      have HK := Lib.hid hK
      clear hK
      have hd := hi3 _ rfl
      simp [Region.binds] at hd
      clear hi3 hi2
      have q4 : b4 = true := by (cases b4 with | true => rfl | false => simp at hd)
      have q1 : b1 = true := by (cases b1 with | true => rfl | false => simp at hd)
      have q3 : b3 = true := by (cases b3 with | true => rfl | false => simp at hd)
      have q5 : b5 = true := by (cases b5 with | true => rfl | false => simp at hd)
      obtain rfl := HJ.out.e1 q1
      obtain ⟨hp, hq, f, hr, hs⟩ := HJ.out.k4 q4
      subst hp
      clear hd
      subst q4 q5
      rw [if_pos (by rfl)]
      refine wp_store_mid 54 _ _ rfl g6 0 (A16 (byf a.n)) rfl rfl hr.there info16 (one16 _) ?_
      exact HK.out _ _ ⟨_, _, _, _, _, _, _, _, _, _, _, _, _, _, _, _, rfl, rfl, HJ.out.store6⟩
    · refine wpOp_step (o := _) rfl (fun K hK => ?_)
      have HK := Lib.hid hK
      clear hK
      have hd := hi3 _ rfl
      simp [Region.binds] at hd
      clear hi3 hi2
      have q4 : b4 = true := by (cases b4 with | true => rfl | false => simp at hd)
      have q1 : b1 = true := by (cases b1 with | true => rfl | false => simp at hd)
      have q3 : b3 = true := by (cases b3 with | true => rfl | false => simp at hd)
      have q5 : b5 = true := by (cases b5 with | true => rfl | false => simp at hd)
      obtain rfl := HJ.out.e3 q3
      obtain ⟨hp, hq, f, hr, hs⟩ := HJ.out.k5 q5
      subst hp
      clear hd
      subst q4 q5
      rw [if_pos (by rfl)]
      refine wp_store_mid 54 _ _ rfl g7 0 (A16 (byf b.n)) rfl rfl hr.there info16 (one16 _) ?_
      exact HK.out _ _ ⟨_, _, _, _, _, _, _, _, _, _, _, _, _, _, _, _, rfl, rfl, HJ.out.store7⟩
  · intro listed act W hJ hr
    obtain ⟨b0, b1, b2, b3, b4, b5, b6, b7, x0, x1, x2, x3, x4, x5, g6, g7, rfl, rfl, hJ⟩ := hJ
    have HJ := Lib.hid hJ
    clear hJ
    have q0 : b0 = true := by
      cases b0 with
      | true => rfl
      | false =>
        have hm : 0 ∈ ([] : List Nat) := by rw [← hr]; exact ready_in (o := _) rfl rfl (by simp [Region.binds])
        cases hm
    subst q0
    have q1 : b1 = true := by
      cases b1 with
      | true => rfl
      | false =>
        have hm : 1 ∈ ([] : List Nat) := by rw [← hr]; exact ready_in (o := _) rfl rfl (by simp [Region.binds])
        cases hm
    subst q1
    have q2 : b2 = true := by
      cases b2 with
      | true => rfl
      | false =>
        have hm : 2 ∈ ([] : List Nat) := by rw [← hr]; exact ready_in (o := _) rfl rfl (by simp [Region.binds])
        cases hm
    subst q2
    have q3 : b3 = true := by
      cases b3 with
      | true => rfl
      | false =>
        have hm : 3 ∈ ([] : List Nat) := by rw [← hr]; exact ready_in (o := _) rfl rfl (by simp [Region.binds])
        cases hm
    subst q3
    have q4 : b4 = true := by
      cases b4 with
      | true => rfl
      | false =>
        have hm : 4 ∈ ([] : List Nat) := by rw [← hr]; exact ready_in (o := _) rfl rfl (by simp [Region.binds])
        cases hm
    subst q4
    have q5 : b5 = true := by
      cases b5 with
      | true => rfl
      | false =>
        have hm : 5 ∈ ([] : List Nat) := by rw [← hr]; exact ready_in (o := _) rfl rfl (by simp [Region.binds])
        cases hm
    subst q5
    have q6 : b6 = true := by
      cases b6 with
      | true => rfl
      | false =>
        have hm : 6 ∈ ([] : List Nat) := by rw [← hr]; exact ready_in (o := _) rfl rfl (by simp [Region.binds])
        cases hm
    subst q6
    have q7 : b7 = true := by
      cases b7 with
      | true => rfl
      | false =>
        have hm : 7 ∈ ([] : List Nat) := by rw [← hr]; exact ready_in (o := _) rfl rfl (by simp [Region.binds])
        cases hm
    subst q7
    clear hr
    obtain rfl := HJ.out.e0 rfl
    obtain rfl := HJ.out.e1 rfl
    obtain rfl := HJ.out.e2 rfl
    obtain rfl := HJ.out.e3 rfl
    obtain ⟨hp, hq, f, hr6, hs⟩ := HJ.out.k4 rfl
    obtain ⟨hp7, hq7, f7, hr7, hs7⟩ := HJ.out.k5 rfl
    obtain rfl := hs rfl
    obtain rfl := hs7 rfl
    subst hp hp7
    have hne67 := HJ.out.ne rfl rfl
    have HBW := Lib.hid HJ.out.below
    have H6 := Lib.hid hr6
    have H7 := Lib.hid hr7
    clear hs hs7 hr6 hr7 HJ
    try dsimp only
    have HP0 := Lib.hid (show ProdInv w0 W g6 g7 po pr a b (byf (pI a.n b.n 0)) from ⟨Or.inr trivial, fun w' h1 h2 => below_of h2 HBW.out, H6.out, H7.out, (HO.out.keep HBW.out).congr (fun j _ => by unfold z16 byf byt pI; simp [Nat.mod_one]), HR.out.keep HBW.out⟩)
    have n6o : g6 ≠ po := by have := HO.out.lt; omega
    have n7o : g7 ≠ po := by have := HO.out.lt; omega
    have HBN := Lib.hid (show b.n < 256 ^ 16 from b.lt)
    clear H6 H7 HBW HO HR hq hq7 hne67
    go_wp2_with fail
    go_loopw [16] (fun i wr => ∃ k : Nat, k ≤ 16 ∧ i = .int .i64 k ∧ ProdInv w0 wr g6 g7 po pr a b (byf (pI a.n b.n k))) (fun i _ => 16 - (intOf i).toNat)
    case atStart => exact ⟨0, by omega, rfl, HP0.out⟩
    case round =>
      obtain ⟨i, hi, rfl, hI⟩ := hrel
      clear HP0
      have HI := Lib.hid hI
      clear hI
      by_cases hlt : i < 16
      · go_wp2_with fail
        go_loopw [9, 19] (fun m x wr => ∃ k c : Nat, k ≤ 16 ∧ c = cK a.n b.n i k ∧ m = .int .i64 c ∧ x = .int .i64 k ∧ ProdInv w0 wr g6 g7 po pr a b (mid a.n b.n i k)) (fun _ x _ => 16 - (intOf x).toNat)
        case atStart => exact ⟨0, 0, by omega, (cK_start _ _ _).symm, rfl, rfl, HI.out.congr (fun j _ => mid_start _ _ _ j)⟩
        case round =>
          obtain ⟨k, c, hk, hc, rfl, rfl, hJ⟩ := hrel
          clear HI
          have HJ := Lib.hid hJ
          have HC := Lib.hid hc
          have hc2 : c < 256 := by rw [hc]; exact cK_lt _ _ _ _
          clear hJ hc
          by_cases hltk : k < 16
          · obtain ⟨e, he⟩ : ∃ e, e = i + k := ⟨_, rfl⟩
            have he2 : (i : Int) + (k : Int) = (e : Int) := by omega
            have he3 : (e : Int) < 32 := by omega
            have hwe : IntKind.i64.wrap (e : Int) = (e : Int) := by rw [IntKind.wrap_i64]; omega
            obtain ⟨o, ho⟩ : ∃ o, o = byt (pI a.n b.n i) (i + k) := ⟨_, rfl⟩
            obtain ⟨u, hu⟩ : ∃ u, u = byt a.n i := ⟨_, rfl⟩
            obtain ⟨v, hv⟩ : ∃ v, v = byt b.n k := ⟨_, rfl⟩
            have ho2 : o < 256 := by rw [ho]; exact byt_lt _ _
            have hu2 : u < 256 := by rw [hu]; exact byt_lt _ _
            have hv2 : v < 256 := by rw [hv]; exact byt_lt _ _
            obtain ⟨q, hq⟩ : ∃ q, q = u * v := ⟨_, rfl⟩
            have hq2 : q ≤ 65025 := by rw [hq]; exact Nat.mul_le_mul (show u ≤ 255 by omega) (show v ≤ 255 by omega)
            have hq3 : (u : Int) * (v : Int) = (q : Int) := by rw [hq]; simp
            obtain ⟨t, ht⟩ : ∃ t, t = o + q + c := ⟨_, rfl⟩
            have c0 := HJ.out.ro.cell (j := i + k) (by omega)
            rw [mid_at, ← ho, ← he] at c0
            have c1 := HJ.out.r6.cell hlt
            rw [show byf a.n i = ((byt a.n i : Nat) : Int) from rfl, ← hu] at c1
            have c2 := HJ.out.r7.cell hltk
            rw [show byf b.n k = ((byt b.n k : Nat) : Int) from rfl, ← hv] at c2
            have f0 := HJ.out.ro.free e
            have hb1 : t % 256 = byt (tK a.n b.n i (k + 1)) (i + k) := by rw [byt_tK, ← ho, ← hu, ← hv, ← hq, ← HC.out, ht]
            have hb2 : t / 256 = cK a.n b.n i (k + 1) := by rw [cK_next, ← ho, ← hu, ← hv, ← hq, ← HC.out, ht]
            have ht2 : t ≤ 65536 := by omega
            have HB1 := Lib.hid hb1
            have HB2' := Lib.hid hb2
            have HE := Lib.hid he
            have HT := Lib.hid ht
            clear hb1 hb2 he ho hu hv hq ht
            go_wp2_with fail
            go_quiet (fail)
            go_wp2_with fail
            go_roundw
            case rel =>
              have hs : (o : Int) + (q : Int) + (c : Int) = (t : Int) := by rw [HT.out]; omega
              rw [hs]
              refine ⟨k + 1, t / 256, by omega, HB2'.out, rfl, by go_num, ?_⟩
              rw [show (t : Int) % 256 = ((t % 256 : Nat) : Int) from rfl, HB1.out]
              refine (HJ.out.drewN.set n6o n7o nro (i := e) (by omega) _).congr (fun j _ => ?_)
              rw [HE.out]
              exact mid_next _ _ _ _ j
            case measure => simp [intOf] <;> omega
          · have h16 : k = 16 := by omega
            obtain ⟨e, he⟩ : ∃ e, e = i + 16 := ⟨_, rfl⟩
            have he2 : (i : Int) + 16 = (e : Int) := by omega
            have he3 : (e : Int) < 32 := by omega
            have hwe : IntKind.i64.wrap (e : Int) = (e : Int) := by rw [IntKind.wrap_i64]; omega
            have hJ := HJ.out
            rw [h16] at hJ
            have c0 := hJ.ro.cell (j := i + 16) (by omega)
            rw [mid_at, byt_zero (pI_lt HBN.out), ← he] at c0
            have f0 := hJ.ro.free e
            have hce : c = cK a.n b.n i 16 := by rw [HC.out, h16]
            have HCE := Lib.hid hce
            have HE := Lib.hid he
            have HJ2 := Lib.hid hJ
            clear hJ he hce
            go_wp2_with fail
            go_roundw
            case rel =>
              refine ⟨i + 1, by omega, by go_num, ?_⟩
              rw [HCE.out]
              refine (HJ2.out.set n6o n7o nro (i := e) (by omega) _).congr (fun j _ => ?_)
              rw [HE.out]
              exact mid_end HBN.out j
            case measure => simp [intOf] <;> omega
      · have h16 : i = 16 := by omega
        have hI := HI.out
        rw [h16] at hI
        have hab : pI a.n b.n 16 = a.n * b.n := by unfold pI; rw [Nat.mod_eq_of_lt (show a.n < 256 ^ 16 from a.lt)]
        rw [hab] at hI
        have HE := Lib.hid hI
        clear hI
        go_upto_region 15 with fail
        refine wp_region_list ?_
        refine wpList_load_mid rfl 63 _ rfl po 0 rfl (A32 (byf (a.n * b.n))).toList _ HE.out.ro.range Tryd.underlying63 rfl info32 ?_
        refine wpList_store_mid rfl 63 _ _ rfl pr 0 (A32 (byf (a.n * b.n))) rfl rfl HE.out.rr.there info32 (one32 _) ?_
        refine wpList_nil ?_
        have HX := Lib.hid (HE.out.rr.setCells (byf (a.n * b.n)))
        have HBX := Lib.hid (below_setCells32 (f := byf (a.n * b.n)) (HE.out.bw w HG.out.1 HW.out) HG.out.2)
        generalize wr.setCells pr 0 (A32 (byf (a.n * b.n))).toList = WX at HX HBX ⊢
        try simp only [Act.put, List.setIfInBounds_toArray, List.set_cons_zero, List.set_cons_succ]
        go_wp2_with fail
        refine bodyPost_ret (v := .agg (A32 (byf (a.n * b.n)))) (results_cell_row Tryd.results51 _ _ pr _ _ _ _ rfl HX.out.blk Tryd.underlying63 rfl info32) rfl ?_
        exact ⟨rfl, HBX.out⟩
end Go.Proofs.YtnbchhjanlpdlaaDoor
