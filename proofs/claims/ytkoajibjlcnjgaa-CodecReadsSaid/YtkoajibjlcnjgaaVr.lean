/-
  WALKS: the document's answer for layer 3 (plimsollref03): the reader's Raw.
-/
import Derived.Test.YtkoajibjlcnjgaaRg
import Derived.Deep.Cut
import Derived.Deep.RegionHeld3
namespace Go.Proofs.Ytkoajibjlcnjgaa
open Go Go.RowKit

theorem keep2 {w0 : World} {g g1 i : Nat} {v x y : Value} (h : w0.cell? ⟨g, i, none⟩ = some v) (hne : g ≠ g1) : ((w0.setCell ⟨g1, 0, none⟩ x).setCell ⟨g1, 1, none⟩ y).drew.cell? ⟨g, i, none⟩ = some v := by
  have e : ∀ W : World, W.heap[g]? = w0.heap[g]? → W.cell? ⟨g, i, none⟩ = w0.cell? ⟨g, i, none⟩ := fun W h => by unfold World.cell?; simp only [h]
  rw [← h]
  refine e _ ?_
  show ((w0.setCell ⟨g1, 0, none⟩ x).setCell ⟨g1, 1, none⟩ y).heap[g]? = _
  rw [set_other _ hne, set_other _ hne]
theorem fin2 {w0 : World} {g1 : Nat} {a b : Value} {t : TypeId} (h : w0.heap[g1]? = some (.cells #[a, b] t (0, 0))) (x y : Value) :
    ((w0.setCell ⟨g1, 0, none⟩ x).setCell ⟨g1, 1, none⟩ y).drew.cell? ⟨g1, 0, none⟩ = some x ∧ ((w0.setCell ⟨g1, 0, none⟩ x).setCell ⟨g1, 1, none⟩ y).drew.cell? ⟨g1, 1, none⟩ = some y := by
  have e : ((w0.setCell ⟨g1, 0, none⟩ x).setCell ⟨g1, 1, none⟩ y).drew.heap[g1]? = some (.cells #[x, y] t (0, 0)) := by
    show ((w0.setCell ⟨g1, 0, none⟩ x).setCell ⟨g1, 1, none⟩ y).heap[g1]? = _
    rw [set_blk (set_blk h _) _]
    rfl
  exact ⟨by rw [cell_blk e]; rfl, by rw [cell_blk e]; rfl⟩
theorem tup_ss {a a' : ByteArray} {b b' : ByteArray} {x : Bool} (h : a = a') (k : b = b') : Ending.returned (.tuple #[.agg #[.string a, .bool x], .string b]) = .returned (.tuple #[.agg #[.string a', .bool x], .string b']) := by rw [h, k]

set_option maxHeartbeats 1000000 in
set_option maxRecDepth 100000 in
theorem vraw_bad (s : List UInt8) (n : Int) (w : World) :
    Calls Try.prog 40 #[.agg #[.string (bs s), .bool true], .int .i64 n] w fun e w' => e = .returned (.tuple #[.agg #[.string (bs []), .bool true], .string (bs [])]) ∧ Below w.heap.size w w' := by
  go_enter Try.func40, Try.ntmps40
  go_wp2_with fail
  refine bodyPost_ret (v := .tuple #[.agg #[.string (bs []), .bool true], .string (bs [])]) (by simp [results, Try.results40, go_sem]; rfl) rfl ?_
  exact ⟨rfl, by go_grown⟩

set_option maxHeartbeats 1000000 in
set_option maxRecDepth 100000 in
theorem vraw_neg (s : List UInt8) (n : Int) (hn : n < 0) (w : World) :
    Calls Try.prog 40 #[.agg #[.string (bs s), .bool false], .int .i64 n] w fun e w' => e = .returned (.tuple #[.agg #[.string (bs []), .bool true], .string (bs [])]) ∧ Below w.heap.size w w' := by
  go_enter Try.func40, Try.ntmps40
  go_wp2_with fail
  refine bodyPost_ret (v := .tuple #[.agg #[.string (bs []), .bool true], .string (bs [])]) (by simp [results, Try.results40, go_sem]; rfl) rfl ?_
  exact ⟨rfl, by go_grown⟩

set_option maxHeartbeats 1000000 in
set_option maxRecDepth 100000 in
theorem vraw_more (s : List UInt8) (n : Nat) (hn : s.length < n) (w : World) :
    Calls Try.prog 40 #[.agg #[.string (bs s), .bool false], .int .i64 n] w fun e w' => e = .returned (.tuple #[.agg #[.string (bs []), .bool true], .string (bs [])]) ∧ Below w.heap.size w w' := by
  have hz := bs_size s
  have h1 : decide (s.length < n) = true := by simp; omega
  go_enter Try.func40, Try.ntmps40
  go_wp2_with fail
  refine bodyPost_ret (v := .tuple #[.agg #[.string (bs []), .bool true], .string (bs [])]) (by simp [results, Try.results40, go_sem]; rfl) rfl ?_
  exact ⟨rfl, by go_grown⟩

set_option maxHeartbeats 1000000 in
set_option maxRecDepth 100000 in
theorem vraw_ok (s : List UInt8) (n : Nat) (hn : n ≤ s.length) (hs : s.length ≤ 140737488355328) (w : World) :
    Calls Try.prog 40 #[.agg #[.string (bs s), .bool false], .int .i64 n] w fun e w' => e = .returned (.tuple #[.agg #[.string (bs (s.drop n)), .bool false], .string (bs (s.take n))]) ∧ Below w.heap.size w w' := by
  have hz := bs_size s
  have h1 : decide (s.length < n) = false := by simp; omega
  go_enter Try.func40, Try.ntmps40
  go_upto_region 1 with fail
  obtain ⟨w0, hw0⟩ : ∃ w0, w0 = ((w.alloc (Obj.cells #[Value.string (bs s), Value.bool false] 43)).alloc (Obj.cells #[Value.string { data := #[] }, Value.bool false] 43)) := ⟨_, rfl⟩
  rw [← hw0]
  have hB0 : Below w.heap.size w w0 := by rw [hw0]; go_grown
  have hA : w0.heap[w.heap.size]? = some (.cells #[.string (bs s), .bool false] 43 (0, 0)) := by rw [hw0]; exact alloc_old (alloc_blk _ _) _
  obtain ⟨g1, hg1⟩ : ∃ g, g = w.heap.size + 1 := ⟨_, rfl⟩
  have hC : w0.heap[g1]? = some (.cells #[.string (bs []), .bool false] 43 (0, 0)) := by
    rw [hw0, hg1]
    have e : w.heap.size + 1 = (w.alloc (Obj.cells #[Value.string (bs s), Value.bool false] 43)).heap.size := by simp
    rw [e]; exact alloc_blk _ _
  rw [← hg1]
  have hne : w.heap.size ≠ g1 := by omega
  have hle : w.heap.size ≤ g1 := by omega
  have c0 : w0.cell? ⟨w.heap.size, 0, none⟩ = some (.string (bs s)) := by rw [cell_blk hA]; rfl
  have c1 : w0.cell? ⟨w.heap.size, 1, none⟩ = some (.bool false) := by rw [cell_blk hA]; rfl
  have f0 := free_blk hC 0
  have f1 := free_blk hC 1
  have d0 : w0.cell? ⟨g1, 0, none⟩ = some (.string (bs [])) := by rw [cell_blk hC]; rfl
  have d1 : w0.cell? ⟨g1, 1, none⟩ = some (.bool false) := by rw [cell_blk hC]; rfl
  have HB0 := Lib.hid hB0
  have HA := Lib.hid hA
  have HC := Lib.hid hC
  clear hw0 hB0 hA hC hg1
  go_wp2_with fail
  go_region_held3 (fun w' => w'.cell? ⟨w.heap.size, 0, none⟩ = some (.string (bs s))) (first | assumption | exact keep2 (by assumption) (by assumption)) (fail)
  have hfin := fin2 HC.out (.string ((bs s).extract n s.length)) (.bool false)
  have u0 := hfin.1
  have u1 := hfin.2
  clear hfin
  go_wp2_with fail
  refine bodyPost_ret (v := .tuple #[.agg #[.string ((bs s).extract n s.length), .bool false], .string ((bs s).extract 0 n)]) (by simp [results, Try.results40, go_sem, u0, u1]) rfl ?_
  exact ⟨tup_ss (by rw [← hz, bs_drop]) (by rw [bs_take]), ((HB0.out.setCell (p := ⟨g1, 0, none⟩) hle _).setCell (p := ⟨g1, 1, none⟩) hle _).drew⟩
end Go.Proofs.Ytkoajibjlcnjgaa
