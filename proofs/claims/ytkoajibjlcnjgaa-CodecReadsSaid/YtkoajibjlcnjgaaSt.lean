/-
  WALKS: seal.halve, seal.Table.
-/
import Derived.Test.YtkoajibjlcnjgaaRd
import Derived.Test.YtkoajibjlcnjgaaRi
import Derived.Test.YtkoajibjlcnjgaaSMath
import Derived.LoopTactic
import Derived.Laws.BitsAllLaws
namespace Go.Proofs.Ytkoajibjlcnjgaa
open Go Go.RowKit

theorem ret_u32 {a b : Int} (h : a = b) : Ending.returned (.int .u32 a) = .returned (.int .u32 b) := by rw [h]
set_option maxRecDepth 100000 in
theorem halve_any (x : Nat) (hx : x < 4294967296) (w : World) :
    Calls Try.prog 46 #[.int .u32 x] w fun e w' => e = .returned (.int .u32 (halve x : Nat)) ∧ w = w' := by
  have hx1 : (x : Int) ≤ 4294967295 := by omega
  have HX := Lib.hid hx
  clear hx
  by_cases hp : x % 2 = 1
  · have t1 : ((x : Int) % 2 == 1) = true := by simp; omega
    have HP := Lib.hid hp
    clear hp
    go_enter Try.func46, Try.ntmps46
    go_wp2
    go_ret
    refine ⟨ret_u32 ?_, rfl⟩
    unfold halve
    have := HX.out
    rw [if_pos HP.out, show (x : Int) / 2 = ((x / 2 : Nat) : Int) by omega, show (2197175160 : Int) = ((2197175160 : Nat) : Int) by rfl, u32_xor_nat _ _ (by omega) (by omega)]
  · have t1 : ((x : Int) % 2 == 1) = false := by simp; omega
    have HP := Lib.hid hp
    clear hp
    go_enter Try.func46, Try.ntmps46
    go_wp2
    go_ret
    refine ⟨ret_u32 ?_, rfl⟩
    unfold halve
    rw [if_neg HP.out]
    omega

/-- What the table holds once k places are laid. -/
def tabC (k : Nat) : Array Value := ((List.range 256).map fun i => if i < k then Value.int .u32 (h8 i : Nat) else .int .u32 0).toArray
theorem tabC_size (k : Nat) : (tabC k).size = 256 := by simp [tabC]
theorem tabC_zero : tabC 0 = Array.replicate 256 (.int .u32 0) := by
  apply Array.ext
  · simp [tabC]
  · intro i h1 h2
    simp [tabC]
theorem tabC_next {k : Nat} (h : k < 256) : (tabC k).set! k (.int .u32 (h8 k : Nat)) = tabC (k + 1) := by
  apply Array.ext
  · simp [tabC]
  · intro i h1 h2
    have h3 : i < 256 := by simpa [tabC] using h2
    by_cases e : k = i
    · subst e
      simp [tabC]
    · by_cases h4 : i < k
      · simp [tabC, Array.getElem_set, e, h4, show i < k + 1 by omega]
      · simp [tabC, Array.getElem_set, e, h4, show ¬ i < k + 1 by omega]
theorem tabC_at {i : Nat} (h : i < 256) : (tabC 256)[i]? = some (.int .u32 (h8 i : Nat)) := by
  simp [tabC, h]
theorem tabC_some {k i : Nat} (h : i < 256) : ∃ v, (tabC k)[i]? = some v := ⟨_, Array.getElem?_eq_getElem (by rw [tabC_size]; exact h)⟩
theorem zero80 (w : World) : (zeroValue 80).run Try.prog w = .ok (.agg (tabC 0)) w := by
  rw [tabC_zero]
  kernel_rfl
theorem size80 : (Try.prog.info? 80).map (·.size) = some 256 := by kernel_rfl
/-- So often halved. -/
def hit : Nat → Nat → Nat
  | 0, x => x
  | j + 1, x => halve (hit j x)
theorem hit_lt (j : Nat) {x : Nat} (h : x < 4294967296) : hit j x < 4294967296 := by
  induction j with
  | zero => exact h
  | succ j ih => exact halve_lt ih
theorem hit_eight (x : Nat) : hit 8 x = h8 x := rfl

structure TInv (w wr : World) (k : Nat) : Prop where
  t0 : wr.heap[w.heap.size]? = some (.cells (tabC 0) 80 (0, 0))
  t1 : wr.heap[w.heap.size + 1]? = some (.cells (tabC k) 80 (0, 0))
  below : Below w.heap.size w wr

set_option maxHeartbeats 4000000 in
set_option maxRecDepth 100000 in
theorem table_any (w : World) :
    Calls Try.prog 43 #[] w fun e w' => e = .returned (.agg (tabC 256)) ∧ Below w.heap.size w w' := by
  have hz0 := zero80
  go_enter Try.func43, Try.ntmps43
  go_wp2_with fail
  have hI : TInv w ((w.alloc (.cells (tabC 0) 80)).alloc (.cells (tabC 0) 80)) 0 :=
    ⟨alloc_old (alloc_blk _ _) _, by have := alloc_blk (w.alloc (.cells (tabC 0) 80)) (.cells (tabC 0) 80); simpa using this, by go_grown⟩
  have HI := Lib.hid hI
  clear hI
  generalize ((w.alloc (.cells (tabC 0) 80)).alloc (.cells (tabC 0) 80)) = w2 at *
  go_loopw [4] (fun i wr => ∃ k : Nat, k ≤ 256 ∧ TInv w wr k ∧ i = .int .i64 k) (fun i _ => 256 - (intOf i).toNat)
  case atStart => exact ⟨0, by omega, HI.out, rfl⟩
  case round =>
    obtain ⟨k, hk, hI, rfl⟩ := hrel
    clear HI
    have HI := Lib.hid hI
    clear hI
    by_cases hlt : k < 256
    · have b1 := HI.out.t1
      obtain ⟨v0, hv0⟩ := tabC_some (k := k) hlt
      have c1 : wr.cell? ⟨w.heap.size + 1, k, none⟩ = some v0 := (cell_blk b1 k).trans hv0
      have f1 : wr.frozen? ⟨w.heap.size + 1, k, none⟩ = false := free_blk b1 k
      clear b1 hv0
      have d256 : decide ((k : Int) < 256) = true := by simp; omega
      go_wp2_with fail
      go_loop [3, 9] (fun x j => ∃ i : Nat, i ≤ 8 ∧ j = .int .i64 i ∧ x = .int .u32 (hit i k : Nat)) (fun _ j => 8 - (intOf j).toNat)
      case atStart => exact ⟨0, by omega, rfl, rfl⟩
      case round =>
        obtain ⟨j, hj, rfl, rfl⟩ := hrel
        have HH := Lib.hid (hit_lt j (show k < 4294967296 by omega))
        by_cases hj8 : j < 8
        · go_wp2_with fail
          refine (halve_any (hit j k) HH.out _).mono ?_
          rintro e w' ⟨rfl, rfl⟩
          go_wp2_with fail
          go_round
          case rel => exact ⟨j + 1, by omega, by go_num, rfl⟩
          case measure => simp [intOf]; omega
        · obtain rfl : j = 8 := by omega
          go_wp2_with fail
          go_roundw
          case rel =>
            refine ⟨k + 1, by omega, ⟨?_, ?_, ?_⟩, by go_num⟩
            · rw [set_other _ (by omega)]; exact HI.out.t0
            · rw [set_blk HI.out.t1, hit_eight, tabC_next hlt]
            · exact HI.out.below.setCell (p := ⟨w.heap.size + 1, k, none⟩) (by simp) _
          case measure => simp [intOf]; omega
    · obtain rfl : k = 256 := by omega
      have b0 := HI.out.t0
      have b1 := HI.out.t1
      go_wp2_with (first | (refine wpList_load_row rfl 80 _ rfl (w.heap.size + 1) rfl 80 (tabC 256) (0, 0) _ b1 Try.underlying80 rfl (by rw [size80, tabC_size]) ?_) | (refine wpList_store_row rfl 80 _ _ rfl w.heap.size (tabC 256) rfl rfl 80 (tabC 0) b0 (by rw [size80, tabC_size]) (by rw [tabC_size, tabC_size]) (by kernel_rfl) ?_))
      have hrow := setRow_heap wr w.heap.size (tabC 0) (tabC 256) 80 (0, 0) b0
      refine bodyPost_ret (v := .agg (tabC 256)) (results_cell_row (P := Try.prog) (fn := Try.f43) rfl _ _ w.heap.size 80 (tabC 256) (0, 0) _ rfl hrow Try.underlying80 rfl (by rw [size80, tabC_size])) rfl ⟨rfl, ?_⟩
      have hb := HI.out.below
      exact ⟨hb.os, hb.tape, hb.output, by simpa using hb.size, fun k hk => (setRow_other wr w.heap.size k _ (by omega)).trans (hb.block k hk)⟩
end Go.Proofs.Ytkoajibjlcnjgaa
