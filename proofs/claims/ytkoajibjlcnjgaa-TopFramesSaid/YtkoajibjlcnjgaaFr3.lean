/-
  THE FRAME OF THE ROWS, MORE: slices of strings, and of numbers with a sign, opened.
-/
import Derived.Test.YtkoajibjlcnjgaaFr2
namespace Go.Proofs.Ytkoajibjlcnjgaa
open Go Go.ChangeShapes Go.WideShapes Go.ChangeAt Go.RowKit Go.Joins

/-- A slice that came in, whose elements are these texts. -/
structure StrsAt (W : World) (ao : Option Addr) (b off : Nat) (l : List (List UInt8)) : Prop where
  at_ : 0 < l.length → ao = some ⟨b, off, none⟩ ∧ b < W.heap.size
  cell : ∀ (i : Nat) (h : i < l.length), W.cell? ⟨b, off + i, none⟩ = some (.string (bs l[i]))
  fits : ∀ (i : Nat) (h : i < l.length), l[i].length ≤ maxLen
/-- .. these numbers. -/
structure NumsAt (W : World) (ao : Option Addr) (b off : Nat) (l : List Int) : Prop where
  at_ : 0 < l.length → ao = some ⟨b, off, none⟩ ∧ b < W.heap.size
  cell : ∀ (i : Nat) (h : i < l.length), W.cell? ⟨b, off + i, none⟩ = some (.int .i64 l[i])
  fits : ∀ (i : Nat) (h : i < l.length), -9223372036854775808 ≤ l[i] ∧ l[i] ≤ 9223372036854775807

section
variable {H : Type} {enc : TypeId × Value → H} {W : World} {sp : Nat → Bool}
set_option maxRecDepth 100000 in
theorem open_strs {r : Reach} {b0 base : Nat} {held : Bool} {v : Value} {d : DataW H} {p : List MemPlace} (hv : Value.okWide Try.prog W r b0 57 v) (h : DataW.Trod enc Try.prog W base sp held 57 v d p) :
    ∃ (ao : Option Addr) (b off cap : Nat) (l : List (List UInt8)), v = .slice ao l.length cap ∧ l.length ≤ maxLen ∧ StrsAt W ao b off l := by
  obtain ⟨ao, len, cap, rfl⟩ := okWide_slice Try.underlying57 hv
  obtain ⟨fuel, hf⟩ := h
  rcases open_strings Try.underlying57 Try.underlying9 str1 hf with ⟨hcs, _⟩ | ⟨a, len', cap', ss, hcs, _, hl, hcm, hz, _, hcell, hws⟩
  · simp [Value.cells] at hcs
    obtain ⟨rfl, rfl, rfl⟩ := hcs
    exact ⟨none, 0, 0, 0, [], rfl, Nat.zero_le _, ⟨fun h => by simp at h, fun i h => by simp at h, fun i h => by simp at h⟩⟩
  · simp [Value.cells] at hcs
    obtain ⟨rfl, rfl, rfl⟩ := hcs
    have hle : len ≤ ss.length := by rw [hz]; split <;> omega
    obtain ⟨b, off, spot⟩ := a
    have hspot : 0 < len → spot = none := fun h0 => by
      have h00 := hcell 0 (by omega)
      simpa [Addr.add] using World.cell?_spot h00
    have hlen : ((ss.take len).map fun s => s.data.toList).length = len := by rw [List.length_map, List.length_take]; omega
    refine ⟨some ⟨b, off, spot⟩, b, off, cap, (ss.take len).map fun s => s.data.toList, by rw [hlen], by rw [hlen]; omega, ⟨fun h0 => ?_, fun i h => ?_, fun i h => ?_⟩⟩
    · rw [hlen] at h0
      have := hspot h0
      subst this
      have h00 := hcell 0 (by omega)
      rw [Addr.add_lit] at h00
      exact ⟨rfl, World.block_lt_of_cell? W _ h00⟩
    · have h' : i < len := by rw [hlen] at h; exact h
      have := hspot (by omega)
      subst this
      have hc := hcell i (by omega)
      rw [Addr.add_lit] at hc
      rw [hc]
      simp [List.getD, List.getElem?_eq_getElem (show i < ss.length by omega)]
      rfl
    · have h' : i < len := by rw [hlen] at h; exact h
      have hw := hws (ss[i]'(by omega)) (List.getElem_mem _)
      simp only [List.getElem_map, List.getElem_take]
      have e : (ss[i]'(by omega)).data.toList.length = (ss[i]'(by omega)).size := Array.length_toList
      rw [e]
      exact hw
theorem i641 : Try.prog.cellsOf 2 = 1 := by kernel_rfl
set_option maxRecDepth 100000 in
theorem open_nums {r : Reach} {b0 base : Nat} {held : Bool} {v : Value} {d : DataW H} {p : List MemPlace} (hv : Value.okWide Try.prog W r b0 64 v) (h : DataW.Trod enc Try.prog W base sp held 64 v d p) :
    ∃ (ao : Option Addr) (b off cap : Nat) (l : List Int), v = .slice ao l.length cap ∧ l.length ≤ maxLen ∧ NumsAt W ao b off l := by
  obtain ⟨ao, len, cap, rfl⟩ := okWide_slice Try.underlying64 hv
  obtain ⟨fuel, hf⟩ := h
  rcases open_ints Try.underlying64 Try.underlying2 i641 hf with ⟨hcs, _⟩ | ⟨a, len', cap', zs, hcs, _, hl, hcm, hz, _, hcell, hws⟩
  · simp [Value.cells] at hcs
    obtain ⟨rfl, rfl, rfl⟩ := hcs
    exact ⟨none, 0, 0, 0, [], rfl, Nat.zero_le _, ⟨fun h => by simp at h, fun i h => by simp at h, fun i h => by simp at h⟩⟩
  · simp [Value.cells] at hcs
    obtain ⟨rfl, rfl, rfl⟩ := hcs
    have hle : len ≤ zs.length := by rw [hz]; split <;> omega
    obtain ⟨b, off, spot⟩ := a
    have hspot : 0 < len → spot = none := fun h0 => by
      have h00 := hcell 0 (by omega)
      simpa [Addr.add] using World.cell?_spot h00
    have hlen : (zs.take len).length = len := by rw [List.length_take]; omega
    refine ⟨some ⟨b, off, spot⟩, b, off, cap, zs.take len, by rw [hlen], by rw [hlen]; omega, ⟨fun h0 => ?_, fun i h => ?_, fun i h => ?_⟩⟩
    · rw [hlen] at h0
      have := hspot h0
      subst this
      have h00 := hcell 0 (by omega)
      rw [Addr.add_lit] at h00
      exact ⟨rfl, World.block_lt_of_cell? W _ h00⟩
    · have h' : i < len := by rw [hlen] at h; exact h
      have := hspot (by omega)
      subst this
      have hc := hcell i (by omega)
      rw [Addr.add_lit] at hc
      rw [hc]
      simp [List.getD, List.getElem?_eq_getElem (show i < zs.length by omega)]
    · have h' : i < len := by rw [hlen] at h; exact h
      simp only [List.getElem_take]
      exact wf_i64 (hws _ (List.getElem_mem _))
end
end Go.Proofs.Ytkoajibjlcnjgaa
