/-
  WALKS: seal.Frame.
-/
import Derived.Test.YtkoajibjlcnjgaaSe
import Derived.Test.YtkoajibjlcnjgaaWf
import Derived.Test.YtkoajibjlcnjgaaLv3
namespace Go.Proofs.Ytkoajibjlcnjgaa
open Go Go.RowKit

/-- A frame's bytes ahead of its sum; the frame. -/
def hd (k : Nat) (t : List UInt8) : List UInt8 := fxF 1 k ++ (ub t.length ++ t)
def fr (k : Nat) (t : List UInt8) : List UInt8 := hd k t ++ fxF 4 (revN (sumN (hd k t)))
theorem hd_len (k : Nat) (t : List UInt8) : (hd k t).length ≤ t.length + 11 := by
  have h1 := fxF_len 1 k
  have h2 := (ub_len t.length).2
  simp only [hd, List.length_append]
  omega
theorem fr_len (k : Nat) (t : List UInt8) : (fr k t).length ≤ t.length + 15 := by
  have h1 := hd_len k t
  have h2 := fxF_len 4 (revN (sumN (hd k t)))
  simp only [fr, List.length_append]
  omega
theorem Step.of_below' {S : Nat → Prop} {a w : World} (h : Below a.heap.size a w) : Step S a w := Step.of_below h

set_option maxHeartbeats 4000000 in
set_option maxRecDepth 100000 in
theorem frame_ok (k : Nat) (hk : k < 256) (t : List UInt8) (ht : t.length ≤ 4194304) (w : World) :
    Calls Try.prog 32 #[.int .u8 k, .string (bs t)] w fun e w' => e = .returned (.tuple #[.string (bs (fr k t)), .int .i64 0]) ∧ Below w.heap.size w w' := by
  have hz := bs_size t
  have hk1 : (k : Int) ≤ 255 := by omega
  have HT := Lib.hid ht
  have ht' : (t.length : Int) ≤ 4194304 := by omega
  clear hk
  go_enter Try.func32, Try.ntmps32
  go_wp2_with fail
  have HW := Lib.hid ((Wr.made w).shrink (own2 := from_ w.heap.size) (fun k h _ => by rw [h]; exact Nat.le_refl _))
  have HS : Hid (Step (from_ w.heap.size) w (w.alloc (.cells #[.pointer none, .int .i64 0] 26))) := (Step.refl _ _).alloc _
  generalize (w.alloc (.cells #[.pointer none, .int .i64 0] 26)) = w1 at *
  refine (wfixed_any (n := k) (m := 1) (by decide) (by omega) (by decide) (by decide) HW.out (fun k hk => Nat.le_trans HS.out.size hk)).mono ?_
  rintro e w2 ⟨rfl, hw, hs⟩
  have HW2 : Hid (Wr w2 w.heap.size (from_ w.heap.size) (fxF 1 k)) := hw
  have HS2 := Lib.hid (HS.out.trans hs)
  clear hw hs HW HS
  go_wp2_with fail
  refine (wtext_any t (by have := HT.out; have := fxF_len 1 k; omega) HW2.out (fun k hk => Nat.le_trans HS2.out.size hk)).mono ?_
  rintro e w3 ⟨rfl, hw, hs⟩
  have HW3 : Hid (Wr w3 w.heap.size (from_ w.heap.size) (hd k t)) := hw
  have HS3 := Lib.hid (HS2.out.trans hs)
  have HL : Hid ((hd k t).length ≤ 4194315) := by have := HT.out; have := hd_len k t; show _ ≤ _; omega
  clear hw hs HW2 HS2
  go_wp2_with fail
  refine (out_any (by have := HL.out; omega) HW3.out).mono ?_
  rintro e w4 ⟨rfl, hd4⟩
  have HW4 : Hid (Wr w4 w.heap.size (from_ w.heap.size) (hd k t)) := HW3.out.step (S := fun _ => False) hd4.step (fun _ _ _ h => h)
  have HS4 := Lib.hid (HS3.out.trans hd4.step)
  clear hd4 HW3 HS3
  go_wp2_with fail
  refine (sum_any (hd k t) (by have := HL.out; omega) _).mono ?_
  rintro e w5 ⟨rfl, hb⟩
  have HW5 : Hid (Wr w5 w.heap.size (from_ w.heap.size) (hd k t)) := HW4.out.step (S := fun _ => False) (Step.of_below hb) (fun _ _ _ h => h)
  have HS5 : Hid (Step (from_ w.heap.size) w w5) := HS4.out.trans (Step.of_below hb)
  clear hb HW4 HS4
  go_wp2_with fail
  refine (low_any (sumN (hd k t)) (sumN_lt _) _).mono ?_
  rintro e w6 ⟨rfl, rfl⟩
  go_wp2_with fail
  refine (wfixed_any (n := revN (sumN (hd k t))) (m := 4) (by have := HL.out; omega) (by have := revN_lt (sumN (hd k t)); omega) (by decide) (by decide) HW5.out (fun k hk => Nat.le_trans HS5.out.size hk)).mono ?_
  rintro e w6 ⟨rfl, hw, hs⟩
  have HW6 : Hid (Wr w6 w.heap.size (from_ w.heap.size) (fr k t)) := hw
  have HS6 := Lib.hid (HS5.out.trans hs)
  have HL6 : Hid ((fr k t).length ≤ 4194319) := by have := HT.out; have := fr_len k t; show _ ≤ _; omega
  clear hw hs HW5 HS5
  go_wp2_with fail
  refine (out_any (by have := HL6.out; omega) HW6.out).mono ?_
  rintro e w7 ⟨rfl, hd7⟩
  have HS7 := Lib.hid (HS6.out.trans hd7.step)
  clear hd7 HW6 HS6
  go_wp2_with fail
  go_ret2
  exact ⟨rfl, HS7.out.toBelow⟩
end Go.Proofs.Ytkoajibjlcnjgaa
