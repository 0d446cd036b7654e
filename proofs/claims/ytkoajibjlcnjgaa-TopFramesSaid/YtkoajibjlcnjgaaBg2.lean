/-
  WALKS: plimsolltop.begins2: it answers true.
-/
import Derived.Test.YtkoajibjlcnjgaaLv4
namespace Go.Proofs.Ytkoajibjlcnjgaa
open Go Go.RowKit

set_option maxHeartbeats 4000000 in
set_option maxRecDepth 100000 in
theorem begins2_any (w : World) : Calls Try.prog 31 #[] w fun e w' => e = .returned (.bool true) ∧ Below w.heap.size w w' := by
  obtain ⟨F, hF⟩ : ∃ F, F = fr 7 [97, 98] := ⟨_, rfl⟩
  have hz : (bs F).size = 8 := by rw [bs_size, hF]; exact lv4_f.1
  have ha : bs F ++ (⟨#[120]⟩ : ByteArray) = bs (F ++ [120]) := bs_append F [120]
  have q1 := bs_toList [97, 98]
  have q2 := bs_toList [120]
  have HF := Lib.hid hF
  clear hF
  go_enter Try.func31, Try.ntmps31
  go_wp2_with fail
  refine (frame_ok 7 (by decide) [97, 98] (by decide) _).mono ?_
  rintro e w1 ⟨rfl, hb⟩
  rw [← HF.out]
  have HS1 : Hid (Step (from_ w.heap.size) w w1) := Step.of_below hb
  clear hb
  go_wp2_with fail
  refine (open_frE HF.out (by decide) [120] (by decide) (by decide) _).mono ?_
  rintro e w2 ⟨rfl, hb⟩
  have HS2 : Hid (Step (from_ w.heap.size) w w2) := HS1.out.then_below hb
  clear hb HS1
  go_wp2_with fail
  have hW0 := (Wr.made w2).shrink (own2 := from_ w2.heap.size) (fun k h _ => by rw [h]; exact Nat.le_refl _)
  have HW := Lib.hid hW0
  have HS3 : Hid (Step (from_ w.heap.size) w (w2.alloc (.cells #[.pointer none, .int .i64 0] 26))) := HS2.out.alloc _
  have HZ : Hid (w2.heap.size ≤ (w2.alloc (.cells #[.pointer none, .int .i64 0] 26)).heap.size) := by show _ ≤ _; simp
  have HQ : Hid (w.heap.size ≤ w2.heap.size) := HS2.out.size
  clear hW0 HS2
  generalize (w2.alloc (.cells #[.pointer none, .int .i64 0] 26)) = w3 at *
  generalize w2.heap.size = P at *
  refine (wuint_z (n := 300) rfl (by decide) (by decide) HW.out (fun k hk => Nat.le_trans HZ.out hk)).mono ?_
  rintro e w4 ⟨rfl, hw, hs⟩
  have HW4 : Hid (Wr w4 P (from_ P) [172, 2]) := hw
  have HS4 : Hid (Step (from_ w.heap.size) w w4) := HS3.out.trans (hs.mono (fun k hk => Nat.le_trans HQ.out hk))
  clear hw hs HW HS3
  go_wp2_with fail
  refine (out_any (by decide) HW4.out).mono ?_
  rintro e w5 ⟨rfl, hd⟩
  have HS5 : Hid (Step (from_ w.heap.size) w w5) := HS4.out.trans hd.step
  clear hd HW4 HS4
  go_wp2_with fail
  refine (ropen_any _ _).mono ?_
  rintro e w6 ⟨rfl, rfl⟩
  have HR := Lib.hid (Rd.new w5 [172, 2])
  have HS6 : Hid (Step (from_ w.heap.size) w (w5.alloc (.cells #[.string (bs [172, 2]), .bool false] 72))) := HS5.out.alloc _
  have HQ5 : Hid (w.heap.size ≤ w5.heap.size) := HS5.out.size
  clear HS5
  generalize (w5.alloc (.cells #[.string (bs [172, 2]), .bool false] 72)) = w6 at *
  generalize w5.heap.size = R at *
  go_wp2_with fail
  refine (ruint_some (n := 300) (k := 2) (by decide) (by decide) _ HR.out).mono ?_
  rintro e w7 ⟨he, hr, hs⟩
  obtain rfl : e = .returned (.int .u64 300) := he
  have HS7 : Hid (Step (from_ w.heap.size) w w7) := HS6.out.trans (hs.mono (fun k hk => by rw [hk]; exact HQ5.out))
  clear hr hs
  go_wp2_with fail
  go_ret
  exact ⟨rfl, HS7.out.toBelow⟩
end Go.Proofs.Ytkoajibjlcnjgaa
