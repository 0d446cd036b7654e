/-
  WALKS: plimsolllaw03.lives: it answers true.
-/
import Derived.Test.YtkoajibjlcnjgaaWf
import Derived.Test.YtkoajibjlcnjgaaRf
import Derived.WalkSpells
namespace Go.Proofs.Ytkoajibjlcnjgaa
open Go Go.RowKit

theorem bs_append (l m : List UInt8) : bs l ++ bs m = bs (l ++ m) := by
  apply ByteArray.ext
  simp [bs]

/-- What a call has made itself: blocks from B on. -/
def from_ (B : Nat) (k : Nat) : Prop := B ≤ k
theorem Step.toBelow {w w' : World} (h : Step (from_ w.heap.size) w w') : Below w.heap.size w w' := h.below (Nat.le_refl _) (fun _ h => h)
theorem Rd.new (w : World) (s : List UInt8) : Rd (w.alloc (.cells #[.string (bs s), .bool false] 72)) w.heap.size s false := ⟨alloc_blk _ _⟩

set_option maxHeartbeats 4000000 in
set_option maxRecDepth 100000 in
theorem lives3_any (w : World) : Calls Try.prog 10 #[] w fun e w' => e = .returned (.bool true) ∧ Below w.heap.size w w' := by
  go_enter Try.func10, Try.ntmps10
  go_wp2_with fail
  have HW := Lib.hid ((Wr.made w).shrink (own2 := from_ w.heap.size) (fun k h _ => by rw [h]; exact Nat.le_refl _))
  have HS : Hid (Step (from_ w.heap.size) w (w.alloc (.cells #[.pointer none, .int .i64 0] 26))) := (Step.refl _ _).alloc _
  generalize (w.alloc (.cells #[.pointer none, .int .i64 0] 26)) = w1 at *
  refine (wuint_z (n := 300) rfl (by decide) (by decide) HW.out (fun k hk => Nat.le_trans HS.out.size hk)).mono ?_
  rintro e w2 ⟨rfl, hw2, hs2⟩
  have HW2 := Lib.hid hw2
  have HS2 := Lib.hid (HS.out.trans hs2)
  clear hw2 hs2 HW HS
  go_wp2_with fail
  refine (wint_any (n := -3) (by decide) (by decide) (by decide) HW2.out (fun k hk => Nat.le_trans HS2.out.size hk)).mono ?_
  rintro e w3 ⟨rfl, hw2, hs2⟩
  have HW3 := Lib.hid hw2
  have HS3 := Lib.hid (HS2.out.trans hs2)
  clear hw2 hs2 HW2 HS2
  go_wp2_with fail
  refine (wfixed_any (n := 66051) (m := 2) (by decide) (by decide) (by decide) (by decide) HW3.out (fun k hk => Nat.le_trans HS3.out.size hk)).mono ?_
  rintro e w4 ⟨rfl, hw2, hs2⟩
  have HW4 := Lib.hid hw2
  have HS4 := Lib.hid (HS3.out.trans hs2)
  clear hw2 hs2 HW3 HS3
  go_wp2_with fail
  refine (wtext_any [97, 98] (by decide) HW4.out (fun k hk => Nat.le_trans HS4.out.size hk)).mono ?_
  rintro e w5 ⟨rfl, hw2, hs2⟩
  have HW5 := Lib.hid hw2
  have HS5 := Lib.hid (HS4.out.trans hs2)
  clear hw2 hs2 HW4 HS4
  go_wp2_with fail
  refine (wraw_any [33] (by decide) HW5.out (fun k hk => Nat.le_trans HS5.out.size hk)).mono ?_
  rintro e w6 ⟨rfl, hw2, hs2⟩
  have HW6 : Hid (Wr w6 w.heap.size (from_ w.heap.size) [172, 2, 5, 2, 3, 2, 97, 98, 33]) := hw2
  have HS6 := Lib.hid (HS5.out.trans hs2)
  clear hw2 hs2 HW5 HS5
  go_wp2_with fail
  refine (out_any (by decide) HW6.out).mono ?_
  rintro e w7 ⟨rfl, hd⟩
  have HS7 := Lib.hid (HS6.out.trans hd.step)
  clear hd HW6 HS6
  go_wp2_with fail
  refine (ropen_any _ _).mono ?_
  rintro e w8 ⟨rfl, rfl⟩
  have HR8 := Lib.hid (Rd.new w7 [172, 2, 5, 2, 3, 2, 97, 98, 33])
  have HS8 := Lib.hid (HS7.out.alloc (.cells #[.string (bs [172, 2, 5, 2, 3, 2, 97, 98, 33]), .bool false] 72))
  have hq : w.heap.size ≤ w7.heap.size := HS7.out.size
  have HQ := Lib.hid hq
  generalize (w7.alloc (.cells #[.string (bs [172, 2, 5, 2, 3, 2, 97, 98, 33]), .bool false] 72)) = w8 at *
  generalize w7.heap.size = R at *
  clear hq HS7
  go_wp2_with fail
  refine (ruint_some (n := 300) (k := 2) (by decide) (by decide) _ HR8.out).mono ?_
  rintro e w9 ⟨rfl, hr, hs⟩
  have HR9 : Hid (Rd w9 R [5, 2, 3, 2, 97, 98, 33] false) := hr
  have HS9 := Lib.hid (HS8.out.trans (hs.mono (fun k hk => by rw [hk]; exact HQ.out)))
  clear hr hs HR8 HS8
  go_wp2_with fail
  refine (rint_some (n := 5) (k := 1) (by decide) (by decide) _ HR9.out).mono ?_
  rintro e w10 ⟨he, hr, hs⟩
  obtain rfl : e = .returned (.int .i64 (-3)) := he
  have HR10 : Hid (Rd w10 R [2, 3, 2, 97, 98, 33] false) := hr
  have HS10 := Lib.hid (HS9.out.trans (hs.mono (fun k hk => by rw [hk]; exact HQ.out)))
  clear hr hs HR9 HS9
  go_wp2_with fail
  refine (rfixed_ok R [2, 3, 2, 97, 98, 33] 2 (by decide) (by decide) (by decide) (by decide) _ HR10.out).mono ?_
  rintro e w11 ⟨he, hr, hs⟩
  obtain rfl : e = .returned (.int .u64 515) := he
  have HR11 : Hid (Rd w11 R [2, 97, 98, 33] false) := hr
  have HS11 := Lib.hid (HS10.out.trans (hs.mono (fun k hk => by rw [hk]; exact HQ.out)))
  clear hr hs HR10 HS10
  go_wp2_with fail
  refine (rtext_ok (n := 2) (k := 1) (m := 2) (by decide) (by decide) (by decide) (by decide) (by decide) _ HR11.out).mono ?_
  rintro e w12 ⟨he, hr, hs⟩
  obtain rfl : e = .returned (.string (bs [97, 98])) := he
  have HR12 : Hid (Rd w12 R [33] false) := hr
  have HS12 := Lib.hid (HS11.out.trans (hs.mono (fun k hk => by rw [hk]; exact HQ.out)))
  clear hr hs HR11 HS11
  go_wp2_with fail
  refine (left_good R [33] _ HR12.out).mono ?_
  rintro e wl ⟨rfl, rfl⟩
  go_wp2_with fail
  refine (ropen_any [128, 0] _).mono ?_
  rintro e wq ⟨rfl, rfl⟩
  have HRq := Lib.hid (Rd.new w12 [128, 0])
  have HR13 : Hid (Rd (w12.alloc (.cells #[.string (bs [128, 0]), .bool false] 72)) R [33] false) := HR12.out.step (S := fun _ => False) ((Step.refl _ _).alloc _) (fun h => h)
  have HS13 := Lib.hid (HS12.out.alloc (.cells #[.string (bs [128, 0]), .bool false] 72))
  have hq2 : w.heap.size ≤ w12.heap.size := HS12.out.size
  have HQ2 := Lib.hid hq2
  have hne : R ≠ w12.heap.size := Nat.ne_of_lt HR12.out.lt
  have HNE := Lib.hid hne
  clear hne hq2
  generalize (w12.alloc (.cells #[.string (bs [128, 0]), .bool false] 72)) = w13 at *
  generalize w12.heap.size = R2 at *
  clear HR12 HS12
  go_wp2_with fail
  refine (ruint_none (s := [128, 0]) (by decide) (by decide) _ HRq.out).mono ?_
  rintro e w14 ⟨rfl, hr, hs⟩
  have HRb : Hid (Rd w14 R2 [] true) := hr
  have HR14 : Hid (Rd w14 R [33] false) := HR13.out.step hs HNE.out
  have HS14 := Lib.hid (HS13.out.trans (hs.mono (fun k hk => by rw [hk]; exact HQ2.out)))
  clear hr hs HRq HR13 HS13
  have t1 := bs_toList [172, 2, 5, 2, 3, 2, 97, 98, 33]
  have t2 := bs_toList [97, 98]
  go_wp2_with fail
  refine (bad_any R [33] false _ HR14.out).mono ?_
  rintro e w15 ⟨rfl, rfl⟩
  go_wp2_with fail
  refine (bad_any R2 [] true _ HRb.out).mono ?_
  rintro e w16 ⟨rfl, rfl⟩
  go_wp2_with fail
  go_ret
  exact ⟨rfl, HS14.out.toBelow⟩
end Go.Proofs.Ytkoajibjlcnjgaa
