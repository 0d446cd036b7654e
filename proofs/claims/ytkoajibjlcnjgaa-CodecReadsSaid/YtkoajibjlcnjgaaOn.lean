/-
  WALKS: seal.Only.
-/
import Derived.Test.YtkoajibjlcnjgaaFo
namespace Go.Proofs.Ytkoajibjlcnjgaa
open Go Go.RowKit

set_option maxRecDepth 100000 in
/-- Only, where Open hands back a frame of that kind, and nothing behind it. -/
theorem only_ok {k : Nat} {t : List UInt8} {s : ByteArray} (w : World)
    (hc : Calls Try.prog 33 #[.string s] w fun e w' => e = .returned (.tuple #[.int .u8 k, .string (bs t), .string (bs []), .int .i64 0]) ∧ Below w.heap.size w w') :
    Calls Try.prog 34 #[.int .u8 k, .string s] w fun e w' => e = .returned (.tuple #[.string (bs t), .int .i64 0]) ∧ Below w.heap.size w w' := by
  have HC := Lib.hid hc
  clear hc
  have hnl : (bs []).toList = [] := bs_toList []
  go_enter Try.func34, Try.ntmps34
  go_wp2_with fail
  refine HC.out.mono ?_
  rintro e w1 ⟨rfl, hb⟩
  go_wp2_with fail
  go_ret2
  exact ⟨rfl, hb⟩
set_option maxRecDepth 100000 in
/-- .. where Open hands back no frame. -/
theorem only_err {k : Nat} {s : ByteArray} (w : World)
    (hc : Calls Try.prog 33 #[.string s] w fun e w' => e = .returned (.tuple #[.int .u8 0, .string (bs []), .string (bs []), .int .i64 4]) ∧ Below w.heap.size w w') :
    Calls Try.prog 34 #[.int .u8 k, .string s] w fun e w' => e = .returned (.tuple #[.string (bs []), .int .i64 4]) ∧ Below w.heap.size w w' := by
  have HC := Lib.hid hc
  clear hc
  go_enter Try.func34, Try.ntmps34
  go_wp2_with fail
  refine HC.out.mono ?_
  rintro e w1 ⟨rfl, hb⟩
  go_wp2_with fail
  go_ret2
  exact ⟨rfl, hb⟩
set_option maxRecDepth 100000 in
/-- .. where its kind is another one. -/
theorem only_kind {k j : Nat} (hkj : j ≠ k) {t r : List UInt8} {s : ByteArray} (w : World)
    (hc : Calls Try.prog 33 #[.string s] w fun e w' => e = .returned (.tuple #[.int .u8 j, .string (bs t), .string (bs r), .int .i64 0]) ∧ Below w.heap.size w w') :
    Calls Try.prog 34 #[.int .u8 k, .string s] w fun e w' => e = .returned (.tuple #[.string (bs []), .int .i64 4]) ∧ Below w.heap.size w w' := by
  have HC := Lib.hid hc
  clear hc
  have h1 : ((j : Int) != (k : Int)) = true := by simp; omega
  have h2 : ¬ (j : Int) = (k : Int) := by omega
  go_enter Try.func34, Try.ntmps34
  go_wp2_with fail
  refine HC.out.mono ?_
  rintro e w1 ⟨rfl, hb⟩
  go_wp2_with fail
  go_ret2
  exact ⟨rfl, hb⟩
end Go.Proofs.Ytkoajibjlcnjgaa
