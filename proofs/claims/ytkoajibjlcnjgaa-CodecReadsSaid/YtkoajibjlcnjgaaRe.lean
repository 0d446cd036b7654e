/-
  WALKS: the document's answer for layer 3 (plimsollref03): Uint, Int, Text.
-/
import Derived.Test.YtkoajibjlcnjgaaWi
import Derived.Test.YtkoajibjlcnjgaaLv3
import Derived.Deep.RegionHeld3
import Derived.Deep.RegionWith
namespace Go.Proofs.Ytkoajibjlcnjgaa
open Go Go.RowKit

theorem conv1 (x : UInt8) (W : World) (g c : Nat) (h : W.cell? ⟨g, 0, none⟩ = some (.int .u8 (x.toNat : Int))) :
    (convert 54 9 (.slice (some ⟨g, 0, none⟩) 1 c)).run Try.prog W = .ok (.string (bs [x])) W :=
  run_convert_bytes_back W _ _ 5 ⟨g, 0, none⟩ c [x] Try.underlying54 Try.underlying5 Try.underlying9 (fun j hj => by
    have : j = 0 := by simpa using hj
    subst this
    rw [Addr.add_lit]
    exact h)
theorem bcell' {W w1 : World} (hb : Below W.heap.size W w1) : (∀ b o, b < W.heap.size → w1.cell? ⟨b, o, none⟩ = W.cell? ⟨b, o, none⟩) ∧ (∀ b o, b < W.heap.size → w1.frozen? ⟨b, o, none⟩ = W.frozen? ⟨b, o, none⟩) :=
  ⟨fun b o h => hb.cell (p := ⟨b, o, none⟩) h, fun b o h => hb.frozen (p := ⟨b, o, none⟩) h⟩

set_option maxHeartbeats 4000000 in
set_option maxRecDepth 100000 in
theorem refu (f : Nat) : ∀ (n : Nat) (w : World), n < 2 ^ (7 * f + 1) → f ≤ 9 →
    Calls Try.prog 12 #[.int .u64 n] w fun e w' => e = .returned (.string (bs (ubF f n))) ∧ Below w.heap.size w w' := by
  induction f with
  | zero =>
    intro n w hn _
    have hn2 : n < 2 := by simpa using hn
    have hc := conv1 (UInt8.ofNat n)
    rw [tn (by omega)] at hc
    go_enter Try.func12, Try.ntmps12
    go_wp2
    go_ret
    exact ⟨rfl, by go_grown⟩
  | succ f ih =>
    intro n w hn hf9
    rw [pw] at hn
    by_cases h : n < 128
    · have hc := conv1 (UInt8.ofNat n)
      rw [tn (by omega)] at hc
      rw [ubF_lt h]
      go_enter Try.func12, Try.ntmps12
      go_wp2
      go_ret
      exact ⟨rfl, by go_grown⟩
    · obtain ⟨x, hx⟩ : ∃ x, x = UInt8.ofNat (n % 128 + 128) := ⟨_, rfl⟩
      have hv : IntKind.u8.wrap (IntKind.u64.wrap ((n : Int).tmod 128 + 128)) = ((n % 128 + 128 : Nat) : Int) := by
        rw [IntKind.wrap_u8, IntKind.wrap_u64, Int.tmod_eq_emod_of_nonneg (by omega)]
        omega
      have hc : ∀ (W : World) (g c : Nat), W.cell? ⟨g, 0, none⟩ = some (.int .u8 (IntKind.u8.wrap (IntKind.u64.wrap ((n : Int).tmod 128 + 128)))) → (convert 54 9 (.slice (some ⟨g, 0, none⟩) 1 c)).run Try.prog W = .ok (.string (bs [x])) W := fun W g c h0 =>
        conv1 x W g c (by rw [h0, hx, tn (by omega), hv])
      have IH : Hid (∀ (W : World) (z : Int), z = ((n / 128 : Nat) : Int) → Calls Try.prog 12 #[.int .u64 z] W fun e w' => e = .returned (.string (bs (ubF f (n / 128)))) ∧ Below W.heap.size W w') := fun W z hz => by
        subst hz
        exact ih (n / 128) W (by omega) (by omega)
      have hn64 : (n : Int) ≤ 18446744073709551615 := by
        have h3 : 2 ^ (7 * f + 1) ≤ 2 ^ 57 := Nat.pow_le_pow_right (by omega) (by omega)
        omega
      have hz1 := bs_size [x]
      have hz2 := bs_size (ubF f (n / 128))
      have hl : (ubF f (n / 128)).length ≤ 10 := by have := (ubF_len f (n / 128)).2; omega
      have hl' : ((ubF f (n / 128)).length : Int) ≤ 10 := by omega
      have hz1' : (bs [x]).size = 1 := hz1
      have hs1 : ¬ (9223372036854775807 < 1 + (ubF f (n / 128)).length) := by omega
      have hs2 : ¬ (9223372036854775807 < (bs [x]).size + (bs (ubF f (n / 128))).size) := by rw [hz1', hz2]; omega
      have hap := bs_append [x] (ubF f (n / 128))
      have hd : decide ((n : Int) < 128) = false := by simp; omega
      rw [ubF_ge (by omega), ← hx]
      clear hx
      have hq : IntKind.u64.wrap ((n : Int) / 128) = ((n / 128 : Nat) : Int) := by rw [IntKind.wrap_u64]; omega
      have HQ := Lib.hid hq
      clear hn ih hv hq
      go_enter Try.func12, Try.ntmps12
      go_wp2
      go_region_with ((go_at_call 12; refine (IH.out _ _ HQ.out).mono ?_; rintro e w1 ⟨rfl, hb⟩; obtain ⟨hc1, hf1⟩ := bcell' hb))
      all_goals
        have HB : Below w.heap.size w w1 := Below.trans (by go_grown) (hb.mono (by simp))
        clear hb hc1 hf1
        go_wp2
        go_ret
        exact ⟨rfl, by first | exact HB | exact HB.alloc HB.size _ | go_grown⟩
end Go.Proofs.Ytkoajibjlcnjgaa
