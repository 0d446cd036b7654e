/-
  THE LAW plimsolllaw08.CellOf: the walk: it answers true, of any events.
-/
import Derived.Test.YtgijejdehenmpaaL8
import Derived.Test.YtgijejdehenmpaaRo8
namespace Go.Proofs.Ytgijejdehenmpaa
open Go Go.RowKit

set_option maxHeartbeats 4000000 in
set_option maxRecDepth 100000 in
theorem cof_long (ao : Option Addr) (b off cap : Nat) (l : List Ev) (hl : 200 < l.length) (hm : l.length ≤ 9223372036854775807) (w : World) (h : EvsAt w ao b off l) :
    Calls Try.prog 7 #[.slice ao l.length cap] w fun e w' => e = .returned (.bool true) ∧ Below w.heap.size w w' := by
  have d1 : decide (200 < l.length) = true := by simp <;> omega
  have d2 : decide ((200 : Int) < l.length) = true := by simp <;> omega
  clear h
  have HB := Lib.hid (Below.refl w.heap.size w)
  go_enter Try.func7, Try.ntmps7
  go_wp2_with (first
      | ((with_reducible refine at_slot 10 ?_); refine wl_call rfl rfl Try.func21 (by kernel_rfl) rfl (lives8 _) rfl ?_; intro V1 hb; replace HB := Lib.hid (below_tr HB.out hb); clear hb))
  go_ret
  exact ⟨rfl, HB.out⟩
set_option maxHeartbeats 4000000 in
set_option maxRecDepth 100000 in
theorem cof_in (ao : Option Addr) (b off cap : Nat) (l : List Ev) (hl : ¬ 200 < l.length) (hm : l.length ≤ 9223372036854775807) (w : World) (h : EvsAt w ao b off l) :
    Calls Try.prog 7 #[.slice ao l.length cap] w fun e w' => e = .returned (.bool true) ∧ Below w.heap.size w w' := by
  have d1 : decide (200 < l.length) = false := by simp <;> omega
  have d2 : decide ((200 : Int) < l.length) = false := by simp <;> omega
  have HL := Lib.hid h
  have HM := Lib.hid hm
  obtain ⟨C, hC⟩ : ∃ C, ofC l = C := ⟨_, rfl⟩
  obtain ⟨E, hE⟩ : ∃ E, ofE l = E := ⟨_, rfl⟩
  have R1 : Hid (∀ W, EvsAt W ao b off l → Calls Try.prog 30 #[.slice ao l.length cap] W fun e w' => e = .returned (.tuple #[.agg (ceA C), .int .i64 E]) ∧ Below W.heap.size W w') := Lib.hid (fun W hW => by
    have := of_evs ao b off cap l hm W hW
    rwa [hC, hE] at this)
  have R2 : Hid (∀ W, EvsAt W ao b off l → Calls Try.prog 31 #[.slice ao l.length cap] W fun e w' => e = .returned (.tuple #[.agg (ceA C), .int .i64 E]) ∧ Below W.heap.size W w') := Lib.hid (fun W hW => by
    have := rof_any ao b off cap l hm W hW
    rwa [hC, hE] at this)
  clear h hm hl hC hE
  have HB := Lib.hid (Below.refl w.heap.size w)
  go_enter Try.func7, Try.ntmps7
  go_wp2_with (first
      | ((with_reducible refine at_slot 13 ?_); refine wl_call rfl rfl Try.func30 (by kernel_rfl) rfl (R1.out _ (HL.out.keep HB.out)) rfl ?_; intro V1 hb; replace HB := Lib.hid (below_tr HB.out hb); clear hb)
      | ((with_reducible refine at_slot 3 ?_); refine wl_alloc (A := (ceA zeroCe)) rfl rfl ce_zero rfl ?_; intro W1 g1 k1 hb hle; have L1 := Lib.hid (Nat.le_trans HB.out.size hle); replace HB := Lib.hid (below_tr HB.out hb); clear hb hle)
      | ((with_reducible refine at_store 3 ?_); refine wl_st0 (A' := (ceA C)) rfl rfl rfl rfl k1 rfl ceInfo (ceA_one C) ?_; intro V2 kn hu; replace HB := Lib.hid (upd_below HB.out hu L1.out); clear k1; have k1 : Blk _ g1 _ (ceA C) := kn; clear kn hu)
      | ((with_reducible refine at_slot 18 ?_); refine wl_call rfl rfl Try.func31 (by kernel_rfl) rfl (R2.out _ (HL.out.keep HB.out)) rfl ?_; intro V3 hb; replace k1 := k1.keep hb; replace HB := Lib.hid (below_tr HB.out hb); clear hb)
      | ((with_reducible refine at_slot 5 ?_); refine wl_alloc (A := (ceA zeroCe)) rfl rfl ce_zero rfl ?_; intro W2 g2 k2 hb hle; have n1_2 := Lib.hid (Blk.ne_of_le k1 hle); have L2 := Lib.hid (Nat.le_trans HB.out.size hle); replace k1 := k1.keep hb; replace HB := Lib.hid (below_tr HB.out hb); clear hb hle)
      | ((with_reducible refine at_store 5 ?_); refine wl_st0 (A' := (ceA C)) rfl rfl rfl rfl k2 rfl ceInfo (ceA_one C) ?_; intro V4 kn hu; replace k1 := k1.upd hu n1_2.out; replace HB := Lib.hid (upd_below HB.out hu L2.out); clear k2; have k2 : Blk _ g2 _ (ceA C) := kn; clear kn hu)
      | ((with_reducible refine at_slot 21 ?_); refine wl_call rfl rfl Try.func21 (by kernel_rfl) rfl (lives8 _) rfl ?_; intro V5 hb; replace k1 := k1.keep hb; replace k2 := k2.keep hb; replace HB := Lib.hid (below_tr HB.out hb); clear hb)
      | ((with_reducible refine at_slot 23 ?_); refine wl_ld0 rfl rfl rfl k1 Try.underlying30 rfl ceInfo ?_)
      | ((with_reducible refine at_slot 24 ?_); refine wl_ld0 rfl rfl rfl k2 Try.underlying30 rfl ceInfo ?_)
      | ((with_reducible refine at_slot 25 ?_); refine wl_bin (v := .bool true) rfl rfl (run_eqGuard_agg _ _ _ _ _ _ _ (by kernel_rfl)) (ce_eql_yes rfl _) ?_))
  go_ret
  exact ⟨rfl, HB.out⟩
theorem cof_any (ao : Option Addr) (b off cap : Nat) (l : List Ev) (hm : l.length ≤ maxLen) (w : World) (h : EvsAt w ao b off l) :
    Calls Try.prog 7 #[.slice ao l.length cap] w fun e w' => e = .returned (.bool true) ∧ Below w.heap.size w w' := by
  have hm' : l.length ≤ 9223372036854775807 := by unfold maxLen at hm; omega
  by_cases hl : 200 < l.length
  · exact cof_long ao b off cap l hl hm' w h
  · exact cof_in ao b off cap l hl hm' w h
end Go.Proofs.Ytgijejdehenmpaa
