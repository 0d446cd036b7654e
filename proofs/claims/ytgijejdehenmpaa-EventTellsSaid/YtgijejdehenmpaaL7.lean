/-
  WALKS: plimsolllaw07.lives: the document's answers are given.
-/
import Derived.Test.YtgijejdehenmpaaBs
import Derived.Test.YtgijejdehenmpaaDr
namespace Go.Proofs.Ytgijejdehenmpaa
open Go Go.RowKit

theorem l7_bld_event_0_1 (x0 : Int) (x1 : Int) (w : World) : (Instr.build 24 #[(0, .int .i64 x0), (1, .int .u64 x1)]).run Try.prog w = .ok (.agg (evA ⟨x0, x1, 0, false⟩)) w := by
  unfold evA
  try simp only [zero_hi, zero_lo, zeroEv]
  go_simp
theorem l7_bld_event_0_3 (x0 : Int) (x3 : Bool) (w : World) : (Instr.build 24 #[(0, .int .i64 x0), (3, .bool x3)]).run Try.prog w = .ok (.agg (evA ⟨x0, 0, 0, x3⟩)) w := by
  unfold evA
  try simp only [zero_hi, zero_lo, zeroEv]
  go_simp
theorem l7_bld_event_0_1_2 (x0 : Int) (x1 : Int) (x2 : Int) (w : World) : (Instr.build 24 #[(0, .int .i64 x0), (1, .int .u64 x1), (2, .int .i64 x2)]).run Try.prog w = .ok (.agg (evA ⟨x0, x1, x2, false⟩)) w := by
  unfold evA
  try simp only [zero_hi, zero_lo, zeroEv]
  go_simp
theorem l7_bld_event_0 (x0 : Int) (w : World) : (Instr.build 24 #[(0, .int .i64 x0)]).run Try.prog w = .ok (.agg (evA ⟨x0, 0, 0, false⟩)) w := by
  unfold evA
  try simp only [zero_hi, zero_lo, zeroEv]
  go_simp
theorem l7_bld_cell_3_4_6 (x3 : U) (x4 : Int) (x6 : Int) (w : World) : (Instr.build 30 #[(3, .agg (wdA x3)), (4, .int .i64 x4), (6, .int .i64 x6)]).run Try.prog w = .ok (.agg (ceA ⟨0, zeroEv, zeroEv, x3, x4, 0, x6⟩)) w := by
  unfold ceA wdA
  try simp only [zero_hi, zero_lo, zeroEv]
  go_simp
theorem l7_bld_cell_5 (x5 : Int) (w : World) : (Instr.build 30 #[(5, .int .i64 x5)]).run Try.prog w = .ok (.agg (ceA ⟨0, zeroEv, zeroEv, U.zero, 0, x5, 0⟩)) w := by
  unfold ceA
  try simp only [zero_hi, zero_lo, zeroEv]
  go_simp
theorem l7_bld_event_0_2 (x0 : Int) (x2 : Int) (w : World) : (Instr.build 24 #[(0, .int .i64 x0), (2, .int .i64 x2)]).run Try.prog w = .ok (.agg (evA ⟨x0, 0, x2, false⟩)) w := by
  unfold evA
  try simp only [zero_hi, zero_lo, zeroEv]
  go_simp
set_option maxHeartbeats 4000000 in
set_option maxRecDepth 100000 in
theorem lives7 (w : World) : Calls Try.prog 12 #[] w fun e w' => e = .returned (.bool true) ∧ Below w.heap.size w w' := by
  have HR4 := Lib.hid ris4
  have HCD : Hid (∀ w, Calls Try.prog 13 #[.agg (evA ⟨40, 0, 0, true⟩), .agg (evA ⟨60, 2, 0, false⟩)] w fun e w' => e = .returned (.tuple #[.agg (ceA ⟨0, zeroEv, zeroEv, U.zero, 0, 1, 0⟩), .int .i64 0]) ∧ Below w.heap.size w w') := Lib.hid (fun w => by
    have := be_lit ec_ok ee_ok (by decide) (n := 0) rfl rfl rfl rfl w
    rwa [cutU_0] at this)
  have HB := Lib.hid (Below.refl w.heap.size w)
  go_enter Try.func12, Try.ntmps12
  go_wp2_with (first
      | ((with_reducible refine at_slot 17 ?_); refine wl_build (v := .agg (evA ⟨10, 5, 0, false⟩)) rfl rfl (l7_bld_event_0_1 _ _ _) rfl ?_)
      | ((with_reducible refine at_slot 18 ?_); refine wl_build (v := .agg (evA ⟨30, 3, 0, false⟩)) rfl rfl (l7_bld_event_0_1 _ _ _) rfl ?_)
      | ((with_reducible refine at_slot 19 ?_); refine wl_build (v := .agg (evA ⟨40, 0, 0, true⟩)) rfl rfl (l7_bld_event_0_3 _ _ _) rfl ?_)
      | ((with_reducible refine at_slot 20 ?_); refine wl_build (v := .agg (evA ⟨60, 2, 50, false⟩)) rfl rfl (l7_bld_event_0_1_2 _ _ _ _) rfl ?_)
      | ((with_reducible refine at_slot 1 ?_); refine wl_alloc (A := (evA zeroEv)) rfl rfl ev_zero rfl ?_; intro W1 g1 k1 hb hle; have L1 := Lib.hid (Nat.le_trans HB.out.size hle); replace HB := Lib.hid (below_tr HB.out hb); clear hb hle)
      | ((with_reducible refine at_slot 2 ?_); refine wl_alloc (A := (evA zeroEv)) rfl rfl ev_zero rfl ?_; intro W2 g2 k2 hb hle; have n1_2 := Lib.hid (Blk.ne_of_le k1 hle); have L2 := Lib.hid (Nat.le_trans HB.out.size hle); replace k1 := k1.keep hb; replace HB := Lib.hid (below_tr HB.out hb); clear hb hle)
      | ((with_reducible refine at_slot 3 ?_); refine wl_alloc (A := (evA zeroEv)) rfl rfl ev_zero rfl ?_; intro W3 g3 k3 hb hle; have n1_3 := Lib.hid (Blk.ne_of_le k1 hle); have n2_3 := Lib.hid (Blk.ne_of_le k2 hle); have L3 := Lib.hid (Nat.le_trans HB.out.size hle); replace k1 := k1.keep hb; replace k2 := k2.keep hb; replace HB := Lib.hid (below_tr HB.out hb); clear hb hle)
      | ((with_reducible refine at_slot 4 ?_); refine wl_alloc (A := (evA zeroEv)) rfl rfl ev_zero rfl ?_; intro W4 g4 k4 hb hle; have n1_4 := Lib.hid (Blk.ne_of_le k1 hle); have n2_4 := Lib.hid (Blk.ne_of_le k2 hle); have n3_4 := Lib.hid (Blk.ne_of_le k3 hle); have L4 := Lib.hid (Nat.le_trans HB.out.size hle); replace k1 := k1.keep hb; replace k2 := k2.keep hb; replace k3 := k3.keep hb; replace HB := Lib.hid (below_tr HB.out hb); clear hb hle)
      | ((with_reducible refine at_store 1 ?_); refine wl_st0 (A' := (evA ⟨10, 5, 0, false⟩)) rfl rfl rfl rfl k1 rfl evInfo (evA_one ⟨10, 5, 0, false⟩) ?_; intro V1 kn hu; replace k2 := k2.upd hu (Ne.symm n1_2.out); replace k3 := k3.upd hu (Ne.symm n1_3.out); replace k4 := k4.upd hu (Ne.symm n1_4.out); replace HB := Lib.hid (upd_below HB.out hu L1.out); clear k1; have k1 : Blk _ g1 _ (evA ⟨10, 5, 0, false⟩) := kn; clear kn hu)
      | ((with_reducible refine at_store 2 ?_); refine wl_st0 (A' := (evA ⟨30, 3, 0, false⟩)) rfl rfl rfl rfl k2 rfl evInfo (evA_one ⟨30, 3, 0, false⟩) ?_; intro V2 kn hu; replace k1 := k1.upd hu n1_2.out; replace k3 := k3.upd hu (Ne.symm n2_3.out); replace k4 := k4.upd hu (Ne.symm n2_4.out); replace HB := Lib.hid (upd_below HB.out hu L2.out); clear k2; have k2 : Blk _ g2 _ (evA ⟨30, 3, 0, false⟩) := kn; clear kn hu)
      | ((with_reducible refine at_store 3 ?_); refine wl_st0 (A' := (evA ⟨40, 0, 0, true⟩)) rfl rfl rfl rfl k3 rfl evInfo (evA_one ⟨40, 0, 0, true⟩) ?_; intro V3 kn hu; replace k1 := k1.upd hu n1_3.out; replace k2 := k2.upd hu n2_3.out; replace k4 := k4.upd hu (Ne.symm n3_4.out); replace HB := Lib.hid (upd_below HB.out hu L3.out); clear k3; have k3 : Blk _ g3 _ (evA ⟨40, 0, 0, true⟩) := kn; clear kn hu)
      | ((with_reducible refine at_store 4 ?_); refine wl_st0 (A' := (evA ⟨60, 2, 50, false⟩)) rfl rfl rfl rfl k4 rfl evInfo (evA_one ⟨60, 2, 50, false⟩) ?_; intro V4 kn hu; replace k1 := k1.upd hu n1_4.out; replace k2 := k2.upd hu n2_4.out; replace k3 := k3.upd hu n3_4.out; replace HB := Lib.hid (upd_below HB.out hu L4.out); clear k4; have k4 : Blk _ g4 _ (evA ⟨60, 2, 50, false⟩) := kn; clear kn hu)
      | ((with_reducible refine at_slot 22 ?_); refine wl_ld0 rfl rfl rfl k1 Try.underlying24 rfl evInfo ?_)
      | ((with_reducible refine at_slot 23 ?_); refine wl_ld0 rfl rfl rfl k2 Try.underlying24 rfl evInfo ?_)
      | ((with_reducible refine at_slot 24 ?_); refine wl_call rfl rfl Try.func13 (by kernel_rfl) rfl (be_lit ea_ok eb_ok (by decide) (n := 3) rfl rfl rfl rfl _) rfl ?_; intro V5 hb; replace k1 := k1.keep hb; replace k2 := k2.keep hb; replace k3 := k3.keep hb; replace k4 := k4.keep hb; replace HB := Lib.hid (below_tr HB.out hb); clear hb)
      | ((with_reducible refine at_slot 5 ?_); refine wl_alloc (A := (ceA zeroCe)) rfl rfl ce_zero rfl ?_; intro W5 g5 k5 hb hle; have n1_5 := Lib.hid (Blk.ne_of_le k1 hle); have n2_5 := Lib.hid (Blk.ne_of_le k2 hle); have n3_5 := Lib.hid (Blk.ne_of_le k3 hle); have n4_5 := Lib.hid (Blk.ne_of_le k4 hle); have L5 := Lib.hid (Nat.le_trans HB.out.size hle); replace k1 := k1.keep hb; replace k2 := k2.keep hb; replace k3 := k3.keep hb; replace k4 := k4.keep hb; replace HB := Lib.hid (below_tr HB.out hb); clear hb hle)
      | ((with_reducible refine at_store 5 ?_); refine wl_st0 (A' := (ceA ⟨0, zeroEv, zeroEv, (cutU 3), 1, 0, 20⟩)) rfl rfl rfl rfl k5 rfl ceInfo (ceA_one ⟨0, zeroEv, zeroEv, (cutU 3), 1, 0, 20⟩) ?_; intro V6 kn hu; replace k1 := k1.upd hu n1_5.out; replace k2 := k2.upd hu n2_5.out; replace k3 := k3.upd hu n3_5.out; replace k4 := k4.upd hu n4_5.out; replace HB := Lib.hid (upd_below HB.out hu L5.out); clear k5; have k5 : Blk _ g5 _ (ceA ⟨0, zeroEv, zeroEv, (cutU 3), 1, 0, 20⟩) := kn; clear kn hu)
      | ((with_reducible refine at_slot 28 ?_); refine wl_ld0 rfl rfl rfl k3 Try.underlying24 rfl evInfo ?_)
      | ((with_reducible refine at_slot 29 ?_); refine wl_ld0 rfl rfl rfl k4 Try.underlying24 rfl evInfo ?_)
      | ((with_reducible refine at_slot 30 ?_); refine wl_call rfl rfl Try.func13 (by kernel_rfl) rfl (be_lit ec_ok ed_ok (by decide) (n := 2) rfl rfl rfl rfl _) rfl ?_; intro V7 hb; replace k1 := k1.keep hb; replace k2 := k2.keep hb; replace k3 := k3.keep hb; replace k4 := k4.keep hb; replace k5 := k5.keep hb; replace HB := Lib.hid (below_tr HB.out hb); clear hb)
      | ((with_reducible refine at_slot 7 ?_); refine wl_alloc (A := (ceA zeroCe)) rfl rfl ce_zero rfl ?_; intro W6 g6 k6 hb hle; have n1_6 := Lib.hid (Blk.ne_of_le k1 hle); have n2_6 := Lib.hid (Blk.ne_of_le k2 hle); have n3_6 := Lib.hid (Blk.ne_of_le k3 hle); have n4_6 := Lib.hid (Blk.ne_of_le k4 hle); have n5_6 := Lib.hid (Blk.ne_of_le k5 hle); have L6 := Lib.hid (Nat.le_trans HB.out.size hle); replace k1 := k1.keep hb; replace k2 := k2.keep hb; replace k3 := k3.keep hb; replace k4 := k4.keep hb; replace k5 := k5.keep hb; replace HB := Lib.hid (below_tr HB.out hb); clear hb hle)
      | ((with_reducible refine at_store 7 ?_); refine wl_st0 (A' := (ceA ⟨0, zeroEv, zeroEv, (cutU 2), 1, 0, 10⟩)) rfl rfl rfl rfl k6 rfl ceInfo (ceA_one ⟨0, zeroEv, zeroEv, (cutU 2), 1, 0, 10⟩) ?_; intro V8 kn hu; replace k1 := k1.upd hu n1_6.out; replace k2 := k2.upd hu n2_6.out; replace k3 := k3.upd hu n3_6.out; replace k4 := k4.upd hu n4_6.out; replace k5 := k5.upd hu n5_6.out; replace HB := Lib.hid (upd_below HB.out hu L6.out); clear k6; have k6 : Blk _ g6 _ (ceA ⟨0, zeroEv, zeroEv, (cutU 2), 1, 0, 10⟩) := kn; clear kn hu)
      | ((with_reducible refine at_slot 34 ?_); refine wl_ld0 rfl rfl rfl k3 Try.underlying24 rfl evInfo ?_)
      | ((with_reducible refine at_slot 35 ?_); refine wl_build (v := .agg (evA ⟨60, 2, 0, false⟩)) rfl rfl (l7_bld_event_0_1 _ _ _) rfl ?_)
      | ((with_reducible refine at_slot 36 ?_); refine wl_call rfl rfl Try.func13 (by kernel_rfl) rfl (HCD.out _) rfl ?_; intro V9 hb; replace k1 := k1.keep hb; replace k2 := k2.keep hb; replace k3 := k3.keep hb; replace k4 := k4.keep hb; replace k5 := k5.keep hb; replace k6 := k6.keep hb; replace HB := Lib.hid (below_tr HB.out hb); clear hb)
      | ((with_reducible refine at_slot 9 ?_); refine wl_alloc (A := (ceA zeroCe)) rfl rfl ce_zero rfl ?_; intro W7 g7 k7 hb hle; have n1_7 := Lib.hid (Blk.ne_of_le k1 hle); have n2_7 := Lib.hid (Blk.ne_of_le k2 hle); have n3_7 := Lib.hid (Blk.ne_of_le k3 hle); have n4_7 := Lib.hid (Blk.ne_of_le k4 hle); have n5_7 := Lib.hid (Blk.ne_of_le k5 hle); have n6_7 := Lib.hid (Blk.ne_of_le k6 hle); have L7 := Lib.hid (Nat.le_trans HB.out.size hle); replace k1 := k1.keep hb; replace k2 := k2.keep hb; replace k3 := k3.keep hb; replace k4 := k4.keep hb; replace k5 := k5.keep hb; replace k6 := k6.keep hb; replace HB := Lib.hid (below_tr HB.out hb); clear hb hle)
      | ((with_reducible refine at_store 9 ?_); refine wl_st0 (A' := (ceA ⟨0, zeroEv, zeroEv, U.zero, 0, 1, 0⟩)) rfl rfl rfl rfl k7 rfl ceInfo (ceA_one ⟨0, zeroEv, zeroEv, U.zero, 0, 1, 0⟩) ?_; intro V10 kn hu; replace k1 := k1.upd hu n1_7.out; replace k2 := k2.upd hu n2_7.out; replace k3 := k3.upd hu n3_7.out; replace k4 := k4.upd hu n4_7.out; replace k5 := k5.upd hu n5_7.out; replace k6 := k6.upd hu n6_7.out; replace HB := Lib.hid (upd_below HB.out hu L7.out); clear k7; have k7 : Blk _ g7 _ (ceA ⟨0, zeroEv, zeroEv, U.zero, 0, 1, 0⟩) := kn; clear kn hu)
      | ((with_reducible refine at_slot 40 ?_); refine wl_ld0 rfl rfl rfl k1 Try.underlying24 rfl evInfo ?_)
      | ((with_reducible refine at_slot 41 ?_); refine wl_ld0 rfl rfl rfl k2 Try.underlying24 rfl evInfo ?_)
      | ((with_reducible refine at_slot 42 ?_); refine wl_ld0 rfl rfl rfl k3 Try.underlying24 rfl evInfo ?_)
      | ((with_reducible refine at_slot 43 ?_); refine wl_ld0 rfl rfl rfl k4 Try.underlying24 rfl evInfo ?_)
      | ((with_reducible refine at_slot 44 ?_); refine wl_bslice (A := (evsA [⟨10, 5, 0, false⟩, ⟨30, 3, 0, false⟩, ⟨40, 0, 0, true⟩, ⟨60, 2, 50, false⟩])) rfl rfl (bs4_ev _ _ _ _ _) rfl ?_; intro W8 g8 k8 hb hle; have n1_8 := Lib.hid (Blk.ne_of_le k1 hle); have n2_8 := Lib.hid (Blk.ne_of_le k2 hle); have n3_8 := Lib.hid (Blk.ne_of_le k3 hle); have n4_8 := Lib.hid (Blk.ne_of_le k4 hle); have n5_8 := Lib.hid (Blk.ne_of_le k5 hle); have n6_8 := Lib.hid (Blk.ne_of_le k6 hle); have n7_8 := Lib.hid (Blk.ne_of_le k7 hle); have L8 := Lib.hid (Nat.le_trans HB.out.size hle); replace k1 := k1.keep hb; replace k2 := k2.keep hb; replace k3 := k3.keep hb; replace k4 := k4.keep hb; replace k5 := k5.keep hb; replace k6 := k6.keep hb; replace k7 := k7.keep hb; replace HB := Lib.hid (below_tr HB.out hb); clear hb hle)
      | ((with_reducible refine at_slot 45 ?_); refine wl_call rfl rfl Try.func15 (by kernel_rfl) rfl (ri_lit (k := 4) k8 rfl (by omega) (in4 ea_ok.in eb_ok.in ec_ok.in ed_ok.in) HR4.out.2 HR4.out.1) rfl ?_; intro V11 hb; replace k1 := k1.keep hb; replace k2 := k2.keep hb; replace k3 := k3.keep hb; replace k4 := k4.keep hb; replace k5 := k5.keep hb; replace k6 := k6.keep hb; replace k7 := k7.keep hb; replace k8 := k8.keep hb; replace HB := Lib.hid (below_tr HB.out hb); clear hb)
      | ((with_reducible refine at_slot 11 ?_); refine wl_alloc (A := (wdA U.zero)) rfl rfl wd_zero rfl ?_; intro W9 g9 k9 hb hle; have n1_9 := Lib.hid (Blk.ne_of_le k1 hle); have n2_9 := Lib.hid (Blk.ne_of_le k2 hle); have n3_9 := Lib.hid (Blk.ne_of_le k3 hle); have n4_9 := Lib.hid (Blk.ne_of_le k4 hle); have n5_9 := Lib.hid (Blk.ne_of_le k5 hle); have n6_9 := Lib.hid (Blk.ne_of_le k6 hle); have n7_9 := Lib.hid (Blk.ne_of_le k7 hle); have n8_9 := Lib.hid (Blk.ne_of_le k8 hle); have L9 := Lib.hid (Nat.le_trans HB.out.size hle); replace k1 := k1.keep hb; replace k2 := k2.keep hb; replace k3 := k3.keep hb; replace k4 := k4.keep hb; replace k5 := k5.keep hb; replace k6 := k6.keep hb; replace k7 := k7.keep hb; replace k8 := k8.keep hb; replace HB := Lib.hid (below_tr HB.out hb); clear hb hle)
      | ((with_reducible refine at_store 11 ?_); refine wl_st0 (A' := (wdA (cutU 5))) rfl rfl rfl rfl k9 rfl wdInfo (wdA_one (cutU 5)) ?_; intro V12 kn hu; replace k1 := k1.upd hu n1_9.out; replace k2 := k2.upd hu n2_9.out; replace k3 := k3.upd hu n3_9.out; replace k4 := k4.upd hu n4_9.out; replace k5 := k5.upd hu n5_9.out; replace k6 := k6.upd hu n6_9.out; replace k7 := k7.upd hu n7_9.out; replace k8 := k8.upd hu n8_9.out; replace HB := Lib.hid (upd_below HB.out hu L9.out); clear k9; have k9 : Blk _ g9 _ (wdA (cutU 5)) := kn; clear kn hu)
      | ((with_reducible refine at_slot 49 ?_); refine wl_ld0 rfl rfl rfl k2 Try.underlying24 rfl evInfo ?_)
      | ((with_reducible refine at_slot 50 ?_); refine wl_ld0 rfl rfl rfl k1 Try.underlying24 rfl evInfo ?_)
      | ((with_reducible refine at_slot 51 ?_); refine wl_call rfl rfl Try.func13 (by kernel_rfl) rfl (be_time eb_ok ea_ok (by decide) _) rfl ?_; intro V13 hb; replace k1 := k1.keep hb; replace k2 := k2.keep hb; replace k3 := k3.keep hb; replace k4 := k4.keep hb; replace k5 := k5.keep hb; replace k6 := k6.keep hb; replace k7 := k7.keep hb; replace k8 := k8.keep hb; replace k9 := k9.keep hb; replace HB := Lib.hid (below_tr HB.out hb); clear hb)
      | ((with_reducible refine at_slot 13 ?_); refine wl_alloc (A := (ceA zeroCe)) rfl rfl ce_zero rfl ?_; intro W10 g10 k10 hb hle; have n1_10 := Lib.hid (Blk.ne_of_le k1 hle); have n2_10 := Lib.hid (Blk.ne_of_le k2 hle); have n3_10 := Lib.hid (Blk.ne_of_le k3 hle); have n4_10 := Lib.hid (Blk.ne_of_le k4 hle); have n5_10 := Lib.hid (Blk.ne_of_le k5 hle); have n6_10 := Lib.hid (Blk.ne_of_le k6 hle); have n7_10 := Lib.hid (Blk.ne_of_le k7 hle); have n8_10 := Lib.hid (Blk.ne_of_le k8 hle); have n9_10 := Lib.hid (Blk.ne_of_le k9 hle); have L10 := Lib.hid (Nat.le_trans HB.out.size hle); replace k1 := k1.keep hb; replace k2 := k2.keep hb; replace k3 := k3.keep hb; replace k4 := k4.keep hb; replace k5 := k5.keep hb; replace k6 := k6.keep hb; replace k7 := k7.keep hb; replace k8 := k8.keep hb; replace k9 := k9.keep hb; replace HB := Lib.hid (below_tr HB.out hb); clear hb hle)
      | ((with_reducible refine at_store 13 ?_); refine wl_st0 (A' := (ceA zeroCe)) rfl rfl rfl rfl k10 rfl ceInfo (ceA_one zeroCe) ?_; intro V14 kn hu; replace k1 := k1.upd hu n1_10.out; replace k2 := k2.upd hu n2_10.out; replace k3 := k3.upd hu n3_10.out; replace k4 := k4.upd hu n4_10.out; replace k5 := k5.upd hu n5_10.out; replace k6 := k6.upd hu n6_10.out; replace k7 := k7.upd hu n7_10.out; replace k8 := k8.upd hu n8_10.out; replace k9 := k9.upd hu n9_10.out; replace HB := Lib.hid (upd_below HB.out hu L10.out); clear k10; have k10 : Blk _ g10 _ (ceA zeroCe) := kn; clear kn hu)
      | ((with_reducible refine at_slot 55 ?_); refine wl_build (v := .agg (evA ⟨(-1), 0, 0, false⟩)) rfl rfl (l7_bld_event_0 _ _) rfl ?_)
      | ((with_reducible refine at_slot 56 ?_); refine wl_bslice (A := (evsA [⟨-1, 0, 0, false⟩])) rfl rfl (bs1_ev _ _) rfl ?_; intro W11 g11 k11 hb hle; have n1_11 := Lib.hid (Blk.ne_of_le k1 hle); have n2_11 := Lib.hid (Blk.ne_of_le k2 hle); have n3_11 := Lib.hid (Blk.ne_of_le k3 hle); have n4_11 := Lib.hid (Blk.ne_of_le k4 hle); have n5_11 := Lib.hid (Blk.ne_of_le k5 hle); have n6_11 := Lib.hid (Blk.ne_of_le k6 hle); have n7_11 := Lib.hid (Blk.ne_of_le k7 hle); have n8_11 := Lib.hid (Blk.ne_of_le k8 hle); have n9_11 := Lib.hid (Blk.ne_of_le k9 hle); have n10_11 := Lib.hid (Blk.ne_of_le k10 hle); have L11 := Lib.hid (Nat.le_trans HB.out.size hle); replace k1 := k1.keep hb; replace k2 := k2.keep hb; replace k3 := k3.keep hb; replace k4 := k4.keep hb; replace k5 := k5.keep hb; replace k6 := k6.keep hb; replace k7 := k7.keep hb; replace k8 := k8.keep hb; replace k9 := k9.keep hb; replace k10 := k10.keep hb; replace HB := Lib.hid (below_tr HB.out hb); clear hb hle)
      | ((with_reducible refine at_slot 57 ?_); refine wl_call rfl rfl Try.func15 (by kernel_rfl) rfl (ri_lit (k := 1) k11 rfl (by omega) (in1 (P := EvIn) en_in) rfl (evE_no en_no)) rfl ?_; intro V15 hb; replace k1 := k1.keep hb; replace k2 := k2.keep hb; replace k3 := k3.keep hb; replace k4 := k4.keep hb; replace k5 := k5.keep hb; replace k6 := k6.keep hb; replace k7 := k7.keep hb; replace k8 := k8.keep hb; replace k9 := k9.keep hb; replace k10 := k10.keep hb; replace k11 := k11.keep hb; replace HB := Lib.hid (below_tr HB.out hb); clear hb)
      | ((with_reducible refine at_slot 15 ?_); refine wl_alloc (A := (wdA U.zero)) rfl rfl wd_zero rfl ?_; intro W12 g12 k12 hb hle; have n1_12 := Lib.hid (Blk.ne_of_le k1 hle); have n2_12 := Lib.hid (Blk.ne_of_le k2 hle); have n3_12 := Lib.hid (Blk.ne_of_le k3 hle); have n4_12 := Lib.hid (Blk.ne_of_le k4 hle); have n5_12 := Lib.hid (Blk.ne_of_le k5 hle); have n6_12 := Lib.hid (Blk.ne_of_le k6 hle); have n7_12 := Lib.hid (Blk.ne_of_le k7 hle); have n8_12 := Lib.hid (Blk.ne_of_le k8 hle); have n9_12 := Lib.hid (Blk.ne_of_le k9 hle); have n10_12 := Lib.hid (Blk.ne_of_le k10 hle); have n11_12 := Lib.hid (Blk.ne_of_le k11 hle); have L12 := Lib.hid (Nat.le_trans HB.out.size hle); replace k1 := k1.keep hb; replace k2 := k2.keep hb; replace k3 := k3.keep hb; replace k4 := k4.keep hb; replace k5 := k5.keep hb; replace k6 := k6.keep hb; replace k7 := k7.keep hb; replace k8 := k8.keep hb; replace k9 := k9.keep hb; replace k10 := k10.keep hb; replace k11 := k11.keep hb; replace HB := Lib.hid (below_tr HB.out hb); clear hb hle)
      | ((with_reducible refine at_store 15 ?_); refine wl_st0 (A' := (wdA (cutU 0))) rfl rfl rfl rfl k12 rfl wdInfo (wdA_one (cutU 0)) ?_; intro V16 kn hu; replace k1 := k1.upd hu n1_12.out; replace k2 := k2.upd hu n2_12.out; replace k3 := k3.upd hu n3_12.out; replace k4 := k4.upd hu n4_12.out; replace k5 := k5.upd hu n5_12.out; replace k6 := k6.upd hu n6_12.out; replace k7 := k7.upd hu n7_12.out; replace k8 := k8.upd hu n8_12.out; replace k9 := k9.upd hu n9_12.out; replace k10 := k10.upd hu n10_12.out; replace k11 := k11.upd hu n11_12.out; replace HB := Lib.hid (upd_below HB.out hu L12.out); clear k12; have k12 : Blk _ g12 _ (wdA (cutU 0)) := kn; clear kn hu))
  refine wp_region_held_drew (S := fun w' => Blk w' g1 24 (evA ⟨10, 5, 0, false⟩) ∧ Blk w' g2 24 (evA ⟨30, 3, 0, false⟩) ∧ Blk w' g3 24 (evA ⟨40, 0, 0, true⟩) ∧ Blk w' g4 24 (evA ⟨60, 2, 50, false⟩) ∧ Blk w' g5 30 (ceA ⟨0, zeroEv, zeroEv, (cutU 3), 1, 0, 20⟩) ∧ Blk w' g6 30 (ceA ⟨0, zeroEv, zeroEv, (cutU 2), 1, 0, 10⟩) ∧ Blk w' g7 30 (ceA ⟨0, zeroEv, zeroEv, U.zero, 0, 1, 0⟩) ∧ Blk w' g8 24 (evsA [⟨10, 5, 0, false⟩, ⟨30, 3, 0, false⟩, ⟨40, 0, 0, true⟩, ⟨60, 2, 50, false⟩]) ∧ Blk w' g9 28 (wdA (cutU 5)) ∧ Blk w' g10 30 (ceA zeroCe) ∧ Blk w' g11 24 (evsA [⟨-1, 0, 0, false⟩]) ∧ Blk w' g12 28 (wdA (cutU 0)) ∧ Below w.heap.size w w') (by kernel_rfl) ⟨k1.drew, k2.drew, k3.drew, k4.drew, k5.drew, k6.drew, k7.drew, k8.drew, k9.drew, k10.drew, k11.drew, k12.drew, HB.out.drew⟩ (fun hS => ?_)
  clear k1 k2 k3 k4 k5 k6 k7 k8 k9 k10 k11 k12
  have hS2 := hS
  obtain ⟨k1, k2, k3, k4, k5, k6, k7, k8, k9, k10, k11, k12, hB⟩ := hS2
  replace HB := Lib.hid hB
  clear hB
  refine wpAnyH_take (i := 0) (oi := ⟨some 60, _, _, _, _, _⟩) (v := .agg (ceA ⟨0, zeroEv, zeroEv, (cutU 3), 1, 0, 20⟩)) rfl (by kernel_rfl) (by kernel_rfl) (by kernel_rfl) (fun _ _ _ h => h) (yi_ld0 rfl rfl rfl (fun w' h => h.2.2.2.2.1) Try.underlying30 rfl ceInfo) hS ?_
  simp only [Act.put, List.setIfInBounds_toArray, List.set_cons_zero, List.set_cons_succ]
  refine anyH_call (i := 1) (op := ⟨some 61, _, _, _, _, _⟩) (by kernel_rfl) rfl rfl rfl Try.func33 (by kernel_rfl) rfl (of_lit (k := 3) rfl (by omega) _) rfl (fun w' hb => ⟨k1.keep hb, k2.keep hb, k3.keep hb, k4.keep hb, k5.keep hb, k6.keep hb, k7.keep hb, k8.keep hb, k9.keep hb, k10.keep hb, k11.keep hb, k12.keep hb, below_tr HB.out hb⟩) (fun w' hb hS2 => ?_)
  simp only [Act.put, List.setIfInBounds_toArray, List.set_cons_zero, List.set_cons_succ]
  clear hb
  replace hS := hS2
  clear hS2
  clear k1 k2 k3 k4 k5 k6 k7 k8 k9 k10 k11 k12
  have hS2 := hS
  obtain ⟨k1, k2, k3, k4, k5, k6, k7, k8, k9, k10, k11, k12, hB⟩ := hS2
  replace HB := Lib.hid hB
  clear hB
  refine wpAnyH_take (i := 2) (oi := ⟨some 62, _, _, _, _, _⟩) (v := .agg (ceA ⟨0, zeroEv, zeroEv, (cutU 3), 1, 0, 20⟩)) rfl (by kernel_rfl) (by kernel_rfl) (by kernel_rfl) (fun _ _ _ h => h) (yi_build rfl rfl (fun w => l7_bld_cell_3_4_6 _ _ _ w) rfl) hS ?_
  simp only [Act.put, List.setIfInBounds_toArray, List.set_cons_zero, List.set_cons_succ]
  refine wpAnyH_take (i := 3) (oi := ⟨some 63, _, _, _, _, _⟩) (v := .bool true) rfl (by kernel_rfl) (by kernel_rfl) (by kernel_rfl) (fun _ _ _ h => h) (yi_bin rfl rfl (fun _ => run_eqGuard_agg _ _ _ _ _ _ _ (by kernel_rfl)) (fun w => ce_eql_yes rfl w)) hS ?_
  simp only [Act.put, List.setIfInBounds_toArray, List.set_cons_zero, List.set_cons_succ]
  refine wpAnyH_take (i := 4) (oi := ⟨some 64, _, _, _, _, _⟩) (v := .bool true) rfl (by kernel_rfl) (by kernel_rfl) (by kernel_rfl) (fun _ _ _ h => h) (yi_mv (Or.inl rfl) rfl rfl) hS ?_
  simp only [Act.put, List.setIfInBounds_toArray, List.set_cons_zero, List.set_cons_succ]
  refine wpAnyH_take (i := 5) (oi := ⟨some 65, _, _, _, _, _⟩) (v := .int .i64 0) rfl (by kernel_rfl) (by kernel_rfl) (by kernel_rfl) (fun _ _ _ h => h) (yi_mv (Or.inl rfl) (by kernel_rfl) rfl) hS ?_
  simp only [Act.put, List.setIfInBounds_toArray, List.set_cons_zero, List.set_cons_succ]
  refine wpAnyH_take (i := 6) (oi := ⟨some 66, _, _, _, _, _⟩) (v := .bool true) rfl (by kernel_rfl) (by kernel_rfl) (by kernel_rfl) (fun _ _ _ h => h) (yi_eql rfl (by kernel_rfl) rfl rfl Try.underlying31 rfl) hS ?_
  simp only [Act.put, List.setIfInBounds_toArray, List.set_cons_zero, List.set_cons_succ]
  refine wpAnyH_take (i := 7) (oi := ⟨some 67, _, _, _, _, _⟩) (v := .bool true) rfl (by kernel_rfl) (by kernel_rfl) (by kernel_rfl) (fun _ _ _ h => h) (yi_pick1 rfl rfl rfl rfl) hS ?_
  simp only [Act.put, List.setIfInBounds_toArray, List.set_cons_zero, List.set_cons_succ]
  refine wpAnyH_take (i := 8) (oi := ⟨some 68, _, _, _, _, _⟩) (v := .bool true) rfl (by kernel_rfl) (by kernel_rfl) (by kernel_rfl) (fun _ _ _ h => h) (yi_mv (Or.inl rfl) rfl rfl) hS ?_
  simp only [Act.put, List.setIfInBounds_toArray, List.set_cons_zero, List.set_cons_succ]
  refine wpAnyH_take (i := 9) (oi := ⟨some 69, _, _, _, _, _⟩) (v := .agg (ceA ⟨0, zeroEv, zeroEv, (cutU 2), 1, 0, 10⟩)) rfl (by kernel_rfl) (by kernel_rfl) (by kernel_rfl) (fun _ _ _ h => h) (yi_ld0 rfl (by kernel_rfl) rfl (fun w' h => h.2.2.2.2.2.1) Try.underlying30 rfl ceInfo) hS ?_
  simp only [Act.put, List.setIfInBounds_toArray, List.set_cons_zero, List.set_cons_succ]
  refine anyH_call (i := 10) (op := ⟨some 70, _, _, _, _, _⟩) (by kernel_rfl) rfl rfl (by kernel_rfl) Try.func33 (by kernel_rfl) rfl (of_lit (k := 2) rfl (by omega) _) rfl (fun w' hb => ⟨k1.keep hb, k2.keep hb, k3.keep hb, k4.keep hb, k5.keep hb, k6.keep hb, k7.keep hb, k8.keep hb, k9.keep hb, k10.keep hb, k11.keep hb, k12.keep hb, below_tr HB.out hb⟩) (fun w' hb hS2 => ?_)
  simp only [Act.put, List.setIfInBounds_toArray, List.set_cons_zero, List.set_cons_succ]
  clear hb
  replace hS := hS2
  clear hS2
  clear k1 k2 k3 k4 k5 k6 k7 k8 k9 k10 k11 k12
  have hS2 := hS
  obtain ⟨k1, k2, k3, k4, k5, k6, k7, k8, k9, k10, k11, k12, hB⟩ := hS2
  replace HB := Lib.hid hB
  clear hB
  refine wpAnyH_take (i := 11) (oi := ⟨some 71, _, _, _, _, _⟩) (v := .agg (ceA ⟨0, zeroEv, zeroEv, (cutU 2), 1, 0, 10⟩)) rfl (by kernel_rfl) (by kernel_rfl) (by kernel_rfl) (fun _ _ _ h => h) (yi_build rfl (by kernel_rfl) (fun w => l7_bld_cell_3_4_6 _ _ _ w) rfl) hS ?_
  simp only [Act.put, List.setIfInBounds_toArray, List.set_cons_zero, List.set_cons_succ]
  refine wpAnyH_take (i := 12) (oi := ⟨some 72, _, _, _, _, _⟩) (v := .bool true) rfl (by kernel_rfl) (by kernel_rfl) (by kernel_rfl) (fun _ _ _ h => h) (yi_bin rfl (by kernel_rfl) (fun _ => run_eqGuard_agg _ _ _ _ _ _ _ (by kernel_rfl)) (fun w => ce_eql_yes rfl w)) hS ?_
  simp only [Act.put, List.setIfInBounds_toArray, List.set_cons_zero, List.set_cons_succ]
  refine wpAnyH_take (i := 13) (oi := ⟨some 73, _, _, _, _, _⟩) (v := .bool true) rfl (by kernel_rfl) (by kernel_rfl) (by kernel_rfl) (fun _ _ _ h => h) (yi_pick1 rfl rfl rfl rfl) hS ?_
  simp only [Act.put, List.setIfInBounds_toArray, List.set_cons_zero, List.set_cons_succ]
  refine wpAnyH_take (i := 14) (oi := ⟨some 74, _, _, _, _, _⟩) (v := .bool true) rfl (by kernel_rfl) (by kernel_rfl) (by kernel_rfl) (fun _ _ _ h => h) (yi_mv (Or.inl rfl) rfl rfl) hS ?_
  simp only [Act.put, List.setIfInBounds_toArray, List.set_cons_zero, List.set_cons_succ]
  refine wpAnyH_take (i := 15) (oi := ⟨some 75, _, _, _, _, _⟩) (v := .int .i64 0) rfl (by kernel_rfl) (by kernel_rfl) (by kernel_rfl) (fun _ _ _ h => h) (yi_mv (Or.inl rfl) (by kernel_rfl) rfl) hS ?_
  simp only [Act.put, List.setIfInBounds_toArray, List.set_cons_zero, List.set_cons_succ]
  refine wpAnyH_take (i := 16) (oi := ⟨some 76, _, _, _, _, _⟩) (v := .bool true) rfl (by kernel_rfl) (by kernel_rfl) (by kernel_rfl) (fun _ _ _ h => h) (yi_eql rfl (by kernel_rfl) rfl rfl Try.underlying31 rfl) hS ?_
  simp only [Act.put, List.setIfInBounds_toArray, List.set_cons_zero, List.set_cons_succ]
  refine wpAnyH_take (i := 17) (oi := ⟨some 77, _, _, _, _, _⟩) (v := .bool true) rfl (by kernel_rfl) (by kernel_rfl) (by kernel_rfl) (fun _ _ _ h => h) (yi_pick1 rfl rfl rfl rfl) hS ?_
  simp only [Act.put, List.setIfInBounds_toArray, List.set_cons_zero, List.set_cons_succ]
  refine wpAnyH_take (i := 18) (oi := ⟨some 78, _, _, _, _, _⟩) (v := .bool true) rfl (by kernel_rfl) (by kernel_rfl) (by kernel_rfl) (fun _ _ _ h => h) (yi_mv (Or.inl rfl) rfl rfl) hS ?_
  simp only [Act.put, List.setIfInBounds_toArray, List.set_cons_zero, List.set_cons_succ]
  refine wpAnyH_take (i := 19) (oi := ⟨some 79, _, _, _, _, _⟩) (v := .agg (ceA ⟨0, zeroEv, zeroEv, U.zero, 0, 1, 0⟩)) rfl (by kernel_rfl) (by kernel_rfl) (by kernel_rfl) (fun _ _ _ h => h) (yi_ld0 rfl (by kernel_rfl) rfl (fun w' h => h.2.2.2.2.2.2.1) Try.underlying30 rfl ceInfo) hS ?_
  simp only [Act.put, List.setIfInBounds_toArray, List.set_cons_zero, List.set_cons_succ]
  refine wpAnyH_take (i := 20) (oi := ⟨some 80, _, _, _, _, _⟩) (v := .agg (ceA ⟨0, zeroEv, zeroEv, U.zero, 0, 1, 0⟩)) rfl (by kernel_rfl) (by kernel_rfl) (by kernel_rfl) (fun _ _ _ h => h) (yi_build rfl (by kernel_rfl) (fun w => l7_bld_cell_5 _ w) rfl) hS ?_
  simp only [Act.put, List.setIfInBounds_toArray, List.set_cons_zero, List.set_cons_succ]
  refine wpAnyH_take (i := 21) (oi := ⟨some 81, _, _, _, _, _⟩) (v := .bool true) rfl (by kernel_rfl) (by kernel_rfl) (by kernel_rfl) (fun _ _ _ h => h) (yi_bin rfl (by kernel_rfl) (fun _ => run_eqGuard_agg _ _ _ _ _ _ _ (by kernel_rfl)) (fun w => ce_eql_yes rfl w)) hS ?_
  simp only [Act.put, List.setIfInBounds_toArray, List.set_cons_zero, List.set_cons_succ]
  refine wpAnyH_take (i := 22) (oi := ⟨some 82, _, _, _, _, _⟩) (v := .bool true) rfl (by kernel_rfl) (by kernel_rfl) (by kernel_rfl) (fun _ _ _ h => h) (yi_pick1 rfl rfl rfl rfl) hS ?_
  simp only [Act.put, List.setIfInBounds_toArray, List.set_cons_zero, List.set_cons_succ]
  refine wpAnyH_take (i := 23) (oi := ⟨some 83, _, _, _, _, _⟩) (v := .bool true) rfl (by kernel_rfl) (by kernel_rfl) (by kernel_rfl) (fun _ _ _ h => h) (yi_mv (Or.inl rfl) rfl rfl) hS ?_
  simp only [Act.put, List.setIfInBounds_toArray, List.set_cons_zero, List.set_cons_succ]
  refine wpAnyH_take (i := 24) (oi := ⟨some 84, _, _, _, _, _⟩) (v := .int .i64 0) rfl (by kernel_rfl) (by kernel_rfl) (by kernel_rfl) (fun _ _ _ h => h) (yi_mv (Or.inl rfl) (by kernel_rfl) rfl) hS ?_
  simp only [Act.put, List.setIfInBounds_toArray, List.set_cons_zero, List.set_cons_succ]
  refine wpAnyH_take (i := 25) (oi := ⟨some 85, _, _, _, _, _⟩) (v := .bool true) rfl (by kernel_rfl) (by kernel_rfl) (by kernel_rfl) (fun _ _ _ h => h) (yi_eql rfl (by kernel_rfl) rfl rfl Try.underlying31 rfl) hS ?_
  simp only [Act.put, List.setIfInBounds_toArray, List.set_cons_zero, List.set_cons_succ]
  refine wpAnyH_take (i := 26) (oi := ⟨some 86, _, _, _, _, _⟩) (v := .bool true) rfl (by kernel_rfl) (by kernel_rfl) (by kernel_rfl) (fun _ _ _ h => h) (yi_pick1 rfl rfl rfl rfl) hS ?_
  simp only [Act.put, List.setIfInBounds_toArray, List.set_cons_zero, List.set_cons_succ]
  refine wpAnyH_take (i := 27) (oi := ⟨some 87, _, _, _, _, _⟩) (v := .bool true) rfl (by kernel_rfl) (by kernel_rfl) (by kernel_rfl) (fun _ _ _ h => h) (yi_mv (Or.inl rfl) rfl rfl) hS ?_
  simp only [Act.put, List.setIfInBounds_toArray, List.set_cons_zero, List.set_cons_succ]
  refine wpAnyH_take (i := 28) (oi := ⟨some 88, _, _, _, _, _⟩) (v := .agg (wdA (cutU 5))) rfl (by kernel_rfl) (by kernel_rfl) (by kernel_rfl) (fun _ _ _ h => h) (yi_ld0 rfl (by kernel_rfl) rfl (fun w' h => h.2.2.2.2.2.2.2.2.1) Try.underlying28 rfl wdInfo) hS ?_
  simp only [Act.put, List.setIfInBounds_toArray, List.set_cons_zero, List.set_cons_succ]
  refine anyH_call (i := 29) (op := ⟨some 89, _, _, _, _, _⟩) (by kernel_rfl) rfl rfl (by kernel_rfl) Try.func33 (by kernel_rfl) rfl (of_lit (k := 5) rfl (by omega) _) rfl (fun w' hb => ⟨k1.keep hb, k2.keep hb, k3.keep hb, k4.keep hb, k5.keep hb, k6.keep hb, k7.keep hb, k8.keep hb, k9.keep hb, k10.keep hb, k11.keep hb, k12.keep hb, below_tr HB.out hb⟩) (fun w' hb hS2 => ?_)
  simp only [Act.put, List.setIfInBounds_toArray, List.set_cons_zero, List.set_cons_succ]
  clear hb
  replace hS := hS2
  clear hS2
  clear k1 k2 k3 k4 k5 k6 k7 k8 k9 k10 k11 k12
  have hS2 := hS
  obtain ⟨k1, k2, k3, k4, k5, k6, k7, k8, k9, k10, k11, k12, hB⟩ := hS2
  replace HB := Lib.hid hB
  clear hB
  refine wpAnyH_take (i := 30) (oi := ⟨some 90, _, _, _, _, _⟩) (v := .bool true) rfl (by kernel_rfl) (by kernel_rfl) (by kernel_rfl) (fun _ _ _ h => h) (yi_bin rfl (by kernel_rfl) (fun _ => run_eqGuard_agg _ _ _ _ _ _ _ (by kernel_rfl)) (fun w => wd_eql_yes rfl w)) hS ?_
  simp only [Act.put, List.setIfInBounds_toArray, List.set_cons_zero, List.set_cons_succ]
  refine wpAnyH_take (i := 31) (oi := ⟨some 91, _, _, _, _, _⟩) (v := .bool true) rfl (by kernel_rfl) (by kernel_rfl) (by kernel_rfl) (fun _ _ _ h => h) (yi_pick1 rfl rfl rfl rfl) hS ?_
  simp only [Act.put, List.setIfInBounds_toArray, List.set_cons_zero, List.set_cons_succ]
  refine wpAnyH_take (i := 32) (oi := ⟨some 92, _, _, _, _, _⟩) (v := .bool true) rfl (by kernel_rfl) (by kernel_rfl) (by kernel_rfl) (fun _ _ _ h => h) (yi_mv (Or.inl rfl) rfl rfl) hS ?_
  simp only [Act.put, List.setIfInBounds_toArray, List.set_cons_zero, List.set_cons_succ]
  refine wpAnyH_take (i := 33) (oi := ⟨some 93, _, _, _, _, _⟩) (v := .int .i64 0) rfl (by kernel_rfl) (by kernel_rfl) (by kernel_rfl) (fun _ _ _ h => h) (yi_mv (Or.inl rfl) (by kernel_rfl) rfl) hS ?_
  simp only [Act.put, List.setIfInBounds_toArray, List.set_cons_zero, List.set_cons_succ]
  refine wpAnyH_take (i := 34) (oi := ⟨some 94, _, _, _, _, _⟩) (v := .bool true) rfl (by kernel_rfl) (by kernel_rfl) (by kernel_rfl) (fun _ _ _ h => h) (yi_eql rfl (by kernel_rfl) rfl rfl Try.underlying31 rfl) hS ?_
  simp only [Act.put, List.setIfInBounds_toArray, List.set_cons_zero, List.set_cons_succ]
  refine wpAnyH_take (i := 35) (oi := ⟨some 95, _, _, _, _, _⟩) (v := .bool true) rfl (by kernel_rfl) (by kernel_rfl) (by kernel_rfl) (fun _ _ _ h => h) (yi_pick1 rfl rfl rfl rfl) hS ?_
  simp only [Act.put, List.setIfInBounds_toArray, List.set_cons_zero, List.set_cons_succ]
  refine wpAnyH_take (i := 36) (oi := ⟨some 96, _, _, _, _, _⟩) (v := .bool true) rfl (by kernel_rfl) (by kernel_rfl) (by kernel_rfl) (fun _ _ _ h => h) (yi_mv (Or.inl rfl) rfl rfl) hS ?_
  simp only [Act.put, List.setIfInBounds_toArray, List.set_cons_zero, List.set_cons_succ]
  refine wpAnyH_take (i := 37) (oi := ⟨some 97, _, _, _, _, _⟩) (v := .int .i64 9) rfl (by kernel_rfl) (by kernel_rfl) (by kernel_rfl) (fun _ _ _ h => h) (yi_mv (Or.inl rfl) (by kernel_rfl) rfl) hS ?_
  simp only [Act.put, List.setIfInBounds_toArray, List.set_cons_zero, List.set_cons_succ]
  refine wpAnyH_take (i := 38) (oi := ⟨some 98, _, _, _, _, _⟩) (v := .bool true) rfl (by kernel_rfl) (by kernel_rfl) (by kernel_rfl) (fun _ _ _ h => h) (yi_eql rfl (by kernel_rfl) rfl rfl Try.underlying31 rfl) hS ?_
  simp only [Act.put, List.setIfInBounds_toArray, List.set_cons_zero, List.set_cons_succ]
  refine wpAnyH_take (i := 39) (oi := ⟨some 99, _, _, _, _, _⟩) (v := .bool true) rfl (by kernel_rfl) (by kernel_rfl) (by kernel_rfl) (fun _ _ _ h => h) (yi_pick1 rfl rfl rfl rfl) hS ?_
  simp only [Act.put, List.setIfInBounds_toArray, List.set_cons_zero, List.set_cons_succ]
  refine wpAnyH_take (i := 40) (oi := ⟨some 100, _, _, _, _, _⟩) (v := .bool true) rfl (by kernel_rfl) (by kernel_rfl) (by kernel_rfl) (fun _ _ _ h => h) (yi_mv (Or.inl rfl) rfl rfl) hS ?_
  simp only [Act.put, List.setIfInBounds_toArray, List.set_cons_zero, List.set_cons_succ]
  refine wpAnyH_take (i := 41) (oi := ⟨some 101, _, _, _, _, _⟩) (v := .int .i64 2) rfl (by kernel_rfl) (by kernel_rfl) (by kernel_rfl) (fun _ _ _ h => h) (yi_mv (Or.inl rfl) (by kernel_rfl) rfl) hS ?_
  simp only [Act.put, List.setIfInBounds_toArray, List.set_cons_zero, List.set_cons_succ]
  refine wpAnyH_take (i := 42) (oi := ⟨some 102, _, _, _, _, _⟩) (v := .bool true) rfl (by kernel_rfl) (by kernel_rfl) (by kernel_rfl) (fun _ _ _ h => h) (yi_eql rfl (by kernel_rfl) rfl rfl Try.underlying31 rfl) hS ?_
  simp only [Act.put, List.setIfInBounds_toArray, List.set_cons_zero, List.set_cons_succ]
  refine wpAnyH_take (i := 43) (oi := ⟨some 103, _, _, _, _, _⟩) (v := .bool true) rfl (by kernel_rfl) (by kernel_rfl) (by kernel_rfl) (fun _ _ _ h => h) (yi_pick1 rfl rfl rfl rfl) hS ?_
  simp only [Act.put, List.setIfInBounds_toArray, List.set_cons_zero, List.set_cons_succ]
  refine wpAnyH_take (i := 44) (oi := ⟨some 104, _, _, _, _, _⟩) (v := .bool true) rfl (by kernel_rfl) (by kernel_rfl) (by kernel_rfl) (fun _ _ _ h => h) (yi_mv (Or.inl rfl) rfl rfl) hS ?_
  simp only [Act.put, List.setIfInBounds_toArray, List.set_cons_zero, List.set_cons_succ]
  refine wpAnyH_take (i := 45) (oi := ⟨some 105, _, _, _, _, _⟩) (v := .agg (evA ⟨10, 5, 0, false⟩)) rfl (by kernel_rfl) (by kernel_rfl) (by kernel_rfl) (fun _ _ _ h => h) (yi_ld0 rfl (by kernel_rfl) rfl (fun w' h => h.1) Try.underlying24 rfl evInfo) hS ?_
  simp only [Act.put, List.setIfInBounds_toArray, List.set_cons_zero, List.set_cons_succ]
  refine wpAnyH_take (i := 46) (oi := ⟨some 106, _, _, _, _, _⟩) (v := .agg (evA ⟨30, 3, 0, false⟩)) rfl (by kernel_rfl) (by kernel_rfl) (by kernel_rfl) (fun _ _ _ h => h) (yi_ld0 rfl (by kernel_rfl) rfl (fun w' h => h.2.1) Try.underlying24 rfl evInfo) hS ?_
  simp only [Act.put, List.setIfInBounds_toArray, List.set_cons_zero, List.set_cons_succ]
  refine anyH_call (i := 47) (op := ⟨some 107, _, _, _, _, _⟩) (by kernel_rfl) rfl rfl (by kernel_rfl) Try.func19 (by kernel_rfl) rfl (fol_yes ⟨ea_ok, eb_ok, by decide⟩ _) rfl (fun w' hb => ⟨k1.keep hb, k2.keep hb, k3.keep hb, k4.keep hb, k5.keep hb, k6.keep hb, k7.keep hb, k8.keep hb, k9.keep hb, k10.keep hb, k11.keep hb, k12.keep hb, below_tr HB.out hb⟩) (fun w' hb hS2 => ?_)
  simp only [Act.put, List.setIfInBounds_toArray, List.set_cons_zero, List.set_cons_succ]
  clear hb
  replace hS := hS2
  clear hS2
  clear k1 k2 k3 k4 k5 k6 k7 k8 k9 k10 k11 k12
  have hS2 := hS
  obtain ⟨k1, k2, k3, k4, k5, k6, k7, k8, k9, k10, k11, k12, hB⟩ := hS2
  replace HB := Lib.hid hB
  clear hB
  refine wpAnyH_take (i := 48) (oi := ⟨some 108, _, _, _, _, _⟩) (v := .bool true) rfl (by kernel_rfl) (by kernel_rfl) (by kernel_rfl) (fun _ _ _ h => h) (yi_pick1 rfl rfl rfl rfl) hS ?_
  simp only [Act.put, List.setIfInBounds_toArray, List.set_cons_zero, List.set_cons_succ]
  refine wpAnyH_take (i := 49) (oi := ⟨some 109, _, _, _, _, _⟩) (v := .bool true) rfl (by kernel_rfl) (by kernel_rfl) (by kernel_rfl) (fun _ _ _ h => h) (yi_mv (Or.inl rfl) rfl rfl) hS ?_
  simp only [Act.put, List.setIfInBounds_toArray, List.set_cons_zero, List.set_cons_succ]
  refine wpAnyH_take (i := 50) (oi := ⟨some 110, _, _, _, _, _⟩) (v := .agg (evA ⟨30, 3, 0, false⟩)) rfl (by kernel_rfl) (by kernel_rfl) (by kernel_rfl) (fun _ _ _ h => h) (yi_ld0 rfl (by kernel_rfl) rfl (fun w' h => h.2.1) Try.underlying24 rfl evInfo) hS ?_
  simp only [Act.put, List.setIfInBounds_toArray, List.set_cons_zero, List.set_cons_succ]
  refine wpAnyH_take (i := 51) (oi := ⟨some 111, _, _, _, _, _⟩) (v := .agg (evA ⟨10, 5, 0, false⟩)) rfl (by kernel_rfl) (by kernel_rfl) (by kernel_rfl) (fun _ _ _ h => h) (yi_ld0 rfl (by kernel_rfl) rfl (fun w' h => h.1) Try.underlying24 rfl evInfo) hS ?_
  simp only [Act.put, List.setIfInBounds_toArray, List.set_cons_zero, List.set_cons_succ]
  refine anyH_call (i := 52) (op := ⟨some 112, _, _, _, _, _⟩) (by kernel_rfl) rfl rfl (by kernel_rfl) Try.func19 (by kernel_rfl) rfl (fol_no eb_ok.in ea_ok.in (fun h => absurd h.2.2 (by decide)) _) rfl (fun w' hb => ⟨k1.keep hb, k2.keep hb, k3.keep hb, k4.keep hb, k5.keep hb, k6.keep hb, k7.keep hb, k8.keep hb, k9.keep hb, k10.keep hb, k11.keep hb, k12.keep hb, below_tr HB.out hb⟩) (fun w' hb hS2 => ?_)
  simp only [Act.put, List.setIfInBounds_toArray, List.set_cons_zero, List.set_cons_succ]
  clear hb
  replace hS := hS2
  clear hS2
  clear k1 k2 k3 k4 k5 k6 k7 k8 k9 k10 k11 k12
  have hS2 := hS
  obtain ⟨k1, k2, k3, k4, k5, k6, k7, k8, k9, k10, k11, k12, hB⟩ := hS2
  replace HB := Lib.hid hB
  clear hB
  refine wpAnyH_take (i := 53) (oi := ⟨some 113, _, _, _, _, _⟩) (v := .bool true) rfl (by kernel_rfl) (by kernel_rfl) (by kernel_rfl) (fun _ _ _ h => h) (yi_not rfl (by kernel_rfl) rfl rfl) hS ?_
  simp only [Act.put, List.setIfInBounds_toArray, List.set_cons_zero, List.set_cons_succ]
  refine wpAnyH_take (i := 54) (oi := ⟨some 114, _, _, _, _, _⟩) (v := .bool true) rfl (by kernel_rfl) (by kernel_rfl) (by kernel_rfl) (fun _ _ _ h => h) (yi_pick1 rfl rfl rfl rfl) hS ?_
  simp only [Act.put, List.setIfInBounds_toArray, List.set_cons_zero, List.set_cons_succ]
  refine wpAnyH_take (i := 55) (oi := ⟨some 115, _, _, _, _, _⟩) (v := .bool true) rfl (by kernel_rfl) (by kernel_rfl) (by kernel_rfl) (fun _ _ _ h => h) (yi_mv (Or.inl rfl) rfl rfl) hS ?_
  simp only [Act.put, List.setIfInBounds_toArray, List.set_cons_zero, List.set_cons_succ]
  refine wpAnyH_take (i := 56) (oi := ⟨some 116, _, _, _, _, _⟩) (v := .agg (evA ⟨10, 5, 0, false⟩)) rfl (by kernel_rfl) (by kernel_rfl) (by kernel_rfl) (fun _ _ _ h => h) (yi_ld0 rfl (by kernel_rfl) rfl (fun w' h => h.1) Try.underlying24 rfl evInfo) hS ?_
  simp only [Act.put, List.setIfInBounds_toArray, List.set_cons_zero, List.set_cons_succ]
  refine anyH_call (i := 57) (op := ⟨some 117, _, _, _, _, _⟩) (by kernel_rfl) rfl rfl (by kernel_rfl) Try.func17 (by kernel_rfl) rfl (ev_yes ea_ok _) rfl (fun w' hb => ⟨k1.keep hb, k2.keep hb, k3.keep hb, k4.keep hb, k5.keep hb, k6.keep hb, k7.keep hb, k8.keep hb, k9.keep hb, k10.keep hb, k11.keep hb, k12.keep hb, below_tr HB.out hb⟩) (fun w' hb hS2 => ?_)
  simp only [Act.put, List.setIfInBounds_toArray, List.set_cons_zero, List.set_cons_succ]
  clear hb
  replace hS := hS2
  clear hS2
  clear k1 k2 k3 k4 k5 k6 k7 k8 k9 k10 k11 k12
  have hS2 := hS
  obtain ⟨k1, k2, k3, k4, k5, k6, k7, k8, k9, k10, k11, k12, hB⟩ := hS2
  replace HB := Lib.hid hB
  clear hB
  refine wpAnyH_take (i := 58) (oi := ⟨some 118, _, _, _, _, _⟩) (v := .bool true) rfl (by kernel_rfl) (by kernel_rfl) (by kernel_rfl) (fun _ _ _ h => h) (yi_eql rfl (by kernel_rfl) rfl rfl Try.underlying31 rfl) hS ?_
  simp only [Act.put, List.setIfInBounds_toArray, List.set_cons_zero, List.set_cons_succ]
  refine wpAnyH_take (i := 59) (oi := ⟨some 119, _, _, _, _, _⟩) (v := .bool true) rfl (by kernel_rfl) (by kernel_rfl) (by kernel_rfl) (fun _ _ _ h => h) (yi_pick1 rfl rfl rfl rfl) hS ?_
  simp only [Act.put, List.setIfInBounds_toArray, List.set_cons_zero, List.set_cons_succ]
  refine wpAnyH_take (i := 60) (oi := ⟨some 120, _, _, _, _, _⟩) (v := .bool true) rfl (by kernel_rfl) (by kernel_rfl) (by kernel_rfl) (fun _ _ _ h => h) (yi_mv (Or.inl rfl) rfl rfl) hS ?_
  simp only [Act.put, List.setIfInBounds_toArray, List.set_cons_zero, List.set_cons_succ]
  refine wpAnyH_take (i := 61) (oi := ⟨some 121, _, _, _, _, _⟩) (v := .agg (evA ⟨1, 0, 2, false⟩)) rfl (by kernel_rfl) (by kernel_rfl) (by kernel_rfl) (fun _ _ _ h => h) (yi_build rfl (by kernel_rfl) (fun w => l7_bld_event_0_2 _ _ w) rfl) hS ?_
  simp only [Act.put, List.setIfInBounds_toArray, List.set_cons_zero, List.set_cons_succ]
  refine anyH_call (i := 62) (op := ⟨some 122, _, _, _, _, _⟩) (by kernel_rfl) rfl rfl (by kernel_rfl) Try.func17 (by kernel_rfl) rfl (ev_no eo_in eo_no _) rfl (fun w' hb => ⟨k1.keep hb, k2.keep hb, k3.keep hb, k4.keep hb, k5.keep hb, k6.keep hb, k7.keep hb, k8.keep hb, k9.keep hb, k10.keep hb, k11.keep hb, k12.keep hb, below_tr HB.out hb⟩) (fun w' hb hS2 => ?_)
  simp only [Act.put, List.setIfInBounds_toArray, List.set_cons_zero, List.set_cons_succ]
  clear hb
  replace hS := hS2
  clear hS2
  clear k1 k2 k3 k4 k5 k6 k7 k8 k9 k10 k11 k12
  have hS2 := hS
  obtain ⟨k1, k2, k3, k4, k5, k6, k7, k8, k9, k10, k11, k12, hB⟩ := hS2
  replace HB := Lib.hid hB
  clear hB
  refine wpAnyH_take (i := 63) (oi := ⟨some 123, _, _, _, _, _⟩) (v := .bool true) rfl (by kernel_rfl) (by kernel_rfl) (by kernel_rfl) (fun _ _ _ h => h) (yi_eql rfl (by kernel_rfl) rfl rfl Try.underlying31 rfl) hS ?_
  simp only [Act.put, List.setIfInBounds_toArray, List.set_cons_zero, List.set_cons_succ]
  refine wpAnyH_take (i := 64) (oi := ⟨some 124, _, _, _, _, _⟩) (v := .bool true) rfl (by kernel_rfl) (by kernel_rfl) (by kernel_rfl) (fun _ _ _ h => h) (yi_pick1 rfl rfl rfl rfl) hS ?_
  simp only [Act.put, List.setIfInBounds_toArray, List.set_cons_zero, List.set_cons_succ]
  refine wpAnyH_take (i := 65) (oi := ⟨some 0, _, _, _, _, _⟩) (v := .bool true) rfl (by kernel_rfl) (by kernel_rfl) (by kernel_rfl) (fun _ _ _ h => h) (yi_mv (Or.inr rfl) rfl rfl) hS ?_
  simp only [Act.put, List.setIfInBounds_toArray, List.set_cons_zero, List.set_cons_succ]
  refine wpAnyH_done (by kernel_rfl) ?_ _
  clear hS
  go_wp2_with fail
  go_ret
  exact ⟨rfl, HB.out⟩
end Go.Proofs.Ytgijejdehenmpaa
