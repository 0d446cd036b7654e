/-
  THE LAW plimsolllaw08.CellTells: the walk: it answers true, of any cells and any event.
-/
import Derived.Test.YtjdjebhimljedaaL8
import Derived.Test.YtjdjebhimljedaaRa8
namespace Go.Proofs.Ytjdjebhimljedaa
open Go Go.RowKit

set_option maxHeartbeats 4000000 in
set_option maxRecDepth 100000 in
theorem ctl_long {a b : Ce} {e : Ev} (ao : Option Addr) (bk off cap : Nat) (l : List Ce) (ia : CeIn a) (ib : CeIn b) (ie : EvIn e) (hl : 100 < l.length) (hm : l.length ≤ 9223372036854775807) (w : World) (h : CesAt w ao bk off l) :
    Calls Try.prog 3 #[.agg (ceA a), .agg (ceA b), .agg (evA e), .slice ao l.length cap] w fun r w' => r = .returned (.bool true) ∧ Below w.heap.size w w' := by
  have d1 : decide (100 < l.length) = true := by simp <;> omega
  have d2 : decide ((100 : Int) < l.length) = true := by simp <;> omega
  clear h ia ib ie
  have HB := Lib.hid (Below.refl w.heap.size w)
  go_enter Try.func3, Try.ntmps3
  go_wp2_with (first
      | ((with_reducible refine at_slot 4 ?_); refine wl_box (A := (ceA a)) rfl rfl rfl ?_; intro W1 g1 k1 hb hle; have L1 := Lib.hid (Nat.le_trans HB.out.size hle); replace HB := Lib.hid (below_tr HB.out hb); clear hb hle)
      | ((with_reducible refine at_slot 5 ?_); refine wl_box (A := (ceA b)) rfl rfl rfl ?_; intro W2 g2 k2 hb hle; have n1_2 := Lib.hid (Blk.ne_of_le k1 hle); have L2 := Lib.hid (Nat.le_trans HB.out.size hle); replace k1 := k1.keep hb; replace HB := Lib.hid (below_tr HB.out hb); clear hb hle)
      | ((with_reducible refine at_slot 6 ?_); refine wl_box (A := (evA e)) rfl rfl rfl ?_; intro W3 g3 k3 hb hle; have n1_3 := Lib.hid (Blk.ne_of_le k1 hle); have n2_3 := Lib.hid (Blk.ne_of_le k2 hle); have L3 := Lib.hid (Nat.le_trans HB.out.size hle); replace k1 := k1.keep hb; replace k2 := k2.keep hb; replace HB := Lib.hid (below_tr HB.out hb); clear hb hle)
      | ((with_reducible refine at_slot 24 ?_); refine wl_call rfl rfl Try.func6 (by kernel_rfl) rfl (lives8 _) rfl ?_; intro V1 hb; replace k1 := k1.keep hb; replace k2 := k2.keep hb; replace k3 := k3.keep hb; replace HB := Lib.hid (below_tr HB.out hb); clear hb))
  go_ret
  exact ⟨rfl, HB.out⟩
set_option maxHeartbeats 4000000 in
set_option maxRecDepth 100000 in
theorem ctl_in {a b : Ce} {e : Ev} (ao : Option Addr) (bk off cap : Nat) (l : List Ce) (ia : CeIn a) (ib : CeIn b) (ie : EvIn e) (hl : ¬ 100 < l.length) (hm : l.length ≤ 9223372036854775807) (w : World) (h : CesAt w ao bk off l) :
    Calls Try.prog 3 #[.agg (ceA a), .agg (ceA b), .agg (evA e), .slice ao l.length cap] w fun r w' => r = .returned (.bool true) ∧ Below w.heap.size w w' := by
  have d1 : decide (100 < l.length) = false := by simp <;> omega
  have d2 : decide ((100 : Int) < l.length) = false := by simp <;> omega
  have HL := Lib.hid h
  have M1 := Lib.hid (fun w1 => me_any ia ib w1)
  have M2 := Lib.hid (fun w1 => rme_any ia ib w1)
  have A1 := Lib.hid (fun w1 => ad_any ia ie w1)
  have A2 := Lib.hid (fun w1 => radd_any ia ie w1)
  have P1 := Lib.hid (fun W hW => all_any ao bk off cap l hm W hW)
  have P2 := Lib.hid (fun W hW => rall_any ao bk off cap l hm W hW)
  have K1 := Lib.hid (fun w1 => ck_any ia w1)
  have K2 := Lib.hid (fun w1 => rc_any ia w1)
  generalize meC a b = x at M1 M2
  generalize meE a b = xe at M1 M2
  generalize meC a (oneC e) = y at A1 A2
  generalize meE a (oneC e) = ye at A1 A2
  generalize allC zeroCe l = z at P1 P2
  generalize allE zeroCe l = ze at P1 P2
  generalize ceE a = k at K1 K2
  clear h hl ia ib ie hm
  have HB := Lib.hid (Below.refl w.heap.size w)
  go_enter Try.func3, Try.ntmps3
  go_wp2_with (first
      | ((with_reducible refine at_slot 4 ?_); refine wl_box (A := (ceA a)) rfl rfl rfl ?_; intro W1 g1 k1 hb hle; have L1 := Lib.hid (Nat.le_trans HB.out.size hle); replace HB := Lib.hid (below_tr HB.out hb); clear hb hle)
      | ((with_reducible refine at_slot 5 ?_); refine wl_box (A := (ceA b)) rfl rfl rfl ?_; intro W2 g2 k2 hb hle; have n1_2 := Lib.hid (Blk.ne_of_le k1 hle); have L2 := Lib.hid (Nat.le_trans HB.out.size hle); replace k1 := k1.keep hb; replace HB := Lib.hid (below_tr HB.out hb); clear hb hle)
      | ((with_reducible refine at_slot 6 ?_); refine wl_box (A := (evA e)) rfl rfl rfl ?_; intro W3 g3 k3 hb hle; have n1_3 := Lib.hid (Blk.ne_of_le k1 hle); have n2_3 := Lib.hid (Blk.ne_of_le k2 hle); have L3 := Lib.hid (Nat.le_trans HB.out.size hle); replace k1 := k1.keep hb; replace k2 := k2.keep hb; replace HB := Lib.hid (below_tr HB.out hb); clear hb hle)
      | ((with_reducible refine at_slot 26 ?_); refine wl_ld0 rfl rfl rfl k1 Try.underlying28 rfl ceInfo ?_)
      | ((with_reducible refine at_slot 27 ?_); refine wl_ld0 rfl rfl rfl k2 Try.underlying28 rfl ceInfo ?_)
      | ((with_reducible refine at_slot 28 ?_); refine wl_call rfl rfl Try.func7 (by kernel_rfl) rfl (M1.out _) rfl ?_; intro V1 hb; replace k1 := k1.keep hb; replace k2 := k2.keep hb; replace k3 := k3.keep hb; replace HB := Lib.hid (below_tr HB.out hb); clear hb)
      | ((with_reducible refine at_slot 9 ?_); refine wl_alloc (A := (ceA zeroCe)) rfl rfl ce_zero rfl ?_; intro W4 g4 k4 hb hle; have n1_4 := Lib.hid (Blk.ne_of_le k1 hle); have n2_4 := Lib.hid (Blk.ne_of_le k2 hle); have n3_4 := Lib.hid (Blk.ne_of_le k3 hle); have L4 := Lib.hid (Nat.le_trans HB.out.size hle); replace k1 := k1.keep hb; replace k2 := k2.keep hb; replace k3 := k3.keep hb; replace HB := Lib.hid (below_tr HB.out hb); clear hb hle)
      | ((with_reducible refine at_store 9 ?_); refine wl_st0 (A' := (ceA x)) rfl rfl rfl rfl k4 rfl ceInfo (ceA_one x) ?_; intro V2 kn hu; replace k1 := k1.upd hu n1_4.out; replace k2 := k2.upd hu n2_4.out; replace k3 := k3.upd hu n3_4.out; replace HB := Lib.hid (upd_below HB.out hu L4.out); clear k4; have k4 : Blk _ g4 _ (ceA x) := kn; clear kn hu)
      | ((with_reducible refine at_slot 32 ?_); refine wl_ld0 rfl rfl rfl k1 Try.underlying28 rfl ceInfo ?_)
      | ((with_reducible refine at_slot 33 ?_); refine wl_ld0 rfl rfl rfl k2 Try.underlying28 rfl ceInfo ?_)
      | ((with_reducible refine at_slot 34 ?_); refine wl_call rfl rfl Try.func8 (by kernel_rfl) rfl (M2.out _) rfl ?_; intro V3 hb; replace k1 := k1.keep hb; replace k2 := k2.keep hb; replace k3 := k3.keep hb; replace k4 := k4.keep hb; replace HB := Lib.hid (below_tr HB.out hb); clear hb)
      | ((with_reducible refine at_slot 11 ?_); refine wl_alloc (A := (ceA zeroCe)) rfl rfl ce_zero rfl ?_; intro W5 g5 k5 hb hle; have n1_5 := Lib.hid (Blk.ne_of_le k1 hle); have n2_5 := Lib.hid (Blk.ne_of_le k2 hle); have n3_5 := Lib.hid (Blk.ne_of_le k3 hle); have n4_5 := Lib.hid (Blk.ne_of_le k4 hle); have L5 := Lib.hid (Nat.le_trans HB.out.size hle); replace k1 := k1.keep hb; replace k2 := k2.keep hb; replace k3 := k3.keep hb; replace k4 := k4.keep hb; replace HB := Lib.hid (below_tr HB.out hb); clear hb hle)
      | ((with_reducible refine at_store 11 ?_); refine wl_st0 (A' := (ceA x)) rfl rfl rfl rfl k5 rfl ceInfo (ceA_one x) ?_; intro V4 kn hu; replace k1 := k1.upd hu n1_5.out; replace k2 := k2.upd hu n2_5.out; replace k3 := k3.upd hu n3_5.out; replace k4 := k4.upd hu n4_5.out; replace HB := Lib.hid (upd_below HB.out hu L5.out); clear k5; have k5 : Blk _ g5 _ (ceA x) := kn; clear kn hu)
      | ((with_reducible refine at_slot 38 ?_); refine wl_ld0 rfl rfl rfl k1 Try.underlying28 rfl ceInfo ?_)
      | ((with_reducible refine at_slot 39 ?_); refine wl_ld0 rfl rfl rfl k3 Try.underlying24 rfl evInfo ?_)
      | ((with_reducible refine at_slot 40 ?_); refine wl_call rfl rfl Try.func9 (by kernel_rfl) rfl (A1.out _) rfl ?_; intro V5 hb; replace k1 := k1.keep hb; replace k2 := k2.keep hb; replace k3 := k3.keep hb; replace k4 := k4.keep hb; replace k5 := k5.keep hb; replace HB := Lib.hid (below_tr HB.out hb); clear hb)
      | ((with_reducible refine at_slot 13 ?_); refine wl_alloc (A := (ceA zeroCe)) rfl rfl ce_zero rfl ?_; intro W6 g6 k6 hb hle; have n1_6 := Lib.hid (Blk.ne_of_le k1 hle); have n2_6 := Lib.hid (Blk.ne_of_le k2 hle); have n3_6 := Lib.hid (Blk.ne_of_le k3 hle); have n4_6 := Lib.hid (Blk.ne_of_le k4 hle); have n5_6 := Lib.hid (Blk.ne_of_le k5 hle); have L6 := Lib.hid (Nat.le_trans HB.out.size hle); replace k1 := k1.keep hb; replace k2 := k2.keep hb; replace k3 := k3.keep hb; replace k4 := k4.keep hb; replace k5 := k5.keep hb; replace HB := Lib.hid (below_tr HB.out hb); clear hb hle)
      | ((with_reducible refine at_store 13 ?_); refine wl_st0 (A' := (ceA y)) rfl rfl rfl rfl k6 rfl ceInfo (ceA_one y) ?_; intro V6 kn hu; replace k1 := k1.upd hu n1_6.out; replace k2 := k2.upd hu n2_6.out; replace k3 := k3.upd hu n3_6.out; replace k4 := k4.upd hu n4_6.out; replace k5 := k5.upd hu n5_6.out; replace HB := Lib.hid (upd_below HB.out hu L6.out); clear k6; have k6 : Blk _ g6 _ (ceA y) := kn; clear kn hu)
      | ((with_reducible refine at_slot 44 ?_); refine wl_ld0 rfl rfl rfl k1 Try.underlying28 rfl ceInfo ?_)
      | ((with_reducible refine at_slot 45 ?_); refine wl_ld0 rfl rfl rfl k3 Try.underlying24 rfl evInfo ?_)
      | ((with_reducible refine at_slot 46 ?_); refine wl_call rfl rfl Try.func10 (by kernel_rfl) rfl (A2.out _) rfl ?_; intro V7 hb; replace k1 := k1.keep hb; replace k2 := k2.keep hb; replace k3 := k3.keep hb; replace k4 := k4.keep hb; replace k5 := k5.keep hb; replace k6 := k6.keep hb; replace HB := Lib.hid (below_tr HB.out hb); clear hb)
      | ((with_reducible refine at_slot 15 ?_); refine wl_alloc (A := (ceA zeroCe)) rfl rfl ce_zero rfl ?_; intro W7 g7 k7 hb hle; have n1_7 := Lib.hid (Blk.ne_of_le k1 hle); have n2_7 := Lib.hid (Blk.ne_of_le k2 hle); have n3_7 := Lib.hid (Blk.ne_of_le k3 hle); have n4_7 := Lib.hid (Blk.ne_of_le k4 hle); have n5_7 := Lib.hid (Blk.ne_of_le k5 hle); have n6_7 := Lib.hid (Blk.ne_of_le k6 hle); have L7 := Lib.hid (Nat.le_trans HB.out.size hle); replace k1 := k1.keep hb; replace k2 := k2.keep hb; replace k3 := k3.keep hb; replace k4 := k4.keep hb; replace k5 := k5.keep hb; replace k6 := k6.keep hb; replace HB := Lib.hid (below_tr HB.out hb); clear hb hle)
      | ((with_reducible refine at_store 15 ?_); refine wl_st0 (A' := (ceA y)) rfl rfl rfl rfl k7 rfl ceInfo (ceA_one y) ?_; intro V8 kn hu; replace k1 := k1.upd hu n1_7.out; replace k2 := k2.upd hu n2_7.out; replace k3 := k3.upd hu n3_7.out; replace k4 := k4.upd hu n4_7.out; replace k5 := k5.upd hu n5_7.out; replace k6 := k6.upd hu n6_7.out; replace HB := Lib.hid (upd_below HB.out hu L7.out); clear k7; have k7 : Blk _ g7 _ (ceA y) := kn; clear kn hu)
      | ((with_reducible refine at_slot 51 ?_); refine wl_call rfl rfl Try.func11 (by kernel_rfl) rfl (P1.out _ (HL.out.keep HB.out)) rfl ?_; intro V9 hb; replace k1 := k1.keep hb; replace k2 := k2.keep hb; replace k3 := k3.keep hb; replace k4 := k4.keep hb; replace k5 := k5.keep hb; replace k6 := k6.keep hb; replace k7 := k7.keep hb; replace HB := Lib.hid (below_tr HB.out hb); clear hb)
      | ((with_reducible refine at_slot 17 ?_); refine wl_alloc (A := (ceA zeroCe)) rfl rfl ce_zero rfl ?_; intro W8 g8 k8 hb hle; have n1_8 := Lib.hid (Blk.ne_of_le k1 hle); have n2_8 := Lib.hid (Blk.ne_of_le k2 hle); have n3_8 := Lib.hid (Blk.ne_of_le k3 hle); have n4_8 := Lib.hid (Blk.ne_of_le k4 hle); have n5_8 := Lib.hid (Blk.ne_of_le k5 hle); have n6_8 := Lib.hid (Blk.ne_of_le k6 hle); have n7_8 := Lib.hid (Blk.ne_of_le k7 hle); have L8 := Lib.hid (Nat.le_trans HB.out.size hle); replace k1 := k1.keep hb; replace k2 := k2.keep hb; replace k3 := k3.keep hb; replace k4 := k4.keep hb; replace k5 := k5.keep hb; replace k6 := k6.keep hb; replace k7 := k7.keep hb; replace HB := Lib.hid (below_tr HB.out hb); clear hb hle)
      | ((with_reducible refine at_store 17 ?_); refine wl_st0 (A' := (ceA z)) rfl rfl rfl rfl k8 rfl ceInfo (ceA_one z) ?_; intro V10 kn hu; replace k1 := k1.upd hu n1_8.out; replace k2 := k2.upd hu n2_8.out; replace k3 := k3.upd hu n3_8.out; replace k4 := k4.upd hu n4_8.out; replace k5 := k5.upd hu n5_8.out; replace k6 := k6.upd hu n6_8.out; replace k7 := k7.upd hu n7_8.out; replace HB := Lib.hid (upd_below HB.out hu L8.out); clear k8; have k8 : Blk _ g8 _ (ceA z) := kn; clear kn hu)
      | ((with_reducible refine at_slot 56 ?_); refine wl_call rfl rfl Try.func12 (by kernel_rfl) rfl (P2.out _ (HL.out.keep HB.out)) rfl ?_; intro V11 hb; replace k1 := k1.keep hb; replace k2 := k2.keep hb; replace k3 := k3.keep hb; replace k4 := k4.keep hb; replace k5 := k5.keep hb; replace k6 := k6.keep hb; replace k7 := k7.keep hb; replace k8 := k8.keep hb; replace HB := Lib.hid (below_tr HB.out hb); clear hb)
      | ((with_reducible refine at_slot 19 ?_); refine wl_alloc (A := (ceA zeroCe)) rfl rfl ce_zero rfl ?_; intro W9 g9 k9 hb hle; have n1_9 := Lib.hid (Blk.ne_of_le k1 hle); have n2_9 := Lib.hid (Blk.ne_of_le k2 hle); have n3_9 := Lib.hid (Blk.ne_of_le k3 hle); have n4_9 := Lib.hid (Blk.ne_of_le k4 hle); have n5_9 := Lib.hid (Blk.ne_of_le k5 hle); have n6_9 := Lib.hid (Blk.ne_of_le k6 hle); have n7_9 := Lib.hid (Blk.ne_of_le k7 hle); have n8_9 := Lib.hid (Blk.ne_of_le k8 hle); have L9 := Lib.hid (Nat.le_trans HB.out.size hle); replace k1 := k1.keep hb; replace k2 := k2.keep hb; replace k3 := k3.keep hb; replace k4 := k4.keep hb; replace k5 := k5.keep hb; replace k6 := k6.keep hb; replace k7 := k7.keep hb; replace k8 := k8.keep hb; replace HB := Lib.hid (below_tr HB.out hb); clear hb hle)
      | ((with_reducible refine at_store 19 ?_); refine wl_st0 (A' := (ceA z)) rfl rfl rfl rfl k9 rfl ceInfo (ceA_one z) ?_; intro V12 kn hu; replace k1 := k1.upd hu n1_9.out; replace k2 := k2.upd hu n2_9.out; replace k3 := k3.upd hu n3_9.out; replace k4 := k4.upd hu n4_9.out; replace k5 := k5.upd hu n5_9.out; replace k6 := k6.upd hu n6_9.out; replace k7 := k7.upd hu n7_9.out; replace k8 := k8.upd hu n8_9.out; replace HB := Lib.hid (upd_below HB.out hu L9.out); clear k9; have k9 : Blk _ g9 _ (ceA z) := kn; clear kn hu))
  refine wp_region_held_drew (S := fun w' => Blk w' g1 28 (ceA a) ∧ Blk w' g2 28 (ceA b) ∧ Blk w' g3 24 (evA e) ∧ Blk w' g4 28 (ceA x) ∧ Blk w' g5 28 (ceA x) ∧ Blk w' g6 28 (ceA y) ∧ Blk w' g7 28 (ceA y) ∧ Blk w' g8 28 (ceA z) ∧ Blk w' g9 28 (ceA z) ∧ Below w.heap.size w w') (by kernel_rfl) ⟨k1.drew, k2.drew, k3.drew, k4.drew, k5.drew, k6.drew, k7.drew, k8.drew, k9.drew, HB.out.drew⟩ (fun hS => ?_)
  clear k1 k2 k3 k4 k5 k6 k7 k8 k9
  have hS2 := hS
  obtain ⟨k1, k2, k3, k4, k5, k6, k7, k8, k9, hB⟩ := hS2
  replace HB := Lib.hid hB
  clear hB
  refine anyH_call (i := 0) (op := ⟨some 59, _, _, _, _, _⟩) (by kernel_rfl) rfl rfl rfl Try.func6 (by kernel_rfl) rfl (lives8 _) rfl (fun w' hb => ⟨k1.keep hb, k2.keep hb, k3.keep hb, k4.keep hb, k5.keep hb, k6.keep hb, k7.keep hb, k8.keep hb, k9.keep hb, below_tr HB.out hb⟩) (fun w' hb hS2 => ?_)
  simp only [Act.put, List.setIfInBounds_toArray, List.set_cons_zero, List.set_cons_succ]
  clear hb
  replace hS := hS2
  clear hS2
  clear k1 k2 k3 k4 k5 k6 k7 k8 k9
  have hS2 := hS
  obtain ⟨k1, k2, k3, k4, k5, k6, k7, k8, k9, hB⟩ := hS2
  replace HB := Lib.hid hB
  clear hB
  refine wpAnyH_take (i := 1) (oi := ⟨some 60, _, _, _, _, _⟩) (v := .bool true) rfl (by kernel_rfl) (by kernel_rfl) (by kernel_rfl) (fun _ _ _ h => h) (yi_mv (Or.inl rfl) rfl rfl) hS ?_
  simp only [Act.put, List.setIfInBounds_toArray, List.set_cons_zero, List.set_cons_succ]
  refine wpAnyH_take (i := 2) (oi := ⟨some 61, _, _, _, _, _⟩) (v := .agg (ceA a)) rfl (by kernel_rfl) (by kernel_rfl) (by kernel_rfl) (fun _ _ _ h => h) (yi_ld0 rfl (by kernel_rfl) rfl (fun w' h => h.1) Try.underlying28 rfl ceInfo) hS ?_
  simp only [Act.put, List.setIfInBounds_toArray, List.set_cons_zero, List.set_cons_succ]
  refine wpAnyH_take (i := 4) (oi := ⟨some 63, _, _, _, _, _⟩) (v := .agg (ceA a)) rfl (by kernel_rfl) (by kernel_rfl) (by kernel_rfl) (fun _ _ _ h => h) (yi_ld0 rfl (by kernel_rfl) rfl (fun w' h => h.1) Try.underlying28 rfl ceInfo) hS ?_
  simp only [Act.put, List.setIfInBounds_toArray, List.set_cons_zero, List.set_cons_succ]
  refine anyH_call (i := 3) (op := ⟨some 62, _, _, _, _, _⟩) (by kernel_rfl) rfl rfl (by kernel_rfl) Try.func13 (by kernel_rfl) rfl (K1.out _) rfl (fun w' hb => ⟨k1.keep hb, k2.keep hb, k3.keep hb, k4.keep hb, k5.keep hb, k6.keep hb, k7.keep hb, k8.keep hb, k9.keep hb, below_tr HB.out hb⟩) (fun w' hb hS2 => ?_)
  simp only [Act.put, List.setIfInBounds_toArray, List.set_cons_zero, List.set_cons_succ]
  clear hb
  replace hS := hS2
  clear hS2
  clear k1 k2 k3 k4 k5 k6 k7 k8 k9
  have hS2 := hS
  obtain ⟨k1, k2, k3, k4, k5, k6, k7, k8, k9, hB⟩ := hS2
  replace HB := Lib.hid hB
  clear hB
  refine anyH_call (i := 5) (op := ⟨some 64, _, _, _, _, _⟩) (by kernel_rfl) rfl rfl (by kernel_rfl) Try.func14 (by kernel_rfl) rfl (K2.out _) rfl (fun w' hb => ⟨k1.keep hb, k2.keep hb, k3.keep hb, k4.keep hb, k5.keep hb, k6.keep hb, k7.keep hb, k8.keep hb, k9.keep hb, below_tr HB.out hb⟩) (fun w' hb hS2 => ?_)
  simp only [Act.put, List.setIfInBounds_toArray, List.set_cons_zero, List.set_cons_succ]
  clear hb
  replace hS := hS2
  clear hS2
  clear k1 k2 k3 k4 k5 k6 k7 k8 k9
  have hS2 := hS
  obtain ⟨k1, k2, k3, k4, k5, k6, k7, k8, k9, hB⟩ := hS2
  replace HB := Lib.hid hB
  clear hB
  refine wpAnyH_take (i := 6) (oi := ⟨some 65, _, _, _, _, _⟩) (v := .bool true) rfl (by kernel_rfl) (by kernel_rfl) (by kernel_rfl) (fun _ _ _ h => h) (yi_eql rfl (by kernel_rfl) rfl rfl Try.underlying31 (by simp)) hS ?_
  simp only [Act.put, List.setIfInBounds_toArray, List.set_cons_zero, List.set_cons_succ]
  refine wpAnyH_take (i := 7) (oi := ⟨some 66, _, _, _, _, _⟩) (v := .bool true) rfl (by kernel_rfl) (by kernel_rfl) (by kernel_rfl) (fun _ _ _ h => h) (yi_pick1 rfl rfl rfl rfl) hS ?_
  simp only [Act.put, List.setIfInBounds_toArray, List.set_cons_zero, List.set_cons_succ]
  refine wpAnyH_take (i := 8) (oi := ⟨some 67, _, _, _, _, _⟩) (v := .bool true) rfl (by kernel_rfl) (by kernel_rfl) (by kernel_rfl) (fun _ _ _ h => h) (yi_mv (Or.inl rfl) rfl rfl) hS ?_
  simp only [Act.put, List.setIfInBounds_toArray, List.set_cons_zero, List.set_cons_succ]
  refine wpAnyH_take (i := 9) (oi := ⟨some 68, _, _, _, _, _⟩) (v := .agg (ceA x)) rfl (by kernel_rfl) (by kernel_rfl) (by kernel_rfl) (fun _ _ _ h => h) (yi_ld0 rfl (by kernel_rfl) rfl (fun w' h => h.2.2.2.1) Try.underlying28 rfl ceInfo) hS ?_
  simp only [Act.put, List.setIfInBounds_toArray, List.set_cons_zero, List.set_cons_succ]
  refine wpAnyH_take (i := 10) (oi := ⟨some 69, _, _, _, _, _⟩) (v := .agg (ceA x)) rfl (by kernel_rfl) (by kernel_rfl) (by kernel_rfl) (fun _ _ _ h => h) (yi_ld0 rfl (by kernel_rfl) rfl (fun w' h => h.2.2.2.2.1) Try.underlying28 rfl ceInfo) hS ?_
  simp only [Act.put, List.setIfInBounds_toArray, List.set_cons_zero, List.set_cons_succ]
  refine wpAnyH_take (i := 11) (oi := ⟨some 70, _, _, _, _, _⟩) (v := .bool true) rfl (by kernel_rfl) (by kernel_rfl) (by kernel_rfl) (fun _ _ _ h => h) (yi_bin rfl (by kernel_rfl) (fun _ => run_eqGuard_agg _ _ _ _ _ _ _ (by kernel_rfl)) (fun w => ce_eql_yes rfl w)) hS ?_
  simp only [Act.put, List.setIfInBounds_toArray, List.set_cons_zero, List.set_cons_succ]
  refine wpAnyH_take (i := 12) (oi := ⟨some 71, _, _, _, _, _⟩) (v := .bool true) rfl (by kernel_rfl) (by kernel_rfl) (by kernel_rfl) (fun _ _ _ h => h) (yi_pick1 rfl rfl rfl rfl) hS ?_
  simp only [Act.put, List.setIfInBounds_toArray, List.set_cons_zero, List.set_cons_succ]
  refine wpAnyH_take (i := 13) (oi := ⟨some 72, _, _, _, _, _⟩) (v := .bool true) rfl (by kernel_rfl) (by kernel_rfl) (by kernel_rfl) (fun _ _ _ h => h) (yi_mv (Or.inl rfl) rfl rfl) hS ?_
  simp only [Act.put, List.setIfInBounds_toArray, List.set_cons_zero, List.set_cons_succ]
  refine wpAnyH_take (i := 14) (oi := ⟨some 73, _, _, _, _, _⟩) (v := .int .i64 xe) rfl (by kernel_rfl) (by kernel_rfl) (by kernel_rfl) (fun _ _ _ h => h) (yi_mv (Or.inl rfl) (by kernel_rfl) rfl) hS ?_
  simp only [Act.put, List.setIfInBounds_toArray, List.set_cons_zero, List.set_cons_succ]
  refine wpAnyH_take (i := 15) (oi := ⟨some 74, _, _, _, _, _⟩) (v := .int .i64 xe) rfl (by kernel_rfl) (by kernel_rfl) (by kernel_rfl) (fun _ _ _ h => h) (yi_mv (Or.inl rfl) (by kernel_rfl) rfl) hS ?_
  simp only [Act.put, List.setIfInBounds_toArray, List.set_cons_zero, List.set_cons_succ]
  refine wpAnyH_take (i := 16) (oi := ⟨some 75, _, _, _, _, _⟩) (v := .bool true) rfl (by kernel_rfl) (by kernel_rfl) (by kernel_rfl) (fun _ _ _ h => h) (yi_eql rfl (by kernel_rfl) rfl rfl Try.underlying31 (by simp)) hS ?_
  simp only [Act.put, List.setIfInBounds_toArray, List.set_cons_zero, List.set_cons_succ]
  refine wpAnyH_take (i := 17) (oi := ⟨some 76, _, _, _, _, _⟩) (v := .bool true) rfl (by kernel_rfl) (by kernel_rfl) (by kernel_rfl) (fun _ _ _ h => h) (yi_pick1 rfl rfl rfl rfl) hS ?_
  simp only [Act.put, List.setIfInBounds_toArray, List.set_cons_zero, List.set_cons_succ]
  refine wpAnyH_take (i := 18) (oi := ⟨some 77, _, _, _, _, _⟩) (v := .bool true) rfl (by kernel_rfl) (by kernel_rfl) (by kernel_rfl) (fun _ _ _ h => h) (yi_mv (Or.inl rfl) rfl rfl) hS ?_
  simp only [Act.put, List.setIfInBounds_toArray, List.set_cons_zero, List.set_cons_succ]
  refine wpAnyH_take (i := 19) (oi := ⟨some 78, _, _, _, _, _⟩) (v := .agg (ceA y)) rfl (by kernel_rfl) (by kernel_rfl) (by kernel_rfl) (fun _ _ _ h => h) (yi_ld0 rfl (by kernel_rfl) rfl (fun w' h => h.2.2.2.2.2.1) Try.underlying28 rfl ceInfo) hS ?_
  simp only [Act.put, List.setIfInBounds_toArray, List.set_cons_zero, List.set_cons_succ]
  refine wpAnyH_take (i := 20) (oi := ⟨some 79, _, _, _, _, _⟩) (v := .agg (ceA y)) rfl (by kernel_rfl) (by kernel_rfl) (by kernel_rfl) (fun _ _ _ h => h) (yi_ld0 rfl (by kernel_rfl) rfl (fun w' h => h.2.2.2.2.2.2.1) Try.underlying28 rfl ceInfo) hS ?_
  simp only [Act.put, List.setIfInBounds_toArray, List.set_cons_zero, List.set_cons_succ]
  refine wpAnyH_take (i := 21) (oi := ⟨some 80, _, _, _, _, _⟩) (v := .bool true) rfl (by kernel_rfl) (by kernel_rfl) (by kernel_rfl) (fun _ _ _ h => h) (yi_bin rfl (by kernel_rfl) (fun _ => run_eqGuard_agg _ _ _ _ _ _ _ (by kernel_rfl)) (fun w => ce_eql_yes rfl w)) hS ?_
  simp only [Act.put, List.setIfInBounds_toArray, List.set_cons_zero, List.set_cons_succ]
  refine wpAnyH_take (i := 22) (oi := ⟨some 81, _, _, _, _, _⟩) (v := .bool true) rfl (by kernel_rfl) (by kernel_rfl) (by kernel_rfl) (fun _ _ _ h => h) (yi_pick1 rfl rfl rfl rfl) hS ?_
  simp only [Act.put, List.setIfInBounds_toArray, List.set_cons_zero, List.set_cons_succ]
  refine wpAnyH_take (i := 23) (oi := ⟨some 82, _, _, _, _, _⟩) (v := .bool true) rfl (by kernel_rfl) (by kernel_rfl) (by kernel_rfl) (fun _ _ _ h => h) (yi_mv (Or.inl rfl) rfl rfl) hS ?_
  simp only [Act.put, List.setIfInBounds_toArray, List.set_cons_zero, List.set_cons_succ]
  refine wpAnyH_take (i := 24) (oi := ⟨some 83, _, _, _, _, _⟩) (v := .int .i64 ye) rfl (by kernel_rfl) (by kernel_rfl) (by kernel_rfl) (fun _ _ _ h => h) (yi_mv (Or.inl rfl) (by kernel_rfl) rfl) hS ?_
  simp only [Act.put, List.setIfInBounds_toArray, List.set_cons_zero, List.set_cons_succ]
  refine wpAnyH_take (i := 25) (oi := ⟨some 84, _, _, _, _, _⟩) (v := .int .i64 ye) rfl (by kernel_rfl) (by kernel_rfl) (by kernel_rfl) (fun _ _ _ h => h) (yi_mv (Or.inl rfl) (by kernel_rfl) rfl) hS ?_
  simp only [Act.put, List.setIfInBounds_toArray, List.set_cons_zero, List.set_cons_succ]
  refine wpAnyH_take (i := 26) (oi := ⟨some 85, _, _, _, _, _⟩) (v := .bool true) rfl (by kernel_rfl) (by kernel_rfl) (by kernel_rfl) (fun _ _ _ h => h) (yi_eql rfl (by kernel_rfl) rfl rfl Try.underlying31 (by simp)) hS ?_
  simp only [Act.put, List.setIfInBounds_toArray, List.set_cons_zero, List.set_cons_succ]
  refine wpAnyH_take (i := 27) (oi := ⟨some 86, _, _, _, _, _⟩) (v := .bool true) rfl (by kernel_rfl) (by kernel_rfl) (by kernel_rfl) (fun _ _ _ h => h) (yi_pick1 rfl rfl rfl rfl) hS ?_
  simp only [Act.put, List.setIfInBounds_toArray, List.set_cons_zero, List.set_cons_succ]
  refine wpAnyH_take (i := 28) (oi := ⟨some 87, _, _, _, _, _⟩) (v := .bool true) rfl (by kernel_rfl) (by kernel_rfl) (by kernel_rfl) (fun _ _ _ h => h) (yi_mv (Or.inl rfl) rfl rfl) hS ?_
  simp only [Act.put, List.setIfInBounds_toArray, List.set_cons_zero, List.set_cons_succ]
  refine wpAnyH_take (i := 29) (oi := ⟨some 88, _, _, _, _, _⟩) (v := .agg (ceA z)) rfl (by kernel_rfl) (by kernel_rfl) (by kernel_rfl) (fun _ _ _ h => h) (yi_ld0 rfl (by kernel_rfl) rfl (fun w' h => h.2.2.2.2.2.2.2.1) Try.underlying28 rfl ceInfo) hS ?_
  simp only [Act.put, List.setIfInBounds_toArray, List.set_cons_zero, List.set_cons_succ]
  refine wpAnyH_take (i := 30) (oi := ⟨some 89, _, _, _, _, _⟩) (v := .agg (ceA z)) rfl (by kernel_rfl) (by kernel_rfl) (by kernel_rfl) (fun _ _ _ h => h) (yi_ld0 rfl (by kernel_rfl) rfl (fun w' h => h.2.2.2.2.2.2.2.2.1) Try.underlying28 rfl ceInfo) hS ?_
  simp only [Act.put, List.setIfInBounds_toArray, List.set_cons_zero, List.set_cons_succ]
  refine wpAnyH_take (i := 31) (oi := ⟨some 90, _, _, _, _, _⟩) (v := .bool true) rfl (by kernel_rfl) (by kernel_rfl) (by kernel_rfl) (fun _ _ _ h => h) (yi_bin rfl (by kernel_rfl) (fun _ => run_eqGuard_agg _ _ _ _ _ _ _ (by kernel_rfl)) (fun w => ce_eql_yes rfl w)) hS ?_
  simp only [Act.put, List.setIfInBounds_toArray, List.set_cons_zero, List.set_cons_succ]
  refine wpAnyH_take (i := 32) (oi := ⟨some 91, _, _, _, _, _⟩) (v := .bool true) rfl (by kernel_rfl) (by kernel_rfl) (by kernel_rfl) (fun _ _ _ h => h) (yi_pick1 rfl rfl rfl rfl) hS ?_
  simp only [Act.put, List.setIfInBounds_toArray, List.set_cons_zero, List.set_cons_succ]
  refine wpAnyH_take (i := 33) (oi := ⟨some 92, _, _, _, _, _⟩) (v := .bool true) rfl (by kernel_rfl) (by kernel_rfl) (by kernel_rfl) (fun _ _ _ h => h) (yi_mv (Or.inl rfl) rfl rfl) hS ?_
  simp only [Act.put, List.setIfInBounds_toArray, List.set_cons_zero, List.set_cons_succ]
  refine wpAnyH_take (i := 34) (oi := ⟨some 93, _, _, _, _, _⟩) (v := .int .i64 ze) rfl (by kernel_rfl) (by kernel_rfl) (by kernel_rfl) (fun _ _ _ h => h) (yi_mv (Or.inl rfl) (by kernel_rfl) rfl) hS ?_
  simp only [Act.put, List.setIfInBounds_toArray, List.set_cons_zero, List.set_cons_succ]
  refine wpAnyH_take (i := 35) (oi := ⟨some 94, _, _, _, _, _⟩) (v := .int .i64 ze) rfl (by kernel_rfl) (by kernel_rfl) (by kernel_rfl) (fun _ _ _ h => h) (yi_mv (Or.inl rfl) (by kernel_rfl) rfl) hS ?_
  simp only [Act.put, List.setIfInBounds_toArray, List.set_cons_zero, List.set_cons_succ]
  refine wpAnyH_take (i := 36) (oi := ⟨some 95, _, _, _, _, _⟩) (v := .bool true) rfl (by kernel_rfl) (by kernel_rfl) (by kernel_rfl) (fun _ _ _ h => h) (yi_eql rfl (by kernel_rfl) rfl rfl Try.underlying31 (by simp)) hS ?_
  simp only [Act.put, List.setIfInBounds_toArray, List.set_cons_zero, List.set_cons_succ]
  refine wpAnyH_take (i := 37) (oi := ⟨some 96, _, _, _, _, _⟩) (v := .bool true) rfl (by kernel_rfl) (by kernel_rfl) (by kernel_rfl) (fun _ _ _ h => h) (yi_pick1 rfl rfl rfl rfl) hS ?_
  simp only [Act.put, List.setIfInBounds_toArray, List.set_cons_zero, List.set_cons_succ]
  refine wpAnyH_take (i := 38) (oi := ⟨some 8, _, _, _, _, _⟩) (v := .bool true) rfl (by kernel_rfl) (by kernel_rfl) (by kernel_rfl) (fun _ _ _ h => h) (yi_mv (Or.inr rfl) rfl rfl) hS ?_
  simp only [Act.put, List.setIfInBounds_toArray, List.set_cons_zero, List.set_cons_succ]
  refine wpAnyH_done (by kernel_rfl) ?_ _
  clear hS
  go_wp2_with fail
  go_ret
  exact ⟨rfl, HB.out⟩
theorem ctl_any {a b : Ce} {e : Ev} (ao : Option Addr) (bk off cap : Nat) (l : List Ce) (ia : CeIn a) (ib : CeIn b) (ie : EvIn e) (hm : l.length ≤ maxLen) (w : World) (h : CesAt w ao bk off l) :
    Calls Try.prog 3 #[.agg (ceA a), .agg (ceA b), .agg (evA e), .slice ao l.length cap] w fun r w' => r = .returned (.bool true) ∧ Below w.heap.size w w' := by
  have hm' : l.length ≤ 9223372036854775807 := by unfold maxLen at hm; omega
  by_cases hl : 100 < l.length
  · exact ctl_long ao bk off cap l ia ib ie hl hm' w h
  · exact ctl_in ao bk off cap l ia ib ie hl hm' w h
end Go.Proofs.Ytjdjebhimljedaa
