/-
  THE LAW plimsolllaw07.EventTells: the walk: it answers true, of any events.
-/
import Derived.Test.YtgijejdehenmpaaL7
import Derived.Test.YtgijejdehenmpaaE9
namespace Go.Proofs.Ytgijejdehenmpaa
open Go Go.RowKit

theorem fol_both {p c : Ev} (ip : EvIn p) (ic : EvIn c) : ∃ B, (∀ w, Calls Try.prog 19 #[.agg (evA p), .agg (evA c)] w fun e w' => e = .returned (.bool B) ∧ Below w.heap.size w w') ∧ (∀ w, Calls Try.prog 20 #[.agg (evA p), .agg (evA c)] w fun e w' => e = .returned (.bool B) ∧ Below w.heap.size w w') := by
  by_cases h : Fol p c
  · exact ⟨true, fol_yes h, rfol_yes h⟩
  · exact ⟨false, fol_no ip ic h, rfol_no ip ic h⟩
set_option maxHeartbeats 4000000 in
set_option maxRecDepth 100000 in
theorem etell_long {p c : Ev} (ao : Option Addr) (b off cap : Nat) (l : List Ev) (ip : EvIn p) (ic : EvIn c) (hl : 200 < l.length) (hm : l.length ≤ 9223372036854775807) (w : World) (h : EvsAt w ao b off l) :
    Calls Try.prog 3 #[.agg (evA p), .agg (evA c), .slice ao l.length cap] w fun e w' => e = .returned (.bool true) ∧ Below w.heap.size w w' := by
  have d1 : decide (200 < l.length) = true := by simp <;> omega
  have d2 : decide ((200 : Int) < l.length) = true := by simp <;> omega
  clear h ip ic
  have HB := Lib.hid (Below.refl w.heap.size w)
  go_enter Try.func3, Try.ntmps3
  go_wp2_with (first
      | ((with_reducible refine at_slot 3 ?_); refine wl_box (A := (evA p)) rfl rfl rfl ?_; intro W1 g1 k1 hb hle; have L1 := Lib.hid (Nat.le_trans HB.out.size hle); replace HB := Lib.hid (below_tr HB.out hb); clear hb hle)
      | ((with_reducible refine at_slot 4 ?_); refine wl_box (A := (evA c)) rfl rfl rfl ?_; intro W2 g2 k2 hb hle; have n1_2 := Lib.hid (Blk.ne_of_le k1 hle); have L2 := Lib.hid (Nat.le_trans HB.out.size hle); replace k1 := k1.keep hb; replace HB := Lib.hid (below_tr HB.out hb); clear hb hle)
      | ((with_reducible refine at_slot 18 ?_); refine wl_call rfl rfl Try.func12 (by kernel_rfl) rfl (lives7 _) rfl ?_; intro V1 hb; replace k1 := k1.keep hb; replace k2 := k2.keep hb; replace HB := Lib.hid (below_tr HB.out hb); clear hb))
  go_ret
  exact ⟨rfl, HB.out⟩
set_option maxHeartbeats 4000000 in
set_option maxRecDepth 100000 in
theorem etell_in {p c : Ev} (ao : Option Addr) (b off cap : Nat) (l : List Ev) (ip : EvIn p) (ic : EvIn c) (hl : ¬ 200 < l.length) (hm : l.length ≤ 9223372036854775807) (w : World) (h : EvsAt w ao b off l) :
    Calls Try.prog 3 #[.agg (evA p), .agg (evA c), .slice ao l.length cap] w fun e w' => e = .returned (.bool true) ∧ Below w.heap.size w w' := by
  have d1 : decide (200 < l.length) = false := by simp <;> omega
  have d2 : decide ((200 : Int) < l.length) = false := by simp <;> omega
  have HL := Lib.hid h
  have IP := Lib.hid ip
  have IC := Lib.hid ic
  have HM := Lib.hid hm
  obtain ⟨B, hf1, hf2⟩ := fol_both ip ic
  have F1 := Lib.hid hf1
  have F2 := Lib.hid hf2
  clear h ip ic hm hl hf1 hf2
  have HB := Lib.hid (Below.refl w.heap.size w)
  go_enter Try.func3, Try.ntmps3
  go_wp2_with (first
      | ((with_reducible refine at_slot 3 ?_); refine wl_box (A := (evA p)) rfl rfl rfl ?_; intro W1 g1 k1 hb hle; have L1 := Lib.hid (Nat.le_trans HB.out.size hle); replace HB := Lib.hid (below_tr HB.out hb); clear hb hle)
      | ((with_reducible refine at_slot 4 ?_); refine wl_box (A := (evA c)) rfl rfl rfl ?_; intro W2 g2 k2 hb hle; have n1_2 := Lib.hid (Blk.ne_of_le k1 hle); have L2 := Lib.hid (Nat.le_trans HB.out.size hle); replace k1 := k1.keep hb; replace HB := Lib.hid (below_tr HB.out hb); clear hb hle)
      | ((with_reducible refine at_slot 20 ?_); refine wl_ld0 rfl rfl rfl k1 Try.underlying24 rfl evInfo ?_)
      | ((with_reducible refine at_slot 21 ?_); refine wl_ld0 rfl rfl rfl k2 Try.underlying24 rfl evInfo ?_)
      | ((with_reducible refine at_slot 22 ?_); refine wl_call rfl rfl Try.func13 (by kernel_rfl) rfl (be_any IP.out IC.out _) rfl ?_; intro V1 hb; replace k1 := k1.keep hb; replace k2 := k2.keep hb; replace HB := Lib.hid (below_tr HB.out hb); clear hb)
      | ((with_reducible refine at_slot 7 ?_); refine wl_alloc (A := (ceA zeroCe)) rfl rfl ce_zero rfl ?_; intro W3 g3 k3 hb hle; have n1_3 := Lib.hid (Blk.ne_of_le k1 hle); have n2_3 := Lib.hid (Blk.ne_of_le k2 hle); have L3 := Lib.hid (Nat.le_trans HB.out.size hle); replace k1 := k1.keep hb; replace k2 := k2.keep hb; replace HB := Lib.hid (below_tr HB.out hb); clear hb hle)
      | ((with_reducible refine at_store 7 ?_); refine wl_st0 (A' := (ceA (beC p c))) rfl rfl rfl rfl k3 rfl ceInfo (ceA_one (beC p c)) ?_; intro V2 kn hu; replace k1 := k1.upd hu n1_3.out; replace k2 := k2.upd hu n2_3.out; replace HB := Lib.hid (upd_below HB.out hu L3.out); clear k3; have k3 : Blk _ g3 _ (ceA (beC p c)) := kn; clear kn hu)
      | ((with_reducible refine at_slot 26 ?_); refine wl_ld0 rfl rfl rfl k1 Try.underlying24 rfl evInfo ?_)
      | ((with_reducible refine at_slot 27 ?_); refine wl_ld0 rfl rfl rfl k2 Try.underlying24 rfl evInfo ?_)
      | ((with_reducible refine at_slot 28 ?_); refine wl_call rfl rfl Try.func14 (by kernel_rfl) rfl (rbe_any IP.out IC.out _) rfl ?_; intro V3 hb; replace k1 := k1.keep hb; replace k2 := k2.keep hb; replace k3 := k3.keep hb; replace HB := Lib.hid (below_tr HB.out hb); clear hb)
      | ((with_reducible refine at_slot 9 ?_); refine wl_alloc (A := (ceA zeroCe)) rfl rfl ce_zero rfl ?_; intro W4 g4 k4 hb hle; have n1_4 := Lib.hid (Blk.ne_of_le k1 hle); have n2_4 := Lib.hid (Blk.ne_of_le k2 hle); have n3_4 := Lib.hid (Blk.ne_of_le k3 hle); have L4 := Lib.hid (Nat.le_trans HB.out.size hle); replace k1 := k1.keep hb; replace k2 := k2.keep hb; replace k3 := k3.keep hb; replace HB := Lib.hid (below_tr HB.out hb); clear hb hle)
      | ((with_reducible refine at_store 9 ?_); refine wl_st0 (A' := (ceA (beC p c))) rfl rfl rfl rfl k4 rfl ceInfo (ceA_one (beC p c)) ?_; intro V4 kn hu; replace k1 := k1.upd hu n1_4.out; replace k2 := k2.upd hu n2_4.out; replace k3 := k3.upd hu n3_4.out; replace HB := Lib.hid (upd_below HB.out hu L4.out); clear k4; have k4 : Blk _ g4 _ (ceA (beC p c)) := kn; clear kn hu)
      | ((with_reducible refine at_slot 33 ?_); refine wl_call rfl rfl Try.func15 (by kernel_rfl) rfl (ri_any _ b off cap l HM.out _ (HL.out.keep HB.out)) rfl ?_; intro V5 hb; replace k1 := k1.keep hb; replace k2 := k2.keep hb; replace k3 := k3.keep hb; replace k4 := k4.keep hb; replace HB := Lib.hid (below_tr HB.out hb); clear hb)
      | ((with_reducible refine at_slot 11 ?_); refine wl_alloc (A := (wdA U.zero)) rfl rfl wd_zero rfl ?_; intro W5 g5 k5 hb hle; have n1_5 := Lib.hid (Blk.ne_of_le k1 hle); have n2_5 := Lib.hid (Blk.ne_of_le k2 hle); have n3_5 := Lib.hid (Blk.ne_of_le k3 hle); have n4_5 := Lib.hid (Blk.ne_of_le k4 hle); have L5 := Lib.hid (Nat.le_trans HB.out.size hle); replace k1 := k1.keep hb; replace k2 := k2.keep hb; replace k3 := k3.keep hb; replace k4 := k4.keep hb; replace HB := Lib.hid (below_tr HB.out hb); clear hb hle)
      | ((with_reducible refine at_store 11 ?_); refine wl_st0 (A' := (wdA (cutU (risN l)))) rfl rfl rfl rfl k5 rfl wdInfo (wdA_one (cutU (risN l))) ?_; intro V6 kn hu; replace k1 := k1.upd hu n1_5.out; replace k2 := k2.upd hu n2_5.out; replace k3 := k3.upd hu n3_5.out; replace k4 := k4.upd hu n4_5.out; replace HB := Lib.hid (upd_below HB.out hu L5.out); clear k5; have k5 : Blk _ g5 _ (wdA (cutU (risN l))) := kn; clear kn hu)
      | ((with_reducible refine at_slot 38 ?_); refine wl_call rfl rfl Try.func16 (by kernel_rfl) rfl (rri_any _ b off cap l HM.out _ (HL.out.keep HB.out)) rfl ?_; intro V7 hb; replace k1 := k1.keep hb; replace k2 := k2.keep hb; replace k3 := k3.keep hb; replace k4 := k4.keep hb; replace k5 := k5.keep hb; replace HB := Lib.hid (below_tr HB.out hb); clear hb)
      | ((with_reducible refine at_slot 13 ?_); refine wl_alloc (A := (wdA U.zero)) rfl rfl wd_zero rfl ?_; intro W6 g6 k6 hb hle; have n1_6 := Lib.hid (Blk.ne_of_le k1 hle); have n2_6 := Lib.hid (Blk.ne_of_le k2 hle); have n3_6 := Lib.hid (Blk.ne_of_le k3 hle); have n4_6 := Lib.hid (Blk.ne_of_le k4 hle); have n5_6 := Lib.hid (Blk.ne_of_le k5 hle); have L6 := Lib.hid (Nat.le_trans HB.out.size hle); replace k1 := k1.keep hb; replace k2 := k2.keep hb; replace k3 := k3.keep hb; replace k4 := k4.keep hb; replace k5 := k5.keep hb; replace HB := Lib.hid (below_tr HB.out hb); clear hb hle)
      | ((with_reducible refine at_store 13 ?_); refine wl_st0 (A' := (wdA (cutU (risN l)))) rfl rfl rfl rfl k6 rfl wdInfo (wdA_one (cutU (risN l))) ?_; intro V8 kn hu; replace k1 := k1.upd hu n1_6.out; replace k2 := k2.upd hu n2_6.out; replace k3 := k3.upd hu n3_6.out; replace k4 := k4.upd hu n4_6.out; replace k5 := k5.upd hu n5_6.out; replace HB := Lib.hid (upd_below HB.out hu L6.out); clear k6; have k6 : Blk _ g6 _ (wdA (cutU (risN l))) := kn; clear kn hu))
  refine wp_region_held_drew (S := fun w' => Blk w' g1 24 (evA p) ∧ Blk w' g2 24 (evA c) ∧ Blk w' g3 30 (ceA (beC p c)) ∧ Blk w' g4 30 (ceA (beC p c)) ∧ Blk w' g5 28 (wdA (cutU (risN l))) ∧ Blk w' g6 28 (wdA (cutU (risN l))) ∧ Below w.heap.size w w') (by kernel_rfl) ⟨k1.drew, k2.drew, k3.drew, k4.drew, k5.drew, k6.drew, HB.out.drew⟩ (fun hS => ?_)
  clear k1 k2 k3 k4 k5 k6
  have hS2 := hS
  obtain ⟨k1, k2, k3, k4, k5, k6, hB⟩ := hS2
  replace HB := Lib.hid hB
  clear hB
  refine anyH_call (i := 0) (op := ⟨some 41, _, _, _, _, _⟩) (by kernel_rfl) rfl rfl rfl Try.func12 (by kernel_rfl) rfl (lives7 _) rfl (fun w' hb => ⟨k1.keep hb, k2.keep hb, k3.keep hb, k4.keep hb, k5.keep hb, k6.keep hb, below_tr HB.out hb⟩) (fun w' hb hS2 => ?_)
  simp only [Act.put, List.setIfInBounds_toArray, List.set_cons_zero, List.set_cons_succ]
  clear hb
  replace hS := hS2
  clear hS2
  clear k1 k2 k3 k4 k5 k6
  have hS2 := hS
  obtain ⟨k1, k2, k3, k4, k5, k6, hB⟩ := hS2
  replace HB := Lib.hid hB
  clear hB
  refine wpAnyH_take (i := 1) (oi := ⟨some 42, _, _, _, _, _⟩) (v := .bool true) rfl (by kernel_rfl) (by kernel_rfl) (by kernel_rfl) (fun _ _ _ h => h) (yi_mv (Or.inl rfl) rfl rfl) hS ?_
  simp only [Act.put, List.setIfInBounds_toArray, List.set_cons_zero, List.set_cons_succ]
  refine wpAnyH_take (i := 2) (oi := ⟨some 43, _, _, _, _, _⟩) (v := .agg (evA p)) rfl (by kernel_rfl) (by kernel_rfl) (by kernel_rfl) (fun _ _ _ h => h) (yi_ld0 rfl (by kernel_rfl) rfl (fun w' h => h.1) Try.underlying24 rfl evInfo) hS ?_
  simp only [Act.put, List.setIfInBounds_toArray, List.set_cons_zero, List.set_cons_succ]
  refine wpAnyH_take (i := 4) (oi := ⟨some 45, _, _, _, _, _⟩) (v := .agg (evA p)) rfl (by kernel_rfl) (by kernel_rfl) (by kernel_rfl) (fun _ _ _ h => h) (yi_ld0 rfl (by kernel_rfl) rfl (fun w' h => h.1) Try.underlying24 rfl evInfo) hS ?_
  simp only [Act.put, List.setIfInBounds_toArray, List.set_cons_zero, List.set_cons_succ]
  refine anyH_call (i := 3) (op := ⟨some 44, _, _, _, _, _⟩) (by kernel_rfl) rfl rfl (by kernel_rfl) Try.func17 (by kernel_rfl) rfl (ev_ck IP.out _) rfl (fun w' hb => ⟨k1.keep hb, k2.keep hb, k3.keep hb, k4.keep hb, k5.keep hb, k6.keep hb, below_tr HB.out hb⟩) (fun w' hb hS2 => ?_)
  simp only [Act.put, List.setIfInBounds_toArray, List.set_cons_zero, List.set_cons_succ]
  clear hb
  replace hS := hS2
  clear hS2
  clear k1 k2 k3 k4 k5 k6
  have hS2 := hS
  obtain ⟨k1, k2, k3, k4, k5, k6, hB⟩ := hS2
  replace HB := Lib.hid hB
  clear hB
  refine anyH_call (i := 5) (op := ⟨some 46, _, _, _, _, _⟩) (by kernel_rfl) rfl rfl (by kernel_rfl) Try.func18 (by kernel_rfl) rfl (rev_ck IP.out _) rfl (fun w' hb => ⟨k1.keep hb, k2.keep hb, k3.keep hb, k4.keep hb, k5.keep hb, k6.keep hb, below_tr HB.out hb⟩) (fun w' hb hS2 => ?_)
  simp only [Act.put, List.setIfInBounds_toArray, List.set_cons_zero, List.set_cons_succ]
  clear hb
  replace hS := hS2
  clear hS2
  clear k1 k2 k3 k4 k5 k6
  have hS2 := hS
  obtain ⟨k1, k2, k3, k4, k5, k6, hB⟩ := hS2
  replace HB := Lib.hid hB
  clear hB
  refine wpAnyH_take (i := 6) (oi := ⟨some 47, _, _, _, _, _⟩) (v := .bool true) rfl (by kernel_rfl) (by kernel_rfl) (by kernel_rfl) (fun _ _ _ h => h) (yi_eql rfl (by kernel_rfl) rfl rfl Try.underlying31 (by simp)) hS ?_
  simp only [Act.put, List.setIfInBounds_toArray, List.set_cons_zero, List.set_cons_succ]
  refine wpAnyH_take (i := 7) (oi := ⟨some 48, _, _, _, _, _⟩) (v := .bool true) rfl (by kernel_rfl) (by kernel_rfl) (by kernel_rfl) (fun _ _ _ h => h) (yi_pick1 rfl rfl rfl rfl) hS ?_
  simp only [Act.put, List.setIfInBounds_toArray, List.set_cons_zero, List.set_cons_succ]
  refine wpAnyH_take (i := 8) (oi := ⟨some 49, _, _, _, _, _⟩) (v := .bool true) rfl (by kernel_rfl) (by kernel_rfl) (by kernel_rfl) (fun _ _ _ h => h) (yi_mv (Or.inl rfl) rfl rfl) hS ?_
  simp only [Act.put, List.setIfInBounds_toArray, List.set_cons_zero, List.set_cons_succ]
  refine wpAnyH_take (i := 9) (oi := ⟨some 50, _, _, _, _, _⟩) (v := .agg (evA p)) rfl (by kernel_rfl) (by kernel_rfl) (by kernel_rfl) (fun _ _ _ h => h) (yi_ld0 rfl (by kernel_rfl) rfl (fun w' h => h.1) Try.underlying24 rfl evInfo) hS ?_
  simp only [Act.put, List.setIfInBounds_toArray, List.set_cons_zero, List.set_cons_succ]
  refine wpAnyH_take (i := 10) (oi := ⟨some 51, _, _, _, _, _⟩) (v := .agg (evA c)) rfl (by kernel_rfl) (by kernel_rfl) (by kernel_rfl) (fun _ _ _ h => h) (yi_ld0 rfl (by kernel_rfl) rfl (fun w' h => h.2.1) Try.underlying24 rfl evInfo) hS ?_
  simp only [Act.put, List.setIfInBounds_toArray, List.set_cons_zero, List.set_cons_succ]
  refine wpAnyH_take (i := 12) (oi := ⟨some 53, _, _, _, _, _⟩) (v := .agg (evA p)) rfl (by kernel_rfl) (by kernel_rfl) (by kernel_rfl) (fun _ _ _ h => h) (yi_ld0 rfl (by kernel_rfl) rfl (fun w' h => h.1) Try.underlying24 rfl evInfo) hS ?_
  simp only [Act.put, List.setIfInBounds_toArray, List.set_cons_zero, List.set_cons_succ]
  refine wpAnyH_take (i := 13) (oi := ⟨some 54, _, _, _, _, _⟩) (v := .agg (evA c)) rfl (by kernel_rfl) (by kernel_rfl) (by kernel_rfl) (fun _ _ _ h => h) (yi_ld0 rfl (by kernel_rfl) rfl (fun w' h => h.2.1) Try.underlying24 rfl evInfo) hS ?_
  simp only [Act.put, List.setIfInBounds_toArray, List.set_cons_zero, List.set_cons_succ]
  refine anyH_call (i := 11) (op := ⟨some 52, _, _, _, _, _⟩) (by kernel_rfl) rfl rfl (by kernel_rfl) Try.func19 (by kernel_rfl) rfl (F1.out _) rfl (fun w' hb => ⟨k1.keep hb, k2.keep hb, k3.keep hb, k4.keep hb, k5.keep hb, k6.keep hb, below_tr HB.out hb⟩) (fun w' hb hS2 => ?_)
  simp only [Act.put, List.setIfInBounds_toArray, List.set_cons_zero, List.set_cons_succ]
  clear hb
  replace hS := hS2
  clear hS2
  clear k1 k2 k3 k4 k5 k6
  have hS2 := hS
  obtain ⟨k1, k2, k3, k4, k5, k6, hB⟩ := hS2
  replace HB := Lib.hid hB
  clear hB
  refine anyH_call (i := 14) (op := ⟨some 55, _, _, _, _, _⟩) (by kernel_rfl) rfl rfl (by kernel_rfl) Try.func20 (by kernel_rfl) rfl (F2.out _) rfl (fun w' hb => ⟨k1.keep hb, k2.keep hb, k3.keep hb, k4.keep hb, k5.keep hb, k6.keep hb, below_tr HB.out hb⟩) (fun w' hb hS2 => ?_)
  simp only [Act.put, List.setIfInBounds_toArray, List.set_cons_zero, List.set_cons_succ]
  clear hb
  replace hS := hS2
  clear hS2
  clear k1 k2 k3 k4 k5 k6
  have hS2 := hS
  obtain ⟨k1, k2, k3, k4, k5, k6, hB⟩ := hS2
  replace HB := Lib.hid hB
  clear hB
  refine wpAnyH_take (i := 15) (oi := ⟨some 56, _, _, _, _, _⟩) (v := .bool true) rfl (by kernel_rfl) (by kernel_rfl) (by kernel_rfl) (fun _ _ _ h => h) (yi_ok (by kernel_rfl) (fun _ => by go_simp)) hS ?_
  simp only [Act.put, List.setIfInBounds_toArray, List.set_cons_zero, List.set_cons_succ]
  refine wpAnyH_take (i := 16) (oi := ⟨some 57, _, _, _, _, _⟩) (v := .bool true) rfl (by kernel_rfl) (by kernel_rfl) (by kernel_rfl) (fun _ _ _ h => h) (yi_pick1 rfl rfl rfl rfl) hS ?_
  simp only [Act.put, List.setIfInBounds_toArray, List.set_cons_zero, List.set_cons_succ]
  refine wpAnyH_take (i := 17) (oi := ⟨some 58, _, _, _, _, _⟩) (v := .bool true) rfl (by kernel_rfl) (by kernel_rfl) (by kernel_rfl) (fun _ _ _ h => h) (yi_mv (Or.inl rfl) rfl rfl) hS ?_
  simp only [Act.put, List.setIfInBounds_toArray, List.set_cons_zero, List.set_cons_succ]
  refine wpAnyH_take (i := 18) (oi := ⟨some 59, _, _, _, _, _⟩) (v := .agg (ceA (beC p c))) rfl (by kernel_rfl) (by kernel_rfl) (by kernel_rfl) (fun _ _ _ h => h) (yi_ld0 rfl (by kernel_rfl) rfl (fun w' h => h.2.2.1) Try.underlying30 rfl ceInfo) hS ?_
  simp only [Act.put, List.setIfInBounds_toArray, List.set_cons_zero, List.set_cons_succ]
  refine wpAnyH_take (i := 19) (oi := ⟨some 60, _, _, _, _, _⟩) (v := .agg (ceA (beC p c))) rfl (by kernel_rfl) (by kernel_rfl) (by kernel_rfl) (fun _ _ _ h => h) (yi_ld0 rfl (by kernel_rfl) rfl (fun w' h => h.2.2.2.1) Try.underlying30 rfl ceInfo) hS ?_
  simp only [Act.put, List.setIfInBounds_toArray, List.set_cons_zero, List.set_cons_succ]
  refine wpAnyH_take (i := 20) (oi := ⟨some 61, _, _, _, _, _⟩) (v := .bool true) rfl (by kernel_rfl) (by kernel_rfl) (by kernel_rfl) (fun _ _ _ h => h) (yi_bin rfl (by kernel_rfl) (fun _ => run_eqGuard_agg _ _ _ _ _ _ _ (by kernel_rfl)) (fun w => ce_eql_yes rfl w)) hS ?_
  simp only [Act.put, List.setIfInBounds_toArray, List.set_cons_zero, List.set_cons_succ]
  refine wpAnyH_take (i := 21) (oi := ⟨some 62, _, _, _, _, _⟩) (v := .bool true) rfl (by kernel_rfl) (by kernel_rfl) (by kernel_rfl) (fun _ _ _ h => h) (yi_pick1 rfl rfl rfl rfl) hS ?_
  simp only [Act.put, List.setIfInBounds_toArray, List.set_cons_zero, List.set_cons_succ]
  refine wpAnyH_take (i := 22) (oi := ⟨some 63, _, _, _, _, _⟩) (v := .bool true) rfl (by kernel_rfl) (by kernel_rfl) (by kernel_rfl) (fun _ _ _ h => h) (yi_mv (Or.inl rfl) rfl rfl) hS ?_
  simp only [Act.put, List.setIfInBounds_toArray, List.set_cons_zero, List.set_cons_succ]
  refine wpAnyH_take (i := 23) (oi := ⟨some 64, _, _, _, _, _⟩) (v := .int .i64 (beE p c)) rfl (by kernel_rfl) (by kernel_rfl) (by kernel_rfl) (fun _ _ _ h => h) (yi_mv (Or.inl rfl) (by kernel_rfl) rfl) hS ?_
  simp only [Act.put, List.setIfInBounds_toArray, List.set_cons_zero, List.set_cons_succ]
  refine wpAnyH_take (i := 24) (oi := ⟨some 65, _, _, _, _, _⟩) (v := .int .i64 (beE p c)) rfl (by kernel_rfl) (by kernel_rfl) (by kernel_rfl) (fun _ _ _ h => h) (yi_mv (Or.inl rfl) (by kernel_rfl) rfl) hS ?_
  simp only [Act.put, List.setIfInBounds_toArray, List.set_cons_zero, List.set_cons_succ]
  refine wpAnyH_take (i := 25) (oi := ⟨some 66, _, _, _, _, _⟩) (v := .bool true) rfl (by kernel_rfl) (by kernel_rfl) (by kernel_rfl) (fun _ _ _ h => h) (yi_eql rfl (by kernel_rfl) rfl rfl Try.underlying31 (by simp)) hS ?_
  simp only [Act.put, List.setIfInBounds_toArray, List.set_cons_zero, List.set_cons_succ]
  refine wpAnyH_take (i := 26) (oi := ⟨some 67, _, _, _, _, _⟩) (v := .bool true) rfl (by kernel_rfl) (by kernel_rfl) (by kernel_rfl) (fun _ _ _ h => h) (yi_pick1 rfl rfl rfl rfl) hS ?_
  simp only [Act.put, List.setIfInBounds_toArray, List.set_cons_zero, List.set_cons_succ]
  refine wpAnyH_take (i := 27) (oi := ⟨some 68, _, _, _, _, _⟩) (v := .bool true) rfl (by kernel_rfl) (by kernel_rfl) (by kernel_rfl) (fun _ _ _ h => h) (yi_mv (Or.inl rfl) rfl rfl) hS ?_
  simp only [Act.put, List.setIfInBounds_toArray, List.set_cons_zero, List.set_cons_succ]
  refine wpAnyH_take (i := 28) (oi := ⟨some 69, _, _, _, _, _⟩) (v := .agg (wdA (cutU (risN l)))) rfl (by kernel_rfl) (by kernel_rfl) (by kernel_rfl) (fun _ _ _ h => h) (yi_ld0 rfl (by kernel_rfl) rfl (fun w' h => h.2.2.2.2.1) Try.underlying28 rfl wdInfo) hS ?_
  simp only [Act.put, List.setIfInBounds_toArray, List.set_cons_zero, List.set_cons_succ]
  refine wpAnyH_take (i := 29) (oi := ⟨some 70, _, _, _, _, _⟩) (v := .agg (wdA (cutU (risN l)))) rfl (by kernel_rfl) (by kernel_rfl) (by kernel_rfl) (fun _ _ _ h => h) (yi_ld0 rfl (by kernel_rfl) rfl (fun w' h => h.2.2.2.2.2.1) Try.underlying28 rfl wdInfo) hS ?_
  simp only [Act.put, List.setIfInBounds_toArray, List.set_cons_zero, List.set_cons_succ]
  refine wpAnyH_take (i := 30) (oi := ⟨some 71, _, _, _, _, _⟩) (v := .bool true) rfl (by kernel_rfl) (by kernel_rfl) (by kernel_rfl) (fun _ _ _ h => h) (yi_bin rfl (by kernel_rfl) (fun _ => run_eqGuard_agg _ _ _ _ _ _ _ (by kernel_rfl)) (fun w => wd_eql_yes rfl w)) hS ?_
  simp only [Act.put, List.setIfInBounds_toArray, List.set_cons_zero, List.set_cons_succ]
  refine wpAnyH_take (i := 31) (oi := ⟨some 72, _, _, _, _, _⟩) (v := .bool true) rfl (by kernel_rfl) (by kernel_rfl) (by kernel_rfl) (fun _ _ _ h => h) (yi_pick1 rfl rfl rfl rfl) hS ?_
  simp only [Act.put, List.setIfInBounds_toArray, List.set_cons_zero, List.set_cons_succ]
  refine wpAnyH_take (i := 32) (oi := ⟨some 73, _, _, _, _, _⟩) (v := .bool true) rfl (by kernel_rfl) (by kernel_rfl) (by kernel_rfl) (fun _ _ _ h => h) (yi_mv (Or.inl rfl) rfl rfl) hS ?_
  simp only [Act.put, List.setIfInBounds_toArray, List.set_cons_zero, List.set_cons_succ]
  refine wpAnyH_take (i := 33) (oi := ⟨some 74, _, _, _, _, _⟩) (v := .int .i64 (risE l)) rfl (by kernel_rfl) (by kernel_rfl) (by kernel_rfl) (fun _ _ _ h => h) (yi_mv (Or.inl rfl) (by kernel_rfl) rfl) hS ?_
  simp only [Act.put, List.setIfInBounds_toArray, List.set_cons_zero, List.set_cons_succ]
  refine wpAnyH_take (i := 34) (oi := ⟨some 75, _, _, _, _, _⟩) (v := .int .i64 (risE l)) rfl (by kernel_rfl) (by kernel_rfl) (by kernel_rfl) (fun _ _ _ h => h) (yi_mv (Or.inl rfl) (by kernel_rfl) rfl) hS ?_
  simp only [Act.put, List.setIfInBounds_toArray, List.set_cons_zero, List.set_cons_succ]
  refine wpAnyH_take (i := 35) (oi := ⟨some 76, _, _, _, _, _⟩) (v := .bool true) rfl (by kernel_rfl) (by kernel_rfl) (by kernel_rfl) (fun _ _ _ h => h) (yi_eql rfl (by kernel_rfl) rfl rfl Try.underlying31 (by simp)) hS ?_
  simp only [Act.put, List.setIfInBounds_toArray, List.set_cons_zero, List.set_cons_succ]
  refine wpAnyH_take (i := 36) (oi := ⟨some 77, _, _, _, _, _⟩) (v := .bool true) rfl (by kernel_rfl) (by kernel_rfl) (by kernel_rfl) (fun _ _ _ h => h) (yi_pick1 rfl rfl rfl rfl) hS ?_
  simp only [Act.put, List.setIfInBounds_toArray, List.set_cons_zero, List.set_cons_succ]
  refine wpAnyH_take (i := 37) (oi := ⟨some 6, _, _, _, _, _⟩) (v := .bool true) rfl (by kernel_rfl) (by kernel_rfl) (by kernel_rfl) (fun _ _ _ h => h) (yi_mv (Or.inr rfl) rfl rfl) hS ?_
  simp only [Act.put, List.setIfInBounds_toArray, List.set_cons_zero, List.set_cons_succ]
  refine wpAnyH_done (by kernel_rfl) ?_ _
  clear hS
  go_wp2_with fail
  go_ret
  exact ⟨rfl, HB.out⟩
theorem etell_any {p c : Ev} (ao : Option Addr) (b off cap : Nat) (l : List Ev) (ip : EvIn p) (ic : EvIn c) (hm : l.length ≤ maxLen) (w : World) (h : EvsAt w ao b off l) :
    Calls Try.prog 3 #[.agg (evA p), .agg (evA c), .slice ao l.length cap] w fun e w' => e = .returned (.bool true) ∧ Below w.heap.size w w' := by
  have hm' : l.length ≤ 9223372036854775807 := by unfold maxLen at hm; omega
  by_cases hl : 200 < l.length
  · exact etell_long ao b off cap l ip ic hl hm' w h
  · exact etell_in ao b off cap l ip ic hl hm' w h
end Go.Proofs.Ytgijejdehenmpaa
