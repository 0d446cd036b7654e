/-
  WALKS: plimsolllaw10.ConfTells: it answers true.
-/
import Derived.Test.YticmkepocacmhaaRr
import Derived.Test.YticmkepocacmhaaLc10
namespace Go.Proofs.Yticmkepocacmhaa
open Go Go.RowKit

theorem byt_any (c : Cf) (w : World) : Calls Try.prog 22 #[.agg (cfA c)] w fun e w' => e = .returned (.string (bs (bytesL c))) ∧ Below w.heap.size w w' := by
  unfold bytesL
  by_cases h : CfOk c
  · rw [if_pos h]; exact byt_yes h w
  · rw [if_neg h]; exact byt_no h w
theorem rbyt_any (c : Cf) (w : World) : Calls Try.prog 23 #[.agg (cfA c)] w fun e w' => e = .returned (.string (bs (bytesL c))) ∧ Below w.heap.size w w' := by
  unfold bytesL
  by_cases h : CfOk c
  · rw [if_pos h]; exact rbyt_yes h w
  · rw [if_neg h]; exact rbyt_no h w
theorem gd_str (b : BinOp) (t : TypeId) (x y : Operand) (s u : ByteArray) (w : World) : (eqGuard b t x y (.string s) (.string u)).run Try.prog w = .ok () w := by
  cases b <;> simp [eqGuard]
theorem cfA_szs (x y : Cf) : (cfA x).size = (cfA y).size := by rw [show (cfA x).size = 9 from rfl, show (cfA y).size = 9 from rfl]
theorem str_eql9 (x : ByteArray) (w : World) : (binOp .eql 9 (.string x) (.string x)).run Try.prog w = .ok (.bool true) w := by
  go_simp
set_option maxHeartbeats 4000000 in
set_option maxRecDepth 100000 in
theorem tell10_long {c : Cf} {t : Int} {l : List UInt8} (hl : 1000 < l.length) (w : World) : Calls Try.prog 3 #[.agg (cfA c), .int .i64 t, .string (bs l)] w fun e w' => e = .returned (.bool true) ∧ Below w.heap.size w w' := by
  have hz := bs_size l
  have d1 : decide (1000 < l.length) = true := by simp; omega
  have d2 : decide ((1000 : Int) < l.length) = true := by simp; omega
  have HB := Lib.hid (Below.refl w.heap.size w)
  go_enter Try.func3, Try.ntmps3
  go_wp2_with (first
      | ((with_reducible refine at_slot 3 ?_); refine wl_box (A := (cfA c)) rfl rfl rfl ?_; intro W1 g1 k1 hb hle; have L1 := Lib.hid (Nat.le_trans HB.out.size hle); replace HB := Lib.hid (below_tr HB.out hb); clear hb hle)
      | ((with_reducible refine at_slot 18 ?_); refine wl_call rfl rfl Try.func7 (by kernel_rfl) rfl (lives10_any _) rfl ?_; intro V1 hb; replace k1 := k1.keep hb; replace HB := Lib.hid (below_tr HB.out hb); clear hb))
  go_ret
  exact ⟨rfl, HB.out⟩
set_option maxHeartbeats 4000000 in
set_option maxRecDepth 100000 in
theorem tell10_in {c : Cf} {t : Int} {l : List UInt8} (hl : ¬ 1000 < l.length) (w : World) : Calls Try.prog 3 #[.agg (cfA c), .int .i64 t, .string (bs l)] w fun e w' => e = .returned (.bool true) ∧ Below w.heap.size w w' := by
  have hz := bs_size l
  have d1 : decide (1000 < l.length) = false := by simp; omega
  have d2 : decide ((1000 : Int) < l.length) = false := by simp; omega
  have hl2 : l.length ≤ 140737488355328 := by omega
  have PCK := Lib.hid (fun w1 => cck_any c w1)
  have RCK := Lib.hid (fun w1 => rcka_any c w1)
  have PFA := Lib.hid (fun w1 => fac_any c t w1)
  have RFA := Lib.hid (fun w1 => rfac_any c t w1)
  have PIN := Lib.hid (fun w1 => ind_any c w1)
  have RIN := Lib.hid (fun w1 => rind_any c w1)
  have PHO := Lib.hid (fun w1 => hom_any c w1)
  have RHO := Lib.hid (fun w1 => rhom_any c w1)
  have PPL := Lib.hid (fun w1 => plc_any c w1)
  have RPL := Lib.hid (fun w1 => rplc_any c w1)
  have PSZ := Lib.hid (fun w1 => siz_any c w1)
  have RSZ := Lib.hid (fun w1 => rsiz_any c w1)
  have PBY := Lib.hid (fun w1 => byt_any c w1)
  have RBY := Lib.hid (fun w1 => rbyt_any c w1)
  have PRD := Lib.hid (fun w1 => read_any hl2 w1)
  have RRD := Lib.hid (fun w1 => rread_any hl2 w1)
  have PRE := Lib.hid (fun w1 => ret_any c w1)
  have RRE := Lib.hid (fun w1 => rret_any c w1)
  generalize ckI c = ck at *
  generalize facI c t = fa at *
  generalize indI c = ix at *
  generalize homI c = ho at *
  generalize plcI c = pl at *
  generalize szI c = Z at *
  generalize szE c = ZE at *
  generalize bs (bytesL c) = X at *
  generalize readC l = cr at *
  generalize readE l = ce at *
  generalize retI c = tr at *
  clear hl2
  have HB := Lib.hid (Below.refl w.heap.size w)
  go_enter Try.func3, Try.ntmps3
  go_wp2_with (first
      | ((with_reducible refine at_slot 3 ?_); refine wl_box (A := (cfA c)) rfl rfl rfl ?_; intro W1 g1 k1 hb hle; have L1 := Lib.hid (Nat.le_trans HB.out.size hle); replace HB := Lib.hid (below_tr HB.out hb); clear hb hle)
      | ((with_reducible refine at_slot 20 ?_); refine wl_ld0 rfl rfl rfl k1 Try.underlying25 rfl cfInfo ?_)
      | ((with_reducible refine at_slot 21 ?_); refine wl_call rfl rfl Try.func8 (by kernel_rfl) rfl (PSZ.out _) rfl ?_; intro V1 hb; replace k1 := k1.keep hb; replace HB := Lib.hid (below_tr HB.out hb); clear hb)
      | ((with_reducible refine at_slot 25 ?_); refine wl_ld0 rfl rfl rfl k1 Try.underlying25 rfl cfInfo ?_)
      | ((with_reducible refine at_slot 26 ?_); refine wl_call rfl rfl Try.func9 (by kernel_rfl) rfl (RSZ.out _) rfl ?_; intro V2 hb; replace k1 := k1.keep hb; replace HB := Lib.hid (below_tr HB.out hb); clear hb)
      | ((with_reducible refine at_slot 31 ?_); refine wl_call rfl rfl Try.func10 (by kernel_rfl) rfl (PRD.out _) rfl ?_; intro V3 hb; replace k1 := k1.keep hb; replace HB := Lib.hid (below_tr HB.out hb); clear hb)
      | ((with_reducible refine at_slot 11 ?_); refine wl_alloc (A := (cfA zeroCf)) rfl rfl cf_zero rfl ?_; intro W2 g2 k2 hb hle; have n1_2 := Lib.hid (Blk.ne_of_le k1 hle); have L2 := Lib.hid (Nat.le_trans HB.out.size hle); replace k1 := k1.keep hb; replace HB := Lib.hid (below_tr HB.out hb); clear hb hle)
      | ((with_reducible refine at_store 11 ?_); refine wl_st0 (A' := (cfA cr)) rfl rfl rfl rfl k2 (cfA_szs _ _) cfInfo (cfA_one cr) ?_; intro V4 kn hu; replace k1 := k1.upd hu n1_2.out; replace HB := Lib.hid (upd_below HB.out hu L2.out); clear k2; have k2 : Blk _ g2 _ (cfA cr) := kn; clear kn hu)
      | ((with_reducible refine at_slot 36 ?_); refine wl_call rfl rfl Try.func11 (by kernel_rfl) rfl (RRD.out _) rfl ?_; intro V5 hb; replace k1 := k1.keep hb; replace k2 := k2.keep hb; replace HB := Lib.hid (below_tr HB.out hb); clear hb)
      | ((with_reducible refine at_slot 13 ?_); refine wl_alloc (A := (cfA zeroCf)) rfl rfl cf_zero rfl ?_; intro W3 g3 k3 hb hle; have n1_3 := Lib.hid (Blk.ne_of_le k1 hle); have n2_3 := Lib.hid (Blk.ne_of_le k2 hle); have L3 := Lib.hid (Nat.le_trans HB.out.size hle); replace k1 := k1.keep hb; replace k2 := k2.keep hb; replace HB := Lib.hid (below_tr HB.out hb); clear hb hle)
      | ((with_reducible refine at_store 13 ?_); refine wl_st0 (A' := (cfA cr)) rfl rfl rfl rfl k3 (cfA_szs _ _) cfInfo (cfA_one cr) ?_; intro V6 kn hu; replace k1 := k1.upd hu n1_3.out; replace k2 := k2.upd hu n2_3.out; replace HB := Lib.hid (upd_below HB.out hu L3.out); clear k3; have k3 : Blk _ g3 _ (cfA cr) := kn; clear kn hu))
  refine wp_region_held_drew (S := fun w' => Blk w' g1 25 (cfA c) ∧ Blk w' g2 25 (cfA cr) ∧ Blk w' g3 25 (cfA cr) ∧ Below w.heap.size w w') (by kernel_rfl) ⟨k1.drew, k2.drew, k3.drew, HB.out.drew⟩ (fun hS => ?_)
  clear k1 k2 k3
  have hS2 := hS
  obtain ⟨k1, k2, k3, hB⟩ := hS2
  replace HB := Lib.hid hB
  clear hB
  refine anyH_call (i := 0) (op := ⟨some 39, _, _, _, _, _⟩) (by kernel_rfl) rfl rfl rfl Try.func7 (by kernel_rfl) rfl (lives10_any _) rfl (fun w' hb => ⟨k1.keep hb, k2.keep hb, k3.keep hb, below_tr HB.out hb⟩) (fun w' hb hS2 => ?_)
  simp only [Act.put, List.setIfInBounds_toArray, List.set_cons_zero, List.set_cons_succ]
  clear hb
  replace hS := hS2
  clear hS2
  clear k1 k2 k3
  have hS2 := hS
  obtain ⟨k1, k2, k3, hB⟩ := hS2
  replace HB := Lib.hid hB
  clear hB
  refine wpAnyH_take (i := 1) (oi := ⟨some 40, _, _, _, _, _⟩) (v := .bool true) rfl (by kernel_rfl) (by kernel_rfl) (by kernel_rfl) (fun _ _ _ h => h) (yi_mv (Or.inl rfl) rfl rfl) hS ?_
  simp only [Act.put, List.setIfInBounds_toArray, List.set_cons_zero, List.set_cons_succ]
  refine wpAnyH_take (i := 2) (oi := ⟨some 41, _, _, _, _, _⟩) (v := .agg (cfA c)) rfl (by kernel_rfl) (by kernel_rfl) (by kernel_rfl) (fun _ _ _ h => h) (yi_ld0 rfl (by kernel_rfl) rfl (fun w' h => h.1) Try.underlying25 rfl cfInfo) hS ?_
  simp only [Act.put, List.setIfInBounds_toArray, List.set_cons_zero, List.set_cons_succ]
  refine wpAnyH_take (i := 4) (oi := ⟨some 43, _, _, _, _, _⟩) (v := .agg (cfA c)) rfl (by kernel_rfl) (by kernel_rfl) (by kernel_rfl) (fun _ _ _ h => h) (yi_ld0 rfl (by kernel_rfl) rfl (fun w' h => h.1) Try.underlying25 rfl cfInfo) hS ?_
  simp only [Act.put, List.setIfInBounds_toArray, List.set_cons_zero, List.set_cons_succ]
  refine anyH_call (i := 3) (op := ⟨some 42, _, _, _, _, _⟩) (by kernel_rfl) rfl rfl (by kernel_rfl) Try.func12 (by kernel_rfl) rfl (PCK.out _) rfl (fun w' hb => ⟨k1.keep hb, k2.keep hb, k3.keep hb, below_tr HB.out hb⟩) (fun w' hb hS2 => ?_)
  simp only [Act.put, List.setIfInBounds_toArray, List.set_cons_zero, List.set_cons_succ]
  clear hb
  replace hS := hS2
  clear hS2
  clear k1 k2 k3
  have hS2 := hS
  obtain ⟨k1, k2, k3, hB⟩ := hS2
  replace HB := Lib.hid hB
  clear hB
  refine anyH_call (i := 5) (op := ⟨some 44, _, _, _, _, _⟩) (by kernel_rfl) rfl rfl (by kernel_rfl) Try.func13 (by kernel_rfl) rfl (RCK.out _) rfl (fun w' hb => ⟨k1.keep hb, k2.keep hb, k3.keep hb, below_tr HB.out hb⟩) (fun w' hb hS2 => ?_)
  simp only [Act.put, List.setIfInBounds_toArray, List.set_cons_zero, List.set_cons_succ]
  clear hb
  replace hS := hS2
  clear hS2
  clear k1 k2 k3
  have hS2 := hS
  obtain ⟨k1, k2, k3, hB⟩ := hS2
  replace HB := Lib.hid hB
  clear hB
  refine wpAnyH_take (i := 6) (oi := ⟨some 45, _, _, _, _, _⟩) (v := .bool true) rfl (by kernel_rfl) (by kernel_rfl) (by kernel_rfl) (fun _ _ _ h => h) (yi_eql rfl (by kernel_rfl) rfl rfl Try.underlying27 (by simp)) hS ?_
  simp only [Act.put, List.setIfInBounds_toArray, List.set_cons_zero, List.set_cons_succ]
  refine wpAnyH_take (i := 7) (oi := ⟨some 46, _, _, _, _, _⟩) (v := .bool true) rfl (by kernel_rfl) (by kernel_rfl) (by kernel_rfl) (fun _ _ _ h => h) (yi_pick1 rfl rfl rfl rfl) hS ?_
  simp only [Act.put, List.setIfInBounds_toArray, List.set_cons_zero, List.set_cons_succ]
  refine wpAnyH_take (i := 8) (oi := ⟨some 47, _, _, _, _, _⟩) (v := .bool true) rfl (by kernel_rfl) (by kernel_rfl) (by kernel_rfl) (fun _ _ _ h => h) (yi_mv (Or.inl rfl) rfl rfl) hS ?_
  simp only [Act.put, List.setIfInBounds_toArray, List.set_cons_zero, List.set_cons_succ]
  refine wpAnyH_take (i := 9) (oi := ⟨some 48, _, _, _, _, _⟩) (v := .agg (cfA c)) rfl (by kernel_rfl) (by kernel_rfl) (by kernel_rfl) (fun _ _ _ h => h) (yi_ld0 rfl (by kernel_rfl) rfl (fun w' h => h.1) Try.underlying25 rfl cfInfo) hS ?_
  simp only [Act.put, List.setIfInBounds_toArray, List.set_cons_zero, List.set_cons_succ]
  refine wpAnyH_take (i := 10) (oi := ⟨some 49, _, _, _, _, _⟩) (v := .int .i64 t) rfl (by kernel_rfl) (by kernel_rfl) (by kernel_rfl) (fun _ _ _ h => h) (yi_mv (Or.inl rfl) (by kernel_rfl) rfl) hS ?_
  simp only [Act.put, List.setIfInBounds_toArray, List.set_cons_zero, List.set_cons_succ]
  refine wpAnyH_take (i := 12) (oi := ⟨some 51, _, _, _, _, _⟩) (v := .agg (cfA c)) rfl (by kernel_rfl) (by kernel_rfl) (by kernel_rfl) (fun _ _ _ h => h) (yi_ld0 rfl (by kernel_rfl) rfl (fun w' h => h.1) Try.underlying25 rfl cfInfo) hS ?_
  simp only [Act.put, List.setIfInBounds_toArray, List.set_cons_zero, List.set_cons_succ]
  refine wpAnyH_take (i := 13) (oi := ⟨some 52, _, _, _, _, _⟩) (v := .int .i64 t) rfl (by kernel_rfl) (by kernel_rfl) (by kernel_rfl) (fun _ _ _ h => h) (yi_mv (Or.inl rfl) (by kernel_rfl) rfl) hS ?_
  simp only [Act.put, List.setIfInBounds_toArray, List.set_cons_zero, List.set_cons_succ]
  refine anyH_call (i := 11) (op := ⟨some 50, _, _, _, _, _⟩) (by kernel_rfl) rfl rfl (by kernel_rfl) Try.func14 (by kernel_rfl) rfl (PFA.out _) rfl (fun w' hb => ⟨k1.keep hb, k2.keep hb, k3.keep hb, below_tr HB.out hb⟩) (fun w' hb hS2 => ?_)
  simp only [Act.put, List.setIfInBounds_toArray, List.set_cons_zero, List.set_cons_succ]
  clear hb
  replace hS := hS2
  clear hS2
  clear k1 k2 k3
  have hS2 := hS
  obtain ⟨k1, k2, k3, hB⟩ := hS2
  replace HB := Lib.hid hB
  clear hB
  refine anyH_call (i := 14) (op := ⟨some 53, _, _, _, _, _⟩) (by kernel_rfl) rfl rfl (by kernel_rfl) Try.func15 (by kernel_rfl) rfl (RFA.out _) rfl (fun w' hb => ⟨k1.keep hb, k2.keep hb, k3.keep hb, below_tr HB.out hb⟩) (fun w' hb hS2 => ?_)
  simp only [Act.put, List.setIfInBounds_toArray, List.set_cons_zero, List.set_cons_succ]
  clear hb
  replace hS := hS2
  clear hS2
  clear k1 k2 k3
  have hS2 := hS
  obtain ⟨k1, k2, k3, hB⟩ := hS2
  replace HB := Lib.hid hB
  clear hB
  refine wpAnyH_take (i := 15) (oi := ⟨some 54, _, _, _, _, _⟩) (v := .bool true) rfl (by kernel_rfl) (by kernel_rfl) (by kernel_rfl) (fun _ _ _ h => h) (yi_eql rfl (by kernel_rfl) rfl rfl Try.underlying2 (by simp)) hS ?_
  simp only [Act.put, List.setIfInBounds_toArray, List.set_cons_zero, List.set_cons_succ]
  refine wpAnyH_take (i := 16) (oi := ⟨some 55, _, _, _, _, _⟩) (v := .bool true) rfl (by kernel_rfl) (by kernel_rfl) (by kernel_rfl) (fun _ _ _ h => h) (yi_pick1 rfl rfl rfl rfl) hS ?_
  simp only [Act.put, List.setIfInBounds_toArray, List.set_cons_zero, List.set_cons_succ]
  refine wpAnyH_take (i := 17) (oi := ⟨some 56, _, _, _, _, _⟩) (v := .bool true) rfl (by kernel_rfl) (by kernel_rfl) (by kernel_rfl) (fun _ _ _ h => h) (yi_mv (Or.inl rfl) rfl rfl) hS ?_
  simp only [Act.put, List.setIfInBounds_toArray, List.set_cons_zero, List.set_cons_succ]
  refine wpAnyH_take (i := 18) (oi := ⟨some 57, _, _, _, _, _⟩) (v := .agg (cfA c)) rfl (by kernel_rfl) (by kernel_rfl) (by kernel_rfl) (fun _ _ _ h => h) (yi_ld0 rfl (by kernel_rfl) rfl (fun w' h => h.1) Try.underlying25 rfl cfInfo) hS ?_
  simp only [Act.put, List.setIfInBounds_toArray, List.set_cons_zero, List.set_cons_succ]
  refine wpAnyH_take (i := 20) (oi := ⟨some 59, _, _, _, _, _⟩) (v := .agg (cfA c)) rfl (by kernel_rfl) (by kernel_rfl) (by kernel_rfl) (fun _ _ _ h => h) (yi_ld0 rfl (by kernel_rfl) rfl (fun w' h => h.1) Try.underlying25 rfl cfInfo) hS ?_
  simp only [Act.put, List.setIfInBounds_toArray, List.set_cons_zero, List.set_cons_succ]
  refine anyH_call (i := 19) (op := ⟨some 58, _, _, _, _, _⟩) (by kernel_rfl) rfl rfl (by kernel_rfl) Try.func16 (by kernel_rfl) rfl (PIN.out _) rfl (fun w' hb => ⟨k1.keep hb, k2.keep hb, k3.keep hb, below_tr HB.out hb⟩) (fun w' hb hS2 => ?_)
  simp only [Act.put, List.setIfInBounds_toArray, List.set_cons_zero, List.set_cons_succ]
  clear hb
  replace hS := hS2
  clear hS2
  clear k1 k2 k3
  have hS2 := hS
  obtain ⟨k1, k2, k3, hB⟩ := hS2
  replace HB := Lib.hid hB
  clear hB
  refine anyH_call (i := 21) (op := ⟨some 60, _, _, _, _, _⟩) (by kernel_rfl) rfl rfl (by kernel_rfl) Try.func17 (by kernel_rfl) rfl (RIN.out _) rfl (fun w' hb => ⟨k1.keep hb, k2.keep hb, k3.keep hb, below_tr HB.out hb⟩) (fun w' hb hS2 => ?_)
  simp only [Act.put, List.setIfInBounds_toArray, List.set_cons_zero, List.set_cons_succ]
  clear hb
  replace hS := hS2
  clear hS2
  clear k1 k2 k3
  have hS2 := hS
  obtain ⟨k1, k2, k3, hB⟩ := hS2
  replace HB := Lib.hid hB
  clear hB
  refine wpAnyH_take (i := 22) (oi := ⟨some 61, _, _, _, _, _⟩) (v := .bool true) rfl (by kernel_rfl) (by kernel_rfl) (by kernel_rfl) (fun _ _ _ h => h) (yi_eql rfl (by kernel_rfl) rfl rfl Try.underlying3 (by simp)) hS ?_
  simp only [Act.put, List.setIfInBounds_toArray, List.set_cons_zero, List.set_cons_succ]
  refine wpAnyH_take (i := 23) (oi := ⟨some 62, _, _, _, _, _⟩) (v := .bool true) rfl (by kernel_rfl) (by kernel_rfl) (by kernel_rfl) (fun _ _ _ h => h) (yi_pick1 rfl rfl rfl rfl) hS ?_
  simp only [Act.put, List.setIfInBounds_toArray, List.set_cons_zero, List.set_cons_succ]
  refine wpAnyH_take (i := 24) (oi := ⟨some 63, _, _, _, _, _⟩) (v := .bool true) rfl (by kernel_rfl) (by kernel_rfl) (by kernel_rfl) (fun _ _ _ h => h) (yi_mv (Or.inl rfl) rfl rfl) hS ?_
  simp only [Act.put, List.setIfInBounds_toArray, List.set_cons_zero, List.set_cons_succ]
  refine wpAnyH_take (i := 25) (oi := ⟨some 64, _, _, _, _, _⟩) (v := .agg (cfA c)) rfl (by kernel_rfl) (by kernel_rfl) (by kernel_rfl) (fun _ _ _ h => h) (yi_ld0 rfl (by kernel_rfl) rfl (fun w' h => h.1) Try.underlying25 rfl cfInfo) hS ?_
  simp only [Act.put, List.setIfInBounds_toArray, List.set_cons_zero, List.set_cons_succ]
  refine wpAnyH_take (i := 27) (oi := ⟨some 66, _, _, _, _, _⟩) (v := .agg (cfA c)) rfl (by kernel_rfl) (by kernel_rfl) (by kernel_rfl) (fun _ _ _ h => h) (yi_ld0 rfl (by kernel_rfl) rfl (fun w' h => h.1) Try.underlying25 rfl cfInfo) hS ?_
  simp only [Act.put, List.setIfInBounds_toArray, List.set_cons_zero, List.set_cons_succ]
  refine anyH_call (i := 26) (op := ⟨some 65, _, _, _, _, _⟩) (by kernel_rfl) rfl rfl (by kernel_rfl) Try.func18 (by kernel_rfl) rfl (PHO.out _) rfl (fun w' hb => ⟨k1.keep hb, k2.keep hb, k3.keep hb, below_tr HB.out hb⟩) (fun w' hb hS2 => ?_)
  simp only [Act.put, List.setIfInBounds_toArray, List.set_cons_zero, List.set_cons_succ]
  clear hb
  replace hS := hS2
  clear hS2
  clear k1 k2 k3
  have hS2 := hS
  obtain ⟨k1, k2, k3, hB⟩ := hS2
  replace HB := Lib.hid hB
  clear hB
  refine anyH_call (i := 28) (op := ⟨some 67, _, _, _, _, _⟩) (by kernel_rfl) rfl rfl (by kernel_rfl) Try.func19 (by kernel_rfl) rfl (RHO.out _) rfl (fun w' hb => ⟨k1.keep hb, k2.keep hb, k3.keep hb, below_tr HB.out hb⟩) (fun w' hb hS2 => ?_)
  simp only [Act.put, List.setIfInBounds_toArray, List.set_cons_zero, List.set_cons_succ]
  clear hb
  replace hS := hS2
  clear hS2
  clear k1 k2 k3
  have hS2 := hS
  obtain ⟨k1, k2, k3, hB⟩ := hS2
  replace HB := Lib.hid hB
  clear hB
  refine wpAnyH_take (i := 29) (oi := ⟨some 68, _, _, _, _, _⟩) (v := .bool true) rfl (by kernel_rfl) (by kernel_rfl) (by kernel_rfl) (fun _ _ _ h => h) (yi_eql rfl (by kernel_rfl) rfl rfl Try.underlying3 (by simp)) hS ?_
  simp only [Act.put, List.setIfInBounds_toArray, List.set_cons_zero, List.set_cons_succ]
  refine wpAnyH_take (i := 30) (oi := ⟨some 69, _, _, _, _, _⟩) (v := .bool true) rfl (by kernel_rfl) (by kernel_rfl) (by kernel_rfl) (fun _ _ _ h => h) (yi_pick1 rfl rfl rfl rfl) hS ?_
  simp only [Act.put, List.setIfInBounds_toArray, List.set_cons_zero, List.set_cons_succ]
  refine wpAnyH_take (i := 31) (oi := ⟨some 70, _, _, _, _, _⟩) (v := .bool true) rfl (by kernel_rfl) (by kernel_rfl) (by kernel_rfl) (fun _ _ _ h => h) (yi_mv (Or.inl rfl) rfl rfl) hS ?_
  simp only [Act.put, List.setIfInBounds_toArray, List.set_cons_zero, List.set_cons_succ]
  refine wpAnyH_take (i := 32) (oi := ⟨some 71, _, _, _, _, _⟩) (v := .agg (cfA c)) rfl (by kernel_rfl) (by kernel_rfl) (by kernel_rfl) (fun _ _ _ h => h) (yi_ld0 rfl (by kernel_rfl) rfl (fun w' h => h.1) Try.underlying25 rfl cfInfo) hS ?_
  simp only [Act.put, List.setIfInBounds_toArray, List.set_cons_zero, List.set_cons_succ]
  refine wpAnyH_take (i := 34) (oi := ⟨some 73, _, _, _, _, _⟩) (v := .agg (cfA c)) rfl (by kernel_rfl) (by kernel_rfl) (by kernel_rfl) (fun _ _ _ h => h) (yi_ld0 rfl (by kernel_rfl) rfl (fun w' h => h.1) Try.underlying25 rfl cfInfo) hS ?_
  simp only [Act.put, List.setIfInBounds_toArray, List.set_cons_zero, List.set_cons_succ]
  refine anyH_call (i := 33) (op := ⟨some 72, _, _, _, _, _⟩) (by kernel_rfl) rfl rfl (by kernel_rfl) Try.func20 (by kernel_rfl) rfl (PPL.out _) rfl (fun w' hb => ⟨k1.keep hb, k2.keep hb, k3.keep hb, below_tr HB.out hb⟩) (fun w' hb hS2 => ?_)
  simp only [Act.put, List.setIfInBounds_toArray, List.set_cons_zero, List.set_cons_succ]
  clear hb
  replace hS := hS2
  clear hS2
  clear k1 k2 k3
  have hS2 := hS
  obtain ⟨k1, k2, k3, hB⟩ := hS2
  replace HB := Lib.hid hB
  clear hB
  refine anyH_call (i := 35) (op := ⟨some 74, _, _, _, _, _⟩) (by kernel_rfl) rfl rfl (by kernel_rfl) Try.func21 (by kernel_rfl) rfl (RPL.out _) rfl (fun w' hb => ⟨k1.keep hb, k2.keep hb, k3.keep hb, below_tr HB.out hb⟩) (fun w' hb hS2 => ?_)
  simp only [Act.put, List.setIfInBounds_toArray, List.set_cons_zero, List.set_cons_succ]
  clear hb
  replace hS := hS2
  clear hS2
  clear k1 k2 k3
  have hS2 := hS
  obtain ⟨k1, k2, k3, hB⟩ := hS2
  replace HB := Lib.hid hB
  clear hB
  refine wpAnyH_take (i := 36) (oi := ⟨some 75, _, _, _, _, _⟩) (v := .bool true) rfl (by kernel_rfl) (by kernel_rfl) (by kernel_rfl) (fun _ _ _ h => h) (yi_eql rfl (by kernel_rfl) rfl rfl Try.underlying3 (by simp)) hS ?_
  simp only [Act.put, List.setIfInBounds_toArray, List.set_cons_zero, List.set_cons_succ]
  refine wpAnyH_take (i := 37) (oi := ⟨some 76, _, _, _, _, _⟩) (v := .bool true) rfl (by kernel_rfl) (by kernel_rfl) (by kernel_rfl) (fun _ _ _ h => h) (yi_pick1 rfl rfl rfl rfl) hS ?_
  simp only [Act.put, List.setIfInBounds_toArray, List.set_cons_zero, List.set_cons_succ]
  refine wpAnyH_take (i := 38) (oi := ⟨some 77, _, _, _, _, _⟩) (v := .bool true) rfl (by kernel_rfl) (by kernel_rfl) (by kernel_rfl) (fun _ _ _ h => h) (yi_mv (Or.inl rfl) rfl rfl) hS ?_
  simp only [Act.put, List.setIfInBounds_toArray, List.set_cons_zero, List.set_cons_succ]
  refine wpAnyH_take (i := 39) (oi := ⟨some 78, _, _, _, _, _⟩) (v := .int .i64 Z) rfl (by kernel_rfl) (by kernel_rfl) (by kernel_rfl) (fun _ _ _ h => h) (yi_mv (Or.inl rfl) (by kernel_rfl) rfl) hS ?_
  simp only [Act.put, List.setIfInBounds_toArray, List.set_cons_zero, List.set_cons_succ]
  refine wpAnyH_take (i := 40) (oi := ⟨some 79, _, _, _, _, _⟩) (v := .int .i64 Z) rfl (by kernel_rfl) (by kernel_rfl) (by kernel_rfl) (fun _ _ _ h => h) (yi_mv (Or.inl rfl) (by kernel_rfl) rfl) hS ?_
  simp only [Act.put, List.setIfInBounds_toArray, List.set_cons_zero, List.set_cons_succ]
  refine wpAnyH_take (i := 41) (oi := ⟨some 80, _, _, _, _, _⟩) (v := .bool true) rfl (by kernel_rfl) (by kernel_rfl) (by kernel_rfl) (fun _ _ _ h => h) (yi_eql rfl (by kernel_rfl) rfl rfl Try.underlying3 (by simp)) hS ?_
  simp only [Act.put, List.setIfInBounds_toArray, List.set_cons_zero, List.set_cons_succ]
  refine wpAnyH_take (i := 42) (oi := ⟨some 81, _, _, _, _, _⟩) (v := .bool true) rfl (by kernel_rfl) (by kernel_rfl) (by kernel_rfl) (fun _ _ _ h => h) (yi_pick1 rfl rfl rfl rfl) hS ?_
  simp only [Act.put, List.setIfInBounds_toArray, List.set_cons_zero, List.set_cons_succ]
  refine wpAnyH_take (i := 43) (oi := ⟨some 82, _, _, _, _, _⟩) (v := .bool true) rfl (by kernel_rfl) (by kernel_rfl) (by kernel_rfl) (fun _ _ _ h => h) (yi_mv (Or.inl rfl) rfl rfl) hS ?_
  simp only [Act.put, List.setIfInBounds_toArray, List.set_cons_zero, List.set_cons_succ]
  refine wpAnyH_take (i := 44) (oi := ⟨some 83, _, _, _, _, _⟩) (v := .int .i64 ZE) rfl (by kernel_rfl) (by kernel_rfl) (by kernel_rfl) (fun _ _ _ h => h) (yi_mv (Or.inl rfl) (by kernel_rfl) rfl) hS ?_
  simp only [Act.put, List.setIfInBounds_toArray, List.set_cons_zero, List.set_cons_succ]
  refine wpAnyH_take (i := 45) (oi := ⟨some 84, _, _, _, _, _⟩) (v := .int .i64 ZE) rfl (by kernel_rfl) (by kernel_rfl) (by kernel_rfl) (fun _ _ _ h => h) (yi_mv (Or.inl rfl) (by kernel_rfl) rfl) hS ?_
  simp only [Act.put, List.setIfInBounds_toArray, List.set_cons_zero, List.set_cons_succ]
  refine wpAnyH_take (i := 46) (oi := ⟨some 85, _, _, _, _, _⟩) (v := .bool true) rfl (by kernel_rfl) (by kernel_rfl) (by kernel_rfl) (fun _ _ _ h => h) (yi_eql rfl (by kernel_rfl) rfl rfl Try.underlying27 (by simp)) hS ?_
  simp only [Act.put, List.setIfInBounds_toArray, List.set_cons_zero, List.set_cons_succ]
  refine wpAnyH_take (i := 47) (oi := ⟨some 86, _, _, _, _, _⟩) (v := .bool true) rfl (by kernel_rfl) (by kernel_rfl) (by kernel_rfl) (fun _ _ _ h => h) (yi_pick1 rfl rfl rfl rfl) hS ?_
  simp only [Act.put, List.setIfInBounds_toArray, List.set_cons_zero, List.set_cons_succ]
  refine wpAnyH_take (i := 48) (oi := ⟨some 87, _, _, _, _, _⟩) (v := .bool true) rfl (by kernel_rfl) (by kernel_rfl) (by kernel_rfl) (fun _ _ _ h => h) (yi_mv (Or.inl rfl) rfl rfl) hS ?_
  simp only [Act.put, List.setIfInBounds_toArray, List.set_cons_zero, List.set_cons_succ]
  refine wpAnyH_take (i := 49) (oi := ⟨some 88, _, _, _, _, _⟩) (v := .agg (cfA c)) rfl (by kernel_rfl) (by kernel_rfl) (by kernel_rfl) (fun _ _ _ h => h) (yi_ld0 rfl (by kernel_rfl) rfl (fun w' h => h.1) Try.underlying25 rfl cfInfo) hS ?_
  simp only [Act.put, List.setIfInBounds_toArray, List.set_cons_zero, List.set_cons_succ]
  refine wpAnyH_take (i := 51) (oi := ⟨some 90, _, _, _, _, _⟩) (v := .agg (cfA c)) rfl (by kernel_rfl) (by kernel_rfl) (by kernel_rfl) (fun _ _ _ h => h) (yi_ld0 rfl (by kernel_rfl) rfl (fun w' h => h.1) Try.underlying25 rfl cfInfo) hS ?_
  simp only [Act.put, List.setIfInBounds_toArray, List.set_cons_zero, List.set_cons_succ]
  refine anyH_call (i := 50) (op := ⟨some 89, _, _, _, _, _⟩) (by kernel_rfl) rfl rfl (by kernel_rfl) Try.func22 (by kernel_rfl) rfl (PBY.out _) rfl (fun w' hb => ⟨k1.keep hb, k2.keep hb, k3.keep hb, below_tr HB.out hb⟩) (fun w' hb hS2 => ?_)
  simp only [Act.put, List.setIfInBounds_toArray, List.set_cons_zero, List.set_cons_succ]
  clear hb
  replace hS := hS2
  clear hS2
  clear k1 k2 k3
  have hS2 := hS
  obtain ⟨k1, k2, k3, hB⟩ := hS2
  replace HB := Lib.hid hB
  clear hB
  refine anyH_call (i := 52) (op := ⟨some 91, _, _, _, _, _⟩) (by kernel_rfl) rfl rfl (by kernel_rfl) Try.func23 (by kernel_rfl) rfl (RBY.out _) rfl (fun w' hb => ⟨k1.keep hb, k2.keep hb, k3.keep hb, below_tr HB.out hb⟩) (fun w' hb hS2 => ?_)
  simp only [Act.put, List.setIfInBounds_toArray, List.set_cons_zero, List.set_cons_succ]
  clear hb
  replace hS := hS2
  clear hS2
  clear k1 k2 k3
  have hS2 := hS
  obtain ⟨k1, k2, k3, hB⟩ := hS2
  replace HB := Lib.hid hB
  clear hB
  refine wpAnyH_take (i := 53) (oi := ⟨some 92, _, _, _, _, _⟩) (v := .bool true) rfl (by kernel_rfl) (by kernel_rfl) (by kernel_rfl) (fun _ _ _ h => h) (yi_ok (by kernel_rfl) (fun _ => by go_simp)) hS ?_
  simp only [Act.put, List.setIfInBounds_toArray, List.set_cons_zero, List.set_cons_succ]
  refine wpAnyH_take (i := 54) (oi := ⟨some 93, _, _, _, _, _⟩) (v := .bool true) rfl (by kernel_rfl) (by kernel_rfl) (by kernel_rfl) (fun _ _ _ h => h) (yi_pick1 rfl rfl rfl rfl) hS ?_
  simp only [Act.put, List.setIfInBounds_toArray, List.set_cons_zero, List.set_cons_succ]
  refine wpAnyH_take (i := 55) (oi := ⟨some 94, _, _, _, _, _⟩) (v := .bool true) rfl (by kernel_rfl) (by kernel_rfl) (by kernel_rfl) (fun _ _ _ h => h) (yi_mv (Or.inl rfl) rfl rfl) hS ?_
  simp only [Act.put, List.setIfInBounds_toArray, List.set_cons_zero, List.set_cons_succ]
  refine wpAnyH_take (i := 56) (oi := ⟨some 95, _, _, _, _, _⟩) (v := .agg (cfA cr)) rfl (by kernel_rfl) (by kernel_rfl) (by kernel_rfl) (fun _ _ _ h => h) (yi_ld0 rfl (by kernel_rfl) rfl (fun w' h => h.2.1) Try.underlying25 rfl cfInfo) hS ?_
  simp only [Act.put, List.setIfInBounds_toArray, List.set_cons_zero, List.set_cons_succ]
  refine wpAnyH_take (i := 57) (oi := ⟨some 96, _, _, _, _, _⟩) (v := .agg (cfA cr)) rfl (by kernel_rfl) (by kernel_rfl) (by kernel_rfl) (fun _ _ _ h => h) (yi_ld0 rfl (by kernel_rfl) rfl (fun w' h => h.2.2.1) Try.underlying25 rfl cfInfo) hS ?_
  simp only [Act.put, List.setIfInBounds_toArray, List.set_cons_zero, List.set_cons_succ]
  refine wpAnyH_take (i := 58) (oi := ⟨some 97, _, _, _, _, _⟩) (v := .bool true) rfl (by kernel_rfl) (by kernel_rfl) (by kernel_rfl) (fun _ _ _ h => h) (yi_bin rfl (by kernel_rfl) (fun _ => run_eqGuard_agg _ _ _ _ _ _ _ (by kernel_rfl)) (fun w => cf_eql rfl w)) hS ?_
  simp only [Act.put, List.setIfInBounds_toArray, List.set_cons_zero, List.set_cons_succ]
  refine wpAnyH_take (i := 59) (oi := ⟨some 98, _, _, _, _, _⟩) (v := .bool true) rfl (by kernel_rfl) (by kernel_rfl) (by kernel_rfl) (fun _ _ _ h => h) (yi_pick1 rfl rfl rfl rfl) hS ?_
  simp only [Act.put, List.setIfInBounds_toArray, List.set_cons_zero, List.set_cons_succ]
  refine wpAnyH_take (i := 60) (oi := ⟨some 99, _, _, _, _, _⟩) (v := .bool true) rfl (by kernel_rfl) (by kernel_rfl) (by kernel_rfl) (fun _ _ _ h => h) (yi_mv (Or.inl rfl) rfl rfl) hS ?_
  simp only [Act.put, List.setIfInBounds_toArray, List.set_cons_zero, List.set_cons_succ]
  refine wpAnyH_take (i := 61) (oi := ⟨some 100, _, _, _, _, _⟩) (v := .int .i64 ce) rfl (by kernel_rfl) (by kernel_rfl) (by kernel_rfl) (fun _ _ _ h => h) (yi_mv (Or.inl rfl) (by kernel_rfl) rfl) hS ?_
  simp only [Act.put, List.setIfInBounds_toArray, List.set_cons_zero, List.set_cons_succ]
  refine wpAnyH_take (i := 62) (oi := ⟨some 101, _, _, _, _, _⟩) (v := .int .i64 ce) rfl (by kernel_rfl) (by kernel_rfl) (by kernel_rfl) (fun _ _ _ h => h) (yi_mv (Or.inl rfl) (by kernel_rfl) rfl) hS ?_
  simp only [Act.put, List.setIfInBounds_toArray, List.set_cons_zero, List.set_cons_succ]
  refine wpAnyH_take (i := 63) (oi := ⟨some 102, _, _, _, _, _⟩) (v := .bool true) rfl (by kernel_rfl) (by kernel_rfl) (by kernel_rfl) (fun _ _ _ h => h) (yi_eql rfl (by kernel_rfl) rfl rfl Try.underlying27 (by simp)) hS ?_
  simp only [Act.put, List.setIfInBounds_toArray, List.set_cons_zero, List.set_cons_succ]
  refine wpAnyH_take (i := 64) (oi := ⟨some 103, _, _, _, _, _⟩) (v := .bool true) rfl (by kernel_rfl) (by kernel_rfl) (by kernel_rfl) (fun _ _ _ h => h) (yi_pick1 rfl rfl rfl rfl) hS ?_
  simp only [Act.put, List.setIfInBounds_toArray, List.set_cons_zero, List.set_cons_succ]
  refine wpAnyH_take (i := 65) (oi := ⟨some 104, _, _, _, _, _⟩) (v := .bool true) rfl (by kernel_rfl) (by kernel_rfl) (by kernel_rfl) (fun _ _ _ h => h) (yi_mv (Or.inl rfl) rfl rfl) hS ?_
  simp only [Act.put, List.setIfInBounds_toArray, List.set_cons_zero, List.set_cons_succ]
  refine wpAnyH_take (i := 66) (oi := ⟨some 105, _, _, _, _, _⟩) (v := .agg (cfA c)) rfl (by kernel_rfl) (by kernel_rfl) (by kernel_rfl) (fun _ _ _ h => h) (yi_ld0 rfl (by kernel_rfl) rfl (fun w' h => h.1) Try.underlying25 rfl cfInfo) hS ?_
  simp only [Act.put, List.setIfInBounds_toArray, List.set_cons_zero, List.set_cons_succ]
  refine wpAnyH_take (i := 68) (oi := ⟨some 107, _, _, _, _, _⟩) (v := .agg (cfA c)) rfl (by kernel_rfl) (by kernel_rfl) (by kernel_rfl) (fun _ _ _ h => h) (yi_ld0 rfl (by kernel_rfl) rfl (fun w' h => h.1) Try.underlying25 rfl cfInfo) hS ?_
  simp only [Act.put, List.setIfInBounds_toArray, List.set_cons_zero, List.set_cons_succ]
  refine anyH_call (i := 67) (op := ⟨some 106, _, _, _, _, _⟩) (by kernel_rfl) rfl rfl (by kernel_rfl) Try.func24 (by kernel_rfl) rfl (PRE.out _) rfl (fun w' hb => ⟨k1.keep hb, k2.keep hb, k3.keep hb, below_tr HB.out hb⟩) (fun w' hb hS2 => ?_)
  simp only [Act.put, List.setIfInBounds_toArray, List.set_cons_zero, List.set_cons_succ]
  clear hb
  replace hS := hS2
  clear hS2
  clear k1 k2 k3
  have hS2 := hS
  obtain ⟨k1, k2, k3, hB⟩ := hS2
  replace HB := Lib.hid hB
  clear hB
  refine anyH_call (i := 69) (op := ⟨some 108, _, _, _, _, _⟩) (by kernel_rfl) rfl rfl (by kernel_rfl) Try.func25 (by kernel_rfl) rfl (RRE.out _) rfl (fun w' hb => ⟨k1.keep hb, k2.keep hb, k3.keep hb, below_tr HB.out hb⟩) (fun w' hb hS2 => ?_)
  simp only [Act.put, List.setIfInBounds_toArray, List.set_cons_zero, List.set_cons_succ]
  clear hb
  replace hS := hS2
  clear hS2
  clear k1 k2 k3
  have hS2 := hS
  obtain ⟨k1, k2, k3, hB⟩ := hS2
  replace HB := Lib.hid hB
  clear hB
  refine wpAnyH_take (i := 70) (oi := ⟨some 109, _, _, _, _, _⟩) (v := .bool true) rfl (by kernel_rfl) (by kernel_rfl) (by kernel_rfl) (fun _ _ _ h => h) (yi_eql rfl (by kernel_rfl) rfl rfl Try.underlying2 (by simp)) hS ?_
  simp only [Act.put, List.setIfInBounds_toArray, List.set_cons_zero, List.set_cons_succ]
  refine wpAnyH_take (i := 71) (oi := ⟨some 110, _, _, _, _, _⟩) (v := .bool true) rfl (by kernel_rfl) (by kernel_rfl) (by kernel_rfl) (fun _ _ _ h => h) (yi_pick1 rfl rfl rfl rfl) hS ?_
  simp only [Act.put, List.setIfInBounds_toArray, List.set_cons_zero, List.set_cons_succ]
  refine wpAnyH_take (i := 72) (oi := ⟨some 6, _, _, _, _, _⟩) (v := .bool true) rfl (by kernel_rfl) (by kernel_rfl) (by kernel_rfl) (fun _ _ _ h => h) (yi_mv (Or.inr rfl) rfl rfl) hS ?_
  simp only [Act.put, List.setIfInBounds_toArray, List.set_cons_zero, List.set_cons_succ]
  refine wpAnyH_done (by kernel_rfl) ?_ _
  clear hS
  go_wp2_with fail
  go_ret
  exact ⟨rfl, HB.out⟩
theorem tell10_any (c : Cf) (t : Int) (l : List UInt8) (w : World) : Calls Try.prog 3 #[.agg (cfA c), .int .i64 t, .string (bs l)] w fun e w' => e = .returned (.bool true) ∧ Below w.heap.size w w' := by
  by_cases hl : 1000 < l.length
  · exact tell10_long hl w
  · exact tell10_in hl w
end Go.Proofs.Yticmkepocacmhaa
