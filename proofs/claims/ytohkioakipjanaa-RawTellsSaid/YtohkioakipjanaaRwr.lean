/-
  WALKS: lists of events that are one; raw events: begins6, Range.
-/
import Derived.Test.YtohkioakipjanaaRwq
import Derived.Test.YtohkioakipjanaaRgj
namespace Go.Proofs.Ytohkioakipjanaa
open Go Go.RowKit

theorem ev_neq (x : Ev) (w : World) : (binOp .neq 27 (.agg (evA x)) (.agg (evA x))).run Try.prog w = .ok (.bool false) w := by
  unfold evA
  go_simp
set_option maxHeartbeats 4000000 in
set_option maxRecDepth 100000 in
theorem sl_yes (va vb : Value) (xs : List Ev) (hl : xs.length ≤ 1048576) (w : World) (ha : Lst 4 cE w va xs) (hb : Lst 4 cE w vb xs) :
    Calls Try.prog 17 #[va, vb] w fun e w' => e = .returned (.bool true) ∧ Below w.heap.size w w' := by
  obtain ⟨ao, b, off, cap, rfl, h1, h2⟩ := ha.ex
  obtain ⟨ao2, b2, off2, cap2, rfl, h3, h4⟩ := hb.ex
  have H1 := Lib.hid h1
  have H2 := Lib.hid h2
  have H3 := Lib.hid h3
  have H4 := Lib.hid h4
  have HB := Lib.hid (Below.refl w.heap.size w)
  clear ha hb h1 h2 h3 h4
  go_enter Try.func17, Try.ntmps17
  go_wp2_with fail
  go_loopw [13] (fun i wr => ∃ k : Nat, k ≤ xs.length ∧ i = .int .i64 k ∧ Below w.heap.size w wr) (fun i _ => xs.length - (intOf i).toNat)
  case atStart => exact ⟨0, Nat.zero_le _, rfl, HB.out⟩
  case round =>
    clear HB
    obtain ⟨k, hk, rfl, hB⟩ := hrel
    have HB := Lib.hid hB
    clear hB
    by_cases hlt : k < xs.length
    · obtain ⟨rfl, hq1⟩ := H1.out (by omega)
      obtain ⟨rfl, hq2⟩ := H3.out (by omega)
      have hgx : xs[k]? = some xs[k] := List.getElem?_eq_getElem hlt
      have c1 := range_keep (H2.out k _ hgx) (HB.out.block b hq1)
      have c2 := range_keep (H4.out k _ hgx) (HB.out.block b2 hq2)
      generalize xs[k] = x at c1 c2
      have hmx : xs.length ≤ 9223372036854775807 := by omega
      clear hgx
      go_upto_region 6 with fail
      refine wp_region_held_drew (S := fun w' => w'.rangeAt b (off + k * 4) (evA x).toList ∧ w'.rangeAt b2 (off2 + k * 4) (evA x).toList) (by kernel_rfl) ⟨range_keep c1 rfl, range_keep c2 rfl⟩ (fun hS => ?_)
      refine wpAnyH_take (i := 0) (oi := ⟨some 16, _, _, _, _, _⟩) (v := .slice (some ⟨b, off, none⟩) xs.length cap) rfl (by kernel_rfl) (by kernel_rfl) (by kernel_rfl) (fun _ _ _ h => h) (yi_mv (Or.inl rfl) rfl rfl) hS ?_
      simp only [Act.put, List.setIfInBounds_toArray, List.set_cons_zero, List.set_cons_succ]
      refine wpAnyH_take (i := 1) (oi := ⟨some 17, _, _, _, _, _⟩) (v := .int .i64 k) rfl (by kernel_rfl) (by kernel_rfl) (by kernel_rfl) (fun _ _ _ h => h) (yi_mv (Or.inl rfl) rfl rfl) hS ?_
      simp only [Act.put, List.setIfInBounds_toArray, List.set_cons_zero, List.set_cons_succ]
      refine wpAnyH_take (i := 2) (oi := ⟨some 18, _, _, _, _, _⟩) (v := .pointer (some ⟨b, off + k * 4, none⟩)) rfl (by kernel_rfl) (by kernel_rfl) (by kernel_rfl) (fun _ _ _ h => h) (yi_ixo rfl rfl rfl rfl Try.underlying22 rfl hlt hmx) hS ?_
      simp only [Act.put, List.setIfInBounds_toArray, List.set_cons_zero, List.set_cons_succ]
      refine wpAnyH_take (i := 3) (oi := ⟨some 19, _, _, _, _, _⟩) (v := .agg (evA x)) rfl (by kernel_rfl) (by kernel_rfl) (by kernel_rfl) (fun _ _ _ h => h) (yi_ldr (B := evA x) rfl rfl rfl (fun w' h => h.1) Try.underlying27 rfl evInfo) hS ?_
      simp only [Act.put, List.setIfInBounds_toArray, List.set_cons_zero, List.set_cons_succ]
      refine wpAnyH_take (i := 4) (oi := ⟨some 20, _, _, _, _, _⟩) (v := .slice (some ⟨b2, off2, none⟩) xs.length cap2) rfl (by kernel_rfl) (by kernel_rfl) (by kernel_rfl) (fun _ _ _ h => h) (yi_mv (Or.inl rfl) rfl rfl) hS ?_
      simp only [Act.put, List.setIfInBounds_toArray, List.set_cons_zero, List.set_cons_succ]
      refine wpAnyH_take (i := 5) (oi := ⟨some 21, _, _, _, _, _⟩) (v := .int .i64 k) rfl (by kernel_rfl) (by kernel_rfl) (by kernel_rfl) (fun _ _ _ h => h) (yi_mv (Or.inl rfl) rfl rfl) hS ?_
      simp only [Act.put, List.setIfInBounds_toArray, List.set_cons_zero, List.set_cons_succ]
      refine wpAnyH_take (i := 6) (oi := ⟨some 22, _, _, _, _, _⟩) (v := .pointer (some ⟨b2, off2 + k * 4, none⟩)) rfl (by kernel_rfl) (by kernel_rfl) (by kernel_rfl) (fun _ _ _ h => h) (yi_ixo rfl rfl rfl rfl Try.underlying22 rfl hlt hmx) hS ?_
      simp only [Act.put, List.setIfInBounds_toArray, List.set_cons_zero, List.set_cons_succ]
      refine wpAnyH_take (i := 7) (oi := ⟨some 23, _, _, _, _, _⟩) (v := .agg (evA x)) rfl (by kernel_rfl) (by kernel_rfl) (by kernel_rfl) (fun _ _ _ h => h) (yi_ldr (B := evA x) rfl rfl rfl (fun w' h => h.2) Try.underlying27 rfl evInfo) hS ?_
      simp only [Act.put, List.setIfInBounds_toArray, List.set_cons_zero, List.set_cons_succ]
      refine wpAnyH_take (i := 8) (oi := ⟨some 24, _, _, _, _, _⟩) (v := .bool false) rfl (by kernel_rfl) (by kernel_rfl) (by kernel_rfl) (fun _ _ _ h => h) (yi_bi rfl rfl rfl rfl (fun _ => run_eqGuard_agg _ _ _ _ _ _ _ (by kernel_rfl)) (fun _ => ev_neq x _)) hS ?_
      simp only [Act.put, List.setIfInBounds_toArray, List.set_cons_zero, List.set_cons_succ]
      refine wpAnyH_done (by kernel_rfl) ?_ _
      clear hS c1 c2
      replace HB := Lib.hid HB.out.drew
      go_wp2_with fail
      go_roundw
      case rel => exact ⟨k + 1, hlt, by go_num, HB.out⟩
      case measure => simp [intOf]; omega
    · go_wp2_with fail
      go_ret
      exact ⟨rfl, HB.out⟩

theorem ev_bldT (t : Int) (w : World) : (Instr.build 27 #[(0, .int .i64 t)]).run Try.prog w = .ok (.agg (evA ⟨t, 0, 0, false⟩)) w := by
  unfold evA
  go_simp
theorem ev4 : EvOk ⟨4, 0, 0, false⟩ := ⟨by decide, by decide, by decide, by decide, by decide, by decide, nofun⟩
theorem rt_nil : Rt [] := ⟨fun i h => by simp at h, fun i h => by simp at h⟩
theorem ok02 : RawOk 0 0 [] (2 : Nat) := ⟨by decide, by decide, by decide, rt_nil, Or.inl ⟨rfl, rfl⟩⟩
set_option maxHeartbeats 4000000 in
set_option maxRecDepth 100000 in
theorem begins6 (w : World) : Calls Try.prog 19 #[] w fun e w' => e = .returned (.bool true) ∧ Below w.heap.size w w' := by
  go_enter Try.func19, Try.ntmps19
  go_wp2_with (first
    | ((with_reducible refine at_slot 8 ?_); refine wl_callx rfl rfl Try.func34 (by kernel_rfl) rfl (i_new 2 (by omega) (by omega) _) rfl ?_; intro g V hR; obtain ⟨hr1, hr2, hr3⟩ := hR; have HR : Hid (RgB 74 3 1 ci w _ g _ 2 [] 0) := Lib.hid ⟨hr1, hr2, hr3, fun q hq => by cases hq⟩; clear hr1 hr2 hr3)
    | ((with_reducible refine at_slot 14 ?_); refine wl_call (v := .tuple #[.int .i64 0, .bool false]) rfl rfl Try.func35 (by kernel_rfl) rfl (i_put HR.out.ri (by omega) 1) rfl ?_; intro V hR; have hR2 := HR.out.step hR; clear HR hR; obtain ⟨o1, hR3⟩ := hR2; have HR : Hid (RgB 74 3 1 ci w _ g _ 2 [1] 0) := Lib.hid hR3; clear hR3)
    | ((with_reducible refine at_slot 16 ?_); refine wl_call (v := .tuple #[.int .i64 0, .bool false]) rfl rfl Try.func35 (by kernel_rfl) rfl (i_put HR.out.ri (by omega) 2) rfl ?_; intro V hR; have hR2 := HR.out.step hR; clear HR hR; obtain ⟨o1, hR3⟩ := hR2; have HR : Hid (RgB 74 3 1 ci w _ g _ 2 [1, 2] 0) := Lib.hid hR3; clear hR3)
    | ((with_reducible refine at_slot 19 ?_); refine wl_call (v := .tuple #[.int .i64 1, .bool true]) rfl rfl Try.func35 (by kernel_rfl) rfl (i_put HR.out.ri (by omega) 3) rfl ?_; intro V hR; have hR2 := HR.out.step hR; clear HR hR; obtain ⟨o1, hR3⟩ := hR2; have HR : Hid (RgB 74 3 1 ci w _ g _ 2 [2, 3] 1) := Lib.hid hR3; clear hR3)
    | ((with_reducible refine at_slot 23 ?_); refine wl_build rfl rfl (rw_bld0 _) rfl ?_)
    | ((with_reducible refine at_slot 24 ?_); refine wl_build rfl rfl (ev_bldT 4 _) rfl ?_)
    | ((with_reducible refine at_slot 25 ?_); refine wl_callx rfl rfl Try.func8 (by kernel_rfl) rfl (put_first 0 0 (.slice none 0 0) [] (by simp) (fun i h => by simp at h) 2 ⟨4, 0, 0, false⟩ ev4.in _ (Lst.nil _ _ _) ok02 ev4 rfl (by simp)) rfl ?_; intro v5 V hR; have HL5 := Lib.hid (show Lst 4 cE V v5 [⟨4, 0, 0, false⟩] from hR.1.1); replace HR := Lib.hid (HR.out.stay hR.2); clear hR)
    | ((with_reducible refine at_slot 5 ?_); refine wl_alloc (A := #[.int .i64 0, .int .i64 0, .slice none 0 0]) rfl rfl rw_zero rfl ?_; intro W5 g5 k5 hb hle5; have HN5 := Lib.hid (show g5 ≠ g ∧ o1 ≠ some g5 ∧ w.heap.size ≤ g5 from ⟨by have := HR.out.ri.lt; omega, fun e => by have := HR.out.ri.o_lt _ e; omega, Nat.le_trans HR.out.below.size hle5⟩); replace HR := Lib.hid (HR.out.stay hb); clear hb hle5)
    | ((with_reducible refine at_store 5 ?_); refine wl_st0 (A' := #[.int .i64 0, .int .i64 0, v5]) rfl rfl rfl rfl k5 rfl rw_size (rw_one _ _ _ (lst_one HL5.out).1) ?_; intro W6 kn hu; replace HR := Lib.hid (HR.out.upd hu HN5.out.1 HN5.out.2.1 HN5.out.2.2); clear k5; have k5 := kn; clear kn hu)
    | ((with_reducible refine at_slot 39 ?_); refine wl_call (v := .int .i64 2) rfl rfl Try.func36 (by kernel_rfl) rfl (i_len HR.out.ri) rfl ?_; intro V7 hb; replace HR := Lib.hid (HR.out.stay hb); replace k5 := k5.keep hb; clear hb)
    | ((with_reducible refine at_slot 48 ?_); refine wl_ld1 (v := v5) rfl rfl rfl k5 Try.underlying22 rfl rfl ?_)
    | ((with_reducible refine at_slot 49 ?_); refine wl_lenL (n := 1) rfl rfl rfl Try.underlying22 HL5.out.sl ?_))
  go_ret
  exact ⟨rfl, HR.out.below⟩

/-! ### Range -/
def inB (a b : Int) (e : Ev) : Bool := decide (a ≤ e.t) && decide (e.t < b)
set_option maxHeartbeats 4000000 in
set_option maxRecDepth 100000 in
theorem cl_any (e : Ev) (a b : Int) (ga gb : Nat) (w : World) (ka : Blk w ga 2 #[.int .i64 a]) (kb : Blk w gb 2 #[.int .i64 b]) :
    Calls Try.prog 30 #[.agg (evA e), .pointer (some ⟨ga, 0, none⟩), .pointer (some ⟨gb, 0, none⟩)] w fun r w' => r = .returned (.bool (inB a b e)) ∧ Below w.heap.size w w' := by
  by_cases h1 : a ≤ e.t
  · by_cases h2 : e.t < b
    · skip
      go_enter Try.func30, Try.ntmps30
      go_wp2_with (first
        | ((with_reducible refine at_slot 3 ?_); refine wl_box (A := evA e) rfl rfl rfl ?_; intro W1 g3 k3 hb hle3; have ka1 := ka.keep hb; have kb1 := kb.keep hb; have HB := Lib.hid hb; clear hb)
        | ((with_reducible refine at_slot 5 ?_); refine wl_ld1 (v := .int .i64 a) rfl rfl rfl ka1 Try.underlying2 rfl rfl ?_)
        | ((with_reducible refine at_slot 12 ?_); refine wl_ld1 (v := .int .i64 b) rfl rfl rfl kb1 Try.underlying2 rfl rfl ?_)
        | ((with_reducible refine at_slot 7 ?_); refine wl_ld1 (v := .int .i64 e.t) rfl rfl rfl k3 Try.underlying2 rfl rfl ?_)
        | ((with_reducible refine at_slot 11 ?_); refine wl_ld1 (v := .int .i64 e.t) rfl rfl rfl k3 Try.underlying2 rfl rfl ?_))
      go_ret
      exact ⟨ret_bool (by unfold inB; simp; omega), HB.out⟩
    · skip
      go_enter Try.func30, Try.ntmps30
      go_wp2_with (first
        | ((with_reducible refine at_slot 3 ?_); refine wl_box (A := evA e) rfl rfl rfl ?_; intro W1 g3 k3 hb hle3; have ka1 := ka.keep hb; have kb1 := kb.keep hb; have HB := Lib.hid hb; clear hb)
        | ((with_reducible refine at_slot 5 ?_); refine wl_ld1 (v := .int .i64 a) rfl rfl rfl ka1 Try.underlying2 rfl rfl ?_)
        | ((with_reducible refine at_slot 12 ?_); refine wl_ld1 (v := .int .i64 b) rfl rfl rfl kb1 Try.underlying2 rfl rfl ?_)
        | ((with_reducible refine at_slot 7 ?_); refine wl_ld1 (v := .int .i64 e.t) rfl rfl rfl k3 Try.underlying2 rfl rfl ?_)
        | ((with_reducible refine at_slot 11 ?_); refine wl_ld1 (v := .int .i64 e.t) rfl rfl rfl k3 Try.underlying2 rfl rfl ?_))
      go_ret
      exact ⟨ret_bool (by unfold inB; simp; omega), HB.out⟩
  · skip
    go_enter Try.func30, Try.ntmps30
    go_wp2_with (first
      | ((with_reducible refine at_slot 3 ?_); refine wl_box (A := evA e) rfl rfl rfl ?_; intro W1 g3 k3 hb hle3; have ka1 := ka.keep hb; have kb1 := kb.keep hb; have HB := Lib.hid hb; clear hb)
      | ((with_reducible refine at_slot 5 ?_); refine wl_ld1 (v := .int .i64 a) rfl rfl rfl ka1 Try.underlying2 rfl rfl ?_)
      | ((with_reducible refine at_slot 12 ?_); refine wl_ld1 (v := .int .i64 b) rfl rfl rfl kb1 Try.underlying2 rfl rfl ?_)
      | ((with_reducible refine at_slot 7 ?_); refine wl_ld1 (v := .int .i64 e.t) rfl rfl rfl k3 Try.underlying2 rfl rfl ?_)
      | ((with_reducible refine at_slot 11 ?_); refine wl_ld1 (v := .int .i64 e.t) rfl rfl rfl k3 Try.underlying2 rfl rfl ?_))
    go_ret
    exact ⟨ret_bool (by unfold inB; simp; omega), HB.out⟩
structure PkJ (w wr : World) (l : List Ev) (a b : Int) (k : Nat) (v : Value) : Prop where
  le : k ≤ l.length
  own : wr.ownsRow w.heap.size 27 4 v ((l.take k).filter (inB a b)).length (fl cE ((l.take k).filter (inB a b)))
  below : Below w.heap.size w wr
set_option maxHeartbeats 4000000 in
set_option maxRecDepth 100000 in
theorem pick_any (v : Value) (l : List Ev) (hl : l.length ≤ 1000000) (a b : Int) (ga gb : Nat) (w : World) (h : Lst 4 cE w v l) (ka : Blk w ga 2 #[.int .i64 a]) (kb : Blk w gb 2 #[.int .i64 b]) :
    Calls Try.prog 29 #[v, (.func (.func 30) #[] #[.pointer (some ⟨ga, 0, none⟩), .pointer (some ⟨gb, 0, none⟩)])] w fun r w' => ∃ v', r = .returned v' ∧ w'.ownsRow w.heap.size 27 4 v' (l.filter (inB a b)).length (fl cE (l.filter (inB a b))) ∧ Below w.heap.size w w' := by
  obtain ⟨ao, bb, off, cap, rfl, h1, h2⟩ := h.ex
  have H1 := Lib.hid h1
  have H2 := Lib.hid h2
  obtain ⟨i0, hi, hz, hs, hby⟩ := infoE
  have HI0 := Lib.hid (show _ ∧ _ ∧ _ ∧ _ from ⟨hi, hz, hs, hby⟩)
  have hmm : l.length ≤ 9223372036854775807 := by omega
  have HJ : Hid (PkJ w w l a b 0 (.slice none 0 0)) := Lib.hid ⟨Nat.zero_le _, World.ownsRow_nil _ _ _ _, Below.refl _ _⟩
  clear h h1 h2 hi hz hs hby
  go_enter Try.func29, Try.ntmps29
  go_wp2_with fail
  go_loopw [5, 10] (fun v i wr => ∃ k : Nat, PkJ w wr l a b k v ∧ i = .int .i64 k) (fun _ i _ => l.length - (intOf i).toNat)
  case atStart => exact ⟨0, HJ.out, rfl⟩
  case round =>
    clear HJ
    obtain ⟨k, hJ, rfl⟩ := hrel
    have hk := hJ.le
    have HB := Lib.hid hJ.below
    have HO := Lib.hid hJ.own
    clear hJ
    by_cases hlt : k < l.length
    · obtain ⟨rfl, hq1⟩ := H1.out (by omega)
      have hgx : l[k]? = some l[k] := List.getElem?_eq_getElem hlt
      have hTK := List.take_succ_eq_append_getElem hlt
      have HKX := Lib.hid (range_keep (H2.out k _ hgx) (HB.out.block bb hq1))
      have HFL := Lib.hid (show ((l.take k).filter (inB a b)).length ≤ 1000000 from Nat.le_trans (List.length_filter_le _ _) (by rw [List.length_take]; omega))
      generalize l[k] = y at hTK HKX
      clear hgx
      by_cases hi : inB a b y = true
      · have HTF : Hid ((l.take (k + 1)).filter (inB a b) = (l.take k).filter (inB a b) ++ [y]) := Lib.hid (by rw [hTK, List.filter_append]; simp [hi])
        have HIN := Lib.hid hi
        clear hi hTK
        go_wp2_with (first
          | ((with_reducible refine at_slot 12 ?_); refine wl_ixo rfl rfl rfl rfl Try.underlying22 rfl hlt hmm ?_)
          | ((with_reducible refine at_slot 13 ?_); refine wl_ldr (B := evA y) rfl rfl rfl HKX.out Try.underlying27 rfl evInfo ?_)
          | ((with_reducible refine at_slot 7 ?_); refine wl_alloc (A := evA zeroEv) rfl rfl ev_zero rfl ?_; intro W7 g7 k7 hb hle7; have HLE7 := Lib.hid (Nat.le_trans HB.out.size hle7); have HN7 := Lib.hid (fun q (hq : u5.ownBlock = some q) => show q ≠ g7 from by have := (HO.out.lt q hq).2; omega); replace HO := Lib.hid (own_keep HO.out hb); replace HB := Lib.hid (below_tr HB.out hb); clear hb hle7)
          | ((with_reducible refine at_store 7 ?_); refine wl_st0 (A' := evA y) rfl rfl rfl rfl k7 rfl evInfo (evA_one _) ?_; intro W8 kn hu; replace HO := Lib.hid (own_same HO.out (fun q hq => hu.block q (HO.out.lt q hq).2 (HN7.out q hq))); replace HB := Lib.hid (upd_below HB.out hu HLE7.out); clear k7; have k7 := kn; clear kn hu)
          | ((with_reducible refine at_slot 15 ?_); refine wl_ld0 rfl rfl rfl k7 Try.underlying27 rfl evInfo ?_)
          | (go_at_call 30; refine (cl_any y a b ga gb _ (ka.keep HB.out) (kb.keep HB.out)).mono ?_; rintro r w2 ⟨rfl, hb⟩; rw [HIN.out]; replace k7 := k7.keep hb; replace HO := Lib.hid (own_keep HO.out hb); replace HB := Lib.hid (below_tr HB.out hb); clear hb)
          | ((with_reducible refine at_slot 18 ?_); refine wl_ld0 rfl rfl rfl k7 Try.underlying27 rfl evInfo ?_)
          | ((with_reducible refine at_slot 19 ?_); refine wl_bslice (A := evA y) rfl rfl (e_bs y _) rfl ?_; intro W9 gc kc hb hle9; replace HO := Lib.hid (own_keep HO.out hb); replace HB := Lib.hid (below_tr HB.out hb); clear hb hle9)
          | (at_builtin; refine wpList_append_lies _ rfl _ _ 22 rfl w.heap.size 27 i0 _ 4 32 Try.underlying22 HI0.out.1 HI0.out.2.1 HI0.out.2.2.1 HI0.out.2.2.2 rfl (by decide) u5 ((l.take k).filter (inB a b)).length (fl cE ((l.take k).filter (inB a b))) rfl HO.out ⟨gc, 0, none⟩ 1 1 (cE y) rfl rfl (World.news_of_block (cs := evA y) kc) (cE_one y) (by omega) (by unfold maxLen; have := HFL.out; omega) (by have := HFL.out; omega) HB.out.size _ rfl ?_; intro g2 cap2 W4 hown2 hgrow hat hlt4; have HN : Hid (PkJ w W4 l a b (k + 1) (.slice (some ⟨g2, 0, none⟩) (((l.take k).filter (inB a b)).length + 1) cap2)) := Lib.hid ⟨hlt, by rw [HTF.out, fl_append, fl_one, List.length_append]; exact hown2, HB.out.grown hgrow HB.out.size (fun q' hq' => (HO.out.lt q' hq').1)⟩; clear hown2 hgrow hat))
        go_roundw
        case rel => exact ⟨k + 1, HN.out, by go_num⟩
        case measure => simp [intOf]; omega
      · have HTF : Hid ((l.take (k + 1)).filter (inB a b) = (l.take k).filter (inB a b)) := Lib.hid (by rw [hTK, List.filter_append]; simp [hi])
        have HIN : Hid (inB a b y = false) := Lib.hid (by simpa using hi)
        clear hi hTK
        go_wp2_with (first
          | ((with_reducible refine at_slot 12 ?_); refine wl_ixo rfl rfl rfl rfl Try.underlying22 rfl hlt hmm ?_)
          | ((with_reducible refine at_slot 13 ?_); refine wl_ldr (B := evA y) rfl rfl rfl HKX.out Try.underlying27 rfl evInfo ?_)
          | ((with_reducible refine at_slot 7 ?_); refine wl_alloc (A := evA zeroEv) rfl rfl ev_zero rfl ?_; intro W7 g7 k7 hb hle7; have HLE7 := Lib.hid (Nat.le_trans HB.out.size hle7); have HN7 := Lib.hid (fun q (hq : u5.ownBlock = some q) => show q ≠ g7 from by have := (HO.out.lt q hq).2; omega); replace HO := Lib.hid (own_keep HO.out hb); replace HB := Lib.hid (below_tr HB.out hb); clear hb hle7)
          | ((with_reducible refine at_store 7 ?_); refine wl_st0 (A' := evA y) rfl rfl rfl rfl k7 rfl evInfo (evA_one _) ?_; intro W8 kn hu; replace HO := Lib.hid (own_same HO.out (fun q hq => hu.block q (HO.out.lt q hq).2 (HN7.out q hq))); replace HB := Lib.hid (upd_below HB.out hu HLE7.out); clear k7; have k7 := kn; clear kn hu)
          | ((with_reducible refine at_slot 15 ?_); refine wl_ld0 rfl rfl rfl k7 Try.underlying27 rfl evInfo ?_)
          | (go_at_call 30; refine (cl_any y a b ga gb _ (ka.keep HB.out) (kb.keep HB.out)).mono ?_; rintro r w2 ⟨rfl, hb⟩; rw [HIN.out]; replace k7 := k7.keep hb; replace HO := Lib.hid (own_keep HO.out hb); replace HB := Lib.hid (below_tr HB.out hb); clear hb))
        go_roundw
        case rel => exact ⟨k + 1, ⟨hlt, by rw [HTF.out]; exact HO.out, HB.out⟩, by go_num⟩
        case measure => simp [intOf]; omega
    · obtain rfl : k = l.length := by omega
      have ho := HO.out
      rw [List.take_length] at ho
      have HO2 := Lib.hid ho
      clear ho
      go_wp2_with fail
      go_ret
      exact ⟨_, rfl, HO2.out, HB.out⟩
set_option maxHeartbeats 4000000 in
set_option maxRecDepth 100000 in
theorem rg_range (lost mark : Int) (v : Value) (a b : Int) (hab : b ≤ a) (w : World) :
    Calls Try.prog 10 #[.agg #[.int .i64 lost, .int .i64 mark, v], .int .i64 a, .int .i64 b] w fun r w' => r = .returned (.tuple #[.slice none 0 0, .int .i64 1]) ∧ Below w.heap.size w w' := by
  have hge : a ≥ b := hab
  go_enter Try.func10, Try.ntmps10
  go_wp2_with (first
    | ((with_reducible refine at_slot 3 ?_); refine wl_box (A := #[.int .i64 lost, .int .i64 mark, v]) rfl rfl rfl ?_; intro W1 g3 k3 hb hle3; have HB := Lib.hid hb; clear hb)
    | ((with_reducible refine at_slot 4 ?_); refine wl_box (A := #[.int .i64 a]) rfl rfl rfl ?_; intro W2 g4 k4 hb hle4; replace k3 := k3.keep hb; replace HB := Lib.hid (below_tr HB.out hb); clear hb)
    | ((with_reducible refine at_slot 5 ?_); refine wl_box (A := #[.int .i64 b]) rfl rfl rfl ?_; intro W3 g5 k5 hb hle5; replace k3 := k3.keep hb; replace k4 := k4.keep hb; replace HB := Lib.hid (below_tr HB.out hb); clear hb)
    | ((with_reducible refine at_slot 8 ?_); refine wl_ld1 (v := .int .i64 a) rfl rfl rfl k4 Try.underlying2 rfl rfl ?_)
    | ((with_reducible refine at_slot 9 ?_); refine wl_ld1 (v := .int .i64 b) rfl rfl rfl k5 Try.underlying2 rfl rfl ?_)
    | ((with_reducible refine at_slot 12 ?_); refine wl_ld1 (v := .int .i64 lost) rfl rfl rfl k3 Try.underlying2 rfl rfl ?_)
    | ((with_reducible refine at_slot 16 ?_); refine wl_ld1 (v := .int .i64 mark) rfl rfl rfl k3 Try.underlying2 rfl rfl ?_)
    | ((with_reducible refine at_slot 17 ?_); refine wl_ld1 (v := .int .i64 a) rfl rfl rfl k4 Try.underlying2 rfl rfl ?_)
    | ((with_reducible refine at_slot 21 ?_); refine wl_ld1 (v := v) rfl rfl rfl k3 Try.underlying22 rfl rfl ?_))
  go_ret2
  exact ⟨rfl, HB.out⟩
set_option maxHeartbeats 4000000 in
set_option maxRecDepth 100000 in
theorem rg_old (lost mark : Int) (v : Value) (a b : Int) (hab : a < b) (h1 : 0 < lost) (h2 : a ≤ mark) (w : World) :
    Calls Try.prog 10 #[.agg #[.int .i64 lost, .int .i64 mark, v], .int .i64 a, .int .i64 b] w fun r w' => r = .returned (.tuple #[.slice none 0 0, .int .i64 11]) ∧ Below w.heap.size w w' := by
  have hge : ¬ a ≥ b := by omega
  have hg2 : lost > 0 := h1
  have hg3 : mark ≥ a := h2
  go_enter Try.func10, Try.ntmps10
  go_wp2_with (first
    | ((with_reducible refine at_slot 3 ?_); refine wl_box (A := #[.int .i64 lost, .int .i64 mark, v]) rfl rfl rfl ?_; intro W1 g3 k3 hb hle3; have HB := Lib.hid hb; clear hb)
    | ((with_reducible refine at_slot 4 ?_); refine wl_box (A := #[.int .i64 a]) rfl rfl rfl ?_; intro W2 g4 k4 hb hle4; replace k3 := k3.keep hb; replace HB := Lib.hid (below_tr HB.out hb); clear hb)
    | ((with_reducible refine at_slot 5 ?_); refine wl_box (A := #[.int .i64 b]) rfl rfl rfl ?_; intro W3 g5 k5 hb hle5; replace k3 := k3.keep hb; replace k4 := k4.keep hb; replace HB := Lib.hid (below_tr HB.out hb); clear hb)
    | ((with_reducible refine at_slot 8 ?_); refine wl_ld1 (v := .int .i64 a) rfl rfl rfl k4 Try.underlying2 rfl rfl ?_)
    | ((with_reducible refine at_slot 9 ?_); refine wl_ld1 (v := .int .i64 b) rfl rfl rfl k5 Try.underlying2 rfl rfl ?_)
    | ((with_reducible refine at_slot 12 ?_); refine wl_ld1 (v := .int .i64 lost) rfl rfl rfl k3 Try.underlying2 rfl rfl ?_)
    | ((with_reducible refine at_slot 16 ?_); refine wl_ld1 (v := .int .i64 mark) rfl rfl rfl k3 Try.underlying2 rfl rfl ?_)
    | ((with_reducible refine at_slot 17 ?_); refine wl_ld1 (v := .int .i64 a) rfl rfl rfl k4 Try.underlying2 rfl rfl ?_)
    | ((with_reducible refine at_slot 21 ?_); refine wl_ld1 (v := v) rfl rfl rfl k3 Try.underlying22 rfl rfl ?_))
  go_ret2
  exact ⟨rfl, HB.out⟩
set_option maxHeartbeats 4000000 in
set_option maxRecDepth 100000 in
theorem rg_ok (lost mark : Int) (v : Value) (l : List Ev) (hl : l.length ≤ 1000000) (a b : Int) (hab : a < b) (h1 : ¬ (0 < lost ∧ a ≤ mark)) (w : World) (h : Lst 4 cE w v l) :
    Calls Try.prog 10 #[.agg #[.int .i64 lost, .int .i64 mark, v], .int .i64 a, .int .i64 b] w fun r w' => ∃ v', r = .returned (.tuple #[v', .int .i64 0]) ∧ w'.ownsRow w.heap.size 27 4 v' (l.filter (inB a b)).length (fl cE (l.filter (inB a b))) ∧ Below w.heap.size w w' := by
  have hge : ¬ a ≥ b := by omega
  have HL := Lib.hid h
  have HPK := Lib.hid (fun W (ga gb : Nat) (hL : Lst 4 cE W v l) (ka : Blk W ga 2 #[.int .i64 a]) (kb : Blk W gb 2 #[.int .i64 b]) => pick_any v l hl a b ga gb W hL ka kb)
  clear h
  by_cases h2 : 0 < lost
  · have hg2 : lost > 0 := h2
    have hg3 : ¬ mark ≥ a := fun h => h1 ⟨h2, h⟩
    clear h1 h2
    go_enter Try.func10, Try.ntmps10
    go_wp2_with (first
      | ((with_reducible refine at_slot 3 ?_); refine wl_box (A := #[.int .i64 lost, .int .i64 mark, v]) rfl rfl rfl ?_; intro W1 g3 k3 hb hle3; have HB := Lib.hid hb; clear hb)
      | ((with_reducible refine at_slot 4 ?_); refine wl_box (A := #[.int .i64 a]) rfl rfl rfl ?_; intro W2 g4 k4 hb hle4; replace k3 := k3.keep hb; replace HB := Lib.hid (below_tr HB.out hb); clear hb)
      | ((with_reducible refine at_slot 5 ?_); refine wl_box (A := #[.int .i64 b]) rfl rfl rfl ?_; intro W3 g5 k5 hb hle5; replace k3 := k3.keep hb; replace k4 := k4.keep hb; replace HB := Lib.hid (below_tr HB.out hb); clear hb)
      | ((with_reducible refine at_slot 8 ?_); refine wl_ld1 (v := .int .i64 a) rfl rfl rfl k4 Try.underlying2 rfl rfl ?_)
      | ((with_reducible refine at_slot 9 ?_); refine wl_ld1 (v := .int .i64 b) rfl rfl rfl k5 Try.underlying2 rfl rfl ?_)
      | ((with_reducible refine at_slot 12 ?_); refine wl_ld1 (v := .int .i64 lost) rfl rfl rfl k3 Try.underlying2 rfl rfl ?_)
      | ((with_reducible refine at_slot 16 ?_); refine wl_ld1 (v := .int .i64 mark) rfl rfl rfl k3 Try.underlying2 rfl rfl ?_)
      | ((with_reducible refine at_slot 17 ?_); refine wl_ld1 (v := .int .i64 a) rfl rfl rfl k4 Try.underlying2 rfl rfl ?_)
      | ((with_reducible refine at_slot 21 ?_); refine wl_ld1 (v := v) rfl rfl rfl k3 Try.underlying22 rfl rfl ?_)
      | ((with_reducible refine at_slot 23 ?_); refine wl_callx rfl rfl Try.func29 (by kernel_rfl) rfl (HPK.out _ g4 g5 (HL.out.keep HB.out) k4 k5) rfl ?_; intro v9 V9 hR; have HO9 := Lib.hid (own_weak hR.1 HB.out.size); replace HB := Lib.hid (below_tr HB.out hR.2); clear hR))
    go_ret2
    exact ⟨v9, rfl, HO9.out, HB.out⟩
  · have hg2 : ¬ lost > 0 := h2
    clear h1 h2
    go_enter Try.func10, Try.ntmps10
    go_wp2_with (first
      | ((with_reducible refine at_slot 3 ?_); refine wl_box (A := #[.int .i64 lost, .int .i64 mark, v]) rfl rfl rfl ?_; intro W1 g3 k3 hb hle3; have HB := Lib.hid hb; clear hb)
      | ((with_reducible refine at_slot 4 ?_); refine wl_box (A := #[.int .i64 a]) rfl rfl rfl ?_; intro W2 g4 k4 hb hle4; replace k3 := k3.keep hb; replace HB := Lib.hid (below_tr HB.out hb); clear hb)
      | ((with_reducible refine at_slot 5 ?_); refine wl_box (A := #[.int .i64 b]) rfl rfl rfl ?_; intro W3 g5 k5 hb hle5; replace k3 := k3.keep hb; replace k4 := k4.keep hb; replace HB := Lib.hid (below_tr HB.out hb); clear hb)
      | ((with_reducible refine at_slot 8 ?_); refine wl_ld1 (v := .int .i64 a) rfl rfl rfl k4 Try.underlying2 rfl rfl ?_)
      | ((with_reducible refine at_slot 9 ?_); refine wl_ld1 (v := .int .i64 b) rfl rfl rfl k5 Try.underlying2 rfl rfl ?_)
      | ((with_reducible refine at_slot 12 ?_); refine wl_ld1 (v := .int .i64 lost) rfl rfl rfl k3 Try.underlying2 rfl rfl ?_)
      | ((with_reducible refine at_slot 16 ?_); refine wl_ld1 (v := .int .i64 mark) rfl rfl rfl k3 Try.underlying2 rfl rfl ?_)
      | ((with_reducible refine at_slot 17 ?_); refine wl_ld1 (v := .int .i64 a) rfl rfl rfl k4 Try.underlying2 rfl rfl ?_)
      | ((with_reducible refine at_slot 21 ?_); refine wl_ld1 (v := v) rfl rfl rfl k3 Try.underlying22 rfl rfl ?_)
      | ((with_reducible refine at_slot 23 ?_); refine wl_callx rfl rfl Try.func29 (by kernel_rfl) rfl (HPK.out _ g4 g5 (HL.out.keep HB.out) k4 k5) rfl ?_; intro v9 V9 hR; have HO9 := Lib.hid (own_weak hR.1 HB.out.size); replace HB := Lib.hid (below_tr HB.out hR.2); clear hR))
    go_ret2
    exact ⟨v9, rfl, HO9.out, HB.out⟩
end Go.Proofs.Ytohkioakipjanaa
