/-
  WALKS: top 06: TopJoined.
-/
import Derived.Test.YtohkioakipjanaaRwr
namespace Go.Proofs.Ytohkioakipjanaa
open Go Go.RowKit

theorem rt_lt {l : List Ev} (h : Rt l) : ∀ (d i : Nat) (hj : i + d + 1 < l.length), (l[i]'(by omega)).t < l[i + d + 1].t
  | 0, i, hj => h.inc i hj
  | d + 1, i, hj => Int.lt_trans (rt_lt h d i (by omega)) (h.inc (i + d + 1) hj)
theorem rt_pair {l : List Ev} (h : Rt l) : l.Pairwise (fun x y => x.t < y.t) := by
  rw [List.pairwise_iff_getElem]
  intro i j hi hj hij
  obtain ⟨d, rfl⟩ : ∃ d, j = i + d + 1 := ⟨j - i - 1, by omega⟩
  exact rt_lt h d i hj
theorem join_two {l : List Ev} (h : l.Pairwise (fun x y => x.t < y.t)) {a b c : Int} (hab : a < b) (hbc : b < c) : l.filter (inB a b) ++ l.filter (inB b c) = l.filter (inB a c) := by
  induction l with
  | nil => rfl
  | cons e r ih =>
    rw [List.pairwise_cons] at h
    have hi := ih h.2
    by_cases h1 : e.t < a
    · have e1 : inB a b e = false := by unfold inB; simp; omega
      have e2 : inB b c e = false := by unfold inB; simp; omega
      have e3 : inB a c e = false := by unfold inB; simp; omega
      simp [e1, e2, e3, hi]
    · by_cases h2 : e.t < b
      · have e1 : inB a b e = true := by unfold inB; simp; omega
        have e2 : inB b c e = false := by unfold inB; simp; omega
        have e3 : inB a c e = true := by unfold inB; simp; omega
        simp [e1, e2, e3, hi]
      · have hz : r.filter (inB a b) = [] := by
          rw [List.filter_eq_nil_iff]
          intro x hx
          have := h.1 x hx
          unfold inB
          simp
          omega
        have e1 : inB a b e = false := by unfold inB; simp; omega
        have e4 : inB b c e = inB a c e := by
          unfold inB
          by_cases h3 : e.t < c
          · simp [h3]; omega
          · simp [h3]
        rw [hz, List.nil_append] at hi
        simp only [List.filter_cons, e1, e4, hz, hi]
        simp
theorem e_bs0 (w : World) : (Instr.buildSlice 22 0 #[]).run Try.prog w = .ok (.slice (some ⟨w.heap.size, 0, none⟩) 0 0) (w.alloc (.cells #[] 27)) := by
  go_simp
theorem e_own0 {w W : World} {q : Nat} (hq : Blk W q 27 #[]) (hle : w.heap.size ≤ q) : W.ownsRow w.heap.size 27 4 (.slice (some ⟨q, 0, none⟩) 0 0) 0 (fl cE []) :=
  ⟨rfl, Or.inr ⟨q, 0, #[], rfl, hle, hq, Nat.le_refl _, Nat.zero_le _, rfl, rfl⟩⟩
set_option maxHeartbeats 4000000 in
set_option maxRecDepth 100000 in
theorem joined_any (lost mark : Int) (ao : Option Addr) (cap : Nat) (l : List Ev) (hm : l.length ≤ maxLen) (hin : AllIn l) (a b c : Int) (w : World) (h : Lst 4 cE w (.slice ao l.length cap) l) :
    Calls Try.prog 6 #[.agg #[.int .i64 lost, .int .i64 mark, .slice ao l.length cap], .int .i64 a, .int .i64 b, .int .i64 c] w fun e w' => e = .returned (.bool true) ∧ Below w.heap.size w w' := by
  have HL := Lib.hid h
  have hl0 : l.length ≤ 9223372036854775807 := by unfold maxLen at hm; omega
  have HC1 := Lib.hid (fun W (hL : Lst 4 cE W (.slice ao l.length cap) l) => ck_any lost mark (.slice ao l.length cap) l hl0 hin 4096 W hL)
  have HC2 := Lib.hid (fun W (hL : Lst 4 cE W (.slice ao l.length cap) l) => ck_any lost mark (.slice ao l.length cap) l hl0 hin l.length W hL)
  clear h hin hm
  by_cases h1 : 200 < l.length
  · have h1' : (l.length : Int) > 200 := by omega
    go_enter Try.func6, Try.ntmps6
    go_wp2_with (first
      | ((with_reducible refine at_slot 4 ?_); refine wl_box (A := #[.int .i64 lost, .int .i64 mark, .slice ao l.length cap]) rfl rfl rfl ?_; intro W1 g4 k4 hb hle4; have HB := Lib.hid hb; clear hb)
      | ((with_reducible refine at_slot 15 ?_); refine wl_call rfl rfl Try.func19 (by kernel_rfl) rfl (begins6 _) rfl ?_; intro V15 hb; replace k4 := k4.keep hb; replace HB := Lib.hid (below_tr HB.out hb); clear hb)
      | ((with_reducible refine at_slot 18 ?_); refine wl_ld1 (v := (.slice ao l.length cap)) rfl rfl rfl k4 Try.underlying22 rfl rfl ?_))
    go_ret
    exact ⟨rfl, HB.out⟩
  · have h1' : ¬ (l.length : Int) > 200 := by omega
    have hl6 : l.length ≤ 1000000 := by omega
    by_cases h2 : b ≤ a
    · have h2' : a ≥ b := h2
      go_enter Try.func6, Try.ntmps6
      go_wp2_with (first
        | ((with_reducible refine at_slot 4 ?_); refine wl_box (A := #[.int .i64 lost, .int .i64 mark, .slice ao l.length cap]) rfl rfl rfl ?_; intro W1 g4 k4 hb hle4; have HB := Lib.hid hb; clear hb)
        | ((with_reducible refine at_slot 15 ?_); refine wl_call rfl rfl Try.func19 (by kernel_rfl) rfl (begins6 _) rfl ?_; intro V15 hb; replace k4 := k4.keep hb; replace HB := Lib.hid (below_tr HB.out hb); clear hb)
        | ((with_reducible refine at_slot 18 ?_); refine wl_ld1 (v := (.slice ao l.length cap)) rfl rfl rfl k4 Try.underlying22 rfl rfl ?_))
      go_ret
      exact ⟨rfl, HB.out⟩
    · have h2' : ¬ a ≥ b := h2
      have hab : a < b := by omega
      by_cases h3 : c ≤ b
      · have h3' : b ≥ c := h3
        go_enter Try.func6, Try.ntmps6
        go_wp2_with (first
          | ((with_reducible refine at_slot 4 ?_); refine wl_box (A := #[.int .i64 lost, .int .i64 mark, .slice ao l.length cap]) rfl rfl rfl ?_; intro W1 g4 k4 hb hle4; have HB := Lib.hid hb; clear hb)
          | ((with_reducible refine at_slot 15 ?_); refine wl_call rfl rfl Try.func19 (by kernel_rfl) rfl (begins6 _) rfl ?_; intro V15 hb; replace k4 := k4.keep hb; replace HB := Lib.hid (below_tr HB.out hb); clear hb)
          | ((with_reducible refine at_slot 18 ?_); refine wl_ld1 (v := (.slice ao l.length cap)) rfl rfl rfl k4 Try.underlying22 rfl rfl ?_))
        go_ret
        exact ⟨rfl, HB.out⟩
      · have h3' : ¬ b ≥ c := h3
        have hbc : b < c := by omega
        have hac : a < c := by omega
        have HF1 := Lib.hid (Nat.le_trans (List.length_filter_le (inB a b) l) (show l.length ≤ 200 by omega))
        have HF2 := Lib.hid (Nat.le_trans (List.length_filter_le (inB b c) l) (show l.length ≤ 200 by omega))
        have HF3 := Lib.hid (Nat.le_trans (List.length_filter_le (inB a c) l) (show l.length ≤ 200 by omega))
        obtain ⟨i0, hi, hz, hs, hby⟩ := infoE
        have HI0 := Lib.hid (show _ ∧ _ ∧ _ ∧ _ from ⟨hi, hz, hs, hby⟩)
        clear h1 h2 h3 hi hz hs hby
        by_cases hc1 : RawOk lost mark l 4096
        · rw [ckE_yes hc1] at HC1
          have HRT := Lib.hid hc1.rt
          clear hc1
          by_cases hbad : 0 < lost ∧ a ≤ mark
          · have HBAD := Lib.hid hbad
            clear hbad
            by_cases hy : b ≤ mark
            · have HY := Lib.hid hy
              clear hy
              go_enter Try.func6, Try.ntmps6
              go_wp2_with (first
                | ((with_reducible refine at_slot 4 ?_); refine wl_box (A := #[.int .i64 lost, .int .i64 mark, .slice ao l.length cap]) rfl rfl rfl ?_; intro W1 g4 k4 hb hle4; have HB := Lib.hid hb; clear hb)
                | ((with_reducible refine at_slot 15 ?_); refine wl_call rfl rfl Try.func19 (by kernel_rfl) rfl (begins6 _) rfl ?_; intro V15 hb; replace k4 := k4.keep hb; replace HB := Lib.hid (below_tr HB.out hb); clear hb)
                | ((with_reducible refine at_slot 18 ?_); refine wl_ld1 (v := (.slice ao l.length cap)) rfl rfl rfl k4 Try.underlying22 rfl rfl ?_)
                | ((with_reducible refine at_slot 32 ?_); refine wl_ld0 rfl rfl rfl k4 Try.underlying24 rfl rw_size ?_)
                | ((with_reducible refine at_slot 33 ?_); refine wl_call rfl rfl Try.func14 (by kernel_rfl) rfl (HC1.out _ (HL.out.keep HB.out)) rfl ?_; intro V33 hb; replace k4 := k4.keep hb; replace HB := Lib.hid (below_tr HB.out hb); clear hb)
                | ((with_reducible refine at_slot 36 ?_); refine wl_ld0 rfl rfl rfl k4 Try.underlying24 rfl rw_size ?_)
                | ((with_reducible refine at_slot 38 ?_); refine wl_ld1 (v := (.slice ao l.length cap)) rfl rfl rfl k4 Try.underlying22 rfl rfl ?_)
                | ((with_reducible refine at_slot 40 ?_); refine wl_call rfl rfl Try.func14 (by kernel_rfl) rfl (HC2.out _ (HL.out.keep HB.out)) rfl ?_; intro V40 hb; replace k4 := k4.keep hb; replace HB := Lib.hid (below_tr HB.out hb); clear hb)
                | ((with_reducible refine at_slot 45 ?_); refine wl_ld0 rfl rfl rfl k4 Try.underlying24 rfl rw_size ?_)
                | ((with_reducible refine at_slot 48 ?_); refine wl_call rfl rfl Try.func10 (by kernel_rfl) rfl (rg_old lost mark (.slice ao l.length cap) a b hab HBAD.out.1 HBAD.out.2 _) rfl ?_; intro V48 hb; replace k4 := k4.keep hb; replace HB := Lib.hid (below_tr HB.out hb); clear hb)
                | ((with_reducible refine at_slot 52 ?_); refine wl_ld0 rfl rfl rfl k4 Try.underlying24 rfl rw_size ?_)
                | ((with_reducible refine at_slot 55 ?_); refine wl_call rfl rfl Try.func10 (by kernel_rfl) rfl (rg_old lost mark (.slice ao l.length cap) b c hbc HBAD.out.1 HY.out _) rfl ?_; intro V55 hb; replace k4 := k4.keep hb; replace HB := Lib.hid (below_tr HB.out hb); clear hb)
                | ((with_reducible refine at_slot 59 ?_); refine wl_ld0 rfl rfl rfl k4 Try.underlying24 rfl rw_size ?_)
                | ((with_reducible refine at_slot 62 ?_); refine wl_call rfl rfl Try.func10 (by kernel_rfl) rfl (rg_old lost mark (.slice ao l.length cap) a c hac HBAD.out.1 HBAD.out.2 _) rfl ?_; intro V62 hb; replace k4 := k4.keep hb; replace HB := Lib.hid (below_tr HB.out hb); clear hb))
              go_ret
              exact ⟨rfl, HB.out⟩
            · have HY := Lib.hid (show ¬ (0 < lost ∧ b ≤ mark) from fun h => hy h.2)
              clear hy
              go_enter Try.func6, Try.ntmps6
              go_wp2_with (first
                | ((with_reducible refine at_slot 4 ?_); refine wl_box (A := #[.int .i64 lost, .int .i64 mark, .slice ao l.length cap]) rfl rfl rfl ?_; intro W1 g4 k4 hb hle4; have HB := Lib.hid hb; clear hb)
                | ((with_reducible refine at_slot 15 ?_); refine wl_call rfl rfl Try.func19 (by kernel_rfl) rfl (begins6 _) rfl ?_; intro V15 hb; replace k4 := k4.keep hb; replace HB := Lib.hid (below_tr HB.out hb); clear hb)
                | ((with_reducible refine at_slot 18 ?_); refine wl_ld1 (v := (.slice ao l.length cap)) rfl rfl rfl k4 Try.underlying22 rfl rfl ?_)
                | ((with_reducible refine at_slot 32 ?_); refine wl_ld0 rfl rfl rfl k4 Try.underlying24 rfl rw_size ?_)
                | ((with_reducible refine at_slot 33 ?_); refine wl_call rfl rfl Try.func14 (by kernel_rfl) rfl (HC1.out _ (HL.out.keep HB.out)) rfl ?_; intro V33 hb; replace k4 := k4.keep hb; replace HB := Lib.hid (below_tr HB.out hb); clear hb)
                | ((with_reducible refine at_slot 36 ?_); refine wl_ld0 rfl rfl rfl k4 Try.underlying24 rfl rw_size ?_)
                | ((with_reducible refine at_slot 38 ?_); refine wl_ld1 (v := (.slice ao l.length cap)) rfl rfl rfl k4 Try.underlying22 rfl rfl ?_)
                | ((with_reducible refine at_slot 40 ?_); refine wl_call rfl rfl Try.func14 (by kernel_rfl) rfl (HC2.out _ (HL.out.keep HB.out)) rfl ?_; intro V40 hb; replace k4 := k4.keep hb; replace HB := Lib.hid (below_tr HB.out hb); clear hb)
                | ((with_reducible refine at_slot 45 ?_); refine wl_ld0 rfl rfl rfl k4 Try.underlying24 rfl rw_size ?_)
                | ((with_reducible refine at_slot 48 ?_); refine wl_call rfl rfl Try.func10 (by kernel_rfl) rfl (rg_old lost mark (.slice ao l.length cap) a b hab HBAD.out.1 HBAD.out.2 _) rfl ?_; intro V48 hb; replace k4 := k4.keep hb; replace HB := Lib.hid (below_tr HB.out hb); clear hb)
                | ((with_reducible refine at_slot 52 ?_); refine wl_ld0 rfl rfl rfl k4 Try.underlying24 rfl rw_size ?_)
                | ((with_reducible refine at_slot 55 ?_); refine wl_callx rfl rfl Try.func10 (by kernel_rfl) rfl (rg_ok lost mark (.slice ao l.length cap) l hl6 b c hbc HY.out _ (HL.out.keep HB.out)) rfl ?_; intro vy V55 hR; have HO55 := Lib.hid (own_weak hR.1 (Nat.zero_le _)); replace k4 := k4.keep hR.2; replace HB := Lib.hid (below_tr HB.out hR.2); clear hR)
                | ((with_reducible refine at_slot 59 ?_); refine wl_ld0 rfl rfl rfl k4 Try.underlying24 rfl rw_size ?_)
                | ((with_reducible refine at_slot 62 ?_); refine wl_call rfl rfl Try.func10 (by kernel_rfl) rfl (rg_old lost mark (.slice ao l.length cap) a c hac HBAD.out.1 HBAD.out.2 _) rfl ?_; intro V62 hb; replace k4 := k4.keep hb; replace HB := Lib.hid (below_tr HB.out hb); clear hb))
              go_ret
              exact ⟨rfl, HB.out⟩
          · have HN := Lib.hid hbad
            have HN2 := Lib.hid (show ¬ (0 < lost ∧ b ≤ mark) from fun h => hbad ⟨h.1, by omega⟩)
            have HJN := Lib.hid (join_two (rt_pair HRT.out) hab hbc)
            have hf1 := HF1.out
            have hf2 := HF2.out
            clear hbad
            go_enter Try.func6, Try.ntmps6
            go_wp2_with (first
              | ((with_reducible refine at_slot 4 ?_); refine wl_box (A := #[.int .i64 lost, .int .i64 mark, .slice ao l.length cap]) rfl rfl rfl ?_; intro W1 g4 k4 hb hle4; have HB := Lib.hid hb; clear hb)
              | ((with_reducible refine at_slot 15 ?_); refine wl_call rfl rfl Try.func19 (by kernel_rfl) rfl (begins6 _) rfl ?_; intro V15 hb; replace k4 := k4.keep hb; replace HB := Lib.hid (below_tr HB.out hb); clear hb)
              | ((with_reducible refine at_slot 18 ?_); refine wl_ld1 (v := (.slice ao l.length cap)) rfl rfl rfl k4 Try.underlying22 rfl rfl ?_)
              | ((with_reducible refine at_slot 32 ?_); refine wl_ld0 rfl rfl rfl k4 Try.underlying24 rfl rw_size ?_)
              | ((with_reducible refine at_slot 33 ?_); refine wl_call rfl rfl Try.func14 (by kernel_rfl) rfl (HC1.out _ (HL.out.keep HB.out)) rfl ?_; intro V33 hb; replace k4 := k4.keep hb; replace HB := Lib.hid (below_tr HB.out hb); clear hb)
              | ((with_reducible refine at_slot 36 ?_); refine wl_ld0 rfl rfl rfl k4 Try.underlying24 rfl rw_size ?_)
              | ((with_reducible refine at_slot 38 ?_); refine wl_ld1 (v := (.slice ao l.length cap)) rfl rfl rfl k4 Try.underlying22 rfl rfl ?_)
              | ((with_reducible refine at_slot 40 ?_); refine wl_call rfl rfl Try.func14 (by kernel_rfl) rfl (HC2.out _ (HL.out.keep HB.out)) rfl ?_; intro V40 hb; replace k4 := k4.keep hb; replace HB := Lib.hid (below_tr HB.out hb); clear hb)
              | ((with_reducible refine at_slot 45 ?_); refine wl_ld0 rfl rfl rfl k4 Try.underlying24 rfl rw_size ?_)
              | ((with_reducible refine at_slot 48 ?_); refine wl_callx rfl rfl Try.func10 (by kernel_rfl) rfl (rg_ok lost mark (.slice ao l.length cap) l hl6 a b hab HN.out _ (HL.out.keep HB.out)) rfl ?_; intro vx V48 hR; have HO48 := Lib.hid (own_weak hR.1 (Nat.zero_le _)); replace k4 := k4.keep hR.2; replace HB := Lib.hid (below_tr HB.out hR.2); clear hR)
              | ((with_reducible refine at_slot 52 ?_); refine wl_ld0 rfl rfl rfl k4 Try.underlying24 rfl rw_size ?_)
              | ((with_reducible refine at_slot 55 ?_); refine wl_callx rfl rfl Try.func10 (by kernel_rfl) rfl (rg_ok lost mark (.slice ao l.length cap) l hl6 b c hbc HN2.out _ (HL.out.keep HB.out)) rfl ?_; intro vy V55 hR; replace HO48 := Lib.hid (own_keep HO48.out hR.2); have HO55 := Lib.hid (own_weak hR.1 (Nat.zero_le _)); replace k4 := k4.keep hR.2; replace HB := Lib.hid (below_tr HB.out hR.2); clear hR)
              | ((with_reducible refine at_slot 59 ?_); refine wl_ld0 rfl rfl rfl k4 Try.underlying24 rfl rw_size ?_)
              | ((with_reducible refine at_slot 62 ?_); refine wl_callx rfl rfl Try.func10 (by kernel_rfl) rfl (rg_ok lost mark (.slice ao l.length cap) l hl6 a c hac HN.out _ (HL.out.keep HB.out)) rfl ?_; intro vz V62 hR; replace HO48 := Lib.hid (own_keep HO48.out hR.2); replace HO55 := Lib.hid (own_keep HO55.out hR.2); have HO62 := Lib.hid (own_weak hR.1 (Nat.zero_le _)); replace k4 := k4.keep hR.2; replace HB := Lib.hid (below_tr HB.out hR.2); clear hR)
              | ((with_reducible refine at_slot 90 ?_); refine wl_bslice (A := #[]) rfl rfl (e_bs0 _) rfl ?_; intro W91 gc kc hb hle9; have HO0 := Lib.hid (e_own0 kc hle9); have HX := Lib.hid ((own_lst cE_len HO48.out rfl).keep hb); have HY := Lib.hid ((own_lst cE_len HO55.out rfl).keep hb); have HZZ := Lib.hid ((own_lst cE_len HO62.out rfl).keep hb); have HQY := Lib.hid (fun q hq => (HO55.out.lt q hq).2); have HQZ := Lib.hid (fun q hq => (HO62.out.lt q hq).2); have HZ0 := Lib.hid HB.out.size; have HZ := Lib.hid hb.size; replace HB := Lib.hid (below_tr HB.out hb); clear hb kc)
              | ((with_reducible refine at_slot 92 ?_); refine wl_app (c := cE) (xs := []) (ys := (l.filter (inB a b))) rfl rfl cE_len (by decide) cE_one V62.heap.size 27 i0 _ 32 Try.underlying22 HI0.out.1 HI0.out.2.1 HI0.out.2.2.1 HI0.out.2.2.2 rfl rfl rfl HO0.out HX.out (by unfold maxLen; omega) (by omega) HZ.out ?_; intro v92 W92 ho hg hat; have HO1 := Lib.hid (show W92.ownsRow V62.heap.size 27 4 v92 (l.filter (inB a b)).length (fl cE (l.filter (inB a b))) from by rw [Nat.zero_add, List.nil_append] at ho; exact ho); replace HY := Lib.hid (HY.out.same hg.size (fun q hq hlt => hg.block q hlt (fun e => by have := (HO0.out.lt q e.symm).1; have := HQY.out q hq; omega))); replace HZZ := Lib.hid (HZZ.out.same hg.size (fun q hq hlt => hg.block q hlt (fun e => by have := (HO0.out.lt q e.symm).1; have := HQZ.out q hq; omega))); replace HB := Lib.hid (HB.out.grown hg HB.out.size (fun q hq => Nat.le_trans HZ0.out (HO0.out.lt q hq).1)); replace HZ := Lib.hid (Nat.le_trans HZ.out hg.size); clear ho hg hat)
              | ((with_reducible refine at_slot 94 ?_); refine wl_app (c := cE) (xs := (l.filter (inB a b))) (ys := (l.filter (inB b c))) rfl rfl cE_len (by decide) cE_one V62.heap.size 27 i0 _ 32 Try.underlying22 HI0.out.1 HI0.out.2.1 HI0.out.2.2.1 HI0.out.2.2.2 rfl rfl rfl HO1.out HY.out (by unfold maxLen; omega) (by omega) HZ.out ?_; intro v94 W94 ho hg hat; have HO2 := Lib.hid (show Lst 4 cE W94 v94 (l.filter (inB a c)) from by have := own_lst (xs := (l.filter (inB a b)) ++ (l.filter (inB b c))) cE_len ho (by rw [List.length_append]); rwa [HJN.out] at this); replace HZZ := Lib.hid (HZZ.out.same hg.size (fun q hq hlt => hg.block q hlt (fun e => by have := (HO1.out.lt q e.symm).1; have := HQZ.out q hq; omega))); replace HB := Lib.hid (HB.out.grown hg HB.out.size (fun q hq => Nat.le_trans HZ0.out (HO1.out.lt q hq).1)); clear ho hg hat)
              | ((with_reducible refine at_slot 96 ?_); refine wl_call rfl rfl Try.func17 (by kernel_rfl) rfl (sl_yes v94 vz (l.filter (inB a c)) (Nat.le_trans HF3.out (by omega)) _ HO2.out HZZ.out) rfl ?_; intro V96 hb; replace HB := Lib.hid (below_tr HB.out hb); clear hb))
            go_ret
            exact ⟨rfl, HB.out⟩
        · rw [ckE_no hc1] at HC1
          clear hc1
          by_cases hc2 : RawOk lost mark l l.length
          · rw [ckE_yes hc2] at HC2
            have HRT := Lib.hid hc2.rt
            clear hc2
            by_cases hbad : 0 < lost ∧ a ≤ mark
            · have HBAD := Lib.hid hbad
              clear hbad
              by_cases hy : b ≤ mark
              · have HY := Lib.hid hy
                clear hy
                go_enter Try.func6, Try.ntmps6
                go_wp2_with (first
                  | ((with_reducible refine at_slot 4 ?_); refine wl_box (A := #[.int .i64 lost, .int .i64 mark, .slice ao l.length cap]) rfl rfl rfl ?_; intro W1 g4 k4 hb hle4; have HB := Lib.hid hb; clear hb)
                  | ((with_reducible refine at_slot 15 ?_); refine wl_call rfl rfl Try.func19 (by kernel_rfl) rfl (begins6 _) rfl ?_; intro V15 hb; replace k4 := k4.keep hb; replace HB := Lib.hid (below_tr HB.out hb); clear hb)
                  | ((with_reducible refine at_slot 18 ?_); refine wl_ld1 (v := (.slice ao l.length cap)) rfl rfl rfl k4 Try.underlying22 rfl rfl ?_)
                  | ((with_reducible refine at_slot 32 ?_); refine wl_ld0 rfl rfl rfl k4 Try.underlying24 rfl rw_size ?_)
                  | ((with_reducible refine at_slot 33 ?_); refine wl_call rfl rfl Try.func14 (by kernel_rfl) rfl (HC1.out _ (HL.out.keep HB.out)) rfl ?_; intro V33 hb; replace k4 := k4.keep hb; replace HB := Lib.hid (below_tr HB.out hb); clear hb)
                  | ((with_reducible refine at_slot 36 ?_); refine wl_ld0 rfl rfl rfl k4 Try.underlying24 rfl rw_size ?_)
                  | ((with_reducible refine at_slot 38 ?_); refine wl_ld1 (v := (.slice ao l.length cap)) rfl rfl rfl k4 Try.underlying22 rfl rfl ?_)
                  | ((with_reducible refine at_slot 40 ?_); refine wl_call rfl rfl Try.func14 (by kernel_rfl) rfl (HC2.out _ (HL.out.keep HB.out)) rfl ?_; intro V40 hb; replace k4 := k4.keep hb; replace HB := Lib.hid (below_tr HB.out hb); clear hb)
                  | ((with_reducible refine at_slot 45 ?_); refine wl_ld0 rfl rfl rfl k4 Try.underlying24 rfl rw_size ?_)
                  | ((with_reducible refine at_slot 48 ?_); refine wl_call rfl rfl Try.func10 (by kernel_rfl) rfl (rg_old lost mark (.slice ao l.length cap) a b hab HBAD.out.1 HBAD.out.2 _) rfl ?_; intro V48 hb; replace k4 := k4.keep hb; replace HB := Lib.hid (below_tr HB.out hb); clear hb)
                  | ((with_reducible refine at_slot 52 ?_); refine wl_ld0 rfl rfl rfl k4 Try.underlying24 rfl rw_size ?_)
                  | ((with_reducible refine at_slot 55 ?_); refine wl_call rfl rfl Try.func10 (by kernel_rfl) rfl (rg_old lost mark (.slice ao l.length cap) b c hbc HBAD.out.1 HY.out _) rfl ?_; intro V55 hb; replace k4 := k4.keep hb; replace HB := Lib.hid (below_tr HB.out hb); clear hb)
                  | ((with_reducible refine at_slot 59 ?_); refine wl_ld0 rfl rfl rfl k4 Try.underlying24 rfl rw_size ?_)
                  | ((with_reducible refine at_slot 62 ?_); refine wl_call rfl rfl Try.func10 (by kernel_rfl) rfl (rg_old lost mark (.slice ao l.length cap) a c hac HBAD.out.1 HBAD.out.2 _) rfl ?_; intro V62 hb; replace k4 := k4.keep hb; replace HB := Lib.hid (below_tr HB.out hb); clear hb))
                go_ret
                exact ⟨rfl, HB.out⟩
              · have HY := Lib.hid (show ¬ (0 < lost ∧ b ≤ mark) from fun h => hy h.2)
                clear hy
                go_enter Try.func6, Try.ntmps6
                go_wp2_with (first
                  | ((with_reducible refine at_slot 4 ?_); refine wl_box (A := #[.int .i64 lost, .int .i64 mark, .slice ao l.length cap]) rfl rfl rfl ?_; intro W1 g4 k4 hb hle4; have HB := Lib.hid hb; clear hb)
                  | ((with_reducible refine at_slot 15 ?_); refine wl_call rfl rfl Try.func19 (by kernel_rfl) rfl (begins6 _) rfl ?_; intro V15 hb; replace k4 := k4.keep hb; replace HB := Lib.hid (below_tr HB.out hb); clear hb)
                  | ((with_reducible refine at_slot 18 ?_); refine wl_ld1 (v := (.slice ao l.length cap)) rfl rfl rfl k4 Try.underlying22 rfl rfl ?_)
                  | ((with_reducible refine at_slot 32 ?_); refine wl_ld0 rfl rfl rfl k4 Try.underlying24 rfl rw_size ?_)
                  | ((with_reducible refine at_slot 33 ?_); refine wl_call rfl rfl Try.func14 (by kernel_rfl) rfl (HC1.out _ (HL.out.keep HB.out)) rfl ?_; intro V33 hb; replace k4 := k4.keep hb; replace HB := Lib.hid (below_tr HB.out hb); clear hb)
                  | ((with_reducible refine at_slot 36 ?_); refine wl_ld0 rfl rfl rfl k4 Try.underlying24 rfl rw_size ?_)
                  | ((with_reducible refine at_slot 38 ?_); refine wl_ld1 (v := (.slice ao l.length cap)) rfl rfl rfl k4 Try.underlying22 rfl rfl ?_)
                  | ((with_reducible refine at_slot 40 ?_); refine wl_call rfl rfl Try.func14 (by kernel_rfl) rfl (HC2.out _ (HL.out.keep HB.out)) rfl ?_; intro V40 hb; replace k4 := k4.keep hb; replace HB := Lib.hid (below_tr HB.out hb); clear hb)
                  | ((with_reducible refine at_slot 45 ?_); refine wl_ld0 rfl rfl rfl k4 Try.underlying24 rfl rw_size ?_)
                  | ((with_reducible refine at_slot 48 ?_); refine wl_call rfl rfl Try.func10 (by kernel_rfl) rfl (rg_old lost mark (.slice ao l.length cap) a b hab HBAD.out.1 HBAD.out.2 _) rfl ?_; intro V48 hb; replace k4 := k4.keep hb; replace HB := Lib.hid (below_tr HB.out hb); clear hb)
                  | ((with_reducible refine at_slot 52 ?_); refine wl_ld0 rfl rfl rfl k4 Try.underlying24 rfl rw_size ?_)
                  | ((with_reducible refine at_slot 55 ?_); refine wl_callx rfl rfl Try.func10 (by kernel_rfl) rfl (rg_ok lost mark (.slice ao l.length cap) l hl6 b c hbc HY.out _ (HL.out.keep HB.out)) rfl ?_; intro vy V55 hR; have HO55 := Lib.hid (own_weak hR.1 (Nat.zero_le _)); replace k4 := k4.keep hR.2; replace HB := Lib.hid (below_tr HB.out hR.2); clear hR)
                  | ((with_reducible refine at_slot 59 ?_); refine wl_ld0 rfl rfl rfl k4 Try.underlying24 rfl rw_size ?_)
                  | ((with_reducible refine at_slot 62 ?_); refine wl_call rfl rfl Try.func10 (by kernel_rfl) rfl (rg_old lost mark (.slice ao l.length cap) a c hac HBAD.out.1 HBAD.out.2 _) rfl ?_; intro V62 hb; replace k4 := k4.keep hb; replace HB := Lib.hid (below_tr HB.out hb); clear hb))
                go_ret
                exact ⟨rfl, HB.out⟩
            · have HN := Lib.hid hbad
              have HN2 := Lib.hid (show ¬ (0 < lost ∧ b ≤ mark) from fun h => hbad ⟨h.1, by omega⟩)
              have HJN := Lib.hid (join_two (rt_pair HRT.out) hab hbc)
              have hf1 := HF1.out
              have hf2 := HF2.out
              clear hbad
              go_enter Try.func6, Try.ntmps6
              go_wp2_with (first
                | ((with_reducible refine at_slot 4 ?_); refine wl_box (A := #[.int .i64 lost, .int .i64 mark, .slice ao l.length cap]) rfl rfl rfl ?_; intro W1 g4 k4 hb hle4; have HB := Lib.hid hb; clear hb)
                | ((with_reducible refine at_slot 15 ?_); refine wl_call rfl rfl Try.func19 (by kernel_rfl) rfl (begins6 _) rfl ?_; intro V15 hb; replace k4 := k4.keep hb; replace HB := Lib.hid (below_tr HB.out hb); clear hb)
                | ((with_reducible refine at_slot 18 ?_); refine wl_ld1 (v := (.slice ao l.length cap)) rfl rfl rfl k4 Try.underlying22 rfl rfl ?_)
                | ((with_reducible refine at_slot 32 ?_); refine wl_ld0 rfl rfl rfl k4 Try.underlying24 rfl rw_size ?_)
                | ((with_reducible refine at_slot 33 ?_); refine wl_call rfl rfl Try.func14 (by kernel_rfl) rfl (HC1.out _ (HL.out.keep HB.out)) rfl ?_; intro V33 hb; replace k4 := k4.keep hb; replace HB := Lib.hid (below_tr HB.out hb); clear hb)
                | ((with_reducible refine at_slot 36 ?_); refine wl_ld0 rfl rfl rfl k4 Try.underlying24 rfl rw_size ?_)
                | ((with_reducible refine at_slot 38 ?_); refine wl_ld1 (v := (.slice ao l.length cap)) rfl rfl rfl k4 Try.underlying22 rfl rfl ?_)
                | ((with_reducible refine at_slot 40 ?_); refine wl_call rfl rfl Try.func14 (by kernel_rfl) rfl (HC2.out _ (HL.out.keep HB.out)) rfl ?_; intro V40 hb; replace k4 := k4.keep hb; replace HB := Lib.hid (below_tr HB.out hb); clear hb)
                | ((with_reducible refine at_slot 45 ?_); refine wl_ld0 rfl rfl rfl k4 Try.underlying24 rfl rw_size ?_)
                | ((with_reducible refine at_slot 48 ?_); refine wl_callx rfl rfl Try.func10 (by kernel_rfl) rfl (rg_ok lost mark (.slice ao l.length cap) l hl6 a b hab HN.out _ (HL.out.keep HB.out)) rfl ?_; intro vx V48 hR; have HO48 := Lib.hid (own_weak hR.1 (Nat.zero_le _)); replace k4 := k4.keep hR.2; replace HB := Lib.hid (below_tr HB.out hR.2); clear hR)
                | ((with_reducible refine at_slot 52 ?_); refine wl_ld0 rfl rfl rfl k4 Try.underlying24 rfl rw_size ?_)
                | ((with_reducible refine at_slot 55 ?_); refine wl_callx rfl rfl Try.func10 (by kernel_rfl) rfl (rg_ok lost mark (.slice ao l.length cap) l hl6 b c hbc HN2.out _ (HL.out.keep HB.out)) rfl ?_; intro vy V55 hR; replace HO48 := Lib.hid (own_keep HO48.out hR.2); have HO55 := Lib.hid (own_weak hR.1 (Nat.zero_le _)); replace k4 := k4.keep hR.2; replace HB := Lib.hid (below_tr HB.out hR.2); clear hR)
                | ((with_reducible refine at_slot 59 ?_); refine wl_ld0 rfl rfl rfl k4 Try.underlying24 rfl rw_size ?_)
                | ((with_reducible refine at_slot 62 ?_); refine wl_callx rfl rfl Try.func10 (by kernel_rfl) rfl (rg_ok lost mark (.slice ao l.length cap) l hl6 a c hac HN.out _ (HL.out.keep HB.out)) rfl ?_; intro vz V62 hR; replace HO48 := Lib.hid (own_keep HO48.out hR.2); replace HO55 := Lib.hid (own_keep HO55.out hR.2); have HO62 := Lib.hid (own_weak hR.1 (Nat.zero_le _)); replace k4 := k4.keep hR.2; replace HB := Lib.hid (below_tr HB.out hR.2); clear hR)
                | ((with_reducible refine at_slot 90 ?_); refine wl_bslice (A := #[]) rfl rfl (e_bs0 _) rfl ?_; intro W91 gc kc hb hle9; have HO0 := Lib.hid (e_own0 kc hle9); have HX := Lib.hid ((own_lst cE_len HO48.out rfl).keep hb); have HY := Lib.hid ((own_lst cE_len HO55.out rfl).keep hb); have HZZ := Lib.hid ((own_lst cE_len HO62.out rfl).keep hb); have HQY := Lib.hid (fun q hq => (HO55.out.lt q hq).2); have HQZ := Lib.hid (fun q hq => (HO62.out.lt q hq).2); have HZ0 := Lib.hid HB.out.size; have HZ := Lib.hid hb.size; replace HB := Lib.hid (below_tr HB.out hb); clear hb kc)
                | ((with_reducible refine at_slot 92 ?_); refine wl_app (c := cE) (xs := []) (ys := (l.filter (inB a b))) rfl rfl cE_len (by decide) cE_one V62.heap.size 27 i0 _ 32 Try.underlying22 HI0.out.1 HI0.out.2.1 HI0.out.2.2.1 HI0.out.2.2.2 rfl rfl rfl HO0.out HX.out (by unfold maxLen; omega) (by omega) HZ.out ?_; intro v92 W92 ho hg hat; have HO1 := Lib.hid (show W92.ownsRow V62.heap.size 27 4 v92 (l.filter (inB a b)).length (fl cE (l.filter (inB a b))) from by rw [Nat.zero_add, List.nil_append] at ho; exact ho); replace HY := Lib.hid (HY.out.same hg.size (fun q hq hlt => hg.block q hlt (fun e => by have := (HO0.out.lt q e.symm).1; have := HQY.out q hq; omega))); replace HZZ := Lib.hid (HZZ.out.same hg.size (fun q hq hlt => hg.block q hlt (fun e => by have := (HO0.out.lt q e.symm).1; have := HQZ.out q hq; omega))); replace HB := Lib.hid (HB.out.grown hg HB.out.size (fun q hq => Nat.le_trans HZ0.out (HO0.out.lt q hq).1)); replace HZ := Lib.hid (Nat.le_trans HZ.out hg.size); clear ho hg hat)
                | ((with_reducible refine at_slot 94 ?_); refine wl_app (c := cE) (xs := (l.filter (inB a b))) (ys := (l.filter (inB b c))) rfl rfl cE_len (by decide) cE_one V62.heap.size 27 i0 _ 32 Try.underlying22 HI0.out.1 HI0.out.2.1 HI0.out.2.2.1 HI0.out.2.2.2 rfl rfl rfl HO1.out HY.out (by unfold maxLen; omega) (by omega) HZ.out ?_; intro v94 W94 ho hg hat; have HO2 := Lib.hid (show Lst 4 cE W94 v94 (l.filter (inB a c)) from by have := own_lst (xs := (l.filter (inB a b)) ++ (l.filter (inB b c))) cE_len ho (by rw [List.length_append]); rwa [HJN.out] at this); replace HZZ := Lib.hid (HZZ.out.same hg.size (fun q hq hlt => hg.block q hlt (fun e => by have := (HO1.out.lt q e.symm).1; have := HQZ.out q hq; omega))); replace HB := Lib.hid (HB.out.grown hg HB.out.size (fun q hq => Nat.le_trans HZ0.out (HO1.out.lt q hq).1)); clear ho hg hat)
                | ((with_reducible refine at_slot 96 ?_); refine wl_call rfl rfl Try.func17 (by kernel_rfl) rfl (sl_yes v94 vz (l.filter (inB a c)) (Nat.le_trans HF3.out (by omega)) _ HO2.out HZZ.out) rfl ?_; intro V96 hb; replace HB := Lib.hid (below_tr HB.out hb); clear hb))
              go_ret
              exact ⟨rfl, HB.out⟩
          · rw [ckE_no hc2] at HC2
            clear hc2
            go_enter Try.func6, Try.ntmps6
            go_wp2_with (first
              | ((with_reducible refine at_slot 4 ?_); refine wl_box (A := #[.int .i64 lost, .int .i64 mark, .slice ao l.length cap]) rfl rfl rfl ?_; intro W1 g4 k4 hb hle4; have HB := Lib.hid hb; clear hb)
              | ((with_reducible refine at_slot 15 ?_); refine wl_call rfl rfl Try.func19 (by kernel_rfl) rfl (begins6 _) rfl ?_; intro V15 hb; replace k4 := k4.keep hb; replace HB := Lib.hid (below_tr HB.out hb); clear hb)
              | ((with_reducible refine at_slot 18 ?_); refine wl_ld1 (v := (.slice ao l.length cap)) rfl rfl rfl k4 Try.underlying22 rfl rfl ?_)
              | ((with_reducible refine at_slot 32 ?_); refine wl_ld0 rfl rfl rfl k4 Try.underlying24 rfl rw_size ?_)
              | ((with_reducible refine at_slot 33 ?_); refine wl_call rfl rfl Try.func14 (by kernel_rfl) rfl (HC1.out _ (HL.out.keep HB.out)) rfl ?_; intro V33 hb; replace k4 := k4.keep hb; replace HB := Lib.hid (below_tr HB.out hb); clear hb)
              | ((with_reducible refine at_slot 36 ?_); refine wl_ld0 rfl rfl rfl k4 Try.underlying24 rfl rw_size ?_)
              | ((with_reducible refine at_slot 38 ?_); refine wl_ld1 (v := (.slice ao l.length cap)) rfl rfl rfl k4 Try.underlying22 rfl rfl ?_)
              | ((with_reducible refine at_slot 40 ?_); refine wl_call rfl rfl Try.func14 (by kernel_rfl) rfl (HC2.out _ (HL.out.keep HB.out)) rfl ?_; intro V40 hb; replace k4 := k4.keep hb; replace HB := Lib.hid (below_tr HB.out hb); clear hb))
            go_ret
            exact ⟨rfl, HB.out⟩
end Go.Proofs.Ytohkioakipjanaa
