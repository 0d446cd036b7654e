/-
  WALKS: raw events: isRightLoss, Check, Last.
-/
import Derived.Test.YtohkioakipjanaaRwa
namespace Go.Proofs.Ytohkioakipjanaa
open Go Go.RowKit

theorem rw_size : (Try.prog.info? 24).map (·.size) = some 3 := by kernel_rfl
theorem rw_zero : (Try.prog.info? 24).map (·.zero) = some (some (.agg #[.int .i64 0, .int .i64 0, .slice none 0 0])) := by kernel_rfl
theorem rw_one (a b : Int) (v : Value) (hv : v.oneCell' = true) : (#[.int .i64 a, .int .i64 b, v] : Array Value).all (·.oneCell') = true := by simp [hv]; simp [Value.oneCell']
theorem sl_one {v : Value} (h : ∃ ao n cap, v = .slice ao n cap) : v.oneCell' = true ∧ v.cells = #[v] := by
  obtain ⟨ao, n, cap, rfl⟩ := h
  exact ⟨rfl, rfl⟩
theorem lst_one {α : Type} {k : Nat} {c : α → List Value} {w : World} {v : Value} {xs : List α} (h : Lst k c w v xs) : v.oneCell' = true ∧ v.cells = #[v] := by
  obtain ⟨ao, cap, e⟩ := h.sl
  exact sl_one ⟨_, _, _, e⟩
/-- What may have been lost. -/
def RlP (lost mark : Int) (l : List Ev) (room : Int) : Prop := (lost = 0 ∧ mark = 0) ∨ (lost ≠ 0 ∧ 0 ≤ lost ∧ lost ≤ 70368744177664 ∧ l.length = room ∧ 0 ≤ mark ∧ ∃ e, l[0]? = some e ∧ mark < e.t)
open Classical in
noncomputable def rlB (lost mark : Int) (l : List Ev) (room : Int) : Bool := decide (RlP lost mark l room)
theorem rlB_yes {lost mark room : Int} {l : List Ev} (h : RlP lost mark l room) : rlB lost mark l room = true := by unfold rlB; simpa using h
theorem rlB_no {lost mark room : Int} {l : List Ev} (h : ¬ RlP lost mark l room) : rlB lost mark l room = false := by unfold rlB; simpa using h
set_option maxHeartbeats 4000000 in
set_option maxRecDepth 100000 in
theorem rl_any (lost mark : Int) (v : Value) (l : List Ev) (hl : l.length ≤ 9223372036854775807) (room : Int) (hr : 1 ≤ room) (w : World) (h : Lst 4 cE w v l) :
    Calls Try.prog 32 #[.agg #[.int .i64 lost, .int .i64 mark, v], .int .i64 room] w fun e w' => e = .returned (.bool (rlB lost mark l room)) ∧ Below w.heap.size w w' := by
  have HL := Lib.hid h
  have HSL := Lib.hid h.sl
  have HMM := hl
  have HB := Lib.hid (Below.refl w.heap.size w)
  clear h
  by_cases h0 : lost = 0
  · have d0 : (lost == 0) = true := by simpa using h0
    have H0 := Lib.hid h0
    clear h0
    by_cases hm : mark = 0
    · have HP := Lib.hid (show RlP lost mark l room from Or.inl ⟨H0.out, hm⟩)
      have hmb : (mark == 0) = true := by simpa using hm
      clear hm
      go_enter Try.func32, Try.ntmps32
      go_wp2_with (first
        | ((with_reducible refine at_slot 2 ?_); refine wl_box (A := #[.int .i64 lost, .int .i64 mark, v]) rfl rfl rfl ?_; intro W1 g2 k2 hb hle2; replace HB := Lib.hid (below_tr HB.out hb); have HL1 := Lib.hid (HL.out.keep hb); clear hb)
        | ((with_reducible refine at_slot 6 ?_); refine wl_ld1 (v := .int .i64 lost) rfl rfl rfl k2 Try.underlying2 rfl rfl ?_)
        | ((with_reducible refine at_slot 9 ?_); refine wl_ld1 (v := .int .i64 mark) rfl rfl rfl k2 Try.underlying2 rfl rfl ?_)
        | ((with_reducible refine at_slot 12 ?_); refine wl_ld1 (v := .int .i64 lost) rfl rfl rfl k2 Try.underlying2 rfl rfl ?_)
        | ((with_reducible refine at_slot 16 ?_); refine wl_ld1 (v := .int .i64 lost) rfl rfl rfl k2 Try.underlying2 rfl rfl ?_)
        | ((with_reducible refine at_slot 21 ?_); refine wl_ld1 (v := v) rfl rfl rfl k2 Try.underlying22 rfl rfl ?_)
        | ((with_reducible refine at_slot 22 ?_); refine wl_lenL rfl rfl rfl Try.underlying22 HSL.out ?_))
      go_ret
      exact ⟨ret_bool (rlB_yes HP.out).symm, HB.out⟩
    · have HP := Lib.hid (show ¬ RlP lost mark l room from by rintro (h | h); exact hm h.2; exact h.1 H0.out)
      have hmb : (mark == 0) = false := by simpa using hm
      clear hm
      go_enter Try.func32, Try.ntmps32
      go_wp2_with (first
        | ((with_reducible refine at_slot 2 ?_); refine wl_box (A := #[.int .i64 lost, .int .i64 mark, v]) rfl rfl rfl ?_; intro W1 g2 k2 hb hle2; replace HB := Lib.hid (below_tr HB.out hb); have HL1 := Lib.hid (HL.out.keep hb); clear hb)
        | ((with_reducible refine at_slot 6 ?_); refine wl_ld1 (v := .int .i64 lost) rfl rfl rfl k2 Try.underlying2 rfl rfl ?_)
        | ((with_reducible refine at_slot 9 ?_); refine wl_ld1 (v := .int .i64 mark) rfl rfl rfl k2 Try.underlying2 rfl rfl ?_)
        | ((with_reducible refine at_slot 12 ?_); refine wl_ld1 (v := .int .i64 lost) rfl rfl rfl k2 Try.underlying2 rfl rfl ?_)
        | ((with_reducible refine at_slot 16 ?_); refine wl_ld1 (v := .int .i64 lost) rfl rfl rfl k2 Try.underlying2 rfl rfl ?_)
        | ((with_reducible refine at_slot 21 ?_); refine wl_ld1 (v := v) rfl rfl rfl k2 Try.underlying22 rfl rfl ?_)
        | ((with_reducible refine at_slot 22 ?_); refine wl_lenL rfl rfl rfl Try.underlying22 HSL.out ?_))
      go_ret
      exact ⟨ret_bool (rlB_no HP.out).symm, HB.out⟩
  · have d0 : (lost == 0) = false := by simpa using h0
    have HNZ := Lib.hid h0
    by_cases h1 : lost < 0
    · have HP := Lib.hid (show ¬ RlP lost mark l room from by rintro (h | h); exact h0 h.1; have := h.2.1; omega)
      clear h0
      go_enter Try.func32, Try.ntmps32
      go_wp2_with (first
        | ((with_reducible refine at_slot 2 ?_); refine wl_box (A := #[.int .i64 lost, .int .i64 mark, v]) rfl rfl rfl ?_; intro W1 g2 k2 hb hle2; replace HB := Lib.hid (below_tr HB.out hb); have HL1 := Lib.hid (HL.out.keep hb); clear hb)
        | ((with_reducible refine at_slot 6 ?_); refine wl_ld1 (v := .int .i64 lost) rfl rfl rfl k2 Try.underlying2 rfl rfl ?_)
        | ((with_reducible refine at_slot 9 ?_); refine wl_ld1 (v := .int .i64 mark) rfl rfl rfl k2 Try.underlying2 rfl rfl ?_)
        | ((with_reducible refine at_slot 12 ?_); refine wl_ld1 (v := .int .i64 lost) rfl rfl rfl k2 Try.underlying2 rfl rfl ?_)
        | ((with_reducible refine at_slot 16 ?_); refine wl_ld1 (v := .int .i64 lost) rfl rfl rfl k2 Try.underlying2 rfl rfl ?_)
        | ((with_reducible refine at_slot 21 ?_); refine wl_ld1 (v := v) rfl rfl rfl k2 Try.underlying22 rfl rfl ?_)
        | ((with_reducible refine at_slot 22 ?_); refine wl_lenL rfl rfl rfl Try.underlying22 HSL.out ?_))
      go_ret
      exact ⟨ret_bool (rlB_no HP.out).symm, HB.out⟩
    · by_cases h2 : 70368744177664 < lost
      · have HP := Lib.hid (show ¬ RlP lost mark l room from by rintro (h | h); exact h0 h.1; have := h.2.2.1; omega)
        have h2' : lost > 70368744177664 := h2
        clear h0 h2
        go_enter Try.func32, Try.ntmps32
        go_wp2_with (first
          | ((with_reducible refine at_slot 2 ?_); refine wl_box (A := #[.int .i64 lost, .int .i64 mark, v]) rfl rfl rfl ?_; intro W1 g2 k2 hb hle2; replace HB := Lib.hid (below_tr HB.out hb); have HL1 := Lib.hid (HL.out.keep hb); clear hb)
          | ((with_reducible refine at_slot 6 ?_); refine wl_ld1 (v := .int .i64 lost) rfl rfl rfl k2 Try.underlying2 rfl rfl ?_)
          | ((with_reducible refine at_slot 9 ?_); refine wl_ld1 (v := .int .i64 mark) rfl rfl rfl k2 Try.underlying2 rfl rfl ?_)
          | ((with_reducible refine at_slot 12 ?_); refine wl_ld1 (v := .int .i64 lost) rfl rfl rfl k2 Try.underlying2 rfl rfl ?_)
          | ((with_reducible refine at_slot 16 ?_); refine wl_ld1 (v := .int .i64 lost) rfl rfl rfl k2 Try.underlying2 rfl rfl ?_)
          | ((with_reducible refine at_slot 21 ?_); refine wl_ld1 (v := v) rfl rfl rfl k2 Try.underlying22 rfl rfl ?_)
          | ((with_reducible refine at_slot 22 ?_); refine wl_lenL rfl rfl rfl Try.underlying22 HSL.out ?_))
        go_ret
        exact ⟨ret_bool (rlB_no HP.out).symm, HB.out⟩
      · have h2' : ¬ lost > 70368744177664 := h2
        by_cases h3 : (l.length : Int) = room
        · have d3 : ((l.length : Int) != room) = false := by simpa using h3
          have H3 := Lib.hid h3
          have hl0 : 0 < l.length := by omega
          have HGOOD := Lib.hid (show lost ≠ 0 ∧ 0 ≤ lost ∧ lost ≤ 70368744177664 from ⟨h0, by omega, by omega⟩)
          clear h0 h2 h3
          obtain ⟨ao, b, off, cap, rfl, hx1, hx2⟩ := HL.out.ex
          obtain ⟨rfl, hq1⟩ := hx1 hl0
          have hgx : l[0]? = some l[0] := List.getElem?_eq_getElem hl0
          have HKX0 := Lib.hid (hx2 0 _ hgx)
          obtain ⟨x, hx⟩ : ∃ x, x = l[0] := ⟨_, rfl⟩
          rw [← hx] at HKX0 hgx
          have HGX := Lib.hid hgx
          clear hx1 hx2 hx hgx
          by_cases hm : 0 ≤ mark
          · have HNG := Lib.hid hm
            have HEQ : Hid (decide (mark < x.t) = rlB lost mark l room) := Lib.hid (by
              by_cases hmx : mark < x.t
              · rw [rlB_yes (Or.inr ⟨HGOOD.out.1, HGOOD.out.2.1, HGOOD.out.2.2, H3.out, hm, x, HGX.out, hmx⟩)]; simpa using hmx
              · rw [rlB_no (by
                  rintro (h | ⟨_, _, _, _, _, e, he, hlt⟩)
                  · exact HGOOD.out.1 h.1
                  · rw [HGX.out] at he; cases he; exact hmx hlt)]; simpa using hmx)
            clear hm
            have HKXH := HKX0
            have hbq := hq1
            go_enter Try.func32, Try.ntmps32
            go_upto_region 5 with (first
              | ((with_reducible refine at_slot 2 ?_); refine wl_box (A := #[.int .i64 lost, .int .i64 mark, .slice (some ⟨b, off, none⟩) l.length cap]) rfl rfl rfl ?_; intro W1 g2 k2 hb hle2; replace HB := Lib.hid (below_tr HB.out hb); have HL1 := Lib.hid (HL.out.keep hb); clear hb)
              | ((with_reducible refine at_slot 6 ?_); refine wl_ld1 (v := .int .i64 lost) rfl rfl rfl k2 Try.underlying2 rfl rfl ?_)
              | ((with_reducible refine at_slot 9 ?_); refine wl_ld1 (v := .int .i64 mark) rfl rfl rfl k2 Try.underlying2 rfl rfl ?_)
              | ((with_reducible refine at_slot 12 ?_); refine wl_ld1 (v := .int .i64 lost) rfl rfl rfl k2 Try.underlying2 rfl rfl ?_)
              | ((with_reducible refine at_slot 16 ?_); refine wl_ld1 (v := .int .i64 lost) rfl rfl rfl k2 Try.underlying2 rfl rfl ?_)
              | ((with_reducible refine at_slot 21 ?_); refine wl_ld1 (v := .slice (some ⟨b, off, none⟩) l.length cap) rfl rfl rfl k2 Try.underlying22 rfl rfl ?_)
              | ((with_reducible refine at_slot 22 ?_); refine wl_lenL rfl rfl rfl Try.underlying22 HSL.out ?_))
            have HKX := Lib.hid (range_keep HKX0.out (HB.out.block b hq1))
            have hbW : b < W1.heap.size := Nat.lt_of_lt_of_le hq1 HB.out.size
            refine wp_region_held_drew (S := fun w' => Below W1.heap.size W1 w') (by kernel_rfl) (Below.refl _ _).drew (fun hS => ?_)
            refine wpAnyH_take (i := 0) (oi := ⟨some 26, _, _, _, _, _⟩) (v := .pointer (some ⟨g2, 1, none⟩)) rfl (by kernel_rfl) (by kernel_rfl) (by kernel_rfl) (fun _ _ _ h => h) (yi_ok rfl (fun _ => by go_simp)) hS ?_
            simp only [Act.put, List.setIfInBounds_toArray, List.set_cons_zero, List.set_cons_succ]
            refine wpAnyH_take (i := 1) (oi := ⟨some 27, _, _, _, _, _⟩) (v := .int .i64 mark) rfl (by kernel_rfl) (by kernel_rfl) (by kernel_rfl) (fun _ _ _ h => h) (yi_ld1 (v := .int .i64 mark) rfl rfl rfl (fun w' h => k2.keep h) Try.underlying2 rfl rfl) hS ?_
            simp only [Act.put, List.setIfInBounds_toArray, List.set_cons_zero, List.set_cons_succ]
            refine wpAnyH_take (i := 2) (oi := ⟨some 28, _, _, _, _, _⟩) (v := .bool true) rfl (by kernel_rfl) (by kernel_rfl) (by kernel_rfl) (fun _ _ _ h => h) (yi_bi rfl rfl rfl rfl (fun _ => rfl) (fun _ => leq_is (decide_eq_true HNG.out))) hS ?_
            simp only [Act.put, List.setIfInBounds_toArray, List.set_cons_zero, List.set_cons_succ]
            refine wpAnyH_take (i := 3) (oi := ⟨some 29, _, _, _, _, _⟩) (v := .bool true) rfl (by kernel_rfl) (by kernel_rfl) (by kernel_rfl) (fun _ _ _ h => h) (yi_mv (Or.inl rfl) rfl rfl) hS ?_
            simp only [Act.put, List.setIfInBounds_toArray, List.set_cons_zero, List.set_cons_succ]
            refine wpAnyH_take (i := 4) (oi := ⟨some 30, _, _, _, _, _⟩) (v := .pointer (some ⟨g2, 1, none⟩)) rfl (by kernel_rfl) (by kernel_rfl) (by kernel_rfl) (fun _ _ _ h => h) (yi_ok (by kernel_rfl) (fun _ => by go_simp)) hS ?_
            simp only [Act.put, List.setIfInBounds_toArray, List.set_cons_zero, List.set_cons_succ]
            refine wpAnyH_take (i := 5) (oi := ⟨some 31, _, _, _, _, _⟩) (v := .int .i64 mark) rfl (by kernel_rfl) (by kernel_rfl) (by kernel_rfl) (fun _ _ _ h => h) (yi_ld1 (v := .int .i64 mark) rfl (by kernel_rfl) rfl (fun w' h => k2.keep h) Try.underlying2 rfl rfl) hS ?_
            simp only [Act.put, List.setIfInBounds_toArray, List.set_cons_zero, List.set_cons_succ]
            refine wpAnyH_take (i := 6) (oi := ⟨some 32, _, _, _, _, _⟩) (v := .pointer (some ⟨g2, 2, none⟩)) rfl (by kernel_rfl) (by kernel_rfl) (by kernel_rfl) (fun _ _ _ h => h) (yi_ok (by kernel_rfl) (fun _ => by go_simp)) hS ?_
            simp only [Act.put, List.setIfInBounds_toArray, List.set_cons_zero, List.set_cons_succ]
            refine wpAnyH_take (i := 7) (oi := ⟨some 33, _, _, _, _, _⟩) (v := .slice (some ⟨b, off, none⟩) l.length cap) rfl (by kernel_rfl) (by kernel_rfl) (by kernel_rfl) (fun _ _ _ h => h) (yi_ld1 (v := .slice (some ⟨b, off, none⟩) l.length cap) rfl (by kernel_rfl) rfl (fun w' h => k2.keep h) Try.underlying22 rfl rfl) hS ?_
            simp only [Act.put, List.setIfInBounds_toArray, List.set_cons_zero, List.set_cons_succ]
            refine wpAnyH_take (i := 8) (oi := ⟨some 34, _, _, _, _, _⟩) (v := .pointer (some ⟨b, off + 0 * 4, none⟩)) rfl (by kernel_rfl) (by kernel_rfl) (by kernel_rfl) (fun _ _ _ h => h) (yi_ixo (i := 0) rfl (by kernel_rfl) rfl rfl Try.underlying22 rfl hl0 HMM) hS ?_
            simp only [Act.put, List.setIfInBounds_toArray, List.set_cons_zero, List.set_cons_succ]
            refine wpAnyH_take (i := 9) (oi := ⟨some 35, _, _, _, _, _⟩) (v := .pointer (some ⟨b, off + 0 * 4, none⟩)) rfl (by kernel_rfl) (by kernel_rfl) (by kernel_rfl) (fun _ _ _ h => h) (yi_ok (by kernel_rfl) (fun _ => by go_simp)) hS ?_
            simp only [Act.put, List.setIfInBounds_toArray, List.set_cons_zero, List.set_cons_succ]
            refine wpAnyH_take (i := 10) (oi := ⟨some 36, _, _, _, _, _⟩) (v := .int .i64 x.t) rfl (by kernel_rfl) (by kernel_rfl) (by kernel_rfl) (fun _ _ _ h => h) (yi_c rfl (by kernel_rfl) rfl (fun w' h => range_keep HKX.out (h.block b hbW) 0 _ rfl) Try.underlying2 rfl) hS ?_
            simp only [Act.put, List.setIfInBounds_toArray, List.set_cons_zero, List.set_cons_succ]
            refine wpAnyH_take (i := 11) (oi := ⟨some 37, _, _, _, _, _⟩) (v := .bool (decide (mark < x.t))) rfl (by kernel_rfl) (by kernel_rfl) (by kernel_rfl) (fun _ _ _ h => h) (yi_bi rfl (by kernel_rfl) rfl rfl (fun _ => rfl) (fun _ => lss_is rfl)) hS ?_
            simp only [Act.put, List.setIfInBounds_toArray, List.set_cons_zero, List.set_cons_succ]
            refine wpAnyH_take (i := 12) (oi := ⟨some 38, _, _, _, _, _⟩) (v := .bool (decide (mark < x.t))) rfl (by kernel_rfl) (by kernel_rfl) (by kernel_rfl) (fun _ _ _ h => h) (yi_pick1 rfl rfl rfl rfl) hS ?_
            simp only [Act.put, List.setIfInBounds_toArray, List.set_cons_zero, List.set_cons_succ]
            refine wpAnyH_take (i := 13) (oi := ⟨some 4, _, _, _, _, _⟩) (v := .bool (decide (mark < x.t))) rfl (by kernel_rfl) (by kernel_rfl) (by kernel_rfl) (fun _ _ _ h => h) (yi_mv (Or.inr rfl) rfl rfl) hS ?_
            simp only [Act.put, List.setIfInBounds_toArray, List.set_cons_zero, List.set_cons_succ]
            refine wpAnyH_done (by kernel_rfl) ?_ _
            replace HB := Lib.hid (below_tr HB.out hS)
            go_wp2_with fail
            go_ret
            exact ⟨ret_bool HEQ.out, HB.out⟩
          · have HNG := Lib.hid hm
            have HNO : Hid (¬ RlP lost mark l room) := Lib.hid (by
              rintro (h | ⟨_, _, _, _, h5, _⟩)
              · exact HGOOD.out.1 h.1
              · exact HNG.out h5)
            clear hm
            go_enter Try.func32, Try.ntmps32
            go_upto_region 5 with (first
              | ((with_reducible refine at_slot 2 ?_); refine wl_box (A := #[.int .i64 lost, .int .i64 mark, .slice (some ⟨b, off, none⟩) l.length cap]) rfl rfl rfl ?_; intro W1 g2 k2 hb hle2; replace HB := Lib.hid (below_tr HB.out hb); have HL1 := Lib.hid (HL.out.keep hb); clear hb)
              | ((with_reducible refine at_slot 6 ?_); refine wl_ld1 (v := .int .i64 lost) rfl rfl rfl k2 Try.underlying2 rfl rfl ?_)
              | ((with_reducible refine at_slot 9 ?_); refine wl_ld1 (v := .int .i64 mark) rfl rfl rfl k2 Try.underlying2 rfl rfl ?_)
              | ((with_reducible refine at_slot 12 ?_); refine wl_ld1 (v := .int .i64 lost) rfl rfl rfl k2 Try.underlying2 rfl rfl ?_)
              | ((with_reducible refine at_slot 16 ?_); refine wl_ld1 (v := .int .i64 lost) rfl rfl rfl k2 Try.underlying2 rfl rfl ?_)
              | ((with_reducible refine at_slot 21 ?_); refine wl_ld1 (v := .slice (some ⟨b, off, none⟩) l.length cap) rfl rfl rfl k2 Try.underlying22 rfl rfl ?_)
              | ((with_reducible refine at_slot 22 ?_); refine wl_lenL rfl rfl rfl Try.underlying22 HSL.out ?_))
            refine wp_region_held_drew (S := fun w' => Below W1.heap.size W1 w') (by kernel_rfl) (Below.refl _ _).drew (fun hS => ?_)
            refine wpAnyH_take (i := 0) (oi := ⟨some 26, _, _, _, _, _⟩) (v := .pointer (some ⟨g2, 1, none⟩)) rfl (by kernel_rfl) (by kernel_rfl) (by kernel_rfl) (fun _ _ _ h => h) (yi_ok rfl (fun _ => by go_simp)) hS ?_
            simp only [Act.put, List.setIfInBounds_toArray, List.set_cons_zero, List.set_cons_succ]
            refine wpAnyH_take (i := 1) (oi := ⟨some 27, _, _, _, _, _⟩) (v := .int .i64 mark) rfl (by kernel_rfl) (by kernel_rfl) (by kernel_rfl) (fun _ _ _ h => h) (yi_ld1 (v := .int .i64 mark) rfl rfl rfl (fun w' h => k2.keep h) Try.underlying2 rfl rfl) hS ?_
            simp only [Act.put, List.setIfInBounds_toArray, List.set_cons_zero, List.set_cons_succ]
            refine wpAnyH_take (i := 2) (oi := ⟨some 28, _, _, _, _, _⟩) (v := .bool false) rfl (by kernel_rfl) (by kernel_rfl) (by kernel_rfl) (fun _ _ _ h => h) (yi_bi rfl rfl rfl rfl (fun _ => rfl) (fun _ => leq_is (decide_eq_false HNG.out))) hS ?_
            simp only [Act.put, List.setIfInBounds_toArray, List.set_cons_zero, List.set_cons_succ]
            refine wpAnyH_take (i := 3) (oi := ⟨some 29, _, _, _, _, _⟩) (v := .bool false) rfl (by kernel_rfl) (by kernel_rfl) (by kernel_rfl) (fun _ _ _ h => h) (yi_mv (Or.inl rfl) rfl rfl) hS ?_
            simp only [Act.put, List.setIfInBounds_toArray, List.set_cons_zero, List.set_cons_succ]
            refine wpAnyH_take (i := 4) (oi := ⟨some 30, _, _, _, _, _⟩) (v := undef) rfl (by kernel_rfl) (by kernel_rfl) (by kernel_rfl) (fun _ _ _ h => h) (yi_no (by kernel_rfl)) hS ?_
            simp only [Act.put, List.setIfInBounds_toArray, List.set_cons_zero, List.set_cons_succ]
            refine wpAnyH_take (i := 5) (oi := ⟨some 31, _, _, _, _, _⟩) (v := undef) rfl (by kernel_rfl) (by kernel_rfl) (by kernel_rfl) (fun _ _ _ h => h) (yi_no (by kernel_rfl)) hS ?_
            simp only [Act.put, List.setIfInBounds_toArray, List.set_cons_zero, List.set_cons_succ]
            refine wpAnyH_take (i := 6) (oi := ⟨some 32, _, _, _, _, _⟩) (v := undef) rfl (by kernel_rfl) (by kernel_rfl) (by kernel_rfl) (fun _ _ _ h => h) (yi_no (by kernel_rfl)) hS ?_
            simp only [Act.put, List.setIfInBounds_toArray, List.set_cons_zero, List.set_cons_succ]
            refine wpAnyH_take (i := 7) (oi := ⟨some 33, _, _, _, _, _⟩) (v := undef) rfl (by kernel_rfl) (by kernel_rfl) (by kernel_rfl) (fun _ _ _ h => h) (yi_no (by kernel_rfl)) hS ?_
            simp only [Act.put, List.setIfInBounds_toArray, List.set_cons_zero, List.set_cons_succ]
            refine wpAnyH_take (i := 8) (oi := ⟨some 34, _, _, _, _, _⟩) (v := undef) rfl (by kernel_rfl) (by kernel_rfl) (by kernel_rfl) (fun _ _ _ h => h) (yi_no (by kernel_rfl)) hS ?_
            simp only [Act.put, List.setIfInBounds_toArray, List.set_cons_zero, List.set_cons_succ]
            refine wpAnyH_take (i := 9) (oi := ⟨some 35, _, _, _, _, _⟩) (v := undef) rfl (by kernel_rfl) (by kernel_rfl) (by kernel_rfl) (fun _ _ _ h => h) (yi_no (by kernel_rfl)) hS ?_
            simp only [Act.put, List.setIfInBounds_toArray, List.set_cons_zero, List.set_cons_succ]
            refine wpAnyH_take (i := 10) (oi := ⟨some 36, _, _, _, _, _⟩) (v := undef) rfl (by kernel_rfl) (by kernel_rfl) (by kernel_rfl) (fun _ _ _ h => h) (yi_no (by kernel_rfl)) hS ?_
            simp only [Act.put, List.setIfInBounds_toArray, List.set_cons_zero, List.set_cons_succ]
            refine wpAnyH_take (i := 11) (oi := ⟨some 37, _, _, _, _, _⟩) (v := undef) rfl (by kernel_rfl) (by kernel_rfl) (by kernel_rfl) (fun _ _ _ h => h) (yi_no (by kernel_rfl)) hS ?_
            simp only [Act.put, List.setIfInBounds_toArray, List.set_cons_zero, List.set_cons_succ]
            refine wpAnyH_take (i := 12) (oi := ⟨some 38, _, _, _, _, _⟩) (v := .bool false) rfl (by kernel_rfl) (by kernel_rfl) (by kernel_rfl) (fun _ _ _ h => h) (yi_pick0 rfl rfl rfl rfl) hS ?_
            simp only [Act.put, List.setIfInBounds_toArray, List.set_cons_zero, List.set_cons_succ]
            refine wpAnyH_take (i := 13) (oi := ⟨some 4, _, _, _, _, _⟩) (v := .bool false) rfl (by kernel_rfl) (by kernel_rfl) (by kernel_rfl) (fun _ _ _ h => h) (yi_mv (Or.inr rfl) rfl rfl) hS ?_
            simp only [Act.put, List.setIfInBounds_toArray, List.set_cons_zero, List.set_cons_succ]
            refine wpAnyH_done (by kernel_rfl) ?_ _
            replace HB := Lib.hid (below_tr HB.out hS)
            go_wp2_with fail
            go_ret
            exact ⟨ret_bool (rlB_no HNO.out).symm, HB.out⟩
        · have d3 : ((l.length : Int) != room) = true := by simpa using h3
          have HP := Lib.hid (show ¬ RlP lost mark l room from by rintro (h | h); exact h0 h.1; exact h3 h.2.2.2.1)
          clear h0 h2 h3
          go_enter Try.func32, Try.ntmps32
          go_wp2_with (first
            | ((with_reducible refine at_slot 2 ?_); refine wl_box (A := #[.int .i64 lost, .int .i64 mark, v]) rfl rfl rfl ?_; intro W1 g2 k2 hb hle2; replace HB := Lib.hid (below_tr HB.out hb); have HL1 := Lib.hid (HL.out.keep hb); clear hb)
            | ((with_reducible refine at_slot 6 ?_); refine wl_ld1 (v := .int .i64 lost) rfl rfl rfl k2 Try.underlying2 rfl rfl ?_)
            | ((with_reducible refine at_slot 9 ?_); refine wl_ld1 (v := .int .i64 mark) rfl rfl rfl k2 Try.underlying2 rfl rfl ?_)
            | ((with_reducible refine at_slot 12 ?_); refine wl_ld1 (v := .int .i64 lost) rfl rfl rfl k2 Try.underlying2 rfl rfl ?_)
            | ((with_reducible refine at_slot 16 ?_); refine wl_ld1 (v := .int .i64 lost) rfl rfl rfl k2 Try.underlying2 rfl rfl ?_)
            | ((with_reducible refine at_slot 21 ?_); refine wl_ld1 (v := v) rfl rfl rfl k2 Try.underlying22 rfl rfl ?_)
            | ((with_reducible refine at_slot 22 ?_); refine wl_lenL rfl rfl rfl Try.underlying22 HSL.out ?_))
          go_ret
          exact ⟨ret_bool (rlB_no HP.out).symm, HB.out⟩

/-- Are raw events right for a room? -/
structure RawOk (lost mark : Int) (l : List Ev) (room : Int) : Prop where
  r1 : 1 ≤ room
  r2 : room ≤ 4096
  len : (l.length : Int) ≤ room
  rt : Rt l
  rl : RlP lost mark l room
open Classical in
noncomputable def ckE (lost mark : Int) (l : List Ev) (room : Int) : Int := if RawOk lost mark l room then 0 else 2
theorem ckE_yes {lost mark room : Int} {l : List Ev} (h : RawOk lost mark l room) : ckE lost mark l room = 0 := by unfold ckE; rw [if_pos h]
theorem ckE_no {lost mark room : Int} {l : List Ev} (h : ¬ RawOk lost mark l room) : ckE lost mark l room = 2 := by unfold ckE; rw [if_neg h]
theorem ret_int {a b : Int} (h : a = b) : Ending.returned (.int .i64 a) = .returned (.int .i64 b) := by rw [h]
set_option maxHeartbeats 4000000 in
set_option maxRecDepth 100000 in
theorem ck_any (lost mark : Int) (v : Value) (l : List Ev) (hl : l.length ≤ 9223372036854775807) (hin : AllIn l) (room : Int) (w : World) (h : Lst 4 cE w v l) :
    Calls Try.prog 14 #[.agg #[.int .i64 lost, .int .i64 mark, v], .int .i64 room] w fun e w' => e = .returned (.int .i64 (ckE lost mark l room)) ∧ Below w.heap.size w w' := by
  have HL := Lib.hid h
  have HSL := Lib.hid h.sl
  have HB := Lib.hid (Below.refl w.heap.size w)
  have HAR := Lib.hid (fun W (hL : Lst 4 cE W v l) => ar_any v l hl hin W hL)
  have HRL := Lib.hid (fun W (hr : 1 ≤ room) (hL : Lst 4 cE W v l) => rl_any lost mark v l hl room hr W hL)
  clear h hin
  by_cases h1 : room < 1
  · have HNO := Lib.hid (ckE_no (show ¬ RawOk lost mark l room from fun h => by have := h.r1; omega))
    go_enter Try.func14, Try.ntmps14
    go_wp2_with (first
      | ((with_reducible refine at_slot 2 ?_); refine wl_box (A := #[.int .i64 lost, .int .i64 mark, v]) rfl rfl rfl ?_; intro W1 g2 k2 hb hle2; replace HB := Lib.hid (below_tr HB.out hb); have HL1 := Lib.hid (HL.out.keep hb); clear hb)
      | ((with_reducible refine at_slot 13 ?_); refine wl_ld1 (v := v) rfl rfl rfl k2 Try.underlying22 rfl rfl ?_)
      | ((with_reducible refine at_slot 20 ?_); refine wl_ld1 (v := v) rfl rfl rfl k2 Try.underlying22 rfl rfl ?_)
      | ((with_reducible refine at_slot 14 ?_); refine wl_lenL rfl rfl rfl Try.underlying22 HSL.out ?_)
      | ((with_reducible refine at_slot 21 ?_); refine wl_call rfl rfl Try.func31 (by kernel_rfl) rfl (HAR.out _ HL1.out) rfl ?_; intro V3 hb; replace HB := Lib.hid (below_tr HB.out hb); replace k2 := k2.keep hb; replace HL1 := Lib.hid (HL1.out.keep hb); clear hb)
      | ((with_reducible refine at_slot 25 ?_); refine wl_ld0 rfl rfl rfl k2 Try.underlying24 rfl rw_size ?_)
      | ((with_reducible refine at_slot 27 ?_); refine wl_call rfl rfl Try.func32 (by kernel_rfl) rfl (HRL.out _ (by omega) HL1.out) rfl ?_; intro V4 hb; replace HB := Lib.hid (below_tr HB.out hb); clear hb))
    go_ret
    exact ⟨ret_int HNO.out.symm, HB.out⟩
  · by_cases h2 : 4096 < room
    · have HNO := Lib.hid (ckE_no (show ¬ RawOk lost mark l room from fun h => by have := h.r2; omega))
      have h2' : room > 4096 := h2
      go_enter Try.func14, Try.ntmps14
      go_wp2_with (first
        | ((with_reducible refine at_slot 2 ?_); refine wl_box (A := #[.int .i64 lost, .int .i64 mark, v]) rfl rfl rfl ?_; intro W1 g2 k2 hb hle2; replace HB := Lib.hid (below_tr HB.out hb); have HL1 := Lib.hid (HL.out.keep hb); clear hb)
        | ((with_reducible refine at_slot 13 ?_); refine wl_ld1 (v := v) rfl rfl rfl k2 Try.underlying22 rfl rfl ?_)
        | ((with_reducible refine at_slot 20 ?_); refine wl_ld1 (v := v) rfl rfl rfl k2 Try.underlying22 rfl rfl ?_)
        | ((with_reducible refine at_slot 14 ?_); refine wl_lenL rfl rfl rfl Try.underlying22 HSL.out ?_)
        | ((with_reducible refine at_slot 21 ?_); refine wl_call rfl rfl Try.func31 (by kernel_rfl) rfl (HAR.out _ HL1.out) rfl ?_; intro V3 hb; replace HB := Lib.hid (below_tr HB.out hb); replace k2 := k2.keep hb; replace HL1 := Lib.hid (HL1.out.keep hb); clear hb)
        | ((with_reducible refine at_slot 25 ?_); refine wl_ld0 rfl rfl rfl k2 Try.underlying24 rfl rw_size ?_)
        | ((with_reducible refine at_slot 27 ?_); refine wl_call rfl rfl Try.func32 (by kernel_rfl) rfl (HRL.out _ (by omega) HL1.out) rfl ?_; intro V4 hb; replace HB := Lib.hid (below_tr HB.out hb); clear hb))
      go_ret
      exact ⟨ret_int HNO.out.symm, HB.out⟩
    · have h2' : ¬ room > 4096 := h2
      by_cases h3 : room < l.length
      · have HNO := Lib.hid (ckE_no (show ¬ RawOk lost mark l room from fun h => by have := h.len; omega))
        have h3' : (l.length : Int) > room := h3
        go_enter Try.func14, Try.ntmps14
        go_wp2_with (first
          | ((with_reducible refine at_slot 2 ?_); refine wl_box (A := #[.int .i64 lost, .int .i64 mark, v]) rfl rfl rfl ?_; intro W1 g2 k2 hb hle2; replace HB := Lib.hid (below_tr HB.out hb); have HL1 := Lib.hid (HL.out.keep hb); clear hb)
          | ((with_reducible refine at_slot 13 ?_); refine wl_ld1 (v := v) rfl rfl rfl k2 Try.underlying22 rfl rfl ?_)
          | ((with_reducible refine at_slot 20 ?_); refine wl_ld1 (v := v) rfl rfl rfl k2 Try.underlying22 rfl rfl ?_)
          | ((with_reducible refine at_slot 14 ?_); refine wl_lenL rfl rfl rfl Try.underlying22 HSL.out ?_)
          | ((with_reducible refine at_slot 21 ?_); refine wl_call rfl rfl Try.func31 (by kernel_rfl) rfl (HAR.out _ HL1.out) rfl ?_; intro V3 hb; replace HB := Lib.hid (below_tr HB.out hb); replace k2 := k2.keep hb; replace HL1 := Lib.hid (HL1.out.keep hb); clear hb)
          | ((with_reducible refine at_slot 25 ?_); refine wl_ld0 rfl rfl rfl k2 Try.underlying24 rfl rw_size ?_)
          | ((with_reducible refine at_slot 27 ?_); refine wl_call rfl rfl Try.func32 (by kernel_rfl) rfl (HRL.out _ (by omega) HL1.out) rfl ?_; intro V4 hb; replace HB := Lib.hid (below_tr HB.out hb); clear hb))
        go_ret
        exact ⟨ret_int HNO.out.symm, HB.out⟩
      · have h3' : ¬ (l.length : Int) > room := h3
        by_cases h4 : Rt l
        · rw [rtB_yes h4] at HAR
          by_cases h5 : RlP lost mark l room
          · rw [rlB_yes h5] at HRL
            have HYES := Lib.hid (ckE_yes (show RawOk lost mark l room from ⟨by omega, by omega, by omega, h4, h5⟩))
            clear h4 h5
            go_enter Try.func14, Try.ntmps14
            go_wp2_with (first
              | ((with_reducible refine at_slot 2 ?_); refine wl_box (A := #[.int .i64 lost, .int .i64 mark, v]) rfl rfl rfl ?_; intro W1 g2 k2 hb hle2; replace HB := Lib.hid (below_tr HB.out hb); have HL1 := Lib.hid (HL.out.keep hb); clear hb)
              | ((with_reducible refine at_slot 13 ?_); refine wl_ld1 (v := v) rfl rfl rfl k2 Try.underlying22 rfl rfl ?_)
              | ((with_reducible refine at_slot 20 ?_); refine wl_ld1 (v := v) rfl rfl rfl k2 Try.underlying22 rfl rfl ?_)
              | ((with_reducible refine at_slot 14 ?_); refine wl_lenL rfl rfl rfl Try.underlying22 HSL.out ?_)
              | ((with_reducible refine at_slot 21 ?_); refine wl_call rfl rfl Try.func31 (by kernel_rfl) rfl (HAR.out _ HL1.out) rfl ?_; intro V3 hb; replace HB := Lib.hid (below_tr HB.out hb); replace k2 := k2.keep hb; replace HL1 := Lib.hid (HL1.out.keep hb); clear hb)
              | ((with_reducible refine at_slot 25 ?_); refine wl_ld0 rfl rfl rfl k2 Try.underlying24 rfl rw_size ?_)
              | ((with_reducible refine at_slot 27 ?_); refine wl_call rfl rfl Try.func32 (by kernel_rfl) rfl (HRL.out _ (by omega) HL1.out) rfl ?_; intro V4 hb; replace HB := Lib.hid (below_tr HB.out hb); clear hb))
            go_ret
            exact ⟨ret_int HYES.out.symm, HB.out⟩
          · rw [rlB_no h5] at HRL
            have HNO := Lib.hid (ckE_no (show ¬ RawOk lost mark l room from fun h => h5 h.rl))
            clear h4 h5
            go_enter Try.func14, Try.ntmps14
            go_wp2_with (first
              | ((with_reducible refine at_slot 2 ?_); refine wl_box (A := #[.int .i64 lost, .int .i64 mark, v]) rfl rfl rfl ?_; intro W1 g2 k2 hb hle2; replace HB := Lib.hid (below_tr HB.out hb); have HL1 := Lib.hid (HL.out.keep hb); clear hb)
              | ((with_reducible refine at_slot 13 ?_); refine wl_ld1 (v := v) rfl rfl rfl k2 Try.underlying22 rfl rfl ?_)
              | ((with_reducible refine at_slot 20 ?_); refine wl_ld1 (v := v) rfl rfl rfl k2 Try.underlying22 rfl rfl ?_)
              | ((with_reducible refine at_slot 14 ?_); refine wl_lenL rfl rfl rfl Try.underlying22 HSL.out ?_)
              | ((with_reducible refine at_slot 21 ?_); refine wl_call rfl rfl Try.func31 (by kernel_rfl) rfl (HAR.out _ HL1.out) rfl ?_; intro V3 hb; replace HB := Lib.hid (below_tr HB.out hb); replace k2 := k2.keep hb; replace HL1 := Lib.hid (HL1.out.keep hb); clear hb)
              | ((with_reducible refine at_slot 25 ?_); refine wl_ld0 rfl rfl rfl k2 Try.underlying24 rfl rw_size ?_)
              | ((with_reducible refine at_slot 27 ?_); refine wl_call rfl rfl Try.func32 (by kernel_rfl) rfl (HRL.out _ (by omega) HL1.out) rfl ?_; intro V4 hb; replace HB := Lib.hid (below_tr HB.out hb); clear hb))
            go_ret
            exact ⟨ret_int HNO.out.symm, HB.out⟩
        · rw [rtB_no h4] at HAR
          have HNO := Lib.hid (ckE_no (show ¬ RawOk lost mark l room from fun h => h4 h.rt))
          clear h4
          go_enter Try.func14, Try.ntmps14
          go_wp2_with (first
            | ((with_reducible refine at_slot 2 ?_); refine wl_box (A := #[.int .i64 lost, .int .i64 mark, v]) rfl rfl rfl ?_; intro W1 g2 k2 hb hle2; replace HB := Lib.hid (below_tr HB.out hb); have HL1 := Lib.hid (HL.out.keep hb); clear hb)
            | ((with_reducible refine at_slot 13 ?_); refine wl_ld1 (v := v) rfl rfl rfl k2 Try.underlying22 rfl rfl ?_)
            | ((with_reducible refine at_slot 20 ?_); refine wl_ld1 (v := v) rfl rfl rfl k2 Try.underlying22 rfl rfl ?_)
            | ((with_reducible refine at_slot 14 ?_); refine wl_lenL rfl rfl rfl Try.underlying22 HSL.out ?_)
            | ((with_reducible refine at_slot 21 ?_); refine wl_call rfl rfl Try.func31 (by kernel_rfl) rfl (HAR.out _ HL1.out) rfl ?_; intro V3 hb; replace HB := Lib.hid (below_tr HB.out hb); replace k2 := k2.keep hb; replace HL1 := Lib.hid (HL1.out.keep hb); clear hb)
            | ((with_reducible refine at_slot 25 ?_); refine wl_ld0 rfl rfl rfl k2 Try.underlying24 rfl rw_size ?_)
            | ((with_reducible refine at_slot 27 ?_); refine wl_call rfl rfl Try.func32 (by kernel_rfl) rfl (HRL.out _ (by omega) HL1.out) rfl ?_; intro V4 hb; replace HB := Lib.hid (below_tr HB.out hb); clear hb))
          go_ret
          exact ⟨ret_int HNO.out.symm, HB.out⟩

theorem ev_bld0 (w : World) : (Instr.build 27 #[]).run Try.prog w = .ok (.agg (evA zeroEv)) w := by
  unfold evA zeroEv
  go_simp
set_option maxHeartbeats 4000000 in
set_option maxRecDepth 100000 in
theorem la_nil (lost mark : Int) (v : Value) (w : World) (h : Lst 4 cE w v []) :
    Calls Try.prog 12 #[.agg #[.int .i64 lost, .int .i64 mark, v]] w fun e w' => e = .returned (.tuple #[.agg (evA zeroEv), .int .i64 3]) ∧ Below w.heap.size w w' := by
  have HL := Lib.hid h
  have HSL := Lib.hid h.sl
  have HB := Lib.hid (Below.refl w.heap.size w)
  clear h
  go_enter Try.func12, Try.ntmps12
  go_wp2_with (first
    | ((with_reducible refine at_slot 1 ?_); refine wl_box (A := #[.int .i64 lost, .int .i64 mark, v]) rfl rfl rfl ?_; intro W1 g1 k1 hb hle1; replace HB := Lib.hid (below_tr HB.out hb); have HL1 := Lib.hid (HL.out.keep hb); clear hb)
    | ((with_reducible refine at_slot 2 ?_); refine wl_alloc (A := evA zeroEv) rfl rfl ev_zero rfl ?_; intro W2 g2 k2 hb hle2; have HLE := Lib.hid (Nat.le_trans HB.out.size hle2); have hn12 := k1.ne_of_le hle2; replace k1 := k1.keep hb; replace HB := Lib.hid (below_tr HB.out hb); have HL2 := Lib.hid (HL1.out.keep hb); clear hb)
    | ((with_reducible refine at_slot 5 ?_); refine wl_ld1 (v := v) rfl rfl rfl k1 Try.underlying22 rfl rfl ?_)
    | ((with_reducible refine at_slot 6 ?_); refine wl_lenL (n := 0) rfl rfl rfl Try.underlying22 HSL.out ?_)
    | ((with_reducible refine at_slot 8 ?_); refine wl_build rfl rfl (ev_bld0 _) rfl ?_)
    | ((with_reducible refine at_store 2 ?_); refine wl_st0 (A' := evA zeroEv) rfl rfl rfl rfl k2 rfl evInfo (evA_one _) ?_; intro W3 k3 hu; replace HB := Lib.hid (upd_below HB.out hu HLE.out); clear hu k2))
  refine bodyPost_ret (v := .tuple #[.agg (evA zeroEv), .int .i64 3]) (results_ct Try.results12 _ rfl rfl k3 Try.underlying27 rfl evInfo) rfl ?_
  exact ⟨rfl, HB.out⟩
set_option maxHeartbeats 4000000 in
set_option maxRecDepth 100000 in
theorem la_some (lost mark : Int) (v : Value) (l : List Ev) (j : Nat) (x : Ev) (hl : l.length = j + 1) (hj : j ≤ 1000000) (hx : l[j]? = some x) (w : World) (h : Lst 4 cE w v l) :
    Calls Try.prog 12 #[.agg #[.int .i64 lost, .int .i64 mark, v]] w fun e w' => e = .returned (.tuple #[.agg (evA x), .int .i64 0]) ∧ Below w.heap.size w w' := by
  have HL := Lib.hid h
  obtain ⟨ao, b, off, cap, rfl, h1, h2⟩ := h.ex
  obtain ⟨rfl, hq1⟩ := h1 (by omega)
  have HKX := Lib.hid (h2 j x hx)
  have hwj : IntKind.i64.wrap ((l.length : Int) - 1) = (j : Nat) := by rw [IntKind.wrap_i64]; omega
  have HSL : Hid (∃ ao' cap', Value.slice (some ⟨b, off, none⟩) l.length cap = .slice ao' l.length cap') := Lib.hid ⟨_, _, rfl⟩
  have hl0 : 0 < (l.length : Int) := by omega
  have hd0 : ((l.length : Int) == 0) = false := by rw [beq_eq_false_iff_ne]; omega
  have hjl : j < l.length := by omega
  have hmm : l.length ≤ 9223372036854775807 := by omega
  have HB := Lib.hid (Below.refl w.heap.size w)
  clear h h1 h2 hx hl
  go_enter Try.func12, Try.ntmps12
  go_wp2_with (first
    | ((with_reducible refine at_slot 1 ?_); refine wl_box (A := #[.int .i64 lost, .int .i64 mark, .slice (some ⟨b, off, none⟩) l.length cap]) rfl rfl rfl ?_; intro W1 g1 k1 hb hle1; replace HB := Lib.hid (below_tr HB.out hb); have HL1 := Lib.hid (HL.out.keep hb); clear hb)
    | ((with_reducible refine at_slot 2 ?_); refine wl_alloc (A := evA zeroEv) rfl rfl ev_zero rfl ?_; intro W2 g2 k2 hb hle2; have HLE := Lib.hid (Nat.le_trans HB.out.size hle2); have hn12 := k1.ne_of_le hle2; replace k1 := k1.keep hb; replace HB := Lib.hid (below_tr HB.out hb); have HL2 := Lib.hid (HL1.out.keep hb); clear hb)
    | ((with_reducible refine at_slot 5 ?_); refine wl_ld1 (v := .slice (some ⟨b, off, none⟩) l.length cap) rfl rfl rfl k1 Try.underlying22 rfl rfl ?_)
    | ((with_reducible refine at_slot 6 ?_); refine wl_lenL rfl rfl rfl Try.underlying22 HSL.out ?_)
    | ((with_reducible refine at_slot 10 ?_); refine wl_ld1 (v := .slice (some ⟨b, off, none⟩) l.length cap) rfl rfl rfl k1 Try.underlying22 rfl rfl ?_)
    | ((with_reducible refine at_slot 12 ?_); refine wl_ld1 (v := .slice (some ⟨b, off, none⟩) l.length cap) rfl rfl rfl k1 Try.underlying22 rfl rfl ?_)
    | ((with_reducible refine at_slot 13 ?_); refine wl_lenL rfl rfl rfl Try.underlying22 HSL.out ?_)
    | ((with_reducible refine at_slot 14 ?_); refine wl_bin (v := .int .i64 (j : Nat)) rfl rfl rfl (sub_is hwj) ?_)
    | ((with_reducible refine at_slot 15 ?_); refine wl_ixo rfl rfl rfl rfl Try.underlying22 rfl hjl hmm ?_)
    | ((with_reducible refine at_slot 16 ?_); refine wl_ldr (B := evA x) rfl rfl rfl (range_keep HKX.out (HB.out.block b hq1)) Try.underlying27 rfl evInfo ?_)
    | ((with_reducible refine at_store 2 ?_); refine wl_st0 (A' := evA x) rfl rfl rfl rfl k2 rfl evInfo (evA_one _) ?_; intro W3 k3 hu; replace HB := Lib.hid (upd_below HB.out hu HLE.out); clear hu k2))
  refine bodyPost_ret (v := .tuple #[.agg (evA x), .int .i64 0]) (results_ct Try.results12 _ rfl rfl k3 Try.underlying27 rfl evInfo) rfl ?_
  exact ⟨rfl, HB.out⟩
end Go.Proofs.Ytohkioakipjanaa
