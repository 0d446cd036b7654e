/-
  WALKS: law 11: lists that are one; lives.
-/
import Derived.Test.YthiiclekdikndaaRhi
import Derived.Test.YthiiclekdikndaaRgs
namespace Go.Proofs.Ythiiclekdikndaa
open Go Go.RowKit

set_option maxHeartbeats 4000000 in
set_option maxRecDepth 100000 in
theorem same_yes (va vb : Value) (xs : List Int) (hl : xs.length ≤ 1048576) (w : World) (ha : Lst 1 ci w va xs) (hb : Lst 1 ci w vb xs) :
    Calls Try.prog 17 #[va, vb] w fun e w' => e = .returned (.bool true) ∧ Below w.heap.size w w' := by
  obtain ⟨ao, b, off, cap, rfl, h1, h2⟩ := ha.ex
  obtain ⟨ao2, b2, off2, cap2, rfl, h3, h4⟩ := hb.ex
  have H1 := Lib.hid h1
  have H2 := Lib.hid h2
  have H3 := Lib.hid h3
  have H4 := Lib.hid h4
  have HB := Lib.hid (Below.refl w.heap.size w)
  clear ha hb h1 h2 h3 h4
  go_enter Try.func17, Try.ntmps17
  go_wp2_with fail
  go_loopw [13] (fun i wr => ∃ k : Nat, k ≤ xs.length ∧ i = .int .i64 k ∧ Below w.heap.size w wr) (fun i _ => xs.length - (intOf i).toNat)
  case atStart => exact ⟨0, Nat.zero_le _, rfl, HB.out⟩
  case round =>
    clear HB
    obtain ⟨k, hk, rfl, hB⟩ := hrel
    have HB := Lib.hid hB
    clear hB
    by_cases hlt : k < xs.length
    · obtain ⟨rfl, hq1⟩ := H1.out (by omega)
      obtain ⟨rfl, hq2⟩ := H3.out (by omega)
      have hgx : xs[k]? = some xs[k] := List.getElem?_eq_getElem hlt
      generalize xs[k] = x at hgx
      have c1 : World.cell? _ ⟨b, off + k * 1, none⟩ = some (.int .i64 x) := (HB.out.cell (p := ⟨b, off + k * 1, none⟩) hq1).trans (H2.out k x hgx 0 _ rfl)
      have c2 : World.cell? _ ⟨b2, off2 + k * 1, none⟩ = some (.int .i64 x) := (HB.out.cell (p := ⟨b2, off2 + k * 1, none⟩) hq2).trans (H4.out k x hgx 0 _ rfl)
      have hmx : xs.length ≤ 9223372036854775807 := by omega
      go_upto_region 6 with fail
      refine wp_region_held_drew (S := fun w' => w'.cell? ⟨b, off + k * 1, none⟩ = some (.int .i64 x) ∧ w'.cell? ⟨b2, off2 + k * 1, none⟩ = some (.int .i64 x)) (by kernel_rfl) ⟨c1, c2⟩ (fun hS => ?_)
      refine wpAnyH_take (i := 0) (oi := ⟨some 16, _, _, _, _, _⟩) (v := .slice (some ⟨b, off, none⟩) xs.length cap) rfl (by kernel_rfl) (by kernel_rfl) (by kernel_rfl) (fun _ _ _ h => h) (yi_mv (Or.inl rfl) rfl rfl) hS ?_
      simp only [Act.put, List.setIfInBounds_toArray, List.set_cons_zero, List.set_cons_succ]
      refine wpAnyH_take (i := 1) (oi := ⟨some 17, _, _, _, _, _⟩) (v := .int .i64 k) rfl (by kernel_rfl) (by kernel_rfl) (by kernel_rfl) (fun _ _ _ h => h) (yi_mv (Or.inl rfl) rfl rfl) hS ?_
      simp only [Act.put, List.setIfInBounds_toArray, List.set_cons_zero, List.set_cons_succ]
      refine wpAnyH_take (i := 2) (oi := ⟨some 18, _, _, _, _, _⟩) (v := .pointer (some ⟨b, off + k * 1, none⟩)) rfl (by kernel_rfl) (by kernel_rfl) (by kernel_rfl) (fun _ _ _ h => h) (yi_ixo rfl rfl rfl rfl Try.underlying29 rfl hlt hmx) hS ?_
      simp only [Act.put, List.setIfInBounds_toArray, List.set_cons_zero, List.set_cons_succ]
      refine wpAnyH_take (i := 3) (oi := ⟨some 19, _, _, _, _, _⟩) (v := .int .i64 x) rfl (by kernel_rfl) (by kernel_rfl) (by kernel_rfl) (fun _ _ _ h => h) (yi_c rfl rfl rfl (fun w' h => h.1) Try.underlying3 rfl) hS ?_
      simp only [Act.put, List.setIfInBounds_toArray, List.set_cons_zero, List.set_cons_succ]
      refine wpAnyH_take (i := 4) (oi := ⟨some 20, _, _, _, _, _⟩) (v := .slice (some ⟨b2, off2, none⟩) xs.length cap2) rfl (by kernel_rfl) (by kernel_rfl) (by kernel_rfl) (fun _ _ _ h => h) (yi_mv (Or.inl rfl) rfl rfl) hS ?_
      simp only [Act.put, List.setIfInBounds_toArray, List.set_cons_zero, List.set_cons_succ]
      refine wpAnyH_take (i := 5) (oi := ⟨some 21, _, _, _, _, _⟩) (v := .int .i64 k) rfl (by kernel_rfl) (by kernel_rfl) (by kernel_rfl) (fun _ _ _ h => h) (yi_mv (Or.inl rfl) rfl rfl) hS ?_
      simp only [Act.put, List.setIfInBounds_toArray, List.set_cons_zero, List.set_cons_succ]
      refine wpAnyH_take (i := 6) (oi := ⟨some 22, _, _, _, _, _⟩) (v := .pointer (some ⟨b2, off2 + k * 1, none⟩)) rfl (by kernel_rfl) (by kernel_rfl) (by kernel_rfl) (fun _ _ _ h => h) (yi_ixo rfl rfl rfl rfl Try.underlying29 rfl hlt hmx) hS ?_
      simp only [Act.put, List.setIfInBounds_toArray, List.set_cons_zero, List.set_cons_succ]
      refine wpAnyH_take (i := 7) (oi := ⟨some 23, _, _, _, _, _⟩) (v := .int .i64 x) rfl (by kernel_rfl) (by kernel_rfl) (by kernel_rfl) (fun _ _ _ h => h) (yi_c rfl rfl rfl (fun w' h => h.2) Try.underlying3 rfl) hS ?_
      simp only [Act.put, List.setIfInBounds_toArray, List.set_cons_zero, List.set_cons_succ]
      refine wpAnyH_take (i := 8) (oi := ⟨some 24, _, _, _, _, _⟩) (v := .bool false) rfl (by kernel_rfl) (by kernel_rfl) (by kernel_rfl) (fun _ _ _ h => h) (yi_ok rfl (fun _ => by go_simp)) hS ?_
      simp only [Act.put, List.setIfInBounds_toArray, List.set_cons_zero, List.set_cons_succ]
      refine wpAnyH_done (by kernel_rfl) ?_ _
      clear hS c1 c2
      replace HB := Lib.hid HB.out.drew
      go_wp2_with fail
      go_roundw
      case rel => exact ⟨k + 1, hlt, by go_num, HB.out⟩
      case measure => simp [intOf]; omega
    · go_wp2_with fail
      go_ret
      exact ⟨rfl, HB.out⟩

theorem bs7 (w : World) : (Instr.buildSlice 29 1 #[(0, .int .i64 7)]).run Try.prog w = .ok (.slice (some ⟨w.heap.size, 0, none⟩) 1 1) (w.alloc (.cells #[.int .i64 7] 3)) := by
  go_simp
theorem lst_blk7 {w : World} {g : Nat} (h : Blk w g 3 #[.int .i64 7]) : Lst 1 ci w (.slice (some ⟨g, 0, none⟩) 1 1) [7] :=
  ⟨some ⟨g, 0, none⟩, g, 0, 1, rfl, fun _ => ⟨rfl, h.lt⟩, fun i x hx => by
    match i, hx with
    | 0, hx =>
      obtain rfl : 7 = x := by simpa using hx
      intro j u hu
      match j, hu with
      | 0, hu =>
        rw [← hu]
        exact h.cell 0 rfl⟩
set_option maxHeartbeats 4000000 in
set_option maxRecDepth 100000 in
theorem lives11 (w : World) : Calls Try.prog 5 #[] w fun e w' => e = .returned (.bool true) ∧ Below w.heap.size w w' := by
  go_enter Try.func5, Try.ntmps5
  go_wp2_with (first
    | ((with_reducible refine at_slot 18 ?_); refine wl_callx rfl rfl Try.func6 (by kernel_rfl) rfl (i_new 2 (by omega) (by omega) _) rfl ?_; intro g V hR; obtain ⟨hr1, hr2, hr3⟩ := hR; have HR : Hid (RgB 56 3 1 ci w _ g _ 2 [] 0) := Lib.hid ⟨hr1, hr2, hr3, fun q hq => by cases hq⟩; clear hr1 hr2 hr3)
    | ((with_reducible refine at_slot 22 ?_); refine wl_call rfl rfl Try.func6 (by kernel_rfl) rfl (i_new_no 0 (by omega) (by omega) (by omega) _) rfl ?_; intro V hb; replace HR := Lib.hid (HR.out.stay hb); clear hb)
    | ((with_reducible refine at_slot 36 ?_); refine wl_call (v := .tuple #[.int .i64 0, .bool false]) rfl rfl Try.func9 (by kernel_rfl) rfl (i_put HR.out.ri (by omega) 5) rfl ?_; intro V hR; have hR2 := HR.out.step hR; clear HR hR; obtain ⟨o1, hR3⟩ := hR2; have HR : Hid (RgB 56 3 1 ci w _ g _ 2 [5] 0) := Lib.hid hR3; clear hR3)
    | ((with_reducible refine at_slot 38 ?_); refine wl_call (v := .tuple #[.int .i64 0, .bool false]) rfl rfl Try.func9 (by kernel_rfl) rfl (i_put HR.out.ri (by omega) 6) rfl ?_; intro V hR; have hR2 := HR.out.step hR; clear HR hR; obtain ⟨o1, hR3⟩ := hR2; have HR : Hid (RgB 56 3 1 ci w _ g _ 2 [5, 6] 0) := Lib.hid hR3; clear hR3)
    | ((with_reducible refine at_slot 41 ?_); refine wl_call (v := .tuple #[.int .i64 5, .bool true]) rfl rfl Try.func9 (by kernel_rfl) rfl (i_put HR.out.ri (by omega) 7) rfl ?_; intro V hR; have hR2 := HR.out.step hR; clear HR hR; obtain ⟨o1, hR3⟩ := hR2; have HR : Hid (RgB 56 3 1 ci w _ g _ 2 [6, 7] 1) := Lib.hid hR3; clear hR3)
    | ((with_reducible refine at_slot 46 ?_); refine wl_call (v := .tuple #[.int .i64 7, .bool true]) rfl rfl Try.func14 (by kernel_rfl) rfl (i_at_yes HR.out.ri (by omega) 1 (by decide)) rfl ?_; intro V hb; replace HR := Lib.hid (HR.out.stay hb); clear hb)
    | ((with_reducible refine at_slot 51 ?_); refine wl_call (v := .tuple #[.int .i64 0, .bool false]) rfl rfl Try.func14 (by kernel_rfl) rfl (i_at_no HR.out.ri (by omega) 2 (by right; decide) (by omega) (by omega)) rfl ?_; intro V hb; replace HR := Lib.hid (HR.out.stay hb); clear hb)
    | ((with_reducible refine at_slot 55 ?_); refine wl_call (v := .int .u64 1) rfl rfl Try.func16 (by kernel_rfl) rfl (i_lost HR.out.ri) rfl ?_; intro V hb; replace HR := Lib.hid (HR.out.stay hb); clear hb)
    | ((with_reducible refine at_slot 57 ?_); refine wl_call (v := .int .i64 1) rfl rfl Try.func11 (by kernel_rfl) rfl (i_drop HR.out.ri (by omega) 1 (by omega) (by omega)) rfl ?_; intro V hR; have hR2 := HR.out.drop hR; clear HR hR; have HR : Hid (RgB 56 3 1 ci w _ g _ 2 [7] 1) := Lib.hid hR2; clear hR2)
    | ((with_reducible refine at_slot 59 ?_); refine wl_callx rfl rfl Try.func19 (by kernel_rfl) rfl (s_new 1 (by omega) (by omega) _) rfl ?_; intro gs V hR; obtain ⟨hr1, hr2, hr3⟩ := hR; have HW1 := HR; have HS : Hid (RgB 60 9 1 cs _ _ gs _ 1 [] 0) := Lib.hid ⟨hr1, hr2, hr3, fun q hq => by cases hq⟩; clear hr1 hr2 hr3 HR)
    | ((with_reducible refine at_slot 69 ?_); refine wl_call (v := .tuple #[.string ⟨#[]⟩, .bool false]) rfl rfl Try.func20 (by kernel_rfl) rfl (s_put HS.out.ri (by omega) ⟨#[97]⟩) rfl ?_; intro V hR; have hR2 := HS.out.step hR; clear HS hR; obtain ⟨o1, hR3⟩ := hR2; have HS : Hid (RgB 60 9 1 cs _ _ gs _ 1 [⟨#[97]⟩] 0) := Lib.hid hR3; clear hR3)
    | ((with_reducible refine at_slot 72 ?_); refine wl_call (v := .tuple #[.string ⟨#[97]⟩, .bool true]) rfl rfl Try.func20 (by kernel_rfl) rfl (s_put HS.out.ri (by omega) ⟨#[98]⟩) rfl ?_; intro V hR; have hR2 := HS.out.step hR; clear HS hR; obtain ⟨o1, hR3⟩ := hR2; have HR := Lib.hid (HW1.out.stay hR3.below); clear hR3 HW1)
    | ((with_reducible refine at_slot 101 ?_); refine wl_callx rfl rfl Try.func18 (by kernel_rfl) rfl (i_all HR.out.ri (by omega)) rfl ?_; intro v8 V hR; obtain ⟨ho, hb⟩ := hR; replace HR := Lib.hid (HR.out.stay hb); have HL := Lib.hid (own_lst (xs := [7]) ci_len ho rfl); clear ho hb)
    | ((with_reducible refine at_slot 102 ?_); refine wl_bslice (A := #[.int .i64 7]) rfl rfl (bs7 _) rfl ?_; intro W3 gb kb hb hle; replace HR := Lib.hid (HR.out.stay hb); have HL1 := Lib.hid (HL.out.keep hb); have HL2 := Lib.hid (lst_blk7 kb); clear hb kb HL)
    | ((with_reducible refine at_slot 103 ?_); refine wl_call rfl rfl Try.func17 (by kernel_rfl) rfl (same_yes _ _ [7] (by decide) _ HL1.out HL2.out) rfl ?_; intro V hb; replace HR := Lib.hid (HR.out.stay hb); clear hb)
    | ((with_reducible refine at_slot 107 ?_); refine wl_call (v := .int .i64 1) rfl rfl Try.func15 (by kernel_rfl) rfl (i_len HR.out.ri) rfl ?_; intro V hb; replace HR := Lib.hid (HR.out.stay hb); clear hb))
  go_ret
  exact ⟨rfl, HR.out.below⟩
end Go.Proofs.Ythiiclekdikndaa
