/-
  WALKS: for RawTells: lists and raw events, equal or not; the document's Range and Last.
-/
import Derived.Test.YtohkioakipjanaaLv12
namespace Go.Proofs.Ytohkioakipjanaa
open Go Go.RowKit

theorem ev_neq2 {x y : Ev} (h : ¬ x = y) (w : World) : (binOp .neq 27 (.agg (evA x)) (.agg (evA y))).run Try.prog w = .ok (.bool true) w := by
  have h1 := ev_eql_no h w
  unfold evA at h1 ⊢
  go_simp
  revert h1
  go_simp
set_option maxHeartbeats 4000000 in
set_option maxRecDepth 100000 in
theorem es_any (va vb : Value) (xs ys : List Ev) (hl : xs.length ≤ 1048576) (hl2 : ys.length ≤ 9223372036854775807) (w : World) (ha : Lst 4 cE w va xs) (hb : Lst 4 cE w vb ys) :
    Calls Try.prog 33 #[va, vb] w fun e w' => e = .returned (.bool (eqB xs ys)) ∧ Below w.heap.size w w' := by
  obtain ⟨ao, b, off, cap, rfl, h1, h2⟩ := ha.ex
  obtain ⟨ao2, b2, off2, cap2, rfl, h3, h4⟩ := hb.ex
  have H1 := Lib.hid h1
  have H2 := Lib.hid h2
  have H3 := Lib.hid h3
  have H4 := Lib.hid h4
  have HB := Lib.hid (Below.refl w.heap.size w)
  clear ha hb h1 h2 h3 h4
  by_cases hlen : xs.length = ys.length
  · have hd : ((xs.length : Int) != ys.length) = false := by simp [hlen]
    have HLEN := Lib.hid hlen
    clear hlen
    go_enter Try.func33, Try.ntmps33
    go_wp2_with fail
    go_loopw [13] (fun i wr => ∃ k : Nat, k ≤ xs.length ∧ i = .int .i64 k ∧ xs.take k = ys.take k ∧ Below w.heap.size w wr) (fun i _ => xs.length - (intOf i).toNat)
    case atStart => exact ⟨0, Nat.zero_le _, rfl, rfl, HB.out⟩
    case round =>
      clear HB
      obtain ⟨k, hk, rfl, hE, hB⟩ := hrel
      have HB := Lib.hid hB
      have HE := Lib.hid hE
      clear hB hE
      by_cases hlt : k < xs.length
      · have hlt2 : k < ys.length := by have := HLEN.out; omega
        obtain ⟨rfl, hq1⟩ := H1.out (by omega)
        obtain ⟨rfl, hq2⟩ := H3.out (by omega)
        have c1 := range_keep (H2.out k _ (List.getElem?_eq_getElem hlt)) (HB.out.block b hq1)
        have c2 := range_keep (H4.out k _ (List.getElem?_eq_getElem hlt2)) (HB.out.block b2 hq2)
        have HT1 := Lib.hid (List.take_succ_eq_append_getElem hlt)
        have HT2 := Lib.hid (List.take_succ_eq_append_getElem hlt2)
        have HGX : Hid (xs[k]? = some xs[k] ∧ ys[k]? = some ys[k]) := Lib.hid ⟨List.getElem?_eq_getElem hlt, List.getElem?_eq_getElem hlt2⟩
        generalize xs[k] = x at c1 HT1 HGX
        generalize ys[k] = y at c2 HT2 HGX
        have hmx : xs.length ≤ 9223372036854775807 := by omega
        have hmx2 : ys.length ≤ 9223372036854775807 := hl2
        by_cases hxy : x = y
        · subst hxy
          have HN : Hid (xs.take (k + 1) = ys.take (k + 1)) := Lib.hid (by rw [HT1.out, HT2.out, HE.out])
          go_upto_region 6 with fail
          refine wp_region_held_drew (S := fun w' => w'.rangeAt b (off + k * 4) (evA x).toList ∧ w'.rangeAt b2 (off2 + k * 4) (evA x).toList) (by kernel_rfl) ⟨range_keep c1 rfl, range_keep c2 rfl⟩ (fun hS => ?_)
          refine wpAnyH_take (i := 0) (oi := ⟨some 16, _, _, _, _, _⟩) (v := .slice (some ⟨b, off, none⟩) xs.length cap) rfl (by kernel_rfl) (by kernel_rfl) (by kernel_rfl) (fun _ _ _ h => h) (yi_mv (Or.inl rfl) rfl rfl) hS ?_
          simp only [Act.put, List.setIfInBounds_toArray, List.set_cons_zero, List.set_cons_succ]
          refine wpAnyH_take (i := 1) (oi := ⟨some 17, _, _, _, _, _⟩) (v := .int .i64 k) rfl (by kernel_rfl) (by kernel_rfl) (by kernel_rfl) (fun _ _ _ h => h) (yi_mv (Or.inl rfl) rfl rfl) hS ?_
          simp only [Act.put, List.setIfInBounds_toArray, List.set_cons_zero, List.set_cons_succ]
          refine wpAnyH_take (i := 2) (oi := ⟨some 18, _, _, _, _, _⟩) (v := .pointer (some ⟨b, off + k * 4, none⟩)) rfl (by kernel_rfl) (by kernel_rfl) (by kernel_rfl) (fun _ _ _ h => h) (yi_ixo rfl rfl rfl rfl Try.underlying22 rfl hlt hmx) hS ?_
          simp only [Act.put, List.setIfInBounds_toArray, List.set_cons_zero, List.set_cons_succ]
          refine wpAnyH_take (i := 3) (oi := ⟨some 19, _, _, _, _, _⟩) (v := .agg (evA x)) rfl (by kernel_rfl) (by kernel_rfl) (by kernel_rfl) (fun _ _ _ h => h) (yi_ldr (B := evA x) rfl rfl rfl (fun w' h => h.1) Try.underlying27 rfl evInfo) hS ?_
          simp only [Act.put, List.setIfInBounds_toArray, List.set_cons_zero, List.set_cons_succ]
          refine wpAnyH_take (i := 4) (oi := ⟨some 20, _, _, _, _, _⟩) (v := .slice (some ⟨b2, off2, none⟩) ys.length cap2) rfl (by kernel_rfl) (by kernel_rfl) (by kernel_rfl) (fun _ _ _ h => h) (yi_mv (Or.inl rfl) rfl rfl) hS ?_
          simp only [Act.put, List.setIfInBounds_toArray, List.set_cons_zero, List.set_cons_succ]
          refine wpAnyH_take (i := 5) (oi := ⟨some 21, _, _, _, _, _⟩) (v := .int .i64 k) rfl (by kernel_rfl) (by kernel_rfl) (by kernel_rfl) (fun _ _ _ h => h) (yi_mv (Or.inl rfl) rfl rfl) hS ?_
          simp only [Act.put, List.setIfInBounds_toArray, List.set_cons_zero, List.set_cons_succ]
          refine wpAnyH_take (i := 6) (oi := ⟨some 22, _, _, _, _, _⟩) (v := .pointer (some ⟨b2, off2 + k * 4, none⟩)) rfl (by kernel_rfl) (by kernel_rfl) (by kernel_rfl) (fun _ _ _ h => h) (yi_ixo rfl rfl rfl rfl Try.underlying22 rfl hlt2 hmx2) hS ?_
          simp only [Act.put, List.setIfInBounds_toArray, List.set_cons_zero, List.set_cons_succ]
          refine wpAnyH_take (i := 7) (oi := ⟨some 23, _, _, _, _, _⟩) (v := .agg (evA x)) rfl (by kernel_rfl) (by kernel_rfl) (by kernel_rfl) (fun _ _ _ h => h) (yi_ldr (B := evA x) rfl rfl rfl (fun w' h => h.2) Try.underlying27 rfl evInfo) hS ?_
          simp only [Act.put, List.setIfInBounds_toArray, List.set_cons_zero, List.set_cons_succ]
          refine wpAnyH_take (i := 8) (oi := ⟨some 24, _, _, _, _, _⟩) (v := .bool false) rfl (by kernel_rfl) (by kernel_rfl) (by kernel_rfl) (fun _ _ _ h => h) (yi_bi rfl rfl rfl rfl (fun _ => run_eqGuard_agg _ _ _ _ _ _ _ (by kernel_rfl)) (fun _ => ev_neq x _)) hS ?_
          simp only [Act.put, List.setIfInBounds_toArray, List.set_cons_zero, List.set_cons_succ]
          refine wpAnyH_done (by kernel_rfl) ?_ _
          clear hS
          replace HB := Lib.hid HB.out.drew
          go_wp2_with fail
          go_roundw
          case rel => exact ⟨k + 1, hlt, by go_num, HN.out, HB.out⟩
          case measure => simp [intOf]; omega
        · have HNE := Lib.hid hxy
          have HRES : Hid (eqB xs ys = false) := Lib.hid (eqB_no (fun e => HNE.out (by
            have h1 := HGX.out.1
            have h2 := HGX.out.2
            rw [e] at h1
            rw [h1] at h2
            exact Option.some.inj h2)))
          clear hxy
          go_upto_region 6 with fail
          refine wp_region_held_drew (S := fun w' => w'.rangeAt b (off + k * 4) (evA x).toList ∧ w'.rangeAt b2 (off2 + k * 4) (evA y).toList) (by kernel_rfl) ⟨range_keep c1 rfl, range_keep c2 rfl⟩ (fun hS => ?_)
          refine wpAnyH_take (i := 0) (oi := ⟨some 16, _, _, _, _, _⟩) (v := .slice (some ⟨b, off, none⟩) xs.length cap) rfl (by kernel_rfl) (by kernel_rfl) (by kernel_rfl) (fun _ _ _ h => h) (yi_mv (Or.inl rfl) rfl rfl) hS ?_
          simp only [Act.put, List.setIfInBounds_toArray, List.set_cons_zero, List.set_cons_succ]
          refine wpAnyH_take (i := 1) (oi := ⟨some 17, _, _, _, _, _⟩) (v := .int .i64 k) rfl (by kernel_rfl) (by kernel_rfl) (by kernel_rfl) (fun _ _ _ h => h) (yi_mv (Or.inl rfl) rfl rfl) hS ?_
          simp only [Act.put, List.setIfInBounds_toArray, List.set_cons_zero, List.set_cons_succ]
          refine wpAnyH_take (i := 2) (oi := ⟨some 18, _, _, _, _, _⟩) (v := .pointer (some ⟨b, off + k * 4, none⟩)) rfl (by kernel_rfl) (by kernel_rfl) (by kernel_rfl) (fun _ _ _ h => h) (yi_ixo rfl rfl rfl rfl Try.underlying22 rfl hlt hmx) hS ?_
          simp only [Act.put, List.setIfInBounds_toArray, List.set_cons_zero, List.set_cons_succ]
          refine wpAnyH_take (i := 3) (oi := ⟨some 19, _, _, _, _, _⟩) (v := .agg (evA x)) rfl (by kernel_rfl) (by kernel_rfl) (by kernel_rfl) (fun _ _ _ h => h) (yi_ldr (B := evA x) rfl rfl rfl (fun w' h => h.1) Try.underlying27 rfl evInfo) hS ?_
          simp only [Act.put, List.setIfInBounds_toArray, List.set_cons_zero, List.set_cons_succ]
          refine wpAnyH_take (i := 4) (oi := ⟨some 20, _, _, _, _, _⟩) (v := .slice (some ⟨b2, off2, none⟩) ys.length cap2) rfl (by kernel_rfl) (by kernel_rfl) (by kernel_rfl) (fun _ _ _ h => h) (yi_mv (Or.inl rfl) rfl rfl) hS ?_
          simp only [Act.put, List.setIfInBounds_toArray, List.set_cons_zero, List.set_cons_succ]
          refine wpAnyH_take (i := 5) (oi := ⟨some 21, _, _, _, _, _⟩) (v := .int .i64 k) rfl (by kernel_rfl) (by kernel_rfl) (by kernel_rfl) (fun _ _ _ h => h) (yi_mv (Or.inl rfl) rfl rfl) hS ?_
          simp only [Act.put, List.setIfInBounds_toArray, List.set_cons_zero, List.set_cons_succ]
          refine wpAnyH_take (i := 6) (oi := ⟨some 22, _, _, _, _, _⟩) (v := .pointer (some ⟨b2, off2 + k * 4, none⟩)) rfl (by kernel_rfl) (by kernel_rfl) (by kernel_rfl) (fun _ _ _ h => h) (yi_ixo rfl rfl rfl rfl Try.underlying22 rfl hlt2 hmx2) hS ?_
          simp only [Act.put, List.setIfInBounds_toArray, List.set_cons_zero, List.set_cons_succ]
          refine wpAnyH_take (i := 7) (oi := ⟨some 23, _, _, _, _, _⟩) (v := .agg (evA y)) rfl (by kernel_rfl) (by kernel_rfl) (by kernel_rfl) (fun _ _ _ h => h) (yi_ldr (B := evA y) rfl rfl rfl (fun w' h => h.2) Try.underlying27 rfl evInfo) hS ?_
          simp only [Act.put, List.setIfInBounds_toArray, List.set_cons_zero, List.set_cons_succ]
          refine wpAnyH_take (i := 8) (oi := ⟨some 24, _, _, _, _, _⟩) (v := .bool true) rfl (by kernel_rfl) (by kernel_rfl) (by kernel_rfl) (fun _ _ _ h => h) (yi_bi rfl rfl rfl rfl (fun _ => run_eqGuard_agg _ _ _ _ _ _ _ (by kernel_rfl)) (fun _ => ev_neq2 HNE.out _)) hS ?_
          simp only [Act.put, List.setIfInBounds_toArray, List.set_cons_zero, List.set_cons_succ]
          refine wpAnyH_done (by kernel_rfl) ?_ _
          clear hS
          replace HB := Lib.hid HB.out.drew
          go_wp2_with fail
          go_ret
          exact ⟨ret_bool HRES.out.symm, HB.out⟩
      · obtain rfl : k = xs.length := by omega
        have HRES : Hid (eqB xs ys = true) := Lib.hid (eqB_yes (by have := HE.out; rwa [List.take_length, HLEN.out, List.take_length] at this))
        go_wp2_with fail
        go_ret
        exact ⟨ret_bool HRES.out.symm, HB.out⟩
  · have hd : ((xs.length : Int) != ys.length) = true := by simp; omega
    have HRES : Hid (eqB xs ys = false) := Lib.hid (eqB_no (fun e => hlen (by rw [e])))
    clear hlen
    go_enter Try.func33, Try.ntmps33
    go_wp2_with fail
    go_ret
    exact ⟨ret_bool HRES.out.symm, HB.out⟩
set_option maxHeartbeats 4000000 in
set_option maxRecDepth 100000 in
theorem sl_any (va vb : Value) (xs ys : List Ev) (hl : xs.length ≤ 1048576) (hl2 : ys.length ≤ 9223372036854775807) (w : World) (ha : Lst 4 cE w va xs) (hb : Lst 4 cE w vb ys) :
    Calls Try.prog 17 #[va, vb] w fun e w' => e = .returned (.bool (eqB xs ys)) ∧ Below w.heap.size w w' := by
  obtain ⟨ao, b, off, cap, rfl, h1, h2⟩ := ha.ex
  obtain ⟨ao2, b2, off2, cap2, rfl, h3, h4⟩ := hb.ex
  have H1 := Lib.hid h1
  have H2 := Lib.hid h2
  have H3 := Lib.hid h3
  have H4 := Lib.hid h4
  have HB := Lib.hid (Below.refl w.heap.size w)
  clear ha hb h1 h2 h3 h4
  by_cases hlen : xs.length = ys.length
  · have hd : ((xs.length : Int) != ys.length) = false := by simp [hlen]
    have HLEN := Lib.hid hlen
    clear hlen
    go_enter Try.func17, Try.ntmps17
    go_wp2_with fail
    go_loopw [13] (fun i wr => ∃ k : Nat, k ≤ xs.length ∧ i = .int .i64 k ∧ xs.take k = ys.take k ∧ Below w.heap.size w wr) (fun i _ => xs.length - (intOf i).toNat)
    case atStart => exact ⟨0, Nat.zero_le _, rfl, rfl, HB.out⟩
    case round =>
      clear HB
      obtain ⟨k, hk, rfl, hE, hB⟩ := hrel
      have HB := Lib.hid hB
      have HE := Lib.hid hE
      clear hB hE
      by_cases hlt : k < xs.length
      · have hlt2 : k < ys.length := by have := HLEN.out; omega
        obtain ⟨rfl, hq1⟩ := H1.out (by omega)
        obtain ⟨rfl, hq2⟩ := H3.out (by omega)
        have c1 := range_keep (H2.out k _ (List.getElem?_eq_getElem hlt)) (HB.out.block b hq1)
        have c2 := range_keep (H4.out k _ (List.getElem?_eq_getElem hlt2)) (HB.out.block b2 hq2)
        have HT1 := Lib.hid (List.take_succ_eq_append_getElem hlt)
        have HT2 := Lib.hid (List.take_succ_eq_append_getElem hlt2)
        have HGX : Hid (xs[k]? = some xs[k] ∧ ys[k]? = some ys[k]) := Lib.hid ⟨List.getElem?_eq_getElem hlt, List.getElem?_eq_getElem hlt2⟩
        generalize xs[k] = x at c1 HT1 HGX
        generalize ys[k] = y at c2 HT2 HGX
        have hmx : xs.length ≤ 9223372036854775807 := by omega
        have hmx2 : ys.length ≤ 9223372036854775807 := hl2
        by_cases hxy : x = y
        · subst hxy
          have HN : Hid (xs.take (k + 1) = ys.take (k + 1)) := Lib.hid (by rw [HT1.out, HT2.out, HE.out])
          go_upto_region 6 with fail
          refine wp_region_held_drew (S := fun w' => w'.rangeAt b (off + k * 4) (evA x).toList ∧ w'.rangeAt b2 (off2 + k * 4) (evA x).toList) (by kernel_rfl) ⟨range_keep c1 rfl, range_keep c2 rfl⟩ (fun hS => ?_)
          refine wpAnyH_take (i := 0) (oi := ⟨some 16, _, _, _, _, _⟩) (v := .slice (some ⟨b, off, none⟩) xs.length cap) rfl (by kernel_rfl) (by kernel_rfl) (by kernel_rfl) (fun _ _ _ h => h) (yi_mv (Or.inl rfl) rfl rfl) hS ?_
          simp only [Act.put, List.setIfInBounds_toArray, List.set_cons_zero, List.set_cons_succ]
          refine wpAnyH_take (i := 1) (oi := ⟨some 17, _, _, _, _, _⟩) (v := .int .i64 k) rfl (by kernel_rfl) (by kernel_rfl) (by kernel_rfl) (fun _ _ _ h => h) (yi_mv (Or.inl rfl) rfl rfl) hS ?_
          simp only [Act.put, List.setIfInBounds_toArray, List.set_cons_zero, List.set_cons_succ]
          refine wpAnyH_take (i := 2) (oi := ⟨some 18, _, _, _, _, _⟩) (v := .pointer (some ⟨b, off + k * 4, none⟩)) rfl (by kernel_rfl) (by kernel_rfl) (by kernel_rfl) (fun _ _ _ h => h) (yi_ixo rfl rfl rfl rfl Try.underlying22 rfl hlt hmx) hS ?_
          simp only [Act.put, List.setIfInBounds_toArray, List.set_cons_zero, List.set_cons_succ]
          refine wpAnyH_take (i := 3) (oi := ⟨some 19, _, _, _, _, _⟩) (v := .agg (evA x)) rfl (by kernel_rfl) (by kernel_rfl) (by kernel_rfl) (fun _ _ _ h => h) (yi_ldr (B := evA x) rfl rfl rfl (fun w' h => h.1) Try.underlying27 rfl evInfo) hS ?_
          simp only [Act.put, List.setIfInBounds_toArray, List.set_cons_zero, List.set_cons_succ]
          refine wpAnyH_take (i := 4) (oi := ⟨some 20, _, _, _, _, _⟩) (v := .slice (some ⟨b2, off2, none⟩) ys.length cap2) rfl (by kernel_rfl) (by kernel_rfl) (by kernel_rfl) (fun _ _ _ h => h) (yi_mv (Or.inl rfl) rfl rfl) hS ?_
          simp only [Act.put, List.setIfInBounds_toArray, List.set_cons_zero, List.set_cons_succ]
          refine wpAnyH_take (i := 5) (oi := ⟨some 21, _, _, _, _, _⟩) (v := .int .i64 k) rfl (by kernel_rfl) (by kernel_rfl) (by kernel_rfl) (fun _ _ _ h => h) (yi_mv (Or.inl rfl) rfl rfl) hS ?_
          simp only [Act.put, List.setIfInBounds_toArray, List.set_cons_zero, List.set_cons_succ]
          refine wpAnyH_take (i := 6) (oi := ⟨some 22, _, _, _, _, _⟩) (v := .pointer (some ⟨b2, off2 + k * 4, none⟩)) rfl (by kernel_rfl) (by kernel_rfl) (by kernel_rfl) (fun _ _ _ h => h) (yi_ixo rfl rfl rfl rfl Try.underlying22 rfl hlt2 hmx2) hS ?_
          simp only [Act.put, List.setIfInBounds_toArray, List.set_cons_zero, List.set_cons_succ]
          refine wpAnyH_take (i := 7) (oi := ⟨some 23, _, _, _, _, _⟩) (v := .agg (evA x)) rfl (by kernel_rfl) (by kernel_rfl) (by kernel_rfl) (fun _ _ _ h => h) (yi_ldr (B := evA x) rfl rfl rfl (fun w' h => h.2) Try.underlying27 rfl evInfo) hS ?_
          simp only [Act.put, List.setIfInBounds_toArray, List.set_cons_zero, List.set_cons_succ]
          refine wpAnyH_take (i := 8) (oi := ⟨some 24, _, _, _, _, _⟩) (v := .bool false) rfl (by kernel_rfl) (by kernel_rfl) (by kernel_rfl) (fun _ _ _ h => h) (yi_bi rfl rfl rfl rfl (fun _ => run_eqGuard_agg _ _ _ _ _ _ _ (by kernel_rfl)) (fun _ => ev_neq x _)) hS ?_
          simp only [Act.put, List.setIfInBounds_toArray, List.set_cons_zero, List.set_cons_succ]
          refine wpAnyH_done (by kernel_rfl) ?_ _
          clear hS
          replace HB := Lib.hid HB.out.drew
          go_wp2_with fail
          go_roundw
          case rel => exact ⟨k + 1, hlt, by go_num, HN.out, HB.out⟩
          case measure => simp [intOf]; omega
        · have HNE := Lib.hid hxy
          have HRES : Hid (eqB xs ys = false) := Lib.hid (eqB_no (fun e => HNE.out (by
            have h1 := HGX.out.1
            have h2 := HGX.out.2
            rw [e] at h1
            rw [h1] at h2
            exact Option.some.inj h2)))
          clear hxy
          go_upto_region 6 with fail
          refine wp_region_held_drew (S := fun w' => w'.rangeAt b (off + k * 4) (evA x).toList ∧ w'.rangeAt b2 (off2 + k * 4) (evA y).toList) (by kernel_rfl) ⟨range_keep c1 rfl, range_keep c2 rfl⟩ (fun hS => ?_)
          refine wpAnyH_take (i := 0) (oi := ⟨some 16, _, _, _, _, _⟩) (v := .slice (some ⟨b, off, none⟩) xs.length cap) rfl (by kernel_rfl) (by kernel_rfl) (by kernel_rfl) (fun _ _ _ h => h) (yi_mv (Or.inl rfl) rfl rfl) hS ?_
          simp only [Act.put, List.setIfInBounds_toArray, List.set_cons_zero, List.set_cons_succ]
          refine wpAnyH_take (i := 1) (oi := ⟨some 17, _, _, _, _, _⟩) (v := .int .i64 k) rfl (by kernel_rfl) (by kernel_rfl) (by kernel_rfl) (fun _ _ _ h => h) (yi_mv (Or.inl rfl) rfl rfl) hS ?_
          simp only [Act.put, List.setIfInBounds_toArray, List.set_cons_zero, List.set_cons_succ]
          refine wpAnyH_take (i := 2) (oi := ⟨some 18, _, _, _, _, _⟩) (v := .pointer (some ⟨b, off + k * 4, none⟩)) rfl (by kernel_rfl) (by kernel_rfl) (by kernel_rfl) (fun _ _ _ h => h) (yi_ixo rfl rfl rfl rfl Try.underlying22 rfl hlt hmx) hS ?_
          simp only [Act.put, List.setIfInBounds_toArray, List.set_cons_zero, List.set_cons_succ]
          refine wpAnyH_take (i := 3) (oi := ⟨some 19, _, _, _, _, _⟩) (v := .agg (evA x)) rfl (by kernel_rfl) (by kernel_rfl) (by kernel_rfl) (fun _ _ _ h => h) (yi_ldr (B := evA x) rfl rfl rfl (fun w' h => h.1) Try.underlying27 rfl evInfo) hS ?_
          simp only [Act.put, List.setIfInBounds_toArray, List.set_cons_zero, List.set_cons_succ]
          refine wpAnyH_take (i := 4) (oi := ⟨some 20, _, _, _, _, _⟩) (v := .slice (some ⟨b2, off2, none⟩) ys.length cap2) rfl (by kernel_rfl) (by kernel_rfl) (by kernel_rfl) (fun _ _ _ h => h) (yi_mv (Or.inl rfl) rfl rfl) hS ?_
          simp only [Act.put, List.setIfInBounds_toArray, List.set_cons_zero, List.set_cons_succ]
          refine wpAnyH_take (i := 5) (oi := ⟨some 21, _, _, _, _, _⟩) (v := .int .i64 k) rfl (by kernel_rfl) (by kernel_rfl) (by kernel_rfl) (fun _ _ _ h => h) (yi_mv (Or.inl rfl) rfl rfl) hS ?_
          simp only [Act.put, List.setIfInBounds_toArray, List.set_cons_zero, List.set_cons_succ]
          refine wpAnyH_take (i := 6) (oi := ⟨some 22, _, _, _, _, _⟩) (v := .pointer (some ⟨b2, off2 + k * 4, none⟩)) rfl (by kernel_rfl) (by kernel_rfl) (by kernel_rfl) (fun _ _ _ h => h) (yi_ixo rfl rfl rfl rfl Try.underlying22 rfl hlt2 hmx2) hS ?_
          simp only [Act.put, List.setIfInBounds_toArray, List.set_cons_zero, List.set_cons_succ]
          refine wpAnyH_take (i := 7) (oi := ⟨some 23, _, _, _, _, _⟩) (v := .agg (evA y)) rfl (by kernel_rfl) (by kernel_rfl) (by kernel_rfl) (fun _ _ _ h => h) (yi_ldr (B := evA y) rfl rfl rfl (fun w' h => h.2) Try.underlying27 rfl evInfo) hS ?_
          simp only [Act.put, List.setIfInBounds_toArray, List.set_cons_zero, List.set_cons_succ]
          refine wpAnyH_take (i := 8) (oi := ⟨some 24, _, _, _, _, _⟩) (v := .bool true) rfl (by kernel_rfl) (by kernel_rfl) (by kernel_rfl) (fun _ _ _ h => h) (yi_bi rfl rfl rfl rfl (fun _ => run_eqGuard_agg _ _ _ _ _ _ _ (by kernel_rfl)) (fun _ => ev_neq2 HNE.out _)) hS ?_
          simp only [Act.put, List.setIfInBounds_toArray, List.set_cons_zero, List.set_cons_succ]
          refine wpAnyH_done (by kernel_rfl) ?_ _
          clear hS
          replace HB := Lib.hid HB.out.drew
          go_wp2_with fail
          go_ret
          exact ⟨ret_bool HRES.out.symm, HB.out⟩
      · obtain rfl : k = xs.length := by omega
        have HRES : Hid (eqB xs ys = true) := Lib.hid (eqB_yes (by have := HE.out; rwa [List.take_length, HLEN.out, List.take_length] at this))
        go_wp2_with fail
        go_ret
        exact ⟨ret_bool HRES.out.symm, HB.out⟩
  · have hd : ((xs.length : Int) != ys.length) = true := by simp; omega
    have HRES : Hid (eqB xs ys = false) := Lib.hid (eqB_no (fun e => hlen (by rw [e])))
    clear hlen
    go_enter Try.func17, Try.ntmps17
    go_wp2_with fail
    go_ret
    exact ⟨ret_bool HRES.out.symm, HB.out⟩
set_option maxHeartbeats 4000000 in
set_option maxRecDepth 100000 in
theorem rs_any (lost mark lost2 mark2 : Int) (va vb : Value) (l m : List Ev) (hl : l.length ≤ 1048576) (hl2 : m.length ≤ 9223372036854775807) (w : World) (ha : Lst 4 cE w va l) (hb : Lst 4 cE w vb m) :
    Calls Try.prog 18 #[.agg #[.int .i64 lost, .int .i64 mark, va], .agg #[.int .i64 lost2, .int .i64 mark2, vb]] w fun e w' => e = .returned (.bool ((lost == lost2) && ((mark == mark2) && eqB l m))) ∧ Below w.heap.size w w' := by
  have HA := Lib.hid ha
  have HBB := Lib.hid hb
  clear ha hb
  obtain ⟨E, hE⟩ : ∃ E, E = eqB l m := ⟨_, rfl⟩
  have HE := Lib.hid hE
  clear hE
  by_cases h1 : (lost == lost2) = true
  · by_cases h2 : (mark == mark2) = true
    · have HW := Lib.hid (show eqB l m = ((lost == lost2) && ((mark == mark2) && eqB l m)) by rw [h1, h2]; rfl)
      go_enter Try.func18, Try.ntmps18
      go_wp2_with (first
        | ((with_reducible refine at_slot 2 ?_); refine wl_box (A := #[.int .i64 lost, .int .i64 mark, va]) rfl rfl rfl ?_; intro W1 g2 k2 hb hle; have HB := Lib.hid hb; clear hb hle)
        | ((with_reducible refine at_slot 3 ?_); refine wl_box (A := #[.int .i64 lost2, .int .i64 mark2, vb]) rfl rfl rfl ?_; intro W2 g3 k3 hb hle; replace k2 := k2.keep hb; replace HB := Lib.hid (below_tr HB.out hb); clear hb hle)
        | ((with_reducible refine at_slot 6 ?_); refine wl_ld1 (v := .int .i64 lost) rfl rfl rfl k2 Try.underlying2 rfl rfl ?_)
        | ((with_reducible refine at_slot 8 ?_); refine wl_ld1 (v := .int .i64 lost2) rfl rfl rfl k3 Try.underlying2 rfl rfl ?_)
        | ((with_reducible refine at_slot 12 ?_); refine wl_ld1 (v := .int .i64 mark) rfl rfl rfl k2 Try.underlying2 rfl rfl ?_)
        | ((with_reducible refine at_slot 14 ?_); refine wl_ld1 (v := .int .i64 mark2) rfl rfl rfl k3 Try.underlying2 rfl rfl ?_)
        | ((with_reducible refine at_slot 19 ?_); refine wl_ld1 (v := va) rfl rfl rfl k2 Try.underlying22 rfl rfl ?_)
        | ((with_reducible refine at_slot 21 ?_); refine wl_ld1 (v := vb) rfl rfl rfl k3 Try.underlying22 rfl rfl ?_)
        | ((with_reducible refine at_slot 22 ?_); refine wl_call rfl rfl Try.func33 (by kernel_rfl) rfl (es_any va vb l m hl hl2 _ (HA.out.keep HB.out) (HBB.out.keep HB.out)) rfl ?_; intro V hb; replace HB := Lib.hid (below_tr HB.out hb); clear hb))
      go_ret
      exact ⟨ret_bool HW.out, HB.out⟩
    · have h2' : (mark == mark2) = false := by simpa using h2
      have HW := Lib.hid (show false = ((lost == lost2) && ((mark == mark2) && eqB l m)) by rw [h2', h1]; rfl)
      clear h2
      go_enter Try.func18, Try.ntmps18
      go_wp2_with (first
        | ((with_reducible refine at_slot 2 ?_); refine wl_box (A := #[.int .i64 lost, .int .i64 mark, va]) rfl rfl rfl ?_; intro W1 g2 k2 hb hle; have HB := Lib.hid hb; clear hb hle)
        | ((with_reducible refine at_slot 3 ?_); refine wl_box (A := #[.int .i64 lost2, .int .i64 mark2, vb]) rfl rfl rfl ?_; intro W2 g3 k3 hb hle; replace k2 := k2.keep hb; replace HB := Lib.hid (below_tr HB.out hb); clear hb hle)
        | ((with_reducible refine at_slot 6 ?_); refine wl_ld1 (v := .int .i64 lost) rfl rfl rfl k2 Try.underlying2 rfl rfl ?_)
        | ((with_reducible refine at_slot 8 ?_); refine wl_ld1 (v := .int .i64 lost2) rfl rfl rfl k3 Try.underlying2 rfl rfl ?_)
        | ((with_reducible refine at_slot 12 ?_); refine wl_ld1 (v := .int .i64 mark) rfl rfl rfl k2 Try.underlying2 rfl rfl ?_)
        | ((with_reducible refine at_slot 14 ?_); refine wl_ld1 (v := .int .i64 mark2) rfl rfl rfl k3 Try.underlying2 rfl rfl ?_)
        | ((with_reducible refine at_slot 19 ?_); refine wl_ld1 (v := va) rfl rfl rfl k2 Try.underlying22 rfl rfl ?_)
        | ((with_reducible refine at_slot 21 ?_); refine wl_ld1 (v := vb) rfl rfl rfl k3 Try.underlying22 rfl rfl ?_)
        | ((with_reducible refine at_slot 22 ?_); refine wl_call rfl rfl Try.func33 (by kernel_rfl) rfl (es_any va vb l m hl hl2 _ (HA.out.keep HB.out) (HBB.out.keep HB.out)) rfl ?_; intro V hb; replace HB := Lib.hid (below_tr HB.out hb); clear hb))
      go_ret
      exact ⟨ret_bool HW.out, HB.out⟩
  · have h1' : (lost == lost2) = false := by simpa using h1
    have HW := Lib.hid (show false = ((lost == lost2) && ((mark == mark2) && eqB l m)) by rw [h1']; rfl)
    clear h1
    go_enter Try.func18, Try.ntmps18
    go_wp2_with (first
      | ((with_reducible refine at_slot 2 ?_); refine wl_box (A := #[.int .i64 lost, .int .i64 mark, va]) rfl rfl rfl ?_; intro W1 g2 k2 hb hle; have HB := Lib.hid hb; clear hb hle)
      | ((with_reducible refine at_slot 3 ?_); refine wl_box (A := #[.int .i64 lost2, .int .i64 mark2, vb]) rfl rfl rfl ?_; intro W2 g3 k3 hb hle; replace k2 := k2.keep hb; replace HB := Lib.hid (below_tr HB.out hb); clear hb hle)
      | ((with_reducible refine at_slot 6 ?_); refine wl_ld1 (v := .int .i64 lost) rfl rfl rfl k2 Try.underlying2 rfl rfl ?_)
      | ((with_reducible refine at_slot 8 ?_); refine wl_ld1 (v := .int .i64 lost2) rfl rfl rfl k3 Try.underlying2 rfl rfl ?_)
      | ((with_reducible refine at_slot 12 ?_); refine wl_ld1 (v := .int .i64 mark) rfl rfl rfl k2 Try.underlying2 rfl rfl ?_)
      | ((with_reducible refine at_slot 14 ?_); refine wl_ld1 (v := .int .i64 mark2) rfl rfl rfl k3 Try.underlying2 rfl rfl ?_)
      | ((with_reducible refine at_slot 19 ?_); refine wl_ld1 (v := va) rfl rfl rfl k2 Try.underlying22 rfl rfl ?_)
      | ((with_reducible refine at_slot 21 ?_); refine wl_ld1 (v := vb) rfl rfl rfl k3 Try.underlying22 rfl rfl ?_)
      | ((with_reducible refine at_slot 22 ?_); refine wl_call rfl rfl Try.func33 (by kernel_rfl) rfl (es_any va vb l m hl hl2 _ (HA.out.keep HB.out) (HBB.out.keep HB.out)) rfl ?_; intro V hb; replace HB := Lib.hid (below_tr HB.out hb); clear hb))
    go_ret
    exact ⟨ret_bool HW.out, HB.out⟩
set_option maxHeartbeats 4000000 in
set_option maxRecDepth 100000 in
theorem ss_any (lost mark lost2 mark2 : Int) (va vb : Value) (l m : List Ev) (hl : l.length ≤ 1048576) (hl2 : m.length ≤ 9223372036854775807) (w : World) (ha : Lst 4 cE w va l) (hb : Lst 4 cE w vb m) :
    Calls Try.prog 16 #[.agg #[.int .i64 lost, .int .i64 mark, va], .agg #[.int .i64 lost2, .int .i64 mark2, vb]] w fun e w' => e = .returned (.bool ((lost == lost2) && ((mark == mark2) && eqB l m))) ∧ Below w.heap.size w w' := by
  have HA := Lib.hid ha
  have HBB := Lib.hid hb
  clear ha hb
  obtain ⟨E, hE⟩ : ∃ E, E = eqB l m := ⟨_, rfl⟩
  have HE := Lib.hid hE
  clear hE
  by_cases h1 : (lost == lost2) = true
  · by_cases h2 : (mark == mark2) = true
    · have HW := Lib.hid (show eqB l m = ((lost == lost2) && ((mark == mark2) && eqB l m)) by rw [h1, h2]; rfl)
      go_enter Try.func16, Try.ntmps16
      go_wp2_with (first
        | ((with_reducible refine at_slot 2 ?_); refine wl_box (A := #[.int .i64 lost, .int .i64 mark, va]) rfl rfl rfl ?_; intro W1 g2 k2 hb hle; have HB := Lib.hid hb; clear hb hle)
        | ((with_reducible refine at_slot 3 ?_); refine wl_box (A := #[.int .i64 lost2, .int .i64 mark2, vb]) rfl rfl rfl ?_; intro W2 g3 k3 hb hle; replace k2 := k2.keep hb; replace HB := Lib.hid (below_tr HB.out hb); clear hb hle)
        | ((with_reducible refine at_slot 6 ?_); refine wl_ld1 (v := .int .i64 lost) rfl rfl rfl k2 Try.underlying2 rfl rfl ?_)
        | ((with_reducible refine at_slot 8 ?_); refine wl_ld1 (v := .int .i64 lost2) rfl rfl rfl k3 Try.underlying2 rfl rfl ?_)
        | ((with_reducible refine at_slot 12 ?_); refine wl_ld1 (v := .int .i64 mark) rfl rfl rfl k2 Try.underlying2 rfl rfl ?_)
        | ((with_reducible refine at_slot 14 ?_); refine wl_ld1 (v := .int .i64 mark2) rfl rfl rfl k3 Try.underlying2 rfl rfl ?_)
        | ((with_reducible refine at_slot 19 ?_); refine wl_ld1 (v := va) rfl rfl rfl k2 Try.underlying22 rfl rfl ?_)
        | ((with_reducible refine at_slot 21 ?_); refine wl_ld1 (v := vb) rfl rfl rfl k3 Try.underlying22 rfl rfl ?_)
        | ((with_reducible refine at_slot 22 ?_); refine wl_call rfl rfl Try.func17 (by kernel_rfl) rfl (sl_any va vb l m hl hl2 _ (HA.out.keep HB.out) (HBB.out.keep HB.out)) rfl ?_; intro V hb; replace HB := Lib.hid (below_tr HB.out hb); clear hb))
      go_ret
      exact ⟨ret_bool HW.out, HB.out⟩
    · have h2' : (mark == mark2) = false := by simpa using h2
      have HW := Lib.hid (show false = ((lost == lost2) && ((mark == mark2) && eqB l m)) by rw [h2', h1]; rfl)
      clear h2
      go_enter Try.func16, Try.ntmps16
      go_wp2_with (first
        | ((with_reducible refine at_slot 2 ?_); refine wl_box (A := #[.int .i64 lost, .int .i64 mark, va]) rfl rfl rfl ?_; intro W1 g2 k2 hb hle; have HB := Lib.hid hb; clear hb hle)
        | ((with_reducible refine at_slot 3 ?_); refine wl_box (A := #[.int .i64 lost2, .int .i64 mark2, vb]) rfl rfl rfl ?_; intro W2 g3 k3 hb hle; replace k2 := k2.keep hb; replace HB := Lib.hid (below_tr HB.out hb); clear hb hle)
        | ((with_reducible refine at_slot 6 ?_); refine wl_ld1 (v := .int .i64 lost) rfl rfl rfl k2 Try.underlying2 rfl rfl ?_)
        | ((with_reducible refine at_slot 8 ?_); refine wl_ld1 (v := .int .i64 lost2) rfl rfl rfl k3 Try.underlying2 rfl rfl ?_)
        | ((with_reducible refine at_slot 12 ?_); refine wl_ld1 (v := .int .i64 mark) rfl rfl rfl k2 Try.underlying2 rfl rfl ?_)
        | ((with_reducible refine at_slot 14 ?_); refine wl_ld1 (v := .int .i64 mark2) rfl rfl rfl k3 Try.underlying2 rfl rfl ?_)
        | ((with_reducible refine at_slot 19 ?_); refine wl_ld1 (v := va) rfl rfl rfl k2 Try.underlying22 rfl rfl ?_)
        | ((with_reducible refine at_slot 21 ?_); refine wl_ld1 (v := vb) rfl rfl rfl k3 Try.underlying22 rfl rfl ?_)
        | ((with_reducible refine at_slot 22 ?_); refine wl_call rfl rfl Try.func17 (by kernel_rfl) rfl (sl_any va vb l m hl hl2 _ (HA.out.keep HB.out) (HBB.out.keep HB.out)) rfl ?_; intro V hb; replace HB := Lib.hid (below_tr HB.out hb); clear hb))
      go_ret
      exact ⟨ret_bool HW.out, HB.out⟩
  · have h1' : (lost == lost2) = false := by simpa using h1
    have HW := Lib.hid (show false = ((lost == lost2) && ((mark == mark2) && eqB l m)) by rw [h1']; rfl)
    clear h1
    go_enter Try.func16, Try.ntmps16
    go_wp2_with (first
      | ((with_reducible refine at_slot 2 ?_); refine wl_box (A := #[.int .i64 lost, .int .i64 mark, va]) rfl rfl rfl ?_; intro W1 g2 k2 hb hle; have HB := Lib.hid hb; clear hb hle)
      | ((with_reducible refine at_slot 3 ?_); refine wl_box (A := #[.int .i64 lost2, .int .i64 mark2, vb]) rfl rfl rfl ?_; intro W2 g3 k3 hb hle; replace k2 := k2.keep hb; replace HB := Lib.hid (below_tr HB.out hb); clear hb hle)
      | ((with_reducible refine at_slot 6 ?_); refine wl_ld1 (v := .int .i64 lost) rfl rfl rfl k2 Try.underlying2 rfl rfl ?_)
      | ((with_reducible refine at_slot 8 ?_); refine wl_ld1 (v := .int .i64 lost2) rfl rfl rfl k3 Try.underlying2 rfl rfl ?_)
      | ((with_reducible refine at_slot 12 ?_); refine wl_ld1 (v := .int .i64 mark) rfl rfl rfl k2 Try.underlying2 rfl rfl ?_)
      | ((with_reducible refine at_slot 14 ?_); refine wl_ld1 (v := .int .i64 mark2) rfl rfl rfl k3 Try.underlying2 rfl rfl ?_)
      | ((with_reducible refine at_slot 19 ?_); refine wl_ld1 (v := va) rfl rfl rfl k2 Try.underlying22 rfl rfl ?_)
      | ((with_reducible refine at_slot 21 ?_); refine wl_ld1 (v := vb) rfl rfl rfl k3 Try.underlying22 rfl rfl ?_)
      | ((with_reducible refine at_slot 22 ?_); refine wl_call rfl rfl Try.func17 (by kernel_rfl) rfl (sl_any va vb l m hl hl2 _ (HA.out.keep HB.out) (HBB.out.keep HB.out)) rfl ?_; intro V hb; replace HB := Lib.hid (below_tr HB.out hb); clear hb))
    go_ret
    exact ⟨ret_bool HW.out, HB.out⟩
set_option maxHeartbeats 4000000 in
set_option maxRecDepth 100000 in
theorem rla_nil (lost mark : Int) (v : Value) (w : World) (h : Lst 4 cE w v []) :
    Calls Try.prog 13 #[.agg #[.int .i64 lost, .int .i64 mark, v]] w fun e w' => e = .returned (.tuple #[.agg (evA zeroEv), .int .i64 3]) ∧ Below w.heap.size w w' := by
  have HL := Lib.hid h
  have HSL := Lib.hid h.sl
  have HB := Lib.hid (Below.refl w.heap.size w)
  clear h
  go_enter Try.func13, Try.ntmps13
  go_wp2_with (first
    | ((with_reducible refine at_slot 1 ?_); refine wl_box (A := #[.int .i64 lost, .int .i64 mark, v]) rfl rfl rfl ?_; intro W1 g1 k1 hb hle1; replace HB := Lib.hid (below_tr HB.out hb); have HL1 := Lib.hid (HL.out.keep hb); clear hb)
    | ((with_reducible refine at_slot 2 ?_); refine wl_alloc (A := evA zeroEv) rfl rfl ev_zero rfl ?_; intro W2 g2 k2 hb hle2; have HLE := Lib.hid (Nat.le_trans HB.out.size hle2); have hn12 := k1.ne_of_le hle2; replace k1 := k1.keep hb; replace HB := Lib.hid (below_tr HB.out hb); have HL2 := Lib.hid (HL1.out.keep hb); clear hb)
    | ((with_reducible refine at_slot 5 ?_); refine wl_ld1 (v := v) rfl rfl rfl k1 Try.underlying22 rfl rfl ?_)
    | ((with_reducible refine at_slot 6 ?_); refine wl_lenL (n := 0) rfl rfl rfl Try.underlying22 HSL.out ?_)
    | ((with_reducible refine at_slot 8 ?_); refine wl_build rfl rfl (ev_bld0 _) rfl ?_)
    | ((with_reducible refine at_store 2 ?_); refine wl_st0 (A' := evA zeroEv) rfl rfl rfl rfl k2 rfl evInfo (evA_one _) ?_; intro W3 k3 hu; replace HB := Lib.hid (upd_below HB.out hu HLE.out); clear hu k2))
  refine bodyPost_ret (v := .tuple #[.agg (evA zeroEv), .int .i64 3]) (results_ct Try.results13 _ rfl rfl k3 Try.underlying27 rfl evInfo) rfl ?_
  exact ⟨rfl, HB.out⟩
set_option maxHeartbeats 4000000 in
set_option maxRecDepth 100000 in
theorem rla_some (lost mark : Int) (v : Value) (l : List Ev) (j : Nat) (x : Ev) (hl : l.length = j + 1) (hj : j ≤ 1000000) (hx : l[j]? = some x) (w : World) (h : Lst 4 cE w v l) :
    Calls Try.prog 13 #[.agg #[.int .i64 lost, .int .i64 mark, v]] w fun e w' => e = .returned (.tuple #[.agg (evA x), .int .i64 0]) ∧ Below w.heap.size w w' := by
  have HL := Lib.hid h
  obtain ⟨ao, b, off, cap, rfl, h1, h2⟩ := h.ex
  obtain ⟨rfl, hq1⟩ := h1 (by omega)
  have HKX := Lib.hid (h2 j x hx)
  have hwj : IntKind.i64.wrap ((l.length : Int) - 1) = (j : Nat) := by rw [IntKind.wrap_i64]; omega
  have HSL : Hid (∃ ao' cap', Value.slice (some ⟨b, off, none⟩) l.length cap = .slice ao' l.length cap') := Lib.hid ⟨_, _, rfl⟩
  have hl0 : 0 < (l.length : Int) := by omega
  have hd0 : ((l.length : Int) == 0) = false := by rw [beq_eq_false_iff_ne]; omega
  have hjl : j < l.length := by omega
  have hmm : l.length ≤ 9223372036854775807 := by omega
  have HB := Lib.hid (Below.refl w.heap.size w)
  clear h h1 h2 hx hl
  go_enter Try.func13, Try.ntmps13
  go_wp2_with (first
    | ((with_reducible refine at_slot 1 ?_); refine wl_box (A := #[.int .i64 lost, .int .i64 mark, .slice (some ⟨b, off, none⟩) l.length cap]) rfl rfl rfl ?_; intro W1 g1 k1 hb hle1; replace HB := Lib.hid (below_tr HB.out hb); have HL1 := Lib.hid (HL.out.keep hb); clear hb)
    | ((with_reducible refine at_slot 2 ?_); refine wl_alloc (A := evA zeroEv) rfl rfl ev_zero rfl ?_; intro W2 g2 k2 hb hle2; have HLE := Lib.hid (Nat.le_trans HB.out.size hle2); have hn12 := k1.ne_of_le hle2; replace k1 := k1.keep hb; replace HB := Lib.hid (below_tr HB.out hb); have HL2 := Lib.hid (HL1.out.keep hb); clear hb)
    | ((with_reducible refine at_slot 5 ?_); refine wl_ld1 (v := .slice (some ⟨b, off, none⟩) l.length cap) rfl rfl rfl k1 Try.underlying22 rfl rfl ?_)
    | ((with_reducible refine at_slot 6 ?_); refine wl_lenL rfl rfl rfl Try.underlying22 HSL.out ?_)
    | ((with_reducible refine at_slot 10 ?_); refine wl_ld1 (v := .slice (some ⟨b, off, none⟩) l.length cap) rfl rfl rfl k1 Try.underlying22 rfl rfl ?_)
    | ((with_reducible refine at_slot 12 ?_); refine wl_ld1 (v := .slice (some ⟨b, off, none⟩) l.length cap) rfl rfl rfl k1 Try.underlying22 rfl rfl ?_)
    | ((with_reducible refine at_slot 13 ?_); refine wl_lenL rfl rfl rfl Try.underlying22 HSL.out ?_)
    | ((with_reducible refine at_slot 14 ?_); refine wl_bin (v := .int .i64 (j : Nat)) rfl rfl rfl (sub_is hwj) ?_)
    | ((with_reducible refine at_slot 15 ?_); refine wl_ixo rfl rfl rfl rfl Try.underlying22 rfl hjl hmm ?_)
    | ((with_reducible refine at_slot 16 ?_); refine wl_ldr (B := evA x) rfl rfl rfl (range_keep HKX.out (HB.out.block b hq1)) Try.underlying27 rfl evInfo ?_)
    | ((with_reducible refine at_store 2 ?_); refine wl_st0 (A' := evA x) rfl rfl rfl rfl k2 rfl evInfo (evA_one _) ?_; intro W3 k3 hu; replace HB := Lib.hid (upd_below HB.out hu HLE.out); clear hu k2))
  refine bodyPost_ret (v := .tuple #[.agg (evA x), .int .i64 0]) (results_ct Try.results13 _ rfl rfl k3 Try.underlying27 rfl evInfo) rfl ?_
  exact ⟨rfl, HB.out⟩
set_option maxHeartbeats 4000000 in
set_option maxRecDepth 100000 in
theorem rr_range (lost mark : Int) (v : Value) (a b : Int) (hab : b ≤ a) (w : World) :
    Calls Try.prog 11 #[.agg #[.int .i64 lost, .int .i64 mark, v], .int .i64 a, .int .i64 b] w fun r w' => r = .returned (.tuple #[.slice none 0 0, .int .i64 1]) ∧ Below w.heap.size w w' := by
  have hge : a ≥ b := hab
  go_enter Try.func11, Try.ntmps11
  go_wp2_with (first
    | ((with_reducible refine at_slot 3 ?_); refine wl_box (A := #[.int .i64 lost, .int .i64 mark, v]) rfl rfl rfl ?_; intro W1 g3 k3 hb hle3; have HB := Lib.hid hb; clear hb)
    | ((with_reducible refine at_slot 15 ?_); refine wl_ld1 (v := .int .i64 lost) rfl rfl rfl k3 Try.underlying2 rfl rfl ?_)
    | ((with_reducible refine at_slot 19 ?_); refine wl_ld1 (v := .int .i64 mark) rfl rfl rfl k3 Try.underlying2 rfl rfl ?_))
  go_ret2
  exact ⟨rfl, HB.out⟩
set_option maxHeartbeats 4000000 in
set_option maxRecDepth 100000 in
theorem rr_old (lost mark : Int) (v : Value) (a b : Int) (hab : a < b) (h1 : 0 < lost) (h2 : a ≤ mark) (w : World) :
    Calls Try.prog 11 #[.agg #[.int .i64 lost, .int .i64 mark, v], .int .i64 a, .int .i64 b] w fun r w' => r = .returned (.tuple #[.slice none 0 0, .int .i64 11]) ∧ Below w.heap.size w w' := by
  have hge : ¬ a ≥ b := by omega
  have hg2 : lost > 0 := h1
  have hg3 : mark ≥ a := h2
  go_enter Try.func11, Try.ntmps11
  go_wp2_with (first
    | ((with_reducible refine at_slot 3 ?_); refine wl_box (A := #[.int .i64 lost, .int .i64 mark, v]) rfl rfl rfl ?_; intro W1 g3 k3 hb hle3; have HB := Lib.hid hb; clear hb)
    | ((with_reducible refine at_slot 15 ?_); refine wl_ld1 (v := .int .i64 lost) rfl rfl rfl k3 Try.underlying2 rfl rfl ?_)
    | ((with_reducible refine at_slot 19 ?_); refine wl_ld1 (v := .int .i64 mark) rfl rfl rfl k3 Try.underlying2 rfl rfl ?_))
  go_ret2
  exact ⟨rfl, HB.out⟩
set_option maxHeartbeats 4000000 in
set_option maxRecDepth 100000 in
theorem rr_ok (lost mark : Int) (v : Value) (l : List Ev) (hl : l.length ≤ 1000000) (a b : Int) (hab : a < b) (h1 : ¬ (0 < lost ∧ a ≤ mark)) (w : World) (h : Lst 4 cE w v l) :
    Calls Try.prog 11 #[.agg #[.int .i64 lost, .int .i64 mark, v], .int .i64 a, .int .i64 b] w fun r w' => ∃ v', r = .returned (.tuple #[v', .int .i64 0]) ∧ w'.ownsRow w.heap.size 27 4 v' (l.filter (inB a b)).length (fl cE (l.filter (inB a b))) ∧ Below w.heap.size w w' := by
  have hge : ¬ a ≥ b := by omega
  obtain ⟨ao, bb, off, cap, rfl, hx1, hx2⟩ := h.ex
  have H1 := Lib.hid hx1
  have H2 := Lib.hid hx2
  obtain ⟨i0, hi, hz, hs, hby⟩ := infoE
  have HI0 := Lib.hid (show _ ∧ _ ∧ _ ∧ _ from ⟨hi, hz, hs, hby⟩)
  have hmm : l.length ≤ 9223372036854775807 := by omega
  clear h hx1 hx2 hi hz hs hby
  by_cases h2 : 0 < lost
  · have hg2 : lost > 0 := h2
    have hg3 : ¬ mark ≥ a := fun h => h1 ⟨h2, h⟩
    clear h1 h2
    go_enter Try.func11, Try.ntmps11
    go_wp2_with (first
      | ((with_reducible refine at_slot 3 ?_); refine wl_box (A := #[.int .i64 lost, .int .i64 mark, .slice ao l.length cap]) rfl rfl rfl ?_; intro W1 g3 k3 hb hle3; have HB := Lib.hid hb; clear hb)
      | ((with_reducible refine at_slot 15 ?_); refine wl_ld1 (v := .int .i64 lost) rfl rfl rfl k3 Try.underlying2 rfl rfl ?_)
      | ((with_reducible refine at_slot 19 ?_); refine wl_ld1 (v := .int .i64 mark) rfl rfl rfl k3 Try.underlying2 rfl rfl ?_)
      | ((with_reducible refine at_slot 24 ?_); refine wl_ld1 (v := .slice ao l.length cap) rfl rfl rfl k3 Try.underlying22 rfl rfl ?_))
    have HPJ : Hid (PkJ w W1 l a b 0 (.slice none 0 0)) := Lib.hid ⟨Nat.zero_le _, World.ownsRow_nil _ _ _ _, HB.out⟩
    go_loopw [8, 26] (fun v i wr => ∃ k : Nat, PkJ w wr l a b k v ∧ i = .int .i64 k) (fun _ i _ => l.length - (intOf i).toNat)
    case atStart => exact ⟨0, HPJ.out, rfl⟩
    case round =>
      clear HPJ HB k3
      obtain ⟨k, hJ, rfl⟩ := hrel
      have hk := hJ.le
      have HB := Lib.hid hJ.below
      have HO := Lib.hid hJ.own
      clear hJ
      by_cases hlt : k < l.length
      · obtain ⟨rfl, hq1⟩ := H1.out (by omega)
        have hgx : l[k]? = some l[k] := List.getElem?_eq_getElem hlt
        have HTK := Lib.hid (List.take_succ_eq_append_getElem hlt)
        have HKX := Lib.hid (range_keep (H2.out k _ hgx) (HB.out.block bb hq1))
        have HFL := Lib.hid (show ((l.take k).filter (inB a b)).length ≤ 1000000 from Nat.le_trans (List.length_filter_le _ _) (by rw [List.length_take]; omega))
        generalize l[k] = y at hgx HTK HKX
        clear hgx
        by_cases hy1 : a ≤ y.t
        · have hy1' : y.t ≥ a := hy1
          by_cases hy2 : y.t < b
          · skip
            have hiy : inB a b y = true := by unfold inB; simp; omega
            have HTF : Hid ((l.take (k + 1)).filter (inB a b) = (l.take k).filter (inB a b) ++ [y]) := Lib.hid (by rw [HTK.out, List.filter_append]; simp [hiy])
            clear hiy
            go_wp2_with (first
              | ((with_reducible refine at_slot 28 ?_); refine wl_ixo rfl rfl rfl rfl Try.underlying22 rfl hlt hmm ?_)
              | ((with_reducible refine at_slot 29 ?_); refine wl_ldr (B := evA y) rfl rfl rfl HKX.out Try.underlying27 rfl evInfo ?_)
              | ((with_reducible refine at_slot 10 ?_); refine wl_alloc (A := evA zeroEv) rfl rfl ev_zero rfl ?_; intro W10 g10 k10 hb hle; have HLE7 := Lib.hid (Nat.le_trans HB.out.size hle); have HN7 := Lib.hid (fun q (hq : u8.ownBlock = some q) => show q ≠ g10 from by have := (HO.out.lt q hq).2; omega); replace HO := Lib.hid (own_keep HO.out hb); replace HB := Lib.hid (below_tr HB.out hb); clear hb hle)
              | ((with_reducible refine at_store 10 ?_); refine wl_st0 (A' := evA y) rfl rfl rfl rfl k10 rfl evInfo (evA_one _) ?_; intro W11 kn hu; replace HO := Lib.hid (own_same HO.out (fun q hq => hu.block q (HO.out.lt q hq).2 (HN7.out q hq))); replace HB := Lib.hid (upd_below HB.out hu HLE7.out); clear k10; have k10 := kn; clear kn hu)
              | ((with_reducible refine at_slot 31 ?_); refine wl_ld1 (v := .int .i64 y.t) rfl rfl rfl k10 Try.underlying2 rfl rfl ?_)
              | ((with_reducible refine at_slot 36 ?_); refine wl_ld1 (v := .int .i64 y.t) rfl rfl rfl k10 Try.underlying2 rfl rfl ?_)
              | ((with_reducible refine at_slot 41 ?_); refine wl_ld0 rfl rfl rfl k10 Try.underlying27 rfl evInfo ?_)
              | ((with_reducible refine at_slot 42 ?_); refine wl_bslice (A := evA y) rfl rfl (e_bs y _) rfl ?_; intro W12 gc kc hb hle; replace HO := Lib.hid (own_keep HO.out hb); replace HB := Lib.hid (below_tr HB.out hb); clear hb hle)
              | (at_builtin; refine wpList_append_lies _ rfl _ _ 22 rfl w.heap.size 27 i0 _ 4 32 Try.underlying22 HI0.out.1 HI0.out.2.1 HI0.out.2.2.1 HI0.out.2.2.2 rfl (by decide) u8 ((l.take k).filter (inB a b)).length (fl cE ((l.take k).filter (inB a b))) rfl HO.out ⟨gc, 0, none⟩ 1 1 (cE y) rfl rfl (World.news_of_block (cs := evA y) kc) (cE_one y) (by omega) (by unfold maxLen; have := HFL.out; omega) (by have := HFL.out; omega) HB.out.size _ rfl ?_; intro g2 cap2 W4 hown2 hgrow hat hlt4; have HN : Hid (PkJ w W4 l a b (k + 1) (.slice (some ⟨g2, 0, none⟩) (((l.take k).filter (inB a b)).length + 1) cap2)) := Lib.hid ⟨hlt, by rw [HTF.out, fl_append, fl_one, List.length_append]; exact hown2, HB.out.grown hgrow HB.out.size (fun q' hq' => (HO.out.lt q' hq').1)⟩; clear hown2 hgrow hat))
            go_roundw
            case rel => exact ⟨k + 1, HN.out, by go_num⟩
            case measure => simp [intOf]; omega
          · skip
            have hiy : inB a b y = false := by unfold inB; simp; omega
            have HTF : Hid ((l.take (k + 1)).filter (inB a b) = (l.take k).filter (inB a b)) := Lib.hid (by rw [HTK.out, List.filter_append]; simp [hiy])
            clear hiy
            go_wp2_with (first
              | ((with_reducible refine at_slot 28 ?_); refine wl_ixo rfl rfl rfl rfl Try.underlying22 rfl hlt hmm ?_)
              | ((with_reducible refine at_slot 29 ?_); refine wl_ldr (B := evA y) rfl rfl rfl HKX.out Try.underlying27 rfl evInfo ?_)
              | ((with_reducible refine at_slot 10 ?_); refine wl_alloc (A := evA zeroEv) rfl rfl ev_zero rfl ?_; intro W10 g10 k10 hb hle; have HLE7 := Lib.hid (Nat.le_trans HB.out.size hle); have HN7 := Lib.hid (fun q (hq : u8.ownBlock = some q) => show q ≠ g10 from by have := (HO.out.lt q hq).2; omega); replace HO := Lib.hid (own_keep HO.out hb); replace HB := Lib.hid (below_tr HB.out hb); clear hb hle)
              | ((with_reducible refine at_store 10 ?_); refine wl_st0 (A' := evA y) rfl rfl rfl rfl k10 rfl evInfo (evA_one _) ?_; intro W11 kn hu; replace HO := Lib.hid (own_same HO.out (fun q hq => hu.block q (HO.out.lt q hq).2 (HN7.out q hq))); replace HB := Lib.hid (upd_below HB.out hu HLE7.out); clear k10; have k10 := kn; clear kn hu)
              | ((with_reducible refine at_slot 31 ?_); refine wl_ld1 (v := .int .i64 y.t) rfl rfl rfl k10 Try.underlying2 rfl rfl ?_)
              | ((with_reducible refine at_slot 36 ?_); refine wl_ld1 (v := .int .i64 y.t) rfl rfl rfl k10 Try.underlying2 rfl rfl ?_))
            go_roundw
            case rel => exact ⟨k + 1, ⟨hlt, by rw [HTF.out]; exact HO.out, HB.out⟩, by go_num⟩
            case measure => simp [intOf]; omega
        · have hy1' : ¬ y.t ≥ a := hy1
          have hiy : inB a b y = false := by unfold inB; simp; omega
          have HTF : Hid ((l.take (k + 1)).filter (inB a b) = (l.take k).filter (inB a b)) := Lib.hid (by rw [HTK.out, List.filter_append]; simp [hiy])
          clear hiy
          go_wp2_with (first
            | ((with_reducible refine at_slot 28 ?_); refine wl_ixo rfl rfl rfl rfl Try.underlying22 rfl hlt hmm ?_)
            | ((with_reducible refine at_slot 29 ?_); refine wl_ldr (B := evA y) rfl rfl rfl HKX.out Try.underlying27 rfl evInfo ?_)
            | ((with_reducible refine at_slot 10 ?_); refine wl_alloc (A := evA zeroEv) rfl rfl ev_zero rfl ?_; intro W10 g10 k10 hb hle; have HLE7 := Lib.hid (Nat.le_trans HB.out.size hle); have HN7 := Lib.hid (fun q (hq : u8.ownBlock = some q) => show q ≠ g10 from by have := (HO.out.lt q hq).2; omega); replace HO := Lib.hid (own_keep HO.out hb); replace HB := Lib.hid (below_tr HB.out hb); clear hb hle)
            | ((with_reducible refine at_store 10 ?_); refine wl_st0 (A' := evA y) rfl rfl rfl rfl k10 rfl evInfo (evA_one _) ?_; intro W11 kn hu; replace HO := Lib.hid (own_same HO.out (fun q hq => hu.block q (HO.out.lt q hq).2 (HN7.out q hq))); replace HB := Lib.hid (upd_below HB.out hu HLE7.out); clear k10; have k10 := kn; clear kn hu)
            | ((with_reducible refine at_slot 31 ?_); refine wl_ld1 (v := .int .i64 y.t) rfl rfl rfl k10 Try.underlying2 rfl rfl ?_)
            | ((with_reducible refine at_slot 36 ?_); refine wl_ld1 (v := .int .i64 y.t) rfl rfl rfl k10 Try.underlying2 rfl rfl ?_))
          go_roundw
          case rel => exact ⟨k + 1, ⟨hlt, by rw [HTF.out]; exact HO.out, HB.out⟩, by go_num⟩
          case measure => simp [intOf]; omega
      · obtain rfl : k = l.length := by omega
        have ho := HO.out
        rw [List.take_length] at ho
        have HO2 := Lib.hid ho
        clear ho
        go_wp2_with fail
        go_ret2
        exact ⟨_, rfl, HO2.out, HB.out⟩
  · have hg2 : ¬ lost > 0 := h2
    clear h1 h2
    go_enter Try.func11, Try.ntmps11
    go_wp2_with (first
      | ((with_reducible refine at_slot 3 ?_); refine wl_box (A := #[.int .i64 lost, .int .i64 mark, .slice ao l.length cap]) rfl rfl rfl ?_; intro W1 g3 k3 hb hle3; have HB := Lib.hid hb; clear hb)
      | ((with_reducible refine at_slot 15 ?_); refine wl_ld1 (v := .int .i64 lost) rfl rfl rfl k3 Try.underlying2 rfl rfl ?_)
      | ((with_reducible refine at_slot 19 ?_); refine wl_ld1 (v := .int .i64 mark) rfl rfl rfl k3 Try.underlying2 rfl rfl ?_)
      | ((with_reducible refine at_slot 24 ?_); refine wl_ld1 (v := .slice ao l.length cap) rfl rfl rfl k3 Try.underlying22 rfl rfl ?_))
    have HPJ : Hid (PkJ w W1 l a b 0 (.slice none 0 0)) := Lib.hid ⟨Nat.zero_le _, World.ownsRow_nil _ _ _ _, HB.out⟩
    go_loopw [8, 26] (fun v i wr => ∃ k : Nat, PkJ w wr l a b k v ∧ i = .int .i64 k) (fun _ i _ => l.length - (intOf i).toNat)
    case atStart => exact ⟨0, HPJ.out, rfl⟩
    case round =>
      clear HPJ HB k3
      obtain ⟨k, hJ, rfl⟩ := hrel
      have hk := hJ.le
      have HB := Lib.hid hJ.below
      have HO := Lib.hid hJ.own
      clear hJ
      by_cases hlt : k < l.length
      · obtain ⟨rfl, hq1⟩ := H1.out (by omega)
        have hgx : l[k]? = some l[k] := List.getElem?_eq_getElem hlt
        have HTK := Lib.hid (List.take_succ_eq_append_getElem hlt)
        have HKX := Lib.hid (range_keep (H2.out k _ hgx) (HB.out.block bb hq1))
        have HFL := Lib.hid (show ((l.take k).filter (inB a b)).length ≤ 1000000 from Nat.le_trans (List.length_filter_le _ _) (by rw [List.length_take]; omega))
        generalize l[k] = y at hgx HTK HKX
        clear hgx
        by_cases hy1 : a ≤ y.t
        · have hy1' : y.t ≥ a := hy1
          by_cases hy2 : y.t < b
          · skip
            have hiy : inB a b y = true := by unfold inB; simp; omega
            have HTF : Hid ((l.take (k + 1)).filter (inB a b) = (l.take k).filter (inB a b) ++ [y]) := Lib.hid (by rw [HTK.out, List.filter_append]; simp [hiy])
            clear hiy
            go_wp2_with (first
              | ((with_reducible refine at_slot 28 ?_); refine wl_ixo rfl rfl rfl rfl Try.underlying22 rfl hlt hmm ?_)
              | ((with_reducible refine at_slot 29 ?_); refine wl_ldr (B := evA y) rfl rfl rfl HKX.out Try.underlying27 rfl evInfo ?_)
              | ((with_reducible refine at_slot 10 ?_); refine wl_alloc (A := evA zeroEv) rfl rfl ev_zero rfl ?_; intro W10 g10 k10 hb hle; have HLE7 := Lib.hid (Nat.le_trans HB.out.size hle); have HN7 := Lib.hid (fun q (hq : u8.ownBlock = some q) => show q ≠ g10 from by have := (HO.out.lt q hq).2; omega); replace HO := Lib.hid (own_keep HO.out hb); replace HB := Lib.hid (below_tr HB.out hb); clear hb hle)
              | ((with_reducible refine at_store 10 ?_); refine wl_st0 (A' := evA y) rfl rfl rfl rfl k10 rfl evInfo (evA_one _) ?_; intro W11 kn hu; replace HO := Lib.hid (own_same HO.out (fun q hq => hu.block q (HO.out.lt q hq).2 (HN7.out q hq))); replace HB := Lib.hid (upd_below HB.out hu HLE7.out); clear k10; have k10 := kn; clear kn hu)
              | ((with_reducible refine at_slot 31 ?_); refine wl_ld1 (v := .int .i64 y.t) rfl rfl rfl k10 Try.underlying2 rfl rfl ?_)
              | ((with_reducible refine at_slot 36 ?_); refine wl_ld1 (v := .int .i64 y.t) rfl rfl rfl k10 Try.underlying2 rfl rfl ?_)
              | ((with_reducible refine at_slot 41 ?_); refine wl_ld0 rfl rfl rfl k10 Try.underlying27 rfl evInfo ?_)
              | ((with_reducible refine at_slot 42 ?_); refine wl_bslice (A := evA y) rfl rfl (e_bs y _) rfl ?_; intro W12 gc kc hb hle; replace HO := Lib.hid (own_keep HO.out hb); replace HB := Lib.hid (below_tr HB.out hb); clear hb hle)
              | (at_builtin; refine wpList_append_lies _ rfl _ _ 22 rfl w.heap.size 27 i0 _ 4 32 Try.underlying22 HI0.out.1 HI0.out.2.1 HI0.out.2.2.1 HI0.out.2.2.2 rfl (by decide) u8 ((l.take k).filter (inB a b)).length (fl cE ((l.take k).filter (inB a b))) rfl HO.out ⟨gc, 0, none⟩ 1 1 (cE y) rfl rfl (World.news_of_block (cs := evA y) kc) (cE_one y) (by omega) (by unfold maxLen; have := HFL.out; omega) (by have := HFL.out; omega) HB.out.size _ rfl ?_; intro g2 cap2 W4 hown2 hgrow hat hlt4; have HN : Hid (PkJ w W4 l a b (k + 1) (.slice (some ⟨g2, 0, none⟩) (((l.take k).filter (inB a b)).length + 1) cap2)) := Lib.hid ⟨hlt, by rw [HTF.out, fl_append, fl_one, List.length_append]; exact hown2, HB.out.grown hgrow HB.out.size (fun q' hq' => (HO.out.lt q' hq').1)⟩; clear hown2 hgrow hat))
            go_roundw
            case rel => exact ⟨k + 1, HN.out, by go_num⟩
            case measure => simp [intOf]; omega
          · skip
            have hiy : inB a b y = false := by unfold inB; simp; omega
            have HTF : Hid ((l.take (k + 1)).filter (inB a b) = (l.take k).filter (inB a b)) := Lib.hid (by rw [HTK.out, List.filter_append]; simp [hiy])
            clear hiy
            go_wp2_with (first
              | ((with_reducible refine at_slot 28 ?_); refine wl_ixo rfl rfl rfl rfl Try.underlying22 rfl hlt hmm ?_)
              | ((with_reducible refine at_slot 29 ?_); refine wl_ldr (B := evA y) rfl rfl rfl HKX.out Try.underlying27 rfl evInfo ?_)
              | ((with_reducible refine at_slot 10 ?_); refine wl_alloc (A := evA zeroEv) rfl rfl ev_zero rfl ?_; intro W10 g10 k10 hb hle; have HLE7 := Lib.hid (Nat.le_trans HB.out.size hle); have HN7 := Lib.hid (fun q (hq : u8.ownBlock = some q) => show q ≠ g10 from by have := (HO.out.lt q hq).2; omega); replace HO := Lib.hid (own_keep HO.out hb); replace HB := Lib.hid (below_tr HB.out hb); clear hb hle)
              | ((with_reducible refine at_store 10 ?_); refine wl_st0 (A' := evA y) rfl rfl rfl rfl k10 rfl evInfo (evA_one _) ?_; intro W11 kn hu; replace HO := Lib.hid (own_same HO.out (fun q hq => hu.block q (HO.out.lt q hq).2 (HN7.out q hq))); replace HB := Lib.hid (upd_below HB.out hu HLE7.out); clear k10; have k10 := kn; clear kn hu)
              | ((with_reducible refine at_slot 31 ?_); refine wl_ld1 (v := .int .i64 y.t) rfl rfl rfl k10 Try.underlying2 rfl rfl ?_)
              | ((with_reducible refine at_slot 36 ?_); refine wl_ld1 (v := .int .i64 y.t) rfl rfl rfl k10 Try.underlying2 rfl rfl ?_))
            go_roundw
            case rel => exact ⟨k + 1, ⟨hlt, by rw [HTF.out]; exact HO.out, HB.out⟩, by go_num⟩
            case measure => simp [intOf]; omega
        · have hy1' : ¬ y.t ≥ a := hy1
          have hiy : inB a b y = false := by unfold inB; simp; omega
          have HTF : Hid ((l.take (k + 1)).filter (inB a b) = (l.take k).filter (inB a b)) := Lib.hid (by rw [HTK.out, List.filter_append]; simp [hiy])
          clear hiy
          go_wp2_with (first
            | ((with_reducible refine at_slot 28 ?_); refine wl_ixo rfl rfl rfl rfl Try.underlying22 rfl hlt hmm ?_)
            | ((with_reducible refine at_slot 29 ?_); refine wl_ldr (B := evA y) rfl rfl rfl HKX.out Try.underlying27 rfl evInfo ?_)
            | ((with_reducible refine at_slot 10 ?_); refine wl_alloc (A := evA zeroEv) rfl rfl ev_zero rfl ?_; intro W10 g10 k10 hb hle; have HLE7 := Lib.hid (Nat.le_trans HB.out.size hle); have HN7 := Lib.hid (fun q (hq : u8.ownBlock = some q) => show q ≠ g10 from by have := (HO.out.lt q hq).2; omega); replace HO := Lib.hid (own_keep HO.out hb); replace HB := Lib.hid (below_tr HB.out hb); clear hb hle)
            | ((with_reducible refine at_store 10 ?_); refine wl_st0 (A' := evA y) rfl rfl rfl rfl k10 rfl evInfo (evA_one _) ?_; intro W11 kn hu; replace HO := Lib.hid (own_same HO.out (fun q hq => hu.block q (HO.out.lt q hq).2 (HN7.out q hq))); replace HB := Lib.hid (upd_below HB.out hu HLE7.out); clear k10; have k10 := kn; clear kn hu)
            | ((with_reducible refine at_slot 31 ?_); refine wl_ld1 (v := .int .i64 y.t) rfl rfl rfl k10 Try.underlying2 rfl rfl ?_)
            | ((with_reducible refine at_slot 36 ?_); refine wl_ld1 (v := .int .i64 y.t) rfl rfl rfl k10 Try.underlying2 rfl rfl ?_))
          go_roundw
          case rel => exact ⟨k + 1, ⟨hlt, by rw [HTF.out]; exact HO.out, HB.out⟩, by go_num⟩
          case measure => simp [intOf]; omega
      · obtain rfl : k = l.length := by omega
        have ho := HO.out
        rw [List.take_length] at ho
        have HO2 := Lib.hid ho
        clear ho
        go_wp2_with fail
        go_ret2
        exact ⟨_, rfl, HO2.out, HB.out⟩
end Go.Proofs.Ytohkioakipjanaa
