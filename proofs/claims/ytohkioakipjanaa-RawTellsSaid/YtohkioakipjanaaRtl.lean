/-
  WALKS: law 12: RawTells.
-/
import Derived.Test.YtohkioakipjanaaRx12
import Derived.Test.YtohkioakipjanaaTr6
namespace Go.Proofs.Ytohkioakipjanaa
open Go Go.RowKit

set_option maxHeartbeats 4000000 in
set_option maxRecDepth 100000 in
theorem tells_any (lost mark : Int) (v : Value) (l : List Ev) (hin : AllIn l) (lost2 mark2 : Int) (v2 : Value) (l2 : List Ev) (room : Int) (e : Ev) (hie : EvIn e) (a b : Int) (w : World) (h : Lst 4 cE w v l) (h2 : Lst 4 cE w v2 l2) :
    Calls Try.prog 3 #[.agg #[.int .i64 lost, .int .i64 mark, v], .agg #[.int .i64 lost2, .int .i64 mark2, v2], .int .i64 room, .agg (evA e), .int .i64 a, .int .i64 b] w fun r w' => r = .returned (.bool true) ∧ Below w.heap.size w w' := by
  have HSL1 := Lib.hid h.sl
  have HSL2 := Lib.hid h2.sl
  by_cases c1 : (l.length : Int) > 300
  · clear h h2 hin hie
    go_enter Try.func3, Try.ntmps3
    go_wp2_with (first
      | ((with_reducible refine at_slot 6 ?_); refine wl_box (A := #[.int .i64 lost, .int .i64 mark, v]) rfl rfl rfl ?_; intro W1 g6 k6 hb hle; have HB := Lib.hid hb; clear hb hle)
      | ((with_reducible refine at_slot 7 ?_); refine wl_box (A := #[.int .i64 lost2, .int .i64 mark2, v2]) rfl rfl rfl ?_; intro W2 g7 k7 hb hle; replace k6 := k6.keep hb; replace HB := Lib.hid (below_tr HB.out hb); clear hb hle)
      | ((with_reducible refine at_slot 9 ?_); refine wl_box (A := evA e) rfl rfl rfl ?_; intro W3 g9 k9 hb hle; replace k6 := k6.keep hb; replace k7 := k7.keep hb; replace HB := Lib.hid (below_tr HB.out hb); clear hb hle)
      | ((with_reducible refine at_slot 26 ?_); refine wl_ld1 (v := v) rfl rfl rfl k6 Try.underlying22 rfl rfl ?_)
      | ((with_reducible refine at_slot 27 ?_); refine wl_lenL rfl rfl rfl Try.underlying22 HSL1.out ?_)
      | ((with_reducible refine at_slot 31 ?_); refine wl_ld1 (v := v2) rfl rfl rfl k7 Try.underlying22 rfl rfl ?_)
      | ((with_reducible refine at_slot 32 ?_); refine wl_lenL rfl rfl rfl Try.underlying22 HSL2.out ?_)
      | ((with_reducible refine at_slot 35 ?_); refine wl_call rfl rfl Try.func7 (by kernel_rfl) rfl (lives12 _) rfl ?_; intro V hb; replace HB := Lib.hid (below_tr HB.out hb); clear hb))
    go_ret
    exact ⟨rfl, HB.out⟩
  · by_cases c2 : (l2.length : Int) > 300
    · clear h h2 hin hie
      go_enter Try.func3, Try.ntmps3
      go_wp2_with (first
        | ((with_reducible refine at_slot 6 ?_); refine wl_box (A := #[.int .i64 lost, .int .i64 mark, v]) rfl rfl rfl ?_; intro W1 g6 k6 hb hle; have HB := Lib.hid hb; clear hb hle)
        | ((with_reducible refine at_slot 7 ?_); refine wl_box (A := #[.int .i64 lost2, .int .i64 mark2, v2]) rfl rfl rfl ?_; intro W2 g7 k7 hb hle; replace k6 := k6.keep hb; replace HB := Lib.hid (below_tr HB.out hb); clear hb hle)
        | ((with_reducible refine at_slot 9 ?_); refine wl_box (A := evA e) rfl rfl rfl ?_; intro W3 g9 k9 hb hle; replace k6 := k6.keep hb; replace k7 := k7.keep hb; replace HB := Lib.hid (below_tr HB.out hb); clear hb hle)
        | ((with_reducible refine at_slot 26 ?_); refine wl_ld1 (v := v) rfl rfl rfl k6 Try.underlying22 rfl rfl ?_)
        | ((with_reducible refine at_slot 27 ?_); refine wl_lenL rfl rfl rfl Try.underlying22 HSL1.out ?_)
        | ((with_reducible refine at_slot 31 ?_); refine wl_ld1 (v := v2) rfl rfl rfl k7 Try.underlying22 rfl rfl ?_)
        | ((with_reducible refine at_slot 32 ?_); refine wl_lenL rfl rfl rfl Try.underlying22 HSL2.out ?_)
        | ((with_reducible refine at_slot 35 ?_); refine wl_call rfl rfl Try.func7 (by kernel_rfl) rfl (lives12 _) rfl ?_; intro V hb; replace HB := Lib.hid (below_tr HB.out hb); clear hb))
      go_ret
      exact ⟨rfl, HB.out⟩
    · have hl : l.length ≤ 300 := by omega
      have hl2 : l2.length ≤ 300 := by omega
      have HL1 := Lib.hid h
      have HL2 := Lib.hid h2
      have HIN := Lib.hid hin
      have HLL : Hid (l.length ≤ 9223372036854775807) := Lib.hid (by omega)
      have HLM : Hid (l.length ≤ 1048576) := Lib.hid (by omega)
      have HLM2 : Hid (l2.length ≤ 9223372036854775807) := Lib.hid (by omega)
      obtain ⟨lo, mk, c, L, hLn, hp⟩ := put_both lost mark v l (by omega) hin room e hie
      obtain ⟨c2, L2, hLn2, hr⟩ := range_both lost mark v l (by omega) a b
      obtain ⟨x, c3, hla⟩ := last_both lost mark v l (by omega)
      have HP := Lib.hid hp
      have HR := Lib.hid hr
      have HLA := Lib.hid hla
      have HLN := Lib.hid hLn
      have HLN2 := Lib.hid hLn2
      clear h h2 hin hie hp hr hla hLn hLn2 hl hl2
      go_enter Try.func3, Try.ntmps3
      go_upto_region 9 with (first
        | ((with_reducible refine at_slot 6 ?_); refine wl_box (A := #[.int .i64 lost, .int .i64 mark, v]) rfl rfl rfl ?_; intro W1 g6 k6 hb hle; have HB := Lib.hid hb; clear hb hle)
        | ((with_reducible refine at_slot 7 ?_); refine wl_box (A := #[.int .i64 lost2, .int .i64 mark2, v2]) rfl rfl rfl ?_; intro W2 g7 k7 hb hle; replace k6 := k6.keep hb; replace HB := Lib.hid (below_tr HB.out hb); clear hb hle)
        | ((with_reducible refine at_slot 9 ?_); refine wl_box (A := evA e) rfl rfl rfl ?_; intro W3 g9 k9 hb hle; replace k6 := k6.keep hb; replace k7 := k7.keep hb; replace HB := Lib.hid (below_tr HB.out hb); clear hb hle)
        | ((with_reducible refine at_slot 26 ?_); refine wl_ld1 (v := v) rfl rfl rfl k6 Try.underlying22 rfl rfl ?_)
        | ((with_reducible refine at_slot 27 ?_); refine wl_lenL rfl rfl rfl Try.underlying22 HSL1.out ?_)
        | ((with_reducible refine at_slot 31 ?_); refine wl_ld1 (v := v2) rfl rfl rfl k7 Try.underlying22 rfl rfl ?_)
        | ((with_reducible refine at_slot 32 ?_); refine wl_lenL rfl rfl rfl Try.underlying22 HSL2.out ?_)
        | ((with_reducible refine at_slot 37 ?_); refine wl_ld0 rfl rfl rfl k6 Try.underlying24 rfl rw_size ?_)
        | ((with_reducible refine at_slot 39 ?_); refine wl_ld0 rfl rfl rfl k9 Try.underlying27 rfl evInfo ?_)
        | ((with_reducible refine at_slot 40 ?_); refine wl_callx rfl rfl Try.func8 (by kernel_rfl) rfl (HP.out.1 _ (HL1.out.keep HB.out)) rfl ?_; intro p1 V40 hR; obtain ⟨hl9, hb⟩ := hR; replace k6 := k6.keep hb; replace k7 := k7.keep hb; replace k9 := k9.keep hb; replace HB := Lib.hid (below_tr HB.out hb); clear hb; have Hp1 := Lib.hid hl9; have HOp1 := Lib.hid (sl_one (v := p1) (by obtain ⟨a, b, e⟩ := hl9.sl; exact ⟨_, _, _, e⟩)); clear hl9)
        | ((with_reducible refine at_slot 13 ?_); refine wl_alloc (A := #[.int .i64 0, .int .i64 0, .slice none 0 0]) rfl rfl rw_zero rfl ?_; intro Wa13 g13 kz13 hbz hlez)
        | ((with_reducible refine at_store 13 ?_); refine wl_st0 (A' := #[.int .i64 lo, .int .i64 mk, p1]) rfl rfl rfl rfl kz13 rfl rw_size (rw_one _ _ _ HOp1.out.1) ?_; intro Wb13 k13 hu; have hb := upd_below hbz hu hlez; replace k6 := k6.keep hb; replace k7 := k7.keep hb; replace k9 := k9.keep hb; replace Hp1 := Lib.hid (Hp1.out.keep hb); replace HB := Lib.hid (below_tr HB.out hb); clear hb; clear kz13 hbz hlez hu)
        | ((with_reducible refine at_slot 44 ?_); refine wl_ld0 rfl rfl rfl k6 Try.underlying24 rfl rw_size ?_)
        | ((with_reducible refine at_slot 46 ?_); refine wl_ld0 rfl rfl rfl k9 Try.underlying27 rfl evInfo ?_)
        | ((with_reducible refine at_slot 47 ?_); refine wl_callx rfl rfl Try.func9 (by kernel_rfl) rfl (HP.out.2 _ (HL1.out.keep HB.out)) rfl ?_; intro p2 V47 hR; obtain ⟨hl9, hb⟩ := hR; replace k6 := k6.keep hb; replace k7 := k7.keep hb; replace k9 := k9.keep hb; replace k13 := k13.keep hb; replace Hp1 := Lib.hid (Hp1.out.keep hb); replace HB := Lib.hid (below_tr HB.out hb); clear hb; have Hp2 := Lib.hid hl9; have HOp2 := Lib.hid (sl_one (v := p2) (by obtain ⟨a, b, e⟩ := hl9.sl; exact ⟨_, _, _, e⟩)); clear hl9)
        | ((with_reducible refine at_slot 15 ?_); refine wl_alloc (A := #[.int .i64 0, .int .i64 0, .slice none 0 0]) rfl rfl rw_zero rfl ?_; intro Wa15 g15 kz15 hbz hlez)
        | ((with_reducible refine at_store 15 ?_); refine wl_st0 (A' := #[.int .i64 lo, .int .i64 mk, p2]) rfl rfl rfl rfl kz15 rfl rw_size (rw_one _ _ _ HOp2.out.1) ?_; intro Wb15 k15 hu; have hb := upd_below hbz hu hlez; replace k6 := k6.keep hb; replace k7 := k7.keep hb; replace k9 := k9.keep hb; replace k13 := k13.keep hb; replace Hp1 := Lib.hid (Hp1.out.keep hb); replace Hp2 := Lib.hid (Hp2.out.keep hb); replace HB := Lib.hid (below_tr HB.out hb); clear hb; clear kz15 hbz hlez hu)
        | ((with_reducible refine at_slot 51 ?_); refine wl_ld0 rfl rfl rfl k6 Try.underlying24 rfl rw_size ?_)
        | ((with_reducible refine at_slot 54 ?_); refine wl_callx rfl rfl Try.func10 (by kernel_rfl) rfl (HR.out.1 _ (HL1.out.keep HB.out)) rfl ?_; intro q1 V54 hR; obtain ⟨hl9, hb⟩ := hR; replace k6 := k6.keep hb; replace k7 := k7.keep hb; replace k9 := k9.keep hb; replace k13 := k13.keep hb; replace k15 := k15.keep hb; replace Hp1 := Lib.hid (Hp1.out.keep hb); replace Hp2 := Lib.hid (Hp2.out.keep hb); replace HB := Lib.hid (below_tr HB.out hb); clear hb; have Hq1 := Lib.hid hl9; have HOq1 := Lib.hid (sl_one (v := q1) (by obtain ⟨a, b, e⟩ := hl9.sl; exact ⟨_, _, _, e⟩)); clear hl9)
        | ((with_reducible refine at_slot 58 ?_); refine wl_ld0 rfl rfl rfl k6 Try.underlying24 rfl rw_size ?_)
        | ((with_reducible refine at_slot 61 ?_); refine wl_callx rfl rfl Try.func11 (by kernel_rfl) rfl (HR.out.2 _ (HL1.out.keep HB.out)) rfl ?_; intro q2 V61 hR; obtain ⟨hl9, hb⟩ := hR; replace k6 := k6.keep hb; replace k7 := k7.keep hb; replace k9 := k9.keep hb; replace k13 := k13.keep hb; replace k15 := k15.keep hb; replace Hp1 := Lib.hid (Hp1.out.keep hb); replace Hp2 := Lib.hid (Hp2.out.keep hb); replace Hq1 := Lib.hid (Hq1.out.keep hb); replace HB := Lib.hid (below_tr HB.out hb); clear hb; have Hq2 := Lib.hid hl9; have HOq2 := Lib.hid (sl_one (v := q2) (by obtain ⟨a, b, e⟩ := hl9.sl; exact ⟨_, _, _, e⟩)); clear hl9)
        | ((with_reducible refine at_slot 65 ?_); refine wl_ld0 rfl rfl rfl k6 Try.underlying24 rfl rw_size ?_)
        | ((with_reducible refine at_slot 66 ?_); refine wl_call rfl rfl Try.func12 (by kernel_rfl) rfl (HLA.out.1 _ (HL1.out.keep HB.out)) rfl ?_; intro V66 hb; replace k6 := k6.keep hb; replace k7 := k7.keep hb; replace k9 := k9.keep hb; replace k13 := k13.keep hb; replace k15 := k15.keep hb; replace Hp1 := Lib.hid (Hp1.out.keep hb); replace Hp2 := Lib.hid (Hp2.out.keep hb); replace Hq1 := Lib.hid (Hq1.out.keep hb); replace Hq2 := Lib.hid (Hq2.out.keep hb); replace HB := Lib.hid (below_tr HB.out hb); clear hb)
        | ((with_reducible refine at_slot 21 ?_); refine wl_alloc (A := evA zeroEv) rfl rfl ev_zero rfl ?_; intro Wa21 g21 kz21 hbz hlez)
        | ((with_reducible refine at_store 21 ?_); refine wl_st0 (A' := evA x) rfl rfl rfl rfl kz21 rfl evInfo (evA_one _) ?_; intro Wb21 k21 hu; have hb := upd_below hbz hu hlez; replace k6 := k6.keep hb; replace k7 := k7.keep hb; replace k9 := k9.keep hb; replace k13 := k13.keep hb; replace k15 := k15.keep hb; replace Hp1 := Lib.hid (Hp1.out.keep hb); replace Hp2 := Lib.hid (Hp2.out.keep hb); replace Hq1 := Lib.hid (Hq1.out.keep hb); replace Hq2 := Lib.hid (Hq2.out.keep hb); replace HB := Lib.hid (below_tr HB.out hb); clear hb; clear kz21 hbz hlez hu)
        | ((with_reducible refine at_slot 70 ?_); refine wl_ld0 rfl rfl rfl k6 Try.underlying24 rfl rw_size ?_)
        | ((with_reducible refine at_slot 71 ?_); refine wl_call rfl rfl Try.func13 (by kernel_rfl) rfl (HLA.out.2 _ (HL1.out.keep HB.out)) rfl ?_; intro V71 hb; replace k6 := k6.keep hb; replace k7 := k7.keep hb; replace k9 := k9.keep hb; replace k13 := k13.keep hb; replace k15 := k15.keep hb; replace k21 := k21.keep hb; replace Hp1 := Lib.hid (Hp1.out.keep hb); replace Hp2 := Lib.hid (Hp2.out.keep hb); replace Hq1 := Lib.hid (Hq1.out.keep hb); replace Hq2 := Lib.hid (Hq2.out.keep hb); replace HB := Lib.hid (below_tr HB.out hb); clear hb)
        | ((with_reducible refine at_slot 23 ?_); refine wl_alloc (A := evA zeroEv) rfl rfl ev_zero rfl ?_; intro Wa23 g23 kz23 hbz hlez)
        | ((with_reducible refine at_store 23 ?_); refine wl_st0 (A' := evA x) rfl rfl rfl rfl kz23 rfl evInfo (evA_one _) ?_; intro Wb23 k23 hu; have hb := upd_below hbz hu hlez; replace k6 := k6.keep hb; replace k7 := k7.keep hb; replace k9 := k9.keep hb; replace k13 := k13.keep hb; replace k15 := k15.keep hb; replace k21 := k21.keep hb; replace Hp1 := Lib.hid (Hp1.out.keep hb); replace Hp2 := Lib.hid (Hp2.out.keep hb); replace Hq1 := Lib.hid (Hq1.out.keep hb); replace Hq2 := Lib.hid (Hq2.out.keep hb); replace HB := Lib.hid (below_tr HB.out hb); clear hb; clear kz23 hbz hlez hu))
      refine wp_region_held_drew (S := fun w' => Below Wb23.heap.size Wb23 w') (by kernel_rfl) (Below.refl _ _).drew (fun hS => ?_)
      refine anyH_call (i := 0) (op := ⟨some 74, _, _, _, _, _⟩) (by kernel_rfl) rfl rfl (by kernel_rfl) Try.func7 (by kernel_rfl) rfl (lives12 _) rfl (fun w' hb => below_tr hS hb) (fun w' hb hS2 => ?_)
      simp only [Act.put, List.setIfInBounds_toArray, List.set_cons_zero, List.set_cons_succ]
      clear hb
      replace hS := hS2
      clear hS2
      refine wpAnyH_take (i := 1) (oi := ⟨some 75, _, _, _, _, _⟩) (v := .bool true) rfl (by kernel_rfl) (by kernel_rfl) (by kernel_rfl) (fun _ _ _ h => h) (yi_mv (Or.inl rfl) rfl rfl) hS ?_
      simp only [Act.put, List.setIfInBounds_toArray, List.set_cons_zero, List.set_cons_succ]
      refine wpAnyH_take (i := 2) (oi := ⟨some 76, _, _, _, _, _⟩) (v := .agg #[.int .i64 lost, .int .i64 mark, v]) rfl (by kernel_rfl) (by kernel_rfl) (by kernel_rfl) (fun _ _ _ h => h) (yi_ld0 rfl (by kernel_rfl) rfl (fun w' h => k6.keep h) Try.underlying24 rfl rw_size) hS ?_
      simp only [Act.put, List.setIfInBounds_toArray, List.set_cons_zero, List.set_cons_succ]
      refine wpAnyH_take (i := 3) (oi := ⟨some 77, _, _, _, _, _⟩) (v := .int .i64 room) rfl (by kernel_rfl) (by kernel_rfl) (by kernel_rfl) (fun _ _ _ h => h) (yi_mv (Or.inl rfl) (by kernel_rfl) rfl) hS ?_
      simp only [Act.put, List.setIfInBounds_toArray, List.set_cons_zero, List.set_cons_succ]
      refine wpAnyH_take (i := 5) (oi := ⟨some 79, _, _, _, _, _⟩) (v := .agg #[.int .i64 lost, .int .i64 mark, v]) rfl (by kernel_rfl) (by kernel_rfl) (by kernel_rfl) (fun _ _ _ h => h) (yi_ld0 rfl (by kernel_rfl) rfl (fun w' h => k6.keep h) Try.underlying24 rfl rw_size) hS ?_
      simp only [Act.put, List.setIfInBounds_toArray, List.set_cons_zero, List.set_cons_succ]
      refine wpAnyH_take (i := 6) (oi := ⟨some 80, _, _, _, _, _⟩) (v := .int .i64 room) rfl (by kernel_rfl) (by kernel_rfl) (by kernel_rfl) (fun _ _ _ h => h) (yi_mv (Or.inl rfl) (by kernel_rfl) rfl) hS ?_
      simp only [Act.put, List.setIfInBounds_toArray, List.set_cons_zero, List.set_cons_succ]
      refine anyH_call (i := 4) (op := ⟨some 78, _, _, _, _, _⟩) (by kernel_rfl) rfl rfl (by kernel_rfl) Try.func14 (by kernel_rfl) rfl (ck_any lost mark v l HLL.out HIN.out room _ (HL1.out.keep (below_tr HB.out hS))) rfl (fun w' hb => below_tr hS hb) (fun w' hb hS2 => ?_)
      simp only [Act.put, List.setIfInBounds_toArray, List.set_cons_zero, List.set_cons_succ]
      clear hb
      replace hS := hS2
      clear hS2
      refine anyH_call (i := 7) (op := ⟨some 81, _, _, _, _, _⟩) (by kernel_rfl) rfl rfl (by kernel_rfl) Try.func15 (by kernel_rfl) rfl (rck_any lost mark v l HLL.out HIN.out room _ (HL1.out.keep (below_tr HB.out hS))) rfl (fun w' hb => below_tr hS hb) (fun w' hb hS2 => ?_)
      simp only [Act.put, List.setIfInBounds_toArray, List.set_cons_zero, List.set_cons_succ]
      clear hb
      replace hS := hS2
      clear hS2
      refine wpAnyH_take (i := 8) (oi := ⟨some 82, _, _, _, _, _⟩) (v := .bool true) rfl (by kernel_rfl) (by kernel_rfl) (by kernel_rfl) (fun _ _ _ h => h) (yi_bi rfl (by kernel_rfl) rfl rfl (fun _ => rfl) (fun _ => eql_is (by simp))) hS ?_
      simp only [Act.put, List.setIfInBounds_toArray, List.set_cons_zero, List.set_cons_succ]
      refine wpAnyH_take (i := 9) (oi := ⟨some 83, _, _, _, _, _⟩) (v := .bool true) rfl (by kernel_rfl) (by kernel_rfl) (by kernel_rfl) (fun _ _ _ h => h) (yi_pick1 rfl rfl rfl rfl) hS ?_
      simp only [Act.put, List.setIfInBounds_toArray, List.set_cons_zero, List.set_cons_succ]
      refine wpAnyH_take (i := 10) (oi := ⟨some 84, _, _, _, _, _⟩) (v := .bool true) rfl (by kernel_rfl) (by kernel_rfl) (by kernel_rfl) (fun _ _ _ h => h) (yi_mv (Or.inl rfl) (by kernel_rfl) rfl) hS ?_
      simp only [Act.put, List.setIfInBounds_toArray, List.set_cons_zero, List.set_cons_succ]
      refine wpAnyH_take (i := 11) (oi := ⟨some 85, _, _, _, _, _⟩) (v := .agg #[.int .i64 lo, .int .i64 mk, p1]) rfl (by kernel_rfl) (by kernel_rfl) (by kernel_rfl) (fun _ _ _ h => h) (yi_ld0 rfl (by kernel_rfl) rfl (fun w' h => k13.keep h) Try.underlying24 rfl rw_size) hS ?_
      simp only [Act.put, List.setIfInBounds_toArray, List.set_cons_zero, List.set_cons_succ]
      refine wpAnyH_take (i := 12) (oi := ⟨some 86, _, _, _, _, _⟩) (v := .agg #[.int .i64 lo, .int .i64 mk, p2]) rfl (by kernel_rfl) (by kernel_rfl) (by kernel_rfl) (fun _ _ _ h => h) (yi_ld0 rfl (by kernel_rfl) rfl (fun w' h => k15.keep h) Try.underlying24 rfl rw_size) hS ?_
      simp only [Act.put, List.setIfInBounds_toArray, List.set_cons_zero, List.set_cons_succ]
      refine anyH_call (i := 13) (op := ⟨some 87, _, _, _, _, _⟩) (by kernel_rfl) rfl rfl (by kernel_rfl) Try.func16 (by kernel_rfl) rfl (ss_yes lo mk p1 p2 L (by have := HLN.out; omega) _ (Hp1.out.keep hS) (Hp2.out.keep hS)) rfl (fun w' hb => below_tr hS hb) (fun w' hb hS2 => ?_)
      simp only [Act.put, List.setIfInBounds_toArray, List.set_cons_zero, List.set_cons_succ]
      clear hb
      replace hS := hS2
      clear hS2
      refine wpAnyH_take (i := 14) (oi := ⟨some 88, _, _, _, _, _⟩) (v := .bool true) rfl (by kernel_rfl) (by kernel_rfl) (by kernel_rfl) (fun _ _ _ h => h) (yi_pick1 rfl rfl rfl rfl) hS ?_
      simp only [Act.put, List.setIfInBounds_toArray, List.set_cons_zero, List.set_cons_succ]
      refine wpAnyH_take (i := 15) (oi := ⟨some 89, _, _, _, _, _⟩) (v := .bool true) rfl (by kernel_rfl) (by kernel_rfl) (by kernel_rfl) (fun _ _ _ h => h) (yi_mv (Or.inl rfl) (by kernel_rfl) rfl) hS ?_
      simp only [Act.put, List.setIfInBounds_toArray, List.set_cons_zero, List.set_cons_succ]
      refine wpAnyH_take (i := 16) (oi := ⟨some 90, _, _, _, _, _⟩) (v := .int .i64 c) rfl (by kernel_rfl) (by kernel_rfl) (by kernel_rfl) (fun _ _ _ h => h) (yi_mv (Or.inl rfl) (by kernel_rfl) rfl) hS ?_
      simp only [Act.put, List.setIfInBounds_toArray, List.set_cons_zero, List.set_cons_succ]
      refine wpAnyH_take (i := 17) (oi := ⟨some 91, _, _, _, _, _⟩) (v := .int .i64 c) rfl (by kernel_rfl) (by kernel_rfl) (by kernel_rfl) (fun _ _ _ h => h) (yi_mv (Or.inl rfl) (by kernel_rfl) rfl) hS ?_
      simp only [Act.put, List.setIfInBounds_toArray, List.set_cons_zero, List.set_cons_succ]
      refine wpAnyH_take (i := 18) (oi := ⟨some 92, _, _, _, _, _⟩) (v := .bool true) rfl (by kernel_rfl) (by kernel_rfl) (by kernel_rfl) (fun _ _ _ h => h) (yi_bi rfl (by kernel_rfl) rfl rfl (fun _ => rfl) (fun _ => eql_is (by simp))) hS ?_
      simp only [Act.put, List.setIfInBounds_toArray, List.set_cons_zero, List.set_cons_succ]
      refine wpAnyH_take (i := 19) (oi := ⟨some 93, _, _, _, _, _⟩) (v := .bool true) rfl (by kernel_rfl) (by kernel_rfl) (by kernel_rfl) (fun _ _ _ h => h) (yi_pick1 rfl rfl rfl rfl) hS ?_
      simp only [Act.put, List.setIfInBounds_toArray, List.set_cons_zero, List.set_cons_succ]
      refine wpAnyH_take (i := 20) (oi := ⟨some 94, _, _, _, _, _⟩) (v := .bool true) rfl (by kernel_rfl) (by kernel_rfl) (by kernel_rfl) (fun _ _ _ h => h) (yi_mv (Or.inl rfl) (by kernel_rfl) rfl) hS ?_
      simp only [Act.put, List.setIfInBounds_toArray, List.set_cons_zero, List.set_cons_succ]
      refine wpAnyH_take (i := 21) (oi := ⟨some 95, _, _, _, _, _⟩) (v := q1) rfl (by kernel_rfl) (by kernel_rfl) (by kernel_rfl) (fun _ _ _ h => h) (yi_mv (Or.inl rfl) (by kernel_rfl) rfl) hS ?_
      simp only [Act.put, List.setIfInBounds_toArray, List.set_cons_zero, List.set_cons_succ]
      refine wpAnyH_take (i := 22) (oi := ⟨some 96, _, _, _, _, _⟩) (v := q2) rfl (by kernel_rfl) (by kernel_rfl) (by kernel_rfl) (fun _ _ _ h => h) (yi_mv (Or.inl rfl) (by kernel_rfl) rfl) hS ?_
      simp only [Act.put, List.setIfInBounds_toArray, List.set_cons_zero, List.set_cons_succ]
      refine anyH_call (i := 23) (op := ⟨some 97, _, _, _, _, _⟩) (by kernel_rfl) rfl rfl (by kernel_rfl) Try.func17 (by kernel_rfl) rfl (sl_yes q1 q2 L2 (by have := HLN2.out; omega) _ (Hq1.out.keep hS) (Hq2.out.keep hS)) rfl (fun w' hb => below_tr hS hb) (fun w' hb hS2 => ?_)
      simp only [Act.put, List.setIfInBounds_toArray, List.set_cons_zero, List.set_cons_succ]
      clear hb
      replace hS := hS2
      clear hS2
      refine wpAnyH_take (i := 24) (oi := ⟨some 98, _, _, _, _, _⟩) (v := .bool true) rfl (by kernel_rfl) (by kernel_rfl) (by kernel_rfl) (fun _ _ _ h => h) (yi_pick1 rfl rfl rfl rfl) hS ?_
      simp only [Act.put, List.setIfInBounds_toArray, List.set_cons_zero, List.set_cons_succ]
      refine wpAnyH_take (i := 25) (oi := ⟨some 99, _, _, _, _, _⟩) (v := .bool true) rfl (by kernel_rfl) (by kernel_rfl) (by kernel_rfl) (fun _ _ _ h => h) (yi_mv (Or.inl rfl) (by kernel_rfl) rfl) hS ?_
      simp only [Act.put, List.setIfInBounds_toArray, List.set_cons_zero, List.set_cons_succ]
      refine wpAnyH_take (i := 26) (oi := ⟨some 100, _, _, _, _, _⟩) (v := .int .i64 c2) rfl (by kernel_rfl) (by kernel_rfl) (by kernel_rfl) (fun _ _ _ h => h) (yi_mv (Or.inl rfl) (by kernel_rfl) rfl) hS ?_
      simp only [Act.put, List.setIfInBounds_toArray, List.set_cons_zero, List.set_cons_succ]
      refine wpAnyH_take (i := 27) (oi := ⟨some 101, _, _, _, _, _⟩) (v := .int .i64 c2) rfl (by kernel_rfl) (by kernel_rfl) (by kernel_rfl) (fun _ _ _ h => h) (yi_mv (Or.inl rfl) (by kernel_rfl) rfl) hS ?_
      simp only [Act.put, List.setIfInBounds_toArray, List.set_cons_zero, List.set_cons_succ]
      refine wpAnyH_take (i := 28) (oi := ⟨some 102, _, _, _, _, _⟩) (v := .bool true) rfl (by kernel_rfl) (by kernel_rfl) (by kernel_rfl) (fun _ _ _ h => h) (yi_bi rfl (by kernel_rfl) rfl rfl (fun _ => rfl) (fun _ => eql_is (by simp))) hS ?_
      simp only [Act.put, List.setIfInBounds_toArray, List.set_cons_zero, List.set_cons_succ]
      refine wpAnyH_take (i := 29) (oi := ⟨some 103, _, _, _, _, _⟩) (v := .bool true) rfl (by kernel_rfl) (by kernel_rfl) (by kernel_rfl) (fun _ _ _ h => h) (yi_pick1 rfl rfl rfl rfl) hS ?_
      simp only [Act.put, List.setIfInBounds_toArray, List.set_cons_zero, List.set_cons_succ]
      refine wpAnyH_take (i := 30) (oi := ⟨some 104, _, _, _, _, _⟩) (v := .bool true) rfl (by kernel_rfl) (by kernel_rfl) (by kernel_rfl) (fun _ _ _ h => h) (yi_mv (Or.inl rfl) (by kernel_rfl) rfl) hS ?_
      simp only [Act.put, List.setIfInBounds_toArray, List.set_cons_zero, List.set_cons_succ]
      refine wpAnyH_take (i := 31) (oi := ⟨some 105, _, _, _, _, _⟩) (v := .agg (evA x)) rfl (by kernel_rfl) (by kernel_rfl) (by kernel_rfl) (fun _ _ _ h => h) (yi_ld0 rfl (by kernel_rfl) rfl (fun w' h => k21.keep h) Try.underlying27 rfl evInfo) hS ?_
      simp only [Act.put, List.setIfInBounds_toArray, List.set_cons_zero, List.set_cons_succ]
      refine wpAnyH_take (i := 32) (oi := ⟨some 106, _, _, _, _, _⟩) (v := .agg (evA x)) rfl (by kernel_rfl) (by kernel_rfl) (by kernel_rfl) (fun _ _ _ h => h) (yi_ld0 rfl (by kernel_rfl) rfl (fun w' h => k23.keep h) Try.underlying27 rfl evInfo) hS ?_
      simp only [Act.put, List.setIfInBounds_toArray, List.set_cons_zero, List.set_cons_succ]
      refine wpAnyH_take (i := 33) (oi := ⟨some 107, _, _, _, _, _⟩) (v := .bool true) rfl (by kernel_rfl) (by kernel_rfl) (by kernel_rfl) (fun _ _ _ h => h) (yi_bi rfl (by kernel_rfl) rfl rfl (fun _ => run_eqGuard_agg _ _ _ _ _ _ _ (by kernel_rfl)) (fun _ => ev_eql_yes rfl _)) hS ?_
      simp only [Act.put, List.setIfInBounds_toArray, List.set_cons_zero, List.set_cons_succ]
      refine wpAnyH_take (i := 34) (oi := ⟨some 108, _, _, _, _, _⟩) (v := .bool true) rfl (by kernel_rfl) (by kernel_rfl) (by kernel_rfl) (fun _ _ _ h => h) (yi_pick1 rfl rfl rfl rfl) hS ?_
      simp only [Act.put, List.setIfInBounds_toArray, List.set_cons_zero, List.set_cons_succ]
      refine wpAnyH_take (i := 35) (oi := ⟨some 109, _, _, _, _, _⟩) (v := .bool true) rfl (by kernel_rfl) (by kernel_rfl) (by kernel_rfl) (fun _ _ _ h => h) (yi_mv (Or.inl rfl) (by kernel_rfl) rfl) hS ?_
      simp only [Act.put, List.setIfInBounds_toArray, List.set_cons_zero, List.set_cons_succ]
      refine wpAnyH_take (i := 36) (oi := ⟨some 110, _, _, _, _, _⟩) (v := .int .i64 c3) rfl (by kernel_rfl) (by kernel_rfl) (by kernel_rfl) (fun _ _ _ h => h) (yi_mv (Or.inl rfl) (by kernel_rfl) rfl) hS ?_
      simp only [Act.put, List.setIfInBounds_toArray, List.set_cons_zero, List.set_cons_succ]
      refine wpAnyH_take (i := 37) (oi := ⟨some 111, _, _, _, _, _⟩) (v := .int .i64 c3) rfl (by kernel_rfl) (by kernel_rfl) (by kernel_rfl) (fun _ _ _ h => h) (yi_mv (Or.inl rfl) (by kernel_rfl) rfl) hS ?_
      simp only [Act.put, List.setIfInBounds_toArray, List.set_cons_zero, List.set_cons_succ]
      refine wpAnyH_take (i := 38) (oi := ⟨some 112, _, _, _, _, _⟩) (v := .bool true) rfl (by kernel_rfl) (by kernel_rfl) (by kernel_rfl) (fun _ _ _ h => h) (yi_bi rfl (by kernel_rfl) rfl rfl (fun _ => rfl) (fun _ => eql_is (by simp))) hS ?_
      simp only [Act.put, List.setIfInBounds_toArray, List.set_cons_zero, List.set_cons_succ]
      refine wpAnyH_take (i := 39) (oi := ⟨some 113, _, _, _, _, _⟩) (v := .bool true) rfl (by kernel_rfl) (by kernel_rfl) (by kernel_rfl) (fun _ _ _ h => h) (yi_pick1 rfl rfl rfl rfl) hS ?_
      simp only [Act.put, List.setIfInBounds_toArray, List.set_cons_zero, List.set_cons_succ]
      refine wpAnyH_take (i := 40) (oi := ⟨some 114, _, _, _, _, _⟩) (v := .bool true) rfl (by kernel_rfl) (by kernel_rfl) (by kernel_rfl) (fun _ _ _ h => h) (yi_mv (Or.inl rfl) (by kernel_rfl) rfl) hS ?_
      simp only [Act.put, List.setIfInBounds_toArray, List.set_cons_zero, List.set_cons_succ]
      refine wpAnyH_take (i := 41) (oi := ⟨some 115, _, _, _, _, _⟩) (v := .agg #[.int .i64 lost, .int .i64 mark, v]) rfl (by kernel_rfl) (by kernel_rfl) (by kernel_rfl) (fun _ _ _ h => h) (yi_ld0 rfl (by kernel_rfl) rfl (fun w' h => k6.keep h) Try.underlying24 rfl rw_size) hS ?_
      simp only [Act.put, List.setIfInBounds_toArray, List.set_cons_zero, List.set_cons_succ]
      refine wpAnyH_take (i := 42) (oi := ⟨some 116, _, _, _, _, _⟩) (v := .agg #[.int .i64 lost2, .int .i64 mark2, v2]) rfl (by kernel_rfl) (by kernel_rfl) (by kernel_rfl) (fun _ _ _ h => h) (yi_ld0 rfl (by kernel_rfl) rfl (fun w' h => k7.keep h) Try.underlying24 rfl rw_size) hS ?_
      simp only [Act.put, List.setIfInBounds_toArray, List.set_cons_zero, List.set_cons_succ]
      refine wpAnyH_take (i := 44) (oi := ⟨some 118, _, _, _, _, _⟩) (v := .agg #[.int .i64 lost, .int .i64 mark, v]) rfl (by kernel_rfl) (by kernel_rfl) (by kernel_rfl) (fun _ _ _ h => h) (yi_ld0 rfl (by kernel_rfl) rfl (fun w' h => k6.keep h) Try.underlying24 rfl rw_size) hS ?_
      simp only [Act.put, List.setIfInBounds_toArray, List.set_cons_zero, List.set_cons_succ]
      refine wpAnyH_take (i := 45) (oi := ⟨some 119, _, _, _, _, _⟩) (v := .agg #[.int .i64 lost2, .int .i64 mark2, v2]) rfl (by kernel_rfl) (by kernel_rfl) (by kernel_rfl) (fun _ _ _ h => h) (yi_ld0 rfl (by kernel_rfl) rfl (fun w' h => k7.keep h) Try.underlying24 rfl rw_size) hS ?_
      simp only [Act.put, List.setIfInBounds_toArray, List.set_cons_zero, List.set_cons_succ]
      refine anyH_call (i := 43) (op := ⟨some 117, _, _, _, _, _⟩) (by kernel_rfl) rfl rfl (by kernel_rfl) Try.func18 (by kernel_rfl) rfl (rs_any lost mark lost2 mark2 v v2 l l2 HLM.out HLM2.out _ (HL1.out.keep (below_tr HB.out hS)) (HL2.out.keep (below_tr HB.out hS))) rfl (fun w' hb => below_tr hS hb) (fun w' hb hS2 => ?_)
      simp only [Act.put, List.setIfInBounds_toArray, List.set_cons_zero, List.set_cons_succ]
      clear hb
      replace hS := hS2
      clear hS2
      refine anyH_call (i := 46) (op := ⟨some 120, _, _, _, _, _⟩) (by kernel_rfl) rfl rfl (by kernel_rfl) Try.func16 (by kernel_rfl) rfl (ss_any lost mark lost2 mark2 v v2 l l2 HLM.out HLM2.out _ (HL1.out.keep (below_tr HB.out hS)) (HL2.out.keep (below_tr HB.out hS))) rfl (fun w' hb => below_tr hS hb) (fun w' hb hS2 => ?_)
      simp only [Act.put, List.setIfInBounds_toArray, List.set_cons_zero, List.set_cons_succ]
      clear hb
      replace hS := hS2
      clear hS2
      refine wpAnyH_take (i := 47) (oi := ⟨some 121, _, _, _, _, _⟩) (v := .bool true) rfl (by kernel_rfl) (by kernel_rfl) (by kernel_rfl) (fun _ _ _ h => h) (yi_bi rfl (by kernel_rfl) rfl rfl (fun _ => rfl) (fun _ => beq_bool _ _)) hS ?_
      simp only [Act.put, List.setIfInBounds_toArray, List.set_cons_zero, List.set_cons_succ]
      refine wpAnyH_take (i := 48) (oi := ⟨some 122, _, _, _, _, _⟩) (v := .bool true) rfl (by kernel_rfl) (by kernel_rfl) (by kernel_rfl) (fun _ _ _ h => h) (yi_pick1 rfl rfl rfl rfl) hS ?_
      simp only [Act.put, List.setIfInBounds_toArray, List.set_cons_zero, List.set_cons_succ]
      refine wpAnyH_take (i := 49) (oi := ⟨some 12, _, _, _, _, _⟩) (v := .bool true) rfl (by kernel_rfl) (by kernel_rfl) (by kernel_rfl) (fun _ _ _ h => h) (yi_mv (Or.inr rfl) rfl rfl) hS ?_
      simp only [Act.put, List.setIfInBounds_toArray, List.set_cons_zero, List.set_cons_succ]
      refine wpAnyH_done (by kernel_rfl) ?_ _
      have HBF := Lib.hid (below_tr HB.out hS)
      go_wp2_with fail
      go_ret
      exact ⟨rfl, HBF.out⟩
end Go.Proofs.Ytohkioakipjanaa
