/-
  WALKS: the document's Put of raw events.
-/
import Derived.Test.YtohkioakipjanaaRwq
import Derived.Test.YtohkioakipjanaaRt12
import Derived.Test.YtohkioakipjanaaRck12
namespace Go.Proofs.Ytohkioakipjanaa
open Go Go.RowKit

set_option maxHeartbeats 4000000 in
set_option maxRecDepth 100000 in
theorem rput_form (lost mark : Int) (v : Value) (l : List Ev) (hl : l.length ≤ 1000000) (hin : AllIn l) (room : Int) (e : Ev) (_ : EvIn e) (w : World) (h : Lst 4 cE w v l) (hno : ¬ RawOk lost mark l room) :
    Calls Try.prog 9 #[.agg #[.int .i64 lost, .int .i64 mark, v], .int .i64 room, .agg (evA e)] w fun r w' => r = .returned (.tuple #[.agg #[.int .i64 0, .int .i64 0, .slice none 0 0], .int .i64 2]) ∧ Below w.heap.size w w' := by
  have HL := Lib.hid h
  have HCK := Lib.hid (fun W (hb : Below w.heap.size w W) => rck_any lost mark v l (by omega) hin room W (h.keep hb))
  rw [ckE_no hno] at HCK
  clear h hin hno
  go_enter Try.func9, Try.ntmps9
  go_wp2_with (first
    | ((with_reducible refine at_slot 3 ?_); refine wl_box (A := #[.int .i64 lost, .int .i64 mark, v]) rfl rfl rfl ?_; intro W1 g3 k3 hb hle3; have HLE3 := Lib.hid hle3; have HB := Lib.hid hb; clear hb hle3)
    | ((with_reducible refine at_slot 5 ?_); refine wl_box (A := evA e) rfl rfl rfl ?_; intro W2 g5 k5 hb hle5; have HN35 := Lib.hid (k3.ne_of_le hle5); replace k3 := k3.keep hb; replace HB := Lib.hid (below_tr HB.out hb); clear hb hle5)
    | ((with_reducible refine at_slot 6 ?_); refine wl_alloc (A := #[.int .i64 0, .int .i64 0, .slice none 0 0]) rfl rfl rw_zero rfl ?_; intro W3 g6 k6 hb hle6; have HN36 := Lib.hid (And.intro (k3.ne_of_le hle6) (k5.ne_of_le hle6)); have HLE6 := Lib.hid (Nat.le_trans HB.out.size hle6); replace k3 := k3.keep hb; replace k5 := k5.keep hb; replace HB := Lib.hid (below_tr HB.out hb); clear hb hle6)
    | ((with_reducible refine at_slot 10 ?_); refine wl_ld0 rfl rfl rfl k3 Try.underlying24 rfl rw_size ?_)
    | ((with_reducible refine at_slot 12 ?_); refine wl_call rfl rfl Try.func15 (by kernel_rfl) rfl (HCK.out _ (HB.out)) rfl ?_; intro V12 hb; replace k3 := k3.keep hb; replace k5 := k5.keep hb; replace k6 := k6.keep hb; replace HB := Lib.hid (below_tr HB.out hb); clear hb)
    | ((with_reducible refine at_slot 19 ?_); refine wl_build rfl rfl (rw_bld0 _) rfl ?_)
    | ((with_reducible refine at_store 6 ?_); refine wl_st0 (A' := #[.int .i64 0, .int .i64 0, .slice none 0 0]) rfl rfl rfl rfl k6 rfl rw_size (rw_one _ _ _ rfl) ?_; intro V99 k99 hu; replace HB := Lib.hid (upd_below HB.out hu HLE6.out); clear hu k6))
  refine bodyPost_ret (v := .tuple #[.agg #[.int .i64 0, .int .i64 0, .slice none 0 0], .int .i64 2]) (results_ct Try.results9 _ rfl rfl k99 Try.underlying24 rfl rw_size) rfl ?_
  exact ⟨rfl, HB.out⟩
set_option maxHeartbeats 4000000 in
set_option maxRecDepth 100000 in
theorem rput_ev (lost mark : Int) (v : Value) (l : List Ev) (hl : l.length ≤ 1000000) (hin : AllIn l) (room : Int) (e : Ev) (hie : EvIn e) (w : World) (h : Lst 4 cE w v l) (hok : RawOk lost mark l room) (hno : ¬ EvOk e) :
    Calls Try.prog 9 #[.agg #[.int .i64 lost, .int .i64 mark, v], .int .i64 room, .agg (evA e)] w fun r w' => r = .returned (.tuple #[.agg #[.int .i64 0, .int .i64 0, .slice none 0 0], .int .i64 2]) ∧ Below w.heap.size w w' := by
  have HL := Lib.hid h
  have HCK := Lib.hid (fun W (hb : Below w.heap.size w W) => rck_any lost mark v l (by omega) hin room W (h.keep hb))
  rw [ckE_yes hok] at HCK
  have HNO := Lib.hid hno
  have HIE := Lib.hid hie
  clear h hin hno hok hie
  go_enter Try.func9, Try.ntmps9
  go_wp2_with (first
    | ((with_reducible refine at_slot 3 ?_); refine wl_box (A := #[.int .i64 lost, .int .i64 mark, v]) rfl rfl rfl ?_; intro W1 g3 k3 hb hle3; have HLE3 := Lib.hid hle3; have HB := Lib.hid hb; clear hb hle3)
    | ((with_reducible refine at_slot 5 ?_); refine wl_box (A := evA e) rfl rfl rfl ?_; intro W2 g5 k5 hb hle5; have HN35 := Lib.hid (k3.ne_of_le hle5); replace k3 := k3.keep hb; replace HB := Lib.hid (below_tr HB.out hb); clear hb hle5)
    | ((with_reducible refine at_slot 6 ?_); refine wl_alloc (A := #[.int .i64 0, .int .i64 0, .slice none 0 0]) rfl rfl rw_zero rfl ?_; intro W3 g6 k6 hb hle6; have HN36 := Lib.hid (And.intro (k3.ne_of_le hle6) (k5.ne_of_le hle6)); have HLE6 := Lib.hid (Nat.le_trans HB.out.size hle6); replace k3 := k3.keep hb; replace k5 := k5.keep hb; replace HB := Lib.hid (below_tr HB.out hb); clear hb hle6)
    | ((with_reducible refine at_slot 10 ?_); refine wl_ld0 rfl rfl rfl k3 Try.underlying24 rfl rw_size ?_)
    | ((with_reducible refine at_slot 12 ?_); refine wl_call rfl rfl Try.func15 (by kernel_rfl) rfl (HCK.out _ (HB.out)) rfl ?_; intro V12 hb; replace k3 := k3.keep hb; replace k5 := k5.keep hb; replace k6 := k6.keep hb; replace HB := Lib.hid (below_tr HB.out hb); clear hb)
    | ((with_reducible refine at_slot 15 ?_); refine wl_ld0 rfl rfl rfl k5 Try.underlying27 rfl evInfo ?_)
    | ((with_reducible refine at_slot 16 ?_); refine wl_call rfl rfl Try.func28 (by kernel_rfl) rfl (rev_no HIE.out HNO.out _) rfl ?_; intro V16 hb; replace k3 := k3.keep hb; replace k5 := k5.keep hb; replace k6 := k6.keep hb; replace HB := Lib.hid (below_tr HB.out hb); clear hb)
    | ((with_reducible refine at_slot 19 ?_); refine wl_build rfl rfl (rw_bld0 _) rfl ?_)
    | ((with_reducible refine at_store 6 ?_); refine wl_st0 (A' := #[.int .i64 0, .int .i64 0, .slice none 0 0]) rfl rfl rfl rfl k6 rfl rw_size (rw_one _ _ _ rfl) ?_; intro V99 k99 hu; replace HB := Lib.hid (upd_below HB.out hu HLE6.out); clear hu k6))
  refine bodyPost_ret (v := .tuple #[.agg #[.int .i64 0, .int .i64 0, .slice none 0 0], .int .i64 2]) (results_ct Try.results9 _ rfl rfl k99 Try.underlying24 rfl rw_size) rfl ?_
  exact ⟨rfl, HB.out⟩
set_option maxHeartbeats 4000000 in
set_option maxRecDepth 100000 in
theorem rput_time (lost mark : Int) (v : Value) (l : List Ev) (hl : l.length ≤ 1000000) (hin : AllIn l) (room : Int) (e : Ev) (_ : EvIn e) (w : World) (h : Lst 4 cE w v l) (hok : RawOk lost mark l room) (he : EvOk e) (j : Nat) (x : Ev) (hj : l.length = j + 1) (hx : l[j]? = some x) (hno : ¬ x.t < e.t) :
    Calls Try.prog 9 #[.agg #[.int .i64 lost, .int .i64 mark, v], .int .i64 room, .agg (evA e)] w fun r w' => r = .returned (.tuple #[.agg #[.int .i64 0, .int .i64 0, .slice none 0 0], .int .i64 9]) ∧ Below w.heap.size w w' := by
  obtain ⟨ao, b, off, cap, rfl, h1, h2⟩ := h.ex
  obtain ⟨rfl, hq1⟩ := h1 (by omega)
  have HBQ := Lib.hid hq1
  have HKX := Lib.hid (h2 j x hx)
  have HSL : Hid (∃ ao' cap', Value.slice (some ⟨b, off, none⟩) l.length cap = .slice ao' l.length cap') := Lib.hid ⟨_, _, rfl⟩
  have HL := Lib.hid h
  have HCK := Lib.hid (fun W (hb : Below w.heap.size w W) => rck_any lost mark (.slice (some ⟨b, off, none⟩) l.length cap) l (by omega) hin room W (h.keep hb))
  rw [ckE_yes hok] at HCK
  have HE := Lib.hid he
  have HT := Lib.hid hno
  have hwj : IntKind.i64.wrap ((l.length : Int) - 1) = (j : Nat) := by rw [IntKind.wrap_i64]; omega
  have hjl : j < l.length := by omega
  have HMM : l.length ≤ 9223372036854775807 := by omega
  have hl1 : (0 : Int) < (l.length : Int) := by omega
  clear h h1 h2 hin hno hok he hj hx hq1
  go_enter Try.func9, Try.ntmps9
  go_upto_region 4 with (first
    | ((with_reducible refine at_slot 3 ?_); refine wl_box (A := #[.int .i64 lost, .int .i64 mark, .slice (some ⟨b, off, none⟩) l.length cap]) rfl rfl rfl ?_; intro W1 g3 k3 hb hle3; have HLE3 := Lib.hid hle3; have HB := Lib.hid hb; clear hb hle3)
    | ((with_reducible refine at_slot 5 ?_); refine wl_box (A := evA e) rfl rfl rfl ?_; intro W2 g5 k5 hb hle5; have HN35 := Lib.hid (k3.ne_of_le hle5); replace k3 := k3.keep hb; replace HB := Lib.hid (below_tr HB.out hb); clear hb hle5)
    | ((with_reducible refine at_slot 6 ?_); refine wl_alloc (A := #[.int .i64 0, .int .i64 0, .slice none 0 0]) rfl rfl rw_zero rfl ?_; intro W3 g6 k6 hb hle6; have HN36 := Lib.hid (And.intro (k3.ne_of_le hle6) (k5.ne_of_le hle6)); have HLE6 := Lib.hid (Nat.le_trans HB.out.size hle6); replace k3 := k3.keep hb; replace k5 := k5.keep hb; replace HB := Lib.hid (below_tr HB.out hb); clear hb hle6)
    | ((with_reducible refine at_slot 10 ?_); refine wl_ld0 rfl rfl rfl k3 Try.underlying24 rfl rw_size ?_)
    | ((with_reducible refine at_slot 12 ?_); refine wl_call rfl rfl Try.func15 (by kernel_rfl) rfl (HCK.out _ (HB.out)) rfl ?_; intro V12 hb; replace k3 := k3.keep hb; replace k5 := k5.keep hb; replace k6 := k6.keep hb; replace HB := Lib.hid (below_tr HB.out hb); clear hb)
    | ((with_reducible refine at_slot 15 ?_); refine wl_ld0 rfl rfl rfl k5 Try.underlying27 rfl evInfo ?_)
    | ((with_reducible refine at_slot 16 ?_); refine wl_call rfl rfl Try.func28 (by kernel_rfl) rfl (rev_yes HE.out _) rfl ?_; intro V16 hb; replace k3 := k3.keep hb; replace k5 := k5.keep hb; replace k6 := k6.keep hb; replace HB := Lib.hid (below_tr HB.out hb); clear hb)
    | ((with_reducible refine at_slot 21 ?_); refine wl_ld1 (v := .slice (some ⟨b, off, none⟩) l.length cap) rfl rfl rfl k3 Try.underlying22 rfl rfl ?_)
    | ((with_reducible refine at_slot 22 ?_); refine wl_lenL rfl rfl rfl Try.underlying22 HSL.out ?_))
  have hbV : b < V16.heap.size := Nat.lt_of_lt_of_le HBQ.out HB.out.size
  refine wp_region_held_drew (S := fun w' => Below V16.heap.size V16 w') (by kernel_rfl) (Below.refl _ _).drew (fun hS => ?_)
  refine wpAnyH_take (i := 0) (oi := ⟨some 23, _, _, _, _, _⟩) (v := .int .i64 (l.length : Int)) rfl (by kernel_rfl) (by kernel_rfl) (by kernel_rfl) (fun _ _ _ h => h) (yi_mv (Or.inl rfl) rfl rfl) hS ?_
  simp only [Act.put, List.setIfInBounds_toArray, List.set_cons_zero, List.set_cons_succ]
  refine wpAnyH_take (i := 1) (oi := ⟨some 24, _, _, _, _, _⟩) (v := .bool true) rfl (by kernel_rfl) (by kernel_rfl) (by kernel_rfl) (fun _ _ _ h => h) (yi_bi rfl rfl rfl rfl (fun _ => rfl) (fun _ => gtr_is (decide_eq_true hl1))) hS ?_
  simp only [Act.put, List.setIfInBounds_toArray, List.set_cons_zero, List.set_cons_succ]
  refine wpAnyH_take (i := 2) (oi := ⟨some 25, _, _, _, _, _⟩) (v := .bool true) rfl (by kernel_rfl) (by kernel_rfl) (by kernel_rfl) (fun _ _ _ h => h) (yi_mv (Or.inl rfl) rfl rfl) hS ?_
  simp only [Act.put, List.setIfInBounds_toArray, List.set_cons_zero, List.set_cons_succ]
  refine wpAnyH_take (i := 3) (oi := ⟨some 26, _, _, _, _, _⟩) (v := .pointer (some ⟨g3, 2, none⟩)) rfl (by kernel_rfl) (by kernel_rfl) (by kernel_rfl) (fun _ _ _ h => h) (yi_ok (by kernel_rfl) (fun _ => by go_simp)) hS ?_
  simp only [Act.put, List.setIfInBounds_toArray, List.set_cons_zero, List.set_cons_succ]
  refine wpAnyH_take (i := 4) (oi := ⟨some 27, _, _, _, _, _⟩) (v := .slice (some ⟨b, off, none⟩) l.length cap) rfl (by kernel_rfl) (by kernel_rfl) (by kernel_rfl) (fun _ _ _ h => h) (yi_ld1 (v := .slice (some ⟨b, off, none⟩) l.length cap) rfl (by kernel_rfl) rfl (fun w' h => k3.keep h) Try.underlying22 rfl rfl) hS ?_
  simp only [Act.put, List.setIfInBounds_toArray, List.set_cons_zero, List.set_cons_succ]
  refine wpAnyH_take (i := 5) (oi := ⟨some 28, _, _, _, _, _⟩) (v := .int .i64 (l.length : Int)) rfl (by kernel_rfl) (by kernel_rfl) (by kernel_rfl) (fun _ _ _ h => h) (yi_mv (Or.inl rfl) (by kernel_rfl) rfl) hS ?_
  simp only [Act.put, List.setIfInBounds_toArray, List.set_cons_zero, List.set_cons_succ]
  refine wpAnyH_take (i := 6) (oi := ⟨some 29, _, _, _, _, _⟩) (v := .int .i64 (j : Nat)) rfl (by kernel_rfl) (by kernel_rfl) (by kernel_rfl) (fun _ _ _ h => h) (yi_bi rfl (by kernel_rfl) rfl rfl (fun _ => rfl) (fun _ => sub_is hwj)) hS ?_
  simp only [Act.put, List.setIfInBounds_toArray, List.set_cons_zero, List.set_cons_succ]
  refine wpAnyH_take (i := 7) (oi := ⟨some 30, _, _, _, _, _⟩) (v := .pointer (some ⟨b, off + j * 4, none⟩)) rfl (by kernel_rfl) (by kernel_rfl) (by kernel_rfl) (fun _ _ _ h => h) (yi_ixo rfl (by kernel_rfl) rfl rfl Try.underlying22 rfl hjl HMM) hS ?_
  simp only [Act.put, List.setIfInBounds_toArray, List.set_cons_zero, List.set_cons_succ]
  refine wpAnyH_take (i := 8) (oi := ⟨some 31, _, _, _, _, _⟩) (v := .pointer (some ⟨b, off + j * 4, none⟩)) rfl (by kernel_rfl) (by kernel_rfl) (by kernel_rfl) (fun _ _ _ h => h) (yi_ok (by kernel_rfl) (fun _ => by go_simp)) hS ?_
  simp only [Act.put, List.setIfInBounds_toArray, List.set_cons_zero, List.set_cons_succ]
  refine wpAnyH_take (i := 9) (oi := ⟨some 32, _, _, _, _, _⟩) (v := .int .i64 x.t) rfl (by kernel_rfl) (by kernel_rfl) (by kernel_rfl) (fun _ _ _ h => h) (yi_c rfl (by kernel_rfl) rfl (fun w' h => range_keep (range_keep HKX.out (HB.out.block b HBQ.out)) (h.block b hbV) 0 _ rfl) Try.underlying2 rfl) hS ?_
  simp only [Act.put, List.setIfInBounds_toArray, List.set_cons_zero, List.set_cons_succ]
  refine wpAnyH_take (i := 10) (oi := ⟨some 33, _, _, _, _, _⟩) (v := .pointer (some ⟨g5, 0, none⟩)) rfl (by kernel_rfl) (by kernel_rfl) (by kernel_rfl) (fun _ _ _ h => h) (yi_ok (by kernel_rfl) (fun _ => by go_simp)) hS ?_
  simp only [Act.put, List.setIfInBounds_toArray, List.set_cons_zero, List.set_cons_succ]
  refine wpAnyH_take (i := 11) (oi := ⟨some 34, _, _, _, _, _⟩) (v := .int .i64 e.t) rfl (by kernel_rfl) (by kernel_rfl) (by kernel_rfl) (fun _ _ _ h => h) (yi_ld1 (v := .int .i64 e.t) rfl (by kernel_rfl) rfl (fun w' h => k5.keep h) Try.underlying2 rfl rfl) hS ?_
  simp only [Act.put, List.setIfInBounds_toArray, List.set_cons_zero, List.set_cons_succ]
  refine wpAnyH_take (i := 12) (oi := ⟨some 35, _, _, _, _, _⟩) (v := .bool true) rfl (by kernel_rfl) (by kernel_rfl) (by kernel_rfl) (fun _ _ _ h => h) (yi_bi rfl (by kernel_rfl) rfl rfl (fun _ => rfl) (fun _ => geq_is (decide_eq_true (by have := HT.out; omega)))) hS ?_
  simp only [Act.put, List.setIfInBounds_toArray, List.set_cons_zero, List.set_cons_succ]
  refine wpAnyH_take (i := 13) (oi := ⟨some 36, _, _, _, _, _⟩) (v := .bool true) rfl (by kernel_rfl) (by kernel_rfl) (by kernel_rfl) (fun _ _ _ h => h) (yi_pick1 rfl rfl rfl rfl) hS ?_
  simp only [Act.put, List.setIfInBounds_toArray, List.set_cons_zero, List.set_cons_succ]
  refine wpAnyH_done (by kernel_rfl) ?_ _
  replace k3 := k3.keep hS
  replace k5 := k5.keep hS
  replace k6 := k6.keep hS
  replace HB := Lib.hid (below_tr HB.out hS)
  clear hS hbV
  go_wp2_with (first
    | ((with_reducible refine at_slot 37 ?_); refine wl_build rfl rfl (rw_bld0 _) rfl ?_)
    | ((with_reducible refine at_store 6 ?_); refine wl_st0 (A' := #[.int .i64 0, .int .i64 0, .slice none 0 0]) rfl rfl rfl rfl k6 rfl rw_size (rw_one _ _ _ rfl) ?_; intro V99 k99 hu; replace HB := Lib.hid (upd_below HB.out hu HLE6.out); clear hu k6))
  refine bodyPost_ret (v := .tuple #[.agg #[.int .i64 0, .int .i64 0, .slice none 0 0], .int .i64 9]) (results_ct Try.results9 _ rfl rfl k99 Try.underlying24 rfl rw_size) rfl ?_
  exact ⟨rfl, HB.out⟩
set_option maxHeartbeats 4000000 in
set_option maxRecDepth 100000 in
theorem rput_range (lost mark : Int) (v : Value) (l : List Ev) (hl : l.length ≤ 1000000) (hin : AllIn l) (room : Int) (e : Ev) (_ : EvIn e) (w : World) (h : Lst 4 cE w v l) (hok : RawOk lost mark l room) (he : EvOk e) (j : Nat) (x : Ev) (hj : l.length = j + 1) (hx : l[j]? = some x) (hlt : x.t < e.t) (hm : lost = 70368744177664) (hr : (l.length : Int) = room) :
    Calls Try.prog 9 #[.agg #[.int .i64 lost, .int .i64 mark, v], .int .i64 room, .agg (evA e)] w fun r w' => r = .returned (.tuple #[.agg #[.int .i64 0, .int .i64 0, .slice none 0 0], .int .i64 1]) ∧ Below w.heap.size w w' := by
  obtain ⟨ao, b, off, cap, rfl, h1, h2⟩ := h.ex
  obtain ⟨rfl, hq1⟩ := h1 (by omega)
  have HBQ := Lib.hid hq1
  have HKX := Lib.hid (h2 j x hx)
  have HSL : Hid (∃ ao' cap', Value.slice (some ⟨b, off, none⟩) l.length cap = .slice ao' l.length cap') := Lib.hid ⟨_, _, rfl⟩
  have HL := Lib.hid h
  have HCK := Lib.hid (fun W (hb : Below w.heap.size w W) => rck_any lost mark (.slice (some ⟨b, off, none⟩) l.length cap) l (by omega) hin room W (h.keep hb))
  rw [ckE_yes hok] at HCK
  have HE := Lib.hid he
  have HT := Lib.hid hlt
  have hwj : IntKind.i64.wrap ((l.length : Int) - 1) = (j : Nat) := by rw [IntKind.wrap_i64]; omega
  have hjl : j < l.length := by omega
  have HMM : l.length ≤ 9223372036854775807 := by omega
  have hl1 : (0 : Int) < (l.length : Int) := by omega
  have d1 : (lost == 70368744177664) = true := by simpa using hm
  have d2 : ((l.length : Int) == room) = true := by simpa using hr
  clear h h1 h2 hin hok he hj hx hq1 hlt hm hr
  go_enter Try.func9, Try.ntmps9
  go_upto_region 4 with (first
    | ((with_reducible refine at_slot 3 ?_); refine wl_box (A := #[.int .i64 lost, .int .i64 mark, .slice (some ⟨b, off, none⟩) l.length cap]) rfl rfl rfl ?_; intro W1 g3 k3 hb hle3; have HLE3 := Lib.hid hle3; have HB := Lib.hid hb; clear hb hle3)
    | ((with_reducible refine at_slot 5 ?_); refine wl_box (A := evA e) rfl rfl rfl ?_; intro W2 g5 k5 hb hle5; have HN35 := Lib.hid (k3.ne_of_le hle5); replace k3 := k3.keep hb; replace HB := Lib.hid (below_tr HB.out hb); clear hb hle5)
    | ((with_reducible refine at_slot 6 ?_); refine wl_alloc (A := #[.int .i64 0, .int .i64 0, .slice none 0 0]) rfl rfl rw_zero rfl ?_; intro W3 g6 k6 hb hle6; have HN36 := Lib.hid (And.intro (k3.ne_of_le hle6) (k5.ne_of_le hle6)); have HLE6 := Lib.hid (Nat.le_trans HB.out.size hle6); replace k3 := k3.keep hb; replace k5 := k5.keep hb; replace HB := Lib.hid (below_tr HB.out hb); clear hb hle6)
    | ((with_reducible refine at_slot 10 ?_); refine wl_ld0 rfl rfl rfl k3 Try.underlying24 rfl rw_size ?_)
    | ((with_reducible refine at_slot 12 ?_); refine wl_call rfl rfl Try.func15 (by kernel_rfl) rfl (HCK.out _ (HB.out)) rfl ?_; intro V12 hb; replace k3 := k3.keep hb; replace k5 := k5.keep hb; replace k6 := k6.keep hb; replace HB := Lib.hid (below_tr HB.out hb); clear hb)
    | ((with_reducible refine at_slot 15 ?_); refine wl_ld0 rfl rfl rfl k5 Try.underlying27 rfl evInfo ?_)
    | ((with_reducible refine at_slot 16 ?_); refine wl_call rfl rfl Try.func28 (by kernel_rfl) rfl (rev_yes HE.out _) rfl ?_; intro V16 hb; replace k3 := k3.keep hb; replace k5 := k5.keep hb; replace k6 := k6.keep hb; replace HB := Lib.hid (below_tr HB.out hb); clear hb)
    | ((with_reducible refine at_slot 21 ?_); refine wl_ld1 (v := .slice (some ⟨b, off, none⟩) l.length cap) rfl rfl rfl k3 Try.underlying22 rfl rfl ?_)
    | ((with_reducible refine at_slot 22 ?_); refine wl_lenL rfl rfl rfl Try.underlying22 HSL.out ?_))
  have hbV : b < V16.heap.size := Nat.lt_of_lt_of_le HBQ.out HB.out.size
  refine wp_region_held_drew (S := fun w' => Below V16.heap.size V16 w') (by kernel_rfl) (Below.refl _ _).drew (fun hS => ?_)
  refine wpAnyH_take (i := 0) (oi := ⟨some 23, _, _, _, _, _⟩) (v := .int .i64 (l.length : Int)) rfl (by kernel_rfl) (by kernel_rfl) (by kernel_rfl) (fun _ _ _ h => h) (yi_mv (Or.inl rfl) rfl rfl) hS ?_
  simp only [Act.put, List.setIfInBounds_toArray, List.set_cons_zero, List.set_cons_succ]
  refine wpAnyH_take (i := 1) (oi := ⟨some 24, _, _, _, _, _⟩) (v := .bool true) rfl (by kernel_rfl) (by kernel_rfl) (by kernel_rfl) (fun _ _ _ h => h) (yi_bi rfl rfl rfl rfl (fun _ => rfl) (fun _ => gtr_is (decide_eq_true hl1))) hS ?_
  simp only [Act.put, List.setIfInBounds_toArray, List.set_cons_zero, List.set_cons_succ]
  refine wpAnyH_take (i := 2) (oi := ⟨some 25, _, _, _, _, _⟩) (v := .bool true) rfl (by kernel_rfl) (by kernel_rfl) (by kernel_rfl) (fun _ _ _ h => h) (yi_mv (Or.inl rfl) rfl rfl) hS ?_
  simp only [Act.put, List.setIfInBounds_toArray, List.set_cons_zero, List.set_cons_succ]
  refine wpAnyH_take (i := 3) (oi := ⟨some 26, _, _, _, _, _⟩) (v := .pointer (some ⟨g3, 2, none⟩)) rfl (by kernel_rfl) (by kernel_rfl) (by kernel_rfl) (fun _ _ _ h => h) (yi_ok (by kernel_rfl) (fun _ => by go_simp)) hS ?_
  simp only [Act.put, List.setIfInBounds_toArray, List.set_cons_zero, List.set_cons_succ]
  refine wpAnyH_take (i := 4) (oi := ⟨some 27, _, _, _, _, _⟩) (v := .slice (some ⟨b, off, none⟩) l.length cap) rfl (by kernel_rfl) (by kernel_rfl) (by kernel_rfl) (fun _ _ _ h => h) (yi_ld1 (v := .slice (some ⟨b, off, none⟩) l.length cap) rfl (by kernel_rfl) rfl (fun w' h => k3.keep h) Try.underlying22 rfl rfl) hS ?_
  simp only [Act.put, List.setIfInBounds_toArray, List.set_cons_zero, List.set_cons_succ]
  refine wpAnyH_take (i := 5) (oi := ⟨some 28, _, _, _, _, _⟩) (v := .int .i64 (l.length : Int)) rfl (by kernel_rfl) (by kernel_rfl) (by kernel_rfl) (fun _ _ _ h => h) (yi_mv (Or.inl rfl) (by kernel_rfl) rfl) hS ?_
  simp only [Act.put, List.setIfInBounds_toArray, List.set_cons_zero, List.set_cons_succ]
  refine wpAnyH_take (i := 6) (oi := ⟨some 29, _, _, _, _, _⟩) (v := .int .i64 (j : Nat)) rfl (by kernel_rfl) (by kernel_rfl) (by kernel_rfl) (fun _ _ _ h => h) (yi_bi rfl (by kernel_rfl) rfl rfl (fun _ => rfl) (fun _ => sub_is hwj)) hS ?_
  simp only [Act.put, List.setIfInBounds_toArray, List.set_cons_zero, List.set_cons_succ]
  refine wpAnyH_take (i := 7) (oi := ⟨some 30, _, _, _, _, _⟩) (v := .pointer (some ⟨b, off + j * 4, none⟩)) rfl (by kernel_rfl) (by kernel_rfl) (by kernel_rfl) (fun _ _ _ h => h) (yi_ixo rfl (by kernel_rfl) rfl rfl Try.underlying22 rfl hjl HMM) hS ?_
  simp only [Act.put, List.setIfInBounds_toArray, List.set_cons_zero, List.set_cons_succ]
  refine wpAnyH_take (i := 8) (oi := ⟨some 31, _, _, _, _, _⟩) (v := .pointer (some ⟨b, off + j * 4, none⟩)) rfl (by kernel_rfl) (by kernel_rfl) (by kernel_rfl) (fun _ _ _ h => h) (yi_ok (by kernel_rfl) (fun _ => by go_simp)) hS ?_
  simp only [Act.put, List.setIfInBounds_toArray, List.set_cons_zero, List.set_cons_succ]
  refine wpAnyH_take (i := 9) (oi := ⟨some 32, _, _, _, _, _⟩) (v := .int .i64 x.t) rfl (by kernel_rfl) (by kernel_rfl) (by kernel_rfl) (fun _ _ _ h => h) (yi_c rfl (by kernel_rfl) rfl (fun w' h => range_keep (range_keep HKX.out (HB.out.block b HBQ.out)) (h.block b hbV) 0 _ rfl) Try.underlying2 rfl) hS ?_
  simp only [Act.put, List.setIfInBounds_toArray, List.set_cons_zero, List.set_cons_succ]
  refine wpAnyH_take (i := 10) (oi := ⟨some 33, _, _, _, _, _⟩) (v := .pointer (some ⟨g5, 0, none⟩)) rfl (by kernel_rfl) (by kernel_rfl) (by kernel_rfl) (fun _ _ _ h => h) (yi_ok (by kernel_rfl) (fun _ => by go_simp)) hS ?_
  simp only [Act.put, List.setIfInBounds_toArray, List.set_cons_zero, List.set_cons_succ]
  refine wpAnyH_take (i := 11) (oi := ⟨some 34, _, _, _, _, _⟩) (v := .int .i64 e.t) rfl (by kernel_rfl) (by kernel_rfl) (by kernel_rfl) (fun _ _ _ h => h) (yi_ld1 (v := .int .i64 e.t) rfl (by kernel_rfl) rfl (fun w' h => k5.keep h) Try.underlying2 rfl rfl) hS ?_
  simp only [Act.put, List.setIfInBounds_toArray, List.set_cons_zero, List.set_cons_succ]
  refine wpAnyH_take (i := 12) (oi := ⟨some 35, _, _, _, _, _⟩) (v := .bool false) rfl (by kernel_rfl) (by kernel_rfl) (by kernel_rfl) (fun _ _ _ h => h) (yi_bi rfl (by kernel_rfl) rfl rfl (fun _ => rfl) (fun _ => geq_is (decide_eq_false (by have := HT.out; omega)))) hS ?_
  simp only [Act.put, List.setIfInBounds_toArray, List.set_cons_zero, List.set_cons_succ]
  refine wpAnyH_take (i := 13) (oi := ⟨some 36, _, _, _, _, _⟩) (v := .bool false) rfl (by kernel_rfl) (by kernel_rfl) (by kernel_rfl) (fun _ _ _ h => h) (yi_pick1 rfl rfl rfl rfl) hS ?_
  simp only [Act.put, List.setIfInBounds_toArray, List.set_cons_zero, List.set_cons_succ]
  refine wpAnyH_done (by kernel_rfl) ?_ _
  replace k3 := k3.keep hS
  replace k5 := k5.keep hS
  replace k6 := k6.keep hS
  replace HB := Lib.hid (below_tr HB.out hS)
  clear hS hbV
  go_wp2_with (first
    | ((with_reducible refine at_slot 43 ?_); refine wl_ld1 (v := .int .i64 lost) rfl rfl rfl k3 Try.underlying2 rfl rfl ?_)
    | ((with_reducible refine at_slot 46 ?_); refine wl_build rfl rfl (rw_bld0 _) rfl ?_)
    | ((with_reducible refine at_store 6 ?_); refine wl_st0 (A' := #[.int .i64 0, .int .i64 0, .slice none 0 0]) rfl rfl rfl rfl k6 rfl rw_size (rw_one _ _ _ rfl) ?_; intro V99 k99 hu; replace HB := Lib.hid (upd_below HB.out hu HLE6.out); clear hu k6))
  refine bodyPost_ret (v := .tuple #[.agg #[.int .i64 0, .int .i64 0, .slice none 0 0], .int .i64 1]) (results_ct Try.results9 _ rfl rfl k99 Try.underlying24 rfl rw_size) rfl ?_
  exact ⟨rfl, HB.out⟩
end Go.Proofs.Ytohkioakipjanaa
