/-
  WALKS: raw events: Put.
-/
import Derived.Test.YtohkioakipjanaaRwb
import Derived.Test.YtohkioakipjanaaRgg
namespace Go.Proofs.Ytohkioakipjanaa
open Go Go.RowKit

theorem rw_bld0 (w : World) : (Instr.build 24 #[]).run Try.prog w = .ok (.agg #[.int .i64 0, .int .i64 0, .slice none 0 0]) w := by
  go_simp
set_option maxHeartbeats 4000000 in
set_option maxRecDepth 100000 in
theorem put_form (lost mark : Int) (v : Value) (l : List Ev) (hl : l.length ≤ 1000000) (hin : AllIn l) (room : Int) (e : Ev) (_ : EvIn e) (w : World) (h : Lst 4 cE w v l) (hno : ¬ RawOk lost mark l room) :
    Calls Try.prog 8 #[.agg #[.int .i64 lost, .int .i64 mark, v], .int .i64 room, .agg (evA e)] w fun r w' => r = .returned (.tuple #[.agg #[.int .i64 0, .int .i64 0, .slice none 0 0], .int .i64 2]) ∧ Below w.heap.size w w' := by
  have HL := Lib.hid h
  have HCK := Lib.hid (fun W (hb : Below w.heap.size w W) => ck_any lost mark v l (by omega) hin room W (h.keep hb))
  rw [ckE_no hno] at HCK
  clear h hin hno
  go_enter Try.func8, Try.ntmps8
  go_wp2_with (first
    | ((with_reducible refine at_slot 3 ?_); refine wl_box (A := #[.int .i64 lost, .int .i64 mark, v]) rfl rfl rfl ?_; intro W1 g3 k3 hb hle3; have HLE3 := Lib.hid hle3; have HB := Lib.hid hb; clear hb hle3)
    | ((with_reducible refine at_slot 5 ?_); refine wl_box (A := evA e) rfl rfl rfl ?_; intro W2 g5 k5 hb hle5; have HN35 := Lib.hid (k3.ne_of_le hle5); replace k3 := k3.keep hb; replace HB := Lib.hid (below_tr HB.out hb); clear hb hle5)
    | ((with_reducible refine at_slot 6 ?_); refine wl_alloc (A := #[.int .i64 0, .int .i64 0, .slice none 0 0]) rfl rfl rw_zero rfl ?_; intro W3 g6 k6 hb hle6; have HN36 := Lib.hid (And.intro (k3.ne_of_le hle6) (k5.ne_of_le hle6)); have HLE6 := Lib.hid (Nat.le_trans HB.out.size hle6); replace k3 := k3.keep hb; replace k5 := k5.keep hb; replace HB := Lib.hid (below_tr HB.out hb); clear hb hle6)
    | ((with_reducible refine at_slot 16 ?_); refine wl_ld0 rfl rfl rfl k3 Try.underlying24 rfl rw_size ?_)
    | ((with_reducible refine at_slot 18 ?_); refine wl_call rfl rfl Try.func14 (by kernel_rfl) rfl (HCK.out _ (HB.out)) rfl ?_; intro V18 hb; replace k3 := k3.keep hb; replace k5 := k5.keep hb; replace k6 := k6.keep hb; replace HB := Lib.hid (below_tr HB.out hb); clear hb)
    | ((with_reducible refine at_slot 25 ?_); refine wl_build rfl rfl (rw_bld0 _) rfl ?_)
    | ((with_reducible refine at_store 6 ?_); refine wl_st0 (A' := #[.int .i64 0, .int .i64 0, .slice none 0 0]) rfl rfl rfl rfl k6 rfl rw_size (rw_one _ _ _ rfl) ?_; intro V99 k99 hu; replace HB := Lib.hid (upd_below HB.out hu HLE6.out); clear hu k6))
  refine bodyPost_ret (v := .tuple #[.agg #[.int .i64 0, .int .i64 0, .slice none 0 0], .int .i64 2]) (results_ct Try.results8 _ rfl rfl k99 Try.underlying24 rfl rw_size) rfl ?_
  exact ⟨rfl, HB.out⟩
set_option maxHeartbeats 4000000 in
set_option maxRecDepth 100000 in
theorem put_ev (lost mark : Int) (v : Value) (l : List Ev) (hl : l.length ≤ 1000000) (hin : AllIn l) (room : Int) (e : Ev) (hie : EvIn e) (w : World) (h : Lst 4 cE w v l) (hok : RawOk lost mark l room) (hno : ¬ EvOk e) :
    Calls Try.prog 8 #[.agg #[.int .i64 lost, .int .i64 mark, v], .int .i64 room, .agg (evA e)] w fun r w' => r = .returned (.tuple #[.agg #[.int .i64 0, .int .i64 0, .slice none 0 0], .int .i64 2]) ∧ Below w.heap.size w w' := by
  have HL := Lib.hid h
  have HCK := Lib.hid (fun W (hb : Below w.heap.size w W) => ck_any lost mark v l (by omega) hin room W (h.keep hb))
  rw [ckE_yes hok] at HCK
  have HNO := Lib.hid hno
  have HIE := Lib.hid hie
  clear h hin hno hok hie
  go_enter Try.func8, Try.ntmps8
  go_wp2_with (first
    | ((with_reducible refine at_slot 3 ?_); refine wl_box (A := #[.int .i64 lost, .int .i64 mark, v]) rfl rfl rfl ?_; intro W1 g3 k3 hb hle3; have HLE3 := Lib.hid hle3; have HB := Lib.hid hb; clear hb hle3)
    | ((with_reducible refine at_slot 5 ?_); refine wl_box (A := evA e) rfl rfl rfl ?_; intro W2 g5 k5 hb hle5; have HN35 := Lib.hid (k3.ne_of_le hle5); replace k3 := k3.keep hb; replace HB := Lib.hid (below_tr HB.out hb); clear hb hle5)
    | ((with_reducible refine at_slot 6 ?_); refine wl_alloc (A := #[.int .i64 0, .int .i64 0, .slice none 0 0]) rfl rfl rw_zero rfl ?_; intro W3 g6 k6 hb hle6; have HN36 := Lib.hid (And.intro (k3.ne_of_le hle6) (k5.ne_of_le hle6)); have HLE6 := Lib.hid (Nat.le_trans HB.out.size hle6); replace k3 := k3.keep hb; replace k5 := k5.keep hb; replace HB := Lib.hid (below_tr HB.out hb); clear hb hle6)
    | ((with_reducible refine at_slot 16 ?_); refine wl_ld0 rfl rfl rfl k3 Try.underlying24 rfl rw_size ?_)
    | ((with_reducible refine at_slot 18 ?_); refine wl_call rfl rfl Try.func14 (by kernel_rfl) rfl (HCK.out _ (HB.out)) rfl ?_; intro V18 hb; replace k3 := k3.keep hb; replace k5 := k5.keep hb; replace k6 := k6.keep hb; replace HB := Lib.hid (below_tr HB.out hb); clear hb)
    | ((with_reducible refine at_slot 21 ?_); refine wl_ld0 rfl rfl rfl k5 Try.underlying27 rfl evInfo ?_)
    | ((with_reducible refine at_slot 22 ?_); refine wl_call rfl rfl Try.func26 (by kernel_rfl) rfl (ev_no HIE.out HNO.out _) rfl ?_; intro V22 hb; replace k3 := k3.keep hb; replace k5 := k5.keep hb; replace k6 := k6.keep hb; replace HB := Lib.hid (below_tr HB.out hb); clear hb)
    | ((with_reducible refine at_slot 25 ?_); refine wl_build rfl rfl (rw_bld0 _) rfl ?_)
    | ((with_reducible refine at_store 6 ?_); refine wl_st0 (A' := #[.int .i64 0, .int .i64 0, .slice none 0 0]) rfl rfl rfl rfl k6 rfl rw_size (rw_one _ _ _ rfl) ?_; intro V99 k99 hu; replace HB := Lib.hid (upd_below HB.out hu HLE6.out); clear hu k6))
  refine bodyPost_ret (v := .tuple #[.agg #[.int .i64 0, .int .i64 0, .slice none 0 0], .int .i64 2]) (results_ct Try.results8 _ rfl rfl k99 Try.underlying24 rfl rw_size) rfl ?_
  exact ⟨rfl, HB.out⟩
set_option maxHeartbeats 4000000 in
set_option maxRecDepth 100000 in
theorem put_time (lost mark : Int) (v : Value) (l : List Ev) (hl : l.length ≤ 1000000) (hin : AllIn l) (room : Int) (e : Ev) (hie : EvIn e) (w : World) (h : Lst 4 cE w v l) (hok : RawOk lost mark l room) (he : EvOk e) (j : Nat) (x : Ev) (hj : l.length = j + 1) (hx : l[j]? = some x) (hno : ¬ x.t < e.t) :
    Calls Try.prog 8 #[.agg #[.int .i64 lost, .int .i64 mark, v], .int .i64 room, .agg (evA e)] w fun r w' => r = .returned (.tuple #[.agg #[.int .i64 0, .int .i64 0, .slice none 0 0], .int .i64 9]) ∧ Below w.heap.size w w' := by
  have HXI : Hid (EvIn x) := Lib.hid (by obtain ⟨h1, h2⟩ := List.getElem?_eq_some_iff.1 hx; rw [← h2]; exact hin j h1)
  have HIE := Lib.hid hie
  have HL := Lib.hid h
  have HCK := Lib.hid (fun W (hb : Below w.heap.size w W) => ck_any lost mark v l (by omega) hin room W (h.keep hb))
  rw [ckE_yes hok] at HCK
  have HE := Lib.hid he
  have HF : Hid (¬ Fol x e) := Lib.hid (fun h => hno h.2.2)
  have HJ := Lib.hid (show l.length = j + 1 ∧ j ≤ 1000000 ∧ l[j]? = some x from ⟨hj, by omega, hx⟩)
  clear h hin hno hok hie he hj hx
  go_enter Try.func8, Try.ntmps8
  go_wp2_with (first
    | ((with_reducible refine at_slot 3 ?_); refine wl_box (A := #[.int .i64 lost, .int .i64 mark, v]) rfl rfl rfl ?_; intro W1 g3 k3 hb hle3; have HLE3 := Lib.hid hle3; have HB := Lib.hid hb; clear hb hle3)
    | ((with_reducible refine at_slot 5 ?_); refine wl_box (A := evA e) rfl rfl rfl ?_; intro W2 g5 k5 hb hle5; have HN35 := Lib.hid (k3.ne_of_le hle5); replace k3 := k3.keep hb; replace HB := Lib.hid (below_tr HB.out hb); clear hb hle5)
    | ((with_reducible refine at_slot 6 ?_); refine wl_alloc (A := #[.int .i64 0, .int .i64 0, .slice none 0 0]) rfl rfl rw_zero rfl ?_; intro W3 g6 k6 hb hle6; have HN36 := Lib.hid (And.intro (k3.ne_of_le hle6) (k5.ne_of_le hle6)); have HLE6 := Lib.hid (Nat.le_trans HB.out.size hle6); replace k3 := k3.keep hb; replace k5 := k5.keep hb; replace HB := Lib.hid (below_tr HB.out hb); clear hb hle6)
    | ((with_reducible refine at_slot 16 ?_); refine wl_ld0 rfl rfl rfl k3 Try.underlying24 rfl rw_size ?_)
    | ((with_reducible refine at_slot 18 ?_); refine wl_call rfl rfl Try.func14 (by kernel_rfl) rfl (HCK.out _ (HB.out)) rfl ?_; intro V18 hb; replace k3 := k3.keep hb; replace k5 := k5.keep hb; replace k6 := k6.keep hb; replace HB := Lib.hid (below_tr HB.out hb); clear hb)
    | ((with_reducible refine at_slot 21 ?_); refine wl_ld0 rfl rfl rfl k5 Try.underlying27 rfl evInfo ?_)
    | ((with_reducible refine at_slot 22 ?_); refine wl_call rfl rfl Try.func26 (by kernel_rfl) rfl (ev_yes HE.out _) rfl ?_; intro V22 hb; replace k3 := k3.keep hb; replace k5 := k5.keep hb; replace k6 := k6.keep hb; replace HB := Lib.hid (below_tr HB.out hb); clear hb)
    | ((with_reducible refine at_slot 27 ?_); refine wl_ld0 rfl rfl rfl k3 Try.underlying24 rfl rw_size ?_)
    | ((with_reducible refine at_slot 28 ?_); refine wl_call rfl rfl Try.func12 (by kernel_rfl) rfl (la_some lost mark v l j x HJ.out.1 HJ.out.2.1 HJ.out.2.2 _ (HL.out.keep HB.out)) rfl ?_; intro V28 hb; replace k3 := k3.keep hb; replace k5 := k5.keep hb; replace k6 := k6.keep hb; replace HB := Lib.hid (below_tr HB.out hb); clear hb)
    | ((with_reducible refine at_slot 8 ?_); refine wl_alloc (A := evA zeroEv) rfl rfl ev_zero rfl ?_; intro W8 g8 k8 hb hle8; have HN8 := Lib.hid (show g3 ≠ g8 ∧ g5 ≠ g8 ∧ g6 ≠ g8 ∧ w.heap.size ≤ g8 from ⟨k3.ne_of_le hle8, k5.ne_of_le hle8, k6.ne_of_le hle8, Nat.le_trans HB.out.size hle8⟩); replace k3 := k3.keep hb; replace k5 := k5.keep hb; replace k6 := k6.keep hb; replace HB := Lib.hid (below_tr HB.out hb); clear hb)
    | ((with_reducible refine at_store 8 ?_); refine wl_st0 (A' := evA x) rfl rfl rfl rfl k8 rfl evInfo (evA_one _) ?_; intro V88 kn hu; replace k3 := k3.upd hu HN8.out.1; replace k5 := k5.upd hu HN8.out.2.1; replace k6 := k6.upd hu HN8.out.2.2.1; replace HB := Lib.hid (upd_below HB.out hu HN8.out.2.2.2); clear k8; have k8 := kn; clear kn hu)
    | ((with_reducible refine at_slot 34 ?_); refine wl_ld0 rfl rfl rfl k8 Try.underlying27 rfl evInfo ?_)
    | ((with_reducible refine at_slot 35 ?_); refine wl_ld0 rfl rfl rfl k5 Try.underlying27 rfl evInfo ?_)
    | ((with_reducible refine at_slot 36 ?_); refine wl_call rfl rfl Try.func27 (by kernel_rfl) rfl (fol_no HXI.out HIE.out HF.out _) rfl ?_; intro V36 hb; replace k8 := k8.keep hb; replace k3 := k3.keep hb; replace k5 := k5.keep hb; replace k6 := k6.keep hb; replace HB := Lib.hid (below_tr HB.out hb); clear hb)
    | ((with_reducible refine at_slot 39 ?_); refine wl_build rfl rfl (rw_bld0 _) rfl ?_)
    | ((with_reducible refine at_store 6 ?_); refine wl_st0 (A' := #[.int .i64 0, .int .i64 0, .slice none 0 0]) rfl rfl rfl rfl k6 rfl rw_size (rw_one _ _ _ rfl) ?_; intro V99 k99 hu; replace HB := Lib.hid (upd_below HB.out hu HLE6.out); clear hu k6))
  refine bodyPost_ret (v := .tuple #[.agg #[.int .i64 0, .int .i64 0, .slice none 0 0], .int .i64 9]) (results_ct Try.results8 _ rfl rfl k99 Try.underlying24 rfl rw_size) rfl ?_
  exact ⟨rfl, HB.out⟩
set_option maxHeartbeats 4000000 in
set_option maxRecDepth 100000 in
theorem put_range (lost mark : Int) (v : Value) (l : List Ev) (hl : l.length ≤ 1000000) (hin : AllIn l) (room : Int) (e : Ev) (_ : EvIn e) (w : World) (h : Lst 4 cE w v l) (hok : RawOk lost mark l room) (he : EvOk e) (j : Nat) (x : Ev) (hj : l.length = j + 1) (hx : l[j]? = some x) (hlt : x.t < e.t) (hm : lost = 70368744177664) (hr : (l.length : Int) = room) :
    Calls Try.prog 8 #[.agg #[.int .i64 lost, .int .i64 mark, v], .int .i64 room, .agg (evA e)] w fun r w' => r = .returned (.tuple #[.agg #[.int .i64 0, .int .i64 0, .slice none 0 0], .int .i64 1]) ∧ Below w.heap.size w w' := by
  have HSL := Lib.hid h.sl
  have HL := Lib.hid h
  have HCK := Lib.hid (fun W (hb : Below w.heap.size w W) => ck_any lost mark v l (by omega) hin room W (h.keep hb))
  rw [ckE_yes hok] at HCK
  have HE := Lib.hid he
  have HF : Hid (Fol x e) := Lib.hid ⟨by obtain ⟨h1, h2⟩ := List.getElem?_eq_some_iff.1 hx; rw [← h2]; exact hok.rt.ok j h1, he, hlt⟩
  have HJ := Lib.hid (show l.length = j + 1 ∧ j ≤ 1000000 ∧ l[j]? = some x from ⟨hj, by omega, hx⟩)
  have d1 : (lost == 70368744177664) = true := by simpa using hm
  have d2 : ((l.length : Int) == room) = true := by simpa using hr
  clear h hin hok he hj hx hlt hm hr
  go_enter Try.func8, Try.ntmps8
  go_wp2_with (first
    | ((with_reducible refine at_slot 3 ?_); refine wl_box (A := #[.int .i64 lost, .int .i64 mark, v]) rfl rfl rfl ?_; intro W1 g3 k3 hb hle3; have HLE3 := Lib.hid hle3; have HB := Lib.hid hb; clear hb hle3)
    | ((with_reducible refine at_slot 5 ?_); refine wl_box (A := evA e) rfl rfl rfl ?_; intro W2 g5 k5 hb hle5; have HN35 := Lib.hid (k3.ne_of_le hle5); replace k3 := k3.keep hb; replace HB := Lib.hid (below_tr HB.out hb); clear hb hle5)
    | ((with_reducible refine at_slot 6 ?_); refine wl_alloc (A := #[.int .i64 0, .int .i64 0, .slice none 0 0]) rfl rfl rw_zero rfl ?_; intro W3 g6 k6 hb hle6; have HN36 := Lib.hid (And.intro (k3.ne_of_le hle6) (k5.ne_of_le hle6)); have HLE6 := Lib.hid (Nat.le_trans HB.out.size hle6); replace k3 := k3.keep hb; replace k5 := k5.keep hb; replace HB := Lib.hid (below_tr HB.out hb); clear hb hle6)
    | ((with_reducible refine at_slot 16 ?_); refine wl_ld0 rfl rfl rfl k3 Try.underlying24 rfl rw_size ?_)
    | ((with_reducible refine at_slot 18 ?_); refine wl_call rfl rfl Try.func14 (by kernel_rfl) rfl (HCK.out _ (HB.out)) rfl ?_; intro V18 hb; replace k3 := k3.keep hb; replace k5 := k5.keep hb; replace k6 := k6.keep hb; replace HB := Lib.hid (below_tr HB.out hb); clear hb)
    | ((with_reducible refine at_slot 21 ?_); refine wl_ld0 rfl rfl rfl k5 Try.underlying27 rfl evInfo ?_)
    | ((with_reducible refine at_slot 22 ?_); refine wl_call rfl rfl Try.func26 (by kernel_rfl) rfl (ev_yes HE.out _) rfl ?_; intro V22 hb; replace k3 := k3.keep hb; replace k5 := k5.keep hb; replace k6 := k6.keep hb; replace HB := Lib.hid (below_tr HB.out hb); clear hb)
    | ((with_reducible refine at_slot 27 ?_); refine wl_ld0 rfl rfl rfl k3 Try.underlying24 rfl rw_size ?_)
    | ((with_reducible refine at_slot 28 ?_); refine wl_call rfl rfl Try.func12 (by kernel_rfl) rfl (la_some lost mark v l j x HJ.out.1 HJ.out.2.1 HJ.out.2.2 _ (HL.out.keep HB.out)) rfl ?_; intro V28 hb; replace k3 := k3.keep hb; replace k5 := k5.keep hb; replace k6 := k6.keep hb; replace HB := Lib.hid (below_tr HB.out hb); clear hb)
    | ((with_reducible refine at_slot 8 ?_); refine wl_alloc (A := evA zeroEv) rfl rfl ev_zero rfl ?_; intro W8 g8 k8 hb hle8; have HN8 := Lib.hid (show g3 ≠ g8 ∧ g5 ≠ g8 ∧ g6 ≠ g8 ∧ w.heap.size ≤ g8 from ⟨k3.ne_of_le hle8, k5.ne_of_le hle8, k6.ne_of_le hle8, Nat.le_trans HB.out.size hle8⟩); replace k3 := k3.keep hb; replace k5 := k5.keep hb; replace k6 := k6.keep hb; replace HB := Lib.hid (below_tr HB.out hb); clear hb)
    | ((with_reducible refine at_store 8 ?_); refine wl_st0 (A' := evA x) rfl rfl rfl rfl k8 rfl evInfo (evA_one _) ?_; intro V88 kn hu; replace k3 := k3.upd hu HN8.out.1; replace k5 := k5.upd hu HN8.out.2.1; replace k6 := k6.upd hu HN8.out.2.2.1; replace HB := Lib.hid (upd_below HB.out hu HN8.out.2.2.2); clear k8; have k8 := kn; clear kn hu)
    | ((with_reducible refine at_slot 34 ?_); refine wl_ld0 rfl rfl rfl k8 Try.underlying27 rfl evInfo ?_)
    | ((with_reducible refine at_slot 35 ?_); refine wl_ld0 rfl rfl rfl k5 Try.underlying27 rfl evInfo ?_)
    | ((with_reducible refine at_slot 36 ?_); refine wl_call rfl rfl Try.func27 (by kernel_rfl) rfl (fol_yes HF.out _) rfl ?_; intro V36 hb; replace k8 := k8.keep hb; replace k3 := k3.keep hb; replace k5 := k5.keep hb; replace k6 := k6.keep hb; replace HB := Lib.hid (below_tr HB.out hb); clear hb)
    | ((with_reducible refine at_slot 41 ?_); refine wl_ld1 (v := .int .i64 lost) rfl rfl rfl k3 Try.underlying2 rfl rfl ?_)
    | ((with_reducible refine at_slot 45 ?_); refine wl_ld1 (v := v) rfl rfl rfl k3 Try.underlying22 rfl rfl ?_)
    | ((with_reducible refine at_slot 46 ?_); refine wl_lenL rfl rfl rfl Try.underlying22 HSL.out ?_)
    | ((with_reducible refine at_slot 50 ?_); refine wl_build rfl rfl (rw_bld0 _) rfl ?_)
    | ((with_reducible refine at_store 6 ?_); refine wl_st0 (A' := #[.int .i64 0, .int .i64 0, .slice none 0 0]) rfl rfl rfl rfl k6 rfl rw_size (rw_one _ _ _ rfl) ?_; intro V99 k99 hu; replace HB := Lib.hid (upd_below HB.out hu HLE6.out); clear hu k6))
  refine bodyPost_ret (v := .tuple #[.agg #[.int .i64 0, .int .i64 0, .slice none 0 0], .int .i64 1]) (results_ct Try.results8 _ rfl rfl k99 Try.underlying24 rfl rw_size) rfl ?_
  exact ⟨rfl, HB.out⟩
end Go.Proofs.Ytohkioakipjanaa
