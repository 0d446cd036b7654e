/-
  THE LAW plimsolllaw08.CellRight: the walk: it answers true, of any three cells.
-/
import Derived.Test.YtgijejdehenmpaaAs
namespace Go.Proofs.Ytgijejdehenmpaa
open Go Go.RowKit

set_option maxHeartbeats 4000000 in
set_option maxRecDepth 100000 in
theorem cr1 {a b c : Ce} {E : Int} (ia : CeIn a) (ib : CeIn b) (hE : meE a b = E) (hE0 : E ≠ 0) (hC : meC a b = zeroCe) (w : World) :
    Calls Try.prog 9 #[.agg (ceA a), .agg (ceA b), .agg (ceA c)] w fun e w' => e = .returned (.bool true) ∧ Below w.heap.size w w' := by
  have dE : (E != 0) = true := by simpa using hE0
  have IA := Lib.hid ia
  have IB := Lib.hid ib
  have HE := Lib.hid hE
  have HC := Lib.hid hC
  clear ia ib hE hC
  clear hE0
  have HB := Lib.hid (Below.refl w.heap.size w)
  go_enter Try.func9, Try.ntmps9
  go_wp2_with (first
      | ((with_reducible refine at_slot 3 ?_); refine wl_box (A := (ceA a)) rfl rfl rfl ?_; intro W1 g1 k1 hb hle; have L1 := Lib.hid (Nat.le_trans HB.out.size hle); replace HB := Lib.hid (below_tr HB.out hb); clear hb hle)
      | ((with_reducible refine at_slot 4 ?_); refine wl_box (A := (ceA b)) rfl rfl rfl ?_; intro W2 g2 k2 hb hle; have n1_2 := Lib.hid (Blk.ne_of_le k1 hle); have L2 := Lib.hid (Nat.le_trans HB.out.size hle); replace k1 := k1.keep hb; replace HB := Lib.hid (below_tr HB.out hb); clear hb hle)
      | ((with_reducible refine at_slot 5 ?_); refine wl_box (A := (ceA c)) rfl rfl rfl ?_; intro W3 g3 k3 hb hle; have n1_3 := Lib.hid (Blk.ne_of_le k1 hle); have n2_3 := Lib.hid (Blk.ne_of_le k2 hle); have L3 := Lib.hid (Nat.le_trans HB.out.size hle); replace k1 := k1.keep hb; replace k2 := k2.keep hb; replace HB := Lib.hid (below_tr HB.out hb); clear hb hle)
      | ((with_reducible refine at_slot 17 ?_); refine wl_call rfl rfl Try.func21 (by kernel_rfl) rfl (lives8 _) rfl ?_; intro V1 hb; replace k1 := k1.keep hb; replace k2 := k2.keep hb; replace k3 := k3.keep hb; replace HB := Lib.hid (below_tr HB.out hb); clear hb)
      | ((with_reducible refine at_slot 20 ?_); refine wl_ld0 rfl rfl rfl k1 Try.underlying30 rfl ceInfo ?_)
      | ((with_reducible refine at_slot 21 ?_); refine wl_ld0 rfl rfl rfl k2 Try.underlying30 rfl ceInfo ?_)
      | ((with_reducible refine at_slot 22 ?_); refine wl_call rfl rfl Try.func22 (by kernel_rfl) rfl (me_is IA.out IB.out HE.out HC.out _) rfl ?_; intro V2 hb; replace k1 := k1.keep hb; replace k2 := k2.keep hb; replace k3 := k3.keep hb; replace HB := Lib.hid (below_tr HB.out hb); clear hb)
      | ((with_reducible refine at_slot 7 ?_); refine wl_alloc (A := (ceA zeroCe)) rfl rfl ce_zero rfl ?_; intro W4 g4 k4 hb hle; have n1_4 := Lib.hid (Blk.ne_of_le k1 hle); have n2_4 := Lib.hid (Blk.ne_of_le k2 hle); have n3_4 := Lib.hid (Blk.ne_of_le k3 hle); have L4 := Lib.hid (Nat.le_trans HB.out.size hle); replace k1 := k1.keep hb; replace k2 := k2.keep hb; replace k3 := k3.keep hb; replace HB := Lib.hid (below_tr HB.out hb); clear hb hle)
      | ((with_reducible refine at_store 7 ?_); refine wl_st0 (A' := (ceA zeroCe)) rfl rfl rfl rfl k4 rfl ceInfo (ceA_one zeroCe) ?_; intro V3 kn hu; replace k1 := k1.upd hu n1_4.out; replace k2 := k2.upd hu n2_4.out; replace k3 := k3.upd hu n3_4.out; replace HB := Lib.hid (upd_below HB.out hu L4.out); clear k4; have k4 : Blk _ g4 _ (ceA zeroCe) := kn; clear kn hu)
      | ((with_reducible refine at_slot 27 ?_); refine wl_ld0 rfl rfl rfl k4 Try.underlying30 rfl ceInfo ?_)
      | ((with_reducible refine at_slot 28 ?_); refine wl_build (v := .agg (ceA zeroCe)) rfl rfl (build_ce0 _) rfl ?_)
      | ((with_reducible refine at_slot 29 ?_); refine wl_bin (v := .bool true) rfl rfl (run_eqGuard_agg _ _ _ _ _ _ _ (by kernel_rfl)) (ce_eql_yes rfl _) ?_))
  go_ret
  exact ⟨rfl, HB.out⟩
set_option maxHeartbeats 4000000 in
set_option maxRecDepth 100000 in
theorem cr2 {a b c : Ce} {E : Int} (ic : CeIn c) (hE : meE a b = 0) (h2 : meE b c = E) (hE0 : E ≠ 0) (w : World) :
    Calls Try.prog 9 #[.agg (ceA a), .agg (ceA b), .agg (ceA c)] w fun e w' => e = .returned (.bool true) ∧ Below w.heap.size w w' := by
  obtain ⟨oa, ob, _⟩ := meE_ok hE
  have x0 := oa.bd.n0; have x1 := oa.bd.n1; have y0 := ob.bd.n0; have y1 := ob.bd.n1
  obtain ⟨x, hx⟩ : ∃ x, meC a b = x := ⟨_, rfl⟩
  have ox : CeOk x := by rw [← hx]; exact meC_ok a b
  have hn : x.n = a.n + b.n := by rw [← hx]; exact me_count hE
  have HZ := Lib.hid (meC_zero oa)
  have dE : (E != 0) = true := by simpa using hE0
  have IC := Lib.hid ic
  have HE := Lib.hid hE
  have HX := Lib.hid hx
  have OA := Lib.hid oa
  have OB := Lib.hid ob
  have OX := Lib.hid ox
  have H2 := Lib.hid h2
  clear ic hE hx oa ob ox h2
  clear hE0
  have HB := Lib.hid (Below.refl w.heap.size w)
  go_enter Try.func9, Try.ntmps9
  go_wp2_with (first
      | ((with_reducible refine at_slot 3 ?_); refine wl_box (A := (ceA a)) rfl rfl rfl ?_; intro W1 g1 k1 hb hle; have L1 := Lib.hid (Nat.le_trans HB.out.size hle); replace HB := Lib.hid (below_tr HB.out hb); clear hb hle)
      | ((with_reducible refine at_slot 4 ?_); refine wl_box (A := (ceA b)) rfl rfl rfl ?_; intro W2 g2 k2 hb hle; have n1_2 := Lib.hid (Blk.ne_of_le k1 hle); have L2 := Lib.hid (Nat.le_trans HB.out.size hle); replace k1 := k1.keep hb; replace HB := Lib.hid (below_tr HB.out hb); clear hb hle)
      | ((with_reducible refine at_slot 5 ?_); refine wl_box (A := (ceA c)) rfl rfl rfl ?_; intro W3 g3 k3 hb hle; have n1_3 := Lib.hid (Blk.ne_of_le k1 hle); have n2_3 := Lib.hid (Blk.ne_of_le k2 hle); have L3 := Lib.hid (Nat.le_trans HB.out.size hle); replace k1 := k1.keep hb; replace k2 := k2.keep hb; replace HB := Lib.hid (below_tr HB.out hb); clear hb hle)
      | ((with_reducible refine at_slot 17 ?_); refine wl_call rfl rfl Try.func21 (by kernel_rfl) rfl (lives8 _) rfl ?_; intro V1 hb; replace k1 := k1.keep hb; replace k2 := k2.keep hb; replace k3 := k3.keep hb; replace HB := Lib.hid (below_tr HB.out hb); clear hb)
      | ((with_reducible refine at_slot 20 ?_); refine wl_ld0 rfl rfl rfl k1 Try.underlying30 rfl ceInfo ?_)
      | ((with_reducible refine at_slot 21 ?_); refine wl_ld0 rfl rfl rfl k2 Try.underlying30 rfl ceInfo ?_)
      | ((with_reducible refine at_slot 22 ?_); refine wl_call rfl rfl Try.func22 (by kernel_rfl) rfl (me_is OA.out.in OB.out.in HE.out HX.out _) rfl ?_; intro V2 hb; replace k1 := k1.keep hb; replace k2 := k2.keep hb; replace k3 := k3.keep hb; replace HB := Lib.hid (below_tr HB.out hb); clear hb)
      | ((with_reducible refine at_slot 7 ?_); refine wl_alloc (A := (ceA zeroCe)) rfl rfl ce_zero rfl ?_; intro W4 g4 k4 hb hle; have n1_4 := Lib.hid (Blk.ne_of_le k1 hle); have n2_4 := Lib.hid (Blk.ne_of_le k2 hle); have n3_4 := Lib.hid (Blk.ne_of_le k3 hle); have L4 := Lib.hid (Nat.le_trans HB.out.size hle); replace k1 := k1.keep hb; replace k2 := k2.keep hb; replace k3 := k3.keep hb; replace HB := Lib.hid (below_tr HB.out hb); clear hb hle)
      | ((with_reducible refine at_store 7 ?_); refine wl_st0 (A' := (ceA x)) rfl rfl rfl rfl k4 rfl ceInfo (ceA_one x) ?_; intro V3 kn hu; replace k1 := k1.upd hu n1_4.out; replace k2 := k2.upd hu n2_4.out; replace k3 := k3.upd hu n3_4.out; replace HB := Lib.hid (upd_below HB.out hu L4.out); clear k4; have k4 : Blk _ g4 _ (ceA x) := kn; clear kn hu)
      | ((with_reducible refine at_slot 31 ?_); refine wl_build (v := .agg (ceA zeroCe)) rfl rfl (build_ce0 _) rfl ?_)
      | ((with_reducible refine at_slot 32 ?_); refine wl_ld0 rfl rfl rfl k1 Try.underlying30 rfl ceInfo ?_)
      | ((with_reducible refine at_slot 33 ?_); refine wl_call rfl rfl Try.func22 (by kernel_rfl) rfl (me_is zeroOk.in OA.out.in HZ.out.2 HZ.out.1 _) rfl ?_; intro V4 hb; replace k1 := k1.keep hb; replace k2 := k2.keep hb; replace k3 := k3.keep hb; replace k4 := k4.keep hb; replace HB := Lib.hid (below_tr HB.out hb); clear hb)
      | ((with_reducible refine at_slot 9 ?_); refine wl_alloc (A := (ceA zeroCe)) rfl rfl ce_zero rfl ?_; intro W5 g5 k5 hb hle; have n1_5 := Lib.hid (Blk.ne_of_le k1 hle); have n2_5 := Lib.hid (Blk.ne_of_le k2 hle); have n3_5 := Lib.hid (Blk.ne_of_le k3 hle); have n4_5 := Lib.hid (Blk.ne_of_le k4 hle); have L5 := Lib.hid (Nat.le_trans HB.out.size hle); replace k1 := k1.keep hb; replace k2 := k2.keep hb; replace k3 := k3.keep hb; replace k4 := k4.keep hb; replace HB := Lib.hid (below_tr HB.out hb); clear hb hle)
      | ((with_reducible refine at_store 9 ?_); refine wl_st0 (A' := (ceA a)) rfl rfl rfl rfl k5 rfl ceInfo (ceA_one a) ?_; intro V5 kn hu; replace k1 := k1.upd hu n1_5.out; replace k2 := k2.upd hu n2_5.out; replace k3 := k3.upd hu n3_5.out; replace k4 := k4.upd hu n4_5.out; replace HB := Lib.hid (upd_below HB.out hu L5.out); clear k5; have k5 : Blk _ g5 _ (ceA a) := kn; clear kn hu)
      | ((with_reducible refine at_slot 36 ?_); refine wl_ld0 rfl rfl rfl k4 Try.underlying30 rfl ceInfo ?_)
      | ((with_reducible refine at_slot 37 ?_); refine wl_call rfl rfl Try.func28 (by kernel_rfl) rfl (ck_yes OX.out.in OX.out _) rfl ?_; intro V6 hb; replace k1 := k1.keep hb; replace k2 := k2.keep hb; replace k3 := k3.keep hb; replace k4 := k4.keep hb; replace k5 := k5.keep hb; replace HB := Lib.hid (below_tr HB.out hb); clear hb)
      | ((with_reducible refine at_slot 44 ?_); refine wl_ld0 rfl rfl rfl k5 Try.underlying30 rfl ceInfo ?_)
      | ((with_reducible refine at_slot 45 ?_); refine wl_ld0 rfl rfl rfl k1 Try.underlying30 rfl ceInfo ?_)
      | ((with_reducible refine at_slot 46 ?_); refine wl_bin (v := .bool false) rfl rfl (run_eqGuard_agg _ _ _ _ _ _ _ (by kernel_rfl)) (ce_neq_no rfl _) ?_)
      | ((with_reducible refine at_slot 50 ?_); refine wl_ld1 (v := .int .i64 x.n) rfl rfl rfl k4 Try.underlying2 rfl rfl ?_)
      | ((with_reducible refine at_slot 52 ?_); refine wl_ld1 (v := .int .i64 a.n) rfl rfl rfl k1 Try.underlying2 rfl rfl ?_)
      | ((with_reducible refine at_slot 54 ?_); refine wl_ld1 (v := .int .i64 b.n) rfl rfl rfl k2 Try.underlying2 rfl rfl ?_)
      | ((with_reducible refine at_slot 59 ?_); refine wl_ld0 rfl rfl rfl k2 Try.underlying30 rfl ceInfo ?_)
      | ((with_reducible refine at_slot 60 ?_); refine wl_ld0 rfl rfl rfl k3 Try.underlying30 rfl ceInfo ?_)
      | ((with_reducible refine at_slot 61 ?_); refine wl_call rfl rfl Try.func22 (by kernel_rfl) rfl (me_is OB.out.in IC.out H2.out rfl _) rfl ?_; intro V7 hb; replace k1 := k1.keep hb; replace k2 := k2.keep hb; replace k3 := k3.keep hb; replace k4 := k4.keep hb; replace k5 := k5.keep hb; replace HB := Lib.hid (below_tr HB.out hb); clear hb)
      | ((with_reducible refine at_slot 11 ?_); refine wl_alloc (A := (ceA zeroCe)) rfl rfl ce_zero rfl ?_; intro W6 g6 k6 hb hle; have n1_6 := Lib.hid (Blk.ne_of_le k1 hle); have n2_6 := Lib.hid (Blk.ne_of_le k2 hle); have n3_6 := Lib.hid (Blk.ne_of_le k3 hle); have n4_6 := Lib.hid (Blk.ne_of_le k4 hle); have n5_6 := Lib.hid (Blk.ne_of_le k5 hle); have L6 := Lib.hid (Nat.le_trans HB.out.size hle); replace k1 := k1.keep hb; replace k2 := k2.keep hb; replace k3 := k3.keep hb; replace k4 := k4.keep hb; replace k5 := k5.keep hb; replace HB := Lib.hid (below_tr HB.out hb); clear hb hle)
      | ((with_reducible refine at_store 11 ?_); refine wl_st0 (A' := (ceA (meC b c))) rfl rfl rfl rfl k6 rfl ceInfo (ceA_one (meC b c)) ?_; intro V8 kn hu; replace k1 := k1.upd hu n1_6.out; replace k2 := k2.upd hu n2_6.out; replace k3 := k3.upd hu n3_6.out; replace k4 := k4.upd hu n4_6.out; replace k5 := k5.upd hu n5_6.out; replace HB := Lib.hid (upd_below HB.out hu L6.out); clear k6; have k6 : Blk _ g6 _ (ceA (meC b c)) := kn; clear kn hu))
  go_ret
  exact ⟨rfl, HB.out⟩
set_option maxHeartbeats 4000000 in
set_option maxRecDepth 100000 in
theorem cr3 {a b c : Ce} (hE : meE a b = 0) (h2 : meE b c = 0) (w : World) :
    Calls Try.prog 9 #[.agg (ceA a), .agg (ceA b), .agg (ceA c)] w fun e w' => e = .returned (.bool true) ∧ Below w.heap.size w w' := by
  obtain ⟨oa, ob, _⟩ := meE_ok hE
  have x0 := oa.bd.n0; have x1 := oa.bd.n1; have y0 := ob.bd.n0; have y1 := ob.bd.n1
  obtain ⟨x, hx⟩ : ∃ x, meC a b = x := ⟨_, rfl⟩
  have ox : CeOk x := by rw [← hx]; exact meC_ok a b
  have hn : x.n = a.n + b.n := by rw [← hx]; exact me_count hE
  have HZ := Lib.hid (meC_zero oa)
  have oc := (meE_ok h2).2.1
  have hms := me_assoc hE h2
  rw [hx] at hms
  obtain ⟨E1, hE1⟩ : ∃ E1, meE x c = E1 := ⟨_, rfl⟩
  obtain ⟨C1, hC1⟩ : ∃ C1, meC x c = C1 := ⟨_, rfl⟩
  obtain ⟨y, hy⟩ : ∃ y, meC b c = y := ⟨_, rfl⟩
  have oy : CeOk y := by rw [← hy]; exact meC_ok b c
  rw [hE1, hC1, hy] at hms
  have HE := Lib.hid hE
  have HX := Lib.hid hx
  have OA := Lib.hid oa
  have OB := Lib.hid ob
  have OX := Lib.hid ox
  have H2 := Lib.hid h2
  have OC := Lib.hid oc
  have HMS := Lib.hid hms
  have HE1 := Lib.hid hE1
  have HC1 := Lib.hid hC1
  have HY := Lib.hid hy
  have OY := Lib.hid oy
  clear hE hx oa ob ox h2 oc hms hE1 hC1 hy oy
  have HB := Lib.hid (Below.refl w.heap.size w)
  go_enter Try.func9, Try.ntmps9
  go_wp2_with (first
      | ((with_reducible refine at_slot 3 ?_); refine wl_box (A := (ceA a)) rfl rfl rfl ?_; intro W1 g1 k1 hb hle; have L1 := Lib.hid (Nat.le_trans HB.out.size hle); replace HB := Lib.hid (below_tr HB.out hb); clear hb hle)
      | ((with_reducible refine at_slot 4 ?_); refine wl_box (A := (ceA b)) rfl rfl rfl ?_; intro W2 g2 k2 hb hle; have n1_2 := Lib.hid (Blk.ne_of_le k1 hle); have L2 := Lib.hid (Nat.le_trans HB.out.size hle); replace k1 := k1.keep hb; replace HB := Lib.hid (below_tr HB.out hb); clear hb hle)
      | ((with_reducible refine at_slot 5 ?_); refine wl_box (A := (ceA c)) rfl rfl rfl ?_; intro W3 g3 k3 hb hle; have n1_3 := Lib.hid (Blk.ne_of_le k1 hle); have n2_3 := Lib.hid (Blk.ne_of_le k2 hle); have L3 := Lib.hid (Nat.le_trans HB.out.size hle); replace k1 := k1.keep hb; replace k2 := k2.keep hb; replace HB := Lib.hid (below_tr HB.out hb); clear hb hle)
      | ((with_reducible refine at_slot 17 ?_); refine wl_call rfl rfl Try.func21 (by kernel_rfl) rfl (lives8 _) rfl ?_; intro V1 hb; replace k1 := k1.keep hb; replace k2 := k2.keep hb; replace k3 := k3.keep hb; replace HB := Lib.hid (below_tr HB.out hb); clear hb)
      | ((with_reducible refine at_slot 20 ?_); refine wl_ld0 rfl rfl rfl k1 Try.underlying30 rfl ceInfo ?_)
      | ((with_reducible refine at_slot 21 ?_); refine wl_ld0 rfl rfl rfl k2 Try.underlying30 rfl ceInfo ?_)
      | ((with_reducible refine at_slot 22 ?_); refine wl_call rfl rfl Try.func22 (by kernel_rfl) rfl (me_is OA.out.in OB.out.in HE.out HX.out _) rfl ?_; intro V2 hb; replace k1 := k1.keep hb; replace k2 := k2.keep hb; replace k3 := k3.keep hb; replace HB := Lib.hid (below_tr HB.out hb); clear hb)
      | ((with_reducible refine at_slot 7 ?_); refine wl_alloc (A := (ceA zeroCe)) rfl rfl ce_zero rfl ?_; intro W4 g4 k4 hb hle; have n1_4 := Lib.hid (Blk.ne_of_le k1 hle); have n2_4 := Lib.hid (Blk.ne_of_le k2 hle); have n3_4 := Lib.hid (Blk.ne_of_le k3 hle); have L4 := Lib.hid (Nat.le_trans HB.out.size hle); replace k1 := k1.keep hb; replace k2 := k2.keep hb; replace k3 := k3.keep hb; replace HB := Lib.hid (below_tr HB.out hb); clear hb hle)
      | ((with_reducible refine at_store 7 ?_); refine wl_st0 (A' := (ceA x)) rfl rfl rfl rfl k4 rfl ceInfo (ceA_one x) ?_; intro V3 kn hu; replace k1 := k1.upd hu n1_4.out; replace k2 := k2.upd hu n2_4.out; replace k3 := k3.upd hu n3_4.out; replace HB := Lib.hid (upd_below HB.out hu L4.out); clear k4; have k4 : Blk _ g4 _ (ceA x) := kn; clear kn hu)
      | ((with_reducible refine at_slot 31 ?_); refine wl_build (v := .agg (ceA zeroCe)) rfl rfl (build_ce0 _) rfl ?_)
      | ((with_reducible refine at_slot 32 ?_); refine wl_ld0 rfl rfl rfl k1 Try.underlying30 rfl ceInfo ?_)
      | ((with_reducible refine at_slot 33 ?_); refine wl_call rfl rfl Try.func22 (by kernel_rfl) rfl (me_is zeroOk.in OA.out.in HZ.out.2 HZ.out.1 _) rfl ?_; intro V4 hb; replace k1 := k1.keep hb; replace k2 := k2.keep hb; replace k3 := k3.keep hb; replace k4 := k4.keep hb; replace HB := Lib.hid (below_tr HB.out hb); clear hb)
      | ((with_reducible refine at_slot 9 ?_); refine wl_alloc (A := (ceA zeroCe)) rfl rfl ce_zero rfl ?_; intro W5 g5 k5 hb hle; have n1_5 := Lib.hid (Blk.ne_of_le k1 hle); have n2_5 := Lib.hid (Blk.ne_of_le k2 hle); have n3_5 := Lib.hid (Blk.ne_of_le k3 hle); have n4_5 := Lib.hid (Blk.ne_of_le k4 hle); have L5 := Lib.hid (Nat.le_trans HB.out.size hle); replace k1 := k1.keep hb; replace k2 := k2.keep hb; replace k3 := k3.keep hb; replace k4 := k4.keep hb; replace HB := Lib.hid (below_tr HB.out hb); clear hb hle)
      | ((with_reducible refine at_store 9 ?_); refine wl_st0 (A' := (ceA a)) rfl rfl rfl rfl k5 rfl ceInfo (ceA_one a) ?_; intro V5 kn hu; replace k1 := k1.upd hu n1_5.out; replace k2 := k2.upd hu n2_5.out; replace k3 := k3.upd hu n3_5.out; replace k4 := k4.upd hu n4_5.out; replace HB := Lib.hid (upd_below HB.out hu L5.out); clear k5; have k5 : Blk _ g5 _ (ceA a) := kn; clear kn hu)
      | ((with_reducible refine at_slot 36 ?_); refine wl_ld0 rfl rfl rfl k4 Try.underlying30 rfl ceInfo ?_)
      | ((with_reducible refine at_slot 37 ?_); refine wl_call rfl rfl Try.func28 (by kernel_rfl) rfl (ck_yes OX.out.in OX.out _) rfl ?_; intro V6 hb; replace k1 := k1.keep hb; replace k2 := k2.keep hb; replace k3 := k3.keep hb; replace k4 := k4.keep hb; replace k5 := k5.keep hb; replace HB := Lib.hid (below_tr HB.out hb); clear hb)
      | ((with_reducible refine at_slot 44 ?_); refine wl_ld0 rfl rfl rfl k5 Try.underlying30 rfl ceInfo ?_)
      | ((with_reducible refine at_slot 45 ?_); refine wl_ld0 rfl rfl rfl k1 Try.underlying30 rfl ceInfo ?_)
      | ((with_reducible refine at_slot 46 ?_); refine wl_bin (v := .bool false) rfl rfl (run_eqGuard_agg _ _ _ _ _ _ _ (by kernel_rfl)) (ce_neq_no rfl _) ?_)
      | ((with_reducible refine at_slot 50 ?_); refine wl_ld1 (v := .int .i64 x.n) rfl rfl rfl k4 Try.underlying2 rfl rfl ?_)
      | ((with_reducible refine at_slot 52 ?_); refine wl_ld1 (v := .int .i64 a.n) rfl rfl rfl k1 Try.underlying2 rfl rfl ?_)
      | ((with_reducible refine at_slot 54 ?_); refine wl_ld1 (v := .int .i64 b.n) rfl rfl rfl k2 Try.underlying2 rfl rfl ?_)
      | ((with_reducible refine at_slot 59 ?_); refine wl_ld0 rfl rfl rfl k2 Try.underlying30 rfl ceInfo ?_)
      | ((with_reducible refine at_slot 60 ?_); refine wl_ld0 rfl rfl rfl k3 Try.underlying30 rfl ceInfo ?_)
      | ((with_reducible refine at_slot 61 ?_); refine wl_call rfl rfl Try.func22 (by kernel_rfl) rfl (me_is OB.out.in OC.out.in H2.out HY.out _) rfl ?_; intro V7 hb; replace k1 := k1.keep hb; replace k2 := k2.keep hb; replace k3 := k3.keep hb; replace k4 := k4.keep hb; replace k5 := k5.keep hb; replace HB := Lib.hid (below_tr HB.out hb); clear hb)
      | ((with_reducible refine at_slot 11 ?_); refine wl_alloc (A := (ceA zeroCe)) rfl rfl ce_zero rfl ?_; intro W6 g6 k6 hb hle; have n1_6 := Lib.hid (Blk.ne_of_le k1 hle); have n2_6 := Lib.hid (Blk.ne_of_le k2 hle); have n3_6 := Lib.hid (Blk.ne_of_le k3 hle); have n4_6 := Lib.hid (Blk.ne_of_le k4 hle); have n5_6 := Lib.hid (Blk.ne_of_le k5 hle); have L6 := Lib.hid (Nat.le_trans HB.out.size hle); replace k1 := k1.keep hb; replace k2 := k2.keep hb; replace k3 := k3.keep hb; replace k4 := k4.keep hb; replace k5 := k5.keep hb; replace HB := Lib.hid (below_tr HB.out hb); clear hb hle)
      | ((with_reducible refine at_store 11 ?_); refine wl_st0 (A' := (ceA y)) rfl rfl rfl rfl k6 rfl ceInfo (ceA_one y) ?_; intro V8 kn hu; replace k1 := k1.upd hu n1_6.out; replace k2 := k2.upd hu n2_6.out; replace k3 := k3.upd hu n3_6.out; replace k4 := k4.upd hu n4_6.out; replace k5 := k5.upd hu n5_6.out; replace HB := Lib.hid (upd_below HB.out hu L6.out); clear k6; have k6 : Blk _ g6 _ (ceA y) := kn; clear kn hu)
      | ((with_reducible refine at_slot 67 ?_); refine wl_ld0 rfl rfl rfl k4 Try.underlying30 rfl ceInfo ?_)
      | ((with_reducible refine at_slot 68 ?_); refine wl_ld0 rfl rfl rfl k3 Try.underlying30 rfl ceInfo ?_)
      | ((with_reducible refine at_slot 69 ?_); refine wl_call rfl rfl Try.func22 (by kernel_rfl) rfl (me_is OX.out.in OC.out.in HE1.out HC1.out _) rfl ?_; intro V9 hb; replace k1 := k1.keep hb; replace k2 := k2.keep hb; replace k3 := k3.keep hb; replace k4 := k4.keep hb; replace k5 := k5.keep hb; replace k6 := k6.keep hb; replace HB := Lib.hid (below_tr HB.out hb); clear hb)
      | ((with_reducible refine at_slot 13 ?_); refine wl_alloc (A := (ceA zeroCe)) rfl rfl ce_zero rfl ?_; intro W7 g7 k7 hb hle; have n1_7 := Lib.hid (Blk.ne_of_le k1 hle); have n2_7 := Lib.hid (Blk.ne_of_le k2 hle); have n3_7 := Lib.hid (Blk.ne_of_le k3 hle); have n4_7 := Lib.hid (Blk.ne_of_le k4 hle); have n5_7 := Lib.hid (Blk.ne_of_le k5 hle); have n6_7 := Lib.hid (Blk.ne_of_le k6 hle); have L7 := Lib.hid (Nat.le_trans HB.out.size hle); replace k1 := k1.keep hb; replace k2 := k2.keep hb; replace k3 := k3.keep hb; replace k4 := k4.keep hb; replace k5 := k5.keep hb; replace k6 := k6.keep hb; replace HB := Lib.hid (below_tr HB.out hb); clear hb hle)
      | ((with_reducible refine at_store 13 ?_); refine wl_st0 (A' := (ceA C1)) rfl rfl rfl rfl k7 rfl ceInfo (ceA_one C1) ?_; intro V10 kn hu; replace k1 := k1.upd hu n1_7.out; replace k2 := k2.upd hu n2_7.out; replace k3 := k3.upd hu n3_7.out; replace k4 := k4.upd hu n4_7.out; replace k5 := k5.upd hu n5_7.out; replace k6 := k6.upd hu n6_7.out; replace HB := Lib.hid (upd_below HB.out hu L7.out); clear k7; have k7 : Blk _ g7 _ (ceA C1) := kn; clear kn hu)
      | ((with_reducible refine at_slot 73 ?_); refine wl_ld0 rfl rfl rfl k1 Try.underlying30 rfl ceInfo ?_)
      | ((with_reducible refine at_slot 74 ?_); refine wl_ld0 rfl rfl rfl k6 Try.underlying30 rfl ceInfo ?_)
      | ((with_reducible refine at_slot 75 ?_); refine wl_call rfl rfl Try.func22 (by kernel_rfl) rfl (me_is OA.out.in OY.out.in HMS.out.1.symm HMS.out.2.symm _) rfl ?_; intro V11 hb; replace k1 := k1.keep hb; replace k2 := k2.keep hb; replace k3 := k3.keep hb; replace k4 := k4.keep hb; replace k5 := k5.keep hb; replace k6 := k6.keep hb; replace k7 := k7.keep hb; replace HB := Lib.hid (below_tr HB.out hb); clear hb)
      | ((with_reducible refine at_slot 15 ?_); refine wl_alloc (A := (ceA zeroCe)) rfl rfl ce_zero rfl ?_; intro W8 g8 k8 hb hle; have n1_8 := Lib.hid (Blk.ne_of_le k1 hle); have n2_8 := Lib.hid (Blk.ne_of_le k2 hle); have n3_8 := Lib.hid (Blk.ne_of_le k3 hle); have n4_8 := Lib.hid (Blk.ne_of_le k4 hle); have n5_8 := Lib.hid (Blk.ne_of_le k5 hle); have n6_8 := Lib.hid (Blk.ne_of_le k6 hle); have n7_8 := Lib.hid (Blk.ne_of_le k7 hle); have L8 := Lib.hid (Nat.le_trans HB.out.size hle); replace k1 := k1.keep hb; replace k2 := k2.keep hb; replace k3 := k3.keep hb; replace k4 := k4.keep hb; replace k5 := k5.keep hb; replace k6 := k6.keep hb; replace k7 := k7.keep hb; replace HB := Lib.hid (below_tr HB.out hb); clear hb hle)
      | ((with_reducible refine at_store 15 ?_); refine wl_st0 (A' := (ceA C1)) rfl rfl rfl rfl k8 rfl ceInfo (ceA_one C1) ?_; intro V12 kn hu; replace k1 := k1.upd hu n1_8.out; replace k2 := k2.upd hu n2_8.out; replace k3 := k3.upd hu n3_8.out; replace k4 := k4.upd hu n4_8.out; replace k5 := k5.upd hu n5_8.out; replace k6 := k6.upd hu n6_8.out; replace k7 := k7.upd hu n7_8.out; replace HB := Lib.hid (upd_below HB.out hu L8.out); clear k8; have k8 : Blk _ g8 _ (ceA C1) := kn; clear kn hu)
      | ((with_reducible refine at_slot 82 ?_); refine wl_ld0 rfl rfl rfl k7 Try.underlying30 rfl ceInfo ?_)
      | ((with_reducible refine at_slot 83 ?_); refine wl_ld0 rfl rfl rfl k8 Try.underlying30 rfl ceInfo ?_)
      | ((with_reducible refine at_slot 84 ?_); refine wl_bin (v := .bool true) rfl rfl (run_eqGuard_agg _ _ _ _ _ _ _ (by kernel_rfl)) (ce_eql_yes rfl _) ?_))
  go_ret
  exact ⟨rfl, HB.out⟩
theorem cr_any {a b c : Ce} (ia : CeIn a) (ib : CeIn b) (ic : CeIn c) (w : World) :
    Calls Try.prog 9 #[.agg (ceA a), .agg (ceA b), .agg (ceA c)] w fun e w' => e = .returned (.bool true) ∧ Below w.heap.size w w' := by
  by_cases h1 : meE a b = 0
  · by_cases h2 : meE b c = 0
    · exact cr3 h1 h2 w
    · exact cr2 ic h1 rfl h2 w
  · exact cr1 ia ib rfl h1 (meE_no h1) w
end Go.Proofs.Ytgijejdehenmpaa
