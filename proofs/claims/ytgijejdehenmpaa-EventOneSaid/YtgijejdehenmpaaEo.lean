/-
  THE LAW plimsolllaw07.EventOne: the walk: it answers true, of any two events.
-/
import Derived.Test.YtgijejdehenmpaaL7
namespace Go.Proofs.Ytgijejdehenmpaa
open Go Go.RowKit

set_option maxHeartbeats 4000000 in
set_option maxRecDepth 100000 in
theorem eone_no {p c : Ev} {E : Int} (ip : EvIn p) (ic : EvIn c) (hE : beE p c = E) (hE0 : E ≠ 0) (hC : beC p c = zeroCe) (hF : ¬ Fol p c) (w : World) :
    Calls Try.prog 4 #[.agg (evA p), .agg (evA c)] w fun e w' => e = .returned (.bool true) ∧ Below w.heap.size w w' := by
  have IP := Lib.hid ip
  have IC := Lib.hid ic
  have HE := Lib.hid hE
  have HC := Lib.hid hC
  have HF := Lib.hid hF
  have dE : (E != 0) = true := by simpa using hE0
  clear ip ic hE hC hF hE0
  have HB := Lib.hid (Below.refl w.heap.size w)
  go_enter Try.func4, Try.ntmps4
  go_wp2_with (first
      | ((with_reducible refine at_slot 2 ?_); refine wl_box (A := (evA p)) rfl rfl rfl ?_; intro W1 g1 k1 hb hle; have L1 := Lib.hid (Nat.le_trans HB.out.size hle); replace HB := Lib.hid (below_tr HB.out hb); clear hb hle)
      | ((with_reducible refine at_slot 3 ?_); refine wl_box (A := (evA c)) rfl rfl rfl ?_; intro W2 g2 k2 hb hle; have n1_2 := Lib.hid (Blk.ne_of_le k1 hle); have L2 := Lib.hid (Nat.le_trans HB.out.size hle); replace k1 := k1.keep hb; replace HB := Lib.hid (below_tr HB.out hb); clear hb hle)
      | ((with_reducible refine at_slot 7 ?_); refine wl_call rfl rfl Try.func12 (by kernel_rfl) rfl (lives7 _) rfl ?_; intro V1 hb; replace k1 := k1.keep hb; replace k2 := k2.keep hb; replace HB := Lib.hid (below_tr HB.out hb); clear hb)
      | ((with_reducible refine at_slot 10 ?_); refine wl_ld0 rfl rfl rfl k1 Try.underlying24 rfl evInfo ?_)
      | ((with_reducible refine at_slot 11 ?_); refine wl_ld0 rfl rfl rfl k2 Try.underlying24 rfl evInfo ?_)
      | ((with_reducible refine at_slot 12 ?_); refine wl_call rfl rfl Try.func13 (by kernel_rfl) rfl (be_is IP.out IC.out HE.out HC.out _) rfl ?_; intro V2 hb; replace k1 := k1.keep hb; replace k2 := k2.keep hb; replace HB := Lib.hid (below_tr HB.out hb); clear hb)
      | ((with_reducible refine at_slot 5 ?_); refine wl_alloc (A := (ceA zeroCe)) rfl rfl ce_zero rfl ?_; intro W3 g3 k3 hb hle; have n1_3 := Lib.hid (Blk.ne_of_le k1 hle); have n2_3 := Lib.hid (Blk.ne_of_le k2 hle); have L3 := Lib.hid (Nat.le_trans HB.out.size hle); replace k1 := k1.keep hb; replace k2 := k2.keep hb; replace HB := Lib.hid (below_tr HB.out hb); clear hb hle)
      | ((with_reducible refine at_store 5 ?_); refine wl_st0 (A' := (ceA zeroCe)) rfl rfl rfl rfl k3 rfl ceInfo (ceA_one zeroCe) ?_; intro V3 kn hu; replace k1 := k1.upd hu n1_3.out; replace k2 := k2.upd hu n2_3.out; replace HB := Lib.hid (upd_below HB.out hu L3.out); clear k3; have k3 : Blk _ g3 _ (ceA zeroCe) := kn; clear kn hu)
      | ((with_reducible refine at_slot 17 ?_); refine wl_ld0 rfl rfl rfl k1 Try.underlying24 rfl evInfo ?_)
      | ((with_reducible refine at_slot 18 ?_); refine wl_ld0 rfl rfl rfl k2 Try.underlying24 rfl evInfo ?_)
      | ((with_reducible refine at_slot 19 ?_); refine wl_call rfl rfl Try.func19 (by kernel_rfl) rfl (fol_no IP.out IC.out HF.out _) rfl ?_; intro V4 hb; replace k1 := k1.keep hb; replace k2 := k2.keep hb; replace k3 := k3.keep hb; replace HB := Lib.hid (below_tr HB.out hb); clear hb)
      | ((with_reducible refine at_slot 22 ?_); refine wl_ld0 rfl rfl rfl k3 Try.underlying30 rfl ceInfo ?_)
      | ((with_reducible refine at_slot 23 ?_); refine wl_build (v := .agg (ceA zeroCe)) rfl rfl (build_ce0 _) rfl ?_)
      | ((with_reducible refine at_slot 24 ?_); refine wl_bin (v := .bool true) rfl rfl (run_eqGuard_agg _ _ _ _ _ _ _ (by kernel_rfl)) (ce_eql_yes rfl _) ?_))
  go_ret
  exact ⟨rfl, HB.out⟩
set_option maxHeartbeats 4000000 in
set_option maxRecDepth 100000 in
theorem eone_stale {p c : Ev} (hp : EvOk p) (hc : EvOk c) (hlt : p.t < c.t) (hs : c.s = true) (w : World) :
    Calls Try.prog 4 #[.agg (evA p), .agg (evA c)] w fun e w' => e = .returned (.bool true) ∧ Below w.heap.size w w' := by
  have p0 := hp.t0; have p1 := hp.t1; have p2 := hp.v0; have p3 := hp.v1; have p4 := hp.c0; have p5 := hp.c1
  have c0 := hc.t0; have c1 := hc.t1; have c2 := hc.v0; have c3 := hc.v1; have c4 := hc.c0; have c5 := hc.c1
  have HLT := Lib.hid hlt
  obtain ⟨I, hI⟩ : ∃ I, I = btU p c := ⟨_, rfl⟩
  have hC : btC p c = ⟨0, zeroEv, zeroEv, I, 0, 0, 0⟩ := by
    rw [hI]
    have e1 : btR p c = 0 := by simp [btR, hs]
    have e2 : btG p c = 0 := by simp [btG, hs]
    have e3 : btS p c = 0 := by simp [btS, hs]
    show Ce.mk _ _ _ _ _ _ _ = _
    rw [e1, e2, e3]
  have BE : Hid (∀ w, Calls Try.prog 13 #[.agg (evA p), .agg (evA c)] w fun e w' => e = .returned (.tuple #[.agg (ceA ⟨0, zeroEv, zeroEv, I, 0, 0, 0⟩), .int .i64 0]) ∧ Below w.heap.size w w') := Lib.hid (fun w => by
    have := be_good hp hc hlt w
    rwa [hC] at this)
  have f1 : hiZ I = 0 := by rw [hI]; exact btU_hi hp hc
  have f2 : loZ I = 0 := by rw [hI, btU_lo hp hc]; simp [btI, hs]
  have d1 : decide (c.t - p.t < 0) = false := by simp <;> omega
  have d3 : decide (c.v < 0) = false := by simp <;> omega
  have hz : (⟨0, zeroEv, zeroEv, I, 0, 0, 0⟩ : Ce) = zeroCe := by
    have : I = U.zero := U.halves_inj f1 f2
    rw [this]; rfl
  have HZ := Lib.hid hz
  clear hz
  clear hp hc hI hC hlt
  have HB := Lib.hid (Below.refl w.heap.size w)
  go_enter Try.func4, Try.ntmps4
  go_wp2_with (first
      | ((with_reducible refine at_slot 2 ?_); refine wl_box (A := (evA p)) rfl rfl rfl ?_; intro W1 g1 k1 hb hle; have L1 := Lib.hid (Nat.le_trans HB.out.size hle); replace HB := Lib.hid (below_tr HB.out hb); clear hb hle)
      | ((with_reducible refine at_slot 3 ?_); refine wl_box (A := (evA c)) rfl rfl rfl ?_; intro W2 g2 k2 hb hle; have n1_2 := Lib.hid (Blk.ne_of_le k1 hle); have L2 := Lib.hid (Nat.le_trans HB.out.size hle); replace k1 := k1.keep hb; replace HB := Lib.hid (below_tr HB.out hb); clear hb hle)
      | ((with_reducible refine at_slot 7 ?_); refine wl_call rfl rfl Try.func12 (by kernel_rfl) rfl (lives7 _) rfl ?_; intro V1 hb; replace k1 := k1.keep hb; replace k2 := k2.keep hb; replace HB := Lib.hid (below_tr HB.out hb); clear hb)
      | ((with_reducible refine at_slot 10 ?_); refine wl_ld0 rfl rfl rfl k1 Try.underlying24 rfl evInfo ?_)
      | ((with_reducible refine at_slot 11 ?_); refine wl_ld0 rfl rfl rfl k2 Try.underlying24 rfl evInfo ?_)
      | ((with_reducible refine at_slot 12 ?_); refine wl_call rfl rfl Try.func13 (by kernel_rfl) rfl (BE.out _) rfl ?_; intro V2 hb; replace k1 := k1.keep hb; replace k2 := k2.keep hb; replace HB := Lib.hid (below_tr HB.out hb); clear hb)
      | ((with_reducible refine at_slot 5 ?_); refine wl_alloc (A := (ceA zeroCe)) rfl rfl ce_zero rfl ?_; intro W3 g3 k3 hb hle; have n1_3 := Lib.hid (Blk.ne_of_le k1 hle); have n2_3 := Lib.hid (Blk.ne_of_le k2 hle); have L3 := Lib.hid (Nat.le_trans HB.out.size hle); replace k1 := k1.keep hb; replace k2 := k2.keep hb; replace HB := Lib.hid (below_tr HB.out hb); clear hb hle)
      | ((with_reducible refine at_store 5 ?_); refine wl_st0 (A' := (ceA ⟨0, zeroEv, zeroEv, I, 0, 0, 0⟩)) rfl rfl rfl rfl k3 rfl ceInfo (ceA_one ⟨0, zeroEv, zeroEv, I, 0, 0, 0⟩) ?_; intro V3 kn hu; replace k1 := k1.upd hu n1_3.out; replace k2 := k2.upd hu n2_3.out; replace HB := Lib.hid (upd_below HB.out hu L3.out); clear k3; have k3 : Blk _ g3 _ (ceA ⟨0, zeroEv, zeroEv, I, 0, 0, 0⟩) := kn; clear kn hu)
      | ((with_reducible refine at_slot 27 ?_); refine wl_ld1 (v := .int .i64 0) rfl rfl rfl k3 Try.underlying2 rfl rfl ?_)
      | ((with_reducible refine at_slot 31 ?_); refine wl_ld1 (v := .int .i64 0) rfl rfl rfl k3 Try.underlying2 rfl rfl ?_)
      | ((with_reducible refine at_slot 36 ?_); refine wl_ld1 (v := .int .i64 0) rfl rfl rfl k3 Try.underlying2 rfl rfl ?_)
      | ((with_reducible refine at_slot 41 ?_); refine wl_ld1 (v := .int .i64 0) rfl rfl rfl k3 Try.underlying2 rfl rfl ?_)
      | ((with_reducible refine at_slot 43 ?_); refine wl_ld1 (v := .int .i64 0) rfl rfl rfl k3 Try.underlying2 rfl rfl ?_)
      | ((with_reducible refine at_slot 49 ?_); refine wl_ld1 (v := .int .i64 0) rfl rfl rfl k3 Try.underlying2 rfl rfl ?_)
      | ((with_reducible refine at_slot 54 ?_); refine wl_ld1 (v := .int .i64 0) rfl rfl rfl k3 Try.underlying2 rfl rfl ?_)
      | ((with_reducible refine at_slot 56 ?_); refine wl_ld1 (v := .int .i64 c.t) rfl rfl rfl k2 Try.underlying2 rfl rfl ?_)
      | ((with_reducible refine at_slot 58 ?_); refine wl_ld1 (v := .int .i64 p.t) rfl rfl rfl k1 Try.underlying2 rfl rfl ?_)
      | ((with_reducible refine at_slot 65 ?_); refine wl_ld1 (v := .int .u64 (hiZ I)) rfl rfl rfl k3 Try.underlying22 rfl rfl ?_)
      | ((with_reducible refine at_slot 71 ?_); refine wl_ld1 (v := .int .u64 (loZ I)) rfl rfl rfl k3 Try.underlying22 rfl rfl ?_)
      | ((with_reducible refine at_slot 73 ?_); refine wl_ld1 (v := .int .u64 c.v) rfl rfl rfl k2 Try.underlying22 rfl rfl ?_)
      | ((with_reducible refine at_slot 78 ?_); refine wl_ld1 (v := .bool c.s) rfl rfl rfl k2 Try.underlying4 rfl rfl ?_)
      | ((with_reducible refine at_slot 79 ?_); refine wl_ld0 rfl rfl rfl k3 Try.underlying30 rfl ceInfo ?_)
      | ((with_reducible refine at_slot 80 ?_); refine wl_build (v := .agg (ceA zeroCe)) rfl rfl (build_ce0 _) rfl ?_)
      | ((with_reducible refine at_slot 81 ?_); refine wl_bin (v := .bool true) rfl rfl (run_eqGuard_agg _ _ _ _ _ _ _ (by kernel_rfl)) (ce_eql_yes HZ.out _) ?_))
  go_ret
  exact ⟨rfl, HB.out⟩
set_option maxHeartbeats 4000000 in
set_option maxRecDepth 100000 in
theorem eone_made1 {p c : Ev} (hp : EvOk p) (hc : EvOk c) (hlt : p.t < c.t) (hs : c.s = false) (h2 : p.t < c.c) (h4 : c.v < p.v) (w : World) :
    Calls Try.prog 4 #[.agg (evA p), .agg (evA c)] w fun e w' => e = .returned (.bool true) ∧ Below w.heap.size w w' := by
  have p0 := hp.t0; have p1 := hp.t1; have p2 := hp.v0; have p3 := hp.v1; have p4 := hp.c0; have p5 := hp.c1
  have c0 := hc.t0; have c1 := hc.t1; have c2 := hc.v0; have c3 := hc.v1; have c4 := hc.c0; have c5 := hc.c1
  have HLT := Lib.hid hlt
  obtain ⟨I, hI⟩ : ∃ I, I = btU p c := ⟨_, rfl⟩
  have hC : btC p c = ⟨0, zeroEv, zeroEv, I, 1, 0, (c.t - c.c)⟩ := by
    rw [hI]
    have e1 : btR p c = 1 := by simp [btR, hs, h2]
    have e2 : btG p c = 0 := by simp [btG, hs, h2]
    have e3 : btS p c = (c.t - c.c) := by simp [btS, hs, h2]
    show Ce.mk _ _ _ _ _ _ _ = _
    rw [e1, e2, e3]
  have BE : Hid (∀ w, Calls Try.prog 13 #[.agg (evA p), .agg (evA c)] w fun e w' => e = .returned (.tuple #[.agg (ceA ⟨0, zeroEv, zeroEv, I, 1, 0, (c.t - c.c)⟩), .int .i64 0]) ∧ Below w.heap.size w w') := Lib.hid (fun w => by
    have := be_good hp hc hlt w
    rwa [hC] at this)
  have f1 : hiZ I = 0 := by rw [hI]; exact btU_hi hp hc
  have f2 : loZ I = c.v := by rw [hI, btU_lo hp hc]; simp [btI, hs, h2]
  have d1 : decide (c.t - p.t < c.t - c.c) = false := by simp <;> omega
  have d2 : decide (c.t - c.c < 0) = false := by simp <;> omega
  have d3 : decide (c.v < c.v) = false := by simp <;> omega
  have d5 : decide (c.v < p.v) = true := by simp <;> omega
  have d6 : decide (p.t < c.c) = true := by simp <;> omega
  have d7 : decide (c.c < p.t) = false := by simp <;> omega
  clear hp hc hI hC hlt
  have HB := Lib.hid (Below.refl w.heap.size w)
  go_enter Try.func4, Try.ntmps4
  go_wp2_with (first
      | ((with_reducible refine at_slot 2 ?_); refine wl_box (A := (evA p)) rfl rfl rfl ?_; intro W1 g1 k1 hb hle; have L1 := Lib.hid (Nat.le_trans HB.out.size hle); replace HB := Lib.hid (below_tr HB.out hb); clear hb hle)
      | ((with_reducible refine at_slot 3 ?_); refine wl_box (A := (evA c)) rfl rfl rfl ?_; intro W2 g2 k2 hb hle; have n1_2 := Lib.hid (Blk.ne_of_le k1 hle); have L2 := Lib.hid (Nat.le_trans HB.out.size hle); replace k1 := k1.keep hb; replace HB := Lib.hid (below_tr HB.out hb); clear hb hle)
      | ((with_reducible refine at_slot 7 ?_); refine wl_call rfl rfl Try.func12 (by kernel_rfl) rfl (lives7 _) rfl ?_; intro V1 hb; replace k1 := k1.keep hb; replace k2 := k2.keep hb; replace HB := Lib.hid (below_tr HB.out hb); clear hb)
      | ((with_reducible refine at_slot 10 ?_); refine wl_ld0 rfl rfl rfl k1 Try.underlying24 rfl evInfo ?_)
      | ((with_reducible refine at_slot 11 ?_); refine wl_ld0 rfl rfl rfl k2 Try.underlying24 rfl evInfo ?_)
      | ((with_reducible refine at_slot 12 ?_); refine wl_call rfl rfl Try.func13 (by kernel_rfl) rfl (BE.out _) rfl ?_; intro V2 hb; replace k1 := k1.keep hb; replace k2 := k2.keep hb; replace HB := Lib.hid (below_tr HB.out hb); clear hb)
      | ((with_reducible refine at_slot 5 ?_); refine wl_alloc (A := (ceA zeroCe)) rfl rfl ce_zero rfl ?_; intro W3 g3 k3 hb hle; have n1_3 := Lib.hid (Blk.ne_of_le k1 hle); have n2_3 := Lib.hid (Blk.ne_of_le k2 hle); have L3 := Lib.hid (Nat.le_trans HB.out.size hle); replace k1 := k1.keep hb; replace k2 := k2.keep hb; replace HB := Lib.hid (below_tr HB.out hb); clear hb hle)
      | ((with_reducible refine at_store 5 ?_); refine wl_st0 (A' := (ceA ⟨0, zeroEv, zeroEv, I, 1, 0, (c.t - c.c)⟩)) rfl rfl rfl rfl k3 rfl ceInfo (ceA_one ⟨0, zeroEv, zeroEv, I, 1, 0, (c.t - c.c)⟩) ?_; intro V3 kn hu; replace k1 := k1.upd hu n1_3.out; replace k2 := k2.upd hu n2_3.out; replace HB := Lib.hid (upd_below HB.out hu L3.out); clear k3; have k3 : Blk _ g3 _ (ceA ⟨0, zeroEv, zeroEv, I, 1, 0, (c.t - c.c)⟩) := kn; clear kn hu)
      | ((with_reducible refine at_slot 27 ?_); refine wl_ld1 (v := .int .i64 0) rfl rfl rfl k3 Try.underlying2 rfl rfl ?_)
      | ((with_reducible refine at_slot 31 ?_); refine wl_ld1 (v := .int .i64 1) rfl rfl rfl k3 Try.underlying2 rfl rfl ?_)
      | ((with_reducible refine at_slot 36 ?_); refine wl_ld1 (v := .int .i64 0) rfl rfl rfl k3 Try.underlying2 rfl rfl ?_)
      | ((with_reducible refine at_slot 41 ?_); refine wl_ld1 (v := .int .i64 1) rfl rfl rfl k3 Try.underlying2 rfl rfl ?_)
      | ((with_reducible refine at_slot 43 ?_); refine wl_ld1 (v := .int .i64 0) rfl rfl rfl k3 Try.underlying2 rfl rfl ?_)
      | ((with_reducible refine at_slot 49 ?_); refine wl_ld1 (v := .int .i64 (c.t - c.c)) rfl rfl rfl k3 Try.underlying2 rfl rfl ?_)
      | ((with_reducible refine at_slot 54 ?_); refine wl_ld1 (v := .int .i64 (c.t - c.c)) rfl rfl rfl k3 Try.underlying2 rfl rfl ?_)
      | ((with_reducible refine at_slot 56 ?_); refine wl_ld1 (v := .int .i64 c.t) rfl rfl rfl k2 Try.underlying2 rfl rfl ?_)
      | ((with_reducible refine at_slot 58 ?_); refine wl_ld1 (v := .int .i64 p.t) rfl rfl rfl k1 Try.underlying2 rfl rfl ?_)
      | ((with_reducible refine at_slot 65 ?_); refine wl_ld1 (v := .int .u64 (hiZ I)) rfl rfl rfl k3 Try.underlying22 rfl rfl ?_)
      | ((with_reducible refine at_slot 71 ?_); refine wl_ld1 (v := .int .u64 (loZ I)) rfl rfl rfl k3 Try.underlying22 rfl rfl ?_)
      | ((with_reducible refine at_slot 73 ?_); refine wl_ld1 (v := .int .u64 c.v) rfl rfl rfl k2 Try.underlying22 rfl rfl ?_)
      | ((with_reducible refine at_slot 78 ?_); refine wl_ld1 (v := .bool c.s) rfl rfl rfl k2 Try.underlying4 rfl rfl ?_)
      | ((with_reducible refine at_slot 84 ?_); refine wl_ld1 (v := .int .i64 1) rfl rfl rfl k3 Try.underlying2 rfl rfl ?_)
      | ((with_reducible refine at_slot 88 ?_); refine wl_ld1 (v := .int .u64 (loZ I)) rfl rfl rfl k3 Try.underlying22 rfl rfl ?_)
      | ((with_reducible refine at_slot 90 ?_); refine wl_ld1 (v := .int .u64 c.v) rfl rfl rfl k2 Try.underlying22 rfl rfl ?_)
      | ((with_reducible refine at_slot 94 ?_); refine wl_ld1 (v := .int .u64 c.v) rfl rfl rfl k2 Try.underlying22 rfl rfl ?_)
      | ((with_reducible refine at_slot 96 ?_); refine wl_ld1 (v := .int .u64 p.v) rfl rfl rfl k1 Try.underlying22 rfl rfl ?_)
      | ((with_reducible refine at_slot 100 ?_); refine wl_ld1 (v := .int .i64 c.c) rfl rfl rfl k2 Try.underlying2 rfl rfl ?_)
      | ((with_reducible refine at_slot 102 ?_); refine wl_ld1 (v := .int .i64 p.t) rfl rfl rfl k1 Try.underlying2 rfl rfl ?_))
  go_ret
  exact ⟨rfl, HB.out⟩
set_option maxHeartbeats 4000000 in
set_option maxRecDepth 100000 in
theorem eone_made2 {p c : Ev} (hp : EvOk p) (hc : EvOk c) (hlt : p.t < c.t) (hs : c.s = false) (h2 : p.t < c.c) (h4 : ¬ c.v < p.v) (w : World) :
    Calls Try.prog 4 #[.agg (evA p), .agg (evA c)] w fun e w' => e = .returned (.bool true) ∧ Below w.heap.size w w' := by
  have p0 := hp.t0; have p1 := hp.t1; have p2 := hp.v0; have p3 := hp.v1; have p4 := hp.c0; have p5 := hp.c1
  have c0 := hc.t0; have c1 := hc.t1; have c2 := hc.v0; have c3 := hc.v1; have c4 := hc.c0; have c5 := hc.c1
  have HLT := Lib.hid hlt
  obtain ⟨I, hI⟩ : ∃ I, I = btU p c := ⟨_, rfl⟩
  have hC : btC p c = ⟨0, zeroEv, zeroEv, I, 1, 0, (c.t - c.c)⟩ := by
    rw [hI]
    have e1 : btR p c = 1 := by simp [btR, hs, h2]
    have e2 : btG p c = 0 := by simp [btG, hs, h2]
    have e3 : btS p c = (c.t - c.c) := by simp [btS, hs, h2]
    show Ce.mk _ _ _ _ _ _ _ = _
    rw [e1, e2, e3]
  have BE : Hid (∀ w, Calls Try.prog 13 #[.agg (evA p), .agg (evA c)] w fun e w' => e = .returned (.tuple #[.agg (ceA ⟨0, zeroEv, zeroEv, I, 1, 0, (c.t - c.c)⟩), .int .i64 0]) ∧ Below w.heap.size w w') := Lib.hid (fun w => by
    have := be_good hp hc hlt w
    rwa [hC] at this)
  have f1 : hiZ I = 0 := by rw [hI]; exact btU_hi hp hc
  have f2 : loZ I = c.v := by rw [hI, btU_lo hp hc]; simp [btI, hs, h2]
  have d1 : decide (c.t - p.t < c.t - c.c) = false := by simp <;> omega
  have d2 : decide (c.t - c.c < 0) = false := by simp <;> omega
  have d3 : decide (c.v < c.v) = false := by simp <;> omega
  have d5 : decide (c.v < p.v) = false := by simp <;> omega
  have d6 : decide (p.t < c.c) = true := by simp <;> omega
  have d7 : decide (c.c < p.t) = false := by simp <;> omega
  clear hp hc hI hC hlt
  have HB := Lib.hid (Below.refl w.heap.size w)
  go_enter Try.func4, Try.ntmps4
  go_wp2_with (first
      | ((with_reducible refine at_slot 2 ?_); refine wl_box (A := (evA p)) rfl rfl rfl ?_; intro W1 g1 k1 hb hle; have L1 := Lib.hid (Nat.le_trans HB.out.size hle); replace HB := Lib.hid (below_tr HB.out hb); clear hb hle)
      | ((with_reducible refine at_slot 3 ?_); refine wl_box (A := (evA c)) rfl rfl rfl ?_; intro W2 g2 k2 hb hle; have n1_2 := Lib.hid (Blk.ne_of_le k1 hle); have L2 := Lib.hid (Nat.le_trans HB.out.size hle); replace k1 := k1.keep hb; replace HB := Lib.hid (below_tr HB.out hb); clear hb hle)
      | ((with_reducible refine at_slot 7 ?_); refine wl_call rfl rfl Try.func12 (by kernel_rfl) rfl (lives7 _) rfl ?_; intro V1 hb; replace k1 := k1.keep hb; replace k2 := k2.keep hb; replace HB := Lib.hid (below_tr HB.out hb); clear hb)
      | ((with_reducible refine at_slot 10 ?_); refine wl_ld0 rfl rfl rfl k1 Try.underlying24 rfl evInfo ?_)
      | ((with_reducible refine at_slot 11 ?_); refine wl_ld0 rfl rfl rfl k2 Try.underlying24 rfl evInfo ?_)
      | ((with_reducible refine at_slot 12 ?_); refine wl_call rfl rfl Try.func13 (by kernel_rfl) rfl (BE.out _) rfl ?_; intro V2 hb; replace k1 := k1.keep hb; replace k2 := k2.keep hb; replace HB := Lib.hid (below_tr HB.out hb); clear hb)
      | ((with_reducible refine at_slot 5 ?_); refine wl_alloc (A := (ceA zeroCe)) rfl rfl ce_zero rfl ?_; intro W3 g3 k3 hb hle; have n1_3 := Lib.hid (Blk.ne_of_le k1 hle); have n2_3 := Lib.hid (Blk.ne_of_le k2 hle); have L3 := Lib.hid (Nat.le_trans HB.out.size hle); replace k1 := k1.keep hb; replace k2 := k2.keep hb; replace HB := Lib.hid (below_tr HB.out hb); clear hb hle)
      | ((with_reducible refine at_store 5 ?_); refine wl_st0 (A' := (ceA ⟨0, zeroEv, zeroEv, I, 1, 0, (c.t - c.c)⟩)) rfl rfl rfl rfl k3 rfl ceInfo (ceA_one ⟨0, zeroEv, zeroEv, I, 1, 0, (c.t - c.c)⟩) ?_; intro V3 kn hu; replace k1 := k1.upd hu n1_3.out; replace k2 := k2.upd hu n2_3.out; replace HB := Lib.hid (upd_below HB.out hu L3.out); clear k3; have k3 : Blk _ g3 _ (ceA ⟨0, zeroEv, zeroEv, I, 1, 0, (c.t - c.c)⟩) := kn; clear kn hu)
      | ((with_reducible refine at_slot 27 ?_); refine wl_ld1 (v := .int .i64 0) rfl rfl rfl k3 Try.underlying2 rfl rfl ?_)
      | ((with_reducible refine at_slot 31 ?_); refine wl_ld1 (v := .int .i64 1) rfl rfl rfl k3 Try.underlying2 rfl rfl ?_)
      | ((with_reducible refine at_slot 36 ?_); refine wl_ld1 (v := .int .i64 0) rfl rfl rfl k3 Try.underlying2 rfl rfl ?_)
      | ((with_reducible refine at_slot 41 ?_); refine wl_ld1 (v := .int .i64 1) rfl rfl rfl k3 Try.underlying2 rfl rfl ?_)
      | ((with_reducible refine at_slot 43 ?_); refine wl_ld1 (v := .int .i64 0) rfl rfl rfl k3 Try.underlying2 rfl rfl ?_)
      | ((with_reducible refine at_slot 49 ?_); refine wl_ld1 (v := .int .i64 (c.t - c.c)) rfl rfl rfl k3 Try.underlying2 rfl rfl ?_)
      | ((with_reducible refine at_slot 54 ?_); refine wl_ld1 (v := .int .i64 (c.t - c.c)) rfl rfl rfl k3 Try.underlying2 rfl rfl ?_)
      | ((with_reducible refine at_slot 56 ?_); refine wl_ld1 (v := .int .i64 c.t) rfl rfl rfl k2 Try.underlying2 rfl rfl ?_)
      | ((with_reducible refine at_slot 58 ?_); refine wl_ld1 (v := .int .i64 p.t) rfl rfl rfl k1 Try.underlying2 rfl rfl ?_)
      | ((with_reducible refine at_slot 65 ?_); refine wl_ld1 (v := .int .u64 (hiZ I)) rfl rfl rfl k3 Try.underlying22 rfl rfl ?_)
      | ((with_reducible refine at_slot 71 ?_); refine wl_ld1 (v := .int .u64 (loZ I)) rfl rfl rfl k3 Try.underlying22 rfl rfl ?_)
      | ((with_reducible refine at_slot 73 ?_); refine wl_ld1 (v := .int .u64 c.v) rfl rfl rfl k2 Try.underlying22 rfl rfl ?_)
      | ((with_reducible refine at_slot 78 ?_); refine wl_ld1 (v := .bool c.s) rfl rfl rfl k2 Try.underlying4 rfl rfl ?_)
      | ((with_reducible refine at_slot 84 ?_); refine wl_ld1 (v := .int .i64 1) rfl rfl rfl k3 Try.underlying2 rfl rfl ?_)
      | ((with_reducible refine at_slot 88 ?_); refine wl_ld1 (v := .int .u64 (loZ I)) rfl rfl rfl k3 Try.underlying22 rfl rfl ?_)
      | ((with_reducible refine at_slot 90 ?_); refine wl_ld1 (v := .int .u64 c.v) rfl rfl rfl k2 Try.underlying22 rfl rfl ?_)
      | ((with_reducible refine at_slot 94 ?_); refine wl_ld1 (v := .int .u64 c.v) rfl rfl rfl k2 Try.underlying22 rfl rfl ?_)
      | ((with_reducible refine at_slot 96 ?_); refine wl_ld1 (v := .int .u64 p.v) rfl rfl rfl k1 Try.underlying22 rfl rfl ?_)
      | ((with_reducible refine at_slot 100 ?_); refine wl_ld1 (v := .int .i64 c.c) rfl rfl rfl k2 Try.underlying2 rfl rfl ?_)
      | ((with_reducible refine at_slot 102 ?_); refine wl_ld1 (v := .int .i64 p.t) rfl rfl rfl k1 Try.underlying2 rfl rfl ?_))
  go_ret
  exact ⟨rfl, HB.out⟩
set_option maxHeartbeats 4000000 in
set_option maxRecDepth 100000 in
theorem eone_gap {p c : Ev} (hp : EvOk p) (hc : EvOk c) (hlt : p.t < c.t) (hs : c.s = false) (h2 : ¬ p.t < c.c) (h3 : p.s = true) (w : World) :
    Calls Try.prog 4 #[.agg (evA p), .agg (evA c)] w fun e w' => e = .returned (.bool true) ∧ Below w.heap.size w w' := by
  have p0 := hp.t0; have p1 := hp.t1; have p2 := hp.v0; have p3 := hp.v1; have p4 := hp.c0; have p5 := hp.c1
  have c0 := hc.t0; have c1 := hc.t1; have c2 := hc.v0; have c3 := hc.v1; have c4 := hc.c0; have c5 := hc.c1
  have HLT := Lib.hid hlt
  obtain ⟨I, hI⟩ : ∃ I, I = btU p c := ⟨_, rfl⟩
  have hC : btC p c = ⟨0, zeroEv, zeroEv, I, 0, 1, 0⟩ := by
    rw [hI]
    have e1 : btR p c = 0 := by simp [btR, hs, h2, h3]
    have e2 : btG p c = 1 := by simp [btG, hs, h2, h3]
    have e3 : btS p c = 0 := by simp [btS, hs, h2, h3]
    show Ce.mk _ _ _ _ _ _ _ = _
    rw [e1, e2, e3]
  have BE : Hid (∀ w, Calls Try.prog 13 #[.agg (evA p), .agg (evA c)] w fun e w' => e = .returned (.tuple #[.agg (ceA ⟨0, zeroEv, zeroEv, I, 0, 1, 0⟩), .int .i64 0]) ∧ Below w.heap.size w w') := Lib.hid (fun w => by
    have := be_good hp hc hlt w
    rwa [hC] at this)
  have f1 : hiZ I = 0 := by rw [hI]; exact btU_hi hp hc
  have f2 : loZ I = 0 := by rw [hI, btU_lo hp hc]; simp [btI, hs, h2, h3]
  have d1 : decide (c.t - p.t < 0) = false := by simp <;> omega
  have d3 : decide (c.v < 0) = false := by simp <;> omega
  clear hp hc hI hC hlt
  have HB := Lib.hid (Below.refl w.heap.size w)
  go_enter Try.func4, Try.ntmps4
  go_wp2_with (first
      | ((with_reducible refine at_slot 2 ?_); refine wl_box (A := (evA p)) rfl rfl rfl ?_; intro W1 g1 k1 hb hle; have L1 := Lib.hid (Nat.le_trans HB.out.size hle); replace HB := Lib.hid (below_tr HB.out hb); clear hb hle)
      | ((with_reducible refine at_slot 3 ?_); refine wl_box (A := (evA c)) rfl rfl rfl ?_; intro W2 g2 k2 hb hle; have n1_2 := Lib.hid (Blk.ne_of_le k1 hle); have L2 := Lib.hid (Nat.le_trans HB.out.size hle); replace k1 := k1.keep hb; replace HB := Lib.hid (below_tr HB.out hb); clear hb hle)
      | ((with_reducible refine at_slot 7 ?_); refine wl_call rfl rfl Try.func12 (by kernel_rfl) rfl (lives7 _) rfl ?_; intro V1 hb; replace k1 := k1.keep hb; replace k2 := k2.keep hb; replace HB := Lib.hid (below_tr HB.out hb); clear hb)
      | ((with_reducible refine at_slot 10 ?_); refine wl_ld0 rfl rfl rfl k1 Try.underlying24 rfl evInfo ?_)
      | ((with_reducible refine at_slot 11 ?_); refine wl_ld0 rfl rfl rfl k2 Try.underlying24 rfl evInfo ?_)
      | ((with_reducible refine at_slot 12 ?_); refine wl_call rfl rfl Try.func13 (by kernel_rfl) rfl (BE.out _) rfl ?_; intro V2 hb; replace k1 := k1.keep hb; replace k2 := k2.keep hb; replace HB := Lib.hid (below_tr HB.out hb); clear hb)
      | ((with_reducible refine at_slot 5 ?_); refine wl_alloc (A := (ceA zeroCe)) rfl rfl ce_zero rfl ?_; intro W3 g3 k3 hb hle; have n1_3 := Lib.hid (Blk.ne_of_le k1 hle); have n2_3 := Lib.hid (Blk.ne_of_le k2 hle); have L3 := Lib.hid (Nat.le_trans HB.out.size hle); replace k1 := k1.keep hb; replace k2 := k2.keep hb; replace HB := Lib.hid (below_tr HB.out hb); clear hb hle)
      | ((with_reducible refine at_store 5 ?_); refine wl_st0 (A' := (ceA ⟨0, zeroEv, zeroEv, I, 0, 1, 0⟩)) rfl rfl rfl rfl k3 rfl ceInfo (ceA_one ⟨0, zeroEv, zeroEv, I, 0, 1, 0⟩) ?_; intro V3 kn hu; replace k1 := k1.upd hu n1_3.out; replace k2 := k2.upd hu n2_3.out; replace HB := Lib.hid (upd_below HB.out hu L3.out); clear k3; have k3 : Blk _ g3 _ (ceA ⟨0, zeroEv, zeroEv, I, 0, 1, 0⟩) := kn; clear kn hu)
      | ((with_reducible refine at_slot 27 ?_); refine wl_ld1 (v := .int .i64 0) rfl rfl rfl k3 Try.underlying2 rfl rfl ?_)
      | ((with_reducible refine at_slot 31 ?_); refine wl_ld1 (v := .int .i64 0) rfl rfl rfl k3 Try.underlying2 rfl rfl ?_)
      | ((with_reducible refine at_slot 36 ?_); refine wl_ld1 (v := .int .i64 1) rfl rfl rfl k3 Try.underlying2 rfl rfl ?_)
      | ((with_reducible refine at_slot 41 ?_); refine wl_ld1 (v := .int .i64 0) rfl rfl rfl k3 Try.underlying2 rfl rfl ?_)
      | ((with_reducible refine at_slot 43 ?_); refine wl_ld1 (v := .int .i64 1) rfl rfl rfl k3 Try.underlying2 rfl rfl ?_)
      | ((with_reducible refine at_slot 49 ?_); refine wl_ld1 (v := .int .i64 0) rfl rfl rfl k3 Try.underlying2 rfl rfl ?_)
      | ((with_reducible refine at_slot 54 ?_); refine wl_ld1 (v := .int .i64 0) rfl rfl rfl k3 Try.underlying2 rfl rfl ?_)
      | ((with_reducible refine at_slot 56 ?_); refine wl_ld1 (v := .int .i64 c.t) rfl rfl rfl k2 Try.underlying2 rfl rfl ?_)
      | ((with_reducible refine at_slot 58 ?_); refine wl_ld1 (v := .int .i64 p.t) rfl rfl rfl k1 Try.underlying2 rfl rfl ?_)
      | ((with_reducible refine at_slot 65 ?_); refine wl_ld1 (v := .int .u64 (hiZ I)) rfl rfl rfl k3 Try.underlying22 rfl rfl ?_)
      | ((with_reducible refine at_slot 71 ?_); refine wl_ld1 (v := .int .u64 (loZ I)) rfl rfl rfl k3 Try.underlying22 rfl rfl ?_)
      | ((with_reducible refine at_slot 73 ?_); refine wl_ld1 (v := .int .u64 c.v) rfl rfl rfl k2 Try.underlying22 rfl rfl ?_)
      | ((with_reducible refine at_slot 78 ?_); refine wl_ld1 (v := .bool c.s) rfl rfl rfl k2 Try.underlying4 rfl rfl ?_)
      | ((with_reducible refine at_slot 84 ?_); refine wl_ld1 (v := .int .i64 0) rfl rfl rfl k3 Try.underlying2 rfl rfl ?_)
      | ((with_reducible refine at_slot 108 ?_); refine wl_ld1 (v := .int .i64 1) rfl rfl rfl k3 Try.underlying2 rfl rfl ?_)
      | ((with_reducible refine at_slot 111 ?_); refine wl_ld1 (v := .bool p.s) rfl rfl rfl k1 Try.underlying4 rfl rfl ?_)
      | ((with_reducible refine at_slot 115 ?_); refine wl_ld1 (v := .int .u64 (loZ I)) rfl rfl rfl k3 Try.underlying22 rfl rfl ?_)
      | ((with_reducible refine at_slot 120 ?_); refine wl_ld1 (v := .int .i64 0) rfl rfl rfl k3 Try.underlying2 rfl rfl ?_))
  go_ret
  exact ⟨rfl, HB.out⟩
set_option maxHeartbeats 4000000 in
set_option maxRecDepth 100000 in
theorem eone_less {p c : Ev} (hp : EvOk p) (hc : EvOk c) (hlt : p.t < c.t) (hs : c.s = false) (h2 : ¬ p.t < c.c) (h3 : p.s = false) (h4 : c.v < p.v) (w : World) :
    Calls Try.prog 4 #[.agg (evA p), .agg (evA c)] w fun e w' => e = .returned (.bool true) ∧ Below w.heap.size w w' := by
  have p0 := hp.t0; have p1 := hp.t1; have p2 := hp.v0; have p3 := hp.v1; have p4 := hp.c0; have p5 := hp.c1
  have c0 := hc.t0; have c1 := hc.t1; have c2 := hc.v0; have c3 := hc.v1; have c4 := hc.c0; have c5 := hc.c1
  have HLT := Lib.hid hlt
  obtain ⟨I, hI⟩ : ∃ I, I = btU p c := ⟨_, rfl⟩
  have hC : btC p c = ⟨0, zeroEv, zeroEv, I, 1, 0, (c.t - p.t)⟩ := by
    rw [hI]
    have e1 : btR p c = 1 := by simp [btR, hs, h2, h3, h4]
    have e2 : btG p c = 0 := by simp [btG, hs, h2, h3, h4]
    have e3 : btS p c = (c.t - p.t) := by simp [btS, hs, h2, h3, h4]
    show Ce.mk _ _ _ _ _ _ _ = _
    rw [e1, e2, e3]
  have BE : Hid (∀ w, Calls Try.prog 13 #[.agg (evA p), .agg (evA c)] w fun e w' => e = .returned (.tuple #[.agg (ceA ⟨0, zeroEv, zeroEv, I, 1, 0, (c.t - p.t)⟩), .int .i64 0]) ∧ Below w.heap.size w w') := Lib.hid (fun w => by
    have := be_good hp hc hlt w
    rwa [hC] at this)
  have f1 : hiZ I = 0 := by rw [hI]; exact btU_hi hp hc
  have f2 : loZ I = c.v := by rw [hI, btU_lo hp hc]; simp [btI, hs, h2, h3, h4]
  have d1 : decide (c.t - p.t < c.t - p.t) = false := by simp <;> omega
  have d2 : decide (c.t - p.t < 0) = false := by simp <;> omega
  have d3 : decide (c.v < c.v) = false := by simp <;> omega
  have d5 : decide (c.v < p.v) = true := by simp <;> omega
  clear hp hc hI hC hlt
  have HB := Lib.hid (Below.refl w.heap.size w)
  go_enter Try.func4, Try.ntmps4
  go_wp2_with (first
      | ((with_reducible refine at_slot 2 ?_); refine wl_box (A := (evA p)) rfl rfl rfl ?_; intro W1 g1 k1 hb hle; have L1 := Lib.hid (Nat.le_trans HB.out.size hle); replace HB := Lib.hid (below_tr HB.out hb); clear hb hle)
      | ((with_reducible refine at_slot 3 ?_); refine wl_box (A := (evA c)) rfl rfl rfl ?_; intro W2 g2 k2 hb hle; have n1_2 := Lib.hid (Blk.ne_of_le k1 hle); have L2 := Lib.hid (Nat.le_trans HB.out.size hle); replace k1 := k1.keep hb; replace HB := Lib.hid (below_tr HB.out hb); clear hb hle)
      | ((with_reducible refine at_slot 7 ?_); refine wl_call rfl rfl Try.func12 (by kernel_rfl) rfl (lives7 _) rfl ?_; intro V1 hb; replace k1 := k1.keep hb; replace k2 := k2.keep hb; replace HB := Lib.hid (below_tr HB.out hb); clear hb)
      | ((with_reducible refine at_slot 10 ?_); refine wl_ld0 rfl rfl rfl k1 Try.underlying24 rfl evInfo ?_)
      | ((with_reducible refine at_slot 11 ?_); refine wl_ld0 rfl rfl rfl k2 Try.underlying24 rfl evInfo ?_)
      | ((with_reducible refine at_slot 12 ?_); refine wl_call rfl rfl Try.func13 (by kernel_rfl) rfl (BE.out _) rfl ?_; intro V2 hb; replace k1 := k1.keep hb; replace k2 := k2.keep hb; replace HB := Lib.hid (below_tr HB.out hb); clear hb)
      | ((with_reducible refine at_slot 5 ?_); refine wl_alloc (A := (ceA zeroCe)) rfl rfl ce_zero rfl ?_; intro W3 g3 k3 hb hle; have n1_3 := Lib.hid (Blk.ne_of_le k1 hle); have n2_3 := Lib.hid (Blk.ne_of_le k2 hle); have L3 := Lib.hid (Nat.le_trans HB.out.size hle); replace k1 := k1.keep hb; replace k2 := k2.keep hb; replace HB := Lib.hid (below_tr HB.out hb); clear hb hle)
      | ((with_reducible refine at_store 5 ?_); refine wl_st0 (A' := (ceA ⟨0, zeroEv, zeroEv, I, 1, 0, (c.t - p.t)⟩)) rfl rfl rfl rfl k3 rfl ceInfo (ceA_one ⟨0, zeroEv, zeroEv, I, 1, 0, (c.t - p.t)⟩) ?_; intro V3 kn hu; replace k1 := k1.upd hu n1_3.out; replace k2 := k2.upd hu n2_3.out; replace HB := Lib.hid (upd_below HB.out hu L3.out); clear k3; have k3 : Blk _ g3 _ (ceA ⟨0, zeroEv, zeroEv, I, 1, 0, (c.t - p.t)⟩) := kn; clear kn hu)
      | ((with_reducible refine at_slot 27 ?_); refine wl_ld1 (v := .int .i64 0) rfl rfl rfl k3 Try.underlying2 rfl rfl ?_)
      | ((with_reducible refine at_slot 31 ?_); refine wl_ld1 (v := .int .i64 1) rfl rfl rfl k3 Try.underlying2 rfl rfl ?_)
      | ((with_reducible refine at_slot 36 ?_); refine wl_ld1 (v := .int .i64 0) rfl rfl rfl k3 Try.underlying2 rfl rfl ?_)
      | ((with_reducible refine at_slot 41 ?_); refine wl_ld1 (v := .int .i64 1) rfl rfl rfl k3 Try.underlying2 rfl rfl ?_)
      | ((with_reducible refine at_slot 43 ?_); refine wl_ld1 (v := .int .i64 0) rfl rfl rfl k3 Try.underlying2 rfl rfl ?_)
      | ((with_reducible refine at_slot 49 ?_); refine wl_ld1 (v := .int .i64 (c.t - p.t)) rfl rfl rfl k3 Try.underlying2 rfl rfl ?_)
      | ((with_reducible refine at_slot 54 ?_); refine wl_ld1 (v := .int .i64 (c.t - p.t)) rfl rfl rfl k3 Try.underlying2 rfl rfl ?_)
      | ((with_reducible refine at_slot 56 ?_); refine wl_ld1 (v := .int .i64 c.t) rfl rfl rfl k2 Try.underlying2 rfl rfl ?_)
      | ((with_reducible refine at_slot 58 ?_); refine wl_ld1 (v := .int .i64 p.t) rfl rfl rfl k1 Try.underlying2 rfl rfl ?_)
      | ((with_reducible refine at_slot 65 ?_); refine wl_ld1 (v := .int .u64 (hiZ I)) rfl rfl rfl k3 Try.underlying22 rfl rfl ?_)
      | ((with_reducible refine at_slot 71 ?_); refine wl_ld1 (v := .int .u64 (loZ I)) rfl rfl rfl k3 Try.underlying22 rfl rfl ?_)
      | ((with_reducible refine at_slot 73 ?_); refine wl_ld1 (v := .int .u64 c.v) rfl rfl rfl k2 Try.underlying22 rfl rfl ?_)
      | ((with_reducible refine at_slot 78 ?_); refine wl_ld1 (v := .bool c.s) rfl rfl rfl k2 Try.underlying4 rfl rfl ?_)
      | ((with_reducible refine at_slot 84 ?_); refine wl_ld1 (v := .int .i64 1) rfl rfl rfl k3 Try.underlying2 rfl rfl ?_)
      | ((with_reducible refine at_slot 88 ?_); refine wl_ld1 (v := .int .u64 (loZ I)) rfl rfl rfl k3 Try.underlying22 rfl rfl ?_)
      | ((with_reducible refine at_slot 90 ?_); refine wl_ld1 (v := .int .u64 c.v) rfl rfl rfl k2 Try.underlying22 rfl rfl ?_)
      | ((with_reducible refine at_slot 94 ?_); refine wl_ld1 (v := .int .u64 c.v) rfl rfl rfl k2 Try.underlying22 rfl rfl ?_)
      | ((with_reducible refine at_slot 96 ?_); refine wl_ld1 (v := .int .u64 p.v) rfl rfl rfl k1 Try.underlying22 rfl rfl ?_)
      | ((with_reducible refine at_slot 100 ?_); refine wl_ld1 (v := .int .i64 c.c) rfl rfl rfl k2 Try.underlying2 rfl rfl ?_)
      | ((with_reducible refine at_slot 102 ?_); refine wl_ld1 (v := .int .i64 p.t) rfl rfl rfl k1 Try.underlying2 rfl rfl ?_))
  go_ret
  exact ⟨rfl, HB.out⟩
set_option maxHeartbeats 4000000 in
set_option maxRecDepth 100000 in
theorem eone_more {p c : Ev} (hp : EvOk p) (hc : EvOk c) (hlt : p.t < c.t) (hs : c.s = false) (h2 : ¬ p.t < c.c) (h3 : p.s = false) (h4 : ¬ c.v < p.v) (w : World) :
    Calls Try.prog 4 #[.agg (evA p), .agg (evA c)] w fun e w' => e = .returned (.bool true) ∧ Below w.heap.size w w' := by
  have p0 := hp.t0; have p1 := hp.t1; have p2 := hp.v0; have p3 := hp.v1; have p4 := hp.c0; have p5 := hp.c1
  have c0 := hc.t0; have c1 := hc.t1; have c2 := hc.v0; have c3 := hc.v1; have c4 := hc.c0; have c5 := hc.c1
  have HLT := Lib.hid hlt
  obtain ⟨I, hI⟩ : ∃ I, I = btU p c := ⟨_, rfl⟩
  have hC : btC p c = ⟨0, zeroEv, zeroEv, I, 0, 0, (c.t - p.t)⟩ := by
    rw [hI]
    have e1 : btR p c = 0 := by simp [btR, hs, h2, h3, h4]
    have e2 : btG p c = 0 := by simp [btG, hs, h2, h3, h4]
    have e3 : btS p c = (c.t - p.t) := by simp [btS, hs, h2, h3, h4]
    show Ce.mk _ _ _ _ _ _ _ = _
    rw [e1, e2, e3]
  have BE : Hid (∀ w, Calls Try.prog 13 #[.agg (evA p), .agg (evA c)] w fun e w' => e = .returned (.tuple #[.agg (ceA ⟨0, zeroEv, zeroEv, I, 0, 0, (c.t - p.t)⟩), .int .i64 0]) ∧ Below w.heap.size w w') := Lib.hid (fun w => by
    have := be_good hp hc hlt w
    rwa [hC] at this)
  have f1 : hiZ I = 0 := by rw [hI]; exact btU_hi hp hc
  have f2 : loZ I = (c.v - p.v) := by rw [hI, btU_lo hp hc]; simp [btI, hs, h2, h3, h4]
  have d1 : decide (c.t - p.t < c.t - p.t) = false := by simp <;> omega
  have d2 : decide (c.t - p.t < 0) = false := by simp <;> omega
  have d3 : decide (c.v < c.v - p.v) = false := by simp <;> omega
  have i1 : p.v + (c.v - p.v) = c.v := by omega
  clear hp hc hI hC hlt
  have HB := Lib.hid (Below.refl w.heap.size w)
  go_enter Try.func4, Try.ntmps4
  go_wp2_with (first
      | ((with_reducible refine at_slot 2 ?_); refine wl_box (A := (evA p)) rfl rfl rfl ?_; intro W1 g1 k1 hb hle; have L1 := Lib.hid (Nat.le_trans HB.out.size hle); replace HB := Lib.hid (below_tr HB.out hb); clear hb hle)
      | ((with_reducible refine at_slot 3 ?_); refine wl_box (A := (evA c)) rfl rfl rfl ?_; intro W2 g2 k2 hb hle; have n1_2 := Lib.hid (Blk.ne_of_le k1 hle); have L2 := Lib.hid (Nat.le_trans HB.out.size hle); replace k1 := k1.keep hb; replace HB := Lib.hid (below_tr HB.out hb); clear hb hle)
      | ((with_reducible refine at_slot 7 ?_); refine wl_call rfl rfl Try.func12 (by kernel_rfl) rfl (lives7 _) rfl ?_; intro V1 hb; replace k1 := k1.keep hb; replace k2 := k2.keep hb; replace HB := Lib.hid (below_tr HB.out hb); clear hb)
      | ((with_reducible refine at_slot 10 ?_); refine wl_ld0 rfl rfl rfl k1 Try.underlying24 rfl evInfo ?_)
      | ((with_reducible refine at_slot 11 ?_); refine wl_ld0 rfl rfl rfl k2 Try.underlying24 rfl evInfo ?_)
      | ((with_reducible refine at_slot 12 ?_); refine wl_call rfl rfl Try.func13 (by kernel_rfl) rfl (BE.out _) rfl ?_; intro V2 hb; replace k1 := k1.keep hb; replace k2 := k2.keep hb; replace HB := Lib.hid (below_tr HB.out hb); clear hb)
      | ((with_reducible refine at_slot 5 ?_); refine wl_alloc (A := (ceA zeroCe)) rfl rfl ce_zero rfl ?_; intro W3 g3 k3 hb hle; have n1_3 := Lib.hid (Blk.ne_of_le k1 hle); have n2_3 := Lib.hid (Blk.ne_of_le k2 hle); have L3 := Lib.hid (Nat.le_trans HB.out.size hle); replace k1 := k1.keep hb; replace k2 := k2.keep hb; replace HB := Lib.hid (below_tr HB.out hb); clear hb hle)
      | ((with_reducible refine at_store 5 ?_); refine wl_st0 (A' := (ceA ⟨0, zeroEv, zeroEv, I, 0, 0, (c.t - p.t)⟩)) rfl rfl rfl rfl k3 rfl ceInfo (ceA_one ⟨0, zeroEv, zeroEv, I, 0, 0, (c.t - p.t)⟩) ?_; intro V3 kn hu; replace k1 := k1.upd hu n1_3.out; replace k2 := k2.upd hu n2_3.out; replace HB := Lib.hid (upd_below HB.out hu L3.out); clear k3; have k3 : Blk _ g3 _ (ceA ⟨0, zeroEv, zeroEv, I, 0, 0, (c.t - p.t)⟩) := kn; clear kn hu)
      | ((with_reducible refine at_slot 27 ?_); refine wl_ld1 (v := .int .i64 0) rfl rfl rfl k3 Try.underlying2 rfl rfl ?_)
      | ((with_reducible refine at_slot 31 ?_); refine wl_ld1 (v := .int .i64 0) rfl rfl rfl k3 Try.underlying2 rfl rfl ?_)
      | ((with_reducible refine at_slot 36 ?_); refine wl_ld1 (v := .int .i64 0) rfl rfl rfl k3 Try.underlying2 rfl rfl ?_)
      | ((with_reducible refine at_slot 41 ?_); refine wl_ld1 (v := .int .i64 0) rfl rfl rfl k3 Try.underlying2 rfl rfl ?_)
      | ((with_reducible refine at_slot 43 ?_); refine wl_ld1 (v := .int .i64 0) rfl rfl rfl k3 Try.underlying2 rfl rfl ?_)
      | ((with_reducible refine at_slot 49 ?_); refine wl_ld1 (v := .int .i64 (c.t - p.t)) rfl rfl rfl k3 Try.underlying2 rfl rfl ?_)
      | ((with_reducible refine at_slot 54 ?_); refine wl_ld1 (v := .int .i64 (c.t - p.t)) rfl rfl rfl k3 Try.underlying2 rfl rfl ?_)
      | ((with_reducible refine at_slot 56 ?_); refine wl_ld1 (v := .int .i64 c.t) rfl rfl rfl k2 Try.underlying2 rfl rfl ?_)
      | ((with_reducible refine at_slot 58 ?_); refine wl_ld1 (v := .int .i64 p.t) rfl rfl rfl k1 Try.underlying2 rfl rfl ?_)
      | ((with_reducible refine at_slot 65 ?_); refine wl_ld1 (v := .int .u64 (hiZ I)) rfl rfl rfl k3 Try.underlying22 rfl rfl ?_)
      | ((with_reducible refine at_slot 71 ?_); refine wl_ld1 (v := .int .u64 (loZ I)) rfl rfl rfl k3 Try.underlying22 rfl rfl ?_)
      | ((with_reducible refine at_slot 73 ?_); refine wl_ld1 (v := .int .u64 c.v) rfl rfl rfl k2 Try.underlying22 rfl rfl ?_)
      | ((with_reducible refine at_slot 78 ?_); refine wl_ld1 (v := .bool c.s) rfl rfl rfl k2 Try.underlying4 rfl rfl ?_)
      | ((with_reducible refine at_slot 84 ?_); refine wl_ld1 (v := .int .i64 0) rfl rfl rfl k3 Try.underlying2 rfl rfl ?_)
      | ((with_reducible refine at_slot 108 ?_); refine wl_ld1 (v := .int .i64 0) rfl rfl rfl k3 Try.underlying2 rfl rfl ?_)
      | ((with_reducible refine at_slot 124 ?_); refine wl_ld1 (v := .int .u64 p.v) rfl rfl rfl k1 Try.underlying22 rfl rfl ?_)
      | ((with_reducible refine at_slot 127 ?_); refine wl_ld1 (v := .int .u64 (loZ I)) rfl rfl rfl k3 Try.underlying22 rfl rfl ?_)
      | ((with_reducible refine at_slot 130 ?_); refine wl_ld1 (v := .int .u64 c.v) rfl rfl rfl k2 Try.underlying22 rfl rfl ?_)
      | ((with_reducible refine at_slot 134 ?_); refine wl_ld1 (v := .int .i64 (c.t - p.t)) rfl rfl rfl k3 Try.underlying2 rfl rfl ?_)
      | ((with_reducible refine at_slot 136 ?_); refine wl_ld1 (v := .int .i64 c.t) rfl rfl rfl k2 Try.underlying2 rfl rfl ?_)
      | ((with_reducible refine at_slot 138 ?_); refine wl_ld1 (v := .int .i64 p.t) rfl rfl rfl k1 Try.underlying2 rfl rfl ?_)
      | ((with_reducible refine at_slot 144 ?_); refine wl_ld1 (v := .bool p.s) rfl rfl rfl k1 Try.underlying4 rfl rfl ?_))
  go_ret
  exact ⟨rfl, HB.out⟩
theorem eone_any {p c : Ev} (ip : EvIn p) (ic : EvIn c) (w : World) :
    Calls Try.prog 4 #[.agg (evA p), .agg (evA c)] w fun e w' => e = .returned (.bool true) ∧ Below w.heap.size w w' := by
  by_cases hb : EvOk p ∧ EvOk c
  · obtain ⟨hp, hc⟩ := hb
    by_cases ht : p.t < c.t
    · cases hs : c.s with
      | true => exact eone_stale hp hc ht hs w
      | false =>
        by_cases h2 : p.t < c.c
        · by_cases h4 : c.v < p.v
          · exact eone_made1 hp hc ht hs h2 h4 w
          · exact eone_made2 hp hc ht hs h2 h4 w
        · cases h3 : p.s with
          | true => exact eone_gap hp hc ht hs h2 h3 w
          | false =>
            by_cases h4 : c.v < p.v
            · exact eone_less hp hc ht hs h2 h3 h4 w
            · exact eone_more hp hc ht hs h2 h3 h4 w
    · exact eone_no ip ic (beE_time hp hc ht) (by decide) (beC_time ht) (fun h => ht h.2.2) w
  · exact eone_no ip ic (beE_no hb) (by decide) (beC_no hb) (fun h => hb ⟨h.1, h.2.1⟩) w
end Go.Proofs.Ytgijejdehenmpaa
