/-
  THE DOCUMENT'S ANSWERS for events: plimsollref07.Between.
-/
import Derived.Test.YtjdjebhimljedaaE7
import Derived.BigRegion
namespace Go.Proofs.Ytjdjebhimljedaa
open Go Go.RowKit

theorem Upd.set {g i : Nat} {w w' : World} (h : Upd g w w') (v : Value) : Upd g w (w'.setCell ⟨g, i, none⟩ v) := h.trans ⟨rfl, rfl, rfl, by simp [World.setCell], fun k _ hk => Below.heap_setCell _ _ _ _ hk⟩
theorem Blk.set {w : World} {g i : Nat} {T : TypeId} {A : Array Value} (h : Blk w g T A) (v : Value) : Blk (w.setCell ⟨g, i, none⟩ v) g T (A.set! i v) := set_block h v

set_option maxHeartbeats 4000000 in
set_option maxRecDepth 100000 in
theorem rbe_time {p c : Ev} (hp : EvOk p) (hc : EvOk c) (hlt : ¬ p.t < c.t) (w : World) :
    Calls Try.prog 22 #[.agg (evA p), .agg (evA c)] w fun e w' => e = .returned (.tuple #[.agg (ceA zeroCe), .int .i64 9]) ∧ Below w.heap.size w w' := by
  have HP := Lib.hid hp
  have HC := Lib.hid hc
  clear hp hc
  have HB := Lib.hid (Below.refl w.heap.size w)
  go_enter Try.func22, Try.ntmps22
  go_wp2_with (first
      | ((with_reducible refine at_slot 2 ?_); refine wl_box (A := (evA p)) rfl rfl rfl ?_; intro W1 g1 k1 hb hle; have L1 := Lib.hid (Nat.le_trans HB.out.size hle); replace HB := Lib.hid (below_tr HB.out hb); clear hb hle)
      | ((with_reducible refine at_slot 3 ?_); refine wl_box (A := (evA c)) rfl rfl rfl ?_; intro W2 g2 k2 hb hle; have n1_2 := Lib.hid (Blk.ne_of_le k1 hle); have L2 := Lib.hid (Nat.le_trans HB.out.size hle); replace k1 := k1.keep hb; replace HB := Lib.hid (below_tr HB.out hb); clear hb hle)
      | ((with_reducible refine at_slot 4 ?_); refine wl_alloc (A := (ceA zeroCe)) rfl rfl ce_zero rfl ?_; intro W3 g3 k3 hb hle; have n1_3 := Lib.hid (Blk.ne_of_le k1 hle); have n2_3 := Lib.hid (Blk.ne_of_le k2 hle); have L3 := Lib.hid (Nat.le_trans HB.out.size hle); replace k1 := k1.keep hb; replace k2 := k2.keep hb; replace HB := Lib.hid (below_tr HB.out hb); clear hb hle)
      | ((with_reducible refine at_slot 7 ?_); refine wl_ld0 rfl rfl rfl k1 Try.underlying24 rfl evInfo ?_)
      | ((with_reducible refine at_slot 8 ?_); refine wl_call rfl rfl Try.func27 (by kernel_rfl) rfl (rev_yes HP.out _) rfl ?_; intro V1 hb; replace k1 := k1.keep hb; replace k2 := k2.keep hb; replace k3 := k3.keep hb; replace HB := Lib.hid (below_tr HB.out hb); clear hb)
      | ((with_reducible refine at_slot 11 ?_); refine wl_ld0 rfl rfl rfl k2 Try.underlying24 rfl evInfo ?_)
      | ((with_reducible refine at_slot 12 ?_); refine wl_call rfl rfl Try.func27 (by kernel_rfl) rfl (rev_yes HC.out _) rfl ?_; intro V2 hb; replace k1 := k1.keep hb; replace k2 := k2.keep hb; replace k3 := k3.keep hb; replace HB := Lib.hid (below_tr HB.out hb); clear hb)
      | ((with_reducible refine at_slot 17 ?_); refine wl_ld1 (v := .int .i64 p.t) rfl rfl rfl k1 Try.underlying2 rfl rfl ?_)
      | ((with_reducible refine at_slot 19 ?_); refine wl_ld1 (v := .int .i64 c.t) rfl rfl rfl k2 Try.underlying2 rfl rfl ?_)
      | ((with_reducible refine at_slot 21 ?_); refine wl_build (v := .agg (ceA zeroCe)) rfl rfl (build_ce0 _) rfl ?_)
      | ((with_reducible refine at_store 4 ?_); refine wl_st0 (A' := (ceA zeroCe)) rfl rfl rfl rfl k3 rfl ceInfo (ceA_one zeroCe) ?_; intro V3 kn hu; replace k1 := k1.upd hu n1_3.out; replace k2 := k2.upd hu n2_3.out; replace HB := Lib.hid (upd_below HB.out hu L3.out); clear k3; have k3 : Blk _ g3 _ (ceA zeroCe) := kn; clear kn hu))
  refine bodyPost_ret (v := .tuple #[.agg (ceA zeroCe), .int .i64 9]) (results_ct Try.results22 _ rfl rfl k3 Try.underlying28 rfl ceInfo) rfl ?_
  exact ⟨rfl, HB.out⟩
set_option maxHeartbeats 4000000 in
set_option maxRecDepth 100000 in
theorem rbe_no1 {p c : Ev} (ip : EvIn p) (hp : ¬ EvOk p) (w : World) :
    Calls Try.prog 22 #[.agg (evA p), .agg (evA c)] w fun e w' => e = .returned (.tuple #[.agg (ceA zeroCe), .int .i64 2]) ∧ Below w.heap.size w w' := by
  have HP := Lib.hid hp
  have IP := Lib.hid ip
  clear hp ip
  have HB := Lib.hid (Below.refl w.heap.size w)
  go_enter Try.func22, Try.ntmps22
  go_wp2_with (first
      | ((with_reducible refine at_slot 2 ?_); refine wl_box (A := (evA p)) rfl rfl rfl ?_; intro W1 g1 k1 hb hle; have L1 := Lib.hid (Nat.le_trans HB.out.size hle); replace HB := Lib.hid (below_tr HB.out hb); clear hb hle)
      | ((with_reducible refine at_slot 3 ?_); refine wl_box (A := (evA c)) rfl rfl rfl ?_; intro W2 g2 k2 hb hle; have n1_2 := Lib.hid (Blk.ne_of_le k1 hle); have L2 := Lib.hid (Nat.le_trans HB.out.size hle); replace k1 := k1.keep hb; replace HB := Lib.hid (below_tr HB.out hb); clear hb hle)
      | ((with_reducible refine at_slot 4 ?_); refine wl_alloc (A := (ceA zeroCe)) rfl rfl ce_zero rfl ?_; intro W3 g3 k3 hb hle; have n1_3 := Lib.hid (Blk.ne_of_le k1 hle); have n2_3 := Lib.hid (Blk.ne_of_le k2 hle); have L3 := Lib.hid (Nat.le_trans HB.out.size hle); replace k1 := k1.keep hb; replace k2 := k2.keep hb; replace HB := Lib.hid (below_tr HB.out hb); clear hb hle)
      | ((with_reducible refine at_slot 7 ?_); refine wl_ld0 rfl rfl rfl k1 Try.underlying24 rfl evInfo ?_)
      | ((with_reducible refine at_slot 8 ?_); refine wl_call rfl rfl Try.func27 (by kernel_rfl) rfl (rev_no IP.out HP.out _) rfl ?_; intro V1 hb; replace k1 := k1.keep hb; replace k2 := k2.keep hb; replace k3 := k3.keep hb; replace HB := Lib.hid (below_tr HB.out hb); clear hb)
      | ((with_reducible refine at_slot 11 ?_); refine wl_ld0 rfl rfl rfl k2 Try.underlying24 rfl evInfo ?_)
      | ((with_reducible refine at_slot 15 ?_); refine wl_build (v := .agg (ceA zeroCe)) rfl rfl (build_ce0 _) rfl ?_)
      | ((with_reducible refine at_store 4 ?_); refine wl_st0 (A' := (ceA zeroCe)) rfl rfl rfl rfl k3 rfl ceInfo (ceA_one zeroCe) ?_; intro V2 kn hu; replace k1 := k1.upd hu n1_3.out; replace k2 := k2.upd hu n2_3.out; replace HB := Lib.hid (upd_below HB.out hu L3.out); clear k3; have k3 : Blk _ g3 _ (ceA zeroCe) := kn; clear kn hu))
  refine bodyPost_ret (v := .tuple #[.agg (ceA zeroCe), .int .i64 2]) (results_ct Try.results22 _ rfl rfl k3 Try.underlying28 rfl ceInfo) rfl ?_
  exact ⟨rfl, HB.out⟩
set_option maxHeartbeats 4000000 in
set_option maxRecDepth 100000 in
theorem rbe_no2 {p c : Ev} (hp : EvOk p) (ic : EvIn c) (hc : ¬ EvOk c) (w : World) :
    Calls Try.prog 22 #[.agg (evA p), .agg (evA c)] w fun e w' => e = .returned (.tuple #[.agg (ceA zeroCe), .int .i64 2]) ∧ Below w.heap.size w w' := by
  have HP := Lib.hid hp
  have HC := Lib.hid hc
  have IC := Lib.hid ic
  clear hp hc ic
  have HB := Lib.hid (Below.refl w.heap.size w)
  go_enter Try.func22, Try.ntmps22
  go_wp2_with (first
      | ((with_reducible refine at_slot 2 ?_); refine wl_box (A := (evA p)) rfl rfl rfl ?_; intro W1 g1 k1 hb hle; have L1 := Lib.hid (Nat.le_trans HB.out.size hle); replace HB := Lib.hid (below_tr HB.out hb); clear hb hle)
      | ((with_reducible refine at_slot 3 ?_); refine wl_box (A := (evA c)) rfl rfl rfl ?_; intro W2 g2 k2 hb hle; have n1_2 := Lib.hid (Blk.ne_of_le k1 hle); have L2 := Lib.hid (Nat.le_trans HB.out.size hle); replace k1 := k1.keep hb; replace HB := Lib.hid (below_tr HB.out hb); clear hb hle)
      | ((with_reducible refine at_slot 4 ?_); refine wl_alloc (A := (ceA zeroCe)) rfl rfl ce_zero rfl ?_; intro W3 g3 k3 hb hle; have n1_3 := Lib.hid (Blk.ne_of_le k1 hle); have n2_3 := Lib.hid (Blk.ne_of_le k2 hle); have L3 := Lib.hid (Nat.le_trans HB.out.size hle); replace k1 := k1.keep hb; replace k2 := k2.keep hb; replace HB := Lib.hid (below_tr HB.out hb); clear hb hle)
      | ((with_reducible refine at_slot 7 ?_); refine wl_ld0 rfl rfl rfl k1 Try.underlying24 rfl evInfo ?_)
      | ((with_reducible refine at_slot 8 ?_); refine wl_call rfl rfl Try.func27 (by kernel_rfl) rfl (rev_yes HP.out _) rfl ?_; intro V1 hb; replace k1 := k1.keep hb; replace k2 := k2.keep hb; replace k3 := k3.keep hb; replace HB := Lib.hid (below_tr HB.out hb); clear hb)
      | ((with_reducible refine at_slot 11 ?_); refine wl_ld0 rfl rfl rfl k2 Try.underlying24 rfl evInfo ?_)
      | ((with_reducible refine at_slot 12 ?_); refine wl_call rfl rfl Try.func27 (by kernel_rfl) rfl (rev_no IC.out HC.out _) rfl ?_; intro V2 hb; replace k1 := k1.keep hb; replace k2 := k2.keep hb; replace k3 := k3.keep hb; replace HB := Lib.hid (below_tr HB.out hb); clear hb)
      | ((with_reducible refine at_slot 15 ?_); refine wl_build (v := .agg (ceA zeroCe)) rfl rfl (build_ce0 _) rfl ?_)
      | ((with_reducible refine at_store 4 ?_); refine wl_st0 (A' := (ceA zeroCe)) rfl rfl rfl rfl k3 rfl ceInfo (ceA_one zeroCe) ?_; intro V3 kn hu; replace k1 := k1.upd hu n1_3.out; replace k2 := k2.upd hu n2_3.out; replace HB := Lib.hid (upd_below HB.out hu L3.out); clear k3; have k3 : Blk _ g3 _ (ceA zeroCe) := kn; clear kn hu))
  refine bodyPost_ret (v := .tuple #[.agg (ceA zeroCe), .int .i64 2]) (results_ct Try.results22 _ rfl rfl k3 Try.underlying28 rfl ceInfo) rfl ?_
  exact ⟨rfl, HB.out⟩
set_option maxHeartbeats 4000000 in
set_option maxRecDepth 100000 in
theorem rbe_stale {p c : Ev} (hp : EvOk p) (hc : EvOk c) (hlt : p.t < c.t) (hs : c.s = true) (w : World) :
    Calls Try.prog 22 #[.agg (evA p), .agg (evA c)] w fun e w' => e = .returned (.tuple #[.agg (ceA (btC p c)), .int .i64 0]) ∧ Below w.heap.size w w' := by
  have p0 := hp.t0; have p1 := hp.t1; have p2 := hp.v0; have p3 := hp.v1; have p4 := hp.c0; have p5 := hp.c1
  have c0 := hc.t0; have c1 := hc.t1; have c2 := hc.v0; have c3 := hc.v1; have c4 := hc.c0; have c5 := hc.c1
  have HP := Lib.hid hp
  have HC := Lib.hid hc
  clear hp hc
  have HZ := Lib.hid (ceA_bt HP.out HC.out (I := 0) (R := 0) (G := 0) (S := 0) (by simp [btI, hs]) (by simp [btR, hs]) (by simp [btG, hs]) (by simp [btS, hs]))
  have HB := Lib.hid (Below.refl w.heap.size w)
  go_enter Try.func22, Try.ntmps22
  go_wp2_with (first
      | ((with_reducible refine at_slot 2 ?_); refine wl_box (A := (evA p)) rfl rfl rfl ?_; intro W1 g1 k1 hb hle; have L1 := Lib.hid (Nat.le_trans HB.out.size hle); replace HB := Lib.hid (below_tr HB.out hb); clear hb hle)
      | ((with_reducible refine at_slot 3 ?_); refine wl_box (A := (evA c)) rfl rfl rfl ?_; intro W2 g2 k2 hb hle; have n1_2 := Lib.hid (Blk.ne_of_le k1 hle); have L2 := Lib.hid (Nat.le_trans HB.out.size hle); replace k1 := k1.keep hb; replace HB := Lib.hid (below_tr HB.out hb); clear hb hle)
      | ((with_reducible refine at_slot 4 ?_); refine wl_alloc (A := (ceA zeroCe)) rfl rfl ce_zero rfl ?_; intro W3 g3 k3 hb hle; have n1_3 := Lib.hid (Blk.ne_of_le k1 hle); have n2_3 := Lib.hid (Blk.ne_of_le k2 hle); have L3 := Lib.hid (Nat.le_trans HB.out.size hle); replace k1 := k1.keep hb; replace k2 := k2.keep hb; replace HB := Lib.hid (below_tr HB.out hb); clear hb hle)
      | ((with_reducible refine at_slot 7 ?_); refine wl_ld0 rfl rfl rfl k1 Try.underlying24 rfl evInfo ?_)
      | ((with_reducible refine at_slot 8 ?_); refine wl_call rfl rfl Try.func27 (by kernel_rfl) rfl (rev_yes HP.out _) rfl ?_; intro V1 hb; replace k1 := k1.keep hb; replace k2 := k2.keep hb; replace k3 := k3.keep hb; replace HB := Lib.hid (below_tr HB.out hb); clear hb)
      | ((with_reducible refine at_slot 11 ?_); refine wl_ld0 rfl rfl rfl k2 Try.underlying24 rfl evInfo ?_)
      | ((with_reducible refine at_slot 12 ?_); refine wl_call rfl rfl Try.func27 (by kernel_rfl) rfl (rev_yes HC.out _) rfl ?_; intro V2 hb; replace k1 := k1.keep hb; replace k2 := k2.keep hb; replace k3 := k3.keep hb; replace HB := Lib.hid (below_tr HB.out hb); clear hb)
      | ((with_reducible refine at_slot 17 ?_); refine wl_ld1 (v := .int .i64 p.t) rfl rfl rfl k1 Try.underlying2 rfl rfl ?_)
      | ((with_reducible refine at_slot 19 ?_); refine wl_ld1 (v := .int .i64 c.t) rfl rfl rfl k2 Try.underlying2 rfl rfl ?_)
      | ((with_reducible refine at_slot 6 ?_); refine wl_alloc (A := (ceA zeroCe)) rfl rfl ce_zero rfl ?_; intro W4 g4 k4 hb hle; have n1_4 := Lib.hid (Blk.ne_of_le k1 hle); have n2_4 := Lib.hid (Blk.ne_of_le k2 hle); have n3_4 := Lib.hid (Blk.ne_of_le k3 hle); have L4 := Lib.hid (Nat.le_trans HB.out.size hle); replace k1 := k1.keep hb; replace k2 := k2.keep hb; replace k3 := k3.keep hb; replace HB := Lib.hid (below_tr HB.out hb); clear hb hle)
      | ((with_reducible refine at_slot 37 ?_); refine wl_ld1 (v := .bool c.s) rfl rfl rfl k2 Try.underlying4 rfl rfl ?_)
      | ((with_reducible refine at_slot 76 ?_); refine wl_ld0 rfl rfl rfl k4 Try.underlying28 rfl ceInfo ?_)
      | ((with_reducible refine at_store 4 ?_); refine wl_st0 (A' := (ceA zeroCe)) rfl rfl rfl rfl k3 rfl ceInfo (ceA_one zeroCe) ?_; intro V3 kn hu; replace k1 := k1.upd hu n1_3.out; replace k2 := k2.upd hu n2_3.out; replace k4 := k4.upd hu (Ne.symm n3_4.out); replace HB := Lib.hid (upd_below HB.out hu L3.out); clear k3; have k3 : Blk _ g3 _ (ceA zeroCe) := kn; clear kn hu))
  refine bodyPost_ret (v := .tuple #[.agg (ceA zeroCe), .int .i64 0]) (results_ct Try.results22 _ rfl rfl k3 Try.underlying28 rfl ceInfo) rfl ?_
  exact ⟨be_eq HZ.out.symm rfl, HB.out⟩
set_option maxHeartbeats 4000000 in
set_option maxRecDepth 100000 in
theorem rbe_made {p c : Ev} (hp : EvOk p) (hc : EvOk c) (hlt : p.t < c.t) (hs : c.s = false) (h2 : p.t < c.c) (w : World) :
    Calls Try.prog 22 #[.agg (evA p), .agg (evA c)] w fun e w' => e = .returned (.tuple #[.agg (ceA (btC p c)), .int .i64 0]) ∧ Below w.heap.size w w' := by
  have p0 := hp.t0; have p1 := hp.t1; have p2 := hp.v0; have p3 := hp.v1; have p4 := hp.c0; have p5 := hp.c1
  have c0 := hc.t0; have c1 := hc.t1; have c2 := hc.v0; have c3 := hc.v1; have c4 := hc.c0; have c5 := hc.c1
  have d1 : decide (p.t < c.c) = true := by simp <;> omega
  have i1 : IntKind.i64.wrap (c.t - c.c) = c.t - c.c := by rw [IntKind.wrap_i64]; omega
  have HP := Lib.hid hp
  have HC := Lib.hid hc
  clear hp hc
  have HZ := Lib.hid (ceA_bt HP.out HC.out (I := c.v) (R := 1) (G := 0) (S := c.t - c.c) (by simp [btI, hs, h2]) (by simp [btR, hs, h2]) (by simp [btG, hs, h2]) (by simp [btS, hs, h2]))
  have HB := Lib.hid (Below.refl w.heap.size w)
  go_enter Try.func22, Try.ntmps22
  go_wp2_with (first
      | ((with_reducible refine at_slot 2 ?_); refine wl_box (A := (evA p)) rfl rfl rfl ?_; intro W1 g1 k1 hb hle; have L1 := Lib.hid (Nat.le_trans HB.out.size hle); replace HB := Lib.hid (below_tr HB.out hb); clear hb hle)
      | ((with_reducible refine at_slot 3 ?_); refine wl_box (A := (evA c)) rfl rfl rfl ?_; intro W2 g2 k2 hb hle; have n1_2 := Lib.hid (Blk.ne_of_le k1 hle); have L2 := Lib.hid (Nat.le_trans HB.out.size hle); replace k1 := k1.keep hb; replace HB := Lib.hid (below_tr HB.out hb); clear hb hle)
      | ((with_reducible refine at_slot 4 ?_); refine wl_alloc (A := (ceA zeroCe)) rfl rfl ce_zero rfl ?_; intro W3 g3 k3 hb hle; have n1_3 := Lib.hid (Blk.ne_of_le k1 hle); have n2_3 := Lib.hid (Blk.ne_of_le k2 hle); have L3 := Lib.hid (Nat.le_trans HB.out.size hle); replace k1 := k1.keep hb; replace k2 := k2.keep hb; replace HB := Lib.hid (below_tr HB.out hb); clear hb hle)
      | ((with_reducible refine at_slot 7 ?_); refine wl_ld0 rfl rfl rfl k1 Try.underlying24 rfl evInfo ?_)
      | ((with_reducible refine at_slot 8 ?_); refine wl_call rfl rfl Try.func27 (by kernel_rfl) rfl (rev_yes HP.out _) rfl ?_; intro V1 hb; replace k1 := k1.keep hb; replace k2 := k2.keep hb; replace k3 := k3.keep hb; replace HB := Lib.hid (below_tr HB.out hb); clear hb)
      | ((with_reducible refine at_slot 11 ?_); refine wl_ld0 rfl rfl rfl k2 Try.underlying24 rfl evInfo ?_)
      | ((with_reducible refine at_slot 12 ?_); refine wl_call rfl rfl Try.func27 (by kernel_rfl) rfl (rev_yes HC.out _) rfl ?_; intro V2 hb; replace k1 := k1.keep hb; replace k2 := k2.keep hb; replace k3 := k3.keep hb; replace HB := Lib.hid (below_tr HB.out hb); clear hb)
      | ((with_reducible refine at_slot 17 ?_); refine wl_ld1 (v := .int .i64 p.t) rfl rfl rfl k1 Try.underlying2 rfl rfl ?_)
      | ((with_reducible refine at_slot 19 ?_); refine wl_ld1 (v := .int .i64 c.t) rfl rfl rfl k2 Try.underlying2 rfl rfl ?_)
      | ((with_reducible refine at_slot 6 ?_); refine wl_alloc (A := (ceA zeroCe)) rfl rfl ce_zero rfl ?_; intro W4 g4 k4 hb hle; have n1_4 := Lib.hid (Blk.ne_of_le k1 hle); have n2_4 := Lib.hid (Blk.ne_of_le k2 hle); have n3_4 := Lib.hid (Blk.ne_of_le k3 hle); have L4 := Lib.hid (Nat.le_trans HB.out.size hle); replace k1 := k1.keep hb; replace k2 := k2.keep hb; replace k3 := k3.keep hb; replace HB := Lib.hid (below_tr HB.out hb); clear hb hle)
      | ((with_reducible refine at_slot 37 ?_); refine wl_ld1 (v := .bool c.s) rfl rfl rfl k2 Try.underlying4 rfl rfl ?_)
      | ((with_reducible refine at_slot 40 ?_); refine wl_ld1 (v := .int .i64 c.c) rfl rfl rfl k2 Try.underlying2 rfl rfl ?_)
      | ((with_reducible refine at_slot 42 ?_); refine wl_ld1 (v := .int .i64 p.t) rfl rfl rfl k1 Try.underlying2 rfl rfl ?_))
  have x0 := k1.cell 0 (v := .int .i64 p.t) rfl
  have x1 := k1.cell 1 (v := .int .u64 p.v) rfl
  have x2 := k1.cell 2 (v := .int .i64 p.c) rfl
  have x3 := k1.cell 3 (v := .bool p.s) rfl
  have y0 := k2.cell 0 (v := .int .i64 c.t) rfl
  have y1 := k2.cell 1 (v := .int .u64 c.v) rfl
  have y2 := k2.cell 2 (v := .int .i64 c.c) rfl
  have y3 := k2.cell 3 (v := .bool c.s) rfl
  have s9 := k4.cell 9 rfl
  have f9 := k4.free 9
  have s10 := k4.cell 10 rfl
  have f10 := k4.free 10
  have s11 := k4.cell 11 rfl
  have f11 := k4.free 11
  have s13 := k4.cell 13 rfl
  have f13 := k4.free 13
  have m14 := n1_4.out
  have m24 := n2_4.out
  have K1 := Lib.hid k1
  have K2 := Lib.hid k2
  have K3 := Lib.hid k3
  have K4 := Lib.hid k4
  clear k1 k2 k3 k4
  go_region
  clear x0 x1 x2 x3 y0 y1 y2 y3 s9 f9 s10 f10 s11 f11 s13 f13 m14 m24
  obtain ⟨W5, hW⟩ : ∃ X, X = ((((W4.setCell ⟨g4, 9, none⟩ (.int .u64 0)).setCell ⟨g4, 10, none⟩ (.int .u64 c.v)).setCell ⟨g4, 11, none⟩ (.int .i64 1)).setCell ⟨g4, 13, none⟩ (.int .i64 (c.t - c.c))).drew := ⟨_, rfl⟩
  rw [← hW]
  have hU : Upd g4 W4 W5 := by rw [hW]; exact (((((Upd.refl g4 W4).set (.int .u64 0)).set (.int .u64 c.v)).set (.int .i64 1)).set (.int .i64 (c.t - c.c))).drew
  have k4 : Blk W5 g4 28 #[.int .i64 0, .int .i64 0, .int .u64 0, .int .i64 0, .bool false, .int .i64 0, .int .u64 0, .int .i64 0, .bool false, .int .u64 0, .int .u64 c.v, .int .i64 1, .int .i64 0, .int .i64 (c.t - c.c)] := by rw [hW]; exact ((((K4.out.set (.int .u64 0)).set (.int .u64 c.v)).set (.int .i64 1)).set (.int .i64 (c.t - c.c))).drew
  have k1 := K1.out.upd hU n1_4.out
  have k2 := K2.out.upd hU n2_4.out
  have k3 := K3.out.upd hU n3_4.out
  replace HB := Lib.hid (upd_below HB.out hU L4.out)
  clear hU hW K1 K2 K3 K4
  go_wp2_with (first
      | ((with_reducible refine at_slot 76 ?_); refine wl_ld0 rfl rfl rfl k4 Try.underlying28 rfl ceInfo ?_)
      | ((with_reducible refine at_store 4 ?_); refine wl_st0 (A' := #[.int .i64 0, .int .i64 0, .int .u64 0, .int .i64 0, .bool false, .int .i64 0, .int .u64 0, .int .i64 0, .bool false, .int .u64 0, .int .u64 c.v, .int .i64 1, .int .i64 0, .int .i64 (c.t - c.c)]) rfl rfl rfl rfl k3 rfl ceInfo (by simp [Value.oneCell']) ?_; intro V3 kn hu; replace k1 := k1.upd hu n1_3.out; replace k2 := k2.upd hu n2_3.out; replace k4 := k4.upd hu (Ne.symm n3_4.out); replace HB := Lib.hid (upd_below HB.out hu L3.out); clear k3; have k3 : Blk _ g3 _ #[.int .i64 0, .int .i64 0, .int .u64 0, .int .i64 0, .bool false, .int .i64 0, .int .u64 0, .int .i64 0, .bool false, .int .u64 0, .int .u64 c.v, .int .i64 1, .int .i64 0, .int .i64 (c.t - c.c)] := kn; clear kn hu))
  refine bodyPost_ret (v := .tuple #[.agg #[.int .i64 0, .int .i64 0, .int .u64 0, .int .i64 0, .bool false, .int .i64 0, .int .u64 0, .int .i64 0, .bool false, .int .u64 0, .int .u64 c.v, .int .i64 1, .int .i64 0, .int .i64 (c.t - c.c)], .int .i64 0]) (results_ct Try.results22 _ rfl rfl k3 Try.underlying28 rfl ceInfo) rfl ?_
  exact ⟨be_eq HZ.out.symm rfl, HB.out⟩
set_option maxHeartbeats 4000000 in
set_option maxRecDepth 100000 in
theorem rbe_gap {p c : Ev} (hp : EvOk p) (hc : EvOk c) (hlt : p.t < c.t) (hs : c.s = false) (h2 : ¬ p.t < c.c) (h3 : p.s = true) (w : World) :
    Calls Try.prog 22 #[.agg (evA p), .agg (evA c)] w fun e w' => e = .returned (.tuple #[.agg (ceA (btC p c)), .int .i64 0]) ∧ Below w.heap.size w w' := by
  have p0 := hp.t0; have p1 := hp.t1; have p2 := hp.v0; have p3 := hp.v1; have p4 := hp.c0; have p5 := hp.c1
  have c0 := hc.t0; have c1 := hc.t1; have c2 := hc.v0; have c3 := hc.v1; have c4 := hc.c0; have c5 := hc.c1
  have d1 : decide (p.t < c.c) = false := by simp <;> omega
  have HP := Lib.hid hp
  have HC := Lib.hid hc
  clear hp hc
  have HZ := Lib.hid (ceA_bt HP.out HC.out (I := 0) (R := 0) (G := 1) (S := 0) (by simp [btI, hs, h2, h3]) (by simp [btR, hs, h2, h3]) (by simp [btG, hs, h2, h3]) (by simp [btS, hs, h2, h3]))
  have HB := Lib.hid (Below.refl w.heap.size w)
  go_enter Try.func22, Try.ntmps22
  go_wp2_with (first
      | ((with_reducible refine at_slot 2 ?_); refine wl_box (A := (evA p)) rfl rfl rfl ?_; intro W1 g1 k1 hb hle; have L1 := Lib.hid (Nat.le_trans HB.out.size hle); replace HB := Lib.hid (below_tr HB.out hb); clear hb hle)
      | ((with_reducible refine at_slot 3 ?_); refine wl_box (A := (evA c)) rfl rfl rfl ?_; intro W2 g2 k2 hb hle; have n1_2 := Lib.hid (Blk.ne_of_le k1 hle); have L2 := Lib.hid (Nat.le_trans HB.out.size hle); replace k1 := k1.keep hb; replace HB := Lib.hid (below_tr HB.out hb); clear hb hle)
      | ((with_reducible refine at_slot 4 ?_); refine wl_alloc (A := (ceA zeroCe)) rfl rfl ce_zero rfl ?_; intro W3 g3 k3 hb hle; have n1_3 := Lib.hid (Blk.ne_of_le k1 hle); have n2_3 := Lib.hid (Blk.ne_of_le k2 hle); have L3 := Lib.hid (Nat.le_trans HB.out.size hle); replace k1 := k1.keep hb; replace k2 := k2.keep hb; replace HB := Lib.hid (below_tr HB.out hb); clear hb hle)
      | ((with_reducible refine at_slot 7 ?_); refine wl_ld0 rfl rfl rfl k1 Try.underlying24 rfl evInfo ?_)
      | ((with_reducible refine at_slot 8 ?_); refine wl_call rfl rfl Try.func27 (by kernel_rfl) rfl (rev_yes HP.out _) rfl ?_; intro V1 hb; replace k1 := k1.keep hb; replace k2 := k2.keep hb; replace k3 := k3.keep hb; replace HB := Lib.hid (below_tr HB.out hb); clear hb)
      | ((with_reducible refine at_slot 11 ?_); refine wl_ld0 rfl rfl rfl k2 Try.underlying24 rfl evInfo ?_)
      | ((with_reducible refine at_slot 12 ?_); refine wl_call rfl rfl Try.func27 (by kernel_rfl) rfl (rev_yes HC.out _) rfl ?_; intro V2 hb; replace k1 := k1.keep hb; replace k2 := k2.keep hb; replace k3 := k3.keep hb; replace HB := Lib.hid (below_tr HB.out hb); clear hb)
      | ((with_reducible refine at_slot 17 ?_); refine wl_ld1 (v := .int .i64 p.t) rfl rfl rfl k1 Try.underlying2 rfl rfl ?_)
      | ((with_reducible refine at_slot 19 ?_); refine wl_ld1 (v := .int .i64 c.t) rfl rfl rfl k2 Try.underlying2 rfl rfl ?_)
      | ((with_reducible refine at_slot 6 ?_); refine wl_alloc (A := (ceA zeroCe)) rfl rfl ce_zero rfl ?_; intro W4 g4 k4 hb hle; have n1_4 := Lib.hid (Blk.ne_of_le k1 hle); have n2_4 := Lib.hid (Blk.ne_of_le k2 hle); have n3_4 := Lib.hid (Blk.ne_of_le k3 hle); have L4 := Lib.hid (Nat.le_trans HB.out.size hle); replace k1 := k1.keep hb; replace k2 := k2.keep hb; replace k3 := k3.keep hb; replace HB := Lib.hid (below_tr HB.out hb); clear hb hle)
      | ((with_reducible refine at_slot 37 ?_); refine wl_ld1 (v := .bool c.s) rfl rfl rfl k2 Try.underlying4 rfl rfl ?_)
      | ((with_reducible refine at_slot 40 ?_); refine wl_ld1 (v := .int .i64 c.c) rfl rfl rfl k2 Try.underlying2 rfl rfl ?_)
      | ((with_reducible refine at_slot 42 ?_); refine wl_ld1 (v := .int .i64 p.t) rfl rfl rfl k1 Try.underlying2 rfl rfl ?_)
      | ((with_reducible refine at_slot 57 ?_); refine wl_ld1 (v := .bool p.s) rfl rfl rfl k1 Try.underlying4 rfl rfl ?_)
      | ((with_reducible refine at_store 58 ?_); refine wl_st1 (v := .int .i64 1) rfl rfl rfl rfl k4 (by kernel_rfl) rfl rfl (by first | simp | simp [ceA]) ?_; intro V3 kn hu; replace k1 := k1.upd hu n1_4.out; replace k2 := k2.upd hu n2_4.out; replace k3 := k3.upd hu n3_4.out; replace HB := Lib.hid (upd_below HB.out hu L4.out); clear k4; have k4 : Blk _ g4 _ #[.int .i64 zeroCe.n, .int .i64 zeroCe.f.t, .int .u64 zeroCe.f.v, .int .i64 zeroCe.f.c, .bool zeroCe.f.s, .int .i64 zeroCe.l.t, .int .u64 zeroCe.l.v, .int .i64 zeroCe.l.c, .bool zeroCe.l.s, .int .u64 (hiZ zeroCe.i), .int .u64 (loZ zeroCe.i), .int .i64 zeroCe.r, .int .i64 1, .int .i64 zeroCe.s] := kn; clear kn hu)
      | ((with_reducible refine at_slot 76 ?_); refine wl_ld0 rfl rfl rfl k4 Try.underlying28 rfl ceInfo ?_)
      | ((with_reducible refine at_store 4 ?_); refine wl_st0 (A' := #[.int .i64 zeroCe.n, .int .i64 zeroCe.f.t, .int .u64 zeroCe.f.v, .int .i64 zeroCe.f.c, .bool zeroCe.f.s, .int .i64 zeroCe.l.t, .int .u64 zeroCe.l.v, .int .i64 zeroCe.l.c, .bool zeroCe.l.s, .int .u64 (hiZ zeroCe.i), .int .u64 (loZ zeroCe.i), .int .i64 zeroCe.r, .int .i64 1, .int .i64 zeroCe.s]) rfl rfl rfl rfl k3 rfl ceInfo (by simp [Value.oneCell']) ?_; intro V4 kn hu; replace k1 := k1.upd hu n1_3.out; replace k2 := k2.upd hu n2_3.out; replace k4 := k4.upd hu (Ne.symm n3_4.out); replace HB := Lib.hid (upd_below HB.out hu L3.out); clear k3; have k3 : Blk _ g3 _ #[.int .i64 zeroCe.n, .int .i64 zeroCe.f.t, .int .u64 zeroCe.f.v, .int .i64 zeroCe.f.c, .bool zeroCe.f.s, .int .i64 zeroCe.l.t, .int .u64 zeroCe.l.v, .int .i64 zeroCe.l.c, .bool zeroCe.l.s, .int .u64 (hiZ zeroCe.i), .int .u64 (loZ zeroCe.i), .int .i64 zeroCe.r, .int .i64 1, .int .i64 zeroCe.s] := kn; clear kn hu))
  refine bodyPost_ret (v := .tuple #[.agg #[.int .i64 zeroCe.n, .int .i64 zeroCe.f.t, .int .u64 zeroCe.f.v, .int .i64 zeroCe.f.c, .bool zeroCe.f.s, .int .i64 zeroCe.l.t, .int .u64 zeroCe.l.v, .int .i64 zeroCe.l.c, .bool zeroCe.l.s, .int .u64 (hiZ zeroCe.i), .int .u64 (loZ zeroCe.i), .int .i64 zeroCe.r, .int .i64 1, .int .i64 zeroCe.s], .int .i64 0]) (results_ct Try.results22 _ rfl rfl k3 Try.underlying28 rfl ceInfo) rfl ?_
  exact ⟨be_eq HZ.out.symm rfl, HB.out⟩
set_option maxHeartbeats 4000000 in
set_option maxRecDepth 100000 in
theorem rbe_less {p c : Ev} (hp : EvOk p) (hc : EvOk c) (hlt : p.t < c.t) (hs : c.s = false) (h2 : ¬ p.t < c.c) (h3 : p.s = false) (h4 : c.v < p.v) (w : World) :
    Calls Try.prog 22 #[.agg (evA p), .agg (evA c)] w fun e w' => e = .returned (.tuple #[.agg (ceA (btC p c)), .int .i64 0]) ∧ Below w.heap.size w w' := by
  have p0 := hp.t0; have p1 := hp.t1; have p2 := hp.v0; have p3 := hp.v1; have p4 := hp.c0; have p5 := hp.c1
  have c0 := hc.t0; have c1 := hc.t1; have c2 := hc.v0; have c3 := hc.v1; have c4 := hc.c0; have c5 := hc.c1
  have d1 : decide (p.t < c.c) = false := by simp <;> omega
  have d2 : decide (c.v < p.v) = true := by simp <;> omega
  have i1 : IntKind.i64.wrap (c.t - p.t) = c.t - p.t := by rw [IntKind.wrap_i64]; omega
  have HP := Lib.hid hp
  have HC := Lib.hid hc
  clear hp hc
  have HZ := Lib.hid (ceA_bt HP.out HC.out (I := c.v) (R := 1) (G := 0) (S := c.t - p.t) (by simp [btI, hs, h2, h3, h4]) (by simp [btR, hs, h2, h3, h4]) (by simp [btG, hs, h2, h3, h4]) (by simp [btS, hs, h2, h3, h4]))
  have HB := Lib.hid (Below.refl w.heap.size w)
  go_enter Try.func22, Try.ntmps22
  go_wp2_with (first
      | ((with_reducible refine at_slot 2 ?_); refine wl_box (A := (evA p)) rfl rfl rfl ?_; intro W1 g1 k1 hb hle; have L1 := Lib.hid (Nat.le_trans HB.out.size hle); replace HB := Lib.hid (below_tr HB.out hb); clear hb hle)
      | ((with_reducible refine at_slot 3 ?_); refine wl_box (A := (evA c)) rfl rfl rfl ?_; intro W2 g2 k2 hb hle; have n1_2 := Lib.hid (Blk.ne_of_le k1 hle); have L2 := Lib.hid (Nat.le_trans HB.out.size hle); replace k1 := k1.keep hb; replace HB := Lib.hid (below_tr HB.out hb); clear hb hle)
      | ((with_reducible refine at_slot 4 ?_); refine wl_alloc (A := (ceA zeroCe)) rfl rfl ce_zero rfl ?_; intro W3 g3 k3 hb hle; have n1_3 := Lib.hid (Blk.ne_of_le k1 hle); have n2_3 := Lib.hid (Blk.ne_of_le k2 hle); have L3 := Lib.hid (Nat.le_trans HB.out.size hle); replace k1 := k1.keep hb; replace k2 := k2.keep hb; replace HB := Lib.hid (below_tr HB.out hb); clear hb hle)
      | ((with_reducible refine at_slot 7 ?_); refine wl_ld0 rfl rfl rfl k1 Try.underlying24 rfl evInfo ?_)
      | ((with_reducible refine at_slot 8 ?_); refine wl_call rfl rfl Try.func27 (by kernel_rfl) rfl (rev_yes HP.out _) rfl ?_; intro V1 hb; replace k1 := k1.keep hb; replace k2 := k2.keep hb; replace k3 := k3.keep hb; replace HB := Lib.hid (below_tr HB.out hb); clear hb)
      | ((with_reducible refine at_slot 11 ?_); refine wl_ld0 rfl rfl rfl k2 Try.underlying24 rfl evInfo ?_)
      | ((with_reducible refine at_slot 12 ?_); refine wl_call rfl rfl Try.func27 (by kernel_rfl) rfl (rev_yes HC.out _) rfl ?_; intro V2 hb; replace k1 := k1.keep hb; replace k2 := k2.keep hb; replace k3 := k3.keep hb; replace HB := Lib.hid (below_tr HB.out hb); clear hb)
      | ((with_reducible refine at_slot 17 ?_); refine wl_ld1 (v := .int .i64 p.t) rfl rfl rfl k1 Try.underlying2 rfl rfl ?_)
      | ((with_reducible refine at_slot 19 ?_); refine wl_ld1 (v := .int .i64 c.t) rfl rfl rfl k2 Try.underlying2 rfl rfl ?_)
      | ((with_reducible refine at_slot 6 ?_); refine wl_alloc (A := (ceA zeroCe)) rfl rfl ce_zero rfl ?_; intro W4 g4 k4 hb hle; have n1_4 := Lib.hid (Blk.ne_of_le k1 hle); have n2_4 := Lib.hid (Blk.ne_of_le k2 hle); have n3_4 := Lib.hid (Blk.ne_of_le k3 hle); have L4 := Lib.hid (Nat.le_trans HB.out.size hle); replace k1 := k1.keep hb; replace k2 := k2.keep hb; replace k3 := k3.keep hb; replace HB := Lib.hid (below_tr HB.out hb); clear hb hle)
      | ((with_reducible refine at_slot 37 ?_); refine wl_ld1 (v := .bool c.s) rfl rfl rfl k2 Try.underlying4 rfl rfl ?_)
      | ((with_reducible refine at_slot 40 ?_); refine wl_ld1 (v := .int .i64 c.c) rfl rfl rfl k2 Try.underlying2 rfl rfl ?_)
      | ((with_reducible refine at_slot 42 ?_); refine wl_ld1 (v := .int .i64 p.t) rfl rfl rfl k1 Try.underlying2 rfl rfl ?_)
      | ((with_reducible refine at_slot 57 ?_); refine wl_ld1 (v := .bool p.s) rfl rfl rfl k1 Try.underlying4 rfl rfl ?_)
      | ((with_reducible refine at_slot 61 ?_); refine wl_ld1 (v := .int .u64 c.v) rfl rfl rfl k2 Try.underlying22 rfl rfl ?_)
      | ((with_reducible refine at_slot 63 ?_); refine wl_ld1 (v := .int .u64 p.v) rfl rfl rfl k1 Try.underlying22 rfl rfl ?_))
  have x0 := k1.cell 0 (v := .int .i64 p.t) rfl
  have x1 := k1.cell 1 (v := .int .u64 p.v) rfl
  have x2 := k1.cell 2 (v := .int .i64 p.c) rfl
  have x3 := k1.cell 3 (v := .bool p.s) rfl
  have y0 := k2.cell 0 (v := .int .i64 c.t) rfl
  have y1 := k2.cell 1 (v := .int .u64 c.v) rfl
  have y2 := k2.cell 2 (v := .int .i64 c.c) rfl
  have y3 := k2.cell 3 (v := .bool c.s) rfl
  have s9 := k4.cell 9 rfl
  have f9 := k4.free 9
  have s10 := k4.cell 10 rfl
  have f10 := k4.free 10
  have s11 := k4.cell 11 rfl
  have f11 := k4.free 11
  have s13 := k4.cell 13 rfl
  have f13 := k4.free 13
  have m14 := n1_4.out
  have m24 := n2_4.out
  have K1 := Lib.hid k1
  have K2 := Lib.hid k2
  have K3 := Lib.hid k3
  have K4 := Lib.hid k4
  clear k1 k2 k3 k4
  go_region
  clear x0 x1 x2 x3 y0 y1 y2 y3 s9 f9 s10 f10 s11 f11 s13 f13 m14 m24
  obtain ⟨W5, hW⟩ : ∃ X, X = ((((W4.setCell ⟨g4, 9, none⟩ (.int .u64 0)).setCell ⟨g4, 10, none⟩ (.int .u64 c.v)).setCell ⟨g4, 11, none⟩ (.int .i64 1)).setCell ⟨g4, 13, none⟩ (.int .i64 (c.t - p.t))).drew := ⟨_, rfl⟩
  rw [← hW]
  have hU : Upd g4 W4 W5 := by rw [hW]; exact (((((Upd.refl g4 W4).set (.int .u64 0)).set (.int .u64 c.v)).set (.int .i64 1)).set (.int .i64 (c.t - p.t))).drew
  have k4 : Blk W5 g4 28 #[.int .i64 0, .int .i64 0, .int .u64 0, .int .i64 0, .bool false, .int .i64 0, .int .u64 0, .int .i64 0, .bool false, .int .u64 0, .int .u64 c.v, .int .i64 1, .int .i64 0, .int .i64 (c.t - p.t)] := by rw [hW]; exact ((((K4.out.set (.int .u64 0)).set (.int .u64 c.v)).set (.int .i64 1)).set (.int .i64 (c.t - p.t))).drew
  have k1 := K1.out.upd hU n1_4.out
  have k2 := K2.out.upd hU n2_4.out
  have k3 := K3.out.upd hU n3_4.out
  replace HB := Lib.hid (upd_below HB.out hU L4.out)
  clear hU hW K1 K2 K3 K4
  go_wp2_with (first
      | ((with_reducible refine at_slot 76 ?_); refine wl_ld0 rfl rfl rfl k4 Try.underlying28 rfl ceInfo ?_)
      | ((with_reducible refine at_store 4 ?_); refine wl_st0 (A' := #[.int .i64 0, .int .i64 0, .int .u64 0, .int .i64 0, .bool false, .int .i64 0, .int .u64 0, .int .i64 0, .bool false, .int .u64 0, .int .u64 c.v, .int .i64 1, .int .i64 0, .int .i64 (c.t - p.t)]) rfl rfl rfl rfl k3 rfl ceInfo (by simp [Value.oneCell']) ?_; intro V3 kn hu; replace k1 := k1.upd hu n1_3.out; replace k2 := k2.upd hu n2_3.out; replace k4 := k4.upd hu (Ne.symm n3_4.out); replace HB := Lib.hid (upd_below HB.out hu L3.out); clear k3; have k3 : Blk _ g3 _ #[.int .i64 0, .int .i64 0, .int .u64 0, .int .i64 0, .bool false, .int .i64 0, .int .u64 0, .int .i64 0, .bool false, .int .u64 0, .int .u64 c.v, .int .i64 1, .int .i64 0, .int .i64 (c.t - p.t)] := kn; clear kn hu))
  refine bodyPost_ret (v := .tuple #[.agg #[.int .i64 0, .int .i64 0, .int .u64 0, .int .i64 0, .bool false, .int .i64 0, .int .u64 0, .int .i64 0, .bool false, .int .u64 0, .int .u64 c.v, .int .i64 1, .int .i64 0, .int .i64 (c.t - p.t)], .int .i64 0]) (results_ct Try.results22 _ rfl rfl k3 Try.underlying28 rfl ceInfo) rfl ?_
  exact ⟨be_eq HZ.out.symm rfl, HB.out⟩
set_option maxHeartbeats 4000000 in
set_option maxRecDepth 100000 in
theorem rbe_more {p c : Ev} (hp : EvOk p) (hc : EvOk c) (hlt : p.t < c.t) (hs : c.s = false) (h2 : ¬ p.t < c.c) (h3 : p.s = false) (h4 : ¬ c.v < p.v) (w : World) :
    Calls Try.prog 22 #[.agg (evA p), .agg (evA c)] w fun e w' => e = .returned (.tuple #[.agg (ceA (btC p c)), .int .i64 0]) ∧ Below w.heap.size w w' := by
  have p0 := hp.t0; have p1 := hp.t1; have p2 := hp.v0; have p3 := hp.v1; have p4 := hp.c0; have p5 := hp.c1
  have c0 := hc.t0; have c1 := hc.t1; have c2 := hc.v0; have c3 := hc.v1; have c4 := hc.c0; have c5 := hc.c1
  have d1 : decide (p.t < c.c) = false := by simp <;> omega
  have d2 : decide (c.v < p.v) = false := by simp <;> omega
  have i1 : IntKind.i64.wrap (c.t - p.t) = c.t - p.t := by rw [IntKind.wrap_i64]; omega
  have i2 : IntKind.u64.wrap (c.v - p.v) = c.v - p.v := by rw [IntKind.wrap_u64]; omega
  have HP := Lib.hid hp
  have HC := Lib.hid hc
  clear hp hc
  have HZ := Lib.hid (ceA_bt HP.out HC.out (I := (c.v - p.v)) (R := 0) (G := 0) (S := c.t - p.t) (by simp [btI, hs, h2, h3, h4]) (by simp [btR, hs, h2, h3, h4]) (by simp [btG, hs, h2, h3, h4]) (by simp [btS, hs, h2, h3, h4]))
  have HB := Lib.hid (Below.refl w.heap.size w)
  go_enter Try.func22, Try.ntmps22
  go_wp2_with (first
      | ((with_reducible refine at_slot 2 ?_); refine wl_box (A := (evA p)) rfl rfl rfl ?_; intro W1 g1 k1 hb hle; have L1 := Lib.hid (Nat.le_trans HB.out.size hle); replace HB := Lib.hid (below_tr HB.out hb); clear hb hle)
      | ((with_reducible refine at_slot 3 ?_); refine wl_box (A := (evA c)) rfl rfl rfl ?_; intro W2 g2 k2 hb hle; have n1_2 := Lib.hid (Blk.ne_of_le k1 hle); have L2 := Lib.hid (Nat.le_trans HB.out.size hle); replace k1 := k1.keep hb; replace HB := Lib.hid (below_tr HB.out hb); clear hb hle)
      | ((with_reducible refine at_slot 4 ?_); refine wl_alloc (A := (ceA zeroCe)) rfl rfl ce_zero rfl ?_; intro W3 g3 k3 hb hle; have n1_3 := Lib.hid (Blk.ne_of_le k1 hle); have n2_3 := Lib.hid (Blk.ne_of_le k2 hle); have L3 := Lib.hid (Nat.le_trans HB.out.size hle); replace k1 := k1.keep hb; replace k2 := k2.keep hb; replace HB := Lib.hid (below_tr HB.out hb); clear hb hle)
      | ((with_reducible refine at_slot 7 ?_); refine wl_ld0 rfl rfl rfl k1 Try.underlying24 rfl evInfo ?_)
      | ((with_reducible refine at_slot 8 ?_); refine wl_call rfl rfl Try.func27 (by kernel_rfl) rfl (rev_yes HP.out _) rfl ?_; intro V1 hb; replace k1 := k1.keep hb; replace k2 := k2.keep hb; replace k3 := k3.keep hb; replace HB := Lib.hid (below_tr HB.out hb); clear hb)
      | ((with_reducible refine at_slot 11 ?_); refine wl_ld0 rfl rfl rfl k2 Try.underlying24 rfl evInfo ?_)
      | ((with_reducible refine at_slot 12 ?_); refine wl_call rfl rfl Try.func27 (by kernel_rfl) rfl (rev_yes HC.out _) rfl ?_; intro V2 hb; replace k1 := k1.keep hb; replace k2 := k2.keep hb; replace k3 := k3.keep hb; replace HB := Lib.hid (below_tr HB.out hb); clear hb)
      | ((with_reducible refine at_slot 17 ?_); refine wl_ld1 (v := .int .i64 p.t) rfl rfl rfl k1 Try.underlying2 rfl rfl ?_)
      | ((with_reducible refine at_slot 19 ?_); refine wl_ld1 (v := .int .i64 c.t) rfl rfl rfl k2 Try.underlying2 rfl rfl ?_)
      | ((with_reducible refine at_slot 6 ?_); refine wl_alloc (A := (ceA zeroCe)) rfl rfl ce_zero rfl ?_; intro W4 g4 k4 hb hle; have n1_4 := Lib.hid (Blk.ne_of_le k1 hle); have n2_4 := Lib.hid (Blk.ne_of_le k2 hle); have n3_4 := Lib.hid (Blk.ne_of_le k3 hle); have L4 := Lib.hid (Nat.le_trans HB.out.size hle); replace k1 := k1.keep hb; replace k2 := k2.keep hb; replace k3 := k3.keep hb; replace HB := Lib.hid (below_tr HB.out hb); clear hb hle)
      | ((with_reducible refine at_slot 37 ?_); refine wl_ld1 (v := .bool c.s) rfl rfl rfl k2 Try.underlying4 rfl rfl ?_)
      | ((with_reducible refine at_slot 40 ?_); refine wl_ld1 (v := .int .i64 c.c) rfl rfl rfl k2 Try.underlying2 rfl rfl ?_)
      | ((with_reducible refine at_slot 42 ?_); refine wl_ld1 (v := .int .i64 p.t) rfl rfl rfl k1 Try.underlying2 rfl rfl ?_)
      | ((with_reducible refine at_slot 57 ?_); refine wl_ld1 (v := .bool p.s) rfl rfl rfl k1 Try.underlying4 rfl rfl ?_)
      | ((with_reducible refine at_slot 61 ?_); refine wl_ld1 (v := .int .u64 c.v) rfl rfl rfl k2 Try.underlying22 rfl rfl ?_)
      | ((with_reducible refine at_slot 63 ?_); refine wl_ld1 (v := .int .u64 p.v) rfl rfl rfl k1 Try.underlying22 rfl rfl ?_))
  have x0 := k1.cell 0 (v := .int .i64 p.t) rfl
  have x1 := k1.cell 1 (v := .int .u64 p.v) rfl
  have x2 := k1.cell 2 (v := .int .i64 p.c) rfl
  have x3 := k1.cell 3 (v := .bool p.s) rfl
  have y0 := k2.cell 0 (v := .int .i64 c.t) rfl
  have y1 := k2.cell 1 (v := .int .u64 c.v) rfl
  have y2 := k2.cell 2 (v := .int .i64 c.c) rfl
  have y3 := k2.cell 3 (v := .bool c.s) rfl
  have s9 := k4.cell 9 rfl
  have f9 := k4.free 9
  have s10 := k4.cell 10 rfl
  have f10 := k4.free 10
  have s13 := k4.cell 13 rfl
  have f13 := k4.free 13
  have m14 := n1_4.out
  have m24 := n2_4.out
  have K1 := Lib.hid k1
  have K2 := Lib.hid k2
  have K3 := Lib.hid k3
  have K4 := Lib.hid k4
  clear k1 k2 k3 k4
  go_region
  clear x0 x1 x2 x3 y0 y1 y2 y3 s9 f9 s10 f10 s13 f13 m14 m24
  obtain ⟨W5, hW⟩ : ∃ X, X = (((W4.setCell ⟨g4, 9, none⟩ (.int .u64 0)).setCell ⟨g4, 10, none⟩ (.int .u64 (c.v - p.v))).setCell ⟨g4, 13, none⟩ (.int .i64 (c.t - p.t))).drew := ⟨_, rfl⟩
  rw [← hW]
  have hU : Upd g4 W4 W5 := by rw [hW]; exact ((((Upd.refl g4 W4).set (.int .u64 0)).set (.int .u64 (c.v - p.v))).set (.int .i64 (c.t - p.t))).drew
  have k4 : Blk W5 g4 28 #[.int .i64 0, .int .i64 0, .int .u64 0, .int .i64 0, .bool false, .int .i64 0, .int .u64 0, .int .i64 0, .bool false, .int .u64 0, .int .u64 (c.v - p.v), .int .i64 0, .int .i64 0, .int .i64 (c.t - p.t)] := by rw [hW]; exact (((K4.out.set (.int .u64 0)).set (.int .u64 (c.v - p.v))).set (.int .i64 (c.t - p.t))).drew
  have k1 := K1.out.upd hU n1_4.out
  have k2 := K2.out.upd hU n2_4.out
  have k3 := K3.out.upd hU n3_4.out
  replace HB := Lib.hid (upd_below HB.out hU L4.out)
  clear hU hW K1 K2 K3 K4
  go_wp2_with (first
      | ((with_reducible refine at_slot 76 ?_); refine wl_ld0 rfl rfl rfl k4 Try.underlying28 rfl ceInfo ?_)
      | ((with_reducible refine at_store 4 ?_); refine wl_st0 (A' := #[.int .i64 0, .int .i64 0, .int .u64 0, .int .i64 0, .bool false, .int .i64 0, .int .u64 0, .int .i64 0, .bool false, .int .u64 0, .int .u64 (c.v - p.v), .int .i64 0, .int .i64 0, .int .i64 (c.t - p.t)]) rfl rfl rfl rfl k3 rfl ceInfo (by simp [Value.oneCell']) ?_; intro V3 kn hu; replace k1 := k1.upd hu n1_3.out; replace k2 := k2.upd hu n2_3.out; replace k4 := k4.upd hu (Ne.symm n3_4.out); replace HB := Lib.hid (upd_below HB.out hu L3.out); clear k3; have k3 : Blk _ g3 _ #[.int .i64 0, .int .i64 0, .int .u64 0, .int .i64 0, .bool false, .int .i64 0, .int .u64 0, .int .i64 0, .bool false, .int .u64 0, .int .u64 (c.v - p.v), .int .i64 0, .int .i64 0, .int .i64 (c.t - p.t)] := kn; clear kn hu))
  refine bodyPost_ret (v := .tuple #[.agg #[.int .i64 0, .int .i64 0, .int .u64 0, .int .i64 0, .bool false, .int .i64 0, .int .u64 0, .int .i64 0, .bool false, .int .u64 0, .int .u64 (c.v - p.v), .int .i64 0, .int .i64 0, .int .i64 (c.t - p.t)], .int .i64 0]) (results_ct Try.results22 _ rfl rfl k3 Try.underlying28 rfl ceInfo) rfl ?_
  exact ⟨be_eq HZ.out.symm rfl, HB.out⟩
/-- Between, of any two events. -/
theorem rbe_any {p c : Ev} (ip : EvIn p) (ic : EvIn c) (w : World) :
    Calls Try.prog 22 #[.agg (evA p), .agg (evA c)] w fun e w' => e = .returned (.tuple #[.agg (ceA (beC p c)), .int .i64 (beE p c)]) ∧ Below w.heap.size w w' := by
  by_cases hp : EvOk p
  · by_cases hc : EvOk c
    · by_cases h : p.t < c.t
      · rw [beE_good hp hc h, beC_good hp hc h]
        cases hs : c.s with
        | true => exact rbe_stale hp hc h hs w
        | false =>
          by_cases h2 : p.t < c.c
          · exact rbe_made hp hc h hs h2 w
          · cases h3 : p.s with
            | true => exact rbe_gap hp hc h hs h2 h3 w
            | false =>
              by_cases h4 : c.v < p.v
              · exact rbe_less hp hc h hs h2 h3 h4 w
              · exact rbe_more hp hc h hs h2 h3 h4 w
      · rw [beE_time hp hc h, beC_time h]; exact rbe_time hp hc h w
    · rw [beE_no (fun x => hc x.2), beC_no (fun x => hc x.2)]; exact rbe_no2 hp ic hc w
  · rw [beE_no (fun x => hp x.1), beC_no (fun x => hp x.1)]; exact rbe_no1 ip hp w
end Go.Proofs.Ytjdjebhimljedaa
