/-
  WALKS: cell.Merge: what it answers, of any two cells.
-/
import Derived.Test.YtjdjebhimljedaaCk
namespace Go.Proofs.Ytjdjebhimljedaa
open Go Go.RowKit

theorem sum3 (x y z : U) {W : World} {g : Nat} (h : Blk W g 26 (wdA x ++ wdA y ++ wdA z)) :
    Calls Try.prog 21 #[.slice (some ⟨g, 0, none⟩) 3 3] W fun e w' => e = .returned (.tuple #[.agg (wdA (cutU (x.n + (y.n + (z.n + 0))))), .int .i64 (cutE (x.n + (y.n + (z.n + 0))))]) ∧ Below W.heap.size W w' := by
  refine sum_any [x, y, z] g 0 3 W ?_ h.lt (by simp)
  intro i hi
  have hi' : i < 3 := hi
  have hcase : i = 0 ∨ i = 1 ∨ i = 2 := by omega
  rcases hcase with rfl | rfl | rfl
  · exact ⟨h.cell 0 rfl, h.cell 1 rfl⟩
  · exact ⟨h.cell 2 rfl, h.cell 3 rfl⟩
  · exact ⟨h.cell 4 rfl, h.cell 5 rfl⟩
theorem sum3_ok {x y z : U} (hs : x.n + (y.n + (z.n + 0)) < 340282366920938463463374607431768211456) {W : World} {g : Nat} (h : Blk W g 26 (wdA x ++ wdA y ++ wdA z)) :
    Calls Try.prog 21 #[.slice (some ⟨g, 0, none⟩) 3 3] W fun e w' => e = .returned (.tuple #[.agg (wdA (cutU (x.n + (y.n + (z.n + 0))))), .int .i64 0]) ∧ Below W.heap.size W w' := by
  have := sum3 x y z h
  rwa [cutE_lt hs] at this
/-- What a right cell's numbers are between. -/
structure CeBd (x : Ce) : Prop where
  n0 : 0 ≤ x.n
  n1 : x.n ≤ 35184372088832
  r0 : 0 ≤ x.r
  r1 : x.r ≤ 35184372088832
  g0 : 0 ≤ x.g
  g1 : x.g ≤ 35184372088832
  s0 : 0 ≤ x.s
  s1 : x.s ≤ 35184372088832
  i : x.i.n ≤ 649037107316853453566312041152511
theorem CeOk.bd {x : Ce} (h : CeOk x) : CeBd x := by
  rcases h with rfl | ⟨he, hn⟩
  · constructor <;> (first | decide | (show (0 : Nat) ≤ _; omega))
  · have := he.n; have := he.le; have := he.f.t0; have := he.l.t1; have := hn.r; have := hn.g; have := hn.rg; have := hn.s; have := hn.s1; have := hn.i
    refine ⟨by omega, by omega, by omega, by omega, by omega, by omega, by omega, by omega, ?_⟩
    have hk : (x.n - 1).toNat ≤ 35184372088831 := by omega
    have := Nat.mul_le_mul_left 18446744073709551615 hk
    omega
/-- What right cells, both of something, merge to. -/
noncomputable def mgC (a b : Ce) : Ce := ⟨a.n + b.n, a.f, b.l, cutU (a.i.n + ((btC a.l b.f).i.n + (b.i.n + 0))), a.r + (btC a.l b.f).r + b.r, a.g + (btC a.l b.f).g + b.g, a.s + (btC a.l b.f).s + b.s⟩
theorem bt_bd {p c : Ev} (hp : EvOk p) (hc : EvOk c) (h : p.t < c.t) : 0 ≤ (btC p c).r ∧ (btC p c).r ≤ 1 ∧ 0 ≤ (btC p c).g ∧ (btC p c).g ≤ 1 ∧ 0 ≤ (btC p c).s ∧ (btC p c).s ≤ c.t - p.t ∧ (btC p c).i.n ≤ 18446744073709551615 := by
  have h1 := btI_bd hp hc
  have h2 := btU_n hp hc
  have a1 := hp.t0; have a2 := hc.t1; have a3 := hc.c1; have a4 := hc.c0
  refine ⟨?_, ?_, ?_, ?_, ?_, ?_, ?_⟩
  · show 0 ≤ btR p c; unfold btR; repeat' split
    all_goals omega
  · show btR p c ≤ 1; unfold btR; repeat' split
    all_goals omega
  · show 0 ≤ btG p c; unfold btG; repeat' split
    all_goals omega
  · show btG p c ≤ 1; unfold btG; repeat' split
    all_goals omega
  · show 0 ≤ btS p c; unfold btS; repeat' split
    all_goals omega
  · show btS p c ≤ c.t - p.t; unfold btS; repeat' split
    all_goals omega
  · show (btU p c).n ≤ _; rw [h2]; omega

set_option maxHeartbeats 4000000 in
set_option maxRecDepth 100000 in
theorem mg1 {a b : Ce} (ia : CeIn a) (ib : CeIn b) (ca : ¬ CeOk a) (w : World) :
    Calls Try.prog 7 #[.agg (ceA a), .agg (ceA b)] w fun e w' => e = .returned (.tuple #[.agg (ceA zeroCe), .int .i64 2]) ∧ Below w.heap.size w w' := by
  have IA := Lib.hid ia
  have IB := Lib.hid ib
  have CA := Lib.hid ca
  clear ia ib ca
  have HB := Lib.hid (Below.refl w.heap.size w)
  go_enter Try.func7, Try.ntmps7
  go_wp2_with (first
      | ((with_reducible refine at_slot 2 ?_); refine wl_box (A := (ceA a)) rfl rfl rfl ?_; intro W1 g1 k1 hb hle; have L1 := Lib.hid (Nat.le_trans HB.out.size hle); replace HB := Lib.hid (below_tr HB.out hb); clear hb hle)
      | ((with_reducible refine at_slot 3 ?_); refine wl_box (A := (ceA b)) rfl rfl rfl ?_; intro W2 g2 k2 hb hle; have n1_2 := Lib.hid (Blk.ne_of_le k1 hle); have L2 := Lib.hid (Nat.le_trans HB.out.size hle); replace k1 := k1.keep hb; replace HB := Lib.hid (below_tr HB.out hb); clear hb hle)
      | ((with_reducible refine at_slot 4 ?_); refine wl_alloc (A := (ceA zeroCe)) rfl rfl ce_zero rfl ?_; intro W3 g3 k3 hb hle; have n1_3 := Lib.hid (Blk.ne_of_le k1 hle); have n2_3 := Lib.hid (Blk.ne_of_le k2 hle); have L3 := Lib.hid (Nat.le_trans HB.out.size hle); replace k1 := k1.keep hb; replace k2 := k2.keep hb; replace HB := Lib.hid (below_tr HB.out hb); clear hb hle)
      | ((with_reducible refine at_slot 9 ?_); refine wl_ld0 rfl rfl rfl k1 Try.underlying28 rfl ceInfo ?_)
      | ((with_reducible refine at_slot 10 ?_); refine wl_call rfl rfl Try.func13 (by kernel_rfl) rfl (ck_no IA.out CA.out _) rfl ?_; intro V1 hb; replace k1 := k1.keep hb; replace k2 := k2.keep hb; replace k3 := k3.keep hb; replace HB := Lib.hid (below_tr HB.out hb); clear hb)
      | ((with_reducible refine at_slot 13 ?_); refine wl_ld0 rfl rfl rfl k2 Try.underlying28 rfl ceInfo ?_)
      | ((with_reducible refine at_slot 17 ?_); refine wl_build (v := .agg (ceA zeroCe)) rfl rfl (build_ce0 _) rfl ?_)
      | ((with_reducible refine at_store 4 ?_); refine wl_st0 (A' := (ceA zeroCe)) rfl rfl rfl rfl k3 rfl ceInfo (ceA_one zeroCe) ?_; intro V2 kn hu; replace k1 := k1.upd hu n1_3.out; replace k2 := k2.upd hu n2_3.out; replace HB := Lib.hid (upd_below HB.out hu L3.out); clear k3; have k3 : Blk _ g3 _ (ceA zeroCe) := kn; clear kn hu))
  refine bodyPost_ret (v := .tuple #[.agg (ceA zeroCe), .int .i64 2]) (results_ct Try.results7 _ rfl rfl k3 Try.underlying28 rfl ceInfo) rfl ?_
  exact ⟨rfl, HB.out⟩
set_option maxHeartbeats 4000000 in
set_option maxRecDepth 100000 in
theorem mg2 {a b : Ce} (ia : CeIn a) (ib : CeIn b) (ca : CeOk a) (cb : ¬ CeOk b) (w : World) :
    Calls Try.prog 7 #[.agg (ceA a), .agg (ceA b)] w fun e w' => e = .returned (.tuple #[.agg (ceA zeroCe), .int .i64 2]) ∧ Below w.heap.size w w' := by
  have IA := Lib.hid ia
  have IB := Lib.hid ib
  have CA := Lib.hid ca
  have CB := Lib.hid cb
  clear ia ib ca cb
  have HB := Lib.hid (Below.refl w.heap.size w)
  go_enter Try.func7, Try.ntmps7
  go_wp2_with (first
      | ((with_reducible refine at_slot 2 ?_); refine wl_box (A := (ceA a)) rfl rfl rfl ?_; intro W1 g1 k1 hb hle; have L1 := Lib.hid (Nat.le_trans HB.out.size hle); replace HB := Lib.hid (below_tr HB.out hb); clear hb hle)
      | ((with_reducible refine at_slot 3 ?_); refine wl_box (A := (ceA b)) rfl rfl rfl ?_; intro W2 g2 k2 hb hle; have n1_2 := Lib.hid (Blk.ne_of_le k1 hle); have L2 := Lib.hid (Nat.le_trans HB.out.size hle); replace k1 := k1.keep hb; replace HB := Lib.hid (below_tr HB.out hb); clear hb hle)
      | ((with_reducible refine at_slot 4 ?_); refine wl_alloc (A := (ceA zeroCe)) rfl rfl ce_zero rfl ?_; intro W3 g3 k3 hb hle; have n1_3 := Lib.hid (Blk.ne_of_le k1 hle); have n2_3 := Lib.hid (Blk.ne_of_le k2 hle); have L3 := Lib.hid (Nat.le_trans HB.out.size hle); replace k1 := k1.keep hb; replace k2 := k2.keep hb; replace HB := Lib.hid (below_tr HB.out hb); clear hb hle)
      | ((with_reducible refine at_slot 9 ?_); refine wl_ld0 rfl rfl rfl k1 Try.underlying28 rfl ceInfo ?_)
      | ((with_reducible refine at_slot 10 ?_); refine wl_call rfl rfl Try.func13 (by kernel_rfl) rfl (ck_yes IA.out CA.out _) rfl ?_; intro V1 hb; replace k1 := k1.keep hb; replace k2 := k2.keep hb; replace k3 := k3.keep hb; replace HB := Lib.hid (below_tr HB.out hb); clear hb)
      | ((with_reducible refine at_slot 13 ?_); refine wl_ld0 rfl rfl rfl k2 Try.underlying28 rfl ceInfo ?_)
      | ((with_reducible refine at_slot 14 ?_); refine wl_call rfl rfl Try.func13 (by kernel_rfl) rfl (ck_no IB.out CB.out _) rfl ?_; intro V2 hb; replace k1 := k1.keep hb; replace k2 := k2.keep hb; replace k3 := k3.keep hb; replace HB := Lib.hid (below_tr HB.out hb); clear hb)
      | ((with_reducible refine at_slot 17 ?_); refine wl_build (v := .agg (ceA zeroCe)) rfl rfl (build_ce0 _) rfl ?_)
      | ((with_reducible refine at_store 4 ?_); refine wl_st0 (A' := (ceA zeroCe)) rfl rfl rfl rfl k3 rfl ceInfo (ceA_one zeroCe) ?_; intro V3 kn hu; replace k1 := k1.upd hu n1_3.out; replace k2 := k2.upd hu n2_3.out; replace HB := Lib.hid (upd_below HB.out hu L3.out); clear k3; have k3 : Blk _ g3 _ (ceA zeroCe) := kn; clear kn hu))
  refine bodyPost_ret (v := .tuple #[.agg (ceA zeroCe), .int .i64 2]) (results_ct Try.results7 _ rfl rfl k3 Try.underlying28 rfl ceInfo) rfl ?_
  exact ⟨rfl, HB.out⟩
set_option maxHeartbeats 4000000 in
set_option maxRecDepth 100000 in
theorem mg3 {a b : Ce} (ia : CeIn a) (ib : CeIn b) (ca : CeOk a) (cb : CeOk b) (za : a = zeroCe) (w : World) :
    Calls Try.prog 7 #[.agg (ceA a), .agg (ceA b)] w fun e w' => e = .returned (.tuple #[.agg (ceA b), .int .i64 0]) ∧ Below w.heap.size w w' := by
  have IA := Lib.hid ia
  have IB := Lib.hid ib
  have CA := Lib.hid ca
  have CB := Lib.hid cb
  have ZA := Lib.hid za
  clear ia ib ca cb za
  have HB := Lib.hid (Below.refl w.heap.size w)
  go_enter Try.func7, Try.ntmps7
  go_wp2_with (first
      | ((with_reducible refine at_slot 2 ?_); refine wl_box (A := (ceA a)) rfl rfl rfl ?_; intro W1 g1 k1 hb hle; have L1 := Lib.hid (Nat.le_trans HB.out.size hle); replace HB := Lib.hid (below_tr HB.out hb); clear hb hle)
      | ((with_reducible refine at_slot 3 ?_); refine wl_box (A := (ceA b)) rfl rfl rfl ?_; intro W2 g2 k2 hb hle; have n1_2 := Lib.hid (Blk.ne_of_le k1 hle); have L2 := Lib.hid (Nat.le_trans HB.out.size hle); replace k1 := k1.keep hb; replace HB := Lib.hid (below_tr HB.out hb); clear hb hle)
      | ((with_reducible refine at_slot 4 ?_); refine wl_alloc (A := (ceA zeroCe)) rfl rfl ce_zero rfl ?_; intro W3 g3 k3 hb hle; have n1_3 := Lib.hid (Blk.ne_of_le k1 hle); have n2_3 := Lib.hid (Blk.ne_of_le k2 hle); have L3 := Lib.hid (Nat.le_trans HB.out.size hle); replace k1 := k1.keep hb; replace k2 := k2.keep hb; replace HB := Lib.hid (below_tr HB.out hb); clear hb hle)
      | ((with_reducible refine at_slot 9 ?_); refine wl_ld0 rfl rfl rfl k1 Try.underlying28 rfl ceInfo ?_)
      | ((with_reducible refine at_slot 10 ?_); refine wl_call rfl rfl Try.func13 (by kernel_rfl) rfl (ck_yes IA.out CA.out _) rfl ?_; intro V1 hb; replace k1 := k1.keep hb; replace k2 := k2.keep hb; replace k3 := k3.keep hb; replace HB := Lib.hid (below_tr HB.out hb); clear hb)
      | ((with_reducible refine at_slot 13 ?_); refine wl_ld0 rfl rfl rfl k2 Try.underlying28 rfl ceInfo ?_)
      | ((with_reducible refine at_slot 14 ?_); refine wl_call rfl rfl Try.func13 (by kernel_rfl) rfl (ck_yes IB.out CB.out _) rfl ?_; intro V2 hb; replace k1 := k1.keep hb; replace k2 := k2.keep hb; replace k3 := k3.keep hb; replace HB := Lib.hid (below_tr HB.out hb); clear hb)
      | ((with_reducible refine at_slot 18 ?_); refine wl_ld0 rfl rfl rfl k1 Try.underlying28 rfl ceInfo ?_)
      | ((with_reducible refine at_slot 19 ?_); refine wl_call rfl rfl Try.func19 (by kernel_rfl) rfl (isZero_is ZA.out _) rfl ?_; intro V3 hb; replace k1 := k1.keep hb; replace k2 := k2.keep hb; replace k3 := k3.keep hb; replace HB := Lib.hid (below_tr HB.out hb); clear hb)
      | ((with_reducible refine at_slot 20 ?_); refine wl_ld0 rfl rfl rfl k2 Try.underlying28 rfl ceInfo ?_)
      | ((with_reducible refine at_store 4 ?_); refine wl_st0 (A' := (ceA b)) rfl rfl rfl rfl k3 rfl ceInfo (ceA_one b) ?_; intro V4 kn hu; replace k1 := k1.upd hu n1_3.out; replace k2 := k2.upd hu n2_3.out; replace HB := Lib.hid (upd_below HB.out hu L3.out); clear k3; have k3 : Blk _ g3 _ (ceA b) := kn; clear kn hu))
  refine bodyPost_ret (v := .tuple #[.agg (ceA b), .int .i64 0]) (results_ct Try.results7 _ rfl rfl k3 Try.underlying28 rfl ceInfo) rfl ?_
  exact ⟨rfl, HB.out⟩
set_option maxHeartbeats 4000000 in
set_option maxRecDepth 100000 in
theorem mg4 {a b : Ce} (ia : CeIn a) (ib : CeIn b) (ca : CeOk a) (cb : CeOk b) (za : ¬ a = zeroCe) (zb : b = zeroCe) (w : World) :
    Calls Try.prog 7 #[.agg (ceA a), .agg (ceA b)] w fun e w' => e = .returned (.tuple #[.agg (ceA a), .int .i64 0]) ∧ Below w.heap.size w w' := by
  have IA := Lib.hid ia
  have IB := Lib.hid ib
  have CA := Lib.hid ca
  have CB := Lib.hid cb
  have ZA := Lib.hid za
  have ZB := Lib.hid zb
  clear ia ib ca cb za zb
  have HB := Lib.hid (Below.refl w.heap.size w)
  go_enter Try.func7, Try.ntmps7
  go_wp2_with (first
      | ((with_reducible refine at_slot 2 ?_); refine wl_box (A := (ceA a)) rfl rfl rfl ?_; intro W1 g1 k1 hb hle; have L1 := Lib.hid (Nat.le_trans HB.out.size hle); replace HB := Lib.hid (below_tr HB.out hb); clear hb hle)
      | ((with_reducible refine at_slot 3 ?_); refine wl_box (A := (ceA b)) rfl rfl rfl ?_; intro W2 g2 k2 hb hle; have n1_2 := Lib.hid (Blk.ne_of_le k1 hle); have L2 := Lib.hid (Nat.le_trans HB.out.size hle); replace k1 := k1.keep hb; replace HB := Lib.hid (below_tr HB.out hb); clear hb hle)
      | ((with_reducible refine at_slot 4 ?_); refine wl_alloc (A := (ceA zeroCe)) rfl rfl ce_zero rfl ?_; intro W3 g3 k3 hb hle; have n1_3 := Lib.hid (Blk.ne_of_le k1 hle); have n2_3 := Lib.hid (Blk.ne_of_le k2 hle); have L3 := Lib.hid (Nat.le_trans HB.out.size hle); replace k1 := k1.keep hb; replace k2 := k2.keep hb; replace HB := Lib.hid (below_tr HB.out hb); clear hb hle)
      | ((with_reducible refine at_slot 9 ?_); refine wl_ld0 rfl rfl rfl k1 Try.underlying28 rfl ceInfo ?_)
      | ((with_reducible refine at_slot 10 ?_); refine wl_call rfl rfl Try.func13 (by kernel_rfl) rfl (ck_yes IA.out CA.out _) rfl ?_; intro V1 hb; replace k1 := k1.keep hb; replace k2 := k2.keep hb; replace k3 := k3.keep hb; replace HB := Lib.hid (below_tr HB.out hb); clear hb)
      | ((with_reducible refine at_slot 13 ?_); refine wl_ld0 rfl rfl rfl k2 Try.underlying28 rfl ceInfo ?_)
      | ((with_reducible refine at_slot 14 ?_); refine wl_call rfl rfl Try.func13 (by kernel_rfl) rfl (ck_yes IB.out CB.out _) rfl ?_; intro V2 hb; replace k1 := k1.keep hb; replace k2 := k2.keep hb; replace k3 := k3.keep hb; replace HB := Lib.hid (below_tr HB.out hb); clear hb)
      | ((with_reducible refine at_slot 18 ?_); refine wl_ld0 rfl rfl rfl k1 Try.underlying28 rfl ceInfo ?_)
      | ((with_reducible refine at_slot 19 ?_); refine wl_call rfl rfl Try.func19 (by kernel_rfl) rfl (isZero_no ZA.out _) rfl ?_; intro V3 hb; replace k1 := k1.keep hb; replace k2 := k2.keep hb; replace k3 := k3.keep hb; replace HB := Lib.hid (below_tr HB.out hb); clear hb)
      | ((with_reducible refine at_slot 21 ?_); refine wl_ld0 rfl rfl rfl k2 Try.underlying28 rfl ceInfo ?_)
      | ((with_reducible refine at_slot 22 ?_); refine wl_call rfl rfl Try.func19 (by kernel_rfl) rfl (isZero_is ZB.out _) rfl ?_; intro V4 hb; replace k1 := k1.keep hb; replace k2 := k2.keep hb; replace k3 := k3.keep hb; replace HB := Lib.hid (below_tr HB.out hb); clear hb)
      | ((with_reducible refine at_slot 23 ?_); refine wl_ld0 rfl rfl rfl k1 Try.underlying28 rfl ceInfo ?_)
      | ((with_reducible refine at_store 4 ?_); refine wl_st0 (A' := (ceA a)) rfl rfl rfl rfl k3 rfl ceInfo (ceA_one a) ?_; intro V5 kn hu; replace k1 := k1.upd hu n1_3.out; replace k2 := k2.upd hu n2_3.out; replace HB := Lib.hid (upd_below HB.out hu L3.out); clear k3; have k3 : Blk _ g3 _ (ceA a) := kn; clear kn hu))
  refine bodyPost_ret (v := .tuple #[.agg (ceA a), .int .i64 0]) (results_ct Try.results7 _ rfl rfl k3 Try.underlying28 rfl ceInfo) rfl ?_
  exact ⟨rfl, HB.out⟩
set_option maxHeartbeats 4000000 in
set_option maxRecDepth 100000 in
theorem mg5 {a b : Ce} (ia : CeIn a) (ib : CeIn b) (ca : CeOk a) (cb : CeOk b) (za : ¬ a = zeroCe) (zb : ¬ b = zeroCe) (el : EvOk a.l) (ef : EvOk b.f) (ht : ¬ a.l.t < b.f.t) (w : World) :
    Calls Try.prog 7 #[.agg (ceA a), .agg (ceA b)] w fun e w' => e = .returned (.tuple #[.agg (ceA zeroCe), .int .i64 9]) ∧ Below w.heap.size w w' := by
  have IA := Lib.hid ia
  have IB := Lib.hid ib
  have CA := Lib.hid ca
  have CB := Lib.hid cb
  have ZA := Lib.hid za
  have ZB := Lib.hid zb
  have EL := Lib.hid el
  have EF := Lib.hid ef
  have HT := Lib.hid ht
  clear ia ib ca cb za zb el ef ht
  have HB := Lib.hid (Below.refl w.heap.size w)
  go_enter Try.func7, Try.ntmps7
  go_wp2_with (first
      | ((with_reducible refine at_slot 2 ?_); refine wl_box (A := (ceA a)) rfl rfl rfl ?_; intro W1 g1 k1 hb hle; have L1 := Lib.hid (Nat.le_trans HB.out.size hle); replace HB := Lib.hid (below_tr HB.out hb); clear hb hle)
      | ((with_reducible refine at_slot 3 ?_); refine wl_box (A := (ceA b)) rfl rfl rfl ?_; intro W2 g2 k2 hb hle; have n1_2 := Lib.hid (Blk.ne_of_le k1 hle); have L2 := Lib.hid (Nat.le_trans HB.out.size hle); replace k1 := k1.keep hb; replace HB := Lib.hid (below_tr HB.out hb); clear hb hle)
      | ((with_reducible refine at_slot 4 ?_); refine wl_alloc (A := (ceA zeroCe)) rfl rfl ce_zero rfl ?_; intro W3 g3 k3 hb hle; have n1_3 := Lib.hid (Blk.ne_of_le k1 hle); have n2_3 := Lib.hid (Blk.ne_of_le k2 hle); have L3 := Lib.hid (Nat.le_trans HB.out.size hle); replace k1 := k1.keep hb; replace k2 := k2.keep hb; replace HB := Lib.hid (below_tr HB.out hb); clear hb hle)
      | ((with_reducible refine at_slot 9 ?_); refine wl_ld0 rfl rfl rfl k1 Try.underlying28 rfl ceInfo ?_)
      | ((with_reducible refine at_slot 10 ?_); refine wl_call rfl rfl Try.func13 (by kernel_rfl) rfl (ck_yes IA.out CA.out _) rfl ?_; intro V1 hb; replace k1 := k1.keep hb; replace k2 := k2.keep hb; replace k3 := k3.keep hb; replace HB := Lib.hid (below_tr HB.out hb); clear hb)
      | ((with_reducible refine at_slot 13 ?_); refine wl_ld0 rfl rfl rfl k2 Try.underlying28 rfl ceInfo ?_)
      | ((with_reducible refine at_slot 14 ?_); refine wl_call rfl rfl Try.func13 (by kernel_rfl) rfl (ck_yes IB.out CB.out _) rfl ?_; intro V2 hb; replace k1 := k1.keep hb; replace k2 := k2.keep hb; replace k3 := k3.keep hb; replace HB := Lib.hid (below_tr HB.out hb); clear hb)
      | ((with_reducible refine at_slot 18 ?_); refine wl_ld0 rfl rfl rfl k1 Try.underlying28 rfl ceInfo ?_)
      | ((with_reducible refine at_slot 19 ?_); refine wl_call rfl rfl Try.func19 (by kernel_rfl) rfl (isZero_no ZA.out _) rfl ?_; intro V3 hb; replace k1 := k1.keep hb; replace k2 := k2.keep hb; replace k3 := k3.keep hb; replace HB := Lib.hid (below_tr HB.out hb); clear hb)
      | ((with_reducible refine at_slot 21 ?_); refine wl_ld0 rfl rfl rfl k2 Try.underlying28 rfl ceInfo ?_)
      | ((with_reducible refine at_slot 22 ?_); refine wl_call rfl rfl Try.func19 (by kernel_rfl) rfl (isZero_no ZB.out _) rfl ?_; intro V4 hb; replace k1 := k1.keep hb; replace k2 := k2.keep hb; replace k3 := k3.keep hb; replace HB := Lib.hid (below_tr HB.out hb); clear hb)
      | ((with_reducible refine at_slot 26 ?_); refine wl_ld (evA a.l) rfl rfl rfl k1 Try.underlying24 rfl evInfo (ceA_pl a) ?_)
      | ((with_reducible refine at_slot 28 ?_); refine wl_ld (evA b.f) rfl rfl rfl k2 Try.underlying24 rfl evInfo (ceA_pf b) ?_)
      | ((with_reducible refine at_slot 29 ?_); refine wl_call rfl rfl Try.func20 (by kernel_rfl) rfl (be_time EL.out EF.out HT.out _) rfl ?_; intro V5 hb; replace k1 := k1.keep hb; replace k2 := k2.keep hb; replace k3 := k3.keep hb; replace HB := Lib.hid (below_tr HB.out hb); clear hb)
      | ((with_reducible refine at_slot 6 ?_); refine wl_alloc (A := (ceA zeroCe)) rfl rfl ce_zero rfl ?_; intro W4 g4 k4 hb hle; have n1_4 := Lib.hid (Blk.ne_of_le k1 hle); have n2_4 := Lib.hid (Blk.ne_of_le k2 hle); have n3_4 := Lib.hid (Blk.ne_of_le k3 hle); have L4 := Lib.hid (Nat.le_trans HB.out.size hle); replace k1 := k1.keep hb; replace k2 := k2.keep hb; replace k3 := k3.keep hb; replace HB := Lib.hid (below_tr HB.out hb); clear hb hle)
      | ((with_reducible refine at_store 6 ?_); refine wl_st0 (A' := (ceA zeroCe)) rfl rfl rfl rfl k4 rfl ceInfo (ceA_one zeroCe) ?_; intro V6 kn hu; replace k1 := k1.upd hu n1_4.out; replace k2 := k2.upd hu n2_4.out; replace k3 := k3.upd hu n3_4.out; replace HB := Lib.hid (upd_below HB.out hu L4.out); clear k4; have k4 : Blk _ g4 _ (ceA zeroCe) := kn; clear kn hu)
      | ((with_reducible refine at_slot 34 ?_); refine wl_build (v := .agg (ceA zeroCe)) rfl rfl (build_ce0 _) rfl ?_)
      | ((with_reducible refine at_store 4 ?_); refine wl_st0 (A' := (ceA zeroCe)) rfl rfl rfl rfl k3 rfl ceInfo (ceA_one zeroCe) ?_; intro V7 kn hu; replace k1 := k1.upd hu n1_3.out; replace k2 := k2.upd hu n2_3.out; replace k4 := k4.upd hu (Ne.symm n3_4.out); replace HB := Lib.hid (upd_below HB.out hu L3.out); clear k3; have k3 : Blk _ g3 _ (ceA zeroCe) := kn; clear kn hu))
  refine bodyPost_ret (v := .tuple #[.agg (ceA zeroCe), .int .i64 9]) (results_ct Try.results7 _ rfl rfl k3 Try.underlying28 rfl ceInfo) rfl ?_
  exact ⟨rfl, HB.out⟩
set_option maxHeartbeats 4000000 in
set_option maxRecDepth 100000 in
theorem mg6 {a b : Ce} (ia : CeIn a) (ib : CeIn b) (ca : CeOk a) (cb : CeOk b) (za : ¬ a = zeroCe) (zb : ¬ b = zeroCe) (el : EvOk a.l) (ef : EvOk b.f) (ht : a.l.t < b.f.t) (w : World) :
    Calls Try.prog 7 #[.agg (ceA a), .agg (ceA b)] w fun e w' => e = .returned (.tuple #[.agg (ceA (mgC a b)), .int .i64 0]) ∧ Below w.heap.size w w' := by
  have x0 := ca.bd; have y0 := cb.bd
  have z0 := bt_bd el ef ht
  have e1 := el.t0; have e2 := ef.t1
  have x1 := x0.n0; have x2 := x0.n1; have x3 := x0.r0; have x4 := x0.r1; have x5 := x0.g0; have x6 := x0.g1; have x7 := x0.s0; have x8 := x0.s1; have x9 := x0.i
  have y1 := y0.n0; have y2 := y0.n1; have y3 := y0.r0; have y4 := y0.r1; have y5 := y0.g0; have y6 := y0.g1; have y7 := y0.s0; have y8 := y0.s1; have y9 := y0.i
  obtain ⟨z1, z2, z3, z4, z5, z6, z7⟩ := z0
  obtain ⟨s, hs⟩ : ∃ s, s = btC a.l b.f := ⟨_, rfl⟩
  have hres : mgC a b = ⟨a.n + b.n, a.f, b.l, cutU (a.i.n + (s.i.n + (b.i.n + 0))), a.r + s.r + b.r, a.g + s.g + b.g, a.s + s.s + b.s⟩ := by rw [hs]; rfl
  have BE : Hid (∀ w, Calls Try.prog 20 #[.agg (evA a.l), .agg (evA b.f)] w fun e w' => e = .returned (.tuple #[.agg (ceA s), .int .i64 0]) ∧ Below w.heap.size w w') := Lib.hid (fun w => by rw [hs]; exact be_good el ef ht w)
  rw [hres]
  rw [← hs] at z1 z2 z3 z4 z5 z6 z7
  have HS : Hid (a.i.n + (s.i.n + (b.i.n + 0)) < 340282366920938463463374607431768211456) := Lib.hid (by omega)
  clear x0 y0 hs hres el ef ht x9 y9 z7
  have IA := Lib.hid ia
  have IB := Lib.hid ib
  have CA := Lib.hid ca
  have CB := Lib.hid cb
  have ZA := Lib.hid za
  have ZB := Lib.hid zb
  clear ia ib ca cb za zb
  have HB := Lib.hid (Below.refl w.heap.size w)
  go_enter Try.func7, Try.ntmps7
  go_wp2_with (first
      | ((with_reducible refine at_slot 2 ?_); refine wl_box (A := (ceA a)) rfl rfl rfl ?_; intro W1 g1 k1 hb hle; have L1 := Lib.hid (Nat.le_trans HB.out.size hle); replace HB := Lib.hid (below_tr HB.out hb); clear hb hle)
      | ((with_reducible refine at_slot 3 ?_); refine wl_box (A := (ceA b)) rfl rfl rfl ?_; intro W2 g2 k2 hb hle; have n1_2 := Lib.hid (Blk.ne_of_le k1 hle); have L2 := Lib.hid (Nat.le_trans HB.out.size hle); replace k1 := k1.keep hb; replace HB := Lib.hid (below_tr HB.out hb); clear hb hle)
      | ((with_reducible refine at_slot 4 ?_); refine wl_alloc (A := (ceA zeroCe)) rfl rfl ce_zero rfl ?_; intro W3 g3 k3 hb hle; have n1_3 := Lib.hid (Blk.ne_of_le k1 hle); have n2_3 := Lib.hid (Blk.ne_of_le k2 hle); have L3 := Lib.hid (Nat.le_trans HB.out.size hle); replace k1 := k1.keep hb; replace k2 := k2.keep hb; replace HB := Lib.hid (below_tr HB.out hb); clear hb hle)
      | ((with_reducible refine at_slot 9 ?_); refine wl_ld0 rfl rfl rfl k1 Try.underlying28 rfl ceInfo ?_)
      | ((with_reducible refine at_slot 10 ?_); refine wl_call rfl rfl Try.func13 (by kernel_rfl) rfl (ck_yes IA.out CA.out _) rfl ?_; intro V1 hb; replace k1 := k1.keep hb; replace k2 := k2.keep hb; replace k3 := k3.keep hb; replace HB := Lib.hid (below_tr HB.out hb); clear hb)
      | ((with_reducible refine at_slot 13 ?_); refine wl_ld0 rfl rfl rfl k2 Try.underlying28 rfl ceInfo ?_)
      | ((with_reducible refine at_slot 14 ?_); refine wl_call rfl rfl Try.func13 (by kernel_rfl) rfl (ck_yes IB.out CB.out _) rfl ?_; intro V2 hb; replace k1 := k1.keep hb; replace k2 := k2.keep hb; replace k3 := k3.keep hb; replace HB := Lib.hid (below_tr HB.out hb); clear hb)
      | ((with_reducible refine at_slot 18 ?_); refine wl_ld0 rfl rfl rfl k1 Try.underlying28 rfl ceInfo ?_)
      | ((with_reducible refine at_slot 19 ?_); refine wl_call rfl rfl Try.func19 (by kernel_rfl) rfl (isZero_no ZA.out _) rfl ?_; intro V3 hb; replace k1 := k1.keep hb; replace k2 := k2.keep hb; replace k3 := k3.keep hb; replace HB := Lib.hid (below_tr HB.out hb); clear hb)
      | ((with_reducible refine at_slot 21 ?_); refine wl_ld0 rfl rfl rfl k2 Try.underlying28 rfl ceInfo ?_)
      | ((with_reducible refine at_slot 22 ?_); refine wl_call rfl rfl Try.func19 (by kernel_rfl) rfl (isZero_no ZB.out _) rfl ?_; intro V4 hb; replace k1 := k1.keep hb; replace k2 := k2.keep hb; replace k3 := k3.keep hb; replace HB := Lib.hid (below_tr HB.out hb); clear hb)
      | ((with_reducible refine at_slot 26 ?_); refine wl_ld (evA a.l) rfl rfl rfl k1 Try.underlying24 rfl evInfo (ceA_pl a) ?_)
      | ((with_reducible refine at_slot 28 ?_); refine wl_ld (evA b.f) rfl rfl rfl k2 Try.underlying24 rfl evInfo (ceA_pf b) ?_)
      | ((with_reducible refine at_slot 29 ?_); refine wl_call rfl rfl Try.func20 (by kernel_rfl) rfl (BE.out _) rfl ?_; intro V5 hb; replace k1 := k1.keep hb; replace k2 := k2.keep hb; replace k3 := k3.keep hb; replace HB := Lib.hid (below_tr HB.out hb); clear hb)
      | ((with_reducible refine at_slot 6 ?_); refine wl_alloc (A := (ceA zeroCe)) rfl rfl ce_zero rfl ?_; intro W4 g4 k4 hb hle; have n1_4 := Lib.hid (Blk.ne_of_le k1 hle); have n2_4 := Lib.hid (Blk.ne_of_le k2 hle); have n3_4 := Lib.hid (Blk.ne_of_le k3 hle); have L4 := Lib.hid (Nat.le_trans HB.out.size hle); replace k1 := k1.keep hb; replace k2 := k2.keep hb; replace k3 := k3.keep hb; replace HB := Lib.hid (below_tr HB.out hb); clear hb hle)
      | ((with_reducible refine at_store 6 ?_); refine wl_st0 (A' := (ceA s)) rfl rfl rfl rfl k4 rfl ceInfo (ceA_one s) ?_; intro V6 kn hu; replace k1 := k1.upd hu n1_4.out; replace k2 := k2.upd hu n2_4.out; replace k3 := k3.upd hu n3_4.out; replace HB := Lib.hid (upd_below HB.out hu L4.out); clear k4; have k4 : Blk _ g4 _ (ceA s) := kn; clear kn hu)
      | ((with_reducible refine at_slot 38 ?_); refine wl_ld (wdA a.i) rfl rfl rfl k1 Try.underlying26 rfl wdInfo (ceA_pi a) ?_)
      | ((with_reducible refine at_slot 40 ?_); refine wl_ld (wdA s.i) rfl rfl rfl k4 Try.underlying26 rfl wdInfo (ceA_pi s) ?_)
      | ((with_reducible refine at_slot 42 ?_); refine wl_ld (wdA b.i) rfl rfl rfl k2 Try.underlying26 rfl wdInfo (ceA_pi b) ?_)
      | ((with_reducible refine at_slot 43 ?_); refine wl_bslice (A := (wdA a.i ++ wdA s.i ++ wdA b.i)) rfl rfl (bs3_wd _ _ _ _) rfl ?_; intro W5 g5 k5 hb hle; have n1_5 := Lib.hid (Blk.ne_of_le k1 hle); have n2_5 := Lib.hid (Blk.ne_of_le k2 hle); have n3_5 := Lib.hid (Blk.ne_of_le k3 hle); have n4_5 := Lib.hid (Blk.ne_of_le k4 hle); have L5 := Lib.hid (Nat.le_trans HB.out.size hle); replace k1 := k1.keep hb; replace k2 := k2.keep hb; replace k3 := k3.keep hb; replace k4 := k4.keep hb; replace HB := Lib.hid (below_tr HB.out hb); clear hb hle)
      | ((with_reducible refine at_slot 44 ?_); refine wl_call rfl rfl Try.func21 (by kernel_rfl) rfl (sum3_ok HS.out k5) rfl ?_; intro V7 hb; replace k1 := k1.keep hb; replace k2 := k2.keep hb; replace k3 := k3.keep hb; replace k4 := k4.keep hb; replace k5 := k5.keep hb; replace HB := Lib.hid (below_tr HB.out hb); clear hb)
      | ((with_reducible refine at_slot 8 ?_); refine wl_alloc (A := (wdA U.zero)) rfl rfl wd_zero rfl ?_; intro W6 g6 k6 hb hle; have n1_6 := Lib.hid (Blk.ne_of_le k1 hle); have n2_6 := Lib.hid (Blk.ne_of_le k2 hle); have n3_6 := Lib.hid (Blk.ne_of_le k3 hle); have n4_6 := Lib.hid (Blk.ne_of_le k4 hle); have n5_6 := Lib.hid (Blk.ne_of_le k5 hle); have L6 := Lib.hid (Nat.le_trans HB.out.size hle); replace k1 := k1.keep hb; replace k2 := k2.keep hb; replace k3 := k3.keep hb; replace k4 := k4.keep hb; replace k5 := k5.keep hb; replace HB := Lib.hid (below_tr HB.out hb); clear hb hle)
      | ((with_reducible refine at_store 8 ?_); refine wl_st0 (A' := (wdA (cutU (a.i.n + (s.i.n + (b.i.n + 0)))))) rfl rfl rfl rfl k6 rfl wdInfo (wdA_one (cutU (a.i.n + (s.i.n + (b.i.n + 0))))) ?_; intro V8 kn hu; replace k1 := k1.upd hu n1_6.out; replace k2 := k2.upd hu n2_6.out; replace k3 := k3.upd hu n3_6.out; replace k4 := k4.upd hu n4_6.out; replace k5 := k5.upd hu n5_6.out; replace HB := Lib.hid (upd_below HB.out hu L6.out); clear k6; have k6 : Blk _ g6 _ (wdA (cutU (a.i.n + (s.i.n + (b.i.n + 0))))) := kn; clear kn hu)
      | ((with_reducible refine at_slot 52 ?_); refine wl_ld1 (v := .int .i64 a.n) rfl rfl rfl k1 Try.underlying2 rfl rfl ?_)
      | ((with_reducible refine at_slot 54 ?_); refine wl_ld1 (v := .int .i64 b.n) rfl rfl rfl k2 Try.underlying2 rfl rfl ?_)
      | ((with_reducible refine at_slot 57 ?_); refine wl_ld (evA a.f) rfl rfl rfl k1 Try.underlying24 rfl evInfo (ceA_pf a) ?_)
      | ((with_reducible refine at_slot 59 ?_); refine wl_ld (evA b.l) rfl rfl rfl k2 Try.underlying24 rfl evInfo (ceA_pl b) ?_)
      | ((with_reducible refine at_slot 60 ?_); refine wl_ld0 rfl rfl rfl k6 Try.underlying26 rfl wdInfo ?_)
      | ((with_reducible refine at_slot 62 ?_); refine wl_ld1 (v := .int .i64 a.r) rfl rfl rfl k1 Try.underlying2 rfl rfl ?_)
      | ((with_reducible refine at_slot 64 ?_); refine wl_ld1 (v := .int .i64 s.r) rfl rfl rfl k4 Try.underlying2 rfl rfl ?_)
      | ((with_reducible refine at_slot 67 ?_); refine wl_ld1 (v := .int .i64 b.r) rfl rfl rfl k2 Try.underlying2 rfl rfl ?_)
      | ((with_reducible refine at_slot 70 ?_); refine wl_ld1 (v := .int .i64 a.g) rfl rfl rfl k1 Try.underlying2 rfl rfl ?_)
      | ((with_reducible refine at_slot 72 ?_); refine wl_ld1 (v := .int .i64 s.g) rfl rfl rfl k4 Try.underlying2 rfl rfl ?_)
      | ((with_reducible refine at_slot 75 ?_); refine wl_ld1 (v := .int .i64 b.g) rfl rfl rfl k2 Try.underlying2 rfl rfl ?_)
      | ((with_reducible refine at_slot 78 ?_); refine wl_ld1 (v := .int .i64 a.s) rfl rfl rfl k1 Try.underlying2 rfl rfl ?_)
      | ((with_reducible refine at_slot 80 ?_); refine wl_ld1 (v := .int .i64 s.s) rfl rfl rfl k4 Try.underlying2 rfl rfl ?_)
      | ((with_reducible refine at_slot 83 ?_); refine wl_ld1 (v := .int .i64 b.s) rfl rfl rfl k2 Try.underlying2 rfl rfl ?_)
      | ((with_reducible refine at_slot 85 ?_); refine wl_build (v := .agg (ceA ⟨a.n + b.n, a.f, b.l, (cutU (a.i.n + (s.i.n + (b.i.n + 0)))), a.r + s.r + b.r, a.g + s.g + b.g, a.s + s.s + b.s⟩)) rfl rfl (build_ce _ _ _ _ _ _ _ _) rfl ?_)
      | ((with_reducible refine at_store 4 ?_); refine wl_st0 (A' := (ceA ⟨a.n + b.n, a.f, b.l, (cutU (a.i.n + (s.i.n + (b.i.n + 0)))), a.r + s.r + b.r, a.g + s.g + b.g, a.s + s.s + b.s⟩)) rfl rfl rfl rfl k3 rfl ceInfo (ceA_one ⟨a.n + b.n, a.f, b.l, (cutU (a.i.n + (s.i.n + (b.i.n + 0)))), a.r + s.r + b.r, a.g + s.g + b.g, a.s + s.s + b.s⟩) ?_; intro V9 kn hu; replace k1 := k1.upd hu n1_3.out; replace k2 := k2.upd hu n2_3.out; replace k4 := k4.upd hu (Ne.symm n3_4.out); replace k5 := k5.upd hu (Ne.symm n3_5.out); replace k6 := k6.upd hu (Ne.symm n3_6.out); replace HB := Lib.hid (upd_below HB.out hu L3.out); clear k3; have k3 : Blk _ g3 _ (ceA ⟨a.n + b.n, a.f, b.l, (cutU (a.i.n + (s.i.n + (b.i.n + 0)))), a.r + s.r + b.r, a.g + s.g + b.g, a.s + s.s + b.s⟩) := kn; clear kn hu))
  refine bodyPost_ret (v := .tuple #[.agg (ceA ⟨a.n + b.n, a.f, b.l, (cutU (a.i.n + (s.i.n + (b.i.n + 0)))), a.r + s.r + b.r, a.g + s.g + b.g, a.s + s.s + b.s⟩), .int .i64 0]) (results_ct Try.results7 _ rfl rfl k3 Try.underlying28 rfl ceInfo) rfl ?_
  exact ⟨rfl, HB.out⟩
end Go.Proofs.Ytjdjebhimljedaa
