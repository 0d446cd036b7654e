/-
  THE DOCUMENT'S ANSWERS for cells: plimsollref08.Merge.
-/
import Derived.Test.YtjdjebhimljedaaRc8b
namespace Go.Proofs.Ytjdjebhimljedaa
open Go Go.RowKit

theorem rsum3 (x y z : U) {W : World} {g : Nat} (h : Blk W g 26 (wdA x ++ wdA y ++ wdA z)) :
    Calls Try.prog 23 #[.slice (some ⟨g, 0, none⟩) 3 3] W fun e w' => e = .returned (.tuple #[.agg (wdA (cutU (x.n + (y.n + (z.n + 0))))), .int .i64 (cutE (x.n + (y.n + (z.n + 0))))]) ∧ Below W.heap.size W w' := by
  refine rsum [x, y, z] g 0 3 W ?_ h.lt (by simp)
  intro i hi
  have hi' : i < 3 := hi
  have hcase : i = 0 ∨ i = 1 ∨ i = 2 := by omega
  rcases hcase with rfl | rfl | rfl
  · exact ⟨h.cell 0 rfl, h.cell 1 rfl⟩
  · exact ⟨h.cell 2 rfl, h.cell 3 rfl⟩
  · exact ⟨h.cell 4 rfl, h.cell 5 rfl⟩
theorem rsum3_ok {x y z : U} (hs : x.n + (y.n + (z.n + 0)) < 340282366920938463463374607431768211456) {W : World} {g : Nat} (h : Blk W g 26 (wdA x ++ wdA y ++ wdA z)) :
    Calls Try.prog 23 #[.slice (some ⟨g, 0, none⟩) 3 3] W fun e w' => e = .returned (.tuple #[.agg (wdA (cutU (x.n + (y.n + (z.n + 0))))), .int .i64 0]) ∧ Below W.heap.size W w' := by
  have := rsum3 x y z h
  rwa [cutE_lt hs] at this
theorem rbe_good {p c : Ev} (hp : EvOk p) (hc : EvOk c) (hlt : p.t < c.t) (w : World) :
    Calls Try.prog 22 #[.agg (evA p), .agg (evA c)] w fun e w' => e = .returned (.tuple #[.agg (ceA (btC p c)), .int .i64 0]) ∧ Below w.heap.size w w' := by
  have := rbe_any hp.in hc.in w
  rwa [beC_good hp hc hlt, beE_good hp hc hlt] at this
set_option maxHeartbeats 4000000 in
set_option maxRecDepth 100000 in
theorem rmg1 {a b : Ce} (ia : CeIn a) (ib : CeIn b) (ca : ¬ CeOk a) (w : World) :
    Calls Try.prog 8 #[.agg (ceA a), .agg (ceA b)] w fun e w' => e = .returned (.tuple #[.agg (ceA zeroCe), .int .i64 2]) ∧ Below w.heap.size w w' := by
  have IA := Lib.hid ia
  have IB := Lib.hid ib
  have CA := Lib.hid ca
  clear ia ib ca
  have HB := Lib.hid (Below.refl w.heap.size w)
  go_enter Try.func8, Try.ntmps8
  go_wp2_with (first
      | ((with_reducible refine at_slot 2 ?_); refine wl_box (A := (ceA a)) rfl rfl rfl ?_; intro W1 g1 k1 hb hle; have L1 := Lib.hid (Nat.le_trans HB.out.size hle); replace HB := Lib.hid (below_tr HB.out hb); clear hb hle)
      | ((with_reducible refine at_slot 3 ?_); refine wl_box (A := (ceA b)) rfl rfl rfl ?_; intro W2 g2 k2 hb hle; have n1_2 := Lib.hid (Blk.ne_of_le k1 hle); have L2 := Lib.hid (Nat.le_trans HB.out.size hle); replace k1 := k1.keep hb; replace HB := Lib.hid (below_tr HB.out hb); clear hb hle)
      | ((with_reducible refine at_slot 4 ?_); refine wl_alloc (A := (ceA zeroCe)) rfl rfl ce_zero rfl ?_; intro W3 g3 k3 hb hle; have n1_3 := Lib.hid (Blk.ne_of_le k1 hle); have n2_3 := Lib.hid (Blk.ne_of_le k2 hle); have L3 := Lib.hid (Nat.le_trans HB.out.size hle); replace k1 := k1.keep hb; replace k2 := k2.keep hb; replace HB := Lib.hid (below_tr HB.out hb); clear hb hle)
      | ((with_reducible refine at_slot 10 ?_); refine wl_ld0 rfl rfl rfl k1 Try.underlying28 rfl ceInfo ?_)
      | ((with_reducible refine at_slot 11 ?_); refine wl_call rfl rfl Try.func14 (by kernel_rfl) rfl (rc_bad IA.out CA.out _) rfl ?_; intro V1 hb; replace k1 := k1.keep hb; replace k2 := k2.keep hb; replace k3 := k3.keep hb; replace HB := Lib.hid (below_tr HB.out hb); clear hb)
      | ((with_reducible refine at_slot 18 ?_); refine wl_build (v := .agg (ceA zeroCe)) rfl rfl (build_ce0 _) rfl ?_)
      | ((with_reducible refine at_store 4 ?_); refine wl_st0 (A' := (ceA zeroCe)) rfl rfl rfl rfl k3 rfl ceInfo (ceA_one zeroCe) ?_; intro V2 kn hu; replace k1 := k1.upd hu n1_3.out; replace k2 := k2.upd hu n2_3.out; replace HB := Lib.hid (upd_below HB.out hu L3.out); clear k3; have k3 : Blk _ g3 _ (ceA zeroCe) := kn; clear kn hu))
  refine bodyPost_ret (v := .tuple #[.agg (ceA zeroCe), .int .i64 2]) (results_ct Try.results8 _ rfl rfl k3 Try.underlying28 rfl ceInfo) rfl ?_
  exact ⟨rfl, HB.out⟩
set_option maxHeartbeats 4000000 in
set_option maxRecDepth 100000 in
theorem rmg2 {a b : Ce} (ia : CeIn a) (ib : CeIn b) (ca : CeOk a) (cb : ¬ CeOk b) (w : World) :
    Calls Try.prog 8 #[.agg (ceA a), .agg (ceA b)] w fun e w' => e = .returned (.tuple #[.agg (ceA zeroCe), .int .i64 2]) ∧ Below w.heap.size w w' := by
  have IA := Lib.hid ia
  have IB := Lib.hid ib
  have CA := Lib.hid ca
  have CB := Lib.hid cb
  clear ia ib ca cb
  have HB := Lib.hid (Below.refl w.heap.size w)
  go_enter Try.func8, Try.ntmps8
  go_wp2_with (first
      | ((with_reducible refine at_slot 2 ?_); refine wl_box (A := (ceA a)) rfl rfl rfl ?_; intro W1 g1 k1 hb hle; have L1 := Lib.hid (Nat.le_trans HB.out.size hle); replace HB := Lib.hid (below_tr HB.out hb); clear hb hle)
      | ((with_reducible refine at_slot 3 ?_); refine wl_box (A := (ceA b)) rfl rfl rfl ?_; intro W2 g2 k2 hb hle; have n1_2 := Lib.hid (Blk.ne_of_le k1 hle); have L2 := Lib.hid (Nat.le_trans HB.out.size hle); replace k1 := k1.keep hb; replace HB := Lib.hid (below_tr HB.out hb); clear hb hle)
      | ((with_reducible refine at_slot 4 ?_); refine wl_alloc (A := (ceA zeroCe)) rfl rfl ce_zero rfl ?_; intro W3 g3 k3 hb hle; have n1_3 := Lib.hid (Blk.ne_of_le k1 hle); have n2_3 := Lib.hid (Blk.ne_of_le k2 hle); have L3 := Lib.hid (Nat.le_trans HB.out.size hle); replace k1 := k1.keep hb; replace k2 := k2.keep hb; replace HB := Lib.hid (below_tr HB.out hb); clear hb hle)
      | ((with_reducible refine at_slot 10 ?_); refine wl_ld0 rfl rfl rfl k1 Try.underlying28 rfl ceInfo ?_)
      | ((with_reducible refine at_slot 11 ?_); refine wl_call rfl rfl Try.func14 (by kernel_rfl) rfl (rc_ok IA.out CA.out _) rfl ?_; intro V1 hb; replace k1 := k1.keep hb; replace k2 := k2.keep hb; replace k3 := k3.keep hb; replace HB := Lib.hid (below_tr HB.out hb); clear hb)
      | ((with_reducible refine at_slot 14 ?_); refine wl_ld0 rfl rfl rfl k2 Try.underlying28 rfl ceInfo ?_)
      | ((with_reducible refine at_slot 15 ?_); refine wl_call rfl rfl Try.func14 (by kernel_rfl) rfl (rc_bad IB.out CB.out _) rfl ?_; intro V2 hb; replace k1 := k1.keep hb; replace k2 := k2.keep hb; replace k3 := k3.keep hb; replace HB := Lib.hid (below_tr HB.out hb); clear hb)
      | ((with_reducible refine at_slot 18 ?_); refine wl_build (v := .agg (ceA zeroCe)) rfl rfl (build_ce0 _) rfl ?_)
      | ((with_reducible refine at_store 4 ?_); refine wl_st0 (A' := (ceA zeroCe)) rfl rfl rfl rfl k3 rfl ceInfo (ceA_one zeroCe) ?_; intro V3 kn hu; replace k1 := k1.upd hu n1_3.out; replace k2 := k2.upd hu n2_3.out; replace HB := Lib.hid (upd_below HB.out hu L3.out); clear k3; have k3 : Blk _ g3 _ (ceA zeroCe) := kn; clear kn hu))
  refine bodyPost_ret (v := .tuple #[.agg (ceA zeroCe), .int .i64 2]) (results_ct Try.results8 _ rfl rfl k3 Try.underlying28 rfl ceInfo) rfl ?_
  exact ⟨rfl, HB.out⟩
set_option maxHeartbeats 4000000 in
set_option maxRecDepth 100000 in
theorem rmg3 {a b : Ce} (ia : CeIn a) (ib : CeIn b) (ca : CeOk a) (cb : CeOk b) (za : a = zeroCe) (w : World) :
    Calls Try.prog 8 #[.agg (ceA a), .agg (ceA b)] w fun e w' => e = .returned (.tuple #[.agg (ceA b), .int .i64 0]) ∧ Below w.heap.size w w' := by
  have da : (a.n == 0) = true := by rw [za]; rfl
  have IA := Lib.hid ia
  have IB := Lib.hid ib
  have CA := Lib.hid ca
  have CB := Lib.hid cb
  have ZA := Lib.hid za
  clear ia ib ca cb za
  have HB := Lib.hid (Below.refl w.heap.size w)
  go_enter Try.func8, Try.ntmps8
  go_wp2_with (first
      | ((with_reducible refine at_slot 2 ?_); refine wl_box (A := (ceA a)) rfl rfl rfl ?_; intro W1 g1 k1 hb hle; have L1 := Lib.hid (Nat.le_trans HB.out.size hle); replace HB := Lib.hid (below_tr HB.out hb); clear hb hle)
      | ((with_reducible refine at_slot 3 ?_); refine wl_box (A := (ceA b)) rfl rfl rfl ?_; intro W2 g2 k2 hb hle; have n1_2 := Lib.hid (Blk.ne_of_le k1 hle); have L2 := Lib.hid (Nat.le_trans HB.out.size hle); replace k1 := k1.keep hb; replace HB := Lib.hid (below_tr HB.out hb); clear hb hle)
      | ((with_reducible refine at_slot 4 ?_); refine wl_alloc (A := (ceA zeroCe)) rfl rfl ce_zero rfl ?_; intro W3 g3 k3 hb hle; have n1_3 := Lib.hid (Blk.ne_of_le k1 hle); have n2_3 := Lib.hid (Blk.ne_of_le k2 hle); have L3 := Lib.hid (Nat.le_trans HB.out.size hle); replace k1 := k1.keep hb; replace k2 := k2.keep hb; replace HB := Lib.hid (below_tr HB.out hb); clear hb hle)
      | ((with_reducible refine at_slot 10 ?_); refine wl_ld0 rfl rfl rfl k1 Try.underlying28 rfl ceInfo ?_)
      | ((with_reducible refine at_slot 11 ?_); refine wl_call rfl rfl Try.func14 (by kernel_rfl) rfl (rc_ok IA.out CA.out _) rfl ?_; intro V1 hb; replace k1 := k1.keep hb; replace k2 := k2.keep hb; replace k3 := k3.keep hb; replace HB := Lib.hid (below_tr HB.out hb); clear hb)
      | ((with_reducible refine at_slot 14 ?_); refine wl_ld0 rfl rfl rfl k2 Try.underlying28 rfl ceInfo ?_)
      | ((with_reducible refine at_slot 15 ?_); refine wl_call rfl rfl Try.func14 (by kernel_rfl) rfl (rc_ok IB.out CB.out _) rfl ?_; intro V2 hb; replace k1 := k1.keep hb; replace k2 := k2.keep hb; replace k3 := k3.keep hb; replace HB := Lib.hid (below_tr HB.out hb); clear hb)
      | ((with_reducible refine at_slot 20 ?_); refine wl_ld1 (v := .int .i64 a.n) rfl rfl rfl k1 Try.underlying2 rfl rfl ?_)
      | ((with_reducible refine at_slot 22 ?_); refine wl_ld0 rfl rfl rfl k2 Try.underlying28 rfl ceInfo ?_)
      | ((with_reducible refine at_store 4 ?_); refine wl_st0 (A' := (ceA b)) rfl rfl rfl rfl k3 rfl ceInfo (ceA_one b) ?_; intro V3 kn hu; replace k1 := k1.upd hu n1_3.out; replace k2 := k2.upd hu n2_3.out; replace HB := Lib.hid (upd_below HB.out hu L3.out); clear k3; have k3 : Blk _ g3 _ (ceA b) := kn; clear kn hu))
  refine bodyPost_ret (v := .tuple #[.agg (ceA b), .int .i64 0]) (results_ct Try.results8 _ rfl rfl k3 Try.underlying28 rfl ceInfo) rfl ?_
  exact ⟨rfl, HB.out⟩
set_option maxHeartbeats 4000000 in
set_option maxRecDepth 100000 in
theorem rmg4 {a b : Ce} (ia : CeIn a) (ib : CeIn b) (ca : CeOk a) (cb : CeOk b) (za : ¬ a = zeroCe) (zb : b = zeroCe) (w : World) :
    Calls Try.prog 8 #[.agg (ceA a), .agg (ceA b)] w fun e w' => e = .returned (.tuple #[.agg (ceA a), .int .i64 0]) ∧ Below w.heap.size w w' := by
  have da : (a.n == 0) = false := by rw [beq_eq_false_iff_ne]; have := nz_pos ca za; omega
  have db : (b.n == 0) = true := by rw [zb]; rfl
  have IA := Lib.hid ia
  have IB := Lib.hid ib
  have CA := Lib.hid ca
  have CB := Lib.hid cb
  have ZA := Lib.hid za
  have ZB := Lib.hid zb
  clear ia ib ca cb za zb
  have HB := Lib.hid (Below.refl w.heap.size w)
  go_enter Try.func8, Try.ntmps8
  go_wp2_with (first
      | ((with_reducible refine at_slot 2 ?_); refine wl_box (A := (ceA a)) rfl rfl rfl ?_; intro W1 g1 k1 hb hle; have L1 := Lib.hid (Nat.le_trans HB.out.size hle); replace HB := Lib.hid (below_tr HB.out hb); clear hb hle)
      | ((with_reducible refine at_slot 3 ?_); refine wl_box (A := (ceA b)) rfl rfl rfl ?_; intro W2 g2 k2 hb hle; have n1_2 := Lib.hid (Blk.ne_of_le k1 hle); have L2 := Lib.hid (Nat.le_trans HB.out.size hle); replace k1 := k1.keep hb; replace HB := Lib.hid (below_tr HB.out hb); clear hb hle)
      | ((with_reducible refine at_slot 4 ?_); refine wl_alloc (A := (ceA zeroCe)) rfl rfl ce_zero rfl ?_; intro W3 g3 k3 hb hle; have n1_3 := Lib.hid (Blk.ne_of_le k1 hle); have n2_3 := Lib.hid (Blk.ne_of_le k2 hle); have L3 := Lib.hid (Nat.le_trans HB.out.size hle); replace k1 := k1.keep hb; replace k2 := k2.keep hb; replace HB := Lib.hid (below_tr HB.out hb); clear hb hle)
      | ((with_reducible refine at_slot 10 ?_); refine wl_ld0 rfl rfl rfl k1 Try.underlying28 rfl ceInfo ?_)
      | ((with_reducible refine at_slot 11 ?_); refine wl_call rfl rfl Try.func14 (by kernel_rfl) rfl (rc_ok IA.out CA.out _) rfl ?_; intro V1 hb; replace k1 := k1.keep hb; replace k2 := k2.keep hb; replace k3 := k3.keep hb; replace HB := Lib.hid (below_tr HB.out hb); clear hb)
      | ((with_reducible refine at_slot 14 ?_); refine wl_ld0 rfl rfl rfl k2 Try.underlying28 rfl ceInfo ?_)
      | ((with_reducible refine at_slot 15 ?_); refine wl_call rfl rfl Try.func14 (by kernel_rfl) rfl (rc_ok IB.out CB.out _) rfl ?_; intro V2 hb; replace k1 := k1.keep hb; replace k2 := k2.keep hb; replace k3 := k3.keep hb; replace HB := Lib.hid (below_tr HB.out hb); clear hb)
      | ((with_reducible refine at_slot 20 ?_); refine wl_ld1 (v := .int .i64 a.n) rfl rfl rfl k1 Try.underlying2 rfl rfl ?_)
      | ((with_reducible refine at_slot 24 ?_); refine wl_ld1 (v := .int .i64 b.n) rfl rfl rfl k2 Try.underlying2 rfl rfl ?_)
      | ((with_reducible refine at_slot 26 ?_); refine wl_ld0 rfl rfl rfl k1 Try.underlying28 rfl ceInfo ?_)
      | ((with_reducible refine at_store 4 ?_); refine wl_st0 (A' := (ceA a)) rfl rfl rfl rfl k3 rfl ceInfo (ceA_one a) ?_; intro V3 kn hu; replace k1 := k1.upd hu n1_3.out; replace k2 := k2.upd hu n2_3.out; replace HB := Lib.hid (upd_below HB.out hu L3.out); clear k3; have k3 : Blk _ g3 _ (ceA a) := kn; clear kn hu))
  refine bodyPost_ret (v := .tuple #[.agg (ceA a), .int .i64 0]) (results_ct Try.results8 _ rfl rfl k3 Try.underlying28 rfl ceInfo) rfl ?_
  exact ⟨rfl, HB.out⟩
set_option maxHeartbeats 4000000 in
set_option maxRecDepth 100000 in
theorem rmg5 {a b : Ce} (ia : CeIn a) (ib : CeIn b) (ca : CeOk a) (cb : CeOk b) (za : ¬ a = zeroCe) (zb : ¬ b = zeroCe) (el : EvOk a.l) (ef : EvOk b.f) (ht : ¬ a.l.t < b.f.t) (w : World) :
    Calls Try.prog 8 #[.agg (ceA a), .agg (ceA b)] w fun e w' => e = .returned (.tuple #[.agg (ceA zeroCe), .int .i64 9]) ∧ Below w.heap.size w w' := by
  have da : (a.n == 0) = false := by rw [beq_eq_false_iff_ne]; have := nz_pos ca za; omega
  have db : (b.n == 0) = false := by rw [beq_eq_false_iff_ne]; have := nz_pos cb zb; omega
  have dt : decide (b.f.t ≤ a.l.t) = true := by simp; omega
  have IA := Lib.hid ia
  have IB := Lib.hid ib
  have CA := Lib.hid ca
  have CB := Lib.hid cb
  have ZA := Lib.hid za
  have ZB := Lib.hid zb
  have EL := Lib.hid el
  have EF := Lib.hid ef
  have HT := Lib.hid ht
  clear ia ib ca cb za zb el ef ht
  have HB := Lib.hid (Below.refl w.heap.size w)
  go_enter Try.func8, Try.ntmps8
  go_wp2_with (first
      | ((with_reducible refine at_slot 2 ?_); refine wl_box (A := (ceA a)) rfl rfl rfl ?_; intro W1 g1 k1 hb hle; have L1 := Lib.hid (Nat.le_trans HB.out.size hle); replace HB := Lib.hid (below_tr HB.out hb); clear hb hle)
      | ((with_reducible refine at_slot 3 ?_); refine wl_box (A := (ceA b)) rfl rfl rfl ?_; intro W2 g2 k2 hb hle; have n1_2 := Lib.hid (Blk.ne_of_le k1 hle); have L2 := Lib.hid (Nat.le_trans HB.out.size hle); replace k1 := k1.keep hb; replace HB := Lib.hid (below_tr HB.out hb); clear hb hle)
      | ((with_reducible refine at_slot 4 ?_); refine wl_alloc (A := (ceA zeroCe)) rfl rfl ce_zero rfl ?_; intro W3 g3 k3 hb hle; have n1_3 := Lib.hid (Blk.ne_of_le k1 hle); have n2_3 := Lib.hid (Blk.ne_of_le k2 hle); have L3 := Lib.hid (Nat.le_trans HB.out.size hle); replace k1 := k1.keep hb; replace k2 := k2.keep hb; replace HB := Lib.hid (below_tr HB.out hb); clear hb hle)
      | ((with_reducible refine at_slot 10 ?_); refine wl_ld0 rfl rfl rfl k1 Try.underlying28 rfl ceInfo ?_)
      | ((with_reducible refine at_slot 11 ?_); refine wl_call rfl rfl Try.func14 (by kernel_rfl) rfl (rc_ok IA.out CA.out _) rfl ?_; intro V1 hb; replace k1 := k1.keep hb; replace k2 := k2.keep hb; replace k3 := k3.keep hb; replace HB := Lib.hid (below_tr HB.out hb); clear hb)
      | ((with_reducible refine at_slot 14 ?_); refine wl_ld0 rfl rfl rfl k2 Try.underlying28 rfl ceInfo ?_)
      | ((with_reducible refine at_slot 15 ?_); refine wl_call rfl rfl Try.func14 (by kernel_rfl) rfl (rc_ok IB.out CB.out _) rfl ?_; intro V2 hb; replace k1 := k1.keep hb; replace k2 := k2.keep hb; replace k3 := k3.keep hb; replace HB := Lib.hid (below_tr HB.out hb); clear hb)
      | ((with_reducible refine at_slot 20 ?_); refine wl_ld1 (v := .int .i64 a.n) rfl rfl rfl k1 Try.underlying2 rfl rfl ?_)
      | ((with_reducible refine at_slot 24 ?_); refine wl_ld1 (v := .int .i64 b.n) rfl rfl rfl k2 Try.underlying2 rfl rfl ?_)
      | ((with_reducible refine at_slot 29 ?_); refine wl_ld1 (v := .int .i64 a.l.t) rfl rfl rfl k1 Try.underlying2 rfl rfl ?_)
      | ((with_reducible refine at_slot 32 ?_); refine wl_ld1 (v := .int .i64 b.f.t) rfl rfl rfl k2 Try.underlying2 rfl rfl ?_)
      | ((with_reducible refine at_slot 34 ?_); refine wl_build (v := .agg (ceA zeroCe)) rfl rfl (build_ce0 _) rfl ?_)
      | ((with_reducible refine at_store 4 ?_); refine wl_st0 (A' := (ceA zeroCe)) rfl rfl rfl rfl k3 rfl ceInfo (ceA_one zeroCe) ?_; intro V3 kn hu; replace k1 := k1.upd hu n1_3.out; replace k2 := k2.upd hu n2_3.out; replace HB := Lib.hid (upd_below HB.out hu L3.out); clear k3; have k3 : Blk _ g3 _ (ceA zeroCe) := kn; clear kn hu))
  refine bodyPost_ret (v := .tuple #[.agg (ceA zeroCe), .int .i64 9]) (results_ct Try.results8 _ rfl rfl k3 Try.underlying28 rfl ceInfo) rfl ?_
  exact ⟨rfl, HB.out⟩
set_option maxHeartbeats 4000000 in
set_option maxRecDepth 100000 in
theorem rmg6 {a b : Ce} (ia : CeIn a) (ib : CeIn b) (ca : CeOk a) (cb : CeOk b) (za : ¬ a = zeroCe) (zb : ¬ b = zeroCe) (el : EvOk a.l) (ef : EvOk b.f) (ht : a.l.t < b.f.t) (w : World) :
    Calls Try.prog 8 #[.agg (ceA a), .agg (ceA b)] w fun e w' => e = .returned (.tuple #[.agg (ceA (mgC a b)), .int .i64 0]) ∧ Below w.heap.size w w' := by
  have da : (a.n == 0) = false := by rw [beq_eq_false_iff_ne]; have := nz_pos ca za; omega
  have db : (b.n == 0) = false := by rw [beq_eq_false_iff_ne]; have := nz_pos cb zb; omega
  have dt : decide (b.f.t ≤ a.l.t) = false := by simp; omega
  have x0 := ca.bd; have y0 := cb.bd
  have z0 := bt_bd el ef ht
  have e1 := el.t0; have e2 := ef.t1
  have x1 := x0.n0; have x2 := x0.n1; have x3 := x0.r0; have x4 := x0.r1; have x5 := x0.g0; have x6 := x0.g1; have x7 := x0.s0; have x8 := x0.s1; have x9 := x0.i
  have y1 := y0.n0; have y2 := y0.n1; have y3 := y0.r0; have y4 := y0.r1; have y5 := y0.g0; have y6 := y0.g1; have y7 := y0.s0; have y8 := y0.s1; have y9 := y0.i
  obtain ⟨z1, z2, z3, z4, z5, z6, z7⟩ := z0
  obtain ⟨s, hs⟩ : ∃ s, s = btC a.l b.f := ⟨_, rfl⟩
  have hres : mgC a b = ⟨a.n + b.n, a.f, b.l, cutU (a.i.n + (s.i.n + (b.i.n + 0))), a.r + s.r + b.r, a.g + s.g + b.g, a.s + s.s + b.s⟩ := by rw [hs]; rfl
  have BE : Hid (∀ w, Calls Try.prog 22 #[.agg (evA a.l), .agg (evA b.f)] w fun e w' => e = .returned (.tuple #[.agg (ceA s), .int .i64 0]) ∧ Below w.heap.size w w') := Lib.hid (fun w => by rw [hs]; exact rbe_good el ef ht w)
  rw [hres]
  rw [← hs] at z1 z2 z3 z4 z5 z6 z7
  have HS : Hid (a.i.n + (s.i.n + (b.i.n + 0)) < 340282366920938463463374607431768211456) := Lib.hid (by omega)
  clear x0 y0 hs hres el ef ht x9 y9 z7
  have IA := Lib.hid ia
  have IB := Lib.hid ib
  have CA := Lib.hid ca
  have CB := Lib.hid cb
  have ZA := Lib.hid za
  have ZB := Lib.hid zb
  clear ia ib ca cb za zb
  have HB := Lib.hid (Below.refl w.heap.size w)
  go_enter Try.func8, Try.ntmps8
  go_wp2_with (first
      | ((with_reducible refine at_slot 2 ?_); refine wl_box (A := (ceA a)) rfl rfl rfl ?_; intro W1 g1 k1 hb hle; have L1 := Lib.hid (Nat.le_trans HB.out.size hle); replace HB := Lib.hid (below_tr HB.out hb); clear hb hle)
      | ((with_reducible refine at_slot 3 ?_); refine wl_box (A := (ceA b)) rfl rfl rfl ?_; intro W2 g2 k2 hb hle; have n1_2 := Lib.hid (Blk.ne_of_le k1 hle); have L2 := Lib.hid (Nat.le_trans HB.out.size hle); replace k1 := k1.keep hb; replace HB := Lib.hid (below_tr HB.out hb); clear hb hle)
      | ((with_reducible refine at_slot 4 ?_); refine wl_alloc (A := (ceA zeroCe)) rfl rfl ce_zero rfl ?_; intro W3 g3 k3 hb hle; have n1_3 := Lib.hid (Blk.ne_of_le k1 hle); have n2_3 := Lib.hid (Blk.ne_of_le k2 hle); have L3 := Lib.hid (Nat.le_trans HB.out.size hle); replace k1 := k1.keep hb; replace k2 := k2.keep hb; replace HB := Lib.hid (below_tr HB.out hb); clear hb hle)
      | ((with_reducible refine at_slot 10 ?_); refine wl_ld0 rfl rfl rfl k1 Try.underlying28 rfl ceInfo ?_)
      | ((with_reducible refine at_slot 11 ?_); refine wl_call rfl rfl Try.func14 (by kernel_rfl) rfl (rc_ok IA.out CA.out _) rfl ?_; intro V1 hb; replace k1 := k1.keep hb; replace k2 := k2.keep hb; replace k3 := k3.keep hb; replace HB := Lib.hid (below_tr HB.out hb); clear hb)
      | ((with_reducible refine at_slot 14 ?_); refine wl_ld0 rfl rfl rfl k2 Try.underlying28 rfl ceInfo ?_)
      | ((with_reducible refine at_slot 15 ?_); refine wl_call rfl rfl Try.func14 (by kernel_rfl) rfl (rc_ok IB.out CB.out _) rfl ?_; intro V2 hb; replace k1 := k1.keep hb; replace k2 := k2.keep hb; replace k3 := k3.keep hb; replace HB := Lib.hid (below_tr HB.out hb); clear hb)
      | ((with_reducible refine at_slot 20 ?_); refine wl_ld1 (v := .int .i64 a.n) rfl rfl rfl k1 Try.underlying2 rfl rfl ?_)
      | ((with_reducible refine at_slot 24 ?_); refine wl_ld1 (v := .int .i64 b.n) rfl rfl rfl k2 Try.underlying2 rfl rfl ?_)
      | ((with_reducible refine at_slot 29 ?_); refine wl_ld1 (v := .int .i64 a.l.t) rfl rfl rfl k1 Try.underlying2 rfl rfl ?_)
      | ((with_reducible refine at_slot 32 ?_); refine wl_ld1 (v := .int .i64 b.f.t) rfl rfl rfl k2 Try.underlying2 rfl rfl ?_)
      | ((with_reducible refine at_slot 37 ?_); refine wl_ld (evA a.l) rfl rfl rfl k1 Try.underlying24 rfl evInfo (ceA_pl a) ?_)
      | ((with_reducible refine at_slot 39 ?_); refine wl_ld (evA b.f) rfl rfl rfl k2 Try.underlying24 rfl evInfo (ceA_pf b) ?_)
      | ((with_reducible refine at_slot 40 ?_); refine wl_call rfl rfl Try.func22 (by kernel_rfl) rfl (BE.out _) rfl ?_; intro V3 hb; replace k1 := k1.keep hb; replace k2 := k2.keep hb; replace k3 := k3.keep hb; replace HB := Lib.hid (below_tr HB.out hb); clear hb)
      | ((with_reducible refine at_slot 6 ?_); refine wl_alloc (A := (ceA zeroCe)) rfl rfl ce_zero rfl ?_; intro W4 g4 k4 hb hle; have n1_4 := Lib.hid (Blk.ne_of_le k1 hle); have n2_4 := Lib.hid (Blk.ne_of_le k2 hle); have n3_4 := Lib.hid (Blk.ne_of_le k3 hle); have L4 := Lib.hid (Nat.le_trans HB.out.size hle); replace k1 := k1.keep hb; replace k2 := k2.keep hb; replace k3 := k3.keep hb; replace HB := Lib.hid (below_tr HB.out hb); clear hb hle)
      | ((with_reducible refine at_store 6 ?_); refine wl_st0 (A' := (ceA s)) rfl rfl rfl rfl k4 rfl ceInfo (ceA_one s) ?_; intro V4 kn hu; replace k1 := k1.upd hu n1_4.out; replace k2 := k2.upd hu n2_4.out; replace k3 := k3.upd hu n3_4.out; replace HB := Lib.hid (upd_below HB.out hu L4.out); clear k4; have k4 : Blk _ g4 _ (ceA s) := kn; clear kn hu)
      | ((with_reducible refine at_slot 45 ?_); refine wl_ld (wdA a.i) rfl rfl rfl k1 Try.underlying26 rfl wdInfo (ceA_pi a) ?_)
      | ((with_reducible refine at_slot 47 ?_); refine wl_ld (wdA s.i) rfl rfl rfl k4 Try.underlying26 rfl wdInfo (ceA_pi s) ?_)
      | ((with_reducible refine at_slot 49 ?_); refine wl_ld (wdA b.i) rfl rfl rfl k2 Try.underlying26 rfl wdInfo (ceA_pi b) ?_)
      | ((with_reducible refine at_slot 50 ?_); refine wl_bslice (A := (wdA a.i ++ wdA s.i ++ wdA b.i)) rfl rfl (bs3_wd _ _ _ _) rfl ?_; intro W5 g5 k5 hb hle; have n1_5 := Lib.hid (Blk.ne_of_le k1 hle); have n2_5 := Lib.hid (Blk.ne_of_le k2 hle); have n3_5 := Lib.hid (Blk.ne_of_le k3 hle); have n4_5 := Lib.hid (Blk.ne_of_le k4 hle); have L5 := Lib.hid (Nat.le_trans HB.out.size hle); replace k1 := k1.keep hb; replace k2 := k2.keep hb; replace k3 := k3.keep hb; replace k4 := k4.keep hb; replace HB := Lib.hid (below_tr HB.out hb); clear hb hle)
      | ((with_reducible refine at_slot 51 ?_); refine wl_call rfl rfl Try.func23 (by kernel_rfl) rfl (rsum3_ok HS.out k5) rfl ?_; intro V5 hb; replace k1 := k1.keep hb; replace k2 := k2.keep hb; replace k3 := k3.keep hb; replace k4 := k4.keep hb; replace k5 := k5.keep hb; replace HB := Lib.hid (below_tr HB.out hb); clear hb)
      | ((with_reducible refine at_slot 8 ?_); refine wl_alloc (A := (wdA U.zero)) rfl rfl wd_zero rfl ?_; intro W6 g6 k6 hb hle; have n1_6 := Lib.hid (Blk.ne_of_le k1 hle); have n2_6 := Lib.hid (Blk.ne_of_le k2 hle); have n3_6 := Lib.hid (Blk.ne_of_le k3 hle); have n4_6 := Lib.hid (Blk.ne_of_le k4 hle); have n5_6 := Lib.hid (Blk.ne_of_le k5 hle); have L6 := Lib.hid (Nat.le_trans HB.out.size hle); replace k1 := k1.keep hb; replace k2 := k2.keep hb; replace k3 := k3.keep hb; replace k4 := k4.keep hb; replace k5 := k5.keep hb; replace HB := Lib.hid (below_tr HB.out hb); clear hb hle)
      | ((with_reducible refine at_store 8 ?_); refine wl_st0 (A' := (wdA (cutU (a.i.n + (s.i.n + (b.i.n + 0)))))) rfl rfl rfl rfl k6 rfl wdInfo (wdA_one (cutU (a.i.n + (s.i.n + (b.i.n + 0))))) ?_; intro V6 kn hu; replace k1 := k1.upd hu n1_6.out; replace k2 := k2.upd hu n2_6.out; replace k3 := k3.upd hu n3_6.out; replace k4 := k4.upd hu n4_6.out; replace k5 := k5.upd hu n5_6.out; replace HB := Lib.hid (upd_below HB.out hu L6.out); clear k6; have k6 : Blk _ g6 _ (wdA (cutU (a.i.n + (s.i.n + (b.i.n + 0))))) := kn; clear kn hu)
      | ((with_reducible refine at_slot 55 ?_); refine wl_ld1 (v := .int .i64 a.n) rfl rfl rfl k1 Try.underlying2 rfl rfl ?_)
      | ((with_reducible refine at_slot 57 ?_); refine wl_ld1 (v := .int .i64 b.n) rfl rfl rfl k2 Try.underlying2 rfl rfl ?_)
      | ((with_reducible refine at_slot 60 ?_); refine wl_ld (evA a.f) rfl rfl rfl k1 Try.underlying24 rfl evInfo (ceA_pf a) ?_)
      | ((with_reducible refine at_slot 62 ?_); refine wl_ld (evA b.l) rfl rfl rfl k2 Try.underlying24 rfl evInfo (ceA_pl b) ?_)
      | ((with_reducible refine at_slot 63 ?_); refine wl_ld0 rfl rfl rfl k6 Try.underlying26 rfl wdInfo ?_)
      | ((with_reducible refine at_slot 65 ?_); refine wl_ld1 (v := .int .i64 a.r) rfl rfl rfl k1 Try.underlying2 rfl rfl ?_)
      | ((with_reducible refine at_slot 67 ?_); refine wl_ld1 (v := .int .i64 s.r) rfl rfl rfl k4 Try.underlying2 rfl rfl ?_)
      | ((with_reducible refine at_slot 70 ?_); refine wl_ld1 (v := .int .i64 b.r) rfl rfl rfl k2 Try.underlying2 rfl rfl ?_)
      | ((with_reducible refine at_slot 73 ?_); refine wl_ld1 (v := .int .i64 a.g) rfl rfl rfl k1 Try.underlying2 rfl rfl ?_)
      | ((with_reducible refine at_slot 75 ?_); refine wl_ld1 (v := .int .i64 s.g) rfl rfl rfl k4 Try.underlying2 rfl rfl ?_)
      | ((with_reducible refine at_slot 78 ?_); refine wl_ld1 (v := .int .i64 b.g) rfl rfl rfl k2 Try.underlying2 rfl rfl ?_)
      | ((with_reducible refine at_slot 81 ?_); refine wl_ld1 (v := .int .i64 a.s) rfl rfl rfl k1 Try.underlying2 rfl rfl ?_)
      | ((with_reducible refine at_slot 83 ?_); refine wl_ld1 (v := .int .i64 s.s) rfl rfl rfl k4 Try.underlying2 rfl rfl ?_)
      | ((with_reducible refine at_slot 86 ?_); refine wl_ld1 (v := .int .i64 b.s) rfl rfl rfl k2 Try.underlying2 rfl rfl ?_)
      | ((with_reducible refine at_slot 88 ?_); refine wl_build (v := .agg (ceA ⟨a.n + b.n, a.f, b.l, (cutU (a.i.n + (s.i.n + (b.i.n + 0)))), a.r + s.r + b.r, a.g + s.g + b.g, a.s + s.s + b.s⟩)) rfl rfl (build_ce _ _ _ _ _ _ _ _) rfl ?_)
      | ((with_reducible refine at_store 4 ?_); refine wl_st0 (A' := (ceA ⟨a.n + b.n, a.f, b.l, (cutU (a.i.n + (s.i.n + (b.i.n + 0)))), a.r + s.r + b.r, a.g + s.g + b.g, a.s + s.s + b.s⟩)) rfl rfl rfl rfl k3 rfl ceInfo (ceA_one ⟨a.n + b.n, a.f, b.l, (cutU (a.i.n + (s.i.n + (b.i.n + 0)))), a.r + s.r + b.r, a.g + s.g + b.g, a.s + s.s + b.s⟩) ?_; intro V7 kn hu; replace k1 := k1.upd hu n1_3.out; replace k2 := k2.upd hu n2_3.out; replace k4 := k4.upd hu (Ne.symm n3_4.out); replace k5 := k5.upd hu (Ne.symm n3_5.out); replace k6 := k6.upd hu (Ne.symm n3_6.out); replace HB := Lib.hid (upd_below HB.out hu L3.out); clear k3; have k3 : Blk _ g3 _ (ceA ⟨a.n + b.n, a.f, b.l, (cutU (a.i.n + (s.i.n + (b.i.n + 0)))), a.r + s.r + b.r, a.g + s.g + b.g, a.s + s.s + b.s⟩) := kn; clear kn hu))
  refine bodyPost_ret (v := .tuple #[.agg (ceA ⟨a.n + b.n, a.f, b.l, (cutU (a.i.n + (s.i.n + (b.i.n + 0)))), a.r + s.r + b.r, a.g + s.g + b.g, a.s + s.s + b.s⟩), .int .i64 0]) (results_ct Try.results8 _ rfl rfl k3 Try.underlying28 rfl ceInfo) rfl ?_
  exact ⟨rfl, HB.out⟩
theorem rme_any {a b : Ce} (ia : CeIn a) (ib : CeIn b) (w : World) :
    Calls Try.prog 8 #[.agg (ceA a), .agg (ceA b)] w fun e w' => e = .returned (.tuple #[.agg (ceA (meC a b)), .int .i64 (meE a b)]) ∧ Below w.heap.size w w' := by
  unfold meC meE
  by_cases ha : CeOk a
  · by_cases hb : CeOk b
    · have hab : CeOk a ∧ CeOk b := ⟨ha, hb⟩
      rw [if_pos hab, if_pos hab]
      by_cases za : a = zeroCe
      · rw [if_pos za, if_pos (show a = zeroCe ∨ b = zeroCe ∨ a.l.t < b.f.t from Or.inl za)]; exact rmg3 ia ib ha hb za w
      · rw [if_neg za]
        by_cases zb : b = zeroCe
        · rw [if_pos zb, if_pos (show a = zeroCe ∨ b = zeroCe ∨ a.l.t < b.f.t from Or.inr (Or.inl zb))]; exact rmg4 ia ib ha hb za zb w
        · rw [if_neg zb]
          by_cases ht : a.l.t < b.f.t
          · rw [if_pos ht, if_pos (show a = zeroCe ∨ b = zeroCe ∨ a.l.t < b.f.t from Or.inr (Or.inr ht))]; exact rmg6 ia ib ha hb za zb (ha.ends za).l (hb.ends zb).f ht w
          · rw [if_neg ht, if_neg (show ¬ (a = zeroCe ∨ b = zeroCe ∨ a.l.t < b.f.t) from fun h => h.elim za fun h => h.elim zb ht)]; exact rmg5 ia ib ha hb za zb (ha.ends za).l (hb.ends zb).f ht w
    · have hab : ¬ (CeOk a ∧ CeOk b) := fun x => hb x.2
      rw [if_neg hab, if_neg hab]
      exact rmg2 ia ib ha hb w
  · have hab : ¬ (CeOk a ∧ CeOk b) := fun x => ha x.1
    rw [if_neg hab, if_neg hab]
    exact rmg1 ia ib ha w
theorem rme_is {a b C : Ce} {E : Int} (ia : CeIn a) (ib : CeIn b) (hE : meE a b = E) (hC : meC a b = C) (w : World) :
    Calls Try.prog 8 #[.agg (ceA a), .agg (ceA b)] w fun e w' => e = .returned (.tuple #[.agg (ceA C), .int .i64 E]) ∧ Below w.heap.size w w' := by
  subst hE hC; exact rme_any ia ib w
end Go.Proofs.Ytjdjebhimljedaa
