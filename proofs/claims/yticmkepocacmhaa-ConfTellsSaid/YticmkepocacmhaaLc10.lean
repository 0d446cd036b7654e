/-
  WALKS: plimsolllaw10.lives: it answers true.
-/
import Derived.Test.YticmkepocacmhaaRc5
namespace Go.Proofs.Yticmkepocacmhaa
open Go Go.RowKit

theorem Cf.ext9 {x y : Cf} (h1 : x.raw = y.raw) (h2 : x.w0 = y.w0) (h3 : x.w1 = y.w1) (h4 : x.w2 = y.w2) (h5 : x.n0 = y.n0) (h6 : x.n1 = y.n1) (h7 : x.n2 = y.n2) (h8 : x.cap = y.cap) (h9 : x.log = y.log) : x = y := by
  cases x; cases y; simp_all
theorem eq2w (d : Nat) (x y z : Int) (w : World) : (Op.equalIn (d + 2) 22 (.agg #[.int .i64 x, .int .i64 y, .int .i64 z]) (.agg #[.int .i64 x, .int .i64 y, .int .i64 z])).run Try.prog w = .ok true w := by
  simp [Op.equalIn, Sem.run_bind, run_underlying Try.underlying22, go_sem, Std.Legacy.Range.forIn_eq_forIn_range', List.range']
theorem eq3w (x y z : Int) (w : World) : (Op.equalIn 9999 22 (.agg #[.int .i64 x, .int .i64 y, .int .i64 z]) (.agg #[.int .i64 x, .int .i64 y, .int .i64 z])).run Try.prog w = .ok true w := eq2w 9997 x y z w
theorem eq2n (d : Nat) (x y z : Int) (w : World) : (Op.equalIn (d + 2) 23 (.agg #[.int .i64 x, .int .i64 y, .int .i64 z]) (.agg #[.int .i64 x, .int .i64 y, .int .i64 z])).run Try.prog w = .ok true w := by
  simp [Op.equalIn, Sem.run_bind, run_underlying Try.underlying23, go_sem, Std.Legacy.Range.forIn_eq_forIn_range', List.range']
theorem eq3n (x y z : Int) (w : World) : (Op.equalIn 9999 23 (.agg #[.int .i64 x, .int .i64 y, .int .i64 z]) (.agg #[.int .i64 x, .int .i64 y, .int .i64 z])).run Try.prog w = .ok true w := eq2n 9997 x y z w
theorem cf_eql {x y : Cf} (h : x = y) (w : World) : (binOp .eql 25 (.agg (cfA x)) (.agg (cfA y))).run Try.prog w = .ok (.bool true) w := by
  subst h
  unfold cfA
  go_simp
  simp [eq3w, eq3n]
theorem cf_neq {x y : Cf} (h : x = y) (w : World) : (binOp .neq 25 (.agg (cfA x)) (.agg (cfA y))).run Try.prog w = .ok (.bool false) w := by
  subst h
  unfold cfA
  go_simp
  simp [eq3w, eq3n]
theorem str_x (a : List UInt8) (h : a.length ≤ 1000) (w : World) : (binOp .add 9 (.string (bs a)) (.string ⟨#[120]⟩)).run Try.prog w = .ok (.string (bs (a ++ [120]))) w := by
  have hz := bs_size a
  have h1 : (bs a).size ≤ 1000 := by rw [hz]; exact h
  have h2 : a.length ≤ 9223372036854775806 := by omega
  have e : bs a ++ ⟨#[120]⟩ = bs (a ++ [120]) := by
    apply ByteArray.ext
    simp [bs]
  rw [← e]
  go_simp
def badC : Cf := ⟨20, 10, 25, 60, 4, 5, 6, 3, 9⟩
theorem bad_no : ¬ CfOk badC := by decide +kernel
theorem siz_fit (w : World) : Calls Try.prog 8 #[.agg (cfA fitC)] w fun e w' => e = .returned (.tuple #[.int .i64 36, .int .i64 0]) ∧ Below w.heap.size w w' := by
  have := siz_any fitC w
  rwa [show szI fitC = 36 by decide +kernel, show szE fitC = 0 by decide +kernel] at this
theorem hom_fit9 (w : World) : Calls Try.prog 18 #[.agg (cfA fitC)] w fun e w' => e = .returned (.int .i64 11) ∧ Below w.heap.size w w' := by
  have := hom_yes fit_ok w
  rwa [show 1 + secI fitC.log 120 + fitC.log = 11 by decide +kernel] at this
theorem plc_fit9 (w : World) : Calls Try.prog 20 #[.agg (cfA fitC)] w fun e w' => e = .returned (.int .i64 8) ∧ Below w.heap.size w w' := by
  have := plc_yes fit_ok w
  rwa [show placeI fitC = 8 by decide +kernel] at this
theorem ind_fit (w : World) : Calls Try.prog 16 #[.agg (cfA fitC)] w fun e w' => e = .returned (.int .i64 1) ∧ Below w.heap.size w w' := by
  have := ind_yes fit_ok w
  rwa [show secI fitC.log 120 = 1 by decide +kernel] at this
theorem ret_fit (w : World) : Calls Try.prog 24 #[.agg (cfA fitC)] w fun e w' => e = .returned (.int .i64 360) ∧ Below w.heap.size w w' := by
  have := ret_yes fit_ok w
  rwa [show max (max (fitC.w0 * fitC.n0) (fitC.w1 * fitC.n1)) (fitC.w2 * fitC.n2) = 360 by decide +kernel] at this
theorem fac_fit {t v : Int} (h : facI fitC t = v) (w : World) : Calls Try.prog 14 #[.agg (cfA fitC), .int .i64 t] w fun e w' => e = .returned (.int .i64 v) ∧ Below w.heap.size w w' := by
  have := fac_any fitC t w
  rwa [h] at this
theorem ff0 : facI fitC 0 = 0 := by decide +kernel
theorem ff1 : facI fitC 1 = 2 := by decide +kernel
theorem ff2 : facI fitC 2 = 3 := by decide +kernel
theorem read_fit (w : World) : Calls Try.prog 10 #[.string (bs (byL fitC))] w fun e w' => e = .returned (.tuple #[.agg (cfA fitC), .int .i64 0]) ∧ Below w.heap.size w w' := by
  have := read_any (l := byL fitC) (by rw [byL_len]; omega) w
  rwa [(read_by fit_ok).1, (read_by fit_ok).2] at this
theorem read_fitx (w : World) : Calls Try.prog 10 #[.string (bs (byL fitC ++ [120]))] w fun e w' => e = .returned (.tuple #[.agg (cfA zeroCf), .int .i64 4]) ∧ Below w.heap.size w w' := by
  have hn : ¬ ReadOk (byL fitC ++ [120]) := fun h => by
    have h1 := congrArg List.length h.2
    rw [byL_len, List.length_append, byL_len] at h1
    simp at h1
  have := read_any (l := byL fitC ++ [120]) (by rw [List.length_append, byL_len]; simp) w
  rwa [show readC (byL fitC ++ [120]) = zeroCf from if_neg hn, show readE (byL fitC ++ [120]) = 4 from if_neg hn] at this
set_option maxHeartbeats 4000000 in
set_option maxRecDepth 100000 in
theorem lives10_any (w : World) : Calls Try.prog 7 #[] w fun e w' => e = .returned (.bool true) ∧ Below w.heap.size w w' := by
  have hz : (bs (byL fitC)).size = 56 := by rw [bs_size, byL_len]
  have HB := Lib.hid (Below.refl w.heap.size w)
  go_enter Try.func7, Try.ntmps7
  go_upto_region 9 with (first
      | ((with_reducible refine at_slot 12 ?_); refine wl_call rfl rfl Try.func30 (by kernel_rfl) rfl (fit_any _) rfl ?_; intro V1 hb; replace HB := Lib.hid (below_tr HB.out hb); clear hb)
      | ((with_reducible refine at_slot 1 ?_); refine wl_alloc (A := (cfA zeroCf)) rfl rfl cf_zero rfl ?_; intro W1 g1 k1 hb hle; have L1 := Lib.hid (Nat.le_trans HB.out.size hle); replace HB := Lib.hid (below_tr HB.out hb); clear hb hle)
      | ((with_reducible refine at_store 1 ?_); refine wl_st0 (A' := (cfA fitC)) rfl rfl rfl rfl k1 rfl cfInfo (cfA_one fitC) ?_; intro V2 kn hu; replace HB := Lib.hid (upd_below HB.out hu L1.out); clear k1; have k1 : Blk _ g1 _ (cfA fitC) := kn; clear kn hu)
      | ((with_reducible refine at_slot 14 ?_); refine wl_ld0 rfl rfl rfl k1 Try.underlying25 rfl cfInfo ?_)
      | ((with_reducible refine at_slot 15 ?_); refine wl_call rfl rfl Try.func8 (by kernel_rfl) rfl (siz_fit _) rfl ?_; intro V3 hb; replace k1 := k1.keep hb; replace HB := Lib.hid (below_tr HB.out hb); clear hb)
      | ((with_reducible refine at_slot 18 ?_); refine wl_ld0 rfl rfl rfl k1 Try.underlying25 rfl cfInfo ?_)
      | ((with_reducible refine at_slot 19 ?_); refine wl_call rfl rfl Try.func22 (by kernel_rfl) rfl (byt_yes fit_ok _) rfl ?_; intro V4 hb; replace k1 := k1.keep hb; replace HB := Lib.hid (below_tr HB.out hb); clear hb)
      | ((with_reducible refine at_slot 22 ?_); refine wl_call rfl rfl Try.func10 (by kernel_rfl) rfl (read_fit _) rfl ?_; intro V5 hb; replace k1 := k1.keep hb; replace HB := Lib.hid (below_tr HB.out hb); clear hb)
      | ((with_reducible refine at_slot 5 ?_); refine wl_alloc (A := (cfA zeroCf)) rfl rfl cf_zero rfl ?_; intro W2 g2 k2 hb hle; have n1_2 := Lib.hid (Blk.ne_of_le k1 hle); have L2 := Lib.hid (Nat.le_trans HB.out.size hle); replace k1 := k1.keep hb; replace HB := Lib.hid (below_tr HB.out hb); clear hb hle)
      | ((with_reducible refine at_store 5 ?_); refine wl_st0 (A' := (cfA fitC)) rfl rfl rfl rfl k2 rfl cfInfo (cfA_one fitC) ?_; intro V6 kn hu; replace k1 := k1.upd hu n1_2.out; replace HB := Lib.hid (upd_below HB.out hu L2.out); clear k2; have k2 : Blk _ g2 _ (cfA fitC) := kn; clear kn hu)
      | ((with_reducible refine at_slot 27 ?_); refine wl_bin (v := .string (bs (byL fitC ++ [120]))) rfl rfl (by simp [eqGuard]) (str_x _ (by rw [byL_len]; omega) _) ?_)
      | ((with_reducible refine at_slot 28 ?_); refine wl_call rfl rfl Try.func10 (by kernel_rfl) rfl (read_fitx _) rfl ?_; intro V7 hb; replace k1 := k1.keep hb; replace k2 := k2.keep hb; replace HB := Lib.hid (below_tr HB.out hb); clear hb)
      | ((with_reducible refine at_slot 7 ?_); refine wl_alloc (A := (cfA zeroCf)) rfl rfl cf_zero rfl ?_; intro W3 g3 k3 hb hle; have n1_3 := Lib.hid (Blk.ne_of_le k1 hle); have n2_3 := Lib.hid (Blk.ne_of_le k2 hle); have L3 := Lib.hid (Nat.le_trans HB.out.size hle); replace k1 := k1.keep hb; replace k2 := k2.keep hb; replace HB := Lib.hid (below_tr HB.out hb); clear hb hle)
      | ((with_reducible refine at_store 7 ?_); refine wl_st0 (A' := (cfA zeroCf)) rfl rfl rfl rfl k3 rfl cfInfo (cfA_one zeroCf) ?_; intro V8 kn hu; replace k1 := k1.upd hu n1_3.out; replace k2 := k2.upd hu n2_3.out; replace HB := Lib.hid (upd_below HB.out hu L3.out); clear k3; have k3 : Blk _ g3 _ (cfA zeroCf) := kn; clear kn hu)
      | ((with_reducible refine at_slot 31 ?_); refine wl_ld0 rfl rfl rfl k1 Try.underlying25 rfl cfInfo ?_)
      | ((with_reducible refine at_slot 9 ?_); refine wl_alloc (A := (cfA zeroCf)) rfl rfl cf_zero rfl ?_; intro W4 g4 k4 hb hle; have n1_4 := Lib.hid (Blk.ne_of_le k1 hle); have n2_4 := Lib.hid (Blk.ne_of_le k2 hle); have n3_4 := Lib.hid (Blk.ne_of_le k3 hle); have L4 := Lib.hid (Nat.le_trans HB.out.size hle); replace k1 := k1.keep hb; replace k2 := k2.keep hb; replace k3 := k3.keep hb; replace HB := Lib.hid (below_tr HB.out hb); clear hb hle)
      | ((with_reducible refine at_store 9 ?_); refine wl_st0 (A' := (cfA fitC)) rfl rfl rfl rfl k4 rfl cfInfo (cfA_one fitC) ?_; intro V9 kn hu; replace k1 := k1.upd hu n1_4.out; replace k2 := k2.upd hu n2_4.out; replace k3 := k3.upd hu n3_4.out; replace HB := Lib.hid (upd_below HB.out hu L4.out); clear k4; have k4 : Blk _ g4 _ (cfA fitC) := kn; clear kn hu)
      | ((with_reducible refine at_store 33 ?_); refine wl_st1 (v := .int .i64 25) rfl rfl rfl rfl k4 (by kernel_rfl) rfl rfl (by first | simp | simp [cfA]) ?_; intro V10 kn hu; replace k1 := k1.upd hu n1_4.out; replace k2 := k2.upd hu n2_4.out; replace k3 := k3.upd hu n3_4.out; replace HB := Lib.hid (upd_below HB.out hu L4.out); clear k4; have k4 : Blk _ g4 _ #[.int .i64 fitC.raw, .int .i64 fitC.w0, .int .i64 25, .int .i64 fitC.w2, .int .i64 fitC.n0, .int .i64 fitC.n1, .int .i64 fitC.n2, .int .i64 fitC.cap, .int .i64 fitC.log] := kn; clear kn hu)
      | ((with_reducible refine at_slot 35 ?_); refine wl_ld0 rfl rfl rfl k4 Try.underlying25 rfl cfInfo ?_)
      | ((with_reducible refine at_slot 36 ?_); refine wl_call rfl rfl Try.func8 (by kernel_rfl) rfl (siz_no bad_no _) rfl ?_; intro V11 hb; replace k1 := k1.keep hb; replace k2 := k2.keep hb; replace k3 := k3.keep hb; replace k4 := k4.keep hb; replace HB := Lib.hid (below_tr HB.out hb); clear hb))
  dsimp only [List.append]
  go_wp2_with (first
      | ((with_reducible refine at_slot 39 ?_); refine wl_ld0 rfl rfl rfl k1 Try.underlying25 rfl cfInfo ?_)
      | ((with_reducible refine at_slot 40 ?_); refine wl_call rfl rfl Try.func12 (by kernel_rfl) rfl (cck_yes fit_ok _) rfl ?_; intro V12 hb; replace k1 := k1.keep hb; replace k2 := k2.keep hb; replace k3 := k3.keep hb; replace k4 := k4.keep hb; replace HB := Lib.hid (below_tr HB.out hb); clear hb)
      | ((with_reducible refine at_slot 43 ?_); refine wl_ld0 rfl rfl rfl k4 Try.underlying25 rfl cfInfo ?_)
      | ((with_reducible refine at_slot 44 ?_); refine wl_call rfl rfl Try.func12 (by kernel_rfl) rfl (cck_no bad_no _) rfl ?_; intro V13 hb; replace k1 := k1.keep hb; replace k2 := k2.keep hb; replace k3 := k3.keep hb; replace k4 := k4.keep hb; replace HB := Lib.hid (below_tr HB.out hb); clear hb)
      | ((with_reducible refine at_slot 48 ?_); refine wl_ld0 rfl rfl rfl k1 Try.underlying25 rfl cfInfo ?_)
      | ((with_reducible refine at_slot 49 ?_); refine wl_call rfl rfl Try.func14 (by kernel_rfl) rfl (fac_fit ff1 _) rfl ?_; intro V14 hb; replace k1 := k1.keep hb; replace k2 := k2.keep hb; replace k3 := k3.keep hb; replace k4 := k4.keep hb; replace HB := Lib.hid (below_tr HB.out hb); clear hb)
      | ((with_reducible refine at_slot 53 ?_); refine wl_ld0 rfl rfl rfl k1 Try.underlying25 rfl cfInfo ?_)
      | ((with_reducible refine at_slot 54 ?_); refine wl_call rfl rfl Try.func14 (by kernel_rfl) rfl (fac_fit ff2 _) rfl ?_; intro V15 hb; replace k1 := k1.keep hb; replace k2 := k2.keep hb; replace k3 := k3.keep hb; replace k4 := k4.keep hb; replace HB := Lib.hid (below_tr HB.out hb); clear hb)
      | ((with_reducible refine at_slot 58 ?_); refine wl_ld0 rfl rfl rfl k1 Try.underlying25 rfl cfInfo ?_)
      | ((with_reducible refine at_slot 59 ?_); refine wl_call rfl rfl Try.func14 (by kernel_rfl) rfl (fac_fit ff0 _) rfl ?_; intro V16 hb; replace k1 := k1.keep hb; replace k2 := k2.keep hb; replace k3 := k3.keep hb; replace k4 := k4.keep hb; replace HB := Lib.hid (below_tr HB.out hb); clear hb)
      | ((with_reducible refine at_slot 63 ?_); refine wl_ld0 rfl rfl rfl k1 Try.underlying25 rfl cfInfo ?_)
      | ((with_reducible refine at_slot 64 ?_); refine wl_call rfl rfl Try.func16 (by kernel_rfl) rfl (ind_fit _) rfl ?_; intro V17 hb; replace k1 := k1.keep hb; replace k2 := k2.keep hb; replace k3 := k3.keep hb; replace k4 := k4.keep hb; replace HB := Lib.hid (below_tr HB.out hb); clear hb)
      | ((with_reducible refine at_slot 68 ?_); refine wl_ld0 rfl rfl rfl k1 Try.underlying25 rfl cfInfo ?_)
      | ((with_reducible refine at_slot 69 ?_); refine wl_call rfl rfl Try.func18 (by kernel_rfl) rfl (hom_fit9 _) rfl ?_; intro V18 hb; replace k1 := k1.keep hb; replace k2 := k2.keep hb; replace k3 := k3.keep hb; replace k4 := k4.keep hb; replace HB := Lib.hid (below_tr HB.out hb); clear hb)
      | ((with_reducible refine at_slot 73 ?_); refine wl_ld0 rfl rfl rfl k1 Try.underlying25 rfl cfInfo ?_)
      | ((with_reducible refine at_slot 74 ?_); refine wl_call rfl rfl Try.func20 (by kernel_rfl) rfl (plc_fit9 _) rfl ?_; intro V19 hb; replace k1 := k1.keep hb; replace k2 := k2.keep hb; replace k3 := k3.keep hb; replace k4 := k4.keep hb; replace HB := Lib.hid (below_tr HB.out hb); clear hb)
      | ((with_reducible refine at_slot 91 ?_); refine wl_ld0 rfl rfl rfl k2 Try.underlying25 rfl cfInfo ?_)
      | ((with_reducible refine at_slot 92 ?_); refine wl_ld0 rfl rfl rfl k1 Try.underlying25 rfl cfInfo ?_)
      | ((with_reducible refine at_slot 93 ?_); refine wl_bin (v := .bool true) rfl rfl (run_eqGuard_agg _ _ _ _ _ _ _ (by kernel_rfl)) (cf_eql rfl _) ?_)
      | ((with_reducible refine at_slot 108 ?_); refine wl_ld0 rfl rfl rfl k1 Try.underlying25 rfl cfInfo ?_)
      | ((with_reducible refine at_slot 109 ?_); refine wl_call rfl rfl Try.func24 (by kernel_rfl) rfl (ret_fit _) rfl ?_; intro V20 hb; replace k1 := k1.keep hb; replace k2 := k2.keep hb; replace k3 := k3.keep hb; replace k4 := k4.keep hb; replace HB := Lib.hid (below_tr HB.out hb); clear hb))
  go_ret
  exact ⟨rfl, HB.out⟩
end Go.Proofs.Yticmkepocacmhaa
