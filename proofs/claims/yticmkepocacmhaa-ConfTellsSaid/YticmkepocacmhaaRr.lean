/-
  THE DOCUMENT'S ANSWERS for configurations: plimsollref10.Read.
-/
import Derived.Test.YticmkepocacmhaaRy
namespace Go.Proofs.Yticmkepocacmhaa
open Go Go.RowKit

set_option maxHeartbeats 4000000 in
set_option maxRecDepth 100000 in
theorem rread_a {l : List UInt8} (hl : l.length ≤ 140737488355328) (h : ¬ CfOk (rdC l)) (w : World) : Calls Try.prog 11 #[.string (bs l)] w fun e w' => e = .returned (.tuple #[.agg (cfA (zeroCf)), .int .i64 4]) ∧ Below w.heap.size w w' := by
  have HC := Lib.hid h
  clear h
  have lt0 := fxN_lt 4 (some l)
  have b0 : ((fxN 4 (some l) : Nat) : Int) ≤ 4294967295 := by omega
  have i0 : IntKind.i64.wrap ((fxN 4 (some l) : Nat) : Int) = ((fxN 4 (some l) : Nat) : Int) := by rw [IntKind.wrap_i64]; omega
  have I0 : wrap64 ((fxN 4 (some l) : Nat) : Int) = ((fxN 4 (some l) : Nat) : Int) := by unfold wrap64; omega
  clear lt0
  have lt4 := fxN_lt 4 (rO4 l)
  have b4 : ((fxN 4 (rO4 l) : Nat) : Int) ≤ 4294967295 := by omega
  have i4 : IntKind.i64.wrap ((fxN 4 (rO4 l) : Nat) : Int) = ((fxN 4 (rO4 l) : Nat) : Int) := by rw [IntKind.wrap_i64]; omega
  have I4 : wrap64 ((fxN 4 (rO4 l) : Nat) : Int) = ((fxN 4 (rO4 l) : Nat) : Int) := by unfold wrap64; omega
  clear lt4
  have lt5 := fxN_lt 4 (rO5 l)
  have b5 : ((fxN 4 (rO5 l) : Nat) : Int) ≤ 4294967295 := by omega
  have i5 : IntKind.i64.wrap ((fxN 4 (rO5 l) : Nat) : Int) = ((fxN 4 (rO5 l) : Nat) : Int) := by rw [IntKind.wrap_i64]; omega
  have I5 : wrap64 ((fxN 4 (rO5 l) : Nat) : Int) = ((fxN 4 (rO5 l) : Nat) : Int) := by unfold wrap64; omega
  clear lt5
  have lt6 := fxN_lt 4 (rO6 l)
  have b6 : ((fxN 4 (rO6 l) : Nat) : Int) ≤ 4294967295 := by omega
  have i6 : IntKind.i64.wrap ((fxN 4 (rO6 l) : Nat) : Int) = ((fxN 4 (rO6 l) : Nat) : Int) := by rw [IntKind.wrap_i64]; omega
  have I6 : wrap64 ((fxN 4 (rO6 l) : Nat) : Int) = ((fxN 4 (rO6 l) : Nat) : Int) := by unfold wrap64; omega
  clear lt6
  have lt7 := fxN_lt 4 (rO7 l)
  have b7 : ((fxN 4 (rO7 l) : Nat) : Int) ≤ 4294967295 := by omega
  have i7 : IntKind.i64.wrap ((fxN 4 (rO7 l) : Nat) : Int) = ((fxN 4 (rO7 l) : Nat) : Int) := by rw [IntKind.wrap_i64]; omega
  have I7 : wrap64 ((fxN 4 (rO7 l) : Nat) : Int) = ((fxN 4 (rO7 l) : Nat) : Int) := by unfold wrap64; omega
  clear lt7
  have lt8 := fxN_lt 4 (rO8 l)
  have b8 : ((fxN 4 (rO8 l) : Nat) : Int) ≤ 4294967295 := by omega
  have i8 : IntKind.i64.wrap ((fxN 4 (rO8 l) : Nat) : Int) = ((fxN 4 (rO8 l) : Nat) : Int) := by rw [IntKind.wrap_i64]; omega
  have I8 : wrap64 ((fxN 4 (rO8 l) : Nat) : Int) = ((fxN 4 (rO8 l) : Nat) : Int) := by unfold wrap64; omega
  clear lt8
  have HL0 := Lib.hid hl
  clear hl
  have HB := Lib.hid (Below.refl w.heap.size w)
  go_enter Try.func11, Try.ntmps11
  go_wp2_with (first
      | ((with_reducible refine at_slot 2 ?_); refine wl_alloc (A := (cfA zeroCf)) rfl rfl cf_zero rfl ?_; intro W1 g1 k1 hb hle; have L1 := Lib.hid (Nat.le_trans HB.out.size hle); replace HB := Lib.hid (below_tr HB.out hb); clear hb hle)
      | ((with_reducible refine at_slot 10 ?_); refine wl_build (v := .agg (rdA (some l))) rfl rfl (build_rv l _) rfl ?_)
      | ((with_reducible refine at_slot 4 ?_); refine wl_alloc (A := #[.string ⟨#[]⟩, .bool false]) rfl rfl rv_zero rfl ?_; intro W2 g2 k2 hb hle; have n1_2 := Lib.hid (Blk.ne_of_le k1 hle); have L2 := Lib.hid (Nat.le_trans HB.out.size hle); replace k1 := k1.keep hb; replace HB := Lib.hid (below_tr HB.out hb); clear hb hle)
      | ((with_reducible refine at_store 4 ?_); refine wl_st0 (A' := (rdA (some l))) rfl rfl rfl rfl k2 rfl rvInfo (rdA_one (some l)) ?_; intro V1 kn hu; replace k1 := k1.upd hu n1_2.out; replace HB := Lib.hid (upd_below HB.out hu L2.out); clear k2; have k2 : Blk _ g2 _ (rdA (some l)) := kn; clear kn hu)
      | ((with_reducible refine at_slot 5 ?_); refine wl_alloc (A := (cfA zeroCf)) rfl rfl cf_zero rfl ?_; intro W3 g3 k3 hb hle; have n1_3 := Lib.hid (Blk.ne_of_le k1 hle); have n2_3 := Lib.hid (Blk.ne_of_le k2 hle); have L3 := Lib.hid (Nat.le_trans HB.out.size hle); replace k1 := k1.keep hb; replace k2 := k2.keep hb; replace HB := Lib.hid (below_tr HB.out hb); clear hb hle)
      | ((with_reducible refine at_slot 12 ?_); refine wl_ld0 rfl rfl rfl k2 Try.underlying51 rfl rvInfo ?_)
      | ((with_reducible refine at_slot 13 ?_); refine wl_call rfl rfl Try.func34 (by kernel_rfl) rfl (vfx_any (o := some l) 4 (by omega) (by omega) HL0.out _) rfl ?_; intro V2 hb; replace k1 := k1.keep hb; replace k2 := k2.keep hb; replace k3 := k3.keep hb; replace HB := Lib.hid (below_tr HB.out hb); clear hb)
      | ((with_reducible refine at_store 4 ?_); refine wl_st0 (A' := (rdA (rO1 l))) rfl rfl rfl rfl k2 rfl rvInfo (rdA_one (rO1 l)) ?_; intro V3 kn hu; replace k1 := k1.upd hu n1_2.out; replace k3 := k3.upd hu (Ne.symm n2_3.out); replace HB := Lib.hid (upd_below HB.out hu L2.out); clear k2; have k2 : Blk _ g2 _ (rdA (rO1 l)) := kn; clear kn hu)
      | ((with_reducible refine at_store 18 ?_); refine wl_st1 (v := .int .i64 (rdC l).raw) rfl rfl rfl rfl k3 (by kernel_rfl) rfl rfl (by first | simp | simp [cfA]) ?_; intro V4 kn hu; replace k1 := k1.upd hu n1_3.out; replace k2 := k2.upd hu n2_3.out; replace HB := Lib.hid (upd_below HB.out hu L3.out); clear k3; have k3 : Blk _ g3 _ #[.int .i64 (rdC l).raw, .int .i64 zeroCf.w0, .int .i64 zeroCf.w1, .int .i64 zeroCf.w2, .int .i64 zeroCf.n0, .int .i64 zeroCf.n1, .int .i64 zeroCf.n2, .int .i64 zeroCf.cap, .int .i64 zeroCf.log] := kn; clear kn hu))
  refine wp_loop_rounds 4 ?_
  rw [rounds_succ]
  go_wp2_with (first
      | ((with_reducible refine at_slot 24 ?_); refine wl_ld0 rfl rfl rfl k2 Try.underlying51 rfl rvInfo ?_)
      | ((with_reducible refine at_slot 25 ?_); refine wl_call rfl rfl Try.func34 (by kernel_rfl) rfl (vfx_any (o := rO1 l) 8 (by omega) (by omega) (lenO1 HL0.out) _) rfl ?_; intro V5 hb; replace k1 := k1.keep hb; replace k2 := k2.keep hb; replace k3 := k3.keep hb; replace HB := Lib.hid (below_tr HB.out hb); clear hb)
      | ((with_reducible refine at_store 4 ?_); refine wl_st0 (A' := (rdA (rO2 l))) rfl rfl rfl rfl k2 rfl rvInfo (rdA_one (rO2 l)) ?_; intro V6 kn hu; replace k1 := k1.upd hu n1_2.out; replace k3 := k3.upd hu (Ne.symm n2_3.out); replace HB := Lib.hid (upd_below HB.out hu L2.out); clear k2; have k2 : Blk _ g2 _ (rdA (rO2 l)) := kn; clear kn hu)
      | ((with_reducible refine at_store 32 ?_); refine wl_st1 (v := .int .i64 (rdC l).w0) rfl rfl rfl rfl k3 (by kernel_rfl) rfl rfl (by first | simp | simp [cfA]) ?_; intro V7 kn hu; replace k1 := k1.upd hu n1_3.out; replace k2 := k2.upd hu n2_3.out; replace HB := Lib.hid (upd_below HB.out hu L3.out); clear k3; have k3 : Blk _ g3 _ #[.int .i64 (rdC l).raw, .int .i64 (rdC l).w0, .int .i64 zeroCf.w1, .int .i64 zeroCf.w2, .int .i64 zeroCf.n0, .int .i64 zeroCf.n1, .int .i64 zeroCf.n2, .int .i64 zeroCf.cap, .int .i64 zeroCf.log] := kn; clear kn hu))
  rw [rounds_succ]
  go_wp2_with (first
      | ((with_reducible refine at_slot 24 ?_); refine wl_ld0 rfl rfl rfl k2 Try.underlying51 rfl rvInfo ?_)
      | ((with_reducible refine at_slot 25 ?_); refine wl_call rfl rfl Try.func34 (by kernel_rfl) rfl (vfx_any (o := rO2 l) 8 (by omega) (by omega) (lenO2 HL0.out) _) rfl ?_; intro V8 hb; replace k1 := k1.keep hb; replace k2 := k2.keep hb; replace k3 := k3.keep hb; replace HB := Lib.hid (below_tr HB.out hb); clear hb)
      | ((with_reducible refine at_store 4 ?_); refine wl_st0 (A' := (rdA (rO3 l))) rfl rfl rfl rfl k2 rfl rvInfo (rdA_one (rO3 l)) ?_; intro V9 kn hu; replace k1 := k1.upd hu n1_2.out; replace k3 := k3.upd hu (Ne.symm n2_3.out); replace HB := Lib.hid (upd_below HB.out hu L2.out); clear k2; have k2 : Blk _ g2 _ (rdA (rO3 l)) := kn; clear kn hu)
      | ((with_reducible refine at_store 32 ?_); refine wl_st1 (v := .int .i64 (rdC l).w1) rfl rfl rfl rfl k3 (by kernel_rfl) rfl rfl (by first | simp | simp [cfA]) ?_; intro V10 kn hu; replace k1 := k1.upd hu n1_3.out; replace k2 := k2.upd hu n2_3.out; replace HB := Lib.hid (upd_below HB.out hu L3.out); clear k3; have k3 : Blk _ g3 _ #[.int .i64 (rdC l).raw, .int .i64 (rdC l).w0, .int .i64 (rdC l).w1, .int .i64 zeroCf.w2, .int .i64 zeroCf.n0, .int .i64 zeroCf.n1, .int .i64 zeroCf.n2, .int .i64 zeroCf.cap, .int .i64 zeroCf.log] := kn; clear kn hu))
  rw [rounds_succ]
  go_wp2_with (first
      | ((with_reducible refine at_slot 24 ?_); refine wl_ld0 rfl rfl rfl k2 Try.underlying51 rfl rvInfo ?_)
      | ((with_reducible refine at_slot 25 ?_); refine wl_call rfl rfl Try.func34 (by kernel_rfl) rfl (vfx_any (o := rO3 l) 8 (by omega) (by omega) (lenO3 HL0.out) _) rfl ?_; intro V11 hb; replace k1 := k1.keep hb; replace k2 := k2.keep hb; replace k3 := k3.keep hb; replace HB := Lib.hid (below_tr HB.out hb); clear hb)
      | ((with_reducible refine at_store 4 ?_); refine wl_st0 (A' := (rdA (rO4 l))) rfl rfl rfl rfl k2 rfl rvInfo (rdA_one (rO4 l)) ?_; intro V12 kn hu; replace k1 := k1.upd hu n1_2.out; replace k3 := k3.upd hu (Ne.symm n2_3.out); replace HB := Lib.hid (upd_below HB.out hu L2.out); clear k2; have k2 : Blk _ g2 _ (rdA (rO4 l)) := kn; clear kn hu)
      | ((with_reducible refine at_store 32 ?_); refine wl_st1 (v := .int .i64 (rdC l).w2) rfl rfl rfl rfl k3 (by kernel_rfl) rfl rfl (by first | simp | simp [cfA]) ?_; intro V13 kn hu; replace k1 := k1.upd hu n1_3.out; replace k2 := k2.upd hu n2_3.out; replace HB := Lib.hid (upd_below HB.out hu L3.out); clear k3; have k3 : Blk _ g3 _ #[.int .i64 (rdC l).raw, .int .i64 (rdC l).w0, .int .i64 (rdC l).w1, .int .i64 (rdC l).w2, .int .i64 zeroCf.n0, .int .i64 zeroCf.n1, .int .i64 zeroCf.n2, .int .i64 zeroCf.cap, .int .i64 zeroCf.log] := kn; clear kn hu))
  rw [rounds_succ]
  go_wp2_with fail
  refine wp_loop_rounds 4 ?_
  rw [rounds_succ]
  go_wp2_with (first
      | ((with_reducible refine at_slot 38 ?_); refine wl_ld0 rfl rfl rfl k2 Try.underlying51 rfl rvInfo ?_)
      | ((with_reducible refine at_slot 39 ?_); refine wl_call rfl rfl Try.func34 (by kernel_rfl) rfl (vfx_any (o := rO4 l) 4 (by omega) (by omega) (lenO4 HL0.out) _) rfl ?_; intro V14 hb; replace k1 := k1.keep hb; replace k2 := k2.keep hb; replace k3 := k3.keep hb; replace HB := Lib.hid (below_tr HB.out hb); clear hb)
      | ((with_reducible refine at_store 4 ?_); refine wl_st0 (A' := (rdA (rO5 l))) rfl rfl rfl rfl k2 rfl rvInfo (rdA_one (rO5 l)) ?_; intro V15 kn hu; replace k1 := k1.upd hu n1_2.out; replace k3 := k3.upd hu (Ne.symm n2_3.out); replace HB := Lib.hid (upd_below HB.out hu L2.out); clear k2; have k2 : Blk _ g2 _ (rdA (rO5 l)) := kn; clear kn hu)
      | ((with_reducible refine at_store 46 ?_); refine wl_st1 (v := .int .i64 (rdC l).n0) rfl rfl rfl rfl k3 (by kernel_rfl) rfl rfl (by first | simp | simp [cfA]) ?_; intro V16 kn hu; replace k1 := k1.upd hu n1_3.out; replace k2 := k2.upd hu n2_3.out; replace HB := Lib.hid (upd_below HB.out hu L3.out); clear k3; have k3 : Blk _ g3 _ #[.int .i64 (rdC l).raw, .int .i64 (rdC l).w0, .int .i64 (rdC l).w1, .int .i64 (rdC l).w2, .int .i64 (rdC l).n0, .int .i64 zeroCf.n1, .int .i64 zeroCf.n2, .int .i64 zeroCf.cap, .int .i64 zeroCf.log] := kn; clear kn hu))
  rw [rounds_succ]
  go_wp2_with (first
      | ((with_reducible refine at_slot 38 ?_); refine wl_ld0 rfl rfl rfl k2 Try.underlying51 rfl rvInfo ?_)
      | ((with_reducible refine at_slot 39 ?_); refine wl_call rfl rfl Try.func34 (by kernel_rfl) rfl (vfx_any (o := rO5 l) 4 (by omega) (by omega) (lenO5 HL0.out) _) rfl ?_; intro V17 hb; replace k1 := k1.keep hb; replace k2 := k2.keep hb; replace k3 := k3.keep hb; replace HB := Lib.hid (below_tr HB.out hb); clear hb)
      | ((with_reducible refine at_store 4 ?_); refine wl_st0 (A' := (rdA (rO6 l))) rfl rfl rfl rfl k2 rfl rvInfo (rdA_one (rO6 l)) ?_; intro V18 kn hu; replace k1 := k1.upd hu n1_2.out; replace k3 := k3.upd hu (Ne.symm n2_3.out); replace HB := Lib.hid (upd_below HB.out hu L2.out); clear k2; have k2 : Blk _ g2 _ (rdA (rO6 l)) := kn; clear kn hu)
      | ((with_reducible refine at_store 46 ?_); refine wl_st1 (v := .int .i64 (rdC l).n1) rfl rfl rfl rfl k3 (by kernel_rfl) rfl rfl (by first | simp | simp [cfA]) ?_; intro V19 kn hu; replace k1 := k1.upd hu n1_3.out; replace k2 := k2.upd hu n2_3.out; replace HB := Lib.hid (upd_below HB.out hu L3.out); clear k3; have k3 : Blk _ g3 _ #[.int .i64 (rdC l).raw, .int .i64 (rdC l).w0, .int .i64 (rdC l).w1, .int .i64 (rdC l).w2, .int .i64 (rdC l).n0, .int .i64 (rdC l).n1, .int .i64 zeroCf.n2, .int .i64 zeroCf.cap, .int .i64 zeroCf.log] := kn; clear kn hu))
  rw [rounds_succ]
  go_wp2_with (first
      | ((with_reducible refine at_slot 38 ?_); refine wl_ld0 rfl rfl rfl k2 Try.underlying51 rfl rvInfo ?_)
      | ((with_reducible refine at_slot 39 ?_); refine wl_call rfl rfl Try.func34 (by kernel_rfl) rfl (vfx_any (o := rO6 l) 4 (by omega) (by omega) (lenO6 HL0.out) _) rfl ?_; intro V20 hb; replace k1 := k1.keep hb; replace k2 := k2.keep hb; replace k3 := k3.keep hb; replace HB := Lib.hid (below_tr HB.out hb); clear hb)
      | ((with_reducible refine at_store 4 ?_); refine wl_st0 (A' := (rdA (rO7 l))) rfl rfl rfl rfl k2 rfl rvInfo (rdA_one (rO7 l)) ?_; intro V21 kn hu; replace k1 := k1.upd hu n1_2.out; replace k3 := k3.upd hu (Ne.symm n2_3.out); replace HB := Lib.hid (upd_below HB.out hu L2.out); clear k2; have k2 : Blk _ g2 _ (rdA (rO7 l)) := kn; clear kn hu)
      | ((with_reducible refine at_store 46 ?_); refine wl_st1 (v := .int .i64 (rdC l).n2) rfl rfl rfl rfl k3 (by kernel_rfl) rfl rfl (by first | simp | simp [cfA]) ?_; intro V22 kn hu; replace k1 := k1.upd hu n1_3.out; replace k2 := k2.upd hu n2_3.out; replace HB := Lib.hid (upd_below HB.out hu L3.out); clear k3; have k3 : Blk _ g3 _ #[.int .i64 (rdC l).raw, .int .i64 (rdC l).w0, .int .i64 (rdC l).w1, .int .i64 (rdC l).w2, .int .i64 (rdC l).n0, .int .i64 (rdC l).n1, .int .i64 (rdC l).n2, .int .i64 zeroCf.cap, .int .i64 zeroCf.log] := kn; clear kn hu))
  rw [rounds_succ]
  go_wp2_with (first
      | ((with_reducible refine at_slot 48 ?_); refine wl_ld0 rfl rfl rfl k2 Try.underlying51 rfl rvInfo ?_)
      | ((with_reducible refine at_slot 49 ?_); refine wl_call rfl rfl Try.func34 (by kernel_rfl) rfl (vfx_any (o := rO7 l) 4 (by omega) (by omega) (lenO7 HL0.out) _) rfl ?_; intro V23 hb; replace k1 := k1.keep hb; replace k2 := k2.keep hb; replace k3 := k3.keep hb; replace HB := Lib.hid (below_tr HB.out hb); clear hb)
      | ((with_reducible refine at_store 4 ?_); refine wl_st0 (A' := (rdA (rO8 l))) rfl rfl rfl rfl k2 rfl rvInfo (rdA_one (rO8 l)) ?_; intro V24 kn hu; replace k1 := k1.upd hu n1_2.out; replace k3 := k3.upd hu (Ne.symm n2_3.out); replace HB := Lib.hid (upd_below HB.out hu L2.out); clear k2; have k2 : Blk _ g2 _ (rdA (rO8 l)) := kn; clear kn hu)
      | ((with_reducible refine at_store 54 ?_); refine wl_st1 (v := .int .i64 (rdC l).cap) rfl rfl rfl rfl k3 (by kernel_rfl) rfl rfl (by first | simp | simp [cfA]) ?_; intro V25 kn hu; replace k1 := k1.upd hu n1_3.out; replace k2 := k2.upd hu n2_3.out; replace HB := Lib.hid (upd_below HB.out hu L3.out); clear k3; have k3 : Blk _ g3 _ #[.int .i64 (rdC l).raw, .int .i64 (rdC l).w0, .int .i64 (rdC l).w1, .int .i64 (rdC l).w2, .int .i64 (rdC l).n0, .int .i64 (rdC l).n1, .int .i64 (rdC l).n2, .int .i64 (rdC l).cap, .int .i64 zeroCf.log] := kn; clear kn hu)
      | ((with_reducible refine at_slot 56 ?_); refine wl_ld0 rfl rfl rfl k2 Try.underlying51 rfl rvInfo ?_)
      | ((with_reducible refine at_slot 57 ?_); refine wl_call rfl rfl Try.func34 (by kernel_rfl) rfl (vfx_any (o := rO8 l) 4 (by omega) (by omega) (lenO8 HL0.out) _) rfl ?_; intro V26 hb; replace k1 := k1.keep hb; replace k2 := k2.keep hb; replace k3 := k3.keep hb; replace HB := Lib.hid (below_tr HB.out hb); clear hb)
      | ((with_reducible refine at_store 62 ?_); refine wl_st1 (v := .int .i64 (rdC l).log) rfl rfl rfl rfl k3 (by kernel_rfl) rfl rfl (by first | simp | simp [cfA]) ?_; intro V27 kn hu; replace k1 := k1.upd hu n1_3.out; replace k2 := k2.upd hu n2_3.out; replace HB := Lib.hid (upd_below HB.out hu L3.out); clear k3; have k3 : Blk _ g3 _ #[.int .i64 (rdC l).raw, .int .i64 (rdC l).w0, .int .i64 (rdC l).w1, .int .i64 (rdC l).w2, .int .i64 (rdC l).n0, .int .i64 (rdC l).n1, .int .i64 (rdC l).n2, .int .i64 (rdC l).cap, .int .i64 (rdC l).log] := kn; clear kn hu)
      | ((with_reducible refine at_slot 63 ?_); refine wl_ld0 rfl rfl rfl k3 Try.underlying25 rfl cfInfo ?_)
      | ((with_reducible refine at_slot 64 ?_); refine wl_call rfl rfl Try.func13 (by kernel_rfl) rfl (rck_no HC.out _) rfl ?_; intro V28 hb; replace k1 := k1.keep hb; replace k2 := k2.keep hb; replace k3 := k3.keep hb; replace HB := Lib.hid (below_tr HB.out hb); clear hb)
      | ((with_reducible refine at_slot 67 ?_); refine wl_ld0 rfl rfl rfl k3 Try.underlying25 rfl cfInfo ?_)
      | ((with_reducible refine at_slot 72 ?_); refine wl_build (v := .agg (cfA zeroCf)) rfl rfl (build_cf0 _) rfl ?_)
      | ((with_reducible refine at_store 2 ?_); refine wl_st0 (A' := (cfA zeroCf)) rfl rfl rfl rfl k1 rfl cfInfo (cfA_one zeroCf) ?_; intro V29 kn hu; replace k2 := k2.upd hu (Ne.symm n1_2.out); replace k3 := k3.upd hu (Ne.symm n1_3.out); replace HB := Lib.hid (upd_below HB.out hu L1.out); clear k1; have k1 : Blk _ g1 _ (cfA zeroCf) := kn; clear kn hu))
  refine bodyPost_ret (v := .tuple #[.agg (cfA zeroCf), .int .i64 4]) (results_ct Try.results11 _ rfl rfl k1 Try.underlying25 rfl cfInfo) rfl ?_
  exact ⟨rfl, HB.out⟩
set_option maxHeartbeats 4000000 in
set_option maxRecDepth 100000 in
theorem rread_b {l : List UInt8} (hl : l.length ≤ 140737488355328) (h : CfOk (rdC l)) (hn : ¬ byL (rdC l) = l) (w : World) : Calls Try.prog 11 #[.string (bs l)] w fun e w' => e = .returned (.tuple #[.agg (cfA (zeroCf)), .int .i64 4]) ∧ Below w.heap.size w w' := by
  have HC := Lib.hid h
  have HBY := Lib.hid (fun w1 => rbyt_yes h w1)
  have hne : (!(bs (byL (rdC l))).toList == (bs l).toList) = true := by rw [bs_toList, bs_toList]; simpa using hn
  obtain ⟨X, hX⟩ : ∃ X, X = bs (byL (rdC l)) := ⟨_, rfl⟩
  rw [← hX] at HBY hne
  clear hX h hn
  have lt0 := fxN_lt 4 (some l)
  have b0 : ((fxN 4 (some l) : Nat) : Int) ≤ 4294967295 := by omega
  have i0 : IntKind.i64.wrap ((fxN 4 (some l) : Nat) : Int) = ((fxN 4 (some l) : Nat) : Int) := by rw [IntKind.wrap_i64]; omega
  have I0 : wrap64 ((fxN 4 (some l) : Nat) : Int) = ((fxN 4 (some l) : Nat) : Int) := by unfold wrap64; omega
  clear lt0
  have lt4 := fxN_lt 4 (rO4 l)
  have b4 : ((fxN 4 (rO4 l) : Nat) : Int) ≤ 4294967295 := by omega
  have i4 : IntKind.i64.wrap ((fxN 4 (rO4 l) : Nat) : Int) = ((fxN 4 (rO4 l) : Nat) : Int) := by rw [IntKind.wrap_i64]; omega
  have I4 : wrap64 ((fxN 4 (rO4 l) : Nat) : Int) = ((fxN 4 (rO4 l) : Nat) : Int) := by unfold wrap64; omega
  clear lt4
  have lt5 := fxN_lt 4 (rO5 l)
  have b5 : ((fxN 4 (rO5 l) : Nat) : Int) ≤ 4294967295 := by omega
  have i5 : IntKind.i64.wrap ((fxN 4 (rO5 l) : Nat) : Int) = ((fxN 4 (rO5 l) : Nat) : Int) := by rw [IntKind.wrap_i64]; omega
  have I5 : wrap64 ((fxN 4 (rO5 l) : Nat) : Int) = ((fxN 4 (rO5 l) : Nat) : Int) := by unfold wrap64; omega
  clear lt5
  have lt6 := fxN_lt 4 (rO6 l)
  have b6 : ((fxN 4 (rO6 l) : Nat) : Int) ≤ 4294967295 := by omega
  have i6 : IntKind.i64.wrap ((fxN 4 (rO6 l) : Nat) : Int) = ((fxN 4 (rO6 l) : Nat) : Int) := by rw [IntKind.wrap_i64]; omega
  have I6 : wrap64 ((fxN 4 (rO6 l) : Nat) : Int) = ((fxN 4 (rO6 l) : Nat) : Int) := by unfold wrap64; omega
  clear lt6
  have lt7 := fxN_lt 4 (rO7 l)
  have b7 : ((fxN 4 (rO7 l) : Nat) : Int) ≤ 4294967295 := by omega
  have i7 : IntKind.i64.wrap ((fxN 4 (rO7 l) : Nat) : Int) = ((fxN 4 (rO7 l) : Nat) : Int) := by rw [IntKind.wrap_i64]; omega
  have I7 : wrap64 ((fxN 4 (rO7 l) : Nat) : Int) = ((fxN 4 (rO7 l) : Nat) : Int) := by unfold wrap64; omega
  clear lt7
  have lt8 := fxN_lt 4 (rO8 l)
  have b8 : ((fxN 4 (rO8 l) : Nat) : Int) ≤ 4294967295 := by omega
  have i8 : IntKind.i64.wrap ((fxN 4 (rO8 l) : Nat) : Int) = ((fxN 4 (rO8 l) : Nat) : Int) := by rw [IntKind.wrap_i64]; omega
  have I8 : wrap64 ((fxN 4 (rO8 l) : Nat) : Int) = ((fxN 4 (rO8 l) : Nat) : Int) := by unfold wrap64; omega
  clear lt8
  have HL0 := Lib.hid hl
  clear hl
  have HB := Lib.hid (Below.refl w.heap.size w)
  go_enter Try.func11, Try.ntmps11
  go_wp2_with (first
      | ((with_reducible refine at_slot 2 ?_); refine wl_alloc (A := (cfA zeroCf)) rfl rfl cf_zero rfl ?_; intro W1 g1 k1 hb hle; have L1 := Lib.hid (Nat.le_trans HB.out.size hle); replace HB := Lib.hid (below_tr HB.out hb); clear hb hle)
      | ((with_reducible refine at_slot 10 ?_); refine wl_build (v := .agg (rdA (some l))) rfl rfl (build_rv l _) rfl ?_)
      | ((with_reducible refine at_slot 4 ?_); refine wl_alloc (A := #[.string ⟨#[]⟩, .bool false]) rfl rfl rv_zero rfl ?_; intro W2 g2 k2 hb hle; have n1_2 := Lib.hid (Blk.ne_of_le k1 hle); have L2 := Lib.hid (Nat.le_trans HB.out.size hle); replace k1 := k1.keep hb; replace HB := Lib.hid (below_tr HB.out hb); clear hb hle)
      | ((with_reducible refine at_store 4 ?_); refine wl_st0 (A' := (rdA (some l))) rfl rfl rfl rfl k2 rfl rvInfo (rdA_one (some l)) ?_; intro V1 kn hu; replace k1 := k1.upd hu n1_2.out; replace HB := Lib.hid (upd_below HB.out hu L2.out); clear k2; have k2 : Blk _ g2 _ (rdA (some l)) := kn; clear kn hu)
      | ((with_reducible refine at_slot 5 ?_); refine wl_alloc (A := (cfA zeroCf)) rfl rfl cf_zero rfl ?_; intro W3 g3 k3 hb hle; have n1_3 := Lib.hid (Blk.ne_of_le k1 hle); have n2_3 := Lib.hid (Blk.ne_of_le k2 hle); have L3 := Lib.hid (Nat.le_trans HB.out.size hle); replace k1 := k1.keep hb; replace k2 := k2.keep hb; replace HB := Lib.hid (below_tr HB.out hb); clear hb hle)
      | ((with_reducible refine at_slot 12 ?_); refine wl_ld0 rfl rfl rfl k2 Try.underlying51 rfl rvInfo ?_)
      | ((with_reducible refine at_slot 13 ?_); refine wl_call rfl rfl Try.func34 (by kernel_rfl) rfl (vfx_any (o := some l) 4 (by omega) (by omega) HL0.out _) rfl ?_; intro V2 hb; replace k1 := k1.keep hb; replace k2 := k2.keep hb; replace k3 := k3.keep hb; replace HB := Lib.hid (below_tr HB.out hb); clear hb)
      | ((with_reducible refine at_store 4 ?_); refine wl_st0 (A' := (rdA (rO1 l))) rfl rfl rfl rfl k2 rfl rvInfo (rdA_one (rO1 l)) ?_; intro V3 kn hu; replace k1 := k1.upd hu n1_2.out; replace k3 := k3.upd hu (Ne.symm n2_3.out); replace HB := Lib.hid (upd_below HB.out hu L2.out); clear k2; have k2 : Blk _ g2 _ (rdA (rO1 l)) := kn; clear kn hu)
      | ((with_reducible refine at_store 18 ?_); refine wl_st1 (v := .int .i64 (rdC l).raw) rfl rfl rfl rfl k3 (by kernel_rfl) rfl rfl (by first | simp | simp [cfA]) ?_; intro V4 kn hu; replace k1 := k1.upd hu n1_3.out; replace k2 := k2.upd hu n2_3.out; replace HB := Lib.hid (upd_below HB.out hu L3.out); clear k3; have k3 : Blk _ g3 _ #[.int .i64 (rdC l).raw, .int .i64 zeroCf.w0, .int .i64 zeroCf.w1, .int .i64 zeroCf.w2, .int .i64 zeroCf.n0, .int .i64 zeroCf.n1, .int .i64 zeroCf.n2, .int .i64 zeroCf.cap, .int .i64 zeroCf.log] := kn; clear kn hu))
  refine wp_loop_rounds 4 ?_
  rw [rounds_succ]
  go_wp2_with (first
      | ((with_reducible refine at_slot 24 ?_); refine wl_ld0 rfl rfl rfl k2 Try.underlying51 rfl rvInfo ?_)
      | ((with_reducible refine at_slot 25 ?_); refine wl_call rfl rfl Try.func34 (by kernel_rfl) rfl (vfx_any (o := rO1 l) 8 (by omega) (by omega) (lenO1 HL0.out) _) rfl ?_; intro V5 hb; replace k1 := k1.keep hb; replace k2 := k2.keep hb; replace k3 := k3.keep hb; replace HB := Lib.hid (below_tr HB.out hb); clear hb)
      | ((with_reducible refine at_store 4 ?_); refine wl_st0 (A' := (rdA (rO2 l))) rfl rfl rfl rfl k2 rfl rvInfo (rdA_one (rO2 l)) ?_; intro V6 kn hu; replace k1 := k1.upd hu n1_2.out; replace k3 := k3.upd hu (Ne.symm n2_3.out); replace HB := Lib.hid (upd_below HB.out hu L2.out); clear k2; have k2 : Blk _ g2 _ (rdA (rO2 l)) := kn; clear kn hu)
      | ((with_reducible refine at_store 32 ?_); refine wl_st1 (v := .int .i64 (rdC l).w0) rfl rfl rfl rfl k3 (by kernel_rfl) rfl rfl (by first | simp | simp [cfA]) ?_; intro V7 kn hu; replace k1 := k1.upd hu n1_3.out; replace k2 := k2.upd hu n2_3.out; replace HB := Lib.hid (upd_below HB.out hu L3.out); clear k3; have k3 : Blk _ g3 _ #[.int .i64 (rdC l).raw, .int .i64 (rdC l).w0, .int .i64 zeroCf.w1, .int .i64 zeroCf.w2, .int .i64 zeroCf.n0, .int .i64 zeroCf.n1, .int .i64 zeroCf.n2, .int .i64 zeroCf.cap, .int .i64 zeroCf.log] := kn; clear kn hu))
  rw [rounds_succ]
  go_wp2_with (first
      | ((with_reducible refine at_slot 24 ?_); refine wl_ld0 rfl rfl rfl k2 Try.underlying51 rfl rvInfo ?_)
      | ((with_reducible refine at_slot 25 ?_); refine wl_call rfl rfl Try.func34 (by kernel_rfl) rfl (vfx_any (o := rO2 l) 8 (by omega) (by omega) (lenO2 HL0.out) _) rfl ?_; intro V8 hb; replace k1 := k1.keep hb; replace k2 := k2.keep hb; replace k3 := k3.keep hb; replace HB := Lib.hid (below_tr HB.out hb); clear hb)
      | ((with_reducible refine at_store 4 ?_); refine wl_st0 (A' := (rdA (rO3 l))) rfl rfl rfl rfl k2 rfl rvInfo (rdA_one (rO3 l)) ?_; intro V9 kn hu; replace k1 := k1.upd hu n1_2.out; replace k3 := k3.upd hu (Ne.symm n2_3.out); replace HB := Lib.hid (upd_below HB.out hu L2.out); clear k2; have k2 : Blk _ g2 _ (rdA (rO3 l)) := kn; clear kn hu)
      | ((with_reducible refine at_store 32 ?_); refine wl_st1 (v := .int .i64 (rdC l).w1) rfl rfl rfl rfl k3 (by kernel_rfl) rfl rfl (by first | simp | simp [cfA]) ?_; intro V10 kn hu; replace k1 := k1.upd hu n1_3.out; replace k2 := k2.upd hu n2_3.out; replace HB := Lib.hid (upd_below HB.out hu L3.out); clear k3; have k3 : Blk _ g3 _ #[.int .i64 (rdC l).raw, .int .i64 (rdC l).w0, .int .i64 (rdC l).w1, .int .i64 zeroCf.w2, .int .i64 zeroCf.n0, .int .i64 zeroCf.n1, .int .i64 zeroCf.n2, .int .i64 zeroCf.cap, .int .i64 zeroCf.log] := kn; clear kn hu))
  rw [rounds_succ]
  go_wp2_with (first
      | ((with_reducible refine at_slot 24 ?_); refine wl_ld0 rfl rfl rfl k2 Try.underlying51 rfl rvInfo ?_)
      | ((with_reducible refine at_slot 25 ?_); refine wl_call rfl rfl Try.func34 (by kernel_rfl) rfl (vfx_any (o := rO3 l) 8 (by omega) (by omega) (lenO3 HL0.out) _) rfl ?_; intro V11 hb; replace k1 := k1.keep hb; replace k2 := k2.keep hb; replace k3 := k3.keep hb; replace HB := Lib.hid (below_tr HB.out hb); clear hb)
      | ((with_reducible refine at_store 4 ?_); refine wl_st0 (A' := (rdA (rO4 l))) rfl rfl rfl rfl k2 rfl rvInfo (rdA_one (rO4 l)) ?_; intro V12 kn hu; replace k1 := k1.upd hu n1_2.out; replace k3 := k3.upd hu (Ne.symm n2_3.out); replace HB := Lib.hid (upd_below HB.out hu L2.out); clear k2; have k2 : Blk _ g2 _ (rdA (rO4 l)) := kn; clear kn hu)
      | ((with_reducible refine at_store 32 ?_); refine wl_st1 (v := .int .i64 (rdC l).w2) rfl rfl rfl rfl k3 (by kernel_rfl) rfl rfl (by first | simp | simp [cfA]) ?_; intro V13 kn hu; replace k1 := k1.upd hu n1_3.out; replace k2 := k2.upd hu n2_3.out; replace HB := Lib.hid (upd_below HB.out hu L3.out); clear k3; have k3 : Blk _ g3 _ #[.int .i64 (rdC l).raw, .int .i64 (rdC l).w0, .int .i64 (rdC l).w1, .int .i64 (rdC l).w2, .int .i64 zeroCf.n0, .int .i64 zeroCf.n1, .int .i64 zeroCf.n2, .int .i64 zeroCf.cap, .int .i64 zeroCf.log] := kn; clear kn hu))
  rw [rounds_succ]
  go_wp2_with fail
  refine wp_loop_rounds 4 ?_
  rw [rounds_succ]
  go_wp2_with (first
      | ((with_reducible refine at_slot 38 ?_); refine wl_ld0 rfl rfl rfl k2 Try.underlying51 rfl rvInfo ?_)
      | ((with_reducible refine at_slot 39 ?_); refine wl_call rfl rfl Try.func34 (by kernel_rfl) rfl (vfx_any (o := rO4 l) 4 (by omega) (by omega) (lenO4 HL0.out) _) rfl ?_; intro V14 hb; replace k1 := k1.keep hb; replace k2 := k2.keep hb; replace k3 := k3.keep hb; replace HB := Lib.hid (below_tr HB.out hb); clear hb)
      | ((with_reducible refine at_store 4 ?_); refine wl_st0 (A' := (rdA (rO5 l))) rfl rfl rfl rfl k2 rfl rvInfo (rdA_one (rO5 l)) ?_; intro V15 kn hu; replace k1 := k1.upd hu n1_2.out; replace k3 := k3.upd hu (Ne.symm n2_3.out); replace HB := Lib.hid (upd_below HB.out hu L2.out); clear k2; have k2 : Blk _ g2 _ (rdA (rO5 l)) := kn; clear kn hu)
      | ((with_reducible refine at_store 46 ?_); refine wl_st1 (v := .int .i64 (rdC l).n0) rfl rfl rfl rfl k3 (by kernel_rfl) rfl rfl (by first | simp | simp [cfA]) ?_; intro V16 kn hu; replace k1 := k1.upd hu n1_3.out; replace k2 := k2.upd hu n2_3.out; replace HB := Lib.hid (upd_below HB.out hu L3.out); clear k3; have k3 : Blk _ g3 _ #[.int .i64 (rdC l).raw, .int .i64 (rdC l).w0, .int .i64 (rdC l).w1, .int .i64 (rdC l).w2, .int .i64 (rdC l).n0, .int .i64 zeroCf.n1, .int .i64 zeroCf.n2, .int .i64 zeroCf.cap, .int .i64 zeroCf.log] := kn; clear kn hu))
  rw [rounds_succ]
  go_wp2_with (first
      | ((with_reducible refine at_slot 38 ?_); refine wl_ld0 rfl rfl rfl k2 Try.underlying51 rfl rvInfo ?_)
      | ((with_reducible refine at_slot 39 ?_); refine wl_call rfl rfl Try.func34 (by kernel_rfl) rfl (vfx_any (o := rO5 l) 4 (by omega) (by omega) (lenO5 HL0.out) _) rfl ?_; intro V17 hb; replace k1 := k1.keep hb; replace k2 := k2.keep hb; replace k3 := k3.keep hb; replace HB := Lib.hid (below_tr HB.out hb); clear hb)
      | ((with_reducible refine at_store 4 ?_); refine wl_st0 (A' := (rdA (rO6 l))) rfl rfl rfl rfl k2 rfl rvInfo (rdA_one (rO6 l)) ?_; intro V18 kn hu; replace k1 := k1.upd hu n1_2.out; replace k3 := k3.upd hu (Ne.symm n2_3.out); replace HB := Lib.hid (upd_below HB.out hu L2.out); clear k2; have k2 : Blk _ g2 _ (rdA (rO6 l)) := kn; clear kn hu)
      | ((with_reducible refine at_store 46 ?_); refine wl_st1 (v := .int .i64 (rdC l).n1) rfl rfl rfl rfl k3 (by kernel_rfl) rfl rfl (by first | simp | simp [cfA]) ?_; intro V19 kn hu; replace k1 := k1.upd hu n1_3.out; replace k2 := k2.upd hu n2_3.out; replace HB := Lib.hid (upd_below HB.out hu L3.out); clear k3; have k3 : Blk _ g3 _ #[.int .i64 (rdC l).raw, .int .i64 (rdC l).w0, .int .i64 (rdC l).w1, .int .i64 (rdC l).w2, .int .i64 (rdC l).n0, .int .i64 (rdC l).n1, .int .i64 zeroCf.n2, .int .i64 zeroCf.cap, .int .i64 zeroCf.log] := kn; clear kn hu))
  rw [rounds_succ]
  go_wp2_with (first
      | ((with_reducible refine at_slot 38 ?_); refine wl_ld0 rfl rfl rfl k2 Try.underlying51 rfl rvInfo ?_)
      | ((with_reducible refine at_slot 39 ?_); refine wl_call rfl rfl Try.func34 (by kernel_rfl) rfl (vfx_any (o := rO6 l) 4 (by omega) (by omega) (lenO6 HL0.out) _) rfl ?_; intro V20 hb; replace k1 := k1.keep hb; replace k2 := k2.keep hb; replace k3 := k3.keep hb; replace HB := Lib.hid (below_tr HB.out hb); clear hb)
      | ((with_reducible refine at_store 4 ?_); refine wl_st0 (A' := (rdA (rO7 l))) rfl rfl rfl rfl k2 rfl rvInfo (rdA_one (rO7 l)) ?_; intro V21 kn hu; replace k1 := k1.upd hu n1_2.out; replace k3 := k3.upd hu (Ne.symm n2_3.out); replace HB := Lib.hid (upd_below HB.out hu L2.out); clear k2; have k2 : Blk _ g2 _ (rdA (rO7 l)) := kn; clear kn hu)
      | ((with_reducible refine at_store 46 ?_); refine wl_st1 (v := .int .i64 (rdC l).n2) rfl rfl rfl rfl k3 (by kernel_rfl) rfl rfl (by first | simp | simp [cfA]) ?_; intro V22 kn hu; replace k1 := k1.upd hu n1_3.out; replace k2 := k2.upd hu n2_3.out; replace HB := Lib.hid (upd_below HB.out hu L3.out); clear k3; have k3 : Blk _ g3 _ #[.int .i64 (rdC l).raw, .int .i64 (rdC l).w0, .int .i64 (rdC l).w1, .int .i64 (rdC l).w2, .int .i64 (rdC l).n0, .int .i64 (rdC l).n1, .int .i64 (rdC l).n2, .int .i64 zeroCf.cap, .int .i64 zeroCf.log] := kn; clear kn hu))
  rw [rounds_succ]
  go_wp2_with (first
      | ((with_reducible refine at_slot 48 ?_); refine wl_ld0 rfl rfl rfl k2 Try.underlying51 rfl rvInfo ?_)
      | ((with_reducible refine at_slot 49 ?_); refine wl_call rfl rfl Try.func34 (by kernel_rfl) rfl (vfx_any (o := rO7 l) 4 (by omega) (by omega) (lenO7 HL0.out) _) rfl ?_; intro V23 hb; replace k1 := k1.keep hb; replace k2 := k2.keep hb; replace k3 := k3.keep hb; replace HB := Lib.hid (below_tr HB.out hb); clear hb)
      | ((with_reducible refine at_store 4 ?_); refine wl_st0 (A' := (rdA (rO8 l))) rfl rfl rfl rfl k2 rfl rvInfo (rdA_one (rO8 l)) ?_; intro V24 kn hu; replace k1 := k1.upd hu n1_2.out; replace k3 := k3.upd hu (Ne.symm n2_3.out); replace HB := Lib.hid (upd_below HB.out hu L2.out); clear k2; have k2 : Blk _ g2 _ (rdA (rO8 l)) := kn; clear kn hu)
      | ((with_reducible refine at_store 54 ?_); refine wl_st1 (v := .int .i64 (rdC l).cap) rfl rfl rfl rfl k3 (by kernel_rfl) rfl rfl (by first | simp | simp [cfA]) ?_; intro V25 kn hu; replace k1 := k1.upd hu n1_3.out; replace k2 := k2.upd hu n2_3.out; replace HB := Lib.hid (upd_below HB.out hu L3.out); clear k3; have k3 : Blk _ g3 _ #[.int .i64 (rdC l).raw, .int .i64 (rdC l).w0, .int .i64 (rdC l).w1, .int .i64 (rdC l).w2, .int .i64 (rdC l).n0, .int .i64 (rdC l).n1, .int .i64 (rdC l).n2, .int .i64 (rdC l).cap, .int .i64 zeroCf.log] := kn; clear kn hu)
      | ((with_reducible refine at_slot 56 ?_); refine wl_ld0 rfl rfl rfl k2 Try.underlying51 rfl rvInfo ?_)
      | ((with_reducible refine at_slot 57 ?_); refine wl_call rfl rfl Try.func34 (by kernel_rfl) rfl (vfx_any (o := rO8 l) 4 (by omega) (by omega) (lenO8 HL0.out) _) rfl ?_; intro V26 hb; replace k1 := k1.keep hb; replace k2 := k2.keep hb; replace k3 := k3.keep hb; replace HB := Lib.hid (below_tr HB.out hb); clear hb)
      | ((with_reducible refine at_store 62 ?_); refine wl_st1 (v := .int .i64 (rdC l).log) rfl rfl rfl rfl k3 (by kernel_rfl) rfl rfl (by first | simp | simp [cfA]) ?_; intro V27 kn hu; replace k1 := k1.upd hu n1_3.out; replace k2 := k2.upd hu n2_3.out; replace HB := Lib.hid (upd_below HB.out hu L3.out); clear k3; have k3 : Blk _ g3 _ #[.int .i64 (rdC l).raw, .int .i64 (rdC l).w0, .int .i64 (rdC l).w1, .int .i64 (rdC l).w2, .int .i64 (rdC l).n0, .int .i64 (rdC l).n1, .int .i64 (rdC l).n2, .int .i64 (rdC l).cap, .int .i64 (rdC l).log] := kn; clear kn hu)
      | ((with_reducible refine at_slot 63 ?_); refine wl_ld0 rfl rfl rfl k3 Try.underlying25 rfl cfInfo ?_)
      | ((with_reducible refine at_slot 64 ?_); refine wl_call rfl rfl Try.func13 (by kernel_rfl) rfl (rck_yes HC.out _) rfl ?_; intro V28 hb; replace k1 := k1.keep hb; replace k2 := k2.keep hb; replace k3 := k3.keep hb; replace HB := Lib.hid (below_tr HB.out hb); clear hb)
      | ((with_reducible refine at_slot 67 ?_); refine wl_ld0 rfl rfl rfl k3 Try.underlying25 rfl cfInfo ?_)
      | ((with_reducible refine at_slot 68 ?_); refine wl_call rfl rfl Try.func23 (by kernel_rfl) rfl (HBY.out _) rfl ?_; intro V29 hb; replace k1 := k1.keep hb; replace k2 := k2.keep hb; replace k3 := k3.keep hb; replace HB := Lib.hid (below_tr HB.out hb); clear hb)
      | ((with_reducible refine at_slot 72 ?_); refine wl_build (v := .agg (cfA zeroCf)) rfl rfl (build_cf0 _) rfl ?_)
      | ((with_reducible refine at_store 2 ?_); refine wl_st0 (A' := (cfA zeroCf)) rfl rfl rfl rfl k1 rfl cfInfo (cfA_one zeroCf) ?_; intro V30 kn hu; replace k2 := k2.upd hu (Ne.symm n1_2.out); replace k3 := k3.upd hu (Ne.symm n1_3.out); replace HB := Lib.hid (upd_below HB.out hu L1.out); clear k1; have k1 : Blk _ g1 _ (cfA zeroCf) := kn; clear kn hu))
  refine bodyPost_ret (v := .tuple #[.agg (cfA zeroCf), .int .i64 4]) (results_ct Try.results11 _ rfl rfl k1 Try.underlying25 rfl cfInfo) rfl ?_
  exact ⟨rfl, HB.out⟩
set_option maxHeartbeats 4000000 in
set_option maxRecDepth 100000 in
theorem rread_c {l : List UInt8} (hl : l.length ≤ 140737488355328) (h : CfOk (rdC l)) (hn : byL (rdC l) = l) (w : World) : Calls Try.prog 11 #[.string (bs l)] w fun e w' => e = .returned (.tuple #[.agg (cfA (rdC l)), .int .i64 0]) ∧ Below w.heap.size w w' := by
  have HC := Lib.hid h
  have HBY := Lib.hid (fun w1 => rbyt_yes h w1)
  rw [hn] at HBY
  clear h hn
  have lt0 := fxN_lt 4 (some l)
  have b0 : ((fxN 4 (some l) : Nat) : Int) ≤ 4294967295 := by omega
  have i0 : IntKind.i64.wrap ((fxN 4 (some l) : Nat) : Int) = ((fxN 4 (some l) : Nat) : Int) := by rw [IntKind.wrap_i64]; omega
  have I0 : wrap64 ((fxN 4 (some l) : Nat) : Int) = ((fxN 4 (some l) : Nat) : Int) := by unfold wrap64; omega
  clear lt0
  have lt4 := fxN_lt 4 (rO4 l)
  have b4 : ((fxN 4 (rO4 l) : Nat) : Int) ≤ 4294967295 := by omega
  have i4 : IntKind.i64.wrap ((fxN 4 (rO4 l) : Nat) : Int) = ((fxN 4 (rO4 l) : Nat) : Int) := by rw [IntKind.wrap_i64]; omega
  have I4 : wrap64 ((fxN 4 (rO4 l) : Nat) : Int) = ((fxN 4 (rO4 l) : Nat) : Int) := by unfold wrap64; omega
  clear lt4
  have lt5 := fxN_lt 4 (rO5 l)
  have b5 : ((fxN 4 (rO5 l) : Nat) : Int) ≤ 4294967295 := by omega
  have i5 : IntKind.i64.wrap ((fxN 4 (rO5 l) : Nat) : Int) = ((fxN 4 (rO5 l) : Nat) : Int) := by rw [IntKind.wrap_i64]; omega
  have I5 : wrap64 ((fxN 4 (rO5 l) : Nat) : Int) = ((fxN 4 (rO5 l) : Nat) : Int) := by unfold wrap64; omega
  clear lt5
  have lt6 := fxN_lt 4 (rO6 l)
  have b6 : ((fxN 4 (rO6 l) : Nat) : Int) ≤ 4294967295 := by omega
  have i6 : IntKind.i64.wrap ((fxN 4 (rO6 l) : Nat) : Int) = ((fxN 4 (rO6 l) : Nat) : Int) := by rw [IntKind.wrap_i64]; omega
  have I6 : wrap64 ((fxN 4 (rO6 l) : Nat) : Int) = ((fxN 4 (rO6 l) : Nat) : Int) := by unfold wrap64; omega
  clear lt6
  have lt7 := fxN_lt 4 (rO7 l)
  have b7 : ((fxN 4 (rO7 l) : Nat) : Int) ≤ 4294967295 := by omega
  have i7 : IntKind.i64.wrap ((fxN 4 (rO7 l) : Nat) : Int) = ((fxN 4 (rO7 l) : Nat) : Int) := by rw [IntKind.wrap_i64]; omega
  have I7 : wrap64 ((fxN 4 (rO7 l) : Nat) : Int) = ((fxN 4 (rO7 l) : Nat) : Int) := by unfold wrap64; omega
  clear lt7
  have lt8 := fxN_lt 4 (rO8 l)
  have b8 : ((fxN 4 (rO8 l) : Nat) : Int) ≤ 4294967295 := by omega
  have i8 : IntKind.i64.wrap ((fxN 4 (rO8 l) : Nat) : Int) = ((fxN 4 (rO8 l) : Nat) : Int) := by rw [IntKind.wrap_i64]; omega
  have I8 : wrap64 ((fxN 4 (rO8 l) : Nat) : Int) = ((fxN 4 (rO8 l) : Nat) : Int) := by unfold wrap64; omega
  clear lt8
  have HL0 := Lib.hid hl
  clear hl
  have HB := Lib.hid (Below.refl w.heap.size w)
  go_enter Try.func11, Try.ntmps11
  go_wp2_with (first
      | ((with_reducible refine at_slot 2 ?_); refine wl_alloc (A := (cfA zeroCf)) rfl rfl cf_zero rfl ?_; intro W1 g1 k1 hb hle; have L1 := Lib.hid (Nat.le_trans HB.out.size hle); replace HB := Lib.hid (below_tr HB.out hb); clear hb hle)
      | ((with_reducible refine at_slot 10 ?_); refine wl_build (v := .agg (rdA (some l))) rfl rfl (build_rv l _) rfl ?_)
      | ((with_reducible refine at_slot 4 ?_); refine wl_alloc (A := #[.string ⟨#[]⟩, .bool false]) rfl rfl rv_zero rfl ?_; intro W2 g2 k2 hb hle; have n1_2 := Lib.hid (Blk.ne_of_le k1 hle); have L2 := Lib.hid (Nat.le_trans HB.out.size hle); replace k1 := k1.keep hb; replace HB := Lib.hid (below_tr HB.out hb); clear hb hle)
      | ((with_reducible refine at_store 4 ?_); refine wl_st0 (A' := (rdA (some l))) rfl rfl rfl rfl k2 rfl rvInfo (rdA_one (some l)) ?_; intro V1 kn hu; replace k1 := k1.upd hu n1_2.out; replace HB := Lib.hid (upd_below HB.out hu L2.out); clear k2; have k2 : Blk _ g2 _ (rdA (some l)) := kn; clear kn hu)
      | ((with_reducible refine at_slot 5 ?_); refine wl_alloc (A := (cfA zeroCf)) rfl rfl cf_zero rfl ?_; intro W3 g3 k3 hb hle; have n1_3 := Lib.hid (Blk.ne_of_le k1 hle); have n2_3 := Lib.hid (Blk.ne_of_le k2 hle); have L3 := Lib.hid (Nat.le_trans HB.out.size hle); replace k1 := k1.keep hb; replace k2 := k2.keep hb; replace HB := Lib.hid (below_tr HB.out hb); clear hb hle)
      | ((with_reducible refine at_slot 12 ?_); refine wl_ld0 rfl rfl rfl k2 Try.underlying51 rfl rvInfo ?_)
      | ((with_reducible refine at_slot 13 ?_); refine wl_call rfl rfl Try.func34 (by kernel_rfl) rfl (vfx_any (o := some l) 4 (by omega) (by omega) HL0.out _) rfl ?_; intro V2 hb; replace k1 := k1.keep hb; replace k2 := k2.keep hb; replace k3 := k3.keep hb; replace HB := Lib.hid (below_tr HB.out hb); clear hb)
      | ((with_reducible refine at_store 4 ?_); refine wl_st0 (A' := (rdA (rO1 l))) rfl rfl rfl rfl k2 rfl rvInfo (rdA_one (rO1 l)) ?_; intro V3 kn hu; replace k1 := k1.upd hu n1_2.out; replace k3 := k3.upd hu (Ne.symm n2_3.out); replace HB := Lib.hid (upd_below HB.out hu L2.out); clear k2; have k2 : Blk _ g2 _ (rdA (rO1 l)) := kn; clear kn hu)
      | ((with_reducible refine at_store 18 ?_); refine wl_st1 (v := .int .i64 (rdC l).raw) rfl rfl rfl rfl k3 (by kernel_rfl) rfl rfl (by first | simp | simp [cfA]) ?_; intro V4 kn hu; replace k1 := k1.upd hu n1_3.out; replace k2 := k2.upd hu n2_3.out; replace HB := Lib.hid (upd_below HB.out hu L3.out); clear k3; have k3 : Blk _ g3 _ #[.int .i64 (rdC l).raw, .int .i64 zeroCf.w0, .int .i64 zeroCf.w1, .int .i64 zeroCf.w2, .int .i64 zeroCf.n0, .int .i64 zeroCf.n1, .int .i64 zeroCf.n2, .int .i64 zeroCf.cap, .int .i64 zeroCf.log] := kn; clear kn hu))
  refine wp_loop_rounds 4 ?_
  rw [rounds_succ]
  go_wp2_with (first
      | ((with_reducible refine at_slot 24 ?_); refine wl_ld0 rfl rfl rfl k2 Try.underlying51 rfl rvInfo ?_)
      | ((with_reducible refine at_slot 25 ?_); refine wl_call rfl rfl Try.func34 (by kernel_rfl) rfl (vfx_any (o := rO1 l) 8 (by omega) (by omega) (lenO1 HL0.out) _) rfl ?_; intro V5 hb; replace k1 := k1.keep hb; replace k2 := k2.keep hb; replace k3 := k3.keep hb; replace HB := Lib.hid (below_tr HB.out hb); clear hb)
      | ((with_reducible refine at_store 4 ?_); refine wl_st0 (A' := (rdA (rO2 l))) rfl rfl rfl rfl k2 rfl rvInfo (rdA_one (rO2 l)) ?_; intro V6 kn hu; replace k1 := k1.upd hu n1_2.out; replace k3 := k3.upd hu (Ne.symm n2_3.out); replace HB := Lib.hid (upd_below HB.out hu L2.out); clear k2; have k2 : Blk _ g2 _ (rdA (rO2 l)) := kn; clear kn hu)
      | ((with_reducible refine at_store 32 ?_); refine wl_st1 (v := .int .i64 (rdC l).w0) rfl rfl rfl rfl k3 (by kernel_rfl) rfl rfl (by first | simp | simp [cfA]) ?_; intro V7 kn hu; replace k1 := k1.upd hu n1_3.out; replace k2 := k2.upd hu n2_3.out; replace HB := Lib.hid (upd_below HB.out hu L3.out); clear k3; have k3 : Blk _ g3 _ #[.int .i64 (rdC l).raw, .int .i64 (rdC l).w0, .int .i64 zeroCf.w1, .int .i64 zeroCf.w2, .int .i64 zeroCf.n0, .int .i64 zeroCf.n1, .int .i64 zeroCf.n2, .int .i64 zeroCf.cap, .int .i64 zeroCf.log] := kn; clear kn hu))
  rw [rounds_succ]
  go_wp2_with (first
      | ((with_reducible refine at_slot 24 ?_); refine wl_ld0 rfl rfl rfl k2 Try.underlying51 rfl rvInfo ?_)
      | ((with_reducible refine at_slot 25 ?_); refine wl_call rfl rfl Try.func34 (by kernel_rfl) rfl (vfx_any (o := rO2 l) 8 (by omega) (by omega) (lenO2 HL0.out) _) rfl ?_; intro V8 hb; replace k1 := k1.keep hb; replace k2 := k2.keep hb; replace k3 := k3.keep hb; replace HB := Lib.hid (below_tr HB.out hb); clear hb)
      | ((with_reducible refine at_store 4 ?_); refine wl_st0 (A' := (rdA (rO3 l))) rfl rfl rfl rfl k2 rfl rvInfo (rdA_one (rO3 l)) ?_; intro V9 kn hu; replace k1 := k1.upd hu n1_2.out; replace k3 := k3.upd hu (Ne.symm n2_3.out); replace HB := Lib.hid (upd_below HB.out hu L2.out); clear k2; have k2 : Blk _ g2 _ (rdA (rO3 l)) := kn; clear kn hu)
      | ((with_reducible refine at_store 32 ?_); refine wl_st1 (v := .int .i64 (rdC l).w1) rfl rfl rfl rfl k3 (by kernel_rfl) rfl rfl (by first | simp | simp [cfA]) ?_; intro V10 kn hu; replace k1 := k1.upd hu n1_3.out; replace k2 := k2.upd hu n2_3.out; replace HB := Lib.hid (upd_below HB.out hu L3.out); clear k3; have k3 : Blk _ g3 _ #[.int .i64 (rdC l).raw, .int .i64 (rdC l).w0, .int .i64 (rdC l).w1, .int .i64 zeroCf.w2, .int .i64 zeroCf.n0, .int .i64 zeroCf.n1, .int .i64 zeroCf.n2, .int .i64 zeroCf.cap, .int .i64 zeroCf.log] := kn; clear kn hu))
  rw [rounds_succ]
  go_wp2_with (first
      | ((with_reducible refine at_slot 24 ?_); refine wl_ld0 rfl rfl rfl k2 Try.underlying51 rfl rvInfo ?_)
      | ((with_reducible refine at_slot 25 ?_); refine wl_call rfl rfl Try.func34 (by kernel_rfl) rfl (vfx_any (o := rO3 l) 8 (by omega) (by omega) (lenO3 HL0.out) _) rfl ?_; intro V11 hb; replace k1 := k1.keep hb; replace k2 := k2.keep hb; replace k3 := k3.keep hb; replace HB := Lib.hid (below_tr HB.out hb); clear hb)
      | ((with_reducible refine at_store 4 ?_); refine wl_st0 (A' := (rdA (rO4 l))) rfl rfl rfl rfl k2 rfl rvInfo (rdA_one (rO4 l)) ?_; intro V12 kn hu; replace k1 := k1.upd hu n1_2.out; replace k3 := k3.upd hu (Ne.symm n2_3.out); replace HB := Lib.hid (upd_below HB.out hu L2.out); clear k2; have k2 : Blk _ g2 _ (rdA (rO4 l)) := kn; clear kn hu)
      | ((with_reducible refine at_store 32 ?_); refine wl_st1 (v := .int .i64 (rdC l).w2) rfl rfl rfl rfl k3 (by kernel_rfl) rfl rfl (by first | simp | simp [cfA]) ?_; intro V13 kn hu; replace k1 := k1.upd hu n1_3.out; replace k2 := k2.upd hu n2_3.out; replace HB := Lib.hid (upd_below HB.out hu L3.out); clear k3; have k3 : Blk _ g3 _ #[.int .i64 (rdC l).raw, .int .i64 (rdC l).w0, .int .i64 (rdC l).w1, .int .i64 (rdC l).w2, .int .i64 zeroCf.n0, .int .i64 zeroCf.n1, .int .i64 zeroCf.n2, .int .i64 zeroCf.cap, .int .i64 zeroCf.log] := kn; clear kn hu))
  rw [rounds_succ]
  go_wp2_with fail
  refine wp_loop_rounds 4 ?_
  rw [rounds_succ]
  go_wp2_with (first
      | ((with_reducible refine at_slot 38 ?_); refine wl_ld0 rfl rfl rfl k2 Try.underlying51 rfl rvInfo ?_)
      | ((with_reducible refine at_slot 39 ?_); refine wl_call rfl rfl Try.func34 (by kernel_rfl) rfl (vfx_any (o := rO4 l) 4 (by omega) (by omega) (lenO4 HL0.out) _) rfl ?_; intro V14 hb; replace k1 := k1.keep hb; replace k2 := k2.keep hb; replace k3 := k3.keep hb; replace HB := Lib.hid (below_tr HB.out hb); clear hb)
      | ((with_reducible refine at_store 4 ?_); refine wl_st0 (A' := (rdA (rO5 l))) rfl rfl rfl rfl k2 rfl rvInfo (rdA_one (rO5 l)) ?_; intro V15 kn hu; replace k1 := k1.upd hu n1_2.out; replace k3 := k3.upd hu (Ne.symm n2_3.out); replace HB := Lib.hid (upd_below HB.out hu L2.out); clear k2; have k2 : Blk _ g2 _ (rdA (rO5 l)) := kn; clear kn hu)
      | ((with_reducible refine at_store 46 ?_); refine wl_st1 (v := .int .i64 (rdC l).n0) rfl rfl rfl rfl k3 (by kernel_rfl) rfl rfl (by first | simp | simp [cfA]) ?_; intro V16 kn hu; replace k1 := k1.upd hu n1_3.out; replace k2 := k2.upd hu n2_3.out; replace HB := Lib.hid (upd_below HB.out hu L3.out); clear k3; have k3 : Blk _ g3 _ #[.int .i64 (rdC l).raw, .int .i64 (rdC l).w0, .int .i64 (rdC l).w1, .int .i64 (rdC l).w2, .int .i64 (rdC l).n0, .int .i64 zeroCf.n1, .int .i64 zeroCf.n2, .int .i64 zeroCf.cap, .int .i64 zeroCf.log] := kn; clear kn hu))
  rw [rounds_succ]
  go_wp2_with (first
      | ((with_reducible refine at_slot 38 ?_); refine wl_ld0 rfl rfl rfl k2 Try.underlying51 rfl rvInfo ?_)
      | ((with_reducible refine at_slot 39 ?_); refine wl_call rfl rfl Try.func34 (by kernel_rfl) rfl (vfx_any (o := rO5 l) 4 (by omega) (by omega) (lenO5 HL0.out) _) rfl ?_; intro V17 hb; replace k1 := k1.keep hb; replace k2 := k2.keep hb; replace k3 := k3.keep hb; replace HB := Lib.hid (below_tr HB.out hb); clear hb)
      | ((with_reducible refine at_store 4 ?_); refine wl_st0 (A' := (rdA (rO6 l))) rfl rfl rfl rfl k2 rfl rvInfo (rdA_one (rO6 l)) ?_; intro V18 kn hu; replace k1 := k1.upd hu n1_2.out; replace k3 := k3.upd hu (Ne.symm n2_3.out); replace HB := Lib.hid (upd_below HB.out hu L2.out); clear k2; have k2 : Blk _ g2 _ (rdA (rO6 l)) := kn; clear kn hu)
      | ((with_reducible refine at_store 46 ?_); refine wl_st1 (v := .int .i64 (rdC l).n1) rfl rfl rfl rfl k3 (by kernel_rfl) rfl rfl (by first | simp | simp [cfA]) ?_; intro V19 kn hu; replace k1 := k1.upd hu n1_3.out; replace k2 := k2.upd hu n2_3.out; replace HB := Lib.hid (upd_below HB.out hu L3.out); clear k3; have k3 : Blk _ g3 _ #[.int .i64 (rdC l).raw, .int .i64 (rdC l).w0, .int .i64 (rdC l).w1, .int .i64 (rdC l).w2, .int .i64 (rdC l).n0, .int .i64 (rdC l).n1, .int .i64 zeroCf.n2, .int .i64 zeroCf.cap, .int .i64 zeroCf.log] := kn; clear kn hu))
  rw [rounds_succ]
  go_wp2_with (first
      | ((with_reducible refine at_slot 38 ?_); refine wl_ld0 rfl rfl rfl k2 Try.underlying51 rfl rvInfo ?_)
      | ((with_reducible refine at_slot 39 ?_); refine wl_call rfl rfl Try.func34 (by kernel_rfl) rfl (vfx_any (o := rO6 l) 4 (by omega) (by omega) (lenO6 HL0.out) _) rfl ?_; intro V20 hb; replace k1 := k1.keep hb; replace k2 := k2.keep hb; replace k3 := k3.keep hb; replace HB := Lib.hid (below_tr HB.out hb); clear hb)
      | ((with_reducible refine at_store 4 ?_); refine wl_st0 (A' := (rdA (rO7 l))) rfl rfl rfl rfl k2 rfl rvInfo (rdA_one (rO7 l)) ?_; intro V21 kn hu; replace k1 := k1.upd hu n1_2.out; replace k3 := k3.upd hu (Ne.symm n2_3.out); replace HB := Lib.hid (upd_below HB.out hu L2.out); clear k2; have k2 : Blk _ g2 _ (rdA (rO7 l)) := kn; clear kn hu)
      | ((with_reducible refine at_store 46 ?_); refine wl_st1 (v := .int .i64 (rdC l).n2) rfl rfl rfl rfl k3 (by kernel_rfl) rfl rfl (by first | simp | simp [cfA]) ?_; intro V22 kn hu; replace k1 := k1.upd hu n1_3.out; replace k2 := k2.upd hu n2_3.out; replace HB := Lib.hid (upd_below HB.out hu L3.out); clear k3; have k3 : Blk _ g3 _ #[.int .i64 (rdC l).raw, .int .i64 (rdC l).w0, .int .i64 (rdC l).w1, .int .i64 (rdC l).w2, .int .i64 (rdC l).n0, .int .i64 (rdC l).n1, .int .i64 (rdC l).n2, .int .i64 zeroCf.cap, .int .i64 zeroCf.log] := kn; clear kn hu))
  rw [rounds_succ]
  go_wp2_with (first
      | ((with_reducible refine at_slot 48 ?_); refine wl_ld0 rfl rfl rfl k2 Try.underlying51 rfl rvInfo ?_)
      | ((with_reducible refine at_slot 49 ?_); refine wl_call rfl rfl Try.func34 (by kernel_rfl) rfl (vfx_any (o := rO7 l) 4 (by omega) (by omega) (lenO7 HL0.out) _) rfl ?_; intro V23 hb; replace k1 := k1.keep hb; replace k2 := k2.keep hb; replace k3 := k3.keep hb; replace HB := Lib.hid (below_tr HB.out hb); clear hb)
      | ((with_reducible refine at_store 4 ?_); refine wl_st0 (A' := (rdA (rO8 l))) rfl rfl rfl rfl k2 rfl rvInfo (rdA_one (rO8 l)) ?_; intro V24 kn hu; replace k1 := k1.upd hu n1_2.out; replace k3 := k3.upd hu (Ne.symm n2_3.out); replace HB := Lib.hid (upd_below HB.out hu L2.out); clear k2; have k2 : Blk _ g2 _ (rdA (rO8 l)) := kn; clear kn hu)
      | ((with_reducible refine at_store 54 ?_); refine wl_st1 (v := .int .i64 (rdC l).cap) rfl rfl rfl rfl k3 (by kernel_rfl) rfl rfl (by first | simp | simp [cfA]) ?_; intro V25 kn hu; replace k1 := k1.upd hu n1_3.out; replace k2 := k2.upd hu n2_3.out; replace HB := Lib.hid (upd_below HB.out hu L3.out); clear k3; have k3 : Blk _ g3 _ #[.int .i64 (rdC l).raw, .int .i64 (rdC l).w0, .int .i64 (rdC l).w1, .int .i64 (rdC l).w2, .int .i64 (rdC l).n0, .int .i64 (rdC l).n1, .int .i64 (rdC l).n2, .int .i64 (rdC l).cap, .int .i64 zeroCf.log] := kn; clear kn hu)
      | ((with_reducible refine at_slot 56 ?_); refine wl_ld0 rfl rfl rfl k2 Try.underlying51 rfl rvInfo ?_)
      | ((with_reducible refine at_slot 57 ?_); refine wl_call rfl rfl Try.func34 (by kernel_rfl) rfl (vfx_any (o := rO8 l) 4 (by omega) (by omega) (lenO8 HL0.out) _) rfl ?_; intro V26 hb; replace k1 := k1.keep hb; replace k2 := k2.keep hb; replace k3 := k3.keep hb; replace HB := Lib.hid (below_tr HB.out hb); clear hb)
      | ((with_reducible refine at_store 62 ?_); refine wl_st1 (v := .int .i64 (rdC l).log) rfl rfl rfl rfl k3 (by kernel_rfl) rfl rfl (by first | simp | simp [cfA]) ?_; intro V27 kn hu; replace k1 := k1.upd hu n1_3.out; replace k2 := k2.upd hu n2_3.out; replace HB := Lib.hid (upd_below HB.out hu L3.out); clear k3; have k3 : Blk _ g3 _ #[.int .i64 (rdC l).raw, .int .i64 (rdC l).w0, .int .i64 (rdC l).w1, .int .i64 (rdC l).w2, .int .i64 (rdC l).n0, .int .i64 (rdC l).n1, .int .i64 (rdC l).n2, .int .i64 (rdC l).cap, .int .i64 (rdC l).log] := kn; clear kn hu)
      | ((with_reducible refine at_slot 63 ?_); refine wl_ld0 rfl rfl rfl k3 Try.underlying25 rfl cfInfo ?_)
      | ((with_reducible refine at_slot 64 ?_); refine wl_call rfl rfl Try.func13 (by kernel_rfl) rfl (rck_yes HC.out _) rfl ?_; intro V28 hb; replace k1 := k1.keep hb; replace k2 := k2.keep hb; replace k3 := k3.keep hb; replace HB := Lib.hid (below_tr HB.out hb); clear hb)
      | ((with_reducible refine at_slot 67 ?_); refine wl_ld0 rfl rfl rfl k3 Try.underlying25 rfl cfInfo ?_)
      | ((with_reducible refine at_slot 68 ?_); refine wl_call rfl rfl Try.func23 (by kernel_rfl) rfl (HBY.out _) rfl ?_; intro V29 hb; replace k1 := k1.keep hb; replace k2 := k2.keep hb; replace k3 := k3.keep hb; replace HB := Lib.hid (below_tr HB.out hb); clear hb)
      | ((with_reducible refine at_slot 73 ?_); refine wl_ld0 rfl rfl rfl k3 Try.underlying25 rfl cfInfo ?_)
      | ((with_reducible refine at_store 2 ?_); refine wl_st0 (A' := #[.int .i64 (rdC l).raw, .int .i64 (rdC l).w0, .int .i64 (rdC l).w1, .int .i64 (rdC l).w2, .int .i64 (rdC l).n0, .int .i64 (rdC l).n1, .int .i64 (rdC l).n2, .int .i64 (rdC l).cap, .int .i64 (rdC l).log]) rfl rfl rfl rfl k1 rfl cfInfo (by simp [Value.oneCell']) ?_; intro V30 kn hu; replace k2 := k2.upd hu (Ne.symm n1_2.out); replace k3 := k3.upd hu (Ne.symm n1_3.out); replace HB := Lib.hid (upd_below HB.out hu L1.out); clear k1; have k1 : Blk _ g1 _ #[.int .i64 (rdC l).raw, .int .i64 (rdC l).w0, .int .i64 (rdC l).w1, .int .i64 (rdC l).w2, .int .i64 (rdC l).n0, .int .i64 (rdC l).n1, .int .i64 (rdC l).n2, .int .i64 (rdC l).cap, .int .i64 (rdC l).log] := kn; clear kn hu))
  refine bodyPost_ret (v := .tuple #[.agg #[.int .i64 (rdC l).raw, .int .i64 (rdC l).w0, .int .i64 (rdC l).w1, .int .i64 (rdC l).w2, .int .i64 (rdC l).n0, .int .i64 (rdC l).n1, .int .i64 (rdC l).n2, .int .i64 (rdC l).cap, .int .i64 (rdC l).log], .int .i64 0]) (results_ct Try.results11 _ rfl rfl k1 Try.underlying25 rfl cfInfo) rfl ?_
  exact ⟨rfl, HB.out⟩
theorem rread_any {l : List UInt8} (hl : l.length ≤ 140737488355328) (w : World) : Calls Try.prog 11 #[.string (bs l)] w fun e w' => e = .returned (.tuple #[.agg (cfA (readC l)), .int .i64 (readE l)]) ∧ Below w.heap.size w w' := by
  by_cases h : CfOk (rdC l)
  · by_cases hn : byL (rdC l) = l
    · rw [show readC l = rdC l from if_pos ⟨h, hn⟩, show readE l = 0 from if_pos ⟨h, hn⟩]; exact rread_c hl h hn w
    · rw [show readC l = zeroCf from if_neg (fun h => hn h.2), show readE l = 4 from if_neg (fun h => hn h.2)]; exact rread_b hl h hn w
  · rw [show readC l = zeroCf from if_neg (fun h' => h h'.1), show readE l = 4 from if_neg (fun h' => h h'.1)]; exact rread_a hl h w
end Go.Proofs.Yticmkepocacmhaa
