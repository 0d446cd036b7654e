/-
  THE DOCUMENT'S ANSWERS for cells: plimsollref08.All, Add.
-/
import Derived.Test.YtjdjebhimljedaaRm8
import Derived.Test.YtjdjebhimljedaaRo8
namespace Go.Proofs.Ytjdjebhimljedaa
open Go Go.RowKit

set_option maxHeartbeats 4000000 in
set_option maxRecDepth 100000 in
theorem rall_any (ao : Option Addr) (b off cap : Nat) (l : List Ce) (hm : l.length ≤ 9223372036854775807) (w : World) (h : CesAt w ao b off l) :
    Calls Try.prog 12 #[.slice ao l.length cap] w fun e w' => e = .returned (.tuple #[.agg (ceA (allC zeroCe l)), .int .i64 (allE zeroCe l)]) ∧ Below w.heap.size w w' := by
  have HL := Lib.hid h
  clear h
  have HB := Lib.hid (Below.refl w.heap.size w)
  go_enter Try.func12, Try.ntmps12
  go_wp2_with (first
      | ((with_reducible refine at_slot 2 ?_); refine wl_alloc (A := (ceA zeroCe)) rfl rfl ce_zero rfl ?_; intro W1 g1 k1 hb hle; have L1 := Lib.hid (Nat.le_trans HB.out.size hle); replace HB := Lib.hid (below_tr HB.out hb); clear hb hle)
      | ((with_reducible refine at_slot 4 ?_); refine wl_alloc (A := (ceA zeroCe)) rfl rfl ce_zero rfl ?_; intro W2 g2 k2 hb hle; have n1_2 := Lib.hid (Blk.ne_of_le k1 hle); have L2 := Lib.hid (Nat.le_trans HB.out.size hle); replace k1 := k1.keep hb; replace HB := Lib.hid (below_tr HB.out hb); clear hb hle))
  have HI := Lib.hid (AllI.mk HB.out k1 k2 zeroOk rfl rfl : AllI w _ g1 g2 l 0 zeroCe)
  clear k1 k2 HB
  go_loopw [11] (fun i wr => ∃ (k : Nat) (acc : Ce), k ≤ l.length ∧ i = .int .i64 k ∧ AllI w wr g1 g2 l k acc) (fun i _ => l.length - (intOf i).toNat)
  case atStart => exact ⟨0, zeroCe, Nat.zero_le _, rfl, HI.out⟩
  case round =>
    obtain ⟨k, acc, hk, rfl, hI⟩ := hrel
    clear HI
    have HB := Lib.hid hI.below
    have k1 := hI.b1
    have k2 := hI.b2
    have HI := Lib.hid hI
    clear hI
    by_cases hlt : k < l.length
    · obtain ⟨rfl, hbw⟩ := HL.out.at_ (by omega)
      have HLT := Lib.hid hlt
      by_cases hE : meE acc l[k] = 0
      · have HEE := Lib.hid hE
        clear hE
        go_wp2_with (first
            | ((with_reducible refine at_slot 14 ?_); refine wl_ldr (B := (ceA l[k])) rfl rfl rfl ((HL.out.keep HB.out).row k hlt) Try.underlying28 rfl ceInfo ?_)
            | ((with_reducible refine at_slot 6 ?_); refine wl_alloc (A := (ceA zeroCe)) rfl rfl ce_zero rfl ?_; intro W3 g3 k3 hb hle; have n1_3 := Lib.hid (Blk.ne_of_le k1 hle); have n2_3 := Lib.hid (Blk.ne_of_le k2 hle); have L3 := Lib.hid (Nat.le_trans HB.out.size hle); replace k1 := k1.keep hb; replace k2 := k2.keep hb; replace HB := Lib.hid (below_tr HB.out hb); clear hb hle)
            | ((with_reducible refine at_store 6 ?_); refine wl_st0 (A' := (ceA l[k])) rfl rfl rfl rfl k3 rfl ceInfo (ceA_one l[k]) ?_; intro V1 kn hu; replace k1 := k1.upd hu n1_3.out; replace k2 := k2.upd hu n2_3.out; replace HB := Lib.hid (upd_below HB.out hu L3.out); clear k3; have k3 : Blk _ g3 _ (ceA l[k]) := kn; clear kn hu)
            | ((with_reducible refine at_slot 16 ?_); refine wl_ld0 rfl rfl rfl k2 Try.underlying28 rfl ceInfo ?_)
            | ((with_reducible refine at_slot 17 ?_); refine wl_ld0 rfl rfl rfl k3 Try.underlying28 rfl ceInfo ?_)
            | ((with_reducible refine at_slot 18 ?_); refine wl_call rfl rfl Try.func8 (by kernel_rfl) rfl (rme_is (HI.out.ok.in) (HL.out.fits k HLT.out) HEE.out rfl _) rfl ?_; intro V2 hb; replace k1 := k1.keep hb; replace k2 := k2.keep hb; replace k3 := k3.keep hb; replace HB := Lib.hid (below_tr HB.out hb); clear hb)
            | ((with_reducible refine at_slot 7 ?_); refine wl_alloc (A := (ceA zeroCe)) rfl rfl ce_zero rfl ?_; intro W4 g4 k4 hb hle; have n1_4 := Lib.hid (Blk.ne_of_le k1 hle); have n2_4 := Lib.hid (Blk.ne_of_le k2 hle); have n3_4 := Lib.hid (Blk.ne_of_le k3 hle); have L4 := Lib.hid (Nat.le_trans HB.out.size hle); replace k1 := k1.keep hb; replace k2 := k2.keep hb; replace k3 := k3.keep hb; replace HB := Lib.hid (below_tr HB.out hb); clear hb hle)
            | ((with_reducible refine at_store 7 ?_); refine wl_st0 (A' := (ceA (meC acc l[k]))) rfl rfl rfl rfl k4 rfl ceInfo (ceA_one (meC acc l[k])) ?_; intro V3 kn hu; replace k1 := k1.upd hu n1_4.out; replace k2 := k2.upd hu n2_4.out; replace k3 := k3.upd hu n3_4.out; replace HB := Lib.hid (upd_below HB.out hu L4.out); clear k4; have k4 : Blk _ g4 _ (ceA (meC acc l[k])) := kn; clear kn hu)
            | ((with_reducible refine at_slot 25 ?_); refine wl_ld0 rfl rfl rfl k4 Try.underlying28 rfl ceInfo ?_)
            | ((with_reducible refine at_store 4 ?_); refine wl_st0 (A' := (ceA (meC acc l[k]))) rfl rfl rfl rfl k2 rfl ceInfo (ceA_one (meC acc l[k])) ?_; intro V4 kn hu; replace k1 := k1.upd hu n1_2.out; replace k3 := k3.upd hu (Ne.symm n2_3.out); replace k4 := k4.upd hu (Ne.symm n2_4.out); replace HB := Lib.hid (upd_below HB.out hu L2.out); clear k2; have k2 : Blk _ g2 _ (ceA (meC acc l[k])) := kn; clear kn hu))
        go_roundw
        case rel =>
          obtain ⟨e1, e2⟩ := HI.out.ok_c HLT.out HEE.out
          exact ⟨k + 1, meC acc l[k], hlt, by go_num, HB.out, k1, k2, meC_ok _ _, e1, e2⟩
        case measure => simp [intOf]; omega
      · have HEE := Lib.hid hE
        obtain ⟨E, hEx⟩ : ∃ E, E = meE acc l[k] := ⟨_, rfl⟩
        have dE : (E != 0) = true := by rw [hEx]; simpa using hE
        have HEX := Lib.hid hEx
        clear hE hEx
        go_wp2_with (first
            | ((with_reducible refine at_slot 14 ?_); refine wl_ldr (B := (ceA l[k])) rfl rfl rfl ((HL.out.keep HB.out).row k hlt) Try.underlying28 rfl ceInfo ?_)
            | ((with_reducible refine at_slot 6 ?_); refine wl_alloc (A := (ceA zeroCe)) rfl rfl ce_zero rfl ?_; intro W3 g3 k3 hb hle; have n1_3 := Lib.hid (Blk.ne_of_le k1 hle); have n2_3 := Lib.hid (Blk.ne_of_le k2 hle); have L3 := Lib.hid (Nat.le_trans HB.out.size hle); replace k1 := k1.keep hb; replace k2 := k2.keep hb; replace HB := Lib.hid (below_tr HB.out hb); clear hb hle)
            | ((with_reducible refine at_store 6 ?_); refine wl_st0 (A' := (ceA l[k])) rfl rfl rfl rfl k3 rfl ceInfo (ceA_one l[k]) ?_; intro V1 kn hu; replace k1 := k1.upd hu n1_3.out; replace k2 := k2.upd hu n2_3.out; replace HB := Lib.hid (upd_below HB.out hu L3.out); clear k3; have k3 : Blk _ g3 _ (ceA l[k]) := kn; clear kn hu)
            | ((with_reducible refine at_slot 16 ?_); refine wl_ld0 rfl rfl rfl k2 Try.underlying28 rfl ceInfo ?_)
            | ((with_reducible refine at_slot 17 ?_); refine wl_ld0 rfl rfl rfl k3 Try.underlying28 rfl ceInfo ?_)
            | ((with_reducible refine at_slot 18 ?_); refine wl_call rfl rfl Try.func8 (by kernel_rfl) rfl (rme_is (HI.out.ok.in) (HL.out.fits k HLT.out) HEX.out.symm rfl _) rfl ?_; intro V2 hb; replace k1 := k1.keep hb; replace k2 := k2.keep hb; replace k3 := k3.keep hb; replace HB := Lib.hid (below_tr HB.out hb); clear hb)
            | ((with_reducible refine at_slot 7 ?_); refine wl_alloc (A := (ceA zeroCe)) rfl rfl ce_zero rfl ?_; intro W4 g4 k4 hb hle; have n1_4 := Lib.hid (Blk.ne_of_le k1 hle); have n2_4 := Lib.hid (Blk.ne_of_le k2 hle); have n3_4 := Lib.hid (Blk.ne_of_le k3 hle); have L4 := Lib.hid (Nat.le_trans HB.out.size hle); replace k1 := k1.keep hb; replace k2 := k2.keep hb; replace k3 := k3.keep hb; replace HB := Lib.hid (below_tr HB.out hb); clear hb hle)
            | ((with_reducible refine at_store 7 ?_); refine wl_st0 (A' := (ceA (meC acc l[k]))) rfl rfl rfl rfl k4 rfl ceInfo (ceA_one (meC acc l[k])) ?_; intro V3 kn hu; replace k1 := k1.upd hu n1_4.out; replace k2 := k2.upd hu n2_4.out; replace k3 := k3.upd hu n3_4.out; replace HB := Lib.hid (upd_below HB.out hu L4.out); clear k4; have k4 : Blk _ g4 _ (ceA (meC acc l[k])) := kn; clear kn hu)
            | ((with_reducible refine at_slot 23 ?_); refine wl_build (v := .agg (ceA zeroCe)) rfl rfl (build_ce0 _) rfl ?_)
            | ((with_reducible refine at_store 2 ?_); refine wl_st0 (A' := (ceA zeroCe)) rfl rfl rfl rfl k1 rfl ceInfo (ceA_one zeroCe) ?_; intro V4 kn hu; replace k2 := k2.upd hu (Ne.symm n1_2.out); replace k3 := k3.upd hu (Ne.symm n1_3.out); replace k4 := k4.upd hu (Ne.symm n1_4.out); replace HB := Lib.hid (upd_below HB.out hu L1.out); clear k1; have k1 : Blk _ g1 _ (ceA zeroCe) := kn; clear kn hu))
        refine bodyPost_ret (v := .tuple #[.agg (ceA zeroCe), .int .i64 E]) (results_ct Try.results12 _ rfl rfl k1 Try.underlying28 rfl ceInfo) rfl ?_
        exact ⟨be_eq (congrArg ceA (HI.out.no HLT.out HEE.out).1.symm) (HEX.out.trans (HI.out.no HLT.out HEE.out).2.symm), HB.out⟩
    · have hlt : l.length ≤ k := by omega
      go_wp2_with (first
          | ((with_reducible refine at_slot 27 ?_); refine wl_ld0 rfl rfl rfl k2 Try.underlying28 rfl ceInfo ?_)
          | ((with_reducible refine at_store 2 ?_); refine wl_st0 (A' := (ceA acc)) rfl rfl rfl rfl k1 rfl ceInfo (ceA_one acc) ?_; intro V1 kn hu; replace k2 := k2.upd hu (Ne.symm n1_2.out); replace HB := Lib.hid (upd_below HB.out hu L1.out); clear k1; have k1 : Blk _ g1 _ (ceA acc) := kn; clear kn hu))
      refine bodyPost_ret (v := .tuple #[.agg (ceA acc), .int .i64 0]) (results_ct Try.results12 _ rfl rfl k1 Try.underlying28 rfl ceInfo) rfl ?_
      exact ⟨be_eq (congrArg ceA (HI.out.done hlt).1.symm) (HI.out.done hlt).2.symm, HB.out⟩
theorem ofC_one {e : Ev} (h : EvOk e) : ofC [e] = oneC e ∧ ofE [e] = 0 := by
  have ha : AllOk [e] := fun j hj => by
    have : j = 0 := by simp at hj; exact hj
    subst this
    exact h
  obtain ⟨h1, h2⟩ := all1 (oneC_ok.2 h)
  exact ⟨(if_pos ha).trans h1, (if_pos ha).trans h2⟩
theorem ofC_none {e : Ev} (h : ¬ EvOk e) : ofC [e] = zeroCe ∧ ofE [e] = 2 := by
  have ha : ¬ AllOk [e] := fun a => h (a 0 (by simp))
  exact ⟨if_neg ha, if_neg ha⟩
theorem rof_one {e : Ev} {C : Ce} {E : Int} (hi : EvIn e) (hC : ofC [e] = C) (hE : ofE [e] = E) {w : World} {g : Nat} (h : Blk w g 24 (evsA [e])) :
    Calls Try.prog 24 #[.slice (some ⟨g, 0, none⟩) 1 1] w fun r w' => r = .returned (.tuple #[.agg (ceA C), .int .i64 E]) ∧ Below w.heap.size w w' := by
  subst hC hE
  exact rof_any (some ⟨g, 0, none⟩) g 0 1 [e] (by simp) w (evs_blk h (fun j hj => by
    have : j = 0 := by simp at hj; exact hj
    subst this
    exact hi))
theorem me_bad {c : Ce} {e : Ev} (h : ¬ EvOk e) : meC c (oneC e) = zeroCe ∧ meE c (oneC e) = 2 := by
  have hab : ¬ (CeOk c ∧ CeOk (oneC e)) := fun x => h (oneC_ok.1 x.2)
  exact ⟨if_neg hab, if_neg hab⟩
set_option maxHeartbeats 4000000 in
set_option maxRecDepth 100000 in
theorem radd_no {c : Ce} {e : Ev} (ic : CeIn c) (ie : EvIn e) (h : ¬ EvOk e) (w : World) :
    Calls Try.prog 10 #[.agg (ceA c), .agg (evA e)] w fun r w' => r = .returned (.tuple #[.agg (ceA zeroCe), .int .i64 2]) ∧ Below w.heap.size w w' := by
  have H := Lib.hid (ofC_none h)
  have IE := Lib.hid ie
  clear h ie ic
  have HB := Lib.hid (Below.refl w.heap.size w)
  go_enter Try.func10, Try.ntmps10
  go_wp2_with (first
      | ((with_reducible refine at_slot 2 ?_); refine wl_box (A := (ceA c)) rfl rfl rfl ?_; intro W1 g1 k1 hb hle; have L1 := Lib.hid (Nat.le_trans HB.out.size hle); replace HB := Lib.hid (below_tr HB.out hb); clear hb hle)
      | ((with_reducible refine at_slot 3 ?_); refine wl_box (A := (evA e)) rfl rfl rfl ?_; intro W2 g2 k2 hb hle; have n1_2 := Lib.hid (Blk.ne_of_le k1 hle); have L2 := Lib.hid (Nat.le_trans HB.out.size hle); replace k1 := k1.keep hb; replace HB := Lib.hid (below_tr HB.out hb); clear hb hle)
      | ((with_reducible refine at_slot 4 ?_); refine wl_alloc (A := (ceA zeroCe)) rfl rfl ce_zero rfl ?_; intro W3 g3 k3 hb hle; have n1_3 := Lib.hid (Blk.ne_of_le k1 hle); have n2_3 := Lib.hid (Blk.ne_of_le k2 hle); have L3 := Lib.hid (Nat.le_trans HB.out.size hle); replace k1 := k1.keep hb; replace k2 := k2.keep hb; replace HB := Lib.hid (below_tr HB.out hb); clear hb hle)
      | ((with_reducible refine at_slot 9 ?_); refine wl_ld0 rfl rfl rfl k2 Try.underlying24 rfl evInfo ?_)
      | ((with_reducible refine at_slot 10 ?_); refine wl_bslice (A := (evsA [e])) rfl rfl (bs1_ev _ _) rfl ?_; intro W4 g4 k4 hb hle; have n1_4 := Lib.hid (Blk.ne_of_le k1 hle); have n2_4 := Lib.hid (Blk.ne_of_le k2 hle); have n3_4 := Lib.hid (Blk.ne_of_le k3 hle); have L4 := Lib.hid (Nat.le_trans HB.out.size hle); replace k1 := k1.keep hb; replace k2 := k2.keep hb; replace k3 := k3.keep hb; replace HB := Lib.hid (below_tr HB.out hb); clear hb hle)
      | ((with_reducible refine at_slot 11 ?_); refine wl_call rfl rfl Try.func24 (by kernel_rfl) rfl (rof_one IE.out H.out.1 H.out.2 k4) rfl ?_; intro V1 hb; replace k1 := k1.keep hb; replace k2 := k2.keep hb; replace k3 := k3.keep hb; replace k4 := k4.keep hb; replace HB := Lib.hid (below_tr HB.out hb); clear hb)
      | ((with_reducible refine at_slot 6 ?_); refine wl_alloc (A := (ceA zeroCe)) rfl rfl ce_zero rfl ?_; intro W5 g5 k5 hb hle; have n1_5 := Lib.hid (Blk.ne_of_le k1 hle); have n2_5 := Lib.hid (Blk.ne_of_le k2 hle); have n3_5 := Lib.hid (Blk.ne_of_le k3 hle); have n4_5 := Lib.hid (Blk.ne_of_le k4 hle); have L5 := Lib.hid (Nat.le_trans HB.out.size hle); replace k1 := k1.keep hb; replace k2 := k2.keep hb; replace k3 := k3.keep hb; replace k4 := k4.keep hb; replace HB := Lib.hid (below_tr HB.out hb); clear hb hle)
      | ((with_reducible refine at_store 6 ?_); refine wl_st0 (A' := (ceA zeroCe)) rfl rfl rfl rfl k5 rfl ceInfo (ceA_one zeroCe) ?_; intro V2 kn hu; replace k1 := k1.upd hu n1_5.out; replace k2 := k2.upd hu n2_5.out; replace k3 := k3.upd hu n3_5.out; replace k4 := k4.upd hu n4_5.out; replace HB := Lib.hid (upd_below HB.out hu L5.out); clear k5; have k5 : Blk _ g5 _ (ceA zeroCe) := kn; clear kn hu)
      | ((with_reducible refine at_slot 16 ?_); refine wl_build (v := .agg (ceA zeroCe)) rfl rfl (build_ce0 _) rfl ?_)
      | ((with_reducible refine at_store 4 ?_); refine wl_st0 (A' := (ceA zeroCe)) rfl rfl rfl rfl k3 rfl ceInfo (ceA_one zeroCe) ?_; intro V3 kn hu; replace k1 := k1.upd hu n1_3.out; replace k2 := k2.upd hu n2_3.out; replace k4 := k4.upd hu (Ne.symm n3_4.out); replace k5 := k5.upd hu (Ne.symm n3_5.out); replace HB := Lib.hid (upd_below HB.out hu L3.out); clear k3; have k3 : Blk _ g3 _ (ceA zeroCe) := kn; clear kn hu))
  refine bodyPost_ret (v := .tuple #[.agg (ceA zeroCe), .int .i64 2]) (results_ct Try.results10 _ rfl rfl k3 Try.underlying28 rfl ceInfo) rfl ?_
  exact ⟨rfl, HB.out⟩
set_option maxHeartbeats 4000000 in
set_option maxRecDepth 100000 in
theorem radd_yes {c : Ce} {e : Ev} (ic : CeIn c) (ie : EvIn e) (h : EvOk e) (w : World) :
    Calls Try.prog 10 #[.agg (ceA c), .agg (evA e)] w fun r w' => r = .returned (.tuple #[.agg (ceA (meC c (oneC e))), .int .i64 (meE c (oneC e))]) ∧ Below w.heap.size w w' := by
  have H := Lib.hid (ofC_one h)
  have IE := Lib.hid ie
  have HM := Lib.hid (fun w1 => rme_any ic (CeOk.in (oneC_ok.2 h)) w1)
  generalize meC c (oneC e) = M at *
  generalize meE c (oneC e) = E at *
  clear h ie ic
  have HB := Lib.hid (Below.refl w.heap.size w)
  go_enter Try.func10, Try.ntmps10
  go_wp2_with (first
      | ((with_reducible refine at_slot 2 ?_); refine wl_box (A := (ceA c)) rfl rfl rfl ?_; intro W1 g1 k1 hb hle; have L1 := Lib.hid (Nat.le_trans HB.out.size hle); replace HB := Lib.hid (below_tr HB.out hb); clear hb hle)
      | ((with_reducible refine at_slot 3 ?_); refine wl_box (A := (evA e)) rfl rfl rfl ?_; intro W2 g2 k2 hb hle; have n1_2 := Lib.hid (Blk.ne_of_le k1 hle); have L2 := Lib.hid (Nat.le_trans HB.out.size hle); replace k1 := k1.keep hb; replace HB := Lib.hid (below_tr HB.out hb); clear hb hle)
      | ((with_reducible refine at_slot 4 ?_); refine wl_alloc (A := (ceA zeroCe)) rfl rfl ce_zero rfl ?_; intro W3 g3 k3 hb hle; have n1_3 := Lib.hid (Blk.ne_of_le k1 hle); have n2_3 := Lib.hid (Blk.ne_of_le k2 hle); have L3 := Lib.hid (Nat.le_trans HB.out.size hle); replace k1 := k1.keep hb; replace k2 := k2.keep hb; replace HB := Lib.hid (below_tr HB.out hb); clear hb hle)
      | ((with_reducible refine at_slot 9 ?_); refine wl_ld0 rfl rfl rfl k2 Try.underlying24 rfl evInfo ?_)
      | ((with_reducible refine at_slot 10 ?_); refine wl_bslice (A := (evsA [e])) rfl rfl (bs1_ev _ _) rfl ?_; intro W4 g4 k4 hb hle; have n1_4 := Lib.hid (Blk.ne_of_le k1 hle); have n2_4 := Lib.hid (Blk.ne_of_le k2 hle); have n3_4 := Lib.hid (Blk.ne_of_le k3 hle); have L4 := Lib.hid (Nat.le_trans HB.out.size hle); replace k1 := k1.keep hb; replace k2 := k2.keep hb; replace k3 := k3.keep hb; replace HB := Lib.hid (below_tr HB.out hb); clear hb hle)
      | ((with_reducible refine at_slot 11 ?_); refine wl_call rfl rfl Try.func24 (by kernel_rfl) rfl (rof_one IE.out H.out.1 H.out.2 k4) rfl ?_; intro V1 hb; replace k1 := k1.keep hb; replace k2 := k2.keep hb; replace k3 := k3.keep hb; replace k4 := k4.keep hb; replace HB := Lib.hid (below_tr HB.out hb); clear hb)
      | ((with_reducible refine at_slot 6 ?_); refine wl_alloc (A := (ceA zeroCe)) rfl rfl ce_zero rfl ?_; intro W5 g5 k5 hb hle; have n1_5 := Lib.hid (Blk.ne_of_le k1 hle); have n2_5 := Lib.hid (Blk.ne_of_le k2 hle); have n3_5 := Lib.hid (Blk.ne_of_le k3 hle); have n4_5 := Lib.hid (Blk.ne_of_le k4 hle); have L5 := Lib.hid (Nat.le_trans HB.out.size hle); replace k1 := k1.keep hb; replace k2 := k2.keep hb; replace k3 := k3.keep hb; replace k4 := k4.keep hb; replace HB := Lib.hid (below_tr HB.out hb); clear hb hle)
      | ((with_reducible refine at_store 6 ?_); refine wl_st0 (A' := (ceA (oneC e))) rfl rfl rfl rfl k5 rfl ceInfo (ceA_one (oneC e)) ?_; intro V2 kn hu; replace k1 := k1.upd hu n1_5.out; replace k2 := k2.upd hu n2_5.out; replace k3 := k3.upd hu n3_5.out; replace k4 := k4.upd hu n4_5.out; replace HB := Lib.hid (upd_below HB.out hu L5.out); clear k5; have k5 : Blk _ g5 _ (ceA (oneC e)) := kn; clear kn hu)
      | ((with_reducible refine at_slot 18 ?_); refine wl_ld0 rfl rfl rfl k1 Try.underlying28 rfl ceInfo ?_)
      | ((with_reducible refine at_slot 19 ?_); refine wl_ld0 rfl rfl rfl k5 Try.underlying28 rfl ceInfo ?_)
      | ((with_reducible refine at_slot 20 ?_); refine wl_call rfl rfl Try.func8 (by kernel_rfl) rfl (HM.out _) rfl ?_; intro V3 hb; replace k1 := k1.keep hb; replace k2 := k2.keep hb; replace k3 := k3.keep hb; replace k4 := k4.keep hb; replace k5 := k5.keep hb; replace HB := Lib.hid (below_tr HB.out hb); clear hb)
      | ((with_reducible refine at_store 4 ?_); refine wl_st0 (A' := (ceA M)) rfl rfl rfl rfl k3 rfl ceInfo (ceA_one M) ?_; intro V4 kn hu; replace k1 := k1.upd hu n1_3.out; replace k2 := k2.upd hu n2_3.out; replace k4 := k4.upd hu (Ne.symm n3_4.out); replace k5 := k5.upd hu (Ne.symm n3_5.out); replace HB := Lib.hid (upd_below HB.out hu L3.out); clear k3; have k3 : Blk _ g3 _ (ceA M) := kn; clear kn hu))
  refine bodyPost_ret (v := .tuple #[.agg (ceA M), .int .i64 E]) (results_ct Try.results10 _ rfl rfl k3 Try.underlying28 rfl ceInfo) rfl ?_
  exact ⟨rfl, HB.out⟩
theorem radd_any {c : Ce} {e : Ev} (ic : CeIn c) (ie : EvIn e) (w : World) :
    Calls Try.prog 10 #[.agg (ceA c), .agg (evA e)] w fun r w' => r = .returned (.tuple #[.agg (ceA (meC c (oneC e))), .int .i64 (meE c (oneC e))]) ∧ Below w.heap.size w w' := by
  by_cases h : EvOk e
  · exact radd_yes ic ie h w
  · rw [(me_bad h).1, (me_bad h).2]; exact radd_no ic ie h w
end Go.Proofs.Ytjdjebhimljedaa
