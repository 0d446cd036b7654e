/-
  WALKS: cell.Of: what it answers, of any events.
-/
import Derived.Test.YtjdjebhimljedaaAl
namespace Go.Proofs.Ytjdjebhimljedaa
open Go Go.RowKit

def AllOk (l : List Ev) : Prop := ∀ (j : Nat) (h : j < l.length), EvOk l[j]
open Classical in
noncomputable def ofC (l : List Ev) : Ce := if AllOk l then allC zeroCe (l.map oneC) else zeroCe
open Classical in
noncomputable def ofE (l : List Ev) : Int := if AllOk l then allE zeroCe (l.map oneC) else 2
structure OfI (w wr : World) (g1 : Nat) (l : List Ev) (k : Nat) : Prop where
  below : Below w.heap.size w wr
  b1 : Blk wr g1 28 (ceA zeroCe)
  ok : ∀ (j : Nat) (h : j < l.length), j < k → EvOk l[j]
theorem OfI.next {w wr wx : World} {g1 : Nat} {l : List Ev} {k : Nat} (h : OfI w wr g1 l k) (hk : k < l.length) (he : EvOk l[k]) (hb : Below w.heap.size w wx) (b1 : Blk wx g1 28 (ceA zeroCe)) : OfI w wx g1 l (k + 1) :=
  ⟨hb, b1, fun j hj hjk => by
    rcases Nat.lt_or_ge j k with h' | h'
    · exact h.ok j hj h'
    · obtain rfl : j = k := by omega
      exact he⟩
theorem ofC_no {l : List Ev} (k : Nat) (hk : k < l.length) (he : ¬ EvOk l[k]) : ofC l = zeroCe ∧ ofE l = 2 := by
  have : ¬ AllOk l := fun h => he (h k hk)
  unfold ofC ofE
  rw [if_neg this, if_neg this]
  exact ⟨rfl, rfl⟩
theorem ofC_yes {l : List Ev} (h : AllOk l) : ofC l = allC zeroCe (l.map oneC) ∧ ofE l = allE zeroCe (l.map oneC) := by
  unfold ofC ofE
  rw [if_pos h, if_pos h]
  exact ⟨rfl, rfl⟩

set_option maxHeartbeats 4000000 in
set_option maxRecDepth 100000 in
/-- Of, of any events. -/
theorem of_evs (ao : Option Addr) (b off cap : Nat) (l : List Ev) (hm : l.length ≤ 9223372036854775807) (w : World) (h : EvsAt w ao b off l) :
    Calls Try.prog 16 #[.slice ao l.length cap] w fun e w' => e = .returned (.tuple #[.agg (ceA (ofC l)), .int .i64 (ofE l)]) ∧ Below w.heap.size w w' := by
  have HL := Lib.hid h
  clear h
  have HB := Lib.hid (Below.refl w.heap.size w)
  go_enter Try.func16, Try.ntmps16
  go_wp2_with (first
      | ((with_reducible refine at_slot 2 ?_); refine wl_alloc (A := (ceA zeroCe)) rfl rfl ce_zero rfl ?_; intro W1 g1 k1 hb hle; have L1 := Lib.hid (Nat.le_trans HB.out.size hle); replace HB := Lib.hid (below_tr HB.out hb); clear hb hle))
  have HI := Lib.hid (OfI.mk HB.out k1 (fun j hj h0 => by omega) : OfI w _ g1 l 0)
  clear k1 HB
  go_loopw [13] (fun i wr => ∃ k : Nat, k ≤ l.length ∧ i = .int .i64 k ∧ OfI w wr g1 l k) (fun i _ => l.length - (intOf i).toNat)
  case atStart => exact ⟨0, Nat.zero_le _, rfl, HI.out⟩
  case round =>
    obtain ⟨k, hk, rfl, hI⟩ := hrel
    clear HI
    have HB := Lib.hid hI.below
    have k1 := hI.b1
    have HI := Lib.hid hI
    clear hI
    by_cases hlt : k < l.length
    · obtain ⟨rfl, hbw⟩ := HL.out.at_ (by omega)
      have HLT := Lib.hid hlt
      by_cases hE : EvOk l[k]
      · have HEE := Lib.hid hE
        clear hE
        go_wp2_with (first
            | ((with_reducible refine at_slot 16 ?_); refine wl_ldr (B := (evA l[k])) rfl rfl rfl ((HL.out.keep HB.out).row k hlt) Try.underlying24 rfl evInfo ?_)
            | ((with_reducible refine at_slot 5 ?_); refine wl_alloc (A := (evA zeroEv)) rfl rfl ev_zero rfl ?_; intro W2 g2 k2 hb hle; have n1_2 := Lib.hid (Blk.ne_of_le k1 hle); have L2 := Lib.hid (Nat.le_trans HB.out.size hle); replace k1 := k1.keep hb; replace HB := Lib.hid (below_tr HB.out hb); clear hb hle)
            | ((with_reducible refine at_store 5 ?_); refine wl_st0 (A' := (evA l[k])) rfl rfl rfl rfl k2 rfl evInfo (evA_one l[k]) ?_; intro V1 kn hu; replace k1 := k1.upd hu n1_2.out; replace HB := Lib.hid (upd_below HB.out hu L2.out); clear k2; have k2 : Blk _ g2 _ (evA l[k]) := kn; clear kn hu)
            | ((with_reducible refine at_slot 17 ?_); refine wl_ld0 rfl rfl rfl k2 Try.underlying24 rfl evInfo ?_)
            | ((with_reducible refine at_slot 18 ?_); refine wl_call rfl rfl Try.func17 (by kernel_rfl) rfl (ev_yes HEE.out _) rfl ?_; intro V2 hb; replace k1 := k1.keep hb; replace k2 := k2.keep hb; replace HB := Lib.hid (below_tr HB.out hb); clear hb))
        go_roundw
        case rel => exact ⟨k + 1, hlt, by go_num, HI.out.next HLT.out HEE.out HB.out k1⟩
        case measure => simp [intOf]; omega
      · have HEE := Lib.hid hE
        clear hE
        go_wp2_with (first
            | ((with_reducible refine at_slot 16 ?_); refine wl_ldr (B := (evA l[k])) rfl rfl rfl ((HL.out.keep HB.out).row k hlt) Try.underlying24 rfl evInfo ?_)
            | ((with_reducible refine at_slot 5 ?_); refine wl_alloc (A := (evA zeroEv)) rfl rfl ev_zero rfl ?_; intro W2 g2 k2 hb hle; have n1_2 := Lib.hid (Blk.ne_of_le k1 hle); have L2 := Lib.hid (Nat.le_trans HB.out.size hle); replace k1 := k1.keep hb; replace HB := Lib.hid (below_tr HB.out hb); clear hb hle)
            | ((with_reducible refine at_store 5 ?_); refine wl_st0 (A' := (evA l[k])) rfl rfl rfl rfl k2 rfl evInfo (evA_one l[k]) ?_; intro V1 kn hu; replace k1 := k1.upd hu n1_2.out; replace HB := Lib.hid (upd_below HB.out hu L2.out); clear k2; have k2 : Blk _ g2 _ (evA l[k]) := kn; clear kn hu)
            | ((with_reducible refine at_slot 17 ?_); refine wl_ld0 rfl rfl rfl k2 Try.underlying24 rfl evInfo ?_)
            | ((with_reducible refine at_slot 18 ?_); refine wl_call rfl rfl Try.func17 (by kernel_rfl) rfl (ev_no (HL.out.fits k HLT.out) HEE.out _) rfl ?_; intro V2 hb; replace k1 := k1.keep hb; replace k2 := k2.keep hb; replace HB := Lib.hid (below_tr HB.out hb); clear hb)
            | ((with_reducible refine at_slot 20 ?_); refine wl_build (v := .agg (ceA zeroCe)) rfl rfl (build_ce0 _) rfl ?_)
            | ((with_reducible refine at_store 2 ?_); refine wl_st0 (A' := (ceA zeroCe)) rfl rfl rfl rfl k1 rfl ceInfo (ceA_one zeroCe) ?_; intro V3 kn hu; replace k2 := k2.upd hu (Ne.symm n1_2.out); replace HB := Lib.hid (upd_below HB.out hu L1.out); clear k1; have k1 : Blk _ g1 _ (ceA zeroCe) := kn; clear kn hu))
        refine bodyPost_ret (v := .tuple #[.agg (ceA zeroCe), .int .i64 2]) (results_ct Try.results16 _ rfl rfl k1 Try.underlying28 rfl ceInfo) rfl ?_
        exact ⟨be_eq (congrArg ceA (ofC_no k HLT.out HEE.out).1.symm) (ofC_no k HLT.out HEE.out).2.symm, HB.out⟩
    · have HOK : Hid (AllOk l) := Lib.hid (fun j hj => HI.out.ok j hj (by omega))
      clear HI
      go_wp2_with (first
          | ((with_reducible refine at_slot 6 ?_); refine wl_alloc (A := (ceA zeroCe)) rfl rfl ce_zero rfl ?_; intro W2 g2 k2 hb hle; have n1_2 := Lib.hid (Blk.ne_of_le k1 hle); have L2 := Lib.hid (Nat.le_trans HB.out.size hle); replace k1 := k1.keep hb; replace HB := Lib.hid (below_tr HB.out hb); clear hb hle))
      have HI := Lib.hid (AllI.mk HB.out k1 k2 zeroOk rfl rfl : AllI w _ g1 g2 (l.map oneC) 0 zeroCe)
      clear k1 k2 HB hlt hk
      go_loopw [24] (fun i wr => ∃ (k : Nat) (acc : Ce), k ≤ l.length ∧ i = .int .i64 k ∧ AllI w wr g1 g2 (l.map oneC) k acc) (fun i _ => l.length - (intOf i).toNat)
      case atStart => exact ⟨0, zeroCe, Nat.zero_le _, rfl, HI.out⟩
      case round =>
        obtain ⟨k, acc, hk, rfl, hI⟩ := hrel
        clear HI
        have HB := Lib.hid hI.below
        have k1 := hI.b1
        have k2 := hI.b2
        have HI := Lib.hid hI
        clear hI
        by_cases hlt : k < l.length
        · obtain ⟨rfl, hbw⟩ := HL.out.at_ (by omega)
          have HLT := Lib.hid hlt
          have HKM : Hid (∃ h : k < (l.map oneC).length, (l.map oneC)[k] = oneC l[k]) := Lib.hid ⟨by rw [List.length_map]; exact hlt, List.getElem_map _⟩
          by_cases hE : meE acc (oneC l[k]) = 0
          · have HEE := Lib.hid hE
            clear hE
            go_wp2_with (first
                | ((with_reducible refine at_slot 27 ?_); refine wl_ldr (B := (evA l[k])) rfl rfl rfl ((HL.out.keep HB.out).row k hlt) Try.underlying24 rfl evInfo ?_)
                | ((with_reducible refine at_slot 8 ?_); refine wl_alloc (A := (evA zeroEv)) rfl rfl ev_zero rfl ?_; intro W3 g3 k3 hb hle; have n1_3 := Lib.hid (Blk.ne_of_le k1 hle); have n2_3 := Lib.hid (Blk.ne_of_le k2 hle); have L3 := Lib.hid (Nat.le_trans HB.out.size hle); replace k1 := k1.keep hb; replace k2 := k2.keep hb; replace HB := Lib.hid (below_tr HB.out hb); clear hb hle)
                | ((with_reducible refine at_store 8 ?_); refine wl_st0 (A' := (evA l[k])) rfl rfl rfl rfl k3 rfl evInfo (evA_one l[k]) ?_; intro V1 kn hu; replace k1 := k1.upd hu n1_3.out; replace k2 := k2.upd hu n2_3.out; replace HB := Lib.hid (upd_below HB.out hu L3.out); clear k3; have k3 : Blk _ g3 _ (evA l[k]) := kn; clear kn hu)
                | ((with_reducible refine at_slot 29 ?_); refine wl_ld0 rfl rfl rfl k2 Try.underlying28 rfl ceInfo ?_)
                | ((with_reducible refine at_slot 30 ?_); refine wl_ld0 rfl rfl rfl k3 Try.underlying24 rfl evInfo ?_)
                | ((with_reducible refine at_slot 31 ?_); refine wl_call rfl rfl Try.func9 (by kernel_rfl) rfl (ad_is HI.out.ok.in (HL.out.fits k HLT.out) HEE.out _) rfl ?_; intro V2 hb; replace k1 := k1.keep hb; replace k2 := k2.keep hb; replace k3 := k3.keep hb; replace HB := Lib.hid (below_tr HB.out hb); clear hb)
                | ((with_reducible refine at_slot 9 ?_); refine wl_alloc (A := (ceA zeroCe)) rfl rfl ce_zero rfl ?_; intro W4 g4 k4 hb hle; have n1_4 := Lib.hid (Blk.ne_of_le k1 hle); have n2_4 := Lib.hid (Blk.ne_of_le k2 hle); have n3_4 := Lib.hid (Blk.ne_of_le k3 hle); have L4 := Lib.hid (Nat.le_trans HB.out.size hle); replace k1 := k1.keep hb; replace k2 := k2.keep hb; replace k3 := k3.keep hb; replace HB := Lib.hid (below_tr HB.out hb); clear hb hle)
                | ((with_reducible refine at_store 9 ?_); refine wl_st0 (A' := (ceA (meC acc (oneC l[k])))) rfl rfl rfl rfl k4 rfl ceInfo (ceA_one (meC acc (oneC l[k]))) ?_; intro V3 kn hu; replace k1 := k1.upd hu n1_4.out; replace k2 := k2.upd hu n2_4.out; replace k3 := k3.upd hu n3_4.out; replace HB := Lib.hid (upd_below HB.out hu L4.out); clear k4; have k4 : Blk _ g4 _ (ceA (meC acc (oneC l[k]))) := kn; clear kn hu)
                | ((with_reducible refine at_slot 38 ?_); refine wl_ld0 rfl rfl rfl k4 Try.underlying28 rfl ceInfo ?_)
                | ((with_reducible refine at_store 6 ?_); refine wl_st0 (A' := (ceA (meC acc (oneC l[k])))) rfl rfl rfl rfl k2 rfl ceInfo (ceA_one (meC acc (oneC l[k]))) ?_; intro V4 kn hu; replace k1 := k1.upd hu n1_2.out; replace k3 := k3.upd hu (Ne.symm n2_3.out); replace k4 := k4.upd hu (Ne.symm n2_4.out); replace HB := Lib.hid (upd_below HB.out hu L2.out); clear k2; have k2 : Blk _ g2 _ (ceA (meC acc (oneC l[k]))) := kn; clear kn hu))
            go_roundw
            case rel =>
              obtain ⟨hm, em⟩ := HKM.out
              obtain ⟨e1, e2⟩ := HI.out.ok_c hm (by rw [em]; exact HEE.out)
              rw [em] at e1 e2
              exact ⟨k + 1, meC acc (oneC l[k]), hlt, by go_num, HB.out, k1, k2, meC_ok _ _, e1, e2⟩
            case measure => simp [intOf]; omega
          · have HEE := Lib.hid hE
            obtain ⟨E, hEx⟩ : ∃ E, E = meE acc (oneC l[k]) := ⟨_, rfl⟩
            have dE : (E != 0) = true := by rw [hEx]; simpa using hE
            have HEX := Lib.hid hEx
            clear hE hEx
            go_wp2_with (first
                | ((with_reducible refine at_slot 27 ?_); refine wl_ldr (B := (evA l[k])) rfl rfl rfl ((HL.out.keep HB.out).row k hlt) Try.underlying24 rfl evInfo ?_)
                | ((with_reducible refine at_slot 8 ?_); refine wl_alloc (A := (evA zeroEv)) rfl rfl ev_zero rfl ?_; intro W3 g3 k3 hb hle; have n1_3 := Lib.hid (Blk.ne_of_le k1 hle); have n2_3 := Lib.hid (Blk.ne_of_le k2 hle); have L3 := Lib.hid (Nat.le_trans HB.out.size hle); replace k1 := k1.keep hb; replace k2 := k2.keep hb; replace HB := Lib.hid (below_tr HB.out hb); clear hb hle)
                | ((with_reducible refine at_store 8 ?_); refine wl_st0 (A' := (evA l[k])) rfl rfl rfl rfl k3 rfl evInfo (evA_one l[k]) ?_; intro V1 kn hu; replace k1 := k1.upd hu n1_3.out; replace k2 := k2.upd hu n2_3.out; replace HB := Lib.hid (upd_below HB.out hu L3.out); clear k3; have k3 : Blk _ g3 _ (evA l[k]) := kn; clear kn hu)
                | ((with_reducible refine at_slot 29 ?_); refine wl_ld0 rfl rfl rfl k2 Try.underlying28 rfl ceInfo ?_)
                | ((with_reducible refine at_slot 30 ?_); refine wl_ld0 rfl rfl rfl k3 Try.underlying24 rfl evInfo ?_)
                | ((with_reducible refine at_slot 31 ?_); refine wl_call rfl rfl Try.func9 (by kernel_rfl) rfl (ad_is HI.out.ok.in (HL.out.fits k HLT.out) HEX.out.symm _) rfl ?_; intro V2 hb; replace k1 := k1.keep hb; replace k2 := k2.keep hb; replace k3 := k3.keep hb; replace HB := Lib.hid (below_tr HB.out hb); clear hb)
                | ((with_reducible refine at_slot 9 ?_); refine wl_alloc (A := (ceA zeroCe)) rfl rfl ce_zero rfl ?_; intro W4 g4 k4 hb hle; have n1_4 := Lib.hid (Blk.ne_of_le k1 hle); have n2_4 := Lib.hid (Blk.ne_of_le k2 hle); have n3_4 := Lib.hid (Blk.ne_of_le k3 hle); have L4 := Lib.hid (Nat.le_trans HB.out.size hle); replace k1 := k1.keep hb; replace k2 := k2.keep hb; replace k3 := k3.keep hb; replace HB := Lib.hid (below_tr HB.out hb); clear hb hle)
                | ((with_reducible refine at_store 9 ?_); refine wl_st0 (A' := (ceA (meC acc (oneC l[k])))) rfl rfl rfl rfl k4 rfl ceInfo (ceA_one (meC acc (oneC l[k]))) ?_; intro V3 kn hu; replace k1 := k1.upd hu n1_4.out; replace k2 := k2.upd hu n2_4.out; replace k3 := k3.upd hu n3_4.out; replace HB := Lib.hid (upd_below HB.out hu L4.out); clear k4; have k4 : Blk _ g4 _ (ceA (meC acc (oneC l[k]))) := kn; clear kn hu)
                | ((with_reducible refine at_slot 36 ?_); refine wl_build (v := .agg (ceA zeroCe)) rfl rfl (build_ce0 _) rfl ?_)
                | ((with_reducible refine at_store 2 ?_); refine wl_st0 (A' := (ceA zeroCe)) rfl rfl rfl rfl k1 rfl ceInfo (ceA_one zeroCe) ?_; intro V4 kn hu; replace k2 := k2.upd hu (Ne.symm n1_2.out); replace k3 := k3.upd hu (Ne.symm n1_3.out); replace k4 := k4.upd hu (Ne.symm n1_4.out); replace HB := Lib.hid (upd_below HB.out hu L1.out); clear k1; have k1 : Blk _ g1 _ (ceA zeroCe) := kn; clear kn hu))
            obtain ⟨hm, em⟩ := HKM.out
            have hno := HI.out.no hm (by rw [em]; exact HEE.out)
            rw [em] at hno
            refine bodyPost_ret (v := .tuple #[.agg (ceA zeroCe), .int .i64 E]) (results_ct Try.results16 _ rfl rfl k1 Try.underlying28 rfl ceInfo) rfl ?_
            exact ⟨be_eq (congrArg ceA ((ofC_yes HOK.out).1.trans hno.1).symm) (HEX.out.trans ((ofC_yes HOK.out).2.trans hno.2).symm), HB.out⟩
        · have hlt : (l.map oneC).length ≤ k := by simp; omega
          go_wp2_with (first
              | ((with_reducible refine at_slot 40 ?_); refine wl_ld0 rfl rfl rfl k2 Try.underlying28 rfl ceInfo ?_)
              | ((with_reducible refine at_store 2 ?_); refine wl_st0 (A' := (ceA acc)) rfl rfl rfl rfl k1 rfl ceInfo (ceA_one acc) ?_; intro V1 kn hu; replace k2 := k2.upd hu (Ne.symm n1_2.out); replace HB := Lib.hid (upd_below HB.out hu L1.out); clear k1; have k1 : Blk _ g1 _ (ceA acc) := kn; clear kn hu))
          refine bodyPost_ret (v := .tuple #[.agg (ceA acc), .int .i64 0]) (results_ct Try.results16 _ rfl rfl k1 Try.underlying28 rfl ceInfo) rfl ?_
          exact ⟨be_eq (congrArg ceA ((ofC_yes HOK.out).1.trans (HI.out.done hlt).1).symm) ((ofC_yes HOK.out).2.trans (HI.out.done hlt).2).symm, HB.out⟩
end Go.Proofs.Ytjdjebhimljedaa
