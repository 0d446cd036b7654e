/-
  WALKS: event.between in all ways; Between, Follow: what they answer, of any two events.
-/
import Derived.Test.YtohkioakipjanaaBt6
import Derived.Test.YtohkioakipjanaaCa6
namespace Go.Proofs.Ytohkioakipjanaa
open Go Go.RowKit

theorem btI_bd {p c : Ev} (hp : EvOk p) (hc : EvOk c) : 0 ≤ btI p c ∧ btI p c ≤ 18446744073709551615 := by
  have := hp.v0; have := hp.v1; have := hc.v0; have := hc.v1
  unfold btI
  repeat' split
  all_goals omega
noncomputable def btU (p c : Ev) : U := cutU (btI p c).toNat
theorem btU_n {p c : Ev} (hp : EvOk p) (hc : EvOk c) : (btU p c).n = (btI p c).toNat := by
  have := btI_bd hp hc
  exact cutU_n (by omega)
theorem btU_hi {p c : Ev} (hp : EvOk p) (hc : EvOk c) : hiZ (btU p c) = 0 := by
  have := btI_bd hp hc
  unfold hiZ; rw [btU_n hp hc]; omega
theorem btU_lo {p c : Ev} (hp : EvOk p) (hc : EvOk c) : loZ (btU p c) = btI p c := by
  have := btI_bd hp hc
  unfold loZ; rw [btU_n hp hc]; omega
/-- What lies between two right events, the first one ahead. -/
noncomputable def btC (p c : Ev) : Ce := ⟨0, zeroEv, zeroEv, btU p c, btR p c, btG p c, btS p c⟩
theorem ceA_bt {p c : Ev} (hp : EvOk p) (hc : EvOk c) {I R G S : Int} (h1 : btI p c = I) (h2 : btR p c = R) (h3 : btG p c = G) (h4 : btS p c = S) :
    ceA (btC p c) = #[.int .i64 0, .int .i64 0, .int .u64 0, .int .i64 0, .bool false, .int .i64 0, .int .u64 0, .int .i64 0, .bool false, .int .u64 0, .int .u64 I, .int .i64 R, .int .i64 G, .int .i64 S] := by
  subst h1 h2 h3 h4
  unfold ceA btC
  simp only [btU_hi hp hc, btU_lo hp hc]
  rfl
theorem ret_agg {a b : Array Value} (h : a = b) : Ending.returned (.agg a) = .returned (.agg b) := by rw [h]
theorem bt_any {p c : Ev} (hp : EvOk p) (hc : EvOk c) (hlt : p.t < c.t) (w : World) :
    Calls Try.prog 42 #[.agg (evA p), .agg (evA c)] w fun e w' => e = .returned (.agg (ceA (btC p c))) ∧ Below w.heap.size w w' := by
  obtain ⟨pt, pv, pc, ps⟩ := p
  obtain ⟨ct, cv, cc, cs⟩ := c
  cases cs with
  | true =>
    refine (bt_stale pt pv pc ps ct cv cc true hp hc hlt rfl w).mono ?_
    rintro e w' ⟨rfl, hb⟩
    exact ⟨ret_agg (ceA_bt hp hc (by simp [btI]) (by simp [btR]) (by simp [btG]) (by simp [btS])).symm, hb⟩
  | false =>
    by_cases h2 : pt < cc
    · refine (bt_made pt pv pc ps ct cv cc false hp hc hlt rfl h2 w).mono ?_
      rintro e w' ⟨rfl, hb⟩
      exact ⟨ret_agg (ceA_bt hp hc (by simp [btI, h2]) (by simp [btR, h2]) (by simp [btG, h2]) (by simp [btS, h2])).symm, hb⟩
    · cases ps with
      | true =>
        refine (bt_gap pt pv pc true ct cv cc false hp hc hlt rfl h2 rfl w).mono ?_
        rintro e w' ⟨rfl, hb⟩
        exact ⟨ret_agg (ceA_bt hp hc (by simp [btI, h2]) (by simp [btR, h2]) (by simp [btG, h2]) (by simp [btS, h2])).symm, hb⟩
      | false =>
        by_cases h4 : cv < pv
        · refine (bt_less pt pv pc false ct cv cc false hp hc hlt rfl h2 rfl h4 w).mono ?_
          rintro e w' ⟨rfl, hb⟩
          exact ⟨ret_agg (ceA_bt hp hc (by simp [btI, h2, h4]) (by simp [btR, h2, h4]) (by simp [btG, h2]) (by simp [btS, h2])).symm, hb⟩
        · refine (bt_more pt pv pc false ct cv cc false hp hc hlt rfl h2 rfl h4 w).mono ?_
          rintro e w' ⟨rfl, hb⟩
          exact ⟨ret_agg (ceA_bt hp hc (by simp [btI, h2, h4]) (by simp [btR, h2, h4]) (by simp [btG, h2]) (by simp [btS, h2])).symm, hb⟩

open Classical in
noncomputable def beE (p c : Ev) : Int := if EvOk p ∧ EvOk c then if p.t < c.t then 0 else 9 else 2
open Classical in
noncomputable def beC (p c : Ev) : Ce := if EvOk p ∧ EvOk c ∧ p.t < c.t then btC p c else zeroCe
theorem be_eq {a b : Array Value} {c d : Int} (h : a = b) (h' : c = d) : Ending.returned (.tuple #[.agg a, .int .i64 c]) = .returned (.tuple #[.agg b, .int .i64 d]) := by rw [h, h']

set_option maxHeartbeats 4000000 in
set_option maxRecDepth 100000 in
theorem be_good {p c : Ev} (hp : EvOk p) (hc : EvOk c) (hlt : p.t < c.t) (w : World) :
    Calls Try.prog 39 #[.agg (evA p), .agg (evA c)] w fun e w' => e = .returned (.tuple #[.agg (ceA (btC p c)), .int .i64 0]) ∧ Below w.heap.size w w' := by
  have HP := Lib.hid hp
  clear hp
  have HC := Lib.hid hc
  clear hc
  have HLT := Lib.hid hlt
  have HB := Lib.hid (Below.refl w.heap.size w)
  go_enter Try.func39, Try.ntmps39
  go_wp2_with (first
      | ((with_reducible refine at_slot 2 ?_); refine wl_box (A := (evA p)) rfl rfl rfl ?_; intro W1 g1 k1 hb hle; have L1 := Lib.hid (Nat.le_trans HB.out.size hle); replace HB := Lib.hid (below_tr HB.out hb); clear hb hle)
      | ((with_reducible refine at_slot 3 ?_); refine wl_box (A := (evA c)) rfl rfl rfl ?_; intro W2 g2 k2 hb hle; have n1_2 := Lib.hid (Blk.ne_of_le k1 hle); have L2 := Lib.hid (Nat.le_trans HB.out.size hle); replace k1 := k1.keep hb; replace HB := Lib.hid (below_tr HB.out hb); clear hb hle)
      | ((with_reducible refine at_slot 4 ?_); refine wl_alloc (A := (ceA zeroCe)) rfl rfl ce_zero rfl ?_; intro W3 g3 k3 hb hle; have n1_3 := Lib.hid (Blk.ne_of_le k1 hle); have n2_3 := Lib.hid (Blk.ne_of_le k2 hle); have L3 := Lib.hid (Nat.le_trans HB.out.size hle); replace k1 := k1.keep hb; replace k2 := k2.keep hb; replace HB := Lib.hid (below_tr HB.out hb); clear hb hle)
      | ((with_reducible refine at_slot 6 ?_); refine wl_ld0 rfl rfl rfl k1 Try.underlying27 rfl evInfo ?_)
      | ((with_reducible refine at_slot 7 ?_); refine wl_call rfl rfl Try.func26 (by kernel_rfl) rfl (ev_yes HP.out _) rfl ?_; intro V1 hb; replace k1 := k1.keep hb; replace k2 := k2.keep hb; replace k3 := k3.keep hb; replace HB := Lib.hid (below_tr HB.out hb); clear hb)
      | ((with_reducible refine at_slot 10 ?_); refine wl_ld0 rfl rfl rfl k2 Try.underlying27 rfl evInfo ?_)
      | ((with_reducible refine at_slot 11 ?_); refine wl_call rfl rfl Try.func26 (by kernel_rfl) rfl (ev_yes HC.out _) rfl ?_; intro V2 hb; replace k1 := k1.keep hb; replace k2 := k2.keep hb; replace k3 := k3.keep hb; replace HB := Lib.hid (below_tr HB.out hb); clear hb)
      | ((with_reducible refine at_slot 16 ?_); refine wl_ld1 (v := .int .i64 p.t) rfl rfl rfl k1 Try.underlying2 rfl rfl ?_)
      | ((with_reducible refine at_slot 18 ?_); refine wl_ld1 (v := .int .i64 c.t) rfl rfl rfl k2 Try.underlying2 rfl rfl ?_)
      | ((with_reducible refine at_slot 21 ?_); refine wl_ld0 rfl rfl rfl k1 Try.underlying27 rfl evInfo ?_)
      | ((with_reducible refine at_slot 22 ?_); refine wl_ld0 rfl rfl rfl k2 Try.underlying27 rfl evInfo ?_)
      | ((with_reducible refine at_slot 23 ?_); refine wl_call rfl rfl Try.func42 (by kernel_rfl) rfl (bt_any HP.out HC.out HLT.out _) rfl ?_; intro V3 hb; replace k1 := k1.keep hb; replace k2 := k2.keep hb; replace k3 := k3.keep hb; replace HB := Lib.hid (below_tr HB.out hb); clear hb)
      | ((with_reducible refine at_store 4 ?_); refine wl_st0 (A' := (ceA (btC p c))) rfl rfl rfl rfl k3 rfl ceInfo (ceA_one (btC p c)) ?_; intro V4 kn hu; replace k1 := k1.upd hu n1_3.out; replace k2 := k2.upd hu n2_3.out; replace HB := Lib.hid (upd_below HB.out hu L3.out); clear k3; have k3 : Blk _ g3 _ (ceA (btC p c)) := kn; clear kn hu))
  refine bodyPost_ret (v := .tuple #[.agg (ceA (btC p c)), .int .i64 0]) (results_ct Try.results39 _ rfl rfl k3 Try.underlying69 rfl ceInfo) rfl ?_
  exact ⟨rfl, HB.out⟩
set_option maxHeartbeats 4000000 in
set_option maxRecDepth 100000 in
theorem be_time {p c : Ev} (hp : EvOk p) (hc : EvOk c) (hlt : ¬ p.t < c.t) (w : World) :
    Calls Try.prog 39 #[.agg (evA p), .agg (evA c)] w fun e w' => e = .returned (.tuple #[.agg (ceA zeroCe), .int .i64 9]) ∧ Below w.heap.size w w' := by
  have HP := Lib.hid hp
  clear hp
  have HC := Lib.hid hc
  clear hc
  have HB := Lib.hid (Below.refl w.heap.size w)
  go_enter Try.func39, Try.ntmps39
  go_wp2_with (first
      | ((with_reducible refine at_slot 2 ?_); refine wl_box (A := (evA p)) rfl rfl rfl ?_; intro W1 g1 k1 hb hle; have L1 := Lib.hid (Nat.le_trans HB.out.size hle); replace HB := Lib.hid (below_tr HB.out hb); clear hb hle)
      | ((with_reducible refine at_slot 3 ?_); refine wl_box (A := (evA c)) rfl rfl rfl ?_; intro W2 g2 k2 hb hle; have n1_2 := Lib.hid (Blk.ne_of_le k1 hle); have L2 := Lib.hid (Nat.le_trans HB.out.size hle); replace k1 := k1.keep hb; replace HB := Lib.hid (below_tr HB.out hb); clear hb hle)
      | ((with_reducible refine at_slot 4 ?_); refine wl_alloc (A := (ceA zeroCe)) rfl rfl ce_zero rfl ?_; intro W3 g3 k3 hb hle; have n1_3 := Lib.hid (Blk.ne_of_le k1 hle); have n2_3 := Lib.hid (Blk.ne_of_le k2 hle); have L3 := Lib.hid (Nat.le_trans HB.out.size hle); replace k1 := k1.keep hb; replace k2 := k2.keep hb; replace HB := Lib.hid (below_tr HB.out hb); clear hb hle)
      | ((with_reducible refine at_slot 6 ?_); refine wl_ld0 rfl rfl rfl k1 Try.underlying27 rfl evInfo ?_)
      | ((with_reducible refine at_slot 7 ?_); refine wl_call rfl rfl Try.func26 (by kernel_rfl) rfl (ev_yes HP.out _) rfl ?_; intro V1 hb; replace k1 := k1.keep hb; replace k2 := k2.keep hb; replace k3 := k3.keep hb; replace HB := Lib.hid (below_tr HB.out hb); clear hb)
      | ((with_reducible refine at_slot 10 ?_); refine wl_ld0 rfl rfl rfl k2 Try.underlying27 rfl evInfo ?_)
      | ((with_reducible refine at_slot 11 ?_); refine wl_call rfl rfl Try.func26 (by kernel_rfl) rfl (ev_yes HC.out _) rfl ?_; intro V2 hb; replace k1 := k1.keep hb; replace k2 := k2.keep hb; replace k3 := k3.keep hb; replace HB := Lib.hid (below_tr HB.out hb); clear hb)
      | ((with_reducible refine at_slot 16 ?_); refine wl_ld1 (v := .int .i64 p.t) rfl rfl rfl k1 Try.underlying2 rfl rfl ?_)
      | ((with_reducible refine at_slot 18 ?_); refine wl_ld1 (v := .int .i64 c.t) rfl rfl rfl k2 Try.underlying2 rfl rfl ?_)
      | ((with_reducible refine at_slot 20 ?_); refine wl_build (v := .agg (ceA zeroCe)) rfl rfl (build_ce0 _) rfl ?_)
      | ((with_reducible refine at_store 4 ?_); refine wl_st0 (A' := (ceA zeroCe)) rfl rfl rfl rfl k3 rfl ceInfo (ceA_one zeroCe) ?_; intro V3 kn hu; replace k1 := k1.upd hu n1_3.out; replace k2 := k2.upd hu n2_3.out; replace HB := Lib.hid (upd_below HB.out hu L3.out); clear k3; have k3 : Blk _ g3 _ (ceA zeroCe) := kn; clear kn hu))
  refine bodyPost_ret (v := .tuple #[.agg (ceA zeroCe), .int .i64 9]) (results_ct Try.results39 _ rfl rfl k3 Try.underlying69 rfl ceInfo) rfl ?_
  exact ⟨rfl, HB.out⟩
set_option maxHeartbeats 4000000 in
set_option maxRecDepth 100000 in
theorem be_no1 {p c : Ev} (ip : EvIn p) (hp : ¬ EvOk p) (w : World) :
    Calls Try.prog 39 #[.agg (evA p), .agg (evA c)] w fun e w' => e = .returned (.tuple #[.agg (ceA zeroCe), .int .i64 2]) ∧ Below w.heap.size w w' := by
  have IP := Lib.hid ip
  clear ip
  have HP := Lib.hid hp
  clear hp
  have HB := Lib.hid (Below.refl w.heap.size w)
  go_enter Try.func39, Try.ntmps39
  go_wp2_with (first
      | ((with_reducible refine at_slot 2 ?_); refine wl_box (A := (evA p)) rfl rfl rfl ?_; intro W1 g1 k1 hb hle; have L1 := Lib.hid (Nat.le_trans HB.out.size hle); replace HB := Lib.hid (below_tr HB.out hb); clear hb hle)
      | ((with_reducible refine at_slot 3 ?_); refine wl_box (A := (evA c)) rfl rfl rfl ?_; intro W2 g2 k2 hb hle; have n1_2 := Lib.hid (Blk.ne_of_le k1 hle); have L2 := Lib.hid (Nat.le_trans HB.out.size hle); replace k1 := k1.keep hb; replace HB := Lib.hid (below_tr HB.out hb); clear hb hle)
      | ((with_reducible refine at_slot 4 ?_); refine wl_alloc (A := (ceA zeroCe)) rfl rfl ce_zero rfl ?_; intro W3 g3 k3 hb hle; have n1_3 := Lib.hid (Blk.ne_of_le k1 hle); have n2_3 := Lib.hid (Blk.ne_of_le k2 hle); have L3 := Lib.hid (Nat.le_trans HB.out.size hle); replace k1 := k1.keep hb; replace k2 := k2.keep hb; replace HB := Lib.hid (below_tr HB.out hb); clear hb hle)
      | ((with_reducible refine at_slot 6 ?_); refine wl_ld0 rfl rfl rfl k1 Try.underlying27 rfl evInfo ?_)
      | ((with_reducible refine at_slot 7 ?_); refine wl_call rfl rfl Try.func26 (by kernel_rfl) rfl (ev_no IP.out HP.out _) rfl ?_; intro V1 hb; replace k1 := k1.keep hb; replace k2 := k2.keep hb; replace k3 := k3.keep hb; replace HB := Lib.hid (below_tr HB.out hb); clear hb)
      | ((with_reducible refine at_slot 10 ?_); refine wl_ld0 rfl rfl rfl k2 Try.underlying27 rfl evInfo ?_)
      | ((with_reducible refine at_slot 14 ?_); refine wl_build (v := .agg (ceA zeroCe)) rfl rfl (build_ce0 _) rfl ?_)
      | ((with_reducible refine at_store 4 ?_); refine wl_st0 (A' := (ceA zeroCe)) rfl rfl rfl rfl k3 rfl ceInfo (ceA_one zeroCe) ?_; intro V2 kn hu; replace k1 := k1.upd hu n1_3.out; replace k2 := k2.upd hu n2_3.out; replace HB := Lib.hid (upd_below HB.out hu L3.out); clear k3; have k3 : Blk _ g3 _ (ceA zeroCe) := kn; clear kn hu))
  refine bodyPost_ret (v := .tuple #[.agg (ceA zeroCe), .int .i64 2]) (results_ct Try.results39 _ rfl rfl k3 Try.underlying69 rfl ceInfo) rfl ?_
  exact ⟨rfl, HB.out⟩
set_option maxHeartbeats 4000000 in
set_option maxRecDepth 100000 in
theorem be_no2 {p c : Ev} (hp : EvOk p) (ic : EvIn c) (hc : ¬ EvOk c) (w : World) :
    Calls Try.prog 39 #[.agg (evA p), .agg (evA c)] w fun e w' => e = .returned (.tuple #[.agg (ceA zeroCe), .int .i64 2]) ∧ Below w.heap.size w w' := by
  have HP := Lib.hid hp
  clear hp
  have IC := Lib.hid ic
  clear ic
  have HC := Lib.hid hc
  clear hc
  have HB := Lib.hid (Below.refl w.heap.size w)
  go_enter Try.func39, Try.ntmps39
  go_wp2_with (first
      | ((with_reducible refine at_slot 2 ?_); refine wl_box (A := (evA p)) rfl rfl rfl ?_; intro W1 g1 k1 hb hle; have L1 := Lib.hid (Nat.le_trans HB.out.size hle); replace HB := Lib.hid (below_tr HB.out hb); clear hb hle)
      | ((with_reducible refine at_slot 3 ?_); refine wl_box (A := (evA c)) rfl rfl rfl ?_; intro W2 g2 k2 hb hle; have n1_2 := Lib.hid (Blk.ne_of_le k1 hle); have L2 := Lib.hid (Nat.le_trans HB.out.size hle); replace k1 := k1.keep hb; replace HB := Lib.hid (below_tr HB.out hb); clear hb hle)
      | ((with_reducible refine at_slot 4 ?_); refine wl_alloc (A := (ceA zeroCe)) rfl rfl ce_zero rfl ?_; intro W3 g3 k3 hb hle; have n1_3 := Lib.hid (Blk.ne_of_le k1 hle); have n2_3 := Lib.hid (Blk.ne_of_le k2 hle); have L3 := Lib.hid (Nat.le_trans HB.out.size hle); replace k1 := k1.keep hb; replace k2 := k2.keep hb; replace HB := Lib.hid (below_tr HB.out hb); clear hb hle)
      | ((with_reducible refine at_slot 6 ?_); refine wl_ld0 rfl rfl rfl k1 Try.underlying27 rfl evInfo ?_)
      | ((with_reducible refine at_slot 7 ?_); refine wl_call rfl rfl Try.func26 (by kernel_rfl) rfl (ev_yes HP.out _) rfl ?_; intro V1 hb; replace k1 := k1.keep hb; replace k2 := k2.keep hb; replace k3 := k3.keep hb; replace HB := Lib.hid (below_tr HB.out hb); clear hb)
      | ((with_reducible refine at_slot 10 ?_); refine wl_ld0 rfl rfl rfl k2 Try.underlying27 rfl evInfo ?_)
      | ((with_reducible refine at_slot 11 ?_); refine wl_call rfl rfl Try.func26 (by kernel_rfl) rfl (ev_no IC.out HC.out _) rfl ?_; intro V2 hb; replace k1 := k1.keep hb; replace k2 := k2.keep hb; replace k3 := k3.keep hb; replace HB := Lib.hid (below_tr HB.out hb); clear hb)
      | ((with_reducible refine at_slot 14 ?_); refine wl_build (v := .agg (ceA zeroCe)) rfl rfl (build_ce0 _) rfl ?_)
      | ((with_reducible refine at_store 4 ?_); refine wl_st0 (A' := (ceA zeroCe)) rfl rfl rfl rfl k3 rfl ceInfo (ceA_one zeroCe) ?_; intro V3 kn hu; replace k1 := k1.upd hu n1_3.out; replace k2 := k2.upd hu n2_3.out; replace HB := Lib.hid (upd_below HB.out hu L3.out); clear k3; have k3 : Blk _ g3 _ (ceA zeroCe) := kn; clear kn hu))
  refine bodyPost_ret (v := .tuple #[.agg (ceA zeroCe), .int .i64 2]) (results_ct Try.results39 _ rfl rfl k3 Try.underlying69 rfl ceInfo) rfl ?_
  exact ⟨rfl, HB.out⟩
theorem beE_good {p c : Ev} (hp : EvOk p) (hc : EvOk c) (h : p.t < c.t) : beE p c = 0 := by unfold beE; rw [if_pos ⟨hp, hc⟩, if_pos h]
theorem beE_time {p c : Ev} (hp : EvOk p) (hc : EvOk c) (h : ¬ p.t < c.t) : beE p c = 9 := by unfold beE; rw [if_pos ⟨hp, hc⟩, if_neg h]
theorem beE_no {p c : Ev} (h : ¬ (EvOk p ∧ EvOk c)) : beE p c = 2 := by unfold beE; rw [if_neg h]
theorem beC_good {p c : Ev} (hp : EvOk p) (hc : EvOk c) (h : p.t < c.t) : beC p c = btC p c := by unfold beC; rw [if_pos ⟨hp, hc, h⟩]
theorem beC_time {p c : Ev} (h : ¬ p.t < c.t) : beC p c = zeroCe := by unfold beC; rw [if_neg (fun x => h x.2.2)]
theorem beC_no {p c : Ev} (h : ¬ (EvOk p ∧ EvOk c)) : beC p c = zeroCe := by unfold beC; rw [if_neg (fun x => h ⟨x.1, x.2.1⟩)]
/-- Between, of any two events. -/
theorem be_any {p c : Ev} (ip : EvIn p) (ic : EvIn c) (w : World) :
    Calls Try.prog 39 #[.agg (evA p), .agg (evA c)] w fun e w' => e = .returned (.tuple #[.agg (ceA (beC p c)), .int .i64 (beE p c)]) ∧ Below w.heap.size w w' := by
  by_cases hp : EvOk p
  · by_cases hc : EvOk c
    · by_cases h : p.t < c.t
      · rw [beE_good hp hc h, beC_good hp hc h]; exact be_good hp hc h w
      · rw [beE_time hp hc h, beC_time h]; exact be_time hp hc h w
    · rw [beE_no (fun x => hc x.2), beC_no (fun x => hc x.2)]; exact be_no2 hp ic hc w
  · rw [beE_no (fun x => hp x.1), beC_no (fun x => hp x.1)]; exact be_no1 ip hp w
theorem be_is {p c : Ev} {E : Int} {C : Ce} (ip : EvIn p) (ic : EvIn c) (hE : beE p c = E) (hC : beC p c = C) (w : World) :
    Calls Try.prog 39 #[.agg (evA p), .agg (evA c)] w fun e w' => e = .returned (.tuple #[.agg (ceA C), .int .i64 E]) ∧ Below w.heap.size w w' := by
  subst hE hC
  exact be_any ip ic w
set_option maxHeartbeats 4000000 in
set_option maxRecDepth 100000 in
theorem fol0 {p c : Ev} (ip : EvIn p) (ic : EvIn c) (h1 : beE p c = 0) (h2 : beC p c = (btC p c)) (w : World) :
    Calls Try.prog 27 #[.agg (evA p), .agg (evA c)] w fun e w' => e = .returned (.bool true) ∧ Below w.heap.size w w' := by
  have IP := Lib.hid ip
  have IC := Lib.hid ic
  have H1 := Lib.hid h1
  have H2 := Lib.hid h2
  clear ip ic h1 h2
  have HB := Lib.hid (Below.refl w.heap.size w)
  go_enter Try.func27, Try.ntmps27
  go_wp2_with (first
      | ((with_reducible refine at_slot 2 ?_); refine wl_box (A := (evA p)) rfl rfl rfl ?_; intro W1 g1 k1 hb hle; have L1 := Lib.hid (Nat.le_trans HB.out.size hle); replace HB := Lib.hid (below_tr HB.out hb); clear hb hle)
      | ((with_reducible refine at_slot 3 ?_); refine wl_box (A := (evA c)) rfl rfl rfl ?_; intro W2 g2 k2 hb hle; have n1_2 := Lib.hid (Blk.ne_of_le k1 hle); have L2 := Lib.hid (Nat.le_trans HB.out.size hle); replace k1 := k1.keep hb; replace HB := Lib.hid (below_tr HB.out hb); clear hb hle)
      | ((with_reducible refine at_slot 8 ?_); refine wl_ld0 rfl rfl rfl k1 Try.underlying27 rfl evInfo ?_)
      | ((with_reducible refine at_slot 9 ?_); refine wl_ld0 rfl rfl rfl k2 Try.underlying27 rfl evInfo ?_)
      | ((with_reducible refine at_slot 10 ?_); refine wl_call rfl rfl Try.func39 (by kernel_rfl) rfl (be_is IP.out IC.out H1.out H2.out _) rfl ?_; intro V1 hb; replace k1 := k1.keep hb; replace k2 := k2.keep hb; replace HB := Lib.hid (below_tr HB.out hb); clear hb)
      | ((with_reducible refine at_slot 5 ?_); refine wl_alloc (A := (ceA zeroCe)) rfl rfl ce_zero rfl ?_; intro W3 g3 k3 hb hle; have n1_3 := Lib.hid (Blk.ne_of_le k1 hle); have n2_3 := Lib.hid (Blk.ne_of_le k2 hle); have L3 := Lib.hid (Nat.le_trans HB.out.size hle); replace k1 := k1.keep hb; replace k2 := k2.keep hb; replace HB := Lib.hid (below_tr HB.out hb); clear hb hle)
      | ((with_reducible refine at_store 5 ?_); refine wl_st0 (A' := (ceA (btC p c))) rfl rfl rfl rfl k3 rfl ceInfo (ceA_one (btC p c)) ?_; intro V2 kn hu; replace k1 := k1.upd hu n1_3.out; replace k2 := k2.upd hu n2_3.out; replace HB := Lib.hid (upd_below HB.out hu L3.out); clear k3; have k3 : Blk _ g3 _ (ceA (btC p c)) := kn; clear kn hu))
  go_ret
  exact ⟨rfl, HB.out⟩
set_option maxHeartbeats 4000000 in
set_option maxRecDepth 100000 in
theorem fol9 {p c : Ev} (ip : EvIn p) (ic : EvIn c) (h1 : beE p c = 9) (h2 : beC p c = zeroCe) (w : World) :
    Calls Try.prog 27 #[.agg (evA p), .agg (evA c)] w fun e w' => e = .returned (.bool false) ∧ Below w.heap.size w w' := by
  have IP := Lib.hid ip
  have IC := Lib.hid ic
  have H1 := Lib.hid h1
  have H2 := Lib.hid h2
  clear ip ic h1 h2
  have HB := Lib.hid (Below.refl w.heap.size w)
  go_enter Try.func27, Try.ntmps27
  go_wp2_with (first
      | ((with_reducible refine at_slot 2 ?_); refine wl_box (A := (evA p)) rfl rfl rfl ?_; intro W1 g1 k1 hb hle; have L1 := Lib.hid (Nat.le_trans HB.out.size hle); replace HB := Lib.hid (below_tr HB.out hb); clear hb hle)
      | ((with_reducible refine at_slot 3 ?_); refine wl_box (A := (evA c)) rfl rfl rfl ?_; intro W2 g2 k2 hb hle; have n1_2 := Lib.hid (Blk.ne_of_le k1 hle); have L2 := Lib.hid (Nat.le_trans HB.out.size hle); replace k1 := k1.keep hb; replace HB := Lib.hid (below_tr HB.out hb); clear hb hle)
      | ((with_reducible refine at_slot 8 ?_); refine wl_ld0 rfl rfl rfl k1 Try.underlying27 rfl evInfo ?_)
      | ((with_reducible refine at_slot 9 ?_); refine wl_ld0 rfl rfl rfl k2 Try.underlying27 rfl evInfo ?_)
      | ((with_reducible refine at_slot 10 ?_); refine wl_call rfl rfl Try.func39 (by kernel_rfl) rfl (be_is IP.out IC.out H1.out H2.out _) rfl ?_; intro V1 hb; replace k1 := k1.keep hb; replace k2 := k2.keep hb; replace HB := Lib.hid (below_tr HB.out hb); clear hb)
      | ((with_reducible refine at_slot 5 ?_); refine wl_alloc (A := (ceA zeroCe)) rfl rfl ce_zero rfl ?_; intro W3 g3 k3 hb hle; have n1_3 := Lib.hid (Blk.ne_of_le k1 hle); have n2_3 := Lib.hid (Blk.ne_of_le k2 hle); have L3 := Lib.hid (Nat.le_trans HB.out.size hle); replace k1 := k1.keep hb; replace k2 := k2.keep hb; replace HB := Lib.hid (below_tr HB.out hb); clear hb hle)
      | ((with_reducible refine at_store 5 ?_); refine wl_st0 (A' := (ceA zeroCe)) rfl rfl rfl rfl k3 rfl ceInfo (ceA_one zeroCe) ?_; intro V2 kn hu; replace k1 := k1.upd hu n1_3.out; replace k2 := k2.upd hu n2_3.out; replace HB := Lib.hid (upd_below HB.out hu L3.out); clear k3; have k3 : Blk _ g3 _ (ceA zeroCe) := kn; clear kn hu))
  go_ret
  exact ⟨rfl, HB.out⟩
set_option maxHeartbeats 4000000 in
set_option maxRecDepth 100000 in
theorem fol2 {p c : Ev} (ip : EvIn p) (ic : EvIn c) (h1 : beE p c = 2) (h2 : beC p c = zeroCe) (w : World) :
    Calls Try.prog 27 #[.agg (evA p), .agg (evA c)] w fun e w' => e = .returned (.bool false) ∧ Below w.heap.size w w' := by
  have IP := Lib.hid ip
  have IC := Lib.hid ic
  have H1 := Lib.hid h1
  have H2 := Lib.hid h2
  clear ip ic h1 h2
  have HB := Lib.hid (Below.refl w.heap.size w)
  go_enter Try.func27, Try.ntmps27
  go_wp2_with (first
      | ((with_reducible refine at_slot 2 ?_); refine wl_box (A := (evA p)) rfl rfl rfl ?_; intro W1 g1 k1 hb hle; have L1 := Lib.hid (Nat.le_trans HB.out.size hle); replace HB := Lib.hid (below_tr HB.out hb); clear hb hle)
      | ((with_reducible refine at_slot 3 ?_); refine wl_box (A := (evA c)) rfl rfl rfl ?_; intro W2 g2 k2 hb hle; have n1_2 := Lib.hid (Blk.ne_of_le k1 hle); have L2 := Lib.hid (Nat.le_trans HB.out.size hle); replace k1 := k1.keep hb; replace HB := Lib.hid (below_tr HB.out hb); clear hb hle)
      | ((with_reducible refine at_slot 8 ?_); refine wl_ld0 rfl rfl rfl k1 Try.underlying27 rfl evInfo ?_)
      | ((with_reducible refine at_slot 9 ?_); refine wl_ld0 rfl rfl rfl k2 Try.underlying27 rfl evInfo ?_)
      | ((with_reducible refine at_slot 10 ?_); refine wl_call rfl rfl Try.func39 (by kernel_rfl) rfl (be_is IP.out IC.out H1.out H2.out _) rfl ?_; intro V1 hb; replace k1 := k1.keep hb; replace k2 := k2.keep hb; replace HB := Lib.hid (below_tr HB.out hb); clear hb)
      | ((with_reducible refine at_slot 5 ?_); refine wl_alloc (A := (ceA zeroCe)) rfl rfl ce_zero rfl ?_; intro W3 g3 k3 hb hle; have n1_3 := Lib.hid (Blk.ne_of_le k1 hle); have n2_3 := Lib.hid (Blk.ne_of_le k2 hle); have L3 := Lib.hid (Nat.le_trans HB.out.size hle); replace k1 := k1.keep hb; replace k2 := k2.keep hb; replace HB := Lib.hid (below_tr HB.out hb); clear hb hle)
      | ((with_reducible refine at_store 5 ?_); refine wl_st0 (A' := (ceA zeroCe)) rfl rfl rfl rfl k3 rfl ceInfo (ceA_one zeroCe) ?_; intro V2 kn hu; replace k1 := k1.upd hu n1_3.out; replace k2 := k2.upd hu n2_3.out; replace HB := Lib.hid (upd_below HB.out hu L3.out); clear k3; have k3 : Blk _ g3 _ (ceA zeroCe) := kn; clear kn hu))
  go_ret
  exact ⟨rfl, HB.out⟩
/-- Does c follow p? -/
def Fol (p c : Ev) : Prop := EvOk p ∧ EvOk c ∧ p.t < c.t
theorem fol_yes {p c : Ev} (h : Fol p c) (w : World) : Calls Try.prog 27 #[.agg (evA p), .agg (evA c)] w fun e w' => e = .returned (.bool true) ∧ Below w.heap.size w w' :=
  fol0 h.1.in h.2.1.in (beE_good h.1 h.2.1 h.2.2) (beC_good h.1 h.2.1 h.2.2) w
theorem fol_no {p c : Ev} (ip : EvIn p) (ic : EvIn c) (h : ¬ Fol p c) (w : World) : Calls Try.prog 27 #[.agg (evA p), .agg (evA c)] w fun e w' => e = .returned (.bool false) ∧ Below w.heap.size w w' := by
  by_cases hb : EvOk p ∧ EvOk c
  · have ht : ¬ p.t < c.t := fun x => h ⟨hb.1, hb.2, x⟩
    exact fol9 ip ic (beE_time hb.1 hb.2 ht) (beC_time ht) w
  · exact fol2 ip ic (beE_no hb) (beC_no hb) w
end Go.Proofs.Ytohkioakipjanaa
