/-
  THE DOCUMENT'S ANSWERS for cells: plimsollref08.Of.
-/
import Derived.Test.YtjdjebhimljedaaPs
import Derived.Test.YtjdjebhimljedaaE8
import Derived.Test.YtjdjebhimljedaaRa
namespace Go.Proofs.Ytjdjebhimljedaa
open Go Go.RowKit

theorem rof_be {p c : Ev} {E : Int} {C : Ce} (ip : EvIn p) (ic : EvIn c) (hE : beE p c = E) (hC : beC p c = C) (w : World) :
    Calls Try.prog 22 #[.agg (evA p), .agg (evA c)] w fun e w' => e = .returned (.tuple #[.agg (ceA C), .int .i64 E]) ∧ Below w.heap.size w w' := by
  subst hE hC
  exact rbe_any ip ic w
theorem rof_add {a b : U} (h : a.n + b.n < 340282366920938463463374607431768211456) (w : World) :
    Calls Try.prog 33 #[.agg (wdA a), .agg (wdA b)] w fun e w' => e = .returned (.tuple #[.agg (wdA (addU a b)), .int .i64 0]) ∧ Below w.heap.size w w' := by
  have := radd a b w
  rwa [show addE a b = 0 from cutE_lt h] at this
structure RoI (w wr : World) (g1 g2 : Nat) (l : List Ev) (k : Nat) (acc : Ce) : Prop where
  a : AllI w wr g1 g2 (l.map oneC) k acc
  z : k = 0 → acc = zeroCe
  s : ∀ p (hp : p < l.length), k = p + 1 → ¬ acc = zeroCe ∧ acc.l = l[p]
theorem rof_me0 {e : Ev} (he : EvOk e) : meE zeroCe (oneC e) = 0 ∧ meC zeroCe (oneC e) = oneC e := by
  have ho := oneC_ok.2 he
  refine ⟨meE_mk zeroOk ho (Or.inl rfl), ?_⟩
  unfold meC
  rw [if_pos ⟨zeroOk, ho⟩, if_pos rfl]
theorem rof_me {acc X : Ce} {p e : Ev} (ha : CeOk acc) (hz : ¬ acc = zeroCe) (hl : acc.l = p) (he : EvOk e) (ht : p.t < e.t) (hX : X = btC p e) :
    meE acc (oneC e) = 0 ∧ meC acc (oneC e) = ⟨acc.n + 1, acc.f, e, addU acc.i X.i, acc.r + X.r, acc.g + X.g, acc.s + X.s⟩ := by
  have ho := oneC_ok.2 he
  subst hl hX
  refine ⟨meE_mk ha ho (Or.inr (Or.inr ht)), ?_⟩
  unfold meC
  rw [if_pos ⟨ha, ho⟩, if_neg hz, if_neg (oneC_nz e), if_pos (show acc.l.t < (oneC e).f.t from ht)]
  unfold mgC
  show Ce.mk _ _ _ _ _ _ _ = _
  simp only [oneC, Int.add_zero, U.zero, Nat.add_zero]
  rfl
theorem rof_no {acc : Ce} {p e : Ev} (ha : CeOk acc) (hz : ¬ acc = zeroCe) (hl : acc.l = p) (he : EvOk e) (ht : ¬ p.t < e.t) : meE acc (oneC e) = 9 := by
  have ho := oneC_ok.2 he
  subst hl
  unfold meE
  rw [if_pos ⟨ha, ho⟩, if_neg]
  rintro (h | h | h)
  · exact hz h
  · exact oneC_nz e h
  · exact ht h
theorem RoI.next {w wr wx : World} {g1 g2 : Nat} {l : List Ev} {k : Nat} {acc C : Ce} (h : RoI w wr g1 g2 l k acc) (hk : k < l.length) (hE : meE acc (oneC l[k]) = 0) (hC : meC acc (oneC l[k]) = C) (hz : ¬ C = zeroCe) (hl : C.l = l[k])
    (hb : Below w.heap.size w wx) (b1 : Blk wx g1 28 (ceA zeroCe)) (b2 : Blk wx g2 28 (ceA C)) : RoI w wx g1 g2 l (k + 1) C := by
  have hm : k < (l.map oneC).length := by rw [List.length_map]; exact hk
  have em : (l.map oneC)[k] = oneC l[k] := List.getElem_map _
  obtain ⟨e1, e2⟩ := h.a.ok_c hm (by rw [em]; exact hE)
  rw [em, hC] at e1 e2
  refine ⟨⟨hb, b1, b2, by rw [← hC]; exact meC_ok _ _, e1, e2⟩, nofun, fun p hp hpk => ?_⟩
  obtain rfl : k = p := by omega
  exact ⟨hz, hl⟩
theorem RoI.no9 {w wr : World} {g1 g2 : Nat} {l : List Ev} {k : Nat} {acc : Ce} (h : RoI w wr g1 g2 l k acc) (hk : k < l.length) (hE : meE acc (oneC l[k]) = 9) : allC zeroCe (l.map oneC) = zeroCe ∧ allE zeroCe (l.map oneC) = 9 := by
  have hm : k < (l.map oneC).length := by rw [List.length_map]; exact hk
  have em : (l.map oneC)[k] = oneC l[k] := List.getElem_map _
  have hno := h.a.no hm (by rw [em, hE]; decide)
  rwa [em, hE] at hno
theorem bt_bdX {X : Ce} {p c : Ev} (hX : X = btC p c) (hp : EvOk p) (hc : EvOk c) (h : p.t < c.t) : 0 ≤ X.r ∧ X.r ≤ 1 ∧ 0 ≤ X.g ∧ X.g ≤ 1 ∧ 0 ≤ X.s ∧ X.s ≤ c.t - p.t ∧ X.i.n ≤ 18446744073709551615 := by
  subst hX
  exact bt_bd hp hc h
theorem n_nz {x : Ce} (h : ¬ x.n = 0) : ¬ x = zeroCe := fun e => h (by rw [e]; rfl)

set_option maxHeartbeats 4000000 in
set_option maxRecDepth 100000 in
/-- Of, of any events. -/
theorem rof_any (ao : Option Addr) (b off cap : Nat) (l : List Ev) (hm : l.length ≤ 9223372036854775807) (w : World) (h : EvsAt w ao b off l) :
    Calls Try.prog 24 #[.slice ao l.length cap] w fun e w' => e = .returned (.tuple #[.agg (ceA (ofC l)), .int .i64 (ofE l)]) ∧ Below w.heap.size w w' := by
  have HL := Lib.hid h
  clear h
  have HB := Lib.hid (Below.refl w.heap.size w)
  go_enter Try.func24, Try.ntmps24
  go_wp2_with (first
      | ((with_reducible refine at_slot 2 ?_); refine wl_alloc (A := (ceA zeroCe)) rfl rfl ce_zero rfl ?_; intro W1 g1 k1 hb hle; have L1 := Lib.hid (Nat.le_trans HB.out.size hle); replace HB := Lib.hid (below_tr HB.out hb); clear hb hle))
  have HI := Lib.hid (OfI.mk HB.out k1 (fun j hj h0 => by omega) : OfI w _ g1 l 0)
  clear k1 HB
  go_loopw [13] (fun i wr => ∃ k : Nat, k ≤ l.length ∧ i = .int .i64 k ∧ OfI w wr g1 l k) (fun i _ => l.length - (intOf i).toNat)
  case atStart => exact ⟨0, Nat.zero_le _, rfl, HI.out⟩
  case round =>
    obtain ⟨q, hk, rfl, hI⟩ := hrel
    clear HI
    have HB := Lib.hid hI.below
    have k1 := hI.b1
    have HI := Lib.hid hI
    clear hI
    by_cases hlt : q < l.length
    · obtain ⟨rfl, hbw⟩ := HL.out.at_ (by omega)
      have HLT := Lib.hid hlt
      by_cases hE : EvOk l[q]
      · have HEE := Lib.hid hE
        clear hE
        go_wp2_with (first
            | ((with_reducible refine at_slot 16 ?_); refine wl_ldr (B := (evA l[q])) rfl rfl rfl ((HL.out.keep HB.out).row q hlt) Try.underlying24 rfl evInfo ?_)
            | ((with_reducible refine at_slot 5 ?_); refine wl_alloc (A := (evA zeroEv)) rfl rfl ev_zero rfl ?_; intro W2 g2 k2 hb hle; have n1_2 := Lib.hid (Blk.ne_of_le k1 hle); have L2 := Lib.hid (Nat.le_trans HB.out.size hle); replace k1 := k1.keep hb; replace HB := Lib.hid (below_tr HB.out hb); clear hb hle)
            | ((with_reducible refine at_store 5 ?_); refine wl_st0 (A' := (evA l[q])) rfl rfl rfl rfl k2 rfl evInfo (evA_one l[q]) ?_; intro V1 kn hu; replace k1 := k1.upd hu n1_2.out; replace HB := Lib.hid (upd_below HB.out hu L2.out); clear k2; have k2 : Blk _ g2 _ (evA l[q]) := kn; clear kn hu)
            | ((with_reducible refine at_slot 17 ?_); refine wl_ld0 rfl rfl rfl k2 Try.underlying24 rfl evInfo ?_)
            | ((with_reducible refine at_slot 18 ?_); refine wl_call rfl rfl Try.func27 (by kernel_rfl) rfl (rev_yes HEE.out _) rfl ?_; intro V2 hb; replace k1 := k1.keep hb; replace k2 := k2.keep hb; replace HB := Lib.hid (below_tr HB.out hb); clear hb))
        go_roundw
        case rel => exact ⟨q + 1, hlt, by go_num, HI.out.next HLT.out HEE.out HB.out k1⟩
        case measure => simp [intOf]; omega
      · have HEE := Lib.hid hE
        clear hE
        go_wp2_with (first
            | ((with_reducible refine at_slot 16 ?_); refine wl_ldr (B := (evA l[q])) rfl rfl rfl ((HL.out.keep HB.out).row q hlt) Try.underlying24 rfl evInfo ?_)
            | ((with_reducible refine at_slot 5 ?_); refine wl_alloc (A := (evA zeroEv)) rfl rfl ev_zero rfl ?_; intro W2 g2 k2 hb hle; have n1_2 := Lib.hid (Blk.ne_of_le k1 hle); have L2 := Lib.hid (Nat.le_trans HB.out.size hle); replace k1 := k1.keep hb; replace HB := Lib.hid (below_tr HB.out hb); clear hb hle)
            | ((with_reducible refine at_store 5 ?_); refine wl_st0 (A' := (evA l[q])) rfl rfl rfl rfl k2 rfl evInfo (evA_one l[q]) ?_; intro V1 kn hu; replace k1 := k1.upd hu n1_2.out; replace HB := Lib.hid (upd_below HB.out hu L2.out); clear k2; have k2 : Blk _ g2 _ (evA l[q]) := kn; clear kn hu)
            | ((with_reducible refine at_slot 17 ?_); refine wl_ld0 rfl rfl rfl k2 Try.underlying24 rfl evInfo ?_)
            | ((with_reducible refine at_slot 18 ?_); refine wl_call rfl rfl Try.func27 (by kernel_rfl) rfl (rev_no (HL.out.fits q HLT.out) HEE.out _) rfl ?_; intro V2 hb; replace k1 := k1.keep hb; replace k2 := k2.keep hb; replace HB := Lib.hid (below_tr HB.out hb); clear hb)
            | ((with_reducible refine at_slot 20 ?_); refine wl_build (v := .agg (ceA zeroCe)) rfl rfl (build_ce0 _) rfl ?_)
            | ((with_reducible refine at_store 2 ?_); refine wl_st0 (A' := (ceA zeroCe)) rfl rfl rfl rfl k1 rfl ceInfo (ceA_one zeroCe) ?_; intro V3 kn hu; replace k2 := k2.upd hu (Ne.symm n1_2.out); replace HB := Lib.hid (upd_below HB.out hu L1.out); clear k1; have k1 : Blk _ g1 _ (ceA zeroCe) := kn; clear kn hu))
        refine bodyPost_ret (v := .tuple #[.agg (ceA zeroCe), .int .i64 2]) (results_ct Try.results24 _ rfl rfl k1 Try.underlying28 rfl ceInfo) rfl ?_
        exact ⟨be_eq (congrArg ceA (ofC_no q HLT.out HEE.out).1.symm) (ofC_no q HLT.out HEE.out).2.symm, HB.out⟩
    · have HOK : Hid (AllOk l) := Lib.hid (fun j hj => HI.out.ok j hj (by omega))
      clear HI
      go_wp2_with (first
          | ((with_reducible refine at_slot 6 ?_); refine wl_alloc (A := (ceA zeroCe)) rfl rfl ce_zero rfl ?_; intro W2 g2 k2 hb hle; have n1_2 := Lib.hid (Blk.ne_of_le k1 hle); have L2 := Lib.hid (Nat.le_trans HB.out.size hle); replace k1 := k1.keep hb; replace HB := Lib.hid (below_tr HB.out hb); clear hb hle))
      have HI : Hid (RoI w _ g1 g2 l 0 zeroCe) := Lib.hid ⟨AllI.mk HB.out k1 k2 zeroOk rfl rfl, fun _ => rfl, nofun⟩
      clear k1 k2 HB hlt hk
      go_loopw [24] (fun i wr => ∃ (k : Nat) (acc : Ce), k ≤ l.length ∧ i = .int .i64 k ∧ RoI w wr g1 g2 l k acc) (fun i _ => l.length - (intOf i).toNat)
      case atStart => exact ⟨0, zeroCe, Nat.zero_le _, rfl, HI.out⟩
      case round =>
        obtain ⟨k, acc, hk, rfl, hI⟩ := hrel
        clear HI
        have HB := Lib.hid hI.a.below
        have k1 := hI.a.b1
        have k2 := hI.a.b2
        have HI := Lib.hid hI
        clear hI
        by_cases hlt : k < l.length
        · obtain ⟨rfl, hbw⟩ := HL.out.at_ (by omega)
          have HLT := Lib.hid hlt
          have hltI : (k : Int) < l.length := by omega
          have i3 : IntKind.i64.wrap ((k : Int) + 1) = (k : Int) + 1 := by rw [IntKind.wrap_i64]; omega
          have HEK := Lib.hid (HOK.out k hlt)
          by_cases hk0 : k = 0
          · have hacc := HI.out.z hk0
            subst hacc
            have HK0 := Lib.hid hk0
            have d3 : decide (0 < k) = false := by simp; omega
            have d4 : decide ((0 : Int) < (k : Int)) = false := by simp; omega
            have d5 : ((k : Int) == 0) = true := by simp; omega
            clear hk0
            go_wp2_with (first
                | ((with_reducible refine at_slot 28 ?_); refine wl_ldr (B := (evA l[k])) rfl rfl rfl ((HL.out.keep HB.out).row k HLT.out) Try.underlying24 rfl evInfo ?_)
                | ((with_reducible refine at_slot 8 ?_); refine wl_alloc (A := (evA zeroEv)) rfl rfl ev_zero rfl ?_; intro W3 g3 k3 hb hle; have n1_3 := Lib.hid (Blk.ne_of_le k1 hle); have n2_3 := Lib.hid (Blk.ne_of_le k2 hle); have L3 := Lib.hid (Nat.le_trans HB.out.size hle); replace k1 := k1.keep hb; replace k2 := k2.keep hb; replace HB := Lib.hid (below_tr HB.out hb); clear hb hle)
                | ((with_reducible refine at_store 8 ?_); refine wl_st0 (A' := (evA l[k])) rfl rfl rfl rfl k3 rfl evInfo (evA_one l[k]) ?_; intro V1 kn hu; replace k1 := k1.upd hu n1_3.out; replace k2 := k2.upd hu n2_3.out; replace HB := Lib.hid (upd_below HB.out hu L3.out); clear k3; have k3 : Blk _ g3 _ (evA l[k]) := kn; clear kn hu))
            refine wp_region_held_drew (S := fun w' => Blk w' g1 28 (ceA zeroCe) ∧ Blk w' g2 28 (ceA ⟨0, zeroEv, zeroEv, U.zero, 0, 0, 0⟩) ∧ Blk w' g3 24 (evA l[k]) ∧ Below w.heap.size w w') (by kernel_rfl) ⟨k1.drew, k2.drew, k3.drew, HB.out.drew⟩ (fun hS => ?_)
            clear k1 k2 k3
            have hS2 := hS
            obtain ⟨k1, k2, k3, hB⟩ := hS2
            replace HB := Lib.hid hB
            clear hB
            refine wpAnyH_take (i := 0) (oi := ⟨some 29, _, _, _, _, _⟩) (v := .int .i64 (k : Int)) rfl (by kernel_rfl) (by kernel_rfl) (by kernel_rfl) (fun _ _ _ h => h) (yi_mv (Or.inl rfl) rfl rfl) hS ?_
            simp only [Act.put, List.setIfInBounds_toArray, List.set_cons_zero, List.set_cons_succ]
            refine wpAnyH_take (i := 1) (oi := ⟨some 30, _, _, _, _, _⟩) (v := .bool false) rfl (by kernel_rfl) (by kernel_rfl) (by kernel_rfl) (fun _ _ _ h => h) (yi_ok rfl (fun _ => by go_simp)) hS ?_
            simp only [Act.put, List.setIfInBounds_toArray, List.set_cons_zero, List.set_cons_succ]
            refine wpAnyH_take (i := 2) (oi := ⟨some 31, _, _, _, _, _⟩) (v := .bool false) rfl (by kernel_rfl) (by kernel_rfl) (by kernel_rfl) (fun _ _ _ h => h) (yi_mv (Or.inl rfl) rfl rfl) hS ?_
            simp only [Act.put, List.setIfInBounds_toArray, List.set_cons_zero, List.set_cons_succ]
            refine wpAnyH_take (i := 3) (oi := ⟨some 32, _, _, _, _, _⟩) (v := undef) rfl (by kernel_rfl) (by kernel_rfl) (by kernel_rfl) (fun _ _ _ h => h) (yi_no (by kernel_rfl)) hS ?_
            simp only [Act.put, List.setIfInBounds_toArray, List.set_cons_zero, List.set_cons_succ]
            refine wpAnyH_take (i := 4) (oi := ⟨some 33, _, _, _, _, _⟩) (v := undef) rfl (by kernel_rfl) (by kernel_rfl) (by kernel_rfl) (fun _ _ _ h => h) (yi_no (by kernel_rfl)) hS ?_
            simp only [Act.put, List.setIfInBounds_toArray, List.set_cons_zero, List.set_cons_succ]
            refine wpAnyH_take (i := 5) (oi := ⟨some 34, _, _, _, _, _⟩) (v := undef) rfl (by kernel_rfl) (by kernel_rfl) (by kernel_rfl) (fun _ _ _ h => h) (yi_no (by kernel_rfl)) hS ?_
            simp only [Act.put, List.setIfInBounds_toArray, List.set_cons_zero, List.set_cons_succ]
            refine wpAnyH_take (i := 6) (oi := ⟨some 35, _, _, _, _, _⟩) (v := undef) rfl (by kernel_rfl) (by kernel_rfl) (by kernel_rfl) (fun _ _ _ h => h) (yi_no (by kernel_rfl)) hS ?_
            simp only [Act.put, List.setIfInBounds_toArray, List.set_cons_zero, List.set_cons_succ]
            refine wpAnyH_take (i := 7) (oi := ⟨some 36, _, _, _, _, _⟩) (v := undef) rfl (by kernel_rfl) (by kernel_rfl) (by kernel_rfl) (fun _ _ _ h => h) (yi_no (by kernel_rfl)) hS ?_
            simp only [Act.put, List.setIfInBounds_toArray, List.set_cons_zero, List.set_cons_succ]
            refine wpAnyH_take (i := 8) (oi := ⟨some 37, _, _, _, _, _⟩) (v := undef) rfl (by kernel_rfl) (by kernel_rfl) (by kernel_rfl) (fun _ _ _ h => h) (yi_no (by kernel_rfl)) hS ?_
            simp only [Act.put, List.setIfInBounds_toArray, List.set_cons_zero, List.set_cons_succ]
            refine wpAnyH_take (i := 9) (oi := ⟨some 38, _, _, _, _, _⟩) (v := undef) rfl (by kernel_rfl) (by kernel_rfl) (by kernel_rfl) (fun _ _ _ h => h) (yi_no (by kernel_rfl)) hS ?_
            simp only [Act.put, List.setIfInBounds_toArray, List.set_cons_zero, List.set_cons_succ]
            refine wpAnyH_take (i := 10) (oi := ⟨some 39, _, _, _, _, _⟩) (v := undef) rfl (by kernel_rfl) (by kernel_rfl) (by kernel_rfl) (fun _ _ _ h => h) (yi_no (by kernel_rfl)) hS ?_
            simp only [Act.put, List.setIfInBounds_toArray, List.set_cons_zero, List.set_cons_succ]
            refine wpAnyH_take (i := 11) (oi := ⟨some 40, _, _, _, _, _⟩) (v := undef) rfl (by kernel_rfl) (by kernel_rfl) (by kernel_rfl) (fun _ _ _ h => h) (yi_no (by kernel_rfl)) hS ?_
            simp only [Act.put, List.setIfInBounds_toArray, List.set_cons_zero, List.set_cons_succ]
            refine wpAnyH_take (i := 12) (oi := ⟨some 41, _, _, _, _, _⟩) (v := .bool false) rfl (by kernel_rfl) (by kernel_rfl) (by kernel_rfl) (fun _ _ _ h => h) (yi_pick0 rfl rfl rfl rfl) hS ?_
            simp only [Act.put, List.setIfInBounds_toArray, List.set_cons_zero, List.set_cons_succ]
            refine wpAnyH_done (by kernel_rfl) ?_ _
            clear hS
            go_wp2_with (first
                | ((with_reducible refine at_slot 45 ?_); refine wl_ld0 rfl rfl rfl k3 Try.underlying24 rfl evInfo ?_)
                | ((with_reducible refine at_store 46 ?_); refine wl_stp (ceA ⟨0, l[k], zeroEv, U.zero, 0, 0, 0⟩) rfl rfl rfl rfl k2 evInfo (evA_one l[k]) rfl (by show 1 + 4 ≤ 14; omega) (ceA_pf ⟨0, l[k], zeroEv, U.zero, 0, 0, 0⟩) (ps_of ⟨0, zeroEv, zeroEv, U.zero, 0, 0, 0⟩ l[k]) ?_; intro V3 kn hu; replace k1 := k1.upd hu n1_2.out; replace k3 := k3.upd hu (Ne.symm n2_3.out); replace HB := Lib.hid (upd_below HB.out hu L2.out); clear k2; have k2 : Blk _ g2 _ (ceA ⟨0, l[k], zeroEv, U.zero, 0, 0, 0⟩) := kn; clear kn hu)
                | ((with_reducible refine at_slot 84 ?_); refine wl_ld0 rfl rfl rfl k3 Try.underlying24 rfl evInfo ?_)
                | ((with_reducible refine at_store 85 ?_); refine wl_stp (ceA ⟨0, l[k], l[k], U.zero, 0, 0, 0⟩) rfl rfl rfl rfl k2 evInfo (evA_one l[k]) rfl (by show 5 + 4 ≤ 14; omega) (ceA_pl ⟨0, l[k], l[k], U.zero, 0, 0, 0⟩) (ps_ol ⟨0, l[k], zeroEv, U.zero, 0, 0, 0⟩ l[k]) ?_; intro V4 kn hu; replace k1 := k1.upd hu n1_2.out; replace k3 := k3.upd hu (Ne.symm n2_3.out); replace HB := Lib.hid (upd_below HB.out hu L2.out); clear k2; have k2 : Blk _ g2 _ (ceA ⟨0, l[k], l[k], U.zero, 0, 0, 0⟩) := kn; clear kn hu)
                | ((with_reducible refine at_slot 87 ?_); refine wl_ld1 (v := .int .i64 0) rfl rfl rfl k2 Try.underlying2 rfl rfl ?_)
                | ((with_reducible refine at_store 89 ?_); refine wl_st1 (v := .int .i64 (0 + 1)) rfl rfl rfl rfl k2 (by kernel_rfl) rfl rfl (by show 0 < 14; omega) ?_; intro V5 kn hu; replace k1 := k1.upd hu n1_2.out; replace k3 := k3.upd hu (Ne.symm n2_3.out); replace HB := Lib.hid (upd_below HB.out hu L2.out); clear k2; have k2 : Blk _ g2 _ (ceA ⟨(0 + 1), l[k], l[k], U.zero, 0, 0, 0⟩) := kn; clear kn hu))
            go_roundw
            case rel =>
              have hm := rof_me0 HEK.out
              exact ⟨k + 1, oneC l[k], HLT.out, by go_num, HI.out.next HLT.out hm.1 hm.2 (oneC_nz _) rfl HB.out k1 k2⟩
            case measure => simp [intOf]; omega
          · obtain ⟨p, hp⟩ : ∃ p, k = p + 1 := ⟨k - 1, by omega⟩
            have hpl : p < l.length := by omega
            have HPL := Lib.hid hpl
            clear hpl
            obtain ⟨hz, hal⟩ := HI.out.s p HPL.out hp
            have HEP := Lib.hid (HOK.out p HPL.out)
            have i1 : IntKind.i64.wrap ((k : Int) - 1) = (p : Int) := by rw [IntKind.wrap_i64]; omega
            have i2 : (p : Int) < l.length := by omega
            have d3 : decide (0 < k) = true := by simp; omega
            have d4 : decide ((0 : Int) < (k : Int)) = true := by simp; omega
            have d5 : ((k : Int) == 0) = false := by simp; omega
            have HZ := Lib.hid hz
            have HAL := Lib.hid hal
            clear hk0 hp hz hal
            by_cases ht : l[p].t < l[k].t
            · have d6 : decide (l[k].t ≤ l[p].t) = false := by simp <;> omega
              have HT := Lib.hid ht
              obtain ⟨X, hX⟩ : ∃ X, X = btC l[p] l[k] := ⟨_, rfl⟩
              have HX := Lib.hid hX
              have hbd := bt_bdX hX HEP.out HEK.out ht
              obtain ⟨x1, x2, x3, x4, x5, x6, x7⟩ := hbd
              have RB : Hid (∀ w, Calls Try.prog 22 #[.agg (evA l[p]), .agg (evA l[k])] w fun e w' => e = .returned (.tuple #[.agg (ceA X), .int .i64 0]) ∧ Below w.heap.size w w') := Lib.hid (fun w => rof_be HEP.out.in HEK.out.in (beE_good HEP.out HEK.out ht) ((beC_good HEP.out HEK.out ht).trans hX.symm) w)
              have bd := HI.out.a.ok.bd
              have b1 := bd.n0; have b2 := bd.n1; have b3 := bd.r0; have b4 := bd.r1; have b5 := bd.g0; have b6 := bd.g1; have b7 := bd.s0; have b8 := bd.s1; have b9 := bd.i
              have y1 := HEK.out.t1; have y2 := HEP.out.t0
              have j1 : IntKind.i64.wrap (acc.r + X.r) = acc.r + X.r := by rw [IntKind.wrap_i64]; omega
              have j2 : IntKind.i64.wrap (acc.g + X.g) = acc.g + X.g := by rw [IntKind.wrap_i64]; omega
              have j3 : IntKind.i64.wrap (acc.s + X.s) = acc.s + X.s := by rw [IntKind.wrap_i64]; omega
              have j4 : IntKind.i64.wrap (acc.n + 1) = acc.n + 1 := by rw [IntKind.wrap_i64]; omega
              have HN : Hid (acc.i.n + X.i.n < 340282366920938463463374607431768211456) := Lib.hid (by omega)
              have HNZ : Hid (¬ acc.n + 1 = 0) := Lib.hid (by omega)
              clear ht hX bd x1 x2 x3 x4 x5 x6 x7 b1 b2 b3 b4 b5 b6 b7 b8 b9 y1 y2
              go_wp2_with (first
                  | ((with_reducible refine at_slot 28 ?_); refine wl_ldr (B := (evA l[k])) rfl rfl rfl ((HL.out.keep HB.out).row k HLT.out) Try.underlying24 rfl evInfo ?_)
                  | ((with_reducible refine at_slot 8 ?_); refine wl_alloc (A := (evA zeroEv)) rfl rfl ev_zero rfl ?_; intro W3 g3 k3 hb hle; have n1_3 := Lib.hid (Blk.ne_of_le k1 hle); have n2_3 := Lib.hid (Blk.ne_of_le k2 hle); have L3 := Lib.hid (Nat.le_trans HB.out.size hle); replace k1 := k1.keep hb; replace k2 := k2.keep hb; replace HB := Lib.hid (below_tr HB.out hb); clear hb hle)
                  | ((with_reducible refine at_store 8 ?_); refine wl_st0 (A' := (evA l[k])) rfl rfl rfl rfl k3 rfl evInfo (evA_one l[k]) ?_; intro V1 kn hu; replace k1 := k1.upd hu n1_3.out; replace k2 := k2.upd hu n2_3.out; replace HB := Lib.hid (upd_below HB.out hu L3.out); clear k3; have k3 : Blk _ g3 _ (evA l[k]) := kn; clear kn hu))
              refine wp_region_held_drew (S := fun w' => Blk w' g1 28 (ceA zeroCe) ∧ Blk w' g2 28 (ceA acc) ∧ Blk w' g3 24 (evA l[k]) ∧ Below w.heap.size w w') (by kernel_rfl) ⟨k1.drew, k2.drew, k3.drew, HB.out.drew⟩ (fun hS => ?_)
              clear k1 k2 k3
              have hS2 := hS
              obtain ⟨k1, k2, k3, hB⟩ := hS2
              replace HB := Lib.hid hB
              clear hB
              refine wpAnyH_take (i := 0) (oi := ⟨some 29, _, _, _, _, _⟩) (v := .int .i64 (k : Int)) rfl (by kernel_rfl) (by kernel_rfl) (by kernel_rfl) (fun _ _ _ h => h) (yi_mv (Or.inl rfl) rfl rfl) hS ?_
              simp only [Act.put, List.setIfInBounds_toArray, List.set_cons_zero, List.set_cons_succ]
              refine wpAnyH_take (i := 1) (oi := ⟨some 30, _, _, _, _, _⟩) (v := .bool true) rfl (by kernel_rfl) (by kernel_rfl) (by kernel_rfl) (fun _ _ _ h => h) (yi_ok rfl (fun _ => by go_simp)) hS ?_
              simp only [Act.put, List.setIfInBounds_toArray, List.set_cons_zero, List.set_cons_succ]
              refine wpAnyH_take (i := 2) (oi := ⟨some 31, _, _, _, _, _⟩) (v := .bool true) rfl (by kernel_rfl) (by kernel_rfl) (by kernel_rfl) (fun _ _ _ h => h) (yi_mv (Or.inl rfl) rfl rfl) hS ?_
              simp only [Act.put, List.setIfInBounds_toArray, List.set_cons_zero, List.set_cons_succ]
              refine wpAnyH_take (i := 3) (oi := ⟨some 32, _, _, _, _, _⟩) (v := .slice (some ⟨b, off, none⟩) l.length cap) rfl (by kernel_rfl) (by kernel_rfl) (by kernel_rfl) (fun _ _ _ h => h) (yi_mv (Or.inl rfl) (by kernel_rfl) rfl) hS ?_
              simp only [Act.put, List.setIfInBounds_toArray, List.set_cons_zero, List.set_cons_succ]
              refine wpAnyH_take (i := 4) (oi := ⟨some 33, _, _, _, _, _⟩) (v := .int .i64 (k : Int)) rfl (by kernel_rfl) (by kernel_rfl) (by kernel_rfl) (fun _ _ _ h => h) (yi_mv (Or.inl rfl) (by kernel_rfl) rfl) hS ?_
              simp only [Act.put, List.setIfInBounds_toArray, List.set_cons_zero, List.set_cons_succ]
              refine wpAnyH_take (i := 5) (oi := ⟨some 34, _, _, _, _, _⟩) (v := .int .i64 (p : Int)) rfl (by kernel_rfl) (by kernel_rfl) (by kernel_rfl) (fun _ _ _ h => h) (yi_ok (by kernel_rfl) (fun _ => by go_simp)) hS ?_
              simp only [Act.put, List.setIfInBounds_toArray, List.set_cons_zero, List.set_cons_succ]
              refine wpAnyH_take (i := 6) (oi := ⟨some 35, _, _, _, _, _⟩) (v := .pointer (some ⟨b, off + p * 4, none⟩)) rfl (by kernel_rfl) (by kernel_rfl) (by kernel_rfl) (fun _ _ _ h => h) (yi_ok (by kernel_rfl) (fun _ => by go_simp)) hS ?_
              simp only [Act.put, List.setIfInBounds_toArray, List.set_cons_zero, List.set_cons_succ]
              refine wpAnyH_take (i := 7) (oi := ⟨some 36, _, _, _, _, _⟩) (v := .pointer (some ⟨b, off + p * 4, none⟩)) rfl (by kernel_rfl) (by kernel_rfl) (by kernel_rfl) (fun _ _ _ h => h) (yi_ok (by kernel_rfl) (fun _ => by go_simp)) hS ?_
              simp only [Act.put, List.setIfInBounds_toArray, List.set_cons_zero, List.set_cons_succ]
              refine wpAnyH_take (i := 8) (oi := ⟨some 37, _, _, _, _, _⟩) (v := .int .i64 l[p].t) rfl (by kernel_rfl) (by kernel_rfl) (by kernel_rfl) (fun _ _ _ h => h) (yi_c rfl (by kernel_rfl) rfl (fun w' h => (ev_cells ((HL.out.keep h.2.2.2).row p HPL.out)).1) Try.underlying2 rfl) hS ?_
              simp only [Act.put, List.setIfInBounds_toArray, List.set_cons_zero, List.set_cons_succ]
              refine wpAnyH_take (i := 9) (oi := ⟨some 38, _, _, _, _, _⟩) (v := .pointer (some ⟨g3, 0, none⟩)) rfl (by kernel_rfl) (by kernel_rfl) (by kernel_rfl) (fun _ _ _ h => h) (yi_ok (by kernel_rfl) (fun _ => by go_simp)) hS ?_
              simp only [Act.put, List.setIfInBounds_toArray, List.set_cons_zero, List.set_cons_succ]
              refine wpAnyH_take (i := 10) (oi := ⟨some 39, _, _, _, _, _⟩) (v := .int .i64 l[k].t) rfl (by kernel_rfl) (by kernel_rfl) (by kernel_rfl) (fun _ _ _ h => h) (yi_ld1 (v := .int .i64 l[k].t) rfl (by kernel_rfl) rfl (fun w' h => h.2.2.1) Try.underlying2 rfl rfl) hS ?_
              simp only [Act.put, List.setIfInBounds_toArray, List.set_cons_zero, List.set_cons_succ]
              refine wpAnyH_take (i := 11) (oi := ⟨some 40, _, _, _, _, _⟩) (v := .bool false) rfl (by kernel_rfl) (by kernel_rfl) (by kernel_rfl) (fun _ _ _ h => h) (yi_ok (by kernel_rfl) (fun _ => by go_simp)) hS ?_
              simp only [Act.put, List.setIfInBounds_toArray, List.set_cons_zero, List.set_cons_succ]
              refine wpAnyH_take (i := 12) (oi := ⟨some 41, _, _, _, _, _⟩) (v := .bool false) rfl (by kernel_rfl) (by kernel_rfl) (by kernel_rfl) (fun _ _ _ h => h) (yi_pick1 rfl rfl rfl rfl) hS ?_
              simp only [Act.put, List.setIfInBounds_toArray, List.set_cons_zero, List.set_cons_succ]
              refine wpAnyH_done (by kernel_rfl) ?_ _
              clear hS
              go_wp2_with fail
              refine wp_region_fl (J := fun listed act W => ∃ (b0 b1 b2 b3 b4 b5 b6 b7 b8 b9 b10 b11 b12 : Bool) (x0 x1 x2 x3 x4 x5 x6 x7 x8 x9 x10 x12 : Value) (g : Nat), listed = #[b0, b1, b2, b3, b4, b5, b6, b7, b8, b9, b10, b11, b12] ∧ act = { tmps := #[.slice (some { block := b, off := off }) l.length cap, undef, .pointer (some ⟨g1, 0, none⟩), u3, undef, u5, .pointer (some ⟨g2, 0, none⟩), .int .i64 ↑k, .pointer (some ⟨g3, 0, none⟩), x10, x12, .slice (some { block := b, off := off }) l.length cap, .int .i64 ↑l.length, .int .i64 ↑q, .bool false, u15, u16, u17, u18, u19, u20, u21, .slice (some { block := b, off := off }) l.length cap, .int .i64 ↑l.length, .int .i64 ↑k, .bool true, .int .i64 ↑k, Value.pointer (some { block := b, off := off + k * 4 }), .agg (evA l[k]), .int .i64 ↑k, .bool true, .bool true, .slice (some { block := b, off := off }) l.length cap, .int .i64 ↑k, .int .i64 ↑p, Value.pointer (some { block := b, off := off + p * 4 }), Value.pointer (some { block := b, off := off + p * 4 }), .int .i64 l[p].t, .pointer (some ⟨g3, 0, none⟩), .int .i64 l[k].t, .bool false, .bool false, u42, .int .i64 ↑k, .bool false, u45, u46, x7, x0, x1, x2, x3, x4, x5, x6, x8, x9, u57, u58, u59, u60, u61, u62, u63, u64, u65, u66, u67, u68, u69, u70, u71, u72, u73, u74, u75, u76, u77, u78, u79, u80, u81, u82, u83, u84, u85, u86, u87, u88, u89, u90, undef], defers := [] } ∧ FJ (V1.drew.heap.size) V1.drew W 28 (ceA zeroCe) (ceA X) b10 b11 x10 g ∧ True ∧ ((b0 = true → x0 = .slice (some ⟨b, off, none⟩) l.length cap) ∧ (b1 = true → x1 = .int .i64 (k : Int)) ∧ (b2 = true → x2 = .int .i64 (p : Int)) ∧ (b3 = true → x3 = .pointer (some ⟨b, off + p * 4, none⟩)) ∧ (b4 = true → x4 = .agg (evA l[p])) ∧ (b5 = true → x5 = .agg (evA l[k])) ∧ (b6 = true → x6 = .tuple #[.agg (ceA X), .int .i64 0]) ∧ (b7 = true → x7 = .tuple #[.agg (ceA X), .int .i64 0]) ∧ (b8 = true → x8 = .agg (ceA X)) ∧ (b9 = true → x9 = .int .i64 0) ∧ (b12 = true → x12 = .int .i64 0) ∧ True)) (by kernel_rfl) ⟨false, false, false, false, false, false, false, false, false, false, false, false, false, u48, u49, u50, u51, u52, u53, u54, u47, u55, u56, u9, u10, V1.drew.heap.size, rfl, rfl, FJ.start V1.drew 28 (ceA zeroCe) (ceA X), trivial, nofun, nofun, nofun, nofun, nofun, nofun, nofun, nofun, nofun, nofun, nofun, trivial⟩ ?_ ?_
              · intro listed act W i hJ hi
                obtain ⟨b0, b1, b2, b3, b4, b5, b6, b7, b8, b9, b10, b11, b12, x0, x1, x2, x3, x4, x5, x6, x7, x8, x9, x10, x12, g, rfl, rfl, hJ, hA, hE⟩ := hJ
                have HJ := Lib.hid hJ
                have HA := Lib.hid hA
                have HE := Lib.hid hE
                obtain ⟨hi1, hi2, hi3⟩ := fl_spec hi
                clear hJ hA hE hi
                have hi4 : i < 13 := hi1
                clear hi1
                have hcase : i = 0 ∨ i = 1 ∨ i = 2 ∨ i = 3 ∨ i = 4 ∨ i = 5 ∨ i = 6 ∨ i = 7 ∨ i = 8 ∨ i = 9 ∨ i = 10 ∨ i = 11 ∨ i = 12 := by omega
                clear hi4
                rcases hcase with rfl | rfl | rfl | rfl | rfl | rfl | rfl | rfl | rfl | rfl | rfl | rfl | rfl
                · refine wpOp_step (o := _) rfl (fun K hK => ?_)
                  have HK := Lib.hid hK
                  clear hK
                  clear hi3 hi2
                  go_simp
                  exact HK.out _ _ ⟨_, _, _, _, _, _, _, _, _, _, _, _, _, _, _, _, _, _, _, _, _, _, _, _, _, _, rfl, rfl, HJ.out, trivial, fun _ => rfl, HE.out.2.1, HE.out.2.2.1, HE.out.2.2.2.1, HE.out.2.2.2.2.1, HE.out.2.2.2.2.2.1, HE.out.2.2.2.2.2.2.1, HE.out.2.2.2.2.2.2.2.1, HE.out.2.2.2.2.2.2.2.2.1, HE.out.2.2.2.2.2.2.2.2.2.1, HE.out.2.2.2.2.2.2.2.2.2.2.1, trivial⟩
                · refine wpOp_step (o := _) rfl (fun K hK => ?_)
                  have HK := Lib.hid hK
                  clear hK
                  clear hi3 hi2
                  go_simp
                  exact HK.out _ _ ⟨_, _, _, _, _, _, _, _, _, _, _, _, _, _, _, _, _, _, _, _, _, _, _, _, _, _, rfl, rfl, HJ.out, trivial, HE.out.1, fun _ => rfl, HE.out.2.2.1, HE.out.2.2.2.1, HE.out.2.2.2.2.1, HE.out.2.2.2.2.2.1, HE.out.2.2.2.2.2.2.1, HE.out.2.2.2.2.2.2.2.1, HE.out.2.2.2.2.2.2.2.2.1, HE.out.2.2.2.2.2.2.2.2.2.1, HE.out.2.2.2.2.2.2.2.2.2.2.1, trivial⟩
                · refine wpOp_step (o := _) rfl (fun K hK => ?_)
                  have HK := Lib.hid hK
                  clear hK
                  have hd := hi3 _ rfl
                  simp [Region.binds] at hd
                  have q1 : b1 = true := by (cases b1 with | true => rfl | false => simp at hd)
                  clear hi3 hi2 hd
                  obtain rfl := HE.out.2.1 q1
                  clear q1
                  go_simp
                  exact HK.out _ _ ⟨_, _, _, _, _, _, _, _, _, _, _, _, _, _, _, _, _, _, _, _, _, _, _, _, _, _, rfl, rfl, HJ.out, trivial, HE.out.1, HE.out.2.1, fun _ => rfl, HE.out.2.2.2.1, HE.out.2.2.2.2.1, HE.out.2.2.2.2.2.1, HE.out.2.2.2.2.2.2.1, HE.out.2.2.2.2.2.2.2.1, HE.out.2.2.2.2.2.2.2.2.1, HE.out.2.2.2.2.2.2.2.2.2.1, HE.out.2.2.2.2.2.2.2.2.2.2.1, trivial⟩
                · refine wpOp_step (o := _) rfl (fun K hK => ?_)
                  have HK := Lib.hid hK
                  clear hK
                  have hd := hi3 _ rfl
                  simp [Region.binds] at hd
                  have q0 : b0 = true := by (cases b0 with | true => rfl | false => simp at hd)
                  have q2 : b2 = true := by (cases b2 with | true => rfl | false => simp at hd)
                  clear hi3 hi2 hd
                  obtain rfl := HE.out.1 q0
                  obtain rfl := HE.out.2.2.1 q2
                  clear q0 q2
                  go_simp
                  exact HK.out _ _ ⟨_, _, _, _, _, _, _, _, _, _, _, _, _, _, _, _, _, _, _, _, _, _, _, _, _, _, rfl, rfl, HJ.out, trivial, HE.out.1, HE.out.2.1, HE.out.2.2.1, fun _ => rfl, HE.out.2.2.2.2.1, HE.out.2.2.2.2.2.1, HE.out.2.2.2.2.2.2.1, HE.out.2.2.2.2.2.2.2.1, HE.out.2.2.2.2.2.2.2.2.1, HE.out.2.2.2.2.2.2.2.2.2.1, HE.out.2.2.2.2.2.2.2.2.2.2.1, trivial⟩
                · refine wpOp_step (o := _) rfl (fun K hK => ?_)
                  have HK := Lib.hid hK
                  clear hK
                  have hd := hi3 _ rfl
                  simp [Region.binds] at hd
                  have q3 : b3 = true := by (cases b3 with | true => rfl | false => simp at hd)
                  clear hi3 hi2 hd
                  obtain rfl := HE.out.2.2.2.1 q3
                  clear q3
                  have hbW := HB.out.trans (HJ.out.upd.below HB.out.size (Nat.le_trans HB.out.size HJ.out.low))
                  refine wq_ldr (B := evA l[p]) rfl rfl rfl ((HL.out.keep hbW).row p HPL.out) Try.underlying24 rfl evInfo ?_
                  exact HK.out _ _ ⟨_, _, _, _, _, _, _, _, _, _, _, _, _, _, _, _, _, _, _, _, _, _, _, _, _, _, rfl, rfl, HJ.out, trivial, HE.out.1, HE.out.2.1, HE.out.2.2.1, HE.out.2.2.2.1, fun _ => rfl, HE.out.2.2.2.2.2.1, HE.out.2.2.2.2.2.2.1, HE.out.2.2.2.2.2.2.2.1, HE.out.2.2.2.2.2.2.2.2.1, HE.out.2.2.2.2.2.2.2.2.2.1, HE.out.2.2.2.2.2.2.2.2.2.2.1, trivial⟩
                · refine wpOp_step (o := _) rfl (fun K hK => ?_)
                  have HK := Lib.hid hK
                  clear hK
                  clear hi3 hi2
                  refine wq_ldr (B := evA l[k]) rfl rfl rfl ((k3.upd HJ.out.upd (Blk.ne_of_le k3 HJ.out.low)).part 0 (evA l[k]) (fun j _ => by rw [Nat.zero_add])) Try.underlying24 rfl evInfo ?_
                  exact HK.out _ _ ⟨_, _, _, _, _, _, _, _, _, _, _, _, _, _, _, _, _, _, _, _, _, _, _, _, _, _, rfl, rfl, HJ.out, trivial, HE.out.1, HE.out.2.1, HE.out.2.2.1, HE.out.2.2.2.1, HE.out.2.2.2.2.1, fun _ => rfl, HE.out.2.2.2.2.2.2.1, HE.out.2.2.2.2.2.2.2.1, HE.out.2.2.2.2.2.2.2.2.1, HE.out.2.2.2.2.2.2.2.2.2.1, HE.out.2.2.2.2.2.2.2.2.2.2.1, trivial⟩
                · refine wpOp_step (o := _) rfl (fun K hK => ?_)
                  have HK := Lib.hid hK
                  clear hK
                  have hd := hi3 _ rfl
                  simp [Region.binds] at hd
                  have q4 : b4 = true := by (cases b4 with | true => rfl | false => simp at hd)
                  have q5 : b5 = true := by (cases b5 with | true => rfl | false => simp at hd)
                  clear hi3 hi2 hd
                  obtain rfl := HE.out.2.2.2.2.1 q4
                  obtain rfl := HE.out.2.2.2.2.2.1 q5
                  clear q4 q5
                  go_simp
                  go_at_call 22
                  refine (RB.out _).mono ?_
                  rintro e w1 ⟨rfl, hb⟩
                  exact HK.out _ _ ⟨_, _, _, _, _, _, _, _, _, _, _, _, _, _, _, _, _, _, _, _, _, _, _, _, _, _, rfl, rfl, HJ.out.grow hb, trivial, HE.out.1, HE.out.2.1, HE.out.2.2.1, HE.out.2.2.2.1, HE.out.2.2.2.2.1, HE.out.2.2.2.2.2.1, fun _ => rfl, HE.out.2.2.2.2.2.2.2.1, HE.out.2.2.2.2.2.2.2.2.1, HE.out.2.2.2.2.2.2.2.2.2.1, HE.out.2.2.2.2.2.2.2.2.2.2.1, trivial⟩
                · refine wpOp_step (o := _) rfl (fun K hK => ?_)
                  have HK := Lib.hid hK
                  clear hK
                  have hd := hi3 _ rfl
                  simp [Region.binds] at hd
                  have q6 : b6 = true := by (cases b6 with | true => rfl | false => simp at hd)
                  clear hi3 hi2 hd
                  obtain rfl := HE.out.2.2.2.2.2.2.1 q6
                  clear q6
                  go_simp
                  exact HK.out _ _ ⟨_, _, _, _, _, _, _, _, _, _, _, _, _, _, _, _, _, _, _, _, _, _, _, _, _, _, rfl, rfl, HJ.out, trivial, HE.out.1, HE.out.2.1, HE.out.2.2.1, HE.out.2.2.2.1, HE.out.2.2.2.2.1, HE.out.2.2.2.2.2.1, HE.out.2.2.2.2.2.2.1, fun _ => rfl, HE.out.2.2.2.2.2.2.2.2.1, HE.out.2.2.2.2.2.2.2.2.2.1, HE.out.2.2.2.2.2.2.2.2.2.2.1, trivial⟩
                · refine wpOp_step (o := _) rfl (fun K hK => ?_)
                  have HK := Lib.hid hK
                  clear hK
                  have hd := hi3 _ rfl
                  simp [Region.binds] at hd
                  have q7 : b7 = true := by (cases b7 with | true => rfl | false => simp at hd)
                  clear hi3 hi2 hd
                  obtain rfl := HE.out.2.2.2.2.2.2.2.1 q7
                  clear q7
                  go_simp
                  exact HK.out _ _ ⟨_, _, _, _, _, _, _, _, _, _, _, _, _, _, _, _, _, _, _, _, _, _, _, _, _, _, rfl, rfl, HJ.out, trivial, HE.out.1, HE.out.2.1, HE.out.2.2.1, HE.out.2.2.2.1, HE.out.2.2.2.2.1, HE.out.2.2.2.2.2.1, HE.out.2.2.2.2.2.2.1, HE.out.2.2.2.2.2.2.2.1, fun _ => rfl, HE.out.2.2.2.2.2.2.2.2.2.1, HE.out.2.2.2.2.2.2.2.2.2.2.1, trivial⟩
                · refine wpOp_step (o := _) rfl (fun K hK => ?_)
                  have HK := Lib.hid hK
                  clear hK
                  have hd := hi3 _ rfl
                  simp [Region.binds] at hd
                  have q7 : b7 = true := by (cases b7 with | true => rfl | false => simp at hd)
                  clear hi3 hi2 hd
                  obtain rfl := HE.out.2.2.2.2.2.2.2.1 q7
                  clear q7
                  go_simp
                  exact HK.out _ _ ⟨_, _, _, _, _, _, _, _, _, _, _, _, _, _, _, _, _, _, _, _, _, _, _, _, _, _, rfl, rfl, HJ.out, trivial, HE.out.1, HE.out.2.1, HE.out.2.2.1, HE.out.2.2.2.1, HE.out.2.2.2.2.1, HE.out.2.2.2.2.2.1, HE.out.2.2.2.2.2.2.1, HE.out.2.2.2.2.2.2.2.1, HE.out.2.2.2.2.2.2.2.2.1, fun _ => rfl, HE.out.2.2.2.2.2.2.2.2.2.2.1, trivial⟩
                · refine wpOp_step (o := _) rfl (fun K hK => ?_)
                  have HK := Lib.hid hK
                  clear hK
                  clear hi3
                  obtain rfl : b10 = false := hi2
                  go_simp
                  exact HK.out _ _ ⟨_, _, _, _, _, _, _, _, _, _, _, _, _, _, _, _, _, _, _, _, _, _, _, _, _, _, rfl, rfl, HJ.out.alloc, trivial, HE.out.1, HE.out.2.1, HE.out.2.2.1, HE.out.2.2.2.1, HE.out.2.2.2.2.1, HE.out.2.2.2.2.2.1, HE.out.2.2.2.2.2.2.1, HE.out.2.2.2.2.2.2.2.1, HE.out.2.2.2.2.2.2.2.2.1, HE.out.2.2.2.2.2.2.2.2.2.1, HE.out.2.2.2.2.2.2.2.2.2.2.1, trivial⟩
                · refine wpOp_step (o := _) rfl (fun K hK => ?_)
                  have HK := Lib.hid hK
                  clear hK
                  have hd := hi3 _ rfl
                  simp [Region.binds] at hd
                  have q10 : b10 = true := by (cases b10 with | true => rfl | false => simp at hd)
                  have q8 : b8 = true := by (cases b8 with | true => rfl | false => simp at hd)
                  clear hi3 hi2 hd
                  obtain rfl := HE.out.2.2.2.2.2.2.2.2.1 q8
                  subst q10
                  clear q8
                  obtain ⟨hp, _⟩ := HJ.out.var rfl
                  subst hp
                  rw [if_pos (by rfl)]
                  refine wp_store_mid 28 _ _ rfl g 0 (ceA X) rfl rfl (HJ.out.there (by rfl)) ceInfo (ceA_one X) ?_
                  exact HK.out _ _ ⟨_, _, _, _, _, _, _, _, _, _, _, _, _, _, _, _, _, _, _, _, _, _, _, _, _, _, rfl, rfl, HJ.out.store (by rfl), trivial, HE.out.1, HE.out.2.1, HE.out.2.2.1, HE.out.2.2.2.1, HE.out.2.2.2.2.1, HE.out.2.2.2.2.2.1, HE.out.2.2.2.2.2.2.1, HE.out.2.2.2.2.2.2.2.1, HE.out.2.2.2.2.2.2.2.2.1, HE.out.2.2.2.2.2.2.2.2.2.1, HE.out.2.2.2.2.2.2.2.2.2.2.1, trivial⟩
                · refine wpOp_step (o := _) rfl (fun K hK => ?_)
                  have HK := Lib.hid hK
                  clear hK
                  have hd := hi3 _ rfl
                  simp [Region.binds] at hd
                  have q9 : b9 = true := by (cases b9 with | true => rfl | false => simp at hd)
                  clear hi3 hi2 hd
                  obtain rfl := HE.out.2.2.2.2.2.2.2.2.2.1 q9
                  clear q9
                  go_simp
                  exact HK.out _ _ ⟨_, _, _, _, _, _, _, _, _, _, _, _, _, _, _, _, _, _, _, _, _, _, _, _, _, _, rfl, rfl, HJ.out, trivial, HE.out.1, HE.out.2.1, HE.out.2.2.1, HE.out.2.2.2.1, HE.out.2.2.2.2.1, HE.out.2.2.2.2.2.1, HE.out.2.2.2.2.2.2.1, HE.out.2.2.2.2.2.2.2.1, HE.out.2.2.2.2.2.2.2.2.1, HE.out.2.2.2.2.2.2.2.2.2.1, fun _ => rfl, trivial⟩
              intro listed act W hJ hr
              obtain ⟨b0, b1, b2, b3, b4, b5, b6, b7, b8, b9, b10, b11, b12, x0, x1, x2, x3, x4, x5, x6, x7, x8, x9, x10, x12, g, rfl, rfl, hJ, hA, hE⟩ := hJ
              have HJ := Lib.hid hJ
              have HA := Lib.hid hA
              have HE := Lib.hid hE
              clear hJ hA hE
              have q0 : b0 = true := by
                cases b0 with
                | true => rfl
                | false =>
                  have hm : 0 ∈ ([] : List Nat) := by rw [← hr]; exact fl_in (o := _) rfl rfl (by simp [Region.binds])
                  cases hm
              subst q0
              have q1 : b1 = true := by
                cases b1 with
                | true => rfl
                | false =>
                  have hm : 1 ∈ ([] : List Nat) := by rw [← hr]; exact fl_in (o := _) rfl rfl (by simp [Region.binds])
                  cases hm
              subst q1
              have q2 : b2 = true := by
                cases b2 with
                | true => rfl
                | false =>
                  have hm : 2 ∈ ([] : List Nat) := by rw [← hr]; exact fl_in (o := _) rfl rfl (by simp [Region.binds])
                  cases hm
              subst q2
              have q3 : b3 = true := by
                cases b3 with
                | true => rfl
                | false =>
                  have hm : 3 ∈ ([] : List Nat) := by rw [← hr]; exact fl_in (o := _) rfl rfl (by simp [Region.binds])
                  cases hm
              subst q3
              have q4 : b4 = true := by
                cases b4 with
                | true => rfl
                | false =>
                  have hm : 4 ∈ ([] : List Nat) := by rw [← hr]; exact fl_in (o := _) rfl rfl (by simp [Region.binds])
                  cases hm
              subst q4
              have q5 : b5 = true := by
                cases b5 with
                | true => rfl
                | false =>
                  have hm : 5 ∈ ([] : List Nat) := by rw [← hr]; exact fl_in (o := _) rfl rfl (by simp [Region.binds])
                  cases hm
              subst q5
              have q6 : b6 = true := by
                cases b6 with
                | true => rfl
                | false =>
                  have hm : 6 ∈ ([] : List Nat) := by rw [← hr]; exact fl_in (o := _) rfl rfl (by simp [Region.binds])
                  cases hm
              subst q6
              have q7 : b7 = true := by
                cases b7 with
                | true => rfl
                | false =>
                  have hm : 7 ∈ ([] : List Nat) := by rw [← hr]; exact fl_in (o := _) rfl rfl (by simp [Region.binds])
                  cases hm
              subst q7
              have q8 : b8 = true := by
                cases b8 with
                | true => rfl
                | false =>
                  have hm : 8 ∈ ([] : List Nat) := by rw [← hr]; exact fl_in (o := _) rfl rfl (by simp [Region.binds])
                  cases hm
              subst q8
              have q9 : b9 = true := by
                cases b9 with
                | true => rfl
                | false =>
                  have hm : 9 ∈ ([] : List Nat) := by rw [← hr]; exact fl_in (o := _) rfl rfl (by simp [Region.binds])
                  cases hm
              subst q9
              have q10 : b10 = true := by
                cases b10 with
                | true => rfl
                | false =>
                  have hm : 10 ∈ ([] : List Nat) := by rw [← hr]; exact fl_in (o := _) rfl rfl (by simp [Region.binds])
                  cases hm
              subst q10
              have q11 : b11 = true := by
                cases b11 with
                | true => rfl
                | false =>
                  have hm : 11 ∈ ([] : List Nat) := by rw [← hr]; exact fl_in (o := _) rfl rfl (by simp [Region.binds])
                  cases hm
              subst q11
              have q12 : b12 = true := by
                cases b12 with
                | true => rfl
                | false =>
                  have hm : 12 ∈ ([] : List Nat) := by rw [← hr]; exact fl_in (o := _) rfl rfl (by simp [Region.binds])
                  cases hm
              subst q12
              clear hr
              obtain rfl := HE.out.1 rfl
              obtain rfl := HE.out.2.1 rfl
              obtain rfl := HE.out.2.2.1 rfl
              obtain rfl := HE.out.2.2.2.1 rfl
              obtain rfl := HE.out.2.2.2.2.1 rfl
              obtain rfl := HE.out.2.2.2.2.2.1 rfl
              obtain rfl := HE.out.2.2.2.2.2.2.1 rfl
              obtain rfl := HE.out.2.2.2.2.2.2.2.1 rfl
              obtain rfl := HE.out.2.2.2.2.2.2.2.2.1 rfl
              obtain rfl := HE.out.2.2.2.2.2.2.2.2.2.1 rfl
              obtain rfl := HE.out.2.2.2.2.2.2.2.2.2.2.1 rfl
              obtain ⟨hp, hvar⟩ := HJ.out.var rfl
              subst hp
              have hvar : W.heap[g]? = some (.cells (ceA X) 28 (0, 0)) := hvar
              have HVAR := Lib.hid hvar
              clear hvar
              have HUPD := Lib.hid HJ.out.upd
              have HLOW := Lib.hid HJ.out.low
              clear HJ HA HE
              have hlow := HLOW.out
              have n1_4 := Lib.hid (Blk.ne_of_le k1 hlow)
              have n2_4 := Lib.hid (Blk.ne_of_le k2 hlow)
              have n3_4 := Lib.hid (Blk.ne_of_le k3 hlow)
              have L4 := Lib.hid (Nat.le_trans HB.out.size hlow)
              have k4 : Blk W g 28 (ceA X) := HVAR.out
              replace k1 := k1.upd HUPD.out n1_4.out
              replace k2 := k2.upd HUPD.out n2_4.out
              replace k3 := k3.upd HUPD.out n3_4.out
              replace HB := Lib.hid (HB.out.trans (HUPD.out.below HB.out.size L4.out))
              clear HVAR HUPD HLOW hlow
              go_wp2_with (first
                  | ((with_reducible refine at_slot 59 ?_); refine wl_ld (wdA acc.i) rfl rfl rfl k2 Try.underlying26 rfl wdInfo (ceA_pi acc) ?_)
                  | ((with_reducible refine at_slot 61 ?_); refine wl_ld (wdA X.i) rfl rfl rfl k4 Try.underlying26 rfl wdInfo (ceA_pi X) ?_)
                  | ((with_reducible refine at_slot 62 ?_); refine wl_call rfl rfl Try.func33 (by kernel_rfl) rfl (rof_add HN.out _) rfl ?_; intro V3 hb; replace k1 := k1.keep hb; replace k2 := k2.keep hb; replace k3 := k3.keep hb; replace k4 := k4.keep hb; replace HB := Lib.hid (below_tr HB.out hb); clear hb)
                  | ((with_reducible refine at_store 65 ?_); refine wl_stp (ceA ⟨acc.n, acc.f, acc.l, (addU acc.i X.i), acc.r, acc.g, acc.s⟩) rfl rfl rfl rfl k2 wdInfo (wdA_one (addU acc.i X.i)) rfl (by show 9 + 2 ≤ 14; omega) (ceA_pi ⟨acc.n, acc.f, acc.l, (addU acc.i X.i), acc.r, acc.g, acc.s⟩) (ps_oi acc (addU acc.i X.i)) ?_; intro V4 kn hu; replace k1 := k1.upd hu n1_2.out; replace k3 := k3.upd hu (Ne.symm n2_3.out); replace k4 := k4.upd hu (Ne.symm n2_4.out); replace HB := Lib.hid (upd_below HB.out hu L2.out); clear k2; have k2 : Blk _ g2 _ (ceA ⟨acc.n, acc.f, acc.l, (addU acc.i X.i), acc.r, acc.g, acc.s⟩) := kn; clear kn hu)
                  | ((with_reducible refine at_slot 67 ?_); refine wl_ld1 (v := .int .i64 acc.r) rfl rfl rfl k2 Try.underlying2 rfl rfl ?_)
                  | ((with_reducible refine at_slot 69 ?_); refine wl_ld1 (v := .int .i64 X.r) rfl rfl rfl k4 Try.underlying2 rfl rfl ?_)
                  | ((with_reducible refine at_store 71 ?_); refine wl_st1 (v := .int .i64 (acc.r + X.r)) rfl rfl rfl rfl k2 (by kernel_rfl) rfl rfl (by show 11 < 14; omega) ?_; intro V5 kn hu; replace k1 := k1.upd hu n1_2.out; replace k3 := k3.upd hu (Ne.symm n2_3.out); replace k4 := k4.upd hu (Ne.symm n2_4.out); replace HB := Lib.hid (upd_below HB.out hu L2.out); clear k2; have k2 : Blk _ g2 _ (ceA ⟨acc.n, acc.f, acc.l, (addU acc.i X.i), (acc.r + X.r), acc.g, acc.s⟩) := kn; clear kn hu)
                  | ((with_reducible refine at_slot 73 ?_); refine wl_ld1 (v := .int .i64 acc.g) rfl rfl rfl k2 Try.underlying2 rfl rfl ?_)
                  | ((with_reducible refine at_slot 75 ?_); refine wl_ld1 (v := .int .i64 X.g) rfl rfl rfl k4 Try.underlying2 rfl rfl ?_)
                  | ((with_reducible refine at_store 77 ?_); refine wl_st1 (v := .int .i64 (acc.g + X.g)) rfl rfl rfl rfl k2 (by kernel_rfl) rfl rfl (by show 12 < 14; omega) ?_; intro V6 kn hu; replace k1 := k1.upd hu n1_2.out; replace k3 := k3.upd hu (Ne.symm n2_3.out); replace k4 := k4.upd hu (Ne.symm n2_4.out); replace HB := Lib.hid (upd_below HB.out hu L2.out); clear k2; have k2 : Blk _ g2 _ (ceA ⟨acc.n, acc.f, acc.l, (addU acc.i X.i), (acc.r + X.r), (acc.g + X.g), acc.s⟩) := kn; clear kn hu)
                  | ((with_reducible refine at_slot 79 ?_); refine wl_ld1 (v := .int .i64 acc.s) rfl rfl rfl k2 Try.underlying2 rfl rfl ?_)
                  | ((with_reducible refine at_slot 81 ?_); refine wl_ld1 (v := .int .i64 X.s) rfl rfl rfl k4 Try.underlying2 rfl rfl ?_)
                  | ((with_reducible refine at_store 83 ?_); refine wl_st1 (v := .int .i64 (acc.s + X.s)) rfl rfl rfl rfl k2 (by kernel_rfl) rfl rfl (by show 13 < 14; omega) ?_; intro V7 kn hu; replace k1 := k1.upd hu n1_2.out; replace k3 := k3.upd hu (Ne.symm n2_3.out); replace k4 := k4.upd hu (Ne.symm n2_4.out); replace HB := Lib.hid (upd_below HB.out hu L2.out); clear k2; have k2 : Blk _ g2 _ (ceA ⟨acc.n, acc.f, acc.l, (addU acc.i X.i), (acc.r + X.r), (acc.g + X.g), (acc.s + X.s)⟩) := kn; clear kn hu)
                  | ((with_reducible refine at_slot 84 ?_); refine wl_ld0 rfl rfl rfl k3 Try.underlying24 rfl evInfo ?_)
                  | ((with_reducible refine at_store 85 ?_); refine wl_stp (ceA ⟨acc.n, acc.f, l[k], (addU acc.i X.i), (acc.r + X.r), (acc.g + X.g), (acc.s + X.s)⟩) rfl rfl rfl rfl k2 evInfo (evA_one l[k]) rfl (by show 5 + 4 ≤ 14; omega) (ceA_pl ⟨acc.n, acc.f, l[k], (addU acc.i X.i), (acc.r + X.r), (acc.g + X.g), (acc.s + X.s)⟩) (ps_ol ⟨acc.n, acc.f, acc.l, (addU acc.i X.i), (acc.r + X.r), (acc.g + X.g), (acc.s + X.s)⟩ l[k]) ?_; intro V8 kn hu; replace k1 := k1.upd hu n1_2.out; replace k3 := k3.upd hu (Ne.symm n2_3.out); replace k4 := k4.upd hu (Ne.symm n2_4.out); replace HB := Lib.hid (upd_below HB.out hu L2.out); clear k2; have k2 : Blk _ g2 _ (ceA ⟨acc.n, acc.f, l[k], (addU acc.i X.i), (acc.r + X.r), (acc.g + X.g), (acc.s + X.s)⟩) := kn; clear kn hu)
                  | ((with_reducible refine at_slot 87 ?_); refine wl_ld1 (v := .int .i64 acc.n) rfl rfl rfl k2 Try.underlying2 rfl rfl ?_)
                  | ((with_reducible refine at_store 89 ?_); refine wl_st1 (v := .int .i64 (acc.n + 1)) rfl rfl rfl rfl k2 (by kernel_rfl) rfl rfl (by show 0 < 14; omega) ?_; intro V9 kn hu; replace k1 := k1.upd hu n1_2.out; replace k3 := k3.upd hu (Ne.symm n2_3.out); replace k4 := k4.upd hu (Ne.symm n2_4.out); replace HB := Lib.hid (upd_below HB.out hu L2.out); clear k2; have k2 : Blk _ g2 _ (ceA ⟨(acc.n + 1), acc.f, l[k], (addU acc.i X.i), (acc.r + X.r), (acc.g + X.g), (acc.s + X.s)⟩) := kn; clear kn hu))
              go_roundw
              case rel =>
                have hm := rof_me HI.out.a.ok HZ.out HAL.out HEK.out HT.out HX.out
                exact ⟨k + 1, _, HLT.out, by go_num, HI.out.next HLT.out hm.1 hm.2 (n_nz HNZ.out) rfl HB.out k1 k2⟩
              case measure => simp [intOf]; omega
            · have d6 : decide (l[k].t ≤ l[p].t) = true := by simp <;> omega
              have HE9 := Lib.hid (rof_no HI.out.a.ok HZ.out HAL.out HEK.out ht)
              clear ht
              go_wp2_with (first
                  | ((with_reducible refine at_slot 28 ?_); refine wl_ldr (B := (evA l[k])) rfl rfl rfl ((HL.out.keep HB.out).row k HLT.out) Try.underlying24 rfl evInfo ?_)
                  | ((with_reducible refine at_slot 8 ?_); refine wl_alloc (A := (evA zeroEv)) rfl rfl ev_zero rfl ?_; intro W3 g3 k3 hb hle; have n1_3 := Lib.hid (Blk.ne_of_le k1 hle); have n2_3 := Lib.hid (Blk.ne_of_le k2 hle); have L3 := Lib.hid (Nat.le_trans HB.out.size hle); replace k1 := k1.keep hb; replace k2 := k2.keep hb; replace HB := Lib.hid (below_tr HB.out hb); clear hb hle)
                  | ((with_reducible refine at_store 8 ?_); refine wl_st0 (A' := (evA l[k])) rfl rfl rfl rfl k3 rfl evInfo (evA_one l[k]) ?_; intro V1 kn hu; replace k1 := k1.upd hu n1_3.out; replace k2 := k2.upd hu n2_3.out; replace HB := Lib.hid (upd_below HB.out hu L3.out); clear k3; have k3 : Blk _ g3 _ (evA l[k]) := kn; clear kn hu))
              refine wp_region_held_drew (S := fun w' => Blk w' g1 28 (ceA zeroCe) ∧ Blk w' g2 28 (ceA acc) ∧ Blk w' g3 24 (evA l[k]) ∧ Below w.heap.size w w') (by kernel_rfl) ⟨k1.drew, k2.drew, k3.drew, HB.out.drew⟩ (fun hS => ?_)
              clear k1 k2 k3
              have hS2 := hS
              obtain ⟨k1, k2, k3, hB⟩ := hS2
              replace HB := Lib.hid hB
              clear hB
              refine wpAnyH_take (i := 0) (oi := ⟨some 29, _, _, _, _, _⟩) (v := .int .i64 (k : Int)) rfl (by kernel_rfl) (by kernel_rfl) (by kernel_rfl) (fun _ _ _ h => h) (yi_mv (Or.inl rfl) rfl rfl) hS ?_
              simp only [Act.put, List.setIfInBounds_toArray, List.set_cons_zero, List.set_cons_succ]
              refine wpAnyH_take (i := 1) (oi := ⟨some 30, _, _, _, _, _⟩) (v := .bool true) rfl (by kernel_rfl) (by kernel_rfl) (by kernel_rfl) (fun _ _ _ h => h) (yi_ok rfl (fun _ => by go_simp)) hS ?_
              simp only [Act.put, List.setIfInBounds_toArray, List.set_cons_zero, List.set_cons_succ]
              refine wpAnyH_take (i := 2) (oi := ⟨some 31, _, _, _, _, _⟩) (v := .bool true) rfl (by kernel_rfl) (by kernel_rfl) (by kernel_rfl) (fun _ _ _ h => h) (yi_mv (Or.inl rfl) rfl rfl) hS ?_
              simp only [Act.put, List.setIfInBounds_toArray, List.set_cons_zero, List.set_cons_succ]
              refine wpAnyH_take (i := 3) (oi := ⟨some 32, _, _, _, _, _⟩) (v := .slice (some ⟨b, off, none⟩) l.length cap) rfl (by kernel_rfl) (by kernel_rfl) (by kernel_rfl) (fun _ _ _ h => h) (yi_mv (Or.inl rfl) (by kernel_rfl) rfl) hS ?_
              simp only [Act.put, List.setIfInBounds_toArray, List.set_cons_zero, List.set_cons_succ]
              refine wpAnyH_take (i := 4) (oi := ⟨some 33, _, _, _, _, _⟩) (v := .int .i64 (k : Int)) rfl (by kernel_rfl) (by kernel_rfl) (by kernel_rfl) (fun _ _ _ h => h) (yi_mv (Or.inl rfl) (by kernel_rfl) rfl) hS ?_
              simp only [Act.put, List.setIfInBounds_toArray, List.set_cons_zero, List.set_cons_succ]
              refine wpAnyH_take (i := 5) (oi := ⟨some 34, _, _, _, _, _⟩) (v := .int .i64 (p : Int)) rfl (by kernel_rfl) (by kernel_rfl) (by kernel_rfl) (fun _ _ _ h => h) (yi_ok (by kernel_rfl) (fun _ => by go_simp)) hS ?_
              simp only [Act.put, List.setIfInBounds_toArray, List.set_cons_zero, List.set_cons_succ]
              refine wpAnyH_take (i := 6) (oi := ⟨some 35, _, _, _, _, _⟩) (v := .pointer (some ⟨b, off + p * 4, none⟩)) rfl (by kernel_rfl) (by kernel_rfl) (by kernel_rfl) (fun _ _ _ h => h) (yi_ok (by kernel_rfl) (fun _ => by go_simp)) hS ?_
              simp only [Act.put, List.setIfInBounds_toArray, List.set_cons_zero, List.set_cons_succ]
              refine wpAnyH_take (i := 7) (oi := ⟨some 36, _, _, _, _, _⟩) (v := .pointer (some ⟨b, off + p * 4, none⟩)) rfl (by kernel_rfl) (by kernel_rfl) (by kernel_rfl) (fun _ _ _ h => h) (yi_ok (by kernel_rfl) (fun _ => by go_simp)) hS ?_
              simp only [Act.put, List.setIfInBounds_toArray, List.set_cons_zero, List.set_cons_succ]
              refine wpAnyH_take (i := 8) (oi := ⟨some 37, _, _, _, _, _⟩) (v := .int .i64 l[p].t) rfl (by kernel_rfl) (by kernel_rfl) (by kernel_rfl) (fun _ _ _ h => h) (yi_c rfl (by kernel_rfl) rfl (fun w' h => (ev_cells ((HL.out.keep h.2.2.2).row p HPL.out)).1) Try.underlying2 rfl) hS ?_
              simp only [Act.put, List.setIfInBounds_toArray, List.set_cons_zero, List.set_cons_succ]
              refine wpAnyH_take (i := 9) (oi := ⟨some 38, _, _, _, _, _⟩) (v := .pointer (some ⟨g3, 0, none⟩)) rfl (by kernel_rfl) (by kernel_rfl) (by kernel_rfl) (fun _ _ _ h => h) (yi_ok (by kernel_rfl) (fun _ => by go_simp)) hS ?_
              simp only [Act.put, List.setIfInBounds_toArray, List.set_cons_zero, List.set_cons_succ]
              refine wpAnyH_take (i := 10) (oi := ⟨some 39, _, _, _, _, _⟩) (v := .int .i64 l[k].t) rfl (by kernel_rfl) (by kernel_rfl) (by kernel_rfl) (fun _ _ _ h => h) (yi_ld1 (v := .int .i64 l[k].t) rfl (by kernel_rfl) rfl (fun w' h => h.2.2.1) Try.underlying2 rfl rfl) hS ?_
              simp only [Act.put, List.setIfInBounds_toArray, List.set_cons_zero, List.set_cons_succ]
              refine wpAnyH_take (i := 11) (oi := ⟨some 40, _, _, _, _, _⟩) (v := .bool true) rfl (by kernel_rfl) (by kernel_rfl) (by kernel_rfl) (fun _ _ _ h => h) (yi_ok (by kernel_rfl) (fun _ => by go_simp)) hS ?_
              simp only [Act.put, List.setIfInBounds_toArray, List.set_cons_zero, List.set_cons_succ]
              refine wpAnyH_take (i := 12) (oi := ⟨some 41, _, _, _, _, _⟩) (v := .bool true) rfl (by kernel_rfl) (by kernel_rfl) (by kernel_rfl) (fun _ _ _ h => h) (yi_pick1 rfl rfl rfl rfl) hS ?_
              simp only [Act.put, List.setIfInBounds_toArray, List.set_cons_zero, List.set_cons_succ]
              refine wpAnyH_done (by kernel_rfl) ?_ _
              clear hS
              go_wp2_with (first
                  | ((with_reducible refine at_slot 42 ?_); refine wl_build (v := .agg (ceA zeroCe)) rfl rfl (build_ce0 _) rfl ?_)
                  | ((with_reducible refine at_store 2 ?_); refine wl_st0 (A' := (ceA zeroCe)) rfl rfl rfl rfl k1 rfl ceInfo (ceA_one zeroCe) ?_; intro V3 kn hu; replace k2 := k2.upd hu (Ne.symm n1_2.out); replace k3 := k3.upd hu (Ne.symm n1_3.out); replace HB := Lib.hid (upd_below HB.out hu L1.out); clear k1; have k1 : Blk _ g1 _ (ceA zeroCe) := kn; clear kn hu))
              have hno := HI.out.no9 HLT.out HE9.out
              refine bodyPost_ret (v := .tuple #[.agg (ceA zeroCe), .int .i64 9]) (results_ct Try.results24 _ rfl rfl k1 Try.underlying28 rfl ceInfo) rfl ?_
              exact ⟨be_eq (congrArg ceA ((ofC_yes HOK.out).1.trans hno.1).symm) ((ofC_yes HOK.out).2.trans hno.2).symm, HB.out⟩
        · have hlt : (l.map oneC).length ≤ k := by simp; omega
          go_wp2_with (first
              | ((with_reducible refine at_slot 91 ?_); refine wl_ld0 rfl rfl rfl k2 Try.underlying28 rfl ceInfo ?_)
              | ((with_reducible refine at_store 2 ?_); refine wl_st0 (A' := (ceA acc)) rfl rfl rfl rfl k1 rfl ceInfo (ceA_one acc) ?_; intro V1 kn hu; replace k2 := k2.upd hu (Ne.symm n1_2.out); replace HB := Lib.hid (upd_below HB.out hu L1.out); clear k1; have k1 : Blk _ g1 _ (ceA acc) := kn; clear kn hu))
          refine bodyPost_ret (v := .tuple #[.agg (ceA acc), .int .i64 0]) (results_ct Try.results24 _ rfl rfl k1 Try.underlying28 rfl ceInfo) rfl ?_
          exact ⟨be_eq (congrArg ceA ((ofC_yes HOK.out).1.trans (HI.out.a.done hlt).1).symm) ((ofC_yes HOK.out).2.trans (HI.out.a.done hlt).2).symm, HB.out⟩
end Go.Proofs.Ytjdjebhimljedaa
