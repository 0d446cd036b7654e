/-
  THE DOCUMENT'S ANSWERS for events: plimsollref07.Rises.
-/
import Derived.Test.YtgijejdehenmpaaE8
import Derived.Test.YtgijejdehenmpaaRa
import Derived.Test.YtgijejdehenmpaaSl
namespace Go.Proofs.Ytgijejdehenmpaa
open Go Go.RowKit

theorem rbe_is {p c : Ev} {E : Int} {C : Ce} (ip : EvIn p) (ic : EvIn c) (hE : beE p c = E) (hC : beC p c = C) (w : World) :
    Calls Try.prog 14 #[.agg (evA p), .agg (evA c)] w fun e w' => e = .returned (.tuple #[.agg (ceA C), .int .i64 E]) ∧ Below w.heap.size w w' := by
  subst hE hC
  exact rbe_any ip ic w
theorem raddW {a b : U} (h : a.n + b.n < 340282366920938463463374607431768211456) (w : World) :
    Calls Try.prog 36 #[.agg (wdA a), .agg (wdA b)] w fun e w' => e = .returned (.tuple #[.agg (wdA (addU a b)), .int .i64 0]) ∧ Below w.heap.size w w' := by
  have := radd a b w
  rwa [show addE a b = 0 from cutE_lt h] at this
/-- What holds ahead of a round. -/
structure RjI (w wr : World) (g1 g2 : Nat) (l : List Ev) (k acc : Nat) : Prop where
  below : Below w.heap.size w wr
  b1 : Blk wr g1 28 (wdA U.zero)
  b2 : Blk wr g2 28 (wdA (cutU acc))
  z : k = 0 → acc = 0
  bd : ∀ p, k = p + 1 → acc ≤ p * 18446744073709551615
  e : ∀ p (hp : p < l.length), k = p + 1 → risE l = riE l[p] (l.drop (p + 1)) ∧ risN l = riN l[p] acc (l.drop (p + 1))
theorem RjI.ri {w wr : World} {g1 g2 : Nat} {l : List Ev} {k acc p : Nat} (h : RjI w wr g1 g2 l k acc) (hk : k = p + 1) (hp : p < l.length) : RiI w wr g1 g2 l p hp acc := ⟨h.below, h.b1, h.b2, h.bd p hk, (h.e p hp hk).1, (h.e p hp hk).2⟩
theorem RiI.rj {w wr : World} {g1 g2 : Nat} {l : List Ev} {p acc : Nat} {hp : p < l.length} (h : RiI w wr g1 g2 l p hp acc) : RjI w wr g1 g2 l (p + 1) acc := by
  refine ⟨h.below, h.b1, h.b2, nofun, fun q hq => ?_, fun q hq' hq => ?_⟩
  · obtain rfl : p = q := by omega
    exact h.bd
  · obtain rfl : p = q := by omega
    exact ⟨h.e, h.n⟩
set_option maxHeartbeats 4000000 in
set_option maxRecDepth 100000 in
/-- Rises, of no events. -/
theorem rri0 (ao : Option Addr) (b off cap : Nat) (l : List Ev) (hl : l.length = 0) (w : World) (h : EvsAt w ao b off l) :
    Calls Try.prog 16 #[.slice ao l.length cap] w fun e w' => e = .returned (.tuple #[.agg (wdA (cutU (risN l))), .int .i64 (risE l)]) ∧ Below w.heap.size w w' := by
  have HL := Lib.hid h
  clear h
  obtain rfl : l = [] := List.length_eq_zero_iff.1 hl
  clear hl
  have HB := Lib.hid (Below.refl w.heap.size w)
  go_enter Try.func16, Try.ntmps16
  go_wp2_with (first
      | ((with_reducible refine at_slot 2 ?_); refine wl_alloc (A := (wdA U.zero)) rfl rfl wd_zero rfl ?_; intro W1 g1 k1 hb hle; have L1 := Lib.hid (Nat.le_trans HB.out.size hle); replace HB := Lib.hid (below_tr HB.out hb); clear hb hle)
      | ((with_reducible refine at_slot 4 ?_); refine wl_alloc (A := (wdA U.zero)) rfl rfl wd_zero rfl ?_; intro W2 g2 k2 hb hle; have n1_2 := Lib.hid (Blk.ne_of_le k1 hle); have L2 := Lib.hid (Nat.le_trans HB.out.size hle); replace k1 := k1.keep hb; replace HB := Lib.hid (below_tr HB.out hb); clear hb hle))
  have HI := Lib.hid k1
  have HI2 := Lib.hid k2
  have HBB := HB
  clear k1 k2 HB
  go_loopw [11] (fun i wr => i = .int .i64 0 ∧ Blk wr g1 28 (wdA U.zero) ∧ Blk wr g2 28 (wdA U.zero) ∧ Below w.heap.size w wr) (fun _ _ => 0)
  case atStart => exact ⟨rfl, HI.out, HI2.out, HBB.out⟩
  case round =>
    obtain ⟨rfl, k1, k2, hb⟩ := hrel
    clear HI HI2 HBB
    have HB := Lib.hid hb
    clear hb
    go_wp2_with (first
        | ((with_reducible refine at_slot 50 ?_); refine wl_ld0 rfl rfl rfl k2 Try.underlying28 rfl wdInfo ?_)
        | ((with_reducible refine at_store 2 ?_); refine wl_st0 (A' := (wdA U.zero)) rfl rfl rfl rfl k1 rfl wdInfo (wdA_one U.zero) ?_; intro V1 kn hu; replace k2 := k2.upd hu (Ne.symm n1_2.out); replace HB := Lib.hid (upd_below HB.out hu L1.out); clear k1; have k1 : Blk _ g1 _ (wdA U.zero) := kn; clear kn hu))
    refine bodyPost_ret (v := .tuple #[.agg (wdA U.zero), .int .i64 0]) (results_ct Try.results16 _ rfl rfl k1 Try.underlying28 rfl wdInfo) rfl ?_
    exact ⟨be_eq (congrArg wdA (U.ext (by rw [cutU_n (show risN [] < _ by show 0 < _; omega)]; rfl))) rfl, HB.out⟩
set_option maxHeartbeats 4000000 in
set_option maxRecDepth 100000 in
/-- Rises, of two events or more. -/
theorem rri2 (ao : Option Addr) (b off cap : Nat) (l : List Ev) (hm : l.length ≤ 9223372036854775807) (hl : 1 < l.length) (w : World) (h : EvsAt w ao b off l) :
    Calls Try.prog 16 #[.slice ao l.length cap] w fun e w' => e = .returned (.tuple #[.agg (wdA (cutU (risN l))), .int .i64 (risE l)]) ∧ Below w.heap.size w w' := by
  have HL := Lib.hid h
  have HR2 := Lib.hid (risE_two hl)
  obtain ⟨rfl, hbw⟩ := h.at_ (by omega)
  have d1 : ((l.length : Int) == 1) = false := by simp; omega
  have HLL := Lib.hid hl
  have hm' : (l.length : Int) ≤ 9223372036854775807 := by omega
  clear h
  have HB := Lib.hid (Below.refl w.heap.size w)
  go_enter Try.func16, Try.ntmps16
  go_wp2_with (first
      | ((with_reducible refine at_slot 2 ?_); refine wl_alloc (A := (wdA U.zero)) rfl rfl wd_zero rfl ?_; intro W1 g1 k1 hb hle; have L1 := Lib.hid (Nat.le_trans HB.out.size hle); replace HB := Lib.hid (below_tr HB.out hb); clear hb hle)
      | ((with_reducible refine at_slot 4 ?_); refine wl_alloc (A := (wdA U.zero)) rfl rfl wd_zero rfl ?_; intro W2 g2 k2 hb hle; have n1_2 := Lib.hid (Blk.ne_of_le k1 hle); have L2 := Lib.hid (Nat.le_trans HB.out.size hle); replace k1 := k1.keep hb; replace HB := Lib.hid (below_tr HB.out hb); clear hb hle))
  have hz0 : cutU 0 = U.zero := U.ext (cutU_n (by omega))
  have HI : Hid (RjI w _ g1 g2 l 0 0) := Lib.hid ⟨HB.out, k1, by rw [hz0]; exact k2, fun _ => rfl, nofun, nofun⟩
  clear k1 k2 HB hz0
  go_loopw [11] (fun i wr => ∃ (k acc : Nat), i = .int .i64 (k : Int) ∧ k ≤ l.length ∧ RjI w wr g1 g2 l k acc) (fun i _ => l.length - (intOf i).toNat)
  case atStart => exact ⟨0, 0, rfl, Nat.zero_le _, HI.out⟩
  case round =>
    obtain ⟨k, acc, rfl, hkl, hI⟩ := hrel
    clear HI
    have HB := Lib.hid hI.below
    have k1 := hI.b1
    have k2 := hI.b2
    have HI := Lib.hid hI
    clear hI
    have hpi : (k : Int) ≤ l.length := by omega
    have HKL := Lib.hid hkl
    clear hkl
    by_cases hlt : k < l.length
    · have hlt' : (k : Int) < l.length := by omega
      have d2 : decide ((k : Int) < l.length) = true := by simp; omega
      have HLT := Lib.hid hlt
      have i3 : IntKind.i64.wrap ((k : Int) + 1) = (k : Int) + 1 := by rw [IntKind.wrap_i64]; omega
      clear hlt
      have HRW := Lib.hid (HL.out.row k HLT.out)
      by_cases hk0 : k = 0
      · have d3 : ((k : Int) == 0) = true := by simp; omega
        have HK0 := Lib.hid hk0
        clear hk0
        go_wp2_with (first
            | ((with_reducible refine at_slot 15 ?_); refine wl_ldr (B := (evA l[k])) rfl rfl rfl (range_below HRW.out HB.out hbw) Try.underlying24 rfl evInfo ?_)
            | ((with_reducible refine at_slot 6 ?_); refine wl_alloc (A := (evA zeroEv)) rfl rfl ev_zero rfl ?_; intro W3 g3 k3 hb hle; have n1_3 := Lib.hid (Blk.ne_of_le k1 hle); have n2_3 := Lib.hid (Blk.ne_of_le k2 hle); have L3 := Lib.hid (Nat.le_trans HB.out.size hle); replace k1 := k1.keep hb; replace k2 := k2.keep hb; replace HB := Lib.hid (below_tr HB.out hb); clear hb hle)
            | ((with_reducible refine at_store 6 ?_); refine wl_st0 (A' := (evA l[k])) rfl rfl rfl rfl k3 rfl evInfo (evA_one l[k]) ?_; intro V1 kn hu; replace k1 := k1.upd hu n1_3.out; replace k2 := k2.upd hu n2_3.out; replace HB := Lib.hid (upd_below HB.out hu L3.out); clear k3; have k3 : Blk _ g3 _ (evA l[k]) := kn; clear kn hu))
        go_roundw
        case rel =>
          have hk0 := HK0.out
          subst hk0
          have e0 := HI.out.z rfl
          subst e0
          refine ⟨1, 0, by go_num, by omega, HB.out, k1, k2, nofun, fun p hp => Nat.zero_le _, fun p hp' hp => ?_⟩
          obtain rfl : p = 0 := by omega
          exact HR2.out
        case measure => simp [intOf]; omega
      · obtain ⟨p, hp⟩ : ∃ p, k = p + 1 := ⟨k - 1, by omega⟩
        have d3 : ((k : Int) == 0) = false := by simp; omega
        have hpl : p < l.length := by have := HLT.out; omega
        have HRI := Lib.hid (HI.out.ri hp hpl)
        have i1 : IntKind.i64.wrap ((k : Int) - 1) = (p : Int) := by rw [IntKind.wrap_i64]; omega
        have i2 : (p : Int).toNat = p := by omega
        have hpk : (p : Int) < l.length := by omega
        have HPK := Lib.hid hp
        clear hk0 hp
        go_wp2_with (first
            | ((with_reducible refine at_slot 15 ?_); refine wl_ldr (B := (evA l[k])) rfl rfl rfl (range_below HRW.out HB.out hbw) Try.underlying24 rfl evInfo ?_)
            | ((with_reducible refine at_slot 6 ?_); refine wl_alloc (A := (evA zeroEv)) rfl rfl ev_zero rfl ?_; intro W3 g3 k3 hb hle; have n1_3 := Lib.hid (Blk.ne_of_le k1 hle); have n2_3 := Lib.hid (Blk.ne_of_le k2 hle); have L3 := Lib.hid (Nat.le_trans HB.out.size hle); replace k1 := k1.keep hb; replace k2 := k2.keep hb; replace HB := Lib.hid (below_tr HB.out hb); clear hb hle)
            | ((with_reducible refine at_store 6 ?_); refine wl_st0 (A' := (evA l[k])) rfl rfl rfl rfl k3 rfl evInfo (evA_one l[k]) ?_; intro V1 kn hu; replace k1 := k1.upd hu n1_3.out; replace k2 := k2.upd hu n2_3.out; replace HB := Lib.hid (upd_below HB.out hu L3.out); clear k3; have k3 : Blk _ g3 _ (evA l[k]) := kn; clear kn hu))
        by_cases hE : beE l[p] l[k] = 0
        · have HEE := Lib.hid hE
          clear hE
          have HN : Hid ((cutU acc).n + (beC l[p] l[k]).i.n < 340282366920938463463374607431768211456 ∧ (cutU acc).n = acc) := Lib.hid (by
            have h1 := be_bd HEE.out
            have h2 := HRI.out.bd
            have h3 : p * 18446744073709551615 ≤ 9223372036854775807 * 18446744073709551615 := Nat.mul_le_mul_right _ (by omega)
            have h4 : (cutU acc).n = acc := cutU_n (by omega)
            exact ⟨by omega, h4⟩)
          refine wp_region_fl (J := fun listed act W => ∃ (b0 b1 b2 b3 b4 b5 b6 b7 b8 b9 b10 b11 b12 : Bool) (x0 x1 x2 x3 x4 x5 x6 x7 x8 x9 x10 x12 : Value) (g : Nat), listed = #[b0, b1, b2, b3, b4, b5, b6, b7, b8, b9, b10, b11, b12] ∧ act = { tmps := #[.slice (some { block := b, off := off }) l.length cap, undef, .pointer (some ⟨g1, 0, none⟩), u3, .pointer (some ⟨g2, 0, none⟩), .int .i64 ↑k, .pointer (some ⟨g3, 0, none⟩), x10, x12, .slice (some { block := b, off := off }) l.length cap, .int .i64 ↑l.length, .int .i64 ↑k, .bool true, .int .i64 ↑k, Value.pointer (some { block := b, off := off + k * 4 }), .agg (evA l[k]), .int .i64 ↑k, .bool false, u18, u19, u20, u21, u22, u23, x7, x0, x1, x2, x3, x4, x5, x6, x8, x9, u34, u35, u36, u37, u38, u39, u40, u41, u42, u43, u44, u45, u46, u47, u48, u49, undef], defers := [] } ∧ FJ (V1.heap.size) V1 W 30 (ceA zeroCe) (ceA (beC l[p] l[k])) b10 b11 x10 g ∧ True ∧ ((b0 = true → x0 = .slice (some ⟨b, off, none⟩) l.length cap) ∧ (b1 = true → x1 = .int .i64 (k : Int)) ∧ (b2 = true → x2 = .int .i64 (p : Int)) ∧ (b3 = true → x3 = .pointer (some ⟨b, off + p * 4, none⟩)) ∧ (b4 = true → x4 = .agg (evA l[p])) ∧ (b5 = true → x5 = .agg (evA l[k])) ∧ (b6 = true → x6 = .tuple #[.agg (ceA (beC l[p] l[k])), .int .i64 0]) ∧ (b7 = true → x7 = .tuple #[.agg (ceA (beC l[p] l[k])), .int .i64 0]) ∧ (b8 = true → x8 = .agg (ceA (beC l[p] l[k]))) ∧ (b9 = true → x9 = .int .i64 0) ∧ (b12 = true → x12 = .int .i64 0) ∧ True)) (by kernel_rfl) ⟨false, false, false, false, false, false, false, false, false, false, false, false, false, u25, u26, u27, u28, u29, u30, u31, u24, u32, u33, u7, u8, V1.heap.size, rfl, rfl, FJ.start V1 30 (ceA zeroCe) (ceA (beC l[p] l[k])), trivial, nofun, nofun, nofun, nofun, nofun, nofun, nofun, nofun, nofun, nofun, nofun, trivial⟩ ?_ ?_
          · intro listed act W i hJ hi
            obtain ⟨b0, b1, b2, b3, b4, b5, b6, b7, b8, b9, b10, b11, b12, x0, x1, x2, x3, x4, x5, x6, x7, x8, x9, x10, x12, g, rfl, rfl, hJ, hA, hE⟩ := hJ
            have HJ := Lib.hid hJ
            have HA := Lib.hid hA
            have HE := Lib.hid hE
            obtain ⟨hi1, hi2, hi3⟩ := fl_spec hi
            clear hJ hA hE hi
            have hi4 : i < 13 := hi1
            clear hi1
            have hcase : i = 0 ∨ i = 1 ∨ i = 2 ∨ i = 3 ∨ i = 4 ∨ i = 5 ∨ i = 6 ∨ i = 7 ∨ i = 8 ∨ i = 9 ∨ i = 10 ∨ i = 11 ∨ i = 12 := by omega
            clear hi4
            rcases hcase with rfl | rfl | rfl | rfl | rfl | rfl | rfl | rfl | rfl | rfl | rfl | rfl | rfl
            · refine wpOp_step (o := _) rfl (fun K hK => ?_)
              have HK := Lib.hid hK
              clear hK
              clear hi3 hi2
              go_simp
              exact HK.out _ _ ⟨_, _, _, _, _, _, _, _, _, _, _, _, _, _, _, _, _, _, _, _, _, _, _, _, _, _, rfl, rfl, HJ.out, trivial, fun _ => rfl, HE.out.2.1, HE.out.2.2.1, HE.out.2.2.2.1, HE.out.2.2.2.2.1, HE.out.2.2.2.2.2.1, HE.out.2.2.2.2.2.2.1, HE.out.2.2.2.2.2.2.2.1, HE.out.2.2.2.2.2.2.2.2.1, HE.out.2.2.2.2.2.2.2.2.2.1, HE.out.2.2.2.2.2.2.2.2.2.2.1, trivial⟩
            · refine wpOp_step (o := _) rfl (fun K hK => ?_)
              have HK := Lib.hid hK
              clear hK
              clear hi3 hi2
              go_simp
              exact HK.out _ _ ⟨_, _, _, _, _, _, _, _, _, _, _, _, _, _, _, _, _, _, _, _, _, _, _, _, _, _, rfl, rfl, HJ.out, trivial, HE.out.1, fun _ => rfl, HE.out.2.2.1, HE.out.2.2.2.1, HE.out.2.2.2.2.1, HE.out.2.2.2.2.2.1, HE.out.2.2.2.2.2.2.1, HE.out.2.2.2.2.2.2.2.1, HE.out.2.2.2.2.2.2.2.2.1, HE.out.2.2.2.2.2.2.2.2.2.1, HE.out.2.2.2.2.2.2.2.2.2.2.1, trivial⟩
            · refine wpOp_step (o := _) rfl (fun K hK => ?_)
              have HK := Lib.hid hK
              clear hK
              have hd := hi3 _ rfl
              simp [Region.binds] at hd
              have q1 : b1 = true := by (cases b1 with | true => rfl | false => simp at hd)
              clear hi3 hi2 hd
              obtain rfl := HE.out.2.1 q1
              clear q1
              go_simp
              exact HK.out _ _ ⟨_, _, _, _, _, _, _, _, _, _, _, _, _, _, _, _, _, _, _, _, _, _, _, _, _, _, rfl, rfl, HJ.out, trivial, HE.out.1, HE.out.2.1, fun _ => rfl, HE.out.2.2.2.1, HE.out.2.2.2.2.1, HE.out.2.2.2.2.2.1, HE.out.2.2.2.2.2.2.1, HE.out.2.2.2.2.2.2.2.1, HE.out.2.2.2.2.2.2.2.2.1, HE.out.2.2.2.2.2.2.2.2.2.1, HE.out.2.2.2.2.2.2.2.2.2.2.1, trivial⟩
            · refine wpOp_step (o := _) rfl (fun K hK => ?_)
              have HK := Lib.hid hK
              clear hK
              have hd := hi3 _ rfl
              simp [Region.binds] at hd
              have q0 : b0 = true := by (cases b0 with | true => rfl | false => simp at hd)
              have q2 : b2 = true := by (cases b2 with | true => rfl | false => simp at hd)
              clear hi3 hi2 hd
              obtain rfl := HE.out.1 q0
              obtain rfl := HE.out.2.2.1 q2
              clear q0 q2
              go_simp
              exact HK.out _ _ ⟨_, _, _, _, _, _, _, _, _, _, _, _, _, _, _, _, _, _, _, _, _, _, _, _, _, _, rfl, rfl, HJ.out, trivial, HE.out.1, HE.out.2.1, HE.out.2.2.1, fun _ => rfl, HE.out.2.2.2.2.1, HE.out.2.2.2.2.2.1, HE.out.2.2.2.2.2.2.1, HE.out.2.2.2.2.2.2.2.1, HE.out.2.2.2.2.2.2.2.2.1, HE.out.2.2.2.2.2.2.2.2.2.1, HE.out.2.2.2.2.2.2.2.2.2.2.1, trivial⟩
            · refine wpOp_step (o := _) rfl (fun K hK => ?_)
              have HK := Lib.hid hK
              clear hK
              have hd := hi3 _ rfl
              simp [Region.binds] at hd
              have q3 : b3 = true := by (cases b3 with | true => rfl | false => simp at hd)
              clear hi3 hi2 hd
              obtain rfl := HE.out.2.2.2.1 q3
              clear q3
              have hbW := HB.out.trans (HJ.out.upd.below HB.out.size (Nat.le_trans HB.out.size HJ.out.low))
              obtain ⟨cc0, cc1, cc2, cc3⟩ := ev_cells ((HL.out.keep hbW).row p hpl)
              clear hbW
              go_simp
              exact HK.out _ _ ⟨_, _, _, _, _, _, _, _, _, _, _, _, _, _, _, _, _, _, _, _, _, _, _, _, _, _, rfl, rfl, HJ.out, trivial, HE.out.1, HE.out.2.1, HE.out.2.2.1, HE.out.2.2.2.1, fun _ => rfl, HE.out.2.2.2.2.2.1, HE.out.2.2.2.2.2.2.1, HE.out.2.2.2.2.2.2.2.1, HE.out.2.2.2.2.2.2.2.2.1, HE.out.2.2.2.2.2.2.2.2.2.1, HE.out.2.2.2.2.2.2.2.2.2.2.1, trivial⟩
            · refine wpOp_step (o := _) rfl (fun K hK => ?_)
              have HK := Lib.hid hK
              clear hK
              clear hi3 hi2
              refine wq_ldr (B := evA l[k]) rfl rfl rfl ((k3.upd HJ.out.upd (Blk.ne_of_le k3 HJ.out.low)).part 0 (evA l[k]) (fun j _ => by rw [Nat.zero_add])) Try.underlying24 rfl evInfo ?_
              exact HK.out _ _ ⟨_, _, _, _, _, _, _, _, _, _, _, _, _, _, _, _, _, _, _, _, _, _, _, _, _, _, rfl, rfl, HJ.out, trivial, HE.out.1, HE.out.2.1, HE.out.2.2.1, HE.out.2.2.2.1, HE.out.2.2.2.2.1, fun _ => rfl, HE.out.2.2.2.2.2.2.1, HE.out.2.2.2.2.2.2.2.1, HE.out.2.2.2.2.2.2.2.2.1, HE.out.2.2.2.2.2.2.2.2.2.1, HE.out.2.2.2.2.2.2.2.2.2.2.1, trivial⟩
            · refine wpOp_step (o := _) rfl (fun K hK => ?_)
              have HK := Lib.hid hK
              clear hK
              have hd := hi3 _ rfl
              simp [Region.binds] at hd
              have q4 : b4 = true := by (cases b4 with | true => rfl | false => simp at hd)
              have q5 : b5 = true := by (cases b5 with | true => rfl | false => simp at hd)
              clear hi3 hi2 hd
              obtain rfl := HE.out.2.2.2.2.1 q4
              obtain rfl := HE.out.2.2.2.2.2.1 q5
              clear q4 q5
              go_simp
              go_at_call 14
              refine (rbe_is (HL.out.fits p hpl) (HL.out.fits k HLT.out) HEE.out rfl _).mono ?_
              rintro e w1 ⟨rfl, hb⟩
              exact HK.out _ _ ⟨_, _, _, _, _, _, _, _, _, _, _, _, _, _, _, _, _, _, _, _, _, _, _, _, _, _, rfl, rfl, HJ.out.grow hb, trivial, HE.out.1, HE.out.2.1, HE.out.2.2.1, HE.out.2.2.2.1, HE.out.2.2.2.2.1, HE.out.2.2.2.2.2.1, fun _ => rfl, HE.out.2.2.2.2.2.2.2.1, HE.out.2.2.2.2.2.2.2.2.1, HE.out.2.2.2.2.2.2.2.2.2.1, HE.out.2.2.2.2.2.2.2.2.2.2.1, trivial⟩
            · refine wpOp_step (o := _) rfl (fun K hK => ?_)
              have HK := Lib.hid hK
              clear hK
              have hd := hi3 _ rfl
              simp [Region.binds] at hd
              have q6 : b6 = true := by (cases b6 with | true => rfl | false => simp at hd)
              clear hi3 hi2 hd
              obtain rfl := HE.out.2.2.2.2.2.2.1 q6
              clear q6
              go_simp
              exact HK.out _ _ ⟨_, _, _, _, _, _, _, _, _, _, _, _, _, _, _, _, _, _, _, _, _, _, _, _, _, _, rfl, rfl, HJ.out, trivial, HE.out.1, HE.out.2.1, HE.out.2.2.1, HE.out.2.2.2.1, HE.out.2.2.2.2.1, HE.out.2.2.2.2.2.1, HE.out.2.2.2.2.2.2.1, fun _ => rfl, HE.out.2.2.2.2.2.2.2.2.1, HE.out.2.2.2.2.2.2.2.2.2.1, HE.out.2.2.2.2.2.2.2.2.2.2.1, trivial⟩
            · refine wpOp_step (o := _) rfl (fun K hK => ?_)
              have HK := Lib.hid hK
              clear hK
              have hd := hi3 _ rfl
              simp [Region.binds] at hd
              have q7 : b7 = true := by (cases b7 with | true => rfl | false => simp at hd)
              clear hi3 hi2 hd
              obtain rfl := HE.out.2.2.2.2.2.2.2.1 q7
              clear q7
              go_simp
              exact HK.out _ _ ⟨_, _, _, _, _, _, _, _, _, _, _, _, _, _, _, _, _, _, _, _, _, _, _, _, _, _, rfl, rfl, HJ.out, trivial, HE.out.1, HE.out.2.1, HE.out.2.2.1, HE.out.2.2.2.1, HE.out.2.2.2.2.1, HE.out.2.2.2.2.2.1, HE.out.2.2.2.2.2.2.1, HE.out.2.2.2.2.2.2.2.1, fun _ => rfl, HE.out.2.2.2.2.2.2.2.2.2.1, HE.out.2.2.2.2.2.2.2.2.2.2.1, trivial⟩
            · refine wpOp_step (o := _) rfl (fun K hK => ?_)
              have HK := Lib.hid hK
              clear hK
              have hd := hi3 _ rfl
              simp [Region.binds] at hd
              have q7 : b7 = true := by (cases b7 with | true => rfl | false => simp at hd)
              clear hi3 hi2 hd
              obtain rfl := HE.out.2.2.2.2.2.2.2.1 q7
              clear q7
              go_simp
              exact HK.out _ _ ⟨_, _, _, _, _, _, _, _, _, _, _, _, _, _, _, _, _, _, _, _, _, _, _, _, _, _, rfl, rfl, HJ.out, trivial, HE.out.1, HE.out.2.1, HE.out.2.2.1, HE.out.2.2.2.1, HE.out.2.2.2.2.1, HE.out.2.2.2.2.2.1, HE.out.2.2.2.2.2.2.1, HE.out.2.2.2.2.2.2.2.1, HE.out.2.2.2.2.2.2.2.2.1, fun _ => rfl, HE.out.2.2.2.2.2.2.2.2.2.2.1, trivial⟩
            · refine wpOp_step (o := _) rfl (fun K hK => ?_)
              have HK := Lib.hid hK
              clear hK
              clear hi3
              obtain rfl : b10 = false := hi2
              go_simp
              exact HK.out _ _ ⟨_, _, _, _, _, _, _, _, _, _, _, _, _, _, _, _, _, _, _, _, _, _, _, _, _, _, rfl, rfl, HJ.out.alloc, trivial, HE.out.1, HE.out.2.1, HE.out.2.2.1, HE.out.2.2.2.1, HE.out.2.2.2.2.1, HE.out.2.2.2.2.2.1, HE.out.2.2.2.2.2.2.1, HE.out.2.2.2.2.2.2.2.1, HE.out.2.2.2.2.2.2.2.2.1, HE.out.2.2.2.2.2.2.2.2.2.1, HE.out.2.2.2.2.2.2.2.2.2.2.1, trivial⟩
            · refine wpOp_step (o := _) rfl (fun K hK => ?_)
              have HK := Lib.hid hK
              clear hK
              have hd := hi3 _ rfl
              simp [Region.binds] at hd
              have q10 : b10 = true := by (cases b10 with | true => rfl | false => simp at hd)
              have q8 : b8 = true := by (cases b8 with | true => rfl | false => simp at hd)
              clear hi3 hi2 hd
              obtain rfl := HE.out.2.2.2.2.2.2.2.2.1 q8
              subst q10
              clear q8
              obtain ⟨hp, _⟩ := HJ.out.var rfl
              subst hp
              rw [if_pos (by rfl)]
              refine wp_store_mid 30 _ _ rfl g 0 (ceA (beC l[p] l[k])) rfl rfl (HJ.out.there (by rfl)) ceInfo (ceA_one (beC l[p] l[k])) ?_
              exact HK.out _ _ ⟨_, _, _, _, _, _, _, _, _, _, _, _, _, _, _, _, _, _, _, _, _, _, _, _, _, _, rfl, rfl, HJ.out.store (by rfl), trivial, HE.out.1, HE.out.2.1, HE.out.2.2.1, HE.out.2.2.2.1, HE.out.2.2.2.2.1, HE.out.2.2.2.2.2.1, HE.out.2.2.2.2.2.2.1, HE.out.2.2.2.2.2.2.2.1, HE.out.2.2.2.2.2.2.2.2.1, HE.out.2.2.2.2.2.2.2.2.2.1, HE.out.2.2.2.2.2.2.2.2.2.2.1, trivial⟩
            · refine wpOp_step (o := _) rfl (fun K hK => ?_)
              have HK := Lib.hid hK
              clear hK
              have hd := hi3 _ rfl
              simp [Region.binds] at hd
              have q9 : b9 = true := by (cases b9 with | true => rfl | false => simp at hd)
              clear hi3 hi2 hd
              obtain rfl := HE.out.2.2.2.2.2.2.2.2.2.1 q9
              clear q9
              go_simp
              exact HK.out _ _ ⟨_, _, _, _, _, _, _, _, _, _, _, _, _, _, _, _, _, _, _, _, _, _, _, _, _, _, rfl, rfl, HJ.out, trivial, HE.out.1, HE.out.2.1, HE.out.2.2.1, HE.out.2.2.2.1, HE.out.2.2.2.2.1, HE.out.2.2.2.2.2.1, HE.out.2.2.2.2.2.2.1, HE.out.2.2.2.2.2.2.2.1, HE.out.2.2.2.2.2.2.2.2.1, HE.out.2.2.2.2.2.2.2.2.2.1, fun _ => rfl, trivial⟩
          intro listed act W hJ hr
          obtain ⟨b0, b1, b2, b3, b4, b5, b6, b7, b8, b9, b10, b11, b12, x0, x1, x2, x3, x4, x5, x6, x7, x8, x9, x10, x12, g, rfl, rfl, hJ, hA, hE⟩ := hJ
          have HJ := Lib.hid hJ
          have HA := Lib.hid hA
          have HE := Lib.hid hE
          clear hJ hA hE
          have q0 : b0 = true := by
            cases b0 with
            | true => rfl
            | false =>
              have hm : 0 ∈ ([] : List Nat) := by rw [← hr]; exact fl_in (o := _) rfl rfl (by simp [Region.binds])
              cases hm
          subst q0
          have q1 : b1 = true := by
            cases b1 with
            | true => rfl
            | false =>
              have hm : 1 ∈ ([] : List Nat) := by rw [← hr]; exact fl_in (o := _) rfl rfl (by simp [Region.binds])
              cases hm
          subst q1
          have q2 : b2 = true := by
            cases b2 with
            | true => rfl
            | false =>
              have hm : 2 ∈ ([] : List Nat) := by rw [← hr]; exact fl_in (o := _) rfl rfl (by simp [Region.binds])
              cases hm
          subst q2
          have q3 : b3 = true := by
            cases b3 with
            | true => rfl
            | false =>
              have hm : 3 ∈ ([] : List Nat) := by rw [← hr]; exact fl_in (o := _) rfl rfl (by simp [Region.binds])
              cases hm
          subst q3
          have q4 : b4 = true := by
            cases b4 with
            | true => rfl
            | false =>
              have hm : 4 ∈ ([] : List Nat) := by rw [← hr]; exact fl_in (o := _) rfl rfl (by simp [Region.binds])
              cases hm
          subst q4
          have q5 : b5 = true := by
            cases b5 with
            | true => rfl
            | false =>
              have hm : 5 ∈ ([] : List Nat) := by rw [← hr]; exact fl_in (o := _) rfl rfl (by simp [Region.binds])
              cases hm
          subst q5
          have q6 : b6 = true := by
            cases b6 with
            | true => rfl
            | false =>
              have hm : 6 ∈ ([] : List Nat) := by rw [← hr]; exact fl_in (o := _) rfl rfl (by simp [Region.binds])
              cases hm
          subst q6
          have q7 : b7 = true := by
            cases b7 with
            | true => rfl
            | false =>
              have hm : 7 ∈ ([] : List Nat) := by rw [← hr]; exact fl_in (o := _) rfl rfl (by simp [Region.binds])
              cases hm
          subst q7
          have q8 : b8 = true := by
            cases b8 with
            | true => rfl
            | false =>
              have hm : 8 ∈ ([] : List Nat) := by rw [← hr]; exact fl_in (o := _) rfl rfl (by simp [Region.binds])
              cases hm
          subst q8
          have q9 : b9 = true := by
            cases b9 with
            | true => rfl
            | false =>
              have hm : 9 ∈ ([] : List Nat) := by rw [← hr]; exact fl_in (o := _) rfl rfl (by simp [Region.binds])
              cases hm
          subst q9
          have q10 : b10 = true := by
            cases b10 with
            | true => rfl
            | false =>
              have hm : 10 ∈ ([] : List Nat) := by rw [← hr]; exact fl_in (o := _) rfl rfl (by simp [Region.binds])
              cases hm
          subst q10
          have q11 : b11 = true := by
            cases b11 with
            | true => rfl
            | false =>
              have hm : 11 ∈ ([] : List Nat) := by rw [← hr]; exact fl_in (o := _) rfl rfl (by simp [Region.binds])
              cases hm
          subst q11
          have q12 : b12 = true := by
            cases b12 with
            | true => rfl
            | false =>
              have hm : 12 ∈ ([] : List Nat) := by rw [← hr]; exact fl_in (o := _) rfl rfl (by simp [Region.binds])
              cases hm
          subst q12
          clear hr
          obtain rfl := HE.out.1 rfl
          obtain rfl := HE.out.2.1 rfl
          obtain rfl := HE.out.2.2.1 rfl
          obtain rfl := HE.out.2.2.2.1 rfl
          obtain rfl := HE.out.2.2.2.2.1 rfl
          obtain rfl := HE.out.2.2.2.2.2.1 rfl
          obtain rfl := HE.out.2.2.2.2.2.2.1 rfl
          obtain rfl := HE.out.2.2.2.2.2.2.2.1 rfl
          obtain rfl := HE.out.2.2.2.2.2.2.2.2.1 rfl
          obtain rfl := HE.out.2.2.2.2.2.2.2.2.2.1 rfl
          obtain rfl := HE.out.2.2.2.2.2.2.2.2.2.2.1 rfl
          obtain ⟨hp, hvar⟩ := HJ.out.var rfl
          subst hp
          have hvar : W.heap[g]? = some (.cells (ceA (beC l[p] l[k])) 30 (0, 0)) := hvar
          have HVAR := Lib.hid hvar
          clear hvar
          have HUPD := Lib.hid HJ.out.upd
          have HLOW := Lib.hid HJ.out.low
          clear HJ HA HE
          have hlow := HLOW.out
          have n1_4 := Lib.hid (Blk.ne_of_le k1 hlow)
          have n2_4 := Lib.hid (Blk.ne_of_le k2 hlow)
          have n3_4 := Lib.hid (Blk.ne_of_le k3 hlow)
          have L4 := Lib.hid (Nat.le_trans HB.out.size hlow)
          have k4 : Blk W g 30 (ceA (beC l[p] l[k])) := HVAR.out
          replace k1 := k1.upd HUPD.out n1_4.out
          replace k2 := k2.upd HUPD.out n2_4.out
          replace k3 := k3.upd HUPD.out n3_4.out
          replace HB := Lib.hid (HB.out.trans (HUPD.out.below HB.out.size L4.out))
          clear HVAR HUPD HLOW hlow
          go_wp2_with (first
              | ((with_reducible refine at_slot 39 ?_); refine wl_ld0 rfl rfl rfl k2 Try.underlying28 rfl wdInfo ?_)
              | ((with_reducible refine at_slot 41 ?_); refine wl_ld (wdA (beC l[p] l[k]).i) rfl rfl rfl k4 Try.underlying28 rfl wdInfo (ceA_pi (beC l[p] l[k])) ?_)
              | ((with_reducible refine at_slot 42 ?_); refine wl_call rfl rfl Try.func36 (by kernel_rfl) rfl (raddW HN.out.1 _) rfl ?_; intro V2 hb; replace k1 := k1.keep hb; replace k2 := k2.keep hb; replace k3 := k3.keep hb; replace k4 := k4.keep hb; replace HB := Lib.hid (below_tr HB.out hb); clear hb)
              | ((with_reducible refine at_store 4 ?_); refine wl_st0 (A' := (wdA (addU (cutU acc) (beC l[p] l[k]).i))) rfl rfl rfl rfl k2 rfl wdInfo (wdA_one (addU (cutU acc) (beC l[p] l[k]).i)) ?_; intro V3 kn hu; replace k1 := k1.upd hu n1_2.out; replace k3 := k3.upd hu (Ne.symm n2_3.out); replace k4 := k4.upd hu (Ne.symm n2_4.out); replace HB := Lib.hid (upd_below HB.out hu L2.out); clear k2; have k2 : Blk _ g2 _ (wdA (addU (cutU acc) (beC l[p] l[k]).i)) := kn; clear kn hu))
          go_roundw
          case rel =>
            have hp := HPK.out
            subst hp
            obtain ⟨e1, e2⟩ := HRI.out.step HLT.out HEE.out
            refine ⟨p + 1 + 1, acc + (beC l[p] l[p + 1]).i.n, by go_num, HLT.out, RiI.rj (hp := HLT.out) ⟨HB.out, k1, ?_, ?_, e1, e2⟩⟩
            · refine Blk.eq k2 (congrArg wdA ?_)
              show cutU ((cutU acc).n + _) = _
              rw [HN.out.2]
              rfl
            · have h1 := be_bd HEE.out
              have h2 := HRI.out.bd
              rw [Nat.add_mul]
              omega
          case measure => simp [intOf]; omega
        · have HEE := Lib.hid hE
          obtain ⟨E, hEx⟩ : ∃ E, E = beE l[p] l[k] := ⟨_, rfl⟩
          have dE : (E != 0) = true := by rw [hEx]; simpa using hE
          have HEX := Lib.hid hEx
          clear hE hEx
          refine wp_region_fl (J := fun listed act W => ∃ (b0 b1 b2 b3 b4 b5 b6 b7 b8 b9 b10 b11 b12 : Bool) (x0 x1 x2 x3 x4 x5 x6 x7 x8 x9 x10 x12 : Value) (g : Nat), listed = #[b0, b1, b2, b3, b4, b5, b6, b7, b8, b9, b10, b11, b12] ∧ act = { tmps := #[.slice (some { block := b, off := off }) l.length cap, undef, .pointer (some ⟨g1, 0, none⟩), u3, .pointer (some ⟨g2, 0, none⟩), .int .i64 ↑k, .pointer (some ⟨g3, 0, none⟩), x10, x12, .slice (some { block := b, off := off }) l.length cap, .int .i64 ↑l.length, .int .i64 ↑k, .bool true, .int .i64 ↑k, Value.pointer (some { block := b, off := off + k * 4 }), .agg (evA l[k]), .int .i64 ↑k, .bool false, u18, u19, u20, u21, u22, u23, x7, x0, x1, x2, x3, x4, x5, x6, x8, x9, u34, u35, u36, u37, u38, u39, u40, u41, u42, u43, u44, u45, u46, u47, u48, u49, undef], defers := [] } ∧ FJ (V1.heap.size) V1 W 30 (ceA zeroCe) (ceA (beC l[p] l[k])) b10 b11 x10 g ∧ True ∧ ((b0 = true → x0 = .slice (some ⟨b, off, none⟩) l.length cap) ∧ (b1 = true → x1 = .int .i64 (k : Int)) ∧ (b2 = true → x2 = .int .i64 (p : Int)) ∧ (b3 = true → x3 = .pointer (some ⟨b, off + p * 4, none⟩)) ∧ (b4 = true → x4 = .agg (evA l[p])) ∧ (b5 = true → x5 = .agg (evA l[k])) ∧ (b6 = true → x6 = .tuple #[.agg (ceA (beC l[p] l[k])), .int .i64 E]) ∧ (b7 = true → x7 = .tuple #[.agg (ceA (beC l[p] l[k])), .int .i64 E]) ∧ (b8 = true → x8 = .agg (ceA (beC l[p] l[k]))) ∧ (b9 = true → x9 = .int .i64 E) ∧ (b12 = true → x12 = .int .i64 E) ∧ True)) (by kernel_rfl) ⟨false, false, false, false, false, false, false, false, false, false, false, false, false, u25, u26, u27, u28, u29, u30, u31, u24, u32, u33, u7, u8, V1.heap.size, rfl, rfl, FJ.start V1 30 (ceA zeroCe) (ceA (beC l[p] l[k])), trivial, nofun, nofun, nofun, nofun, nofun, nofun, nofun, nofun, nofun, nofun, nofun, trivial⟩ ?_ ?_
          · intro listed act W i hJ hi
            obtain ⟨b0, b1, b2, b3, b4, b5, b6, b7, b8, b9, b10, b11, b12, x0, x1, x2, x3, x4, x5, x6, x7, x8, x9, x10, x12, g, rfl, rfl, hJ, hA, hE⟩ := hJ
            have HJ := Lib.hid hJ
            have HA := Lib.hid hA
            have HE := Lib.hid hE
            obtain ⟨hi1, hi2, hi3⟩ := fl_spec hi
            clear hJ hA hE hi
            have hi4 : i < 13 := hi1
            clear hi1
            have hcase : i = 0 ∨ i = 1 ∨ i = 2 ∨ i = 3 ∨ i = 4 ∨ i = 5 ∨ i = 6 ∨ i = 7 ∨ i = 8 ∨ i = 9 ∨ i = 10 ∨ i = 11 ∨ i = 12 := by omega
            clear hi4
            rcases hcase with rfl | rfl | rfl | rfl | rfl | rfl | rfl | rfl | rfl | rfl | rfl | rfl | rfl
            · refine wpOp_step (o := _) rfl (fun K hK => ?_)
              have HK := Lib.hid hK
              clear hK
              clear hi3 hi2
              go_simp
              exact HK.out _ _ ⟨_, _, _, _, _, _, _, _, _, _, _, _, _, _, _, _, _, _, _, _, _, _, _, _, _, _, rfl, rfl, HJ.out, trivial, fun _ => rfl, HE.out.2.1, HE.out.2.2.1, HE.out.2.2.2.1, HE.out.2.2.2.2.1, HE.out.2.2.2.2.2.1, HE.out.2.2.2.2.2.2.1, HE.out.2.2.2.2.2.2.2.1, HE.out.2.2.2.2.2.2.2.2.1, HE.out.2.2.2.2.2.2.2.2.2.1, HE.out.2.2.2.2.2.2.2.2.2.2.1, trivial⟩
            · refine wpOp_step (o := _) rfl (fun K hK => ?_)
              have HK := Lib.hid hK
              clear hK
              clear hi3 hi2
              go_simp
              exact HK.out _ _ ⟨_, _, _, _, _, _, _, _, _, _, _, _, _, _, _, _, _, _, _, _, _, _, _, _, _, _, rfl, rfl, HJ.out, trivial, HE.out.1, fun _ => rfl, HE.out.2.2.1, HE.out.2.2.2.1, HE.out.2.2.2.2.1, HE.out.2.2.2.2.2.1, HE.out.2.2.2.2.2.2.1, HE.out.2.2.2.2.2.2.2.1, HE.out.2.2.2.2.2.2.2.2.1, HE.out.2.2.2.2.2.2.2.2.2.1, HE.out.2.2.2.2.2.2.2.2.2.2.1, trivial⟩
            · refine wpOp_step (o := _) rfl (fun K hK => ?_)
              have HK := Lib.hid hK
              clear hK
              have hd := hi3 _ rfl
              simp [Region.binds] at hd
              have q1 : b1 = true := by (cases b1 with | true => rfl | false => simp at hd)
              clear hi3 hi2 hd
              obtain rfl := HE.out.2.1 q1
              clear q1
              go_simp
              exact HK.out _ _ ⟨_, _, _, _, _, _, _, _, _, _, _, _, _, _, _, _, _, _, _, _, _, _, _, _, _, _, rfl, rfl, HJ.out, trivial, HE.out.1, HE.out.2.1, fun _ => rfl, HE.out.2.2.2.1, HE.out.2.2.2.2.1, HE.out.2.2.2.2.2.1, HE.out.2.2.2.2.2.2.1, HE.out.2.2.2.2.2.2.2.1, HE.out.2.2.2.2.2.2.2.2.1, HE.out.2.2.2.2.2.2.2.2.2.1, HE.out.2.2.2.2.2.2.2.2.2.2.1, trivial⟩
            · refine wpOp_step (o := _) rfl (fun K hK => ?_)
              have HK := Lib.hid hK
              clear hK
              have hd := hi3 _ rfl
              simp [Region.binds] at hd
              have q0 : b0 = true := by (cases b0 with | true => rfl | false => simp at hd)
              have q2 : b2 = true := by (cases b2 with | true => rfl | false => simp at hd)
              clear hi3 hi2 hd
              obtain rfl := HE.out.1 q0
              obtain rfl := HE.out.2.2.1 q2
              clear q0 q2
              go_simp
              exact HK.out _ _ ⟨_, _, _, _, _, _, _, _, _, _, _, _, _, _, _, _, _, _, _, _, _, _, _, _, _, _, rfl, rfl, HJ.out, trivial, HE.out.1, HE.out.2.1, HE.out.2.2.1, fun _ => rfl, HE.out.2.2.2.2.1, HE.out.2.2.2.2.2.1, HE.out.2.2.2.2.2.2.1, HE.out.2.2.2.2.2.2.2.1, HE.out.2.2.2.2.2.2.2.2.1, HE.out.2.2.2.2.2.2.2.2.2.1, HE.out.2.2.2.2.2.2.2.2.2.2.1, trivial⟩
            · refine wpOp_step (o := _) rfl (fun K hK => ?_)
              have HK := Lib.hid hK
              clear hK
              have hd := hi3 _ rfl
              simp [Region.binds] at hd
              have q3 : b3 = true := by (cases b3 with | true => rfl | false => simp at hd)
              clear hi3 hi2 hd
              obtain rfl := HE.out.2.2.2.1 q3
              clear q3
              have hbW := HB.out.trans (HJ.out.upd.below HB.out.size (Nat.le_trans HB.out.size HJ.out.low))
              obtain ⟨cc0, cc1, cc2, cc3⟩ := ev_cells ((HL.out.keep hbW).row p hpl)
              clear hbW
              go_simp
              exact HK.out _ _ ⟨_, _, _, _, _, _, _, _, _, _, _, _, _, _, _, _, _, _, _, _, _, _, _, _, _, _, rfl, rfl, HJ.out, trivial, HE.out.1, HE.out.2.1, HE.out.2.2.1, HE.out.2.2.2.1, fun _ => rfl, HE.out.2.2.2.2.2.1, HE.out.2.2.2.2.2.2.1, HE.out.2.2.2.2.2.2.2.1, HE.out.2.2.2.2.2.2.2.2.1, HE.out.2.2.2.2.2.2.2.2.2.1, HE.out.2.2.2.2.2.2.2.2.2.2.1, trivial⟩
            · refine wpOp_step (o := _) rfl (fun K hK => ?_)
              have HK := Lib.hid hK
              clear hK
              clear hi3 hi2
              refine wq_ldr (B := evA l[k]) rfl rfl rfl ((k3.upd HJ.out.upd (Blk.ne_of_le k3 HJ.out.low)).part 0 (evA l[k]) (fun j _ => by rw [Nat.zero_add])) Try.underlying24 rfl evInfo ?_
              exact HK.out _ _ ⟨_, _, _, _, _, _, _, _, _, _, _, _, _, _, _, _, _, _, _, _, _, _, _, _, _, _, rfl, rfl, HJ.out, trivial, HE.out.1, HE.out.2.1, HE.out.2.2.1, HE.out.2.2.2.1, HE.out.2.2.2.2.1, fun _ => rfl, HE.out.2.2.2.2.2.2.1, HE.out.2.2.2.2.2.2.2.1, HE.out.2.2.2.2.2.2.2.2.1, HE.out.2.2.2.2.2.2.2.2.2.1, HE.out.2.2.2.2.2.2.2.2.2.2.1, trivial⟩
            · refine wpOp_step (o := _) rfl (fun K hK => ?_)
              have HK := Lib.hid hK
              clear hK
              have hd := hi3 _ rfl
              simp [Region.binds] at hd
              have q4 : b4 = true := by (cases b4 with | true => rfl | false => simp at hd)
              have q5 : b5 = true := by (cases b5 with | true => rfl | false => simp at hd)
              clear hi3 hi2 hd
              obtain rfl := HE.out.2.2.2.2.1 q4
              obtain rfl := HE.out.2.2.2.2.2.1 q5
              clear q4 q5
              go_simp
              go_at_call 14
              refine (rbe_is (HL.out.fits p hpl) (HL.out.fits k HLT.out) HEX.out.symm rfl _).mono ?_
              rintro e w1 ⟨rfl, hb⟩
              exact HK.out _ _ ⟨_, _, _, _, _, _, _, _, _, _, _, _, _, _, _, _, _, _, _, _, _, _, _, _, _, _, rfl, rfl, HJ.out.grow hb, trivial, HE.out.1, HE.out.2.1, HE.out.2.2.1, HE.out.2.2.2.1, HE.out.2.2.2.2.1, HE.out.2.2.2.2.2.1, fun _ => rfl, HE.out.2.2.2.2.2.2.2.1, HE.out.2.2.2.2.2.2.2.2.1, HE.out.2.2.2.2.2.2.2.2.2.1, HE.out.2.2.2.2.2.2.2.2.2.2.1, trivial⟩
            · refine wpOp_step (o := _) rfl (fun K hK => ?_)
              have HK := Lib.hid hK
              clear hK
              have hd := hi3 _ rfl
              simp [Region.binds] at hd
              have q6 : b6 = true := by (cases b6 with | true => rfl | false => simp at hd)
              clear hi3 hi2 hd
              obtain rfl := HE.out.2.2.2.2.2.2.1 q6
              clear q6
              go_simp
              exact HK.out _ _ ⟨_, _, _, _, _, _, _, _, _, _, _, _, _, _, _, _, _, _, _, _, _, _, _, _, _, _, rfl, rfl, HJ.out, trivial, HE.out.1, HE.out.2.1, HE.out.2.2.1, HE.out.2.2.2.1, HE.out.2.2.2.2.1, HE.out.2.2.2.2.2.1, HE.out.2.2.2.2.2.2.1, fun _ => rfl, HE.out.2.2.2.2.2.2.2.2.1, HE.out.2.2.2.2.2.2.2.2.2.1, HE.out.2.2.2.2.2.2.2.2.2.2.1, trivial⟩
            · refine wpOp_step (o := _) rfl (fun K hK => ?_)
              have HK := Lib.hid hK
              clear hK
              have hd := hi3 _ rfl
              simp [Region.binds] at hd
              have q7 : b7 = true := by (cases b7 with | true => rfl | false => simp at hd)
              clear hi3 hi2 hd
              obtain rfl := HE.out.2.2.2.2.2.2.2.1 q7
              clear q7
              go_simp
              exact HK.out _ _ ⟨_, _, _, _, _, _, _, _, _, _, _, _, _, _, _, _, _, _, _, _, _, _, _, _, _, _, rfl, rfl, HJ.out, trivial, HE.out.1, HE.out.2.1, HE.out.2.2.1, HE.out.2.2.2.1, HE.out.2.2.2.2.1, HE.out.2.2.2.2.2.1, HE.out.2.2.2.2.2.2.1, HE.out.2.2.2.2.2.2.2.1, fun _ => rfl, HE.out.2.2.2.2.2.2.2.2.2.1, HE.out.2.2.2.2.2.2.2.2.2.2.1, trivial⟩
            · refine wpOp_step (o := _) rfl (fun K hK => ?_)
              have HK := Lib.hid hK
              clear hK
              have hd := hi3 _ rfl
              simp [Region.binds] at hd
              have q7 : b7 = true := by (cases b7 with | true => rfl | false => simp at hd)
              clear hi3 hi2 hd
              obtain rfl := HE.out.2.2.2.2.2.2.2.1 q7
              clear q7
              go_simp
              exact HK.out _ _ ⟨_, _, _, _, _, _, _, _, _, _, _, _, _, _, _, _, _, _, _, _, _, _, _, _, _, _, rfl, rfl, HJ.out, trivial, HE.out.1, HE.out.2.1, HE.out.2.2.1, HE.out.2.2.2.1, HE.out.2.2.2.2.1, HE.out.2.2.2.2.2.1, HE.out.2.2.2.2.2.2.1, HE.out.2.2.2.2.2.2.2.1, HE.out.2.2.2.2.2.2.2.2.1, fun _ => rfl, HE.out.2.2.2.2.2.2.2.2.2.2.1, trivial⟩
            · refine wpOp_step (o := _) rfl (fun K hK => ?_)
              have HK := Lib.hid hK
              clear hK
              clear hi3
              obtain rfl : b10 = false := hi2
              go_simp
              exact HK.out _ _ ⟨_, _, _, _, _, _, _, _, _, _, _, _, _, _, _, _, _, _, _, _, _, _, _, _, _, _, rfl, rfl, HJ.out.alloc, trivial, HE.out.1, HE.out.2.1, HE.out.2.2.1, HE.out.2.2.2.1, HE.out.2.2.2.2.1, HE.out.2.2.2.2.2.1, HE.out.2.2.2.2.2.2.1, HE.out.2.2.2.2.2.2.2.1, HE.out.2.2.2.2.2.2.2.2.1, HE.out.2.2.2.2.2.2.2.2.2.1, HE.out.2.2.2.2.2.2.2.2.2.2.1, trivial⟩
            · refine wpOp_step (o := _) rfl (fun K hK => ?_)
              have HK := Lib.hid hK
              clear hK
              have hd := hi3 _ rfl
              simp [Region.binds] at hd
              have q10 : b10 = true := by (cases b10 with | true => rfl | false => simp at hd)
              have q8 : b8 = true := by (cases b8 with | true => rfl | false => simp at hd)
              clear hi3 hi2 hd
              obtain rfl := HE.out.2.2.2.2.2.2.2.2.1 q8
              subst q10
              clear q8
              obtain ⟨hp, _⟩ := HJ.out.var rfl
              subst hp
              rw [if_pos (by rfl)]
              refine wp_store_mid 30 _ _ rfl g 0 (ceA (beC l[p] l[k])) rfl rfl (HJ.out.there (by rfl)) ceInfo (ceA_one (beC l[p] l[k])) ?_
              exact HK.out _ _ ⟨_, _, _, _, _, _, _, _, _, _, _, _, _, _, _, _, _, _, _, _, _, _, _, _, _, _, rfl, rfl, HJ.out.store (by rfl), trivial, HE.out.1, HE.out.2.1, HE.out.2.2.1, HE.out.2.2.2.1, HE.out.2.2.2.2.1, HE.out.2.2.2.2.2.1, HE.out.2.2.2.2.2.2.1, HE.out.2.2.2.2.2.2.2.1, HE.out.2.2.2.2.2.2.2.2.1, HE.out.2.2.2.2.2.2.2.2.2.1, HE.out.2.2.2.2.2.2.2.2.2.2.1, trivial⟩
            · refine wpOp_step (o := _) rfl (fun K hK => ?_)
              have HK := Lib.hid hK
              clear hK
              have hd := hi3 _ rfl
              simp [Region.binds] at hd
              have q9 : b9 = true := by (cases b9 with | true => rfl | false => simp at hd)
              clear hi3 hi2 hd
              obtain rfl := HE.out.2.2.2.2.2.2.2.2.2.1 q9
              clear q9
              go_simp
              exact HK.out _ _ ⟨_, _, _, _, _, _, _, _, _, _, _, _, _, _, _, _, _, _, _, _, _, _, _, _, _, _, rfl, rfl, HJ.out, trivial, HE.out.1, HE.out.2.1, HE.out.2.2.1, HE.out.2.2.2.1, HE.out.2.2.2.2.1, HE.out.2.2.2.2.2.1, HE.out.2.2.2.2.2.2.1, HE.out.2.2.2.2.2.2.2.1, HE.out.2.2.2.2.2.2.2.2.1, HE.out.2.2.2.2.2.2.2.2.2.1, fun _ => rfl, trivial⟩
          intro listed act W hJ hr
          obtain ⟨b0, b1, b2, b3, b4, b5, b6, b7, b8, b9, b10, b11, b12, x0, x1, x2, x3, x4, x5, x6, x7, x8, x9, x10, x12, g, rfl, rfl, hJ, hA, hE⟩ := hJ
          have HJ := Lib.hid hJ
          have HA := Lib.hid hA
          have HE := Lib.hid hE
          clear hJ hA hE
          have q0 : b0 = true := by
            cases b0 with
            | true => rfl
            | false =>
              have hm : 0 ∈ ([] : List Nat) := by rw [← hr]; exact fl_in (o := _) rfl rfl (by simp [Region.binds])
              cases hm
          subst q0
          have q1 : b1 = true := by
            cases b1 with
            | true => rfl
            | false =>
              have hm : 1 ∈ ([] : List Nat) := by rw [← hr]; exact fl_in (o := _) rfl rfl (by simp [Region.binds])
              cases hm
          subst q1
          have q2 : b2 = true := by
            cases b2 with
            | true => rfl
            | false =>
              have hm : 2 ∈ ([] : List Nat) := by rw [← hr]; exact fl_in (o := _) rfl rfl (by simp [Region.binds])
              cases hm
          subst q2
          have q3 : b3 = true := by
            cases b3 with
            | true => rfl
            | false =>
              have hm : 3 ∈ ([] : List Nat) := by rw [← hr]; exact fl_in (o := _) rfl rfl (by simp [Region.binds])
              cases hm
          subst q3
          have q4 : b4 = true := by
            cases b4 with
            | true => rfl
            | false =>
              have hm : 4 ∈ ([] : List Nat) := by rw [← hr]; exact fl_in (o := _) rfl rfl (by simp [Region.binds])
              cases hm
          subst q4
          have q5 : b5 = true := by
            cases b5 with
            | true => rfl
            | false =>
              have hm : 5 ∈ ([] : List Nat) := by rw [← hr]; exact fl_in (o := _) rfl rfl (by simp [Region.binds])
              cases hm
          subst q5
          have q6 : b6 = true := by
            cases b6 with
            | true => rfl
            | false =>
              have hm : 6 ∈ ([] : List Nat) := by rw [← hr]; exact fl_in (o := _) rfl rfl (by simp [Region.binds])
              cases hm
          subst q6
          have q7 : b7 = true := by
            cases b7 with
            | true => rfl
            | false =>
              have hm : 7 ∈ ([] : List Nat) := by rw [← hr]; exact fl_in (o := _) rfl rfl (by simp [Region.binds])
              cases hm
          subst q7
          have q8 : b8 = true := by
            cases b8 with
            | true => rfl
            | false =>
              have hm : 8 ∈ ([] : List Nat) := by rw [← hr]; exact fl_in (o := _) rfl rfl (by simp [Region.binds])
              cases hm
          subst q8
          have q9 : b9 = true := by
            cases b9 with
            | true => rfl
            | false =>
              have hm : 9 ∈ ([] : List Nat) := by rw [← hr]; exact fl_in (o := _) rfl rfl (by simp [Region.binds])
              cases hm
          subst q9
          have q10 : b10 = true := by
            cases b10 with
            | true => rfl
            | false =>
              have hm : 10 ∈ ([] : List Nat) := by rw [← hr]; exact fl_in (o := _) rfl rfl (by simp [Region.binds])
              cases hm
          subst q10
          have q11 : b11 = true := by
            cases b11 with
            | true => rfl
            | false =>
              have hm : 11 ∈ ([] : List Nat) := by rw [← hr]; exact fl_in (o := _) rfl rfl (by simp [Region.binds])
              cases hm
          subst q11
          have q12 : b12 = true := by
            cases b12 with
            | true => rfl
            | false =>
              have hm : 12 ∈ ([] : List Nat) := by rw [← hr]; exact fl_in (o := _) rfl rfl (by simp [Region.binds])
              cases hm
          subst q12
          clear hr
          obtain rfl := HE.out.1 rfl
          obtain rfl := HE.out.2.1 rfl
          obtain rfl := HE.out.2.2.1 rfl
          obtain rfl := HE.out.2.2.2.1 rfl
          obtain rfl := HE.out.2.2.2.2.1 rfl
          obtain rfl := HE.out.2.2.2.2.2.1 rfl
          obtain rfl := HE.out.2.2.2.2.2.2.1 rfl
          obtain rfl := HE.out.2.2.2.2.2.2.2.1 rfl
          obtain rfl := HE.out.2.2.2.2.2.2.2.2.1 rfl
          obtain rfl := HE.out.2.2.2.2.2.2.2.2.2.1 rfl
          obtain rfl := HE.out.2.2.2.2.2.2.2.2.2.2.1 rfl
          obtain ⟨hp, hvar⟩ := HJ.out.var rfl
          subst hp
          have hvar : W.heap[g]? = some (.cells (ceA (beC l[p] l[k])) 30 (0, 0)) := hvar
          have HVAR := Lib.hid hvar
          clear hvar
          have HUPD := Lib.hid HJ.out.upd
          have HLOW := Lib.hid HJ.out.low
          clear HJ HA HE
          have hlow := HLOW.out
          have n1_4 := Lib.hid (Blk.ne_of_le k1 hlow)
          have n2_4 := Lib.hid (Blk.ne_of_le k2 hlow)
          have n3_4 := Lib.hid (Blk.ne_of_le k3 hlow)
          have L4 := Lib.hid (Nat.le_trans HB.out.size hlow)
          have k4 : Blk W g 30 (ceA (beC l[p] l[k])) := HVAR.out
          replace k1 := k1.upd HUPD.out n1_4.out
          replace k2 := k2.upd HUPD.out n2_4.out
          replace k3 := k3.upd HUPD.out n3_4.out
          replace HB := Lib.hid (HB.out.trans (HUPD.out.below HB.out.size L4.out))
          clear HVAR HUPD HLOW hlow
          go_wp2_with (first
              | ((with_reducible refine at_slot 36 ?_); refine wl_build (v := .agg (wdA U.zero)) rfl rfl (build_wd0 _) rfl ?_)
              | ((with_reducible refine at_store 2 ?_); refine wl_st0 (A' := (wdA U.zero)) rfl rfl rfl rfl k1 rfl wdInfo (wdA_one U.zero) ?_; intro V2 kn hu; replace k2 := k2.upd hu (Ne.symm n1_2.out); replace k3 := k3.upd hu (Ne.symm n1_3.out); replace k4 := k4.upd hu (Ne.symm n1_4.out); replace HB := Lib.hid (upd_below HB.out hu L1.out); clear k1; have k1 : Blk _ g1 _ (wdA U.zero) := kn; clear kn hu))
          have hpk := HPK.out
          subst hpk
          have hno := HRI.out.no HLT.out HEE.out
          refine bodyPost_ret (v := .tuple #[.agg (wdA U.zero), .int .i64 E]) (results_ct Try.results16 _ rfl rfl k1 Try.underlying28 rfl wdInfo) rfl ?_
          exact ⟨be_eq (congrArg wdA (U.ext (by rw [hno.2, cutU_n (show 0 < _ by omega)]; rfl))) (HEX.out.trans hno.1.symm), HB.out⟩
    · have d2 : decide ((k : Int) < l.length) = false := by simp; omega
      obtain ⟨p, hp⟩ : ∃ p, k = p + 1 := ⟨k - 1, by have := HLL.out; omega⟩
      have HD := Lib.hid ((HI.out.ri hp (by omega)).done (by omega))
      clear hp
      go_wp2_with (first
          | ((with_reducible refine at_slot 50 ?_); refine wl_ld0 rfl rfl rfl k2 Try.underlying28 rfl wdInfo ?_)
          | ((with_reducible refine at_store 2 ?_); refine wl_st0 (A' := (wdA (cutU acc))) rfl rfl rfl rfl k1 rfl wdInfo (wdA_one (cutU acc)) ?_; intro V1 kn hu; replace k2 := k2.upd hu (Ne.symm n1_2.out); replace HB := Lib.hid (upd_below HB.out hu L1.out); clear k1; have k1 : Blk _ g1 _ (wdA (cutU acc)) := kn; clear kn hu))
      refine bodyPost_ret (v := .tuple #[.agg (wdA (cutU acc)), .int .i64 0]) (results_ct Try.results16 _ rfl rfl k1 Try.underlying28 rfl wdInfo) rfl ?_
      exact ⟨be_eq (congrArg wdA (congrArg cutU HD.out.2.symm)) HD.out.1.symm, HB.out⟩
set_option maxHeartbeats 4000000 in
set_option maxRecDepth 100000 in
/-- Rises, of one event. -/
theorem rri1 (ao : Option Addr) (b off cap : Nat) (l : List Ev) (hl : l.length = 1) (w : World) (h : EvsAt w ao b off l) :
    Calls Try.prog 16 #[.slice ao l.length cap] w fun e w' => e = .returned (.tuple #[.agg (wdA (cutU (risN l))), .int .i64 (risE l)]) ∧ Below w.heap.size w w' := by
  obtain ⟨e, rfl⟩ : ∃ e, l = [e] := List.length_eq_one_iff.1 hl
  obtain ⟨rfl, hbw⟩ := h.at_ (by simp)
  have ie := h.fits 0 (by simp)
  have hr := h.row 0 (by simp)
  simp only [List.getElem_cons_zero, Nat.zero_mul, Nat.add_zero] at ie hr
  have HEI := Lib.hid ie
  have HR := Lib.hid hr
  clear h hl ie hr
  have hz : (cutU (risN [e])) = U.zero := U.ext (cutU_n (show 0 < _ by omega))
  have HZ := Lib.hid hz
  clear hz
  have HB := Lib.hid (Below.refl w.heap.size w)
  go_enter Try.func16, Try.ntmps16
  go_wp2_with (first
      | ((with_reducible refine at_slot 2 ?_); refine wl_alloc (A := (wdA U.zero)) rfl rfl wd_zero rfl ?_; intro W1 g1 k1 hb hle; have L1 := Lib.hid (Nat.le_trans HB.out.size hle); replace HB := Lib.hid (below_tr HB.out hb); clear hb hle)
      | ((with_reducible refine at_slot 4 ?_); refine wl_alloc (A := (wdA U.zero)) rfl rfl wd_zero rfl ?_; intro W2 g2 k2 hb hle; have n1_2 := Lib.hid (Blk.ne_of_le k1 hle); have L2 := Lib.hid (Nat.le_trans HB.out.size hle); replace k1 := k1.keep hb; replace HB := Lib.hid (below_tr HB.out hb); clear hb hle))
  have HI := Lib.hid k1
  have HI2 := Lib.hid k2
  have HBB := HB
  clear k1 k2 HB
  go_loopw [11] (fun i wr => i = .int .i64 0 ∧ Blk wr g1 28 (wdA U.zero) ∧ Blk wr g2 28 (wdA U.zero) ∧ Below w.heap.size w wr) (fun _ _ => 0)
  case atStart => exact ⟨rfl, HI.out, HI2.out, HBB.out⟩
  case round =>
    obtain ⟨rfl, k1, k2, hb⟩ := hrel
    clear HI HI2 HBB
    have HB := Lib.hid hb
    clear hb
    go_wp2_with (first
        | ((with_reducible refine at_slot 15 ?_); refine wl_ldr (B := (evA e)) rfl rfl rfl (range_below HR.out HB.out hbw) Try.underlying24 rfl evInfo ?_)
        | ((with_reducible refine at_slot 6 ?_); refine wl_alloc (A := (evA zeroEv)) rfl rfl ev_zero rfl ?_; intro W3 g3 k3 hb hle; have n1_3 := Lib.hid (Blk.ne_of_le k1 hle); have n2_3 := Lib.hid (Blk.ne_of_le k2 hle); have L3 := Lib.hid (Nat.le_trans HB.out.size hle); replace k1 := k1.keep hb; replace k2 := k2.keep hb; replace HB := Lib.hid (below_tr HB.out hb); clear hb hle)
        | ((with_reducible refine at_store 6 ?_); refine wl_st0 (A' := (evA e)) rfl rfl rfl rfl k3 rfl evInfo (evA_one e) ?_; intro V1 kn hu; replace k1 := k1.upd hu n1_3.out; replace k2 := k2.upd hu n2_3.out; replace HB := Lib.hid (upd_below HB.out hu L3.out); clear k3; have k3 : Blk _ g3 _ (evA e) := kn; clear kn hu))
    refine wp_region_fl (J := fun listed act W => ∃ (b0 b1 b2 b3 b4 : Bool) (x0 x1 x2 x4 : Value), listed = #[b0, b1, b2, b3, b4] ∧ act = { tmps := #[.slice (some { block := b, off := off }) 1 cap, undef, .pointer (some ⟨g1, 0, none⟩), x4, .pointer (some ⟨g2, 0, none⟩), .int .i64 0, .pointer (some ⟨g3, 0, none⟩), u7, u8, .slice (some { block := b, off := off }) 1 cap, .int .i64 1, .int .i64 0, .bool true, .int .i64 0, Value.pointer (some { block := b, off := off }), .agg (evA e), .int .i64 0, .bool true, .slice (some { block := b, off := off }) 1 cap, .int .i64 1, .bool true, x0, x1, x2, u24, u25, u26, u27, u28, u29, u30, u31, u32, u33, u34, u35, u36, u37, u38, u39, u40, u41, u42, u43, u44, u45, u46, u47, u48, u49, undef], defers := [] } ∧ FJ (w.heap.size) V1 W 28 (wdA U.zero) (wdA U.zero) true b3 (.pointer (some ⟨g1, 0, none⟩)) g1 ∧ True ∧ ((b0 = true → x0 = .agg (wdA U.zero)) ∧ (b1 = true → x1 = .agg (evA e)) ∧ (b2 = true → x2 = .int .i64 (evE e)) ∧ (b4 = true → x4 = .int .i64 (evE e)) ∧ True)) (by kernel_rfl) ⟨false, false, false, false, false, u21, u22, u23, u3, rfl, rfl, FJ.start_old (wdA U.zero) k1 L1.out, trivial, nofun, nofun, nofun, nofun, trivial⟩ ?_ ?_
    · intro listed act W i hJ hi
      obtain ⟨b0, b1, b2, b3, b4, x0, x1, x2, x4, rfl, rfl, hJ, hA, hE⟩ := hJ
      have HJ := Lib.hid hJ
      have HA := Lib.hid hA
      have HE := Lib.hid hE
      obtain ⟨hi1, hi2, hi3⟩ := fl_spec hi
      clear hJ hA hE hi
      have hi4 : i < 5 := hi1
      clear hi1
      have hcase : i = 0 ∨ i = 1 ∨ i = 2 ∨ i = 3 ∨ i = 4 := by omega
      clear hi4
      rcases hcase with rfl | rfl | rfl | rfl | rfl
      · refine wpOp_step (o := _) rfl (fun K hK => ?_)
        have HK := Lib.hid hK
        clear hK
        clear hi3 hi2
        refine wq_ldr (B := wdA U.zero) rfl rfl rfl ((k2.upd HJ.out.upd (Ne.symm n1_2.out)).part 0 (wdA U.zero) (fun j _ => by rw [Nat.zero_add])) Try.underlying28 rfl wdInfo ?_
        exact HK.out _ _ ⟨_, _, _, _, _, _, _, _, _, rfl, rfl, HJ.out, trivial, fun _ => rfl, HE.out.2.1, HE.out.2.2.1, HE.out.2.2.2.1, trivial⟩
      · refine wpOp_step (o := _) rfl (fun K hK => ?_)
        have HK := Lib.hid hK
        clear hK
        clear hi3 hi2
        refine wq_ldr (B := evA e) rfl rfl rfl ((k3.upd HJ.out.upd (Ne.symm n1_3.out)).part 0 (evA e) (fun j _ => by rw [Nat.zero_add])) Try.underlying24 rfl evInfo ?_
        exact HK.out _ _ ⟨_, _, _, _, _, _, _, _, _, rfl, rfl, HJ.out, trivial, HE.out.1, fun _ => rfl, HE.out.2.2.1, HE.out.2.2.2.1, trivial⟩
      · refine wpOp_step (o := _) rfl (fun K hK => ?_)
        have HK := Lib.hid hK
        clear hK
        have hd := hi3 _ rfl
        simp [Region.binds] at hd
        have q1 : b1 = true := by (cases b1 with | true => rfl | false => simp at hd)
        clear hi3 hi2 hd
        obtain rfl := HE.out.2.1 q1
        clear q1
        go_simp
        go_at_call 18
        refine (rev_ck HEI.out _).mono ?_
        rintro x w1 ⟨rfl, hb⟩
        exact HK.out _ _ ⟨_, _, _, _, _, _, _, _, _, rfl, rfl, HJ.out.grow hb, trivial, HE.out.1, HE.out.2.1, fun _ => rfl, HE.out.2.2.2.1, trivial⟩
      · refine wpOp_step (o := _) rfl (fun K hK => ?_)
        have HK := Lib.hid hK
        clear hK
        have hd := hi3 _ rfl
        simp [Region.binds] at hd
        have q0 : b0 = true := by (cases b0 with | true => rfl | false => simp at hd)
        clear hi3 hi2 hd
        obtain rfl := HE.out.1 q0
        clear q0
        obtain ⟨hp, _⟩ := HJ.out.var rfl
        clear hp
        rw [if_pos (by rfl)]
        refine wp_store_mid 28 _ _ rfl g1 0 (wdA U.zero) rfl rfl (HJ.out.there (by rfl)) wdInfo (wdA_one U.zero) ?_
        exact HK.out _ _ ⟨_, _, _, _, _, _, _, _, _, rfl, rfl, HJ.out.store (by rfl), trivial, HE.out.1, HE.out.2.1, HE.out.2.2.1, HE.out.2.2.2.1, trivial⟩
      · refine wpOp_step (o := _) rfl (fun K hK => ?_)
        have HK := Lib.hid hK
        clear hK
        have hd := hi3 _ rfl
        simp [Region.binds] at hd
        have q2 : b2 = true := by (cases b2 with | true => rfl | false => simp at hd)
        clear hi3 hi2 hd
        obtain rfl := HE.out.2.2.1 q2
        clear q2
        go_simp
        exact HK.out _ _ ⟨_, _, _, _, _, _, _, _, _, rfl, rfl, HJ.out, trivial, HE.out.1, HE.out.2.1, HE.out.2.2.1, fun _ => rfl, trivial⟩
    intro listed act W hJ hr
    obtain ⟨b0, b1, b2, b3, b4, x0, x1, x2, x4, rfl, rfl, hJ, hA, hE⟩ := hJ
    have HJ := Lib.hid hJ
    have HA := Lib.hid hA
    have HE := Lib.hid hE
    clear hJ hA hE
    have q0 : b0 = true := by
      cases b0 with
      | true => rfl
      | false =>
        have hm : 0 ∈ ([] : List Nat) := by rw [← hr]; exact fl_in (o := _) rfl rfl (by simp [Region.binds])
        cases hm
    subst q0
    have q1 : b1 = true := by
      cases b1 with
      | true => rfl
      | false =>
        have hm : 1 ∈ ([] : List Nat) := by rw [← hr]; exact fl_in (o := _) rfl rfl (by simp [Region.binds])
        cases hm
    subst q1
    have q2 : b2 = true := by
      cases b2 with
      | true => rfl
      | false =>
        have hm : 2 ∈ ([] : List Nat) := by rw [← hr]; exact fl_in (o := _) rfl rfl (by simp [Region.binds])
        cases hm
    subst q2
    have q3 : b3 = true := by
      cases b3 with
      | true => rfl
      | false =>
        have hm : 3 ∈ ([] : List Nat) := by rw [← hr]; exact fl_in (o := _) rfl rfl (by simp [Region.binds])
        cases hm
    subst q3
    have q4 : b4 = true := by
      cases b4 with
      | true => rfl
      | false =>
        have hm : 4 ∈ ([] : List Nat) := by rw [← hr]; exact fl_in (o := _) rfl rfl (by simp [Region.binds])
        cases hm
    subst q4
    clear hr
    obtain rfl := HE.out.1 rfl
    obtain rfl := HE.out.2.1 rfl
    obtain rfl := HE.out.2.2.1 rfl
    obtain rfl := HE.out.2.2.2.1 rfl
    obtain ⟨hp, hvar⟩ := HJ.out.var rfl
    clear hp
    have hvar : W.heap[g1]? = some (.cells (wdA U.zero) 28 (0, 0)) := hvar
    have HVAR := Lib.hid hvar
    clear hvar
    have HUPD := Lib.hid HJ.out.upd
    have HLOW := Lib.hid HJ.out.low
    clear HJ HA HE
    clear k1
    have k1 : Blk W g1 28 (wdA U.zero) := HVAR.out
    replace HB := Lib.hid (upd_below HB.out HUPD.out L1.out)
    clear HVAR HUPD HLOW
    go_wp2
    refine bodyPost_ret (v := .tuple #[.agg (wdA U.zero), .int .i64 (evE e)]) (results_ct Try.results16 _ rfl rfl k1 Try.underlying28 rfl wdInfo) rfl ?_
    exact ⟨be_eq (congrArg wdA HZ.out.symm) rfl, HB.out⟩
/-- Rises, of any events. -/
theorem rri_any (ao : Option Addr) (b off cap : Nat) (l : List Ev) (hm : l.length ≤ 9223372036854775807) (w : World) (h : EvsAt w ao b off l) :
    Calls Try.prog 16 #[.slice ao l.length cap] w fun e w' => e = .returned (.tuple #[.agg (wdA (cutU (risN l))), .int .i64 (risE l)]) ∧ Below w.heap.size w w' := by
  by_cases h0 : l.length = 0
  · exact rri0 ao b off cap l h0 w h
  · by_cases h1 : l.length = 1
    · exact rri1 ao b off cap l h1 w h
    · exact rri2 ao b off cap l hm (by omega) w h
end Go.Proofs.Ytgijejdehenmpaa
