/-
  WALKS: event.Rises: what it answers, of any events.
-/
import Derived.Test.YtjdjebhimljedaaOf
namespace Go.Proofs.Ytjdjebhimljedaa
open Go Go.RowKit

/-- By how much it rises from p on, and what lies ahead; the first error. -/
noncomputable def riE (p : Ev) : List Ev → Int
  | [] => 0
  | c :: l => if beE p c = 0 then riE c l else beE p c
noncomputable def riN (p : Ev) (acc : Nat) : List Ev → Nat
  | [] => acc
  | c :: l => if beE p c = 0 then riN c (acc + (beC p c).i.n) l else 0
noncomputable def risE : List Ev → Int
  | [] => 0
  | [e] => evE e
  | e :: c :: l => riE e (c :: l)
noncomputable def risN : List Ev → Nat
  | [] => 0
  | [_] => 0
  | e :: c :: l => riN e 0 (c :: l)
theorem be_bd {p c : Ev} (h : beE p c = 0) : (beC p c).i.n ≤ 18446744073709551615 := by
  have hb : EvOk p ∧ EvOk c := by
    refine Classical.byContradiction fun h' => ?_
    rw [beE_no h'] at h
    exact absurd h (by decide)
  have ht : p.t < c.t := by
    refine Classical.byContradiction fun h' => ?_
    rw [beE_time hb.1 hb.2 h'] at h
    exact absurd h (by decide)
  rw [beC_good hb.1 hb.2 ht]
  exact (bt_bd hb.1 hb.2 ht).2.2.2.2.2.2
theorem risE_two {l : List Ev} (h : 1 < l.length) : risE l = riE (l[0]'(by omega)) (l.drop 1) ∧ risN l = riN (l[0]'(by omega)) 0 (l.drop 1) := by
  match l, h with
  | e :: c :: l, _ => exact ⟨rfl, rfl⟩
structure RiI (w wr : World) (g1 g2 : Nat) (l : List Ev) (p : Nat) (hp : p < l.length) (acc : Nat) : Prop where
  below : Below w.heap.size w wr
  b1 : Blk wr g1 26 (wdA U.zero)
  b2 : Blk wr g2 26 (wdA (cutU acc))
  bd : acc ≤ p * 18446744073709551615
  e : risE l = riE l[p] (l.drop (p + 1))
  n : risN l = riN l[p] acc (l.drop (p + 1))
theorem RiI.step {w wr : World} {g1 g2 : Nat} {l : List Ev} {p : Nat} {hp : p < l.length} {acc : Nat} (h : RiI w wr g1 g2 l p hp acc) (hk : p + 1 < l.length) (hE : beE l[p] l[p + 1] = 0) :
    risE l = riE l[p + 1] (l.drop (p + 1 + 1)) ∧ risN l = riN l[p + 1] (acc + (beC l[p] l[p + 1]).i.n) (l.drop (p + 1 + 1)) := by
  rw [h.e, h.n, drop_cons hk]
  constructor
  · show (if _ then _ else _) = _; rw [if_pos hE]
  · show (if _ then _ else _) = _; rw [if_pos hE]
theorem RiI.no {w wr : World} {g1 g2 : Nat} {l : List Ev} {p : Nat} {hp : p < l.length} {acc : Nat} (h : RiI w wr g1 g2 l p hp acc) (hk : p + 1 < l.length) (hE : ¬ beE l[p] l[p + 1] = 0) : risE l = beE l[p] l[p + 1] ∧ risN l = 0 := by
  rw [h.e, h.n, drop_cons hk]
  constructor
  · show (if _ then _ else _) = _; rw [if_neg hE]
  · show (if _ then _ else _) = _; rw [if_neg hE]
theorem RiI.done {w wr : World} {g1 g2 : Nat} {l : List Ev} {p : Nat} {hp : p < l.length} {acc : Nat} (h : RiI w wr g1 g2 l p hp acc) (hk : l.length ≤ p + 1) : risE l = 0 ∧ risN l = acc := by
  rw [h.e, h.n, List.drop_eq_nil_of_le hk]
  exact ⟨rfl, rfl⟩
theorem ev_cells {W : World} {b o : Nat} {e : Ev} (h : W.rangeAt b o (evA e).toList) : W.cell? ⟨b, o, none⟩ = some (.int .i64 e.t) ∧ W.cell? ⟨b, o + 1, none⟩ = some (.int .u64 e.v) ∧ W.cell? ⟨b, o + 2, none⟩ = some (.int .i64 e.c) ∧ W.cell? ⟨b, o + 3, none⟩ = some (.bool e.s) :=
  ⟨by have := h 0 _ rfl; rwa [Nat.add_zero] at this, h 1 _ rfl, h 2 _ rfl, h 3 _ rfl⟩
theorem addW_ok {a b : U} (h : a.n + b.n < 340282366920938463463374607431768211456) (w : World) :
    Calls Try.prog 32 #[.agg (wdA a), .agg (wdA b)] w fun e w' => e = .returned (.tuple #[.agg (wdA (addU a b)), .int .i64 0]) ∧ Below w.heap.size w w' := by
  have := add_any a b w
  rwa [show addE a b = 0 from cutE_lt h] at this

set_option maxHeartbeats 4000000 in
set_option maxRecDepth 100000 in
/-- Rises, of no events. -/
theorem ri0 (ao : Option Addr) (b off cap : Nat) (l : List Ev) (hl : l.length = 0) (w : World) (h : EvsAt w ao b off l) :
    Calls Try.prog 30 #[.slice ao l.length cap] w fun e w' => e = .returned (.tuple #[.agg (wdA (cutU (risN l))), .int .i64 (risE l)]) ∧ Below w.heap.size w w' := by
  have HL := Lib.hid h
  clear h
  obtain rfl : l = [] := List.length_eq_zero_iff.1 hl
  clear hl
  have HB := Lib.hid (Below.refl w.heap.size w)
  go_enter Try.func30, Try.ntmps30
  go_wp2_with (first
      | ((with_reducible refine at_slot 2 ?_); refine wl_alloc (A := (wdA U.zero)) rfl rfl wd_zero rfl ?_; intro W1 g1 k1 hb hle; have L1 := Lib.hid (Nat.le_trans HB.out.size hle); replace HB := Lib.hid (below_tr HB.out hb); clear hb hle)
      | ((with_reducible refine at_slot 4 ?_); refine wl_alloc (A := (wdA U.zero)) rfl rfl wd_zero rfl ?_; intro W2 g2 k2 hb hle; have n1_2 := Lib.hid (Blk.ne_of_le k1 hle); have L2 := Lib.hid (Nat.le_trans HB.out.size hle); replace k1 := k1.keep hb; replace HB := Lib.hid (below_tr HB.out hb); clear hb hle))
  have HI := Lib.hid k1
  have HI2 := Lib.hid k2
  have HBB := HB
  clear k1 k2 HB
  go_loopw [5] (fun i wr => i = .int .i64 1 ∧ Blk wr g1 26 (wdA U.zero) ∧ Blk wr g2 26 (wdA U.zero) ∧ Below w.heap.size w wr) (fun _ _ => 0)
  case atStart => exact ⟨rfl, HI.out, HI2.out, HBB.out⟩
  case round =>
    obtain ⟨rfl, k1, k2, hb⟩ := hrel
    clear HI HI2 HBB
    have HB := Lib.hid hb
    clear hb
    go_wp2_with (first
        | ((with_reducible refine at_slot 52 ?_); refine wl_ld0 rfl rfl rfl k2 Try.underlying26 rfl wdInfo ?_)
        | ((with_reducible refine at_store 2 ?_); refine wl_st0 (A' := (wdA U.zero)) rfl rfl rfl rfl k1 rfl wdInfo (wdA_one U.zero) ?_; intro V1 kn hu; replace k2 := k2.upd hu (Ne.symm n1_2.out); replace HB := Lib.hid (upd_below HB.out hu L1.out); clear k1; have k1 : Blk _ g1 _ (wdA U.zero) := kn; clear kn hu))
    refine bodyPost_ret (v := .tuple #[.agg (wdA U.zero), .int .i64 0]) (results_ct Try.results30 _ rfl rfl k1 Try.underlying26 rfl wdInfo) rfl ?_
    exact ⟨be_eq (congrArg wdA (U.ext (by rw [cutU_n (show risN [] < _ by show 0 < _; omega)]; rfl))) rfl, HB.out⟩
set_option maxHeartbeats 4000000 in
set_option maxRecDepth 100000 in
/-- Rises, of one event. -/
theorem ri1 (ao : Option Addr) (b off cap : Nat) (l : List Ev) (hl : l.length = 1) (w : World) (h : EvsAt w ao b off l) :
    Calls Try.prog 30 #[.slice ao l.length cap] w fun e w' => e = .returned (.tuple #[.agg (wdA (cutU (risN l))), .int .i64 (risE l)]) ∧ Below w.heap.size w w' := by
  obtain ⟨e, rfl⟩ : ∃ e, l = [e] := List.length_eq_one_iff.1 hl
  obtain ⟨rfl, hbw⟩ := h.at_ (by simp)
  have ie := h.fits 0 (by simp)
  have hr := h.row 0 (by simp)
  simp only [List.getElem_cons_zero, Nat.zero_mul, Nat.add_zero] at ie hr
  have HE := Lib.hid ie
  have HR := Lib.hid hr
  clear h hl ie hr
  have hz : (cutU (risN [e])) = U.zero := U.ext (cutU_n (show 0 < _ by omega))
  have HZ := Lib.hid hz
  clear hz
  have HB := Lib.hid (Below.refl w.heap.size w)
  go_enter Try.func30, Try.ntmps30
  go_wp2_with (first
      | ((with_reducible refine at_slot 2 ?_); refine wl_alloc (A := (wdA U.zero)) rfl rfl wd_zero rfl ?_; intro W1 g1 k1 hb hle; have L1 := Lib.hid (Nat.le_trans HB.out.size hle); replace HB := Lib.hid (below_tr HB.out hb); clear hb hle)
      | ((with_reducible refine at_slot 12 ?_); refine wl_build (v := .agg (wdA U.zero)) rfl rfl (build_wd0 _) rfl ?_)
      | ((with_reducible refine at_slot 15 ?_); refine wl_ldr (B := (evA e)) rfl rfl rfl (range_below HR.out HB.out hbw) Try.underlying24 rfl evInfo ?_)
      | ((with_reducible refine at_slot 16 ?_); refine wl_call rfl rfl Try.func17 (by kernel_rfl) rfl (ev_ck HE.out _) rfl ?_; intro V1 hb; replace k1 := k1.keep hb; replace HB := Lib.hid (below_tr HB.out hb); clear hb)
      | ((with_reducible refine at_store 2 ?_); refine wl_st0 (A' := (wdA U.zero)) rfl rfl rfl rfl k1 rfl wdInfo (wdA_one U.zero) ?_; intro V2 kn hu; replace HB := Lib.hid (upd_below HB.out hu L1.out); clear k1; have k1 : Blk _ g1 _ (wdA U.zero) := kn; clear kn hu))
  refine bodyPost_ret (v := .tuple #[.agg (wdA U.zero), .int .i64 (evE e)]) (results_ct Try.results30 _ rfl rfl k1 Try.underlying26 rfl wdInfo) rfl ?_
  exact ⟨be_eq (congrArg wdA HZ.out.symm) rfl, HB.out⟩
set_option maxHeartbeats 4000000 in
set_option maxRecDepth 100000 in
/-- Rises, of two events or more. -/
theorem ri2 (ao : Option Addr) (b off cap : Nat) (l : List Ev) (hm : l.length ≤ 9223372036854775807) (hl : 1 < l.length) (w : World) (h : EvsAt w ao b off l) :
    Calls Try.prog 30 #[.slice ao l.length cap] w fun e w' => e = .returned (.tuple #[.agg (wdA (cutU (risN l))), .int .i64 (risE l)]) ∧ Below w.heap.size w w' := by
  have HL := Lib.hid h
  have HR2 := Lib.hid (risE_two hl)
  obtain ⟨rfl, hbw⟩ := h.at_ (by omega)
  have d1 : ((l.length : Int) == 1) = false := by simp; omega
  have HLL := Lib.hid hl
  have hm' : (l.length : Int) ≤ 9223372036854775807 := by omega
  clear h
  have HB := Lib.hid (Below.refl w.heap.size w)
  go_enter Try.func30, Try.ntmps30
  go_wp2_with (first
      | ((with_reducible refine at_slot 2 ?_); refine wl_alloc (A := (wdA U.zero)) rfl rfl wd_zero rfl ?_; intro W1 g1 k1 hb hle; have L1 := Lib.hid (Nat.le_trans HB.out.size hle); replace HB := Lib.hid (below_tr HB.out hb); clear hb hle)
      | ((with_reducible refine at_slot 4 ?_); refine wl_alloc (A := (wdA U.zero)) rfl rfl wd_zero rfl ?_; intro W2 g2 k2 hb hle; have n1_2 := Lib.hid (Blk.ne_of_le k1 hle); have L2 := Lib.hid (Nat.le_trans HB.out.size hle); replace k1 := k1.keep hb; replace HB := Lib.hid (below_tr HB.out hb); clear hb hle))
  have hlp : 0 < l.length := by have := HLL.out; omega
  have HI := Lib.hid (RiI.mk HB.out k1 k2 (Nat.zero_le _) HR2.out.1 HR2.out.2 : RiI w _ g1 g2 l 0 hlp 0)
  clear k1 k2 HB HR2
  go_loopw [5] (fun i wr => ∃ (p acc : Nat) (hp : p < l.length), i = .int .i64 ((p : Int) + 1) ∧ RiI w wr g1 g2 l p hp acc) (fun i _ => l.length - (intOf i).toNat)
  case atStart => exact ⟨0, 0, hlp, rfl, HI.out⟩
  case round =>
    obtain ⟨p, acc, hp, rfl, hI⟩ := hrel
    clear HI
    have HB := Lib.hid hI.below
    have k1 := hI.b1
    have k2 := hI.b2
    have HI := Lib.hid hI
    clear hI
    have hpi : (p : Int) + 1 ≤ l.length := by omega
    by_cases hlt : p + 1 < l.length
    · have hlt' : (p : Int) + 1 < l.length := by omega
      have d2 : decide ((p : Int) + 1 < l.length) = true := by simp; omega
      have HLT := Lib.hid hlt
      clear hlt
      have i1 : IntKind.i64.wrap (p : Int) = (p : Int) := by rw [IntKind.wrap_i64]; omega
      have i2 : ((p : Int) + 1).toNat = p + 1 := by omega
      have i3 : IntKind.i64.wrap ((p : Int) + 1) = (p : Int) + 1 := by rw [IntKind.wrap_i64]; omega
      go_wp2_with fail
      by_cases hE : beE l[p] l[p + 1] = 0
      · have HEE := Lib.hid hE
        clear hE
        have HN : Hid ((cutU acc).n + (beC l[p] l[p + 1]).i.n < 340282366920938463463374607431768211456 ∧ (cutU acc).n = acc) := Lib.hid (by
          have h1 := be_bd HEE.out
          have h2 := HI.out.bd
          have h3 : p * 18446744073709551615 ≤ 9223372036854775807 * 18446744073709551615 := Nat.mul_le_mul_right _ (by omega)
          have h4 : (cutU acc).n = acc := cutU_n (by omega)
          exact ⟨by omega, h4⟩)
        refine wp_region_fl (J := fun listed act W => ∃ (b0 b1 b2 b3 b4 b5 b6 b7 b8 b9 b10 b11 b12 b13 b14 b15 : Bool) (x0 x1 x2 x3 x4 x5 x6 x7 x8 x9 x10 x11 x12 x13 x15 : Value) (g : Nat), listed = #[b0, b1, b2, b3, b4, b5, b6, b7, b8, b9, b10, b11, b12, b13, b14, b15] ∧ act = { tmps := #[.slice (some { block := b, off := off }) l.length cap, undef, .pointer (some ⟨g1, 0, none⟩), u3, .pointer (some ⟨g2, 0, none⟩), .int .i64 (↑p + 1), x13, x15, u8, .slice (some { block := b, off := off }) l.length cap, .int .i64 ↑l.length, .bool false, undef, undef, undef, undef, undef, .int .i64 (↑p + 1), .slice (some { block := b, off := off }) l.length cap, .int .i64 ↑l.length, .bool true, u21, u22, x10, x0, x1, x2, x3, x4, x5, x6, x7, x8, x9, x11, x12, u36, u37, u38, u39, u40, u41, u42, u43, u44, u45, u46, u47, u48, u49, u50, u51, undef], defers := [] } ∧ FJ (wr.heap.size) wr W 28 (ceA zeroCe) (ceA (beC l[p] l[p + 1])) b13 b14 x13 g ∧ ((b0 = true → x0 = .slice (some ⟨b, off, none⟩) l.length cap) ∧ (b1 = true → x1 = .int .i64 ((p : Int) + 1)) ∧ (b2 = true → x2 = .int .i64 (p : Int)) ∧ (b3 = true → x3 = .pointer (some ⟨b, off + p * 4, none⟩)) ∧ (b4 = true → x4 = .agg (evA l[p])) ∧ (b5 = true → x5 = .slice (some ⟨b, off, none⟩) l.length cap) ∧ (b6 = true → x6 = .int .i64 ((p : Int) + 1)) ∧ (b7 = true → x7 = .pointer (some ⟨b, off + (p + 1) * 4, none⟩)) ∧ (b8 = true → x8 = .agg (evA l[p + 1])) ∧ (b9 = true → x9 = .tuple #[.agg (ceA (beC l[p] l[p + 1])), .int .i64 0]) ∧ (b10 = true → x10 = .tuple #[.agg (ceA (beC l[p] l[p + 1])), .int .i64 0]) ∧ (b11 = true → x11 = .agg (ceA (beC l[p] l[p + 1]))) ∧ (b12 = true → x12 = .int .i64 0) ∧ (b15 = true → x15 = .int .i64 0) ∧ True)) (by kernel_rfl) ⟨false, false, false, false, false, false, false, false, false, false, false, false, false, false, false, false, u24, u25, u26, u27, u28, u29, u30, u31, u32, u33, u23, u34, u35, u6, u7, wr.heap.size, rfl, rfl, FJ.start wr 28 (ceA zeroCe) (ceA (beC l[p] l[p + 1])), nofun, nofun, nofun, nofun, nofun, nofun, nofun, nofun, nofun, nofun, nofun, nofun, nofun, nofun, trivial⟩ ?_ ?_
        · intro listed act W i hJ hi
          obtain ⟨b0, b1, b2, b3, b4, b5, b6, b7, b8, b9, b10, b11, b12, b13, b14, b15, x0, x1, x2, x3, x4, x5, x6, x7, x8, x9, x10, x11, x12, x13, x15, g, rfl, rfl, hJ, hE⟩ := hJ
          have HJ := Lib.hid hJ
          have HE := Lib.hid hE
          obtain ⟨hi1, hi2, hi3⟩ := fl_spec hi
          clear hJ hE hi
          have hi4 : i < 16 := hi1
          clear hi1
          have hcase : i = 0 ∨ i = 1 ∨ i = 2 ∨ i = 3 ∨ i = 4 ∨ i = 5 ∨ i = 6 ∨ i = 7 ∨ i = 8 ∨ i = 9 ∨ i = 10 ∨ i = 11 ∨ i = 12 ∨ i = 13 ∨ i = 14 ∨ i = 15 := by omega
          clear hi4
          rcases hcase with rfl | rfl | rfl | rfl | rfl | rfl | rfl | rfl | rfl | rfl | rfl | rfl | rfl | rfl | rfl | rfl
          · refine wpOp_step (o := _) rfl (fun K hK => ?_)
            have HK := Lib.hid hK
            clear hK
            clear hi3 hi2
            go_simp
            exact HK.out _ _ ⟨_, _, _, _, _, _, _, _, _, _, _, _, _, _, _, _, _, _, _, _, _, _, _, _, _, _, _, _, _, _, _, _, rfl, rfl, HJ.out, fun _ => rfl, HE.out.2.1, HE.out.2.2.1, HE.out.2.2.2.1, HE.out.2.2.2.2.1, HE.out.2.2.2.2.2.1, HE.out.2.2.2.2.2.2.1, HE.out.2.2.2.2.2.2.2.1, HE.out.2.2.2.2.2.2.2.2.1, HE.out.2.2.2.2.2.2.2.2.2.1, HE.out.2.2.2.2.2.2.2.2.2.2.1, HE.out.2.2.2.2.2.2.2.2.2.2.2.1, HE.out.2.2.2.2.2.2.2.2.2.2.2.2.1, HE.out.2.2.2.2.2.2.2.2.2.2.2.2.2.1, trivial⟩
          · refine wpOp_step (o := _) rfl (fun K hK => ?_)
            have HK := Lib.hid hK
            clear hK
            clear hi3 hi2
            go_simp
            exact HK.out _ _ ⟨_, _, _, _, _, _, _, _, _, _, _, _, _, _, _, _, _, _, _, _, _, _, _, _, _, _, _, _, _, _, _, _, rfl, rfl, HJ.out, HE.out.1, fun _ => rfl, HE.out.2.2.1, HE.out.2.2.2.1, HE.out.2.2.2.2.1, HE.out.2.2.2.2.2.1, HE.out.2.2.2.2.2.2.1, HE.out.2.2.2.2.2.2.2.1, HE.out.2.2.2.2.2.2.2.2.1, HE.out.2.2.2.2.2.2.2.2.2.1, HE.out.2.2.2.2.2.2.2.2.2.2.1, HE.out.2.2.2.2.2.2.2.2.2.2.2.1, HE.out.2.2.2.2.2.2.2.2.2.2.2.2.1, HE.out.2.2.2.2.2.2.2.2.2.2.2.2.2.1, trivial⟩
          · refine wpOp_step (o := _) rfl (fun K hK => ?_)
            have HK := Lib.hid hK
            clear hK
            have hd := hi3 _ rfl
            simp [Region.binds] at hd
            have q1 : b1 = true := by (cases b1 with | true => rfl | false => simp at hd)
            clear hi3 hi2 hd
            obtain rfl := HE.out.2.1 q1
            clear q1
            go_simp
            exact HK.out _ _ ⟨_, _, _, _, _, _, _, _, _, _, _, _, _, _, _, _, _, _, _, _, _, _, _, _, _, _, _, _, _, _, _, _, rfl, rfl, HJ.out, HE.out.1, HE.out.2.1, fun _ => rfl, HE.out.2.2.2.1, HE.out.2.2.2.2.1, HE.out.2.2.2.2.2.1, HE.out.2.2.2.2.2.2.1, HE.out.2.2.2.2.2.2.2.1, HE.out.2.2.2.2.2.2.2.2.1, HE.out.2.2.2.2.2.2.2.2.2.1, HE.out.2.2.2.2.2.2.2.2.2.2.1, HE.out.2.2.2.2.2.2.2.2.2.2.2.1, HE.out.2.2.2.2.2.2.2.2.2.2.2.2.1, HE.out.2.2.2.2.2.2.2.2.2.2.2.2.2.1, trivial⟩
          · refine wpOp_step (o := _) rfl (fun K hK => ?_)
            have HK := Lib.hid hK
            clear hK
            have hd := hi3 _ rfl
            simp [Region.binds] at hd
            have q0 : b0 = true := by (cases b0 with | true => rfl | false => simp at hd)
            have q2 : b2 = true := by (cases b2 with | true => rfl | false => simp at hd)
            clear hi3 hi2 hd
            obtain rfl := HE.out.1 q0
            obtain rfl := HE.out.2.2.1 q2
            clear q0 q2
            go_simp
            exact HK.out _ _ ⟨_, _, _, _, _, _, _, _, _, _, _, _, _, _, _, _, _, _, _, _, _, _, _, _, _, _, _, _, _, _, _, _, rfl, rfl, HJ.out, HE.out.1, HE.out.2.1, HE.out.2.2.1, fun _ => rfl, HE.out.2.2.2.2.1, HE.out.2.2.2.2.2.1, HE.out.2.2.2.2.2.2.1, HE.out.2.2.2.2.2.2.2.1, HE.out.2.2.2.2.2.2.2.2.1, HE.out.2.2.2.2.2.2.2.2.2.1, HE.out.2.2.2.2.2.2.2.2.2.2.1, HE.out.2.2.2.2.2.2.2.2.2.2.2.1, HE.out.2.2.2.2.2.2.2.2.2.2.2.2.1, HE.out.2.2.2.2.2.2.2.2.2.2.2.2.2.1, trivial⟩
          · refine wpOp_step (o := _) rfl (fun K hK => ?_)
            have HK := Lib.hid hK
            clear hK
            have hd := hi3 _ rfl
            simp [Region.binds] at hd
            have q3 : b3 = true := by (cases b3 with | true => rfl | false => simp at hd)
            clear hi3 hi2 hd
            obtain rfl := HE.out.2.2.2.1 q3
            clear q3
            have hbW := HB.out.trans (HJ.out.upd.below HB.out.size (Nat.le_trans HB.out.size HJ.out.low))
            obtain ⟨cc0, cc1, cc2, cc3⟩ := ev_cells ((HL.out.keep hbW).row (p) hp)
            clear hbW
            go_simp
            exact HK.out _ _ ⟨_, _, _, _, _, _, _, _, _, _, _, _, _, _, _, _, _, _, _, _, _, _, _, _, _, _, _, _, _, _, _, _, rfl, rfl, HJ.out, HE.out.1, HE.out.2.1, HE.out.2.2.1, HE.out.2.2.2.1, fun _ => rfl, HE.out.2.2.2.2.2.1, HE.out.2.2.2.2.2.2.1, HE.out.2.2.2.2.2.2.2.1, HE.out.2.2.2.2.2.2.2.2.1, HE.out.2.2.2.2.2.2.2.2.2.1, HE.out.2.2.2.2.2.2.2.2.2.2.1, HE.out.2.2.2.2.2.2.2.2.2.2.2.1, HE.out.2.2.2.2.2.2.2.2.2.2.2.2.1, HE.out.2.2.2.2.2.2.2.2.2.2.2.2.2.1, trivial⟩
          · refine wpOp_step (o := _) rfl (fun K hK => ?_)
            have HK := Lib.hid hK
            clear hK
            clear hi3 hi2
            go_simp
            exact HK.out _ _ ⟨_, _, _, _, _, _, _, _, _, _, _, _, _, _, _, _, _, _, _, _, _, _, _, _, _, _, _, _, _, _, _, _, rfl, rfl, HJ.out, HE.out.1, HE.out.2.1, HE.out.2.2.1, HE.out.2.2.2.1, HE.out.2.2.2.2.1, fun _ => rfl, HE.out.2.2.2.2.2.2.1, HE.out.2.2.2.2.2.2.2.1, HE.out.2.2.2.2.2.2.2.2.1, HE.out.2.2.2.2.2.2.2.2.2.1, HE.out.2.2.2.2.2.2.2.2.2.2.1, HE.out.2.2.2.2.2.2.2.2.2.2.2.1, HE.out.2.2.2.2.2.2.2.2.2.2.2.2.1, HE.out.2.2.2.2.2.2.2.2.2.2.2.2.2.1, trivial⟩
          · refine wpOp_step (o := _) rfl (fun K hK => ?_)
            have HK := Lib.hid hK
            clear hK
            clear hi3 hi2
            go_simp
            exact HK.out _ _ ⟨_, _, _, _, _, _, _, _, _, _, _, _, _, _, _, _, _, _, _, _, _, _, _, _, _, _, _, _, _, _, _, _, rfl, rfl, HJ.out, HE.out.1, HE.out.2.1, HE.out.2.2.1, HE.out.2.2.2.1, HE.out.2.2.2.2.1, HE.out.2.2.2.2.2.1, fun _ => rfl, HE.out.2.2.2.2.2.2.2.1, HE.out.2.2.2.2.2.2.2.2.1, HE.out.2.2.2.2.2.2.2.2.2.1, HE.out.2.2.2.2.2.2.2.2.2.2.1, HE.out.2.2.2.2.2.2.2.2.2.2.2.1, HE.out.2.2.2.2.2.2.2.2.2.2.2.2.1, HE.out.2.2.2.2.2.2.2.2.2.2.2.2.2.1, trivial⟩
          · refine wpOp_step (o := _) rfl (fun K hK => ?_)
            have HK := Lib.hid hK
            clear hK
            have hd := hi3 _ rfl
            simp [Region.binds] at hd
            have q5 : b5 = true := by (cases b5 with | true => rfl | false => simp at hd)
            have q6 : b6 = true := by (cases b6 with | true => rfl | false => simp at hd)
            clear hi3 hi2 hd
            obtain rfl := HE.out.2.2.2.2.2.1 q5
            obtain rfl := HE.out.2.2.2.2.2.2.1 q6
            clear q5 q6
            go_simp
            exact HK.out _ _ ⟨_, _, _, _, _, _, _, _, _, _, _, _, _, _, _, _, _, _, _, _, _, _, _, _, _, _, _, _, _, _, _, _, rfl, rfl, HJ.out, HE.out.1, HE.out.2.1, HE.out.2.2.1, HE.out.2.2.2.1, HE.out.2.2.2.2.1, HE.out.2.2.2.2.2.1, HE.out.2.2.2.2.2.2.1, fun _ => rfl, HE.out.2.2.2.2.2.2.2.2.1, HE.out.2.2.2.2.2.2.2.2.2.1, HE.out.2.2.2.2.2.2.2.2.2.2.1, HE.out.2.2.2.2.2.2.2.2.2.2.2.1, HE.out.2.2.2.2.2.2.2.2.2.2.2.2.1, HE.out.2.2.2.2.2.2.2.2.2.2.2.2.2.1, trivial⟩
          · refine wpOp_step (o := _) rfl (fun K hK => ?_)
            have HK := Lib.hid hK
            clear hK
            have hd := hi3 _ rfl
            simp [Region.binds] at hd
            have q7 : b7 = true := by (cases b7 with | true => rfl | false => simp at hd)
            clear hi3 hi2 hd
            obtain rfl := HE.out.2.2.2.2.2.2.2.1 q7
            clear q7
            have hbW := HB.out.trans (HJ.out.upd.below HB.out.size (Nat.le_trans HB.out.size HJ.out.low))
            obtain ⟨cc0, cc1, cc2, cc3⟩ := ev_cells ((HL.out.keep hbW).row (p + 1) HLT.out)
            clear hbW
            go_simp
            exact HK.out _ _ ⟨_, _, _, _, _, _, _, _, _, _, _, _, _, _, _, _, _, _, _, _, _, _, _, _, _, _, _, _, _, _, _, _, rfl, rfl, HJ.out, HE.out.1, HE.out.2.1, HE.out.2.2.1, HE.out.2.2.2.1, HE.out.2.2.2.2.1, HE.out.2.2.2.2.2.1, HE.out.2.2.2.2.2.2.1, HE.out.2.2.2.2.2.2.2.1, fun _ => rfl, HE.out.2.2.2.2.2.2.2.2.2.1, HE.out.2.2.2.2.2.2.2.2.2.2.1, HE.out.2.2.2.2.2.2.2.2.2.2.2.1, HE.out.2.2.2.2.2.2.2.2.2.2.2.2.1, HE.out.2.2.2.2.2.2.2.2.2.2.2.2.2.1, trivial⟩
          · refine wpOp_step (o := _) rfl (fun K hK => ?_)
            have HK := Lib.hid hK
            clear hK
            have hd := hi3 _ rfl
            simp [Region.binds] at hd
            have q4 : b4 = true := by (cases b4 with | true => rfl | false => simp at hd)
            have q8 : b8 = true := by (cases b8 with | true => rfl | false => simp at hd)
            clear hi3 hi2 hd
            obtain rfl := HE.out.2.2.2.2.1 q4
            obtain rfl := HE.out.2.2.2.2.2.2.2.2.1 q8
            clear q4 q8
            go_simp
            go_at_call 20
            refine (be_is (HL.out.fits p hp) (HL.out.fits (p + 1) HLT.out) HEE.out rfl _).mono ?_
            rintro e w1 ⟨rfl, hb⟩
            exact HK.out _ _ ⟨_, _, _, _, _, _, _, _, _, _, _, _, _, _, _, _, _, _, _, _, _, _, _, _, _, _, _, _, _, _, _, _, rfl, rfl, HJ.out.grow hb, HE.out.1, HE.out.2.1, HE.out.2.2.1, HE.out.2.2.2.1, HE.out.2.2.2.2.1, HE.out.2.2.2.2.2.1, HE.out.2.2.2.2.2.2.1, HE.out.2.2.2.2.2.2.2.1, HE.out.2.2.2.2.2.2.2.2.1, fun _ => rfl, HE.out.2.2.2.2.2.2.2.2.2.2.1, HE.out.2.2.2.2.2.2.2.2.2.2.2.1, HE.out.2.2.2.2.2.2.2.2.2.2.2.2.1, HE.out.2.2.2.2.2.2.2.2.2.2.2.2.2.1, trivial⟩
          · refine wpOp_step (o := _) rfl (fun K hK => ?_)
            have HK := Lib.hid hK
            clear hK
            have hd := hi3 _ rfl
            simp [Region.binds] at hd
            have q9 : b9 = true := by (cases b9 with | true => rfl | false => simp at hd)
            clear hi3 hi2 hd
            obtain rfl := HE.out.2.2.2.2.2.2.2.2.2.1 q9
            clear q9
            go_simp
            exact HK.out _ _ ⟨_, _, _, _, _, _, _, _, _, _, _, _, _, _, _, _, _, _, _, _, _, _, _, _, _, _, _, _, _, _, _, _, rfl, rfl, HJ.out, HE.out.1, HE.out.2.1, HE.out.2.2.1, HE.out.2.2.2.1, HE.out.2.2.2.2.1, HE.out.2.2.2.2.2.1, HE.out.2.2.2.2.2.2.1, HE.out.2.2.2.2.2.2.2.1, HE.out.2.2.2.2.2.2.2.2.1, HE.out.2.2.2.2.2.2.2.2.2.1, fun _ => rfl, HE.out.2.2.2.2.2.2.2.2.2.2.2.1, HE.out.2.2.2.2.2.2.2.2.2.2.2.2.1, HE.out.2.2.2.2.2.2.2.2.2.2.2.2.2.1, trivial⟩
          · refine wpOp_step (o := _) rfl (fun K hK => ?_)
            have HK := Lib.hid hK
            clear hK
            have hd := hi3 _ rfl
            simp [Region.binds] at hd
            have q10 : b10 = true := by (cases b10 with | true => rfl | false => simp at hd)
            clear hi3 hi2 hd
            obtain rfl := HE.out.2.2.2.2.2.2.2.2.2.2.1 q10
            clear q10
            go_simp
            exact HK.out _ _ ⟨_, _, _, _, _, _, _, _, _, _, _, _, _, _, _, _, _, _, _, _, _, _, _, _, _, _, _, _, _, _, _, _, rfl, rfl, HJ.out, HE.out.1, HE.out.2.1, HE.out.2.2.1, HE.out.2.2.2.1, HE.out.2.2.2.2.1, HE.out.2.2.2.2.2.1, HE.out.2.2.2.2.2.2.1, HE.out.2.2.2.2.2.2.2.1, HE.out.2.2.2.2.2.2.2.2.1, HE.out.2.2.2.2.2.2.2.2.2.1, HE.out.2.2.2.2.2.2.2.2.2.2.1, fun _ => rfl, HE.out.2.2.2.2.2.2.2.2.2.2.2.2.1, HE.out.2.2.2.2.2.2.2.2.2.2.2.2.2.1, trivial⟩
          · refine wpOp_step (o := _) rfl (fun K hK => ?_)
            have HK := Lib.hid hK
            clear hK
            have hd := hi3 _ rfl
            simp [Region.binds] at hd
            have q10 : b10 = true := by (cases b10 with | true => rfl | false => simp at hd)
            clear hi3 hi2 hd
            obtain rfl := HE.out.2.2.2.2.2.2.2.2.2.2.1 q10
            clear q10
            go_simp
            exact HK.out _ _ ⟨_, _, _, _, _, _, _, _, _, _, _, _, _, _, _, _, _, _, _, _, _, _, _, _, _, _, _, _, _, _, _, _, rfl, rfl, HJ.out, HE.out.1, HE.out.2.1, HE.out.2.2.1, HE.out.2.2.2.1, HE.out.2.2.2.2.1, HE.out.2.2.2.2.2.1, HE.out.2.2.2.2.2.2.1, HE.out.2.2.2.2.2.2.2.1, HE.out.2.2.2.2.2.2.2.2.1, HE.out.2.2.2.2.2.2.2.2.2.1, HE.out.2.2.2.2.2.2.2.2.2.2.1, HE.out.2.2.2.2.2.2.2.2.2.2.2.1, fun _ => rfl, HE.out.2.2.2.2.2.2.2.2.2.2.2.2.2.1, trivial⟩
          · refine wpOp_step (o := _) rfl (fun K hK => ?_)
            have HK := Lib.hid hK
            clear hK
            clear hi3
            obtain rfl : b13 = false := hi2
            go_simp
            exact HK.out _ _ ⟨_, _, _, _, _, _, _, _, _, _, _, _, _, _, _, _, _, _, _, _, _, _, _, _, _, _, _, _, _, _, _, _, rfl, rfl, HJ.out.alloc, HE.out.1, HE.out.2.1, HE.out.2.2.1, HE.out.2.2.2.1, HE.out.2.2.2.2.1, HE.out.2.2.2.2.2.1, HE.out.2.2.2.2.2.2.1, HE.out.2.2.2.2.2.2.2.1, HE.out.2.2.2.2.2.2.2.2.1, HE.out.2.2.2.2.2.2.2.2.2.1, HE.out.2.2.2.2.2.2.2.2.2.2.1, HE.out.2.2.2.2.2.2.2.2.2.2.2.1, HE.out.2.2.2.2.2.2.2.2.2.2.2.2.1, HE.out.2.2.2.2.2.2.2.2.2.2.2.2.2.1, trivial⟩
          · refine wpOp_step (o := _) rfl (fun K hK => ?_)
            have HK := Lib.hid hK
            clear hK
            have hd := hi3 _ rfl
            simp [Region.binds] at hd
            have q13 : b13 = true := by (cases b13 with | true => rfl | false => simp at hd)
            have q11 : b11 = true := by (cases b11 with | true => rfl | false => simp at hd)
            clear hi3 hi2 hd
            obtain rfl := HE.out.2.2.2.2.2.2.2.2.2.2.2.1 q11
            subst q13
            clear q11
            obtain ⟨hp, _⟩ := HJ.out.var rfl
            subst hp
            rw [if_pos (by rfl)]
            refine wp_store_mid 28 _ _ rfl g 0 (ceA (beC l[p] l[p + 1])) rfl rfl (HJ.out.there (by rfl)) ceInfo (ceA_one (beC l[p] l[p + 1])) ?_
            exact HK.out _ _ ⟨_, _, _, _, _, _, _, _, _, _, _, _, _, _, _, _, _, _, _, _, _, _, _, _, _, _, _, _, _, _, _, _, rfl, rfl, HJ.out.store (by rfl), HE.out.1, HE.out.2.1, HE.out.2.2.1, HE.out.2.2.2.1, HE.out.2.2.2.2.1, HE.out.2.2.2.2.2.1, HE.out.2.2.2.2.2.2.1, HE.out.2.2.2.2.2.2.2.1, HE.out.2.2.2.2.2.2.2.2.1, HE.out.2.2.2.2.2.2.2.2.2.1, HE.out.2.2.2.2.2.2.2.2.2.2.1, HE.out.2.2.2.2.2.2.2.2.2.2.2.1, HE.out.2.2.2.2.2.2.2.2.2.2.2.2.1, HE.out.2.2.2.2.2.2.2.2.2.2.2.2.2.1, trivial⟩
          · refine wpOp_step (o := _) rfl (fun K hK => ?_)
            have HK := Lib.hid hK
            clear hK
            have hd := hi3 _ rfl
            simp [Region.binds] at hd
            have q12 : b12 = true := by (cases b12 with | true => rfl | false => simp at hd)
            clear hi3 hi2 hd
            obtain rfl := HE.out.2.2.2.2.2.2.2.2.2.2.2.2.1 q12
            clear q12
            go_simp
            exact HK.out _ _ ⟨_, _, _, _, _, _, _, _, _, _, _, _, _, _, _, _, _, _, _, _, _, _, _, _, _, _, _, _, _, _, _, _, rfl, rfl, HJ.out, HE.out.1, HE.out.2.1, HE.out.2.2.1, HE.out.2.2.2.1, HE.out.2.2.2.2.1, HE.out.2.2.2.2.2.1, HE.out.2.2.2.2.2.2.1, HE.out.2.2.2.2.2.2.2.1, HE.out.2.2.2.2.2.2.2.2.1, HE.out.2.2.2.2.2.2.2.2.2.1, HE.out.2.2.2.2.2.2.2.2.2.2.1, HE.out.2.2.2.2.2.2.2.2.2.2.2.1, HE.out.2.2.2.2.2.2.2.2.2.2.2.2.1, fun _ => rfl, trivial⟩
        intro listed act W hJ hr
        obtain ⟨b0, b1, b2, b3, b4, b5, b6, b7, b8, b9, b10, b11, b12, b13, b14, b15, x0, x1, x2, x3, x4, x5, x6, x7, x8, x9, x10, x11, x12, x13, x15, g, rfl, rfl, hJ, hE⟩ := hJ
        have HJ := Lib.hid hJ
        have HE := Lib.hid hE
        clear hJ hE
        have q0 : b0 = true := by
          cases b0 with
          | true => rfl
          | false =>
            have hm : 0 ∈ ([] : List Nat) := by rw [← hr]; exact fl_in (o := _) rfl rfl (by simp [Region.binds])
            cases hm
        subst q0
        have q1 : b1 = true := by
          cases b1 with
          | true => rfl
          | false =>
            have hm : 1 ∈ ([] : List Nat) := by rw [← hr]; exact fl_in (o := _) rfl rfl (by simp [Region.binds])
            cases hm
        subst q1
        have q2 : b2 = true := by
          cases b2 with
          | true => rfl
          | false =>
            have hm : 2 ∈ ([] : List Nat) := by rw [← hr]; exact fl_in (o := _) rfl rfl (by simp [Region.binds])
            cases hm
        subst q2
        have q3 : b3 = true := by
          cases b3 with
          | true => rfl
          | false =>
            have hm : 3 ∈ ([] : List Nat) := by rw [← hr]; exact fl_in (o := _) rfl rfl (by simp [Region.binds])
            cases hm
        subst q3
        have q4 : b4 = true := by
          cases b4 with
          | true => rfl
          | false =>
            have hm : 4 ∈ ([] : List Nat) := by rw [← hr]; exact fl_in (o := _) rfl rfl (by simp [Region.binds])
            cases hm
        subst q4
        have q5 : b5 = true := by
          cases b5 with
          | true => rfl
          | false =>
            have hm : 5 ∈ ([] : List Nat) := by rw [← hr]; exact fl_in (o := _) rfl rfl (by simp [Region.binds])
            cases hm
        subst q5
        have q6 : b6 = true := by
          cases b6 with
          | true => rfl
          | false =>
            have hm : 6 ∈ ([] : List Nat) := by rw [← hr]; exact fl_in (o := _) rfl rfl (by simp [Region.binds])
            cases hm
        subst q6
        have q7 : b7 = true := by
          cases b7 with
          | true => rfl
          | false =>
            have hm : 7 ∈ ([] : List Nat) := by rw [← hr]; exact fl_in (o := _) rfl rfl (by simp [Region.binds])
            cases hm
        subst q7
        have q8 : b8 = true := by
          cases b8 with
          | true => rfl
          | false =>
            have hm : 8 ∈ ([] : List Nat) := by rw [← hr]; exact fl_in (o := _) rfl rfl (by simp [Region.binds])
            cases hm
        subst q8
        have q9 : b9 = true := by
          cases b9 with
          | true => rfl
          | false =>
            have hm : 9 ∈ ([] : List Nat) := by rw [← hr]; exact fl_in (o := _) rfl rfl (by simp [Region.binds])
            cases hm
        subst q9
        have q10 : b10 = true := by
          cases b10 with
          | true => rfl
          | false =>
            have hm : 10 ∈ ([] : List Nat) := by rw [← hr]; exact fl_in (o := _) rfl rfl (by simp [Region.binds])
            cases hm
        subst q10
        have q11 : b11 = true := by
          cases b11 with
          | true => rfl
          | false =>
            have hm : 11 ∈ ([] : List Nat) := by rw [← hr]; exact fl_in (o := _) rfl rfl (by simp [Region.binds])
            cases hm
        subst q11
        have q12 : b12 = true := by
          cases b12 with
          | true => rfl
          | false =>
            have hm : 12 ∈ ([] : List Nat) := by rw [← hr]; exact fl_in (o := _) rfl rfl (by simp [Region.binds])
            cases hm
        subst q12
        have q13 : b13 = true := by
          cases b13 with
          | true => rfl
          | false =>
            have hm : 13 ∈ ([] : List Nat) := by rw [← hr]; exact fl_in (o := _) rfl rfl (by simp [Region.binds])
            cases hm
        subst q13
        have q14 : b14 = true := by
          cases b14 with
          | true => rfl
          | false =>
            have hm : 14 ∈ ([] : List Nat) := by rw [← hr]; exact fl_in (o := _) rfl rfl (by simp [Region.binds])
            cases hm
        subst q14
        have q15 : b15 = true := by
          cases b15 with
          | true => rfl
          | false =>
            have hm : 15 ∈ ([] : List Nat) := by rw [← hr]; exact fl_in (o := _) rfl rfl (by simp [Region.binds])
            cases hm
        subst q15
        clear hr
        obtain rfl := HE.out.1 rfl
        obtain rfl := HE.out.2.1 rfl
        obtain rfl := HE.out.2.2.1 rfl
        obtain rfl := HE.out.2.2.2.1 rfl
        obtain rfl := HE.out.2.2.2.2.1 rfl
        obtain rfl := HE.out.2.2.2.2.2.1 rfl
        obtain rfl := HE.out.2.2.2.2.2.2.1 rfl
        obtain rfl := HE.out.2.2.2.2.2.2.2.1 rfl
        obtain rfl := HE.out.2.2.2.2.2.2.2.2.1 rfl
        obtain rfl := HE.out.2.2.2.2.2.2.2.2.2.1 rfl
        obtain rfl := HE.out.2.2.2.2.2.2.2.2.2.2.1 rfl
        obtain rfl := HE.out.2.2.2.2.2.2.2.2.2.2.2.1 rfl
        obtain rfl := HE.out.2.2.2.2.2.2.2.2.2.2.2.2.1 rfl
        obtain rfl := HE.out.2.2.2.2.2.2.2.2.2.2.2.2.2.1 rfl
        obtain ⟨hp, hvar⟩ := HJ.out.var rfl
        subst hp
        have hvar : W.heap[g]? = some (.cells (ceA (beC l[p] l[p + 1])) 28 (0, 0)) := hvar
        have HVAR := Lib.hid hvar
        clear hvar
        have HUPD := Lib.hid HJ.out.upd
        have HLOW := Lib.hid HJ.out.low
        clear HJ HE
        have hlow := HLOW.out
        have n1_3 := Lib.hid (Blk.ne_of_le k1 hlow)
        have n2_3 := Lib.hid (Blk.ne_of_le k2 hlow)
        have L3 := Lib.hid (Nat.le_trans HB.out.size hlow)
        have k3 : Blk W g 28 (ceA (beC l[p] l[p + 1])) := HVAR.out
        replace k1 := k1.upd HUPD.out n1_3.out
        replace k2 := k2.upd HUPD.out n2_3.out
        replace HB := Lib.hid (HB.out.trans (HUPD.out.below HB.out.size L3.out))
        clear HVAR HUPD HLOW hlow
        go_wp2_with (first
            | ((with_reducible refine at_slot 41 ?_); refine wl_ld0 rfl rfl rfl k2 Try.underlying26 rfl wdInfo ?_)
            | ((with_reducible refine at_slot 43 ?_); refine wl_ld (wdA (beC l[p] l[p + 1]).i) rfl rfl rfl k3 Try.underlying26 rfl wdInfo (ceA_pi (beC l[p] l[p + 1])) ?_)
            | ((with_reducible refine at_slot 44 ?_); refine wl_call rfl rfl Try.func32 (by kernel_rfl) rfl (addW_ok HN.out.1 _) rfl ?_; intro V1 hb; replace k1 := k1.keep hb; replace k2 := k2.keep hb; replace k3 := k3.keep hb; replace HB := Lib.hid (below_tr HB.out hb); clear hb)
            | ((with_reducible refine at_slot 8 ?_); refine wl_alloc (A := (wdA U.zero)) rfl rfl wd_zero rfl ?_; intro W4 g4 k4 hb hle; have n1_4 := Lib.hid (Blk.ne_of_le k1 hle); have n2_4 := Lib.hid (Blk.ne_of_le k2 hle); have n3_4 := Lib.hid (Blk.ne_of_le k3 hle); have L4 := Lib.hid (Nat.le_trans HB.out.size hle); replace k1 := k1.keep hb; replace k2 := k2.keep hb; replace k3 := k3.keep hb; replace HB := Lib.hid (below_tr HB.out hb); clear hb hle)
            | ((with_reducible refine at_store 8 ?_); refine wl_st0 (A' := (wdA (addU (cutU acc) (beC l[p] l[p + 1]).i))) rfl rfl rfl rfl k4 rfl wdInfo (wdA_one (addU (cutU acc) (beC l[p] l[p + 1]).i)) ?_; intro V2 kn hu; replace k1 := k1.upd hu n1_4.out; replace k2 := k2.upd hu n2_4.out; replace k3 := k3.upd hu n3_4.out; replace HB := Lib.hid (upd_below HB.out hu L4.out); clear k4; have k4 : Blk _ g4 _ (wdA (addU (cutU acc) (beC l[p] l[p + 1]).i)) := kn; clear kn hu)
            | ((with_reducible refine at_slot 51 ?_); refine wl_ld0 rfl rfl rfl k4 Try.underlying26 rfl wdInfo ?_)
            | ((with_reducible refine at_store 4 ?_); refine wl_st0 (A' := (wdA (addU (cutU acc) (beC l[p] l[p + 1]).i))) rfl rfl rfl rfl k2 rfl wdInfo (wdA_one (addU (cutU acc) (beC l[p] l[p + 1]).i)) ?_; intro V3 kn hu; replace k1 := k1.upd hu n1_2.out; replace k3 := k3.upd hu (Ne.symm n2_3.out); replace k4 := k4.upd hu (Ne.symm n2_4.out); replace HB := Lib.hid (upd_below HB.out hu L2.out); clear k2; have k2 : Blk _ g2 _ (wdA (addU (cutU acc) (beC l[p] l[p + 1]).i)) := kn; clear kn hu))
        go_roundw
        case rel =>
          obtain ⟨e1, e2⟩ := HI.out.step HLT.out HEE.out
          refine ⟨p + 1, acc + (beC l[p] l[p + 1]).i.n, HLT.out, by go_num, HB.out, k1, ?_, ?_, e1, e2⟩
          · refine Blk.eq k2 (congrArg wdA ?_)
            show cutU ((cutU acc).n + _) = _
            rw [HN.out.2]
          · have h1 := be_bd HEE.out
            have h2 := HI.out.bd
            rw [Nat.add_mul]
            omega
        case measure => simp [intOf]; omega
      · have HEE := Lib.hid hE
        obtain ⟨E, hEx⟩ : ∃ E, E = beE l[p] l[p + 1] := ⟨_, rfl⟩
        have dE : (E != 0) = true := by rw [hEx]; simpa using hE
        have HEX := Lib.hid hEx
        clear hE hEx
        refine wp_region_fl (J := fun listed act W => ∃ (b0 b1 b2 b3 b4 b5 b6 b7 b8 b9 b10 b11 b12 b13 b14 b15 : Bool) (x0 x1 x2 x3 x4 x5 x6 x7 x8 x9 x10 x11 x12 x13 x15 : Value) (g : Nat), listed = #[b0, b1, b2, b3, b4, b5, b6, b7, b8, b9, b10, b11, b12, b13, b14, b15] ∧ act = { tmps := #[.slice (some { block := b, off := off }) l.length cap, undef, .pointer (some ⟨g1, 0, none⟩), u3, .pointer (some ⟨g2, 0, none⟩), .int .i64 (↑p + 1), x13, x15, u8, .slice (some { block := b, off := off }) l.length cap, .int .i64 ↑l.length, .bool false, undef, undef, undef, undef, undef, .int .i64 (↑p + 1), .slice (some { block := b, off := off }) l.length cap, .int .i64 ↑l.length, .bool true, u21, u22, x10, x0, x1, x2, x3, x4, x5, x6, x7, x8, x9, x11, x12, u36, u37, u38, u39, u40, u41, u42, u43, u44, u45, u46, u47, u48, u49, u50, u51, undef], defers := [] } ∧ FJ (wr.heap.size) wr W 28 (ceA zeroCe) (ceA (beC l[p] l[p + 1])) b13 b14 x13 g ∧ ((b0 = true → x0 = .slice (some ⟨b, off, none⟩) l.length cap) ∧ (b1 = true → x1 = .int .i64 ((p : Int) + 1)) ∧ (b2 = true → x2 = .int .i64 (p : Int)) ∧ (b3 = true → x3 = .pointer (some ⟨b, off + p * 4, none⟩)) ∧ (b4 = true → x4 = .agg (evA l[p])) ∧ (b5 = true → x5 = .slice (some ⟨b, off, none⟩) l.length cap) ∧ (b6 = true → x6 = .int .i64 ((p : Int) + 1)) ∧ (b7 = true → x7 = .pointer (some ⟨b, off + (p + 1) * 4, none⟩)) ∧ (b8 = true → x8 = .agg (evA l[p + 1])) ∧ (b9 = true → x9 = .tuple #[.agg (ceA (beC l[p] l[p + 1])), .int .i64 E]) ∧ (b10 = true → x10 = .tuple #[.agg (ceA (beC l[p] l[p + 1])), .int .i64 E]) ∧ (b11 = true → x11 = .agg (ceA (beC l[p] l[p + 1]))) ∧ (b12 = true → x12 = .int .i64 E) ∧ (b15 = true → x15 = .int .i64 E) ∧ True)) (by kernel_rfl) ⟨false, false, false, false, false, false, false, false, false, false, false, false, false, false, false, false, u24, u25, u26, u27, u28, u29, u30, u31, u32, u33, u23, u34, u35, u6, u7, wr.heap.size, rfl, rfl, FJ.start wr 28 (ceA zeroCe) (ceA (beC l[p] l[p + 1])), nofun, nofun, nofun, nofun, nofun, nofun, nofun, nofun, nofun, nofun, nofun, nofun, nofun, nofun, trivial⟩ ?_ ?_
        · intro listed act W i hJ hi
          obtain ⟨b0, b1, b2, b3, b4, b5, b6, b7, b8, b9, b10, b11, b12, b13, b14, b15, x0, x1, x2, x3, x4, x5, x6, x7, x8, x9, x10, x11, x12, x13, x15, g, rfl, rfl, hJ, hE⟩ := hJ
          have HJ := Lib.hid hJ
          have HE := Lib.hid hE
          obtain ⟨hi1, hi2, hi3⟩ := fl_spec hi
          clear hJ hE hi
          have hi4 : i < 16 := hi1
          clear hi1
          have hcase : i = 0 ∨ i = 1 ∨ i = 2 ∨ i = 3 ∨ i = 4 ∨ i = 5 ∨ i = 6 ∨ i = 7 ∨ i = 8 ∨ i = 9 ∨ i = 10 ∨ i = 11 ∨ i = 12 ∨ i = 13 ∨ i = 14 ∨ i = 15 := by omega
          clear hi4
          rcases hcase with rfl | rfl | rfl | rfl | rfl | rfl | rfl | rfl | rfl | rfl | rfl | rfl | rfl | rfl | rfl | rfl
          · refine wpOp_step (o := _) rfl (fun K hK => ?_)
            have HK := Lib.hid hK
            clear hK
            clear hi3 hi2
            go_simp
            exact HK.out _ _ ⟨_, _, _, _, _, _, _, _, _, _, _, _, _, _, _, _, _, _, _, _, _, _, _, _, _, _, _, _, _, _, _, _, rfl, rfl, HJ.out, fun _ => rfl, HE.out.2.1, HE.out.2.2.1, HE.out.2.2.2.1, HE.out.2.2.2.2.1, HE.out.2.2.2.2.2.1, HE.out.2.2.2.2.2.2.1, HE.out.2.2.2.2.2.2.2.1, HE.out.2.2.2.2.2.2.2.2.1, HE.out.2.2.2.2.2.2.2.2.2.1, HE.out.2.2.2.2.2.2.2.2.2.2.1, HE.out.2.2.2.2.2.2.2.2.2.2.2.1, HE.out.2.2.2.2.2.2.2.2.2.2.2.2.1, HE.out.2.2.2.2.2.2.2.2.2.2.2.2.2.1, trivial⟩
          · refine wpOp_step (o := _) rfl (fun K hK => ?_)
            have HK := Lib.hid hK
            clear hK
            clear hi3 hi2
            go_simp
            exact HK.out _ _ ⟨_, _, _, _, _, _, _, _, _, _, _, _, _, _, _, _, _, _, _, _, _, _, _, _, _, _, _, _, _, _, _, _, rfl, rfl, HJ.out, HE.out.1, fun _ => rfl, HE.out.2.2.1, HE.out.2.2.2.1, HE.out.2.2.2.2.1, HE.out.2.2.2.2.2.1, HE.out.2.2.2.2.2.2.1, HE.out.2.2.2.2.2.2.2.1, HE.out.2.2.2.2.2.2.2.2.1, HE.out.2.2.2.2.2.2.2.2.2.1, HE.out.2.2.2.2.2.2.2.2.2.2.1, HE.out.2.2.2.2.2.2.2.2.2.2.2.1, HE.out.2.2.2.2.2.2.2.2.2.2.2.2.1, HE.out.2.2.2.2.2.2.2.2.2.2.2.2.2.1, trivial⟩
          · refine wpOp_step (o := _) rfl (fun K hK => ?_)
            have HK := Lib.hid hK
            clear hK
            have hd := hi3 _ rfl
            simp [Region.binds] at hd
            have q1 : b1 = true := by (cases b1 with | true => rfl | false => simp at hd)
            clear hi3 hi2 hd
            obtain rfl := HE.out.2.1 q1
            clear q1
            go_simp
            exact HK.out _ _ ⟨_, _, _, _, _, _, _, _, _, _, _, _, _, _, _, _, _, _, _, _, _, _, _, _, _, _, _, _, _, _, _, _, rfl, rfl, HJ.out, HE.out.1, HE.out.2.1, fun _ => rfl, HE.out.2.2.2.1, HE.out.2.2.2.2.1, HE.out.2.2.2.2.2.1, HE.out.2.2.2.2.2.2.1, HE.out.2.2.2.2.2.2.2.1, HE.out.2.2.2.2.2.2.2.2.1, HE.out.2.2.2.2.2.2.2.2.2.1, HE.out.2.2.2.2.2.2.2.2.2.2.1, HE.out.2.2.2.2.2.2.2.2.2.2.2.1, HE.out.2.2.2.2.2.2.2.2.2.2.2.2.1, HE.out.2.2.2.2.2.2.2.2.2.2.2.2.2.1, trivial⟩
          · refine wpOp_step (o := _) rfl (fun K hK => ?_)
            have HK := Lib.hid hK
            clear hK
            have hd := hi3 _ rfl
            simp [Region.binds] at hd
            have q0 : b0 = true := by (cases b0 with | true => rfl | false => simp at hd)
            have q2 : b2 = true := by (cases b2 with | true => rfl | false => simp at hd)
            clear hi3 hi2 hd
            obtain rfl := HE.out.1 q0
            obtain rfl := HE.out.2.2.1 q2
            clear q0 q2
            go_simp
            exact HK.out _ _ ⟨_, _, _, _, _, _, _, _, _, _, _, _, _, _, _, _, _, _, _, _, _, _, _, _, _, _, _, _, _, _, _, _, rfl, rfl, HJ.out, HE.out.1, HE.out.2.1, HE.out.2.2.1, fun _ => rfl, HE.out.2.2.2.2.1, HE.out.2.2.2.2.2.1, HE.out.2.2.2.2.2.2.1, HE.out.2.2.2.2.2.2.2.1, HE.out.2.2.2.2.2.2.2.2.1, HE.out.2.2.2.2.2.2.2.2.2.1, HE.out.2.2.2.2.2.2.2.2.2.2.1, HE.out.2.2.2.2.2.2.2.2.2.2.2.1, HE.out.2.2.2.2.2.2.2.2.2.2.2.2.1, HE.out.2.2.2.2.2.2.2.2.2.2.2.2.2.1, trivial⟩
          · refine wpOp_step (o := _) rfl (fun K hK => ?_)
            have HK := Lib.hid hK
            clear hK
            have hd := hi3 _ rfl
            simp [Region.binds] at hd
            have q3 : b3 = true := by (cases b3 with | true => rfl | false => simp at hd)
            clear hi3 hi2 hd
            obtain rfl := HE.out.2.2.2.1 q3
            clear q3
            have hbW := HB.out.trans (HJ.out.upd.below HB.out.size (Nat.le_trans HB.out.size HJ.out.low))
            obtain ⟨cc0, cc1, cc2, cc3⟩ := ev_cells ((HL.out.keep hbW).row (p) hp)
            clear hbW
            go_simp
            exact HK.out _ _ ⟨_, _, _, _, _, _, _, _, _, _, _, _, _, _, _, _, _, _, _, _, _, _, _, _, _, _, _, _, _, _, _, _, rfl, rfl, HJ.out, HE.out.1, HE.out.2.1, HE.out.2.2.1, HE.out.2.2.2.1, fun _ => rfl, HE.out.2.2.2.2.2.1, HE.out.2.2.2.2.2.2.1, HE.out.2.2.2.2.2.2.2.1, HE.out.2.2.2.2.2.2.2.2.1, HE.out.2.2.2.2.2.2.2.2.2.1, HE.out.2.2.2.2.2.2.2.2.2.2.1, HE.out.2.2.2.2.2.2.2.2.2.2.2.1, HE.out.2.2.2.2.2.2.2.2.2.2.2.2.1, HE.out.2.2.2.2.2.2.2.2.2.2.2.2.2.1, trivial⟩
          · refine wpOp_step (o := _) rfl (fun K hK => ?_)
            have HK := Lib.hid hK
            clear hK
            clear hi3 hi2
            go_simp
            exact HK.out _ _ ⟨_, _, _, _, _, _, _, _, _, _, _, _, _, _, _, _, _, _, _, _, _, _, _, _, _, _, _, _, _, _, _, _, rfl, rfl, HJ.out, HE.out.1, HE.out.2.1, HE.out.2.2.1, HE.out.2.2.2.1, HE.out.2.2.2.2.1, fun _ => rfl, HE.out.2.2.2.2.2.2.1, HE.out.2.2.2.2.2.2.2.1, HE.out.2.2.2.2.2.2.2.2.1, HE.out.2.2.2.2.2.2.2.2.2.1, HE.out.2.2.2.2.2.2.2.2.2.2.1, HE.out.2.2.2.2.2.2.2.2.2.2.2.1, HE.out.2.2.2.2.2.2.2.2.2.2.2.2.1, HE.out.2.2.2.2.2.2.2.2.2.2.2.2.2.1, trivial⟩
          · refine wpOp_step (o := _) rfl (fun K hK => ?_)
            have HK := Lib.hid hK
            clear hK
            clear hi3 hi2
            go_simp
            exact HK.out _ _ ⟨_, _, _, _, _, _, _, _, _, _, _, _, _, _, _, _, _, _, _, _, _, _, _, _, _, _, _, _, _, _, _, _, rfl, rfl, HJ.out, HE.out.1, HE.out.2.1, HE.out.2.2.1, HE.out.2.2.2.1, HE.out.2.2.2.2.1, HE.out.2.2.2.2.2.1, fun _ => rfl, HE.out.2.2.2.2.2.2.2.1, HE.out.2.2.2.2.2.2.2.2.1, HE.out.2.2.2.2.2.2.2.2.2.1, HE.out.2.2.2.2.2.2.2.2.2.2.1, HE.out.2.2.2.2.2.2.2.2.2.2.2.1, HE.out.2.2.2.2.2.2.2.2.2.2.2.2.1, HE.out.2.2.2.2.2.2.2.2.2.2.2.2.2.1, trivial⟩
          · refine wpOp_step (o := _) rfl (fun K hK => ?_)
            have HK := Lib.hid hK
            clear hK
            have hd := hi3 _ rfl
            simp [Region.binds] at hd
            have q5 : b5 = true := by (cases b5 with | true => rfl | false => simp at hd)
            have q6 : b6 = true := by (cases b6 with | true => rfl | false => simp at hd)
            clear hi3 hi2 hd
            obtain rfl := HE.out.2.2.2.2.2.1 q5
            obtain rfl := HE.out.2.2.2.2.2.2.1 q6
            clear q5 q6
            go_simp
            exact HK.out _ _ ⟨_, _, _, _, _, _, _, _, _, _, _, _, _, _, _, _, _, _, _, _, _, _, _, _, _, _, _, _, _, _, _, _, rfl, rfl, HJ.out, HE.out.1, HE.out.2.1, HE.out.2.2.1, HE.out.2.2.2.1, HE.out.2.2.2.2.1, HE.out.2.2.2.2.2.1, HE.out.2.2.2.2.2.2.1, fun _ => rfl, HE.out.2.2.2.2.2.2.2.2.1, HE.out.2.2.2.2.2.2.2.2.2.1, HE.out.2.2.2.2.2.2.2.2.2.2.1, HE.out.2.2.2.2.2.2.2.2.2.2.2.1, HE.out.2.2.2.2.2.2.2.2.2.2.2.2.1, HE.out.2.2.2.2.2.2.2.2.2.2.2.2.2.1, trivial⟩
          · refine wpOp_step (o := _) rfl (fun K hK => ?_)
            have HK := Lib.hid hK
            clear hK
            have hd := hi3 _ rfl
            simp [Region.binds] at hd
            have q7 : b7 = true := by (cases b7 with | true => rfl | false => simp at hd)
            clear hi3 hi2 hd
            obtain rfl := HE.out.2.2.2.2.2.2.2.1 q7
            clear q7
            have hbW := HB.out.trans (HJ.out.upd.below HB.out.size (Nat.le_trans HB.out.size HJ.out.low))
            obtain ⟨cc0, cc1, cc2, cc3⟩ := ev_cells ((HL.out.keep hbW).row (p + 1) HLT.out)
            clear hbW
            go_simp
            exact HK.out _ _ ⟨_, _, _, _, _, _, _, _, _, _, _, _, _, _, _, _, _, _, _, _, _, _, _, _, _, _, _, _, _, _, _, _, rfl, rfl, HJ.out, HE.out.1, HE.out.2.1, HE.out.2.2.1, HE.out.2.2.2.1, HE.out.2.2.2.2.1, HE.out.2.2.2.2.2.1, HE.out.2.2.2.2.2.2.1, HE.out.2.2.2.2.2.2.2.1, fun _ => rfl, HE.out.2.2.2.2.2.2.2.2.2.1, HE.out.2.2.2.2.2.2.2.2.2.2.1, HE.out.2.2.2.2.2.2.2.2.2.2.2.1, HE.out.2.2.2.2.2.2.2.2.2.2.2.2.1, HE.out.2.2.2.2.2.2.2.2.2.2.2.2.2.1, trivial⟩
          · refine wpOp_step (o := _) rfl (fun K hK => ?_)
            have HK := Lib.hid hK
            clear hK
            have hd := hi3 _ rfl
            simp [Region.binds] at hd
            have q4 : b4 = true := by (cases b4 with | true => rfl | false => simp at hd)
            have q8 : b8 = true := by (cases b8 with | true => rfl | false => simp at hd)
            clear hi3 hi2 hd
            obtain rfl := HE.out.2.2.2.2.1 q4
            obtain rfl := HE.out.2.2.2.2.2.2.2.2.1 q8
            clear q4 q8
            go_simp
            go_at_call 20
            refine (be_is (HL.out.fits p hp) (HL.out.fits (p + 1) HLT.out) HEX.out.symm rfl _).mono ?_
            rintro e w1 ⟨rfl, hb⟩
            exact HK.out _ _ ⟨_, _, _, _, _, _, _, _, _, _, _, _, _, _, _, _, _, _, _, _, _, _, _, _, _, _, _, _, _, _, _, _, rfl, rfl, HJ.out.grow hb, HE.out.1, HE.out.2.1, HE.out.2.2.1, HE.out.2.2.2.1, HE.out.2.2.2.2.1, HE.out.2.2.2.2.2.1, HE.out.2.2.2.2.2.2.1, HE.out.2.2.2.2.2.2.2.1, HE.out.2.2.2.2.2.2.2.2.1, fun _ => rfl, HE.out.2.2.2.2.2.2.2.2.2.2.1, HE.out.2.2.2.2.2.2.2.2.2.2.2.1, HE.out.2.2.2.2.2.2.2.2.2.2.2.2.1, HE.out.2.2.2.2.2.2.2.2.2.2.2.2.2.1, trivial⟩
          · refine wpOp_step (o := _) rfl (fun K hK => ?_)
            have HK := Lib.hid hK
            clear hK
            have hd := hi3 _ rfl
            simp [Region.binds] at hd
            have q9 : b9 = true := by (cases b9 with | true => rfl | false => simp at hd)
            clear hi3 hi2 hd
            obtain rfl := HE.out.2.2.2.2.2.2.2.2.2.1 q9
            clear q9
            go_simp
            exact HK.out _ _ ⟨_, _, _, _, _, _, _, _, _, _, _, _, _, _, _, _, _, _, _, _, _, _, _, _, _, _, _, _, _, _, _, _, rfl, rfl, HJ.out, HE.out.1, HE.out.2.1, HE.out.2.2.1, HE.out.2.2.2.1, HE.out.2.2.2.2.1, HE.out.2.2.2.2.2.1, HE.out.2.2.2.2.2.2.1, HE.out.2.2.2.2.2.2.2.1, HE.out.2.2.2.2.2.2.2.2.1, HE.out.2.2.2.2.2.2.2.2.2.1, fun _ => rfl, HE.out.2.2.2.2.2.2.2.2.2.2.2.1, HE.out.2.2.2.2.2.2.2.2.2.2.2.2.1, HE.out.2.2.2.2.2.2.2.2.2.2.2.2.2.1, trivial⟩
          · refine wpOp_step (o := _) rfl (fun K hK => ?_)
            have HK := Lib.hid hK
            clear hK
            have hd := hi3 _ rfl
            simp [Region.binds] at hd
            have q10 : b10 = true := by (cases b10 with | true => rfl | false => simp at hd)
            clear hi3 hi2 hd
            obtain rfl := HE.out.2.2.2.2.2.2.2.2.2.2.1 q10
            clear q10
            go_simp
            exact HK.out _ _ ⟨_, _, _, _, _, _, _, _, _, _, _, _, _, _, _, _, _, _, _, _, _, _, _, _, _, _, _, _, _, _, _, _, rfl, rfl, HJ.out, HE.out.1, HE.out.2.1, HE.out.2.2.1, HE.out.2.2.2.1, HE.out.2.2.2.2.1, HE.out.2.2.2.2.2.1, HE.out.2.2.2.2.2.2.1, HE.out.2.2.2.2.2.2.2.1, HE.out.2.2.2.2.2.2.2.2.1, HE.out.2.2.2.2.2.2.2.2.2.1, HE.out.2.2.2.2.2.2.2.2.2.2.1, fun _ => rfl, HE.out.2.2.2.2.2.2.2.2.2.2.2.2.1, HE.out.2.2.2.2.2.2.2.2.2.2.2.2.2.1, trivial⟩
          · refine wpOp_step (o := _) rfl (fun K hK => ?_)
            have HK := Lib.hid hK
            clear hK
            have hd := hi3 _ rfl
            simp [Region.binds] at hd
            have q10 : b10 = true := by (cases b10 with | true => rfl | false => simp at hd)
            clear hi3 hi2 hd
            obtain rfl := HE.out.2.2.2.2.2.2.2.2.2.2.1 q10
            clear q10
            go_simp
            exact HK.out _ _ ⟨_, _, _, _, _, _, _, _, _, _, _, _, _, _, _, _, _, _, _, _, _, _, _, _, _, _, _, _, _, _, _, _, rfl, rfl, HJ.out, HE.out.1, HE.out.2.1, HE.out.2.2.1, HE.out.2.2.2.1, HE.out.2.2.2.2.1, HE.out.2.2.2.2.2.1, HE.out.2.2.2.2.2.2.1, HE.out.2.2.2.2.2.2.2.1, HE.out.2.2.2.2.2.2.2.2.1, HE.out.2.2.2.2.2.2.2.2.2.1, HE.out.2.2.2.2.2.2.2.2.2.2.1, HE.out.2.2.2.2.2.2.2.2.2.2.2.1, fun _ => rfl, HE.out.2.2.2.2.2.2.2.2.2.2.2.2.2.1, trivial⟩
          · refine wpOp_step (o := _) rfl (fun K hK => ?_)
            have HK := Lib.hid hK
            clear hK
            clear hi3
            obtain rfl : b13 = false := hi2
            go_simp
            exact HK.out _ _ ⟨_, _, _, _, _, _, _, _, _, _, _, _, _, _, _, _, _, _, _, _, _, _, _, _, _, _, _, _, _, _, _, _, rfl, rfl, HJ.out.alloc, HE.out.1, HE.out.2.1, HE.out.2.2.1, HE.out.2.2.2.1, HE.out.2.2.2.2.1, HE.out.2.2.2.2.2.1, HE.out.2.2.2.2.2.2.1, HE.out.2.2.2.2.2.2.2.1, HE.out.2.2.2.2.2.2.2.2.1, HE.out.2.2.2.2.2.2.2.2.2.1, HE.out.2.2.2.2.2.2.2.2.2.2.1, HE.out.2.2.2.2.2.2.2.2.2.2.2.1, HE.out.2.2.2.2.2.2.2.2.2.2.2.2.1, HE.out.2.2.2.2.2.2.2.2.2.2.2.2.2.1, trivial⟩
          · refine wpOp_step (o := _) rfl (fun K hK => ?_)
            have HK := Lib.hid hK
            clear hK
            have hd := hi3 _ rfl
            simp [Region.binds] at hd
            have q13 : b13 = true := by (cases b13 with | true => rfl | false => simp at hd)
            have q11 : b11 = true := by (cases b11 with | true => rfl | false => simp at hd)
            clear hi3 hi2 hd
            obtain rfl := HE.out.2.2.2.2.2.2.2.2.2.2.2.1 q11
            subst q13
            clear q11
            obtain ⟨hp, _⟩ := HJ.out.var rfl
            subst hp
            rw [if_pos (by rfl)]
            refine wp_store_mid 28 _ _ rfl g 0 (ceA (beC l[p] l[p + 1])) rfl rfl (HJ.out.there (by rfl)) ceInfo (ceA_one (beC l[p] l[p + 1])) ?_
            exact HK.out _ _ ⟨_, _, _, _, _, _, _, _, _, _, _, _, _, _, _, _, _, _, _, _, _, _, _, _, _, _, _, _, _, _, _, _, rfl, rfl, HJ.out.store (by rfl), HE.out.1, HE.out.2.1, HE.out.2.2.1, HE.out.2.2.2.1, HE.out.2.2.2.2.1, HE.out.2.2.2.2.2.1, HE.out.2.2.2.2.2.2.1, HE.out.2.2.2.2.2.2.2.1, HE.out.2.2.2.2.2.2.2.2.1, HE.out.2.2.2.2.2.2.2.2.2.1, HE.out.2.2.2.2.2.2.2.2.2.2.1, HE.out.2.2.2.2.2.2.2.2.2.2.2.1, HE.out.2.2.2.2.2.2.2.2.2.2.2.2.1, HE.out.2.2.2.2.2.2.2.2.2.2.2.2.2.1, trivial⟩
          · refine wpOp_step (o := _) rfl (fun K hK => ?_)
            have HK := Lib.hid hK
            clear hK
            have hd := hi3 _ rfl
            simp [Region.binds] at hd
            have q12 : b12 = true := by (cases b12 with | true => rfl | false => simp at hd)
            clear hi3 hi2 hd
            obtain rfl := HE.out.2.2.2.2.2.2.2.2.2.2.2.2.1 q12
            clear q12
            go_simp
            exact HK.out _ _ ⟨_, _, _, _, _, _, _, _, _, _, _, _, _, _, _, _, _, _, _, _, _, _, _, _, _, _, _, _, _, _, _, _, rfl, rfl, HJ.out, HE.out.1, HE.out.2.1, HE.out.2.2.1, HE.out.2.2.2.1, HE.out.2.2.2.2.1, HE.out.2.2.2.2.2.1, HE.out.2.2.2.2.2.2.1, HE.out.2.2.2.2.2.2.2.1, HE.out.2.2.2.2.2.2.2.2.1, HE.out.2.2.2.2.2.2.2.2.2.1, HE.out.2.2.2.2.2.2.2.2.2.2.1, HE.out.2.2.2.2.2.2.2.2.2.2.2.1, HE.out.2.2.2.2.2.2.2.2.2.2.2.2.1, fun _ => rfl, trivial⟩
        intro listed act W hJ hr
        obtain ⟨b0, b1, b2, b3, b4, b5, b6, b7, b8, b9, b10, b11, b12, b13, b14, b15, x0, x1, x2, x3, x4, x5, x6, x7, x8, x9, x10, x11, x12, x13, x15, g, rfl, rfl, hJ, hE⟩ := hJ
        have HJ := Lib.hid hJ
        have HE := Lib.hid hE
        clear hJ hE
        have q0 : b0 = true := by
          cases b0 with
          | true => rfl
          | false =>
            have hm : 0 ∈ ([] : List Nat) := by rw [← hr]; exact fl_in (o := _) rfl rfl (by simp [Region.binds])
            cases hm
        subst q0
        have q1 : b1 = true := by
          cases b1 with
          | true => rfl
          | false =>
            have hm : 1 ∈ ([] : List Nat) := by rw [← hr]; exact fl_in (o := _) rfl rfl (by simp [Region.binds])
            cases hm
        subst q1
        have q2 : b2 = true := by
          cases b2 with
          | true => rfl
          | false =>
            have hm : 2 ∈ ([] : List Nat) := by rw [← hr]; exact fl_in (o := _) rfl rfl (by simp [Region.binds])
            cases hm
        subst q2
        have q3 : b3 = true := by
          cases b3 with
          | true => rfl
          | false =>
            have hm : 3 ∈ ([] : List Nat) := by rw [← hr]; exact fl_in (o := _) rfl rfl (by simp [Region.binds])
            cases hm
        subst q3
        have q4 : b4 = true := by
          cases b4 with
          | true => rfl
          | false =>
            have hm : 4 ∈ ([] : List Nat) := by rw [← hr]; exact fl_in (o := _) rfl rfl (by simp [Region.binds])
            cases hm
        subst q4
        have q5 : b5 = true := by
          cases b5 with
          | true => rfl
          | false =>
            have hm : 5 ∈ ([] : List Nat) := by rw [← hr]; exact fl_in (o := _) rfl rfl (by simp [Region.binds])
            cases hm
        subst q5
        have q6 : b6 = true := by
          cases b6 with
          | true => rfl
          | false =>
            have hm : 6 ∈ ([] : List Nat) := by rw [← hr]; exact fl_in (o := _) rfl rfl (by simp [Region.binds])
            cases hm
        subst q6
        have q7 : b7 = true := by
          cases b7 with
          | true => rfl
          | false =>
            have hm : 7 ∈ ([] : List Nat) := by rw [← hr]; exact fl_in (o := _) rfl rfl (by simp [Region.binds])
            cases hm
        subst q7
        have q8 : b8 = true := by
          cases b8 with
          | true => rfl
          | false =>
            have hm : 8 ∈ ([] : List Nat) := by rw [← hr]; exact fl_in (o := _) rfl rfl (by simp [Region.binds])
            cases hm
        subst q8
        have q9 : b9 = true := by
          cases b9 with
          | true => rfl
          | false =>
            have hm : 9 ∈ ([] : List Nat) := by rw [← hr]; exact fl_in (o := _) rfl rfl (by simp [Region.binds])
            cases hm
        subst q9
        have q10 : b10 = true := by
          cases b10 with
          | true => rfl
          | false =>
            have hm : 10 ∈ ([] : List Nat) := by rw [← hr]; exact fl_in (o := _) rfl rfl (by simp [Region.binds])
            cases hm
        subst q10
        have q11 : b11 = true := by
          cases b11 with
          | true => rfl
          | false =>
            have hm : 11 ∈ ([] : List Nat) := by rw [← hr]; exact fl_in (o := _) rfl rfl (by simp [Region.binds])
            cases hm
        subst q11
        have q12 : b12 = true := by
          cases b12 with
          | true => rfl
          | false =>
            have hm : 12 ∈ ([] : List Nat) := by rw [← hr]; exact fl_in (o := _) rfl rfl (by simp [Region.binds])
            cases hm
        subst q12
        have q13 : b13 = true := by
          cases b13 with
          | true => rfl
          | false =>
            have hm : 13 ∈ ([] : List Nat) := by rw [← hr]; exact fl_in (o := _) rfl rfl (by simp [Region.binds])
            cases hm
        subst q13
        have q14 : b14 = true := by
          cases b14 with
          | true => rfl
          | false =>
            have hm : 14 ∈ ([] : List Nat) := by rw [← hr]; exact fl_in (o := _) rfl rfl (by simp [Region.binds])
            cases hm
        subst q14
        have q15 : b15 = true := by
          cases b15 with
          | true => rfl
          | false =>
            have hm : 15 ∈ ([] : List Nat) := by rw [← hr]; exact fl_in (o := _) rfl rfl (by simp [Region.binds])
            cases hm
        subst q15
        clear hr
        obtain rfl := HE.out.1 rfl
        obtain rfl := HE.out.2.1 rfl
        obtain rfl := HE.out.2.2.1 rfl
        obtain rfl := HE.out.2.2.2.1 rfl
        obtain rfl := HE.out.2.2.2.2.1 rfl
        obtain rfl := HE.out.2.2.2.2.2.1 rfl
        obtain rfl := HE.out.2.2.2.2.2.2.1 rfl
        obtain rfl := HE.out.2.2.2.2.2.2.2.1 rfl
        obtain rfl := HE.out.2.2.2.2.2.2.2.2.1 rfl
        obtain rfl := HE.out.2.2.2.2.2.2.2.2.2.1 rfl
        obtain rfl := HE.out.2.2.2.2.2.2.2.2.2.2.1 rfl
        obtain rfl := HE.out.2.2.2.2.2.2.2.2.2.2.2.1 rfl
        obtain rfl := HE.out.2.2.2.2.2.2.2.2.2.2.2.2.1 rfl
        obtain rfl := HE.out.2.2.2.2.2.2.2.2.2.2.2.2.2.1 rfl
        obtain ⟨hp, hvar⟩ := HJ.out.var rfl
        subst hp
        have hvar : W.heap[g]? = some (.cells (ceA (beC l[p] l[p + 1])) 28 (0, 0)) := hvar
        have HVAR := Lib.hid hvar
        clear hvar
        have HUPD := Lib.hid HJ.out.upd
        have HLOW := Lib.hid HJ.out.low
        clear HJ HE
        have hlow := HLOW.out
        have n1_3 := Lib.hid (Blk.ne_of_le k1 hlow)
        have n2_3 := Lib.hid (Blk.ne_of_le k2 hlow)
        have L3 := Lib.hid (Nat.le_trans HB.out.size hlow)
        have k3 : Blk W g 28 (ceA (beC l[p] l[p + 1])) := HVAR.out
        replace k1 := k1.upd HUPD.out n1_3.out
        replace k2 := k2.upd HUPD.out n2_3.out
        replace HB := Lib.hid (HB.out.trans (HUPD.out.below HB.out.size L3.out))
        clear HVAR HUPD HLOW hlow
        go_wp2_with (first
            | ((with_reducible refine at_slot 38 ?_); refine wl_build (v := .agg (wdA U.zero)) rfl rfl (build_wd0 _) rfl ?_)
            | ((with_reducible refine at_store 2 ?_); refine wl_st0 (A' := (wdA U.zero)) rfl rfl rfl rfl k1 rfl wdInfo (wdA_one U.zero) ?_; intro V1 kn hu; replace k2 := k2.upd hu (Ne.symm n1_2.out); replace k3 := k3.upd hu (Ne.symm n1_3.out); replace HB := Lib.hid (upd_below HB.out hu L1.out); clear k1; have k1 : Blk _ g1 _ (wdA U.zero) := kn; clear kn hu))
        have hno := HI.out.no HLT.out HEE.out
        refine bodyPost_ret (v := .tuple #[.agg (wdA U.zero), .int .i64 E]) (results_ct Try.results30 _ rfl rfl k1 Try.underlying26 rfl wdInfo) rfl ?_
        exact ⟨be_eq (congrArg wdA (U.ext (by rw [hno.2, cutU_n (show 0 < _ by omega)]; rfl))) (HEX.out.trans hno.1.symm), HB.out⟩
    · have d2 : decide ((p : Int) + 1 < l.length) = false := by simp; omega
      have HD := Lib.hid (HI.out.done (by omega))
      go_wp2_with (first
          | ((with_reducible refine at_slot 52 ?_); refine wl_ld0 rfl rfl rfl k2 Try.underlying26 rfl wdInfo ?_)
          | ((with_reducible refine at_store 2 ?_); refine wl_st0 (A' := (wdA (cutU acc))) rfl rfl rfl rfl k1 rfl wdInfo (wdA_one (cutU acc)) ?_; intro V1 kn hu; replace k2 := k2.upd hu (Ne.symm n1_2.out); replace HB := Lib.hid (upd_below HB.out hu L1.out); clear k1; have k1 : Blk _ g1 _ (wdA (cutU acc)) := kn; clear kn hu))
      refine bodyPost_ret (v := .tuple #[.agg (wdA (cutU acc)), .int .i64 0]) (results_ct Try.results30 _ rfl rfl k1 Try.underlying26 rfl wdInfo) rfl ?_
      exact ⟨be_eq (congrArg wdA (congrArg cutU HD.out.2.symm)) HD.out.1.symm, HB.out⟩
/-- Rises, of any events. -/
theorem ri_any (ao : Option Addr) (b off cap : Nat) (l : List Ev) (hm : l.length ≤ 9223372036854775807) (w : World) (h : EvsAt w ao b off l) :
    Calls Try.prog 30 #[.slice ao l.length cap] w fun e w' => e = .returned (.tuple #[.agg (wdA (cutU (risN l))), .int .i64 (risE l)]) ∧ Below w.heap.size w w' := by
  by_cases h0 : l.length = 0
  · exact ri0 ao b off cap l h0 w h
  · by_cases h1 : l.length = 1
    · exact ri1 ao b off cap l h1 w h
    · exact ri2 ao b off cap l hm (by omega) w h
end Go.Proofs.Ytjdjebhimljedaa
