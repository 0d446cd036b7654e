/-
  WALKS: cell.All: what it answers, of any cells; events and cells in a row.
-/
import Derived.Test.YtjdjebhimljedaaMf
namespace Go.Proofs.Ytjdjebhimljedaa
open Go Go.RowKit

/-- A slice whose elements are these events; these cells. -/
structure EvsAt (W : World) (ao : Option Addr) (b off : Nat) (l : List Ev) : Prop where
  at_ : 0 < l.length → ao = some ⟨b, off, none⟩ ∧ b < W.heap.size
  row : ∀ (i : Nat) (h : i < l.length), W.rangeAt b (off + i * 4) (evA l[i]).toList
  fits : ∀ (i : Nat) (h : i < l.length), EvIn l[i]
structure CesAt (W : World) (ao : Option Addr) (b off : Nat) (l : List Ce) : Prop where
  at_ : 0 < l.length → ao = some ⟨b, off, none⟩ ∧ b < W.heap.size
  row : ∀ (i : Nat) (h : i < l.length), W.rangeAt b (off + i * 14) (ceA l[i]).toList
  fits : ∀ (i : Nat) (h : i < l.length), CeIn l[i]
theorem range_below {B : Nat} {w w' : World} {b o : Nat} {cs : List Value} (h : w.rangeAt b o cs) (hb : Below B w w') (hlt : b < B) : w'.rangeAt b o cs := fun j v hv =>
  (hb.cell (p := ⟨b, o + j, none⟩) hlt).trans (h j v hv)
theorem EvsAt.keep {w w' : World} {ao : Option Addr} {b off : Nat} {l : List Ev} (h : EvsAt w ao b off l) (hb : Below w.heap.size w w') : EvsAt w' ao b off l :=
  ⟨fun hl => ⟨(h.at_ hl).1, Nat.lt_of_lt_of_le (h.at_ hl).2 hb.size⟩, fun i hi => range_below (h.row i hi) hb (h.at_ (by omega)).2, h.fits⟩
theorem CesAt.keep {w w' : World} {ao : Option Addr} {b off : Nat} {l : List Ce} (h : CesAt w ao b off l) (hb : Below w.heap.size w w') : CesAt w' ao b off l :=
  ⟨fun hl => ⟨(h.at_ hl).1, Nat.lt_of_lt_of_le (h.at_ hl).2 hb.size⟩, fun i hi => range_below (h.row i hi) hb (h.at_ (by omega)).2, h.fits⟩

/-- One behind the other, as one cell; or the first error. -/
noncomputable def allC (acc : Ce) : List Ce → Ce
  | [] => acc
  | c :: l => if meE acc c = 0 then allC (meC acc c) l else zeroCe
noncomputable def allE (acc : Ce) : List Ce → Int
  | [] => 0
  | c :: l => if meE acc c = 0 then allE (meC acc c) l else meE acc c
theorem drop_cons {α : Type} {l : List α} {k : Nat} (h : k < l.length) : l.drop k = l[k] :: l.drop (k + 1) := (List.drop_eq_getElem_cons h)
structure AllI (w wr : World) (g1 g2 : Nat) (l : List Ce) (k : Nat) (acc : Ce) : Prop where
  below : Below w.heap.size w wr
  b1 : Blk wr g1 28 (ceA zeroCe)
  b2 : Blk wr g2 28 (ceA acc)
  ok : CeOk acc
  c : allC zeroCe l = allC acc (l.drop k)
  e : allE zeroCe l = allE acc (l.drop k)
theorem AllI.ok_c {w wr : World} {g1 g2 : Nat} {l : List Ce} {k : Nat} {acc : Ce} (h : AllI w wr g1 g2 l k acc) (hk : k < l.length) (hE : meE acc l[k] = 0) : allC zeroCe l = allC (meC acc l[k]) (l.drop (k + 1)) ∧ allE zeroCe l = allE (meC acc l[k]) (l.drop (k + 1)) := by
  rw [h.c, h.e, drop_cons hk]
  constructor
  · show (if _ then _ else _) = _; rw [if_pos hE]
  · show (if _ then _ else _) = _; rw [if_pos hE]
theorem AllI.no {w wr : World} {g1 g2 : Nat} {l : List Ce} {k : Nat} {acc : Ce} (h : AllI w wr g1 g2 l k acc) (hk : k < l.length) (hE : ¬ meE acc l[k] = 0) : allC zeroCe l = zeroCe ∧ allE zeroCe l = meE acc l[k] := by
  rw [h.c, h.e, drop_cons hk]
  constructor
  · show (if _ then _ else _) = _; rw [if_neg hE]
  · show (if _ then _ else _) = _; rw [if_neg hE]
theorem AllI.done {w wr : World} {g1 g2 : Nat} {l : List Ce} {k : Nat} {acc : Ce} (h : AllI w wr g1 g2 l k acc) (hk : l.length ≤ k) : allC zeroCe l = acc ∧ allE zeroCe l = 0 := by
  rw [h.c, h.e, List.drop_eq_nil_of_le hk]
  exact ⟨rfl, rfl⟩

set_option maxHeartbeats 4000000 in
set_option maxRecDepth 100000 in
/-- All, of any cells. -/
theorem all_any (ao : Option Addr) (b off cap : Nat) (l : List Ce) (hm : l.length ≤ 9223372036854775807) (w : World) (h : CesAt w ao b off l) :
    Calls Try.prog 11 #[.slice ao l.length cap] w fun e w' => e = .returned (.tuple #[.agg (ceA (allC zeroCe l)), .int .i64 (allE zeroCe l)]) ∧ Below w.heap.size w w' := by
  have HL := Lib.hid h
  clear h
  have HB := Lib.hid (Below.refl w.heap.size w)
  go_enter Try.func11, Try.ntmps11
  go_wp2_with (first
      | ((with_reducible refine at_slot 2 ?_); refine wl_alloc (A := (ceA zeroCe)) rfl rfl ce_zero rfl ?_; intro W1 g1 k1 hb hle; have L1 := Lib.hid (Nat.le_trans HB.out.size hle); replace HB := Lib.hid (below_tr HB.out hb); clear hb hle)
      | ((with_reducible refine at_slot 4 ?_); refine wl_alloc (A := (ceA zeroCe)) rfl rfl ce_zero rfl ?_; intro W2 g2 k2 hb hle; have n1_2 := Lib.hid (Blk.ne_of_le k1 hle); have L2 := Lib.hid (Nat.le_trans HB.out.size hle); replace k1 := k1.keep hb; replace HB := Lib.hid (below_tr HB.out hb); clear hb hle))
  have HI := Lib.hid (AllI.mk HB.out k1 k2 zeroOk rfl rfl : AllI w _ g1 g2 l 0 zeroCe)
  clear k1 k2 HB
  go_loopw [11] (fun i wr => ∃ (k : Nat) (acc : Ce), k ≤ l.length ∧ i = .int .i64 k ∧ AllI w wr g1 g2 l k acc) (fun i _ => l.length - (intOf i).toNat)
  case atStart => exact ⟨0, zeroCe, Nat.zero_le _, rfl, HI.out⟩
  case round =>
    obtain ⟨k, acc, hk, rfl, hI⟩ := hrel
    clear HI
    have HB := Lib.hid hI.below
    have k1 := hI.b1
    have k2 := hI.b2
    have HI := Lib.hid hI
    clear hI
    by_cases hlt : k < l.length
    · obtain ⟨rfl, hbw⟩ := HL.out.at_ (by omega)
      have HLT := Lib.hid hlt
      by_cases hE : meE acc l[k] = 0
      · have HEE := Lib.hid hE
        clear hE
        go_wp2_with (first
            | ((with_reducible refine at_slot 14 ?_); refine wl_ldr (B := (ceA l[k])) rfl rfl rfl ((HL.out.keep HB.out).row k hlt) Try.underlying28 rfl ceInfo ?_)
            | ((with_reducible refine at_slot 6 ?_); refine wl_alloc (A := (ceA zeroCe)) rfl rfl ce_zero rfl ?_; intro W3 g3 k3 hb hle; have n1_3 := Lib.hid (Blk.ne_of_le k1 hle); have n2_3 := Lib.hid (Blk.ne_of_le k2 hle); have L3 := Lib.hid (Nat.le_trans HB.out.size hle); replace k1 := k1.keep hb; replace k2 := k2.keep hb; replace HB := Lib.hid (below_tr HB.out hb); clear hb hle)
            | ((with_reducible refine at_store 6 ?_); refine wl_st0 (A' := (ceA l[k])) rfl rfl rfl rfl k3 rfl ceInfo (ceA_one l[k]) ?_; intro V1 kn hu; replace k1 := k1.upd hu n1_3.out; replace k2 := k2.upd hu n2_3.out; replace HB := Lib.hid (upd_below HB.out hu L3.out); clear k3; have k3 : Blk _ g3 _ (ceA l[k]) := kn; clear kn hu)
            | ((with_reducible refine at_slot 16 ?_); refine wl_ld0 rfl rfl rfl k2 Try.underlying28 rfl ceInfo ?_)
            | ((with_reducible refine at_slot 17 ?_); refine wl_ld0 rfl rfl rfl k3 Try.underlying28 rfl ceInfo ?_)
            | ((with_reducible refine at_slot 18 ?_); refine wl_call rfl rfl Try.func7 (by kernel_rfl) rfl (me_is (HI.out.ok.in) (HL.out.fits k HLT.out) HEE.out rfl _) rfl ?_; intro V2 hb; replace k1 := k1.keep hb; replace k2 := k2.keep hb; replace k3 := k3.keep hb; replace HB := Lib.hid (below_tr HB.out hb); clear hb)
            | ((with_reducible refine at_slot 7 ?_); refine wl_alloc (A := (ceA zeroCe)) rfl rfl ce_zero rfl ?_; intro W4 g4 k4 hb hle; have n1_4 := Lib.hid (Blk.ne_of_le k1 hle); have n2_4 := Lib.hid (Blk.ne_of_le k2 hle); have n3_4 := Lib.hid (Blk.ne_of_le k3 hle); have L4 := Lib.hid (Nat.le_trans HB.out.size hle); replace k1 := k1.keep hb; replace k2 := k2.keep hb; replace k3 := k3.keep hb; replace HB := Lib.hid (below_tr HB.out hb); clear hb hle)
            | ((with_reducible refine at_store 7 ?_); refine wl_st0 (A' := (ceA (meC acc l[k]))) rfl rfl rfl rfl k4 rfl ceInfo (ceA_one (meC acc l[k])) ?_; intro V3 kn hu; replace k1 := k1.upd hu n1_4.out; replace k2 := k2.upd hu n2_4.out; replace k3 := k3.upd hu n3_4.out; replace HB := Lib.hid (upd_below HB.out hu L4.out); clear k4; have k4 : Blk _ g4 _ (ceA (meC acc l[k])) := kn; clear kn hu)
            | ((with_reducible refine at_slot 25 ?_); refine wl_ld0 rfl rfl rfl k4 Try.underlying28 rfl ceInfo ?_)
            | ((with_reducible refine at_store 4 ?_); refine wl_st0 (A' := (ceA (meC acc l[k]))) rfl rfl rfl rfl k2 rfl ceInfo (ceA_one (meC acc l[k])) ?_; intro V4 kn hu; replace k1 := k1.upd hu n1_2.out; replace k3 := k3.upd hu (Ne.symm n2_3.out); replace k4 := k4.upd hu (Ne.symm n2_4.out); replace HB := Lib.hid (upd_below HB.out hu L2.out); clear k2; have k2 : Blk _ g2 _ (ceA (meC acc l[k])) := kn; clear kn hu))
        go_roundw
        case rel =>
          obtain ⟨e1, e2⟩ := HI.out.ok_c HLT.out HEE.out
          exact ⟨k + 1, meC acc l[k], hlt, by go_num, HB.out, k1, k2, meC_ok _ _, e1, e2⟩
        case measure => simp [intOf]; omega
      · have HEE := Lib.hid hE
        obtain ⟨E, hEx⟩ : ∃ E, E = meE acc l[k] := ⟨_, rfl⟩
        have dE : (E != 0) = true := by rw [hEx]; simpa using hE
        have HEX := Lib.hid hEx
        clear hE hEx
        go_wp2_with (first
            | ((with_reducible refine at_slot 14 ?_); refine wl_ldr (B := (ceA l[k])) rfl rfl rfl ((HL.out.keep HB.out).row k hlt) Try.underlying28 rfl ceInfo ?_)
            | ((with_reducible refine at_slot 6 ?_); refine wl_alloc (A := (ceA zeroCe)) rfl rfl ce_zero rfl ?_; intro W3 g3 k3 hb hle; have n1_3 := Lib.hid (Blk.ne_of_le k1 hle); have n2_3 := Lib.hid (Blk.ne_of_le k2 hle); have L3 := Lib.hid (Nat.le_trans HB.out.size hle); replace k1 := k1.keep hb; replace k2 := k2.keep hb; replace HB := Lib.hid (below_tr HB.out hb); clear hb hle)
            | ((with_reducible refine at_store 6 ?_); refine wl_st0 (A' := (ceA l[k])) rfl rfl rfl rfl k3 rfl ceInfo (ceA_one l[k]) ?_; intro V1 kn hu; replace k1 := k1.upd hu n1_3.out; replace k2 := k2.upd hu n2_3.out; replace HB := Lib.hid (upd_below HB.out hu L3.out); clear k3; have k3 : Blk _ g3 _ (ceA l[k]) := kn; clear kn hu)
            | ((with_reducible refine at_slot 16 ?_); refine wl_ld0 rfl rfl rfl k2 Try.underlying28 rfl ceInfo ?_)
            | ((with_reducible refine at_slot 17 ?_); refine wl_ld0 rfl rfl rfl k3 Try.underlying28 rfl ceInfo ?_)
            | ((with_reducible refine at_slot 18 ?_); refine wl_call rfl rfl Try.func7 (by kernel_rfl) rfl (me_is (HI.out.ok.in) (HL.out.fits k HLT.out) HEX.out.symm rfl _) rfl ?_; intro V2 hb; replace k1 := k1.keep hb; replace k2 := k2.keep hb; replace k3 := k3.keep hb; replace HB := Lib.hid (below_tr HB.out hb); clear hb)
            | ((with_reducible refine at_slot 7 ?_); refine wl_alloc (A := (ceA zeroCe)) rfl rfl ce_zero rfl ?_; intro W4 g4 k4 hb hle; have n1_4 := Lib.hid (Blk.ne_of_le k1 hle); have n2_4 := Lib.hid (Blk.ne_of_le k2 hle); have n3_4 := Lib.hid (Blk.ne_of_le k3 hle); have L4 := Lib.hid (Nat.le_trans HB.out.size hle); replace k1 := k1.keep hb; replace k2 := k2.keep hb; replace k3 := k3.keep hb; replace HB := Lib.hid (below_tr HB.out hb); clear hb hle)
            | ((with_reducible refine at_store 7 ?_); refine wl_st0 (A' := (ceA (meC acc l[k]))) rfl rfl rfl rfl k4 rfl ceInfo (ceA_one (meC acc l[k])) ?_; intro V3 kn hu; replace k1 := k1.upd hu n1_4.out; replace k2 := k2.upd hu n2_4.out; replace k3 := k3.upd hu n3_4.out; replace HB := Lib.hid (upd_below HB.out hu L4.out); clear k4; have k4 : Blk _ g4 _ (ceA (meC acc l[k])) := kn; clear kn hu)
            | ((with_reducible refine at_slot 23 ?_); refine wl_build (v := .agg (ceA zeroCe)) rfl rfl (build_ce0 _) rfl ?_)
            | ((with_reducible refine at_store 2 ?_); refine wl_st0 (A' := (ceA zeroCe)) rfl rfl rfl rfl k1 rfl ceInfo (ceA_one zeroCe) ?_; intro V4 kn hu; replace k2 := k2.upd hu (Ne.symm n1_2.out); replace k3 := k3.upd hu (Ne.symm n1_3.out); replace k4 := k4.upd hu (Ne.symm n1_4.out); replace HB := Lib.hid (upd_below HB.out hu L1.out); clear k1; have k1 : Blk _ g1 _ (ceA zeroCe) := kn; clear kn hu))
        refine bodyPost_ret (v := .tuple #[.agg (ceA zeroCe), .int .i64 E]) (results_ct Try.results11 _ rfl rfl k1 Try.underlying28 rfl ceInfo) rfl ?_
        exact ⟨be_eq (congrArg ceA (HI.out.no HLT.out HEE.out).1.symm) (HEX.out.trans (HI.out.no HLT.out HEE.out).2.symm), HB.out⟩
    · have hlt : l.length ≤ k := by omega
      go_wp2_with (first
          | ((with_reducible refine at_slot 27 ?_); refine wl_ld0 rfl rfl rfl k2 Try.underlying28 rfl ceInfo ?_)
          | ((with_reducible refine at_store 2 ?_); refine wl_st0 (A' := (ceA acc)) rfl rfl rfl rfl k1 rfl ceInfo (ceA_one acc) ?_; intro V1 kn hu; replace k2 := k2.upd hu (Ne.symm n1_2.out); replace HB := Lib.hid (upd_below HB.out hu L1.out); clear k1; have k1 : Blk _ g1 _ (ceA acc) := kn; clear kn hu))
      refine bodyPost_ret (v := .tuple #[.agg (ceA acc), .int .i64 0]) (results_ct Try.results11 _ rfl rfl k1 Try.underlying28 rfl ceInfo) rfl ?_
      exact ⟨be_eq (congrArg ceA (HI.out.done hlt).1.symm) (HI.out.done hlt).2.symm, HB.out⟩
end Go.Proofs.Ytjdjebhimljedaa
