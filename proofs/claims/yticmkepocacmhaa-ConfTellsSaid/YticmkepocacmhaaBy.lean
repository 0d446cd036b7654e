/-
  WALKS: package conf: Bytes, Read.
-/
import Derived.Test.YticmkepocacmhaaCs5
import Derived.Test.YticmkepocacmhaaFx
namespace Go.Proofs.Yticmkepocacmhaa
open Go Go.RowKit

theorem Blk.step9 {S : Nat → Prop} {w w' : World} {g : Nat} {T : TypeId} {A : Array Value} (h : Blk w g T A) (hs : Step S w w') (hn : ¬ S g) : Blk w' g T A := (hs.block g h.lt hn).trans h
theorem Rd.below9 {w w' : World} {P : Nat} {s : List UInt8} {b : Bool} (h : Rd w P s b) (hb : Below w.heap.size w w') : Rd w' P s b := ⟨(hb.block P h.lt).trans h.blk⟩
theorem Step.below9 {w0 w w' : World} {P : Nat} (h : Below w0.heap.size w0 w) (hs : Step (· = P) w w') (hP : w0.heap.size ≤ P) : Below w0.heap.size w0 w' := h.trans (hs.below h.size (fun k e => by rw [e]; exact hP))

/-! ### The bytes. -/
def byL (c : Cf) : List UInt8 := [] ++ fxF 4 c.raw.toNat ++ fxF 8 c.w0.toNat ++ fxF 8 c.w1.toNat ++ fxF 8 c.w2.toNat ++ fxF 4 c.n0.toNat ++ fxF 4 c.n1.toNat ++ fxF 4 c.n2.toNat ++ fxF 4 c.cap.toNat ++ fxF 4 c.log.toNat ++ fxF 8 0
theorem byL_len (c : Cf) : (byL c).length = 56 := by simp only [byL, List.length_append, fxF_len, List.length_nil]
def bytesL (c : Cf) : List UInt8 := if CfOk c then byL c else []
theorem Wr.alloc9 {w : World} {P : Nat} {own : Nat → Prop} {l : List UInt8} (h : Wr w P own l) : own P := h.1
theorem wfixed_z {P : Nat} {own : Nat → Prop} {l : List UInt8} {n m : Nat} {z : Int} (hz : z = (n : Int)) (hl : l.length ≤ 100) (hn : n < 18446744073709551616) (h1m : 1 ≤ m) (hm8 : m ≤ 8) {w : World} (h : Wr w P own l) (hnew : ∀ k, w.heap.size ≤ k → own k) :
    Calls Try.prog 42 #[.pointer (some ⟨P, 0, none⟩), .int .i64 m, .int .u64 z] w fun e w' => e = .returned (.tuple #[]) ∧ (Wr w' P own (l ++ fxF m n) ∧ Step own w w') := by
  subst hz
  exact wfixed_any (by omega) hn h1m hm8 h hnew
theorem wrw_zero : (Try.prog.info? 60).map (·.zero) = some (some (.agg #[.pointer none, .int .i64 0])) := by kernel_rfl
theorem wr_new {w : World} {g : Nat} (h : Blk w g 60 #[.pointer none, .int .i64 0]) : Wr w g (from_ g) [] := ⟨Nat.le_refl _, Or.inl ⟨rfl, ⟨h⟩⟩⟩
theorem len9 (l : List UInt8) (m n k : Nat) (h : l.length ≤ k) : (l ++ fxF m n).length ≤ k + m := by rw [List.length_append, fxF_len]; omega
set_option maxHeartbeats 4000000 in
set_option maxRecDepth 100000 in
theorem byt_no {c : Cf} (h : ¬ CfOk c) (w : World) : Calls Try.prog 22 #[.agg (cfA c)] w fun e w' => e = .returned (.string (bs ([]))) ∧ Below w.heap.size w w' := by
  have HC := Lib.hid h
  clear h
  have HB := Lib.hid (Below.refl w.heap.size w)
  go_enter Try.func22, Try.ntmps22
  go_wp2_with (first
      | ((with_reducible refine at_slot 1 ?_); refine wl_box (A := (cfA c)) rfl rfl rfl ?_; intro W1 g1 k1 hb hle; have L1 := Lib.hid (Nat.le_trans HB.out.size hle); replace HB := Lib.hid (below_tr HB.out hb); clear hb hle)
      | ((with_reducible refine at_slot 8 ?_); refine wl_ld0 rfl rfl rfl k1 Try.underlying25 rfl cfInfo ?_)
      | ((with_reducible refine at_slot 9 ?_); refine wl_call rfl rfl Try.func12 (by kernel_rfl) rfl (cck_no HC.out _) rfl ?_; intro V1 hb; replace k1 := k1.keep hb; replace HB := Lib.hid (below_tr HB.out hb); clear hb))
  go_ret
  exact ⟨rfl, HB.out⟩
set_option maxHeartbeats 4000000 in
set_option maxRecDepth 100000 in
theorem byt_yes {c : Cf} (h : CfOk c) (w : World) : Calls Try.prog 22 #[.agg (cfA c)] w fun e w' => e = .returned (.string (bs (byL c))) ∧ Below w.heap.size w w' := by
  obtain ⟨⟨a0, b0⟩, ⟨a1, b1⟩, a2, b2⟩ := h.1.1
  obtain ⟨r0, r1⟩ := h.2.1
  obtain ⟨p0, p1⟩ := h.2.2.1
  obtain ⟨l0, l1⟩ := log_bd h
  obtain ⟨A0, A0'⟩ := a0
  obtain ⟨A1, A1'⟩ := a1
  obtain ⟨A2, A2'⟩ := a2
  obtain ⟨B0, B0'⟩ := b0
  obtain ⟨B1, B1'⟩ := b1
  obtain ⟨B2, B2'⟩ := b2
  have uraw : IntKind.u64.wrap c.raw = c.raw := by rw [IntKind.wrap_u64]; omega
  have Zraw := Lib.hid (show c.raw = (c.raw.toNat : Int) by omega)
  have Yraw := Lib.hid (show c.raw.toNat < 18446744073709551616 by omega)
  have uw0 : IntKind.u64.wrap c.w0 = c.w0 := by rw [IntKind.wrap_u64]; omega
  have Zw0 := Lib.hid (show c.w0 = (c.w0.toNat : Int) by omega)
  have Yw0 := Lib.hid (show c.w0.toNat < 18446744073709551616 by omega)
  have uw1 : IntKind.u64.wrap c.w1 = c.w1 := by rw [IntKind.wrap_u64]; omega
  have Zw1 := Lib.hid (show c.w1 = (c.w1.toNat : Int) by omega)
  have Yw1 := Lib.hid (show c.w1.toNat < 18446744073709551616 by omega)
  have uw2 : IntKind.u64.wrap c.w2 = c.w2 := by rw [IntKind.wrap_u64]; omega
  have Zw2 := Lib.hid (show c.w2 = (c.w2.toNat : Int) by omega)
  have Yw2 := Lib.hid (show c.w2.toNat < 18446744073709551616 by omega)
  have un0 : IntKind.u64.wrap c.n0 = c.n0 := by rw [IntKind.wrap_u64]; omega
  have Zn0 := Lib.hid (show c.n0 = (c.n0.toNat : Int) by omega)
  have Yn0 := Lib.hid (show c.n0.toNat < 18446744073709551616 by omega)
  have un1 : IntKind.u64.wrap c.n1 = c.n1 := by rw [IntKind.wrap_u64]; omega
  have Zn1 := Lib.hid (show c.n1 = (c.n1.toNat : Int) by omega)
  have Yn1 := Lib.hid (show c.n1.toNat < 18446744073709551616 by omega)
  have un2 : IntKind.u64.wrap c.n2 = c.n2 := by rw [IntKind.wrap_u64]; omega
  have Zn2 := Lib.hid (show c.n2 = (c.n2.toNat : Int) by omega)
  have Yn2 := Lib.hid (show c.n2.toNat < 18446744073709551616 by omega)
  have ucap : IntKind.u64.wrap c.cap = c.cap := by rw [IntKind.wrap_u64]; omega
  have Zcap := Lib.hid (show c.cap = (c.cap.toNat : Int) by omega)
  have Ycap := Lib.hid (show c.cap.toNat < 18446744073709551616 by omega)
  have ulog : IntKind.u64.wrap c.log = c.log := by rw [IntKind.wrap_u64]; omega
  have Zlog := Lib.hid (show c.log = (c.log.toNat : Int) by omega)
  have Ylog := Lib.hid (show c.log.toNat < 18446744073709551616 by omega)
  have HC := Lib.hid h
  clear h
  have HB := Lib.hid (Below.refl w.heap.size w)
  go_enter Try.func22, Try.ntmps22
  go_wp2_with (first
      | ((with_reducible refine at_slot 3 ?_); refine wl_alloc (A := #[.pointer none, .int .i64 0]) rfl rfl wrw_zero rfl ?_; intro W9 g9 k9 hb hle; have LT := Lib.hid (Nat.lt_of_lt_of_le k1.lt hle); have HL := Lib.hid (Nat.le_trans HB.out.size hle); replace k1 := k1.keep hb; replace HB := Lib.hid (below_tr HB.out hb); have HR := Lib.hid (wr_new k9); have HN := Lib.hid (show ∀ k, W9.heap.size ≤ k → from_ g9 k from fun k hk => Nat.le_trans (Nat.le_of_lt k9.lt) hk); have HE := Lib.hid (show ([] : List UInt8).length ≤ 0 from Nat.le_refl _); clear k9 hb hle)
      | ((with_reducible refine at_slot 1 ?_); refine wl_box (A := (cfA c)) rfl rfl rfl ?_; intro W1 g1 k1 hb hle; have L1 := Lib.hid (Nat.le_trans HB.out.size hle); replace HB := Lib.hid (below_tr HB.out hb); clear hb hle)
      | ((with_reducible refine at_slot 8 ?_); refine wl_ld0 rfl rfl rfl k1 Try.underlying25 rfl cfInfo ?_)
      | ((with_reducible refine at_slot 9 ?_); refine wl_call rfl rfl Try.func12 (by kernel_rfl) rfl (cck_yes HC.out _) rfl ?_; intro V2 hb; replace k1 := k1.keep hb; replace HB := Lib.hid (below_tr HB.out hb); clear hb)
      | ((with_reducible refine at_slot 12 ?_); refine wl_ld1 (v := .int .i64 c.raw) rfl rfl rfl k1 Try.underlying3 rfl rfl ?_)
      | ((with_reducible refine at_slot 14 ?_); refine wl_call rfl rfl Try.func42 (by kernel_rfl) rfl (wfixed_z (m := 4) (n := c.raw.toNat) Zraw.out (by have := HE.out; omega) Yraw.out (by omega) (by omega) HR.out HN.out) rfl ?_; intro V3 hb; obtain ⟨hw, hs⟩ := hb; replace k1 := k1.step9 hs (fun h => absurd h (Nat.not_le.2 LT.out)); replace HB := Lib.hid (HB.out.trans (hs.below HB.out.size (fun k h => Nat.le_trans HL.out h))); have HR' := Lib.hid hw; have HN' := Lib.hid (show ∀ k, V3.heap.size ≤ k → from_ g9 k from fun k hk => HN.out k (Nat.le_trans hs.size hk)); have HE' := Lib.hid (len9 _ 4 (c.raw.toNat) _ HE.out); clear hw hs HR HN HE; have HR := HR'; have HN := HN'; have HE := HE'; clear HR' HN' HE')
      | ((with_reducible refine at_slot 16 ?_); refine wl_ld (arA c.w0 c.w1 c.w2) rfl rfl rfl k1 Try.underlying22 rfl arwInfo (cfA_pw c) ?_))
  refine wp_loop_rounds 4 ?_
  rw [rounds_succ]
  go_wp2_with (first
      | ((with_reducible refine at_slot 19 ?_); refine wl_index rfl rfl rfl rfl (ixw0 _ _ _ _) ?_)
      | ((with_reducible refine at_slot 22 ?_); refine wl_call rfl rfl Try.func42 (by kernel_rfl) rfl (wfixed_z (m := 8) (n := c.w0.toNat) Zw0.out (by have := HE.out; omega) Yw0.out (by omega) (by omega) HR.out HN.out) rfl ?_; intro V4 hb; obtain ⟨hw, hs⟩ := hb; replace k1 := k1.step9 hs (fun h => absurd h (Nat.not_le.2 LT.out)); replace HB := Lib.hid (HB.out.trans (hs.below HB.out.size (fun k h => Nat.le_trans HL.out h))); have HR' := Lib.hid hw; have HN' := Lib.hid (show ∀ k, V4.heap.size ≤ k → from_ g9 k from fun k hk => HN.out k (Nat.le_trans hs.size hk)); have HE' := Lib.hid (len9 _ 8 (c.w0.toNat) _ HE.out); clear hw hs HR HN HE; have HR := HR'; have HN := HN'; have HE := HE'; clear HR' HN' HE'))
  rw [rounds_succ]
  go_wp2_with (first
      | ((with_reducible refine at_slot 19 ?_); refine wl_index rfl rfl rfl rfl (ixw1 _ _ _ _) ?_)
      | ((with_reducible refine at_slot 22 ?_); refine wl_call rfl rfl Try.func42 (by kernel_rfl) rfl (wfixed_z (m := 8) (n := c.w1.toNat) Zw1.out (by have := HE.out; omega) Yw1.out (by omega) (by omega) HR.out HN.out) rfl ?_; intro V5 hb; obtain ⟨hw, hs⟩ := hb; replace k1 := k1.step9 hs (fun h => absurd h (Nat.not_le.2 LT.out)); replace HB := Lib.hid (HB.out.trans (hs.below HB.out.size (fun k h => Nat.le_trans HL.out h))); have HR' := Lib.hid hw; have HN' := Lib.hid (show ∀ k, V5.heap.size ≤ k → from_ g9 k from fun k hk => HN.out k (Nat.le_trans hs.size hk)); have HE' := Lib.hid (len9 _ 8 (c.w1.toNat) _ HE.out); clear hw hs HR HN HE; have HR := HR'; have HN := HN'; have HE := HE'; clear HR' HN' HE'))
  rw [rounds_succ]
  go_wp2_with (first
      | ((with_reducible refine at_slot 19 ?_); refine wl_index rfl rfl rfl rfl (ixw2 _ _ _ _) ?_)
      | ((with_reducible refine at_slot 22 ?_); refine wl_call rfl rfl Try.func42 (by kernel_rfl) rfl (wfixed_z (m := 8) (n := c.w2.toNat) Zw2.out (by have := HE.out; omega) Yw2.out (by omega) (by omega) HR.out HN.out) rfl ?_; intro V6 hb; obtain ⟨hw, hs⟩ := hb; replace k1 := k1.step9 hs (fun h => absurd h (Nat.not_le.2 LT.out)); replace HB := Lib.hid (HB.out.trans (hs.below HB.out.size (fun k h => Nat.le_trans HL.out h))); have HR' := Lib.hid hw; have HN' := Lib.hid (show ∀ k, V6.heap.size ≤ k → from_ g9 k from fun k hk => HN.out k (Nat.le_trans hs.size hk)); have HE' := Lib.hid (len9 _ 8 (c.w2.toNat) _ HE.out); clear hw hs HR HN HE; have HR := HR'; have HN := HN'; have HE := HE'; clear HR' HN' HE'))
  rw [rounds_succ]
  go_wp2_with (first
      | ((with_reducible refine at_slot 25 ?_); refine wl_ld (arA c.n0 c.n1 c.n2) rfl rfl rfl k1 Try.underlying23 rfl arnInfo (cfA_pn c) ?_))
  refine wp_loop_rounds 4 ?_
  rw [rounds_succ]
  go_wp2_with (first
      | ((with_reducible refine at_slot 28 ?_); refine wl_index rfl rfl rfl rfl (ixn0 _ _ _ _) ?_)
      | ((with_reducible refine at_slot 31 ?_); refine wl_call rfl rfl Try.func42 (by kernel_rfl) rfl (wfixed_z (m := 4) (n := c.n0.toNat) Zn0.out (by have := HE.out; omega) Yn0.out (by omega) (by omega) HR.out HN.out) rfl ?_; intro V7 hb; obtain ⟨hw, hs⟩ := hb; replace k1 := k1.step9 hs (fun h => absurd h (Nat.not_le.2 LT.out)); replace HB := Lib.hid (HB.out.trans (hs.below HB.out.size (fun k h => Nat.le_trans HL.out h))); have HR' := Lib.hid hw; have HN' := Lib.hid (show ∀ k, V7.heap.size ≤ k → from_ g9 k from fun k hk => HN.out k (Nat.le_trans hs.size hk)); have HE' := Lib.hid (len9 _ 4 (c.n0.toNat) _ HE.out); clear hw hs HR HN HE; have HR := HR'; have HN := HN'; have HE := HE'; clear HR' HN' HE'))
  rw [rounds_succ]
  go_wp2_with (first
      | ((with_reducible refine at_slot 28 ?_); refine wl_index rfl rfl rfl rfl (ixn1 _ _ _ _) ?_)
      | ((with_reducible refine at_slot 31 ?_); refine wl_call rfl rfl Try.func42 (by kernel_rfl) rfl (wfixed_z (m := 4) (n := c.n1.toNat) Zn1.out (by have := HE.out; omega) Yn1.out (by omega) (by omega) HR.out HN.out) rfl ?_; intro V8 hb; obtain ⟨hw, hs⟩ := hb; replace k1 := k1.step9 hs (fun h => absurd h (Nat.not_le.2 LT.out)); replace HB := Lib.hid (HB.out.trans (hs.below HB.out.size (fun k h => Nat.le_trans HL.out h))); have HR' := Lib.hid hw; have HN' := Lib.hid (show ∀ k, V8.heap.size ≤ k → from_ g9 k from fun k hk => HN.out k (Nat.le_trans hs.size hk)); have HE' := Lib.hid (len9 _ 4 (c.n1.toNat) _ HE.out); clear hw hs HR HN HE; have HR := HR'; have HN := HN'; have HE := HE'; clear HR' HN' HE'))
  rw [rounds_succ]
  go_wp2_with (first
      | ((with_reducible refine at_slot 28 ?_); refine wl_index rfl rfl rfl rfl (ixn2 _ _ _ _) ?_)
      | ((with_reducible refine at_slot 31 ?_); refine wl_call rfl rfl Try.func42 (by kernel_rfl) rfl (wfixed_z (m := 4) (n := c.n2.toNat) Zn2.out (by have := HE.out; omega) Yn2.out (by omega) (by omega) HR.out HN.out) rfl ?_; intro V9 hb; obtain ⟨hw, hs⟩ := hb; replace k1 := k1.step9 hs (fun h => absurd h (Nat.not_le.2 LT.out)); replace HB := Lib.hid (HB.out.trans (hs.below HB.out.size (fun k h => Nat.le_trans HL.out h))); have HR' := Lib.hid hw; have HN' := Lib.hid (show ∀ k, V9.heap.size ≤ k → from_ g9 k from fun k hk => HN.out k (Nat.le_trans hs.size hk)); have HE' := Lib.hid (len9 _ 4 (c.n2.toNat) _ HE.out); clear hw hs HR HN HE; have HR := HR'; have HN := HN'; have HE := HE'; clear HR' HN' HE'))
  rw [rounds_succ]
  go_wp2_with (first
      | ((with_reducible refine at_slot 34 ?_); refine wl_ld1 (v := .int .i64 c.cap) rfl rfl rfl k1 Try.underlying3 rfl rfl ?_)
      | ((with_reducible refine at_slot 36 ?_); refine wl_call rfl rfl Try.func42 (by kernel_rfl) rfl (wfixed_z (m := 4) (n := c.cap.toNat) Zcap.out (by have := HE.out; omega) Ycap.out (by omega) (by omega) HR.out HN.out) rfl ?_; intro V10 hb; obtain ⟨hw, hs⟩ := hb; replace k1 := k1.step9 hs (fun h => absurd h (Nat.not_le.2 LT.out)); replace HB := Lib.hid (HB.out.trans (hs.below HB.out.size (fun k h => Nat.le_trans HL.out h))); have HR' := Lib.hid hw; have HN' := Lib.hid (show ∀ k, V10.heap.size ≤ k → from_ g9 k from fun k hk => HN.out k (Nat.le_trans hs.size hk)); have HE' := Lib.hid (len9 _ 4 (c.cap.toNat) _ HE.out); clear hw hs HR HN HE; have HR := HR'; have HN := HN'; have HE := HE'; clear HR' HN' HE')
      | ((with_reducible refine at_slot 38 ?_); refine wl_ld1 (v := .int .i64 c.log) rfl rfl rfl k1 Try.underlying3 rfl rfl ?_)
      | ((with_reducible refine at_slot 40 ?_); refine wl_call rfl rfl Try.func42 (by kernel_rfl) rfl (wfixed_z (m := 4) (n := c.log.toNat) Zlog.out (by have := HE.out; omega) Ylog.out (by omega) (by omega) HR.out HN.out) rfl ?_; intro V11 hb; obtain ⟨hw, hs⟩ := hb; replace k1 := k1.step9 hs (fun h => absurd h (Nat.not_le.2 LT.out)); replace HB := Lib.hid (HB.out.trans (hs.below HB.out.size (fun k h => Nat.le_trans HL.out h))); have HR' := Lib.hid hw; have HN' := Lib.hid (show ∀ k, V11.heap.size ≤ k → from_ g9 k from fun k hk => HN.out k (Nat.le_trans hs.size hk)); have HE' := Lib.hid (len9 _ 4 (c.log.toNat) _ HE.out); clear hw hs HR HN HE; have HR := HR'; have HN := HN'; have HE := HE'; clear HR' HN' HE')
      | ((with_reducible refine at_slot 41 ?_); refine wl_call rfl rfl Try.func42 (by kernel_rfl) rfl (wfixed_z (m := 8) (n := 0) rfl (by have := HE.out; omega) (by omega) (by omega) (by omega) HR.out HN.out) rfl ?_; intro V12 hb; obtain ⟨hw, hs⟩ := hb; replace k1 := k1.step9 hs (fun h => absurd h (Nat.not_le.2 LT.out)); replace HB := Lib.hid (HB.out.trans (hs.below HB.out.size (fun k h => Nat.le_trans HL.out h))); have HR' := Lib.hid hw; have HN' := Lib.hid (show ∀ k, V12.heap.size ≤ k → from_ g9 k from fun k hk => HN.out k (Nat.le_trans hs.size hk)); have HE' := Lib.hid (len9 _ 8 (0) _ HE.out); clear hw hs HR HN HE; have HR := HR'; have HN := HN'; have HE := HE'; clear HR' HN' HE')
      | ((with_reducible refine at_slot 42 ?_); refine wl_call rfl rfl Try.func43 (by kernel_rfl) rfl ((out_any (by have := HE.out; omega) HR.out).mono (fun _ _ h => ⟨h.1, h.2⟩)) rfl ?_; intro V13 hb; replace HB := Lib.hid (HB.out.trans (hb.step (S := fun _ => False) |>.below HB.out.size (fun _ h => h.elim))); clear hb))
  go_ret
  exact ⟨rfl, HB.out⟩
end Go.Proofs.Yticmkepocacmhaa
