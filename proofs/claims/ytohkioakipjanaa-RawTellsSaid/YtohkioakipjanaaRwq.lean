/-
  WALKS: raw events: Put, where it takes an event.
-/
import Derived.Test.YtohkioakipjanaaRwp
namespace Go.Proofs.Ytohkioakipjanaa
open Go Go.RowKit

theorem RgB.upd {α : Type} {TR T : TypeId} {k : Nat} {c : α → List Value} {w0 w w' : World} {g q : Nat} {o : Option Nat} {room : Nat} {L : List α} {lost : Int} (h : RgB TR T k c w0 w g o room L lost) (hu : Upd q w w') (h1 : q ≠ g) (h2 : o ≠ some q) (h3 : w0.heap.size ≤ q) : RgB TR T k c w0 w' g o room L lost :=
  ⟨h.ri.chg (Chg.upd (o := none) hu) (Ne.symm h1) (by simp) h2 (by simp), upd_below h.below hu h3, h.hg, h.ho⟩
theorem la_nil2 (lost mark : Int) (v : Value) (l : List Ev) (hl0 : l.length = 0) (w : World) (h : Lst 4 cE w v l) :
    Calls Try.prog 12 #[.agg #[.int .i64 lost, .int .i64 mark, v]] w fun e w' => e = .returned (.tuple #[.agg (evA zeroEv), .int .i64 3]) ∧ Below w.heap.size w w' := by
  obtain rfl := List.eq_nil_of_length_eq_zero hl0
  exact la_nil lost mark v w h
set_option maxHeartbeats 4000000 in
set_option maxRecDepth 100000 in
theorem put_more (lost mark : Int) (v : Value) (l : List Ev) (hl : l.length ≤ 1000000) (hin : AllIn l) (rm : Nat) (e : Ev) (_ : EvIn e) (w : World) (h : Lst 4 cE w v l) (hok : RawOk lost mark l rm) (he : EvOk e) (j : Nat) (x : Ev) (hj : l.length = j + 1) (hx : l[j]? = some x) (hlt : x.t < e.t) (hr : l.length < rm) :
    Calls Try.prog 8 #[.agg #[.int .i64 lost, .int .i64 mark, v], .int .i64 rm, .agg (evA e)] w fun r w' => ∃ v', r = .returned (.tuple #[.agg #[.int .i64 lost, .int .i64 mark, v'], .int .i64 0]) ∧ (Lst 4 cE w' v' (l ++ [e]) ∧ ∀ q, v'.ownBlock = some q → w.heap.size ≤ q ∧ q < w'.heap.size) ∧ Below w.heap.size w w' := by
  have hrm1 : 1 ≤ rm := by have := hok.r1; omega
  have hrm0 : rm ≤ 4096 := by have := hok.r2; omega
  have hrm2 : rm ≤ 65536 := by omega
  have hll : l.length ≤ rm := by have := hok.len; omega
  have dl : (lost == 70368744177664) = false := by rcases hok.rl with h | h; rw [h.1]; rfl; have := h.2.2.2.1; omega
  have HMORE := Lib.hid (show ¬ l.length = rm by omega)
  have HF : Hid (Fol x e) := Lib.hid ⟨by obtain ⟨h1, h2⟩ := List.getElem?_eq_some_iff.1 hx; rw [← h2]; exact hok.rt.ok j h1, he, hlt⟩
  have HJ := Lib.hid (show l.length = j + 1 ∧ j ≤ 1000000 ∧ l[j]? = some x from ⟨hj, by omega, hx⟩)
  obtain ⟨ao, b, off, cap, rfl, h1, h2⟩ := h.ex
  have H1 := Lib.hid h1
  have H2 := Lib.hid h2
  have HL := Lib.hid h
  have HCK := Lib.hid (fun W (hb : Below w.heap.size w W) => ck_any lost mark (.slice ao l.length cap) l (by omega) hin (rm : Int) W (h.keep hb))
  rw [ckE_yes hok] at HCK
  have HE := Lib.hid he
  have HSL : Hid (∃ ao' cap', Value.slice ao l.length cap = .slice ao' l.length cap') := Lib.hid ⟨_, _, rfl⟩
  clear h h1 h2 hin hok he hj hx hlt hr
  go_enter Try.func8, Try.ntmps8
  go_wp2_with (first
    | ((with_reducible refine at_slot 3 ?_); refine wl_box (A := #[.int .i64 lost, .int .i64 mark, .slice ao l.length cap]) rfl rfl rfl ?_; intro W1 g3 k3 hb hle3; have HLE3 := Lib.hid hle3; have HB := Lib.hid hb; clear hb hle3)
    | ((with_reducible refine at_slot 5 ?_); refine wl_box (A := evA e) rfl rfl rfl ?_; intro W2 g5 k5 hb hle5; have HN35 := Lib.hid (k3.ne_of_le hle5); replace k3 := k3.keep hb; replace HB := Lib.hid (below_tr HB.out hb); clear hb hle5)
    | ((with_reducible refine at_slot 6 ?_); refine wl_alloc (A := #[.int .i64 0, .int .i64 0, .slice none 0 0]) rfl rfl rw_zero rfl ?_; intro W3 g6 k6 hb hle6; have HN36 := Lib.hid (And.intro (k3.ne_of_le hle6) (k5.ne_of_le hle6)); have HLE6 := Lib.hid (Nat.le_trans HB.out.size hle6); replace k3 := k3.keep hb; replace k5 := k5.keep hb; replace HB := Lib.hid (below_tr HB.out hb); clear hb hle6)
    | ((with_reducible refine at_slot 16 ?_); refine wl_ld0 rfl rfl rfl k3 Try.underlying24 rfl rw_size ?_)
    | ((with_reducible refine at_slot 18 ?_); refine wl_call rfl rfl Try.func14 (by kernel_rfl) rfl (HCK.out _ (HB.out)) rfl ?_; intro V18 hb; replace k3 := k3.keep hb; replace k5 := k5.keep hb; replace k6 := k6.keep hb; replace HB := Lib.hid (below_tr HB.out hb); clear hb)
    | ((with_reducible refine at_slot 21 ?_); refine wl_ld0 rfl rfl rfl k5 Try.underlying27 rfl evInfo ?_)
    | ((with_reducible refine at_slot 22 ?_); refine wl_call rfl rfl Try.func26 (by kernel_rfl) rfl (ev_yes HE.out _) rfl ?_; intro V22 hb; replace k3 := k3.keep hb; replace k5 := k5.keep hb; replace k6 := k6.keep hb; replace HB := Lib.hid (below_tr HB.out hb); clear hb)
    | ((with_reducible refine at_slot 27 ?_); refine wl_ld0 rfl rfl rfl k3 Try.underlying24 rfl rw_size ?_)
    | ((with_reducible refine at_slot 28 ?_); refine wl_call rfl rfl Try.func12 (by kernel_rfl) rfl (la_some lost mark (.slice ao l.length cap) l j x HJ.out.1 HJ.out.2.1 HJ.out.2.2 _ (HL.out.keep HB.out)) rfl ?_; intro V28 hb; replace k3 := k3.keep hb; replace k5 := k5.keep hb; replace k6 := k6.keep hb; replace HB := Lib.hid (below_tr HB.out hb); clear hb)
    | ((with_reducible refine at_slot 8 ?_); refine wl_alloc (A := evA zeroEv) rfl rfl ev_zero rfl ?_; intro W8 g8 k8 hb hle8; have HN8 := Lib.hid (show g3 ≠ g8 ∧ g5 ≠ g8 ∧ g6 ≠ g8 ∧ w.heap.size ≤ g8 from ⟨k3.ne_of_le hle8, k5.ne_of_le hle8, k6.ne_of_le hle8, Nat.le_trans HB.out.size hle8⟩); replace k3 := k3.keep hb; replace k5 := k5.keep hb; replace k6 := k6.keep hb; replace HB := Lib.hid (below_tr HB.out hb); clear hb)
    | ((with_reducible refine at_store 8 ?_); refine wl_st0 (A' := evA x) rfl rfl rfl rfl k8 rfl evInfo (evA_one _) ?_; intro V88 kn hu; replace k3 := k3.upd hu HN8.out.1; replace k5 := k5.upd hu HN8.out.2.1; replace k6 := k6.upd hu HN8.out.2.2.1; replace HB := Lib.hid (upd_below HB.out hu HN8.out.2.2.2); clear k8; have k8 := kn; clear kn hu)
    | ((with_reducible refine at_slot 34 ?_); refine wl_ld0 rfl rfl rfl k8 Try.underlying27 rfl evInfo ?_)
    | ((with_reducible refine at_slot 35 ?_); refine wl_ld0 rfl rfl rfl k5 Try.underlying27 rfl evInfo ?_)
    | ((with_reducible refine at_slot 36 ?_); refine wl_call rfl rfl Try.func27 (by kernel_rfl) rfl (fol_yes HF.out _) rfl ?_; intro V36 hb; replace k8 := k8.keep hb; replace k3 := k3.keep hb; replace k5 := k5.keep hb; replace k6 := k6.keep hb; replace HB := Lib.hid (below_tr HB.out hb); clear hb)
    | ((with_reducible refine at_slot 41 ?_); refine wl_ld1 (v := .int .i64 lost) rfl rfl rfl k3 Try.underlying2 rfl rfl ?_)
    | ((with_reducible refine at_slot 45 ?_); refine wl_ld1 (v := (.slice ao l.length cap)) rfl rfl rfl k3 Try.underlying22 rfl rfl ?_)
    | ((with_reducible refine at_slot 46 ?_); refine wl_lenL rfl rfl rfl Try.underlying22 HSL.out ?_)
    | ((with_reducible refine at_slot 53 ?_); refine wl_callx rfl rfl Try.func20 (by kernel_rfl) rfl (e_new rm hrm1 hrm2 _) rfl ?_; intro g V8 hR; obtain ⟨hr1, hb, hr3⟩ := hR; have HK := Lib.hid (And.intro k3 (And.intro k5 k6)); have HBB := HB; have HRB : Hid (RgB 64 27 4 cE V36 V8 g none rm [] 0) := Lib.hid ⟨hr1, hb, hr3, fun q hq => by cases hq⟩; replace k3 := k3.keep hb; replace k5 := k5.keep hb; replace k6 := k6.keep hb; replace HB := Lib.hid (below_tr HB.out hb); clear hb; clear hr1 hr3)
    | ((with_reducible refine at_slot 61 ?_); refine wl_ld1 (v := (.slice ao l.length cap)) rfl rfl rfl k3 Try.underlying22 rfl rfl ?_))
  go_loopw [63] (fun i wr => ∃ (k : Nat) (o : Option Nat), k ≤ l.length ∧ i = .int .i64 k ∧ RgB 64 27 4 cE V36 wr g o rm (l.take k) 0) (fun i _ => l.length - (intOf i).toNat)
  case atStart => exact ⟨0, none, Nat.zero_le _, rfl, HRB.out⟩
  case round =>
    clear HRB k3 k5 k6 HB
    obtain ⟨k, o, hk, rfl, hRB⟩ := hrel
    have HRB := Lib.hid hRB
    clear hRB
    by_cases hlt : k < l.length
    · obtain ⟨rfl, hq1⟩ := H1.out (by omega)
      have hgx : l[k]? = some l[k] := List.getElem?_eq_getElem hlt
      have HTK := Lib.hid (List.take_succ_eq_append_getElem hlt)
      have HKX := Lib.hid (range_keep (H2.out k _ hgx) ((below_tr HBB.out HRB.out.below).block b hq1))
      generalize l[k] = y at hgx HTK HKX
      have hmm : l.length ≤ 9223372036854775807 := by omega
      have hnf : ¬ (l.take k).length = rm := by rw [List.length_take]; omega
      have HPT := Lib.hid (fun W (o' : Option Nat) (hR : RgI 64 27 4 cE W g o' rm (l.take k) 0) => e_put hR hrm2 y)
      rw [putB_no hnf, putX_no hnf, putL_no hnf, putN_no hnf] at HPT
      clear hgx hnf
      go_wp2_with (first
        | ((with_reducible refine at_slot 65 ?_); refine wl_ixo rfl rfl rfl rfl Try.underlying22 rfl hlt hmm ?_)
        | ((with_reducible refine at_slot 66 ?_); refine wl_ldr (B := evA y) rfl rfl rfl HKX.out Try.underlying27 rfl evInfo ?_)
        | ((with_reducible refine at_slot 13 ?_); refine wl_alloc (A := evA zeroEv) rfl rfl ev_zero rfl ?_; intro W13 g13 k13 hb hle13; have HN13 := Lib.hid (show g13 ≠ g ∧ o ≠ some g13 ∧ V36.heap.size ≤ g13 from ⟨by have := HRB.out.ri.lt; omega, fun e => by have := HRB.out.ri.o_lt _ e; omega, Nat.le_trans HRB.out.below.size hle13⟩); replace HRB := Lib.hid (HRB.out.stay hb); clear hb hle13)
        | ((with_reducible refine at_store 13 ?_); refine wl_st0 (A' := evA y) rfl rfl rfl rfl k13 rfl evInfo (evA_one _) ?_; intro W14 kn hu; replace HRB := Lib.hid (HRB.out.upd hu HN13.out.1 HN13.out.2.1 HN13.out.2.2); clear k13; have k13 := kn; clear kn hu)
        | ((with_reducible refine at_slot 68 ?_); refine wl_ld0 rfl rfl rfl k13 Try.underlying27 rfl evInfo ?_)
        | ((with_reducible refine at_slot 69 ?_); refine wl_call rfl rfl Try.func21 (by kernel_rfl) rfl (HPT.out _ _ HRB.out.ri) rfl ?_; intro V69 hR; have hR2 := HRB.out.step hR; clear HRB hR; obtain ⟨o2, hR3⟩ := hR2; have HRB := Lib.hid hR3; clear hR3))
      go_roundw
      case rel => exact ⟨k + 1, o2, hlt, by go_num, by rw [HTK.out]; exact HRB.out⟩
      case measure => simp [intOf]; omega
    · obtain rfl : k = l.length := by omega
      have hr' := HRB.out
      rw [List.take_length] at hr'
      clear HRB
      have HRB := Lib.hid hr'
      have HPT := Lib.hid (fun W (o' : Option Nat) (hR : RgI 64 27 4 cE W g o' rm l 0) => e_put hR hrm2 e)
      rw [putB_no HMORE.out, putX_no HMORE.out, putL_no HMORE.out, putN_no HMORE.out] at HPT
      have k3 := HK.out.1.keep HRB.out.below
      have k5 := HK.out.2.1.keep HRB.out.below
      have k6 := HK.out.2.2.keep HRB.out.below
      have HB := Lib.hid (below_tr HBB.out HRB.out.below)
      have HGB := Lib.hid (show V36.heap.size ≤ g ∧ g3 < V36.heap.size ∧ g6 < V36.heap.size from ⟨HRB.out.hg, HK.out.1.lt, HK.out.2.2.lt⟩)
      clear hr' hk hlt
      go_wp2_with (first
        | ((with_reducible refine at_slot 73 ?_); refine wl_ld0 rfl rfl rfl k5 Try.underlying27 rfl evInfo ?_)
        | ((with_reducible refine at_slot 74 ?_); refine wl_call rfl rfl Try.func21 (by kernel_rfl) rfl (HPT.out _ _ HRB.out.ri) rfl ?_; intro V74 hR; have hR2 := HRB.out.step hR; obtain ⟨o2, hR3⟩ := hR2; have hbb := below_tr HBB.out hR3.below; have HRB2 := Lib.hid hR3; replace k3 := HK.out.1.keep hR3.below; replace k6 := HK.out.2.2.keep hR3.below; replace HB := Lib.hid hbb; clear hR3 hbb HRB hR k5)
        | ((with_reducible refine at_slot 14 ?_); refine wl_alloc (A := evA zeroEv) rfl rfl ev_zero rfl ?_; intro W15 g14 k14 hb hle14; have HN14 := Lib.hid (show g14 ≠ g ∧ o2 ≠ some g14 ∧ V36.heap.size ≤ g14 ∧ g3 ≠ g14 ∧ g6 ≠ g14 ∧ w.heap.size ≤ g14 from ⟨by have := HRB2.out.ri.lt; omega, fun e => by have := HRB2.out.ri.o_lt _ e; omega, Nat.le_trans HRB2.out.below.size hle14, k3.ne_of_le hle14, k6.ne_of_le hle14, Nat.le_trans HB.out.size hle14⟩); replace HRB2 := Lib.hid (HRB2.out.stay hb); replace k3 := k3.keep hb; replace k6 := k6.keep hb; replace HB := Lib.hid (below_tr HB.out hb); clear hb hle14)
        | ((with_reducible refine at_store 14 ?_); refine wl_st0 (A' := evA zeroEv) rfl rfl rfl rfl k14 rfl evInfo (evA_one _) ?_; intro W16 kn hu; replace HRB2 := Lib.hid (HRB2.out.upd hu HN14.out.1 HN14.out.2.1 HN14.out.2.2.1); replace k3 := k3.upd hu HN14.out.2.2.2.1; replace k6 := k6.upd hu HN14.out.2.2.2.2.1; replace HB := Lib.hid (upd_below HB.out hu HN14.out.2.2.2.2.2); clear k14; have k14 := kn; have HRI := Lib.hid HRB2.out.ri; have HG3 := Lib.hid (show g3 ≠ g ∧ o2 ≠ some g3 from ⟨by have := HGB.out; omega, fun e => by have := HRB2.out.ho _ e; have := HGB.out; omega⟩); clear kn hu)
        | ((with_reducible refine at_slot 86 ?_); refine wl_callx rfl rfl Try.func24 (by kernel_rfl) rfl (e_all HRI.out hrm2) rfl ?_; intro v9 V86 hR; obtain ⟨ho9, hb⟩ := hR; have HO9 := Lib.hid ho9; have HS9 := Lib.hid (And.intro k3.lt k6.lt); have HV9 := Lib.hid (sl_one (v := v9) (by obtain ⟨a, b, e⟩ := own_sl ho9; exact ⟨_, _, _, e⟩)); have HZ9 := Lib.hid HB.out.size; replace k3 := k3.keep hb; replace k6 := k6.keep hb; replace HB := Lib.hid (below_tr HB.out hb); clear ho9 hb)
        | ((with_reducible refine at_store 87 ?_); refine wl_st1 (v := v9) rfl rfl rfl rfl k3 (by kernel_rfl) HV9.out.2 HV9.out.1 (by simp) ?_; intro W19 kn hu; have HO10 := Lib.hid (own_same HO9.out (fun q hq => hu.block q (HO9.out.lt q hq).2 (fun e => by have := (HO9.out.lt q hq).1; have := HS9.out.1; omega))); replace k6 := k6.upd hu (Ne.symm HN36.out.1); replace HB := Lib.hid (upd_below HB.out hu HLE3.out); clear k3; have k3 : Blk _ g3 24 #[.int .i64 lost, .int .i64 mark, v9] := kn; clear kn hu)
        | ((with_reducible refine at_slot 88 ?_); refine wl_ld0 rfl rfl rfl k3 Try.underlying24 rfl rw_size ?_)
        | ((with_reducible refine at_store 6 ?_); refine wl_st0 (A' := #[.int .i64 lost, .int .i64 mark, v9]) rfl rfl rfl rfl k6 rfl rw_size (rw_one _ _ _ HV9.out.1) ?_; intro W20 k20 hu; have HO11 := Lib.hid (own_same HO10.out (fun q hq => hu.block q (HO10.out.lt q hq).2 (fun e => by have := (HO10.out.lt q hq).1; have := HS9.out.2; omega))); replace HB := Lib.hid (upd_below HB.out hu HLE6.out); clear hu k6))
      refine bodyPost_ret (v := .tuple #[.agg #[.int .i64 lost, .int .i64 mark, v9], .int .i64 0]) (results_ct Try.results8 _ rfl rfl k20 Try.underlying24 rfl rw_size) rfl ?_
      exact ⟨v9, rfl, ⟨own_lst cE_len HO11.out rfl, fun q hq => ⟨Nat.le_trans HZ9.out (HO11.out.lt q hq).1, (HO11.out.lt q hq).2⟩⟩, HB.out⟩
set_option maxHeartbeats 4000000 in
set_option maxRecDepth 100000 in
theorem put_full (lost mark : Int) (v : Value) (l : List Ev) (hl : l.length ≤ 1000000) (hin : AllIn l) (rm : Nat) (e : Ev) (_ : EvIn e) (w : World) (h : Lst 4 cE w v l) (hok : RawOk lost mark l rm) (he : EvOk e) (j : Nat) (x : Ev) (hj : l.length = j + 1) (hx : l[j]? = some x) (hlt : x.t < e.t) (hr : l.length = rm) (hm : lost < 70368744177664) (x0 : Ev) (hx0 : l[0]? = some x0) :
    Calls Try.prog 8 #[.agg #[.int .i64 lost, .int .i64 mark, v], .int .i64 rm, .agg (evA e)] w fun r w' => ∃ v', r = .returned (.tuple #[.agg #[.int .i64 (lost + 1), .int .i64 x0.t, v'], .int .i64 0]) ∧ (Lst 4 cE w' v' (l.tail ++ [e]) ∧ ∀ q, v'.ownBlock = some q → w.heap.size ≤ q ∧ q < w'.heap.size) ∧ Below w.heap.size w w' := by
  have hrm1 : 1 ≤ rm := by have := hok.r1; omega
  have hrm0 : rm ≤ 4096 := by have := hok.r2; omega
  have hrm2 : rm ≤ 65536 := by omega
  have hll : l.length ≤ rm := by have := hok.len; omega
  have dl : (lost == 70368744177664) = false := by simp; omega
  have hlo : 0 ≤ lost := by rcases hok.rl with h | h; omega; exact h.2.1
  have HW := Lib.hid (show IntKind.i64.wrap (lost + 1) = lost + 1 by rw [IntKind.wrap_i64]; omega)
  have HFULL := Lib.hid hr
  have HX0 := Lib.hid hx0
  have HXH : Hid (x0 = l.headD zeroEv) := Lib.hid (by cases l with | nil => simp at hx0 | cons a r => simpa using hx0.symm)
  have HF : Hid (Fol x e) := Lib.hid ⟨by obtain ⟨h1, h2⟩ := List.getElem?_eq_some_iff.1 hx; rw [← h2]; exact hok.rt.ok j h1, he, hlt⟩
  have HJ := Lib.hid (show l.length = j + 1 ∧ j ≤ 1000000 ∧ l[j]? = some x from ⟨hj, by omega, hx⟩)
  obtain ⟨ao, b, off, cap, rfl, h1, h2⟩ := h.ex
  have H1 := Lib.hid h1
  have H2 := Lib.hid h2
  have HL := Lib.hid h
  have HCK := Lib.hid (fun W (hb : Below w.heap.size w W) => ck_any lost mark (.slice ao l.length cap) l (by omega) hin (rm : Int) W (h.keep hb))
  rw [ckE_yes hok] at HCK
  have HE := Lib.hid he
  have HSL : Hid (∃ ao' cap', Value.slice ao l.length cap = .slice ao' l.length cap') := Lib.hid ⟨_, _, rfl⟩
  clear h h1 h2 hin hok he hj hx hlt hr hm hx0
  go_enter Try.func8, Try.ntmps8
  go_wp2_with (first
    | ((with_reducible refine at_slot 3 ?_); refine wl_box (A := #[.int .i64 lost, .int .i64 mark, .slice ao l.length cap]) rfl rfl rfl ?_; intro W1 g3 k3 hb hle3; have HLE3 := Lib.hid hle3; have HB := Lib.hid hb; clear hb hle3)
    | ((with_reducible refine at_slot 5 ?_); refine wl_box (A := evA e) rfl rfl rfl ?_; intro W2 g5 k5 hb hle5; have HN35 := Lib.hid (k3.ne_of_le hle5); replace k3 := k3.keep hb; replace HB := Lib.hid (below_tr HB.out hb); clear hb hle5)
    | ((with_reducible refine at_slot 6 ?_); refine wl_alloc (A := #[.int .i64 0, .int .i64 0, .slice none 0 0]) rfl rfl rw_zero rfl ?_; intro W3 g6 k6 hb hle6; have HN36 := Lib.hid (And.intro (k3.ne_of_le hle6) (k5.ne_of_le hle6)); have HLE6 := Lib.hid (Nat.le_trans HB.out.size hle6); replace k3 := k3.keep hb; replace k5 := k5.keep hb; replace HB := Lib.hid (below_tr HB.out hb); clear hb hle6)
    | ((with_reducible refine at_slot 16 ?_); refine wl_ld0 rfl rfl rfl k3 Try.underlying24 rfl rw_size ?_)
    | ((with_reducible refine at_slot 18 ?_); refine wl_call rfl rfl Try.func14 (by kernel_rfl) rfl (HCK.out _ (HB.out)) rfl ?_; intro V18 hb; replace k3 := k3.keep hb; replace k5 := k5.keep hb; replace k6 := k6.keep hb; replace HB := Lib.hid (below_tr HB.out hb); clear hb)
    | ((with_reducible refine at_slot 21 ?_); refine wl_ld0 rfl rfl rfl k5 Try.underlying27 rfl evInfo ?_)
    | ((with_reducible refine at_slot 22 ?_); refine wl_call rfl rfl Try.func26 (by kernel_rfl) rfl (ev_yes HE.out _) rfl ?_; intro V22 hb; replace k3 := k3.keep hb; replace k5 := k5.keep hb; replace k6 := k6.keep hb; replace HB := Lib.hid (below_tr HB.out hb); clear hb)
    | ((with_reducible refine at_slot 27 ?_); refine wl_ld0 rfl rfl rfl k3 Try.underlying24 rfl rw_size ?_)
    | ((with_reducible refine at_slot 28 ?_); refine wl_call rfl rfl Try.func12 (by kernel_rfl) rfl (la_some lost mark (.slice ao l.length cap) l j x HJ.out.1 HJ.out.2.1 HJ.out.2.2 _ (HL.out.keep HB.out)) rfl ?_; intro V28 hb; replace k3 := k3.keep hb; replace k5 := k5.keep hb; replace k6 := k6.keep hb; replace HB := Lib.hid (below_tr HB.out hb); clear hb)
    | ((with_reducible refine at_slot 8 ?_); refine wl_alloc (A := evA zeroEv) rfl rfl ev_zero rfl ?_; intro W8 g8 k8 hb hle8; have HN8 := Lib.hid (show g3 ≠ g8 ∧ g5 ≠ g8 ∧ g6 ≠ g8 ∧ w.heap.size ≤ g8 from ⟨k3.ne_of_le hle8, k5.ne_of_le hle8, k6.ne_of_le hle8, Nat.le_trans HB.out.size hle8⟩); replace k3 := k3.keep hb; replace k5 := k5.keep hb; replace k6 := k6.keep hb; replace HB := Lib.hid (below_tr HB.out hb); clear hb)
    | ((with_reducible refine at_store 8 ?_); refine wl_st0 (A' := evA x) rfl rfl rfl rfl k8 rfl evInfo (evA_one _) ?_; intro V88 kn hu; replace k3 := k3.upd hu HN8.out.1; replace k5 := k5.upd hu HN8.out.2.1; replace k6 := k6.upd hu HN8.out.2.2.1; replace HB := Lib.hid (upd_below HB.out hu HN8.out.2.2.2); clear k8; have k8 := kn; clear kn hu)
    | ((with_reducible refine at_slot 34 ?_); refine wl_ld0 rfl rfl rfl k8 Try.underlying27 rfl evInfo ?_)
    | ((with_reducible refine at_slot 35 ?_); refine wl_ld0 rfl rfl rfl k5 Try.underlying27 rfl evInfo ?_)
    | ((with_reducible refine at_slot 36 ?_); refine wl_call rfl rfl Try.func27 (by kernel_rfl) rfl (fol_yes HF.out _) rfl ?_; intro V36 hb; replace k8 := k8.keep hb; replace k3 := k3.keep hb; replace k5 := k5.keep hb; replace k6 := k6.keep hb; replace HB := Lib.hid (below_tr HB.out hb); clear hb)
    | ((with_reducible refine at_slot 41 ?_); refine wl_ld1 (v := .int .i64 lost) rfl rfl rfl k3 Try.underlying2 rfl rfl ?_)
    | ((with_reducible refine at_slot 45 ?_); refine wl_ld1 (v := (.slice ao l.length cap)) rfl rfl rfl k3 Try.underlying22 rfl rfl ?_)
    | ((with_reducible refine at_slot 46 ?_); refine wl_lenL rfl rfl rfl Try.underlying22 HSL.out ?_)
    | ((with_reducible refine at_slot 53 ?_); refine wl_callx rfl rfl Try.func20 (by kernel_rfl) rfl (e_new rm hrm1 hrm2 _) rfl ?_; intro g V8 hR; obtain ⟨hr1, hb, hr3⟩ := hR; have HK := Lib.hid (And.intro k3 (And.intro k5 k6)); have HBB := HB; have HRB : Hid (RgB 64 27 4 cE V36 V8 g none rm [] 0) := Lib.hid ⟨hr1, hb, hr3, fun q hq => by cases hq⟩; replace k3 := k3.keep hb; replace k5 := k5.keep hb; replace k6 := k6.keep hb; replace HB := Lib.hid (below_tr HB.out hb); clear hb; clear hr1 hr3)
    | ((with_reducible refine at_slot 61 ?_); refine wl_ld1 (v := (.slice ao l.length cap)) rfl rfl rfl k3 Try.underlying22 rfl rfl ?_))
  go_loopw [63] (fun i wr => ∃ (k : Nat) (o : Option Nat), k ≤ l.length ∧ i = .int .i64 k ∧ RgB 64 27 4 cE V36 wr g o rm (l.take k) 0) (fun i _ => l.length - (intOf i).toNat)
  case atStart => exact ⟨0, none, Nat.zero_le _, rfl, HRB.out⟩
  case round =>
    clear HRB k3 k5 k6 HB
    obtain ⟨k, o, hk, rfl, hRB⟩ := hrel
    have HRB := Lib.hid hRB
    clear hRB
    by_cases hlt : k < l.length
    · obtain ⟨rfl, hq1⟩ := H1.out (by omega)
      have hgx : l[k]? = some l[k] := List.getElem?_eq_getElem hlt
      have HTK := Lib.hid (List.take_succ_eq_append_getElem hlt)
      have HKX := Lib.hid (range_keep (H2.out k _ hgx) ((below_tr HBB.out HRB.out.below).block b hq1))
      generalize l[k] = y at hgx HTK HKX
      have hmm : l.length ≤ 9223372036854775807 := by omega
      have hnf : ¬ (l.take k).length = rm := by rw [List.length_take]; omega
      have HPT := Lib.hid (fun W (o' : Option Nat) (hR : RgI 64 27 4 cE W g o' rm (l.take k) 0) => e_put hR hrm2 y)
      rw [putB_no hnf, putX_no hnf, putL_no hnf, putN_no hnf] at HPT
      clear hgx hnf
      go_wp2_with (first
        | ((with_reducible refine at_slot 65 ?_); refine wl_ixo rfl rfl rfl rfl Try.underlying22 rfl hlt hmm ?_)
        | ((with_reducible refine at_slot 66 ?_); refine wl_ldr (B := evA y) rfl rfl rfl HKX.out Try.underlying27 rfl evInfo ?_)
        | ((with_reducible refine at_slot 13 ?_); refine wl_alloc (A := evA zeroEv) rfl rfl ev_zero rfl ?_; intro W13 g13 k13 hb hle13; have HN13 := Lib.hid (show g13 ≠ g ∧ o ≠ some g13 ∧ V36.heap.size ≤ g13 from ⟨by have := HRB.out.ri.lt; omega, fun e => by have := HRB.out.ri.o_lt _ e; omega, Nat.le_trans HRB.out.below.size hle13⟩); replace HRB := Lib.hid (HRB.out.stay hb); clear hb hle13)
        | ((with_reducible refine at_store 13 ?_); refine wl_st0 (A' := evA y) rfl rfl rfl rfl k13 rfl evInfo (evA_one _) ?_; intro W14 kn hu; replace HRB := Lib.hid (HRB.out.upd hu HN13.out.1 HN13.out.2.1 HN13.out.2.2); clear k13; have k13 := kn; clear kn hu)
        | ((with_reducible refine at_slot 68 ?_); refine wl_ld0 rfl rfl rfl k13 Try.underlying27 rfl evInfo ?_)
        | ((with_reducible refine at_slot 69 ?_); refine wl_call rfl rfl Try.func21 (by kernel_rfl) rfl (HPT.out _ _ HRB.out.ri) rfl ?_; intro V69 hR; have hR2 := HRB.out.step hR; clear HRB hR; obtain ⟨o2, hR3⟩ := hR2; have HRB := Lib.hid hR3; clear hR3))
      go_roundw
      case rel => exact ⟨k + 1, o2, hlt, by go_num, by rw [HTK.out]; exact HRB.out⟩
      case measure => simp [intOf]; omega
    · obtain rfl : k = l.length := by omega
      have hr' := HRB.out
      rw [List.take_length] at hr'
      clear HRB
      have HRB := Lib.hid hr'
      have HPT := Lib.hid (fun W (o' : Option Nat) (hR : RgI 64 27 4 cE W g o' rm l 0) => e_put hR hrm2 e)
      rw [putB_yes HFULL.out, putX_yes HFULL.out, putL_yes HFULL.out, putN_yes HFULL.out, ← HXH.out] at HPT
      have k3 := HK.out.1.keep HRB.out.below
      have k5 := HK.out.2.1.keep HRB.out.below
      have k6 := HK.out.2.2.keep HRB.out.below
      have HB := Lib.hid (below_tr HBB.out HRB.out.below)
      have HGB := Lib.hid (show V36.heap.size ≤ g ∧ g3 < V36.heap.size ∧ g6 < V36.heap.size from ⟨HRB.out.hg, HK.out.1.lt, HK.out.2.2.lt⟩)
      clear hr' hk hlt
      go_wp2_with (first
        | ((with_reducible refine at_slot 73 ?_); refine wl_ld0 rfl rfl rfl k5 Try.underlying27 rfl evInfo ?_)
        | ((with_reducible refine at_slot 74 ?_); refine wl_call rfl rfl Try.func21 (by kernel_rfl) rfl (HPT.out _ _ HRB.out.ri) rfl ?_; intro V74 hR; have hR2 := HRB.out.step hR; obtain ⟨o2, hR3⟩ := hR2; have hbb := below_tr HBB.out hR3.below; have HRB2 := Lib.hid hR3; replace k3 := HK.out.1.keep hR3.below; replace k6 := HK.out.2.2.keep hR3.below; replace HB := Lib.hid hbb; clear hR3 hbb HRB hR k5)
        | ((with_reducible refine at_slot 14 ?_); refine wl_alloc (A := evA zeroEv) rfl rfl ev_zero rfl ?_; intro W15 g14 k14 hb hle14; have HN14 := Lib.hid (show g14 ≠ g ∧ o2 ≠ some g14 ∧ V36.heap.size ≤ g14 ∧ g3 ≠ g14 ∧ g6 ≠ g14 ∧ w.heap.size ≤ g14 from ⟨by have := HRB2.out.ri.lt; omega, fun e => by have := HRB2.out.ri.o_lt _ e; omega, Nat.le_trans HRB2.out.below.size hle14, k3.ne_of_le hle14, k6.ne_of_le hle14, Nat.le_trans HB.out.size hle14⟩); replace HRB2 := Lib.hid (HRB2.out.stay hb); replace k3 := k3.keep hb; replace k6 := k6.keep hb; replace HB := Lib.hid (below_tr HB.out hb); clear hb hle14)
        | ((with_reducible refine at_store 14 ?_); refine wl_st0 (A' := evA x0) rfl rfl rfl rfl k14 rfl evInfo (evA_one _) ?_; intro W16 kn hu; replace HRB2 := Lib.hid (HRB2.out.upd hu HN14.out.1 HN14.out.2.1 HN14.out.2.2.1); replace k3 := k3.upd hu HN14.out.2.2.2.1; replace k6 := k6.upd hu HN14.out.2.2.2.2.1; replace HB := Lib.hid (upd_below HB.out hu HN14.out.2.2.2.2.2); clear k14; have k14 := kn; have HRI := Lib.hid HRB2.out.ri; have HG3 := Lib.hid (show g3 ≠ g ∧ o2 ≠ some g3 from ⟨by have := HGB.out; omega, fun e => by have := HRB2.out.ho _ e; have := HGB.out; omega⟩); clear kn hu)
        | ((with_reducible refine at_slot 79 ?_); refine wl_ld1 (v := .int .i64 lost) rfl rfl rfl k3 Try.underlying2 rfl rfl ?_)
        | ((with_reducible refine at_slot 80 ?_); refine wl_bin (v := .int .i64 (lost + 1)) rfl rfl rfl (add_is HW.out) ?_)
        | ((with_reducible refine at_store 81 ?_); refine wl_st1 (v := .int .i64 (lost + 1)) rfl rfl rfl rfl k3 (by kernel_rfl) rfl rfl (by simp) ?_; intro W17 kn hu; replace HRI := Lib.hid (HRI.out.chg (Chg.upd (o := none) hu) (Ne.symm HG3.out.1) (by simp) HG3.out.2 (by simp)); replace k6 := k6.upd hu (Ne.symm HN36.out.1); replace k14 := k14.upd hu (Ne.symm HN14.out.2.2.2.1); replace HB := Lib.hid (upd_below HB.out hu HLE3.out); clear k3; have k3 : Blk _ g3 24 #[.int .i64 (lost + 1), .int .i64 mark, .slice ao l.length cap] := kn; clear kn hu)
        | ((with_reducible refine at_slot 83 ?_); refine wl_ld1 (v := .int .i64 x0.t) rfl rfl rfl k14 Try.underlying2 rfl rfl ?_)
        | ((with_reducible refine at_store 84 ?_); refine wl_st1 (v := .int .i64 x0.t) rfl rfl rfl rfl k3 (by kernel_rfl) rfl rfl (by simp) ?_; intro W18 kn hu; replace HRI := Lib.hid (HRI.out.chg (Chg.upd (o := none) hu) (Ne.symm HG3.out.1) (by simp) HG3.out.2 (by simp)); replace k6 := k6.upd hu (Ne.symm HN36.out.1); replace HB := Lib.hid (upd_below HB.out hu HLE3.out); clear k3; have k3 : Blk _ g3 24 #[.int .i64 (lost + 1), .int .i64 x0.t, .slice ao l.length cap] := kn; clear kn hu)
        | ((with_reducible refine at_slot 86 ?_); refine wl_callx rfl rfl Try.func24 (by kernel_rfl) rfl (e_all HRI.out hrm2) rfl ?_; intro v9 V86 hR; obtain ⟨ho9, hb⟩ := hR; have HO9 := Lib.hid ho9; have HS9 := Lib.hid (And.intro k3.lt k6.lt); have HV9 := Lib.hid (sl_one (v := v9) (by obtain ⟨a, b, e⟩ := own_sl ho9; exact ⟨_, _, _, e⟩)); have HZ9 := Lib.hid HB.out.size; replace k3 := k3.keep hb; replace k6 := k6.keep hb; replace HB := Lib.hid (below_tr HB.out hb); clear ho9 hb)
        | ((with_reducible refine at_store 87 ?_); refine wl_st1 (v := v9) rfl rfl rfl rfl k3 (by kernel_rfl) HV9.out.2 HV9.out.1 (by simp) ?_; intro W19 kn hu; have HO10 := Lib.hid (own_same HO9.out (fun q hq => hu.block q (HO9.out.lt q hq).2 (fun e => by have := (HO9.out.lt q hq).1; have := HS9.out.1; omega))); replace k6 := k6.upd hu (Ne.symm HN36.out.1); replace HB := Lib.hid (upd_below HB.out hu HLE3.out); clear k3; have k3 : Blk _ g3 24 #[.int .i64 (lost + 1), .int .i64 x0.t, v9] := kn; clear kn hu)
        | ((with_reducible refine at_slot 88 ?_); refine wl_ld0 rfl rfl rfl k3 Try.underlying24 rfl rw_size ?_)
        | ((with_reducible refine at_store 6 ?_); refine wl_st0 (A' := #[.int .i64 (lost + 1), .int .i64 x0.t, v9]) rfl rfl rfl rfl k6 rfl rw_size (rw_one _ _ _ HV9.out.1) ?_; intro W20 k20 hu; have HO11 := Lib.hid (own_same HO10.out (fun q hq => hu.block q (HO10.out.lt q hq).2 (fun e => by have := (HO10.out.lt q hq).1; have := HS9.out.2; omega))); replace HB := Lib.hid (upd_below HB.out hu HLE6.out); clear hu k6))
      refine bodyPost_ret (v := .tuple #[.agg #[.int .i64 (lost + 1), .int .i64 x0.t, v9], .int .i64 0]) (results_ct Try.results8 _ rfl rfl k20 Try.underlying24 rfl rw_size) rfl ?_
      exact ⟨v9, rfl, ⟨own_lst cE_len HO11.out rfl, fun q hq => ⟨Nat.le_trans HZ9.out (HO11.out.lt q hq).1, (HO11.out.lt q hq).2⟩⟩, HB.out⟩
set_option maxHeartbeats 4000000 in
set_option maxRecDepth 100000 in
theorem put_first (lost mark : Int) (v : Value) (l : List Ev) (hl : l.length ≤ 1000000) (hin : AllIn l) (rm : Nat) (e : Ev) (_ : EvIn e) (w : World) (h : Lst 4 cE w v l) (hok : RawOk lost mark l rm) (he : EvOk e) (hl0 : l.length = 0) (hr : l.length < rm) :
    Calls Try.prog 8 #[.agg #[.int .i64 lost, .int .i64 mark, v], .int .i64 rm, .agg (evA e)] w fun r w' => ∃ v', r = .returned (.tuple #[.agg #[.int .i64 lost, .int .i64 mark, v'], .int .i64 0]) ∧ (Lst 4 cE w' v' (l ++ [e]) ∧ ∀ q, v'.ownBlock = some q → w.heap.size ≤ q ∧ q < w'.heap.size) ∧ Below w.heap.size w w' := by
  have hrm1 : 1 ≤ rm := by have := hok.r1; omega
  have hrm0 : rm ≤ 4096 := by have := hok.r2; omega
  have hrm2 : rm ≤ 65536 := by omega
  have hll : l.length ≤ rm := by have := hok.len; omega
  have dl : (lost == 70368744177664) = false := by rcases hok.rl with h | h; rw [h.1]; rfl; have := h.2.2.2.1; omega
  have HMORE := Lib.hid (show ¬ l.length = rm by omega)
  obtain ⟨ao, b, off, cap, rfl, h1, h2⟩ := h.ex
  have H1 := Lib.hid h1
  have H2 := Lib.hid h2
  have HL := Lib.hid h
  have HCK := Lib.hid (fun W (hb : Below w.heap.size w W) => ck_any lost mark (.slice ao l.length cap) l (by omega) hin (rm : Int) W (h.keep hb))
  rw [ckE_yes hok] at HCK
  have HE := Lib.hid he
  have HSL : Hid (∃ ao' cap', Value.slice ao l.length cap = .slice ao' l.length cap') := Lib.hid ⟨_, _, rfl⟩
  have HZ := Lib.hid hl0
  clear h h1 h2 hin hok he hl0 hr
  go_enter Try.func8, Try.ntmps8
  go_wp2_with (first
    | ((with_reducible refine at_slot 3 ?_); refine wl_box (A := #[.int .i64 lost, .int .i64 mark, .slice ao l.length cap]) rfl rfl rfl ?_; intro W1 g3 k3 hb hle3; have HLE3 := Lib.hid hle3; have HB := Lib.hid hb; clear hb hle3)
    | ((with_reducible refine at_slot 5 ?_); refine wl_box (A := evA e) rfl rfl rfl ?_; intro W2 g5 k5 hb hle5; have HN35 := Lib.hid (k3.ne_of_le hle5); replace k3 := k3.keep hb; replace HB := Lib.hid (below_tr HB.out hb); clear hb hle5)
    | ((with_reducible refine at_slot 6 ?_); refine wl_alloc (A := #[.int .i64 0, .int .i64 0, .slice none 0 0]) rfl rfl rw_zero rfl ?_; intro W3 g6 k6 hb hle6; have HN36 := Lib.hid (And.intro (k3.ne_of_le hle6) (k5.ne_of_le hle6)); have HLE6 := Lib.hid (Nat.le_trans HB.out.size hle6); replace k3 := k3.keep hb; replace k5 := k5.keep hb; replace HB := Lib.hid (below_tr HB.out hb); clear hb hle6)
    | ((with_reducible refine at_slot 16 ?_); refine wl_ld0 rfl rfl rfl k3 Try.underlying24 rfl rw_size ?_)
    | ((with_reducible refine at_slot 18 ?_); refine wl_call rfl rfl Try.func14 (by kernel_rfl) rfl (HCK.out _ (HB.out)) rfl ?_; intro V18 hb; replace k3 := k3.keep hb; replace k5 := k5.keep hb; replace k6 := k6.keep hb; replace HB := Lib.hid (below_tr HB.out hb); clear hb)
    | ((with_reducible refine at_slot 21 ?_); refine wl_ld0 rfl rfl rfl k5 Try.underlying27 rfl evInfo ?_)
    | ((with_reducible refine at_slot 22 ?_); refine wl_call rfl rfl Try.func26 (by kernel_rfl) rfl (ev_yes HE.out _) rfl ?_; intro V22 hb; replace k3 := k3.keep hb; replace k5 := k5.keep hb; replace k6 := k6.keep hb; replace HB := Lib.hid (below_tr HB.out hb); clear hb)
    | ((with_reducible refine at_slot 27 ?_); refine wl_ld0 rfl rfl rfl k3 Try.underlying24 rfl rw_size ?_)
    | ((with_reducible refine at_slot 28 ?_); refine wl_call rfl rfl Try.func12 (by kernel_rfl) rfl (la_nil2 lost mark (.slice ao l.length cap) l HZ.out _ (HL.out.keep HB.out)) rfl ?_; intro V28 hb; replace k3 := k3.keep hb; replace k5 := k5.keep hb; replace k6 := k6.keep hb; replace HB := Lib.hid (below_tr HB.out hb); clear hb)
    | ((with_reducible refine at_slot 8 ?_); refine wl_alloc (A := evA zeroEv) rfl rfl ev_zero rfl ?_; intro W8 g8 k8 hb hle8; have HN8 := Lib.hid (show g3 ≠ g8 ∧ g5 ≠ g8 ∧ g6 ≠ g8 ∧ w.heap.size ≤ g8 from ⟨k3.ne_of_le hle8, k5.ne_of_le hle8, k6.ne_of_le hle8, Nat.le_trans HB.out.size hle8⟩); replace k3 := k3.keep hb; replace k5 := k5.keep hb; replace k6 := k6.keep hb; replace HB := Lib.hid (below_tr HB.out hb); clear hb)
    | ((with_reducible refine at_store 8 ?_); refine wl_st0 (A' := evA zeroEv) rfl rfl rfl rfl k8 rfl evInfo (evA_one _) ?_; intro V88 kn hu; replace k3 := k3.upd hu HN8.out.1; replace k5 := k5.upd hu HN8.out.2.1; replace k6 := k6.upd hu HN8.out.2.2.1; replace HB := Lib.hid (upd_below HB.out hu HN8.out.2.2.2); clear k8; have k8 := kn; clear kn hu)
    | ((with_reducible refine at_slot 41 ?_); refine wl_ld1 (v := .int .i64 lost) rfl rfl rfl k3 Try.underlying2 rfl rfl ?_)
    | ((with_reducible refine at_slot 45 ?_); refine wl_ld1 (v := (.slice ao l.length cap)) rfl rfl rfl k3 Try.underlying22 rfl rfl ?_)
    | ((with_reducible refine at_slot 46 ?_); refine wl_lenL rfl rfl rfl Try.underlying22 HSL.out ?_)
    | ((with_reducible refine at_slot 53 ?_); refine wl_callx rfl rfl Try.func20 (by kernel_rfl) rfl (e_new rm hrm1 hrm2 _) rfl ?_; intro g V8 hR; obtain ⟨hr1, hb, hr3⟩ := hR; have HK := Lib.hid (And.intro k3 (And.intro k5 k6)); have HBB := HB; have HRB : Hid (RgB 64 27 4 cE V88 V8 g none rm [] 0) := Lib.hid ⟨hr1, hb, hr3, fun q hq => by cases hq⟩; replace k3 := k3.keep hb; replace k5 := k5.keep hb; replace k6 := k6.keep hb; replace HB := Lib.hid (below_tr HB.out hb); clear hb; clear hr1 hr3)
    | ((with_reducible refine at_slot 61 ?_); refine wl_ld1 (v := (.slice ao l.length cap)) rfl rfl rfl k3 Try.underlying22 rfl rfl ?_))
  go_loopw [63] (fun i wr => ∃ (k : Nat) (o : Option Nat), k ≤ l.length ∧ i = .int .i64 k ∧ RgB 64 27 4 cE V88 wr g o rm (l.take k) 0) (fun i _ => l.length - (intOf i).toNat)
  case atStart => exact ⟨0, none, Nat.zero_le _, rfl, HRB.out⟩
  case round =>
    clear HRB k3 k5 k6 HB
    obtain ⟨k, o, hk, rfl, hRB⟩ := hrel
    have HRB := Lib.hid hRB
    clear hRB
    by_cases hlt : k < l.length
    · obtain ⟨rfl, hq1⟩ := H1.out (by omega)
      have hgx : l[k]? = some l[k] := List.getElem?_eq_getElem hlt
      have HTK := Lib.hid (List.take_succ_eq_append_getElem hlt)
      have HKX := Lib.hid (range_keep (H2.out k _ hgx) ((below_tr HBB.out HRB.out.below).block b hq1))
      generalize l[k] = y at hgx HTK HKX
      have hmm : l.length ≤ 9223372036854775807 := by omega
      have hnf : ¬ (l.take k).length = rm := by rw [List.length_take]; omega
      have HPT := Lib.hid (fun W (o' : Option Nat) (hR : RgI 64 27 4 cE W g o' rm (l.take k) 0) => e_put hR hrm2 y)
      rw [putB_no hnf, putX_no hnf, putL_no hnf, putN_no hnf] at HPT
      clear hgx hnf
      go_wp2_with (first
        | ((with_reducible refine at_slot 65 ?_); refine wl_ixo rfl rfl rfl rfl Try.underlying22 rfl hlt hmm ?_)
        | ((with_reducible refine at_slot 66 ?_); refine wl_ldr (B := evA y) rfl rfl rfl HKX.out Try.underlying27 rfl evInfo ?_)
        | ((with_reducible refine at_slot 13 ?_); refine wl_alloc (A := evA zeroEv) rfl rfl ev_zero rfl ?_; intro W13 g13 k13 hb hle13; have HN13 := Lib.hid (show g13 ≠ g ∧ o ≠ some g13 ∧ V88.heap.size ≤ g13 from ⟨by have := HRB.out.ri.lt; omega, fun e => by have := HRB.out.ri.o_lt _ e; omega, Nat.le_trans HRB.out.below.size hle13⟩); replace HRB := Lib.hid (HRB.out.stay hb); clear hb hle13)
        | ((with_reducible refine at_store 13 ?_); refine wl_st0 (A' := evA y) rfl rfl rfl rfl k13 rfl evInfo (evA_one _) ?_; intro W14 kn hu; replace HRB := Lib.hid (HRB.out.upd hu HN13.out.1 HN13.out.2.1 HN13.out.2.2); clear k13; have k13 := kn; clear kn hu)
        | ((with_reducible refine at_slot 68 ?_); refine wl_ld0 rfl rfl rfl k13 Try.underlying27 rfl evInfo ?_)
        | ((with_reducible refine at_slot 69 ?_); refine wl_call rfl rfl Try.func21 (by kernel_rfl) rfl (HPT.out _ _ HRB.out.ri) rfl ?_; intro V69 hR; have hR2 := HRB.out.step hR; clear HRB hR; obtain ⟨o2, hR3⟩ := hR2; have HRB := Lib.hid hR3; clear hR3))
      go_roundw
      case rel => exact ⟨k + 1, o2, hlt, by go_num, by rw [HTK.out]; exact HRB.out⟩
      case measure => simp [intOf]; omega
    · obtain rfl : k = l.length := by omega
      have hr' := HRB.out
      rw [List.take_length] at hr'
      clear HRB
      have HRB := Lib.hid hr'
      have HPT := Lib.hid (fun W (o' : Option Nat) (hR : RgI 64 27 4 cE W g o' rm l 0) => e_put hR hrm2 e)
      rw [putB_no HMORE.out, putX_no HMORE.out, putL_no HMORE.out, putN_no HMORE.out] at HPT
      have k3 := HK.out.1.keep HRB.out.below
      have k5 := HK.out.2.1.keep HRB.out.below
      have k6 := HK.out.2.2.keep HRB.out.below
      have HB := Lib.hid (below_tr HBB.out HRB.out.below)
      have HGB := Lib.hid (show V88.heap.size ≤ g ∧ g3 < V88.heap.size ∧ g6 < V88.heap.size from ⟨HRB.out.hg, HK.out.1.lt, HK.out.2.2.lt⟩)
      clear hr' hk hlt
      go_wp2_with (first
        | ((with_reducible refine at_slot 73 ?_); refine wl_ld0 rfl rfl rfl k5 Try.underlying27 rfl evInfo ?_)
        | ((with_reducible refine at_slot 74 ?_); refine wl_call rfl rfl Try.func21 (by kernel_rfl) rfl (HPT.out _ _ HRB.out.ri) rfl ?_; intro V74 hR; have hR2 := HRB.out.step hR; obtain ⟨o2, hR3⟩ := hR2; have hbb := below_tr HBB.out hR3.below; have HRB2 := Lib.hid hR3; replace k3 := HK.out.1.keep hR3.below; replace k6 := HK.out.2.2.keep hR3.below; replace HB := Lib.hid hbb; clear hR3 hbb HRB hR k5)
        | ((with_reducible refine at_slot 14 ?_); refine wl_alloc (A := evA zeroEv) rfl rfl ev_zero rfl ?_; intro W15 g14 k14 hb hle14; have HN14 := Lib.hid (show g14 ≠ g ∧ o2 ≠ some g14 ∧ V88.heap.size ≤ g14 ∧ g3 ≠ g14 ∧ g6 ≠ g14 ∧ w.heap.size ≤ g14 from ⟨by have := HRB2.out.ri.lt; omega, fun e => by have := HRB2.out.ri.o_lt _ e; omega, Nat.le_trans HRB2.out.below.size hle14, k3.ne_of_le hle14, k6.ne_of_le hle14, Nat.le_trans HB.out.size hle14⟩); replace HRB2 := Lib.hid (HRB2.out.stay hb); replace k3 := k3.keep hb; replace k6 := k6.keep hb; replace HB := Lib.hid (below_tr HB.out hb); clear hb hle14)
        | ((with_reducible refine at_store 14 ?_); refine wl_st0 (A' := evA zeroEv) rfl rfl rfl rfl k14 rfl evInfo (evA_one _) ?_; intro W16 kn hu; replace HRB2 := Lib.hid (HRB2.out.upd hu HN14.out.1 HN14.out.2.1 HN14.out.2.2.1); replace k3 := k3.upd hu HN14.out.2.2.2.1; replace k6 := k6.upd hu HN14.out.2.2.2.2.1; replace HB := Lib.hid (upd_below HB.out hu HN14.out.2.2.2.2.2); clear k14; have k14 := kn; have HRI := Lib.hid HRB2.out.ri; have HG3 := Lib.hid (show g3 ≠ g ∧ o2 ≠ some g3 from ⟨by have := HGB.out; omega, fun e => by have := HRB2.out.ho _ e; have := HGB.out; omega⟩); clear kn hu)
        | ((with_reducible refine at_slot 86 ?_); refine wl_callx rfl rfl Try.func24 (by kernel_rfl) rfl (e_all HRI.out hrm2) rfl ?_; intro v9 V86 hR; obtain ⟨ho9, hb⟩ := hR; have HO9 := Lib.hid ho9; have HS9 := Lib.hid (And.intro k3.lt k6.lt); have HV9 := Lib.hid (sl_one (v := v9) (by obtain ⟨a, b, e⟩ := own_sl ho9; exact ⟨_, _, _, e⟩)); have HZ9 := Lib.hid HB.out.size; replace k3 := k3.keep hb; replace k6 := k6.keep hb; replace HB := Lib.hid (below_tr HB.out hb); clear ho9 hb)
        | ((with_reducible refine at_store 87 ?_); refine wl_st1 (v := v9) rfl rfl rfl rfl k3 (by kernel_rfl) HV9.out.2 HV9.out.1 (by simp) ?_; intro W19 kn hu; have HO10 := Lib.hid (own_same HO9.out (fun q hq => hu.block q (HO9.out.lt q hq).2 (fun e => by have := (HO9.out.lt q hq).1; have := HS9.out.1; omega))); replace k6 := k6.upd hu (Ne.symm HN36.out.1); replace HB := Lib.hid (upd_below HB.out hu HLE3.out); clear k3; have k3 : Blk _ g3 24 #[.int .i64 lost, .int .i64 mark, v9] := kn; clear kn hu)
        | ((with_reducible refine at_slot 88 ?_); refine wl_ld0 rfl rfl rfl k3 Try.underlying24 rfl rw_size ?_)
        | ((with_reducible refine at_store 6 ?_); refine wl_st0 (A' := #[.int .i64 lost, .int .i64 mark, v9]) rfl rfl rfl rfl k6 rfl rw_size (rw_one _ _ _ HV9.out.1) ?_; intro W20 k20 hu; have HO11 := Lib.hid (own_same HO10.out (fun q hq => hu.block q (HO10.out.lt q hq).2 (fun e => by have := (HO10.out.lt q hq).1; have := HS9.out.2; omega))); replace HB := Lib.hid (upd_below HB.out hu HLE6.out); clear hu k6))
      refine bodyPost_ret (v := .tuple #[.agg #[.int .i64 lost, .int .i64 mark, v9], .int .i64 0]) (results_ct Try.results8 _ rfl rfl k20 Try.underlying24 rfl rw_size) rfl ?_
      exact ⟨v9, rfl, ⟨own_lst cE_len HO11.out rfl, fun q hq => ⟨Nat.le_trans HZ9.out (HO11.out.lt q hq).1, (HO11.out.lt q hq).2⟩⟩, HB.out⟩
end Go.Proofs.Ytohkioakipjanaa
