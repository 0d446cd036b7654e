/-
  WALKS: the document's Put of raw events, where the oldest goes.
-/
import Derived.Test.YtohkioakipjanaaRq12
namespace Go.Proofs.Ytohkioakipjanaa
open Go Go.RowKit

theorem yi_slice {P : Program} {ops : Array Oper} {op : Oper} {a : Act} {S : World → Prop} {t : TypeId} {x : Operand} {lo hi : Option Operand} {v r : Value} {lo' hi' : Option Value} (ho : op.op = .slice t x lo hi none) (hw : Region.wanted op (yielded ops a.tmps) = true) (hr : ∀ w, (Instr.sliceAt t v lo' hi' none).run P w = .ok r w) (hx : a.eval x = v) (hl : lo.map a.eval = lo') (hh : hi.map a.eval = hi') : YieldsIf P ops S op r a :=
  yi_ok hw fun w => by
    unfold execOp
    simp only [ho, hx, hl, hh, Option.map_none, Sem.run_bind, hr w, Result.andThen_ok, Sem.run_pure]
theorem cut_one (q n cap : Nat) (xs : List Ev) (hn : n + 1 ≤ 9223372036854775807) (hc : n + 1 ≤ cap) :
    ∃ vs, (∀ w, (Instr.sliceAt 22 (.slice (some ⟨q, 0, none⟩) (n + 1) cap) (some (.int .i64 1)) none none).run Try.prog w = .ok vs w) ∧ (∀ w, Lst 4 cE w (.slice (some ⟨q, 0, none⟩) (n + 1) cap) xs → Lst 4 cE w vs (xs.drop 1)) ∧ ∃ ao m cp, vs = .slice ao m cp :=
  ⟨_, fun w => run_from (i := 1) (k := 4) Try.underlying22 rfl (by omega) hn w, fun _ h => lst_from h (by omega) hc, ⟨_, _, _, rfl⟩⟩
set_option maxHeartbeats 4000000 in
set_option maxRecDepth 100000 in
theorem rput_full (lost mark : Int) (v : Value) (l : List Ev) (hl : l.length ≤ 1000000) (hin : AllIn l) (rm : Nat) (e : Ev) (_ : EvIn e) (w : World) (h : Lst 4 cE w v l) (hok : RawOk lost mark l rm) (he : EvOk e) (j : Nat) (x : Ev) (hj : l.length = j + 1) (hx : l[j]? = some x) (hlt : x.t < e.t) (hr : l.length = rm) (hm : lost < 70368744177664) (x0 : Ev) (hx0 : l[0]? = some x0) :
    Calls Try.prog 9 #[.agg #[.int .i64 lost, .int .i64 mark, v], .int .i64 rm, .agg (evA e)] w fun r w' => ∃ v', r = .returned (.tuple #[.agg #[.int .i64 (lost + 1), .int .i64 x0.t, v'], .int .i64 0]) ∧ Lst 4 cE w' v' (l.tail ++ [e]) ∧ Below w.heap.size w w' := by
  obtain ⟨i0, hi, hz, hs, hby⟩ := infoE
  have HI0 := Lib.hid (show _ ∧ _ ∧ _ ∧ _ from ⟨hi, hz, hs, hby⟩)
  clear hi hz hs hby
  have hrm0 : rm ≤ 4096 := by have := hok.r2; omega
  obtain ⟨ao, b, off, cap, rfl, h1, h2⟩ := h.ex
  obtain ⟨rfl, hq1⟩ := h1 (by omega)
  have HBQ := Lib.hid hq1
  have HKX := Lib.hid (h2 j x hx)
  have HSL : Hid (∃ ao' cap', Value.slice (some ⟨b, off, none⟩) l.length cap = .slice ao' l.length cap') := Lib.hid ⟨_, _, rfl⟩
  have HL := Lib.hid h
  have HCK := Lib.hid (fun W (hb : Below w.heap.size w W) => rck_any lost mark (.slice (some ⟨b, off, none⟩) l.length cap) l (by omega) hin (rm : Int) W (h.keep hb))
  rw [ckE_yes hok] at HCK
  have HE := Lib.hid he
  have HT := Lib.hid hlt
  have hwj : IntKind.i64.wrap ((l.length : Int) - 1) = (j : Nat) := by rw [IntKind.wrap_i64]; omega
  have hjl : j < l.length := by omega
  have HMM : l.length ≤ 9223372036854775807 := by omega
  have hl1 : (0 : Int) < (l.length : Int) := by omega
  have d1 : ((l.length : Int) == (rm : Int)) = true := by simp; omega
  have d2 : ¬ (l.length : Int) < (rm : Int) := by omega
  have dl : (lost == 70368744177664) = false := by simp; omega
  have hlo : 0 ≤ lost := by rcases hok.rl with h | h; omega; exact h.2.1
  have HW := Lib.hid (show IntKind.i64.wrap (lost + 1) = lost + 1 by rw [IntKind.wrap_i64]; omega)
  have HXE : Hid ((l ++ [e])[0]? = some x0) := Lib.hid (by rw [List.getElem?_append_left (by omega)]; exact hx0)
  have HTL : Hid ((l ++ [e]).drop 1 = l.tail ++ [e]) := Lib.hid (by cases l with | nil => simp at hx0 | cons a r => rfl)
  clear h h1 h2 hin hok he hj hx hlt hq1 hr hm hx0 hlo
  go_enter Try.func9, Try.ntmps9
  go_upto_region 4 with (first
    | ((with_reducible refine at_slot 3 ?_); refine wl_box (A := #[.int .i64 lost, .int .i64 mark, .slice (some ⟨b, off, none⟩) l.length cap]) rfl rfl rfl ?_; intro W1 g3 k3 hb hle3; have HLE3 := Lib.hid hle3; have HB := Lib.hid hb; clear hb hle3)
    | ((with_reducible refine at_slot 5 ?_); refine wl_box (A := evA e) rfl rfl rfl ?_; intro W2 g5 k5 hb hle5; have HN35 := Lib.hid (k3.ne_of_le hle5); replace k3 := k3.keep hb; replace HB := Lib.hid (below_tr HB.out hb); clear hb hle5)
    | ((with_reducible refine at_slot 6 ?_); refine wl_alloc (A := #[.int .i64 0, .int .i64 0, .slice none 0 0]) rfl rfl rw_zero rfl ?_; intro W3 g6 k6 hb hle6; have HN36 := Lib.hid (And.intro (k3.ne_of_le hle6) (k5.ne_of_le hle6)); have HLE6 := Lib.hid (Nat.le_trans HB.out.size hle6); replace k3 := k3.keep hb; replace k5 := k5.keep hb; replace HB := Lib.hid (below_tr HB.out hb); clear hb hle6)
    | ((with_reducible refine at_slot 10 ?_); refine wl_ld0 rfl rfl rfl k3 Try.underlying24 rfl rw_size ?_)
    | ((with_reducible refine at_slot 12 ?_); refine wl_call rfl rfl Try.func15 (by kernel_rfl) rfl (HCK.out _ (HB.out)) rfl ?_; intro V12 hb; replace k3 := k3.keep hb; replace k5 := k5.keep hb; replace k6 := k6.keep hb; replace HB := Lib.hid (below_tr HB.out hb); clear hb)
    | ((with_reducible refine at_slot 15 ?_); refine wl_ld0 rfl rfl rfl k5 Try.underlying27 rfl evInfo ?_)
    | ((with_reducible refine at_slot 16 ?_); refine wl_call rfl rfl Try.func28 (by kernel_rfl) rfl (rev_yes HE.out _) rfl ?_; intro V16 hb; replace k3 := k3.keep hb; replace k5 := k5.keep hb; replace k6 := k6.keep hb; replace HB := Lib.hid (below_tr HB.out hb); clear hb)
    | ((with_reducible refine at_slot 21 ?_); refine wl_ld1 (v := .slice (some ⟨b, off, none⟩) l.length cap) rfl rfl rfl k3 Try.underlying22 rfl rfl ?_)
    | ((with_reducible refine at_slot 22 ?_); refine wl_lenL rfl rfl rfl Try.underlying22 HSL.out ?_))
  have hbV : b < V16.heap.size := Nat.lt_of_lt_of_le HBQ.out HB.out.size
  refine wp_region_held_drew (S := fun w' => Below V16.heap.size V16 w') (by kernel_rfl) (Below.refl _ _).drew (fun hS => ?_)
  refine wpAnyH_take (i := 0) (oi := ⟨some 23, _, _, _, _, _⟩) (v := .int .i64 (l.length : Int)) rfl (by kernel_rfl) (by kernel_rfl) (by kernel_rfl) (fun _ _ _ h => h) (yi_mv (Or.inl rfl) rfl rfl) hS ?_
  simp only [Act.put, List.setIfInBounds_toArray, List.set_cons_zero, List.set_cons_succ]
  refine wpAnyH_take (i := 1) (oi := ⟨some 24, _, _, _, _, _⟩) (v := .bool true) rfl (by kernel_rfl) (by kernel_rfl) (by kernel_rfl) (fun _ _ _ h => h) (yi_bi rfl rfl rfl rfl (fun _ => rfl) (fun _ => gtr_is (decide_eq_true hl1))) hS ?_
  simp only [Act.put, List.setIfInBounds_toArray, List.set_cons_zero, List.set_cons_succ]
  refine wpAnyH_take (i := 2) (oi := ⟨some 25, _, _, _, _, _⟩) (v := .bool true) rfl (by kernel_rfl) (by kernel_rfl) (by kernel_rfl) (fun _ _ _ h => h) (yi_mv (Or.inl rfl) rfl rfl) hS ?_
  simp only [Act.put, List.setIfInBounds_toArray, List.set_cons_zero, List.set_cons_succ]
  refine wpAnyH_take (i := 3) (oi := ⟨some 26, _, _, _, _, _⟩) (v := .pointer (some ⟨g3, 2, none⟩)) rfl (by kernel_rfl) (by kernel_rfl) (by kernel_rfl) (fun _ _ _ h => h) (yi_ok (by kernel_rfl) (fun _ => by go_simp)) hS ?_
  simp only [Act.put, List.setIfInBounds_toArray, List.set_cons_zero, List.set_cons_succ]
  refine wpAnyH_take (i := 4) (oi := ⟨some 27, _, _, _, _, _⟩) (v := .slice (some ⟨b, off, none⟩) l.length cap) rfl (by kernel_rfl) (by kernel_rfl) (by kernel_rfl) (fun _ _ _ h => h) (yi_ld1 (v := .slice (some ⟨b, off, none⟩) l.length cap) rfl (by kernel_rfl) rfl (fun w' h => k3.keep h) Try.underlying22 rfl rfl) hS ?_
  simp only [Act.put, List.setIfInBounds_toArray, List.set_cons_zero, List.set_cons_succ]
  refine wpAnyH_take (i := 5) (oi := ⟨some 28, _, _, _, _, _⟩) (v := .int .i64 (l.length : Int)) rfl (by kernel_rfl) (by kernel_rfl) (by kernel_rfl) (fun _ _ _ h => h) (yi_mv (Or.inl rfl) (by kernel_rfl) rfl) hS ?_
  simp only [Act.put, List.setIfInBounds_toArray, List.set_cons_zero, List.set_cons_succ]
  refine wpAnyH_take (i := 6) (oi := ⟨some 29, _, _, _, _, _⟩) (v := .int .i64 (j : Nat)) rfl (by kernel_rfl) (by kernel_rfl) (by kernel_rfl) (fun _ _ _ h => h) (yi_bi rfl (by kernel_rfl) rfl rfl (fun _ => rfl) (fun _ => sub_is hwj)) hS ?_
  simp only [Act.put, List.setIfInBounds_toArray, List.set_cons_zero, List.set_cons_succ]
  refine wpAnyH_take (i := 7) (oi := ⟨some 30, _, _, _, _, _⟩) (v := .pointer (some ⟨b, off + j * 4, none⟩)) rfl (by kernel_rfl) (by kernel_rfl) (by kernel_rfl) (fun _ _ _ h => h) (yi_ixo rfl (by kernel_rfl) rfl rfl Try.underlying22 rfl hjl HMM) hS ?_
  simp only [Act.put, List.setIfInBounds_toArray, List.set_cons_zero, List.set_cons_succ]
  refine wpAnyH_take (i := 8) (oi := ⟨some 31, _, _, _, _, _⟩) (v := .pointer (some ⟨b, off + j * 4, none⟩)) rfl (by kernel_rfl) (by kernel_rfl) (by kernel_rfl) (fun _ _ _ h => h) (yi_ok (by kernel_rfl) (fun _ => by go_simp)) hS ?_
  simp only [Act.put, List.setIfInBounds_toArray, List.set_cons_zero, List.set_cons_succ]
  refine wpAnyH_take (i := 9) (oi := ⟨some 32, _, _, _, _, _⟩) (v := .int .i64 x.t) rfl (by kernel_rfl) (by kernel_rfl) (by kernel_rfl) (fun _ _ _ h => h) (yi_c rfl (by kernel_rfl) rfl (fun w' h => range_keep (range_keep HKX.out (HB.out.block b HBQ.out)) (h.block b hbV) 0 _ rfl) Try.underlying2 rfl) hS ?_
  simp only [Act.put, List.setIfInBounds_toArray, List.set_cons_zero, List.set_cons_succ]
  refine wpAnyH_take (i := 10) (oi := ⟨some 33, _, _, _, _, _⟩) (v := .pointer (some ⟨g5, 0, none⟩)) rfl (by kernel_rfl) (by kernel_rfl) (by kernel_rfl) (fun _ _ _ h => h) (yi_ok (by kernel_rfl) (fun _ => by go_simp)) hS ?_
  simp only [Act.put, List.setIfInBounds_toArray, List.set_cons_zero, List.set_cons_succ]
  refine wpAnyH_take (i := 11) (oi := ⟨some 34, _, _, _, _, _⟩) (v := .int .i64 e.t) rfl (by kernel_rfl) (by kernel_rfl) (by kernel_rfl) (fun _ _ _ h => h) (yi_ld1 (v := .int .i64 e.t) rfl (by kernel_rfl) rfl (fun w' h => k5.keep h) Try.underlying2 rfl rfl) hS ?_
  simp only [Act.put, List.setIfInBounds_toArray, List.set_cons_zero, List.set_cons_succ]
  refine wpAnyH_take (i := 12) (oi := ⟨some 35, _, _, _, _, _⟩) (v := .bool false) rfl (by kernel_rfl) (by kernel_rfl) (by kernel_rfl) (fun _ _ _ h => h) (yi_bi rfl (by kernel_rfl) rfl rfl (fun _ => rfl) (fun _ => geq_is (decide_eq_false (by have := HT.out; omega)))) hS ?_
  simp only [Act.put, List.setIfInBounds_toArray, List.set_cons_zero, List.set_cons_succ]
  refine wpAnyH_take (i := 13) (oi := ⟨some 36, _, _, _, _, _⟩) (v := .bool false) rfl (by kernel_rfl) (by kernel_rfl) (by kernel_rfl) (fun _ _ _ h => h) (yi_pick1 rfl rfl rfl rfl) hS ?_
  simp only [Act.put, List.setIfInBounds_toArray, List.set_cons_zero, List.set_cons_succ]
  refine wpAnyH_done (by kernel_rfl) ?_ _
  replace k3 := k3.keep hS
  replace k5 := k5.keep hS
  replace k6 := k6.keep hS
  replace HB := Lib.hid (below_tr HB.out hS)
  clear hS hbV
  have HS6 := Lib.hid (show g6 < V16.drew.heap.size from k6.lt)
  generalize V16.drew = W5 at *
  have HLv := Lib.hid (HL.out.keep HB.out)
  go_upto_region 8 with (first
    | ((with_reducible refine at_slot 43 ?_); refine wl_ld1 (v := .int .i64 lost) rfl rfl rfl k3 Try.underlying2 rfl rfl ?_))
  refine wp_region_held_drew (S := fun w' => Below W5.heap.size W5 w') (by kernel_rfl) (Below.refl _ _).drew (fun hS => ?_)
  refine wpAnyH_take (i := 1) (oi := ⟨some 48, _, _, _, _, _⟩) (v := .pointer (some ⟨g3, 2, none⟩)) rfl (by kernel_rfl) (by kernel_rfl) (by kernel_rfl) (fun _ _ _ h => h) (yi_ok rfl (fun _ => by go_simp)) hS ?_
  simp only [Act.put, List.setIfInBounds_toArray, List.set_cons_zero, List.set_cons_succ]
  refine wpAnyH_take (i := 2) (oi := ⟨some 49, _, _, _, _, _⟩) (v := .slice (some ⟨b, off, none⟩) l.length cap) rfl (by kernel_rfl) (by kernel_rfl) (by kernel_rfl) (fun _ _ _ h => h) (yi_ld1 (v := .slice (some ⟨b, off, none⟩) l.length cap) rfl rfl rfl (fun w' h => k3.keep h) Try.underlying22 rfl rfl) hS ?_
  simp only [Act.put, List.setIfInBounds_toArray, List.set_cons_zero, List.set_cons_succ]
  refine wpAnyH_take (i := 4) (oi := ⟨some 51, _, _, _, _, _⟩) (v := .agg (evA e)) rfl (by kernel_rfl) (by kernel_rfl) (by kernel_rfl) (fun _ _ _ h => h) (yi_ld0 rfl rfl rfl (fun w' h => k5.keep h) Try.underlying27 rfl evInfo) hS ?_
  simp only [Act.put, List.setIfInBounds_toArray, List.set_cons_zero, List.set_cons_succ]
  refine wpAnyH_ready (rs := [0, 5]) (by kernel_rfl) (by simp) (AllReadyH.cons (i := 0) rfl (fun K' hK => ?_) (AllReadyH.cons (i := 5) rfl (fun K' hK => ?_) AllReadyH.nil))
  · skip
    obtain ⟨g0, Wz, hr0, ow0, hb0, hg0⟩ := bs0_step W5.heap.size W5.drew hS.size
    refine wq_bsx rfl rfl hr0 rfl (hK.out _ _ (below_tr hS hb0) (fun hS2 => ?_))
    simp only [Act.put, List.setIfInBounds_toArray]
    clear hK hr0
    refine wpAnyH_ready (rs := [3, 5]) (by kernel_rfl) (by simp) (AllReadyH.cons (i := 3) rfl (fun K' hK => ?_) (AllReadyH.cons (i := 5) rfl (fun K' hK => ?_) AllReadyH.nil))
    · skip
      refine wq_app (c := cE) (v := .slice (some ⟨g0, 0, none⟩) 0 0) (xs := ([] : List Ev)) (ys := l) rfl rfl cE_len (by decide) cE_one W5.heap.size 27 i0 _ 32 Try.underlying22 HI0.out.1 HI0.out.2.1 HI0.out.2.2.1 HI0.out.2.2.2 rfl rfl rfl ow0 (HLv.out.keep hS2) (by unfold maxLen; simp; omega) (by simp; omega) hS2.size ?_
      intro v3 Wx ow3 hg3 hat3
      refine hK.out _ _ (hS2.grown hg3 hS2.size (fun q hq => (ow0.lt q hq).1)) (fun hS3 => ?_)
      simp only [Act.put]
      clear hK
      refine anyH_one (i := 5) (by kernel_rfl) rfl (fun K' hK => ?_)
      obtain ⟨gb, Wy, hr5, ls5, hb5, hgb⟩ := bs1_step e Wx
      refine wq_bsx rfl rfl hr5 rfl (hK _ _ (below_tr hS3 hb5) (fun hS4 => ?_))
      simp only [Act.put]
      clear hK hr5
      refine anyH_one (i := 6) (by kernel_rfl) rfl (fun K' hK => ?_)
      refine wq_app (c := cE) (v := v3) (xs := ([] ++ l)) (ys := [e]) rfl rfl cE_len (by decide) cE_one W5.heap.size 27 i0 _ 32 Try.underlying22 HI0.out.1 HI0.out.2.1 HI0.out.2.2.1 HI0.out.2.2.2 rfl rfl rfl (own_keep ow3 hb5) ls5 (by unfold maxLen; simp; omega) (by simp; omega) hS4.size ?_
      intro v9 W9 ow9 hg9 hat9
      refine hK _ _ (hS4.grown hg9 hS4.size (fun q hq => ((own_keep ow3 hb5).lt q hq).1)) (fun hS9 => ?_)
      simp only [Act.put]
      refine wpAnyH_take (i := 7) (oi := ⟨some 9, _, _, _, _, _⟩) (v := v9) rfl (by kernel_rfl) (by kernel_rfl) (by kernel_rfl) (fun _ _ _ h => h) (yi_mv (Or.inr rfl) rfl rfl) hS9 ?_
      simp only [Act.put]
      refine wpAnyH_done (by kernel_rfl) ?_ _
      replace k3 := k3.keep hS9
      replace k6 := k6.keep hS9
      replace HB := Lib.hid (below_tr HB.out hS9)
      have HO9 : Hid (W9.ownsRow W5.heap.size 27 4 v9 (l.length + 1) (fl cE (l ++ [e]))) := Lib.hid (by have := ow9; rw [Nat.zero_add] at this; exact this)
      have HV9 := Lib.hid (own_sl HO9.out)
      have HV1 := Lib.hid (sl_one (v := v9) (by obtain ⟨a, b, e⟩ := HV9.out; exact ⟨_, _, _, e⟩))
      clear hK
      obtain ⟨q9, cap9, rfl, hcap9⟩ : ∃ q cap, v9 = .slice (some ⟨q, 0, none⟩) (l.length + 1) cap ∧ l.length + 1 ≤ cap := by
        rcases own_v HO9.out with h | h
        · exact absurd h.2 (by omega)
        · exact h
      obtain ⟨vs, hvs, hls, hvn⟩ := cut_one q9 l.length cap9 (l ++ [e]) (by omega) hcap9
      have HVS := Lib.hid hvs
      have HLS := Lib.hid hls
      have HVN := Lib.hid (sl_one (v := vs) hvn)
      have HVN3 := Lib.hid hvn
      have HM9 : l.length + 1 ≤ 9223372036854775807 := by omega
      clear hvs hls hcap9 hvn
      go_upto_region 11 with fail
      refine wp_region_held_drew (S := fun w' => Blk w' g3 24 #[.int .i64 lost, .int .i64 mark, .slice (some ⟨b, off, none⟩) l.length cap] ∧ w'.ownsRow W5.heap.size 27 4 (.slice (some ⟨q9, 0, none⟩) (l.length + 1) cap9) (l.length + 1) (fl cE (l ++ [e]))) (by kernel_rfl) ⟨k3.drew, own_same HO9.out (fun _ _ => rfl)⟩ (fun hS => ?_)
      refine wpAnyH_take (i := 0) (oi := ⟨some 63, _, _, _, _, _⟩) (v := .pointer (some ⟨g3, 0, none⟩)) rfl (by kernel_rfl) (by kernel_rfl) (by kernel_rfl) (fun _ _ _ h => h) (yi_ok rfl (fun _ => by go_simp)) hS ?_
      simp only [Act.put, List.setIfInBounds_toArray, List.set_cons_zero, List.set_cons_succ]
      refine wpAnyH_take (i := 1) (oi := ⟨some 64, _, _, _, _, _⟩) (v := .int .i64 lost) rfl (by kernel_rfl) (by kernel_rfl) (by kernel_rfl) (fun _ _ _ h => h) (yi_ld1 (v := .int .i64 lost) rfl rfl rfl (fun w' h => h.1) Try.underlying2 rfl rfl) hS ?_
      simp only [Act.put, List.setIfInBounds_toArray, List.set_cons_zero, List.set_cons_succ]
      refine wpAnyH_take (i := 2) (oi := ⟨some 65, _, _, _, _, _⟩) (v := .int .i64 (lost + 1)) rfl (by kernel_rfl) (by kernel_rfl) (by kernel_rfl) (fun _ _ _ h => h) (yi_bi rfl rfl rfl rfl (fun _ => rfl) (fun _ => add_is HW.out)) hS ?_
      simp only [Act.put, List.setIfInBounds_toArray, List.set_cons_zero, List.set_cons_succ]
      refine wpAnyH_take (i := 3) (oi := ⟨some 66, _, _, _, _, _⟩) (v := .slice (some ⟨q9, 0, none⟩) (l.length + 1) cap9) rfl (by kernel_rfl) (by kernel_rfl) (by kernel_rfl) (fun _ _ _ h => h) (yi_mv (Or.inl rfl) rfl rfl) hS ?_
      simp only [Act.put, List.setIfInBounds_toArray, List.set_cons_zero, List.set_cons_succ]
      refine wpAnyH_take (i := 4) (oi := ⟨some 67, _, _, _, _, _⟩) (v := .pointer (some ⟨q9, 0 + 0 * 4, none⟩)) rfl (by kernel_rfl) (by kernel_rfl) (by kernel_rfl) (fun _ _ _ h => h) (yi_ixo (i := 0) rfl rfl rfl rfl Try.underlying22 rfl (by omega) HM9) hS ?_
      simp only [Act.put, List.setIfInBounds_toArray, List.set_cons_zero, List.set_cons_succ]
      refine wpAnyH_take (i := 5) (oi := ⟨some 68, _, _, _, _, _⟩) (v := .pointer (some ⟨q9, 0 + 0 * 4, none⟩)) rfl (by kernel_rfl) (by kernel_rfl) (by kernel_rfl) (fun _ _ _ h => h) (yi_ok rfl (fun _ => by go_simp)) hS ?_
      simp only [Act.put, List.setIfInBounds_toArray, List.set_cons_zero, List.set_cons_succ]
      refine wpAnyH_take (i := 6) (oi := ⟨some 69, _, _, _, _, _⟩) (v := .int .i64 x0.t) rfl (by kernel_rfl) (by kernel_rfl) (by kernel_rfl) (fun _ _ _ h => h) (yi_c rfl rfl rfl (fun w' h => own_range cE_len h.2 rfl HXE.out 0 _ rfl) Try.underlying2 rfl) hS ?_
      simp only [Act.put, List.setIfInBounds_toArray, List.set_cons_zero, List.set_cons_succ]
      refine wpAnyH_take (i := 7) (oi := ⟨some 70, _, _, _, _, _⟩) (v := .slice (some ⟨q9, 0, none⟩) (l.length + 1) cap9) rfl (by kernel_rfl) (by kernel_rfl) (by kernel_rfl) (fun _ _ _ h => h) (yi_mv (Or.inl rfl) rfl rfl) hS ?_
      simp only [Act.put, List.setIfInBounds_toArray, List.set_cons_zero, List.set_cons_succ]
      refine wpAnyH_take (i := 8) (oi := ⟨some 71, _, _, _, _, _⟩) (v := vs) rfl (by kernel_rfl) (by kernel_rfl) (by kernel_rfl) (fun _ _ _ h => h) (yi_slice rfl rfl (fun w => HVS.out w) rfl rfl rfl) hS ?_
      simp only [Act.put, List.setIfInBounds_toArray, List.set_cons_zero, List.set_cons_succ]
      refine wpAnyH_take (i := 9) (oi := ⟨some 72, _, _, _, _, _⟩) (v := .agg #[.int .i64 (lost + 1), .int .i64 x0.t, vs]) rfl (by kernel_rfl) (by kernel_rfl) (by kernel_rfl) (fun _ _ _ h => h) (yi_build rfl rfl (fun w => rw_bld3 (lost + 1) x0.t vs (by obtain ⟨a, b, c, e⟩ := HVN3.out; exact ⟨a, b, c, e⟩) w) rfl) hS ?_
      simp only [Act.put, List.setIfInBounds_toArray, List.set_cons_zero, List.set_cons_succ]
      refine anyH_one (i := 10) (by kernel_rfl) rfl (fun K' hK => ?_)
      refine wq_st (k := 3) (v := .agg #[.int .i64 (lost + 1), .int .i64 x0.t, vs]) rfl rfl rfl rfl k6.drew rw_size rfl (rw_one _ _ _ HVN.out.1) (by show 0 + 3 ≤ 3; omega) ?_
      intro W6 B k20 hs1 hb1 hb2 hu
      have hBe : B = #[.int .i64 (lost + 1), .int .i64 x0.t, vs] := blk_whole (n := 3) rfl hs1 hb2
      subst hBe
      refine hK _ _ ⟨hS.1.upd hu HN36.out.1, own_same hS.2 (fun q hq => hu.block q (hS.2.lt q hq).2 (fun e => by have := (hS.2.lt q hq).1; have := HS6.out; omega))⟩ (fun hS2 => ?_)
      simp only [Act.put, List.setIfInBounds_toArray]
      refine wpAnyH_take (i := 11) (oi := ⟨some 7, _, _, _, _, _⟩) (v := .int .i64 0) rfl (by kernel_rfl) (by kernel_rfl) (by kernel_rfl) (fun _ _ _ h => h) (yi_mv (Or.inr rfl) rfl rfl) hS2 ?_
      simp only [Act.put]
      refine wpAnyH_done (by kernel_rfl) ?_ _
      replace HB := Lib.hid (upd_below HB.out.drew hu HLE6.out)
      have HL12 := Lib.hid (HLS.out _ (own_lst cE_len hS2.2 (by simp)))
      clear hS hS2 hK hs1 hb1 hb2 hu k6 k3
      go_wp2_with fail
      refine bodyPost_ret (v := .tuple #[.agg #[.int .i64 (lost + 1), .int .i64 x0.t, vs], .int .i64 0]) (results_ct Try.results9 _ rfl rfl k20 Try.underlying24 rfl rw_size) rfl ?_
      exact ⟨vs, rfl, by have := HL12.out; rwa [HTL.out] at this, HB.out⟩
    · skip
      obtain ⟨gb, Wy, hr5, ls5, hb5, hgb⟩ := bs1_step e Wz
      refine wq_bsx rfl rfl hr5 rfl (hK.out _ _ (below_tr hS2 hb5) (fun hS3 => ?_))
      simp only [Act.put]
      clear hK hr5
      have hne : gb ≠ g0 := by have := (ow0.lt g0 rfl).2; omega
      refine anyH_one (i := 3) (by kernel_rfl) rfl (fun K' hK => ?_)
      refine wq_app (c := cE) (v := .slice (some ⟨g0, 0, none⟩) 0 0) (xs := ([] : List Ev)) (ys := l) rfl rfl cE_len (by decide) cE_one W5.heap.size 27 i0 _ 32 Try.underlying22 HI0.out.1 HI0.out.2.1 HI0.out.2.2.1 HI0.out.2.2.2 rfl rfl rfl (own_keep ow0 hb5) (HLv.out.keep hS3) (by unfold maxLen; simp; omega) (by simp; omega) hS3.size ?_
      intro v3 Wx ow3 hg3 hat3
      refine hK _ _ (hS3.grown hg3 hS3.size (fun q hq => ((own_keep ow0 hb5).lt q hq).1)) (fun hS4 => ?_)
      simp only [Act.put]
      clear hK
      have ls6 := ls5.same hg3.size (fun q hq _ => hg3.block q (by have := Lst.own_lt ls5 q hq; exact this) (fun e2 => by simp [Value.ownBlock] at hq e2; omega))
      refine anyH_one (i := 6) (by kernel_rfl) rfl (fun K' hK => ?_)
      refine wq_app (c := cE) (v := v3) (xs := ([] ++ l)) (ys := [e]) rfl rfl cE_len (by decide) cE_one W5.heap.size 27 i0 _ 32 Try.underlying22 HI0.out.1 HI0.out.2.1 HI0.out.2.2.1 HI0.out.2.2.2 rfl rfl rfl ow3 ls6 (by unfold maxLen; simp; omega) (by simp; omega) hS4.size ?_
      intro v9 W9 ow9 hg9 hat9
      refine hK _ _ (hS4.grown hg9 hS4.size (fun q hq => (ow3.lt q hq).1)) (fun hS9 => ?_)
      simp only [Act.put]
      refine wpAnyH_take (i := 7) (oi := ⟨some 9, _, _, _, _, _⟩) (v := v9) rfl (by kernel_rfl) (by kernel_rfl) (by kernel_rfl) (fun _ _ _ h => h) (yi_mv (Or.inr rfl) rfl rfl) hS9 ?_
      simp only [Act.put]
      refine wpAnyH_done (by kernel_rfl) ?_ _
      replace k3 := k3.keep hS9
      replace k6 := k6.keep hS9
      replace HB := Lib.hid (below_tr HB.out hS9)
      have HO9 : Hid (W9.ownsRow W5.heap.size 27 4 v9 (l.length + 1) (fl cE (l ++ [e]))) := Lib.hid (by have := ow9; rw [Nat.zero_add] at this; exact this)
      have HV9 := Lib.hid (own_sl HO9.out)
      have HV1 := Lib.hid (sl_one (v := v9) (by obtain ⟨a, b, e⟩ := HV9.out; exact ⟨_, _, _, e⟩))
      clear hK
      obtain ⟨q9, cap9, rfl, hcap9⟩ : ∃ q cap, v9 = .slice (some ⟨q, 0, none⟩) (l.length + 1) cap ∧ l.length + 1 ≤ cap := by
        rcases own_v HO9.out with h | h
        · exact absurd h.2 (by omega)
        · exact h
      obtain ⟨vs, hvs, hls, hvn⟩ := cut_one q9 l.length cap9 (l ++ [e]) (by omega) hcap9
      have HVS := Lib.hid hvs
      have HLS := Lib.hid hls
      have HVN := Lib.hid (sl_one (v := vs) hvn)
      have HVN3 := Lib.hid hvn
      have HM9 : l.length + 1 ≤ 9223372036854775807 := by omega
      clear hvs hls hcap9 hvn
      go_upto_region 11 with fail
      refine wp_region_held_drew (S := fun w' => Blk w' g3 24 #[.int .i64 lost, .int .i64 mark, .slice (some ⟨b, off, none⟩) l.length cap] ∧ w'.ownsRow W5.heap.size 27 4 (.slice (some ⟨q9, 0, none⟩) (l.length + 1) cap9) (l.length + 1) (fl cE (l ++ [e]))) (by kernel_rfl) ⟨k3.drew, own_same HO9.out (fun _ _ => rfl)⟩ (fun hS => ?_)
      refine wpAnyH_take (i := 0) (oi := ⟨some 63, _, _, _, _, _⟩) (v := .pointer (some ⟨g3, 0, none⟩)) rfl (by kernel_rfl) (by kernel_rfl) (by kernel_rfl) (fun _ _ _ h => h) (yi_ok rfl (fun _ => by go_simp)) hS ?_
      simp only [Act.put, List.setIfInBounds_toArray, List.set_cons_zero, List.set_cons_succ]
      refine wpAnyH_take (i := 1) (oi := ⟨some 64, _, _, _, _, _⟩) (v := .int .i64 lost) rfl (by kernel_rfl) (by kernel_rfl) (by kernel_rfl) (fun _ _ _ h => h) (yi_ld1 (v := .int .i64 lost) rfl rfl rfl (fun w' h => h.1) Try.underlying2 rfl rfl) hS ?_
      simp only [Act.put, List.setIfInBounds_toArray, List.set_cons_zero, List.set_cons_succ]
      refine wpAnyH_take (i := 2) (oi := ⟨some 65, _, _, _, _, _⟩) (v := .int .i64 (lost + 1)) rfl (by kernel_rfl) (by kernel_rfl) (by kernel_rfl) (fun _ _ _ h => h) (yi_bi rfl rfl rfl rfl (fun _ => rfl) (fun _ => add_is HW.out)) hS ?_
      simp only [Act.put, List.setIfInBounds_toArray, List.set_cons_zero, List.set_cons_succ]
      refine wpAnyH_take (i := 3) (oi := ⟨some 66, _, _, _, _, _⟩) (v := .slice (some ⟨q9, 0, none⟩) (l.length + 1) cap9) rfl (by kernel_rfl) (by kernel_rfl) (by kernel_rfl) (fun _ _ _ h => h) (yi_mv (Or.inl rfl) rfl rfl) hS ?_
      simp only [Act.put, List.setIfInBounds_toArray, List.set_cons_zero, List.set_cons_succ]
      refine wpAnyH_take (i := 4) (oi := ⟨some 67, _, _, _, _, _⟩) (v := .pointer (some ⟨q9, 0 + 0 * 4, none⟩)) rfl (by kernel_rfl) (by kernel_rfl) (by kernel_rfl) (fun _ _ _ h => h) (yi_ixo (i := 0) rfl rfl rfl rfl Try.underlying22 rfl (by omega) HM9) hS ?_
      simp only [Act.put, List.setIfInBounds_toArray, List.set_cons_zero, List.set_cons_succ]
      refine wpAnyH_take (i := 5) (oi := ⟨some 68, _, _, _, _, _⟩) (v := .pointer (some ⟨q9, 0 + 0 * 4, none⟩)) rfl (by kernel_rfl) (by kernel_rfl) (by kernel_rfl) (fun _ _ _ h => h) (yi_ok rfl (fun _ => by go_simp)) hS ?_
      simp only [Act.put, List.setIfInBounds_toArray, List.set_cons_zero, List.set_cons_succ]
      refine wpAnyH_take (i := 6) (oi := ⟨some 69, _, _, _, _, _⟩) (v := .int .i64 x0.t) rfl (by kernel_rfl) (by kernel_rfl) (by kernel_rfl) (fun _ _ _ h => h) (yi_c rfl rfl rfl (fun w' h => own_range cE_len h.2 rfl HXE.out 0 _ rfl) Try.underlying2 rfl) hS ?_
      simp only [Act.put, List.setIfInBounds_toArray, List.set_cons_zero, List.set_cons_succ]
      refine wpAnyH_take (i := 7) (oi := ⟨some 70, _, _, _, _, _⟩) (v := .slice (some ⟨q9, 0, none⟩) (l.length + 1) cap9) rfl (by kernel_rfl) (by kernel_rfl) (by kernel_rfl) (fun _ _ _ h => h) (yi_mv (Or.inl rfl) rfl rfl) hS ?_
      simp only [Act.put, List.setIfInBounds_toArray, List.set_cons_zero, List.set_cons_succ]
      refine wpAnyH_take (i := 8) (oi := ⟨some 71, _, _, _, _, _⟩) (v := vs) rfl (by kernel_rfl) (by kernel_rfl) (by kernel_rfl) (fun _ _ _ h => h) (yi_slice rfl rfl (fun w => HVS.out w) rfl rfl rfl) hS ?_
      simp only [Act.put, List.setIfInBounds_toArray, List.set_cons_zero, List.set_cons_succ]
      refine wpAnyH_take (i := 9) (oi := ⟨some 72, _, _, _, _, _⟩) (v := .agg #[.int .i64 (lost + 1), .int .i64 x0.t, vs]) rfl (by kernel_rfl) (by kernel_rfl) (by kernel_rfl) (fun _ _ _ h => h) (yi_build rfl rfl (fun w => rw_bld3 (lost + 1) x0.t vs (by obtain ⟨a, b, c, e⟩ := HVN3.out; exact ⟨a, b, c, e⟩) w) rfl) hS ?_
      simp only [Act.put, List.setIfInBounds_toArray, List.set_cons_zero, List.set_cons_succ]
      refine anyH_one (i := 10) (by kernel_rfl) rfl (fun K' hK => ?_)
      refine wq_st (k := 3) (v := .agg #[.int .i64 (lost + 1), .int .i64 x0.t, vs]) rfl rfl rfl rfl k6.drew rw_size rfl (rw_one _ _ _ HVN.out.1) (by show 0 + 3 ≤ 3; omega) ?_
      intro W6 B k20 hs1 hb1 hb2 hu
      have hBe : B = #[.int .i64 (lost + 1), .int .i64 x0.t, vs] := blk_whole (n := 3) rfl hs1 hb2
      subst hBe
      refine hK _ _ ⟨hS.1.upd hu HN36.out.1, own_same hS.2 (fun q hq => hu.block q (hS.2.lt q hq).2 (fun e => by have := (hS.2.lt q hq).1; have := HS6.out; omega))⟩ (fun hS2 => ?_)
      simp only [Act.put, List.setIfInBounds_toArray]
      refine wpAnyH_take (i := 11) (oi := ⟨some 7, _, _, _, _, _⟩) (v := .int .i64 0) rfl (by kernel_rfl) (by kernel_rfl) (by kernel_rfl) (fun _ _ _ h => h) (yi_mv (Or.inr rfl) rfl rfl) hS2 ?_
      simp only [Act.put]
      refine wpAnyH_done (by kernel_rfl) ?_ _
      replace HB := Lib.hid (upd_below HB.out.drew hu HLE6.out)
      have HL12 := Lib.hid (HLS.out _ (own_lst cE_len hS2.2 (by simp)))
      clear hS hS2 hK hs1 hb1 hb2 hu k6 k3
      go_wp2_with fail
      refine bodyPost_ret (v := .tuple #[.agg #[.int .i64 (lost + 1), .int .i64 x0.t, vs], .int .i64 0]) (results_ct Try.results9 _ rfl rfl k20 Try.underlying24 rfl rw_size) rfl ?_
      exact ⟨vs, rfl, by have := HL12.out; rwa [HTL.out] at this, HB.out⟩
  · skip
    obtain ⟨gb, Wy, hr5, ls5, hb5, hgb⟩ := bs1_step e W5.drew
    refine wq_bsx rfl rfl hr5 rfl (hK.out _ _ (below_tr hS hb5) (fun hS2 => ?_))
    simp only [Act.put, List.setIfInBounds_toArray]
    clear hK hr5
    refine anyH_one (i := 0) (by kernel_rfl) rfl (fun K' hK => ?_)
    obtain ⟨g0, Wz, hr0, ow0, hb0, hg0⟩ := bs0_step W5.heap.size Wy hS2.size
    refine wq_bsx rfl rfl hr0 rfl (hK _ _ (below_tr hS2 hb0) (fun hS3 => ?_))
    simp only [Act.put]
    clear hK hr0
    have hne : gb ≠ g0 := by have := Lst.own_lt ls5 gb rfl; omega
    refine anyH_one (i := 3) (by kernel_rfl) rfl (fun K' hK => ?_)
    refine wq_app (c := cE) (v := .slice (some ⟨g0, 0, none⟩) 0 0) (xs := ([] : List Ev)) (ys := l) rfl rfl cE_len (by decide) cE_one W5.heap.size 27 i0 _ 32 Try.underlying22 HI0.out.1 HI0.out.2.1 HI0.out.2.2.1 HI0.out.2.2.2 rfl rfl rfl ow0 (HLv.out.keep hS3) (by unfold maxLen; simp; omega) (by simp; omega) hS3.size ?_
    intro v3 Wx ow3 hg3 hat3
    refine hK _ _ (hS3.grown hg3 hS3.size (fun q hq => (ow0.lt q hq).1)) (fun hS4 => ?_)
    simp only [Act.put]
    clear hK
    have ls6 := (ls5.keep hb0).same hg3.size (fun q hq _ => hg3.block q (by have := Lst.own_lt (ls5.keep hb0) q hq; exact this) (fun e2 => by simp [Value.ownBlock] at hq e2; omega))
    refine anyH_one (i := 6) (by kernel_rfl) rfl (fun K' hK => ?_)
    refine wq_app (c := cE) (v := v3) (xs := ([] ++ l)) (ys := [e]) rfl rfl cE_len (by decide) cE_one W5.heap.size 27 i0 _ 32 Try.underlying22 HI0.out.1 HI0.out.2.1 HI0.out.2.2.1 HI0.out.2.2.2 rfl rfl rfl ow3 ls6 (by unfold maxLen; simp; omega) (by simp; omega) hS4.size ?_
    intro v9 W9 ow9 hg9 hat9
    refine hK _ _ (hS4.grown hg9 hS4.size (fun q hq => (ow3.lt q hq).1)) (fun hS9 => ?_)
    simp only [Act.put]
    refine wpAnyH_take (i := 7) (oi := ⟨some 9, _, _, _, _, _⟩) (v := v9) rfl (by kernel_rfl) (by kernel_rfl) (by kernel_rfl) (fun _ _ _ h => h) (yi_mv (Or.inr rfl) rfl rfl) hS9 ?_
    simp only [Act.put]
    refine wpAnyH_done (by kernel_rfl) ?_ _
    replace k3 := k3.keep hS9
    replace k6 := k6.keep hS9
    replace HB := Lib.hid (below_tr HB.out hS9)
    have HO9 : Hid (W9.ownsRow W5.heap.size 27 4 v9 (l.length + 1) (fl cE (l ++ [e]))) := Lib.hid (by have := ow9; rw [Nat.zero_add] at this; exact this)
    have HV9 := Lib.hid (own_sl HO9.out)
    have HV1 := Lib.hid (sl_one (v := v9) (by obtain ⟨a, b, e⟩ := HV9.out; exact ⟨_, _, _, e⟩))
    clear hK
    obtain ⟨q9, cap9, rfl, hcap9⟩ : ∃ q cap, v9 = .slice (some ⟨q, 0, none⟩) (l.length + 1) cap ∧ l.length + 1 ≤ cap := by
      rcases own_v HO9.out with h | h
      · exact absurd h.2 (by omega)
      · exact h
    obtain ⟨vs, hvs, hls, hvn⟩ := cut_one q9 l.length cap9 (l ++ [e]) (by omega) hcap9
    have HVS := Lib.hid hvs
    have HLS := Lib.hid hls
    have HVN := Lib.hid (sl_one (v := vs) hvn)
    have HVN3 := Lib.hid hvn
    have HM9 : l.length + 1 ≤ 9223372036854775807 := by omega
    clear hvs hls hcap9 hvn
    go_upto_region 11 with fail
    refine wp_region_held_drew (S := fun w' => Blk w' g3 24 #[.int .i64 lost, .int .i64 mark, .slice (some ⟨b, off, none⟩) l.length cap] ∧ w'.ownsRow W5.heap.size 27 4 (.slice (some ⟨q9, 0, none⟩) (l.length + 1) cap9) (l.length + 1) (fl cE (l ++ [e]))) (by kernel_rfl) ⟨k3.drew, own_same HO9.out (fun _ _ => rfl)⟩ (fun hS => ?_)
    refine wpAnyH_take (i := 0) (oi := ⟨some 63, _, _, _, _, _⟩) (v := .pointer (some ⟨g3, 0, none⟩)) rfl (by kernel_rfl) (by kernel_rfl) (by kernel_rfl) (fun _ _ _ h => h) (yi_ok rfl (fun _ => by go_simp)) hS ?_
    simp only [Act.put, List.setIfInBounds_toArray, List.set_cons_zero, List.set_cons_succ]
    refine wpAnyH_take (i := 1) (oi := ⟨some 64, _, _, _, _, _⟩) (v := .int .i64 lost) rfl (by kernel_rfl) (by kernel_rfl) (by kernel_rfl) (fun _ _ _ h => h) (yi_ld1 (v := .int .i64 lost) rfl rfl rfl (fun w' h => h.1) Try.underlying2 rfl rfl) hS ?_
    simp only [Act.put, List.setIfInBounds_toArray, List.set_cons_zero, List.set_cons_succ]
    refine wpAnyH_take (i := 2) (oi := ⟨some 65, _, _, _, _, _⟩) (v := .int .i64 (lost + 1)) rfl (by kernel_rfl) (by kernel_rfl) (by kernel_rfl) (fun _ _ _ h => h) (yi_bi rfl rfl rfl rfl (fun _ => rfl) (fun _ => add_is HW.out)) hS ?_
    simp only [Act.put, List.setIfInBounds_toArray, List.set_cons_zero, List.set_cons_succ]
    refine wpAnyH_take (i := 3) (oi := ⟨some 66, _, _, _, _, _⟩) (v := .slice (some ⟨q9, 0, none⟩) (l.length + 1) cap9) rfl (by kernel_rfl) (by kernel_rfl) (by kernel_rfl) (fun _ _ _ h => h) (yi_mv (Or.inl rfl) rfl rfl) hS ?_
    simp only [Act.put, List.setIfInBounds_toArray, List.set_cons_zero, List.set_cons_succ]
    refine wpAnyH_take (i := 4) (oi := ⟨some 67, _, _, _, _, _⟩) (v := .pointer (some ⟨q9, 0 + 0 * 4, none⟩)) rfl (by kernel_rfl) (by kernel_rfl) (by kernel_rfl) (fun _ _ _ h => h) (yi_ixo (i := 0) rfl rfl rfl rfl Try.underlying22 rfl (by omega) HM9) hS ?_
    simp only [Act.put, List.setIfInBounds_toArray, List.set_cons_zero, List.set_cons_succ]
    refine wpAnyH_take (i := 5) (oi := ⟨some 68, _, _, _, _, _⟩) (v := .pointer (some ⟨q9, 0 + 0 * 4, none⟩)) rfl (by kernel_rfl) (by kernel_rfl) (by kernel_rfl) (fun _ _ _ h => h) (yi_ok rfl (fun _ => by go_simp)) hS ?_
    simp only [Act.put, List.setIfInBounds_toArray, List.set_cons_zero, List.set_cons_succ]
    refine wpAnyH_take (i := 6) (oi := ⟨some 69, _, _, _, _, _⟩) (v := .int .i64 x0.t) rfl (by kernel_rfl) (by kernel_rfl) (by kernel_rfl) (fun _ _ _ h => h) (yi_c rfl rfl rfl (fun w' h => own_range cE_len h.2 rfl HXE.out 0 _ rfl) Try.underlying2 rfl) hS ?_
    simp only [Act.put, List.setIfInBounds_toArray, List.set_cons_zero, List.set_cons_succ]
    refine wpAnyH_take (i := 7) (oi := ⟨some 70, _, _, _, _, _⟩) (v := .slice (some ⟨q9, 0, none⟩) (l.length + 1) cap9) rfl (by kernel_rfl) (by kernel_rfl) (by kernel_rfl) (fun _ _ _ h => h) (yi_mv (Or.inl rfl) rfl rfl) hS ?_
    simp only [Act.put, List.setIfInBounds_toArray, List.set_cons_zero, List.set_cons_succ]
    refine wpAnyH_take (i := 8) (oi := ⟨some 71, _, _, _, _, _⟩) (v := vs) rfl (by kernel_rfl) (by kernel_rfl) (by kernel_rfl) (fun _ _ _ h => h) (yi_slice rfl rfl (fun w => HVS.out w) rfl rfl rfl) hS ?_
    simp only [Act.put, List.setIfInBounds_toArray, List.set_cons_zero, List.set_cons_succ]
    refine wpAnyH_take (i := 9) (oi := ⟨some 72, _, _, _, _, _⟩) (v := .agg #[.int .i64 (lost + 1), .int .i64 x0.t, vs]) rfl (by kernel_rfl) (by kernel_rfl) (by kernel_rfl) (fun _ _ _ h => h) (yi_build rfl rfl (fun w => rw_bld3 (lost + 1) x0.t vs (by obtain ⟨a, b, c, e⟩ := HVN3.out; exact ⟨a, b, c, e⟩) w) rfl) hS ?_
    simp only [Act.put, List.setIfInBounds_toArray, List.set_cons_zero, List.set_cons_succ]
    refine anyH_one (i := 10) (by kernel_rfl) rfl (fun K' hK => ?_)
    refine wq_st (k := 3) (v := .agg #[.int .i64 (lost + 1), .int .i64 x0.t, vs]) rfl rfl rfl rfl k6.drew rw_size rfl (rw_one _ _ _ HVN.out.1) (by show 0 + 3 ≤ 3; omega) ?_
    intro W6 B k20 hs1 hb1 hb2 hu
    have hBe : B = #[.int .i64 (lost + 1), .int .i64 x0.t, vs] := blk_whole (n := 3) rfl hs1 hb2
    subst hBe
    refine hK _ _ ⟨hS.1.upd hu HN36.out.1, own_same hS.2 (fun q hq => hu.block q (hS.2.lt q hq).2 (fun e => by have := (hS.2.lt q hq).1; have := HS6.out; omega))⟩ (fun hS2 => ?_)
    simp only [Act.put, List.setIfInBounds_toArray]
    refine wpAnyH_take (i := 11) (oi := ⟨some 7, _, _, _, _, _⟩) (v := .int .i64 0) rfl (by kernel_rfl) (by kernel_rfl) (by kernel_rfl) (fun _ _ _ h => h) (yi_mv (Or.inr rfl) rfl rfl) hS2 ?_
    simp only [Act.put]
    refine wpAnyH_done (by kernel_rfl) ?_ _
    replace HB := Lib.hid (upd_below HB.out.drew hu HLE6.out)
    have HL12 := Lib.hid (HLS.out _ (own_lst cE_len hS2.2 (by simp)))
    clear hS hS2 hK hs1 hb1 hb2 hu k6 k3
    go_wp2_with fail
    refine bodyPost_ret (v := .tuple #[.agg #[.int .i64 (lost + 1), .int .i64 x0.t, vs], .int .i64 0]) (results_ct Try.results9 _ rfl rfl k20 Try.underlying24 rfl rw_size) rfl ?_
    exact ⟨vs, rfl, by have := HL12.out; rwa [HTL.out] at this, HB.out⟩
end Go.Proofs.Ytohkioakipjanaa
