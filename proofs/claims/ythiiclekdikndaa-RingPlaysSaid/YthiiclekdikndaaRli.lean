/-
  WALKS: law 11: the document's ring.
-/
import Derived.Test.YthiiclekdikndaaRki
namespace Go.Proofs.Ythiiclekdikndaa
open Go Go.RowKit

theorem rf_zero : (Try.prog.info? 31).map (·.zero) = some (some (.agg #[.int .i64 0, .int .u64 0, .slice none 0 0])) := by kernel_rfl
theorem rf_size : (Try.prog.info? 31).map (·.size) = some 3 := by kernel_rfl
theorem rf_one (v : Value) (a b : Int) (hv : v.oneCell' = true) : (#[.int .i64 a, .int .u64 b, v] : Array Value).all (·.oneCell') = true := by simp [hv]; simp [Value.oneCell']
theorem rf_bld (r : Int) (w : World) : (Instr.build 31 #[(0, .int .i64 r)]).run Try.prog w = .ok (.agg #[.int .i64 r, .int .u64 0, .slice none 0 0]) w := by
  go_simp
theorem sl_one {v : Value} (h : ∃ ao n cap, v = .slice ao n cap) : v.oneCell' = true ∧ v.cells = #[v] := by
  obtain ⟨ao, n, cap, rfl⟩ := h
  exact ⟨rfl, rfl⟩
theorem results_ctt {P : Program} {fn : Func} {p q r : Tmp} {ty : TypeId} (h : fn.results = #[.cell p ty, .tmp q, .tmp r]) (tmps : Array Value) {w : World} {g : Nat} {T : TypeId} {A : Array Value} {d : TypeDesc} {v u : Value} (hp : tmps.getD p undef = .pointer (some ⟨g, 0, none⟩)) (hq : tmps.getD q undef = v) (hr : tmps.getD r undef = u) (hb : Blk w g T A) (hu : P.underlying ty = some d) (hd : d.isRow = true) (hi : (P.info? ty).map (·.size) = some A.size) :
    (results fn tmps).run P w = .ok (.tuple #[.agg A, v, u]) w := by
  have hp' : tmps[p]?.getD undef = .pointer (some ⟨g, 0, none⟩) := by simpa using hp
  have hq' : tmps[q]?.getD undef = v := by simpa using hq
  have hr' : tmps[r]?.getD undef = u := by simpa using hr
  simp [results, h, hp', hq', hr', asAddr, run_var_blk hb hu hd hi]
set_option maxHeartbeats 4000000 in
set_option maxRecDepth 100000 in
theorem rnew_yes (room : Int) (h1 : 1 ≤ room) (h2 : room ≤ 65536) (w : World) :
    Calls Try.prog 7 #[.int .i64 room] w fun e w' => e = .returned (.tuple #[.agg #[.int .i64 room, .int .u64 0, .slice none 0 0], .bool true]) ∧ Below w.heap.size w w' := by
  have HB := Lib.hid (Below.refl w.heap.size w)
  skip
  go_enter Try.func7, Try.ntmps7
  go_wp2_with (first
    | ((with_reducible refine at_slot 2 ?_); refine wl_alloc (A := #[.int .i64 0, .int .u64 0, .slice none 0 0]) rfl rfl rf_zero rfl ?_; intro W1 g1 k1 hb hle; replace HB := Lib.hid (below_tr HB.out hb); clear hb)
    | ((with_reducible refine at_slot 5 ?_); refine wl_build rfl rfl (rf_bld _ _) rfl ?_)
    | ((with_reducible refine at_store 2 ?_); refine wl_st0 (A' := #[.int .i64 room, .int .u64 0, .slice none 0 0]) rfl rfl rfl rfl k1 rfl rf_size (rf_one _ _ _ rfl) ?_; intro W2 k2 hu; replace HB := Lib.hid (upd_below HB.out hu hle); clear hu k1))
  refine bodyPost_ret (v := .tuple #[.agg #[.int .i64 room, .int .u64 0, .slice none 0 0], .bool true]) (results_ct Try.results7 _ rfl rfl k2 Try.underlying31 rfl rf_size) rfl ?_
  exact ⟨rfl, HB.out⟩
set_option maxHeartbeats 4000000 in
set_option maxRecDepth 100000 in
theorem rnew_lo (room : Int) (h1 : room < 1) (w : World) :
    Calls Try.prog 7 #[.int .i64 room] w fun e w' => e = .returned (.tuple #[.agg #[.int .i64 room, .int .u64 0, .slice none 0 0], .bool false]) ∧ Below w.heap.size w w' := by
  have HB := Lib.hid (Below.refl w.heap.size w)
  skip
  go_enter Try.func7, Try.ntmps7
  go_wp2_with (first
    | ((with_reducible refine at_slot 2 ?_); refine wl_alloc (A := #[.int .i64 0, .int .u64 0, .slice none 0 0]) rfl rfl rf_zero rfl ?_; intro W1 g1 k1 hb hle; replace HB := Lib.hid (below_tr HB.out hb); clear hb)
    | ((with_reducible refine at_slot 5 ?_); refine wl_build rfl rfl (rf_bld _ _) rfl ?_)
    | ((with_reducible refine at_store 2 ?_); refine wl_st0 (A' := #[.int .i64 room, .int .u64 0, .slice none 0 0]) rfl rfl rfl rfl k1 rfl rf_size (rf_one _ _ _ rfl) ?_; intro W2 k2 hu; replace HB := Lib.hid (upd_below HB.out hu hle); clear hu k1))
  refine bodyPost_ret (v := .tuple #[.agg #[.int .i64 room, .int .u64 0, .slice none 0 0], .bool false]) (results_ct Try.results7 _ rfl rfl k2 Try.underlying31 rfl rf_size) rfl ?_
  exact ⟨rfl, HB.out⟩
set_option maxHeartbeats 4000000 in
set_option maxRecDepth 100000 in
theorem rnew_hi (room : Int) (h1 : 65536 < room) (w : World) :
    Calls Try.prog 7 #[.int .i64 room] w fun e w' => e = .returned (.tuple #[.agg #[.int .i64 room, .int .u64 0, .slice none 0 0], .bool false]) ∧ Below w.heap.size w w' := by
  have HB := Lib.hid (Below.refl w.heap.size w)
  have h3 : 1 ≤ room := by omega
  go_enter Try.func7, Try.ntmps7
  go_wp2_with (first
    | ((with_reducible refine at_slot 2 ?_); refine wl_alloc (A := #[.int .i64 0, .int .u64 0, .slice none 0 0]) rfl rfl rf_zero rfl ?_; intro W1 g1 k1 hb hle; replace HB := Lib.hid (below_tr HB.out hb); clear hb)
    | ((with_reducible refine at_slot 5 ?_); refine wl_build rfl rfl (rf_bld _ _) rfl ?_)
    | ((with_reducible refine at_store 2 ?_); refine wl_st0 (A' := #[.int .i64 room, .int .u64 0, .slice none 0 0]) rfl rfl rfl rfl k1 rfl rf_size (rf_one _ _ _ rfl) ?_; intro W2 k2 hu; replace HB := Lib.hid (upd_below HB.out hu hle); clear hu k1))
  refine bodyPost_ret (v := .tuple #[.agg #[.int .i64 room, .int .u64 0, .slice none 0 0], .bool false]) (results_ct Try.results7 _ rfl (congrArg Value.bool (decide_eq_false (by omega))) k2 Try.underlying31 rfl rf_size) rfl ?_
  exact ⟨rfl, HB.out⟩

set_option maxHeartbeats 4000000 in
set_option maxRecDepth 100000 in
theorem rput_no (room L_ : Nat) (lost : Int) (v : Value) (L : List Int) (x : Int) (hl : L.length < room) (hr : room ≤ 65536) (w : World) (h : Lst 1 ci w v L) (_ : L_ = 0) :
    Calls Try.prog 8 #[.agg #[.int .i64 room, .int .u64 lost, v], .int .i64 x] w fun e w' => ∃ v', e = .returned (.tuple #[.agg #[.int .i64 room, .int .u64 lost, v'], .int .i64 0, .bool false]) ∧ (Lst 1 ci w' v' (L ++ [x]) ∧ Fits v' ∧ ∀ q, v'.ownBlock = some q → w.heap.size ≤ q ∧ q < w'.heap.size) ∧ Below w.heap.size w w' := by
  obtain ⟨i0, hi, hz, hs2, hby⟩ := infoi
  have HI0 := Lib.hid (show _ ∧ _ ∧ _ ∧ _ from ⟨hi, hz, hs2, hby⟩)
  have HL := Lib.hid h
  have HB := Lib.hid (Below.refl w.heap.size w)
  have hl1 : ((L.length + 1 : Nat) : Int) ≤ room := by omega
  have hl2 : L.length ≤ 65536 := by omega
  clear hi hz hs2 hby h
  go_enter Try.func8, Try.ntmps8
  go_wp2_with (first
    | ((with_reducible refine at_slot 2 ?_); refine wl_box (A := #[.int .i64 room, .int .u64 lost, v]) rfl rfl rfl ?_; intro W1 g2 k2 hb hle2; replace HB := Lib.hid (below_tr HB.out hb); have HL1 := Lib.hid (HL.out.keep hb); clear hb)
    | ((with_reducible refine at_slot 4 ?_); refine wl_alloc (A := #[.int .i64 0, .int .u64 0, .slice none 0 0]) rfl rfl rf_zero rfl ?_; intro W2 g4 k4 hb hle4; have HN := Lib.hid (show g2 ≠ g4 from by have := k2.lt; omega); have HLE4 := Lib.hid (Nat.le_trans HB.out.size hle4); replace k2 := k2.keep hb; replace HB := Lib.hid (below_tr HB.out hb); have HL2 := Lib.hid (HL1.out.keep hb); have HG2 := Lib.hid k2.lt; have HG4 := Lib.hid k4.lt; have HS2 := Lib.hid HB.out.size; clear hb)
    | ((with_reducible refine at_slot 8 ?_); refine wl_bslice (A := #[]) rfl rfl (bs0 _) rfl ?_; intro W3 gb kb hb hle; replace k2 := k2.keep hb; replace k4 := k4.keep hb; have HL3 := Lib.hid (HL2.out.keep hb); replace HB := Lib.hid (below_tr HB.out hb); have HZ := Lib.hid hb.size; have HO0 := Lib.hid (own_bs0 kb hle); clear hb kb)
    | ((with_reducible refine at_slot 10 ?_); refine wl_ld1 (v := v) rfl rfl rfl k2 Try.underlying29 rfl rfl ?_)
    | ((with_reducible refine at_slot 11 ?_); refine wl_app (c := ci) (xs := []) (ys := L) rfl rfl ci_len (by decide) ci_one W2.heap.size 3 i0 _ 8 Try.underlying29 HI0.out.1 HI0.out.2.1 HI0.out.2.2.1 HI0.out.2.2.2 rfl rfl rfl HO0.out HL3.out (by unfold maxLen; simp; omega) (by simp; omega) HZ.out ?_; intro v11 W11 ho hg hat; have hlg2 := HG2.out; have hlg4 := HG4.out; replace k2 := Blk.keep_chg k2 hg (fun e => by have := (HO0.out.lt _ e).1; omega); replace k4 := Blk.keep_chg k4 hg (fun e => by have := (HO0.out.lt _ e).1; omega); replace HB := Lib.hid (HB.out.grown hg HB.out.size (fun q hq => Nat.le_trans HS2.out (HO0.out.lt q hq).1)); replace HZ := Lib.hid (Nat.le_trans HZ.out hg.size); have HO1 := Lib.hid (show W11.ownsRow W2.heap.size 3 1 v11 L.length (fl ci L) from by simpa using ho); clear ho; clear hg hat hlg2 hlg4)
    | ((with_reducible refine at_slot 13 ?_); refine wl_bslice (A := #[.int .i64 x]) rfl rfl (i_bs x _) rfl ?_; intro W13 gc kc hb hle; replace k2 := k2.keep hb; replace k4 := k4.keep hb; replace HB := Lib.hid (below_tr HB.out hb); replace HZ := Lib.hid (Nat.le_trans HZ.out hb.size); have HO2 := Lib.hid (own_keep HO1.out hb); have HX := Lib.hid (lst_blk1 kc); clear hb kc)
    | ((with_reducible refine at_slot 14 ?_); refine wl_app (c := ci) (xs := L) (ys := [x]) rfl rfl ci_len (by decide) ci_one W2.heap.size 3 i0 _ 8 Try.underlying29 HI0.out.1 HI0.out.2.1 HI0.out.2.2.1 HI0.out.2.2.2 rfl rfl rfl HO2.out HX.out (by unfold maxLen; simp; omega) (by simp; omega) HZ.out ?_; intro v14 W14 ho hg hat; have hlg2 := HG2.out; have hlg4 := HG4.out; replace k2 := Blk.keep_chg k2 hg (fun e => by have := (HO2.out.lt _ e).1; omega); replace k4 := Blk.keep_chg k4 hg (fun e => by have := (HO2.out.lt _ e).1; omega); replace HB := Lib.hid (HB.out.grown hg HB.out.size (fun q hq => Nat.le_trans HS2.out (HO2.out.lt q hq).1)); replace HZ := Lib.hid (Nat.le_trans HZ.out hg.size); obtain ⟨q7, cap7, rfl, hq7a, hq7b⟩ := ho.form (by simp); have HO7 := Lib.hid (show W14.ownsRow W2.heap.size 3 1 (.slice (some ⟨q7, 0, none⟩) (L.length + 1) cap7) (L.length + 1) (fl ci (L ++ [x])) from ho); clear ho; clear hg hat hlg2 hlg4)
    | ((with_reducible refine at_slot 16 ?_); refine wl_lenL (n := L.length + 1) rfl rfl rfl Try.underlying29 ⟨_, _, rfl⟩ ?_)
    | ((with_reducible refine at_slot 18 ?_); refine wl_ld1 (v := .int .i64 room) rfl rfl rfl k2 Try.underlying3 rfl rfl ?_)
    | ((with_reducible refine at_store 21 ?_); refine wl_st1 (v := (.slice (some ⟨q7, 0, none⟩) (L.length + 1) cap7)) rfl rfl rfl rfl k2 (by kernel_rfl) rfl rfl (by simp) ?_; intro V5 kn hu; replace HB := Lib.hid (upd_below HB.out hu hle2); have HO8 := Lib.hid (own_same HO7.out (fun q hq => hu.block q (HO7.out.lt q hq).2 (fun e => by have := (HO7.out.lt q hq).1; have := HG2.out; omega))); replace k4 := k4.upd hu (Ne.symm HN.out); clear k2; have k2 : Blk _ g2 31 #[.int .i64 room, .int .u64 lost, (.slice (some ⟨q7, 0, none⟩) (L.length + 1) cap7)] := kn; clear kn hu)
    | ((with_reducible refine at_slot 22 ?_); refine wl_ld0 rfl rfl rfl k2 Try.underlying31 rfl rf_size ?_)
    | ((with_reducible refine at_store 4 ?_); refine wl_st0 (A' := #[.int .i64 room, .int .u64 lost, (.slice (some ⟨q7, 0, none⟩) (L.length + 1) cap7)]) rfl rfl rfl rfl k4 rfl rf_size (rf_one _ _ _ rfl) ?_; intro V6 k6 hu; replace HB := Lib.hid (upd_below HB.out hu HLE4.out); have HO9 := Lib.hid (own_same HO8.out (fun q hq => hu.block q (HO8.out.lt q hq).2 (fun e => by have := (HO8.out.lt q hq).1; have := HG4.out; omega))); clear hu k4))
  refine bodyPost_ret (v := .tuple #[.agg #[.int .i64 room, .int .u64 lost, (.slice (some ⟨q7, 0, none⟩) (L.length + 1) cap7)], .int .i64 0, .bool false]) (results_ctt Try.results8 _ rfl rfl rfl k6 Try.underlying31 rfl rf_size) rfl ?_
  exact ⟨_, rfl, ⟨own_lst ci_len HO9.out (by simp), own_fits HO9.out, fun q hq => ⟨Nat.le_trans HS2.out (HO9.out.lt q hq).1, (HO9.out.lt q hq).2⟩⟩, HB.out⟩

set_option maxHeartbeats 4000000 in
set_option maxRecDepth 100000 in
theorem rput_yes (room : Nat) (lost : Int) (v : Value) (L : List Int) (x x0 : Int) (hl : L.length = room) (hr : room ≤ 65536) (hx0 : L[0]? = some x0) (w : World) (h : Lst 1 ci w v L) :
    Calls Try.prog 8 #[.agg #[.int .i64 room, .int .u64 lost, v], .int .i64 x] w fun e w' => ∃ v', e = .returned (.tuple #[.agg #[.int .i64 room, .int .u64 (IntKind.u64.wrap (lost + 1)), v'], .int .i64 x0, .bool true]) ∧ (Lst 1 ci w' v' (L.tail ++ [x]) ∧ Fits v' ∧ ∀ q, v'.ownBlock = some q → w.heap.size ≤ q ∧ q < w'.heap.size) ∧ Below w.heap.size w w' := by
  obtain ⟨i0, hi, hz, hs2, hby⟩ := infoi
  have HI0 := Lib.hid (show _ ∧ _ ∧ _ ∧ _ from ⟨hi, hz, hs2, hby⟩)
  have HL := Lib.hid h
  have HB := Lib.hid (Below.refl w.heap.size w)
  have hl1 : ¬ ((L.length + 1 : Nat) : Int) ≤ room := by omega
  have hl2 : L.length ≤ 65536 := by omega
  have hl0 : 0 < L.length := (List.getElem?_eq_some_iff.1 hx0).1
  have HX0 := Lib.hid (show (L ++ [x])[0]? = some x0 by rw [List.getElem?_append_left hl0]; exact hx0)
  have HTL := Lib.hid (show (L ++ [x]).drop 1 = L.tail ++ [x] by cases L with | nil => simp at hl0 | cons a r => rfl)
  clear hi hz hs2 hby h hx0 hl
  go_enter Try.func8, Try.ntmps8
  go_upto_region 5 with (first
    | ((with_reducible refine at_slot 2 ?_); refine wl_box (A := #[.int .i64 room, .int .u64 lost, v]) rfl rfl rfl ?_; intro W1 g2 k2 hb hle2; replace HB := Lib.hid (below_tr HB.out hb); have HL1 := Lib.hid (HL.out.keep hb); clear hb)
    | ((with_reducible refine at_slot 4 ?_); refine wl_alloc (A := #[.int .i64 0, .int .u64 0, .slice none 0 0]) rfl rfl rf_zero rfl ?_; intro W2 g4 k4 hb hle4; have HN := Lib.hid (show g2 ≠ g4 from by have := k2.lt; omega); have HLE4 := Lib.hid (Nat.le_trans HB.out.size hle4); replace k2 := k2.keep hb; replace HB := Lib.hid (below_tr HB.out hb); have HL2 := Lib.hid (HL1.out.keep hb); have HG2 := Lib.hid k2.lt; have HG4 := Lib.hid k4.lt; have HS2 := Lib.hid HB.out.size; clear hb)
    | ((with_reducible refine at_slot 8 ?_); refine wl_bslice (A := #[]) rfl rfl (bs0 _) rfl ?_; intro W3 gb kb hb hle; replace k2 := k2.keep hb; replace k4 := k4.keep hb; have HL3 := Lib.hid (HL2.out.keep hb); replace HB := Lib.hid (below_tr HB.out hb); have HZ := Lib.hid hb.size; have HO0 := Lib.hid (own_bs0 kb hle); clear hb kb)
    | ((with_reducible refine at_slot 10 ?_); refine wl_ld1 (v := v) rfl rfl rfl k2 Try.underlying29 rfl rfl ?_)
    | ((with_reducible refine at_slot 11 ?_); refine wl_app (c := ci) (xs := []) (ys := L) rfl rfl ci_len (by decide) ci_one W2.heap.size 3 i0 _ 8 Try.underlying29 HI0.out.1 HI0.out.2.1 HI0.out.2.2.1 HI0.out.2.2.2 rfl rfl rfl HO0.out HL3.out (by unfold maxLen; simp; omega) (by simp; omega) HZ.out ?_; intro v11 W11 ho hg hat; have hlg2 := HG2.out; have hlg4 := HG4.out; replace k2 := Blk.keep_chg k2 hg (fun e => by have := (HO0.out.lt _ e).1; omega); replace k4 := Blk.keep_chg k4 hg (fun e => by have := (HO0.out.lt _ e).1; omega); replace HB := Lib.hid (HB.out.grown hg HB.out.size (fun q hq => Nat.le_trans HS2.out (HO0.out.lt q hq).1)); replace HZ := Lib.hid (Nat.le_trans HZ.out hg.size); have HO1 := Lib.hid (show W11.ownsRow W2.heap.size 3 1 v11 L.length (fl ci L) from by simpa using ho); clear ho; clear hg hat hlg2 hlg4)
    | ((with_reducible refine at_slot 13 ?_); refine wl_bslice (A := #[.int .i64 x]) rfl rfl (i_bs x _) rfl ?_; intro W13 gc kc hb hle; replace k2 := k2.keep hb; replace k4 := k4.keep hb; replace HB := Lib.hid (below_tr HB.out hb); replace HZ := Lib.hid (Nat.le_trans HZ.out hb.size); have HO2 := Lib.hid (own_keep HO1.out hb); have HX := Lib.hid (lst_blk1 kc); clear hb kc)
    | ((with_reducible refine at_slot 14 ?_); refine wl_app (c := ci) (xs := L) (ys := [x]) rfl rfl ci_len (by decide) ci_one W2.heap.size 3 i0 _ 8 Try.underlying29 HI0.out.1 HI0.out.2.1 HI0.out.2.2.1 HI0.out.2.2.2 rfl rfl rfl HO2.out HX.out (by unfold maxLen; simp; omega) (by simp; omega) HZ.out ?_; intro v14 W14 ho hg hat; have hlg2 := HG2.out; have hlg4 := HG4.out; replace k2 := Blk.keep_chg k2 hg (fun e => by have := (HO2.out.lt _ e).1; omega); replace k4 := Blk.keep_chg k4 hg (fun e => by have := (HO2.out.lt _ e).1; omega); replace HB := Lib.hid (HB.out.grown hg HB.out.size (fun q hq => Nat.le_trans HS2.out (HO2.out.lt q hq).1)); replace HZ := Lib.hid (Nat.le_trans HZ.out hg.size); obtain ⟨q7, cap7, rfl, hq7a, hq7b⟩ := ho.form (by simp); have HO7 := Lib.hid (show W14.ownsRow W2.heap.size 3 1 (.slice (some ⟨q7, 0, none⟩) (L.length + 1) cap7) (L.length + 1) (fl ci (L ++ [x])) from ho); clear ho; clear hg hat hlg2 hlg4)
    | ((with_reducible refine at_slot 16 ?_); refine wl_lenL (n := L.length + 1) rfl rfl rfl Try.underlying29 ⟨_, _, rfl⟩ ?_)
    | ((with_reducible refine at_slot 18 ?_); refine wl_ld1 (v := .int .i64 room) rfl rfl rfl k2 Try.underlying3 rfl rfl ?_))
  have hfit := own_fits HO7.out
  have hc7 : L.length + 1 ≤ cap7 := by obtain ⟨_, _, _, e, h⟩ := hfit; cases e; exact h
  obtain ⟨v24, hv24⟩ : ∃ v24, v24 = Value.slice (if cap7 = 1 then some ⟨q7, 0, none⟩ else (some (⟨q7, 0, none⟩ : Addr)).map (·.add (1 * 1))) (L.length + 1 - 1) (cap7 - 1) := ⟨_, rfl⟩
  have HSLI := Lib.hid (fun W : World => show (Instr.sliceAt 29 (.slice (some ⟨q7, 0, none⟩) (L.length + 1) cap7) (some (.int .i64 1)) none none).run Try.prog W = .ok v24 W from by rw [hv24]; exact run_from (i := 1) Try.underlying29 rfl (by omega) (by omega) W)
  have HV24 := Lib.hid (sl_one (v := v24) ⟨_, _, _, hv24⟩)
  have HVL := Lib.hid (fun (W : World) (hL : Lst 1 ci W (.slice (some ⟨q7, 0, none⟩) (L.length + 1) cap7) (L ++ [x])) => show Lst 1 ci W v24 (L.tail ++ [x]) from by rw [hv24, ← HTL.out]; exact lst_from hL (by omega) hc7)
  have HVB := Lib.hid (fun q (hq : v24.ownBlock = some q) => show q7 = q from by rw [hv24] at hq; have := from_block hq; simpa [Value.ownBlock] using this)
  have HVF := Lib.hid (show Fits v24 from ⟨_, _, _, hv24, by omega⟩)
  clear hv24 hfit
  go_upto_region 7 with (first
    | ((with_reducible refine at_slot 24 ?_); refine wl_slice rfl rfl (HSLI.out _) rfl rfl rfl ?_)
    | ((with_reducible refine at_store 25 ?_); refine wl_st1 (v := v24) rfl rfl rfl rfl k2 (by kernel_rfl) HV24.out.2 HV24.out.1 (by simp) ?_; intro V5 kn hu; replace HB := Lib.hid (upd_below HB.out hu hle2); have HO8 := Lib.hid (own_same HO7.out (fun q hq => hu.block q (HO7.out.lt q hq).2 (fun e => by have := (HO7.out.lt q hq).1; have := HG2.out; omega))); replace k4 := k4.upd hu (Ne.symm HN.out); clear k2; have k2 : Blk _ g2 31 #[.int .i64 room, .int .u64 lost, v24] := kn; clear kn hu)
    | ((with_reducible refine at_slot 27 ?_); refine wl_ld1 (v := .int .u64 lost) rfl rfl rfl k2 Try.underlying28 rfl rfl ?_)
    | ((with_reducible refine at_slot 28 ?_); refine wl_bin (v := .int .u64 (IntKind.u64.wrap (lost + 1))) rfl rfl rfl (add_u64 _ _ _) ?_)
    | ((with_reducible refine at_store 29 ?_); refine wl_st1 (v := .int .u64 (IntKind.u64.wrap (lost + 1))) rfl rfl rfl rfl k2 (by kernel_rfl) rfl rfl (by simp) ?_; intro V6 kn hu; replace HB := Lib.hid (upd_below HB.out hu hle2); have HO9 := Lib.hid (own_same HO8.out (fun q hq => hu.block q (HO8.out.lt q hq).2 (fun e => by have := (HO8.out.lt q hq).1; have := HG2.out; omega))); replace k4 := k4.upd hu (Ne.symm HN.out); clear k2; have k2 : Blk _ g2 31 #[.int .i64 room, .int .u64 (IntKind.u64.wrap (lost + 1)), v24] := kn; clear kn hu))
  have kx : World.cell? _ ⟨q7, 0 + 0 * 1, none⟩ = some (.int .i64 x0) := own_cell HO9.out (q := q7) rfl (fl_at ci_len HX0.out (j := 0) rfl)
  have hq7lt := HO9.out.lt q7 rfl
  have hq24 : q7 ≠ g2 := by have := HG2.out; omega
  have hq44 : q7 ≠ g4 := by have := HG4.out; omega
  have hmx : L.length + 1 ≤ 9223372036854775807 := by omega
  refine wp_region_held_drew (S := fun w' => Blk w' g2 31 #[.int .i64 room, .int .u64 (IntKind.u64.wrap (lost + 1)), v24] ∧ w'.cell? ⟨q7, 0 + 0 * 1, none⟩ = some (.int .i64 x0)) (by kernel_rfl) ⟨k2.drew, kx⟩ (fun hS => ?_)
  refine wpAnyH_take (i := 0) (oi := ⟨some 30, _, _, _, _, _⟩) (v := .agg #[.int .i64 room, .int .u64 (IntKind.u64.wrap (lost + 1)), v24]) rfl (by kernel_rfl) (by kernel_rfl) (by kernel_rfl) (fun _ _ _ h => h) (yi_ld0 rfl rfl rfl (fun w' h => h.1) Try.underlying31 rfl rf_size) hS ?_
  simp only [Act.put, List.setIfInBounds_toArray, List.set_cons_zero, List.set_cons_succ]
  refine wpAnyH_take (i := 1) (oi := ⟨some 31, _, _, _, _, _⟩) (v := .slice (some ⟨q7, 0, none⟩) (L.length + 1) cap7) rfl (by kernel_rfl) (by kernel_rfl) (by kernel_rfl) (fun _ _ _ h => h) (yi_mv (Or.inl rfl) rfl rfl) hS ?_
  simp only [Act.put, List.setIfInBounds_toArray, List.set_cons_zero, List.set_cons_succ]
  refine wpAnyH_take (i := 2) (oi := ⟨some 32, _, _, _, _, _⟩) (v := .pointer (some ⟨q7, 0 + 0 * 1, none⟩)) rfl (by kernel_rfl) (by kernel_rfl) (by kernel_rfl) (fun _ _ _ h => h) (yi_ixo (i := 0) rfl rfl rfl rfl Try.underlying29 rfl (by omega) hmx) hS ?_
  simp only [Act.put, List.setIfInBounds_toArray, List.set_cons_zero, List.set_cons_succ]
  refine wpAnyH_take (i := 3) (oi := ⟨some 33, _, _, _, _, _⟩) (v := .int .i64 x0) rfl (by kernel_rfl) (by kernel_rfl) (by kernel_rfl) (fun _ _ _ h => h) (yi_c rfl rfl rfl (fun w' h => h.2) Try.underlying3 rfl) hS ?_
  simp only [Act.put, List.setIfInBounds_toArray, List.set_cons_zero, List.set_cons_succ]
  refine anyH_one (i := 4) (by kernel_rfl) rfl (fun K' hK => ?_)
  refine wq_st (k := 3) (v := .agg #[.int .i64 room, .int .u64 (IntKind.u64.wrap (lost + 1)), v24]) rfl rfl rfl rfl k4.drew rfl rfl (rf_one _ _ _ HV24.out.1) (by simp) ?_
  intro W7 B kB hs1 hb1 hb2 hu
  refine hK _ _ ⟨hS.1.upd hu HN.out, (World.cell?_of_block (a := ⟨q7, 0 + 0 * 1, none⟩) (hu.block q7 hq7lt.2 hq44)).trans hS.2⟩ (fun hS3 => ?_)
  simp only [Act.put, List.setIfInBounds_toArray]
  have hBe : B = #[.int .i64 room, .int .u64 (IntKind.u64.wrap (lost + 1)), v24] := by
    refine Array.ext_getElem? fun j => ?_
    rcases Nat.lt_or_ge j 3 with hj | hj
    · have := hb2 j hj
      rw [Nat.zero_add] at this
      exact this
    · rw [Array.getElem?_eq_none (by rw [hs1]; exact hj), Array.getElem?_eq_none (by exact hj)]
  subst hBe
  have HO10 := Lib.hid (own_same HO9.out (fun q hq => (hu.block q (HO9.out.lt q hq).2 (fun e => by have := (HO9.out.lt q hq).1; have := HG4.out; omega))))
  replace HB := Lib.hid (upd_below (HB.out.drew) hu HLE4.out)
  clear hS hK hb1 hb2 hs1 hu
  replace hS := hS3
  clear hS3
  refine wpAnyH_take (i := 5) (oi := ⟨some 5, _, _, _, _, _⟩) (v := .int .i64 x0) rfl (by kernel_rfl) (by kernel_rfl) (by kernel_rfl) (fun _ _ _ h => h) (yi_mv (Or.inr rfl) rfl rfl) hS ?_
  simp only [Act.put]
  refine wpAnyH_take (i := 6) (oi := ⟨some 6, _, _, _, _, _⟩) (v := .bool true) rfl (by kernel_rfl) (by kernel_rfl) (by kernel_rfl) (fun _ _ _ h => h) (yi_mv (Or.inr rfl) rfl rfl) hS ?_
  simp only [Act.put]
  refine wpAnyH_done (by kernel_rfl) ?_ _
  clear hS
  go_wp2_with fail
  refine bodyPost_ret (v := .tuple #[.agg #[.int .i64 room, .int .u64 (IntKind.u64.wrap (lost + 1)), v24], .int .i64 x0, .bool true]) (results_ctt Try.results8 _ rfl rfl rfl kB Try.underlying31 rfl rf_size) rfl ?_
  exact ⟨_, rfl, ⟨HVL.out _ (own_lst ci_len HO10.out (by simp)), HVF.out, fun q hq => by have := HVB.out q hq; subst this; exact ⟨Nat.le_trans HS2.out (HO10.out.lt _ rfl).1, (HO10.out.lt _ rfl).2⟩⟩, HB.out⟩

theorem dropN_min (n : Int) (len : Nat) {r : Int} (h : (if n < 0 then (0 : Int) else n) = r) : (if (len : Int) < r then (len : Int) else r) = (dropN n len : Nat) := by
  subst h
  unfold dropN
  split <;> split <;> (try split) <;> (try split) <;> omega
set_option maxHeartbeats 4000000 in
set_option maxRecDepth 100000 in
theorem rdrop (room : Nat) (lost : Int) (v : Value) (L : List Int) (n : Int) (hl2 : L.length ≤ 65536) (w : World) (h : Lst 1 ci w v L) (hf : Fits v) :
    Calls Try.prog 10 #[.agg #[.int .i64 room, .int .u64 lost, v], .int .i64 n] w fun e w' => ∃ v', e = .returned (.tuple #[.agg #[.int .i64 room, .int .u64 lost, v'], .int .i64 (dropN n L.length)]) ∧ (Lst 1 ci w' v' (L.drop (dropN n L.length)) ∧ Fits v' ∧ ∀ q, v'.ownBlock = some q → w.heap.size ≤ q ∧ q < w'.heap.size) ∧ Below w.heap.size w w' := by
  obtain ⟨i0, hi, hz, hs2, hby⟩ := infoi
  have HI0 := Lib.hid (show _ ∧ _ ∧ _ ∧ _ from ⟨hi, hz, hs2, hby⟩)
  have HL := Lib.hid h
  have HB := Lib.hid (Below.refl w.heap.size w)
  obtain ⟨M1, hM1⟩ : ∃ M1 : Int, (if n < 0 then (0 : Int) else n) = M1 := ⟨_, rfl⟩
  have HM2 := Lib.hid (dropN_min n L.length hM1)
  have HM1 := Lib.hid hM1
  have hdl := dropN_le n L.length
  have HSL := Lib.hid h.sl
  obtain ⟨ao, cap, hv⟩ := h.sl
  obtain ⟨_, _, _, e, hcl⟩ := hf
  rw [hv] at e
  cases e
  obtain ⟨m, hm⟩ : ∃ m, m = dropN n L.length := ⟨_, rfl⟩
  rw [← hm] at HM2 hdl ⊢
  obtain ⟨v16, hv16⟩ : ∃ v16, v16 = Value.slice (if cap = m then ao else ao.map (·.add (m * 1))) (L.length - m) (cap - m) := ⟨_, rfl⟩
  have HSLI := Lib.hid (fun W : World => show (Instr.sliceAt 29 v (some (.int .i64 m)) none none).run Try.prog W = .ok v16 W from by rw [hv16, hv]; exact run_from (i := m) Try.underlying29 rfl hdl (by omega) W)
  have HVL := Lib.hid (fun (W : World) (hL : Lst 1 ci W v L) => show Lst 1 ci W v16 (L.drop m) from by rw [hv16]; rw [hv] at hL; exact lst_from hL hdl hcl)
  have hdr : (L.drop m).length ≤ 65536 := by rw [List.length_drop]; omega
  clear hi hz hs2 hby h hM1 hm hv16 hv hcl
  go_enter Try.func10, Try.ntmps10
  go_wp2_with (first
    | ((with_reducible refine at_slot 2 ?_); refine wl_box (A := #[.int .i64 room, .int .u64 lost, v]) rfl rfl rfl ?_; intro W1 g2 k2 hb hle2; replace HB := Lib.hid (below_tr HB.out hb); have HL1 := Lib.hid (HL.out.keep hb); clear hb)
    | ((with_reducible refine at_slot 4 ?_); refine wl_alloc (A := #[.int .i64 0, .int .u64 0, .slice none 0 0]) rfl rfl rf_zero rfl ?_; intro W2 g4 k4 hb hle4; have HN := Lib.hid (show g2 ≠ g4 from by have := k2.lt; omega); have HLE4 := Lib.hid (Nat.le_trans HB.out.size hle4); replace k2 := k2.keep hb; replace HB := Lib.hid (below_tr HB.out hb); have HL2 := Lib.hid (HL1.out.keep hb); have HG2 := Lib.hid k2.lt; have HG4 := Lib.hid k4.lt; have HS2 := Lib.hid HB.out.size; clear hb)
    | ((with_reducible refine at_slot 7 ?_); refine wl_mx rfl rfl rfl rfl HM1.out ?_)
    | ((with_reducible refine at_slot 9 ?_); refine wl_ld1 (v := v) rfl rfl rfl k2 Try.underlying29 rfl rfl ?_)
    | ((with_reducible refine at_slot 10 ?_); refine wl_lenL rfl rfl rfl Try.underlying29 HSL.out ?_)
    | ((with_reducible refine at_slot 11 ?_); refine wl_mn rfl rfl rfl rfl HM2.out ?_)
    | ((with_reducible refine at_slot 12 ?_); refine wl_bslice (A := #[]) rfl rfl (bs0 _) rfl ?_; intro W3 gb kb hb hle; replace k2 := k2.keep hb; replace k4 := k4.keep hb; have HL3 := Lib.hid (HL2.out.keep hb); replace HB := Lib.hid (below_tr HB.out hb); have HZ := Lib.hid hb.size; have HO0 := Lib.hid (own_bs0 kb hle); clear hb kb)
    | ((with_reducible refine at_slot 14 ?_); refine wl_ld1 (v := v) rfl rfl rfl k2 Try.underlying29 rfl rfl ?_)
    | ((with_reducible refine at_slot 16 ?_); refine wl_slice rfl rfl (HSLI.out _) rfl rfl rfl ?_; have HL16 := Lib.hid (HVL.out _ HL3.out))
    | ((with_reducible refine at_slot 17 ?_); refine wl_app (c := ci) (xs := []) (ys := (L.drop m)) rfl rfl ci_len (by decide) ci_one W2.heap.size 3 i0 _ 8 Try.underlying29 HI0.out.1 HI0.out.2.1 HI0.out.2.2.1 HI0.out.2.2.2 rfl rfl rfl HO0.out HL16.out (by unfold maxLen; simp; omega) (by simp; omega) HZ.out ?_; intro v17 W17 ho hg hat; have hlg2 := HG2.out; have hlg4 := HG4.out; replace k2 := Blk.keep_chg k2 hg (fun e => by have := (HO0.out.lt _ e).1; omega); replace k4 := Blk.keep_chg k4 hg (fun e => by have := (HO0.out.lt _ e).1; omega); replace HB := Lib.hid (HB.out.grown hg HB.out.size (fun q hq => Nat.le_trans HS2.out (HO0.out.lt q hq).1)); replace HZ := Lib.hid (Nat.le_trans HZ.out hg.size); have HO1 := Lib.hid (show W17.ownsRow W2.heap.size 3 1 v17 (L.drop m).length (fl ci (L.drop m)) from by rw [Nat.zero_add, List.nil_append] at ho; exact ho); have HV1 := Lib.hid (sl_one (v := v17) (by obtain ⟨a, b, e⟩ := own_sl ho; exact ⟨_, _, _, e⟩)); clear ho; clear hg hat hlg2 hlg4)
    | ((with_reducible refine at_store 18 ?_); refine wl_st1 (v := v17) rfl rfl rfl rfl k2 (by kernel_rfl) HV1.out.2 HV1.out.1 (by simp) ?_; intro V5 kn hu; replace HB := Lib.hid (upd_below HB.out hu hle2); have HO8 := Lib.hid (own_same HO1.out (fun q hq => hu.block q (HO1.out.lt q hq).2 (fun e => by have := (HO1.out.lt q hq).1; have := HG2.out; omega))); replace k4 := k4.upd hu (Ne.symm HN.out); clear k2; have k2 : Blk _ g2 31 #[.int .i64 room, .int .u64 lost, v17] := kn; clear kn hu)
    | ((with_reducible refine at_slot 19 ?_); refine wl_ld0 rfl rfl rfl k2 Try.underlying31 rfl rf_size ?_)
    | ((with_reducible refine at_store 4 ?_); refine wl_st0 (A' := #[.int .i64 room, .int .u64 lost, v17]) rfl rfl rfl rfl k4 rfl rf_size (rf_one _ _ _ HV1.out.1) ?_; intro V6 k6 hu; replace HB := Lib.hid (upd_below HB.out hu HLE4.out); have HO9 := Lib.hid (own_same HO8.out (fun q hq => hu.block q (HO8.out.lt q hq).2 (fun e => by have := (HO8.out.lt q hq).1; have := HG4.out; omega))); clear hu k4))
  refine bodyPost_ret (v := .tuple #[.agg #[.int .i64 room, .int .u64 lost, v17], .int .i64 m]) (results_ct Try.results10 _ rfl rfl k6 Try.underlying31 rfl rf_size) rfl ?_
  exact ⟨_, rfl, ⟨own_lst ci_len HO9.out rfl, own_fits HO9.out, fun q hq => ⟨Nat.le_trans HS2.out (HO9.out.lt q hq).1, (HO9.out.lt q hq).2⟩⟩, HB.out⟩
set_option maxHeartbeats 4000000 in
set_option maxRecDepth 100000 in
theorem rat_yes (room : Nat) (lost : Int) (v : Value) (L : List Int) (i : Nat) (x : Int) (hl2 : L.length ≤ 65536) (hi : i < L.length) (hx : L[i]? = some x) (w : World) (h : Lst 1 ci w v L) :
    Calls Try.prog 13 #[.agg #[.int .i64 room, .int .u64 lost, v], .int .i64 i] w fun e w' => e = .returned (.tuple #[.int .i64 x, .bool true]) ∧ Below w.heap.size w w' := by
  have HB := Lib.hid (Below.refl w.heap.size w)
  obtain ⟨ao, b, off, cap, rfl, h1, h2⟩ := h.ex
  obtain ⟨rfl, hlt⟩ := h1 (by omega)
  have HX := Lib.hid (h2 i x hx 0 _ rfl)
  have hmx : L.length ≤ 9223372036854775807 := by omega
  have hin : ¬ (i : Int) ≥ L.length := by omega
  clear h h1 h2 hx
  go_enter Try.func13, Try.ntmps13
  go_wp2_with (first
    | ((with_reducible refine at_slot 2 ?_); refine wl_box (A := #[.int .i64 room, .int .u64 lost, .slice (some ⟨b, off, none⟩) L.length cap]) rfl rfl rfl ?_; intro W1 g2 k2 hb hle2; have HC := Lib.hid ((hb.cell (p := ⟨b, off + i * 1, none⟩) hlt).trans HX.out); replace HB := Lib.hid (below_tr HB.out hb); clear hb)
    | ((with_reducible refine at_slot 11 ?_); refine wl_ld1 (v := .slice (some ⟨b, off, none⟩) L.length cap) rfl rfl rfl k2 Try.underlying29 rfl rfl ?_)
    | ((with_reducible refine at_slot 16 ?_); refine wl_ld1 (v := .slice (some ⟨b, off, none⟩) L.length cap) rfl rfl rfl k2 Try.underlying29 rfl rfl ?_)
    | ((with_reducible refine at_slot 18 ?_); refine wl_ixo rfl rfl rfl rfl Try.underlying29 rfl hi hmx ?_)
    | ((with_reducible refine at_slot 19 ?_); refine wl_ldc rfl rfl rfl HC.out Try.underlying3 rfl ?_))
  go_ret2
  exact ⟨rfl, HB.out⟩
set_option maxHeartbeats 4000000 in
set_option maxRecDepth 100000 in
theorem rat_no (room : Nat) (lost : Int) (v : Value) (L : List Int) (i : Int) (_ : L.length ≤ 65536) (hi : i < 0 ∨ L.length ≤ i) (w : World) (h : Lst 1 ci w v L) :
    Calls Try.prog 13 #[.agg #[.int .i64 room, .int .u64 lost, v], .int .i64 i] w fun e w' => e = .returned (.tuple #[.int .i64 0, .bool false]) ∧ Below w.heap.size w w' := by
  have HB := Lib.hid (Below.refl w.heap.size w)
  obtain ⟨ao, cap, rfl⟩ := h.sl
  clear h
  by_cases hn : i < 0
  · clear hi
    go_enter Try.func13, Try.ntmps13
    go_wp2_with (first
      | ((with_reducible refine at_slot 2 ?_); refine wl_box (A := #[.int .i64 room, .int .u64 lost, .slice ao L.length cap]) rfl rfl rfl ?_; intro W1 g2 k2 hb hle2; replace HB := Lib.hid (below_tr HB.out hb); clear hb)
      | ((with_reducible refine at_slot 11 ?_); refine wl_ld1 (v := .slice ao L.length cap) rfl rfl rfl k2 Try.underlying29 rfl rfl ?_))
    go_ret2
    exact ⟨rfl, HB.out⟩
  · have hge : i ≥ (L.length : Int) := by omega
    clear hi
    go_enter Try.func13, Try.ntmps13
    go_wp2_with (first
      | ((with_reducible refine at_slot 2 ?_); refine wl_box (A := #[.int .i64 room, .int .u64 lost, .slice ao L.length cap]) rfl rfl rfl ?_; intro W1 g2 k2 hb hle2; replace HB := Lib.hid (below_tr HB.out hb); clear hb)
      | ((with_reducible refine at_slot 11 ?_); refine wl_ld1 (v := .slice ao L.length cap) rfl rfl rfl k2 Try.underlying29 rfl rfl ?_))
    go_ret2
    exact ⟨rfl, HB.out⟩
end Go.Proofs.Ythiiclekdikndaa
