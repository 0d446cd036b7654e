/-
  WALKS: law 12: raw events that are equal; lives.
-/
import Derived.Test.YtohkioakipjanaaRwr
namespace Go.Proofs.Ytohkioakipjanaa
open Go Go.RowKit

set_option maxHeartbeats 4000000 in
set_option maxRecDepth 100000 in
theorem es_yes (va vb : Value) (xs : List Ev) (hl : xs.length ≤ 1048576) (w : World) (ha : Lst 4 cE w va xs) (hb : Lst 4 cE w vb xs) :
    Calls Try.prog 33 #[va, vb] w fun e w' => e = .returned (.bool true) ∧ Below w.heap.size w w' := by
  obtain ⟨ao, b, off, cap, rfl, h1, h2⟩ := ha.ex
  obtain ⟨ao2, b2, off2, cap2, rfl, h3, h4⟩ := hb.ex
  have H1 := Lib.hid h1
  have H2 := Lib.hid h2
  have H3 := Lib.hid h3
  have H4 := Lib.hid h4
  have HB := Lib.hid (Below.refl w.heap.size w)
  clear ha hb h1 h2 h3 h4
  go_enter Try.func33, Try.ntmps33
  go_wp2_with fail
  go_loopw [13] (fun i wr => ∃ k : Nat, k ≤ xs.length ∧ i = .int .i64 k ∧ Below w.heap.size w wr) (fun i _ => xs.length - (intOf i).toNat)
  case atStart => exact ⟨0, Nat.zero_le _, rfl, HB.out⟩
  case round =>
    clear HB
    obtain ⟨k, hk, rfl, hB⟩ := hrel
    have HB := Lib.hid hB
    clear hB
    by_cases hlt : k < xs.length
    · obtain ⟨rfl, hq1⟩ := H1.out (by omega)
      obtain ⟨rfl, hq2⟩ := H3.out (by omega)
      have hgx : xs[k]? = some xs[k] := List.getElem?_eq_getElem hlt
      have c1 := range_keep (H2.out k _ hgx) (HB.out.block b hq1)
      have c2 := range_keep (H4.out k _ hgx) (HB.out.block b2 hq2)
      generalize xs[k] = x at c1 c2
      have hmx : xs.length ≤ 9223372036854775807 := by omega
      clear hgx
      go_upto_region 6 with fail
      refine wp_region_held_drew (S := fun w' => w'.rangeAt b (off + k * 4) (evA x).toList ∧ w'.rangeAt b2 (off2 + k * 4) (evA x).toList) (by kernel_rfl) ⟨range_keep c1 rfl, range_keep c2 rfl⟩ (fun hS => ?_)
      refine wpAnyH_take (i := 0) (oi := ⟨some 16, _, _, _, _, _⟩) (v := .slice (some ⟨b, off, none⟩) xs.length cap) rfl (by kernel_rfl) (by kernel_rfl) (by kernel_rfl) (fun _ _ _ h => h) (yi_mv (Or.inl rfl) rfl rfl) hS ?_
      simp only [Act.put, List.setIfInBounds_toArray, List.set_cons_zero, List.set_cons_succ]
      refine wpAnyH_take (i := 1) (oi := ⟨some 17, _, _, _, _, _⟩) (v := .int .i64 k) rfl (by kernel_rfl) (by kernel_rfl) (by kernel_rfl) (fun _ _ _ h => h) (yi_mv (Or.inl rfl) rfl rfl) hS ?_
      simp only [Act.put, List.setIfInBounds_toArray, List.set_cons_zero, List.set_cons_succ]
      refine wpAnyH_take (i := 2) (oi := ⟨some 18, _, _, _, _, _⟩) (v := .pointer (some ⟨b, off + k * 4, none⟩)) rfl (by kernel_rfl) (by kernel_rfl) (by kernel_rfl) (fun _ _ _ h => h) (yi_ixo rfl rfl rfl rfl Try.underlying22 rfl hlt hmx) hS ?_
      simp only [Act.put, List.setIfInBounds_toArray, List.set_cons_zero, List.set_cons_succ]
      refine wpAnyH_take (i := 3) (oi := ⟨some 19, _, _, _, _, _⟩) (v := .agg (evA x)) rfl (by kernel_rfl) (by kernel_rfl) (by kernel_rfl) (fun _ _ _ h => h) (yi_ldr (B := evA x) rfl rfl rfl (fun w' h => h.1) Try.underlying27 rfl evInfo) hS ?_
      simp only [Act.put, List.setIfInBounds_toArray, List.set_cons_zero, List.set_cons_succ]
      refine wpAnyH_take (i := 4) (oi := ⟨some 20, _, _, _, _, _⟩) (v := .slice (some ⟨b2, off2, none⟩) xs.length cap2) rfl (by kernel_rfl) (by kernel_rfl) (by kernel_rfl) (fun _ _ _ h => h) (yi_mv (Or.inl rfl) rfl rfl) hS ?_
      simp only [Act.put, List.setIfInBounds_toArray, List.set_cons_zero, List.set_cons_succ]
      refine wpAnyH_take (i := 5) (oi := ⟨some 21, _, _, _, _, _⟩) (v := .int .i64 k) rfl (by kernel_rfl) (by kernel_rfl) (by kernel_rfl) (fun _ _ _ h => h) (yi_mv (Or.inl rfl) rfl rfl) hS ?_
      simp only [Act.put, List.setIfInBounds_toArray, List.set_cons_zero, List.set_cons_succ]
      refine wpAnyH_take (i := 6) (oi := ⟨some 22, _, _, _, _, _⟩) (v := .pointer (some ⟨b2, off2 + k * 4, none⟩)) rfl (by kernel_rfl) (by kernel_rfl) (by kernel_rfl) (fun _ _ _ h => h) (yi_ixo rfl rfl rfl rfl Try.underlying22 rfl hlt hmx) hS ?_
      simp only [Act.put, List.setIfInBounds_toArray, List.set_cons_zero, List.set_cons_succ]
      refine wpAnyH_take (i := 7) (oi := ⟨some 23, _, _, _, _, _⟩) (v := .agg (evA x)) rfl (by kernel_rfl) (by kernel_rfl) (by kernel_rfl) (fun _ _ _ h => h) (yi_ldr (B := evA x) rfl rfl rfl (fun w' h => h.2) Try.underlying27 rfl evInfo) hS ?_
      simp only [Act.put, List.setIfInBounds_toArray, List.set_cons_zero, List.set_cons_succ]
      refine wpAnyH_take (i := 8) (oi := ⟨some 24, _, _, _, _, _⟩) (v := .bool false) rfl (by kernel_rfl) (by kernel_rfl) (by kernel_rfl) (fun _ _ _ h => h) (yi_bi rfl rfl rfl rfl (fun _ => run_eqGuard_agg _ _ _ _ _ _ _ (by kernel_rfl)) (fun _ => ev_neq x _)) hS ?_
      simp only [Act.put, List.setIfInBounds_toArray, List.set_cons_zero, List.set_cons_succ]
      refine wpAnyH_done (by kernel_rfl) ?_ _
      clear hS c1 c2
      replace HB := Lib.hid HB.out.drew
      go_wp2_with fail
      go_roundw
      case rel => exact ⟨k + 1, hlt, by go_num, HB.out⟩
      case measure => simp [intOf]; omega
    · go_wp2_with fail
      go_ret
      exact ⟨rfl, HB.out⟩
set_option maxHeartbeats 4000000 in
set_option maxRecDepth 100000 in
theorem rs_yes (lost mark : Int) (va vb : Value) (l : List Ev) (hl : l.length ≤ 1048576) (w : World) (ha : Lst 4 cE w va l) (hb : Lst 4 cE w vb l) :
    Calls Try.prog 18 #[.agg #[.int .i64 lost, .int .i64 mark, va], .agg #[.int .i64 lost, .int .i64 mark, vb]] w fun e w' => e = .returned (.bool true) ∧ Below w.heap.size w w' := by
  have HA := Lib.hid ha
  have HBB := Lib.hid hb
  clear ha hb
  go_enter Try.func18, Try.ntmps18
  go_wp2_with (first
    | ((with_reducible refine at_slot 2 ?_); refine wl_box (A := #[.int .i64 lost, .int .i64 mark, va]) rfl rfl rfl ?_; intro W1 g2 k2 hb hle; have HB := Lib.hid hb; clear hb hle)
    | ((with_reducible refine at_slot 3 ?_); refine wl_box (A := #[.int .i64 lost, .int .i64 mark, vb]) rfl rfl rfl ?_; intro W2 g3 k3 hb hle; replace k2 := k2.keep hb; replace HB := Lib.hid (below_tr HB.out hb); clear hb hle)
    | ((with_reducible refine at_slot 6 ?_); refine wl_ld1 (v := .int .i64 lost) rfl rfl rfl k2 Try.underlying2 rfl rfl ?_)
    | ((with_reducible refine at_slot 8 ?_); refine wl_ld1 (v := .int .i64 lost) rfl rfl rfl k3 Try.underlying2 rfl rfl ?_)
    | ((with_reducible refine at_slot 12 ?_); refine wl_ld1 (v := .int .i64 mark) rfl rfl rfl k2 Try.underlying2 rfl rfl ?_)
    | ((with_reducible refine at_slot 14 ?_); refine wl_ld1 (v := .int .i64 mark) rfl rfl rfl k3 Try.underlying2 rfl rfl ?_)
    | ((with_reducible refine at_slot 19 ?_); refine wl_ld1 (v := va) rfl rfl rfl k2 Try.underlying22 rfl rfl ?_)
    | ((with_reducible refine at_slot 21 ?_); refine wl_ld1 (v := vb) rfl rfl rfl k3 Try.underlying22 rfl rfl ?_)
    | ((with_reducible refine at_slot 22 ?_); refine wl_call rfl rfl Try.func33 (by kernel_rfl) rfl (es_yes va vb l hl _ (HA.out.keep HB.out) (HBB.out.keep HB.out)) rfl ?_; intro V hb; replace HB := Lib.hid (below_tr HB.out hb); clear hb))
  go_ret
  exact ⟨rfl, HB.out⟩
set_option maxHeartbeats 4000000 in
set_option maxRecDepth 100000 in
theorem rs_no (lost lost2 mark mark2 : Int) (va vb : Value) (hd : (lost == lost2) = false) (w : World) :
    Calls Try.prog 18 #[.agg #[.int .i64 lost, .int .i64 mark, va], .agg #[.int .i64 lost2, .int .i64 mark2, vb]] w fun e w' => e = .returned (.bool false) ∧ Below w.heap.size w w' := by
  go_enter Try.func18, Try.ntmps18
  go_wp2_with (first
    | ((with_reducible refine at_slot 2 ?_); refine wl_box (A := #[.int .i64 lost, .int .i64 mark, va]) rfl rfl rfl ?_; intro W1 g2 k2 hb hle; have HB := Lib.hid hb; clear hb hle)
    | ((with_reducible refine at_slot 3 ?_); refine wl_box (A := #[.int .i64 lost2, .int .i64 mark2, vb]) rfl rfl rfl ?_; intro W2 g3 k3 hb hle; replace k2 := k2.keep hb; replace HB := Lib.hid (below_tr HB.out hb); clear hb hle)
    | ((with_reducible refine at_slot 6 ?_); refine wl_ld1 (v := .int .i64 lost) rfl rfl rfl k2 Try.underlying2 rfl rfl ?_)
    | ((with_reducible refine at_slot 8 ?_); refine wl_ld1 (v := .int .i64 lost2) rfl rfl rfl k3 Try.underlying2 rfl rfl ?_)
    | ((with_reducible refine at_slot 12 ?_); refine wl_ld1 (v := .int .i64 mark) rfl rfl rfl k2 Try.underlying2 rfl rfl ?_)
    | ((with_reducible refine at_slot 14 ?_); refine wl_ld1 (v := .int .i64 mark) rfl rfl rfl k3 Try.underlying2 rfl rfl ?_)
    | ((with_reducible refine at_slot 19 ?_); refine wl_ld1 (v := va) rfl rfl rfl k2 Try.underlying22 rfl rfl ?_)
    | ((with_reducible refine at_slot 21 ?_); refine wl_ld1 (v := vb) rfl rfl rfl k3 Try.underlying22 rfl rfl ?_))
  go_ret
  exact ⟨rfl, HB.out⟩
set_option maxHeartbeats 4000000 in
set_option maxRecDepth 100000 in
theorem ss_yes (lost mark : Int) (va vb : Value) (l : List Ev) (hl : l.length ≤ 1048576) (w : World) (ha : Lst 4 cE w va l) (hb : Lst 4 cE w vb l) :
    Calls Try.prog 16 #[.agg #[.int .i64 lost, .int .i64 mark, va], .agg #[.int .i64 lost, .int .i64 mark, vb]] w fun e w' => e = .returned (.bool true) ∧ Below w.heap.size w w' := by
  have HA := Lib.hid ha
  have HBB := Lib.hid hb
  clear ha hb
  go_enter Try.func16, Try.ntmps16
  go_wp2_with (first
    | ((with_reducible refine at_slot 2 ?_); refine wl_box (A := #[.int .i64 lost, .int .i64 mark, va]) rfl rfl rfl ?_; intro W1 g2 k2 hb hle; have HB := Lib.hid hb; clear hb hle)
    | ((with_reducible refine at_slot 3 ?_); refine wl_box (A := #[.int .i64 lost, .int .i64 mark, vb]) rfl rfl rfl ?_; intro W2 g3 k3 hb hle; replace k2 := k2.keep hb; replace HB := Lib.hid (below_tr HB.out hb); clear hb hle)
    | ((with_reducible refine at_slot 6 ?_); refine wl_ld1 (v := .int .i64 lost) rfl rfl rfl k2 Try.underlying2 rfl rfl ?_)
    | ((with_reducible refine at_slot 8 ?_); refine wl_ld1 (v := .int .i64 lost) rfl rfl rfl k3 Try.underlying2 rfl rfl ?_)
    | ((with_reducible refine at_slot 12 ?_); refine wl_ld1 (v := .int .i64 mark) rfl rfl rfl k2 Try.underlying2 rfl rfl ?_)
    | ((with_reducible refine at_slot 14 ?_); refine wl_ld1 (v := .int .i64 mark) rfl rfl rfl k3 Try.underlying2 rfl rfl ?_)
    | ((with_reducible refine at_slot 19 ?_); refine wl_ld1 (v := va) rfl rfl rfl k2 Try.underlying22 rfl rfl ?_)
    | ((with_reducible refine at_slot 21 ?_); refine wl_ld1 (v := vb) rfl rfl rfl k3 Try.underlying22 rfl rfl ?_)
    | ((with_reducible refine at_slot 22 ?_); refine wl_call rfl rfl Try.func17 (by kernel_rfl) rfl (sl_yes va vb l hl _ (HA.out.keep HB.out) (HBB.out.keep HB.out)) rfl ?_; intro V hb; replace HB := Lib.hid (below_tr HB.out hb); clear hb))
  go_ret
  exact ⟨rfl, HB.out⟩
set_option maxHeartbeats 4000000 in
set_option maxRecDepth 100000 in
theorem ss_no (lost lost2 mark mark2 : Int) (va vb : Value) (hd : (lost == lost2) = false) (w : World) :
    Calls Try.prog 16 #[.agg #[.int .i64 lost, .int .i64 mark, va], .agg #[.int .i64 lost2, .int .i64 mark2, vb]] w fun e w' => e = .returned (.bool false) ∧ Below w.heap.size w w' := by
  go_enter Try.func16, Try.ntmps16
  go_wp2_with (first
    | ((with_reducible refine at_slot 2 ?_); refine wl_box (A := #[.int .i64 lost, .int .i64 mark, va]) rfl rfl rfl ?_; intro W1 g2 k2 hb hle; have HB := Lib.hid hb; clear hb hle)
    | ((with_reducible refine at_slot 3 ?_); refine wl_box (A := #[.int .i64 lost2, .int .i64 mark2, vb]) rfl rfl rfl ?_; intro W2 g3 k3 hb hle; replace k2 := k2.keep hb; replace HB := Lib.hid (below_tr HB.out hb); clear hb hle)
    | ((with_reducible refine at_slot 6 ?_); refine wl_ld1 (v := .int .i64 lost) rfl rfl rfl k2 Try.underlying2 rfl rfl ?_)
    | ((with_reducible refine at_slot 8 ?_); refine wl_ld1 (v := .int .i64 lost2) rfl rfl rfl k3 Try.underlying2 rfl rfl ?_)
    | ((with_reducible refine at_slot 12 ?_); refine wl_ld1 (v := .int .i64 mark) rfl rfl rfl k2 Try.underlying2 rfl rfl ?_)
    | ((with_reducible refine at_slot 14 ?_); refine wl_ld1 (v := .int .i64 mark) rfl rfl rfl k3 Try.underlying2 rfl rfl ?_)
    | ((with_reducible refine at_slot 19 ?_); refine wl_ld1 (v := va) rfl rfl rfl k2 Try.underlying22 rfl rfl ?_)
    | ((with_reducible refine at_slot 21 ?_); refine wl_ld1 (v := vb) rfl rfl rfl k3 Try.underlying22 rfl rfl ?_))
  go_ret
  exact ⟨rfl, HB.out⟩

theorem ev_bldTV (t v : Int) (w : World) : (Instr.build 27 #[(0, .int .i64 t), (1, .int .u64 v)]).run Try.prog w = .ok (.agg (evA ⟨t, v, 0, false⟩)) w := by
  unfold evA
  go_simp
theorem ev_bldTS (t : Int) (s : Bool) (w : World) : (Instr.build 27 #[(0, .int .i64 t), (3, .bool s)]).run Try.prog w = .ok (.agg (evA ⟨t, 0, 0, s⟩)) w := by
  unfold evA
  go_simp
theorem rw_bld3 (a b : Int) (v : Value) (hv : ∃ ao n cap, v = .slice ao n cap) (w : World) : (Instr.build 24 #[(0, .int .i64 a), (1, .int .i64 b), (2, v)]).run Try.prog w = .ok (.agg #[.int .i64 a, .int .i64 b, v]) w := by
  obtain ⟨ao, n, cap, rfl⟩ := hv
  go_simp
theorem bs1_e (x : Ev) (w : World) : (Instr.buildSlice 22 1 #[(0, .agg (evA x))]).run Try.prog w = .ok (.slice (some ⟨w.heap.size, 0, none⟩) 1 1) (w.alloc (.cells (fl cE [x]).toArray 27)) := by
  rw [fl_one]
  exact e_bs x w
theorem bs2_e (x y : Ev) (w : World) : (Instr.buildSlice 22 2 #[(0, .agg (evA x)), (1, .agg (evA y))]).run Try.prog w = .ok (.slice (some ⟨w.heap.size, 0, none⟩) 2 2) (w.alloc (.cells (fl cE [x, y]).toArray 27)) := by
  simp only [fl, cE, evA, List.append_nil, List.cons_append, List.nil_append]
  go_simp
theorem lst_of_blk {w : World} {g n : Nat} {xs : List Ev} (h : Blk w g 27 (fl cE xs).toArray) (hn : n = xs.length) (hm : n ≤ maxLen) : Lst 4 cE w (.slice (some ⟨g, 0, none⟩) n n) xs := by
  refine own_lst (base := 0) (t := 27) (n := n) cE_len ⟨by rw [fl_len cE_len, hn], Or.inr ⟨g, n, (fl cE xs).toArray, rfl, Nat.zero_le _, h, Nat.le_refl _, hm, ?_, ?_⟩⟩ hn
  · rw [List.size_toArray, fl_len cE_len, hn]
  · rw [List.take_of_length_le (by rw [List.toList_toArray, fl_len cE_len, hn]; exact Nat.le_refl _), List.toList_toArray]
theorem a5 : EvOk ⟨5, 1, 0, false⟩ := ⟨by decide, by decide, by decide, by decide, by decide, by decide, nofun⟩
theorem b8 : EvOk ⟨8, 2, 0, false⟩ := ⟨by decide, by decide, by decide, by decide, by decide, by decide, nofun⟩
theorem c9 : EvOk ⟨9, 0, 0, true⟩ := ⟨by decide, by decide, by decide, by decide, by decide, by decide, fun _ => ⟨rfl, rfl⟩⟩
theorem in_one {x : Ev} (h : EvIn x) : AllIn [x] := fun i hi => by
  match i, hi with
  | 0, _ => exact h
theorem in_two {x y : Ev} (h : EvIn x) (h' : EvIn y) : AllIn [x, y] := fun i hi => by
  match i, hi with
  | 0, _ => exact h
  | 1, _ => exact h'
theorem rt_one {x : Ev} (h : EvOk x) : Rt [x] := ⟨fun i hi => by
  match i, hi with
  | 0, _ => exact h, fun i hi => by simp at hi⟩
theorem rt_two {x y : Ev} (h : EvOk x) (h' : EvOk y) (hlt : x.t < y.t) : Rt [x, y] := ⟨fun i hi => by
  match i, hi with
  | 0, _ => exact h
  | 1, _ => exact h', fun i hi => by
  match i, hi with
  | 0, _ => exact hlt⟩
theorem ok1 : RawOk 0 0 [⟨5, 1, 0, false⟩] (2 : Nat) := ⟨by decide, by decide, by decide, rt_one a5, Or.inl ⟨rfl, rfl⟩⟩
theorem ok2 : RawOk 0 0 [⟨5, 1, 0, false⟩, ⟨8, 2, 0, false⟩] (2 : Nat) := ⟨by decide, by decide, by decide, rt_two a5 b8 (by decide), Or.inl ⟨rfl, rfl⟩⟩
theorem ok3 : RawOk 1 5 [⟨8, 2, 0, false⟩, ⟨9, 0, 0, true⟩] (2 : Int) := ⟨by decide, by decide, by decide, rt_two b8 c9 (by decide), Or.inr ⟨by decide, by decide, by decide, by decide, by decide, _, rfl, by decide⟩⟩
theorem no3 : ¬ RawOk 1 5 [⟨8, 2, 0, false⟩, ⟨9, 0, 0, true⟩] (3 : Int) := fun h => by
  rcases h.rl with h1 | h1
  · exact absurd h1.1 (by decide)
  · exact absurd h1.2.2.2.1 (by decide)
theorem ck_ok3 (v : Value) (w : World) (h : Lst 4 cE w v [⟨8, 2, 0, false⟩, ⟨9, 0, 0, true⟩]) : Calls Try.prog 14 #[.agg #[.int .i64 1, .int .i64 5, v], .int .i64 2] w fun e w' => e = .returned (.int .i64 0) ∧ Below w.heap.size w w' := by
  have := ck_any 1 5 v [⟨8, 2, 0, false⟩, ⟨9, 0, 0, true⟩] (by decide) (in_two b8.in c9.in) 2 w h
  rwa [ckE_yes ok3] at this
theorem ck_no3 (v : Value) (w : World) (h : Lst 4 cE w v [⟨8, 2, 0, false⟩, ⟨9, 0, 0, true⟩]) : Calls Try.prog 14 #[.agg #[.int .i64 1, .int .i64 5, v], .int .i64 3] w fun e w' => e = .returned (.int .i64 2) ∧ Below w.heap.size w w' := by
  have := ck_any 1 5 v [⟨8, 2, 0, false⟩, ⟨9, 0, 0, true⟩] (by decide) (in_two b8.in c9.in) 3 w h
  rwa [ckE_no no3] at this
theorem fil8 : [(⟨8, 2, 0, false⟩ : Ev), ⟨9, 0, 0, true⟩].filter (inB 6 9) = [⟨8, 2, 0, false⟩] := by simp [inB]
set_option maxHeartbeats 4000000 in
set_option maxRecDepth 100000 in
theorem lives12 (w : World) : Calls Try.prog 7 #[] w fun e w' => e = .returned (.bool true) ∧ Below w.heap.size w w' := by
  have HB := Lib.hid (Below.refl w.heap.size w)
  go_enter Try.func7, Try.ntmps7
  go_upto_region 10 with (first
    | ((with_reducible refine at_slot 19 ?_); refine wl_build rfl rfl (ev_bldTV 5 1 _) rfl ?_)
    | ((with_reducible refine at_slot 20 ?_); refine wl_build rfl rfl (ev_bldTV 8 2 _) rfl ?_)
    | ((with_reducible refine at_slot 21 ?_); refine wl_build rfl rfl (ev_bldTS 9 true _) rfl ?_)
    | ((with_reducible refine at_slot 1 ?_); refine wl_alloc (A := evA zeroEv) rfl rfl ev_zero rfl ?_; intro W_g1 g1 k1 hb hle; have HL_g1 := Lib.hid (Nat.le_trans HB.out.size hle); replace HB := Lib.hid (below_tr HB.out hb); clear hb)
    | ((with_reducible refine at_slot 2 ?_); refine wl_alloc (A := evA zeroEv) rfl rfl ev_zero rfl ?_; intro W_g2 g2 k2 hb hle; have nk1_g2 := Lib.hid (k1.ne_of_le hle); have HL_g2 := Lib.hid (Nat.le_trans HB.out.size hle); replace k1 := k1.keep hb; replace HB := Lib.hid (below_tr HB.out hb); clear hb)
    | ((with_reducible refine at_slot 3 ?_); refine wl_alloc (A := evA zeroEv) rfl rfl ev_zero rfl ?_; intro W_g3 g3 k3 hb hle; have nk1_g3 := Lib.hid (k1.ne_of_le hle); have nk2_g3 := Lib.hid (k2.ne_of_le hle); have HL_g3 := Lib.hid (Nat.le_trans HB.out.size hle); replace k1 := k1.keep hb; replace k2 := k2.keep hb; replace HB := Lib.hid (below_tr HB.out hb); clear hb)
    | ((with_reducible refine at_store 1 ?_); refine wl_st0 (A' := evA ⟨5, 1, 0, false⟩) rfl rfl rfl rfl k1 rfl evInfo (evA_one _) ?_; intro V_ kn hu; replace k2 := k2.upd hu (Ne.symm nk1_g2.out); replace k3 := k3.upd hu (Ne.symm nk1_g3.out); replace HB := Lib.hid (upd_below HB.out hu HL_g1.out); clear k1; have k1 := kn; clear kn hu)
    | ((with_reducible refine at_store 2 ?_); refine wl_st0 (A' := evA ⟨8, 2, 0, false⟩) rfl rfl rfl rfl k2 rfl evInfo (evA_one _) ?_; intro V_ kn hu; replace k1 := k1.upd hu nk1_g2.out; replace k3 := k3.upd hu (Ne.symm nk2_g3.out); replace HB := Lib.hid (upd_below HB.out hu HL_g2.out); clear k2; have k2 := kn; clear kn hu)
    | ((with_reducible refine at_store 3 ?_); refine wl_st0 (A' := evA ⟨9, 0, 0, true⟩) rfl rfl rfl rfl k3 rfl evInfo (evA_one _) ?_; intro V_ kn hu; replace k1 := k1.upd hu nk1_g3.out; replace k2 := k2.upd hu nk2_g3.out; replace HB := Lib.hid (upd_below HB.out hu HL_g3.out); clear k3; have k3 := kn; clear kn hu)
    | ((with_reducible refine at_slot 23 ?_); refine wl_build rfl rfl (rw_bld0 _) rfl ?_)
    | ((with_reducible refine at_slot 24 ?_); refine wl_ld0 rfl rfl rfl k1 Try.underlying27 rfl evInfo ?_)
    | ((with_reducible refine at_slot 25 ?_); refine wl_callx rfl rfl Try.func8 (by kernel_rfl) rfl (put_first 0 0 (.slice none 0 0) [] (by simp) (fun i h => by simp at h) 2 ⟨5, 1, 0, false⟩ a5.in _ (Lst.nil _ _ _) ok02 a5 rfl (by simp)) rfl ?_; intro v4 V25 hR; have HA1 := Lib.hid (show Lst 4 cE V25 v4 [⟨5, 1, 0, false⟩] ∧ (∀ q, v4.ownBlock = some q → q < V25.heap.size) from ⟨hR.1.1, fun q hq => (hR.1.2 q hq).2⟩); replace k1 := k1.keep hR.2; replace k2 := k2.keep hR.2; replace k3 := k3.keep hR.2; replace HB := Lib.hid (below_tr HB.out hR.2); clear hR)
    | ((with_reducible refine at_slot 4 ?_); refine wl_alloc (A := #[.int .i64 0, .int .i64 0, .slice none 0 0]) rfl rfl rw_zero rfl ?_; intro W_g4 g4 k4 hb hle; have nk1_g4 := Lib.hid (k1.ne_of_le hle); have nk2_g4 := Lib.hid (k2.ne_of_le hle); have nk3_g4 := Lib.hid (k3.ne_of_le hle); have qHA1_g4 := Lib.hid (fun q hq => show q ≠ g4 from by have := HA1.out.2 q hq; omega); have HL_g4 := Lib.hid (Nat.le_trans HB.out.size hle); replace k1 := k1.keep hb; replace k2 := k2.keep hb; replace k3 := k3.keep hb; replace HA1 := Lib.hid (And.intro (HA1.out.1.keep hb) (fun q hq => Nat.lt_of_lt_of_le (HA1.out.2 q hq) hb.size)); replace HB := Lib.hid (below_tr HB.out hb); clear hb)
    | ((with_reducible refine at_store 4 ?_); refine wl_st0 (A' := #[.int .i64 0, .int .i64 0, v4]) rfl rfl rfl rfl k4 rfl rw_size (rw_one _ _ _ (lst_one HA1.out.1).1) ?_; intro V_ kn hu; replace k1 := k1.upd hu nk1_g4.out; replace k2 := k2.upd hu nk2_g4.out; replace k3 := k3.upd hu nk3_g4.out; replace HA1 := Lib.hid (And.intro (HA1.out.1.chg (Chg.upd (o := none) hu) (fun e => qHA1_g4.out _ e rfl) (by simp)) (fun q hq => Nat.lt_of_lt_of_le (HA1.out.2 q hq) hu.size)); replace HB := Lib.hid (upd_below HB.out hu HL_g4.out); clear k4; have k4 := kn; clear kn hu)
    | ((with_reducible refine at_slot 29 ?_); refine wl_ld0 rfl rfl rfl k4 Try.underlying24 rfl rw_size ?_)
    | ((with_reducible refine at_slot 30 ?_); refine wl_ld0 rfl rfl rfl k2 Try.underlying27 rfl evInfo ?_)
    | ((with_reducible refine at_slot 31 ?_); refine wl_callx rfl rfl Try.func8 (by kernel_rfl) rfl (put_more 0 0 v4 [⟨5, 1, 0, false⟩] (by simp) (in_one a5.in) 2 ⟨8, 2, 0, false⟩ b8.in _ HA1.out.1 ok1 b8 0 ⟨5, 1, 0, false⟩ rfl rfl (by decide) (by decide)) rfl ?_; have HK4 := Lib.hid k4.lt; intro v5 V31 hR; have HA2 := Lib.hid (show Lst 4 cE V31 v5 [⟨5, 1, 0, false⟩, ⟨8, 2, 0, false⟩] ∧ (∀ q, v5.ownBlock = some q → q < V31.heap.size) from ⟨hR.1.1, fun q hq => (hR.1.2 q hq).2⟩); replace k1 := k1.keep hR.2; replace k2 := k2.keep hR.2; replace k3 := k3.keep hR.2; replace k4 := k4.keep hR.2; replace HA1 := Lib.hid (And.intro (HA1.out.1.keep hR.2) (fun q hq => Nat.lt_of_lt_of_le (HA1.out.2 q hq) hR.2.size)); replace HB := Lib.hid (below_tr HB.out hR.2); have HQ2 := Lib.hid (fun q (hq : v5.ownBlock = some q) => show q ≠ g4 from by have h1 := (hR.1.2 q hq).1; have h2 := HK4.out; omega); clear hR)
    | ((with_reducible refine at_store 4 ?_); refine wl_st0 (A' := #[.int .i64 0, .int .i64 0, v5]) rfl rfl rfl rfl k4 rfl rw_size (rw_one _ _ _ (lst_one HA2.out.1).1) ?_; intro V_ kn hu; replace k1 := k1.upd hu nk1_g4.out; replace k2 := k2.upd hu nk2_g4.out; replace k3 := k3.upd hu nk3_g4.out; replace HA2 := Lib.hid (And.intro (HA2.out.1.chg (Chg.upd (o := none) hu) (fun e => HQ2.out _ e rfl) (by simp)) (fun q hq => Nat.lt_of_lt_of_le (HA2.out.2 q hq) hu.size)); replace HB := Lib.hid (upd_below HB.out hu HL_g4.out); clear k4; have k4 := kn; clear kn hu HA1)
    | ((with_reducible refine at_slot 35 ?_); refine wl_ld0 rfl rfl rfl k4 Try.underlying24 rfl rw_size ?_)
    | ((with_reducible refine at_slot 36 ?_); refine wl_ld0 rfl rfl rfl k3 Try.underlying27 rfl evInfo ?_)
    | ((with_reducible refine at_slot 37 ?_); refine wl_callx rfl rfl Try.func8 (by kernel_rfl) rfl (put_full 0 0 v5 [⟨5, 1, 0, false⟩, ⟨8, 2, 0, false⟩] (by simp) (in_two a5.in b8.in) 2 ⟨9, 0, 0, true⟩ c9.in _ HA2.out.1 ok2 c9 1 ⟨8, 2, 0, false⟩ rfl rfl (by decide) rfl (by decide) ⟨5, 1, 0, false⟩ rfl) rfl ?_; intro v6 V37 hR; have HA3 := Lib.hid (show Lst 4 cE V37 v6 [⟨8, 2, 0, false⟩, ⟨9, 0, 0, true⟩] ∧ (∀ q, v6.ownBlock = some q → q < V37.heap.size) from ⟨hR.1.1, fun q hq => (hR.1.2 q hq).2⟩); replace k1 := k1.keep hR.2; replace k2 := k2.keep hR.2; replace k3 := k3.keep hR.2; replace k4 := k4.keep hR.2; replace HA2 := Lib.hid (And.intro (HA2.out.1.keep hR.2) (fun q hq => Nat.lt_of_lt_of_le (HA2.out.2 q hq) hR.2.size)); replace HB := Lib.hid (below_tr HB.out hR.2); clear hR)
    | ((with_reducible refine at_slot 7 ?_); refine wl_alloc (A := #[.int .i64 0, .int .i64 0, .slice none 0 0]) rfl rfl rw_zero rfl ?_; intro W_g7 g7 k7 hb hle; have nk1_g7 := Lib.hid (k1.ne_of_le hle); have nk2_g7 := Lib.hid (k2.ne_of_le hle); have nk3_g7 := Lib.hid (k3.ne_of_le hle); have nk4_g7 := Lib.hid (k4.ne_of_le hle); have qHA2_g7 := Lib.hid (fun q hq => show q ≠ g7 from by have := HA2.out.2 q hq; omega); have qHA3_g7 := Lib.hid (fun q hq => show q ≠ g7 from by have := HA3.out.2 q hq; omega); have HL_g7 := Lib.hid (Nat.le_trans HB.out.size hle); replace k1 := k1.keep hb; replace k2 := k2.keep hb; replace k3 := k3.keep hb; replace k4 := k4.keep hb; replace HA2 := Lib.hid (And.intro (HA2.out.1.keep hb) (fun q hq => Nat.lt_of_lt_of_le (HA2.out.2 q hq) hb.size)); replace HA3 := Lib.hid (And.intro (HA3.out.1.keep hb) (fun q hq => Nat.lt_of_lt_of_le (HA3.out.2 q hq) hb.size)); replace HB := Lib.hid (below_tr HB.out hb); clear hb)
    | ((with_reducible refine at_store 7 ?_); refine wl_st0 (A' := #[.int .i64 1, .int .i64 5, v6]) rfl rfl rfl rfl k7 rfl rw_size (rw_one _ _ _ (lst_one HA3.out.1).1) ?_; intro V_ kn hu; replace k1 := k1.upd hu nk1_g7.out; replace k2 := k2.upd hu nk2_g7.out; replace k3 := k3.upd hu nk3_g7.out; replace k4 := k4.upd hu nk4_g7.out; replace HA2 := Lib.hid (And.intro (HA2.out.1.chg (Chg.upd (o := none) hu) (fun e => qHA2_g7.out _ e rfl) (by simp)) (fun q hq => Nat.lt_of_lt_of_le (HA2.out.2 q hq) hu.size)); replace HA3 := Lib.hid (And.intro (HA3.out.1.chg (Chg.upd (o := none) hu) (fun e => qHA3_g7.out _ e rfl) (by simp)) (fun q hq => Nat.lt_of_lt_of_le (HA3.out.2 q hq) hu.size)); replace HB := Lib.hid (upd_below HB.out hu HL_g7.out); clear k7; have k7 := kn; clear kn hu)
    | ((with_reducible refine at_slot 41 ?_); refine wl_ld0 rfl rfl rfl k4 Try.underlying24 rfl rw_size ?_)
    | ((with_reducible refine at_slot 42 ?_); refine wl_ld0 rfl rfl rfl k1 Try.underlying27 rfl evInfo ?_)
    | ((with_reducible refine at_slot 43 ?_); refine wl_call rfl rfl Try.func8 (by kernel_rfl) rfl (put_time 0 0 v5 [⟨5, 1, 0, false⟩, ⟨8, 2, 0, false⟩] (by simp) (in_two a5.in b8.in) 2 ⟨5, 1, 0, false⟩ a5.in _ HA2.out.1 ok2 a5 1 ⟨8, 2, 0, false⟩ rfl rfl (by decide)) rfl ?_; intro V43 hb; replace k1 := k1.keep hb; replace k2 := k2.keep hb; replace k3 := k3.keep hb; replace k4 := k4.keep hb; replace k7 := k7.keep hb; replace HA2 := Lib.hid (And.intro (HA2.out.1.keep hb) (fun q hq => Nat.lt_of_lt_of_le (HA2.out.2 q hq) hb.size)); replace HA3 := Lib.hid (And.intro (HA3.out.1.keep hb) (fun q hq => Nat.lt_of_lt_of_le (HA3.out.2 q hq) hb.size)); replace HB := Lib.hid (below_tr HB.out hb); clear hb)
    | ((with_reducible refine at_slot 9 ?_); refine wl_alloc (A := #[.int .i64 0, .int .i64 0, .slice none 0 0]) rfl rfl rw_zero rfl ?_; intro W_g9 g9 k9 hb hle; have nk1_g9 := Lib.hid (k1.ne_of_le hle); have nk2_g9 := Lib.hid (k2.ne_of_le hle); have nk3_g9 := Lib.hid (k3.ne_of_le hle); have nk4_g9 := Lib.hid (k4.ne_of_le hle); have nk7_g9 := Lib.hid (k7.ne_of_le hle); have qHA2_g9 := Lib.hid (fun q hq => show q ≠ g9 from by have := HA2.out.2 q hq; omega); have qHA3_g9 := Lib.hid (fun q hq => show q ≠ g9 from by have := HA3.out.2 q hq; omega); have HL_g9 := Lib.hid (Nat.le_trans HB.out.size hle); replace k1 := k1.keep hb; replace k2 := k2.keep hb; replace k3 := k3.keep hb; replace k4 := k4.keep hb; replace k7 := k7.keep hb; replace HA2 := Lib.hid (And.intro (HA2.out.1.keep hb) (fun q hq => Nat.lt_of_lt_of_le (HA2.out.2 q hq) hb.size)); replace HA3 := Lib.hid (And.intro (HA3.out.1.keep hb) (fun q hq => Nat.lt_of_lt_of_le (HA3.out.2 q hq) hb.size)); replace HB := Lib.hid (below_tr HB.out hb); clear hb)
    | ((with_reducible refine at_store 9 ?_); refine wl_st0 (A' := #[.int .i64 0, .int .i64 0, .slice none 0 0]) rfl rfl rfl rfl k9 rfl rw_size (rw_one _ _ _ rfl) ?_; intro V_ kn hu; replace k1 := k1.upd hu nk1_g9.out; replace k2 := k2.upd hu nk2_g9.out; replace k3 := k3.upd hu nk3_g9.out; replace k4 := k4.upd hu nk4_g9.out; replace k7 := k7.upd hu nk7_g9.out; replace HA2 := Lib.hid (And.intro (HA2.out.1.chg (Chg.upd (o := none) hu) (fun e => qHA2_g9.out _ e rfl) (by simp)) (fun q hq => Nat.lt_of_lt_of_le (HA2.out.2 q hq) hu.size)); replace HA3 := Lib.hid (And.intro (HA3.out.1.chg (Chg.upd (o := none) hu) (fun e => qHA3_g9.out _ e rfl) (by simp)) (fun q hq => Nat.lt_of_lt_of_le (HA3.out.2 q hq) hu.size)); replace HB := Lib.hid (upd_below HB.out hu HL_g9.out); clear k9; have k9 := kn; clear kn hu)
    | ((with_reducible refine at_slot 47 ?_); refine wl_ld0 rfl rfl rfl k7 Try.underlying24 rfl rw_size ?_)
    | ((with_reducible refine at_slot 48 ?_); refine wl_callx rfl rfl Try.func10 (by kernel_rfl) rfl (rg_ok 1 5 v6 [⟨8, 2, 0, false⟩, ⟨9, 0, 0, true⟩] (by simp) 6 9 (by decide) (by decide) _ HA3.out.1) rfl ?_; intro v8 V48 hR; have HR8 := Lib.hid (show Lst 4 cE V48 v8 [⟨8, 2, 0, false⟩] ∧ (∀ q, v8.ownBlock = some q → q < V48.heap.size) from ⟨by have := own_lst cE_len hR.1 rfl; rwa [fil8] at this, fun q hq => (hR.1.lt q hq).2⟩); have hb := hR.2; clear hR; replace k1 := k1.keep hb; replace k2 := k2.keep hb; replace k3 := k3.keep hb; replace k4 := k4.keep hb; replace k7 := k7.keep hb; replace HA2 := Lib.hid (And.intro (HA2.out.1.keep hb) (fun q hq => Nat.lt_of_lt_of_le (HA2.out.2 q hq) hb.size)); replace HA3 := Lib.hid (And.intro (HA3.out.1.keep hb) (fun q hq => Nat.lt_of_lt_of_le (HA3.out.2 q hq) hb.size)); replace HB := Lib.hid (below_tr HB.out hb); clear hb)
    | ((with_reducible refine at_slot 52 ?_); refine wl_ld0 rfl rfl rfl k7 Try.underlying24 rfl rw_size ?_)
    | ((with_reducible refine at_slot 53 ?_); refine wl_call rfl rfl Try.func10 (by kernel_rfl) rfl (rg_old 1 5 v6 5 9 (by decide) (by decide) (by decide) _) rfl ?_; intro V53 hb; replace k1 := k1.keep hb; replace k2 := k2.keep hb; replace k3 := k3.keep hb; replace k4 := k4.keep hb; replace k7 := k7.keep hb; replace HA2 := Lib.hid (And.intro (HA2.out.1.keep hb) (fun q hq => Nat.lt_of_lt_of_le (HA2.out.2 q hq) hb.size)); replace HA3 := Lib.hid (And.intro (HA3.out.1.keep hb) (fun q hq => Nat.lt_of_lt_of_le (HA3.out.2 q hq) hb.size)); replace HR8 := Lib.hid (And.intro (HR8.out.1.keep hb) (fun q hq => Nat.lt_of_lt_of_le (HR8.out.2 q hq) hb.size)); replace HB := Lib.hid (below_tr HB.out hb); clear hb)
    | ((with_reducible refine at_slot 57 ?_); refine wl_build rfl rfl (rw_bld0 _) rfl ?_)
    | ((with_reducible refine at_slot 58 ?_); refine wl_call rfl rfl Try.func12 (by kernel_rfl) rfl (la_nil 0 0 (.slice none 0 0) _ (Lst.nil _ _ _)) rfl ?_; intro V58 hb; replace k1 := k1.keep hb; replace k2 := k2.keep hb; replace k3 := k3.keep hb; replace k4 := k4.keep hb; replace k7 := k7.keep hb; replace HA2 := Lib.hid (And.intro (HA2.out.1.keep hb) (fun q hq => Nat.lt_of_lt_of_le (HA2.out.2 q hq) hb.size)); replace HA3 := Lib.hid (And.intro (HA3.out.1.keep hb) (fun q hq => Nat.lt_of_lt_of_le (HA3.out.2 q hq) hb.size)); replace HR8 := Lib.hid (And.intro (HR8.out.1.keep hb) (fun q hq => Nat.lt_of_lt_of_le (HR8.out.2 q hq) hb.size)); replace HB := Lib.hid (below_tr HB.out hb); clear hb)
    | ((with_reducible refine at_slot 15 ?_); refine wl_alloc (A := evA zeroEv) rfl rfl ev_zero rfl ?_; intro W_g15 g15 k15 hb hle; have nk1_g15 := Lib.hid (k1.ne_of_le hle); have nk2_g15 := Lib.hid (k2.ne_of_le hle); have nk3_g15 := Lib.hid (k3.ne_of_le hle); have nk4_g15 := Lib.hid (k4.ne_of_le hle); have nk7_g15 := Lib.hid (k7.ne_of_le hle); have qHA2_g15 := Lib.hid (fun q hq => show q ≠ g15 from by have := HA2.out.2 q hq; omega); have qHA3_g15 := Lib.hid (fun q hq => show q ≠ g15 from by have := HA3.out.2 q hq; omega); have qHR8_g15 := Lib.hid (fun q hq => show q ≠ g15 from by have := HR8.out.2 q hq; omega); have HL_g15 := Lib.hid (Nat.le_trans HB.out.size hle); replace k1 := k1.keep hb; replace k2 := k2.keep hb; replace k3 := k3.keep hb; replace k4 := k4.keep hb; replace k7 := k7.keep hb; replace HA2 := Lib.hid (And.intro (HA2.out.1.keep hb) (fun q hq => Nat.lt_of_lt_of_le (HA2.out.2 q hq) hb.size)); replace HA3 := Lib.hid (And.intro (HA3.out.1.keep hb) (fun q hq => Nat.lt_of_lt_of_le (HA3.out.2 q hq) hb.size)); replace HR8 := Lib.hid (And.intro (HR8.out.1.keep hb) (fun q hq => Nat.lt_of_lt_of_le (HR8.out.2 q hq) hb.size)); replace HB := Lib.hid (below_tr HB.out hb); clear hb)
    | ((with_reducible refine at_store 15 ?_); refine wl_st0 (A' := evA zeroEv) rfl rfl rfl rfl k15 rfl evInfo (evA_one _) ?_; intro V_ kn hu; replace k1 := k1.upd hu nk1_g15.out; replace k2 := k2.upd hu nk2_g15.out; replace k3 := k3.upd hu nk3_g15.out; replace k4 := k4.upd hu nk4_g15.out; replace k7 := k7.upd hu nk7_g15.out; replace HA2 := Lib.hid (And.intro (HA2.out.1.chg (Chg.upd (o := none) hu) (fun e => qHA2_g15.out _ e rfl) (by simp)) (fun q hq => Nat.lt_of_lt_of_le (HA2.out.2 q hq) hu.size)); replace HA3 := Lib.hid (And.intro (HA3.out.1.chg (Chg.upd (o := none) hu) (fun e => qHA3_g15.out _ e rfl) (by simp)) (fun q hq => Nat.lt_of_lt_of_le (HA3.out.2 q hq) hu.size)); replace HR8 := Lib.hid (And.intro (HR8.out.1.chg (Chg.upd (o := none) hu) (fun e => qHR8_g15.out _ e rfl) (by simp)) (fun q hq => Nat.lt_of_lt_of_le (HR8.out.2 q hq) hu.size)); replace HB := Lib.hid (upd_below HB.out hu HL_g15.out); clear k15; have k15 := kn; clear kn hu)
    | ((with_reducible refine at_slot 62 ?_); refine wl_ld0 rfl rfl rfl k7 Try.underlying24 rfl rw_size ?_)
    | ((with_reducible refine at_slot 63 ?_); refine wl_call rfl rfl Try.func12 (by kernel_rfl) rfl (la_some 1 5 v6 [⟨8, 2, 0, false⟩, ⟨9, 0, 0, true⟩] 1 ⟨9, 0, 0, true⟩ rfl (by decide) rfl _ HA3.out.1) rfl ?_; intro V63 hb; replace k1 := k1.keep hb; replace k2 := k2.keep hb; replace k3 := k3.keep hb; replace k4 := k4.keep hb; replace k7 := k7.keep hb; replace HA2 := Lib.hid (And.intro (HA2.out.1.keep hb) (fun q hq => Nat.lt_of_lt_of_le (HA2.out.2 q hq) hb.size)); replace HA3 := Lib.hid (And.intro (HA3.out.1.keep hb) (fun q hq => Nat.lt_of_lt_of_le (HA3.out.2 q hq) hb.size)); replace HR8 := Lib.hid (And.intro (HR8.out.1.keep hb) (fun q hq => Nat.lt_of_lt_of_le (HR8.out.2 q hq) hb.size)); replace HB := Lib.hid (below_tr HB.out hb); clear hb)
    | ((with_reducible refine at_slot 17 ?_); refine wl_alloc (A := evA zeroEv) rfl rfl ev_zero rfl ?_; intro W_g17 g17 k17 hb hle; have nk1_g17 := Lib.hid (k1.ne_of_le hle); have nk2_g17 := Lib.hid (k2.ne_of_le hle); have nk3_g17 := Lib.hid (k3.ne_of_le hle); have nk4_g17 := Lib.hid (k4.ne_of_le hle); have nk7_g17 := Lib.hid (k7.ne_of_le hle); have qHA2_g17 := Lib.hid (fun q hq => show q ≠ g17 from by have := HA2.out.2 q hq; omega); have qHA3_g17 := Lib.hid (fun q hq => show q ≠ g17 from by have := HA3.out.2 q hq; omega); have qHR8_g17 := Lib.hid (fun q hq => show q ≠ g17 from by have := HR8.out.2 q hq; omega); have HL_g17 := Lib.hid (Nat.le_trans HB.out.size hle); replace k1 := k1.keep hb; replace k2 := k2.keep hb; replace k3 := k3.keep hb; replace k4 := k4.keep hb; replace k7 := k7.keep hb; replace HA2 := Lib.hid (And.intro (HA2.out.1.keep hb) (fun q hq => Nat.lt_of_lt_of_le (HA2.out.2 q hq) hb.size)); replace HA3 := Lib.hid (And.intro (HA3.out.1.keep hb) (fun q hq => Nat.lt_of_lt_of_le (HA3.out.2 q hq) hb.size)); replace HR8 := Lib.hid (And.intro (HR8.out.1.keep hb) (fun q hq => Nat.lt_of_lt_of_le (HR8.out.2 q hq) hb.size)); replace HB := Lib.hid (below_tr HB.out hb); clear hb)
    | ((with_reducible refine at_store 17 ?_); refine wl_st0 (A' := evA ⟨9, 0, 0, true⟩) rfl rfl rfl rfl k17 rfl evInfo (evA_one _) ?_; intro V_ kn hu; replace k1 := k1.upd hu nk1_g17.out; replace k2 := k2.upd hu nk2_g17.out; replace k3 := k3.upd hu nk3_g17.out; replace k4 := k4.upd hu nk4_g17.out; replace k7 := k7.upd hu nk7_g17.out; replace HA2 := Lib.hid (And.intro (HA2.out.1.chg (Chg.upd (o := none) hu) (fun e => qHA2_g17.out _ e rfl) (by simp)) (fun q hq => Nat.lt_of_lt_of_le (HA2.out.2 q hq) hu.size)); replace HA3 := Lib.hid (And.intro (HA3.out.1.chg (Chg.upd (o := none) hu) (fun e => qHA3_g17.out _ e rfl) (by simp)) (fun q hq => Nat.lt_of_lt_of_le (HA3.out.2 q hq) hu.size)); replace HR8 := Lib.hid (And.intro (HR8.out.1.chg (Chg.upd (o := none) hu) (fun e => qHR8_g17.out _ e rfl) (by simp)) (fun q hq => Nat.lt_of_lt_of_le (HR8.out.2 q hq) hu.size)); replace HB := Lib.hid (upd_below HB.out hu HL_g17.out); clear k17; have k17 := kn; clear kn hu))
  dsimp only [List.append]
  go_wp2_with (first
    | ((with_reducible refine at_slot 73 ?_); refine wl_ld0 rfl rfl rfl k7 Try.underlying24 rfl rw_size ?_)
    | ((with_reducible refine at_slot 74 ?_); refine wl_ld0 rfl rfl rfl k2 Try.underlying27 rfl evInfo ?_)
    | ((with_reducible refine at_slot 75 ?_); refine wl_ld0 rfl rfl rfl k3 Try.underlying27 rfl evInfo ?_)
    | ((with_reducible refine at_slot 76 ?_); refine wl_bslice (A := (fl cE [⟨8, 2, 0, false⟩, ⟨9, 0, 0, true⟩]).toArray) rfl rfl (bs2_e _ _ _) rfl ?_; intro W_gs gs kb hb hle; have Hgs := Lib.hid (lst_of_blk (n := 2) kb rfl (by decide)); replace k1 := k1.keep hb; replace k2 := k2.keep hb; replace k3 := k3.keep hb; replace k4 := k4.keep hb; replace k7 := k7.keep hb; replace k17 := k17.keep hb; replace HA2 := Lib.hid (And.intro (HA2.out.1.keep hb) (fun q hq => Nat.lt_of_lt_of_le (HA2.out.2 q hq) hb.size)); replace HA3 := Lib.hid (And.intro (HA3.out.1.keep hb) (fun q hq => Nat.lt_of_lt_of_le (HA3.out.2 q hq) hb.size)); replace HR8 := Lib.hid (And.intro (HR8.out.1.keep hb) (fun q hq => Nat.lt_of_lt_of_le (HR8.out.2 q hq) hb.size)); replace HB := Lib.hid (below_tr HB.out hb); clear hb kb)
    | ((with_reducible refine at_slot 77 ?_); refine wl_build rfl rfl (rw_bld3 1 5 _ ⟨_, _, _, rfl⟩ _) rfl ?_)
    | ((with_reducible refine at_slot 78 ?_); refine wl_call rfl rfl Try.func16 (by kernel_rfl) rfl (ss_yes 1 5 v6 _ [⟨8, 2, 0, false⟩, ⟨9, 0, 0, true⟩] (by simp) _ HA3.out.1 Hgs.out) rfl ?_; intro V78 hb; replace k1 := k1.keep hb; replace k2 := k2.keep hb; replace k3 := k3.keep hb; replace k4 := k4.keep hb; replace k7 := k7.keep hb; replace k17 := k17.keep hb; replace HA2 := Lib.hid (And.intro (HA2.out.1.keep hb) (fun q hq => Nat.lt_of_lt_of_le (HA2.out.2 q hq) hb.size)); replace HA3 := Lib.hid (And.intro (HA3.out.1.keep hb) (fun q hq => Nat.lt_of_lt_of_le (HA3.out.2 q hq) hb.size)); replace HR8 := Lib.hid (And.intro (HR8.out.1.keep hb) (fun q hq => Nat.lt_of_lt_of_le (HR8.out.2 q hq) hb.size)); replace HB := Lib.hid (below_tr HB.out hb); clear hb)
    | ((with_reducible refine at_slot 90 ?_); refine wl_ld0 rfl rfl rfl k2 Try.underlying27 rfl evInfo ?_)
    | ((with_reducible refine at_slot 91 ?_); refine wl_bslice (A := (fl cE [⟨8, 2, 0, false⟩]).toArray) rfl rfl (bs1_e _ _) rfl ?_; intro W_gt gt kb hb hle; have Hgt := Lib.hid (lst_of_blk (n := 1) kb rfl (by decide)); replace k1 := k1.keep hb; replace k2 := k2.keep hb; replace k3 := k3.keep hb; replace k4 := k4.keep hb; replace k7 := k7.keep hb; replace k17 := k17.keep hb; replace HA2 := Lib.hid (And.intro (HA2.out.1.keep hb) (fun q hq => Nat.lt_of_lt_of_le (HA2.out.2 q hq) hb.size)); replace HA3 := Lib.hid (And.intro (HA3.out.1.keep hb) (fun q hq => Nat.lt_of_lt_of_le (HA3.out.2 q hq) hb.size)); replace HR8 := Lib.hid (And.intro (HR8.out.1.keep hb) (fun q hq => Nat.lt_of_lt_of_le (HR8.out.2 q hq) hb.size)); replace HB := Lib.hid (below_tr HB.out hb); clear hb kb)
    | ((with_reducible refine at_slot 92 ?_); refine wl_call rfl rfl Try.func17 (by kernel_rfl) rfl (sl_yes v8 _ [⟨8, 2, 0, false⟩] (by simp) _ HR8.out.1 Hgt.out) rfl ?_; intro V92 hb; replace k1 := k1.keep hb; replace k2 := k2.keep hb; replace k3 := k3.keep hb; replace k4 := k4.keep hb; replace k7 := k7.keep hb; replace k17 := k17.keep hb; replace HA2 := Lib.hid (And.intro (HA2.out.1.keep hb) (fun q hq => Nat.lt_of_lt_of_le (HA2.out.2 q hq) hb.size)); replace HA3 := Lib.hid (And.intro (HA3.out.1.keep hb) (fun q hq => Nat.lt_of_lt_of_le (HA3.out.2 q hq) hb.size)); replace HR8 := Lib.hid (And.intro (HR8.out.1.keep hb) (fun q hq => Nat.lt_of_lt_of_le (HR8.out.2 q hq) hb.size)); replace HB := Lib.hid (below_tr HB.out hb); clear hb)
    | ((with_reducible refine at_slot 107 ?_); refine wl_ld0 rfl rfl rfl k17 Try.underlying27 rfl evInfo ?_)
    | ((with_reducible refine at_slot 108 ?_); refine wl_ld0 rfl rfl rfl k3 Try.underlying27 rfl evInfo ?_)
    | ((with_reducible refine at_slot 109 ?_); refine wl_bin (v := .bool true) rfl rfl (run_eqGuard_agg _ _ _ _ _ _ _ (by kernel_rfl)) (ev_eql_yes rfl _) ?_)
    | ((with_reducible refine at_slot 116 ?_); refine wl_ld0 rfl rfl rfl k7 Try.underlying24 rfl rw_size ?_)
    | ((with_reducible refine at_slot 117 ?_); refine wl_call rfl rfl Try.func14 (by kernel_rfl) rfl (ck_ok3 v6 _ HA3.out.1) rfl ?_; intro V117 hb; replace k1 := k1.keep hb; replace k2 := k2.keep hb; replace k3 := k3.keep hb; replace k4 := k4.keep hb; replace k7 := k7.keep hb; replace k17 := k17.keep hb; replace HA2 := Lib.hid (And.intro (HA2.out.1.keep hb) (fun q hq => Nat.lt_of_lt_of_le (HA2.out.2 q hq) hb.size)); replace HA3 := Lib.hid (And.intro (HA3.out.1.keep hb) (fun q hq => Nat.lt_of_lt_of_le (HA3.out.2 q hq) hb.size)); replace HR8 := Lib.hid (And.intro (HR8.out.1.keep hb) (fun q hq => Nat.lt_of_lt_of_le (HR8.out.2 q hq) hb.size)); replace HB := Lib.hid (below_tr HB.out hb); clear hb)
    | ((with_reducible refine at_slot 121 ?_); refine wl_ld0 rfl rfl rfl k7 Try.underlying24 rfl rw_size ?_)
    | ((with_reducible refine at_slot 122 ?_); refine wl_call rfl rfl Try.func14 (by kernel_rfl) rfl (ck_no3 v6 _ HA3.out.1) rfl ?_; intro V122 hb; replace k1 := k1.keep hb; replace k2 := k2.keep hb; replace k3 := k3.keep hb; replace k4 := k4.keep hb; replace k7 := k7.keep hb; replace k17 := k17.keep hb; replace HA2 := Lib.hid (And.intro (HA2.out.1.keep hb) (fun q hq => Nat.lt_of_lt_of_le (HA2.out.2 q hq) hb.size)); replace HA3 := Lib.hid (And.intro (HA3.out.1.keep hb) (fun q hq => Nat.lt_of_lt_of_le (HA3.out.2 q hq) hb.size)); replace HR8 := Lib.hid (And.intro (HR8.out.1.keep hb) (fun q hq => Nat.lt_of_lt_of_le (HR8.out.2 q hq) hb.size)); replace HB := Lib.hid (below_tr HB.out hb); clear hb)
    | ((with_reducible refine at_slot 126 ?_); refine wl_ld0 rfl rfl rfl k7 Try.underlying24 rfl rw_size ?_)
    | ((with_reducible refine at_slot 127 ?_); refine wl_ld0 rfl rfl rfl k7 Try.underlying24 rfl rw_size ?_)
    | ((with_reducible refine at_slot 128 ?_); refine wl_call rfl rfl Try.func18 (by kernel_rfl) rfl (rs_yes 1 5 v6 v6 [⟨8, 2, 0, false⟩, ⟨9, 0, 0, true⟩] (by simp) _ HA3.out.1 HA3.out.1) rfl ?_; intro V128 hb; replace k1 := k1.keep hb; replace k2 := k2.keep hb; replace k3 := k3.keep hb; replace k4 := k4.keep hb; replace k7 := k7.keep hb; replace k17 := k17.keep hb; replace HA2 := Lib.hid (And.intro (HA2.out.1.keep hb) (fun q hq => Nat.lt_of_lt_of_le (HA2.out.2 q hq) hb.size)); replace HA3 := Lib.hid (And.intro (HA3.out.1.keep hb) (fun q hq => Nat.lt_of_lt_of_le (HA3.out.2 q hq) hb.size)); replace HR8 := Lib.hid (And.intro (HR8.out.1.keep hb) (fun q hq => Nat.lt_of_lt_of_le (HR8.out.2 q hq) hb.size)); replace HB := Lib.hid (below_tr HB.out hb); clear hb)
    | ((with_reducible refine at_slot 131 ?_); refine wl_ld0 rfl rfl rfl k4 Try.underlying24 rfl rw_size ?_)
    | ((with_reducible refine at_slot 132 ?_); refine wl_ld0 rfl rfl rfl k7 Try.underlying24 rfl rw_size ?_)
    | ((with_reducible refine at_slot 133 ?_); refine wl_call rfl rfl Try.func18 (by kernel_rfl) rfl (rs_no 0 1 0 5 v5 v6 rfl _) rfl ?_; intro V133 hb; replace k1 := k1.keep hb; replace k2 := k2.keep hb; replace k3 := k3.keep hb; replace k4 := k4.keep hb; replace k7 := k7.keep hb; replace k17 := k17.keep hb; replace HA2 := Lib.hid (And.intro (HA2.out.1.keep hb) (fun q hq => Nat.lt_of_lt_of_le (HA2.out.2 q hq) hb.size)); replace HA3 := Lib.hid (And.intro (HA3.out.1.keep hb) (fun q hq => Nat.lt_of_lt_of_le (HA3.out.2 q hq) hb.size)); replace HR8 := Lib.hid (And.intro (HR8.out.1.keep hb) (fun q hq => Nat.lt_of_lt_of_le (HR8.out.2 q hq) hb.size)); replace HB := Lib.hid (below_tr HB.out hb); clear hb))
  go_ret
  exact ⟨rfl, HB.out⟩
end Go.Proofs.Ytohkioakipjanaa
