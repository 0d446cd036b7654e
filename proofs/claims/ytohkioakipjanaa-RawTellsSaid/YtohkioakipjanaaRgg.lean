/-
  WALKS: a ring of events: At, All.
-/
import Derived.Test.YtohkioakipjanaaRgf
namespace Go.Proofs.Ytohkioakipjanaa
open Go Go.RowKit

set_option maxHeartbeats 4000000 in
set_option maxRecDepth 100000 in
theorem e_at_yes {g room : Nat} {o : Option Nat} {L : List Ev} {lost : Int} {w : World} (h : RgI 64 27 4 cE w g o room L lost) (hr : room ≤ 65536) (i : Nat) (hi : i < L.length) :
    Calls Try.prog 22 #[.pointer (some ⟨g, 0, none⟩), .int .i64 i] w fun e w' => e = .returned (.tuple #[.agg (evA L[i]), .bool true]) ∧ Below w.heap.size w w' := by
  have HH := Lib.hid h
  have HLN := Lib.hid (fun W (hb : Below w.heap.size w W) => e_len (h.keep hb))
  obtain ⟨hle, hr0⟩ := h.le
  have hgx : L[i]? = some L[i] := List.getElem?_eq_getElem hi
  generalize L[i] = x at hgx ⊢
  have HX := Lib.hid hgx
  have HGL := Lib.hid h.lt
  have HOL := Lib.hid h.o_lt
  clear h hgx
  go_enter Try.func22, Try.ntmps22
  go_upto_region 4 with (first
    | ((with_reducible refine at_slot 4 ?_); refine wl_alloc (A := evA zeroEv) rfl rfl ev_zero rfl ?_; intro W1 gr kr hb hle1; have HB := Lib.hid hb; clear hb)
    | ((with_reducible refine at_slot 12 ?_); refine wl_call rfl rfl Try.func23 (by kernel_rfl) rfl (HLN.out _ HB.out) rfl ?_; intro V1 hb1; replace kr := kr.keep hb1; replace HB := Lib.hid (below_tr HB.out hb1); clear hb1))
  obtain ⟨v, first, s, kB, hown, ho, hne, hIs⟩ := (HH.out.keep HB.out).flat
  have hfi : first < room := hIs.first
  have hsl : s.length ≤ room := hIs.sl
  obtain ⟨p, hpd⟩ : ∃ p, p = St.place ⟨room, first, L.length, s, lost⟩ i := ⟨_, rfl⟩
  have hpl := hIs.place_lt (i := i) hi
  have hpx := hIs.get i hi
  have HPC := e_place (t := ⟨room, first, L.length, s, lost⟩) (RgA.drew ⟨kB, hown, by rw [ho]; exact hne⟩) hr0 hr hfi i (by omega)
  simp only [← hpd] at hpl hpx HPC
  rw [HX.out] at hpx
  rcases own_v hown with ⟨_, h0'⟩ | ⟨q, cap, rfl, hcap⟩
  · omega
  have kx : World.rangeAt _ q (p * 4) (evA x).toList := own_range cE_len hown (q := q) rfl hpx
  have hqlt := (hown.lt q rfl).2
  have hmx : s.length ≤ 9223372036854775807 := by omega
  have hrg : g ≠ gr := by have := HGL.out; omega
  have hrq : q ≠ gr := by have := HOL.out q ho.symm; omega
  clear HLN HH hIs hpx hpd
  refine wp_region_held_drew (S := fun w' => Blk w' g 64 #[.slice (some ⟨q, 0, none⟩) s.length cap, .int .i64 room, .int .i64 first, .int .i64 L.length, .int .u64 lost] ∧ w'.rangeAt q (p * 4) (evA x).toList) (by kernel_rfl) ⟨kB.drew, range_keep kx rfl⟩ (fun hS => ?_)
  refine wpAnyH_take (i := 0) (oi := ⟨some 16, _, _, _, _, _⟩) (v := .pointer (some ⟨g, 0, none⟩)) rfl (by kernel_rfl) (by kernel_rfl) (by kernel_rfl) (fun _ _ _ h => h) (yi_mv (Or.inl rfl) rfl rfl) hS ?_
  simp only [Act.put, List.setIfInBounds_toArray, List.set_cons_zero, List.set_cons_succ]
  refine wpAnyH_take (i := 1) (oi := ⟨some 17, _, _, _, _, _⟩) (v := .pointer (some ⟨g, 0, none⟩)) rfl (by kernel_rfl) (by kernel_rfl) (by kernel_rfl) (fun _ _ _ h => h) (yi_ok rfl (fun _ => by go_simp)) hS ?_
  simp only [Act.put, List.setIfInBounds_toArray, List.set_cons_zero, List.set_cons_succ]
  refine wpAnyH_take (i := 2) (oi := ⟨some 18, _, _, _, _, _⟩) (v := .pointer (some ⟨g, 0, none⟩)) rfl (by kernel_rfl) (by kernel_rfl) (by kernel_rfl) (fun _ _ _ h => h) (yi_ok rfl (fun _ => by go_simp)) hS ?_
  simp only [Act.put, List.setIfInBounds_toArray, List.set_cons_zero, List.set_cons_succ]
  refine wpAnyH_take (i := 3) (oi := ⟨some 19, _, _, _, _, _⟩) (v := .slice (some ⟨q, 0, none⟩) s.length cap) rfl (by kernel_rfl) (by kernel_rfl) (by kernel_rfl) (fun _ _ _ h => h) (yi_ld1 (v := .slice (some ⟨q, 0, none⟩) s.length cap) rfl rfl rfl (fun w' h => h.1) Try.underlying22 rfl rfl) hS ?_
  simp only [Act.put, List.setIfInBounds_toArray, List.set_cons_zero, List.set_cons_succ]
  refine wpAnyH_take (i := 4) (oi := ⟨some 20, _, _, _, _, _⟩) (v := .pointer (some ⟨g, 0, none⟩)) rfl (by kernel_rfl) (by kernel_rfl) (by kernel_rfl) (fun _ _ _ h => h) (yi_mv (Or.inl rfl) rfl rfl) hS ?_
  simp only [Act.put, List.setIfInBounds_toArray, List.set_cons_zero, List.set_cons_succ]
  refine wpAnyH_take (i := 5) (oi := ⟨some 21, _, _, _, _, _⟩) (v := .int .i64 i) rfl (by kernel_rfl) (by kernel_rfl) (by kernel_rfl) (fun _ _ _ h => h) (yi_mv (Or.inl rfl) rfl rfl) hS ?_
  simp only [Act.put, List.setIfInBounds_toArray, List.set_cons_zero, List.set_cons_succ]
  refine anyH_call (i := 6) (op := ⟨some 22, _, _, _, _, _⟩) (by kernel_rfl) rfl rfl rfl Try.func38 (by kernel_rfl) rfl HPC rfl (fun w' hb => ⟨hS.1.keep hb, range_keep hS.2 (hb.block q hqlt)⟩) (fun w' hb hS2 => ?_)
  simp only [Act.put, List.setIfInBounds_toArray, List.set_cons_zero, List.set_cons_succ]
  replace HB := Lib.hid (below_tr (show Below _ _ _ from HB.out.drew) hb)
  replace kr := kr.drew.keep hb
  have hqlt2 := Nat.lt_of_lt_of_le hqlt hb.size
  replace hS := hS2
  clear hS2 hb HPC kB hown kx
  refine wpAnyH_take (i := 7) (oi := ⟨some 23, _, _, _, _, _⟩) (v := .pointer (some ⟨q, p * 4, none⟩)) rfl (by kernel_rfl) (by kernel_rfl) (by kernel_rfl) (fun _ _ _ h => h) (yi_ix rfl rfl rfl rfl Try.underlying22 rfl hpl hmx) hS ?_
  simp only [Act.put, List.setIfInBounds_toArray, List.set_cons_zero, List.set_cons_succ]
  refine wpAnyH_take (i := 8) (oi := ⟨some 24, _, _, _, _, _⟩) (v := .agg (evA x)) rfl (by kernel_rfl) (by kernel_rfl) (by kernel_rfl) (fun _ _ _ h => h) (yi_ldr (B := evA x) rfl rfl rfl (fun w' h => h.2) Try.underlying27 rfl evInfo) hS ?_
  simp only [Act.put, List.setIfInBounds_toArray, List.set_cons_zero, List.set_cons_succ]
  refine anyH_one (i := 9) (by kernel_rfl) rfl (fun K' hK => ?_)
  refine wq_st (k := 4) (v := .agg (evA x)) rfl rfl rfl rfl kr rfl rfl (evA_one _) (by show 0 + 4 ≤ 4; omega) ?_
  intro W6 B kr6 hs1 hb1 hb2 hu
  refine hK _ _ ⟨hS.1.upd hu hrg, range_keep hS.2 (hu.block q hqlt2 hrq)⟩ (fun hS2 => ?_)
  have hBe : B = evA x := blk_whole (n := 4) rfl hs1 hb2
  subst hBe
  replace HB := Lib.hid (upd_below HB.out hu hle1)
  clear hK hS hs1 hb1 hb2 hu kr
  have hS := hS2
  clear hS2
  refine wpAnyH_take (i := 10) (oi := ⟨some 5, _, _, _, _, _⟩) (v := .bool true) rfl (by kernel_rfl) (by kernel_rfl) (by kernel_rfl) (fun _ _ _ h => h) (yi_mv (Or.inr rfl) rfl rfl) hS ?_
  simp only [Act.put, List.setIfInBounds_toArray]
  refine wpAnyH_done (by kernel_rfl) ?_ _
  clear hS
  go_wp2_with fail
  refine bodyPost_ret (v := .tuple #[.agg (evA x), .bool true]) (results_ct Try.results22 _ rfl rfl kr6 Try.underlying27 rfl evInfo) rfl ?_
  exact ⟨rfl, HB.out⟩
set_option maxHeartbeats 4000000 in
set_option maxRecDepth 100000 in
theorem e_at_no {g room : Nat} {o : Option Nat} {L : List Ev} {lost : Int} {w : World} (h : RgI 64 27 4 cE w g o room L lost) (i : Int) (hi : i < 0 ∨ L.length ≤ i) (h0 : -9223372036854775808 ≤ i) (h1 : i ≤ 9223372036854775807) :
    Calls Try.prog 22 #[.pointer (some ⟨g, 0, none⟩), .int .i64 i] w fun e w' => e = .returned (.tuple #[.agg (evA zeroEv), .bool false]) ∧ Below w.heap.size w w' := by
  have HLN := Lib.hid (fun W (hb : Below w.heap.size w W) => e_len (h.keep hb))
  clear h
  by_cases hn : i < 0
  · clear hi HLN
    go_enter Try.func22, Try.ntmps22
    go_wp2_with (first
      | ((with_reducible refine at_slot 4 ?_); refine wl_alloc (A := evA zeroEv) rfl rfl ev_zero rfl ?_; intro W1 gr kr hb hle1; have HB := Lib.hid hb; clear hb)
      | ((with_reducible refine at_slot 6 ?_); refine wl_alloc (A := evA zeroEv) rfl rfl ev_zero rfl ?_; intro W2 gn kn hb hle2; have hne := kr.ne_of_le hle2; replace kr := kr.keep hb; replace HB := Lib.hid (below_tr HB.out hb); clear hb)
      | ((with_reducible refine at_slot 15 ?_); refine wl_ld0 rfl rfl rfl kn Try.underlying27 rfl evInfo ?_)
      | ((with_reducible refine at_store 4 ?_); refine wl_st0 (A' := evA zeroEv) rfl rfl rfl rfl kr rfl evInfo (evA_one _) ?_; intro V9 kr9 hu; replace HB := Lib.hid (upd_below HB.out hu hle1); clear hu))
    refine bodyPost_ret (v := .tuple #[.agg (evA zeroEv), .bool false]) (results_ct Try.results22 _ rfl rfl kr9 Try.underlying27 rfl evInfo) rfl ?_
    exact ⟨rfl, HB.out⟩
  · have hi2 : (L.length : Int) ≤ i := by omega
    clear hi
    go_enter Try.func22, Try.ntmps22
    go_wp2_with (first
      | ((with_reducible refine at_slot 4 ?_); refine wl_alloc (A := evA zeroEv) rfl rfl ev_zero rfl ?_; intro W1 gr kr hb hle1; have HB := Lib.hid hb; clear hb)
      | ((with_reducible refine at_slot 12 ?_); refine wl_call rfl rfl Try.func23 (by kernel_rfl) rfl (HLN.out _ HB.out) rfl ?_; intro V1 hb1; replace kr := kr.keep hb1; replace HB := Lib.hid (below_tr HB.out hb1); clear hb1)
      | ((with_reducible refine at_slot 6 ?_); refine wl_alloc (A := evA zeroEv) rfl rfl ev_zero rfl ?_; intro W2 gn kn hb hle2; replace kr := kr.keep hb; replace HB := Lib.hid (below_tr HB.out hb); clear hb)
      | ((with_reducible refine at_slot 15 ?_); refine wl_ld0 rfl rfl rfl kn Try.underlying27 rfl evInfo ?_)
      | ((with_reducible refine at_store 4 ?_); refine wl_st0 (A' := evA zeroEv) rfl rfl rfl rfl kr rfl evInfo (evA_one _) ?_; intro V9 kr9 hu; replace HB := Lib.hid (upd_below HB.out hu hle1); clear hu))
    refine bodyPost_ret (v := .tuple #[.agg (evA zeroEv), .bool false]) (results_ct Try.results22 _ rfl rfl kr9 Try.underlying27 rfl evInfo) rfl ?_
    exact ⟨rfl, HB.out⟩
structure AllE (w wr : World) (L : List Ev) (k : Nat) (v : Value) : Prop where
  le : k ≤ L.length
  own : wr.ownsRow w.heap.size 27 4 v k (fl cE (L.take k))
  below : Below w.heap.size w wr
set_option maxHeartbeats 4000000 in
set_option maxRecDepth 100000 in
theorem e_all {g room : Nat} {o : Option Nat} {L : List Ev} {lost : Int} {w : World} (h : RgI 64 27 4 cE w g o room L lost) (hr : room ≤ 65536) :
    Calls Try.prog 24 #[.pointer (some ⟨g, 0, none⟩)] w fun e w' => ∃ v, e = .returned v ∧ w'.ownsRow w.heap.size 27 4 v L.length (fl cE L) ∧ Below w.heap.size w w' := by
  have HH := Lib.hid h
  have HLN := Lib.hid (fun W (hb : Below w.heap.size w W) => e_len (h.keep hb))
  obtain ⟨hle, hr0⟩ := h.le
  obtain ⟨i0, hi, hz, hs, hby⟩ := infoE
  have HI0 := Lib.hid (show _ ∧ _ ∧ _ ∧ _ from ⟨hi, hz, hs, hby⟩)
  have HB := Lib.hid (Below.refl w.heap.size w)
  have hl16 : L.length ≤ 65536 := by omega
  clear h hi hz hs hby
  go_enter Try.func24, Try.ntmps24
  go_wp2_with (first
    | ((with_reducible refine at_slot 6 ?_); refine wl_call rfl rfl Try.func23 (by kernel_rfl) rfl (HLN.out _ HB.out) rfl ?_; intro V1 hb1; replace HB := Lib.hid (below_tr HB.out hb1); clear hb1)
    | (at_make; refine wpList_make_own _ rfl _ _ 22 rfl w.heap.size 27 i0 _ 4 Try.underlying22 HI0.out.1 HI0.out.2.1 HI0.out.2.2.1 .i64 .i64 _ L.length rfl rfl rfl (by rw [HI0.out.2.2.2]; omega) (by unfold maxLen; omega) HB.out.size ?_; intro W2 hown hgrow; replace HB := Lib.hid (HB.out.grown hgrow HB.out.size (fun k hk => by cases hk)); have HO := Lib.hid hown; clear hown hgrow)
    | ((with_reducible refine at_slot 9 ?_); refine wl_call rfl rfl Try.func23 (by kernel_rfl) rfl (HLN.out _ HB.out) rfl ?_; intro V3 hb3; replace HB := Lib.hid (below_tr HB.out hb3); replace HO := Lib.hid (own_keep HO.out hb3); clear hb3))
  have HJ := Lib.hid (AllE.mk (L := L) (k := 0) (Nat.zero_le _) HO.out HB.out)
  clear HO HB HLN
  go_loopw [3, 10] (fun v i wr => ∃ k : Nat, AllE w wr L k v ∧ i = .int .i64 k) (fun _ i _ => L.length - (intOf i).toNat)
  case atStart => exact ⟨0, HJ.out, rfl⟩
  case round =>
    clear HJ
    obtain ⟨k, hJ, rfl⟩ := hrel
    have hk := hJ.le
    have HJ := Lib.hid hJ
    clear hJ
    by_cases hlt : k < L.length
    · obtain ⟨v2, first, s, kB, hown, ho, hne, hIs⟩ := (HH.out.keep HJ.out.below).flat
      have hfi : first < room := hIs.first
      have hsl : s.length ≤ room := hIs.sl
      have hgx : L[k]? = some L[k] := List.getElem?_eq_getElem hlt
      have HTK := Lib.hid (List.take_succ_eq_append_getElem hlt)
      generalize L[k] = x at hgx HTK
      obtain ⟨p, hpd⟩ : ∃ p, p = St.place ⟨room, first, L.length, s, lost⟩ k := ⟨_, rfl⟩
      have hpl := hIs.place_lt (i := k) hlt
      have hpx := hIs.get k hlt
      have HPC := e_place (t := ⟨room, first, L.length, s, lost⟩) (RgA.drew ⟨kB, hown, by rw [ho]; exact hne⟩) hr0 hr hfi k (by omega)
      simp only [← hpd] at hpl hpx HPC
      rw [hgx] at hpx
      rcases own_v hown with ⟨_, h0'⟩ | ⟨q, cap, rfl, hcap⟩
      · omega
      have kx : World.rangeAt _ q (p * 4) (evA x).toList := own_range cE_len hown (q := q) rfl hpx
      have hqlt := (hown.lt q rfl).2
      have hmx : s.length ≤ 9223372036854775807 := by omega
      have hglt : g < w.heap.size := HH.out.lt
      have hqlt0 : q < w.heap.size := HH.out.o_lt q ho.symm
      have hvg : u3.ownBlock ≠ some g := fun e => by have := (HJ.out.own.lt _ e).1; omega
      have hvq : u3.ownBlock ≠ some q := fun e => by have := (HJ.out.own.lt _ e).1; omega
      clear hIs hpx hpd
      go_upto_region 5 with fail
      refine wp_region_held_drew (S := fun w' => Blk w' g 64 #[.slice (some ⟨q, 0, none⟩) s.length cap, .int .i64 room, .int .i64 first, .int .i64 L.length, .int .u64 lost] ∧ w'.rangeAt q (p * 4) (evA x).toList) (by kernel_rfl) ⟨kB.drew, range_keep kx rfl⟩ (fun hS => ?_)
      refine wpAnyH_take (i := 0) (oi := ⟨some 13, _, _, _, _, _⟩) (v := u3) rfl (by kernel_rfl) (by kernel_rfl) (by kernel_rfl) (fun _ _ _ h => h) (yi_mv (Or.inl rfl) rfl rfl) hS ?_
      simp only [Act.put, List.setIfInBounds_toArray, List.set_cons_zero, List.set_cons_succ]
      refine wpAnyH_take (i := 1) (oi := ⟨some 14, _, _, _, _, _⟩) (v := .pointer (some ⟨g, 0, none⟩)) rfl (by kernel_rfl) (by kernel_rfl) (by kernel_rfl) (fun _ _ _ h => h) (yi_mv (Or.inl rfl) rfl rfl) hS ?_
      simp only [Act.put, List.setIfInBounds_toArray, List.set_cons_zero, List.set_cons_succ]
      refine wpAnyH_take (i := 2) (oi := ⟨some 15, _, _, _, _, _⟩) (v := .pointer (some ⟨g, 0, none⟩)) rfl (by kernel_rfl) (by kernel_rfl) (by kernel_rfl) (fun _ _ _ h => h) (yi_ok rfl (fun _ => by go_simp)) hS ?_
      simp only [Act.put, List.setIfInBounds_toArray, List.set_cons_zero, List.set_cons_succ]
      refine wpAnyH_take (i := 3) (oi := ⟨some 16, _, _, _, _, _⟩) (v := .pointer (some ⟨g, 0, none⟩)) rfl (by kernel_rfl) (by kernel_rfl) (by kernel_rfl) (fun _ _ _ h => h) (yi_ok rfl (fun _ => by go_simp)) hS ?_
      simp only [Act.put, List.setIfInBounds_toArray, List.set_cons_zero, List.set_cons_succ]
      refine wpAnyH_take (i := 4) (oi := ⟨some 17, _, _, _, _, _⟩) (v := .slice (some ⟨q, 0, none⟩) s.length cap) rfl (by kernel_rfl) (by kernel_rfl) (by kernel_rfl) (fun _ _ _ h => h) (yi_ld1 (v := .slice (some ⟨q, 0, none⟩) s.length cap) rfl rfl rfl (fun w' h => h.1) Try.underlying22 rfl rfl) hS ?_
      simp only [Act.put, List.setIfInBounds_toArray, List.set_cons_zero, List.set_cons_succ]
      refine wpAnyH_take (i := 5) (oi := ⟨some 18, _, _, _, _, _⟩) (v := .pointer (some ⟨g, 0, none⟩)) rfl (by kernel_rfl) (by kernel_rfl) (by kernel_rfl) (fun _ _ _ h => h) (yi_mv (Or.inl rfl) rfl rfl) hS ?_
      simp only [Act.put, List.setIfInBounds_toArray, List.set_cons_zero, List.set_cons_succ]
      refine wpAnyH_take (i := 6) (oi := ⟨some 19, _, _, _, _, _⟩) (v := .int .i64 k) rfl (by kernel_rfl) (by kernel_rfl) (by kernel_rfl) (fun _ _ _ h => h) (yi_mv (Or.inl rfl) rfl rfl) hS ?_
      simp only [Act.put, List.setIfInBounds_toArray, List.set_cons_zero, List.set_cons_succ]
      refine anyH_call (i := 7) (op := ⟨some 20, _, _, _, _, _⟩) (by kernel_rfl) rfl rfl rfl Try.func38 (by kernel_rfl) rfl HPC rfl (fun w' hb => ⟨hS.1.keep hb, range_keep hS.2 (hb.block q hqlt)⟩) (fun w' hb hS2 => ?_)
      simp only [Act.put, List.setIfInBounds_toArray]
      have HB2 : Hid (Below w.heap.size w w') := Lib.hid (below_tr HJ.out.below (show Below _ _ _ from ⟨hb.os, hb.tape, hb.output, hb.size, hb.block⟩))
      have HO2 := Lib.hid (own_keep (w' := w') HJ.out.own ⟨hb.os, hb.tape, hb.output, hb.size, hb.block⟩)
      have hqlt2 := Nat.lt_of_lt_of_le hqlt hb.size
      replace hS := hS2
      clear hS2 hb HPC kB hown kx
      refine wpAnyH_take (i := 8) (oi := ⟨some 21, _, _, _, _, _⟩) (v := .pointer (some ⟨q, p * 4, none⟩)) rfl (by kernel_rfl) (by kernel_rfl) (by kernel_rfl) (fun _ _ _ h => h) (yi_ix rfl rfl rfl rfl Try.underlying22 rfl hpl hmx) hS ?_
      simp only [Act.put, List.setIfInBounds_toArray, List.set_cons_zero, List.set_cons_succ]
      refine wpAnyH_take (i := 9) (oi := ⟨some 22, _, _, _, _, _⟩) (v := .agg (evA x)) rfl (by kernel_rfl) (by kernel_rfl) (by kernel_rfl) (fun _ _ _ h => h) (yi_ldr (B := evA x) rfl rfl rfl (fun w' h => h.2) Try.underlying27 rfl evInfo) hS ?_
      simp only [Act.put, List.setIfInBounds_toArray, List.set_cons_zero, List.set_cons_succ]
      refine anyH_one (i := 10) (by kernel_rfl) rfl (fun K' hK => ?_)
      have hba := (Below.refl w'.heap.size w').alloc (Nat.le_refl _) (.cells (evA x) 27)
      have kb := Blk.new w' 27 (evA x)
      refine wq_bslice rfl rfl (e_bs x _) rfl (hK _ _ ⟨hS.1.alloc _, range_keep hS.2 (hba.block q hqlt2)⟩ (fun hS3 => ?_))
      simp only [Act.put]
      have HB3 := Lib.hid (below_tr HB2.out hba)
      have HO3 := Lib.hid (own_keep HO2.out hba)
      have hqlt3 := Nat.lt_of_lt_of_le hqlt2 hba.size
      clear hK hba HB2 HO2 hS
      obtain ⟨gb, hgbd⟩ : ∃ gb, gb = w'.heap.size := ⟨_, rfl⟩
      rw [← hgbd] at kb ⊢
      clear hgbd
      generalize w'.alloc (.cells (evA x) 27) = W3 at *
      refine anyH_one (i := 11) (by kernel_rfl) rfl (fun K' hK => ?_)
      refine step_append_lies _ rfl _ _ 22 rfl w.heap.size 27 i0 _ 4 32 Try.underlying22 HI0.out.1 HI0.out.2.1 HI0.out.2.2.1 HI0.out.2.2.2 rfl (by decide) u3 k (fl cE (L.take k)) rfl HO3.out ⟨gb, 0, none⟩ 1 1 (cE x) rfl rfl (World.news_of_block (cs := evA x) kb) (cE_one x) (by omega) (by unfold maxLen; omega) (by omega) HB3.out.size _ rfl ?_
      intro g2 cap2 W4 hown2 hgrow hat hlt4
      refine hK _ _ ⟨Blk.keep_chg hS3.1 hgrow hvg, range_keep hS3.2 (hgrow.block q hqlt3 (fun e => hvq e.symm))⟩ (fun hS => ?_)
      simp only [Act.put]
      have HN : Hid (AllE w W4 L (k + 1) (.slice (some ⟨g2, 0, none⟩) (k + 1) cap2)) := Lib.hid ⟨hlt, by rw [HTK.out, fl_append, fl_one]; exact hown2, HB3.out.grown hgrow HB3.out.size (fun q' hq' => (HO3.out.lt q' hq').1)⟩
      clear hK hS3 kb hown2 hgrow hat HO3 HB3
      refine wpAnyH_take (i := 12) (oi := ⟨some 3, _, _, _, _, _⟩) (v := .slice (some ⟨g2, 0, none⟩) (k + 1) cap2) rfl (by kernel_rfl) (by kernel_rfl) (by kernel_rfl) (fun _ _ _ h => h) (yi_mv (Or.inr rfl) rfl rfl) hS ?_
      simp only [Act.put, List.setIfInBounds_toArray]
      refine wpAnyH_done (by kernel_rfl) ?_ _
      clear hS
      go_wp2_with fail
      go_roundw
      case rel => exact ⟨k + 1, HN.out, by go_num⟩
      case measure => simp [intOf]; omega
    · obtain rfl : k = L.length := by omega
      go_wp2_with fail
      go_ret
      have ho := HJ.out.own
      rw [List.take_length] at ho
      exact ⟨_, rfl, ho, HJ.out.below⟩
end Go.Proofs.Ytohkioakipjanaa
