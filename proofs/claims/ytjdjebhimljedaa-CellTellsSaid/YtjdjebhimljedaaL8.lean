/-
  WALKS: plimsolllaw08.lives: the document's answers are given.
-/
import Derived.Test.YtjdjebhimljedaaBs
import Derived.Test.YtjdjebhimljedaaDr
namespace Go.Proofs.Ytjdjebhimljedaa
open Go Go.RowKit

theorem meC_zero {c : Ce} (h : CeOk c) : meC zeroCe c = c ∧ meE zeroCe c = 0 := by
  have hab : CeOk zeroCe ∧ CeOk c := ⟨zeroOk, h⟩
  unfold meC meE
  rw [if_pos hab, if_pos hab, if_pos rfl, if_pos (show zeroCe = zeroCe ∨ c = zeroCe ∨ zeroCe.l.t < c.f.t from Or.inl rfl)]
  exact ⟨rfl, rfl⟩
theorem meC_zeroR {c : Ce} (h : CeOk c) : meC c zeroCe = c ∧ meE c zeroCe = 0 := by
  have hab : CeOk c ∧ CeOk zeroCe := ⟨h, zeroOk⟩
  unfold meC meE
  rw [if_pos hab, if_pos hab, if_pos (show c = zeroCe ∨ zeroCe = zeroCe ∨ c.l.t < zeroCe.f.t from Or.inr (Or.inl rfl))]
  refine ⟨?_, rfl⟩
  split
  · rename_i e; exact e.symm
  · rw [if_pos rfl]
theorem meC_good {a b : Ce} (ha : CeOk a) (hb : CeOk b) (za : ¬ a = zeroCe) (zb : ¬ b = zeroCe) (ht : a.l.t < b.f.t) : meC a b = mgC a b ∧ meE a b = 0 := by
  have hab : CeOk a ∧ CeOk b := ⟨ha, hb⟩
  unfold meC meE
  rw [if_pos hab, if_pos hab, if_neg za, if_neg zb, if_pos ht, if_pos (show a = zeroCe ∨ b = zeroCe ∨ a.l.t < b.f.t from Or.inr (Or.inr ht))]
  exact ⟨rfl, rfl⟩
theorem meC_time {a b : Ce} (ha : CeOk a) (hb : CeOk b) (za : ¬ a = zeroCe) (zb : ¬ b = zeroCe) (ht : ¬ a.l.t < b.f.t) : meC a b = zeroCe ∧ meE a b = 9 := by
  have hab : CeOk a ∧ CeOk b := ⟨ha, hb⟩
  unfold meC meE
  rw [if_pos hab, if_pos hab, if_neg za, if_neg zb, if_neg ht, if_neg (show ¬ (a = zeroCe ∨ b = zeroCe ∨ a.l.t < b.f.t) from fun h => h.elim za fun h => h.elim zb ht)]
  exact ⟨rfl, rfl⟩
theorem nz_n {c : Ce} (h : c.n ≠ 0) : ¬ c = zeroCe := fun e => h (by rw [e]; rfl)
theorem me_lit {a b : Ce} {k m j : Nat} {n : Int} {f l : Ev} {r g s R G S : Int} (ha : CeOk a) (hb : CeOk b) (na : a.n ≠ 0) (nb : b.n ≠ 0) (ht : a.l.t < b.f.t) (ia : a.i.n = k) (ib : b.i.n = m) (h1 : (btI a.l b.f).toNat = j) (h2 : btR a.l b.f = r) (h3 : btG a.l b.f = g) (h4 : btS a.l b.f = s)
    (hj : j < 340282366920938463463374607431768211456) (hn : a.n + b.n = n) (hf : a.f = f) (hl : b.l = l) (hr : a.r + r + b.r = R) (hg : a.g + g + b.g = G) (hs : a.s + s + b.s = S) : meC a b = ⟨n, f, l, cutU (k + (j + (m + 0))), R, G, S⟩ ∧ meE a b = 0 := by
  obtain ⟨e1, e2⟩ := meC_good ha hb (nz_n na) (nz_n nb) ht
  refine ⟨?_, e2⟩
  rw [e1]
  have hb' := bt_lit h1 h2 h3 h4
  unfold mgC
  rw [hb']
  show Ce.mk (a.n + b.n) a.f b.l (cutU (a.i.n + ((cutU j).n + (b.i.n + 0)))) (a.r + r + b.r) (a.g + g + b.g) (a.s + s + b.s) = _
  rw [cutU_n hj, ia, ib, hn, hf, hl, hr, hg, hs]
theorem dd_ok : EvOk ⟨40, 9, 0, false⟩ := by constructor <;> first | decide | (intro h; cases h)
abbrev qa : Ev := ⟨10, 5, 0, false⟩
abbrev qb : Ev := ⟨30, 3, 0, false⟩
abbrev qd : Ev := ⟨40, 9, 0, false⟩
abbrev qx : Ce := ⟨1, qa, qa, U.zero, 0, 0, 0⟩
abbrev qe : Ce := ⟨2, qa, qb, cutU 3, 1, 0, 20⟩
abbrev qy : Ce := ⟨2, qb, qd, cutU 6, 0, 0, 10⟩
abbrev qc : Ce := ⟨3, qa, qd, cutU 9, 1, 0, 30⟩
theorem z_n : U.zero.n = 0 := rfl
theorem c3_n : (cutU 3).n = 3 := cutU_n (by omega)
theorem c6_n : (cutU 6).n = 6 := cutU_n (by omega)
theorem qx_ok : CeOk qx := oneC_ok.2 ea_ok
theorem qob_ok : CeOk (oneC qb) := oneC_ok.2 eb_ok
theorem qod_ok : CeOk (oneC qd) := oneC_ok.2 dd_ok
theorem me_xb : meC qx (oneC qb) = qe ∧ meE qx (oneC qb) = 0 :=
  me_lit (k := 0) (m := 0) (j := 3) qx_ok qob_ok (by decide) (by decide) (by decide) z_n z_n rfl rfl rfl rfl (by omega) rfl rfl rfl rfl rfl rfl
theorem qe_ok : CeOk qe := by rw [← me_xb.1]; exact meC_ok _ _
theorem me_ed : meC qe (oneC qd) = qc ∧ meE qe (oneC qd) = 0 :=
  me_lit (k := 3) (m := 0) (j := 6) qe_ok qod_ok (by decide) (by decide) (by decide) c3_n z_n rfl rfl rfl rfl (by omega) rfl rfl rfl rfl rfl rfl
theorem qc_ok : CeOk qc := by rw [← me_ed.1]; exact meC_ok _ _
theorem me_bd : meC (oneC qb) (oneC qd) = qy ∧ meE (oneC qb) (oneC qd) = 0 :=
  me_lit (k := 0) (m := 0) (j := 6) qob_ok qod_ok (by decide) (by decide) (by decide) z_n z_n rfl rfl rfl rfl (by omega) rfl rfl rfl rfl rfl rfl
theorem qy_ok : CeOk qy := by rw [← me_bd.1]; exact meC_ok _ _
theorem me_xy : meC qx qy = qc ∧ meE qx qy = 0 :=
  me_lit (k := 0) (m := 6) (j := 3) qx_ok qy_ok (by decide) (by decide) (by decide) z_n c6_n rfl rfl rfl rfl (by omega) rfl rfl rfl rfl rfl rfl
theorem me_yx : meC qy qx = zeroCe ∧ meE qy qx = 9 := meC_time qy_ok qx_ok (nz_n (by decide)) (nz_n (by decide)) (by decide)
theorem me_ba : meC (oneC qb) (oneC qa) = zeroCe ∧ meE (oneC qb) (oneC qa) = 9 := meC_time qob_ok qx_ok (nz_n (by decide)) (nz_n (by decide)) (by decide)
theorem all1 {c : Ce} (h : CeOk c) : allC zeroCe [c] = c ∧ allE zeroCe [c] = 0 := by
  obtain ⟨a1, a2⟩ := meC_zero h
  simp only [allC, allE, a1, a2, if_true, and_self]
theorem all2 {c d x : Ce} {E : Int} (h : CeOk c) (h2 : meC c d = x ∧ meE c d = E) : allC zeroCe [c, d] = (if E = 0 then x else zeroCe) ∧ allE zeroCe [c, d] = E := by
  obtain ⟨a1, a2⟩ := meC_zero h
  obtain ⟨b1, b2⟩ := h2
  simp only [allC, allE, a1, a2, b1, b2, if_true, true_and]
  split
  · rename_i e; exact e.symm
  · rfl
theorem all3 {c d e x y : Ce} (h : CeOk c) (h2 : meC c d = x ∧ meE c d = 0) (h3 : meC x e = y ∧ meE x e = 0) : allC zeroCe [c, d, e] = y ∧ allE zeroCe [c, d, e] = 0 := by
  obtain ⟨a1, a2⟩ := meC_zero h
  obtain ⟨b1, b2⟩ := h2
  obtain ⟨c1, c2⟩ := h3
  simp only [allC, allE, a1, a2, b1, b2, c1, c2, if_true, and_self]
theorem of_lit' {l : List Ev} {C : Ce} {E : Int} {W : World} {g k : Nat} (h : Blk W g 24 (evsA l)) (hk : l.length = k) (hm : k ≤ 100) (hin : ∀ (i : Nat) (h : i < l.length), EvOk l[i]) (ha : allC zeroCe (l.map oneC) = C ∧ allE zeroCe (l.map oneC) = E) :
    Calls Try.prog 16 #[.slice (some ⟨g, 0, none⟩) k k] W fun e w' => e = .returned (.tuple #[.agg (ceA C), .int .i64 E]) ∧ Below W.heap.size W w' := by
  subst hk
  have := of_evs _ g 0 l.length l (by omega) W (evs_blk h (fun i hi => (hin i hi).in))
  rw [(ofC_yes hin).1, (ofC_yes hin).2, ha.1, ha.2] at this
  exact this
theorem all_lit {l : List Ce} {C : Ce} {E : Int} {W : World} {g k : Nat} (h : Blk W g 28 (cesA l)) (hk : l.length = k) (hm : k ≤ 100) (hin : ∀ (i : Nat) (h : i < l.length), CeIn l[i]) (ha : allC zeroCe l = C ∧ allE zeroCe l = E) :
    Calls Try.prog 11 #[.slice (some ⟨g, 0, none⟩) k k] W fun e w' => e = .returned (.tuple #[.agg (ceA C), .int .i64 E]) ∧ Below W.heap.size W w' := by
  subst hk
  have := all_any _ g 0 l.length l (by omega) W (ces_blk h hin)
  rw [ha.1, ha.2] at this
  exact this
theorem qn_no : ¬ CeOk ⟨1, qa, qb, U.zero, 0, 0, 0⟩ := fun h => by
  have he := h.ends (nz_n (by decide))
  have := he.one rfl
  exact absurd (congrArg Ev.t this) (by decide)
theorem qn_in : CeIn ⟨1, qa, qb, U.zero, 0, 0, 0⟩ := ⟨ea_ok.in, eb_ok.in, by decide, by decide, by decide, by decide, by decide, by decide, by decide, by decide⟩

theorem l8_bld_event_0_1 (x0 : Int) (x1 : Int) (w : World) : (Instr.build 24 #[(0, .int .i64 x0), (1, .int .u64 x1)]).run Try.prog w = .ok (.agg (evA ⟨x0, x1, 0, false⟩)) w := by
  unfold evA
  try simp only [zero_hi, zero_lo, zeroEv]
  go_simp
theorem l8_bld_cell_0_1_2_3_4_6 (x0 : Int) (x1 : Ev) (x2 : Ev) (x3 : U) (x4 : Int) (x6 : Int) (w : World) : (Instr.build 28 #[(0, .int .i64 x0), (1, .agg (evA x1)), (2, .agg (evA x2)), (3, .agg (wdA x3)), (4, .int .i64 x4), (6, .int .i64 x6)]).run Try.prog w = .ok (.agg (ceA ⟨x0, x1, x2, x3, x4, 0, x6⟩)) w := by
  unfold ceA evA wdA
  try simp only [zero_hi, zero_lo, zeroEv]
  go_simp
theorem l8_bld_cell_0_1_2 (x0 : Int) (x1 : Ev) (x2 : Ev) (w : World) : (Instr.build 28 #[(0, .int .i64 x0), (1, .agg (evA x1)), (2, .agg (evA x2))]).run Try.prog w = .ok (.agg (ceA ⟨x0, x1, x2, U.zero, 0, 0, 0⟩)) w := by
  unfold ceA evA
  try simp only [zero_hi, zero_lo, zeroEv]
  go_simp
set_option maxHeartbeats 4000000 in
set_option maxRecDepth 100000 in
theorem lives8 (w : World) : Calls Try.prog 6 #[] w fun e w' => e = .returned (.bool true) ∧ Below w.heap.size w w' := by
  have XB : Hid (∀ w, Calls Try.prog 9 #[.agg (ceA qx), .agg (evA qb)] w fun e w' => e = .returned (.tuple #[.agg (ceA qe), .int .i64 0]) ∧ Below w.heap.size w w') := Lib.hid (fun w => by
    have := ad_any qx_ok.in eb_ok.in w
    rwa [me_xb.1, me_xb.2] at this)
  have HB := Lib.hid (Below.refl w.heap.size w)
  go_enter Try.func6, Try.ntmps6
  go_wp2_with (first
      | ((with_reducible refine at_slot 20 ?_); refine wl_build (v := .agg (evA ⟨10, 5, 0, false⟩)) rfl rfl (l8_bld_event_0_1 _ _ _) rfl ?_)
      | ((with_reducible refine at_slot 21 ?_); refine wl_build (v := .agg (evA ⟨30, 3, 0, false⟩)) rfl rfl (l8_bld_event_0_1 _ _ _) rfl ?_)
      | ((with_reducible refine at_slot 22 ?_); refine wl_build (v := .agg (evA ⟨40, 9, 0, false⟩)) rfl rfl (l8_bld_event_0_1 _ _ _) rfl ?_)
      | ((with_reducible refine at_slot 1 ?_); refine wl_alloc (A := (evA zeroEv)) rfl rfl ev_zero rfl ?_; intro W1 g1 k1 hb hle; have L1 := Lib.hid (Nat.le_trans HB.out.size hle); replace HB := Lib.hid (below_tr HB.out hb); clear hb hle)
      | ((with_reducible refine at_slot 2 ?_); refine wl_alloc (A := (evA zeroEv)) rfl rfl ev_zero rfl ?_; intro W2 g2 k2 hb hle; have n1_2 := Lib.hid (Blk.ne_of_le k1 hle); have L2 := Lib.hid (Nat.le_trans HB.out.size hle); replace k1 := k1.keep hb; replace HB := Lib.hid (below_tr HB.out hb); clear hb hle)
      | ((with_reducible refine at_slot 3 ?_); refine wl_alloc (A := (evA zeroEv)) rfl rfl ev_zero rfl ?_; intro W3 g3 k3 hb hle; have n1_3 := Lib.hid (Blk.ne_of_le k1 hle); have n2_3 := Lib.hid (Blk.ne_of_le k2 hle); have L3 := Lib.hid (Nat.le_trans HB.out.size hle); replace k1 := k1.keep hb; replace k2 := k2.keep hb; replace HB := Lib.hid (below_tr HB.out hb); clear hb hle)
      | ((with_reducible refine at_store 1 ?_); refine wl_st0 (A' := (evA ⟨10, 5, 0, false⟩)) rfl rfl rfl rfl k1 rfl evInfo (evA_one ⟨10, 5, 0, false⟩) ?_; intro V1 kn hu; replace k2 := k2.upd hu (Ne.symm n1_2.out); replace k3 := k3.upd hu (Ne.symm n1_3.out); replace HB := Lib.hid (upd_below HB.out hu L1.out); clear k1; have k1 : Blk _ g1 _ (evA ⟨10, 5, 0, false⟩) := kn; clear kn hu)
      | ((with_reducible refine at_store 2 ?_); refine wl_st0 (A' := (evA ⟨30, 3, 0, false⟩)) rfl rfl rfl rfl k2 rfl evInfo (evA_one ⟨30, 3, 0, false⟩) ?_; intro V2 kn hu; replace k1 := k1.upd hu n1_2.out; replace k3 := k3.upd hu (Ne.symm n2_3.out); replace HB := Lib.hid (upd_below HB.out hu L2.out); clear k2; have k2 : Blk _ g2 _ (evA ⟨30, 3, 0, false⟩) := kn; clear kn hu)
      | ((with_reducible refine at_store 3 ?_); refine wl_st0 (A' := (evA ⟨40, 9, 0, false⟩)) rfl rfl rfl rfl k3 rfl evInfo (evA_one ⟨40, 9, 0, false⟩) ?_; intro V3 kn hu; replace k1 := k1.upd hu n1_3.out; replace k2 := k2.upd hu n2_3.out; replace HB := Lib.hid (upd_below HB.out hu L3.out); clear k3; have k3 : Blk _ g3 _ (evA ⟨40, 9, 0, false⟩) := kn; clear kn hu)
      | ((with_reducible refine at_slot 24 ?_); refine wl_ld0 rfl rfl rfl k1 Try.underlying24 rfl evInfo ?_)
      | ((with_reducible refine at_slot 25 ?_); refine wl_ld0 rfl rfl rfl k2 Try.underlying24 rfl evInfo ?_)
      | ((with_reducible refine at_slot 26 ?_); refine wl_ld0 rfl rfl rfl k3 Try.underlying24 rfl evInfo ?_)
      | ((with_reducible refine at_slot 27 ?_); refine wl_bslice (A := (evsA [⟨10, 5, 0, false⟩, ⟨30, 3, 0, false⟩, ⟨40, 9, 0, false⟩])) rfl rfl (bs3_ev _ _ _ _) rfl ?_; intro W4 g4 k4 hb hle; have n1_4 := Lib.hid (Blk.ne_of_le k1 hle); have n2_4 := Lib.hid (Blk.ne_of_le k2 hle); have n3_4 := Lib.hid (Blk.ne_of_le k3 hle); have L4 := Lib.hid (Nat.le_trans HB.out.size hle); replace k1 := k1.keep hb; replace k2 := k2.keep hb; replace k3 := k3.keep hb; replace HB := Lib.hid (below_tr HB.out hb); clear hb hle)
      | ((with_reducible refine at_slot 28 ?_); refine wl_call rfl rfl Try.func16 (by kernel_rfl) rfl (of_lit' (k := 3) k4 rfl (by omega) (in3 ea_ok eb_ok dd_ok) (all3 qx_ok me_xb me_ed)) rfl ?_; intro V4 hb; replace k1 := k1.keep hb; replace k2 := k2.keep hb; replace k3 := k3.keep hb; replace k4 := k4.keep hb; replace HB := Lib.hid (below_tr HB.out hb); clear hb)
      | ((with_reducible refine at_slot 4 ?_); refine wl_alloc (A := (ceA zeroCe)) rfl rfl ce_zero rfl ?_; intro W5 g5 k5 hb hle; have n1_5 := Lib.hid (Blk.ne_of_le k1 hle); have n2_5 := Lib.hid (Blk.ne_of_le k2 hle); have n3_5 := Lib.hid (Blk.ne_of_le k3 hle); have n4_5 := Lib.hid (Blk.ne_of_le k4 hle); have L5 := Lib.hid (Nat.le_trans HB.out.size hle); replace k1 := k1.keep hb; replace k2 := k2.keep hb; replace k3 := k3.keep hb; replace k4 := k4.keep hb; replace HB := Lib.hid (below_tr HB.out hb); clear hb hle)
      | ((with_reducible refine at_store 4 ?_); refine wl_st0 (A' := (ceA ⟨3, ⟨10, 5, 0, false⟩, ⟨40, 9, 0, false⟩, (cutU 9), 1, 0, 30⟩)) rfl rfl rfl rfl k5 rfl ceInfo (ceA_one ⟨3, ⟨10, 5, 0, false⟩, ⟨40, 9, 0, false⟩, (cutU 9), 1, 0, 30⟩) ?_; intro V5 kn hu; replace k1 := k1.upd hu n1_5.out; replace k2 := k2.upd hu n2_5.out; replace k3 := k3.upd hu n3_5.out; replace k4 := k4.upd hu n4_5.out; replace HB := Lib.hid (upd_below HB.out hu L5.out); clear k5; have k5 : Blk _ g5 _ (ceA ⟨3, ⟨10, 5, 0, false⟩, ⟨40, 9, 0, false⟩, (cutU 9), 1, 0, 30⟩) := kn; clear kn hu)
      | ((with_reducible refine at_slot 32 ?_); refine wl_ld0 rfl rfl rfl k1 Try.underlying24 rfl evInfo ?_)
      | ((with_reducible refine at_slot 33 ?_); refine wl_bslice (A := (evsA [⟨10, 5, 0, false⟩])) rfl rfl (bs1_ev _ _) rfl ?_; intro W6 g6 k6 hb hle; have n1_6 := Lib.hid (Blk.ne_of_le k1 hle); have n2_6 := Lib.hid (Blk.ne_of_le k2 hle); have n3_6 := Lib.hid (Blk.ne_of_le k3 hle); have n4_6 := Lib.hid (Blk.ne_of_le k4 hle); have n5_6 := Lib.hid (Blk.ne_of_le k5 hle); have L6 := Lib.hid (Nat.le_trans HB.out.size hle); replace k1 := k1.keep hb; replace k2 := k2.keep hb; replace k3 := k3.keep hb; replace k4 := k4.keep hb; replace k5 := k5.keep hb; replace HB := Lib.hid (below_tr HB.out hb); clear hb hle)
      | ((with_reducible refine at_slot 34 ?_); refine wl_call rfl rfl Try.func16 (by kernel_rfl) rfl (of_lit' (k := 1) k6 rfl (by omega) (in1 (P := EvOk) ea_ok) (all1 qx_ok)) rfl ?_; intro V6 hb; replace k1 := k1.keep hb; replace k2 := k2.keep hb; replace k3 := k3.keep hb; replace k4 := k4.keep hb; replace k5 := k5.keep hb; replace k6 := k6.keep hb; replace HB := Lib.hid (below_tr HB.out hb); clear hb)
      | ((with_reducible refine at_slot 6 ?_); refine wl_alloc (A := (ceA zeroCe)) rfl rfl ce_zero rfl ?_; intro W7 g7 k7 hb hle; have n1_7 := Lib.hid (Blk.ne_of_le k1 hle); have n2_7 := Lib.hid (Blk.ne_of_le k2 hle); have n3_7 := Lib.hid (Blk.ne_of_le k3 hle); have n4_7 := Lib.hid (Blk.ne_of_le k4 hle); have n5_7 := Lib.hid (Blk.ne_of_le k5 hle); have n6_7 := Lib.hid (Blk.ne_of_le k6 hle); have L7 := Lib.hid (Nat.le_trans HB.out.size hle); replace k1 := k1.keep hb; replace k2 := k2.keep hb; replace k3 := k3.keep hb; replace k4 := k4.keep hb; replace k5 := k5.keep hb; replace k6 := k6.keep hb; replace HB := Lib.hid (below_tr HB.out hb); clear hb hle)
      | ((with_reducible refine at_store 6 ?_); refine wl_st0 (A' := (ceA ⟨1, ⟨10, 5, 0, false⟩, ⟨10, 5, 0, false⟩, U.zero, 0, 0, 0⟩)) rfl rfl rfl rfl k7 rfl ceInfo (ceA_one ⟨1, ⟨10, 5, 0, false⟩, ⟨10, 5, 0, false⟩, U.zero, 0, 0, 0⟩) ?_; intro V7 kn hu; replace k1 := k1.upd hu n1_7.out; replace k2 := k2.upd hu n2_7.out; replace k3 := k3.upd hu n3_7.out; replace k4 := k4.upd hu n4_7.out; replace k5 := k5.upd hu n5_7.out; replace k6 := k6.upd hu n6_7.out; replace HB := Lib.hid (upd_below HB.out hu L7.out); clear k7; have k7 : Blk _ g7 _ (ceA ⟨1, ⟨10, 5, 0, false⟩, ⟨10, 5, 0, false⟩, U.zero, 0, 0, 0⟩) := kn; clear kn hu)
      | ((with_reducible refine at_slot 38 ?_); refine wl_ld0 rfl rfl rfl k2 Try.underlying24 rfl evInfo ?_)
      | ((with_reducible refine at_slot 39 ?_); refine wl_ld0 rfl rfl rfl k3 Try.underlying24 rfl evInfo ?_)
      | ((with_reducible refine at_slot 40 ?_); refine wl_bslice (A := (evsA [⟨30, 3, 0, false⟩, ⟨40, 9, 0, false⟩])) rfl rfl (bs2_ev _ _ _) rfl ?_; intro W8 g8 k8 hb hle; have n1_8 := Lib.hid (Blk.ne_of_le k1 hle); have n2_8 := Lib.hid (Blk.ne_of_le k2 hle); have n3_8 := Lib.hid (Blk.ne_of_le k3 hle); have n4_8 := Lib.hid (Blk.ne_of_le k4 hle); have n5_8 := Lib.hid (Blk.ne_of_le k5 hle); have n6_8 := Lib.hid (Blk.ne_of_le k6 hle); have n7_8 := Lib.hid (Blk.ne_of_le k7 hle); have L8 := Lib.hid (Nat.le_trans HB.out.size hle); replace k1 := k1.keep hb; replace k2 := k2.keep hb; replace k3 := k3.keep hb; replace k4 := k4.keep hb; replace k5 := k5.keep hb; replace k6 := k6.keep hb; replace k7 := k7.keep hb; replace HB := Lib.hid (below_tr HB.out hb); clear hb hle)
      | ((with_reducible refine at_slot 41 ?_); refine wl_call rfl rfl Try.func16 (by kernel_rfl) rfl (of_lit' (k := 2) k8 rfl (by omega) (in2 eb_ok dd_ok) (all2 qob_ok me_bd)) rfl ?_; intro V8 hb; replace k1 := k1.keep hb; replace k2 := k2.keep hb; replace k3 := k3.keep hb; replace k4 := k4.keep hb; replace k5 := k5.keep hb; replace k6 := k6.keep hb; replace k7 := k7.keep hb; replace k8 := k8.keep hb; replace HB := Lib.hid (below_tr HB.out hb); clear hb)
      | ((with_reducible refine at_slot 8 ?_); refine wl_alloc (A := (ceA zeroCe)) rfl rfl ce_zero rfl ?_; intro W9 g9 k9 hb hle; have n1_9 := Lib.hid (Blk.ne_of_le k1 hle); have n2_9 := Lib.hid (Blk.ne_of_le k2 hle); have n3_9 := Lib.hid (Blk.ne_of_le k3 hle); have n4_9 := Lib.hid (Blk.ne_of_le k4 hle); have n5_9 := Lib.hid (Blk.ne_of_le k5 hle); have n6_9 := Lib.hid (Blk.ne_of_le k6 hle); have n7_9 := Lib.hid (Blk.ne_of_le k7 hle); have n8_9 := Lib.hid (Blk.ne_of_le k8 hle); have L9 := Lib.hid (Nat.le_trans HB.out.size hle); replace k1 := k1.keep hb; replace k2 := k2.keep hb; replace k3 := k3.keep hb; replace k4 := k4.keep hb; replace k5 := k5.keep hb; replace k6 := k6.keep hb; replace k7 := k7.keep hb; replace k8 := k8.keep hb; replace HB := Lib.hid (below_tr HB.out hb); clear hb hle)
      | ((with_reducible refine at_store 8 ?_); refine wl_st0 (A' := (ceA ⟨2, ⟨30, 3, 0, false⟩, ⟨40, 9, 0, false⟩, (cutU 6), 0, 0, 10⟩)) rfl rfl rfl rfl k9 rfl ceInfo (ceA_one ⟨2, ⟨30, 3, 0, false⟩, ⟨40, 9, 0, false⟩, (cutU 6), 0, 0, 10⟩) ?_; intro V9 kn hu; replace k1 := k1.upd hu n1_9.out; replace k2 := k2.upd hu n2_9.out; replace k3 := k3.upd hu n3_9.out; replace k4 := k4.upd hu n4_9.out; replace k5 := k5.upd hu n5_9.out; replace k6 := k6.upd hu n6_9.out; replace k7 := k7.upd hu n7_9.out; replace k8 := k8.upd hu n8_9.out; replace HB := Lib.hid (upd_below HB.out hu L9.out); clear k9; have k9 : Blk _ g9 _ (ceA ⟨2, ⟨30, 3, 0, false⟩, ⟨40, 9, 0, false⟩, (cutU 6), 0, 0, 10⟩) := kn; clear kn hu)
      | ((with_reducible refine at_slot 45 ?_); refine wl_ld0 rfl rfl rfl k7 Try.underlying28 rfl ceInfo ?_)
      | ((with_reducible refine at_slot 46 ?_); refine wl_ld0 rfl rfl rfl k9 Try.underlying28 rfl ceInfo ?_)
      | ((with_reducible refine at_slot 47 ?_); refine wl_call rfl rfl Try.func7 (by kernel_rfl) rfl (me_is qx_ok.in qy_ok.in me_xy.2 me_xy.1 _) rfl ?_; intro V10 hb; replace k1 := k1.keep hb; replace k2 := k2.keep hb; replace k3 := k3.keep hb; replace k4 := k4.keep hb; replace k5 := k5.keep hb; replace k6 := k6.keep hb; replace k7 := k7.keep hb; replace k8 := k8.keep hb; replace k9 := k9.keep hb; replace HB := Lib.hid (below_tr HB.out hb); clear hb)
      | ((with_reducible refine at_slot 10 ?_); refine wl_alloc (A := (ceA zeroCe)) rfl rfl ce_zero rfl ?_; intro W10 g10 k10 hb hle; have n1_10 := Lib.hid (Blk.ne_of_le k1 hle); have n2_10 := Lib.hid (Blk.ne_of_le k2 hle); have n3_10 := Lib.hid (Blk.ne_of_le k3 hle); have n4_10 := Lib.hid (Blk.ne_of_le k4 hle); have n5_10 := Lib.hid (Blk.ne_of_le k5 hle); have n6_10 := Lib.hid (Blk.ne_of_le k6 hle); have n7_10 := Lib.hid (Blk.ne_of_le k7 hle); have n8_10 := Lib.hid (Blk.ne_of_le k8 hle); have n9_10 := Lib.hid (Blk.ne_of_le k9 hle); have L10 := Lib.hid (Nat.le_trans HB.out.size hle); replace k1 := k1.keep hb; replace k2 := k2.keep hb; replace k3 := k3.keep hb; replace k4 := k4.keep hb; replace k5 := k5.keep hb; replace k6 := k6.keep hb; replace k7 := k7.keep hb; replace k8 := k8.keep hb; replace k9 := k9.keep hb; replace HB := Lib.hid (below_tr HB.out hb); clear hb hle)
      | ((with_reducible refine at_store 10 ?_); refine wl_st0 (A' := (ceA ⟨3, ⟨10, 5, 0, false⟩, ⟨40, 9, 0, false⟩, (cutU 9), 1, 0, 30⟩)) rfl rfl rfl rfl k10 rfl ceInfo (ceA_one ⟨3, ⟨10, 5, 0, false⟩, ⟨40, 9, 0, false⟩, (cutU 9), 1, 0, 30⟩) ?_; intro V11 kn hu; replace k1 := k1.upd hu n1_10.out; replace k2 := k2.upd hu n2_10.out; replace k3 := k3.upd hu n3_10.out; replace k4 := k4.upd hu n4_10.out; replace k5 := k5.upd hu n5_10.out; replace k6 := k6.upd hu n6_10.out; replace k7 := k7.upd hu n7_10.out; replace k8 := k8.upd hu n8_10.out; replace k9 := k9.upd hu n9_10.out; replace HB := Lib.hid (upd_below HB.out hu L10.out); clear k10; have k10 : Blk _ g10 _ (ceA ⟨3, ⟨10, 5, 0, false⟩, ⟨40, 9, 0, false⟩, (cutU 9), 1, 0, 30⟩) := kn; clear kn hu)
      | ((with_reducible refine at_slot 51 ?_); refine wl_ld0 rfl rfl rfl k9 Try.underlying28 rfl ceInfo ?_)
      | ((with_reducible refine at_slot 52 ?_); refine wl_ld0 rfl rfl rfl k7 Try.underlying28 rfl ceInfo ?_)
      | ((with_reducible refine at_slot 53 ?_); refine wl_call rfl rfl Try.func7 (by kernel_rfl) rfl (me_is qy_ok.in qx_ok.in me_yx.2 me_yx.1 _) rfl ?_; intro V12 hb; replace k1 := k1.keep hb; replace k2 := k2.keep hb; replace k3 := k3.keep hb; replace k4 := k4.keep hb; replace k5 := k5.keep hb; replace k6 := k6.keep hb; replace k7 := k7.keep hb; replace k8 := k8.keep hb; replace k9 := k9.keep hb; replace k10 := k10.keep hb; replace HB := Lib.hid (below_tr HB.out hb); clear hb)
      | ((with_reducible refine at_slot 12 ?_); refine wl_alloc (A := (ceA zeroCe)) rfl rfl ce_zero rfl ?_; intro W11 g11 k11 hb hle; have n1_11 := Lib.hid (Blk.ne_of_le k1 hle); have n2_11 := Lib.hid (Blk.ne_of_le k2 hle); have n3_11 := Lib.hid (Blk.ne_of_le k3 hle); have n4_11 := Lib.hid (Blk.ne_of_le k4 hle); have n5_11 := Lib.hid (Blk.ne_of_le k5 hle); have n6_11 := Lib.hid (Blk.ne_of_le k6 hle); have n7_11 := Lib.hid (Blk.ne_of_le k7 hle); have n8_11 := Lib.hid (Blk.ne_of_le k8 hle); have n9_11 := Lib.hid (Blk.ne_of_le k9 hle); have n10_11 := Lib.hid (Blk.ne_of_le k10 hle); have L11 := Lib.hid (Nat.le_trans HB.out.size hle); replace k1 := k1.keep hb; replace k2 := k2.keep hb; replace k3 := k3.keep hb; replace k4 := k4.keep hb; replace k5 := k5.keep hb; replace k6 := k6.keep hb; replace k7 := k7.keep hb; replace k8 := k8.keep hb; replace k9 := k9.keep hb; replace k10 := k10.keep hb; replace HB := Lib.hid (below_tr HB.out hb); clear hb hle)
      | ((with_reducible refine at_store 12 ?_); refine wl_st0 (A' := (ceA zeroCe)) rfl rfl rfl rfl k11 rfl ceInfo (ceA_one zeroCe) ?_; intro V13 kn hu; replace k1 := k1.upd hu n1_11.out; replace k2 := k2.upd hu n2_11.out; replace k3 := k3.upd hu n3_11.out; replace k4 := k4.upd hu n4_11.out; replace k5 := k5.upd hu n5_11.out; replace k6 := k6.upd hu n6_11.out; replace k7 := k7.upd hu n7_11.out; replace k8 := k8.upd hu n8_11.out; replace k9 := k9.upd hu n9_11.out; replace k10 := k10.upd hu n10_11.out; replace HB := Lib.hid (upd_below HB.out hu L11.out); clear k11; have k11 : Blk _ g11 _ (ceA zeroCe) := kn; clear kn hu)
      | ((with_reducible refine at_slot 57 ?_); refine wl_ld0 rfl rfl rfl k2 Try.underlying24 rfl evInfo ?_)
      | ((with_reducible refine at_slot 58 ?_); refine wl_ld0 rfl rfl rfl k1 Try.underlying24 rfl evInfo ?_)
      | ((with_reducible refine at_slot 59 ?_); refine wl_bslice (A := (evsA [⟨30, 3, 0, false⟩, ⟨10, 5, 0, false⟩])) rfl rfl (bs2_ev _ _ _) rfl ?_; intro W12 g12 k12 hb hle; have n1_12 := Lib.hid (Blk.ne_of_le k1 hle); have n2_12 := Lib.hid (Blk.ne_of_le k2 hle); have n3_12 := Lib.hid (Blk.ne_of_le k3 hle); have n4_12 := Lib.hid (Blk.ne_of_le k4 hle); have n5_12 := Lib.hid (Blk.ne_of_le k5 hle); have n6_12 := Lib.hid (Blk.ne_of_le k6 hle); have n7_12 := Lib.hid (Blk.ne_of_le k7 hle); have n8_12 := Lib.hid (Blk.ne_of_le k8 hle); have n9_12 := Lib.hid (Blk.ne_of_le k9 hle); have n10_12 := Lib.hid (Blk.ne_of_le k10 hle); have n11_12 := Lib.hid (Blk.ne_of_le k11 hle); have L12 := Lib.hid (Nat.le_trans HB.out.size hle); replace k1 := k1.keep hb; replace k2 := k2.keep hb; replace k3 := k3.keep hb; replace k4 := k4.keep hb; replace k5 := k5.keep hb; replace k6 := k6.keep hb; replace k7 := k7.keep hb; replace k8 := k8.keep hb; replace k9 := k9.keep hb; replace k10 := k10.keep hb; replace k11 := k11.keep hb; replace HB := Lib.hid (below_tr HB.out hb); clear hb hle)
      | ((with_reducible refine at_slot 60 ?_); refine wl_call rfl rfl Try.func16 (by kernel_rfl) rfl (of_lit' (k := 2) k12 rfl (by omega) (in2 eb_ok ea_ok) (all2 qob_ok me_ba)) rfl ?_; intro V14 hb; replace k1 := k1.keep hb; replace k2 := k2.keep hb; replace k3 := k3.keep hb; replace k4 := k4.keep hb; replace k5 := k5.keep hb; replace k6 := k6.keep hb; replace k7 := k7.keep hb; replace k8 := k8.keep hb; replace k9 := k9.keep hb; replace k10 := k10.keep hb; replace k11 := k11.keep hb; replace k12 := k12.keep hb; replace HB := Lib.hid (below_tr HB.out hb); clear hb)
      | ((with_reducible refine at_slot 14 ?_); refine wl_alloc (A := (ceA zeroCe)) rfl rfl ce_zero rfl ?_; intro W13 g13 k13 hb hle; have n1_13 := Lib.hid (Blk.ne_of_le k1 hle); have n2_13 := Lib.hid (Blk.ne_of_le k2 hle); have n3_13 := Lib.hid (Blk.ne_of_le k3 hle); have n4_13 := Lib.hid (Blk.ne_of_le k4 hle); have n5_13 := Lib.hid (Blk.ne_of_le k5 hle); have n6_13 := Lib.hid (Blk.ne_of_le k6 hle); have n7_13 := Lib.hid (Blk.ne_of_le k7 hle); have n8_13 := Lib.hid (Blk.ne_of_le k8 hle); have n9_13 := Lib.hid (Blk.ne_of_le k9 hle); have n10_13 := Lib.hid (Blk.ne_of_le k10 hle); have n11_13 := Lib.hid (Blk.ne_of_le k11 hle); have n12_13 := Lib.hid (Blk.ne_of_le k12 hle); have L13 := Lib.hid (Nat.le_trans HB.out.size hle); replace k1 := k1.keep hb; replace k2 := k2.keep hb; replace k3 := k3.keep hb; replace k4 := k4.keep hb; replace k5 := k5.keep hb; replace k6 := k6.keep hb; replace k7 := k7.keep hb; replace k8 := k8.keep hb; replace k9 := k9.keep hb; replace k10 := k10.keep hb; replace k11 := k11.keep hb; replace k12 := k12.keep hb; replace HB := Lib.hid (below_tr HB.out hb); clear hb hle)
      | ((with_reducible refine at_store 14 ?_); refine wl_st0 (A' := (ceA zeroCe)) rfl rfl rfl rfl k13 rfl ceInfo (ceA_one zeroCe) ?_; intro V15 kn hu; replace k1 := k1.upd hu n1_13.out; replace k2 := k2.upd hu n2_13.out; replace k3 := k3.upd hu n3_13.out; replace k4 := k4.upd hu n4_13.out; replace k5 := k5.upd hu n5_13.out; replace k6 := k6.upd hu n6_13.out; replace k7 := k7.upd hu n7_13.out; replace k8 := k8.upd hu n8_13.out; replace k9 := k9.upd hu n9_13.out; replace k10 := k10.upd hu n10_13.out; replace k11 := k11.upd hu n11_13.out; replace k12 := k12.upd hu n12_13.out; replace HB := Lib.hid (upd_below HB.out hu L13.out); clear k13; have k13 : Blk _ g13 _ (ceA zeroCe) := kn; clear kn hu)
      | ((with_reducible refine at_slot 64 ?_); refine wl_ld0 rfl rfl rfl k7 Try.underlying28 rfl ceInfo ?_)
      | ((with_reducible refine at_slot 65 ?_); refine wl_ld0 rfl rfl rfl k2 Try.underlying24 rfl evInfo ?_)
      | ((with_reducible refine at_slot 66 ?_); refine wl_call rfl rfl Try.func9 (by kernel_rfl) rfl (XB.out _) rfl ?_; intro V16 hb; replace k1 := k1.keep hb; replace k2 := k2.keep hb; replace k3 := k3.keep hb; replace k4 := k4.keep hb; replace k5 := k5.keep hb; replace k6 := k6.keep hb; replace k7 := k7.keep hb; replace k8 := k8.keep hb; replace k9 := k9.keep hb; replace k10 := k10.keep hb; replace k11 := k11.keep hb; replace k12 := k12.keep hb; replace k13 := k13.keep hb; replace HB := Lib.hid (below_tr HB.out hb); clear hb)
      | ((with_reducible refine at_slot 16 ?_); refine wl_alloc (A := (ceA zeroCe)) rfl rfl ce_zero rfl ?_; intro W14 g14 k14 hb hle; have n1_14 := Lib.hid (Blk.ne_of_le k1 hle); have n2_14 := Lib.hid (Blk.ne_of_le k2 hle); have n3_14 := Lib.hid (Blk.ne_of_le k3 hle); have n4_14 := Lib.hid (Blk.ne_of_le k4 hle); have n5_14 := Lib.hid (Blk.ne_of_le k5 hle); have n6_14 := Lib.hid (Blk.ne_of_le k6 hle); have n7_14 := Lib.hid (Blk.ne_of_le k7 hle); have n8_14 := Lib.hid (Blk.ne_of_le k8 hle); have n9_14 := Lib.hid (Blk.ne_of_le k9 hle); have n10_14 := Lib.hid (Blk.ne_of_le k10 hle); have n11_14 := Lib.hid (Blk.ne_of_le k11 hle); have n12_14 := Lib.hid (Blk.ne_of_le k12 hle); have n13_14 := Lib.hid (Blk.ne_of_le k13 hle); have L14 := Lib.hid (Nat.le_trans HB.out.size hle); replace k1 := k1.keep hb; replace k2 := k2.keep hb; replace k3 := k3.keep hb; replace k4 := k4.keep hb; replace k5 := k5.keep hb; replace k6 := k6.keep hb; replace k7 := k7.keep hb; replace k8 := k8.keep hb; replace k9 := k9.keep hb; replace k10 := k10.keep hb; replace k11 := k11.keep hb; replace k12 := k12.keep hb; replace k13 := k13.keep hb; replace HB := Lib.hid (below_tr HB.out hb); clear hb hle)
      | ((with_reducible refine at_store 16 ?_); refine wl_st0 (A' := (ceA ⟨2, ⟨10, 5, 0, false⟩, ⟨30, 3, 0, false⟩, (cutU 3), 1, 0, 20⟩)) rfl rfl rfl rfl k14 rfl ceInfo (ceA_one ⟨2, ⟨10, 5, 0, false⟩, ⟨30, 3, 0, false⟩, (cutU 3), 1, 0, 20⟩) ?_; intro V17 kn hu; replace k1 := k1.upd hu n1_14.out; replace k2 := k2.upd hu n2_14.out; replace k3 := k3.upd hu n3_14.out; replace k4 := k4.upd hu n4_14.out; replace k5 := k5.upd hu n5_14.out; replace k6 := k6.upd hu n6_14.out; replace k7 := k7.upd hu n7_14.out; replace k8 := k8.upd hu n8_14.out; replace k9 := k9.upd hu n9_14.out; replace k10 := k10.upd hu n10_14.out; replace k11 := k11.upd hu n11_14.out; replace k12 := k12.upd hu n12_14.out; replace k13 := k13.upd hu n13_14.out; replace HB := Lib.hid (upd_below HB.out hu L14.out); clear k14; have k14 : Blk _ g14 _ (ceA ⟨2, ⟨10, 5, 0, false⟩, ⟨30, 3, 0, false⟩, (cutU 3), 1, 0, 20⟩) := kn; clear kn hu)
      | ((with_reducible refine at_slot 70 ?_); refine wl_ld0 rfl rfl rfl k7 Try.underlying28 rfl ceInfo ?_)
      | ((with_reducible refine at_slot 71 ?_); refine wl_build (v := .agg (ceA zeroCe)) rfl rfl (build_ce0 _) rfl ?_)
      | ((with_reducible refine at_slot 72 ?_); refine wl_ld0 rfl rfl rfl k9 Try.underlying28 rfl ceInfo ?_)
      | ((with_reducible refine at_slot 73 ?_); refine wl_bslice (A := (cesA [⟨1, ⟨10, 5, 0, false⟩, ⟨10, 5, 0, false⟩, U.zero, 0, 0, 0⟩, zeroCe, ⟨2, ⟨30, 3, 0, false⟩, ⟨40, 9, 0, false⟩, (cutU 6), 0, 0, 10⟩])) rfl rfl (bs3_ce _ _ _ _) rfl ?_; intro W15 g15 k15 hb hle; have n1_15 := Lib.hid (Blk.ne_of_le k1 hle); have n2_15 := Lib.hid (Blk.ne_of_le k2 hle); have n3_15 := Lib.hid (Blk.ne_of_le k3 hle); have n4_15 := Lib.hid (Blk.ne_of_le k4 hle); have n5_15 := Lib.hid (Blk.ne_of_le k5 hle); have n6_15 := Lib.hid (Blk.ne_of_le k6 hle); have n7_15 := Lib.hid (Blk.ne_of_le k7 hle); have n8_15 := Lib.hid (Blk.ne_of_le k8 hle); have n9_15 := Lib.hid (Blk.ne_of_le k9 hle); have n10_15 := Lib.hid (Blk.ne_of_le k10 hle); have n11_15 := Lib.hid (Blk.ne_of_le k11 hle); have n12_15 := Lib.hid (Blk.ne_of_le k12 hle); have n13_15 := Lib.hid (Blk.ne_of_le k13 hle); have n14_15 := Lib.hid (Blk.ne_of_le k14 hle); have L15 := Lib.hid (Nat.le_trans HB.out.size hle); replace k1 := k1.keep hb; replace k2 := k2.keep hb; replace k3 := k3.keep hb; replace k4 := k4.keep hb; replace k5 := k5.keep hb; replace k6 := k6.keep hb; replace k7 := k7.keep hb; replace k8 := k8.keep hb; replace k9 := k9.keep hb; replace k10 := k10.keep hb; replace k11 := k11.keep hb; replace k12 := k12.keep hb; replace k13 := k13.keep hb; replace k14 := k14.keep hb; replace HB := Lib.hid (below_tr HB.out hb); clear hb hle)
      | ((with_reducible refine at_slot 74 ?_); refine wl_call rfl rfl Try.func11 (by kernel_rfl) rfl (all_lit (k := 3) k15 rfl (by omega) (in3 qx_ok.in zeroOk.in qy_ok.in) (all3 qx_ok (meC_zeroR qx_ok) me_xy)) rfl ?_; intro V18 hb; replace k1 := k1.keep hb; replace k2 := k2.keep hb; replace k3 := k3.keep hb; replace k4 := k4.keep hb; replace k5 := k5.keep hb; replace k6 := k6.keep hb; replace k7 := k7.keep hb; replace k8 := k8.keep hb; replace k9 := k9.keep hb; replace k10 := k10.keep hb; replace k11 := k11.keep hb; replace k12 := k12.keep hb; replace k13 := k13.keep hb; replace k14 := k14.keep hb; replace k15 := k15.keep hb; replace HB := Lib.hid (below_tr HB.out hb); clear hb)
      | ((with_reducible refine at_slot 18 ?_); refine wl_alloc (A := (ceA zeroCe)) rfl rfl ce_zero rfl ?_; intro W16 g16 k16 hb hle; have n1_16 := Lib.hid (Blk.ne_of_le k1 hle); have n2_16 := Lib.hid (Blk.ne_of_le k2 hle); have n3_16 := Lib.hid (Blk.ne_of_le k3 hle); have n4_16 := Lib.hid (Blk.ne_of_le k4 hle); have n5_16 := Lib.hid (Blk.ne_of_le k5 hle); have n6_16 := Lib.hid (Blk.ne_of_le k6 hle); have n7_16 := Lib.hid (Blk.ne_of_le k7 hle); have n8_16 := Lib.hid (Blk.ne_of_le k8 hle); have n9_16 := Lib.hid (Blk.ne_of_le k9 hle); have n10_16 := Lib.hid (Blk.ne_of_le k10 hle); have n11_16 := Lib.hid (Blk.ne_of_le k11 hle); have n12_16 := Lib.hid (Blk.ne_of_le k12 hle); have n13_16 := Lib.hid (Blk.ne_of_le k13 hle); have n14_16 := Lib.hid (Blk.ne_of_le k14 hle); have n15_16 := Lib.hid (Blk.ne_of_le k15 hle); have L16 := Lib.hid (Nat.le_trans HB.out.size hle); replace k1 := k1.keep hb; replace k2 := k2.keep hb; replace k3 := k3.keep hb; replace k4 := k4.keep hb; replace k5 := k5.keep hb; replace k6 := k6.keep hb; replace k7 := k7.keep hb; replace k8 := k8.keep hb; replace k9 := k9.keep hb; replace k10 := k10.keep hb; replace k11 := k11.keep hb; replace k12 := k12.keep hb; replace k13 := k13.keep hb; replace k14 := k14.keep hb; replace k15 := k15.keep hb; replace HB := Lib.hid (below_tr HB.out hb); clear hb hle)
      | ((with_reducible refine at_store 18 ?_); refine wl_st0 (A' := (ceA ⟨3, ⟨10, 5, 0, false⟩, ⟨40, 9, 0, false⟩, (cutU 9), 1, 0, 30⟩)) rfl rfl rfl rfl k16 rfl ceInfo (ceA_one ⟨3, ⟨10, 5, 0, false⟩, ⟨40, 9, 0, false⟩, (cutU 9), 1, 0, 30⟩) ?_; intro V19 kn hu; replace k1 := k1.upd hu n1_16.out; replace k2 := k2.upd hu n2_16.out; replace k3 := k3.upd hu n3_16.out; replace k4 := k4.upd hu n4_16.out; replace k5 := k5.upd hu n5_16.out; replace k6 := k6.upd hu n6_16.out; replace k7 := k7.upd hu n7_16.out; replace k8 := k8.upd hu n8_16.out; replace k9 := k9.upd hu n9_16.out; replace k10 := k10.upd hu n10_16.out; replace k11 := k11.upd hu n11_16.out; replace k12 := k12.upd hu n12_16.out; replace k13 := k13.upd hu n13_16.out; replace k14 := k14.upd hu n14_16.out; replace k15 := k15.upd hu n15_16.out; replace HB := Lib.hid (upd_below HB.out hu L16.out); clear k16; have k16 : Blk _ g16 _ (ceA ⟨3, ⟨10, 5, 0, false⟩, ⟨40, 9, 0, false⟩, (cutU 9), 1, 0, 30⟩) := kn; clear kn hu))
  refine wp_region_held_drew (S := fun w' => Blk w' g1 24 (evA ⟨10, 5, 0, false⟩) ∧ Blk w' g2 24 (evA ⟨30, 3, 0, false⟩) ∧ Blk w' g3 24 (evA ⟨40, 9, 0, false⟩) ∧ Blk w' g4 24 (evsA [⟨10, 5, 0, false⟩, ⟨30, 3, 0, false⟩, ⟨40, 9, 0, false⟩]) ∧ Blk w' g5 28 (ceA ⟨3, ⟨10, 5, 0, false⟩, ⟨40, 9, 0, false⟩, (cutU 9), 1, 0, 30⟩) ∧ Blk w' g6 24 (evsA [⟨10, 5, 0, false⟩]) ∧ Blk w' g7 28 (ceA ⟨1, ⟨10, 5, 0, false⟩, ⟨10, 5, 0, false⟩, U.zero, 0, 0, 0⟩) ∧ Blk w' g8 24 (evsA [⟨30, 3, 0, false⟩, ⟨40, 9, 0, false⟩]) ∧ Blk w' g9 28 (ceA ⟨2, ⟨30, 3, 0, false⟩, ⟨40, 9, 0, false⟩, (cutU 6), 0, 0, 10⟩) ∧ Blk w' g10 28 (ceA ⟨3, ⟨10, 5, 0, false⟩, ⟨40, 9, 0, false⟩, (cutU 9), 1, 0, 30⟩) ∧ Blk w' g11 28 (ceA zeroCe) ∧ Blk w' g12 24 (evsA [⟨30, 3, 0, false⟩, ⟨10, 5, 0, false⟩]) ∧ Blk w' g13 28 (ceA zeroCe) ∧ Blk w' g14 28 (ceA ⟨2, ⟨10, 5, 0, false⟩, ⟨30, 3, 0, false⟩, (cutU 3), 1, 0, 20⟩) ∧ Blk w' g15 28 (cesA [⟨1, ⟨10, 5, 0, false⟩, ⟨10, 5, 0, false⟩, U.zero, 0, 0, 0⟩, zeroCe, ⟨2, ⟨30, 3, 0, false⟩, ⟨40, 9, 0, false⟩, (cutU 6), 0, 0, 10⟩]) ∧ Blk w' g16 28 (ceA ⟨3, ⟨10, 5, 0, false⟩, ⟨40, 9, 0, false⟩, (cutU 9), 1, 0, 30⟩) ∧ Below w.heap.size w w') (by kernel_rfl) ⟨k1.drew, k2.drew, k3.drew, k4.drew, k5.drew, k6.drew, k7.drew, k8.drew, k9.drew, k10.drew, k11.drew, k12.drew, k13.drew, k14.drew, k15.drew, k16.drew, HB.out.drew⟩ (fun hS => ?_)
  clear k1 k2 k3 k4 k5 k6 k7 k8 k9 k10 k11 k12 k13 k14 k15 k16
  have hS2 := hS
  obtain ⟨k1, k2, k3, k4, k5, k6, k7, k8, k9, k10, k11, k12, k13, k14, k15, k16, hB⟩ := hS2
  replace HB := Lib.hid hB
  clear hB
  refine wpAnyH_take (i := 0) (oi := ⟨some 77, _, _, _, _, _⟩) (v := .agg (ceA ⟨3, ⟨10, 5, 0, false⟩, ⟨40, 9, 0, false⟩, (cutU 9), 1, 0, 30⟩)) rfl (by kernel_rfl) (by kernel_rfl) (by kernel_rfl) (fun _ _ _ h => h) (yi_ld0 rfl rfl rfl (fun w' h => h.2.2.2.2.1) Try.underlying28 rfl ceInfo) hS ?_
  simp only [Act.put, List.setIfInBounds_toArray, List.set_cons_zero, List.set_cons_succ]
  refine wpAnyH_take (i := 1) (oi := ⟨some 78, _, _, _, _, _⟩) (v := .agg (evA ⟨10, 5, 0, false⟩)) rfl (by kernel_rfl) (by kernel_rfl) (by kernel_rfl) (fun _ _ _ h => h) (yi_ld0 rfl rfl rfl (fun w' h => h.1) Try.underlying24 rfl evInfo) hS ?_
  simp only [Act.put, List.setIfInBounds_toArray, List.set_cons_zero, List.set_cons_succ]
  refine wpAnyH_take (i := 2) (oi := ⟨some 79, _, _, _, _, _⟩) (v := .agg (evA ⟨40, 9, 0, false⟩)) rfl (by kernel_rfl) (by kernel_rfl) (by kernel_rfl) (fun _ _ _ h => h) (yi_ld0 rfl rfl rfl (fun w' h => h.2.2.1) Try.underlying24 rfl evInfo) hS ?_
  simp only [Act.put, List.setIfInBounds_toArray, List.set_cons_zero, List.set_cons_succ]
  refine anyH_call (i := 3) (op := ⟨some 80, _, _, _, _, _⟩) (by kernel_rfl) rfl rfl rfl Try.func18 (by kernel_rfl) rfl (of_lit (k := 9) rfl (by omega) _) rfl (fun w' hb => ⟨k1.keep hb, k2.keep hb, k3.keep hb, k4.keep hb, k5.keep hb, k6.keep hb, k7.keep hb, k8.keep hb, k9.keep hb, k10.keep hb, k11.keep hb, k12.keep hb, k13.keep hb, k14.keep hb, k15.keep hb, k16.keep hb, below_tr HB.out hb⟩) (fun w' hb hS2 => ?_)
  simp only [Act.put, List.setIfInBounds_toArray, List.set_cons_zero, List.set_cons_succ]
  clear hb
  replace hS := hS2
  clear hS2
  clear k1 k2 k3 k4 k5 k6 k7 k8 k9 k10 k11 k12 k13 k14 k15 k16
  have hS2 := hS
  obtain ⟨k1, k2, k3, k4, k5, k6, k7, k8, k9, k10, k11, k12, k13, k14, k15, k16, hB⟩ := hS2
  replace HB := Lib.hid hB
  clear hB
  refine wpAnyH_take (i := 4) (oi := ⟨some 81, _, _, _, _, _⟩) (v := .agg (ceA ⟨3, ⟨10, 5, 0, false⟩, ⟨40, 9, 0, false⟩, (cutU 9), 1, 0, 30⟩)) rfl (by kernel_rfl) (by kernel_rfl) (by kernel_rfl) (fun _ _ _ h => h) (yi_build rfl rfl (fun w => l8_bld_cell_0_1_2_3_4_6 _ _ _ _ _ _ w) rfl) hS ?_
  simp only [Act.put, List.setIfInBounds_toArray, List.set_cons_zero, List.set_cons_succ]
  refine wpAnyH_take (i := 5) (oi := ⟨some 82, _, _, _, _, _⟩) (v := .bool true) rfl (by kernel_rfl) (by kernel_rfl) (by kernel_rfl) (fun _ _ _ h => h) (yi_bin rfl rfl (fun _ => run_eqGuard_agg _ _ _ _ _ _ _ (by kernel_rfl)) (fun w => ce_eql_yes rfl w)) hS ?_
  simp only [Act.put, List.setIfInBounds_toArray, List.set_cons_zero, List.set_cons_succ]
  refine wpAnyH_take (i := 6) (oi := ⟨some 83, _, _, _, _, _⟩) (v := .bool true) rfl (by kernel_rfl) (by kernel_rfl) (by kernel_rfl) (fun _ _ _ h => h) (yi_mv (Or.inl rfl) rfl rfl) hS ?_
  simp only [Act.put, List.setIfInBounds_toArray, List.set_cons_zero, List.set_cons_succ]
  refine wpAnyH_take (i := 7) (oi := ⟨some 84, _, _, _, _, _⟩) (v := .int .i64 0) rfl (by kernel_rfl) (by kernel_rfl) (by kernel_rfl) (fun _ _ _ h => h) (yi_mv (Or.inl rfl) (by kernel_rfl) rfl) hS ?_
  simp only [Act.put, List.setIfInBounds_toArray, List.set_cons_zero, List.set_cons_succ]
  refine wpAnyH_take (i := 8) (oi := ⟨some 85, _, _, _, _, _⟩) (v := .bool true) rfl (by kernel_rfl) (by kernel_rfl) (by kernel_rfl) (fun _ _ _ h => h) (yi_eql rfl (by kernel_rfl) rfl rfl Try.underlying31 rfl) hS ?_
  simp only [Act.put, List.setIfInBounds_toArray, List.set_cons_zero, List.set_cons_succ]
  refine wpAnyH_take (i := 9) (oi := ⟨some 86, _, _, _, _, _⟩) (v := .bool true) rfl (by kernel_rfl) (by kernel_rfl) (by kernel_rfl) (fun _ _ _ h => h) (yi_pick1 rfl rfl rfl rfl) hS ?_
  simp only [Act.put, List.setIfInBounds_toArray, List.set_cons_zero, List.set_cons_succ]
  refine wpAnyH_take (i := 10) (oi := ⟨some 87, _, _, _, _, _⟩) (v := .bool true) rfl (by kernel_rfl) (by kernel_rfl) (by kernel_rfl) (fun _ _ _ h => h) (yi_mv (Or.inl rfl) rfl rfl) hS ?_
  simp only [Act.put, List.setIfInBounds_toArray, List.set_cons_zero, List.set_cons_succ]
  refine wpAnyH_take (i := 11) (oi := ⟨some 88, _, _, _, _, _⟩) (v := .int .i64 0) rfl (by kernel_rfl) (by kernel_rfl) (by kernel_rfl) (fun _ _ _ h => h) (yi_mv (Or.inl rfl) (by kernel_rfl) rfl) hS ?_
  simp only [Act.put, List.setIfInBounds_toArray, List.set_cons_zero, List.set_cons_succ]
  refine wpAnyH_take (i := 12) (oi := ⟨some 89, _, _, _, _, _⟩) (v := .bool true) rfl (by kernel_rfl) (by kernel_rfl) (by kernel_rfl) (fun _ _ _ h => h) (yi_eql rfl (by kernel_rfl) rfl rfl Try.underlying31 rfl) hS ?_
  simp only [Act.put, List.setIfInBounds_toArray, List.set_cons_zero, List.set_cons_succ]
  refine wpAnyH_take (i := 13) (oi := ⟨some 90, _, _, _, _, _⟩) (v := .bool true) rfl (by kernel_rfl) (by kernel_rfl) (by kernel_rfl) (fun _ _ _ h => h) (yi_pick1 rfl rfl rfl rfl) hS ?_
  simp only [Act.put, List.setIfInBounds_toArray, List.set_cons_zero, List.set_cons_succ]
  refine wpAnyH_take (i := 14) (oi := ⟨some 91, _, _, _, _, _⟩) (v := .bool true) rfl (by kernel_rfl) (by kernel_rfl) (by kernel_rfl) (fun _ _ _ h => h) (yi_mv (Or.inl rfl) rfl rfl) hS ?_
  simp only [Act.put, List.setIfInBounds_toArray, List.set_cons_zero, List.set_cons_succ]
  refine wpAnyH_take (i := 15) (oi := ⟨some 92, _, _, _, _, _⟩) (v := .int .i64 0) rfl (by kernel_rfl) (by kernel_rfl) (by kernel_rfl) (fun _ _ _ h => h) (yi_mv (Or.inl rfl) (by kernel_rfl) rfl) hS ?_
  simp only [Act.put, List.setIfInBounds_toArray, List.set_cons_zero, List.set_cons_succ]
  refine wpAnyH_take (i := 16) (oi := ⟨some 93, _, _, _, _, _⟩) (v := .bool true) rfl (by kernel_rfl) (by kernel_rfl) (by kernel_rfl) (fun _ _ _ h => h) (yi_eql rfl (by kernel_rfl) rfl rfl Try.underlying31 rfl) hS ?_
  simp only [Act.put, List.setIfInBounds_toArray, List.set_cons_zero, List.set_cons_succ]
  refine wpAnyH_take (i := 17) (oi := ⟨some 94, _, _, _, _, _⟩) (v := .bool true) rfl (by kernel_rfl) (by kernel_rfl) (by kernel_rfl) (fun _ _ _ h => h) (yi_pick1 rfl rfl rfl rfl) hS ?_
  simp only [Act.put, List.setIfInBounds_toArray, List.set_cons_zero, List.set_cons_succ]
  refine wpAnyH_take (i := 18) (oi := ⟨some 95, _, _, _, _, _⟩) (v := .bool true) rfl (by kernel_rfl) (by kernel_rfl) (by kernel_rfl) (fun _ _ _ h => h) (yi_mv (Or.inl rfl) rfl rfl) hS ?_
  simp only [Act.put, List.setIfInBounds_toArray, List.set_cons_zero, List.set_cons_succ]
  refine wpAnyH_take (i := 19) (oi := ⟨some 96, _, _, _, _, _⟩) (v := .agg (ceA ⟨3, ⟨10, 5, 0, false⟩, ⟨40, 9, 0, false⟩, (cutU 9), 1, 0, 30⟩)) rfl (by kernel_rfl) (by kernel_rfl) (by kernel_rfl) (fun _ _ _ h => h) (yi_ld0 rfl (by kernel_rfl) rfl (fun w' h => h.2.2.2.2.2.2.2.2.2.1) Try.underlying28 rfl ceInfo) hS ?_
  simp only [Act.put, List.setIfInBounds_toArray, List.set_cons_zero, List.set_cons_succ]
  refine wpAnyH_take (i := 20) (oi := ⟨some 97, _, _, _, _, _⟩) (v := .agg (ceA ⟨3, ⟨10, 5, 0, false⟩, ⟨40, 9, 0, false⟩, (cutU 9), 1, 0, 30⟩)) rfl (by kernel_rfl) (by kernel_rfl) (by kernel_rfl) (fun _ _ _ h => h) (yi_ld0 rfl (by kernel_rfl) rfl (fun w' h => h.2.2.2.2.1) Try.underlying28 rfl ceInfo) hS ?_
  simp only [Act.put, List.setIfInBounds_toArray, List.set_cons_zero, List.set_cons_succ]
  refine wpAnyH_take (i := 21) (oi := ⟨some 98, _, _, _, _, _⟩) (v := .bool true) rfl (by kernel_rfl) (by kernel_rfl) (by kernel_rfl) (fun _ _ _ h => h) (yi_bin rfl (by kernel_rfl) (fun _ => run_eqGuard_agg _ _ _ _ _ _ _ (by kernel_rfl)) (fun w => ce_eql_yes rfl w)) hS ?_
  simp only [Act.put, List.setIfInBounds_toArray, List.set_cons_zero, List.set_cons_succ]
  refine wpAnyH_take (i := 22) (oi := ⟨some 99, _, _, _, _, _⟩) (v := .bool true) rfl (by kernel_rfl) (by kernel_rfl) (by kernel_rfl) (fun _ _ _ h => h) (yi_pick1 rfl rfl rfl rfl) hS ?_
  simp only [Act.put, List.setIfInBounds_toArray, List.set_cons_zero, List.set_cons_succ]
  refine wpAnyH_take (i := 23) (oi := ⟨some 100, _, _, _, _, _⟩) (v := .bool true) rfl (by kernel_rfl) (by kernel_rfl) (by kernel_rfl) (fun _ _ _ h => h) (yi_mv (Or.inl rfl) rfl rfl) hS ?_
  simp only [Act.put, List.setIfInBounds_toArray, List.set_cons_zero, List.set_cons_succ]
  refine wpAnyH_take (i := 24) (oi := ⟨some 101, _, _, _, _, _⟩) (v := .int .i64 0) rfl (by kernel_rfl) (by kernel_rfl) (by kernel_rfl) (fun _ _ _ h => h) (yi_mv (Or.inl rfl) (by kernel_rfl) rfl) hS ?_
  simp only [Act.put, List.setIfInBounds_toArray, List.set_cons_zero, List.set_cons_succ]
  refine wpAnyH_take (i := 25) (oi := ⟨some 102, _, _, _, _, _⟩) (v := .bool true) rfl (by kernel_rfl) (by kernel_rfl) (by kernel_rfl) (fun _ _ _ h => h) (yi_eql rfl (by kernel_rfl) rfl rfl Try.underlying31 rfl) hS ?_
  simp only [Act.put, List.setIfInBounds_toArray, List.set_cons_zero, List.set_cons_succ]
  refine wpAnyH_take (i := 26) (oi := ⟨some 103, _, _, _, _, _⟩) (v := .bool true) rfl (by kernel_rfl) (by kernel_rfl) (by kernel_rfl) (fun _ _ _ h => h) (yi_pick1 rfl rfl rfl rfl) hS ?_
  simp only [Act.put, List.setIfInBounds_toArray, List.set_cons_zero, List.set_cons_succ]
  refine wpAnyH_take (i := 27) (oi := ⟨some 104, _, _, _, _, _⟩) (v := .bool true) rfl (by kernel_rfl) (by kernel_rfl) (by kernel_rfl) (fun _ _ _ h => h) (yi_mv (Or.inl rfl) rfl rfl) hS ?_
  simp only [Act.put, List.setIfInBounds_toArray, List.set_cons_zero, List.set_cons_succ]
  refine wpAnyH_take (i := 28) (oi := ⟨some 105, _, _, _, _, _⟩) (v := .int .i64 9) rfl (by kernel_rfl) (by kernel_rfl) (by kernel_rfl) (fun _ _ _ h => h) (yi_mv (Or.inl rfl) (by kernel_rfl) rfl) hS ?_
  simp only [Act.put, List.setIfInBounds_toArray, List.set_cons_zero, List.set_cons_succ]
  refine wpAnyH_take (i := 29) (oi := ⟨some 106, _, _, _, _, _⟩) (v := .bool true) rfl (by kernel_rfl) (by kernel_rfl) (by kernel_rfl) (fun _ _ _ h => h) (yi_eql rfl (by kernel_rfl) rfl rfl Try.underlying31 rfl) hS ?_
  simp only [Act.put, List.setIfInBounds_toArray, List.set_cons_zero, List.set_cons_succ]
  refine wpAnyH_take (i := 30) (oi := ⟨some 107, _, _, _, _, _⟩) (v := .bool true) rfl (by kernel_rfl) (by kernel_rfl) (by kernel_rfl) (fun _ _ _ h => h) (yi_pick1 rfl rfl rfl rfl) hS ?_
  simp only [Act.put, List.setIfInBounds_toArray, List.set_cons_zero, List.set_cons_succ]
  refine wpAnyH_take (i := 31) (oi := ⟨some 108, _, _, _, _, _⟩) (v := .bool true) rfl (by kernel_rfl) (by kernel_rfl) (by kernel_rfl) (fun _ _ _ h => h) (yi_mv (Or.inl rfl) rfl rfl) hS ?_
  simp only [Act.put, List.setIfInBounds_toArray, List.set_cons_zero, List.set_cons_succ]
  refine wpAnyH_take (i := 32) (oi := ⟨some 109, _, _, _, _, _⟩) (v := .int .i64 9) rfl (by kernel_rfl) (by kernel_rfl) (by kernel_rfl) (fun _ _ _ h => h) (yi_mv (Or.inl rfl) (by kernel_rfl) rfl) hS ?_
  simp only [Act.put, List.setIfInBounds_toArray, List.set_cons_zero, List.set_cons_succ]
  refine wpAnyH_take (i := 33) (oi := ⟨some 110, _, _, _, _, _⟩) (v := .bool true) rfl (by kernel_rfl) (by kernel_rfl) (by kernel_rfl) (fun _ _ _ h => h) (yi_eql rfl (by kernel_rfl) rfl rfl Try.underlying31 rfl) hS ?_
  simp only [Act.put, List.setIfInBounds_toArray, List.set_cons_zero, List.set_cons_succ]
  refine wpAnyH_take (i := 34) (oi := ⟨some 111, _, _, _, _, _⟩) (v := .bool true) rfl (by kernel_rfl) (by kernel_rfl) (by kernel_rfl) (fun _ _ _ h => h) (yi_pick1 rfl rfl rfl rfl) hS ?_
  simp only [Act.put, List.setIfInBounds_toArray, List.set_cons_zero, List.set_cons_succ]
  refine wpAnyH_take (i := 35) (oi := ⟨some 112, _, _, _, _, _⟩) (v := .bool true) rfl (by kernel_rfl) (by kernel_rfl) (by kernel_rfl) (fun _ _ _ h => h) (yi_mv (Or.inl rfl) rfl rfl) hS ?_
  simp only [Act.put, List.setIfInBounds_toArray, List.set_cons_zero, List.set_cons_succ]
  refine wpAnyH_take (i := 36) (oi := ⟨some 113, _, _, _, _, _⟩) (v := .pointer (some ⟨g14, 0, none⟩)) rfl (by kernel_rfl) (by kernel_rfl) (by kernel_rfl) (fun _ _ _ h => h) (yi_ok (by kernel_rfl) (fun _ => by go_simp)) hS ?_
  simp only [Act.put, List.setIfInBounds_toArray, List.set_cons_zero, List.set_cons_succ]
  refine wpAnyH_take (i := 37) (oi := ⟨some 114, _, _, _, _, _⟩) (v := .int .i64 2) rfl (by kernel_rfl) (by kernel_rfl) (by kernel_rfl) (fun _ _ _ h => h) (yi_ld1 (v := .int .i64 2) rfl (by kernel_rfl) rfl (fun w' h => h.2.2.2.2.2.2.2.2.2.2.2.2.2.1) Try.underlying2 rfl rfl) hS ?_
  simp only [Act.put, List.setIfInBounds_toArray, List.set_cons_zero, List.set_cons_succ]
  refine wpAnyH_take (i := 38) (oi := ⟨some 115, _, _, _, _, _⟩) (v := .bool true) rfl (by kernel_rfl) (by kernel_rfl) (by kernel_rfl) (fun _ _ _ h => h) (yi_eql rfl (by kernel_rfl) rfl rfl Try.underlying2 rfl) hS ?_
  simp only [Act.put, List.setIfInBounds_toArray, List.set_cons_zero, List.set_cons_succ]
  refine wpAnyH_take (i := 39) (oi := ⟨some 116, _, _, _, _, _⟩) (v := .bool true) rfl (by kernel_rfl) (by kernel_rfl) (by kernel_rfl) (fun _ _ _ h => h) (yi_pick1 rfl rfl rfl rfl) hS ?_
  simp only [Act.put, List.setIfInBounds_toArray, List.set_cons_zero, List.set_cons_succ]
  refine wpAnyH_take (i := 40) (oi := ⟨some 117, _, _, _, _, _⟩) (v := .bool true) rfl (by kernel_rfl) (by kernel_rfl) (by kernel_rfl) (fun _ _ _ h => h) (yi_mv (Or.inl rfl) rfl rfl) hS ?_
  simp only [Act.put, List.setIfInBounds_toArray, List.set_cons_zero, List.set_cons_succ]
  refine wpAnyH_take (i := 41) (oi := ⟨some 118, _, _, _, _, _⟩) (v := .int .i64 0) rfl (by kernel_rfl) (by kernel_rfl) (by kernel_rfl) (fun _ _ _ h => h) (yi_mv (Or.inl rfl) (by kernel_rfl) rfl) hS ?_
  simp only [Act.put, List.setIfInBounds_toArray, List.set_cons_zero, List.set_cons_succ]
  refine wpAnyH_take (i := 42) (oi := ⟨some 119, _, _, _, _, _⟩) (v := .bool true) rfl (by kernel_rfl) (by kernel_rfl) (by kernel_rfl) (fun _ _ _ h => h) (yi_eql rfl (by kernel_rfl) rfl rfl Try.underlying31 rfl) hS ?_
  simp only [Act.put, List.setIfInBounds_toArray, List.set_cons_zero, List.set_cons_succ]
  refine wpAnyH_take (i := 43) (oi := ⟨some 120, _, _, _, _, _⟩) (v := .bool true) rfl (by kernel_rfl) (by kernel_rfl) (by kernel_rfl) (fun _ _ _ h => h) (yi_pick1 rfl rfl rfl rfl) hS ?_
  simp only [Act.put, List.setIfInBounds_toArray, List.set_cons_zero, List.set_cons_succ]
  refine wpAnyH_take (i := 44) (oi := ⟨some 121, _, _, _, _, _⟩) (v := .bool true) rfl (by kernel_rfl) (by kernel_rfl) (by kernel_rfl) (fun _ _ _ h => h) (yi_mv (Or.inl rfl) rfl rfl) hS ?_
  simp only [Act.put, List.setIfInBounds_toArray, List.set_cons_zero, List.set_cons_succ]
  refine wpAnyH_take (i := 45) (oi := ⟨some 122, _, _, _, _, _⟩) (v := .agg (ceA ⟨3, ⟨10, 5, 0, false⟩, ⟨40, 9, 0, false⟩, (cutU 9), 1, 0, 30⟩)) rfl (by kernel_rfl) (by kernel_rfl) (by kernel_rfl) (fun _ _ _ h => h) (yi_ld0 rfl (by kernel_rfl) rfl (fun w' h => h.2.2.2.2.2.2.2.2.2.2.2.2.2.2.2.1) Try.underlying28 rfl ceInfo) hS ?_
  simp only [Act.put, List.setIfInBounds_toArray, List.set_cons_zero, List.set_cons_succ]
  refine wpAnyH_take (i := 46) (oi := ⟨some 123, _, _, _, _, _⟩) (v := .agg (ceA ⟨3, ⟨10, 5, 0, false⟩, ⟨40, 9, 0, false⟩, (cutU 9), 1, 0, 30⟩)) rfl (by kernel_rfl) (by kernel_rfl) (by kernel_rfl) (fun _ _ _ h => h) (yi_ld0 rfl (by kernel_rfl) rfl (fun w' h => h.2.2.2.2.1) Try.underlying28 rfl ceInfo) hS ?_
  simp only [Act.put, List.setIfInBounds_toArray, List.set_cons_zero, List.set_cons_succ]
  refine wpAnyH_take (i := 47) (oi := ⟨some 124, _, _, _, _, _⟩) (v := .bool true) rfl (by kernel_rfl) (by kernel_rfl) (by kernel_rfl) (fun _ _ _ h => h) (yi_bin rfl (by kernel_rfl) (fun _ => run_eqGuard_agg _ _ _ _ _ _ _ (by kernel_rfl)) (fun w => ce_eql_yes rfl w)) hS ?_
  simp only [Act.put, List.setIfInBounds_toArray, List.set_cons_zero, List.set_cons_succ]
  refine wpAnyH_take (i := 48) (oi := ⟨some 125, _, _, _, _, _⟩) (v := .bool true) rfl (by kernel_rfl) (by kernel_rfl) (by kernel_rfl) (fun _ _ _ h => h) (yi_pick1 rfl rfl rfl rfl) hS ?_
  simp only [Act.put, List.setIfInBounds_toArray, List.set_cons_zero, List.set_cons_succ]
  refine wpAnyH_take (i := 49) (oi := ⟨some 126, _, _, _, _, _⟩) (v := .bool true) rfl (by kernel_rfl) (by kernel_rfl) (by kernel_rfl) (fun _ _ _ h => h) (yi_mv (Or.inl rfl) rfl rfl) hS ?_
  simp only [Act.put, List.setIfInBounds_toArray, List.set_cons_zero, List.set_cons_succ]
  refine wpAnyH_take (i := 50) (oi := ⟨some 127, _, _, _, _, _⟩) (v := .int .i64 0) rfl (by kernel_rfl) (by kernel_rfl) (by kernel_rfl) (fun _ _ _ h => h) (yi_mv (Or.inl rfl) (by kernel_rfl) rfl) hS ?_
  simp only [Act.put, List.setIfInBounds_toArray, List.set_cons_zero, List.set_cons_succ]
  refine wpAnyH_take (i := 51) (oi := ⟨some 128, _, _, _, _, _⟩) (v := .bool true) rfl (by kernel_rfl) (by kernel_rfl) (by kernel_rfl) (fun _ _ _ h => h) (yi_eql rfl (by kernel_rfl) rfl rfl Try.underlying31 rfl) hS ?_
  simp only [Act.put, List.setIfInBounds_toArray, List.set_cons_zero, List.set_cons_succ]
  refine wpAnyH_take (i := 52) (oi := ⟨some 129, _, _, _, _, _⟩) (v := .bool true) rfl (by kernel_rfl) (by kernel_rfl) (by kernel_rfl) (fun _ _ _ h => h) (yi_pick1 rfl rfl rfl rfl) hS ?_
  simp only [Act.put, List.setIfInBounds_toArray, List.set_cons_zero, List.set_cons_succ]
  refine wpAnyH_take (i := 53) (oi := ⟨some 130, _, _, _, _, _⟩) (v := .bool true) rfl (by kernel_rfl) (by kernel_rfl) (by kernel_rfl) (fun _ _ _ h => h) (yi_mv (Or.inl rfl) rfl rfl) hS ?_
  simp only [Act.put, List.setIfInBounds_toArray, List.set_cons_zero, List.set_cons_succ]
  refine wpAnyH_take (i := 54) (oi := ⟨some 131, _, _, _, _, _⟩) (v := .agg (ceA ⟨3, ⟨10, 5, 0, false⟩, ⟨40, 9, 0, false⟩, (cutU 9), 1, 0, 30⟩)) rfl (by kernel_rfl) (by kernel_rfl) (by kernel_rfl) (fun _ _ _ h => h) (yi_ld0 rfl (by kernel_rfl) rfl (fun w' h => h.2.2.2.2.1) Try.underlying28 rfl ceInfo) hS ?_
  simp only [Act.put, List.setIfInBounds_toArray, List.set_cons_zero, List.set_cons_succ]
  refine anyH_call (i := 55) (op := ⟨some 132, _, _, _, _, _⟩) (by kernel_rfl) rfl rfl (by kernel_rfl) Try.func13 (by kernel_rfl) rfl (ck_yes qc_ok.in qc_ok _) rfl (fun w' hb => ⟨k1.keep hb, k2.keep hb, k3.keep hb, k4.keep hb, k5.keep hb, k6.keep hb, k7.keep hb, k8.keep hb, k9.keep hb, k10.keep hb, k11.keep hb, k12.keep hb, k13.keep hb, k14.keep hb, k15.keep hb, k16.keep hb, below_tr HB.out hb⟩) (fun w' hb hS2 => ?_)
  simp only [Act.put, List.setIfInBounds_toArray, List.set_cons_zero, List.set_cons_succ]
  clear hb
  replace hS := hS2
  clear hS2
  clear k1 k2 k3 k4 k5 k6 k7 k8 k9 k10 k11 k12 k13 k14 k15 k16
  have hS2 := hS
  obtain ⟨k1, k2, k3, k4, k5, k6, k7, k8, k9, k10, k11, k12, k13, k14, k15, k16, hB⟩ := hS2
  replace HB := Lib.hid hB
  clear hB
  refine wpAnyH_take (i := 56) (oi := ⟨some 133, _, _, _, _, _⟩) (v := .bool true) rfl (by kernel_rfl) (by kernel_rfl) (by kernel_rfl) (fun _ _ _ h => h) (yi_eql rfl (by kernel_rfl) rfl rfl Try.underlying31 rfl) hS ?_
  simp only [Act.put, List.setIfInBounds_toArray, List.set_cons_zero, List.set_cons_succ]
  refine wpAnyH_take (i := 57) (oi := ⟨some 134, _, _, _, _, _⟩) (v := .bool true) rfl (by kernel_rfl) (by kernel_rfl) (by kernel_rfl) (fun _ _ _ h => h) (yi_pick1 rfl rfl rfl rfl) hS ?_
  simp only [Act.put, List.setIfInBounds_toArray, List.set_cons_zero, List.set_cons_succ]
  refine wpAnyH_take (i := 58) (oi := ⟨some 135, _, _, _, _, _⟩) (v := .bool true) rfl (by kernel_rfl) (by kernel_rfl) (by kernel_rfl) (fun _ _ _ h => h) (yi_mv (Or.inl rfl) rfl rfl) hS ?_
  simp only [Act.put, List.setIfInBounds_toArray, List.set_cons_zero, List.set_cons_succ]
  refine wpAnyH_take (i := 59) (oi := ⟨some 136, _, _, _, _, _⟩) (v := .agg (evA ⟨10, 5, 0, false⟩)) rfl (by kernel_rfl) (by kernel_rfl) (by kernel_rfl) (fun _ _ _ h => h) (yi_ld0 rfl (by kernel_rfl) rfl (fun w' h => h.1) Try.underlying24 rfl evInfo) hS ?_
  simp only [Act.put, List.setIfInBounds_toArray, List.set_cons_zero, List.set_cons_succ]
  refine wpAnyH_take (i := 60) (oi := ⟨some 137, _, _, _, _, _⟩) (v := .agg (evA ⟨30, 3, 0, false⟩)) rfl (by kernel_rfl) (by kernel_rfl) (by kernel_rfl) (fun _ _ _ h => h) (yi_ld0 rfl (by kernel_rfl) rfl (fun w' h => h.2.1) Try.underlying24 rfl evInfo) hS ?_
  simp only [Act.put, List.setIfInBounds_toArray, List.set_cons_zero, List.set_cons_succ]
  refine wpAnyH_take (i := 61) (oi := ⟨some 138, _, _, _, _, _⟩) (v := .agg (ceA ⟨1, ⟨10, 5, 0, false⟩, ⟨30, 3, 0, false⟩, U.zero, 0, 0, 0⟩)) rfl (by kernel_rfl) (by kernel_rfl) (by kernel_rfl) (fun _ _ _ h => h) (yi_build rfl (by kernel_rfl) (fun w => l8_bld_cell_0_1_2 _ _ _ w) rfl) hS ?_
  simp only [Act.put, List.setIfInBounds_toArray, List.set_cons_zero, List.set_cons_succ]
  refine anyH_call (i := 62) (op := ⟨some 139, _, _, _, _, _⟩) (by kernel_rfl) rfl rfl (by kernel_rfl) Try.func13 (by kernel_rfl) rfl (ck_no qn_in qn_no _) rfl (fun w' hb => ⟨k1.keep hb, k2.keep hb, k3.keep hb, k4.keep hb, k5.keep hb, k6.keep hb, k7.keep hb, k8.keep hb, k9.keep hb, k10.keep hb, k11.keep hb, k12.keep hb, k13.keep hb, k14.keep hb, k15.keep hb, k16.keep hb, below_tr HB.out hb⟩) (fun w' hb hS2 => ?_)
  simp only [Act.put, List.setIfInBounds_toArray, List.set_cons_zero, List.set_cons_succ]
  clear hb
  replace hS := hS2
  clear hS2
  clear k1 k2 k3 k4 k5 k6 k7 k8 k9 k10 k11 k12 k13 k14 k15 k16
  have hS2 := hS
  obtain ⟨k1, k2, k3, k4, k5, k6, k7, k8, k9, k10, k11, k12, k13, k14, k15, k16, hB⟩ := hS2
  replace HB := Lib.hid hB
  clear hB
  refine wpAnyH_take (i := 63) (oi := ⟨some 140, _, _, _, _, _⟩) (v := .bool true) rfl (by kernel_rfl) (by kernel_rfl) (by kernel_rfl) (fun _ _ _ h => h) (yi_eql rfl (by kernel_rfl) rfl rfl Try.underlying31 rfl) hS ?_
  simp only [Act.put, List.setIfInBounds_toArray, List.set_cons_zero, List.set_cons_succ]
  refine wpAnyH_take (i := 64) (oi := ⟨some 141, _, _, _, _, _⟩) (v := .bool true) rfl (by kernel_rfl) (by kernel_rfl) (by kernel_rfl) (fun _ _ _ h => h) (yi_pick1 rfl rfl rfl rfl) hS ?_
  simp only [Act.put, List.setIfInBounds_toArray, List.set_cons_zero, List.set_cons_succ]
  refine wpAnyH_take (i := 65) (oi := ⟨some 0, _, _, _, _, _⟩) (v := .bool true) rfl (by kernel_rfl) (by kernel_rfl) (by kernel_rfl) (fun _ _ _ h => h) (yi_mv (Or.inr rfl) rfl rfl) hS ?_
  simp only [Act.put, List.setIfInBounds_toArray, List.set_cons_zero, List.set_cons_succ]
  refine wpAnyH_done (by kernel_rfl) ?_ _
  clear hS
  go_wp2_with fail
  go_ret
  exact ⟨rfl, HB.out⟩
end Go.Proofs.Ytjdjebhimljedaa
