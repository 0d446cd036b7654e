/-
  WALKS: cell.Merge in all ways, Add, All, Of: what they answer, of any cells and any events.
-/
import Derived.Test.YtjdjebhimljedaaMe
namespace Go.Proofs.Ytjdjebhimljedaa
open Go Go.RowKit

open Classical in
noncomputable def meE (a b : Ce) : Int := if CeOk a ∧ CeOk b then (if a = zeroCe ∨ b = zeroCe ∨ a.l.t < b.f.t then 0 else 9) else 2
open Classical in
noncomputable def meC (a b : Ce) : Ce := if CeOk a ∧ CeOk b then (if a = zeroCe then b else if b = zeroCe then a else if a.l.t < b.f.t then mgC a b else zeroCe) else zeroCe
theorem CeOk.ends {x : Ce} (h : CeOk x) (hz : ¬ x = zeroCe) : EndsOk x := by
  rcases h with h | h
  · exact absurd h hz
  · exact h.1
/-- Merge, of any two cells. -/
theorem me_any {a b : Ce} (ia : CeIn a) (ib : CeIn b) (w : World) :
    Calls Try.prog 7 #[.agg (ceA a), .agg (ceA b)] w fun e w' => e = .returned (.tuple #[.agg (ceA (meC a b)), .int .i64 (meE a b)]) ∧ Below w.heap.size w w' := by
  unfold meC meE
  by_cases ha : CeOk a
  · by_cases hb : CeOk b
    · have hab : CeOk a ∧ CeOk b := ⟨ha, hb⟩
      rw [if_pos hab, if_pos hab]
      by_cases za : a = zeroCe
      · rw [if_pos za, if_pos (show a = zeroCe ∨ b = zeroCe ∨ a.l.t < b.f.t from Or.inl za)]; exact mg3 ia ib ha hb za w
      · rw [if_neg za]
        by_cases zb : b = zeroCe
        · rw [if_pos zb, if_pos (show a = zeroCe ∨ b = zeroCe ∨ a.l.t < b.f.t from Or.inr (Or.inl zb))]; exact mg4 ia ib ha hb za zb w
        · rw [if_neg zb]
          by_cases ht : a.l.t < b.f.t
          · rw [if_pos ht, if_pos (show a = zeroCe ∨ b = zeroCe ∨ a.l.t < b.f.t from Or.inr (Or.inr ht))]; exact mg6 ia ib ha hb za zb (ha.ends za).l (hb.ends zb).f ht w
          · rw [if_neg ht, if_neg (show ¬ (a = zeroCe ∨ b = zeroCe ∨ a.l.t < b.f.t) from fun h => h.elim za fun h => h.elim zb ht)]; exact mg5 ia ib ha hb za zb (ha.ends za).l (hb.ends zb).f ht w
    · have hab : ¬ (CeOk a ∧ CeOk b) := fun x => hb x.2
      rw [if_neg hab, if_neg hab]
      exact mg2 ia ib ha hb w
  · have hab : ¬ (CeOk a ∧ CeOk b) := fun x => ha x.1
    rw [if_neg hab, if_neg hab]
    exact mg1 ia ib ha w
theorem me_is {a b C : Ce} {E : Int} (ia : CeIn a) (ib : CeIn b) (hE : meE a b = E) (hC : meC a b = C) (w : World) :
    Calls Try.prog 7 #[.agg (ceA a), .agg (ceA b)] w fun e w' => e = .returned (.tuple #[.agg (ceA C), .int .i64 E]) ∧ Below w.heap.size w w' := by
  subst hE hC; exact me_any ia ib w
theorem CeOk.in {x : Ce} (h : CeOk x) : CeIn x := by
  have b := h.bd
  have b1 := b.n0; have b2 := b.n1; have b3 := b.r0; have b4 := b.r1; have b5 := b.g0; have b6 := b.g1; have b7 := b.s0; have b8 := b.s1
  rcases h with rfl | ⟨he, _⟩
  · constructor
    · constructor <;> decide
    · constructor <;> decide
    all_goals decide
  · exact ⟨he.f.in, he.l.in, by omega, by omega, by omega, by omega, by omega, by omega, by omega, by omega⟩
theorem zeroOk : CeOk zeroCe := Or.inl rfl
theorem mgC_ok {a b : Ce} (ha : CeOk a) (hb : CeOk b) (za : ¬ a = zeroCe) (zb : ¬ b = zeroCe) (ht : a.l.t < b.f.t) : CeOk (mgC a b) := by
  obtain ⟨ea, na⟩ : EndsOk a ∧ NumsOk a := by exact ha.elim (fun h => absurd h za) id
  obtain ⟨eb, nb⟩ : EndsOk b ∧ NumsOk b := by exact hb.elim (fun h => absurd h zb) id
  obtain ⟨z1, z2, z3, z4, z5, z6, z7⟩ := bt_bd ea.l eb.f ht
  have t1 := ea.t; have t2 := eb.t; have l1 := ea.le; have l2 := eb.le; have n1 := ea.n; have n2 := eb.n
  have hg : ((btC a.l b.f).r = 0 ∨ (btC a.l b.f).g = 0) := by
    show btR _ _ = 0 ∨ btG _ _ = 0
    unfold btR btG
    repeat' split
    all_goals simp
  have hi : (a.i.n + ((btC a.l b.f).i.n + (b.i.n + 0))) < 340282366920938463463374607431768211456 := by
    have := (CeOk.bd ha).i; have := (CeOk.bd hb).i; omega
  refine Or.inr ⟨⟨?_, ea.f, eb.l, ?_, ?_, ?_⟩, ⟨?_, ?_, ?_, ?_, ?_, ?_⟩⟩
  · show 1 ≤ a.n + b.n; omega
  · intro h; have h : a.n + b.n = 1 := h; omega
  · intro _; show a.f.t < b.l.t; omega
  · show a.n + b.n ≤ b.l.t - a.f.t + 1; omega
  · show 0 ≤ a.r + (btC a.l b.f).r + b.r; have := na.r; have := nb.r; omega
  · show 0 ≤ a.g + (btC a.l b.f).g + b.g; have := na.g; have := nb.g; omega
  · show 0 ≤ a.s + (btC a.l b.f).s + b.s; have := na.s; have := nb.s; omega
  · show a.s + (btC a.l b.f).s + b.s ≤ b.l.t - a.f.t; have := na.s1; have := nb.s1; omega
  · show a.r + (btC a.l b.f).r + b.r + (a.g + (btC a.l b.f).g + b.g) < a.n + b.n; have := na.rg; have := nb.rg; omega
  · show (cutU _).n ≤ 18446744073709551615 * (a.n + b.n - 1).toNat
    rw [cutU_n hi]
    have e : (a.n + b.n - 1).toNat = (a.n - 1).toNat + ((b.n - 1).toNat + 1) := by omega
    rw [e, Nat.mul_add, Nat.mul_add]
    have := na.i; have := nb.i
    omega
theorem meC_ok (a b : Ce) : CeOk (meC a b) := by
  unfold meC
  split
  · rename_i h
    split
    · exact h.2
    · split
      · exact h.1
      · split
        · exact mgC_ok h.1 h.2 (by assumption) (by assumption) (by assumption)
        · exact zeroOk
  · exact zeroOk

/-- The cell of one event. -/
def oneC (e : Ev) : Ce := ⟨1, e, e, U.zero, 0, 0, 0⟩
theorem oneC_nz (e : Ev) : ¬ oneC e = zeroCe := fun h => by
  have : (1 : Int) = 0 := congrArg Ce.n h
  exact absurd this (by decide)
theorem oneC_ok {e : Ev} : CeOk (oneC e) ↔ EvOk e := by
  refine ⟨fun h => (h.ends (oneC_nz e)).f, fun h => Or.inr ⟨⟨?_, h, h, fun _ => rfl, ?_, ?_⟩, ⟨?_, ?_, ?_, ?_, ?_, ?_⟩⟩⟩
  · show (1 : Int) ≤ 1; omega
  · intro h1; have h1 : (1 : Int) < 1 := h1; omega
  · show (1 : Int) ≤ e.t - e.t + 1; omega
  · show (0 : Int) ≤ 0; omega
  · show (0 : Int) ≤ 0; omega
  · show (0 : Int) ≤ 0; omega
  · show (0 : Int) ≤ e.t - e.t; omega
  · show (0 : Int) + 0 < 1; omega
  · exact Nat.zero_le _
theorem oneC_in {e : Ev} (h : EvIn e) : CeIn (oneC e) := ⟨h, h, by show _ ≤ (1 : Int); omega, by show (1 : Int) ≤ _; omega, by show _ ≤ (0 : Int); omega, by show (0 : Int) ≤ _; omega, by show _ ≤ (0 : Int); omega, by show (0 : Int) ≤ _; omega, by show _ ≤ (0 : Int); omega, by show (0 : Int) ≤ _; omega⟩

theorem mf_bld_cell_0_1_2 (x0 : Int) (x1 : Ev) (x2 : Ev) (w : World) : (Instr.build 28 #[(0, .int .i64 x0), (1, .agg (evA x1)), (2, .agg (evA x2))]).run Try.prog w = .ok (.agg (ceA ⟨x0, x1, x2, U.zero, 0, 0, 0⟩)) w := by
  unfold ceA evA
  try simp only [zero_hi, zero_lo, zeroEv]
  go_simp
set_option maxHeartbeats 4000000 in
set_option maxRecDepth 100000 in
/-- Add, of any cell and any event. -/
theorem ad_any {c : Ce} {e : Ev} (ic : CeIn c) (ie : EvIn e) (w : World) :
    Calls Try.prog 9 #[.agg (ceA c), .agg (evA e)] w fun r w' => r = .returned (.tuple #[.agg (ceA (meC c (oneC e))), .int .i64 (meE c (oneC e))]) ∧ Below w.heap.size w w' := by
  have IC := Lib.hid ic
  have IE := Lib.hid ie
  clear ic ie
  have HB := Lib.hid (Below.refl w.heap.size w)
  go_enter Try.func9, Try.ntmps9
  go_wp2_with (first
      | ((with_reducible refine at_slot 2 ?_); refine wl_box (A := (ceA c)) rfl rfl rfl ?_; intro W1 g1 k1 hb hle; have L1 := Lib.hid (Nat.le_trans HB.out.size hle); replace HB := Lib.hid (below_tr HB.out hb); clear hb hle)
      | ((with_reducible refine at_slot 3 ?_); refine wl_box (A := (evA e)) rfl rfl rfl ?_; intro W2 g2 k2 hb hle; have n1_2 := Lib.hid (Blk.ne_of_le k1 hle); have L2 := Lib.hid (Nat.le_trans HB.out.size hle); replace k1 := k1.keep hb; replace HB := Lib.hid (below_tr HB.out hb); clear hb hle)
      | ((with_reducible refine at_slot 4 ?_); refine wl_alloc (A := (ceA zeroCe)) rfl rfl ce_zero rfl ?_; intro W3 g3 k3 hb hle; have n1_3 := Lib.hid (Blk.ne_of_le k1 hle); have n2_3 := Lib.hid (Blk.ne_of_le k2 hle); have L3 := Lib.hid (Nat.le_trans HB.out.size hle); replace k1 := k1.keep hb; replace k2 := k2.keep hb; replace HB := Lib.hid (below_tr HB.out hb); clear hb hle)
      | ((with_reducible refine at_slot 6 ?_); refine wl_ld0 rfl rfl rfl k1 Try.underlying28 rfl ceInfo ?_)
      | ((with_reducible refine at_slot 7 ?_); refine wl_ld0 rfl rfl rfl k2 Try.underlying24 rfl evInfo ?_)
      | ((with_reducible refine at_slot 8 ?_); refine wl_ld0 rfl rfl rfl k2 Try.underlying24 rfl evInfo ?_)
      | ((with_reducible refine at_slot 9 ?_); refine wl_build (v := .agg (ceA ⟨1, e, e, U.zero, 0, 0, 0⟩)) rfl rfl (mf_bld_cell_0_1_2 _ _ _ _) rfl ?_)
      | ((with_reducible refine at_slot 10 ?_); refine wl_call rfl rfl Try.func7 (by kernel_rfl) rfl (me_any IC.out (oneC_in IE.out) _) rfl ?_; intro V1 hb; replace k1 := k1.keep hb; replace k2 := k2.keep hb; replace k3 := k3.keep hb; replace HB := Lib.hid (below_tr HB.out hb); clear hb)
      | ((with_reducible refine at_store 4 ?_); refine wl_st0 (A' := (ceA (meC c (oneC e)))) rfl rfl rfl rfl k3 rfl ceInfo (ceA_one (meC c (oneC e))) ?_; intro V2 kn hu; replace k1 := k1.upd hu n1_3.out; replace k2 := k2.upd hu n2_3.out; replace HB := Lib.hid (upd_below HB.out hu L3.out); clear k3; have k3 : Blk _ g3 _ (ceA (meC c (oneC e))) := kn; clear kn hu))
  refine bodyPost_ret (v := .tuple #[.agg (ceA (meC c (oneC e))), .int .i64 (meE c (oneC e))]) (results_ct Try.results9 _ rfl rfl k3 Try.underlying28 rfl ceInfo) rfl ?_
  exact ⟨rfl, HB.out⟩
theorem ad_is {c : Ce} {e : Ev} {E : Int} (ic : CeIn c) (ie : EvIn e) (hE : meE c (oneC e) = E) (w : World) :
    Calls Try.prog 9 #[.agg (ceA c), .agg (evA e)] w fun r w' => r = .returned (.tuple #[.agg (ceA (meC c (oneC e))), .int .i64 E]) ∧ Below w.heap.size w w' := by
  subst hE; exact ad_any ic ie w
end Go.Proofs.Ytjdjebhimljedaa
