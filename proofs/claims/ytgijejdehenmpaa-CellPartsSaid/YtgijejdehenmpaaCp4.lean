/-
  THE LAW plimsolllaw08.CellParts: the walk: it answers true, of any events and any two places.
-/
import Derived.Test.YtgijejdehenmpaaAs
import Derived.Test.YtgijejdehenmpaaSl
namespace Go.Proofs.Ytgijejdehenmpaa
open Go Go.RowKit

/-- Part of events in a row: from i on, ahead of k. -/
def evPart (ao : Option Addr) (i k cap : Nat) : Value := .slice (if cap = i then ao else ao.map (·.add (i * 4))) (k - i) (cap - i)
theorem sl_lh (ao : Option Addr) (n cap i k : Nat) (h1 : i ≤ k) (h2 : k ≤ cap) (w : World) : (Instr.sliceAt 25 (.slice ao n cap) (some (.int .i64 (i : Int))) (some (.int .i64 (k : Int))) none).run Try.prog w = .ok (evPart ao i k cap) w := by
  rw [run_sliceAt_slice w _ _ _ _ _ Try.underlying25, run_slice_lh w _ _ _ _ Try.underlying25 .i64 .i64 i k (by omega) (by omega) (by omega)]
  go_simp
  rfl
theorem sl_h (ao : Option Addr) (n cap k : Nat) (h2 : k ≤ cap) (w : World) : (Instr.sliceAt 25 (.slice ao n cap) none (some (.int .i64 (k : Int))) none).run Try.prog w = .ok (evPart ao 0 k cap) w := by
  rw [run_sliceAt_slice w _ _ _ _ _ Try.underlying25, run_slice_h w _ _ _ _ Try.underlying25 .i64 k (by omega) (by omega)]
  unfold evPart
  go_simp
theorem sl_l (ao : Option Addr) (n cap i : Nat) (h1 : i ≤ n) (w : World) : (Instr.sliceAt 25 (.slice ao n cap) (some (.int .i64 (i : Int))) none none).run Try.prog w = .ok (evPart ao i n cap) w := by
  rw [run_sliceAt_slice w _ _ _ _ _ Try.underlying25, run_slice_l w _ _ _ _ Try.underlying25 .i64 i (by omega) (by omega)]
  go_simp
  rfl
/-- Of, of a part of events in a row. -/
theorem of_part {ao : Option Addr} {b off cap : Nat} {l m : List Ev} {E : Int} {C : Ce} {W : World} (h : EvsAt W ao b off l) (i k : Nat) (h1 : i ≤ k) (h2 : k ≤ l.length) (h3 : l.length ≤ cap) (hl : l.length ≤ 200) (hm : (l.take k).drop i = m) (hE : ofE m = E) (hC : ofC m = C) :
    Calls Try.prog 30 #[evPart ao i k cap] W fun e w' => e = .returned (.tuple #[.agg (ceA C), .int .i64 E]) ∧ Below W.heap.size W w' := by
  subst hE hC
  have hlen : m.length = k - i := by rw [← hm, List.length_drop, List.length_take]; omega
  have hx : ∃ ao' : Option Addr, evPart ao i k cap = .slice ao' m.length (cap - i) ∧ EvsAt W ao' b (off + i * 4) m := by
    refine ⟨if cap = i then ao else ao.map (·.add (i * 4)), by rw [hlen]; rfl, ?_, ?_, ?_⟩
    · intro hp
      rw [hlen] at hp
      obtain ⟨e1, e2⟩ := h.at_ (by omega)
      rw [if_neg (by omega), e1]
      refine ⟨?_, e2⟩
      simp [Addr.add_lit]
    · intro j hj
      rw [hlen] at hj
      have := h.row (i + j) (by omega)
      rw [show off + (i + j) * 4 = off + i * 4 + j * 4 by omega] at this
      have e : m[j]'(by omega) = l[i + j]'(by omega) := by simp [← hm]
      rw [e]
      exact this
    · intro j hj
      rw [hlen] at hj
      have e : m[j]'(by omega) = l[i + j]'(by omega) := by simp [← hm]
      rw [e]
      exact h.fits _ _
  obtain ⟨ao', e, ha⟩ := hx
  rw [e]
  exact of_evs ao' b _ _ m (by omega) W ha
theorem of_all {ao : Option Addr} {b off cap : Nat} {l : List Ev} {E : Int} {C : Ce} {W : World} (h : EvsAt W ao b off l) (hl : l.length ≤ 200) (hE : ofE l = E) (hC : ofC l = C) :
    Calls Try.prog 30 #[.slice ao l.length cap] W fun e w' => e = .returned (.tuple #[.agg (ceA C), .int .i64 E]) ∧ Below W.heap.size W w' := by
  subst hE hC
  exact of_evs ao b off cap l (by omega) W h
theorem ri_all' {ao : Option Addr} {b off cap : Nat} {l : List Ev} {W : World} (h : EvsAt W ao b off l) (hl : l.length ≤ 200) (hE : ofE l = 0) :
    Calls Try.prog 15 #[.slice ao l.length cap] W fun e w' => e = .returned (.tuple #[.agg (wdA (ofC l).i), .int .i64 0]) ∧ Below W.heap.size W w' := by
  have := ri_any ao b off cap l (by omega) W h
  rw [(ris_of hE).1, (ris_of hE).2, show cutU (ofC l).i.n = (ofC l).i from U.ext (cutU_n (ofC l).i.lt)] at this
  exact this
theorem ofE_no {l : List Ev} (h : ofE l ≠ 0) : ofC l = zeroCe := by
  unfold ofE at h
  unfold ofC
  split
  · rename_i ha
    rw [if_pos ha] at h
    clear ha
    have : ∀ (m : List Ce) (acc : Ce), allE acc m ≠ 0 → allC acc m = zeroCe := by
      intro m
      induction m with
      | nil => intro acc h; exact absurd rfl h
      | cons d m ih =>
        intro acc h
        by_cases hd : meE acc d = 0
        · rw [(allC_cons hd).2] at h
          rw [(allC_cons hd).1]
          exact ih _ h
        · exact if_neg hd
    exact this _ _ h
  · rfl

set_option maxHeartbeats 4000000 in
set_option maxRecDepth 100000 in
theorem cp_e1 (ao : Option Addr) (b off cap : Nat) (l : List Ev) {i k : Int} (hm : l.length ≤ 9223372036854775807) (h1 : 200 < l.length) (w : World) (h : EvsAt w ao b off l) :
    Calls Try.prog 8 #[.slice ao l.length cap, .int .i64 i, .int .i64 k] w fun e w' => e = .returned (.bool true) ∧ Below w.heap.size w w' := by
  have hm2 : (l.length : Int) ≤ 9223372036854775807 := by omega
  have d1 : decide (200 < (l.length : Int)) = true := by simp <;> omega
  have HB := Lib.hid (Below.refl w.heap.size w)
  go_enter Try.func8, Try.ntmps8
  go_wp2_with (first
      | ((with_reducible refine at_slot 25 ?_); refine wl_call rfl rfl Try.func21 (by kernel_rfl) rfl (lives8 _) rfl ?_; intro V1 hb; replace HB := Lib.hid (below_tr HB.out hb); clear hb))
  go_ret
  exact ⟨rfl, HB.out⟩
set_option maxHeartbeats 4000000 in
set_option maxRecDepth 100000 in
theorem cp_e2 (ao : Option Addr) (b off cap : Nat) (l : List Ev) {i k : Int} (hm : l.length ≤ 9223372036854775807) (h1 : ¬ 200 < l.length) (h2 : i < 0) (w : World) (h : EvsAt w ao b off l) :
    Calls Try.prog 8 #[.slice ao l.length cap, .int .i64 i, .int .i64 k] w fun e w' => e = .returned (.bool true) ∧ Below w.heap.size w w' := by
  have hm2 : (l.length : Int) ≤ 9223372036854775807 := by omega
  have d1 : decide (200 < (l.length : Int)) = false := by simp <;> omega
  have d2 : decide (i < 0) = true := by simp <;> omega
  have HB := Lib.hid (Below.refl w.heap.size w)
  go_enter Try.func8, Try.ntmps8
  go_wp2_with (first
      | ((with_reducible refine at_slot 25 ?_); refine wl_call rfl rfl Try.func21 (by kernel_rfl) rfl (lives8 _) rfl ?_; intro V1 hb; replace HB := Lib.hid (below_tr HB.out hb); clear hb))
  go_ret
  exact ⟨rfl, HB.out⟩
set_option maxHeartbeats 4000000 in
set_option maxRecDepth 100000 in
theorem cp_e3 (ao : Option Addr) (b off cap : Nat) (l : List Ev) {i k : Int} (hm : l.length ≤ 9223372036854775807) (h1 : ¬ 200 < l.length) (h2 : ¬ i < 0) (h3 : k < i) (w : World) (h : EvsAt w ao b off l) :
    Calls Try.prog 8 #[.slice ao l.length cap, .int .i64 i, .int .i64 k] w fun e w' => e = .returned (.bool true) ∧ Below w.heap.size w w' := by
  have hm2 : (l.length : Int) ≤ 9223372036854775807 := by omega
  have d1 : decide (200 < (l.length : Int)) = false := by simp <;> omega
  have d2 : decide (i < 0) = false := by simp <;> omega
  have d3 : decide (k < i) = true := by simp <;> omega
  have HB := Lib.hid (Below.refl w.heap.size w)
  go_enter Try.func8, Try.ntmps8
  go_wp2_with (first
      | ((with_reducible refine at_slot 25 ?_); refine wl_call rfl rfl Try.func21 (by kernel_rfl) rfl (lives8 _) rfl ?_; intro V1 hb; replace HB := Lib.hid (below_tr HB.out hb); clear hb))
  go_ret
  exact ⟨rfl, HB.out⟩
set_option maxHeartbeats 4000000 in
set_option maxRecDepth 100000 in
theorem cp_e4 (ao : Option Addr) (b off cap : Nat) (l : List Ev) {i k : Int} (hm : l.length ≤ 9223372036854775807) (h1 : ¬ 200 < l.length) (h2 : ¬ i < 0) (h3 : ¬ k < i) (h4 : (l.length : Int) < k) (w : World) (h : EvsAt w ao b off l) :
    Calls Try.prog 8 #[.slice ao l.length cap, .int .i64 i, .int .i64 k] w fun e w' => e = .returned (.bool true) ∧ Below w.heap.size w w' := by
  have hm2 : (l.length : Int) ≤ 9223372036854775807 := by omega
  have d1 : decide (200 < (l.length : Int)) = false := by simp <;> omega
  have d2 : decide (i < 0) = false := by simp <;> omega
  have d3 : decide (k < i) = false := by simp <;> omega
  have d4 : decide ((l.length : Int) < k) = true := by simp <;> omega
  have HB := Lib.hid (Below.refl w.heap.size w)
  go_enter Try.func8, Try.ntmps8
  go_wp2_with (first
      | ((with_reducible refine at_slot 25 ?_); refine wl_call rfl rfl Try.func21 (by kernel_rfl) rfl (lives8 _) rfl ?_; intro V1 hb; replace HB := Lib.hid (below_tr HB.out hb); clear hb))
  go_ret
  exact ⟨rfl, HB.out⟩
set_option maxHeartbeats 4000000 in
set_option maxRecDepth 100000 in
theorem cp_no (ao : Option Addr) (b off cap : Nat) (l : List Ev) {i k : Nat} (hl : l.length ≤ 200) (hik : i ≤ k) (hk : k ≤ l.length) (hcap : l.length ≤ cap) {E : Int} (hE : ofE l = E) (hE0 : E ≠ 0) (hC : ofC l = zeroCe) (w : World) (h : EvsAt w ao b off l) :
    Calls Try.prog 8 #[.slice ao l.length cap, .int .i64 (i : Int), .int .i64 (k : Int)] w fun e w' => e = .returned (.bool true) ∧ Below w.heap.size w w' := by
  have d1 : decide (200 < (l.length : Int)) = false := by simp <;> omega
  have d2 : decide ((i : Int) < 0) = false := by simp <;> omega
  have d3 : decide ((k : Int) < i) = false := by simp <;> omega
  have d3n : decide (k < i) = false := by simp <;> omega
  have d4 : decide ((l.length : Int) < k) = false := by simp <;> omega
  have d4n : decide (l.length < k) = false := by simp <;> omega
  have d1n : decide (200 < l.length) = false := by simp <;> omega
  have j1 : (i : Int) ≤ k := by omega
  have j2 : (k : Int) ≤ l.length := by omega
  have dE : (E != 0) = true := by simpa using hE0
  have H := Lib.hid h
  have HL := Lib.hid hl
  have HE := Lib.hid hE
  have HC := Lib.hid hC
  clear h hl hE hC
  clear hE0 hik hk hcap
  have HB := Lib.hid (Below.refl w.heap.size w)
  go_enter Try.func8, Try.ntmps8
  go_wp2_with (first
      | ((with_reducible refine at_slot 25 ?_); refine wl_call rfl rfl Try.func21 (by kernel_rfl) rfl (lives8 _) rfl ?_; intro V1 hb; replace HB := Lib.hid (below_tr HB.out hb); clear hb)
      | ((with_reducible refine at_slot 47 ?_); refine wl_call rfl rfl Try.func30 (by kernel_rfl) rfl (of_all (H.out.keep HB.out) HL.out HE.out HC.out) rfl ?_; intro V2 hb; replace HB := Lib.hid (below_tr HB.out hb); clear hb)
      | ((with_reducible refine at_slot 7 ?_); refine wl_alloc (A := (ceA zeroCe)) rfl rfl ce_zero rfl ?_; intro W1 g1 k1 hb hle; have L1 := Lib.hid (Nat.le_trans HB.out.size hle); replace HB := Lib.hid (below_tr HB.out hb); clear hb hle)
      | ((with_reducible refine at_store 7 ?_); refine wl_st0 (A' := (ceA zeroCe)) rfl rfl rfl rfl k1 rfl ceInfo (ceA_one zeroCe) ?_; intro V3 kn hu; replace HB := Lib.hid (upd_below HB.out hu L1.out); clear k1; have k1 : Blk _ g1 _ (ceA zeroCe) := kn; clear kn hu)
      | ((with_reducible refine at_slot 52 ?_); refine wl_ld0 rfl rfl rfl k1 Try.underlying30 rfl ceInfo ?_)
      | ((with_reducible refine at_slot 53 ?_); refine wl_build (v := .agg (ceA zeroCe)) rfl rfl (build_ce0 _) rfl ?_)
      | ((with_reducible refine at_slot 54 ?_); refine wl_bin (v := .bool true) rfl rfl (run_eqGuard_agg _ _ _ _ _ _ _ (by kernel_rfl)) (ce_eql_yes rfl _) ?_))
  go_ret
  exact ⟨rfl, HB.out⟩
set_option maxHeartbeats 4000000 in
set_option maxRecDepth 100000 in
theorem cp_yes (ao : Option Addr) (b off cap : Nat) (l : List Ev) {i k : Nat} (hl : l.length ≤ 200) (hik : i ≤ k) (hk : k ≤ l.length) (hcap : l.length ≤ cap) (hE : ofE l = 0) (w : World) (h : EvsAt w ao b off l) :
    Calls Try.prog 8 #[.slice ao l.length cap, .int .i64 (i : Int), .int .i64 (k : Int)] w fun e w' => e = .returned (.bool true) ∧ Below w.heap.size w w' := by
  have d1 : decide (200 < (l.length : Int)) = false := by simp <;> omega
  have d2 : decide ((i : Int) < 0) = false := by simp <;> omega
  have d3 : decide ((k : Int) < i) = false := by simp <;> omega
  have d3n : decide (k < i) = false := by simp <;> omega
  have d4 : decide ((l.length : Int) < k) = false := by simp <;> omega
  have d4n : decide (l.length < k) = false := by simp <;> omega
  have d1n : decide (200 < l.length) = false := by simp <;> omega
  have j1 : (i : Int) ≤ k := by omega
  have j2 : (k : Int) ≤ l.length := by omega
  obtain ⟨lx, hx⟩ : ∃ m, (l.take i).drop 0 = m := ⟨_, rfl⟩
  obtain ⟨ly, hy⟩ : ∃ m, (l.take k).drop i = m := ⟨_, rfl⟩
  obtain ⟨lz, hz⟩ : ∃ m, (l.take l.length).drop k = m := ⟨_, rfl⟩
  have hxy : lx ++ ly = l.take k := by
    rw [← hx, ← hy, List.drop_zero]
    have := List.take_append_drop i (l.take k)
    rw [List.take_take, Nat.min_eq_left hik] at this
    exact this
  have hyz : ly ++ lz = l.drop i := by
    rw [← hy, ← hz, List.take_length]
    have := List.take_append_drop (k - i) (l.drop i)
    rw [List.drop_drop, show i + (k - i) = k by omega] at this
    rw [List.drop_take]
    exact this
  have e1 : lx ++ (ly ++ lz) = l := by rw [hyz, ← hx, List.drop_zero]; exact List.take_append_drop i l
  have e2 : (lx ++ ly) ++ lz = l := by rw [List.append_assoc]; exact e1
  obtain ⟨x1, x2, x3, x4⟩ := of_two (l := lx) (m := ly ++ lz) (by rw [e1]; exact hE)
  obtain ⟨y1, y2, y3, y4⟩ := of_two (l := lx ++ ly) (m := lz) (by rw [e2]; exact hE)
  obtain ⟨_, z2, z3, z4⟩ := of_two y1
  obtain ⟨_, _, u3, u4⟩ := of_two x2
  rw [e1] at x4
  rw [e2] at y4
  have XO := Lib.hid (ofC_ok lx)
  have YO := Lib.hid (ofC_ok ly)
  have ZO := Lib.hid (ofC_ok lz)
  have PO := Lib.hid (ofC_ok (lx ++ ly))
  have RO := Lib.hid (ofC_ok (ly ++ lz))
  have CO := Lib.hid (ofC_ok l)
  have RI := Lib.hid (fun W (hW : EvsAt W ao b off l) => ri_all' (cap := cap) hW hl hE)
  obtain ⟨C, hC⟩ : ∃ C, ofC l = C := ⟨_, rfl⟩
  obtain ⟨X, hX⟩ : ∃ C, ofC lx = C := ⟨_, rfl⟩
  obtain ⟨Y, hY⟩ : ∃ C, ofC ly = C := ⟨_, rfl⟩
  obtain ⟨Zz, hZ⟩ : ∃ C, ofC lz = C := ⟨_, rfl⟩
  obtain ⟨Pp, hP⟩ : ∃ C, ofC (lx ++ ly) = C := ⟨_, rfl⟩
  obtain ⟨Rr, hR⟩ : ∃ C, ofC (ly ++ lz) = C := ⟨_, rfl⟩
  rw [hC, hX, hR] at x4
  rw [hC, hP, hZ] at y4
  rw [hX, hY, hP] at z4
  rw [hY, hZ, hR] at u4
  rw [hX, hR] at x3
  rw [hP, hZ] at y3
  rw [hX, hY] at z3
  rw [hY, hZ] at u3
  rw [hX] at XO
  rw [hY] at YO
  rw [hZ] at ZO
  rw [hP] at PO
  rw [hR] at RO
  rw [hC] at CO RI
  clear hxy hyz e1 e2 x2 y1
  have H := Lib.hid h
  have HL := Lib.hid hl
  have HE := Lib.hid hE
  have HC := Lib.hid hC
  have HX := Lib.hid hX
  have HY := Lib.hid hY
  have HZ := Lib.hid hZ
  have X1 := Lib.hid x1
  have X3 := Lib.hid x3
  have X4 := Lib.hid x4
  have Y2 := Lib.hid y2
  have Y3 := Lib.hid y3
  have Y4 := Lib.hid y4
  have Z2 := Lib.hid z2
  have Z3 := Lib.hid z3
  have Z4 := Lib.hid z4
  have U3 := Lib.hid u3
  have U4 := Lib.hid u4
  have HX2 := Lib.hid hx
  have HY2 := Lib.hid hy
  have HZ2 := Lib.hid hz
  have HIK := Lib.hid hik
  have HK := Lib.hid hk
  have HCAP := Lib.hid hcap
  clear hP hR h hl hE hC hX hY hZ x1 x3 x4 y2 y3 y4 z2 z3 z4 u3 u4 hx hy hz hik hk hcap
  have HB := Lib.hid (Below.refl w.heap.size w)
  go_enter Try.func8, Try.ntmps8
  go_wp2_with (first
      | ((with_reducible refine at_slot 25 ?_); refine wl_call rfl rfl Try.func21 (by kernel_rfl) rfl (lives8 _) rfl ?_; intro V1 hb; replace HB := Lib.hid (below_tr HB.out hb); clear hb)
      | ((with_reducible refine at_slot 47 ?_); refine wl_call rfl rfl Try.func30 (by kernel_rfl) rfl (of_all (H.out.keep HB.out) HL.out HE.out HC.out) rfl ?_; intro V2 hb; replace HB := Lib.hid (below_tr HB.out hb); clear hb)
      | ((with_reducible refine at_slot 7 ?_); refine wl_alloc (A := (ceA zeroCe)) rfl rfl ce_zero rfl ?_; intro W1 g1 k1 hb hle; have L1 := Lib.hid (Nat.le_trans HB.out.size hle); replace HB := Lib.hid (below_tr HB.out hb); clear hb hle)
      | ((with_reducible refine at_store 7 ?_); refine wl_st0 (A' := (ceA C)) rfl rfl rfl rfl k1 rfl ceInfo (ceA_one C) ?_; intro V3 kn hu; replace HB := Lib.hid (upd_below HB.out hu L1.out); clear k1; have k1 : Blk _ g1 _ (ceA C) := kn; clear kn hu)
      | ((with_reducible refine at_slot 58 ?_); refine wl_slice rfl rfl (sl_h ao l.length cap i (Nat.le_trans (Nat.le_trans HIK.out HK.out) HCAP.out) _) rfl rfl rfl ?_)
      | ((with_reducible refine at_slot 59 ?_); refine wl_call rfl rfl Try.func30 (by kernel_rfl) rfl (of_part (H.out.keep HB.out) 0 i (Nat.zero_le _) (Nat.le_trans HIK.out HK.out) HCAP.out HL.out HX2.out X1.out HX.out) rfl ?_; intro V4 hb; replace k1 := k1.keep hb; replace HB := Lib.hid (below_tr HB.out hb); clear hb)
      | ((with_reducible refine at_slot 9 ?_); refine wl_alloc (A := (ceA zeroCe)) rfl rfl ce_zero rfl ?_; intro W2 g2 k2 hb hle; have n1_2 := Lib.hid (Blk.ne_of_le k1 hle); have L2 := Lib.hid (Nat.le_trans HB.out.size hle); replace k1 := k1.keep hb; replace HB := Lib.hid (below_tr HB.out hb); clear hb hle)
      | ((with_reducible refine at_store 9 ?_); refine wl_st0 (A' := (ceA X)) rfl rfl rfl rfl k2 rfl ceInfo (ceA_one X) ?_; intro V5 kn hu; replace k1 := k1.upd hu n1_2.out; replace HB := Lib.hid (upd_below HB.out hu L2.out); clear k2; have k2 : Blk _ g2 _ (ceA X) := kn; clear kn hu)
      | ((with_reducible refine at_slot 66 ?_); refine wl_slice rfl rfl (sl_lh ao l.length cap i k HIK.out (Nat.le_trans HK.out HCAP.out) _) rfl rfl rfl ?_)
      | ((with_reducible refine at_slot 67 ?_); refine wl_call rfl rfl Try.func30 (by kernel_rfl) rfl (of_part (H.out.keep HB.out) i k HIK.out HK.out HCAP.out HL.out HY2.out Z2.out HY.out) rfl ?_; intro V6 hb; replace k1 := k1.keep hb; replace k2 := k2.keep hb; replace HB := Lib.hid (below_tr HB.out hb); clear hb)
      | ((with_reducible refine at_slot 11 ?_); refine wl_alloc (A := (ceA zeroCe)) rfl rfl ce_zero rfl ?_; intro W3 g3 k3 hb hle; have n1_3 := Lib.hid (Blk.ne_of_le k1 hle); have n2_3 := Lib.hid (Blk.ne_of_le k2 hle); have L3 := Lib.hid (Nat.le_trans HB.out.size hle); replace k1 := k1.keep hb; replace k2 := k2.keep hb; replace HB := Lib.hid (below_tr HB.out hb); clear hb hle)
      | ((with_reducible refine at_store 11 ?_); refine wl_st0 (A' := (ceA Y)) rfl rfl rfl rfl k3 rfl ceInfo (ceA_one Y) ?_; intro V7 kn hu; replace k1 := k1.upd hu n1_3.out; replace k2 := k2.upd hu n2_3.out; replace HB := Lib.hid (upd_below HB.out hu L3.out); clear k3; have k3 : Blk _ g3 _ (ceA Y) := kn; clear kn hu)
      | ((with_reducible refine at_slot 73 ?_); refine wl_slice rfl rfl (sl_l ao l.length cap k HK.out _) rfl rfl rfl ?_)
      | ((with_reducible refine at_slot 74 ?_); refine wl_call rfl rfl Try.func30 (by kernel_rfl) rfl (of_part (H.out.keep HB.out) k l.length HK.out (Nat.le_refl _) HCAP.out HL.out HZ2.out Y2.out HZ.out) rfl ?_; intro V8 hb; replace k1 := k1.keep hb; replace k2 := k2.keep hb; replace k3 := k3.keep hb; replace HB := Lib.hid (below_tr HB.out hb); clear hb)
      | ((with_reducible refine at_slot 13 ?_); refine wl_alloc (A := (ceA zeroCe)) rfl rfl ce_zero rfl ?_; intro W4 g4 k4 hb hle; have n1_4 := Lib.hid (Blk.ne_of_le k1 hle); have n2_4 := Lib.hid (Blk.ne_of_le k2 hle); have n3_4 := Lib.hid (Blk.ne_of_le k3 hle); have L4 := Lib.hid (Nat.le_trans HB.out.size hle); replace k1 := k1.keep hb; replace k2 := k2.keep hb; replace k3 := k3.keep hb; replace HB := Lib.hid (below_tr HB.out hb); clear hb hle)
      | ((with_reducible refine at_store 13 ?_); refine wl_st0 (A' := (ceA Zz)) rfl rfl rfl rfl k4 rfl ceInfo (ceA_one Zz) ?_; intro V9 kn hu; replace k1 := k1.upd hu n1_4.out; replace k2 := k2.upd hu n2_4.out; replace k3 := k3.upd hu n3_4.out; replace HB := Lib.hid (upd_below HB.out hu L4.out); clear k4; have k4 : Blk _ g4 _ (ceA Zz) := kn; clear kn hu)
      | ((with_reducible refine at_slot 78 ?_); refine wl_ld0 rfl rfl rfl k2 Try.underlying30 rfl ceInfo ?_)
      | ((with_reducible refine at_slot 79 ?_); refine wl_ld0 rfl rfl rfl k3 Try.underlying30 rfl ceInfo ?_)
      | ((with_reducible refine at_slot 80 ?_); refine wl_call rfl rfl Try.func22 (by kernel_rfl) rfl (me_is XO.out.in YO.out.in Z3.out Z4.out _) rfl ?_; intro V10 hb; replace k1 := k1.keep hb; replace k2 := k2.keep hb; replace k3 := k3.keep hb; replace k4 := k4.keep hb; replace HB := Lib.hid (below_tr HB.out hb); clear hb)
      | ((with_reducible refine at_slot 15 ?_); refine wl_alloc (A := (ceA zeroCe)) rfl rfl ce_zero rfl ?_; intro W5 g5 k5 hb hle; have n1_5 := Lib.hid (Blk.ne_of_le k1 hle); have n2_5 := Lib.hid (Blk.ne_of_le k2 hle); have n3_5 := Lib.hid (Blk.ne_of_le k3 hle); have n4_5 := Lib.hid (Blk.ne_of_le k4 hle); have L5 := Lib.hid (Nat.le_trans HB.out.size hle); replace k1 := k1.keep hb; replace k2 := k2.keep hb; replace k3 := k3.keep hb; replace k4 := k4.keep hb; replace HB := Lib.hid (below_tr HB.out hb); clear hb hle)
      | ((with_reducible refine at_store 15 ?_); refine wl_st0 (A' := (ceA Pp)) rfl rfl rfl rfl k5 rfl ceInfo (ceA_one Pp) ?_; intro V11 kn hu; replace k1 := k1.upd hu n1_5.out; replace k2 := k2.upd hu n2_5.out; replace k3 := k3.upd hu n3_5.out; replace k4 := k4.upd hu n4_5.out; replace HB := Lib.hid (upd_below HB.out hu L5.out); clear k5; have k5 : Blk _ g5 _ (ceA Pp) := kn; clear kn hu)
      | ((with_reducible refine at_slot 84 ?_); refine wl_ld0 rfl rfl rfl k5 Try.underlying30 rfl ceInfo ?_)
      | ((with_reducible refine at_slot 85 ?_); refine wl_ld0 rfl rfl rfl k4 Try.underlying30 rfl ceInfo ?_)
      | ((with_reducible refine at_slot 86 ?_); refine wl_call rfl rfl Try.func22 (by kernel_rfl) rfl (me_is PO.out.in ZO.out.in Y3.out Y4.out _) rfl ?_; intro V12 hb; replace k1 := k1.keep hb; replace k2 := k2.keep hb; replace k3 := k3.keep hb; replace k4 := k4.keep hb; replace k5 := k5.keep hb; replace HB := Lib.hid (below_tr HB.out hb); clear hb)
      | ((with_reducible refine at_slot 17 ?_); refine wl_alloc (A := (ceA zeroCe)) rfl rfl ce_zero rfl ?_; intro W6 g6 k6 hb hle; have n1_6 := Lib.hid (Blk.ne_of_le k1 hle); have n2_6 := Lib.hid (Blk.ne_of_le k2 hle); have n3_6 := Lib.hid (Blk.ne_of_le k3 hle); have n4_6 := Lib.hid (Blk.ne_of_le k4 hle); have n5_6 := Lib.hid (Blk.ne_of_le k5 hle); have L6 := Lib.hid (Nat.le_trans HB.out.size hle); replace k1 := k1.keep hb; replace k2 := k2.keep hb; replace k3 := k3.keep hb; replace k4 := k4.keep hb; replace k5 := k5.keep hb; replace HB := Lib.hid (below_tr HB.out hb); clear hb hle)
      | ((with_reducible refine at_store 17 ?_); refine wl_st0 (A' := (ceA C)) rfl rfl rfl rfl k6 rfl ceInfo (ceA_one C) ?_; intro V13 kn hu; replace k1 := k1.upd hu n1_6.out; replace k2 := k2.upd hu n2_6.out; replace k3 := k3.upd hu n3_6.out; replace k4 := k4.upd hu n4_6.out; replace k5 := k5.upd hu n5_6.out; replace HB := Lib.hid (upd_below HB.out hu L6.out); clear k6; have k6 : Blk _ g6 _ (ceA C) := kn; clear kn hu)
      | ((with_reducible refine at_slot 90 ?_); refine wl_ld0 rfl rfl rfl k3 Try.underlying30 rfl ceInfo ?_)
      | ((with_reducible refine at_slot 91 ?_); refine wl_ld0 rfl rfl rfl k4 Try.underlying30 rfl ceInfo ?_)
      | ((with_reducible refine at_slot 92 ?_); refine wl_call rfl rfl Try.func22 (by kernel_rfl) rfl (me_is YO.out.in ZO.out.in U3.out U4.out _) rfl ?_; intro V14 hb; replace k1 := k1.keep hb; replace k2 := k2.keep hb; replace k3 := k3.keep hb; replace k4 := k4.keep hb; replace k5 := k5.keep hb; replace k6 := k6.keep hb; replace HB := Lib.hid (below_tr HB.out hb); clear hb)
      | ((with_reducible refine at_slot 19 ?_); refine wl_alloc (A := (ceA zeroCe)) rfl rfl ce_zero rfl ?_; intro W7 g7 k7 hb hle; have n1_7 := Lib.hid (Blk.ne_of_le k1 hle); have n2_7 := Lib.hid (Blk.ne_of_le k2 hle); have n3_7 := Lib.hid (Blk.ne_of_le k3 hle); have n4_7 := Lib.hid (Blk.ne_of_le k4 hle); have n5_7 := Lib.hid (Blk.ne_of_le k5 hle); have n6_7 := Lib.hid (Blk.ne_of_le k6 hle); have L7 := Lib.hid (Nat.le_trans HB.out.size hle); replace k1 := k1.keep hb; replace k2 := k2.keep hb; replace k3 := k3.keep hb; replace k4 := k4.keep hb; replace k5 := k5.keep hb; replace k6 := k6.keep hb; replace HB := Lib.hid (below_tr HB.out hb); clear hb hle)
      | ((with_reducible refine at_store 19 ?_); refine wl_st0 (A' := (ceA Rr)) rfl rfl rfl rfl k7 rfl ceInfo (ceA_one Rr) ?_; intro V15 kn hu; replace k1 := k1.upd hu n1_7.out; replace k2 := k2.upd hu n2_7.out; replace k3 := k3.upd hu n3_7.out; replace k4 := k4.upd hu n4_7.out; replace k5 := k5.upd hu n5_7.out; replace k6 := k6.upd hu n6_7.out; replace HB := Lib.hid (upd_below HB.out hu L7.out); clear k7; have k7 : Blk _ g7 _ (ceA Rr) := kn; clear kn hu)
      | ((with_reducible refine at_slot 96 ?_); refine wl_ld0 rfl rfl rfl k2 Try.underlying30 rfl ceInfo ?_)
      | ((with_reducible refine at_slot 97 ?_); refine wl_ld0 rfl rfl rfl k7 Try.underlying30 rfl ceInfo ?_)
      | ((with_reducible refine at_slot 98 ?_); refine wl_call rfl rfl Try.func22 (by kernel_rfl) rfl (me_is XO.out.in RO.out.in X3.out X4.out _) rfl ?_; intro V16 hb; replace k1 := k1.keep hb; replace k2 := k2.keep hb; replace k3 := k3.keep hb; replace k4 := k4.keep hb; replace k5 := k5.keep hb; replace k6 := k6.keep hb; replace k7 := k7.keep hb; replace HB := Lib.hid (below_tr HB.out hb); clear hb)
      | ((with_reducible refine at_slot 21 ?_); refine wl_alloc (A := (ceA zeroCe)) rfl rfl ce_zero rfl ?_; intro W8 g8 k8 hb hle; have n1_8 := Lib.hid (Blk.ne_of_le k1 hle); have n2_8 := Lib.hid (Blk.ne_of_le k2 hle); have n3_8 := Lib.hid (Blk.ne_of_le k3 hle); have n4_8 := Lib.hid (Blk.ne_of_le k4 hle); have n5_8 := Lib.hid (Blk.ne_of_le k5 hle); have n6_8 := Lib.hid (Blk.ne_of_le k6 hle); have n7_8 := Lib.hid (Blk.ne_of_le k7 hle); have L8 := Lib.hid (Nat.le_trans HB.out.size hle); replace k1 := k1.keep hb; replace k2 := k2.keep hb; replace k3 := k3.keep hb; replace k4 := k4.keep hb; replace k5 := k5.keep hb; replace k6 := k6.keep hb; replace k7 := k7.keep hb; replace HB := Lib.hid (below_tr HB.out hb); clear hb hle)
      | ((with_reducible refine at_store 21 ?_); refine wl_st0 (A' := (ceA C)) rfl rfl rfl rfl k8 rfl ceInfo (ceA_one C) ?_; intro V17 kn hu; replace k1 := k1.upd hu n1_8.out; replace k2 := k2.upd hu n2_8.out; replace k3 := k3.upd hu n3_8.out; replace k4 := k4.upd hu n4_8.out; replace k5 := k5.upd hu n5_8.out; replace k6 := k6.upd hu n6_8.out; replace k7 := k7.upd hu n7_8.out; replace HB := Lib.hid (upd_below HB.out hu L8.out); clear k8; have k8 : Blk _ g8 _ (ceA C) := kn; clear kn hu)
      | ((with_reducible refine at_slot 103 ?_); refine wl_call rfl rfl Try.func15 (by kernel_rfl) rfl (RI.out _ (H.out.keep HB.out)) rfl ?_; intro V18 hb; replace k1 := k1.keep hb; replace k2 := k2.keep hb; replace k3 := k3.keep hb; replace k4 := k4.keep hb; replace k5 := k5.keep hb; replace k6 := k6.keep hb; replace k7 := k7.keep hb; replace k8 := k8.keep hb; replace HB := Lib.hid (below_tr HB.out hb); clear hb)
      | ((with_reducible refine at_slot 23 ?_); refine wl_alloc (A := (wdA U.zero)) rfl rfl wd_zero rfl ?_; intro W9 g9 k9 hb hle; have n1_9 := Lib.hid (Blk.ne_of_le k1 hle); have n2_9 := Lib.hid (Blk.ne_of_le k2 hle); have n3_9 := Lib.hid (Blk.ne_of_le k3 hle); have n4_9 := Lib.hid (Blk.ne_of_le k4 hle); have n5_9 := Lib.hid (Blk.ne_of_le k5 hle); have n6_9 := Lib.hid (Blk.ne_of_le k6 hle); have n7_9 := Lib.hid (Blk.ne_of_le k7 hle); have n8_9 := Lib.hid (Blk.ne_of_le k8 hle); have L9 := Lib.hid (Nat.le_trans HB.out.size hle); replace k1 := k1.keep hb; replace k2 := k2.keep hb; replace k3 := k3.keep hb; replace k4 := k4.keep hb; replace k5 := k5.keep hb; replace k6 := k6.keep hb; replace k7 := k7.keep hb; replace k8 := k8.keep hb; replace HB := Lib.hid (below_tr HB.out hb); clear hb hle)
      | ((with_reducible refine at_store 23 ?_); refine wl_st0 (A' := (wdA C.i)) rfl rfl rfl rfl k9 rfl wdInfo (wdA_one C.i) ?_; intro V19 kn hu; replace k1 := k1.upd hu n1_9.out; replace k2 := k2.upd hu n2_9.out; replace k3 := k3.upd hu n3_9.out; replace k4 := k4.upd hu n4_9.out; replace k5 := k5.upd hu n5_9.out; replace k6 := k6.upd hu n6_9.out; replace k7 := k7.upd hu n7_9.out; replace k8 := k8.upd hu n8_9.out; replace HB := Lib.hid (upd_below HB.out hu L9.out); clear k9; have k9 : Blk _ g9 _ (wdA C.i) := kn; clear kn hu)
      | ((with_reducible refine at_slot 133 ?_); refine wl_ld0 rfl rfl rfl k6 Try.underlying30 rfl ceInfo ?_)
      | ((with_reducible refine at_slot 134 ?_); refine wl_ld0 rfl rfl rfl k1 Try.underlying30 rfl ceInfo ?_)
      | ((with_reducible refine at_slot 135 ?_); refine wl_bin (v := .bool true) rfl rfl (run_eqGuard_agg _ _ _ _ _ _ _ (by kernel_rfl)) (ce_eql_yes rfl _) ?_)
      | ((with_reducible refine at_slot 138 ?_); refine wl_ld0 rfl rfl rfl k8 Try.underlying30 rfl ceInfo ?_)
      | ((with_reducible refine at_slot 139 ?_); refine wl_ld0 rfl rfl rfl k1 Try.underlying30 rfl ceInfo ?_)
      | ((with_reducible refine at_slot 140 ?_); refine wl_bin (v := .bool true) rfl rfl (run_eqGuard_agg _ _ _ _ _ _ _ (by kernel_rfl)) (ce_eql_yes rfl _) ?_)
      | ((with_reducible refine at_slot 143 ?_); refine wl_ld0 rfl rfl rfl k1 Try.underlying30 rfl ceInfo ?_)
      | ((with_reducible refine at_slot 144 ?_); refine wl_call rfl rfl Try.func28 (by kernel_rfl) rfl (ck_yes CO.out.in CO.out _) rfl ?_; intro V20 hb; replace k1 := k1.keep hb; replace k2 := k2.keep hb; replace k3 := k3.keep hb; replace k4 := k4.keep hb; replace k5 := k5.keep hb; replace k6 := k6.keep hb; replace k7 := k7.keep hb; replace k8 := k8.keep hb; replace k9 := k9.keep hb; replace HB := Lib.hid (below_tr HB.out hb); clear hb)
      | ((with_reducible refine at_slot 152 ?_); refine wl_ld0 rfl rfl rfl k9 Try.underlying28 rfl wdInfo ?_)
      | ((with_reducible refine at_slot 154 ?_); refine wl_ld (wdA C.i) rfl rfl rfl k1 Try.underlying28 rfl wdInfo (ceA_pi C) ?_)
      | ((with_reducible refine at_slot 155 ?_); refine wl_bin (v := .bool true) rfl rfl (run_eqGuard_agg _ _ _ _ _ _ _ (by kernel_rfl)) (wd_eql_yes rfl _) ?_))
  go_ret
  exact ⟨rfl, HB.out⟩
theorem cp_any (ao : Option Addr) (b off cap : Nat) (l : List Ev) (i k : Int) (hm : l.length ≤ maxLen) (hcap : l.length ≤ cap) (w : World) (h : EvsAt w ao b off l) :
    Calls Try.prog 8 #[.slice ao l.length cap, .int .i64 i, .int .i64 k] w fun e w' => e = .returned (.bool true) ∧ Below w.heap.size w w' := by
  have hm' : l.length ≤ 9223372036854775807 := by unfold maxLen at hm; omega
  by_cases h1 : 200 < l.length
  · exact cp_e1 ao b off cap l hm' h1 w h
  · by_cases h2 : i < 0
    · exact cp_e2 ao b off cap l hm' h1 h2 w h
    · by_cases h3 : k < i
      · exact cp_e3 ao b off cap l hm' h1 h2 h3 w h
      · by_cases h4 : (l.length : Int) < k
        · exact cp_e4 ao b off cap l hm' h1 h2 h3 h4 w h
        · obtain ⟨i, rfl⟩ := Int.eq_ofNat_of_zero_le (show 0 ≤ i by omega)
          obtain ⟨k, rfl⟩ := Int.eq_ofNat_of_zero_le (show 0 ≤ k by omega)
          by_cases hE : ofE l = 0
          · exact cp_yes ao b off cap l (by omega) (by omega) (by omega) hcap hE w h
          · exact cp_no ao b off cap l (by omega) (by omega) (by omega) hcap rfl hE (ofE_no hE) w h
end Go.Proofs.Ytgijejdehenmpaa
