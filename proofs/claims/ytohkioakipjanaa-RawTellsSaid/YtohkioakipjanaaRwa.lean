/-
  WALKS: raw events: areRight, isRightLoss, Check.
-/
import Derived.Test.YtohkioakipjanaaRge
import Derived.Test.YtohkioakipjanaaBw6
namespace Go.Proofs.Ytohkioakipjanaa
open Go Go.RowKit

section
variable {P : Program} {w : World} {t : TypeId} {k : IntKind} {m n : Int} {r : Bool}
theorem gtr_is (h : decide (m > n) = r) : (binOp .gtr t (.int k m) (.int k n)).run P w = .ok (.bool r) w := by subst h; simp [binOp, go_sem]
theorem lss_is (h : decide (m < n) = r) : (binOp .lss t (.int k m) (.int k n)).run P w = .ok (.bool r) w := by subst h; simp [binOp, go_sem]
theorem geq_is (h : decide (m ≥ n) = r) : (binOp .geq t (.int k m) (.int k n)).run P w = .ok (.bool r) w := by subst h; simp [binOp, go_sem]
theorem leq_is (h : decide (m ≤ n) = r) : (binOp .leq t (.int k m) (.int k n)).run P w = .ok (.bool r) w := by subst h; simp [binOp, go_sem]
theorem neq_is (h : (m != n) = r) : (binOp .neq t (.int k m) (.int k n)).run P w = .ok (.bool r) w := by subst h; simp [binOp, go_sem]
theorem eql_is (h : (m == n) = r) : (binOp .eql t (.int k m) (.int k n)).run P w = .ok (.bool r) w := by subst h; simp [binOp, go_sem]
theorem sub_is {r : Int} (h : IntKind.i64.wrap (m - n) = r) : (binOp .sub t (.int .i64 m) (.int .i64 n)).run P w = .ok (.int .i64 r) w := by subst h; simp [binOp, go_sem]
theorem add_is {r : Int} (h : IntKind.i64.wrap (m + n) = r) : (binOp .add t (.int .i64 m) (.int .i64 n)).run P w = .ok (.int .i64 r) w := by subst h; simp [binOp, go_sem]
end
section
variable {P : Program} {ops : Array Oper} {Q : Exit → Act → World → Prop} {S : World → Prop} {op : Oper} {a : Act}
theorem yi_bi {b : BinOp} {t u : TypeId} {x y : Operand} {v vx vy : Value} (ho : op.op = .binOp b t x y u) (hw : Region.wanted op (yielded ops a.tmps) = true) (hx : a.eval x = vx) (hy : a.eval y = vy) (hg : ∀ w, (eqGuard b t x y vx vy).run P w = .ok () w) (hr : ∀ w, (binOp b t vx vy).run P w = .ok v w) : YieldsIf P ops S op v a := by
  subst hx hy
  exact yi_bin ho hw hg hr
end
/-- In a machine's integers, all. -/
def AllIn (l : List Ev) : Prop := ∀ (i : Nat) (h : i < l.length), EvIn l[i]
/-- Are they right, one behind the other? -/
structure Rt (l : List Ev) : Prop where
  ok : ∀ (i : Nat) (h : i < l.length), EvOk l[i]
  inc : ∀ (i : Nat) (h : i + 1 < l.length), l[i].t < l[i + 1].t
structure RtTo (l : List Ev) (k : Nat) : Prop where
  ok : ∀ (i : Nat) (h : i < l.length), i < k → EvOk l[i]
  inc : ∀ (i : Nat) (h : i + 1 < l.length), i + 1 < k → l[i].t < l[i + 1].t
theorem RtTo.zero (l : List Ev) : RtTo l 0 := ⟨fun i h h0 => by omega, fun i h h0 => by omega⟩
theorem RtTo.next {l : List Ev} {k : Nat} (h : RtTo l k) (hk : k < l.length) (h1 : EvOk l[k]) (h2 : ∀ j (hj : j + 1 = k), (l[j]'(by omega)).t < l[k].t) : RtTo l (k + 1) :=
  ⟨fun i hi h0 => by
    rcases Nat.lt_or_ge i k with h' | h'
    · exact h.ok i hi h'
    · obtain rfl : i = k := by omega
      exact h1, fun i hi h0 => by
    rcases Nat.lt_or_ge (i + 1) k with h' | h'
    · exact h.inc i hi h'
    · obtain rfl : i + 1 = k := by omega
      exact h2 i rfl⟩
theorem RtTo.all {l : List Ev} (h : RtTo l l.length) : Rt l := ⟨fun i hi => h.ok i hi hi, fun i hi => h.inc i hi hi⟩
open Classical in
noncomputable def rtB (l : List Ev) : Bool := decide (Rt l)
theorem rtB_yes {l : List Ev} (h : Rt l) : rtB l = true := by unfold rtB; simpa using h
theorem rtB_no {l : List Ev} (h : ¬ Rt l) : rtB l = false := by unfold rtB; simpa using h
theorem ret_bool {a b : Bool} (h : a = b) : Ending.returned (.bool a) = .returned (.bool b) := by rw [h]
set_option maxHeartbeats 4000000 in
set_option maxRecDepth 100000 in
theorem ar_any (v : Value) (l : List Ev) (hl : l.length ≤ 9223372036854775807) (hin : AllIn l) (w : World) (h : Lst 4 cE w v l) :
    Calls Try.prog 31 #[v] w fun e w' => e = .returned (.bool (rtB l)) ∧ Below w.heap.size w w' := by
  obtain ⟨ao, b, off, cap, rfl, h1, h2⟩ := h.ex
  have H1 := Lib.hid h1
  have H2 := Lib.hid h2
  have HIN := Lib.hid hin
  have HMM := hl
  have HB := Lib.hid (Below.refl w.heap.size w)
  clear h h1 h2 hin
  go_enter Try.func31, Try.ntmps31
  go_wp2_with fail
  go_loopw [7] (fun i wr => ∃ k : Nat, k ≤ l.length ∧ i = .int .i64 k ∧ RtTo l k ∧ Below w.heap.size w wr) (fun i _ => l.length - (intOf i).toNat)
  case atStart => exact ⟨0, Nat.zero_le _, rfl, RtTo.zero l, HB.out⟩
  case round =>
    clear HB
    obtain ⟨k, hk, rfl, hR, hB⟩ := hrel
    have HB := Lib.hid hB
    have HR := Lib.hid hR
    have hwr := hB.size
    clear hR hB
    by_cases hlt : k < l.length
    · obtain ⟨rfl, hq1⟩ := H1.out (by omega)
      have HXI := Lib.hid (HIN.out k hlt)
      have hgx : l[k]? = some l[k] := List.getElem?_eq_getElem hlt
      have HKX := Lib.hid (range_keep (H2.out k _ hgx) (HB.out.block b hq1))
      obtain ⟨x, hx⟩ : ∃ x, x = l[k] := ⟨_, rfl⟩
      have HX := Lib.hid hx
      rw [← hx] at HXI HKX
      clear hx hgx
      by_cases hE : EvOk x
      · have HE := Lib.hid hE
        clear hE
        rcases Nat.eq_zero_or_pos k with hk0 | hk0
        · subst hk0
          have HN := Lib.hid (HR.out.next hlt (by rw [← HX.out]; exact HE.out) (fun j hj => by omega))
          go_upto_region 4 with (first
            | ((with_reducible refine at_slot 10 ?_); refine wl_ixo rfl rfl rfl rfl Try.underlying22 rfl hlt HMM ?_)
            | ((with_reducible refine at_slot 11 ?_); refine wl_ldr (B := evA x) rfl rfl rfl HKX.out Try.underlying27 rfl evInfo ?_)
            | ((with_reducible refine at_slot 4 ?_); refine wl_alloc (A := evA zeroEv) rfl rfl ev_zero rfl ?_; intro W1 g4 k4 hb hle4; replace HB := Lib.hid (below_tr HB.out hb); have HSZ := Lib.hid (Nat.lt_of_lt_of_le hq1 HB.out.size); have HLE := Lib.hid (Nat.le_trans hwr hle4); clear hb)
            | ((with_reducible refine at_store 4 ?_); refine wl_st0 (A' := evA x) rfl rfl rfl rfl k4 rfl evInfo (evA_one _) ?_; intro W0 kn hu; replace HB := Lib.hid (upd_below HB.out hu HLE.out); have HK4 := Lib.hid kn; clear k4 kn hu))
          have hbW : b < W0.heap.size := Nat.lt_of_lt_of_le hq1 HB.out.size
          refine wp_region_held_drew (S := fun w' => Below W0.heap.size W0 w') (by kernel_rfl) (Below.refl _ _).drew (fun hS => ?_)
          refine wpAnyH_take (i := 0) (oi := ⟨some 12, _, _, _, _, _⟩) (v := .agg (evA x)) rfl (by kernel_rfl) (by kernel_rfl) (by kernel_rfl) (fun _ _ _ h => h) (yi_ld0 rfl rfl rfl (fun w' h => HK4.out.keep h) Try.underlying27 rfl evInfo) hS ?_
          simp only [Act.put, List.setIfInBounds_toArray, List.set_cons_zero, List.set_cons_succ]
          refine anyH_call (i := 1) (op := ⟨some 13, _, _, _, _, _⟩) (by kernel_rfl) rfl rfl (by kernel_rfl) Try.func26 (by kernel_rfl) rfl (ev_yes HE.out _) rfl (fun w' hb => below_tr hS hb) (fun w' hb hS2 => ?_)
          simp only [Act.put, List.setIfInBounds_toArray, List.set_cons_zero, List.set_cons_succ]
          clear hb
          replace hS := hS2
          clear hS2
          refine wpAnyH_take (i := 2) (oi := ⟨some 14, _, _, _, _, _⟩) (v := .bool false) rfl (by kernel_rfl) (by kernel_rfl) (by kernel_rfl) (fun _ _ _ h => h) (yi_bi rfl rfl rfl rfl (fun _ => rfl) (fun _ => neq_is rfl)) hS ?_
          simp only [Act.put, List.setIfInBounds_toArray, List.set_cons_zero, List.set_cons_succ]
          refine wpAnyH_take (i := 3) (oi := ⟨some 15, _, _, _, _, _⟩) (v := .bool false) rfl (by kernel_rfl) (by kernel_rfl) (by kernel_rfl) (fun _ _ _ h => h) (yi_mv (Or.inl rfl) rfl rfl) hS ?_
          simp only [Act.put, List.setIfInBounds_toArray, List.set_cons_zero, List.set_cons_succ]
          refine wpAnyH_take (i := 4) (oi := ⟨some 16, _, _, _, _, _⟩) (v := .int .i64 0) rfl (by kernel_rfl) (by kernel_rfl) (by kernel_rfl) (fun _ _ _ h => h) (yi_mv (Or.inl rfl) (by kernel_rfl) rfl) hS ?_
          simp only [Act.put, List.setIfInBounds_toArray, List.set_cons_zero, List.set_cons_succ]
          refine wpAnyH_take (i := 5) (oi := ⟨some 17, _, _, _, _, _⟩) (v := .bool false) rfl (by kernel_rfl) (by kernel_rfl) (by kernel_rfl) (fun _ _ _ h => h) (yi_bi rfl (by kernel_rfl) rfl rfl (fun _ => rfl) (fun _ => gtr_is rfl)) hS ?_
          simp only [Act.put, List.setIfInBounds_toArray, List.set_cons_zero, List.set_cons_succ]
          refine wpAnyH_take (i := 6) (oi := ⟨some 18, _, _, _, _, _⟩) (v := .bool false) rfl (by kernel_rfl) (by kernel_rfl) (by kernel_rfl) (fun _ _ _ h => h) (yi_mv (Or.inl rfl) (by kernel_rfl) rfl) hS ?_
          simp only [Act.put, List.setIfInBounds_toArray, List.set_cons_zero, List.set_cons_succ]
          refine wpAnyH_take (i := 7) (oi := ⟨some 19, _, _, _, _, _⟩) (v := undef) rfl (by kernel_rfl) (by kernel_rfl) (by kernel_rfl) (fun _ _ _ h => h) (yi_no (by kernel_rfl)) hS ?_
          simp only [Act.put, List.setIfInBounds_toArray, List.set_cons_zero, List.set_cons_succ]
          refine wpAnyH_take (i := 8) (oi := ⟨some 20, _, _, _, _, _⟩) (v := undef) rfl (by kernel_rfl) (by kernel_rfl) (by kernel_rfl) (fun _ _ _ h => h) (yi_no (by kernel_rfl)) hS ?_
          simp only [Act.put, List.setIfInBounds_toArray, List.set_cons_zero, List.set_cons_succ]
          refine wpAnyH_take (i := 9) (oi := ⟨some 21, _, _, _, _, _⟩) (v := undef) rfl (by kernel_rfl) (by kernel_rfl) (by kernel_rfl) (fun _ _ _ h => h) (yi_no (by kernel_rfl)) hS ?_
          simp only [Act.put, List.setIfInBounds_toArray, List.set_cons_zero, List.set_cons_succ]
          refine wpAnyH_take (i := 10) (oi := ⟨some 22, _, _, _, _, _⟩) (v := undef) rfl (by kernel_rfl) (by kernel_rfl) (by kernel_rfl) (fun _ _ _ h => h) (yi_no (by kernel_rfl)) hS ?_
          simp only [Act.put, List.setIfInBounds_toArray, List.set_cons_zero, List.set_cons_succ]
          refine wpAnyH_take (i := 11) (oi := ⟨some 23, _, _, _, _, _⟩) (v := undef) rfl (by kernel_rfl) (by kernel_rfl) (by kernel_rfl) (fun _ _ _ h => h) (yi_no (by kernel_rfl)) hS ?_
          simp only [Act.put, List.setIfInBounds_toArray, List.set_cons_zero, List.set_cons_succ]
          refine wpAnyH_take (i := 12) (oi := ⟨some 24, _, _, _, _, _⟩) (v := undef) rfl (by kernel_rfl) (by kernel_rfl) (by kernel_rfl) (fun _ _ _ h => h) (yi_no (by kernel_rfl)) hS ?_
          simp only [Act.put, List.setIfInBounds_toArray, List.set_cons_zero, List.set_cons_succ]
          refine wpAnyH_take (i := 13) (oi := ⟨some 25, _, _, _, _, _⟩) (v := undef) rfl (by kernel_rfl) (by kernel_rfl) (by kernel_rfl) (fun _ _ _ h => h) (yi_no (by kernel_rfl)) hS ?_
          simp only [Act.put, List.setIfInBounds_toArray, List.set_cons_zero, List.set_cons_succ]
          refine wpAnyH_take (i := 14) (oi := ⟨some 26, _, _, _, _, _⟩) (v := undef) rfl (by kernel_rfl) (by kernel_rfl) (by kernel_rfl) (fun _ _ _ h => h) (yi_no (by kernel_rfl)) hS ?_
          simp only [Act.put, List.setIfInBounds_toArray, List.set_cons_zero, List.set_cons_succ]
          refine wpAnyH_take (i := 15) (oi := ⟨some 27, _, _, _, _, _⟩) (v := .bool false) rfl (by kernel_rfl) (by kernel_rfl) (by kernel_rfl) (fun _ _ _ h => h) (yi_pick0 rfl (by kernel_rfl) rfl rfl) hS ?_
          simp only [Act.put, List.setIfInBounds_toArray, List.set_cons_zero, List.set_cons_succ]
          refine wpAnyH_take (i := 16) (oi := ⟨some 28, _, _, _, _, _⟩) (v := .bool false) rfl (by kernel_rfl) (by kernel_rfl) (by kernel_rfl) (fun _ _ _ h => h) (yi_pick0 rfl rfl rfl rfl) hS ?_
          simp only [Act.put, List.setIfInBounds_toArray, List.set_cons_zero, List.set_cons_succ]
          refine wpAnyH_done (by kernel_rfl) ?_ _
          replace HB := Lib.hid (below_tr HB.out hS)
          clear hS
          go_wp2_with fail
          go_roundw
          case rel => exact ⟨0 + 1, by omega, by go_num, HN.out, HB.out⟩
          case measure => simp [intOf]; omega
        · obtain ⟨j, rfl⟩ : ∃ j, k = j + 1 := ⟨k - 1, by omega⟩
          have hwj : IntKind.i64.wrap (((j + 1 : Nat) : Int) - 1) = (j : Nat) := by rw [IntKind.wrap_i64]; omega
          have HYI := Lib.hid (HIN.out j (by omega))
          have hgy : l[j]? = some (l[j]'(by omega)) := List.getElem?_eq_getElem (by omega)
          have HKY0 := Lib.hid (H2.out j _ hgy)
          obtain ⟨y, hy⟩ : ∃ y, y = l[j]'(by omega) := ⟨_, rfl⟩
          have HY := Lib.hid hy
          rw [← hy] at HYI HKY0
          clear hy hgy
          by_cases hF : Fol y x
          · have HF := Lib.hid hF
            clear hF
            have HN := Lib.hid (HR.out.next hlt (by rw [← HX.out]; exact HE.out) (fun i hi => by
              obtain rfl : i = j := by omega
              have := HF.out.2.2
              rw [HY.out, HX.out] at this
              exact this))
            go_upto_region 4 with (first
              | ((with_reducible refine at_slot 10 ?_); refine wl_ixo rfl rfl rfl rfl Try.underlying22 rfl hlt HMM ?_)
              | ((with_reducible refine at_slot 11 ?_); refine wl_ldr (B := evA x) rfl rfl rfl HKX.out Try.underlying27 rfl evInfo ?_)
              | ((with_reducible refine at_slot 4 ?_); refine wl_alloc (A := evA zeroEv) rfl rfl ev_zero rfl ?_; intro W1 g4 k4 hb hle4; replace HB := Lib.hid (below_tr HB.out hb); have HSZ := Lib.hid (Nat.lt_of_lt_of_le hq1 HB.out.size); have HLE := Lib.hid (Nat.le_trans hwr hle4); clear hb)
              | ((with_reducible refine at_store 4 ?_); refine wl_st0 (A' := evA x) rfl rfl rfl rfl k4 rfl evInfo (evA_one _) ?_; intro W0 kn hu; replace HB := Lib.hid (upd_below HB.out hu HLE.out); have HK4 := Lib.hid kn; clear k4 kn hu))
            have hbW : b < W0.heap.size := Nat.lt_of_lt_of_le hq1 HB.out.size
            have HKY := Lib.hid (range_keep HKY0.out (HB.out.block b hq1))
            refine wp_region_held_drew (S := fun w' => Below W0.heap.size W0 w') (by kernel_rfl) (Below.refl _ _).drew (fun hS => ?_)
            refine wpAnyH_take (i := 0) (oi := ⟨some 12, _, _, _, _, _⟩) (v := .agg (evA x)) rfl (by kernel_rfl) (by kernel_rfl) (by kernel_rfl) (fun _ _ _ h => h) (yi_ld0 rfl rfl rfl (fun w' h => HK4.out.keep h) Try.underlying27 rfl evInfo) hS ?_
            simp only [Act.put, List.setIfInBounds_toArray, List.set_cons_zero, List.set_cons_succ]
            refine anyH_call (i := 1) (op := ⟨some 13, _, _, _, _, _⟩) (by kernel_rfl) rfl rfl (by kernel_rfl) Try.func26 (by kernel_rfl) rfl (ev_yes HE.out _) rfl (fun w' hb => below_tr hS hb) (fun w' hb hS2 => ?_)
            simp only [Act.put, List.setIfInBounds_toArray, List.set_cons_zero, List.set_cons_succ]
            clear hb
            replace hS := hS2
            clear hS2
            refine wpAnyH_take (i := 2) (oi := ⟨some 14, _, _, _, _, _⟩) (v := .bool false) rfl (by kernel_rfl) (by kernel_rfl) (by kernel_rfl) (fun _ _ _ h => h) (yi_bi rfl rfl rfl rfl (fun _ => rfl) (fun _ => neq_is rfl)) hS ?_
            simp only [Act.put, List.setIfInBounds_toArray, List.set_cons_zero, List.set_cons_succ]
            refine wpAnyH_take (i := 3) (oi := ⟨some 15, _, _, _, _, _⟩) (v := .bool false) rfl (by kernel_rfl) (by kernel_rfl) (by kernel_rfl) (fun _ _ _ h => h) (yi_mv (Or.inl rfl) rfl rfl) hS ?_
            simp only [Act.put, List.setIfInBounds_toArray, List.set_cons_zero, List.set_cons_succ]
            refine wpAnyH_take (i := 4) (oi := ⟨some 16, _, _, _, _, _⟩) (v := .int .i64 ((j + 1 : Nat) : Int)) rfl (by kernel_rfl) (by kernel_rfl) (by kernel_rfl) (fun _ _ _ h => h) (yi_mv (Or.inl rfl) (by kernel_rfl) rfl) hS ?_
            simp only [Act.put, List.setIfInBounds_toArray, List.set_cons_zero, List.set_cons_succ]
            refine wpAnyH_take (i := 5) (oi := ⟨some 17, _, _, _, _, _⟩) (v := .bool true) rfl (by kernel_rfl) (by kernel_rfl) (by kernel_rfl) (fun _ _ _ h => h) (yi_bi rfl (by kernel_rfl) rfl rfl (fun _ => rfl) (fun _ => gtr_is (decide_eq_true (by omega)))) hS ?_
            simp only [Act.put, List.setIfInBounds_toArray, List.set_cons_zero, List.set_cons_succ]
            refine wpAnyH_take (i := 6) (oi := ⟨some 18, _, _, _, _, _⟩) (v := .bool true) rfl (by kernel_rfl) (by kernel_rfl) (by kernel_rfl) (fun _ _ _ h => h) (yi_mv (Or.inl rfl) (by kernel_rfl) rfl) hS ?_
            simp only [Act.put, List.setIfInBounds_toArray, List.set_cons_zero, List.set_cons_succ]
            refine wpAnyH_take (i := 7) (oi := ⟨some 19, _, _, _, _, _⟩) (v := .slice (some ⟨b, off, none⟩) l.length cap) rfl (by kernel_rfl) (by kernel_rfl) (by kernel_rfl) (fun _ _ _ h => h) (yi_mv (Or.inl rfl) (by kernel_rfl) rfl) hS ?_
            simp only [Act.put, List.setIfInBounds_toArray, List.set_cons_zero, List.set_cons_succ]
            refine wpAnyH_take (i := 8) (oi := ⟨some 20, _, _, _, _, _⟩) (v := .int .i64 ((j + 1 : Nat) : Int)) rfl (by kernel_rfl) (by kernel_rfl) (by kernel_rfl) (fun _ _ _ h => h) (yi_mv (Or.inl rfl) (by kernel_rfl) rfl) hS ?_
            simp only [Act.put, List.setIfInBounds_toArray, List.set_cons_zero, List.set_cons_succ]
            refine wpAnyH_take (i := 9) (oi := ⟨some 21, _, _, _, _, _⟩) (v := .int .i64 (j : Nat)) rfl (by kernel_rfl) (by kernel_rfl) (by kernel_rfl) (fun _ _ _ h => h) (yi_bi rfl (by kernel_rfl) rfl rfl (fun _ => rfl) (fun _ => sub_is hwj)) hS ?_
            simp only [Act.put, List.setIfInBounds_toArray, List.set_cons_zero, List.set_cons_succ]
            refine wpAnyH_take (i := 10) (oi := ⟨some 22, _, _, _, _, _⟩) (v := .pointer (some ⟨b, off + j * 4, none⟩)) rfl (by kernel_rfl) (by kernel_rfl) (by kernel_rfl) (fun _ _ _ h => h) (yi_ixo rfl (by kernel_rfl) rfl rfl Try.underlying22 rfl (by omega) HMM) hS ?_
            simp only [Act.put, List.setIfInBounds_toArray, List.set_cons_zero, List.set_cons_succ]
            refine wpAnyH_take (i := 11) (oi := ⟨some 23, _, _, _, _, _⟩) (v := .agg (evA y)) rfl (by kernel_rfl) (by kernel_rfl) (by kernel_rfl) (fun _ _ _ h => h) (yi_ldr (B := evA y) rfl (by kernel_rfl) rfl (fun w' h => range_keep HKY.out (h.block b hbW)) Try.underlying27 rfl evInfo) hS ?_
            simp only [Act.put, List.setIfInBounds_toArray, List.set_cons_zero, List.set_cons_succ]
            refine wpAnyH_take (i := 12) (oi := ⟨some 24, _, _, _, _, _⟩) (v := .agg (evA x)) rfl (by kernel_rfl) (by kernel_rfl) (by kernel_rfl) (fun _ _ _ h => h) (yi_ld0 rfl (by kernel_rfl) rfl (fun w' h => HK4.out.keep h) Try.underlying27 rfl evInfo) hS ?_
            simp only [Act.put, List.setIfInBounds_toArray, List.set_cons_zero, List.set_cons_succ]
            refine anyH_call (i := 13) (op := ⟨some 25, _, _, _, _, _⟩) (by kernel_rfl) rfl rfl (by kernel_rfl) Try.func27 (by kernel_rfl) rfl (fol_yes HF.out _) rfl (fun w' hb => below_tr hS hb) (fun w' hb hS2 => ?_)
            simp only [Act.put, List.setIfInBounds_toArray, List.set_cons_zero, List.set_cons_succ]
            clear hb
            replace hS := hS2
            clear hS2
            refine wpAnyH_take (i := 14) (oi := ⟨some 26, _, _, _, _, _⟩) (v := .bool false) rfl (by kernel_rfl) (by kernel_rfl) (by kernel_rfl) (fun _ _ _ h => h) (yi_not rfl (by kernel_rfl) rfl rfl) hS ?_
            simp only [Act.put, List.setIfInBounds_toArray, List.set_cons_zero, List.set_cons_succ]
            refine wpAnyH_take (i := 15) (oi := ⟨some 27, _, _, _, _, _⟩) (v := .bool false) rfl (by kernel_rfl) (by kernel_rfl) (by kernel_rfl) (fun _ _ _ h => h) (yi_pick1 rfl (by kernel_rfl) rfl rfl) hS ?_
            simp only [Act.put, List.setIfInBounds_toArray, List.set_cons_zero, List.set_cons_succ]
            refine wpAnyH_take (i := 16) (oi := ⟨some 28, _, _, _, _, _⟩) (v := .bool false) rfl (by kernel_rfl) (by kernel_rfl) (by kernel_rfl) (fun _ _ _ h => h) (yi_pick0 rfl rfl rfl rfl) hS ?_
            simp only [Act.put, List.setIfInBounds_toArray, List.set_cons_zero, List.set_cons_succ]
            refine wpAnyH_done (by kernel_rfl) ?_ _
            replace HB := Lib.hid (below_tr HB.out hS)
            clear hS
            go_wp2_with fail
            go_roundw
            case rel => exact ⟨(j + 1) + 1, by omega, by go_num, HN.out, HB.out⟩
            case measure => simp [intOf]; omega
          · have HF := Lib.hid hF
            clear hF
            have HNR : Hid (¬ Rt l) := Lib.hid (fun hr => HF.out ⟨by rw [HY.out]; exact hr.ok j (by omega), by rw [HX.out]; exact hr.ok (j + 1) hlt, by rw [HY.out, HX.out]; exact hr.inc j hlt⟩)
            go_upto_region 4 with (first
              | ((with_reducible refine at_slot 10 ?_); refine wl_ixo rfl rfl rfl rfl Try.underlying22 rfl hlt HMM ?_)
              | ((with_reducible refine at_slot 11 ?_); refine wl_ldr (B := evA x) rfl rfl rfl HKX.out Try.underlying27 rfl evInfo ?_)
              | ((with_reducible refine at_slot 4 ?_); refine wl_alloc (A := evA zeroEv) rfl rfl ev_zero rfl ?_; intro W1 g4 k4 hb hle4; replace HB := Lib.hid (below_tr HB.out hb); have HSZ := Lib.hid (Nat.lt_of_lt_of_le hq1 HB.out.size); have HLE := Lib.hid (Nat.le_trans hwr hle4); clear hb)
              | ((with_reducible refine at_store 4 ?_); refine wl_st0 (A' := evA x) rfl rfl rfl rfl k4 rfl evInfo (evA_one _) ?_; intro W0 kn hu; replace HB := Lib.hid (upd_below HB.out hu HLE.out); have HK4 := Lib.hid kn; clear k4 kn hu))
            have hbW : b < W0.heap.size := Nat.lt_of_lt_of_le hq1 HB.out.size
            have HKY := Lib.hid (range_keep HKY0.out (HB.out.block b hq1))
            refine wp_region_held_drew (S := fun w' => Below W0.heap.size W0 w') (by kernel_rfl) (Below.refl _ _).drew (fun hS => ?_)
            refine wpAnyH_take (i := 0) (oi := ⟨some 12, _, _, _, _, _⟩) (v := .agg (evA x)) rfl (by kernel_rfl) (by kernel_rfl) (by kernel_rfl) (fun _ _ _ h => h) (yi_ld0 rfl rfl rfl (fun w' h => HK4.out.keep h) Try.underlying27 rfl evInfo) hS ?_
            simp only [Act.put, List.setIfInBounds_toArray, List.set_cons_zero, List.set_cons_succ]
            refine anyH_call (i := 1) (op := ⟨some 13, _, _, _, _, _⟩) (by kernel_rfl) rfl rfl (by kernel_rfl) Try.func26 (by kernel_rfl) rfl (ev_yes HE.out _) rfl (fun w' hb => below_tr hS hb) (fun w' hb hS2 => ?_)
            simp only [Act.put, List.setIfInBounds_toArray, List.set_cons_zero, List.set_cons_succ]
            clear hb
            replace hS := hS2
            clear hS2
            refine wpAnyH_take (i := 2) (oi := ⟨some 14, _, _, _, _, _⟩) (v := .bool false) rfl (by kernel_rfl) (by kernel_rfl) (by kernel_rfl) (fun _ _ _ h => h) (yi_bi rfl rfl rfl rfl (fun _ => rfl) (fun _ => neq_is rfl)) hS ?_
            simp only [Act.put, List.setIfInBounds_toArray, List.set_cons_zero, List.set_cons_succ]
            refine wpAnyH_take (i := 3) (oi := ⟨some 15, _, _, _, _, _⟩) (v := .bool false) rfl (by kernel_rfl) (by kernel_rfl) (by kernel_rfl) (fun _ _ _ h => h) (yi_mv (Or.inl rfl) rfl rfl) hS ?_
            simp only [Act.put, List.setIfInBounds_toArray, List.set_cons_zero, List.set_cons_succ]
            refine wpAnyH_take (i := 4) (oi := ⟨some 16, _, _, _, _, _⟩) (v := .int .i64 ((j + 1 : Nat) : Int)) rfl (by kernel_rfl) (by kernel_rfl) (by kernel_rfl) (fun _ _ _ h => h) (yi_mv (Or.inl rfl) (by kernel_rfl) rfl) hS ?_
            simp only [Act.put, List.setIfInBounds_toArray, List.set_cons_zero, List.set_cons_succ]
            refine wpAnyH_take (i := 5) (oi := ⟨some 17, _, _, _, _, _⟩) (v := .bool true) rfl (by kernel_rfl) (by kernel_rfl) (by kernel_rfl) (fun _ _ _ h => h) (yi_bi rfl (by kernel_rfl) rfl rfl (fun _ => rfl) (fun _ => gtr_is (decide_eq_true (by omega)))) hS ?_
            simp only [Act.put, List.setIfInBounds_toArray, List.set_cons_zero, List.set_cons_succ]
            refine wpAnyH_take (i := 6) (oi := ⟨some 18, _, _, _, _, _⟩) (v := .bool true) rfl (by kernel_rfl) (by kernel_rfl) (by kernel_rfl) (fun _ _ _ h => h) (yi_mv (Or.inl rfl) (by kernel_rfl) rfl) hS ?_
            simp only [Act.put, List.setIfInBounds_toArray, List.set_cons_zero, List.set_cons_succ]
            refine wpAnyH_take (i := 7) (oi := ⟨some 19, _, _, _, _, _⟩) (v := .slice (some ⟨b, off, none⟩) l.length cap) rfl (by kernel_rfl) (by kernel_rfl) (by kernel_rfl) (fun _ _ _ h => h) (yi_mv (Or.inl rfl) (by kernel_rfl) rfl) hS ?_
            simp only [Act.put, List.setIfInBounds_toArray, List.set_cons_zero, List.set_cons_succ]
            refine wpAnyH_take (i := 8) (oi := ⟨some 20, _, _, _, _, _⟩) (v := .int .i64 ((j + 1 : Nat) : Int)) rfl (by kernel_rfl) (by kernel_rfl) (by kernel_rfl) (fun _ _ _ h => h) (yi_mv (Or.inl rfl) (by kernel_rfl) rfl) hS ?_
            simp only [Act.put, List.setIfInBounds_toArray, List.set_cons_zero, List.set_cons_succ]
            refine wpAnyH_take (i := 9) (oi := ⟨some 21, _, _, _, _, _⟩) (v := .int .i64 (j : Nat)) rfl (by kernel_rfl) (by kernel_rfl) (by kernel_rfl) (fun _ _ _ h => h) (yi_bi rfl (by kernel_rfl) rfl rfl (fun _ => rfl) (fun _ => sub_is hwj)) hS ?_
            simp only [Act.put, List.setIfInBounds_toArray, List.set_cons_zero, List.set_cons_succ]
            refine wpAnyH_take (i := 10) (oi := ⟨some 22, _, _, _, _, _⟩) (v := .pointer (some ⟨b, off + j * 4, none⟩)) rfl (by kernel_rfl) (by kernel_rfl) (by kernel_rfl) (fun _ _ _ h => h) (yi_ixo rfl (by kernel_rfl) rfl rfl Try.underlying22 rfl (by omega) HMM) hS ?_
            simp only [Act.put, List.setIfInBounds_toArray, List.set_cons_zero, List.set_cons_succ]
            refine wpAnyH_take (i := 11) (oi := ⟨some 23, _, _, _, _, _⟩) (v := .agg (evA y)) rfl (by kernel_rfl) (by kernel_rfl) (by kernel_rfl) (fun _ _ _ h => h) (yi_ldr (B := evA y) rfl (by kernel_rfl) rfl (fun w' h => range_keep HKY.out (h.block b hbW)) Try.underlying27 rfl evInfo) hS ?_
            simp only [Act.put, List.setIfInBounds_toArray, List.set_cons_zero, List.set_cons_succ]
            refine wpAnyH_take (i := 12) (oi := ⟨some 24, _, _, _, _, _⟩) (v := .agg (evA x)) rfl (by kernel_rfl) (by kernel_rfl) (by kernel_rfl) (fun _ _ _ h => h) (yi_ld0 rfl (by kernel_rfl) rfl (fun w' h => HK4.out.keep h) Try.underlying27 rfl evInfo) hS ?_
            simp only [Act.put, List.setIfInBounds_toArray, List.set_cons_zero, List.set_cons_succ]
            refine anyH_call (i := 13) (op := ⟨some 25, _, _, _, _, _⟩) (by kernel_rfl) rfl rfl (by kernel_rfl) Try.func27 (by kernel_rfl) rfl (fol_no HYI.out HXI.out HF.out _) rfl (fun w' hb => below_tr hS hb) (fun w' hb hS2 => ?_)
            simp only [Act.put, List.setIfInBounds_toArray, List.set_cons_zero, List.set_cons_succ]
            clear hb
            replace hS := hS2
            clear hS2
            refine wpAnyH_take (i := 14) (oi := ⟨some 26, _, _, _, _, _⟩) (v := .bool true) rfl (by kernel_rfl) (by kernel_rfl) (by kernel_rfl) (fun _ _ _ h => h) (yi_not rfl (by kernel_rfl) rfl rfl) hS ?_
            simp only [Act.put, List.setIfInBounds_toArray, List.set_cons_zero, List.set_cons_succ]
            refine wpAnyH_take (i := 15) (oi := ⟨some 27, _, _, _, _, _⟩) (v := .bool true) rfl (by kernel_rfl) (by kernel_rfl) (by kernel_rfl) (fun _ _ _ h => h) (yi_pick1 rfl (by kernel_rfl) rfl rfl) hS ?_
            simp only [Act.put, List.setIfInBounds_toArray, List.set_cons_zero, List.set_cons_succ]
            refine wpAnyH_take (i := 16) (oi := ⟨some 28, _, _, _, _, _⟩) (v := .bool true) rfl (by kernel_rfl) (by kernel_rfl) (by kernel_rfl) (fun _ _ _ h => h) (yi_pick0 rfl rfl rfl rfl) hS ?_
            simp only [Act.put, List.setIfInBounds_toArray, List.set_cons_zero, List.set_cons_succ]
            refine wpAnyH_done (by kernel_rfl) ?_ _
            replace HB := Lib.hid (below_tr HB.out hS)
            clear hS
            go_wp2_with fail
            go_ret
            exact ⟨ret_bool (rtB_no HNR.out).symm, HB.out⟩
      · have HE := Lib.hid hE
        have HNR : Hid (¬ Rt l) := Lib.hid (fun hr => hE (by rw [HX.out]; exact hr.ok k hlt))
        clear hE
        go_upto_region 4 with (first
          | ((with_reducible refine at_slot 10 ?_); refine wl_ixo rfl rfl rfl rfl Try.underlying22 rfl hlt HMM ?_)
          | ((with_reducible refine at_slot 11 ?_); refine wl_ldr (B := evA x) rfl rfl rfl HKX.out Try.underlying27 rfl evInfo ?_)
          | ((with_reducible refine at_slot 4 ?_); refine wl_alloc (A := evA zeroEv) rfl rfl ev_zero rfl ?_; intro W1 g4 k4 hb hle4; replace HB := Lib.hid (below_tr HB.out hb); have HSZ := Lib.hid (Nat.lt_of_lt_of_le hq1 HB.out.size); have HLE := Lib.hid (Nat.le_trans hwr hle4); clear hb)
          | ((with_reducible refine at_store 4 ?_); refine wl_st0 (A' := evA x) rfl rfl rfl rfl k4 rfl evInfo (evA_one _) ?_; intro W0 kn hu; replace HB := Lib.hid (upd_below HB.out hu HLE.out); have HK4 := Lib.hid kn; clear k4 kn hu))
        have hbW : b < W0.heap.size := Nat.lt_of_lt_of_le hq1 HB.out.size
        refine wp_region_held_drew (S := fun w' => Below W0.heap.size W0 w') (by kernel_rfl) (Below.refl _ _).drew (fun hS => ?_)
        refine wpAnyH_take (i := 0) (oi := ⟨some 12, _, _, _, _, _⟩) (v := .agg (evA x)) rfl (by kernel_rfl) (by kernel_rfl) (by kernel_rfl) (fun _ _ _ h => h) (yi_ld0 rfl rfl rfl (fun w' h => HK4.out.keep h) Try.underlying27 rfl evInfo) hS ?_
        simp only [Act.put, List.setIfInBounds_toArray, List.set_cons_zero, List.set_cons_succ]
        refine anyH_call (i := 1) (op := ⟨some 13, _, _, _, _, _⟩) (by kernel_rfl) rfl rfl (by kernel_rfl) Try.func26 (by kernel_rfl) rfl (ev_no HXI.out HE.out _) rfl (fun w' hb => below_tr hS hb) (fun w' hb hS2 => ?_)
        simp only [Act.put, List.setIfInBounds_toArray, List.set_cons_zero, List.set_cons_succ]
        clear hb
        replace hS := hS2
        clear hS2
        refine wpAnyH_take (i := 2) (oi := ⟨some 14, _, _, _, _, _⟩) (v := .bool true) rfl (by kernel_rfl) (by kernel_rfl) (by kernel_rfl) (fun _ _ _ h => h) (yi_bi rfl rfl rfl rfl (fun _ => rfl) (fun _ => neq_is rfl)) hS ?_
        simp only [Act.put, List.setIfInBounds_toArray, List.set_cons_zero, List.set_cons_succ]
        refine wpAnyH_take (i := 3) (oi := ⟨some 15, _, _, _, _, _⟩) (v := .bool true) rfl (by kernel_rfl) (by kernel_rfl) (by kernel_rfl) (fun _ _ _ h => h) (yi_mv (Or.inl rfl) rfl rfl) hS ?_
        simp only [Act.put, List.setIfInBounds_toArray, List.set_cons_zero, List.set_cons_succ]
        refine wpAnyH_take (i := 4) (oi := ⟨some 16, _, _, _, _, _⟩) (v := undef) rfl (by kernel_rfl) (by kernel_rfl) (by kernel_rfl) (fun _ _ _ h => h) (yi_no (by kernel_rfl)) hS ?_
        simp only [Act.put, List.setIfInBounds_toArray, List.set_cons_zero, List.set_cons_succ]
        refine wpAnyH_take (i := 5) (oi := ⟨some 17, _, _, _, _, _⟩) (v := undef) rfl (by kernel_rfl) (by kernel_rfl) (by kernel_rfl) (fun _ _ _ h => h) (yi_no (by kernel_rfl)) hS ?_
        simp only [Act.put, List.setIfInBounds_toArray, List.set_cons_zero, List.set_cons_succ]
        refine wpAnyH_take (i := 6) (oi := ⟨some 18, _, _, _, _, _⟩) (v := undef) rfl (by kernel_rfl) (by kernel_rfl) (by kernel_rfl) (fun _ _ _ h => h) (yi_no (by kernel_rfl)) hS ?_
        simp only [Act.put, List.setIfInBounds_toArray, List.set_cons_zero, List.set_cons_succ]
        refine wpAnyH_take (i := 7) (oi := ⟨some 19, _, _, _, _, _⟩) (v := undef) rfl (by kernel_rfl) (by kernel_rfl) (by kernel_rfl) (fun _ _ _ h => h) (yi_no (by kernel_rfl)) hS ?_
        simp only [Act.put, List.setIfInBounds_toArray, List.set_cons_zero, List.set_cons_succ]
        refine wpAnyH_take (i := 8) (oi := ⟨some 20, _, _, _, _, _⟩) (v := undef) rfl (by kernel_rfl) (by kernel_rfl) (by kernel_rfl) (fun _ _ _ h => h) (yi_no (by kernel_rfl)) hS ?_
        simp only [Act.put, List.setIfInBounds_toArray, List.set_cons_zero, List.set_cons_succ]
        refine wpAnyH_take (i := 9) (oi := ⟨some 21, _, _, _, _, _⟩) (v := undef) rfl (by kernel_rfl) (by kernel_rfl) (by kernel_rfl) (fun _ _ _ h => h) (yi_no (by kernel_rfl)) hS ?_
        simp only [Act.put, List.setIfInBounds_toArray, List.set_cons_zero, List.set_cons_succ]
        refine wpAnyH_take (i := 10) (oi := ⟨some 22, _, _, _, _, _⟩) (v := undef) rfl (by kernel_rfl) (by kernel_rfl) (by kernel_rfl) (fun _ _ _ h => h) (yi_no (by kernel_rfl)) hS ?_
        simp only [Act.put, List.setIfInBounds_toArray, List.set_cons_zero, List.set_cons_succ]
        refine wpAnyH_take (i := 11) (oi := ⟨some 23, _, _, _, _, _⟩) (v := undef) rfl (by kernel_rfl) (by kernel_rfl) (by kernel_rfl) (fun _ _ _ h => h) (yi_no (by kernel_rfl)) hS ?_
        simp only [Act.put, List.setIfInBounds_toArray, List.set_cons_zero, List.set_cons_succ]
        refine wpAnyH_take (i := 12) (oi := ⟨some 24, _, _, _, _, _⟩) (v := undef) rfl (by kernel_rfl) (by kernel_rfl) (by kernel_rfl) (fun _ _ _ h => h) (yi_no (by kernel_rfl)) hS ?_
        simp only [Act.put, List.setIfInBounds_toArray, List.set_cons_zero, List.set_cons_succ]
        refine wpAnyH_take (i := 13) (oi := ⟨some 25, _, _, _, _, _⟩) (v := undef) rfl (by kernel_rfl) (by kernel_rfl) (by kernel_rfl) (fun _ _ _ h => h) (yi_no (by kernel_rfl)) hS ?_
        simp only [Act.put, List.setIfInBounds_toArray, List.set_cons_zero, List.set_cons_succ]
        refine wpAnyH_take (i := 14) (oi := ⟨some 26, _, _, _, _, _⟩) (v := undef) rfl (by kernel_rfl) (by kernel_rfl) (by kernel_rfl) (fun _ _ _ h => h) (yi_no (by kernel_rfl)) hS ?_
        simp only [Act.put, List.setIfInBounds_toArray, List.set_cons_zero, List.set_cons_succ]
        refine wpAnyH_take (i := 15) (oi := ⟨some 27, _, _, _, _, _⟩) (v := undef) rfl (by kernel_rfl) (by kernel_rfl) (by kernel_rfl) (fun _ _ _ h => h) (yi_no (by kernel_rfl)) hS ?_
        simp only [Act.put, List.setIfInBounds_toArray, List.set_cons_zero, List.set_cons_succ]
        refine wpAnyH_take (i := 16) (oi := ⟨some 28, _, _, _, _, _⟩) (v := .bool true) rfl (by kernel_rfl) (by kernel_rfl) (by kernel_rfl) (fun _ _ _ h => h) (yi_pick1 rfl rfl rfl rfl) hS ?_
        simp only [Act.put, List.setIfInBounds_toArray, List.set_cons_zero, List.set_cons_succ]
        refine wpAnyH_done (by kernel_rfl) ?_ _
        replace HB := Lib.hid (below_tr HB.out hS)
        clear hS
        go_wp2_with fail
        go_ret
        exact ⟨ret_bool (rtB_no HNR.out).symm, HB.out⟩
    · obtain rfl : k = l.length := by omega
      go_wp2_with fail
      go_ret
      exact ⟨ret_bool (rtB_yes HR.out.all).symm, HB.out⟩
end Go.Proofs.Ytohkioakipjanaa
