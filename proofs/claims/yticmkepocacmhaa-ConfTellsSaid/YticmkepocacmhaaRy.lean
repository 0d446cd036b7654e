/-
  THE DOCUMENT'S ANSWERS for configurations: plimsollref10.Bytes, Read.
-/
import Derived.Test.YticmkepocacmhaaRk2
import Derived.Test.YticmkepocacmhaaFv
import Derived.Test.YticmkepocacmhaaRc5
namespace Go.Proofs.Yticmkepocacmhaa
open Go Go.RowKit

def oS (o : Option (List UInt8)) : List UInt8 := o.getD []
def oB (o : Option (List UInt8)) : Bool := o.isNone
/-- The document's reader. -/
def rdA (o : Option (List UInt8)) : Array Value := #[.string (bs (oS o)), .bool (oB o)]
theorem rvInfo : (Try.prog.info? 51).map (·.size) = some 2 := by kernel_rfl
theorem rdA_one (o : Option (List UInt8)) : (rdA o).all (·.oneCell') = true := by simp [rdA, Value.oneCell']
theorem rv_zero : (Try.prog.info? 51).map (·.zero) = some (some (.agg #[.string ⟨#[]⟩, .bool false])) := by kernel_rfl
theorem build_rv (l : List UInt8) (w : World) : (Instr.build 51 #[(0, .string (bs l))]).run Try.prog w = .ok (.agg (rdA (some l))) w := by
  show _ = Result.ok (Value.agg #[.string (bs l), .bool false]) w
  go_simp
theorem vfx_any {o : Option (List UInt8)} (m : Nat) (h1m : 1 ≤ m) (hm8 : m ≤ 8) (hl : LenO o) (w : World) :
    Calls Try.prog 34 #[.agg (rdA o), .int .i64 m] w fun e w' => e = .returned (.tuple #[.agg (rdA (fxO m o)), .int .u64 (fxN m o : Nat)]) ∧ Below w.heap.size w w' := by
  cases o with
  | none => exact vfixed_of (s := []) (s' := []) (t := []) (bad := true) (bad' := true) m h1m hm8 (by simp) (fun w => vraw_bad [] m w) w
  | some s =>
    unfold fxN fxO
    dsimp only
    by_cases hm : m ≤ s.length
    · rw [if_pos hm, if_pos hm]
      exact vfixed_of (s := s) (s' := s.drop m) (t := s.take m) (bad := false) (bad' := false) m h1m hm8 (by rw [List.length_take]; omega) (fun w => vraw_ok s m hm hl w) w
    · rw [if_neg hm, if_neg hm]
      exact vfixed_of (s := s) (s' := []) (t := []) (bad := false) (bad' := true) m h1m hm8 (by simp) (fun w => vraw_more s m (by omega) w) w
theorem reffixed_z {z : Int} (m n : Nat) (hz : z = (n : Int)) (h1 : 1 ≤ m) (h8 : m ≤ 8) (hn : n < 18446744073709551616) (w : World) :
    Calls Try.prog 44 #[.int .i64 m, .int .u64 z] w fun e w' => e = .returned (.string (bs (fxF m n))) ∧ Below w.heap.size w w' := by
  subst hz
  exact reffixed m n h1 h8 hn w
theorem str_add (a b : List UInt8) (h : a.length + b.length ≤ 1000) (w : World) : (binOp .add 9 (.string (bs a)) (.string (bs b))).run Try.prog w = .ok (.string (bs (a ++ b))) w := by
  have hz := bs_size a
  have hz2 := bs_size b
  have h1 : (bs a).size + (bs b).size ≤ 1000 := by rw [hz, hz2]; exact h
  have h2 : a.length + b.length ≤ 9223372036854775807 := by omega
  have e : bs a ++ bs b = bs (a ++ b) := bs_append a b
  rw [← e]
  go_simp
theorem bs_zero8 : bs (fxF 8 0) = ⟨#[0, 0, 0, 0, 0, 0, 0, 0]⟩ := by decide +kernel
theorem str_add0 (a : List UInt8) (h : a.length ≤ 900) (w : World) : (binOp .add 9 (.string (bs a)) (.string ⟨#[0, 0, 0, 0, 0, 0, 0, 0]⟩)).run Try.prog w = .ok (.string (bs (a ++ fxF 8 0))) w := by
  have := str_add a (fxF 8 0) (by rw [fxF_len]; omega) w
  rwa [bs_zero8] at this
set_option maxHeartbeats 4000000 in
set_option maxRecDepth 100000 in
theorem rbyt_no {c : Cf} (h : ¬ CfOk c) (w : World) : Calls Try.prog 23 #[.agg (cfA c)] w fun e w' => e = .returned (.string (⟨#[]⟩)) ∧ Below w.heap.size w w' := by
  have HC := Lib.hid h
  clear h
  have HB := Lib.hid (Below.refl w.heap.size w)
  go_enter Try.func23, Try.ntmps23
  go_wp2_with (first
      | ((with_reducible refine at_slot 1 ?_); refine wl_box (A := (cfA c)) rfl rfl rfl ?_; intro W1 g1 k1 hb hle; have L1 := Lib.hid (Nat.le_trans HB.out.size hle); replace HB := Lib.hid (below_tr HB.out hb); clear hb hle)
      | ((with_reducible refine at_slot 6 ?_); refine wl_ld0 rfl rfl rfl k1 Try.underlying25 rfl cfInfo ?_)
      | ((with_reducible refine at_slot 7 ?_); refine wl_call rfl rfl Try.func13 (by kernel_rfl) rfl (rck_no HC.out _) rfl ?_; intro V1 hb; replace k1 := k1.keep hb; replace HB := Lib.hid (below_tr HB.out hb); clear hb))
  go_ret
  exact ⟨rfl, HB.out⟩
set_option maxHeartbeats 4000000 in
set_option maxRecDepth 100000 in
theorem rbyt_yes {c : Cf} (h : CfOk c) (w : World) : Calls Try.prog 23 #[.agg (cfA c)] w fun e w' => e = .returned (.string (bs (byL c))) ∧ Below w.heap.size w w' := by
  obtain ⟨⟨a0, b0⟩, ⟨a1, b1⟩, a2, b2⟩ := h.1.1
  obtain ⟨r0, r1⟩ := h.2.1
  obtain ⟨p0, p1⟩ := h.2.2.1
  obtain ⟨l0, l1⟩ := log_bd h
  obtain ⟨A0, A0'⟩ := a0
  obtain ⟨A1, A1'⟩ := a1
  obtain ⟨A2, A2'⟩ := a2
  obtain ⟨B0, B0'⟩ := b0
  obtain ⟨B1, B1'⟩ := b1
  obtain ⟨B2, B2'⟩ := b2
  have uraw : IntKind.u64.wrap c.raw = c.raw := by rw [IntKind.wrap_u64]; omega
  have Zraw := Lib.hid (show c.raw = (c.raw.toNat : Int) by omega)
  have Yraw := Lib.hid (show c.raw.toNat < 18446744073709551616 by omega)
  have uw0 : IntKind.u64.wrap c.w0 = c.w0 := by rw [IntKind.wrap_u64]; omega
  have Zw0 := Lib.hid (show c.w0 = (c.w0.toNat : Int) by omega)
  have Yw0 := Lib.hid (show c.w0.toNat < 18446744073709551616 by omega)
  have uw1 : IntKind.u64.wrap c.w1 = c.w1 := by rw [IntKind.wrap_u64]; omega
  have Zw1 := Lib.hid (show c.w1 = (c.w1.toNat : Int) by omega)
  have Yw1 := Lib.hid (show c.w1.toNat < 18446744073709551616 by omega)
  have uw2 : IntKind.u64.wrap c.w2 = c.w2 := by rw [IntKind.wrap_u64]; omega
  have Zw2 := Lib.hid (show c.w2 = (c.w2.toNat : Int) by omega)
  have Yw2 := Lib.hid (show c.w2.toNat < 18446744073709551616 by omega)
  have un0 : IntKind.u64.wrap c.n0 = c.n0 := by rw [IntKind.wrap_u64]; omega
  have Zn0 := Lib.hid (show c.n0 = (c.n0.toNat : Int) by omega)
  have Yn0 := Lib.hid (show c.n0.toNat < 18446744073709551616 by omega)
  have un1 : IntKind.u64.wrap c.n1 = c.n1 := by rw [IntKind.wrap_u64]; omega
  have Zn1 := Lib.hid (show c.n1 = (c.n1.toNat : Int) by omega)
  have Yn1 := Lib.hid (show c.n1.toNat < 18446744073709551616 by omega)
  have un2 : IntKind.u64.wrap c.n2 = c.n2 := by rw [IntKind.wrap_u64]; omega
  have Zn2 := Lib.hid (show c.n2 = (c.n2.toNat : Int) by omega)
  have Yn2 := Lib.hid (show c.n2.toNat < 18446744073709551616 by omega)
  have ucap : IntKind.u64.wrap c.cap = c.cap := by rw [IntKind.wrap_u64]; omega
  have Zcap := Lib.hid (show c.cap = (c.cap.toNat : Int) by omega)
  have Ycap := Lib.hid (show c.cap.toNat < 18446744073709551616 by omega)
  have ulog : IntKind.u64.wrap c.log = c.log := by rw [IntKind.wrap_u64]; omega
  have Zlog := Lib.hid (show c.log = (c.log.toNat : Int) by omega)
  have Ylog := Lib.hid (show c.log.toNat < 18446744073709551616 by omega)
  have HC := Lib.hid h
  clear h
  have HB := Lib.hid (Below.refl w.heap.size w)
  go_enter Try.func23, Try.ntmps23
  go_wp2_with (first
      | ((with_reducible refine at_slot 1 ?_); refine wl_box (A := (cfA c)) rfl rfl rfl ?_; intro W1 g1 k1 hb hle; have L1 := Lib.hid (Nat.le_trans HB.out.size hle); replace HB := Lib.hid (below_tr HB.out hb); clear hb hle)
      | ((with_reducible refine at_slot 6 ?_); refine wl_ld0 rfl rfl rfl k1 Try.underlying25 rfl cfInfo ?_)
      | ((with_reducible refine at_slot 7 ?_); refine wl_call rfl rfl Try.func13 (by kernel_rfl) rfl (rck_yes HC.out _) rfl ?_; intro V1 hb; replace k1 := k1.keep hb; replace HB := Lib.hid (below_tr HB.out hb); clear hb)
      | ((with_reducible refine at_slot 10 ?_); refine wl_ld1 (v := .int .i64 c.raw) rfl rfl rfl k1 Try.underlying3 rfl rfl ?_)
      | ((with_reducible refine at_slot 12 ?_); refine wl_call rfl rfl Try.func44 (by kernel_rfl) rfl (reffixed_z 4 c.raw.toNat Zraw.out (by omega) (by omega) Yraw.out _) rfl ?_; intro V2 hb; replace k1 := k1.keep hb; replace HB := Lib.hid (below_tr HB.out hb); clear hb))
  refine wp_loop_rounds 4 ?_
  rw [rounds_succ]
  go_wp2_with (first
      | ((with_reducible refine at_slot 21 ?_); refine wl_ld1 (v := .int .i64 c.w0) rfl rfl rfl k1 Try.underlying2 rfl rfl ?_)
      | ((with_reducible refine at_slot 23 ?_); refine wl_call rfl rfl Try.func44 (by kernel_rfl) rfl (reffixed_z 8 c.w0.toNat Zw0.out (by omega) (by omega) Yw0.out _) rfl ?_; intro V3 hb; replace k1 := k1.keep hb; replace HB := Lib.hid (below_tr HB.out hb); clear hb)
      | ((with_reducible refine at_slot 24 ?_); refine wl_bin (v := .string (bs (fxF 4 c.raw.toNat ++ fxF 8 c.w0.toNat))) rfl rfl (by simp [eqGuard]) (str_add (fxF 4 c.raw.toNat) (fxF 8 c.w0.toNat) (by simp [List.length_append, fxF_len]) _) ?_))
  rw [rounds_succ]
  go_wp2_with (first
      | ((with_reducible refine at_slot 21 ?_); refine wl_ld1 (v := .int .i64 c.w1) rfl rfl rfl k1 Try.underlying2 rfl rfl ?_)
      | ((with_reducible refine at_slot 23 ?_); refine wl_call rfl rfl Try.func44 (by kernel_rfl) rfl (reffixed_z 8 c.w1.toNat Zw1.out (by omega) (by omega) Yw1.out _) rfl ?_; intro V4 hb; replace k1 := k1.keep hb; replace HB := Lib.hid (below_tr HB.out hb); clear hb)
      | ((with_reducible refine at_slot 24 ?_); refine wl_bin (v := .string (bs (fxF 4 c.raw.toNat ++ fxF 8 c.w0.toNat ++ fxF 8 c.w1.toNat))) rfl rfl (by simp [eqGuard]) (str_add (fxF 4 c.raw.toNat ++ fxF 8 c.w0.toNat) (fxF 8 c.w1.toNat) (by simp [List.length_append, fxF_len]) _) ?_))
  rw [rounds_succ]
  go_wp2_with (first
      | ((with_reducible refine at_slot 21 ?_); refine wl_ld1 (v := .int .i64 c.w2) rfl rfl rfl k1 Try.underlying2 rfl rfl ?_)
      | ((with_reducible refine at_slot 23 ?_); refine wl_call rfl rfl Try.func44 (by kernel_rfl) rfl (reffixed_z 8 c.w2.toNat Zw2.out (by omega) (by omega) Yw2.out _) rfl ?_; intro V5 hb; replace k1 := k1.keep hb; replace HB := Lib.hid (below_tr HB.out hb); clear hb)
      | ((with_reducible refine at_slot 24 ?_); refine wl_bin (v := .string (bs (fxF 4 c.raw.toNat ++ fxF 8 c.w0.toNat ++ fxF 8 c.w1.toNat ++ fxF 8 c.w2.toNat))) rfl rfl (by simp [eqGuard]) (str_add (fxF 4 c.raw.toNat ++ fxF 8 c.w0.toNat ++ fxF 8 c.w1.toNat) (fxF 8 c.w2.toNat) (by simp [List.length_append, fxF_len]) _) ?_))
  rw [rounds_succ]
  go_wp2_with fail
  refine wp_loop_rounds 4 ?_
  rw [rounds_succ]
  go_wp2_with (first
      | ((with_reducible refine at_slot 33 ?_); refine wl_ld1 (v := .int .i64 c.n0) rfl rfl rfl k1 Try.underlying3 rfl rfl ?_)
      | ((with_reducible refine at_slot 35 ?_); refine wl_call rfl rfl Try.func44 (by kernel_rfl) rfl (reffixed_z 4 c.n0.toNat Zn0.out (by omega) (by omega) Yn0.out _) rfl ?_; intro V6 hb; replace k1 := k1.keep hb; replace HB := Lib.hid (below_tr HB.out hb); clear hb)
      | ((with_reducible refine at_slot 36 ?_); refine wl_bin (v := .string (bs (fxF 4 c.raw.toNat ++ fxF 8 c.w0.toNat ++ fxF 8 c.w1.toNat ++ fxF 8 c.w2.toNat ++ fxF 4 c.n0.toNat))) rfl rfl (by simp [eqGuard]) (str_add (fxF 4 c.raw.toNat ++ fxF 8 c.w0.toNat ++ fxF 8 c.w1.toNat ++ fxF 8 c.w2.toNat) (fxF 4 c.n0.toNat) (by simp [List.length_append, fxF_len]) _) ?_))
  rw [rounds_succ]
  go_wp2_with (first
      | ((with_reducible refine at_slot 33 ?_); refine wl_ld1 (v := .int .i64 c.n1) rfl rfl rfl k1 Try.underlying3 rfl rfl ?_)
      | ((with_reducible refine at_slot 35 ?_); refine wl_call rfl rfl Try.func44 (by kernel_rfl) rfl (reffixed_z 4 c.n1.toNat Zn1.out (by omega) (by omega) Yn1.out _) rfl ?_; intro V7 hb; replace k1 := k1.keep hb; replace HB := Lib.hid (below_tr HB.out hb); clear hb)
      | ((with_reducible refine at_slot 36 ?_); refine wl_bin (v := .string (bs (fxF 4 c.raw.toNat ++ fxF 8 c.w0.toNat ++ fxF 8 c.w1.toNat ++ fxF 8 c.w2.toNat ++ fxF 4 c.n0.toNat ++ fxF 4 c.n1.toNat))) rfl rfl (by simp [eqGuard]) (str_add (fxF 4 c.raw.toNat ++ fxF 8 c.w0.toNat ++ fxF 8 c.w1.toNat ++ fxF 8 c.w2.toNat ++ fxF 4 c.n0.toNat) (fxF 4 c.n1.toNat) (by simp [List.length_append, fxF_len]) _) ?_))
  rw [rounds_succ]
  go_wp2_with (first
      | ((with_reducible refine at_slot 33 ?_); refine wl_ld1 (v := .int .i64 c.n2) rfl rfl rfl k1 Try.underlying3 rfl rfl ?_)
      | ((with_reducible refine at_slot 35 ?_); refine wl_call rfl rfl Try.func44 (by kernel_rfl) rfl (reffixed_z 4 c.n2.toNat Zn2.out (by omega) (by omega) Yn2.out _) rfl ?_; intro V8 hb; replace k1 := k1.keep hb; replace HB := Lib.hid (below_tr HB.out hb); clear hb)
      | ((with_reducible refine at_slot 36 ?_); refine wl_bin (v := .string (bs (fxF 4 c.raw.toNat ++ fxF 8 c.w0.toNat ++ fxF 8 c.w1.toNat ++ fxF 8 c.w2.toNat ++ fxF 4 c.n0.toNat ++ fxF 4 c.n1.toNat ++ fxF 4 c.n2.toNat))) rfl rfl (by simp [eqGuard]) (str_add (fxF 4 c.raw.toNat ++ fxF 8 c.w0.toNat ++ fxF 8 c.w1.toNat ++ fxF 8 c.w2.toNat ++ fxF 4 c.n0.toNat ++ fxF 4 c.n1.toNat) (fxF 4 c.n2.toNat) (by simp [List.length_append, fxF_len]) _) ?_))
  rw [rounds_succ]
  go_wp2_with fail
  refine wp_region_held_drew (S := fun w' => Blk w' g1 25 (cfA c) ∧ Below w.heap.size w w') (by kernel_rfl) ⟨k1.drew, HB.out.drew⟩ (fun hS => ?_)
  clear k1
  have hS2 := hS
  obtain ⟨k1, hB⟩ := hS2
  replace HB := Lib.hid hB
  clear hB
  refine wpAnyH_take (i := 0) (oi := ⟨some 37, _, _, _, _, _⟩) (v := .string (bs (fxF 4 c.raw.toNat ++ fxF 8 c.w0.toNat ++ fxF 8 c.w1.toNat ++ fxF 8 c.w2.toNat ++ fxF 4 c.n0.toNat ++ fxF 4 c.n1.toNat ++ fxF 4 c.n2.toNat))) rfl (by kernel_rfl) (by kernel_rfl) (by kernel_rfl) (fun _ _ _ h => h) (yi_mv (Or.inl rfl) rfl rfl) hS ?_
  simp only [Act.put, List.setIfInBounds_toArray, List.set_cons_zero, List.set_cons_succ]
  refine wpAnyH_take (i := 1) (oi := ⟨some 38, _, _, _, _, _⟩) (v := .pointer (some ⟨g1, 7, none⟩)) rfl (by kernel_rfl) (by kernel_rfl) (by kernel_rfl) (fun _ _ _ h => h) (yi_ok rfl (fun _ => by go_simp)) hS ?_
  simp only [Act.put, List.setIfInBounds_toArray, List.set_cons_zero, List.set_cons_succ]
  refine wpAnyH_take (i := 2) (oi := ⟨some 39, _, _, _, _, _⟩) (v := .int .i64 c.cap) rfl (by kernel_rfl) (by kernel_rfl) (by kernel_rfl) (fun _ _ _ h => h) (yi_ld1 (v := .int .i64 c.cap) rfl rfl rfl (fun w' h => h.1) Try.underlying3 rfl rfl) hS ?_
  simp only [Act.put, List.setIfInBounds_toArray, List.set_cons_zero, List.set_cons_succ]
  refine wpAnyH_take (i := 3) (oi := ⟨some 40, _, _, _, _, _⟩) (v := .int .u64 c.cap) rfl (by kernel_rfl) (by kernel_rfl) (by kernel_rfl) (fun _ _ _ h => h) (yi_ok rfl (fun _ => by go_simp)) hS ?_
  simp only [Act.put, List.setIfInBounds_toArray, List.set_cons_zero, List.set_cons_succ]
  refine wpAnyH_take (i := 6) (oi := ⟨some 43, _, _, _, _, _⟩) (v := .pointer (some ⟨g1, 8, none⟩)) rfl (by kernel_rfl) (by kernel_rfl) (by kernel_rfl) (fun _ _ _ h => h) (yi_ok rfl (fun _ => by go_simp)) hS ?_
  simp only [Act.put, List.setIfInBounds_toArray, List.set_cons_zero, List.set_cons_succ]
  refine wpAnyH_take (i := 7) (oi := ⟨some 44, _, _, _, _, _⟩) (v := .int .i64 c.log) rfl (by kernel_rfl) (by kernel_rfl) (by kernel_rfl) (fun _ _ _ h => h) (yi_ld1 (v := .int .i64 c.log) rfl rfl rfl (fun w' h => h.1) Try.underlying3 rfl rfl) hS ?_
  simp only [Act.put, List.setIfInBounds_toArray, List.set_cons_zero, List.set_cons_succ]
  refine wpAnyH_take (i := 8) (oi := ⟨some 45, _, _, _, _, _⟩) (v := .int .u64 c.log) rfl (by kernel_rfl) (by kernel_rfl) (by kernel_rfl) (fun _ _ _ h => h) (yi_ok rfl (fun _ => by go_simp)) hS ?_
  simp only [Act.put, List.setIfInBounds_toArray, List.set_cons_zero, List.set_cons_succ]
  refine anyH_call (i := 4) (op := ⟨some 41, _, _, _, _, _⟩) (by kernel_rfl) rfl rfl rfl Try.func44 (by kernel_rfl) rfl (reffixed_z 4 c.cap.toNat Zcap.out (by omega) (by omega) Ycap.out _) rfl (fun w' hb => ⟨k1.keep hb, below_tr HB.out hb⟩) (fun w' hb hS2 => ?_)
  simp only [Act.put, List.setIfInBounds_toArray, List.set_cons_zero, List.set_cons_succ]
  clear hb
  replace hS := hS2
  clear hS2
  clear k1
  have hS2 := hS
  obtain ⟨k1, hB⟩ := hS2
  replace HB := Lib.hid hB
  clear hB
  refine wpAnyH_take (i := 5) (oi := ⟨some 42, _, _, _, _, _⟩) (v := .string (bs (fxF 4 c.raw.toNat ++ fxF 8 c.w0.toNat ++ fxF 8 c.w1.toNat ++ fxF 8 c.w2.toNat ++ fxF 4 c.n0.toNat ++ fxF 4 c.n1.toNat ++ fxF 4 c.n2.toNat ++ fxF 4 c.cap.toNat))) rfl (by kernel_rfl) (by kernel_rfl) (by kernel_rfl) (fun _ _ _ h => h) (yi_bin rfl rfl (fun _ => (by simp [eqGuard])) (fun w => str_add (fxF 4 c.raw.toNat ++ fxF 8 c.w0.toNat ++ fxF 8 c.w1.toNat ++ fxF 8 c.w2.toNat ++ fxF 4 c.n0.toNat ++ fxF 4 c.n1.toNat ++ fxF 4 c.n2.toNat) (fxF 4 c.cap.toNat) (by simp [List.length_append, fxF_len]) w)) hS ?_
  simp only [Act.put, List.setIfInBounds_toArray, List.set_cons_zero, List.set_cons_succ]
  refine anyH_call (i := 9) (op := ⟨some 46, _, _, _, _, _⟩) (by kernel_rfl) rfl rfl rfl Try.func44 (by kernel_rfl) rfl (reffixed_z 4 c.log.toNat Zlog.out (by omega) (by omega) Ylog.out _) rfl (fun w' hb => ⟨k1.keep hb, below_tr HB.out hb⟩) (fun w' hb hS2 => ?_)
  simp only [Act.put, List.setIfInBounds_toArray, List.set_cons_zero, List.set_cons_succ]
  clear hb
  replace hS := hS2
  clear hS2
  clear k1
  have hS2 := hS
  obtain ⟨k1, hB⟩ := hS2
  replace HB := Lib.hid hB
  clear hB
  refine wpAnyH_take (i := 10) (oi := ⟨some 47, _, _, _, _, _⟩) (v := .string (bs (fxF 4 c.raw.toNat ++ fxF 8 c.w0.toNat ++ fxF 8 c.w1.toNat ++ fxF 8 c.w2.toNat ++ fxF 4 c.n0.toNat ++ fxF 4 c.n1.toNat ++ fxF 4 c.n2.toNat ++ fxF 4 c.cap.toNat ++ fxF 4 c.log.toNat))) rfl (by kernel_rfl) (by kernel_rfl) (by kernel_rfl) (fun _ _ _ h => h) (yi_bin rfl rfl (fun _ => (by simp [eqGuard])) (fun w => str_add (fxF 4 c.raw.toNat ++ fxF 8 c.w0.toNat ++ fxF 8 c.w1.toNat ++ fxF 8 c.w2.toNat ++ fxF 4 c.n0.toNat ++ fxF 4 c.n1.toNat ++ fxF 4 c.n2.toNat ++ fxF 4 c.cap.toNat) (fxF 4 c.log.toNat) (by simp [List.length_append, fxF_len]) w)) hS ?_
  simp only [Act.put, List.setIfInBounds_toArray, List.set_cons_zero, List.set_cons_succ]
  refine wpAnyH_take (i := 11) (oi := ⟨some 48, _, _, _, _, _⟩) (v := .string (bs (fxF 4 c.raw.toNat ++ fxF 8 c.w0.toNat ++ fxF 8 c.w1.toNat ++ fxF 8 c.w2.toNat ++ fxF 4 c.n0.toNat ++ fxF 4 c.n1.toNat ++ fxF 4 c.n2.toNat ++ fxF 4 c.cap.toNat ++ fxF 4 c.log.toNat ++ fxF 8 0))) rfl (by kernel_rfl) (by kernel_rfl) (by kernel_rfl) (fun _ _ _ h => h) (yi_bin rfl rfl (fun _ => (by simp [eqGuard])) (fun w => str_add0 (fxF 4 c.raw.toNat ++ fxF 8 c.w0.toNat ++ fxF 8 c.w1.toNat ++ fxF 8 c.w2.toNat ++ fxF 4 c.n0.toNat ++ fxF 4 c.n1.toNat ++ fxF 4 c.n2.toNat ++ fxF 4 c.cap.toNat ++ fxF 4 c.log.toNat) (by simp [List.length_append, fxF_len]) w)) hS ?_
  simp only [Act.put, List.setIfInBounds_toArray, List.set_cons_zero, List.set_cons_succ]
  refine wpAnyH_take (i := 12) (oi := ⟨some 2, _, _, _, _, _⟩) (v := .string (bs (fxF 4 c.raw.toNat ++ fxF 8 c.w0.toNat ++ fxF 8 c.w1.toNat ++ fxF 8 c.w2.toNat ++ fxF 4 c.n0.toNat ++ fxF 4 c.n1.toNat ++ fxF 4 c.n2.toNat ++ fxF 4 c.cap.toNat ++ fxF 4 c.log.toNat ++ fxF 8 0))) rfl (by kernel_rfl) (by kernel_rfl) (by kernel_rfl) (fun _ _ _ h => h) (yi_mv (Or.inr rfl) rfl rfl) hS ?_
  simp only [Act.put, List.setIfInBounds_toArray, List.set_cons_zero, List.set_cons_succ]
  refine wpAnyH_done (by kernel_rfl) ?_ _
  clear hS
  go_wp2_with fail
  go_ret
  exact ⟨ret_str (congrArg bs (by simp only [byL, List.nil_append])), HB.out⟩
end Go.Proofs.Yticmkepocacmhaa
