/-
  WALKS: package conf: Read.
-/
import Derived.Test.YticmkepocacmhaaBy
namespace Go.Proofs.Yticmkepocacmhaa
open Go Go.RowKit

/-- What a reader has: nothing any more, or these bytes. -/
def RdO (w : World) (P : Nat) : Option (List UInt8) → Prop
  | some s => Rd w P s false
  | none => Rd w P [] true
def fxN (m : Nat) : Option (List UInt8) → Nat
  | some s => if m ≤ s.length then bev (s.take m) else 0
  | none => 0
def fxO (m : Nat) : Option (List UInt8) → Option (List UInt8)
  | some s => if m ≤ s.length then some (s.drop m) else none
  | none => none
def LenO : Option (List UInt8) → Prop
  | some s => s.length ≤ 140737488355328
  | none => True
theorem LenO.fx {o : Option (List UInt8)} (h : LenO o) (m : Nat) : LenO (fxO m o) := by
  cases o with
  | none => trivial
  | some s =>
    unfold fxO
    dsimp only
    split
    · show (s.drop m).length ≤ _
      have : s.length ≤ 140737488355328 := h
      rw [List.length_drop]; omega
    · trivial
theorem fxN_lt (m : Nat) (o : Option (List UInt8)) : fxN m o < 256 ^ m := by
  cases o with
  | none => exact Nat.pow_pos (by omega)
  | some s =>
    unfold fxN
    dsimp only
    split
    · have := bev_lt (s.take m)
      rwa [List.length_take, Nat.min_eq_left (by assumption)] at this
    · exact Nat.pow_pos (by omega)
theorem rfx_any {P : Nat} {o : Option (List UInt8)} (m : Nat) (h1m : 1 ≤ m) (hm8 : m ≤ 8) (hl : LenO o) (w : World) (h : RdO w P o) :
    Calls Try.prog 33 #[.pointer (some ⟨P, 0, none⟩), .int .i64 m] w fun e w' => e = .returned (.int .u64 (fxN m o : Nat)) ∧ (RdO w' P (fxO m o) ∧ Step (· = P) w w') := by
  cases o with
  | none => exact rfixed_nil m h1m hm8 w (raw_bad P m w h)
  | some s =>
    unfold fxN fxO
    dsimp only
    by_cases hm : m ≤ s.length
    · rw [if_pos hm, if_pos hm]; exact rfixed_ok P s m h1m hm8 hm hl w h
    · rw [if_neg hm, if_neg hm]; exact rfixed_nil m h1m hm8 w (raw_more P s m (by omega) w h)
theorem sm_any {P : Nat} {o : Option (List UInt8)} (hl : LenO o) (w : World) (h : RdO w P o) :
    Calls Try.prog 32 #[.pointer (some ⟨P, 0, none⟩)] w fun e w' => e = .returned (.int .i64 (fxN 4 o : Nat)) ∧ (RdO w' P (fxO 4 o) ∧ Step (· = P) w w') := by
  have hlt : fxN 4 o < 4294967296 := fxN_lt 4 o
  have HC := Lib.hid (rfx_any 4 (by omega) (by omega) hl w h)
  have i1 : IntKind.i64.wrap (fxN 4 o : Int) = (fxN 4 o : Int) := by rw [IntKind.wrap_i64]; omega
  clear h
  generalize fxN 4 o = x at *
  go_enter Try.func32, Try.ntmps32
  go_wp2_with (go_at_call 33; refine HC.out.mono ?_; rintro e w1 ⟨rfl, hr⟩)
  go_ret
  exact ⟨rfl, hr⟩
/-! ### The reader's states, one behind the other. -/
def rO1 (l : List UInt8) := fxO 4 (some l)
def rO2 (l : List UInt8) := fxO 8 (rO1 l)
def rO3 (l : List UInt8) := fxO 8 (rO2 l)
def rO4 (l : List UInt8) := fxO 8 (rO3 l)
def rO5 (l : List UInt8) := fxO 4 (rO4 l)
def rO6 (l : List UInt8) := fxO 4 (rO5 l)
def rO7 (l : List UInt8) := fxO 4 (rO6 l)
def rO8 (l : List UInt8) := fxO 4 (rO7 l)
/-- What was read. -/
def rdC (l : List UInt8) : Cf := ⟨(fxN 4 (some l) : Nat), wrap64 (fxN 8 (rO1 l) : Nat), wrap64 (fxN 8 (rO2 l) : Nat), wrap64 (fxN 8 (rO3 l) : Nat), (fxN 4 (rO4 l) : Nat), (fxN 4 (rO5 l) : Nat), (fxN 4 (rO6 l) : Nat), (fxN 4 (rO7 l) : Nat), (fxN 4 (rO8 l) : Nat)⟩
def ReadOk (l : List UInt8) : Prop := CfOk (rdC l) ∧ byL (rdC l) = l
instance (l : List UInt8) : Decidable (ReadOk l) := by unfold ReadOk; infer_instance
def readC (l : List UInt8) : Cf := if ReadOk l then rdC l else zeroCf
def readE (l : List UInt8) : Int := if ReadOk l then 0 else 4
/-- What was written is read. -/
theorem fx_front (m n : Nat) (t : List UInt8) (hn : n < 256 ^ m) : fxN m (some (fxF m n ++ t)) = n ∧ fxO m (some (fxF m n ++ t)) = some t := by
  have hl := fxF_len m n
  have h1 : (fxF m n ++ t).take m = fxF m n := List.take_left' hl
  have h2 : (fxF m n ++ t).drop m = t := List.drop_left' hl
  have h3 : m ≤ (fxF m n ++ t).length := by rw [List.length_append]; omega
  unfold fxN fxO
  dsimp only
  rw [if_pos h3, if_pos h3, h1, h2, bev_fxF, Nat.mod_eq_of_lt hn]
  exact ⟨rfl, rfl⟩
theorem rd_by {c : Cf} (h : CfOk c) : rdC (byL c) = c := by
  obtain ⟨⟨⟨A0, A0'⟩, B0, B0'⟩, ⟨⟨A1, A1'⟩, B1, B1'⟩, ⟨A2, A2'⟩, B2, B2'⟩ := h.1.1
  obtain ⟨r0, r1⟩ := h.2.1
  obtain ⟨p0, p1⟩ := h.2.2.1
  obtain ⟨l0, l1⟩ := log_bd h
  have e : byL c = fxF 4 c.raw.toNat ++ (fxF 8 c.w0.toNat ++ (fxF 8 c.w1.toNat ++ (fxF 8 c.w2.toNat ++ (fxF 4 c.n0.toNat ++ (fxF 4 c.n1.toNat ++ (fxF 4 c.n2.toNat ++ (fxF 4 c.cap.toNat ++ (fxF 4 c.log.toNat ++ fxF 8 0)))))))) := by
    simp only [byL, List.nil_append, List.append_assoc]
  obtain ⟨a0, b0⟩ := fx_front 4 c.raw.toNat (fxF 8 c.w0.toNat ++ (fxF 8 c.w1.toNat ++ (fxF 8 c.w2.toNat ++ (fxF 4 c.n0.toNat ++ (fxF 4 c.n1.toNat ++ (fxF 4 c.n2.toNat ++ (fxF 4 c.cap.toNat ++ (fxF 4 c.log.toNat ++ fxF 8 0)))))))) (by omega)
  obtain ⟨a1, b1⟩ := fx_front 8 c.w0.toNat (fxF 8 c.w1.toNat ++ (fxF 8 c.w2.toNat ++ (fxF 4 c.n0.toNat ++ (fxF 4 c.n1.toNat ++ (fxF 4 c.n2.toNat ++ (fxF 4 c.cap.toNat ++ (fxF 4 c.log.toNat ++ fxF 8 0))))))) (by omega)
  obtain ⟨a2, b2⟩ := fx_front 8 c.w1.toNat (fxF 8 c.w2.toNat ++ (fxF 4 c.n0.toNat ++ (fxF 4 c.n1.toNat ++ (fxF 4 c.n2.toNat ++ (fxF 4 c.cap.toNat ++ (fxF 4 c.log.toNat ++ fxF 8 0)))))) (by omega)
  obtain ⟨a3, b3⟩ := fx_front 8 c.w2.toNat (fxF 4 c.n0.toNat ++ (fxF 4 c.n1.toNat ++ (fxF 4 c.n2.toNat ++ (fxF 4 c.cap.toNat ++ (fxF 4 c.log.toNat ++ fxF 8 0))))) (by omega)
  obtain ⟨a4, b4⟩ := fx_front 4 c.n0.toNat (fxF 4 c.n1.toNat ++ (fxF 4 c.n2.toNat ++ (fxF 4 c.cap.toNat ++ (fxF 4 c.log.toNat ++ fxF 8 0)))) (by omega)
  obtain ⟨a5, b5⟩ := fx_front 4 c.n1.toNat (fxF 4 c.n2.toNat ++ (fxF 4 c.cap.toNat ++ (fxF 4 c.log.toNat ++ fxF 8 0))) (by omega)
  obtain ⟨a6, b6⟩ := fx_front 4 c.n2.toNat (fxF 4 c.cap.toNat ++ (fxF 4 c.log.toNat ++ fxF 8 0)) (by omega)
  obtain ⟨a7, b7⟩ := fx_front 4 c.cap.toNat (fxF 4 c.log.toNat ++ fxF 8 0) (by omega)
  obtain ⟨a8, b8⟩ := fx_front 4 c.log.toNat (fxF 8 0) (by omega)
  unfold rdC rO8 rO7 rO6 rO5 rO4 rO3 rO2 rO1
  rw [e, b0, b1, b2, b3, b4, b5, b6, b7, a0, a1, a2, a3, a4, a5, a6, a7, a8]
  unfold wrap64
  cases c
  simp only [Cf.mk.injEq] at *
  refine ⟨?_, ?_, ?_, ?_, ?_, ?_, ?_, ?_, ?_⟩ <;> omega
theorem read_by {c : Cf} (h : CfOk c) : readC (byL c) = c ∧ readE (byL c) = 0 := by
  have hr : ReadOk (byL c) := ⟨by rw [rd_by h]; exact h, by rw [rd_by h]⟩
  exact ⟨(if_pos hr).trans (rd_by h), if_pos hr⟩
theorem lenO1 {l : List UInt8} (h : l.length ≤ 140737488355328) : LenO (rO1 l) := LenO.fx (show LenO (some l) from h) _
theorem lenO2 {l : List UInt8} (h : l.length ≤ 140737488355328) : LenO (rO2 l) := LenO.fx (lenO1 h) _
theorem lenO3 {l : List UInt8} (h : l.length ≤ 140737488355328) : LenO (rO3 l) := LenO.fx (lenO2 h) _
theorem lenO4 {l : List UInt8} (h : l.length ≤ 140737488355328) : LenO (rO4 l) := LenO.fx (lenO3 h) _
theorem lenO5 {l : List UInt8} (h : l.length ≤ 140737488355328) : LenO (rO5 l) := LenO.fx (lenO4 h) _
theorem lenO6 {l : List UInt8} (h : l.length ≤ 140737488355328) : LenO (rO6 l) := LenO.fx (lenO5 h) _
theorem lenO7 {l : List UInt8} (h : l.length ≤ 140737488355328) : LenO (rO7 l) := LenO.fx (lenO6 h) _
theorem lenO8 {l : List UInt8} (h : l.length ≤ 140737488355328) : LenO (rO8 l) := LenO.fx (lenO7 h) _
theorem build_cf0 (w : World) : (Instr.build 25 #[]).run Try.prog w = .ok (.agg (cfA zeroCf)) w := by
  show _ = Result.ok (Value.agg #[.int .i64 0, .int .i64 0, .int .i64 0, .int .i64 0, .int .i64 0, .int .i64 0, .int .i64 0, .int .i64 0, .int .i64 0]) w
  go_simp
theorem ropen_o (l : List UInt8) (w : World) : Calls Try.prog 31 #[.string (bs l)] w fun e w' => e = .returned (.pointer (some ⟨w.heap.size, 0, none⟩)) ∧ (RdO w' w.heap.size (some l) ∧ Below w.heap.size w w') :=
  (ropen_any l w).mono fun _ _ ⟨he, hw⟩ => ⟨he, by subst hw; exact ⟨Rd.new w l, (Below.refl _ _).alloc (Nat.le_refl _) _⟩⟩
theorem RdO.below9 {w w' : World} {P : Nat} {o : Option (List UInt8)} (h : RdO w P o) (hb : Below w.heap.size w w') : RdO w' P o := by
  cases o with
  | none => exact Rd.below9 h hb
  | some s => exact Rd.below9 h hb
theorem RdO.upd9 {w w' : World} {P g : Nat} {o : Option (List UInt8)} (h : RdO w P o) (hu : Upd g w w') (hn : P ≠ g) : RdO w' P o := by
  cases o with
  | none => exact ⟨hu.keep h.blk hn⟩
  | some s => exact ⟨hu.keep h.blk hn⟩
theorem RdO.lt {w : World} {P : Nat} {o : Option (List UInt8)} (h : RdO w P o) : P < w.heap.size := by
  cases o with
  | none => exact Rd.lt h
  | some s => exact Rd.lt h
set_option maxHeartbeats 4000000 in
set_option maxRecDepth 100000 in
theorem read_a {l : List UInt8} (hl : l.length ≤ 140737488355328) (h : ¬ CfOk (rdC l)) (w : World) : Calls Try.prog 10 #[.string (bs l)] w fun e w' => e = .returned (.tuple #[.agg (cfA (zeroCf)), .int .i64 4]) ∧ Below w.heap.size w w' := by
  have HC := Lib.hid h
  clear h
  have HL0 := Lib.hid hl
  clear hl
  have HB := Lib.hid (Below.refl w.heap.size w)
  go_enter Try.func10, Try.ntmps10
  go_wp2_with (first
      | ((with_reducible refine at_slot 2 ?_); refine wl_alloc (A := (cfA zeroCf)) rfl rfl cf_zero rfl ?_; intro W1 g1 k1 hb hle; have L1 := Lib.hid (Nat.le_trans HB.out.size hle); replace HB := Lib.hid (below_tr HB.out hb); clear hb hle)
      | ((with_reducible refine at_slot 9 ?_); refine wl_call rfl rfl Try.func31 (by kernel_rfl) rfl (ropen_o l _) rfl ?_; intro V1 hb; obtain ⟨hr, hb⟩ := hb; have np_k1 := Lib.hid (Nat.ne_of_lt k1.lt); have LP := Lib.hid HB.out.size; have HR := Lib.hid hr; replace k1 := k1.keep hb; replace HB := Lib.hid (below_tr HB.out hb); clear hr hb; have HRlt := Lib.hid HR.out.lt)
      | ((with_reducible refine at_slot 5 ?_); refine wl_alloc (A := (cfA zeroCf)) rfl rfl cf_zero rfl ?_; intro W2 g2 k2 hb hle; have n1_2 := Lib.hid (Blk.ne_of_le k1 hle); have np_k2 := Lib.hid (show g2 ≠ _ from Nat.ne_of_gt (Nat.lt_of_lt_of_le HRlt.out hle)); have L2 := Lib.hid (Nat.le_trans HB.out.size hle); replace k1 := k1.keep hb; replace HR := Lib.hid (HR.out.below9 hb); replace HB := Lib.hid (below_tr HB.out hb); clear hb hle)
      | ((with_reducible refine at_slot 11 ?_); refine wl_call rfl rfl Try.func32 (by kernel_rfl) rfl (sm_any (o := some l) HL0.out _ HR.out) rfl ?_; intro V2 hb; obtain ⟨hr, hs⟩ := hb; replace HR := Lib.hid hr; replace k1 := k1.step9 hs np_k1.out; replace k2 := k2.step9 hs np_k2.out; replace HB := Lib.hid (Step.below9 HB.out hs LP.out); clear hr hs)
      | ((with_reducible refine at_store 12 ?_); refine wl_st1 (v := .int .i64 (rdC l).raw) rfl rfl rfl rfl k2 (by kernel_rfl) rfl rfl (by first | simp | simp [cfA]) ?_; intro V3 kn hu; replace k1 := k1.upd hu n1_2.out; replace HR := Lib.hid (HR.out.upd9 hu (Ne.symm np_k2.out)); replace HB := Lib.hid (upd_below HB.out hu L2.out); clear k2; have k2 : Blk _ g2 _ #[.int .i64 (rdC l).raw, .int .i64 zeroCf.w0, .int .i64 zeroCf.w1, .int .i64 zeroCf.w2, .int .i64 zeroCf.n0, .int .i64 zeroCf.n1, .int .i64 zeroCf.n2, .int .i64 zeroCf.cap, .int .i64 zeroCf.log] := kn; clear kn hu))
  refine wp_loop_rounds 4 ?_
  rw [rounds_succ]
  go_wp2_with (first
      | ((with_reducible refine at_slot 18 ?_); refine wl_call rfl rfl Try.func33 (by kernel_rfl) rfl (rfx_any (o := rO1 l) 8 (by omega) (by omega) (lenO1 HL0.out) _ HR.out) rfl ?_; intro V4 hb; obtain ⟨hr, hs⟩ := hb; replace HR := Lib.hid hr; replace k1 := k1.step9 hs np_k1.out; replace k2 := k2.step9 hs np_k2.out; replace HB := Lib.hid (Step.below9 HB.out hs LP.out); clear hr hs)
      | ((with_reducible refine at_store 21 ?_); refine wl_st1 (v := .int .i64 (rdC l).w0) rfl rfl rfl rfl k2 (by kernel_rfl) rfl rfl (by first | simp | simp [cfA]) ?_; intro V5 kn hu; replace k1 := k1.upd hu n1_2.out; replace HR := Lib.hid (HR.out.upd9 hu (Ne.symm np_k2.out)); replace HB := Lib.hid (upd_below HB.out hu L2.out); clear k2; have k2 : Blk _ g2 _ #[.int .i64 (rdC l).raw, .int .i64 (rdC l).w0, .int .i64 zeroCf.w1, .int .i64 zeroCf.w2, .int .i64 zeroCf.n0, .int .i64 zeroCf.n1, .int .i64 zeroCf.n2, .int .i64 zeroCf.cap, .int .i64 zeroCf.log] := kn; clear kn hu))
  rw [rounds_succ]
  go_wp2_with (first
      | ((with_reducible refine at_slot 18 ?_); refine wl_call rfl rfl Try.func33 (by kernel_rfl) rfl (rfx_any (o := rO2 l) 8 (by omega) (by omega) (lenO2 HL0.out) _ HR.out) rfl ?_; intro V6 hb; obtain ⟨hr, hs⟩ := hb; replace HR := Lib.hid hr; replace k1 := k1.step9 hs np_k1.out; replace k2 := k2.step9 hs np_k2.out; replace HB := Lib.hid (Step.below9 HB.out hs LP.out); clear hr hs)
      | ((with_reducible refine at_store 21 ?_); refine wl_st1 (v := .int .i64 (rdC l).w1) rfl rfl rfl rfl k2 (by kernel_rfl) rfl rfl (by first | simp | simp [cfA]) ?_; intro V7 kn hu; replace k1 := k1.upd hu n1_2.out; replace HR := Lib.hid (HR.out.upd9 hu (Ne.symm np_k2.out)); replace HB := Lib.hid (upd_below HB.out hu L2.out); clear k2; have k2 : Blk _ g2 _ #[.int .i64 (rdC l).raw, .int .i64 (rdC l).w0, .int .i64 (rdC l).w1, .int .i64 zeroCf.w2, .int .i64 zeroCf.n0, .int .i64 zeroCf.n1, .int .i64 zeroCf.n2, .int .i64 zeroCf.cap, .int .i64 zeroCf.log] := kn; clear kn hu))
  rw [rounds_succ]
  go_wp2_with (first
      | ((with_reducible refine at_slot 18 ?_); refine wl_call rfl rfl Try.func33 (by kernel_rfl) rfl (rfx_any (o := rO3 l) 8 (by omega) (by omega) (lenO3 HL0.out) _ HR.out) rfl ?_; intro V8 hb; obtain ⟨hr, hs⟩ := hb; replace HR := Lib.hid hr; replace k1 := k1.step9 hs np_k1.out; replace k2 := k2.step9 hs np_k2.out; replace HB := Lib.hid (Step.below9 HB.out hs LP.out); clear hr hs)
      | ((with_reducible refine at_store 21 ?_); refine wl_st1 (v := .int .i64 (rdC l).w2) rfl rfl rfl rfl k2 (by kernel_rfl) rfl rfl (by first | simp | simp [cfA]) ?_; intro V9 kn hu; replace k1 := k1.upd hu n1_2.out; replace HR := Lib.hid (HR.out.upd9 hu (Ne.symm np_k2.out)); replace HB := Lib.hid (upd_below HB.out hu L2.out); clear k2; have k2 : Blk _ g2 _ #[.int .i64 (rdC l).raw, .int .i64 (rdC l).w0, .int .i64 (rdC l).w1, .int .i64 (rdC l).w2, .int .i64 zeroCf.n0, .int .i64 zeroCf.n1, .int .i64 zeroCf.n2, .int .i64 zeroCf.cap, .int .i64 zeroCf.log] := kn; clear kn hu))
  rw [rounds_succ]
  go_wp2_with fail
  refine wp_loop_rounds 4 ?_
  rw [rounds_succ]
  go_wp2_with (first
      | ((with_reducible refine at_slot 28 ?_); refine wl_call rfl rfl Try.func32 (by kernel_rfl) rfl (sm_any (o := rO4 l) (lenO4 HL0.out) _ HR.out) rfl ?_; intro V10 hb; obtain ⟨hr, hs⟩ := hb; replace HR := Lib.hid hr; replace k1 := k1.step9 hs np_k1.out; replace k2 := k2.step9 hs np_k2.out; replace HB := Lib.hid (Step.below9 HB.out hs LP.out); clear hr hs)
      | ((with_reducible refine at_store 30 ?_); refine wl_st1 (v := .int .i64 (rdC l).n0) rfl rfl rfl rfl k2 (by kernel_rfl) rfl rfl (by first | simp | simp [cfA]) ?_; intro V11 kn hu; replace k1 := k1.upd hu n1_2.out; replace HR := Lib.hid (HR.out.upd9 hu (Ne.symm np_k2.out)); replace HB := Lib.hid (upd_below HB.out hu L2.out); clear k2; have k2 : Blk _ g2 _ #[.int .i64 (rdC l).raw, .int .i64 (rdC l).w0, .int .i64 (rdC l).w1, .int .i64 (rdC l).w2, .int .i64 (rdC l).n0, .int .i64 zeroCf.n1, .int .i64 zeroCf.n2, .int .i64 zeroCf.cap, .int .i64 zeroCf.log] := kn; clear kn hu))
  rw [rounds_succ]
  go_wp2_with (first
      | ((with_reducible refine at_slot 28 ?_); refine wl_call rfl rfl Try.func32 (by kernel_rfl) rfl (sm_any (o := rO5 l) (lenO5 HL0.out) _ HR.out) rfl ?_; intro V12 hb; obtain ⟨hr, hs⟩ := hb; replace HR := Lib.hid hr; replace k1 := k1.step9 hs np_k1.out; replace k2 := k2.step9 hs np_k2.out; replace HB := Lib.hid (Step.below9 HB.out hs LP.out); clear hr hs)
      | ((with_reducible refine at_store 30 ?_); refine wl_st1 (v := .int .i64 (rdC l).n1) rfl rfl rfl rfl k2 (by kernel_rfl) rfl rfl (by first | simp | simp [cfA]) ?_; intro V13 kn hu; replace k1 := k1.upd hu n1_2.out; replace HR := Lib.hid (HR.out.upd9 hu (Ne.symm np_k2.out)); replace HB := Lib.hid (upd_below HB.out hu L2.out); clear k2; have k2 : Blk _ g2 _ #[.int .i64 (rdC l).raw, .int .i64 (rdC l).w0, .int .i64 (rdC l).w1, .int .i64 (rdC l).w2, .int .i64 (rdC l).n0, .int .i64 (rdC l).n1, .int .i64 zeroCf.n2, .int .i64 zeroCf.cap, .int .i64 zeroCf.log] := kn; clear kn hu))
  rw [rounds_succ]
  go_wp2_with (first
      | ((with_reducible refine at_slot 28 ?_); refine wl_call rfl rfl Try.func32 (by kernel_rfl) rfl (sm_any (o := rO6 l) (lenO6 HL0.out) _ HR.out) rfl ?_; intro V14 hb; obtain ⟨hr, hs⟩ := hb; replace HR := Lib.hid hr; replace k1 := k1.step9 hs np_k1.out; replace k2 := k2.step9 hs np_k2.out; replace HB := Lib.hid (Step.below9 HB.out hs LP.out); clear hr hs)
      | ((with_reducible refine at_store 30 ?_); refine wl_st1 (v := .int .i64 (rdC l).n2) rfl rfl rfl rfl k2 (by kernel_rfl) rfl rfl (by first | simp | simp [cfA]) ?_; intro V15 kn hu; replace k1 := k1.upd hu n1_2.out; replace HR := Lib.hid (HR.out.upd9 hu (Ne.symm np_k2.out)); replace HB := Lib.hid (upd_below HB.out hu L2.out); clear k2; have k2 : Blk _ g2 _ #[.int .i64 (rdC l).raw, .int .i64 (rdC l).w0, .int .i64 (rdC l).w1, .int .i64 (rdC l).w2, .int .i64 (rdC l).n0, .int .i64 (rdC l).n1, .int .i64 (rdC l).n2, .int .i64 zeroCf.cap, .int .i64 zeroCf.log] := kn; clear kn hu))
  rw [rounds_succ]
  go_wp2_with (first
      | ((with_reducible refine at_slot 33 ?_); refine wl_call rfl rfl Try.func32 (by kernel_rfl) rfl (sm_any (o := rO7 l) (lenO7 HL0.out) _ HR.out) rfl ?_; intro V16 hb; obtain ⟨hr, hs⟩ := hb; replace HR := Lib.hid hr; replace k1 := k1.step9 hs np_k1.out; replace k2 := k2.step9 hs np_k2.out; replace HB := Lib.hid (Step.below9 HB.out hs LP.out); clear hr hs)
      | ((with_reducible refine at_store 34 ?_); refine wl_st1 (v := .int .i64 (rdC l).cap) rfl rfl rfl rfl k2 (by kernel_rfl) rfl rfl (by first | simp | simp [cfA]) ?_; intro V17 kn hu; replace k1 := k1.upd hu n1_2.out; replace HR := Lib.hid (HR.out.upd9 hu (Ne.symm np_k2.out)); replace HB := Lib.hid (upd_below HB.out hu L2.out); clear k2; have k2 : Blk _ g2 _ #[.int .i64 (rdC l).raw, .int .i64 (rdC l).w0, .int .i64 (rdC l).w1, .int .i64 (rdC l).w2, .int .i64 (rdC l).n0, .int .i64 (rdC l).n1, .int .i64 (rdC l).n2, .int .i64 (rdC l).cap, .int .i64 zeroCf.log] := kn; clear kn hu)
      | ((with_reducible refine at_slot 36 ?_); refine wl_call rfl rfl Try.func32 (by kernel_rfl) rfl (sm_any (o := rO8 l) (lenO8 HL0.out) _ HR.out) rfl ?_; intro V18 hb; obtain ⟨hr, hs⟩ := hb; replace HR := Lib.hid hr; replace k1 := k1.step9 hs np_k1.out; replace k2 := k2.step9 hs np_k2.out; replace HB := Lib.hid (Step.below9 HB.out hs LP.out); clear hr hs)
      | ((with_reducible refine at_store 37 ?_); refine wl_st1 (v := .int .i64 (rdC l).log) rfl rfl rfl rfl k2 (by kernel_rfl) rfl rfl (by first | simp | simp [cfA]) ?_; intro V19 kn hu; replace k1 := k1.upd hu n1_2.out; replace HR := Lib.hid (HR.out.upd9 hu (Ne.symm np_k2.out)); replace HB := Lib.hid (upd_below HB.out hu L2.out); clear k2; have k2 : Blk _ g2 _ #[.int .i64 (rdC l).raw, .int .i64 (rdC l).w0, .int .i64 (rdC l).w1, .int .i64 (rdC l).w2, .int .i64 (rdC l).n0, .int .i64 (rdC l).n1, .int .i64 (rdC l).n2, .int .i64 (rdC l).cap, .int .i64 (rdC l).log] := kn; clear kn hu)
      | ((with_reducible refine at_slot 38 ?_); refine wl_ld0 rfl rfl rfl k2 Try.underlying25 rfl cfInfo ?_)
      | ((with_reducible refine at_slot 39 ?_); refine wl_call rfl rfl Try.func12 (by kernel_rfl) rfl (cck_no HC.out _) rfl ?_; intro V20 hb; replace k1 := k1.keep hb; replace k2 := k2.keep hb; replace HR := Lib.hid (HR.out.below9 hb); replace HB := Lib.hid (below_tr HB.out hb); clear hb)
      | ((with_reducible refine at_slot 42 ?_); refine wl_ld0 rfl rfl rfl k2 Try.underlying25 rfl cfInfo ?_)
      | ((with_reducible refine at_slot 47 ?_); refine wl_build (v := .agg (cfA zeroCf)) rfl rfl (build_cf0 _) rfl ?_)
      | ((with_reducible refine at_store 2 ?_); refine wl_st0 (A' := (cfA zeroCf)) rfl rfl rfl rfl k1 rfl cfInfo (cfA_one zeroCf) ?_; intro V21 kn hu; replace k2 := k2.upd hu (Ne.symm n1_2.out); replace HR := Lib.hid (HR.out.upd9 hu (Ne.symm np_k1.out)); replace HB := Lib.hid (upd_below HB.out hu L1.out); clear k1; have k1 : Blk _ g1 _ (cfA zeroCf) := kn; clear kn hu))
  refine bodyPost_ret (v := .tuple #[.agg (cfA zeroCf), .int .i64 4]) (results_ct Try.results10 _ rfl rfl k1 Try.underlying25 rfl cfInfo) rfl ?_
  exact ⟨rfl, HB.out⟩
set_option maxHeartbeats 4000000 in
set_option maxRecDepth 100000 in
theorem read_b {l : List UInt8} (hl : l.length ≤ 140737488355328) (h : CfOk (rdC l)) (hn : ¬ byL (rdC l) = l) (w : World) : Calls Try.prog 10 #[.string (bs l)] w fun e w' => e = .returned (.tuple #[.agg (cfA (zeroCf)), .int .i64 4]) ∧ Below w.heap.size w w' := by
  have HC := Lib.hid h
  have HBY := Lib.hid (fun w1 => byt_yes h w1)
  have hne : (!(bs (byL (rdC l))).toList == (bs l).toList) = true := by rw [bs_toList, bs_toList]; simpa using hn
  obtain ⟨X, hX⟩ : ∃ X, X = bs (byL (rdC l)) := ⟨_, rfl⟩
  rw [← hX] at HBY hne
  clear hX h hn
  have HL0 := Lib.hid hl
  clear hl
  have HB := Lib.hid (Below.refl w.heap.size w)
  go_enter Try.func10, Try.ntmps10
  go_wp2_with (first
      | ((with_reducible refine at_slot 2 ?_); refine wl_alloc (A := (cfA zeroCf)) rfl rfl cf_zero rfl ?_; intro W1 g1 k1 hb hle; have L1 := Lib.hid (Nat.le_trans HB.out.size hle); replace HB := Lib.hid (below_tr HB.out hb); clear hb hle)
      | ((with_reducible refine at_slot 9 ?_); refine wl_call rfl rfl Try.func31 (by kernel_rfl) rfl (ropen_o l _) rfl ?_; intro V1 hb; obtain ⟨hr, hb⟩ := hb; have np_k1 := Lib.hid (Nat.ne_of_lt k1.lt); have LP := Lib.hid HB.out.size; have HR := Lib.hid hr; replace k1 := k1.keep hb; replace HB := Lib.hid (below_tr HB.out hb); clear hr hb; have HRlt := Lib.hid HR.out.lt)
      | ((with_reducible refine at_slot 5 ?_); refine wl_alloc (A := (cfA zeroCf)) rfl rfl cf_zero rfl ?_; intro W2 g2 k2 hb hle; have n1_2 := Lib.hid (Blk.ne_of_le k1 hle); have np_k2 := Lib.hid (show g2 ≠ _ from Nat.ne_of_gt (Nat.lt_of_lt_of_le HRlt.out hle)); have L2 := Lib.hid (Nat.le_trans HB.out.size hle); replace k1 := k1.keep hb; replace HR := Lib.hid (HR.out.below9 hb); replace HB := Lib.hid (below_tr HB.out hb); clear hb hle)
      | ((with_reducible refine at_slot 11 ?_); refine wl_call rfl rfl Try.func32 (by kernel_rfl) rfl (sm_any (o := some l) HL0.out _ HR.out) rfl ?_; intro V2 hb; obtain ⟨hr, hs⟩ := hb; replace HR := Lib.hid hr; replace k1 := k1.step9 hs np_k1.out; replace k2 := k2.step9 hs np_k2.out; replace HB := Lib.hid (Step.below9 HB.out hs LP.out); clear hr hs)
      | ((with_reducible refine at_store 12 ?_); refine wl_st1 (v := .int .i64 (rdC l).raw) rfl rfl rfl rfl k2 (by kernel_rfl) rfl rfl (by first | simp | simp [cfA]) ?_; intro V3 kn hu; replace k1 := k1.upd hu n1_2.out; replace HR := Lib.hid (HR.out.upd9 hu (Ne.symm np_k2.out)); replace HB := Lib.hid (upd_below HB.out hu L2.out); clear k2; have k2 : Blk _ g2 _ #[.int .i64 (rdC l).raw, .int .i64 zeroCf.w0, .int .i64 zeroCf.w1, .int .i64 zeroCf.w2, .int .i64 zeroCf.n0, .int .i64 zeroCf.n1, .int .i64 zeroCf.n2, .int .i64 zeroCf.cap, .int .i64 zeroCf.log] := kn; clear kn hu))
  refine wp_loop_rounds 4 ?_
  rw [rounds_succ]
  go_wp2_with (first
      | ((with_reducible refine at_slot 18 ?_); refine wl_call rfl rfl Try.func33 (by kernel_rfl) rfl (rfx_any (o := rO1 l) 8 (by omega) (by omega) (lenO1 HL0.out) _ HR.out) rfl ?_; intro V4 hb; obtain ⟨hr, hs⟩ := hb; replace HR := Lib.hid hr; replace k1 := k1.step9 hs np_k1.out; replace k2 := k2.step9 hs np_k2.out; replace HB := Lib.hid (Step.below9 HB.out hs LP.out); clear hr hs)
      | ((with_reducible refine at_store 21 ?_); refine wl_st1 (v := .int .i64 (rdC l).w0) rfl rfl rfl rfl k2 (by kernel_rfl) rfl rfl (by first | simp | simp [cfA]) ?_; intro V5 kn hu; replace k1 := k1.upd hu n1_2.out; replace HR := Lib.hid (HR.out.upd9 hu (Ne.symm np_k2.out)); replace HB := Lib.hid (upd_below HB.out hu L2.out); clear k2; have k2 : Blk _ g2 _ #[.int .i64 (rdC l).raw, .int .i64 (rdC l).w0, .int .i64 zeroCf.w1, .int .i64 zeroCf.w2, .int .i64 zeroCf.n0, .int .i64 zeroCf.n1, .int .i64 zeroCf.n2, .int .i64 zeroCf.cap, .int .i64 zeroCf.log] := kn; clear kn hu))
  rw [rounds_succ]
  go_wp2_with (first
      | ((with_reducible refine at_slot 18 ?_); refine wl_call rfl rfl Try.func33 (by kernel_rfl) rfl (rfx_any (o := rO2 l) 8 (by omega) (by omega) (lenO2 HL0.out) _ HR.out) rfl ?_; intro V6 hb; obtain ⟨hr, hs⟩ := hb; replace HR := Lib.hid hr; replace k1 := k1.step9 hs np_k1.out; replace k2 := k2.step9 hs np_k2.out; replace HB := Lib.hid (Step.below9 HB.out hs LP.out); clear hr hs)
      | ((with_reducible refine at_store 21 ?_); refine wl_st1 (v := .int .i64 (rdC l).w1) rfl rfl rfl rfl k2 (by kernel_rfl) rfl rfl (by first | simp | simp [cfA]) ?_; intro V7 kn hu; replace k1 := k1.upd hu n1_2.out; replace HR := Lib.hid (HR.out.upd9 hu (Ne.symm np_k2.out)); replace HB := Lib.hid (upd_below HB.out hu L2.out); clear k2; have k2 : Blk _ g2 _ #[.int .i64 (rdC l).raw, .int .i64 (rdC l).w0, .int .i64 (rdC l).w1, .int .i64 zeroCf.w2, .int .i64 zeroCf.n0, .int .i64 zeroCf.n1, .int .i64 zeroCf.n2, .int .i64 zeroCf.cap, .int .i64 zeroCf.log] := kn; clear kn hu))
  rw [rounds_succ]
  go_wp2_with (first
      | ((with_reducible refine at_slot 18 ?_); refine wl_call rfl rfl Try.func33 (by kernel_rfl) rfl (rfx_any (o := rO3 l) 8 (by omega) (by omega) (lenO3 HL0.out) _ HR.out) rfl ?_; intro V8 hb; obtain ⟨hr, hs⟩ := hb; replace HR := Lib.hid hr; replace k1 := k1.step9 hs np_k1.out; replace k2 := k2.step9 hs np_k2.out; replace HB := Lib.hid (Step.below9 HB.out hs LP.out); clear hr hs)
      | ((with_reducible refine at_store 21 ?_); refine wl_st1 (v := .int .i64 (rdC l).w2) rfl rfl rfl rfl k2 (by kernel_rfl) rfl rfl (by first | simp | simp [cfA]) ?_; intro V9 kn hu; replace k1 := k1.upd hu n1_2.out; replace HR := Lib.hid (HR.out.upd9 hu (Ne.symm np_k2.out)); replace HB := Lib.hid (upd_below HB.out hu L2.out); clear k2; have k2 : Blk _ g2 _ #[.int .i64 (rdC l).raw, .int .i64 (rdC l).w0, .int .i64 (rdC l).w1, .int .i64 (rdC l).w2, .int .i64 zeroCf.n0, .int .i64 zeroCf.n1, .int .i64 zeroCf.n2, .int .i64 zeroCf.cap, .int .i64 zeroCf.log] := kn; clear kn hu))
  rw [rounds_succ]
  go_wp2_with fail
  refine wp_loop_rounds 4 ?_
  rw [rounds_succ]
  go_wp2_with (first
      | ((with_reducible refine at_slot 28 ?_); refine wl_call rfl rfl Try.func32 (by kernel_rfl) rfl (sm_any (o := rO4 l) (lenO4 HL0.out) _ HR.out) rfl ?_; intro V10 hb; obtain ⟨hr, hs⟩ := hb; replace HR := Lib.hid hr; replace k1 := k1.step9 hs np_k1.out; replace k2 := k2.step9 hs np_k2.out; replace HB := Lib.hid (Step.below9 HB.out hs LP.out); clear hr hs)
      | ((with_reducible refine at_store 30 ?_); refine wl_st1 (v := .int .i64 (rdC l).n0) rfl rfl rfl rfl k2 (by kernel_rfl) rfl rfl (by first | simp | simp [cfA]) ?_; intro V11 kn hu; replace k1 := k1.upd hu n1_2.out; replace HR := Lib.hid (HR.out.upd9 hu (Ne.symm np_k2.out)); replace HB := Lib.hid (upd_below HB.out hu L2.out); clear k2; have k2 : Blk _ g2 _ #[.int .i64 (rdC l).raw, .int .i64 (rdC l).w0, .int .i64 (rdC l).w1, .int .i64 (rdC l).w2, .int .i64 (rdC l).n0, .int .i64 zeroCf.n1, .int .i64 zeroCf.n2, .int .i64 zeroCf.cap, .int .i64 zeroCf.log] := kn; clear kn hu))
  rw [rounds_succ]
  go_wp2_with (first
      | ((with_reducible refine at_slot 28 ?_); refine wl_call rfl rfl Try.func32 (by kernel_rfl) rfl (sm_any (o := rO5 l) (lenO5 HL0.out) _ HR.out) rfl ?_; intro V12 hb; obtain ⟨hr, hs⟩ := hb; replace HR := Lib.hid hr; replace k1 := k1.step9 hs np_k1.out; replace k2 := k2.step9 hs np_k2.out; replace HB := Lib.hid (Step.below9 HB.out hs LP.out); clear hr hs)
      | ((with_reducible refine at_store 30 ?_); refine wl_st1 (v := .int .i64 (rdC l).n1) rfl rfl rfl rfl k2 (by kernel_rfl) rfl rfl (by first | simp | simp [cfA]) ?_; intro V13 kn hu; replace k1 := k1.upd hu n1_2.out; replace HR := Lib.hid (HR.out.upd9 hu (Ne.symm np_k2.out)); replace HB := Lib.hid (upd_below HB.out hu L2.out); clear k2; have k2 : Blk _ g2 _ #[.int .i64 (rdC l).raw, .int .i64 (rdC l).w0, .int .i64 (rdC l).w1, .int .i64 (rdC l).w2, .int .i64 (rdC l).n0, .int .i64 (rdC l).n1, .int .i64 zeroCf.n2, .int .i64 zeroCf.cap, .int .i64 zeroCf.log] := kn; clear kn hu))
  rw [rounds_succ]
  go_wp2_with (first
      | ((with_reducible refine at_slot 28 ?_); refine wl_call rfl rfl Try.func32 (by kernel_rfl) rfl (sm_any (o := rO6 l) (lenO6 HL0.out) _ HR.out) rfl ?_; intro V14 hb; obtain ⟨hr, hs⟩ := hb; replace HR := Lib.hid hr; replace k1 := k1.step9 hs np_k1.out; replace k2 := k2.step9 hs np_k2.out; replace HB := Lib.hid (Step.below9 HB.out hs LP.out); clear hr hs)
      | ((with_reducible refine at_store 30 ?_); refine wl_st1 (v := .int .i64 (rdC l).n2) rfl rfl rfl rfl k2 (by kernel_rfl) rfl rfl (by first | simp | simp [cfA]) ?_; intro V15 kn hu; replace k1 := k1.upd hu n1_2.out; replace HR := Lib.hid (HR.out.upd9 hu (Ne.symm np_k2.out)); replace HB := Lib.hid (upd_below HB.out hu L2.out); clear k2; have k2 : Blk _ g2 _ #[.int .i64 (rdC l).raw, .int .i64 (rdC l).w0, .int .i64 (rdC l).w1, .int .i64 (rdC l).w2, .int .i64 (rdC l).n0, .int .i64 (rdC l).n1, .int .i64 (rdC l).n2, .int .i64 zeroCf.cap, .int .i64 zeroCf.log] := kn; clear kn hu))
  rw [rounds_succ]
  go_wp2_with (first
      | ((with_reducible refine at_slot 33 ?_); refine wl_call rfl rfl Try.func32 (by kernel_rfl) rfl (sm_any (o := rO7 l) (lenO7 HL0.out) _ HR.out) rfl ?_; intro V16 hb; obtain ⟨hr, hs⟩ := hb; replace HR := Lib.hid hr; replace k1 := k1.step9 hs np_k1.out; replace k2 := k2.step9 hs np_k2.out; replace HB := Lib.hid (Step.below9 HB.out hs LP.out); clear hr hs)
      | ((with_reducible refine at_store 34 ?_); refine wl_st1 (v := .int .i64 (rdC l).cap) rfl rfl rfl rfl k2 (by kernel_rfl) rfl rfl (by first | simp | simp [cfA]) ?_; intro V17 kn hu; replace k1 := k1.upd hu n1_2.out; replace HR := Lib.hid (HR.out.upd9 hu (Ne.symm np_k2.out)); replace HB := Lib.hid (upd_below HB.out hu L2.out); clear k2; have k2 : Blk _ g2 _ #[.int .i64 (rdC l).raw, .int .i64 (rdC l).w0, .int .i64 (rdC l).w1, .int .i64 (rdC l).w2, .int .i64 (rdC l).n0, .int .i64 (rdC l).n1, .int .i64 (rdC l).n2, .int .i64 (rdC l).cap, .int .i64 zeroCf.log] := kn; clear kn hu)
      | ((with_reducible refine at_slot 36 ?_); refine wl_call rfl rfl Try.func32 (by kernel_rfl) rfl (sm_any (o := rO8 l) (lenO8 HL0.out) _ HR.out) rfl ?_; intro V18 hb; obtain ⟨hr, hs⟩ := hb; replace HR := Lib.hid hr; replace k1 := k1.step9 hs np_k1.out; replace k2 := k2.step9 hs np_k2.out; replace HB := Lib.hid (Step.below9 HB.out hs LP.out); clear hr hs)
      | ((with_reducible refine at_store 37 ?_); refine wl_st1 (v := .int .i64 (rdC l).log) rfl rfl rfl rfl k2 (by kernel_rfl) rfl rfl (by first | simp | simp [cfA]) ?_; intro V19 kn hu; replace k1 := k1.upd hu n1_2.out; replace HR := Lib.hid (HR.out.upd9 hu (Ne.symm np_k2.out)); replace HB := Lib.hid (upd_below HB.out hu L2.out); clear k2; have k2 : Blk _ g2 _ #[.int .i64 (rdC l).raw, .int .i64 (rdC l).w0, .int .i64 (rdC l).w1, .int .i64 (rdC l).w2, .int .i64 (rdC l).n0, .int .i64 (rdC l).n1, .int .i64 (rdC l).n2, .int .i64 (rdC l).cap, .int .i64 (rdC l).log] := kn; clear kn hu)
      | ((with_reducible refine at_slot 38 ?_); refine wl_ld0 rfl rfl rfl k2 Try.underlying25 rfl cfInfo ?_)
      | ((with_reducible refine at_slot 39 ?_); refine wl_call rfl rfl Try.func12 (by kernel_rfl) rfl (cck_yes HC.out _) rfl ?_; intro V20 hb; replace k1 := k1.keep hb; replace k2 := k2.keep hb; replace HR := Lib.hid (HR.out.below9 hb); replace HB := Lib.hid (below_tr HB.out hb); clear hb)
      | ((with_reducible refine at_slot 42 ?_); refine wl_ld0 rfl rfl rfl k2 Try.underlying25 rfl cfInfo ?_)
      | ((with_reducible refine at_slot 43 ?_); refine wl_call rfl rfl Try.func22 (by kernel_rfl) rfl (HBY.out _) rfl ?_; intro V21 hb; replace k1 := k1.keep hb; replace k2 := k2.keep hb; replace HR := Lib.hid (HR.out.below9 hb); replace HB := Lib.hid (below_tr HB.out hb); clear hb)
      | ((with_reducible refine at_slot 47 ?_); refine wl_build (v := .agg (cfA zeroCf)) rfl rfl (build_cf0 _) rfl ?_)
      | ((with_reducible refine at_store 2 ?_); refine wl_st0 (A' := (cfA zeroCf)) rfl rfl rfl rfl k1 rfl cfInfo (cfA_one zeroCf) ?_; intro V22 kn hu; replace k2 := k2.upd hu (Ne.symm n1_2.out); replace HR := Lib.hid (HR.out.upd9 hu (Ne.symm np_k1.out)); replace HB := Lib.hid (upd_below HB.out hu L1.out); clear k1; have k1 : Blk _ g1 _ (cfA zeroCf) := kn; clear kn hu))
  refine bodyPost_ret (v := .tuple #[.agg (cfA zeroCf), .int .i64 4]) (results_ct Try.results10 _ rfl rfl k1 Try.underlying25 rfl cfInfo) rfl ?_
  exact ⟨rfl, HB.out⟩
set_option maxHeartbeats 4000000 in
set_option maxRecDepth 100000 in
theorem read_c {l : List UInt8} (hl : l.length ≤ 140737488355328) (h : CfOk (rdC l)) (hn : byL (rdC l) = l) (w : World) : Calls Try.prog 10 #[.string (bs l)] w fun e w' => e = .returned (.tuple #[.agg (cfA (rdC l)), .int .i64 0]) ∧ Below w.heap.size w w' := by
  have HC := Lib.hid h
  have HBY := Lib.hid (fun w1 => byt_yes h w1)
  rw [hn] at HBY
  clear h hn
  have HL0 := Lib.hid hl
  clear hl
  have HB := Lib.hid (Below.refl w.heap.size w)
  go_enter Try.func10, Try.ntmps10
  go_wp2_with (first
      | ((with_reducible refine at_slot 2 ?_); refine wl_alloc (A := (cfA zeroCf)) rfl rfl cf_zero rfl ?_; intro W1 g1 k1 hb hle; have L1 := Lib.hid (Nat.le_trans HB.out.size hle); replace HB := Lib.hid (below_tr HB.out hb); clear hb hle)
      | ((with_reducible refine at_slot 9 ?_); refine wl_call rfl rfl Try.func31 (by kernel_rfl) rfl (ropen_o l _) rfl ?_; intro V1 hb; obtain ⟨hr, hb⟩ := hb; have np_k1 := Lib.hid (Nat.ne_of_lt k1.lt); have LP := Lib.hid HB.out.size; have HR := Lib.hid hr; replace k1 := k1.keep hb; replace HB := Lib.hid (below_tr HB.out hb); clear hr hb; have HRlt := Lib.hid HR.out.lt)
      | ((with_reducible refine at_slot 5 ?_); refine wl_alloc (A := (cfA zeroCf)) rfl rfl cf_zero rfl ?_; intro W2 g2 k2 hb hle; have n1_2 := Lib.hid (Blk.ne_of_le k1 hle); have np_k2 := Lib.hid (show g2 ≠ _ from Nat.ne_of_gt (Nat.lt_of_lt_of_le HRlt.out hle)); have L2 := Lib.hid (Nat.le_trans HB.out.size hle); replace k1 := k1.keep hb; replace HR := Lib.hid (HR.out.below9 hb); replace HB := Lib.hid (below_tr HB.out hb); clear hb hle)
      | ((with_reducible refine at_slot 11 ?_); refine wl_call rfl rfl Try.func32 (by kernel_rfl) rfl (sm_any (o := some l) HL0.out _ HR.out) rfl ?_; intro V2 hb; obtain ⟨hr, hs⟩ := hb; replace HR := Lib.hid hr; replace k1 := k1.step9 hs np_k1.out; replace k2 := k2.step9 hs np_k2.out; replace HB := Lib.hid (Step.below9 HB.out hs LP.out); clear hr hs)
      | ((with_reducible refine at_store 12 ?_); refine wl_st1 (v := .int .i64 (rdC l).raw) rfl rfl rfl rfl k2 (by kernel_rfl) rfl rfl (by first | simp | simp [cfA]) ?_; intro V3 kn hu; replace k1 := k1.upd hu n1_2.out; replace HR := Lib.hid (HR.out.upd9 hu (Ne.symm np_k2.out)); replace HB := Lib.hid (upd_below HB.out hu L2.out); clear k2; have k2 : Blk _ g2 _ #[.int .i64 (rdC l).raw, .int .i64 zeroCf.w0, .int .i64 zeroCf.w1, .int .i64 zeroCf.w2, .int .i64 zeroCf.n0, .int .i64 zeroCf.n1, .int .i64 zeroCf.n2, .int .i64 zeroCf.cap, .int .i64 zeroCf.log] := kn; clear kn hu))
  refine wp_loop_rounds 4 ?_
  rw [rounds_succ]
  go_wp2_with (first
      | ((with_reducible refine at_slot 18 ?_); refine wl_call rfl rfl Try.func33 (by kernel_rfl) rfl (rfx_any (o := rO1 l) 8 (by omega) (by omega) (lenO1 HL0.out) _ HR.out) rfl ?_; intro V4 hb; obtain ⟨hr, hs⟩ := hb; replace HR := Lib.hid hr; replace k1 := k1.step9 hs np_k1.out; replace k2 := k2.step9 hs np_k2.out; replace HB := Lib.hid (Step.below9 HB.out hs LP.out); clear hr hs)
      | ((with_reducible refine at_store 21 ?_); refine wl_st1 (v := .int .i64 (rdC l).w0) rfl rfl rfl rfl k2 (by kernel_rfl) rfl rfl (by first | simp | simp [cfA]) ?_; intro V5 kn hu; replace k1 := k1.upd hu n1_2.out; replace HR := Lib.hid (HR.out.upd9 hu (Ne.symm np_k2.out)); replace HB := Lib.hid (upd_below HB.out hu L2.out); clear k2; have k2 : Blk _ g2 _ #[.int .i64 (rdC l).raw, .int .i64 (rdC l).w0, .int .i64 zeroCf.w1, .int .i64 zeroCf.w2, .int .i64 zeroCf.n0, .int .i64 zeroCf.n1, .int .i64 zeroCf.n2, .int .i64 zeroCf.cap, .int .i64 zeroCf.log] := kn; clear kn hu))
  rw [rounds_succ]
  go_wp2_with (first
      | ((with_reducible refine at_slot 18 ?_); refine wl_call rfl rfl Try.func33 (by kernel_rfl) rfl (rfx_any (o := rO2 l) 8 (by omega) (by omega) (lenO2 HL0.out) _ HR.out) rfl ?_; intro V6 hb; obtain ⟨hr, hs⟩ := hb; replace HR := Lib.hid hr; replace k1 := k1.step9 hs np_k1.out; replace k2 := k2.step9 hs np_k2.out; replace HB := Lib.hid (Step.below9 HB.out hs LP.out); clear hr hs)
      | ((with_reducible refine at_store 21 ?_); refine wl_st1 (v := .int .i64 (rdC l).w1) rfl rfl rfl rfl k2 (by kernel_rfl) rfl rfl (by first | simp | simp [cfA]) ?_; intro V7 kn hu; replace k1 := k1.upd hu n1_2.out; replace HR := Lib.hid (HR.out.upd9 hu (Ne.symm np_k2.out)); replace HB := Lib.hid (upd_below HB.out hu L2.out); clear k2; have k2 : Blk _ g2 _ #[.int .i64 (rdC l).raw, .int .i64 (rdC l).w0, .int .i64 (rdC l).w1, .int .i64 zeroCf.w2, .int .i64 zeroCf.n0, .int .i64 zeroCf.n1, .int .i64 zeroCf.n2, .int .i64 zeroCf.cap, .int .i64 zeroCf.log] := kn; clear kn hu))
  rw [rounds_succ]
  go_wp2_with (first
      | ((with_reducible refine at_slot 18 ?_); refine wl_call rfl rfl Try.func33 (by kernel_rfl) rfl (rfx_any (o := rO3 l) 8 (by omega) (by omega) (lenO3 HL0.out) _ HR.out) rfl ?_; intro V8 hb; obtain ⟨hr, hs⟩ := hb; replace HR := Lib.hid hr; replace k1 := k1.step9 hs np_k1.out; replace k2 := k2.step9 hs np_k2.out; replace HB := Lib.hid (Step.below9 HB.out hs LP.out); clear hr hs)
      | ((with_reducible refine at_store 21 ?_); refine wl_st1 (v := .int .i64 (rdC l).w2) rfl rfl rfl rfl k2 (by kernel_rfl) rfl rfl (by first | simp | simp [cfA]) ?_; intro V9 kn hu; replace k1 := k1.upd hu n1_2.out; replace HR := Lib.hid (HR.out.upd9 hu (Ne.symm np_k2.out)); replace HB := Lib.hid (upd_below HB.out hu L2.out); clear k2; have k2 : Blk _ g2 _ #[.int .i64 (rdC l).raw, .int .i64 (rdC l).w0, .int .i64 (rdC l).w1, .int .i64 (rdC l).w2, .int .i64 zeroCf.n0, .int .i64 zeroCf.n1, .int .i64 zeroCf.n2, .int .i64 zeroCf.cap, .int .i64 zeroCf.log] := kn; clear kn hu))
  rw [rounds_succ]
  go_wp2_with fail
  refine wp_loop_rounds 4 ?_
  rw [rounds_succ]
  go_wp2_with (first
      | ((with_reducible refine at_slot 28 ?_); refine wl_call rfl rfl Try.func32 (by kernel_rfl) rfl (sm_any (o := rO4 l) (lenO4 HL0.out) _ HR.out) rfl ?_; intro V10 hb; obtain ⟨hr, hs⟩ := hb; replace HR := Lib.hid hr; replace k1 := k1.step9 hs np_k1.out; replace k2 := k2.step9 hs np_k2.out; replace HB := Lib.hid (Step.below9 HB.out hs LP.out); clear hr hs)
      | ((with_reducible refine at_store 30 ?_); refine wl_st1 (v := .int .i64 (rdC l).n0) rfl rfl rfl rfl k2 (by kernel_rfl) rfl rfl (by first | simp | simp [cfA]) ?_; intro V11 kn hu; replace k1 := k1.upd hu n1_2.out; replace HR := Lib.hid (HR.out.upd9 hu (Ne.symm np_k2.out)); replace HB := Lib.hid (upd_below HB.out hu L2.out); clear k2; have k2 : Blk _ g2 _ #[.int .i64 (rdC l).raw, .int .i64 (rdC l).w0, .int .i64 (rdC l).w1, .int .i64 (rdC l).w2, .int .i64 (rdC l).n0, .int .i64 zeroCf.n1, .int .i64 zeroCf.n2, .int .i64 zeroCf.cap, .int .i64 zeroCf.log] := kn; clear kn hu))
  rw [rounds_succ]
  go_wp2_with (first
      | ((with_reducible refine at_slot 28 ?_); refine wl_call rfl rfl Try.func32 (by kernel_rfl) rfl (sm_any (o := rO5 l) (lenO5 HL0.out) _ HR.out) rfl ?_; intro V12 hb; obtain ⟨hr, hs⟩ := hb; replace HR := Lib.hid hr; replace k1 := k1.step9 hs np_k1.out; replace k2 := k2.step9 hs np_k2.out; replace HB := Lib.hid (Step.below9 HB.out hs LP.out); clear hr hs)
      | ((with_reducible refine at_store 30 ?_); refine wl_st1 (v := .int .i64 (rdC l).n1) rfl rfl rfl rfl k2 (by kernel_rfl) rfl rfl (by first | simp | simp [cfA]) ?_; intro V13 kn hu; replace k1 := k1.upd hu n1_2.out; replace HR := Lib.hid (HR.out.upd9 hu (Ne.symm np_k2.out)); replace HB := Lib.hid (upd_below HB.out hu L2.out); clear k2; have k2 : Blk _ g2 _ #[.int .i64 (rdC l).raw, .int .i64 (rdC l).w0, .int .i64 (rdC l).w1, .int .i64 (rdC l).w2, .int .i64 (rdC l).n0, .int .i64 (rdC l).n1, .int .i64 zeroCf.n2, .int .i64 zeroCf.cap, .int .i64 zeroCf.log] := kn; clear kn hu))
  rw [rounds_succ]
  go_wp2_with (first
      | ((with_reducible refine at_slot 28 ?_); refine wl_call rfl rfl Try.func32 (by kernel_rfl) rfl (sm_any (o := rO6 l) (lenO6 HL0.out) _ HR.out) rfl ?_; intro V14 hb; obtain ⟨hr, hs⟩ := hb; replace HR := Lib.hid hr; replace k1 := k1.step9 hs np_k1.out; replace k2 := k2.step9 hs np_k2.out; replace HB := Lib.hid (Step.below9 HB.out hs LP.out); clear hr hs)
      | ((with_reducible refine at_store 30 ?_); refine wl_st1 (v := .int .i64 (rdC l).n2) rfl rfl rfl rfl k2 (by kernel_rfl) rfl rfl (by first | simp | simp [cfA]) ?_; intro V15 kn hu; replace k1 := k1.upd hu n1_2.out; replace HR := Lib.hid (HR.out.upd9 hu (Ne.symm np_k2.out)); replace HB := Lib.hid (upd_below HB.out hu L2.out); clear k2; have k2 : Blk _ g2 _ #[.int .i64 (rdC l).raw, .int .i64 (rdC l).w0, .int .i64 (rdC l).w1, .int .i64 (rdC l).w2, .int .i64 (rdC l).n0, .int .i64 (rdC l).n1, .int .i64 (rdC l).n2, .int .i64 zeroCf.cap, .int .i64 zeroCf.log] := kn; clear kn hu))
  rw [rounds_succ]
  go_wp2_with (first
      | ((with_reducible refine at_slot 33 ?_); refine wl_call rfl rfl Try.func32 (by kernel_rfl) rfl (sm_any (o := rO7 l) (lenO7 HL0.out) _ HR.out) rfl ?_; intro V16 hb; obtain ⟨hr, hs⟩ := hb; replace HR := Lib.hid hr; replace k1 := k1.step9 hs np_k1.out; replace k2 := k2.step9 hs np_k2.out; replace HB := Lib.hid (Step.below9 HB.out hs LP.out); clear hr hs)
      | ((with_reducible refine at_store 34 ?_); refine wl_st1 (v := .int .i64 (rdC l).cap) rfl rfl rfl rfl k2 (by kernel_rfl) rfl rfl (by first | simp | simp [cfA]) ?_; intro V17 kn hu; replace k1 := k1.upd hu n1_2.out; replace HR := Lib.hid (HR.out.upd9 hu (Ne.symm np_k2.out)); replace HB := Lib.hid (upd_below HB.out hu L2.out); clear k2; have k2 : Blk _ g2 _ #[.int .i64 (rdC l).raw, .int .i64 (rdC l).w0, .int .i64 (rdC l).w1, .int .i64 (rdC l).w2, .int .i64 (rdC l).n0, .int .i64 (rdC l).n1, .int .i64 (rdC l).n2, .int .i64 (rdC l).cap, .int .i64 zeroCf.log] := kn; clear kn hu)
      | ((with_reducible refine at_slot 36 ?_); refine wl_call rfl rfl Try.func32 (by kernel_rfl) rfl (sm_any (o := rO8 l) (lenO8 HL0.out) _ HR.out) rfl ?_; intro V18 hb; obtain ⟨hr, hs⟩ := hb; replace HR := Lib.hid hr; replace k1 := k1.step9 hs np_k1.out; replace k2 := k2.step9 hs np_k2.out; replace HB := Lib.hid (Step.below9 HB.out hs LP.out); clear hr hs)
      | ((with_reducible refine at_store 37 ?_); refine wl_st1 (v := .int .i64 (rdC l).log) rfl rfl rfl rfl k2 (by kernel_rfl) rfl rfl (by first | simp | simp [cfA]) ?_; intro V19 kn hu; replace k1 := k1.upd hu n1_2.out; replace HR := Lib.hid (HR.out.upd9 hu (Ne.symm np_k2.out)); replace HB := Lib.hid (upd_below HB.out hu L2.out); clear k2; have k2 : Blk _ g2 _ #[.int .i64 (rdC l).raw, .int .i64 (rdC l).w0, .int .i64 (rdC l).w1, .int .i64 (rdC l).w2, .int .i64 (rdC l).n0, .int .i64 (rdC l).n1, .int .i64 (rdC l).n2, .int .i64 (rdC l).cap, .int .i64 (rdC l).log] := kn; clear kn hu)
      | ((with_reducible refine at_slot 38 ?_); refine wl_ld0 rfl rfl rfl k2 Try.underlying25 rfl cfInfo ?_)
      | ((with_reducible refine at_slot 39 ?_); refine wl_call rfl rfl Try.func12 (by kernel_rfl) rfl (cck_yes HC.out _) rfl ?_; intro V20 hb; replace k1 := k1.keep hb; replace k2 := k2.keep hb; replace HR := Lib.hid (HR.out.below9 hb); replace HB := Lib.hid (below_tr HB.out hb); clear hb)
      | ((with_reducible refine at_slot 42 ?_); refine wl_ld0 rfl rfl rfl k2 Try.underlying25 rfl cfInfo ?_)
      | ((with_reducible refine at_slot 43 ?_); refine wl_call rfl rfl Try.func22 (by kernel_rfl) rfl (HBY.out _) rfl ?_; intro V21 hb; replace k1 := k1.keep hb; replace k2 := k2.keep hb; replace HR := Lib.hid (HR.out.below9 hb); replace HB := Lib.hid (below_tr HB.out hb); clear hb)
      | ((with_reducible refine at_slot 48 ?_); refine wl_ld0 rfl rfl rfl k2 Try.underlying25 rfl cfInfo ?_)
      | ((with_reducible refine at_store 2 ?_); refine wl_st0 (A' := #[.int .i64 (rdC l).raw, .int .i64 (rdC l).w0, .int .i64 (rdC l).w1, .int .i64 (rdC l).w2, .int .i64 (rdC l).n0, .int .i64 (rdC l).n1, .int .i64 (rdC l).n2, .int .i64 (rdC l).cap, .int .i64 (rdC l).log]) rfl rfl rfl rfl k1 rfl cfInfo (by simp [Value.oneCell']) ?_; intro V22 kn hu; replace k2 := k2.upd hu (Ne.symm n1_2.out); replace HR := Lib.hid (HR.out.upd9 hu (Ne.symm np_k1.out)); replace HB := Lib.hid (upd_below HB.out hu L1.out); clear k1; have k1 : Blk _ g1 _ #[.int .i64 (rdC l).raw, .int .i64 (rdC l).w0, .int .i64 (rdC l).w1, .int .i64 (rdC l).w2, .int .i64 (rdC l).n0, .int .i64 (rdC l).n1, .int .i64 (rdC l).n2, .int .i64 (rdC l).cap, .int .i64 (rdC l).log] := kn; clear kn hu))
  refine bodyPost_ret (v := .tuple #[.agg #[.int .i64 (rdC l).raw, .int .i64 (rdC l).w0, .int .i64 (rdC l).w1, .int .i64 (rdC l).w2, .int .i64 (rdC l).n0, .int .i64 (rdC l).n1, .int .i64 (rdC l).n2, .int .i64 (rdC l).cap, .int .i64 (rdC l).log], .int .i64 0]) (results_ct Try.results10 _ rfl rfl k1 Try.underlying25 rfl cfInfo) rfl ?_
  exact ⟨rfl, HB.out⟩
theorem read_any {l : List UInt8} (hl : l.length ≤ 140737488355328) (w : World) : Calls Try.prog 10 #[.string (bs l)] w fun e w' => e = .returned (.tuple #[.agg (cfA (readC l)), .int .i64 (readE l)]) ∧ Below w.heap.size w w' := by
  by_cases h : CfOk (rdC l)
  · by_cases hn : byL (rdC l) = l
    · rw [show readC l = rdC l from if_pos ⟨h, hn⟩, show readE l = 0 from if_pos ⟨h, hn⟩]; exact read_c hl h hn w
    · rw [show readC l = zeroCf from if_neg (fun h => hn h.2), show readE l = 4 from if_neg (fun h => hn h.2)]; exact read_b hl h hn w
  · rw [show readC l = zeroCf from if_neg (fun h' => h h'.1), show readE l = 4 from if_neg (fun h' => h h'.1)]; exact read_a hl h w
end Go.Proofs.Yticmkepocacmhaa
