/-
  WALKS: the document's answer for layer 3 (plimsollref03): the reader's Uint.
-/
import Derived.Test.YtkoajibjlcnjgaaVr
import Derived.LoopTactic
namespace Go.Proofs.Ytkoajibjlcnjgaa
open Go Go.RowKit

theorem below_of {w W w1 : World} (h : Below w.heap.size w W) (hb : Below W.heap.size W w1) : Below w.heap.size w w1 := h.trans (hb.mono h.size)
/-- The reader's own copy, and what it is to answer. -/
structure VS (w wr : World) (g1 : Nat) (s : List UInt8) (bad : Bool) : Prop where
  b : Below w.heap.size w wr
  a : wr.heap[w.heap.size]? = some (.cells #[.string (bs s), .bool bad] 43 (0, 0))
  c : wr.heap[g1]? = some (.cells #[.string (bs []), .bool false] 43 (0, 0))
section
variable {w wr : World} {g1 : Nat} {s : List UInt8} {bad : Bool}
theorem VS.c0 (h : VS w wr g1 s bad) : wr.cell? ⟨w.heap.size, 0, none⟩ = some (.string (bs s)) := by rw [cell_blk h.a]; rfl
theorem VS.c1 (h : VS w wr g1 s bad) : wr.cell? ⟨w.heap.size, 1, none⟩ = some (.bool bad) := by rw [cell_blk h.a]; rfl
theorem VS.d0 (h : VS w wr g1 s bad) : wr.cell? ⟨g1, 0, none⟩ = some (.string (bs [])) := by rw [cell_blk h.c]; rfl
theorem VS.d1 (h : VS w wr g1 s bad) : wr.cell? ⟨g1, 1, none⟩ = some (.bool false) := by rw [cell_blk h.c]; rfl
theorem VS.keep {w' : World} (h : VS w wr g1 s bad) (hb : Below wr.heap.size wr w') : VS w w' g1 s bad :=
  ⟨below_of h.b hb, (hb.block _ (lt_blk h.a)).trans h.a, (hb.block _ (lt_blk h.c)).trans h.c⟩
theorem VS.end (h : VS w wr g1 s bad) (hle : w.heap.size ≤ g1) (x y : Value) : Below w.heap.size w ((wr.setCell ⟨g1, 0, none⟩ x).setCell ⟨g1, 1, none⟩ y) :=
  (h.b.setCell (p := ⟨g1, 0, none⟩) hle _).setCell (p := ⟨g1, 1, none⟩) hle _
end
theorem fin0 {w0 : World} {g1 : Nat} {a b : Value} {t : TypeId} (h : w0.heap[g1]? = some (.cells #[a, b] t (0, 0))) (x : Value) : (w0.setCell ⟨g1, 0, none⟩ x).cell? ⟨g1, 0, none⟩ = some x := by
  rw [cell_blk (set_blk h _)]; rfl
theorem fin1 {w0 : World} {g1 : Nat} {a b : Value} {t : TypeId} (h : w0.heap[g1]? = some (.cells #[a, b] t (0, 0))) (x y : Value) : ((w0.setCell ⟨g1, 0, none⟩ x).setCell ⟨g1, 1, none⟩ y).cell? ⟨g1, 1, none⟩ = some y := by
  rw [cell_blk (set_blk (set_blk h _) _)]; rfl
theorem veq {s : List UInt8} {n k : Nat} (h : rd 0 0 s = some (n, k)) : ((bs (ub n)).toList == ((bs s).extract 0 k).toList) = true := by
  rw [bs_take, (rd_one h).1]
  simp
theorem vneq {s : List UInt8} {n k : Nat} (hn : n < 18446744073709551616) (h : rd 0 0 s = none) : ((bs (ub n)).toList == ((bs s).extract 0 k).toList) = false := by
  rw [beq_eq_false_iff_ne, bs_take, bs_toList, bs_toList]
  intro e
  have := rd_ub n (s.drop k) hn
  rw [e, List.take_append_drop, h] at this
  cases this
theorem val_top {acc c k : Nat} (ha : acc < 128 ^ k) (hk : k ≤ 9) (hc : c < 128) (h9 : k = 9 → c ≤ 1) : acc + c * 128 ^ k < 18446744073709551616 := by
  by_cases h : k = 9
  · subst h; have := h9 rfl; omega
  · have := acc_top (acc_next ha hc) (by omega); exact this
theorem VS.drew {w wr : World} {g1 : Nat} {s : List UInt8} {bad : Bool} (h : VS w wr g1 s bad) : VS w wr.drew g1 s bad := ⟨h.b.drew, h.a, h.c⟩
theorem tup_su {a a' : ByteArray} {x : Bool} {n : Int} (h : a = a') : Ending.returned (.tuple #[.agg #[.string a, .bool x], .int .u64 n]) = .returned (.tuple #[.agg #[.string a', .bool x], .int .u64 n]) := by rw [h]
theorem wrap_b {c : Nat} (h : c < 256) : IntKind.u64.wrap (c : Int) = (c : Int) := by
  unfold IntKind.wrap; simp [IntKind.signed, IntKind.bits]; omega
theorem add_val {acc c k : Nat} (ha : acc < 128 ^ k) (hk : k ≤ 9) (hc : c < 128) (h9 : k = 9 → c ≤ 1) :
    IntKind.u64.wrap ((acc : Int) + IntKind.u64.wrap ((IntKind.u64.wrap (c : Int)).tmod 128 * 2 ^ (7 * k))) = ((acc + c * 128 ^ k : Nat) : Int) := by
  have h1 := pow_top hk hc h9
  have h2 := val_top ha hk hc h9
  have e : ((c : Int)) * 2 ^ (7 * k) = ((c * 128 ^ k : Nat) : Int) := by rw [pow128]; simp
  rw [wrap_b (by omega), Int.tmod_eq_emod_of_nonneg (by omega), show (c : Int) % 128 = (c : Int) by omega, e, IntKind.wrap_u64, IntKind.wrap_u64]
  omega
theorem add_val9 {acc c : Nat} (ha : acc < 128 ^ 9) (hc : c ≤ 1) :
    IntKind.u64.wrap ((acc : Int) + IntKind.u64.wrap ((IntKind.u64.wrap (c : Int)).tmod 128 * 9223372036854775808)) = ((acc + c * 128 ^ 9 : Nat) : Int) := by
  have := add_val (k := 9) ha (by omega) (by omega) (fun _ => hc)
  exact this
theorem add_val' {acc c k : Nat} (ha : acc < 128 ^ k) (hk : k ≤ 8) (hc : 128 ≤ c) (hc2 : c < 256) :
    IntKind.u64.wrap ((acc : Int) + IntKind.u64.wrap ((IntKind.u64.wrap (c : Int)).tmod 128 * 2 ^ (7 * k))) = ((acc + (c - 128) * 128 ^ k : Nat) : Int) := by
  have h := add_val (c := c - 128) ha (by omega) (by omega) (by omega)
  rw [wrap_b (by omega), Int.tmod_eq_emod_of_nonneg (by omega)] at h ⊢
  rw [show (c : Int) % 128 = ((c - 128 : Nat) : Int) % 128 by omega]
  exact h
theorem vs_start {w w0 : World} {g1 : Nat} {s : List UInt8} {bad : Bool} (h : w0 = ((w.alloc (Obj.cells #[Value.string (bs s), Value.bool bad] 43)).alloc (Obj.cells #[Value.string { data := #[] }, Value.bool false] 43))) (hg : g1 = w.heap.size + 1) : VS w w0 g1 s bad := by
  subst h hg
  refine ⟨by go_grown, alloc_old (alloc_blk _ _) _, ?_⟩
  have e : w.heap.size + 1 = (w.alloc (Obj.cells #[Value.string (bs s), Value.bool bad] 43)).heap.size := by simp
  rw [e]; exact alloc_blk _ _

set_option maxHeartbeats 1000000 in
set_option maxRecDepth 100000 in
theorem vuint_bad (w : World) :
    Calls Try.prog 36 #[.agg #[.string (bs []), .bool true]] w fun e w' => e = .returned (.tuple #[.agg #[.string (bs []), .bool true], .int .u64 0]) ∧ Below w.heap.size w w' := by
  go_enter Try.func36, Try.ntmps36
  go_upto_region 1 with fail
  obtain ⟨w0, hw0⟩ : ∃ w0, w0 = ((w.alloc (Obj.cells #[Value.string (bs []), Value.bool true] 43)).alloc (Obj.cells #[Value.string { data := #[] }, Value.bool false] 43)) := ⟨_, rfl⟩
  rw [← hw0]
  obtain ⟨g1, hg1⟩ : ∃ g, g = w.heap.size + 1 := ⟨_, rfl⟩
  have HV := Lib.hid (vs_start hw0 hg1)
  rw [← hg1]
  have hne : w.heap.size ≠ g1 := by omega
  have hle : w.heap.size ≤ g1 := by omega
  clear hw0 hg1
  have c0 := HV.out.c0
  have c1 := HV.out.c1
  have f0 := free_blk HV.out.c 0
  have f1 := free_blk HV.out.c 1
  have d0 := HV.out.d0
  have d1 := HV.out.d1
  go_wp2_with fail
  refine bodyPost_ret (v := .tuple #[.agg #[.string (bs []), .bool true], .int .u64 0]) (by simp [results, Try.results36, go_sem, fin0 HV.out.c, fin1 HV.out.c]) rfl ?_
  exact ⟨rfl, HV.out.end hle _ _⟩

set_option maxHeartbeats 2000000 in
set_option maxRecDepth 100000 in
theorem vuint_go (s : List UInt8) (hs : s.length ≤ 140737488355328) (w : World) :
    Calls Try.prog 36 #[.agg #[.string (bs s), .bool false]] w fun e w' => (rd 0 0 s = none ∧ e = .returned (.tuple #[.agg #[.string (bs []), .bool true], .int .u64 0]) ∧ Below w.heap.size w w') ∨
      ∃ n k : Nat, rd 0 0 s = some (n, k) ∧ e = .returned (.tuple #[.agg #[.string (bs (s.drop k)), .bool false], .int .u64 n]) ∧ Below w.heap.size w w' := by
  have hz := bs_size s
  go_enter Try.func36, Try.ntmps36
  go_upto_region 1 with fail
  obtain ⟨w0, hw0⟩ : ∃ w0, w0 = ((w.alloc (Obj.cells #[Value.string (bs s), Value.bool false] 43)).alloc (Obj.cells #[Value.string { data := #[] }, Value.bool false] 43)) := ⟨_, rfl⟩
  rw [← hw0]
  obtain ⟨g1, hg1⟩ : ∃ g, g = w.heap.size + 1 := ⟨_, rfl⟩
  have HV := Lib.hid (vs_start hw0 hg1)
  rw [← hg1]
  have hne : w.heap.size ≠ g1 := by omega
  have hle : w.heap.size ≤ g1 := by omega
  clear hw0 hg1
  have c0 := HV.out.c0
  have c1 := HV.out.c1
  have f0 := free_blk HV.out.c 0
  have f1 := free_blk HV.out.c 1
  have d0 := HV.out.d0
  have d1 := HV.out.d1
  go_wp2_with fail
  clear c0 c1 f0 f1 d0 d1
  go_loopw [4, 5] (fun n i wr => ∃ k acc : Nat, k ≤ s.length ∧ k ≤ 9 ∧ acc < 128 ^ k ∧ rd 0 0 s = rd k acc (s.drop k) ∧ i = .int .i64 k ∧ n = .int .u64 acc ∧ VS w wr g1 s false) (fun _ i _ => s.length - (intOf i).toNat)
  case atStart => exact ⟨0, 0, by omega, by omega, by omega, rfl, rfl, rfl, HV.out⟩
  case round =>
    obtain ⟨k, acc, hk, hk9, ha, hrd, rfl, rfl, hV⟩ := hrel
    clear HV
    have HV := Lib.hid hV
    clear hV
    have c0 := HV.out.c0
    have c1 := HV.out.c1
    have f0 := free_blk HV.out.c 0
    have f1 := free_blk HV.out.c 1
    have d0 := HV.out.d0
    have d1 := HV.out.d1
    by_cases hlt : k < s.length
    · rw [rd_at hlt] at hrd
      have hg := bs_get s k (by rw [bs_size]; exact hlt)
      rw [← hg] at hrd
      have HD := Lib.hid hrd
      have HA := Lib.hid ha
      have HB := Lib.hid ((bs s)[k]'(by rw [bs_size]; exact hlt)).toNat_lt
      clear hrd hg ha
      have HV2 : Hid (VS w wr g1 s false) := HV
      go_wp2_with fail
      · -- the tenth byte is too much
        have t3 : 1 < IntKind.u64.wrap (((bs s)[k]'(by rw [bs_size]; exact hlt)).toNat : Int) := by assumption
        have t1 : (k : Int) = 9 := by assumption
        rw [wrap_b HB.out] at t3
        refine bodyPost_ret (v := .tuple #[.agg #[.string (bs []), .bool true], .int .u64 0]) (by simp [results, Try.results36, go_sem, fin0 HV.out.c, fin1 HV.out.c]; rfl) rfl ?_
        exact Or.inl ⟨by rw [HD.out, if_neg (fun h => by omega), if_pos ⟨by omega, by omega⟩], rfl, HV.out.end hle _ _⟩
      · have t3 : IntKind.u64.wrap (((bs s)[k]'(by rw [bs_size]; exact hlt)).toNat : Int) ≤ 1 := by assumption
        have t1 : (k : Int) = 9 := by assumption
        rw [wrap_b HB.out] at t3
        obtain rfl : k = 9 := by omega
        rw [add_val9 HA.out (by omega)]
        have hx1 : 10 ≤ s.length := by omega
        have hx2 : (10 : Int) ≤ (s.length : Int) := by omega
        have hx4 : IntKind.i64.wrap 10 = 10 := by decide
        have hx5 : IntKind.i64.wrap (9 + 1) = 10 := by decide
        obtain ⟨n, hn⟩ : ∃ n, n = acc + ((bs s)[9]'(by rw [bs_size]; exact hlt)).toNat * 128 ^ 9 := ⟨_, rfl⟩
        rw [← hn]
        have HNL : Hid (n < 18446744073709551616) := Lib.hid (by rw [hn]; exact val_top HA.out (by omega) (by omega) (by omega))
        by_cases hnm : 0 < 9 ∧ ((bs s)[9]'(by rw [bs_size]; exact hlt)).toNat = 0
        · have hr : rd 0 0 s = none := by rw [HD.out, if_pos hnm]
          have hq : ((bs (ub n)).toList == ((bs s).extract 0 (10)).toList) = false := vneq HNL.out hr
          have HR := Lib.hid hr
          clear hr hnm hn
          go_region_held3 (fun w' => w'.cell? ⟨w.heap.size, 0, none⟩ = some (.string (bs s))) (assumption) ((go_at_call 12; refine (refu_z (n := n) rfl HNL.out _).mono ?_; rintro e w1 ⟨rfl, hb⟩; have hV1 := HV.out.drew.keep hb; have c0' := hV1.c0))
          have f0 := free_blk hV1.c 0
          have f1 := free_blk hV1.c 1
          have d0 := hV1.d0
          have d1 := hV1.d1
          go_wp2_with fail
          refine bodyPost_ret (v := .tuple #[.agg #[.string (bs []), .bool true], .int .u64 0]) (by simp [results, Try.results36, go_sem, fin0 hV1.c, fin1 hV1.c]; rfl) rfl ?_
          exact Or.inl ⟨HR.out, rfl, hV1.end hle _ _⟩
        · have hr : rd 0 0 s = some (n, 10) := by rw [HD.out, if_neg hnm, if_neg (fun h => by omega), if_pos (by omega), hn]
          have hq : ((bs (ub n)).toList == ((bs s).extract 0 (10)).toList) = true := veq hr
          have HR := Lib.hid hr
          clear hr hnm hn
          go_region_held3 (fun w' => w'.cell? ⟨w.heap.size, 0, none⟩ = some (.string (bs s))) (assumption) ((go_at_call 12; refine (refu_z (n := n) rfl HNL.out _).mono ?_; rintro e w1 ⟨rfl, hb⟩; have hV1 := HV.out.drew.keep hb; have c0' := hV1.c0))
          have f0 := free_blk hV1.c 0
          have f1 := free_blk hV1.c 1
          have d0 := hV1.d0
          have d1 := hV1.d1
          go_wp2_with fail
          refine bodyPost_ret (v := .tuple #[.agg #[.string ((bs s).extract (10) s.length), .bool false], .int .u64 n]) (by simp [results, Try.results36, go_sem, fin0 hV1.c, fin1 hV1.c]) rfl ?_
          exact Or.inr ⟨n, 10, HR.out, tup_su (by rw [← hz, bs_drop]), hV1.end hle _ _⟩
      · have t1 : ¬ (k : Int) = 9 := by assumption
        have t3 : 128 ≤ IntKind.u64.wrap (((bs s)[k]'(by rw [bs_size]; exact hlt)).toNat : Int) := by assumption
        rw [wrap_b HB.out] at t3
        have hb := HB.out
        go_roundw
        case rel =>
          refine ⟨k + 1, acc + (((bs s)[k]'(by rw [bs_size]; exact hlt)).toNat - 128) * 128 ^ k, by omega, by omega, acc_next HA.out (by omega), ?_, by go_num, ?_, HV.out⟩
          · rw [HD.out, if_neg (fun h => by omega), if_neg (fun h => by omega), if_neg (by omega)]
          · exact int_u64 (add_val' HA.out (by omega) (by omega) (by omega))
        case measure => simp [intOf]; omega
      · have t1 : ¬ (k : Int) = 9 := by assumption
        have t3 : IntKind.u64.wrap (((bs s)[k]'(by rw [bs_size]; exact hlt)).toNat : Int) < 128 := by assumption
        rw [wrap_b HB.out] at t3
        rw [add_val HA.out hk9 (by omega) (by omega)]
        have hx1 : k + 1 ≤ s.length := by omega
        have hx2 : (k : Int) + 1 ≤ (s.length : Int) := by omega
        have hx3 : (0 : Int) ≤ (k : Int) + 1 := by omega
        have hx4 : IntKind.i64.wrap ((k : Int) + 1) = (k : Int) + 1 := by rw [IntKind.wrap_i64]; omega
        obtain ⟨n, hn⟩ : ∃ n, n = acc + ((bs s)[k]'(by rw [bs_size]; exact hlt)).toNat * 128 ^ k := ⟨_, rfl⟩
        rw [← hn]
        have HNL : Hid (n < 18446744073709551616) := Lib.hid (by rw [hn]; exact val_top HA.out (by omega) (by omega) (by omega))
        by_cases hnm : 0 < k ∧ ((bs s)[k]'(by rw [bs_size]; exact hlt)).toNat = 0
        · have hr : rd 0 0 s = none := by rw [HD.out, if_pos hnm]
          have hq : ((bs (ub n)).toList == ((bs s).extract 0 (k + 1)).toList) = false := vneq HNL.out hr
          have HR := Lib.hid hr
          clear hr hnm hn
          go_region_held3 (fun w' => w'.cell? ⟨w.heap.size, 0, none⟩ = some (.string (bs s))) (assumption) ((go_at_call 12; refine (refu_z (n := n) rfl HNL.out _).mono ?_; rintro e w1 ⟨rfl, hb⟩; have hV1 := HV.out.drew.keep hb; have c0' := hV1.c0))
          have f0 := free_blk hV1.c 0
          have f1 := free_blk hV1.c 1
          have d0 := hV1.d0
          have d1 := hV1.d1
          go_wp2_with fail
          refine bodyPost_ret (v := .tuple #[.agg #[.string (bs []), .bool true], .int .u64 0]) (by simp [results, Try.results36, go_sem, fin0 hV1.c, fin1 hV1.c]; rfl) rfl ?_
          exact Or.inl ⟨HR.out, rfl, hV1.end hle _ _⟩
        · have hr : rd 0 0 s = some (n, k + 1) := by rw [HD.out, if_neg hnm, if_neg (fun h => by omega), if_pos (by omega), hn]
          have hq : ((bs (ub n)).toList == ((bs s).extract 0 (k + 1)).toList) = true := veq hr
          have HR := Lib.hid hr
          clear hr hnm hn
          go_region_held3 (fun w' => w'.cell? ⟨w.heap.size, 0, none⟩ = some (.string (bs s))) (assumption) ((go_at_call 12; refine (refu_z (n := n) rfl HNL.out _).mono ?_; rintro e w1 ⟨rfl, hb⟩; have hV1 := HV.out.drew.keep hb; have c0' := hV1.c0))
          have f0 := free_blk hV1.c 0
          have f1 := free_blk hV1.c 1
          have d0 := hV1.d0
          have d1 := hV1.d1
          go_wp2_with fail
          refine bodyPost_ret (v := .tuple #[.agg #[.string ((bs s).extract (k + 1) s.length), .bool false], .int .u64 n]) (by simp [results, Try.results36, go_sem, fin0 hV1.c, fin1 hV1.c]) rfl ?_
          exact Or.inr ⟨n, k + 1, HR.out, tup_su (by rw [← hz, bs_drop]), hV1.end hle _ _⟩
    · go_wp2_with fail
      refine bodyPost_ret (v := .tuple #[.agg #[.string (bs []), .bool true], .int .u64 0]) (by simp [results, Try.results36, go_sem, fin0 HV.out.c, fin1 HV.out.c]; rfl) rfl ?_
      refine Or.inl ⟨?_, rfl, HV.out.end hle _ _⟩
      rw [hrd, List.drop_of_length_le (by omega)]
      rfl
end Go.Proofs.Ytkoajibjlcnjgaa
