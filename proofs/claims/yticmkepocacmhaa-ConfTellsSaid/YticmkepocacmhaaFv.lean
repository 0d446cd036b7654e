/-
  THE DOCUMENT'S ANSWERS for layer 3 (plimsollref03): Fixed, and the reader's Fixed, by value.
-/
import Derived.Test.YticmkepocacmhaaFx
import Derived.Deep.Cut
import Derived.Deep.RegionHeld3
namespace Go.Proofs.Yticmkepocacmhaa
open Go Go.RowKit

theorem below_of {w W w1 : World} (h : Below w.heap.size w W) (hb : Below W.heap.size W w1) : Below w.heap.size w w1 := h.trans (hb.mono h.size)
theorem fxF_end (m n : Nat) : fxF (m + 1) n = fxF m (n / 256) ++ [UInt8.ofNat (n % 256)] := rfl
theorem fxF_cons (k : Nat) : ∀ n, fxF (k + 1) n = UInt8.ofNat (n / 256 ^ k % 256) :: fxF k n := by
  induction k with
  | zero => intro n; simp [fxF]
  | succ k ih =>
    intro n
    rw [fxF_end, ih (n / 256), fxF_end, Nat.div_div_eq_div_mul, List.cons_append, Nat.pow_succ, Nat.mul_comm 256]
/-- The row after so many rounds. -/
def frow (m n k : Nat) : List UInt8 := List.replicate (m - k) 0 ++ fxF k n
theorem frow_len (m n k : Nat) (h : k ≤ m) : (frow m n k).length = m := by unfold frow; rw [List.length_append, List.length_replicate, fxF_len]; omega
theorem frow_next (m n k : Nat) (h : k < m) : (frow m n k).set (m - 1 - k) (UInt8.ofNat (n / 256 ^ k % 256)) = frow m n (k + 1) := by
  unfold frow
  rw [fxF_cons, show m - k = (m - 1 - k) + 1 by omega, List.replicate_succ', List.append_assoc, show m - (k + 1) = m - 1 - k by omega]
  rw [List.set_append, if_neg (by simp)]
  simp

/-- A row of bytes of which all may be written. -/
structure RowZ (w : World) (g : Nat) (l : List UInt8) : Prop where
  blk : w.heap[g]? = some (.cells (l.map u8v).toArray 5 (0, 0))
theorem RowZ.cell {w : World} {g : Nat} {l : List UInt8} (h : RowZ w g l) {j : Nat} (hj : j < l.length) : w.cell? ⟨g, j, none⟩ = some (.int .u8 (l[j].toNat : Int)) := by
  rw [cell_blk h.blk]
  simp [List.getElem?_eq_getElem hj, u8v]
theorem RowZ.set {w : World} {g : Nat} {l : List UInt8} (h : RowZ w g l) (i : Nat) (b : UInt8) : RowZ (w.setCell ⟨g, i, none⟩ (u8v b)) g (l.set i b) := by
  refine ⟨?_⟩
  rw [set_blk h.blk]
  simp [List.map_set]

set_option maxHeartbeats 1000000 in
set_option maxRecDepth 100000 in
theorem reffixed (m n : Nat) (h1 : 1 ≤ m) (h8 : m ≤ 8) (hn : n < 18446744073709551616) (w : World) :
    Calls Try.prog 44 #[.int .i64 m, .int .u64 n] w fun e w' => e = .returned (.string (bs (fxF m n))) ∧ Below w.heap.size w w' := by
  obtain ⟨i0, hi, hz0, hz1, hz2⟩ := info_parts info_u8
  have d1 : decide ((m : Int) < 1) = false := by simp; omega
  have d2 : decide ((8 : Int) < m) = false := by simp; omega
  have hn' : (n : Int) ≤ 18446744073709551615 := by omega
  go_enter Try.func44, Try.ntmps44
  go_wp2_with (refine wpList_make_full _ rfl _ _ 75 rfl w.heap.size 5 i0 (.int .u8 0) 1 Try.underlying75 hi hz0 hz1 .i64 .i64 _ _ m rfl rfl rfl rfl (by rw [hz2]; omega) (by unfold maxLen; omega) (Nat.le_refl _) ?_)
  intro w1 hown hgrow
  have HB : Hid (Below w.heap.size w w1) := (Below.refl _ _).grown hgrow (Nat.le_refl _) (fun k h => by cases h)
  have hr : RowZ w1 w.heap.size (frow m n 0) := by
    rcases hown.2 with ⟨h, _⟩ | ⟨g, cap, cur, he, _, hg, _, _, hzz, ht⟩
    · cases h
    · cases he
      refine ⟨?_⟩
      rw [hg]
      have e1 : cur.toList = (frow m n 0).map u8v := by
        have e2 : cur.toList.take m = cur.toList := List.take_of_length_le (by simp; omega)
        rw [Nat.mul_one, e2] at ht
        rw [ht]
        show (madeCells #[Value.int .u8 0] m).toList = _
        rw [toList_madeCells_one]
        simp [frow, fxF, u8v]
      have e3 : cur = ((frow m n 0).map u8v).toArray := by rw [← e1]
      rw [e3]
  have HR := Lib.hid hr
  clear hr hown hgrow
  go_wp2_with fail
  go_loopw [1, 17] (fun x i wr => ∃ k y : Nat, k ≤ m ∧ y = n / 256 ^ k ∧ i = .int .i64 k ∧ x = .int .u64 y ∧ RowZ wr w.heap.size (frow m n k) ∧ Below w.heap.size w wr) (fun _ i _ => m - (intOf i).toNat)
  case atStart => exact ⟨0, n, by omega, by simp, rfl, rfl, HR.out, HB.out⟩
  case round =>
    obtain ⟨k, y, hk, hy, rfl, rfl, hR, hB⟩ := hrel
    clear HR HB
    have HR := Lib.hid hR
    have HB := Lib.hid hB
    have HY := Lib.hid hy
    clear hR hB
    have hyb : (y : Int) ≤ 18446744073709551615 := by have : n / 256 ^ k ≤ n := Nat.div_le_self _ _; omega
    clear hy
    by_cases hlt : k < m
    · have hlen := frow_len m n k hk
      have c := HR.out.cell (j := m - 1 - k) (by rw [hlen]; omega)
      have f := free_blk HR.out.blk (m - 1 - k)
      have hsub : (m : Int) - 1 - (k : Int) = ((m - 1 - k : Nat) : Int) := by omega
      go_wp2_with fail
      go_roundw
      case rel =>
        refine ⟨k + 1, y / 256, by omega, by rw [HY.out, Nat.div_div_eq_div_mul, Nat.pow_succ], by go_num, by go_num, ?_, HB.out.setCell (p := ⟨w.heap.size, m - 1 - k, none⟩) (Nat.le_refl _) _⟩
        have h2 := HR.out.set (m - 1 - k) (UInt8.ofNat (n / 256 ^ k % 256))
        rw [frow_next m n k hlt, u8v_of (Nat.mod_lt _ (by omega)), ← HY.out] at h2
        exact h2
      case measure => simp [intOf]; omega
    · obtain rfl : k = m := by omega
      have hfe : frow k n k = fxF k n := by simp [frow]
      have hR := HR.out
      rw [hfe] at hR
      have hlen := fxF_len k n
      have hcv : ∀ c : Nat, (convert 75 9 (.slice (some ⟨w.heap.size, 0, none⟩) k c)).run Try.prog wr = .ok (.string (bs (fxF k n))) wr := fun c => by
        have := run_convert_bytes_back wr _ _ 5 ⟨w.heap.size, 0, none⟩ c (fxF k n) Try.underlying75 Try.underlying5 Try.underlying9 (fun j hj => by rw [Addr.add_lit, Nat.zero_add]; exact hR.cell hj)
        rwa [hlen] at this
      clear hR hfe hlen
      go_wp2_with fail
      go_ret
      exact ⟨rfl, HB.out⟩
theorem keep2 {w0 : World} {g g1 i : Nat} {v x y : Value} (h : w0.cell? ⟨g, i, none⟩ = some v) (hne : g ≠ g1) : ((w0.setCell ⟨g1, 0, none⟩ x).setCell ⟨g1, 1, none⟩ y).drew.cell? ⟨g, i, none⟩ = some v := by
  have e : ∀ W : World, W.heap[g]? = w0.heap[g]? → W.cell? ⟨g, i, none⟩ = w0.cell? ⟨g, i, none⟩ := fun W h => by unfold World.cell?; simp only [h]
  rw [← h]
  refine e _ ?_
  show ((w0.setCell ⟨g1, 0, none⟩ x).setCell ⟨g1, 1, none⟩ y).heap[g]? = _
  rw [set_other _ hne, set_other _ hne]
theorem fin2 {w0 : World} {g1 : Nat} {a b : Value} {t : TypeId} (h : w0.heap[g1]? = some (.cells #[a, b] t (0, 0))) (x y : Value) :
    ((w0.setCell ⟨g1, 0, none⟩ x).setCell ⟨g1, 1, none⟩ y).drew.cell? ⟨g1, 0, none⟩ = some x ∧ ((w0.setCell ⟨g1, 0, none⟩ x).setCell ⟨g1, 1, none⟩ y).drew.cell? ⟨g1, 1, none⟩ = some y := by
  have e : ((w0.setCell ⟨g1, 0, none⟩ x).setCell ⟨g1, 1, none⟩ y).drew.heap[g1]? = some (.cells #[x, y] t (0, 0)) := by
    show ((w0.setCell ⟨g1, 0, none⟩ x).setCell ⟨g1, 1, none⟩ y).heap[g1]? = _
    rw [set_blk (set_blk h _) _]
    rfl
  exact ⟨by rw [cell_blk e]; rfl, by rw [cell_blk e]; rfl⟩
theorem tup_ss {a a' : ByteArray} {b b' : ByteArray} {x : Bool} (h : a = a') (k : b = b') : Ending.returned (.tuple #[.agg #[.string a, .bool x], .string b]) = .returned (.tuple #[.agg #[.string a', .bool x], .string b']) := by rw [h, k]

set_option maxHeartbeats 1000000 in
set_option maxRecDepth 100000 in
theorem vraw_bad (s : List UInt8) (n : Int) (w : World) :
    Calls Try.prog 52 #[.agg #[.string (bs s), .bool true], .int .i64 n] w fun e w' => e = .returned (.tuple #[.agg #[.string (bs []), .bool true], .string (bs [])]) ∧ Below w.heap.size w w' := by
  go_enter Try.func52, Try.ntmps52
  go_wp2_with fail
  refine bodyPost_ret (v := .tuple #[.agg #[.string (bs []), .bool true], .string (bs [])]) (by simp [results, Try.results52, go_sem]; rfl) rfl ?_
  exact ⟨rfl, by go_grown⟩

set_option maxHeartbeats 1000000 in
set_option maxRecDepth 100000 in
theorem vraw_more (s : List UInt8) (n : Nat) (hn : s.length < n) (w : World) :
    Calls Try.prog 52 #[.agg #[.string (bs s), .bool false], .int .i64 n] w fun e w' => e = .returned (.tuple #[.agg #[.string (bs []), .bool true], .string (bs [])]) ∧ Below w.heap.size w w' := by
  have hz := bs_size s
  have h1 : decide (s.length < n) = true := by simp; omega
  go_enter Try.func52, Try.ntmps52
  go_wp2_with fail
  refine bodyPost_ret (v := .tuple #[.agg #[.string (bs []), .bool true], .string (bs [])]) (by simp [results, Try.results52, go_sem]; rfl) rfl ?_
  exact ⟨rfl, by go_grown⟩

set_option maxHeartbeats 1000000 in
set_option maxRecDepth 100000 in
theorem vraw_ok (s : List UInt8) (n : Nat) (hn : n ≤ s.length) (hs : s.length ≤ 140737488355328) (w : World) :
    Calls Try.prog 52 #[.agg #[.string (bs s), .bool false], .int .i64 n] w fun e w' => e = .returned (.tuple #[.agg #[.string (bs (s.drop n)), .bool false], .string (bs (s.take n))]) ∧ Below w.heap.size w w' := by
  have hz := bs_size s
  have h1 : decide (s.length < n) = false := by simp; omega
  go_enter Try.func52, Try.ntmps52
  go_upto_region 1 with fail
  obtain ⟨w0, hw0⟩ : ∃ w0, w0 = ((w.alloc (Obj.cells #[Value.string (bs s), Value.bool false] 51)).alloc (Obj.cells #[Value.string { data := #[] }, Value.bool false] 51)) := ⟨_, rfl⟩
  rw [← hw0]
  have hB0 : Below w.heap.size w w0 := by rw [hw0]; go_grown
  have hA : w0.heap[w.heap.size]? = some (.cells #[.string (bs s), .bool false] 51 (0, 0)) := by rw [hw0]; exact alloc_old (alloc_blk _ _) _
  obtain ⟨g1, hg1⟩ : ∃ g, g = w.heap.size + 1 := ⟨_, rfl⟩
  have hC : w0.heap[g1]? = some (.cells #[.string (bs []), .bool false] 51 (0, 0)) := by
    rw [hw0, hg1]
    have e : w.heap.size + 1 = (w.alloc (Obj.cells #[Value.string (bs s), Value.bool false] 51)).heap.size := by simp
    rw [e]; exact alloc_blk _ _
  rw [← hg1]
  have hne : w.heap.size ≠ g1 := by omega
  have hle : w.heap.size ≤ g1 := by omega
  have c0 : w0.cell? ⟨w.heap.size, 0, none⟩ = some (.string (bs s)) := by rw [cell_blk hA]; rfl
  have c1 : w0.cell? ⟨w.heap.size, 1, none⟩ = some (.bool false) := by rw [cell_blk hA]; rfl
  have f0 := free_blk hC 0
  have f1 := free_blk hC 1
  have d0 : w0.cell? ⟨g1, 0, none⟩ = some (.string (bs [])) := by rw [cell_blk hC]; rfl
  have d1 : w0.cell? ⟨g1, 1, none⟩ = some (.bool false) := by rw [cell_blk hC]; rfl
  have HB0 := Lib.hid hB0
  have HA := Lib.hid hA
  have HC := Lib.hid hC
  clear hw0 hB0 hA hC hg1
  go_wp2_with fail
  go_region_held3 (fun w' => w'.cell? ⟨w.heap.size, 0, none⟩ = some (.string (bs s))) (first | assumption | exact keep2 (by assumption) (by assumption)) (fail)
  have hfin := fin2 HC.out (.string ((bs s).extract n s.length)) (.bool false)
  have u0 := hfin.1
  have u1 := hfin.2
  clear hfin
  go_wp2_with fail
  refine bodyPost_ret (v := .tuple #[.agg #[.string ((bs s).extract n s.length), .bool false], .string ((bs s).extract 0 n)]) (by simp [results, Try.results52, go_sem, u0, u1]) rfl ?_
  exact ⟨tup_ss (by rw [← hz, bs_drop]) (by rw [bs_take]), ((HB0.out.setCell (p := ⟨g1, 0, none⟩) hle _).setCell (p := ⟨g1, 1, none⟩) hle _).drew⟩
/-- The reader's own copy, and what it is to answer. -/
structure VS (w wr : World) (g1 : Nat) (s : List UInt8) (bad : Bool) : Prop where
  b : Below w.heap.size w wr
  a : wr.heap[w.heap.size]? = some (.cells #[.string (bs s), .bool bad] 51 (0, 0))
  c : wr.heap[g1]? = some (.cells #[.string (bs []), .bool false] 51 (0, 0))
section
variable {w wr : World} {g1 : Nat} {s : List UInt8} {bad : Bool}
theorem VS.c0 (h : VS w wr g1 s bad) : wr.cell? ⟨w.heap.size, 0, none⟩ = some (.string (bs s)) := by rw [cell_blk h.a]; rfl
theorem VS.c1 (h : VS w wr g1 s bad) : wr.cell? ⟨w.heap.size, 1, none⟩ = some (.bool bad) := by rw [cell_blk h.a]; rfl
theorem VS.d0 (h : VS w wr g1 s bad) : wr.cell? ⟨g1, 0, none⟩ = some (.string (bs [])) := by rw [cell_blk h.c]; rfl
theorem VS.d1 (h : VS w wr g1 s bad) : wr.cell? ⟨g1, 1, none⟩ = some (.bool false) := by rw [cell_blk h.c]; rfl
theorem VS.keep {w' : World} (h : VS w wr g1 s bad) (hb : Below wr.heap.size wr w') : VS w w' g1 s bad :=
  ⟨below_of h.b hb, (hb.block _ (lt_blk h.a)).trans h.a, (hb.block _ (lt_blk h.c)).trans h.c⟩
theorem VS.end (h : VS w wr g1 s bad) (hle : w.heap.size ≤ g1) (x y : Value) : Below w.heap.size w ((wr.setCell ⟨g1, 0, none⟩ x).setCell ⟨g1, 1, none⟩ y) :=
  (h.b.setCell (p := ⟨g1, 0, none⟩) hle _).setCell (p := ⟨g1, 1, none⟩) hle _
end
theorem fin0 {w0 : World} {g1 : Nat} {a b : Value} {t : TypeId} (h : w0.heap[g1]? = some (.cells #[a, b] t (0, 0))) (x : Value) : (w0.setCell ⟨g1, 0, none⟩ x).cell? ⟨g1, 0, none⟩ = some x := by
  rw [cell_blk (set_blk h _)]; rfl
theorem fin1 {w0 : World} {g1 : Nat} {a b : Value} {t : TypeId} (h : w0.heap[g1]? = some (.cells #[a, b] t (0, 0))) (x y : Value) : ((w0.setCell ⟨g1, 0, none⟩ x).setCell ⟨g1, 1, none⟩ y).cell? ⟨g1, 1, none⟩ = some y := by
  rw [cell_blk (set_blk (set_blk h _) _)]; rfl
theorem vs_start {w w0 : World} {g1 : Nat} {s : List UInt8} {bad : Bool} (h : w0 = ((w.alloc (Obj.cells #[Value.string (bs s), Value.bool bad] 51)).alloc (Obj.cells #[Value.string { data := #[] }, Value.bool false] 51))) (hg : g1 = w.heap.size + 1) : VS w w0 g1 s bad := by
  subst h hg
  refine ⟨by go_grown, alloc_old (alloc_blk _ _) _, ?_⟩
  have e : w.heap.size + 1 = (w.alloc (Obj.cells #[Value.string (bs s), Value.bool bad] 51)).heap.size := by simp
  rw [e]; exact alloc_blk _ _

theorem VS.setA {w wr : World} {g1 : Nat} {s : List UInt8} {bad : Bool} (h : VS w wr g1 s bad) (hne : w.heap.size ≠ g1) (s' : List UInt8) (bad' : Bool) :
    VS w ((wr.setCell ⟨w.heap.size, 0, none⟩ (.string (bs s'))).setCell ⟨w.heap.size, 1, none⟩ (.bool bad')) g1 s' bad' := by
  refine ⟨(h.b.setCell (p := ⟨w.heap.size, 0, none⟩) (Nat.le_refl _) _).setCell (p := ⟨w.heap.size, 1, none⟩) (Nat.le_refl _) _, ?_, ?_⟩
  · rw [set_blk (set_blk h.a _) _]; rfl
  · rw [set_other _ (Ne.symm hne), set_other _ (Ne.symm hne), h.c]

theorem vfx_step {t : List UInt8} {k : Nat} (h : k < t.length) (h8 : t.length ≤ 8) :
    IntKind.u64.wrap (IntKind.u64.wrap (256 * (bev (t.take k) : Int)) + IntKind.u64.wrap (t[k].toNat : Int)) = ((bev (t.take (k + 1)) : Nat) : Int) := by
  have hb := (bev_take_lt t k (by omega) h8).1
  have h7 : 256 ^ k ≤ 256 ^ 7 := Nat.pow_le_pow_right (by omega) (by omega)
  have hc := t[k].toNat_lt
  rw [bev_take t k h, IntKind.wrap_u64, IntKind.wrap_u64, IntKind.wrap_u64]
  omega

set_option maxHeartbeats 2000000 in
set_option maxRecDepth 100000 in
theorem vfixed_of {s s' t : List UInt8} {bad bad' : Bool} (m : Nat) (h1m : 1 ≤ m) (hm8 : m ≤ 8) (ht : t.length ≤ 8)
    (hc : ∀ w : World, Calls Try.prog 52 #[.agg #[.string (bs s), .bool bad], .int .i64 m] w fun e w' => e = .returned (.tuple #[.agg #[.string (bs s'), .bool bad'], .string (bs t)]) ∧ Below w.heap.size w w') (w : World) :
    Calls Try.prog 34 #[.agg #[.string (bs s), .bool bad], .int .i64 m] w fun e w' => e = .returned (.tuple #[.agg #[.string (bs s'), .bool bad'], .int .u64 (bev t : Nat)]) ∧ Below w.heap.size w w' := by
  have q1 : decide ((m : Int) < 1) = false := by simp; omega
  have q2 : decide ((8 : Int) < m) = false := by simp; omega
  have hz := bs_size t
  have ht' : (t.length : Int) ≤ 8 := by omega
  go_enter Try.func34, Try.ntmps34
  go_upto_region 1 with fail
  obtain ⟨w0, hw0⟩ : ∃ w0, w0 = ((w.alloc (Obj.cells #[Value.string (bs s), Value.bool bad] 51)).alloc (Obj.cells #[Value.string { data := #[] }, Value.bool false] 51)) := ⟨_, rfl⟩
  rw [← hw0]
  obtain ⟨g1, hg1⟩ : ∃ g, g = w.heap.size + 1 := ⟨_, rfl⟩
  have HV := Lib.hid (vs_start hw0 hg1)
  rw [← hg1]
  have hne : w.heap.size ≠ g1 := by omega
  have hle : w.heap.size ≤ g1 := by omega
  clear hw0 hg1
  have c0 := HV.out.c0
  have c1 := HV.out.c1
  have f0 := free_blk HV.out.c 0
  have f1 := free_blk HV.out.c 1
  have d0 := HV.out.d0
  have d1 := HV.out.d1
  have e0 := free_blk HV.out.a 0
  have e1 := free_blk HV.out.a 1
  go_wp2_with fail
  refine (hc _).mono ?_
  rintro e w1 ⟨rfl, hb⟩
  have HV1 := Lib.hid (HV.out.keep hb)
  clear c0 c1 f0 f1 d0 d1 e0 e1 hb HV
  have c0 := HV1.out.c0
  have c1 := HV1.out.c1
  have f0 := free_blk HV1.out.c 0
  have f1 := free_blk HV1.out.c 1
  have d0 := HV1.out.d0
  have d1 := HV1.out.d1
  have e0 := free_blk HV1.out.a 0
  have e1 := free_blk HV1.out.a 1
  go_upto_region 4 with fail
  obtain ⟨w2, hw2⟩ : ∃ w2, w2 = ((w1.setCell ⟨w.heap.size, 0, none⟩ (.string (bs s'))).setCell ⟨w.heap.size, 1, none⟩ (.bool bad')) := ⟨_, rfl⟩
  rw [← hw2]
  have HV2 := Lib.hid (HV1.out.setA hne s' bad')
  rw [← hw2] at HV2
  clear c0 c1 f0 f1 d0 d1 e0 e1 HV1 hw2
  have c0 := HV2.out.c0
  have c1 := HV2.out.c1
  have f0 := free_blk HV2.out.c 0
  have f1 := free_blk HV2.out.c 1
  have d0 := HV2.out.d0
  have d1 := HV2.out.d1
  have e0 := free_blk HV2.out.a 0
  have e1 := free_blk HV2.out.a 1
  go_wp2_with fail
  go_loop [7, 8] (fun n i => ∃ k : Nat, k ≤ t.length ∧ i = .int .i64 k ∧ n = .int .u64 (bev (t.take k) : Nat)) (fun _ i => t.length - (intOf i).toNat)
  case atStart => exact ⟨0, by omega, rfl, rfl⟩
  case round =>
    obtain ⟨k, hk, rfl, rfl⟩ := hrel
    have hb := bev_take_lt t k hk ht
    by_cases hlt : k < t.length
    · go_wp2
      go_round
      case rel =>
        refine ⟨k + 1, by omega, by go_num, int_u64 ?_⟩
        rw [bs_get t k (by rw [bs_size]; exact hlt)]
        exact vfx_step hlt ht
      case measure => simp [intOf]; omega
    · go_wp2
      refine bodyPost_ret (v := .tuple #[.agg #[.string (bs s'), .bool bad'], .int .u64 (bev t : Nat)]) (by simp [results, Try.results34, go_sem, fin0 HV2.out.c, fin1 HV2.out.c]; rw [List.take_of_length_le (by omega)]) rfl ?_
      exact ⟨rfl, HV2.out.end hle _ _⟩
end Go.Proofs.Yticmkepocacmhaa
