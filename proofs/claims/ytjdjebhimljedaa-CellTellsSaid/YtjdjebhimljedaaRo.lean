/-
  WALKS: plimsollref01.Of: the number of sixteen bytes.
-/
import Derived.Test.YtjdjebhimljedaaReg
import Derived.BigRegion
namespace Go.Proofs.Ytjdjebhimljedaa
open Go Go.RowKit

theorem pow256 (k : Nat) : 256 ^ k = 2 ^ (8 * k) := by rw [Nat.pow_mul]
theorem byt_next (n k : Nat) : n % 256 ^ (k + 1) = n % 256 ^ k + byt n k * 256 ^ k := by
  unfold byt
  rw [Nat.pow_succ, Nat.mod_mul, Nat.mul_comm (256 ^ k)]
theorem pow_small {k : Nat} (h : k < 8) : 256 ^ k ≤ 72057594037927936 := Nat.pow_le_pow_right (n := 256) (by decide) (show k ≤ 7 by omega)
/-- One byte more. -/
theorem or_next {x b k : Nat} (hk : k < 8) (hx : x < 256 ^ k) (hb : b < 256) : bits .or .u64 (x : Int) (IntKind.u64.wrap (IntKind.u64.wrap (b : Int) * 2 ^ (8 * k))) = ((x + b * 256 ^ k : Nat) : Int) := by
  have h1 := pow_small hk
  have h2 : b * 256 ^ k ≤ 255 * 256 ^ k := Nat.mul_le_mul_right _ (by omega)
  have e1 : IntKind.u64.wrap (b : Int) = (b : Int) := by rw [IntKind.wrap_u64]; omega
  have e2 : (b : Int) * 2 ^ (8 * k) = ((b * 256 ^ k : Nat) : Int) := by rw [pow256]; simp
  rw [e1, e2, IntKind.wrap_u64, show ((b * 256 ^ k : Nat) : Int) % 18446744073709551616 = ((b * 256 ^ k : Nat) : Int) by omega, u64_or_nat _ _ (by omega) (by omega)]
  rw [Nat.or_comm, nat_join (8 * k) _ _ (by rw [pow256]; exact Nat.mul_mod_left _ _) (by rw [← pow256]; exact hx), Nat.add_comm]
theorem Blk2.set0 {w : World} {g : Nat} {h l : Int} (x : Blk2 w g h l) (h' : Int) : Blk2 (w.setCell ⟨g, 0, none⟩ (.int .u64 h')) g h' l := ⟨Joins.block_setCell (i := 0) x.blk (.int .u64 h')⟩
theorem Blk2.set1 {w : World} {g : Nat} {h l : Int} (x : Blk2 w g h l) (l' : Int) : Blk2 (w.setCell ⟨g, 1, none⟩ (.int .u64 l')) g h l' := ⟨Joins.block_setCell (i := 1) x.blk (.int .u64 l')⟩
/-- What holds at a round's head: the first k bytes of either half. -/
structure OfInv (w wr : World) (g1 g2 : Nat) (a : U) (k : Nat) : Prop where
  below : Below w.heap.size w wr
  r0 : Blk16 wr w.heap.size (byf a.n)
  r1 : Blk2 wr g1 0 0
  r2 : ∃ hi lo : Nat, hi = a.n / 18446744073709551616 % 256 ^ k ∧ lo = a.n % 256 ^ k ∧ Blk2 wr g2 (hi : Int) (lo : Int)
theorem ofInv_start {w w0 : World} {g1 g2 : Nat} {a : U} (h : w0 = ((w.alloc (.cells (A16 (byf a.n)) 58)).alloc (.cells #[.int .u64 0, .int .u64 0] 26)).alloc (.cells #[.int .u64 0, .int .u64 0] 26)) (hg1 : g1 = w.heap.size + 1) (hg2 : g2 = w.heap.size + 1 + 1) : OfInv w w0 g1 g2 a 0 := by
  subst h hg1 hg2
  refine ⟨by go_grown, (((Blk16.new_at _ _ rfl).alloc _).alloc _), (Blk2.new_at _ _ (by simp)).alloc _, ?_⟩
  exact ⟨0, 0, by simp [Nat.mod_one], by simp [Nat.mod_one], Blk2.new_at _ _ (by simp)⟩
theorem byt_hi_n (n k : Nat) : byt (n / 18446744073709551616) k = byt n (8 + k) := by
  unfold byt
  rw [Nat.div_div_eq_div_mul, show 256 ^ (8 + k) = 18446744073709551616 * 256 ^ k by rw [Nat.pow_add]]

set_option maxHeartbeats 1000000 in
set_option maxRecDepth 100000 in
theorem rof (a : U) (w : World) :
    Calls Try.prog 39 #[.agg (A16 (byf a.n))] w fun e w' => e = .returned (.agg #[.int .u64 (hiZ a), .int .u64 (loZ a)]) ∧ Below w.heap.size w w' := by
  go_enter Try.func39, Try.ntmps39
  go_upto_region 2 with fail
  obtain ⟨w0, hw0⟩ : ∃ w0, w0 = ((w.alloc (.cells (A16 (byf a.n)) 58)).alloc (.cells #[.int .u64 0, .int .u64 0] 26)).alloc (.cells #[.int .u64 0, .int .u64 0] 26) := ⟨_, rfl⟩
  obtain ⟨g1, hg1⟩ : ∃ g, g = w.heap.size + 1 := ⟨_, rfl⟩
  obtain ⟨g2, hg2⟩ : ∃ g, g = w.heap.size + 1 + 1 := ⟨_, rfl⟩
  have HI := Lib.hid (ofInv_start hw0 hg1 hg2)
  simp only [A16] at hw0
  rw [← hw0, ← hg2, ← hg1]
  have hne : w.heap.size ≠ g2 := by omega
  have hne1 : g1 ≠ g2 := by omega
  have hle1 : w.heap.size ≤ g1 := by omega
  have hle : w.heap.size ≤ g2 := by omega
  clear hw0 hg1 hg2
  go_wp2_with fail
  go_loopw [4] (fun i wr => ∃ k : Nat, k ≤ 8 ∧ i = .int .i64 k ∧ OfInv w wr g1 g2 a k) (fun i _ => 8 - (intOf i).toNat)
  case atStart => exact ⟨0, by omega, rfl, HI.out⟩
  case round =>
    obtain ⟨k, hk, rfl, hI⟩ := hrel
    clear HI
    obtain ⟨hi, lo, hhi, hlo, hr2⟩ := hI.r2
    have HI := Lib.hid hI
    have HR := Lib.hid hr2
    have HH := Lib.hid hhi
    have HL := Lib.hid hlo
    clear hI hr2 hhi hlo
    by_cases hlt : k < 8
    · have b0 := HR.out.c0
      have b1 := HR.out.c1
      have f0 := HR.out.f0
      have f1 := HR.out.f1
      have e0 := HI.out.r0.cell (j := k) (by omega)
      have e1 := HI.out.r0.cell (j := 8 + k) (by omega)
      go_wp2_with fail
      go_region
      have hlo' := HL.out
      have hhi' := HH.out
      have hpos : 0 < 256 ^ k := Nat.pow_pos (by decide)
      have q1 : bits .or .u64 (lo : Int) (IntKind.u64.wrap (IntKind.u64.wrap (byf a.n k) * 2 ^ (8 * k))) = ((a.n % 256 ^ (k + 1) : Nat) : Int) := by
        rw [byt_next, ← hlo']
        exact or_next hlt (by rw [hlo']; exact Nat.mod_lt _ hpos) (byt_lt _ _)
      have q2 : bits .or .u64 (hi : Int) (IntKind.u64.wrap (IntKind.u64.wrap (byf a.n (8 + k)) * 2 ^ (8 * k))) = ((a.n / 18446744073709551616 % 256 ^ (k + 1) : Nat) : Int) := by
        rw [byt_next, ← hhi', byt_hi_n]
        exact or_next hlt (by rw [hhi']; exact Nat.mod_lt _ hpos) (byt_lt _ _)
      rw [q1]
      obtain ⟨lo', hl'⟩ : ∃ x, x = a.n % 256 ^ (k + 1) := ⟨_, rfl⟩
      obtain ⟨hi', hh'⟩ : ∃ x, x = a.n / 18446744073709551616 % 256 ^ (k + 1) := ⟨_, rfl⟩
      rw [← hh'] at q2
      rw [← hl']
      have hB : Below w.heap.size w (wr.setCell ⟨g2, 1, none⟩ (.int .u64 (lo' : Int))).drew := (HI.out.below.setCell (p := ⟨g2, 1, none⟩) hle _).drew
      have h0 : Blk16 (wr.setCell ⟨g2, 1, none⟩ (.int .u64 (lo' : Int))).drew w.heap.size (byf a.n) := (HI.out.r0.other _ _ hne).drew
      have h1 : Blk2 (wr.setCell ⟨g2, 1, none⟩ (.int .u64 (lo' : Int))).drew g1 0 0 := (HI.out.r1.other _ _ hne1).drew
      have h2 : Blk2 (wr.setCell ⟨g2, 1, none⟩ (.int .u64 (lo' : Int))).drew g2 (hi : Int) (lo' : Int) := (HR.out.set1 (lo' : Int)).drew
      generalize (wr.setCell ⟨g2, 1, none⟩ (.int .u64 (lo' : Int))).drew = W at hB h0 h1 h2 ⊢
      clear b0 b1 f0 f1 e0 e1 q1 HR HI HL HH hlo' hhi' hpos
      have b0 := h2.c0
      have b1 := h2.c1
      have f0 := h2.f0
      have f1 := h2.f1
      have e1 := h0.cell (j := 8 + k) (by omega)
      have HB := Lib.hid hB
      have H0 := Lib.hid h0
      have H1 := Lib.hid h1
      have H2 := Lib.hid h2
      have Q2 := Lib.hid q2
      have H3 := Lib.hid hh'
      have H4 := Lib.hid hl'
      clear hB h0 h1 h2 q2 hh' hl'
      go_wp2_with fail
      go_region
      rw [Q2.out]
      go_wp2_with fail
      go_roundw
      case rel =>
        refine ⟨k + 1, by omega, by go_num, (HB.out.setCell (p := ⟨g2, 0, none⟩) hle _).drew, (H0.out.other _ _ hne).drew, (H1.out.other _ _ hne1).drew, hi', lo', H3.out, H4.out, (H2.out.set0 (hi' : Int)).drew⟩
      case measure => simp [intOf]; omega
    · have b0 := HR.out.c0
      have b1 := HR.out.c1
      have f0 := HI.out.r1.f0
      have f1 := HI.out.r1.f1
      have d0 := HI.out.r1.c0
      have d1 := HI.out.r1.c1
      have h8 : k = 8 := by omega
      have hh : (hi : Int) = hiZ a := by rw [HH.out, h8]; unfold hiZ; have := a.lt; omega
      have hl : (lo : Int) = loZ a := by rw [HL.out, h8]; unfold loZ; omega
      rw [hh] at b0
      rw [hl] at b1
      have x := HI.out.r1.set (hiZ a) (loZ a)
      have x0 := Lib.hid x.c0
      have x1 := Lib.hid x.c1
      clear x hh hl
      go_wp2_with fail
      have x0' := x0.out
      have x1' := x1.out
      refine bodyPost_ret (v := .agg #[.int .u64 (hiZ a), .int .u64 (loZ a)]) (by simp [results, Try.results39, go_sem, x0', x1']) rfl ?_
      exact ⟨rfl, (HI.out.below.setCell (p := ⟨g1, 0, none⟩) hle1 _).setCell (p := ⟨g1, 1, none⟩) hle1 _⟩
end Go.Proofs.Ytjdjebhimljedaa
