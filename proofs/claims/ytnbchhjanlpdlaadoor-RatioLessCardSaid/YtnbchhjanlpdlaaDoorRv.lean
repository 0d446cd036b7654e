/-
  WALKS: plimsollref01.Div: how often, and what is left: bit by bit.
-/
import Derived.Test.YtnbchhjanlpdlaaDoorRt
namespace Go.Proofs.YtnbchhjanlpdlaaDoor
open Go Go.RowKit

/-! ### One bit in the bytes -/
theorem byt_shift (n j : Nat) : byt n j = (n >>> (8 * j)) % 2 ^ 8 := by unfold byt; rw [Nat.shiftRight_eq_div_pow, pow256]
theorem byt_or (x y j : Nat) : byt (x ||| y) j = byt x j ||| byt y j := by
  rw [byt_shift, byt_shift, byt_shift, Nat.shiftRight_or_distrib, Nat.or_mod_two_pow]
theorem byt_pow (i j : Nat) : byt (2 ^ i) j = if j = i / 8 then 2 ^ (i % 8) else 0 := by
  unfold byt
  rw [pow256]
  by_cases h : 8 * j ≤ i
  · have e : 2 ^ i = 2 ^ (i - 8 * j) * 2 ^ (8 * j) := by rw [← Nat.pow_add]; congr 1; omega
    rw [e, Nat.mul_div_cancel _ (Nat.pow_pos (by decide))]
    by_cases h2 : j = i / 8
    · rw [if_pos h2, show i - 8 * j = i % 8 by omega]
      exact Nat.mod_eq_of_lt (Nat.lt_of_lt_of_le (Nat.pow_lt_pow_right (a := 2) (by decide) (show i % 8 < 8 by omega)) (by decide))
    · rw [if_neg h2]
      have e2 : 2 ^ (i - 8 * j) = 256 * 2 ^ (i - 8 * j - 8) := by rw [show (256 : Nat) = 2 ^ 8 by decide, ← Nat.pow_add]; congr 1; omega
      rw [e2, Nat.mul_mod_right]
  · rw [if_neg (by omega), Nat.div_eq_of_lt (Nat.pow_lt_pow_right (by decide) (by omega))]
theorem bit_set (O i j : Nat) (h : O % 2 ^ (i + 1) = 0) : upd (byf O) (i / 8) ((byt O (i / 8) ||| 2 ^ (i % 8) : Nat) : Int) j = byf (O + 2 ^ i) j := by
  have e : O + 2 ^ i = O ||| 2 ^ i := (nat_join (i + 1) O (2 ^ i) h (Nat.pow_lt_pow_right (by decide) (by omega))).symm
  unfold upd byf
  rw [e, byt_or, byt_pow]
  by_cases hj : j = i / 8
  · rw [if_pos hj, if_pos hj, hj]
  · rw [if_neg hj, if_neg hj, Nat.or_zero]
theorem bit_at (n i : Nat) : byt n (i / 8) / 2 ^ (i % 8) % 2 = n / 2 ^ i % 2 := by
  have e : 2 ^ i = 2 ^ (8 * (i / 8)) * 2 ^ (i % 8) := by rw [← Nat.pow_add]; congr 1; omega
  unfold byt
  rw [pow256, e, ← Nat.div_div_eq_div_mul]
  generalize n / 2 ^ (8 * (i / 8)) = x
  have hr : i % 8 < 8 := by omega
  generalize i % 8 = r at hr
  match r, hr with
  | 0, _ => omega
  | 1, _ => omega
  | 2, _ => omega
  | 3, _ => omega
  | 4, _ => omega
  | 5, _ => omega
  | 6, _ => omega
  | 7, _ => omega
  | r + 8, h => omega

theorem ofInt_64 (a : Nat) (ha : a < 4611686018427387904) : (BitVec.ofInt 64 (a : Int)).toNat = a := by
  rw [BitVec.ofInt_natCast, BitVec.toNat_ofNat]; exact Nat.mod_eq_of_lt (by omega)
theorem i64_and_nat (a b : Nat) (ha : a < 4611686018427387904) (hb : b < 4611686018427387904) : bits .and .i64 (a : Int) (b : Int) = ((a &&& b : Nat) : Int) := by
  have hx : a &&& b < 2 ^ 62 := Nat.and_lt_two_pow _ (by omega)
  show IntKind.i64.wrap ((BitVec.ofInt 64 (a : Int) &&& BitVec.ofInt 64 (b : Int)).toNat : Int) = _
  rw [BitVec.toNat_and, ofInt_64 a ha, ofInt_64 b hb, IntKind.wrap_i64]
  omega
theorem i64_or_nat (a b : Nat) (ha : a < 4611686018427387904) (hb : b < 4611686018427387904) : bits .or .i64 (a : Int) (b : Int) = ((a ||| b : Nat) : Int) := by
  have hx : a ||| b < 2 ^ 62 := Nat.or_lt_two_pow (by omega) (by omega)
  show IntKind.i64.wrap ((BitVec.ofInt 64 (a : Int) ||| BitVec.ofInt 64 (b : Int)).toNat : Int) = _
  rw [BitVec.toNat_or, ofInt_64 a ha, ofInt_64 b hb, IntKind.wrap_i64]
  omega
theorem bit_val (n i : Nat) : IntKind.u64.wrap (bits .and .i64 (((byt n (i / 8) : Nat) : Int) / 2 ^ (i % 8)) 1) = ((n / 2 ^ i % 2 : Nat) : Int) := by
  have e : ((byt n (i / 8) : Nat) : Int) / 2 ^ (i % 8) = ((byt n (i / 8) / 2 ^ (i % 8) : Nat) : Int) := by simp
  have h1 := byt_lt n (i / 8)
  have h2 : byt n (i / 8) / 2 ^ (i % 8) < 256 := Nat.lt_of_le_of_lt (Nat.div_le_self _ _) h1
  rw [e, show (1 : Int) = ((1 : Nat) : Int) from rfl, i64_and_nat _ _ (by omega) (by omega), nat_mask1, bit_at, IntKind.wrap_u64]
  omega

/-! ### One step of the school division by two -/
theorem half_next (n i : Nat) : n / 2 ^ i = 2 * (n / 2 ^ (i + 1)) + n / 2 ^ i % 2 := by
  rw [Nat.pow_succ, ← Nat.div_div_eq_div_mul]; omega
theorem step_lt {n k i t : Nat} (hk : 0 < k) (ht : t = 2 * (n / 2 ^ (i + 1) % k) + n / 2 ^ i % 2) (h : t < k) : n / 2 ^ i % k = t ∧ n / 2 ^ i / k = 2 * (n / 2 ^ (i + 1) / k) := by
  have e := half_next n i
  have d := Nat.div_add_mod (n / 2 ^ (i + 1)) k
  have e2 : n / 2 ^ i = t + k * (2 * (n / 2 ^ (i + 1) / k)) := by rw [ht, Nat.mul_left_comm]; omega
  rw [e2, Nat.add_mul_mod_self_left, Nat.mod_eq_of_lt h, Nat.add_mul_div_left _ _ hk, Nat.div_eq_of_lt h]
  exact ⟨rfl, by omega⟩
theorem step_ge {n k i t : Nat} (hk : 0 < k) (ht : t = 2 * (n / 2 ^ (i + 1) % k) + n / 2 ^ i % 2) (h : k ≤ t) : n / 2 ^ i % k = t - k ∧ n / 2 ^ i / k = 2 * (n / 2 ^ (i + 1) / k) + 1 := by
  have e := half_next n i
  have d := Nat.div_add_mod (n / 2 ^ (i + 1)) k
  have hl := Nat.mod_lt (n / 2 ^ (i + 1)) hk
  have h2 : t - k < k := by omega
  have e2 : n / 2 ^ i = (t - k) + k * (2 * (n / 2 ^ (i + 1) / k) + 1) := by rw [Nat.mul_add, Nat.mul_left_comm]; omega
  rw [e2, Nat.add_mul_mod_self_left, Nat.mod_eq_of_lt h2, Nat.add_mul_div_left _ _ hk, Nat.div_eq_of_lt h2]
  exact ⟨rfl, by omega⟩

theorem had_lt {n k i O : Nat} (hO : O = n / 2 ^ (i + 1) / k * 2 ^ (i + 1)) (h : n / 2 ^ i / k = 2 * (n / 2 ^ (i + 1) / k)) : O = n / 2 ^ i / k * 2 ^ i := by
  rw [h, hO]
  generalize n / 2 ^ (i + 1) / k = x
  rw [Nat.pow_succ, Nat.mul_comm (2 ^ i) 2, ← Nat.mul_assoc, Nat.mul_comm x 2]
theorem had_ge {n k i O : Nat} (hO : O = n / 2 ^ (i + 1) / k * 2 ^ (i + 1)) (h : n / 2 ^ i / k = 2 * (n / 2 ^ (i + 1) / k) + 1) : O + 2 ^ i = n / 2 ^ i / k * 2 ^ i := by
  rw [h, hO]
  generalize n / 2 ^ (i + 1) / k = x
  rw [Nat.pow_succ, Nat.mul_comm (2 ^ i) 2, ← Nat.mul_assoc, Nat.mul_comm x 2, Nat.add_mul, Nat.one_mul]
theorem had_mod {n k i O : Nat} (hO : O = n / 2 ^ (i + 1) / k * 2 ^ (i + 1)) : O % 2 ^ (i + 1) = 0 := by rw [hO]; exact Nat.mul_mod_left _ _
theorem bit_or (O i : Nat) : bits .or .i64 ((byt O (i / 8) : Nat) : Int) (wrap64 (2 ^ (i % 8))) = ((byt O (i / 8) ||| 2 ^ (i % 8) : Nat) : Int) := by
  have h1 := byt_lt O (i / 8)
  have h2 : 2 ^ (i % 8) ≤ 128 := Nat.pow_le_pow_right (n := 2) (by decide) (show i % 8 ≤ 7 by omega)
  have e : (2 : Int) ^ (i % 8) = ((2 ^ (i % 8) : Nat) : Int) := by simp
  rw [e]
  generalize 2 ^ (i % 8) = p at h2
  rw [show wrap64 (p : Int) = (p : Int) by unfold wrap64; omega]
  exact i64_or_nat _ _ (by omega) (by omega)

/-! ### Contracts at halves -/
theorem radd_at {a b : U} {ah al bh bl : Int} (h1 : ah = hiZ a) (h2 : al = loZ a) (h3 : bh = hiZ b) (h4 : bl = loZ b) (w : World) :
    Calls Tryd.prog 8 #[.agg #[.int .u64 ah, .int .u64 al], .agg #[.int .u64 bh, .int .u64 bl]] w fun e w' =>
      e = .returned (.tuple #[.agg #[.int .u64 (hiZ (addU a b)), .int .u64 (loZ (addU a b))], .int .i64 (addE a b)]) ∧ Below w.heap.size w w' := by
  subst h1 h2 h3 h4; exact radd a b w
theorem rlessAt {a b : U} {ah al bh bl : Int} (h1 : ah = hiZ a) (h2 : al = loZ a) (h3 : bh = hiZ b) (h4 : bl = loZ b) (w : World) :
    Calls Tryd.prog 17 #[.agg #[.int .u64 ah, .int .u64 al], .agg #[.int .u64 bh, .int .u64 bl]] w fun e w' => e = .returned (.bool (lessB a b)) ∧ Below w.heap.size w w' := by
  subst h1 h2 h3 h4; exact rless a b w
theorem rsub_at {a b : U} {ah al bh bl : Int} (h1 : ah = hiZ a) (h2 : al = loZ a) (h3 : bh = hiZ b) (h4 : bl = loZ b) (w : World) :
    Calls Tryd.prog 10 #[.agg #[.int .u64 ah, .int .u64 al], .agg #[.int .u64 bh, .int .u64 bl]] w fun e w' =>
      e = .returned (.tuple #[.agg #[.int .u64 (hiZ (subU a b)), .int .u64 (loZ (subU a b))], .int .i64 (subE a b)]) ∧ Below w.heap.size w w' := by
  subst h1 h2 h3 h4; exact rsub a b w
/-- The number, the divisor, what is left of the higher bits; what is had so far. -/
structure RDivInv (w wr : World) (po pl px pd pr : Nat) (a D l : U) (O j : Nat) : Prop where
  below : Below w.heap.size w wr
  ro : Blk16 wr po (byf O)
  rl : Blk2 wr pl (hiZ l) (loZ l)
  rx : Blk16 wr px (byf a.n)
  rd : Blk2 wr pd (hiZ D) (loZ D)
  rr : Blk2 wr pr 0 0
  left : l.n = a.n / 2 ^ j % D.n
  had : O = a.n / 2 ^ j / D.n * 2 ^ j

set_option maxHeartbeats 4000000 in
set_option maxRecDepth 100000 in
theorem rdiv (a : U) (k : Nat) (hk0 : 0 < k) (hk : k < 18446744073709551616) (w : World) :
    Calls Tryd.prog 14 #[.agg #[.int .u64 (hiZ a), .int .u64 (loZ a)], .int .u64 k] w fun e w' =>
      e = .returned (.tuple #[.agg #[.int .u64 (hiZ (divU a k)), .int .u64 (loZ (divU a k))], .int .u64 (remZ a k), .int .i64 0]) ∧ Below w.heap.size w w' := by
  have hk1 : ((k : Int) == 0) = false := by simp; omega
  go_enter Tryd.func14, Tryd.ntmps14
  go_upto_region 5 with fail
  obtain ⟨pa, hpa⟩ : ∃ g, g = w.heap.size := ⟨_, rfl⟩
  obtain ⟨pr, hpr⟩ : ∃ g, g = w.heap.size + 1 := ⟨_, rfl⟩
  obtain ⟨po, hpo⟩ : ∃ g, g = w.heap.size + 1 + 1 := ⟨_, rfl⟩
  obtain ⟨pl, hpl⟩ : ∃ g, g = w.heap.size + 1 + 1 + 1 := ⟨_, rfl⟩
  obtain ⟨w0, hw0⟩ : ∃ w0, w0 = (((w.alloc (.cells #[.int .u64 (hiZ a), .int .u64 (loZ a)] 24)).alloc (.cells #[.int .u64 0, .int .u64 0] 24)).alloc (.cells (A16 z16) 54)).alloc (.cells #[.int .u64 0, .int .u64 0] 24) := ⟨_, rfl⟩
  have hA : Blk2 w0 pa (hiZ a) (loZ a) := by rw [hw0]; exact (((Blk2.new_at _ _ hpa).alloc _).alloc _).alloc _
  have HR := Lib.hid (show Blk2 w0 pr 0 0 by rw [hw0]; exact ((Blk2.new_at _ _ (by simp [hpr])).alloc _).alloc _)
  have HO := Lib.hid (show Blk16 w0 po z16 by rw [hw0]; exact (Blk16.new_at _ _ (by simp [hpo])).alloc _)
  have HL := Lib.hid (show Blk2 w0 pl 0 0 by rw [hw0]; exact Blk2.new_at _ _ (by simp [hpl]))
  have HB := Lib.hid (show Below w.heap.size w w0 by rw [hw0]; go_grown)
  simp only [A16, z16] at hw0
  rw [← hw0, ← hpl, ← hpo, ← hpr, ← hpa]
  have HG := Lib.hid (show w.heap.size ≤ pa ∧ w.heap.size ≤ pr ∧ w.heap.size ≤ po ∧ w.heap.size ≤ pl by omega)
  have hn1 : pl ≠ po := by omega
  have hn2 : pl ≠ pr := by omega
  have hn3 : po ≠ pr := by omega
  have hl1 := HR.out.lt
  have hl2 := HO.out.lt
  have hl3 := HL.out.lt
  clear hw0 hpl hpo hpr hpa
  have a0 := hA.c0
  have a1 := hA.c1
  clear hA
  go_wp2_with fail
  refine (rbytes a _).mono ?_
  rintro e w1 ⟨rfl, hb⟩
  have hR := HR.out.keep hb
  have hO := HO.out.keep hb
  have hL := HL.out.keep hb
  have hB := below_of HB.out hb
  clear a0 a1 hb
  go_upto_region 7 with fail
  obtain ⟨px, hpx⟩ : ∃ g, g = w1.heap.size := ⟨_, rfl⟩
  obtain ⟨pd, hpd⟩ : ∃ g, g = w1.heap.size + 1 := ⟨_, rfl⟩
  obtain ⟨w2, hw2⟩ : ∃ w2, w2 = (w1.alloc (.cells (A16 (byf a.n)) 54)).alloc (.cells #[.int .u64 0, .int .u64 (k : Int)] 24) := ⟨_, rfl⟩
  obtain ⟨D, hD⟩ : ∃ D : U, D.n = k := ⟨⟨k, by omega⟩, rfl⟩
  have hD0 : hiZ D = 0 := by unfold hiZ; omega
  have hD1 : loZ D = (k : Int) := by unfold loZ; omega
  have hI0 : RDivInv w w2 po pl px pd pr a D U.zero 0 128 := by
    have hz := hB.size
    rw [hw2]
    refine ⟨(hB.alloc hz _).alloc (by simp; omega) _, ((hO.congr (fun j _ => ?_)).alloc _).alloc _, (hL.alloc _).alloc _, (Blk16.new_at _ _ hpx).alloc _, ?_, (hR.alloc _).alloc _, ?_, ?_⟩
    · unfold z16 byf byt; simp
    · rw [hD0, hD1]; exact Blk2.new_at _ _ (by simp [hpd])
    · have := a.lt; rw [Nat.div_eq_of_lt (show a.n < 2 ^ 128 by omega), Nat.zero_mod]; rfl
    · have := a.lt; rw [Nat.div_eq_of_lt (show a.n < 2 ^ 128 by omega), Nat.zero_div, Nat.zero_mul]
  have HI0 := Lib.hid hI0
  have e1 : pl ≠ px := by have := hL.lt; omega
  have e2 : pl ≠ pd := by have := hL.lt; omega
  have e3 : po ≠ px := by have := hO.lt; omega
  have e4 : po ≠ pd := by have := hO.lt; omega
  have e5 : px ≠ pd := by omega
  have e6 : pr ≠ px := by have := hR.lt; omega
  have e7 : pr ≠ pd := by have := hR.lt; omega
  have HD := Lib.hid hD
  have HD0 := Lib.hid hD0
  have HD1 := Lib.hid hD1
  simp only [A16] at hw2
  rw [← hw2, ← hpd, ← hpx]
  clear hw2 hpd hpx hI0 hR hO hL hB HR HO HL HB hl1 hl2 hl3 hD hD0 hD1
  go_wp2_with fail
  go_loopw [11] (fun i wr => ∃ (l : U) (O : Nat), (∃ j : Nat, j < 128 ∧ i = .int .i64 j ∧ RDivInv w wr po pl px pd pr a D l O (j + 1)) ∨ (i = .int .i64 (-1) ∧ RDivInv w wr po pl px pd pr a D l O 0)) (fun i _ => (intOf i + 1).toNat)
  case atStart => exact ⟨U.zero, 0, Or.inl ⟨127, by omega, rfl, HI0.out⟩⟩
  case round =>
    obtain ⟨l, O, hrel⟩ := hrel
    clear HI0
    rcases hrel with ⟨j, hj, rfl, hI⟩ | ⟨rfl, hI⟩
    · have HI := Lib.hid hI
      clear hI
      obtain ⟨bit, hbit⟩ : ∃ b, b = a.n / 2 ^ j % 2 := ⟨_, rfl⟩
      have hb2 : bit < 2 := by omega
      have hlD : l.n < k := by rw [HI.out.left, HD.out]; exact Nat.mod_lt _ hk0
      obtain ⟨l2, hl2⟩ : ∃ x : U, x = addU l l := ⟨_, rfl⟩
      have hl2n : l2.n = l.n + l.n := by rw [hl2]; exact addU_n (by omega)
      obtain ⟨B, hB⟩ : ∃ B : U, B.n = bit := ⟨⟨bit, by omega⟩, rfl⟩
      have hB0 : (0 : Int) = hiZ B := by unfold hiZ; omega
      have hB1 : (bit : Int) = loZ B := by unfold loZ; omega
      obtain ⟨t, ht⟩ : ∃ x : U, x = addU l2 B := ⟨_, rfl⟩
      have htn : t.n = 2 * (a.n / 2 ^ (j + 1) % k) + a.n / 2 ^ j % 2 := by rw [ht, addU_n (by omega), hl2n, hB, ← hbit, HI.out.left, HD.out]; omega
      have HBIT := Lib.hid hbit
      have HL2 := Lib.hid hl2
      have HBB := Lib.hid (And.intro hB0 hB1)
      have HT := Lib.hid ht
      have HTN := Lib.hid htn
      obtain ⟨i8, hi8⟩ : ∃ x, x = j / 8 := ⟨_, rfl⟩
      obtain ⟨r, hr⟩ : ∃ x, x = j % 8 := ⟨_, rfl⟩
      have hq1 : ((j : Int) / 8) = (i8 : Int) := by omega
      have hq2 : ((j : Int) % 8) = (r : Int) := by omega
      have hq3 : (j : Int).tdiv 8 = (i8 : Int) := by rw [Int.tdiv_eq_ediv_of_nonneg (by omega)]; exact hq1
      have hq4 : (j : Int).tmod 8 = (r : Int) := by rw [Int.tmod_eq_emod_of_nonneg (by omega)]; exact hq2
      have hi16 : i8 < 16 := by omega
      have hi16' : (i8 : Int) < 16 := by omega
      have hr8 : r < 8 := by omega
      have hw8 : IntKind.i64.wrap (i8 : Int) = (i8 : Int) := by rw [IntKind.wrap_i64]; omega
      have hwr : IntKind.i64.wrap (r : Int) = (r : Int) := by rw [IntKind.wrap_i64]; omega
      have H16 := Lib.hid hi16
      have HR88 := Lib.hid hr8
      have HI8 := Lib.hid hi8
      have HR8 := Lib.hid hr
      clear hi8 hr hi16 hr8
      have a0 := HI.out.rl.c0
      have a1 := HI.out.rl.c1
      have af0 := HI.out.rl.f0
      have af1 := HI.out.rl.f1
      clear hbit hl2 hl2n hB hB0 hB1 ht htn hlD
      go_wp2_with fail
      refine (radd l l _).mono ?_
      rw [← HL2.out]
      rintro e w3 ⟨rfl, hb3⟩
      have hO := HI.out.ro.keep hb3
      have hL := HI.out.rl.keep hb3
      have hX := HI.out.rx.keep hb3
      have hD := HI.out.rd.keep hb3
      have hR := HI.out.rr.keep hb3
      have hBl := below_of HI.out.below hb3
      clear a0 a1 af0 af1 hb3
      have a0 := hL.c0
      have a1 := hL.c1
      have af0 := hL.f0
      have af1 := hL.f1
      go_upto_region 11 with fail
      obtain ⟨wq, hwq⟩ : ∃ x, x = (w3.setCell ⟨pl, 0, none⟩ (.int .u64 (hiZ l2))).setCell ⟨pl, 1, none⟩ (.int .u64 (loZ l2)) := ⟨_, rfl⟩
      have HO := Lib.hid (show Blk16 wq po (byf O) by rw [hwq]; exact (hO.other _ _ (Ne.symm hn1)).other _ _ (Ne.symm hn1))
      have HL := Lib.hid (show Blk2 wq pl (hiZ l2) (loZ l2) by rw [hwq]; exact hL.set _ _)
      have HX := Lib.hid (show Blk16 wq px (byf a.n) by rw [hwq]; exact (hX.other _ _ (Ne.symm e1)).other _ _ (Ne.symm e1))
      have HDD := Lib.hid (show Blk2 wq pd (hiZ D) (loZ D) by rw [hwq]; exact (hD.other _ _ (Ne.symm e2)).other _ _ (Ne.symm e2))
      have HRR := Lib.hid (show Blk2 wq pr 0 0 by rw [hwq]; exact (hR.other _ _ (Ne.symm hn2)).other _ _ (Ne.symm hn2))
      have HBL := Lib.hid (show Below w.heap.size w wq by rw [hwq]; exact (hBl.setCell (p := ⟨pl, 0, none⟩) HG.out.2.2.2 _).setCell (p := ⟨pl, 1, none⟩) HG.out.2.2.2 _)
      rw [← hwq]
      clear hwq hO hL hX hD hR hBl a0 a1 af0 af1
      have a0 := HL.out.c0
      have a1 := HL.out.c1
      have af0 := HL.out.f0
      have af1 := HL.out.f1
      obtain ⟨c, hc⟩ : ∃ c, c = byt a.n i8 := ⟨_, rfl⟩
      have x0 := HX.out.cell H16.out
      rw [show byf a.n i8 = ((byt a.n i8 : Nat) : Int) from rfl, ← hc] at x0
      have HC := Lib.hid hc
      clear hc
      have hbv : IntKind.u64.wrap (bits .and .i64 ((c : Int) / 2 ^ r) 1) = (bit : Int) := by
        rw [HC.out, HBIT.out, HI8.out, HR8.out]
        exact bit_val _ _
      go_region_with ((go_at_call 8; refine (radd_at (a := l2) (b := B) rfl rfl HBB.out.1 HBB.out.2 _).mono ?_; rw [← HT.out]; rintro e w4 ⟨rfl, hb4⟩; have hL4 := HL.out.drew.keep hb4; have b0 := hL4.c0; have b1 := hL4.c1; have bf0 := hL4.f0; have bf1 := hL4.f1))
      all_goals (
        have hO := HO.out.drew.keep hb4
        have hL := HL.out.drew.keep hb4
        have hX := HX.out.drew.keep hb4
        have hD := HDD.out.drew.keep hb4
        have hR := HRR.out.drew.keep hb4
        have hBl := below_of HBL.out.drew hb4
        obtain ⟨wt, hwt⟩ : ∃ x, x = (w4.setCell ⟨pl, 0, none⟩ (.int .u64 (hiZ t))).setCell ⟨pl, 1, none⟩ (.int .u64 (loZ t)) := ⟨_, rfl⟩
        rw [← hwt]
        have TO := Lib.hid (show Blk16 wt po (byf O) by rw [hwt]; exact (hO.other _ _ (Ne.symm hn1)).other _ _ (Ne.symm hn1))
        have TL := Lib.hid (show Blk2 wt pl (hiZ t) (loZ t) by rw [hwt]; exact hL.set _ _)
        have TX := Lib.hid (show Blk16 wt px (byf a.n) by rw [hwt]; exact (hX.other _ _ (Ne.symm e1)).other _ _ (Ne.symm e1))
        have TD := Lib.hid (show Blk2 wt pd (hiZ D) (loZ D) by rw [hwt]; exact (hD.other _ _ (Ne.symm e2)).other _ _ (Ne.symm e2))
        have TR := Lib.hid (show Blk2 wt pr 0 0 by rw [hwt]; exact (hR.other _ _ (Ne.symm hn2)).other _ _ (Ne.symm hn2))
        have TB := Lib.hid (show Below w.heap.size w wt by rw [hwt]; exact (hBl.setCell (p := ⟨pl, 0, none⟩) HG.out.2.2.2 _).setCell (p := ⟨pl, 1, none⟩) HG.out.2.2.2 _)
        clear hwt hO hL hX hD hR hBl hL4 b0 b1 bf0 bf1 hb4 a0 a1 af0 af1 x0 hbv hwr hq2 hq4
        have a0 := TL.out.c0
        have a1 := TL.out.c1
        have d0 := TD.out.c0
        have d1 := TD.out.c1
        by_cases htk : t.n < k
        · have hls : lessB t D = true := by unfold lessB; rw [HD.out]; simpa using htk
          have hst := step_lt hk0 HTN.out htk
          have HST := Lib.hid hst
          clear htk hst
          go_wp2_with fail
          refine (rless t D _).mono ?_
          rintro e w5 ⟨rfl, hb5⟩
          clear a0 a1 d0 d1
          have H5 := Lib.hid hb5
          clear hb5
          go_wp2_with fail
          go_roundw
          case rel =>
            have hI' : RDivInv w w5 po pl px pd pr a D t O j := by
              have hb5 := H5.out
              refine ⟨below_of TB.out hb5, TO.out.keep hb5, TL.out.keep hb5, TX.out.keep hb5, TD.out.keep hb5, TR.out.keep hb5, ?_, ?_⟩
              · rw [HD.out, HST.out.1]
              · have h := HI.out.had; rw [HD.out] at h ⊢; exact had_lt h HST.out.2
            refine ⟨t, O, ?_⟩
            by_cases h0 : j = 0
            · subst h0
              exact Or.inr ⟨rfl, hI'⟩
            · obtain ⟨i, rfl⟩ : ∃ i, j = i + 1 := ⟨j - 1, by omega⟩
              exact Or.inl ⟨i, by omega, by go_num, hI'⟩
          case measure => simp [intOf] <;> omega
        · have hls : lessB t D = false := by unfold lessB; rw [HD.out]; simpa using htk
          have hst := step_ge hk0 HTN.out (Nat.le_of_not_lt htk)
          have HST := Lib.hid hst
          obtain ⟨z, hz⟩ : ∃ z : U, z = subU t D := ⟨_, rfl⟩
          have hzn : z.n = t.n - k := by rw [hz]; show t.n - D.n = _; rw [HD.out]
          have HZ := Lib.hid hz
          have HZN := Lib.hid hzn
          clear htk hst hz hzn
          go_wp2_with fail
          refine (rless t D _).mono ?_
          rintro e w5 ⟨rfl, hb5⟩
          clear a0 a1 d0 d1
          have SO := Lib.hid (TO.out.keep hb5)
          have SL := Lib.hid (TL.out.keep hb5)
          have SX := Lib.hid (TX.out.keep hb5)
          have SD := Lib.hid (TD.out.keep hb5)
          have SR := Lib.hid (TR.out.keep hb5)
          have SB := Lib.hid (below_of TB.out hb5)
          clear hb5 TO TL TX TD TR TB
          have a0 := SL.out.c0
          have a1 := SL.out.c1
          have d0 := SD.out.c0
          have d1 := SD.out.c1
          go_wp2_with fail
          refine (rsub t D _).mono ?_
          rw [← HZ.out]
          rintro e w6 ⟨rfl, hb6⟩
          clear a0 a1 d0 d1
          have hO := SO.out.keep hb6
          have hL := SL.out.keep hb6
          have hX := SX.out.keep hb6
          have hD := SD.out.keep hb6
          have hR := SR.out.keep hb6
          have hBl := below_of SB.out hb6
          clear hb6 SO SL SX SD SR SB
          have a0 := hL.c0
          have a1 := hL.c1
          have af0 := hL.f0
          have af1 := hL.f1
          go_upto_region 14 with fail
          clear a0 a1 af0 af1
          obtain ⟨wy, hwy⟩ : ∃ x, x = (w6.setCell ⟨pl, 0, none⟩ (.int .u64 (hiZ z))).setCell ⟨pl, 1, none⟩ (.int .u64 (loZ z)) := ⟨_, rfl⟩
          rw [← hwy]
          have YO := Lib.hid (show Blk16 wy po (byf O) by rw [hwy]; exact (hO.other _ _ (Ne.symm hn1)).other _ _ (Ne.symm hn1))
          have YL := Lib.hid (show Blk2 wy pl (hiZ z) (loZ z) by rw [hwy]; exact hL.set _ _)
          have YX := Lib.hid (show Blk16 wy px (byf a.n) by rw [hwy]; exact (hX.other _ _ (Ne.symm e1)).other _ _ (Ne.symm e1))
          have YD := Lib.hid (show Blk2 wy pd (hiZ D) (loZ D) by rw [hwy]; exact (hD.other _ _ (Ne.symm e2)).other _ _ (Ne.symm e2))
          have YR := Lib.hid (show Blk2 wy pr 0 0 by rw [hwy]; exact (hR.other _ _ (Ne.symm hn2)).other _ _ (Ne.symm hn2))
          have YB := Lib.hid (show Below w.heap.size w wy by rw [hwy]; exact (hBl.setCell (p := ⟨pl, 0, none⟩) HG.out.2.2.2 _).setCell (p := ⟨pl, 1, none⟩) HG.out.2.2.2 _)
          clear hwy hO hL hX hD hR hBl
          obtain ⟨v, hv⟩ : ∃ v, v = byt O i8 := ⟨_, rfl⟩
          have y0 := YO.out.cell H16.out
          have yf := YO.out.free i8
          rw [show byf O i8 = ((byt O i8 : Nat) : Int) from rfl, ← hv] at y0
          have HV := Lib.hid hv
          clear hv
          have hwr : IntKind.i64.wrap (r : Int) = (r : Int) := by rw [IntKind.wrap_i64]; have := HR88.out; omega
          have hq2 : ((j : Int) % 8) = (r : Int) := by have := HR8.out; omega
          have hq4 : (j : Int).tmod 8 = (r : Int) := by rw [Int.tmod_eq_emod_of_nonneg (by omega)]; exact hq2
          have hval : bits .or .i64 (v : Int) (wrap64 (2 ^ r)) = ((byt O (j / 8) ||| 2 ^ (j % 8) : Nat) : Int) := by rw [HV.out, HI8.out, HR8.out]; exact bit_or O j
          have HVAL := Lib.hid hval
          clear hval
          go_region
          rw [HVAL.out]
          have hO' : Blk16 (wy.setCell ⟨po, i8, none⟩ (.int .i64 ((byt O (j / 8) ||| 2 ^ (j % 8) : Nat) : Int))).drew po (byf (O + 2 ^ j)) := by
            have h := YO.out.set (i := i8) H16.out ((byt O (j / 8) ||| 2 ^ (j % 8) : Nat) : Int)
            refine (h.congr (fun q _ => ?_)).drew
            rw [HI8.out]
            exact bit_set O j q (had_mod HI.out.had)
          have hI' : RDivInv w (wy.setCell ⟨po, i8, none⟩ (.int .i64 ((byt O (j / 8) ||| 2 ^ (j % 8) : Nat) : Int))).drew po pl px pd pr a D z (O + 2 ^ j) j := by
            refine ⟨(YB.out.setCell (p := ⟨po, i8, none⟩) HG.out.2.2.1 _).drew, hO', (YL.out.other _ _ hn1).drew, (YX.out.other _ _ (Ne.symm e3)).drew, (YD.out.other _ _ (Ne.symm e4)).drew, (YR.out.other _ _ (Ne.symm hn3)).drew, ?_, ?_⟩
            · rw [HD.out, HST.out.1, HZN.out]
            · have h := HI.out.had; rw [HD.out] at h ⊢; exact had_ge h HST.out.2
          generalize (wy.setCell ⟨po, i8, none⟩ (.int .i64 ((byt O (j / 8) ||| 2 ^ (j % 8) : Nat) : Int))).drew = W at hI' ⊢
          have HI' := Lib.hid hI'
          clear hO' hI' y0 yf hwr hq2 hq4
          go_wp2_with fail
          go_roundw
          case rel =>
            refine ⟨z, O + 2 ^ j, ?_⟩
            by_cases h0 : j = 0
            · subst h0
              exact Or.inr ⟨rfl, HI'.out⟩
            · obtain ⟨i, rfl⟩ : ∃ i, j = i + 1 := ⟨j - 1, by omega⟩
              exact Or.inl ⟨i, by omega, by go_num, HI'.out⟩
          case measure => simp [intOf] <;> omega)
    · have HI := Lib.hid hI
      clear hI
      have hO1 : O = (divU a k).n := by have h := HI.out.had; rw [HD.out] at h; simpa [divU] using h
      have hl1 : l.n = a.n % k := by have h := HI.out.left; rw [HD.out] at h; simpa using h
      have hlz : loZ l = remZ a k := by unfold loZ remZ; rw [hl1]; have := Nat.mod_lt a.n hk0; congr 1; omega
      subst hO1
      obtain ⟨p0, p1, p2, p3, p4, p5, p6, p7, p8, p9, p10, p11, p12, p13, p14, p15⟩ := HI.out.ro.cells
      have a1 := HI.out.rl.c1
      rw [hlz] at a1
      have r0 := HI.out.rr.c0
      have r1 := HI.out.rr.c1
      have rf0 := HI.out.rr.f0
      have rf1 := HI.out.rr.f1
      go_wp2_with fail
      go_region_with ((go_at_call 42; refine (rof (divU a k) _).mono ?_; rintro e w7 ⟨rfl, hb7⟩; have hR7 := HI.out.rr.drew.keep hb7; have s0 := hR7.c0; have s1 := hR7.c1; have sf0 := hR7.f0; have sf1 := hR7.f1; have hL7 := HI.out.rl.drew.keep hb7; have u1 := hL7.c1; rw [hlz] at u1))
      all_goals (
        have HX := Lib.hid (hR7.set (hiZ (divU a k)) (loZ (divU a k)))
        have HB7 := Lib.hid (below_of HI.out.below.drew hb7)
        clear p0 p1 p2 p3 p4 p5 p6 p7 p8 p9 p10 p11 p12 p13 p14 p15 a1 r0 r1 rf0 rf1 hR7 hL7 hb7 s0 s1 sf0 sf1 u1 hlz
        go_wp2_with fail
        have x0 := HX.out.c0
        have x1 := HX.out.c1
        refine bodyPost_ret (v := .tuple #[.agg #[.int .u64 (hiZ (divU a k)), .int .u64 (loZ (divU a k))], .int .u64 (remZ a k), .int .i64 0]) (by simp [results, Tryd.results14, go_sem, x0, x1]) rfl ?_
        exact ⟨rfl, (HB7.out.setCell (p := ⟨pr, 0, none⟩) HG.out.2.1 _).setCell (p := ⟨pr, 1, none⟩) HG.out.2.1 _⟩)
end Go.Proofs.YtnbchhjanlpdlaaDoor
