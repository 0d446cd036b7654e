/-
  WALKS: math/bits.Div64: the quotient of 128 bits by 64.
-/
import Derived.Test.YtnbchhjanlpdlaaDoorChecked
import Derived.Test.YtnbchhjanlpdlaaDoorMath
import Derived.Test.YtnbchhjanlpdlaaDoorShelf
import Derived.WalkKit
import Derived.BigQuiet
import Derived.Deep.QuietTactic
import Derived.Handy
import Derived.Lib.Hide
import Derived.Lib.ItoaNum
import Derived.BigGuardPart
import Derived.CellFam
import Derived.Deep.CutBlock
import Derived.Deep.DeepCutAuto
import Derived.Laws.MathBits
import Derived.Laws.Bits64b
namespace Go.Proofs.YtnbchhjanlpdlaaDoor
open Go Go.RowKit

theorem lz_any (y : Nat) (h1 : 1 ≤ y) (h2 : y < 18446744073709551616) (w : World) : ∃ s : Nat, s ≤ 63 ∧ 9223372036854775808 ≤ y * 2 ^ s ∧ y * 2 ^ s < 18446744073709551616 ∧
    Calls Tryd.prog 53 #[.int .u64 y] w fun e w' => e = .returned (.int .i64 s) ∧ w = w' := by
  obtain ⟨b0, b1, b2⟩ := Lib.bitLenAux_bounds 64 y (by omega) (by omega)
  have b3 : Lib.bitLen y ≤ 64 := Lib.bitLen_le y 64 (Nat.le_refl _) (by omega)
  change 1 ≤ Lib.bitLen y at b0
  change 2 ^ (Lib.bitLen y - 1) ≤ y at b1
  change y < 2 ^ Lib.bitLen y at b2
  refine ⟨64 - Lib.bitLen y, by omega, ?_, ?_, ?_⟩
  · have := Nat.mul_le_mul_right (2 ^ (64 - Lib.bitLen y)) b1
    rw [← Nat.pow_add, show Lib.bitLen y - 1 + (64 - Lib.bitLen y) = 63 by omega] at this
    exact this
  · have := Nat.mul_lt_mul_of_pos_right b2 (show 0 < 2 ^ (64 - Lib.bitLen y) from Nat.pow_pos (by decide))
    rw [← Nat.pow_add, show Lib.bitLen y + (64 - Lib.bitLen y) = 64 by omega] at this
    exact this
  · refine (Tryd.bits_LeadingZeros64 y w (by omega) (by omega)).mono ?_
    rintro e w' ⟨rfl, rfl⟩
    refine ⟨?_, rfl⟩
    rw [Int.toNat_natCast, show (64 : Int) - (Lib.bitLen y : Int) = ((64 - Lib.bitLen y : Nat) : Int) by omega]

set_option maxHeartbeats 1000000 in
set_option maxRecDepth 100000 in
theorem div64_big (hi lo y : Nat) (h0 : 0 < hi) (hy : hi < y) (hy64 : y < 18446744073709551616) (hlo : lo < 18446744073709551616) (w : World) :
    Calls Tryd.prog 45 #[.int .u64 hi, .int .u64 lo, .int .u64 y] w fun e w' =>
      e = .returned (.tuple #[.int .u64 (((hi * 18446744073709551616 + lo) / y : Nat) : Int), .int .u64 (((hi * 18446744073709551616 + lo) % y : Nat) : Int)]) ∧ w = w' := by
  obtain ⟨s, hs, hn1, hn2, hlz⟩ := lz_any y (by omega) hy64 w
  have t1 : ((y : Int) == 0) = false := by simp; omega
  have t2 : decide ((y : Int) ≤ (hi : Int)) = false := by simp; omega
  have t2' : decide (y ≤ hi) = false := by simp; omega
  have t3 : ((hi : Int) == 0) = false := by simp; omega
  have HL := Lib.hid hlz
  have H1 := Lib.hid hn1
  have H2 := Lib.hid hn2
  clear hlz hn1 hn2
  go_enter Tryd.func45, Tryd.ntmps45
  go_upto_region 15 with (go_at_call 53; refine HL.out.mono ?_; rintro e w' ⟨rfl, rfl⟩)
  go_name_slot 11 u11 hu11
  go_name_slot 13 u13 hu13
  go_name_slot 14 u14 hu14
  go_name_slot 12 u12 hu12
  go_name_slot 9 u9 hu9
  go_name_slot 10 u10 hu10
  go_name_slot 2 u2 hu2
  have e2 : u2 = ((y * 2 ^ s : Nat) : Int) := by rw [← hu2, wrap_shl, Nat.mod_eq_of_lt H2.out]
  have e9 : u9 = ((y * 2 ^ s / 4294967296 : Nat) : Int) := by rw [← hu9, wrap_shl, Nat.mod_eq_of_lt H2.out]; rfl
  have e10 : u10 = ((y * 2 ^ s % 4294967296 : Nat) : Int) := by rw [← hu10, wrap_shl, Nat.mod_eq_of_lt H2.out, and_low32 _ (by omega) (by have := H2.out; omega)]; rfl
  have e12 : u12 = ((lo * 2 ^ s % 18446744073709551616 : Nat) : Int) := by rw [← hu12, wrap_shl]
  have e13 : u13 = ((lo * 2 ^ s % 18446744073709551616 / 4294967296 : Nat) : Int) := by rw [← hu13, wrap_shl]; rfl
  have e14 : u14 = ((lo * 2 ^ s % 18446744073709551616 % 4294967296 : Nat) : Int) := by rw [← hu14, wrap_shl, and_low32 _ (by omega) (by omega)]; rfl
  have hb := shl_below (s := s) (by omega) hlo hy
  have hsm := shr_small lo s (by omega) hlo
  have e11 : u11 = ((hi * 2 ^ s + lo / 2 ^ (64 - s) : Nat) : Int) := by
    have j1 : hi * 2 ^ s < 18446744073709551616 := Nat.lt_trans (Nat.lt_of_le_of_lt (Nat.le_add_right _ _) hb) H2.out
    have j2 : lo / 2 ^ (64 - s) < 18446744073709551616 := Nat.lt_of_le_of_lt (Nat.div_le_self _ _) hlo
    rw [← hu11, wrap_shl, div_pow_cast, Nat.mod_eq_of_lt j1, bits_or_u64_nat _ _ j1 j2, shl_or _ _ _ hsm]
  have hq := shl_quo (hi := hi) (lo := lo) (y := y) (s := s) (by omega)
  have HQ := Lib.hid hq
  clear hq hu2 hu9 hu10 hu11 hu12 hu13 hu14 hsm HL
  have hL : lo * 2 ^ s % 18446744073709551616 < 18446744073709551616 := Nat.mod_lt _ (by decide)
  generalize hgY : y * 2 ^ s = Y at *
  generalize hgU : hi * 2 ^ s + lo / 2 ^ (64 - s) = U at *
  generalize hgL : lo * 2 ^ s % 18446744073709551616 = L at *
  clear hgY hgU hgL
  subst e2 e9 e10 e11 e12 e13 e14
  have hY1 := H1.out
  have hY2 := H2.out
  have y1 : 2147483648 ≤ Y / 4294967296 := by omega
  have y1' : Y / 4294967296 < 4294967296 := by omega
  have y0 : Y % 4294967296 < 4294967296 := by omega
  have hy : Y = Y / 4294967296 * 4294967296 + Y % 4294967296 := by omega
  have d1 : L / 4294967296 < 4294967296 := by omega
  have d0 : L % 4294967296 < 4294967296 := by omega
  have eL : L = L / 4294967296 * 4294967296 + L % 4294967296 := by omega
  have HY := Lib.hid hy
  have HE := Lib.hid eL
  clear hy eL
  generalize Y / 4294967296 = yn1 at *
  generalize Y % 4294967296 = yn0 at *
  generalize L / 4294967296 = dg1 at *
  generalize L % 4294967296 = dg0 at *
  have hU64 : U < 18446744073709551616 := by omega
  have K0 := Lib.hid (Kn.start HY.out y1 y0 hb d1)
  clear H1 H2
  have hb' : (U : Int) < (Y : Int) := by omega
  have hY64 : (Y : Int) ≤ 18446744073709551615 := by omega
  clear hY2 hY1 hL hb
  have hyn1 : 1 ≤ yn1 := by omega
  go_upto_block 0 with fail
  go_name_slot 16 u16 hu16
  go_name_slot 15 u15 hu15
  have hdm := Nat.div_add_mod' U yn1
  have hdl := Nat.div_le_self U yn1
  have e15 : u15 = ((U / yn1 : Nat) : Int) := by rw [← hu15, IntKind.wrap_u64, show ((U : Int) / (yn1 : Int)) = ((U / yn1 : Nat) : Int) by simp]; generalize U / yn1 = z at *; omega
  have e16 : u16 = ((U % yn1 : Nat) : Int) := by
    rw [← hu16, hu15, e15, IntKind.wrap_u64, IntKind.wrap_u64, show (((U / yn1 : Nat) : Int) * (yn1 : Int)) = ((U / yn1 * yn1 : Nat) : Int) by simp]
    generalize U / yn1 * yn1 = z at *
    omega
  have hm1 : U % yn1 < yn1 := Nat.mod_lt _ (by omega)
  have A0 : KnZ yn1 U ((U * 4294967296 + dg1) / Y) u15 u16 := KnZ.mk' e15 e16 K0.out (by omega)
  clear hu15 hu16 hdm hdl e15 e16 hm1 K0
  obtain ⟨Q1, R1, hQ1, er1, hr1⟩ := kn_digit U dg1 Y (by omega)
  have HQ1 := Lib.hid hQ1
  have K1 := Lib.hid (Kn.start HY.out y1 y0 hr1 d0)
  have e17 := Lib.hid (rest_wrap U dg1 Q1 Y R1 er1 (by omega))
  have ER1 := Lib.hid er1
  have HR1 := Lib.hid hr1
  clear hQ1 er1 hr1
  go_cut [15] (fun s15 wx => s15 = .int .u64 (Q1 : Int) ∧ wx = w)
  case first =>
    go_wp2
    go_loop [15, 16] (fun v x => ∃ q r : Int, v = .int .u64 q ∧ x = .int .u64 r ∧ Hid (KnZ yn1 U ((U * 4294967296 + dg1) / Y) q r)) (fun v _ => (intOf v).toNat)
    case atStart => exact ⟨u15, u16, rfl, rfl, A0⟩
    case round =>
      obtain ⟨q, r, rfl, rfl, hK⟩ := hrel
      clear A0
      obtain ⟨b1, b2, b3, b4⟩ := hK.out.bounds
      have i1 : (0 : Int) ≤ (yn0 : Int) := by omega
      have i2 : (yn0 : Int) ≤ 4294967295 := by omega
      have i3 : (0 : Int) ≤ (dg1 : Int) := by omega
      have i4 : (dg1 : Int) ≤ 4294967295 := by omega
      have i5 : (1 : Int) ≤ (yn1 : Int) := by omega
      have i6 : (yn1 : Int) ≤ 4294967295 := by omega
      by_cases hB : 4294967296 ≤ q
      · by_cases hR : 4294967296 ≤ r + (yn1 : Int)
        · have HF := Lib.hid (hK.out.fin (hK.out.over (by omega) (by omega) d1 hB) HY.out (by omega) y0 hR)
          go_wp2
          go_meet
          exact ⟨u64_eq (by rw [HQ1.out]; exact HF.out), rfl⟩
        · have HF := Lib.hid (hK.out.step (hK.out.over (by omega) (by omega) d1 hB) hR)
          go_wp2
          go_round
          case rel => exact ⟨_, _, rfl, rfl, HF.out⟩
          case measure => simp [intOf]; omega
      · obtain ⟨p0, p1⟩ := KnZ.prod (q := q) (yn0 := yn0) b1 (by omega) y0
        by_cases hT : 4294967296 * r + (dg1 : Int) < q * (yn0 : Int)
        · by_cases hR : 4294967296 ≤ r + (yn1 : Int)
          · have HF := Lib.hid (hK.out.fin (hK.out.big HY.out hT) HY.out (by omega) y0 hR)
            have h1q := one_of_lt (hK.out.big HY.out hT)
            go_wp2
            go_meet
            exact ⟨u64_eq (by rw [HQ1.out]; exact HF.out), rfl⟩
          · have HF := Lib.hid (hK.out.step (hK.out.big HY.out hT) hR)
            have h1q := one_of_lt (hK.out.big HY.out hT)
            go_wp2
            go_round
            case rel => exact ⟨_, _, rfl, rfl, HF.out⟩
            case measure => simp [intOf]; omega
        · have HF := Lib.hid (hK.out.done HY.out (by omega) hT)
          go_wp2
          go_meet
          exact ⟨u64_eq (by rw [HQ1.out]; exact HF.out), rfl⟩
  case rest =>
    obtain ⟨rfl, rfl⟩ := hcut
    go_upto_region 22 with fail
    go_name_slot 17 u17 hu17
    have e17' : u17 = (R1 : Int) := hu17.symm.trans e17.out
    subst e17'
    clear hu17
    have hb2 : (R1 : Int) < (Y : Int) := by have := HR1.out; omega
    have hr2 : R1 < Y := HR1.out
    go_upto_block 2 with fail
    go_name_slot 16 v16 hv16
    go_name_slot 18 v18 hv18
    have hdm := Nat.div_add_mod' R1 yn1
    have hdl := Nat.div_le_self R1 yn1
    have f18 : v18 = ((R1 / yn1 : Nat) : Int) := by rw [← hv18, IntKind.wrap_u64, show ((R1 : Int) / (yn1 : Int)) = ((R1 / yn1 : Nat) : Int) by simp]; generalize R1 / yn1 = z at *; omega
    have f16 : v16 = ((R1 % yn1 : Nat) : Int) := by
      rw [← hv16, hv18, f18, IntKind.wrap_u64, IntKind.wrap_u64, show (((R1 / yn1 : Nat) : Int) * (yn1 : Int)) = ((R1 / yn1 * yn1 : Nat) : Int) by simp]
      generalize R1 / yn1 * yn1 = z at *
      omega
    have hm1 : R1 % yn1 < yn1 := Nat.mod_lt _ (by omega)
    have A1 : KnZ yn1 R1 ((R1 * 4294967296 + dg0) / Y) v18 v16 := KnZ.mk' f18 f16 K1.out (by omega)
    clear hv18 hv16 hdm hdl f18 f16 hm1 K1
    obtain ⟨Q0, R0, hQ0, er0, hr0⟩ := kn_digit R1 dg0 Y (by omega)
    have HQ0 := Lib.hid hQ0
    have e0 := Lib.hid (rest_wrap R1 dg0 Q0 Y R0 er0 (by omega))
    have ER0 := Lib.hid er0
    have HR0 := Lib.hid hr0
    clear hQ0 er0 hr0
    go_cut [18] (fun s18 wx => s18 = .int .u64 (Q0 : Int) ∧ wx = wc)
    case first =>
      go_wp2
      go_loop [18, 16] (fun v x => ∃ q r : Int, v = .int .u64 q ∧ x = .int .u64 r ∧ Hid (KnZ yn1 R1 ((R1 * 4294967296 + dg0) / Y) q r)) (fun v _ => (intOf v).toNat)
      case atStart => exact ⟨v18, v16, rfl, rfl, A1⟩
      case round =>
        obtain ⟨q, r, rfl, rfl, hK⟩ := hrel
        clear A1
        obtain ⟨b1, b2, b3, b4⟩ := hK.out.bounds
        have i1 : (0 : Int) ≤ (yn0 : Int) := by omega
        have i2 : (yn0 : Int) ≤ 4294967295 := by omega
        have i3 : (0 : Int) ≤ (dg0 : Int) := by omega
        have i4 : (dg0 : Int) ≤ 4294967295 := by omega
        have i5 : (1 : Int) ≤ (yn1 : Int) := by omega
        have i6 : (yn1 : Int) ≤ 4294967295 := by omega
        by_cases hB : 4294967296 ≤ q
        · by_cases hR : 4294967296 ≤ r + (yn1 : Int)
          · have HF := Lib.hid (hK.out.fin (hK.out.over (by omega) (by omega) d0 hB) HY.out (by omega) y0 hR)
            go_wp2
            go_meet
            exact ⟨u64_eq (by rw [HQ0.out]; exact HF.out), rfl⟩
          · have HF := Lib.hid (hK.out.step (hK.out.over (by omega) (by omega) d0 hB) hR)
            go_wp2
            go_round
            case rel => exact ⟨_, _, rfl, rfl, HF.out⟩
            case measure => simp [intOf]; omega
        · obtain ⟨p0, p1⟩ := KnZ.prod (q := q) (yn0 := yn0) b1 (by omega) y0
          by_cases hT : 4294967296 * r + (dg0 : Int) < q * (yn0 : Int)
          · by_cases hR : 4294967296 ≤ r + (yn1 : Int)
            · have HF := Lib.hid (hK.out.fin (hK.out.big HY.out hT) HY.out (by omega) y0 hR)
              have h1q := one_of_lt (hK.out.big HY.out hT)
              go_wp2
              go_meet
              exact ⟨u64_eq (by rw [HQ0.out]; exact HF.out), rfl⟩
            · have HF := Lib.hid (hK.out.step (hK.out.big HY.out hT) hR)
              have h1q := one_of_lt (hK.out.big HY.out hT)
              go_wp2
              go_round
              case rel => exact ⟨_, _, rfl, rfl, HF.out⟩
              case measure => simp [intOf]; omega
          · have HF := Lib.hid (hK.out.done HY.out (by omega) hT)
            go_wp2
            go_meet
            exact ⟨u64_eq (by rw [HQ0.out]; exact HF.out), rfl⟩
    case rest =>
      obtain ⟨rfl, rfl⟩ := hcut
      go_wp2
      have hk := kn_two ER1.out ER0.out HR0.out
      have h64 : (hi * 18446744073709551616 + lo) / y < 18446744073709551616 := Nat.div_lt_of_lt_mul (by omega)
      have hq : (U * 18446744073709551616 + L) / Y = Q1 * 4294967296 + Q0 := by rw [HE.out]; exact hk.1
      have hr : (U * 18446744073709551616 + L) % Y = R0 := by rw [HE.out]; exact hk.2
      rw [HQ.out.1, hq] at h64
      have g1 := two_wrap Q1 Q0 _ rfl h64
      have g2 := e0.out
      go_ret2
      exact ⟨tup_eq (g1.trans (by rw [HQ.out.1, hq])) (by rw [g2, HQ.out.2, hr, div_pow_cast]), rfl⟩

set_option maxHeartbeats 400000 in
theorem div64_small (lo y : Nat) (hy : 0 < y) (hy64 : y < 18446744073709551616) (hlo : lo < 18446744073709551616) (w : World) :
    Calls Tryd.prog 45 #[.int .u64 0, .int .u64 lo, .int .u64 y] w fun e w' =>
      e = .returned (.tuple #[.int .u64 ((lo / y : Nat) : Int), .int .u64 ((lo % y : Nat) : Int)]) ∧ ∃ n, w' = w.drewN n := by
  have t1 : ((y : Int) == 0) = false := by simp; omega
  have t1' : (y : Int) ≠ 0 := by omega
  have t2 : decide ((y : Int) ≤ 0) = false := by simp; omega
  have y1 : 1 ≤ (y : Int) := by omega
  have y2 : (y : Int) ≤ 18446744073709551615 := by omega
  have l2 : (lo : Int) ≤ 18446744073709551615 := by omega
  have hd : ((lo / y : Nat) : Int) ≤ 18446744073709551615 := by have := Nat.div_le_self lo y; generalize lo / y = z at *; omega
  go_enter Tryd.func45, Tryd.ntmps45
  go_wp2
  go_quiet (fail)
  go_wp2
  go_ret2
  rename_i nq
  exact ⟨tup_eq (wrap_quo lo y hlo) (by simp), _, rfl⟩

/-- math/bits.Div64, wherever it does not panic. -/
theorem div64_any (hi lo y : Nat) (hy : hi < y) (hy64 : y < 18446744073709551616) (hlo : lo < 18446744073709551616) (w : World) :
    Calls Tryd.prog 45 #[.int .u64 hi, .int .u64 lo, .int .u64 y] w fun e w' =>
      e = .returned (.tuple #[.int .u64 (((hi * 18446744073709551616 + lo) / y : Nat) : Int), .int .u64 (((hi * 18446744073709551616 + lo) % y : Nat) : Int)]) ∧ ∃ n, w' = w.drewN n := by
  rcases Nat.eq_zero_or_pos hi with h | h
  · subst h
    have := div64_small lo y hy hy64 hlo w
    simpa using this
  · refine (div64_big hi lo y h hy hy64 hlo w).mono ?_
    rintro e w' ⟨rfl, rfl⟩
    exact ⟨rfl, 0, by simp [World.drewN_zero]⟩
end Go.Proofs.YtnbchhjanlpdlaaDoor
