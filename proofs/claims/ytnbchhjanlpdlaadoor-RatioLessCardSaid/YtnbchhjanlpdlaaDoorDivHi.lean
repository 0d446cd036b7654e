/-
  WALKS: ratio.divide, where the divisor has more than 64 bits: bit by bit.
-/
import Derived.Test.YtnbchhjanlpdlaaDoorDivide
import Derived.Laws.MathBits
import Derived.Deep.LoopGhost
import Derived.Deep.DeepCutAuto
import Derived.Deep.Cut
import Derived.Lib.ItoaWalk
namespace Go.Proofs.YtnbchhjanlpdlaaDoor
open Go Go.RowKit

/-- One bit more: what the round's shift gives. -/
def bitZ (s : Nat) : Int := ((2 ^ s : Nat) : Int)
theorem bitZ_wrap (s : Nat) (h : s ≤ 63) : IntKind.u64.wrap (2 ^ s) = bitZ s := by
  have h1 : (2 : Nat) ^ s < 2 ^ 64 := Nat.pow_lt_pow_right (by decide) (by omega)
  rw [show (2 : Int) ^ s = ((2 ^ s : Nat) : Int) by simp, IntKind.wrap_u64]
  unfold bitZ
  have h2 : (2 : Nat) ^ 64 = 18446744073709551616 := by decide
  generalize (2 : Nat) ^ s = z at *
  omega

/-- What holds at a round's head. -/
structure RatInv (w wr : World) (g1 g2 g3 : Nat) (a b A : U) (o s1 : Nat) : Prop where
  below : Below w.heap.size w wr
  ra : Blk2 wr w.heap.size (hiZ A) (loZ A)
  rb : Blk2 wr g1 (hiZ b) (loZ b)
  r2 : Blk2 wr g2 0 0
  r3 : Blk2 wr g3 0 0
  inv : DivInv a b A o s1
  fit : ∀ s, s < s1 → b.n * 2 ^ s < 340282366920938463463374607431768211456
  top : s1 ≤ 64
section
variable {w wr wx : World} {g1 g2 g3 : Nat} {a b A : U} {o s1 : Nat}
theorem RatInv.keep (h : RatInv w wr g1 g2 g3 a b A o s1) (hb : Below wr.heap.size wr wx) : RatInv w wx g1 g2 g3 a b A o s1 :=
  ⟨below_of h.below hb, h.ra.keep hb, h.rb.keep hb, h.r2.keep hb, h.r3.keep hb, h.inv, h.fit, h.top⟩
theorem RatInv.alloc (h : RatInv w wr g1 g2 g3 a b A o s1) (x : Obj) : RatInv w (wr.alloc x) g1 g2 g3 a b A o s1 := h.keep ((Below.refl _ _).alloc (Nat.le_refl _) x)
theorem RatInv.drew (h : RatInv w wr g1 g2 g3 a b A o s1) : RatInv w wr.drew g1 g2 g3 a b A o s1 := ⟨h.below.drew, h.ra.drew, h.rb.drew, h.r2.drew, h.r3.drew, h.inv, h.fit, h.top⟩
theorem RatInv.other (h : RatInv w wr g1 g2 g3 a b A o s1) (g i : Nat) (v : Value) (hg : w.heap.size ≤ g) (n0 : w.heap.size ≠ g) (n1 : g1 ≠ g) (n2 : g2 ≠ g) (n3 : g3 ≠ g) : RatInv w (wr.setCell ⟨g, i, none⟩ v) g1 g2 g3 a b A o s1 :=
  ⟨h.below.setCell (p := ⟨g, i, none⟩) hg v, h.ra.other _ v n0, h.rb.other _ v n1, h.r2.other _ v n2, h.r3.other _ v n3, h.inv, h.fit, h.top⟩
end
theorem times_zb {a : U} {k : Nat} {kz : Int} (hz : kz = (k : Int)) (hk : k < 18446744073709551616) (w : World) :
    Calls Tryd.prog 11 #[.agg #[.int .u64 (hiZ a), .int .u64 (loZ a)], .int .u64 kz] w fun e w' =>
      e = .returned (.tuple #[.agg #[.int .u64 (hiZ (timesU a k)), .int .u64 (loZ (timesU a k))], .int .i64 (timesE a k)]) ∧ Below w.heap.size w w' := by
  subst hz
  exact times_any a k hk w
theorem part_n {b : U} {s : Nat} (h : b.n * 2 ^ s < 340282366920938463463374607431768211456) : (timesU b (2 ^ s)).n = b.n * 2 ^ s := cutU_n h
theorem or_bit {a b A : U} {o s : Nat} (h : DivInv a b A o (s + 1)) (hb : 18446744073709551616 ≤ b.n) (hs : s ≤ 63) : bits .or .u64 (o : Int) (bitZ s) = ((o + 2 ^ s : Nat) : Int) := by
  have h1 := h.small hb
  have h2 : (2 : Nat) ^ s < 2 ^ 64 := Nat.pow_lt_pow_right (by decide) (by omega)
  have h3 : (2 : Nat) ^ 64 = 18446744073709551616 := by decide
  unfold bitZ
  rw [bits_or_u64_nat _ _ h1 (by rw [← h3]; exact h2), h.or]
theorem len_of (x : U) : Lib.bitLen (hiZ x).toNat ≤ 64 ∧ x.n / 18446744073709551616 < 2 ^ Lib.bitLen (hiZ x).toNat ∧ (18446744073709551616 ≤ x.n → 1 ≤ Lib.bitLen (hiZ x).toNat ∧ 2 ^ (Lib.bitLen (hiZ x).toNat - 1) ≤ x.n / 18446744073709551616) := by
  have e : (hiZ x).toNat = x.n / 18446744073709551616 := by unfold hiZ; omega
  rw [e]
  have hlt : x.n / 18446744073709551616 < 2 ^ 64 := by have := hi_nat x; omega
  have h64 := Lib.bitLen_le (x.n / 18446744073709551616) 64 (Nat.le_refl _) hlt
  by_cases h0 : x.n / 18446744073709551616 = 0
  · refine ⟨h64, ?_, fun h => by omega⟩
    rw [h0]
    decide
  · obtain ⟨p, q, r⟩ := Lib.bitLenAux_bounds 64 _ hlt h0
    exact ⟨h64, r, fun _ => ⟨p, q⟩⟩

set_option maxHeartbeats 8000000 in
set_option maxRecDepth 100000 in
theorem divide_hi (a b : U) (hb : 18446744073709551616 ≤ b.n) (w : World) :
    Calls Tryd.prog 48 #[.agg #[.int .u64 (hiZ a), .int .u64 (loZ a)], .agg #[.int .u64 (hiZ b), .int .u64 (loZ b)]] w fun e w' =>
      e = .returned (.tuple #[.agg #[.int .u64 (hiZ (divW a b)), .int .u64 (loZ (divW a b))], .agg #[.int .u64 (hiZ (modW a b)), .int .u64 (loZ (modW a b))]]) ∧ Below w.heap.size w w' := by
  have tE : (hiZ b == 0) = false := by
    have : hiZ b ≠ 0 := by unfold hiZ; omega
    simpa using this
  have a1 := hiZ_nonneg a; have a2 := hiZ_le a; have b1 := hiZ_nonneg b; have b2 := hiZ_le b
  go_enter Tryd.func48, Tryd.ntmps48
  go_wp2_with fail
  go_quiet ((go_at_call 61; exact Calls.quiet_of_same (Tryd.bits_Len64 _ _ (by assumption) (by assumption))))
  go_wp2_with fail
  rename_i nq
  obtain ⟨A1, A2, _⟩ := len_of a
  obtain ⟨B1, B2, B3⟩ := len_of b
  obtain ⟨B4, B5⟩ := B3 hb
  have hst := shift_start A2 A1 B5 B4 B2
  go_name_slot 10 z hz
  have hz' : z = (Lib.bitLen (hiZ a).toNat : Int) - (Lib.bitLen (hiZ b).toNat : Int) := by rw [← hz]; unfold wrap64; omega
  clear hz A2 B2 B3 B5
  have hI : ∃ s1, s1 = (z + 1).toNat ∧ z ≤ 63 ∧ RatInv w (((((w.alloc (.cells #[.int .u64 (hiZ a), .int .u64 (loZ a)] 24)).alloc (.cells #[.int .u64 (hiZ b), .int .u64 (loZ b)] 24)).alloc (.cells #[.int .u64 0, .int .u64 0] 24)).alloc (.cells #[.int .u64 0, .int .u64 0] 24)).drewN nq) (w.heap.size + 1) (w.heap.size + 1 + 1) (w.heap.size + 1 + 1 + 1) a b a 0 s1 := by
    refine ⟨_, rfl, by omega, bdn (by go_grown), ?_, ?_, ?_, ?_, ?_, ?_, by omega⟩
    · repeat' (first | ((with_reducible refine Blk2.new_at _ _ ?_); (simp; done)) | (with_reducible refine Blk2.drewN ?_) | (with_reducible refine Blk2.alloc ?_ _))
    · repeat' (first | ((with_reducible refine Blk2.new_at _ _ ?_); (simp; done)) | (with_reducible refine Blk2.drewN ?_) | (with_reducible refine Blk2.alloc ?_ _))
    · repeat' (first | ((with_reducible refine Blk2.new_at _ _ ?_); (simp; done)) | (with_reducible refine Blk2.drewN ?_) | (with_reducible refine Blk2.alloc ?_ _))
    · repeat' (first | ((with_reducible refine Blk2.new_at _ _ ?_); (simp; done)) | (with_reducible refine Blk2.drewN ?_) | (with_reducible refine Blk2.alloc ?_ _))
    · rcases Nat.lt_or_ge (Lib.bitLen (hiZ a).toNat) (Lib.bitLen (hiZ b).toNat) with h | h
      · rw [show (z + 1).toNat = 0 by omega]; exact hst.2 h
      · rw [show (z + 1).toNat = Lib.bitLen (hiZ a).toNat - Lib.bitLen (hiZ b).toNat + 1 by omega]; exact (hst.1 h).1
    · intro s hs
      exact (hst.1 (by omega)).2 s (by omega)
  obtain ⟨s1, hs1, hz63, hI⟩ := hI
  have i1 : w.heap.size < w.heap.size + 1 := by omega
  have i2 : w.heap.size + 1 < w.heap.size + 1 + 1 := by omega
  have i3 : w.heap.size + 1 + 1 < w.heap.size + 1 + 1 + 1 := by omega
  generalize w.heap.size + 1 + 1 + 1 = g3 at *
  generalize w.heap.size + 1 + 1 = g2 at *
  generalize w.heap.size + 1 = g1 at *
  generalize ((((w.alloc (.cells #[.int .u64 (hiZ a), .int .u64 (loZ a)] 24)).alloc (.cells #[.int .u64 (hiZ b), .int .u64 (loZ b)] 24)).alloc (.cells #[.int .u64 0, .int .u64 0] 24)).alloc (.cells #[.int .u64 0, .int .u64 0] 24)).drewN nq = W4 at *
  have HI0 := Lib.hid hI
  have HS0 := Lib.hid hs1
  clear hI hs1 hst hz' A1 B1 B4
  go_loopg [9, 10] s1 (fun gg t9 t10 wr => ∃ (A : U) (o : Nat) (z : Int), gg = (z + 1).toNat ∧ z ≤ 63 ∧ t9 = .int .u64 o ∧ t10 = .int .i64 z ∧ RatInv w wr g1 g2 g3 a b A o (z + 1).toNat)
  case atStart => exact ⟨a, 0, z, HS0.out, hz63, rfl, rfl, by rw [← HS0.out]; exact HI0.out⟩
  case round =>
    clear hz63 HI0 HS0
    obtain ⟨A, o, z, hgg, hz63, rfl, rfl, hI⟩ := hrel
    have HGG := Lib.hid hgg
    have ca := hI.ra.c0; have da := hI.ra.c1; have fa := hI.ra.f0; have ga := hI.ra.f1; have la := hI.ra.lt
    have cb := hI.rb.c0; have db := hI.rb.c1; have lb := hI.rb.lt
    have c2 := hI.r2.c0; have d2 := hI.r2.c1; have f2 := hI.r2.f0; have h2 := hI.r2.f1; have l2 := hI.r2.lt
    have c3 := hI.r3.c0; have d3 := hI.r3.c1; have f3 := hI.r3.f0; have h3 := hI.r3.f1; have l3 := hI.r3.lt
    have HI := Lib.hid hI
    clear hI hgg
    by_cases hz0 : 0 ≤ z
    · obtain ⟨s, rfl⟩ := Int.eq_ofNat_of_zero_le hz0
      have hs63 : (s : Int) ≤ 63 := hz63
      have HI' : Hid (RatInv w wr g1 g2 g3 a b A o (s + 1)) := (by have h := HI.out; rw [show ((s : Int) + 1).toNat = s + 1 by omega] at h; exact h)
      have hw := bitZ_wrap s (by omega)
      have hp64 : 2 ^ s < 18446744073709551616 := by
        have h2 : (2 : Nat) ^ s < 2 ^ 64 := Nat.pow_lt_pow_right (by decide) (by omega)
        have h3 : (2 : Nat) ^ 64 = 18446744073709551616 := by decide
        omega
      go_upto_region 8 with fail
      go_cut [11, 12] (fun s11 s12 wx => ∃ g, s11 = .pointer (some ⟨g, 0, none⟩) ∧ Blk2 wx g (hiZ (timesU b (2 ^ s))) (loZ (timesU b (2 ^ s))) ∧ RatInv w wx g1 g2 g3 a b A o (s + 1))
      case first =>
        go_region_held3 (fun w' => w'.cell? ⟨g1, 0, none⟩ = some (.int .u64 (hiZ b)) ∧ w'.cell? ⟨g1, 1, none⟩ = some (.int .u64 (loZ b))) (first | exact ⟨by assumption, by assumption⟩ | exact ⟨by (rw [World.cell?_setCell_other _ _ _ _ (by simp <;> omega), World.cell?_setCell_other _ _ _ _ (by simp <;> omega)]; assumption), by (rw [World.cell?_setCell_other _ _ _ _ (by simp <;> omega), World.cell?_setCell_other _ _ _ _ (by simp <;> omega)]; assumption)⟩ | go_keep) (first
          | (go_at_call 11; refine (times_zb (a := b) (k := 2 ^ s) (kz := bitZ s) rfl hp64 _).mono ?_; rintro e wx ⟨rfl, hbx⟩; have RX : RatInv w wx g1 g2 g3 a b A o (s + 1) := (by refine RatInv.keep ?_ hbx; repeat' (first | (with_reducible exact HI'.out) | (with_reducible refine RatInv.drew ?_) | (with_reducible refine RatInv.alloc ?_ _))); have k0 := RX.rb.c0; have k1 := RX.rb.c1; have m0 := RX.ra.lt; have m1 := RX.rb.lt; have m2 := RX.r2.lt; have m3 := RX.r3.lt; obtain ⟨hc2, hf2⟩ := bcell hbx; have hs2 := hbx.size; have HBX := Lib.hid hbx; clear hbx))
        all_goals
          go_wp2_with fail
          go_meet
          refine ⟨_, rfl, ?_, ?_⟩
          · first
            | exact Blk2.new _ _ _
            | (refine Blk2.set (h := 0) (l := 0) (Blk2.keep ?_ HBX.out) _ _; repeat' (first | ((with_reducible refine Blk2.new_at _ _ ?_); (simp; done)) | (with_reducible refine Blk2.drew ?_) | (with_reducible refine Blk2.alloc ?_ _)))
          · have hsz := HI'.out.below.size
            have w0 := HI'.out.ra.lt; have w1 := HI'.out.rb.lt; have w2 := HI'.out.r2.lt; have w3 := HI'.out.r3.lt
            first
            | exact RX.alloc _
            | exact (RX.other _ _ _ (by omega) (by omega) (by omega) (by omega) (by omega)).other _ _ _ (by omega) (by omega) (by omega) (by omega) (by omega)
      case rest =>
        obtain ⟨g, rfl, kp, hR⟩ := hcut
        have HR := Lib.hid hR
        have ca := hR.ra.c0; have da := hR.ra.c1; have la := hR.ra.lt
        have cp := kp.c0; have dp := kp.c1
        have hPn := part_n (hR.fit s (by omega))
        clear hR kp
        go_upto_region 10 with (go_at_call 9; refine (sub_any _ _ _).mono ?_; rintro e w2 ⟨rfl, hb2⟩)
        have HR2 := Lib.hid (HR.out.keep hb2)
        have ca2 := HR2.out.ra.c0; have da2 := HR2.out.ra.c1; have fa2 := HR2.out.ra.f0; have ga2 := HR2.out.ra.f1; have la2 := HR2.out.ra.lt
        have hor := or_bit HR.out.inv hb (by omega)
        clear hb2 ca da la cp dp
        by_cases hle : (timesU b (2 ^ s)).n ≤ A.n
        · have hE : (subE A (timesU b (2 ^ s)) == 0) = true := by unfold subE; rw [if_neg (by omega)]; rfl
          have HT := Lib.hid (HR.out.inv.take (A' := subU A (timesU b (2 ^ s))) (by rw [← hPn]; exact hle) (by show A.n - (timesU b (2 ^ s)).n = _; rw [hPn]))
          clear hle
          go_wp2_with fail
          go_roundg s
          case measure => have := HGG.out; omega
          case rel =>
            have h := HR2.out
            have hb' := h.below; have hz' := hb'.size
            refine ⟨subU A (timesU b (2 ^ s)), o + 2 ^ s, (s : Int) - 1, by omega, by omega, rfl, rfl, ?_⟩
            rw [show ((s : Int) - 1 + 1).toNat = s by omega]
            exact ⟨by go_grown, (h.ra.set _ _).alloc _, ((h.rb.other _ _ (by simp <;> omega)).other _ _ (by simp <;> omega)).alloc _, ((h.r2.other _ _ (by simp <;> omega)).other _ _ (by simp <;> omega)).alloc _, ((h.r3.other _ _ (by simp <;> omega)).other _ _ (by simp <;> omega)).alloc _, HT.out, fun t ht => h.fit t (by omega), by omega⟩
        · have hE : (subE A (timesU b (2 ^ s)) == 0) = false := by unfold subE; rw [if_pos (by omega)]; rfl
          have HT := Lib.hid (HR.out.inv.skip (by rw [← hPn]; omega))
          clear hle
          go_wp2_with fail
          go_roundg s
          case measure => have := HGG.out; omega
          case rel =>
            have h := HR2.out
            have hb' := h.below; have hz' := hb'.size
            refine ⟨A, o, (s : Int) - 1, by omega, by omega, rfl, rfl, ?_⟩
            rw [show ((s : Int) - 1 + 1).toNat = s by omega]
            exact ⟨by go_grown, h.ra.alloc _, h.rb.alloc _, h.r2.alloc _, h.r3.alloc _, HT.out, fun t ht => h.fit t (by omega), by omega⟩
    · have HI' : Hid (RatInv w wr g1 g2 g3 a b A o 0) := (by have h := HI.out; rw [show (z + 1).toNat = 0 by omega] at h; exact h)
      obtain ⟨e1, e2⟩ := HI'.out.inv.done
      have hd : hiZ (divW a b) = 0 ∧ loZ (divW a b) = (o : Int) := by
        refine halves_of ?_ (by omega) (by have := HI'.out.inv.small hb; omega)
        show ((a.n / b.n : Nat) : Int) = _
        rw [← e2]
        omega
      have HD := Lib.hid hd
      have HE := Lib.hid e1
      have i4 : g2 ≠ g3 := by omega
      have hz2 : w.heap.size ≤ g2 := by omega
      have hz3 : w.heap.size ≤ g3 := by omega
      clear hd e1 e2
      go_upto_region 13 with fail
      go_region_with ((go_at_call 18; refine (of_any _ _).mono ?_; rintro e w7 ⟨rfl, rfl⟩))
      all_goals
        have kr := HI'.out.r2
        have ks := HI'.out.r3
        have q2 := (((kr.set 0 (o : Int)).other ⟨g3, 0, none⟩ (.int .u64 (hiZ A)) i4).other ⟨g3, 1, none⟩ (.int .u64 (loZ A)) i4)
        have q3 := (((ks.other ⟨g2, 0, none⟩ (.int .u64 0) i4.symm).other ⟨g2, 1, none⟩ (.int .u64 (o : Int)) i4.symm).set (hiZ A) (loZ A))
        have q2' := (q2.alloc (.cells #[.int .u64 0, .int .u64 (o : Int)] 24)).drew
        have q3' := (q3.alloc (.cells #[.int .u64 0, .int .u64 (o : Int)] 24)).drew
        have U0 := Lib.hid q2'.c0; have U1 := Lib.hid q2'.c1; have U2 := Lib.hid q3'.c0; have U3 := Lib.hid q3'.c1
        clear kr ks q2 q3 q2' q3'
        go_wp2_with fail
        have u0 := U0.out; have u1 := U1.out; have u2 := U2.out; have u3 := U3.out
        refine bodyPost_ret (v := .tuple #[.agg #[.int .u64 0, .int .u64 (o : Int)], .agg #[.int .u64 (hiZ A), .int .u64 (loZ A)]]) (by simp [results, Tryd.results48, go_sem, u0, u1, u2, u3]) rfl ?_
        have hb' := HI'.out.below; have hz' := hb'.size
        exact ⟨ww_eq HD.out.1.symm HD.out.2.symm (by rw [HE.out]) (by rw [HE.out]), by go_grown⟩

theorem divide_any (a b : U) (hb : b.n ≠ 0) (w : World) :
    Calls Tryd.prog 48 #[.agg #[.int .u64 (hiZ a), .int .u64 (loZ a)], .agg #[.int .u64 (hiZ b), .int .u64 (loZ b)]] w fun e w' =>
      e = .returned (.tuple #[.agg #[.int .u64 (hiZ (divW a b)), .int .u64 (loZ (divW a b))], .agg #[.int .u64 (hiZ (modW a b)), .int .u64 (loZ (modW a b))]]) ∧ Below w.heap.size w w' := by
  by_cases h : b.n < 18446744073709551616
  · exact divide_lo a b hb h w
  · exact divide_hi a b (by omega) w
end Go.Proofs.YtnbchhjanlpdlaaDoor
