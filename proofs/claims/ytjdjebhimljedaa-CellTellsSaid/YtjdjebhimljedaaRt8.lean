/-
  WALKS: plimsollref01.Times: so often, by the number's bits.
-/
import Derived.Test.YtjdjebhimljedaaRa
import Derived.Test.YtjdjebhimljedaaNu
namespace Go.Proofs.Ytjdjebhimljedaa
open Go Go.RowKit

/-- What holds at a round's head: t is a, doubled as often as there were rounds; m is what is left of n. -/
structure TimesInv (w wr : World) (pa po pr : Nat) (a x y : U) (k m t : Nat) (over : Bool) : Prop where
  below : Below w.heap.size w wr
  ra : Blk2 wr pa (hiZ x) (loZ x)
  ro : Blk2 wr po (hiZ y) (loZ y)
  rr : Blk2 wr pr 0 0
  whole : a.n * k = y.n + m * t
  same : over = false → x.n = t
  much : over = true → 340282366920938463463374607431768211456 ≤ t
theorem timesInv_start {w w0 : World} {pa po pr : Nat} {a : U} {k : Nat} (hw0 : w0 = ((w.alloc (.cells #[.int .u64 (hiZ a), .int .u64 (loZ a)] 26)).alloc (.cells #[.int .u64 0, .int .u64 0] 26)).alloc (.cells #[.int .u64 0, .int .u64 0] 26)) (hpa : pa = w.heap.size) (hpr : pr = w.heap.size + 1) (hpo : po = w.heap.size + 1 + 1) :
    TimesInv w w0 pa po pr a a U.zero k k a.n false := by
  subst hw0 hpa hpr hpo
  exact ⟨by go_grown, ((Blk2.new_at _ _ rfl).alloc _).alloc _, Blk2.new_at _ _ (by simp), (Blk2.new_at _ _ (by simp)).alloc _, by rw [Nat.mul_comm]; exact (Nat.zero_add _).symm, fun _ => rfl, nofun⟩
theorem whole_odd {ak y m t : Nat} (h : ak = y + m * t) (hm : m % 2 = 1) : ak = y + t + m / 2 * (t + t) := by
  have e : m = m / 2 * 2 + 1 := by omega
  rw [h, e, Nat.add_mul, Nat.mul_assoc, Nat.two_mul]
  have : (m / 2 * 2 + 1) / 2 = m / 2 := by omega
  rw [this]; omega
theorem whole_even {ak y m t : Nat} (h : ak = y + m * t) (hm : m % 2 = 0) : ak = y + m / 2 * (t + t) := by
  have e : m = m / 2 * 2 := by omega
  rw [h, ← Nat.two_mul, ← Nat.mul_assoc, ← e]
theorem whole_ge {ak y m t : Nat} (h : ak = y + m * t) (hm : m % 2 = 1) : y + t ≤ ak := by rw [whole_odd h hm]; omega
theorem over_next {x : U} {t : Nat} (h : x.n = t) : ((addE x x != 0) = false → (addU x x).n = t + t) ∧ ((addE x x != 0) = true → 340282366920938463463374607431768211456 ≤ t + t) := by
  rw [← h]
  rcases Nat.lt_or_ge (x.n + x.n) 340282366920938463463374607431768211456 with hl | hl
  · refine ⟨fun _ => addU_n hl, fun e => ?_⟩
    rw [show addE x x = 0 from cutE_lt hl] at e; cases e
  · exact ⟨fun e => absurd e (by rw [show addE x x = 1 from cutE_ge hl]; decide), fun _ => hl⟩

set_option maxHeartbeats 4000000 in
set_option maxRecDepth 100000 in
theorem rtimes (a : U) (k : Nat) (hk : k < 18446744073709551616) (w : World) :
    Calls Try.prog 28 #[.agg #[.int .u64 (hiZ a), .int .u64 (loZ a)], .int .u64 k] w fun e w' =>
      e = .returned (.tuple #[.agg #[.int .u64 (hiZ (timesU a k)), .int .u64 (loZ (timesU a k))], .int .i64 (timesE a k)]) ∧ Below w.heap.size w w' := by
  obtain ⟨pa, hpa⟩ : ∃ g, g = w.heap.size := ⟨_, rfl⟩
  obtain ⟨pr, hpr⟩ : ∃ g, g = w.heap.size + 1 := ⟨_, rfl⟩
  obtain ⟨po, hpo⟩ : ∃ g, g = w.heap.size + 1 + 1 := ⟨_, rfl⟩
  have hg1 : pa ≠ po := by omega
  have hg2 : pr ≠ po := by omega
  have hg3 : pa ≠ pr := by omega
  have hle1 : w.heap.size ≤ pa := by omega
  have hle2 : w.heap.size ≤ po := by omega
  have hle3 : w.heap.size ≤ pr := by omega
  obtain ⟨w0, hw0⟩ : ∃ w0, w0 = ((w.alloc (.cells #[.int .u64 (hiZ a), .int .u64 (loZ a)] 26)).alloc (.cells #[.int .u64 0, .int .u64 0] 26)).alloc (.cells #[.int .u64 0, .int .u64 0] 26) := ⟨_, rfl⟩
  have HI := Lib.hid (timesInv_start (k := k) hw0 hpa hpr hpo)
  go_enter Try.func28, Try.ntmps28
  go_upto_region 2 with fail
  rw [← hw0, ← hpo, ← hpr, ← hpa]
  clear hw0 hpo hpr hpa
  go_wp2_with fail
  go_loopw [1, 8] (fun n ov wr => ∃ (m t : Nat) (x y : U) (over : Bool), m ≤ k ∧ n = .int .u64 m ∧ ov = .bool over ∧ TimesInv w wr pa po pr a x y k m t over) (fun n _ _ => (intOf n).toNat)
  case atStart => exact ⟨k, a.n, a, U.zero, false, by omega, rfl, rfl, HI.out⟩
  case round =>
    obtain ⟨m, t, x, y, over, hmk, rfl, rfl, hI⟩ := hrel
    clear HI
    have HI := Lib.hid hI
    clear hI
    have hm2 : (m : Int) ≤ 18446744073709551615 := by omega
    have a0 := HI.out.ra.c0
    have a1 := HI.out.ra.c1
    have af0 := HI.out.ra.f0
    have af1 := HI.out.ra.f1
    have o0 := HI.out.ro.c0
    have o1 := HI.out.ro.c1
    have of0 := HI.out.ro.f0
    have of1 := HI.out.ro.f1
    have r0 := HI.out.rr.c0
    have r1 := HI.out.rr.c1
    have rf0 := HI.out.rr.f0
    have rf1 := HI.out.rr.f1
    by_cases hm : m = 0
    · subst hm
      have HX := Lib.hid (HI.out.rr.set (hiZ y) (loZ y))
      go_wp2_with fail
      have x0 := HX.out.c0
      have x1 := HX.out.c1
      refine bodyPost_ret (v := .tuple #[.agg #[.int .u64 (hiZ y), .int .u64 (loZ y)], .int .i64 0]) (by simp [results, Try.results28, go_sem, x0, x1]) rfl ?_
      have hy : a.n * k = y.n := by have := HI.out.whole; simpa using this
      have hlt : a.n * k < 340282366920938463463374607431768211456 := by rw [hy]; exact y.lt
      have e : timesU a k = y := U.ext (by unfold timesU; rw [cutU_n hlt, hy])
      exact ⟨we_eq' (by rw [e]) (by rw [e]) (cutE_lt hlt).symm, (HI.out.below.setCell (p := ⟨pr, 0, none⟩) hle3 _).setCell (p := ⟨pr, 1, none⟩) hle3 _⟩
    · have hm0 : (0 : Int) < (m : Int) := by omega
      rcases Nat.mod_two_eq_zero_or_one m with he | ho
      · have he2 : (m : Int) % 2 = 0 := by omega
        have HE := Lib.hid he
        clear he
        cases over with
        | true =>
          have HA1 := Lib.hid HI.out.ra
          have HO1 := Lib.hid HI.out.ro
          have HR1 := Lib.hid HI.out.rr
          have HB1 := Lib.hid HI.out.below
          go_wp2_with fail
          clear a0 a1 af0 af1 o0 o1 of0 of1 r0 r1 rf0 rf1
          refine (radd x x _).mono ?_
          rintro e w2 ⟨rfl, hb2⟩
          have hA2 := HA1.out.keep hb2
          have hO2 := HO1.out.keep hb2
          have hR2 := HR1.out.keep hb2
          have hB2 := below_of HB1.out hb2
          have a0 := hA2.c0
          have a1 := hA2.c1
          have af0 := hA2.f0
          have af1 := hA2.f1
          have hla := hA2.lt
          have hlo := hO2.lt
          have hlr := hR2.lt
          have HA2 := Lib.hid hA2
          have HO2 := Lib.hid hO2
          have HR2 := Lib.hid hR2
          have HB2 := Lib.hid hB2
          clear hA2 hO2 hR2 hB2 hb2
          go_wp2_with fail
          go_roundw
          case rel =>
            refine ⟨m / 2, t + t, addU x x, y, true, by omega, by go_num, ?_, ?_⟩
            · first | rfl | (go_num) | simp
            · have b2 := HB2.out
              have hla2 := HA2.out.lt
              have hz2 := b2.size
              refine ⟨?_, ?_, ?_, ?_, whole_even HI.out.whole HE.out, nofun, fun _ => by have := HI.out.much rfl; omega⟩
              · exact ((b2.setCell (p := ⟨pa, 0, none⟩) hle1 _).setCell (p := ⟨pa, 1, none⟩) hle1 _).alloc (by simpa using hz2) _
              · exact (HA2.out.set _ _).alloc _
              · exact ((HO2.out.other _ _ (Ne.symm hg1)).other _ _ (Ne.symm hg1)).alloc _
              · exact ((HR2.out.other _ _ (Ne.symm hg3)).other _ _ (Ne.symm hg3)).alloc _
          case measure => simp [intOf] <;> omega
        | false =>
          have HA1 := Lib.hid HI.out.ra
          have HO1 := Lib.hid HI.out.ro
          have HR1 := Lib.hid HI.out.rr
          have HB1 := Lib.hid HI.out.below
          have HN := Lib.hid (over_next (HI.out.same rfl))
          go_wp2_with fail
          clear a0 a1 af0 af1 o0 o1 of0 of1 r0 r1 rf0 rf1
          refine (radd x x _).mono ?_
          rintro e w2 ⟨rfl, hb2⟩
          have hA2 := HA1.out.keep hb2
          have hO2 := HO1.out.keep hb2
          have hR2 := HR1.out.keep hb2
          have hB2 := below_of HB1.out hb2
          have a0 := hA2.c0
          have a1 := hA2.c1
          have af0 := hA2.f0
          have af1 := hA2.f1
          have hla := hA2.lt
          have hlo := hO2.lt
          have hlr := hR2.lt
          have HA2 := Lib.hid hA2
          have HO2 := Lib.hid hO2
          have HR2 := Lib.hid hR2
          have HB2 := Lib.hid hB2
          clear hA2 hO2 hR2 hB2 hb2
          go_wp2_with fail
          go_roundw
          case rel =>
            refine ⟨m / 2, t + t, addU x x, y, (addE x x != 0), by omega, by go_num, ?_, ?_⟩
            · first | rfl | (go_num) | simp
            · have b2 := HB2.out
              have hla2 := HA2.out.lt
              have hz2 := b2.size
              refine ⟨?_, ?_, ?_, ?_, whole_even HI.out.whole HE.out, HN.out.1, HN.out.2⟩
              · exact ((b2.setCell (p := ⟨pa, 0, none⟩) hle1 _).setCell (p := ⟨pa, 1, none⟩) hle1 _).alloc (by simpa using hz2) _
              · exact (HA2.out.set _ _).alloc _
              · exact ((HO2.out.other _ _ (Ne.symm hg1)).other _ _ (Ne.symm hg1)).alloc _
              · exact ((HR2.out.other _ _ (Ne.symm hg3)).other _ _ (Ne.symm hg3)).alloc _
          case measure => simp [intOf] <;> omega
      · have ho2 : (m : Int) % 2 = 1 := by omega
        have HE := Lib.hid ho
        clear ho
        cases over with
        | true =>
          have HX := Lib.hid (HI.out.rr.set 0 0)
          go_wp2_with fail
          have x0 := HX.out.c0
          have x1 := HX.out.c1
          refine bodyPost_ret (v := .tuple #[.agg #[.int .u64 0, .int .u64 0], .int .i64 1]) (by simp [results, Try.results28, go_sem, x0, x1]) rfl ?_
          have hge : 340282366920938463463374607431768211456 ≤ a.n * k := by have h1 := whole_ge HI.out.whole HE.out; have h2 := HI.out.much rfl; omega
          have e : timesU a k = U.zero := cutU_ge hge
          exact ⟨we_eq' (by rw [e]; rfl) (by rw [e]; rfl) (cutE_ge hge).symm, (HI.out.below.setCell (p := ⟨pr, 0, none⟩) hle3 _).setCell (p := ⟨pr, 1, none⟩) hle3 _⟩
        | false =>
          have HN := Lib.hid (over_next (HI.out.same rfl))
          have HT := Lib.hid (HI.out.same rfl)
          by_cases hov : y.n + x.n < 340282366920938463463374607431768211456
          · have hE : addE y x = 0 := cutE_lt hov
            have HYN := Lib.hid (addU_n hov)
            clear hov
            go_wp2_with fail
            refine (radd y x _).mono ?_
            rintro e w1 ⟨rfl, hb1⟩
            clear a0 a1 af0 af1 o0 o1 of0 of1 r0 r1 rf0 rf1
            have hA := HI.out.ra.keep hb1
            have hO := HI.out.ro.keep hb1
            have hR := HI.out.rr.keep hb1
            have hB := below_of HI.out.below hb1
            have a0 := hA.c0
            have a1 := hA.c1
            have o0 := hO.c0
            have o1 := hO.c1
            have of0 := hO.f0
            have of1 := hO.f1
            have HA1 := Lib.hid ((hA.other ⟨po, 0, none⟩ (.int .u64 (hiZ (addU y x))) hg1).other ⟨po, 1, none⟩ (.int .u64 (loZ (addU y x))) hg1)
            have HO1 := Lib.hid (hO.set (hiZ (addU y x)) (loZ (addU y x)))
            have HR1 := Lib.hid ((hR.other ⟨po, 0, none⟩ (.int .u64 (hiZ (addU y x))) hg2).other ⟨po, 1, none⟩ (.int .u64 (loZ (addU y x))) hg2)
            have HB1 : Hid (Below w.heap.size w ((w1.setCell ⟨po, 0, none⟩ (.int .u64 (hiZ (addU y x)))).setCell ⟨po, 1, none⟩ (.int .u64 (loZ (addU y x))))) := (hB.setCell (p := ⟨po, 0, none⟩) hle2 _).setCell (p := ⟨po, 1, none⟩) hle2 _
            clear hA hO hR hB hb1
            go_wp2_with fail
            clear a0 a1 o0 o1 of0 of1
            refine (radd x x _).mono ?_
            rintro e w2 ⟨rfl, hb2⟩
            have hA2 := HA1.out.keep hb2
            have hO2 := HO1.out.keep hb2
            have hR2 := HR1.out.keep hb2
            have hB2 := below_of HB1.out hb2
            have a0 := hA2.c0
            have a1 := hA2.c1
            have af0 := hA2.f0
            have af1 := hA2.f1
            have hla := hA2.lt
            have hlo := hO2.lt
            have hlr := hR2.lt
            have HA2 := Lib.hid hA2
            have HO2 := Lib.hid hO2
            have HR2 := Lib.hid hR2
            have HB2 := Lib.hid hB2
            clear hA2 hO2 hR2 hB2 hb2
            go_wp2_with fail
            go_roundw
            case rel =>
              refine ⟨m / 2, t + t, addU x x, addU y x, (addE x x != 0), by omega, by go_num, ?_, ?_⟩
              · first | rfl | (go_num) | simp
              · have b2 := HB2.out
                have hla2 := HA2.out.lt
                have hz2 := b2.size
                refine ⟨?_, ?_, ?_, ?_, by rw [HYN.out, HT.out]; exact whole_odd HI.out.whole HE.out, HN.out.1, HN.out.2⟩
                · exact ((b2.setCell (p := ⟨pa, 0, none⟩) hle1 _).setCell (p := ⟨pa, 1, none⟩) hle1 _).alloc (by simpa using hz2) _
                · exact (HA2.out.set _ _).alloc _
                · exact ((HO2.out.other _ _ (Ne.symm hg1)).other _ _ (Ne.symm hg1)).alloc _
                · exact ((HR2.out.other _ _ (Ne.symm hg3)).other _ _ (Ne.symm hg3)).alloc _
            case measure => simp [intOf] <;> omega
          · have hE : addE y x = 1 := cutE_ge (Nat.le_of_not_lt hov)
            have HOV := Lib.hid (Nat.le_of_not_lt hov)
            clear hov
            go_wp2_with fail
            refine (radd y x _).mono ?_
            rintro e w1 ⟨rfl, hb1⟩
            clear a0 a1 af0 af1 o0 o1 of0 of1 r0 r1 rf0 rf1
            have hO := HI.out.ro.keep hb1
            have hR := HI.out.rr.keep hb1
            have hB := below_of HI.out.below hb1
            have o0 := hO.c0
            have o1 := hO.c1
            have of0 := hO.f0
            have of1 := hO.f1
            have r0 := hR.c0
            have r1 := hR.c1
            have rf0 := hR.f0
            have rf1 := hR.f1
            have HX := Lib.hid (((hR.other ⟨po, 0, none⟩ (.int .u64 (hiZ (addU y x))) hg2).other ⟨po, 1, none⟩ (.int .u64 (loZ (addU y x))) hg2).set 0 0)
            have HB1 := Lib.hid hB
            clear hO hR hB hb1
            go_wp2_with fail
            have x0 := HX.out.c0
            have x1 := HX.out.c1
            refine bodyPost_ret (v := .tuple #[.agg #[.int .u64 0, .int .u64 0], .int .i64 1]) (by simp [results, Try.results28, go_sem, x0, x1]) rfl ?_
            have hge : 340282366920938463463374607431768211456 ≤ a.n * k := by have h1 := whole_ge HI.out.whole HE.out; have h2 := HT.out; have h3 := HOV.out; omega
            have e : timesU a k = U.zero := cutU_ge hge
            exact ⟨we_eq' (by rw [e]; rfl) (by rw [e]; rfl) (cutE_ge hge).symm, (((HB1.out.setCell (p := ⟨po, 0, none⟩) hle2 _).setCell (p := ⟨po, 1, none⟩) hle2 _).setCell (p := ⟨pr, 0, none⟩) hle3 _).setCell (p := ⟨pr, 1, none⟩) hle3 _⟩
end Go.Proofs.Ytjdjebhimljedaa
