/-
  WALKS: plimsollref02.Whole: how often a number goes into another one, and what is left: bit by bit.
-/
import Derived.Test.YtnbchhjanlpdlaaDoorRv
import Derived.Test.YtnbchhjanlpdlaaDoorText
import Derived.Deep.LoopGhost
import Derived.Deep.DeepCutAuto
namespace Go.Proofs.YtnbchhjanlpdlaaDoor
open Go Go.RowKit

/-- The number, the divisor, what is left of the higher bits; what is had so far. -/
structure WholeInv (w wr : World) (po pl px pd p1 p2 : Nat) (a D l : U) (O : Nat) : Prop where
  below : Below w.heap.size w wr
  ro : Blk16 wr po (byf O)
  rl : Blk2 wr pl (hiZ l) (loZ l)
  rx : Blk16 wr px (byf a.n)
  rd : Blk2 wr pd (hiZ D) (loZ D)
  r1 : Blk2 wr p1 0 0
  r2 : Blk2 wr p2 0 0
theorem range16 {w : World} {g : Nat} {f : Nat → Int} (h : Blk16 w g f) : w.rangeAt g 0 (A16 f).toList := fun j v hv => by
  have hj : j < 16 := (List.getElem?_eq_some_iff.1 hv).1
  have e := A16_get f j hj
  rw [Nat.zero_add, h.cell hj, ← e]
  simpa using hv
/-- What holds when these operations of the end have come up. -/
structure EndJ (w : World) (po pl p1 p2 : Nat) (Q R : U) (W : World) (b0 b1 b2 b3 b4 : Bool) (x0 x1 x2 : Value) : Prop where
  below : Below w.heap.size w W
  ro : Blk16 W po (byf Q.n)
  rl : Blk2 W pl (hiZ R) (loZ R)
  r1 : ∃ h l, Blk2 W p1 h l ∧ (b3 = true → h = hiZ Q ∧ l = loZ Q)
  r2 : ∃ h l, Blk2 W p2 h l ∧ (b4 = true → h = hiZ R ∧ l = loZ R)
  e0 : b0 = true → x0 = .agg (A16 (byf Q.n))
  e1 : b1 = true → x1 = .agg #[.int .u64 (hiZ Q), .int .u64 (loZ Q)]
  e2 : b2 = true → x2 = .agg #[.int .u64 (hiZ R), .int .u64 (loZ R)]
def wholeQ (a D : U) : U := ⟨a.n / D.n, Nat.lt_of_le_of_lt (Nat.div_le_self _ _) a.lt⟩
def wholeR (a D : U) : U := ⟨a.n % D.n, Nat.lt_of_le_of_lt (Nat.mod_le _ _) a.lt⟩
theorem we2 {a b c d a' b' c' d' : Int} (h1 : a = a') (h2 : b = b') (h3 : c = c') (h4 : d = d') : Ending.returned (.tuple #[.agg #[.int .u64 a, .int .u64 b], .agg #[.int .u64 c, .int .u64 d]]) = Ending.returned (.tuple #[.agg #[.int .u64 a', .int .u64 b'], .agg #[.int .u64 c', .int .u64 d']]) := by rw [h1, h2, h3, h4]

set_option maxHeartbeats 8000000 in
set_option maxRecDepth 100000 in
theorem rwhole (a D : U) (hD0 : D.n ≠ 0) (w : World) :
    Calls Tryd.prog 49 #[.agg #[.int .u64 (hiZ a), .int .u64 (loZ a)], .agg #[.int .u64 (hiZ D), .int .u64 (loZ D)]] w fun e w' =>
      e = .returned (.tuple #[.agg #[.int .u64 (hiZ (wholeQ a D)), .int .u64 (loZ (wholeQ a D))], .agg #[.int .u64 (hiZ (wholeR a D)), .int .u64 (loZ (wholeR a D))]]) ∧ Below w.heap.size w w' := by
  have hk0 : 0 < D.n := Nat.pos_of_ne_zero hD0
  have hne := eql_no (x := hiZ D) (y := loZ D) (x' := 0) (y' := 0) (fun h => hD0 (by
    have := D.val
    rw [h.1, h.2] at this
    omega))
  obtain ⟨pa, hpa⟩ : ∃ g, g = w.heap.size := ⟨_, rfl⟩
  obtain ⟨pd, hpd⟩ : ∃ g, g = w.heap.size + 1 := ⟨_, rfl⟩
  obtain ⟨p1, hp1⟩ : ∃ g, g = w.heap.size + 1 + 1 := ⟨_, rfl⟩
  obtain ⟨p2, hp2⟩ : ∃ g, g = w.heap.size + 1 + 1 + 1 := ⟨_, rfl⟩
  obtain ⟨po, hpo⟩ : ∃ g, g = w.heap.size + 1 + 1 + 1 + 1 := ⟨_, rfl⟩
  obtain ⟨pl, hpl⟩ : ∃ g, g = w.heap.size + 1 + 1 + 1 + 1 + 1 := ⟨_, rfl⟩
  go_enter Tryd.func49, Tryd.ntmps49
  go_upto_region 5 with fail
  obtain ⟨w0, hw0⟩ : ∃ w0, w0 = (((((w.alloc (.cells #[.int .u64 (hiZ a), .int .u64 (loZ a)] 24)).alloc (.cells #[.int .u64 (hiZ D), .int .u64 (loZ D)] 24)).alloc (.cells #[.int .u64 0, .int .u64 0] 24)).alloc (.cells #[.int .u64 0, .int .u64 0] 24)).alloc (.cells (A16 z16) 54)).alloc (.cells #[.int .u64 0, .int .u64 0] 24) := ⟨_, rfl⟩
  have hA : Blk2 w0 pa (hiZ a) (loZ a) := by rw [hw0]; exact (((((Blk2.new_at _ _ hpa).alloc _).alloc _).alloc _).alloc _).alloc _
  have HD := Lib.hid (show Blk2 w0 pd (hiZ D) (loZ D) by rw [hw0]; exact ((((Blk2.new_at _ _ (by simp [hpd])).alloc _).alloc _).alloc _).alloc _)
  have H1 := Lib.hid (show Blk2 w0 p1 0 0 by rw [hw0]; exact (((Blk2.new_at _ _ (by simp [hp1])).alloc _).alloc _).alloc _)
  have H2 := Lib.hid (show Blk2 w0 p2 0 0 by rw [hw0]; exact ((Blk2.new_at _ _ (by simp [hp2])).alloc _).alloc _)
  have HO := Lib.hid (show Blk16 w0 po z16 by rw [hw0]; exact (Blk16.new_at _ _ (by simp [hpo])).alloc _)
  have HL := Lib.hid (show Blk2 w0 pl 0 0 by rw [hw0]; exact Blk2.new_at _ _ (by simp [hpl]))
  have HB := Lib.hid (show Below w.heap.size w w0 by rw [hw0]; go_grown)
  simp only [A16, z16] at hw0
  rw [← hw0, ← hpl, ← hpo, ← hp2, ← hp1, ← hpd, ← hpa]
  have HG := Lib.hid (show w.heap.size ≤ pl by omega)
  have HGS := Lib.hid (show w.heap.size ≤ po ∧ w.heap.size ≤ p1 ∧ w.heap.size ≤ p2 by omega)
  have h_O : po ≠ pl := by omega
  have h_D : pd ≠ pl := by omega
  have h_1 : p1 ≠ pl := by omega
  have h_2 : p2 ≠ pl := by omega
  have h_DO : pd ≠ po := by omega
  have h_1O : p1 ≠ po := by omega
  have h_2O : p2 ≠ po := by omega
  have h_12 : p1 ≠ p2 := by omega
  clear hw0 hpl hpo hp2 hp1 hpd hpa
  have a0 := hA.c0
  have a1 := hA.c1
  clear hA
  go_wp2_with fail
  refine (rbytes a _).mono ?_
  rintro e w1 ⟨rfl, hb⟩
  have hO := HO.out.keep hb
  have hL := HL.out.keep hb
  have hD := HD.out.keep hb
  have h1 := H1.out.keep hb
  have h2 := H2.out.keep hb
  have hB := below_of HB.out hb
  clear a0 a1 hb
  go_upto_region 6 with fail
  obtain ⟨px, hpx⟩ : ∃ g, g = w1.heap.size := ⟨_, rfl⟩
  obtain ⟨w2, hw2⟩ : ∃ w2, w2 = w1.alloc (.cells (A16 (byf a.n)) 54) := ⟨_, rfl⟩
  have hI0 : WholeInv w w2 po pl px pd p1 p2 a D U.zero 0 := by
    rw [hw2]
    exact ⟨hB.alloc hB.size _, (hO.congr (fun j _ => by unfold z16 byf byt; simp)).alloc _, hL.alloc _, Blk16.new_at _ _ hpx, hD.alloc _, h1.alloc _, h2.alloc _⟩
  have HI0 := Lib.hid hI0
  have h_X : px ≠ pl := by have := hL.lt; omega
  have h_XO : px ≠ po := by have := hO.lt; omega
  simp only [A16] at hw2
  rw [← hw2, ← hpx]
  clear hw2 hpx hI0 hO hL hD h1 h2 hB HO HL HD H1 H2 HB
  go_wp2_with fail
  go_loopw [9] (fun i wr => ∃ (l : U) (O : Nat), (∃ j : Nat, j < 128 ∧ i = .int .i64 j ∧ l.n = a.n / 2 ^ (j + 1) % D.n ∧ O = a.n / 2 ^ (j + 1) / D.n * 2 ^ (j + 1) ∧ WholeInv w wr po pl px pd p1 p2 a D l O) ∨ (i = .int .i64 (-1) ∧ l.n = a.n % D.n ∧ O = a.n / D.n ∧ WholeInv w wr po pl px pd p1 p2 a D l O)) (fun i _ => (intOf i + 1).toNat)
  case atStart => exact ⟨U.zero, 0, Or.inl ⟨127, by omega, rfl, by have := a.lt; rw [Nat.div_eq_of_lt (show a.n < 2 ^ 128 by omega), Nat.zero_mod]; rfl, by have := a.lt; rw [Nat.div_eq_of_lt (show a.n < 2 ^ 128 by omega), Nat.zero_div, Nat.zero_mul], HI0.out⟩⟩
  case round =>
    obtain ⟨l, O, hrel⟩ := hrel
    clear HI0
    rcases hrel with ⟨j, hj, rfl, hleft, hhad, hI⟩ | ⟨rfl, hleft, hhad, hI⟩
    · have LE := Lib.hid hleft
      have HAD := Lib.hid hhad
      have IO := Lib.hid hI.ro
      have IL := Lib.hid hI.rl
      have IX := Lib.hid hI.rx
      have ID := Lib.hid hI.rd
      have I1 := Lib.hid hI.r1
      have I2 := Lib.hid hI.r2
      have IB := Lib.hid hI.below
      clear hI hleft hhad
      obtain ⟨bit, hbit⟩ : ∃ b, b = a.n / 2 ^ j % 2 := ⟨_, rfl⟩
      have hb2 : bit < 2 := by omega
      have hlD : l.n < D.n := by rw [LE.out]; exact Nat.mod_lt _ hk0
      obtain ⟨B, hB⟩ : ∃ B : U, B.n = bit := ⟨⟨bit, by omega⟩, rfl⟩
      have hB0 : (0 : Int) = hiZ B := by unfold hiZ; omega
      have hB1 : (bit : Int) = loZ B := by unfold loZ; omega
      have HBIT := Lib.hid hbit
      have HBB := Lib.hid (And.intro hB0 hB1)
      have HBN := Lib.hid hB
      have HLD := Lib.hid hlD
      obtain ⟨i8, hi8⟩ : ∃ x, x = j / 8 := ⟨_, rfl⟩
      obtain ⟨r, hr⟩ : ∃ x, x = j % 8 := ⟨_, rfl⟩
      have hq1 : ((j : Int) / 8) = (i8 : Int) := by omega
      have hq2 : ((j : Int) % 8) = (r : Int) := by omega
      have hq3 : (j : Int).tdiv 8 = (i8 : Int) := by rw [Int.tdiv_eq_ediv_of_nonneg (by omega)]; exact hq1
      have hq4 : (j : Int).tmod 8 = (r : Int) := by rw [Int.tmod_eq_emod_of_nonneg (by omega)]; exact hq2
      have hi16 : i8 < 16 := by omega
      have hi16' : (i8 : Int) < 16 := by omega
      have hw8 : IntKind.i64.wrap (i8 : Int) = (i8 : Int) := by rw [IntKind.wrap_i64]; omega
      have hwr : IntKind.i64.wrap (r : Int) = (r : Int) := by rw [IntKind.wrap_i64]; omega
      have H16 := Lib.hid hi16
      have HI8 := Lib.hid hi8
      have HR8 := Lib.hid hr
      obtain ⟨c, hc⟩ : ∃ c, c = byt a.n i8 := ⟨_, rfl⟩
      have HC := Lib.hid hc
      have hbv : IntKind.u64.wrap (bits .and .i64 ((c : Int) / 2 ^ r) 1) = (bit : Int) := by
        rw [hc, hbit, hi8, hr]
        exact bit_val _ _
      obtain ⟨v, hv⟩ : ∃ v, v = byt O i8 := ⟨_, rfl⟩
      have HV := Lib.hid hv
      have hval : bits .or .i64 (v : Int) (wrap64 (2 ^ r)) = ((byt O (j / 8) ||| 2 ^ (j % 8) : Nat) : Int) := by rw [hv, hi8, hr]; exact bit_or O j
      have HVAL := Lib.hid hval
      clear hbit hB hB0 hB1 hlD hi8 hr hi16 hc hv hval
      by_cases hov : l.n + l.n < 340282366920938463463374607431768211456
      · have hE : addE l l = 0 := cutE_lt hov
        obtain ⟨l2, hl2⟩ : ∃ x : U, x = addU l l := ⟨_, rfl⟩
        have hl2n : l2.n = l.n + l.n := by rw [hl2]; exact addU_n hov
        obtain ⟨t, ht⟩ : ∃ x : U, x = addU l2 B := ⟨_, rfl⟩
        have htn : t.n = 2 * (a.n / 2 ^ (j + 1) % D.n) + a.n / 2 ^ j % 2 := by rw [ht, addU_n (by have := HBN.out; omega), hl2n, HBN.out, ← HBIT.out, ← LE.out]; omega
        have HL2 := Lib.hid hl2
        have HT := Lib.hid ht
        have HTN := Lib.hid htn
        clear hov hl2 hl2n ht htn
        have a0 := IL.out.c0
        have a1 := IL.out.c1
        go_wp2_with fail
        refine (radd l l _).mono ?_
        rintro e w3 ⟨rfl, hb3⟩
        have JO := Lib.hid (IO.out.keep hb3)
        have JL := Lib.hid (IL.out.keep hb3)
        have JX := Lib.hid (IX.out.keep hb3)
        have JD := Lib.hid (ID.out.keep hb3)
        have J1 := Lib.hid (I1.out.keep hb3)
        have J2 := Lib.hid (I2.out.keep hb3)
        have JB := Lib.hid (below_of IB.out hb3)
        clear a0 a1 hb3
        clear IO IL IX ID I1 I2 IB
        rw [← HL2.out]
        go_upto_region 16 with fail
        obtain ⟨tw, htw⟩ : ∃ g, g = w3.heap.size := ⟨_, rfl⟩
        obtain ⟨w4, hw4⟩ : ∃ x, x = w3.alloc (.cells #[.int .u64 (hiZ l2), .int .u64 (loZ l2)] 24) := ⟨_, rfl⟩
        have KO := Lib.hid (by rw [hw4]; exact JO.out.alloc _ : Blk16 w4 po (byf O))
        have KL := Lib.hid (by rw [hw4]; exact JL.out.alloc _ : Blk2 w4 pl (hiZ l) (loZ l))
        have KX := Lib.hid (by rw [hw4]; exact JX.out.alloc _ : Blk16 w4 px (byf a.n))
        have KD := Lib.hid (by rw [hw4]; exact JD.out.alloc _ : Blk2 w4 pd (hiZ D) (loZ D))
        have K1 := Lib.hid (by rw [hw4]; exact J1.out.alloc _ : Blk2 w4 p1 0 0)
        have K2 := Lib.hid (by rw [hw4]; exact J2.out.alloc _ : Blk2 w4 p2 0 0)
        have KT := Lib.hid (show Blk2 w4 tw (hiZ l2) (loZ l2) by rw [hw4]; exact Blk2.new_at _ _ htw)
        have KB := Lib.hid (show Below w.heap.size w w4 by rw [hw4]; exact JB.out.alloc JB.out.size _)
        rw [← hw4, ← htw]
        have h_T : tw ≠ pl := by have := JL.out.lt; omega
        clear hw4 htw
        clear JO JL JX JD J1 J2 JB
        go_cut [71] (fun _ wx => WholeInv w wx po pl px pd p1 p2 a D t O)
        case first =>
          have t0 := KT.out.c0
          have t1 := KT.out.c1
          have x0 := KX.out.cell H16.out
          rw [show byf a.n i8 = ((byt a.n i8 : Nat) : Int) from rfl, ← HC.out] at x0
          go_region_with ((go_at_call 8; refine (radd_at (a := l2) (b := B) rfl rfl HBB.out.1 HBB.out.2 _).mono ?_; rw [← HT.out]; rintro e w5 ⟨rfl, hb5⟩; have hL5 := KL.out.drew.keep hb5; have b0 := hL5.c0; have b1 := hL5.c1; have bf0 := hL5.f0; have bf1 := hL5.f1))
          all_goals
            go_wp2_with fail
            go_meet
            refine ⟨((below_of KB.out.drew hb5).setCell (p := ⟨pl, 0, none⟩) HG.out _).setCell (p := ⟨pl, 1, none⟩) HG.out _, ((KO.out.drew.keep hb5).other _ _ h_O).other _ _ h_O, hL5.set _ _, ((KX.out.drew.keep hb5).other _ _ h_X).other _ _ h_X, ((KD.out.drew.keep hb5).other _ _ h_D).other _ _ h_D, ((K1.out.drew.keep hb5).other _ _ h_1).other _ _ h_1, ((K2.out.drew.keep hb5).other _ _ h_2).other _ _ h_2⟩
        case rest =>
          rename World => wt
          have TI := Lib.hid hcut
          clear hcut
          have a0 := TI.out.rl.c0
          have a1 := TI.out.rl.c1
          have d0 := TI.out.rd.c0
          have d1 := TI.out.rd.c1
          by_cases htk : t.n < D.n
          · have hls : lessB t D = true := by unfold lessB; simpa using htk
            have HST := Lib.hid (step_lt hk0 HTN.out htk)
            clear htk
            go_wp2_with fail
            refine (rless t D _).mono ?_
            rintro e w6 ⟨rfl, hb6⟩
            have HW := Lib.hid (show WholeInv w w6 po pl px pd p1 p2 a D t O from ⟨below_of TI.out.below hb6, TI.out.ro.keep hb6, TI.out.rl.keep hb6, TI.out.rx.keep hb6, TI.out.rd.keep hb6, TI.out.r1.keep hb6, TI.out.r2.keep hb6⟩)
            clear a0 a1 d0 d1 hb6
            go_wp2_with fail
            go_roundw
            case rel =>
              refine ⟨t, O, ?_⟩
              have hl := (show t.n = a.n / 2 ^ j % D.n by rw [HST.out.1])
              have hh := had_lt HAD.out HST.out.2
              by_cases h0 : j = 0
              · subst h0
                exact Or.inr ⟨rfl, by simpa using hl, by simpa using hh, HW.out⟩
              · obtain ⟨i, rfl⟩ : ∃ i, j = i + 1 := ⟨j - 1, by omega⟩
                exact Or.inl ⟨i, by omega, by go_num, hl, hh, HW.out⟩
            case measure => simp [intOf] <;> omega
          · have hls : lessB t D = false := by unfold lessB; simpa using htk
            have HST := Lib.hid (step_ge hk0 HTN.out (Nat.le_of_not_lt htk))
            obtain ⟨z, hz⟩ : ∃ z : U, z = subU t D := ⟨_, rfl⟩
            have hzn : z.n = t.n - D.n := by rw [hz]; rfl
            have HZ := Lib.hid hz
            have HZN := Lib.hid hzn
            clear htk hz hzn
            go_wp2_with fail
            refine (rless t D _).mono ?_
            rintro e w6 ⟨rfl, hb6⟩
            have SO := Lib.hid (TI.out.ro.keep hb6)
            have SL := Lib.hid (TI.out.rl.keep hb6)
            have SX := Lib.hid (TI.out.rx.keep hb6)
            have SD := Lib.hid (TI.out.rd.keep hb6)
            have S1 := Lib.hid (TI.out.r1.keep hb6)
            have S2 := Lib.hid (TI.out.r2.keep hb6)
            have SB := Lib.hid (below_of TI.out.below hb6)
            clear a0 a1 d0 d1 hb6 TI
            have a0 := SL.out.c0
            have a1 := SL.out.c1
            have d0 := SD.out.c0
            have d1 := SD.out.c1
            go_wp2_with fail
            refine (rsub t D _).mono ?_
            rw [← HZ.out]
            rintro e w7 ⟨rfl, hb7⟩
            have VO := Lib.hid (SO.out.keep hb7)
            have VL := Lib.hid (SL.out.keep hb7)
            have VX := Lib.hid (SX.out.keep hb7)
            have VD := Lib.hid (SD.out.keep hb7)
            have V1 := Lib.hid (S1.out.keep hb7)
            have V2 := Lib.hid (S2.out.keep hb7)
            have VB := Lib.hid (below_of SB.out hb7)
            clear a0 a1 d0 d1 hb7
            clear SO SL SX SD S1 S2 SB
            have a0 := VL.out.c0
            have a1 := VL.out.c1
            have af0 := VL.out.f0
            have af1 := VL.out.f1
            go_upto_region 19 with fail
            clear a0 a1 af0 af1
            obtain ⟨wy, hwy⟩ : ∃ x, x = (w7.setCell ⟨pl, 0, none⟩ (.int .u64 (hiZ z))).setCell ⟨pl, 1, none⟩ (.int .u64 (loZ z)) := ⟨_, rfl⟩
            rw [← hwy]
            have YO := Lib.hid (by rw [hwy]; exact (VO.out.other _ _ h_O).other _ _ h_O : Blk16 wy po (byf O))
            have YL := Lib.hid (show Blk2 wy pl (hiZ z) (loZ z) by rw [hwy]; exact VL.out.set _ _)
            have YX := Lib.hid (by rw [hwy]; exact (VX.out.other _ _ h_X).other _ _ h_X : Blk16 wy px (byf a.n))
            have YD := Lib.hid (by rw [hwy]; exact (VD.out.other _ _ h_D).other _ _ h_D : Blk2 wy pd (hiZ D) (loZ D))
            have Y1 := Lib.hid (by rw [hwy]; exact (V1.out.other _ _ h_1).other _ _ h_1 : Blk2 wy p1 0 0)
            have Y2 := Lib.hid (by rw [hwy]; exact (V2.out.other _ _ h_2).other _ _ h_2 : Blk2 wy p2 0 0)
            have YB := Lib.hid (show Below w.heap.size w wy by rw [hwy]; exact (VB.out.setCell (p := ⟨pl, 0, none⟩) HG.out _).setCell (p := ⟨pl, 1, none⟩) HG.out _)
            clear hwy
            clear VO VL VX VD V1 V2 VB
            have y0 := YO.out.cell H16.out
            have yf := YO.out.free i8
            rw [show byf O i8 = ((byt O i8 : Nat) : Int) from rfl, ← HV.out] at y0
            go_region
            rw [HVAL.out]
            have hO' : Blk16 (wy.setCell ⟨po, i8, none⟩ (.int .i64 ((byt O (j / 8) ||| 2 ^ (j % 8) : Nat) : Int))).drew po (byf (O + 2 ^ j)) := by
              have h := YO.out.set (i := i8) H16.out ((byt O (j / 8) ||| 2 ^ (j % 8) : Nat) : Int)
              refine (h.congr (fun q _ => ?_)).drew
              rw [HI8.out]
              exact bit_set O j q (had_mod HAD.out)
            have hI' : WholeInv w (wy.setCell ⟨po, i8, none⟩ (.int .i64 ((byt O (j / 8) ||| 2 ^ (j % 8) : Nat) : Int))).drew po pl px pd p1 p2 a D z (O + 2 ^ j) :=
              ⟨(YB.out.setCell (p := ⟨po, i8, none⟩) HGS.out.1 _).drew, hO', (YL.out.other _ _ (Ne.symm h_O)).drew, (YX.out.other _ _ h_XO).drew, (YD.out.other _ _ h_DO).drew, (Y1.out.other _ _ h_1O).drew, (Y2.out.other _ _ h_2O).drew⟩
            generalize (wy.setCell ⟨po, i8, none⟩ (.int .i64 ((byt O (j / 8) ||| 2 ^ (j % 8) : Nat) : Int))).drew = W at hI' ⊢
            have HW := Lib.hid hI'
            clear hO' hI' y0 yf
            go_wp2_with fail
            go_roundw
            case rel =>
              refine ⟨z, O + 2 ^ j, ?_⟩
              have hl := (show z.n = a.n / 2 ^ j % D.n by rw [HST.out.1, HZN.out])
              have hh := had_ge HAD.out HST.out.2
              by_cases h0 : j = 0
              · subst h0
                exact Or.inr ⟨rfl, by simpa using hl, by simpa using hh, HW.out⟩
              · obtain ⟨i, rfl⟩ : ∃ i, j = i + 1 := ⟨j - 1, by omega⟩
                exact Or.inl ⟨i, by omega, by go_num, hl, hh, HW.out⟩
            case measure => simp [intOf] <;> omega
      · have hov' : 340282366920938463463374607431768211456 ≤ l.n + l.n := Nat.le_of_not_lt hov
        have hE : addE l l = 1 := cutE_ge hov'
        have hU : addU l l = U.zero := cutU_ge hov'
        have hDlt := D.lt
        have hld := HLD.out
        obtain ⟨rs, hrs⟩ : ∃ x : U, x = subU D l := ⟨_, rfl⟩
        have hrsn : rs.n = D.n - l.n := by rw [hrs]; rfl
        obtain ⟨z1, hz1⟩ : ∃ x : U, x = subU l rs := ⟨_, rfl⟩
        have hz1n : z1.n = l.n - (D.n - l.n) := by rw [hz1]; show l.n - rs.n = _; rw [hrsn]
        obtain ⟨z, hz⟩ : ∃ x : U, x = addU z1 B := ⟨_, rfl⟩
        have hzn : z.n = 2 * (a.n / 2 ^ (j + 1) % D.n) + a.n / 2 ^ j % 2 - D.n := by rw [hz, addU_n (by have := HBN.out; omega), hz1n, HBN.out, ← HBIT.out, ← LE.out]; omega
        have HST := Lib.hid (step_ge (t := 2 * (a.n / 2 ^ (j + 1) % D.n) + a.n / 2 ^ j % 2) hk0 rfl (by rw [← LE.out]; omega))
        have HU := Lib.hid hU
        have HRS := Lib.hid hrs
        have HZ1 := Lib.hid hz1
        have HZ := Lib.hid hz
        have HZN := Lib.hid hzn
        clear hov hov' hU hDlt hld hrs hrsn hz1 hz1n hz hzn
        have a0 := IL.out.c0
        have a1 := IL.out.c1
        go_wp2_with fail
        refine (radd l l _).mono ?_
        rintro e w3 ⟨rfl, hb3⟩
        have JO := Lib.hid (IO.out.keep hb3)
        have JL := Lib.hid (IL.out.keep hb3)
        have JX := Lib.hid (IX.out.keep hb3)
        have JD := Lib.hid (ID.out.keep hb3)
        have J1 := Lib.hid (I1.out.keep hb3)
        have J2 := Lib.hid (I2.out.keep hb3)
        have JB := Lib.hid (below_of IB.out hb3)
        clear a0 a1 hb3
        clear IO IL IX ID I1 I2 IB
        have jd0 := JD.out.c0
        have jd1 := JD.out.c1
        have a0 := JL.out.c0
        have a1 := JL.out.c1
        have jdl := JD.out.lt
        have jll := JL.out.lt
        go_wp2_with fail
        refine (rsub D l _).mono ?_
        rw [← HRS.out]
        rintro e w4 ⟨rfl, hb4⟩
        obtain ⟨tw, htw⟩ : ∃ g, g = w3.heap.size := ⟨_, rfl⟩
        have KO := Lib.hid ((JO.out.alloc _).keep hb4)
        have KL := Lib.hid ((JL.out.alloc _).keep hb4)
        have KX := Lib.hid ((JX.out.alloc _).keep hb4)
        have KD := Lib.hid ((JD.out.alloc _).keep hb4)
        have K1 := Lib.hid ((J1.out.alloc _).keep hb4)
        have K2 := Lib.hid ((J2.out.alloc _).keep hb4)
        have KT := Lib.hid ((Blk2.new_at w3 tw (h := hiZ (addU l l)) (l := loZ (addU l l)) htw).keep hb4)
        have KB := Lib.hid (below_of (JB.out.alloc JB.out.size _) hb4)
        have h_T : tw ≠ pl := by have := JL.out.lt; omega
        have h_TO : tw ≠ po := by have := JO.out.lt; omega
        have h_TX : tw ≠ px := by have := JX.out.lt; omega
        have h_TD : tw ≠ pd := by have := JD.out.lt; omega
        have h_T1 : tw ≠ p1 := by have := J1.out.lt; omega
        have h_T2 : tw ≠ p2 := by have := J2.out.lt; omega
        have HTWS := Lib.hid (show w.heap.size ≤ tw by have := JB.out.size; omega)
        rw [← htw]
        have htl := KT.out.lt
        have hll := KL.out.lt
        clear jd0 jd1 jdl jll a0 a1 hb4 htw
        clear JO JL JX JD J1 J2 JB
        have a0 := KL.out.c0
        have a1 := KL.out.c1
        go_wp2_with fail
        refine (rsub l rs _).mono ?_
        rw [← HZ1.out]
        rintro e w5 ⟨rfl, hb5⟩
        have MO := Lib.hid ((KO.out.alloc _).keep hb5)
        have ML := Lib.hid ((KL.out.alloc _).keep hb5)
        have MX := Lib.hid ((KX.out.alloc _).keep hb5)
        have MD := Lib.hid ((KD.out.alloc _).keep hb5)
        have M1 := Lib.hid ((K1.out.alloc _).keep hb5)
        have M2 := Lib.hid ((K2.out.alloc _).keep hb5)
        have MT := Lib.hid ((KT.out.alloc _).keep hb5)
        have MB := Lib.hid (below_of (KB.out.alloc KB.out.size _) hb5)
        clear a0 a1 hb5 htl hll
        clear KO KL KX KD K1 K2 KT KB
        have t0 := MT.out.c0
        have t1 := MT.out.c1
        have tf0 := MT.out.f0
        have tf1 := MT.out.f1
        go_upto_region 13 with fail
        clear t0 t1 tf0 tf1
        obtain ⟨w6, hw6⟩ : ∃ x, x = (w5.setCell ⟨tw, 0, none⟩ (.int .u64 (hiZ z1))).setCell ⟨tw, 1, none⟩ (.int .u64 (loZ z1)) := ⟨_, rfl⟩
        rw [← hw6]
        have NO := Lib.hid (by rw [hw6]; exact (MO.out.other _ _ (Ne.symm h_TO)).other _ _ (Ne.symm h_TO) : Blk16 w6 po (byf O))
        have NL := Lib.hid (by rw [hw6]; exact (ML.out.other _ _ (Ne.symm h_T)).other _ _ (Ne.symm h_T) : Blk2 w6 pl (hiZ l) (loZ l))
        have NX := Lib.hid (by rw [hw6]; exact (MX.out.other _ _ (Ne.symm h_TX)).other _ _ (Ne.symm h_TX) : Blk16 w6 px (byf a.n))
        have ND := Lib.hid (by rw [hw6]; exact (MD.out.other _ _ (Ne.symm h_TD)).other _ _ (Ne.symm h_TD) : Blk2 w6 pd (hiZ D) (loZ D))
        have N1 := Lib.hid (by rw [hw6]; exact (M1.out.other _ _ (Ne.symm h_T1)).other _ _ (Ne.symm h_T1) : Blk2 w6 p1 0 0)
        have N2 := Lib.hid (by rw [hw6]; exact (M2.out.other _ _ (Ne.symm h_T2)).other _ _ (Ne.symm h_T2) : Blk2 w6 p2 0 0)
        have NT := Lib.hid (show Blk2 w6 tw (hiZ z1) (loZ z1) by rw [hw6]; exact MT.out.set _ _)
        have NB := Lib.hid (show Below w.heap.size w w6 by rw [hw6]; exact (MB.out.setCell (p := ⟨tw, 0, none⟩) HTWS.out _).setCell (p := ⟨tw, 1, none⟩) HTWS.out _)
        clear hw6
        clear MO ML MX MD M1 M2 MT MB
        go_cut [46] (fun _ wx => WholeInv w wx po pl px pd p1 p2 a D l O ∧ Blk2 wx tw (hiZ z) (loZ z))
        case first =>
          have t0 := NT.out.c0
          have t1 := NT.out.c1
          have x0 := NX.out.cell H16.out
          rw [show byf a.n i8 = ((byt a.n i8 : Nat) : Int) from rfl, ← HC.out] at x0
          go_region_with ((go_at_call 8; refine (radd_at (a := z1) (b := B) rfl rfl HBB.out.1 HBB.out.2 _).mono ?_; rw [← HZ.out]; rintro e w7 ⟨rfl, hb7⟩; have hT7 := NT.out.drew.keep hb7; have b0 := hT7.c0; have b1 := hT7.c1; have bf0 := hT7.f0; have bf1 := hT7.f1))
          all_goals
            go_wp2_with fail
            go_meet
            refine ⟨⟨((below_of NB.out.drew hb7).setCell (p := ⟨tw, 0, none⟩) HTWS.out _).setCell (p := ⟨tw, 1, none⟩) HTWS.out _, ((NO.out.drew.keep hb7).other _ _ (Ne.symm h_TO)).other _ _ (Ne.symm h_TO), ((NL.out.drew.keep hb7).other _ _ (Ne.symm h_T)).other _ _ (Ne.symm h_T), ((NX.out.drew.keep hb7).other _ _ (Ne.symm h_TX)).other _ _ (Ne.symm h_TX), ((ND.out.drew.keep hb7).other _ _ (Ne.symm h_TD)).other _ _ (Ne.symm h_TD), ((N1.out.drew.keep hb7).other _ _ (Ne.symm h_T1)).other _ _ (Ne.symm h_T1), ((N2.out.drew.keep hb7).other _ _ (Ne.symm h_T2)).other _ _ (Ne.symm h_T2)⟩, hT7.set _ _⟩
        case rest =>
          rename World => wt
          obtain ⟨hcut, hcutT⟩ := hcut
          have SO := Lib.hid hcut.ro
          have SL := Lib.hid hcut.rl
          have SX := Lib.hid hcut.rx
          have SD := Lib.hid hcut.rd
          have S1 := Lib.hid hcut.r1
          have S2 := Lib.hid hcut.r2
          have SB := Lib.hid hcut.below
          have ST := Lib.hid hcutT
          clear hcut hcutT
          clear NO NL NX ND N1 N2 NT NB
          have t0 := ST.out.c0
          have t1 := ST.out.c1
          have a0 := SL.out.c0
          have a1 := SL.out.c1
          have af0 := SL.out.f0
          have af1 := SL.out.f1
          go_upto_region 15 with fail
          clear t0 t1 a0 a1 af0 af1
          obtain ⟨wy, hwy⟩ : ∃ x, x = (wt.setCell ⟨pl, 0, none⟩ (.int .u64 (hiZ z))).setCell ⟨pl, 1, none⟩ (.int .u64 (loZ z)) := ⟨_, rfl⟩
          rw [← hwy]
          have YO := Lib.hid (by rw [hwy]; exact (SO.out.other _ _ h_O).other _ _ h_O : Blk16 wy po (byf O))
          have YL := Lib.hid (show Blk2 wy pl (hiZ z) (loZ z) by rw [hwy]; exact SL.out.set _ _)
          have YX := Lib.hid (by rw [hwy]; exact (SX.out.other _ _ h_X).other _ _ h_X : Blk16 wy px (byf a.n))
          have YD := Lib.hid (by rw [hwy]; exact (SD.out.other _ _ h_D).other _ _ h_D : Blk2 wy pd (hiZ D) (loZ D))
          have Y1 := Lib.hid (by rw [hwy]; exact (S1.out.other _ _ h_1).other _ _ h_1 : Blk2 wy p1 0 0)
          have Y2 := Lib.hid (by rw [hwy]; exact (S2.out.other _ _ h_2).other _ _ h_2 : Blk2 wy p2 0 0)
          have YB := Lib.hid (show Below w.heap.size w wy by rw [hwy]; exact (SB.out.setCell (p := ⟨pl, 0, none⟩) HG.out _).setCell (p := ⟨pl, 1, none⟩) HG.out _)
          clear hwy
          clear SO SL SX SD S1 S2 ST SB
          have y0 := YO.out.cell H16.out
          have yf := YO.out.free i8
          rw [show byf O i8 = ((byt O i8 : Nat) : Int) from rfl, ← HV.out] at y0
          go_region
          rw [HVAL.out]
          have hO' : Blk16 (wy.setCell ⟨po, i8, none⟩ (.int .i64 ((byt O (j / 8) ||| 2 ^ (j % 8) : Nat) : Int))).drew po (byf (O + 2 ^ j)) := by
            have h := YO.out.set (i := i8) H16.out ((byt O (j / 8) ||| 2 ^ (j % 8) : Nat) : Int)
            refine (h.congr (fun q _ => ?_)).drew
            rw [HI8.out]
            exact bit_set O j q (had_mod HAD.out)
          have hI' : WholeInv w (wy.setCell ⟨po, i8, none⟩ (.int .i64 ((byt O (j / 8) ||| 2 ^ (j % 8) : Nat) : Int))).drew po pl px pd p1 p2 a D z (O + 2 ^ j) :=
            ⟨(YB.out.setCell (p := ⟨po, i8, none⟩) HGS.out.1 _).drew, hO', (YL.out.other _ _ (Ne.symm h_O)).drew, (YX.out.other _ _ h_XO).drew, (YD.out.other _ _ h_DO).drew, (Y1.out.other _ _ h_1O).drew, (Y2.out.other _ _ h_2O).drew⟩
          generalize (wy.setCell ⟨po, i8, none⟩ (.int .i64 ((byt O (j / 8) ||| 2 ^ (j % 8) : Nat) : Int))).drew = W at hI' ⊢
          have HW := Lib.hid hI'
          clear hO' hI' y0 yf
          go_wp2_with fail
          go_roundw
          case rel =>
            refine ⟨z, O + 2 ^ j, ?_⟩
            have hl := (show z.n = a.n / 2 ^ j % D.n by rw [HST.out.1, HZN.out])
            have hh := had_ge HAD.out HST.out.2
            by_cases h0 : j = 0
            · subst h0
              exact Or.inr ⟨rfl, by simpa using hl, by simpa using hh, HW.out⟩
            · obtain ⟨i, rfl⟩ : ∃ i, j = i + 1 := ⟨j - 1, by omega⟩
              exact Or.inl ⟨i, by omega, by go_num, hl, hh, HW.out⟩
          case measure => simp [intOf] <;> omega
    · have hO1 : O = (wholeQ a D).n := hhad
      have hl1 : l = wholeR a D := U.ext hleft
      subst hO1 hl1
      have HI := Lib.hid hI
      clear hI hleft hhad
      go_wp2_with fail
      refine wp_region_inv (J := fun listed act W => ∃ (b0 b1 b2 b3 b4 : Bool) (x0 x1 x2 : Value), listed = #[b0, b1, b2, b3, b4] ∧ act = { tmps := #[.agg #[.int .u64 (hiZ a), .int .u64 (loZ a)], .agg #[.int .u64 (hiZ D), .int .u64 (loZ D)], .pointer (some ⟨pa, 0, none⟩), .pointer (some ⟨pd, 0, none⟩), .pointer (some ⟨p1, 0, none⟩), .pointer (some ⟨p2, 0, none⟩), .pointer (some ⟨po, 0, none⟩), .pointer (some ⟨pl, 0, none⟩), .pointer (some ⟨px, 0, none⟩), .int .i64 (-1), u10, u11, u12, u13, .agg #[.int .u64 (hiZ D), .int .u64 (loZ D)], .agg #[.int .u64 0, .int .u64 0], .bool false, undef, undef, .agg #[.int .u64 0, .int .u64 0], .agg #[.int .u64 (hiZ a), .int .u64 (loZ a)], .agg (A16 (byf a.n)), .int .i64 (-1), .bool false, u24, u25, u26, u27, u28, u29, u30, u31, u32, u33, u34, u35, u36, u37, u38, u39, u40, u41, u42, u43, u44, u45, u46, u47, u48, u49, u50, u51, u52, u53, u54, u55, u56, u57, u58, u59, u60, u61, u62, u63, u64, u65, u66, u67, u68, u69, u70, u71, u72, u73, u74, u75, u76, u77, u78, u79, u80, u81, u82, u83, u84, u85, u86, u87, u88, u89, u90, u91, u92, u93, u94, u95, u96, u97, u98, u99, u100, u101, u102, u103, u104, x0, x1, x2], defers := [] } ∧ EndJ w po pl p1 p2 (wholeQ a D) (wholeR a D) W b0 b1 b2 b3 b4 x0 x1 x2) (by kernel_rfl) ⟨false, false, false, false, false, undef, undef, undef, rfl, rfl, ⟨HI.out.below.drew, HI.out.ro.drew, HI.out.rl.drew, ⟨0, 0, HI.out.r1.drew, nofun⟩, ⟨0, 0, HI.out.r2.drew, nofun⟩, nofun, nofun, nofun⟩⟩ ?_ ?_
      · intro listed act W i hJ hi
        obtain ⟨b0, b1, b2, b3, b4, x0, x1, x2, rfl, rfl, hJ⟩ := hJ
        have HJ := Lib.hid hJ
        obtain ⟨hi1, hi2, hi3⟩ := ready_spec hi
        clear hJ hi HI
        have hi4 : i < 5 := hi1
        clear hi1
        have hcase : i = 0 ∨ i = 1 ∨ i = 2 ∨ i = 3 ∨ i = 4 := by omega
        clear hi4
        rcases hcase with rfl | rfl | rfl | rfl | rfl
        · refine wpOp_step (o := _) rfl (fun K hK => ?_)
          have HK := Lib.hid hK
          clear hK
          clear hi3 hi2
          rw [if_pos (by rfl)]
          refine wp_load_mid 54 _ rfl po 0 rfl (A16 (byf (wholeQ a D).n)).toList _ (range16 HJ.out.ro) Tryd.underlying54 rfl info16 ?_
          exact HK.out _ _ ⟨_, _, _, _, _, _, _, _, rfl, rfl, ⟨HJ.out.below, HJ.out.ro, HJ.out.rl, HJ.out.r1, HJ.out.r2, fun _ => rfl, HJ.out.e1, HJ.out.e2⟩⟩
        · refine wpOp_step (o := _) rfl (fun K hK => ?_)
          have HK := Lib.hid hK
          clear hK
          have hd := hi3 _ rfl
          simp [Region.binds] at hd
          clear hi3 hi2
          have q0 : b0 = true := by (cases b0 with | true => rfl | false => simp at hd)
          obtain rfl := HJ.out.e0 q0
          clear hd
          go_simp
          go_at_call 42
          refine (rof (wholeQ a D) _).mono ?_
          rintro e w1 ⟨rfl, hb⟩
          obtain ⟨h1, l1, k1, m1⟩ := HJ.out.r1
          obtain ⟨h2, l2, k2, m2⟩ := HJ.out.r2
          exact HK.out _ _ ⟨_, _, _, _, _, _, _, _, rfl, rfl, ⟨below_of HJ.out.below hb, HJ.out.ro.keep hb, HJ.out.rl.keep hb, ⟨h1, l1, k1.keep hb, m1⟩, ⟨h2, l2, k2.keep hb, m2⟩, HJ.out.e0, fun _ => rfl, HJ.out.e2⟩⟩
        · refine wpOp_step (o := _) rfl (fun K hK => ?_)
          have HK := Lib.hid hK
          clear hK
          clear hi3 hi2
          have c0 := HJ.out.rl.c0
          have c1 := HJ.out.rl.c1
          go_simp
          exact HK.out _ _ ⟨_, _, _, _, _, _, _, _, rfl, rfl, ⟨HJ.out.below, HJ.out.ro, HJ.out.rl, HJ.out.r1, HJ.out.r2, HJ.out.e0, HJ.out.e1, fun _ => rfl⟩⟩
        · refine wpOp_step (o := _) rfl (fun K hK => ?_)
          have HK := Lib.hid hK
          clear hK
          have hd := hi3 _ rfl
          simp [Region.binds] at hd
          clear hi3 hi2
          have q1 : b1 = true := by (cases b1 with | true => rfl | false => simp at hd)
          obtain rfl := HJ.out.e1 q1
          clear hd
          obtain ⟨h1, l1, k1, m1⟩ := HJ.out.r1
          obtain ⟨h2, l2, k2, m2⟩ := HJ.out.r2
          have c0 := k1.c0
          have c1 := k1.c1
          have f0 := k1.f0
          have f1 := k1.f1
          have X := Lib.hid (k1.set (hiZ (wholeQ a D)) (loZ (wholeQ a D)))
          have Y := Lib.hid k2
          clear k1 k2
          go_simp
          exact HK.out _ _ ⟨_, _, _, _, _, _, _, _, rfl, rfl, ⟨(HJ.out.below.setCell (p := ⟨p1, 0, none⟩) HGS.out.2.1 _).setCell (p := ⟨p1, 1, none⟩) HGS.out.2.1 _, (HJ.out.ro.other _ _ (Ne.symm h_1O)).other _ _ (Ne.symm h_1O), (HJ.out.rl.other _ _ (Ne.symm h_1)).other _ _ (Ne.symm h_1), ⟨_, _, X.out, fun _ => ⟨rfl, rfl⟩⟩, ⟨h2, l2, (Y.out.other _ _ (Ne.symm h_12)).other _ _ (Ne.symm h_12), m2⟩, HJ.out.e0, HJ.out.e1, HJ.out.e2⟩⟩
        · refine wpOp_step (o := _) rfl (fun K hK => ?_)
          have HK := Lib.hid hK
          clear hK
          have hd := hi3 _ rfl
          simp [Region.binds] at hd
          clear hi3 hi2
          have q2 : b2 = true := by (cases b2 with | true => rfl | false => simp at hd)
          obtain rfl := HJ.out.e2 q2
          clear hd
          obtain ⟨h1, l1, k1, m1⟩ := HJ.out.r1
          obtain ⟨h2, l2, k2, m2⟩ := HJ.out.r2
          have c0 := k2.c0
          have c1 := k2.c1
          have f0 := k2.f0
          have f1 := k2.f1
          have X := Lib.hid (k2.set (hiZ (wholeR a D)) (loZ (wholeR a D)))
          have Y := Lib.hid k1
          clear k1 k2
          go_simp
          exact HK.out _ _ ⟨_, _, _, _, _, _, _, _, rfl, rfl, ⟨(HJ.out.below.setCell (p := ⟨p2, 0, none⟩) HGS.out.2.2 _).setCell (p := ⟨p2, 1, none⟩) HGS.out.2.2 _, (HJ.out.ro.other _ _ (Ne.symm h_2O)).other _ _ (Ne.symm h_2O), (HJ.out.rl.other _ _ (Ne.symm h_2)).other _ _ (Ne.symm h_2), ⟨h1, l1, (Y.out.other _ _ h_12).other _ _ h_12, m1⟩, ⟨_, _, X.out, fun _ => ⟨rfl, rfl⟩⟩, HJ.out.e0, HJ.out.e1, HJ.out.e2⟩⟩
      · intro listed act W hJ hr
        obtain ⟨b0, b1, b2, b3, b4, x0, x1, x2, rfl, rfl, hJ⟩ := hJ
        have HJ := Lib.hid hJ
        clear hJ
        have q0 : b0 = true := by
          cases b0 with
          | true => rfl
          | false =>
            have hm : 0 ∈ ([] : List Nat) := by rw [← hr]; exact ready_in (o := _) rfl rfl (by simp [Region.binds])
            cases hm
        subst q0
        have q1 : b1 = true := by
          cases b1 with
          | true => rfl
          | false =>
            have hm : 1 ∈ ([] : List Nat) := by rw [← hr]; exact ready_in (o := _) rfl rfl (by simp [Region.binds])
            cases hm
        subst q1
        have q2 : b2 = true := by
          cases b2 with
          | true => rfl
          | false =>
            have hm : 2 ∈ ([] : List Nat) := by rw [← hr]; exact ready_in (o := _) rfl rfl (by simp [Region.binds])
            cases hm
        subst q2
        have q3 : b3 = true := by
          cases b3 with
          | true => rfl
          | false =>
            have hm : 3 ∈ ([] : List Nat) := by rw [← hr]; exact ready_in (o := _) rfl rfl (by simp [Region.binds])
            cases hm
        subst q3
        have q4 : b4 = true := by
          cases b4 with
          | true => rfl
          | false =>
            have hm : 4 ∈ ([] : List Nat) := by rw [← hr]; exact ready_in (o := _) rfl rfl (by simp [Region.binds])
            cases hm
        subst q4
        clear hr
        obtain ⟨h1, l1, k1, m1⟩ := HJ.out.r1
        obtain ⟨h2, l2, k2, m2⟩ := HJ.out.r2
        obtain ⟨rfl, rfl⟩ := m1 rfl
        obtain ⟨rfl, rfl⟩ := m2 rfl
        have HX := Lib.hid (And.intro k1 k2)
        clear k1 k2 m1 m2
        try dsimp only
        go_wp2_with fail
        have y0 := HX.out.1.c0
        have y1 := HX.out.1.c1
        have z0 := HX.out.2.c0
        have z1 := HX.out.2.c1
        refine bodyPost_ret (v := .tuple #[.agg #[.int .u64 (hiZ (wholeQ a D)), .int .u64 (loZ (wholeQ a D))], .agg #[.int .u64 (hiZ (wholeR a D)), .int .u64 (loZ (wholeR a D))]]) (by simp [results, Tryd.results49, go_sem, y0, y1, z0, z1]) rfl ?_
        exact ⟨rfl, HJ.out.below⟩
end Go.Proofs.YtnbchhjanlpdlaaDoor
