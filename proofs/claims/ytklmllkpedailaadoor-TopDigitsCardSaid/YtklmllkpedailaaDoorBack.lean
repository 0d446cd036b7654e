/-
  THE LAW plimsolllaw01.WideBack: there and back: the walk: it answers true, of any two numbers and any number of 64 bits.
-/
import Derived.Test.YtklmllkpedailaaDoorOrder
import Derived.Test.YtklmllkpedailaaDoorBackMath
import Derived.Deep.CutBlock
import Derived.LoopN
namespace Go.Proofs.YtklmllkpedailaaDoor
open Go Go.RowKit

/-- What is kept through the law: the two numbers, in the blocks in which they were laid. -/
structure Two (w wx : World) (a b : U) : Prop where
  below : Below w.heap.size w wx
  ra : Blk2 wx w.heap.size (hiZ a) (loZ a)
  rb : Blk2 wx (w.heap.size + 1) (hiZ b) (loZ b)
structure Three (w wx : World) (a b c : U) (g : Nat) : Prop where
  two : Two w wx a b
  rc : Blk2 wx g (hiZ c) (loZ c)
theorem parse_at (a : U) (w : World) :
    Calls Tryd.prog 25 #[.string ⟨(Lib.decDigits a.n).toArray⟩] w fun e w' =>
      e = .returned (.tuple #[.agg #[.int .u64 (hiZ a), .int .u64 (loZ a)], .int .i64 0]) ∧ Below w.heap.size w w' := by
  obtain ⟨h1, h2⟩ := par_dec a
  have hs : (⟨(Lib.decDigits a.n).toArray⟩ : ByteArray).size ≤ 9223372036854775807 := by
    show (Lib.decDigits a.n).toArray.size ≤ _
    have := nd_le39 a
    rw [← Lib.decDigits_length] at this
    simp
    omega
  refine (parse_any ⟨(Lib.decDigits a.n).toArray⟩ w hs).mono ?_
  rintro e w' ⟨rfl, hb⟩
  refine ⟨we_eq' ?_ ?_ ?_, hb⟩
  · rw [show (⟨(Lib.decDigits a.n).toArray⟩ : ByteArray).data.toList = Lib.decDigits a.n from rfl, h1]
  · rw [show (⟨(Lib.decDigits a.n).toArray⟩ : ByteArray).data.toList = Lib.decDigits a.n from rfl, h1]
  · exact h2

set_option maxHeartbeats 8000000 in
set_option maxRecDepth 100000 in
theorem back_walk (a b : U) (k : Nat) (hk : k < 18446744073709551616) (w : World) (htab : tabs w) :
    Calls Tryd.prog 5 #[.agg #[.int .u64 (hiZ a), .int .u64 (loZ a)], .agg #[.int .u64 (hiZ b), .int .u64 (loZ b)], .int .u64 k] w fun e w' =>
      e = .returned (.bool true) ∧ Below w.heap.size w w' := by
  have HT := Lib.hid htab
  clear htab
  have hk1 : (k : Int) ≤ 18446744073709551615 := by omega
  have hk0 : 0 ≤ (k : Int) := by omega
  go_enter Tryd.func5, Tryd.ntmps5
  go_wp2_with fail
  refine (lives_any _ (tabs_stays HT.out (by go_grown))).mono ?_
  rintro e w1 ⟨rfl, hb1⟩
  have B1 : Below w.heap.size w w1 := (by refine below_of ?_ hb1; go_grown)
  have ka1 : Blk2 w1 (w.heap.size) (hiZ a) (loZ a) := (by refine Blk2.keep ?_ hb1; repeat' (first | (with_reducible assumption) | (with_reducible refine Blk2.new_at _ _ (by simp; done)) | (with_reducible refine Blk2.drew ?_) | (with_reducible refine Blk2.drewN ?_) | (with_reducible refine Blk2.alloc ?_ _)))
  have kb1 : Blk2 w1 (w.heap.size + 1) (hiZ b) (loZ b) := (by refine Blk2.keep ?_ hb1; repeat' (first | (with_reducible assumption) | (with_reducible refine Blk2.new_at _ _ (by simp; done)) | (with_reducible refine Blk2.drew ?_) | (with_reducible refine Blk2.drewN ?_) | (with_reducible refine Blk2.alloc ?_ _)))
  clear hb1
  have z1 := B1.size
  have ca1 := ka1.c0
  have da1 := ka1.c1
  have la1 := ka1.lt
  have cb1 := kb1.c0
  have db1 := kb1.c1
  have lb1 := kb1.lt
  go_wp2_with fail
  refine (add_any a b _).mono ?_
  rintro e w2 ⟨rfl, hb2⟩
  have B2 : Below w.heap.size w w2 := (by refine below_of ?_ hb2; go_grown)
  have ka2 : Blk2 w2 (w.heap.size) (hiZ a) (loZ a) := (by refine Blk2.keep ?_ hb2; repeat' (first | (with_reducible assumption) | (with_reducible refine Blk2.new_at _ _ (by simp; done)) | (with_reducible refine Blk2.drew ?_) | (with_reducible refine Blk2.drewN ?_) | (with_reducible refine Blk2.alloc ?_ _)))
  have kb2 : Blk2 w2 (w.heap.size + 1) (hiZ b) (loZ b) := (by refine Blk2.keep ?_ hb2; repeat' (first | (with_reducible assumption) | (with_reducible refine Blk2.new_at _ _ (by simp; done)) | (with_reducible refine Blk2.drew ?_) | (with_reducible refine Blk2.drewN ?_) | (with_reducible refine Blk2.alloc ?_ _)))
  clear hb2 B1 z1 ka1 ca1 da1 la1 kb1 cb1 db1 lb1
  have z2 := B2.size
  have ca2 := ka2.c0
  have da2 := ka2.c1
  have la2 := ka2.lt
  have cb2 := kb2.c0
  have db2 := kb2.c1
  have lb2 := kb2.lt
  go_upto_if 32 with fail
  go_cut [] (fun wx => Two w wx a b)
  case first =>
    by_cases ho : a.n + b.n < 340282366920938463463374607431768211456
    · obtain ⟨e1, e2, e3⟩ := back_add ho
      have tE : (addE a b == 0) = true := by rw [show addE a b = 0 from cutE_lt ho]; rfl
      have HE1 := Lib.hid e1
      have HE2 := Lib.hid e2
      clear ho e1 e2
      have sub_back : ∀ W, Calls Tryd.prog 15 #[.agg #[.int .u64 (hiZ (addU a b)), .int .u64 (loZ (addU a b))], .agg #[.int .u64 (hiZ b), .int .u64 (loZ b)]] W fun e w' => e = .returned (.tuple #[.agg #[.int .u64 (hiZ a), .int .u64 (loZ a)], .int .i64 0]) ∧ Below W.heap.size W w' := by
        intro W; have h := sub_any (addU a b) b W; rw [HE1.out, HE2.out] at h; exact h
      have SB := Lib.hid sub_back
      clear sub_back
      go_wp2_with fail
      refine (SB.out _).mono ?_
      rintro e w3 ⟨rfl, hb3⟩
      have B3 : Below w.heap.size w w3 := (by refine below_of ?_ hb3; go_grown)
      have ka3 : Blk2 w3 (w.heap.size) (hiZ a) (loZ a) := (by refine Blk2.keep ?_ hb3; repeat' (first | (with_reducible assumption) | (with_reducible refine Blk2.new_at _ _ (by simp; done)) | (with_reducible refine Blk2.drew ?_) | (with_reducible refine Blk2.drewN ?_) | (with_reducible refine Blk2.alloc ?_ _)))
      have kb3 : Blk2 w3 (w.heap.size + 1) (hiZ b) (loZ b) := (by refine Blk2.keep ?_ hb3; repeat' (first | (with_reducible assumption) | (with_reducible refine Blk2.new_at _ _ (by simp; done)) | (with_reducible refine Blk2.drew ?_) | (with_reducible refine Blk2.drewN ?_) | (with_reducible refine Blk2.alloc ?_ _)))
      have ks3 : Blk2 w3 (w2.heap.size) (hiZ (addU a b)) (loZ (addU a b)) := (by refine Blk2.keep ?_ hb3; repeat' (first | (with_reducible assumption) | (with_reducible refine Blk2.new_at _ _ (by simp; done)) | (with_reducible refine Blk2.drew ?_) | (with_reducible refine Blk2.drewN ?_) | (with_reducible refine Blk2.alloc ?_ _)))
      clear hb3 B2 z2 ka2 ca2 da2 la2 kb2 cb2 db2 lb2
      have z3 := B3.size
      have ca3 := ka3.c0
      have da3 := ka3.c1
      have la3 := ka3.lt
      have cb3 := kb3.c0
      have db3 := kb3.c1
      have lb3 := kb3.lt
      have cs3 := ks3.c0
      have ds3 := ks3.c1
      have ls3 := ks3.lt
      go_wp2_with fail
      refine (less_any (addU a b) a _).mono ?_
      rintro e w4 ⟨rfl, hb4⟩
      have B4 : Below w.heap.size w w4 := (by refine below_of ?_ hb4; go_grown)
      have ka4 : Blk2 w4 (w.heap.size) (hiZ a) (loZ a) := (by refine Blk2.keep ?_ hb4; repeat' (first | (with_reducible assumption) | (with_reducible refine Blk2.new_at _ _ (by simp; done)) | (with_reducible refine Blk2.drew ?_) | (with_reducible refine Blk2.drewN ?_) | (with_reducible refine Blk2.alloc ?_ _)))
      have kb4 : Blk2 w4 (w.heap.size + 1) (hiZ b) (loZ b) := (by refine Blk2.keep ?_ hb4; repeat' (first | (with_reducible assumption) | (with_reducible refine Blk2.new_at _ _ (by simp; done)) | (with_reducible refine Blk2.drew ?_) | (with_reducible refine Blk2.drewN ?_) | (with_reducible refine Blk2.alloc ?_ _)))
      have ks4 : Blk2 w4 (w2.heap.size) (hiZ (addU a b)) (loZ (addU a b)) := (by refine Blk2.keep ?_ hb4; repeat' (first | (with_reducible assumption) | (with_reducible refine Blk2.new_at _ _ (by simp; done)) | (with_reducible refine Blk2.drew ?_) | (with_reducible refine Blk2.drewN ?_) | (with_reducible refine Blk2.alloc ?_ _)))
      have kd4 : Blk2 w4 (w3.heap.size) (hiZ a) (loZ a) := (by refine Blk2.keep ?_ hb4; repeat' (first | (with_reducible assumption) | (with_reducible refine Blk2.new_at _ _ (by simp; done)) | (with_reducible refine Blk2.drew ?_) | (with_reducible refine Blk2.drewN ?_) | (with_reducible refine Blk2.alloc ?_ _)))
      clear hb4 B3 z3 ka3 ca3 da3 la3 kb3 cb3 db3 lb3 ks3 cs3 ds3 ls3
      have z4 := B4.size
      have ca4 := ka4.c0
      have da4 := ka4.c1
      have la4 := ka4.lt
      have cb4 := kb4.c0
      have db4 := kb4.c1
      have lb4 := kb4.lt
      have cs4 := ks4.c0
      have ds4 := ks4.c1
      have ls4 := ks4.lt
      have cd4 := kd4.c0
      have dd4 := kd4.c1
      have ld4 := kd4.lt
      go_wp2_with fail
      go_meet
      exact ⟨by go_grown, ka4, kb4⟩
    · have tE : (addE a b == 0) = false := by rw [show addE a b = 1 from cutE_ge (by omega)]; rfl
      go_wp2_with fail
      go_meet
      refine ⟨by go_grown, ?_, ?_⟩
      all_goals (repeat' (first | (with_reducible assumption) | (with_reducible refine Blk2.new_at _ _ (by simp; done)) | (with_reducible refine Blk2.drew ?_) | (with_reducible refine Blk2.drewN ?_) | (with_reducible refine Blk2.alloc ?_ _)))
  case rest =>
    have hC := hcut
    have B4 := hC.below
    have z4 := B4.size
    have ka4 : Blk2 wc (w.heap.size) (hiZ a) (loZ a) := hC.ra
    have ca4 := ka4.c0
    have da4 := ka4.c1
    have la4 := ka4.lt
    have kb4 : Blk2 wc (w.heap.size + 1) (hiZ b) (loZ b) := hC.rb
    have cb4 := kb4.c0
    have db4 := kb4.c1
    have lb4 := kb4.lt
    clear hcut hC
    have hdiv : ∀ W, Calls Tryd.prog 19 #[.agg #[.int .u64 (hiZ a), .int .u64 (loZ a)], .int .u64 k] W fun e w' => e = .returned (.tuple #[.agg #[.int .u64 (hiZ (divU a k)), .int .u64 (loZ (divU a k))], .int .u64 (remN' a k), .int .i64 (divE k)]) ∧ Below W.heap.size W w' := fun W => div_both a k hk W
    have HD := Lib.hid hdiv
    clear hdiv
    go_wp2_with fail
    refine (HD.out _).mono ?_
    rintro e w5 ⟨rfl, hb5⟩
    have B5 : Below w.heap.size w w5 := (by refine below_of ?_ hb5; go_grown)
    have ka5 : Blk2 w5 (w.heap.size) (hiZ a) (loZ a) := (by refine Blk2.keep ?_ hb5; repeat' (first | (with_reducible assumption) | (with_reducible refine Blk2.new_at _ _ (by simp; done)) | (with_reducible refine Blk2.drew ?_) | (with_reducible refine Blk2.drewN ?_) | (with_reducible refine Blk2.alloc ?_ _)))
    have kb5 : Blk2 w5 (w.heap.size + 1) (hiZ b) (loZ b) := (by refine Blk2.keep ?_ hb5; repeat' (first | (with_reducible assumption) | (with_reducible refine Blk2.new_at _ _ (by simp; done)) | (with_reducible refine Blk2.drew ?_) | (with_reducible refine Blk2.drewN ?_) | (with_reducible refine Blk2.alloc ?_ _)))
    clear hb5 ka4 ca4 da4 la4 kb4 cb4 db4 lb4 B4 z4
    have z5 := B5.size
    have ca5 := ka5.c0
    have da5 := ka5.c1
    have la5 := ka5.lt
    have cb5 := kb5.c0
    have db5 := kb5.c1
    have lb5 := kb5.lt
    go_upto_if 59 with fail
    go_cut [] (fun wx => Two w wx a b)
    case first =>
      by_cases hz : k = 0
      · have tE : (divE k == 0) = false := by unfold divE; rw [if_pos hz]; rfl
        clear hz
        go_wp2_with fail
        go_meet
        refine ⟨by go_grown, ?_, ?_⟩
        all_goals (repeat' (first | (with_reducible assumption) | (with_reducible refine Blk2.new_at _ _ (by simp; done)) | (with_reducible refine Blk2.drew ?_) | (with_reducible refine Blk2.drewN ?_) | (with_reducible refine Blk2.alloc ?_ _)))
      · have tE : (divE k == 0) = true := by unfold divE; rw [if_neg hz]; rfl
        obtain ⟨D, hD0, hD1, hDr⟩ := rem_digit a k (by omega) hk
        obtain ⟨e1, e2, e3⟩ := back_div (by omega) hk D hDr
        have hrk : remN' a k < (k : Int) := by unfold remN'; rw [if_neg hz]; exact (remZ_lt a k (by omega)).2
        have HE2 := Lib.hid e2
        have HE3 := Lib.hid e3
        have HD0 := Lib.hid hD0
        have HD1 := Lib.hid hD1
        have tE1 : (timesE (divU a k) k != 0) = false := by rw [e1]; rfl
        clear hz e1 e2 e3 hD0 hD1 hDr
        go_wp2_with fail
        refine (times_any (divU a k) k hk _).mono ?_
        rintro e w6 ⟨rfl, hb6⟩
        have B6 : Below w.heap.size w w6 := (by refine below_of ?_ hb6; go_grown)
        have ka6 : Blk2 w6 (w.heap.size) (hiZ a) (loZ a) := (by refine Blk2.keep ?_ hb6; repeat' (first | (with_reducible assumption) | (with_reducible refine Blk2.new_at _ _ (by simp; done)) | (with_reducible refine Blk2.drew ?_) | (with_reducible refine Blk2.drewN ?_) | (with_reducible refine Blk2.alloc ?_ _)))
        have kb6 : Blk2 w6 (w.heap.size + 1) (hiZ b) (loZ b) := (by refine Blk2.keep ?_ hb6; repeat' (first | (with_reducible assumption) | (with_reducible refine Blk2.new_at _ _ (by simp; done)) | (with_reducible refine Blk2.drew ?_) | (with_reducible refine Blk2.drewN ?_) | (with_reducible refine Blk2.alloc ?_ _)))
        have kq6 : Blk2 w6 (w5.heap.size) (hiZ (divU a k)) (loZ (divU a k)) := (by refine Blk2.keep ?_ hb6; repeat' (first | (with_reducible assumption) | (with_reducible refine Blk2.new_at _ _ (by simp; done)) | (with_reducible refine Blk2.drew ?_) | (with_reducible refine Blk2.drewN ?_) | (with_reducible refine Blk2.alloc ?_ _)))
        clear hb6 B5 z5 ka5 ca5 da5 la5 kb5 cb5 db5 lb5
        have z6 := B6.size
        have ca6 := ka6.c0
        have da6 := ka6.c1
        have la6 := ka6.lt
        have cb6 := kb6.c0
        have db6 := kb6.c1
        have lb6 := kb6.lt
        have cq6 := kq6.c0
        have dq6 := kq6.c1
        have lq6 := kq6.lt
        go_upto_region 11 with fail
        go_cut [16, 17] (fun s16 s17 wx => ∃ g, s16 = .pointer (some ⟨g, 0, none⟩) ∧ s17 = .int .i64 0 ∧ Three w wx a b a g)
        case first =>
          go_region_held3 (fun w' => w'.cell? ⟨w6.heap.size, 0, none⟩ = some (.int .u64 (hiZ (timesU (divU a k) k))) ∧ w'.cell? ⟨w6.heap.size, 1, none⟩ = some (.int .u64 (loZ (timesU (divU a k) k)))) (first | exact ⟨by assumption, by assumption⟩ | exact ⟨by (rw [World.cell?_setCell_other _ _ _ _ (by simp), World.cell?_setCell_other _ _ _ _ (by simp)]; assumption), by (rw [World.cell?_setCell_other _ _ _ _ (by simp), World.cell?_setCell_other _ _ _ _ (by simp)]; assumption)⟩ | go_keep) (first
            | (go_at_call 24; refine (of_any _ _).mono ?_; rintro e w7 ⟨rfl, rfl⟩)
            | (go_at_call 13; refine (add_at (a := timesU (divU a k) k) (b := D) rfl rfl HD0.out HD1.out _).mono ?_; rintro e w7 ⟨rfl, hb7⟩; have xT : Blk2 w7 w6.heap.size (hiZ (timesU (divU a k) k)) (loZ (timesU (divU a k) k)) := (by refine Blk2.keep ?_ hb7; repeat' (first | (with_reducible assumption) | (with_reducible refine Blk2.new_at _ _ (by simp; done)) | (with_reducible refine Blk2.drew ?_) | (with_reducible refine Blk2.drewN ?_) | (with_reducible refine Blk2.alloc ?_ _))); have xT0 := xT.c0; have xT1 := xT.c1; clear xT; have xa : Blk2 w7 (w.heap.size) (hiZ a) (loZ a) := (by refine Blk2.keep ?_ hb7; repeat' (first | (with_reducible assumption) | (with_reducible refine Blk2.new_at _ _ (by simp; done)) | (with_reducible refine Blk2.drew ?_) | (with_reducible refine Blk2.drewN ?_) | (with_reducible refine Blk2.alloc ?_ _))); have xb : Blk2 w7 (w.heap.size + 1) (hiZ b) (loZ b) := (by refine Blk2.keep ?_ hb7; repeat' (first | (with_reducible assumption) | (with_reducible refine Blk2.new_at _ _ (by simp; done)) | (with_reducible refine Blk2.drew ?_) | (with_reducible refine Blk2.drewN ?_) | (with_reducible refine Blk2.alloc ?_ _))); have xB : Below w.heap.size w w7 := (by refine below_of ?_ hb7; go_grown); obtain ⟨hc7, hf7⟩ := bcell hb7; have hs7 := hb7.size; have HB7 := Lib.hid hb7; clear hb7))
          all_goals
            go_wp2_with fail
            go_meet
            have xs := xB.size
            have xl := xa.lt
            have xm := xb.lt
            rw [HE2.out, HE3.out]
            refine ⟨_, rfl, rfl, ⟨by go_grown, ?_, ?_⟩, ?_⟩
            · first
              | exact xa.alloc _
              | exact (xa.other _ _ (by simp; omega)).other _ _ (by simp; omega)
            · first
              | exact xb.alloc _
              | exact (xb.other _ _ (by simp; omega)).other _ _ (by simp; omega)
            · first
              | exact Blk2.new _ _ _
              | (refine Blk2.set (h := 0) (l := 0) (Blk2.keep ?_ HB7.out) _ _; repeat' (first | (with_reducible assumption) | (with_reducible refine Blk2.new_at _ _ (by simp; done)) | (with_reducible refine Blk2.drew ?_) | (with_reducible refine Blk2.drewN ?_) | (with_reducible refine Blk2.alloc ?_ _)))
        case rest =>
          obtain ⟨g, rfl, rfl, hC⟩ := hcut
          have ka7 := hC.two.ra; have kb7 := hC.two.rb; have kc7 := hC.rc; have B7 := hC.two.below
          have ca7 := ka7.c0; have da7 := ka7.c1; have cc7 := kc7.c0; have dc7 := kc7.c1
          have hge : decide ((k : Int) ≤ remN' a k) = false := by simp; omega
          clear hC B6 z6 ka6 ca6 da6 la6 kb6 cb6 db6 lb6 kq6 cq6 dq6 lq6
          go_wp2_with fail
          go_meet
          exact ⟨B7, ka7, kb7⟩
    case rest =>
      have hC := hcut
      have B8 := hC.below
      have z8 := B8.size
      have ka8 : Blk2 wc (w.heap.size) (hiZ a) (loZ a) := hC.ra
      have ca8 := ka8.c0
      have da8 := ka8.c1
      have la8 := ka8.lt
      have kb8 : Blk2 wc (w.heap.size + 1) (hiZ b) (loZ b) := hC.rb
      have cb8 := kb8.c0
      have db8 := kb8.c1
      have lb8 := kb8.lt
      clear hcut hC
      go_wp2_with fail
      refine (text_of a _ (tabs_stays HT.out (by go_grown))).mono ?_
      rintro e w9 ⟨rfl, hb9⟩
      have B9 : Below w.heap.size w w9 := (by refine below_of ?_ hb9; go_grown)
      have ka9 : Blk2 w9 (w.heap.size) (hiZ a) (loZ a) := (by refine Blk2.keep ?_ hb9; repeat' (first | (with_reducible assumption) | (with_reducible refine Blk2.new_at _ _ (by simp; done)) | (with_reducible refine Blk2.drew ?_) | (with_reducible refine Blk2.drewN ?_) | (with_reducible refine Blk2.alloc ?_ _)))
      have kb9 : Blk2 w9 (w.heap.size + 1) (hiZ b) (loZ b) := (by refine Blk2.keep ?_ hb9; repeat' (first | (with_reducible assumption) | (with_reducible refine Blk2.new_at _ _ (by simp; done)) | (with_reducible refine Blk2.drew ?_) | (with_reducible refine Blk2.drewN ?_) | (with_reducible refine Blk2.alloc ?_ _)))
      clear hb9 ka8 ca8 da8 la8 kb8 cb8 db8 lb8 B8 z8
      have z9 := B9.size
      have ca9 := ka9.c0
      have da9 := ka9.c1
      have la9 := ka9.lt
      have cb9 := kb9.c0
      have db9 := kb9.c1
      have lb9 := kb9.lt
      go_wp2_with fail
      refine (parse_at a _).mono ?_
      rintro e w10 ⟨rfl, hb10⟩
      have B10 : Below w.heap.size w w10 := (by refine below_of ?_ hb10; go_grown)
      have ka10 : Blk2 w10 (w.heap.size) (hiZ a) (loZ a) := (by refine Blk2.keep ?_ hb10; repeat' (first | (with_reducible assumption) | (with_reducible refine Blk2.new_at _ _ (by simp; done)) | (with_reducible refine Blk2.drew ?_) | (with_reducible refine Blk2.drewN ?_) | (with_reducible refine Blk2.alloc ?_ _)))
      have kb10 : Blk2 w10 (w.heap.size + 1) (hiZ b) (loZ b) := (by refine Blk2.keep ?_ hb10; repeat' (first | (with_reducible assumption) | (with_reducible refine Blk2.new_at _ _ (by simp; done)) | (with_reducible refine Blk2.drew ?_) | (with_reducible refine Blk2.drewN ?_) | (with_reducible refine Blk2.alloc ?_ _)))
      clear hb10 B9 z9 ka9 ca9 da9 la9 kb9 cb9 db9 lb9
      have z10 := B10.size
      have ca10 := ka10.c0
      have da10 := ka10.c1
      have la10 := ka10.lt
      have cb10 := kb10.c0
      have db10 := kb10.c1
      have lb10 := kb10.lt
      go_upto_region 16 with fail
      have hcase : ∃ p q r : Bool, (lessB a b = p ∧ lessB b a = q ∧ (∀ w, (binOp .eql 24 (.agg #[.int .u64 (hiZ a), .int .u64 (loZ a)]) (.agg #[.int .u64 (hiZ b), .int .u64 (loZ b)])).run Tryd.prog w = .ok (.bool r) w)) ∧ ((p = true ∧ q = false ∧ r = false) ∨ (p = false ∧ q = true ∧ r = false) ∨ (p = false ∧ q = false ∧ r = true)) := by
        rcases trich a b with ⟨l1, l2, ne⟩ | ⟨l1, l2, ne⟩ | ⟨l1, l2, eh, el⟩
        · exact ⟨_, _, _, ⟨l1, l2, eql_no ne⟩, Or.inl ⟨rfl, rfl, rfl⟩⟩
        · exact ⟨_, _, _, ⟨l1, l2, eql_no ne⟩, Or.inr (Or.inl ⟨rfl, rfl, rfl⟩)⟩
        · exact ⟨_, _, _, ⟨l1, l2, eql_yes eh el⟩, Or.inr (Or.inr ⟨rfl, rfl, rfl⟩)⟩
      obtain ⟨p, q, r, ⟨l1, l2, he⟩, hpqr⟩ := hcase
      have HP := Lib.hid hpqr
      clear hpqr
      go_region_held3 (fun w' => w'.cell? ⟨w.heap.size, 0, none⟩ = some (.int .u64 (hiZ a)) ∧ w'.cell? ⟨w.heap.size, 1, none⟩ = some (.int .u64 (loZ a)) ∧ w'.cell? ⟨w.heap.size + 1, 0, none⟩ = some (.int .u64 (hiZ b)) ∧ w'.cell? ⟨w.heap.size + 1, 1, none⟩ = some (.int .u64 (loZ b))) (first | exact ⟨by assumption, by assumption, by assumption, by assumption⟩ | go_keep) (first
        | (go_at_call 22; refine (less_any _ _ _).mono ?_; rintro e wx ⟨rfl, hbx⟩; have xa : Blk2 wx (w.heap.size) (hiZ a) (loZ a) := (by refine Blk2.keep ?_ hbx; repeat' (first | (with_reducible assumption) | (with_reducible refine Blk2.new_at _ _ (by simp; done)) | (with_reducible refine Blk2.drew ?_) | (with_reducible refine Blk2.drewN ?_) | (with_reducible refine Blk2.alloc ?_ _))); have xb : Blk2 wx (w.heap.size + 1) (hiZ b) (loZ b) := (by refine Blk2.keep ?_ hbx; repeat' (first | (with_reducible assumption) | (with_reducible refine Blk2.new_at _ _ (by simp; done)) | (with_reducible refine Blk2.drew ?_) | (with_reducible refine Blk2.drewN ?_) | (with_reducible refine Blk2.alloc ?_ _))); have xx : Blk2 wx (w10.heap.size) (hiZ a) (loZ a) := (by refine Blk2.keep ?_ hbx; repeat' (first | (with_reducible assumption) | (with_reducible refine Blk2.new_at _ _ (by simp; done)) | (with_reducible refine Blk2.drew ?_) | (with_reducible refine Blk2.drewN ?_) | (with_reducible refine Blk2.alloc ?_ _))); have xa0 := xa.c0; have xa1 := xa.c1; have xa2 := xa.lt; have xb0 := xb.c0; have xb1 := xb.c1; have xb2 := xb.lt; have xx0 := xx.c0; have xx1 := xx.c1; have xx2 := xx.lt; have xB : Below w.heap.size w wx := (by refine below_of ?_ hbx; go_grown); have xz := xB.size; clear hbx))
      all_goals
        clear l1 l2 he
        rcases HP.out with ⟨rfl, rfl, rfl⟩ | ⟨rfl, rfl, rfl⟩ | ⟨rfl, rfl, rfl⟩
        all_goals
          clear HP
          go_wp2_with fail
          go_rounds 4
          all_goals
            go_ret
            exact ⟨rfl, by go_grown⟩
end Go.Proofs.YtklmllkpedailaaDoor
