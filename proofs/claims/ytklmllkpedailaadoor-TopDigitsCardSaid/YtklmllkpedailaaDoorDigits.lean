/-
  WALKS: plimsolltop.TopDigits: it answers true.
-/
import Derived.Test.YtklmllkpedailaaDoorBack
import Derived.Test.YtklmllkpedailaaDoorLives
import Derived.Test.YtklmllkpedailaaDoorBegins
import Derived.Deep.RegionHeld3
namespace Go.Proofs.YtklmllkpedailaaDoor
open Go Go.RowKit

structure DigC (w wx : World) (a m : U) (g : Nat) : Prop where
  below : Below w.heap.size w wx
  ra : Blk2 wx w.heap.size (hiZ a) (loZ a)
  rc : Blk2 wx g (hiZ m) (loZ m)
theorem dg_hi {r : Nat} (h : r < 10) : (0 : Int) = hiZ (cutU r) := by have := cutU_n (n := r) (by omega); unfold hiZ; omega
theorem dg_lo {r : Nat} (h : r < 10) : (r : Int) = loZ (cutU r) := by have := cutU_n (n := r) (by omega); unfold loZ; omega

def digS (r : Nat) : ByteArray := ⟨#[UInt8.ofNat (48 + r)]⟩
theorem dg_text {m : U} {T : ByteArray} (hT : T = ⟨(Lib.decDigits m.n).toArray⟩) (w : World) (h : tabs w) :
    Calls Tryd.prog 29 #[.agg #[.int .u64 (hiZ m), .int .u64 (loZ m)]] w fun e w' => e = .returned (.string T) ∧ Below w.heap.size w w' := by
  subst hT
  exact text_of m w h
theorem dg_parse {m : U} {T : ByteArray} (hT : T = ⟨(Lib.decDigits m.n).toArray⟩) (w : World) :
    Calls Tryd.prog 25 #[.string T] w fun e w' =>
      e = .returned (.tuple #[.agg #[.int .u64 (hiZ m), .int .u64 (loZ m)], .int .i64 0]) ∧ Below w.heap.size w w' := by
  subst hT
  exact parse_at m w
theorem dg_div {m a : U} {r : Int} (h1 : divU m 10 = a) (h2 : remZ m 10 = r) (w : World) :
    Calls Tryd.prog 19 #[.agg #[.int .u64 (hiZ m), .int .u64 (loZ m)], .int .u64 10] w fun e w' =>
      e = .returned (.tuple #[.agg #[.int .u64 (hiZ a), .int .u64 (loZ a)], .int .u64 r, .int .i64 0]) ∧ Below w.heap.size w w' := by
  subst h1 h2
  exact wdiv_at rfl rfl 10 (by decide) (by decide) w
theorem dg_m {a : U} {r : Nat} (hr : r < 10) (hm : a.n * 10 < 340282366920938463463374607431768211456) (h : a.n * 10 + r < 340282366920938463463374607431768211456) : (addU (timesU a 10) (cutU r)).n = a.n * 10 + r := by
  unfold addU timesU
  rw [cutU_n hm, cutU_n (n := r) (by omega)]
  exact cutU_n h
theorem dg_facts {a : U} {r : Nat} (hr : r < 10) (hm : a.n * 10 < 340282366920938463463374607431768211456) (h : a.n * 10 + r < 340282366920938463463374607431768211456) :
    divU (addU (timesU a 10) (cutU r)) 10 = a ∧ remZ (addU (timesU a 10) (cutU r)) 10 = r ∧ (a.n = 0 → digS r = ⟨(Lib.decDigits (addU (timesU a 10) (cutU r)).n).toArray⟩) ∧
      (a.n ≠ 0 → (⟨(Lib.decDigits a.n).toArray⟩ : ByteArray) ++ digS r = ⟨(Lib.decDigits (addU (timesU a 10) (cutU r)).n).toArray⟩) := by
  have e := dg_m hr hm h
  refine ⟨U.ext ?_, ?_, ?_, ?_⟩
  · show (addU (timesU a 10) (cutU r)).n / 10 = a.n
    rw [e]; omega
  · unfold remZ; rw [e]; omega
  · intro h0
    rw [e, h0, show 0 * 10 + r = r by omega, dec_small hr]
    rfl
  · intro h0
    rw [e, dec_big (b := a.n * 10 + r) (by omega), show (a.n * 10 + r) / 10 = a.n by omega, show (a.n * 10 + r) % 10 = r by omega]
    unfold digS
    apply ByteArray.ext
    simp
set_option maxRecDepth 100000 in
theorem slice_digit {r : Nat} (h : r < 10) (w : World) :
    Sem.run Tryd.prog (Instr.slice 9 (Value.string { data := #[48, 49, 50, 51, 52, 53, 54, 55, 56, 57] }) (some (Value.int IntKind.u64 r)) (some (Value.int IntKind.u64 (r + 1))) none) w = .ok (.string (digS r)) w := by
  match r, h with
  | 0, _ => first | rfl | (unfold digS; rfl) | (unfold digS; go_simp)
  | 1, _ => first | rfl | (unfold digS; rfl) | (unfold digS; go_simp)
  | 2, _ => first | rfl | (unfold digS; rfl) | (unfold digS; go_simp)
  | 3, _ => first | rfl | (unfold digS; rfl) | (unfold digS; go_simp)
  | 4, _ => first | rfl | (unfold digS; rfl) | (unfold digS; go_simp)
  | 5, _ => first | rfl | (unfold digS; rfl) | (unfold digS; go_simp)
  | 6, _ => first | rfl | (unfold digS; rfl) | (unfold digS; go_simp)
  | 7, _ => first | rfl | (unfold digS; rfl) | (unfold digS; go_simp)
  | 8, _ => first | rfl | (unfold digS; rfl) | (unfold digS; go_simp)
  | 9, _ => first | rfl | (unfold digS; rfl) | (unfold digS; go_simp)

theorem b_eq {p q : Bool} (h : p = q) : Ending.returned (.bool p) = Ending.returned (.bool q) := by rw [h]
set_option maxHeartbeats 8000000 in
set_option maxRecDepth 100000 in
theorem digits_okz (hbeg : ∀ w, tabs w → Calls Tryd.prog 46 #[] w fun e w' => e = .returned (.bool true) ∧ Below w.heap.size w w') (a : U) (k : Nat) (hk : k < 256) (w : World) (htab : tabs w) (D : U) (hD : D = cutU (k % 10)) (ha : a.n = 0) (hm : a.n * 10 < 340282366920938463463374607431768211456) (hm2 : a.n * 10 + k % 10 < 340282366920938463463374607431768211456) (he : addE (timesU a 10) D = 0) :
    Calls Tryd.prog 11 #[.agg #[.int .u64 (hiZ a), .int .u64 (loZ a)], .int .u8 k] w fun e w' => e = .returned (.bool true) ∧ Below w.heap.size w w' := by
  have HT := Lib.hid htab
  obtain ⟨r, hr, hr', hr10⟩ : ∃ r : Nat, (k : Int) % 10 = r ∧ k % 10 = r ∧ r < 10 := ⟨k % 10, by omega, rfl, by omega⟩
  rw [hr'] at hD hm2
  obtain ⟨q1, q2, q3, q4⟩ := dg_facts hr10 hm hm2
  rw [← hD] at q1 q2 q3 q4
  have Q1 := Lib.hid q1
  have Q2 := Lib.hid q2
  have QT := Lib.hid (q3 ha)
  have hz := eql_yes (x := hiZ a) (y := loZ a) (x' := 0) (y' := 0) ((zero_iff a).2 ha).1 ((zero_iff a).2 ha).2
  have HD0 := Lib.hid (hD ▸ dg_hi hr10)
  have HD1 := Lib.hid (hD ▸ dg_lo hr10)
  have h0 : timesE a 10 = 0 := cutE_lt hm
  have t0 : (timesE a 10 != 0) = false := by rw [h0]; rfl
  have tE : (addE (timesU a 10) D != 0) = false := by rw [he]; rfl
  have HE := Lib.hid he
  have HM := Lib.hid hm
  clear htab hD hr' he hm hm2 q1 q2 q3 q4 ha
  go_enter Tryd.func11, Tryd.ntmps11
  go_wp2_with fail
  have ka0 : Blk2 (w.alloc (.cells #[.int .u64 (hiZ a), .int .u64 (loZ a)] 24)) (w.heap.size) (hiZ a) (loZ a) := (by repeat' (first | (with_reducible assumption) | ((with_reducible refine Blk2.new_at _ _ ?_); (simp; done)) | ((with_reducible refine Blk4.new_at _ _ ?_); (simp; done)) | (with_reducible refine Blk2.drew ?_) | (with_reducible refine Blk2.drewN ?_) | (with_reducible refine Blk2.alloc ?_ _) | (with_reducible refine Blk4.drew ?_) | (with_reducible refine Blk4.drewN ?_) | (with_reducible refine Blk4.alloc ?_ _)))
  have B0 : Below w.heap.size w (w.alloc (.cells #[.int .u64 (hiZ a), .int .u64 (loZ a)] 24)) := (by go_grown)
  generalize (w.alloc (.cells #[.int .u64 (hiZ a), .int .u64 (loZ a)] 24)) = w0 at *
  have z0 := B0.size
  have ca0 := ka0.c0; have da0 := ka0.c1; have fa0 := ka0.f0; have ga0 := ka0.f1; have la0 := ka0.lt
  refine (hbeg _ (tabs_stays HT.out (by go_grown))).mono ?_
  rintro e w1 ⟨rfl, hb1⟩
  have B1 : Below w.heap.size w w1 := (by refine below_of ?_ hb1; go_grown)
  have ka1 : Blk2 w1 (w.heap.size) (hiZ a) (loZ a) := (by refine Blk2.keep ?_ hb1; repeat' (first | (with_reducible assumption) | ((with_reducible refine Blk2.new_at _ _ ?_); (simp; done)) | ((with_reducible refine Blk4.new_at _ _ ?_); (simp; done)) | (with_reducible refine Blk2.drew ?_) | (with_reducible refine Blk2.drewN ?_) | (with_reducible refine Blk2.alloc ?_ _) | (with_reducible refine Blk4.drew ?_) | (with_reducible refine Blk4.drewN ?_) | (with_reducible refine Blk4.alloc ?_ _)))
  clear hb1 B0 z0 ka0 ca0 da0 fa0 ga0 la0
  have z1 := B1.size
  have ca1 := ka1.c0; have da1 := ka1.c1; have fa1 := ka1.f0; have ga1 := ka1.f1; have la1 := ka1.lt
  go_wp2_with fail
  refine (times_at (a := a) rfl rfl 10 (by decide) _).mono ?_
  rintro e w2 ⟨rfl, hb2⟩
  have B2 : Below w.heap.size w w2 := (by refine below_of ?_ hb2; go_grown)
  have ka2 : Blk2 w2 (w.heap.size) (hiZ a) (loZ a) := (by refine Blk2.keep ?_ hb2; repeat' (first | (with_reducible assumption) | ((with_reducible refine Blk2.new_at _ _ ?_); (simp; done)) | ((with_reducible refine Blk4.new_at _ _ ?_); (simp; done)) | (with_reducible refine Blk2.drew ?_) | (with_reducible refine Blk2.drewN ?_) | (with_reducible refine Blk2.alloc ?_ _) | (with_reducible refine Blk4.drew ?_) | (with_reducible refine Blk4.drewN ?_) | (with_reducible refine Blk4.alloc ?_ _)))
  clear hb2 B1 z1 ka1 ca1 da1 fa1 ga1 la1
  have z2 := B2.size
  have ca2 := ka2.c0; have da2 := ka2.c1; have fa2 := ka2.f0; have ga2 := ka2.f1; have la2 := ka2.lt
  go_upto_region 5 with fail
  go_cut [8, 9] (fun s8 s9 wx => ∃ g, s8 = .pointer (some ⟨g, 0, none⟩) ∧ s9 = .int .i64 (addE (timesU a 10) D) ∧ DigC w wx a (addU (timesU a 10) D) g)
  case first =>
    go_region_held3 (fun w' => w'.cell? ⟨w2.heap.size, 0, none⟩ = some (.int .u64 (hiZ (timesU a 10))) ∧ w'.cell? ⟨w2.heap.size, 1, none⟩ = some (.int .u64 (loZ (timesU a 10)))) (first | exact ⟨by assumption, by assumption⟩ | exact ⟨by (rw [World.cell?_setCell_other _ _ _ _ (by simp), World.cell?_setCell_other _ _ _ _ (by simp)]; assumption), by (rw [World.cell?_setCell_other _ _ _ _ (by simp), World.cell?_setCell_other _ _ _ _ (by simp)]; assumption)⟩ | go_keep) (first
      | (go_at_call 24; refine (of_any _ _).mono ?_; rintro e w7 ⟨rfl, rfl⟩)
      | (go_at_call 13; refine (add_at (a := timesU a 10) (b := D) rfl rfl HD0.out HD1.out _).mono ?_; rintro e w7 ⟨rfl, hb7⟩; have xT : Blk2 w7 w2.heap.size (hiZ (timesU a 10)) (loZ (timesU a 10)) := (by refine Blk2.keep ?_ hb7; repeat' (first | (with_reducible assumption) | ((with_reducible refine Blk2.new_at _ _ ?_); (simp; done)) | ((with_reducible refine Blk4.new_at _ _ ?_); (simp; done)) | (with_reducible refine Blk2.drew ?_) | (with_reducible refine Blk2.drewN ?_) | (with_reducible refine Blk2.alloc ?_ _) | (with_reducible refine Blk4.drew ?_) | (with_reducible refine Blk4.drewN ?_) | (with_reducible refine Blk4.alloc ?_ _))); have xT0 := xT.c0; have xT1 := xT.c1; clear xT; have xa : Blk2 w7 (w.heap.size) (hiZ a) (loZ a) := (by refine Blk2.keep ?_ hb7; repeat' (first | (with_reducible assumption) | ((with_reducible refine Blk2.new_at _ _ ?_); (simp; done)) | ((with_reducible refine Blk4.new_at _ _ ?_); (simp; done)) | (with_reducible refine Blk2.drew ?_) | (with_reducible refine Blk2.drewN ?_) | (with_reducible refine Blk2.alloc ?_ _) | (with_reducible refine Blk4.drew ?_) | (with_reducible refine Blk4.drewN ?_) | (with_reducible refine Blk4.alloc ?_ _))); have xB : Below w.heap.size w w7 := (by refine below_of ?_ hb7; go_grown); obtain ⟨hc7, hf7⟩ := bcell hb7; have hs7 := hb7.size; have HB7 := Lib.hid hb7; clear hb7))
    all_goals
      go_wp2_with fail
      go_meet
      have xs := xB.size
      have xl := xa.lt
      refine ⟨_, rfl, rfl, by go_grown, ?_, ?_⟩
      · first
        | exact xa.alloc _
        | exact (xa.other _ _ (by simp; omega)).other _ _ (by simp; omega)
      · first
        | exact Blk2.new _ _ _
        | (refine Blk2.set (h := 0) (l := 0) (Blk2.keep ?_ HB7.out) _ _; repeat' (first | (with_reducible assumption) | ((with_reducible refine Blk2.new_at _ _ ?_); (simp; done)) | ((with_reducible refine Blk4.new_at _ _ ?_); (simp; done)) | (with_reducible refine Blk2.drew ?_) | (with_reducible refine Blk2.drewN ?_) | (with_reducible refine Blk2.alloc ?_ _) | (with_reducible refine Blk4.drew ?_) | (with_reducible refine Blk4.drewN ?_) | (with_reducible refine Blk4.alloc ?_ _)))
  case rest =>
    obtain ⟨g, rfl, rfl, hC⟩ := hcut
    have ka3 := hC.ra; have kc3 := hC.rc; have B3 := hC.below
    have ca3 := ka3.c0; have da3 := ka3.c1; have la3 := ka3.lt; have cc3 := kc3.c0; have dc3 := kc3.c1; have lc3 := kc3.lt
    clear hC B2 z2 ka2 ca2 da2 fa2 ga2 la2
    have hsl := slice_digit hr10
    have hl1 : (Lib.decDigits a.n).length ≤ 39 := by rw [Lib.decDigits_length]; exact nd_le39 _
    have hl2 : (digS r).size = 1 := rfl
    go_wp2_with fail
    have km3 := kc3
    refine (text_at (a := a) rfl rfl _ (tabs_stays HT.out (by go_grown))).mono ?_
    rintro e w4 ⟨rfl, hb4⟩
    have B4 : Below w.heap.size w w4 := (by refine below_of ?_ hb4; go_grown)
    have ka4 : Blk2 w4 (w.heap.size) (hiZ a) (loZ a) := (by refine Blk2.keep ?_ hb4; repeat' (first | (with_reducible assumption) | ((with_reducible refine Blk2.new_at _ _ ?_); (simp; done)) | ((with_reducible refine Blk4.new_at _ _ ?_); (simp; done)) | (with_reducible refine Blk2.drew ?_) | (with_reducible refine Blk2.drewN ?_) | (with_reducible refine Blk2.alloc ?_ _) | (with_reducible refine Blk4.drew ?_) | (with_reducible refine Blk4.drewN ?_) | (with_reducible refine Blk4.alloc ?_ _)))
    have km4 : Blk2 w4 (g) (hiZ (addU (timesU a 10) D)) (loZ (addU (timesU a 10) D)) := (by refine Blk2.keep ?_ hb4; repeat' (first | (with_reducible assumption) | ((with_reducible refine Blk2.new_at _ _ ?_); (simp; done)) | ((with_reducible refine Blk4.new_at _ _ ?_); (simp; done)) | (with_reducible refine Blk2.drew ?_) | (with_reducible refine Blk2.drewN ?_) | (with_reducible refine Blk2.alloc ?_ _) | (with_reducible refine Blk4.drew ?_) | (with_reducible refine Blk4.drewN ?_) | (with_reducible refine Blk4.alloc ?_ _)))
    clear hb4 ka3 ca3 da3 la3 kc3 cc3 dc3 lc3 B3
    have z4 := B4.size
    have ca4 := ka4.c0; have da4 := ka4.c1; have fa4 := ka4.f0; have ga4 := ka4.f1; have la4 := ka4.lt
    have cm4 := km4.c0; have dm4 := km4.c1; have fm4 := km4.f0; have gm4 := km4.f1; have lm4 := km4.lt
    go_wp2_with fail
    refine (dg_parse QT.out _).mono ?_
    rintro e w5 ⟨rfl, hb5⟩
    have B5 : Below w.heap.size w w5 := (by refine below_of ?_ hb5; go_grown)
    have ka5 : Blk2 w5 (w.heap.size) (hiZ a) (loZ a) := (by refine Blk2.keep ?_ hb5; repeat' (first | (with_reducible assumption) | ((with_reducible refine Blk2.new_at _ _ ?_); (simp; done)) | ((with_reducible refine Blk4.new_at _ _ ?_); (simp; done)) | (with_reducible refine Blk2.drew ?_) | (with_reducible refine Blk2.drewN ?_) | (with_reducible refine Blk2.alloc ?_ _) | (with_reducible refine Blk4.drew ?_) | (with_reducible refine Blk4.drewN ?_) | (with_reducible refine Blk4.alloc ?_ _)))
    have km5 : Blk2 w5 (g) (hiZ (addU (timesU a 10) D)) (loZ (addU (timesU a 10) D)) := (by refine Blk2.keep ?_ hb5; repeat' (first | (with_reducible assumption) | ((with_reducible refine Blk2.new_at _ _ ?_); (simp; done)) | ((with_reducible refine Blk4.new_at _ _ ?_); (simp; done)) | (with_reducible refine Blk2.drew ?_) | (with_reducible refine Blk2.drewN ?_) | (with_reducible refine Blk2.alloc ?_ _) | (with_reducible refine Blk4.drew ?_) | (with_reducible refine Blk4.drewN ?_) | (with_reducible refine Blk4.alloc ?_ _)))
    clear hb5 B4 z4 ka4 ca4 da4 fa4 ga4 la4 km4 cm4 dm4 fm4 gm4 lm4
    have z5 := B5.size
    have ca5 := ka5.c0; have da5 := ka5.c1; have fa5 := ka5.f0; have ga5 := ka5.f1; have la5 := ka5.lt
    have cm5 := km5.c0; have dm5 := km5.c1; have fm5 := km5.f0; have gm5 := km5.f1; have lm5 := km5.lt
    go_wp2_with fail
    refine (dg_div Q1.out Q2.out _).mono ?_
    rintro e w6 ⟨rfl, hb6⟩
    have B6 : Below w.heap.size w w6 := (by refine below_of ?_ hb6; go_grown)
    have ka6 : Blk2 w6 (w.heap.size) (hiZ a) (loZ a) := (by refine Blk2.keep ?_ hb6; repeat' (first | (with_reducible assumption) | ((with_reducible refine Blk2.new_at _ _ ?_); (simp; done)) | ((with_reducible refine Blk4.new_at _ _ ?_); (simp; done)) | (with_reducible refine Blk2.drew ?_) | (with_reducible refine Blk2.drewN ?_) | (with_reducible refine Blk2.alloc ?_ _) | (with_reducible refine Blk4.drew ?_) | (with_reducible refine Blk4.drewN ?_) | (with_reducible refine Blk4.alloc ?_ _)))
    have km6 : Blk2 w6 (g) (hiZ (addU (timesU a 10) D)) (loZ (addU (timesU a 10) D)) := (by refine Blk2.keep ?_ hb6; repeat' (first | (with_reducible assumption) | ((with_reducible refine Blk2.new_at _ _ ?_); (simp; done)) | ((with_reducible refine Blk4.new_at _ _ ?_); (simp; done)) | (with_reducible refine Blk2.drew ?_) | (with_reducible refine Blk2.drewN ?_) | (with_reducible refine Blk2.alloc ?_ _) | (with_reducible refine Blk4.drew ?_) | (with_reducible refine Blk4.drewN ?_) | (with_reducible refine Blk4.alloc ?_ _)))
    have kx6 : Blk2 w6 (w5.heap.size) (hiZ (addU (timesU a 10) D)) (loZ (addU (timesU a 10) D)) := (by refine Blk2.keep ?_ hb6; repeat' (first | (with_reducible assumption) | ((with_reducible refine Blk2.new_at _ _ ?_); (simp; done)) | ((with_reducible refine Blk4.new_at _ _ ?_); (simp; done)) | (with_reducible refine Blk2.drew ?_) | (with_reducible refine Blk2.drewN ?_) | (with_reducible refine Blk2.alloc ?_ _) | (with_reducible refine Blk4.drew ?_) | (with_reducible refine Blk4.drewN ?_) | (with_reducible refine Blk4.alloc ?_ _)))
    clear hb6 B5 z5 ka5 ca5 da5 fa5 ga5 la5 km5 cm5 dm5 fm5 gm5 lm5
    have z6 := B6.size
    have ca6 := ka6.c0; have da6 := ka6.c1; have fa6 := ka6.f0; have ga6 := ka6.f1; have la6 := ka6.lt
    have cm6 := km6.c0; have dm6 := km6.c1; have fm6 := km6.f0; have gm6 := km6.f1; have lm6 := km6.lt
    have cx6 := kx6.c0; have dx6 := kx6.c1; have fx6 := kx6.f0; have gx6 := kx6.f1; have lx6 := kx6.lt
    go_wp2_with fail
    refine (dg_text QT.out _ (tabs_stays HT.out (by go_grown))).mono ?_
    rintro e w7 ⟨rfl, hb7⟩
    have B7 : Below w.heap.size w w7 := (by refine below_of ?_ hb7; go_grown)
    have ka7 : Blk2 w7 (w.heap.size) (hiZ a) (loZ a) := (by refine Blk2.keep ?_ hb7; repeat' (first | (with_reducible assumption) | ((with_reducible refine Blk2.new_at _ _ ?_); (simp; done)) | ((with_reducible refine Blk4.new_at _ _ ?_); (simp; done)) | (with_reducible refine Blk2.drew ?_) | (with_reducible refine Blk2.drewN ?_) | (with_reducible refine Blk2.alloc ?_ _) | (with_reducible refine Blk4.drew ?_) | (with_reducible refine Blk4.drewN ?_) | (with_reducible refine Blk4.alloc ?_ _)))
    have km7 : Blk2 w7 (g) (hiZ (addU (timesU a 10) D)) (loZ (addU (timesU a 10) D)) := (by refine Blk2.keep ?_ hb7; repeat' (first | (with_reducible assumption) | ((with_reducible refine Blk2.new_at _ _ ?_); (simp; done)) | ((with_reducible refine Blk4.new_at _ _ ?_); (simp; done)) | (with_reducible refine Blk2.drew ?_) | (with_reducible refine Blk2.drewN ?_) | (with_reducible refine Blk2.alloc ?_ _) | (with_reducible refine Blk4.drew ?_) | (with_reducible refine Blk4.drewN ?_) | (with_reducible refine Blk4.alloc ?_ _)))
    have kx7 : Blk2 w7 (w5.heap.size) (hiZ (addU (timesU a 10) D)) (loZ (addU (timesU a 10) D)) := (by refine Blk2.keep ?_ hb7; repeat' (first | (with_reducible assumption) | ((with_reducible refine Blk2.new_at _ _ ?_); (simp; done)) | ((with_reducible refine Blk4.new_at _ _ ?_); (simp; done)) | (with_reducible refine Blk2.drew ?_) | (with_reducible refine Blk2.drewN ?_) | (with_reducible refine Blk2.alloc ?_ _) | (with_reducible refine Blk4.drew ?_) | (with_reducible refine Blk4.drewN ?_) | (with_reducible refine Blk4.alloc ?_ _)))
    have kb7 : Blk2 w7 (w6.heap.size) (hiZ a) (loZ a) := (by refine Blk2.keep ?_ hb7; repeat' (first | (with_reducible assumption) | ((with_reducible refine Blk2.new_at _ _ ?_); (simp; done)) | ((with_reducible refine Blk4.new_at _ _ ?_); (simp; done)) | (with_reducible refine Blk2.drew ?_) | (with_reducible refine Blk2.drewN ?_) | (with_reducible refine Blk2.alloc ?_ _) | (with_reducible refine Blk4.drew ?_) | (with_reducible refine Blk4.drewN ?_) | (with_reducible refine Blk4.alloc ?_ _)))
    clear hb7 B6 z6 ka6 ca6 da6 fa6 ga6 la6 km6 cm6 dm6 fm6 gm6 lm6 kx6 cx6 dx6 fx6 gx6 lx6
    have z7 := B7.size
    have ca7 := ka7.c0; have da7 := ka7.c1; have fa7 := ka7.f0; have ga7 := ka7.f1; have la7 := ka7.lt
    have cm7 := km7.c0; have dm7 := km7.c1; have fm7 := km7.f0; have gm7 := km7.f1; have lm7 := km7.lt
    have cx7 := kx7.c0; have dx7 := kx7.c1; have fx7 := kx7.f0; have gx7 := kx7.f1; have lx7 := kx7.lt
    have cb7 := kb7.c0; have db7 := kb7.c1; have fb7 := kb7.f0; have gb7 := kb7.f1; have lb7 := kb7.lt
    go_wp2_with fail
    go_ret
    exact ⟨rfl, by go_grown⟩
set_option maxHeartbeats 8000000 in
set_option maxRecDepth 100000 in
theorem digits_okn (hbeg : ∀ w, tabs w → Calls Tryd.prog 46 #[] w fun e w' => e = .returned (.bool true) ∧ Below w.heap.size w w') (a : U) (k : Nat) (hk : k < 256) (w : World) (htab : tabs w) (D : U) (hD : D = cutU (k % 10)) (ha : a.n ≠ 0) (hm : a.n * 10 < 340282366920938463463374607431768211456) (hm2 : a.n * 10 + k % 10 < 340282366920938463463374607431768211456) (he : addE (timesU a 10) D = 0) :
    Calls Tryd.prog 11 #[.agg #[.int .u64 (hiZ a), .int .u64 (loZ a)], .int .u8 k] w fun e w' => e = .returned (.bool true) ∧ Below w.heap.size w w' := by
  have HT := Lib.hid htab
  obtain ⟨r, hr, hr', hr10⟩ : ∃ r : Nat, (k : Int) % 10 = r ∧ k % 10 = r ∧ r < 10 := ⟨k % 10, by omega, rfl, by omega⟩
  rw [hr'] at hD hm2
  obtain ⟨q1, q2, q3, q4⟩ := dg_facts hr10 hm hm2
  rw [← hD] at q1 q2 q3 q4
  have Q1 := Lib.hid q1
  have Q2 := Lib.hid q2
  have QT := Lib.hid (q4 ha)
  have hz := eql_no (x := hiZ a) (y := loZ a) (x' := 0) (y' := 0) (fun h => ha ((zero_iff a).1 h))
  have HD0 := Lib.hid (hD ▸ dg_hi hr10)
  have HD1 := Lib.hid (hD ▸ dg_lo hr10)
  have h0 : timesE a 10 = 0 := cutE_lt hm
  have t0 : (timesE a 10 != 0) = false := by rw [h0]; rfl
  have tE : (addE (timesU a 10) D != 0) = false := by rw [he]; rfl
  have HE := Lib.hid he
  have HM := Lib.hid hm
  clear htab hD hr' he hm hm2 q1 q2 q3 q4 ha
  go_enter Tryd.func11, Tryd.ntmps11
  go_wp2_with fail
  have ka0 : Blk2 (w.alloc (.cells #[.int .u64 (hiZ a), .int .u64 (loZ a)] 24)) (w.heap.size) (hiZ a) (loZ a) := (by repeat' (first | (with_reducible assumption) | ((with_reducible refine Blk2.new_at _ _ ?_); (simp; done)) | ((with_reducible refine Blk4.new_at _ _ ?_); (simp; done)) | (with_reducible refine Blk2.drew ?_) | (with_reducible refine Blk2.drewN ?_) | (with_reducible refine Blk2.alloc ?_ _) | (with_reducible refine Blk4.drew ?_) | (with_reducible refine Blk4.drewN ?_) | (with_reducible refine Blk4.alloc ?_ _)))
  have B0 : Below w.heap.size w (w.alloc (.cells #[.int .u64 (hiZ a), .int .u64 (loZ a)] 24)) := (by go_grown)
  generalize (w.alloc (.cells #[.int .u64 (hiZ a), .int .u64 (loZ a)] 24)) = w0 at *
  have z0 := B0.size
  have ca0 := ka0.c0; have da0 := ka0.c1; have fa0 := ka0.f0; have ga0 := ka0.f1; have la0 := ka0.lt
  refine (hbeg _ (tabs_stays HT.out (by go_grown))).mono ?_
  rintro e w1 ⟨rfl, hb1⟩
  have B1 : Below w.heap.size w w1 := (by refine below_of ?_ hb1; go_grown)
  have ka1 : Blk2 w1 (w.heap.size) (hiZ a) (loZ a) := (by refine Blk2.keep ?_ hb1; repeat' (first | (with_reducible assumption) | ((with_reducible refine Blk2.new_at _ _ ?_); (simp; done)) | ((with_reducible refine Blk4.new_at _ _ ?_); (simp; done)) | (with_reducible refine Blk2.drew ?_) | (with_reducible refine Blk2.drewN ?_) | (with_reducible refine Blk2.alloc ?_ _) | (with_reducible refine Blk4.drew ?_) | (with_reducible refine Blk4.drewN ?_) | (with_reducible refine Blk4.alloc ?_ _)))
  clear hb1 B0 z0 ka0 ca0 da0 fa0 ga0 la0
  have z1 := B1.size
  have ca1 := ka1.c0; have da1 := ka1.c1; have fa1 := ka1.f0; have ga1 := ka1.f1; have la1 := ka1.lt
  go_wp2_with fail
  refine (times_at (a := a) rfl rfl 10 (by decide) _).mono ?_
  rintro e w2 ⟨rfl, hb2⟩
  have B2 : Below w.heap.size w w2 := (by refine below_of ?_ hb2; go_grown)
  have ka2 : Blk2 w2 (w.heap.size) (hiZ a) (loZ a) := (by refine Blk2.keep ?_ hb2; repeat' (first | (with_reducible assumption) | ((with_reducible refine Blk2.new_at _ _ ?_); (simp; done)) | ((with_reducible refine Blk4.new_at _ _ ?_); (simp; done)) | (with_reducible refine Blk2.drew ?_) | (with_reducible refine Blk2.drewN ?_) | (with_reducible refine Blk2.alloc ?_ _) | (with_reducible refine Blk4.drew ?_) | (with_reducible refine Blk4.drewN ?_) | (with_reducible refine Blk4.alloc ?_ _)))
  clear hb2 B1 z1 ka1 ca1 da1 fa1 ga1 la1
  have z2 := B2.size
  have ca2 := ka2.c0; have da2 := ka2.c1; have fa2 := ka2.f0; have ga2 := ka2.f1; have la2 := ka2.lt
  go_upto_region 5 with fail
  go_cut [8, 9] (fun s8 s9 wx => ∃ g, s8 = .pointer (some ⟨g, 0, none⟩) ∧ s9 = .int .i64 (addE (timesU a 10) D) ∧ DigC w wx a (addU (timesU a 10) D) g)
  case first =>
    go_region_held3 (fun w' => w'.cell? ⟨w2.heap.size, 0, none⟩ = some (.int .u64 (hiZ (timesU a 10))) ∧ w'.cell? ⟨w2.heap.size, 1, none⟩ = some (.int .u64 (loZ (timesU a 10)))) (first | exact ⟨by assumption, by assumption⟩ | exact ⟨by (rw [World.cell?_setCell_other _ _ _ _ (by simp), World.cell?_setCell_other _ _ _ _ (by simp)]; assumption), by (rw [World.cell?_setCell_other _ _ _ _ (by simp), World.cell?_setCell_other _ _ _ _ (by simp)]; assumption)⟩ | go_keep) (first
      | (go_at_call 24; refine (of_any _ _).mono ?_; rintro e w7 ⟨rfl, rfl⟩)
      | (go_at_call 13; refine (add_at (a := timesU a 10) (b := D) rfl rfl HD0.out HD1.out _).mono ?_; rintro e w7 ⟨rfl, hb7⟩; have xT : Blk2 w7 w2.heap.size (hiZ (timesU a 10)) (loZ (timesU a 10)) := (by refine Blk2.keep ?_ hb7; repeat' (first | (with_reducible assumption) | ((with_reducible refine Blk2.new_at _ _ ?_); (simp; done)) | ((with_reducible refine Blk4.new_at _ _ ?_); (simp; done)) | (with_reducible refine Blk2.drew ?_) | (with_reducible refine Blk2.drewN ?_) | (with_reducible refine Blk2.alloc ?_ _) | (with_reducible refine Blk4.drew ?_) | (with_reducible refine Blk4.drewN ?_) | (with_reducible refine Blk4.alloc ?_ _))); have xT0 := xT.c0; have xT1 := xT.c1; clear xT; have xa : Blk2 w7 (w.heap.size) (hiZ a) (loZ a) := (by refine Blk2.keep ?_ hb7; repeat' (first | (with_reducible assumption) | ((with_reducible refine Blk2.new_at _ _ ?_); (simp; done)) | ((with_reducible refine Blk4.new_at _ _ ?_); (simp; done)) | (with_reducible refine Blk2.drew ?_) | (with_reducible refine Blk2.drewN ?_) | (with_reducible refine Blk2.alloc ?_ _) | (with_reducible refine Blk4.drew ?_) | (with_reducible refine Blk4.drewN ?_) | (with_reducible refine Blk4.alloc ?_ _))); have xB : Below w.heap.size w w7 := (by refine below_of ?_ hb7; go_grown); obtain ⟨hc7, hf7⟩ := bcell hb7; have hs7 := hb7.size; have HB7 := Lib.hid hb7; clear hb7))
    all_goals
      go_wp2_with fail
      go_meet
      have xs := xB.size
      have xl := xa.lt
      refine ⟨_, rfl, rfl, by go_grown, ?_, ?_⟩
      · first
        | exact xa.alloc _
        | exact (xa.other _ _ (by simp; omega)).other _ _ (by simp; omega)
      · first
        | exact Blk2.new _ _ _
        | (refine Blk2.set (h := 0) (l := 0) (Blk2.keep ?_ HB7.out) _ _; repeat' (first | (with_reducible assumption) | ((with_reducible refine Blk2.new_at _ _ ?_); (simp; done)) | ((with_reducible refine Blk4.new_at _ _ ?_); (simp; done)) | (with_reducible refine Blk2.drew ?_) | (with_reducible refine Blk2.drewN ?_) | (with_reducible refine Blk2.alloc ?_ _) | (with_reducible refine Blk4.drew ?_) | (with_reducible refine Blk4.drewN ?_) | (with_reducible refine Blk4.alloc ?_ _)))
  case rest =>
    obtain ⟨g, rfl, rfl, hC⟩ := hcut
    have ka3 := hC.ra; have kc3 := hC.rc; have B3 := hC.below
    have ca3 := ka3.c0; have da3 := ka3.c1; have la3 := ka3.lt; have cc3 := kc3.c0; have dc3 := kc3.c1; have lc3 := kc3.lt
    clear hC B2 z2 ka2 ca2 da2 fa2 ga2 la2
    have hsl := slice_digit hr10
    have hl1 : (Lib.decDigits a.n).length ≤ 39 := by rw [Lib.decDigits_length]; exact nd_le39 _
    have hl2 : (digS r).size = 1 := rfl
    go_wp2_with fail
    have km3 := kc3
    refine (text_at (a := a) rfl rfl _ (tabs_stays HT.out (by go_grown))).mono ?_
    rintro e w4 ⟨rfl, hb4⟩
    have B4 : Below w.heap.size w w4 := (by refine below_of ?_ hb4; go_grown)
    have ka4 : Blk2 w4 (w.heap.size) (hiZ a) (loZ a) := (by refine Blk2.keep ?_ hb4; repeat' (first | (with_reducible assumption) | ((with_reducible refine Blk2.new_at _ _ ?_); (simp; done)) | ((with_reducible refine Blk4.new_at _ _ ?_); (simp; done)) | (with_reducible refine Blk2.drew ?_) | (with_reducible refine Blk2.drewN ?_) | (with_reducible refine Blk2.alloc ?_ _) | (with_reducible refine Blk4.drew ?_) | (with_reducible refine Blk4.drewN ?_) | (with_reducible refine Blk4.alloc ?_ _)))
    have km4 : Blk2 w4 (g) (hiZ (addU (timesU a 10) D)) (loZ (addU (timesU a 10) D)) := (by refine Blk2.keep ?_ hb4; repeat' (first | (with_reducible assumption) | ((with_reducible refine Blk2.new_at _ _ ?_); (simp; done)) | ((with_reducible refine Blk4.new_at _ _ ?_); (simp; done)) | (with_reducible refine Blk2.drew ?_) | (with_reducible refine Blk2.drewN ?_) | (with_reducible refine Blk2.alloc ?_ _) | (with_reducible refine Blk4.drew ?_) | (with_reducible refine Blk4.drewN ?_) | (with_reducible refine Blk4.alloc ?_ _)))
    clear hb4 ka3 ca3 da3 la3 kc3 cc3 dc3 lc3 B3
    have z4 := B4.size
    have ca4 := ka4.c0; have da4 := ka4.c1; have fa4 := ka4.f0; have ga4 := ka4.f1; have la4 := ka4.lt
    have cm4 := km4.c0; have dm4 := km4.c1; have fm4 := km4.f0; have gm4 := km4.f1; have lm4 := km4.lt
    go_wp2_with fail
    refine (dg_parse QT.out _).mono ?_
    rintro e w5 ⟨rfl, hb5⟩
    have B5 : Below w.heap.size w w5 := (by refine below_of ?_ hb5; go_grown)
    have ka5 : Blk2 w5 (w.heap.size) (hiZ a) (loZ a) := (by refine Blk2.keep ?_ hb5; repeat' (first | (with_reducible assumption) | ((with_reducible refine Blk2.new_at _ _ ?_); (simp; done)) | ((with_reducible refine Blk4.new_at _ _ ?_); (simp; done)) | (with_reducible refine Blk2.drew ?_) | (with_reducible refine Blk2.drewN ?_) | (with_reducible refine Blk2.alloc ?_ _) | (with_reducible refine Blk4.drew ?_) | (with_reducible refine Blk4.drewN ?_) | (with_reducible refine Blk4.alloc ?_ _)))
    have km5 : Blk2 w5 (g) (hiZ (addU (timesU a 10) D)) (loZ (addU (timesU a 10) D)) := (by refine Blk2.keep ?_ hb5; repeat' (first | (with_reducible assumption) | ((with_reducible refine Blk2.new_at _ _ ?_); (simp; done)) | ((with_reducible refine Blk4.new_at _ _ ?_); (simp; done)) | (with_reducible refine Blk2.drew ?_) | (with_reducible refine Blk2.drewN ?_) | (with_reducible refine Blk2.alloc ?_ _) | (with_reducible refine Blk4.drew ?_) | (with_reducible refine Blk4.drewN ?_) | (with_reducible refine Blk4.alloc ?_ _)))
    clear hb5 B4 z4 ka4 ca4 da4 fa4 ga4 la4 km4 cm4 dm4 fm4 gm4 lm4
    have z5 := B5.size
    have ca5 := ka5.c0; have da5 := ka5.c1; have fa5 := ka5.f0; have ga5 := ka5.f1; have la5 := ka5.lt
    have cm5 := km5.c0; have dm5 := km5.c1; have fm5 := km5.f0; have gm5 := km5.f1; have lm5 := km5.lt
    go_wp2_with fail
    refine (dg_div Q1.out Q2.out _).mono ?_
    rintro e w6 ⟨rfl, hb6⟩
    have B6 : Below w.heap.size w w6 := (by refine below_of ?_ hb6; go_grown)
    have ka6 : Blk2 w6 (w.heap.size) (hiZ a) (loZ a) := (by refine Blk2.keep ?_ hb6; repeat' (first | (with_reducible assumption) | ((with_reducible refine Blk2.new_at _ _ ?_); (simp; done)) | ((with_reducible refine Blk4.new_at _ _ ?_); (simp; done)) | (with_reducible refine Blk2.drew ?_) | (with_reducible refine Blk2.drewN ?_) | (with_reducible refine Blk2.alloc ?_ _) | (with_reducible refine Blk4.drew ?_) | (with_reducible refine Blk4.drewN ?_) | (with_reducible refine Blk4.alloc ?_ _)))
    have km6 : Blk2 w6 (g) (hiZ (addU (timesU a 10) D)) (loZ (addU (timesU a 10) D)) := (by refine Blk2.keep ?_ hb6; repeat' (first | (with_reducible assumption) | ((with_reducible refine Blk2.new_at _ _ ?_); (simp; done)) | ((with_reducible refine Blk4.new_at _ _ ?_); (simp; done)) | (with_reducible refine Blk2.drew ?_) | (with_reducible refine Blk2.drewN ?_) | (with_reducible refine Blk2.alloc ?_ _) | (with_reducible refine Blk4.drew ?_) | (with_reducible refine Blk4.drewN ?_) | (with_reducible refine Blk4.alloc ?_ _)))
    have kx6 : Blk2 w6 (w5.heap.size) (hiZ (addU (timesU a 10) D)) (loZ (addU (timesU a 10) D)) := (by refine Blk2.keep ?_ hb6; repeat' (first | (with_reducible assumption) | ((with_reducible refine Blk2.new_at _ _ ?_); (simp; done)) | ((with_reducible refine Blk4.new_at _ _ ?_); (simp; done)) | (with_reducible refine Blk2.drew ?_) | (with_reducible refine Blk2.drewN ?_) | (with_reducible refine Blk2.alloc ?_ _) | (with_reducible refine Blk4.drew ?_) | (with_reducible refine Blk4.drewN ?_) | (with_reducible refine Blk4.alloc ?_ _)))
    clear hb6 B5 z5 ka5 ca5 da5 fa5 ga5 la5 km5 cm5 dm5 fm5 gm5 lm5
    have z6 := B6.size
    have ca6 := ka6.c0; have da6 := ka6.c1; have fa6 := ka6.f0; have ga6 := ka6.f1; have la6 := ka6.lt
    have cm6 := km6.c0; have dm6 := km6.c1; have fm6 := km6.f0; have gm6 := km6.f1; have lm6 := km6.lt
    have cx6 := kx6.c0; have dx6 := kx6.c1; have fx6 := kx6.f0; have gx6 := kx6.f1; have lx6 := kx6.lt
    go_wp2_with fail
    refine (dg_text QT.out _ (tabs_stays HT.out (by go_grown))).mono ?_
    rintro e w7 ⟨rfl, hb7⟩
    have B7 : Below w.heap.size w w7 := (by refine below_of ?_ hb7; go_grown)
    have ka7 : Blk2 w7 (w.heap.size) (hiZ a) (loZ a) := (by refine Blk2.keep ?_ hb7; repeat' (first | (with_reducible assumption) | ((with_reducible refine Blk2.new_at _ _ ?_); (simp; done)) | ((with_reducible refine Blk4.new_at _ _ ?_); (simp; done)) | (with_reducible refine Blk2.drew ?_) | (with_reducible refine Blk2.drewN ?_) | (with_reducible refine Blk2.alloc ?_ _) | (with_reducible refine Blk4.drew ?_) | (with_reducible refine Blk4.drewN ?_) | (with_reducible refine Blk4.alloc ?_ _)))
    have km7 : Blk2 w7 (g) (hiZ (addU (timesU a 10) D)) (loZ (addU (timesU a 10) D)) := (by refine Blk2.keep ?_ hb7; repeat' (first | (with_reducible assumption) | ((with_reducible refine Blk2.new_at _ _ ?_); (simp; done)) | ((with_reducible refine Blk4.new_at _ _ ?_); (simp; done)) | (with_reducible refine Blk2.drew ?_) | (with_reducible refine Blk2.drewN ?_) | (with_reducible refine Blk2.alloc ?_ _) | (with_reducible refine Blk4.drew ?_) | (with_reducible refine Blk4.drewN ?_) | (with_reducible refine Blk4.alloc ?_ _)))
    have kx7 : Blk2 w7 (w5.heap.size) (hiZ (addU (timesU a 10) D)) (loZ (addU (timesU a 10) D)) := (by refine Blk2.keep ?_ hb7; repeat' (first | (with_reducible assumption) | ((with_reducible refine Blk2.new_at _ _ ?_); (simp; done)) | ((with_reducible refine Blk4.new_at _ _ ?_); (simp; done)) | (with_reducible refine Blk2.drew ?_) | (with_reducible refine Blk2.drewN ?_) | (with_reducible refine Blk2.alloc ?_ _) | (with_reducible refine Blk4.drew ?_) | (with_reducible refine Blk4.drewN ?_) | (with_reducible refine Blk4.alloc ?_ _)))
    have kb7 : Blk2 w7 (w6.heap.size) (hiZ a) (loZ a) := (by refine Blk2.keep ?_ hb7; repeat' (first | (with_reducible assumption) | ((with_reducible refine Blk2.new_at _ _ ?_); (simp; done)) | ((with_reducible refine Blk4.new_at _ _ ?_); (simp; done)) | (with_reducible refine Blk2.drew ?_) | (with_reducible refine Blk2.drewN ?_) | (with_reducible refine Blk2.alloc ?_ _) | (with_reducible refine Blk4.drew ?_) | (with_reducible refine Blk4.drewN ?_) | (with_reducible refine Blk4.alloc ?_ _)))
    clear hb7 B6 z6 ka6 ca6 da6 fa6 ga6 la6 km6 cm6 dm6 fm6 gm6 lm6 kx6 cx6 dx6 fx6 gx6 lx6
    have z7 := B7.size
    have ca7 := ka7.c0; have da7 := ka7.c1; have fa7 := ka7.f0; have ga7 := ka7.f1; have la7 := ka7.lt
    have cm7 := km7.c0; have dm7 := km7.c1; have fm7 := km7.f0; have gm7 := km7.f1; have lm7 := km7.lt
    have cx7 := kx7.c0; have dx7 := kx7.c1; have fx7 := kx7.f0; have gx7 := kx7.f1; have lx7 := kx7.lt
    have cb7 := kb7.c0; have db7 := kb7.c1; have fb7 := kb7.f0; have gb7 := kb7.f1; have lb7 := kb7.lt
    go_wp2_with fail
    go_ret
    exact ⟨rfl, by go_grown⟩
set_option maxHeartbeats 8000000 in
set_option maxRecDepth 100000 in
theorem digits_ov1 (hbeg : ∀ w, tabs w → Calls Tryd.prog 46 #[] w fun e w' => e = .returned (.bool true) ∧ Below w.heap.size w w') (a : U) (k : Nat) (hk : k < 256) (w : World) (htab : tabs w) (D : U) (hD : D = cutU (k % 10)) (h0 : timesE a 10 = 1) (hgt : 1152921504606846976 < hiZ a) :
    Calls Tryd.prog 11 #[.agg #[.int .u64 (hiZ a), .int .u64 (loZ a)], .int .u8 k] w fun e w' => e = .returned (.bool true) ∧ Below w.heap.size w w' := by
  have HT := Lib.hid htab
  obtain ⟨r, hr, hr', hr10⟩ : ∃ r : Nat, (k : Int) % 10 = r ∧ k % 10 = r ∧ r < 10 := ⟨k % 10, by omega, rfl, by omega⟩
  rw [hr'] at hD
  have HD0 := Lib.hid (hD ▸ dg_hi hr10)
  have HD1 := Lib.hid (hD ▸ dg_lo hr10)
  have t0 : (timesE a 10 != 0) = true := by rw [h0]; rfl
  have HG := Lib.hid (show decide (1152921504606846976 < hiZ a) = true by simpa using hgt)
  clear htab hD hr' hgt h0
  go_enter Tryd.func11, Tryd.ntmps11
  go_wp2_with fail
  have ka0 : Blk2 (w.alloc (.cells #[.int .u64 (hiZ a), .int .u64 (loZ a)] 24)) (w.heap.size) (hiZ a) (loZ a) := (by repeat' (first | (with_reducible assumption) | ((with_reducible refine Blk2.new_at _ _ ?_); (simp; done)) | ((with_reducible refine Blk4.new_at _ _ ?_); (simp; done)) | (with_reducible refine Blk2.drew ?_) | (with_reducible refine Blk2.drewN ?_) | (with_reducible refine Blk2.alloc ?_ _) | (with_reducible refine Blk4.drew ?_) | (with_reducible refine Blk4.drewN ?_) | (with_reducible refine Blk4.alloc ?_ _)))
  have B0 : Below w.heap.size w (w.alloc (.cells #[.int .u64 (hiZ a), .int .u64 (loZ a)] 24)) := (by go_grown)
  generalize (w.alloc (.cells #[.int .u64 (hiZ a), .int .u64 (loZ a)] 24)) = w0 at *
  have z0 := B0.size
  have ca0 := ka0.c0; have da0 := ka0.c1; have fa0 := ka0.f0; have ga0 := ka0.f1; have la0 := ka0.lt
  refine (hbeg _ (tabs_stays HT.out (by go_grown))).mono ?_
  rintro e w1 ⟨rfl, hb1⟩
  have B1 : Below w.heap.size w w1 := (by refine below_of ?_ hb1; go_grown)
  have ka1 : Blk2 w1 (w.heap.size) (hiZ a) (loZ a) := (by refine Blk2.keep ?_ hb1; repeat' (first | (with_reducible assumption) | ((with_reducible refine Blk2.new_at _ _ ?_); (simp; done)) | ((with_reducible refine Blk4.new_at _ _ ?_); (simp; done)) | (with_reducible refine Blk2.drew ?_) | (with_reducible refine Blk2.drewN ?_) | (with_reducible refine Blk2.alloc ?_ _) | (with_reducible refine Blk4.drew ?_) | (with_reducible refine Blk4.drewN ?_) | (with_reducible refine Blk4.alloc ?_ _)))
  clear hb1 B0 z0 ka0 ca0 da0 fa0 ga0 la0
  have z1 := B1.size
  have ca1 := ka1.c0; have da1 := ka1.c1; have fa1 := ka1.f0; have ga1 := ka1.f1; have la1 := ka1.lt
  go_wp2_with fail
  refine (times_at (a := a) rfl rfl 10 (by decide) _).mono ?_
  rintro e w2 ⟨rfl, hb2⟩
  have B2 : Below w.heap.size w w2 := (by refine below_of ?_ hb2; go_grown)
  have ka2 : Blk2 w2 (w.heap.size) (hiZ a) (loZ a) := (by refine Blk2.keep ?_ hb2; repeat' (first | (with_reducible assumption) | ((with_reducible refine Blk2.new_at _ _ ?_); (simp; done)) | ((with_reducible refine Blk4.new_at _ _ ?_); (simp; done)) | (with_reducible refine Blk2.drew ?_) | (with_reducible refine Blk2.drewN ?_) | (with_reducible refine Blk2.alloc ?_ _) | (with_reducible refine Blk4.drew ?_) | (with_reducible refine Blk4.drewN ?_) | (with_reducible refine Blk4.alloc ?_ _)))
  clear hb2 B1 z1 ka1 ca1 da1 fa1 ga1 la1
  have z2 := B2.size
  have ca2 := ka2.c0; have da2 := ka2.c1; have fa2 := ka2.f0; have ga2 := ka2.f1; have la2 := ka2.lt
  go_upto_region 5 with fail
  go_cut [8, 9] (fun s8 s9 wx => ∃ g, s8 = .pointer (some ⟨g, 0, none⟩) ∧ s9 = .int .i64 (addE (timesU a 10) D) ∧ DigC w wx a (addU (timesU a 10) D) g)
  case first =>
    go_region_held3 (fun w' => w'.cell? ⟨w2.heap.size, 0, none⟩ = some (.int .u64 (hiZ (timesU a 10))) ∧ w'.cell? ⟨w2.heap.size, 1, none⟩ = some (.int .u64 (loZ (timesU a 10)))) (first | exact ⟨by assumption, by assumption⟩ | exact ⟨by (rw [World.cell?_setCell_other _ _ _ _ (by simp), World.cell?_setCell_other _ _ _ _ (by simp)]; assumption), by (rw [World.cell?_setCell_other _ _ _ _ (by simp), World.cell?_setCell_other _ _ _ _ (by simp)]; assumption)⟩ | go_keep) (first
      | (go_at_call 24; refine (of_any _ _).mono ?_; rintro e w7 ⟨rfl, rfl⟩)
      | (go_at_call 13; refine (add_at (a := timesU a 10) (b := D) rfl rfl HD0.out HD1.out _).mono ?_; rintro e w7 ⟨rfl, hb7⟩; have xT : Blk2 w7 w2.heap.size (hiZ (timesU a 10)) (loZ (timesU a 10)) := (by refine Blk2.keep ?_ hb7; repeat' (first | (with_reducible assumption) | ((with_reducible refine Blk2.new_at _ _ ?_); (simp; done)) | ((with_reducible refine Blk4.new_at _ _ ?_); (simp; done)) | (with_reducible refine Blk2.drew ?_) | (with_reducible refine Blk2.drewN ?_) | (with_reducible refine Blk2.alloc ?_ _) | (with_reducible refine Blk4.drew ?_) | (with_reducible refine Blk4.drewN ?_) | (with_reducible refine Blk4.alloc ?_ _))); have xT0 := xT.c0; have xT1 := xT.c1; clear xT; have xa : Blk2 w7 (w.heap.size) (hiZ a) (loZ a) := (by refine Blk2.keep ?_ hb7; repeat' (first | (with_reducible assumption) | ((with_reducible refine Blk2.new_at _ _ ?_); (simp; done)) | ((with_reducible refine Blk4.new_at _ _ ?_); (simp; done)) | (with_reducible refine Blk2.drew ?_) | (with_reducible refine Blk2.drewN ?_) | (with_reducible refine Blk2.alloc ?_ _) | (with_reducible refine Blk4.drew ?_) | (with_reducible refine Blk4.drewN ?_) | (with_reducible refine Blk4.alloc ?_ _))); have xB : Below w.heap.size w w7 := (by refine below_of ?_ hb7; go_grown); obtain ⟨hc7, hf7⟩ := bcell hb7; have hs7 := hb7.size; have HB7 := Lib.hid hb7; clear hb7))
    all_goals
      go_wp2_with fail
      go_meet
      have xs := xB.size
      have xl := xa.lt
      refine ⟨_, rfl, rfl, by go_grown, ?_, ?_⟩
      · first
        | exact xa.alloc _
        | exact (xa.other _ _ (by simp; omega)).other _ _ (by simp; omega)
      · first
        | exact Blk2.new _ _ _
        | (refine Blk2.set (h := 0) (l := 0) (Blk2.keep ?_ HB7.out) _ _; repeat' (first | (with_reducible assumption) | ((with_reducible refine Blk2.new_at _ _ ?_); (simp; done)) | ((with_reducible refine Blk4.new_at _ _ ?_); (simp; done)) | (with_reducible refine Blk2.drew ?_) | (with_reducible refine Blk2.drewN ?_) | (with_reducible refine Blk2.alloc ?_ _) | (with_reducible refine Blk4.drew ?_) | (with_reducible refine Blk4.drewN ?_) | (with_reducible refine Blk4.alloc ?_ _)))
  case rest =>
    obtain ⟨g, rfl, rfl, hC⟩ := hcut
    have ka3 := hC.ra; have kc3 := hC.rc; have B3 := hC.below
    have ca3 := ka3.c0; have da3 := ka3.c1; have la3 := ka3.lt; have cc3 := kc3.c0; have dc3 := kc3.c1; have lc3 := kc3.lt
    clear hC B2 z2 ka2 ca2 da2 fa2 ga2 la2
    go_wp2_with fail
    go_ret
    exact ⟨b_eq HG.out, by go_grown⟩
set_option maxHeartbeats 8000000 in
set_option maxRecDepth 100000 in
theorem digits_ov2 (hbeg : ∀ w, tabs w → Calls Tryd.prog 46 #[] w fun e w' => e = .returned (.bool true) ∧ Below w.heap.size w w') (a : U) (k : Nat) (hk : k < 256) (w : World) (htab : tabs w) (D : U) (hD : D = cutU (k % 10)) (h0 : timesE a 10 = 0) (he : addE (timesU a 10) D = 1) (hgt : 1152921504606846976 < hiZ a) :
    Calls Tryd.prog 11 #[.agg #[.int .u64 (hiZ a), .int .u64 (loZ a)], .int .u8 k] w fun e w' => e = .returned (.bool true) ∧ Below w.heap.size w w' := by
  have HT := Lib.hid htab
  obtain ⟨r, hr, hr', hr10⟩ : ∃ r : Nat, (k : Int) % 10 = r ∧ k % 10 = r ∧ r < 10 := ⟨k % 10, by omega, rfl, by omega⟩
  rw [hr'] at hD
  have HD0 := Lib.hid (hD ▸ dg_hi hr10)
  have HD1 := Lib.hid (hD ▸ dg_lo hr10)
  have t0 : (timesE a 10 != 0) = false := by rw [h0]; rfl
  have tE : (addE (timesU a 10) D != 0) = true := by rw [he]; rfl
  have HG := Lib.hid (show decide (1152921504606846976 < hiZ a) = true by simpa using hgt)
  clear htab hD hr' hgt he
  go_enter Tryd.func11, Tryd.ntmps11
  go_wp2_with fail
  have ka0 : Blk2 (w.alloc (.cells #[.int .u64 (hiZ a), .int .u64 (loZ a)] 24)) (w.heap.size) (hiZ a) (loZ a) := (by repeat' (first | (with_reducible assumption) | ((with_reducible refine Blk2.new_at _ _ ?_); (simp; done)) | ((with_reducible refine Blk4.new_at _ _ ?_); (simp; done)) | (with_reducible refine Blk2.drew ?_) | (with_reducible refine Blk2.drewN ?_) | (with_reducible refine Blk2.alloc ?_ _) | (with_reducible refine Blk4.drew ?_) | (with_reducible refine Blk4.drewN ?_) | (with_reducible refine Blk4.alloc ?_ _)))
  have B0 : Below w.heap.size w (w.alloc (.cells #[.int .u64 (hiZ a), .int .u64 (loZ a)] 24)) := (by go_grown)
  generalize (w.alloc (.cells #[.int .u64 (hiZ a), .int .u64 (loZ a)] 24)) = w0 at *
  have z0 := B0.size
  have ca0 := ka0.c0; have da0 := ka0.c1; have fa0 := ka0.f0; have ga0 := ka0.f1; have la0 := ka0.lt
  refine (hbeg _ (tabs_stays HT.out (by go_grown))).mono ?_
  rintro e w1 ⟨rfl, hb1⟩
  have B1 : Below w.heap.size w w1 := (by refine below_of ?_ hb1; go_grown)
  have ka1 : Blk2 w1 (w.heap.size) (hiZ a) (loZ a) := (by refine Blk2.keep ?_ hb1; repeat' (first | (with_reducible assumption) | ((with_reducible refine Blk2.new_at _ _ ?_); (simp; done)) | ((with_reducible refine Blk4.new_at _ _ ?_); (simp; done)) | (with_reducible refine Blk2.drew ?_) | (with_reducible refine Blk2.drewN ?_) | (with_reducible refine Blk2.alloc ?_ _) | (with_reducible refine Blk4.drew ?_) | (with_reducible refine Blk4.drewN ?_) | (with_reducible refine Blk4.alloc ?_ _)))
  clear hb1 B0 z0 ka0 ca0 da0 fa0 ga0 la0
  have z1 := B1.size
  have ca1 := ka1.c0; have da1 := ka1.c1; have fa1 := ka1.f0; have ga1 := ka1.f1; have la1 := ka1.lt
  go_wp2_with fail
  refine (times_at (a := a) rfl rfl 10 (by decide) _).mono ?_
  rintro e w2 ⟨rfl, hb2⟩
  have B2 : Below w.heap.size w w2 := (by refine below_of ?_ hb2; go_grown)
  have ka2 : Blk2 w2 (w.heap.size) (hiZ a) (loZ a) := (by refine Blk2.keep ?_ hb2; repeat' (first | (with_reducible assumption) | ((with_reducible refine Blk2.new_at _ _ ?_); (simp; done)) | ((with_reducible refine Blk4.new_at _ _ ?_); (simp; done)) | (with_reducible refine Blk2.drew ?_) | (with_reducible refine Blk2.drewN ?_) | (with_reducible refine Blk2.alloc ?_ _) | (with_reducible refine Blk4.drew ?_) | (with_reducible refine Blk4.drewN ?_) | (with_reducible refine Blk4.alloc ?_ _)))
  clear hb2 B1 z1 ka1 ca1 da1 fa1 ga1 la1
  have z2 := B2.size
  have ca2 := ka2.c0; have da2 := ka2.c1; have fa2 := ka2.f0; have ga2 := ka2.f1; have la2 := ka2.lt
  go_upto_region 5 with fail
  go_cut [8, 9] (fun s8 s9 wx => ∃ g, s8 = .pointer (some ⟨g, 0, none⟩) ∧ s9 = .int .i64 (addE (timesU a 10) D) ∧ DigC w wx a (addU (timesU a 10) D) g)
  case first =>
    go_region_held3 (fun w' => w'.cell? ⟨w2.heap.size, 0, none⟩ = some (.int .u64 (hiZ (timesU a 10))) ∧ w'.cell? ⟨w2.heap.size, 1, none⟩ = some (.int .u64 (loZ (timesU a 10)))) (first | exact ⟨by assumption, by assumption⟩ | exact ⟨by (rw [World.cell?_setCell_other _ _ _ _ (by simp), World.cell?_setCell_other _ _ _ _ (by simp)]; assumption), by (rw [World.cell?_setCell_other _ _ _ _ (by simp), World.cell?_setCell_other _ _ _ _ (by simp)]; assumption)⟩ | go_keep) (first
      | (go_at_call 24; refine (of_any _ _).mono ?_; rintro e w7 ⟨rfl, rfl⟩)
      | (go_at_call 13; refine (add_at (a := timesU a 10) (b := D) rfl rfl HD0.out HD1.out _).mono ?_; rintro e w7 ⟨rfl, hb7⟩; have xT : Blk2 w7 w2.heap.size (hiZ (timesU a 10)) (loZ (timesU a 10)) := (by refine Blk2.keep ?_ hb7; repeat' (first | (with_reducible assumption) | ((with_reducible refine Blk2.new_at _ _ ?_); (simp; done)) | ((with_reducible refine Blk4.new_at _ _ ?_); (simp; done)) | (with_reducible refine Blk2.drew ?_) | (with_reducible refine Blk2.drewN ?_) | (with_reducible refine Blk2.alloc ?_ _) | (with_reducible refine Blk4.drew ?_) | (with_reducible refine Blk4.drewN ?_) | (with_reducible refine Blk4.alloc ?_ _))); have xT0 := xT.c0; have xT1 := xT.c1; clear xT; have xa : Blk2 w7 (w.heap.size) (hiZ a) (loZ a) := (by refine Blk2.keep ?_ hb7; repeat' (first | (with_reducible assumption) | ((with_reducible refine Blk2.new_at _ _ ?_); (simp; done)) | ((with_reducible refine Blk4.new_at _ _ ?_); (simp; done)) | (with_reducible refine Blk2.drew ?_) | (with_reducible refine Blk2.drewN ?_) | (with_reducible refine Blk2.alloc ?_ _) | (with_reducible refine Blk4.drew ?_) | (with_reducible refine Blk4.drewN ?_) | (with_reducible refine Blk4.alloc ?_ _))); have xB : Below w.heap.size w w7 := (by refine below_of ?_ hb7; go_grown); obtain ⟨hc7, hf7⟩ := bcell hb7; have hs7 := hb7.size; have HB7 := Lib.hid hb7; clear hb7))
    all_goals
      go_wp2_with fail
      go_meet
      have xs := xB.size
      have xl := xa.lt
      refine ⟨_, rfl, rfl, by go_grown, ?_, ?_⟩
      · first
        | exact xa.alloc _
        | exact (xa.other _ _ (by simp; omega)).other _ _ (by simp; omega)
      · first
        | exact Blk2.new _ _ _
        | (refine Blk2.set (h := 0) (l := 0) (Blk2.keep ?_ HB7.out) _ _; repeat' (first | (with_reducible assumption) | ((with_reducible refine Blk2.new_at _ _ ?_); (simp; done)) | ((with_reducible refine Blk4.new_at _ _ ?_); (simp; done)) | (with_reducible refine Blk2.drew ?_) | (with_reducible refine Blk2.drewN ?_) | (with_reducible refine Blk2.alloc ?_ _) | (with_reducible refine Blk4.drew ?_) | (with_reducible refine Blk4.drewN ?_) | (with_reducible refine Blk4.alloc ?_ _)))
  case rest =>
    obtain ⟨g, rfl, rfl, hC⟩ := hcut
    have ka3 := hC.ra; have kc3 := hC.rc; have B3 := hC.below
    have ca3 := ka3.c0; have da3 := ka3.c1; have la3 := ka3.lt; have cc3 := kc3.c0; have dc3 := kc3.c1; have lc3 := kc3.lt
    clear hC B2 z2 ka2 ca2 da2 fa2 ga2 la2
    go_wp2_with fail
    go_ret
    exact ⟨b_eq HG.out, by go_grown⟩
theorem gt_of {a : U} {r : Nat} (hr : r < 10) (h : 340282366920938463463374607431768211456 ≤ a.n * 10 + r) : 1152921504606846976 < hiZ a := by unfold hiZ; omega
theorem digits_any (a : U) (k : Nat) (hk : k < 256) (w : World) (htab : tabs w) :
    Calls Tryd.prog 11 #[.agg #[.int .u64 (hiZ a), .int .u64 (loZ a)], .int .u8 k] w fun e w' => e = .returned (.bool true) ∧ Below w.heap.size w w' := by
  have hr : k % 10 < 10 := by omega
  by_cases hm : a.n * 10 < 340282366920938463463374607431768211456
  · have e1 : (timesU a 10).n = a.n * 10 := cutU_n hm
    have e2 : (cutU (k % 10)).n = k % 10 := cutU_n (by omega)
    by_cases hm2 : a.n * 10 + k % 10 < 340282366920938463463374607431768211456
    · have he : addE (timesU a 10) (cutU (k % 10)) = 0 := by unfold addE; rw [e1, e2]; exact cutE_lt hm2
      by_cases ha : a.n = 0
      · exact digits_okz begins1_any a k hk w htab _ rfl ha hm hm2 he
      · exact digits_okn begins1_any a k hk w htab _ rfl ha hm hm2 he
    · have he : addE (timesU a 10) (cutU (k % 10)) = 1 := by unfold addE; rw [e1, e2]; exact cutE_ge (by omega)
      exact digits_ov2 begins1_any a k hk w htab _ rfl (cutE_lt hm) he (gt_of hr (by omega))
  · exact digits_ov1 begins1_any a k hk w htab _ rfl (cutE_ge (by omega)) (gt_of hr (by omega))
end Go.Proofs.YtklmllkpedailaaDoor
