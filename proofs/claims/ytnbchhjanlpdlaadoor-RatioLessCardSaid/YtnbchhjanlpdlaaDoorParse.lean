/-
  WALKS: wide.Parse: the number whose text it is.
-/
import Derived.Test.YtnbchhjanlpdlaaDoorWdiv
import Derived.Test.YtnbchhjanlpdlaaDoorSum
import Derived.Deep.RegionHeld3
import Derived.Deep.RegionWith
import Derived.PlainAid
import Derived.Deep.LoopGhost
import Derived.Deep.DeepCutAuto
namespace Go.Proofs.YtnbchhjanlpdlaaDoor
open Go Go.RowKit

theorem add_at {a b : U} {ah al bh bl : Int} (h1 : ah = hiZ a) (h2 : al = loZ a) (h3 : bh = hiZ b) (h4 : bl = loZ b) (w : World) :
    Calls Tryd.prog 7 #[.agg #[.int .u64 ah, .int .u64 al], .agg #[.int .u64 bh, .int .u64 bl]] w fun e w' =>
      e = .returned (.tuple #[.agg #[.int .u64 (hiZ (addU a b)), .int .u64 (loZ (addU a b))], .int .i64 (addE a b)]) ∧ Below w.heap.size w w' := by
  subst h1 h2 h3 h4
  exact add_any a b w

/-- A digit; the number of digits; a text without needless noughts. -/
def digB (c : UInt8) : Bool := decide (48 ≤ c.toNat) && decide (c.toNat ≤ 57)
def numV (l : List UInt8) : Nat := l.foldl (fun a c => a * 10 + (c.toNat - 48)) 0
def isNum (l : List UInt8) : Bool := !l.isEmpty && l.all digB && (!(l.head? == some 48) || l == [48])
def parU (l : List UInt8) : U := if isNum l = true then cutU (numV l) else U.zero
def parE (l : List UInt8) : Int := if isNum l = true ∧ numV l < 340282366920938463463374607431768211456 then 0 else 4

theorem numV_from (l : List UInt8) : ∀ a, a ≤ l.foldl (fun a c => a * 10 + (c.toNat - 48)) a := by
  induction l with
  | nil => intro a; exact Nat.le_refl _
  | cons c l ih => intro a; rw [List.foldl_cons]; have := ih (a * 10 + (c.toNat - 48)); omega
theorem numV_append (l m : List UInt8) : numV l ≤ numV (l ++ m) := by
  unfold numV; rw [List.foldl_append]; exact numV_from m _
theorem numV_take_le (l : List UInt8) (k : Nat) : numV (l.take k) ≤ numV l := by
  have := numV_append (l.take k) (l.drop k)
  rwa [List.take_append_drop] at this
theorem numV_take (l : List UInt8) (k : Nat) (h : k < l.length) : numV (l.take (k + 1)) = numV (l.take k) * 10 + (l[k].toNat - 48) := by
  rw [List.take_succ_eq_append_getElem h]
  unfold numV
  rw [List.foldl_append]
  rfl
theorem all_take (l : List UInt8) (k : Nat) (h : k < l.length) (ha : (l.take k).all digB = true) (hd : digB l[k] = true) : (l.take (k + 1)).all digB = true := by
  rw [List.take_succ_eq_append_getElem h, List.all_append, ha]
  simp [hd]
theorem not_all (l : List UInt8) (k : Nat) (h : k < l.length) (hd : digB l[k] = false) : isNum l = false := by
  have : l.all digB = false := by
    rw [List.all_eq_false]
    exact ⟨l[k], List.getElem_mem h, by rw [hd]; simp⟩
  unfold isNum
  rw [this]
  simp
theorem bt_get (s : ByteArray) (k : Nat) (h : k < s.data.toList.length) : PlainAid.bt s k = ((s.data.toList[k]).toNat : Int) := by
  have h' : k < s.size := by simpa using h
  rw [← PlainAid.get_bt s k h']
  rfl
theorem parE_bad {l : List UInt8} (h : isNum l = false) : parE l = 4 := by unfold parE; rw [if_neg (by rw [h]; simp)]
theorem parU_bad {l : List UInt8} (h : isNum l = false) : parU l = U.zero := by unfold parU; rw [if_neg (by rw [h]; simp)]
theorem parE_big {l : List UInt8} (h : 340282366920938463463374607431768211456 ≤ numV l) : parE l = 4 := by unfold parE; rw [if_neg (by omega)]
theorem parU_big {l : List UInt8} (h : 340282366920938463463374607431768211456 ≤ numV l) : parU l = U.zero := by unfold parU; rw [cutU_ge h]; simp

/-- What holds at a round's head. -/
structure ParInv (w wr : World) (l : List UInt8) (k : Nat) (V : U) : Prop where
  below : Below w.heap.size w wr
  r0 : Blk2 wr w.heap.size 0 0
  r1 : Blk2 wr (w.heap.size + 1) (hiZ V) (loZ V)
  val : V.n = numV (l.take k)
  dig : (l.take k).all digB = true

/-- .. and behind the sum of ten times the number and the digit. -/
structure ParCut (w wx : World) (V R : U) (g : Nat) : Prop where
  below : Below w.heap.size w wx
  r0 : Blk2 wx w.heap.size 0 0
  r1 : Blk2 wx (w.heap.size + 1) (hiZ V) (loZ V)
  r8 : Blk2 wx g (hiZ R) (loZ R)
theorem small_hi (k : Nat) (h : k < 18446744073709551616) : (0 : Int) = hiZ (U.small k h) := by
  show (0 : Int) = ((k / 18446744073709551616 : Nat) : Int)
  omega
theorem small_lo (k : Nat) (h : k < 18446744073709551616) : (k : Int) = loZ (U.small k h) := by
  show (k : Int) = ((k % 18446744073709551616 : Nat) : Int)
  omega
theorem head_ok (s : ByteArray) (h1 : 0 < s.size) (hz : PlainAid.bt s 0 ≠ 48 ∨ s.toList = [48]) : s.data.toList.isEmpty = false ∧ (!(s.data.toList.head? == some 48) || s.data.toList == [48]) = true := by
  have hl : s.toList = s.data.toList := by rw [ByteArray.toList_eq]
  have hd := bt_get s 0 (by simpa using h1)
  rw [hl] at hz
  cases hc : s.data.toList with
  | nil => exact absurd (show s.size = 0 by simpa using congrArg List.length hc) (by omega)
  | cons a l =>
    simp only [hc, List.getElem_cons_zero] at hd hz
    refine ⟨rfl, ?_⟩
    rcases hz with h | h
    · have ha : a ≠ 48 := fun e => h (by rw [hd, e]; rfl)
      simp [ha]
    · rw [h]; rfl
theorem parse_done {l : List UInt8} {V : U} (he : l.isEmpty = false) (hh : (!(l.head? == some 48) || l == [48]) = true) (hv : V.n = numV l) (hd : l.all digB = true) : parU l = V ∧ parE l = 0 := by
  have hi : isNum l = true := by unfold isNum; rw [he, hd, hh]; rfl
  have hlt := V.lt
  rw [hv] at hlt
  refine ⟨?_, ?_⟩
  · unfold parU; rw [if_pos hi]; exact U.ext (by rw [cutU_n hlt, hv])
  · unfold parE; rw [if_pos ⟨hi, hlt⟩]
theorem parse_over {l : List UInt8} {V : U} {k : Nat} (h : k < l.length) (hv : V.n = numV (l.take k)) (ho : 340282366920938463463374607431768211456 ≤ V.n * 10 + (l[k].toNat - 48)) : parU l = U.zero ∧ parE l = 4 := by
  have h1 := numV_take l k h
  have h2 := numV_take_le l (k + 1)
  have hg : 340282366920938463463374607431768211456 ≤ numV l := by rw [← hv] at h1; omega
  exact ⟨parU_big hg, parE_big hg⟩
theorem parse_not {l : List UInt8} {k : Nat} (h : k < l.length) (hd : digB l[k] = false) : parU l = U.zero ∧ parE l = 4 :=
  ⟨parU_bad (not_all l k h hd), parE_bad (not_all l k h hd)⟩
theorem digB_iff (c : UInt8) : digB c = true ↔ 48 ≤ (c.toNat : Int) ∧ (c.toNat : Int) ≤ 57 := by
  unfold digB
  simp
  omega

set_option maxHeartbeats 2000000 in
set_option maxRecDepth 100000 in
theorem parse_loop (s : ByteArray) (w : World) (hs : s.size ≤ 9223372036854775807) (h1 : 0 < s.size) (hz : PlainAid.bt s 0 ≠ 48 ∨ s.toList = [48]) :
    Calls Tryd.prog 19 #[.string s] w fun e w' =>
      e = .returned (.tuple #[.agg #[.int .u64 (hiZ (parU s.data.toList)), .int .u64 (loZ (parU s.data.toList))], .int .i64 (parE s.data.toList)]) ∧ Below w.heap.size w w' := by
  obtain ⟨hne, hhd⟩ := head_ok s h1 hz
  have HNE := Lib.hid hne
  have HHD := Lib.hid hhd
  have hl : s.toList = s.data.toList := by rw [ByteArray.toList_eq]
  have he : s.toList.isEmpty = false := by rw [hl]; exact hne
  have hlen : s.data.toList.length = s.size := by simp
  have HLEN := Lib.hid hlen
  have hbt := PlainAid.get_bt s
  have hz' : ((PlainAid.bt s 0 == 48) = false) ∨ ((PlainAid.bt s 0 == 48) = true ∧ (s.toList == [48]) = true) := by
    by_cases hb : PlainAid.bt s 0 = 48
    · exact Or.inr ⟨by simpa using hb, by rcases hz with h | h; exact absurd hb h; simpa using h⟩
    · exact Or.inl (by simpa using hb)
  clear hne hhd hl hlen hz
  go_enter Tryd.func19, Tryd.ntmps19
  go_upto_region 1 with fail
  go_cut [20] (fun s20 wx => s20 = .bool false ∧ wx = w.alloc (.cells #[.int .u64 0, .int .u64 0] 24))
  case first =>
    rcases hz' with t0 | ⟨t0, t1⟩
    all_goals
      go_wp2_with fail
      go_meet
      exact ⟨rfl, rfl⟩
  case rest =>
    obtain ⟨rfl, rfl⟩ := hcut
    clear hz'
    go_wp2_with fail
    go_loopg [24] s.size (fun gg i wr => ∃ (k : Nat) (V : U), k ≤ s.size ∧ gg = s.size - k ∧ i = .int .i64 k ∧ ParInv w wr s.data.toList k V)
    case atStart =>
      refine ⟨0, U.zero, Nat.zero_le _, rfl, rfl, by go_grown, (Blk2.new w 0 0).alloc _, ?_, rfl, rfl⟩
      have h := Blk2.new (w.alloc (.cells #[.int .u64 0, .int .u64 0] 24)) 0 0
      have e : (w.alloc (.cells #[.int .u64 0, .int .u64 0] 24)).heap.size = w.heap.size + 1 := by simp
      rw [e] at h
      exact h
    case round =>
      obtain ⟨k, V, hk, hgg, rfl, hI⟩ := hrel
      have HGG := Lib.hid hgg
      clear hgg
      have z0 := hI.r0.c0; have z1 := hI.r0.c1; have z2 := hI.r0.f0; have z3 := hI.r0.f1
      have y0 := hI.r1.c0; have y1 := hI.r1.c1; have y2 := hI.r1.f0; have y3 := hI.r1.f1
      have s0 := hI.r0.lt
      have s1 := hI.r1.lt
      have HI := Lib.hid hI
      clear hI
      by_cases hlt : k < s.size
      · have hkl : k < s.data.toList.length := by rw [HLEN.out]; exact hlt
        have hbk := bt_get s k hkl
        by_cases hd : digB s.data.toList[k] = true
        · obtain ⟨d0, d1⟩ := (digB_iff _).1 hd
          rw [← hbk] at d0 d1
          obtain ⟨D, hDn⟩ : ∃ D : U, D = U.small (s.data.toList[k].toNat - 48) (by omega) := ⟨_, rfl⟩
          have hD0 : (0 : Int) = hiZ D := by rw [hDn]; exact small_hi _ _
          have hD1 : IntKind.u64.wrap (IntKind.u8.wrap (PlainAid.bt s k - 48)) = loZ D := by rw [hDn, ← small_lo, IntKind.wrap_u8, IntKind.wrap_u64]; omega
          have hDv : D.n = s.data.toList[k].toNat - 48 := by rw [hDn]; rfl
          have HD0 := Lib.hid hD0
          have HD1 := Lib.hid hD1
          have HDV := Lib.hid hDv
          have HT := Lib.hid (numV_take s.data.toList k hkl)
          have HAL := Lib.hid (all_take s.data.toList k hkl HI.out.dig hd)
          have HOVER := Lib.hid (parse_over hkl HI.out.val (V := V))
          clear hDn hD0 hD1 hDv hd hbk
          go_upto_region 10 with (go_at_call 11; refine (times_any V 10 (by omega) _).mono ?_; rintro e w1 ⟨rfl, hb1⟩)
          have X0 := Lib.hid (HI.out.r0.keep hb1)
          have X1 := Lib.hid (HI.out.r1.keep hb1)
          have HB1 := Lib.hid (below_of HI.out.below hb1)
          clear hb1 z0 z1 z2 z3 y0 y1 y2 y3
          go_cut [8, 9] (fun s8 s9 wx => ∃ g, s8 = .pointer (some ⟨g, 0, none⟩) ∧ s9 = .int .i64 (addE (timesU V 10) D) ∧ ParCut w wx V (addU (timesU V 10) D) g)
          case first =>
            go_region_held3 (fun w' => w'.cell? ⟨w1.heap.size, 0, none⟩ = some (.int .u64 (hiZ (timesU V 10))) ∧ w'.cell? ⟨w1.heap.size, 1, none⟩ = some (.int .u64 (loZ (timesU V 10)))) (first | exact ⟨by assumption, by assumption⟩ | exact ⟨by (rw [World.cell?_setCell_other _ _ _ _ (by simp), World.cell?_setCell_other _ _ _ _ (by simp)]; assumption), by (rw [World.cell?_setCell_other _ _ _ _ (by simp), World.cell?_setCell_other _ _ _ _ (by simp)]; assumption)⟩ | go_keep) (first
              | (go_at_call 18; refine (of_any _ _).mono ?_; rintro e w2 ⟨rfl, rfl⟩)
              | (go_at_call 7; refine (add_at (a := timesU V 10) (b := D) rfl rfl HD0.out HD1.out _).mono ?_; rintro e w2 ⟨rfl, hb2⟩; have kT : Blk2 w2 w1.heap.size (hiZ (timesU V 10)) (loZ (timesU V 10)) := (by refine Blk2.keep ?_ hb2; repeat' (first | (with_reducible exact Blk2.new _ _ _) | (with_reducible refine Blk2.drew ?_) | (with_reducible refine Blk2.alloc ?_ _))); have k0 := kT.c0; have k1 := kT.c1; clear kT; have KB : Hid (Below w.heap.size w w2) := (by refine below_of ?_ hb2; have hB := HB1.out; have hsz := hB.size; go_grown); have K0 : Hid (Blk2 w2 w.heap.size 0 0) := (by refine Blk2.keep ?_ hb2; repeat' (first | (with_reducible exact X0.out) | (with_reducible refine Blk2.drew ?_) | (with_reducible refine Blk2.alloc ?_ _))); have K1 : Hid (Blk2 w2 (w.heap.size + 1) (hiZ V) (loZ V)) := (by refine Blk2.keep ?_ hb2; repeat' (first | (with_reducible exact X1.out) | (with_reducible refine Blk2.drew ?_) | (with_reducible refine Blk2.alloc ?_ _))); obtain ⟨hc2, hf2⟩ := bcell hb2; have hs2 := hb2.size; have HB2 := Lib.hid hb2; clear hb2))
            all_goals
              go_wp2_with fail
              go_meet
              have e0 := X0.out.lt
              have e1 := X1.out.lt
              have kb := KB.out
              have kbs := kb.size
              refine ⟨_, rfl, rfl, by go_grown, ?_, ?_, ?_⟩
              · first
                | exact K0.out.alloc _
                | exact (K0.out.other _ _ (by simp; omega)).other _ _ (by simp; omega)
              · first
                | exact K1.out.alloc _
                | exact (K1.out.other _ _ (by simp; omega)).other _ _ (by simp; omega)
              · first
                | exact Blk2.new _ _ _
                | (refine Blk2.set (h := 0) (l := 0) (Blk2.keep ?_ HB2.out) _ _; repeat' (first | (with_reducible refine Blk2.new_at _ _ (by simp; done)) | (with_reducible refine Blk2.drew ?_) | (with_reducible refine Blk2.alloc ?_ _)))
          case rest =>
            obtain ⟨g, rfl, rfl, hC⟩ := hcut
            have z0 := hC.r0.c0; have z1 := hC.r0.c1; have z2 := hC.r0.f0; have z3 := hC.r0.f1
            have y0 := hC.r1.c0; have y1 := hC.r1.c1; have y2 := hC.r1.f0; have y3 := hC.r1.f1
            have x0 := hC.r8.c0; have x1 := hC.r8.c1
            have HC := Lib.hid hC
            clear hC
            by_cases hov : V.n * 10 + D.n < 340282366920938463463374607431768211456
            · have hT : (timesU V 10).n = V.n * 10 := cutU_n (by omega)
              have tE : timesE V 10 = 0 := cutE_lt (by omega)
              have aE : addE (timesU V 10) D = 0 := by unfold addE; rw [hT]; exact cutE_lt hov
              have aU : (addU (timesU V 10) D).n = V.n * 10 + D.n := by unfold addU; rw [hT, cutU_n hov]
              have tE' : (timesE V 10 != 0) = false := by rw [tE]; rfl
              have aE' : (addE (timesU V 10) D != 0) = false := by rw [aE]; rfl
              have HAU := Lib.hid aU
              clear hov hT tE aE aU
              go_wp2_with fail
              go_roundg (s.size - (k + 1))
              case measure => have := HGG.out; omega
              case rel =>
                have hb := HC.out.below
                refine ⟨k + 1, addU (timesU V 10) D, by omega, rfl, by go_num, by go_grown, (HC.out.r0.other _ _ (by simp)).other _ _ (by simp), HC.out.r1.set _ _, ?_, HAL.out⟩
                rw [HAU.out, HT.out, HDV.out, HI.out.val]
            · have hP := HOVER.out (by have := HDV.out; omega)
              have HP := Lib.hid hP
              have g := HC.out.r0.set 0 0
              have g0 := Lib.hid g.c0
              have g1 := Lib.hid g.c1
              clear g hP
              by_cases hT : V.n * 10 < 340282366920938463463374607431768211456
              · have tE' : (timesE V 10 != 0) = false := by rw [show timesE V 10 = 0 from cutE_lt hT]; rfl
                have aE' : (addE (timesU V 10) D != 0) = true := by
                  have : addE (timesU V 10) D = 1 := by
                    unfold addE timesU; rw [cutU_n hT]; exact cutE_ge (by omega)
                  rw [this]; rfl
                clear hov hT
                go_wp2_with fail
                have g0' := g0.out
                have g1' := g1.out
                refine bodyPost_ret (v := .tuple #[.agg #[.int .u64 0, .int .u64 0], .int .i64 4]) (by simp [results, Tryd.results19, go_sem, g0', g1']) rfl ?_
                have hb := HC.out.below
                exact ⟨we_eq' (by rw [HP.out.1]; rfl) (by rw [HP.out.1]; rfl) HP.out.2.symm, by go_grown⟩
              · have tE' : (timesE V 10 != 0) = true := by rw [show timesE V 10 = 1 from cutE_ge (by omega)]; rfl
                clear hov hT
                go_wp2_with fail
                have g0' := g0.out
                have g1' := g1.out
                refine bodyPost_ret (v := .tuple #[.agg #[.int .u64 0, .int .u64 0], .int .i64 4]) (by simp [results, Tryd.results19, go_sem, g0', g1']) rfl ?_
                have hb := HC.out.below
                exact ⟨we_eq' (by rw [HP.out.1]; rfl) (by rw [HP.out.1]; rfl) HP.out.2.symm, by go_grown⟩
        · have hd' : digB s.data.toList[k] = false := by simpa using hd
          have HP := Lib.hid (parse_not hkl hd')
          have g := HI.out.r0.set 0 0
          have g0 := Lib.hid g.c0
          have g1 := Lib.hid g.c1
          have hnd : PlainAid.bt s k < 48 ∨ 57 < PlainAid.bt s k := by
            have h := mt (digB_iff _).2 hd
            rw [← hbk] at h
            omega
          clear hd hd' hbk g hkl
          rcases hnd with hnd | hnd
          all_goals
            go_wp2_with fail
            have g0' := g0.out
            have g1' := g1.out
            refine bodyPost_ret (v := .tuple #[.agg #[.int .u64 0, .int .u64 0], .int .i64 4]) (by simp [results, Tryd.results19, go_sem, g0', g1']) rfl ?_
            have hb := HI.out.below
            exact ⟨we_eq' (by rw [HP.out.1]; rfl) (by rw [HP.out.1]; rfl) HP.out.2.symm, by go_grown⟩
      · have g := HI.out.r0.set (hiZ V) (loZ V)
        have g0 := Lib.hid g.c0
        have g1 := Lib.hid g.c1
        have ht : s.data.toList.take k = s.data.toList := List.take_of_length_le (by rw [HLEN.out]; omega)
        have hv := HI.out.val
        have hd := HI.out.dig
        rw [ht] at hv hd
        have HP := Lib.hid (parse_done HNE.out HHD.out hv hd)
        clear g hv hd ht
        go_wp2_with fail
        have g0' := g0.out
        have g1' := g1.out
        refine bodyPost_ret (v := .tuple #[.agg #[.int .u64 (hiZ V), .int .u64 (loZ V)], .int .i64 0]) (by simp [results, Tryd.results19, go_sem, g0', g1']) rfl ?_
        have hb := HI.out.below
        exact ⟨we_eq' (by rw [HP.out.1]) (by rw [HP.out.1]) HP.out.2.symm, by go_grown⟩

set_option maxHeartbeats 1000000 in
theorem parse_any (s : ByteArray) (w : World) (hs : s.size ≤ 9223372036854775807) :
    Calls Tryd.prog 19 #[.string s] w fun e w' =>
      e = .returned (.tuple #[.agg #[.int .u64 (hiZ (parU s.data.toList)), .int .u64 (loZ (parU s.data.toList))], .int .i64 (parE s.data.toList)]) ∧ Below w.heap.size w w' := by
  have hl : s.toList = s.data.toList := by rw [ByteArray.toList_eq]
  by_cases h0 : s.size = 0
  · have hn : s.data.toList = [] := List.eq_nil_of_length_eq_zero (by simpa using h0)
    have hi : isNum s.data.toList = false := by rw [hn]; rfl
    have he : s.toList.isEmpty = true := by rw [hl, hn]; rfl
    have HI := Lib.hid hi
    clear hi hn hl
    go_enter Tryd.func19, Tryd.ntmps19
    go_wp2_with fail
    go_returns
    exact ⟨we_eq' (by rw [parU_bad HI.out]; rfl) (by rw [parU_bad HI.out]; rfl) (parE_bad HI.out).symm, by go_grown⟩
  · by_cases hz : PlainAid.bt s 0 ≠ 48 ∨ s.toList = [48]
    · exact parse_loop s w hs (by omega) hz
    · have h1 : 0 < s.size := by omega
      have hb0 : PlainAid.bt s 0 = 48 := by omega
      have hne : (s.toList == [48]) = false := by simpa using fun h => hz (Or.inr h)
      have he : s.toList.isEmpty = false := by
        rw [hl]
        cases hc : s.data.toList with
        | nil => exact absurd (by simpa using congrArg List.length hc) h0
        | cons a l => rfl
      have hi : isNum s.data.toList = false := by
        have hd := bt_get s 0 (by simpa using h1)
        rw [hb0] at hd
        rw [hl] at hne
        cases hc : s.data.toList with
        | nil => rfl
        | cons a l =>
          simp only [hc, List.getElem_cons_zero] at hd
          have ha : a = 48 := UInt8.toNat_inj.1 (by simp; omega)
          rw [hc] at hne
          unfold isNum
          rw [hne, ha]
          simp
      have HI := Lib.hid hi
      have hbt := PlainAid.get_bt s
      clear hi hl hz
      go_enter Tryd.func19, Tryd.ntmps19
      go_wp2_with fail
      go_returns
      exact ⟨we_eq' (by rw [parU_bad HI.out]; rfl) (by rw [parU_bad HI.out]; rfl) (parE_bad HI.out).symm, by go_grown⟩
end Go.Proofs.YtnbchhjanlpdlaaDoor
