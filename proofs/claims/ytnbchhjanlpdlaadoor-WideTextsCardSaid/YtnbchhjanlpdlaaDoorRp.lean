/-
  WALKS: plimsollref01.Parse: the number of a text, by its text.
-/
import Derived.Test.YtnbchhjanlpdlaaDoorRx
import Derived.Test.YtnbchhjanlpdlaaDoorBackMath
namespace Go.Proofs.YtnbchhjanlpdlaaDoor
open Go Go.RowKit

/-- What a byte counts, whatever it is. -/
def dgv (c : UInt8) : Nat := (c.toNat + 208) % 256 % 10
def rv (l : List UInt8) : Nat := l.foldl (fun a c => a * 10 + dgv c) 0
theorem dgv_lt (c : UInt8) : dgv c < 10 := Nat.mod_lt _ (by decide)
theorem dgv_dig {c : UInt8} (h : digB c = true) : dgv c = c.toNat - 48 := by
  have := (digB_iff c).1 h
  unfold dgv
  omega
theorem rv_take (l : List UInt8) (k : Nat) (h : k < l.length) : rv (l.take (k + 1)) = rv (l.take k) * 10 + dgv l[k] := by
  rw [List.take_succ_eq_append_getElem h]
  unfold rv
  rw [List.foldl_append]
  rfl
theorem rv_from (l : List UInt8) : ∀ a, a ≤ l.foldl (fun a c => a * 10 + dgv c) a := by
  induction l with
  | nil => intro a; exact Nat.le_refl _
  | cons c l ih => intro a; rw [List.foldl_cons]; have := ih (a * 10 + dgv c); omega
theorem rv_take_le (l : List UInt8) (k : Nat) : rv (l.take k) ≤ rv l := by
  have h : rv (l.take k) ≤ rv (l.take k ++ l.drop k) := by unfold rv; rw [List.foldl_append]; exact rv_from _ _
  rwa [List.take_append_drop] at h
theorem rv_num {l : List UInt8} (h : l.all digB = true) : rv l = numV l := by
  unfold rv numV
  generalize 0 = a
  induction l generalizing a with
  | nil => rfl
  | cons c l ih =>
    simp only [List.all_cons, Bool.and_eq_true] at h
    rw [List.foldl_cons, List.foldl_cons, dgv_dig h.1]
    exact ih h.2 _
theorem isNum_all {l : List UInt8} (h : isNum l = true) : l.all digB = true := by
  unfold isNum at h; simp only [Bool.and_eq_true] at h; exact h.1.2
/-- A text of digits, the first one no nought, is the text of its number. -/
theorem dec_num : ∀ (m : Nat) (l : List UInt8), l.length ≤ m → l.all digB = true → l ≠ [] → l.head? ≠ some 48 → 1 ≤ numV l ∧ 10 ^ (l.length - 1) ≤ numV l ∧ Lib.decDigits (numV l) = l := by
  intro m
  induction m with
  | zero => intro l h _ hne; exact absurd (List.eq_nil_of_length_eq_zero (by omega)) hne
  | succ m ih =>
    intro l hl ha hne hh
    obtain ⟨p, c, rfl⟩ : ∃ p c, l = p ++ [c] := ⟨l.dropLast, l.getLast hne, (List.dropLast_concat_getLast hne).symm⟩
    rw [List.all_append, Bool.and_eq_true] at ha
    have hc : digB c = true := by simpa using ha.2
    have hcd := (digB_iff c).1 hc
    have hv : numV (p ++ [c]) = numV p * 10 + (c.toNat - 48) := by unfold numV; rw [List.foldl_append]; rfl
    have hcc : UInt8.ofNat (48 + (c.toNat - 48)) = c := UInt8.toNat_inj.1 (by simp; omega)
    by_cases hp : p = []
    · subst hp
      have h0 : c ≠ 48 := fun e => hh (by rw [e]; rfl)
      have h1 : c.toNat ≠ 48 := fun e => h0 (UInt8.toNat_inj.1 (by rw [e]; rfl))
      rw [hv]
      have hz : numV [] = 0 := rfl
      refine ⟨by omega, by simp; omega, ?_⟩
      rw [hz, Nat.zero_mul, Nat.zero_add, dec_small (by omega), hcc]
      rfl
    · have hh' : p.head? ≠ some 48 := fun e => hh (by rw [List.head?_append, e]; rfl)
      obtain ⟨i1, i2, i3⟩ := ih p (by simp at hl; omega) ha.1 hp hh'
      rw [hv]
      have hpl : 0 < p.length := List.length_pos_iff.2 hp
      refine ⟨by omega, ?_, ?_⟩
      · have e : (p ++ [c]).length - 1 = p.length - 1 + 1 := by simp; omega
        rw [e, Nat.pow_succ]
        omega
      · rw [dec_big (by omega), show (numV p * 10 + (c.toNat - 48)) / 10 = numV p by omega, show (numV p * 10 + (c.toNat - 48)) % 10 = c.toNat - 48 by omega, i3, hcc]
theorem num_dec {l : List UInt8} (h : isNum l = true) : Lib.decDigits (numV l) = l := by
  have ha := isNum_all h
  by_cases h48 : l = [48]
  · subst h48; exact dec_small (by decide)
  · unfold isNum at h
    simp only [Bool.and_eq_true, Bool.or_eq_true, Bool.not_eq_true', beq_iff_eq] at h
    have hne : l ≠ [] := by rintro rfl; simp at h
    have hh : l.head? ≠ some 48 := by
      rcases h.2 with h | h
      · simpa using h
      · exact absurd h h48
    exact (dec_num l.length l (Nat.le_refl _) ha hne hh).2.2
theorem num_long {l : List UInt8} (h : 39 < l.length) : parU l = U.zero ∧ parE l = 4 := by
  by_cases hi : isNum l = true
  · have ha := isNum_all hi
    have hh : l.head? ≠ some 48 := by
      intro e
      unfold isNum at hi
      simp only [Bool.and_eq_true, Bool.or_eq_true, Bool.not_eq_true', beq_iff_eq] at hi
      rcases hi.2 with h2 | h2
      · rw [e] at h2; simp at h2
      · rw [h2] at h; simp at h
    have hne : l ≠ [] := by rintro rfl; simp at h
    have h1 := (dec_num l.length l (Nat.le_refl _) ha hne hh).2.1
    have h2 : 10 ^ 39 ≤ 10 ^ (l.length - 1) := Nat.pow_le_pow_right (by decide) (by omega)
    have h3 : 340282366920938463463374607431768211456 ≤ numV l := by
      have : 340282366920938463463374607431768211456 ≤ 10 ^ 39 := by decide
      omega
    exact ⟨parU_big h3, parE_big h3⟩
  · have hi' : isNum l = false := by simpa using hi
    exact ⟨parU_bad hi', parE_bad hi'⟩
theorem rparse_over {l : List UInt8} {V : U} {k : Nat} (h : k < l.length) (hv : V.n = rv (l.take k)) (ho : 340282366920938463463374607431768211456 ≤ V.n * 10 + dgv l[k]) : parU l = U.zero ∧ parE l = 4 := by
  have h1 := rv_take l k h
  have h2 := rv_take_le l (k + 1)
  have hg : 340282366920938463463374607431768211456 ≤ rv l := by rw [← hv] at h1; omega
  by_cases hi : isNum l = true
  · rw [rv_num (isNum_all hi)] at hg
    exact ⟨parU_big hg, parE_big hg⟩
  · have hi' : isNum l = false := by simpa using hi
    exact ⟨parU_bad hi', parE_bad hi'⟩
theorem rparse_same {l : List UInt8} {V : U} (hv : V.n = rv l) (h : Lib.decDigits V.n = l) : parU l = V ∧ parE l = 0 := by
  have hi : isNum l = true := by rw [← h]; exact dec_isNum _
  have hn := rv_num (isNum_all hi)
  rw [hn] at hv
  have hlt := V.lt
  rw [hv] at hlt
  refine ⟨?_, ?_⟩
  · unfold parU; rw [if_pos hi]; exact U.ext (by rw [cutU_n hlt, hv])
  · unfold parE; rw [if_pos ⟨hi, hlt⟩]
theorem rparse_not {l : List UInt8} {V : U} (hv : V.n = rv l) (h : Lib.decDigits V.n ≠ l) : parU l = U.zero ∧ parE l = 4 := by
  by_cases hi : isNum l = true
  · have hn := rv_num (isNum_all hi)
    rw [hn] at hv
    exact absurd (by rw [hv]; exact num_dec hi) h
  · have hi' : isNum l = false := by simpa using hi
    exact ⟨parU_bad hi', parE_bad hi'⟩
/-- What holds at a round's head. -/
structure RParInv (w wr : World) (l : List UInt8) (k : Nat) (V : U) : Prop where
  below : Below w.heap.size w wr
  r0 : Blk2 wr w.heap.size 0 0
  r1 : Blk2 wr (w.heap.size + 1) (hiZ V) (loZ V)
  val : V.n = rv (l.take k)

set_option maxHeartbeats 4000000 in
set_option maxRecDepth 100000 in
theorem rparse (s : ByteArray) (w : World) (hs : s.size ≤ 1000) :
    Calls Tryd.prog 20 #[.string s] w fun e w' =>
      e = .returned (.tuple #[.agg #[.int .u64 (hiZ (parU s.data.toList)), .int .u64 (loZ (parU s.data.toList))], .int .i64 (parE s.data.toList)]) ∧ Below w.heap.size w w' := by
  have hlen : s.data.toList.length = s.size := by simp
  have HLEN := Lib.hid hlen
  have hl : s.toList = s.data.toList := by rw [ByteArray.toList_eq]
  have HLL := Lib.hid hl
  have hbt := PlainAid.get_bt s
  by_cases h39 : 39 < s.size
  · have HP := Lib.hid (num_long (l := s.data.toList) (by omega))
    have h39' : (39 : Int) < (s.size : Int) := by omega
    clear hlen hl h39
    go_enter Tryd.func20, Tryd.ntmps20
    go_wp2_with fail
    refine bodyPost_ret (v := .tuple #[.agg #[.int .u64 0, .int .u64 0], .int .i64 4]) (by simp [results, Tryd.results20, go_sem]) rfl ?_
    exact ⟨we_eq' (by rw [HP.out.1]; rfl) (by rw [HP.out.1]; rfl) HP.out.2.symm, by go_grown⟩
  · have h39' : (s.size : Int) ≤ 39 := by omega
    clear hlen hl
    go_enter Tryd.func20, Tryd.ntmps20
    go_wp2_with fail
    go_loopg [5] s.size (fun gg i wr => ∃ (k : Nat) (V : U), k ≤ s.size ∧ gg = s.size - k ∧ i = .int .i64 k ∧ RParInv w wr s.data.toList k V)
    case atStart =>
      refine ⟨0, U.zero, Nat.zero_le _, rfl, rfl, by go_grown, (Blk2.new w 0 0).alloc _, ?_, rfl⟩
      have h := Blk2.new (w.alloc (.cells #[.int .u64 0, .int .u64 0] 24)) 0 0
      have e : (w.alloc (.cells #[.int .u64 0, .int .u64 0] 24)).heap.size = w.heap.size + 1 := by simp
      rw [e] at h
      exact h
    case round =>
      obtain ⟨k, V, hk, hgg, rfl, hI⟩ := hrel
      have HGG := Lib.hid hgg
      clear hgg
      have z0 := hI.r0.c0; have z1 := hI.r0.c1; have z2 := hI.r0.f0; have z3 := hI.r0.f1
      have y0 := hI.r1.c0; have y1 := hI.r1.c1; have y2 := hI.r1.f0; have y3 := hI.r1.f1
      have s0 := hI.r0.lt
      have s1 := hI.r1.lt
      have HI := Lib.hid hI
      clear hI
      by_cases hlt : k < s.size
      · have hkl : k < s.data.toList.length := by rw [HLEN.out]; exact hlt
        have hbk := bt_get s k hkl
        have hcb := (s.data.toList[k]).toNat_lt
        obtain ⟨D, hDn⟩ : ∃ D : U, D = U.small (dgv s.data.toList[k]) (by have := dgv_lt s.data.toList[k]; omega) := ⟨_, rfl⟩
        have hD0 : (0 : Int) = hiZ D := by rw [hDn]; exact small_hi _ _
        have hDv : D.n = dgv s.data.toList[k] := by rw [hDn]; rfl
        have hD1 : IntKind.u64.wrap (IntKind.u8.wrap (PlainAid.bt s k - 48) % 10) = loZ D := by rw [hDn, ← small_lo, IntKind.wrap_u8, IntKind.wrap_u64, hbk]; unfold dgv; omega
        have hD2 : IntKind.u64.wrap ((IntKind.u8.wrap (PlainAid.bt s k - 48)).tmod 10) = loZ D := by rw [Int.tmod_eq_emod_of_nonneg (by rw [IntKind.wrap_u8]; omega)]; exact hD1
        have HD0 := Lib.hid hD0
        have HD1 := Lib.hid hD1
        have HD2 := Lib.hid hD2
        have HDV := Lib.hid hDv
        have HT := Lib.hid (rv_take s.data.toList k hkl)
        have HOVER := Lib.hid (rparse_over hkl HI.out.val (V := V))
        clear hDn hD0 hD1 hD2 hDv hbk hcb
        go_upto_region 8 with (go_at_call 12; refine (rtimes V 10 (by omega) _).mono ?_; rintro e w1 ⟨rfl, hb1⟩)
        have X0 := Lib.hid (HI.out.r0.keep hb1)
        have X1 := Lib.hid (HI.out.r1.keep hb1)
        have HB1 := Lib.hid (below_of HI.out.below hb1)
        clear hb1 z0 z1 z2 z3 y0 y1 y2 y3
        go_cut [8, 9] (fun s8 s9 wx => ∃ g, s8 = .pointer (some ⟨g, 0, none⟩) ∧ s9 = .int .i64 (addE (timesU V 10) D) ∧ ParCut w wx V (addU (timesU V 10) D) g)
        case first =>
          go_region_held3 (fun w' => w'.cell? ⟨w1.heap.size, 0, none⟩ = some (.int .u64 (hiZ (timesU V 10))) ∧ w'.cell? ⟨w1.heap.size, 1, none⟩ = some (.int .u64 (loZ (timesU V 10)))) (first | exact ⟨by assumption, by assumption⟩ | exact ⟨by (rw [World.cell?_setCell_other _ _ _ _ (by simp), World.cell?_setCell_other _ _ _ _ (by simp)]; assumption), by (rw [World.cell?_setCell_other _ _ _ _ (by simp), World.cell?_setCell_other _ _ _ _ (by simp)]; assumption)⟩ | go_keep) (first
            | (go_at_call 8; refine (radd_at (a := timesU V 10) (b := D) rfl rfl HD0.out (by first | exact HD1.out | exact HD2.out) _).mono ?_; rintro e w2 ⟨rfl, hb2⟩; have kT : Blk2 w2 w1.heap.size (hiZ (timesU V 10)) (loZ (timesU V 10)) := (by refine Blk2.keep ?_ hb2; repeat' (first | (with_reducible exact Blk2.new _ _ _) | (with_reducible refine Blk2.drew ?_) | (with_reducible refine Blk2.alloc ?_ _))); have k0 := kT.c0; have k1 := kT.c1; clear kT; have KB : Hid (Below w.heap.size w w2) := (by refine below_of ?_ hb2; have hB := HB1.out; have hsz := hB.size; go_grown); have K0 : Hid (Blk2 w2 w.heap.size 0 0) := (by refine Blk2.keep ?_ hb2; repeat' (first | (with_reducible exact X0.out) | (with_reducible refine Blk2.drew ?_) | (with_reducible refine Blk2.alloc ?_ _))); have K1 : Hid (Blk2 w2 (w.heap.size + 1) (hiZ V) (loZ V)) := (by refine Blk2.keep ?_ hb2; repeat' (first | (with_reducible exact X1.out) | (with_reducible refine Blk2.drew ?_) | (with_reducible refine Blk2.alloc ?_ _))); obtain ⟨hc2, hf2⟩ := bcell hb2; have hs2 := hb2.size; have HB2 := Lib.hid hb2; clear hb2))
          all_goals
            go_wp2_with fail
            go_meet
            have e0 := X0.out.lt
            have e1 := X1.out.lt
            have kb := KB.out
            have kbs := kb.size
            refine ⟨_, rfl, rfl, by go_grown, ?_, ?_, ?_⟩
            · first
              | exact K0.out.alloc _
              | exact (K0.out.other _ _ (by simp; omega)).other _ _ (by simp; omega)
            · first
              | exact K1.out.alloc _
              | exact (K1.out.other _ _ (by simp; omega)).other _ _ (by simp; omega)
            · first
              | exact Blk2.new _ _ _
              | (refine Blk2.set (h := 0) (l := 0) (Blk2.keep ?_ HB2.out) _ _; repeat' (first | (with_reducible refine Blk2.new_at _ _ (by simp; done)) | (with_reducible refine Blk2.drew ?_) | (with_reducible refine Blk2.alloc ?_ _)))
        case rest =>
          obtain ⟨g, rfl, rfl, hC⟩ := hcut
          have z0 := hC.r0.c0; have z1 := hC.r0.c1; have z2 := hC.r0.f0; have z3 := hC.r0.f1
          have y0 := hC.r1.c0; have y1 := hC.r1.c1; have y2 := hC.r1.f0; have y3 := hC.r1.f1
          have x0 := hC.r8.c0; have x1 := hC.r8.c1
          have HC := Lib.hid hC
          clear hC
          by_cases hov : V.n * 10 + D.n < 340282366920938463463374607431768211456
          · have hT : (timesU V 10).n = V.n * 10 := cutU_n (by omega)
            have tE : timesE V 10 = 0 := cutE_lt (by omega)
            have aE : addE (timesU V 10) D = 0 := by unfold addE; rw [hT]; exact cutE_lt hov
            have aU : (addU (timesU V 10) D).n = V.n * 10 + D.n := by unfold addU; rw [hT, cutU_n hov]
            have tE' : (timesE V 10 != 0) = false := by rw [tE]; rfl
            have aE' : (addE (timesU V 10) D != 0) = false := by rw [aE]; rfl
            have HAU := Lib.hid aU
            clear hov hT tE aE aU
            go_wp2_with fail
            go_roundg (s.size - (k + 1))
            case measure => have := HGG.out; omega
            case rel =>
              have hb := HC.out.below
              refine ⟨k + 1, addU (timesU V 10) D, by omega, rfl, by go_num, by go_grown, (HC.out.r0.other _ _ (by simp)).other _ _ (by simp), HC.out.r1.set _ _, ?_⟩
              rw [HAU.out, HT.out, HDV.out, HI.out.val]
          · have hP := HOVER.out (by have := HDV.out; omega)
            have HP := Lib.hid hP
            have g := HC.out.r0.set 0 0
            have g0 := Lib.hid g.c0
            have g1 := Lib.hid g.c1
            clear g hP
            by_cases hT : V.n * 10 < 340282366920938463463374607431768211456
            · have tE' : (timesE V 10 != 0) = false := by rw [show timesE V 10 = 0 from cutE_lt hT]; rfl
              have aE' : (addE (timesU V 10) D != 0) = true := by
                have : addE (timesU V 10) D = 1 := by
                  unfold addE timesU; rw [cutU_n hT]; exact cutE_ge (by omega)
                rw [this]; rfl
              clear hov hT
              go_wp2_with fail
              have g0' := g0.out
              have g1' := g1.out
              refine bodyPost_ret (v := .tuple #[.agg #[.int .u64 0, .int .u64 0], .int .i64 4]) (by simp [results, Tryd.results20, go_sem, g0', g1']) rfl ?_
              have hb := HC.out.below
              exact ⟨we_eq' (by rw [HP.out.1]; rfl) (by rw [HP.out.1]; rfl) HP.out.2.symm, by go_grown⟩
            · have tE' : (timesE V 10 != 0) = true := by rw [show timesE V 10 = 1 from cutE_ge (by omega)]; rfl
              clear hov hT
              go_wp2_with fail
              have g0' := g0.out
              have g1' := g1.out
              refine bodyPost_ret (v := .tuple #[.agg #[.int .u64 0, .int .u64 0], .int .i64 4]) (by simp [results, Tryd.results20, go_sem, g0', g1']) rfl ?_
              have hb := HC.out.below
              exact ⟨we_eq' (by rw [HP.out.1]; rfl) (by rw [HP.out.1]; rfl) HP.out.2.symm, by go_grown⟩
      · have ht : s.data.toList.take k = s.data.toList := List.take_of_length_le (by rw [HLEN.out]; omega)
        have hv := HI.out.val
        rw [ht] at hv
        have g := HI.out.r0.set (hiZ V) (loZ V)
        by_cases hsame : Lib.decDigits V.n = s.data.toList
        · have HP := Lib.hid (rparse_same hv hsame)
          have hq : (Lib.decDigits V.n == s.toList) = true := by
            rw [HLL.out]; simpa using hsame
          clear g hv ht hsame
          go_wp2_with fail
          refine (rtext (V.n + 1) V _ (by omega)).mono ?_
          rintro e w9 ⟨rfl, hb9⟩
          have k0 := HI.out.r0.keep hb9
          have k1 := HI.out.r1.keep hb9
          have g := k0.set (hiZ V) (loZ V)
          have g0 := Lib.hid g.c0
          have g1 := Lib.hid g.c1
          have HB9 := Lib.hid (below_of HI.out.below hb9)
          clear z0 z1 z2 z3 y0 y1 y2 y3 g hb9
          have z0 := k0.c0; have z1 := k0.c1; have z2 := k0.f0; have z3 := k0.f1
          have y0 := k1.c0; have y1 := k1.c1
          clear k0 k1
          go_wp2_with fail
          have g0' := g0.out
          have g1' := g1.out
          refine bodyPost_ret (v := .tuple #[.agg #[.int .u64 (hiZ V), .int .u64 (loZ V)], .int .i64 0]) (by simp [results, Tryd.results20, go_sem, g0', g1']) rfl ?_
          have hb := HB9.out
          exact ⟨we_eq' (by rw [HP.out.1]) (by rw [HP.out.1]) HP.out.2.symm, by go_grown⟩
        · have HP := Lib.hid (rparse_not hv hsame)
          have hq : (Lib.decDigits V.n == s.toList) = false := by
            rw [HLL.out]; simpa using hsame
          clear g hv ht hsame
          go_wp2_with fail
          refine (rtext (V.n + 1) V _ (by omega)).mono ?_
          rintro e w9 ⟨rfl, hb9⟩
          have k0 := HI.out.r0.keep hb9
          have g := k0.set 0 0
          have g0 := Lib.hid g.c0
          have g1 := Lib.hid g.c1
          have HB9 := Lib.hid (below_of HI.out.below hb9)
          clear z0 z1 z2 z3 y0 y1 y2 y3 g hb9
          have z0 := k0.c0; have z1 := k0.c1; have z2 := k0.f0; have z3 := k0.f1
          clear k0
          go_wp2_with fail
          have g0' := g0.out
          have g1' := g1.out
          refine bodyPost_ret (v := .tuple #[.agg #[.int .u64 0, .int .u64 0], .int .i64 4]) (by simp [results, Tryd.results20, go_sem, g0', g1']) rfl ?_
          have hb := HB9.out
          exact ⟨we_eq' (by rw [HP.out.1]; rfl) (by rw [HP.out.1]; rfl) HP.out.2.symm, by go_grown⟩
end Go.Proofs.YtnbchhjanlpdlaaDoor
