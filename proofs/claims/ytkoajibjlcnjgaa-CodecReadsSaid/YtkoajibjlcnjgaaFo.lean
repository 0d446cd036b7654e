/-
  WALKS: seal.Open.
-/
import Derived.Test.YtkoajibjlcnjgaaFm
import Derived.Test.YtkoajibjlcnjgaaCr
import Derived.Deep.RegionHeld3
namespace Go.Proofs.Ytkoajibjlcnjgaa
open Go Go.RowKit

theorem ubF_last (f : Nat) : ∀ n, n < 2 ^ (7 * f + 1) → ∃ (i : Nat) (h : i < (ubF f n).length), (ubF f n)[i].toNat < 128 := by
  induction f with
  | zero =>
    intro n hn
    have : n < 2 := by simpa using hn
    refine ⟨0, Nat.zero_lt_one, ?_⟩
    show (UInt8.ofNat n).toNat < 128
    rw [tn (by omega)]; omega
  | succ f ih =>
    intro n hn
    rw [pw] at hn
    by_cases h : n < 128
    · have e := ubF_lt (f := f + 1) h
      refine ⟨0, by rw [e]; exact Nat.zero_lt_one, ?_⟩
      simp only [e, List.getElem_cons_zero]
      rw [tn (by omega)]; omega
    · have e := ubF_ge (f := f) (n := n) (by omega)
      obtain ⟨i, hi, hb⟩ := ih (n / 128) (by omega)
      refine ⟨i + 1, by rw [e]; simpa using hi, ?_⟩
      simp only [e, List.getElem_cons_succ]
      exact hb
/-- A length that ends: endsInLength says no. -/
theorem eil_ub {n : Nat} {r : List UInt8} (hn : n < 18446744073709551616) (hs : (ub n ++ r).length ≤ 140737488355328) (w : World) :
    Calls Try.prog 45 #[.string (bs (ub n ++ r))] w fun e w' => e = .returned (.bool false) ∧ w = w' := by
  by_cases h : 10 ≤ (ub n ++ r).length
  · exact eil_long _ h hs w
  · obtain ⟨i, hi, hb⟩ := ubF_last 9 n (by simpa using hn)
    have hi' : i < (ub n ++ r).length := by rw [List.length_append]; have : i < (ub n).length := hi; omega
    refine eil_short _ (by omega) i hi' ?_ w
    have e : (ub n ++ r)[i] = (ubF 9 n)[i] := by
      show (ubF 9 n ++ r)[i] = _
      exact List.getElem_append_left hi
    rw [e]
    exact hb

theorem hd_cons (k : Nat) (t : List UInt8) : hd k t = UInt8.ofNat (k % 256) :: (ub t.length ++ t) := rfl
theorem fx1 (k : Nat) : fxF 1 k = [UInt8.ofNat (k % 256)] := rfl

set_option maxHeartbeats 4000000 in
set_option maxRecDepth 100000 in
theorem open_good (k : Nat) (hk : k < 256) (t c r : List UInt8) (ht : t.length ≤ 4194304) (hc : c.length = 4) (hr : r.length ≤ 1073741824) (hb : bev c = revN (sumN (hd k t))) (w : World) :
    Calls Try.prog 33 #[.string (bs (hd k t ++ (c ++ r)))] w fun e w' => e = .returned (.tuple #[.int .u8 k, .string (bs t), .string (bs r), .int .i64 0]) ∧ Below w.heap.size w w' := by
  have hul := (ub_len t.length).2
  obtain ⟨S, hS⟩ : ∃ S, S = hd k t ++ (c ++ r) := ⟨_, rfl⟩
  rw [← hS]
  have e1 : S = UInt8.ofNat (k % 256) :: (ub t.length ++ (t ++ (c ++ r))) := by rw [hS, hd_cons]; simp
  have hlen : S.length = 1 + (ub t.length).length + t.length + 4 + r.length := by rw [e1]; simp only [List.length_cons, List.length_append]; omega
  have hz : (bs S).size = 1 + (ub t.length).length + t.length + 4 + r.length := by rw [bs_size, hlen]
  have hx1 : (bs S).extract 1 (1 + (ub t.length).length + t.length + 4 + r.length) = bs (ub t.length ++ (t ++ (c ++ r))) := by rw [← hz, bs_drop, e1]; rfl
  have hx2 : (bs S).extract 0 (1 + (ub t.length).length + t.length + 4 + r.length - (4 + r.length)) = bs (hd k t) := by
    rw [show 1 + (ub t.length).length + t.length + 4 + r.length - (4 + r.length) = 1 + (ub t.length).length + t.length by omega]
    have hh : (hd k t).length = 1 + (ub t.length).length + t.length := by rw [hd_cons]; simp only [List.length_cons, List.length_append]; omega
    rw [bs_take, ← hh, hS, List.take_left]
  have hl1 : (ub t.length ++ (t ++ (c ++ r))).length ≤ 140737488355328 := by simp only [List.length_append]; omega
  have htl : (bs S).toList = UInt8.ofNat (k % 256) :: (ub t.length ++ (t ++ (c ++ r))) := by rw [bs_toList, e1]
  have hg0 : ((bs S)[0]'(by rw [bs_size, hlen]; omega)).toNat = k := by
    rw [bs_get _ 0 (by rw [bs_size, hlen]; omega), List.getElem_of_eq e1]
    rw [List.getElem_cons_zero, tn (by omega)]
    omega
  have hlh : (hd k t).length ≤ 4194315 := by have := hd_len k t; omega
  have hlt2 : (t ++ (c ++ r)).length = t.length + (4 + r.length) := by simp only [List.length_append]; omega
  have hlt3 : (c ++ r).length = 4 + r.length := by simp only [List.length_append]; omega
  have ht' : (t.length : Int) ≤ 4194304 := by omega
  have hr' : (r.length : Int) ≤ 1073741824 := by omega
  have hul' : ((ub t.length).length : Int) ≤ 10 := by omega
  have HL1 := Lib.hid hl1
  have HC := Lib.hid hc
  have HT := Lib.hid ht
  have HRl := Lib.hid hr
  have HB := Lib.hid hb
  have HLH := Lib.hid hlh
  have HL2 : Hid ((t ++ (c ++ r)).length ≤ 140737488355328) := by rw [hlt2]; show _ ≤ _; omega
  have HL3 : Hid ((c ++ r).length ≤ 140737488355328) := by rw [hlt3]; show _ ≤ _; omega
  clear e1 hl1 hlh hb hc hS
  go_enter Try.func33, Try.ntmps33
  go_wp2_with fail
  refine (eil_ub (by have := HT.out; omega) HL1.out _).mono ?_
  rintro e w1 ⟨rfl, rfl⟩
  go_wp2_with fail
  refine (ropen_any _ _).mono ?_
  rintro e w1 ⟨rfl, rfl⟩
  have HR := Lib.hid (Rd.new w (ub t.length ++ (t ++ (c ++ r))))
  have HS : Hid (Step (from_ w.heap.size) w (w.alloc (.cells #[.string (bs (ub t.length ++ (t ++ (c ++ r)))), .bool false] 72))) := (Step.refl _ _).alloc _
  have HQ : Hid (w.heap.size ≤ w.heap.size) := Nat.le_refl _
  generalize (w.alloc (.cells #[.string (bs (ub t.length ++ (t ++ (c ++ r)))), .bool false] 72)) = w2 at *
  go_wp2_with fail
  refine (cb1 (n := t.length) (r := t ++ (c ++ r)) (by have := HT.out; omega) HL1.out HR.out).mono ?_
  rintro e w3 ⟨rfl, hr3, hs3⟩
  have HR3 := Lib.hid hr3
  have HS3 : Hid (Step (from_ w.heap.size) w w3) := HS.out.trans (hs3.mono (fun k hk => by rw [hk]; exact HQ.out))
  clear hr3 hs3 HR HS
  go_wp2_with fail
  refine (bad_any w.heap.size _ false _ HR3.out).mono ?_
  rintro e w4 ⟨rfl, rfl⟩
  go_wp2_with fail
  refine (left_good w.heap.size _ _ HR3.out).mono ?_
  rintro e w4 ⟨rfl, rfl⟩
  rw [hlt2]
  go_wp2_with fail
  refine (raw_ok w.heap.size (t ++ (c ++ r)) t.length (by rw [hlt2]; omega) HL2.out _ HR3.out).mono ?_
  rintro e w4 ⟨rfl, hr4, hs4⟩
  rw [List.take_left]
  rw [List.drop_left] at hr4
  have HR4 := Lib.hid hr4
  have HS4 : Hid (Step (from_ w.heap.size) w w4) := HS3.out.trans (hs4.mono (fun k hk => by rw [hk]; exact HQ.out))
  clear hr4 hs4 HR3 HS3
  go_wp2_with fail
  refine (left_good w.heap.size _ _ HR4.out).mono ?_
  rintro e w5 ⟨rfl, rfl⟩
  rw [hlt3]
  go_wp2_with fail
  refine (rfixed_ok w.heap.size (c ++ r) 4 (by decide) (by decide) (by rw [hlt3]; omega) HL3.out _ HR4.out).mono ?_
  rintro e w5 ⟨he5, hr5, hs5⟩
  have et : (c ++ r).take 4 = c := by rw [← HC.out, List.take_left]
  have ed : (c ++ r).drop 4 = r := by rw [← HC.out, List.drop_left]
  rw [et] at he5
  rw [ed] at hr5
  subst he5
  have HR5 := Lib.hid hr5
  have HS5 : Hid (Step (from_ w.heap.size) w w5) := HS4.out.trans (hs5.mono (fun k hk => by rw [hk]; exact HQ.out))
  clear hr5 hs5 HR4 HS4 et ed
  go_wp2_with fail
  refine (sum_any (hd k t) (by have := HLH.out; omega) _).mono ?_
  rintro e w6 ⟨rfl, hb6⟩
  have HR6 : Hid (Rd w6 w.heap.size r false) := HR5.out.step (S := fun _ => False) (Step.of_below hb6) (fun h => h)
  have HS6 : Hid (Step (from_ w.heap.size) w w6) := HS5.out.trans (Step.of_below hb6)
  clear hb6 HR5 HS5
  go_wp2_with fail
  refine (low_any (sumN (hd k t)) (sumN_lt _) _).mono ?_
  rintro e w7 ⟨rfl, rfl⟩
  rw [HB.out]
  go_wp2_with fail
  have HL6 : Hid (r.length ≤ 140737488355328) := by have := HRl.out; show _ ≤ _; omega
  have hzr := bs_size r
  go_region_held3 (fun w' => True) (exact trivial) (first
    | (go_at_call 24; refine (left_good w.heap.size r _ HR6.out.drew').mono ?_; rintro e w7 ⟨rfl, rfl⟩)
    | (go_at_call 41; refine (raw_ok w.heap.size r r.length (Nat.le_refl _) HL6.out _ HR6.out.drew').mono ?_; rintro e w8 ⟨rfl, hr8, hs8⟩))
  all_goals
    go_wp2_with fail
    refine bodyPost_ret (v := .tuple #[.int .u8 k, .string (bs t), .string (bs r), .int .i64 0]) (by simp [results, Try.results33, go_sem]) rfl ⟨rfl, ?_⟩
    exact (HS6.out.drew'.trans (hs8.mono (fun k hk => by rw [hk]; exact HQ.out))).toBelow
set_option maxHeartbeats 4000000 in
set_option maxRecDepth 100000 in
theorem open_bad (k : Nat) (hk : k < 256) (t c r : List UInt8) (ht : t.length ≤ 4194304) (hc : c.length = 4) (hr : r.length ≤ 1073741824) (hb : bev c ≠ revN (sumN (hd k t))) (w : World) :
    Calls Try.prog 33 #[.string (bs (hd k t ++ (c ++ r)))] w fun e w' => e = .returned (.tuple #[.int .u8 0, .string (bs []), .string (bs []), .int .i64 4]) ∧ Below w.heap.size w w' := by
  have hul := (ub_len t.length).2
  obtain ⟨S, hS⟩ : ∃ S, S = hd k t ++ (c ++ r) := ⟨_, rfl⟩
  rw [← hS]
  have e1 : S = UInt8.ofNat (k % 256) :: (ub t.length ++ (t ++ (c ++ r))) := by rw [hS, hd_cons]; simp
  have hlen : S.length = 1 + (ub t.length).length + t.length + 4 + r.length := by rw [e1]; simp only [List.length_cons, List.length_append]; omega
  have hz : (bs S).size = 1 + (ub t.length).length + t.length + 4 + r.length := by rw [bs_size, hlen]
  have hx1 : (bs S).extract 1 (1 + (ub t.length).length + t.length + 4 + r.length) = bs (ub t.length ++ (t ++ (c ++ r))) := by rw [← hz, bs_drop, e1]; rfl
  have hx2 : (bs S).extract 0 (1 + (ub t.length).length + t.length + 4 + r.length - (4 + r.length)) = bs (hd k t) := by
    rw [show 1 + (ub t.length).length + t.length + 4 + r.length - (4 + r.length) = 1 + (ub t.length).length + t.length by omega]
    have hh : (hd k t).length = 1 + (ub t.length).length + t.length := by rw [hd_cons]; simp only [List.length_cons, List.length_append]; omega
    rw [bs_take, ← hh, hS, List.take_left]
  have hl1 : (ub t.length ++ (t ++ (c ++ r))).length ≤ 140737488355328 := by simp only [List.length_append]; omega
  have htl : (bs S).toList = UInt8.ofNat (k % 256) :: (ub t.length ++ (t ++ (c ++ r))) := by rw [bs_toList, e1]
  have hg0 : ((bs S)[0]'(by rw [bs_size, hlen]; omega)).toNat = k := by
    rw [bs_get _ 0 (by rw [bs_size, hlen]; omega), List.getElem_of_eq e1]
    rw [List.getElem_cons_zero, tn (by omega)]
    omega
  have hlh : (hd k t).length ≤ 4194315 := by have := hd_len k t; omega
  have hlt2 : (t ++ (c ++ r)).length = t.length + (4 + r.length) := by simp only [List.length_append]; omega
  have hlt3 : (c ++ r).length = 4 + r.length := by simp only [List.length_append]; omega
  have ht' : (t.length : Int) ≤ 4194304 := by omega
  have hr' : (r.length : Int) ≤ 1073741824 := by omega
  have hul' : ((ub t.length).length : Int) ≤ 10 := by omega
  have HL1 := Lib.hid hl1
  have HC := Lib.hid hc
  have HT := Lib.hid ht
  have HRl := Lib.hid hr
  have HB := Lib.hid hb
  have HLH := Lib.hid hlh
  have HL2 : Hid ((t ++ (c ++ r)).length ≤ 140737488355328) := by rw [hlt2]; show _ ≤ _; omega
  have HL3 : Hid ((c ++ r).length ≤ 140737488355328) := by rw [hlt3]; show _ ≤ _; omega
  clear e1 hl1 hlh hb hc hS
  go_enter Try.func33, Try.ntmps33
  go_wp2_with fail
  refine (eil_ub (by have := HT.out; omega) HL1.out _).mono ?_
  rintro e w1 ⟨rfl, rfl⟩
  go_wp2_with fail
  refine (ropen_any _ _).mono ?_
  rintro e w1 ⟨rfl, rfl⟩
  have HR := Lib.hid (Rd.new w (ub t.length ++ (t ++ (c ++ r))))
  have HS : Hid (Step (from_ w.heap.size) w (w.alloc (.cells #[.string (bs (ub t.length ++ (t ++ (c ++ r)))), .bool false] 72))) := (Step.refl _ _).alloc _
  have HQ : Hid (w.heap.size ≤ w.heap.size) := Nat.le_refl _
  generalize (w.alloc (.cells #[.string (bs (ub t.length ++ (t ++ (c ++ r)))), .bool false] 72)) = w2 at *
  go_wp2_with fail
  refine (cb1 (n := t.length) (r := t ++ (c ++ r)) (by have := HT.out; omega) HL1.out HR.out).mono ?_
  rintro e w3 ⟨rfl, hr3, hs3⟩
  have HR3 := Lib.hid hr3
  have HS3 : Hid (Step (from_ w.heap.size) w w3) := HS.out.trans (hs3.mono (fun k hk => by rw [hk]; exact HQ.out))
  clear hr3 hs3 HR HS
  go_wp2_with fail
  refine (bad_any w.heap.size _ false _ HR3.out).mono ?_
  rintro e w4 ⟨rfl, rfl⟩
  go_wp2_with fail
  refine (left_good w.heap.size _ _ HR3.out).mono ?_
  rintro e w4 ⟨rfl, rfl⟩
  rw [hlt2]
  go_wp2_with fail
  refine (raw_ok w.heap.size (t ++ (c ++ r)) t.length (by rw [hlt2]; omega) HL2.out _ HR3.out).mono ?_
  rintro e w4 ⟨rfl, hr4, hs4⟩
  rw [List.take_left]
  rw [List.drop_left] at hr4
  have HR4 := Lib.hid hr4
  have HS4 : Hid (Step (from_ w.heap.size) w w4) := HS3.out.trans (hs4.mono (fun k hk => by rw [hk]; exact HQ.out))
  clear hr4 hs4 HR3 HS3
  go_wp2_with fail
  refine (left_good w.heap.size _ _ HR4.out).mono ?_
  rintro e w5 ⟨rfl, rfl⟩
  rw [hlt3]
  go_wp2_with fail
  refine (rfixed_ok w.heap.size (c ++ r) 4 (by decide) (by decide) (by rw [hlt3]; omega) HL3.out _ HR4.out).mono ?_
  rintro e w5 ⟨he5, hr5, hs5⟩
  have et : (c ++ r).take 4 = c := by rw [← HC.out, List.take_left]
  have ed : (c ++ r).drop 4 = r := by rw [← HC.out, List.drop_left]
  rw [et] at he5
  rw [ed] at hr5
  subst he5
  have HR5 := Lib.hid hr5
  have HS5 : Hid (Step (from_ w.heap.size) w w5) := HS4.out.trans (hs5.mono (fun k hk => by rw [hk]; exact HQ.out))
  clear hr5 hs5 HR4 HS4 et ed
  go_wp2_with fail
  refine (sum_any (hd k t) (by have := HLH.out; omega) _).mono ?_
  rintro e w6 ⟨rfl, hb6⟩
  have HR6 : Hid (Rd w6 w.heap.size r false) := HR5.out.step (S := fun _ => False) (Step.of_below hb6) (fun h => h)
  have HS6 : Hid (Step (from_ w.heap.size) w w6) := HS5.out.trans (Step.of_below hb6)
  clear hb6 HR5 HS5
  go_wp2_with fail
  refine (low_any (sumN (hd k t)) (sumN_lt _) _).mono ?_
  rintro e w7 ⟨rfl, rfl⟩
  have hne : ((bev c : Nat) : Int) ≠ ((revN (sumN (hd k t)) : Nat) : Int) := by have := HB.out; omega
  have hne1 : (((bev c : Nat) : Int) != ((revN (sumN (hd k t)) : Nat) : Int)) = true := by simp; exact hne
  have hne2 : ¬ bev c = revN (sumN (hd k t)) := HB.out
  go_wp2_with fail
  refine bodyPost_ret (v := .tuple #[.int .u8 0, .string (bs []), .string (bs []), .int .i64 4]) (by simp [results, Try.results33, go_sem]; rfl) rfl ⟨rfl, HS6.out.toBelow⟩
end Go.Proofs.Ytkoajibjlcnjgaa
