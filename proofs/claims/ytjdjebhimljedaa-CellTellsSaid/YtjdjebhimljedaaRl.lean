/-
  WALKS: plimsollref01.Less: which number is less, by the first bytes that part, from the top.
-/
import Derived.Test.YtjdjebhimljedaaRa
namespace Go.Proofs.Ytjdjebhimljedaa
open Go Go.RowKit

theorem top_next (n j : Nat) : n / 256 ^ j = n / 256 ^ (j + 1) * 256 + byt n j := by
  unfold byt
  rw [Nat.pow_succ, ← Nat.div_div_eq_div_mul]
  have := Nat.div_add_mod (n / 256 ^ j) 256
  omega
theorem top_less {m n j : Nat} (h : m / 256 ^ (j + 1) = n / 256 ^ (j + 1)) (hb : byt m j < byt n j) : m < n := by
  have h1 : m / 256 ^ j < n / 256 ^ j := by rw [top_next m j, top_next n j, h]; omega
  rcases Nat.lt_or_ge m n with h2 | h2
  · exact h2
  · have := Nat.div_le_div_right (c := 256 ^ j) h2; omega
theorem top_same {m n j : Nat} (h : m / 256 ^ (j + 1) = n / 256 ^ (j + 1)) (hb : byt m j = byt n j) : m / 256 ^ j = n / 256 ^ j := by
  rw [top_next m j, top_next n j, h, hb]
theorem top_none (a : U) : a.n / 256 ^ 16 = 0 := Nat.div_eq_of_lt a.lt
/-- What holds at a round's head. -/
structure LessInv (w0 wr : World) (g6 g7 : Nat) (a b : U) : Prop where
  below : Below w0.heap.size w0 wr
  r6 : Blk16 wr g6 (byf a.n)
  r7 : Blk16 wr g7 (byf b.n)
theorem LessInv.drewN {w0 wr : World} {g6 g7 n : Nat} {a b : U} (h : LessInv w0 wr g6 g7 a b) : LessInv w0 (wr.drewN n) g6 g7 a b := ⟨bdn h.below, h.r6.drewN, h.r7.drewN⟩
theorem ret_bool {x y : Bool} (h : x = y) : Ending.returned (.bool x) = Ending.returned (.bool y) := by rw [h]

set_option maxHeartbeats 2000000 in
set_option maxRecDepth 100000 in
theorem rless (a b : U) (w : World) :
    Calls Try.prog 29 #[.agg #[.int .u64 (hiZ a), .int .u64 (loZ a)], .agg #[.int .u64 (hiZ b), .int .u64 (loZ b)]] w fun e w' =>
      e = .returned (.bool (lessB a b)) ∧ Below w.heap.size w w' := by
  go_enter Try.func29, Try.ntmps29
  go_upto_region 1 with fail
  obtain ⟨w0, hw0⟩ : ∃ w0, w0 = ((w.alloc (.cells #[.int .u64 (hiZ a), .int .u64 (loZ a)] 26)).alloc (.cells #[.int .u64 (hiZ b), .int .u64 (loZ b)] 26)) := ⟨_, rfl⟩
  rw [← hw0]
  obtain ⟨pa, hpa⟩ : ∃ g, g = w.heap.size := ⟨_, rfl⟩
  obtain ⟨pb, hpb⟩ : ∃ g, g = w.heap.size + 1 := ⟨_, rfl⟩
  have HA : Hid (Blk2 w0 pa (hiZ a) (loZ a)) := by rw [hw0]; exact (Blk2.new_at _ _ hpa).alloc _
  have HB2 : Hid (Blk2 w0 pb (hiZ b) (loZ b)) := by rw [hw0]; exact Blk2.new_at _ _ (by simp [hpb])
  have HW : Hid (Below w.heap.size w w0) := by rw [hw0]; exact (show Below w.heap.size w _ by go_grown)
  rw [← hpb, ← hpa]
  clear hw0 hpa hpb
  refine wp_region_inv (J := fun listed act W => ∃ (b0 b1 b2 b3 b4 b5 b6 b7 : Bool) (x0 x1 x2 x3 x4 x5 : Value) (g6 g7 : Nat), listed = #[b0, b1, b2, b3, b4, b5, b6, b7] ∧ act = { tmps := #[.agg #[.int .u64 (hiZ a), .int .u64 (loZ a)], .agg #[.int .u64 (hiZ b), .int .u64 (loZ b)], .pointer (some ⟨pa, 0, none⟩), .pointer (some ⟨pb, 0, none⟩), .bool false, x4, x5, undef, x0, x1, x2, x3, undef, undef, undef, undef, undef, undef, undef, undef, undef, undef, undef, undef, undef, undef, undef, undef, undef, undef], defers := [] } ∧ PairJ w0 a b W b0 b1 b2 b3 b4 b5 b6 b7 x0 x1 x2 x3 x4 x5 g6 g7) (by kernel_rfl) ⟨false, false, false, false, false, false, false, false, undef, undef, undef, undef, undef, undef, 0, 0, rfl, rfl, PairJ.start _ _ _⟩ ?_ ?_
  · intro listed act W i hJ hi
    obtain ⟨b0, b1, b2, b3, b4, b5, b6, b7, x0, x1, x2, x3, x4, x5, g6, g7, rfl, rfl, hJ⟩ := hJ
    have HJ := Lib.hid hJ
    obtain ⟨hi1, hi2, hi3⟩ := ready_spec hi
    clear hJ hi
    have hi4 : i < 8 := hi1
    clear hi1
    have hcase : i = 0 ∨ i = 1 ∨ i = 2 ∨ i = 3 ∨ i = 4 ∨ i = 5 ∨ i = 6 ∨ i = 7 := by omega
    clear hi4
    rcases hcase with rfl | rfl | rfl | rfl | rfl | rfl | rfl | rfl
    · refine wpOp_step (o := _) rfl (fun K hK => ?_)
      have HK := Lib.hid hK
      clear hK
      clear hi3 hi2
      have c0 := (HA.out.keep HJ.out.below).c0
      have c1 := (HA.out.keep HJ.out.below).c1
      go_simp
      exact HK.out _ _ ⟨_, _, _, _, _, _, _, _, _, _, _, _, _, _, _, _, rfl, rfl, HJ.out.load0⟩
    · refine wpOp_step (o := _) rfl (fun K hK => ?_)
      have HK := Lib.hid hK
      clear hK
      have hd := hi3 _ rfl
      simp [Region.binds] at hd
      clear hi3 hi2
      have q0 : b0 = true := by (cases b0 with | true => rfl | false => simp at hd)
      obtain rfl := HJ.out.e0 q0
      clear hd
      go_simp
      go_at_call 37
      refine (rbytes a _).mono ?_
      rintro e w1 ⟨rfl, hb⟩
      exact HK.out _ _ ⟨_, _, _, _, _, _, _, _, _, _, _, _, _, _, _, _, rfl, rfl, HJ.out.call1 hb⟩
    · refine wpOp_step (o := _) rfl (fun K hK => ?_)
      have HK := Lib.hid hK
      clear hK
      clear hi3 hi2
      have c0 := (HB2.out.keep HJ.out.below).c0
      have c1 := (HB2.out.keep HJ.out.below).c1
      go_simp
      exact HK.out _ _ ⟨_, _, _, _, _, _, _, _, _, _, _, _, _, _, _, _, rfl, rfl, HJ.out.load2⟩
    · refine wpOp_step (o := _) rfl (fun K hK => ?_)
      have HK := Lib.hid hK
      clear hK
      have hd := hi3 _ rfl
      simp [Region.binds] at hd
      clear hi3 hi2
      have q2 : b2 = true := by (cases b2 with | true => rfl | false => simp at hd)
      obtain rfl := HJ.out.e2 q2
      clear hd
      go_simp
      go_at_call 37
      refine (rbytes b _).mono ?_
      rintro e w1 ⟨rfl, hb⟩
      exact HK.out _ _ ⟨_, _, _, _, _, _, _, _, _, _, _, _, _, _, _, _, rfl, rfl, HJ.out.call3 hb⟩
    · refine wpOp_step (o := _) rfl (fun K hK => ?_)
      have HK := Lib.hid hK
      clear hK
      clear hi3
      obtain rfl : b4 = false := hi2
      go_simp
      exact HK.out _ _ ⟨_, _, _, _, _, _, _, _, _, _, _, _, _, _, _, _, rfl, rfl, HJ.out.alloc4⟩
    · refine wpOp_step (o := _) rfl (fun K hK => ?_)
      have HK := Lib.hid hK
      clear hK
      clear hi3
      obtain rfl : b5 = false := hi2
      go_simp
      exact HK.out _ _ ⟨_, _, _, _, _, _, _, _, _, _, _, _, _, _, _, _, rfl, rfl, HJ.out.alloc5⟩
    · refine wpOp_step (o := _) rfl (fun K hK => ?_)
      have HK := Lib.hid hK
      clear hK
      have hd := hi3 _ rfl
      simp [Region.binds] at hd
      clear hi3 hi2
      have q4 : b4 = true := by (cases b4 with | true => rfl | false => simp at hd)
      have q1 : b1 = true := by (cases b1 with | true => rfl | false => simp at hd)
      have q3 : b3 = true := by (cases b3 with | true => rfl | false => simp at hd)
      have q5 : b5 = true := by (cases b5 with | true => rfl | false => simp at hd)
      obtain rfl := HJ.out.e1 q1
      obtain ⟨hp, hq, f, hr, hs⟩ := HJ.out.k4 q4
      subst hp
      clear hd
      subst q4 q5
      rw [if_pos (by rfl)]
      refine wp_store_mid 58 _ _ rfl g6 0 (A16 (byf a.n)) rfl rfl hr.there info16 (one16 _) ?_
      exact HK.out _ _ ⟨_, _, _, _, _, _, _, _, _, _, _, _, _, _, _, _, rfl, rfl, HJ.out.store6⟩
    · refine wpOp_step (o := _) rfl (fun K hK => ?_)
      have HK := Lib.hid hK
      clear hK
      have hd := hi3 _ rfl
      simp [Region.binds] at hd
      clear hi3 hi2
      have q4 : b4 = true := by (cases b4 with | true => rfl | false => simp at hd)
      have q1 : b1 = true := by (cases b1 with | true => rfl | false => simp at hd)
      have q3 : b3 = true := by (cases b3 with | true => rfl | false => simp at hd)
      have q5 : b5 = true := by (cases b5 with | true => rfl | false => simp at hd)
      obtain rfl := HJ.out.e3 q3
      obtain ⟨hp, hq, f, hr, hs⟩ := HJ.out.k5 q5
      subst hp
      clear hd
      subst q4 q5
      rw [if_pos (by rfl)]
      refine wp_store_mid 58 _ _ rfl g7 0 (A16 (byf b.n)) rfl rfl hr.there info16 (one16 _) ?_
      exact HK.out _ _ ⟨_, _, _, _, _, _, _, _, _, _, _, _, _, _, _, _, rfl, rfl, HJ.out.store7⟩
  · intro listed act W hJ hr
    obtain ⟨b0, b1, b2, b3, b4, b5, b6, b7, x0, x1, x2, x3, x4, x5, g6, g7, rfl, rfl, hJ⟩ := hJ
    have HJ := Lib.hid hJ
    clear hJ
    have q0 : b0 = true := by
      cases b0 with
      | true => rfl
      | false =>
        have hm : 0 ∈ ([] : List Nat) := by rw [← hr]; exact ready_in (o := _) rfl rfl (by simp [Region.binds])
        cases hm
    subst q0
    have q1 : b1 = true := by
      cases b1 with
      | true => rfl
      | false =>
        have hm : 1 ∈ ([] : List Nat) := by rw [← hr]; exact ready_in (o := _) rfl rfl (by simp [Region.binds])
        cases hm
    subst q1
    have q2 : b2 = true := by
      cases b2 with
      | true => rfl
      | false =>
        have hm : 2 ∈ ([] : List Nat) := by rw [← hr]; exact ready_in (o := _) rfl rfl (by simp [Region.binds])
        cases hm
    subst q2
    have q3 : b3 = true := by
      cases b3 with
      | true => rfl
      | false =>
        have hm : 3 ∈ ([] : List Nat) := by rw [← hr]; exact ready_in (o := _) rfl rfl (by simp [Region.binds])
        cases hm
    subst q3
    have q4 : b4 = true := by
      cases b4 with
      | true => rfl
      | false =>
        have hm : 4 ∈ ([] : List Nat) := by rw [← hr]; exact ready_in (o := _) rfl rfl (by simp [Region.binds])
        cases hm
    subst q4
    have q5 : b5 = true := by
      cases b5 with
      | true => rfl
      | false =>
        have hm : 5 ∈ ([] : List Nat) := by rw [← hr]; exact ready_in (o := _) rfl rfl (by simp [Region.binds])
        cases hm
    subst q5
    have q6 : b6 = true := by
      cases b6 with
      | true => rfl
      | false =>
        have hm : 6 ∈ ([] : List Nat) := by rw [← hr]; exact ready_in (o := _) rfl rfl (by simp [Region.binds])
        cases hm
    subst q6
    have q7 : b7 = true := by
      cases b7 with
      | true => rfl
      | false =>
        have hm : 7 ∈ ([] : List Nat) := by rw [← hr]; exact ready_in (o := _) rfl rfl (by simp [Region.binds])
        cases hm
    subst q7
    clear hr
    obtain rfl := HJ.out.e0 rfl
    obtain rfl := HJ.out.e1 rfl
    obtain rfl := HJ.out.e2 rfl
    obtain rfl := HJ.out.e3 rfl
    obtain ⟨hp, hq, f, hr6, hs⟩ := HJ.out.k4 rfl
    obtain ⟨hp7, hq7, f7, hr7, hs7⟩ := HJ.out.k5 rfl
    obtain rfl := hs rfl
    obtain rfl := hs7 rfl
    subst hp hp7
    have hne67 := HJ.out.ne rfl rfl
    have HBW := Lib.hid HJ.out.below
    have H6 := Lib.hid hr6
    have H7 := Lib.hid hr7
    clear hs hs7 hr6 hr7 HJ
    try dsimp only
    go_wp2_with fail
    go_loopw [7] (fun i wr => ((∃ j : Nat, j < 16 ∧ i = .int .i64 j ∧ a.n / 256 ^ (j + 1) = b.n / 256 ^ (j + 1)) ∨ (i = .int .i64 (-1) ∧ a.n = b.n)) ∧ LessInv w0 wr g6 g7 a b) (fun i _ => (intOf i + 1).toNat)
    case atStart => exact ⟨Or.inl ⟨15, by omega, rfl, by rw [top_none, top_none]⟩, HBW.out, H6.out, H7.out⟩
    case round =>
      obtain ⟨hrel, hI⟩ := hrel
      have HI := Lib.hid hI
      clear hI
      rcases hrel with ⟨j, hj, rfl, hab⟩ | ⟨rfl, hab⟩
      · have HAB := Lib.hid hab
        clear hab
        have e0 := HI.out.r6.cell hj
        have e1 := HI.out.r7.cell hj
        obtain ⟨u, hu⟩ : ∃ u, u = byt a.n j := ⟨_, rfl⟩
        obtain ⟨v, hv⟩ : ∃ v, v = byt b.n j := ⟨_, rfl⟩
        rw [show byf a.n j = ((byt a.n j : Nat) : Int) from rfl, ← hu] at e0
        rw [show byf b.n j = ((byt b.n j : Nat) : Int) from rfl, ← hv] at e1
        have HU := Lib.hid hu
        have HV := Lib.hid hv
        clear hu hv
        by_cases huv : u = v
        · subst huv
          go_wp2_with fail
          go_quiet (fail)
          go_wp2_with fail
          go_roundw
          case rel =>
            refine ⟨?_, HI.out.drewN⟩
            have hsm := top_same HAB.out (by rw [← HU.out, ← HV.out])
            by_cases h0 : j = 0
            · subst h0
              exact Or.inr ⟨rfl, by simpa using hsm⟩
            · obtain ⟨i, rfl⟩ : ∃ i, j = i + 1 := ⟨j - 1, by omega⟩
              exact Or.inl ⟨i, by omega, by go_num, hsm⟩
          case measure => simp [intOf] <;> omega
        · have hne : ((u : Int) != (v : Int)) = true := by simp; omega
          go_wp2_with fail
          go_quiet (fail)
          go_wp2_with fail
          go_quiet (fail)
          go_wp2_with fail
          go_ret
          refine ⟨ret_bool ?_, below_of HW.out (bdn (bdn HI.out.below))⟩
          have hu := HU.out
          have hv := HV.out
          unfold lessB
          by_cases h : u < v
          · have := top_less HAB.out (by rw [← hu, ← hv]; exact h)
            simp [h, this]
          · have := top_less HAB.out.symm (by rw [← hu, ← hv]; omega)
            have h1 : ¬ a.n < b.n := by omega
            simp [h, h1]
      · have HAB := Lib.hid hab
        clear hab
        go_wp2_with fail
        go_ret
        refine ⟨ret_bool ?_, below_of HW.out HI.out.below⟩
        have := HAB.out
        unfold lessB
        simp; omega
end Go.Proofs.Ytjdjebhimljedaa
