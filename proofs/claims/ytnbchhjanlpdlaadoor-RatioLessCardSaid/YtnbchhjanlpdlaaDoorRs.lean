/-
  WALKS: plimsollref01.Sub: a less b, byte by byte.
-/
import Derived.Test.YtnbchhjanlpdlaaDoorRl
namespace Go.Proofs.YtnbchhjanlpdlaaDoor
open Go Go.RowKit

theorem carry_start (m n : Nat) : carry m n 0 = 0 := by simp [carry, Nat.mod_one]
theorem rsub_start {w w0 : World} {pa pb pr : Nat} {a b : U} (hw0 : w0 = ((w.alloc (.cells #[.int .u64 (hiZ a), .int .u64 (loZ a)] 24)).alloc (.cells #[.int .u64 (hiZ b), .int .u64 (loZ b)] 24)).alloc (.cells #[.int .u64 0, .int .u64 0] 24)) (hpa : pa = w.heap.size) (hpb : pb = w.heap.size + 1) (hpr : pr = w.heap.size + 1 + 1) :
    Blk2 w0 pa (hiZ a) (loZ a) ∧ Blk2 w0 pb (hiZ b) (loZ b) ∧ Blk2 w0 pr 0 0 ∧ Below w.heap.size w w0 :=
  ⟨by rw [hw0]; exact ((Blk2.new_at _ _ hpa).alloc _).alloc _, by rw [hw0]; exact (Blk2.new_at _ _ (by simp [hpb])).alloc _, by rw [hw0]; exact Blk2.new_at _ _ (by simp [hpr]), by rw [hw0]; exact (show Below w.heap.size w _ by go_grown)⟩

set_option maxHeartbeats 2000000 in
set_option maxRecDepth 100000 in
theorem rsub (a b : U) (w : World) :
    Calls Tryd.prog 10 #[.agg #[.int .u64 (hiZ a), .int .u64 (loZ a)], .agg #[.int .u64 (hiZ b), .int .u64 (loZ b)]] w fun e w' =>
      e = .returned (.tuple #[.agg #[.int .u64 (hiZ (subU a b)), .int .u64 (loZ (subU a b))], .int .i64 (subE a b)]) ∧ Below w.heap.size w w' := by
  obtain ⟨pa, hpa⟩ : ∃ g, g = w.heap.size := ⟨_, rfl⟩
  obtain ⟨pb, hpb⟩ : ∃ g, g = w.heap.size + 1 := ⟨_, rfl⟩
  obtain ⟨pr, hpr⟩ : ∃ g, g = w.heap.size + 1 + 1 := ⟨_, rfl⟩
  have HG : Hid (w.heap.size = pa ∧ pb = pa + 1 ∧ pr = pa + 2) := ⟨hpa.symm, by omega, by omega⟩
  obtain ⟨wz, hwz⟩ : ∃ w0, w0 = ((w.alloc (.cells #[.int .u64 (hiZ a), .int .u64 (loZ a)] 24)).alloc (.cells #[.int .u64 (hiZ b), .int .u64 (loZ b)] 24)).alloc (.cells #[.int .u64 0, .int .u64 0] 24) := ⟨_, rfl⟩
  have hst := rsub_start hwz hpa hpb hpr
  have HAZ := Lib.hid hst.1
  have HBZ := Lib.hid hst.2.1
  have HRZ := Lib.hid hst.2.2.1
  have HWZ := Lib.hid hst.2.2.2
  clear hst
  by_cases hlt : a.n < b.n
  · have hls : lessB a b = true := by unfold lessB; simpa using hlt
    have hse : subE a b = 1 := by unfold subE; rw [if_pos hlt]
    have hsu : subU a b = U.zero := U.ext (show a.n - b.n = 0 by omega)
    clear hlt
    go_enter Tryd.func10, Tryd.ntmps10
    go_upto_region 1 with fail
    rw [← hwz, ← hpr, ← hpb, ← hpa]
    clear hwz hpa hpb hpr
    have a0 := HAZ.out.c0
    have a1 := HAZ.out.c1
    have b0 := HBZ.out.c0
    have b1 := HBZ.out.c1
    go_wp2_with fail
    refine (rless a b _).mono ?_
    rintro e w0 ⟨rfl, hb0⟩
    have hR := HRZ.out.keep hb0
    have HX := Lib.hid (hR.set 0 0)
    clear a0 a1 b0 b1
    have f0 := hR.f0
    have f1 := hR.f1
    have d0 := hR.c0
    have d1 := hR.c1
    have HB0 := Lib.hid hb0
    clear hR hb0
    go_wp2_with fail
    have x0 := HX.out.c0
    have x1 := HX.out.c1
    refine bodyPost_ret (v := .tuple #[.agg #[.int .u64 0, .int .u64 0], .int .i64 1]) (by simp [results, Tryd.results10, go_sem, x0, x1]) rfl ?_
    have hle : w.heap.size ≤ pr := by have := HG.out; omega
    exact ⟨we_eq' (by rw [hsu]; rfl) (by rw [hsu]; rfl) hse.symm, ((below_of HWZ.out HB0.out).setCell (p := ⟨pr, 0, none⟩) hle _).setCell (p := ⟨pr, 1, none⟩) hle _⟩
  · have hls : lessB a b = false := by unfold lessB; simpa using hlt
    have hse : subE a b = 0 := by unfold subE; rw [if_neg hlt]
    have hsu : (subU a b).n = a.n - b.n := rfl
    obtain ⟨d, hd⟩ : ∃ d, d = (subU a b).n := ⟨_, rfl⟩
    have hab : a.n = b.n + d := by omega
    have HSE := Lib.hid hse
    have HD := Lib.hid hd
    have HAB := Lib.hid hab
    clear hlt hse hsu hd hab
    go_enter Tryd.func10, Tryd.ntmps10
    go_upto_region 1 with fail
    rw [← hwz, ← hpr, ← hpb, ← hpa]
    clear hwz hpa hpb hpr
    have a0 := HAZ.out.c0
    have a1 := HAZ.out.c1
    have b0 := HBZ.out.c0
    have b1 := HBZ.out.c1
    go_wp2_with fail
    refine (rless a b _).mono ?_
    rintro e w0 ⟨rfl, hb0⟩
    have HA := Lib.hid (HAZ.out.keep hb0)
    have HB2 := Lib.hid (HBZ.out.keep hb0)
    have HR := Lib.hid (HRZ.out.keep hb0)
    have HW := Lib.hid (below_of HWZ.out hb0)
    clear a0 a1 b0 b1 hb0 HAZ HBZ HRZ HWZ
    go_wp2_with fail
    refine wp_region_inv (J := fun listed act W => ∃ (b0 b1 b2 b3 b4 b5 b6 b7 : Bool) (x0 x1 x2 x3 x4 x5 : Value) (g6 g7 : Nat), listed = #[b0, b1, b2, b3, b4, b5, b6, b7] ∧ act = { tmps := #[.agg #[.int .u64 (hiZ a), .int .u64 (loZ a)], .agg #[.int .u64 (hiZ b), .int .u64 (loZ b)], .pointer (some ⟨pa, 0, none⟩), .pointer (some ⟨pb, 0, none⟩), .pointer (some ⟨pr, 0, none⟩), .int .i64 0, x4, x5, undef, undef, undef, .agg #[.int .u64 (hiZ a), .int .u64 (loZ a)], .agg #[.int .u64 (hiZ b), .int .u64 (loZ b)], .bool false, undef, x0, x1, x2, x3, undef, undef, undef, undef, undef, undef, undef, undef, undef, undef, undef, undef, undef, undef, undef, undef, undef, undef, undef, undef, undef, undef], defers := [] } ∧ PairJ w0 a b W b0 b1 b2 b3 b4 b5 b6 b7 x0 x1 x2 x3 x4 x5 g6 g7) (by kernel_rfl) ⟨false, false, false, false, false, false, false, false, undef, undef, undef, undef, undef, undef, 0, 0, rfl, rfl, PairJ.start _ _ _⟩ ?_ ?_
    · intro listed act W i hJ hi
      obtain ⟨b0, b1, b2, b3, b4, b5, b6, b7, x0, x1, x2, x3, x4, x5, g6, g7, rfl, rfl, hJ⟩ := hJ
      have HJ := Lib.hid hJ
      obtain ⟨hi1, hi2, hi3⟩ := ready_spec hi
      clear hJ hi
      have hi4 : i < 8 := hi1
      clear hi1
      have hcase : i = 0 ∨ i = 1 ∨ i = 2 ∨ i = 3 ∨ i = 4 ∨ i = 5 ∨ i = 6 ∨ i = 7 := by omega
      clear hi4
      rcases hcase with rfl | rfl | rfl | rfl | rfl | rfl | rfl | rfl
      · refine wpOp_step (o := _) rfl (fun K hK => ?_)
        have HK := Lib.hid hK
        clear hK
        clear hi3 hi2
        have c0 := (HA.out.keep HJ.out.below).c0
        have c1 := (HA.out.keep HJ.out.below).c1
        go_simp
        exact HK.out _ _ ⟨_, _, _, _, _, _, _, _, _, _, _, _, _, _, _, _, rfl, rfl, HJ.out.load0⟩
      · refine wpOp_step (o := _) rfl (fun K hK => ?_)
        have HK := Lib.hid hK
        clear hK
        have hd := hi3 _ rfl
        simp [Region.binds] at hd
        clear hi3 hi2
        have q0 : b0 = true := by (cases b0 with | true => rfl | false => simp at hd)
        obtain rfl := HJ.out.e0 q0
        clear hd
        go_simp
        go_at_call 41
        refine (rbytes a _).mono ?_
        rintro e w1 ⟨rfl, hb⟩
        exact HK.out _ _ ⟨_, _, _, _, _, _, _, _, _, _, _, _, _, _, _, _, rfl, rfl, HJ.out.call1 hb⟩
      · refine wpOp_step (o := _) rfl (fun K hK => ?_)
        have HK := Lib.hid hK
        clear hK
        clear hi3 hi2
        have c0 := (HB2.out.keep HJ.out.below).c0
        have c1 := (HB2.out.keep HJ.out.below).c1
        go_simp
        exact HK.out _ _ ⟨_, _, _, _, _, _, _, _, _, _, _, _, _, _, _, _, rfl, rfl, HJ.out.load2⟩
      · refine wpOp_step (o := _) rfl (fun K hK => ?_)
        have HK := Lib.hid hK
        clear hK
        have hd := hi3 _ rfl
        simp [Region.binds] at hd
        clear hi3 hi2
        have q2 : b2 = true := by (cases b2 with | true => rfl | false => simp at hd)
        obtain rfl := HJ.out.e2 q2
        clear hd
        go_simp
        go_at_call 41
        refine (rbytes b _).mono ?_
        rintro e w1 ⟨rfl, hb⟩
        exact HK.out _ _ ⟨_, _, _, _, _, _, _, _, _, _, _, _, _, _, _, _, rfl, rfl, HJ.out.call3 hb⟩
      · refine wpOp_step (o := _) rfl (fun K hK => ?_)
        have HK := Lib.hid hK
        clear hK
        clear hi3
        obtain rfl : b4 = false := hi2
        go_simp
        exact HK.out _ _ ⟨_, _, _, _, _, _, _, _, _, _, _, _, _, _, _, _, rfl, rfl, HJ.out.alloc4⟩
      · refine wpOp_step (o := _) rfl (fun K hK => ?_)
        have HK := Lib.hid hK
        clear hK
        clear hi3
        obtain rfl : b5 = false := hi2
        go_simp
        exact HK.out _ _ ⟨_, _, _, _, _, _, _, _, _, _, _, _, _, _, _, _, rfl, rfl, HJ.out.alloc5⟩
      · refine wpOp_step (o := _) rfl (fun K hK => ?_)
        have HK := Lib.hid hK
        clear hK
        have hd := hi3 _ rfl
        simp [Region.binds] at hd
        clear hi3 hi2
        have q4 : b4 = true := by (cases b4 with | true => rfl | false => simp at hd)
        have q1 : b1 = true := by (cases b1 with | true => rfl | false => simp at hd)
        have q3 : b3 = true := by (cases b3 with | true => rfl | false => simp at hd)
        have q5 : b5 = true := by (cases b5 with | true => rfl | false => simp at hd)
        obtain rfl := HJ.out.e1 q1
        obtain ⟨hp, hq, f, hr, hs⟩ := HJ.out.k4 q4
        subst hp
        clear hd
        subst q4 q5
        rw [if_pos (by rfl)]
        refine wp_store_mid 54 _ _ rfl g6 0 (A16 (byf a.n)) rfl rfl hr.there info16 (one16 _) ?_
        exact HK.out _ _ ⟨_, _, _, _, _, _, _, _, _, _, _, _, _, _, _, _, rfl, rfl, HJ.out.store6⟩
      · refine wpOp_step (o := _) rfl (fun K hK => ?_)
        have HK := Lib.hid hK
        clear hK
        have hd := hi3 _ rfl
        simp [Region.binds] at hd
        clear hi3 hi2
        have q4 : b4 = true := by (cases b4 with | true => rfl | false => simp at hd)
        have q1 : b1 = true := by (cases b1 with | true => rfl | false => simp at hd)
        have q3 : b3 = true := by (cases b3 with | true => rfl | false => simp at hd)
        have q5 : b5 = true := by (cases b5 with | true => rfl | false => simp at hd)
        obtain rfl := HJ.out.e3 q3
        obtain ⟨hp, hq, f, hr, hs⟩ := HJ.out.k5 q5
        subst hp
        clear hd
        subst q4 q5
        rw [if_pos (by rfl)]
        refine wp_store_mid 54 _ _ rfl g7 0 (A16 (byf b.n)) rfl rfl hr.there info16 (one16 _) ?_
        exact HK.out _ _ ⟨_, _, _, _, _, _, _, _, _, _, _, _, _, _, _, _, rfl, rfl, HJ.out.store7⟩
    · intro listed act W hJ hr
      obtain ⟨b0, b1, b2, b3, b4, b5, b6, b7, x0, x1, x2, x3, x4, x5, g6, g7, rfl, rfl, hJ⟩ := hJ
      have HJ := Lib.hid hJ
      clear hJ
      have q0 : b0 = true := by
        cases b0 with
        | true => rfl
        | false =>
          have hm : 0 ∈ ([] : List Nat) := by rw [← hr]; exact ready_in (o := _) rfl rfl (by simp [Region.binds])
          cases hm
      subst q0
      have q1 : b1 = true := by
        cases b1 with
        | true => rfl
        | false =>
          have hm : 1 ∈ ([] : List Nat) := by rw [← hr]; exact ready_in (o := _) rfl rfl (by simp [Region.binds])
          cases hm
      subst q1
      have q2 : b2 = true := by
        cases b2 with
        | true => rfl
        | false =>
          have hm : 2 ∈ ([] : List Nat) := by rw [← hr]; exact ready_in (o := _) rfl rfl (by simp [Region.binds])
          cases hm
      subst q2
      have q3 : b3 = true := by
        cases b3 with
        | true => rfl
        | false =>
          have hm : 3 ∈ ([] : List Nat) := by rw [← hr]; exact ready_in (o := _) rfl rfl (by simp [Region.binds])
          cases hm
      subst q3
      have q4 : b4 = true := by
        cases b4 with
        | true => rfl
        | false =>
          have hm : 4 ∈ ([] : List Nat) := by rw [← hr]; exact ready_in (o := _) rfl rfl (by simp [Region.binds])
          cases hm
      subst q4
      have q5 : b5 = true := by
        cases b5 with
        | true => rfl
        | false =>
          have hm : 5 ∈ ([] : List Nat) := by rw [← hr]; exact ready_in (o := _) rfl rfl (by simp [Region.binds])
          cases hm
      subst q5
      have q6 : b6 = true := by
        cases b6 with
        | true => rfl
        | false =>
          have hm : 6 ∈ ([] : List Nat) := by rw [← hr]; exact ready_in (o := _) rfl rfl (by simp [Region.binds])
          cases hm
      subst q6
      have q7 : b7 = true := by
        cases b7 with
        | true => rfl
        | false =>
          have hm : 7 ∈ ([] : List Nat) := by rw [← hr]; exact ready_in (o := _) rfl rfl (by simp [Region.binds])
          cases hm
      subst q7
      clear hr
      obtain rfl := HJ.out.e0 rfl
      obtain rfl := HJ.out.e1 rfl
      obtain rfl := HJ.out.e2 rfl
      obtain rfl := HJ.out.e3 rfl
      obtain ⟨hp, hq, f, hr6, hs⟩ := HJ.out.k4 rfl
      obtain ⟨hp7, hq7, f7, hr7, hs7⟩ := HJ.out.k5 rfl
      obtain rfl := hs rfl
      obtain rfl := hs7 rfl
      subst hp hp7
      have hne67 := HJ.out.ne rfl rfl
      have HBW := Lib.hid HJ.out.below
      have H6 := Lib.hid hr6
      have H7 := Lib.hid hr7
      clear hs hs7 hr6 hr7 HJ
      try dsimp only
      go_wp2_with fail
      go_loopw [8, 19] (fun m i wr => ∃ k c : Nat, k ≤ 16 ∧ c = carry b.n d k ∧ i = .int .i64 k ∧ m = .int .i64 c ∧ AddInv w0 wr g6 g7 pr d a b k) (fun _ i _ => 16 - (intOf i).toNat)
      case atStart => exact ⟨0, 0, by omega, (carry_start _ _).symm, rfl, rfl, HBW.out, H6.out.congr (fun j _ => byx_start _ _ j), H7.out⟩
      case round =>
        obtain ⟨k, c, hk, hc, rfl, rfl, hI⟩ := hrel
        have HI := Lib.hid hI
        have HC := Lib.hid hc
        have hc1 : c ≤ 1 := by rw [hc]; exact carry_le _ _ _
        clear hI hc
        by_cases hlt : k < 16
        · have e0 := HI.out.r6.cell hlt
          rw [byx_at] at e0
          have e1 := HI.out.r7.cell hlt
          have f0 := HI.out.r6.free k
          obtain ⟨u, hu⟩ : ∃ u, u = byt a.n k := ⟨_, rfl⟩
          obtain ⟨v, hv⟩ : ∃ v, v = byt b.n k := ⟨_, rfl⟩
          obtain ⟨x, hx⟩ : ∃ x, x = byt d k := ⟨_, rfl⟩
          have hu2 : u < 256 := by rw [hu]; exact byt_lt _ _
          have hv2 : v < 256 := by rw [hv]; exact byt_lt _ _
          have hx2 : x < 256 := by rw [hx]; exact byt_lt _ _
          have hux : u = (v + x + c) % 256 := by rw [hu, hv, hx, HC.out, HAB.out, byt_add]
          have hcn : carry b.n d (k + 1) = (v + x + c) / 256 := by rw [hv, hx, HC.out, carry_next]
          rw [← hu] at e0
          rw [show byf b.n k = ((byt b.n k : Nat) : Int) from rfl, ← hv] at e1
          have HX := Lib.hid hx
          have HUX := Lib.hid hux
          have HCN := Lib.hid hcn
          have h7 : ∀ q, Blk16 (wr.drewN q) g7 (byf b.n) := fun q => HI.out.r7.drewN
          have h6 : ∀ q, Blk16 (wr.drewN q) g6 (byx d a.n k) := fun q => HI.out.r6.drewN
          have hB : ∀ q, Below w0.heap.size w0 (wr.drewN q) := fun q => bdn HI.out.below
          have H67 := Lib.hid (And.intro h6 (And.intro h7 hB))
          clear hu hv hx hux hcn h6 h7 hB
          by_cases hov : v + x + c < 256
          · have hn : (u : Int) - (v : Int) - (c : Int) = (x : Int) := by have := HUX.out; omega
            have hc2 : carry b.n d (k + 1) = 0 := by rw [HCN.out]; omega
            have HC2 := Lib.hid hc2
            clear hov hc2
            go_wp2_with fail
            go_quiet (fail)
            go_wp2_with fail
            go_roundw
            case rel =>
              refine ⟨k + 1, 0, by omega, HC2.out.symm, by go_num, rfl, ?_⟩
              exact ⟨(H67.out.2.2 _).setCell (p := ⟨g6, k, none⟩) hq _, by have h := (H67.out.1 nq).set hlt (x : Int); rw [HX.out] at h ⊢; exact h.congr (fun j _ => byx_next _ _ _ j), (H67.out.2.1 _).other _ _ (Ne.symm hne67)⟩
            case measure => simp [intOf] <;> omega
          · have hn : (u : Int) - (v : Int) - (c : Int) = (x : Int) - 256 := by have := HUX.out; omega
            have hc2 : carry b.n d (k + 1) = 1 := by rw [HCN.out]; omega
            have HC2 := Lib.hid hc2
            clear hov hc2
            go_wp2_with fail
            go_quiet (fail)
            go_wp2_with fail
            go_roundw
            case rel =>
              refine ⟨k + 1, 1, by omega, HC2.out.symm, by go_num, rfl, ?_⟩
              exact ⟨(H67.out.2.2 _).setCell (p := ⟨g6, k, none⟩) hq _, by have h := (H67.out.1 nq).set hlt (x : Int); rw [HX.out] at h ⊢; exact (h.congr (fun j _ => byx_next _ _ _ j)), (H67.out.2.1 _).other _ _ (Ne.symm hne67)⟩
            case measure => simp [intOf] <;> omega
        · have h16 : k = 16 := by omega
          have hr := (HR.out.keep HI.out.below)
          have f0 := hr.f0
          have f1 := hr.f1
          have d0 := hr.c0
          have d1 := hr.c1
          have hprlt := HR.out.lt
          have h6 : Blk16 wr g6 (byf (subU a b).n) := by
            have h := HI.out.r6
            rw [h16] at h
            rw [← HD.out]
            exact h.congr (fun j hj => byx_end _ _ j hj)
          obtain ⟨p0, p1, p2, p3, p4, p5, p6, p7, p8, p9, p10, p11, p12, p13, p14, p15⟩ := h6.cells
          clear h6
          have HR2 := Lib.hid hr
          clear hr
          go_wp2_with fail
          refine (rof (subU a b) _).mono ?_
          rintro e w1 ⟨rfl, hb⟩
          have hr1 := HR2.out.keep hb
          have HX := Lib.hid (hr1.set (hiZ (subU a b)) (loZ (subU a b)))
          clear f0 f1 d0 d1 p0 p1 p2 p3 p4 p5 p6 p7 p8 p9 p10 p11 p12 p13 p14 p15
          have f0 := hr1.f0
          have f1 := hr1.f1
          have d0 := hr1.c0
          have d1 := hr1.c1
          clear hr1
          go_wp2_with fail
          have x0 := HX.out.c0
          have x1 := HX.out.c1
          refine bodyPost_ret (v := .tuple #[.agg #[.int .u64 (hiZ (subU a b)), .int .u64 (loZ (subU a b))], .int .i64 0]) (by simp [results, Tryd.results10, go_sem, x0, x1]) rfl ?_
          have hle : w.heap.size ≤ pr := by have := HG.out; omega
          exact ⟨we_eq' rfl rfl HSE.out.symm, ((below_of (below_of HW.out HI.out.below) hb).setCell (p := ⟨pr, 0, none⟩) hle _).setCell (p := ⟨pr, 1, none⟩) hle _⟩
end Go.Proofs.YtnbchhjanlpdlaaDoor
