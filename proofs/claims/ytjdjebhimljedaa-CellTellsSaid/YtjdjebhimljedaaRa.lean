/-
  WALKS: plimsollref01.Add: both together, byte by byte.
-/
import Derived.Test.YtjdjebhimljedaaPair
namespace Go.Proofs.Ytjdjebhimljedaa
open Go Go.RowKit

/-- What is carried over behind the first k bytes. -/
def carry (m n k : Nat) : Nat := (m % 256 ^ k + n % 256 ^ k) / 256 ^ k
theorem p256 (k : Nat) : 0 < 256 ^ k := Nat.pow_pos (by decide)
theorem carry_le (m n k : Nat) : carry m n k ≤ 1 := by
  have h1 := Nat.mod_lt m (p256 k)
  have h2 := Nat.mod_lt n (p256 k)
  unfold carry
  have : (m % 256 ^ k + n % 256 ^ k) / 256 ^ k < 2 := Nat.div_lt_of_lt_mul (by omega)
  omega
theorem carry_next (m n k : Nat) : carry m n (k + 1) = (byt m k + byt n k + carry m n k) / 256 := by
  have hp := p256 k
  unfold carry
  rw [byt_next, byt_next, Nat.pow_succ, ← Nat.div_div_eq_div_mul]
  congr 1
  rw [show m % 256 ^ k + byt m k * 256 ^ k + (n % 256 ^ k + byt n k * 256 ^ k) = (m % 256 ^ k + n % 256 ^ k) + (byt m k + byt n k) * 256 ^ k by rw [Nat.add_mul]; omega, Nat.add_mul_div_right _ _ hp]
  omega
theorem byt_add (m n k : Nat) : byt (m + n) k = (byt m k + byt n k + carry m n k) % 256 := by
  have hp := p256 k
  have e : (m + n) / 256 ^ k = m / 256 ^ k + n / 256 ^ k + carry m n k := by
    have h1 := Nat.div_add_mod m (256 ^ k)
    have h2 := Nat.div_add_mod n (256 ^ k)
    have h3 : m + n = (m % 256 ^ k + n % 256 ^ k) + (m / 256 ^ k + n / 256 ^ k) * 256 ^ k := by rw [Nat.mul_comm, Nat.mul_add]; omega
    rw [h3, Nat.add_mul_div_right _ _ hp]
    unfold carry
    omega
  unfold byt
  rw [e]
  omega
theorem carry_end (a b : U) : carry a.n b.n 16 = (a.n + b.n) / 340282366920938463463374607431768211456 := by
  have h1 := a.lt
  have h2 := b.lt
  unfold carry
  rw [show 256 ^ 16 = 340282366920938463463374607431768211456 by rfl, Nat.mod_eq_of_lt h1, Nat.mod_eq_of_lt h2]
/-- The first k bytes of s, and those of a behind. -/
def byx (s a k : Nat) : Nat → Int := fun j => if j < k then ((byt s j : Nat) : Int) else ((byt a j : Nat) : Int)
theorem byx_start (s a j : Nat) : byf a j = byx s a 0 j := by unfold byf byx; rw [if_neg (by omega)]
theorem byx_end (s a j : Nat) (h : j < 16) : byx s a 16 j = byf s j := by unfold byf byx; rw [if_pos h]
theorem byx_at (s a k : Nat) : byx s a k k = ((byt a k : Nat) : Int) := by unfold byx; rw [if_neg (by omega)]
theorem byx_next (s a k j : Nat) : upd (byx s a k) k ((byt s k : Nat) : Int) j = byx s a (k + 1) j := by
  unfold upd byx
  by_cases h1 : j = k
  · rw [if_pos h1, if_pos (by omega), h1]
  · rw [if_neg h1]
    by_cases h2 : j < k
    · rw [if_pos h2, if_pos (by omega)]
    · rw [if_neg h2, if_neg (by omega)]
theorem addU_n {a b : U} (h : a.n + b.n < 340282366920938463463374607431768211456) : (addU a b).n = a.n + b.n := cutU_n h
/-- What holds at a round's head. -/
structure AddInv (w0 wr : World) (g6 g7 pr : Nat) (s : Nat) (a b : U) (k : Nat) : Prop where
  below : Below w0.heap.size w0 wr
  r6 : Blk16 wr g6 (byx s a.n k)
  r7 : Blk16 wr g7 (byf b.n)
theorem tm_mod {x : Nat} : (x : Int).tmod 256 = ((x % 256 : Nat) : Int) := by rw [Int.tmod_eq_emod_of_nonneg (by omega)]; rfl
theorem tm_div {x : Nat} : (x : Int).tdiv 256 = ((x / 256 : Nat) : Int) := by rw [Int.tdiv_eq_ediv_of_nonneg (by omega)]; rfl

set_option maxHeartbeats 2000000 in
set_option maxRecDepth 100000 in
theorem radd (a b : U) (w : World) :
    Calls Try.prog 33 #[.agg #[.int .u64 (hiZ a), .int .u64 (loZ a)], .agg #[.int .u64 (hiZ b), .int .u64 (loZ b)]] w fun e w' =>
      e = .returned (.tuple #[.agg #[.int .u64 (hiZ (addU a b)), .int .u64 (loZ (addU a b))], .int .i64 (addE a b)]) ∧ Below w.heap.size w w' := by
  go_enter Try.func33, Try.ntmps33
  go_upto_region 1 with fail
  obtain ⟨w0, hw0⟩ : ∃ w0, w0 = ((w.alloc (.cells #[.int .u64 (hiZ a), .int .u64 (loZ a)] 26)).alloc (.cells #[.int .u64 (hiZ b), .int .u64 (loZ b)] 26)).alloc (.cells #[.int .u64 0, .int .u64 0] 26) := ⟨_, rfl⟩
  rw [← hw0]
  obtain ⟨pa, hpa⟩ : ∃ g, g = w.heap.size := ⟨_, rfl⟩
  obtain ⟨pb, hpb⟩ : ∃ g, g = w.heap.size + 1 := ⟨_, rfl⟩
  obtain ⟨pr, hpr⟩ : ∃ g, g = w.heap.size + 1 + 1 := ⟨_, rfl⟩
  have HA : Hid (Blk2 w0 pa (hiZ a) (loZ a)) := by rw [hw0]; exact ((Blk2.new_at _ _ hpa).alloc _).alloc _
  have HB2 : Hid (Blk2 w0 pb (hiZ b) (loZ b)) := by rw [hw0]; exact (Blk2.new_at _ _ (by simp [hpb])).alloc _
  have HR : Hid (Blk2 w0 pr 0 0) := by rw [hw0]; exact Blk2.new_at _ _ (by simp [hpr])
  have HW : Hid (Below w.heap.size w w0) := by rw [hw0]; exact (show Below w.heap.size w _ by go_grown)
  rw [← hpr, ← hpb, ← hpa]
  have HG : Hid (w.heap.size = pa ∧ pb = pa + 1 ∧ pr = pa + 2) := ⟨hpa.symm, by omega, by omega⟩
  clear hw0 hpa hpb hpr
  refine wp_region_inv (J := fun listed act W => ∃ (b0 b1 b2 b3 b4 b5 b6 b7 : Bool) (x0 x1 x2 x3 x4 x5 : Value) (g6 g7 : Nat), listed = #[b0, b1, b2, b3, b4, b5, b6, b7] ∧ act = { tmps := #[.agg #[.int .u64 (hiZ a), .int .u64 (loZ a)], .agg #[.int .u64 (hiZ b), .int .u64 (loZ b)], .pointer (some ⟨pa, 0, none⟩), .pointer (some ⟨pb, 0, none⟩), .pointer (some ⟨pr, 0, none⟩), .int .i64 0, x4, x5, undef, undef, undef, x0, x1, x2, x3, undef, undef, undef, undef, undef, undef, undef, undef, undef, undef, undef, undef, undef, undef, undef, undef, undef, undef, undef, undef, undef, undef, undef, undef], defers := [] } ∧ PairJ w0 a b W b0 b1 b2 b3 b4 b5 b6 b7 x0 x1 x2 x3 x4 x5 g6 g7) (by kernel_rfl) ⟨false, false, false, false, false, false, false, false, undef, undef, undef, undef, undef, undef, 0, 0, rfl, rfl, PairJ.start _ _ _⟩ ?_ ?_
  · intro listed act W i hJ hi
    obtain ⟨b0, b1, b2, b3, b4, b5, b6, b7, x0, x1, x2, x3, x4, x5, g6, g7, rfl, rfl, hJ⟩ := hJ
    have HJ := Lib.hid hJ
    obtain ⟨hi1, hi2, hi3⟩ := ready_spec hi
    clear hJ hi
    have hi4 : i < 8 := hi1
    clear hi1
    have hcase : i = 0 ∨ i = 1 ∨ i = 2 ∨ i = 3 ∨ i = 4 ∨ i = 5 ∨ i = 6 ∨ i = 7 := by omega
    clear hi4
    rcases hcase with rfl | rfl | rfl | rfl | rfl | rfl | rfl | rfl
    · refine wpOp_step (o := _) rfl (fun K hK => ?_)
      have HK := Lib.hid hK
      clear hK
      clear hi3 hi2
      have c0 := (HA.out.keep HJ.out.below).c0
      have c1 := (HA.out.keep HJ.out.below).c1
      go_simp
      exact HK.out _ _ ⟨_, _, _, _, _, _, _, _, _, _, _, _, _, _, _, _, rfl, rfl, HJ.out.load0⟩
    · refine wpOp_step (o := _) rfl (fun K hK => ?_)
      have HK := Lib.hid hK
      clear hK
      have hd := hi3 _ rfl
      simp [Region.binds] at hd
      clear hi3 hi2
      have q0 : b0 = true := by (cases b0 with | true => rfl | false => simp at hd)
      obtain rfl := HJ.out.e0 q0
      clear hd
      go_simp
      go_at_call 37
      refine (rbytes a _).mono ?_
      rintro e w1 ⟨rfl, hb⟩
      exact HK.out _ _ ⟨_, _, _, _, _, _, _, _, _, _, _, _, _, _, _, _, rfl, rfl, HJ.out.call1 hb⟩
    · refine wpOp_step (o := _) rfl (fun K hK => ?_)
      have HK := Lib.hid hK
      clear hK
      clear hi3 hi2
      have c0 := (HB2.out.keep HJ.out.below).c0
      have c1 := (HB2.out.keep HJ.out.below).c1
      go_simp
      exact HK.out _ _ ⟨_, _, _, _, _, _, _, _, _, _, _, _, _, _, _, _, rfl, rfl, HJ.out.load2⟩
    · refine wpOp_step (o := _) rfl (fun K hK => ?_)
      have HK := Lib.hid hK
      clear hK
      have hd := hi3 _ rfl
      simp [Region.binds] at hd
      clear hi3 hi2
      have q2 : b2 = true := by (cases b2 with | true => rfl | false => simp at hd)
      obtain rfl := HJ.out.e2 q2
      clear hd
      go_simp
      go_at_call 37
      refine (rbytes b _).mono ?_
      rintro e w1 ⟨rfl, hb⟩
      exact HK.out _ _ ⟨_, _, _, _, _, _, _, _, _, _, _, _, _, _, _, _, rfl, rfl, HJ.out.call3 hb⟩
    · refine wpOp_step (o := _) rfl (fun K hK => ?_)
      have HK := Lib.hid hK
      clear hK
      clear hi3
      obtain rfl : b4 = false := hi2
      go_simp
      exact HK.out _ _ ⟨_, _, _, _, _, _, _, _, _, _, _, _, _, _, _, _, rfl, rfl, HJ.out.alloc4⟩
    · refine wpOp_step (o := _) rfl (fun K hK => ?_)
      have HK := Lib.hid hK
      clear hK
      clear hi3
      obtain rfl : b5 = false := hi2
      go_simp
      exact HK.out _ _ ⟨_, _, _, _, _, _, _, _, _, _, _, _, _, _, _, _, rfl, rfl, HJ.out.alloc5⟩
    · refine wpOp_step (o := _) rfl (fun K hK => ?_)
      have HK := Lib.hid hK
      clear hK
      have hd := hi3 _ rfl
      simp [Region.binds] at hd
      clear hi3 hi2
      have q4 : b4 = true := by (cases b4 with | true => rfl | false => simp at hd)
      have q1 : b1 = true := by (cases b1 with | true => rfl | false => simp at hd)
      have q3 : b3 = true := by (cases b3 with | true => rfl | false => simp at hd)
      have q5 : b5 = true := by (cases b5 with | true => rfl | false => simp at hd)
      obtain rfl := HJ.out.e1 q1
      obtain ⟨hp, hq, f, hr, hs⟩ := HJ.out.k4 q4
      subst hp
      clear hd
      subst q4 q5
      rw [if_pos (by rfl)]
      refine wp_store_mid 58 _ _ rfl g6 0 (A16 (byf a.n)) rfl rfl hr.there info16 (one16 _) ?_
      exact HK.out _ _ ⟨_, _, _, _, _, _, _, _, _, _, _, _, _, _, _, _, rfl, rfl, HJ.out.store6⟩
    · refine wpOp_step (o := _) rfl (fun K hK => ?_)
      have HK := Lib.hid hK
      clear hK
      have hd := hi3 _ rfl
      simp [Region.binds] at hd
      clear hi3 hi2
      have q4 : b4 = true := by (cases b4 with | true => rfl | false => simp at hd)
      have q1 : b1 = true := by (cases b1 with | true => rfl | false => simp at hd)
      have q3 : b3 = true := by (cases b3 with | true => rfl | false => simp at hd)
      have q5 : b5 = true := by (cases b5 with | true => rfl | false => simp at hd)
      obtain rfl := HJ.out.e3 q3
      obtain ⟨hp, hq, f, hr, hs⟩ := HJ.out.k5 q5
      subst hp
      clear hd
      subst q4 q5
      rw [if_pos (by rfl)]
      refine wp_store_mid 58 _ _ rfl g7 0 (A16 (byf b.n)) rfl rfl hr.there info16 (one16 _) ?_
      exact HK.out _ _ ⟨_, _, _, _, _, _, _, _, _, _, _, _, _, _, _, _, rfl, rfl, HJ.out.store7⟩
  · intro listed act W hJ hr
    obtain ⟨b0, b1, b2, b3, b4, b5, b6, b7, x0, x1, x2, x3, x4, x5, g6, g7, rfl, rfl, hJ⟩ := hJ
    have HJ := Lib.hid hJ
    clear hJ
    have q0 : b0 = true := by
      cases b0 with
      | true => rfl
      | false =>
        have hm : 0 ∈ ([] : List Nat) := by rw [← hr]; exact ready_in (o := _) rfl rfl (by simp [Region.binds])
        cases hm
    subst q0
    have q1 : b1 = true := by
      cases b1 with
      | true => rfl
      | false =>
        have hm : 1 ∈ ([] : List Nat) := by rw [← hr]; exact ready_in (o := _) rfl rfl (by simp [Region.binds])
        cases hm
    subst q1
    have q2 : b2 = true := by
      cases b2 with
      | true => rfl
      | false =>
        have hm : 2 ∈ ([] : List Nat) := by rw [← hr]; exact ready_in (o := _) rfl rfl (by simp [Region.binds])
        cases hm
    subst q2
    have q3 : b3 = true := by
      cases b3 with
      | true => rfl
      | false =>
        have hm : 3 ∈ ([] : List Nat) := by rw [← hr]; exact ready_in (o := _) rfl rfl (by simp [Region.binds])
        cases hm
    subst q3
    have q4 : b4 = true := by
      cases b4 with
      | true => rfl
      | false =>
        have hm : 4 ∈ ([] : List Nat) := by rw [← hr]; exact ready_in (o := _) rfl rfl (by simp [Region.binds])
        cases hm
    subst q4
    have q5 : b5 = true := by
      cases b5 with
      | true => rfl
      | false =>
        have hm : 5 ∈ ([] : List Nat) := by rw [← hr]; exact ready_in (o := _) rfl rfl (by simp [Region.binds])
        cases hm
    subst q5
    have q6 : b6 = true := by
      cases b6 with
      | true => rfl
      | false =>
        have hm : 6 ∈ ([] : List Nat) := by rw [← hr]; exact ready_in (o := _) rfl rfl (by simp [Region.binds])
        cases hm
    subst q6
    have q7 : b7 = true := by
      cases b7 with
      | true => rfl
      | false =>
        have hm : 7 ∈ ([] : List Nat) := by rw [← hr]; exact ready_in (o := _) rfl rfl (by simp [Region.binds])
        cases hm
    subst q7
    clear hr
    obtain rfl := HJ.out.e0 rfl
    obtain rfl := HJ.out.e1 rfl
    obtain rfl := HJ.out.e2 rfl
    obtain rfl := HJ.out.e3 rfl
    obtain ⟨hp, hq, f, hr6, hs⟩ := HJ.out.k4 rfl
    obtain ⟨hp7, hq7, f7, hr7, hs7⟩ := HJ.out.k5 rfl
    obtain rfl := hs rfl
    obtain rfl := hs7 rfl
    subst hp hp7
    have hne67 := HJ.out.ne rfl rfl
    have HBW := Lib.hid HJ.out.below
    have H6 := Lib.hid hr6
    have H7 := Lib.hid hr7
    clear hs hs7 hr6 hr7 HJ
    dsimp only
    go_wp2_with fail
    go_loopw [8, 15] (fun m i wr => ∃ k c : Nat, k ≤ 16 ∧ c = carry a.n b.n k ∧ i = .int .i64 k ∧ m = .int .i64 c ∧ AddInv w0 wr g6 g7 pr (a.n + b.n) a b k) (fun _ i _ => 16 - (intOf i).toNat)
    case atStart => exact ⟨0, 0, by omega, by simp [carry, Nat.mod_one], rfl, rfl, HBW.out, H6.out.congr (fun j _ => byx_start _ _ j), H7.out⟩
    case round =>
      obtain ⟨k, c, hk, hc, rfl, rfl, hI⟩ := hrel
      have HI := Lib.hid hI
      have HC := Lib.hid hc
      have hc1 : c ≤ 1 := by rw [hc]; exact carry_le _ _ _
      clear hI hc
      by_cases hlt : k < 16
      · have e0 := HI.out.r6.cell hlt
        rw [byx_at] at e0
        have e1 := HI.out.r7.cell hlt
        have f0 := HI.out.r6.free k
        obtain ⟨u, hu⟩ : ∃ u, u = byt a.n k := ⟨_, rfl⟩
        obtain ⟨v, hv⟩ : ∃ v, v = byt b.n k := ⟨_, rfl⟩
        have hu2 : u < 256 := by rw [hu]; exact byt_lt _ _
        have hv2 : v < 256 := by rw [hv]; exact byt_lt _ _
        rw [← hu] at e0
        rw [show byf b.n k = ((byt b.n k : Nat) : Int) from rfl, ← hv] at e1
        have HU := Lib.hid hu
        have HV := Lib.hid hv
        clear hu hv
        go_wp2_with fail
        go_quiet (fail)
        go_wp2_with fail
        go_roundw
        case rel =>
          have hsum : (u : Int) + (v : Int) + (c : Int) = ((u + v + c : Nat) : Int) := by omega
          have hs : (u + v + c) % 256 = byt (a.n + b.n) k := by rw [HU.out, HV.out, HC.out, byt_add]
          refine ⟨k + 1, (u + v + c) / 256, by omega, by rw [HU.out, HV.out, HC.out, carry_next], by go_num, ?_, ?_⟩
          · rw [hsum]; exact congrArg (Value.int .i64) tm_div
          · rw [hsum, show ((u + v + c : Nat) : Int) % 256 = (((u + v + c) % 256 : Nat) : Int) from rfl, hs]
            have h6 : Blk16 (wr.drewN nq) g6 (byx (a.n + b.n) a.n k) := HI.out.r6.drewN
            have h7 : Blk16 (wr.drewN nq) g7 (byf b.n) := HI.out.r7.drewN
            have hB : Below w0.heap.size w0 (wr.drewN nq) := bdn HI.out.below
            exact ⟨hB.setCell (p := ⟨g6, k, none⟩) hq _, (h6.set hlt _).congr (fun j _ => byx_next _ _ _ j), h7.other _ _ (Ne.symm hne67)⟩
        case measure => simp [intOf]; omega
      · have h16 : k = 16 := by omega
        have hce : c = (a.n + b.n) / 340282366920938463463374607431768211456 := by rw [HC.out, h16, carry_end]
        have hr := (HR.out.keep HI.out.below)
        have f0 := hr.f0
        have f1 := hr.f1
        have d0 := hr.c0
        have d1 := hr.c1
        have hprlt := HR.out.lt
        by_cases hov : a.n + b.n < 340282366920938463463374607431768211456
        · obtain rfl : c = 0 := by omega
          have HCE := Lib.hid hce
          have HOV := Lib.hid hov
          have h6 : Blk16 wr g6 (byf (addU a b).n) := by
            have h := HI.out.r6
            rw [h16] at h
            rw [addU_n hov]
            exact h.congr (fun j hj => byx_end _ _ j hj)
          clear hce hov
          obtain ⟨p0, p1, p2, p3, p4, p5, p6, p7, p8, p9, p10, p11, p12, p13, p14, p15⟩ := h6.cells
          clear h6
          have HR2 := Lib.hid hr
          clear hr
          go_wp2_with fail
          refine (rof (addU a b) _).mono ?_
          rintro e w1 ⟨rfl, hb⟩
          have hr1 := HR2.out.keep hb
          have x := hr1.set (hiZ (addU a b)) (loZ (addU a b))
          have HX := Lib.hid x
          clear f0 f1 d0 d1 p0 p1 p2 p3 p4 p5 p6 p7 p8 p9 p10 p11 p12 p13 p14 p15
          have f0 := hr1.f0
          have f1 := hr1.f1
          have d0 := hr1.c0
          have d1 := hr1.c1
          clear hr1 x
          go_wp2_with fail
          have x0 := HX.out.c0
          have x1 := HX.out.c1
          refine bodyPost_ret (v := .tuple #[.agg #[.int .u64 (hiZ (addU a b)), .int .u64 (loZ (addU a b))], .int .i64 0]) (by simp [results, Try.results33, go_sem, x0, x1]) rfl ?_
          have hle : w.heap.size ≤ pr := by have := HG.out; omega
          exact ⟨we_eq' rfl rfl (cutE_lt HOV.out).symm, ((below_of (below_of HW.out HI.out.below) hb).setCell (p := ⟨pr, 0, none⟩) hle _).setCell (p := ⟨pr, 1, none⟩) hle _⟩
        · have hc2 : c = 1 := by have := a.lt; have := b.lt; omega
          subst hc2
          have HCE := Lib.hid hce
          have HOV := Lib.hid hov
          have x := hr.set 0 0
          have HX := Lib.hid x
          clear hce hov hr x
          go_wp2_with fail
          have x0 := HX.out.c0
          have x1 := HX.out.c1
          refine bodyPost_ret (v := .tuple #[.agg #[.int .u64 0, .int .u64 0], .int .i64 1]) (by simp [results, Try.results33, go_sem, x0, x1]) rfl ?_
          have hle : w.heap.size ≤ pr := by have := HG.out; omega
          have hge := Nat.le_of_not_lt HOV.out
          have e : addU a b = U.zero := cutU_ge hge
          exact ⟨we_eq' (by rw [e]; rfl) (by rw [e]; rfl) (cutE_ge hge).symm, ((below_of HW.out HI.out.below).setCell (p := ⟨pr, 0, none⟩) hle _).setCell (p := ⟨pr, 1, none⟩) hle _⟩
end Go.Proofs.Ytjdjebhimljedaa
