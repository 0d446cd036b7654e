/-
  WALKS: event.between, Between, Follow: what lies between any two events.
-/
import Derived.Test.YtohkioakipjanaaCe6
import Derived.Test.YtohkioakipjanaaFl
namespace Go.Proofs.Ytohkioakipjanaa
open Go Go.RowKit

/-- By how much it rises between two, how often it begins anew, how many gaps, how long it is seen. -/
def btI (p c : Ev) : Int := if c.s = true then 0 else if p.t < c.c then c.v else if p.s = true then 0 else if c.v < p.v then c.v else c.v - p.v
def btR (p c : Ev) : Int := if c.s = true then 0 else if p.t < c.c then 1 else if p.s = true then 0 else if c.v < p.v then 1 else 0
def btG (p c : Ev) : Int := if c.s = true then 0 else if p.t < c.c then 0 else if p.s = true then 1 else 0
def btS (p c : Ev) : Int := if c.s = true then 0 else if p.t < c.c then c.t - c.c else if p.s = true then 0 else c.t - p.t
theorem bt_eq {a b c d a' b' c' d' : Int} (e1 : a = a') (e2 : b = b') (e3 : c = c') (e4 : d = d') :
    Ending.returned (.agg #[.int .i64 0, .int .i64 0, .int .u64 0, .int .i64 0, .bool false, .int .i64 0, .int .u64 0, .int .i64 0, .bool false, .int .u64 0, .int .u64 a, .int .i64 b, .int .i64 c, .int .i64 d]) = Ending.returned (.agg #[.int .i64 0, .int .i64 0, .int .u64 0, .int .i64 0, .bool false, .int .i64 0, .int .u64 0, .int .i64 0, .bool false, .int .u64 0, .int .u64 a', .int .i64 b', .int .i64 c', .int .i64 d']) := by rw [e1, e2, e3, e4]
theorem of_bel (n : Int) (w : World) : Calls Try.prog 43 #[.int .u64 n] w fun e w' => e = .returned (.agg #[.int .u64 0, .int .u64 n]) ∧ Below w.heap.size w w' := by
  refine (of_any n w).mono ?_
  rintro e w' ⟨rfl, rfl⟩
  exact ⟨rfl, (Below.refl _ _).alloc (Nat.le_refl _) _⟩

set_option maxHeartbeats 1000000 in
set_option maxRecDepth 100000 in
theorem bt_stale (pt pv pc : Int) (ps : Bool) (ct cv cc : Int) (cs : Bool) (hp : EvOk ⟨pt, pv, pc, ps⟩) (hc : EvOk ⟨ct, cv, cc, cs⟩) (_ : pt < ct) (hs : cs = true) (w : World) :
    Calls Try.prog 42 #[.agg #[.int .i64 pt, .int .u64 pv, .int .i64 pc, .bool ps], .agg #[.int .i64 ct, .int .u64 cv, .int .i64 cc, .bool cs]] w fun e w' =>
      e = .returned (.agg #[.int .i64 0, .int .i64 0, .int .u64 0, .int .i64 0, .bool false, .int .i64 0, .int .u64 0, .int .i64 0, .bool false, .int .u64 0, .int .u64 0, .int .i64 0, .int .i64 0, .int .i64 0]) ∧ Below w.heap.size w w' := by
  have p0 := hp.t0; have p1 := hp.t1; have p2 := hp.v0; have p3 := hp.v1; have p4 := hp.c0; have p5 := hp.c1
  have c0 := hc.t0; have c1 := hc.t1; have c2 := hc.v0; have c3 := hc.v1; have c4 := hc.c0; have c5 := hc.c1
  simp only at p0 p1 p2 p3 p4 p5 c0 c1 c2 c3 c4 c5
  clear hp hc
  subst hs
  go_enter Try.func42, Try.ntmps42
  go_wp2
  refine bodyPost_ret (v := .agg #[.int .i64 0, .int .i64 0, .int .u64 0, .int .i64 0, .bool false, .int .i64 0, .int .u64 0, .int .i64 0, .bool false, .int .u64 0, .int .u64 0, .int .i64 0, .int .i64 0, .int .i64 0]) (by simp [results, Try.results42, go_sem]) rfl ⟨rfl, by go_grown⟩

set_option maxHeartbeats 1000000 in
set_option maxRecDepth 100000 in
theorem bt_gap (pt pv pc : Int) (ps : Bool) (ct cv cc : Int) (cs : Bool) (hp : EvOk ⟨pt, pv, pc, ps⟩) (hc : EvOk ⟨ct, cv, cc, cs⟩) (_ : pt < ct) (hs : cs = false) (h2 : ¬ pt < cc) (h3 : ps = true) (w : World) :
    Calls Try.prog 42 #[.agg #[.int .i64 pt, .int .u64 pv, .int .i64 pc, .bool ps], .agg #[.int .i64 ct, .int .u64 cv, .int .i64 cc, .bool cs]] w fun e w' =>
      e = .returned (.agg #[.int .i64 0, .int .i64 0, .int .u64 0, .int .i64 0, .bool false, .int .i64 0, .int .u64 0, .int .i64 0, .bool false, .int .u64 0, .int .u64 0, .int .i64 0, .int .i64 1, .int .i64 0]) ∧ Below w.heap.size w w' := by
  have p0 := hp.t0; have p1 := hp.t1; have p2 := hp.v0; have p3 := hp.v1; have p4 := hp.c0; have p5 := hp.c1
  have c0 := hc.t0; have c1 := hc.t1; have c2 := hc.v0; have c3 := hc.v1; have c4 := hc.c0; have c5 := hc.c1
  simp only at p0 p1 p2 p3 p4 p5 c0 c1 c2 c3 c4 c5
  clear hp hc
  subst hs h3
  go_enter Try.func42, Try.ntmps42
  go_wp2
  refine bodyPost_ret (v := .agg #[.int .i64 0, .int .i64 0, .int .u64 0, .int .i64 0, .bool false, .int .i64 0, .int .u64 0, .int .i64 0, .bool false, .int .u64 0, .int .u64 0, .int .i64 0, .int .i64 1, .int .i64 0]) (by simp [results, Try.results42, go_sem]) rfl ⟨rfl, by go_grown⟩

set_option maxHeartbeats 1000000 in
set_option maxRecDepth 100000 in
theorem bt_made (pt pv pc : Int) (ps : Bool) (ct cv cc : Int) (cs : Bool) (hp : EvOk ⟨pt, pv, pc, ps⟩) (hc : EvOk ⟨ct, cv, cc, cs⟩) (_ : pt < ct) (hs : cs = false) (h2 : pt < cc) (w : World) :
    Calls Try.prog 42 #[.agg #[.int .i64 pt, .int .u64 pv, .int .i64 pc, .bool ps], .agg #[.int .i64 ct, .int .u64 cv, .int .i64 cc, .bool cs]] w fun e w' =>
      e = .returned (.agg #[.int .i64 0, .int .i64 0, .int .u64 0, .int .i64 0, .bool false, .int .i64 0, .int .u64 0, .int .i64 0, .bool false, .int .u64 0, .int .u64 cv, .int .i64 1, .int .i64 0, .int .i64 (ct - cc)]) ∧ Below w.heap.size w w' := by
  have p0 := hp.t0; have p1 := hp.t1; have p2 := hp.v0; have p3 := hp.v1; have p4 := hp.c0; have p5 := hp.c1
  have c0 := hc.t0; have c1 := hc.t1; have c2 := hc.v0; have c3 := hc.v1; have c4 := hc.c0; have c5 := hc.c1
  simp only at p0 p1 p2 p3 p4 p5 c0 c1 c2 c3 c4 c5
  clear hp hc
  subst hs
  have i1 : IntKind.i64.wrap (ct - cc) = ct - cc := by rw [IntKind.wrap_i64]; omega
  go_enter Try.func42, Try.ntmps42
  go_upto_region 4 with fail
  obtain ⟨w0, hw0⟩ : ∃ w0, w0 = ((w.alloc (.cells #[.int .i64 pt, .int .u64 pv, .int .i64 pc, .bool ps] 27)).alloc (.cells #[.int .i64 ct, .int .u64 cv, .int .i64 cc, .bool false] 27)).alloc (.cells #[.int .i64 0, .int .i64 0, .int .u64 0, .int .i64 0, .bool false, .int .i64 0, .int .u64 0, .int .i64 0, .bool false, .int .u64 0, .int .u64 0, .int .i64 0, .int .i64 0, .int .i64 0] 69) := ⟨_, rfl⟩
  have HB := Lib.hid (show Below w.heap.size w w0 by rw [hw0]; go_grown)
  obtain ⟨g0, hg0⟩ : ∃ g, g = w.heap.size := ⟨_, rfl⟩
  obtain ⟨g1, hg1⟩ : ∃ g, g = w.heap.size + 1 := ⟨_, rfl⟩
  obtain ⟨g2, hg2⟩ : ∃ g, g = w.heap.size + 1 + 1 := ⟨_, rfl⟩
  have b0 : w0.heap[g0]? = some (.cells #[.int .i64 pt, .int .u64 pv, .int .i64 pc, .bool ps] 27 (0, 0)) := by rw [hw0]; exact alloc_old (alloc_old (alloc_at _ _ (by rw [hg0])) _) _
  have b1 : w0.heap[g1]? = some (.cells #[.int .i64 ct, .int .u64 cv, .int .i64 cc, .bool false] 27 (0, 0)) := by rw [hw0]; exact alloc_old (alloc_at _ _ (by rw [hg1]; simp)) _
  have b2 : w0.heap[g2]? = some (.cells #[.int .i64 0, .int .i64 0, .int .u64 0, .int .i64 0, .bool false, .int .i64 0, .int .u64 0, .int .i64 0, .bool false, .int .u64 0, .int .u64 0, .int .i64 0, .int .i64 0, .int .i64 0] 69 (0, 0)) := by rw [hw0]; exact alloc_at _ _ (by rw [hg2]; simp)
  rw [← hw0, ← hg2, ← hg1, ← hg0]
  have hw2 : g2 < w0.heap.size := lt_blk b2
  have HG := Lib.hid (show g0 ≠ g2 ∧ g1 ≠ g2 ∧ g0 ≤ g2 ∧ w.heap.size = g0 by omega)
  have B0 := Lib.hid b0
  have B1 := Lib.hid b1
  have B2 := Lib.hid b2
  clear hw0 hg1 hg2 b0 b1 b2 hg0
  refine wp_region_fl (J := fun listed act W => ∃ (b0 b1 b2 b3 b4 b5 b6 b7 b8 b9 : Bool) (x0 x1 x2 x3 x4 x5 x6 x7 x8 : Value), listed = #[b0, b1, b2, b3, b4, b5, b6, b7, b8, b9] ∧ act = { tmps := #[.agg #[.int .i64 pt, .int .u64 pv, .int .i64 pc, .bool ps], .agg #[.int .i64 ct, .int .u64 cv, .int .i64 cc, .bool false], .pointer (some ⟨g0, 0, none⟩), .pointer (some ⟨g1, 0, none⟩), .pointer (some ⟨g2, 0, none⟩), .bool false, .pointer (some ⟨g1, 3, none⟩), .bool false, undef, .bool true, .pointer (some ⟨g1, 2, none⟩), .int .i64 cc, .pointer (some ⟨g0, 0, none⟩), .int .i64 pt, .bool true, x0, x1, x2, x3, x4, x5, x6, x7, x8, undef, undef, undef, undef, undef, undef, undef, undef, undef, undef, undef, undef, undef, undef, undef, undef, undef, undef, undef, undef, undef, undef, undef, undef, undef, undef, undef, undef, undef, undef, undef], defers := [] } ∧ FJ (g0) w0 W 69 (#[.int .i64 0, .int .i64 0, .int .u64 0, .int .i64 0, .bool false, .int .i64 0, .int .u64 0, .int .i64 0, .bool false, .int .u64 0, .int .u64 0, .int .i64 0, .int .i64 0, .int .i64 0]) (#[.int .i64 0, .int .i64 0, .int .u64 0, .int .i64 0, .bool false, .int .i64 0, .int .u64 0, .int .i64 0, .bool false, .int .u64 0, .int .u64 cv, .int .i64 1, .int .i64 0, .int .i64 (ct - cc)]) true b9 (.pointer (some ⟨g2, 0, none⟩)) g2 ∧ ((b0 = true → x0 = .pointer (some ⟨g1, 1, none⟩)) ∧ (b1 = true → x1 = .int .u64 cv) ∧ (b2 = true → x2 = .agg #[.int .u64 0, .int .u64 cv]) ∧ (b3 = true → x3 = .pointer (some ⟨g1, 0, none⟩)) ∧ (b4 = true → x4 = .int .i64 ct) ∧ (b5 = true → x5 = .pointer (some ⟨g1, 2, none⟩)) ∧ (b6 = true → x6 = .int .i64 cc) ∧ (b7 = true → x7 = .int .i64 (ct - cc)) ∧ (b8 = true → x8 = .agg #[.int .i64 0, .int .i64 0, .int .u64 0, .int .i64 0, .bool false, .int .i64 0, .int .u64 0, .int .i64 0, .bool false, .int .u64 0, .int .u64 cv, .int .i64 1, .int .i64 0, .int .i64 (ct - cc)]) ∧ True)) (by kernel_rfl) ⟨false, false, false, false, false, false, false, false, false, false, undef, undef, undef, undef, undef, undef, undef, undef, undef, rfl, rfl, FJ.start_old #[.int .i64 0, .int .i64 0, .int .u64 0, .int .i64 0, .bool false, .int .i64 0, .int .u64 0, .int .i64 0, .bool false, .int .u64 0, .int .u64 cv, .int .i64 1, .int .i64 0, .int .i64 (ct - cc)] B2.out HG.out.2.2.1, nofun, nofun, nofun, nofun, nofun, nofun, nofun, nofun, nofun, trivial⟩ ?_ ?_
  · intro listed act W i hJ hi
    obtain ⟨b0, b1, b2, b3, b4, b5, b6, b7, b8, b9, x0, x1, x2, x3, x4, x5, x6, x7, x8, rfl, rfl, hJ, hE⟩ := hJ
    have HJ := Lib.hid hJ
    have HE := Lib.hid hE
    obtain ⟨hi1, hi2, hi3⟩ := fl_spec hi
    clear hJ hE hi
    have hi4 : i < 10 := hi1
    clear hi1
    have hcase : i = 0 ∨ i = 1 ∨ i = 2 ∨ i = 3 ∨ i = 4 ∨ i = 5 ∨ i = 6 ∨ i = 7 ∨ i = 8 ∨ i = 9 := by omega
    clear hi4
    rcases hcase with rfl | rfl | rfl | rfl | rfl | rfl | rfl | rfl | rfl | rfl
    · refine wpOp_step (o := _) rfl (fun K hK => ?_)
      have HK := Lib.hid hK
      clear hK
      clear hi3 hi2
      go_simp
      exact HK.out _ _ ⟨_, _, _, _, _, _, _, _, _, _, _, _, _, _, _, _, _, _, _, rfl, rfl, HJ.out, fun _ => rfl, HE.out.2.1, HE.out.2.2.1, HE.out.2.2.2.1, HE.out.2.2.2.2.1, HE.out.2.2.2.2.2.1, HE.out.2.2.2.2.2.2.1, HE.out.2.2.2.2.2.2.2.1, HE.out.2.2.2.2.2.2.2.2.1, trivial⟩
    · refine wpOp_step (o := _) rfl (fun K hK => ?_)
      have HK := Lib.hid hK
      clear hK
      have hd := hi3 _ rfl
      simp [Region.binds] at hd
      have q0 : b0 = true := by (cases b0 with | true => rfl | false => simp at hd)
      clear hi3 hi2 hd
      obtain rfl := HE.out.1 q0
      clear q0
      have cc0 := cell_block (HJ.out.upd.keep B1.out HG.out.2.1) 1
      simp at cc0
      go_simp
      exact HK.out _ _ ⟨_, _, _, _, _, _, _, _, _, _, _, _, _, _, _, _, _, _, _, rfl, rfl, HJ.out, HE.out.1, fun _ => rfl, HE.out.2.2.1, HE.out.2.2.2.1, HE.out.2.2.2.2.1, HE.out.2.2.2.2.2.1, HE.out.2.2.2.2.2.2.1, HE.out.2.2.2.2.2.2.2.1, HE.out.2.2.2.2.2.2.2.2.1, trivial⟩
    · refine wpOp_step (o := _) rfl (fun K hK => ?_)
      have HK := Lib.hid hK
      clear hK
      have hd := hi3 _ rfl
      simp [Region.binds] at hd
      have q1 : b1 = true := by (cases b1 with | true => rfl | false => simp at hd)
      clear hi3 hi2 hd
      obtain rfl := HE.out.2.1 q1
      clear q1
      go_simp
      go_at_call 43
      refine (of_bel _ _).mono ?_
      rintro e w1 ⟨rfl, hb⟩
      exact HK.out _ _ ⟨_, _, _, _, _, _, _, _, _, _, _, _, _, _, _, _, _, _, _, rfl, rfl, HJ.out.grow hb, HE.out.1, HE.out.2.1, fun _ => rfl, HE.out.2.2.2.1, HE.out.2.2.2.2.1, HE.out.2.2.2.2.2.1, HE.out.2.2.2.2.2.2.1, HE.out.2.2.2.2.2.2.2.1, HE.out.2.2.2.2.2.2.2.2.1, trivial⟩
    · refine wpOp_step (o := _) rfl (fun K hK => ?_)
      have HK := Lib.hid hK
      clear hK
      clear hi3 hi2
      go_simp
      exact HK.out _ _ ⟨_, _, _, _, _, _, _, _, _, _, _, _, _, _, _, _, _, _, _, rfl, rfl, HJ.out, HE.out.1, HE.out.2.1, HE.out.2.2.1, fun _ => rfl, HE.out.2.2.2.2.1, HE.out.2.2.2.2.2.1, HE.out.2.2.2.2.2.2.1, HE.out.2.2.2.2.2.2.2.1, HE.out.2.2.2.2.2.2.2.2.1, trivial⟩
    · refine wpOp_step (o := _) rfl (fun K hK => ?_)
      have HK := Lib.hid hK
      clear hK
      have hd := hi3 _ rfl
      simp [Region.binds] at hd
      have q3 : b3 = true := by (cases b3 with | true => rfl | false => simp at hd)
      clear hi3 hi2 hd
      obtain rfl := HE.out.2.2.2.1 q3
      clear q3
      have cc0 := cell_block (HJ.out.upd.keep B1.out HG.out.2.1) 0
      simp at cc0
      go_simp
      exact HK.out _ _ ⟨_, _, _, _, _, _, _, _, _, _, _, _, _, _, _, _, _, _, _, rfl, rfl, HJ.out, HE.out.1, HE.out.2.1, HE.out.2.2.1, HE.out.2.2.2.1, fun _ => rfl, HE.out.2.2.2.2.2.1, HE.out.2.2.2.2.2.2.1, HE.out.2.2.2.2.2.2.2.1, HE.out.2.2.2.2.2.2.2.2.1, trivial⟩
    · refine wpOp_step (o := _) rfl (fun K hK => ?_)
      have HK := Lib.hid hK
      clear hK
      clear hi3 hi2
      go_simp
      exact HK.out _ _ ⟨_, _, _, _, _, _, _, _, _, _, _, _, _, _, _, _, _, _, _, rfl, rfl, HJ.out, HE.out.1, HE.out.2.1, HE.out.2.2.1, HE.out.2.2.2.1, HE.out.2.2.2.2.1, fun _ => rfl, HE.out.2.2.2.2.2.2.1, HE.out.2.2.2.2.2.2.2.1, HE.out.2.2.2.2.2.2.2.2.1, trivial⟩
    · refine wpOp_step (o := _) rfl (fun K hK => ?_)
      have HK := Lib.hid hK
      clear hK
      have hd := hi3 _ rfl
      simp [Region.binds] at hd
      have q5 : b5 = true := by (cases b5 with | true => rfl | false => simp at hd)
      clear hi3 hi2 hd
      obtain rfl := HE.out.2.2.2.2.2.1 q5
      clear q5
      have cc0 := cell_block (HJ.out.upd.keep B1.out HG.out.2.1) 2
      simp at cc0
      go_simp
      exact HK.out _ _ ⟨_, _, _, _, _, _, _, _, _, _, _, _, _, _, _, _, _, _, _, rfl, rfl, HJ.out, HE.out.1, HE.out.2.1, HE.out.2.2.1, HE.out.2.2.2.1, HE.out.2.2.2.2.1, HE.out.2.2.2.2.2.1, fun _ => rfl, HE.out.2.2.2.2.2.2.2.1, HE.out.2.2.2.2.2.2.2.2.1, trivial⟩
    · refine wpOp_step (o := _) rfl (fun K hK => ?_)
      have HK := Lib.hid hK
      clear hK
      have hd := hi3 _ rfl
      simp [Region.binds] at hd
      have q4 : b4 = true := by (cases b4 with | true => rfl | false => simp at hd)
      have q6 : b6 = true := by (cases b6 with | true => rfl | false => simp at hd)
      clear hi3 hi2 hd
      obtain rfl := HE.out.2.2.2.2.1 q4
      obtain rfl := HE.out.2.2.2.2.2.2.1 q6
      clear q4 q6
      go_simp
      exact HK.out _ _ ⟨_, _, _, _, _, _, _, _, _, _, _, _, _, _, _, _, _, _, _, rfl, rfl, HJ.out, HE.out.1, HE.out.2.1, HE.out.2.2.1, HE.out.2.2.2.1, HE.out.2.2.2.2.1, HE.out.2.2.2.2.2.1, HE.out.2.2.2.2.2.2.1, fun _ => rfl, HE.out.2.2.2.2.2.2.2.2.1, trivial⟩
    · refine wpOp_step (o := _) rfl (fun K hK => ?_)
      have HK := Lib.hid hK
      clear hK
      have hd := hi3 _ rfl
      simp [Region.binds] at hd
      have q2 : b2 = true := by (cases b2 with | true => rfl | false => simp at hd)
      have q7 : b7 = true := by (cases b7 with | true => rfl | false => simp at hd)
      clear hi3 hi2 hd
      obtain rfl := HE.out.2.2.1 q2
      obtain rfl := HE.out.2.2.2.2.2.2.2.1 q7
      clear q2 q7
      go_simp
      exact HK.out _ _ ⟨_, _, _, _, _, _, _, _, _, _, _, _, _, _, _, _, _, _, _, rfl, rfl, HJ.out, HE.out.1, HE.out.2.1, HE.out.2.2.1, HE.out.2.2.2.1, HE.out.2.2.2.2.1, HE.out.2.2.2.2.2.1, HE.out.2.2.2.2.2.2.1, HE.out.2.2.2.2.2.2.2.1, fun _ => rfl, trivial⟩
    · refine wpOp_step (o := _) rfl (fun K hK => ?_)
      have HK := Lib.hid hK
      clear hK
      have hd := hi3 _ rfl
      simp [Region.binds] at hd
      have q8 : b8 = true := by (cases b8 with | true => rfl | false => simp at hd)
      clear hi3 hi2 hd
      obtain rfl := HE.out.2.2.2.2.2.2.2.2.1 q8
      clear q8
      obtain ⟨hp, _⟩ := HJ.out.var rfl
      clear hp
      rw [if_pos (by rfl)]
      refine wp_store_mid 69 _ _ rfl g2 0 (#[.int .i64 0, .int .i64 0, .int .u64 0, .int .i64 0, .bool false, .int .i64 0, .int .u64 0, .int .i64 0, .bool false, .int .u64 0, .int .u64 cv, .int .i64 1, .int .i64 0, .int .i64 (ct - cc)]) rfl rfl (HJ.out.there (by rfl)) ceInfo (by simp [Value.oneCell']) ?_
      exact HK.out _ _ ⟨_, _, _, _, _, _, _, _, _, _, _, _, _, _, _, _, _, _, _, rfl, rfl, HJ.out.store (by rfl), HE.out.1, HE.out.2.1, HE.out.2.2.1, HE.out.2.2.2.1, HE.out.2.2.2.2.1, HE.out.2.2.2.2.2.1, HE.out.2.2.2.2.2.2.1, HE.out.2.2.2.2.2.2.2.1, HE.out.2.2.2.2.2.2.2.2.1, trivial⟩
  intro listed act W hJ hr
  obtain ⟨b0, b1, b2, b3, b4, b5, b6, b7, b8, b9, x0, x1, x2, x3, x4, x5, x6, x7, x8, rfl, rfl, hJ, hE⟩ := hJ
  have HJ := Lib.hid hJ
  have HE := Lib.hid hE
  clear hJ hE
  have q0 : b0 = true := by
    cases b0 with
    | true => rfl
    | false =>
      have hm : 0 ∈ ([] : List Nat) := by rw [← hr]; exact fl_in (o := _) rfl rfl (by simp [Region.binds])
      cases hm
  subst q0
  have q1 : b1 = true := by
    cases b1 with
    | true => rfl
    | false =>
      have hm : 1 ∈ ([] : List Nat) := by rw [← hr]; exact fl_in (o := _) rfl rfl (by simp [Region.binds])
      cases hm
  subst q1
  have q2 : b2 = true := by
    cases b2 with
    | true => rfl
    | false =>
      have hm : 2 ∈ ([] : List Nat) := by rw [← hr]; exact fl_in (o := _) rfl rfl (by simp [Region.binds])
      cases hm
  subst q2
  have q3 : b3 = true := by
    cases b3 with
    | true => rfl
    | false =>
      have hm : 3 ∈ ([] : List Nat) := by rw [← hr]; exact fl_in (o := _) rfl rfl (by simp [Region.binds])
      cases hm
  subst q3
  have q4 : b4 = true := by
    cases b4 with
    | true => rfl
    | false =>
      have hm : 4 ∈ ([] : List Nat) := by rw [← hr]; exact fl_in (o := _) rfl rfl (by simp [Region.binds])
      cases hm
  subst q4
  have q5 : b5 = true := by
    cases b5 with
    | true => rfl
    | false =>
      have hm : 5 ∈ ([] : List Nat) := by rw [← hr]; exact fl_in (o := _) rfl rfl (by simp [Region.binds])
      cases hm
  subst q5
  have q6 : b6 = true := by
    cases b6 with
    | true => rfl
    | false =>
      have hm : 6 ∈ ([] : List Nat) := by rw [← hr]; exact fl_in (o := _) rfl rfl (by simp [Region.binds])
      cases hm
  subst q6
  have q7 : b7 = true := by
    cases b7 with
    | true => rfl
    | false =>
      have hm : 7 ∈ ([] : List Nat) := by rw [← hr]; exact fl_in (o := _) rfl rfl (by simp [Region.binds])
      cases hm
  subst q7
  have q8 : b8 = true := by
    cases b8 with
    | true => rfl
    | false =>
      have hm : 8 ∈ ([] : List Nat) := by rw [← hr]; exact fl_in (o := _) rfl rfl (by simp [Region.binds])
      cases hm
  subst q8
  have q9 : b9 = true := by
    cases b9 with
    | true => rfl
    | false =>
      have hm : 9 ∈ ([] : List Nat) := by rw [← hr]; exact fl_in (o := _) rfl rfl (by simp [Region.binds])
      cases hm
  subst q9
  clear hr
  obtain rfl := HE.out.1 rfl
  obtain rfl := HE.out.2.1 rfl
  obtain rfl := HE.out.2.2.1 rfl
  obtain rfl := HE.out.2.2.2.1 rfl
  obtain rfl := HE.out.2.2.2.2.1 rfl
  obtain rfl := HE.out.2.2.2.2.2.1 rfl
  obtain rfl := HE.out.2.2.2.2.2.2.1 rfl
  obtain rfl := HE.out.2.2.2.2.2.2.2.1 rfl
  obtain rfl := HE.out.2.2.2.2.2.2.2.2.1 rfl
  obtain ⟨hp, hvar⟩ := HJ.out.var rfl
  clear hp
  have hvar : W.heap[g2]? = some (.cells (#[.int .i64 0, .int .i64 0, .int .u64 0, .int .i64 0, .bool false, .int .i64 0, .int .u64 0, .int .i64 0, .bool false, .int .u64 0, .int .u64 cv, .int .i64 1, .int .i64 0, .int .i64 (ct - cc)]) 69 (0, 0)) := hvar
  have HVAR := Lib.hid hvar
  clear hvar
  have HUPD := Lib.hid HJ.out.upd
  have HLOW := Lib.hid HJ.out.low
  clear HJ HE
  go_wp2_with fail
  have hB := (HB.out.trans ((HUPD.out.below (by have := HB.out.size; have := HG.out.2.2.2; omega) (by have := HG.out.2.2; omega)) : Below w.heap.size w0 W))
  refine bodyPost_ret (v := .agg #[.int .i64 0, .int .i64 0, .int .u64 0, .int .i64 0, .bool false, .int .i64 0, .int .u64 0, .int .i64 0, .bool false, .int .u64 0, .int .u64 cv, .int .i64 1, .int .i64 0, .int .i64 (ct - cc)]) (results_cell_row Try.results42 _ _ g2 _ _ _ _ rfl HVAR.out Try.underlying69 rfl ceInfo) rfl ⟨rfl, hB⟩

set_option maxHeartbeats 1000000 in
set_option maxRecDepth 100000 in
theorem bt_less (pt pv pc : Int) (ps : Bool) (ct cv cc : Int) (cs : Bool) (hp : EvOk ⟨pt, pv, pc, ps⟩) (hc : EvOk ⟨ct, cv, cc, cs⟩) (hlt : pt < ct) (hs : cs = false) (h2 : ¬ pt < cc) (h3 : ps = false) (h4 : cv < pv) (w : World) :
    Calls Try.prog 42 #[.agg #[.int .i64 pt, .int .u64 pv, .int .i64 pc, .bool ps], .agg #[.int .i64 ct, .int .u64 cv, .int .i64 cc, .bool cs]] w fun e w' =>
      e = .returned (.agg #[.int .i64 0, .int .i64 0, .int .u64 0, .int .i64 0, .bool false, .int .i64 0, .int .u64 0, .int .i64 0, .bool false, .int .u64 0, .int .u64 cv, .int .i64 1, .int .i64 0, .int .i64 (ct - pt)]) ∧ Below w.heap.size w w' := by
  have p0 := hp.t0; have p1 := hp.t1; have p2 := hp.v0; have p3 := hp.v1; have p4 := hp.c0; have p5 := hp.c1
  have c0 := hc.t0; have c1 := hc.t1; have c2 := hc.v0; have c3 := hc.v1; have c4 := hc.c0; have c5 := hc.c1
  simp only at p0 p1 p2 p3 p4 p5 c0 c1 c2 c3 c4 c5
  clear hp hc
  subst hs h3
  have i1 : IntKind.i64.wrap (ct - pt) = ct - pt := by rw [IntKind.wrap_i64]; omega
  go_enter Try.func42, Try.ntmps42
  go_upto_region 8 with fail
  obtain ⟨w0, hw0⟩ : ∃ w0, w0 = ((w.alloc (.cells #[.int .i64 pt, .int .u64 pv, .int .i64 pc, .bool false] 27)).alloc (.cells #[.int .i64 ct, .int .u64 cv, .int .i64 cc, .bool false] 27)).alloc (.cells #[.int .i64 0, .int .i64 0, .int .u64 0, .int .i64 0, .bool false, .int .i64 0, .int .u64 0, .int .i64 0, .bool false, .int .u64 0, .int .u64 0, .int .i64 0, .int .i64 0, .int .i64 0] 69) := ⟨_, rfl⟩
  have HB := Lib.hid (show Below w.heap.size w w0 by rw [hw0]; go_grown)
  obtain ⟨g0, hg0⟩ : ∃ g, g = w.heap.size := ⟨_, rfl⟩
  obtain ⟨g1, hg1⟩ : ∃ g, g = w.heap.size + 1 := ⟨_, rfl⟩
  obtain ⟨g2, hg2⟩ : ∃ g, g = w.heap.size + 1 + 1 := ⟨_, rfl⟩
  have b0 : w0.heap[g0]? = some (.cells #[.int .i64 pt, .int .u64 pv, .int .i64 pc, .bool false] 27 (0, 0)) := by rw [hw0]; exact alloc_old (alloc_old (alloc_at _ _ (by rw [hg0])) _) _
  have b1 : w0.heap[g1]? = some (.cells #[.int .i64 ct, .int .u64 cv, .int .i64 cc, .bool false] 27 (0, 0)) := by rw [hw0]; exact alloc_old (alloc_at _ _ (by rw [hg1]; simp)) _
  have b2 : w0.heap[g2]? = some (.cells #[.int .i64 0, .int .i64 0, .int .u64 0, .int .i64 0, .bool false, .int .i64 0, .int .u64 0, .int .i64 0, .bool false, .int .u64 0, .int .u64 0, .int .i64 0, .int .i64 0, .int .i64 0] 69 (0, 0)) := by rw [hw0]; exact alloc_at _ _ (by rw [hg2]; simp)
  rw [← hw0, ← hg2, ← hg1, ← hg0]
  have hw2 : g2 < w0.heap.size := lt_blk b2
  have HG := Lib.hid (show g0 ≠ g2 ∧ g1 ≠ g2 ∧ g0 ≤ g2 ∧ w.heap.size = g0 by omega)
  have B0 := Lib.hid b0
  have B1 := Lib.hid b1
  have B2 := Lib.hid b2
  clear hw0 hg1 hg2 b0 b1 b2 hg0
  refine wp_region_fl (J := fun listed act W => ∃ (b0 b1 b2 b3 b4 b5 b6 b7 b8 b9 : Bool) (x0 x1 x2 x3 x4 x5 x6 x7 x8 : Value), listed = #[b0, b1, b2, b3, b4, b5, b6, b7, b8, b9] ∧ act = { tmps := #[.agg #[.int .i64 pt, .int .u64 pv, .int .i64 pc, .bool false], .agg #[.int .i64 ct, .int .u64 cv, .int .i64 cc, .bool false], .pointer (some ⟨g0, 0, none⟩), .pointer (some ⟨g1, 0, none⟩), .pointer (some ⟨g2, 0, none⟩), .bool false, .pointer (some ⟨g1, 3, none⟩), .bool false, undef, .bool false, .pointer (some ⟨g1, 2, none⟩), .int .i64 cc, .pointer (some ⟨g0, 0, none⟩), .int .i64 pt, .bool false, undef, undef, undef, undef, undef, undef, undef, undef, undef, .bool false, .pointer (some ⟨g0, 3, none⟩), .bool false, undef, .bool true, .pointer (some ⟨g1, 1, none⟩), .int .u64 cv, .pointer (some ⟨g0, 1, none⟩), .int .u64 pv, .bool true, x0, x1, x2, x3, x4, x5, x6, x7, x8, undef, undef, undef, undef, undef, undef, undef, undef, undef, undef, undef, undef], defers := [] } ∧ FJ (g0) w0 W 69 (#[.int .i64 0, .int .i64 0, .int .u64 0, .int .i64 0, .bool false, .int .i64 0, .int .u64 0, .int .i64 0, .bool false, .int .u64 0, .int .u64 0, .int .i64 0, .int .i64 0, .int .i64 0]) (#[.int .i64 0, .int .i64 0, .int .u64 0, .int .i64 0, .bool false, .int .i64 0, .int .u64 0, .int .i64 0, .bool false, .int .u64 0, .int .u64 cv, .int .i64 1, .int .i64 0, .int .i64 (ct - pt)]) true b9 (.pointer (some ⟨g2, 0, none⟩)) g2 ∧ ((b0 = true → x0 = .pointer (some ⟨g1, 1, none⟩)) ∧ (b1 = true → x1 = .int .u64 cv) ∧ (b2 = true → x2 = .agg #[.int .u64 0, .int .u64 cv]) ∧ (b3 = true → x3 = .pointer (some ⟨g1, 0, none⟩)) ∧ (b4 = true → x4 = .int .i64 ct) ∧ (b5 = true → x5 = .pointer (some ⟨g0, 0, none⟩)) ∧ (b6 = true → x6 = .int .i64 pt) ∧ (b7 = true → x7 = .int .i64 (ct - pt)) ∧ (b8 = true → x8 = .agg #[.int .i64 0, .int .i64 0, .int .u64 0, .int .i64 0, .bool false, .int .i64 0, .int .u64 0, .int .i64 0, .bool false, .int .u64 0, .int .u64 cv, .int .i64 1, .int .i64 0, .int .i64 (ct - pt)]) ∧ True)) (by kernel_rfl) ⟨false, false, false, false, false, false, false, false, false, false, undef, undef, undef, undef, undef, undef, undef, undef, undef, rfl, rfl, FJ.start_old #[.int .i64 0, .int .i64 0, .int .u64 0, .int .i64 0, .bool false, .int .i64 0, .int .u64 0, .int .i64 0, .bool false, .int .u64 0, .int .u64 cv, .int .i64 1, .int .i64 0, .int .i64 (ct - pt)] B2.out HG.out.2.2.1, nofun, nofun, nofun, nofun, nofun, nofun, nofun, nofun, nofun, trivial⟩ ?_ ?_
  · intro listed act W i hJ hi
    obtain ⟨b0, b1, b2, b3, b4, b5, b6, b7, b8, b9, x0, x1, x2, x3, x4, x5, x6, x7, x8, rfl, rfl, hJ, hE⟩ := hJ
    have HJ := Lib.hid hJ
    have HE := Lib.hid hE
    obtain ⟨hi1, hi2, hi3⟩ := fl_spec hi
    clear hJ hE hi
    have hi4 : i < 10 := hi1
    clear hi1
    have hcase : i = 0 ∨ i = 1 ∨ i = 2 ∨ i = 3 ∨ i = 4 ∨ i = 5 ∨ i = 6 ∨ i = 7 ∨ i = 8 ∨ i = 9 := by omega
    clear hi4
    rcases hcase with rfl | rfl | rfl | rfl | rfl | rfl | rfl | rfl | rfl | rfl
    · refine wpOp_step (o := _) rfl (fun K hK => ?_)
      have HK := Lib.hid hK
      clear hK
      clear hi3 hi2
      go_simp
      exact HK.out _ _ ⟨_, _, _, _, _, _, _, _, _, _, _, _, _, _, _, _, _, _, _, rfl, rfl, HJ.out, fun _ => rfl, HE.out.2.1, HE.out.2.2.1, HE.out.2.2.2.1, HE.out.2.2.2.2.1, HE.out.2.2.2.2.2.1, HE.out.2.2.2.2.2.2.1, HE.out.2.2.2.2.2.2.2.1, HE.out.2.2.2.2.2.2.2.2.1, trivial⟩
    · refine wpOp_step (o := _) rfl (fun K hK => ?_)
      have HK := Lib.hid hK
      clear hK
      have hd := hi3 _ rfl
      simp [Region.binds] at hd
      have q0 : b0 = true := by (cases b0 with | true => rfl | false => simp at hd)
      clear hi3 hi2 hd
      obtain rfl := HE.out.1 q0
      clear q0
      have cc0 := cell_block (HJ.out.upd.keep B1.out HG.out.2.1) 1
      simp at cc0
      go_simp
      exact HK.out _ _ ⟨_, _, _, _, _, _, _, _, _, _, _, _, _, _, _, _, _, _, _, rfl, rfl, HJ.out, HE.out.1, fun _ => rfl, HE.out.2.2.1, HE.out.2.2.2.1, HE.out.2.2.2.2.1, HE.out.2.2.2.2.2.1, HE.out.2.2.2.2.2.2.1, HE.out.2.2.2.2.2.2.2.1, HE.out.2.2.2.2.2.2.2.2.1, trivial⟩
    · refine wpOp_step (o := _) rfl (fun K hK => ?_)
      have HK := Lib.hid hK
      clear hK
      have hd := hi3 _ rfl
      simp [Region.binds] at hd
      have q1 : b1 = true := by (cases b1 with | true => rfl | false => simp at hd)
      clear hi3 hi2 hd
      obtain rfl := HE.out.2.1 q1
      clear q1
      go_simp
      go_at_call 43
      refine (of_bel _ _).mono ?_
      rintro e w1 ⟨rfl, hb⟩
      exact HK.out _ _ ⟨_, _, _, _, _, _, _, _, _, _, _, _, _, _, _, _, _, _, _, rfl, rfl, HJ.out.grow hb, HE.out.1, HE.out.2.1, fun _ => rfl, HE.out.2.2.2.1, HE.out.2.2.2.2.1, HE.out.2.2.2.2.2.1, HE.out.2.2.2.2.2.2.1, HE.out.2.2.2.2.2.2.2.1, HE.out.2.2.2.2.2.2.2.2.1, trivial⟩
    · refine wpOp_step (o := _) rfl (fun K hK => ?_)
      have HK := Lib.hid hK
      clear hK
      clear hi3 hi2
      go_simp
      exact HK.out _ _ ⟨_, _, _, _, _, _, _, _, _, _, _, _, _, _, _, _, _, _, _, rfl, rfl, HJ.out, HE.out.1, HE.out.2.1, HE.out.2.2.1, fun _ => rfl, HE.out.2.2.2.2.1, HE.out.2.2.2.2.2.1, HE.out.2.2.2.2.2.2.1, HE.out.2.2.2.2.2.2.2.1, HE.out.2.2.2.2.2.2.2.2.1, trivial⟩
    · refine wpOp_step (o := _) rfl (fun K hK => ?_)
      have HK := Lib.hid hK
      clear hK
      have hd := hi3 _ rfl
      simp [Region.binds] at hd
      have q3 : b3 = true := by (cases b3 with | true => rfl | false => simp at hd)
      clear hi3 hi2 hd
      obtain rfl := HE.out.2.2.2.1 q3
      clear q3
      have cc0 := cell_block (HJ.out.upd.keep B1.out HG.out.2.1) 0
      simp at cc0
      go_simp
      exact HK.out _ _ ⟨_, _, _, _, _, _, _, _, _, _, _, _, _, _, _, _, _, _, _, rfl, rfl, HJ.out, HE.out.1, HE.out.2.1, HE.out.2.2.1, HE.out.2.2.2.1, fun _ => rfl, HE.out.2.2.2.2.2.1, HE.out.2.2.2.2.2.2.1, HE.out.2.2.2.2.2.2.2.1, HE.out.2.2.2.2.2.2.2.2.1, trivial⟩
    · refine wpOp_step (o := _) rfl (fun K hK => ?_)
      have HK := Lib.hid hK
      clear hK
      clear hi3 hi2
      go_simp
      exact HK.out _ _ ⟨_, _, _, _, _, _, _, _, _, _, _, _, _, _, _, _, _, _, _, rfl, rfl, HJ.out, HE.out.1, HE.out.2.1, HE.out.2.2.1, HE.out.2.2.2.1, HE.out.2.2.2.2.1, fun _ => rfl, HE.out.2.2.2.2.2.2.1, HE.out.2.2.2.2.2.2.2.1, HE.out.2.2.2.2.2.2.2.2.1, trivial⟩
    · refine wpOp_step (o := _) rfl (fun K hK => ?_)
      have HK := Lib.hid hK
      clear hK
      have hd := hi3 _ rfl
      simp [Region.binds] at hd
      have q5 : b5 = true := by (cases b5 with | true => rfl | false => simp at hd)
      clear hi3 hi2 hd
      obtain rfl := HE.out.2.2.2.2.2.1 q5
      clear q5
      have cc0 := cell_block (HJ.out.upd.keep B0.out HG.out.1) 0
      simp at cc0
      go_simp
      exact HK.out _ _ ⟨_, _, _, _, _, _, _, _, _, _, _, _, _, _, _, _, _, _, _, rfl, rfl, HJ.out, HE.out.1, HE.out.2.1, HE.out.2.2.1, HE.out.2.2.2.1, HE.out.2.2.2.2.1, HE.out.2.2.2.2.2.1, fun _ => rfl, HE.out.2.2.2.2.2.2.2.1, HE.out.2.2.2.2.2.2.2.2.1, trivial⟩
    · refine wpOp_step (o := _) rfl (fun K hK => ?_)
      have HK := Lib.hid hK
      clear hK
      have hd := hi3 _ rfl
      simp [Region.binds] at hd
      have q4 : b4 = true := by (cases b4 with | true => rfl | false => simp at hd)
      have q6 : b6 = true := by (cases b6 with | true => rfl | false => simp at hd)
      clear hi3 hi2 hd
      obtain rfl := HE.out.2.2.2.2.1 q4
      obtain rfl := HE.out.2.2.2.2.2.2.1 q6
      clear q4 q6
      go_simp
      exact HK.out _ _ ⟨_, _, _, _, _, _, _, _, _, _, _, _, _, _, _, _, _, _, _, rfl, rfl, HJ.out, HE.out.1, HE.out.2.1, HE.out.2.2.1, HE.out.2.2.2.1, HE.out.2.2.2.2.1, HE.out.2.2.2.2.2.1, HE.out.2.2.2.2.2.2.1, fun _ => rfl, HE.out.2.2.2.2.2.2.2.2.1, trivial⟩
    · refine wpOp_step (o := _) rfl (fun K hK => ?_)
      have HK := Lib.hid hK
      clear hK
      have hd := hi3 _ rfl
      simp [Region.binds] at hd
      have q2 : b2 = true := by (cases b2 with | true => rfl | false => simp at hd)
      have q7 : b7 = true := by (cases b7 with | true => rfl | false => simp at hd)
      clear hi3 hi2 hd
      obtain rfl := HE.out.2.2.1 q2
      obtain rfl := HE.out.2.2.2.2.2.2.2.1 q7
      clear q2 q7
      go_simp
      exact HK.out _ _ ⟨_, _, _, _, _, _, _, _, _, _, _, _, _, _, _, _, _, _, _, rfl, rfl, HJ.out, HE.out.1, HE.out.2.1, HE.out.2.2.1, HE.out.2.2.2.1, HE.out.2.2.2.2.1, HE.out.2.2.2.2.2.1, HE.out.2.2.2.2.2.2.1, HE.out.2.2.2.2.2.2.2.1, fun _ => rfl, trivial⟩
    · refine wpOp_step (o := _) rfl (fun K hK => ?_)
      have HK := Lib.hid hK
      clear hK
      have hd := hi3 _ rfl
      simp [Region.binds] at hd
      have q8 : b8 = true := by (cases b8 with | true => rfl | false => simp at hd)
      clear hi3 hi2 hd
      obtain rfl := HE.out.2.2.2.2.2.2.2.2.1 q8
      clear q8
      obtain ⟨hp, _⟩ := HJ.out.var rfl
      clear hp
      rw [if_pos (by rfl)]
      refine wp_store_mid 69 _ _ rfl g2 0 (#[.int .i64 0, .int .i64 0, .int .u64 0, .int .i64 0, .bool false, .int .i64 0, .int .u64 0, .int .i64 0, .bool false, .int .u64 0, .int .u64 cv, .int .i64 1, .int .i64 0, .int .i64 (ct - pt)]) rfl rfl (HJ.out.there (by rfl)) ceInfo (by simp [Value.oneCell']) ?_
      exact HK.out _ _ ⟨_, _, _, _, _, _, _, _, _, _, _, _, _, _, _, _, _, _, _, rfl, rfl, HJ.out.store (by rfl), HE.out.1, HE.out.2.1, HE.out.2.2.1, HE.out.2.2.2.1, HE.out.2.2.2.2.1, HE.out.2.2.2.2.2.1, HE.out.2.2.2.2.2.2.1, HE.out.2.2.2.2.2.2.2.1, HE.out.2.2.2.2.2.2.2.2.1, trivial⟩
  intro listed act W hJ hr
  obtain ⟨b0, b1, b2, b3, b4, b5, b6, b7, b8, b9, x0, x1, x2, x3, x4, x5, x6, x7, x8, rfl, rfl, hJ, hE⟩ := hJ
  have HJ := Lib.hid hJ
  have HE := Lib.hid hE
  clear hJ hE
  have q0 : b0 = true := by
    cases b0 with
    | true => rfl
    | false =>
      have hm : 0 ∈ ([] : List Nat) := by rw [← hr]; exact fl_in (o := _) rfl rfl (by simp [Region.binds])
      cases hm
  subst q0
  have q1 : b1 = true := by
    cases b1 with
    | true => rfl
    | false =>
      have hm : 1 ∈ ([] : List Nat) := by rw [← hr]; exact fl_in (o := _) rfl rfl (by simp [Region.binds])
      cases hm
  subst q1
  have q2 : b2 = true := by
    cases b2 with
    | true => rfl
    | false =>
      have hm : 2 ∈ ([] : List Nat) := by rw [← hr]; exact fl_in (o := _) rfl rfl (by simp [Region.binds])
      cases hm
  subst q2
  have q3 : b3 = true := by
    cases b3 with
    | true => rfl
    | false =>
      have hm : 3 ∈ ([] : List Nat) := by rw [← hr]; exact fl_in (o := _) rfl rfl (by simp [Region.binds])
      cases hm
  subst q3
  have q4 : b4 = true := by
    cases b4 with
    | true => rfl
    | false =>
      have hm : 4 ∈ ([] : List Nat) := by rw [← hr]; exact fl_in (o := _) rfl rfl (by simp [Region.binds])
      cases hm
  subst q4
  have q5 : b5 = true := by
    cases b5 with
    | true => rfl
    | false =>
      have hm : 5 ∈ ([] : List Nat) := by rw [← hr]; exact fl_in (o := _) rfl rfl (by simp [Region.binds])
      cases hm
  subst q5
  have q6 : b6 = true := by
    cases b6 with
    | true => rfl
    | false =>
      have hm : 6 ∈ ([] : List Nat) := by rw [← hr]; exact fl_in (o := _) rfl rfl (by simp [Region.binds])
      cases hm
  subst q6
  have q7 : b7 = true := by
    cases b7 with
    | true => rfl
    | false =>
      have hm : 7 ∈ ([] : List Nat) := by rw [← hr]; exact fl_in (o := _) rfl rfl (by simp [Region.binds])
      cases hm
  subst q7
  have q8 : b8 = true := by
    cases b8 with
    | true => rfl
    | false =>
      have hm : 8 ∈ ([] : List Nat) := by rw [← hr]; exact fl_in (o := _) rfl rfl (by simp [Region.binds])
      cases hm
  subst q8
  have q9 : b9 = true := by
    cases b9 with
    | true => rfl
    | false =>
      have hm : 9 ∈ ([] : List Nat) := by rw [← hr]; exact fl_in (o := _) rfl rfl (by simp [Region.binds])
      cases hm
  subst q9
  clear hr
  obtain rfl := HE.out.1 rfl
  obtain rfl := HE.out.2.1 rfl
  obtain rfl := HE.out.2.2.1 rfl
  obtain rfl := HE.out.2.2.2.1 rfl
  obtain rfl := HE.out.2.2.2.2.1 rfl
  obtain rfl := HE.out.2.2.2.2.2.1 rfl
  obtain rfl := HE.out.2.2.2.2.2.2.1 rfl
  obtain rfl := HE.out.2.2.2.2.2.2.2.1 rfl
  obtain rfl := HE.out.2.2.2.2.2.2.2.2.1 rfl
  obtain ⟨hp, hvar⟩ := HJ.out.var rfl
  clear hp
  have hvar : W.heap[g2]? = some (.cells (#[.int .i64 0, .int .i64 0, .int .u64 0, .int .i64 0, .bool false, .int .i64 0, .int .u64 0, .int .i64 0, .bool false, .int .u64 0, .int .u64 cv, .int .i64 1, .int .i64 0, .int .i64 (ct - pt)]) 69 (0, 0)) := hvar
  have HVAR := Lib.hid hvar
  clear hvar
  have HUPD := Lib.hid HJ.out.upd
  have HLOW := Lib.hid HJ.out.low
  clear HJ HE
  go_wp2_with fail
  have hB := (HB.out.trans ((HUPD.out.below (by have := HB.out.size; have := HG.out.2.2.2; omega) (by have := HG.out.2.2; omega)) : Below w.heap.size w0 W))
  refine bodyPost_ret (v := .agg #[.int .i64 0, .int .i64 0, .int .u64 0, .int .i64 0, .bool false, .int .i64 0, .int .u64 0, .int .i64 0, .bool false, .int .u64 0, .int .u64 cv, .int .i64 1, .int .i64 0, .int .i64 (ct - pt)]) (results_cell_row Try.results42 _ _ g2 _ _ _ _ rfl HVAR.out Try.underlying69 rfl ceInfo) rfl ⟨rfl, hB⟩

set_option maxHeartbeats 1000000 in
set_option maxRecDepth 100000 in
theorem bt_more (pt pv pc : Int) (ps : Bool) (ct cv cc : Int) (cs : Bool) (hp : EvOk ⟨pt, pv, pc, ps⟩) (hc : EvOk ⟨ct, cv, cc, cs⟩) (hlt : pt < ct) (hs : cs = false) (h2 : ¬ pt < cc) (h3 : ps = false) (h4 : ¬ cv < pv) (w : World) :
    Calls Try.prog 42 #[.agg #[.int .i64 pt, .int .u64 pv, .int .i64 pc, .bool ps], .agg #[.int .i64 ct, .int .u64 cv, .int .i64 cc, .bool cs]] w fun e w' =>
      e = .returned (.agg #[.int .i64 0, .int .i64 0, .int .u64 0, .int .i64 0, .bool false, .int .i64 0, .int .u64 0, .int .i64 0, .bool false, .int .u64 0, .int .u64 (cv - pv), .int .i64 0, .int .i64 0, .int .i64 (ct - pt)]) ∧ Below w.heap.size w w' := by
  have p0 := hp.t0; have p1 := hp.t1; have p2 := hp.v0; have p3 := hp.v1; have p4 := hp.c0; have p5 := hp.c1
  have c0 := hc.t0; have c1 := hc.t1; have c2 := hc.v0; have c3 := hc.v1; have c4 := hc.c0; have c5 := hc.c1
  simp only at p0 p1 p2 p3 p4 p5 c0 c1 c2 c3 c4 c5
  clear hp hc
  subst hs h3
  have i1 : IntKind.i64.wrap (ct - pt) = ct - pt := by rw [IntKind.wrap_i64]; omega
  have i2 : IntKind.u64.wrap (cv - pv) = cv - pv := by rw [IntKind.wrap_u64]; omega
  go_enter Try.func42, Try.ntmps42
  go_upto_region 9 with fail
  obtain ⟨w0, hw0⟩ : ∃ w0, w0 = ((w.alloc (.cells #[.int .i64 pt, .int .u64 pv, .int .i64 pc, .bool false] 27)).alloc (.cells #[.int .i64 ct, .int .u64 cv, .int .i64 cc, .bool false] 27)).alloc (.cells #[.int .i64 0, .int .i64 0, .int .u64 0, .int .i64 0, .bool false, .int .i64 0, .int .u64 0, .int .i64 0, .bool false, .int .u64 0, .int .u64 0, .int .i64 0, .int .i64 0, .int .i64 0] 69) := ⟨_, rfl⟩
  have HB := Lib.hid (show Below w.heap.size w w0 by rw [hw0]; go_grown)
  obtain ⟨g0, hg0⟩ : ∃ g, g = w.heap.size := ⟨_, rfl⟩
  obtain ⟨g1, hg1⟩ : ∃ g, g = w.heap.size + 1 := ⟨_, rfl⟩
  obtain ⟨g2, hg2⟩ : ∃ g, g = w.heap.size + 1 + 1 := ⟨_, rfl⟩
  have b0 : w0.heap[g0]? = some (.cells #[.int .i64 pt, .int .u64 pv, .int .i64 pc, .bool false] 27 (0, 0)) := by rw [hw0]; exact alloc_old (alloc_old (alloc_at _ _ (by rw [hg0])) _) _
  have b1 : w0.heap[g1]? = some (.cells #[.int .i64 ct, .int .u64 cv, .int .i64 cc, .bool false] 27 (0, 0)) := by rw [hw0]; exact alloc_old (alloc_at _ _ (by rw [hg1]; simp)) _
  have b2 : w0.heap[g2]? = some (.cells #[.int .i64 0, .int .i64 0, .int .u64 0, .int .i64 0, .bool false, .int .i64 0, .int .u64 0, .int .i64 0, .bool false, .int .u64 0, .int .u64 0, .int .i64 0, .int .i64 0, .int .i64 0] 69 (0, 0)) := by rw [hw0]; exact alloc_at _ _ (by rw [hg2]; simp)
  rw [← hw0, ← hg2, ← hg1, ← hg0]
  have hw2 : g2 < w0.heap.size := lt_blk b2
  have HG := Lib.hid (show g0 ≠ g2 ∧ g1 ≠ g2 ∧ g0 ≤ g2 ∧ w.heap.size = g0 by omega)
  have B0 := Lib.hid b0
  have B1 := Lib.hid b1
  have B2 := Lib.hid b2
  clear hw0 hg1 hg2 b0 b1 b2 hg0
  refine wp_region_fl (J := fun listed act W => ∃ (b0 b1 b2 b3 b4 b5 b6 b7 b8 b9 b10 b11 b12 : Bool) (x0 x1 x2 x3 x4 x5 x6 x7 x8 x9 x10 x11 : Value), listed = #[b0, b1, b2, b3, b4, b5, b6, b7, b8, b9, b10, b11, b12] ∧ act = { tmps := #[.agg #[.int .i64 pt, .int .u64 pv, .int .i64 pc, .bool false], .agg #[.int .i64 ct, .int .u64 cv, .int .i64 cc, .bool false], .pointer (some ⟨g0, 0, none⟩), .pointer (some ⟨g1, 0, none⟩), .pointer (some ⟨g2, 0, none⟩), .bool false, .pointer (some ⟨g1, 3, none⟩), .bool false, undef, .bool false, .pointer (some ⟨g1, 2, none⟩), .int .i64 cc, .pointer (some ⟨g0, 0, none⟩), .int .i64 pt, .bool false, undef, undef, undef, undef, undef, undef, undef, undef, undef, .bool false, .pointer (some ⟨g0, 3, none⟩), .bool false, undef, .bool false, .pointer (some ⟨g1, 1, none⟩), .int .u64 cv, .pointer (some ⟨g0, 1, none⟩), .int .u64 pv, .bool false, undef, undef, undef, undef, undef, undef, undef, undef, undef, x0, x1, x2, x3, x4, x5, x6, x7, x8, x9, x10, x11], defers := [] } ∧ FJ (g0) w0 W 69 (#[.int .i64 0, .int .i64 0, .int .u64 0, .int .i64 0, .bool false, .int .i64 0, .int .u64 0, .int .i64 0, .bool false, .int .u64 0, .int .u64 0, .int .i64 0, .int .i64 0, .int .i64 0]) (#[.int .i64 0, .int .i64 0, .int .u64 0, .int .i64 0, .bool false, .int .i64 0, .int .u64 0, .int .i64 0, .bool false, .int .u64 0, .int .u64 (cv - pv), .int .i64 0, .int .i64 0, .int .i64 (ct - pt)]) true b12 (.pointer (some ⟨g2, 0, none⟩)) g2 ∧ ((b0 = true → x0 = .pointer (some ⟨g1, 1, none⟩)) ∧ (b1 = true → x1 = .int .u64 cv) ∧ (b2 = true → x2 = .pointer (some ⟨g0, 1, none⟩)) ∧ (b3 = true → x3 = .int .u64 pv) ∧ (b4 = true → x4 = .int .u64 (cv - pv)) ∧ (b5 = true → x5 = .agg #[.int .u64 0, .int .u64 (cv - pv)]) ∧ (b6 = true → x6 = .pointer (some ⟨g1, 0, none⟩)) ∧ (b7 = true → x7 = .int .i64 ct) ∧ (b8 = true → x8 = .pointer (some ⟨g0, 0, none⟩)) ∧ (b9 = true → x9 = .int .i64 pt) ∧ (b10 = true → x10 = .int .i64 (ct - pt)) ∧ (b11 = true → x11 = .agg #[.int .i64 0, .int .i64 0, .int .u64 0, .int .i64 0, .bool false, .int .i64 0, .int .u64 0, .int .i64 0, .bool false, .int .u64 0, .int .u64 (cv - pv), .int .i64 0, .int .i64 0, .int .i64 (ct - pt)]) ∧ True)) (by kernel_rfl) ⟨false, false, false, false, false, false, false, false, false, false, false, false, false, undef, undef, undef, undef, undef, undef, undef, undef, undef, undef, undef, undef, rfl, rfl, FJ.start_old #[.int .i64 0, .int .i64 0, .int .u64 0, .int .i64 0, .bool false, .int .i64 0, .int .u64 0, .int .i64 0, .bool false, .int .u64 0, .int .u64 (cv - pv), .int .i64 0, .int .i64 0, .int .i64 (ct - pt)] B2.out HG.out.2.2.1, nofun, nofun, nofun, nofun, nofun, nofun, nofun, nofun, nofun, nofun, nofun, nofun, trivial⟩ ?_ ?_
  · intro listed act W i hJ hi
    obtain ⟨b0, b1, b2, b3, b4, b5, b6, b7, b8, b9, b10, b11, b12, x0, x1, x2, x3, x4, x5, x6, x7, x8, x9, x10, x11, rfl, rfl, hJ, hE⟩ := hJ
    have HJ := Lib.hid hJ
    have HE := Lib.hid hE
    obtain ⟨hi1, hi2, hi3⟩ := fl_spec hi
    clear hJ hE hi
    have hi4 : i < 13 := hi1
    clear hi1
    have hcase : i = 0 ∨ i = 1 ∨ i = 2 ∨ i = 3 ∨ i = 4 ∨ i = 5 ∨ i = 6 ∨ i = 7 ∨ i = 8 ∨ i = 9 ∨ i = 10 ∨ i = 11 ∨ i = 12 := by omega
    clear hi4
    rcases hcase with rfl | rfl | rfl | rfl | rfl | rfl | rfl | rfl | rfl | rfl | rfl | rfl | rfl
    · refine wpOp_step (o := _) rfl (fun K hK => ?_)
      have HK := Lib.hid hK
      clear hK
      clear hi3 hi2
      go_simp
      exact HK.out _ _ ⟨_, _, _, _, _, _, _, _, _, _, _, _, _, _, _, _, _, _, _, _, _, _, _, _, _, rfl, rfl, HJ.out, fun _ => rfl, HE.out.2.1, HE.out.2.2.1, HE.out.2.2.2.1, HE.out.2.2.2.2.1, HE.out.2.2.2.2.2.1, HE.out.2.2.2.2.2.2.1, HE.out.2.2.2.2.2.2.2.1, HE.out.2.2.2.2.2.2.2.2.1, HE.out.2.2.2.2.2.2.2.2.2.1, HE.out.2.2.2.2.2.2.2.2.2.2.1, HE.out.2.2.2.2.2.2.2.2.2.2.2.1, trivial⟩
    · refine wpOp_step (o := _) rfl (fun K hK => ?_)
      have HK := Lib.hid hK
      clear hK
      have hd := hi3 _ rfl
      simp [Region.binds] at hd
      have q0 : b0 = true := by (cases b0 with | true => rfl | false => simp at hd)
      clear hi3 hi2 hd
      obtain rfl := HE.out.1 q0
      clear q0
      have cc0 := cell_block (HJ.out.upd.keep B1.out HG.out.2.1) 1
      simp at cc0
      go_simp
      exact HK.out _ _ ⟨_, _, _, _, _, _, _, _, _, _, _, _, _, _, _, _, _, _, _, _, _, _, _, _, _, rfl, rfl, HJ.out, HE.out.1, fun _ => rfl, HE.out.2.2.1, HE.out.2.2.2.1, HE.out.2.2.2.2.1, HE.out.2.2.2.2.2.1, HE.out.2.2.2.2.2.2.1, HE.out.2.2.2.2.2.2.2.1, HE.out.2.2.2.2.2.2.2.2.1, HE.out.2.2.2.2.2.2.2.2.2.1, HE.out.2.2.2.2.2.2.2.2.2.2.1, HE.out.2.2.2.2.2.2.2.2.2.2.2.1, trivial⟩
    · refine wpOp_step (o := _) rfl (fun K hK => ?_)
      have HK := Lib.hid hK
      clear hK
      clear hi3 hi2
      go_simp
      exact HK.out _ _ ⟨_, _, _, _, _, _, _, _, _, _, _, _, _, _, _, _, _, _, _, _, _, _, _, _, _, rfl, rfl, HJ.out, HE.out.1, HE.out.2.1, fun _ => rfl, HE.out.2.2.2.1, HE.out.2.2.2.2.1, HE.out.2.2.2.2.2.1, HE.out.2.2.2.2.2.2.1, HE.out.2.2.2.2.2.2.2.1, HE.out.2.2.2.2.2.2.2.2.1, HE.out.2.2.2.2.2.2.2.2.2.1, HE.out.2.2.2.2.2.2.2.2.2.2.1, HE.out.2.2.2.2.2.2.2.2.2.2.2.1, trivial⟩
    · refine wpOp_step (o := _) rfl (fun K hK => ?_)
      have HK := Lib.hid hK
      clear hK
      have hd := hi3 _ rfl
      simp [Region.binds] at hd
      have q2 : b2 = true := by (cases b2 with | true => rfl | false => simp at hd)
      clear hi3 hi2 hd
      obtain rfl := HE.out.2.2.1 q2
      clear q2
      have cc0 := cell_block (HJ.out.upd.keep B0.out HG.out.1) 1
      simp at cc0
      go_simp
      exact HK.out _ _ ⟨_, _, _, _, _, _, _, _, _, _, _, _, _, _, _, _, _, _, _, _, _, _, _, _, _, rfl, rfl, HJ.out, HE.out.1, HE.out.2.1, HE.out.2.2.1, fun _ => rfl, HE.out.2.2.2.2.1, HE.out.2.2.2.2.2.1, HE.out.2.2.2.2.2.2.1, HE.out.2.2.2.2.2.2.2.1, HE.out.2.2.2.2.2.2.2.2.1, HE.out.2.2.2.2.2.2.2.2.2.1, HE.out.2.2.2.2.2.2.2.2.2.2.1, HE.out.2.2.2.2.2.2.2.2.2.2.2.1, trivial⟩
    · refine wpOp_step (o := _) rfl (fun K hK => ?_)
      have HK := Lib.hid hK
      clear hK
      have hd := hi3 _ rfl
      simp [Region.binds] at hd
      have q1 : b1 = true := by (cases b1 with | true => rfl | false => simp at hd)
      have q3 : b3 = true := by (cases b3 with | true => rfl | false => simp at hd)
      clear hi3 hi2 hd
      obtain rfl := HE.out.2.1 q1
      obtain rfl := HE.out.2.2.2.1 q3
      clear q1 q3
      go_simp
      exact HK.out _ _ ⟨_, _, _, _, _, _, _, _, _, _, _, _, _, _, _, _, _, _, _, _, _, _, _, _, _, rfl, rfl, HJ.out, HE.out.1, HE.out.2.1, HE.out.2.2.1, HE.out.2.2.2.1, fun _ => rfl, HE.out.2.2.2.2.2.1, HE.out.2.2.2.2.2.2.1, HE.out.2.2.2.2.2.2.2.1, HE.out.2.2.2.2.2.2.2.2.1, HE.out.2.2.2.2.2.2.2.2.2.1, HE.out.2.2.2.2.2.2.2.2.2.2.1, HE.out.2.2.2.2.2.2.2.2.2.2.2.1, trivial⟩
    · refine wpOp_step (o := _) rfl (fun K hK => ?_)
      have HK := Lib.hid hK
      clear hK
      have hd := hi3 _ rfl
      simp [Region.binds] at hd
      have q4 : b4 = true := by (cases b4 with | true => rfl | false => simp at hd)
      clear hi3 hi2 hd
      obtain rfl := HE.out.2.2.2.2.1 q4
      clear q4
      go_simp
      go_at_call 43
      refine (of_bel _ _).mono ?_
      rintro e w1 ⟨rfl, hb⟩
      exact HK.out _ _ ⟨_, _, _, _, _, _, _, _, _, _, _, _, _, _, _, _, _, _, _, _, _, _, _, _, _, rfl, rfl, HJ.out.grow hb, HE.out.1, HE.out.2.1, HE.out.2.2.1, HE.out.2.2.2.1, HE.out.2.2.2.2.1, fun _ => rfl, HE.out.2.2.2.2.2.2.1, HE.out.2.2.2.2.2.2.2.1, HE.out.2.2.2.2.2.2.2.2.1, HE.out.2.2.2.2.2.2.2.2.2.1, HE.out.2.2.2.2.2.2.2.2.2.2.1, HE.out.2.2.2.2.2.2.2.2.2.2.2.1, trivial⟩
    · refine wpOp_step (o := _) rfl (fun K hK => ?_)
      have HK := Lib.hid hK
      clear hK
      clear hi3 hi2
      go_simp
      exact HK.out _ _ ⟨_, _, _, _, _, _, _, _, _, _, _, _, _, _, _, _, _, _, _, _, _, _, _, _, _, rfl, rfl, HJ.out, HE.out.1, HE.out.2.1, HE.out.2.2.1, HE.out.2.2.2.1, HE.out.2.2.2.2.1, HE.out.2.2.2.2.2.1, fun _ => rfl, HE.out.2.2.2.2.2.2.2.1, HE.out.2.2.2.2.2.2.2.2.1, HE.out.2.2.2.2.2.2.2.2.2.1, HE.out.2.2.2.2.2.2.2.2.2.2.1, HE.out.2.2.2.2.2.2.2.2.2.2.2.1, trivial⟩
    · refine wpOp_step (o := _) rfl (fun K hK => ?_)
      have HK := Lib.hid hK
      clear hK
      have hd := hi3 _ rfl
      simp [Region.binds] at hd
      have q6 : b6 = true := by (cases b6 with | true => rfl | false => simp at hd)
      clear hi3 hi2 hd
      obtain rfl := HE.out.2.2.2.2.2.2.1 q6
      clear q6
      have cc0 := cell_block (HJ.out.upd.keep B1.out HG.out.2.1) 0
      simp at cc0
      go_simp
      exact HK.out _ _ ⟨_, _, _, _, _, _, _, _, _, _, _, _, _, _, _, _, _, _, _, _, _, _, _, _, _, rfl, rfl, HJ.out, HE.out.1, HE.out.2.1, HE.out.2.2.1, HE.out.2.2.2.1, HE.out.2.2.2.2.1, HE.out.2.2.2.2.2.1, HE.out.2.2.2.2.2.2.1, fun _ => rfl, HE.out.2.2.2.2.2.2.2.2.1, HE.out.2.2.2.2.2.2.2.2.2.1, HE.out.2.2.2.2.2.2.2.2.2.2.1, HE.out.2.2.2.2.2.2.2.2.2.2.2.1, trivial⟩
    · refine wpOp_step (o := _) rfl (fun K hK => ?_)
      have HK := Lib.hid hK
      clear hK
      clear hi3 hi2
      go_simp
      exact HK.out _ _ ⟨_, _, _, _, _, _, _, _, _, _, _, _, _, _, _, _, _, _, _, _, _, _, _, _, _, rfl, rfl, HJ.out, HE.out.1, HE.out.2.1, HE.out.2.2.1, HE.out.2.2.2.1, HE.out.2.2.2.2.1, HE.out.2.2.2.2.2.1, HE.out.2.2.2.2.2.2.1, HE.out.2.2.2.2.2.2.2.1, fun _ => rfl, HE.out.2.2.2.2.2.2.2.2.2.1, HE.out.2.2.2.2.2.2.2.2.2.2.1, HE.out.2.2.2.2.2.2.2.2.2.2.2.1, trivial⟩
    · refine wpOp_step (o := _) rfl (fun K hK => ?_)
      have HK := Lib.hid hK
      clear hK
      have hd := hi3 _ rfl
      simp [Region.binds] at hd
      have q8 : b8 = true := by (cases b8 with | true => rfl | false => simp at hd)
      clear hi3 hi2 hd
      obtain rfl := HE.out.2.2.2.2.2.2.2.2.1 q8
      clear q8
      have cc0 := cell_block (HJ.out.upd.keep B0.out HG.out.1) 0
      simp at cc0
      go_simp
      exact HK.out _ _ ⟨_, _, _, _, _, _, _, _, _, _, _, _, _, _, _, _, _, _, _, _, _, _, _, _, _, rfl, rfl, HJ.out, HE.out.1, HE.out.2.1, HE.out.2.2.1, HE.out.2.2.2.1, HE.out.2.2.2.2.1, HE.out.2.2.2.2.2.1, HE.out.2.2.2.2.2.2.1, HE.out.2.2.2.2.2.2.2.1, HE.out.2.2.2.2.2.2.2.2.1, fun _ => rfl, HE.out.2.2.2.2.2.2.2.2.2.2.1, HE.out.2.2.2.2.2.2.2.2.2.2.2.1, trivial⟩
    · refine wpOp_step (o := _) rfl (fun K hK => ?_)
      have HK := Lib.hid hK
      clear hK
      have hd := hi3 _ rfl
      simp [Region.binds] at hd
      have q7 : b7 = true := by (cases b7 with | true => rfl | false => simp at hd)
      have q9 : b9 = true := by (cases b9 with | true => rfl | false => simp at hd)
      clear hi3 hi2 hd
      obtain rfl := HE.out.2.2.2.2.2.2.2.1 q7
      obtain rfl := HE.out.2.2.2.2.2.2.2.2.2.1 q9
      clear q7 q9
      go_simp
      exact HK.out _ _ ⟨_, _, _, _, _, _, _, _, _, _, _, _, _, _, _, _, _, _, _, _, _, _, _, _, _, rfl, rfl, HJ.out, HE.out.1, HE.out.2.1, HE.out.2.2.1, HE.out.2.2.2.1, HE.out.2.2.2.2.1, HE.out.2.2.2.2.2.1, HE.out.2.2.2.2.2.2.1, HE.out.2.2.2.2.2.2.2.1, HE.out.2.2.2.2.2.2.2.2.1, HE.out.2.2.2.2.2.2.2.2.2.1, fun _ => rfl, HE.out.2.2.2.2.2.2.2.2.2.2.2.1, trivial⟩
    · refine wpOp_step (o := _) rfl (fun K hK => ?_)
      have HK := Lib.hid hK
      clear hK
      have hd := hi3 _ rfl
      simp [Region.binds] at hd
      have q5 : b5 = true := by (cases b5 with | true => rfl | false => simp at hd)
      have q10 : b10 = true := by (cases b10 with | true => rfl | false => simp at hd)
      clear hi3 hi2 hd
      obtain rfl := HE.out.2.2.2.2.2.1 q5
      obtain rfl := HE.out.2.2.2.2.2.2.2.2.2.2.1 q10
      clear q5 q10
      go_simp
      exact HK.out _ _ ⟨_, _, _, _, _, _, _, _, _, _, _, _, _, _, _, _, _, _, _, _, _, _, _, _, _, rfl, rfl, HJ.out, HE.out.1, HE.out.2.1, HE.out.2.2.1, HE.out.2.2.2.1, HE.out.2.2.2.2.1, HE.out.2.2.2.2.2.1, HE.out.2.2.2.2.2.2.1, HE.out.2.2.2.2.2.2.2.1, HE.out.2.2.2.2.2.2.2.2.1, HE.out.2.2.2.2.2.2.2.2.2.1, HE.out.2.2.2.2.2.2.2.2.2.2.1, fun _ => rfl, trivial⟩
    · refine wpOp_step (o := _) rfl (fun K hK => ?_)
      have HK := Lib.hid hK
      clear hK
      have hd := hi3 _ rfl
      simp [Region.binds] at hd
      have q11 : b11 = true := by (cases b11 with | true => rfl | false => simp at hd)
      clear hi3 hi2 hd
      obtain rfl := HE.out.2.2.2.2.2.2.2.2.2.2.2.1 q11
      clear q11
      obtain ⟨hp, _⟩ := HJ.out.var rfl
      clear hp
      rw [if_pos (by rfl)]
      refine wp_store_mid 69 _ _ rfl g2 0 (#[.int .i64 0, .int .i64 0, .int .u64 0, .int .i64 0, .bool false, .int .i64 0, .int .u64 0, .int .i64 0, .bool false, .int .u64 0, .int .u64 (cv - pv), .int .i64 0, .int .i64 0, .int .i64 (ct - pt)]) rfl rfl (HJ.out.there (by rfl)) ceInfo (by simp [Value.oneCell']) ?_
      exact HK.out _ _ ⟨_, _, _, _, _, _, _, _, _, _, _, _, _, _, _, _, _, _, _, _, _, _, _, _, _, rfl, rfl, HJ.out.store (by rfl), HE.out.1, HE.out.2.1, HE.out.2.2.1, HE.out.2.2.2.1, HE.out.2.2.2.2.1, HE.out.2.2.2.2.2.1, HE.out.2.2.2.2.2.2.1, HE.out.2.2.2.2.2.2.2.1, HE.out.2.2.2.2.2.2.2.2.1, HE.out.2.2.2.2.2.2.2.2.2.1, HE.out.2.2.2.2.2.2.2.2.2.2.1, HE.out.2.2.2.2.2.2.2.2.2.2.2.1, trivial⟩
  intro listed act W hJ hr
  obtain ⟨b0, b1, b2, b3, b4, b5, b6, b7, b8, b9, b10, b11, b12, x0, x1, x2, x3, x4, x5, x6, x7, x8, x9, x10, x11, rfl, rfl, hJ, hE⟩ := hJ
  have HJ := Lib.hid hJ
  have HE := Lib.hid hE
  clear hJ hE
  have q0 : b0 = true := by
    cases b0 with
    | true => rfl
    | false =>
      have hm : 0 ∈ ([] : List Nat) := by rw [← hr]; exact fl_in (o := _) rfl rfl (by simp [Region.binds])
      cases hm
  subst q0
  have q1 : b1 = true := by
    cases b1 with
    | true => rfl
    | false =>
      have hm : 1 ∈ ([] : List Nat) := by rw [← hr]; exact fl_in (o := _) rfl rfl (by simp [Region.binds])
      cases hm
  subst q1
  have q2 : b2 = true := by
    cases b2 with
    | true => rfl
    | false =>
      have hm : 2 ∈ ([] : List Nat) := by rw [← hr]; exact fl_in (o := _) rfl rfl (by simp [Region.binds])
      cases hm
  subst q2
  have q3 : b3 = true := by
    cases b3 with
    | true => rfl
    | false =>
      have hm : 3 ∈ ([] : List Nat) := by rw [← hr]; exact fl_in (o := _) rfl rfl (by simp [Region.binds])
      cases hm
  subst q3
  have q4 : b4 = true := by
    cases b4 with
    | true => rfl
    | false =>
      have hm : 4 ∈ ([] : List Nat) := by rw [← hr]; exact fl_in (o := _) rfl rfl (by simp [Region.binds])
      cases hm
  subst q4
  have q5 : b5 = true := by
    cases b5 with
    | true => rfl
    | false =>
      have hm : 5 ∈ ([] : List Nat) := by rw [← hr]; exact fl_in (o := _) rfl rfl (by simp [Region.binds])
      cases hm
  subst q5
  have q6 : b6 = true := by
    cases b6 with
    | true => rfl
    | false =>
      have hm : 6 ∈ ([] : List Nat) := by rw [← hr]; exact fl_in (o := _) rfl rfl (by simp [Region.binds])
      cases hm
  subst q6
  have q7 : b7 = true := by
    cases b7 with
    | true => rfl
    | false =>
      have hm : 7 ∈ ([] : List Nat) := by rw [← hr]; exact fl_in (o := _) rfl rfl (by simp [Region.binds])
      cases hm
  subst q7
  have q8 : b8 = true := by
    cases b8 with
    | true => rfl
    | false =>
      have hm : 8 ∈ ([] : List Nat) := by rw [← hr]; exact fl_in (o := _) rfl rfl (by simp [Region.binds])
      cases hm
  subst q8
  have q9 : b9 = true := by
    cases b9 with
    | true => rfl
    | false =>
      have hm : 9 ∈ ([] : List Nat) := by rw [← hr]; exact fl_in (o := _) rfl rfl (by simp [Region.binds])
      cases hm
  subst q9
  have q10 : b10 = true := by
    cases b10 with
    | true => rfl
    | false =>
      have hm : 10 ∈ ([] : List Nat) := by rw [← hr]; exact fl_in (o := _) rfl rfl (by simp [Region.binds])
      cases hm
  subst q10
  have q11 : b11 = true := by
    cases b11 with
    | true => rfl
    | false =>
      have hm : 11 ∈ ([] : List Nat) := by rw [← hr]; exact fl_in (o := _) rfl rfl (by simp [Region.binds])
      cases hm
  subst q11
  have q12 : b12 = true := by
    cases b12 with
    | true => rfl
    | false =>
      have hm : 12 ∈ ([] : List Nat) := by rw [← hr]; exact fl_in (o := _) rfl rfl (by simp [Region.binds])
      cases hm
  subst q12
  clear hr
  obtain rfl := HE.out.1 rfl
  obtain rfl := HE.out.2.1 rfl
  obtain rfl := HE.out.2.2.1 rfl
  obtain rfl := HE.out.2.2.2.1 rfl
  obtain rfl := HE.out.2.2.2.2.1 rfl
  obtain rfl := HE.out.2.2.2.2.2.1 rfl
  obtain rfl := HE.out.2.2.2.2.2.2.1 rfl
  obtain rfl := HE.out.2.2.2.2.2.2.2.1 rfl
  obtain rfl := HE.out.2.2.2.2.2.2.2.2.1 rfl
  obtain rfl := HE.out.2.2.2.2.2.2.2.2.2.1 rfl
  obtain rfl := HE.out.2.2.2.2.2.2.2.2.2.2.1 rfl
  obtain rfl := HE.out.2.2.2.2.2.2.2.2.2.2.2.1 rfl
  obtain ⟨hp, hvar⟩ := HJ.out.var rfl
  clear hp
  have hvar : W.heap[g2]? = some (.cells (#[.int .i64 0, .int .i64 0, .int .u64 0, .int .i64 0, .bool false, .int .i64 0, .int .u64 0, .int .i64 0, .bool false, .int .u64 0, .int .u64 (cv - pv), .int .i64 0, .int .i64 0, .int .i64 (ct - pt)]) 69 (0, 0)) := hvar
  have HVAR := Lib.hid hvar
  clear hvar
  have HUPD := Lib.hid HJ.out.upd
  have HLOW := Lib.hid HJ.out.low
  clear HJ HE
  go_wp2_with fail
  have hB := (HB.out.trans ((HUPD.out.below (by have := HB.out.size; have := HG.out.2.2.2; omega) (by have := HG.out.2.2; omega)) : Below w.heap.size w0 W))
  refine bodyPost_ret (v := .agg #[.int .i64 0, .int .i64 0, .int .u64 0, .int .i64 0, .bool false, .int .i64 0, .int .u64 0, .int .i64 0, .bool false, .int .u64 0, .int .u64 (cv - pv), .int .i64 0, .int .i64 0, .int .i64 (ct - pt)]) (results_cell_row Try.results42 _ _ g2 _ _ _ _ rfl HVAR.out Try.underlying69 rfl ceInfo) rfl ⟨rfl, hB⟩

end Go.Proofs.Ytohkioakipjanaa
