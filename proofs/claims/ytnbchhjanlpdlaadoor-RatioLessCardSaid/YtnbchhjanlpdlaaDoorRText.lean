/-
  WALKS: ratio.Text at 2/3.
-/
import Derived.Test.YtnbchhjanlpdlaaDoorRate
namespace Go.Proofs.YtnbchhjanlpdlaaDoor
open Go Go.RowKit

theorem l2_t2 (w : World) (h : tabs w) : Calls Tryd.prog 23 #[.agg #[.int .u64 0, .int .u64 2]] w fun e w' => e = .returned (.string ⟨#[50]⟩) ∧ Below w.heap.size w w' := by
  refine (text_at (a := ⟨2, by decide⟩) (by kernel_rfl) (by kernel_rfl) w h).mono ?_
  rintro e w' ⟨rfl, hb⟩
  refine ⟨?_, hb⟩
  show Ending.returned (.string ⟨(Lib.decDigits 2).toArray⟩) = _
  rw [dec_small (b := 2) (by decide)]
  rfl
theorem l2_t3 (w : World) (h : tabs w) : Calls Tryd.prog 23 #[.agg #[.int .u64 0, .int .u64 3]] w fun e w' => e = .returned (.string ⟨#[51]⟩) ∧ Below w.heap.size w w' := by
  refine (text_at (a := ⟨3, by decide⟩) (by kernel_rfl) (by kernel_rfl) w h).mono ?_
  rintro e w' ⟨rfl, hb⟩
  refine ⟨?_, hb⟩
  show Ending.returned (.string ⟨(Lib.decDigits 3).toArray⟩) = _
  rw [dec_small (b := 3) (by decide)]
  rfl
set_option maxHeartbeats 8000000 in
set_option maxRecDepth 100000 in
theorem l2_text (w : World) (htab : tabs w) : Calls Tryd.prog 36 #[.agg #[.int .u64 0, .int .u64 2, .int .u64 0, .int .u64 3]] w fun e w' => e = .returned (.string ⟨#[50, 47, 51]⟩) ∧ Below w.heap.size w w' := by
  have HT := Lib.hid htab
  clear htab
  go_enter Tryd.func36, Tryd.ntmps36
  go_upto_region 1 with fail
  have kf0 : Blk4 (w.alloc (.cells #[.int .u64 0, .int .u64 2, .int .u64 0, .int .u64 3] 41)) (w.heap.size) (0) (2) (0) (3) := (by repeat' (first | (with_reducible assumption) | ((with_reducible refine Blk2.new_at _ _ ?_); (simp; done)) | ((with_reducible refine Blk4.new_at _ _ ?_); (simp; done)) | (with_reducible refine Blk2.drew ?_) | (with_reducible refine Blk2.drewN ?_) | (with_reducible refine Blk2.alloc ?_ _) | (with_reducible refine Blk4.drew ?_) | (with_reducible refine Blk4.drewN ?_) | (with_reducible refine Blk4.alloc ?_ _)))
  have B0 : Below w.heap.size w (w.alloc (.cells #[.int .u64 0, .int .u64 2, .int .u64 0, .int .u64 3] 41)) := (by go_grown)
  generalize (w.alloc (.cells #[.int .u64 0, .int .u64 2, .int .u64 0, .int .u64 3] 41)) = w0 at *
  have z0 := B0.size
  have cf0 := kf0.c0; have df0 := kf0.c1; have ef0 := kf0.c2; have hf0 := kf0.c3; have ff0 := kf0.f 0; have gf0 := kf0.f 1; have if0 := kf0.f 2; have jf0 := kf0.f 3; have lf0 := kf0.lt
  go_region_held3 (fun w' => w'.cell? ⟨w.heap.size, 0, none⟩ = some (.int .u64 0) ∧ w'.cell? ⟨w.heap.size, 1, none⟩ = some (.int .u64 2) ∧ w'.cell? ⟨w.heap.size, 2, none⟩ = some (.int .u64 0) ∧ w'.cell? ⟨w.heap.size, 3, none⟩ = some (.int .u64 3)) (first | exact ⟨by assumption, by assumption, by assumption, by assumption⟩ | go_keep) (first | (go_at_call_of 23 (Value.agg #[.int .u64 0, .int .u64 2]); refine (l2_t2 _ (tabs_stays HT.out (by go_grown))).mono ?_; rintro e wx ⟨rfl, hbx⟩; have xf : Blk4 wx (w.heap.size) 0 2 0 3 := (by refine Blk4.keep ?_ hbx; repeat' (first | (with_reducible assumption) | ((with_reducible refine Blk2.new_at _ _ ?_); (simp; done)) | ((with_reducible refine Blk4.new_at _ _ ?_); (simp; done)) | (with_reducible refine Blk2.drew ?_) | (with_reducible refine Blk2.drewN ?_) | (with_reducible refine Blk2.alloc ?_ _) | (with_reducible refine Blk4.drew ?_) | (with_reducible refine Blk4.drewN ?_) | (with_reducible refine Blk4.alloc ?_ _))); have xf0 := xf.c0; have xf1 := xf.c1; have xf2 := xf.c2; have xf3 := xf.c3; have xf9 := xf.lt; have xB : Below w.heap.size w wx := (by refine below_of ?_ hbx; go_grown); have xz := xB.size; clear hbx) | (go_at_call_of 23 (Value.agg #[.int .u64 0, .int .u64 3]); refine (l2_t3 _ (tabs_stays HT.out (by go_grown))).mono ?_; rintro e wx ⟨rfl, hbx⟩; have xf : Blk4 wx (w.heap.size) 0 2 0 3 := (by refine Blk4.keep ?_ hbx; repeat' (first | (with_reducible assumption) | ((with_reducible refine Blk2.new_at _ _ ?_); (simp; done)) | ((with_reducible refine Blk4.new_at _ _ ?_); (simp; done)) | (with_reducible refine Blk2.drew ?_) | (with_reducible refine Blk2.drewN ?_) | (with_reducible refine Blk2.alloc ?_ _) | (with_reducible refine Blk4.drew ?_) | (with_reducible refine Blk4.drewN ?_) | (with_reducible refine Blk4.alloc ?_ _))); have xf0 := xf.c0; have xf1 := xf.c1; have xf2 := xf.c2; have xf3 := xf.c3; have xf9 := xf.lt; have xB : Below w.heap.size w wx := (by refine below_of ?_ hbx; go_grown); have xz := xB.size; clear hbx))
  all_goals
    go_wp2_with fail
    go_ret
    exact ⟨rfl, xB⟩
end Go.Proofs.YtnbchhjanlpdlaaDoor
