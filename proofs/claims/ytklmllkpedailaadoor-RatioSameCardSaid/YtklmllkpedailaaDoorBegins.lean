/-
  WALKS: plimsolltop.begins1: what the document says of rates and texts at its examples: it answers true.
-/
import Derived.Test.YtklmllkpedailaaDoorRate
namespace Go.Proofs.YtklmllkpedailaaDoor
open Go Go.RowKit

theorem bg_rate (w : World) : Calls Tryd.prog 33 #[.agg #[.int .u64 0, .int .u64 3], .int .u64 4] w fun e w' =>
    e = .returned (.tuple #[.agg #[.int .u64 0, .int .u64 750, .int .u64 0, .int .u64 1], .int .i64 0]) ∧ Below w.heap.size w w' := by
  refine (rate_at (a := ⟨3, by decide⟩) (by kernel_rfl) (by kernel_rfl) 4 (by decide) (by decide) (by decide) w).mono ?_
  rintro e w' ⟨rfl, hb⟩
  exact ⟨fe_eq (by kernel_rfl) (by kernel_rfl) (by kernel_rfl) (by kernel_rfl) rfl, hb⟩
theorem bg_times (w : World) : Calls Tryd.prog 17 #[.agg #[.int .u64 0, .int .u64 12], .int .u64 10] w fun e w' =>
    e = .returned (.tuple #[.agg #[.int .u64 0, .int .u64 120], .int .i64 0]) ∧ Below w.heap.size w w' := by
  refine (times_at (a := ⟨12, by decide⟩) (by kernel_rfl) (by kernel_rfl) 10 (by decide) w).mono ?_
  rintro e w' ⟨rfl, hb⟩
  exact ⟨we_eq' (by kernel_rfl) (by kernel_rfl) (by kernel_rfl), hb⟩
theorem bg_digits : Lib.decDigits 120 = [49, 50, 48] := by
  rw [Lib.decDigits_eq, Lib.nDigits_unique 2 _ (by decide) (by decide)]
  decide +kernel
theorem bg_text (w : World) (h : tabs w) : Calls Tryd.prog 29 #[.agg #[.int .u64 0, .int .u64 120]] w fun e w' =>
    e = .returned (.string ⟨#[49, 50, 48]⟩) ∧ Below w.heap.size w w' := by
  refine (text_at (a := ⟨120, by decide⟩) (by kernel_rfl) (by kernel_rfl) w h).mono ?_
  rintro e w' ⟨rfl, hb⟩
  refine ⟨?_, hb⟩
  show Ending.returned (.string ⟨(Lib.decDigits 120).toArray⟩) = _
  rw [bg_digits]
set_option maxHeartbeats 8000000 in
set_option maxRecDepth 100000 in
theorem begins1_any (w : World) (htab : tabs w) :
    Calls Tryd.prog 46 #[] w fun e w' => e = .returned (.bool true) ∧ Below w.heap.size w w' := by
  have HT := Lib.hid htab
  clear htab
  go_enter Tryd.func46, Tryd.ntmps46
  go_wp2_with (go_at_call 24; refine (of_any _ _).mono ?_; rintro e wo ⟨rfl, rfl⟩)
  refine (bg_rate _).mono ?_
  rintro e w1 ⟨rfl, hb1⟩
  have B1 : Below w.heap.size w w1 := (by refine below_of ?_ hb1; go_grown)
  clear hb1
  have z1 := B1.size
  go_wp2_with (go_at_call 24; refine (of_any _ _).mono ?_; rintro e wo ⟨rfl, rfl⟩)
  refine (bg_times _).mono ?_
  rintro e w2 ⟨rfl, hb2⟩
  have B2 : Below w.heap.size w w2 := (by refine below_of ?_ hb2; go_grown)
  have kf2 : Blk4 w2 (w1.heap.size) (0) (750) (0) (1) := (by refine Blk4.keep ?_ hb2; repeat' (first | (with_reducible assumption) | ((with_reducible refine Blk2.new_at _ _ ?_); (simp; done)) | ((with_reducible refine Blk4.new_at _ _ ?_); (simp; done)) | (with_reducible refine Blk2.drew ?_) | (with_reducible refine Blk2.drewN ?_) | (with_reducible refine Blk2.alloc ?_ _) | (with_reducible refine Blk4.drew ?_) | (with_reducible refine Blk4.drewN ?_) | (with_reducible refine Blk4.alloc ?_ _)))
  clear hb2 B1 z1
  have z2 := B2.size
  have cf2 := kf2.c0; have df2 := kf2.c1; have ef2 := kf2.c2; have hf2 := kf2.c3; have ff2 := kf2.f 0; have gf2 := kf2.f 1; have if2 := kf2.f 2; have jf2 := kf2.f 3; have lf2 := kf2.lt
  go_wp2_with fail
  have kn2 : Blk2 (w2.alloc (.cells #[.int .u64 0, .int .u64 120] 24)) w2.heap.size 0 120 := Blk2.new _ _ _
  have ln2 := kn2.lt; have cn2 := kn2.c0; have dn2 := kn2.c1
  go_region_held3 (fun w' => w'.cell? ⟨w1.heap.size, 0, none⟩ = some (.int .u64 0) ∧ w'.cell? ⟨w1.heap.size, 1, none⟩ = some (.int .u64 750) ∧ w'.cell? ⟨w1.heap.size, 2, none⟩ = some (.int .u64 0) ∧ w'.cell? ⟨w1.heap.size, 3, none⟩ = some (.int .u64 1) ∧ w'.cell? ⟨w2.heap.size, 0, none⟩ = some (.int .u64 0) ∧ w'.cell? ⟨w2.heap.size, 1, none⟩ = some (.int .u64 120)) (first | exact ⟨by assumption, by assumption, by assumption, by assumption, by assumption, by assumption⟩ | go_keep) (first
    | (go_at_call 24; refine (of_below _ _).mono ?_; rintro e wx ⟨rfl, hbx⟩; have xf : Blk4 wx (w1.heap.size) 0 750 0 1 := (by refine Blk4.keep ?_ hbx; repeat' (first | (with_reducible assumption) | ((with_reducible refine Blk2.new_at _ _ ?_); (simp; done)) | ((with_reducible refine Blk4.new_at _ _ ?_); (simp; done)) | (with_reducible refine Blk2.drew ?_) | (with_reducible refine Blk2.drewN ?_) | (with_reducible refine Blk2.alloc ?_ _) | (with_reducible refine Blk4.drew ?_) | (with_reducible refine Blk4.drewN ?_) | (with_reducible refine Blk4.alloc ?_ _))); have xn : Blk2 wx (w2.heap.size) 0 120 := (by refine Blk2.keep ?_ hbx; repeat' (first | (with_reducible assumption) | ((with_reducible refine Blk2.new_at _ _ ?_); (simp; done)) | ((with_reducible refine Blk4.new_at _ _ ?_); (simp; done)) | (with_reducible refine Blk2.drew ?_) | (with_reducible refine Blk2.drewN ?_) | (with_reducible refine Blk2.alloc ?_ _) | (with_reducible refine Blk4.drew ?_) | (with_reducible refine Blk4.drewN ?_) | (with_reducible refine Blk4.alloc ?_ _))); have xf0 := xf.c0; have xf1 := xf.c1; have xf2 := xf.c2; have xf3 := xf.c3; have xf9 := xf.lt; have xn0 := xn.c0; have xn1 := xn.c1; have xn9 := xn.lt; have xB : Below w.heap.size w wx := (by refine below_of ?_ hbx; go_grown); have xz := xB.size; clear hbx)
    | (go_at_call 29; refine (bg_text _ (tabs_stays HT.out (by go_grown))).mono ?_; rintro e wx ⟨rfl, hbx⟩; have xf : Blk4 wx (w1.heap.size) 0 750 0 1 := (by refine Blk4.keep ?_ hbx; repeat' (first | (with_reducible assumption) | ((with_reducible refine Blk2.new_at _ _ ?_); (simp; done)) | ((with_reducible refine Blk4.new_at _ _ ?_); (simp; done)) | (with_reducible refine Blk2.drew ?_) | (with_reducible refine Blk2.drewN ?_) | (with_reducible refine Blk2.alloc ?_ _) | (with_reducible refine Blk4.drew ?_) | (with_reducible refine Blk4.drewN ?_) | (with_reducible refine Blk4.alloc ?_ _))); have xn : Blk2 wx (w2.heap.size) 0 120 := (by refine Blk2.keep ?_ hbx; repeat' (first | (with_reducible assumption) | ((with_reducible refine Blk2.new_at _ _ ?_); (simp; done)) | ((with_reducible refine Blk4.new_at _ _ ?_); (simp; done)) | (with_reducible refine Blk2.drew ?_) | (with_reducible refine Blk2.drewN ?_) | (with_reducible refine Blk2.alloc ?_ _) | (with_reducible refine Blk4.drew ?_) | (with_reducible refine Blk4.drewN ?_) | (with_reducible refine Blk4.alloc ?_ _))); have xf0 := xf.c0; have xf1 := xf.c1; have xf2 := xf.c2; have xf3 := xf.c3; have xf9 := xf.lt; have xn0 := xn.c0; have xn1 := xn.c1; have xn9 := xn.lt; have xB : Below w.heap.size w wx := (by refine below_of ?_ hbx; go_grown); have xz := xB.size; clear hbx))
  go_wp2_with fail
  go_ret
  exact ⟨rfl, xB⟩
end Go.Proofs.YtklmllkpedailaaDoor
