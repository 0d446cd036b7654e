/-
  THE LAW plimsolllaw03.CodecOne: the walk: it answers true, of any two strings.
-/
import Derived.Test.YtkoajibjlcnjgaaLv3
namespace Go.Proofs.Ytkoajibjlcnjgaa
open Go Go.RowKit

theorem bs_append (l m : List UInt8) : bs l ++ bs m = bs (l ++ m) := by
  apply ByteArray.ext
  simp [bs]

set_option maxHeartbeats 4000000 in
set_option maxRecDepth 100000 in
theorem one_long (l m : List UInt8) (hl : 4096 < l.length ∨ 4096 < m.length) (w : World) :
    Calls Try.prog 6 #[.string (bs l), .string (bs m)] w fun e w' => e = .returned (.bool true) ∧ Below w.heap.size w w' := by
  have hz := bs_size l
  have hy := bs_size m
  by_cases h1 : 4096 < l.length
  · go_enter Try.func6, Try.ntmps6
    go_wp2_with (go_at_call 10; refine (lives3_any _).mono ?_; rintro e w1 ⟨rfl, hb⟩)
    go_ret
    exact ⟨rfl, hb⟩
  · have h2 : 4096 < m.length := by omega
    go_enter Try.func6, Try.ntmps6
    go_wp2_with (go_at_call 10; refine (lives3_any _).mono ?_; rintro e w1 ⟨rfl, hb⟩)
    go_ret
    exact ⟨rfl, hb⟩

set_option maxHeartbeats 4000000 in
set_option maxRecDepth 100000 in
theorem one_none (l m : List UInt8)  (h1 : l.length ≤ 4096) (h2 : m.length ≤ 4096) (hr : rd 0 0 l = none) (hr2 : rd 0 0 (l ++ m) = none) (w : World) :
    Calls Try.prog 6 #[.string (bs l), .string (bs m)] w fun e w' => e = .returned (.bool true) ∧ Below w.heap.size w w' := by
  have hz := bs_size l
  have hy := bs_size m
  have ha := bs_append l m
  have hl47 : Hid (l.length ≤ 140737488355328) := by show _ ≤ _; omega
  have hm47 : Hid ((l ++ m).length ≤ 140737488355328) := by rw [List.length_append]; show _ ≤ _; omega
  have HN := Lib.hid hr
  have HN2 := Lib.hid hr2
  clear hr hr2
  go_enter Try.func6, Try.ntmps6
  go_wp2_with (go_at_call 10; refine (lives3_any _).mono ?_; rintro e w1 ⟨rfl, hb⟩)
  refine (ropen_any l _).mono ?_
  rintro e w2 ⟨rfl, rfl⟩
  have hr0 := Rd.new w1 l
  have hs0 : Step (from_ w.heap.size) w (w1.alloc (.cells #[.string (bs l), .bool false] 72)) := (Step.of_below hb).alloc _
  have hq1 : w.heap.size ≤ w1.heap.size := hb.size
  have HR := Lib.hid hr0
  have HS := Lib.hid hs0
  have HQ1 := Lib.hid hq1
  clear hr0 hs0 hq1 hb
  generalize (w1.alloc (.cells #[.string (bs l), .bool false] 72)) = w2 at *
  generalize w1.heap.size = R1 at *
  go_wp2_with fail
  refine (ropen_any (l ++ m) _).mono ?_
  rintro e w3 ⟨rfl, rfl⟩
  have hne : R1 ≠ w2.heap.size := Nat.ne_of_lt HR.out.lt
  have hq2 : w.heap.size ≤ w2.heap.size := HS.out.size
  have HN12 := Lib.hid hne
  have HQ2 := Lib.hid hq2
  have HT := Lib.hid (Rd.new w2 (l ++ m))
  have HR3 : Hid (Rd (w2.alloc (.cells #[.string (bs (l ++ m)), .bool false] 72)) R1 l false) := HR.out.step (S := fun _ => False) ((Step.refl _ _).alloc _) (fun h => h)
  have HS3 : Hid (Step (from_ w.heap.size) w (w2.alloc (.cells #[.string (bs (l ++ m)), .bool false] 72))) := HS.out.alloc _
  clear hne hq2 HR HS
  generalize (w2.alloc (.cells #[.string (bs (l ++ m)), .bool false] 72)) = w3 at *
  generalize w2.heap.size = R2 at *
  go_wp2_with fail
  refine (ruint_none HN.out hl47.out _ HR3.out).mono ?_
  rintro e w4 ⟨rfl, hr, hs⟩
  have HR4 := Lib.hid hr
  have HT4 : Hid (Rd w4 R2 (l ++ m) false) := HT.out.step hs (fun h => HN12.out h.symm)
  have HS4 : Hid (Step (from_ w.heap.size) w w4) := HS3.out.trans (hs.mono (fun k hk => by rw [hk]; exact HQ1.out))
  clear hr hs HR3 HT HS3
  go_wp2_with fail
  refine (ruint_none HN2.out hm47.out _ HT4.out).mono ?_
  rintro e w5 ⟨rfl, _, hs⟩
  have HR5 : Hid (Rd w5 R1 [] true) := HR4.out.step hs HN12.out
  have HS5 : Hid (Step (from_ w.heap.size) w w5) := HS4.out.trans (hs.mono (fun k hk => by rw [hk]; exact HQ2.out))
  clear hs HR4 HT4 HS4
  go_wp2_with (first | (go_at_call 23; refine (bad_any R1 [] true _ HR5.out).mono ?_; rintro e w' ⟨rfl, rfl⟩) | (go_at_call 24; refine (left_bad R1 [] _ HR5.out).mono ?_; rintro e w' ⟨rfl, rfl⟩) | (go_at_call 25; refine (ruint_bad R1 _ HR5.out).mono ?_; rintro e w' ⟨rfl, rfl⟩))
  go_ret
  exact ⟨rfl, HS5.out.toBelow⟩

set_option maxHeartbeats 4000000 in
set_option maxRecDepth 100000 in
theorem one_none2 (l m : List UInt8) {n k : Nat} (h1 : l.length ≤ 4096) (h2 : m.length ≤ 4096) (hr : rd 0 0 l = none) (hr2 : rd 0 0 (l ++ m) = some (n, k)) (w : World) :
    Calls Try.prog 6 #[.string (bs l), .string (bs m)] w fun e w' => e = .returned (.bool true) ∧ Below w.heap.size w w' := by
  have hz := bs_size l
  have hy := bs_size m
  have ha := bs_append l m
  have hl47 : Hid (l.length ≤ 140737488355328) := by show _ ≤ _; omega
  have hm47 : Hid ((l ++ m).length ≤ 140737488355328) := by rw [List.length_append]; show _ ≤ _; omega
  have HN := Lib.hid hr
  have HN2 := Lib.hid hr2
  clear hr hr2
  go_enter Try.func6, Try.ntmps6
  go_wp2_with (go_at_call 10; refine (lives3_any _).mono ?_; rintro e w1 ⟨rfl, hb⟩)
  refine (ropen_any l _).mono ?_
  rintro e w2 ⟨rfl, rfl⟩
  have hr0 := Rd.new w1 l
  have hs0 : Step (from_ w.heap.size) w (w1.alloc (.cells #[.string (bs l), .bool false] 72)) := (Step.of_below hb).alloc _
  have hq1 : w.heap.size ≤ w1.heap.size := hb.size
  have HR := Lib.hid hr0
  have HS := Lib.hid hs0
  have HQ1 := Lib.hid hq1
  clear hr0 hs0 hq1 hb
  generalize (w1.alloc (.cells #[.string (bs l), .bool false] 72)) = w2 at *
  generalize w1.heap.size = R1 at *
  go_wp2_with fail
  refine (ropen_any (l ++ m) _).mono ?_
  rintro e w3 ⟨rfl, rfl⟩
  have hne : R1 ≠ w2.heap.size := Nat.ne_of_lt HR.out.lt
  have hq2 : w.heap.size ≤ w2.heap.size := HS.out.size
  have HN12 := Lib.hid hne
  have HQ2 := Lib.hid hq2
  have HT := Lib.hid (Rd.new w2 (l ++ m))
  have HR3 : Hid (Rd (w2.alloc (.cells #[.string (bs (l ++ m)), .bool false] 72)) R1 l false) := HR.out.step (S := fun _ => False) ((Step.refl _ _).alloc _) (fun h => h)
  have HS3 : Hid (Step (from_ w.heap.size) w (w2.alloc (.cells #[.string (bs (l ++ m)), .bool false] 72))) := HS.out.alloc _
  clear hne hq2 HR HS
  generalize (w2.alloc (.cells #[.string (bs (l ++ m)), .bool false] 72)) = w3 at *
  generalize w2.heap.size = R2 at *
  go_wp2_with fail
  refine (ruint_none HN.out hl47.out _ HR3.out).mono ?_
  rintro e w4 ⟨rfl, hr, hs⟩
  have HR4 := Lib.hid hr
  have HT4 : Hid (Rd w4 R2 (l ++ m) false) := HT.out.step hs (fun h => HN12.out h.symm)
  have HS4 : Hid (Step (from_ w.heap.size) w w4) := HS3.out.trans (hs.mono (fun k hk => by rw [hk]; exact HQ1.out))
  clear hr hs HR3 HT HS3
  go_wp2_with fail
  refine (ruint_some HN2.out hm47.out _ HT4.out).mono ?_
  rintro e w5 ⟨rfl, _, hs⟩
  have HR5 : Hid (Rd w5 R1 [] true) := HR4.out.step hs HN12.out
  have HS5 : Hid (Step (from_ w.heap.size) w w5) := HS4.out.trans (hs.mono (fun k hk => by rw [hk]; exact HQ2.out))
  clear hs HR4 HT4 HS4
  go_wp2_with (first | (go_at_call 23; refine (bad_any R1 [] true _ HR5.out).mono ?_; rintro e w' ⟨rfl, rfl⟩) | (go_at_call 24; refine (left_bad R1 [] _ HR5.out).mono ?_; rintro e w' ⟨rfl, rfl⟩) | (go_at_call 25; refine (ruint_bad R1 _ HR5.out).mono ?_; rintro e w' ⟨rfl, rfl⟩))
  go_ret
  exact ⟨rfl, HS5.out.toBelow⟩

set_option maxHeartbeats 4000000 in
set_option maxRecDepth 100000 in
theorem one_some (l m : List UInt8) {n k : Nat} (h1 : l.length ≤ 4096) (h2 : m.length ≤ 4096) (hr : rd 0 0 l = some (n, k)) (w : World) :
    Calls Try.prog 6 #[.string (bs l), .string (bs m)] w fun e w' => e = .returned (.bool true) ∧ Below w.heap.size w w' := by
  have hz := bs_size l
  have hy := bs_size m
  have ha := bs_append l m
  have hl47 : Hid (l.length ≤ 140737488355328) := by show _ ≤ _; omega
  have hm47 : Hid ((l ++ m).length ≤ 140737488355328) := by rw [List.length_append]; show _ ≤ _; omega
  have HN := Lib.hid hr
  have HN2 := Lib.hid (rd_more l 0 0 _ m hr)
  obtain ⟨e1, hn, hk0, hkl⟩ := rd_one hr
  have HE := Lib.hid e1
  have HLN := Lib.hid hn
  have hd1 : (l.drop k).length = l.length - k := List.length_drop
  have hd2 : ((l ++ m).drop k).length = l.length - k + m.length := by rw [List.length_drop, List.length_append]; omega
  clear hr e1 hn
  go_enter Try.func6, Try.ntmps6
  go_wp2_with (go_at_call 10; refine (lives3_any _).mono ?_; rintro e w1 ⟨rfl, hb⟩)
  refine (ropen_any l _).mono ?_
  rintro e w2 ⟨rfl, rfl⟩
  have hr0 := Rd.new w1 l
  have hs0 : Step (from_ w.heap.size) w (w1.alloc (.cells #[.string (bs l), .bool false] 72)) := (Step.of_below hb).alloc _
  have hq1 : w.heap.size ≤ w1.heap.size := hb.size
  have HR := Lib.hid hr0
  have HS := Lib.hid hs0
  have HQ1 := Lib.hid hq1
  clear hr0 hs0 hq1 hb
  generalize (w1.alloc (.cells #[.string (bs l), .bool false] 72)) = w2 at *
  generalize w1.heap.size = R1 at *
  go_wp2_with fail
  refine (ropen_any (l ++ m) _).mono ?_
  rintro e w3 ⟨rfl, rfl⟩
  have hne : R1 ≠ w2.heap.size := Nat.ne_of_lt HR.out.lt
  have hq2 : w.heap.size ≤ w2.heap.size := HS.out.size
  have HN12 := Lib.hid hne
  have HQ2 := Lib.hid hq2
  have HT := Lib.hid (Rd.new w2 (l ++ m))
  have HR3 : Hid (Rd (w2.alloc (.cells #[.string (bs (l ++ m)), .bool false] 72)) R1 l false) := HR.out.step (S := fun _ => False) ((Step.refl _ _).alloc _) (fun h => h)
  have HS3 : Hid (Step (from_ w.heap.size) w (w2.alloc (.cells #[.string (bs (l ++ m)), .bool false] 72))) := HS.out.alloc _
  clear hne hq2 HR HS
  generalize (w2.alloc (.cells #[.string (bs (l ++ m)), .bool false] 72)) = w3 at *
  generalize w2.heap.size = R2 at *
  go_wp2_with fail
  refine (ruint_some HN.out hl47.out _ HR3.out).mono ?_
  rintro e w4 ⟨rfl, hr, hs⟩
  have HR4 := Lib.hid hr
  have HT4 : Hid (Rd w4 R2 (l ++ m) false) := HT.out.step hs (fun h => HN12.out h.symm)
  have HS4 : Hid (Step (from_ w.heap.size) w w4) := HS3.out.trans (hs.mono (fun k hk => by rw [hk]; exact HQ1.out))
  clear hr hs HR3 HT HS3
  go_wp2_with fail
  refine (ruint_some HN2.out hm47.out _ HT4.out).mono ?_
  rintro e w5 ⟨rfl, ht, hs⟩
  have HT5 := Lib.hid ht
  have HR5 : Hid (Rd w5 R1 (l.drop k) false) := HR4.out.step hs HN12.out
  have HS5 : Hid (Step (from_ w.heap.size) w w5) := HS4.out.trans (hs.mono (fun k hk => by rw [hk]; exact HQ2.out))
  clear hs ht HR4 HT4 HS4
  go_wp2_with fail
  refine (bad_any R1 (l.drop k) false _ HR5.out).mono ?_
  rintro e w6 ⟨rfl, rfl⟩
  go_wp2_with fail
  have hw := (Wr.made w5).shrink (own2 := from_ w5.heap.size) (fun k h _ => by rw [h]; exact Nat.le_refl _)
  have HW := Lib.hid hw
  have HR6 : Hid (Rd (w5.alloc (.cells #[.pointer none, .int .i64 0] 26)) R1 (l.drop k) false) := HR5.out.step (S := fun _ => False) ((Step.refl _ _).alloc _) (fun h => h)
  have HT6 : Hid (Rd (w5.alloc (.cells #[.pointer none, .int .i64 0] 26)) R2 ((l ++ m).drop k) false) := HT5.out.step (S := fun _ => False) ((Step.refl _ _).alloc _) (fun h => h)
  have HS6 : Hid (Step (from_ w.heap.size) w (w5.alloc (.cells #[.pointer none, .int .i64 0] 26))) := HS5.out.alloc _
  have HL1 : Hid (R1 < w5.heap.size) := HR5.out.lt
  have HL2 : Hid (R2 < w5.heap.size) := HT5.out.lt
  have HZ : Hid (w5.heap.size ≤ (w5.alloc (.cells #[.pointer none, .int .i64 0] 26)).heap.size) := by show _ ≤ _; simp
  have HQ5 : Hid (w.heap.size ≤ w5.heap.size) := HS5.out.size
  clear hw HR5 HT5 HS5
  generalize (w5.alloc (.cells #[.pointer none, .int .i64 0] 26)) = w6 at *
  generalize w5.heap.size = B at *
  refine (wuint_any (by decide) HLN.out HW.out (fun k hk => Nat.le_trans HZ.out hk)).mono ?_
  rintro e w7 ⟨rfl, hw, hs⟩
  have HW7 := Lib.hid hw
  have HR7 : Hid (Rd w7 R1 (l.drop k) false) := HR6.out.step hs (Nat.not_le_of_lt HL1.out)
  have HT7 : Hid (Rd w7 R2 ((l ++ m).drop k) false) := HT6.out.step hs (Nat.not_le_of_lt HL2.out)
  have HS7 : Hid (Step (from_ w.heap.size) w w7) := HS6.out.trans (hs.mono (fun k hk => Nat.le_trans HQ5.out hk))
  clear hw hs HW HR6 HT6 HS6
  go_wp2_with fail
  refine (bad_any R2 ((l ++ m).drop k) false _ HT7.out).mono ?_
  rintro e w8 ⟨rfl, rfl⟩
  go_wp2_with fail
  refine (out_any (by have := (ub_len n).2; simp; omega) HW7.out).mono ?_
  rintro e w8 ⟨rfl, hd⟩
  have HR8 : Hid (Rd w8 R1 (l.drop k) false) := HR7.out.step (S := fun _ => False) hd.step (fun h => h)
  have HT8 : Hid (Rd w8 R2 ((l ++ m).drop k) false) := HT7.out.step (S := fun _ => False) hd.step (fun h => h)
  have HS8 : Hid (Step (from_ w.heap.size) w w8) := HS7.out.trans hd.step
  clear hd HW7 HR7 HT7 HS7
  go_wp2_with fail
  refine (left_good R1 (l.drop k) _ HR8.out).mono ?_
  rintro e w9 ⟨rfl, rfl⟩
  have t1 : (bs (ub n)).toList = ((bs l).extract 0 (l.length - (l.length - k))).toList := by
    rw [bs_take, show l.length - (l.length - k) = k by omega, HE.out]
  go_wp2_with fail
  refine (left_good R2 ((l ++ m).drop k) _ HT8.out).mono ?_
  rintro e w9 ⟨rfl, rfl⟩
  go_wp2_with fail
  refine (left_good R1 (l.drop k) _ HR8.out).mono ?_
  rintro e w9 ⟨rfl, rfl⟩
  go_wp2_with fail
  go_ret
  exact ⟨rfl, HS8.out.toBelow⟩

theorem one_any (l m : List UInt8) (w : World) :
    Calls Try.prog 6 #[.string (bs l), .string (bs m)] w fun e w' => e = .returned (.bool true) ∧ Below w.heap.size w w' := by
  by_cases h : 4096 < l.length ∨ 4096 < m.length
  · exact one_long l m h w
  · cases hr : rd 0 0 l with
    | none =>
      cases hr2 : rd 0 0 (l ++ m) with
      | none => exact one_none l m (by omega) (by omega) hr hr2 w
      | some x => exact one_none2 (n := x.1) (k := x.2) l m (by omega) (by omega) hr hr2 w
    | some x => exact one_some (n := x.1) (k := x.2) l m (by omega) (by omega) hr w
end Go.Proofs.Ytkoajibjlcnjgaa
