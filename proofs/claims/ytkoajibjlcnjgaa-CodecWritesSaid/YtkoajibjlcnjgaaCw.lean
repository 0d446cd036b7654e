/-
  THE LAW plimsolllaw03.CodecWrites: the walk: it answers true, of any acts.
-/
import Derived.Test.YtkoajibjlcnjgaaRg
import Derived.Test.YtkoajibjlcnjgaaCb
import Derived.LoopTactic
namespace Go.Proofs.Ytkoajibjlcnjgaa
open Go Go.RowKit

set_option maxRecDepth 100000 in
theorem wfixed_no (P : Nat) (m : Int) (h : m < 1 ∨ 8 < m) (n : Int) (w : World) :
    Calls Try.prog 15 #[.pointer (some ⟨P, 0, none⟩), .int .i64 m, .int .u64 n] w fun e w' => e = .returned (.tuple #[]) ∧ w = w' := by
  have hb : (decide (1 ≤ m) && decide (m ≤ 8)) = false := by
    rcases h with h | h
    · simp; omega
    · simp; omega
  go_enter Try.func15, Try.ntmps15
  go_wp2_with fail
  refine (iw_any m _).mono ?_
  rintro e w1 ⟨rfl, rfl⟩
  rw [hb]
  go_wp2_with fail
  go_returns
  exact ⟨rfl, rfl⟩

theorem wfixed_z {P : Nat} {own : Nat → Prop} {l : List UInt8} {n m : Nat} {z : Int} (hz : z = (m : Int)) (hl : l.length + 10 ≤ 140737488355328) (hn : n < 18446744073709551616) (h1m : 1 ≤ m) (hm8 : m ≤ 8) {w : World} (h : Wr w P own l) (hnew : ∀ k, w.heap.size ≤ k → own k) :
    Calls Try.prog 15 #[.pointer (some ⟨P, 0, none⟩), .int .i64 z, .int .u64 n] w fun e w' => e = .returned (.tuple #[]) ∧ Wr w' P own (l ++ fxF m n) ∧ Step own w w' := by
  subst hz
  exact wfixed_any hl hn h1m hm8 h hnew
theorem reffixed_z {m n : Nat} {z : Int} (hz : z = (m : Int)) (h1 : 1 ≤ m) (h8 : m ≤ 8) (hn : n < 18446744073709551616) (w : World) :
    Calls Try.prog 16 #[.int .i64 z, .int .u64 n] w fun e w' => e = .returned (.string (bs (fxF m n))) ∧ Below w.heap.size w w' := by
  subst hz
  exact reffixed m n h1 h8 hn w

/-- What an act writes. -/
def outA (a : ActV) : List UInt8 :=
  if a.kind = 0 then ub a.n else if a.kind = 1 then ub (zz (wrap64 a.n)) else if a.kind = 2 then (if 1 ≤ a.width ∧ a.width ≤ 8 then fxF a.width.toNat a.n else [])
  else if a.kind = 3 then ub a.text.length ++ a.text else if a.kind = 4 then a.text else []
def outs : List ActV → List UInt8
  | [] => []
  | a :: l => outA a ++ outs l
theorem outs_append (l m : List ActV) : outs (l ++ m) = outs l ++ outs m := by
  induction l with
  | nil => rfl
  | cons a l ih => simp only [List.cons_append, outs, ih, List.append_assoc]
theorem outs_take (l : List ActV) (k : Nat) (h : k < l.length) : outs (l.take (k + 1)) = outs (l.take k) ++ outA l[k] := by
  rw [List.take_succ_eq_append_getElem h, outs_append]
  simp [outs]
theorem outA_len (a : ActV) (h : a.text.length ≤ 2000) : (outA a).length ≤ 2010 := by
  have h1 := (ub_len a.n).2
  have h2 := (ub_len (zz (wrap64 a.n))).2
  have h3 := (ub_len a.text.length).2
  unfold outA
  split
  · omega
  split
  · omega
  split
  · split
    · rw [fxF_len]; omega
    · simp
  split
  · rw [List.length_append]; omega
  split
  · omega
  · simp
theorem outs_len (l : List ActV) (h : ∀ (i : Nat) (hi : i < l.length), l[i].text.length ≤ 2000) : (outs l).length ≤ 2010 * l.length := by
  induction l with
  | nil => exact Nat.le_refl _
  | cons a l ih =>
    have h1 := outA_len a (h 0 (by simp))
    have h2 := ih (fun i hi => h (i + 1) (by simpa using hi))
    simp only [outs, List.length_append, List.length_cons]
    omega
structure OInv (w wr : World) (P k : Nat) (l : List ActV) : Prop where
  le : k ≤ l.length
  short : ∀ (j : Nat) (h : j < l.length), j < k → l[j].text.length ≤ 2000
  has : Wr wr P (from_ w.heap.size) (outs (l.take k))
  step : Step (from_ w.heap.size) w wr
theorem OInv.len {w wr : World} {P k : Nat} {l : List ActV} (h : OInv w wr P k l) (hl : l.length ≤ 100) : (outs (l.take k)).length ≤ 201000 := by
  have := outs_len (l.take k) (fun i hi => by
    simp only [List.getElem_take]
    have hk := h.le
    rw [List.length_take] at hi
    exact h.short i (by omega) (by omega))
  have h2 : (l.take k).length ≤ 100 := by rw [List.length_take]; omega
  omega

set_option maxHeartbeats 8000000 in
set_option maxRecDepth 100000 in
theorem cw_long (ao : Option Addr) (cap : Nat) (l : List ActV) (hl : 100 < l.length) (hm : l.length ≤ maxLen) (w : World) :
    Calls Try.prog 3 #[.slice ao l.length cap] w fun e w' => e = .returned (.bool true) ∧ Below w.heap.size w w' := by
  unfold maxLen at hm
  go_enter Try.func3, Try.ntmps3
  go_wp2_with (go_at_call 10; refine (lives3_any _).mono ?_; rintro e w1 ⟨rfl, hb⟩)
  go_ret
  exact ⟨rfl, hb⟩

set_option maxHeartbeats 8000000 in
set_option maxRecDepth 100000 in
theorem cw_in (ao : Option Addr) (b off cap : Nat) (l : List ActV) (hl : l.length ≤ 100) (w : World) (h : ActsAt w ao b off l) :
    Calls Try.prog 3 #[.slice ao l.length cap] w fun e w' => e = .returned (.bool true) ∧ Below w.heap.size w w' := by
  have HA := Lib.hid h
  clear h
  have hl' : (l.length : Int) ≤ 100 := by omega
  go_enter Try.func3, Try.ntmps3
  go_wp2_with (go_at_call 10; refine (lives3_any _).mono ?_; rintro e w1 ⟨rfl, hb⟩)
  have hI : OInv w (w1.alloc (.cells #[.pointer none, .int .i64 0] 26)) w1.heap.size 0 l :=
    ⟨Nat.zero_le _, fun j h h0 => by omega, (Wr.made w1).shrink (fun k h _ => by rw [h]; exact hb.size), (Step.of_below hb).alloc _⟩
  have HI := Lib.hid hI
  clear hI hb
  generalize (w1.alloc (.cells #[.pointer none, .int .i64 0] 26)) = w2 at *
  generalize w1.heap.size = P at *
  go_loopw [4, 14] (fun v i wr => ∃ k : Nat, OInv w wr P k l ∧ v = .string (bs (outs (l.take k))) ∧ i = .int .i64 k) (fun _ i _ => l.length - (intOf i).toNat)
  case atStart => exact ⟨0, HI.out, rfl, rfl⟩
  case round =>
    obtain ⟨k, hI, rfl, rfl⟩ := hrel
    clear HI
    have HI := Lib.hid hI
    have hk := hI.le
    have hXl := hI.len hl
    clear hI
    by_cases hlt : k < l.length
    · obtain ⟨rfl, hbw⟩ := HA.out.at_ (by omega)
      obtain ⟨c0, c1, c2, c3⟩ := HA.out.cell k hlt
      have hB := HI.out.step.toBelow
      have d0 := (hB.cell (p := ⟨b, off + k * 4, none⟩) hbw).trans c0
      have d1 := (hB.cell (p := ⟨b, off + k * 4 + 1, none⟩) hbw).trans c1
      have d2 := (hB.cell (p := ⟨b, off + k * 4 + 2, none⟩) hbw).trans c2
      have d3 := (hB.cell (p := ⟨b, off + k * 4 + 3, none⟩) hbw).trans c3
      have hz := bs_size l[k].text
      clear c0 c1 c2 c3 hB
      obtain ⟨hf1, hf2, hk1, hk2, hw1, hw2⟩ := HA.out.fits k hlt
      have hot := outs_take l k hlt
      generalize hak : l[k] = a at d0 d1 d2 d3 hz hf1 hf2 hk1 hk2 hw1 hw2 hot
      have HK := Lib.hid hak
      have HOT := Lib.hid hot
      clear hak hot
      obtain ⟨X, hX⟩ : ∃ X, X = outs (l.take k) := ⟨_, rfl⟩
      have hW0 := HI.out.has
      rw [← hX] at hXl hW0
      rw [← hX]
      have HX := Lib.hid hX
      have HXL := Lib.hid hXl
      have HWr := Lib.hid hW0
      clear hX hW0
      by_cases h2 : 2000 < a.text.length
      · go_wp2_with fail
        go_ret
        exact ⟨rfl, (HI.out.step.alloc _).toBelow⟩
      · have HT : Hid (a.text.length ≤ 2000) := by show _ ≤ _; omega
        have HN : Hid (a.n < 18446744073709551616) := hf1
        have HOL := Lib.hid (outA_len a HT.out)
        have hWB := wrap64_bd a.n
        have HWB := Lib.hid hWB
        have hzX := bs_size X
        have HW := Lib.hid (show _ ∧ _ from ⟨hw1, hw2⟩)
        clear hf1 hf2 hWB hw1 hw2
        have hA : ActBlk (wr.alloc (.cells #[.int .i64 a.kind, .int .u64 a.n, .int .i64 a.width, .string (bs a.text)] 29)) wr.heap.size a := ⟨alloc_blk _ _⟩
        have hW0 : Wr (wr.alloc (.cells #[.int .i64 a.kind, .int .u64 a.n, .int .i64 a.width, .string (bs a.text)] 29)) P (fromBut w.heap.size wr.heap.size) X :=
          (HWr.out.shrink (own2 := fromBut w.heap.size wr.heap.size) (fun k h1 h2 => ⟨h1, by omega⟩)).step (S := fun _ => False) ((Step.refl _ _).alloc _) (fun _ _ _ h => h)
        have hS0 : Step (from_ w.heap.size) w (wr.alloc (.cells #[.int .i64 a.kind, .int .u64 a.n, .int .i64 a.width, .string (bs a.text)] 29)) := HI.out.step.alloc _
        have hBA : w.heap.size ≤ wr.heap.size := HI.out.step.size
        have HN0 : Hid (∀ k, (wr.alloc (.cells #[.int .i64 a.kind, .int .u64 a.n, .int .i64 a.width, .string (bs a.text)] 29)).heap.size ≤ k → fromBut w.heap.size wr.heap.size k) := fun k hk => by
          have e : (wr.alloc (.cells #[.int .i64 a.kind, .int .u64 a.n, .int .i64 a.width, .string (bs a.text)] 29)).heap.size = wr.heap.size + 1 := by simp
          rw [e] at hk
          exact ⟨by omega, by omega⟩
        have HAB := Lib.hid hA
        have HW0 := Lib.hid hW0
        have HS0 := Lib.hid hS0
        have HSH : Hid (∀ (j : Nat) (h : j < l.length), j < k + 1 → l[j].text.length ≤ 2000) := by
          intro j hj hjk
          rcases Nat.lt_or_ge j k with h | h
          · exact HI.out.short j hj h
          · have e : j = k := by omega
            subst e
            rw [HK.out]; exact HT.out
        clear hA hW0 hS0 hBA HWr HI
        by_cases h0 : a.kind = 0
        · have t0 : (a.kind == 0) = true := by simp; exact h0
          have HOA : Hid (outA a = ub a.n) := Lib.hid (by unfold outA; rw [if_pos h0])
          clear h0
          go_wp2_with fail
          generalize hv0 : (wr.alloc (.cells #[.int .i64 a.kind, .int .u64 a.n, .int .i64 a.width, .string (bs a.text)] 29)) = v0 at *
          clear hv0
          generalize wr.heap.size = A at *
          refine (wuint_any (n := a.n) (by have := HXL.out; omega) HN.out HW0.out HN0.out).mono ?_
          rintro e v1 ⟨rfl, hw, hs⟩
          have HAB1 : Hid (ActBlk v1 A a) := HAB.out.step hs (fromBut_not _ _)
          have HW1 := Lib.hid hw
          have HS1 : Hid (Step (from_ w.heap.size) w v1) := HS0.out.trans (hs.mono (fun _ h => h.1))
          have e1 := HAB1.out.c1
          have e2 := HAB1.out.c2
          have e3 := HAB1.out.c3
          clear hw hs HAB HW0 HN0 HS0
          go_wp2_with fail
          refine (refu_z (n := a.n) (by first | rfl | omega) HN.out _).mono ?_
          rintro e v2 ⟨rfl, hb2⟩
          have HW2 : Hid (Wr v2 P (fromBut w.heap.size A) (X ++ (ub a.n))) := HW1.out.step (S := fun _ => False) (Step.of_below hb2) (fun _ _ _ h => h)
          have HS2 : Hid (Step (from_ w.heap.size) w v2) := HS1.out.trans (Step.of_below hb2)
          have hap := bs_append X (ub a.n)
          have hzo := bs_size (ub a.n)
          have hol : (ub a.n).length ≤ 2010 := by rw [← HOA.out]; exact HOL.out
          clear hb2 HW1 HS1 e1 e2 e3
          go_wp2_with fail
          go_roundw
          case rel =>
            refine ⟨k + 1, ⟨by omega, HSH.out, ?_, HS2.out⟩, ?_, by go_num⟩
            · rw [HOT.out, ← HX.out, HOA.out]; exact HW2.out.shrink (fun k h _ => h.1)
            · rw [HOT.out, ← HX.out, HOA.out]
          case measure => simp [intOf]; omega
        · skip
          by_cases h1 : a.kind = 1
          · have t0 : (a.kind == 0) = false := by simp; omega
            have t1 : (a.kind == 1) = true := by simp; exact h1
            have HOA : Hid (outA a = ub (zz (wrap64 a.n))) := Lib.hid (by unfold outA; rw [if_neg h0, if_pos h1])
            clear h1
            go_wp2_with fail
            generalize hv0 : (wr.alloc (.cells #[.int .i64 a.kind, .int .u64 a.n, .int .i64 a.width, .string (bs a.text)] 29)) = v0 at *
            clear hv0
            generalize wr.heap.size = A at *
            refine (wint_any (n := wrap64 a.n) (by have := HXL.out; omega) HWB.out.1 HWB.out.2 HW0.out HN0.out).mono ?_
            rintro e v1 ⟨rfl, hw, hs⟩
            have HAB1 : Hid (ActBlk v1 A a) := HAB.out.step hs (fromBut_not _ _)
            have HW1 := Lib.hid hw
            have HS1 : Hid (Step (from_ w.heap.size) w v1) := HS0.out.trans (hs.mono (fun _ h => h.1))
            have e1 := HAB1.out.c1
            have e2 := HAB1.out.c2
            have e3 := HAB1.out.c3
            clear hw hs HAB HW0 HN0 HS0
            go_wp2_with fail
            refine (refint (wrap64 a.n) HWB.out.1 HWB.out.2 _).mono ?_
            rintro e v2 ⟨rfl, hb2⟩
            have HW2 : Hid (Wr v2 P (fromBut w.heap.size A) (X ++ (ub (zz (wrap64 a.n))))) := HW1.out.step (S := fun _ => False) (Step.of_below hb2) (fun _ _ _ h => h)
            have HS2 : Hid (Step (from_ w.heap.size) w v2) := HS1.out.trans (Step.of_below hb2)
            have hap := bs_append X (ub (zz (wrap64 a.n)))
            have hzo := bs_size (ub (zz (wrap64 a.n)))
            have hol : (ub (zz (wrap64 a.n))).length ≤ 2010 := by rw [← HOA.out]; exact HOL.out
            clear hb2 HW1 HS1 e1 e2 e3
            go_wp2_with fail
            go_roundw
            case rel =>
              refine ⟨k + 1, ⟨by omega, HSH.out, ?_, HS2.out⟩, ?_, by go_num⟩
              · rw [HOT.out, ← HX.out, HOA.out]; exact HW2.out.shrink (fun k h _ => h.1)
              · rw [HOT.out, ← HX.out, HOA.out]
            case measure => simp [intOf]; omega
          · skip
            by_cases h2k : a.kind = 2
            · have t0 : (a.kind == 0) = false := by simp; omega
              have t1 : (a.kind == 1) = false := by simp; omega
              have t2 : (a.kind == 2) = true := by simp; exact h2k
              by_cases hwd : 1 ≤ a.width ∧ a.width ≤ 8
              · obtain ⟨m, hm⟩ : ∃ m : Nat, a.width = (m : Int) := ⟨a.width.toNat, by omega⟩
                have hm1 : 1 ≤ m := by omega
                have hm8 : m ≤ 8 := by omega
                have HOA : Hid (outA a = fxF m a.n) := Lib.hid (by unfold outA; rw [if_neg h0, if_neg h1, if_pos h2k, if_pos hwd, hm]; rfl)
                have HM := Lib.hid hm
                clear hm h2k hwd
                go_wp2_with fail
                generalize hv0 : (wr.alloc (.cells #[.int .i64 a.kind, .int .u64 a.n, .int .i64 a.width, .string (bs a.text)] 29)) = v0 at *
                clear hv0
                generalize wr.heap.size = A at *
                refine (wfixed_z (m := m) (n := a.n) HM.out (by have := HXL.out; omega) HN.out hm1 hm8 HW0.out HN0.out).mono ?_
                rintro e v1 ⟨rfl, hw, hs⟩
                have HAB1 : Hid (ActBlk v1 A a) := HAB.out.step hs (fromBut_not _ _)
                have HW1 := Lib.hid hw
                have HS1 : Hid (Step (from_ w.heap.size) w v1) := HS0.out.trans (hs.mono (fun _ h => h.1))
                have e1 := HAB1.out.c1
                have e2 := HAB1.out.c2
                have e3 := HAB1.out.c3
                clear hw hs HAB HW0 HN0 HS0
                go_wp2_with fail
                refine (reffixed_z HM.out hm1 hm8 HN.out _).mono ?_
                rintro e v2 ⟨rfl, hb2⟩
                have HW2 : Hid (Wr v2 P (fromBut w.heap.size A) (X ++ (fxF m a.n))) := HW1.out.step (S := fun _ => False) (Step.of_below hb2) (fun _ _ _ h => h)
                have HS2 : Hid (Step (from_ w.heap.size) w v2) := HS1.out.trans (Step.of_below hb2)
                have hap := bs_append X (fxF m a.n)
                have hzo := bs_size (fxF m a.n)
                have hol : (fxF m a.n).length ≤ 2010 := by rw [← HOA.out]; exact HOL.out
                clear hb2 HW1 HS1 e1 e2 e3
                go_wp2_with fail
                go_roundw
                case rel =>
                  refine ⟨k + 1, ⟨by omega, HSH.out, ?_, HS2.out⟩, ?_, by go_num⟩
                  · rw [HOT.out, ← HX.out, HOA.out]; exact HW2.out.shrink (fun k h _ => h.1)
                  · rw [HOT.out, ← HX.out, HOA.out]
                case measure => simp [intOf]; omega
              · have hwn : a.width < 1 ∨ 8 < a.width := by omega
                have HWN := Lib.hid hwn
                have HOA : Hid (outA a = []) := Lib.hid (by unfold outA; rw [if_neg h0, if_neg h1, if_pos h2k, if_neg hwd])
                clear hwn hwd h2k
                go_wp2_with fail
                generalize hv0 : (wr.alloc (.cells #[.int .i64 a.kind, .int .u64 a.n, .int .i64 a.width, .string (bs a.text)] 29)) = v0 at *
                clear hv0
                generalize wr.heap.size = A at *
                refine (wfixed_no P a.width HWN.out _ _).mono ?_
                rintro e v1 ⟨rfl, rfl⟩
                have e1 := HAB.out.c1
                have e2 := HAB.out.c2
                go_wp2_with fail
                refine (reffixed_no a.width HWN.out a.n _).mono ?_
                rintro e v2 ⟨rfl, rfl⟩
                have hap := bs_append X []
                have hzo := bs_size []
                have hoz : ([] : List UInt8).length = 0 := rfl
                rw [List.append_nil] at hap
                have HW1 : Hid (Wr v0 P (fromBut w.heap.size A) (X ++ [])) := by rw [List.append_nil]; exact HW0.out
                have HS1 := HS0
                go_wp2_with fail
                go_roundw
                case rel =>
                  refine ⟨k + 1, ⟨by omega, HSH.out, ?_, HS1.out⟩, ?_, by go_num⟩
                  · rw [HOT.out, ← HX.out, HOA.out]; exact HW1.out.shrink (fun k h _ => h.1)
                  · rw [HOT.out, ← HX.out, HOA.out]; simp
                case measure => simp [intOf]; omega
            · skip
              by_cases h3 : a.kind = 3
              · have t0 : (a.kind == 0) = false := by simp; omega
                have t1 : (a.kind == 1) = false := by simp; omega
                have t2 : (a.kind == 2) = false := by simp; omega
                have t3 : (a.kind == 3) = true := by simp; exact h3
                have HOA : Hid (outA a = ub a.text.length ++ a.text) := Lib.hid (by unfold outA; rw [if_neg h0, if_neg h1, if_neg h2k, if_pos h3])
                clear h3
                go_wp2_with fail
                generalize hv0 : (wr.alloc (.cells #[.int .i64 a.kind, .int .u64 a.n, .int .i64 a.width, .string (bs a.text)] 29)) = v0 at *
                clear hv0
                generalize wr.heap.size = A at *
                refine (wtext_any a.text (by have := HXL.out; have := HT.out; omega) HW0.out HN0.out).mono ?_
                rintro e v1 ⟨rfl, hw, hs⟩
                have HAB1 : Hid (ActBlk v1 A a) := HAB.out.step hs (fromBut_not _ _)
                have HW1 := Lib.hid hw
                have HS1 : Hid (Step (from_ w.heap.size) w v1) := HS0.out.trans (hs.mono (fun _ h => h.1))
                have e1 := HAB1.out.c1
                have e2 := HAB1.out.c2
                have e3 := HAB1.out.c3
                clear hw hs HAB HW0 HN0 HS0
                go_wp2_with fail
                refine (reftext a.text HT.out _).mono ?_
                rintro e v2 ⟨rfl, hb2⟩
                have HW2 : Hid (Wr v2 P (fromBut w.heap.size A) (X ++ (ub a.text.length ++ a.text))) := HW1.out.step (S := fun _ => False) (Step.of_below hb2) (fun _ _ _ h => h)
                have HS2 : Hid (Step (from_ w.heap.size) w v2) := HS1.out.trans (Step.of_below hb2)
                have hap := bs_append X (ub a.text.length ++ a.text)
                have hzo := bs_size (ub a.text.length ++ a.text)
                have hol : (ub a.text.length ++ a.text).length ≤ 2010 := by rw [← HOA.out]; exact HOL.out
                clear hb2 HW1 HS1 e1 e2 e3
                go_wp2_with fail
                go_roundw
                case rel =>
                  refine ⟨k + 1, ⟨by omega, HSH.out, ?_, HS2.out⟩, ?_, by go_num⟩
                  · rw [HOT.out, ← HX.out, HOA.out]; exact HW2.out.shrink (fun k h _ => h.1)
                  · rw [HOT.out, ← HX.out, HOA.out]
                case measure => simp [intOf]; omega
              · skip
                by_cases h4 : a.kind = 4
                · have t0 : (a.kind == 0) = false := by simp; omega
                  have t1 : (a.kind == 1) = false := by simp; omega
                  have t2 : (a.kind == 2) = false := by simp; omega
                  have t3 : (a.kind == 3) = false := by simp; omega
                  have t4 : (a.kind == 4) = true := by simp; exact h4
                  have HOA : Hid (outA a = a.text) := Lib.hid (by unfold outA; rw [if_neg h0, if_neg h1, if_neg h2k, if_neg h3, if_pos h4])
                  clear h4
                  go_wp2_with fail
                  generalize hv0 : (wr.alloc (.cells #[.int .i64 a.kind, .int .u64 a.n, .int .i64 a.width, .string (bs a.text)] 29)) = v0 at *
                  clear hv0
                  generalize wr.heap.size = A at *
                  refine (wraw_any a.text (by have := HXL.out; have := HT.out; omega) HW0.out HN0.out).mono ?_
                  rintro e v1 ⟨rfl, hw, hs⟩
                  have HAB1 : Hid (ActBlk v1 A a) := HAB.out.step hs (fromBut_not _ _)
                  have HW1 := Lib.hid hw
                  have HS1 : Hid (Step (from_ w.heap.size) w v1) := HS0.out.trans (hs.mono (fun _ h => h.1))
                  have e1 := HAB1.out.c1
                  have e2 := HAB1.out.c2
                  have e3 := HAB1.out.c3
                  clear hw hs HAB HW0 HN0 HS0
                  have hap := bs_append X (a.text)
                  go_wp2_with fail
                  go_roundw
                  case rel =>
                    refine ⟨k + 1, ⟨by omega, HSH.out, ?_, HS1.out⟩, ?_, by go_num⟩
                    · rw [HOT.out, ← HX.out, HOA.out]; exact HW1.out.shrink (fun k h _ => h.1)
                    · rw [HOT.out, ← HX.out, HOA.out]
                  case measure => simp [intOf]; omega
                · have t0 : (a.kind == 0) = false := by simp; omega
                  have t1 : (a.kind == 1) = false := by simp; omega
                  have t2 : (a.kind == 2) = false := by simp; omega
                  have t3 : (a.kind == 3) = false := by simp; omega
                  have t4 : (a.kind == 4) = false := by simp; omega
                  have HOA : Hid (outA a = []) := Lib.hid (by unfold outA; rw [if_neg h0, if_neg h1, if_neg h2k, if_neg h3, if_neg h4])
                  have hW1 := HW0.out
                  rw [← List.append_nil X] at hW1
                  have HW1 := Lib.hid hW1
                  have HS1 := HS0
                  go_wp2_with fail
                  go_roundw
                  case rel =>
                    refine ⟨k + 1, ⟨by omega, HSH.out, ?_, HS1.out⟩, ?_, by go_num⟩
                    · rw [HOT.out, ← HX.out, HOA.out]; exact HW1.out.shrink (fun k h _ => h.1)
                    · rw [HOT.out, ← HX.out, HOA.out]; simp
                  case measure => simp [intOf]; omega
    · obtain rfl : k = l.length := by omega
      have hW := HI.out.has
      rw [List.take_length] at hXl hW
      rw [List.take_length]
      have HW := Lib.hid hW
      have HS := Lib.hid HI.out.step
      have HXL := Lib.hid hXl
      clear hW HI
      go_wp2_with fail
      refine (out_any (by have := HXL.out; omega) HW.out).mono ?_
      rintro e v1 ⟨rfl, hd⟩
      have HS1 : Hid (Step (from_ w.heap.size) w v1) := HS.out.trans hd.step
      clear hd HW HS
      go_wp2_with fail
      go_ret
      exact ⟨rfl, HS1.out.toBelow⟩
theorem cw_any (ao : Option Addr) (b off cap : Nat) (l : List ActV) (hm : l.length ≤ maxLen) (w : World) (h : ActsAt w ao b off l) :
    Calls Try.prog 3 #[.slice ao l.length cap] w fun e w' => e = .returned (.bool true) ∧ Below w.heap.size w w' := by
  by_cases hl : 100 < l.length
  · exact cw_long ao cap l hl hm w
  · exact cw_in ao b off cap l (by omega) w h
end Go.Proofs.Ytkoajibjlcnjgaa
