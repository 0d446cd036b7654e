/-
  WALKS: package window, and the document's answers for it.
-/
import Derived.Test.YticmkepocacmhaaProg
import Derived.WalkKit
import Derived.Lib.Hide
import Derived.IntWalk
import Derived.BigQuiet
import Derived.Deep.QuietTactic
import Derived.Below
namespace Go.Proofs.Yticmkepocacmhaa
open Go Go.RowKit

theorem ret2 {a b c d : Int} (h : a = b) (h' : c = d) : Ending.returned (.tuple #[.int .i64 a, .int .i64 c]) = .returned (.tuple #[.int .i64 b, .int .i64 d]) := by rw [h, h']
theorem ret1 {a b : Int} (h : a = b) : Ending.returned (.int .i64 a) = .returned (.int .i64 b) := by rw [h]
theorem ret3 {a b c d e f : Int} (h : a = b) (h' : c = d) (h'' : e = f) : Ending.returned (.tuple #[.int .i64 a, .int .i64 c, .int .i64 e]) = .returned (.tuple #[.int .i64 b, .int .i64 d, .int .i64 f]) := by rw [h, h', h'']
theorem retb {a b : Bool} (h : a = b) : Ending.returned (.bool a) = .returned (.bool b) := by rw [h]
def TimeOk (t : Int) : Prop := 0 ≤ t ∧ t ≤ 35184372088831
def WidthOk (w : Int) : Prop := 1 ≤ w ∧ w ≤ 1099511627776
def SlotsOk (n : Int) : Prop := 1 ≤ n ∧ n ≤ 4096
instance (t : Int) : Decidable (TimeOk t) := by unfold TimeOk; infer_instance
instance (t : Int) : Decidable (WidthOk t) := by unfold WidthOk; infer_instance
instance (t : Int) : Decidable (SlotsOk t) := by unfold SlotsOk; infer_instance
/-- In a machine's integer. -/
def In64 (n : Int) : Prop := -9223372036854775808 ≤ n ∧ n ≤ 9223372036854775807

def ofI (t w : Int) : Int := if TimeOk t ∧ WidthOk w then t / w else 0
def ofE (t w : Int) : Int := if TimeOk t ∧ WidthOk w then 0 else 1
def BegOk (i w : Int) : Prop := WidthOk w ∧ 0 ≤ i ∧ i ≤ 35184372088832 / w
instance (i w : Int) : Decidable (BegOk i w) := by unfold BegOk; infer_instance
def begI (i w : Int) : Int := if BegOk i w then i * w else 0
def begE (i w : Int) : Int := if BegOk i w then 0 else 1
def OldOk (t w n : Int) : Prop := (TimeOk t ∧ WidthOk w) ∧ SlotsOk n
instance (i w n : Int) : Decidable (OldOk i w n) := by unfold OldOk; infer_instance
def oldI (t w n : Int) : Int := if OldOk t w n then (if t / w - n + 1 < 0 then 0 else t / w - n + 1) else 0
def oldE (t w n : Int) : Int := if OldOk t w n then 0 else 1
def SpanOk (a b w : Int) : Prop := WidthOk w ∧ 0 ≤ a ∧ a < b ∧ b ≤ 35184372088832
instance (a b w : Int) : Decidable (SpanOk a b w) := by unfold SpanOk; infer_instance
def spE (a b w : Int) : Int := if SpanOk a b w then (if a % w = 0 ∧ b % w = 0 then 0 else 10) else 1
def spA (a b w : Int) : Int := if SpanOk a b w ∧ a % w = 0 ∧ b % w = 0 then a / w else 0
def spB (a b w : Int) : Int := if SpanOk a b w ∧ a % w = 0 ∧ b % w = 0 then b / w else 0
def slotI (i n : Int) : Int := if 0 ≤ i ∧ 1 ≤ n then i % n else 0
def goneB (t now w n : Int) : Bool := decide ((TimeOk t ∧ WidthOk w) ∧ t / w < oldI now w n)
set_option maxHeartbeats 1000000 in
theorem wi_yes (n a b : Int) (h1 : a ≤ n) (h2 : n ≤ b) (w0 : World) :
    Calls Try.prog 48 #[.int .i64 n, .int .i64 a, .int .i64 b] w0 fun e w' => e = .returned (.bool true) ∧ w0 = w' := by
  go_enter Try.func48, Try.ntmps48
  go_wp2
  go_ret
  exact ⟨rfl, rfl⟩
set_option maxHeartbeats 1000000 in
theorem wi_no (n a b : Int) (h : ¬ (a ≤ n ∧ n ≤ b)) (w0 : World) :
    Calls Try.prog 48 #[.int .i64 n, .int .i64 a, .int .i64 b] w0 fun e w' => e = .returned (.bool false) ∧ w0 = w' := by
  by_cases h1 : a ≤ n
  · have h2 : ¬ n ≤ b := fun h2 => h ⟨h1, h2⟩
    clear h
    go_enter Try.func48, Try.ntmps48
    go_wp2
    go_ret
    exact ⟨rfl, rfl⟩
  · clear h
    go_enter Try.func48, Try.ntmps48
    go_wp2
    go_ret
    exact ⟨rfl, rfl⟩
set_option maxHeartbeats 1000000 in
theorem wn_yes (n a b : Int) (h1 : a ≤ n) (h2 : n ≤ b) (w0 : World) :
    Calls Try.prog 55 #[.int .i64 n, .int .i64 a, .int .i64 b] w0 fun e w' => e = .returned (.bool true) ∧ w0 = w' := by
  go_enter Try.func55, Try.ntmps55
  go_wp2
  go_ret
  exact ⟨rfl, rfl⟩
set_option maxHeartbeats 1000000 in
theorem wn_no (n a b : Int) (h : ¬ (a ≤ n ∧ n ≤ b)) (w0 : World) :
    Calls Try.prog 55 #[.int .i64 n, .int .i64 a, .int .i64 b] w0 fun e w' => e = .returned (.bool false) ∧ w0 = w' := by
  by_cases h1 : a ≤ n
  · have h2 : ¬ n ≤ b := fun h2 => h ⟨h1, h2⟩
    clear h
    go_enter Try.func55, Try.ntmps55
    go_wp2
    go_ret
    exact ⟨rfl, rfl⟩
  · clear h
    go_enter Try.func55, Try.ntmps55
    go_wp2
    go_ret
    exact ⟨rfl, rfl⟩
set_option maxHeartbeats 1000000 in
theorem tm_yes (t : Int) (h : TimeOk t) (w0 : World) :
    Calls Try.prog 45 #[.int .i64 t] w0 fun e w' => e = .returned (.bool true) ∧ w0 = w' := by
  obtain ⟨h1, h2⟩ := h
  go_enter Try.func45, Try.ntmps45
  go_wp2_with (go_at_call 48; refine (wi_yes _ _ _ h1 h2 _).mono ?_; rintro e w1 ⟨rfl, rfl⟩)
  go_ret
  exact ⟨rfl, rfl⟩
set_option maxHeartbeats 1000000 in
theorem tm_no (t : Int) (h : ¬ TimeOk t) (w0 : World) :
    Calls Try.prog 45 #[.int .i64 t] w0 fun e w' => e = .returned (.bool false) ∧ w0 = w' := by
  have H := Lib.hid h
  clear h
  go_enter Try.func45, Try.ntmps45
  go_wp2_with (go_at_call 48; refine (wi_no _ _ _ H.out _).mono ?_; rintro e w1 ⟨rfl, rfl⟩)
  go_ret
  exact ⟨rfl, rfl⟩
set_option maxHeartbeats 1000000 in
theorem wd_yes (t : Int) (h : WidthOk t) (w0 : World) :
    Calls Try.prog 46 #[.int .i64 t] w0 fun e w' => e = .returned (.bool true) ∧ w0 = w' := by
  obtain ⟨h1, h2⟩ := h
  go_enter Try.func46, Try.ntmps46
  go_wp2_with (go_at_call 48; refine (wi_yes _ _ _ h1 h2 _).mono ?_; rintro e w1 ⟨rfl, rfl⟩)
  go_ret
  exact ⟨rfl, rfl⟩
set_option maxHeartbeats 1000000 in
theorem wd_no (t : Int) (h : ¬ WidthOk t) (w0 : World) :
    Calls Try.prog 46 #[.int .i64 t] w0 fun e w' => e = .returned (.bool false) ∧ w0 = w' := by
  have H := Lib.hid h
  clear h
  go_enter Try.func46, Try.ntmps46
  go_wp2_with (go_at_call 48; refine (wi_no _ _ _ H.out _).mono ?_; rintro e w1 ⟨rfl, rfl⟩)
  go_ret
  exact ⟨rfl, rfl⟩
set_option maxHeartbeats 1000000 in
theorem wof_0 (t w : Int) (ht : ¬ TimeOk t) (w0 : World) :
    Calls Try.prog 27 #[.int .i64 t, .int .i64 w] w0 fun e w' => e = .returned (.tuple #[.int .i64 (0), .int .i64 (1)]) ∧ w0 = w' := by
  have HT := Lib.hid ht
  clear ht
  go_enter Try.func27, Try.ntmps27
  go_wp2_with (first | (go_at_call 45; refine (tm_no _ HT.out _).mono ?_; rintro e w1 ⟨rfl, rfl⟩))
  go_ret2
  exact ⟨rfl, rfl⟩
set_option maxHeartbeats 1000000 in
theorem wof_1 (t w : Int) (ht : TimeOk t) (hw : ¬ WidthOk w) (w0 : World) :
    Calls Try.prog 27 #[.int .i64 t, .int .i64 w] w0 fun e w' => e = .returned (.tuple #[.int .i64 (0), .int .i64 (1)]) ∧ w0 = w' := by
  have HT := Lib.hid ht
  have HW := Lib.hid hw
  clear ht hw
  go_enter Try.func27, Try.ntmps27
  go_wp2_with (first | (go_at_call 45; refine (tm_yes _ HT.out _).mono ?_; rintro e w1 ⟨rfl, rfl⟩) | (go_at_call 46; refine (wd_no _ HW.out _).mono ?_; rintro e w1 ⟨rfl, rfl⟩))
  go_ret2
  exact ⟨rfl, rfl⟩
set_option maxHeartbeats 1000000 in
theorem wof_2 (t w : Int) (ht : TimeOk t) (hw : WidthOk w) (w0 : World) :
    Calls Try.prog 27 #[.int .i64 t, .int .i64 w] w0 fun e w' => e = .returned (.tuple #[.int .i64 (t / w), .int .i64 (0)]) ∧ w0 = w' := by
  have HT := Lib.hid ht
  have HW := Lib.hid hw
  obtain ⟨h1, h2⟩ := ht
  obtain ⟨h3, h4⟩ := hw
  go_enter Try.func27, Try.ntmps27
  go_wp2_with (first | (go_at_call 45; refine (tm_yes _ HT.out _).mono ?_; rintro e w1 ⟨rfl, rfl⟩) | (go_at_call 46; refine (wd_yes _ HW.out _).mono ?_; rintro e w1 ⟨rfl, rfl⟩))
  go_ret2
  exact ⟨rfl, rfl⟩
set_option maxHeartbeats 1000000 in
theorem wof_any (t w : Int)  (w0 : World) :
    Calls Try.prog 27 #[.int .i64 t, .int .i64 w] w0 fun e w' => e = .returned (.tuple #[.int .i64 (ofI t w), .int .i64 (ofE t w)]) ∧ w0 = w' := by
  unfold ofI ofE
  by_cases ht : TimeOk t
  · by_cases hw : WidthOk w
    · rw [if_pos ⟨ht, hw⟩, if_pos ⟨ht, hw⟩]; exact wof_2 t w ht hw w0
    · rw [if_neg (fun h => hw h.2), if_neg (fun h => hw h.2)]; exact wof_1 t w ht hw w0
  · rw [if_neg (fun h => ht h.1), if_neg (fun h => ht h.1)]; exact wof_0 t w ht w0
set_option maxHeartbeats 1000000 in
theorem wbeg_0 (i w : Int) (hw : ¬ WidthOk w) (w0 : World) :
    Calls Try.prog 29 #[.int .i64 i, .int .i64 w] w0 fun e w' => e = .returned (.tuple #[.int .i64 (0), .int .i64 (1)]) ∧ w0 = w' := by
  have HW := Lib.hid hw
  clear hw
  go_enter Try.func29, Try.ntmps29
  go_wp2_with (first | (go_at_call 46; refine (wd_no _ HW.out _).mono ?_; rintro e w1 ⟨rfl, rfl⟩))
  go_ret2
  exact ⟨rfl, rfl⟩
set_option maxHeartbeats 1000000 in
theorem wbeg_1 (i w : Int) (hw : WidthOk w) (h : ¬ (0 ≤ i ∧ i ≤ 35184372088832 / w)) (w0 : World) :
    Calls Try.prog 29 #[.int .i64 i, .int .i64 w] w0 fun e w' => e = .returned (.tuple #[.int .i64 (0), .int .i64 (1)]) ∧ w0 = w' := by
  have HW := Lib.hid hw
  obtain ⟨h3, h4⟩ := hw
  have H := Lib.hid h
  clear h
  go_enter Try.func29, Try.ntmps29
  go_wp2_with (first | (go_at_call 46; refine (wd_yes _ HW.out _).mono ?_; rintro e w1 ⟨rfl, rfl⟩) | (go_at_call 48; refine (wi_no _ _ _ H.out _).mono ?_; rintro e w1 ⟨rfl, rfl⟩))
  go_ret2
  exact ⟨rfl, rfl⟩
set_option maxHeartbeats 1000000 in
theorem wbeg_2 (i w : Int) (h : BegOk i w) (w0 : World) :
    Calls Try.prog 29 #[.int .i64 i, .int .i64 w] w0 fun e w' => e = .returned (.tuple #[.int .i64 (i * w), .int .i64 (0)]) ∧ w0 = w' := by
  obtain ⟨hw, h1, h2⟩ := h
  have HW := Lib.hid hw
  obtain ⟨h3, h4⟩ := hw
  have p0 : 0 ≤ i * w := Int.mul_nonneg h1 (by omega)
  have p1 : i * w ≤ 35184372088832 := by
    have := Int.mul_le_mul_of_nonneg_right h2 (show (0 : Int) ≤ w by omega)
    have := Int.ediv_mul_le 35184372088832 (show w ≠ 0 by omega)
    omega
  have p2 : IntKind.i64.wrap (i * w) = i * w := by rw [IntKind.wrap_i64]; omega
  go_enter Try.func29, Try.ntmps29
  go_wp2_with (first | (go_at_call 46; refine (wd_yes _ HW.out _).mono ?_; rintro e w1 ⟨rfl, rfl⟩) | (go_at_call 48; refine (wi_yes _ _ _ h1 h2 _).mono ?_; rintro e w1 ⟨rfl, rfl⟩))
  go_ret2
  exact ⟨rfl, rfl⟩
set_option maxHeartbeats 1000000 in
theorem wbeg_any (i w : Int)  (w0 : World) :
    Calls Try.prog 29 #[.int .i64 i, .int .i64 w] w0 fun e w' => e = .returned (.tuple #[.int .i64 (begI i w), .int .i64 (begE i w)]) ∧ w0 = w' := by
  unfold begI begE
  by_cases hw : WidthOk w
  · by_cases h1 : 0 ≤ i ∧ i ≤ 35184372088832 / w
    · rw [if_pos ⟨hw, h1⟩, if_pos ⟨hw, h1⟩]; exact wbeg_2 i w ⟨hw, h1⟩ w0
    · rw [if_neg (fun h => h1 h.2), if_neg (fun h => h1 h.2)]; exact wbeg_1 i w hw h1 w0
  · rw [if_neg (fun h => hw h.1), if_neg (fun h => hw h.1)]; exact wbeg_0 i w hw w0
/-- Nothing has been turned (but the tape's place). -/
def Qt (w w' : World) : Prop := ∃ n, w' = w.drewN n
theorem bdn9 {B n : Nat} {a w : World} (h : Below B a w) : Below B a (w.drewN n) := ⟨h.os, h.tape, h.output, h.size, h.block⟩
theorem Qt.below {w w' : World} (h : Qt w w') : Below w.heap.size w w' := by obtain ⟨n, rfl⟩ := h; exact bdn9 (Below.refl _ _)
theorem of_dec (t w : Int) : (TimeOk t ∧ WidthOk w) ∧ ofE t w = 0 ∧ ofI t w = t / w ∨ ¬ (TimeOk t ∧ WidthOk w) ∧ ofE t w = 1 ∧ ofI t w = 0 := by
  unfold ofE ofI
  by_cases h : TimeOk t ∧ WidthOk w
  · exact .inl ⟨h, if_pos h, if_pos h⟩
  · exact .inr ⟨h, if_neg h, if_neg h⟩
theorem of_yes {t w : Int} (h : TimeOk t ∧ WidthOk w) : ofE t w = 0 ∧ ofI t w = t / w := ⟨if_pos h, if_pos h⟩
theorem of_no {t w : Int} (h : ¬ (TimeOk t ∧ WidthOk w)) : ofE t w = 1 ∧ ofI t w = 0 := ⟨if_neg h, if_neg h⟩
theorem quo_bd {t w : Int} (h : TimeOk t ∧ WidthOk w) : 0 ≤ t / w ∧ t / w ≤ 35184372088831 := by
  obtain ⟨⟨h1, h2⟩, h3, h4⟩ := h
  exact ⟨Int.ediv_nonneg h1 (by omega), Int.le_trans (Int.ediv_le_self _ h1) h2⟩
set_option maxHeartbeats 1000000 in
theorem wof_y (t w : Int) (h : TimeOk t ∧ WidthOk w) (w0 : World) :
    Calls Try.prog 27 #[.int .i64 t, .int .i64 w] w0 fun e w' => e = .returned (.tuple #[.int .i64 (t / w), .int .i64 (0)]) ∧ w0 = w' := by
  have := wof_any t w w0
  rwa [(of_yes h).1, (of_yes h).2] at this
set_option maxHeartbeats 1000000 in
theorem wof_n (t w : Int) (h : ¬ (TimeOk t ∧ WidthOk w)) (w0 : World) :
    Calls Try.prog 27 #[.int .i64 t, .int .i64 w] w0 fun e w' => e = .returned (.tuple #[.int .i64 (0), .int .i64 (1)]) ∧ w0 = w' := by
  have := wof_any t w w0
  rwa [(of_no h).1, (of_no h).2] at this
set_option maxHeartbeats 1000000 in
theorem wold_0 (t w n : Int) (h : ¬ (TimeOk t ∧ WidthOk w)) (w0 : World) :
    Calls Try.prog 47 #[.int .i64 t, .int .i64 w, .int .i64 n] w0 fun e w' => e = .returned (.tuple #[.int .i64 (0), .int .i64 (1)]) ∧ w0 = w' := by
  have HO := Lib.hid h
  clear h
  go_enter Try.func47, Try.ntmps47
  go_wp2_with (first | (go_at_call 27; refine ((wof_n _ _ HO.out _)).mono ?_; rintro e w1 ⟨rfl, rfl⟩))
  go_ret2
  exact ⟨rfl, rfl⟩
set_option maxHeartbeats 1000000 in
theorem wold_1 (t w n : Int) (h : TimeOk t ∧ WidthOk w) (hn : ¬ (1 ≤ n ∧ n ≤ 4096)) (w0 : World) :
    Calls Try.prog 47 #[.int .i64 t, .int .i64 w, .int .i64 n] w0 fun e w' => e = .returned (.tuple #[.int .i64 (0), .int .i64 (1)]) ∧ w0 = w' := by
  have HN := Lib.hid hn
  clear hn
  obtain ⟨q0, q1⟩ := quo_bd h
  have HO := Lib.hid h
  clear h
  obtain ⟨q, hq⟩ : ∃ q, q = t / w := ⟨_, rfl⟩
  have HF := Lib.hid (fun w1 => wof_y t w HO.out w1)
  rw [← hq] at q0 q1 HF
  clear hq
  go_enter Try.func47, Try.ntmps47
  go_wp2_with (first | (go_at_call 27; refine (HF.out _).mono ?_; rintro e w1 ⟨rfl, rfl⟩) | (go_at_call 55; refine (wn_no _ _ _ HN.out _).mono ?_; rintro e w1 ⟨rfl, rfl⟩))
  go_ret2
  exact ⟨rfl, rfl⟩
set_option maxHeartbeats 1000000 in
theorem wold_2 (t w n : Int) (h : TimeOk t ∧ WidthOk w) (n0 : 1 ≤ n) (n1 : n ≤ 4096) (hl : t / w - n + 1 < 0) (w0 : World) :
    Calls Try.prog 47 #[.int .i64 t, .int .i64 w, .int .i64 n] w0 fun e w' => e = .returned (.tuple #[.int .i64 (0), .int .i64 (0)]) ∧ w0 = w' := by
  obtain ⟨q0, q1⟩ := quo_bd h
  have HO := Lib.hid h
  clear h
  obtain ⟨q, hq⟩ : ∃ q, q = t / w := ⟨_, rfl⟩
  have HF := Lib.hid (fun w1 => wof_y t w HO.out w1)
  rw [← hq] at q0 q1 HF hl
  clear hq
  go_enter Try.func47, Try.ntmps47
  go_wp2_with (first | (go_at_call 27; refine (HF.out _).mono ?_; rintro e w1 ⟨rfl, rfl⟩) | (go_at_call 55; refine (wn_yes _ _ _ n0 n1 _).mono ?_; rintro e w1 ⟨rfl, rfl⟩))
  all_goals (go_ret2; exact ⟨ret2 (by omega) rfl, rfl⟩)
set_option maxHeartbeats 1000000 in
theorem wold_3 (t w n : Int) (h : TimeOk t ∧ WidthOk w) (n0 : 1 ≤ n) (n1 : n ≤ 4096) (hl : 0 ≤ t / w - n + 1) (w0 : World) :
    Calls Try.prog 47 #[.int .i64 t, .int .i64 w, .int .i64 n] w0 fun e w' => e = .returned (.tuple #[.int .i64 (t / w - n + 1), .int .i64 (0)]) ∧ w0 = w' := by
  obtain ⟨q0, q1⟩ := quo_bd h
  have HO := Lib.hid h
  clear h
  obtain ⟨q, hq⟩ : ∃ q, q = t / w := ⟨_, rfl⟩
  have HF := Lib.hid (fun w1 => wof_y t w HO.out w1)
  rw [← hq] at q0 q1 HF hl ⊢
  clear hq
  go_enter Try.func47, Try.ntmps47
  go_wp2_with (first | (go_at_call 27; refine (HF.out _).mono ?_; rintro e w1 ⟨rfl, rfl⟩) | (go_at_call 55; refine (wn_yes _ _ _ n0 n1 _).mono ?_; rintro e w1 ⟨rfl, rfl⟩))
  all_goals (go_ret2; exact ⟨ret2 (by omega) rfl, rfl⟩)
set_option maxHeartbeats 1000000 in
theorem wold_any (t w n : Int)  (w0 : World) :
    Calls Try.prog 47 #[.int .i64 t, .int .i64 w, .int .i64 n] w0 fun e w' => e = .returned (.tuple #[.int .i64 (oldI t w n), .int .i64 (oldE t w n)]) ∧ w0 = w' := by
  by_cases h : TimeOk t ∧ WidthOk w
  · by_cases hn : SlotsOk n
    · have ho : OldOk t w n := ⟨h, hn⟩
      have e1 : oldE t w n = 0 := if_pos ho
      obtain ⟨n0, n1⟩ := hn
      by_cases hl : t / w - n + 1 < 0
      · have e2 : oldI t w n = 0 := by unfold oldI; rw [if_pos ho, if_pos hl]
        rw [e1, e2]; exact wold_2 t w n h n0 n1 hl w0
      · have e2 : oldI t w n = t / w - n + 1 := by unfold oldI; rw [if_pos ho, if_neg hl]
        rw [e1, e2]; exact wold_3 t w n h n0 n1 (by omega) w0
    · have ho : ¬ OldOk t w n := fun h => hn h.2
      rw [show oldE t w n = 1 from if_neg ho, show oldI t w n = 0 from if_neg ho]; exact wold_1 t w n h hn w0
  · have ho : ¬ OldOk t w n := fun h' => h h'.1
    rw [show oldE t w n = 1 from if_neg ho, show oldI t w n = 0 from if_neg ho]; exact wold_0 t w n h w0
theorem sp_bad {a b w : Int} (h : ¬ SpanOk a b w) : spA a b w = 0 ∧ spB a b w = 0 ∧ spE a b w = 1 := ⟨if_neg (fun h' => h h'.1), if_neg (fun h' => h h'.1), if_neg h⟩
theorem sp_un {a b w : Int} (h : SpanOk a b w) (h2 : ¬ (a % w = 0 ∧ b % w = 0)) : spA a b w = 0 ∧ spB a b w = 0 ∧ spE a b w = 10 := ⟨if_neg (fun h' => h2 h'.2), if_neg (fun h' => h2 h'.2), by unfold spE; rw [if_pos h, if_neg h2]⟩
theorem sp_ok {a b w : Int} (h : SpanOk a b w) (h2 : a % w = 0 ∧ b % w = 0) : spA a b w = a / w ∧ spB a b w = b / w ∧ spE a b w = 0 := ⟨if_pos ⟨h, h2⟩, if_pos ⟨h, h2⟩, by unfold spE; rw [if_pos h, if_pos h2]⟩
theorem old_cases (t w n : Int) : oldE t w n = 0 ∧ OldOk t w n ∨ oldE t w n = 1 ∧ oldI t w n = 0 := by
  by_cases h : OldOk t w n
  · exact .inl ⟨if_pos h, h⟩
  · exact .inr ⟨if_neg h, if_neg h⟩
theorem gone_yes {t now w n : Int} (h : TimeOk t ∧ WidthOk w) : goneB t now w n = decide (t / w < oldI now w n) := by
  unfold goneB
  simp [h]
theorem gone_no {t now w n : Int} (h : ¬ (TimeOk t ∧ WidthOk w)) : goneB t now w n = false := by
  unfold goneB
  simp [h]
set_option maxHeartbeats 1000000 in
theorem wgone_0 (t now w n : Int) (h : ¬ (TimeOk t ∧ WidthOk w)) (w0 : World) :
    Calls Try.prog 28 #[.int .i64 t, .int .i64 now, .int .i64 w, .int .i64 n] w0 fun e w' => e = .returned (.bool false) ∧ w0 = w' := by
  have HO := Lib.hid h
  clear h
  go_enter Try.func28, Try.ntmps28
  go_wp2_with (first | (go_at_call 27; refine (wof_n _ _ HO.out _).mono ?_; rintro e w1 ⟨rfl, rfl⟩))
  all_goals (go_ret; exact ⟨rfl, rfl⟩)
set_option maxHeartbeats 1000000 in
theorem wgone_1 (t now w n : Int) (h : TimeOk t ∧ WidthOk w) (w0 : World) :
    Calls Try.prog 28 #[.int .i64 t, .int .i64 now, .int .i64 w, .int .i64 n] w0 fun e w' => e = .returned (.bool (decide (t / w < oldI now w n))) ∧ w0 = w' := by
  obtain ⟨q0, q1⟩ := quo_bd h
  have HF := Lib.hid (fun w1 => wof_y t w h w1)
  clear h
  generalize t / w = q at *
  have HG := Lib.hid (fun w1 => wold_any now w n w1)
  generalize oldI now w n = o at *
  generalize oldE now w n = oe at *
  go_enter Try.func28, Try.ntmps28
  go_wp2_with (first | (go_at_call 27; refine (HF.out _).mono ?_; rintro e w1 ⟨rfl, rfl⟩) | (go_at_call 47; refine (HG.out _).mono ?_; rintro e w1 ⟨rfl, rfl⟩))
  all_goals (go_ret; exact ⟨rfl, rfl⟩)
set_option maxHeartbeats 1000000 in
theorem wgone_any (t now w n : Int)  (w0 : World) :
    Calls Try.prog 28 #[.int .i64 t, .int .i64 now, .int .i64 w, .int .i64 n] w0 fun e w' => e = .returned (.bool (goneB t now w n)) ∧ w0 = w' := by
  by_cases h : TimeOk t ∧ WidthOk w
  · rw [gone_yes h]; exact wgone_1 t now w n h w0
  · rw [gone_no h]; exact wgone_0 t now w n h w0
end Go.Proofs.Yticmkepocacmhaa
