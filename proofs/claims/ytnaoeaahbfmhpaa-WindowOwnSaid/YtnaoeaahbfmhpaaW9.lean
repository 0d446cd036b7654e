/-
  WALKS: package window, and the document's answers for it.
-/
import Derived.Test.YtnaoeaahbfmhpaaProg
import Derived.WalkKit
import Derived.Lib.Hide
import Derived.IntWalk
import Derived.BigQuiet
import Derived.Deep.QuietTactic
import Derived.Below
namespace Go.Proofs.Ytnaoeaahbfmhpaa
open Go Go.RowKit

theorem ret2 {a b c d : Int} (h : a = b) (h' : c = d) : Ending.returned (.tuple #[.int .i64 a, .int .i64 c]) = .returned (.tuple #[.int .i64 b, .int .i64 d]) := by rw [h, h']
theorem ret1 {a b : Int} (h : a = b) : Ending.returned (.int .i64 a) = .returned (.int .i64 b) := by rw [h]
theorem ret3 {a b c d e f : Int} (h : a = b) (h' : c = d) (h'' : e = f) : Ending.returned (.tuple #[.int .i64 a, .int .i64 c, .int .i64 e]) = .returned (.tuple #[.int .i64 b, .int .i64 d, .int .i64 f]) := by rw [h, h', h'']
theorem retb {a b : Bool} (h : a = b) : Ending.returned (.bool a) = .returned (.bool b) := by rw [h]
def TimeOk (t : Int) : Prop := 0 ≤ t ∧ t ≤ 35184372088831
def WidthOk (w : Int) : Prop := 1 ≤ w ∧ w ≤ 1099511627776
def SlotsOk (n : Int) : Prop := 1 ≤ n ∧ n ≤ 4096
instance (t : Int) : Decidable (TimeOk t) := by unfold TimeOk; infer_instance
instance (t : Int) : Decidable (WidthOk t) := by unfold WidthOk; infer_instance
instance (t : Int) : Decidable (SlotsOk t) := by unfold SlotsOk; infer_instance
/-- In a machine's integer. -/
def In64 (n : Int) : Prop := -9223372036854775808 ≤ n ∧ n ≤ 9223372036854775807

def ofI (t w : Int) : Int := if TimeOk t ∧ WidthOk w then t / w else 0
def ofE (t w : Int) : Int := if TimeOk t ∧ WidthOk w then 0 else 1
def BegOk (i w : Int) : Prop := WidthOk w ∧ 0 ≤ i ∧ i ≤ 35184372088832 / w
instance (i w : Int) : Decidable (BegOk i w) := by unfold BegOk; infer_instance
def begI (i w : Int) : Int := if BegOk i w then i * w else 0
def begE (i w : Int) : Int := if BegOk i w then 0 else 1
def OldOk (t w n : Int) : Prop := (TimeOk t ∧ WidthOk w) ∧ SlotsOk n
instance (i w n : Int) : Decidable (OldOk i w n) := by unfold OldOk; infer_instance
def oldI (t w n : Int) : Int := if OldOk t w n then (if t / w - n + 1 < 0 then 0 else t / w - n + 1) else 0
def oldE (t w n : Int) : Int := if OldOk t w n then 0 else 1
def SpanOk (a b w : Int) : Prop := WidthOk w ∧ 0 ≤ a ∧ a < b ∧ b ≤ 35184372088832
instance (a b w : Int) : Decidable (SpanOk a b w) := by unfold SpanOk; infer_instance
def spE (a b w : Int) : Int := if SpanOk a b w then (if a % w = 0 ∧ b % w = 0 then 0 else 10) else 1
def spA (a b w : Int) : Int := if SpanOk a b w ∧ a % w = 0 ∧ b % w = 0 then a / w else 0
def spB (a b w : Int) : Int := if SpanOk a b w ∧ a % w = 0 ∧ b % w = 0 then b / w else 0
def slotI (i n : Int) : Int := if 0 ≤ i ∧ 1 ≤ n then i % n else 0
def goneB (t now w n : Int) : Bool := decide ((TimeOk t ∧ WidthOk w) ∧ t / w < oldI now w n)
set_option maxHeartbeats 1000000 in
theorem wi_yes (n a b : Int) (h1 : a ≤ n) (h2 : n ≤ b) (w0 : World) :
    Calls Try.prog 22 #[.int .i64 n, .int .i64 a, .int .i64 b] w0 fun e w' => e = .returned (.bool true) ∧ w0 = w' := by
  go_enter Try.func22, Try.ntmps22
  go_wp2
  go_ret
  exact ⟨rfl, rfl⟩
set_option maxHeartbeats 1000000 in
theorem wi_no (n a b : Int) (h : ¬ (a ≤ n ∧ n ≤ b)) (w0 : World) :
    Calls Try.prog 22 #[.int .i64 n, .int .i64 a, .int .i64 b] w0 fun e w' => e = .returned (.bool false) ∧ w0 = w' := by
  by_cases h1 : a ≤ n
  · have h2 : ¬ n ≤ b := fun h2 => h ⟨h1, h2⟩
    clear h
    go_enter Try.func22, Try.ntmps22
    go_wp2
    go_ret
    exact ⟨rfl, rfl⟩
  · clear h
    go_enter Try.func22, Try.ntmps22
    go_wp2
    go_ret
    exact ⟨rfl, rfl⟩
set_option maxHeartbeats 1000000 in
theorem wn_yes (n a b : Int) (h1 : a ≤ n) (h2 : n ≤ b) (w0 : World) :
    Calls Try.prog 23 #[.int .i64 n, .int .i64 a, .int .i64 b] w0 fun e w' => e = .returned (.bool true) ∧ w0 = w' := by
  go_enter Try.func23, Try.ntmps23
  go_wp2
  go_ret
  exact ⟨rfl, rfl⟩
set_option maxHeartbeats 1000000 in
theorem wn_no (n a b : Int) (h : ¬ (a ≤ n ∧ n ≤ b)) (w0 : World) :
    Calls Try.prog 23 #[.int .i64 n, .int .i64 a, .int .i64 b] w0 fun e w' => e = .returned (.bool false) ∧ w0 = w' := by
  by_cases h1 : a ≤ n
  · have h2 : ¬ n ≤ b := fun h2 => h ⟨h1, h2⟩
    clear h
    go_enter Try.func23, Try.ntmps23
    go_wp2
    go_ret
    exact ⟨rfl, rfl⟩
  · clear h
    go_enter Try.func23, Try.ntmps23
    go_wp2
    go_ret
    exact ⟨rfl, rfl⟩
set_option maxHeartbeats 1000000 in
theorem tm_yes (t : Int) (h : TimeOk t) (w0 : World) :
    Calls Try.prog 19 #[.int .i64 t] w0 fun e w' => e = .returned (.bool true) ∧ w0 = w' := by
  obtain ⟨h1, h2⟩ := h
  go_enter Try.func19, Try.ntmps19
  go_wp2_with (go_at_call 22; refine (wi_yes _ _ _ h1 h2 _).mono ?_; rintro e w1 ⟨rfl, rfl⟩)
  go_ret
  exact ⟨rfl, rfl⟩
set_option maxHeartbeats 1000000 in
theorem tm_no (t : Int) (h : ¬ TimeOk t) (w0 : World) :
    Calls Try.prog 19 #[.int .i64 t] w0 fun e w' => e = .returned (.bool false) ∧ w0 = w' := by
  have H := Lib.hid h
  clear h
  go_enter Try.func19, Try.ntmps19
  go_wp2_with (go_at_call 22; refine (wi_no _ _ _ H.out _).mono ?_; rintro e w1 ⟨rfl, rfl⟩)
  go_ret
  exact ⟨rfl, rfl⟩
set_option maxHeartbeats 1000000 in
theorem wd_yes (t : Int) (h : WidthOk t) (w0 : World) :
    Calls Try.prog 20 #[.int .i64 t] w0 fun e w' => e = .returned (.bool true) ∧ w0 = w' := by
  obtain ⟨h1, h2⟩ := h
  go_enter Try.func20, Try.ntmps20
  go_wp2_with (go_at_call 22; refine (wi_yes _ _ _ h1 h2 _).mono ?_; rintro e w1 ⟨rfl, rfl⟩)
  go_ret
  exact ⟨rfl, rfl⟩
set_option maxHeartbeats 1000000 in
theorem wd_no (t : Int) (h : ¬ WidthOk t) (w0 : World) :
    Calls Try.prog 20 #[.int .i64 t] w0 fun e w' => e = .returned (.bool false) ∧ w0 = w' := by
  have H := Lib.hid h
  clear h
  go_enter Try.func20, Try.ntmps20
  go_wp2_with (go_at_call 22; refine (wi_no _ _ _ H.out _).mono ?_; rintro e w1 ⟨rfl, rfl⟩)
  go_ret
  exact ⟨rfl, rfl⟩
set_option maxHeartbeats 1000000 in
theorem rw_yes (t : Int) (h : WidthOk t) (w0 : World) :
    Calls Try.prog 21 #[.int .i64 t] w0 fun e w' => e = .returned (.bool true) ∧ w0 = w' := by
  obtain ⟨h1, h2⟩ := h
  go_enter Try.func21, Try.ntmps21
  go_wp2
  go_ret
  exact ⟨rfl, rfl⟩
set_option maxHeartbeats 1000000 in
theorem rw_no (t : Int) (h : ¬ WidthOk t) (w0 : World) :
    Calls Try.prog 21 #[.int .i64 t] w0 fun e w' => e = .returned (.bool false) ∧ w0 = w' := by
  by_cases h1 : 1 ≤ t
  · have h2 : ¬ t ≤ 1099511627776 := fun h2 => h ⟨h1, h2⟩
    clear h
    go_enter Try.func21, Try.ntmps21
    go_wp2
    go_ret
    exact ⟨rfl, rfl⟩
  · clear h
    go_enter Try.func21, Try.ntmps21
    go_wp2
    go_ret
    exact ⟨rfl, rfl⟩
set_option maxHeartbeats 1000000 in
theorem wof_0 (t w : Int) (ht : ¬ TimeOk t) (w0 : World) :
    Calls Try.prog 6 #[.int .i64 t, .int .i64 w] w0 fun e w' => e = .returned (.tuple #[.int .i64 (0), .int .i64 (1)]) ∧ w0 = w' := by
  have HT := Lib.hid ht
  clear ht
  go_enter Try.func6, Try.ntmps6
  go_wp2_with (first | (go_at_call 19; refine (tm_no _ HT.out _).mono ?_; rintro e w1 ⟨rfl, rfl⟩))
  go_ret2
  exact ⟨rfl, rfl⟩
set_option maxHeartbeats 1000000 in
theorem wof_1 (t w : Int) (ht : TimeOk t) (hw : ¬ WidthOk w) (w0 : World) :
    Calls Try.prog 6 #[.int .i64 t, .int .i64 w] w0 fun e w' => e = .returned (.tuple #[.int .i64 (0), .int .i64 (1)]) ∧ w0 = w' := by
  have HT := Lib.hid ht
  have HW := Lib.hid hw
  clear ht hw
  go_enter Try.func6, Try.ntmps6
  go_wp2_with (first | (go_at_call 19; refine (tm_yes _ HT.out _).mono ?_; rintro e w1 ⟨rfl, rfl⟩) | (go_at_call 20; refine (wd_no _ HW.out _).mono ?_; rintro e w1 ⟨rfl, rfl⟩))
  go_ret2
  exact ⟨rfl, rfl⟩
set_option maxHeartbeats 1000000 in
theorem wof_2 (t w : Int) (ht : TimeOk t) (hw : WidthOk w) (w0 : World) :
    Calls Try.prog 6 #[.int .i64 t, .int .i64 w] w0 fun e w' => e = .returned (.tuple #[.int .i64 (t / w), .int .i64 (0)]) ∧ w0 = w' := by
  have HT := Lib.hid ht
  have HW := Lib.hid hw
  obtain ⟨h1, h2⟩ := ht
  obtain ⟨h3, h4⟩ := hw
  go_enter Try.func6, Try.ntmps6
  go_wp2_with (first | (go_at_call 19; refine (tm_yes _ HT.out _).mono ?_; rintro e w1 ⟨rfl, rfl⟩) | (go_at_call 20; refine (wd_yes _ HW.out _).mono ?_; rintro e w1 ⟨rfl, rfl⟩))
  go_ret2
  exact ⟨rfl, rfl⟩
set_option maxHeartbeats 1000000 in
theorem wof_any (t w : Int)  (w0 : World) :
    Calls Try.prog 6 #[.int .i64 t, .int .i64 w] w0 fun e w' => e = .returned (.tuple #[.int .i64 (ofI t w), .int .i64 (ofE t w)]) ∧ w0 = w' := by
  unfold ofI ofE
  by_cases ht : TimeOk t
  · by_cases hw : WidthOk w
    · rw [if_pos ⟨ht, hw⟩, if_pos ⟨ht, hw⟩]; exact wof_2 t w ht hw w0
    · rw [if_neg (fun h => hw h.2), if_neg (fun h => hw h.2)]; exact wof_1 t w ht hw w0
  · rw [if_neg (fun h => ht h.1), if_neg (fun h => ht h.1)]; exact wof_0 t w ht w0
set_option maxHeartbeats 1000000 in
theorem wbeg_0 (i w : Int) (hw : ¬ WidthOk w) (w0 : World) :
    Calls Try.prog 8 #[.int .i64 i, .int .i64 w] w0 fun e w' => e = .returned (.tuple #[.int .i64 (0), .int .i64 (1)]) ∧ w0 = w' := by
  have HW := Lib.hid hw
  clear hw
  go_enter Try.func8, Try.ntmps8
  go_wp2_with (first | (go_at_call 20; refine (wd_no _ HW.out _).mono ?_; rintro e w1 ⟨rfl, rfl⟩))
  go_ret2
  exact ⟨rfl, rfl⟩
set_option maxHeartbeats 1000000 in
theorem wbeg_1 (i w : Int) (hw : WidthOk w) (h : ¬ (0 ≤ i ∧ i ≤ 35184372088832 / w)) (w0 : World) :
    Calls Try.prog 8 #[.int .i64 i, .int .i64 w] w0 fun e w' => e = .returned (.tuple #[.int .i64 (0), .int .i64 (1)]) ∧ w0 = w' := by
  have HW := Lib.hid hw
  obtain ⟨h3, h4⟩ := hw
  have H := Lib.hid h
  clear h
  go_enter Try.func8, Try.ntmps8
  go_wp2_with (first | (go_at_call 20; refine (wd_yes _ HW.out _).mono ?_; rintro e w1 ⟨rfl, rfl⟩) | (go_at_call 22; refine (wi_no _ _ _ H.out _).mono ?_; rintro e w1 ⟨rfl, rfl⟩))
  go_ret2
  exact ⟨rfl, rfl⟩
set_option maxHeartbeats 1000000 in
theorem wbeg_2 (i w : Int) (h : BegOk i w) (w0 : World) :
    Calls Try.prog 8 #[.int .i64 i, .int .i64 w] w0 fun e w' => e = .returned (.tuple #[.int .i64 (i * w), .int .i64 (0)]) ∧ w0 = w' := by
  obtain ⟨hw, h1, h2⟩ := h
  have HW := Lib.hid hw
  obtain ⟨h3, h4⟩ := hw
  have p0 : 0 ≤ i * w := Int.mul_nonneg h1 (by omega)
  have p1 : i * w ≤ 35184372088832 := by
    have := Int.mul_le_mul_of_nonneg_right h2 (show (0 : Int) ≤ w by omega)
    have := Int.ediv_mul_le 35184372088832 (show w ≠ 0 by omega)
    omega
  have p2 : IntKind.i64.wrap (i * w) = i * w := by rw [IntKind.wrap_i64]; omega
  go_enter Try.func8, Try.ntmps8
  go_wp2_with (first | (go_at_call 20; refine (wd_yes _ HW.out _).mono ?_; rintro e w1 ⟨rfl, rfl⟩) | (go_at_call 22; refine (wi_yes _ _ _ h1 h2 _).mono ?_; rintro e w1 ⟨rfl, rfl⟩))
  go_ret2
  exact ⟨rfl, rfl⟩
set_option maxHeartbeats 1000000 in
theorem wbeg_any (i w : Int)  (w0 : World) :
    Calls Try.prog 8 #[.int .i64 i, .int .i64 w] w0 fun e w' => e = .returned (.tuple #[.int .i64 (begI i w), .int .i64 (begE i w)]) ∧ w0 = w' := by
  unfold begI begE
  by_cases hw : WidthOk w
  · by_cases h1 : 0 ≤ i ∧ i ≤ 35184372088832 / w
    · rw [if_pos ⟨hw, h1⟩, if_pos ⟨hw, h1⟩]; exact wbeg_2 i w ⟨hw, h1⟩ w0
    · rw [if_neg (fun h => h1 h.2), if_neg (fun h => h1 h.2)]; exact wbeg_1 i w hw h1 w0
  · rw [if_neg (fun h => hw h.1), if_neg (fun h => hw h.1)]; exact wbeg_0 i w hw w0
set_option maxHeartbeats 1000000 in
theorem rbeg_1b (i w : Int) (h : i < 0) (w0 : World) :
    Calls Try.prog 9 #[.int .i64 i, .int .i64 w] w0 fun e w' => e = .returned (.tuple #[.int .i64 (0), .int .i64 (1)]) ∧ w0 = w' := by
  go_enter Try.func9, Try.ntmps9
  go_wp2
  go_ret2
  exact ⟨rfl, rfl⟩
set_option maxHeartbeats 1000000 in
theorem rbeg_1c (i w : Int) (hw : WidthOk w) (h : 0 ≤ i) (h2 : ¬ i ≤ 35184372088832 / w) (w0 : World) :
    Calls Try.prog 9 #[.int .i64 i, .int .i64 w] w0 fun e w' => e = .returned (.tuple #[.int .i64 (0), .int .i64 (1)]) ∧ w0 = w' := by
  have HW := Lib.hid hw
  obtain ⟨h3, h4⟩ := hw
  have h5 : 35184372088832 / w < i := by omega
  clear h2
  go_enter Try.func9, Try.ntmps9
  go_wp2_with (first | (go_at_call 21; refine (rw_yes _ HW.out _).mono ?_; rintro e w1 ⟨rfl, rfl⟩))
  go_ret2
  exact ⟨rfl, rfl⟩
set_option maxHeartbeats 1000000 in
theorem rbeg_0 (i w : Int) (hw : ¬ WidthOk w) (w0 : World) :
    Calls Try.prog 9 #[.int .i64 i, .int .i64 w] w0 fun e w' => e = .returned (.tuple #[.int .i64 (0), .int .i64 (1)]) ∧ w0 = w' := by
  have HW := Lib.hid hw
  clear hw
  by_cases h : 0 ≤ i
  · go_enter Try.func9, Try.ntmps9
    go_wp2_with (first | (go_at_call 21; refine (rw_no _ HW.out _).mono ?_; rintro e w1 ⟨rfl, rfl⟩))
    go_ret2
    exact ⟨rfl, rfl⟩
  · go_enter Try.func9, Try.ntmps9
    go_wp2
    go_ret2
    exact ⟨rfl, rfl⟩
set_option maxHeartbeats 1000000 in
theorem rbeg_1 (i w : Int) (hw : WidthOk w) (h : ¬ (0 ≤ i ∧ i ≤ 35184372088832 / w)) (w0 : World) :
    Calls Try.prog 9 #[.int .i64 i, .int .i64 w] w0 fun e w' => e = .returned (.tuple #[.int .i64 (0), .int .i64 (1)]) ∧ w0 = w' := by
  by_cases h1 : 0 ≤ i
  · exact rbeg_1c i w hw h1 (fun h2 => h ⟨h1, h2⟩) w0
  · exact rbeg_1b i w (by omega) w0
set_option maxHeartbeats 1000000 in
theorem rbeg_2 (i w : Int) (h : BegOk i w) (w0 : World) :
    Calls Try.prog 9 #[.int .i64 i, .int .i64 w] w0 fun e w' => e = .returned (.tuple #[.int .i64 (i * w), .int .i64 (0)]) ∧ w0 = w' := by
  obtain ⟨hw, h1, h2⟩ := h
  have HW := Lib.hid hw
  obtain ⟨h3, h4⟩ := hw
  have p0 : 0 ≤ i * w := Int.mul_nonneg h1 (by omega)
  have p1 : i * w ≤ 35184372088832 := by
    have := Int.mul_le_mul_of_nonneg_right h2 (show (0 : Int) ≤ w by omega)
    have := Int.ediv_mul_le 35184372088832 (show w ≠ 0 by omega)
    omega
  have p2 : IntKind.i64.wrap (i * w) = i * w := by rw [IntKind.wrap_i64]; omega
  go_enter Try.func9, Try.ntmps9
  go_wp2_with (first | (go_at_call 21; refine (rw_yes _ HW.out _).mono ?_; rintro e w1 ⟨rfl, rfl⟩))
  go_ret2
  exact ⟨rfl, rfl⟩
set_option maxHeartbeats 1000000 in
theorem rbeg_any (i w : Int)  (w0 : World) :
    Calls Try.prog 9 #[.int .i64 i, .int .i64 w] w0 fun e w' => e = .returned (.tuple #[.int .i64 (begI i w), .int .i64 (begE i w)]) ∧ w0 = w' := by
  unfold begI begE
  by_cases hw : WidthOk w
  · by_cases h1 : 0 ≤ i ∧ i ≤ 35184372088832 / w
    · rw [if_pos ⟨hw, h1⟩, if_pos ⟨hw, h1⟩]; exact rbeg_2 i w ⟨hw, h1⟩ w0
    · rw [if_neg (fun h => h1 h.2), if_neg (fun h => h1 h.2)]; exact rbeg_1 i w hw h1 w0
  · rw [if_neg (fun h => hw h.1), if_neg (fun h => hw h.1)]; exact rbeg_0 i w hw w0
set_option maxHeartbeats 1000000 in
theorem rof_0a (t w : Int) (h : t < 0) (w0 : World) :
    Calls Try.prog 7 #[.int .i64 t, .int .i64 w] w0 fun e w' => e = .returned (.tuple #[.int .i64 (0), .int .i64 (1)]) ∧ w0 = w' := by
  go_enter Try.func7, Try.ntmps7
  go_wp2
  go_ret2
  exact ⟨rfl, rfl⟩
set_option maxHeartbeats 1000000 in
theorem rof_0b (t w : Int) (h : 35184372088831 < t) (w0 : World) :
    Calls Try.prog 7 #[.int .i64 t, .int .i64 w] w0 fun e w' => e = .returned (.tuple #[.int .i64 (0), .int .i64 (1)]) ∧ w0 = w' := by
  have h2 : 0 ≤ t := by omega
  go_enter Try.func7, Try.ntmps7
  go_wp2
  go_ret2
  exact ⟨rfl, rfl⟩
set_option maxHeartbeats 1000000 in
theorem rof_0 (t w : Int) (ht : ¬ TimeOk t) (w0 : World) :
    Calls Try.prog 7 #[.int .i64 t, .int .i64 w] w0 fun e w' => e = .returned (.tuple #[.int .i64 (0), .int .i64 (1)]) ∧ w0 = w' := by
  by_cases h : t < 0
  · exact rof_0a t w h w0
  · exact rof_0b t w (by unfold TimeOk at ht; omega) w0
set_option maxHeartbeats 1000000 in
theorem rof_1 (t w : Int) (ht : TimeOk t) (hw : ¬ WidthOk w) (w0 : World) :
    Calls Try.prog 7 #[.int .i64 t, .int .i64 w] w0 fun e w' => e = .returned (.tuple #[.int .i64 (0), .int .i64 (1)]) ∧ w0 = w' := by
  have HT := Lib.hid ht
  have HW := Lib.hid hw
  clear hw
  obtain ⟨h1, h2⟩ := ht
  go_enter Try.func7, Try.ntmps7
  go_wp2_with (first | (go_at_call 21; refine (rw_no _ HW.out _).mono ?_; rintro e w1 ⟨rfl, rfl⟩))
  go_ret2
  exact ⟨rfl, rfl⟩
set_option maxHeartbeats 1000000 in
theorem rof_2 (t w : Int) (ht : TimeOk t) (hw : WidthOk w) (w0 : World) :
    Calls Try.prog 7 #[.int .i64 t, .int .i64 w] w0 fun e w' => e = .returned (.tuple #[.int .i64 (t / w), .int .i64 (0)]) ∧ w0 = w' := by
  have HT := Lib.hid ht
  have HW := Lib.hid hw
  obtain ⟨h1, h2⟩ := ht
  obtain ⟨h3, h4⟩ := hw
  have m0 : 0 ≤ t % w := Int.emod_nonneg _ (by omega)
  have m2 : t - t % w = w * (t / w) := by have := Int.mul_ediv_add_emod t w; omega
  have m3 : (t - t % w) / w = t / w := by rw [m2]; exact Int.mul_ediv_cancel_left _ (by omega)
  have m1 : t % w ≤ t := by have : 0 ≤ w * (t / w) := Int.mul_nonneg (by omega) (Int.ediv_nonneg h1 (by omega)); omega
  clear m2
  have M3 := Lib.hid m3
  clear m3
  go_enter Try.func7, Try.ntmps7
  go_wp2_with (first | (go_at_call 21; refine (rw_yes _ HW.out _).mono ?_; rintro e w1 ⟨rfl, rfl⟩))
  go_ret2
  exact ⟨ret2 M3.out rfl, rfl⟩
set_option maxHeartbeats 1000000 in
theorem rof_any (t w : Int)  (w0 : World) :
    Calls Try.prog 7 #[.int .i64 t, .int .i64 w] w0 fun e w' => e = .returned (.tuple #[.int .i64 (ofI t w), .int .i64 (ofE t w)]) ∧ w0 = w' := by
  unfold ofI ofE
  by_cases ht : TimeOk t
  · by_cases hw : WidthOk w
    · rw [if_pos ⟨ht, hw⟩, if_pos ⟨ht, hw⟩]; exact rof_2 t w ht hw w0
    · rw [if_neg (fun h => hw h.2), if_neg (fun h => hw h.2)]; exact rof_1 t w ht hw w0
  · rw [if_neg (fun h => ht h.1), if_neg (fun h => ht h.1)]; exact rof_0 t w ht w0
/-- Nothing has been turned (but the tape's place). -/
def Qt (w w' : World) : Prop := ∃ n, w' = w.drewN n
theorem bdn9 {B n : Nat} {a w : World} (h : Below B a w) : Below B a (w.drewN n) := ⟨h.os, h.tape, h.output, h.size, h.block⟩
theorem Qt.below {w w' : World} (h : Qt w w') : Below w.heap.size w w' := by obtain ⟨n, rfl⟩ := h; exact bdn9 (Below.refl _ _)
theorem of_dec (t w : Int) : (TimeOk t ∧ WidthOk w) ∧ ofE t w = 0 ∧ ofI t w = t / w ∨ ¬ (TimeOk t ∧ WidthOk w) ∧ ofE t w = 1 ∧ ofI t w = 0 := by
  unfold ofE ofI
  by_cases h : TimeOk t ∧ WidthOk w
  · exact .inl ⟨h, if_pos h, if_pos h⟩
  · exact .inr ⟨h, if_neg h, if_neg h⟩
theorem of_yes {t w : Int} (h : TimeOk t ∧ WidthOk w) : ofE t w = 0 ∧ ofI t w = t / w := ⟨if_pos h, if_pos h⟩
theorem of_no {t w : Int} (h : ¬ (TimeOk t ∧ WidthOk w)) : ofE t w = 1 ∧ ofI t w = 0 := ⟨if_neg h, if_neg h⟩
theorem quo_bd {t w : Int} (h : TimeOk t ∧ WidthOk w) : 0 ≤ t / w ∧ t / w ≤ 35184372088831 := by
  obtain ⟨⟨h1, h2⟩, h3, h4⟩ := h
  exact ⟨Int.ediv_nonneg h1 (by omega), Int.le_trans (Int.ediv_le_self _ h1) h2⟩
set_option maxHeartbeats 1000000 in
theorem wof_y (t w : Int) (h : TimeOk t ∧ WidthOk w) (w0 : World) :
    Calls Try.prog 6 #[.int .i64 t, .int .i64 w] w0 fun e w' => e = .returned (.tuple #[.int .i64 (t / w), .int .i64 (0)]) ∧ w0 = w' := by
  have := wof_any t w w0
  rwa [(of_yes h).1, (of_yes h).2] at this
set_option maxHeartbeats 1000000 in
theorem wof_n (t w : Int) (h : ¬ (TimeOk t ∧ WidthOk w)) (w0 : World) :
    Calls Try.prog 6 #[.int .i64 t, .int .i64 w] w0 fun e w' => e = .returned (.tuple #[.int .i64 (0), .int .i64 (1)]) ∧ w0 = w' := by
  have := wof_any t w w0
  rwa [(of_no h).1, (of_no h).2] at this
set_option maxHeartbeats 1000000 in
theorem wold_0 (t w n : Int) (h : ¬ (TimeOk t ∧ WidthOk w)) (w0 : World) :
    Calls Try.prog 10 #[.int .i64 t, .int .i64 w, .int .i64 n] w0 fun e w' => e = .returned (.tuple #[.int .i64 (0), .int .i64 (1)]) ∧ w0 = w' := by
  have HO := Lib.hid h
  clear h
  go_enter Try.func10, Try.ntmps10
  go_wp2_with (first | (go_at_call 6; refine ((wof_n _ _ HO.out _)).mono ?_; rintro e w1 ⟨rfl, rfl⟩))
  go_ret2
  exact ⟨rfl, rfl⟩
set_option maxHeartbeats 1000000 in
theorem wold_1 (t w n : Int) (h : TimeOk t ∧ WidthOk w) (hn : ¬ (1 ≤ n ∧ n ≤ 4096)) (w0 : World) :
    Calls Try.prog 10 #[.int .i64 t, .int .i64 w, .int .i64 n] w0 fun e w' => e = .returned (.tuple #[.int .i64 (0), .int .i64 (1)]) ∧ w0 = w' := by
  have HN := Lib.hid hn
  clear hn
  obtain ⟨q0, q1⟩ := quo_bd h
  have HO := Lib.hid h
  clear h
  obtain ⟨q, hq⟩ : ∃ q, q = t / w := ⟨_, rfl⟩
  have HF := Lib.hid (fun w1 => wof_y t w HO.out w1)
  rw [← hq] at q0 q1 HF
  clear hq
  go_enter Try.func10, Try.ntmps10
  go_wp2_with (first | (go_at_call 6; refine (HF.out _).mono ?_; rintro e w1 ⟨rfl, rfl⟩) | (go_at_call 23; refine (wn_no _ _ _ HN.out _).mono ?_; rintro e w1 ⟨rfl, rfl⟩))
  go_ret2
  exact ⟨rfl, rfl⟩
set_option maxHeartbeats 1000000 in
theorem wold_2 (t w n : Int) (h : TimeOk t ∧ WidthOk w) (n0 : 1 ≤ n) (n1 : n ≤ 4096) (hl : t / w - n + 1 < 0) (w0 : World) :
    Calls Try.prog 10 #[.int .i64 t, .int .i64 w, .int .i64 n] w0 fun e w' => e = .returned (.tuple #[.int .i64 (0), .int .i64 (0)]) ∧ w0 = w' := by
  obtain ⟨q0, q1⟩ := quo_bd h
  have HO := Lib.hid h
  clear h
  obtain ⟨q, hq⟩ : ∃ q, q = t / w := ⟨_, rfl⟩
  have HF := Lib.hid (fun w1 => wof_y t w HO.out w1)
  rw [← hq] at q0 q1 HF hl
  clear hq
  go_enter Try.func10, Try.ntmps10
  go_wp2_with (first | (go_at_call 6; refine (HF.out _).mono ?_; rintro e w1 ⟨rfl, rfl⟩) | (go_at_call 23; refine (wn_yes _ _ _ n0 n1 _).mono ?_; rintro e w1 ⟨rfl, rfl⟩))
  all_goals (go_ret2; exact ⟨ret2 (by omega) rfl, rfl⟩)
set_option maxHeartbeats 1000000 in
theorem wold_3 (t w n : Int) (h : TimeOk t ∧ WidthOk w) (n0 : 1 ≤ n) (n1 : n ≤ 4096) (hl : 0 ≤ t / w - n + 1) (w0 : World) :
    Calls Try.prog 10 #[.int .i64 t, .int .i64 w, .int .i64 n] w0 fun e w' => e = .returned (.tuple #[.int .i64 (t / w - n + 1), .int .i64 (0)]) ∧ w0 = w' := by
  obtain ⟨q0, q1⟩ := quo_bd h
  have HO := Lib.hid h
  clear h
  obtain ⟨q, hq⟩ : ∃ q, q = t / w := ⟨_, rfl⟩
  have HF := Lib.hid (fun w1 => wof_y t w HO.out w1)
  rw [← hq] at q0 q1 HF hl ⊢
  clear hq
  go_enter Try.func10, Try.ntmps10
  go_wp2_with (first | (go_at_call 6; refine (HF.out _).mono ?_; rintro e w1 ⟨rfl, rfl⟩) | (go_at_call 23; refine (wn_yes _ _ _ n0 n1 _).mono ?_; rintro e w1 ⟨rfl, rfl⟩))
  all_goals (go_ret2; exact ⟨ret2 (by omega) rfl, rfl⟩)
set_option maxHeartbeats 1000000 in
theorem wold_any (t w n : Int)  (w0 : World) :
    Calls Try.prog 10 #[.int .i64 t, .int .i64 w, .int .i64 n] w0 fun e w' => e = .returned (.tuple #[.int .i64 (oldI t w n), .int .i64 (oldE t w n)]) ∧ w0 = w' := by
  by_cases h : TimeOk t ∧ WidthOk w
  · by_cases hn : SlotsOk n
    · have ho : OldOk t w n := ⟨h, hn⟩
      have e1 : oldE t w n = 0 := if_pos ho
      obtain ⟨n0, n1⟩ := hn
      by_cases hl : t / w - n + 1 < 0
      · have e2 : oldI t w n = 0 := by unfold oldI; rw [if_pos ho, if_pos hl]
        rw [e1, e2]; exact wold_2 t w n h n0 n1 hl w0
      · have e2 : oldI t w n = t / w - n + 1 := by unfold oldI; rw [if_pos ho, if_neg hl]
        rw [e1, e2]; exact wold_3 t w n h n0 n1 (by omega) w0
    · have ho : ¬ OldOk t w n := fun h => hn h.2
      rw [show oldE t w n = 1 from if_neg ho, show oldI t w n = 0 from if_neg ho]; exact wold_1 t w n h hn w0
  · have ho : ¬ OldOk t w n := fun h' => h h'.1
    rw [show oldE t w n = 1 from if_neg ho, show oldI t w n = 0 from if_neg ho]; exact wold_0 t w n h w0
set_option maxHeartbeats 1000000 in
theorem rof_y (t w : Int) (h : TimeOk t ∧ WidthOk w) (w0 : World) :
    Calls Try.prog 7 #[.int .i64 t, .int .i64 w] w0 fun e w' => e = .returned (.tuple #[.int .i64 (t / w), .int .i64 (0)]) ∧ w0 = w' := by
  have := rof_any t w w0
  rwa [(of_yes h).1, (of_yes h).2] at this
set_option maxHeartbeats 1000000 in
theorem rof_n (t w : Int) (h : ¬ (TimeOk t ∧ WidthOk w)) (w0 : World) :
    Calls Try.prog 7 #[.int .i64 t, .int .i64 w] w0 fun e w' => e = .returned (.tuple #[.int .i64 (0), .int .i64 (1)]) ∧ w0 = w' := by
  have := rof_any t w w0
  rwa [(of_no h).1, (of_no h).2] at this
set_option maxHeartbeats 1000000 in
theorem rold_0 (t w n : Int) (h : ¬ (TimeOk t ∧ WidthOk w)) (w0 : World) :
    Calls Try.prog 11 #[.int .i64 t, .int .i64 w, .int .i64 n] w0 fun e w' => e = .returned (.tuple #[.int .i64 (0), .int .i64 (1)]) ∧ w0 = w' := by
  have HO := Lib.hid h
  clear h
  go_enter Try.func11, Try.ntmps11
  go_wp2_with (first | (go_at_call 7; refine ((rof_n _ _ HO.out _)).mono ?_; rintro e w1 ⟨rfl, rfl⟩))
  go_ret2
  exact ⟨rfl, rfl⟩
set_option maxHeartbeats 1000000 in
theorem rold_1a (t w n : Int) (h : TimeOk t ∧ WidthOk w) (hn : n < 1) (w0 : World) :
    Calls Try.prog 11 #[.int .i64 t, .int .i64 w, .int .i64 n] w0 fun e w' => e = .returned (.tuple #[.int .i64 (0), .int .i64 (1)]) ∧ w0 = w' := by
  obtain ⟨q0, q1⟩ := quo_bd h
  have HO := Lib.hid h
  clear h
  obtain ⟨q, hq⟩ : ∃ q, q = t / w := ⟨_, rfl⟩
  have HF := Lib.hid (fun w1 => rof_y t w HO.out w1)
  rw [← hq] at q0 q1 HF
  clear hq
  go_enter Try.func11, Try.ntmps11
  go_wp2_with (first | (go_at_call 7; refine (HF.out _).mono ?_; rintro e w1 ⟨rfl, rfl⟩))
  go_ret2
  exact ⟨rfl, rfl⟩
set_option maxHeartbeats 1000000 in
theorem rold_1b (t w n : Int) (h : TimeOk t ∧ WidthOk w) (hn : 1 ≤ n) (hm : 4096 < n) (w0 : World) :
    Calls Try.prog 11 #[.int .i64 t, .int .i64 w, .int .i64 n] w0 fun e w' => e = .returned (.tuple #[.int .i64 (0), .int .i64 (1)]) ∧ w0 = w' := by
  obtain ⟨q0, q1⟩ := quo_bd h
  have HO := Lib.hid h
  clear h
  obtain ⟨q, hq⟩ : ∃ q, q = t / w := ⟨_, rfl⟩
  have HF := Lib.hid (fun w1 => rof_y t w HO.out w1)
  rw [← hq] at q0 q1 HF
  clear hq
  go_enter Try.func11, Try.ntmps11
  go_wp2_with (first | (go_at_call 7; refine (HF.out _).mono ?_; rintro e w1 ⟨rfl, rfl⟩))
  go_ret2
  exact ⟨rfl, rfl⟩
set_option maxHeartbeats 1000000 in
theorem rold_1 (t w n : Int) (h : TimeOk t ∧ WidthOk w) (hn : ¬ (1 ≤ n ∧ n ≤ 4096)) (w0 : World) :
    Calls Try.prog 11 #[.int .i64 t, .int .i64 w, .int .i64 n] w0 fun e w' => e = .returned (.tuple #[.int .i64 (0), .int .i64 (1)]) ∧ w0 = w' := by
  by_cases h1 : n < 1
  · exact rold_1a t w n h h1 w0
  · exact rold_1b t w n h (by omega) (by omega) w0
set_option maxHeartbeats 1000000 in
theorem rold_2 (t w n : Int) (h : TimeOk t ∧ WidthOk w) (n0 : 1 ≤ n) (n1 : n ≤ 4096) (hl : t / w - n + 1 < 0) (w0 : World) :
    Calls Try.prog 11 #[.int .i64 t, .int .i64 w, .int .i64 n] w0 fun e w' => e = .returned (.tuple #[.int .i64 (0), .int .i64 (0)]) ∧ w0 = w' := by
  obtain ⟨q0, q1⟩ := quo_bd h
  have HO := Lib.hid h
  clear h
  obtain ⟨q, hq⟩ : ∃ q, q = t / w := ⟨_, rfl⟩
  have HF := Lib.hid (fun w1 => rof_y t w HO.out w1)
  rw [← hq] at q0 q1 HF hl
  clear hq
  go_enter Try.func11, Try.ntmps11
  go_wp2_with (first | (go_at_call 7; refine (HF.out _).mono ?_; rintro e w1 ⟨rfl, rfl⟩))
  all_goals (go_ret2; exact ⟨ret2 (by omega) rfl, rfl⟩)
set_option maxHeartbeats 1000000 in
theorem rold_3 (t w n : Int) (h : TimeOk t ∧ WidthOk w) (n0 : 1 ≤ n) (n1 : n ≤ 4096) (hl : 0 ≤ t / w - n + 1) (w0 : World) :
    Calls Try.prog 11 #[.int .i64 t, .int .i64 w, .int .i64 n] w0 fun e w' => e = .returned (.tuple #[.int .i64 (t / w - n + 1), .int .i64 (0)]) ∧ w0 = w' := by
  obtain ⟨q0, q1⟩ := quo_bd h
  have HO := Lib.hid h
  clear h
  obtain ⟨q, hq⟩ : ∃ q, q = t / w := ⟨_, rfl⟩
  have HF := Lib.hid (fun w1 => rof_y t w HO.out w1)
  rw [← hq] at q0 q1 HF hl ⊢
  clear hq
  go_enter Try.func11, Try.ntmps11
  go_wp2_with (first | (go_at_call 7; refine (HF.out _).mono ?_; rintro e w1 ⟨rfl, rfl⟩))
  all_goals (go_ret2; exact ⟨ret2 (by omega) rfl, rfl⟩)
set_option maxHeartbeats 1000000 in
theorem rold_any (t w n : Int)  (w0 : World) :
    Calls Try.prog 11 #[.int .i64 t, .int .i64 w, .int .i64 n] w0 fun e w' => e = .returned (.tuple #[.int .i64 (oldI t w n), .int .i64 (oldE t w n)]) ∧ w0 = w' := by
  by_cases h : TimeOk t ∧ WidthOk w
  · by_cases hn : SlotsOk n
    · have ho : OldOk t w n := ⟨h, hn⟩
      have e1 : oldE t w n = 0 := if_pos ho
      obtain ⟨n0, n1⟩ := hn
      by_cases hl : t / w - n + 1 < 0
      · have e2 : oldI t w n = 0 := by unfold oldI; rw [if_pos ho, if_pos hl]
        rw [e1, e2]; exact rold_2 t w n h n0 n1 hl w0
      · have e2 : oldI t w n = t / w - n + 1 := by unfold oldI; rw [if_pos ho, if_neg hl]
        rw [e1, e2]; exact rold_3 t w n h n0 n1 (by omega) w0
    · have ho : ¬ OldOk t w n := fun h => hn h.2
      rw [show oldE t w n = 1 from if_neg ho, show oldI t w n = 0 from if_neg ho]; exact rold_1 t w n h hn w0
  · have ho : ¬ OldOk t w n := fun h' => h h'.1
    rw [show oldE t w n = 1 from if_neg ho, show oldI t w n = 0 from if_neg ho]; exact rold_0 t w n h w0
set_option maxHeartbeats 1000000 in
theorem wslot_0 (i n : Int) (h : i < 0) (w0 : World) :
    Calls Try.prog 15 #[.int .i64 i, .int .i64 n] w0 fun e w' => e = .returned (.int .i64 0) ∧ w0 = w' := by
  go_enter Try.func15, Try.ntmps15
  go_wp2
  all_goals (go_ret; exact ⟨rfl, rfl⟩)
set_option maxHeartbeats 1000000 in
theorem wslot_1 (i n : Int) (h : 0 ≤ i) (h2 : n < 1) (w0 : World) :
    Calls Try.prog 15 #[.int .i64 i, .int .i64 n] w0 fun e w' => e = .returned (.int .i64 0) ∧ w0 = w' := by
  go_enter Try.func15, Try.ntmps15
  go_wp2
  all_goals (go_ret; exact ⟨rfl, rfl⟩)
set_option maxHeartbeats 1000000 in
theorem wslot_2 (i n : Int) (h : 0 ≤ i) (h2 : 1 ≤ n) (w0 : World) :
    Calls Try.prog 15 #[.int .i64 i, .int .i64 n] w0 fun e w' => e = .returned (.int .i64 (i % n)) ∧ w0 = w' := by
  have m0 : 0 ≤ i % n := Int.emod_nonneg _ (by omega)
  go_enter Try.func15, Try.ntmps15
  go_wp2
  all_goals (go_ret; exact ⟨rfl, rfl⟩)
set_option maxHeartbeats 1000000 in
theorem wslot_any (i n : Int)  (w0 : World) :
    Calls Try.prog 15 #[.int .i64 i, .int .i64 n] w0 fun e w' => e = .returned (.int .i64 (slotI i n)) ∧ w0 = w' := by
  by_cases h : 0 ≤ i
  · by_cases h2 : 1 ≤ n
    · rw [show slotI i n = i % n from if_pos ⟨h, h2⟩]; exact wslot_2 i n h h2 w0
    · rw [show slotI i n = 0 from if_neg (fun h => h2 h.2)]; exact wslot_1 i n h (by omega) w0
  · rw [show slotI i n = 0 from if_neg (fun h' => h h'.1)]; exact wslot_0 i n (by omega) w0
set_option maxHeartbeats 1000000 in
theorem rslot_0 (i n : Int) (h : i < 0) (w0 : World) :
    Calls Try.prog 16 #[.int .i64 i, .int .i64 n] w0 fun e w' => e = .returned (.int .i64 0) ∧ w0 = w' := by
  go_enter Try.func16, Try.ntmps16
  go_wp2
  all_goals (go_ret; exact ⟨rfl, rfl⟩)
set_option maxHeartbeats 1000000 in
theorem rslot_1 (i n : Int) (h : 0 ≤ i) (h2 : n < 1) (w0 : World) :
    Calls Try.prog 16 #[.int .i64 i, .int .i64 n] w0 fun e w' => e = .returned (.int .i64 0) ∧ w0 = w' := by
  go_enter Try.func16, Try.ntmps16
  go_wp2
  all_goals (go_ret; exact ⟨rfl, rfl⟩)
set_option maxHeartbeats 1000000 in
theorem rslot_2 (i n : Int) (h : 0 ≤ i) (h2 : 1 ≤ n) (w0 : World) :
    Calls Try.prog 16 #[.int .i64 i, .int .i64 n] w0 fun e w' => e = .returned (.int .i64 (i % n)) ∧ w0 = w' := by
  have m0 : 0 ≤ i % n := Int.emod_nonneg _ (by omega)
  go_enter Try.func16, Try.ntmps16
  go_wp2
  all_goals (go_ret; exact ⟨rfl, rfl⟩)
set_option maxHeartbeats 1000000 in
theorem rslot_any (i n : Int)  (w0 : World) :
    Calls Try.prog 16 #[.int .i64 i, .int .i64 n] w0 fun e w' => e = .returned (.int .i64 (slotI i n)) ∧ w0 = w' := by
  by_cases h : 0 ≤ i
  · by_cases h2 : 1 ≤ n
    · rw [show slotI i n = i % n from if_pos ⟨h, h2⟩]; exact rslot_2 i n h h2 w0
    · rw [show slotI i n = 0 from if_neg (fun h => h2 h.2)]; exact rslot_1 i n h (by omega) w0
  · rw [show slotI i n = 0 from if_neg (fun h' => h h'.1)]; exact rslot_0 i n (by omega) w0
theorem sp_bad {a b w : Int} (h : ¬ SpanOk a b w) : spA a b w = 0 ∧ spB a b w = 0 ∧ spE a b w = 1 := ⟨if_neg (fun h' => h h'.1), if_neg (fun h' => h h'.1), if_neg h⟩
theorem sp_un {a b w : Int} (h : SpanOk a b w) (h2 : ¬ (a % w = 0 ∧ b % w = 0)) : spA a b w = 0 ∧ spB a b w = 0 ∧ spE a b w = 10 := ⟨if_neg (fun h' => h2 h'.2), if_neg (fun h' => h2 h'.2), by unfold spE; rw [if_pos h, if_neg h2]⟩
theorem sp_ok {a b w : Int} (h : SpanOk a b w) (h2 : a % w = 0 ∧ b % w = 0) : spA a b w = a / w ∧ spB a b w = b / w ∧ spE a b w = 0 := ⟨if_pos ⟨h, h2⟩, if_pos ⟨h, h2⟩, by unfold spE; rw [if_pos h, if_pos h2]⟩
set_option maxHeartbeats 1000000 in
theorem wsp_0 (a b w : Int) (hw : ¬ WidthOk w) (w0 : World) :
    Calls Try.prog 12 #[.int .i64 a, .int .i64 b, .int .i64 w] w0 fun e w' => e = .returned (.tuple #[.int .i64 (0), .int .i64 (0), .int .i64 (1)]) ∧ w0 = w' := by
  have HW := Lib.hid hw
  clear hw
  go_enter Try.func12, Try.ntmps12
  go_wp2_with (first | (go_at_call 20; refine (wd_no _ HW.out _).mono ?_; rintro e w1 ⟨rfl, rfl⟩))
  all_goals (go_ret3; exact ⟨rfl, rfl⟩)
set_option maxHeartbeats 1000000 in
theorem wsp_1 (a b w : Int) (hw : WidthOk w) (ht : ¬ TimeOk a) (w0 : World) :
    Calls Try.prog 12 #[.int .i64 a, .int .i64 b, .int .i64 w] w0 fun e w' => e = .returned (.tuple #[.int .i64 (0), .int .i64 (0), .int .i64 (1)]) ∧ w0 = w' := by
  have HW := Lib.hid hw
  have HT := Lib.hid ht
  clear hw ht
  go_enter Try.func12, Try.ntmps12
  go_wp2_with (first | (go_at_call 20; refine (wd_yes _ HW.out _).mono ?_; rintro e w1 ⟨rfl, rfl⟩) | (go_at_call 19; refine (tm_no _ HT.out _).mono ?_; rintro e w1 ⟨rfl, rfl⟩))
  all_goals (go_ret3; exact ⟨rfl, rfl⟩)
set_option maxHeartbeats 1000000 in
theorem wsp_2 (a b w : Int) (hw : WidthOk w) (ht : TimeOk a) (hb : ¬ (a + 1 ≤ b ∧ b ≤ 35184372088832)) (w0 : World) :
    Calls Try.prog 12 #[.int .i64 a, .int .i64 b, .int .i64 w] w0 fun e w' => e = .returned (.tuple #[.int .i64 (0), .int .i64 (0), .int .i64 (1)]) ∧ w0 = w' := by
  have HW := Lib.hid hw
  have HT := Lib.hid ht
  obtain ⟨t0, t1⟩ := ht
  have HN := Lib.hid hb
  clear hw hb
  go_enter Try.func12, Try.ntmps12
  go_wp2_with (first | (go_at_call 20; refine (wd_yes _ HW.out _).mono ?_; rintro e w1 ⟨rfl, rfl⟩) | (go_at_call 19; refine (tm_yes _ HT.out _).mono ?_; rintro e w1 ⟨rfl, rfl⟩) | (go_at_call 22; refine (wi_no _ _ _ HN.out _).mono ?_; rintro e w1 ⟨rfl, rfl⟩))
  all_goals (go_ret3; exact ⟨rfl, rfl⟩)
set_option maxHeartbeats 1000000 in
theorem wsp_3 (a b w : Int) (hw : WidthOk w) (ht : TimeOk a) (h1 : a + 1 ≤ b) (h2 : b ≤ 35184372088832) (ha : 0 < a % w) (w0 : World) :
    Calls Try.prog 12 #[.int .i64 a, .int .i64 b, .int .i64 w] w0 fun e w' => e = .returned (.tuple #[.int .i64 (0), .int .i64 (0), .int .i64 (10)]) ∧ w0 = w' := by
  have HW := Lib.hid hw
  have HT := Lib.hid ht
  obtain ⟨t0, t1⟩ := ht
  obtain ⟨w0_, w1_⟩ := hw
  have m0 : 0 ≤ a % w := Int.emod_nonneg _ (by omega)
  have m1 : 0 ≤ b % w := Int.emod_nonneg _ (by omega)
  have b0 : 0 ≤ b := by omega
  go_enter Try.func12, Try.ntmps12
  go_wp2_with (first | (go_at_call 20; refine (wd_yes _ HW.out _).mono ?_; rintro e w1 ⟨rfl, rfl⟩) | (go_at_call 19; refine (tm_yes _ HT.out _).mono ?_; rintro e w1 ⟨rfl, rfl⟩) | (go_at_call 22; refine (wi_yes _ _ _ h1 h2 _).mono ?_; rintro e w1 ⟨rfl, rfl⟩))
  all_goals (go_ret3; exact ⟨rfl, rfl⟩)
set_option maxHeartbeats 1000000 in
theorem wsp_4 (a b w : Int) (hw : WidthOk w) (ht : TimeOk a) (h1 : a + 1 ≤ b) (h2 : b ≤ 35184372088832) (ha : a % w = 0) (hb : 0 < b % w) (w0 : World) :
    Calls Try.prog 12 #[.int .i64 a, .int .i64 b, .int .i64 w] w0 fun e w' => e = .returned (.tuple #[.int .i64 (0), .int .i64 (0), .int .i64 (10)]) ∧ w0 = w' := by
  have HW := Lib.hid hw
  have HT := Lib.hid ht
  obtain ⟨t0, t1⟩ := ht
  obtain ⟨w0_, w1_⟩ := hw
  have m0 : 0 ≤ a % w := Int.emod_nonneg _ (by omega)
  have m1 : 0 ≤ b % w := Int.emod_nonneg _ (by omega)
  have b0 : 0 ≤ b := by omega
  go_enter Try.func12, Try.ntmps12
  go_wp2_with (first | (go_at_call 20; refine (wd_yes _ HW.out _).mono ?_; rintro e w1 ⟨rfl, rfl⟩) | (go_at_call 19; refine (tm_yes _ HT.out _).mono ?_; rintro e w1 ⟨rfl, rfl⟩) | (go_at_call 22; refine (wi_yes _ _ _ h1 h2 _).mono ?_; rintro e w1 ⟨rfl, rfl⟩))
  all_goals (go_ret3; exact ⟨rfl, rfl⟩)
set_option maxHeartbeats 1000000 in
theorem wsp_5 (a b w : Int) (hw : WidthOk w) (ht : TimeOk a) (h1 : a + 1 ≤ b) (h2 : b ≤ 35184372088832) (ha : a % w = 0) (hb : b % w = 0) (w0 : World) :
    Calls Try.prog 12 #[.int .i64 a, .int .i64 b, .int .i64 w] w0 fun e w' => e = .returned (.tuple #[.int .i64 (a / w), .int .i64 (b / w), .int .i64 (0)]) ∧ Qt w0 w' := by
  have HW := Lib.hid hw
  have HT := Lib.hid ht
  obtain ⟨t0, t1⟩ := ht
  obtain ⟨w0_, w1_⟩ := hw
  have m0 : 0 ≤ a % w := Int.emod_nonneg _ (by omega)
  have m1 : 0 ≤ b % w := Int.emod_nonneg _ (by omega)
  have b0 : 0 ≤ b := by omega
  go_enter Try.func12, Try.ntmps12
  go_wp2_with (first | (go_at_call 20; refine (wd_yes _ HW.out _).mono ?_; rintro e w1 ⟨rfl, rfl⟩) | (go_at_call 19; refine (tm_yes _ HT.out _).mono ?_; rintro e w1 ⟨rfl, rfl⟩) | (go_at_call 22; refine (wi_yes _ _ _ h1 h2 _).mono ?_; rintro e w1 ⟨rfl, rfl⟩))
  go_quiet (fail)
  go_wp2
  all_goals (go_ret3; exact ⟨rfl, ⟨_, rfl⟩⟩)
set_option maxHeartbeats 1000000 in
theorem wspan_any (a b w : Int)  (w0 : World) :
    Calls Try.prog 12 #[.int .i64 a, .int .i64 b, .int .i64 w] w0 fun e w' => e = .returned (.tuple #[.int .i64 (spA a b w), .int .i64 (spB a b w), .int .i64 (spE a b w)]) ∧ Qt w0 w' := by
  by_cases hw : WidthOk w
  · by_cases ht : TimeOk a
    · by_cases hb : a + 1 ≤ b ∧ b ≤ 35184372088832
      · obtain ⟨h1, h2⟩ := hb
        have ho : SpanOk a b w := ⟨hw, ht.1, by omega, h2⟩
        by_cases ha : a % w = 0
        · by_cases hb : b % w = 0
          · obtain ⟨e1, e2, e3⟩ := sp_ok ho ⟨ha, hb⟩
            rw [e1, e2, e3]; exact wsp_5 a b w hw ht h1 h2 ha hb w0
          · obtain ⟨e1, e2, e3⟩ := sp_un ho (fun h => hb h.2)
            rw [e1, e2, e3]; exact (wsp_4 a b w hw ht h1 h2 ha (by have := Int.emod_nonneg b (show w ≠ 0 by unfold WidthOk at hw; omega); omega) w0).mono fun e w' h => ⟨h.1, 0, h.2.symm⟩
        · obtain ⟨e1, e2, e3⟩ := sp_un ho (fun h => ha h.1)
          rw [e1, e2, e3]; exact (wsp_3 a b w hw ht h1 h2 (by have := Int.emod_nonneg a (show w ≠ 0 by unfold WidthOk at hw; omega); omega) w0).mono fun e w' h => ⟨h.1, 0, h.2.symm⟩
      · obtain ⟨e1, e2, e3⟩ := sp_bad (show ¬ SpanOk a b w from fun h => hb ⟨by have := h.2.2.1; omega, h.2.2.2⟩)
        rw [e1, e2, e3]; exact (wsp_2 a b w hw ht hb w0).mono fun e w' h => ⟨h.1, 0, h.2.symm⟩
    · obtain ⟨e1, e2, e3⟩ := sp_bad (show ¬ SpanOk a b w from fun h => ht ⟨h.2.1, by have := h.2.2; omega⟩)
      rw [e1, e2, e3]; exact (wsp_1 a b w hw ht w0).mono fun e w' h => ⟨h.1, 0, h.2.symm⟩
  · obtain ⟨e1, e2, e3⟩ := sp_bad (show ¬ SpanOk a b w from fun h => hw h.1)
    rw [e1, e2, e3]; exact (wsp_0 a b w hw w0).mono fun e w' h => ⟨h.1, 0, h.2.symm⟩
set_option maxHeartbeats 1000000 in
theorem rsp_0 (a b w : Int) (hw : ¬ WidthOk w) (w0 : World) :
    Calls Try.prog 13 #[.int .i64 a, .int .i64 b, .int .i64 w] w0 fun e w' => e = .returned (.tuple #[.int .i64 (0), .int .i64 (0), .int .i64 (1)]) ∧ w0 = w' := by
  have HW := Lib.hid hw
  clear hw
  go_enter Try.func13, Try.ntmps13
  go_wp2_with (first | (go_at_call 21; refine (rw_no _ HW.out _).mono ?_; rintro e w1 ⟨rfl, rfl⟩))
  all_goals (go_ret3; exact ⟨rfl, rfl⟩)
set_option maxHeartbeats 1000000 in
theorem rsp_1 (a b w : Int) (hw : WidthOk w) (ht : a < 0) (w0 : World) :
    Calls Try.prog 13 #[.int .i64 a, .int .i64 b, .int .i64 w] w0 fun e w' => e = .returned (.tuple #[.int .i64 (0), .int .i64 (0), .int .i64 (1)]) ∧ w0 = w' := by
  have HW := Lib.hid hw
  clear hw
  go_enter Try.func13, Try.ntmps13
  go_wp2_with (first | (go_at_call 21; refine (rw_yes _ HW.out _).mono ?_; rintro e w1 ⟨rfl, rfl⟩))
  all_goals (go_ret3; exact ⟨rfl, rfl⟩)
set_option maxHeartbeats 1000000 in
theorem rsp_2 (a b w : Int) (hw : WidthOk w) (ht : 0 ≤ a) (hb : 35184372088832 < b) (w0 : World) :
    Calls Try.prog 13 #[.int .i64 a, .int .i64 b, .int .i64 w] w0 fun e w' => e = .returned (.tuple #[.int .i64 (0), .int .i64 (0), .int .i64 (1)]) ∧ w0 = w' := by
  have HW := Lib.hid hw
  clear hw
  go_enter Try.func13, Try.ntmps13
  go_wp2_with (first | (go_at_call 21; refine (rw_yes _ HW.out _).mono ?_; rintro e w1 ⟨rfl, rfl⟩))
  all_goals (go_ret3; exact ⟨rfl, rfl⟩)
set_option maxHeartbeats 1000000 in
theorem rsp_2b (a b w : Int) (hw : WidthOk w) (ht : 0 ≤ a) (h2 : b ≤ 35184372088832) (hb : b ≤ a) (w0 : World) :
    Calls Try.prog 13 #[.int .i64 a, .int .i64 b, .int .i64 w] w0 fun e w' => e = .returned (.tuple #[.int .i64 (0), .int .i64 (0), .int .i64 (1)]) ∧ w0 = w' := by
  have HW := Lib.hid hw
  clear hw
  go_enter Try.func13, Try.ntmps13
  go_wp2_with (first | (go_at_call 21; refine (rw_yes _ HW.out _).mono ?_; rintro e w1 ⟨rfl, rfl⟩))
  all_goals (go_ret3; exact ⟨rfl, rfl⟩)
set_option maxHeartbeats 1000000 in
theorem rsp_3 (a b w : Int) (hw : WidthOk w) (t0 : 0 ≤ a) (h1 : a < b) (h2 : b ≤ 35184372088832) (ha : 0 < a % w) (w0 : World) :
    Calls Try.prog 13 #[.int .i64 a, .int .i64 b, .int .i64 w] w0 fun e w' => e = .returned (.tuple #[.int .i64 (0), .int .i64 (0), .int .i64 (10)]) ∧ w0 = w' := by
  have HW := Lib.hid hw
  obtain ⟨w0_, w1_⟩ := hw
  have m0 : 0 ≤ a % w := Int.emod_nonneg _ (by omega)
  have m1 : 0 ≤ b % w := Int.emod_nonneg _ (by omega)
  have b0 : 0 ≤ b := by omega
  go_enter Try.func13, Try.ntmps13
  go_wp2_with (first | (go_at_call 21; refine (rw_yes _ HW.out _).mono ?_; rintro e w1 ⟨rfl, rfl⟩))
  all_goals (go_ret3; exact ⟨rfl, rfl⟩)
set_option maxHeartbeats 1000000 in
theorem rsp_4 (a b w : Int) (hw : WidthOk w) (t0 : 0 ≤ a) (h1 : a < b) (h2 : b ≤ 35184372088832) (ha : a % w = 0) (hb : 0 < b % w) (w0 : World) :
    Calls Try.prog 13 #[.int .i64 a, .int .i64 b, .int .i64 w] w0 fun e w' => e = .returned (.tuple #[.int .i64 (0), .int .i64 (0), .int .i64 (10)]) ∧ w0 = w' := by
  have HW := Lib.hid hw
  obtain ⟨w0_, w1_⟩ := hw
  have m0 : 0 ≤ a % w := Int.emod_nonneg _ (by omega)
  have m1 : 0 ≤ b % w := Int.emod_nonneg _ (by omega)
  have b0 : 0 ≤ b := by omega
  go_enter Try.func13, Try.ntmps13
  go_wp2_with (first | (go_at_call 21; refine (rw_yes _ HW.out _).mono ?_; rintro e w1 ⟨rfl, rfl⟩))
  all_goals (go_ret3; exact ⟨rfl, rfl⟩)
set_option maxHeartbeats 1000000 in
theorem rsp_5 (a b w : Int) (hw : WidthOk w) (t0 : 0 ≤ a) (h1 : a < b) (h2 : b ≤ 35184372088832) (ha : a % w = 0) (hb : b % w = 0) (w0 : World) :
    Calls Try.prog 13 #[.int .i64 a, .int .i64 b, .int .i64 w] w0 fun e w' => e = .returned (.tuple #[.int .i64 (a / w), .int .i64 (b / w), .int .i64 (0)]) ∧ Qt w0 w' := by
  have HW := Lib.hid hw
  obtain ⟨w0_, w1_⟩ := hw
  have m0 : 0 ≤ a % w := Int.emod_nonneg _ (by omega)
  have m1 : 0 ≤ b % w := Int.emod_nonneg _ (by omega)
  have b0 : 0 ≤ b := by omega
  go_enter Try.func13, Try.ntmps13
  go_wp2_with (first | (go_at_call 21; refine (rw_yes _ HW.out _).mono ?_; rintro e w1 ⟨rfl, rfl⟩))
  go_quiet (fail)
  go_wp2
  all_goals (go_ret3; exact ⟨rfl, ⟨_, rfl⟩⟩)
set_option maxHeartbeats 1000000 in
theorem rspan_any (a b w : Int)  (w0 : World) :
    Calls Try.prog 13 #[.int .i64 a, .int .i64 b, .int .i64 w] w0 fun e w' => e = .returned (.tuple #[.int .i64 (spA a b w), .int .i64 (spB a b w), .int .i64 (spE a b w)]) ∧ Qt w0 w' := by
  by_cases hw : WidthOk w
  · by_cases ht : 0 ≤ a
    · by_cases h2 : b ≤ 35184372088832
      · by_cases h1 : a < b
        · have ho : SpanOk a b w := ⟨hw, ht, h1, h2⟩
          by_cases ha : a % w = 0
          · by_cases hb : b % w = 0
            · obtain ⟨e1, e2, e3⟩ := sp_ok ho ⟨ha, hb⟩
              rw [e1, e2, e3]; exact rsp_5 a b w hw ht h1 h2 ha hb w0
            · obtain ⟨e1, e2, e3⟩ := sp_un ho (fun h => hb h.2)
              rw [e1, e2, e3]; exact (rsp_4 a b w hw ht h1 h2 ha (by have := Int.emod_nonneg b (show w ≠ 0 by unfold WidthOk at hw; omega); omega) w0).mono fun e w' h => ⟨h.1, 0, h.2.symm⟩
          · obtain ⟨e1, e2, e3⟩ := sp_un ho (fun h => ha h.1)
            rw [e1, e2, e3]; exact (rsp_3 a b w hw ht h1 h2 (by have := Int.emod_nonneg a (show w ≠ 0 by unfold WidthOk at hw; omega); omega) w0).mono fun e w' h => ⟨h.1, 0, h.2.symm⟩
        · obtain ⟨e1, e2, e3⟩ := sp_bad (show ¬ SpanOk a b w from fun h => h1 h.2.2.1)
          rw [e1, e2, e3]; exact (rsp_2b a b w hw ht h2 (by omega) w0).mono fun e w' h => ⟨h.1, 0, h.2.symm⟩
      · obtain ⟨e1, e2, e3⟩ := sp_bad (show ¬ SpanOk a b w from fun h => h2 h.2.2.2)
        rw [e1, e2, e3]; exact (rsp_2 a b w hw ht (by omega) w0).mono fun e w' h => ⟨h.1, 0, h.2.symm⟩
    · obtain ⟨e1, e2, e3⟩ := sp_bad (show ¬ SpanOk a b w from fun h => ht h.2.1)
      rw [e1, e2, e3]; exact (rsp_1 a b w hw (by omega) w0).mono fun e w' h => ⟨h.1, 0, h.2.symm⟩
  · obtain ⟨e1, e2, e3⟩ := sp_bad (show ¬ SpanOk a b w from fun h => hw h.1)
    rw [e1, e2, e3]; exact (rsp_0 a b w hw w0).mono fun e w' h => ⟨h.1, 0, h.2.symm⟩
theorem old_cases (t w n : Int) : oldE t w n = 0 ∧ OldOk t w n ∨ oldE t w n = 1 ∧ oldI t w n = 0 := by
  by_cases h : OldOk t w n
  · exact .inl ⟨if_pos h, h⟩
  · exact .inr ⟨if_neg h, if_neg h⟩
theorem gone_yes {t now w n : Int} (h : TimeOk t ∧ WidthOk w) : goneB t now w n = decide (t / w < oldI now w n) := by
  unfold goneB
  simp [h]
theorem gone_no {t now w n : Int} (h : ¬ (TimeOk t ∧ WidthOk w)) : goneB t now w n = false := by
  unfold goneB
  simp [h]
set_option maxHeartbeats 1000000 in
theorem wgone_0 (t now w n : Int) (h : ¬ (TimeOk t ∧ WidthOk w)) (w0 : World) :
    Calls Try.prog 17 #[.int .i64 t, .int .i64 now, .int .i64 w, .int .i64 n] w0 fun e w' => e = .returned (.bool false) ∧ w0 = w' := by
  have HO := Lib.hid h
  clear h
  go_enter Try.func17, Try.ntmps17
  go_wp2_with (first | (go_at_call 6; refine (wof_n _ _ HO.out _).mono ?_; rintro e w1 ⟨rfl, rfl⟩))
  all_goals (go_ret; exact ⟨rfl, rfl⟩)
set_option maxHeartbeats 1000000 in
theorem wgone_1 (t now w n : Int) (h : TimeOk t ∧ WidthOk w) (w0 : World) :
    Calls Try.prog 17 #[.int .i64 t, .int .i64 now, .int .i64 w, .int .i64 n] w0 fun e w' => e = .returned (.bool (decide (t / w < oldI now w n))) ∧ w0 = w' := by
  obtain ⟨q0, q1⟩ := quo_bd h
  have HF := Lib.hid (fun w1 => wof_y t w h w1)
  clear h
  generalize t / w = q at *
  have HG := Lib.hid (fun w1 => wold_any now w n w1)
  generalize oldI now w n = o at *
  generalize oldE now w n = oe at *
  go_enter Try.func17, Try.ntmps17
  go_wp2_with (first | (go_at_call 6; refine (HF.out _).mono ?_; rintro e w1 ⟨rfl, rfl⟩) | (go_at_call 10; refine (HG.out _).mono ?_; rintro e w1 ⟨rfl, rfl⟩))
  all_goals (go_ret; exact ⟨rfl, rfl⟩)
set_option maxHeartbeats 1000000 in
theorem wgone_any (t now w n : Int)  (w0 : World) :
    Calls Try.prog 17 #[.int .i64 t, .int .i64 now, .int .i64 w, .int .i64 n] w0 fun e w' => e = .returned (.bool (goneB t now w n)) ∧ w0 = w' := by
  by_cases h : TimeOk t ∧ WidthOk w
  · rw [gone_yes h]; exact wgone_1 t now w n h w0
  · rw [gone_no h]; exact wgone_0 t now w n h w0
set_option maxHeartbeats 1000000 in
theorem rgone_0 (t now w n : Int) (h : ¬ (TimeOk t ∧ WidthOk w)) (w0 : World) :
    Calls Try.prog 18 #[.int .i64 t, .int .i64 now, .int .i64 w, .int .i64 n] w0 fun e w' => e = .returned (.bool false) ∧ w0 = w' := by
  have HO := Lib.hid h
  clear h
  have HG := Lib.hid (fun w1 => rold_any now w n w1)
  generalize oldI now w n = o at HG
  generalize oldE now w n = oe at HG
  go_enter Try.func18, Try.ntmps18
  go_wp2_with (first | (go_at_call 7; refine (rof_n _ _ HO.out _).mono ?_; rintro e w1 ⟨rfl, rfl⟩) | (go_at_call 11; refine (HG.out _).mono ?_; rintro e w1 ⟨rfl, rfl⟩))
  all_goals (go_ret; exact ⟨rfl, rfl⟩)
set_option maxHeartbeats 1000000 in
theorem rgone_1a (t now w n : Int) (h : TimeOk t ∧ WidthOk w) (ho : oldE now w n = 0) (w0 : World) :
    Calls Try.prog 18 #[.int .i64 t, .int .i64 now, .int .i64 w, .int .i64 n] w0 fun e w' => e = .returned (.bool (decide (t / w < oldI now w n))) ∧ w0 = w' := by
  obtain ⟨q0, q1⟩ := quo_bd h
  have HF := Lib.hid (fun w1 => rof_y t w h w1)
  clear h
  generalize t / w = q at *
  have HG := Lib.hid (fun w1 => rold_any now w n w1)
  rw [ho] at HG
  clear ho
  generalize oldI now w n = o at *
  go_enter Try.func18, Try.ntmps18
  go_wp2_with (first | (go_at_call 7; refine (HF.out _).mono ?_; rintro e w1 ⟨rfl, rfl⟩) | (go_at_call 11; refine (HG.out _).mono ?_; rintro e w1 ⟨rfl, rfl⟩))
  all_goals (go_ret; exact ⟨rfl, rfl⟩)
set_option maxHeartbeats 1000000 in
theorem rgone_1b (t now w n : Int) (h : TimeOk t ∧ WidthOk w) (ho : oldE now w n = 1) (ho2 : oldI now w n = 0) (w0 : World) :
    Calls Try.prog 18 #[.int .i64 t, .int .i64 now, .int .i64 w, .int .i64 n] w0 fun e w' => e = .returned (.bool false) ∧ w0 = w' := by
  obtain ⟨q0, q1⟩ := quo_bd h
  have HF := Lib.hid (fun w1 => rof_y t w h w1)
  clear h
  generalize t / w = q at *
  have HG := Lib.hid (fun w1 => rold_any now w n w1)
  rw [ho, ho2] at HG
  clear ho ho2
  go_enter Try.func18, Try.ntmps18
  go_wp2_with (first | (go_at_call 7; refine (HF.out _).mono ?_; rintro e w1 ⟨rfl, rfl⟩) | (go_at_call 11; refine (HG.out _).mono ?_; rintro e w1 ⟨rfl, rfl⟩))
  all_goals (go_ret; exact ⟨rfl, rfl⟩)
set_option maxHeartbeats 1000000 in
theorem rgone_1 (t now w n : Int) (h : TimeOk t ∧ WidthOk w) (w0 : World) :
    Calls Try.prog 18 #[.int .i64 t, .int .i64 now, .int .i64 w, .int .i64 n] w0 fun e w' => e = .returned (.bool (decide (t / w < oldI now w n))) ∧ w0 = w' := by
  rcases old_cases now w n with ⟨ho, _⟩ | ⟨ho, ho2⟩
  · exact rgone_1a t now w n h ho w0
  · have := quo_bd h
    rw [show decide (t / w < oldI now w n) = false by rw [ho2]; simp; omega]
    exact rgone_1b t now w n h ho ho2 w0
set_option maxHeartbeats 1000000 in
theorem rgone_any (t now w n : Int)  (w0 : World) :
    Calls Try.prog 18 #[.int .i64 t, .int .i64 now, .int .i64 w, .int .i64 n] w0 fun e w' => e = .returned (.bool (goneB t now w n)) ∧ w0 = w' := by
  by_cases h : TimeOk t ∧ WidthOk w
  · rw [gone_yes h]; exact rgone_1 t now w n h w0
  · rw [gone_no h]; exact rgone_0 t now w n h w0
end Go.Proofs.Ytnaoeaahbfmhpaa
