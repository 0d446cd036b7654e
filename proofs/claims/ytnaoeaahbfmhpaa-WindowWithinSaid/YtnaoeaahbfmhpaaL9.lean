/-
  WALKS: plimsolllaw09.lives, WindowTells: each answers true.
-/
import Derived.Test.YtnaoeaahbfmhpaaW9
import Derived.Deep.QuietTactic
import Derived.BigQuiet
namespace Go.Proofs.Ytnaoeaahbfmhpaa
open Go Go.RowKit

theorem q_of {f : FuncId} {args : Array Value} {w : World} {n : Nat} {v : Value} (h : Calls Try.prog f args (w.drewN n) fun e w' => e = .returned v ∧ w.drewN n = w') : Calls Try.prog f args (w.drewN n) fun e w'' => e = .returned v ∧ ∃ m, w'' = w.drewN m :=
  h.mono fun _ _ ⟨he, hm⟩ => ⟨he, n, hm.symm⟩
theorem qt_of {f : FuncId} {args : Array Value} {w : World} {n : Nat} {v : Value} (h : Calls Try.prog f args (w.drewN n) fun e w' => e = .returned v ∧ Qt (w.drewN n) w') : Calls Try.prog f args (w.drewN n) fun e w'' => e = .returned v ∧ ∃ m, w'' = w.drewN m :=
  h.mono fun _ _ ⟨he, m, hm⟩ => ⟨he, n + m, by rw [hm, World.drewN_drewN]⟩
theorem Qt.refl (w : World) : Qt w w := ⟨0, rfl⟩
theorem Qt.trans {a b c : World} (h : Qt a b) (h' : Qt b c) : Qt a c := by
  obtain ⟨n, rfl⟩ := h
  obtain ⟨m, rfl⟩ := h'
  exact ⟨n + m, by rw [World.drewN_drewN]⟩
theorem Qt.d {a b : World} (h : Qt a b) (n : Nat) : Qt a (b.drewN n) := h.trans ⟨n, rfl⟩
theorem wof_at (t w p q : Int) (h0 : ofI t w = p) (h1 : ofE t w = q) (w0 : World) :
    Calls Try.prog 6 #[.int .i64 t, .int .i64 w] w0 fun e w' => e = .returned (.tuple #[.int .i64 p, .int .i64 q]) ∧ w0 = w' := by
  have := wof_any t w w0
  rwa [h0, h1] at this
theorem wbeg_at (i w p q : Int) (h0 : begI i w = p) (h1 : begE i w = q) (w0 : World) :
    Calls Try.prog 8 #[.int .i64 i, .int .i64 w] w0 fun e w' => e = .returned (.tuple #[.int .i64 p, .int .i64 q]) ∧ w0 = w' := by
  have := wbeg_any i w w0
  rwa [h0, h1] at this
theorem wold_at (t w n p q : Int) (h0 : oldI t w n = p) (h1 : oldE t w n = q) (w0 : World) :
    Calls Try.prog 10 #[.int .i64 t, .int .i64 w, .int .i64 n] w0 fun e w' => e = .returned (.tuple #[.int .i64 p, .int .i64 q]) ∧ w0 = w' := by
  have := wold_any t w n w0
  rwa [h0, h1] at this
theorem wspan_at (a b w p q r : Int) (h0 : spA a b w = p) (h1 : spB a b w = q) (h2 : spE a b w = r) (w0 : World) :
    Calls Try.prog 12 #[.int .i64 a, .int .i64 b, .int .i64 w] w0 fun e w' => e = .returned (.tuple #[.int .i64 p, .int .i64 q, .int .i64 r]) ∧ Qt w0 w' := by
  have := wspan_any a b w w0
  rwa [h0, h1, h2] at this
theorem wslot_at (i n p : Int) (h0 : slotI i n = p) (w0 : World) :
    Calls Try.prog 15 #[.int .i64 i, .int .i64 n] w0 fun e w' => e = .returned (.int .i64 p) ∧ w0 = w' := by
  have := wslot_any i n w0
  rwa [h0] at this
theorem wgone_at (t now w n : Int) (b : Bool) (h : goneB t now w n = b) (w0 : World) :
    Calls Try.prog 17 #[.int .i64 t, .int .i64 now, .int .i64 w, .int .i64 n] w0 fun e w' => e = .returned (.bool b) ∧ w0 = w' := by
  have := wgone_any t now w n w0
  rwa [h] at this
theorem ev9_1 : ofI 29 10 = 2 := by decide +kernel
theorem ev9_2 : ofE 29 10 = 0 := by decide +kernel
theorem ev9_3 : ofI (-1) 10 = 0 := by decide +kernel
theorem ev9_4 : ofE (-1) 10 = 1 := by decide +kernel
theorem ev9_5 : begI 2 10 = 20 := by decide +kernel
theorem ev9_6 : begE 2 10 = 0 := by decide +kernel
theorem ev9_7 : oldI 57 10 3 = 3 := by decide +kernel
theorem ev9_8 : oldE 57 10 3 = 0 := by decide +kernel
theorem ev9_9 : oldI 7 10 3 = 0 := by decide +kernel
theorem ev9_10 : oldE 7 10 3 = 0 := by decide +kernel
theorem ev9_11 : spA 20 50 10 = 2 := by decide +kernel
theorem ev9_12 : spB 20 50 10 = 5 := by decide +kernel
theorem ev9_13 : spE 20 50 10 = 0 := by decide +kernel
theorem ev9_14 : spA 20 55 10 = 0 := by decide +kernel
theorem ev9_15 : spB 20 55 10 = 0 := by decide +kernel
theorem ev9_16 : spE 20 55 10 = 10 := by decide +kernel
theorem ev9_17 : spA 20 20 10 = 0 := by decide +kernel
theorem ev9_18 : spB 20 20 10 = 0 := by decide +kernel
theorem ev9_19 : spE 20 20 10 = 1 := by decide +kernel
theorem ev9_20 : slotI 7 3 = 1 := by decide +kernel
theorem ev9_21 : slotI (-1) 3 = 0 := by decide +kernel
theorem ev9_22 : goneB 29 57 10 3 = true := by decide +kernel
theorem ev9_23 : goneB 30 57 10 3 = false := by decide +kernel
set_option maxHeartbeats 4000000 in
set_option maxRecDepth 100000 in
theorem lives_any (w0 : World) : Calls Try.prog 14 #[] w0 fun e w' => e = .returned (.bool true) ∧ Qt w0 w' := by
  go_enter Try.func14, Try.ntmps14
  go_wp2_with (first | (go_at_call 6; (with_reducible refine (wof_at 29 10 2 0 ev9_1 ev9_2 _).mono ?_); rintro e w1 ⟨rfl, rfl⟩) | (go_at_call 6; (with_reducible refine (wof_at (-1) 10 0 1 ev9_3 ev9_4 _).mono ?_); rintro e w1 ⟨rfl, rfl⟩) | (go_at_call 8; (with_reducible refine (wbeg_at 2 10 20 0 ev9_5 ev9_6 _).mono ?_); rintro e w1 ⟨rfl, rfl⟩) | (go_at_call 10; (with_reducible refine (wold_at 57 10 3 3 0 ev9_7 ev9_8 _).mono ?_); rintro e w1 ⟨rfl, rfl⟩) | (go_at_call 10; (with_reducible refine (wold_at 7 10 3 0 0 ev9_9 ev9_10 _).mono ?_); rintro e w1 ⟨rfl, rfl⟩) | (go_at_call 12; (with_reducible refine (wspan_at 20 50 10 2 5 0 ev9_11 ev9_12 ev9_13 _).mono ?_); rintro e w1 ⟨rfl, m, rfl⟩) | (go_at_call 12; (with_reducible refine (wspan_at 20 55 10 0 0 10 ev9_14 ev9_15 ev9_16 _).mono ?_); rintro e w1 ⟨rfl, m, rfl⟩) | (go_at_call 12; (with_reducible refine (wspan_at 20 20 10 0 0 1 ev9_17 ev9_18 ev9_19 _).mono ?_); rintro e w1 ⟨rfl, m, rfl⟩) | (go_at_call 15; (with_reducible refine (wslot_at 7 3 1 ev9_20 _).mono ?_); rintro e w1 ⟨rfl, rfl⟩) | (go_at_call 15; (with_reducible refine (wslot_at (-1) 3 0 ev9_21 _).mono ?_); rintro e w1 ⟨rfl, rfl⟩) | (go_at_call 17; (with_reducible refine (wgone_at 29 57 10 3 true ev9_22 _).mono ?_); rintro e w1 ⟨rfl, rfl⟩) | (go_at_call 17; (with_reducible refine (wgone_at 30 57 10 3 false ev9_23 _).mono ?_); rintro e w1 ⟨rfl, rfl⟩))
  go_ret
  exact ⟨rfl, by repeat (first | exact Qt.refl _ | apply Qt.d)⟩
set_option maxHeartbeats 4000000 in
set_option maxRecDepth 100000 in
theorem tells_any (a b w n : Int) (w0 : World) : Calls Try.prog 3 #[.int .i64 a, .int .i64 b, .int .i64 w, .int .i64 n] w0 fun e w' => e = .returned (.bool true) ∧ Qt w0 w' := by
  have HW0 := Lib.hid (fun w1 => wof_any a w w1)
  have HR0 := Lib.hid (fun w1 => rof_any a w w1)
  have HW1 := Lib.hid (fun w1 => wbeg_any a w w1)
  have HR1 := Lib.hid (fun w1 => rbeg_any a w w1)
  have HW2 := Lib.hid (fun w1 => wold_any a w n w1)
  have HR2 := Lib.hid (fun w1 => rold_any a w n w1)
  have HW3 := Lib.hid (fun w1 => wspan_any a b w w1)
  have HR3 := Lib.hid (fun w1 => rspan_any a b w w1)
  have HW4 := Lib.hid (fun w1 => wslot_any a n w1)
  have HR4 := Lib.hid (fun w1 => rslot_any a n w1)
  have HW5 := Lib.hid (fun w1 => wgone_any a b w n w1)
  have HR5 := Lib.hid (fun w1 => rgone_any a b w n w1)
  generalize ofI a w = I at *
  generalize ofE a w = Ie at *
  generalize begI a w = B at *
  generalize begE a w = Be at *
  generalize oldI a w n = O at *
  generalize oldE a w n = Oe at *
  generalize spA a b w = SA at *
  generalize spB a b w = SB at *
  generalize spE a b w = SE at *
  generalize slotI a n = SL at *
  generalize goneB a b w n = GO at *
  go_enter Try.func3, Try.ntmps3
  go_wp2_with (first | (go_at_call 6; (with_reducible refine (HW0.out _).mono ?_); rintro e w1 ⟨rfl, rfl⟩) | (go_at_call 7; (with_reducible refine (HR0.out _).mono ?_); rintro e w1 ⟨rfl, rfl⟩) | (go_at_call 8; (with_reducible refine (HW1.out _).mono ?_); rintro e w1 ⟨rfl, rfl⟩) | (go_at_call 9; (with_reducible refine (HR1.out _).mono ?_); rintro e w1 ⟨rfl, rfl⟩) | (go_at_call 10; (with_reducible refine (HW2.out _).mono ?_); rintro e w1 ⟨rfl, rfl⟩) | (go_at_call 11; (with_reducible refine (HR2.out _).mono ?_); rintro e w1 ⟨rfl, rfl⟩) | (go_at_call 12; (with_reducible refine (HW3.out _).mono ?_); rintro e w1 ⟨rfl, m, rfl⟩) | (go_at_call 13; (with_reducible refine (HR3.out _).mono ?_); rintro e w1 ⟨rfl, m, rfl⟩) | (go_at_call 14; (with_reducible refine (lives_any _).mono ?_); rintro e w1 ⟨rfl, m, rfl⟩) | (go_at_call 15; (with_reducible refine (HW4.out _).mono ?_); rintro e w1 ⟨rfl, rfl⟩) | (go_at_call 16; (with_reducible refine (HR4.out _).mono ?_); rintro e w1 ⟨rfl, rfl⟩) | (go_at_call 17; (with_reducible refine (HW5.out _).mono ?_); rintro e w1 ⟨rfl, rfl⟩) | (go_at_call 18; (with_reducible refine (HR5.out _).mono ?_); rintro e w1 ⟨rfl, rfl⟩))
  go_ret
  exact ⟨rfl, by repeat (first | exact Qt.refl _ | apply Qt.d)⟩
theorem tells_below (a b w n : Int) (w0 : World) : Calls Try.prog 3 #[.int .i64 a, .int .i64 b, .int .i64 w, .int .i64 n] w0 fun e w' => e = .returned (.bool true) ∧ Below w0.heap.size w0 w' :=
  (tells_any a b w n w0).mono fun _ _ h => ⟨h.1, h.2.below⟩
end Go.Proofs.Ytnaoeaahbfmhpaa
