/-
  WALKS: the program's reader and the document's, side by side: each call answers the same, and leaves both alike.
-/
import Derived.Test.YtkoajibjlcnjgaaVc
namespace Go.Proofs.Ytkoajibjlcnjgaa
open Go Go.RowKit

structure Pair0 (f g P : Nat) (s : List UInt8) (bad : Bool) (s' : List UInt8) (bad' : Bool) (v : Value) : Prop where
  V : ∀ w : World, Calls Try.prog f #[.agg #[.string (bs s), .bool bad]] w fun e w' => e = .returned (.tuple #[.agg #[.string (bs s'), .bool bad'], v]) ∧ Below w.heap.size w w'
  R : ∀ w : World, Rd w P s bad → Calls Try.prog g #[.pointer (some ⟨P, 0, none⟩)] w fun e w' => e = .returned v ∧ Rd w' P s' bad' ∧ Step (· = P) w w'
  e : bad' = true → s' = []
  l : s'.length ≤ s.length
structure Pair1 (f g P : Nat) (m : Int) (s : List UInt8) (bad : Bool) (s' : List UInt8) (bad' : Bool) (v : Value) : Prop where
  V : ∀ w : World, Calls Try.prog f #[.agg #[.string (bs s), .bool bad], .int .i64 m] w fun e w' => e = .returned (.tuple #[.agg #[.string (bs s'), .bool bad'], v]) ∧ Below w.heap.size w w'
  R : ∀ w : World, Rd w P s bad → Calls Try.prog g #[.pointer (some ⟨P, 0, none⟩), .int .i64 m] w fun e w' => e = .returned v ∧ Rd w' P s' bad' ∧ Step (· = P) w w'
  e : bad' = true → s' = []
  l : s'.length ≤ s.length
theorem drop_le (s : List UInt8) (k : Nat) : (s.drop k).length ≤ s.length := by rw [List.length_drop]; omega
theorem same_rd {g : Nat} {args : Array Value} {w : World} {P : Nat} {s : List UInt8} {bad : Bool} {v : Value} (h : Rd w P s bad)
    (hc : Calls Try.prog g args w fun e w' => e = .returned v ∧ w = w') : Calls Try.prog g args w fun e w' => e = .returned v ∧ Rd w' P s bad ∧ Step (· = P) w w' :=
  hc.mono (by rintro e w' ⟨rfl, rfl⟩; exact ⟨rfl, h, Step.refl _ _⟩)

theorem pair_uint (P : Nat) {s : List UInt8} {bad : Bool} (hb : bad = true → s = []) (hs : s.length ≤ 140737488355328) :
    ∃ (s' : List UInt8) (bad' : Bool) (n : Nat), Pair0 36 25 P s bad s' bad' (.int .u64 n) := by
  cases bad with
  | true => obtain rfl := hb rfl; exact ⟨[], true, 0, vuint_bad, fun w h => same_rd h (ruint_bad P w h), fun _ => rfl, Nat.le_refl _⟩
  | false =>
    cases er : rd 0 0 s with
    | none => exact ⟨[], true, 0, fun w => vuint_none er hs w, fun w h => ruint_none er hs w h, fun _ => rfl, Nat.zero_le _⟩
    | some x => obtain ⟨n, k⟩ := x; exact ⟨s.drop k, false, n, fun w => vuint_some er hs w, fun w h => ruint_some er hs w h, by simp, drop_le s k⟩
theorem pair_int (P : Nat) {s : List UInt8} {bad : Bool} (hb : bad = true → s = []) (hs : s.length ≤ 140737488355328) :
    ∃ (s' : List UInt8) (bad' : Bool) (n : Int), Pair0 37 26 P s bad s' bad' (.int .i64 n) := by
  cases bad with
  | true => obtain rfl := hb rfl; exact ⟨[], true, 0, vint_bad, fun w h => same_rd h (rint_bad w h), fun _ => rfl, Nat.le_refl _⟩
  | false =>
    cases er : rd 0 0 s with
    | none => exact ⟨[], true, 0, fun w => vint_none er hs w, fun w h => rint_none er hs w h, fun _ => rfl, Nat.zero_le _⟩
    | some x => obtain ⟨n, k⟩ := x; exact ⟨s.drop k, false, unzz n, fun w => vint_some er hs w, fun w h => rint_some er hs w h, by simp, drop_le s k⟩
theorem pair_raw (P : Nat) (m : Int) {s : List UInt8} {bad : Bool} (hb : bad = true → s = []) (hs : s.length ≤ 140737488355328) :
    ∃ (s' : List UInt8) (bad' : Bool) (t : List UInt8), Pair1 40 41 P m s bad s' bad' (.string (bs t)) := by
  cases bad with
  | true =>
    obtain rfl := hb rfl
    refine ⟨[], true, [], fun w => vraw_bad [] m w, fun w h => ?_, fun _ => rfl, Nat.le_refl _⟩
    by_cases h0 : m < 0
    · exact raw_neg P [] true m h0 w h
    · obtain ⟨n, rfl⟩ := Int.eq_ofNat_of_zero_le (a := m) (by omega)
      exact raw_bad P n w h
  | false =>
    by_cases h0 : m < 0
    · exact ⟨[], true, [], fun w => vraw_neg s m h0 w, fun w h => raw_neg P s false m h0 w h, fun _ => rfl, Nat.zero_le _⟩
    · obtain ⟨n, rfl⟩ := Int.eq_ofNat_of_zero_le (a := m) (by omega)
      by_cases hn : n ≤ s.length
      · exact ⟨s.drop n, false, s.take n, fun w => vraw_ok s n hn hs w, fun w h => raw_ok P s n hn hs w h, by simp, drop_le s n⟩
      · exact ⟨[], true, [], fun w => vraw_more s n (by omega) w, fun w h => raw_more P s n (by omega) w h, fun _ => rfl, Nat.zero_le _⟩
theorem pair_fixed (P : Nat) (m : Int) {s : List UInt8} {bad : Bool} (hb : bad = true → s = []) (hs : s.length ≤ 140737488355328) :
    ∃ (s' : List UInt8) (bad' : Bool) (n : Nat), Pair1 38 28 P m s bad s' bad' (.int .u64 n) := by
  by_cases h0 : m < 1 ∨ 8 < m
  · exact ⟨[], true, 0, fun w => vfixed_no s bad m h0 w, fun w h => rfixed_no m h0 w h, fun _ => rfl, Nat.zero_le _⟩
  · obtain ⟨n, rfl⟩ := Int.eq_ofNat_of_zero_le (a := m) (by omega)
    have h1 : 1 ≤ n := by omega
    have h8 : n ≤ 8 := by omega
    cases bad with
    | true =>
      obtain rfl := hb rfl
      exact ⟨[], true, 0, fun w => vfixed_of (t := []) n h1 h8 (by simp) (fun w => vraw_bad [] n w) w, fun w h => rfixed_nil n h1 h8 w (raw_bad P n w h), fun _ => rfl, Nat.le_refl _⟩
    | false =>
      by_cases hn : n ≤ s.length
      · exact ⟨s.drop n, false, bev (s.take n), fun w => vfixed_of (t := s.take n) n h1 h8 (by rw [List.length_take]; omega) (fun w => vraw_ok s n hn hs w) w, fun w h => rfixed_ok P s n h1 h8 hn hs w h, by simp, drop_le s n⟩
      · exact ⟨[], true, 0, fun w => vfixed_of (t := []) n h1 h8 (by simp) (fun w => vraw_more s n (by omega) w) w, fun w h => rfixed_nil n h1 h8 w (raw_more P s n (by omega) w h), fun _ => rfl, Nat.zero_le _⟩
theorem pair_text (P : Nat) (m : Int) (hm : m ≤ 9223372036854775807) {s : List UInt8} {bad : Bool} (hb : bad = true → s = []) (hs : s.length ≤ 140737488355328) :
    ∃ (s' : List UInt8) (bad' : Bool) (t : List UInt8), Pair1 39 27 P m s bad s' bad' (.string (bs t)) := by
  have hbad : (∀ w : World, Calls Try.prog 36 #[.agg #[.string (bs s), .bool bad]] w fun e w' => e = .returned (.tuple #[.agg #[.string (bs []), .bool true], .int .u64 ((0 : Nat) : Int)]) ∧ Below w.heap.size w w') →
      (∀ w : World, Rd w P s bad → Calls Try.prog 25 #[.pointer (some ⟨P, 0, none⟩)] w fun e w' => e = .returned (.int .u64 ((0 : Nat) : Int)) ∧ Rd w' P [] true ∧ Step (· = P) w w') →
      Pair1 39 27 P m s bad [] true (.string (bs [])) := by
    intro hv hr
    refine ⟨fun w => vtext_of_bad m hv w, fun w h => ?_, fun _ => rfl, Nat.zero_le _⟩
    by_cases h0 : m < 0
    · exact rtext_spoil m (by omega) hm (Or.inl h0) w (hr w h)
    · obtain ⟨n, rfl⟩ := Int.eq_ofNat_of_zero_le (a := m) (by omega)
      exact rtext_raw n hm (Nat.zero_le _) w (hr w h) (fun w h => raw_bad P 0 w h)
  cases bad with
  | true => obtain rfl := hb rfl; exact ⟨[], true, [], hbad (fun w => vuint_bad w) (fun w h => same_rd h (ruint_bad P w h))⟩
  | false =>
    cases er : rd 0 0 s with
    | none => exact ⟨[], true, [], hbad (fun w => vuint_none er hs w) (fun w h => ruint_none er hs w h)⟩
    | some x =>
      obtain ⟨n, k⟩ := x
      have hn := (rd_one er).2.1
      have hl : (s.drop k).length ≤ 140737488355328 := Nat.le_trans (drop_le s k) hs
      have hv := fun w => vuint_some er hs w
      have hr := fun w (h : Rd w P s false) => ruint_some er hs w h
      by_cases hx : m < 0 ∨ m < n
      · refine ⟨[], true, [], fun w => ?_, fun w h => rtext_spoil m hn hm hx w (hr w h), fun _ => rfl, Nat.zero_le _⟩
        by_cases hsh : (s.drop k).length < n
        · exact vtext_short m hn hl hsh hv w
        · by_cases h0 : m < 0
          · exact vtext_neg m h0 hl (by omega) hv w
          · obtain ⟨j, rfl⟩ := Int.eq_ofNat_of_zero_le (a := m) (by omega)
            exact vtext_more j hm (by omega) hl (by omega) hv w
      · obtain ⟨j, rfl⟩ := Int.eq_ofNat_of_zero_le (a := m) (by omega)
        by_cases hsh : (s.drop k).length < n
        · exact ⟨[], true, [], fun w => vtext_short j hn hl hsh hv w, fun w h => rtext_raw j hm (by omega) w (hr w h) (fun w h => raw_more P _ n hsh w h), fun _ => rfl, Nat.zero_le _⟩
        · exact ⟨(s.drop k).drop n, false, (s.drop k).take n, fun w => vtext_good j hm (by omega) hl (by omega) hv w, fun w h => rtext_raw j hm (by omega) w (hr w h) (fun w h => raw_ok P _ n (by omega) hl w h), by simp, Nat.le_trans (drop_le _ n) (drop_le s k)⟩
end Go.Proofs.Ytkoajibjlcnjgaa
