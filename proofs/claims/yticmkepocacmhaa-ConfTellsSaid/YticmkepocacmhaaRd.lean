/-
  WALKS: codec.Reader: Open, Bad, Left, spoil, Raw: what they answer, and what the reader is behind them.
-/
import Derived.Test.YticmkepocacmhaaChecked
import Derived.Test.YticmkepocacmhaaCMath
import Derived.WalkKit
import Derived.BigQuiet
import Derived.Deep.QuietTactic
import Derived.Handy
import Derived.Lib.Hide
import Derived.Lib.Strings
import Derived.WalkSpells
import Derived.Laws.Externs
namespace Go.Proofs.Yticmkepocacmhaa
open Go Go.RowKit

/-- What is as it was, but for some blocks. -/
structure Step (S : Nat → Prop) (w w' : World) : Prop where
  os : w'.os = w.os
  tape : w'.tape = w.tape
  output : w'.output = w.output
  size : w.heap.size ≤ w'.heap.size
  block : ∀ k, k < w.heap.size → ¬ S k → w'.heap[k]? = w.heap[k]?
theorem Step.refl (S : Nat → Prop) (w : World) : Step S w w := ⟨rfl, rfl, rfl, Nat.le_refl _, fun _ _ _ => rfl⟩
theorem Step.trans {S : Nat → Prop} {a b c : World} (h : Step S a b) (k : Step S b c) : Step S a c :=
  ⟨k.os.trans h.os, k.tape.trans h.tape, k.output.trans h.output, Nat.le_trans h.size k.size, fun i hi hs => (k.block i (Nat.lt_of_lt_of_le hi h.size) hs).trans (h.block i hi hs)⟩
theorem Step.mono {S T : Nat → Prop} {a b : World} (h : Step S a b) (hs : ∀ k, S k → T k) : Step T a b :=
  ⟨h.os, h.tape, h.output, h.size, fun i hi hn => h.block i hi fun hk => hn (hs i hk)⟩
theorem Step.drew {S : Nat → Prop} {a w : World} (h : Step S a w) : Step S a w.drew := ⟨h.os, h.tape, h.output, h.size, h.block⟩
theorem Step.drewN {S : Nat → Prop} {a w : World} (h : Step S a w) (n : Nat) : Step S a (w.drewN n) := ⟨h.os, h.tape, h.output, h.size, h.block⟩
theorem Step.alloc {S : Nat → Prop} {a w : World} (h : Step S a w) (o : Obj) : Step S a (w.alloc o) :=
  h.trans ⟨rfl, rfl, rfl, by simp, fun k hk _ => Below.heap_alloc _ _ _ hk⟩
theorem Step.setCell {S : Nat → Prop} {a w : World} (h : Step S a w) {p : Addr} (hp : S p.block) (u : Value) : Step S a (w.setCell p u) :=
  h.trans ⟨rfl, rfl, rfl, by simp [World.setCell], fun k _ hs => Below.heap_setCell _ _ _ _ fun e => hs (e ▸ hp)⟩
theorem Step.own {P i : Nat} {a w : World} (h : Step (· = P) a w) (u : Value) : Step (· = P) a (w.setCell ⟨P, i, none⟩ u) := h.setCell (p := ⟨P, i, none⟩) rfl u
theorem Step.grown {S : Nat → Prop} {a w w' : World} {row : Option Nat} (h : Step S a w) (hg : w.grownBy w' row) (hr : ∀ k, row = some k → S k) : Step S a w' :=
  h.trans ⟨hg.os, hg.tape, hg.output, hg.size, fun k hk hs => hg.block k hk fun e => hs (hr k e.symm)⟩
theorem Step.of_below {S : Nat → Prop} {a w : World} (h : Below a.heap.size a w) : Step S a w := ⟨h.os, h.tape, h.output, h.size, fun k hk _ => h.block k hk⟩
theorem Step.below {S : Nat → Prop} {a w : World} {B : Nat} (h : Step S a w) (hB : B ≤ a.heap.size) (hs : ∀ k, S k → B ≤ k) : Below B a w :=
  ⟨h.os, h.tape, h.output, h.size, fun k hk => h.block k (by omega) fun hk' => by have := hs k hk'; omega⟩

theorem cell_blk {w : World} {g : Nat} {cs : Array Value} {t : TypeId} {fr : Nat × Nat} (h : w.heap[g]? = some (.cells cs t fr)) (i : Nat) : w.cell? ⟨g, i, none⟩ = cs[i]? := by simp [World.cell?, h]
theorem free_blk {w : World} {g : Nat} {cs : Array Value} {t : TypeId} (h : w.heap[g]? = some (.cells cs t (0, 0))) (i : Nat) : w.frozen? ⟨g, i, none⟩ = false := by simp [World.frozen?, h]
theorem lt_blk {w : World} {g : Nat} {o : Obj} (h : w.heap[g]? = some o) : g < w.heap.size := (Array.getElem?_eq_some_iff.1 h).1
theorem set_blk {w : World} {g i : Nat} {cs : Array Value} {t : TypeId} {fr : Nat × Nat} (h : w.heap[g]? = some (.cells cs t fr)) (v : Value) : (w.setCell ⟨g, i, none⟩ v).heap[g]? = some (.cells (cs.set! i v) t fr) := by
  simp only [World.setCell, Array.getElem?_modify, if_pos, h]
  rfl
theorem set_other {w : World} {g g' i : Nat} (v : Value) (hne : g ≠ g') : (w.setCell ⟨g', i, none⟩ v).heap[g]? = w.heap[g]? := Below.heap_setCell _ _ _ _ hne
theorem alloc_blk (w : World) (o : Obj) : (w.alloc o).heap[w.heap.size]? = some o := by
  show (w.heap.push o)[w.heap.size]? = _
  simp
theorem alloc_old {w : World} {g : Nat} {o : Obj} (h : w.heap[g]? = some o) (o' : Obj) : (w.alloc o').heap[g]? = some o := (Below.heap_alloc w o' g (lt_blk h)).trans h

/-- A string of these bytes. -/
def bs (l : List UInt8) : ByteArray := ⟨l.toArray⟩
theorem bs_size (l : List UInt8) : (bs l).size = l.length := by simp [bs, ByteArray.size]
theorem bs_list (l : List UInt8) : (bs l).data.toList = l := rfl
theorem bs_of (s : ByteArray) : s = bs s.data.toList := rfl
theorem bs_nil : bs [] = ⟨#[]⟩ := rfl
theorem bs_ext {s : ByteArray} {l : List UInt8} (h : s.data.toList = l) : s = bs l := by rw [bs_of s, h]
theorem bs_toList (l : List UInt8) : (bs l).toList = l := by rw [Lib.toList_data]; rfl
theorem bs_extract (l : List UInt8) (a b : Nat) : (bs l).extract a b = bs ((l.take b).drop a) := by
  refine bs_ext ?_
  rw [Lib.extract_data]
  simp [bs, List.drop_take]
theorem bs_take (l : List UInt8) (n : Nat) : (bs l).extract 0 n = bs (l.take n) := by rw [bs_extract, List.drop_zero]
theorem bs_drop (l : List UInt8) (n : Nat) : (bs l).extract n (bs l).size = bs (l.drop n) := by rw [bs_extract, bs_size, List.take_length]
/-- A reader of s. -/
structure Rd (w : World) (P : Nat) (s : List UInt8) (bad : Bool) : Prop where
  blk : w.heap[P]? = some (.cells #[.string (bs s), .bool bad] 68 (0, 0))
section
variable {w : World} {P : Nat} {s : List UInt8} {bad : Bool}
theorem Rd.c0 (h : Rd w P s bad) : w.cell? ⟨P, 0, none⟩ = some (.string (bs s)) := by rw [cell_blk h.blk]; rfl
theorem Rd.c1 (h : Rd w P s bad) : w.cell? ⟨P, 1, none⟩ = some (.bool bad) := by rw [cell_blk h.blk]; rfl
theorem Rd.f0 (h : Rd w P s bad) : w.frozen? ⟨P, 0, none⟩ = false := free_blk h.blk 0
theorem Rd.f1 (h : Rd w P s bad) : w.frozen? ⟨P, 1, none⟩ = false := free_blk h.blk 1
theorem Rd.lt (h : Rd w P s bad) : P < w.heap.size := lt_blk h.blk
theorem Rd.step {S : Nat → Prop} {w' : World} (h : Rd w P s bad) (hs : Step S w w') (hn : ¬ S P) : Rd w' P s bad := ⟨(hs.block P h.lt hn).trans h.blk⟩
end

theorem Rd.drew' {w : World} {P : Nat} {s : List UInt8} {bad : Bool} (h : Rd w P s bad) : Rd w.drew P s bad := ⟨h.blk⟩
theorem Step.drew' {S : Nat → Prop} {a w : World} (h : Step S a w) : Step S a w.drew := h.drew

theorem ropen_any (s : List UInt8) (w : World) :
    Calls Try.prog 31 #[.string (bs s)] w fun e w' => e = .returned (.pointer (some ⟨w.heap.size, 0, none⟩)) ∧ w.alloc (.cells #[.string (bs s), .bool false] 68) = w' := by
  go_enter Try.func31, Try.ntmps31
  go_wp2
  go_ret
  exact ⟨rfl, rfl⟩

theorem bad_any (P : Nat) (s : List UInt8) (bad : Bool) (w : World) (h : Rd w P s bad) :
    Calls Try.prog 57 #[.pointer (some ⟨P, 0, none⟩)] w fun e w' => e = .returned (.bool bad) ∧ w = w' := by
  have c1 := h.c1
  clear h
  go_enter Try.func57, Try.ntmps57
  go_wp2
  go_ret
  exact ⟨rfl, rfl⟩

theorem left_good (P : Nat) (s : List UInt8) (w : World) (h : Rd w P s false) :
    Calls Try.prog 56 #[.pointer (some ⟨P, 0, none⟩)] w fun e w' => e = .returned (.int .i64 s.length) ∧ w = w' := by
  have HR := Lib.hid h
  have c0 := h.c0
  have hz := bs_size s
  clear h
  go_enter Try.func56, Try.ntmps56
  go_wp2_with (go_at_call 57; refine (bad_any P s false _ HR.out).mono ?_; rintro e w' ⟨rfl, rfl⟩)
  go_ret
  exact ⟨rfl, rfl⟩
theorem left_bad (P : Nat) (s : List UInt8) (w : World) (h : Rd w P s true) :
    Calls Try.prog 56 #[.pointer (some ⟨P, 0, none⟩)] w fun e w' => e = .returned (.int .i64 0) ∧ w = w' := by
  have HR := Lib.hid h
  clear h
  go_enter Try.func56, Try.ntmps56
  go_wp2_with (go_at_call 57; refine (bad_any P s true _ HR.out).mono ?_; rintro e w' ⟨rfl, rfl⟩)
  go_ret
  exact ⟨rfl, rfl⟩

theorem spoil_any (P : Nat) (s : List UInt8) (bad : Bool) (w : World) (h : Rd w P s bad) :
    Calls Try.prog 50 #[.pointer (some ⟨P, 0, none⟩)] w fun e w' => e = .returned (.tuple #[]) ∧ Rd w' P [] true ∧ Step (· = P) w w' := by
  have c0 := h.c0
  have c1 := h.c1
  have f0 := h.f0
  have f1 := h.f1
  have HR := Lib.hid h
  clear h
  go_enter Try.func50, Try.ntmps50
  go_wp2
  go_end0
  exact ⟨rfl, ⟨by rw [set_blk (set_blk HR.out.blk _) _]; rfl⟩, ((Step.refl _ _).own _).own _⟩

theorem ret_str {a b : ByteArray} (h : a = b) : Ending.returned (.string a) = .returned (.string b) := by rw [h]
/-- Raw, where so many bytes are left. -/
theorem raw_ok (P : Nat) (s : List UInt8) (n : Nat) (hn : n ≤ s.length) (hs : s.length ≤ 140737488355328) (w : World) (h : Rd w P s false) :
    Calls Try.prog 51 #[.pointer (some ⟨P, 0, none⟩), .int .i64 n] w fun e w' => e = .returned (.string (bs (s.take n))) ∧ Rd w' P (s.drop n) false ∧ Step (· = P) w w' := by
  have c0 := h.c0
  have f0 := h.f0
  have hz := bs_size s
  have HR := Lib.hid h
  have h0 : decide ((n : Int) < 0) = false := by simp
  have h1 : decide (s.length < n) = false := by simp; omega
  clear h
  go_enter Try.func51, Try.ntmps51
  go_wp2_with (first | (go_at_call 56; refine (left_good P s _ HR.out).mono ?_; rintro e w' ⟨rfl, rfl⟩) | (go_at_call 57; refine (bad_any P s false _ HR.out).mono ?_; rintro e w' ⟨rfl, rfl⟩))
  go_ret
  refine ⟨ret_str (by simp [bs_take]), ⟨?_⟩, (Step.refl _ _).own _⟩
  rw [set_blk HR.out.blk _, ← hz, bs_drop]
  rfl
/-- Raw, where it is bad. -/
theorem raw_neg (P : Nat) (s : List UInt8) (bad : Bool) (n : Int) (hn : n < 0) (w : World) (h : Rd w P s bad) :
    Calls Try.prog 51 #[.pointer (some ⟨P, 0, none⟩), .int .i64 n] w fun e w' => e = .returned (.string (bs [])) ∧ Rd w' P [] true ∧ Step (· = P) w w' := by
  have HR := Lib.hid h
  have h0 : decide (n < 0) = true := by simp; omega
  clear h
  go_enter Try.func51, Try.ntmps51
  go_wp2_with (go_at_call 50; refine (spoil_any P s bad _ HR.out).mono ?_; rintro e w' ⟨rfl, hr, hst⟩)
  go_ret
  exact ⟨rfl, hr, hst⟩
theorem raw_more (P : Nat) (s : List UInt8) (n : Nat) (hn : s.length < n) (w : World) (h : Rd w P s false) :
    Calls Try.prog 51 #[.pointer (some ⟨P, 0, none⟩), .int .i64 n] w fun e w' => e = .returned (.string (bs [])) ∧ Rd w' P [] true ∧ Step (· = P) w w' := by
  have HR := Lib.hid h
  have h0 : decide ((n : Int) < 0) = false := by simp
  have h1 : decide (s.length < n) = true := by simp; omega
  clear h
  go_enter Try.func51, Try.ntmps51
  go_wp2_with (first | (go_at_call 56; refine (left_good P s _ HR.out).mono ?_; rintro e w' ⟨rfl, rfl⟩) | (go_at_call 50; refine (spoil_any P s false _ HR.out).mono ?_; rintro e w' ⟨rfl, hr, hst⟩))
  go_ret
  exact ⟨rfl, hr, hst⟩
theorem raw_bad (P : Nat) (n : Nat) (w : World) (h : Rd w P [] true) :
    Calls Try.prog 51 #[.pointer (some ⟨P, 0, none⟩), .int .i64 n] w fun e w' => e = .returned (.string (bs [])) ∧ Rd w' P [] true ∧ Step (· = P) w w' := by
  have HR := Lib.hid h
  have h0 : decide ((n : Int) < 0) = false := by simp
  clear h
  by_cases hn : 0 < n
  · have h1 : decide ((0 : Int) < n) = true := by simp; omega
    go_enter Try.func51, Try.ntmps51
    go_wp2_with (first | (go_at_call 56; refine (left_bad P [] _ HR.out).mono ?_; rintro e w' ⟨rfl, rfl⟩) | (go_at_call 50; refine (spoil_any P [] true _ HR.out).mono ?_; rintro e w' ⟨rfl, hr, hst⟩))
    go_ret
    exact ⟨rfl, hr, hst⟩
  · have h1 : decide ((0 : Int) < n) = false := by simp; omega
    go_enter Try.func51, Try.ntmps51
    go_wp2_with (first | (go_at_call 56; refine (left_bad P [] _ HR.out).mono ?_; rintro e w' ⟨rfl, rfl⟩) | (go_at_call 57; refine (bad_any P [] true _ HR.out).mono ?_; rintro e w' ⟨rfl, rfl⟩) | (go_at_call 50; refine (spoil_any P [] true _ HR.out).mono ?_; rintro e w' ⟨rfl, hr, hst⟩))
    go_ret
    exact ⟨rfl, hr, hst⟩
end Go.Proofs.Yticmkepocacmhaa
