/-
  THE LAW plimsolllaw01.WideTexts: texts and sums are the document's: the walk: it answers true, of any number, any text, and any numbers.
-/
import Derived.Test.YtnbchhjanlpdlaaDoorWt
import Derived.Test.YtnbchhjanlpdlaaDoorRp
import Derived.Test.YtnbchhjanlpdlaaDoorFr5
namespace Go.Proofs.YtnbchhjanlpdlaaDoor
open Go Go.RowKit

def sumEnd (l : List U) : Ending := .returned (.tuple #[.agg #[.int .u64 (hiZ (cutU (sumN l))), .int .u64 (loZ (cutU (sumN l)))], .int .i64 (cutE (sumN l))])
set_option maxHeartbeats 1000000 in
theorem sum_nil (p : Option Addr) (cap : Nat) (w : World) : Calls Tryd.prog 21 #[.slice p 0 cap] w fun e w' => e = sumEnd [] ∧ Below w.heap.size w w' := by
  go_enter Tryd.func21, Tryd.ntmps21
  go_wp2_with fail
  go_loopw [11] (fun i wr => i = .int .i64 0 ∧ wr = ((w.alloc (.cells #[.int .u64 0, .int .u64 0] 24)).alloc (.cells #[.int .u64 0, .int .u64 0] 24))) (fun _ _ => 0)
  case atStart => exact ⟨rfl, rfl⟩
  case round =>
    obtain ⟨rfl, rfl⟩ := hrel
    go_wp2_with fail
    refine bodyPost_ret (v := .tuple #[.agg #[.int .u64 0, .int .u64 0], .int .i64 0]) (by simp [results, Tryd.results21, go_sem]) rfl ?_
    exact ⟨rfl, by go_grown⟩
set_option maxHeartbeats 1000000 in
theorem rsum_nil (p : Option Addr) (cap : Nat) (w : World) : Calls Tryd.prog 22 #[.slice p 0 cap] w fun e w' => e = sumEnd [] ∧ Below w.heap.size w w' := by
  go_enter Tryd.func22, Tryd.ntmps22
  go_wp2_with fail
  go_loopw [11] (fun i wr => i = .int .i64 0 ∧ wr = ((w.alloc (.cells #[.int .u64 0, .int .u64 0] 24)).alloc (.cells #[.int .u64 0, .int .u64 0] 24))) (fun _ _ => 0)
  case atStart => exact ⟨rfl, rfl⟩
  case round =>
    obtain ⟨rfl, rfl⟩ := hrel
    go_wp2_with fail
    refine bodyPost_ret (v := .tuple #[.agg #[.int .u64 0, .int .u64 0], .int .i64 0]) (by simp [results, Tryd.results22, go_sem]) rfl ?_
    exact ⟨rfl, by go_grown⟩
/-- What the sums' calls give, of a slice that stood at the start. -/
def Sums (f : FuncId) (v : Value) (l : List U) (w : World) : Prop := ∀ w' : World, Below w.heap.size w w' → Calls Tryd.prog f #[v] w' fun e w'' =>
  e = .returned (.tuple #[.agg #[.int .u64 (hiZ (cutU (sumN l))), .int .u64 (loZ (cutU (sumN l)))], .int .i64 (cutE (sumN l))]) ∧ Below w'.heap.size w' w''

theorem rowOf_keep {w w' : World} {b off : Nat} {l : List U} (h : rowOf w b off l) (hb : b < w.heap.size) (hB : Below w.heap.size w w') : rowOf w' b off l := fun i hi => by
  obtain ⟨h0, h1⟩ := h i hi
  exact ⟨by rw [hB.cell (p := ⟨b, off + i * 2, none⟩) hb]; exact h0, by rw [hB.cell (p := ⟨b, off + i * 2 + 1, none⟩) hb]; exact h1⟩
theorem sums_of {W : World} {ao : Option Addr} {b off cap : Nat} {l : List U} (hat : WidesAt W ao b off cap l) (hm : l.length ≤ 9223372036854775807) :
    Sums 21 (.slice ao l.length cap) l W ∧ Sums 22 (.slice ao l.length cap) l W := by
  by_cases hl : l = []
  · subst hl
    exact ⟨fun w' _ => sum_nil ao cap w', fun w' _ => rsum_nil ao cap w'⟩
  · have h0 : 0 < l.length := List.length_pos_iff.2 hl
    rcases hat.at_ with ⟨_, h, _⟩ | ⟨spot, rfl, h⟩
    · exact absurd h hl
    · obtain ⟨rfl, hb⟩ := h h0
      exact ⟨fun w' hB => sum_any l b off cap w' (rowOf_keep hat.cell hb hB) (Nat.lt_of_lt_of_le hb hB.size) hm, fun w' hB => rsum l b off cap w' (rowOf_keep hat.cell hb hB) (Nat.lt_of_lt_of_le hb hB.size) hm⟩

set_option maxHeartbeats 8000000 in
set_option maxRecDepth 100000 in
theorem wtexts_walk (a : U) (s : ByteArray) (p : Option Addr) (cap : Nat) (l : List U) (w : World) (htab : tabs w) (hsz : s.size ≤ 9223372036854775807) (hln : l.length ≤ 9223372036854775807)
    (hS : Sums 21 (.slice p l.length cap) l w) (hR : Sums 22 (.slice p l.length cap) l w) :
    Calls Tryd.prog 4 #[.agg #[.int .u64 (hiZ a), .int .u64 (loZ a)], .string s, .slice p l.length cap] w fun e w' =>
      e = .returned (.bool true) ∧ Below w.heap.size w w' := by
  have HT := Lib.hid htab
  have HS := Lib.hid hS
  have HR := Lib.hid hR
  have HSZ := Lib.hid hsz
  have hln' : (l.length : Int) ≤ 9223372036854775807 := by omega
  have hsz' : (s.size : Int) ≤ 9223372036854775807 := by omega
  clear htab hS hR
  by_cases h1 : 1000 < s.size
  · have h1' : (1000 : Int) < (s.size : Int) := by omega
    clear h1
    go_enter Tryd.func4, Tryd.ntmps4
    go_wp2_with fail
    refine (lives_any _ (tabs_stays HT.out (by go_grown))).mono ?_
    rintro e w1 ⟨rfl, hb1⟩
    go_wp2_with fail
    go_ret
    exact ⟨rfl, below_of (show Below w.heap.size w _ by go_grown) hb1⟩
  · have h1' : (s.size : Int) ≤ 1000 := by omega
    by_cases h2 : 200 < l.length
    · have h2' : (200 : Int) < (l.length : Int) := by omega
      clear h1 h2
      go_enter Tryd.func4, Tryd.ntmps4
      go_wp2_with fail
      refine (lives_any _ (tabs_stays HT.out (by go_grown))).mono ?_
      rintro e w1 ⟨rfl, hb1⟩
      go_wp2_with fail
      go_ret
      exact ⟨rfl, below_of (show Below w.heap.size w _ by go_grown) hb1⟩
    · have h2' : (l.length : Int) ≤ 200 := by omega
      have H1 := Lib.hid (Nat.le_of_not_lt h1)
      clear h1 h2 hsz hln
      go_enter Tryd.func4, Tryd.ntmps4
      go_wp2_with fail
      refine (parse_any s _ HSZ.out).mono ?_
      rintro e w1 ⟨rfl, hb1⟩
      have G1 : Hid (Bag [(w.heap.size, hiZ a, loZ a)] w1) := Bag.keep ((Bag.nil w).push rfl (hiZ a) (loZ a)) hb1
      have U1 : Hid (Below w.heap.size w w1) := below_of (by go_grown) hb1
      clear hb1
      go_wp2_with fail
      refine (rparse s _ H1.out).mono ?_
      rintro e w2 ⟨rfl, hb2⟩
      have G2 : Hid (Bag [(w.heap.size, hiZ a, loZ a), (w1.heap.size, hiZ (parU s.data.toList), loZ (parU s.data.toList))] w2) := Bag.keep (G1.out.push rfl _ _) hb2
      have U2 : Hid (Below w.heap.size w w2) := below_of (U1.out.alloc U1.out.size _) hb2
      clear hb2
      go_wp2_with fail
      refine (HS.out _ (U2.out.alloc U2.out.size _)).mono ?_
      rintro e w3 ⟨rfl, hb3⟩
      have G3 : Hid (Bag [(w.heap.size, hiZ a, loZ a), (w1.heap.size, hiZ (parU s.data.toList), loZ (parU s.data.toList)), (w2.heap.size, hiZ (parU s.data.toList), loZ (parU s.data.toList))] w3) := Bag.keep (G2.out.push rfl _ _) hb3
      have U3 : Hid (Below w.heap.size w w3) := below_of (U2.out.alloc U2.out.size _) hb3
      clear hb3
      go_wp2_with fail
      refine (HR.out _ (U3.out.alloc U3.out.size _)).mono ?_
      rintro e w4 ⟨rfl, hb4⟩
      have G4 : Hid (Bag [(w.heap.size, hiZ a, loZ a), (w1.heap.size, hiZ (parU s.data.toList), loZ (parU s.data.toList)), (w2.heap.size, hiZ (parU s.data.toList), loZ (parU s.data.toList)), (w3.heap.size, hiZ (cutU (sumN l)), loZ (cutU (sumN l)))] w4) := Bag.keep (G3.out.push rfl _ _) hb4
      have U4 : Hid (Below w.heap.size w w4) := below_of (U3.out.alloc U3.out.size _) hb4
      clear hb4
      go_wp2_with fail
      obtain ⟨wz, hwz⟩ : ∃ x, x = w4.alloc (.cells #[.int .u64 (hiZ (cutU (sumN l))), .int .u64 (loZ (cutU (sumN l)))] 24) := ⟨_, rfl⟩
      have GZ : Bag [(w.heap.size, hiZ a, loZ a), (w1.heap.size, hiZ (parU s.data.toList), loZ (parU s.data.toList)), (w2.heap.size, hiZ (parU s.data.toList), loZ (parU s.data.toList)), (w3.heap.size, hiZ (cutU (sumN l)), loZ (cutU (sumN l))), (w4.heap.size, hiZ (cutU (sumN l)), loZ (cutU (sumN l)))] wz.drew := by rw [hwz]; exact Bag.drew (G4.out.push rfl _ _)
      have UZ : Below w.heap.size w wz.drew := by rw [hwz]; exact (U4.out.alloc U4.out.size _).drew
      rw [← hwz]
      clear hwz G1 G2 G3 G4 U1 U2 U3 U4 HS HR
      have f0 := (Bag.at GZ (i := 0) rfl).c0
      have g0 := (Bag.at GZ (i := 0) rfl).c1
      have f1 := (Bag.at GZ (i := 1) rfl).c0
      have g1 := (Bag.at GZ (i := 1) rfl).c1
      have f2 := (Bag.at GZ (i := 2) rfl).c0
      have g2 := (Bag.at GZ (i := 2) rfl).c1
      have f3 := (Bag.at GZ (i := 3) rfl).c0
      have g3 := (Bag.at GZ (i := 3) rfl).c1
      have f4 := (Bag.at GZ (i := 4) rfl).c0
      have g4 := (Bag.at GZ (i := 4) rfl).c1
      go_region_held3 (fun w' => w'.cell? ⟨w.heap.size, 0, none⟩ = some (.int .u64 (hiZ a)) ∧ w'.cell? ⟨w.heap.size, 1, none⟩ = some (.int .u64 (loZ a)) ∧ w'.cell? ⟨w1.heap.size, 0, none⟩ = some (.int .u64 (hiZ (parU s.data.toList))) ∧ w'.cell? ⟨w1.heap.size, 1, none⟩ = some (.int .u64 (loZ (parU s.data.toList))) ∧ w'.cell? ⟨w2.heap.size, 0, none⟩ = some (.int .u64 (hiZ (parU s.data.toList))) ∧ w'.cell? ⟨w2.heap.size, 1, none⟩ = some (.int .u64 (loZ (parU s.data.toList))) ∧ w'.cell? ⟨w3.heap.size, 0, none⟩ = some (.int .u64 (hiZ (cutU (sumN l)))) ∧ w'.cell? ⟨w3.heap.size, 1, none⟩ = some (.int .u64 (loZ (cutU (sumN l)))) ∧ w'.cell? ⟨w4.heap.size, 0, none⟩ = some (.int .u64 (hiZ (cutU (sumN l)))) ∧ w'.cell? ⟨w4.heap.size, 1, none⟩ = some (.int .u64 (loZ (cutU (sumN l))))) (exact ⟨by assumption, by assumption, by assumption, by assumption, by assumption, by assumption, by assumption, by assumption, by assumption, by assumption⟩) ((first
        | (go_at_call 15; refine (lives_any _ (tabs_stays HT.out (by assumption))).mono ?_; rintro e wx ⟨rfl, hbx⟩; have gx := Bag.keep (by assumption) hbx; have ux : Below w.heap.size w wx := below_of (by assumption) hbx; clear hbx; have f0 := (Bag.at gx (i := 0) rfl).c0; have g0 := (Bag.at gx (i := 0) rfl).c1; have f1 := (Bag.at gx (i := 1) rfl).c0; have g1 := (Bag.at gx (i := 1) rfl).c1; have f2 := (Bag.at gx (i := 2) rfl).c0; have g2 := (Bag.at gx (i := 2) rfl).c1; have f3 := (Bag.at gx (i := 3) rfl).c0; have g3 := (Bag.at gx (i := 3) rfl).c1; have f4 := (Bag.at gx (i := 4) rfl).c0; have g4 := (Bag.at gx (i := 4) rfl).c1)
        | (go_at_call 23; refine (text_of a _ (tabs_stays HT.out (by assumption))).mono ?_; rintro e wx ⟨rfl, hbx⟩; have gx := Bag.keep (by assumption) hbx; have ux : Below w.heap.size w wx := below_of (by assumption) hbx; clear hbx; have f0 := (Bag.at gx (i := 0) rfl).c0; have g0 := (Bag.at gx (i := 0) rfl).c1; have f1 := (Bag.at gx (i := 1) rfl).c0; have g1 := (Bag.at gx (i := 1) rfl).c1; have f2 := (Bag.at gx (i := 2) rfl).c0; have g2 := (Bag.at gx (i := 2) rfl).c1; have f3 := (Bag.at gx (i := 3) rfl).c0; have g3 := (Bag.at gx (i := 3) rfl).c1; have f4 := (Bag.at gx (i := 4) rfl).c0; have g4 := (Bag.at gx (i := 4) rfl).c1)
        | (go_at_call 24; refine (rtext (a.n + 1) a _ (by omega)).mono ?_; rintro e wx ⟨rfl, hbx⟩; have gx := Bag.keep (by assumption) hbx; have ux : Below w.heap.size w wx := below_of (by assumption) hbx; clear hbx; have f0 := (Bag.at gx (i := 0) rfl).c0; have g0 := (Bag.at gx (i := 0) rfl).c1; have f1 := (Bag.at gx (i := 1) rfl).c0; have g1 := (Bag.at gx (i := 1) rfl).c1; have f2 := (Bag.at gx (i := 2) rfl).c0; have g2 := (Bag.at gx (i := 2) rfl).c1; have f3 := (Bag.at gx (i := 3) rfl).c0; have g3 := (Bag.at gx (i := 3) rfl).c1; have f4 := (Bag.at gx (i := 4) rfl).c0; have g4 := (Bag.at gx (i := 4) rfl).c1)))
      go_wp2_with fail
      go_ret
      exact ⟨rfl, by assumption⟩
end Go.Proofs.YtnbchhjanlpdlaaDoor
