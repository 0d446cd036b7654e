/-
  THE LAW plimsolllaw03.CodecBack: the walk: it answers true, of any acts.
-/
import Derived.Test.YtkoajibjlcnjgaaLv3
import Derived.Test.YtkoajibjlcnjgaaFr2
import Derived.Test.YtkoajibjlcnjgaaCr
import Derived.LoopTactic
import Derived.Laws.BitsLemmas
import Derived.Deep.RegionHeld3
namespace Go.Proofs.Ytkoajibjlcnjgaa
open Go Go.RowKit

/-- An act's bytes. -/
def chunk (a : ActV) : List UInt8 := ub a.n ++ (ub (zz (wrap64 a.n)) ++ ((ub a.text.length ++ a.text) ++ fxF 8 a.n))
def chunks : List ActV → List UInt8
  | [] => []
  | a :: l => chunk a ++ chunks l
theorem chunks_append (l m : List ActV) : chunks (l ++ m) = chunks l ++ chunks m := by
  induction l with
  | nil => rfl
  | cons a l ih => simp only [List.cons_append, chunks, ih, List.append_assoc]
theorem chunks_take (l : List ActV) (k : Nat) (h : k < l.length) : chunks (l.take (k + 1)) = chunks (l.take k) ++ chunk l[k] := by
  rw [List.take_succ_eq_append_getElem h, chunks_append]
  simp [chunks]
theorem chunk_len (a : ActV) (h : a.text.length ≤ 2000) : (chunk a).length ≤ 2038 := by
  have h1 := (ub_len a.n).2
  have h2 := (ub_len (zz (wrap64 a.n))).2
  have h3 := (ub_len a.text.length).2
  have h4 := fxF_len 8 a.n
  simp only [chunk, List.length_append]
  omega
theorem chunks_len (l : List ActV) (h : ∀ (i : Nat) (hi : i < l.length), l[i].text.length ≤ 2000) : (chunks l).length ≤ 2038 * l.length := by
  induction l with
  | nil => exact Nat.le_refl _
  | cons a l ih =>
    have h1 := chunk_len a (h 0 (by simp))
    have h2 := ih (fun i hi => h (i + 1) (by simpa using hi))
    simp only [chunks, List.length_append, List.length_cons]
    omega
theorem wrap64_bd (n : Int) : -9223372036854775808 ≤ wrap64 n ∧ wrap64 n ≤ 9223372036854775807 := by unfold wrap64; omega

/-- The block of a local act. -/
structure ActBlk (w : World) (A : Nat) (a : ActV) : Prop where
  blk : w.heap[A]? = some (.cells #[.int .i64 a.kind, .int .u64 a.n, .int .i64 a.width, .string (bs a.text)] 29 (0, 0))
section
variable {w : World} {A : Nat} {a : ActV}
theorem ActBlk.c0 (h : ActBlk w A a) : w.cell? ⟨A, 0, none⟩ = some (.int .i64 a.kind) := by rw [cell_blk h.blk]; rfl
theorem ActBlk.c1 (h : ActBlk w A a) : w.cell? ⟨A, 1, none⟩ = some (.int .u64 a.n) := by rw [cell_blk h.blk]; rfl
theorem ActBlk.c2 (h : ActBlk w A a) : w.cell? ⟨A, 2, none⟩ = some (.int .i64 a.width) := by rw [cell_blk h.blk]; rfl
theorem ActBlk.c3 (h : ActBlk w A a) : w.cell? ⟨A, 3, none⟩ = some (.string (bs a.text)) := by rw [cell_blk h.blk]; rfl
theorem ActBlk.drew' (h : ActBlk w A a) : ActBlk w.drew A a := ⟨h.blk⟩
theorem ActBlk.lt (h : ActBlk w A a) : A < w.heap.size := lt_blk h.blk
theorem ActBlk.step {S : Nat → Prop} {w' : World} (h : ActBlk w A a) (hs : Step S w w') (hn : ¬ S A) : ActBlk w' A a := ⟨(hs.block A h.lt hn).trans h.blk⟩
end
/-- Own blocks from B on, but A. -/
def fromBut (B A k : Nat) : Prop := B ≤ k ∧ k ≠ A
theorem fromBut_not (B A : Nat) : ¬ fromBut B A A := fun h => h.2 rfl

/-- What holds at the head of the writing loop's round. -/
structure WInv (w wr : World) (P k : Nat) (l : List ActV) : Prop where
  le : k ≤ l.length
  short : ∀ (j : Nat) (h : j < l.length), j < k → l[j].text.length ≤ 2000
  has : Wr wr P (from_ w.heap.size) (chunks (l.take k))
  step : Step (from_ w.heap.size) w wr
theorem WInv.len {w wr : World} {P k : Nat} {l : List ActV} (h : WInv w wr P k l) (hl : l.length ≤ 100) : (chunks (l.take k)).length ≤ 203800 := by
  have := chunks_len (l.take k) (fun i hi => by
    simp only [List.getElem_take]
    have hk := h.le
    rw [List.length_take] at hi
    exact h.short i (by omega) (by omega))
  have h2 : (l.take k).length ≤ 100 := by rw [List.length_take]; omega
  omega

set_option maxHeartbeats 4000000 in
set_option maxRecDepth 100000 in
theorem cback_long (ao : Option Addr) (b off cap : Nat) (l : List ActV) (hl : 100 < l.length) (hm : l.length ≤ maxLen) (w : World) :
    Calls Try.prog 5 #[.slice ao l.length cap] w fun e w' => e = .returned (.bool true) ∧ Below w.heap.size w w' := by
  unfold maxLen at hm
  go_enter Try.func5, Try.ntmps5
  go_wp2_with (go_at_call 10; refine (lives3_any _).mono ?_; rintro e w1 ⟨rfl, hb⟩)
  go_ret
  exact ⟨rfl, hb⟩


set_option maxHeartbeats 4000000 in
set_option maxRecDepth 100000 in
theorem cback_any (ao : Option Addr) (b off cap : Nat) (l : List ActV) (hl : l.length ≤ 100) (w : World) (h : ActsAt w ao b off l) :
    Calls Try.prog 5 #[.slice ao l.length cap] w fun e w' => e = .returned (.bool true) ∧ Below w.heap.size w w' := by
  have HA := Lib.hid h
  clear h
  have hl' : (l.length : Int) ≤ 100 := by omega
  go_enter Try.func5, Try.ntmps5
  go_wp2_with (go_at_call 10; refine (lives3_any _).mono ?_; rintro e w1 ⟨rfl, hb⟩)
  have hI : WInv w (w1.alloc (.cells #[.pointer none, .int .i64 0] 26)) w1.heap.size 0 l :=
    ⟨Nat.zero_le _, fun j h h0 => by omega, (Wr.made w1).shrink (fun k h _ => by rw [h]; exact hb.size), (Step.of_below hb).alloc _⟩
  have HI := Lib.hid hI
  clear hI hb
  generalize (w1.alloc (.cells #[.pointer none, .int .i64 0] 26)) = w2 at *
  generalize w1.heap.size = P at *
  go_loopw [16] (fun i wr => ∃ k : Nat, WInv w wr P k l ∧ i = .int .i64 k) (fun i _ => l.length - (intOf i).toNat)
  case atStart => exact ⟨0, HI.out, rfl⟩
  case round =>
    obtain ⟨k, hI, rfl⟩ := hrel
    clear HI
    have HI := Lib.hid hI
    have hk := hI.le
    clear hI
    by_cases hlt : k < l.length
    · obtain ⟨rfl, hbw⟩ := HA.out.at_ (by omega)
      obtain ⟨c0, c1, c2, c3⟩ := HA.out.cell k hlt
      have hB := HI.out.step.toBelow
      have d0 := (hB.cell (p := ⟨b, off + k * 4, none⟩) hbw).trans c0
      have d1 := (hB.cell (p := ⟨b, off + k * 4 + 1, none⟩) hbw).trans c1
      have d2 := (hB.cell (p := ⟨b, off + k * 4 + 2, none⟩) hbw).trans c2
      have d3 := (hB.cell (p := ⟨b, off + k * 4 + 3, none⟩) hbw).trans c3
      have hz := bs_size l[k].text
      clear c0 c1 c2 c3 hB
      obtain ⟨hf1, hf2, _⟩ := HA.out.fits k hlt
      generalize hak : l[k] = a at d0 d1 d2 d3 hz hf1 hf2
      have HK := Lib.hid hak
      clear hak
      by_cases h2 : 2000 < a.text.length
      · go_wp2_with fail
        go_ret
        exact ⟨rfl, (HI.out.step.alloc _).toBelow⟩
      · have hLn := HI.out.len hl
        have HT : Hid (a.text.length ≤ 2000) := by show _ ≤ _; omega
        have HL : Hid ((chunks (l.take k)).length ≤ 203800) := hLn
        have HN : Hid (a.n < 18446744073709551616) := hf1
        have hWB := wrap64_bd a.n
        have HWB := Lib.hid hWB
        clear hLn hf1 hf2 hWB
        go_wp2_with fail
        have hA : ActBlk (wr.alloc (.cells #[.int .i64 a.kind, .int .u64 a.n, .int .i64 a.width, .string (bs a.text)] 29)) wr.heap.size a := ⟨alloc_blk _ _⟩
        have hW0 : Wr (wr.alloc (.cells #[.int .i64 a.kind, .int .u64 a.n, .int .i64 a.width, .string (bs a.text)] 29)) P (fromBut w.heap.size wr.heap.size) (chunks (l.take k)) :=
          (HI.out.has.shrink (own2 := fromBut w.heap.size wr.heap.size) (fun k h1 h2 => ⟨h1, by omega⟩)).step (S := fun _ => False) ((Step.refl _ _).alloc _) (fun _ _ _ h => h)
        have hS0 : Step (from_ w.heap.size) w (wr.alloc (.cells #[.int .i64 a.kind, .int .u64 a.n, .int .i64 a.width, .string (bs a.text)] 29)) := HI.out.step.alloc _
        have hBA : w.heap.size ≤ wr.heap.size := HI.out.step.size
        have HN0 : Hid (∀ k, (wr.alloc (.cells #[.int .i64 a.kind, .int .u64 a.n, .int .i64 a.width, .string (bs a.text)] 29)).heap.size ≤ k → fromBut w.heap.size wr.heap.size k) := fun k hk => by
          have e : (wr.alloc (.cells #[.int .i64 a.kind, .int .u64 a.n, .int .i64 a.width, .string (bs a.text)] 29)).heap.size = wr.heap.size + 1 := by simp
          rw [e] at hk
          exact ⟨by omega, by omega⟩
        have HAB := Lib.hid hA
        have HW0 := Lib.hid hW0
        have HS0 := Lib.hid hS0
        clear hA hW0 hS0 hBA d0 d1 d2 d3
        generalize (wr.alloc (.cells #[.int .i64 a.kind, .int .u64 a.n, .int .i64 a.width, .string (bs a.text)] 29)) = v0 at *
        generalize wr.heap.size = A at *

        have c1 := HAB.out.c1
        have c3 := HAB.out.c3
        
        refine (wuint_any (by have := HL.out; omega) HN.out HW0.out HN0.out).mono ?_
        rintro e v1 ⟨rfl, hw, hs⟩
        have HAB1 : Hid (ActBlk v1 A a) := HAB.out.step hs (fromBut_not _ _)
        have HW1 := Lib.hid hw
        have HN1 : Hid (∀ k, v1.heap.size ≤ k → fromBut w.heap.size A k) := fun k hk => HN0.out k (Nat.le_trans hs.size hk)
        have HS1 : Hid (Step (from_ w.heap.size) w v1) := HS0.out.trans (hs.mono (fun _ h => h.1))
        clear c1 c3 hw hs HAB HW0 HN0 HS0
        have c1 := HAB1.out.c1
        have c3 := HAB1.out.c3
        go_wp2_with fail
        refine (wint_any (n := wrap64 a.n) (by have := HL.out; have := (ub_len a.n).2; rw [List.length_append]; omega) HWB.out.1 HWB.out.2 HW1.out HN1.out).mono ?_
        rintro e v2 ⟨rfl, hw, hs⟩
        have HAB2 : Hid (ActBlk v2 A a) := HAB1.out.step hs (fromBut_not _ _)
        have HW2 := Lib.hid hw
        have HN2 : Hid (∀ k, v2.heap.size ≤ k → fromBut w.heap.size A k) := fun k hk => HN1.out k (Nat.le_trans hs.size hk)
        have HS2 : Hid (Step (from_ w.heap.size) w v2) := HS1.out.trans (hs.mono (fun _ h => h.1))
        clear c1 c3 hw hs HAB1 HW1 HN1 HS1
        have c1 := HAB2.out.c1
        have c3 := HAB2.out.c3
        go_wp2_with fail
        refine (wtext_any a.text (by have := HL.out; have := HT.out; have := (ub_len a.n).2; have := (ub_len (zz (wrap64 a.n))).2; simp only [List.length_append]; omega) HW2.out HN2.out).mono ?_
        rintro e v3 ⟨rfl, hw, hs⟩
        have HAB3 : Hid (ActBlk v3 A a) := HAB2.out.step hs (fromBut_not _ _)
        have HW3 := Lib.hid hw
        have HN3 : Hid (∀ k, v3.heap.size ≤ k → fromBut w.heap.size A k) := fun k hk => HN2.out k (Nat.le_trans hs.size hk)
        have HS3 : Hid (Step (from_ w.heap.size) w v3) := HS2.out.trans (hs.mono (fun _ h => h.1))
        clear c1 c3 hw hs HAB2 HW2 HN2 HS2
        have c1 := HAB3.out.c1
        have c3 := HAB3.out.c3
        go_wp2_with fail
        refine (wfixed_any (m := 8) (n := a.n) (by have := HL.out; have := HT.out; have := (ub_len a.n).2; have := (ub_len (zz (wrap64 a.n))).2; have := (ub_len a.text.length).2; simp only [List.length_append]; omega) HN.out (by decide) (by decide) HW3.out HN3.out).mono ?_
        rintro e v4 ⟨rfl, hw, hs⟩
        have HAB4 : Hid (ActBlk v4 A a) := HAB3.out.step hs (fromBut_not _ _)
        have HW4 := Lib.hid hw
        have HN4 : Hid (∀ k, v4.heap.size ≤ k → fromBut w.heap.size A k) := fun k hk => HN3.out k (Nat.le_trans hs.size hk)
        have HS4 : Hid (Step (from_ w.heap.size) w v4) := HS3.out.trans (hs.mono (fun _ h => h.1))
        clear c1 c3 hw hs HAB3 HW3 HN3 HS3
        go_wp2_with fail
        go_roundw
        case rel =>
          refine ⟨k + 1, ⟨by omega, ?_, ?_, HS4.out⟩, by go_num⟩
          · intro j hj hjk
            rcases Nat.lt_or_ge j k with h | h
            · exact HI.out.short j hj h
            · have e : j = k := by omega
              subst e
              rw [HK.out]; exact HT.out
          · rw [chunks_take l k hlt, HK.out, chunk, ← List.append_assoc, ← List.append_assoc, ← List.append_assoc]
            exact HW4.out.shrink (fun k h _ => h.1)
        case measure => simp [intOf]; omega
    · obtain rfl : k = l.length := by omega
      have hLn := HI.out.len hl
      have hW := HI.out.has
      rw [List.take_length] at hLn hW
      have hsh : ∀ (j : Nat) (h : j < l.length), l[j].text.length ≤ 2000 := fun j h => HI.out.short j h h
      have HSH := Lib.hid hsh
      have HW := Lib.hid hW
      have HS := Lib.hid HI.out.step
      have HLn := Lib.hid hLn
      clear hLn hW hsh HI
      go_wp2_with fail
      refine (out_any (by have := HLn.out; omega) HW.out).mono ?_
      rintro e v1 ⟨rfl, hd⟩
      have HS1 : Hid (Step (from_ w.heap.size) w v1) := HS.out.trans hd.step
      clear hd HW HS
      go_wp2_with fail
      refine (ropen_any _ _).mono ?_
      rintro e v2 ⟨rfl, rfl⟩
      have HR := Lib.hid (Rd.new v1 (chunks l))
      have HS2 : Hid (Step (from_ w.heap.size) w (v1.alloc (.cells #[.string (bs (chunks l)), .bool false] 72))) := HS1.out.alloc _
      have hq : w.heap.size ≤ v1.heap.size := HS1.out.size
      have HQ := Lib.hid hq
      clear hq HS1
      generalize (v1.alloc (.cells #[.string (bs (chunks l)), .bool false] 72)) = v2 at *
      generalize v1.heap.size = R at *
      go_wp2_with fail
      go_loopw [44] (fun i wr => ∃ k : Nat, k ≤ l.length ∧ Rd wr R (chunks (l.drop k)) false ∧ Step (from_ w.heap.size) w wr ∧ i = .int .i64 k) (fun i _ => l.length - (intOf i).toNat)
      case atStart => exact ⟨0, Nat.zero_le _, HR.out, HS2.out, rfl⟩
      case round =>
        obtain ⟨k, hk, hR, hS, rfl⟩ := hrel
        clear HR HS2
        have HR := Lib.hid hR
        have HS := Lib.hid hS
        clear hR hS
        have hdl : (chunks (l.drop k)).length ≤ 203800 := by
          have := chunks_len (l.drop k) (fun i hi => by
            simp only [List.getElem_drop]
            exact HSH.out _ _)
          have h2 : (l.drop k).length ≤ 100 := by rw [List.length_drop]; omega
          omega
        have HDL := Lib.hid hdl
        clear hdl
        by_cases hlt : k < l.length
        · obtain ⟨rfl, hbw⟩ := HA.out.at_ (by omega)
          obtain ⟨c0, c1, c2, c3⟩ := HA.out.cell k hlt
          have hB := HS.out.toBelow
          have d0 := (hB.cell (p := ⟨b, off + k * 4, none⟩) hbw).trans c0
          have d1 := (hB.cell (p := ⟨b, off + k * 4 + 1, none⟩) hbw).trans c1
          have d2 := (hB.cell (p := ⟨b, off + k * 4 + 2, none⟩) hbw).trans c2
          have d3 := (hB.cell (p := ⟨b, off + k * 4 + 3, none⟩) hbw).trans c3
          clear c0 c1 c2 c3 hB
          obtain ⟨hf1, hf2, _⟩ := HA.out.fits k hlt
          have hT := HSH.out k hlt
          have he : chunks (l.drop k) = chunk l[k] ++ chunks (l.drop (k + 1)) := by rw [List.drop_eq_getElem_cons hlt]; rfl
          generalize l[k] = a at d0 d1 d2 d3 hf1 hf2 he hT
          have HE := Lib.hid he
          have HT := Lib.hid hT
          have HN : Hid (a.n < 18446744073709551616) := hf1
          clear he hf1 hf2 hT
          go_wp2_with fail
          have hA : ActBlk (wr.alloc (.cells #[.int .i64 a.kind, .int .u64 a.n, .int .i64 a.width, .string (bs a.text)] 29)) wr.heap.size a := ⟨alloc_blk _ _⟩
          have hR0 : Rd (wr.alloc (.cells #[.int .i64 a.kind, .int .u64 a.n, .int .i64 a.width, .string (bs a.text)] 29)) R (chunks (l.drop k)) false := HR.out.step (S := fun _ => False) ((Step.refl _ _).alloc _) (fun h => h)
          rw [HE.out] at hR0
          have hS0 : Step (from_ w.heap.size) w (wr.alloc (.cells #[.int .i64 a.kind, .int .u64 a.n, .int .i64 a.width, .string (bs a.text)] 29)) := HS.out.alloc _
          have HNE : Hid (¬ wr.heap.size = R) := (Nat.ne_of_lt HR.out.lt).symm
          have hl0 : (chunk a ++ chunks (l.drop (k + 1))).length ≤ 203800 := by rw [← HE.out]; exact HDL.out
          simp only [chunk, List.append_assoc] at hR0 hl0
          rw [← List.append_assoc (ub a.text.length)] at hR0 hl0
          have HAB0 := Lib.hid hA
          have HR0 := Lib.hid hR0
          have HS0 := Lib.hid hS0
          have HL0 : Hid ((ub a.n ++ (ub (zz (wrap64 a.n)) ++ (ub a.text.length ++ a.text ++ (fxF 8 a.n ++ chunks (l.drop (k + 1)))))).length ≤ 140737488355328) := by show _ ≤ _; omega
          have HL1 : Hid ((ub (zz (wrap64 a.n)) ++ (ub a.text.length ++ a.text ++ (fxF 8 a.n ++ chunks (l.drop (k + 1))))).length ≤ 140737488355328) := by show _ ≤ _; simp only [List.length_append] at hl0 ⊢; omega
          have HL2 : Hid ((ub a.text.length ++ a.text ++ (fxF 8 a.n ++ chunks (l.drop (k + 1)))).length ≤ 140737488355328) := by show _ ≤ _; simp only [List.length_append] at hl0 ⊢; omega
          have HL3 : Hid ((fxF 8 a.n ++ chunks (l.drop (k + 1))).length ≤ 140737488355328) := by show _ ≤ _; simp only [List.length_append] at hl0 ⊢; omega
          have hWB := wrap64_bd a.n
          have HWB := Lib.hid hWB
          clear hA hR0 hS0 hl0 d0 d1 d2 d3 HR HS hWB
          generalize (wr.alloc (.cells #[.int .i64 a.kind, .int .u64 a.n, .int .i64 a.width, .string (bs a.text)] 29)) = x0 at *
          generalize wr.heap.size = A at *
          have q1 : IntKind.i64.wrap (a.n : Int) = wrap64 (a.n : Int) := by rw [IntKind.wrap_i64]; unfold wrap64; rfl
          have e10 := HAB0.out.c1
          have e30 := HAB0.out.c3
          go_region_held3 (fun w' => w'.cell? ⟨A, 1, none⟩ = some (.int .u64 a.n) ∧ w'.cell? ⟨A, 3, none⟩ = some (.string (bs a.text))) (first | exact ⟨by assumption, by assumption⟩ | go_keep) (first
            | (go_at_call 25; refine (cb1 HN.out HL0.out HR0.out.drew').mono ?_; rintro e x1 ⟨rfl, hr1, hs1⟩; have HR1 := Lib.hid hr1; have HS1 : Hid (Step (from_ w.heap.size) w x1) := HS0.out.drew'.trans (hs1.mono (fun k hk => by rw [hk]; exact HQ.out)); have HAB1 : Hid (ActBlk x1 A a) := HAB0.out.drew'.step hs1 HNE.out; have e11 := HAB1.out.c1; have e31 := HAB1.out.c3; clear hr1 hs1)
            | (go_at_call 26; refine (cb2 HWB.out HL1.out HR1.out).mono ?_; rintro e x2 ⟨rfl, hr2, hs2⟩; have HR2 := Lib.hid hr2; have HS2 : Hid (Step (from_ w.heap.size) w x2) := HS1.out.trans (hs2.mono (fun k hk => by rw [hk]; exact HQ.out)); have HAB2 : Hid (ActBlk x2 A a) := HAB1.out.step hs2 HNE.out; have e12 := HAB2.out.c1; have e32 := HAB2.out.c3; clear hr2 hs2)
            | (go_at_call 27; refine (cb3 (m := 2000) (by decide) HT.out HL2.out HR2.out).mono ?_; rintro e x3 ⟨rfl, hr3, hs3⟩; have HR3 := Lib.hid hr3; have HS3 : Hid (Step (from_ w.heap.size) w x3) := HS2.out.trans (hs3.mono (fun k hk => by rw [hk]; exact HQ.out)); have HAB3 : Hid (ActBlk x3 A a) := HAB2.out.step hs3 HNE.out; have e13 := HAB3.out.c1; have e33 := HAB3.out.c3; clear hr3 hs3)
            | (go_at_call 28; refine (cb4 HN.out HL3.out HR3.out).mono ?_; rintro e x4 ⟨rfl, hr4, hs4⟩; have HR4 := Lib.hid hr4; have HS4 : Hid (Step (from_ w.heap.size) w x4) := HS3.out.trans (hs4.mono (fun k hk => by rw [hk]; exact HQ.out)); have HAB4 : Hid (ActBlk x4 A a) := HAB3.out.step hs4 HNE.out; have e14 := HAB4.out.c1; have e34 := HAB4.out.c3; clear hr4 hs4))
          go_wp2_with fail
          go_roundw
          case rel => exact ⟨k + 1, by omega, HR4.out, HS4.out, by go_num⟩
          case measure => simp [intOf]; omega
        · obtain rfl : k = l.length := by omega
          have HRe : Hid (Rd wr R [] false) := by
            have := HR.out
            rw [List.drop_of_length_le (Nat.le_refl _)] at this
            exact this
          clear HR
          go_wp2_with fail
          refine (bad_any R [] false _ HRe.out).mono ?_
          rintro e x1 ⟨rfl, rfl⟩
          go_wp2_with fail
          refine (left_good R [] _ HRe.out).mono ?_
          rintro e x2 ⟨rfl, rfl⟩
          go_wp2_with fail
          go_ret
          exact ⟨rfl, HS.out.toBelow⟩
theorem cback_all (ao : Option Addr) (b off cap : Nat) (l : List ActV) (hm : l.length ≤ maxLen) (w : World) (h : ActsAt w ao b off l) :
    Calls Try.prog 5 #[.slice ao l.length cap] w fun e w' => e = .returned (.bool true) ∧ Below w.heap.size w w' := by
  by_cases hl : 100 < l.length
  · exact cback_long ao b off cap l hl hm w
  · exact cback_any ao b off cap l (by omega) w h
end Go.Proofs.Ytkoajibjlcnjgaa
