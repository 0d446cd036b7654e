/-
  THE LAW plimsolllaw03.CodecReads: the walk: it answers true, of any bytes, read in any way.
-/
import Derived.Test.YtkoajibjlcnjgaaVk
import Derived.Test.YtkoajibjlcnjgaaCb
namespace Go.Proofs.Ytkoajibjlcnjgaa
open Go Go.RowKit

theorem left_any (P : Nat) (s : List UInt8) (bad : Bool) (he : bad = true → s = []) (w : World) (h : Rd w P s bad) :
    Calls Try.prog 24 #[.pointer (some ⟨P, 0, none⟩)] w fun e w' => e = .returned (.int .i64 s.length) ∧ w = w' := by
  cases bad with
  | true => obtain rfl := he rfl; exact left_bad P [] w h
  | false => exact left_good P s w h
/-- Both readers, between two acts. -/
structure CInv (w wr : World) (P V : Nat) (s : List UInt8) (bad : Bool) : Prop where
  rd : Rd wr P s bad
  v : wr.heap[V]? = some (.cells #[.string (bs s), .bool bad] 43 (0, 0))
  e : bad = true → s = []
  l : s.length ≤ 16384
  step : Step (from_ w.heap.size) w wr
theorem blk4_0 {w : World} {g : Nat} {a b c d : Value} {ty : TypeId} (h : w.heap[g]? = some (.cells #[a, b, c, d] ty (0, 0))) : w.cell? ⟨g, 0, none⟩ = some a := by rw [cell_blk h]; rfl
theorem blk4_1 {w : World} {g : Nat} {a b c d : Value} {ty : TypeId} (h : w.heap[g]? = some (.cells #[a, b, c, d] ty (0, 0))) : w.cell? ⟨g, 1, none⟩ = some b := by rw [cell_blk h]; rfl
theorem blk4_3 {w : World} {g : Nat} {a b c d : Value} {ty : TypeId} (h : w.heap[g]? = some (.cells #[a, b, c, d] ty (0, 0))) : w.cell? ⟨g, 3, none⟩ = some d := by rw [cell_blk h]; rfl

set_option maxHeartbeats 8000000 in
set_option maxRecDepth 100000 in
theorem cr_long (s : List UInt8) (ao : Option Addr) (cap : Nat) (l : List ActV) (hl : 100 < l.length) (hm : l.length ≤ maxLen) (w : World) :
    Calls Try.prog 4 #[.string (bs s), .slice ao l.length cap] w fun e w' => e = .returned (.bool true) ∧ Below w.heap.size w w' := by
  unfold maxLen at hm
  have h1 : decide (100 < l.length) = true := by simp; omega
  go_enter Try.func4, Try.ntmps4
  go_wp2_with (go_at_call 10; refine (lives3_any _).mono ?_; rintro e w1 ⟨rfl, hb⟩)
  go_ret
  exact ⟨rfl, hb⟩
set_option maxHeartbeats 8000000 in
set_option maxRecDepth 100000 in
theorem cr_big (s : List UInt8) (hs : 16384 < s.length) (ao : Option Addr) (cap : Nat) (l : List ActV) (hl : l.length ≤ 100) (w : World) :
    Calls Try.prog 4 #[.string (bs s), .slice ao l.length cap] w fun e w' => e = .returned (.bool true) ∧ Below w.heap.size w w' := by
  have hz := bs_size s
  have hl' : (l.length : Int) ≤ 100 := by omega
  have hs' : (16384 : Int) < s.length := by omega
  have h1 : decide (100 < l.length) = false := by simp; omega
  have h2 : decide (16384 < s.length) = true := by simp; omega
  go_enter Try.func4, Try.ntmps4
  go_wp2_with (go_at_call 10; refine (lives3_any _).mono ?_; rintro e w1 ⟨rfl, hb⟩)
  go_ret
  exact ⟨rfl, hb⟩

set_option maxHeartbeats 8000000 in
set_option maxRecDepth 100000 in
theorem cr_in (s : List UInt8) (hs : s.length ≤ 16384) (ao : Option Addr) (b off cap : Nat) (l : List ActV) (hl : l.length ≤ 100) (w : World) (h : ActsAt w ao b off l) :
    Calls Try.prog 4 #[.string (bs s), .slice ao l.length cap] w fun e w' => e = .returned (.bool true) ∧ Below w.heap.size w w' := by
  have HA := Lib.hid h
  clear h
  have hz := bs_size s
  have hl' : (l.length : Int) ≤ 100 := by omega
  have hs' : (s.length : Int) ≤ 16384 := by omega
  have h1 : decide (100 < l.length) = false := by simp; omega
  have h2 : decide (16384 < s.length) = false := by simp; omega
  go_enter Try.func4, Try.ntmps4
  go_wp2_with (first | (go_at_call 10; refine (lives3_any _).mono ?_; rintro e w1 ⟨rfl, hb⟩) | (go_at_call 21; refine (ropen_any s _).mono ?_; rintro e w2 ⟨rfl, rfl⟩))
  obtain ⟨P, hP⟩ : ∃ P, P = w1.heap.size := ⟨_, rfl⟩
  obtain ⟨V, hV⟩ : ∃ V, V = w1.heap.size + 1 := ⟨_, rfl⟩
  obtain ⟨w2, hw2⟩ : ∃ w2, w2 = ((w1.alloc (Obj.cells #[Value.string (bs s), Value.bool false] 72)).alloc (Obj.cells #[Value.string (bs s), Value.bool false] 43)) := ⟨_, rfl⟩
  have hI : CInv w w2 P V s false := by
    subst hw2 hP hV
    refine ⟨⟨alloc_old (alloc_blk _ _) _⟩, ?_, by simp, hs, ((Step.of_below hb).alloc _).alloc _⟩
    have e : w1.heap.size + 1 = (w1.alloc (Obj.cells #[Value.string (bs s), Value.bool false] 72)).heap.size := by simp
    rw [e]; exact alloc_blk _ _
  rw [← hw2, ← hV, ← hP]
  have hPV : V ≠ P := by omega
  have hPB : w.heap.size ≤ P := by have := hb.size; omega
  have hVB : w.heap.size ≤ V := by omega
  have HI := Lib.hid hI
  have HPV := Lib.hid hPV
  have HPB := Lib.hid hPB
  have HVB := Lib.hid hVB
  clear hI hw2 hP hV hb hPV hPB hVB hz hs' h2
  go_loopw [29] (fun i wr => ∃ (k : Nat) (s : List UInt8) (bad : Bool), k ≤ l.length ∧ CInv w wr P V s bad ∧ i = .int .i64 k) (fun i _ => l.length - (intOf i).toNat)
  case atStart => exact ⟨0, s, false, Nat.zero_le _, HI.out, rfl⟩
  case round =>
    obtain ⟨k, s, bad, hk, hI, rfl⟩ := hrel
    clear HI
    have HI := Lib.hid hI
    clear hI
    by_cases hlt : k < l.length
    · obtain ⟨rfl, hbw⟩ := HA.out.at_ (by omega)
      obtain ⟨c0, c1, c2, c3⟩ := HA.out.cell k hlt
      have hB := HI.out.step.toBelow
      have d0 := (hB.cell (p := ⟨b, off + k * 4, none⟩) hbw).trans c0
      have d1 := (hB.cell (p := ⟨b, off + k * 4 + 1, none⟩) hbw).trans c1
      have d2 := (hB.cell (p := ⟨b, off + k * 4 + 2, none⟩) hbw).trans c2
      have d3 := (hB.cell (p := ⟨b, off + k * 4 + 3, none⟩) hbw).trans c3
      have hz := bs_size l[k].text
      clear c0 c1 c2 c3 hB
      obtain ⟨hf1, hf2, hk1, hk2, hw1, hw2⟩ := HA.out.fits k hlt
      generalize hak : l[k] = a at d0 d1 d2 d3 hz hf1 hf2 hk1 hk2 hw1 hw2
      obtain ⟨s2, bad2, he2, hl2, hcall⟩ := reads_any P HI.out.e (by have := HI.out.l; omega) a.kind a.n a.width a.text hw2
      have HCALL := Lib.hid hcall
      have HE2 := Lib.hid he2
      have HL2 : Hid (s2.length ≤ 16384) := Lib.hid (Nat.le_trans hl2 HI.out.l)
      clear hcall he2 hl2 hf1 hf2 hk1 hk2 hw1 hw2 hak
      go_upto_region 12 with fail
      obtain ⟨w3, hw3⟩ : ∃ w3, w3 = wr.alloc (.cells #[.int .i64 a.kind, .int .u64 a.n, .int .i64 a.width, .string (bs a.text)] 29) := ⟨_, rfl⟩
      rw [← hw3]
      obtain ⟨A, hA⟩ : ∃ A, A = wr.heap.size := ⟨_, rfl⟩
      have hAb : w3.heap[A]? = some (.cells #[.int .i64 a.kind, .int .u64 a.n, .int .i64 a.width, .string (bs a.text)] 29 (0, 0)) := by rw [hw3, hA]; exact alloc_blk _ _
      rw [← hA]
      have hs3 : Step (fun _ => False) wr w3 := by rw [hw3]; exact (Step.refl _ _).alloc _
      have HR3 := Lib.hid (HI.out.rd.step hs3 (fun h => h))
      have hV3 := (hs3.block V (lt_blk HI.out.v) (fun h => h)).trans HI.out.v
      have HV3 := Lib.hid hV3
      have HS3 : Hid (Step (from_ w.heap.size) w w3) := HI.out.step.trans (hs3.mono (fun _ h => h.elim))
      clear d0 d1 d2 d3 hA hw3 hs3
      have a0 := blk4_0 hAb
      have a1 := blk4_1 hAb
      have a2 := blk4_2 hAb
      have a3 := blk4_3 hAb
      have v0 := blk2_0 hV3
      have v1 := blk2_1 hV3
      clear hAb hV3 HI
      go_wp2_with fail
      refine (HCALL.out _ HR3.out).mono ?_
      rintro e w4 ⟨rfl, hr4, hs4⟩
      have hV4 := (hs4.block V (lt_blk HV3.out) (fun h => h.elim HPV.out (fun h => by have := lt_blk HV3.out; omega))).trans HV3.out
      have HS4 : Hid (Step (from_ w.heap.size) w w4) := HS3.out.trans (hs4.mono (fun k h => h.elim (fun h => by rw [h]; exact HPB.out) (fun h => by have h2 := HS3.out.size; exact Nat.le_trans h2 h)))
      have HR4 := Lib.hid hr4
      have HV4 := Lib.hid hV4
      clear a0 a1 a2 a3 v0 v1 hr4 hs4 HS3 HR3 HV3 HCALL hV4
      go_upto_region 13 with fail
      obtain ⟨w5, hw5⟩ : ∃ w5, w5 = w4.alloc (.cells #[.string (bs s2), .bool bad2] 43) := ⟨_, rfl⟩
      rw [← hw5]
      obtain ⟨U, hU⟩ : ∃ U, U = w4.heap.size := ⟨_, rfl⟩
      have hUb : w5.heap[U]? = some (.cells #[.string (bs s2), .bool bad2] 43 (0, 0)) := by rw [hw5, hU]; exact alloc_blk _ _
      rw [← hU]
      have hs5 : Step (fun _ => False) w4 w5 := by rw [hw5]; exact (Step.refl _ _).alloc _
      have HR5 := Lib.hid (HR4.out.step hs5 (fun h => h))
      have hV5 := (hs5.block V (lt_blk HV4.out) (fun h => h)).trans HV4.out
      have HV5 := Lib.hid hV5
      have HS5 : Hid (Step (from_ w.heap.size) w w5) := HS4.out.trans (hs5.mono (fun _ h => h.elim))
      clear hU hw5 hs5 HR4 HV4 HS4
      have u0 := blk2_0 hUb
      have u1 := blk2_1 hUb
      have v0 := blk2_0 hV5
      have v1 := blk2_1 hV5
      have f0 := free_blk hV5 0
      have f1 := free_blk hV5 1
      clear hUb hV5
      go_upto_region 14 with fail
      obtain ⟨w6, hw6⟩ : ∃ w6, w6 = ((w5.setCell ⟨V, 0, none⟩ (.string (bs s2))).setCell ⟨V, 1, none⟩ (.bool bad2)) := ⟨_, rfl⟩
      rw [← hw6]
      have hV6 : w6.heap[V]? = some (.cells #[.string (bs s2), .bool bad2] 43 (0, 0)) := by rw [hw6, set_blk (set_blk HV5.out _) _]; rfl
      have HR6 : Hid (Rd w6 P s2 bad2) := by
        rw [hw6]; exact HR5.out.step (S := (· = V)) (((Step.refl (· = V) _).setCell (p := ⟨V, 0, none⟩) rfl _).setCell (p := ⟨V, 1, none⟩) rfl _) (fun h => HPV.out h.symm)
      have HS6 : Hid (Step (from_ w.heap.size) w w6) := by
        rw [hw6]; exact (HS5.out.setCell (p := ⟨V, 0, none⟩) HVB.out _).setCell (p := ⟨V, 1, none⟩) HVB.out _
      have HV6 := Lib.hid hV6
      clear u0 u1 v0 v1 f0 f1 hw6 HR5 HV5 HS5
      have v0 := blk2_0 hV6
      have v1 := blk2_1 hV6
      clear hV6
      have hzs := bs_size s2
      go_region_held3 (fun w' => w'.cell? ⟨V, 0, none⟩ = some (.string (bs s2)) ∧ w'.cell? ⟨V, 1, none⟩ = some (.bool bad2)) (exact ⟨by assumption, by assumption⟩)
        (first | (go_at_call 23; refine (bad_any P s2 bad2 _ HR6.out.drew').mono ?_; rintro e w' ⟨rfl, rfl⟩) | (go_at_call 24; refine (left_any P s2 bad2 HE2.out _ HR6.out.drew').mono ?_; rintro e w' ⟨rfl, rfl⟩))
      all_goals
        go_wp2_with fail
        go_roundw
        case rel => exact ⟨k + 1, s2, bad2, by omega, ⟨HR6.out.drew', HV6.out, HE2.out, HL2.out, HS6.out.drew'⟩, by go_num⟩
        case measure => simp [intOf]; omega
    · obtain rfl : k = l.length := by omega
      have HS := Lib.hid HI.out.step
      go_wp2_with fail
      go_ret
      exact ⟨rfl, HS.out.toBelow⟩
theorem cr_any (s : List UInt8) (ao : Option Addr) (b off cap : Nat) (l : List ActV) (hm : l.length ≤ maxLen) (w : World) (h : ActsAt w ao b off l) :
    Calls Try.prog 4 #[.string (bs s), .slice ao l.length cap] w fun e w' => e = .returned (.bool true) ∧ Below w.heap.size w w' := by
  by_cases hl : 100 < l.length
  · exact cr_long s ao cap l hl hm w
  · by_cases hs : 16384 < s.length
    · exact cr_big s hs ao cap l (by omega) w
    · exact cr_in s (by omega) ao b off cap l (by omega) w h
end Go.Proofs.Ytkoajibjlcnjgaa
