/-
  THE LAW plimsolllaw04.SealFound: the walk: it answers true, of any string, any place, and any number of 32 bits.
-/
import Derived.Test.YtkoajibjlcnjgaaLv4
import Derived.LoopTactic
import Derived.RegionTactic
import Derived.BigRegion
namespace Go.Proofs.Ytkoajibjlcnjgaa
open Go Go.RowKit

/-- A row of bytes that may be written. -/
structure RowW (w : World) (g cap : Nat) (l : List UInt8) : Prop where
  row : ∃ (cur : Array Value) (fz : Nat × Nat), w.heap[g]? = some (.cells cur 5 fz) ∧ cap ≤ fz.1 ∧ cur.size = cap ∧ l.length ≤ cap ∧ cap ≤ maxLen ∧ cur.toList.take l.length = l.map u8v
section
variable {w : World} {g cap : Nat} {l : List UInt8}
theorem RowW.toRow (h : RowW w g cap l) : Row w g cap l := by
  obtain ⟨cur, fz, h1, h2, h3⟩ := h.row
  exact ⟨cur, fz, h1, Or.inr h2, h3⟩
theorem RowW.free (h : RowW w g cap l) {i : Nat} (hi : i < l.length) : w.frozen? ⟨g, i, none⟩ = false := by
  obtain ⟨cur, fz, h1, h2, h3, h4, _⟩ := h.row
  simp only [World.frozen?, h1]
  simp
  omega
theorem RowW.drew (h : RowW w g cap l) : RowW w.drew g cap l := ⟨h.row⟩
theorem RowW.set (h : RowW w g cap l) {i : Nat} (hi : i < l.length) (b : UInt8) : RowW (w.setCell ⟨g, i, none⟩ (u8v b)) g cap (l.set i b) := by
  obtain ⟨cur, fz, h1, h2, h3, h4, h5, h6⟩ := h.row
  refine ⟨cur.set! i (u8v b), fz, set_blk h1 _, h2, by simpa using h3, by simpa using h4, h5, ?_⟩
  rw [List.length_set, List.map_set, ← h6]
  simp [List.take_set]
end
theorem conv_rowW (w : World) (s : List UInt8) (hs : s.length ≤ 140737488355328) :
    ∃ C W1, (convert 9 54 (.string (bs s))).run Try.prog w = .ok (.slice (some ⟨w.heap.size, 0, none⟩) s.length C) W1 ∧ RowW W1 w.heap.size C s ∧ Below w.heap.size w W1 ∧ s.length ≤ C ∧ C ≤ maxLen := by
  have hge := grownCap_ge w (bs s).size 0 5
  have hcm := grownCap_le_maxLen w (bs s).size 0 5 (by rw [bs_size]; unfold maxLen; omega)
  have hsz : (bytesRow (bs s) (grownCap w (bs s).size 0 5)).size = grownCap w (bs s).size 0 5 := by
    have : (bs s).data.size = (bs s).size := rfl
    simp only [bytesRow, Array.size_append, Array.size_map, Array.size_replicate, this]
    omega
  refine ⟨_, w.drew.alloc (.cells (bytesRow (bs s) (grownCap w (bs s).size 0 5)) 5 ((bytesRow (bs s) (grownCap w (bs s).size 0 5)).size, (bytesRow (bs s) (grownCap w (bs s).size 0 5)).size + 1)), ?_, ⟨bytesRow (bs s) (grownCap w (bs s).size 0 5), ((bytesRow (bs s) (grownCap w (bs s).size 0 5)).size, (bytesRow (bs s) (grownCap w (bs s).size 0 5)).size + 1), alloc_blk w.drew _, Nat.le_of_eq hsz.symm, hsz, by rw [bs_size] at hge; exact hge, hcm, ?_⟩, (Below.refl _ _).drew.alloc (by simp) _, by rw [bs_size] at hge; exact hge, hcm⟩
  · rw [run_bytes_of_string w _ _ 5 (bs s) Try.underlying9 Try.underlying54 Try.underlying5]
    congr 2
  · have : (bs s).data.toList = s := rfl
    simp only [bytesRow, Array.toList_append, Array.toList_map, this]
    rw [List.take_append_of_le_length (by simp)]
    exact List.take_of_length_le (by simp)

/-- The string, so many of its four bytes turned. -/
def mixN (p by_ : Nat) (l : List UInt8) : Nat → List UInt8
  | 0 => l
  | k + 1 => (mixN p by_ l k).set (p + k) (UInt8.ofNat ((l.getD (p + k) 0).toNat ^^^ (by_ / 256 ^ k % 256)))
theorem mixN_len (p by_ : Nat) (l : List UInt8) (k : Nat) : (mixN p by_ l k).length = l.length := by
  induction k with
  | zero => rfl
  | succ k ih => simp only [mixN, List.length_set, ih]
theorem mixN_at (p by_ : Nat) (l : List UInt8) (k j : Nat) (hj : k ≤ j) : (mixN p by_ l k)[p + j]? = l[p + j]? := by
  induction k with
  | zero => rfl
  | succ k ih =>
    simp only [mixN]
    rw [List.getElem?_set_ne (by omega)]
    exact ih (by omega)
theorem mix_four (by_ : Nat) (p t : List UInt8) (a0 a1 a2 a3 : UInt8) :
    mixN p.length by_ (p ++ a0 :: a1 :: a2 :: a3 :: t) 4 = p ++ UInt8.ofNat (a0.toNat ^^^ (by_ / 256 ^ 0 % 256)) :: UInt8.ofNat (a1.toNat ^^^ (by_ / 256 ^ 1 % 256)) ::
      UInt8.ofNat (a2.toNat ^^^ (by_ / 256 ^ 2 % 256)) :: UInt8.ofNat (a3.toNat ^^^ (by_ / 256 ^ 3 % 256)) :: t := by
  simp [mixN, List.set_append, List.getD, List.getElem?_append]
theorem xor_byte {a : UInt8} {d : Nat} (hd : d < 256) (h : UInt8.ofNat (a.toNat ^^^ d) = a) : d = 0 := by
  have h1 : a.toNat ^^^ d < 256 := Nat.xor_lt_two_pow (n := 8) a.toNat_lt hd
  have h2 := congrArg UInt8.toNat h
  rw [tn h1] at h2
  have : a.toNat ^^^ d ^^^ a.toNat = a.toNat ^^^ a.toNat := by rw [h2]
  rw [Nat.xor_self, Nat.xor_comm, ← Nat.xor_assoc, Nat.xor_self, Nat.zero_xor] at this
  exact this
theorem found_math {l : List UInt8} {p by_ : Nat} (hp : p + 4 ≤ l.length) (hb : by_ < 4294967296) : (sumN (mixN p by_ l 4) = sumN l) ↔ by_ = 0 := by
  obtain ⟨q, t, a0, a1, a2, a3, rfl, rfl⟩ : ∃ (q t : List UInt8) (a0 a1 a2 a3 : UInt8), q.length = p ∧ l = q ++ a0 :: a1 :: a2 :: a3 :: t := by
    refine ⟨l.take p, l.drop (p + 4), l[p], l[p + 1], l[p + 2], l[p + 3], by rw [List.length_take]; omega, ?_⟩
    conv => lhs; rw [← List.take_append_drop p l]
    congr 1
    rw [List.drop_eq_getElem_cons (by omega), List.drop_eq_getElem_cons (by omega), List.drop_eq_getElem_cons (by omega), List.drop_eq_getElem_cons (by omega)]
  rw [mix_four]
  constructor
  · intro e
    obtain ⟨e0, e1, e2, e3⟩ := sum_found _ _ _ _ _ _ _ _ _ _ e
    have z0 := xor_byte (Nat.mod_lt _ (by omega)) e0
    have z1 := xor_byte (Nat.mod_lt _ (by omega)) e1
    have z2 := xor_byte (Nat.mod_lt _ (by omega)) e2
    have z3 := xor_byte (Nat.mod_lt _ (by omega)) e3
    simp at z0 z1 z2 z3
    omega
  · rintro rfl
    simp
/-! ### The walk. -/
set_option maxHeartbeats 4000000 in
set_option maxRecDepth 100000 in
theorem found_out (l : List UInt8) (at_ : Int) (b : Nat) (hl : l.length ≤ maxLen) (hb : b < 4294967296) (h1 : -9223372036854775808 ≤ at_) (h2 : at_ ≤ 9223372036854775807) (h : 8192 < l.length ∨ at_ < 0 ∨ (l.length : Int) - 4 < at_) (w : World) :
    Calls Try.prog 7 #[.string (bs l), .int .i64 at_, .int .u32 b] w fun e w' => e = .returned (.bool true) ∧ Below w.heap.size w w' := by
  have hz := bs_size l
  unfold maxLen at hl
  have hl' : (l.length : Int) ≤ 9223372036854775807 := by omega
  by_cases c1 : 8192 < l.length
  · go_enter Try.func7, Try.ntmps7
    go_wp2_with (go_at_call 29; refine (lives4_any _).mono ?_; rintro e w1 ⟨rfl, hb⟩)
    go_ret
    exact ⟨rfl, hb⟩
  · by_cases c2 : at_ < 0
    · go_enter Try.func7, Try.ntmps7
      go_wp2_with (go_at_call 29; refine (lives4_any _).mono ?_; rintro e w1 ⟨rfl, hb⟩)
      go_ret
      exact ⟨rfl, hb⟩
    · have c3 : (l.length : Int) - 4 < at_ := by omega
      go_enter Try.func7, Try.ntmps7
      go_wp2_with (go_at_call 29; refine (lives4_any _).mono ?_; rintro e w1 ⟨rfl, hb⟩)
      go_ret
      exact ⟨rfl, hb⟩

set_option maxHeartbeats 4000000 in
set_option maxRecDepth 100000 in
theorem found_in (l : List UInt8) (p b : Nat) (hl : l.length ≤ 8192) (hb : b < 4294967296) (hp : p + 4 ≤ l.length) (w : World) :
    Calls Try.prog 7 #[.string (bs l), .int .i64 p, .int .u32 b] w fun e w' => e = .returned (.bool true) ∧ Below w.heap.size w w' := by
  have hz := bs_size l
  have hb' : (b : Int) ≤ 4294967295 := by omega
  have d0 : decide ((p : Int) < 0) = false := by simp
  have d1 : decide ((l.length : Int) - 4 < p) = false := by simp; omega
  go_enter Try.func7, Try.ntmps7
  go_wp2_with (go_at_call 29; refine (lives4_any _).mono ?_; rintro e w1 ⟨rfl, hbl⟩)
  obtain ⟨C, W1, hcv, hrow, hbw, hCl, hCm⟩ := conv_rowW w1 l (by omega)
  unfold maxLen at hCm
  have HB : Hid (Below w.heap.size w W1) := hbl.trans (hbw.mono hbl.size)
  have HR := Lib.hid hrow
  have HQ : Hid (w.heap.size ≤ w1.heap.size) := hbl.size
  rw [hcv]
  clear hrow hbw hbl hcv
  generalize w1.heap.size = g at *
  go_wp2_with fail
  go_loopw [27] (fun i wr => ∃ k : Nat, k ≤ 4 ∧ i = .int .i64 k ∧ RowW wr g C (mixN p b l k) ∧ Below w.heap.size w wr) (fun i _ => 4 - (intOf i).toNat)
  case atStart => exact ⟨0, by omega, rfl, HR.out, HB.out⟩
  case round =>
    obtain ⟨k, hk, rfl, hR, hB⟩ := hrel
    clear HR HB
    have HR := Lib.hid hR
    have HB := Lib.hid hB
    clear hR hB
    by_cases hlt : k < 4
    · have hlen := mixN_len p b l k
      have c := HR.out.toRow.cell (j := p + k) (by rw [hlen]; omega)
      have hx : (mixN p b l k)[p + k]'(by rw [hlen]; omega) = l.getD (p + k) 0 := by
        have := mixN_at p b l k k (Nat.le_refl _)
        rw [List.getElem?_eq_getElem (by rw [hlen]; omega)] at this
        rw [List.getD, ← this]
        rfl
      rw [hx] at c
      have f := HR.out.free (i := p + k) (by rw [hlen]; omega)
      have hv : bits .xor .u8 ((l.getD (p + k) 0).toNat : Int) ((b : Int) / 2 ^ (8 * k) % 256) = (((l.getD (p + k) 0).toNat ^^^ (b / 256 ^ k % 256) : Nat) : Int) := by
        rw [fx_byte, u8_xor_nat _ _ (UInt8.toNat_lt _) (Nat.mod_lt _ (by omega))]
      clear hx
      have HV := Lib.hid hv
      generalize hch : (l.getD (p + k) 0).toNat = ch at c hv
      have hlen2 : (mixN p b l k).length = l.length := hlen
      clear hlen
      go_wp2_with fail
      go_region
      go_wp2_with fail
      go_roundw
      case rel =>
        refine ⟨k + 1, by omega, by go_num, ?_, ?_⟩
        · have h1 := (HR.out.drew).set (i := p + k) (by rw [hlen2]; omega) (UInt8.ofNat (ch ^^^ (b / 256 ^ k % 256)))
          rw [u8v_of (Nat.xor_lt_two_pow (n := 8) (by rw [← hch]; exact UInt8.toNat_lt _) (Nat.mod_lt _ (by omega)))] at h1
          have e : mixN p b l (k + 1) = (mixN p b l k).set (p + k) (UInt8.ofNat (ch ^^^ (b / 256 ^ k % 256))) := by rw [← hch]; rfl
          rw [e]
          exact h1
        · exact HB.out.drew.setCell (p := ⟨g, p + k, none⟩) HQ.out _
      case measure => simp [intOf]; omega
    · obtain rfl : k = 4 := by omega
      have hlen := mixN_len p b l 4
      have hcb : ∀ c : Nat, (convert 54 9 (.slice (some ⟨g, 0, none⟩) l.length c)).run Try.prog wr = .ok (.string (bs (mixN p b l 4))) wr := fun c => by
        have := run_convert_bytes_back wr _ _ 5 ⟨g, 0, none⟩ c (mixN p b l 4) Try.underlying54 Try.underlying5 Try.underlying9 (fun j hj => by rw [Addr.add_lit, Nat.zero_add]; exact HR.out.toRow.cell hj)
        rwa [hlen] at this
      have HM := Lib.hid (found_math hp hb)
      have HL4 : Hid ((mixN p b l 4).length ≤ 140737488355328) := by rw [hlen]; show _ ≤ _; omega
      have HL : Hid (l.length ≤ 140737488355328) := by show _ ≤ _; omega
      clear hlen
      go_wp2_with fail
      refine (sum_any (mixN p b l 4) HL4.out _).mono ?_
      rintro e w2 ⟨rfl, hb2⟩
      have HB2 : Hid (Below w.heap.size w w2) := HB.out.trans (hb2.mono HB.out.size)
      clear hb2
      go_wp2_with fail
      refine (sum_any l HL.out _).mono ?_
      rintro e w3 ⟨rfl, hb3⟩
      have HB3 : Hid (Below w.heap.size w w3) := HB2.out.trans (hb3.mono HB2.out.size)
      clear hb3
      by_cases hb0 : b = 0
      · have t1 : (((sumN (mixN p b l 4) : Nat) : Int) == ((sumN l : Nat) : Int)) = true := by rw [HM.out.2 hb0]; simp
        have t2 : ((b : Int) == 0) = true := by rw [hb0]; rfl
        clear hb0
        go_wp2_with fail
        go_ret
        exact ⟨rfl, HB3.out⟩
      · have t1 : (((sumN (mixN p b l 4) : Nat) : Int) == ((sumN l : Nat) : Int)) = false := by
          have : ¬ sumN (mixN p b l 4) = sumN l := fun h => hb0 (HM.out.1 h)
          simp; omega
        have t2 : ((b : Int) == 0) = false := by simp; exact hb0
        go_wp2_with fail
        go_ret
        exact ⟨rfl, HB3.out⟩

theorem found_any (l : List UInt8) (at_ : Int) (b : Nat) (hl : l.length ≤ maxLen) (hb : b < 4294967296) (h1 : -9223372036854775808 ≤ at_) (h2 : at_ ≤ 9223372036854775807) (w : World) :
    Calls Try.prog 7 #[.string (bs l), .int .i64 at_, .int .u32 b] w fun e w' => e = .returned (.bool true) ∧ Below w.heap.size w w' := by
  by_cases h : 8192 < l.length ∨ at_ < 0 ∨ (l.length : Int) - 4 < at_
  · exact found_out l at_ b hl hb h1 h2 h w
  · obtain ⟨p, rfl⟩ := Int.eq_ofNat_of_zero_le (show 0 ≤ at_ by omega)
    exact found_in l p b (by omega) hb (by omega) w
end Go.Proofs.Ytkoajibjlcnjgaa
