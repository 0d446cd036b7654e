/-
  WALKS: seal.Open where too few bytes are left; plimsolllaw04.lives: it answers true.
-/
import Derived.Test.YtkoajibjlcnjgaaOn
import Derived.WalkSpells
namespace Go.Proofs.Ytkoajibjlcnjgaa
open Go Go.RowKit

set_option maxHeartbeats 4000000 in
set_option maxRecDepth 100000 in
theorem open_short (k : Nat) (n : Nat) (r : List UInt8) (hn : n ≤ 4194304) (hrn : r.length < n + 4) (w : World) :
    Calls Try.prog 33 #[.string (bs (fxF 1 k ++ (ub n ++ r)))] w fun e w' => e = .returned (.tuple #[.int .u8 0, .string (bs []), .string (bs []), .int .i64 5]) ∧ Below w.heap.size w w' := by
  have hul := (ub_len n).2
  obtain ⟨S, hS⟩ : ∃ S, S = fxF 1 k ++ (ub n ++ r) := ⟨_, rfl⟩
  rw [← hS]
  have e1 : S = UInt8.ofNat (k % 256) :: (ub n ++ r) := by rw [hS, fx1]; rfl
  have hlen : S.length = 1 + (ub n).length + r.length := by rw [e1]; simp only [List.length_cons, List.length_append]; omega
  have hz : (bs S).size = 1 + (ub n).length + r.length := by rw [bs_size, hlen]
  have hx1 : (bs S).extract 1 (1 + (ub n).length + r.length) = bs (ub n ++ r) := by rw [← hz, bs_drop, e1]; rfl
  have hl1 : (ub n ++ r).length ≤ 140737488355328 := by simp only [List.length_append]; omega
  have htl : (bs S).toList = UInt8.ofNat (k % 256) :: (ub n ++ r) := by rw [bs_toList, e1]
  have hn' : (n : Int) ≤ 4194304 := by omega
  have hr' : (r.length : Int) < n + 4 := by omega
  have hul' : ((ub n).length : Int) ≤ 10 := by omega
  have HL1 := Lib.hid hl1
  have HN := Lib.hid hn
  clear e1 hl1 hS
  go_enter Try.func33, Try.ntmps33
  go_wp2_with fail
  refine (eil_ub (by have := HN.out; omega) HL1.out _).mono ?_
  rintro e w1 ⟨rfl, rfl⟩
  go_wp2_with fail
  refine (ropen_any _ _).mono ?_
  rintro e w1 ⟨rfl, rfl⟩
  have HR := Lib.hid (Rd.new w (ub n ++ r))
  have HS : Hid (Step (from_ w.heap.size) w (w.alloc (.cells #[.string (bs (ub n ++ r)), .bool false] 72))) := (Step.refl _ _).alloc _
  have HQ : Hid (w.heap.size ≤ w.heap.size) := Nat.le_refl _
  generalize (w.alloc (.cells #[.string (bs (ub n ++ r)), .bool false] 72)) = w2 at *
  go_wp2_with fail
  refine (cb1 (n := n) (r := r) (by have := HN.out; omega) HL1.out HR.out).mono ?_
  rintro e w3 ⟨rfl, hr3, hs3⟩
  have HR3 := Lib.hid hr3
  have HS3 : Hid (Step (from_ w.heap.size) w w3) := HS.out.trans (hs3.mono (fun k hk => by rw [hk]; exact HQ.out))
  clear hr3 hs3 HR HS
  go_wp2_with fail
  refine (bad_any w.heap.size _ false _ HR3.out).mono ?_
  rintro e w4 ⟨rfl, rfl⟩
  go_wp2_with fail
  refine (left_good w.heap.size _ _ HR3.out).mono ?_
  rintro e w4 ⟨rfl, rfl⟩
  go_wp2_with fail
  refine bodyPost_ret (v := .tuple #[.int .u8 0, .string (bs []), .string (bs []), .int .i64 5]) (by simp [results, Try.results33, go_sem]; rfl) rfl ⟨rfl, HS3.out.toBelow⟩

theorem lv4_f : (fr 7 [97, 98]).length = 8 ∧ (fr 7 [97, 98]).take 4 = [7, 2, 97, 98] := by decide +kernel
theorem lv4_sum : sumN [49, 50, 51, 52, 53, 54, 55, 56, 57] = 3808858755 := by decide +kernel
theorem lv4_nil : sumN [] = 0 := by decide +kernel
theorem lv4_t1 : h8 1 = 4067132163 := by decide +kernel
theorem lv4_t128 : h8 128 = 2197175160 := by decide +kernel
theorem sums_open {k : Nat} {t : List UInt8} : bev (fxF 4 (revN (sumN (hd k t)))) = revN (sumN (hd k t)) := by
  rw [bev_fxF, Nat.mod_eq_of_lt]
  have := revN_lt (sumN (hd k t))
  omega
/-- A frame, and what is behind it, opened. -/
theorem open_fr (k : Nat) (hk : k < 256) (t r : List UInt8) (ht : t.length ≤ 4194304) (hr : r.length ≤ 1073741824) (w : World) :
    Calls Try.prog 33 #[.string (bs (fr k t ++ r))] w fun e w' => e = .returned (.tuple #[.int .u8 k, .string (bs t), .string (bs r), .int .i64 0]) ∧ Below w.heap.size w w' := by
  have := open_good k hk t (fxF 4 (revN (sumN (hd k t)))) r ht (fxF_len _ _) hr sums_open w
  rwa [← List.append_assoc] at this
theorem open_fr0 (k : Nat) (hk : k < 256) (t : List UInt8) (ht : t.length ≤ 4194304) (w : World) :
    Calls Try.prog 33 #[.string (bs (fr k t))] w fun e w' => e = .returned (.tuple #[.int .u8 k, .string (bs t), .string (bs []), .int .i64 0]) ∧ Below w.heap.size w w' := by
  have := open_fr k hk t [] ht (by simp) w
  rwa [List.append_nil] at this
theorem open_frE {F : List UInt8} {k : Nat} {t : List UInt8} (hF : F = fr k t) (hk : k < 256) (r : List UInt8) (ht : t.length ≤ 4194304) (hr : r.length ≤ 1073741824) (w : World) :
    Calls Try.prog 33 #[.string (bs (F ++ r))] w fun e w' => e = .returned (.tuple #[.int .u8 k, .string (bs t), .string (bs r), .int .i64 0]) ∧ Below w.heap.size w w' := by
  subst hF
  exact open_fr k hk t r ht hr w
theorem open_frE0 {F : List UInt8} {k : Nat} {t : List UInt8} (hF : F = fr k t) (hk : k < 256) (ht : t.length ≤ 4194304) (w : World) :
    Calls Try.prog 33 #[.string (bs F)] w fun e w' => e = .returned (.tuple #[.int .u8 k, .string (bs t), .string (bs []), .int .i64 0]) ∧ Below w.heap.size w w' := by
  subst hF
  exact open_fr0 k hk t ht w
theorem sum_lit (s : List UInt8) {v : Nat} (hv : sumN s = v) (hs : s.length ≤ 140737488355328) (w : World) :
    Calls Try.prog 30 #[.string (bs s)] w fun e w' => e = .returned (.int .u32 v) ∧ Below w.heap.size w w' := by
  subst hv
  exact sum_any s hs w
theorem Step.then_below {S : Nat → Prop} {a b c : World} (h : Step S a b) (hb : Below b.heap.size b c) : Step S a c := h.trans (Step.of_below hb)

set_option maxHeartbeats 4000000 in
set_option maxRecDepth 100000 in
theorem lives4_any (w : World) : Calls Try.prog 29 #[] w fun e w' => e = .returned (.bool true) ∧ Below w.heap.size w w' := by
  obtain ⟨F, hF⟩ : ∃ F, F = fr 7 [97, 98] := ⟨_, rfl⟩
  have hz : (bs F).size = 8 := by rw [bs_size, hF]; exact lv4_f.1
  have hx : (bs F).extract 0 4 = bs [7, 2, 97, 98] := by rw [bs_take, hF, lv4_f.2]
  have ha : bs F ++ (⟨#[33]⟩ : ByteArray) = bs (F ++ [33]) := bs_append F [33]
  have hz0 := zero80
  have q1 := bs_toList [97, 98]
  have q2 := bs_toList [33]
  have HF := Lib.hid hF
  clear hF
  go_enter Try.func29, Try.ntmps29
  go_wp2_with fail
  refine (frame_ok 7 (by decide) [97, 98] (by decide) _).mono ?_
  rintro e w1 ⟨rfl, hb⟩
  rw [← HF.out]
  have HS1 : Hid (Step (from_ w.heap.size) w w1) := Step.of_below hb
  clear hb
  go_wp2_with fail
  refine (open_frE HF.out (by decide) [33] (by decide) (by decide) _).mono ?_
  rintro e w2 ⟨rfl, hb⟩
  have HS2 : Hid (Step (from_ w.heap.size) w w2) := HS1.out.then_below hb
  clear hb HS1
  go_wp2_with fail
  refine (open_short 7 2 [97, 98] (by decide) (by decide) _).mono ?_
  rintro e w3 ⟨rfl, hb⟩
  have HS3 : Hid (Step (from_ w.heap.size) w w3) := HS2.out.then_below hb
  clear hb HS2
  go_wp2_with fail
  refine (only_kind (k := 8) (j := 7) (t := [97, 98]) (r := []) (by decide) _ (open_frE0 HF.out (by decide) (by decide) _)).mono ?_
  rintro e w4 ⟨rfl, hb⟩
  have HS4 : Hid (Step (from_ w.heap.size) w w4) := HS3.out.then_below hb
  clear hb HS3
  go_wp2_with fail
  refine (only_ok (k := 7) (t := [97, 98]) _ (open_frE0 HF.out (by decide) (by decide) _)).mono ?_
  rintro e w5 ⟨rfl, hb⟩
  have HS5 : Hid (Step (from_ w.heap.size) w w5) := HS4.out.then_below hb
  clear hb HS4
  go_wp2_with fail
  refine (table_any _).mono ?_
  rintro e w6 ⟨rfl, hb⟩
  have hb0 : (w6.alloc (.cells (tabC 0) 80)).heap[w6.heap.size]? = some (.cells (tabC 0) 80 (0, 0)) := alloc_blk _ _
  go_wp2_with (refine wpList_store_row rfl 80 _ _ rfl w6.heap.size (tabC 256) rfl rfl 80 (tabC 0) hb0 (by rw [size80, tabC_size]) (by rw [tabC_size, tabC_size]) (by kernel_rfl) ?_)
  have hT := setRow_heap (w6.alloc (.cells (tabC 0) 80)) w6.heap.size (tabC 0) (tabC 256) 80 (0, 0) hb0
  have HS7 : Hid (Step (from_ w.heap.size) w ((w6.alloc (.cells (tabC 0) 80)).setRow w6.heap.size (tabC 256))) := by
    have h6 := HS5.out.then_below hb
    have h1 : Step (from_ w.heap.size) w (w6.alloc (.cells (tabC 0) 80)) := h6.alloc _
    exact ⟨h1.os, h1.tape, h1.output, by simpa using h1.size, fun k hk hn => (setRow_other _ w6.heap.size k _ (by have := h6.size; omega)).trans (h1.block k hk hn)⟩
  have HT := Lib.hid hT
  clear hT hb hb0 hz0 HS5
  generalize ((w6.alloc (.cells (tabC 0) 80)).setRow w6.heap.size (tabC 256)) = w7 at *
  generalize w6.heap.size = T at *
  refine (sum_lit [49, 50, 51, 52, 53, 54, 55, 56, 57] lv4_sum (by decide) _).mono ?_
  rintro e w8 ⟨rfl, hb⟩
  have HT8 := Lib.hid ((hb.block T (lt_blk HT.out)).trans HT.out)
  have HS8 : Hid (Step (from_ w.heap.size) w w8) := HS7.out.then_below hb
  clear hb HS7 HT
  go_wp2_with fail
  refine (sum_lit [] lv4_nil (by decide) _).mono ?_
  rintro e w9 ⟨rfl, hb⟩
  have HT9 := Lib.hid ((hb.block T (lt_blk HT8.out)).trans HT8.out)
  have HS9 : Hid (Step (from_ w.heap.size) w w9) := HS8.out.then_below hb
  clear hb HS8 HT8
  have c1 : w9.cell? ⟨T, 1, none⟩ = some (.int .u32 (4067132163 : Nat)) := by rw [cell_blk HT9.out, tabC_at (by decide), lv4_t1]
  have c2 : w9.cell? ⟨T, 128, none⟩ = some (.int .u32 (2197175160 : Nat)) := by rw [cell_blk HT9.out, tabC_at (by decide), lv4_t128]
  go_wp2_with fail
  go_ret
  exact ⟨rfl, HS9.out.toBelow⟩
end Go.Proofs.Ytkoajibjlcnjgaa
