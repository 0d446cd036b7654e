/-
  WALKS: a ring of ints.
-/
import Derived.Test.YtohkioakipjanaaRg
import Derived.IntWalk
namespace Go.Proofs.Ytohkioakipjanaa
open Go Go.RowKit

def ci (x : Int) : List Value := [.int .i64 x]
theorem ci_len (x : Int) : (ci x).length = 1 := rfl
theorem i_one (x : Int) : (.int .i64 x : Value).cells.all (·.oneCell') = true := by simp [Value.cells, Value.oneCell']
theorem i_cells (x : Int) (j : Nat) : (.int .i64 x : Value).cells[j]? = (ci x)[j]? := by cases j <;> simp [Value.cells, ci]
theorem infoi : ∃ i, Try.prog.info? 3 = some i ∧ i.zero = some (.int .i64 0) ∧ i.size = 1 ∧ i.bytes = 8 := ⟨_, rfl, rfl, rfl, rfl⟩

set_option maxHeartbeats 4000000 in
set_option maxRecDepth 100000 in
theorem i_place_i (g : Nat) (v : Value) (room first size lost i : Int) (w : World) (h : Blk w g 74 #[v, .int .i64 room, .int .i64 first, .int .i64 size, .int .u64 lost]) (hr : 0 < room) (h0 : 0 ≤ first) (h1 : first ≤ 65536) (h2 : 0 ≤ i) (h3 : i ≤ 65536) (h4 : room ≤ 65536) :
    Calls Try.prog 41 #[.pointer (some ⟨g, 0, none⟩), .int .i64 i] w fun e w' => e = .returned (.int .i64 ((first + i) % room)) ∧ Below w.heap.size w w' := by
  have c2 := h.cell 2 (v := .int .i64 first) rfl
  have c1 := h.cell 1 (v := .int .i64 room) rfl
  have e0 : IntKind.i64.wrap (first + i) = first + i := by rw [IntKind.wrap_i64]; omega
  have e1 : ¬ room = 0 := by omega
  have e2 : (first + i).tmod room = (first + i) % room := Int.tmod_eq_emod_of_nonneg (by omega)
  have e3 : 0 ≤ (first + i) % room := Int.emod_nonneg _ e1
  have e4 : (first + i) % room < room := Int.emod_lt_of_pos _ hr
  have e5 : IntKind.i64.wrap ((first + i) % room) = (first + i) % room := by rw [IntKind.wrap_i64]; omega
  clear h
  go_enter Try.func41, Try.ntmps41
  go_wp2
  go_quiet (fail)
  go_wp2
  go_ret
  exact ⟨rfl, rg_dn (Below.refl _ _)⟩
theorem i_place {g : Nat} {v : Value} {t : St Int} {w : World} (h : RgA 74 3 1 ci w g v t) (hr : 0 < t.room) (h4 : t.room ≤ 65536) (hf : t.first < t.room) (i : Nat) (hi : i ≤ 65536) :
    Calls Try.prog 41 #[.pointer (some ⟨g, 0, none⟩), .int .i64 i] w fun e w' => e = .returned (.int .i64 (t.place i)) ∧ Below w.heap.size w w' := by
  refine (i_place_i g v t.room t.first t.size t.lost i w h.blk (by omega) (by omega) (by omega) (by omega) (by omega) (by omega)).mono ?_
  rintro e w' ⟨rfl, hb⟩
  exact ⟨by unfold St.place; simp, hb⟩

set_option maxHeartbeats 4000000 in
set_option maxRecDepth 100000 in
theorem i_Len {g : Nat} {v : Value} {t : St Int} {w : World} (h : RgA 74 3 1 ci w g v t) :
    Calls Try.prog 36 #[.pointer (some ⟨g, 0, none⟩)] w fun e w' => e = .returned (.int .i64 t.size) ∧ Below w.heap.size w w' := by
  have c2 := h.blk.cell 3 (v := .int .i64 t.size) rfl
  clear h
  go_enter Try.func36, Try.ntmps36
  go_wp2
  go_ret
  exact ⟨rfl, by go_grown⟩
theorem i_len {g room : Nat} {o : Option Nat} {L : List Int} {lost : Int} {w : World} (h : RgI 74 3 1 ci w g o room L lost) :
    Calls Try.prog 36 #[.pointer (some ⟨g, 0, none⟩)] w fun e w' => e = .returned (.int .i64 L.length) ∧ Below w.heap.size w w' := by
  obtain ⟨v, t, hA, rfl, hI, rfl, rfl⟩ := h.ex
  have h2 := i_Len hA
  rw [hI.len] at h2
  exact h2

theorem i_bld (r : Int) (w : World) : (Instr.build 74 #[(1, .int .i64 r)]).run Try.prog w = .ok (.agg #[.slice none 0 0, .int .i64 r, .int .i64 0, .int .i64 0, .int .u64 0]) w := by
  go_simp
set_option maxHeartbeats 4000000 in
set_option maxRecDepth 100000 in
theorem i_new (room : Nat) (h1 : 1 ≤ room) (h2 : room ≤ 65536) (w : World) :
    Calls Try.prog 34 #[.int .i64 room] w fun e w' => ∃ g, e = .returned (.tuple #[.pointer (some ⟨g, 0, none⟩), .int .i64 0]) ∧ RgI 74 3 1 ci w' g none room [] 0 ∧ Below w.heap.size w w' ∧ w.heap.size ≤ g := by
  have HB := Lib.hid (Below.refl w.heap.size w)
  have h1' : (1 : Int) ≤ room := by omega
  have h2' : (room : Int) ≤ 65536 := by omega
  go_enter Try.func34, Try.ntmps34
  go_wp2_with (first
    | ((with_reducible refine at_slot 11 ?_); refine wl_build rfl rfl (i_bld _ _) rfl ?_)
    | ((with_reducible refine at_slot 12 ?_); refine wl_box (A := #[.slice none 0 0, .int .i64 room, .int .i64 0, .int .i64 0, .int .u64 0]) rfl rfl rfl ?_; intro W1 g1 k1 hb hle; replace HB := Lib.hid (below_tr HB.out hb); clear hb))
  go_ret2
  refine ⟨g1, rfl, ⟨.slice none 0 0, ⟨room, 0, 0, [], 0⟩, ⟨k1, World.ownsRow_nil _ _ _ _, by intro h; cases h⟩, rfl, .new (by omega), rfl, rfl⟩, HB.out, hle⟩
set_option maxHeartbeats 4000000 in
set_option maxRecDepth 100000 in
theorem i_new_no (room : Int) (h1 : room < 1 ∨ 65536 < room) (h2 : -9223372036854775808 ≤ room) (h3 : room ≤ 9223372036854775807) (w : World) :
    Calls Try.prog 34 #[.int .i64 room] w fun e w' => e = .returned (.tuple #[.pointer none, .int .i64 1]) ∧ Below w.heap.size w w' := by
  by_cases h : room < 1
  · clear h1
    go_enter Try.func34, Try.ntmps34
    go_wp2
    all_goals (go_ret2; exact ⟨rfl, by go_grown⟩)
  · have h4 : 65536 < room := by omega
    clear h1
    go_enter Try.func34, Try.ntmps34
    go_wp2
    all_goals (go_ret2; exact ⟨rfl, by go_grown⟩)

set_option maxHeartbeats 4000000 in
set_option maxRecDepth 100000 in
theorem i_drop {g room : Nat} {o : Option Nat} {L : List Int} {lost : Int} {w : World} (h : RgI 74 3 1 ci w g o room L lost) (hr : room ≤ 65536) (n : Int) (_ : -9223372036854775808 ≤ n) (_ : n ≤ 9223372036854775807) :
    Calls Try.prog 40 #[.pointer (some ⟨g, 0, none⟩), .int .i64 n] w fun e w' => e = .returned (.int .i64 (dropN n L.length)) ∧ RgI 74 3 1 ci w' g o room (L.drop (dropN n L.length)) lost ∧ Chg g o w w' := by
  have HH := Lib.hid h
  have HLN := Lib.hid (i_len h)
  have hlr := h.le.1
  have hm := dropN_le n L.length
  obtain ⟨M1, hM1⟩ : ∃ M1 : Int, (if (L.length : Int) < n then (L.length : Int) else n) = M1 := ⟨_, rfl⟩
  have hM2 := dropN_max n L.length hM1
  obtain ⟨m, hmm⟩ : ∃ m, m = dropN n L.length := ⟨_, rfl⟩
  rw [← hmm] at hm hM2 ⊢
  have HM1 := Lib.hid hM1
  have HM2 := Lib.hid hM2
  clear h hM1 hM2 hmm
  go_enter Try.func40, Try.ntmps40
  go_wp2_with (first
    | ((with_reducible refine at_slot 8 ?_); refine wl_call rfl rfl Try.func36 (by kernel_rfl) rfl HLN.out rfl ?_; intro V1 hb1)
    | ((with_reducible refine at_slot 9 ?_); refine wl_mn rfl rfl rfl rfl HM1.out ?_)
    | ((with_reducible refine at_slot 10 ?_); refine wl_mx rfl rfl rfl rfl HM2.out ?_))
  have HI := Lib.hid (HH.out.keep hb1)
  have HC := Lib.hid (Chg.of_below (g := g) (o := o) hb1)
  clear HLN HM1 HM2 HH hb1
  go_loopw [12] (fun i wr => ∃ k : Nat, k ≤ m ∧ i = .int .i64 k ∧ RgI 74 3 1 ci wr g o room (L.drop k) lost ∧ Chg g o w wr) (fun i _ => m - (intOf i).toNat)
  case atStart => exact ⟨0, Nat.zero_le _, rfl, HI.out, HC.out⟩
  case round =>
    clear HI HC
    obtain ⟨k, hk, rfl, hI, hC⟩ := hrel
    have HC := Lib.hid hC
    by_cases hlt : k < m
    · obtain ⟨v, t, hA, rfl, hIs, rfl, rfl⟩ := hI.ex
      have HIs := Lib.hid hIs
      have h0 : 0 < t.size := by rw [hIs.len, List.length_drop]; omega
      have hf := (hIs.head h0).1
      obtain ⟨room, first, size, s, lost⟩ := t
      have hsr := hIs.le
      have hfr := hIs.first
      have hsl := hIs.sl
      have hr0 := hIs.room
      simp only at hr hlr h0 hf hsr hfr hsl hr0
      obtain ⟨hB, hown, hne⟩ := hA
      simp only at hB hown hne
      rcases own_v hown with ⟨_, h0'⟩ | ⟨q, cap, rfl, hcap⟩
      · omega
      obtain ⟨A, cap2, kq, hv2, _, hcm, hAs, hAt⟩ := own_blk hown rfl
      obtain rfl : cap = cap2 := by simpa using hv2
      have hgq : g ≠ q := fun e => hne (by rw [e]; rfl)
      have hfl : first < s.length := hf
      have hmx : s.length ≤ 9223372036854775807 := by omega
      clear hv2 hne hI hC hIs
      go_wp2_with fail
      refine wp_region_held_drew (S := fun w' => Blk w' g 74 #[(.slice (some ⟨q, 0, none⟩) s.length cap), .int .i64 room, .int .i64 first, .int .i64 size, .int .u64 lost]) (by kernel_rfl) hB.drew (fun hS => ?_)
      refine wpAnyH_take (i := 0) (oi := ⟨some 14, _, _, _, _, _⟩) (v := .pointer (some ⟨g, 0, none⟩)) rfl (by kernel_rfl) (by kernel_rfl) (by kernel_rfl) (fun _ _ _ h => h) (yi_mv (Or.inl rfl) rfl rfl) hS ?_
      simp only [Act.put, List.setIfInBounds_toArray, List.set_cons_zero, List.set_cons_succ]
      refine wpAnyH_take (i := 1) (oi := ⟨some 15, _, _, _, _, _⟩) (v := .pointer (some ⟨g, 0, none⟩)) rfl (by kernel_rfl) (by kernel_rfl) (by kernel_rfl) (fun _ _ _ h => h) (yi_ok rfl (fun _ => by go_simp)) hS ?_
      simp only [Act.put, List.setIfInBounds_toArray, List.set_cons_zero, List.set_cons_succ]
      refine wpAnyH_take (i := 2) (oi := ⟨some 16, _, _, _, _, _⟩) (v := .pointer (some ⟨g, 0, none⟩)) rfl (by kernel_rfl) (by kernel_rfl) (by kernel_rfl) (fun _ _ _ h => h) (yi_ok rfl (fun _ => by go_simp)) hS ?_
      simp only [Act.put, List.setIfInBounds_toArray, List.set_cons_zero, List.set_cons_succ]
      refine wpAnyH_take (i := 3) (oi := ⟨some 17, _, _, _, _, _⟩) (v := (.slice (some ⟨q, 0, none⟩) s.length cap)) rfl (by kernel_rfl) (by kernel_rfl) (by kernel_rfl) (fun _ _ _ h => h) (yi_ld1 (v := (.slice (some ⟨q, 0, none⟩) s.length cap)) rfl rfl rfl (fun w' h => h) Try.underlying72 rfl rfl) hS ?_
      simp only [Act.put, List.setIfInBounds_toArray, List.set_cons_zero, List.set_cons_succ]
      refine wpAnyH_take (i := 4) (oi := ⟨some 18, _, _, _, _, _⟩) (v := .pointer (some ⟨g, 0, none⟩)) rfl (by kernel_rfl) (by kernel_rfl) (by kernel_rfl) (fun _ _ _ h => h) (yi_mv (Or.inl rfl) rfl rfl) hS ?_
      simp only [Act.put, List.setIfInBounds_toArray, List.set_cons_zero, List.set_cons_succ]
      refine wpAnyH_take (i := 5) (oi := ⟨some 19, _, _, _, _, _⟩) (v := .pointer (some ⟨g, 0, none⟩)) rfl (by kernel_rfl) (by kernel_rfl) (by kernel_rfl) (fun _ _ _ h => h) (yi_ok rfl (fun _ => by go_simp)) hS ?_
      simp only [Act.put, List.setIfInBounds_toArray, List.set_cons_zero, List.set_cons_succ]
      refine wpAnyH_take (i := 6) (oi := ⟨some 20, _, _, _, _, _⟩) (v := .pointer (some ⟨g, 2, none⟩)) rfl (by kernel_rfl) (by kernel_rfl) (by kernel_rfl) (fun _ _ _ h => h) (yi_ok rfl (fun _ => by go_simp)) hS ?_
      simp only [Act.put, List.setIfInBounds_toArray, List.set_cons_zero, List.set_cons_succ]
      refine wpAnyH_take (i := 7) (oi := ⟨some 21, _, _, _, _, _⟩) (v := .int .i64 first) rfl (by kernel_rfl) (by kernel_rfl) (by kernel_rfl) (fun _ _ _ h => h) (yi_ld1 (v := .int .i64 first) rfl rfl rfl (fun w' h => h) Try.underlying3 rfl rfl) hS ?_
      simp only [Act.put, List.setIfInBounds_toArray, List.set_cons_zero, List.set_cons_succ]
      refine wpAnyH_take (i := 8) (oi := ⟨some 22, _, _, _, _, _⟩) (v := .int .i64 0) rfl (by kernel_rfl) (by kernel_rfl) (by kernel_rfl) (fun _ _ _ h => h) (yi_mv (Or.inl rfl) rfl rfl) hS ?_
      simp only [Act.put, List.setIfInBounds_toArray, List.set_cons_zero, List.set_cons_succ]
      refine wpAnyH_take (i := 9) (oi := ⟨some 23, _, _, _, _, _⟩) (v := .pointer (some ⟨q, first * 1, none⟩)) rfl (by kernel_rfl) (by kernel_rfl) (by kernel_rfl) (fun _ _ _ h => h) (yi_ix rfl rfl rfl rfl Try.underlying72 rfl (by omega) (by omega)) hS ?_
      simp only [Act.put, List.setIfInBounds_toArray, List.set_cons_zero, List.set_cons_succ]
      refine anyH_one (i := 10) (by kernel_rfl) rfl (fun K' hK => ?_)
      refine wq_st (k := 1) (v := .int .i64 0) rfl rfl rfl rfl kq.drew rfl rfl (i_one _) (by omega) ?_
      intro W1 B kB hs1 hb1 hb2 hu
      have k1 := hS.upd hu hgq
      refine hK _ _ k1 (fun hS2 => ?_)
      clear hS2 hK hS
      have hO1 := own_put (c := ci) (x := (0 : Int)) ci_len (by decide) hown rfl rfl (Nat.zero_le q) hAs hAt hcap hcm hfl kB hs1 hb1 (fun j hj => (hb2 j hj).trans (i_cells _ j))
      have hA1 : RgA 74 3 1 ci W1 g (.slice (some ⟨q, 0, none⟩) s.length cap) ⟨room, first, size, s.set first (0 : Int), lost⟩ := ⟨k1, hO1, by intro e; cases e; exact hgq rfl⟩
      have HC1 := Lib.hid (HC.out.drew.tr (Chg.upd_o hu))
      have HA1 := Lib.hid hA1
      clear hA1 hO1 hb1 hb2 kB hs1 hu HC hB kq hown hAt hAs
      refine wpAnyH_done (by kernel_rfl) ?_ _
      go_wp2_with (first
        | ((with_reducible refine at_slot 26 ?_); refine wl_call rfl rfl Try.func41 (by kernel_rfl) rfl (i_place HA1.out hr0 hr hfr 1 (by omega)) rfl ?_; intro V2 hb2; replace k1 := k1.keep hb2; replace HC1 := Lib.hid (HC1.out.grow hb2); have HO2 := Lib.hid (own_keep HA1.out.own hb2); clear hb2)
        | ((with_reducible refine at_store 28 ?_); refine wl_st1 (v := .int .i64 ((St.place ⟨room, first, size, s.set first (0 : Int), lost⟩ 1 : Nat) : Int)) rfl rfl rfl rfl k1 (by kernel_rfl) rfl rfl (by simp) ?_; intro V3 kn hu; have HO3 := Lib.hid (own_same HO2.out (fun q' hq' => hu.block q' (HO2.out.lt q' hq').2 (fun e => HA1.out.ne (by rw [hq', e])))); replace HC1 := Lib.hid (HC1.out.tr (Chg.upd hu)); clear k1; have k1 : Blk _ g 74 #[(.slice (some ⟨q, 0, none⟩) s.length cap), .int .i64 room, .int .i64 ((St.place ⟨room, first, size, s.set first (0 : Int), lost⟩ 1 : Nat) : Int), .int .i64 size, .int .u64 lost] := kn; clear kn hu)
        | ((with_reducible refine at_slot 32 ?_); refine wl_ld1 (v := .int .i64 size) rfl rfl rfl k1 Try.underlying3 rfl rfl ?_)
        | ((with_reducible refine at_store 35 ?_); refine wl_st1 (v := .int .i64 ((size : Int) - 1)) rfl rfl rfl rfl k1 (by kernel_rfl) rfl rfl (by simp) ?_; intro V4 kn hu; have HO4 := Lib.hid (own_same HO3.out (fun q' hq' => hu.block q' (HO3.out.lt q' hq').2 (fun e => HA1.out.ne (by rw [hq', e])))); replace HC1 := Lib.hid (HC1.out.tr (Chg.upd hu)); clear k1; have k1 : Blk _ g 74 #[(.slice (some ⟨q, 0, none⟩) s.length cap), .int .i64 room, .int .i64 ((St.place ⟨room, first, size, s.set first (0 : Int), lost⟩ 1 : Nat) : Int), .int .i64 ((size : Int) - 1), .int .u64 lost] := kn; clear kn hu))
      go_roundw
      case rel =>
        refine ⟨k + 1, hlt, by go_num, ⟨_, St.drop1 ⟨room, first, size, s, lost⟩ (0 : Int), ⟨k1.eq ?_, HO4.out, HA1.out.ne⟩, rfl, ?_, rfl, rfl⟩, HC1.out⟩
        · have : ((size - 1 : Nat) : Int) = (size : Int) - 1 := by omega
          simp only [St.drop1, St.place, this]
        · have := HIs.out.drop1 h0 (0 : Int)
          rw [List.tail_drop] at this
          exact this
      case measure => simp [intOf]; omega
    · obtain rfl : k = m := by omega
      have HI := Lib.hid hI
      clear hI hC
      go_wp2_with fail
      go_ret
      exact ⟨rfl, HI.out, HC.out⟩

theorem i_bs (x : Int) (w : World) : (Instr.buildSlice 72 1 #[(0, .int .i64 x)]).run Try.prog w = .ok (.slice (some ⟨w.heap.size, 0, none⟩) 1 1) (w.alloc (.cells #[.int .i64 x] 3)) := by
  go_simp
theorem i_ret {a b : Int} {p q : Bool} (h : a = b) (h' : p = q) : Ending.returned (.tuple #[.int .i64 a, .bool p]) = .returned (.tuple #[.int .i64 b, .bool q]) := by rw [h, h']
set_option maxHeartbeats 4000000 in
set_option maxRecDepth 100000 in
theorem i_put {g room : Nat} {o : Option Nat} {L : List Int} {lost : Int} {w : World} (h : RgI 74 3 1 ci w g o room L lost) (hr : room ≤ 65536) (x : Int) :
    Calls Try.prog 35 #[.pointer (some ⟨g, 0, none⟩), .int .i64 x] w fun e w' => e = .returned (.tuple #[.int .i64 (putX room L (0 : Int)), .bool (putB room L)]) ∧ ∃ o', RgI 74 3 1 ci w' g o' room (putL room L x) (putN room L lost) ∧ Chg g o w w' ∧ New w o o' := by
  have HH := Lib.hid h
  obtain ⟨hle, hr0⟩ := h.le
  obtain ⟨v, first, s, kB, hown, ho, hne, hIs⟩ := h.flat
  obtain ⟨i0, hi, hz, hs, hby⟩ := infoi
  have HI0 := Lib.hid (show _ ∧ _ ∧ _ ∧ _ from ⟨hi, hz, hs, hby⟩)
  have c1 := kB.cell 1 (v := .int .i64 room) rfl
  clear h hi hz hs hby
  by_cases hf : L.length = room
  · have hff := Lib.hid hf
    have hfb : ((L.length : Int) == (room : Int)) = true := by rw [hf]; simp
    have HFB := Lib.hid hfb
    obtain ⟨hh1, hh2⟩ := hIs.head (show 0 < L.length by omega)
    obtain ⟨x0, hx0⟩ : ∃ x0, L[0]? = some x0 := ⟨L[0]'(by omega), List.getElem?_eq_getElem (by omega)⟩
    have HX0 : Hid (x0 = L.headD (0 : Int)) := Lib.hid (by cases L with | nil => simp at hx0 | cons a l => simpa using hx0.symm)
    have HH1 := Lib.hid (show first < s.length from hh1)
    have hsx : s[first]? = some x0 := hh2.trans hx0
    have HSX := Lib.hid hsx
    have HSL := Lib.hid (show s.length ≤ room from hIs.sl)
    clear hf hfb hh1 hh2 hx0 hIs hsx
    go_enter Try.func35, Try.ntmps35
    go_upto_region 4 with fail
    refine wp_region_held_drew (S := fun w' => Blk w' g 74 #[v, .int .i64 room, .int .i64 first, .int .i64 L.length, .int .u64 lost]) (by kernel_rfl) kB.drew (fun hS => ?_)
    refine wpAnyH_take (i := 0) (oi := ⟨some 19, _, _, _, _, _⟩) (v := .pointer (some ⟨g, 0, none⟩)) rfl (by kernel_rfl) (by kernel_rfl) (by kernel_rfl) (fun _ _ _ h => h) (yi_mv (Or.inl rfl) rfl rfl) hS ?_
    simp only [Act.put, List.setIfInBounds_toArray, List.set_cons_zero, List.set_cons_succ]
    refine wpAnyH_take (i := 1) (oi := ⟨some 20, _, _, _, _, _⟩) (v := .pointer (some ⟨g, 0, none⟩)) rfl (by kernel_rfl) (by kernel_rfl) (by kernel_rfl) (fun _ _ _ h => h) (yi_ok rfl (fun _ => by go_simp)) hS ?_
    simp only [Act.put, List.setIfInBounds_toArray, List.set_cons_zero, List.set_cons_succ]
    refine wpAnyH_take (i := 2) (oi := ⟨some 21, _, _, _, _, _⟩) (v := .pointer (some ⟨g, 3, none⟩)) rfl (by kernel_rfl) (by kernel_rfl) (by kernel_rfl) (fun _ _ _ h => h) (yi_ok rfl (fun _ => by go_simp)) hS ?_
    simp only [Act.put, List.setIfInBounds_toArray, List.set_cons_zero, List.set_cons_succ]
    refine wpAnyH_take (i := 3) (oi := ⟨some 22, _, _, _, _, _⟩) (v := .int .i64 L.length) rfl (by kernel_rfl) (by kernel_rfl) (by kernel_rfl) (fun _ _ _ h => h) (yi_ld1 (v := .int .i64 L.length) rfl rfl rfl (fun w' h => h) Try.underlying3 rfl rfl) hS ?_
    simp only [Act.put, List.setIfInBounds_toArray, List.set_cons_zero, List.set_cons_succ]
    refine wpAnyH_take (i := 4) (oi := ⟨some 23, _, _, _, _, _⟩) (v := .pointer (some ⟨g, 0, none⟩)) rfl (by kernel_rfl) (by kernel_rfl) (by kernel_rfl) (fun _ _ _ h => h) (yi_mv (Or.inl rfl) rfl rfl) hS ?_
    simp only [Act.put, List.setIfInBounds_toArray, List.set_cons_zero, List.set_cons_succ]
    refine wpAnyH_take (i := 5) (oi := ⟨some 24, _, _, _, _, _⟩) (v := .pointer (some ⟨g, 0, none⟩)) rfl (by kernel_rfl) (by kernel_rfl) (by kernel_rfl) (fun _ _ _ h => h) (yi_ok rfl (fun _ => by go_simp)) hS ?_
    simp only [Act.put, List.setIfInBounds_toArray, List.set_cons_zero, List.set_cons_succ]
    refine wpAnyH_take (i := 6) (oi := ⟨some 25, _, _, _, _, _⟩) (v := .pointer (some ⟨g, 1, none⟩)) rfl (by kernel_rfl) (by kernel_rfl) (by kernel_rfl) (fun _ _ _ h => h) (yi_ok rfl (fun _ => by go_simp)) hS ?_
    simp only [Act.put, List.setIfInBounds_toArray, List.set_cons_zero, List.set_cons_succ]
    refine wpAnyH_take (i := 7) (oi := ⟨some 26, _, _, _, _, _⟩) (v := .int .i64 room) rfl (by kernel_rfl) (by kernel_rfl) (by kernel_rfl) (fun _ _ _ h => h) (yi_ld1 (v := .int .i64 room) rfl rfl rfl (fun w' h => h) Try.underlying3 rfl rfl) hS ?_
    simp only [Act.put, List.setIfInBounds_toArray, List.set_cons_zero, List.set_cons_succ]
    refine wpAnyH_take (i := 8) (oi := ⟨some 27, _, _, _, _, _⟩) (v := .bool true) rfl (by kernel_rfl) (by kernel_rfl) (by kernel_rfl) (fun _ _ _ h => h) (yi_eql rfl rfl rfl rfl Try.underlying3 HFB.out) hS ?_
    simp only [Act.put, List.setIfInBounds_toArray, List.set_cons_zero, List.set_cons_succ]
    refine wpAnyH_take (i := 9) (oi := ⟨some 7, _, _, _, _, _⟩) (v := .bool true) rfl (by kernel_rfl) (by kernel_rfl) (by kernel_rfl) (fun _ _ _ h => h) (yi_mv (Or.inr rfl) rfl rfl) hS ?_
    simp only [Act.put, List.setIfInBounds_toArray, List.set_cons_zero, List.set_cons_succ]
    refine wpAnyH_done (by kernel_rfl) ?_ _
    clear hS
    replace kB := kB.drew
    replace hown := own_same (w' := w.drew) hown (fun _ _ => rfl)
    have HC := Lib.hid ((Chg.refl g o w).drew)
    go_upto_region 6 with fail
    have hfl := HH1.out
    have hsl := HSL.out
    rcases own_v hown with ⟨_, h0'⟩ | ⟨q, cap, rfl, hcap⟩
    · omega
    have kx : World.cell? _ ⟨q, first * 1, none⟩ = some (.int .i64 x0) := own_cell hown (q := q) rfl (fl_at ci_len HSX.out (j := 0) rfl)
    have hmx : s.length ≤ 9223372036854775807 := by omega
    refine wp_region_held_drew (S := fun w' => Blk w' g 74 #[(.slice (some ⟨q, 0, none⟩) s.length cap), .int .i64 room, .int .i64 first, .int .i64 L.length, .int .u64 lost] ∧ w'.cell? ⟨q, first * 1, none⟩ = some (.int .i64 x0)) (by kernel_rfl) ⟨kB.drew, kx⟩ (fun hS => ?_)
    refine wpAnyH_take (i := 0) (oi := ⟨some 29, _, _, _, _, _⟩) (v := .pointer (some ⟨g, 0, none⟩)) rfl (by kernel_rfl) (by kernel_rfl) (by kernel_rfl) (fun _ _ _ h => h) (yi_mv (Or.inl rfl) rfl rfl) hS ?_
    simp only [Act.put, List.setIfInBounds_toArray, List.set_cons_zero, List.set_cons_succ]
    refine wpAnyH_take (i := 1) (oi := ⟨some 30, _, _, _, _, _⟩) (v := .pointer (some ⟨g, 0, none⟩)) rfl (by kernel_rfl) (by kernel_rfl) (by kernel_rfl) (fun _ _ _ h => h) (yi_ok rfl (fun _ => by go_simp)) hS ?_
    simp only [Act.put, List.setIfInBounds_toArray, List.set_cons_zero, List.set_cons_succ]
    refine wpAnyH_take (i := 2) (oi := ⟨some 31, _, _, _, _, _⟩) (v := .pointer (some ⟨g, 0, none⟩)) rfl (by kernel_rfl) (by kernel_rfl) (by kernel_rfl) (fun _ _ _ h => h) (yi_ok rfl (fun _ => by go_simp)) hS ?_
    simp only [Act.put, List.setIfInBounds_toArray, List.set_cons_zero, List.set_cons_succ]
    refine wpAnyH_take (i := 3) (oi := ⟨some 32, _, _, _, _, _⟩) (v := .slice (some ⟨q, 0, none⟩) s.length cap) rfl (by kernel_rfl) (by kernel_rfl) (by kernel_rfl) (fun _ _ _ h => h) (yi_ld1 (v := .slice (some ⟨q, 0, none⟩) s.length cap) rfl rfl rfl (fun w' h => h.1) Try.underlying72 rfl rfl) hS ?_
    simp only [Act.put, List.setIfInBounds_toArray, List.set_cons_zero, List.set_cons_succ]
    refine wpAnyH_take (i := 4) (oi := ⟨some 33, _, _, _, _, _⟩) (v := .pointer (some ⟨g, 0, none⟩)) rfl (by kernel_rfl) (by kernel_rfl) (by kernel_rfl) (fun _ _ _ h => h) (yi_mv (Or.inl rfl) rfl rfl) hS ?_
    simp only [Act.put, List.setIfInBounds_toArray, List.set_cons_zero, List.set_cons_succ]
    refine wpAnyH_take (i := 5) (oi := ⟨some 34, _, _, _, _, _⟩) (v := .pointer (some ⟨g, 0, none⟩)) rfl (by kernel_rfl) (by kernel_rfl) (by kernel_rfl) (fun _ _ _ h => h) (yi_ok rfl (fun _ => by go_simp)) hS ?_
    simp only [Act.put, List.setIfInBounds_toArray, List.set_cons_zero, List.set_cons_succ]
    refine wpAnyH_take (i := 6) (oi := ⟨some 35, _, _, _, _, _⟩) (v := .pointer (some ⟨g, 2, none⟩)) rfl (by kernel_rfl) (by kernel_rfl) (by kernel_rfl) (fun _ _ _ h => h) (yi_ok rfl (fun _ => by go_simp)) hS ?_
    simp only [Act.put, List.setIfInBounds_toArray, List.set_cons_zero, List.set_cons_succ]
    refine wpAnyH_take (i := 7) (oi := ⟨some 36, _, _, _, _, _⟩) (v := .int .i64 first) rfl (by kernel_rfl) (by kernel_rfl) (by kernel_rfl) (fun _ _ _ h => h) (yi_ld1 (v := .int .i64 first) rfl rfl rfl (fun w' h => h.1) Try.underlying3 rfl rfl) hS ?_
    simp only [Act.put, List.setIfInBounds_toArray, List.set_cons_zero, List.set_cons_succ]
    refine wpAnyH_take (i := 8) (oi := ⟨some 37, _, _, _, _, _⟩) (v := .pointer (some ⟨q, first * 1, none⟩)) rfl (by kernel_rfl) (by kernel_rfl) (by kernel_rfl) (fun _ _ _ h => h) (yi_ix rfl rfl rfl rfl Try.underlying72 rfl hfl hmx) hS ?_
    simp only [Act.put, List.setIfInBounds_toArray, List.set_cons_zero, List.set_cons_succ]
    refine wpAnyH_take (i := 9) (oi := ⟨some 38, _, _, _, _, _⟩) (v := .int .i64 x0) rfl (by kernel_rfl) (by kernel_rfl) (by kernel_rfl) (fun _ _ _ h => h) (yi_c rfl rfl rfl (fun w' h => h.2) Try.underlying3 rfl) hS ?_
    simp only [Act.put, List.setIfInBounds_toArray, List.set_cons_zero, List.set_cons_succ]
    refine wpAnyH_take (i := 10) (oi := ⟨some 6, _, _, _, _, _⟩) (v := .int .i64 x0) rfl (by kernel_rfl) (by kernel_rfl) (by kernel_rfl) (fun _ _ _ h => h) (yi_mv (Or.inr rfl) rfl rfl) hS ?_
    simp only [Act.put, List.setIfInBounds_toArray, List.set_cons_zero, List.set_cons_succ]
    refine wpAnyH_done (by kernel_rfl) ?_ _
    clear hS kB hown kx hfl hsl hcap hmx HSX HSL HH1
    replace HC := Lib.hid HC.out.drew
    have HH2 := Lib.hid (show RgI 74 3 1 ci w.drew.drew g o room L lost from by obtain ⟨v, t, h1, h2⟩ := HH.out.ex; exact ⟨v, t, h1.drew.drew, h2⟩)
    have HDR := Lib.hid (i_drop HH2.out hr 1 (by omega) (by omega))
    clear HH HH2
    go_upto_region 9 with (first
      | ((with_reducible refine at_slot 40 ?_); refine wl_call rfl rfl Try.func40 (by kernel_rfl) rfl HDR.out rfl ?_; intro V1 hR; obtain ⟨v2, first2, s2, kB, hown, ho2, hne2, hIs⟩ := hR.1.flat; replace HC := Lib.hid (HC.out.tr hR.2); clear hR)
      | ((with_reducible refine at_slot 44 ?_); refine wl_ld1 (v := .int .u64 lost) rfl rfl rfl kB Try.underlying25 rfl rfl ?_)
      | ((with_reducible refine at_slot 45 ?_); refine wl_bin (v := .int .u64 (IntKind.u64.wrap (lost + 1))) rfl rfl rfl (add_u64 _ _ _) ?_)
      | ((with_reducible refine at_store 47 ?_); refine wl_st1 (v := .int .u64 (IntKind.u64.wrap (lost + 1))) rfl rfl rfl rfl kB (by kernel_rfl) rfl rfl (by simp) ?_; intro V6 kn hu; replace hown := own_same hown (fun q' hq' => hu.block q' (hown.lt q' hq').2 (fun e => hne2 (by rw [← ho2, hq', e]))); replace HC := Lib.hid (HC.out.tr (Chg.upd hu)); clear kB; have kB : Blk _ g 74 #[v2, .int .i64 room, .int .i64 first2, .int .i64 (L.drop (dropN 1 L.length)).length, .int .u64 (IntKind.u64.wrap (lost + 1))] := kn; clear kn hu))
    obtain ⟨L2, hL2⟩ : ∃ L2, L2 = L.drop (dropN 1 L.length) := ⟨_, rfl⟩
    rw [← hL2] at kB hIs
    have hL3 : L2 = L.tail := by rw [hL2, dropN_one (by have := hff.out; omega), List.drop_one]
    have HLT := Lib.hid hL3
    have hlt : L2.length < room := by rw [hL3, List.length_tail]; omega
    have hIs2 : Is ⟨room, first2, L2.length, s2, IntKind.u64.wrap (lost + 1)⟩ L2 := hIs.loss
    obtain ⟨lost2, hl2⟩ : ∃ l2, l2 = IntKind.u64.wrap (lost + 1) := ⟨_, rfl⟩
    have HL2 := Lib.hid hl2
    rw [← hl2] at kB hIs2
    clear hIs hL2 hL3 hl2 ho hne HDR
    have ho := ho2
    have hne := hne2
    have hIs := hIs2
    clear ho2 hne2 hIs2 HFB c1
    by_cases hp : St.place ⟨room, first2, L2.length, s2, lost2⟩ L2.length < s2.length
    · have hfi : first2 < room := hIs.first
      have hsl : s2.length ≤ room := hIs.sl
      have hpl := hIs.place_le hlt
      obtain ⟨p, hpd⟩ : ∃ p, p = St.place ⟨room, first2, L2.length, s2, lost2⟩ L2.length := ⟨_, rfl⟩
      have HPC := i_place (t := ⟨room, first2, L2.length, s2, lost2⟩) ⟨kB, hown, by rw [ho]; exact hne⟩ hr0 hr hfi L2.length (by omega)
      simp only [← hpd] at HPC hpl hp
      replace HPC := Lib.hid HPC
      have HIS := Lib.hid hIs
      have HPD := Lib.hid hpd
      obtain ⟨hpl1, hpl2⟩ := hpl
      rcases own_v hown with ⟨_, h0'⟩ | ⟨q, cap, rfl, hcap⟩
      · omega
      obtain ⟨A, cap2, kq, hv2, _, hcm, hAs, hAt⟩ := own_blk hown rfl
      obtain rfl : cap = cap2 := by simpa using hv2
      have ho' : o = some q := ho.symm
      have hgq : g ≠ q := fun e => hne (by rw [ho', e])
      have hqg : q ≠ g := Ne.symm hgq
      have hmx : s2.length ≤ 9223372036854775807 := by omega
      have HO := Lib.hid hown
      have hAz : p * 1 + 1 ≤ A.size := by omega
      have HAs := Lib.hid hAs
      have HAt := Lib.hid hAt
      have hpn : ((p : Int) == (s2.length : Int)) = false := by simp; omega
      clear hv2 hIs hpd hown ho hAs hAt hpl2
      go_wp2_with (first
        | ((with_reducible refine at_slot 52 ?_); refine wl_ld1 (v := .int .i64 L2.length) rfl rfl rfl kB Try.underlying3 rfl rfl ?_)
        | ((with_reducible refine at_slot 53 ?_); refine wl_call rfl rfl Try.func41 (by kernel_rfl) rfl HPC.out rfl ?_; intro V2 hb2; replace kB := kB.keep hb2; replace kq := kq.keep hb2; replace HC := Lib.hid (HC.out.grow hb2); replace HO := Lib.hid (own_keep HO.out hb2); clear hb2)
        | ((with_reducible refine at_slot 58 ?_); refine wl_ld1 (v := (.slice (some ⟨q, 0, none⟩) s2.length cap)) rfl rfl rfl kB Try.underlying72 rfl rfl ?_)
        | ((with_reducible refine at_slot 74 ?_); refine wl_ld1 (v := (.slice (some ⟨q, 0, none⟩) s2.length cap)) rfl rfl rfl kB Try.underlying72 rfl rfl ?_)
        | ((with_reducible refine at_slot 77 ?_); refine wl_ix rfl rfl rfl rfl Try.underlying72 rfl (by omega) (by omega) ?_)
        | ((with_reducible refine at_store 77 ?_); refine wl_stq (k := 1) (v := .int .i64 x) rfl rfl rfl rfl kq rfl rfl (i_one _) hAz ?_; intro W1 B kB2 hs1 hb1 hb2 hu; have hO1 := own_put (c := ci) (x := x) ci_len (by decide) HO.out rfl rfl (Nat.zero_le q) HAs.out HAt.out hcap hcm hp kB2 hs1 hb1 (fun j hj => (hb2 j hj).trans (i_cells _ j)); replace HO := Lib.hid hO1; replace kB := kB.upd hu hgq; replace HC := Lib.hid (HC.out.tr (by rw [ho']; exact Chg.upd_o hu)); clear hO1 hb1 hb2 kB2 kq hu)
        | ((with_reducible refine at_slot 81 ?_); refine wl_ld1 (v := .int .i64 L2.length) rfl rfl rfl kB Try.underlying3 rfl rfl ?_)
        | ((with_reducible refine at_store 84 ?_); refine wl_st1 (v := .int .i64 ((L2.length : Int) + 1)) rfl rfl rfl rfl kB (by kernel_rfl) rfl rfl (by simp) ?_; intro V4 kn hu; replace HO := Lib.hid (own_same HO.out (fun q' hq' => hu.block q' (HO.out.lt q' hq').2 (fun e => hqg (by cases hq'; exact e)))); replace HC := Lib.hid (HC.out.tr (Chg.upd hu)); clear kB; have kB : Blk _ g 74 #[(.slice (some ⟨q, 0, none⟩) s2.length cap), .int .i64 room, .int .i64 first2, .int .i64 ((L2.length : Int) + 1), .int .u64 lost2] := kn; clear kn hu))
      go_ret2
      have hIP := HIS.out.put hlt (by rw [← HPD.out]; exact hp) x
      have e5 : St.put ⟨room, first2, L2.length, s2, lost2⟩ x = ⟨room, first2, (L2 ++ [x]).length, s2.set p x, lost2⟩ := by rw [HPD.out]; simp [St.put]
      rw [e5] at hIP
      have hRI : RgI 74 3 1 ci _ g o room (L2 ++ [x]) lost2 := .of (kB.eq (by simp)) HO.out ho'.symm hne hIP
      exact ⟨i_ret (by rw [putX_yes hff.out]; exact HX0.out) (putB_yes hff.out).symm, o, (by rw [putL_yes hff.out, putN_yes hff.out, ← HLT.out, ← HL2.out]; exact hRI), HC.out, (Or.inl rfl)⟩
    · have hp2 : St.place ⟨room, first2, L2.length, s2, lost2⟩ L2.length = s2.length := by
        have := (hIs.place_le hlt).1
        simp only at this
        omega
      clear hp
      have hp := hp2
      clear hp2
      obtain ⟨v, hvv2⟩ : ∃ v, v = v2 := ⟨_, rfl⟩
      subst hvv2
      have hfi : first2 < room := hIs.first
      have hsl : s2.length ≤ room := hIs.sl
      have hpl := hIs.place_le hlt
      obtain ⟨p, hpd⟩ : ∃ p, p = St.place ⟨room, first2, L2.length, s2, lost2⟩ L2.length := ⟨_, rfl⟩
      have HPC := i_place (t := ⟨room, first2, L2.length, s2, lost2⟩) ⟨kB, hown, by rw [ho]; exact hne⟩ hr0 hr hfi L2.length (by omega)
      simp only [← hpd] at HPC hpl hp
      replace HPC := Lib.hid HPC
      have HIS := Lib.hid hIs
      have HPD := Lib.hid hpd
      obtain ⟨hpl1, hpl2⟩ := hpl
      have HO := Lib.hid hown
      have HO_ := Lib.hid ho
      have hvv := own_v hown
      have HVV := Lib.hid hvv
      have hpn : ((p : Int) == (s2.length : Int)) = true := by simp; omega
      have hs63 : s2.length ≤ 65536 := by omega
      clear hIs hpd hown ho hvv
      go_wp2_with (first
        | ((with_reducible refine at_slot 52 ?_); refine wl_ld1 (v := .int .i64 L2.length) rfl rfl rfl kB Try.underlying3 rfl rfl ?_)
        | ((with_reducible refine at_slot 53 ?_); refine wl_call rfl rfl Try.func41 (by kernel_rfl) rfl HPC.out rfl ?_; intro V2 hb2; replace kB := kB.keep hb2; replace HC := Lib.hid (HC.out.grow hb2); replace HO := Lib.hid (own_keep HO.out hb2); clear hb2)
        | ((with_reducible refine at_slot 58 ?_); refine wl_ld1 (v := v) rfl rfl rfl kB Try.underlying72 rfl rfl ?_)
        | ((with_reducible refine at_slot 59 ?_); refine wl_len rfl rfl rfl Try.underlying72 HVV.out ?_)
        | ((with_reducible refine at_slot 65 ?_); refine wl_ld1 (v := v) rfl rfl rfl kB Try.underlying72 rfl rfl ?_)
        | ((with_reducible refine at_slot 67 ?_); refine wl_bslice (A := #[.int .i64 x]) rfl rfl (i_bs _ _) rfl ?_; intro W3 gb kb hb hle; replace kB := kB.keep hb; replace HC := Lib.hid (HC.out.grow hb); replace HO := Lib.hid (own_keep HO.out hb); clear hb)
        | (at_builtin; refine wpList_append_lies _ rfl _ _ 72 rfl 0 3 i0 _ 1 8 Try.underlying72 HI0.out.1 HI0.out.2.1 HI0.out.2.2.1 HI0.out.2.2.2 rfl (by decide) v s2.length (fl ci s2) rfl HO.out ⟨gb, 0, none⟩ 1 1 [.int .i64 x] rfl rfl (World.news_of_block (cs := #[.int .i64 x]) kb) (by intro y hy; rw [List.mem_singleton] at hy; subst hy; rfl) (by omega) (by unfold maxLen; omega) (by omega) (Nat.zero_le _) _ rfl ?_; intro g2 cap2 W4 hown2 hgrow hat hlt4; have HO2 := Lib.hid hown2; have hgb : v.ownBlock ≠ some g := (by rw [HO_.out]; exact hne); have hg2 : some g2 ≠ some g := (by rcases hat with e | e; exact (by rw [← e]; exact hgb); exact (by intro e2; have := kB.lt; cases e2; omega)); have HNW := Lib.hid (show New w o (some g2) from (by rcases hat with e | e; exact Or.inl (by rw [← e]; exact HO_.out); exact Or.inr ⟨g2, rfl, (by rw [e]; exact HC.out.size)⟩)); have hcg := Chg.grown (g := g) (o := o) (by rw [← HO_.out]; exact hgrow); replace kB := Blk.keep_chg kB hgrow hgb; replace HC := Lib.hid (HC.out.tr hcg); clear hown2 hgrow hat hcg)
        | ((with_reducible refine at_store 70 ?_); refine wl_st1 (v := .slice (some ⟨g2, 0, none⟩) (s2.length + 1) cap2) rfl rfl rfl rfl kB (by kernel_rfl) rfl rfl (by simp) ?_; intro V5 kn hu; replace HO2 := Lib.hid (own_same HO2.out (fun q' hq' => hu.block q' (HO2.out.lt q' hq').2 (fun e => hg2 (by rw [← e]; exact hq')))); replace HC := Lib.hid (HC.out.tr (Chg.upd hu)); clear kB; have kB : Blk _ g 74 #[(.slice (some ⟨g2, 0, none⟩) (s2.length + 1) cap2), .int .i64 room, .int .i64 first2, .int .i64 L2.length, .int .u64 lost2] := kn; clear kn hu)
        | ((with_reducible refine at_slot 81 ?_); refine wl_ld1 (v := .int .i64 L2.length) rfl rfl rfl kB Try.underlying3 rfl rfl ?_)
        | ((with_reducible refine at_store 84 ?_); refine wl_st1 (v := .int .i64 ((L2.length : Int) + 1)) rfl rfl rfl rfl kB (by kernel_rfl) rfl rfl (by simp) ?_; intro V6 kn hu; replace HO2 := Lib.hid (own_same HO2.out (fun q' hq' => hu.block q' (HO2.out.lt q' hq').2 (fun e => hg2 (by rw [← e]; exact hq')))); replace HC := Lib.hid (HC.out.tr (Chg.upd hu)); clear kB; have kB : Blk _ g 74 #[(.slice (some ⟨g2, 0, none⟩) (s2.length + 1) cap2), .int .i64 room, .int .i64 first2, .int .i64 ((L2.length : Int) + 1), .int .u64 lost2] := kn; clear kn hu))
      go_ret2
      have hIP := HIS.out.app hlt (by rw [← HPD.out]; exact hp) x
      have e5 : St.app ⟨room, first2, L2.length, s2, lost2⟩ x = ⟨room, first2, (L2 ++ [x]).length, s2 ++ [x], lost2⟩ := by simp [St.app]
      rw [e5] at hIP
      have hOO : World.ownsRow V6 0 3 1 (.slice (some ⟨g2, 0, none⟩) (s2.length + 1) cap2) (s2 ++ [x]).length (fl ci (s2 ++ [x])) := by rw [fl_append, List.length_append]; exact HO2.out
      have hRI : RgI 74 3 1 ci _ g (some g2) room (L2 ++ [x]) lost2 := .of (kB.eq (by simp)) hOO rfl hg2 hIP
      exact ⟨i_ret (by rw [putX_yes hff.out]; exact HX0.out) (putB_yes hff.out).symm, (some g2), (by rw [putL_yes hff.out, putN_yes hff.out, ← HLT.out, ← HL2.out]; exact hRI), HC.out, HNW.out⟩
  · have hlt : L.length < room := by omega
    have hfb : ((L.length : Int) == (room : Int)) = false := by simp; omega
    have HFB := Lib.hid hfb
    have HNF := Lib.hid hf
    have HIS0 := Lib.hid hIs
    clear hf hfb HH hIs
    go_enter Try.func35, Try.ntmps35
    go_upto_region 4 with fail
    refine wp_region_held_drew (S := fun w' => Blk w' g 74 #[v, .int .i64 room, .int .i64 first, .int .i64 L.length, .int .u64 lost]) (by kernel_rfl) kB.drew (fun hS => ?_)
    refine wpAnyH_take (i := 0) (oi := ⟨some 19, _, _, _, _, _⟩) (v := .pointer (some ⟨g, 0, none⟩)) rfl (by kernel_rfl) (by kernel_rfl) (by kernel_rfl) (fun _ _ _ h => h) (yi_mv (Or.inl rfl) rfl rfl) hS ?_
    simp only [Act.put, List.setIfInBounds_toArray, List.set_cons_zero, List.set_cons_succ]
    refine wpAnyH_take (i := 1) (oi := ⟨some 20, _, _, _, _, _⟩) (v := .pointer (some ⟨g, 0, none⟩)) rfl (by kernel_rfl) (by kernel_rfl) (by kernel_rfl) (fun _ _ _ h => h) (yi_ok rfl (fun _ => by go_simp)) hS ?_
    simp only [Act.put, List.setIfInBounds_toArray, List.set_cons_zero, List.set_cons_succ]
    refine wpAnyH_take (i := 2) (oi := ⟨some 21, _, _, _, _, _⟩) (v := .pointer (some ⟨g, 3, none⟩)) rfl (by kernel_rfl) (by kernel_rfl) (by kernel_rfl) (fun _ _ _ h => h) (yi_ok rfl (fun _ => by go_simp)) hS ?_
    simp only [Act.put, List.setIfInBounds_toArray, List.set_cons_zero, List.set_cons_succ]
    refine wpAnyH_take (i := 3) (oi := ⟨some 22, _, _, _, _, _⟩) (v := .int .i64 L.length) rfl (by kernel_rfl) (by kernel_rfl) (by kernel_rfl) (fun _ _ _ h => h) (yi_ld1 (v := .int .i64 L.length) rfl rfl rfl (fun w' h => h) Try.underlying3 rfl rfl) hS ?_
    simp only [Act.put, List.setIfInBounds_toArray, List.set_cons_zero, List.set_cons_succ]
    refine wpAnyH_take (i := 4) (oi := ⟨some 23, _, _, _, _, _⟩) (v := .pointer (some ⟨g, 0, none⟩)) rfl (by kernel_rfl) (by kernel_rfl) (by kernel_rfl) (fun _ _ _ h => h) (yi_mv (Or.inl rfl) rfl rfl) hS ?_
    simp only [Act.put, List.setIfInBounds_toArray, List.set_cons_zero, List.set_cons_succ]
    refine wpAnyH_take (i := 5) (oi := ⟨some 24, _, _, _, _, _⟩) (v := .pointer (some ⟨g, 0, none⟩)) rfl (by kernel_rfl) (by kernel_rfl) (by kernel_rfl) (fun _ _ _ h => h) (yi_ok rfl (fun _ => by go_simp)) hS ?_
    simp only [Act.put, List.setIfInBounds_toArray, List.set_cons_zero, List.set_cons_succ]
    refine wpAnyH_take (i := 6) (oi := ⟨some 25, _, _, _, _, _⟩) (v := .pointer (some ⟨g, 1, none⟩)) rfl (by kernel_rfl) (by kernel_rfl) (by kernel_rfl) (fun _ _ _ h => h) (yi_ok rfl (fun _ => by go_simp)) hS ?_
    simp only [Act.put, List.setIfInBounds_toArray, List.set_cons_zero, List.set_cons_succ]
    refine wpAnyH_take (i := 7) (oi := ⟨some 26, _, _, _, _, _⟩) (v := .int .i64 room) rfl (by kernel_rfl) (by kernel_rfl) (by kernel_rfl) (fun _ _ _ h => h) (yi_ld1 (v := .int .i64 room) rfl rfl rfl (fun w' h => h) Try.underlying3 rfl rfl) hS ?_
    simp only [Act.put, List.setIfInBounds_toArray, List.set_cons_zero, List.set_cons_succ]
    refine wpAnyH_take (i := 8) (oi := ⟨some 27, _, _, _, _, _⟩) (v := .bool false) rfl (by kernel_rfl) (by kernel_rfl) (by kernel_rfl) (fun _ _ _ h => h) (yi_eql rfl rfl rfl rfl Try.underlying3 HFB.out) hS ?_
    simp only [Act.put, List.setIfInBounds_toArray, List.set_cons_zero, List.set_cons_succ]
    refine wpAnyH_take (i := 9) (oi := ⟨some 7, _, _, _, _, _⟩) (v := .bool false) rfl (by kernel_rfl) (by kernel_rfl) (by kernel_rfl) (fun _ _ _ h => h) (yi_mv (Or.inr rfl) rfl rfl) hS ?_
    simp only [Act.put, List.setIfInBounds_toArray, List.set_cons_zero, List.set_cons_succ]
    refine wpAnyH_done (by kernel_rfl) ?_ _
    clear hS
    replace kB := kB.drew
    replace hown := own_same (w' := w.drew) hown (fun _ _ => rfl)
    have HC := Lib.hid ((Chg.refl g o w).drew)
    go_upto_region 9 with fail
    have hIs := HIS0.out
    clear HIS0 HFB c1
    by_cases hp : St.place ⟨room, first, L.length, s, lost⟩ L.length < s.length
    · have hfi : first < room := hIs.first
      have hsl : s.length ≤ room := hIs.sl
      have hpl := hIs.place_le hlt
      obtain ⟨p, hpd⟩ : ∃ p, p = St.place ⟨room, first, L.length, s, lost⟩ L.length := ⟨_, rfl⟩
      have HPC := i_place (t := ⟨room, first, L.length, s, lost⟩) ⟨kB, hown, by rw [ho]; exact hne⟩ hr0 hr hfi L.length (by omega)
      simp only [← hpd] at HPC hpl hp
      replace HPC := Lib.hid HPC
      have HIS := Lib.hid hIs
      have HPD := Lib.hid hpd
      obtain ⟨hpl1, hpl2⟩ := hpl
      rcases own_v hown with ⟨_, h0'⟩ | ⟨q, cap, rfl, hcap⟩
      · omega
      obtain ⟨A, cap2, kq, hv2, _, hcm, hAs, hAt⟩ := own_blk hown rfl
      obtain rfl : cap = cap2 := by simpa using hv2
      have ho' : o = some q := ho.symm
      have hgq : g ≠ q := fun e => hne (by rw [ho', e])
      have hqg : q ≠ g := Ne.symm hgq
      have hmx : s.length ≤ 9223372036854775807 := by omega
      have HO := Lib.hid hown
      have hAz : p * 1 + 1 ≤ A.size := by omega
      have HAs := Lib.hid hAs
      have HAt := Lib.hid hAt
      have hpn : ((p : Int) == (s.length : Int)) = false := by simp; omega
      clear hv2 hIs hpd hown ho hAs hAt hpl2
      go_wp2_with (first
        | ((with_reducible refine at_slot 52 ?_); refine wl_ld1 (v := .int .i64 L.length) rfl rfl rfl kB Try.underlying3 rfl rfl ?_)
        | ((with_reducible refine at_slot 53 ?_); refine wl_call rfl rfl Try.func41 (by kernel_rfl) rfl HPC.out rfl ?_; intro V2 hb2; replace kB := kB.keep hb2; replace kq := kq.keep hb2; replace HC := Lib.hid (HC.out.grow hb2); replace HO := Lib.hid (own_keep HO.out hb2); clear hb2)
        | ((with_reducible refine at_slot 58 ?_); refine wl_ld1 (v := (.slice (some ⟨q, 0, none⟩) s.length cap)) rfl rfl rfl kB Try.underlying72 rfl rfl ?_)
        | ((with_reducible refine at_slot 74 ?_); refine wl_ld1 (v := (.slice (some ⟨q, 0, none⟩) s.length cap)) rfl rfl rfl kB Try.underlying72 rfl rfl ?_)
        | ((with_reducible refine at_slot 77 ?_); refine wl_ix rfl rfl rfl rfl Try.underlying72 rfl (by omega) (by omega) ?_)
        | ((with_reducible refine at_store 77 ?_); refine wl_stq (k := 1) (v := .int .i64 x) rfl rfl rfl rfl kq rfl rfl (i_one _) hAz ?_; intro W1 B kB2 hs1 hb1 hb2 hu; have hO1 := own_put (c := ci) (x := x) ci_len (by decide) HO.out rfl rfl (Nat.zero_le q) HAs.out HAt.out hcap hcm hp kB2 hs1 hb1 (fun j hj => (hb2 j hj).trans (i_cells _ j)); replace HO := Lib.hid hO1; replace kB := kB.upd hu hgq; replace HC := Lib.hid (HC.out.tr (by rw [ho']; exact Chg.upd_o hu)); clear hO1 hb1 hb2 kB2 kq hu)
        | ((with_reducible refine at_slot 81 ?_); refine wl_ld1 (v := .int .i64 L.length) rfl rfl rfl kB Try.underlying3 rfl rfl ?_)
        | ((with_reducible refine at_store 84 ?_); refine wl_st1 (v := .int .i64 ((L.length : Int) + 1)) rfl rfl rfl rfl kB (by kernel_rfl) rfl rfl (by simp) ?_; intro V4 kn hu; replace HO := Lib.hid (own_same HO.out (fun q' hq' => hu.block q' (HO.out.lt q' hq').2 (fun e => hqg (by cases hq'; exact e)))); replace HC := Lib.hid (HC.out.tr (Chg.upd hu)); clear kB; have kB : Blk _ g 74 #[(.slice (some ⟨q, 0, none⟩) s.length cap), .int .i64 room, .int .i64 first, .int .i64 ((L.length : Int) + 1), .int .u64 lost] := kn; clear kn hu))
      go_ret2
      have hIP := HIS.out.put hlt (by rw [← HPD.out]; exact hp) x
      have e5 : St.put ⟨room, first, L.length, s, lost⟩ x = ⟨room, first, (L ++ [x]).length, s.set p x, lost⟩ := by rw [HPD.out]; simp [St.put]
      rw [e5] at hIP
      have hRI : RgI 74 3 1 ci _ g o room (L ++ [x]) lost := .of (kB.eq (by simp)) HO.out ho'.symm hne hIP
      exact ⟨i_ret (putX_no HNF.out).symm (putB_no HNF.out).symm, o, (by rw [putL_no HNF.out, putN_no HNF.out]; exact hRI), HC.out, (Or.inl rfl)⟩
    · have hp2 : St.place ⟨room, first, L.length, s, lost⟩ L.length = s.length := by
        have := (hIs.place_le hlt).1
        simp only at this
        omega
      clear hp
      have hp := hp2
      clear hp2
      have hfi : first < room := hIs.first
      have hsl : s.length ≤ room := hIs.sl
      have hpl := hIs.place_le hlt
      obtain ⟨p, hpd⟩ : ∃ p, p = St.place ⟨room, first, L.length, s, lost⟩ L.length := ⟨_, rfl⟩
      have HPC := i_place (t := ⟨room, first, L.length, s, lost⟩) ⟨kB, hown, by rw [ho]; exact hne⟩ hr0 hr hfi L.length (by omega)
      simp only [← hpd] at HPC hpl hp
      replace HPC := Lib.hid HPC
      have HIS := Lib.hid hIs
      have HPD := Lib.hid hpd
      obtain ⟨hpl1, hpl2⟩ := hpl
      have HO := Lib.hid hown
      have HO_ := Lib.hid ho
      have hvv := own_v hown
      have HVV := Lib.hid hvv
      have hpn : ((p : Int) == (s.length : Int)) = true := by simp; omega
      have hs63 : s.length ≤ 65536 := by omega
      clear hIs hpd hown ho hvv
      go_wp2_with (first
        | ((with_reducible refine at_slot 52 ?_); refine wl_ld1 (v := .int .i64 L.length) rfl rfl rfl kB Try.underlying3 rfl rfl ?_)
        | ((with_reducible refine at_slot 53 ?_); refine wl_call rfl rfl Try.func41 (by kernel_rfl) rfl HPC.out rfl ?_; intro V2 hb2; replace kB := kB.keep hb2; replace HC := Lib.hid (HC.out.grow hb2); replace HO := Lib.hid (own_keep HO.out hb2); clear hb2)
        | ((with_reducible refine at_slot 58 ?_); refine wl_ld1 (v := v) rfl rfl rfl kB Try.underlying72 rfl rfl ?_)
        | ((with_reducible refine at_slot 59 ?_); refine wl_len rfl rfl rfl Try.underlying72 HVV.out ?_)
        | ((with_reducible refine at_slot 65 ?_); refine wl_ld1 (v := v) rfl rfl rfl kB Try.underlying72 rfl rfl ?_)
        | ((with_reducible refine at_slot 67 ?_); refine wl_bslice (A := #[.int .i64 x]) rfl rfl (i_bs _ _) rfl ?_; intro W3 gb kb hb hle; replace kB := kB.keep hb; replace HC := Lib.hid (HC.out.grow hb); replace HO := Lib.hid (own_keep HO.out hb); clear hb)
        | (at_builtin; refine wpList_append_lies _ rfl _ _ 72 rfl 0 3 i0 _ 1 8 Try.underlying72 HI0.out.1 HI0.out.2.1 HI0.out.2.2.1 HI0.out.2.2.2 rfl (by decide) v s.length (fl ci s) rfl HO.out ⟨gb, 0, none⟩ 1 1 [.int .i64 x] rfl rfl (World.news_of_block (cs := #[.int .i64 x]) kb) (by intro y hy; rw [List.mem_singleton] at hy; subst hy; rfl) (by omega) (by unfold maxLen; omega) (by omega) (Nat.zero_le _) _ rfl ?_; intro g2 cap2 W4 hown2 hgrow hat hlt4; have HO2 := Lib.hid hown2; have hgb : v.ownBlock ≠ some g := (by rw [HO_.out]; exact hne); have hg2 : some g2 ≠ some g := (by rcases hat with e | e; exact (by rw [← e]; exact hgb); exact (by intro e2; have := kB.lt; cases e2; omega)); have HNW := Lib.hid (show New w o (some g2) from (by rcases hat with e | e; exact Or.inl (by rw [← e]; exact HO_.out); exact Or.inr ⟨g2, rfl, (by rw [e]; exact HC.out.size)⟩)); have hcg := Chg.grown (g := g) (o := o) (by rw [← HO_.out]; exact hgrow); replace kB := Blk.keep_chg kB hgrow hgb; replace HC := Lib.hid (HC.out.tr hcg); clear hown2 hgrow hat hcg)
        | ((with_reducible refine at_store 70 ?_); refine wl_st1 (v := .slice (some ⟨g2, 0, none⟩) (s.length + 1) cap2) rfl rfl rfl rfl kB (by kernel_rfl) rfl rfl (by simp) ?_; intro V5 kn hu; replace HO2 := Lib.hid (own_same HO2.out (fun q' hq' => hu.block q' (HO2.out.lt q' hq').2 (fun e => hg2 (by rw [← e]; exact hq')))); replace HC := Lib.hid (HC.out.tr (Chg.upd hu)); clear kB; have kB : Blk _ g 74 #[(.slice (some ⟨g2, 0, none⟩) (s.length + 1) cap2), .int .i64 room, .int .i64 first, .int .i64 L.length, .int .u64 lost] := kn; clear kn hu)
        | ((with_reducible refine at_slot 81 ?_); refine wl_ld1 (v := .int .i64 L.length) rfl rfl rfl kB Try.underlying3 rfl rfl ?_)
        | ((with_reducible refine at_store 84 ?_); refine wl_st1 (v := .int .i64 ((L.length : Int) + 1)) rfl rfl rfl rfl kB (by kernel_rfl) rfl rfl (by simp) ?_; intro V6 kn hu; replace HO2 := Lib.hid (own_same HO2.out (fun q' hq' => hu.block q' (HO2.out.lt q' hq').2 (fun e => hg2 (by rw [← e]; exact hq')))); replace HC := Lib.hid (HC.out.tr (Chg.upd hu)); clear kB; have kB : Blk _ g 74 #[(.slice (some ⟨g2, 0, none⟩) (s.length + 1) cap2), .int .i64 room, .int .i64 first, .int .i64 ((L.length : Int) + 1), .int .u64 lost] := kn; clear kn hu))
      go_ret2
      have hIP := HIS.out.app hlt (by rw [← HPD.out]; exact hp) x
      have e5 : St.app ⟨room, first, L.length, s, lost⟩ x = ⟨room, first, (L ++ [x]).length, s ++ [x], lost⟩ := by simp [St.app]
      rw [e5] at hIP
      have hOO : World.ownsRow V6 0 3 1 (.slice (some ⟨g2, 0, none⟩) (s.length + 1) cap2) (s ++ [x]).length (fl ci (s ++ [x])) := by rw [fl_append, List.length_append]; exact HO2.out
      have hRI : RgI 74 3 1 ci _ g (some g2) room (L ++ [x]) lost := .of (kB.eq (by simp)) hOO rfl hg2 hIP
      exact ⟨i_ret (putX_no HNF.out).symm (putB_no HNF.out).symm, (some g2), (by rw [putL_no HNF.out, putN_no HNF.out]; exact hRI), HC.out, HNW.out⟩
end Go.Proofs.Ytohkioakipjanaa
