/-
  WALKS: a ring of plimsoll/api.Events.
-/
import Derived.Test.YtohkioakipjanaaCa6
import Derived.Test.YtohkioakipjanaaLs6
import Derived.IntWalk
namespace Go.Proofs.Ytohkioakipjanaa
open Go Go.RowKit

def cE (x : Ev) : List Value := (evA x).toList
theorem cE_len (x : Ev) : (cE x).length = 4 := rfl
theorem cE_one : ∀ x, ∀ u ∈ cE x, u.oneCell' = true := fun x u hu => by
  have h := (Array.all_eq_true_iff_forall_mem.1 (evA_one x)) u
  exact h (by simpa [cE] using hu)
theorem e_cells (x : Ev) (j : Nat) : (Value.agg (evA x)).cells[j]? = (cE x)[j]? := by
  show (evA x)[j]? = (evA x).toList[j]?
  simp
theorem infoE : ∃ i, Try.prog.info? 27 = some i ∧ i.zero = some (.agg (evA zeroEv)) ∧ i.size = 4 ∧ i.bytes = 32 := ⟨_, rfl, rfl, rfl, rfl⟩
theorem blk_whole {A B : Array Value} {n : Nat} (hA : A.size = n) (hB : B.size = n) (h : ∀ j, j < n → B[0 + j]? = A[j]?) : B = A := by
  refine Array.ext_getElem? fun j => ?_
  rcases Nat.lt_or_ge j n with hj | hj
  · have := h j hj
    rw [Nat.zero_add] at this
    exact this
  · rw [Array.getElem?_eq_none (by omega), Array.getElem?_eq_none (by omega)]
theorem blk_set0 {B : Array Value} {v u a b c d : Value} (hs : B.size = 5) (h1 : ∀ j, j < 0 ∨ 0 + 1 ≤ j → B[j]? = (#[v, a, b, c, d] : Array Value)[j]?) (h2 : ∀ j, j < 1 → B[0 + j]? = (#[u] : Array Value)[j]?) : B = #[u, a, b, c, d] := by
  refine Array.ext_getElem? fun j => ?_
  match j with
  | 0 => exact h2 0 (by omega)
  | 1 => exact h1 1 (by omega)
  | 2 => exact h1 2 (by omega)
  | 3 => exact h1 3 (by omega)
  | 4 => exact h1 4 (by omega)
  | k + 5 => rw [Array.getElem?_eq_none (by omega), Array.getElem?_eq_none (by simp)]
theorem Chg.late {g k : Nat} {o : Option Nat} {a b d : World} (h : Chg g o a b) (hu : Upd k b d) (hk : a.heap.size ≤ k) : Chg g o a d :=
  ⟨hu.os.trans h.os, hu.tape.trans h.tape, hu.output.trans h.output, Nat.le_trans h.size hu.size, fun i hi h1 h2 => (hu.block i (Nat.lt_of_lt_of_le hi h.size) (by omega)).trans (h.block i hi h1 h2)⟩
theorem New.size {w : World} {o o' : Option Nat} {q : Nat} (h : New w o o') (hq : o' = some q) : o = some q ∨ w.heap.size ≤ q := by
  rcases h with rfl | ⟨q', rfl, h⟩
  · exact Or.inl hq
  · cases hq; exact Or.inr h

set_option maxHeartbeats 4000000 in
set_option maxRecDepth 100000 in
theorem e_place_i (g : Nat) (v : Value) (room first size lost i : Int) (w : World) (h : Blk w g 64 #[v, .int .i64 room, .int .i64 first, .int .i64 size, .int .u64 lost]) (hr : 0 < room) (h0 : 0 ≤ first) (h1 : first ≤ 65536) (h2 : 0 ≤ i) (h3 : i ≤ 65536) (h4 : room ≤ 65536) :
    Calls Try.prog 38 #[.pointer (some ⟨g, 0, none⟩), .int .i64 i] w fun e w' => e = .returned (.int .i64 ((first + i) % room)) ∧ Below w.heap.size w w' := by
  have c2 := h.cell 2 (v := .int .i64 first) rfl
  have c1 := h.cell 1 (v := .int .i64 room) rfl
  have e0 : IntKind.i64.wrap (first + i) = first + i := by rw [IntKind.wrap_i64]; omega
  have e1 : ¬ room = 0 := by omega
  have e2 : (first + i).tmod room = (first + i) % room := Int.tmod_eq_emod_of_nonneg (by omega)
  have e3 : 0 ≤ (first + i) % room := Int.emod_nonneg _ e1
  have e4 : (first + i) % room < room := Int.emod_lt_of_pos _ hr
  have e5 : IntKind.i64.wrap ((first + i) % room) = (first + i) % room := by rw [IntKind.wrap_i64]; omega
  clear h
  go_enter Try.func38, Try.ntmps38
  go_wp2
  go_quiet (fail)
  go_wp2
  go_ret
  exact ⟨rfl, rg_dn (Below.refl _ _)⟩
theorem e_place {g : Nat} {v : Value} {t : St Ev} {w : World} (h : RgA 64 27 4 cE w g v t) (hr : 0 < t.room) (h4 : t.room ≤ 65536) (hf : t.first < t.room) (i : Nat) (hi : i ≤ 65536) :
    Calls Try.prog 38 #[.pointer (some ⟨g, 0, none⟩), .int .i64 i] w fun e w' => e = .returned (.int .i64 (t.place i)) ∧ Below w.heap.size w w' := by
  refine (e_place_i g v t.room t.first t.size t.lost i w h.blk (by omega) (by omega) (by omega) (by omega) (by omega) (by omega)).mono ?_
  rintro e w' ⟨rfl, hb⟩
  exact ⟨by unfold St.place; simp, hb⟩

set_option maxHeartbeats 4000000 in
set_option maxRecDepth 100000 in
theorem e_Len {g : Nat} {v : Value} {t : St Ev} {w : World} (h : RgA 64 27 4 cE w g v t) :
    Calls Try.prog 23 #[.pointer (some ⟨g, 0, none⟩)] w fun e w' => e = .returned (.int .i64 t.size) ∧ Below w.heap.size w w' := by
  have c2 := h.blk.cell 3 (v := .int .i64 t.size) rfl
  clear h
  go_enter Try.func23, Try.ntmps23
  go_wp2
  go_ret
  exact ⟨rfl, by go_grown⟩
theorem e_len {g room : Nat} {o : Option Nat} {L : List Ev} {lost : Int} {w : World} (h : RgI 64 27 4 cE w g o room L lost) :
    Calls Try.prog 23 #[.pointer (some ⟨g, 0, none⟩)] w fun e w' => e = .returned (.int .i64 L.length) ∧ Below w.heap.size w w' := by
  obtain ⟨v, t, hA, rfl, hI, rfl, rfl⟩ := h.ex
  have h2 := e_Len hA
  rw [hI.len] at h2
  exact h2

set_option maxHeartbeats 4000000 in
set_option maxRecDepth 100000 in
theorem e_Lost {g : Nat} {v : Value} {t : St Ev} {w : World} (h : RgA 64 27 4 cE w g v t) :
    Calls Try.prog 25 #[.pointer (some ⟨g, 0, none⟩)] w fun e w' => e = .returned (.int .u64 t.lost) ∧ Below w.heap.size w w' := by
  have c2 := h.blk.cell 4 (v := .int .u64 t.lost) rfl
  clear h
  go_enter Try.func25, Try.ntmps25
  go_wp2
  go_ret
  exact ⟨rfl, by go_grown⟩
theorem e_lost {g room : Nat} {o : Option Nat} {L : List Ev} {lost : Int} {w : World} (h : RgI 64 27 4 cE w g o room L lost) :
    Calls Try.prog 25 #[.pointer (some ⟨g, 0, none⟩)] w fun e w' => e = .returned (.int .u64 lost) ∧ Below w.heap.size w w' := by
  obtain ⟨v, t, hA, rfl, hI, rfl, rfl⟩ := h.ex
  have h2 := e_Lost hA
  skip
  exact h2

theorem e_bld (r : Int) (w : World) : (Instr.build 64 #[(1, .int .i64 r)]).run Try.prog w = .ok (.agg #[.slice none 0 0, .int .i64 r, .int .i64 0, .int .i64 0, .int .u64 0]) w := by
  go_simp
set_option maxHeartbeats 4000000 in
set_option maxRecDepth 100000 in
theorem e_new (room : Nat) (h1 : 1 ≤ room) (h2 : room ≤ 65536) (w : World) :
    Calls Try.prog 20 #[.int .i64 room] w fun e w' => ∃ g, e = .returned (.tuple #[.pointer (some ⟨g, 0, none⟩), .int .i64 0]) ∧ RgI 64 27 4 cE w' g none room [] 0 ∧ Below w.heap.size w w' ∧ w.heap.size ≤ g := by
  have HB := Lib.hid (Below.refl w.heap.size w)
  have h1' : (1 : Int) ≤ room := by omega
  have h2' : (room : Int) ≤ 65536 := by omega
  go_enter Try.func20, Try.ntmps20
  go_wp2_with (first
    | ((with_reducible refine at_slot 11 ?_); refine wl_build rfl rfl (e_bld _ _) rfl ?_)
    | ((with_reducible refine at_slot 12 ?_); refine wl_box (A := #[.slice none 0 0, .int .i64 room, .int .i64 0, .int .i64 0, .int .u64 0]) rfl rfl rfl ?_; intro W1 g1 k1 hb hle; replace HB := Lib.hid (below_tr HB.out hb); clear hb))
  go_ret2
  refine ⟨g1, rfl, ⟨.slice none 0 0, ⟨room, 0, 0, [], 0⟩, ⟨k1, World.ownsRow_nil _ _ _ _, by intro h; cases h⟩, rfl, .new (by omega), rfl, rfl⟩, HB.out, hle⟩
set_option maxHeartbeats 4000000 in
set_option maxRecDepth 100000 in
theorem e_new_no (room : Int) (h1 : room < 1 ∨ 65536 < room) (h2 : -9223372036854775808 ≤ room) (h3 : room ≤ 9223372036854775807) (w : World) :
    Calls Try.prog 20 #[.int .i64 room] w fun e w' => e = .returned (.tuple #[.pointer none, .int .i64 1]) ∧ Below w.heap.size w w' := by
  by_cases h : room < 1
  · clear h1
    go_enter Try.func20, Try.ntmps20
    go_wp2
    all_goals (go_ret2; exact ⟨rfl, by go_grown⟩)
  · have h4 : 65536 < room := by omega
    clear h1
    go_enter Try.func20, Try.ntmps20
    go_wp2
    all_goals (go_ret2; exact ⟨rfl, by go_grown⟩)

set_option maxHeartbeats 4000000 in
set_option maxRecDepth 100000 in
theorem e_drop {g room : Nat} {o : Option Nat} {L : List Ev} {lost : Int} {w : World} (h : RgI 64 27 4 cE w g o room L lost) (hr : room ≤ 65536) (n : Int) (_ : -9223372036854775808 ≤ n) (_ : n ≤ 9223372036854775807) :
    Calls Try.prog 37 #[.pointer (some ⟨g, 0, none⟩), .int .i64 n] w fun e w' => e = .returned (.int .i64 (dropN n L.length)) ∧ RgI 64 27 4 cE w' g o room (L.drop (dropN n L.length)) lost ∧ Chg g o w w' := by
  have HH := Lib.hid h
  have HLN := Lib.hid (e_len h)
  have hlr := h.le.1
  have hm := dropN_le n L.length
  obtain ⟨M1, hM1⟩ : ∃ M1 : Int, (if (L.length : Int) < n then (L.length : Int) else n) = M1 := ⟨_, rfl⟩
  have hM2 := dropN_max n L.length hM1
  obtain ⟨m, hmm⟩ : ∃ m, m = dropN n L.length := ⟨_, rfl⟩
  rw [← hmm] at hm hM2 ⊢
  have HM1 := Lib.hid hM1
  have HM2 := Lib.hid hM2
  clear h hM1 hM2 hmm
  go_enter Try.func37, Try.ntmps37
  go_wp2_with (first
    | ((with_reducible refine at_slot 8 ?_); refine wl_call rfl rfl Try.func23 (by kernel_rfl) rfl HLN.out rfl ?_; intro V1 hb1)
    | ((with_reducible refine at_slot 9 ?_); refine wl_mn rfl rfl rfl rfl HM1.out ?_)
    | ((with_reducible refine at_slot 10 ?_); refine wl_mx rfl rfl rfl rfl HM2.out ?_))
  have HI := Lib.hid (HH.out.keep hb1)
  have HC := Lib.hid (Chg.of_below (g := g) (o := o) hb1)
  clear HLN HM1 HM2 HH hb1
  go_loopw [12] (fun i wr => ∃ k : Nat, k ≤ m ∧ i = .int .i64 k ∧ RgI 64 27 4 cE wr g o room (L.drop k) lost ∧ Chg g o w wr) (fun i _ => m - (intOf i).toNat)
  case atStart => exact ⟨0, Nat.zero_le _, rfl, HI.out, HC.out⟩
  case round =>
    clear HI HC
    obtain ⟨k, hk, rfl, hI, hC⟩ := hrel
    have HC := Lib.hid hC
    by_cases hlt : k < m
    · obtain ⟨v, t, hA, rfl, hIs, rfl, rfl⟩ := hI.ex
      have HIs := Lib.hid hIs
      have h0 : 0 < t.size := by rw [hIs.len, List.length_drop]; omega
      have hf := (hIs.head h0).1
      obtain ⟨room, first, size, s, lost⟩ := t
      have hsr := hIs.le
      have hfr := hIs.first
      have hsl := hIs.sl
      have hr0 := hIs.room
      simp only at hr hlr h0 hf hsr hfr hsl hr0
      obtain ⟨hB, hown, hne⟩ := hA
      simp only at hB hown hne
      rcases own_v hown with ⟨_, h0'⟩ | ⟨q, cap, rfl, hcap⟩
      · omega
      have hgq : g ≠ q := fun e => hne (by rw [e]; rfl)
      have hfl : first < s.length := hf
      have hmx : s.length ≤ 9223372036854775807 := by omega
      have hglt := hB.lt
      have hqlt := (hown.lt q rfl).2
      clear hne hI hC hIs
      go_upto_region 5 with (first
        | ((with_reducible refine at_slot 5 ?_); refine wl_alloc (A := evA zeroEv) rfl rfl ev_zero rfl ?_; intro W5 g5 k5 hb hle; replace hB := hB.keep hb; replace hown := own_keep hown hb; replace HC := Lib.hid (HC.out.grow hb); clear hb))
      have hg5 : g5 ≠ q := by omega
      obtain ⟨A, cap2, kq, hv2, _, hcm, hAs, hAt⟩ := own_blk hown rfl
      obtain rfl : cap = cap2 := by simpa using hv2
      refine wp_region_held_drew (S := fun w' => Blk w' g 64 #[(.slice (some ⟨q, 0, none⟩) s.length cap), .int .i64 room, .int .i64 first, .int .i64 size, .int .u64 lost] ∧ Blk w' g5 27 (evA zeroEv)) (by kernel_rfl) ⟨hB.drew, k5.drew⟩ (fun hS => ?_)
      refine wpAnyH_take (i := 0) (oi := ⟨some 14, _, _, _, _, _⟩) (v := .pointer (some ⟨g, 0, none⟩)) rfl (by kernel_rfl) (by kernel_rfl) (by kernel_rfl) (fun _ _ _ h => h) (yi_mv (Or.inl rfl) rfl rfl) hS ?_
      simp only [Act.put, List.setIfInBounds_toArray, List.set_cons_zero, List.set_cons_succ]
      refine wpAnyH_take (i := 1) (oi := ⟨some 15, _, _, _, _, _⟩) (v := .pointer (some ⟨g, 0, none⟩)) rfl (by kernel_rfl) (by kernel_rfl) (by kernel_rfl) (fun _ _ _ h => h) (yi_ok rfl (fun _ => by go_simp)) hS ?_
      simp only [Act.put, List.setIfInBounds_toArray, List.set_cons_zero, List.set_cons_succ]
      refine wpAnyH_take (i := 2) (oi := ⟨some 16, _, _, _, _, _⟩) (v := .pointer (some ⟨g, 0, none⟩)) rfl (by kernel_rfl) (by kernel_rfl) (by kernel_rfl) (fun _ _ _ h => h) (yi_ok rfl (fun _ => by go_simp)) hS ?_
      simp only [Act.put, List.setIfInBounds_toArray, List.set_cons_zero, List.set_cons_succ]
      refine wpAnyH_take (i := 3) (oi := ⟨some 17, _, _, _, _, _⟩) (v := (.slice (some ⟨q, 0, none⟩) s.length cap)) rfl (by kernel_rfl) (by kernel_rfl) (by kernel_rfl) (fun _ _ _ h => h) (yi_ld1 (v := (.slice (some ⟨q, 0, none⟩) s.length cap)) rfl rfl rfl (fun w' h => h.1) Try.underlying22 rfl rfl) hS ?_
      simp only [Act.put, List.setIfInBounds_toArray, List.set_cons_zero, List.set_cons_succ]
      refine wpAnyH_take (i := 4) (oi := ⟨some 18, _, _, _, _, _⟩) (v := .pointer (some ⟨g, 0, none⟩)) rfl (by kernel_rfl) (by kernel_rfl) (by kernel_rfl) (fun _ _ _ h => h) (yi_mv (Or.inl rfl) rfl rfl) hS ?_
      simp only [Act.put, List.setIfInBounds_toArray, List.set_cons_zero, List.set_cons_succ]
      refine wpAnyH_take (i := 5) (oi := ⟨some 19, _, _, _, _, _⟩) (v := .pointer (some ⟨g, 0, none⟩)) rfl (by kernel_rfl) (by kernel_rfl) (by kernel_rfl) (fun _ _ _ h => h) (yi_ok rfl (fun _ => by go_simp)) hS ?_
      simp only [Act.put, List.setIfInBounds_toArray, List.set_cons_zero, List.set_cons_succ]
      refine wpAnyH_take (i := 6) (oi := ⟨some 20, _, _, _, _, _⟩) (v := .pointer (some ⟨g, 2, none⟩)) rfl (by kernel_rfl) (by kernel_rfl) (by kernel_rfl) (fun _ _ _ h => h) (yi_ok rfl (fun _ => by go_simp)) hS ?_
      simp only [Act.put, List.setIfInBounds_toArray, List.set_cons_zero, List.set_cons_succ]
      refine wpAnyH_take (i := 7) (oi := ⟨some 21, _, _, _, _, _⟩) (v := .int .i64 first) rfl (by kernel_rfl) (by kernel_rfl) (by kernel_rfl) (fun _ _ _ h => h) (yi_ld1 (v := .int .i64 first) rfl rfl rfl (fun w' h => h.1) Try.underlying3 rfl rfl) hS ?_
      simp only [Act.put, List.setIfInBounds_toArray, List.set_cons_zero, List.set_cons_succ]
      refine wpAnyH_take (i := 8) (oi := ⟨some 22, _, _, _, _, _⟩) (v := .agg (evA zeroEv)) rfl (by kernel_rfl) (by kernel_rfl) (by kernel_rfl) (fun _ _ _ h => h) (yi_ld0 rfl rfl rfl (fun w' h => h.2) Try.underlying27 rfl evInfo) hS ?_
      simp only [Act.put, List.setIfInBounds_toArray, List.set_cons_zero, List.set_cons_succ]
      refine wpAnyH_take (i := 9) (oi := ⟨some 23, _, _, _, _, _⟩) (v := .pointer (some ⟨q, first * 4, none⟩)) rfl (by kernel_rfl) (by kernel_rfl) (by kernel_rfl) (fun _ _ _ h => h) (yi_ix rfl rfl rfl rfl Try.underlying22 rfl hfl hmx) hS ?_
      simp only [Act.put, List.setIfInBounds_toArray, List.set_cons_zero, List.set_cons_succ]
      refine anyH_one (i := 10) (by kernel_rfl) rfl (fun K' hK => ?_)
      refine wq_st (k := 4) (v := .agg (evA zeroEv)) rfl rfl rfl rfl kq.drew rfl rfl (evA_one _) (by omega) ?_
      intro W1 B kB hs1 hb1 hb2 hu
      have k1 := hS.1.upd hu hgq
      refine hK _ _ ⟨k1, hS.2.upd hu hg5⟩ (fun hS2 => ?_)
      clear hS2 hK hS
      have hO1 := own_put (c := cE) (x := zeroEv) cE_len (by decide) hown rfl rfl (Nat.zero_le q) hAs hAt hcap hcm hfl kB hs1 hb1 (fun j hj => (hb2 j hj).trans (e_cells _ j))
      have hA1 : RgA 64 27 4 cE W1 g (.slice (some ⟨q, 0, none⟩) s.length cap) ⟨room, first, size, s.set first zeroEv, lost⟩ := ⟨k1, hO1, by intro e; cases e; exact hgq rfl⟩
      have HC1 := Lib.hid (HC.out.drew.tr (Chg.upd_o hu))
      have HA1 := Lib.hid hA1
      clear hA1 hO1 hb1 hb2 kB hs1 hu HC hB kq hown hAt hAs hv2 k5
      refine wpAnyH_done (by kernel_rfl) ?_ _
      go_wp2_with (first
        | ((with_reducible refine at_slot 26 ?_); refine wl_call rfl rfl Try.func38 (by kernel_rfl) rfl (e_place HA1.out hr0 hr hfr 1 (by omega)) rfl ?_; intro V2 hb2; replace k1 := k1.keep hb2; replace HC1 := Lib.hid (HC1.out.grow hb2); have HO2 := Lib.hid (own_keep HA1.out.own hb2); clear hb2)
        | ((with_reducible refine at_store 28 ?_); refine wl_st1 (v := .int .i64 ((St.place ⟨room, first, size, s.set first zeroEv, lost⟩ 1 : Nat) : Int)) rfl rfl rfl rfl k1 (by kernel_rfl) rfl rfl (by simp) ?_; intro V3 kn hu; have HO3 := Lib.hid (own_same HO2.out (fun q' hq' => hu.block q' (HO2.out.lt q' hq').2 (fun e => HA1.out.ne (by rw [hq', e])))); replace HC1 := Lib.hid (HC1.out.tr (Chg.upd hu)); clear k1; have k1 : Blk _ g 64 #[(.slice (some ⟨q, 0, none⟩) s.length cap), .int .i64 room, .int .i64 ((St.place ⟨room, first, size, s.set first zeroEv, lost⟩ 1 : Nat) : Int), .int .i64 size, .int .u64 lost] := kn; clear kn hu)
        | ((with_reducible refine at_slot 32 ?_); refine wl_ld1 (v := .int .i64 size) rfl rfl rfl k1 Try.underlying3 rfl rfl ?_)
        | ((with_reducible refine at_store 35 ?_); refine wl_st1 (v := .int .i64 ((size : Int) - 1)) rfl rfl rfl rfl k1 (by kernel_rfl) rfl rfl (by simp) ?_; intro V4 kn hu; have HO4 := Lib.hid (own_same HO3.out (fun q' hq' => hu.block q' (HO3.out.lt q' hq').2 (fun e => HA1.out.ne (by rw [hq', e])))); replace HC1 := Lib.hid (HC1.out.tr (Chg.upd hu)); clear k1; have k1 : Blk _ g 64 #[(.slice (some ⟨q, 0, none⟩) s.length cap), .int .i64 room, .int .i64 ((St.place ⟨room, first, size, s.set first zeroEv, lost⟩ 1 : Nat) : Int), .int .i64 ((size : Int) - 1), .int .u64 lost] := kn; clear kn hu))
      go_roundw
      case rel =>
        refine ⟨k + 1, hlt, by go_num, ⟨_, St.drop1 ⟨room, first, size, s, lost⟩ zeroEv, ⟨k1.eq ?_, HO4.out, HA1.out.ne⟩, rfl, ?_, rfl, rfl⟩, HC1.out⟩
        · have : ((size - 1 : Nat) : Int) = (size : Int) - 1 := by omega
          simp only [St.drop1, St.place, this]
        · have := HIs.out.drop1 h0 zeroEv
          rw [List.tail_drop] at this
          exact this
      case measure => simp [intOf]; omega
    · obtain rfl : k = m := by omega
      have HI := Lib.hid hI
      clear hI hC
      go_wp2_with fail
      go_ret
      exact ⟨rfl, HI.out, HC.out⟩
end Go.Proofs.Ytohkioakipjanaa
