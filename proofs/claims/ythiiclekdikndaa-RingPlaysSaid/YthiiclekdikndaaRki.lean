/-
  WALKS: law 11: Clone; the document's ring.
-/
import Derived.Test.YthiiclekdikndaaRji
import Derived.Deep.RegionHeld3
namespace Go.Proofs.Ythiiclekdikndaa
open Go Go.RowKit

/-- It has room for what it has. -/
def Fits (v : Value) : Prop := ∃ ao n cap, v = .slice ao n cap ∧ n ≤ cap
theorem own_fits {w : World} {base n size : Nat} {t : TypeId} {v : Value} {xs : List Value} (h : w.ownsRow base t size v n xs) : Fits v := by
  rcases own_v h with ⟨rfl, _⟩ | ⟨q, cap, rfl, h2⟩
  · exact ⟨_, _, _, rfl, Nat.le_refl _⟩
  · exact ⟨_, _, _, rfl, h2⟩
theorem bs0 (w : World) : (Instr.buildSlice 29 0 #[]).run Try.prog w = .ok (.slice (some ⟨w.heap.size, 0, none⟩) 0 0) (w.alloc (.cells #[] 3)) := by
  go_simp
theorem eqn1 (w : World) : (binOp .eql 29 (.slice none 0 0) (.slice none 0 0)).run Try.prog w = .ok (.bool true) w := by
  first
  | rfl
  | kernel_rfl
  | (go_simp; done)
theorem eqn2 (a : Addr) (n c : Nat) (w : World) : (binOp .eql 29 (.slice (some a) n c) (.slice none 0 0)).run Try.prog w = .ok (.bool false) w := by
  first
  | rfl
  | kernel_rfl
  | (go_simp; done)
theorem own_bs0 {w W : World} {q : Nat} (hq : Blk W q 3 #[]) (hle : w.heap.size ≤ q) : W.ownsRow w.heap.size 3 1 (.slice (some ⟨q, 0, none⟩) 0 0) 0 (fl ci []) :=
  ⟨rfl, Or.inr ⟨q, 0, #[], rfl, hle, hq, Nat.le_refl _, Nat.zero_le _, rfl, rfl⟩⟩
theorem lst_blk1 {w : World} {g : Nat} {x : Int} (h : Blk w g 3 #[.int .i64 x]) : Lst 1 ci w (.slice (some ⟨g, 0, none⟩) 1 1) [x] :=
  ⟨some ⟨g, 0, none⟩, g, 0, 1, rfl, fun _ => ⟨rfl, h.lt⟩, fun i y hx => by
    match i, hx with
    | 0, hx =>
      obtain rfl : x = y := by simpa using hx
      intro j u hu
      match j, hu with
      | 0, hu =>
        rw [← hu]
        exact h.cell 0 rfl⟩
theorem run_from {P : Program} {t e : TypeId} {ao : Option Addr} {n cap i k : Nat} (ht : P.underlying t = some (.slice e)) (hs : (P.info? e).map (·.size) = some k) (hi : i ≤ n) (hn : n ≤ 9223372036854775807) (w : World) :
    (Instr.sliceAt t (.slice ao n cap) (some (.int .i64 i)) none none).run P w = .ok (.slice (if cap = i then ao else ao.map (·.add (i * k))) (n - i) (cap - i)) w := by
  cases hq : P.info? e with
  | none => simp [hq] at hs
  | some inf =>
    have h3 : inf.size = k := by simpa [hq] using hs
    have h1 : (i : Int) ≤ n := by omega
    have h2 : IntKind.i64.wrap (i : Int) = i := by rw [IntKind.wrap_i64]; omega
    simp [Instr.sliceAt, Instr.slice, Instr.sliceBounds, Instr.sliceBound, asIntOf, Sem.run_bind, run_underlying ht, sizeOf, typeInfo, hq, h3]
    omega
theorem lst_from {α : Type} {k : Nat} {c : α → List Value} {w : World} {ao : Option Addr} {n cap i : Nat} {xs : List α} (h : Lst k c w (.slice ao n cap) xs) (hi : i ≤ n) (hc : n ≤ cap) : Lst k c w (.slice (if cap = i then ao else ao.map (·.add (i * k))) (n - i) (cap - i)) (xs.drop i) := by
  obtain ⟨ao2, b, off, cap2, hv, h1, h2⟩ := h.ex
  obtain ⟨rfl, rfl, rfl⟩ : ao = ao2 ∧ n = xs.length ∧ cap = cap2 := by simpa using hv
  refine ⟨_, b, off + i * k, cap - i, by rw [List.length_drop], fun h0 => ?_, fun j x hx => ?_⟩
  · rw [List.length_drop] at h0
    obtain ⟨rfl, hlt⟩ := h1 (by omega)
    rw [if_neg (by omega)]
    exact ⟨by simp [add_none], hlt⟩
  · rw [List.getElem?_drop] at hx
    have := h2 (i + j) x hx
    rw [Nat.add_mul, ← Nat.add_assoc] at this
    exact this
theorem from_block {ao : Option Addr} {n cap i k : Nat} {q : Nat} (h : (Value.slice (if cap = i then ao else ao.map (·.add (i * k))) (n - i) (cap - i)).ownBlock = some q) : (Value.slice ao n cap).ownBlock = some q := by
  cases ao with
  | none => split at h <;> simp [Value.ownBlock] at h
  | some a =>
    split at h
    · simpa [Value.ownBlock] using h
    · have e : (a.add (i * k)).block = a.block := by unfold Addr.add; split <;> rfl
      simpa [Value.ownBlock, e] using h

set_option maxHeartbeats 4000000 in
set_option maxRecDepth 100000 in
theorem clone_sl (v : Value) (s : List Int) (hs : s.length ≤ 65536) (w : World) (h : w.ownsRow 0 3 1 v s.length (fl ci s)) :
    Calls Try.prog 22 #[v] w fun e w' => ∃ v', e = .returned v' ∧ w'.ownsRow w.heap.size 3 1 v' s.length (fl ci s) ∧ Below w.heap.size w w' := by
  obtain ⟨i0, hi, hz, hs2, hby⟩ := infoi
  have HI0 := Lib.hid (show _ ∧ _ ∧ _ ∧ _ from ⟨hi, hz, hs2, hby⟩)
  have HO := Lib.hid h
  have HB := Lib.hid (Below.refl w.heap.size w)
  clear hi hz hs2 hby
  rcases own_v h with ⟨rfl, h0⟩ | ⟨q, cap, rfl, hcap⟩
  · have hnil : s = [] := List.eq_nil_of_length_eq_zero h0
    subst hnil
    clear h
    go_enter Try.func22, Try.ntmps22
    go_wp2_with (first
      | ((with_reducible refine at_slot 4 ?_); refine wl_bin (v := .bool true) rfl rfl (by first | rfl | kernel_rfl) (eqn1 _) ?_))
    go_ret
    exact ⟨_, rfl, World.ownsRow_nil _ _ _ _, HB.out⟩
  · clear h
    go_enter Try.func22, Try.ntmps22
    go_wp2_with (first
      | ((with_reducible refine at_slot 4 ?_); refine wl_bin (v := .bool false) rfl rfl (by first | rfl | kernel_rfl) (eqn2 _ _ _ _) ?_)
      | ((with_reducible refine at_slot 5 ?_); refine wl_bslice (A := #[]) rfl rfl (bs0 _) rfl ?_; intro W3 gb kb hb hle; have HL := Lib.hid (own_lst (xs := s) ci_len (own_keep HO.out hb) rfl); replace HB := Lib.hid (below_tr HB.out hb); have HO2 := Lib.hid (own_bs0 kb hle); clear hb kb)
      | ((with_reducible refine at_slot 7 ?_); refine wl_app (c := ci) (xs := []) (ys := s) rfl rfl ci_len (by decide) ci_one w.heap.size 3 i0 _ 8 Try.underlying29 HI0.out.1 HI0.out.2.1 HI0.out.2.2.1 HI0.out.2.2.2 rfl rfl rfl HO2.out HL.out (by unfold maxLen; omega) (by omega) HB.out.size ?_; intro v9 W9 ho9 hg9 hat9; replace HB := Lib.hid (HB.out.grown hg9 HB.out.size (fun q hq => (HO2.out.lt q hq).1)); have HO3 := Lib.hid ho9; clear ho9 hg9 hat9 HO2 HL))
    go_ret
    have ho := HO3.out
    rw [Nat.zero_add, List.nil_append] at ho
    exact ⟨_, rfl, ho, HB.out⟩

theorem ring_zero : (Try.prog.info? 56).map (·.zero) = some (some (.agg #[.slice none 0 0, .int .i64 0, .int .i64 0, .int .i64 0, .int .u64 0])) := by kernel_rfl
theorem ring_size : (Try.prog.info? 56).map (·.size) = some 5 := by kernel_rfl
theorem ring_one (v : Value) (a b c d : Int) (hv : v.oneCell' = true) : (#[v, .int .i64 a, .int .i64 b, .int .i64 c, .int .u64 d] : Array Value).all (·.oneCell') = true := by simp [hv]; simp [Value.oneCell']
theorem own_one {w : World} {base n size : Nat} {t : TypeId} {v : Value} {xs : List Value} (h : w.ownsRow base t size v n xs) : v.oneCell' = true := by
  obtain ⟨ao, cap, rfl⟩ := own_sl h
  rfl
theorem own_cells1 {w : World} {base n size : Nat} {t : TypeId} {v : Value} {xs : List Value} (h : w.ownsRow base t size v n xs) : v.cells = #[v] := by
  obtain ⟨ao, cap, rfl⟩ := own_sl h
  rfl
set_option maxHeartbeats 4000000 in
set_option maxRecDepth 100000 in
theorem i_clone {g room : Nat} {o : Option Nat} {L : List Int} {lost : Int} {w : World} (h : RgI 56 3 1 ci w g o room L lost) (hr : room ≤ 65536) :
    Calls Try.prog 12 #[.pointer (some ⟨g, 0, none⟩)] w fun e w' => ∃ g', e = .returned (.pointer (some ⟨g', 0, none⟩)) ∧ (∃ o', RgI 56 3 1 ci w' g' o' room L lost ∧ ∀ q, o' = some q → w.heap.size ≤ q) ∧ Below w.heap.size w w' ∧ w.heap.size ≤ g' := by
  obtain ⟨v, first, s, kB, hown, ho, hne, hIs⟩ := h.flat
  have HIS := Lib.hid hIs
  have hsl : s.length ≤ 65536 := Nat.le_trans (show s.length ≤ room from hIs.sl) hr
  have HO := Lib.hid hown
  have HB := Lib.hid (Below.refl w.heap.size w)
  have HV1 := Lib.hid (own_one hown)
  have HGL := Lib.hid h.lt
  have HVC := Lib.hid (own_cells1 hown)
  clear h hIs hown hne ho
  go_enter Try.func12, Try.ntmps12
  go_wp2_with (first
    | ((with_reducible refine at_slot 8 ?_); refine wl_ld0 rfl rfl rfl kB Try.underlying56 rfl ring_size ?_)
    | ((with_reducible refine at_slot 3 ?_); refine wl_alloc (A := #[.slice none 0 0, .int .i64 0, .int .i64 0, .int .i64 0, .int .u64 0]) rfl rfl ring_zero rfl ?_; intro W1 g1 k1 hb hle; replace kB := kB.keep hb; replace HB := Lib.hid (below_tr HB.out hb); have HO1 := Lib.hid (own_keep HO.out hb); clear hb)
    | ((with_reducible refine at_store 3 ?_); refine wl_st0 (A' := #[v, .int .i64 room, .int .i64 first, .int .i64 L.length, .int .u64 lost]) rfl rfl rfl rfl k1 rfl ring_size (ring_one _ _ _ _ _ HV1.out) ?_; intro W2 k2 hu; have hgn : g ≠ g1 := (by have := HGL.out; omega); replace HB := Lib.hid (upd_below HB.out hu hle); replace kB := kB.upd hu hgn; have HO2 := Lib.hid (own_same HO1.out (fun q hq => hu.block q (HO1.out.lt q hq).2 (fun e => by have := (HO.out.lt q hq).2; omega))); clear hu k1)
    | ((with_reducible refine at_slot 12 ?_); refine wl_ld1 (v := v) rfl rfl rfl kB Try.underlying29 rfl rfl ?_)
    | ((with_reducible refine at_slot 13 ?_); refine wl_callx rfl rfl Try.func22 (by kernel_rfl) rfl (clone_sl v s hsl _ HO2.out) rfl ?_; intro v' V hR; have HOV := Lib.hid hR.1; have HK2 := Lib.hid k2.lt; replace k2 := k2.keep hR.2; have HSZ := Lib.hid HB.out.size; replace HB := Lib.hid (below_tr HB.out hR.2); have HVN := Lib.hid (own_cells1 hR.1); have HV2 := Lib.hid (own_one hR.1); have HG1 := Lib.hid (show v'.ownBlock ≠ some g1 from fun e => (by have := (hR.1.lt g1 e).1; have := HK2.out; omega)); clear hR)
    | (((with_reducible refine at_store 14 ?_); refine wl_st1 (v := v') rfl rfl rfl rfl k2 (by kernel_rfl) HVN.out HV2.out (by simp) ?_); intro V5 kn hu; replace HB := Lib.hid (upd_below HB.out hu hle); have HO5 := Lib.hid (own_same HOV.out (fun q hq => hu.block q (HOV.out.lt q hq).2 (fun e => HG1.out (by rw [← e]; exact hq)))); clear k2; have k2 : Blk _ g1 56 #[v', .int .i64 room, .int .i64 first, .int .i64 L.length, .int .u64 lost] := kn; clear kn hu))
  go_ret
  refine ⟨g1, rfl, ⟨v'.ownBlock, ⟨v', ⟨room, first, L.length, s, lost⟩, ⟨k2, own_weak HO5.out (Nat.zero_le _), HG1.out⟩, rfl, HIS.out, rfl, rfl⟩, fun q hq => ?_⟩, HB.out, hle⟩
  exact Nat.le_trans HSZ.out (HOV.out.lt q hq).1
end Go.Proofs.Ythiiclekdikndaa
