/-
  WALKS: a ring of events: Put.
-/
import Derived.Test.YtohkioakipjanaaRge
namespace Go.Proofs.Ytohkioakipjanaa
open Go Go.RowKit

theorem fl_one (x : Ev) : fl cE [x] = cE x := by simp [fl]
theorem e_bs (x : Ev) (w : World) : (Instr.buildSlice 22 1 #[(0, .agg (evA x))]).run Try.prog w = .ok (.slice (some ⟨w.heap.size, 0, none⟩) 1 1) (w.alloc (.cells (evA x) 27)) := by
  simp only [evA]
  go_simp
theorem e_ret {a b : Ev} {p q : Bool} (h : a = b) (h' : p = q) : Ending.returned (.tuple #[.agg (evA a), .bool p]) = .returned (.tuple #[.agg (evA b), .bool q]) := by rw [h, h']
/-- Where Put's own blocks lie. -/
structure PutN (w : World) (g : Nat) (o : Option Nat) (gx gr gl : Nat) : Prop where
  x : w.heap.size ≤ gx
  r : w.heap.size ≤ gr
  l : w.heap.size ≤ gl
  xr : gx < gr
  rl : gr < gl
  gl_ : g < w.heap.size
  ol : ∀ q, o = some q → q < w.heap.size
section
variable {w : World} {g : Nat} {o : Option Nat} {gx gr gl : Nat}
theorem PutN.gxg (h : PutN w g o gx gr gl) : gx ≠ g := by have := h.x; have := h.gl_; omega
theorem PutN.grg (h : PutN w g o gx gr gl) : gr ≠ g := by have := h.r; have := h.gl_; omega
theorem PutN.glg (h : PutN w g o gx gr gl) : gl ≠ g := by have := h.l; have := h.gl_; omega
theorem PutN.ox (h : PutN w g o gx gr gl) : o ≠ some gx ∧ o ≠ some gr ∧ o ≠ some gl :=
  ⟨fun e => by have := h.ol _ e; have := h.x; omega, fun e => by have := h.ol _ e; have := h.r; omega, fun e => by have := h.ol _ e; have := h.l; omega⟩
end
set_option maxHeartbeats 4000000 in
set_option maxRecDepth 100000 in
theorem e_put {g room : Nat} {o : Option Nat} {L : List Ev} {lost : Int} {w : World} (h : RgI 64 27 4 cE w g o room L lost) (hr : room ≤ 65536) (x : Ev) :
    Calls Try.prog 21 #[.pointer (some ⟨g, 0, none⟩), .agg (evA x)] w fun e w' => e = .returned (.tuple #[.agg (evA (putX room L zeroEv)), .bool (putB room L)]) ∧ ∃ o', RgI 64 27 4 cE w' g o' room (putL room L x) (putN room L lost) ∧ Chg g o w w' ∧ New w o o' := by
  obtain ⟨hle, hr0⟩ := h.le
  have hgl := h.lt
  have hol := h.o_lt
  obtain ⟨v, first, s, kB, hown, ho, hne, hIs⟩ := h.flat
  obtain ⟨i0, hi, hz, hs, hby⟩ := infoE
  have HI0 := Lib.hid (show _ ∧ _ ∧ _ ∧ _ from ⟨hi, hz, hs, hby⟩)
  clear h hi hz hs hby
  by_cases hf : L.length = room
  · have hff := Lib.hid hf
    have hfb : ((L.length : Int) == (room : Int)) = true := by rw [hf]; simp
    have HFB := Lib.hid hfb
    have HIS0 := Lib.hid hIs
    obtain ⟨hh1, hh2⟩ := hIs.head (show 0 < L.length by omega)
    obtain ⟨x0, hx0⟩ : ∃ x0, L[0]? = some x0 := ⟨L[0]'(by omega), List.getElem?_eq_getElem (by omega)⟩
    have HX0 : Hid (x0 = L.headD zeroEv) := Lib.hid (by cases L with | nil => simp at hx0 | cons a l => simpa using hx0.symm)
    have HH1 := Lib.hid (show first < s.length from hh1)
    have hsx : s[first]? = some x0 := hh2.trans hx0
    have HSX := Lib.hid hsx
    have HSL := Lib.hid (show s.length ≤ room from hIs.sl)
    clear hf hfb hh1 hh2 hx0 hIs hsx
    go_enter Try.func21, Try.ntmps21
    go_upto_region 4 with (first
      | ((with_reducible refine at_slot 3 ?_); refine wl_box (A := evA x) rfl rfl rfl ?_; intro W1 gx kx hb hx; replace kB := kB.keep hb; replace hown := own_keep hown hb; have HC := Lib.hid (Chg.of_below (g := g) (o := o) hb); clear hb)
      | ((with_reducible refine at_slot 4 ?_); refine wl_alloc (A := evA zeroEv) rfl rfl ev_zero rfl ?_; intro W2 gr kr hb hr2; have hxr : gx < gr := (by have := kx.lt; omega); replace kB := kB.keep hb; replace kx := kx.keep hb; replace hown := own_keep hown hb; replace HC := Lib.hid (HC.out.grow hb); clear hb)
      | ((with_reducible refine at_slot 6 ?_); refine wl_alloc (A := evA zeroEv) rfl rfl ev_zero rfl ?_; intro W3 gl kl hb hl2; have hrl : gr < gl := (by have := kr.lt; omega); replace kB := kB.keep hb; replace kx := kx.keep hb; replace kr := kr.keep hb; replace hown := own_keep hown hb; replace HC := Lib.hid (HC.out.grow hb); clear hb)
      | ((with_reducible refine at_slot 15 ?_); refine wl_ld1 (v := .int .i64 room) rfl rfl rfl kB Try.underlying3 rfl rfl ?_))
    have HN := Lib.hid (show PutN w g o gx gr gl from ⟨hx, by omega, by omega, hxr, hrl, hgl, hol⟩)
    clear hx hr2 hl2 hxr hrl hgl hol
    refine wp_region_held_drew (S := fun w' => Blk w' g 64 #[v, .int .i64 room, .int .i64 first, .int .i64 L.length, .int .u64 lost]) (by kernel_rfl) kB.drew (fun hS => ?_)
    refine wpAnyH_take (i := 0) (oi := ⟨some 19, _, _, _, _, _⟩) (v := .pointer (some ⟨g, 0, none⟩)) rfl (by kernel_rfl) (by kernel_rfl) (by kernel_rfl) (fun _ _ _ h => h) (yi_mv (Or.inl rfl) rfl rfl) hS ?_
    simp only [Act.put, List.setIfInBounds_toArray, List.set_cons_zero, List.set_cons_succ]
    refine wpAnyH_take (i := 1) (oi := ⟨some 20, _, _, _, _, _⟩) (v := .pointer (some ⟨g, 0, none⟩)) rfl (by kernel_rfl) (by kernel_rfl) (by kernel_rfl) (fun _ _ _ h => h) (yi_ok rfl (fun _ => by go_simp)) hS ?_
    simp only [Act.put, List.setIfInBounds_toArray, List.set_cons_zero, List.set_cons_succ]
    refine wpAnyH_take (i := 2) (oi := ⟨some 21, _, _, _, _, _⟩) (v := .pointer (some ⟨g, 3, none⟩)) rfl (by kernel_rfl) (by kernel_rfl) (by kernel_rfl) (fun _ _ _ h => h) (yi_ok rfl (fun _ => by go_simp)) hS ?_
    simp only [Act.put, List.setIfInBounds_toArray, List.set_cons_zero, List.set_cons_succ]
    refine wpAnyH_take (i := 3) (oi := ⟨some 22, _, _, _, _, _⟩) (v := .int .i64 L.length) rfl (by kernel_rfl) (by kernel_rfl) (by kernel_rfl) (fun _ _ _ h => h) (yi_ld1 (v := .int .i64 L.length) rfl rfl rfl (fun w' h => h) Try.underlying3 rfl rfl) hS ?_
    simp only [Act.put, List.setIfInBounds_toArray, List.set_cons_zero, List.set_cons_succ]
    refine wpAnyH_take (i := 4) (oi := ⟨some 23, _, _, _, _, _⟩) (v := .pointer (some ⟨g, 0, none⟩)) rfl (by kernel_rfl) (by kernel_rfl) (by kernel_rfl) (fun _ _ _ h => h) (yi_mv (Or.inl rfl) rfl rfl) hS ?_
    simp only [Act.put, List.setIfInBounds_toArray, List.set_cons_zero, List.set_cons_succ]
    refine wpAnyH_take (i := 5) (oi := ⟨some 24, _, _, _, _, _⟩) (v := .pointer (some ⟨g, 0, none⟩)) rfl (by kernel_rfl) (by kernel_rfl) (by kernel_rfl) (fun _ _ _ h => h) (yi_ok rfl (fun _ => by go_simp)) hS ?_
    simp only [Act.put, List.setIfInBounds_toArray, List.set_cons_zero, List.set_cons_succ]
    refine wpAnyH_take (i := 6) (oi := ⟨some 25, _, _, _, _, _⟩) (v := .pointer (some ⟨g, 1, none⟩)) rfl (by kernel_rfl) (by kernel_rfl) (by kernel_rfl) (fun _ _ _ h => h) (yi_ok rfl (fun _ => by go_simp)) hS ?_
    simp only [Act.put, List.setIfInBounds_toArray, List.set_cons_zero, List.set_cons_succ]
    refine wpAnyH_take (i := 7) (oi := ⟨some 26, _, _, _, _, _⟩) (v := .int .i64 room) rfl (by kernel_rfl) (by kernel_rfl) (by kernel_rfl) (fun _ _ _ h => h) (yi_ld1 (v := .int .i64 room) rfl rfl rfl (fun w' h => h) Try.underlying3 rfl rfl) hS ?_
    simp only [Act.put, List.setIfInBounds_toArray, List.set_cons_zero, List.set_cons_succ]
    refine wpAnyH_take (i := 8) (oi := ⟨some 27, _, _, _, _, _⟩) (v := .bool true) rfl (by kernel_rfl) (by kernel_rfl) (by kernel_rfl) (fun _ _ _ h => h) (yi_eql rfl rfl rfl rfl Try.underlying3 HFB.out) hS ?_
    simp only [Act.put, List.setIfInBounds_toArray, List.set_cons_zero, List.set_cons_succ]
    refine wpAnyH_take (i := 9) (oi := ⟨some 7, _, _, _, _, _⟩) (v := .bool true) rfl (by kernel_rfl) (by kernel_rfl) (by kernel_rfl) (fun _ _ _ h => h) (yi_mv (Or.inr rfl) rfl rfl) hS ?_
    simp only [Act.put, List.setIfInBounds_toArray, List.set_cons_zero, List.set_cons_succ]
    refine wpAnyH_done (by kernel_rfl) ?_ _
    clear hS
    replace kB := kB.drew
    replace kx := kx.drew
    replace kr := kr.drew
    replace kl := kl.drew
    replace hown := own_same (w' := World.drew _) hown (fun _ _ => rfl)
    replace HC := Lib.hid HC.out.drew
    go_upto_region 6 with fail
    have hfl := HH1.out
    have hsl := HSL.out
    rcases own_v hown with ⟨_, h0'⟩ | ⟨q0, cap0, rfl, hcap⟩
    · omega
    have kx0 : World.rangeAt _ q0 (first * 4) (evA x0).toList := own_range cE_len hown (q := q0) rfl HSX.out
    have hqlt := (hown.lt q0 rfl).2
    have hmx : s.length ≤ 9223372036854775807 := by omega
    have hlq : q0 ≠ gl := fun e => HN.out.ox.2.2 (by rw [← ho, ← e]; rfl)
    refine wp_region_held_drew (S := fun w' => Blk w' g 64 #[(.slice (some ⟨q0, 0, none⟩) s.length cap0), .int .i64 room, .int .i64 first, .int .i64 L.length, .int .u64 lost] ∧ w'.rangeAt q0 (first * 4) (evA x0).toList) (by kernel_rfl) ⟨kB.drew, range_keep kx0 rfl⟩ (fun hS => ?_)
    refine wpAnyH_take (i := 0) (oi := ⟨some 29, _, _, _, _, _⟩) (v := .pointer (some ⟨g, 0, none⟩)) rfl (by kernel_rfl) (by kernel_rfl) (by kernel_rfl) (fun _ _ _ h => h) (yi_mv (Or.inl rfl) rfl rfl) hS ?_
    simp only [Act.put, List.setIfInBounds_toArray, List.set_cons_zero, List.set_cons_succ]
    refine wpAnyH_take (i := 1) (oi := ⟨some 30, _, _, _, _, _⟩) (v := .pointer (some ⟨g, 0, none⟩)) rfl (by kernel_rfl) (by kernel_rfl) (by kernel_rfl) (fun _ _ _ h => h) (yi_ok rfl (fun _ => by go_simp)) hS ?_
    simp only [Act.put, List.setIfInBounds_toArray, List.set_cons_zero, List.set_cons_succ]
    refine wpAnyH_take (i := 2) (oi := ⟨some 31, _, _, _, _, _⟩) (v := .pointer (some ⟨g, 0, none⟩)) rfl (by kernel_rfl) (by kernel_rfl) (by kernel_rfl) (fun _ _ _ h => h) (yi_ok rfl (fun _ => by go_simp)) hS ?_
    simp only [Act.put, List.setIfInBounds_toArray, List.set_cons_zero, List.set_cons_succ]
    refine wpAnyH_take (i := 3) (oi := ⟨some 32, _, _, _, _, _⟩) (v := .slice (some ⟨q0, 0, none⟩) s.length cap0) rfl (by kernel_rfl) (by kernel_rfl) (by kernel_rfl) (fun _ _ _ h => h) (yi_ld1 (v := .slice (some ⟨q0, 0, none⟩) s.length cap0) rfl rfl rfl (fun w' h => h.1) Try.underlying22 rfl rfl) hS ?_
    simp only [Act.put, List.setIfInBounds_toArray, List.set_cons_zero, List.set_cons_succ]
    refine wpAnyH_take (i := 4) (oi := ⟨some 33, _, _, _, _, _⟩) (v := .pointer (some ⟨g, 0, none⟩)) rfl (by kernel_rfl) (by kernel_rfl) (by kernel_rfl) (fun _ _ _ h => h) (yi_mv (Or.inl rfl) rfl rfl) hS ?_
    simp only [Act.put, List.setIfInBounds_toArray, List.set_cons_zero, List.set_cons_succ]
    refine wpAnyH_take (i := 5) (oi := ⟨some 34, _, _, _, _, _⟩) (v := .pointer (some ⟨g, 0, none⟩)) rfl (by kernel_rfl) (by kernel_rfl) (by kernel_rfl) (fun _ _ _ h => h) (yi_ok rfl (fun _ => by go_simp)) hS ?_
    simp only [Act.put, List.setIfInBounds_toArray, List.set_cons_zero, List.set_cons_succ]
    refine wpAnyH_take (i := 6) (oi := ⟨some 35, _, _, _, _, _⟩) (v := .pointer (some ⟨g, 2, none⟩)) rfl (by kernel_rfl) (by kernel_rfl) (by kernel_rfl) (fun _ _ _ h => h) (yi_ok rfl (fun _ => by go_simp)) hS ?_
    simp only [Act.put, List.setIfInBounds_toArray, List.set_cons_zero, List.set_cons_succ]
    refine wpAnyH_take (i := 7) (oi := ⟨some 36, _, _, _, _, _⟩) (v := .int .i64 first) rfl (by kernel_rfl) (by kernel_rfl) (by kernel_rfl) (fun _ _ _ h => h) (yi_ld1 (v := .int .i64 first) rfl rfl rfl (fun w' h => h.1) Try.underlying3 rfl rfl) hS ?_
    simp only [Act.put, List.setIfInBounds_toArray, List.set_cons_zero, List.set_cons_succ]
    refine wpAnyH_take (i := 8) (oi := ⟨some 37, _, _, _, _, _⟩) (v := .pointer (some ⟨q0, first * 4, none⟩)) rfl (by kernel_rfl) (by kernel_rfl) (by kernel_rfl) (fun _ _ _ h => h) (yi_ix rfl rfl rfl rfl Try.underlying22 rfl hfl hmx) hS ?_
    simp only [Act.put, List.setIfInBounds_toArray, List.set_cons_zero, List.set_cons_succ]
    refine wpAnyH_take (i := 9) (oi := ⟨some 38, _, _, _, _, _⟩) (v := .agg (evA x0)) rfl (by kernel_rfl) (by kernel_rfl) (by kernel_rfl) (fun _ _ _ h => h) (yi_ldr (B := evA x0) rfl rfl rfl (fun w' h => h.2) Try.underlying27 rfl evInfo) hS ?_
    simp only [Act.put, List.setIfInBounds_toArray, List.set_cons_zero, List.set_cons_succ]
    refine anyH_one (i := 10) (by kernel_rfl) rfl (fun K' hK => ?_)
    refine wq_st (k := 4) (v := .agg (evA x0)) rfl rfl rfl rfl kl.drew rfl rfl (evA_one _) (by show 0 + 4 ≤ 4; omega) ?_
    intro W6 B kl6 hs1 hb1 hb2 hu
    refine hK _ _ ⟨hS.1.upd hu (Ne.symm HN.out.glg), range_keep hS.2 (hu.block q0 hqlt hlq)⟩ (fun hS2 => ?_)
    have hBe : B = evA x0 := blk_whole (n := 4) rfl hs1 hb2
    subst hBe
    replace kx := kx.drew.upd hu (by have := HN.out.xr; have := HN.out.rl; omega)
    replace kr := kr.drew.upd hu (by have := HN.out.rl; omega)
    clear kl
    have kl := kl6
    replace HC := Lib.hid (HC.out.drew.late hu HN.out.l)
    have hown6 := own_same hown (fun q' hq' => by cases hq'; exact hu.block q0 hqlt hlq)
    have HH2 : Hid (RgI 64 27 4 cE W6 g o room L lost) := Lib.hid (.of hS2.1 hown6 ho hne HIS0.out)
    refine wpAnyH_done (by kernel_rfl) ?_ _
    clear hS hS2 hK hs1 hb1 hb2 hu kl6 kB hown kx0 hfl hsl hcap hmx HSX HSL HH1 hown6 hqlt hlq ho
    have HDR := Lib.hid (e_drop HH2.out hr 1 (by omega) (by omega))
    clear HH2
    go_upto_region 9 with (first
      | ((with_reducible refine at_slot 40 ?_); refine wl_call rfl rfl Try.func37 (by kernel_rfl) rfl HDR.out rfl ?_; intro V1 hR; obtain ⟨v2, first2, s2, kB, hown, ho2, hne2, hIs⟩ := hR.1.flat; replace kx := hR.2.blk kx HN.out.gxg HN.out.ox.1; replace kr := hR.2.blk kr HN.out.grg HN.out.ox.2.1; replace kl := hR.2.blk kl HN.out.glg HN.out.ox.2.2; replace HC := Lib.hid (HC.out.tr hR.2); clear hR)
      | ((with_reducible refine at_slot 44 ?_); refine wl_ld1 (v := .int .u64 lost) rfl rfl rfl kB Try.underlying25 rfl rfl ?_)
      | ((with_reducible refine at_slot 45 ?_); refine wl_bin (v := .int .u64 (IntKind.u64.wrap (lost + 1))) rfl rfl rfl (add_u64 _ _ _) ?_)
      | ((with_reducible refine at_store 47 ?_); refine wl_st1 (v := .int .u64 (IntKind.u64.wrap (lost + 1))) rfl rfl rfl rfl kB (by kernel_rfl) rfl rfl (by simp) ?_; intro V6 kn hu; replace hown := own_same hown (fun q' hq' => hu.block q' (hown.lt q' hq').2 (fun e => hne2 (by rw [← ho2, hq', e]))); replace kx := kx.upd hu HN.out.gxg; replace kr := kr.upd hu HN.out.grg; replace kl := kl.upd hu HN.out.glg; replace HC := Lib.hid (HC.out.tr (Chg.upd hu)); clear kB; have kB : Blk _ g 64 #[v2, .int .i64 room, .int .i64 first2, .int .i64 (L.drop (dropN 1 L.length)).length, .int .u64 (IntKind.u64.wrap (lost + 1))] := kn; clear kn hu))
    obtain ⟨L2, hL2⟩ : ∃ L2, L2 = L.drop (dropN 1 L.length) := ⟨_, rfl⟩
    rw [← hL2] at kB hIs
    have hL3 : L2 = L.tail := by rw [hL2, dropN_one (by have := hff.out; omega), List.drop_one]
    have HLT := Lib.hid hL3
    have hlt : L2.length < room := by rw [hL3, List.length_tail]; omega
    have hIs2 : Is ⟨room, first2, L2.length, s2, IntKind.u64.wrap (lost + 1)⟩ L2 := hIs.loss
    obtain ⟨lost2, hl2⟩ : ∃ l2, l2 = IntKind.u64.wrap (lost + 1) := ⟨_, rfl⟩
    have HL2 := Lib.hid hl2
    rw [← hl2] at kB hIs2
    clear hIs hL2 hL3 hl2 hne HDR
    have ho := ho2
    have hne := hne2
    have hIs := hIs2
    clear ho2 hne2 hIs2 HFB HIS0
    by_cases hp : St.place ⟨room, first2, L2.length, s2, lost2⟩ L2.length < s2.length
    · have hfi : first2 < room := hIs.first
      have hsl : s2.length ≤ room := hIs.sl
      have hpl := hIs.place_le hlt
      obtain ⟨p, hpd⟩ : ∃ p, p = St.place ⟨room, first2, L2.length, s2, lost2⟩ L2.length := ⟨_, rfl⟩
      have HPC := e_place (t := ⟨room, first2, L2.length, s2, lost2⟩) ⟨kB, hown, by rw [ho]; exact hne⟩ hr0 hr hfi L2.length (by omega)
      simp only [← hpd] at HPC hpl hp
      replace HPC := Lib.hid HPC
      have HIS := Lib.hid hIs
      have HPD := Lib.hid hpd
      obtain ⟨hpl1, hpl2⟩ := hpl
      rcases own_v hown with ⟨_, h0'⟩ | ⟨q, cap, rfl, hcap⟩
      · omega
      have ho' : o = some q := ho.symm
      have hgq : g ≠ q := fun e => hne (by rw [ho', e])
      have hqg : q ≠ g := Ne.symm hgq
      have hqw := HN.out.ol q ho'
      have hmx : s2.length ≤ 9223372036854775807 := by omega
      have HO := Lib.hid hown
      have hpn : ((p : Int) == (s2.length : Int)) = false := by simp; omega
      clear hIs hpd hown ho hpl2
      go_upto_region 12 with (first
        | ((with_reducible refine at_slot 52 ?_); refine wl_ld1 (v := .int .i64 L2.length) rfl rfl rfl kB Try.underlying3 rfl rfl ?_)
        | ((with_reducible refine at_slot 53 ?_); refine wl_call rfl rfl Try.func38 (by kernel_rfl) rfl HPC.out rfl ?_; intro V2 hb2; replace kB := kB.keep hb2; replace kx := kx.keep hb2; replace kr := kr.keep hb2; replace kl := kl.keep hb2; replace HC := Lib.hid (HC.out.grow hb2); replace HO := Lib.hid (own_keep HO.out hb2); clear hb2)
        | ((with_reducible refine at_slot 58 ?_); refine wl_ld1 (v := (.slice (some ⟨q, 0, none⟩) s2.length cap)) rfl rfl rfl kB Try.underlying22 rfl rfl ?_))
      obtain ⟨A, cap2, kq, hv2, _, hcm, hAs, hAt⟩ := own_blk HO.out rfl
      obtain rfl : cap = cap2 := by simpa using hv2
      have hAz : p * 4 + 4 ≤ A.size := by omega
      have hxq : gx ≠ q := by have := HN.out.x; omega
      have hrq : gr ≠ q := by have := HN.out.r; omega
      have hlq : gl ≠ q := by have := HN.out.l; omega
      refine wp_region_held_drew (S := fun w' => Blk w' g 64 #[(.slice (some ⟨q, 0, none⟩) s2.length cap), .int .i64 room, .int .i64 first2, .int .i64 L2.length, .int .u64 lost2] ∧ Blk w' gx 27 (evA x)) (by kernel_rfl) ⟨kB.drew, kx.drew⟩ (fun hS => ?_)
      refine wpAnyH_take (i := 0) (oi := ⟨some 71, _, _, _, _, _⟩) (v := .pointer (some ⟨g, 0, none⟩)) rfl (by kernel_rfl) (by kernel_rfl) (by kernel_rfl) (fun _ _ _ h => h) (yi_mv (Or.inl rfl) rfl rfl) hS ?_
      simp only [Act.put, List.setIfInBounds_toArray, List.set_cons_zero, List.set_cons_succ]
      refine wpAnyH_take (i := 1) (oi := ⟨some 72, _, _, _, _, _⟩) (v := .pointer (some ⟨g, 0, none⟩)) rfl (by kernel_rfl) (by kernel_rfl) (by kernel_rfl) (fun _ _ _ h => h) (yi_ok rfl (fun _ => by go_simp)) hS ?_
      simp only [Act.put, List.setIfInBounds_toArray, List.set_cons_zero, List.set_cons_succ]
      refine wpAnyH_take (i := 2) (oi := ⟨some 73, _, _, _, _, _⟩) (v := .pointer (some ⟨g, 0, none⟩)) rfl (by kernel_rfl) (by kernel_rfl) (by kernel_rfl) (fun _ _ _ h => h) (yi_ok rfl (fun _ => by go_simp)) hS ?_
      simp only [Act.put, List.setIfInBounds_toArray, List.set_cons_zero, List.set_cons_succ]
      refine wpAnyH_take (i := 3) (oi := ⟨some 74, _, _, _, _, _⟩) (v := (.slice (some ⟨q, 0, none⟩) s2.length cap)) rfl (by kernel_rfl) (by kernel_rfl) (by kernel_rfl) (fun _ _ _ h => h) (yi_ld1 (v := (.slice (some ⟨q, 0, none⟩) s2.length cap)) rfl rfl rfl (fun w' h => h.1) Try.underlying22 rfl rfl) hS ?_
      simp only [Act.put, List.setIfInBounds_toArray, List.set_cons_zero, List.set_cons_succ]
      refine wpAnyH_take (i := 4) (oi := ⟨some 75, _, _, _, _, _⟩) (v := .int .i64 p) rfl (by kernel_rfl) (by kernel_rfl) (by kernel_rfl) (fun _ _ _ h => h) (yi_mv (Or.inl rfl) rfl rfl) hS ?_
      simp only [Act.put, List.setIfInBounds_toArray, List.set_cons_zero, List.set_cons_succ]
      refine wpAnyH_take (i := 5) (oi := ⟨some 76, _, _, _, _, _⟩) (v := .agg (evA x)) rfl (by kernel_rfl) (by kernel_rfl) (by kernel_rfl) (fun _ _ _ h => h) (yi_ld0 rfl rfl rfl (fun w' h => h.2) Try.underlying27 rfl evInfo) hS ?_
      simp only [Act.put, List.setIfInBounds_toArray, List.set_cons_zero, List.set_cons_succ]
      refine wpAnyH_take (i := 6) (oi := ⟨some 77, _, _, _, _, _⟩) (v := .pointer (some ⟨q, p * 4, none⟩)) rfl (by kernel_rfl) (by kernel_rfl) (by kernel_rfl) (fun _ _ _ h => h) (yi_ix rfl rfl rfl rfl Try.underlying22 rfl hp hmx) hS ?_
      simp only [Act.put, List.setIfInBounds_toArray, List.set_cons_zero, List.set_cons_succ]
      refine anyH_one (i := 7) (by kernel_rfl) rfl (fun K' hK => ?_)
      refine wq_st (k := 4) (v := .agg (evA x)) rfl rfl rfl rfl kq.drew rfl rfl (evA_one _) hAz ?_
      intro W1 B kB2 hs1 hb1 hb2 hu
      refine hK _ _ ⟨hS.1.upd hu hgq, hS.2.upd hu hxq⟩ (fun hS2 => ?_)
      have hO1 := own_put (c := cE) (x := x) cE_len (by decide) HO.out rfl rfl (Nat.zero_le q) hAs hAt hcap hcm hp kB2 hs1 hb1 (fun j hj => (hb2 j hj).trans (e_cells _ j))
      replace HO := Lib.hid hO1
      replace HC := Lib.hid (HC.out.drew.tr (by rw [ho']; exact Chg.upd_o hu))
      replace kr := kr.drew.upd hu hrq
      replace kl := kl.drew.upd hu hlq
      obtain ⟨kB, kx⟩ := hS2
      clear hK hS hO1 hb1 hb2 kB2 kq hu hv2 hAs hAt
      refine wpAnyH_done (by kernel_rfl) ?_ _
      go_wp2_with (first
        | ((with_reducible refine at_slot 81 ?_); refine wl_ld1 (v := .int .i64 L2.length) rfl rfl rfl kB Try.underlying3 rfl rfl ?_)
        | ((with_reducible refine at_store 84 ?_); refine wl_st1 (v := .int .i64 ((L2.length : Int) + 1)) rfl rfl rfl rfl kB (by kernel_rfl) rfl rfl (by simp) ?_; intro V4 kn hu; replace HO := Lib.hid (own_same HO.out (fun q' hq' => hu.block q' (HO.out.lt q' hq').2 (fun e => hqg (by cases hq'; exact e)))); replace kx := kx.upd hu HN.out.gxg; replace kr := kr.upd hu HN.out.grg; replace kl := kl.upd hu HN.out.glg; replace HC := Lib.hid (HC.out.tr (Chg.upd hu)); clear kB; have kB : Blk _ g 64 #[(.slice (some ⟨q, 0, none⟩) s2.length cap), .int .i64 room, .int .i64 first2, .int .i64 ((L2.length : Int) + 1), .int .u64 lost2] := kn; clear kn hu)
        | ((with_reducible refine at_slot 85 ?_); refine wl_ld0 rfl rfl rfl kl Try.underlying27 rfl evInfo ?_)
        | ((with_reducible refine at_store 4 ?_); refine wl_st0 (A' := evA x0) rfl rfl rfl rfl kr rfl evInfo (evA_one _) ?_; intro V9 kr9 hu; replace HO := Lib.hid (own_same HO.out (fun q' hq' => hu.block q' (HO.out.lt q' hq').2 (fun e => hrq (by cases hq'; exact e.symm)))); replace kB := kB.upd hu (Ne.symm HN.out.grg); replace HC := Lib.hid (HC.out.late hu HN.out.r); clear hu kr))
      refine bodyPost_ret (v := .tuple #[.agg (evA x0), .bool true]) (results_ct Try.results21 _ rfl rfl kr9 Try.underlying27 rfl evInfo) rfl ?_
      have hIP := HIS.out.put hlt (by rw [← HPD.out]; exact hp) x
      have e5 : St.put ⟨room, first2, L2.length, s2, lost2⟩ x = ⟨room, first2, (L2 ++ [x]).length, s2.set p x, lost2⟩ := by rw [HPD.out]; simp [St.put]
      rw [e5] at hIP
      have hRI : RgI 64 27 4 cE _ g o room (L2 ++ [x]) lost2 := .of (kB.eq (by simp)) HO.out ho'.symm hne hIP
      exact ⟨e_ret (by rw [putX_yes hff.out]; exact HX0.out) (putB_yes hff.out).symm, o, (by rw [putL_yes hff.out, putN_yes hff.out, ← HLT.out, ← HL2.out]; exact hRI), HC.out, (Or.inl rfl)⟩
    · have hp2 : St.place ⟨room, first2, L2.length, s2, lost2⟩ L2.length = s2.length := by
        have := (hIs.place_le hlt).1
        simp only at this
        omega
      clear hp
      have hp := hp2
      clear hp2
      obtain ⟨v, hvv2⟩ : ∃ v, v = v2 := ⟨_, rfl⟩
      subst hvv2
      have hfi : first2 < room := hIs.first
      have hsl : s2.length ≤ room := hIs.sl
      have hpl := hIs.place_le hlt
      obtain ⟨p, hpd⟩ : ∃ p, p = St.place ⟨room, first2, L2.length, s2, lost2⟩ L2.length := ⟨_, rfl⟩
      have HPC := e_place (t := ⟨room, first2, L2.length, s2, lost2⟩) ⟨kB, hown, by rw [ho]; exact hne⟩ hr0 hr hfi L2.length (by omega)
      simp only [← hpd] at HPC hpl hp
      replace HPC := Lib.hid HPC
      have HIS := Lib.hid hIs
      have HPD := Lib.hid hpd
      obtain ⟨hpl1, hpl2⟩ := hpl
      have HO := Lib.hid hown
      have HO_ := Lib.hid ho
      have hvv := own_v hown
      have HVV := Lib.hid hvv
      have hpn : ((p : Int) == (s2.length : Int)) = true := by simp; omega
      have hs63 : s2.length ≤ 65536 := by omega
      have hgb : v.ownBlock ≠ some g := by rw [ho]; exact hne
      have hxb : v.ownBlock ≠ some gx := by rw [ho]; intro e; have := HN.out.ol _ e; have := HN.out.x; omega
      have hrb : v.ownBlock ≠ some gr := by rw [ho]; intro e; have := HN.out.ol _ e; have := HN.out.r; omega
      have hlb : v.ownBlock ≠ some gl := by rw [ho]; intro e; have := HN.out.ol _ e; have := HN.out.l; omega
      clear hIs hpd hown ho hvv
      go_upto_region 11 with (first
        | ((with_reducible refine at_slot 52 ?_); refine wl_ld1 (v := .int .i64 L2.length) rfl rfl rfl kB Try.underlying3 rfl rfl ?_)
        | ((with_reducible refine at_slot 53 ?_); refine wl_call rfl rfl Try.func38 (by kernel_rfl) rfl HPC.out rfl ?_; intro V2 hb2; replace kB := kB.keep hb2; replace kx := kx.keep hb2; replace kr := kr.keep hb2; replace kl := kl.keep hb2; replace HC := Lib.hid (HC.out.grow hb2); replace HO := Lib.hid (own_keep HO.out hb2); clear hb2)
        | ((with_reducible refine at_slot 58 ?_); refine wl_ld1 (v := v) rfl rfl rfl kB Try.underlying22 rfl rfl ?_)
        | ((with_reducible refine at_slot 59 ?_); refine wl_len rfl rfl rfl Try.underlying22 HVV.out ?_))
      replace HO := Lib.hid (own_same (w' := V2.drew) HO.out (fun _ _ => rfl))
      refine last_begin (z := 10) (S := fun w' => Blk w' g 64 #[v, .int .i64 room, .int .i64 first2, .int .i64 L2.length, .int .u64 lost2] ∧ Blk w' gx 27 (evA x)) (by kernel_rfl) ⟨kB.drew, kx.drew⟩ (fun hS => ?_)
      refine last_take (i := 0) (oi := ⟨some 61, _, _, _, _, _⟩) (v := .pointer (some ⟨g, 0, none⟩)) rfl (by kernel_rfl) (by kernel_rfl) (by kernel_rfl) (by kernel_rfl) (fun _ _ _ h => h) (yi_mv (Or.inl rfl) rfl rfl) hS ?_
      simp only [Act.put, List.setIfInBounds_toArray, List.set_cons_zero, List.set_cons_succ]
      refine last_take (i := 1) (oi := ⟨some 62, _, _, _, _, _⟩) (v := .pointer (some ⟨g, 0, none⟩)) rfl (by kernel_rfl) (by kernel_rfl) (by kernel_rfl) (by kernel_rfl) (fun _ _ _ h => h) (yi_mv (Or.inl rfl) rfl rfl) hS ?_
      simp only [Act.put, List.setIfInBounds_toArray, List.set_cons_zero, List.set_cons_succ]
      refine last_take (i := 2) (oi := ⟨some 63, _, _, _, _, _⟩) (v := .pointer (some ⟨g, 0, none⟩)) rfl (by kernel_rfl) (by kernel_rfl) (by kernel_rfl) (by kernel_rfl) (fun _ _ _ h => h) (yi_ok rfl (fun _ => by go_simp)) hS ?_
      simp only [Act.put, List.setIfInBounds_toArray, List.set_cons_zero, List.set_cons_succ]
      refine last_take (i := 3) (oi := ⟨some 64, _, _, _, _, _⟩) (v := .pointer (some ⟨g, 0, none⟩)) rfl (by kernel_rfl) (by kernel_rfl) (by kernel_rfl) (by kernel_rfl) (fun _ _ _ h => h) (yi_ok rfl (fun _ => by go_simp)) hS ?_
      simp only [Act.put, List.setIfInBounds_toArray, List.set_cons_zero, List.set_cons_succ]
      refine last_take (i := 4) (oi := ⟨some 65, _, _, _, _, _⟩) (v := v) rfl (by kernel_rfl) (by kernel_rfl) (by kernel_rfl) (by kernel_rfl) (fun _ _ _ h => h) (yi_ld1 (v := v) rfl rfl rfl (fun w' h => h.1) Try.underlying22 rfl rfl) hS ?_
      simp only [Act.put, List.setIfInBounds_toArray, List.set_cons_zero, List.set_cons_succ]
      refine last_take (i := 5) (oi := ⟨some 66, _, _, _, _, _⟩) (v := .agg (evA x)) rfl (by kernel_rfl) (by kernel_rfl) (by kernel_rfl) (by kernel_rfl) (fun _ _ _ h => h) (yi_ld0 rfl rfl rfl (fun w' h => h.2) Try.underlying27 rfl evInfo) hS ?_
      simp only [Act.put, List.setIfInBounds_toArray, List.set_cons_zero, List.set_cons_succ]
      refine last_one (i := 6) (by kernel_rfl) rfl (fun K' hK => ?_)
      have hba := (Below.refl V2.drew.heap.size V2.drew).alloc (Nat.le_refl _) (.cells (evA x) 27)
      have kb := Blk.new V2.drew 27 (evA x)
      have kr2 := kr.drew.keep hba
      have kl2 := kl.drew.keep hba
      refine wq_bslice rfl rfl (e_bs x _) rfl (hK _ _ (fun _ => ⟨hS.1.alloc _, hS.2.alloc _⟩) ?_)
      simp only [Act.put, List.setIfInBounds_toArray]
      replace hS := And.intro (hS.1.alloc (.cells (evA x) 27)) (hS.2.alloc (.cells (evA x) 27))
      replace HO := Lib.hid (own_keep HO.out hba)
      replace HC := Lib.hid (HC.out.drew.grow hba)
      clear hK hba kB kx kr kl
      obtain ⟨gb, hgbd⟩ : ∃ gb, gb = V2.drew.heap.size := ⟨_, rfl⟩
      rw [← hgbd] at kb ⊢
      clear hgbd
      generalize V2.drew.alloc (.cells (evA x) 27) = W3 at *
      refine last_one (i := 7) (by kernel_rfl) rfl (fun K' hK => ?_)
      refine step_append_lies _ rfl _ _ 22 rfl 0 27 i0 _ 4 32 Try.underlying22 HI0.out.1 HI0.out.2.1 HI0.out.2.2.1 HI0.out.2.2.2 rfl (by decide) v s2.length (fl cE s2) rfl HO.out ⟨gb, 0, none⟩ 1 1 (cE x) rfl rfl (World.news_of_block (cs := evA x) kb) (cE_one x) (by omega) (by unfold maxLen; omega) (by omega) (Nat.zero_le _) _ rfl ?_
      intro g2 cap2 W4 hown2 hgrow hat hlt4
      have hg2 : g2 ≠ g := by
        rcases hat with e | e
        · intro e2; rw [e2] at e; exact hgb e
        · have := hS.1.lt; omega
      have hg2r : g2 ≠ gr := by
        rcases hat with e | e
        · intro e2; rw [e2] at e; exact hrb e
        · have := kr2.lt; omega
      have HNW := Lib.hid (show New w o (some g2) from by
        rcases hat with e | e
        · exact Or.inl (by rw [← e]; exact HO_.out)
        · exact Or.inr ⟨g2, rfl, by rw [e]; exact HC.out.size⟩)
      have HO2 := Lib.hid hown2
      have kB4 := Blk.keep_chg hS.1 hgrow hgb
      have kx4 := Blk.keep_chg hS.2 hgrow hxb
      have kr := Blk.keep_chg kr2 hgrow hrb
      have kl := Blk.keep_chg kl2 hgrow hlb
      have hcg := Chg.grown (g := g) (o := o) (by rw [← HO_.out]; exact hgrow)
      replace HC := Lib.hid (HC.out.tr hcg)
      refine hK _ _ (fun _ => ⟨kB4, kx4⟩) ?_
      simp only [Act.put]
      clear hK hS hown2 hgrow hat hcg kr2 kl2 kb
      have hS := And.intro kB4 kx4
      refine last_only (i := 8) (oi := ⟨some 69, _, _, _, _, _⟩) (v := .pointer (some ⟨g, 0, none⟩)) (by kernel_rfl) rfl (yi_ok rfl (fun _ => by go_simp)) hS ?_
      simp only [Act.put]
      refine last_only (i := 9) (oi := ⟨some 70, _, _, _, _, _⟩) (v := .pointer (some ⟨g, 0, none⟩)) (by kernel_rfl) rfl (yi_ok rfl (fun _ => by go_simp)) hS ?_
      simp only [Act.put]
      refine last_one (i := 10) (by kernel_rfl) rfl (fun K' hK => ?_)
      refine wq_st (k := 1) (v := (.slice (some ⟨g2, 0, none⟩) (s2.length + 1) cap2)) rfl rfl rfl rfl kB4 (by kernel_rfl) rfl (by simp [Value.cells, Value.oneCell']) (by simp) ?_
      intro W5 B kB5 hs1 hb1 hb2 hu
      refine hK _ _ (fun e => absurd rfl e) ?_
      have hBe := blk_set0 hs1 hb1 hb2
      subst hBe
      have HO3 := Lib.hid (own_same HO2.out (fun q' hq' => hu.block q' (HO2.out.lt q' hq').2 (fun e => hg2 (by cases hq'; exact e))))
      have kB := kB5
      have kx := kx4.upd hu HN.out.gxg
      replace kr := kr.upd hu HN.out.grg
      replace kl := kl.upd hu HN.out.glg
      replace HC := Lib.hid (HC.out.tr (Chg.upd hu))
      clear hK hS hs1 hb1 hb2 hu kB4 kx4 kB5
      refine last_done (by kernel_rfl) ?_ _
      go_wp2_with (first
        | ((with_reducible refine at_slot 81 ?_); refine wl_ld1 (v := .int .i64 L2.length) rfl rfl rfl kB Try.underlying3 rfl rfl ?_)
        | ((with_reducible refine at_store 84 ?_); refine wl_st1 (v := .int .i64 ((L2.length : Int) + 1)) rfl rfl rfl rfl kB (by kernel_rfl) rfl rfl (by simp) ?_; intro V6 kn hu; replace HO3 := Lib.hid (own_same HO3.out (fun q' hq' => hu.block q' (HO3.out.lt q' hq').2 (fun e => hg2 (by cases hq'; exact e)))); replace kx := kx.upd hu HN.out.gxg; replace kr := kr.upd hu HN.out.grg; replace kl := kl.upd hu HN.out.glg; replace HC := Lib.hid (HC.out.tr (Chg.upd hu)); clear kB; have kB : Blk _ g 64 #[(.slice (some ⟨g2, 0, none⟩) (s2.length + 1) cap2), .int .i64 room, .int .i64 first2, .int .i64 ((L2.length : Int) + 1), .int .u64 lost2] := kn; clear kn hu)
        | ((with_reducible refine at_slot 85 ?_); refine wl_ld0 rfl rfl rfl kl Try.underlying27 rfl evInfo ?_)
        | ((with_reducible refine at_store 4 ?_); refine wl_st0 (A' := evA x0) rfl rfl rfl rfl kr rfl evInfo (evA_one _) ?_; intro V9 kr9 hu; replace HO3 := Lib.hid (own_same HO3.out (fun q' hq' => hu.block q' (HO3.out.lt q' hq').2 (fun e => hg2r (by cases hq'; exact e)))); replace kB := kB.upd hu (Ne.symm HN.out.grg); replace HC := Lib.hid (HC.out.late hu HN.out.r); clear hu kr))
      refine bodyPost_ret (v := .tuple #[.agg (evA x0), .bool true]) (results_ct Try.results21 _ rfl rfl kr9 Try.underlying27 rfl evInfo) rfl ?_
      have hIP := HIS.out.app hlt (by rw [← HPD.out]; exact hp) x
      have e5 : St.app ⟨room, first2, L2.length, s2, lost2⟩ x = ⟨room, first2, (L2 ++ [x]).length, s2 ++ [x], lost2⟩ := by simp [St.app]
      rw [e5] at hIP
      have hOO : World.ownsRow V9 0 27 4 (.slice (some ⟨g2, 0, none⟩) (s2.length + 1) cap2) (s2 ++ [x]).length (fl cE (s2 ++ [x])) := by rw [fl_append, List.length_append, fl_one]; exact HO3.out
      have hRI : RgI 64 27 4 cE _ g (some g2) room (L2 ++ [x]) lost2 := .of (kB.eq (by simp)) hOO rfl (by intro e; cases e; exact hg2 rfl) hIP
      exact ⟨e_ret (by rw [putX_yes hff.out]; exact HX0.out) (putB_yes hff.out).symm, (some g2), (by rw [putL_yes hff.out, putN_yes hff.out, ← HLT.out, ← HL2.out]; exact hRI), HC.out, HNW.out⟩
  · have hlt : L.length < room := by omega
    have hfb : ((L.length : Int) == (room : Int)) = false := by simp; omega
    have HFB := Lib.hid hfb
    have HNF := Lib.hid hf
    have HIS0 := Lib.hid hIs
    clear hf hfb hIs
    go_enter Try.func21, Try.ntmps21
    go_upto_region 4 with (first
      | ((with_reducible refine at_slot 3 ?_); refine wl_box (A := evA x) rfl rfl rfl ?_; intro W1 gx kx hb hx; replace kB := kB.keep hb; replace hown := own_keep hown hb; have HC := Lib.hid (Chg.of_below (g := g) (o := o) hb); clear hb)
      | ((with_reducible refine at_slot 4 ?_); refine wl_alloc (A := evA zeroEv) rfl rfl ev_zero rfl ?_; intro W2 gr kr hb hr2; have hxr : gx < gr := (by have := kx.lt; omega); replace kB := kB.keep hb; replace kx := kx.keep hb; replace hown := own_keep hown hb; replace HC := Lib.hid (HC.out.grow hb); clear hb)
      | ((with_reducible refine at_slot 6 ?_); refine wl_alloc (A := evA zeroEv) rfl rfl ev_zero rfl ?_; intro W3 gl kl hb hl2; have hrl : gr < gl := (by have := kr.lt; omega); replace kB := kB.keep hb; replace kx := kx.keep hb; replace kr := kr.keep hb; replace hown := own_keep hown hb; replace HC := Lib.hid (HC.out.grow hb); clear hb)
      | ((with_reducible refine at_slot 15 ?_); refine wl_ld1 (v := .int .i64 room) rfl rfl rfl kB Try.underlying3 rfl rfl ?_))
    have HN := Lib.hid (show PutN w g o gx gr gl from ⟨hx, by omega, by omega, hxr, hrl, hgl, hol⟩)
    clear hx hr2 hl2 hxr hrl hgl hol
    refine wp_region_held_drew (S := fun w' => Blk w' g 64 #[v, .int .i64 room, .int .i64 first, .int .i64 L.length, .int .u64 lost]) (by kernel_rfl) kB.drew (fun hS => ?_)
    refine wpAnyH_take (i := 0) (oi := ⟨some 19, _, _, _, _, _⟩) (v := .pointer (some ⟨g, 0, none⟩)) rfl (by kernel_rfl) (by kernel_rfl) (by kernel_rfl) (fun _ _ _ h => h) (yi_mv (Or.inl rfl) rfl rfl) hS ?_
    simp only [Act.put, List.setIfInBounds_toArray, List.set_cons_zero, List.set_cons_succ]
    refine wpAnyH_take (i := 1) (oi := ⟨some 20, _, _, _, _, _⟩) (v := .pointer (some ⟨g, 0, none⟩)) rfl (by kernel_rfl) (by kernel_rfl) (by kernel_rfl) (fun _ _ _ h => h) (yi_ok rfl (fun _ => by go_simp)) hS ?_
    simp only [Act.put, List.setIfInBounds_toArray, List.set_cons_zero, List.set_cons_succ]
    refine wpAnyH_take (i := 2) (oi := ⟨some 21, _, _, _, _, _⟩) (v := .pointer (some ⟨g, 3, none⟩)) rfl (by kernel_rfl) (by kernel_rfl) (by kernel_rfl) (fun _ _ _ h => h) (yi_ok rfl (fun _ => by go_simp)) hS ?_
    simp only [Act.put, List.setIfInBounds_toArray, List.set_cons_zero, List.set_cons_succ]
    refine wpAnyH_take (i := 3) (oi := ⟨some 22, _, _, _, _, _⟩) (v := .int .i64 L.length) rfl (by kernel_rfl) (by kernel_rfl) (by kernel_rfl) (fun _ _ _ h => h) (yi_ld1 (v := .int .i64 L.length) rfl rfl rfl (fun w' h => h) Try.underlying3 rfl rfl) hS ?_
    simp only [Act.put, List.setIfInBounds_toArray, List.set_cons_zero, List.set_cons_succ]
    refine wpAnyH_take (i := 4) (oi := ⟨some 23, _, _, _, _, _⟩) (v := .pointer (some ⟨g, 0, none⟩)) rfl (by kernel_rfl) (by kernel_rfl) (by kernel_rfl) (fun _ _ _ h => h) (yi_mv (Or.inl rfl) rfl rfl) hS ?_
    simp only [Act.put, List.setIfInBounds_toArray, List.set_cons_zero, List.set_cons_succ]
    refine wpAnyH_take (i := 5) (oi := ⟨some 24, _, _, _, _, _⟩) (v := .pointer (some ⟨g, 0, none⟩)) rfl (by kernel_rfl) (by kernel_rfl) (by kernel_rfl) (fun _ _ _ h => h) (yi_ok rfl (fun _ => by go_simp)) hS ?_
    simp only [Act.put, List.setIfInBounds_toArray, List.set_cons_zero, List.set_cons_succ]
    refine wpAnyH_take (i := 6) (oi := ⟨some 25, _, _, _, _, _⟩) (v := .pointer (some ⟨g, 1, none⟩)) rfl (by kernel_rfl) (by kernel_rfl) (by kernel_rfl) (fun _ _ _ h => h) (yi_ok rfl (fun _ => by go_simp)) hS ?_
    simp only [Act.put, List.setIfInBounds_toArray, List.set_cons_zero, List.set_cons_succ]
    refine wpAnyH_take (i := 7) (oi := ⟨some 26, _, _, _, _, _⟩) (v := .int .i64 room) rfl (by kernel_rfl) (by kernel_rfl) (by kernel_rfl) (fun _ _ _ h => h) (yi_ld1 (v := .int .i64 room) rfl rfl rfl (fun w' h => h) Try.underlying3 rfl rfl) hS ?_
    simp only [Act.put, List.setIfInBounds_toArray, List.set_cons_zero, List.set_cons_succ]
    refine wpAnyH_take (i := 8) (oi := ⟨some 27, _, _, _, _, _⟩) (v := .bool false) rfl (by kernel_rfl) (by kernel_rfl) (by kernel_rfl) (fun _ _ _ h => h) (yi_eql rfl rfl rfl rfl Try.underlying3 HFB.out) hS ?_
    simp only [Act.put, List.setIfInBounds_toArray, List.set_cons_zero, List.set_cons_succ]
    refine wpAnyH_take (i := 9) (oi := ⟨some 7, _, _, _, _, _⟩) (v := .bool false) rfl (by kernel_rfl) (by kernel_rfl) (by kernel_rfl) (fun _ _ _ h => h) (yi_mv (Or.inr rfl) rfl rfl) hS ?_
    simp only [Act.put, List.setIfInBounds_toArray, List.set_cons_zero, List.set_cons_succ]
    refine wpAnyH_done (by kernel_rfl) ?_ _
    clear hS
    replace kB := kB.drew
    replace kx := kx.drew
    replace kr := kr.drew
    replace kl := kl.drew
    replace hown := own_same (w' := World.drew _) hown (fun _ _ => rfl)
    replace HC := Lib.hid HC.out.drew
    go_upto_region 9 with fail
    have hIs := HIS0.out
    clear HIS0 HFB
    by_cases hp : St.place ⟨room, first, L.length, s, lost⟩ L.length < s.length
    · have hfi : first < room := hIs.first
      have hsl : s.length ≤ room := hIs.sl
      have hpl := hIs.place_le hlt
      obtain ⟨p, hpd⟩ : ∃ p, p = St.place ⟨room, first, L.length, s, lost⟩ L.length := ⟨_, rfl⟩
      have HPC := e_place (t := ⟨room, first, L.length, s, lost⟩) ⟨kB, hown, by rw [ho]; exact hne⟩ hr0 hr hfi L.length (by omega)
      simp only [← hpd] at HPC hpl hp
      replace HPC := Lib.hid HPC
      have HIS := Lib.hid hIs
      have HPD := Lib.hid hpd
      obtain ⟨hpl1, hpl2⟩ := hpl
      rcases own_v hown with ⟨_, h0'⟩ | ⟨q, cap, rfl, hcap⟩
      · omega
      have ho' : o = some q := ho.symm
      have hgq : g ≠ q := fun e => hne (by rw [ho', e])
      have hqg : q ≠ g := Ne.symm hgq
      have hqw := HN.out.ol q ho'
      have hmx : s.length ≤ 9223372036854775807 := by omega
      have HO := Lib.hid hown
      have hpn : ((p : Int) == (s.length : Int)) = false := by simp; omega
      clear hIs hpd hown ho hpl2
      go_upto_region 12 with (first
        | ((with_reducible refine at_slot 52 ?_); refine wl_ld1 (v := .int .i64 L.length) rfl rfl rfl kB Try.underlying3 rfl rfl ?_)
        | ((with_reducible refine at_slot 53 ?_); refine wl_call rfl rfl Try.func38 (by kernel_rfl) rfl HPC.out rfl ?_; intro V2 hb2; replace kB := kB.keep hb2; replace kx := kx.keep hb2; replace kr := kr.keep hb2; replace kl := kl.keep hb2; replace HC := Lib.hid (HC.out.grow hb2); replace HO := Lib.hid (own_keep HO.out hb2); clear hb2)
        | ((with_reducible refine at_slot 58 ?_); refine wl_ld1 (v := (.slice (some ⟨q, 0, none⟩) s.length cap)) rfl rfl rfl kB Try.underlying22 rfl rfl ?_))
      obtain ⟨A, cap2, kq, hv2, _, hcm, hAs, hAt⟩ := own_blk HO.out rfl
      obtain rfl : cap = cap2 := by simpa using hv2
      have hAz : p * 4 + 4 ≤ A.size := by omega
      have hxq : gx ≠ q := by have := HN.out.x; omega
      have hrq : gr ≠ q := by have := HN.out.r; omega
      have hlq : gl ≠ q := by have := HN.out.l; omega
      refine wp_region_held_drew (S := fun w' => Blk w' g 64 #[(.slice (some ⟨q, 0, none⟩) s.length cap), .int .i64 room, .int .i64 first, .int .i64 L.length, .int .u64 lost] ∧ Blk w' gx 27 (evA x)) (by kernel_rfl) ⟨kB.drew, kx.drew⟩ (fun hS => ?_)
      refine wpAnyH_take (i := 0) (oi := ⟨some 71, _, _, _, _, _⟩) (v := .pointer (some ⟨g, 0, none⟩)) rfl (by kernel_rfl) (by kernel_rfl) (by kernel_rfl) (fun _ _ _ h => h) (yi_mv (Or.inl rfl) rfl rfl) hS ?_
      simp only [Act.put, List.setIfInBounds_toArray, List.set_cons_zero, List.set_cons_succ]
      refine wpAnyH_take (i := 1) (oi := ⟨some 72, _, _, _, _, _⟩) (v := .pointer (some ⟨g, 0, none⟩)) rfl (by kernel_rfl) (by kernel_rfl) (by kernel_rfl) (fun _ _ _ h => h) (yi_ok rfl (fun _ => by go_simp)) hS ?_
      simp only [Act.put, List.setIfInBounds_toArray, List.set_cons_zero, List.set_cons_succ]
      refine wpAnyH_take (i := 2) (oi := ⟨some 73, _, _, _, _, _⟩) (v := .pointer (some ⟨g, 0, none⟩)) rfl (by kernel_rfl) (by kernel_rfl) (by kernel_rfl) (fun _ _ _ h => h) (yi_ok rfl (fun _ => by go_simp)) hS ?_
      simp only [Act.put, List.setIfInBounds_toArray, List.set_cons_zero, List.set_cons_succ]
      refine wpAnyH_take (i := 3) (oi := ⟨some 74, _, _, _, _, _⟩) (v := (.slice (some ⟨q, 0, none⟩) s.length cap)) rfl (by kernel_rfl) (by kernel_rfl) (by kernel_rfl) (fun _ _ _ h => h) (yi_ld1 (v := (.slice (some ⟨q, 0, none⟩) s.length cap)) rfl rfl rfl (fun w' h => h.1) Try.underlying22 rfl rfl) hS ?_
      simp only [Act.put, List.setIfInBounds_toArray, List.set_cons_zero, List.set_cons_succ]
      refine wpAnyH_take (i := 4) (oi := ⟨some 75, _, _, _, _, _⟩) (v := .int .i64 p) rfl (by kernel_rfl) (by kernel_rfl) (by kernel_rfl) (fun _ _ _ h => h) (yi_mv (Or.inl rfl) rfl rfl) hS ?_
      simp only [Act.put, List.setIfInBounds_toArray, List.set_cons_zero, List.set_cons_succ]
      refine wpAnyH_take (i := 5) (oi := ⟨some 76, _, _, _, _, _⟩) (v := .agg (evA x)) rfl (by kernel_rfl) (by kernel_rfl) (by kernel_rfl) (fun _ _ _ h => h) (yi_ld0 rfl rfl rfl (fun w' h => h.2) Try.underlying27 rfl evInfo) hS ?_
      simp only [Act.put, List.setIfInBounds_toArray, List.set_cons_zero, List.set_cons_succ]
      refine wpAnyH_take (i := 6) (oi := ⟨some 77, _, _, _, _, _⟩) (v := .pointer (some ⟨q, p * 4, none⟩)) rfl (by kernel_rfl) (by kernel_rfl) (by kernel_rfl) (fun _ _ _ h => h) (yi_ix rfl rfl rfl rfl Try.underlying22 rfl hp hmx) hS ?_
      simp only [Act.put, List.setIfInBounds_toArray, List.set_cons_zero, List.set_cons_succ]
      refine anyH_one (i := 7) (by kernel_rfl) rfl (fun K' hK => ?_)
      refine wq_st (k := 4) (v := .agg (evA x)) rfl rfl rfl rfl kq.drew rfl rfl (evA_one _) hAz ?_
      intro W1 B kB2 hs1 hb1 hb2 hu
      refine hK _ _ ⟨hS.1.upd hu hgq, hS.2.upd hu hxq⟩ (fun hS2 => ?_)
      have hO1 := own_put (c := cE) (x := x) cE_len (by decide) HO.out rfl rfl (Nat.zero_le q) hAs hAt hcap hcm hp kB2 hs1 hb1 (fun j hj => (hb2 j hj).trans (e_cells _ j))
      replace HO := Lib.hid hO1
      replace HC := Lib.hid (HC.out.drew.tr (by rw [ho']; exact Chg.upd_o hu))
      replace kr := kr.drew.upd hu hrq
      replace kl := kl.drew.upd hu hlq
      obtain ⟨kB, kx⟩ := hS2
      clear hK hS hO1 hb1 hb2 kB2 kq hu hv2 hAs hAt
      refine wpAnyH_done (by kernel_rfl) ?_ _
      go_wp2_with (first
        | ((with_reducible refine at_slot 81 ?_); refine wl_ld1 (v := .int .i64 L.length) rfl rfl rfl kB Try.underlying3 rfl rfl ?_)
        | ((with_reducible refine at_store 84 ?_); refine wl_st1 (v := .int .i64 ((L.length : Int) + 1)) rfl rfl rfl rfl kB (by kernel_rfl) rfl rfl (by simp) ?_; intro V4 kn hu; replace HO := Lib.hid (own_same HO.out (fun q' hq' => hu.block q' (HO.out.lt q' hq').2 (fun e => hqg (by cases hq'; exact e)))); replace kx := kx.upd hu HN.out.gxg; replace kr := kr.upd hu HN.out.grg; replace kl := kl.upd hu HN.out.glg; replace HC := Lib.hid (HC.out.tr (Chg.upd hu)); clear kB; have kB : Blk _ g 64 #[(.slice (some ⟨q, 0, none⟩) s.length cap), .int .i64 room, .int .i64 first, .int .i64 ((L.length : Int) + 1), .int .u64 lost] := kn; clear kn hu)
        | ((with_reducible refine at_slot 85 ?_); refine wl_ld0 rfl rfl rfl kl Try.underlying27 rfl evInfo ?_)
        | ((with_reducible refine at_store 4 ?_); refine wl_st0 (A' := evA zeroEv) rfl rfl rfl rfl kr rfl evInfo (evA_one _) ?_; intro V9 kr9 hu; replace HO := Lib.hid (own_same HO.out (fun q' hq' => hu.block q' (HO.out.lt q' hq').2 (fun e => hrq (by cases hq'; exact e.symm)))); replace kB := kB.upd hu (Ne.symm HN.out.grg); replace HC := Lib.hid (HC.out.late hu HN.out.r); clear hu kr))
      refine bodyPost_ret (v := .tuple #[.agg (evA zeroEv), .bool false]) (results_ct Try.results21 _ rfl rfl kr9 Try.underlying27 rfl evInfo) rfl ?_
      have hIP := HIS.out.put hlt (by rw [← HPD.out]; exact hp) x
      have e5 : St.put ⟨room, first, L.length, s, lost⟩ x = ⟨room, first, (L ++ [x]).length, s.set p x, lost⟩ := by rw [HPD.out]; simp [St.put]
      rw [e5] at hIP
      have hRI : RgI 64 27 4 cE _ g o room (L ++ [x]) lost := .of (kB.eq (by simp)) HO.out ho'.symm hne hIP
      exact ⟨e_ret (putX_no HNF.out).symm (putB_no HNF.out).symm, o, (by rw [putL_no HNF.out, putN_no HNF.out]; exact hRI), HC.out, (Or.inl rfl)⟩
    · have hp2 : St.place ⟨room, first, L.length, s, lost⟩ L.length = s.length := by
        have := (hIs.place_le hlt).1
        simp only at this
        omega
      clear hp
      have hp := hp2
      clear hp2
      have hfi : first < room := hIs.first
      have hsl : s.length ≤ room := hIs.sl
      have hpl := hIs.place_le hlt
      obtain ⟨p, hpd⟩ : ∃ p, p = St.place ⟨room, first, L.length, s, lost⟩ L.length := ⟨_, rfl⟩
      have HPC := e_place (t := ⟨room, first, L.length, s, lost⟩) ⟨kB, hown, by rw [ho]; exact hne⟩ hr0 hr hfi L.length (by omega)
      simp only [← hpd] at HPC hpl hp
      replace HPC := Lib.hid HPC
      have HIS := Lib.hid hIs
      have HPD := Lib.hid hpd
      obtain ⟨hpl1, hpl2⟩ := hpl
      have HO := Lib.hid hown
      have HO_ := Lib.hid ho
      have hvv := own_v hown
      have HVV := Lib.hid hvv
      have hpn : ((p : Int) == (s.length : Int)) = true := by simp; omega
      have hs63 : s.length ≤ 65536 := by omega
      have hgb : v.ownBlock ≠ some g := by rw [ho]; exact hne
      have hxb : v.ownBlock ≠ some gx := by rw [ho]; intro e; have := HN.out.ol _ e; have := HN.out.x; omega
      have hrb : v.ownBlock ≠ some gr := by rw [ho]; intro e; have := HN.out.ol _ e; have := HN.out.r; omega
      have hlb : v.ownBlock ≠ some gl := by rw [ho]; intro e; have := HN.out.ol _ e; have := HN.out.l; omega
      clear hIs hpd hown ho hvv
      go_upto_region 11 with (first
        | ((with_reducible refine at_slot 52 ?_); refine wl_ld1 (v := .int .i64 L.length) rfl rfl rfl kB Try.underlying3 rfl rfl ?_)
        | ((with_reducible refine at_slot 53 ?_); refine wl_call rfl rfl Try.func38 (by kernel_rfl) rfl HPC.out rfl ?_; intro V2 hb2; replace kB := kB.keep hb2; replace kx := kx.keep hb2; replace kr := kr.keep hb2; replace kl := kl.keep hb2; replace HC := Lib.hid (HC.out.grow hb2); replace HO := Lib.hid (own_keep HO.out hb2); clear hb2)
        | ((with_reducible refine at_slot 58 ?_); refine wl_ld1 (v := v) rfl rfl rfl kB Try.underlying22 rfl rfl ?_)
        | ((with_reducible refine at_slot 59 ?_); refine wl_len rfl rfl rfl Try.underlying22 HVV.out ?_))
      replace HO := Lib.hid (own_same (w' := V2.drew) HO.out (fun _ _ => rfl))
      refine last_begin (z := 10) (S := fun w' => Blk w' g 64 #[v, .int .i64 room, .int .i64 first, .int .i64 L.length, .int .u64 lost] ∧ Blk w' gx 27 (evA x)) (by kernel_rfl) ⟨kB.drew, kx.drew⟩ (fun hS => ?_)
      refine last_take (i := 0) (oi := ⟨some 61, _, _, _, _, _⟩) (v := .pointer (some ⟨g, 0, none⟩)) rfl (by kernel_rfl) (by kernel_rfl) (by kernel_rfl) (by kernel_rfl) (fun _ _ _ h => h) (yi_mv (Or.inl rfl) rfl rfl) hS ?_
      simp only [Act.put, List.setIfInBounds_toArray, List.set_cons_zero, List.set_cons_succ]
      refine last_take (i := 1) (oi := ⟨some 62, _, _, _, _, _⟩) (v := .pointer (some ⟨g, 0, none⟩)) rfl (by kernel_rfl) (by kernel_rfl) (by kernel_rfl) (by kernel_rfl) (fun _ _ _ h => h) (yi_mv (Or.inl rfl) rfl rfl) hS ?_
      simp only [Act.put, List.setIfInBounds_toArray, List.set_cons_zero, List.set_cons_succ]
      refine last_take (i := 2) (oi := ⟨some 63, _, _, _, _, _⟩) (v := .pointer (some ⟨g, 0, none⟩)) rfl (by kernel_rfl) (by kernel_rfl) (by kernel_rfl) (by kernel_rfl) (fun _ _ _ h => h) (yi_ok rfl (fun _ => by go_simp)) hS ?_
      simp only [Act.put, List.setIfInBounds_toArray, List.set_cons_zero, List.set_cons_succ]
      refine last_take (i := 3) (oi := ⟨some 64, _, _, _, _, _⟩) (v := .pointer (some ⟨g, 0, none⟩)) rfl (by kernel_rfl) (by kernel_rfl) (by kernel_rfl) (by kernel_rfl) (fun _ _ _ h => h) (yi_ok rfl (fun _ => by go_simp)) hS ?_
      simp only [Act.put, List.setIfInBounds_toArray, List.set_cons_zero, List.set_cons_succ]
      refine last_take (i := 4) (oi := ⟨some 65, _, _, _, _, _⟩) (v := v) rfl (by kernel_rfl) (by kernel_rfl) (by kernel_rfl) (by kernel_rfl) (fun _ _ _ h => h) (yi_ld1 (v := v) rfl rfl rfl (fun w' h => h.1) Try.underlying22 rfl rfl) hS ?_
      simp only [Act.put, List.setIfInBounds_toArray, List.set_cons_zero, List.set_cons_succ]
      refine last_take (i := 5) (oi := ⟨some 66, _, _, _, _, _⟩) (v := .agg (evA x)) rfl (by kernel_rfl) (by kernel_rfl) (by kernel_rfl) (by kernel_rfl) (fun _ _ _ h => h) (yi_ld0 rfl rfl rfl (fun w' h => h.2) Try.underlying27 rfl evInfo) hS ?_
      simp only [Act.put, List.setIfInBounds_toArray, List.set_cons_zero, List.set_cons_succ]
      refine last_one (i := 6) (by kernel_rfl) rfl (fun K' hK => ?_)
      have hba := (Below.refl V2.drew.heap.size V2.drew).alloc (Nat.le_refl _) (.cells (evA x) 27)
      have kb := Blk.new V2.drew 27 (evA x)
      have kr2 := kr.drew.keep hba
      have kl2 := kl.drew.keep hba
      refine wq_bslice rfl rfl (e_bs x _) rfl (hK _ _ (fun _ => ⟨hS.1.alloc _, hS.2.alloc _⟩) ?_)
      simp only [Act.put, List.setIfInBounds_toArray]
      replace hS := And.intro (hS.1.alloc (.cells (evA x) 27)) (hS.2.alloc (.cells (evA x) 27))
      replace HO := Lib.hid (own_keep HO.out hba)
      replace HC := Lib.hid (HC.out.drew.grow hba)
      clear hK hba kB kx kr kl
      obtain ⟨gb, hgbd⟩ : ∃ gb, gb = V2.drew.heap.size := ⟨_, rfl⟩
      rw [← hgbd] at kb ⊢
      clear hgbd
      generalize V2.drew.alloc (.cells (evA x) 27) = W3 at *
      refine last_one (i := 7) (by kernel_rfl) rfl (fun K' hK => ?_)
      refine step_append_lies _ rfl _ _ 22 rfl 0 27 i0 _ 4 32 Try.underlying22 HI0.out.1 HI0.out.2.1 HI0.out.2.2.1 HI0.out.2.2.2 rfl (by decide) v s.length (fl cE s) rfl HO.out ⟨gb, 0, none⟩ 1 1 (cE x) rfl rfl (World.news_of_block (cs := evA x) kb) (cE_one x) (by omega) (by unfold maxLen; omega) (by omega) (Nat.zero_le _) _ rfl ?_
      intro g2 cap2 W4 hown2 hgrow hat hlt4
      have hg2 : g2 ≠ g := by
        rcases hat with e | e
        · intro e2; rw [e2] at e; exact hgb e
        · have := hS.1.lt; omega
      have hg2r : g2 ≠ gr := by
        rcases hat with e | e
        · intro e2; rw [e2] at e; exact hrb e
        · have := kr2.lt; omega
      have HNW := Lib.hid (show New w o (some g2) from by
        rcases hat with e | e
        · exact Or.inl (by rw [← e]; exact HO_.out)
        · exact Or.inr ⟨g2, rfl, by rw [e]; exact HC.out.size⟩)
      have HO2 := Lib.hid hown2
      have kB4 := Blk.keep_chg hS.1 hgrow hgb
      have kx4 := Blk.keep_chg hS.2 hgrow hxb
      have kr := Blk.keep_chg kr2 hgrow hrb
      have kl := Blk.keep_chg kl2 hgrow hlb
      have hcg := Chg.grown (g := g) (o := o) (by rw [← HO_.out]; exact hgrow)
      replace HC := Lib.hid (HC.out.tr hcg)
      refine hK _ _ (fun _ => ⟨kB4, kx4⟩) ?_
      simp only [Act.put]
      clear hK hS hown2 hgrow hat hcg kr2 kl2 kb
      have hS := And.intro kB4 kx4
      refine last_only (i := 8) (oi := ⟨some 69, _, _, _, _, _⟩) (v := .pointer (some ⟨g, 0, none⟩)) (by kernel_rfl) rfl (yi_ok rfl (fun _ => by go_simp)) hS ?_
      simp only [Act.put]
      refine last_only (i := 9) (oi := ⟨some 70, _, _, _, _, _⟩) (v := .pointer (some ⟨g, 0, none⟩)) (by kernel_rfl) rfl (yi_ok rfl (fun _ => by go_simp)) hS ?_
      simp only [Act.put]
      refine last_one (i := 10) (by kernel_rfl) rfl (fun K' hK => ?_)
      refine wq_st (k := 1) (v := (.slice (some ⟨g2, 0, none⟩) (s.length + 1) cap2)) rfl rfl rfl rfl kB4 (by kernel_rfl) rfl (by simp [Value.cells, Value.oneCell']) (by simp) ?_
      intro W5 B kB5 hs1 hb1 hb2 hu
      refine hK _ _ (fun e => absurd rfl e) ?_
      have hBe := blk_set0 hs1 hb1 hb2
      subst hBe
      have HO3 := Lib.hid (own_same HO2.out (fun q' hq' => hu.block q' (HO2.out.lt q' hq').2 (fun e => hg2 (by cases hq'; exact e))))
      have kB := kB5
      have kx := kx4.upd hu HN.out.gxg
      replace kr := kr.upd hu HN.out.grg
      replace kl := kl.upd hu HN.out.glg
      replace HC := Lib.hid (HC.out.tr (Chg.upd hu))
      clear hK hS hs1 hb1 hb2 hu kB4 kx4 kB5
      refine last_done (by kernel_rfl) ?_ _
      go_wp2_with (first
        | ((with_reducible refine at_slot 81 ?_); refine wl_ld1 (v := .int .i64 L.length) rfl rfl rfl kB Try.underlying3 rfl rfl ?_)
        | ((with_reducible refine at_store 84 ?_); refine wl_st1 (v := .int .i64 ((L.length : Int) + 1)) rfl rfl rfl rfl kB (by kernel_rfl) rfl rfl (by simp) ?_; intro V6 kn hu; replace HO3 := Lib.hid (own_same HO3.out (fun q' hq' => hu.block q' (HO3.out.lt q' hq').2 (fun e => hg2 (by cases hq'; exact e)))); replace kx := kx.upd hu HN.out.gxg; replace kr := kr.upd hu HN.out.grg; replace kl := kl.upd hu HN.out.glg; replace HC := Lib.hid (HC.out.tr (Chg.upd hu)); clear kB; have kB : Blk _ g 64 #[(.slice (some ⟨g2, 0, none⟩) (s.length + 1) cap2), .int .i64 room, .int .i64 first, .int .i64 ((L.length : Int) + 1), .int .u64 lost] := kn; clear kn hu)
        | ((with_reducible refine at_slot 85 ?_); refine wl_ld0 rfl rfl rfl kl Try.underlying27 rfl evInfo ?_)
        | ((with_reducible refine at_store 4 ?_); refine wl_st0 (A' := evA zeroEv) rfl rfl rfl rfl kr rfl evInfo (evA_one _) ?_; intro V9 kr9 hu; replace HO3 := Lib.hid (own_same HO3.out (fun q' hq' => hu.block q' (HO3.out.lt q' hq').2 (fun e => hg2r (by cases hq'; exact e)))); replace kB := kB.upd hu (Ne.symm HN.out.grg); replace HC := Lib.hid (HC.out.late hu HN.out.r); clear hu kr))
      refine bodyPost_ret (v := .tuple #[.agg (evA zeroEv), .bool false]) (results_ct Try.results21 _ rfl rfl kr9 Try.underlying27 rfl evInfo) rfl ?_
      have hIP := HIS.out.app hlt (by rw [← HPD.out]; exact hp) x
      have e5 : St.app ⟨room, first, L.length, s, lost⟩ x = ⟨room, first, (L ++ [x]).length, s ++ [x], lost⟩ := by simp [St.app]
      rw [e5] at hIP
      have hOO : World.ownsRow V9 0 27 4 (.slice (some ⟨g2, 0, none⟩) (s.length + 1) cap2) (s ++ [x]).length (fl cE (s ++ [x])) := by rw [fl_append, List.length_append, fl_one]; exact HO3.out
      have hRI : RgI 64 27 4 cE _ g (some g2) room (L ++ [x]) lost := .of (kB.eq (by simp)) hOO rfl (by intro e; cases e; exact hg2 rfl) hIP
      exact ⟨e_ret (putX_no HNF.out).symm (putB_no HNF.out).symm, (some g2), (by rw [putL_no HNF.out, putN_no HNF.out]; exact hRI), HC.out, HNW.out⟩
end Go.Proofs.Ytohkioakipjanaa
