/-
  THE LAW plimsolllaw07.EventLonger: the walk: it answers true, of any events.
-/
import Derived.Test.YtgijejdehenmpaaL7
import Derived.Test.YtgijejdehenmpaaSl
namespace Go.Proofs.Ytgijejdehenmpaa
open Go Go.RowKit

/-- What the law asks of each event. -/
structure LoAt (l : List Ev) (j : Nat) (h : j < l.length) : Prop where
  s : l[j].s = false
  c : l[j].c = 0
  up : ∀ (p : Nat) (hp : p + 1 = j), (l[p]'(by omega)).v ≤ l[j].v ∧ Fol (l[p]'(by omega)) l[j]
structure LoI (w wr : World) (l : List Ev) (k : Nat) : Prop where
  below : Below w.heap.size w wr
  ok : ∀ (j : Nat) (h : j < l.length), j < k → LoAt l j h
theorem LoI.next {w wr wx : World} {l : List Ev} {k : Nat} (h : LoI w wr l k) (hb : Below w.heap.size w wx) (hk : k < l.length) (ho : LoAt l k hk) : LoI w wx l (k + 1) :=
  ⟨hb, fun j hj hjk => by
    rcases Nat.lt_or_ge j k with h' | h'
    · exact h.ok j hj h'
    · obtain rfl : j = k := by omega
      exact ho⟩
theorem be_up {p c : Ev} (hp : p.s = false) (hcs : c.s = false) (hc : c.c = 0) (hv : p.v ≤ c.v) (hf : Fol p c) : beE p c = 0 ∧ (beC p c).i.n = (c.v - p.v).toNat := by
  refine ⟨beE_good hf.1 hf.2.1 hf.2.2, ?_⟩
  rw [beC_good hf.1 hf.2.1 hf.2.2]
  show (btU p c).n = _
  rw [btU_n hf.1 hf.2.1]
  have h1 : ¬ p.t < c.c := by have := hf.1.t0; omega
  have h2 : ¬ c.v < p.v := by omega
  have h3 : ¬ p.t < 0 := by have := hf.1.t0; omega
  unfold btI
  simp [hp, hcs, h1, h2]
theorem lo_ri (l : List Ev) (hall : ∀ (j : Nat) (h : j < l.length), LoAt l j h) : ∀ (m p : Nat) (hp : p < l.length) (acc : Nat), m = l.length - (p + 1) → riE l[p] (l.drop (p + 1)) = 0 ∧
    riN l[p] acc (l.drop (p + 1)) = acc + ((l[l.length - 1]'(by omega)).v - l[p].v).toNat ∧ l[p].v ≤ (l[l.length - 1]'(by omega)).v ∧ l[p].t ≤ (l[l.length - 1]'(by omega)).t
  | 0, p, hp, acc, hm => by
    have e : p = l.length - 1 := by omega
    rw [List.drop_eq_nil_of_le (by omega)]
    have e2 : l[l.length - 1]'(by omega) = l[p] := by simp [e]
    refine ⟨rfl, ?_, ?_, ?_⟩
    · show acc = _; rw [e2]; omega
    · rw [e2]; omega
    · rw [e2]; omega
  | m + 1, p, hp, acc, hm => by
    have hk : p + 1 < l.length := by omega
    have a := hall (p + 1) hk
    have b := hall p hp
    obtain ⟨u1, u2⟩ := a.up p rfl
    obtain ⟨e1, e2⟩ := be_up b.s a.s a.c u1 u2
    obtain ⟨i1, i2, i3, i4⟩ := lo_ri l hall m (p + 1) hk (acc + (beC l[p] l[p + 1]).i.n) (by omega)
    rw [drop_cons hk]
    refine ⟨?_, ?_, by omega, by have := u2.2.2; omega⟩
    · show (if _ then _ else _) = _; rw [if_pos e1]; exact i1
    · show (if _ then _ else _) = _; rw [if_pos e1, i2, e2]; omega
theorem lo_fin {l : List Ev} (hl : 1 < l.length) (hall : ∀ (j : Nat) (h : j < l.length), LoAt l j h) : risE l = 0 ∧ risE [l[0]'(by omega), l[l.length - 1]'(by omega)] = 0 ∧ risN l = risN [l[0]'(by omega), l[l.length - 1]'(by omega)] := by
  obtain ⟨r1, r2⟩ := risE_two hl
  obtain ⟨i1, i2, i3, i4⟩ := lo_ri l hall (l.length - 1) 0 (by omega) 0 (by omega)
  have a1 := hall 1 hl
  obtain ⟨_, f1⟩ := a1.up 0 rfl
  have az := hall (l.length - 1) (by omega)
  obtain ⟨_, fz⟩ := az.up (l.length - 2) (by omega)
  obtain ⟨_, _, _, j4⟩ := lo_ri l hall (l.length - 1 - 1) 1 hl 0 (by omega)
  have hf : Fol (l[0]'(by omega)) (l[l.length - 1]'(by omega)) := ⟨f1.1, fz.2.1, by have := f1.2.2; omega⟩
  obtain ⟨e1, e2⟩ := be_up (hall 0 (by omega)).s az.s az.c i3 hf
  have k1 : risE [l[0]'(by omega), l[l.length - 1]'(by omega)] = 0 := by
    show (if _ then _ else _) = _; rw [if_pos e1]; rfl
  have k2 : risN [l[0]'(by omega), l[l.length - 1]'(by omega)] = 0 + (beC (l[0]'(by omega)) (l[l.length - 1]'(by omega))).i.n := by
    show (if _ then _ else _) = _; rw [if_pos e1]; rfl
  exact ⟨r1.trans i1, k1, by rw [r2, i2, k2, e2]⟩
theorem ev_row {W : World} {b o : Nat} {e e' : Ev} (he : e = e') (h : W.rangeAt b o (evA e).toList) : W.rangeAt b o (evA e').toList := he ▸ h
theorem ev_eta (e : Ev) {s : Bool} {c : Int} (hs : e.s = s) (hc : e.c = c) : e = ⟨e.t, e.v, c, s⟩ := by cases e; simp_all

set_option maxHeartbeats 4000000 in
set_option maxRecDepth 100000 in
theorem lo_e1 (ao : Option Addr) (b off cap : Nat) (l : List Ev) (hm : l.length ≤ 9223372036854775807) (h1 : l.length < 2) (w : World) (h : EvsAt w ao b off l) :
    Calls Try.prog 5 #[.slice ao l.length cap] w fun e w' => e = .returned (.bool true) ∧ Below w.heap.size w w' := by
  have hm2 : (l.length : Int) ≤ 9223372036854775807 := by omega
  have d1 : decide ((l.length : Int) < 2) = true := by simp <;> omega
  have d2 : decide (l.length < 2) = true := by simp <;> omega
  have HB := Lib.hid (Below.refl w.heap.size w)
  go_enter Try.func5, Try.ntmps5
  go_wp2_with (first
      | ((with_reducible refine at_slot 9 ?_); refine wl_call rfl rfl Try.func12 (by kernel_rfl) rfl (lives7 _) rfl ?_; intro V1 hb; replace HB := Lib.hid (below_tr HB.out hb); clear hb))
  go_ret
  exact ⟨rfl, HB.out⟩
set_option maxHeartbeats 4000000 in
set_option maxRecDepth 100000 in
theorem lo_e2 (ao : Option Addr) (b off cap : Nat) (l : List Ev) (hm : l.length ≤ 9223372036854775807) (h1 : ¬ l.length < 2) (h2 : 200 < l.length) (w : World) (h : EvsAt w ao b off l) :
    Calls Try.prog 5 #[.slice ao l.length cap] w fun e w' => e = .returned (.bool true) ∧ Below w.heap.size w w' := by
  have hm2 : (l.length : Int) ≤ 9223372036854775807 := by omega
  have d1 : decide ((l.length : Int) < 2) = false := by simp <;> omega
  have d2 : decide (l.length < 2) = false := by simp <;> omega
  have d3 : decide (200 < (l.length : Int)) = true := by simp <;> omega
  have HB := Lib.hid (Below.refl w.heap.size w)
  go_enter Try.func5, Try.ntmps5
  go_wp2_with (first
      | ((with_reducible refine at_slot 9 ?_); refine wl_call rfl rfl Try.func12 (by kernel_rfl) rfl (lives7 _) rfl ?_; intro V1 hb; replace HB := Lib.hid (below_tr HB.out hb); clear hb))
  go_ret
  exact ⟨rfl, HB.out⟩
set_option maxHeartbeats 4000000 in
set_option maxRecDepth 100000 in
theorem lo_main (ao : Option Addr) (b off cap : Nat) (l : List Ev) (h1 : ¬ l.length < 2) (h2 : ¬ 200 < l.length) (w : World) (h : EvsAt w ao b off l) :
    Calls Try.prog 5 #[.slice ao l.length cap] w fun e w' => e = .returned (.bool true) ∧ Below w.heap.size w w' := by
  have d1 : decide ((l.length : Int) < 2) = false := by simp <;> omega
  have d2 : decide (l.length < 2) = false := by simp <;> omega
  have d3 : decide (200 < (l.length : Int)) = false := by simp <;> omega
  obtain ⟨rfl, hbw⟩ := h.at_ (by omega)
  have hl' : (l.length : Int) ≤ 200 := by omega
  have HL := Lib.hid h
  clear h
  have HB := Lib.hid (Below.refl w.heap.size w)
  go_enter Try.func5, Try.ntmps5
  go_wp2_with (first
      | ((with_reducible refine at_slot 9 ?_); refine wl_call rfl rfl Try.func12 (by kernel_rfl) rfl (lives7 _) rfl ?_; intro V1 hb; replace HB := Lib.hid (below_tr HB.out hb); clear hb))
  have HI := Lib.hid (LoI.mk HB.out (fun j hj h0 => by omega) : LoI w _ l 0)
  clear HB
  go_loopw [21] (fun i wr => ∃ k : Nat, k ≤ l.length ∧ i = .int .i64 k ∧ LoI w wr l k) (fun i _ => l.length - (intOf i).toNat)
  case atStart => exact ⟨0, Nat.zero_le _, rfl, HI.out⟩
  case round =>
    obtain ⟨k, hk, rfl, hI⟩ := hrel
    clear HI
    have HB := Lib.hid hI.below
    have HI := Lib.hid hI
    clear hI
    by_cases hlt : k < l.length
    · have HLT := Lib.hid hlt
      have hltI : (k : Int) < l.length := by omega
      obtain ⟨t, ht⟩ : ∃ t, t = l[k].t := ⟨_, rfl⟩
      obtain ⟨v, hv⟩ : ∃ v, v = l[k].v := ⟨_, rfl⟩
      cases hs : l[k].s with
      | true =>
          obtain ⟨c, hc⟩ : ∃ c, l[k].c = c := ⟨_, rfl⟩
          have HE : Hid (l[k] = ⟨t, v, c, true⟩) := Lib.hid (by rw [ht, hv]; exact ev_eta _ hs hc)
          clear hs hc ht hv
          go_wp2_with (first
              | ((with_reducible refine at_slot 25 ?_); refine wl_ldr (B := (evA ⟨t, v, c, true⟩)) rfl rfl rfl (ev_row HE.out ((HL.out.keep HB.out).row k HLT.out)) Try.underlying24 rfl evInfo ?_)
              | ((with_reducible refine at_slot 4 ?_); refine wl_alloc (A := (evA zeroEv)) rfl rfl ev_zero rfl ?_; intro W1 g1 k1 hb hle; have L1 := Lib.hid (Nat.le_trans HB.out.size hle); replace HB := Lib.hid (below_tr HB.out hb); clear hb hle)
              | ((with_reducible refine at_store 4 ?_); refine wl_st0 (A' := (evA ⟨t, v, c, true⟩)) rfl rfl rfl rfl k1 rfl evInfo (evA_one ⟨t, v, c, true⟩) ?_; intro V2 kn hu; replace HB := Lib.hid (upd_below HB.out hu L1.out); clear k1; have k1 : Blk _ g1 _ (evA ⟨t, v, c, true⟩) := kn; clear kn hu))
          refine wp_region_held_drew (S := fun w' => Blk w' g1 24 (evA ⟨t, v, c, true⟩) ∧ Below w.heap.size w w') (by kernel_rfl) ⟨k1.drew, HB.out.drew⟩ (fun hS => ?_)
          clear k1
          have hS2 := hS
          obtain ⟨k1, hB⟩ := hS2
          replace HB := Lib.hid hB
          clear hB
          refine wpAnyH_take (i := 0) (oi := ⟨some 26, _, _, _, _, _⟩) (v := .pointer (some ⟨g1, 3, none⟩)) rfl (by kernel_rfl) (by kernel_rfl) (by kernel_rfl) (fun _ _ _ h => h) (yi_ok rfl (fun _ => by go_simp)) hS ?_
          simp only [Act.put, List.setIfInBounds_toArray, List.set_cons_zero, List.set_cons_succ]
          refine wpAnyH_take (i := 1) (oi := ⟨some 27, _, _, _, _, _⟩) (v := .bool true) rfl (by kernel_rfl) (by kernel_rfl) (by kernel_rfl) (fun _ _ _ h => h) (yi_ld1 (v := .bool true) rfl rfl rfl (fun w' h => h.1) Try.underlying4 rfl rfl) hS ?_
          simp only [Act.put, List.setIfInBounds_toArray, List.set_cons_zero, List.set_cons_succ]
          refine wpAnyH_take (i := 2) (oi := ⟨some 28, _, _, _, _, _⟩) (v := .bool true) rfl (by kernel_rfl) (by kernel_rfl) (by kernel_rfl) (fun _ _ _ h => h) (yi_mv (Or.inl rfl) rfl rfl) hS ?_
          simp only [Act.put, List.setIfInBounds_toArray, List.set_cons_zero, List.set_cons_succ]
          refine wpAnyH_take (i := 3) (oi := ⟨some 29, _, _, _, _, _⟩) (v := undef) rfl (by kernel_rfl) (by kernel_rfl) (by kernel_rfl) (fun _ _ _ h => h) (yi_no (by kernel_rfl)) hS ?_
          simp only [Act.put, List.setIfInBounds_toArray, List.set_cons_zero, List.set_cons_succ]
          refine wpAnyH_take (i := 4) (oi := ⟨some 30, _, _, _, _, _⟩) (v := undef) rfl (by kernel_rfl) (by kernel_rfl) (by kernel_rfl) (fun _ _ _ h => h) (yi_no (by kernel_rfl)) hS ?_
          simp only [Act.put, List.setIfInBounds_toArray, List.set_cons_zero, List.set_cons_succ]
          refine wpAnyH_take (i := 5) (oi := ⟨some 31, _, _, _, _, _⟩) (v := undef) rfl (by kernel_rfl) (by kernel_rfl) (by kernel_rfl) (fun _ _ _ h => h) (yi_no (by kernel_rfl)) hS ?_
          simp only [Act.put, List.setIfInBounds_toArray, List.set_cons_zero, List.set_cons_succ]
          refine wpAnyH_take (i := 6) (oi := ⟨some 32, _, _, _, _, _⟩) (v := .bool true) rfl (by kernel_rfl) (by kernel_rfl) (by kernel_rfl) (fun _ _ _ h => h) (yi_pick1 rfl rfl rfl rfl) hS ?_
          simp only [Act.put, List.setIfInBounds_toArray, List.set_cons_zero, List.set_cons_succ]
          refine wpAnyH_take (i := 7) (oi := ⟨some 33, _, _, _, _, _⟩) (v := .bool true) rfl (by kernel_rfl) (by kernel_rfl) (by kernel_rfl) (fun _ _ _ h => h) (yi_mv (Or.inl rfl) rfl rfl) hS ?_
          simp only [Act.put, List.setIfInBounds_toArray, List.set_cons_zero, List.set_cons_succ]
          refine wpAnyH_take (i := 8) (oi := ⟨some 34, _, _, _, _, _⟩) (v := undef) rfl (by kernel_rfl) (by kernel_rfl) (by kernel_rfl) (fun _ _ _ h => h) (yi_no (by kernel_rfl)) hS ?_
          simp only [Act.put, List.setIfInBounds_toArray, List.set_cons_zero, List.set_cons_succ]
          refine wpAnyH_take (i := 9) (oi := ⟨some 35, _, _, _, _, _⟩) (v := undef) rfl (by kernel_rfl) (by kernel_rfl) (by kernel_rfl) (fun _ _ _ h => h) (yi_no (by kernel_rfl)) hS ?_
          simp only [Act.put, List.setIfInBounds_toArray, List.set_cons_zero, List.set_cons_succ]
          refine wpAnyH_take (i := 10) (oi := ⟨some 36, _, _, _, _, _⟩) (v := undef) rfl (by kernel_rfl) (by kernel_rfl) (by kernel_rfl) (fun _ _ _ h => h) (yi_no (by kernel_rfl)) hS ?_
          simp only [Act.put, List.setIfInBounds_toArray, List.set_cons_zero, List.set_cons_succ]
          refine wpAnyH_take (i := 11) (oi := ⟨some 37, _, _, _, _, _⟩) (v := undef) rfl (by kernel_rfl) (by kernel_rfl) (by kernel_rfl) (fun _ _ _ h => h) (yi_no (by kernel_rfl)) hS ?_
          simp only [Act.put, List.setIfInBounds_toArray, List.set_cons_zero, List.set_cons_succ]
          refine wpAnyH_take (i := 12) (oi := ⟨some 38, _, _, _, _, _⟩) (v := undef) rfl (by kernel_rfl) (by kernel_rfl) (by kernel_rfl) (fun _ _ _ h => h) (yi_no (by kernel_rfl)) hS ?_
          simp only [Act.put, List.setIfInBounds_toArray, List.set_cons_zero, List.set_cons_succ]
          refine wpAnyH_take (i := 13) (oi := ⟨some 39, _, _, _, _, _⟩) (v := undef) rfl (by kernel_rfl) (by kernel_rfl) (by kernel_rfl) (fun _ _ _ h => h) (yi_no (by kernel_rfl)) hS ?_
          simp only [Act.put, List.setIfInBounds_toArray, List.set_cons_zero, List.set_cons_succ]
          refine wpAnyH_take (i := 14) (oi := ⟨some 40, _, _, _, _, _⟩) (v := undef) rfl (by kernel_rfl) (by kernel_rfl) (by kernel_rfl) (fun _ _ _ h => h) (yi_no (by kernel_rfl)) hS ?_
          simp only [Act.put, List.setIfInBounds_toArray, List.set_cons_zero, List.set_cons_succ]
          refine wpAnyH_take (i := 15) (oi := ⟨some 41, _, _, _, _, _⟩) (v := undef) rfl (by kernel_rfl) (by kernel_rfl) (by kernel_rfl) (fun _ _ _ h => h) (yi_no (by kernel_rfl)) hS ?_
          simp only [Act.put, List.setIfInBounds_toArray, List.set_cons_zero, List.set_cons_succ]
          refine wpAnyH_take (i := 16) (oi := ⟨some 42, _, _, _, _, _⟩) (v := undef) rfl (by kernel_rfl) (by kernel_rfl) (by kernel_rfl) (fun _ _ _ h => h) (yi_no (by kernel_rfl)) hS ?_
          simp only [Act.put, List.setIfInBounds_toArray, List.set_cons_zero, List.set_cons_succ]
          refine wpAnyH_take (i := 17) (oi := ⟨some 43, _, _, _, _, _⟩) (v := undef) rfl (by kernel_rfl) (by kernel_rfl) (by kernel_rfl) (fun _ _ _ h => h) (yi_no (by kernel_rfl)) hS ?_
          simp only [Act.put, List.setIfInBounds_toArray, List.set_cons_zero, List.set_cons_succ]
          refine wpAnyH_take (i := 18) (oi := ⟨some 44, _, _, _, _, _⟩) (v := undef) rfl (by kernel_rfl) (by kernel_rfl) (by kernel_rfl) (fun _ _ _ h => h) (yi_no (by kernel_rfl)) hS ?_
          simp only [Act.put, List.setIfInBounds_toArray, List.set_cons_zero, List.set_cons_succ]
          refine wpAnyH_take (i := 19) (oi := ⟨some 45, _, _, _, _, _⟩) (v := undef) rfl (by kernel_rfl) (by kernel_rfl) (by kernel_rfl) (fun _ _ _ h => h) (yi_no (by kernel_rfl)) hS ?_
          simp only [Act.put, List.setIfInBounds_toArray, List.set_cons_zero, List.set_cons_succ]
          refine wpAnyH_take (i := 20) (oi := ⟨some 46, _, _, _, _, _⟩) (v := undef) rfl (by kernel_rfl) (by kernel_rfl) (by kernel_rfl) (fun _ _ _ h => h) (yi_no (by kernel_rfl)) hS ?_
          simp only [Act.put, List.setIfInBounds_toArray, List.set_cons_zero, List.set_cons_succ]
          refine wpAnyH_take (i := 21) (oi := ⟨some 47, _, _, _, _, _⟩) (v := undef) rfl (by kernel_rfl) (by kernel_rfl) (by kernel_rfl) (fun _ _ _ h => h) (yi_no (by kernel_rfl)) hS ?_
          simp only [Act.put, List.setIfInBounds_toArray, List.set_cons_zero, List.set_cons_succ]
          refine wpAnyH_take (i := 22) (oi := ⟨some 48, _, _, _, _, _⟩) (v := undef) rfl (by kernel_rfl) (by kernel_rfl) (by kernel_rfl) (fun _ _ _ h => h) (yi_no (by kernel_rfl)) hS ?_
          simp only [Act.put, List.setIfInBounds_toArray, List.set_cons_zero, List.set_cons_succ]
          refine wpAnyH_take (i := 23) (oi := ⟨some 49, _, _, _, _, _⟩) (v := undef) rfl (by kernel_rfl) (by kernel_rfl) (by kernel_rfl) (fun _ _ _ h => h) (yi_no (by kernel_rfl)) hS ?_
          simp only [Act.put, List.setIfInBounds_toArray, List.set_cons_zero, List.set_cons_succ]
          refine wpAnyH_take (i := 24) (oi := ⟨some 50, _, _, _, _, _⟩) (v := undef) rfl (by kernel_rfl) (by kernel_rfl) (by kernel_rfl) (fun _ _ _ h => h) (yi_no (by kernel_rfl)) hS ?_
          simp only [Act.put, List.setIfInBounds_toArray, List.set_cons_zero, List.set_cons_succ]
          refine wpAnyH_take (i := 25) (oi := ⟨some 51, _, _, _, _, _⟩) (v := undef) rfl (by kernel_rfl) (by kernel_rfl) (by kernel_rfl) (fun _ _ _ h => h) (yi_no (by kernel_rfl)) hS ?_
          simp only [Act.put, List.setIfInBounds_toArray, List.set_cons_zero, List.set_cons_succ]
          refine wpAnyH_take (i := 26) (oi := ⟨some 52, _, _, _, _, _⟩) (v := undef) rfl (by kernel_rfl) (by kernel_rfl) (by kernel_rfl) (fun _ _ _ h => h) (yi_no (by kernel_rfl)) hS ?_
          simp only [Act.put, List.setIfInBounds_toArray, List.set_cons_zero, List.set_cons_succ]
          refine wpAnyH_take (i := 27) (oi := ⟨some 53, _, _, _, _, _⟩) (v := undef) rfl (by kernel_rfl) (by kernel_rfl) (by kernel_rfl) (fun _ _ _ h => h) (yi_no (by kernel_rfl)) hS ?_
          simp only [Act.put, List.setIfInBounds_toArray, List.set_cons_zero, List.set_cons_succ]
          refine wpAnyH_take (i := 28) (oi := ⟨some 54, _, _, _, _, _⟩) (v := undef) rfl (by kernel_rfl) (by kernel_rfl) (by kernel_rfl) (fun _ _ _ h => h) (yi_no (by kernel_rfl)) hS ?_
          simp only [Act.put, List.setIfInBounds_toArray, List.set_cons_zero, List.set_cons_succ]
          refine wpAnyH_take (i := 29) (oi := ⟨some 55, _, _, _, _, _⟩) (v := undef) rfl (by kernel_rfl) (by kernel_rfl) (by kernel_rfl) (fun _ _ _ h => h) (yi_no (by kernel_rfl)) hS ?_
          simp only [Act.put, List.setIfInBounds_toArray, List.set_cons_zero, List.set_cons_succ]
          refine wpAnyH_take (i := 30) (oi := ⟨some 56, _, _, _, _, _⟩) (v := undef) rfl (by kernel_rfl) (by kernel_rfl) (by kernel_rfl) (fun _ _ _ h => h) (yi_no (by kernel_rfl)) hS ?_
          simp only [Act.put, List.setIfInBounds_toArray, List.set_cons_zero, List.set_cons_succ]
          refine wpAnyH_take (i := 31) (oi := ⟨some 57, _, _, _, _, _⟩) (v := .bool true) rfl (by kernel_rfl) (by kernel_rfl) (by kernel_rfl) (fun _ _ _ h => h) (yi_pick1 rfl rfl rfl rfl) hS ?_
          simp only [Act.put, List.setIfInBounds_toArray, List.set_cons_zero, List.set_cons_succ]
          refine wpAnyH_done (by kernel_rfl) ?_ _
          clear hS
          go_wp2_with fail
          go_ret
          exact ⟨rfl, HB.out⟩
      | false =>
          by_cases hc : l[k].c = 0
          · have HE : Hid (l[k] = ⟨t, v, 0, false⟩) := Lib.hid (by rw [ht, hv]; exact ev_eta _ hs hc)
            have HS := Lib.hid hs
            have HC := Lib.hid hc
            have HV := Lib.hid hv
            clear hs hc ht hv
            by_cases hk0 : k = 0
            · subst hk0
              go_wp2_with (first
                  | ((with_reducible refine at_slot 25 ?_); refine wl_ldr (B := (evA ⟨t, v, 0, false⟩)) rfl rfl rfl (ev_row HE.out ((HL.out.keep HB.out).row 0 HLT.out)) Try.underlying24 rfl evInfo ?_)
                  | ((with_reducible refine at_slot 4 ?_); refine wl_alloc (A := (evA zeroEv)) rfl rfl ev_zero rfl ?_; intro W1 g1 k1 hb hle; have L1 := Lib.hid (Nat.le_trans HB.out.size hle); replace HB := Lib.hid (below_tr HB.out hb); clear hb hle)
                  | ((with_reducible refine at_store 4 ?_); refine wl_st0 (A' := (evA ⟨t, v, 0, false⟩)) rfl rfl rfl rfl k1 rfl evInfo (evA_one ⟨t, v, 0, false⟩) ?_; intro V2 kn hu; replace HB := Lib.hid (upd_below HB.out hu L1.out); clear k1; have k1 : Blk _ g1 _ (evA ⟨t, v, 0, false⟩) := kn; clear kn hu))
              refine wp_region_held_drew (S := fun w' => Blk w' g1 24 (evA ⟨t, v, 0, false⟩) ∧ Below w.heap.size w w') (by kernel_rfl) ⟨k1.drew, HB.out.drew⟩ (fun hS => ?_)
              clear k1
              have hS2 := hS
              obtain ⟨k1, hB⟩ := hS2
              replace HB := Lib.hid hB
              clear hB
              refine wpAnyH_take (i := 0) (oi := ⟨some 26, _, _, _, _, _⟩) (v := .pointer (some ⟨g1, 3, none⟩)) rfl (by kernel_rfl) (by kernel_rfl) (by kernel_rfl) (fun _ _ _ h => h) (yi_ok rfl (fun _ => by go_simp)) hS ?_
              simp only [Act.put, List.setIfInBounds_toArray, List.set_cons_zero, List.set_cons_succ]
              refine wpAnyH_take (i := 1) (oi := ⟨some 27, _, _, _, _, _⟩) (v := .bool false) rfl (by kernel_rfl) (by kernel_rfl) (by kernel_rfl) (fun _ _ _ h => h) (yi_ld1 (v := .bool false) rfl rfl rfl (fun w' h => h.1) Try.underlying4 rfl rfl) hS ?_
              simp only [Act.put, List.setIfInBounds_toArray, List.set_cons_zero, List.set_cons_succ]
              refine wpAnyH_take (i := 2) (oi := ⟨some 28, _, _, _, _, _⟩) (v := .bool false) rfl (by kernel_rfl) (by kernel_rfl) (by kernel_rfl) (fun _ _ _ h => h) (yi_mv (Or.inl rfl) rfl rfl) hS ?_
              simp only [Act.put, List.setIfInBounds_toArray, List.set_cons_zero, List.set_cons_succ]
              refine wpAnyH_take (i := 3) (oi := ⟨some 29, _, _, _, _, _⟩) (v := .pointer (some ⟨g1, 2, none⟩)) rfl (by kernel_rfl) (by kernel_rfl) (by kernel_rfl) (fun _ _ _ h => h) (yi_ok (by kernel_rfl) (fun _ => by go_simp)) hS ?_
              simp only [Act.put, List.setIfInBounds_toArray, List.set_cons_zero, List.set_cons_succ]
              refine wpAnyH_take (i := 4) (oi := ⟨some 30, _, _, _, _, _⟩) (v := .int .i64 0) rfl (by kernel_rfl) (by kernel_rfl) (by kernel_rfl) (fun _ _ _ h => h) (yi_ld1 (v := .int .i64 0) rfl (by kernel_rfl) rfl (fun w' h => h.1) Try.underlying2 rfl rfl) hS ?_
              simp only [Act.put, List.setIfInBounds_toArray, List.set_cons_zero, List.set_cons_succ]
              refine wpAnyH_take (i := 5) (oi := ⟨some 31, _, _, _, _, _⟩) (v := .bool false) rfl (by kernel_rfl) (by kernel_rfl) (by kernel_rfl) (fun _ _ _ h => h) (yi_ok (by kernel_rfl) (fun _ => by go_simp)) hS ?_
              simp only [Act.put, List.setIfInBounds_toArray, List.set_cons_zero, List.set_cons_succ]
              refine wpAnyH_take (i := 6) (oi := ⟨some 32, _, _, _, _, _⟩) (v := .bool false) rfl (by kernel_rfl) (by kernel_rfl) (by kernel_rfl) (fun _ _ _ h => h) (yi_pick0 rfl rfl rfl rfl) hS ?_
              simp only [Act.put, List.setIfInBounds_toArray, List.set_cons_zero, List.set_cons_succ]
              refine wpAnyH_take (i := 7) (oi := ⟨some 33, _, _, _, _, _⟩) (v := .bool false) rfl (by kernel_rfl) (by kernel_rfl) (by kernel_rfl) (fun _ _ _ h => h) (yi_mv (Or.inl rfl) rfl rfl) hS ?_
              simp only [Act.put, List.setIfInBounds_toArray, List.set_cons_zero, List.set_cons_succ]
              refine wpAnyH_take (i := 8) (oi := ⟨some 34, _, _, _, _, _⟩) (v := .int .i64 0) rfl (by kernel_rfl) (by kernel_rfl) (by kernel_rfl) (fun _ _ _ h => h) (yi_mv (Or.inl rfl) (by kernel_rfl) rfl) hS ?_
              simp only [Act.put, List.setIfInBounds_toArray, List.set_cons_zero, List.set_cons_succ]
              refine wpAnyH_take (i := 9) (oi := ⟨some 35, _, _, _, _, _⟩) (v := .bool false) rfl (by kernel_rfl) (by kernel_rfl) (by kernel_rfl) (fun _ _ _ h => h) (yi_ok (by kernel_rfl) (fun _ => by go_simp)) hS ?_
              simp only [Act.put, List.setIfInBounds_toArray, List.set_cons_zero, List.set_cons_succ]
              refine wpAnyH_take (i := 10) (oi := ⟨some 36, _, _, _, _, _⟩) (v := .bool false) rfl (by kernel_rfl) (by kernel_rfl) (by kernel_rfl) (fun _ _ _ h => h) (yi_mv (Or.inl rfl) (by kernel_rfl) rfl) hS ?_
              simp only [Act.put, List.setIfInBounds_toArray, List.set_cons_zero, List.set_cons_succ]
              refine wpAnyH_take (i := 11) (oi := ⟨some 37, _, _, _, _, _⟩) (v := undef) rfl (by kernel_rfl) (by kernel_rfl) (by kernel_rfl) (fun _ _ _ h => h) (yi_no (by kernel_rfl)) hS ?_
              simp only [Act.put, List.setIfInBounds_toArray, List.set_cons_zero, List.set_cons_succ]
              refine wpAnyH_take (i := 12) (oi := ⟨some 38, _, _, _, _, _⟩) (v := undef) rfl (by kernel_rfl) (by kernel_rfl) (by kernel_rfl) (fun _ _ _ h => h) (yi_no (by kernel_rfl)) hS ?_
              simp only [Act.put, List.setIfInBounds_toArray, List.set_cons_zero, List.set_cons_succ]
              refine wpAnyH_take (i := 13) (oi := ⟨some 39, _, _, _, _, _⟩) (v := undef) rfl (by kernel_rfl) (by kernel_rfl) (by kernel_rfl) (fun _ _ _ h => h) (yi_no (by kernel_rfl)) hS ?_
              simp only [Act.put, List.setIfInBounds_toArray, List.set_cons_zero, List.set_cons_succ]
              refine wpAnyH_take (i := 14) (oi := ⟨some 40, _, _, _, _, _⟩) (v := undef) rfl (by kernel_rfl) (by kernel_rfl) (by kernel_rfl) (fun _ _ _ h => h) (yi_no (by kernel_rfl)) hS ?_
              simp only [Act.put, List.setIfInBounds_toArray, List.set_cons_zero, List.set_cons_succ]
              refine wpAnyH_take (i := 15) (oi := ⟨some 41, _, _, _, _, _⟩) (v := undef) rfl (by kernel_rfl) (by kernel_rfl) (by kernel_rfl) (fun _ _ _ h => h) (yi_no (by kernel_rfl)) hS ?_
              simp only [Act.put, List.setIfInBounds_toArray, List.set_cons_zero, List.set_cons_succ]
              refine wpAnyH_take (i := 16) (oi := ⟨some 42, _, _, _, _, _⟩) (v := undef) rfl (by kernel_rfl) (by kernel_rfl) (by kernel_rfl) (fun _ _ _ h => h) (yi_no (by kernel_rfl)) hS ?_
              simp only [Act.put, List.setIfInBounds_toArray, List.set_cons_zero, List.set_cons_succ]
              refine wpAnyH_take (i := 17) (oi := ⟨some 43, _, _, _, _, _⟩) (v := undef) rfl (by kernel_rfl) (by kernel_rfl) (by kernel_rfl) (fun _ _ _ h => h) (yi_no (by kernel_rfl)) hS ?_
              simp only [Act.put, List.setIfInBounds_toArray, List.set_cons_zero, List.set_cons_succ]
              refine wpAnyH_take (i := 18) (oi := ⟨some 44, _, _, _, _, _⟩) (v := undef) rfl (by kernel_rfl) (by kernel_rfl) (by kernel_rfl) (fun _ _ _ h => h) (yi_no (by kernel_rfl)) hS ?_
              simp only [Act.put, List.setIfInBounds_toArray, List.set_cons_zero, List.set_cons_succ]
              refine wpAnyH_take (i := 19) (oi := ⟨some 45, _, _, _, _, _⟩) (v := undef) rfl (by kernel_rfl) (by kernel_rfl) (by kernel_rfl) (fun _ _ _ h => h) (yi_no (by kernel_rfl)) hS ?_
              simp only [Act.put, List.setIfInBounds_toArray, List.set_cons_zero, List.set_cons_succ]
              refine wpAnyH_take (i := 20) (oi := ⟨some 46, _, _, _, _, _⟩) (v := undef) rfl (by kernel_rfl) (by kernel_rfl) (by kernel_rfl) (fun _ _ _ h => h) (yi_no (by kernel_rfl)) hS ?_
              simp only [Act.put, List.setIfInBounds_toArray, List.set_cons_zero, List.set_cons_succ]
              refine wpAnyH_take (i := 21) (oi := ⟨some 47, _, _, _, _, _⟩) (v := undef) rfl (by kernel_rfl) (by kernel_rfl) (by kernel_rfl) (fun _ _ _ h => h) (yi_no (by kernel_rfl)) hS ?_
              simp only [Act.put, List.setIfInBounds_toArray, List.set_cons_zero, List.set_cons_succ]
              refine wpAnyH_take (i := 22) (oi := ⟨some 48, _, _, _, _, _⟩) (v := undef) rfl (by kernel_rfl) (by kernel_rfl) (by kernel_rfl) (fun _ _ _ h => h) (yi_no (by kernel_rfl)) hS ?_
              simp only [Act.put, List.setIfInBounds_toArray, List.set_cons_zero, List.set_cons_succ]
              refine wpAnyH_take (i := 23) (oi := ⟨some 49, _, _, _, _, _⟩) (v := undef) rfl (by kernel_rfl) (by kernel_rfl) (by kernel_rfl) (fun _ _ _ h => h) (yi_no (by kernel_rfl)) hS ?_
              simp only [Act.put, List.setIfInBounds_toArray, List.set_cons_zero, List.set_cons_succ]
              refine wpAnyH_take (i := 24) (oi := ⟨some 50, _, _, _, _, _⟩) (v := undef) rfl (by kernel_rfl) (by kernel_rfl) (by kernel_rfl) (fun _ _ _ h => h) (yi_no (by kernel_rfl)) hS ?_
              simp only [Act.put, List.setIfInBounds_toArray, List.set_cons_zero, List.set_cons_succ]
              refine wpAnyH_take (i := 25) (oi := ⟨some 51, _, _, _, _, _⟩) (v := undef) rfl (by kernel_rfl) (by kernel_rfl) (by kernel_rfl) (fun _ _ _ h => h) (yi_no (by kernel_rfl)) hS ?_
              simp only [Act.put, List.setIfInBounds_toArray, List.set_cons_zero, List.set_cons_succ]
              refine wpAnyH_take (i := 26) (oi := ⟨some 52, _, _, _, _, _⟩) (v := undef) rfl (by kernel_rfl) (by kernel_rfl) (by kernel_rfl) (fun _ _ _ h => h) (yi_no (by kernel_rfl)) hS ?_
              simp only [Act.put, List.setIfInBounds_toArray, List.set_cons_zero, List.set_cons_succ]
              refine wpAnyH_take (i := 27) (oi := ⟨some 53, _, _, _, _, _⟩) (v := undef) rfl (by kernel_rfl) (by kernel_rfl) (by kernel_rfl) (fun _ _ _ h => h) (yi_no (by kernel_rfl)) hS ?_
              simp only [Act.put, List.setIfInBounds_toArray, List.set_cons_zero, List.set_cons_succ]
              refine wpAnyH_take (i := 28) (oi := ⟨some 54, _, _, _, _, _⟩) (v := undef) rfl (by kernel_rfl) (by kernel_rfl) (by kernel_rfl) (fun _ _ _ h => h) (yi_no (by kernel_rfl)) hS ?_
              simp only [Act.put, List.setIfInBounds_toArray, List.set_cons_zero, List.set_cons_succ]
              refine wpAnyH_take (i := 29) (oi := ⟨some 55, _, _, _, _, _⟩) (v := undef) rfl (by kernel_rfl) (by kernel_rfl) (by kernel_rfl) (fun _ _ _ h => h) (yi_no (by kernel_rfl)) hS ?_
              simp only [Act.put, List.setIfInBounds_toArray, List.set_cons_zero, List.set_cons_succ]
              refine wpAnyH_take (i := 30) (oi := ⟨some 56, _, _, _, _, _⟩) (v := .bool false) rfl (by kernel_rfl) (by kernel_rfl) (by kernel_rfl) (fun _ _ _ h => h) (yi_pick0 rfl (by kernel_rfl) rfl rfl) hS ?_
              simp only [Act.put, List.setIfInBounds_toArray, List.set_cons_zero, List.set_cons_succ]
              refine wpAnyH_take (i := 31) (oi := ⟨some 57, _, _, _, _, _⟩) (v := .bool false) rfl (by kernel_rfl) (by kernel_rfl) (by kernel_rfl) (fun _ _ _ h => h) (yi_pick0 rfl rfl rfl rfl) hS ?_
              simp only [Act.put, List.setIfInBounds_toArray, List.set_cons_zero, List.set_cons_succ]
              refine wpAnyH_done (by kernel_rfl) ?_ _
              clear hS
              go_wp2_with fail
              go_roundw
              case rel => exact ⟨0 + 1, HLT.out, by go_num, HI.out.next HB.out HLT.out ⟨HS.out, HC.out, fun p hp => by omega⟩⟩
              case measure => simp [intOf]; omega
            · obtain ⟨p, rfl⟩ : ∃ p, k = p + 1 := ⟨k - 1, by omega⟩
              have HP : Hid (p < l.length) := Lib.hid (by omega)
              have i1 : ((p + 1 : Nat) : Int) = (p : Int) + 1 := by omega
              have i2 : IntKind.i64.wrap (p : Int) = (p : Int) := by rw [IntKind.wrap_i64]; omega
              have i3 : (p : Int) < l.length := by omega
              clear hk0
              by_cases hlow : v < l[p].v
              · have dL : decide (v < l[p].v) = true := by simp; exact hlow
                clear hlow
                go_wp2_with (first
                    | ((with_reducible refine at_slot 25 ?_); refine wl_ldr (B := (evA ⟨t, v, 0, false⟩)) rfl rfl rfl (ev_row HE.out ((HL.out.keep HB.out).row (p + 1) HLT.out)) Try.underlying24 rfl evInfo ?_)
                    | ((with_reducible refine at_slot 4 ?_); refine wl_alloc (A := (evA zeroEv)) rfl rfl ev_zero rfl ?_; intro W1 g1 k1 hb hle; have L1 := Lib.hid (Nat.le_trans HB.out.size hle); replace HB := Lib.hid (below_tr HB.out hb); clear hb hle)
                    | ((with_reducible refine at_store 4 ?_); refine wl_st0 (A' := (evA ⟨t, v, 0, false⟩)) rfl rfl rfl rfl k1 rfl evInfo (evA_one ⟨t, v, 0, false⟩) ?_; intro V2 kn hu; replace HB := Lib.hid (upd_below HB.out hu L1.out); clear k1; have k1 : Blk _ g1 _ (evA ⟨t, v, 0, false⟩) := kn; clear kn hu))
                refine wp_region_held_drew (S := fun w' => Blk w' g1 24 (evA ⟨t, v, 0, false⟩) ∧ Below w.heap.size w w') (by kernel_rfl) ⟨k1.drew, HB.out.drew⟩ (fun hS => ?_)
                clear k1
                have hS2 := hS
                obtain ⟨k1, hB⟩ := hS2
                replace HB := Lib.hid hB
                clear hB
                refine wpAnyH_take (i := 0) (oi := ⟨some 26, _, _, _, _, _⟩) (v := .pointer (some ⟨g1, 3, none⟩)) rfl (by kernel_rfl) (by kernel_rfl) (by kernel_rfl) (fun _ _ _ h => h) (yi_ok rfl (fun _ => by go_simp)) hS ?_
                simp only [Act.put, List.setIfInBounds_toArray, List.set_cons_zero, List.set_cons_succ]
                refine wpAnyH_take (i := 1) (oi := ⟨some 27, _, _, _, _, _⟩) (v := .bool false) rfl (by kernel_rfl) (by kernel_rfl) (by kernel_rfl) (fun _ _ _ h => h) (yi_ld1 (v := .bool false) rfl rfl rfl (fun w' h => h.1) Try.underlying4 rfl rfl) hS ?_
                simp only [Act.put, List.setIfInBounds_toArray, List.set_cons_zero, List.set_cons_succ]
                refine wpAnyH_take (i := 2) (oi := ⟨some 28, _, _, _, _, _⟩) (v := .bool false) rfl (by kernel_rfl) (by kernel_rfl) (by kernel_rfl) (fun _ _ _ h => h) (yi_mv (Or.inl rfl) rfl rfl) hS ?_
                simp only [Act.put, List.setIfInBounds_toArray, List.set_cons_zero, List.set_cons_succ]
                refine wpAnyH_take (i := 3) (oi := ⟨some 29, _, _, _, _, _⟩) (v := .pointer (some ⟨g1, 2, none⟩)) rfl (by kernel_rfl) (by kernel_rfl) (by kernel_rfl) (fun _ _ _ h => h) (yi_ok (by kernel_rfl) (fun _ => by go_simp)) hS ?_
                simp only [Act.put, List.setIfInBounds_toArray, List.set_cons_zero, List.set_cons_succ]
                refine wpAnyH_take (i := 4) (oi := ⟨some 30, _, _, _, _, _⟩) (v := .int .i64 0) rfl (by kernel_rfl) (by kernel_rfl) (by kernel_rfl) (fun _ _ _ h => h) (yi_ld1 (v := .int .i64 0) rfl (by kernel_rfl) rfl (fun w' h => h.1) Try.underlying2 rfl rfl) hS ?_
                simp only [Act.put, List.setIfInBounds_toArray, List.set_cons_zero, List.set_cons_succ]
                refine wpAnyH_take (i := 5) (oi := ⟨some 31, _, _, _, _, _⟩) (v := .bool false) rfl (by kernel_rfl) (by kernel_rfl) (by kernel_rfl) (fun _ _ _ h => h) (yi_ok (by kernel_rfl) (fun _ => by go_simp)) hS ?_
                simp only [Act.put, List.setIfInBounds_toArray, List.set_cons_zero, List.set_cons_succ]
                refine wpAnyH_take (i := 6) (oi := ⟨some 32, _, _, _, _, _⟩) (v := .bool false) rfl (by kernel_rfl) (by kernel_rfl) (by kernel_rfl) (fun _ _ _ h => h) (yi_pick0 rfl rfl rfl rfl) hS ?_
                simp only [Act.put, List.setIfInBounds_toArray, List.set_cons_zero, List.set_cons_succ]
                refine wpAnyH_take (i := 7) (oi := ⟨some 33, _, _, _, _, _⟩) (v := .bool false) rfl (by kernel_rfl) (by kernel_rfl) (by kernel_rfl) (fun _ _ _ h => h) (yi_mv (Or.inl rfl) rfl rfl) hS ?_
                simp only [Act.put, List.setIfInBounds_toArray, List.set_cons_zero, List.set_cons_succ]
                refine wpAnyH_take (i := 8) (oi := ⟨some 34, _, _, _, _, _⟩) (v := .int .i64 ((p + 1 : Nat) : Int)) rfl (by kernel_rfl) (by kernel_rfl) (by kernel_rfl) (fun _ _ _ h => h) (yi_mv (Or.inl rfl) (by kernel_rfl) rfl) hS ?_
                simp only [Act.put, List.setIfInBounds_toArray, List.set_cons_zero, List.set_cons_succ]
                refine wpAnyH_take (i := 9) (oi := ⟨some 35, _, _, _, _, _⟩) (v := .bool true) rfl (by kernel_rfl) (by kernel_rfl) (by kernel_rfl) (fun _ _ _ h => h) (yi_ok (by kernel_rfl) (fun _ => by go_simp)) hS ?_
                simp only [Act.put, List.setIfInBounds_toArray, List.set_cons_zero, List.set_cons_succ]
                refine wpAnyH_take (i := 10) (oi := ⟨some 36, _, _, _, _, _⟩) (v := .bool true) rfl (by kernel_rfl) (by kernel_rfl) (by kernel_rfl) (fun _ _ _ h => h) (yi_mv (Or.inl rfl) (by kernel_rfl) rfl) hS ?_
                simp only [Act.put, List.setIfInBounds_toArray, List.set_cons_zero, List.set_cons_succ]
                refine wpAnyH_take (i := 11) (oi := ⟨some 37, _, _, _, _, _⟩) (v := .pointer (some ⟨g1, 1, none⟩)) rfl (by kernel_rfl) (by kernel_rfl) (by kernel_rfl) (fun _ _ _ h => h) (yi_ok (by kernel_rfl) (fun _ => by go_simp)) hS ?_
                simp only [Act.put, List.setIfInBounds_toArray, List.set_cons_zero, List.set_cons_succ]
                refine wpAnyH_take (i := 12) (oi := ⟨some 38, _, _, _, _, _⟩) (v := .int .u64 v) rfl (by kernel_rfl) (by kernel_rfl) (by kernel_rfl) (fun _ _ _ h => h) (yi_ld1 (v := .int .u64 v) rfl (by kernel_rfl) rfl (fun w' h => h.1) Try.underlying22 rfl rfl) hS ?_
                simp only [Act.put, List.setIfInBounds_toArray, List.set_cons_zero, List.set_cons_succ]
                refine wpAnyH_take (i := 13) (oi := ⟨some 39, _, _, _, _, _⟩) (v := .slice (some ⟨b, off, none⟩) l.length cap) rfl (by kernel_rfl) (by kernel_rfl) (by kernel_rfl) (fun _ _ _ h => h) (yi_mv (Or.inl rfl) (by kernel_rfl) rfl) hS ?_
                simp only [Act.put, List.setIfInBounds_toArray, List.set_cons_zero, List.set_cons_succ]
                refine wpAnyH_take (i := 14) (oi := ⟨some 40, _, _, _, _, _⟩) (v := .int .i64 ((p + 1 : Nat) : Int)) rfl (by kernel_rfl) (by kernel_rfl) (by kernel_rfl) (fun _ _ _ h => h) (yi_mv (Or.inl rfl) (by kernel_rfl) rfl) hS ?_
                simp only [Act.put, List.setIfInBounds_toArray, List.set_cons_zero, List.set_cons_succ]
                refine wpAnyH_take (i := 15) (oi := ⟨some 41, _, _, _, _, _⟩) (v := .int .i64 (p : Int)) rfl (by kernel_rfl) (by kernel_rfl) (by kernel_rfl) (fun _ _ _ h => h) (yi_ok (by kernel_rfl) (fun _ => by go_simp)) hS ?_
                simp only [Act.put, List.setIfInBounds_toArray, List.set_cons_zero, List.set_cons_succ]
                refine wpAnyH_take (i := 16) (oi := ⟨some 42, _, _, _, _, _⟩) (v := .pointer (some ⟨b, off + p * 4, none⟩)) rfl (by kernel_rfl) (by kernel_rfl) (by kernel_rfl) (fun _ _ _ h => h) (yi_ok (by kernel_rfl) (fun _ => by go_simp)) hS ?_
                simp only [Act.put, List.setIfInBounds_toArray, List.set_cons_zero, List.set_cons_succ]
                refine wpAnyH_take (i := 17) (oi := ⟨some 43, _, _, _, _, _⟩) (v := .pointer (some ⟨b, off + p * 4 + 1, none⟩)) rfl (by kernel_rfl) (by kernel_rfl) (by kernel_rfl) (fun _ _ _ h => h) (yi_ok (by kernel_rfl) (fun _ => by go_simp)) hS ?_
                simp only [Act.put, List.setIfInBounds_toArray, List.set_cons_zero, List.set_cons_succ]
                refine wpAnyH_take (i := 18) (oi := ⟨some 44, _, _, _, _, _⟩) (v := .int .u64 l[p].v) rfl (by kernel_rfl) (by kernel_rfl) (by kernel_rfl) (fun _ _ _ h => h) (yi_c rfl (by kernel_rfl) rfl (fun w' h => (ev_cells ((HL.out.keep h.2).row p HP.out)).2.1) Try.underlying22 rfl) hS ?_
                simp only [Act.put, List.setIfInBounds_toArray, List.set_cons_zero, List.set_cons_succ]
                refine wpAnyH_take (i := 19) (oi := ⟨some 45, _, _, _, _, _⟩) (v := .bool true) rfl (by kernel_rfl) (by kernel_rfl) (by kernel_rfl) (fun _ _ _ h => h) (yi_ok (by kernel_rfl) (fun _ => by go_simp)) hS ?_
                simp only [Act.put, List.setIfInBounds_toArray, List.set_cons_zero, List.set_cons_succ]
                refine wpAnyH_take (i := 20) (oi := ⟨some 46, _, _, _, _, _⟩) (v := .bool true) rfl (by kernel_rfl) (by kernel_rfl) (by kernel_rfl) (fun _ _ _ h => h) (yi_mv (Or.inl rfl) (by kernel_rfl) rfl) hS ?_
                simp only [Act.put, List.setIfInBounds_toArray, List.set_cons_zero, List.set_cons_succ]
                refine wpAnyH_take (i := 21) (oi := ⟨some 47, _, _, _, _, _⟩) (v := undef) rfl (by kernel_rfl) (by kernel_rfl) (by kernel_rfl) (fun _ _ _ h => h) (yi_no (by kernel_rfl)) hS ?_
                simp only [Act.put, List.setIfInBounds_toArray, List.set_cons_zero, List.set_cons_succ]
                refine wpAnyH_take (i := 22) (oi := ⟨some 48, _, _, _, _, _⟩) (v := undef) rfl (by kernel_rfl) (by kernel_rfl) (by kernel_rfl) (fun _ _ _ h => h) (yi_no (by kernel_rfl)) hS ?_
                simp only [Act.put, List.setIfInBounds_toArray, List.set_cons_zero, List.set_cons_succ]
                refine wpAnyH_take (i := 23) (oi := ⟨some 49, _, _, _, _, _⟩) (v := undef) rfl (by kernel_rfl) (by kernel_rfl) (by kernel_rfl) (fun _ _ _ h => h) (yi_no (by kernel_rfl)) hS ?_
                simp only [Act.put, List.setIfInBounds_toArray, List.set_cons_zero, List.set_cons_succ]
                refine wpAnyH_take (i := 24) (oi := ⟨some 50, _, _, _, _, _⟩) (v := undef) rfl (by kernel_rfl) (by kernel_rfl) (by kernel_rfl) (fun _ _ _ h => h) (yi_no (by kernel_rfl)) hS ?_
                simp only [Act.put, List.setIfInBounds_toArray, List.set_cons_zero, List.set_cons_succ]
                refine wpAnyH_take (i := 25) (oi := ⟨some 51, _, _, _, _, _⟩) (v := undef) rfl (by kernel_rfl) (by kernel_rfl) (by kernel_rfl) (fun _ _ _ h => h) (yi_no (by kernel_rfl)) hS ?_
                simp only [Act.put, List.setIfInBounds_toArray, List.set_cons_zero, List.set_cons_succ]
                refine wpAnyH_take (i := 26) (oi := ⟨some 52, _, _, _, _, _⟩) (v := undef) rfl (by kernel_rfl) (by kernel_rfl) (by kernel_rfl) (fun _ _ _ h => h) (yi_no (by kernel_rfl)) hS ?_
                simp only [Act.put, List.setIfInBounds_toArray, List.set_cons_zero, List.set_cons_succ]
                refine wpAnyH_take (i := 27) (oi := ⟨some 53, _, _, _, _, _⟩) (v := undef) rfl (by kernel_rfl) (by kernel_rfl) (by kernel_rfl) (fun _ _ _ h => h) (yi_no (by kernel_rfl)) hS ?_
                simp only [Act.put, List.setIfInBounds_toArray, List.set_cons_zero, List.set_cons_succ]
                refine wpAnyH_take (i := 28) (oi := ⟨some 54, _, _, _, _, _⟩) (v := undef) rfl (by kernel_rfl) (by kernel_rfl) (by kernel_rfl) (fun _ _ _ h => h) (yi_no (by kernel_rfl)) hS ?_
                simp only [Act.put, List.setIfInBounds_toArray, List.set_cons_zero, List.set_cons_succ]
                refine wpAnyH_take (i := 29) (oi := ⟨some 55, _, _, _, _, _⟩) (v := .bool true) rfl (by kernel_rfl) (by kernel_rfl) (by kernel_rfl) (fun _ _ _ h => h) (yi_pick1 rfl (by kernel_rfl) rfl rfl) hS ?_
                simp only [Act.put, List.setIfInBounds_toArray, List.set_cons_zero, List.set_cons_succ]
                refine wpAnyH_take (i := 30) (oi := ⟨some 56, _, _, _, _, _⟩) (v := .bool true) rfl (by kernel_rfl) (by kernel_rfl) (by kernel_rfl) (fun _ _ _ h => h) (yi_pick1 rfl (by kernel_rfl) rfl rfl) hS ?_
                simp only [Act.put, List.setIfInBounds_toArray, List.set_cons_zero, List.set_cons_succ]
                refine wpAnyH_take (i := 31) (oi := ⟨some 57, _, _, _, _, _⟩) (v := .bool true) rfl (by kernel_rfl) (by kernel_rfl) (by kernel_rfl) (fun _ _ _ h => h) (yi_pick0 rfl rfl rfl rfl) hS ?_
                simp only [Act.put, List.setIfInBounds_toArray, List.set_cons_zero, List.set_cons_succ]
                refine wpAnyH_done (by kernel_rfl) ?_ _
                clear hS
                go_wp2_with fail
                go_ret
                exact ⟨rfl, HB.out⟩
              · have dL : decide (v < l[p].v) = false := by simp; omega
                have HLO := Lib.hid hlow
                clear hlow
                have IE : Hid (EvIn ⟨t, v, 0, false⟩) := Lib.hid (HE.out ▸ HL.out.fits (p + 1) HLT.out)
                by_cases hf : Fol l[p] ⟨t, v, 0, false⟩
                · have HF := Lib.hid hf
                  clear hf
                  go_wp2_with (first
                      | ((with_reducible refine at_slot 25 ?_); refine wl_ldr (B := (evA ⟨t, v, 0, false⟩)) rfl rfl rfl (ev_row HE.out ((HL.out.keep HB.out).row (p + 1) HLT.out)) Try.underlying24 rfl evInfo ?_)
                      | ((with_reducible refine at_slot 4 ?_); refine wl_alloc (A := (evA zeroEv)) rfl rfl ev_zero rfl ?_; intro W1 g1 k1 hb hle; have L1 := Lib.hid (Nat.le_trans HB.out.size hle); replace HB := Lib.hid (below_tr HB.out hb); clear hb hle)
                      | ((with_reducible refine at_store 4 ?_); refine wl_st0 (A' := (evA ⟨t, v, 0, false⟩)) rfl rfl rfl rfl k1 rfl evInfo (evA_one ⟨t, v, 0, false⟩) ?_; intro V2 kn hu; replace HB := Lib.hid (upd_below HB.out hu L1.out); clear k1; have k1 : Blk _ g1 _ (evA ⟨t, v, 0, false⟩) := kn; clear kn hu))
                  refine wp_region_held_drew (S := fun w' => Blk w' g1 24 (evA ⟨t, v, 0, false⟩) ∧ Below w.heap.size w w') (by kernel_rfl) ⟨k1.drew, HB.out.drew⟩ (fun hS => ?_)
                  clear k1
                  have hS2 := hS
                  obtain ⟨k1, hB⟩ := hS2
                  replace HB := Lib.hid hB
                  clear hB
                  refine wpAnyH_take (i := 0) (oi := ⟨some 26, _, _, _, _, _⟩) (v := .pointer (some ⟨g1, 3, none⟩)) rfl (by kernel_rfl) (by kernel_rfl) (by kernel_rfl) (fun _ _ _ h => h) (yi_ok rfl (fun _ => by go_simp)) hS ?_
                  simp only [Act.put, List.setIfInBounds_toArray, List.set_cons_zero, List.set_cons_succ]
                  refine wpAnyH_take (i := 1) (oi := ⟨some 27, _, _, _, _, _⟩) (v := .bool false) rfl (by kernel_rfl) (by kernel_rfl) (by kernel_rfl) (fun _ _ _ h => h) (yi_ld1 (v := .bool false) rfl rfl rfl (fun w' h => h.1) Try.underlying4 rfl rfl) hS ?_
                  simp only [Act.put, List.setIfInBounds_toArray, List.set_cons_zero, List.set_cons_succ]
                  refine wpAnyH_take (i := 2) (oi := ⟨some 28, _, _, _, _, _⟩) (v := .bool false) rfl (by kernel_rfl) (by kernel_rfl) (by kernel_rfl) (fun _ _ _ h => h) (yi_mv (Or.inl rfl) rfl rfl) hS ?_
                  simp only [Act.put, List.setIfInBounds_toArray, List.set_cons_zero, List.set_cons_succ]
                  refine wpAnyH_take (i := 3) (oi := ⟨some 29, _, _, _, _, _⟩) (v := .pointer (some ⟨g1, 2, none⟩)) rfl (by kernel_rfl) (by kernel_rfl) (by kernel_rfl) (fun _ _ _ h => h) (yi_ok (by kernel_rfl) (fun _ => by go_simp)) hS ?_
                  simp only [Act.put, List.setIfInBounds_toArray, List.set_cons_zero, List.set_cons_succ]
                  refine wpAnyH_take (i := 4) (oi := ⟨some 30, _, _, _, _, _⟩) (v := .int .i64 0) rfl (by kernel_rfl) (by kernel_rfl) (by kernel_rfl) (fun _ _ _ h => h) (yi_ld1 (v := .int .i64 0) rfl (by kernel_rfl) rfl (fun w' h => h.1) Try.underlying2 rfl rfl) hS ?_
                  simp only [Act.put, List.setIfInBounds_toArray, List.set_cons_zero, List.set_cons_succ]
                  refine wpAnyH_take (i := 5) (oi := ⟨some 31, _, _, _, _, _⟩) (v := .bool false) rfl (by kernel_rfl) (by kernel_rfl) (by kernel_rfl) (fun _ _ _ h => h) (yi_ok (by kernel_rfl) (fun _ => by go_simp)) hS ?_
                  simp only [Act.put, List.setIfInBounds_toArray, List.set_cons_zero, List.set_cons_succ]
                  refine wpAnyH_take (i := 6) (oi := ⟨some 32, _, _, _, _, _⟩) (v := .bool false) rfl (by kernel_rfl) (by kernel_rfl) (by kernel_rfl) (fun _ _ _ h => h) (yi_pick0 rfl rfl rfl rfl) hS ?_
                  simp only [Act.put, List.setIfInBounds_toArray, List.set_cons_zero, List.set_cons_succ]
                  refine wpAnyH_take (i := 7) (oi := ⟨some 33, _, _, _, _, _⟩) (v := .bool false) rfl (by kernel_rfl) (by kernel_rfl) (by kernel_rfl) (fun _ _ _ h => h) (yi_mv (Or.inl rfl) rfl rfl) hS ?_
                  simp only [Act.put, List.setIfInBounds_toArray, List.set_cons_zero, List.set_cons_succ]
                  refine wpAnyH_take (i := 8) (oi := ⟨some 34, _, _, _, _, _⟩) (v := .int .i64 ((p + 1 : Nat) : Int)) rfl (by kernel_rfl) (by kernel_rfl) (by kernel_rfl) (fun _ _ _ h => h) (yi_mv (Or.inl rfl) (by kernel_rfl) rfl) hS ?_
                  simp only [Act.put, List.setIfInBounds_toArray, List.set_cons_zero, List.set_cons_succ]
                  refine wpAnyH_take (i := 9) (oi := ⟨some 35, _, _, _, _, _⟩) (v := .bool true) rfl (by kernel_rfl) (by kernel_rfl) (by kernel_rfl) (fun _ _ _ h => h) (yi_ok (by kernel_rfl) (fun _ => by go_simp)) hS ?_
                  simp only [Act.put, List.setIfInBounds_toArray, List.set_cons_zero, List.set_cons_succ]
                  refine wpAnyH_take (i := 10) (oi := ⟨some 36, _, _, _, _, _⟩) (v := .bool true) rfl (by kernel_rfl) (by kernel_rfl) (by kernel_rfl) (fun _ _ _ h => h) (yi_mv (Or.inl rfl) (by kernel_rfl) rfl) hS ?_
                  simp only [Act.put, List.setIfInBounds_toArray, List.set_cons_zero, List.set_cons_succ]
                  refine wpAnyH_take (i := 11) (oi := ⟨some 37, _, _, _, _, _⟩) (v := .pointer (some ⟨g1, 1, none⟩)) rfl (by kernel_rfl) (by kernel_rfl) (by kernel_rfl) (fun _ _ _ h => h) (yi_ok (by kernel_rfl) (fun _ => by go_simp)) hS ?_
                  simp only [Act.put, List.setIfInBounds_toArray, List.set_cons_zero, List.set_cons_succ]
                  refine wpAnyH_take (i := 12) (oi := ⟨some 38, _, _, _, _, _⟩) (v := .int .u64 v) rfl (by kernel_rfl) (by kernel_rfl) (by kernel_rfl) (fun _ _ _ h => h) (yi_ld1 (v := .int .u64 v) rfl (by kernel_rfl) rfl (fun w' h => h.1) Try.underlying22 rfl rfl) hS ?_
                  simp only [Act.put, List.setIfInBounds_toArray, List.set_cons_zero, List.set_cons_succ]
                  refine wpAnyH_take (i := 13) (oi := ⟨some 39, _, _, _, _, _⟩) (v := .slice (some ⟨b, off, none⟩) l.length cap) rfl (by kernel_rfl) (by kernel_rfl) (by kernel_rfl) (fun _ _ _ h => h) (yi_mv (Or.inl rfl) (by kernel_rfl) rfl) hS ?_
                  simp only [Act.put, List.setIfInBounds_toArray, List.set_cons_zero, List.set_cons_succ]
                  refine wpAnyH_take (i := 14) (oi := ⟨some 40, _, _, _, _, _⟩) (v := .int .i64 ((p + 1 : Nat) : Int)) rfl (by kernel_rfl) (by kernel_rfl) (by kernel_rfl) (fun _ _ _ h => h) (yi_mv (Or.inl rfl) (by kernel_rfl) rfl) hS ?_
                  simp only [Act.put, List.setIfInBounds_toArray, List.set_cons_zero, List.set_cons_succ]
                  refine wpAnyH_take (i := 15) (oi := ⟨some 41, _, _, _, _, _⟩) (v := .int .i64 (p : Int)) rfl (by kernel_rfl) (by kernel_rfl) (by kernel_rfl) (fun _ _ _ h => h) (yi_ok (by kernel_rfl) (fun _ => by go_simp)) hS ?_
                  simp only [Act.put, List.setIfInBounds_toArray, List.set_cons_zero, List.set_cons_succ]
                  refine wpAnyH_take (i := 16) (oi := ⟨some 42, _, _, _, _, _⟩) (v := .pointer (some ⟨b, off + p * 4, none⟩)) rfl (by kernel_rfl) (by kernel_rfl) (by kernel_rfl) (fun _ _ _ h => h) (yi_ok (by kernel_rfl) (fun _ => by go_simp)) hS ?_
                  simp only [Act.put, List.setIfInBounds_toArray, List.set_cons_zero, List.set_cons_succ]
                  refine wpAnyH_take (i := 17) (oi := ⟨some 43, _, _, _, _, _⟩) (v := .pointer (some ⟨b, off + p * 4 + 1, none⟩)) rfl (by kernel_rfl) (by kernel_rfl) (by kernel_rfl) (fun _ _ _ h => h) (yi_ok (by kernel_rfl) (fun _ => by go_simp)) hS ?_
                  simp only [Act.put, List.setIfInBounds_toArray, List.set_cons_zero, List.set_cons_succ]
                  refine wpAnyH_take (i := 18) (oi := ⟨some 44, _, _, _, _, _⟩) (v := .int .u64 l[p].v) rfl (by kernel_rfl) (by kernel_rfl) (by kernel_rfl) (fun _ _ _ h => h) (yi_c rfl (by kernel_rfl) rfl (fun w' h => (ev_cells ((HL.out.keep h.2).row p HP.out)).2.1) Try.underlying22 rfl) hS ?_
                  simp only [Act.put, List.setIfInBounds_toArray, List.set_cons_zero, List.set_cons_succ]
                  refine wpAnyH_take (i := 19) (oi := ⟨some 45, _, _, _, _, _⟩) (v := .bool false) rfl (by kernel_rfl) (by kernel_rfl) (by kernel_rfl) (fun _ _ _ h => h) (yi_ok (by kernel_rfl) (fun _ => by go_simp)) hS ?_
                  simp only [Act.put, List.setIfInBounds_toArray, List.set_cons_zero, List.set_cons_succ]
                  refine wpAnyH_take (i := 20) (oi := ⟨some 46, _, _, _, _, _⟩) (v := .bool false) rfl (by kernel_rfl) (by kernel_rfl) (by kernel_rfl) (fun _ _ _ h => h) (yi_mv (Or.inl rfl) (by kernel_rfl) rfl) hS ?_
                  simp only [Act.put, List.setIfInBounds_toArray, List.set_cons_zero, List.set_cons_succ]
                  refine wpAnyH_take (i := 21) (oi := ⟨some 47, _, _, _, _, _⟩) (v := .slice (some ⟨b, off, none⟩) l.length cap) rfl (by kernel_rfl) (by kernel_rfl) (by kernel_rfl) (fun _ _ _ h => h) (yi_mv (Or.inl rfl) (by kernel_rfl) rfl) hS ?_
                  simp only [Act.put, List.setIfInBounds_toArray, List.set_cons_zero, List.set_cons_succ]
                  refine wpAnyH_take (i := 22) (oi := ⟨some 48, _, _, _, _, _⟩) (v := .int .i64 ((p + 1 : Nat) : Int)) rfl (by kernel_rfl) (by kernel_rfl) (by kernel_rfl) (fun _ _ _ h => h) (yi_mv (Or.inl rfl) (by kernel_rfl) rfl) hS ?_
                  simp only [Act.put, List.setIfInBounds_toArray, List.set_cons_zero, List.set_cons_succ]
                  refine wpAnyH_take (i := 23) (oi := ⟨some 49, _, _, _, _, _⟩) (v := .int .i64 (p : Int)) rfl (by kernel_rfl) (by kernel_rfl) (by kernel_rfl) (fun _ _ _ h => h) (yi_ok (by kernel_rfl) (fun _ => by go_simp)) hS ?_
                  simp only [Act.put, List.setIfInBounds_toArray, List.set_cons_zero, List.set_cons_succ]
                  refine wpAnyH_take (i := 24) (oi := ⟨some 50, _, _, _, _, _⟩) (v := .pointer (some ⟨b, off + p * 4, none⟩)) rfl (by kernel_rfl) (by kernel_rfl) (by kernel_rfl) (fun _ _ _ h => h) (yi_ok (by kernel_rfl) (fun _ => by go_simp)) hS ?_
                  simp only [Act.put, List.setIfInBounds_toArray, List.set_cons_zero, List.set_cons_succ]
                  refine wpAnyH_take (i := 25) (oi := ⟨some 51, _, _, _, _, _⟩) (v := .agg (evA l[p])) rfl (by kernel_rfl) (by kernel_rfl) (by kernel_rfl) (fun _ _ _ h => h) (yi_ldr (B := (evA l[p])) rfl (by kernel_rfl) rfl (fun w' h => (HL.out.keep h.2).row p HP.out) Try.underlying24 rfl evInfo) hS ?_
                  simp only [Act.put, List.setIfInBounds_toArray, List.set_cons_zero, List.set_cons_succ]
                  refine wpAnyH_take (i := 26) (oi := ⟨some 52, _, _, _, _, _⟩) (v := .agg (evA ⟨t, v, 0, false⟩)) rfl (by kernel_rfl) (by kernel_rfl) (by kernel_rfl) (fun _ _ _ h => h) (yi_ld0 rfl (by kernel_rfl) rfl (fun w' h => h.1) Try.underlying24 rfl evInfo) hS ?_
                  simp only [Act.put, List.setIfInBounds_toArray, List.set_cons_zero, List.set_cons_succ]
                  refine anyH_call (i := 27) (op := ⟨some 53, _, _, _, _, _⟩) (by kernel_rfl) rfl rfl (by kernel_rfl) Try.func19 (by kernel_rfl) rfl (fol_yes HF.out _) rfl (fun w' hb => ⟨k1.keep hb, below_tr HB.out hb⟩) (fun w' hb hS2 => ?_)
                  simp only [Act.put, List.setIfInBounds_toArray, List.set_cons_zero, List.set_cons_succ]
                  clear hb
                  replace hS := hS2
                  clear hS2
                  clear k1
                  have hS2 := hS
                  obtain ⟨k1, hB⟩ := hS2
                  replace HB := Lib.hid hB
                  clear hB
                  refine wpAnyH_take (i := 28) (oi := ⟨some 54, _, _, _, _, _⟩) (v := .bool false) rfl (by kernel_rfl) (by kernel_rfl) (by kernel_rfl) (fun _ _ _ h => h) (yi_not rfl (by kernel_rfl) rfl rfl) hS ?_
                  simp only [Act.put, List.setIfInBounds_toArray, List.set_cons_zero, List.set_cons_succ]
                  refine wpAnyH_take (i := 29) (oi := ⟨some 55, _, _, _, _, _⟩) (v := .bool false) rfl (by kernel_rfl) (by kernel_rfl) (by kernel_rfl) (fun _ _ _ h => h) (yi_pick0 rfl (by kernel_rfl) rfl rfl) hS ?_
                  simp only [Act.put, List.setIfInBounds_toArray, List.set_cons_zero, List.set_cons_succ]
                  refine wpAnyH_take (i := 30) (oi := ⟨some 56, _, _, _, _, _⟩) (v := .bool false) rfl (by kernel_rfl) (by kernel_rfl) (by kernel_rfl) (fun _ _ _ h => h) (yi_pick1 rfl (by kernel_rfl) rfl rfl) hS ?_
                  simp only [Act.put, List.setIfInBounds_toArray, List.set_cons_zero, List.set_cons_succ]
                  refine wpAnyH_take (i := 31) (oi := ⟨some 57, _, _, _, _, _⟩) (v := .bool false) rfl (by kernel_rfl) (by kernel_rfl) (by kernel_rfl) (fun _ _ _ h => h) (yi_pick0 rfl rfl rfl rfl) hS ?_
                  simp only [Act.put, List.setIfInBounds_toArray, List.set_cons_zero, List.set_cons_succ]
                  refine wpAnyH_done (by kernel_rfl) ?_ _
                  clear hS
                  go_wp2_with fail
                  go_roundw
                  case rel => exact ⟨p + 1 + 1, HLT.out, by go_num, HI.out.next HB.out HLT.out ⟨HS.out, HC.out, fun q hq => by
                      obtain rfl : q = p := by omega
                      exact ⟨Int.le_trans (show l[q].v ≤ v by have := HLO.out; omega) (Int.le_of_eq HV.out), HE.out ▸ HF.out⟩⟩⟩
                  case measure => simp [intOf]; omega
                · have HF := Lib.hid hf
                  clear hf
                  go_wp2_with (first
                      | ((with_reducible refine at_slot 25 ?_); refine wl_ldr (B := (evA ⟨t, v, 0, false⟩)) rfl rfl rfl (ev_row HE.out ((HL.out.keep HB.out).row (p + 1) HLT.out)) Try.underlying24 rfl evInfo ?_)
                      | ((with_reducible refine at_slot 4 ?_); refine wl_alloc (A := (evA zeroEv)) rfl rfl ev_zero rfl ?_; intro W1 g1 k1 hb hle; have L1 := Lib.hid (Nat.le_trans HB.out.size hle); replace HB := Lib.hid (below_tr HB.out hb); clear hb hle)
                      | ((with_reducible refine at_store 4 ?_); refine wl_st0 (A' := (evA ⟨t, v, 0, false⟩)) rfl rfl rfl rfl k1 rfl evInfo (evA_one ⟨t, v, 0, false⟩) ?_; intro V2 kn hu; replace HB := Lib.hid (upd_below HB.out hu L1.out); clear k1; have k1 : Blk _ g1 _ (evA ⟨t, v, 0, false⟩) := kn; clear kn hu))
                  refine wp_region_held_drew (S := fun w' => Blk w' g1 24 (evA ⟨t, v, 0, false⟩) ∧ Below w.heap.size w w') (by kernel_rfl) ⟨k1.drew, HB.out.drew⟩ (fun hS => ?_)
                  clear k1
                  have hS2 := hS
                  obtain ⟨k1, hB⟩ := hS2
                  replace HB := Lib.hid hB
                  clear hB
                  refine wpAnyH_take (i := 0) (oi := ⟨some 26, _, _, _, _, _⟩) (v := .pointer (some ⟨g1, 3, none⟩)) rfl (by kernel_rfl) (by kernel_rfl) (by kernel_rfl) (fun _ _ _ h => h) (yi_ok rfl (fun _ => by go_simp)) hS ?_
                  simp only [Act.put, List.setIfInBounds_toArray, List.set_cons_zero, List.set_cons_succ]
                  refine wpAnyH_take (i := 1) (oi := ⟨some 27, _, _, _, _, _⟩) (v := .bool false) rfl (by kernel_rfl) (by kernel_rfl) (by kernel_rfl) (fun _ _ _ h => h) (yi_ld1 (v := .bool false) rfl rfl rfl (fun w' h => h.1) Try.underlying4 rfl rfl) hS ?_
                  simp only [Act.put, List.setIfInBounds_toArray, List.set_cons_zero, List.set_cons_succ]
                  refine wpAnyH_take (i := 2) (oi := ⟨some 28, _, _, _, _, _⟩) (v := .bool false) rfl (by kernel_rfl) (by kernel_rfl) (by kernel_rfl) (fun _ _ _ h => h) (yi_mv (Or.inl rfl) rfl rfl) hS ?_
                  simp only [Act.put, List.setIfInBounds_toArray, List.set_cons_zero, List.set_cons_succ]
                  refine wpAnyH_take (i := 3) (oi := ⟨some 29, _, _, _, _, _⟩) (v := .pointer (some ⟨g1, 2, none⟩)) rfl (by kernel_rfl) (by kernel_rfl) (by kernel_rfl) (fun _ _ _ h => h) (yi_ok (by kernel_rfl) (fun _ => by go_simp)) hS ?_
                  simp only [Act.put, List.setIfInBounds_toArray, List.set_cons_zero, List.set_cons_succ]
                  refine wpAnyH_take (i := 4) (oi := ⟨some 30, _, _, _, _, _⟩) (v := .int .i64 0) rfl (by kernel_rfl) (by kernel_rfl) (by kernel_rfl) (fun _ _ _ h => h) (yi_ld1 (v := .int .i64 0) rfl (by kernel_rfl) rfl (fun w' h => h.1) Try.underlying2 rfl rfl) hS ?_
                  simp only [Act.put, List.setIfInBounds_toArray, List.set_cons_zero, List.set_cons_succ]
                  refine wpAnyH_take (i := 5) (oi := ⟨some 31, _, _, _, _, _⟩) (v := .bool false) rfl (by kernel_rfl) (by kernel_rfl) (by kernel_rfl) (fun _ _ _ h => h) (yi_ok (by kernel_rfl) (fun _ => by go_simp)) hS ?_
                  simp only [Act.put, List.setIfInBounds_toArray, List.set_cons_zero, List.set_cons_succ]
                  refine wpAnyH_take (i := 6) (oi := ⟨some 32, _, _, _, _, _⟩) (v := .bool false) rfl (by kernel_rfl) (by kernel_rfl) (by kernel_rfl) (fun _ _ _ h => h) (yi_pick0 rfl rfl rfl rfl) hS ?_
                  simp only [Act.put, List.setIfInBounds_toArray, List.set_cons_zero, List.set_cons_succ]
                  refine wpAnyH_take (i := 7) (oi := ⟨some 33, _, _, _, _, _⟩) (v := .bool false) rfl (by kernel_rfl) (by kernel_rfl) (by kernel_rfl) (fun _ _ _ h => h) (yi_mv (Or.inl rfl) rfl rfl) hS ?_
                  simp only [Act.put, List.setIfInBounds_toArray, List.set_cons_zero, List.set_cons_succ]
                  refine wpAnyH_take (i := 8) (oi := ⟨some 34, _, _, _, _, _⟩) (v := .int .i64 ((p + 1 : Nat) : Int)) rfl (by kernel_rfl) (by kernel_rfl) (by kernel_rfl) (fun _ _ _ h => h) (yi_mv (Or.inl rfl) (by kernel_rfl) rfl) hS ?_
                  simp only [Act.put, List.setIfInBounds_toArray, List.set_cons_zero, List.set_cons_succ]
                  refine wpAnyH_take (i := 9) (oi := ⟨some 35, _, _, _, _, _⟩) (v := .bool true) rfl (by kernel_rfl) (by kernel_rfl) (by kernel_rfl) (fun _ _ _ h => h) (yi_ok (by kernel_rfl) (fun _ => by go_simp)) hS ?_
                  simp only [Act.put, List.setIfInBounds_toArray, List.set_cons_zero, List.set_cons_succ]
                  refine wpAnyH_take (i := 10) (oi := ⟨some 36, _, _, _, _, _⟩) (v := .bool true) rfl (by kernel_rfl) (by kernel_rfl) (by kernel_rfl) (fun _ _ _ h => h) (yi_mv (Or.inl rfl) (by kernel_rfl) rfl) hS ?_
                  simp only [Act.put, List.setIfInBounds_toArray, List.set_cons_zero, List.set_cons_succ]
                  refine wpAnyH_take (i := 11) (oi := ⟨some 37, _, _, _, _, _⟩) (v := .pointer (some ⟨g1, 1, none⟩)) rfl (by kernel_rfl) (by kernel_rfl) (by kernel_rfl) (fun _ _ _ h => h) (yi_ok (by kernel_rfl) (fun _ => by go_simp)) hS ?_
                  simp only [Act.put, List.setIfInBounds_toArray, List.set_cons_zero, List.set_cons_succ]
                  refine wpAnyH_take (i := 12) (oi := ⟨some 38, _, _, _, _, _⟩) (v := .int .u64 v) rfl (by kernel_rfl) (by kernel_rfl) (by kernel_rfl) (fun _ _ _ h => h) (yi_ld1 (v := .int .u64 v) rfl (by kernel_rfl) rfl (fun w' h => h.1) Try.underlying22 rfl rfl) hS ?_
                  simp only [Act.put, List.setIfInBounds_toArray, List.set_cons_zero, List.set_cons_succ]
                  refine wpAnyH_take (i := 13) (oi := ⟨some 39, _, _, _, _, _⟩) (v := .slice (some ⟨b, off, none⟩) l.length cap) rfl (by kernel_rfl) (by kernel_rfl) (by kernel_rfl) (fun _ _ _ h => h) (yi_mv (Or.inl rfl) (by kernel_rfl) rfl) hS ?_
                  simp only [Act.put, List.setIfInBounds_toArray, List.set_cons_zero, List.set_cons_succ]
                  refine wpAnyH_take (i := 14) (oi := ⟨some 40, _, _, _, _, _⟩) (v := .int .i64 ((p + 1 : Nat) : Int)) rfl (by kernel_rfl) (by kernel_rfl) (by kernel_rfl) (fun _ _ _ h => h) (yi_mv (Or.inl rfl) (by kernel_rfl) rfl) hS ?_
                  simp only [Act.put, List.setIfInBounds_toArray, List.set_cons_zero, List.set_cons_succ]
                  refine wpAnyH_take (i := 15) (oi := ⟨some 41, _, _, _, _, _⟩) (v := .int .i64 (p : Int)) rfl (by kernel_rfl) (by kernel_rfl) (by kernel_rfl) (fun _ _ _ h => h) (yi_ok (by kernel_rfl) (fun _ => by go_simp)) hS ?_
                  simp only [Act.put, List.setIfInBounds_toArray, List.set_cons_zero, List.set_cons_succ]
                  refine wpAnyH_take (i := 16) (oi := ⟨some 42, _, _, _, _, _⟩) (v := .pointer (some ⟨b, off + p * 4, none⟩)) rfl (by kernel_rfl) (by kernel_rfl) (by kernel_rfl) (fun _ _ _ h => h) (yi_ok (by kernel_rfl) (fun _ => by go_simp)) hS ?_
                  simp only [Act.put, List.setIfInBounds_toArray, List.set_cons_zero, List.set_cons_succ]
                  refine wpAnyH_take (i := 17) (oi := ⟨some 43, _, _, _, _, _⟩) (v := .pointer (some ⟨b, off + p * 4 + 1, none⟩)) rfl (by kernel_rfl) (by kernel_rfl) (by kernel_rfl) (fun _ _ _ h => h) (yi_ok (by kernel_rfl) (fun _ => by go_simp)) hS ?_
                  simp only [Act.put, List.setIfInBounds_toArray, List.set_cons_zero, List.set_cons_succ]
                  refine wpAnyH_take (i := 18) (oi := ⟨some 44, _, _, _, _, _⟩) (v := .int .u64 l[p].v) rfl (by kernel_rfl) (by kernel_rfl) (by kernel_rfl) (fun _ _ _ h => h) (yi_c rfl (by kernel_rfl) rfl (fun w' h => (ev_cells ((HL.out.keep h.2).row p HP.out)).2.1) Try.underlying22 rfl) hS ?_
                  simp only [Act.put, List.setIfInBounds_toArray, List.set_cons_zero, List.set_cons_succ]
                  refine wpAnyH_take (i := 19) (oi := ⟨some 45, _, _, _, _, _⟩) (v := .bool false) rfl (by kernel_rfl) (by kernel_rfl) (by kernel_rfl) (fun _ _ _ h => h) (yi_ok (by kernel_rfl) (fun _ => by go_simp)) hS ?_
                  simp only [Act.put, List.setIfInBounds_toArray, List.set_cons_zero, List.set_cons_succ]
                  refine wpAnyH_take (i := 20) (oi := ⟨some 46, _, _, _, _, _⟩) (v := .bool false) rfl (by kernel_rfl) (by kernel_rfl) (by kernel_rfl) (fun _ _ _ h => h) (yi_mv (Or.inl rfl) (by kernel_rfl) rfl) hS ?_
                  simp only [Act.put, List.setIfInBounds_toArray, List.set_cons_zero, List.set_cons_succ]
                  refine wpAnyH_take (i := 21) (oi := ⟨some 47, _, _, _, _, _⟩) (v := .slice (some ⟨b, off, none⟩) l.length cap) rfl (by kernel_rfl) (by kernel_rfl) (by kernel_rfl) (fun _ _ _ h => h) (yi_mv (Or.inl rfl) (by kernel_rfl) rfl) hS ?_
                  simp only [Act.put, List.setIfInBounds_toArray, List.set_cons_zero, List.set_cons_succ]
                  refine wpAnyH_take (i := 22) (oi := ⟨some 48, _, _, _, _, _⟩) (v := .int .i64 ((p + 1 : Nat) : Int)) rfl (by kernel_rfl) (by kernel_rfl) (by kernel_rfl) (fun _ _ _ h => h) (yi_mv (Or.inl rfl) (by kernel_rfl) rfl) hS ?_
                  simp only [Act.put, List.setIfInBounds_toArray, List.set_cons_zero, List.set_cons_succ]
                  refine wpAnyH_take (i := 23) (oi := ⟨some 49, _, _, _, _, _⟩) (v := .int .i64 (p : Int)) rfl (by kernel_rfl) (by kernel_rfl) (by kernel_rfl) (fun _ _ _ h => h) (yi_ok (by kernel_rfl) (fun _ => by go_simp)) hS ?_
                  simp only [Act.put, List.setIfInBounds_toArray, List.set_cons_zero, List.set_cons_succ]
                  refine wpAnyH_take (i := 24) (oi := ⟨some 50, _, _, _, _, _⟩) (v := .pointer (some ⟨b, off + p * 4, none⟩)) rfl (by kernel_rfl) (by kernel_rfl) (by kernel_rfl) (fun _ _ _ h => h) (yi_ok (by kernel_rfl) (fun _ => by go_simp)) hS ?_
                  simp only [Act.put, List.setIfInBounds_toArray, List.set_cons_zero, List.set_cons_succ]
                  refine wpAnyH_take (i := 25) (oi := ⟨some 51, _, _, _, _, _⟩) (v := .agg (evA l[p])) rfl (by kernel_rfl) (by kernel_rfl) (by kernel_rfl) (fun _ _ _ h => h) (yi_ldr (B := (evA l[p])) rfl (by kernel_rfl) rfl (fun w' h => (HL.out.keep h.2).row p HP.out) Try.underlying24 rfl evInfo) hS ?_
                  simp only [Act.put, List.setIfInBounds_toArray, List.set_cons_zero, List.set_cons_succ]
                  refine wpAnyH_take (i := 26) (oi := ⟨some 52, _, _, _, _, _⟩) (v := .agg (evA ⟨t, v, 0, false⟩)) rfl (by kernel_rfl) (by kernel_rfl) (by kernel_rfl) (fun _ _ _ h => h) (yi_ld0 rfl (by kernel_rfl) rfl (fun w' h => h.1) Try.underlying24 rfl evInfo) hS ?_
                  simp only [Act.put, List.setIfInBounds_toArray, List.set_cons_zero, List.set_cons_succ]
                  refine anyH_call (i := 27) (op := ⟨some 53, _, _, _, _, _⟩) (by kernel_rfl) rfl rfl (by kernel_rfl) Try.func19 (by kernel_rfl) rfl (fol_no (HL.out.fits p HP.out) IE.out HF.out _) rfl (fun w' hb => ⟨k1.keep hb, below_tr HB.out hb⟩) (fun w' hb hS2 => ?_)
                  simp only [Act.put, List.setIfInBounds_toArray, List.set_cons_zero, List.set_cons_succ]
                  clear hb
                  replace hS := hS2
                  clear hS2
                  clear k1
                  have hS2 := hS
                  obtain ⟨k1, hB⟩ := hS2
                  replace HB := Lib.hid hB
                  clear hB
                  refine wpAnyH_take (i := 28) (oi := ⟨some 54, _, _, _, _, _⟩) (v := .bool true) rfl (by kernel_rfl) (by kernel_rfl) (by kernel_rfl) (fun _ _ _ h => h) (yi_not rfl (by kernel_rfl) rfl rfl) hS ?_
                  simp only [Act.put, List.setIfInBounds_toArray, List.set_cons_zero, List.set_cons_succ]
                  refine wpAnyH_take (i := 29) (oi := ⟨some 55, _, _, _, _, _⟩) (v := .bool true) rfl (by kernel_rfl) (by kernel_rfl) (by kernel_rfl) (fun _ _ _ h => h) (yi_pick0 rfl (by kernel_rfl) rfl rfl) hS ?_
                  simp only [Act.put, List.setIfInBounds_toArray, List.set_cons_zero, List.set_cons_succ]
                  refine wpAnyH_take (i := 30) (oi := ⟨some 56, _, _, _, _, _⟩) (v := .bool true) rfl (by kernel_rfl) (by kernel_rfl) (by kernel_rfl) (fun _ _ _ h => h) (yi_pick1 rfl (by kernel_rfl) rfl rfl) hS ?_
                  simp only [Act.put, List.setIfInBounds_toArray, List.set_cons_zero, List.set_cons_succ]
                  refine wpAnyH_take (i := 31) (oi := ⟨some 57, _, _, _, _, _⟩) (v := .bool true) rfl (by kernel_rfl) (by kernel_rfl) (by kernel_rfl) (fun _ _ _ h => h) (yi_pick0 rfl rfl rfl rfl) hS ?_
                  simp only [Act.put, List.setIfInBounds_toArray, List.set_cons_zero, List.set_cons_succ]
                  refine wpAnyH_done (by kernel_rfl) ?_ _
                  clear hS
                  go_wp2_with fail
                  go_ret
                  exact ⟨rfl, HB.out⟩
          · obtain ⟨c, hc2⟩ : ∃ c, l[k].c = c := ⟨_, rfl⟩
            have HE : Hid (l[k] = ⟨t, v, c, false⟩) := Lib.hid (by rw [ht, hv]; exact ev_eta _ hs hc2)
            have dC : (c != 0) = true := by rw [← hc2]; simpa using hc
            clear hs hc hc2 ht hv
            go_wp2_with (first
                | ((with_reducible refine at_slot 25 ?_); refine wl_ldr (B := (evA ⟨t, v, c, false⟩)) rfl rfl rfl (ev_row HE.out ((HL.out.keep HB.out).row k HLT.out)) Try.underlying24 rfl evInfo ?_)
                | ((with_reducible refine at_slot 4 ?_); refine wl_alloc (A := (evA zeroEv)) rfl rfl ev_zero rfl ?_; intro W1 g1 k1 hb hle; have L1 := Lib.hid (Nat.le_trans HB.out.size hle); replace HB := Lib.hid (below_tr HB.out hb); clear hb hle)
                | ((with_reducible refine at_store 4 ?_); refine wl_st0 (A' := (evA ⟨t, v, c, false⟩)) rfl rfl rfl rfl k1 rfl evInfo (evA_one ⟨t, v, c, false⟩) ?_; intro V2 kn hu; replace HB := Lib.hid (upd_below HB.out hu L1.out); clear k1; have k1 : Blk _ g1 _ (evA ⟨t, v, c, false⟩) := kn; clear kn hu))
            refine wp_region_held_drew (S := fun w' => Blk w' g1 24 (evA ⟨t, v, c, false⟩) ∧ Below w.heap.size w w') (by kernel_rfl) ⟨k1.drew, HB.out.drew⟩ (fun hS => ?_)
            clear k1
            have hS2 := hS
            obtain ⟨k1, hB⟩ := hS2
            replace HB := Lib.hid hB
            clear hB
            refine wpAnyH_take (i := 0) (oi := ⟨some 26, _, _, _, _, _⟩) (v := .pointer (some ⟨g1, 3, none⟩)) rfl (by kernel_rfl) (by kernel_rfl) (by kernel_rfl) (fun _ _ _ h => h) (yi_ok rfl (fun _ => by go_simp)) hS ?_
            simp only [Act.put, List.setIfInBounds_toArray, List.set_cons_zero, List.set_cons_succ]
            refine wpAnyH_take (i := 1) (oi := ⟨some 27, _, _, _, _, _⟩) (v := .bool false) rfl (by kernel_rfl) (by kernel_rfl) (by kernel_rfl) (fun _ _ _ h => h) (yi_ld1 (v := .bool false) rfl rfl rfl (fun w' h => h.1) Try.underlying4 rfl rfl) hS ?_
            simp only [Act.put, List.setIfInBounds_toArray, List.set_cons_zero, List.set_cons_succ]
            refine wpAnyH_take (i := 2) (oi := ⟨some 28, _, _, _, _, _⟩) (v := .bool false) rfl (by kernel_rfl) (by kernel_rfl) (by kernel_rfl) (fun _ _ _ h => h) (yi_mv (Or.inl rfl) rfl rfl) hS ?_
            simp only [Act.put, List.setIfInBounds_toArray, List.set_cons_zero, List.set_cons_succ]
            refine wpAnyH_take (i := 3) (oi := ⟨some 29, _, _, _, _, _⟩) (v := .pointer (some ⟨g1, 2, none⟩)) rfl (by kernel_rfl) (by kernel_rfl) (by kernel_rfl) (fun _ _ _ h => h) (yi_ok (by kernel_rfl) (fun _ => by go_simp)) hS ?_
            simp only [Act.put, List.setIfInBounds_toArray, List.set_cons_zero, List.set_cons_succ]
            refine wpAnyH_take (i := 4) (oi := ⟨some 30, _, _, _, _, _⟩) (v := .int .i64 c) rfl (by kernel_rfl) (by kernel_rfl) (by kernel_rfl) (fun _ _ _ h => h) (yi_ld1 (v := .int .i64 c) rfl (by kernel_rfl) rfl (fun w' h => h.1) Try.underlying2 rfl rfl) hS ?_
            simp only [Act.put, List.setIfInBounds_toArray, List.set_cons_zero, List.set_cons_succ]
            refine wpAnyH_take (i := 5) (oi := ⟨some 31, _, _, _, _, _⟩) (v := .bool true) rfl (by kernel_rfl) (by kernel_rfl) (by kernel_rfl) (fun _ _ _ h => h) (yi_ok (by kernel_rfl) (fun _ => by go_simp)) hS ?_
            simp only [Act.put, List.setIfInBounds_toArray, List.set_cons_zero, List.set_cons_succ]
            refine wpAnyH_take (i := 6) (oi := ⟨some 32, _, _, _, _, _⟩) (v := .bool true) rfl (by kernel_rfl) (by kernel_rfl) (by kernel_rfl) (fun _ _ _ h => h) (yi_pick0 rfl rfl rfl rfl) hS ?_
            simp only [Act.put, List.setIfInBounds_toArray, List.set_cons_zero, List.set_cons_succ]
            refine wpAnyH_take (i := 7) (oi := ⟨some 33, _, _, _, _, _⟩) (v := .bool true) rfl (by kernel_rfl) (by kernel_rfl) (by kernel_rfl) (fun _ _ _ h => h) (yi_mv (Or.inl rfl) rfl rfl) hS ?_
            simp only [Act.put, List.setIfInBounds_toArray, List.set_cons_zero, List.set_cons_succ]
            refine wpAnyH_take (i := 8) (oi := ⟨some 34, _, _, _, _, _⟩) (v := undef) rfl (by kernel_rfl) (by kernel_rfl) (by kernel_rfl) (fun _ _ _ h => h) (yi_no (by kernel_rfl)) hS ?_
            simp only [Act.put, List.setIfInBounds_toArray, List.set_cons_zero, List.set_cons_succ]
            refine wpAnyH_take (i := 9) (oi := ⟨some 35, _, _, _, _, _⟩) (v := undef) rfl (by kernel_rfl) (by kernel_rfl) (by kernel_rfl) (fun _ _ _ h => h) (yi_no (by kernel_rfl)) hS ?_
            simp only [Act.put, List.setIfInBounds_toArray, List.set_cons_zero, List.set_cons_succ]
            refine wpAnyH_take (i := 10) (oi := ⟨some 36, _, _, _, _, _⟩) (v := undef) rfl (by kernel_rfl) (by kernel_rfl) (by kernel_rfl) (fun _ _ _ h => h) (yi_no (by kernel_rfl)) hS ?_
            simp only [Act.put, List.setIfInBounds_toArray, List.set_cons_zero, List.set_cons_succ]
            refine wpAnyH_take (i := 11) (oi := ⟨some 37, _, _, _, _, _⟩) (v := undef) rfl (by kernel_rfl) (by kernel_rfl) (by kernel_rfl) (fun _ _ _ h => h) (yi_no (by kernel_rfl)) hS ?_
            simp only [Act.put, List.setIfInBounds_toArray, List.set_cons_zero, List.set_cons_succ]
            refine wpAnyH_take (i := 12) (oi := ⟨some 38, _, _, _, _, _⟩) (v := undef) rfl (by kernel_rfl) (by kernel_rfl) (by kernel_rfl) (fun _ _ _ h => h) (yi_no (by kernel_rfl)) hS ?_
            simp only [Act.put, List.setIfInBounds_toArray, List.set_cons_zero, List.set_cons_succ]
            refine wpAnyH_take (i := 13) (oi := ⟨some 39, _, _, _, _, _⟩) (v := undef) rfl (by kernel_rfl) (by kernel_rfl) (by kernel_rfl) (fun _ _ _ h => h) (yi_no (by kernel_rfl)) hS ?_
            simp only [Act.put, List.setIfInBounds_toArray, List.set_cons_zero, List.set_cons_succ]
            refine wpAnyH_take (i := 14) (oi := ⟨some 40, _, _, _, _, _⟩) (v := undef) rfl (by kernel_rfl) (by kernel_rfl) (by kernel_rfl) (fun _ _ _ h => h) (yi_no (by kernel_rfl)) hS ?_
            simp only [Act.put, List.setIfInBounds_toArray, List.set_cons_zero, List.set_cons_succ]
            refine wpAnyH_take (i := 15) (oi := ⟨some 41, _, _, _, _, _⟩) (v := undef) rfl (by kernel_rfl) (by kernel_rfl) (by kernel_rfl) (fun _ _ _ h => h) (yi_no (by kernel_rfl)) hS ?_
            simp only [Act.put, List.setIfInBounds_toArray, List.set_cons_zero, List.set_cons_succ]
            refine wpAnyH_take (i := 16) (oi := ⟨some 42, _, _, _, _, _⟩) (v := undef) rfl (by kernel_rfl) (by kernel_rfl) (by kernel_rfl) (fun _ _ _ h => h) (yi_no (by kernel_rfl)) hS ?_
            simp only [Act.put, List.setIfInBounds_toArray, List.set_cons_zero, List.set_cons_succ]
            refine wpAnyH_take (i := 17) (oi := ⟨some 43, _, _, _, _, _⟩) (v := undef) rfl (by kernel_rfl) (by kernel_rfl) (by kernel_rfl) (fun _ _ _ h => h) (yi_no (by kernel_rfl)) hS ?_
            simp only [Act.put, List.setIfInBounds_toArray, List.set_cons_zero, List.set_cons_succ]
            refine wpAnyH_take (i := 18) (oi := ⟨some 44, _, _, _, _, _⟩) (v := undef) rfl (by kernel_rfl) (by kernel_rfl) (by kernel_rfl) (fun _ _ _ h => h) (yi_no (by kernel_rfl)) hS ?_
            simp only [Act.put, List.setIfInBounds_toArray, List.set_cons_zero, List.set_cons_succ]
            refine wpAnyH_take (i := 19) (oi := ⟨some 45, _, _, _, _, _⟩) (v := undef) rfl (by kernel_rfl) (by kernel_rfl) (by kernel_rfl) (fun _ _ _ h => h) (yi_no (by kernel_rfl)) hS ?_
            simp only [Act.put, List.setIfInBounds_toArray, List.set_cons_zero, List.set_cons_succ]
            refine wpAnyH_take (i := 20) (oi := ⟨some 46, _, _, _, _, _⟩) (v := undef) rfl (by kernel_rfl) (by kernel_rfl) (by kernel_rfl) (fun _ _ _ h => h) (yi_no (by kernel_rfl)) hS ?_
            simp only [Act.put, List.setIfInBounds_toArray, List.set_cons_zero, List.set_cons_succ]
            refine wpAnyH_take (i := 21) (oi := ⟨some 47, _, _, _, _, _⟩) (v := undef) rfl (by kernel_rfl) (by kernel_rfl) (by kernel_rfl) (fun _ _ _ h => h) (yi_no (by kernel_rfl)) hS ?_
            simp only [Act.put, List.setIfInBounds_toArray, List.set_cons_zero, List.set_cons_succ]
            refine wpAnyH_take (i := 22) (oi := ⟨some 48, _, _, _, _, _⟩) (v := undef) rfl (by kernel_rfl) (by kernel_rfl) (by kernel_rfl) (fun _ _ _ h => h) (yi_no (by kernel_rfl)) hS ?_
            simp only [Act.put, List.setIfInBounds_toArray, List.set_cons_zero, List.set_cons_succ]
            refine wpAnyH_take (i := 23) (oi := ⟨some 49, _, _, _, _, _⟩) (v := undef) rfl (by kernel_rfl) (by kernel_rfl) (by kernel_rfl) (fun _ _ _ h => h) (yi_no (by kernel_rfl)) hS ?_
            simp only [Act.put, List.setIfInBounds_toArray, List.set_cons_zero, List.set_cons_succ]
            refine wpAnyH_take (i := 24) (oi := ⟨some 50, _, _, _, _, _⟩) (v := undef) rfl (by kernel_rfl) (by kernel_rfl) (by kernel_rfl) (fun _ _ _ h => h) (yi_no (by kernel_rfl)) hS ?_
            simp only [Act.put, List.setIfInBounds_toArray, List.set_cons_zero, List.set_cons_succ]
            refine wpAnyH_take (i := 25) (oi := ⟨some 51, _, _, _, _, _⟩) (v := undef) rfl (by kernel_rfl) (by kernel_rfl) (by kernel_rfl) (fun _ _ _ h => h) (yi_no (by kernel_rfl)) hS ?_
            simp only [Act.put, List.setIfInBounds_toArray, List.set_cons_zero, List.set_cons_succ]
            refine wpAnyH_take (i := 26) (oi := ⟨some 52, _, _, _, _, _⟩) (v := undef) rfl (by kernel_rfl) (by kernel_rfl) (by kernel_rfl) (fun _ _ _ h => h) (yi_no (by kernel_rfl)) hS ?_
            simp only [Act.put, List.setIfInBounds_toArray, List.set_cons_zero, List.set_cons_succ]
            refine wpAnyH_take (i := 27) (oi := ⟨some 53, _, _, _, _, _⟩) (v := undef) rfl (by kernel_rfl) (by kernel_rfl) (by kernel_rfl) (fun _ _ _ h => h) (yi_no (by kernel_rfl)) hS ?_
            simp only [Act.put, List.setIfInBounds_toArray, List.set_cons_zero, List.set_cons_succ]
            refine wpAnyH_take (i := 28) (oi := ⟨some 54, _, _, _, _, _⟩) (v := undef) rfl (by kernel_rfl) (by kernel_rfl) (by kernel_rfl) (fun _ _ _ h => h) (yi_no (by kernel_rfl)) hS ?_
            simp only [Act.put, List.setIfInBounds_toArray, List.set_cons_zero, List.set_cons_succ]
            refine wpAnyH_take (i := 29) (oi := ⟨some 55, _, _, _, _, _⟩) (v := undef) rfl (by kernel_rfl) (by kernel_rfl) (by kernel_rfl) (fun _ _ _ h => h) (yi_no (by kernel_rfl)) hS ?_
            simp only [Act.put, List.setIfInBounds_toArray, List.set_cons_zero, List.set_cons_succ]
            refine wpAnyH_take (i := 30) (oi := ⟨some 56, _, _, _, _, _⟩) (v := undef) rfl (by kernel_rfl) (by kernel_rfl) (by kernel_rfl) (fun _ _ _ h => h) (yi_no (by kernel_rfl)) hS ?_
            simp only [Act.put, List.setIfInBounds_toArray, List.set_cons_zero, List.set_cons_succ]
            refine wpAnyH_take (i := 31) (oi := ⟨some 57, _, _, _, _, _⟩) (v := .bool true) rfl (by kernel_rfl) (by kernel_rfl) (by kernel_rfl) (fun _ _ _ h => h) (yi_pick1 rfl rfl rfl rfl) hS ?_
            simp only [Act.put, List.setIfInBounds_toArray, List.set_cons_zero, List.set_cons_succ]
            refine wpAnyH_done (by kernel_rfl) ?_ _
            clear hS
            go_wp2_with fail
            go_ret
            exact ⟨rfl, HB.out⟩
    · have HF := Lib.hid (lo_fin (l := l) (by omega) (fun j hj => HI.out.ok j hj (by omega)))
      obtain ⟨N, hN⟩ : ∃ N, risN l = N := ⟨_, rfl⟩
      have R1 : Hid (∀ W, EvsAt W (some ⟨b, off, none⟩) b off l → Calls Try.prog 15 #[.slice (some ⟨b, off, none⟩) l.length cap] W fun e w' => e = .returned (.tuple #[.agg (wdA (cutU N)), .int .i64 0]) ∧ Below W.heap.size W w') := Lib.hid (fun W hW => by
        have := ri_any _ b off cap l (by omega) W hW
        rwa [HF.out.1, hN] at this)
      have R2 := Lib.hid (HF.out.2.2.symm.trans hN)
      clear HI hN
      go_wp2_with (first
          | ((with_reducible refine at_slot 61 ?_); refine wl_call rfl rfl Try.func15 (by kernel_rfl) rfl (R1.out _ (HL.out.keep HB.out)) rfl ?_; intro V2 hb; replace HB := Lib.hid (below_tr HB.out hb); clear hb)
          | ((with_reducible refine at_slot 5 ?_); refine wl_alloc (A := (wdA U.zero)) rfl rfl wd_zero rfl ?_; intro W1 g1 k1 hb hle; have L1 := Lib.hid (Nat.le_trans HB.out.size hle); replace HB := Lib.hid (below_tr HB.out hb); clear hb hle)
          | ((with_reducible refine at_store 5 ?_); refine wl_st0 (A' := (wdA (cutU N))) rfl rfl rfl rfl k1 rfl wdInfo (wdA_one (cutU N)) ?_; intro V3 kn hu; replace HB := Lib.hid (upd_below HB.out hu L1.out); clear k1; have k1 : Blk _ g1 _ (wdA (cutU N)) := kn; clear kn hu))
      have L0 : Hid (0 < l.length) := Lib.hid (by omega)
      have LZ : Hid (l.length - 1 < l.length) := Lib.hid (by omega)
      have R3 : Hid (∀ (W : World) (g : Nat), Blk W g 24 (evsA [l[0], l[l.length - 1]]) → Calls Try.prog 15 #[.slice (some ⟨g, 0, none⟩) 2 2] W fun e w' => e = .returned (.tuple #[.agg (wdA (cutU N)), .int .i64 0]) ∧ Below W.heap.size W w') := Lib.hid (fun W g hW => ri_lit (k := 2) hW rfl (by omega) (in2 (HL.out.fits 0 L0.out) (HL.out.fits (l.length - 1) LZ.out)) R2.out HF.out.2.1)
      have i1 : IntKind.i64.wrap ((l.length : Int) - 1) = ((l.length - 1 : Nat) : Int) := by rw [IntKind.wrap_i64]; omega
      have i2 : ((l.length - 1 : Nat) : Int) < l.length := by omega
      have i3 : (0 : Int) < l.length := by omega
      have i4 : 0 < l.length := by omega
      refine wp_region_fl (J := fun listed act W => ∃ (b0 b1 b2 b3 b4 b5 b6 b7 b8 b9 b10 b11 b12 b13 b14 b15 b16 : Bool) (x0 x1 x2 x3 x4 x5 x6 x7 x8 x9 x10 x11 x12 x13 x14 x16 : Value) (g gs : Nat), listed = #[b0, b1, b2, b3, b4, b5, b6, b7, b8, b9, b10, b11, b12, b13, b14, b15, b16] ∧ act = { tmps := #[.slice (some { block := b, off := off }) l.length cap, undef, u2, u3, u4, .pointer (some ⟨g1, 0, none⟩), .int .i64 0, x14, x16, .bool true, .bool false, .slice (some { block := b, off := off }) l.length cap, .int .i64 ↑l.length, .bool false, .bool false, .slice (some { block := b, off := off }) l.length cap, .int .i64 ↑l.length, .bool false, .bool false, .slice (some { block := b, off := off }) l.length cap, .int .i64 ↑l.length, .int .i64 ↑k, .bool false, u23, u24, u25, u26, u27, u28, u29, u30, u31, u32, u33, u34, u35, u36, u37, u38, u39, u40, u41, u42, u43, u44, u45, u46, u47, u48, u49, u50, u51, u52, u53, u54, u55, u56, u57, u58, .tuple #[.agg (wdA (cutU N)), .int .i64 0], .slice (some { block := b, off := off }) l.length cap, .tuple #[.agg (wdA (cutU N)), .int .i64 0], .agg (wdA (cutU N)), .int .i64 0, x11, x0, x1, x2, x3, x4, x5, x6, x7, x8, x9, x10, x12, x13, undef, undef, undef, undef, undef, undef, undef, undef, undef, undef, undef], defers := [] } ∧ FJ (V3.heap.size) V3 W 28 (wdA U.zero) (wdA (cutU N)) b14 b15 x14 g ∧ AJ V3 W 24 (evsA [l[0], l[l.length - 1]]) 2 b9 b14 x9 gs g ∧ ((b0 = true → x0 = .slice (some ⟨b, off, none⟩) l.length cap) ∧ (b1 = true → x1 = .pointer (some ⟨b, off + 0 * 4, none⟩)) ∧ (b2 = true → x2 = .agg (evA l[0])) ∧ (b3 = true → x3 = .slice (some ⟨b, off, none⟩) l.length cap) ∧ (b4 = true → x4 = .slice (some ⟨b, off, none⟩) l.length cap) ∧ (b5 = true → x5 = .int .i64 (l.length : Int)) ∧ (b6 = true → x6 = .int .i64 ((l.length - 1 : Nat) : Int)) ∧ (b7 = true → x7 = .pointer (some ⟨b, off + (l.length - 1) * 4, none⟩)) ∧ (b8 = true → x8 = .agg (evA l[l.length - 1])) ∧ (b10 = true → x10 = .tuple #[.agg (wdA (cutU N)), .int .i64 0]) ∧ (b11 = true → x11 = .tuple #[.agg (wdA (cutU N)), .int .i64 0]) ∧ (b12 = true → x12 = .agg (wdA (cutU N))) ∧ (b13 = true → x13 = .int .i64 0) ∧ (b16 = true → x16 = .int .i64 0) ∧ True)) (by kernel_rfl) ⟨false, false, false, false, false, false, false, false, false, false, false, false, false, false, false, false, false, undef, undef, undef, undef, undef, undef, undef, undef, undef, undef, undef, undef, undef, undef, undef, undef, V3.heap.size, 0, rfl, rfl, FJ.start V3 28 (wdA U.zero) (wdA (cutU N)), AJ.start _ _ _ _ _, nofun, nofun, nofun, nofun, nofun, nofun, nofun, nofun, nofun, nofun, nofun, nofun, nofun, nofun, trivial⟩ ?_ ?_
      · intro listed act W i hJ hi
        obtain ⟨b0, b1, b2, b3, b4, b5, b6, b7, b8, b9, b10, b11, b12, b13, b14, b15, b16, x0, x1, x2, x3, x4, x5, x6, x7, x8, x9, x10, x11, x12, x13, x14, x16, g, gs, rfl, rfl, hJ, hA, hE⟩ := hJ
        have HJ := Lib.hid hJ
        have HA := Lib.hid hA
        have HE := Lib.hid hE
        obtain ⟨hi1, hi2, hi3⟩ := fl_spec hi
        clear hJ hA hE hi
        have hi4 : i < 17 := hi1
        clear hi1
        have hcase : i = 0 ∨ i = 1 ∨ i = 2 ∨ i = 3 ∨ i = 4 ∨ i = 5 ∨ i = 6 ∨ i = 7 ∨ i = 8 ∨ i = 9 ∨ i = 10 ∨ i = 11 ∨ i = 12 ∨ i = 13 ∨ i = 14 ∨ i = 15 ∨ i = 16 := by omega
        clear hi4
        rcases hcase with rfl | rfl | rfl | rfl | rfl | rfl | rfl | rfl | rfl | rfl | rfl | rfl | rfl | rfl | rfl | rfl | rfl
        · refine wpOp_step (o := _) rfl (fun K hK => ?_)
          have HK := Lib.hid hK
          clear hK
          clear hi3 hi2
          go_simp
          exact HK.out _ _ ⟨_, _, _, _, _, _, _, _, _, _, _, _, _, _, _, _, _, _, _, _, _, _, _, _, _, _, _, _, _, _, _, _, _, _, _, rfl, rfl, HJ.out, HA.out, fun _ => rfl, HE.out.2.1, HE.out.2.2.1, HE.out.2.2.2.1, HE.out.2.2.2.2.1, HE.out.2.2.2.2.2.1, HE.out.2.2.2.2.2.2.1, HE.out.2.2.2.2.2.2.2.1, HE.out.2.2.2.2.2.2.2.2.1, HE.out.2.2.2.2.2.2.2.2.2.1, HE.out.2.2.2.2.2.2.2.2.2.2.1, HE.out.2.2.2.2.2.2.2.2.2.2.2.1, HE.out.2.2.2.2.2.2.2.2.2.2.2.2.1, HE.out.2.2.2.2.2.2.2.2.2.2.2.2.2.1, trivial⟩
        · refine wpOp_step (o := _) rfl (fun K hK => ?_)
          have HK := Lib.hid hK
          clear hK
          have hd := hi3 _ rfl
          simp [Region.binds] at hd
          have q0 : b0 = true := by (cases b0 with | true => rfl | false => simp at hd)
          clear hi3 hi2 hd
          obtain rfl := HE.out.1 q0
          clear q0
          go_simp
          exact HK.out _ _ ⟨_, _, _, _, _, _, _, _, _, _, _, _, _, _, _, _, _, _, _, _, _, _, _, _, _, _, _, _, _, _, _, _, _, _, _, rfl, rfl, HJ.out, HA.out, HE.out.1, fun _ => rfl, HE.out.2.2.1, HE.out.2.2.2.1, HE.out.2.2.2.2.1, HE.out.2.2.2.2.2.1, HE.out.2.2.2.2.2.2.1, HE.out.2.2.2.2.2.2.2.1, HE.out.2.2.2.2.2.2.2.2.1, HE.out.2.2.2.2.2.2.2.2.2.1, HE.out.2.2.2.2.2.2.2.2.2.2.1, HE.out.2.2.2.2.2.2.2.2.2.2.2.1, HE.out.2.2.2.2.2.2.2.2.2.2.2.2.1, HE.out.2.2.2.2.2.2.2.2.2.2.2.2.2.1, trivial⟩
        · refine wpOp_step (o := _) rfl (fun K hK => ?_)
          have HK := Lib.hid hK
          clear hK
          have hd := hi3 _ rfl
          simp [Region.binds] at hd
          have q1 : b1 = true := by (cases b1 with | true => rfl | false => simp at hd)
          clear hi3 hi2 hd
          obtain rfl := HE.out.2.1 q1
          clear q1
          have hbW := HB.out.trans (HJ.out.upd.below HB.out.size (Nat.le_trans HB.out.size HJ.out.low))
          refine wq_ldr (B := (evA l[0])) rfl rfl rfl ((HL.out.keep hbW).row 0 L0.out) Try.underlying24 rfl evInfo ?_
          exact HK.out _ _ ⟨_, _, _, _, _, _, _, _, _, _, _, _, _, _, _, _, _, _, _, _, _, _, _, _, _, _, _, _, _, _, _, _, _, _, _, rfl, rfl, HJ.out, HA.out, HE.out.1, HE.out.2.1, fun _ => rfl, HE.out.2.2.2.1, HE.out.2.2.2.2.1, HE.out.2.2.2.2.2.1, HE.out.2.2.2.2.2.2.1, HE.out.2.2.2.2.2.2.2.1, HE.out.2.2.2.2.2.2.2.2.1, HE.out.2.2.2.2.2.2.2.2.2.1, HE.out.2.2.2.2.2.2.2.2.2.2.1, HE.out.2.2.2.2.2.2.2.2.2.2.2.1, HE.out.2.2.2.2.2.2.2.2.2.2.2.2.1, HE.out.2.2.2.2.2.2.2.2.2.2.2.2.2.1, trivial⟩
        · refine wpOp_step (o := _) rfl (fun K hK => ?_)
          have HK := Lib.hid hK
          clear hK
          clear hi3 hi2
          go_simp
          exact HK.out _ _ ⟨_, _, _, _, _, _, _, _, _, _, _, _, _, _, _, _, _, _, _, _, _, _, _, _, _, _, _, _, _, _, _, _, _, _, _, rfl, rfl, HJ.out, HA.out, HE.out.1, HE.out.2.1, HE.out.2.2.1, fun _ => rfl, HE.out.2.2.2.2.1, HE.out.2.2.2.2.2.1, HE.out.2.2.2.2.2.2.1, HE.out.2.2.2.2.2.2.2.1, HE.out.2.2.2.2.2.2.2.2.1, HE.out.2.2.2.2.2.2.2.2.2.1, HE.out.2.2.2.2.2.2.2.2.2.2.1, HE.out.2.2.2.2.2.2.2.2.2.2.2.1, HE.out.2.2.2.2.2.2.2.2.2.2.2.2.1, HE.out.2.2.2.2.2.2.2.2.2.2.2.2.2.1, trivial⟩
        · refine wpOp_step (o := _) rfl (fun K hK => ?_)
          have HK := Lib.hid hK
          clear hK
          clear hi3 hi2
          go_simp
          exact HK.out _ _ ⟨_, _, _, _, _, _, _, _, _, _, _, _, _, _, _, _, _, _, _, _, _, _, _, _, _, _, _, _, _, _, _, _, _, _, _, rfl, rfl, HJ.out, HA.out, HE.out.1, HE.out.2.1, HE.out.2.2.1, HE.out.2.2.2.1, fun _ => rfl, HE.out.2.2.2.2.2.1, HE.out.2.2.2.2.2.2.1, HE.out.2.2.2.2.2.2.2.1, HE.out.2.2.2.2.2.2.2.2.1, HE.out.2.2.2.2.2.2.2.2.2.1, HE.out.2.2.2.2.2.2.2.2.2.2.1, HE.out.2.2.2.2.2.2.2.2.2.2.2.1, HE.out.2.2.2.2.2.2.2.2.2.2.2.2.1, HE.out.2.2.2.2.2.2.2.2.2.2.2.2.2.1, trivial⟩
        · refine wpOp_step (o := _) rfl (fun K hK => ?_)
          have HK := Lib.hid hK
          clear hK
          have hd := hi3 _ rfl
          simp [Region.binds] at hd
          have q4 : b4 = true := by (cases b4 with | true => rfl | false => simp at hd)
          clear hi3 hi2 hd
          obtain rfl := HE.out.2.2.2.2.1 q4
          clear q4
          go_simp
          exact HK.out _ _ ⟨_, _, _, _, _, _, _, _, _, _, _, _, _, _, _, _, _, _, _, _, _, _, _, _, _, _, _, _, _, _, _, _, _, _, _, rfl, rfl, HJ.out, HA.out, HE.out.1, HE.out.2.1, HE.out.2.2.1, HE.out.2.2.2.1, HE.out.2.2.2.2.1, fun _ => rfl, HE.out.2.2.2.2.2.2.1, HE.out.2.2.2.2.2.2.2.1, HE.out.2.2.2.2.2.2.2.2.1, HE.out.2.2.2.2.2.2.2.2.2.1, HE.out.2.2.2.2.2.2.2.2.2.2.1, HE.out.2.2.2.2.2.2.2.2.2.2.2.1, HE.out.2.2.2.2.2.2.2.2.2.2.2.2.1, HE.out.2.2.2.2.2.2.2.2.2.2.2.2.2.1, trivial⟩
        · refine wpOp_step (o := _) rfl (fun K hK => ?_)
          have HK := Lib.hid hK
          clear hK
          have hd := hi3 _ rfl
          simp [Region.binds] at hd
          have q5 : b5 = true := by (cases b5 with | true => rfl | false => simp at hd)
          clear hi3 hi2 hd
          obtain rfl := HE.out.2.2.2.2.2.1 q5
          clear q5
          go_simp
          exact HK.out _ _ ⟨_, _, _, _, _, _, _, _, _, _, _, _, _, _, _, _, _, _, _, _, _, _, _, _, _, _, _, _, _, _, _, _, _, _, _, rfl, rfl, HJ.out, HA.out, HE.out.1, HE.out.2.1, HE.out.2.2.1, HE.out.2.2.2.1, HE.out.2.2.2.2.1, HE.out.2.2.2.2.2.1, fun _ => rfl, HE.out.2.2.2.2.2.2.2.1, HE.out.2.2.2.2.2.2.2.2.1, HE.out.2.2.2.2.2.2.2.2.2.1, HE.out.2.2.2.2.2.2.2.2.2.2.1, HE.out.2.2.2.2.2.2.2.2.2.2.2.1, HE.out.2.2.2.2.2.2.2.2.2.2.2.2.1, HE.out.2.2.2.2.2.2.2.2.2.2.2.2.2.1, trivial⟩
        · refine wpOp_step (o := _) rfl (fun K hK => ?_)
          have HK := Lib.hid hK
          clear hK
          have hd := hi3 _ rfl
          simp [Region.binds] at hd
          have q3 : b3 = true := by (cases b3 with | true => rfl | false => simp at hd)
          have q6 : b6 = true := by (cases b6 with | true => rfl | false => simp at hd)
          clear hi3 hi2 hd
          obtain rfl := HE.out.2.2.2.1 q3
          obtain rfl := HE.out.2.2.2.2.2.2.1 q6
          clear q3 q6
          go_simp
          exact HK.out _ _ ⟨_, _, _, _, _, _, _, _, _, _, _, _, _, _, _, _, _, _, _, _, _, _, _, _, _, _, _, _, _, _, _, _, _, _, _, rfl, rfl, HJ.out, HA.out, HE.out.1, HE.out.2.1, HE.out.2.2.1, HE.out.2.2.2.1, HE.out.2.2.2.2.1, HE.out.2.2.2.2.2.1, HE.out.2.2.2.2.2.2.1, fun _ => rfl, HE.out.2.2.2.2.2.2.2.2.1, HE.out.2.2.2.2.2.2.2.2.2.1, HE.out.2.2.2.2.2.2.2.2.2.2.1, HE.out.2.2.2.2.2.2.2.2.2.2.2.1, HE.out.2.2.2.2.2.2.2.2.2.2.2.2.1, HE.out.2.2.2.2.2.2.2.2.2.2.2.2.2.1, trivial⟩
        · refine wpOp_step (o := _) rfl (fun K hK => ?_)
          have HK := Lib.hid hK
          clear hK
          have hd := hi3 _ rfl
          simp [Region.binds] at hd
          have q7 : b7 = true := by (cases b7 with | true => rfl | false => simp at hd)
          clear hi3 hi2 hd
          obtain rfl := HE.out.2.2.2.2.2.2.2.1 q7
          clear q7
          have hbW := HB.out.trans (HJ.out.upd.below HB.out.size (Nat.le_trans HB.out.size HJ.out.low))
          refine wq_ldr (B := (evA l[l.length - 1])) rfl rfl rfl ((HL.out.keep hbW).row (l.length - 1) LZ.out) Try.underlying24 rfl evInfo ?_
          exact HK.out _ _ ⟨_, _, _, _, _, _, _, _, _, _, _, _, _, _, _, _, _, _, _, _, _, _, _, _, _, _, _, _, _, _, _, _, _, _, _, rfl, rfl, HJ.out, HA.out, HE.out.1, HE.out.2.1, HE.out.2.2.1, HE.out.2.2.2.1, HE.out.2.2.2.2.1, HE.out.2.2.2.2.2.1, HE.out.2.2.2.2.2.2.1, HE.out.2.2.2.2.2.2.2.1, fun _ => rfl, HE.out.2.2.2.2.2.2.2.2.2.1, HE.out.2.2.2.2.2.2.2.2.2.2.1, HE.out.2.2.2.2.2.2.2.2.2.2.2.1, HE.out.2.2.2.2.2.2.2.2.2.2.2.2.1, HE.out.2.2.2.2.2.2.2.2.2.2.2.2.2.1, trivial⟩
        · refine wpOp_step (o := _) rfl (fun K hK => ?_)
          have HK := Lib.hid hK
          clear hK
          have hd := hi3 _ rfl
          simp [Region.binds] at hd
          have q2 : b2 = true := by (cases b2 with | true => rfl | false => simp at hd)
          have q8 : b8 = true := by (cases b8 with | true => rfl | false => simp at hd)
          clear hi3 hi2 hd
          obtain rfl := HE.out.2.2.1 q2
          obtain rfl := HE.out.2.2.2.2.2.2.2.2.1 q8
          clear q2 q8
          refine wq_bslice rfl rfl (bs2_ev l[0] l[l.length - 1] W) rfl ?_
          exact HK.out _ _ ⟨_, _, _, _, _, _, _, _, _, _, _, _, _, _, _, _, _, _, _, _, _, _, _, _, _, _, _, _, _, _, _, _, _, _, _, rfl, rfl, HJ.out.grow ((Below.refl _ _).alloc (Nat.le_refl _) _), AJ.make HJ.out, HE.out.1, HE.out.2.1, HE.out.2.2.1, HE.out.2.2.2.1, HE.out.2.2.2.2.1, HE.out.2.2.2.2.2.1, HE.out.2.2.2.2.2.2.1, HE.out.2.2.2.2.2.2.2.1, HE.out.2.2.2.2.2.2.2.2.1, HE.out.2.2.2.2.2.2.2.2.2.1, HE.out.2.2.2.2.2.2.2.2.2.2.1, HE.out.2.2.2.2.2.2.2.2.2.2.2.1, HE.out.2.2.2.2.2.2.2.2.2.2.2.2.1, HE.out.2.2.2.2.2.2.2.2.2.2.2.2.2.1, trivial⟩
        · refine wpOp_step (o := _) rfl (fun K hK => ?_)
          have HK := Lib.hid hK
          clear hK
          have hd := hi3 _ rfl
          simp [Region.binds] at hd
          have q9 : b9 = true := by (cases b9 with | true => rfl | false => simp at hd)
          clear hi3 hi2 hd
          obtain ⟨hxs, hks, _⟩ := HA.out.var q9
          subst hxs
          have HKS := Lib.hid hks
          clear hks
          clear q9
          go_simp
          go_at_call 15
          refine (R3.out _ _ HKS.out).mono ?_
          rintro e w1 ⟨rfl, hb⟩
          exact HK.out _ _ ⟨_, _, _, _, _, _, _, _, _, _, _, _, _, _, _, _, _, _, _, _, _, _, _, _, _, _, _, _, _, _, _, _, _, _, _, rfl, rfl, HJ.out.grow hb, HA.out.grow hb, HE.out.1, HE.out.2.1, HE.out.2.2.1, HE.out.2.2.2.1, HE.out.2.2.2.2.1, HE.out.2.2.2.2.2.1, HE.out.2.2.2.2.2.2.1, HE.out.2.2.2.2.2.2.2.1, HE.out.2.2.2.2.2.2.2.2.1, fun _ => rfl, HE.out.2.2.2.2.2.2.2.2.2.2.1, HE.out.2.2.2.2.2.2.2.2.2.2.2.1, HE.out.2.2.2.2.2.2.2.2.2.2.2.2.1, HE.out.2.2.2.2.2.2.2.2.2.2.2.2.2.1, trivial⟩
        · refine wpOp_step (o := _) rfl (fun K hK => ?_)
          have HK := Lib.hid hK
          clear hK
          have hd := hi3 _ rfl
          simp [Region.binds] at hd
          have q10 : b10 = true := by (cases b10 with | true => rfl | false => simp at hd)
          clear hi3 hi2 hd
          obtain rfl := HE.out.2.2.2.2.2.2.2.2.2.1 q10
          clear q10
          go_simp
          exact HK.out _ _ ⟨_, _, _, _, _, _, _, _, _, _, _, _, _, _, _, _, _, _, _, _, _, _, _, _, _, _, _, _, _, _, _, _, _, _, _, rfl, rfl, HJ.out, HA.out, HE.out.1, HE.out.2.1, HE.out.2.2.1, HE.out.2.2.2.1, HE.out.2.2.2.2.1, HE.out.2.2.2.2.2.1, HE.out.2.2.2.2.2.2.1, HE.out.2.2.2.2.2.2.2.1, HE.out.2.2.2.2.2.2.2.2.1, HE.out.2.2.2.2.2.2.2.2.2.1, fun _ => rfl, HE.out.2.2.2.2.2.2.2.2.2.2.2.1, HE.out.2.2.2.2.2.2.2.2.2.2.2.2.1, HE.out.2.2.2.2.2.2.2.2.2.2.2.2.2.1, trivial⟩
        · refine wpOp_step (o := _) rfl (fun K hK => ?_)
          have HK := Lib.hid hK
          clear hK
          have hd := hi3 _ rfl
          simp [Region.binds] at hd
          have q11 : b11 = true := by (cases b11 with | true => rfl | false => simp at hd)
          clear hi3 hi2 hd
          obtain rfl := HE.out.2.2.2.2.2.2.2.2.2.2.1 q11
          clear q11
          go_simp
          exact HK.out _ _ ⟨_, _, _, _, _, _, _, _, _, _, _, _, _, _, _, _, _, _, _, _, _, _, _, _, _, _, _, _, _, _, _, _, _, _, _, rfl, rfl, HJ.out, HA.out, HE.out.1, HE.out.2.1, HE.out.2.2.1, HE.out.2.2.2.1, HE.out.2.2.2.2.1, HE.out.2.2.2.2.2.1, HE.out.2.2.2.2.2.2.1, HE.out.2.2.2.2.2.2.2.1, HE.out.2.2.2.2.2.2.2.2.1, HE.out.2.2.2.2.2.2.2.2.2.1, HE.out.2.2.2.2.2.2.2.2.2.2.1, fun _ => rfl, HE.out.2.2.2.2.2.2.2.2.2.2.2.2.1, HE.out.2.2.2.2.2.2.2.2.2.2.2.2.2.1, trivial⟩
        · refine wpOp_step (o := _) rfl (fun K hK => ?_)
          have HK := Lib.hid hK
          clear hK
          have hd := hi3 _ rfl
          simp [Region.binds] at hd
          have q11 : b11 = true := by (cases b11 with | true => rfl | false => simp at hd)
          clear hi3 hi2 hd
          obtain rfl := HE.out.2.2.2.2.2.2.2.2.2.2.1 q11
          clear q11
          go_simp
          exact HK.out _ _ ⟨_, _, _, _, _, _, _, _, _, _, _, _, _, _, _, _, _, _, _, _, _, _, _, _, _, _, _, _, _, _, _, _, _, _, _, rfl, rfl, HJ.out, HA.out, HE.out.1, HE.out.2.1, HE.out.2.2.1, HE.out.2.2.2.1, HE.out.2.2.2.2.1, HE.out.2.2.2.2.2.1, HE.out.2.2.2.2.2.2.1, HE.out.2.2.2.2.2.2.2.1, HE.out.2.2.2.2.2.2.2.2.1, HE.out.2.2.2.2.2.2.2.2.2.1, HE.out.2.2.2.2.2.2.2.2.2.2.1, HE.out.2.2.2.2.2.2.2.2.2.2.2.1, fun _ => rfl, HE.out.2.2.2.2.2.2.2.2.2.2.2.2.2.1, trivial⟩
        · refine wpOp_step (o := _) rfl (fun K hK => ?_)
          have HK := Lib.hid hK
          clear hK
          clear hi3
          obtain rfl : b14 = false := hi2
          go_simp
          exact HK.out _ _ ⟨_, _, _, _, _, _, _, _, _, _, _, _, _, _, _, _, _, _, _, _, _, _, _, _, _, _, _, _, _, _, _, _, _, _, _, rfl, rfl, HJ.out.alloc, HA.out.alloc _, HE.out.1, HE.out.2.1, HE.out.2.2.1, HE.out.2.2.2.1, HE.out.2.2.2.2.1, HE.out.2.2.2.2.2.1, HE.out.2.2.2.2.2.2.1, HE.out.2.2.2.2.2.2.2.1, HE.out.2.2.2.2.2.2.2.2.1, HE.out.2.2.2.2.2.2.2.2.2.1, HE.out.2.2.2.2.2.2.2.2.2.2.1, HE.out.2.2.2.2.2.2.2.2.2.2.2.1, HE.out.2.2.2.2.2.2.2.2.2.2.2.2.1, HE.out.2.2.2.2.2.2.2.2.2.2.2.2.2.1, trivial⟩
        · refine wpOp_step (o := _) rfl (fun K hK => ?_)
          have HK := Lib.hid hK
          clear hK
          have hd := hi3 _ rfl
          simp [Region.binds] at hd
          have q14 : b14 = true := by (cases b14 with | true => rfl | false => simp at hd)
          have q12 : b12 = true := by (cases b12 with | true => rfl | false => simp at hd)
          clear hi3 hi2 hd
          obtain rfl := HE.out.2.2.2.2.2.2.2.2.2.2.2.1 q12
          subst q14
          clear q12
          obtain ⟨hp, _⟩ := HJ.out.var rfl
          subst hp
          rw [if_pos (by rfl)]
          refine wp_store_mid 28 _ _ rfl g 0 (wdA (cutU N)) rfl rfl (HJ.out.there (by rfl)) wdInfo (wdA_one (cutU N)) ?_
          exact HK.out _ _ ⟨_, _, _, _, _, _, _, _, _, _, _, _, _, _, _, _, _, _, _, _, _, _, _, _, _, _, _, _, _, _, _, _, _, _, _, rfl, rfl, HJ.out.store (by rfl), HA.out.store _, HE.out.1, HE.out.2.1, HE.out.2.2.1, HE.out.2.2.2.1, HE.out.2.2.2.2.1, HE.out.2.2.2.2.2.1, HE.out.2.2.2.2.2.2.1, HE.out.2.2.2.2.2.2.2.1, HE.out.2.2.2.2.2.2.2.2.1, HE.out.2.2.2.2.2.2.2.2.2.1, HE.out.2.2.2.2.2.2.2.2.2.2.1, HE.out.2.2.2.2.2.2.2.2.2.2.2.1, HE.out.2.2.2.2.2.2.2.2.2.2.2.2.1, HE.out.2.2.2.2.2.2.2.2.2.2.2.2.2.1, trivial⟩
        · refine wpOp_step (o := _) rfl (fun K hK => ?_)
          have HK := Lib.hid hK
          clear hK
          have hd := hi3 _ rfl
          simp [Region.binds] at hd
          have q13 : b13 = true := by (cases b13 with | true => rfl | false => simp at hd)
          clear hi3 hi2 hd
          obtain rfl := HE.out.2.2.2.2.2.2.2.2.2.2.2.2.1 q13
          clear q13
          go_simp
          exact HK.out _ _ ⟨_, _, _, _, _, _, _, _, _, _, _, _, _, _, _, _, _, _, _, _, _, _, _, _, _, _, _, _, _, _, _, _, _, _, _, rfl, rfl, HJ.out, HA.out, HE.out.1, HE.out.2.1, HE.out.2.2.1, HE.out.2.2.2.1, HE.out.2.2.2.2.1, HE.out.2.2.2.2.2.1, HE.out.2.2.2.2.2.2.1, HE.out.2.2.2.2.2.2.2.1, HE.out.2.2.2.2.2.2.2.2.1, HE.out.2.2.2.2.2.2.2.2.2.1, HE.out.2.2.2.2.2.2.2.2.2.2.1, HE.out.2.2.2.2.2.2.2.2.2.2.2.1, HE.out.2.2.2.2.2.2.2.2.2.2.2.2.1, fun _ => rfl, trivial⟩
      intro listed act W hJ hr
      obtain ⟨b0, b1, b2, b3, b4, b5, b6, b7, b8, b9, b10, b11, b12, b13, b14, b15, b16, x0, x1, x2, x3, x4, x5, x6, x7, x8, x9, x10, x11, x12, x13, x14, x16, g, gs, rfl, rfl, hJ, hA, hE⟩ := hJ
      have HJ := Lib.hid hJ
      have HA := Lib.hid hA
      have HE := Lib.hid hE
      clear hJ hA hE
      have q0 : b0 = true := by
        cases b0 with
        | true => rfl
        | false =>
          have hm : 0 ∈ ([] : List Nat) := by rw [← hr]; exact fl_in (o := _) rfl rfl (by simp [Region.binds])
          cases hm
      subst q0
      have q1 : b1 = true := by
        cases b1 with
        | true => rfl
        | false =>
          have hm : 1 ∈ ([] : List Nat) := by rw [← hr]; exact fl_in (o := _) rfl rfl (by simp [Region.binds])
          cases hm
      subst q1
      have q2 : b2 = true := by
        cases b2 with
        | true => rfl
        | false =>
          have hm : 2 ∈ ([] : List Nat) := by rw [← hr]; exact fl_in (o := _) rfl rfl (by simp [Region.binds])
          cases hm
      subst q2
      have q3 : b3 = true := by
        cases b3 with
        | true => rfl
        | false =>
          have hm : 3 ∈ ([] : List Nat) := by rw [← hr]; exact fl_in (o := _) rfl rfl (by simp [Region.binds])
          cases hm
      subst q3
      have q4 : b4 = true := by
        cases b4 with
        | true => rfl
        | false =>
          have hm : 4 ∈ ([] : List Nat) := by rw [← hr]; exact fl_in (o := _) rfl rfl (by simp [Region.binds])
          cases hm
      subst q4
      have q5 : b5 = true := by
        cases b5 with
        | true => rfl
        | false =>
          have hm : 5 ∈ ([] : List Nat) := by rw [← hr]; exact fl_in (o := _) rfl rfl (by simp [Region.binds])
          cases hm
      subst q5
      have q6 : b6 = true := by
        cases b6 with
        | true => rfl
        | false =>
          have hm : 6 ∈ ([] : List Nat) := by rw [← hr]; exact fl_in (o := _) rfl rfl (by simp [Region.binds])
          cases hm
      subst q6
      have q7 : b7 = true := by
        cases b7 with
        | true => rfl
        | false =>
          have hm : 7 ∈ ([] : List Nat) := by rw [← hr]; exact fl_in (o := _) rfl rfl (by simp [Region.binds])
          cases hm
      subst q7
      have q8 : b8 = true := by
        cases b8 with
        | true => rfl
        | false =>
          have hm : 8 ∈ ([] : List Nat) := by rw [← hr]; exact fl_in (o := _) rfl rfl (by simp [Region.binds])
          cases hm
      subst q8
      have q9 : b9 = true := by
        cases b9 with
        | true => rfl
        | false =>
          have hm : 9 ∈ ([] : List Nat) := by rw [← hr]; exact fl_in (o := _) rfl rfl (by simp [Region.binds])
          cases hm
      subst q9
      have q10 : b10 = true := by
        cases b10 with
        | true => rfl
        | false =>
          have hm : 10 ∈ ([] : List Nat) := by rw [← hr]; exact fl_in (o := _) rfl rfl (by simp [Region.binds])
          cases hm
      subst q10
      have q11 : b11 = true := by
        cases b11 with
        | true => rfl
        | false =>
          have hm : 11 ∈ ([] : List Nat) := by rw [← hr]; exact fl_in (o := _) rfl rfl (by simp [Region.binds])
          cases hm
      subst q11
      have q12 : b12 = true := by
        cases b12 with
        | true => rfl
        | false =>
          have hm : 12 ∈ ([] : List Nat) := by rw [← hr]; exact fl_in (o := _) rfl rfl (by simp [Region.binds])
          cases hm
      subst q12
      have q13 : b13 = true := by
        cases b13 with
        | true => rfl
        | false =>
          have hm : 13 ∈ ([] : List Nat) := by rw [← hr]; exact fl_in (o := _) rfl rfl (by simp [Region.binds])
          cases hm
      subst q13
      have q14 : b14 = true := by
        cases b14 with
        | true => rfl
        | false =>
          have hm : 14 ∈ ([] : List Nat) := by rw [← hr]; exact fl_in (o := _) rfl rfl (by simp [Region.binds])
          cases hm
      subst q14
      have q15 : b15 = true := by
        cases b15 with
        | true => rfl
        | false =>
          have hm : 15 ∈ ([] : List Nat) := by rw [← hr]; exact fl_in (o := _) rfl rfl (by simp [Region.binds])
          cases hm
      subst q15
      have q16 : b16 = true := by
        cases b16 with
        | true => rfl
        | false =>
          have hm : 16 ∈ ([] : List Nat) := by rw [← hr]; exact fl_in (o := _) rfl rfl (by simp [Region.binds])
          cases hm
      subst q16
      clear hr
      obtain rfl := HE.out.1 rfl
      obtain rfl := HE.out.2.1 rfl
      obtain rfl := HE.out.2.2.1 rfl
      obtain rfl := HE.out.2.2.2.1 rfl
      obtain rfl := HE.out.2.2.2.2.1 rfl
      obtain rfl := HE.out.2.2.2.2.2.1 rfl
      obtain rfl := HE.out.2.2.2.2.2.2.1 rfl
      obtain rfl := HE.out.2.2.2.2.2.2.2.1 rfl
      obtain rfl := HE.out.2.2.2.2.2.2.2.2.1 rfl
      obtain rfl := HE.out.2.2.2.2.2.2.2.2.2.1 rfl
      obtain rfl := HE.out.2.2.2.2.2.2.2.2.2.2.1 rfl
      obtain rfl := HE.out.2.2.2.2.2.2.2.2.2.2.2.1 rfl
      obtain rfl := HE.out.2.2.2.2.2.2.2.2.2.2.2.2.1 rfl
      obtain rfl := HE.out.2.2.2.2.2.2.2.2.2.2.2.2.2.1 rfl
      obtain ⟨hp, hvar⟩ := HJ.out.var rfl
      subst hp
      have hvar : W.heap[g]? = some (.cells (wdA (cutU N)) 28 (0, 0)) := hvar
      have HVAR := Lib.hid hvar
      clear hvar
      have HUPD := Lib.hid HJ.out.upd
      have HLOW := Lib.hid HJ.out.low
      obtain ⟨hxs, _, _⟩ := HA.out.var rfl
      subst hxs
      clear HJ HA HE
      have hlow := HLOW.out
      have n1_3 := Lib.hid (Blk.ne_of_le k1 hlow)
      have k3 : Blk W g 28 (wdA (cutU N)) := HVAR.out
      replace k1 := k1.upd HUPD.out n1_3.out
      replace HB := Lib.hid (HB.out.trans (HUPD.out.below HB.out.size (Nat.le_trans HB.out.size hlow)))
      clear HVAR HUPD HLOW hlow
      go_wp2_with (first
          | ((with_reducible refine at_slot 85 ?_); refine wl_ld0 rfl rfl rfl k1 Try.underlying28 rfl wdInfo ?_)
          | ((with_reducible refine at_slot 86 ?_); refine wl_ld0 rfl rfl rfl k3 Try.underlying28 rfl wdInfo ?_)
          | ((with_reducible refine at_slot 87 ?_); refine wl_bin (v := .bool true) rfl rfl (run_eqGuard_agg _ _ _ _ _ _ _ (by kernel_rfl)) (wd_eql_yes rfl _) ?_))
      go_ret
      exact ⟨rfl, HB.out⟩
theorem lo_any (ao : Option Addr) (b off cap : Nat) (l : List Ev) (hm : l.length ≤ maxLen) (w : World) (h : EvsAt w ao b off l) :
    Calls Try.prog 5 #[.slice ao l.length cap] w fun e w' => e = .returned (.bool true) ∧ Below w.heap.size w w' := by
  have hm' : l.length ≤ 9223372036854775807 := by unfold maxLen at hm; omega
  by_cases h1 : l.length < 2
  · exact lo_e1 ao b off cap l hm' h1 w h
  · by_cases h2 : 200 < l.length
    · exact lo_e2 ao b off cap l hm' h1 h2 w h
    · exact lo_main ao b off cap l h1 h2 w h
end Go.Proofs.Ytgijejdehenmpaa
