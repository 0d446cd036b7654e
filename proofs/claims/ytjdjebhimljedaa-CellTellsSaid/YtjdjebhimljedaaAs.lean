/-
  MERGES PUT TOGETHER IN ANY WAY; parts of a list; what rises.
-/
import Derived.Test.YtjdjebhimljedaaL8
namespace Go.Proofs.Ytjdjebhimljedaa
open Go Go.RowKit

theorem meE_ok {a b : Ce} (h : meE a b = 0) : CeOk a ∧ CeOk b ∧ (a = zeroCe ∨ b = zeroCe ∨ a.l.t < b.f.t) := by
  unfold meE at h
  split at h
  · rename_i hab
    split at h
    · rename_i hc; exact ⟨hab.1, hab.2, hc⟩
    · exact absurd h (by decide)
  · exact absurd h (by decide)
theorem meE_mk {a b : Ce} (ha : CeOk a) (hb : CeOk b) (h : a = zeroCe ∨ b = zeroCe ∨ a.l.t < b.f.t) : meE a b = 0 := by
  unfold meE
  rw [if_pos (show CeOk a ∧ CeOk b from ⟨ha, hb⟩), if_pos h]
theorem meE_no {a b : Ce} (h : meE a b ≠ 0) : meC a b = zeroCe := by
  unfold meC
  split
  · rename_i hab
    split
    · rename_i hz; exact absurd (meE_mk hab.1 hab.2 (Or.inl hz)) h
    · split
      · rename_i hz; exact absurd (meE_mk hab.1 hab.2 (Or.inr (Or.inl hz))) h
      · split
        · rename_i hz; exact absurd (meE_mk hab.1 hab.2 (Or.inr (Or.inr hz))) h
        · rfl
  · rfl
theorem nz_pos {c : Ce} (h : CeOk c) (hz : ¬ c = zeroCe) : 1 ≤ c.n := (h.ends hz).n
theorem mgC_nz {a b : Ce} (ha : CeOk a) (hb : CeOk b) (za : ¬ a = zeroCe) (zb : ¬ b = zeroCe) : ¬ mgC a b = zeroCe := fun e => by
  have h1 := nz_pos ha za
  have h2 := nz_pos hb zb
  have : a.n + b.n = 0 := congrArg Ce.n e
  omega
theorem mg_small {a b : Ce} (ha : CeOk a) (hb : CeOk b) (za : ¬ a = zeroCe) (zb : ¬ b = zeroCe) (ht : a.l.t < b.f.t) : a.i.n + ((btC a.l b.f).i.n + (b.i.n + 0)) < 170141183460469231731687303715884105728 := by
  have := (bt_bd (ha.ends za).l (hb.ends zb).f ht).2.2.2.2.2.2
  have := ha.bd.i; have := hb.bd.i
  omega
theorem mg_assoc {a b c : Ce} (ha : CeOk a) (hb : CeOk b) (hc : CeOk c) (za : ¬ a = zeroCe) (zb : ¬ b = zeroCe) (zc : ¬ c = zeroCe) (h1 : a.l.t < b.f.t) (h2 : b.l.t < c.f.t) : mgC (mgC a b) c = mgC a (mgC b c) := by
  have s1 := mg_small ha hb za zb h1
  have s2 := mg_small hb hc zb zc h2
  have z1 := (bt_bd (ha.ends za).l (hb.ends zb).f h1).2.2.2.2.2.2
  have z2 := (bt_bd (hb.ends zb).l (hc.ends zc).f h2).2.2.2.2.2.2
  have i1 := ha.bd.i; have i2 := hb.bd.i; have i3 := hc.bd.i
  have e1 : (mgC a b).l = b.l := rfl
  have e2 : (mgC b c).f = b.f := rfl
  refine Ce.ext' ?_ rfl rfl ?_ ?_ ?_ ?_
  · show a.n + b.n + c.n = a.n + (b.n + c.n); omega
  · show cutU ((cutU _).n + ((btC b.l c.f).i.n + (c.i.n + 0))) = cutU (a.i.n + ((btC a.l b.f).i.n + ((cutU _).n + 0)))
    rw [cutU_n (by omega), cutU_n (by omega)]
    congr 1
    omega
  · show a.r + (btC a.l b.f).r + b.r + (btC b.l c.f).r + c.r = a.r + (btC a.l b.f).r + (b.r + (btC b.l c.f).r + c.r); omega
  · show a.g + (btC a.l b.f).g + b.g + (btC b.l c.f).g + c.g = a.g + (btC a.l b.f).g + (b.g + (btC b.l c.f).g + c.g); omega
  · show a.s + (btC a.l b.f).s + b.s + (btC b.l c.f).s + c.s = a.s + (btC a.l b.f).s + (b.s + (btC b.l c.f).s + c.s); omega
/-- Three merge to the same, whichever two are first. -/
theorem me_assoc {a b c : Ce} (h1 : meE a b = 0) (h2 : meE b c = 0) : meE (meC a b) c = meE a (meC b c) ∧ meC (meC a b) c = meC a (meC b c) := by
  obtain ⟨ha, hb, k1⟩ := meE_ok h1
  obtain ⟨_, hc, k2⟩ := meE_ok h2
  by_cases za : a = zeroCe
  · subst za
    rw [(meC_zero hb).1, (meC_zero (meC_ok b c)).1, (meC_zero (meC_ok b c)).2, h2]
    exact ⟨rfl, rfl⟩
  · by_cases zb : b = zeroCe
    · subst zb
      rw [(meC_zeroR ha).1, (meC_zero hc).1]
      exact ⟨rfl, rfl⟩
    · by_cases zc : c = zeroCe
      · subst zc
        rw [(meC_zeroR hb).1, (meC_zeroR (meC_ok a b)).1, (meC_zeroR (meC_ok a b)).2, h1]
        exact ⟨rfl, rfl⟩
      · have t1 : a.l.t < b.f.t := k1.elim (fun h => absurd h za) fun h => h.elim (fun h => absurd h zb) id
        have t2 : b.l.t < c.f.t := k2.elim (fun h => absurd h zb) fun h => h.elim (fun h => absurd h zc) id
        have m1 := meC_good ha hb za zb t1
        have m2 := meC_good hb hc zb zc t2
        have o1 : CeOk (mgC a b) := mgC_ok ha hb za zb t1
        have o2 : CeOk (mgC b c) := mgC_ok hb hc zb zc t2
        have n1 := mgC_nz ha hb za zb
        have n2 := mgC_nz hb hc zb zc
        rw [m1.1, m2.1]
        have m3 := meC_good o1 hc n1 zc (show b.l.t < c.f.t from t2)
        have m4 := meC_good ha o2 za n2 (show a.l.t < b.f.t from t1)
        rw [m3.1, m3.2, m4.1, m4.2]
        exact ⟨rfl, mg_assoc ha hb hc za zb zc t1 t2⟩
theorem me_count {a b : Ce} (h : meE a b = 0) : (meC a b).n = a.n + b.n := by
  obtain ⟨ha, hb, k⟩ := meE_ok h
  by_cases za : a = zeroCe
  · rw [za, (meC_zero hb).1]; show b.n = 0 + b.n; omega
  · by_cases zb : b = zeroCe
    · rw [zb, (meC_zeroR ha).1]; show a.n = a.n + 0; omega
    · have t : a.l.t < b.f.t := k.elim (fun h => absurd h za) fun h => h.elim (fun h => absurd h zb) id
      rw [(meC_good ha hb za zb t).1]; rfl

theorem allC_cons {acc d : Ce} {l : List Ce} (h : meE acc d = 0) : allC acc (d :: l) = allC (meC acc d) l ∧ allE acc (d :: l) = allE (meC acc d) l := ⟨if_pos h, if_pos h⟩
theorem allE_cons {acc d : Ce} {l : List Ce} (h : allE acc (d :: l) = 0) : meE acc d = 0 ∧ allE (meC acc d) l = 0 := by
  by_cases hd : meE acc d = 0
  · exact ⟨hd, by rw [← (allC_cons hd).2]; exact h⟩
  · have : allE acc (d :: l) = meE acc d := if_neg hd
    exact absurd (this.symm.trans h) hd
theorem allC_snoc (acc : Ce) (l : List Ce) (c : Ce) (h : allE acc l = 0) : allC acc (l ++ [c]) = (if meE (allC acc l) c = 0 then meC (allC acc l) c else zeroCe) ∧ allE acc (l ++ [c]) = meE (allC acc l) c := by
  induction l generalizing acc with
  | nil =>
    refine ⟨rfl, ?_⟩
    show (if meE acc c = 0 then (0 : Int) else meE acc c) = meE acc c
    split
    · rename_i e; exact e.symm
    · rfl
  | cons d l ih =>
    obtain ⟨hd, h'⟩ := allE_cons h
    rw [List.cons_append, (allC_cons hd).1, (allC_cons hd).2, (allC_cons hd).1]
    exact ih _ h'
theorem allE_snoc {acc : Ce} {l : List Ce} {c : Ce} (h : allE acc (l ++ [c]) = 0) : allE acc l = 0 ∧ meE (allC acc l) c = 0 := by
  have h1 : allE acc l = 0 := by
    induction l generalizing acc with
    | nil => rfl
    | cons d l ih =>
      simp only [List.cons_append, allE] at h ⊢
      split at h
      · rename_i hd; rw [if_pos hd]; exact ih h
      · rename_i hd; exact absurd h hd
  exact ⟨h1, by rw [← (allC_snoc acc l c h1).2]; exact h⟩
theorem allC_ok {acc : Ce} (h : CeOk acc) (l : List Ce) : CeOk (allC acc l) := by
  induction l generalizing acc with
  | nil => exact h
  | cons d l ih =>
    simp only [allC]
    split
    · exact ih (meC_ok _ _)
    · exact zeroOk
theorem snoc_ind {α : Type} {P : List α → Prop} (h0 : P []) (h1 : ∀ l a, P l → P (l ++ [a])) (l : List α) : P l := by
  have h : ∀ m : List α, P m.reverse := by
    intro m
    induction m with
    | nil => exact h0
    | cons a m ih => rw [List.reverse_cons]; exact h1 _ _ ih
  have := h l.reverse
  rwa [List.reverse_reverse] at this
/-- What is merged behind something is the merge of that, and of all of it. -/
theorem all_part {acc : Ce} (ha : CeOk acc) (l : List Ce) : allE acc l = 0 → allE zeroCe l = 0 ∧ meE acc (allC zeroCe l) = 0 ∧ meC acc (allC zeroCe l) = allC acc l := by
  refine snoc_ind (P := fun l => allE acc l = 0 → allE zeroCe l = 0 ∧ meE acc (allC zeroCe l) = 0 ∧ meC acc (allC zeroCe l) = allC acc l) ?_ ?_ l
  · exact fun _ => ⟨rfl, (meC_zeroR ha).2, (meC_zeroR ha).1⟩
  · intro l c ih h
    obtain ⟨h1, h2⟩ := allE_snoc h
    obtain ⟨i1, i2, i3⟩ := ih h1
    obtain ⟨_, hc, k⟩ := meE_ok h2
    have ox := allC_ok zeroOk l
    have hx : meE (allC zeroCe l) c = 0 := by
      refine meE_mk ox hc ?_
      by_cases zx : allC zeroCe l = zeroCe
      · exact Or.inl zx
      · by_cases zc : c = zeroCe
        · exact Or.inr (Or.inl zc)
        · refine Or.inr (Or.inr ?_)
          rw [← i3] at k
          by_cases za : acc = zeroCe
          · rw [za, (meC_zero ox).1] at k
            exact k.elim (fun h => absurd h zx) fun h => h.elim (fun h => absurd h zc) id
          · obtain ⟨_, _, k2⟩ := meE_ok i2
            have t : acc.l.t < (allC zeroCe l).f.t := k2.elim (fun h => absurd h za) fun h => h.elim (fun h => absurd h zx) id
            rw [(meC_good ha ox za zx t).1] at k
            exact k.elim (fun h => absurd h (mgC_nz ha ox za zx)) fun h => h.elim (fun h => absurd h zc) id
    obtain ⟨s1, s2⟩ := allC_snoc zeroCe l c i1
    obtain ⟨s3, s4⟩ := allC_snoc acc l c h1
    rw [if_pos hx] at s1
    rw [if_pos h2] at s3
    have hms := me_assoc i2 hx
    rw [i3] at hms
    refine ⟨s2.trans hx, ?_, ?_⟩
    · rw [s1, ← hms.1]; exact h2
    · rw [s1, ← hms.2, s3]
theorem allC_append {acc : Ce} {l m : List Ce} (h : allE acc l = 0) : allC acc (l ++ m) = allC (allC acc l) m ∧ allE acc (l ++ m) = allE (allC acc l) m := by
  induction l generalizing acc with
  | nil => exact ⟨rfl, rfl⟩
  | cons d l ih =>
    obtain ⟨hd, h'⟩ := allE_cons h
    rw [List.cons_append, (allC_cons hd).1, (allC_cons hd).2, (allC_cons hd).1]
    exact ih h'
theorem allE_left {acc : Ce} {l m : List Ce} (h : allE acc (l ++ m) = 0) : allE acc l = 0 := by
  induction l generalizing acc with
  | nil => rfl
  | cons d l ih =>
    rw [List.cons_append] at h
    obtain ⟨hd, h'⟩ := allE_cons h
    rw [(allC_cons hd).2]
    exact ih h'
/-- Two parts of a list, and the list. -/
theorem all_two {l m : List Ce} (h : allE zeroCe (l ++ m) = 0) : allE zeroCe l = 0 ∧ allE zeroCe m = 0 ∧ meE (allC zeroCe l) (allC zeroCe m) = 0 ∧ meC (allC zeroCe l) (allC zeroCe m) = allC zeroCe (l ++ m) := by
  have h1 := allE_left h
  obtain ⟨a1, a2⟩ := allC_append (m := m) h1
  rw [a2] at h
  obtain ⟨p1, p2, p3⟩ := all_part (allC_ok zeroOk l) m h
  exact ⟨h1, p1, p2, by rw [p3, a1]⟩
theorem ofE_ok {l : List Ev} (h : ofE l = 0) : AllOk l ∧ allE zeroCe (l.map oneC) = 0 ∧ ofC l = allC zeroCe (l.map oneC) := by
  have ha : AllOk l := by
    refine Classical.byContradiction fun hn => ?_
    unfold ofE at h
    rw [if_neg hn] at h
    exact absurd h (by decide)
  obtain ⟨h1, h2⟩ := ofC_yes ha
  exact ⟨ha, by rw [← h2]; exact h, h1⟩
theorem of_two {l m : List Ev} (h : ofE (l ++ m) = 0) : ofE l = 0 ∧ ofE m = 0 ∧ meE (ofC l) (ofC m) = 0 ∧ meC (ofC l) (ofC m) = ofC (l ++ m) := by
  obtain ⟨ha, he, hc⟩ := ofE_ok h
  have hl : AllOk l := fun j hj => by
    have := ha j (by rw [List.length_append]; omega)
    rwa [List.getElem_append_left hj] at this
  have hm : AllOk m := fun j hj => by
    have := ha (l.length + j) (by rw [List.length_append]; omega)
    rw [List.getElem_append_right (by omega)] at this
    simpa using this
  rw [List.map_append] at he hc
  obtain ⟨p1, p2, p3, p4⟩ := all_two he
  rw [(ofC_yes hl).1, (ofC_yes hl).2, (ofC_yes hm).1, (ofC_yes hm).2]
  exact ⟨p1, p2, p3, p4.trans hc.symm⟩
theorem ofC_ok (l : List Ev) : CeOk (ofC l) := by
  unfold ofC
  split
  · exact allC_ok zeroOk _
  · exact zeroOk
theorem ri_all (m : List Ev) : ∀ (p : Ev) (acc : Ce), CeOk acc → ¬ acc = zeroCe → acc.l = p → allE acc (m.map oneC) = 0 → riE p m = 0 ∧ (allC acc (m.map oneC)).i.n = riN p acc.i.n m := by
  induction m with
  | nil => intro p acc _ _ _ _; exact ⟨rfl, rfl⟩
  | cons c m ih =>
    intro p acc ha hz hp h
    simp only [List.map_cons, allE, allC] at h ⊢
    split at h
    · rename_i hd
      rw [if_pos hd]
      obtain ⟨_, hc, k⟩ := meE_ok hd
      have hcz := oneC_nz c
      have t : acc.l.t < (oneC c).f.t := k.elim (fun h => absurd h hz) fun h => h.elim (fun h => absurd h hcz) id
      have t' : p.t < c.t := by rw [← hp]; exact t
      have hpo : EvOk p := by rw [← hp]; exact (ha.ends hz).l
      have hco : EvOk c := oneC_ok.1 hc
      have hbe := beE_good hpo hco t'
      have hbc := beC_good hpo hco t'
      have g := (meC_good ha hc hz hcz t).1
      have o := mgC_ok ha hc hz hcz t
      have hi : (meC acc (oneC c)).i.n = acc.i.n + (beC p c).i.n := by
        rw [g, hbc]
        show (cutU (acc.i.n + ((btC acc.l c).i.n + (U.zero.n + 0)))).n = _
        have s := mg_small ha hc hz hcz t
        rw [hp]
        have s' : acc.i.n + ((btC p c).i.n + (U.zero.n + 0)) < 170141183460469231731687303715884105728 := by rw [← hp]; exact s
        rw [cutU_n (by omega)]
        rfl
      have := ih c (meC acc (oneC c)) (by rw [g]; exact o) (by rw [g]; exact mgC_nz ha hc hz hcz) (by rw [g]; rfl) h
      simp only [riE, riN, hbe, if_true]
      rw [← hi]
      exact this
    · rename_i hd; exact absurd h hd
/-- What a cell of events says of how they rise. -/
theorem ris_of {l : List Ev} (h : ofE l = 0) : risE l = 0 ∧ risN l = (ofC l).i.n := by
  obtain ⟨ha, he, hc⟩ := ofE_ok h
  rw [hc]
  match l, ha, he with
  | [], _, _ => exact ⟨rfl, rfl⟩
  | [e], ha, _ =>
    have := ha 0 (by simp)
    refine ⟨evE_yes this, ?_⟩
    rw [show allC zeroCe ([e].map oneC) = oneC e from (all1 (oneC_ok.2 this)).1]
    rfl
  | e :: c :: m, ha, he =>
    have h0 : EvOk e := ha 0 (by simp)
    obtain ⟨z1, z2⟩ := meC_zero (oneC_ok.2 h0)
    have e1 : allC zeroCe ((e :: c :: m).map oneC) = allC (oneC e) ((c :: m).map oneC) := by
      rw [List.map_cons, (allC_cons z2).1, z1]
    have e2 : allE zeroCe ((e :: c :: m).map oneC) = allE (oneC e) ((c :: m).map oneC) := by
      rw [List.map_cons, (allC_cons z2).2, z1]
    rw [e2] at he
    rw [e1]
    have := ri_all (c :: m) e (oneC e) (oneC_ok.2 h0) (oneC_nz e) rfl he
    exact ⟨this.1, this.2.symm⟩
end Go.Proofs.Ytjdjebhimljedaa
