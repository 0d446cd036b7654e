/-
  PLAIN MATHEMATICS: events that happen later, all by as much; the ends of a cell of events.
-/
import Derived.Test.YtkoiogfhbipmjaaCm
namespace Go.Proofs.Ytkoiogfhbipmjaa
open Go Go.RowKit

/-- Later, by so much. -/
def shE (d : Int) (e : Ev) : Ev := ⟨e.t + d, e.v, if e.c > 0 then e.c + d else e.c, e.s⟩
theorem shE_ok {d : Int} {e : Ev} (hd : 0 ≤ d) (h : EvOk e) (ht : e.t + d < 35184372088832) : EvOk (shE d e) := by
  have h0 := h.t0; have h2 := h.c0; have h3 := h.c1
  refine ⟨by simp only [shE]; omega, ht, h.v0, h.v1, ?_, ?_, fun hs => ?_⟩
  · simp only [shE]; split <;> omega
  · simp only [shE]; split <;> omega
  · obtain ⟨a, b⟩ := h.st hs
    refine ⟨a, ?_⟩
    simp only [shE]
    rw [if_neg (by omega)]; exact b
theorem shE_bt {d : Int} {p c : Ev} (hd : 0 ≤ d) (hp : EvOk p) (hc : EvOk c) : btI (shE d p) (shE d c) = btI p c ∧ btR (shE d p) (shE d c) = btR p c ∧ btG (shE d p) (shE d c) = btG p c ∧ btS (shE d p) (shE d c) = btS p c := by
  have p0 := hp.t0; have c0 := hc.c0
  have key : (shE d p).t < (shE d c).c ↔ p.t < c.c := by
    simp only [shE]; split <;> omega
  have k2 : ((if (shE d p).t < (shE d c).c then (shE d c).t - (shE d c).c else if (shE d p).s = true then 0 else (shE d c).t - (shE d p).t) : Int) = if p.t < c.c then c.t - c.c else if p.s = true then 0 else c.t - p.t := by
    by_cases h : p.t < c.c
    · rw [if_pos h, if_pos (key.2 h)]
      simp only [shE]
      rw [if_pos (by omega)]; omega
    · rw [if_neg h, if_neg (fun x => h (key.1 x))]
      show (if p.s = true then (0 : Int) else (c.t + d) - (p.t + d)) = _
      split <;> omega
  refine ⟨?_, ?_, ?_, ?_⟩
  · simp only [btI, key]; rfl
  · simp only [btR, key]; rfl
  · simp only [btG, key]; rfl
  · unfold btS
    rw [k2]; rfl
def shC (d : Int) (x : Ce) : Ce := ⟨x.n, shE d x.f, shE d x.l, x.i, x.r, x.g, x.s⟩
theorem shC_nz {d : Int} {x : Ce} (h : 1 ≤ x.n) : ¬ shC d x = zeroCe := fun e => by
  have : x.n = 0 := congrArg Ce.n e
  omega
theorem shC_ok {d : Int} {x : Ce} (hd : 0 ≤ d) (h : CeOk x) (hz : ¬ x = zeroCe) (hl : x.l.t + d < 35184372088832) : CeOk (shC d x) := by
  obtain ⟨he, hn⟩ := h.resolve_left hz
  have ht := he.t
  have h1 := he.le
  refine Or.inr ⟨⟨he.n, shE_ok hd he.f (by omega), shE_ok hd he.l hl, fun h => ?_, fun h => ?_, ?_⟩, ⟨hn.r, hn.g, hn.s, ?_, hn.rg, hn.i⟩⟩
  · show shE d x.f = shE d x.l
    rw [he.one h]
  · have := he.more h
    show x.f.t + d < x.l.t + d
    omega
  · show x.n ≤ x.l.t + d - (x.f.t + d) + 1
    omega
  · have := hn.s1
    show x.s ≤ x.l.t + d - (x.f.t + d)
    omega
theorem shC_one (d : Int) (e : Ev) : shC d (oneC e) = oneC (shE d e) := rfl
theorem shC_me {d : Int} {a : Ce} {e : Ev} (hd : 0 ≤ d) (ha : CeOk a) (za : ¬ a = zeroCe) (hE : meE a (oneC e) = 0) (ht : e.t + d < 35184372088832) :
    meE (shC d a) (oneC (shE d e)) = 0 ∧ meC (shC d a) (oneC (shE d e)) = shC d (meC a (oneC e)) := by
  obtain ⟨-, hb, hlt⟩ := meE_ok hE
  have he := oneC_ok.1 hb
  have hlt : a.l.t < e.t := by
    rcases hlt with h | h | h
    · exact absurd h za
    · exact absurd h (oneC_nz e)
    · exact h
  have hna := (ha.ends za).n
  have hsa := shC_ok hd ha za (by omega)
  have hse : CeOk (oneC (shE d e)) := oneC_ok.2 (shE_ok hd he ht)
  obtain ⟨e1, e2⟩ := meC_good hsa hse (shC_nz hna) (oneC_nz _) (show a.l.t + d < e.t + d by omega)
  obtain ⟨f1, -⟩ := meC_good ha hb za (oneC_nz _) hlt
  refine ⟨e2, ?_⟩
  rw [e1, f1]
  obtain ⟨b1, b2, b3, b4⟩ := shE_bt hd (ha.ends za).l he
  unfold mgC
  have hbt : btC (shC d a).l (oneC (shE d e)).f = btC a.l (oneC e).f := by
    show btC (shE d a.l) (shE d e) = btC a.l e
    unfold btC btU
    rw [b1, b2, b3, b4]
  rw [hbt]
  rfl
theorem meC_l {a : Ce} {e : Ev} (ha : CeOk a) (za : ¬ a = zeroCe) (hE : meE a (oneC e) = 0) : (meC a (oneC e)).l = e ∧ (meC a (oneC e)).f = a.f ∧ ¬ meC a (oneC e) = zeroCe := by
  obtain ⟨-, hb, hlt⟩ := meE_ok hE
  have hlt : a.l.t < e.t := by
    rcases hlt with h | h | h
    · exact absurd h za
    · exact absurd h (oneC_nz e)
    · exact h
  obtain ⟨f1, -⟩ := meC_good ha hb za (oneC_nz _) hlt
  rw [f1]
  exact ⟨rfl, rfl, mgC_nz ha hb za (oneC_nz _)⟩
theorem shC_all {d : Int} (hd : 0 ≤ d) : ∀ (l : List Ev) (a : Ce), CeOk a → ¬ a = zeroCe → (∀ e, e ∈ l → e.t + d < 35184372088832) → allE a (l.map oneC) = 0 →
    allE (shC d a) ((l.map (shE d)).map oneC) = 0 ∧ allC (shC d a) ((l.map (shE d)).map oneC) = shC d (allC a (l.map oneC))
  | [], a, _, _, _, _ => ⟨rfl, rfl⟩
  | e :: l, a, ha, za, ht, hE => by
    obtain ⟨h1, h2⟩ := allE_cons hE
    obtain ⟨m1, m2⟩ := shC_me hd ha za h1 (ht e (by simp))
    obtain ⟨c1, c2⟩ := allC_cons (l := (l.map (shE d)).map oneC) m1
    obtain ⟨d1, d2⟩ := allC_cons (l := l.map oneC) h1
    obtain ⟨i1, i2⟩ := shC_all hd l (meC a (oneC e)) (meC_ok _ _) (meC_l ha za h1).2.2 (fun x hx => ht x (by simp [hx])) h2
    simp only [List.map_cons]
    rw [c1, c2, d1, m2]
    exact ⟨i1, i2⟩
theorem all_ends : ∀ (l : List Ev) (a : Ce), CeOk a → ¬ a = zeroCe → allE a (l.map oneC) = 0 → (allC a (l.map oneC)).f = a.f ∧ (allC a (l.map oneC)).l = (l.getLast?).getD a.l
  | [], _, _, _, _ => ⟨rfl, rfl⟩
  | e :: l, a, ha, za, hE => by
    obtain ⟨h1, h2⟩ := allE_cons hE
    obtain ⟨d1, d2⟩ := allC_cons (l := l.map oneC) h1
    obtain ⟨l1, l2, l3⟩ := meC_l ha za h1
    obtain ⟨i1, i2⟩ := all_ends l (meC a (oneC e)) (meC_ok _ _) l3 h2
    simp only [List.map_cons]
    rw [d1, i1, i2, l1, l2]
    refine ⟨rfl, ?_⟩
    cases l with
    | nil => rfl
    | cons c m => rw [List.getLast?_cons_cons]; cases hq : (c :: m).getLast? <;> simp_all
/-- What later events have together. -/
theorem shC_of {d : Int} (hd : 0 ≤ d) {l : List Ev} (h : ofE l = 0) (ht : ∀ e, e ∈ l → e.t + d < 35184372088832) (hne : l ≠ []) :
    ofE (l.map (shE d)) = 0 ∧ ofC (l.map (shE d)) = shC d (ofC l) := by
  obtain ⟨hok, hE, hC⟩ := ofE_ok h
  obtain ⟨e, m, rfl⟩ : ∃ e m, l = e :: m := by cases l with
    | nil => exact absurd rfl hne
    | cons e m => exact ⟨e, m, rfl⟩
  have he : EvOk e := hok 0 (by simp)
  have hs : AllOk ((e :: m).map (shE d)) := fun j hj => by
    have hj' : j < (e :: m).length := by simpa using hj
    rw [List.getElem_map]
    exact shE_ok hd (hok j hj') (ht _ (List.getElem_mem hj'))
  obtain ⟨s1, s2⟩ := ofC_yes hs
  rw [s1, s2, hC]
  obtain ⟨z1, z2⟩ := meC_zero (oneC_ok.2 he)
  have hse : EvOk (shE d e) := shE_ok hd he (ht e (by simp))
  obtain ⟨y1, y2⟩ := meC_zero (oneC_ok.2 hse)
  simp only [List.map_cons] at hE ⊢
  obtain ⟨a1, a2⟩ := allC_cons (l := m.map oneC) z2
  obtain ⟨b1, b2⟩ := allC_cons (l := (m.map (shE d)).map oneC) y2
  rw [a2, z1] at hE
  rw [a1, b1, b2, z1, y1, ← shC_one]
  exact shC_all hd m (oneC e) (oneC_ok.2 he) (oneC_nz e) (fun x hx => ht x (by simp [hx])) hE
theorem of_ends {l : List Ev} (h : ofE l = 0) (hne : l ≠ []) : (ofC l).f = l.head hne ∧ (ofC l).l = l.getLast hne := by
  obtain ⟨hok, hE, hC⟩ := ofE_ok h
  obtain ⟨e, m, rfl⟩ : ∃ e m, l = e :: m := by cases l with
    | nil => exact absurd rfl hne
    | cons e m => exact ⟨e, m, rfl⟩
  have he : EvOk e := hok 0 (by simp)
  rw [hC]
  obtain ⟨z1, z2⟩ := meC_zero (oneC_ok.2 he)
  simp only [List.map_cons] at hE ⊢
  obtain ⟨a1, a2⟩ := allC_cons (l := m.map oneC) z2
  rw [a2, z1] at hE
  rw [a1, z1]
  obtain ⟨i1, i2⟩ := all_ends m (oneC e) (oneC_ok.2 he) (oneC_nz e) hE
  refine ⟨i1, i2.trans ?_⟩
  cases m with
  | nil => rfl
  | cons c m => rw [List.getLast_cons (by simp), List.getLast?_eq_some_getLast (by simp)]; rfl
theorem allC_no {acc : Ce} {l : List Ce} (h : ¬ allE acc l = 0) : allC acc l = zeroCe := by
  induction l generalizing acc with
  | nil => exact absurd rfl h
  | cons c l ih =>
    by_cases hm : meE acc c = 0
    · obtain ⟨c1, c2⟩ := allC_cons (l := l) hm
      rw [c1]
      exact ih (by rwa [← c2])
    · show (if meE acc c = 0 then _ else _) = _
      exact if_neg hm
end Go.Proofs.Ytkoiogfhbipmjaa
