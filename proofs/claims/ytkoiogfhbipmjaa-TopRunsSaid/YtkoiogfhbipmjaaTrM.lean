/-
  PLAIN MATHEMATICS: a counter that is created, counts up, and is created anew.
-/
import Derived.Test.YtkoiogfhbipmjaaTlM
namespace Go.Proofs.Ytkoiogfhbipmjaa
open Go Go.RowKit

theorem of_one {e : Ev} (h : EvOk e) : ofC [e] = oneC e ∧ ofE [e] = 0 := by
  have hok : AllOk [e] := fun j hj => by
    match j, hj with
    | 0, _ => exact h
  obtain ⟨c1, c2⟩ := ofC_yes hok
  obtain ⟨a1, a2⟩ := all1 (oneC_ok.2 h)
  exact ⟨c1.trans a1, c2.trans a2⟩
theorem of_snoc {l : List Ev} {e : Ev} (h : ofE l = 0) (hne : l ≠ []) (he : EvOk e) (ht : (ofC l).l.t < e.t) : ofE (l ++ [e]) = 0 ∧ ofC (l ++ [e]) = mgC (ofC l) (oneC e) := by
  obtain ⟨hok, hE, hC⟩ := ofE_ok h
  have hok' : AllOk (l ++ [e]) := fun j hj => by
    rw [List.getElem_append]
    split
    · exact hok j _
    · simpa using he
  obtain ⟨c1, c2⟩ := ofC_yes hok'
  have hz : ¬ ofC l = zeroCe := fun z => by
    obtain ⟨x, m, rfl⟩ : ∃ x m, l = x :: m := by cases l with
      | nil => exact absurd rfl hne
      | cons x m => exact ⟨x, m, rfl⟩
    have hx : EvOk x := hok 0 (by simp)
    obtain ⟨z1, z2⟩ := meC_zero (oneC_ok.2 hx)
    simp only [List.map_cons] at hE hC
    obtain ⟨a1, a2⟩ := allC_cons (l := m.map oneC) z2
    rw [a2, z1] at hE
    rw [a1, z1] at hC
    have hnz : ∀ (m : List Ev) (a : Ce), CeOk a → ¬ a = zeroCe → allE a (m.map oneC) = 0 → ¬ allC a (m.map oneC) = zeroCe := fun m => by
      induction m with
      | nil => intro a _ za _; exact za
      | cons y m ih =>
        intro a ha za h
        obtain ⟨h1, h2⟩ := allE_cons h
        obtain ⟨d1, -⟩ := allC_cons (l := m.map oneC) h1
        simp only [List.map_cons]
        rw [d1]
        exact ih _ (meC_ok _ _) (meC_l ha za h1).2.2 h2
    exact hnz m (oneC x) (oneC_ok.2 hx) (oneC_nz x) hE (hC.symm.trans z)
  obtain ⟨s1, s2⟩ := allC_snoc zeroCe (l.map oneC) (oneC e) hE
  rw [← hC] at s1 s2
  obtain ⟨g1, g2⟩ := meC_good (ofC_ok l) (oneC_ok.2 he) hz (oneC_nz e) ht
  rw [c1, c2, List.map_append, List.map_cons, List.map_nil]
  refine ⟨s2.trans g2, s1.trans ?_⟩
  rw [if_pos g2, g1]
/-- What was made ahead of a run, or within one. -/
structure Rs where
  ev : List Ev
  t : Int
  rise : Int
  seen : Int
  n : Int
structure Rn (d : Int) (r : Rs) (k : Nat) (v born : Int) : Prop where
  n0 : 0 ≤ r.n
  nn : r.n + (if 0 < k then 1 else 0) ≤ (r.ev.length : Int)
  t0 : 1 ≤ r.t
  t1 : r.t ≤ 1 + 256 * (r.ev.length : Int)
  r0 : 0 ≤ r.rise
  r1 : r.rise ≤ 65535 * (r.ev.length : Int)
  s0 : 0 ≤ r.seen
  s1 : r.seen ≤ 256 * (r.ev.length : Int)
  v0 : 0 ≤ v
  v1 : v ≤ 65535 * (k : Int)
  k0 : k = 0 → v = 0 ∧ born = r.t
  k1 : 0 < k → 1 ≤ born ∧ born ≤ r.t - d
  emp : r.n = 0 → k = 0 → r.ev = [] ∧ r.rise = 0 ∧ r.seen = 0
  cel : ¬ (r.n = 0 ∧ k = 0) → r.ev ≠ [] ∧ ofE r.ev = 0 ∧ (ofC r.ev).n = (r.ev.length : Int) ∧ ((ofC r.ev).i.n : Int) = r.rise ∧ (ofC r.ev).r = (if 0 < k then r.n else r.n - 1) ∧ (ofC r.ev).g = 0 ∧ (ofC r.ev).s = r.seen ∧ (ofC r.ev).l.t = r.t - d ∧ (ofC r.ev).l.s = false ∧
    (0 < k → (ofC r.ev).l.v = v ∧ (ofC r.ev).l.c = born)
theorem Rn.start (d : Int) : Rn d ⟨[], 1, 0, 0, 0⟩ 0 0 1 := by
  refine ⟨by simp, by simp, by simp, by simp, by simp, by simp, by simp, by simp, by simp, by simp, fun _ => ⟨rfl, rfl⟩, fun h => absurd h (Nat.lt_irrefl _), fun _ _ => ⟨rfl, rfl, rfl⟩, fun h => absurd ⟨rfl, rfl⟩ h⟩
def Rs.put (d : Int) (r : Rs) (k : Nat) (v born m : Int) : Rs := ⟨r.ev ++ [⟨r.t, v + m, born, false⟩], r.t + d, r.rise + (if 0 < k ∨ 0 < r.n then m else 0), r.seen + (if 0 < k then d else 0), r.n⟩
theorem Rn.put {d : Int} {r : Rs} {k : Nat} {v born m : Int} (h : Rn d r k v born) (hd : 1 ≤ d) (hd1 : d ≤ 256) (hm : 0 ≤ m) (hm1 : m ≤ 65535) (hl : r.ev.length ≤ 1000) (hk : k ≤ 1000) : Rn d (r.put d k v born m) (k + 1) (v + m) born := by
  have n0 := h.n0; have nn := h.nn; have t0 := h.t0; have t1 := h.t1; have r0 := h.r0; have r1 := h.r1; have s0 := h.s0; have s1 := h.s1; have v0 := h.v0; have v1 := h.v1; have k0 := h.k0; have k1 := h.k1
  have hlen : ((r.put d k v born m).ev.length : Int) = (r.ev.length : Int) + 1 := by simp [Rs.put]
  have hb : 1 ≤ born ∧ born ≤ r.t := by
    rcases Nat.eq_zero_or_pos k with e | e
    · have := (k0 e).2; omega
    · have := k1 e; omega
  have he : EvOk ⟨r.t, v + m, born, false⟩ := ⟨by dsimp only; omega, by dsimp only; omega, by dsimp only; omega, by dsimp only; omega, by dsimp only; omega, hb.2, fun h => by cases h⟩
  have hs : (r.put d k v born m).t = r.t + d := rfl
  have hn : (r.put d k v born m).n = r.n := rfl
  have hri : (r.put d k v born m).rise = r.rise + (if 0 < k ∨ 0 < r.n then m else 0) := rfl
  have hse : (r.put d k v born m).seen = r.seen + (if 0 < k then d else 0) := rfl
  refine ⟨n0, ?_, by rw [hs]; omega, by rw [hs, hlen]; omega, by rw [hri]; split <;> omega, by rw [hri, hlen]; split <;> omega, by rw [hse]; split <;> omega, by rw [hse, hlen]; split <;> omega, by omega, by omega, fun h => absurd h (by omega), fun _ => by rw [hs]; omega, fun _ h => absurd h (by omega), fun _ => ?_⟩
  · rw [hn, hlen, if_pos (by omega)]
    split at nn <;> omega
  · rw [hs, hn, hri, hse, hlen, if_pos (show 0 < k + 1 by omega)]
    show r.ev ++ [_] ≠ [] ∧ ofE (r.ev ++ [⟨r.t, v + m, born, false⟩]) = 0 ∧ (ofC (r.ev ++ [⟨r.t, v + m, born, false⟩])).n = _ ∧ _
    refine ⟨by simp, ?_⟩
    by_cases h0 : r.n = 0 ∧ k = 0
    · obtain ⟨e1, e2, e3⟩ := h.emp h0.1 h0.2
      obtain ⟨o1, o2⟩ := of_one he
      have ekn : ¬ (0 < k ∨ 0 < r.n) := by omega
      have ek : ¬ 0 < k := by omega
      rw [show Rs.ev (r.put d k v born m) = [⟨r.t, v + m, born, false⟩] by simp [Rs.put, e1]]
      rw [e1, List.nil_append, o1, o2, e2, e3, if_neg ekn, if_neg ek, h0.1]
      exact ⟨rfl, rfl, rfl, rfl, rfl, rfl, by show r.t = r.t + d - d; omega, rfl, fun _ => ⟨rfl, rfl⟩⟩
    · obtain ⟨c1, c2, c3, c4, c5, c6, c7, c8, c9, c10⟩ := h.cel h0
      have hlt : (ofC r.ev).l.t < r.t := by omega
      obtain ⟨o1, o2⟩ := of_snoc c2 c1 he hlt
      rw [show Rs.ev (r.put d k v born m) = r.ev ++ [⟨r.t, v + m, born, false⟩] from rfl, o1, o2]
      have hcz : CeOk (ofC r.ev) := ofC_ok _
      have hnz : ¬ ofC r.ev = zeroCe := fun z => by
        have : (ofC r.ev).n = 0 := by rw [z]; rfl
        have hp : 0 < r.ev.length := List.length_pos_iff.2 c1
        omega
      have hle := (hcz.ends hnz).l
      have hbI := btU_n hle he
      have hbb := btI_bd hle he
      generalize hc : ofC r.ev = c at *
      obtain ⟨⟨lt, lv, lc, ls⟩, hL⟩ : ∃ x : Ev, c.l = x := ⟨_, rfl⟩
      rw [hL] at c8 c9 c10 hle hbI hbb
      dsimp only at c8 c9 c10
      have hbi : btI ⟨lt, lv, lc, ls⟩ ⟨r.t, v + m, born, false⟩ = m := by
        unfold btI
        dsimp only
        rw [if_neg (by decide)]
        rcases Nat.eq_zero_or_pos k with e | e
        · rw [if_pos (by have := (k0 e).2; omega), (k0 e).1]; omega
        · obtain ⟨q1, q2⟩ := c10 e
          have := k1 e
          rw [if_neg (by omega), c9, if_neg (by decide), if_neg (by omega)]; omega
      have hbr : btR ⟨lt, lv, lc, ls⟩ ⟨r.t, v + m, born, false⟩ = if 0 < k then 0 else 1 := by
        unfold btR
        dsimp only
        rw [if_neg (by decide)]
        rcases Nat.eq_zero_or_pos k with e | e
        · rw [if_pos (by have := (k0 e).2; omega), if_neg (by omega)]
        · obtain ⟨q1, q2⟩ := c10 e
          have := k1 e
          rw [if_neg (by omega), c9, if_neg (by decide), if_neg (by omega), if_pos e]
      have hbg : btG ⟨lt, lv, lc, ls⟩ ⟨r.t, v + m, born, false⟩ = 0 := by
        unfold btG
        dsimp only
        rw [if_neg (by decide)]
        split
        · rfl
        · rw [c9, if_neg (by decide)]
      have hbs : btS ⟨lt, lv, lc, ls⟩ ⟨r.t, v + m, born, false⟩ = if 0 < k then d else 0 := by
        unfold btS
        dsimp only
        rw [if_neg (by decide)]
        rcases Nat.eq_zero_or_pos k with e | e
        · rw [if_pos (by have := (k0 e).2; omega), if_neg (by omega)]; have := (k0 e).2; omega
        · have := k1 e
          rw [if_neg (by omega), c9, if_neg (by decide), if_pos e]; omega
      have hkn : 0 < k ∨ 0 < r.n := by
        rcases Nat.eq_zero_or_pos k with e | e
        · right
          have : r.n ≠ 0 := fun z => h0 ⟨z, e⟩
          omega
        · exact .inl e
      have hi : (mgC c (oneC ⟨r.t, v + m, born, false⟩)).i.n = c.i.n + m.toNat := by
        show (cutU (c.i.n + ((btU c.l ⟨r.t, v + m, born, false⟩).n + (U.zero.n + 0)))).n = _
        rw [hL, hbI, hbi, cutU_n]
        · rfl
        · have : U.zero.n = 0 := rfl
          omega
      refine ⟨rfl, ?_, ?_, ?_, ?_, ?_, ?_, rfl, fun _ => ⟨rfl, rfl⟩⟩
      · show c.n + 1 = _
        omega
      · rw [hi, if_pos hkn]; omega
      · show c.r + btR c.l ⟨r.t, v + m, born, false⟩ + 0 = _
        rw [hL, hbr, c5]; split <;> omega
      · show c.g + btG c.l ⟨r.t, v + m, born, false⟩ + 0 = _
        rw [hL, hbg, c6]; rfl
      · show c.s + btS c.l ⟨r.t, v + m, born, false⟩ + 0 = _
        rw [hL, hbs, c7]; omega
      · show r.t = r.t + d - d
        omega
theorem Rn.next {d : Int} {r : Rs} {k : Nat} {v born : Int} (h : Rn d r k v born) (hk : 0 < k) : Rn d ⟨r.ev, r.t, r.rise, r.seen, r.n + 1⟩ 0 0 r.t := by
  have n0 := h.n0; have nn := h.nn
  rw [if_pos hk] at nn
  obtain ⟨c1, c2, c3, c4, c5, c6, c7, c8, c9, c10⟩ := h.cel (fun e => by omega)
  rw [if_pos hk] at c5
  refine ⟨by dsimp only; omega, by rw [if_neg (Nat.lt_irrefl 0)]; dsimp only; omega, h.t0, h.t1, h.r0, h.r1, h.s0, h.s1, by simp, by simp, fun _ => ⟨rfl, rfl⟩, fun h => absurd h (Nat.lt_irrefl _), fun h => by dsimp only at h; omega, fun _ => ⟨c1, c2, c3, c4, ?_, c6, c7, c8, c9, fun h => absurd h (Nat.lt_irrefl _)⟩⟩
  rw [if_neg (Nat.lt_irrefl 0), c5]; dsimp only; omega
end Go.Proofs.Ytkoiogfhbipmjaa
