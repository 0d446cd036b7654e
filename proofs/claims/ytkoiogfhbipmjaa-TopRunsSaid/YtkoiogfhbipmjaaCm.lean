/-
  PLAIN MATHEMATICS, no run of a program: numbers of 128 bits, events, what lies between two, cells, and what they merge to.
-/
import Derived.Test.YtkoiogfhbipmjaaAq
import Derived.Test.YtkoiogfhbipmjaaWm
namespace Go.Proofs.Ytkoiogfhbipmjaa
open Go Go.RowKit

-- from Sum
/-- The sum of numbers. -/
def sumN : List U → Nat
  | [] => 0
  | a :: l => a.n + sumN l
theorem sumN_take (l : List U) (k : Nat) (h : k < l.length) : sumN (l.take (k + 1)) = sumN (l.take k) + l[k].n := by
  induction l generalizing k with
  | nil => simp at h
  | cons a l ih =>
    cases k with
    | zero => simp [sumN]
    | succ k =>
      simp only [List.take_succ_cons, sumN, List.getElem_cons_succ]
      rw [ih k (by simpa using h)]
      omega
theorem sumN_le (l : List U) (k : Nat) : sumN (l.take k) ≤ sumN l := by
  induction l generalizing k with
  | nil => simp [sumN]
  | cons a l ih =>
    cases k with
    | zero => simp [sumN]
    | succ k => simp only [List.take_succ_cons, sumN]; have := ih k; omega
-- from Ev
abbrev Ev := D.Ev
/-- What an event's numbers are between. -/
structure EvIn (e : Ev) : Prop where
  t0 : -9223372036854775808 ≤ e.t
  t1 : e.t ≤ 9223372036854775807
  v0 : 0 ≤ e.v
  v1 : e.v ≤ 18446744073709551615
  c0 : -9223372036854775808 ≤ e.c
  c1 : e.c ≤ 9223372036854775807
/-- Is it right? -/
structure EvOk (e : Ev) : Prop where
  t0 : 0 ≤ e.t
  t1 : e.t < 35184372088832
  v0 : 0 ≤ e.v
  v1 : e.v ≤ 18446744073709551615
  c0 : 0 ≤ e.c
  c1 : e.c ≤ e.t
  st : e.s = true → e.v = 0 ∧ e.c = 0
theorem EvOk.in {e : Ev} (h : EvOk e) : EvIn e := ⟨by have := h.t0; omega, by have := h.t1; omega, h.v0, h.v1, by have := h.c0; omega, by have := h.c1; have := h.t1; omega⟩
open Classical in
noncomputable def evE (e : Ev) : Int := if EvOk e then 0 else 2
theorem evE_yes {e : Ev} (h : EvOk e) : evE e = 0 := by unfold evE; rw [if_pos h]
theorem evE_no {e : Ev} (h : ¬ EvOk e) : evE e = 2 := by unfold evE; rw [if_neg h]
-- from Ce
structure Ce where
  n : Int
  f : Ev
  l : Ev
  i : U
  r : Int
  g : Int
  s : Int
def zeroEv : Ev := ⟨0, 0, 0, false⟩
def zeroCe : Ce := ⟨0, zeroEv, zeroEv, U.zero, 0, 0, 0⟩
theorem Ev.ext' {x y : Ev} (h1 : x.t = y.t) (h2 : x.v = y.v) (h3 : x.c = y.c) (h4 : x.s = y.s) : x = y := by
  cases x; cases y; simp_all
theorem Ce.ext' {x y : Ce} (h1 : x.n = y.n) (h2 : x.f = y.f) (h3 : x.l = y.l) (h4 : x.i = y.i) (h5 : x.r = y.r) (h6 : x.g = y.g) (h7 : x.s = y.s) : x = y := by
  cases x; cases y; simp_all
open Classical in
noncomputable def eqB {α : Type} (x y : α) : Bool := decide (x = y)
theorem eqB_yes {α : Type} {x y : α} (h : x = y) : eqB x y = true := by unfold eqB; simpa using h
theorem eqB_no {α : Type} {x y : α} (h : ¬ x = y) : eqB x y = false := by unfold eqB; simpa using h
/-- What a cell's numbers are between. -/
structure CeIn (x : Ce) : Prop where
  f : EvIn x.f
  l : EvIn x.l
  n0 : -9223372036854775808 ≤ x.n
  n1 : x.n ≤ 9223372036854775807
  r0 : -9223372036854775808 ≤ x.r
  r1 : x.r ≤ 9223372036854775807
  g0 : -9223372036854775808 ≤ x.g
  g1 : x.g ≤ 9223372036854775807
  s0 : -9223372036854775808 ≤ x.s
  s1 : x.s ≤ 9223372036854775807
/-- Are its ends right? -/
structure EndsOk (x : Ce) : Prop where
  n : 1 ≤ x.n
  f : EvOk x.f
  l : EvOk x.l
  one : x.n = 1 → x.f = x.l
  more : 1 < x.n → x.f.t < x.l.t
  le : x.n ≤ x.l.t - x.f.t + 1
theorem EndsOk.t {x : Ce} (h : EndsOk x) : x.f.t ≤ x.l.t := by
  by_cases h1 : x.n = 1
  · rw [h.one h1]; exact Int.le_refl _
  · have := h.more (by have := h.n; omega); omega
structure NumsOk (x : Ce) : Prop where
  r : 0 ≤ x.r
  g : 0 ≤ x.g
  s : 0 ≤ x.s
  s1 : x.s ≤ x.l.t - x.f.t
  rg : x.r + x.g < x.n
  i : x.i.n ≤ 18446744073709551615 * (x.n - 1).toNat
def CeOk (x : Ce) : Prop := x = zeroCe ∨ EndsOk x ∧ NumsOk x
open Classical in
noncomputable def ceE (x : Ce) : Int := if CeOk x then 0 else 2
theorem ceE_yes {x : Ce} (h : CeOk x) : ceE x = 0 := by unfold ceE; rw [if_pos h]
theorem ceE_no {x : Ce} (h : ¬ CeOk x) : ceE x = 2 := by unfold ceE; rw [if_neg h]
-- from Ca
-- from Bt
/-- By how much it rises between two, how often it begins anew, how many gaps, how long it is seen. -/
def btI (p c : Ev) : Int := if c.s = true then 0 else if p.t < c.c then c.v else if p.s = true then 0 else if c.v < p.v then c.v else c.v - p.v
def btR (p c : Ev) : Int := if c.s = true then 0 else if p.t < c.c then 1 else if p.s = true then 0 else if c.v < p.v then 1 else 0
def btG (p c : Ev) : Int := if c.s = true then 0 else if p.t < c.c then 0 else if p.s = true then 1 else 0
def btS (p c : Ev) : Int := if c.s = true then 0 else if p.t < c.c then c.t - c.c else if p.s = true then 0 else c.t - p.t
-- from Bw
theorem btI_bd {p c : Ev} (hp : EvOk p) (hc : EvOk c) : 0 ≤ btI p c ∧ btI p c ≤ 18446744073709551615 := by
  have := hp.v0; have := hp.v1; have := hc.v0; have := hc.v1
  unfold btI
  repeat' split
  all_goals omega
noncomputable def btU (p c : Ev) : U := cutU (btI p c).toNat
theorem btU_n {p c : Ev} (hp : EvOk p) (hc : EvOk c) : (btU p c).n = (btI p c).toNat := by
  have := btI_bd hp hc
  exact cutU_n (by omega)
theorem btU_hi {p c : Ev} (hp : EvOk p) (hc : EvOk c) : hiZ (btU p c) = 0 := by
  have := btI_bd hp hc
  unfold hiZ; rw [btU_n hp hc]; omega
theorem btU_lo {p c : Ev} (hp : EvOk p) (hc : EvOk c) : loZ (btU p c) = btI p c := by
  have := btI_bd hp hc
  unfold loZ; rw [btU_n hp hc]; omega
/-- What lies between two right events, the first one ahead. -/
noncomputable def btC (p c : Ev) : Ce := ⟨0, zeroEv, zeroEv, btU p c, btR p c, btG p c, btS p c⟩
open Classical in
noncomputable def beE (p c : Ev) : Int := if EvOk p ∧ EvOk c then if p.t < c.t then 0 else 9 else 2
open Classical in
noncomputable def beC (p c : Ev) : Ce := if EvOk p ∧ EvOk c ∧ p.t < c.t then btC p c else zeroCe
theorem beE_good {p c : Ev} (hp : EvOk p) (hc : EvOk c) (h : p.t < c.t) : beE p c = 0 := by unfold beE; rw [if_pos ⟨hp, hc⟩, if_pos h]
theorem beE_time {p c : Ev} (hp : EvOk p) (hc : EvOk c) (h : ¬ p.t < c.t) : beE p c = 9 := by unfold beE; rw [if_pos ⟨hp, hc⟩, if_neg h]
theorem beE_no {p c : Ev} (h : ¬ (EvOk p ∧ EvOk c)) : beE p c = 2 := by unfold beE; rw [if_neg h]
theorem beC_good {p c : Ev} (hp : EvOk p) (hc : EvOk c) (h : p.t < c.t) : beC p c = btC p c := by unfold beC; rw [if_pos ⟨hp, hc, h⟩]
theorem beC_time {p c : Ev} (h : ¬ p.t < c.t) : beC p c = zeroCe := by unfold beC; rw [if_neg (fun x => h x.2.2)]
theorem beC_no {p c : Ev} (h : ¬ (EvOk p ∧ EvOk c)) : beC p c = zeroCe := by unfold beC; rw [if_neg (fun x => h ⟨x.1, x.2.1⟩)]
/-- Does c follow p? -/
def Fol (p c : Ev) : Prop := EvOk p ∧ EvOk c ∧ p.t < c.t
-- from Nu
theorem most_n {k : Nat} (hk : k < 18446744073709551616) : 18446744073709551615 * k < 340282366920938463463374607431768211456 := by
  have : 18446744073709551615 * k ≤ 18446744073709551615 * 18446744073709551615 := Nat.mul_le_mul_left _ (by omega)
  omega
def maxU : U := ⟨18446744073709551615, by decide⟩
theorem maxU_hi : hiZ maxU = 0 := by decide
theorem maxU_lo : loZ maxU = 18446744073709551615 := by decide
-- from Ck
theorem maxTimes_n {k : Nat} (hk : k < 18446744073709551616) : (timesU maxU k).n = 18446744073709551615 * k := cutU_n (most_n hk)
-- from Me
/-- What a right cell's numbers are between. -/
structure CeBd (x : Ce) : Prop where
  n0 : 0 ≤ x.n
  n1 : x.n ≤ 35184372088832
  r0 : 0 ≤ x.r
  r1 : x.r ≤ 35184372088832
  g0 : 0 ≤ x.g
  g1 : x.g ≤ 35184372088832
  s0 : 0 ≤ x.s
  s1 : x.s ≤ 35184372088832
  i : x.i.n ≤ 649037107316853453566312041152511
theorem CeOk.bd {x : Ce} (h : CeOk x) : CeBd x := by
  rcases h with rfl | ⟨he, hn⟩
  · constructor <;> (first | decide | (show (0 : Nat) ≤ _; omega))
  · have := he.n; have := he.le; have := he.f.t0; have := he.l.t1; have := hn.r; have := hn.g; have := hn.rg; have := hn.s; have := hn.s1; have := hn.i
    refine ⟨by omega, by omega, by omega, by omega, by omega, by omega, by omega, by omega, ?_⟩
    have hk : (x.n - 1).toNat ≤ 35184372088831 := by omega
    have := Nat.mul_le_mul_left 18446744073709551615 hk
    omega
/-- What right cells, both of something, merge to. -/
noncomputable def mgC (a b : Ce) : Ce := ⟨a.n + b.n, a.f, b.l, cutU (a.i.n + ((btC a.l b.f).i.n + (b.i.n + 0))), a.r + (btC a.l b.f).r + b.r, a.g + (btC a.l b.f).g + b.g, a.s + (btC a.l b.f).s + b.s⟩
theorem bt_bd {p c : Ev} (hp : EvOk p) (hc : EvOk c) (h : p.t < c.t) : 0 ≤ (btC p c).r ∧ (btC p c).r ≤ 1 ∧ 0 ≤ (btC p c).g ∧ (btC p c).g ≤ 1 ∧ 0 ≤ (btC p c).s ∧ (btC p c).s ≤ c.t - p.t ∧ (btC p c).i.n ≤ 18446744073709551615 := by
  have h1 := btI_bd hp hc
  have h2 := btU_n hp hc
  have a1 := hp.t0; have a2 := hc.t1; have a3 := hc.c1; have a4 := hc.c0
  refine ⟨?_, ?_, ?_, ?_, ?_, ?_, ?_⟩
  · show 0 ≤ btR p c; unfold btR; repeat' split
    all_goals omega
  · show btR p c ≤ 1; unfold btR; repeat' split
    all_goals omega
  · show 0 ≤ btG p c; unfold btG; repeat' split
    all_goals omega
  · show btG p c ≤ 1; unfold btG; repeat' split
    all_goals omega
  · show 0 ≤ btS p c; unfold btS; repeat' split
    all_goals omega
  · show btS p c ≤ c.t - p.t; unfold btS; repeat' split
    all_goals omega
  · show (btU p c).n ≤ _; rw [h2]; omega
-- from Mf
open Classical in
noncomputable def meE (a b : Ce) : Int := if CeOk a ∧ CeOk b then (if a = zeroCe ∨ b = zeroCe ∨ a.l.t < b.f.t then 0 else 9) else 2
open Classical in
noncomputable def meC (a b : Ce) : Ce := if CeOk a ∧ CeOk b then (if a = zeroCe then b else if b = zeroCe then a else if a.l.t < b.f.t then mgC a b else zeroCe) else zeroCe
theorem CeOk.ends {x : Ce} (h : CeOk x) (hz : ¬ x = zeroCe) : EndsOk x := by
  rcases h with h | h
  · exact absurd h hz
  · exact h.1
theorem CeOk.in {x : Ce} (h : CeOk x) : CeIn x := by
  have b := h.bd
  have b1 := b.n0; have b2 := b.n1; have b3 := b.r0; have b4 := b.r1; have b5 := b.g0; have b6 := b.g1; have b7 := b.s0; have b8 := b.s1
  rcases h with rfl | ⟨he, _⟩
  · constructor
    · constructor <;> decide
    · constructor <;> decide
    all_goals decide
  · exact ⟨he.f.in, he.l.in, by omega, by omega, by omega, by omega, by omega, by omega, by omega, by omega⟩
theorem zeroOk : CeOk zeroCe := Or.inl rfl
theorem mgC_ok {a b : Ce} (ha : CeOk a) (hb : CeOk b) (za : ¬ a = zeroCe) (zb : ¬ b = zeroCe) (ht : a.l.t < b.f.t) : CeOk (mgC a b) := by
  obtain ⟨ea, na⟩ : EndsOk a ∧ NumsOk a := by exact ha.elim (fun h => absurd h za) id
  obtain ⟨eb, nb⟩ : EndsOk b ∧ NumsOk b := by exact hb.elim (fun h => absurd h zb) id
  obtain ⟨z1, z2, z3, z4, z5, z6, z7⟩ := bt_bd ea.l eb.f ht
  have t1 := ea.t; have t2 := eb.t; have l1 := ea.le; have l2 := eb.le; have n1 := ea.n; have n2 := eb.n
  have hg : ((btC a.l b.f).r = 0 ∨ (btC a.l b.f).g = 0) := by
    show btR _ _ = 0 ∨ btG _ _ = 0
    unfold btR btG
    repeat' split
    all_goals simp
  have hi : (a.i.n + ((btC a.l b.f).i.n + (b.i.n + 0))) < 340282366920938463463374607431768211456 := by
    have := (CeOk.bd ha).i; have := (CeOk.bd hb).i; omega
  refine Or.inr ⟨⟨?_, ea.f, eb.l, ?_, ?_, ?_⟩, ⟨?_, ?_, ?_, ?_, ?_, ?_⟩⟩
  · show 1 ≤ a.n + b.n; omega
  · intro h; have h : a.n + b.n = 1 := h; omega
  · intro _; show a.f.t < b.l.t; omega
  · show a.n + b.n ≤ b.l.t - a.f.t + 1; omega
  · show 0 ≤ a.r + (btC a.l b.f).r + b.r; have := na.r; have := nb.r; omega
  · show 0 ≤ a.g + (btC a.l b.f).g + b.g; have := na.g; have := nb.g; omega
  · show 0 ≤ a.s + (btC a.l b.f).s + b.s; have := na.s; have := nb.s; omega
  · show a.s + (btC a.l b.f).s + b.s ≤ b.l.t - a.f.t; have := na.s1; have := nb.s1; omega
  · show a.r + (btC a.l b.f).r + b.r + (a.g + (btC a.l b.f).g + b.g) < a.n + b.n; have := na.rg; have := nb.rg; omega
  · show (cutU _).n ≤ 18446744073709551615 * (a.n + b.n - 1).toNat
    rw [cutU_n hi]
    have e : (a.n + b.n - 1).toNat = (a.n - 1).toNat + ((b.n - 1).toNat + 1) := by omega
    rw [e, Nat.mul_add, Nat.mul_add]
    have := na.i; have := nb.i
    omega
theorem meC_ok (a b : Ce) : CeOk (meC a b) := by
  unfold meC
  split
  · rename_i h
    split
    · exact h.2
    · split
      · exact h.1
      · split
        · exact mgC_ok h.1 h.2 (by assumption) (by assumption) (by assumption)
        · exact zeroOk
  · exact zeroOk
/-- The cell of one event. -/
def oneC (e : Ev) : Ce := ⟨1, e, e, U.zero, 0, 0, 0⟩
theorem oneC_nz (e : Ev) : ¬ oneC e = zeroCe := fun h => by
  have : (1 : Int) = 0 := congrArg Ce.n h
  exact absurd this (by decide)
theorem oneC_ok {e : Ev} : CeOk (oneC e) ↔ EvOk e := by
  refine ⟨fun h => (h.ends (oneC_nz e)).f, fun h => Or.inr ⟨⟨?_, h, h, fun _ => rfl, ?_, ?_⟩, ⟨?_, ?_, ?_, ?_, ?_, ?_⟩⟩⟩
  · show (1 : Int) ≤ 1; omega
  · intro h1; have h1 : (1 : Int) < 1 := h1; omega
  · show (1 : Int) ≤ e.t - e.t + 1; omega
  · show (0 : Int) ≤ 0; omega
  · show (0 : Int) ≤ 0; omega
  · show (0 : Int) ≤ 0; omega
  · show (0 : Int) ≤ e.t - e.t; omega
  · show (0 : Int) + 0 < 1; omega
  · exact Nat.zero_le _
theorem oneC_in {e : Ev} (h : EvIn e) : CeIn (oneC e) := ⟨h, h, by show _ ≤ (1 : Int); omega, by show (1 : Int) ≤ _; omega, by show _ ≤ (0 : Int); omega, by show (0 : Int) ≤ _; omega, by show _ ≤ (0 : Int); omega, by show (0 : Int) ≤ _; omega, by show _ ≤ (0 : Int); omega, by show (0 : Int) ≤ _; omega⟩
-- from Al
/-- One behind the other, as one cell; or the first error. -/
noncomputable def allC (acc : Ce) : List Ce → Ce
  | [] => acc
  | c :: l => if meE acc c = 0 then allC (meC acc c) l else zeroCe
noncomputable def allE (acc : Ce) : List Ce → Int
  | [] => 0
  | c :: l => if meE acc c = 0 then allE (meC acc c) l else meE acc c
theorem drop_cons {α : Type} {l : List α} {k : Nat} (h : k < l.length) : l.drop k = l[k] :: l.drop (k + 1) := (List.drop_eq_getElem_cons h)
-- from Of
def AllOk (l : List Ev) : Prop := ∀ (j : Nat) (h : j < l.length), EvOk l[j]
open Classical in
noncomputable def ofC (l : List Ev) : Ce := if AllOk l then allC zeroCe (l.map oneC) else zeroCe
open Classical in
noncomputable def ofE (l : List Ev) : Int := if AllOk l then allE zeroCe (l.map oneC) else 2
theorem ofC_no {l : List Ev} (k : Nat) (hk : k < l.length) (he : ¬ EvOk l[k]) : ofC l = zeroCe ∧ ofE l = 2 := by
  have : ¬ AllOk l := fun h => he (h k hk)
  unfold ofC ofE
  rw [if_neg this, if_neg this]
  exact ⟨rfl, rfl⟩
theorem ofC_yes {l : List Ev} (h : AllOk l) : ofC l = allC zeroCe (l.map oneC) ∧ ofE l = allE zeroCe (l.map oneC) := by
  unfold ofC ofE
  rw [if_pos h, if_pos h]
  exact ⟨rfl, rfl⟩
-- from Rs4
/-- By how much it rises from p on, and what lies ahead; the first error. -/
noncomputable def riE (p : Ev) : List Ev → Int
  | [] => 0
  | c :: l => if beE p c = 0 then riE c l else beE p c
noncomputable def riN (p : Ev) (acc : Nat) : List Ev → Nat
  | [] => acc
  | c :: l => if beE p c = 0 then riN c (acc + (beC p c).i.n) l else 0
noncomputable def risE : List Ev → Int
  | [] => 0
  | [e] => evE e
  | e :: c :: l => riE e (c :: l)
noncomputable def risN : List Ev → Nat
  | [] => 0
  | [_] => 0
  | e :: c :: l => riN e 0 (c :: l)
theorem be_bd {p c : Ev} (h : beE p c = 0) : (beC p c).i.n ≤ 18446744073709551615 := by
  have hb : EvOk p ∧ EvOk c := by
    refine Classical.byContradiction fun h' => ?_
    rw [beE_no h'] at h
    exact absurd h (by decide)
  have ht : p.t < c.t := by
    refine Classical.byContradiction fun h' => ?_
    rw [beE_time hb.1 hb.2 h'] at h
    exact absurd h (by decide)
  rw [beC_good hb.1 hb.2 ht]
  exact (bt_bd hb.1 hb.2 ht).2.2.2.2.2.2
theorem risE_two {l : List Ev} (h : 1 < l.length) : risE l = riE (l[0]'(by omega)) (l.drop 1) ∧ risN l = riN (l[0]'(by omega)) 0 (l.drop 1) := by
  match l, h with
  | e :: c :: l, _ => exact ⟨rfl, rfl⟩
-- from Bs
theorem in1 {P : Ev → Prop} {a : Ev} (h : P a) : ∀ (i : Nat) (h : i < [a].length), P [a][i] := fun i hi => by
  obtain rfl : i = 0 := by simp at hi; omega
  exact h
theorem in2 {α : Type} {P : α → Prop} {a b : α} (h : P a) (h' : P b) : ∀ (i : Nat) (h : i < [a, b].length), P [a, b][i] := fun i hi => by
  match i, hi with
  | 0, _ => exact h
  | 1, _ => exact h'
theorem in3 {α : Type} {P : α → Prop} {a b c : α} (h : P a) (h' : P b) (h2 : P c) : ∀ (i : Nat) (h : i < [a, b, c].length), P [a, b, c][i] := fun i hi => by
  match i, hi with
  | 0, _ => exact h
  | 1, _ => exact h'
  | 2, _ => exact h2
theorem in4 {α : Type} {P : α → Prop} {a b c d : α} (h : P a) (h' : P b) (h2 : P c) (h3 : P d) : ∀ (i : Nat) (h : i < [a, b, c, d].length), P [a, b, c, d][i] := fun i hi => by
  match i, hi with
  | 0, _ => exact h
  | 1, _ => exact h'
  | 2, _ => exact h2
  | 3, _ => exact h3
theorem bt_lit {p c : Ev} {n : Nat} {r g s : Int} (h1 : (btI p c).toNat = n) (h2 : btR p c = r) (h3 : btG p c = g) (h4 : btS p c = s) : btC p c = ⟨0, zeroEv, zeroEv, cutU n, r, g, s⟩ := by
  subst h1 h2 h3 h4
  rfl
theorem cutU_0 : cutU 0 = U.zero := U.ext (cutU_n (by omega))
def ea : Ev := ⟨10, 5, 0, false⟩
def eb : Ev := ⟨30, 3, 0, false⟩
def ec : Ev := ⟨40, 0, 0, true⟩
def ed : Ev := ⟨60, 2, 50, false⟩
def ee : Ev := ⟨60, 2, 0, false⟩
theorem ea_ok : EvOk ⟨10, 5, 0, false⟩ := by constructor <;> first | decide | (intro h; cases h)
theorem eb_ok : EvOk ⟨30, 3, 0, false⟩ := by constructor <;> first | decide | (intro h; cases h)
theorem ec_ok : EvOk ⟨40, 0, 0, true⟩ := by constructor <;> first | decide | (intro h; exact ⟨rfl, rfl⟩)
theorem ed_ok : EvOk ⟨60, 2, 50, false⟩ := by constructor <;> first | decide | (intro h; cases h)
theorem ee_ok : EvOk ⟨60, 2, 0, false⟩ := by constructor <;> first | decide | (intro h; cases h)
theorem en_no : ¬ EvOk ⟨-1, 0, 0, false⟩ := fun h => absurd h.t0 (by decide)
theorem en_in : EvIn ⟨-1, 0, 0, false⟩ := by constructor <;> decide
theorem eo_no : ¬ EvOk ⟨1, 0, 2, false⟩ := fun h => absurd h.c1 (by decide)
theorem eo_in : EvIn ⟨1, 0, 2, false⟩ := by constructor <;> decide
theorem ab_i : (beC ⟨10, 5, 0, false⟩ ⟨30, 3, 0, false⟩).i.n = 3 := by
  rw [beC_good ea_ok eb_ok (by decide), bt_lit (n := 3) rfl rfl rfl rfl]
  exact cutU_n (by omega)
theorem bc_i : (beC ⟨30, 3, 0, false⟩ ⟨40, 0, 0, true⟩).i.n = 0 := by
  rw [beC_good eb_ok ec_ok (by decide), bt_lit (n := 0) rfl rfl rfl rfl]
  exact cutU_n (by omega)
theorem cd_i : (beC ⟨40, 0, 0, true⟩ ⟨60, 2, 50, false⟩).i.n = 2 := by
  rw [beC_good ec_ok ed_ok (by decide), bt_lit (n := 2) rfl rfl rfl rfl]
  exact cutU_n (by omega)
theorem ris4 : risE [⟨10, 5, 0, false⟩, ⟨30, 3, 0, false⟩, ⟨40, 0, 0, true⟩, ⟨60, 2, 50, false⟩] = 0 ∧ risN [⟨10, 5, 0, false⟩, ⟨30, 3, 0, false⟩, ⟨40, 0, 0, true⟩, ⟨60, 2, 50, false⟩] = 5 := by
  have h1 : beE ⟨10, 5, 0, false⟩ ⟨30, 3, 0, false⟩ = 0 := beE_good ea_ok eb_ok (by decide)
  have h2 : beE ⟨30, 3, 0, false⟩ ⟨40, 0, 0, true⟩ = 0 := beE_good eb_ok ec_ok (by decide)
  have h3 : beE ⟨40, 0, 0, true⟩ ⟨60, 2, 50, false⟩ = 0 := beE_good ec_ok ed_ok (by decide)
  constructor
  · simp only [risE, riE, h1, h2, h3, if_true]
  · simp only [risN, riN, h1, h2, h3, if_true, ab_i, bc_i, cd_i]
-- from L7
-- from L8
theorem meC_zero {c : Ce} (h : CeOk c) : meC zeroCe c = c ∧ meE zeroCe c = 0 := by
  have hab : CeOk zeroCe ∧ CeOk c := ⟨zeroOk, h⟩
  unfold meC meE
  rw [if_pos hab, if_pos hab, if_pos rfl, if_pos (show zeroCe = zeroCe ∨ c = zeroCe ∨ zeroCe.l.t < c.f.t from Or.inl rfl)]
  exact ⟨rfl, rfl⟩
theorem meC_zeroR {c : Ce} (h : CeOk c) : meC c zeroCe = c ∧ meE c zeroCe = 0 := by
  have hab : CeOk c ∧ CeOk zeroCe := ⟨h, zeroOk⟩
  unfold meC meE
  rw [if_pos hab, if_pos hab, if_pos (show c = zeroCe ∨ zeroCe = zeroCe ∨ c.l.t < zeroCe.f.t from Or.inr (Or.inl rfl))]
  refine ⟨?_, rfl⟩
  split
  · rename_i e; exact e.symm
  · rw [if_pos rfl]
theorem meC_good {a b : Ce} (ha : CeOk a) (hb : CeOk b) (za : ¬ a = zeroCe) (zb : ¬ b = zeroCe) (ht : a.l.t < b.f.t) : meC a b = mgC a b ∧ meE a b = 0 := by
  have hab : CeOk a ∧ CeOk b := ⟨ha, hb⟩
  unfold meC meE
  rw [if_pos hab, if_pos hab, if_neg za, if_neg zb, if_pos ht, if_pos (show a = zeroCe ∨ b = zeroCe ∨ a.l.t < b.f.t from Or.inr (Or.inr ht))]
  exact ⟨rfl, rfl⟩
theorem meC_time {a b : Ce} (ha : CeOk a) (hb : CeOk b) (za : ¬ a = zeroCe) (zb : ¬ b = zeroCe) (ht : ¬ a.l.t < b.f.t) : meC a b = zeroCe ∧ meE a b = 9 := by
  have hab : CeOk a ∧ CeOk b := ⟨ha, hb⟩
  unfold meC meE
  rw [if_pos hab, if_pos hab, if_neg za, if_neg zb, if_neg ht, if_neg (show ¬ (a = zeroCe ∨ b = zeroCe ∨ a.l.t < b.f.t) from fun h => h.elim za fun h => h.elim zb ht)]
  exact ⟨rfl, rfl⟩
theorem nz_n {c : Ce} (h : c.n ≠ 0) : ¬ c = zeroCe := fun e => h (by rw [e]; rfl)
theorem me_lit {a b : Ce} {k m j : Nat} {n : Int} {f l : Ev} {r g s R G S : Int} (ha : CeOk a) (hb : CeOk b) (na : a.n ≠ 0) (nb : b.n ≠ 0) (ht : a.l.t < b.f.t) (ia : a.i.n = k) (ib : b.i.n = m) (h1 : (btI a.l b.f).toNat = j) (h2 : btR a.l b.f = r) (h3 : btG a.l b.f = g) (h4 : btS a.l b.f = s)
    (hj : j < 340282366920938463463374607431768211456) (hn : a.n + b.n = n) (hf : a.f = f) (hl : b.l = l) (hr : a.r + r + b.r = R) (hg : a.g + g + b.g = G) (hs : a.s + s + b.s = S) : meC a b = ⟨n, f, l, cutU (k + (j + (m + 0))), R, G, S⟩ ∧ meE a b = 0 := by
  obtain ⟨e1, e2⟩ := meC_good ha hb (nz_n na) (nz_n nb) ht
  refine ⟨?_, e2⟩
  rw [e1]
  have hb' := bt_lit h1 h2 h3 h4
  unfold mgC
  rw [hb']
  show Ce.mk (a.n + b.n) a.f b.l (cutU (a.i.n + ((cutU j).n + (b.i.n + 0)))) (a.r + r + b.r) (a.g + g + b.g) (a.s + s + b.s) = _
  rw [cutU_n hj, ia, ib, hn, hf, hl, hr, hg, hs]
theorem dd_ok : EvOk ⟨40, 9, 0, false⟩ := by constructor <;> first | decide | (intro h; cases h)
abbrev qa : Ev := ⟨10, 5, 0, false⟩
abbrev qb : Ev := ⟨30, 3, 0, false⟩
abbrev qd : Ev := ⟨40, 9, 0, false⟩
abbrev qx : Ce := ⟨1, qa, qa, U.zero, 0, 0, 0⟩
abbrev qe : Ce := ⟨2, qa, qb, cutU 3, 1, 0, 20⟩
abbrev qy : Ce := ⟨2, qb, qd, cutU 6, 0, 0, 10⟩
abbrev qc : Ce := ⟨3, qa, qd, cutU 9, 1, 0, 30⟩
theorem z_n : U.zero.n = 0 := rfl
theorem c3_n : (cutU 3).n = 3 := cutU_n (by omega)
theorem c6_n : (cutU 6).n = 6 := cutU_n (by omega)
theorem qx_ok : CeOk qx := oneC_ok.2 ea_ok
theorem qob_ok : CeOk (oneC qb) := oneC_ok.2 eb_ok
theorem qod_ok : CeOk (oneC qd) := oneC_ok.2 dd_ok
theorem me_xb : meC qx (oneC qb) = qe ∧ meE qx (oneC qb) = 0 :=
  me_lit (k := 0) (m := 0) (j := 3) qx_ok qob_ok (by decide) (by decide) (by decide) z_n z_n rfl rfl rfl rfl (by omega) rfl rfl rfl rfl rfl rfl
theorem qe_ok : CeOk qe := by rw [← me_xb.1]; exact meC_ok _ _
theorem me_ed : meC qe (oneC qd) = qc ∧ meE qe (oneC qd) = 0 :=
  me_lit (k := 3) (m := 0) (j := 6) qe_ok qod_ok (by decide) (by decide) (by decide) c3_n z_n rfl rfl rfl rfl (by omega) rfl rfl rfl rfl rfl rfl
theorem qc_ok : CeOk qc := by rw [← me_ed.1]; exact meC_ok _ _
theorem me_bd : meC (oneC qb) (oneC qd) = qy ∧ meE (oneC qb) (oneC qd) = 0 :=
  me_lit (k := 0) (m := 0) (j := 6) qob_ok qod_ok (by decide) (by decide) (by decide) z_n z_n rfl rfl rfl rfl (by omega) rfl rfl rfl rfl rfl rfl
theorem qy_ok : CeOk qy := by rw [← me_bd.1]; exact meC_ok _ _
theorem me_xy : meC qx qy = qc ∧ meE qx qy = 0 :=
  me_lit (k := 0) (m := 6) (j := 3) qx_ok qy_ok (by decide) (by decide) (by decide) z_n c6_n rfl rfl rfl rfl (by omega) rfl rfl rfl rfl rfl rfl
theorem me_yx : meC qy qx = zeroCe ∧ meE qy qx = 9 := meC_time qy_ok qx_ok (nz_n (by decide)) (nz_n (by decide)) (by decide)
theorem me_ba : meC (oneC qb) (oneC qa) = zeroCe ∧ meE (oneC qb) (oneC qa) = 9 := meC_time qob_ok qx_ok (nz_n (by decide)) (nz_n (by decide)) (by decide)
theorem all1 {c : Ce} (h : CeOk c) : allC zeroCe [c] = c ∧ allE zeroCe [c] = 0 := by
  obtain ⟨a1, a2⟩ := meC_zero h
  simp only [allC, allE, a1, a2, if_true, and_self]
theorem all2 {c d x : Ce} {E : Int} (h : CeOk c) (h2 : meC c d = x ∧ meE c d = E) : allC zeroCe [c, d] = (if E = 0 then x else zeroCe) ∧ allE zeroCe [c, d] = E := by
  obtain ⟨a1, a2⟩ := meC_zero h
  obtain ⟨b1, b2⟩ := h2
  simp only [allC, allE, a1, a2, b1, b2, if_true, true_and]
  split
  · rename_i e; exact e.symm
  · rfl
theorem all3 {c d e x y : Ce} (h : CeOk c) (h2 : meC c d = x ∧ meE c d = 0) (h3 : meC x e = y ∧ meE x e = 0) : allC zeroCe [c, d, e] = y ∧ allE zeroCe [c, d, e] = 0 := by
  obtain ⟨a1, a2⟩ := meC_zero h
  obtain ⟨b1, b2⟩ := h2
  obtain ⟨c1, c2⟩ := h3
  simp only [allC, allE, a1, a2, b1, b2, c1, c2, if_true, and_self]
theorem qn_no : ¬ CeOk ⟨1, qa, qb, U.zero, 0, 0, 0⟩ := fun h => by
  have he := h.ends (nz_n (by decide))
  have := he.one rfl
  exact absurd (congrArg D.Ev.t this) (by decide)
theorem qn_in : CeIn ⟨1, qa, qb, U.zero, 0, 0, 0⟩ := ⟨ea_ok.in, eb_ok.in, by decide, by decide, by decide, by decide, by decide, by decide, by decide, by decide⟩
-- from As
theorem meE_ok {a b : Ce} (h : meE a b = 0) : CeOk a ∧ CeOk b ∧ (a = zeroCe ∨ b = zeroCe ∨ a.l.t < b.f.t) := by
  unfold meE at h
  split at h
  · rename_i hab
    split at h
    · rename_i hc; exact ⟨hab.1, hab.2, hc⟩
    · exact absurd h (by decide)
  · exact absurd h (by decide)
theorem meE_mk {a b : Ce} (ha : CeOk a) (hb : CeOk b) (h : a = zeroCe ∨ b = zeroCe ∨ a.l.t < b.f.t) : meE a b = 0 := by
  unfold meE
  rw [if_pos (show CeOk a ∧ CeOk b from ⟨ha, hb⟩), if_pos h]
theorem meE_no {a b : Ce} (h : meE a b ≠ 0) : meC a b = zeroCe := by
  unfold meC
  split
  · rename_i hab
    split
    · rename_i hz; exact absurd (meE_mk hab.1 hab.2 (Or.inl hz)) h
    · split
      · rename_i hz; exact absurd (meE_mk hab.1 hab.2 (Or.inr (Or.inl hz))) h
      · split
        · rename_i hz; exact absurd (meE_mk hab.1 hab.2 (Or.inr (Or.inr hz))) h
        · rfl
  · rfl
theorem nz_pos {c : Ce} (h : CeOk c) (hz : ¬ c = zeroCe) : 1 ≤ c.n := (h.ends hz).n
theorem mgC_nz {a b : Ce} (ha : CeOk a) (hb : CeOk b) (za : ¬ a = zeroCe) (zb : ¬ b = zeroCe) : ¬ mgC a b = zeroCe := fun e => by
  have h1 := nz_pos ha za
  have h2 := nz_pos hb zb
  have : a.n + b.n = 0 := congrArg Ce.n e
  omega
theorem mg_small {a b : Ce} (ha : CeOk a) (hb : CeOk b) (za : ¬ a = zeroCe) (zb : ¬ b = zeroCe) (ht : a.l.t < b.f.t) : a.i.n + ((btC a.l b.f).i.n + (b.i.n + 0)) < 170141183460469231731687303715884105728 := by
  have := (bt_bd (ha.ends za).l (hb.ends zb).f ht).2.2.2.2.2.2
  have := ha.bd.i; have := hb.bd.i
  omega
theorem mg_assoc {a b c : Ce} (ha : CeOk a) (hb : CeOk b) (hc : CeOk c) (za : ¬ a = zeroCe) (zb : ¬ b = zeroCe) (zc : ¬ c = zeroCe) (h1 : a.l.t < b.f.t) (h2 : b.l.t < c.f.t) : mgC (mgC a b) c = mgC a (mgC b c) := by
  have s1 := mg_small ha hb za zb h1
  have s2 := mg_small hb hc zb zc h2
  have z1 := (bt_bd (ha.ends za).l (hb.ends zb).f h1).2.2.2.2.2.2
  have z2 := (bt_bd (hb.ends zb).l (hc.ends zc).f h2).2.2.2.2.2.2
  have i1 := ha.bd.i; have i2 := hb.bd.i; have i3 := hc.bd.i
  have e1 : (mgC a b).l = b.l := rfl
  have e2 : (mgC b c).f = b.f := rfl
  refine Ce.ext' ?_ rfl rfl ?_ ?_ ?_ ?_
  · show a.n + b.n + c.n = a.n + (b.n + c.n); omega
  · show cutU ((cutU _).n + ((btC b.l c.f).i.n + (c.i.n + 0))) = cutU (a.i.n + ((btC a.l b.f).i.n + ((cutU _).n + 0)))
    rw [cutU_n (by omega), cutU_n (by omega)]
    congr 1
    omega
  · show a.r + (btC a.l b.f).r + b.r + (btC b.l c.f).r + c.r = a.r + (btC a.l b.f).r + (b.r + (btC b.l c.f).r + c.r); omega
  · show a.g + (btC a.l b.f).g + b.g + (btC b.l c.f).g + c.g = a.g + (btC a.l b.f).g + (b.g + (btC b.l c.f).g + c.g); omega
  · show a.s + (btC a.l b.f).s + b.s + (btC b.l c.f).s + c.s = a.s + (btC a.l b.f).s + (b.s + (btC b.l c.f).s + c.s); omega
/-- Three merge to the same, whichever two are first. -/
theorem me_assoc {a b c : Ce} (h1 : meE a b = 0) (h2 : meE b c = 0) : meE (meC a b) c = meE a (meC b c) ∧ meC (meC a b) c = meC a (meC b c) := by
  obtain ⟨ha, hb, k1⟩ := meE_ok h1
  obtain ⟨_, hc, k2⟩ := meE_ok h2
  by_cases za : a = zeroCe
  · subst za
    rw [(meC_zero hb).1, (meC_zero (meC_ok b c)).1, (meC_zero (meC_ok b c)).2, h2]
    exact ⟨rfl, rfl⟩
  · by_cases zb : b = zeroCe
    · subst zb
      rw [(meC_zeroR ha).1, (meC_zero hc).1]
      exact ⟨rfl, rfl⟩
    · by_cases zc : c = zeroCe
      · subst zc
        rw [(meC_zeroR hb).1, (meC_zeroR (meC_ok a b)).1, (meC_zeroR (meC_ok a b)).2, h1]
        exact ⟨rfl, rfl⟩
      · have t1 : a.l.t < b.f.t := k1.elim (fun h => absurd h za) fun h => h.elim (fun h => absurd h zb) id
        have t2 : b.l.t < c.f.t := k2.elim (fun h => absurd h zb) fun h => h.elim (fun h => absurd h zc) id
        have m1 := meC_good ha hb za zb t1
        have m2 := meC_good hb hc zb zc t2
        have o1 : CeOk (mgC a b) := mgC_ok ha hb za zb t1
        have o2 : CeOk (mgC b c) := mgC_ok hb hc zb zc t2
        have n1 := mgC_nz ha hb za zb
        have n2 := mgC_nz hb hc zb zc
        rw [m1.1, m2.1]
        have m3 := meC_good o1 hc n1 zc (show b.l.t < c.f.t from t2)
        have m4 := meC_good ha o2 za n2 (show a.l.t < b.f.t from t1)
        rw [m3.1, m3.2, m4.1, m4.2]
        exact ⟨rfl, mg_assoc ha hb hc za zb zc t1 t2⟩
theorem me_count {a b : Ce} (h : meE a b = 0) : (meC a b).n = a.n + b.n := by
  obtain ⟨ha, hb, k⟩ := meE_ok h
  by_cases za : a = zeroCe
  · rw [za, (meC_zero hb).1]; show b.n = 0 + b.n; omega
  · by_cases zb : b = zeroCe
    · rw [zb, (meC_zeroR ha).1]; show a.n = a.n + 0; omega
    · have t : a.l.t < b.f.t := k.elim (fun h => absurd h za) fun h => h.elim (fun h => absurd h zb) id
      rw [(meC_good ha hb za zb t).1]; rfl
theorem allC_cons {acc d : Ce} {l : List Ce} (h : meE acc d = 0) : allC acc (d :: l) = allC (meC acc d) l ∧ allE acc (d :: l) = allE (meC acc d) l := ⟨if_pos h, if_pos h⟩
theorem allE_cons {acc d : Ce} {l : List Ce} (h : allE acc (d :: l) = 0) : meE acc d = 0 ∧ allE (meC acc d) l = 0 := by
  by_cases hd : meE acc d = 0
  · exact ⟨hd, by rw [← (allC_cons hd).2]; exact h⟩
  · have : allE acc (d :: l) = meE acc d := if_neg hd
    exact absurd (this.symm.trans h) hd
theorem allC_snoc (acc : Ce) (l : List Ce) (c : Ce) (h : allE acc l = 0) : allC acc (l ++ [c]) = (if meE (allC acc l) c = 0 then meC (allC acc l) c else zeroCe) ∧ allE acc (l ++ [c]) = meE (allC acc l) c := by
  induction l generalizing acc with
  | nil =>
    refine ⟨rfl, ?_⟩
    show (if meE acc c = 0 then (0 : Int) else meE acc c) = meE acc c
    split
    · rename_i e; exact e.symm
    · rfl
  | cons d l ih =>
    obtain ⟨hd, h'⟩ := allE_cons h
    rw [List.cons_append, (allC_cons hd).1, (allC_cons hd).2, (allC_cons hd).1]
    exact ih _ h'
theorem allE_snoc {acc : Ce} {l : List Ce} {c : Ce} (h : allE acc (l ++ [c]) = 0) : allE acc l = 0 ∧ meE (allC acc l) c = 0 := by
  have h1 : allE acc l = 0 := by
    induction l generalizing acc with
    | nil => rfl
    | cons d l ih =>
      simp only [List.cons_append, allE] at h ⊢
      split at h
      · rename_i hd; rw [if_pos hd]; exact ih h
      · rename_i hd; exact absurd h hd
  exact ⟨h1, by rw [← (allC_snoc acc l c h1).2]; exact h⟩
theorem allC_ok {acc : Ce} (h : CeOk acc) (l : List Ce) : CeOk (allC acc l) := by
  induction l generalizing acc with
  | nil => exact h
  | cons d l ih =>
    simp only [allC]
    split
    · exact ih (meC_ok _ _)
    · exact zeroOk
theorem snoc_ind {α : Type} {P : List α → Prop} (h0 : P []) (h1 : ∀ l a, P l → P (l ++ [a])) (l : List α) : P l := by
  have h : ∀ m : List α, P m.reverse := by
    intro m
    induction m with
    | nil => exact h0
    | cons a m ih => rw [List.reverse_cons]; exact h1 _ _ ih
  have := h l.reverse
  rwa [List.reverse_reverse] at this
/-- What is merged behind something is the merge of that, and of all of it. -/
theorem all_part {acc : Ce} (ha : CeOk acc) (l : List Ce) : allE acc l = 0 → allE zeroCe l = 0 ∧ meE acc (allC zeroCe l) = 0 ∧ meC acc (allC zeroCe l) = allC acc l := by
  refine snoc_ind (P := fun l => allE acc l = 0 → allE zeroCe l = 0 ∧ meE acc (allC zeroCe l) = 0 ∧ meC acc (allC zeroCe l) = allC acc l) ?_ ?_ l
  · exact fun _ => ⟨rfl, (meC_zeroR ha).2, (meC_zeroR ha).1⟩
  · intro l c ih h
    obtain ⟨h1, h2⟩ := allE_snoc h
    obtain ⟨i1, i2, i3⟩ := ih h1
    obtain ⟨_, hc, k⟩ := meE_ok h2
    have ox := allC_ok zeroOk l
    have hx : meE (allC zeroCe l) c = 0 := by
      refine meE_mk ox hc ?_
      by_cases zx : allC zeroCe l = zeroCe
      · exact Or.inl zx
      · by_cases zc : c = zeroCe
        · exact Or.inr (Or.inl zc)
        · refine Or.inr (Or.inr ?_)
          rw [← i3] at k
          by_cases za : acc = zeroCe
          · rw [za, (meC_zero ox).1] at k
            exact k.elim (fun h => absurd h zx) fun h => h.elim (fun h => absurd h zc) id
          · obtain ⟨_, _, k2⟩ := meE_ok i2
            have t : acc.l.t < (allC zeroCe l).f.t := k2.elim (fun h => absurd h za) fun h => h.elim (fun h => absurd h zx) id
            rw [(meC_good ha ox za zx t).1] at k
            exact k.elim (fun h => absurd h (mgC_nz ha ox za zx)) fun h => h.elim (fun h => absurd h zc) id
    obtain ⟨s1, s2⟩ := allC_snoc zeroCe l c i1
    obtain ⟨s3, s4⟩ := allC_snoc acc l c h1
    rw [if_pos hx] at s1
    rw [if_pos h2] at s3
    have hms := me_assoc i2 hx
    rw [i3] at hms
    refine ⟨s2.trans hx, ?_, ?_⟩
    · rw [s1, ← hms.1]; exact h2
    · rw [s1, ← hms.2, s3]
theorem allC_append {acc : Ce} {l m : List Ce} (h : allE acc l = 0) : allC acc (l ++ m) = allC (allC acc l) m ∧ allE acc (l ++ m) = allE (allC acc l) m := by
  induction l generalizing acc with
  | nil => exact ⟨rfl, rfl⟩
  | cons d l ih =>
    obtain ⟨hd, h'⟩ := allE_cons h
    rw [List.cons_append, (allC_cons hd).1, (allC_cons hd).2, (allC_cons hd).1]
    exact ih h'
theorem allE_left {acc : Ce} {l m : List Ce} (h : allE acc (l ++ m) = 0) : allE acc l = 0 := by
  induction l generalizing acc with
  | nil => rfl
  | cons d l ih =>
    rw [List.cons_append] at h
    obtain ⟨hd, h'⟩ := allE_cons h
    rw [(allC_cons hd).2]
    exact ih h'
/-- Two parts of a list, and the list. -/
theorem all_two {l m : List Ce} (h : allE zeroCe (l ++ m) = 0) : allE zeroCe l = 0 ∧ allE zeroCe m = 0 ∧ meE (allC zeroCe l) (allC zeroCe m) = 0 ∧ meC (allC zeroCe l) (allC zeroCe m) = allC zeroCe (l ++ m) := by
  have h1 := allE_left h
  obtain ⟨a1, a2⟩ := allC_append (m := m) h1
  rw [a2] at h
  obtain ⟨p1, p2, p3⟩ := all_part (allC_ok zeroOk l) m h
  exact ⟨h1, p1, p2, by rw [p3, a1]⟩
theorem ofE_ok {l : List Ev} (h : ofE l = 0) : AllOk l ∧ allE zeroCe (l.map oneC) = 0 ∧ ofC l = allC zeroCe (l.map oneC) := by
  have ha : AllOk l := by
    refine Classical.byContradiction fun hn => ?_
    unfold ofE at h
    rw [if_neg hn] at h
    exact absurd h (by decide)
  obtain ⟨h1, h2⟩ := ofC_yes ha
  exact ⟨ha, by rw [← h2]; exact h, h1⟩
theorem of_two {l m : List Ev} (h : ofE (l ++ m) = 0) : ofE l = 0 ∧ ofE m = 0 ∧ meE (ofC l) (ofC m) = 0 ∧ meC (ofC l) (ofC m) = ofC (l ++ m) := by
  obtain ⟨ha, he, hc⟩ := ofE_ok h
  have hl : AllOk l := fun j hj => by
    have := ha j (by rw [List.length_append]; omega)
    rwa [List.getElem_append_left hj] at this
  have hm : AllOk m := fun j hj => by
    have := ha (l.length + j) (by rw [List.length_append]; omega)
    rw [List.getElem_append_right (by omega)] at this
    simpa using this
  rw [List.map_append] at he hc
  obtain ⟨p1, p2, p3, p4⟩ := all_two he
  rw [(ofC_yes hl).1, (ofC_yes hl).2, (ofC_yes hm).1, (ofC_yes hm).2]
  exact ⟨p1, p2, p3, p4.trans hc.symm⟩
theorem ofC_ok (l : List Ev) : CeOk (ofC l) := by
  unfold ofC
  split
  · exact allC_ok zeroOk _
  · exact zeroOk
theorem ri_all (m : List Ev) : ∀ (p : Ev) (acc : Ce), CeOk acc → ¬ acc = zeroCe → acc.l = p → allE acc (m.map oneC) = 0 → riE p m = 0 ∧ (allC acc (m.map oneC)).i.n = riN p acc.i.n m := by
  induction m with
  | nil => intro p acc _ _ _ _; exact ⟨rfl, rfl⟩
  | cons c m ih =>
    intro p acc ha hz hp h
    simp only [List.map_cons, allE, allC] at h ⊢
    split at h
    · rename_i hd
      rw [if_pos hd]
      obtain ⟨_, hc, k⟩ := meE_ok hd
      have hcz := oneC_nz c
      have t : acc.l.t < (oneC c).f.t := k.elim (fun h => absurd h hz) fun h => h.elim (fun h => absurd h hcz) id
      have t' : p.t < c.t := by rw [← hp]; exact t
      have hpo : EvOk p := by rw [← hp]; exact (ha.ends hz).l
      have hco : EvOk c := oneC_ok.1 hc
      have hbe := beE_good hpo hco t'
      have hbc := beC_good hpo hco t'
      have g := (meC_good ha hc hz hcz t).1
      have o := mgC_ok ha hc hz hcz t
      have hi : (meC acc (oneC c)).i.n = acc.i.n + (beC p c).i.n := by
        rw [g, hbc]
        show (cutU (acc.i.n + ((btC acc.l c).i.n + (U.zero.n + 0)))).n = _
        have s := mg_small ha hc hz hcz t
        rw [hp]
        have s' : acc.i.n + ((btC p c).i.n + (U.zero.n + 0)) < 170141183460469231731687303715884105728 := by rw [← hp]; exact s
        rw [cutU_n (by omega)]
        rfl
      have := ih c (meC acc (oneC c)) (by rw [g]; exact o) (by rw [g]; exact mgC_nz ha hc hz hcz) (by rw [g]; rfl) h
      simp only [riE, riN, hbe, if_true]
      rw [← hi]
      exact this
    · rename_i hd; exact absurd h hd
/-- What a cell of events says of how they rise. -/
theorem ris_of {l : List Ev} (h : ofE l = 0) : risE l = 0 ∧ risN l = (ofC l).i.n := by
  obtain ⟨ha, he, hc⟩ := ofE_ok h
  rw [hc]
  match l, ha, he with
  | [], _, _ => exact ⟨rfl, rfl⟩
  | [e], ha, _ =>
    have := ha 0 (by simp)
    refine ⟨evE_yes this, ?_⟩
    rw [show allC zeroCe ([e].map oneC) = oneC e from (all1 (oneC_ok.2 this)).1]
    rfl
  | e :: c :: m, ha, he =>
    have h0 : EvOk e := ha 0 (by simp)
    obtain ⟨z1, z2⟩ := meC_zero (oneC_ok.2 h0)
    have e1 : allC zeroCe ((e :: c :: m).map oneC) = allC (oneC e) ((c :: m).map oneC) := by
      rw [List.map_cons, (allC_cons z2).1, z1]
    have e2 : allE zeroCe ((e :: c :: m).map oneC) = allE (oneC e) ((c :: m).map oneC) := by
      rw [List.map_cons, (allC_cons z2).2, z1]
    rw [e2] at he
    rw [e1]
    have := ri_all (c :: m) e (oneC e) (oneC_ok.2 h0) (oneC_nz e) rfl he
    exact ⟨this.1, this.2.symm⟩
end Go.Proofs.Ytkoiogfhbipmjaa
