/-
  EVENTS AND CELLS LISTED IN A CALL; what is asked of concrete events.
-/
import Derived.Test.YtjdjebhimljedaaRs4
namespace Go.Proofs.Ytjdjebhimljedaa
open Go Go.RowKit

def evsA (l : List Ev) : Array Value := (l.flatMap fun e => (evA e).toList).toArray
def cesA (l : List Ce) : Array Value := (l.flatMap fun e => (ceA e).toList).toArray
theorem evsA_at : ∀ (l : List Ev) (i : Nat) (h : i < l.length) (j : Nat), j < 4 → (l.flatMap fun e => (evA e).toList)[i * 4 + j]? = (evA l[i]).toList[j]?
  | e :: l, 0, _, j, hj => by
    rw [List.flatMap_cons, Nat.zero_mul, Nat.zero_add, List.getElem?_append_left (by simpa [evA] using hj)]
    rfl
  | e :: l, i + 1, h, j, hj => by
    have hl : (evA e).toList.length = 4 := rfl
    rw [List.flatMap_cons, List.getElem?_append_right (by rw [hl]; omega), hl, show (i + 1) * 4 + j - 4 = i * 4 + j by omega]
    have := evsA_at l i (by simpa using h) j hj
    rw [this]
    rfl
theorem cesA_at : ∀ (l : List Ce) (i : Nat) (h : i < l.length) (j : Nat), j < 14 → (l.flatMap fun e => (ceA e).toList)[i * 14 + j]? = (ceA l[i]).toList[j]?
  | e :: l, 0, _, j, hj => by
    rw [List.flatMap_cons, Nat.zero_mul, Nat.zero_add, List.getElem?_append_left (by simpa [ceA] using hj)]
    rfl
  | e :: l, i + 1, h, j, hj => by
    have hl : (ceA e).toList.length = 14 := rfl
    rw [List.flatMap_cons, List.getElem?_append_right (by rw [hl]; omega), hl, show (i + 1) * 14 + j - 14 = i * 14 + j by omega]
    have := cesA_at l i (by simpa using h) j hj
    rw [this]
    rfl
theorem evs_blk {W : World} {g : Nat} {l : List Ev} (h : Blk W g 24 (evsA l)) (hin : ∀ (i : Nat) (h : i < l.length), EvIn l[i]) : EvsAt W (some ⟨g, 0, none⟩) g 0 l :=
  ⟨fun _ => ⟨rfl, h.lt⟩, fun i hi => by
    rw [Nat.zero_add]
    refine h.part (i * 4) (evA l[i]) (fun j hj => ?_)
    have := evsA_at l i hi j hj
    unfold evsA
    simpa using this, hin⟩
theorem ces_blk {W : World} {g : Nat} {l : List Ce} (h : Blk W g 28 (cesA l)) (hin : ∀ (i : Nat) (h : i < l.length), CeIn l[i]) : CesAt W (some ⟨g, 0, none⟩) g 0 l :=
  ⟨fun _ => ⟨rfl, h.lt⟩, fun i hi => by
    rw [Nat.zero_add]
    refine h.part (i * 14) (ceA l[i]) (fun j hj => ?_)
    have := cesA_at l i hi j hj
    unfold cesA
    simpa using this, hin⟩
theorem bs1_ev (a : Ev) (w : World) : (Instr.buildSlice 38 1 #[(0, .agg (evA a))]).run Try.prog w = .ok (.slice (some ⟨w.heap.size, 0, none⟩) 1 1) (w.alloc (.cells (evsA [a]) 24)) := by
  simp only [evsA, List.flatMap_cons, List.flatMap_nil, List.append_nil, evA]
  go_simp
theorem bs2_ev (a b : Ev) (w : World) : (Instr.buildSlice 38 2 #[(0, .agg (evA a)), (1, .agg (evA b))]).run Try.prog w = .ok (.slice (some ⟨w.heap.size, 0, none⟩) 2 2) (w.alloc (.cells (evsA [a, b]) 24)) := by
  simp only [evsA, List.flatMap_cons, List.flatMap_nil, List.append_nil, evA]
  go_simp
theorem bs3_ev (a b c : Ev) (w : World) : (Instr.buildSlice 38 3 #[(0, .agg (evA a)), (1, .agg (evA b)), (2, .agg (evA c))]).run Try.prog w = .ok (.slice (some ⟨w.heap.size, 0, none⟩) 3 3) (w.alloc (.cells (evsA [a, b, c]) 24)) := by
  simp only [evsA, List.flatMap_cons, List.flatMap_nil, List.append_nil, evA]
  go_simp
theorem bs4_ev (a b c d : Ev) (w : World) : (Instr.buildSlice 38 4 #[(0, .agg (evA a)), (1, .agg (evA b)), (2, .agg (evA c)), (3, .agg (evA d))]).run Try.prog w = .ok (.slice (some ⟨w.heap.size, 0, none⟩) 4 4) (w.alloc (.cells (evsA [a, b, c, d]) 24)) := by
  simp only [evsA, List.flatMap_cons, List.flatMap_nil, List.append_nil, evA]
  go_simp
theorem bs3_ce (a b c : Ce) (w : World) : (Instr.buildSlice 29 3 #[(0, .agg (ceA a)), (1, .agg (ceA b)), (2, .agg (ceA c))]).run Try.prog w = .ok (.slice (some ⟨w.heap.size, 0, none⟩) 3 3) (w.alloc (.cells (cesA [a, b, c]) 28)) := by
  simp only [cesA, List.flatMap_cons, List.flatMap_nil, List.append_nil, ceA]
  go_simp
theorem in1 {P : Ev → Prop} {a : Ev} (h : P a) : ∀ (i : Nat) (h : i < [a].length), P [a][i] := fun i hi => by
  obtain rfl : i = 0 := by simp at hi; omega
  exact h
theorem in2 {α : Type} {P : α → Prop} {a b : α} (h : P a) (h' : P b) : ∀ (i : Nat) (h : i < [a, b].length), P [a, b][i] := fun i hi => by
  match i, hi with
  | 0, _ => exact h
  | 1, _ => exact h'
theorem in3 {α : Type} {P : α → Prop} {a b c : α} (h : P a) (h' : P b) (h2 : P c) : ∀ (i : Nat) (h : i < [a, b, c].length), P [a, b, c][i] := fun i hi => by
  match i, hi with
  | 0, _ => exact h
  | 1, _ => exact h'
  | 2, _ => exact h2
theorem in4 {α : Type} {P : α → Prop} {a b c d : α} (h : P a) (h' : P b) (h2 : P c) (h3 : P d) : ∀ (i : Nat) (h : i < [a, b, c, d].length), P [a, b, c, d][i] := fun i hi => by
  match i, hi with
  | 0, _ => exact h
  | 1, _ => exact h'
  | 2, _ => exact h2
  | 3, _ => exact h3
theorem of_lit {n : Int} {k : Nat} (hn : n = (k : Int)) (hk : k < 18446744073709551616) (w : World) :
    Calls Try.prog 18 #[.int .u64 n] w fun e w' => e = .returned (.agg (wdA (cutU k))) ∧ Below w.heap.size w w' := by
  subst hn
  have e : (Value.agg #[.int .u64 0, .int .u64 (k : Int)]) = .agg (wdA (cutU k)) := by
    have h : (cutU k).n = k := cutU_n (by omega)
    unfold wdA hiZ loZ
    rw [h, show ((k / 18446744073709551616 : Nat) : Int) = 0 by omega, show ((k % 18446744073709551616 : Nat) : Int) = k by omega]
  have := of_bel (k : Int) w
  rwa [e] at this
theorem ce_neq_no {x y : Ce} (h : x = y) (w : World) : (binOp .neq 28 (.agg (ceA x)) (.agg (ceA y))).run Try.prog w = .ok (.bool false) w := by
  subst h
  unfold ceA
  go_simp
theorem bt_lit {p c : Ev} {n : Nat} {r g s : Int} (h1 : (btI p c).toNat = n) (h2 : btR p c = r) (h3 : btG p c = g) (h4 : btS p c = s) : btC p c = ⟨0, zeroEv, zeroEv, cutU n, r, g, s⟩ := by
  subst h1 h2 h3 h4
  rfl
theorem be_lit {p c : Ev} {n : Nat} {r g s : Int} (hp : EvOk p) (hc : EvOk c) (ht : p.t < c.t) (h1 : (btI p c).toNat = n) (h2 : btR p c = r) (h3 : btG p c = g) (h4 : btS p c = s) (w : World) :
    Calls Try.prog 20 #[.agg (evA p), .agg (evA c)] w fun e w' => e = .returned (.tuple #[.agg (ceA ⟨0, zeroEv, zeroEv, cutU n, r, g, s⟩), .int .i64 0]) ∧ Below w.heap.size w w' := by
  have := be_good hp hc ht w
  rwa [bt_lit h1 h2 h3 h4] at this
theorem cutU_0 : cutU 0 = U.zero := U.ext (cutU_n (by omega))
/-- Events and their rise, told by numbers. -/
theorem ri_lit {l : List Ev} {n : Nat} {E : Int} {W : World} {g k : Nat} (h : Blk W g 24 (evsA l)) (hk : l.length = k) (hm : k ≤ 100) (hin : ∀ (i : Nat) (h : i < l.length), EvIn l[i]) (hn : risN l = n) (hE : risE l = E) :
    Calls Try.prog 30 #[.slice (some ⟨g, 0, none⟩) k k] W fun e w' => e = .returned (.tuple #[.agg (wdA (cutU n)), .int .i64 E]) ∧ Below W.heap.size W w' := by
  subst hk hn hE
  exact ri_any _ g 0 l.length l (by omega) W (evs_blk h hin)
def ea : Ev := ⟨10, 5, 0, false⟩
def eb : Ev := ⟨30, 3, 0, false⟩
def ec : Ev := ⟨40, 0, 0, true⟩
def ed : Ev := ⟨60, 2, 50, false⟩
def ee : Ev := ⟨60, 2, 0, false⟩
theorem ea_ok : EvOk ⟨10, 5, 0, false⟩ := by constructor <;> first | decide | (intro h; cases h)
theorem eb_ok : EvOk ⟨30, 3, 0, false⟩ := by constructor <;> first | decide | (intro h; cases h)
theorem ec_ok : EvOk ⟨40, 0, 0, true⟩ := by constructor <;> first | decide | (intro h; exact ⟨rfl, rfl⟩)
theorem ed_ok : EvOk ⟨60, 2, 50, false⟩ := by constructor <;> first | decide | (intro h; cases h)
theorem ee_ok : EvOk ⟨60, 2, 0, false⟩ := by constructor <;> first | decide | (intro h; cases h)
theorem en_no : ¬ EvOk ⟨-1, 0, 0, false⟩ := fun h => absurd h.t0 (by decide)
theorem en_in : EvIn ⟨-1, 0, 0, false⟩ := by constructor <;> decide
theorem eo_no : ¬ EvOk ⟨1, 0, 2, false⟩ := fun h => absurd h.c1 (by decide)
theorem eo_in : EvIn ⟨1, 0, 2, false⟩ := by constructor <;> decide
theorem ab_i : (beC ⟨10, 5, 0, false⟩ ⟨30, 3, 0, false⟩).i.n = 3 := by
  rw [beC_good ea_ok eb_ok (by decide), bt_lit (n := 3) rfl rfl rfl rfl]
  exact cutU_n (by omega)
theorem bc_i : (beC ⟨30, 3, 0, false⟩ ⟨40, 0, 0, true⟩).i.n = 0 := by
  rw [beC_good eb_ok ec_ok (by decide), bt_lit (n := 0) rfl rfl rfl rfl]
  exact cutU_n (by omega)
theorem cd_i : (beC ⟨40, 0, 0, true⟩ ⟨60, 2, 50, false⟩).i.n = 2 := by
  rw [beC_good ec_ok ed_ok (by decide), bt_lit (n := 2) rfl rfl rfl rfl]
  exact cutU_n (by omega)
theorem ris4 : risE [⟨10, 5, 0, false⟩, ⟨30, 3, 0, false⟩, ⟨40, 0, 0, true⟩, ⟨60, 2, 50, false⟩] = 0 ∧ risN [⟨10, 5, 0, false⟩, ⟨30, 3, 0, false⟩, ⟨40, 0, 0, true⟩, ⟨60, 2, 50, false⟩] = 5 := by
  have h1 : beE ⟨10, 5, 0, false⟩ ⟨30, 3, 0, false⟩ = 0 := beE_good ea_ok eb_ok (by decide)
  have h2 : beE ⟨30, 3, 0, false⟩ ⟨40, 0, 0, true⟩ = 0 := beE_good eb_ok ec_ok (by decide)
  have h3 : beE ⟨40, 0, 0, true⟩ ⟨60, 2, 50, false⟩ = 0 := beE_good ec_ok ed_ok (by decide)
  constructor
  · simp only [risE, riE, h1, h2, h3, if_true]
  · simp only [risN, riN, h1, h2, h3, if_true, ab_i, bc_i, cd_i]

end Go.Proofs.Ytjdjebhimljedaa
