/-
  STORES to parts of a cell in memory.
-/
import Derived.Test.YtjdjebhimljedaaSl
import Derived.Test.YtjdjebhimljedaaAs
namespace Go.Proofs.Ytjdjebhimljedaa
open Go Go.RowKit

theorem wl_stp {P : Program} {ops : Array Oper} {Q : Exit → Act → World → Prop} {rest : List Oper} {op : Oper} {a : Act} {w : World} {ty : TypeId} {x y : Operand} {g o : Nat} {T : TypeId} {A vs : Array Value} (A' : Array Value) (ho : op.op = .store ty x y) (hw : Region.wanted op (yielded ops a.tmps) = true) (hx : a.eval x = .pointer (some ⟨g, o, none⟩)) (hy : a.eval y = .agg vs) (hb : Blk w g T A)
    (hi : (P.info? ty).map (·.size) = some vs.size) (h1 : vs.all (·.oneCell') = true) (hs : A'.size = A.size) (hn : o + vs.size ≤ A.size)
    (hin : ∀ j, j < vs.size → A'[o + j]? = vs[j]?) (hout : ∀ j, j < A.size → j < o ∨ o + vs.size ≤ j → A'[j]? = A[j]?)
    (h : ∀ W : World, Blk W g T A' → Upd g w W → wpList P ops Q rest (a.put op.dst undef) W) : wpList P ops Q (op :: rest) a w := by
  refine wl_st A' ho hw hx hy hb hi h1 hn (fun B h0 h2 h3 => ?_) h
  refine Array.ext_getElem? fun j => ?_
  rcases Nat.lt_or_ge j A.size with hj | hj
  · by_cases hc : j < o ∨ o + vs.size ≤ j
    · rw [hout j hj hc]; exact h2 j hc
    · obtain ⟨k, rfl⟩ : ∃ k, j = o + k := ⟨j - o, by omega⟩
      have hk : k < vs.size := by omega
      rw [hin k hk]
      exact h3 k hk
  · rw [Array.getElem?_eq_none (by omega), Array.getElem?_eq_none (by omega)]
theorem ps_of (x : Ce) (e : Ev) : ∀ j, j < (ceA x).size → j < 1 ∨ 1 + (evA e).size ≤ j → (ceA ⟨x.n, e, x.l, x.i, x.r, x.g, x.s⟩)[j]? = (ceA x)[j]? := fun j hj h => by
  have hj' : j < 14 := hj
  have h' : j < 1 ∨ 5 ≤ j := h
  have : j = 0 ∨ j = 5 ∨ j = 6 ∨ j = 7 ∨ j = 8 ∨ j = 9 ∨ j = 10 ∨ j = 11 ∨ j = 12 ∨ j = 13 := by omega
  clear hj h hj' h'
  rcases this with rfl | rfl | rfl | rfl | rfl | rfl | rfl | rfl | rfl | rfl <;> rfl
theorem ps_ol (x : Ce) (e : Ev) : ∀ j, j < (ceA x).size → j < 5 ∨ 5 + (evA e).size ≤ j → (ceA ⟨x.n, x.f, e, x.i, x.r, x.g, x.s⟩)[j]? = (ceA x)[j]? := fun j hj h => by
  have hj' : j < 14 := hj
  have h' : j < 5 ∨ 9 ≤ j := h
  have : j = 0 ∨ j = 1 ∨ j = 2 ∨ j = 3 ∨ j = 4 ∨ j = 9 ∨ j = 10 ∨ j = 11 ∨ j = 12 ∨ j = 13 := by omega
  clear hj h hj' h'
  rcases this with rfl | rfl | rfl | rfl | rfl | rfl | rfl | rfl | rfl | rfl <;> rfl
theorem ps_oi (x : Ce) (u : U) : ∀ j, j < (ceA x).size → j < 9 ∨ 9 + (wdA u).size ≤ j → (ceA ⟨x.n, x.f, x.l, u, x.r, x.g, x.s⟩)[j]? = (ceA x)[j]? := fun j hj h => by
  have hj' : j < 14 := hj
  have h' : j < 9 ∨ 11 ≤ j := h
  have : j = 0 ∨ j = 1 ∨ j = 2 ∨ j = 3 ∨ j = 4 ∨ j = 5 ∨ j = 6 ∨ j = 7 ∨ j = 8 ∨ j = 11 ∨ j = 12 ∨ j = 13 := by omega
  clear hj h hj' h'
  rcases this with rfl | rfl | rfl | rfl | rfl | rfl | rfl | rfl | rfl | rfl | rfl | rfl <;> rfl
end Go.Proofs.Ytjdjebhimljedaa
