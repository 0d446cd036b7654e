/-
  LISTS that are read, and appended: a slice's value and what lies there.
-/
import Derived.Test.YtohkioakipjanaaRg
import Derived.Deep.Upon
namespace Go.Proofs.Ytohkioakipjanaa
open Go Go.RowKit

/-- A slice that has these things. -/
structure Lst {α : Type} (k : Nat) (c : α → List Value) (w : World) (v : Value) (xs : List α) : Prop where
  ex : ∃ ao b off cap, v = .slice ao xs.length cap ∧ (0 < xs.length → ao = some ⟨b, off, none⟩ ∧ b < w.heap.size) ∧ ∀ (i : Nat) (x : α), xs[i]? = some x → w.rangeAt b (off + i * k) (c x)
section
variable {α : Type} {k : Nat} {c : α → List Value} {w w' : World} {v : Value} {xs : List α}
theorem range_keep {b o : Nat} {l : List Value} (h : w.rangeAt b o l) (hb : w'.heap[b]? = w.heap[b]?) : w'.rangeAt b o l := fun j u hu => by
  have h1 := h j u hu
  rw [← h1]
  exact World.cell?_of_block hb
theorem Lst.same (h : Lst k c w v xs) (hs : w.heap.size ≤ w'.heap.size) (hb : ∀ q, v.ownBlock = some q → q < w.heap.size → w'.heap[q]? = w.heap[q]?) : Lst k c w' v xs := by
  obtain ⟨ao, b, off, cap, rfl, h1, h2⟩ := h.ex
  refine ⟨ao, b, off, cap, rfl, fun h0 => ⟨(h1 h0).1, by have := (h1 h0).2; omega⟩, fun i x hx => ?_⟩
  have hi : i < xs.length := (List.getElem?_eq_some_iff.1 hx).1
  obtain ⟨rfl, hlt⟩ := h1 (by omega)
  exact range_keep (h2 i x hx) (hb b rfl hlt)
theorem Lst.keep (h : Lst k c w v xs) (hb : Below w.heap.size w w') : Lst k c w' v xs := h.same hb.size fun q _ hlt => hb.block q hlt
theorem Lst.drew (h : Lst k c w v xs) : Lst k c w.drew v xs := h.same (Nat.le_refl _) fun _ _ _ => rfl
theorem Lst.chg {g : Nat} {o : Option Nat} (h : Lst k c w v xs) (hc : Chg g o w w') (h1 : v.ownBlock ≠ some g) (h2 : ∀ q, v.ownBlock = some q → o ≠ some q) : Lst k c w' v xs :=
  h.same hc.size fun q hq hlt => hc.block q hlt (fun e => h1 (by rw [hq, e])) (h2 q hq)
theorem own_lst {base n : Nat} {t : TypeId} (hk : ∀ x, (c x).length = k) (h : w.ownsRow base t k v n (fl c xs)) (hn : n = xs.length) : Lst k c w v xs := by
  subst hn
  rcases own_v h with ⟨rfl, h0⟩ | ⟨q, cap, rfl, _⟩
  · refine ⟨none, 0, 0, 0, by rw [h0], fun h => by omega, fun i x hx => ?_⟩
    have := (List.getElem?_eq_some_iff.1 hx).1
    omega
  · refine ⟨some ⟨q, 0, none⟩, q, 0, cap, rfl, fun _ => ⟨rfl, (h.lt q rfl).2⟩, fun i x hx => ?_⟩
    rw [Nat.zero_add]
    exact own_range hk h rfl hx
theorem Lst.nil (k : Nat) (c : α → List Value) (w : World) : Lst k c w (.slice none 0 0) ([] : List α) :=
  ⟨none, 0, 0, 0, rfl, fun h => by simp at h, fun i x hx => by simp at hx⟩
/-- Its things' cells, one behind the other. -/
theorem Lst.cells (hk : ∀ x, (c x).length = k) (h0 : 0 < k) {b off : Nat} (h2 : ∀ (i : Nat) (x : α), xs[i]? = some x → w.rangeAt b (off + i * k) (c x)) : ∀ j u, (fl c xs)[j]? = some u → w.cell? ⟨b, off + j, none⟩ = some u := fun j u hu => by
  obtain ⟨q, r, rfl, hr⟩ : ∃ q r, j = q * k + r ∧ r < k := ⟨j / k, j % k, by rw [Nat.mul_comm]; exact (Nat.div_add_mod j k).symm, Nat.mod_lt _ h0⟩
  rw [fl_get hk xs q r hr] at hu
  cases hx : xs[q]? with
  | none => rw [hx] at hu; cases hu
  | some x =>
    rw [hx] at hu
    have := h2 q x hx r u hu
    rw [← Nat.add_assoc]
    exact this
end
theorem add_none (b off j : Nat) : (⟨b, off, none⟩ : Addr).add j = ⟨b, off + j, none⟩ := by unfold Addr.add; split <;> simp_all
section
variable {P : Program} {w : World}
/-- A list is appended, whatever its slice. -/
theorem run_app {α : Type} {k : Nat} {c : α → List Value} (hk : ∀ x, (c x).length = k) (h0 : 0 < k) (hc1 : ∀ x, ∀ u ∈ c x, u.oneCell' = true) (t ty : TypeId) (base : Nat) (e : TypeId) (i : TypeInfo) (z : Value) (bytes : Nat) (ht : P.underlying t = some (.slice e)) (hi : P.info? e = some i) (hz : i.zero = some z)
    (hsize : i.size = k) (hby : i.bytes = bytes) (hzs : z.cells.size = k) (v : Value) (n : Nat) (xs ys : List α) (hown : w.ownsRow base e k v n (fl c xs)) (vx : Value) (hx : Lst k c w vx ys)
    (h63 : n + ys.length ≤ maxLen) (hbytes : (n + ys.length) * bytes ≤ 140737488355328) (hbase : base ≤ w.heap.size) :
    ∃ v' w', (Builtin.append_ #[t, t] ty #[v, vx]).run P w = .ok v' w' ∧ w'.ownsRow base e k v' (n + ys.length) (fl c (xs ++ ys)) ∧ w.grownBy w' v.ownBlock ∧ (v'.ownBlock = v.ownBlock ∨ v'.ownBlock = some w.heap.size) := by
  obtain ⟨ao, b, off, cap, rfl, h1, h2⟩ := hx.ex
  rcases Nat.eq_zero_or_pos ys.length with hy | hy
  · have hys : ys = [] := List.eq_nil_of_length_eq_zero hy
    subst hys
    have hle : ∃ bs len cp, v = .slice bs len cp ∧ len ≤ cp := by
      rcases own_v hown with ⟨rfl, _⟩ | ⟨q, cap, rfl, h⟩
      · exact ⟨_, _, _, rfl, Nat.le_refl _⟩
      · exact ⟨_, _, _, rfl, h⟩
    obtain ⟨bs, len, cp, rfl, hle⟩ := hle
    refine ⟨_, w, run_append_nothing w t t ty e i ht hi bs len cp hle _ ⟨Or.inl ⟨e, ht⟩, fun w' => by simp [Builtin.lenOf], ?_, ?_, by simp, by simp⟩, by simpa using hown, ⟨rfl, rfl, rfl, Nat.le_refl _, fun _ _ _ => rfl⟩, Or.inl rfl⟩
    · cases ao <;> simp [Builtin.firstCells, loadCells, loadCellsFrom]
    · cases ao <;> simp [Builtin.firstCells, loadCells, loadCellsFrom]
  · obtain ⟨rfl, hlt⟩ := h1 hy
    have hcl := Lst.cells hk h0 h2
    have hone : ∀ u ∈ fl c ys, u.oneCell' = true := by
      clear h2 hcl hown hx h1 hy h63 hbytes
      intro u hu
      induction ys with
      | nil => simp [fl] at hu
      | cons a l ih =>
        simp only [fl, List.mem_append] at hu
        rcases hu with hu | hu
        · exact hc1 a u hu
        · exact ih hu
    obtain ⟨v', w', hr, a1, a2, _, a4⟩ := run_append_own_at (P := P) w base t ty e i z k bytes ht hi hz hsize hby hzs h0 v n (fl c xs) hown ⟨b, off, none⟩ ys.length cap (fl c ys) (fl_len hk ys) (fun j u hu => by rw [add_none]; exact hcl j u hu) hone h63 hbytes hbase
    exact ⟨v', w', hr, by rw [fl_append]; exact a1, a2, a4⟩
end
section
variable {P : Program} {ops : Array Oper} {rest : List Oper} {op : Oper} {a : Act} {w : World} {Q : Exit → Act → World → Prop} {K : Act → World → Prop} {E : Prop} {S : World → Prop}
theorem wl_app {α : Type} {k : Nat} {c : α → List Value} {s x : Operand} {t : TypeId} (ho : op.op = .call { callee := .builtin .append, args := #[s, x], argTypes := #[t, t] }) (hw : Region.wanted op (yielded ops a.tmps) = true) (hk : ∀ x, (c x).length = k) (h0 : 0 < k) (hc1 : ∀ x, ∀ u ∈ c x, u.oneCell' = true) (base : Nat) (e : TypeId) (i : TypeInfo) (z : Value) (bytes : Nat) (ht : P.underlying t = some (.slice e)) (hi : P.info? e = some i) (hz : i.zero = some z)
    (hsize : i.size = k) (hby : i.bytes = bytes) (hzs : z.cells.size = k) {v : Value} {n : Nat} {xs ys : List α} {vx : Value} (hs : a.eval s = v) (hxv : a.eval x = vx) (hown : w.ownsRow base e k v n (fl c xs)) (hx : Lst k c w vx ys)
    (h63 : n + ys.length ≤ maxLen) (hbytes : (n + ys.length) * bytes ≤ 140737488355328) (hbase : base ≤ w.heap.size)
    (h : ∀ v' w', w'.ownsRow base e k v' (n + ys.length) (fl c (xs ++ ys)) → w.grownBy w' v.ownBlock → (v'.ownBlock = v.ownBlock ∨ v'.ownBlock = some w.heap.size) → wpList P ops Q rest (a.put op.dst v') w') : wpList P ops Q (op :: rest) a w := by
  obtain ⟨v', w', hr, a1, a2, a3⟩ := run_app hk h0 hc1 t op.type base e i z bytes ht hi hz hsize hby hzs v n xs ys hown vx hx h63 hbytes hbase
  refine wl_ok (v := v') (w' := w') hw ?_ (h v' w' a1 a2 a3)
  unfold execOp
  simp only [ho, resolve, invoke, builtin, Sem.run_bind, Sem.run_pure, Result.andThen_ok, List.map_toArray, List.map_cons, List.map_nil, hs, hxv, hr]
theorem wq_app {α : Type} {k : Nat} {c : α → List Value} {s x : Operand} {t : TypeId} (ho : op.op = .call { callee := .builtin .append, args := #[s, x], argTypes := #[t, t] }) (hw : Region.wanted op (yielded ops a.tmps) = true) (hk : ∀ x, (c x).length = k) (h0 : 0 < k) (hc1 : ∀ x, ∀ u ∈ c x, u.oneCell' = true) (base : Nat) (e : TypeId) (i : TypeInfo) (z : Value) (bytes : Nat) (ht : P.underlying t = some (.slice e)) (hi : P.info? e = some i) (hz : i.zero = some z)
    (hsize : i.size = k) (hby : i.bytes = bytes) (hzs : z.cells.size = k) {v : Value} {n : Nat} {xs ys : List α} {vx : Value} (hs : a.eval s = v) (hxv : a.eval x = vx) (hown : w.ownsRow base e k v n (fl c xs)) (hx : Lst k c w vx ys)
    (h63 : n + ys.length ≤ maxLen) (hbytes : (n + ys.length) * bytes ≤ 140737488355328) (hbase : base ≤ w.heap.size)
    (h : ∀ v' w', w'.ownsRow base e k v' (n + ys.length) (fl c (xs ++ ys)) → w.grownBy w' v.ownBlock → (v'.ownBlock = v.ownBlock ∨ v'.ownBlock = some w.heap.size) → K (a.put op.dst v') w') : if Region.wanted op (yielded ops a.tmps) = true then op.wp P a w K Q else E := by
  obtain ⟨v', w', hr, a1, a2, a3⟩ := run_app hk h0 hc1 t op.type base e i z bytes ht hi hz hsize hby hzs v n xs ys hown vx hx h63 hbytes hbase
  rw [if_pos hw]
  unfold Oper.wp execOp
  simp only [ho, resolve, invoke, builtin, Sem.run_bind, Sem.run_pure, Result.andThen_ok, List.map_toArray, List.map_cons, List.map_nil, hs, hxv, hr]
  exact h v' w' a1 a2 a3
theorem run_ixo {t e : TypeId} {B off n cap k i : Nat} (h : P.underlying t = some (.slice e)) (hs : (P.info? e).map (·.size) = some k) (hi : i < n) (hn : n ≤ 9223372036854775807) (w : World) :
    (Instr.indexAt t (.slice (some ⟨B, off, none⟩) n cap) (.int .i64 i)).run P w = .ok (.pointer (some ⟨B, off + i * k, none⟩)) w := by
  have h1 : (i : Int) < n := by omega
  have h2 : IntKind.i64.wrap (i : Int) = i := by rw [IntKind.wrap_i64]; omega
  cases hq : P.info? e with
  | none => simp [hq] at hs
  | some inf =>
    have h3 : inf.size = k := by simpa [hq] using hs
    simp [Instr.indexAt, asIntOf, Sem.run_bind, run_underlying h, sizeOf, typeInfo, hq, h3, add_none]
    intro hx
    omega
theorem wl_ixo {t e : TypeId} {x y : Operand} {B off n cap k i : Nat} (ho : op.op = .indexAddr t x y) (hw : Region.wanted op (yielded ops a.tmps) = true) (hx : a.eval x = .slice (some ⟨B, off, none⟩) n cap) (hy : a.eval y = .int .i64 i)
    (h : P.underlying t = some (.slice e)) (hs : (P.info? e).map (·.size) = some k) (hi : i < n) (hn : n ≤ 9223372036854775807)
    (hr : wpList P ops Q rest (a.put op.dst (.pointer (some ⟨B, off + i * k, none⟩))) w) : wpList P ops Q (op :: rest) a w := by
  refine wl_ok hw ?_ hr
  unfold execOp
  simp only [ho, hx, hy, Sem.run_bind, run_ixo h hs hi hn, Result.andThen_ok, Sem.run_pure]
theorem yi_ixo {t e : TypeId} {x y : Operand} {B off n cap k i : Nat} (ho : op.op = .indexAddr t x y) (hw : Region.wanted op (yielded ops a.tmps) = true) (hx : a.eval x = .slice (some ⟨B, off, none⟩) n cap) (hy : a.eval y = .int .i64 i)
    (h : P.underlying t = some (.slice e)) (hs : (P.info? e).map (·.size) = some k) (hi : i < n) (hn : n ≤ 9223372036854775807) : YieldsIf P ops S op (.pointer (some ⟨B, off + i * k, none⟩)) a := by
  refine yi_ok hw fun w => ?_
  unfold execOp
  simp only [ho, hx, hy, Sem.run_bind, run_ixo h hs hi hn, Result.andThen_ok, Sem.run_pure]
/-- How many a slice has. -/
theorem wl_lenL {x : Operand} {t e : TypeId} {v : Value} {n : Nat} (ho : op.op = .call { callee := .builtin .len, args := #[x], argTypes := #[t] }) (hw : Region.wanted op (yielded ops a.tmps) = true) (hx : a.eval x = v) (ht : P.underlying t = some (.slice e)) (hv : ∃ ao cap, v = .slice ao n cap)
    (h : wpList P ops Q rest (a.put op.dst (.int .i64 n)) w) : wpList P ops Q (op :: rest) a w := by
  refine wl_ok hw ?_ h
  unfold execOp
  obtain ⟨ao, cap, rfl⟩ := hv
  cases x <;> simp [Act.eval] at hx <;> simp [ho, hx, Act.eval, resolve, invoke, builtin, Builtin.len_, Sem.run_bind, run_underlying ht, goInt]
end
section
variable {P : Program} {ops : Array Oper} {rest : List Oper} {op : Oper} {a : Act} {w : World} {Q : Exit → Act → World → Prop}
/-- A function is called, whose answer is one of many. -/
theorem wl_callx {ι : Type} {v : ι → Value} {R : ι → World → Prop} {f : FuncId} {fn : Func} {c : Code} {xs : Array Operand} {ts : Array TypeId} {vals : Array Value} (ho : op.op = .call { callee := .value (.func f), args := xs, argTypes := ts }) (hw : Region.wanted op (yielded ops a.tmps) = true)
    (hf : P.funcs[f]? = some fn) (hname : (fn.name == "runtime.NumGoroutine") = false) (hb : fn.body = some c)
    (hc : Calls P f vals w fun e w' => ∃ x, e = .returned (v x) ∧ R x w') (hx : xs.toList.map a.eval = vals.toList) (h : ∀ x w', R x w' → wpList P ops Q rest (a.put op.dst (v x)) w') : wpList P ops Q (op :: rest) a w :=
  wpList_step fun K hK => by
    rw [if_pos hw]
    have h1 : fn.name ≠ "runtime.NumGoroutine" := by simpa using hname
    have hr : (execOp a.eval op).run P w = .ok (.enter f vals) w := by
      unfold execOp
      have hx' : xs.map a.eval = vals := by
        refine Array.ext' ?_
        rw [Array.toList_map]
        exact hx
      simp [ho, resolve, Act.eval, Deferred.ofValue, invoke, callFunc, hf, h1, hb, Sem.run_bind, ← hx']
    unfold Oper.wp
    rw [hr, Oper.upon_enter]
    refine hc.mono ?_
    rintro e w' ⟨x, rfl, hR⟩
    exact hK _ _ (h x w' hR)
/-- A number as another kind's. -/
theorem wl_conv {t u : TypeId} {x : Operand} {v r : Value} (ho : op.op = .convert t u x) (hw : Region.wanted op (yielded ops a.tmps) = true) (hx : a.eval x = v) (hr : (convert t u v).run P w = .ok r w)
    (h : wpList P ops Q rest (a.put op.dst r) w) : wpList P ops Q (op :: rest) a w := by
  refine wl_ok hw ?_ h
  unfold execOp
  simp only [ho, hx, Sem.run_bind, hr, Result.andThen_ok, Sem.run_pure]
end
/-- A ring among what came up since a world. -/
structure RgB {α : Type} (TR T : TypeId) (k : Nat) (c : α → List Value) (w0 w : World) (g : Nat) (o : Option Nat) (room : Nat) (L : List α) (lost : Int) : Prop where
  ri : RgI TR T k c w g o room L lost
  below : Below w0.heap.size w0 w
  hg : w0.heap.size ≤ g
  ho : ∀ q, o = some q → w0.heap.size ≤ q
section
variable {α : Type} {TR T : TypeId} {k : Nat} {c : α → List Value} {w0 w w' : World} {g : Nat} {o : Option Nat} {room : Nat} {L L' : List α} {lost lost' : Int}
theorem RgB.step (h : RgB TR T k c w0 w g o room L lost) (hs : ∃ o', RgI TR T k c w' g o' room L' lost' ∧ Chg g o w w' ∧ New w o o') : ∃ o', RgB TR T k c w0 w' g o' room L' lost' := by
  obtain ⟨o', h1, h2, h3⟩ := hs
  exact ⟨o', h1, h.below.trans (h2.below h.below.size h.hg h.ho), h.hg, h3.ge h.below.size h.ho⟩
theorem RgB.drop (h : RgB TR T k c w0 w g o room L lost) (hs : RgI TR T k c w' g o room L' lost' ∧ Chg g o w w') : RgB TR T k c w0 w' g o room L' lost' :=
  ⟨hs.1, h.below.trans (hs.2.below h.below.size h.hg h.ho), h.hg, h.ho⟩
theorem RgB.stay (h : RgB TR T k c w0 w g o room L lost) (hb : Below w.heap.size w w') : RgB TR T k c w0 w' g o room L lost :=
  ⟨h.ri.keep hb, below_tr h.below hb, h.hg, h.ho⟩
theorem RgI.grown {q : Option Nat} (h : RgI TR T k c w g o room L lost) (hg : w.grownBy w' q) (h1 : q ≠ some g) (h2 : ∀ k, o = some k → q ≠ some k) : RgI TR T k c w' g o room L lost := by
  obtain ⟨v, t, ⟨a, b, d⟩, rfl, e⟩ := h.ex
  refine ⟨v, t, ⟨Blk.keep_chg a hg h1, own_same b (fun k hk => hg.block k (b.lt k hk).2 (fun e => h2 k hk e.symm)), d⟩, rfl, e⟩
end
theorem Lst.sl {α : Type} {k : Nat} {c : α → List Value} {w : World} {v : Value} {xs : List α} (h : Lst k c w v xs) : ∃ ao cap, v = .slice ao xs.length cap := by
  obtain ⟨ao, b, off, cap, rfl, _⟩ := h.ex
  exact ⟨ao, cap, rfl⟩
theorem own_sl {w : World} {base n size : Nat} {t : TypeId} {v : Value} {xs : List Value} (h : w.ownsRow base t size v n xs) : ∃ ao cap, v = .slice ao n cap := by
  rcases own_v h with ⟨rfl, rfl⟩ | ⟨q, cap, rfl, _⟩
  · exact ⟨_, _, rfl⟩
  · exact ⟨_, _, rfl⟩
end Go.Proofs.Ytohkioakipjanaa
