/-
  WALKS: top 06: TopRing.
-/
import Derived.Test.YtohkioakipjanaaRwr
namespace Go.Proofs.Ytohkioakipjanaa
open Go Go.RowKit

theorem rt_more {l : List Ev} {e : Ev} (h : Rt l) (he : EvOk e) (hl : ∀ j x, l.length = j + 1 → l[j]? = some x → x.t < e.t) : Rt (l ++ [e]) := by
  refine ⟨fun i hi => ?_, fun i hi => ?_⟩
  · rcases Nat.lt_or_ge i l.length with h' | h'
    · rw [List.getElem_append_left h']; exact h.ok i h'
    · rw [List.getElem_append_right h']; simp; exact he
  · rcases Nat.lt_or_ge (i + 1) l.length with h' | h'
    · rw [List.getElem_append_left (by omega), List.getElem_append_left h']; exact h.inc i h'
    · have : i + 1 = l.length := by simp at hi; omega
      rw [List.getElem_append_left (by omega), List.getElem_append_right (by omega)]
      simp only [List.getElem_singleton]
      exact hl i _ this.symm (List.getElem?_eq_getElem (by omega))
theorem rt_tail {l : List Ev} (h : Rt l) : Rt l.tail := by
  refine ⟨fun i hi => ?_, fun i hi => ?_⟩
  · rw [List.getElem_tail]; exact h.ok (i + 1) (by simp at hi; omega)
  · rw [List.getElem_tail, List.getElem_tail]; exact h.inc (i + 1) (by simp at hi; omega)
theorem ok_more {lost mark room : Int} {l : List Ev} {e : Ev} (h : RawOk lost mark l room) (he : EvOk e) (hl : ∀ j x, l.length = j + 1 → l[j]? = some x → x.t < e.t) (hr : (l.length : Int) < room) : RawOk lost mark (l ++ [e]) room := by
  refine ⟨h.r1, h.r2, by simp; omega, rt_more h.rt he hl, ?_⟩
  rcases h.rl with h1 | h1
  · exact Or.inl h1
  · have := h1.2.2.2.1; omega
theorem ok_full {lost mark room : Int} {l : List Ev} {e x0 : Ev} (h : RawOk lost mark l room) (he : EvOk e) (hl : ∀ j x, l.length = j + 1 → l[j]? = some x → x.t < e.t) (hr : (l.length : Int) = room) (hx : l[0]? = some x0) (h0 : 0 ≤ lost) (hm : lost < 70368744177664) : RawOk (lost + 1) x0.t (l.tail ++ [e]) room := by
  have hr1 := h.r1
  obtain ⟨hlt, hx2⟩ := List.getElem?_eq_some_iff.1 hx
  have hx0 := h.rt.ok 0 hlt
  rw [hx2] at hx0
  refine ⟨h.r1, h.r2, by simp; omega, rt_more (rt_tail h.rt) he (fun j x hj hx' => ?_), Or.inr ⟨by omega, by omega, by omega, by simp; omega, hx0.t0, ?_⟩⟩
  · rw [List.getElem?_tail] at hx'
    exact hl (j + 1) x (by simp at hj; omega) hx'
  · cases l with
    | nil => simp at hlt
    | cons a r =>
      simp at hx2
      subst hx2
      cases r with
      | nil => exact ⟨e, rfl, hl 0 a rfl rfl⟩
      | cons b r => exact ⟨b, rfl, h.rt.inc 0 (by simp)⟩
theorem lost_nn {lost mark room : Int} {l : List Ev} (h : RawOk lost mark l room) : 0 ≤ lost := by
  rcases h.rl with h1 | h1
  · omega
  · exact h1.2.1
theorem conv_i64 (n : Nat) (h : n ≤ 1000) (w : World) : (convert 25 2 (.int .u64 n)).run Try.prog w = .ok (.int .i64 n) w := by
  have e : IntKind.i64.wrap (n : Int) = n := by rw [IntKind.wrap_i64]; omega
  go_simp
theorem yi_conv {P : Program} {ops : Array Oper} {op : Oper} {a : Act} {S : World → Prop} {t u : TypeId} {x : Operand} {v r : Value} (ho : op.op = .convert t u x) (hw : Region.wanted op (yielded ops a.tmps) = true) (hx : a.eval x = v) (hr : ∀ w, (convert t u v).run P w = .ok r w) : YieldsIf P ops S op r a := by
  refine yi_ok hw fun w => ?_
  unfold execOp
  simp only [ho, hx, Sem.run_bind, hr, Result.andThen_ok, Sem.run_pure]
theorem beq_bool (x : Bool) (w : World) : (binOp .eql 4 (.bool x) (.bool x)).run Try.prog w = .ok (.bool true) w := by
  cases x <;> go_simp
/-- A ring of events, and a block beside it whose list is another one's. -/
structure TrJ (B wr : World) (g g7 rm : Nat) (o : Option Nat) (L : List Ev) (lost : Int) (A : Array Value) (v : Value) (M : List Ev) : Prop where
  rb : RgB 64 27 4 cE B wr g o rm L lost
  k7 : Blk wr g7 24 A
  lst : Lst 4 cE wr v M
  n1 : g7 ≠ g
  n2 : o ≠ some g7
  s1 : v.ownBlock ≠ some g
  s2 : ∀ q, v.ownBlock = some q → o ≠ some q
  s3 : v.ownBlock ≠ some g7
  h7 : B.heap.size ≤ g7
  vlt : ∀ q, v.ownBlock = some q → q < wr.heap.size
section
variable {B wr W : World} {g g7 rm : Nat} {o : Option Nat} {L M M2 : List Ev} {lost : Int} {A A2 : Array Value} {v v2 : Value}
theorem TrJ.keep (h : TrJ B wr g g7 rm o L lost A v M) (hb : Below wr.heap.size wr W) : TrJ B W g g7 rm o L lost A v M :=
  ⟨h.rb.stay hb, h.k7.keep hb, h.lst.keep hb, h.n1, h.n2, h.s1, h.s2, h.s3, h.h7, fun q hq => Nat.lt_of_lt_of_le (h.vlt q hq) hb.size⟩
theorem TrJ.upd {k : Nat} (h : TrJ B wr g g7 rm o L lost A v M) (hu : Upd k wr W) (hk : B.heap.size ≤ k) (h1 : k ≠ g) (h2 : o ≠ some k) (h3 : k ≠ g7) (h4 : v.ownBlock ≠ some k) : TrJ B W g g7 rm o L lost A v M :=
  ⟨h.rb.upd hu h1 h2 hk, h.k7.upd hu (Ne.symm h3), h.lst.chg (Chg.upd (o := none) hu) h4 (by simp), h.n1, h.n2, h.s1, h.s2, h.s3, h.h7, fun q hq => Nat.lt_of_lt_of_le (h.vlt q hq) hu.size⟩
theorem TrJ.fresh (h : TrJ B wr g g7 rm o L lost A v M) {k : Nat} (hk : wr.heap.size ≤ k) : B.heap.size ≤ k ∧ k ≠ g ∧ o ≠ some k ∧ k ≠ g7 ∧ v.ownBlock ≠ some k :=
  ⟨Nat.le_trans h.rb.below.size hk, by have := h.rb.ri.lt; omega, fun e => by have := h.rb.ri.o_lt _ e; omega, by have := h.k7.lt; omega, fun e => by have := h.vlt _ e; omega⟩
theorem TrJ.step {L' : List Ev} {lost' : Int} (h : TrJ B wr g g7 rm o L lost A v M) (hs : ∃ o', RgI 64 27 4 cE W g o' rm L' lost' ∧ Chg g o wr W ∧ New wr o o') : ∃ o', TrJ B W g g7 rm o' L' lost' A v M := by
  obtain ⟨o', h1, h2, h3⟩ := hs
  exact ⟨o', ⟨h1, h.rb.below.trans (h2.below h.rb.below.size h.rb.hg h.rb.ho), h.rb.hg, h3.ge h.rb.below.size h.rb.ho⟩, h2.blk h.k7 h.n1 h.n2, h.lst.chg h2 h.s1 h.s2, h.n1, h3.ne h.k7.lt h.n2, h.s1, fun q hq => h3.ne (h.vlt q hq) (h.s2 q hq), h.s3, h.h7, fun q hq => Nat.lt_of_lt_of_le (h.vlt q hq) h2.size⟩
/-- The block turns. -/
theorem TrJ.set (h : TrJ B wr g g7 rm o L lost A v M) (hu : Upd g7 wr W) (hk : Blk W g7 24 A2) (hl : Lst 4 cE wr v2 M2) (hq : ∀ q, v2.ownBlock = some q → q ≠ g ∧ o ≠ some q ∧ q ≠ g7 ∧ q < wr.heap.size) : TrJ B W g g7 rm o L lost A2 v2 M2 :=
  ⟨h.rb.upd hu h.n1 h.n2 h.h7, hk, hl.chg (Chg.upd (o := none) hu) (fun e => (hq g7 e).2.2.1 rfl) (by simp), h.n1, h.n2, fun e => (hq g e).1 rfl, fun q e => (hq q e).2.1, fun e => (hq g7 e).2.2.1 rfl, h.h7, fun q e => Nat.lt_of_lt_of_le (hq q e).2.2.2 hu.size⟩
end
/-- What holds at a round's head. -/
structure TrK (B wr : World) (g g7 rm k : Nat) (o : Option Nat) (L : List Ev) (n : Nat) (mk : Int) (v : Value) : Prop where
  j : TrJ B wr g g7 rm o L n #[.int .i64 n, .int .i64 mk, v] v L
  ok : RawOk n mk L rm
  ain : AllIn L
  le : n ≤ k
  ll : L.length ≤ k
section
variable {P : Program} {ops : Array Oper} {Q : Exit → Act → World → Prop} {md : Region.Mode} {S : World → Prop} {op : Oper} {a : Act}
theorem anyH_callx {ι : Type} {v : ι → Value} {R : ι → World → Prop} {i fuel : Nat} {listed : Array Bool} {w : World} {f : FuncId} {fn : Func} {c : Code} {xs : Array Operand} {ts : Array TypeId} {vals : Array Value} (hrd : Region.ready md ops listed = [i]) (hi : ops[i]? = some op)
    (ho : op.op = .call { callee := .value (.func f), args := xs, argTypes := ts }) (hw : Region.wanted op (yielded ops a.tmps) = true)
    (hf : P.funcs[f]? = some fn) (hname : (fn.name == "runtime.NumGoroutine") = false) (hb : fn.body = some c)
    (hc : Calls P f vals w fun e w' => ∃ x, e = .returned (v x) ∧ R x w') (hx : xs.toList.map a.eval = vals.toList) (hS : ∀ x w', R x w' → S w') (h : ∀ x w', R x w' → S w' → wpAnyH P md ops Q S fuel (listed.setIfInBounds i true) (a.put op.dst (v x)) w') : wpAnyH P md ops Q S (fuel + 1) listed a w := by
  refine anyH_one hrd hi (fun K' hK => ?_)
  rw [if_pos hw]
  have h1 : fn.name ≠ "runtime.NumGoroutine" := by simpa using hname
  have hr : (execOp a.eval op).run P w = .ok (.enter f vals) w := by
    unfold execOp
    have hx' : xs.map a.eval = vals := by
      refine Array.ext' ?_
      rw [Array.toList_map]
      exact hx
    simp [ho, resolve, Act.eval, Deferred.ofValue, invoke, callFunc, hf, h1, hb, Sem.run_bind, ← hx']
  unfold Oper.wp
  rw [hr, Oper.upon_enter]
  refine hc.mono ?_
  rintro e w' ⟨x, rfl, hR⟩
  exact hK _ _ (hS x w' hR) (fun hS' => h x w' hR hS')
end
set_option maxHeartbeats 4000000 in
set_option maxRecDepth 100000 in
theorem ring_any (room : Int) (ao : Option Addr) (cap : Nat) (l : List Ev) (hm : l.length ≤ maxLen) (hin : AllIn l) (w : World) (h : Lst 4 cE w (.slice ao l.length cap) l) :
    Calls Try.prog 5 #[.int .i64 room, (.slice ao l.length cap)] w fun e w' => e = .returned (.bool true) ∧ Below w.heap.size w w' := by
  obtain ⟨ao2, b, off, cap2, hv2, h1, h2⟩ := h.ex
  obtain ⟨rfl, rfl⟩ : ao = ao2 ∧ cap = cap2 := by simpa using hv2
  have H1 := Lib.hid h1
  have H2 := Lib.hid h2
  have HIN := Lib.hid hin
  have hmm : l.length ≤ 9223372036854775807 := by unfold maxLen at hm; omega
  clear h h1 h2 hv2 hm hin
  by_cases hl1 : 100 < l.length
  · have hl2 : (l.length : Int) > 100 := by omega
    go_enter Try.func5, Try.ntmps5
    go_wp2_with (first
      | ((with_reducible refine at_slot 19 ?_); refine wl_call rfl rfl Try.func19 (by kernel_rfl) rfl (begins6 _) rfl ?_; intro V19 hb; have HB := Lib.hid hb; clear hb))
    go_ret
    exact ⟨rfl, HB.out⟩
  · have hl2 : ¬ (l.length : Int) > 100 := by omega
    by_cases hr1 : room < 1
    · skip
      go_enter Try.func5, Try.ntmps5
      go_wp2_with (first
        | ((with_reducible refine at_slot 19 ?_); refine wl_call rfl rfl Try.func19 (by kernel_rfl) rfl (begins6 _) rfl ?_; intro V19 hb; have HB := Lib.hid hb; clear hb))
      go_ret
      exact ⟨rfl, HB.out⟩
    · by_cases hr2 : 4096 < room
      · have hr3 : room > 4096 := hr2
        go_enter Try.func5, Try.ntmps5
        go_wp2_with (first
          | ((with_reducible refine at_slot 19 ?_); refine wl_call rfl rfl Try.func19 (by kernel_rfl) rfl (begins6 _) rfl ?_; intro V19 hb; have HB := Lib.hid hb; clear hb))
        go_ret
        exact ⟨rfl, HB.out⟩
      · have hr3 : ¬ room > 4096 := hr2
        obtain ⟨rm, rfl⟩ : ∃ rm : Nat, room = rm := ⟨room.toNat, by omega⟩
        have hrm1 : 1 ≤ rm := by omega
        have hrm0 : rm ≤ 4096 := by omega
        have hrm2 : rm ≤ 65536 := by omega
        have HOK0 := Lib.hid (show RawOk (0 : Nat) 0 [] (rm : Int) from ⟨by omega, by omega, by simp, rt_nil, Or.inl ⟨rfl, rfl⟩⟩)
        have HLE100 := Lib.hid (show l.length ≤ 100 by omega)
        clear hl1 hr2
        go_enter Try.func5, Try.ntmps5
        go_wp2_with (first
          | ((with_reducible refine at_slot 19 ?_); refine wl_call rfl rfl Try.func19 (by kernel_rfl) rfl (begins6 _) rfl ?_; intro V19 hb; have HB := Lib.hid hb; clear hb)
          | ((with_reducible refine at_slot 34 ?_); refine wl_callx rfl rfl Try.func20 (by kernel_rfl) rfl (e_new rm hrm1 hrm2 _) rfl ?_; intro g V34 hR; have HB0 := HB; have HRB : Hid (RgB 64 27 4 cE V19 V34 g none rm [] 0) := Lib.hid ⟨hR.1, hR.2.1, hR.2.2, fun q hq => by cases hq⟩; clear hR HB)
          | ((with_reducible refine at_slot 7 ?_); refine wl_alloc (A := #[.int .i64 0, .int .i64 0, .slice none 0 0]) rfl rfl rw_zero rfl ?_; intro W7 g7 k7 hb hle; have HJ : Hid (TrK V19 W7 g g7 rm 0 none [] 0 0 (.slice none 0 0)) := Lib.hid ⟨⟨HRB.out.stay hb, k7, Lst.nil _ _ _, by have := HRB.out.ri.lt; omega, by simp, by simp [Value.ownBlock], by simp [Value.ownBlock], by simp [Value.ownBlock], Nat.le_trans HRB.out.below.size hle, by simp [Value.ownBlock]⟩, HOK0.out, fun i h => by simp at h, Nat.le_refl _, Nat.le_refl _⟩; clear hb hle HRB))
        go_loopw [8, 45] (fun m i wr => ∃ (k : Nat) (o : Option Nat) (L : List Ev) (n : Nat) (mk : Int) (v : Value), TrK V19 wr g g7 rm k o L n mk v ∧ m = .int .i64 mk ∧ i = .int .i64 (k : Nat) ∧ k ≤ l.length) (fun _ i _ => l.length - (intOf i).toNat)
        case atStart => exact ⟨0, none, [], 0, 0, _, HJ.out, rfl, rfl, Nat.zero_le _⟩
        case round =>
          clear HJ
          obtain ⟨k, o, L, n, mk, v, hK, rfl, rfl, hk⟩ := hrel
          have HJ := Lib.hid hK.j
          have HOK := Lib.hid hK.ok
          have HAI := Lib.hid hK.ain
          have HLE := Lib.hid hK.le
          have HLL := Lib.hid hK.ll
          have hL6 : L.length ≤ 1000000 := by have := hK.ll; have := HLE100.out; omega
          clear hK k7
          by_cases hlt : k < l.length
          · obtain ⟨rfl, hq1⟩ := H1.out (by omega)
            have hgx : l[k]? = some l[k] := List.getElem?_eq_getElem hlt
            have HKX := Lib.hid (range_keep (H2.out k _ hgx) ((below_tr HB0.out HJ.out.rb.below).block b hq1))
            have HYI := Lib.hid (HIN.out k hlt)
            generalize l[k] = y at hgx HKX HYI
            clear hgx
            by_cases he : EvOk y
            · have HE := Lib.hid he
              have hai : AllIn (L ++ [y]) := fun i hi => by
                rcases Nat.lt_or_ge i L.length with h' | h'
                · rw [List.getElem_append_left h']; exact HAI.out i h'
                · rw [List.getElem_append_right h']; simp; exact HYI.out
              have HAI2 := Lib.hid hai
              clear hai he
              by_cases ht : ∀ j x, L.length = j + 1 → L[j]? = some x → x.t < y.t
              · have HT := Lib.hid ht
                clear ht
                by_cases hf : L.length = rm
                · obtain ⟨x0, hx0⟩ : ∃ x0, L[0]? = some x0 := ⟨L[0]'(by omega), List.getElem?_eq_getElem (by omega)⟩
                  obtain ⟨j, hj⟩ : ∃ j, L.length = j + 1 := ⟨L.length - 1, by omega⟩
                  have hxl : L[j]? = some (L[j]'(by omega)) := List.getElem?_eq_getElem (by omega)
                  have hxt := HT.out j _ hj hxl
                  generalize L[j]'(by omega) = xl at hxl hxt
                  have hn5 : (n : Int) < 70368744177664 := by have := HLE.out; have := HLE100.out; omega
                  have HPF := Lib.hid (fun W (hL : Lst 4 cE W v L) => put_full n mk v L hL6 HAI.out rm y HYI.out W hL HOK.out HE.out j xl hj hxl hxt hf hn5 x0 hx0)
                  have HX1 : Hid (x0 = L.headD zeroEv) := Lib.hid (by cases L with | nil => simp at hx0 | cons a r => simpa using hx0.symm)
                  have HPT := Lib.hid (fun W {o' : Option Nat} (hR : RgI 64 27 4 cE W g o' rm L n) => e_put hR hrm2 y)
                  rw [putB_yes hf, putX_yes hf, putL_yes hf, putN_yes hf, ← HX1.out] at HPT
                  have HNOK : Hid (RawOk ((n + 1 : Nat) : Int) x0.t (L.tail ++ [y]) rm) := Lib.hid (by have := ok_full HOK.out HE.out HT.out (by omega) hx0 (by omega) hn5; simpa using this)
                  have HNAI : Hid (AllIn (L.tail ++ [y])) := Lib.hid (fun i hi => by
                    have e : L.tail ++ [y] = (L ++ [y]).tail := by cases L with | nil => simp at hj | cons a r => rfl
                    have h2 : i + 1 < (L ++ [y]).length := by simp at hi ⊢; omega
                    have h3 := HAI2.out (i + 1) h2
                    have h4 : (L.tail ++ [y])[i]? = (L ++ [y])[i + 1]? := by rw [e, List.getElem?_tail]
                    rw [List.getElem?_eq_getElem hi, List.getElem?_eq_getElem h2] at h4
                    rw [Option.some.inj h4]
                    exact h3)
                  have HNLL : Hid ((L.tail ++ [y]).length ≤ k + 1) := Lib.hid (by have := HLL.out; simp; omega)
                  have HWR : Hid (IntKind.u64.wrap ((n : Int) + 1) = ((n + 1 : Nat) : Int)) := Lib.hid (by rw [IntKind.wrap_u64]; omega)
                  clear hf hx0 hj hxl hxt hn5
                  go_wp2_with (first
                    | ((with_reducible refine at_slot 47 ?_); refine wl_ixo rfl rfl rfl rfl Try.underlying22 rfl hlt hmm ?_)
                    | ((with_reducible refine at_slot 48 ?_); refine wl_ldr (B := evA y) rfl rfl rfl HKX.out Try.underlying27 rfl evInfo ?_)
                    | ((with_reducible refine at_slot 10 ?_); refine wl_alloc (A := evA zeroEv) rfl rfl ev_zero rfl ?_; intro W1 g10 k10 hb hle; have HN10 := Lib.hid (HJ.out.fresh hle); replace HJ := Lib.hid (HJ.out.keep hb); clear hb hle)
                    | ((with_reducible refine at_store 10 ?_); refine wl_st0 (A' := evA y) rfl rfl rfl rfl k10 rfl evInfo (evA_one _) ?_; intro W2 kn hu; replace HJ := Lib.hid (HJ.out.upd hu HN10.out.1 HN10.out.2.1 HN10.out.2.2.1 HN10.out.2.2.2.1 HN10.out.2.2.2.2); clear k10; have k10 := kn; clear kn hu)
                    | ((with_reducible refine at_slot 50 ?_); refine wl_ld0 rfl rfl rfl HJ.out.k7 Try.underlying24 rfl rw_size ?_)
                    | ((with_reducible refine at_slot 52 ?_); refine wl_ld0 rfl rfl rfl k10 Try.underlying27 rfl evInfo ?_)
                    | ((with_reducible refine at_slot 53 ?_); refine wl_callx rfl rfl Try.func8 (by kernel_rfl) rfl (HPF.out _ HJ.out.lst) rfl ?_; intro v2 V53 hR; have HQ2 := Lib.hid (fun q (hq : v2.ownBlock = some q) => show q ≠ g ∧ o ≠ some q ∧ q ≠ g7 ∧ q ≠ g10 ∧ q < V53.heap.size from by have h1 := (hR.1.2 q hq).1; have h2 := HJ.out.rb.ri.lt; have h3 := HJ.out.k7.lt; have h4 := k10.lt; exact ⟨by omega, fun e => by have := HJ.out.rb.ri.o_lt _ e; omega, by omega, by omega, (hR.1.2 q hq).2⟩); have HL2 := Lib.hid hR.1.1; replace HJ := Lib.hid (HJ.out.keep hR.2); replace k10 := k10.keep hR.2; clear hR)
                    | ((with_reducible refine at_slot 11 ?_); refine wl_alloc (A := #[.int .i64 0, .int .i64 0, .slice none 0 0]) rfl rfl rw_zero rfl ?_; intro W3 g11 k11 hb hle; have HN11 := Lib.hid (HJ.out.fresh hle); have HN112 := Lib.hid (And.intro (k10.ne_of_le hle) (fun q (hq : v2.ownBlock = some q) => show q ≠ g11 ∧ q < W3.heap.size from by have := (HQ2.out q hq).2.2.2.2; have := hb.size; exact ⟨by omega, by omega⟩)); replace HJ := Lib.hid (HJ.out.keep hb); replace k10 := k10.keep hb; replace HL2 := Lib.hid (HL2.out.keep hb); clear hb hle)
                    | ((with_reducible refine at_store 11 ?_); refine wl_st0 (A' := #[.int .i64 (n + 1), .int .i64 x0.t, v2]) rfl rfl rfl rfl k11 rfl rw_size (rw_one _ _ _ (lst_one HL2.out).1) ?_; intro W4 kn hu; replace HJ := Lib.hid (HJ.out.upd hu HN11.out.1 HN11.out.2.1 HN11.out.2.2.1 HN11.out.2.2.2.1 HN11.out.2.2.2.2); replace k10 := k10.upd hu HN112.out.1; replace HL2 := Lib.hid (HL2.out.chg (Chg.upd (o := none) hu) (fun e => (HN112.out.2 _ e).1 rfl) (by simp)); have HZ4 := Lib.hid hu.size; clear k11; have k11 := kn; clear kn hu)
                    | ((with_reducible refine at_slot 58 ?_); refine wl_ld0 rfl rfl rfl k11 Try.underlying24 rfl rw_size ?_)
                    | ((with_reducible refine at_store 7 ?_); refine wl_st0 (A' := #[.int .i64 (n + 1), .int .i64 x0.t, v2]) rfl rfl rfl rfl HJ.out.k7 rfl rw_size (rw_one _ _ _ (lst_one HL2.out).1) ?_; intro W5 kn hu; have HJ2 := Lib.hid (HJ.out.set hu kn HL2.out (fun q hq => ⟨(HQ2.out q hq).1, (HQ2.out q hq).2.1, (HQ2.out q hq).2.2.1, Nat.lt_of_lt_of_le (HN112.out.2 q hq).2 HZ4.out⟩)); replace k10 := k10.upd hu HN10.out.2.2.2.1; clear kn hu k11 HJ)
                    | ((with_reducible refine at_slot 61 ?_); refine wl_ld0 rfl rfl rfl k10 Try.underlying27 rfl evInfo ?_)
                    | ((with_reducible refine at_slot 62 ?_); refine wl_call rfl rfl Try.func21 (by kernel_rfl) rfl (HPT.out _ HJ2.out.rb.ri) rfl ?_; intro V62 hR; have hJ3 := HJ2.out.step hR; clear HJ2 hR; obtain ⟨o3, hJ4⟩ := hJ3; have HJ := Lib.hid hJ4; clear hJ4 k10)
                    | ((with_reducible refine at_slot 13 ?_); refine wl_alloc (A := evA zeroEv) rfl rfl ev_zero rfl ?_; intro W6 g13 k13 hb hle; have HN13 := Lib.hid (HJ.out.fresh hle); replace HJ := Lib.hid (HJ.out.keep hb); clear hb hle)
                    | ((with_reducible refine at_store 13 ?_); refine wl_st0 (A' := evA x0) rfl rfl rfl rfl k13 rfl evInfo (evA_one _) ?_; intro W7 kn hu; replace HJ := Lib.hid (HJ.out.upd hu HN13.out.1 HN13.out.2.1 HN13.out.2.2.1 HN13.out.2.2.2.1 HN13.out.2.2.2.2); clear k13; have k13 := kn; clear kn hu)
                    | ((with_reducible refine at_slot 67 ?_); refine wl_ld1 (v := .int .i64 x0.t) rfl rfl rfl k13 Try.underlying2 rfl rfl ?_))
                  have HJ9 := Lib.hid (by have := HJ.out; rwa [HWR.out] at this)
                  go_roundw
                  case rel => exact ⟨k + 1, o3, _, (n + 1), _, v2, ⟨HJ9.out, HNOK.out, HNAI.out, by have := HLE.out; omega, by have := HNLL.out; omega⟩, rfl, by go_num, hlt⟩
                  case measure => simp [intOf]; omega
                · have hr4 : L.length < rm := by have := HOK.out.len; omega
                  have HPT := Lib.hid (fun W {o' : Option Nat} (hR : RgI 64 27 4 cE W g o' rm L n) => e_put hR hrm2 y)
                  rw [putB_no hf, putX_no hf, putL_no hf, putN_no hf] at HPT
                  have HNOK : Hid (RawOk n mk (L ++ [y]) rm) := Lib.hid (ok_more HOK.out HE.out HT.out (by omega))
                  have HNAI := HAI2
                  have HNLL : Hid ((L ++ [y]).length ≤ k + 1) := Lib.hid (by have := HLL.out; simp; omega)
                  have HPM : Hid (∀ W, Lst 4 cE W v L → Calls Try.prog 8 #[.agg #[.int .i64 n, .int .i64 mk, v], .int .i64 rm, .agg (evA y)] W fun r w' => ∃ v', r = .returned (.tuple #[.agg #[.int .i64 n, .int .i64 mk, v'], .int .i64 0]) ∧ (Lst 4 cE w' v' (L ++ [y]) ∧ ∀ q, v'.ownBlock = some q → W.heap.size ≤ q ∧ q < w'.heap.size) ∧ Below W.heap.size W w') := Lib.hid (fun W hL => by
                    rcases Nat.eq_zero_or_pos L.length with h0 | h0
                    · exact put_first n mk v L hL6 HAI.out rm y HYI.out W hL HOK.out HE.out h0 hr4
                    · obtain ⟨j, hj⟩ : ∃ j, L.length = j + 1 := ⟨L.length - 1, by omega⟩
                      have hxl : L[j]? = some (L[j]'(by omega)) := List.getElem?_eq_getElem (by omega)
                      exact put_more n mk v L hL6 HAI.out rm y HYI.out W hL HOK.out HE.out j _ hj hxl (HT.out j _ hj hxl) hr4)
                  clear hf hr4
                  go_wp2_with (first
                    | ((with_reducible refine at_slot 47 ?_); refine wl_ixo rfl rfl rfl rfl Try.underlying22 rfl hlt hmm ?_)
                    | ((with_reducible refine at_slot 48 ?_); refine wl_ldr (B := evA y) rfl rfl rfl HKX.out Try.underlying27 rfl evInfo ?_)
                    | ((with_reducible refine at_slot 10 ?_); refine wl_alloc (A := evA zeroEv) rfl rfl ev_zero rfl ?_; intro W1 g10 k10 hb hle; have HN10 := Lib.hid (HJ.out.fresh hle); replace HJ := Lib.hid (HJ.out.keep hb); clear hb hle)
                    | ((with_reducible refine at_store 10 ?_); refine wl_st0 (A' := evA y) rfl rfl rfl rfl k10 rfl evInfo (evA_one _) ?_; intro W2 kn hu; replace HJ := Lib.hid (HJ.out.upd hu HN10.out.1 HN10.out.2.1 HN10.out.2.2.1 HN10.out.2.2.2.1 HN10.out.2.2.2.2); clear k10; have k10 := kn; clear kn hu)
                    | ((with_reducible refine at_slot 50 ?_); refine wl_ld0 rfl rfl rfl HJ.out.k7 Try.underlying24 rfl rw_size ?_)
                    | ((with_reducible refine at_slot 52 ?_); refine wl_ld0 rfl rfl rfl k10 Try.underlying27 rfl evInfo ?_)
                    | ((with_reducible refine at_slot 53 ?_); refine wl_callx rfl rfl Try.func8 (by kernel_rfl) rfl (HPM.out _ HJ.out.lst) rfl ?_; intro v2 V53 hR; have HQ2 := Lib.hid (fun q (hq : v2.ownBlock = some q) => show q ≠ g ∧ o ≠ some q ∧ q ≠ g7 ∧ q ≠ g10 ∧ q < V53.heap.size from by have h1 := (hR.1.2 q hq).1; have h2 := HJ.out.rb.ri.lt; have h3 := HJ.out.k7.lt; have h4 := k10.lt; exact ⟨by omega, fun e => by have := HJ.out.rb.ri.o_lt _ e; omega, by omega, by omega, (hR.1.2 q hq).2⟩); have HL2 := Lib.hid hR.1.1; replace HJ := Lib.hid (HJ.out.keep hR.2); replace k10 := k10.keep hR.2; clear hR)
                    | ((with_reducible refine at_slot 11 ?_); refine wl_alloc (A := #[.int .i64 0, .int .i64 0, .slice none 0 0]) rfl rfl rw_zero rfl ?_; intro W3 g11 k11 hb hle; have HN11 := Lib.hid (HJ.out.fresh hle); have HN112 := Lib.hid (And.intro (k10.ne_of_le hle) (fun q (hq : v2.ownBlock = some q) => show q ≠ g11 ∧ q < W3.heap.size from by have := (HQ2.out q hq).2.2.2.2; have := hb.size; exact ⟨by omega, by omega⟩)); replace HJ := Lib.hid (HJ.out.keep hb); replace k10 := k10.keep hb; replace HL2 := Lib.hid (HL2.out.keep hb); clear hb hle)
                    | ((with_reducible refine at_store 11 ?_); refine wl_st0 (A' := #[.int .i64 n, .int .i64 mk, v2]) rfl rfl rfl rfl k11 rfl rw_size (rw_one _ _ _ (lst_one HL2.out).1) ?_; intro W4 kn hu; replace HJ := Lib.hid (HJ.out.upd hu HN11.out.1 HN11.out.2.1 HN11.out.2.2.1 HN11.out.2.2.2.1 HN11.out.2.2.2.2); replace k10 := k10.upd hu HN112.out.1; replace HL2 := Lib.hid (HL2.out.chg (Chg.upd (o := none) hu) (fun e => (HN112.out.2 _ e).1 rfl) (by simp)); have HZ4 := Lib.hid hu.size; clear k11; have k11 := kn; clear kn hu)
                    | ((with_reducible refine at_slot 58 ?_); refine wl_ld0 rfl rfl rfl k11 Try.underlying24 rfl rw_size ?_)
                    | ((with_reducible refine at_store 7 ?_); refine wl_st0 (A' := #[.int .i64 n, .int .i64 mk, v2]) rfl rfl rfl rfl HJ.out.k7 rfl rw_size (rw_one _ _ _ (lst_one HL2.out).1) ?_; intro W5 kn hu; have HJ2 := Lib.hid (HJ.out.set hu kn HL2.out (fun q hq => ⟨(HQ2.out q hq).1, (HQ2.out q hq).2.1, (HQ2.out q hq).2.2.1, Nat.lt_of_lt_of_le (HN112.out.2 q hq).2 HZ4.out⟩)); replace k10 := k10.upd hu HN10.out.2.2.2.1; clear kn hu k11 HJ)
                    | ((with_reducible refine at_slot 61 ?_); refine wl_ld0 rfl rfl rfl k10 Try.underlying27 rfl evInfo ?_)
                    | ((with_reducible refine at_slot 62 ?_); refine wl_call rfl rfl Try.func21 (by kernel_rfl) rfl (HPT.out _ HJ2.out.rb.ri) rfl ?_; intro V62 hR; have hJ3 := HJ2.out.step hR; clear HJ2 hR; obtain ⟨o3, hJ4⟩ := hJ3; have HJ := Lib.hid hJ4; clear hJ4 k10)
                    | ((with_reducible refine at_slot 13 ?_); refine wl_alloc (A := evA zeroEv) rfl rfl ev_zero rfl ?_; intro W6 g13 k13 hb hle; have HN13 := Lib.hid (HJ.out.fresh hle); replace HJ := Lib.hid (HJ.out.keep hb); clear hb hle)
                    | ((with_reducible refine at_store 13 ?_); refine wl_st0 (A' := evA zeroEv) rfl rfl rfl rfl k13 rfl evInfo (evA_one _) ?_; intro W7 kn hu; replace HJ := Lib.hid (HJ.out.upd hu HN13.out.1 HN13.out.2.1 HN13.out.2.2.1 HN13.out.2.2.2.1 HN13.out.2.2.2.2); clear k13; have k13 := kn; clear kn hu))
                  have HJ9 := Lib.hid (HJ.out)
                  go_roundw
                  case rel => exact ⟨k + 1, o3, _, n, _, v2, ⟨HJ9.out, HNOK.out, HNAI.out, by have := HLE.out; omega, by have := HNLL.out; omega⟩, rfl, by go_num, hlt⟩
                  case measure => simp [intOf]; omega
              · have HTN : Hid (∃ j x, L.length = j + 1 ∧ L[j]? = some x ∧ ¬ x.t < y.t) := Lib.hid (by
                  by_cases h0 : L.length = 0
                  · exact absurd (fun j x hj _ => by omega) ht
                  · obtain ⟨j, hj⟩ : ∃ j, L.length = j + 1 := ⟨L.length - 1, by omega⟩
                    have hxl : L[j]? = some (L[j]'(by omega)) := List.getElem?_eq_getElem (by omega)
                    refine ⟨j, _, hj, hxl, fun hlt' => ht (fun j' x hj' hx' => ?_)⟩
                    obtain rfl : j' = j := by omega
                    rw [hxl] at hx'
                    cases hx'
                    exact hlt')
                clear ht
                have HPR : Hid (∀ W, Lst 4 cE W v L → Calls Try.prog 8 #[.agg #[.int .i64 n, .int .i64 mk, v], .int .i64 rm, .agg (evA y)] W fun r w' => r = .returned (.tuple #[.agg #[.int .i64 0, .int .i64 0, .slice none 0 0], .int .i64 9]) ∧ Below W.heap.size W w') := Lib.hid (fun W hL => by
                  obtain ⟨j, x, hj, hx, hno⟩ := HTN.out
                  exact put_time n mk v L hL6 HAI.out rm y HYI.out W hL HOK.out HE.out j x hj hx hno)
                go_wp2_with (first
                  | ((with_reducible refine at_slot 47 ?_); refine wl_ixo rfl rfl rfl rfl Try.underlying22 rfl hlt hmm ?_)
                  | ((with_reducible refine at_slot 48 ?_); refine wl_ldr (B := evA y) rfl rfl rfl HKX.out Try.underlying27 rfl evInfo ?_)
                  | ((with_reducible refine at_slot 10 ?_); refine wl_alloc (A := evA zeroEv) rfl rfl ev_zero rfl ?_; intro W1 g10 k10 hb hle; have HN10 := Lib.hid (HJ.out.fresh hle); replace HJ := Lib.hid (HJ.out.keep hb); clear hb hle)
                  | ((with_reducible refine at_store 10 ?_); refine wl_st0 (A' := evA y) rfl rfl rfl rfl k10 rfl evInfo (evA_one _) ?_; intro W2 kn hu; replace HJ := Lib.hid (HJ.out.upd hu HN10.out.1 HN10.out.2.1 HN10.out.2.2.1 HN10.out.2.2.2.1 HN10.out.2.2.2.2); clear k10; have k10 := kn; clear kn hu)
                  | ((with_reducible refine at_slot 50 ?_); refine wl_ld0 rfl rfl rfl HJ.out.k7 Try.underlying24 rfl rw_size ?_)
                  | ((with_reducible refine at_slot 52 ?_); refine wl_ld0 rfl rfl rfl k10 Try.underlying27 rfl evInfo ?_)
                  | ((with_reducible refine at_slot 53 ?_); refine wl_call rfl rfl Try.func8 (by kernel_rfl) rfl (HPR.out _ HJ.out.lst) rfl ?_; intro V53 hb; replace HJ := Lib.hid (HJ.out.keep hb); clear hb)
                  | ((with_reducible refine at_slot 11 ?_); refine wl_alloc (A := #[.int .i64 0, .int .i64 0, .slice none 0 0]) rfl rfl rw_zero rfl ?_; intro W3 g11 k11 hb hle; have HN11 := Lib.hid (HJ.out.fresh hle); replace HJ := Lib.hid (HJ.out.keep hb); clear hb hle)
                  | ((with_reducible refine at_store 11 ?_); refine wl_st0 (A' := #[.int .i64 0, .int .i64 0, .slice none 0 0]) rfl rfl rfl rfl k11 rfl rw_size (rw_one _ _ _ rfl) ?_; intro W4 kn hu; replace HJ := Lib.hid (HJ.out.upd hu HN11.out.1 HN11.out.2.1 HN11.out.2.2.1 HN11.out.2.2.2.1 HN11.out.2.2.2.2); clear k11 kn hu))
                go_roundw
                case rel => exact ⟨k + 1, o, L, n, _, v, ⟨HJ.out, HOK.out, HAI.out, by have := HLE.out; omega, by have := HLL.out; omega⟩, rfl, by go_num, hlt⟩
                case measure => simp [intOf]; omega
            · have HNE := Lib.hid he
              clear he
              go_wp2_with (first
                | ((with_reducible refine at_slot 47 ?_); refine wl_ixo rfl rfl rfl rfl Try.underlying22 rfl hlt hmm ?_)
                | ((with_reducible refine at_slot 48 ?_); refine wl_ldr (B := evA y) rfl rfl rfl HKX.out Try.underlying27 rfl evInfo ?_)
                | ((with_reducible refine at_slot 10 ?_); refine wl_alloc (A := evA zeroEv) rfl rfl ev_zero rfl ?_; intro W1 g10 k10 hb hle; have HN10 := Lib.hid (HJ.out.fresh hle); replace HJ := Lib.hid (HJ.out.keep hb); clear hb hle)
                | ((with_reducible refine at_store 10 ?_); refine wl_st0 (A' := evA y) rfl rfl rfl rfl k10 rfl evInfo (evA_one _) ?_; intro W2 kn hu; replace HJ := Lib.hid (HJ.out.upd hu HN10.out.1 HN10.out.2.1 HN10.out.2.2.1 HN10.out.2.2.2.1 HN10.out.2.2.2.2); clear k10; have k10 := kn; clear kn hu)
                | ((with_reducible refine at_slot 50 ?_); refine wl_ld0 rfl rfl rfl HJ.out.k7 Try.underlying24 rfl rw_size ?_)
                | ((with_reducible refine at_slot 52 ?_); refine wl_ld0 rfl rfl rfl k10 Try.underlying27 rfl evInfo ?_)
                | ((with_reducible refine at_slot 53 ?_); refine wl_call rfl rfl Try.func8 (by kernel_rfl) rfl (put_ev n mk v L hL6 HAI.out rm y HYI.out _ HJ.out.lst HOK.out HNE.out) rfl ?_; intro V53 hb; replace HJ := Lib.hid (HJ.out.keep hb); clear hb)
                | ((with_reducible refine at_slot 11 ?_); refine wl_alloc (A := #[.int .i64 0, .int .i64 0, .slice none 0 0]) rfl rfl rw_zero rfl ?_; intro W3 g11 k11 hb hle; have HN11 := Lib.hid (HJ.out.fresh hle); replace HJ := Lib.hid (HJ.out.keep hb); clear hb hle)
                | ((with_reducible refine at_store 11 ?_); refine wl_st0 (A' := #[.int .i64 0, .int .i64 0, .slice none 0 0]) rfl rfl rfl rfl k11 rfl rw_size (rw_one _ _ _ rfl) ?_; intro W4 kn hu; replace HJ := Lib.hid (HJ.out.upd hu HN11.out.1 HN11.out.2.1 HN11.out.2.2.1 HN11.out.2.2.2.1 HN11.out.2.2.2.2); clear k11 kn hu))
              go_roundw
              case rel => exact ⟨k + 1, o, L, n, _, v, ⟨HJ.out, HOK.out, HAI.out, by have := HLE.out; omega, by have := HLL.out; omega⟩, rfl, by go_num, hlt⟩
              case measure => simp [intOf]; omega
          · obtain rfl : k = l.length := by omega
            have hn1 : n ≤ 1000 := by have := HLE.out; have := HLE100.out; omega
            have HCK := Lib.hid (fun W (hL : Lst 4 cE W v L) => ck_any n mk v L (by omega) HAI.out rm W hL)
            rw [ckE_yes HOK.out] at HCK
            rcases Nat.eq_zero_or_pos L.length with h0 | h0
            · have HX := Lib.hid h0
              have HWJ : Hid (IntKind.i64.wrap ((L.length : Int) - 1) = -1) := Lib.hid (by rw [h0]; rfl)
              clear h0
              go_upto_region 22 with (first
                | ((with_reducible refine at_slot 70 ?_); refine wl_ld0 rfl rfl rfl HJ.out.k7 Try.underlying24 rfl rw_size ?_)
                | ((with_reducible refine at_slot 71 ?_); refine wl_call rfl rfl Try.func12 (by kernel_rfl) rfl (la_nil2 n mk v L HX.out _ HJ.out.lst) rfl ?_; intro V71 hb; replace HJ := Lib.hid (HJ.out.keep hb); clear hb)
                | ((with_reducible refine at_slot 15 ?_); refine wl_alloc (A := evA zeroEv) rfl rfl ev_zero rfl ?_; intro W1 g15 k15 hb hle; have HN15 := Lib.hid (HJ.out.fresh hle); replace HJ := Lib.hid (HJ.out.keep hb); clear hb hle)
                | ((with_reducible refine at_store 15 ?_); refine wl_st0 (A' := evA zeroEv) rfl rfl rfl rfl k15 rfl evInfo (evA_one _) ?_; intro W2 kn hu; replace HJ := Lib.hid (HJ.out.upd hu HN15.out.1 HN15.out.2.1 HN15.out.2.2.1 HN15.out.2.2.2.1 HN15.out.2.2.2.2); clear k15; have k15 := kn; clear kn hu)
                | ((with_reducible refine at_slot 77 ?_); refine wl_call rfl rfl Try.func23 (by kernel_rfl) rfl (e_len HJ.out.rb.ri) rfl ?_; intro V77 hb; replace HJ := Lib.hid (HJ.out.keep hb); replace k15 := k15.keep hb; clear hb)
                | ((with_reducible refine at_slot 78 ?_); refine wl_bin (v := .int .i64 (-1)) rfl rfl rfl (sub_is HWJ.out) ?_)
                | ((with_reducible refine at_slot 79 ?_); refine wl_call rfl rfl Try.func22 (by kernel_rfl) rfl (e_at_no HJ.out.rb.ri (-1) (Or.inl (by decide)) (by decide) (by decide)) rfl ?_; intro V79 hb; replace HJ := Lib.hid (HJ.out.keep hb); replace k15 := k15.keep hb; clear hb)
                | ((with_reducible refine at_slot 17 ?_); refine wl_alloc (A := evA zeroEv) rfl rfl ev_zero rfl ?_; intro W3 g17 k17 hb hle; have HN17 := Lib.hid (HJ.out.fresh hle); have HN157 := Lib.hid (k15.ne_of_le hle); replace HJ := Lib.hid (HJ.out.keep hb); replace k15 := k15.keep hb; clear hb hle)
                | ((with_reducible refine at_store 17 ?_); refine wl_st0 (A' := evA zeroEv) rfl rfl rfl rfl k17 rfl evInfo (evA_one _) ?_; intro V kn hu; replace HJ := Lib.hid (HJ.out.upd hu HN17.out.1 HN17.out.2.1 HN17.out.2.2.1 HN17.out.2.2.2.1 HN17.out.2.2.2.2); replace k15 := k15.upd hu HN157.out; clear k17; have HK15 := Lib.hid k15; have HK17 := Lib.hid kn; clear kn hu k15))
              refine wp_region_held_drew (S := fun w' => Below V.heap.size V w') (by kernel_rfl) (Below.refl _ _).drew (fun hS => ?_)
              refine wpAnyH_take (i := 0) (oi := ⟨some 82, _, _, _, _, _⟩) (v := .pointer (some ⟨g7, 2, none⟩)) rfl (by kernel_rfl) (by kernel_rfl) (by kernel_rfl) (fun _ _ _ h => h) (yi_ok rfl (fun _ => by go_simp)) hS ?_
              simp only [Act.put, List.setIfInBounds_toArray, List.set_cons_zero, List.set_cons_succ]
              refine wpAnyH_take (i := 1) (oi := ⟨some 83, _, _, _, _, _⟩) (v := v) rfl (by kernel_rfl) (by kernel_rfl) (by kernel_rfl) (fun _ _ _ h => h) (yi_ld1 (v := v) rfl rfl rfl (fun w' h => HJ.out.k7.keep h) Try.underlying22 rfl rfl) hS ?_
              simp only [Act.put, List.setIfInBounds_toArray, List.set_cons_zero, List.set_cons_succ]
              refine wpAnyH_take (i := 2) (oi := ⟨some 84, _, _, _, _, _⟩) (v := .pointer (some ⟨g, 0, none⟩)) rfl (by kernel_rfl) (by kernel_rfl) (by kernel_rfl) (fun _ _ _ h => h) (yi_mv (Or.inl rfl) rfl rfl) hS ?_
              simp only [Act.put, List.setIfInBounds_toArray, List.set_cons_zero, List.set_cons_succ]
              refine anyH_callx (i := 3) (op := ⟨some 85, _, _, _, _, _⟩) (by kernel_rfl) rfl rfl (by kernel_rfl) Try.func24 (by kernel_rfl) rfl (e_all (HJ.out.rb.ri.keep hS) hrm2) rfl (fun x w' hR => below_tr hS hR.2) (fun v8 w' hR hS2 => ?_)
              simp only [Act.put, List.setIfInBounds_toArray, List.set_cons_zero, List.set_cons_succ]
              have HL8 := Lib.hid (own_lst (xs := L) cE_len hR.1 rfl)
              clear hR
              replace hS := hS2
              clear hS2
              refine anyH_call (i := 4) (op := ⟨some 86, _, _, _, _, _⟩) (by kernel_rfl) rfl rfl (by kernel_rfl) Try.func17 (by kernel_rfl) rfl (sl_yes v v8 L (by omega) _ (HJ.out.lst.keep hS) HL8.out) rfl (fun w' hb => below_tr hS hb) (fun w' hb hS2 => ?_)
              simp only [Act.put, List.setIfInBounds_toArray, List.set_cons_zero, List.set_cons_succ]
              clear hb
              replace hS := hS2
              clear hS2
              refine wpAnyH_take (i := 5) (oi := ⟨some 87, _, _, _, _, _⟩) (v := .bool true) rfl (by kernel_rfl) (by kernel_rfl) (by kernel_rfl) (fun _ _ _ h => h) (yi_mv (Or.inl rfl) rfl rfl) hS ?_
              simp only [Act.put, List.setIfInBounds_toArray, List.set_cons_zero, List.set_cons_succ]
              refine wpAnyH_take (i := 6) (oi := ⟨some 88, _, _, _, _, _⟩) (v := .pointer (some ⟨g7, 0, none⟩)) rfl (by kernel_rfl) (by kernel_rfl) (by kernel_rfl) (fun _ _ _ h => h) (yi_ok (by kernel_rfl) (fun _ => by go_simp)) hS ?_
              simp only [Act.put, List.setIfInBounds_toArray, List.set_cons_zero, List.set_cons_succ]
              refine wpAnyH_take (i := 7) (oi := ⟨some 89, _, _, _, _, _⟩) (v := .int .i64 n) rfl (by kernel_rfl) (by kernel_rfl) (by kernel_rfl) (fun _ _ _ h => h) (yi_ld1 (v := .int .i64 n) rfl (by kernel_rfl) rfl (fun w' h => HJ.out.k7.keep h) Try.underlying2 rfl rfl) hS ?_
              simp only [Act.put, List.setIfInBounds_toArray, List.set_cons_zero, List.set_cons_succ]
              refine wpAnyH_take (i := 8) (oi := ⟨some 90, _, _, _, _, _⟩) (v := .pointer (some ⟨g, 0, none⟩)) rfl (by kernel_rfl) (by kernel_rfl) (by kernel_rfl) (fun _ _ _ h => h) (yi_mv (Or.inl rfl) (by kernel_rfl) rfl) hS ?_
              simp only [Act.put, List.setIfInBounds_toArray, List.set_cons_zero, List.set_cons_succ]
              refine anyH_call (i := 9) (op := ⟨some 91, _, _, _, _, _⟩) (by kernel_rfl) rfl rfl (by kernel_rfl) Try.func25 (by kernel_rfl) rfl (e_lost (HJ.out.rb.ri.keep hS)) rfl (fun w' hb => below_tr hS hb) (fun w' hb hS2 => ?_)
              simp only [Act.put, List.setIfInBounds_toArray, List.set_cons_zero, List.set_cons_succ]
              clear hb
              replace hS := hS2
              clear hS2
              refine wpAnyH_take (i := 10) (oi := ⟨some 92, _, _, _, _, _⟩) (v := .int .i64 n) rfl (by kernel_rfl) (by kernel_rfl) (by kernel_rfl) (fun _ _ _ h => h) (yi_conv rfl (by kernel_rfl) rfl (fun _ => conv_i64 n hn1 _)) hS ?_
              simp only [Act.put, List.setIfInBounds_toArray, List.set_cons_zero, List.set_cons_succ]
              refine wpAnyH_take (i := 11) (oi := ⟨some 93, _, _, _, _, _⟩) (v := .bool true) rfl (by kernel_rfl) (by kernel_rfl) (by kernel_rfl) (fun _ _ _ h => h) (yi_bi rfl (by kernel_rfl) rfl rfl (fun _ => rfl) (fun _ => eql_is (by simp))) hS ?_
              simp only [Act.put, List.setIfInBounds_toArray, List.set_cons_zero, List.set_cons_succ]
              refine wpAnyH_take (i := 12) (oi := ⟨some 94, _, _, _, _, _⟩) (v := .bool true) rfl (by kernel_rfl) (by kernel_rfl) (by kernel_rfl) (fun _ _ _ h => h) (yi_pick1 rfl rfl rfl rfl) hS ?_
              simp only [Act.put, List.setIfInBounds_toArray, List.set_cons_zero, List.set_cons_succ]
              refine wpAnyH_take (i := 13) (oi := ⟨some 95, _, _, _, _, _⟩) (v := .bool true) rfl (by kernel_rfl) (by kernel_rfl) (by kernel_rfl) (fun _ _ _ h => h) (yi_mv (Or.inl rfl) rfl rfl) hS ?_
              simp only [Act.put, List.setIfInBounds_toArray, List.set_cons_zero, List.set_cons_succ]
              refine wpAnyH_take (i := 14) (oi := ⟨some 96, _, _, _, _, _⟩) (v := .pointer (some ⟨g7, 1, none⟩)) rfl (by kernel_rfl) (by kernel_rfl) (by kernel_rfl) (fun _ _ _ h => h) (yi_ok (by kernel_rfl) (fun _ => by go_simp)) hS ?_
              simp only [Act.put, List.setIfInBounds_toArray, List.set_cons_zero, List.set_cons_succ]
              refine wpAnyH_take (i := 15) (oi := ⟨some 97, _, _, _, _, _⟩) (v := .int .i64 mk) rfl (by kernel_rfl) (by kernel_rfl) (by kernel_rfl) (fun _ _ _ h => h) (yi_ld1 (v := .int .i64 mk) rfl (by kernel_rfl) rfl (fun w' h => HJ.out.k7.keep h) Try.underlying2 rfl rfl) hS ?_
              simp only [Act.put, List.setIfInBounds_toArray, List.set_cons_zero, List.set_cons_succ]
              refine wpAnyH_take (i := 16) (oi := ⟨some 98, _, _, _, _, _⟩) (v := .int .i64 mk) rfl (by kernel_rfl) (by kernel_rfl) (by kernel_rfl) (fun _ _ _ h => h) (yi_mv (Or.inl rfl) (by kernel_rfl) rfl) hS ?_
              simp only [Act.put, List.setIfInBounds_toArray, List.set_cons_zero, List.set_cons_succ]
              refine wpAnyH_take (i := 17) (oi := ⟨some 99, _, _, _, _, _⟩) (v := .bool true) rfl (by kernel_rfl) (by kernel_rfl) (by kernel_rfl) (fun _ _ _ h => h) (yi_bi rfl (by kernel_rfl) rfl rfl (fun _ => rfl) (fun _ => eql_is (by simp))) hS ?_
              simp only [Act.put, List.setIfInBounds_toArray, List.set_cons_zero, List.set_cons_succ]
              refine wpAnyH_take (i := 18) (oi := ⟨some 100, _, _, _, _, _⟩) (v := .bool true) rfl (by kernel_rfl) (by kernel_rfl) (by kernel_rfl) (fun _ _ _ h => h) (yi_pick1 rfl rfl rfl rfl) hS ?_
              simp only [Act.put, List.setIfInBounds_toArray, List.set_cons_zero, List.set_cons_succ]
              refine wpAnyH_take (i := 19) (oi := ⟨some 101, _, _, _, _, _⟩) (v := .bool true) rfl (by kernel_rfl) (by kernel_rfl) (by kernel_rfl) (fun _ _ _ h => h) (yi_mv (Or.inl rfl) rfl rfl) hS ?_
              simp only [Act.put, List.setIfInBounds_toArray, List.set_cons_zero, List.set_cons_succ]
              refine wpAnyH_take (i := 20) (oi := ⟨some 102, _, _, _, _, _⟩) (v := .int .i64 3) rfl (by kernel_rfl) (by kernel_rfl) (by kernel_rfl) (fun _ _ _ h => h) (yi_mv (Or.inl rfl) (by kernel_rfl) rfl) hS ?_
              simp only [Act.put, List.setIfInBounds_toArray, List.set_cons_zero, List.set_cons_succ]
              refine wpAnyH_take (i := 21) (oi := ⟨some 103, _, _, _, _, _⟩) (v := .bool false) rfl (by kernel_rfl) (by kernel_rfl) (by kernel_rfl) (fun _ _ _ h => h) (yi_bi rfl (by kernel_rfl) rfl rfl (fun _ => rfl) (fun _ => eql_is rfl)) hS ?_
              simp only [Act.put, List.setIfInBounds_toArray, List.set_cons_zero, List.set_cons_succ]
              refine wpAnyH_take (i := 22) (oi := ⟨some 104, _, _, _, _, _⟩) (v := .bool false) rfl (by kernel_rfl) (by kernel_rfl) (by kernel_rfl) (fun _ _ _ h => h) (yi_mv (Or.inl rfl) (by kernel_rfl) rfl) hS ?_
              simp only [Act.put, List.setIfInBounds_toArray, List.set_cons_zero, List.set_cons_succ]
              refine wpAnyH_take (i := 23) (oi := ⟨some 105, _, _, _, _, _⟩) (v := .bool true) rfl (by kernel_rfl) (by kernel_rfl) (by kernel_rfl) (fun _ _ _ h => h) (yi_bi rfl (by kernel_rfl) rfl rfl (fun _ => rfl) (fun _ => beq_bool false _)) hS ?_
              simp only [Act.put, List.setIfInBounds_toArray, List.set_cons_zero, List.set_cons_succ]
              refine wpAnyH_take (i := 24) (oi := ⟨some 106, _, _, _, _, _⟩) (v := .bool true) rfl (by kernel_rfl) (by kernel_rfl) (by kernel_rfl) (fun _ _ _ h => h) (yi_pick1 rfl rfl rfl rfl) hS ?_
              simp only [Act.put, List.setIfInBounds_toArray, List.set_cons_zero, List.set_cons_succ]
              refine wpAnyH_take (i := 25) (oi := ⟨some 107, _, _, _, _, _⟩) (v := .bool true) rfl (by kernel_rfl) (by kernel_rfl) (by kernel_rfl) (fun _ _ _ h => h) (yi_mv (Or.inl rfl) rfl rfl) hS ?_
              simp only [Act.put, List.setIfInBounds_toArray, List.set_cons_zero, List.set_cons_succ]
              refine wpAnyH_take (i := 26) (oi := ⟨some 108, _, _, _, _, _⟩) (v := .agg (evA zeroEv)) rfl (by kernel_rfl) (by kernel_rfl) (by kernel_rfl) (fun _ _ _ h => h) (yi_ld0 rfl (by kernel_rfl) rfl (fun w' h => HK15.out.keep h) Try.underlying27 rfl evInfo) hS ?_
              simp only [Act.put, List.setIfInBounds_toArray, List.set_cons_zero, List.set_cons_succ]
              refine wpAnyH_take (i := 27) (oi := ⟨some 109, _, _, _, _, _⟩) (v := .agg (evA zeroEv)) rfl (by kernel_rfl) (by kernel_rfl) (by kernel_rfl) (fun _ _ _ h => h) (yi_ld0 rfl (by kernel_rfl) rfl (fun w' h => HK17.out.keep h) Try.underlying27 rfl evInfo) hS ?_
              simp only [Act.put, List.setIfInBounds_toArray, List.set_cons_zero, List.set_cons_succ]
              refine wpAnyH_take (i := 28) (oi := ⟨some 110, _, _, _, _, _⟩) (v := .bool true) rfl (by kernel_rfl) (by kernel_rfl) (by kernel_rfl) (fun _ _ _ h => h) (yi_bi rfl (by kernel_rfl) rfl rfl (fun _ => run_eqGuard_agg _ _ _ _ _ _ _ (by kernel_rfl)) (fun _ => ev_eql_yes rfl _)) hS ?_
              simp only [Act.put, List.setIfInBounds_toArray, List.set_cons_zero, List.set_cons_succ]
              refine wpAnyH_take (i := 29) (oi := ⟨some 111, _, _, _, _, _⟩) (v := .bool true) rfl (by kernel_rfl) (by kernel_rfl) (by kernel_rfl) (fun _ _ _ h => h) (yi_pick1 rfl rfl rfl rfl) hS ?_
              simp only [Act.put, List.setIfInBounds_toArray, List.set_cons_zero, List.set_cons_succ]
              refine wpAnyH_take (i := 30) (oi := ⟨some 112, _, _, _, _, _⟩) (v := .bool true) rfl (by kernel_rfl) (by kernel_rfl) (by kernel_rfl) (fun _ _ _ h => h) (yi_mv (Or.inl rfl) rfl rfl) hS ?_
              simp only [Act.put, List.setIfInBounds_toArray, List.set_cons_zero, List.set_cons_succ]
              refine wpAnyH_take (i := 31) (oi := ⟨some 113, _, _, _, _, _⟩) (v := .agg #[.int .i64 n, .int .i64 mk, v]) rfl (by kernel_rfl) (by kernel_rfl) (by kernel_rfl) (fun _ _ _ h => h) (yi_ld0 rfl (by kernel_rfl) rfl (fun w' h => HJ.out.k7.keep h) Try.underlying24 rfl rw_size) hS ?_
              simp only [Act.put, List.setIfInBounds_toArray, List.set_cons_zero, List.set_cons_succ]
              refine wpAnyH_take (i := 32) (oi := ⟨some 114, _, _, _, _, _⟩) (v := .int .i64 rm) rfl (by kernel_rfl) (by kernel_rfl) (by kernel_rfl) (fun _ _ _ h => h) (yi_mv (Or.inl rfl) (by kernel_rfl) rfl) hS ?_
              simp only [Act.put, List.setIfInBounds_toArray, List.set_cons_zero, List.set_cons_succ]
              refine anyH_call (i := 33) (op := ⟨some 115, _, _, _, _, _⟩) (by kernel_rfl) rfl rfl (by kernel_rfl) Try.func14 (by kernel_rfl) rfl (HCK.out _ (HJ.out.lst.keep hS)) rfl (fun w' hb => below_tr hS hb) (fun w' hb hS2 => ?_)
              simp only [Act.put, List.setIfInBounds_toArray, List.set_cons_zero, List.set_cons_succ]
              clear hb
              replace hS := hS2
              clear hS2
              refine wpAnyH_take (i := 34) (oi := ⟨some 116, _, _, _, _, _⟩) (v := .bool true) rfl (by kernel_rfl) (by kernel_rfl) (by kernel_rfl) (fun _ _ _ h => h) (yi_bi rfl (by kernel_rfl) rfl rfl (fun _ => rfl) (fun _ => eql_is rfl)) hS ?_
              simp only [Act.put, List.setIfInBounds_toArray, List.set_cons_zero, List.set_cons_succ]
              refine wpAnyH_take (i := 35) (oi := ⟨some 117, _, _, _, _, _⟩) (v := .bool true) rfl (by kernel_rfl) (by kernel_rfl) (by kernel_rfl) (fun _ _ _ h => h) (yi_pick1 rfl rfl rfl rfl) hS ?_
              simp only [Act.put, List.setIfInBounds_toArray, List.set_cons_zero, List.set_cons_succ]
              refine wpAnyH_take (i := 36) (oi := ⟨some 4, _, _, _, _, _⟩) (v := .bool true) rfl (by kernel_rfl) (by kernel_rfl) (by kernel_rfl) (fun _ _ _ h => h) (yi_mv (Or.inr rfl) rfl rfl) hS ?_
              simp only [Act.put, List.setIfInBounds_toArray, List.set_cons_zero, List.set_cons_succ]
              refine wpAnyH_done (by kernel_rfl) ?_ _
              have HBF := Lib.hid (below_tr HB0.out (HJ.out.rb.below.trans (hS.mono HJ.out.rb.below.size)))
              go_wp2_with fail
              go_ret
              exact ⟨rfl, HBF.out⟩
            · obtain ⟨j, hj⟩ : ∃ j, L.length = j + 1 := ⟨L.length - 1, by omega⟩
              have hjl : j < L.length := by omega
              have HATY := Lib.hid (fun W {o' : Option Nat} (hR : RgI 64 27 4 cE W g o' rm L n) => e_at_yes hR hrm2 j hjl)
              have hxl : L[j]? = some L[j] := List.getElem?_eq_getElem hjl
              obtain ⟨x, hx⟩ : ∃ x, x = L[j] := ⟨_, rfl⟩
              rw [← hx] at HATY hxl
              have HX := Lib.hid (show L.length = j + 1 ∧ j ≤ 1000000 ∧ L[j]? = some x from ⟨hj, by omega, hxl⟩)
              have HWJ : Hid (IntKind.i64.wrap ((L.length : Int) - 1) = (j : Nat)) := Lib.hid (by rw [IntKind.wrap_i64]; omega)
              clear h0 hj hxl hx
              go_upto_region 22 with (first
                | ((with_reducible refine at_slot 70 ?_); refine wl_ld0 rfl rfl rfl HJ.out.k7 Try.underlying24 rfl rw_size ?_)
                | ((with_reducible refine at_slot 71 ?_); refine wl_call rfl rfl Try.func12 (by kernel_rfl) rfl (la_some n mk v L j x HX.out.1 HX.out.2.1 HX.out.2.2 _ HJ.out.lst) rfl ?_; intro V71 hb; replace HJ := Lib.hid (HJ.out.keep hb); clear hb)
                | ((with_reducible refine at_slot 15 ?_); refine wl_alloc (A := evA zeroEv) rfl rfl ev_zero rfl ?_; intro W1 g15 k15 hb hle; have HN15 := Lib.hid (HJ.out.fresh hle); replace HJ := Lib.hid (HJ.out.keep hb); clear hb hle)
                | ((with_reducible refine at_store 15 ?_); refine wl_st0 (A' := evA x) rfl rfl rfl rfl k15 rfl evInfo (evA_one _) ?_; intro W2 kn hu; replace HJ := Lib.hid (HJ.out.upd hu HN15.out.1 HN15.out.2.1 HN15.out.2.2.1 HN15.out.2.2.2.1 HN15.out.2.2.2.2); clear k15; have k15 := kn; clear kn hu)
                | ((with_reducible refine at_slot 77 ?_); refine wl_call rfl rfl Try.func23 (by kernel_rfl) rfl (e_len HJ.out.rb.ri) rfl ?_; intro V77 hb; replace HJ := Lib.hid (HJ.out.keep hb); replace k15 := k15.keep hb; clear hb)
                | ((with_reducible refine at_slot 78 ?_); refine wl_bin (v := .int .i64 (j : Nat)) rfl rfl rfl (sub_is HWJ.out) ?_)
                | ((with_reducible refine at_slot 79 ?_); refine wl_call rfl rfl Try.func22 (by kernel_rfl) rfl (HATY.out _ HJ.out.rb.ri) rfl ?_; intro V79 hb; replace HJ := Lib.hid (HJ.out.keep hb); replace k15 := k15.keep hb; clear hb)
                | ((with_reducible refine at_slot 17 ?_); refine wl_alloc (A := evA zeroEv) rfl rfl ev_zero rfl ?_; intro W3 g17 k17 hb hle; have HN17 := Lib.hid (HJ.out.fresh hle); have HN157 := Lib.hid (k15.ne_of_le hle); replace HJ := Lib.hid (HJ.out.keep hb); replace k15 := k15.keep hb; clear hb hle)
                | ((with_reducible refine at_store 17 ?_); refine wl_st0 (A' := evA x) rfl rfl rfl rfl k17 rfl evInfo (evA_one _) ?_; intro V kn hu; replace HJ := Lib.hid (HJ.out.upd hu HN17.out.1 HN17.out.2.1 HN17.out.2.2.1 HN17.out.2.2.2.1 HN17.out.2.2.2.2); replace k15 := k15.upd hu HN157.out; clear k17; have HK15 := Lib.hid k15; have HK17 := Lib.hid kn; clear kn hu k15))
              refine wp_region_held_drew (S := fun w' => Below V.heap.size V w') (by kernel_rfl) (Below.refl _ _).drew (fun hS => ?_)
              refine wpAnyH_take (i := 0) (oi := ⟨some 82, _, _, _, _, _⟩) (v := .pointer (some ⟨g7, 2, none⟩)) rfl (by kernel_rfl) (by kernel_rfl) (by kernel_rfl) (fun _ _ _ h => h) (yi_ok rfl (fun _ => by go_simp)) hS ?_
              simp only [Act.put, List.setIfInBounds_toArray, List.set_cons_zero, List.set_cons_succ]
              refine wpAnyH_take (i := 1) (oi := ⟨some 83, _, _, _, _, _⟩) (v := v) rfl (by kernel_rfl) (by kernel_rfl) (by kernel_rfl) (fun _ _ _ h => h) (yi_ld1 (v := v) rfl rfl rfl (fun w' h => HJ.out.k7.keep h) Try.underlying22 rfl rfl) hS ?_
              simp only [Act.put, List.setIfInBounds_toArray, List.set_cons_zero, List.set_cons_succ]
              refine wpAnyH_take (i := 2) (oi := ⟨some 84, _, _, _, _, _⟩) (v := .pointer (some ⟨g, 0, none⟩)) rfl (by kernel_rfl) (by kernel_rfl) (by kernel_rfl) (fun _ _ _ h => h) (yi_mv (Or.inl rfl) rfl rfl) hS ?_
              simp only [Act.put, List.setIfInBounds_toArray, List.set_cons_zero, List.set_cons_succ]
              refine anyH_callx (i := 3) (op := ⟨some 85, _, _, _, _, _⟩) (by kernel_rfl) rfl rfl (by kernel_rfl) Try.func24 (by kernel_rfl) rfl (e_all (HJ.out.rb.ri.keep hS) hrm2) rfl (fun x w' hR => below_tr hS hR.2) (fun v8 w' hR hS2 => ?_)
              simp only [Act.put, List.setIfInBounds_toArray, List.set_cons_zero, List.set_cons_succ]
              have HL8 := Lib.hid (own_lst (xs := L) cE_len hR.1 rfl)
              clear hR
              replace hS := hS2
              clear hS2
              refine anyH_call (i := 4) (op := ⟨some 86, _, _, _, _, _⟩) (by kernel_rfl) rfl rfl (by kernel_rfl) Try.func17 (by kernel_rfl) rfl (sl_yes v v8 L (by omega) _ (HJ.out.lst.keep hS) HL8.out) rfl (fun w' hb => below_tr hS hb) (fun w' hb hS2 => ?_)
              simp only [Act.put, List.setIfInBounds_toArray, List.set_cons_zero, List.set_cons_succ]
              clear hb
              replace hS := hS2
              clear hS2
              refine wpAnyH_take (i := 5) (oi := ⟨some 87, _, _, _, _, _⟩) (v := .bool true) rfl (by kernel_rfl) (by kernel_rfl) (by kernel_rfl) (fun _ _ _ h => h) (yi_mv (Or.inl rfl) rfl rfl) hS ?_
              simp only [Act.put, List.setIfInBounds_toArray, List.set_cons_zero, List.set_cons_succ]
              refine wpAnyH_take (i := 6) (oi := ⟨some 88, _, _, _, _, _⟩) (v := .pointer (some ⟨g7, 0, none⟩)) rfl (by kernel_rfl) (by kernel_rfl) (by kernel_rfl) (fun _ _ _ h => h) (yi_ok (by kernel_rfl) (fun _ => by go_simp)) hS ?_
              simp only [Act.put, List.setIfInBounds_toArray, List.set_cons_zero, List.set_cons_succ]
              refine wpAnyH_take (i := 7) (oi := ⟨some 89, _, _, _, _, _⟩) (v := .int .i64 n) rfl (by kernel_rfl) (by kernel_rfl) (by kernel_rfl) (fun _ _ _ h => h) (yi_ld1 (v := .int .i64 n) rfl (by kernel_rfl) rfl (fun w' h => HJ.out.k7.keep h) Try.underlying2 rfl rfl) hS ?_
              simp only [Act.put, List.setIfInBounds_toArray, List.set_cons_zero, List.set_cons_succ]
              refine wpAnyH_take (i := 8) (oi := ⟨some 90, _, _, _, _, _⟩) (v := .pointer (some ⟨g, 0, none⟩)) rfl (by kernel_rfl) (by kernel_rfl) (by kernel_rfl) (fun _ _ _ h => h) (yi_mv (Or.inl rfl) (by kernel_rfl) rfl) hS ?_
              simp only [Act.put, List.setIfInBounds_toArray, List.set_cons_zero, List.set_cons_succ]
              refine anyH_call (i := 9) (op := ⟨some 91, _, _, _, _, _⟩) (by kernel_rfl) rfl rfl (by kernel_rfl) Try.func25 (by kernel_rfl) rfl (e_lost (HJ.out.rb.ri.keep hS)) rfl (fun w' hb => below_tr hS hb) (fun w' hb hS2 => ?_)
              simp only [Act.put, List.setIfInBounds_toArray, List.set_cons_zero, List.set_cons_succ]
              clear hb
              replace hS := hS2
              clear hS2
              refine wpAnyH_take (i := 10) (oi := ⟨some 92, _, _, _, _, _⟩) (v := .int .i64 n) rfl (by kernel_rfl) (by kernel_rfl) (by kernel_rfl) (fun _ _ _ h => h) (yi_conv rfl (by kernel_rfl) rfl (fun _ => conv_i64 n hn1 _)) hS ?_
              simp only [Act.put, List.setIfInBounds_toArray, List.set_cons_zero, List.set_cons_succ]
              refine wpAnyH_take (i := 11) (oi := ⟨some 93, _, _, _, _, _⟩) (v := .bool true) rfl (by kernel_rfl) (by kernel_rfl) (by kernel_rfl) (fun _ _ _ h => h) (yi_bi rfl (by kernel_rfl) rfl rfl (fun _ => rfl) (fun _ => eql_is (by simp))) hS ?_
              simp only [Act.put, List.setIfInBounds_toArray, List.set_cons_zero, List.set_cons_succ]
              refine wpAnyH_take (i := 12) (oi := ⟨some 94, _, _, _, _, _⟩) (v := .bool true) rfl (by kernel_rfl) (by kernel_rfl) (by kernel_rfl) (fun _ _ _ h => h) (yi_pick1 rfl rfl rfl rfl) hS ?_
              simp only [Act.put, List.setIfInBounds_toArray, List.set_cons_zero, List.set_cons_succ]
              refine wpAnyH_take (i := 13) (oi := ⟨some 95, _, _, _, _, _⟩) (v := .bool true) rfl (by kernel_rfl) (by kernel_rfl) (by kernel_rfl) (fun _ _ _ h => h) (yi_mv (Or.inl rfl) rfl rfl) hS ?_
              simp only [Act.put, List.setIfInBounds_toArray, List.set_cons_zero, List.set_cons_succ]
              refine wpAnyH_take (i := 14) (oi := ⟨some 96, _, _, _, _, _⟩) (v := .pointer (some ⟨g7, 1, none⟩)) rfl (by kernel_rfl) (by kernel_rfl) (by kernel_rfl) (fun _ _ _ h => h) (yi_ok (by kernel_rfl) (fun _ => by go_simp)) hS ?_
              simp only [Act.put, List.setIfInBounds_toArray, List.set_cons_zero, List.set_cons_succ]
              refine wpAnyH_take (i := 15) (oi := ⟨some 97, _, _, _, _, _⟩) (v := .int .i64 mk) rfl (by kernel_rfl) (by kernel_rfl) (by kernel_rfl) (fun _ _ _ h => h) (yi_ld1 (v := .int .i64 mk) rfl (by kernel_rfl) rfl (fun w' h => HJ.out.k7.keep h) Try.underlying2 rfl rfl) hS ?_
              simp only [Act.put, List.setIfInBounds_toArray, List.set_cons_zero, List.set_cons_succ]
              refine wpAnyH_take (i := 16) (oi := ⟨some 98, _, _, _, _, _⟩) (v := .int .i64 mk) rfl (by kernel_rfl) (by kernel_rfl) (by kernel_rfl) (fun _ _ _ h => h) (yi_mv (Or.inl rfl) (by kernel_rfl) rfl) hS ?_
              simp only [Act.put, List.setIfInBounds_toArray, List.set_cons_zero, List.set_cons_succ]
              refine wpAnyH_take (i := 17) (oi := ⟨some 99, _, _, _, _, _⟩) (v := .bool true) rfl (by kernel_rfl) (by kernel_rfl) (by kernel_rfl) (fun _ _ _ h => h) (yi_bi rfl (by kernel_rfl) rfl rfl (fun _ => rfl) (fun _ => eql_is (by simp))) hS ?_
              simp only [Act.put, List.setIfInBounds_toArray, List.set_cons_zero, List.set_cons_succ]
              refine wpAnyH_take (i := 18) (oi := ⟨some 100, _, _, _, _, _⟩) (v := .bool true) rfl (by kernel_rfl) (by kernel_rfl) (by kernel_rfl) (fun _ _ _ h => h) (yi_pick1 rfl rfl rfl rfl) hS ?_
              simp only [Act.put, List.setIfInBounds_toArray, List.set_cons_zero, List.set_cons_succ]
              refine wpAnyH_take (i := 19) (oi := ⟨some 101, _, _, _, _, _⟩) (v := .bool true) rfl (by kernel_rfl) (by kernel_rfl) (by kernel_rfl) (fun _ _ _ h => h) (yi_mv (Or.inl rfl) rfl rfl) hS ?_
              simp only [Act.put, List.setIfInBounds_toArray, List.set_cons_zero, List.set_cons_succ]
              refine wpAnyH_take (i := 20) (oi := ⟨some 102, _, _, _, _, _⟩) (v := .int .i64 0) rfl (by kernel_rfl) (by kernel_rfl) (by kernel_rfl) (fun _ _ _ h => h) (yi_mv (Or.inl rfl) (by kernel_rfl) rfl) hS ?_
              simp only [Act.put, List.setIfInBounds_toArray, List.set_cons_zero, List.set_cons_succ]
              refine wpAnyH_take (i := 21) (oi := ⟨some 103, _, _, _, _, _⟩) (v := .bool true) rfl (by kernel_rfl) (by kernel_rfl) (by kernel_rfl) (fun _ _ _ h => h) (yi_bi rfl (by kernel_rfl) rfl rfl (fun _ => rfl) (fun _ => eql_is rfl)) hS ?_
              simp only [Act.put, List.setIfInBounds_toArray, List.set_cons_zero, List.set_cons_succ]
              refine wpAnyH_take (i := 22) (oi := ⟨some 104, _, _, _, _, _⟩) (v := .bool true) rfl (by kernel_rfl) (by kernel_rfl) (by kernel_rfl) (fun _ _ _ h => h) (yi_mv (Or.inl rfl) (by kernel_rfl) rfl) hS ?_
              simp only [Act.put, List.setIfInBounds_toArray, List.set_cons_zero, List.set_cons_succ]
              refine wpAnyH_take (i := 23) (oi := ⟨some 105, _, _, _, _, _⟩) (v := .bool true) rfl (by kernel_rfl) (by kernel_rfl) (by kernel_rfl) (fun _ _ _ h => h) (yi_bi rfl (by kernel_rfl) rfl rfl (fun _ => rfl) (fun _ => beq_bool true _)) hS ?_
              simp only [Act.put, List.setIfInBounds_toArray, List.set_cons_zero, List.set_cons_succ]
              refine wpAnyH_take (i := 24) (oi := ⟨some 106, _, _, _, _, _⟩) (v := .bool true) rfl (by kernel_rfl) (by kernel_rfl) (by kernel_rfl) (fun _ _ _ h => h) (yi_pick1 rfl rfl rfl rfl) hS ?_
              simp only [Act.put, List.setIfInBounds_toArray, List.set_cons_zero, List.set_cons_succ]
              refine wpAnyH_take (i := 25) (oi := ⟨some 107, _, _, _, _, _⟩) (v := .bool true) rfl (by kernel_rfl) (by kernel_rfl) (by kernel_rfl) (fun _ _ _ h => h) (yi_mv (Or.inl rfl) rfl rfl) hS ?_
              simp only [Act.put, List.setIfInBounds_toArray, List.set_cons_zero, List.set_cons_succ]
              refine wpAnyH_take (i := 26) (oi := ⟨some 108, _, _, _, _, _⟩) (v := .agg (evA x)) rfl (by kernel_rfl) (by kernel_rfl) (by kernel_rfl) (fun _ _ _ h => h) (yi_ld0 rfl (by kernel_rfl) rfl (fun w' h => HK15.out.keep h) Try.underlying27 rfl evInfo) hS ?_
              simp only [Act.put, List.setIfInBounds_toArray, List.set_cons_zero, List.set_cons_succ]
              refine wpAnyH_take (i := 27) (oi := ⟨some 109, _, _, _, _, _⟩) (v := .agg (evA x)) rfl (by kernel_rfl) (by kernel_rfl) (by kernel_rfl) (fun _ _ _ h => h) (yi_ld0 rfl (by kernel_rfl) rfl (fun w' h => HK17.out.keep h) Try.underlying27 rfl evInfo) hS ?_
              simp only [Act.put, List.setIfInBounds_toArray, List.set_cons_zero, List.set_cons_succ]
              refine wpAnyH_take (i := 28) (oi := ⟨some 110, _, _, _, _, _⟩) (v := .bool true) rfl (by kernel_rfl) (by kernel_rfl) (by kernel_rfl) (fun _ _ _ h => h) (yi_bi rfl (by kernel_rfl) rfl rfl (fun _ => run_eqGuard_agg _ _ _ _ _ _ _ (by kernel_rfl)) (fun _ => ev_eql_yes rfl _)) hS ?_
              simp only [Act.put, List.setIfInBounds_toArray, List.set_cons_zero, List.set_cons_succ]
              refine wpAnyH_take (i := 29) (oi := ⟨some 111, _, _, _, _, _⟩) (v := .bool true) rfl (by kernel_rfl) (by kernel_rfl) (by kernel_rfl) (fun _ _ _ h => h) (yi_pick1 rfl rfl rfl rfl) hS ?_
              simp only [Act.put, List.setIfInBounds_toArray, List.set_cons_zero, List.set_cons_succ]
              refine wpAnyH_take (i := 30) (oi := ⟨some 112, _, _, _, _, _⟩) (v := .bool true) rfl (by kernel_rfl) (by kernel_rfl) (by kernel_rfl) (fun _ _ _ h => h) (yi_mv (Or.inl rfl) rfl rfl) hS ?_
              simp only [Act.put, List.setIfInBounds_toArray, List.set_cons_zero, List.set_cons_succ]
              refine wpAnyH_take (i := 31) (oi := ⟨some 113, _, _, _, _, _⟩) (v := .agg #[.int .i64 n, .int .i64 mk, v]) rfl (by kernel_rfl) (by kernel_rfl) (by kernel_rfl) (fun _ _ _ h => h) (yi_ld0 rfl (by kernel_rfl) rfl (fun w' h => HJ.out.k7.keep h) Try.underlying24 rfl rw_size) hS ?_
              simp only [Act.put, List.setIfInBounds_toArray, List.set_cons_zero, List.set_cons_succ]
              refine wpAnyH_take (i := 32) (oi := ⟨some 114, _, _, _, _, _⟩) (v := .int .i64 rm) rfl (by kernel_rfl) (by kernel_rfl) (by kernel_rfl) (fun _ _ _ h => h) (yi_mv (Or.inl rfl) (by kernel_rfl) rfl) hS ?_
              simp only [Act.put, List.setIfInBounds_toArray, List.set_cons_zero, List.set_cons_succ]
              refine anyH_call (i := 33) (op := ⟨some 115, _, _, _, _, _⟩) (by kernel_rfl) rfl rfl (by kernel_rfl) Try.func14 (by kernel_rfl) rfl (HCK.out _ (HJ.out.lst.keep hS)) rfl (fun w' hb => below_tr hS hb) (fun w' hb hS2 => ?_)
              simp only [Act.put, List.setIfInBounds_toArray, List.set_cons_zero, List.set_cons_succ]
              clear hb
              replace hS := hS2
              clear hS2
              refine wpAnyH_take (i := 34) (oi := ⟨some 116, _, _, _, _, _⟩) (v := .bool true) rfl (by kernel_rfl) (by kernel_rfl) (by kernel_rfl) (fun _ _ _ h => h) (yi_bi rfl (by kernel_rfl) rfl rfl (fun _ => rfl) (fun _ => eql_is rfl)) hS ?_
              simp only [Act.put, List.setIfInBounds_toArray, List.set_cons_zero, List.set_cons_succ]
              refine wpAnyH_take (i := 35) (oi := ⟨some 117, _, _, _, _, _⟩) (v := .bool true) rfl (by kernel_rfl) (by kernel_rfl) (by kernel_rfl) (fun _ _ _ h => h) (yi_pick1 rfl rfl rfl rfl) hS ?_
              simp only [Act.put, List.setIfInBounds_toArray, List.set_cons_zero, List.set_cons_succ]
              refine wpAnyH_take (i := 36) (oi := ⟨some 4, _, _, _, _, _⟩) (v := .bool true) rfl (by kernel_rfl) (by kernel_rfl) (by kernel_rfl) (fun _ _ _ h => h) (yi_mv (Or.inr rfl) rfl rfl) hS ?_
              simp only [Act.put, List.setIfInBounds_toArray, List.set_cons_zero, List.set_cons_succ]
              refine wpAnyH_done (by kernel_rfl) ?_ _
              have HBF := Lib.hid (below_tr HB0.out (HJ.out.rb.below.trans (hS.mono HJ.out.rb.below.size)))
              go_wp2_with fail
              go_ret
              exact ⟨rfl, HBF.out⟩
end Go.Proofs.Ytohkioakipjanaa
