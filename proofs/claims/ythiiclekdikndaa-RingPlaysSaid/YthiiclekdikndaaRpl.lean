/-
  WALKS: law 11: RingPlays.
-/
import Derived.Test.YthiiclekdikndaaRli
import Derived.Test.YthiiclekdikndaaFri
namespace Go.Proofs.Ythiiclekdikndaa
open Go Go.RowKit

def atX (L : List Int) (i : Int) : Int := if 0 ≤ i ∧ i < L.length then L.getD i.toNat 0 else 0
def atB (L : List Int) (i : Int) : Bool := decide (0 ≤ i ∧ i < L.length)
theorem at_in {L : List Int} {i : Nat} (h : i < L.length) : atX L i = L[i] ∧ atB L i = true := by
  have h2 : 0 ≤ (i : Int) ∧ (i : Int) < L.length := ⟨by omega, by omega⟩
  refine ⟨?_, decide_eq_true h2⟩
  unfold atX
  rw [if_pos h2, Int.toNat_natCast, List.getD_eq_getElem?_getD, List.getElem?_eq_getElem h, Option.getD_some]
theorem at_out {L : List Int} {i : Int} (h : i < 0 ∨ L.length ≤ i) : atX L i = 0 ∧ atB L i = false := by
  have h2 : ¬ (0 ≤ i ∧ i < L.length) := by omega
  exact ⟨by unfold atX; rw [if_neg h2], decide_eq_false h2⟩
theorem i_at {g room : Nat} {o : Option Nat} {L : List Int} {lost : Int} {w : World} (h : RgI 56 3 1 ci w g o room L lost) (hr : room ≤ 65536) (i : Int) (h0 : -9223372036854775808 ≤ i) (h1 : i ≤ 9223372036854775807) :
    Calls Try.prog 14 #[.pointer (some ⟨g, 0, none⟩), .int .i64 i] w fun e w' => e = .returned (.tuple #[.int .i64 (atX L i), .bool (atB L i)]) ∧ Below w.heap.size w w' := by
  by_cases hi : i < 0 ∨ L.length ≤ i
  · obtain ⟨e1, e2⟩ := at_out hi
    rw [e1, e2]
    exact i_at_no h hr i hi h0 h1
  · obtain ⟨j, rfl⟩ : ∃ j : Nat, i = j := ⟨i.toNat, by omega⟩
    obtain ⟨e1, e2⟩ := at_in (L := L) (i := j) (by omega)
    rw [e1, e2]
    exact i_at_yes h hr j (by omega)
theorem r_at (room : Nat) (lost : Int) (v : Value) (L : List Int) (i : Int) (hl2 : L.length ≤ 65536) (w : World) (h : Lst 1 ci w v L) :
    Calls Try.prog 13 #[.agg #[.int .i64 room, .int .u64 lost, v], .int .i64 i] w fun e w' => e = .returned (.tuple #[.int .i64 (atX L i), .bool (atB L i)]) ∧ Below w.heap.size w w' := by
  by_cases hi : i < 0 ∨ L.length ≤ i
  · obtain ⟨e1, e2⟩ := at_out hi
    rw [e1, e2]
    exact rat_no room lost v L i hl2 hi w h
  · obtain ⟨j, rfl⟩ : ∃ j : Nat, i = j := ⟨i.toNat, by omega⟩
    have hj : j < L.length := by omega
    obtain ⟨e1, e2⟩ := at_in hj
    rw [e1, e2]
    exact rat_yes room lost v L j _ hl2 hj (List.getElem?_eq_getElem hj) w h
theorem act_zero : (Try.prog.info? 35).map (·.zero) = some (some (.agg #[.int .i64 0, .int .i64 0])) := by kernel_rfl
theorem act_size : (Try.prog.info? 35).map (·.size) = some 2 := by kernel_rfl
theorem act_one (a b : Int) : (#[.int .i64 a, .int .i64 b] : Array Value).all (·.oneCell') = true := by simp [Value.oneCell']
section
variable {P : Program} {ops : Array Oper} {Q : Exit → Act → World → Prop} {md : Region.Mode} {S : World → Prop} {op : Oper} {a : Act}
theorem anyH_callx {ι : Type} {v : ι → Value} {R : ι → World → Prop} {i fuel : Nat} {listed : Array Bool} {w : World} {f : FuncId} {fn : Func} {c : Code} {xs : Array Operand} {ts : Array TypeId} {vals : Array Value} (hrd : Region.ready md ops listed = [i]) (hi : ops[i]? = some op)
    (ho : op.op = .call { callee := .value (.func f), args := xs, argTypes := ts }) (hw : Region.wanted op (yielded ops a.tmps) = true)
    (hf : P.funcs[f]? = some fn) (hname : (fn.name == "runtime.NumGoroutine") = false) (hb : fn.body = some c)
    (hc : Calls P f vals w fun e w' => ∃ x, e = .returned (v x) ∧ R x w') (hx : xs.toList.map a.eval = vals.toList) (hS : ∀ x w', R x w' → S w') (h : ∀ x w', R x w' → S w' → wpAnyH P md ops Q S fuel (listed.setIfInBounds i true) (a.put op.dst (v x)) w') : wpAnyH P md ops Q S (fuel + 1) listed a w := by
  refine anyH_one hrd hi (fun K' hK => ?_)
  rw [if_pos hw]
  have h1 : fn.name ≠ "runtime.NumGoroutine" := by simpa using hname
  have hr : (execOp a.eval op).run P w = .ok (.enter f vals) w := by
    unfold execOp
    have hx' : xs.map a.eval = vals := by
      refine Array.ext' ?_
      rw [Array.toList_map]
      exact hx
    simp [ho, resolve, Act.eval, Deferred.ofValue, invoke, callFunc, hf, h1, hb, Sem.run_bind, ← hx']
  unfold Oper.wp
  rw [hr, Oper.upon_enter]
  refine hc.mono ?_
  rintro e w' ⟨x, rfl, hR⟩
  exact hK _ _ (hS x w' hR) (fun hS' => h x w' hR hS')
end
/-- What holds at a round's head. -/
structure PlJ (w wr : World) (g g9 : Nat) (room : Nat) (o : Option Nat) (L : List Int) (lost : Int) (v : Value) : Prop where
  rb : RgB 56 3 1 ci w wr g o room L lost
  k9 : Blk wr g9 31 #[.int .i64 room, .int .u64 lost, v]
  lst : Lst 1 ci wr v L
  fits : Fits v
  n1 : g9 ≠ g
  n2 : o ≠ some g9
  s1 : v.ownBlock ≠ some g
  s2 : ∀ q, v.ownBlock = some q → o ≠ some q
  s3 : v.ownBlock ≠ some g9
  h9 : w.heap.size ≤ g9
  vlt : ∀ q, v.ownBlock = some q → q < wr.heap.size
section
variable {w wr W : World} {g g9 room : Nat} {o : Option Nat} {L : List Int} {lost : Int} {v : Value}
theorem PlJ.keep (h : PlJ w wr g g9 room o L lost v) (hb : Below wr.heap.size wr W) : PlJ w W g g9 room o L lost v :=
  ⟨h.rb.stay hb, h.k9.keep hb, h.lst.keep hb, h.fits, h.n1, h.n2, h.s1, h.s2, h.s3, h.h9, fun q hq => Nat.lt_of_lt_of_le (h.vlt q hq) hb.size⟩
/-- Another block turns. -/
theorem PlJ.upd {k : Nat} (h : PlJ w wr g g9 room o L lost v) (hu : Upd k wr W) (hk : w.heap.size ≤ k) (h1 : k ≠ g) (h2 : o ≠ some k) (h3 : k ≠ g9) (h4 : v.ownBlock ≠ some k) : PlJ w W g g9 room o L lost v :=
  ⟨⟨h.rb.ri.chg (Chg.upd (o := none) hu) (Ne.symm h1) (by simp) h2 (by simp), upd_below h.rb.below hu hk, h.rb.hg, h.rb.ho⟩, h.k9.upd hu (Ne.symm h3), h.lst.chg (Chg.upd (o := none) hu) h4 (by simp), h.fits, h.n1, h.n2, h.s1, h.s2, h.s3, h.h9, fun q hq => Nat.lt_of_lt_of_le (h.vlt q hq) hu.size⟩
/-- The document's ring is another one. -/
theorem PlJ.ref {L2 : List Int} {lost2 : Int} {v2 : Value} (h : PlJ w wr g g9 room o L lost v) (hu : Upd g9 wr W) (_ : Blk W g9 31 #[.int .i64 room, .int .u64 lost2, v2]) (hl : Lst 1 ci wr v2 L2) (_ : Fits v2) (hq : ∀ q, v2.ownBlock = some q → q ≠ g ∧ o ≠ some q ∧ q ≠ g9 ∧ q < wr.heap.size) :
    RgB 56 3 1 ci w W g o room L lost ∧ Lst 1 ci W v2 L2 :=
  ⟨⟨h.rb.ri.chg (Chg.upd (o := none) hu) (Ne.symm h.n1) (by simp) h.n2 (by simp), upd_below h.rb.below hu h.h9, h.rb.hg, h.rb.ho⟩, hl.chg (Chg.upd (o := none) hu) (fun e => (hq g9 e).2.2.1 rfl) (by simp)⟩
end
/-- The ring's state, and the document's: not yet alike. -/
structure PlM (w wr : World) (g g9 : Nat) (room : Nat) (o : Option Nat) (L L2 : List Int) (lost lost2 : Int) (v : Value) : Prop where
  rb : RgB 56 3 1 ci w wr g o room L lost
  k9 : Blk wr g9 31 #[.int .i64 room, .int .u64 lost2, v]
  lst : Lst 1 ci wr v L2
  fits : Fits v
  n1 : g9 ≠ g
  n2 : o ≠ some g9
  s1 : v.ownBlock ≠ some g
  s2 : ∀ q, v.ownBlock = some q → o ≠ some q
  s3 : v.ownBlock ≠ some g9
  h9 : w.heap.size ≤ g9
  vlt : ∀ q, v.ownBlock = some q → q < wr.heap.size
section
variable {w wr W : World} {g g9 room : Nat} {o : Option Nat} {L L2 : List Int} {lost lost2 : Int} {v : Value}
theorem PlM.to (h : PlM w wr g g9 room o L L lost lost v) : PlJ w wr g g9 room o L lost v := ⟨h.rb, h.k9, h.lst, h.fits, h.n1, h.n2, h.s1, h.s2, h.s3, h.h9, h.vlt⟩
/-- The ring goes on. -/
theorem PlM.step {L' : List Int} {lost' : Int} (h : PlM w wr g g9 room o L L2 lost lost2 v) (hs : ∃ o', RgI 56 3 1 ci W g o' room L' lost' ∧ Chg g o wr W ∧ New wr o o') : ∃ o', PlM w W g g9 room o' L' L2 lost' lost2 v := by
  obtain ⟨o', h1, h2, h3⟩ := hs
  exact ⟨o', ⟨h1, h.rb.below.trans (h2.below h.rb.below.size h.rb.hg h.rb.ho), h.rb.hg, h3.ge h.rb.below.size h.rb.ho⟩, h2.blk h.k9 h.n1 h.n2, h.lst.chg h2 h.s1 h.s2, h.fits, h.n1, h3.ne h.k9.lt h.n2, h.s1, fun q hq => h3.ne (h.vlt q hq) (h.s2 q hq), h.s3, h.h9, fun q hq => Nat.lt_of_lt_of_le (h.vlt q hq) h2.size⟩
/-- The document's ring has gone on. -/
theorem PlJ.mid {v2 : Value} (h : PlJ w wr g g9 room o L lost v) (hu : Upd g9 wr W) (hk : Blk W g9 31 #[.int .i64 room, .int .u64 lost2, v2]) (hl : Lst 1 ci wr v2 L2) (hf : Fits v2) (hq : ∀ q, v2.ownBlock = some q → q ≠ g ∧ o ≠ some q ∧ q ≠ g9 ∧ q < wr.heap.size) : PlM w W g g9 room o L L2 lost lost2 v2 :=
  ⟨(h.ref (lost2 := lost2) hu hk hl hf hq).1, hk, (h.ref (lost2 := lost2) hu hk hl hf hq).2, hf, h.n1, h.n2, fun e => (hq g e).1 rfl, fun q e => (hq q e).2.1, fun e => (hq g9 e).2.2.1 rfl, h.h9, fun q e => Nat.lt_of_lt_of_le (hq q e).2.2.2 hu.size⟩
/-- A clone takes its place. -/
theorem PlJ.clone {g2 : Nat} (h : PlJ w wr g g9 room o L lost v) (hs : (∃ o', RgI 56 3 1 ci W g2 o' room L lost ∧ ∀ q, o' = some q → wr.heap.size ≤ q) ∧ Below wr.heap.size wr W ∧ wr.heap.size ≤ g2) :
    (∃ o', PlJ w W g2 g9 room o' L lost v ∧ o' ≠ some g ∧ (∀ q, o = some q → o' ≠ some q)) ∧ RgI 56 3 1 ci W g o room L lost ∧ g2 ≠ g ∧ o ≠ some g2 := by
  obtain ⟨⟨o', h1, h2⟩, h3, h4⟩ := hs
  have hgl := h.rb.ri.lt
  have hol := h.rb.ri.o_lt
  have h9l := h.k9.lt
  have hsz := h.rb.below.size
  refine ⟨⟨o', ⟨⟨h1, below_tr h.rb.below h3, by omega, fun q hq => by have := h2 q hq; omega⟩, h.k9.keep h3, h.lst.keep h3, h.fits, by omega, fun e => by have := h2 _ e; omega, fun e => by have := h.vlt _ e; omega, fun q hq e => by have := h.vlt q hq; have := h2 q e; omega, h.s3, h.h9, fun q hq => Nat.lt_of_lt_of_le (h.vlt q hq) h3.size⟩, fun e => by have := h2 _ e; omega, fun q hq e => by have := hol q hq; have := h2 q e; omega⟩, h.rb.ri.keep h3, by omega, fun e => by have := hol _ e; omega⟩
/-- Another ring goes on. -/
theorem PlJ.other {g2 : Nat} {o2 : Option Nat} (h : PlJ w wr g g9 room o L lost v) (hc : Chg g2 o2 wr W) (hg2 : w.heap.size ≤ g2) (ho2 : ∀ q, o2 = some q → w.heap.size ≤ q) (h1 : g ≠ g2) (h2 : o2 ≠ some g) (h3 : o ≠ some g2) (h4 : ∀ q, o = some q → o2 ≠ some q) (h5 : g9 ≠ g2) (h6 : o2 ≠ some g9) (h7 : v.ownBlock ≠ some g2) (h8 : ∀ q, v.ownBlock = some q → o2 ≠ some q) : PlJ w W g g9 room o L lost v :=
  ⟨⟨h.rb.ri.chg hc h1 h2 h3 h4, h.rb.below.trans (hc.below h.rb.below.size hg2 ho2), h.rb.hg, h.rb.ho⟩, hc.blk h.k9 h5 h6, h.lst.chg hc h7 h8, h.fits, h.n1, h.n2, h.s1, h.s2, h.s3, h.h9, fun q hq => Nat.lt_of_lt_of_le (h.vlt q hq) hc.size⟩
end
theorem yi_lenL {P : Program} {ops : Array Oper} {op : Oper} {a : Act} {S : World → Prop} {x : Operand} {t e : TypeId} {v : Value} {n : Nat} (ho : op.op = .call { callee := .builtin .len, args := #[x], argTypes := #[t] }) (hw : Region.wanted op (yielded ops a.tmps) = true) (hx : a.eval x = v) (ht : P.underlying t = some (.slice e)) (hv : ∃ ao cap, v = .slice ao n cap) : YieldsIf P ops S op (.int .i64 n) a := by
  refine yi_ok hw fun w => ?_
  unfold execOp
  obtain ⟨ao, cap, rfl⟩ := hv
  cases x <;> simp [Act.eval] at hx <;> simp [ho, hx, Act.eval, resolve, invoke, builtin, Builtin.len_, Sem.run_bind, run_underlying ht, goInt]
set_option maxHeartbeats 4000000 in
set_option maxRecDepth 100000 in
theorem plays_any (room : Int) (hr0 : -9223372036854775808 ≤ room) (hr1 : room ≤ 9223372036854775807) (ao : Option Addr) (cap : Nat) (l : List A2) (at_ : Int) (hat0 : -9223372036854775808 ≤ at_) (hat1 : at_ ≤ 9223372036854775807) (hm : l.length ≤ maxLen) (w : World) (h : Lst 2 c2 w (.slice ao l.length cap) l) (hin : ∀ (i : Nat) (h : i < l.length), In64 l[i].k ∧ In64 l[i].n) :
    Calls Try.prog 3 #[.int .i64 room, (.slice ao l.length cap), .int .i64 at_] w fun e w' => e = .returned (.bool true) ∧ Below w.heap.size w w' := by
  have HL := Lib.hid h
  have HM : Hid (l.length ≤ 9223372036854775807) := Lib.hid (by unfold maxLen at hm; omega)
  have HB := Lib.hid (Below.refl w.heap.size w)
  have HIN := Lib.hid hin
  clear h hm hin
  by_cases hbad : room < 1 ∨ 65536 < room
  · have HBD := Lib.hid hbad
    have hrA := Lib.hid hr0
    have hrB := Lib.hid hr1
    rcases hbad with hb1 | hb1
    · clear hr0 hr1
      go_enter Try.func3, Try.ntmps3
      go_wp2_with (first
        | ((with_reducible refine at_slot 25 ?_); refine wl_call rfl rfl Try.func5 (by kernel_rfl) rfl (lives11 _) rfl ?_; intro V hb; replace HB := Lib.hid (below_tr HB.out hb); clear hb)
        | ((with_reducible refine at_slot 29 ?_); refine wl_call rfl rfl Try.func6 (by kernel_rfl) rfl (i_new_no room HBD.out hrA.out hrB.out _) rfl ?_; intro V hb; replace HB := Lib.hid (below_tr HB.out hb); clear hb)
        | ((with_reducible refine at_slot 34 ?_); refine wl_call rfl rfl Try.func7 (by kernel_rfl) rfl (rnew_lo room (by omega) _) rfl ?_; intro V hb; replace HB := Lib.hid (below_tr HB.out hb); have HB0 := HB; clear hb)
        | ((with_reducible refine at_slot 9 ?_); refine wl_alloc (A := #[.int .i64 0, .int .u64 0, .slice none 0 0]) rfl rfl rf_zero rfl ?_; intro W1 g9 k9 hb hle9; replace HB := Lib.hid (below_tr HB.out hb); have HLE9 := Lib.hid (show w.heap.size ≤ g9 from Nat.le_trans HB0.out.size hle9); clear hb)
        | ((with_reducible refine at_store 9 ?_); refine wl_st0 (A' := #[.int .i64 room, .int .u64 0, .slice none 0 0]) rfl rfl rfl rfl k9 rfl rf_size (rf_one _ _ _ rfl) ?_; intro W2 kn hu; replace HB := Lib.hid (upd_below HB.out hu HLE9.out); clear k9; have k9 := kn; clear kn hu))
      go_ret
      exact ⟨rfl, HB.out⟩
    · clear hr0 hr1
      go_enter Try.func3, Try.ntmps3
      go_wp2_with (first
        | ((with_reducible refine at_slot 25 ?_); refine wl_call rfl rfl Try.func5 (by kernel_rfl) rfl (lives11 _) rfl ?_; intro V hb; replace HB := Lib.hid (below_tr HB.out hb); clear hb)
        | ((with_reducible refine at_slot 29 ?_); refine wl_call rfl rfl Try.func6 (by kernel_rfl) rfl (i_new_no room HBD.out hrA.out hrB.out _) rfl ?_; intro V hb; replace HB := Lib.hid (below_tr HB.out hb); clear hb)
        | ((with_reducible refine at_slot 34 ?_); refine wl_call rfl rfl Try.func7 (by kernel_rfl) rfl (rnew_hi room (by omega) _) rfl ?_; intro V hb; replace HB := Lib.hid (below_tr HB.out hb); have HB0 := HB; clear hb)
        | ((with_reducible refine at_slot 9 ?_); refine wl_alloc (A := #[.int .i64 0, .int .u64 0, .slice none 0 0]) rfl rfl rf_zero rfl ?_; intro W1 g9 k9 hb hle9; replace HB := Lib.hid (below_tr HB.out hb); have HLE9 := Lib.hid (show w.heap.size ≤ g9 from Nat.le_trans HB0.out.size hle9); clear hb)
        | ((with_reducible refine at_store 9 ?_); refine wl_st0 (A' := #[.int .i64 room, .int .u64 0, .slice none 0 0]) rfl rfl rfl rfl k9 rfl rf_size (rf_one _ _ _ rfl) ?_; intro W2 kn hu; replace HB := Lib.hid (upd_below HB.out hu HLE9.out); clear k9; have k9 := kn; clear kn hu))
      go_ret
      exact ⟨rfl, HB.out⟩
  · obtain ⟨rm, rfl⟩ : ∃ rm : Nat, room = rm := ⟨room.toNat, by omega⟩
    have hrm1 : 1 ≤ rm := by omega
    have hrm2 : rm ≤ 65536 := by omega
    clear hbad hr0 hr1
    by_cases hbig : 200 < l.length
    · have hbi : (200 : Int) < l.length := by omega
      clear hbig
      go_enter Try.func3, Try.ntmps3
      go_wp2_with (first
        | ((with_reducible refine at_slot 25 ?_); refine wl_call rfl rfl Try.func5 (by kernel_rfl) rfl (lives11 _) rfl ?_; intro V hb; replace HB := Lib.hid (below_tr HB.out hb); clear hb)
        | ((with_reducible refine at_slot 29 ?_); refine wl_callx rfl rfl Try.func6 (by kernel_rfl) rfl (i_new rm hrm1 hrm2 _) rfl ?_; intro gO V hR; have HRB : Hid (RgB 56 3 1 ci w _ gO none rm [] 0) := Lib.hid ⟨hR.1, below_tr HB.out hR.2.1, Nat.le_trans HB.out.size hR.2.2, fun q hq => by cases hq⟩; clear hR HB)
        | ((with_reducible refine at_slot 34 ?_); refine wl_call rfl rfl Try.func7 (by kernel_rfl) rfl (rnew_yes rm (by omega) (by omega) _) rfl ?_; intro V2 hb; replace HRB := Lib.hid (HRB.out.stay hb); clear hb)
        | ((with_reducible refine at_slot 9 ?_); refine wl_alloc (A := #[.int .i64 0, .int .u64 0, .slice none 0 0]) rfl rfl rf_zero rfl ?_; intro W1 g9 k9 hb hle9; have HLE9 := Lib.hid (show w.heap.size ≤ g9 ∧ g9 ≠ gO from ⟨Nat.le_trans HRB.out.below.size hle9, by have := HRB.out.ri.lt; omega⟩); replace HRB := Lib.hid (HRB.out.stay hb); clear hb)
        | ((with_reducible refine at_store 9 ?_); refine wl_st0 (A' := #[.int .i64 rm, .int .u64 0, .slice none 0 0]) rfl rfl rfl rfl k9 rfl rf_size (rf_one _ _ _ rfl) ?_; intro W2 kn hu; have HRB2 : Hid (RgB 56 3 1 ci w _ gO none rm [] 0) := Lib.hid ⟨HRB.out.ri.chg (Chg.upd (o := none) hu) (Ne.symm HLE9.out.2) (by simp) (by simp) (by simp), upd_below HRB.out.below hu HLE9.out.1, HRB.out.hg, HRB.out.ho⟩; clear k9 HRB; have k9 := kn; clear kn hu))
      go_ret
      exact ⟨rfl, HRB2.out.below⟩
    · have hl5 : (l.length : Int) ≤ 200 := by omega
      have HBG := Lib.hid (show l.length ≤ 200 by omega)
      clear hbig
      go_enter Try.func3, Try.ntmps3
      go_wp2_with (first
        | ((with_reducible refine at_slot 25 ?_); refine wl_call rfl rfl Try.func5 (by kernel_rfl) rfl (lives11 _) rfl ?_; intro V hb; replace HB := Lib.hid (below_tr HB.out hb); clear hb)
        | ((with_reducible refine at_slot 29 ?_); refine wl_callx rfl rfl Try.func6 (by kernel_rfl) rfl (i_new rm hrm1 hrm2 _) rfl ?_; intro gO V hR; have HRB : Hid (RgB 56 3 1 ci w _ gO none rm [] 0) := Lib.hid ⟨hR.1, below_tr HB.out hR.2.1, Nat.le_trans HB.out.size hR.2.2, fun q hq => by cases hq⟩; clear hR HB)
        | ((with_reducible refine at_slot 34 ?_); refine wl_call rfl rfl Try.func7 (by kernel_rfl) rfl (rnew_yes rm (by omega) (by omega) _) rfl ?_; intro V2 hb; replace HRB := Lib.hid (HRB.out.stay hb); clear hb)
        | ((with_reducible refine at_slot 9 ?_); refine wl_alloc (A := #[.int .i64 0, .int .u64 0, .slice none 0 0]) rfl rfl rf_zero rfl ?_; intro W1 g9 k9 hb hle9; have HLE9 := Lib.hid (show w.heap.size ≤ g9 ∧ g9 ≠ gO from ⟨Nat.le_trans HRB.out.below.size hle9, by have := HRB.out.ri.lt; omega⟩); replace HRB := Lib.hid (HRB.out.stay hb); clear hb)
        | ((with_reducible refine at_store 9 ?_); refine wl_st0 (A' := #[.int .i64 rm, .int .u64 0, .slice none 0 0]) rfl rfl rfl rfl k9 rfl rf_size (rf_one _ _ _ rfl) ?_; intro W2 kn hu; have HRB2 : Hid (RgB 56 3 1 ci w _ gO none rm [] 0) := Lib.hid ⟨HRB.out.ri.chg (Chg.upd (o := none) hu) (Ne.symm HLE9.out.2) (by simp) (by simp) (by simp), upd_below HRB.out.below hu HLE9.out.1, HRB.out.hg, HRB.out.ho⟩; clear k9 HRB; have k9 := kn; clear kn hu))
      have HJ : Hid (PlJ w _ gO g9 rm none [] 0 (.slice none 0 0)) := Lib.hid ⟨HRB2.out, k9, .nil _ _ _, ⟨_, _, _, rfl, Nat.le_refl _⟩, HLE9.out.2, by simp, by simp [Value.ownBlock], by simp [Value.ownBlock], by simp [Value.ownBlock], HLE9.out.1, by simp [Value.ownBlock]⟩
      clear HRB2 k9 HLE9
      go_loopw [7, 60] (fun r i wr => ∃ (k : Nat) (g : Nat) (o : Option Nat) (L : List Int) (lost : Int) (v : Value), PlJ w wr g g9 rm o L lost v ∧ r = .pointer (some ⟨g, 0, none⟩) ∧ i = .int .i64 (k : Nat) ∧ k ≤ l.length) (fun _ i _ => l.length - (intOf i).toNat)
      case atStart => exact ⟨0, gO, none, [], 0, _, HJ.out, rfl, rfl, Nat.zero_le _⟩
      case round =>
        clear HJ
        obtain ⟨k, g, o, L, lost, v, hJ, rfl, rfl, hk⟩ := hrel
        have HJ := Lib.hid hJ
        clear hJ
        by_cases hlt : k < l.length
        · have HJ0 := HJ
          have hle := HJ.out.rb.ri.le.1
          have hL16 : L.length ≤ 65536 := by omega
          have hgx : l[k]? = some l[k] := List.getElem?_eq_getElem hlt
          have HIK := Lib.hid (HIN.out k hlt)
          generalize l[k] = a at hgx HIK
          obtain ⟨ak, an⟩ := a
          have HAN := Lib.hid (show In64 an from HIK.out.2)
          obtain ⟨ao2, b, off, cap2, hv2, h1, h2⟩ := HL.out.ex
          obtain ⟨rfl, hq1⟩ := h1 (by omega)
          obtain ⟨rfl, rfl⟩ : ao = some ⟨b, off, none⟩ ∧ cap = cap2 := by simpa using hv2
          have hks : ∀ W : World, Below w.heap.size w W → W.rangeAt b (off + k * 2) (#[.int .i64 ak, .int .i64 an] : Array Value).toList := fun W hb => range_keep (h2 k ⟨ak, an⟩ hgx) (hb.block b hq1)
          have KX := Lib.hid (hks _ HJ.out.rb.below)
          have HMM := HM.out
          clear hv2 h1 h2 hks hgx HIK
          by_cases hk0 : ak = 0
          · subst hk0
            by_cases hf : L.length = rm
            · have HFU := Lib.hid hf
              obtain ⟨x0, hx0⟩ : ∃ x0, L[0]? = some x0 := ⟨L[0]'(by omega), List.getElem?_eq_getElem (by omega)⟩
              have HX0 := Lib.hid hx0
              have HX1 : Hid (x0 = L.headD 0) := Lib.hid (by cases L with | nil => simp at hx0 | cons a r => simpa using hx0.symm)
              clear hf hx0
              go_upto_region 30 with (first
                | ((with_reducible refine at_slot 62 ?_); refine wl_ixo rfl rfl rfl rfl Try.underlying22 rfl hlt HMM ?_)
                | ((with_reducible refine at_slot 63 ?_); refine wl_ldr (B := #[.int .i64 0, .int .i64 an]) rfl rfl rfl KX.out Try.underlying35 rfl act_size ?_)
                | ((with_reducible refine at_slot 12 ?_); refine wl_alloc (A := #[.int .i64 0, .int .i64 0]) rfl rfl act_zero rfl ?_; intro W1 g12 k12 hb hle; replace HJ := Lib.hid (HJ.out.keep hb); have HG12 := Lib.hid (show g12 ≠ g ∧ o ≠ some g12 ∧ g12 ≠ g9 ∧ v.ownBlock ≠ some g12 ∧ w.heap.size ≤ g12 from ⟨by have := HJ0.out.rb.ri.lt; omega, fun e => by have := HJ0.out.rb.ri.o_lt _ e; omega, by have := HJ0.out.k9.lt; omega, fun e => by have := HJ0.out.vlt _ e; omega, by have := HJ0.out.rb.below.size; omega⟩); clear hb hle)
                | ((with_reducible refine at_store 12 ?_); refine wl_st0 (A' := #[.int .i64 0, .int .i64 an]) rfl rfl rfl rfl k12 rfl act_size (act_one _ _) ?_; intro W2 kn hu; replace HJ := Lib.hid (HJ.out.upd hu HG12.out.2.2.2.2 HG12.out.1 HG12.out.2.1 HG12.out.2.2.1 HG12.out.2.2.2.1); clear k12; have k12 := kn; clear kn hu)
                | ((with_reducible refine at_slot 65 ?_); refine wl_ld1 (v := .int .i64 0) rfl rfl rfl k12 Try.underlying3 rfl rfl ?_)
                | ((with_reducible refine at_slot 69 ?_); refine wl_ld0 rfl rfl rfl HJ.out.k9 Try.underlying31 rfl rf_size ?_)
                | ((with_reducible refine at_slot 71 ?_); refine wl_ld1 (v := .int .i64 an) rfl rfl rfl k12 Try.underlying3 rfl rfl ?_)
                | ((with_reducible refine at_slot 72 ?_); refine wl_callx rfl rfl Try.func8 (by kernel_rfl) rfl (rput_yes rm lost v L an x0 HFU.out hrm2 HX0.out _ HJ.out.lst) rfl ?_; intro v2 V hR; have HV := Lib.hid (show Lst 1 ci V v2 (L.tail ++ [an]) ∧ Fits v2 ∧ (∀ q, v2.ownBlock = some q → q ≠ g ∧ o ≠ some q ∧ q ≠ g9) ∧ v2.oneCell' = true from ⟨hR.1.1, hR.1.2.1, fun q hq => by have h1 := (hR.1.2.2 q hq).1; have h2 := HJ.out.rb.ri.lt; have h3 := HJ.out.k9.lt; exact ⟨by omega, fun e => by have := HJ.out.rb.ri.o_lt q e; omega, by omega⟩, (by obtain ⟨_, _, _, e, _⟩ := hR.1.2.1; exact (sl_one ⟨_, _, _, e⟩).1)⟩); have HVLT := Lib.hid (fun q (hq : v2.ownBlock = some q) => show q < V.heap.size from (hR.1.2.2 q hq).2); replace HJ := Lib.hid (HJ.out.keep hR.2); replace k12 := k12.keep hR.2; clear hR)
                | ((with_reducible refine at_slot 13 ?_); refine wl_alloc (A := #[.int .i64 0, .int .u64 0, .slice none 0 0]) rfl rfl rf_zero rfl ?_; intro W3 g13 k13 hb hle; have HG13 := Lib.hid (show g13 ≠ g ∧ o ≠ some g13 ∧ g13 ≠ g9 ∧ v.ownBlock ≠ some g13 ∧ w.heap.size ≤ g13 ∧ g12 ≠ g13 ∧ (∀ q, v2.ownBlock = some q → q < g13) from ⟨by have := HJ.out.rb.ri.lt; omega, fun e => by have := HJ.out.rb.ri.o_lt _ e; omega, by have := HJ.out.k9.lt; omega, fun e => by have := HJ.out.vlt _ e; omega, by have := HJ.out.rb.below.size; omega, by have := k12.lt; omega, fun q hq => by have := HVLT.out q hq; omega⟩); replace HJ := Lib.hid (HJ.out.keep hb); replace k12 := k12.keep hb; have HV2 := Lib.hid (HV.out.1.keep hb); clear hb hle)
                | ((with_reducible refine at_store 13 ?_); refine wl_st0 (A' := #[.int .i64 rm, .int .u64 (IntKind.u64.wrap (lost + 1)), v2]) rfl rfl rfl rfl k13 rfl rf_size (rf_one _ _ _ HV.out.2.2.2) ?_; intro W4 kn hu; replace HJ := Lib.hid (HJ.out.upd hu HG13.out.2.2.2.2.1 HG13.out.1 HG13.out.2.1 HG13.out.2.2.1 HG13.out.2.2.2.1); replace k12 := k12.upd hu HG13.out.2.2.2.2.2.1; have HV3 := Lib.hid (HV2.out.chg (Chg.upd (o := none) hu) (fun e => by have := HG13.out.2.2.2.2.2.2 _ e; omega) (by simp)); clear k13; have k13 := kn; clear kn hu)
                | ((with_reducible refine at_slot 76 ?_); refine wl_ld0 rfl rfl rfl k13 Try.underlying31 rfl rf_size ?_)
                | ((with_reducible refine at_store 9 ?_); refine wl_st0 (A' := #[.int .i64 rm, .int .u64 (IntKind.u64.wrap (lost + 1)), v2]) rfl rfl rfl rfl HJ.out.k9 rfl rf_size (rf_one _ _ _ HV.out.2.2.2) ?_; intro W5 kn hu; have HM := Lib.hid (HJ.out.mid hu kn HV3.out HV.out.2.1 (fun q hq => ⟨(HV.out.2.2.1 q hq).1, (HV.out.2.2.1 q hq).2.1, (HV.out.2.2.1 q hq).2.2, by have := HG13.out.2.2.2.2.2.2 q hq; have := k13.lt; omega⟩)); replace k12 := k12.upd hu HG12.out.2.2.1; clear kn hu HJ k13)
                | ((with_reducible refine at_slot 80 ?_); refine wl_ld1 (v := .int .i64 an) rfl rfl rfl k12 Try.underlying3 rfl rfl ?_)
                | ((with_reducible refine at_slot 81 ?_); refine wl_call rfl rfl Try.func9 (by kernel_rfl) rfl (by have := i_put HM.out.rb.ri hrm2 an; rw [putB_yes HFU.out, putX_yes HFU.out, putL_yes HFU.out, putN_yes HFU.out, ← HX1.out] at this; exact this) rfl ?_; intro V6 hR; have hM2 := HM.out.step hR; clear HM hR; obtain ⟨o3, hM3⟩ := hM2; have HJ := Lib.hid hM3.to; clear hM3))
              obtain ⟨X, hX⟩ : ∃ X, X = atX (L.tail ++ [an]) at_ := ⟨_, rfl⟩
              obtain ⟨Bv, hBv⟩ : ∃ Bv, Bv = atB (L.tail ++ [an]) at_ := ⟨_, rfl⟩
              have hL16 : (L.tail ++ [an]).length ≤ 65536 := Nat.le_trans HJ.out.rb.ri.le.1 hrm2
              have HAT1 := fun W (hb : Below _ _ W) => r_at rm (IntKind.u64.wrap (lost + 1)) v2 (L.tail ++ [an]) at_ hL16 W (HJ.out.lst.keep hb)
              have HAT2 := fun W (hb : Below _ _ W) => i_at (HJ.out.rb.ri.keep hb) hrm2 at_ hat0 hat1
              rw [← hX, ← hBv] at HAT1 HAT2
              replace HAT1 := Lib.hid HAT1
              replace HAT2 := Lib.hid HAT2
              clear hX hBv
              go_upto_region 32 with (first
                | ((with_reducible refine at_slot 120 ?_); refine wl_ld0 rfl rfl rfl HJ.out.k9 Try.underlying31 rfl rf_size ?_)
                | ((with_reducible refine at_slot 122 ?_); refine wl_call rfl rfl Try.func13 (by kernel_rfl) rfl (HAT1.out _ (Below.refl _ _)) rfl ?_; intro V hb; have HBA := Lib.hid hb; clear hb)
                | ((with_reducible refine at_slot 128 ?_); refine wl_call rfl rfl Try.func14 (by kernel_rfl) rfl (HAT2.out _ HBA.out) rfl ?_; intro V2 hb; replace HJ := Lib.hid (HJ.out.keep (below_tr HBA.out hb)); clear hb HBA HAT1 HAT2))
              refine wp_region_held_drew (S := fun w' => Below V2.heap.size V2 w') (by kernel_rfl) (Below.refl _ _).drew (fun hS => ?_)
              refine wpAnyH_take (i := 0) (oi := ⟨some 131, _, _, _, _, _⟩) (v := .int .i64 X) rfl (by kernel_rfl) (by kernel_rfl) (by kernel_rfl) (fun _ _ _ h => h) (yi_mv (Or.inl rfl) rfl rfl) hS ?_
              simp only [Act.put, List.setIfInBounds_toArray, List.set_cons_zero, List.set_cons_succ]
              refine wpAnyH_take (i := 1) (oi := ⟨some 132, _, _, _, _, _⟩) (v := .int .i64 X) rfl (by kernel_rfl) (by kernel_rfl) (by kernel_rfl) (fun _ _ _ h => h) (yi_mv (Or.inl rfl) rfl rfl) hS ?_
              simp only [Act.put, List.setIfInBounds_toArray, List.set_cons_zero, List.set_cons_succ]
              refine wpAnyH_take (i := 2) (oi := ⟨some 133, _, _, _, _, _⟩) (v := .bool false) rfl (by kernel_rfl) (by kernel_rfl) (by kernel_rfl) (fun _ _ _ h => h) (yi_ok rfl (fun _ => by go_simp)) hS ?_
              simp only [Act.put, List.setIfInBounds_toArray, List.set_cons_zero, List.set_cons_succ]
              refine wpAnyH_take (i := 3) (oi := ⟨some 134, _, _, _, _, _⟩) (v := .bool false) rfl (by kernel_rfl) (by kernel_rfl) (by kernel_rfl) (fun _ _ _ h => h) (yi_mv (Or.inl rfl) rfl rfl) hS ?_
              simp only [Act.put, List.setIfInBounds_toArray, List.set_cons_zero, List.set_cons_succ]
              refine wpAnyH_take (i := 4) (oi := ⟨some 135, _, _, _, _, _⟩) (v := .bool Bv) rfl (by kernel_rfl) (by kernel_rfl) (by kernel_rfl) (fun _ _ _ h => h) (yi_mv (Or.inl rfl) (by kernel_rfl) rfl) hS ?_
              simp only [Act.put, List.setIfInBounds_toArray, List.set_cons_zero, List.set_cons_succ]
              refine wpAnyH_take (i := 5) (oi := ⟨some 136, _, _, _, _, _⟩) (v := .bool Bv) rfl (by kernel_rfl) (by kernel_rfl) (by kernel_rfl) (fun _ _ _ h => h) (yi_mv (Or.inl rfl) (by kernel_rfl) rfl) hS ?_
              simp only [Act.put, List.setIfInBounds_toArray, List.set_cons_zero, List.set_cons_succ]
              refine wpAnyH_take (i := 6) (oi := ⟨some 137, _, _, _, _, _⟩) (v := .bool false) rfl (by kernel_rfl) (by kernel_rfl) (by kernel_rfl) (fun _ _ _ h => h) (yi_ok (by kernel_rfl) (fun _ => by go_simp)) hS ?_
              simp only [Act.put, List.setIfInBounds_toArray, List.set_cons_zero, List.set_cons_succ]
              refine wpAnyH_take (i := 7) (oi := ⟨some 138, _, _, _, _, _⟩) (v := .bool false) rfl (by kernel_rfl) (by kernel_rfl) (by kernel_rfl) (fun _ _ _ h => h) (yi_pick0 rfl rfl rfl rfl) hS ?_
              simp only [Act.put, List.setIfInBounds_toArray, List.set_cons_zero, List.set_cons_succ]
              refine wpAnyH_take (i := 8) (oi := ⟨some 139, _, _, _, _, _⟩) (v := .bool false) rfl (by kernel_rfl) (by kernel_rfl) (by kernel_rfl) (fun _ _ _ h => h) (yi_mv (Or.inl rfl) rfl rfl) hS ?_
              simp only [Act.put, List.setIfInBounds_toArray, List.set_cons_zero, List.set_cons_succ]
              refine wpAnyH_take (i := 9) (oi := ⟨some 140, _, _, _, _, _⟩) (v := .pointer (some ⟨g, 0, none⟩)) rfl (by kernel_rfl) (by kernel_rfl) (by kernel_rfl) (fun _ _ _ h => h) (yi_mv (Or.inl rfl) (by kernel_rfl) rfl) hS ?_
              simp only [Act.put, List.setIfInBounds_toArray, List.set_cons_zero, List.set_cons_succ]
              refine wpAnyH_take (i := 11) (oi := ⟨some 142, _, _, _, _, _⟩) (v := .pointer (some ⟨g9, 2, none⟩)) rfl (by kernel_rfl) (by kernel_rfl) (by kernel_rfl) (fun _ _ _ h => h) (yi_ok (by kernel_rfl) (fun _ => by go_simp)) hS ?_
              simp only [Act.put, List.setIfInBounds_toArray, List.set_cons_zero, List.set_cons_succ]
              refine wpAnyH_take (i := 12) (oi := ⟨some 143, _, _, _, _, _⟩) (v := v2) rfl (by kernel_rfl) (by kernel_rfl) (by kernel_rfl) (fun _ _ _ h => h) (yi_ld1 (v := v2) rfl (by kernel_rfl) rfl (fun w' h => HJ.out.k9.keep h) Try.underlying29 rfl rfl) hS ?_
              simp only [Act.put, List.setIfInBounds_toArray, List.set_cons_zero, List.set_cons_succ]
              refine wpAnyH_take (i := 13) (oi := ⟨some 144, _, _, _, _, _⟩) (v := .int .i64 (L.tail ++ [an]).length) rfl (by kernel_rfl) (by kernel_rfl) (by kernel_rfl) (fun _ _ _ h => h) (yi_lenL rfl (by kernel_rfl) rfl Try.underlying29 HJ.out.lst.sl) hS ?_
              simp only [Act.put, List.setIfInBounds_toArray, List.set_cons_zero, List.set_cons_succ]
              refine anyH_call (i := 10) (op := ⟨some 141, _, _, _, _, _⟩) (by kernel_rfl) rfl rfl (by kernel_rfl) Try.func15 (by kernel_rfl) rfl (i_len (HJ.out.rb.ri.keep hS)) rfl (fun w' hb => below_tr hS hb) (fun w' hb hS2 => ?_)
              simp only [Act.put, List.setIfInBounds_toArray, List.set_cons_zero, List.set_cons_succ]
              clear hb
              replace hS := hS2
              clear hS2
              refine wpAnyH_take (i := 14) (oi := ⟨some 145, _, _, _, _, _⟩) (v := .bool false) rfl (by kernel_rfl) (by kernel_rfl) (by kernel_rfl) (fun _ _ _ h => h) (yi_ok (by kernel_rfl) (fun _ => by go_simp)) hS ?_
              simp only [Act.put, List.setIfInBounds_toArray, List.set_cons_zero, List.set_cons_succ]
              refine wpAnyH_take (i := 15) (oi := ⟨some 146, _, _, _, _, _⟩) (v := .bool false) rfl (by kernel_rfl) (by kernel_rfl) (by kernel_rfl) (fun _ _ _ h => h) (yi_pick0 rfl rfl rfl rfl) hS ?_
              simp only [Act.put, List.setIfInBounds_toArray, List.set_cons_zero, List.set_cons_succ]
              refine wpAnyH_take (i := 16) (oi := ⟨some 147, _, _, _, _, _⟩) (v := .bool false) rfl (by kernel_rfl) (by kernel_rfl) (by kernel_rfl) (fun _ _ _ h => h) (yi_mv (Or.inl rfl) rfl rfl) hS ?_
              simp only [Act.put, List.setIfInBounds_toArray, List.set_cons_zero, List.set_cons_succ]
              refine wpAnyH_take (i := 17) (oi := ⟨some 148, _, _, _, _, _⟩) (v := .pointer (some ⟨g, 0, none⟩)) rfl (by kernel_rfl) (by kernel_rfl) (by kernel_rfl) (fun _ _ _ h => h) (yi_mv (Or.inl rfl) (by kernel_rfl) rfl) hS ?_
              simp only [Act.put, List.setIfInBounds_toArray, List.set_cons_zero, List.set_cons_succ]
              refine wpAnyH_take (i := 19) (oi := ⟨some 150, _, _, _, _, _⟩) (v := .pointer (some ⟨g9, 1, none⟩)) rfl (by kernel_rfl) (by kernel_rfl) (by kernel_rfl) (fun _ _ _ h => h) (yi_ok (by kernel_rfl) (fun _ => by go_simp)) hS ?_
              simp only [Act.put, List.setIfInBounds_toArray, List.set_cons_zero, List.set_cons_succ]
              refine wpAnyH_take (i := 20) (oi := ⟨some 151, _, _, _, _, _⟩) (v := .int .u64 (IntKind.u64.wrap (lost + 1))) rfl (by kernel_rfl) (by kernel_rfl) (by kernel_rfl) (fun _ _ _ h => h) (yi_ld1 (v := .int .u64 (IntKind.u64.wrap (lost + 1))) rfl (by kernel_rfl) rfl (fun w' h => HJ.out.k9.keep h) Try.underlying28 rfl rfl) hS ?_
              simp only [Act.put, List.setIfInBounds_toArray, List.set_cons_zero, List.set_cons_succ]
              refine anyH_call (i := 18) (op := ⟨some 149, _, _, _, _, _⟩) (by kernel_rfl) rfl rfl (by kernel_rfl) Try.func16 (by kernel_rfl) rfl (i_lost (HJ.out.rb.ri.keep hS)) rfl (fun w' hb => below_tr hS hb) (fun w' hb hS2 => ?_)
              simp only [Act.put, List.setIfInBounds_toArray, List.set_cons_zero, List.set_cons_succ]
              clear hb
              replace hS := hS2
              clear hS2
              refine wpAnyH_take (i := 21) (oi := ⟨some 152, _, _, _, _, _⟩) (v := .bool false) rfl (by kernel_rfl) (by kernel_rfl) (by kernel_rfl) (fun _ _ _ h => h) (yi_ok (by kernel_rfl) (fun _ => by go_simp)) hS ?_
              simp only [Act.put, List.setIfInBounds_toArray, List.set_cons_zero, List.set_cons_succ]
              refine wpAnyH_take (i := 22) (oi := ⟨some 153, _, _, _, _, _⟩) (v := .bool false) rfl (by kernel_rfl) (by kernel_rfl) (by kernel_rfl) (fun _ _ _ h => h) (yi_pick0 rfl rfl rfl rfl) hS ?_
              simp only [Act.put, List.setIfInBounds_toArray, List.set_cons_zero, List.set_cons_succ]
              refine wpAnyH_take (i := 23) (oi := ⟨some 154, _, _, _, _, _⟩) (v := .bool false) rfl (by kernel_rfl) (by kernel_rfl) (by kernel_rfl) (fun _ _ _ h => h) (yi_mv (Or.inl rfl) rfl rfl) hS ?_
              simp only [Act.put, List.setIfInBounds_toArray, List.set_cons_zero, List.set_cons_succ]
              refine wpAnyH_take (i := 24) (oi := ⟨some 155, _, _, _, _, _⟩) (v := .pointer (some ⟨g, 0, none⟩)) rfl (by kernel_rfl) (by kernel_rfl) (by kernel_rfl) (fun _ _ _ h => h) (yi_mv (Or.inl rfl) (by kernel_rfl) rfl) hS ?_
              simp only [Act.put, List.setIfInBounds_toArray, List.set_cons_zero, List.set_cons_succ]
              refine wpAnyH_take (i := 26) (oi := ⟨some 157, _, _, _, _, _⟩) (v := .pointer (some ⟨g9, 2, none⟩)) rfl (by kernel_rfl) (by kernel_rfl) (by kernel_rfl) (fun _ _ _ h => h) (yi_ok (by kernel_rfl) (fun _ => by go_simp)) hS ?_
              simp only [Act.put, List.setIfInBounds_toArray, List.set_cons_zero, List.set_cons_succ]
              refine wpAnyH_take (i := 27) (oi := ⟨some 158, _, _, _, _, _⟩) (v := v2) rfl (by kernel_rfl) (by kernel_rfl) (by kernel_rfl) (fun _ _ _ h => h) (yi_ld1 (v := v2) rfl (by kernel_rfl) rfl (fun w' h => HJ.out.k9.keep h) Try.underlying29 rfl rfl) hS ?_
              simp only [Act.put, List.setIfInBounds_toArray, List.set_cons_zero, List.set_cons_succ]
              refine anyH_callx (i := 25) (op := ⟨some 156, _, _, _, _, _⟩) (by kernel_rfl) rfl rfl (by kernel_rfl) Try.func18 (by kernel_rfl) rfl (i_all (HJ.out.rb.ri.keep hS) hrm2) rfl (fun x w' hR => below_tr hS hR.2) (fun v8 w' hR hS2 => ?_)
              simp only [Act.put, List.setIfInBounds_toArray, List.set_cons_zero, List.set_cons_succ]
              have HL8 := Lib.hid (own_lst (xs := (L.tail ++ [an])) ci_len hR.1 rfl)
              clear hR
              replace hS := hS2
              clear hS2
              refine anyH_call (i := 28) (op := ⟨some 159, _, _, _, _, _⟩) (by kernel_rfl) rfl rfl (by kernel_rfl) Try.func17 (by kernel_rfl) rfl (same_yes v8 v2 (L.tail ++ [an]) (by omega) _ HL8.out (HJ.out.lst.keep hS)) rfl (fun w' hb => below_tr hS hb) (fun w' hb hS2 => ?_)
              simp only [Act.put, List.setIfInBounds_toArray, List.set_cons_zero, List.set_cons_succ]
              clear hb
              replace hS := hS2
              clear hS2
              refine wpAnyH_take (i := 29) (oi := ⟨some 160, _, _, _, _, _⟩) (v := .bool false) rfl (by kernel_rfl) (by kernel_rfl) (by kernel_rfl) (fun _ _ _ h => h) (yi_not rfl (by kernel_rfl) rfl rfl) hS ?_
              simp only [Act.put, List.setIfInBounds_toArray, List.set_cons_zero, List.set_cons_succ]
              refine wpAnyH_take (i := 30) (oi := ⟨some 161, _, _, _, _, _⟩) (v := .bool false) rfl (by kernel_rfl) (by kernel_rfl) (by kernel_rfl) (fun _ _ _ h => h) (yi_pick0 rfl rfl rfl rfl) hS ?_
              simp only [Act.put, List.setIfInBounds_toArray, List.set_cons_zero, List.set_cons_succ]
              refine wpAnyH_done (by kernel_rfl) ?_ _
              replace HJ := Lib.hid (HJ.out.keep hS)
              clear hS
              go_wp2_with fail
              go_roundw
              case rel => exact ⟨k + 1, _, _, _, _, _, HJ.out, rfl, by go_num, hlt⟩
              case measure => simp [intOf]; omega
            · have hnf : L.length < rm := by omega
              clear hf
              go_upto_region 30 with (first
                | ((with_reducible refine at_slot 62 ?_); refine wl_ixo rfl rfl rfl rfl Try.underlying22 rfl hlt HMM ?_)
                | ((with_reducible refine at_slot 63 ?_); refine wl_ldr (B := #[.int .i64 0, .int .i64 an]) rfl rfl rfl KX.out Try.underlying35 rfl act_size ?_)
                | ((with_reducible refine at_slot 12 ?_); refine wl_alloc (A := #[.int .i64 0, .int .i64 0]) rfl rfl act_zero rfl ?_; intro W1 g12 k12 hb hle; replace HJ := Lib.hid (HJ.out.keep hb); have HG12 := Lib.hid (show g12 ≠ g ∧ o ≠ some g12 ∧ g12 ≠ g9 ∧ v.ownBlock ≠ some g12 ∧ w.heap.size ≤ g12 from ⟨by have := HJ0.out.rb.ri.lt; omega, fun e => by have := HJ0.out.rb.ri.o_lt _ e; omega, by have := HJ0.out.k9.lt; omega, fun e => by have := HJ0.out.vlt _ e; omega, by have := HJ0.out.rb.below.size; omega⟩); clear hb hle)
                | ((with_reducible refine at_store 12 ?_); refine wl_st0 (A' := #[.int .i64 0, .int .i64 an]) rfl rfl rfl rfl k12 rfl act_size (act_one _ _) ?_; intro W2 kn hu; replace HJ := Lib.hid (HJ.out.upd hu HG12.out.2.2.2.2 HG12.out.1 HG12.out.2.1 HG12.out.2.2.1 HG12.out.2.2.2.1); clear k12; have k12 := kn; clear kn hu)
                | ((with_reducible refine at_slot 65 ?_); refine wl_ld1 (v := .int .i64 0) rfl rfl rfl k12 Try.underlying3 rfl rfl ?_)
                | ((with_reducible refine at_slot 69 ?_); refine wl_ld0 rfl rfl rfl HJ.out.k9 Try.underlying31 rfl rf_size ?_)
                | ((with_reducible refine at_slot 71 ?_); refine wl_ld1 (v := .int .i64 an) rfl rfl rfl k12 Try.underlying3 rfl rfl ?_)
                | ((with_reducible refine at_slot 72 ?_); refine wl_callx rfl rfl Try.func8 (by kernel_rfl) rfl (rput_no rm 0 lost v L an hnf hrm2 _ HJ.out.lst rfl) rfl ?_; intro v2 V hR; have HV := Lib.hid (show Lst 1 ci V v2 (L ++ [an]) ∧ Fits v2 ∧ (∀ q, v2.ownBlock = some q → q ≠ g ∧ o ≠ some q ∧ q ≠ g9) ∧ v2.oneCell' = true from ⟨hR.1.1, hR.1.2.1, fun q hq => by have h1 := (hR.1.2.2 q hq).1; have h2 := HJ.out.rb.ri.lt; have h3 := HJ.out.k9.lt; exact ⟨by omega, fun e => by have := HJ.out.rb.ri.o_lt q e; omega, by omega⟩, (by obtain ⟨_, _, _, e, _⟩ := hR.1.2.1; exact (sl_one ⟨_, _, _, e⟩).1)⟩); have HVLT := Lib.hid (fun q (hq : v2.ownBlock = some q) => show q < V.heap.size from (hR.1.2.2 q hq).2); replace HJ := Lib.hid (HJ.out.keep hR.2); replace k12 := k12.keep hR.2; clear hR)
                | ((with_reducible refine at_slot 13 ?_); refine wl_alloc (A := #[.int .i64 0, .int .u64 0, .slice none 0 0]) rfl rfl rf_zero rfl ?_; intro W3 g13 k13 hb hle; have HG13 := Lib.hid (show g13 ≠ g ∧ o ≠ some g13 ∧ g13 ≠ g9 ∧ v.ownBlock ≠ some g13 ∧ w.heap.size ≤ g13 ∧ g12 ≠ g13 ∧ (∀ q, v2.ownBlock = some q → q < g13) from ⟨by have := HJ.out.rb.ri.lt; omega, fun e => by have := HJ.out.rb.ri.o_lt _ e; omega, by have := HJ.out.k9.lt; omega, fun e => by have := HJ.out.vlt _ e; omega, by have := HJ.out.rb.below.size; omega, by have := k12.lt; omega, fun q hq => by have := HVLT.out q hq; omega⟩); replace HJ := Lib.hid (HJ.out.keep hb); replace k12 := k12.keep hb; have HV2 := Lib.hid (HV.out.1.keep hb); clear hb hle)
                | ((with_reducible refine at_store 13 ?_); refine wl_st0 (A' := #[.int .i64 rm, .int .u64 lost, v2]) rfl rfl rfl rfl k13 rfl rf_size (rf_one _ _ _ HV.out.2.2.2) ?_; intro W4 kn hu; replace HJ := Lib.hid (HJ.out.upd hu HG13.out.2.2.2.2.1 HG13.out.1 HG13.out.2.1 HG13.out.2.2.1 HG13.out.2.2.2.1); replace k12 := k12.upd hu HG13.out.2.2.2.2.2.1; have HV3 := Lib.hid (HV2.out.chg (Chg.upd (o := none) hu) (fun e => by have := HG13.out.2.2.2.2.2.2 _ e; omega) (by simp)); clear k13; have k13 := kn; clear kn hu)
                | ((with_reducible refine at_slot 76 ?_); refine wl_ld0 rfl rfl rfl k13 Try.underlying31 rfl rf_size ?_)
                | ((with_reducible refine at_store 9 ?_); refine wl_st0 (A' := #[.int .i64 rm, .int .u64 lost, v2]) rfl rfl rfl rfl HJ.out.k9 rfl rf_size (rf_one _ _ _ HV.out.2.2.2) ?_; intro W5 kn hu; have HM := Lib.hid (HJ.out.mid hu kn HV3.out HV.out.2.1 (fun q hq => ⟨(HV.out.2.2.1 q hq).1, (HV.out.2.2.1 q hq).2.1, (HV.out.2.2.1 q hq).2.2, by have := HG13.out.2.2.2.2.2.2 q hq; have := k13.lt; omega⟩)); replace k12 := k12.upd hu HG12.out.2.2.1; clear kn hu HJ k13)
                | ((with_reducible refine at_slot 80 ?_); refine wl_ld1 (v := .int .i64 an) rfl rfl rfl k12 Try.underlying3 rfl rfl ?_)
                | ((with_reducible refine at_slot 81 ?_); refine wl_call rfl rfl Try.func9 (by kernel_rfl) rfl (by have := i_put HM.out.rb.ri hrm2 an; rw [putB_no (by omega), putX_no (by omega), putL_no (by omega), putN_no (by omega)] at this; exact this) rfl ?_; intro V6 hR; have hM2 := HM.out.step hR; clear HM hR; obtain ⟨o3, hM3⟩ := hM2; have HJ := Lib.hid hM3.to; clear hM3))
              obtain ⟨X, hX⟩ : ∃ X, X = atX (L ++ [an]) at_ := ⟨_, rfl⟩
              obtain ⟨Bv, hBv⟩ : ∃ Bv, Bv = atB (L ++ [an]) at_ := ⟨_, rfl⟩
              have hL16 : (L ++ [an]).length ≤ 65536 := Nat.le_trans HJ.out.rb.ri.le.1 hrm2
              have HAT1 := fun W (hb : Below _ _ W) => r_at rm lost v2 (L ++ [an]) at_ hL16 W (HJ.out.lst.keep hb)
              have HAT2 := fun W (hb : Below _ _ W) => i_at (HJ.out.rb.ri.keep hb) hrm2 at_ hat0 hat1
              rw [← hX, ← hBv] at HAT1 HAT2
              replace HAT1 := Lib.hid HAT1
              replace HAT2 := Lib.hid HAT2
              clear hX hBv
              go_upto_region 32 with (first
                | ((with_reducible refine at_slot 120 ?_); refine wl_ld0 rfl rfl rfl HJ.out.k9 Try.underlying31 rfl rf_size ?_)
                | ((with_reducible refine at_slot 122 ?_); refine wl_call rfl rfl Try.func13 (by kernel_rfl) rfl (HAT1.out _ (Below.refl _ _)) rfl ?_; intro V hb; have HBA := Lib.hid hb; clear hb)
                | ((with_reducible refine at_slot 128 ?_); refine wl_call rfl rfl Try.func14 (by kernel_rfl) rfl (HAT2.out _ HBA.out) rfl ?_; intro V2 hb; replace HJ := Lib.hid (HJ.out.keep (below_tr HBA.out hb)); clear hb HBA HAT1 HAT2))
              refine wp_region_held_drew (S := fun w' => Below V2.heap.size V2 w') (by kernel_rfl) (Below.refl _ _).drew (fun hS => ?_)
              refine wpAnyH_take (i := 0) (oi := ⟨some 131, _, _, _, _, _⟩) (v := .int .i64 X) rfl (by kernel_rfl) (by kernel_rfl) (by kernel_rfl) (fun _ _ _ h => h) (yi_mv (Or.inl rfl) rfl rfl) hS ?_
              simp only [Act.put, List.setIfInBounds_toArray, List.set_cons_zero, List.set_cons_succ]
              refine wpAnyH_take (i := 1) (oi := ⟨some 132, _, _, _, _, _⟩) (v := .int .i64 X) rfl (by kernel_rfl) (by kernel_rfl) (by kernel_rfl) (fun _ _ _ h => h) (yi_mv (Or.inl rfl) rfl rfl) hS ?_
              simp only [Act.put, List.setIfInBounds_toArray, List.set_cons_zero, List.set_cons_succ]
              refine wpAnyH_take (i := 2) (oi := ⟨some 133, _, _, _, _, _⟩) (v := .bool false) rfl (by kernel_rfl) (by kernel_rfl) (by kernel_rfl) (fun _ _ _ h => h) (yi_ok rfl (fun _ => by go_simp)) hS ?_
              simp only [Act.put, List.setIfInBounds_toArray, List.set_cons_zero, List.set_cons_succ]
              refine wpAnyH_take (i := 3) (oi := ⟨some 134, _, _, _, _, _⟩) (v := .bool false) rfl (by kernel_rfl) (by kernel_rfl) (by kernel_rfl) (fun _ _ _ h => h) (yi_mv (Or.inl rfl) rfl rfl) hS ?_
              simp only [Act.put, List.setIfInBounds_toArray, List.set_cons_zero, List.set_cons_succ]
              refine wpAnyH_take (i := 4) (oi := ⟨some 135, _, _, _, _, _⟩) (v := .bool Bv) rfl (by kernel_rfl) (by kernel_rfl) (by kernel_rfl) (fun _ _ _ h => h) (yi_mv (Or.inl rfl) (by kernel_rfl) rfl) hS ?_
              simp only [Act.put, List.setIfInBounds_toArray, List.set_cons_zero, List.set_cons_succ]
              refine wpAnyH_take (i := 5) (oi := ⟨some 136, _, _, _, _, _⟩) (v := .bool Bv) rfl (by kernel_rfl) (by kernel_rfl) (by kernel_rfl) (fun _ _ _ h => h) (yi_mv (Or.inl rfl) (by kernel_rfl) rfl) hS ?_
              simp only [Act.put, List.setIfInBounds_toArray, List.set_cons_zero, List.set_cons_succ]
              refine wpAnyH_take (i := 6) (oi := ⟨some 137, _, _, _, _, _⟩) (v := .bool false) rfl (by kernel_rfl) (by kernel_rfl) (by kernel_rfl) (fun _ _ _ h => h) (yi_ok (by kernel_rfl) (fun _ => by go_simp)) hS ?_
              simp only [Act.put, List.setIfInBounds_toArray, List.set_cons_zero, List.set_cons_succ]
              refine wpAnyH_take (i := 7) (oi := ⟨some 138, _, _, _, _, _⟩) (v := .bool false) rfl (by kernel_rfl) (by kernel_rfl) (by kernel_rfl) (fun _ _ _ h => h) (yi_pick0 rfl rfl rfl rfl) hS ?_
              simp only [Act.put, List.setIfInBounds_toArray, List.set_cons_zero, List.set_cons_succ]
              refine wpAnyH_take (i := 8) (oi := ⟨some 139, _, _, _, _, _⟩) (v := .bool false) rfl (by kernel_rfl) (by kernel_rfl) (by kernel_rfl) (fun _ _ _ h => h) (yi_mv (Or.inl rfl) rfl rfl) hS ?_
              simp only [Act.put, List.setIfInBounds_toArray, List.set_cons_zero, List.set_cons_succ]
              refine wpAnyH_take (i := 9) (oi := ⟨some 140, _, _, _, _, _⟩) (v := .pointer (some ⟨g, 0, none⟩)) rfl (by kernel_rfl) (by kernel_rfl) (by kernel_rfl) (fun _ _ _ h => h) (yi_mv (Or.inl rfl) (by kernel_rfl) rfl) hS ?_
              simp only [Act.put, List.setIfInBounds_toArray, List.set_cons_zero, List.set_cons_succ]
              refine wpAnyH_take (i := 11) (oi := ⟨some 142, _, _, _, _, _⟩) (v := .pointer (some ⟨g9, 2, none⟩)) rfl (by kernel_rfl) (by kernel_rfl) (by kernel_rfl) (fun _ _ _ h => h) (yi_ok (by kernel_rfl) (fun _ => by go_simp)) hS ?_
              simp only [Act.put, List.setIfInBounds_toArray, List.set_cons_zero, List.set_cons_succ]
              refine wpAnyH_take (i := 12) (oi := ⟨some 143, _, _, _, _, _⟩) (v := v2) rfl (by kernel_rfl) (by kernel_rfl) (by kernel_rfl) (fun _ _ _ h => h) (yi_ld1 (v := v2) rfl (by kernel_rfl) rfl (fun w' h => HJ.out.k9.keep h) Try.underlying29 rfl rfl) hS ?_
              simp only [Act.put, List.setIfInBounds_toArray, List.set_cons_zero, List.set_cons_succ]
              refine wpAnyH_take (i := 13) (oi := ⟨some 144, _, _, _, _, _⟩) (v := .int .i64 (L ++ [an]).length) rfl (by kernel_rfl) (by kernel_rfl) (by kernel_rfl) (fun _ _ _ h => h) (yi_lenL rfl (by kernel_rfl) rfl Try.underlying29 HJ.out.lst.sl) hS ?_
              simp only [Act.put, List.setIfInBounds_toArray, List.set_cons_zero, List.set_cons_succ]
              refine anyH_call (i := 10) (op := ⟨some 141, _, _, _, _, _⟩) (by kernel_rfl) rfl rfl (by kernel_rfl) Try.func15 (by kernel_rfl) rfl (i_len (HJ.out.rb.ri.keep hS)) rfl (fun w' hb => below_tr hS hb) (fun w' hb hS2 => ?_)
              simp only [Act.put, List.setIfInBounds_toArray, List.set_cons_zero, List.set_cons_succ]
              clear hb
              replace hS := hS2
              clear hS2
              refine wpAnyH_take (i := 14) (oi := ⟨some 145, _, _, _, _, _⟩) (v := .bool false) rfl (by kernel_rfl) (by kernel_rfl) (by kernel_rfl) (fun _ _ _ h => h) (yi_ok (by kernel_rfl) (fun _ => by go_simp)) hS ?_
              simp only [Act.put, List.setIfInBounds_toArray, List.set_cons_zero, List.set_cons_succ]
              refine wpAnyH_take (i := 15) (oi := ⟨some 146, _, _, _, _, _⟩) (v := .bool false) rfl (by kernel_rfl) (by kernel_rfl) (by kernel_rfl) (fun _ _ _ h => h) (yi_pick0 rfl rfl rfl rfl) hS ?_
              simp only [Act.put, List.setIfInBounds_toArray, List.set_cons_zero, List.set_cons_succ]
              refine wpAnyH_take (i := 16) (oi := ⟨some 147, _, _, _, _, _⟩) (v := .bool false) rfl (by kernel_rfl) (by kernel_rfl) (by kernel_rfl) (fun _ _ _ h => h) (yi_mv (Or.inl rfl) rfl rfl) hS ?_
              simp only [Act.put, List.setIfInBounds_toArray, List.set_cons_zero, List.set_cons_succ]
              refine wpAnyH_take (i := 17) (oi := ⟨some 148, _, _, _, _, _⟩) (v := .pointer (some ⟨g, 0, none⟩)) rfl (by kernel_rfl) (by kernel_rfl) (by kernel_rfl) (fun _ _ _ h => h) (yi_mv (Or.inl rfl) (by kernel_rfl) rfl) hS ?_
              simp only [Act.put, List.setIfInBounds_toArray, List.set_cons_zero, List.set_cons_succ]
              refine wpAnyH_take (i := 19) (oi := ⟨some 150, _, _, _, _, _⟩) (v := .pointer (some ⟨g9, 1, none⟩)) rfl (by kernel_rfl) (by kernel_rfl) (by kernel_rfl) (fun _ _ _ h => h) (yi_ok (by kernel_rfl) (fun _ => by go_simp)) hS ?_
              simp only [Act.put, List.setIfInBounds_toArray, List.set_cons_zero, List.set_cons_succ]
              refine wpAnyH_take (i := 20) (oi := ⟨some 151, _, _, _, _, _⟩) (v := .int .u64 lost) rfl (by kernel_rfl) (by kernel_rfl) (by kernel_rfl) (fun _ _ _ h => h) (yi_ld1 (v := .int .u64 lost) rfl (by kernel_rfl) rfl (fun w' h => HJ.out.k9.keep h) Try.underlying28 rfl rfl) hS ?_
              simp only [Act.put, List.setIfInBounds_toArray, List.set_cons_zero, List.set_cons_succ]
              refine anyH_call (i := 18) (op := ⟨some 149, _, _, _, _, _⟩) (by kernel_rfl) rfl rfl (by kernel_rfl) Try.func16 (by kernel_rfl) rfl (i_lost (HJ.out.rb.ri.keep hS)) rfl (fun w' hb => below_tr hS hb) (fun w' hb hS2 => ?_)
              simp only [Act.put, List.setIfInBounds_toArray, List.set_cons_zero, List.set_cons_succ]
              clear hb
              replace hS := hS2
              clear hS2
              refine wpAnyH_take (i := 21) (oi := ⟨some 152, _, _, _, _, _⟩) (v := .bool false) rfl (by kernel_rfl) (by kernel_rfl) (by kernel_rfl) (fun _ _ _ h => h) (yi_ok (by kernel_rfl) (fun _ => by go_simp)) hS ?_
              simp only [Act.put, List.setIfInBounds_toArray, List.set_cons_zero, List.set_cons_succ]
              refine wpAnyH_take (i := 22) (oi := ⟨some 153, _, _, _, _, _⟩) (v := .bool false) rfl (by kernel_rfl) (by kernel_rfl) (by kernel_rfl) (fun _ _ _ h => h) (yi_pick0 rfl rfl rfl rfl) hS ?_
              simp only [Act.put, List.setIfInBounds_toArray, List.set_cons_zero, List.set_cons_succ]
              refine wpAnyH_take (i := 23) (oi := ⟨some 154, _, _, _, _, _⟩) (v := .bool false) rfl (by kernel_rfl) (by kernel_rfl) (by kernel_rfl) (fun _ _ _ h => h) (yi_mv (Or.inl rfl) rfl rfl) hS ?_
              simp only [Act.put, List.setIfInBounds_toArray, List.set_cons_zero, List.set_cons_succ]
              refine wpAnyH_take (i := 24) (oi := ⟨some 155, _, _, _, _, _⟩) (v := .pointer (some ⟨g, 0, none⟩)) rfl (by kernel_rfl) (by kernel_rfl) (by kernel_rfl) (fun _ _ _ h => h) (yi_mv (Or.inl rfl) (by kernel_rfl) rfl) hS ?_
              simp only [Act.put, List.setIfInBounds_toArray, List.set_cons_zero, List.set_cons_succ]
              refine wpAnyH_take (i := 26) (oi := ⟨some 157, _, _, _, _, _⟩) (v := .pointer (some ⟨g9, 2, none⟩)) rfl (by kernel_rfl) (by kernel_rfl) (by kernel_rfl) (fun _ _ _ h => h) (yi_ok (by kernel_rfl) (fun _ => by go_simp)) hS ?_
              simp only [Act.put, List.setIfInBounds_toArray, List.set_cons_zero, List.set_cons_succ]
              refine wpAnyH_take (i := 27) (oi := ⟨some 158, _, _, _, _, _⟩) (v := v2) rfl (by kernel_rfl) (by kernel_rfl) (by kernel_rfl) (fun _ _ _ h => h) (yi_ld1 (v := v2) rfl (by kernel_rfl) rfl (fun w' h => HJ.out.k9.keep h) Try.underlying29 rfl rfl) hS ?_
              simp only [Act.put, List.setIfInBounds_toArray, List.set_cons_zero, List.set_cons_succ]
              refine anyH_callx (i := 25) (op := ⟨some 156, _, _, _, _, _⟩) (by kernel_rfl) rfl rfl (by kernel_rfl) Try.func18 (by kernel_rfl) rfl (i_all (HJ.out.rb.ri.keep hS) hrm2) rfl (fun x w' hR => below_tr hS hR.2) (fun v8 w' hR hS2 => ?_)
              simp only [Act.put, List.setIfInBounds_toArray, List.set_cons_zero, List.set_cons_succ]
              have HL8 := Lib.hid (own_lst (xs := (L ++ [an])) ci_len hR.1 rfl)
              clear hR
              replace hS := hS2
              clear hS2
              refine anyH_call (i := 28) (op := ⟨some 159, _, _, _, _, _⟩) (by kernel_rfl) rfl rfl (by kernel_rfl) Try.func17 (by kernel_rfl) rfl (same_yes v8 v2 (L ++ [an]) (by omega) _ HL8.out (HJ.out.lst.keep hS)) rfl (fun w' hb => below_tr hS hb) (fun w' hb hS2 => ?_)
              simp only [Act.put, List.setIfInBounds_toArray, List.set_cons_zero, List.set_cons_succ]
              clear hb
              replace hS := hS2
              clear hS2
              refine wpAnyH_take (i := 29) (oi := ⟨some 160, _, _, _, _, _⟩) (v := .bool false) rfl (by kernel_rfl) (by kernel_rfl) (by kernel_rfl) (fun _ _ _ h => h) (yi_not rfl (by kernel_rfl) rfl rfl) hS ?_
              simp only [Act.put, List.setIfInBounds_toArray, List.set_cons_zero, List.set_cons_succ]
              refine wpAnyH_take (i := 30) (oi := ⟨some 161, _, _, _, _, _⟩) (v := .bool false) rfl (by kernel_rfl) (by kernel_rfl) (by kernel_rfl) (fun _ _ _ h => h) (yi_pick0 rfl rfl rfl rfl) hS ?_
              simp only [Act.put, List.setIfInBounds_toArray, List.set_cons_zero, List.set_cons_succ]
              refine wpAnyH_done (by kernel_rfl) ?_ _
              replace HJ := Lib.hid (HJ.out.keep hS)
              clear hS
              go_wp2_with fail
              go_roundw
              case rel => exact ⟨k + 1, _, _, _, _, _, HJ.out, rfl, by go_num, hlt⟩
              case measure => simp [intOf]; omega
          · by_cases hk1 : ak = 1
            · subst hk1
              clear hk0
              go_upto_region 30 with (first
                | ((with_reducible refine at_slot 62 ?_); refine wl_ixo rfl rfl rfl rfl Try.underlying22 rfl hlt HMM ?_)
                | ((with_reducible refine at_slot 63 ?_); refine wl_ldr (B := #[.int .i64 1, .int .i64 an]) rfl rfl rfl KX.out Try.underlying35 rfl act_size ?_)
                | ((with_reducible refine at_slot 12 ?_); refine wl_alloc (A := #[.int .i64 0, .int .i64 0]) rfl rfl act_zero rfl ?_; intro W1 g12 k12 hb hle; replace HJ := Lib.hid (HJ.out.keep hb); have HG12 := Lib.hid (show g12 ≠ g ∧ o ≠ some g12 ∧ g12 ≠ g9 ∧ v.ownBlock ≠ some g12 ∧ w.heap.size ≤ g12 from ⟨by have := HJ0.out.rb.ri.lt; omega, fun e => by have := HJ0.out.rb.ri.o_lt _ e; omega, by have := HJ0.out.k9.lt; omega, fun e => by have := HJ0.out.vlt _ e; omega, by have := HJ0.out.rb.below.size; omega⟩); clear hb hle)
                | ((with_reducible refine at_store 12 ?_); refine wl_st0 (A' := #[.int .i64 1, .int .i64 an]) rfl rfl rfl rfl k12 rfl act_size (act_one _ _) ?_; intro W2 kn hu; replace HJ := Lib.hid (HJ.out.upd hu HG12.out.2.2.2.2 HG12.out.1 HG12.out.2.1 HG12.out.2.2.1 HG12.out.2.2.2.1); clear k12; have k12 := kn; clear kn hu)
                | ((with_reducible refine at_slot 65 ?_); refine wl_ld1 (v := .int .i64 1) rfl rfl rfl k12 Try.underlying3 rfl rfl ?_)
                | ((with_reducible refine at_slot 95 ?_); refine wl_ld0 rfl rfl rfl HJ.out.k9 Try.underlying31 rfl rf_size ?_)
                | ((with_reducible refine at_slot 97 ?_); refine wl_ld1 (v := .int .i64 an) rfl rfl rfl k12 Try.underlying3 rfl rfl ?_)
                | ((with_reducible refine at_slot 98 ?_); refine wl_callx rfl rfl Try.func10 (by kernel_rfl) rfl (rdrop rm lost v L an hL16 _ HJ.out.lst HJ.out.fits) rfl ?_; intro v2 V hR; have HV := Lib.hid (show Lst 1 ci V v2 (L.drop (dropN an L.length)) ∧ Fits v2 ∧ (∀ q, v2.ownBlock = some q → q ≠ g ∧ o ≠ some q ∧ q ≠ g9) ∧ v2.oneCell' = true from ⟨hR.1.1, hR.1.2.1, fun q hq => by have h1 := (hR.1.2.2 q hq).1; have h2 := HJ.out.rb.ri.lt; have h3 := HJ.out.k9.lt; exact ⟨by omega, fun e => by have := HJ.out.rb.ri.o_lt q e; omega, by omega⟩, (by obtain ⟨_, _, _, e, _⟩ := hR.1.2.1; exact (sl_one ⟨_, _, _, e⟩).1)⟩); have HVLT := Lib.hid (fun q (hq : v2.ownBlock = some q) => show q < V.heap.size from (hR.1.2.2 q hq).2); replace HJ := Lib.hid (HJ.out.keep hR.2); replace k12 := k12.keep hR.2; clear hR)
                | ((with_reducible refine at_slot 18 ?_); refine wl_alloc (A := #[.int .i64 0, .int .u64 0, .slice none 0 0]) rfl rfl rf_zero rfl ?_; intro W3 g13 k13 hb hle; have HG13 := Lib.hid (show g13 ≠ g ∧ o ≠ some g13 ∧ g13 ≠ g9 ∧ v.ownBlock ≠ some g13 ∧ w.heap.size ≤ g13 ∧ g12 ≠ g13 ∧ (∀ q, v2.ownBlock = some q → q < g13) from ⟨by have := HJ.out.rb.ri.lt; omega, fun e => by have := HJ.out.rb.ri.o_lt _ e; omega, by have := HJ.out.k9.lt; omega, fun e => by have := HJ.out.vlt _ e; omega, by have := HJ.out.rb.below.size; omega, by have := k12.lt; omega, fun q hq => by have := HVLT.out q hq; omega⟩); replace HJ := Lib.hid (HJ.out.keep hb); replace k12 := k12.keep hb; have HV2 := Lib.hid (HV.out.1.keep hb); clear hb hle)
                | ((with_reducible refine at_store 18 ?_); refine wl_st0 (A' := #[.int .i64 rm, .int .u64 lost, v2]) rfl rfl rfl rfl k13 rfl rf_size (rf_one _ _ _ HV.out.2.2.2) ?_; intro W4 kn hu; replace HJ := Lib.hid (HJ.out.upd hu HG13.out.2.2.2.2.1 HG13.out.1 HG13.out.2.1 HG13.out.2.2.1 HG13.out.2.2.2.1); replace k12 := k12.upd hu HG13.out.2.2.2.2.2.1; have HV3 := Lib.hid (HV2.out.chg (Chg.upd (o := none) hu) (fun e => by have := HG13.out.2.2.2.2.2.2 _ e; omega) (by simp)); clear k13; have k13 := kn; clear kn hu)
                | ((with_reducible refine at_slot 101 ?_); refine wl_ld0 rfl rfl rfl k13 Try.underlying31 rfl rf_size ?_)
                | ((with_reducible refine at_store 9 ?_); refine wl_st0 (A' := #[.int .i64 rm, .int .u64 lost, v2]) rfl rfl rfl rfl HJ.out.k9 rfl rf_size (rf_one _ _ _ HV.out.2.2.2) ?_; intro W5 kn hu; have HM := Lib.hid (HJ.out.mid hu kn HV3.out HV.out.2.1 (fun q hq => ⟨(HV.out.2.2.1 q hq).1, (HV.out.2.2.1 q hq).2.1, (HV.out.2.2.1 q hq).2.2, by have := HG13.out.2.2.2.2.2.2 q hq; have := k13.lt; omega⟩)); replace k12 := k12.upd hu HG12.out.2.2.1; clear kn hu HJ k13)
                | ((with_reducible refine at_slot 104 ?_); refine wl_ld1 (v := .int .i64 an) rfl rfl rfl k12 Try.underlying3 rfl rfl ?_)
                | ((with_reducible refine at_slot 105 ?_); refine wl_call rfl rfl Try.func11 (by kernel_rfl) rfl (i_drop HM.out.rb.ri hrm2 an HAN.out.1 HAN.out.2) rfl ?_; intro V6 hR; have hM2 := HM.out.step ⟨o, hR.1, hR.2, Or.inl rfl⟩; clear HM hR; obtain ⟨o3, hM3⟩ := hM2; have HJ := Lib.hid hM3.to; clear hM3))
              obtain ⟨X, hX⟩ : ∃ X, X = atX (L.drop (dropN an L.length)) at_ := ⟨_, rfl⟩
              obtain ⟨Bv, hBv⟩ : ∃ Bv, Bv = atB (L.drop (dropN an L.length)) at_ := ⟨_, rfl⟩
              have hL16 : (L.drop (dropN an L.length)).length ≤ 65536 := Nat.le_trans HJ.out.rb.ri.le.1 hrm2
              have HAT1 := fun W (hb : Below _ _ W) => r_at rm lost v2 (L.drop (dropN an L.length)) at_ hL16 W (HJ.out.lst.keep hb)
              have HAT2 := fun W (hb : Below _ _ W) => i_at (HJ.out.rb.ri.keep hb) hrm2 at_ hat0 hat1
              rw [← hX, ← hBv] at HAT1 HAT2
              replace HAT1 := Lib.hid HAT1
              replace HAT2 := Lib.hid HAT2
              clear hX hBv
              go_upto_region 32 with (first
                | ((with_reducible refine at_slot 120 ?_); refine wl_ld0 rfl rfl rfl HJ.out.k9 Try.underlying31 rfl rf_size ?_)
                | ((with_reducible refine at_slot 122 ?_); refine wl_call rfl rfl Try.func13 (by kernel_rfl) rfl (HAT1.out _ (Below.refl _ _)) rfl ?_; intro V hb; have HBA := Lib.hid hb; clear hb)
                | ((with_reducible refine at_slot 128 ?_); refine wl_call rfl rfl Try.func14 (by kernel_rfl) rfl (HAT2.out _ HBA.out) rfl ?_; intro V2 hb; replace HJ := Lib.hid (HJ.out.keep (below_tr HBA.out hb)); clear hb HBA HAT1 HAT2))
              refine wp_region_held_drew (S := fun w' => Below V2.heap.size V2 w') (by kernel_rfl) (Below.refl _ _).drew (fun hS => ?_)
              refine wpAnyH_take (i := 0) (oi := ⟨some 131, _, _, _, _, _⟩) (v := .int .i64 X) rfl (by kernel_rfl) (by kernel_rfl) (by kernel_rfl) (fun _ _ _ h => h) (yi_mv (Or.inl rfl) rfl rfl) hS ?_
              simp only [Act.put, List.setIfInBounds_toArray, List.set_cons_zero, List.set_cons_succ]
              refine wpAnyH_take (i := 1) (oi := ⟨some 132, _, _, _, _, _⟩) (v := .int .i64 X) rfl (by kernel_rfl) (by kernel_rfl) (by kernel_rfl) (fun _ _ _ h => h) (yi_mv (Or.inl rfl) rfl rfl) hS ?_
              simp only [Act.put, List.setIfInBounds_toArray, List.set_cons_zero, List.set_cons_succ]
              refine wpAnyH_take (i := 2) (oi := ⟨some 133, _, _, _, _, _⟩) (v := .bool false) rfl (by kernel_rfl) (by kernel_rfl) (by kernel_rfl) (fun _ _ _ h => h) (yi_ok rfl (fun _ => by go_simp)) hS ?_
              simp only [Act.put, List.setIfInBounds_toArray, List.set_cons_zero, List.set_cons_succ]
              refine wpAnyH_take (i := 3) (oi := ⟨some 134, _, _, _, _, _⟩) (v := .bool false) rfl (by kernel_rfl) (by kernel_rfl) (by kernel_rfl) (fun _ _ _ h => h) (yi_mv (Or.inl rfl) rfl rfl) hS ?_
              simp only [Act.put, List.setIfInBounds_toArray, List.set_cons_zero, List.set_cons_succ]
              refine wpAnyH_take (i := 4) (oi := ⟨some 135, _, _, _, _, _⟩) (v := .bool Bv) rfl (by kernel_rfl) (by kernel_rfl) (by kernel_rfl) (fun _ _ _ h => h) (yi_mv (Or.inl rfl) (by kernel_rfl) rfl) hS ?_
              simp only [Act.put, List.setIfInBounds_toArray, List.set_cons_zero, List.set_cons_succ]
              refine wpAnyH_take (i := 5) (oi := ⟨some 136, _, _, _, _, _⟩) (v := .bool Bv) rfl (by kernel_rfl) (by kernel_rfl) (by kernel_rfl) (fun _ _ _ h => h) (yi_mv (Or.inl rfl) (by kernel_rfl) rfl) hS ?_
              simp only [Act.put, List.setIfInBounds_toArray, List.set_cons_zero, List.set_cons_succ]
              refine wpAnyH_take (i := 6) (oi := ⟨some 137, _, _, _, _, _⟩) (v := .bool false) rfl (by kernel_rfl) (by kernel_rfl) (by kernel_rfl) (fun _ _ _ h => h) (yi_ok (by kernel_rfl) (fun _ => by go_simp)) hS ?_
              simp only [Act.put, List.setIfInBounds_toArray, List.set_cons_zero, List.set_cons_succ]
              refine wpAnyH_take (i := 7) (oi := ⟨some 138, _, _, _, _, _⟩) (v := .bool false) rfl (by kernel_rfl) (by kernel_rfl) (by kernel_rfl) (fun _ _ _ h => h) (yi_pick0 rfl rfl rfl rfl) hS ?_
              simp only [Act.put, List.setIfInBounds_toArray, List.set_cons_zero, List.set_cons_succ]
              refine wpAnyH_take (i := 8) (oi := ⟨some 139, _, _, _, _, _⟩) (v := .bool false) rfl (by kernel_rfl) (by kernel_rfl) (by kernel_rfl) (fun _ _ _ h => h) (yi_mv (Or.inl rfl) rfl rfl) hS ?_
              simp only [Act.put, List.setIfInBounds_toArray, List.set_cons_zero, List.set_cons_succ]
              refine wpAnyH_take (i := 9) (oi := ⟨some 140, _, _, _, _, _⟩) (v := .pointer (some ⟨g, 0, none⟩)) rfl (by kernel_rfl) (by kernel_rfl) (by kernel_rfl) (fun _ _ _ h => h) (yi_mv (Or.inl rfl) (by kernel_rfl) rfl) hS ?_
              simp only [Act.put, List.setIfInBounds_toArray, List.set_cons_zero, List.set_cons_succ]
              refine wpAnyH_take (i := 11) (oi := ⟨some 142, _, _, _, _, _⟩) (v := .pointer (some ⟨g9, 2, none⟩)) rfl (by kernel_rfl) (by kernel_rfl) (by kernel_rfl) (fun _ _ _ h => h) (yi_ok (by kernel_rfl) (fun _ => by go_simp)) hS ?_
              simp only [Act.put, List.setIfInBounds_toArray, List.set_cons_zero, List.set_cons_succ]
              refine wpAnyH_take (i := 12) (oi := ⟨some 143, _, _, _, _, _⟩) (v := v2) rfl (by kernel_rfl) (by kernel_rfl) (by kernel_rfl) (fun _ _ _ h => h) (yi_ld1 (v := v2) rfl (by kernel_rfl) rfl (fun w' h => HJ.out.k9.keep h) Try.underlying29 rfl rfl) hS ?_
              simp only [Act.put, List.setIfInBounds_toArray, List.set_cons_zero, List.set_cons_succ]
              refine wpAnyH_take (i := 13) (oi := ⟨some 144, _, _, _, _, _⟩) (v := .int .i64 (L.drop (dropN an L.length)).length) rfl (by kernel_rfl) (by kernel_rfl) (by kernel_rfl) (fun _ _ _ h => h) (yi_lenL rfl (by kernel_rfl) rfl Try.underlying29 HJ.out.lst.sl) hS ?_
              simp only [Act.put, List.setIfInBounds_toArray, List.set_cons_zero, List.set_cons_succ]
              refine anyH_call (i := 10) (op := ⟨some 141, _, _, _, _, _⟩) (by kernel_rfl) rfl rfl (by kernel_rfl) Try.func15 (by kernel_rfl) rfl (i_len (HJ.out.rb.ri.keep hS)) rfl (fun w' hb => below_tr hS hb) (fun w' hb hS2 => ?_)
              simp only [Act.put, List.setIfInBounds_toArray, List.set_cons_zero, List.set_cons_succ]
              clear hb
              replace hS := hS2
              clear hS2
              refine wpAnyH_take (i := 14) (oi := ⟨some 145, _, _, _, _, _⟩) (v := .bool false) rfl (by kernel_rfl) (by kernel_rfl) (by kernel_rfl) (fun _ _ _ h => h) (yi_ok (by kernel_rfl) (fun _ => by go_simp)) hS ?_
              simp only [Act.put, List.setIfInBounds_toArray, List.set_cons_zero, List.set_cons_succ]
              refine wpAnyH_take (i := 15) (oi := ⟨some 146, _, _, _, _, _⟩) (v := .bool false) rfl (by kernel_rfl) (by kernel_rfl) (by kernel_rfl) (fun _ _ _ h => h) (yi_pick0 rfl rfl rfl rfl) hS ?_
              simp only [Act.put, List.setIfInBounds_toArray, List.set_cons_zero, List.set_cons_succ]
              refine wpAnyH_take (i := 16) (oi := ⟨some 147, _, _, _, _, _⟩) (v := .bool false) rfl (by kernel_rfl) (by kernel_rfl) (by kernel_rfl) (fun _ _ _ h => h) (yi_mv (Or.inl rfl) rfl rfl) hS ?_
              simp only [Act.put, List.setIfInBounds_toArray, List.set_cons_zero, List.set_cons_succ]
              refine wpAnyH_take (i := 17) (oi := ⟨some 148, _, _, _, _, _⟩) (v := .pointer (some ⟨g, 0, none⟩)) rfl (by kernel_rfl) (by kernel_rfl) (by kernel_rfl) (fun _ _ _ h => h) (yi_mv (Or.inl rfl) (by kernel_rfl) rfl) hS ?_
              simp only [Act.put, List.setIfInBounds_toArray, List.set_cons_zero, List.set_cons_succ]
              refine wpAnyH_take (i := 19) (oi := ⟨some 150, _, _, _, _, _⟩) (v := .pointer (some ⟨g9, 1, none⟩)) rfl (by kernel_rfl) (by kernel_rfl) (by kernel_rfl) (fun _ _ _ h => h) (yi_ok (by kernel_rfl) (fun _ => by go_simp)) hS ?_
              simp only [Act.put, List.setIfInBounds_toArray, List.set_cons_zero, List.set_cons_succ]
              refine wpAnyH_take (i := 20) (oi := ⟨some 151, _, _, _, _, _⟩) (v := .int .u64 lost) rfl (by kernel_rfl) (by kernel_rfl) (by kernel_rfl) (fun _ _ _ h => h) (yi_ld1 (v := .int .u64 lost) rfl (by kernel_rfl) rfl (fun w' h => HJ.out.k9.keep h) Try.underlying28 rfl rfl) hS ?_
              simp only [Act.put, List.setIfInBounds_toArray, List.set_cons_zero, List.set_cons_succ]
              refine anyH_call (i := 18) (op := ⟨some 149, _, _, _, _, _⟩) (by kernel_rfl) rfl rfl (by kernel_rfl) Try.func16 (by kernel_rfl) rfl (i_lost (HJ.out.rb.ri.keep hS)) rfl (fun w' hb => below_tr hS hb) (fun w' hb hS2 => ?_)
              simp only [Act.put, List.setIfInBounds_toArray, List.set_cons_zero, List.set_cons_succ]
              clear hb
              replace hS := hS2
              clear hS2
              refine wpAnyH_take (i := 21) (oi := ⟨some 152, _, _, _, _, _⟩) (v := .bool false) rfl (by kernel_rfl) (by kernel_rfl) (by kernel_rfl) (fun _ _ _ h => h) (yi_ok (by kernel_rfl) (fun _ => by go_simp)) hS ?_
              simp only [Act.put, List.setIfInBounds_toArray, List.set_cons_zero, List.set_cons_succ]
              refine wpAnyH_take (i := 22) (oi := ⟨some 153, _, _, _, _, _⟩) (v := .bool false) rfl (by kernel_rfl) (by kernel_rfl) (by kernel_rfl) (fun _ _ _ h => h) (yi_pick0 rfl rfl rfl rfl) hS ?_
              simp only [Act.put, List.setIfInBounds_toArray, List.set_cons_zero, List.set_cons_succ]
              refine wpAnyH_take (i := 23) (oi := ⟨some 154, _, _, _, _, _⟩) (v := .bool false) rfl (by kernel_rfl) (by kernel_rfl) (by kernel_rfl) (fun _ _ _ h => h) (yi_mv (Or.inl rfl) rfl rfl) hS ?_
              simp only [Act.put, List.setIfInBounds_toArray, List.set_cons_zero, List.set_cons_succ]
              refine wpAnyH_take (i := 24) (oi := ⟨some 155, _, _, _, _, _⟩) (v := .pointer (some ⟨g, 0, none⟩)) rfl (by kernel_rfl) (by kernel_rfl) (by kernel_rfl) (fun _ _ _ h => h) (yi_mv (Or.inl rfl) (by kernel_rfl) rfl) hS ?_
              simp only [Act.put, List.setIfInBounds_toArray, List.set_cons_zero, List.set_cons_succ]
              refine wpAnyH_take (i := 26) (oi := ⟨some 157, _, _, _, _, _⟩) (v := .pointer (some ⟨g9, 2, none⟩)) rfl (by kernel_rfl) (by kernel_rfl) (by kernel_rfl) (fun _ _ _ h => h) (yi_ok (by kernel_rfl) (fun _ => by go_simp)) hS ?_
              simp only [Act.put, List.setIfInBounds_toArray, List.set_cons_zero, List.set_cons_succ]
              refine wpAnyH_take (i := 27) (oi := ⟨some 158, _, _, _, _, _⟩) (v := v2) rfl (by kernel_rfl) (by kernel_rfl) (by kernel_rfl) (fun _ _ _ h => h) (yi_ld1 (v := v2) rfl (by kernel_rfl) rfl (fun w' h => HJ.out.k9.keep h) Try.underlying29 rfl rfl) hS ?_
              simp only [Act.put, List.setIfInBounds_toArray, List.set_cons_zero, List.set_cons_succ]
              refine anyH_callx (i := 25) (op := ⟨some 156, _, _, _, _, _⟩) (by kernel_rfl) rfl rfl (by kernel_rfl) Try.func18 (by kernel_rfl) rfl (i_all (HJ.out.rb.ri.keep hS) hrm2) rfl (fun x w' hR => below_tr hS hR.2) (fun v8 w' hR hS2 => ?_)
              simp only [Act.put, List.setIfInBounds_toArray, List.set_cons_zero, List.set_cons_succ]
              have HL8 := Lib.hid (own_lst (xs := (L.drop (dropN an L.length))) ci_len hR.1 rfl)
              clear hR
              replace hS := hS2
              clear hS2
              refine anyH_call (i := 28) (op := ⟨some 159, _, _, _, _, _⟩) (by kernel_rfl) rfl rfl (by kernel_rfl) Try.func17 (by kernel_rfl) rfl (same_yes v8 v2 (L.drop (dropN an L.length)) (by omega) _ HL8.out (HJ.out.lst.keep hS)) rfl (fun w' hb => below_tr hS hb) (fun w' hb hS2 => ?_)
              simp only [Act.put, List.setIfInBounds_toArray, List.set_cons_zero, List.set_cons_succ]
              clear hb
              replace hS := hS2
              clear hS2
              refine wpAnyH_take (i := 29) (oi := ⟨some 160, _, _, _, _, _⟩) (v := .bool false) rfl (by kernel_rfl) (by kernel_rfl) (by kernel_rfl) (fun _ _ _ h => h) (yi_not rfl (by kernel_rfl) rfl rfl) hS ?_
              simp only [Act.put, List.setIfInBounds_toArray, List.set_cons_zero, List.set_cons_succ]
              refine wpAnyH_take (i := 30) (oi := ⟨some 161, _, _, _, _, _⟩) (v := .bool false) rfl (by kernel_rfl) (by kernel_rfl) (by kernel_rfl) (fun _ _ _ h => h) (yi_pick0 rfl rfl rfl rfl) hS ?_
              simp only [Act.put, List.setIfInBounds_toArray, List.set_cons_zero, List.set_cons_succ]
              refine wpAnyH_done (by kernel_rfl) ?_ _
              replace HJ := Lib.hid (HJ.out.keep hS)
              clear hS
              go_wp2_with fail
              go_roundw
              case rel => exact ⟨k + 1, _, _, _, _, _, HJ.out, rfl, by go_num, hlt⟩
              case measure => simp [intOf]; omega
            · by_cases hk2 : ak = 2
              · subst hk2
                clear hk0 hk1
                go_upto_region 30 with (first
                  | ((with_reducible refine at_slot 62 ?_); refine wl_ixo rfl rfl rfl rfl Try.underlying22 rfl hlt HMM ?_)
                  | ((with_reducible refine at_slot 63 ?_); refine wl_ldr (B := #[.int .i64 2, .int .i64 an]) rfl rfl rfl KX.out Try.underlying35 rfl act_size ?_)
                  | ((with_reducible refine at_slot 12 ?_); refine wl_alloc (A := #[.int .i64 0, .int .i64 0]) rfl rfl act_zero rfl ?_; intro W1 g12 k12 hb hle; replace HJ := Lib.hid (HJ.out.keep hb); have HG12 := Lib.hid (show g12 ≠ g ∧ o ≠ some g12 ∧ g12 ≠ g9 ∧ v.ownBlock ≠ some g12 ∧ w.heap.size ≤ g12 from ⟨by have := HJ0.out.rb.ri.lt; omega, fun e => by have := HJ0.out.rb.ri.o_lt _ e; omega, by have := HJ0.out.k9.lt; omega, fun e => by have := HJ0.out.vlt _ e; omega, by have := HJ0.out.rb.below.size; omega⟩); clear hb hle)
                  | ((with_reducible refine at_store 12 ?_); refine wl_st0 (A' := #[.int .i64 2, .int .i64 an]) rfl rfl rfl rfl k12 rfl act_size (act_one _ _) ?_; intro W2 kn hu; replace HJ := Lib.hid (HJ.out.upd hu HG12.out.2.2.2.2 HG12.out.1 HG12.out.2.1 HG12.out.2.2.1 HG12.out.2.2.2.1); clear k12; have k12 := kn; clear kn hu)
                  | ((with_reducible refine at_slot 65 ?_); refine wl_ld1 (v := .int .i64 2) rfl rfl rfl k12 Try.underlying3 rfl rfl ?_)
                  | ((with_reducible refine at_slot 112 ?_); refine wl_callx rfl rfl Try.func12 (by kernel_rfl) rfl (i_clone HJ.out.rb.ri hrm2) rfl ?_; intro g2 V hR; have hC := HJ.out.clone hR; replace k12 := k12.keep hR.2.1; have HS1 := Lib.hid HJ.out.n1; have HS2 := Lib.hid HJ.out.n2; have HS3 := Lib.hid HJ.out.s1; have HS4 := Lib.hid HJ.out.s2; have HS5 := Lib.hid (And.intro HJ.out.rb.hg HJ.out.rb.ho); clear hR HJ; obtain ⟨⟨o2, hJ2, ho1, ho2⟩, hO, hg2, hog2⟩ := hC; have HJ := Lib.hid hJ2; have HOLD := Lib.hid hO; have HQ := Lib.hid (show g2 ≠ g ∧ o ≠ some g2 ∧ o2 ≠ some g ∧ (∀ q, o = some q → o2 ≠ some q) from ⟨hg2, hog2, ho1, ho2⟩); clear hJ2 hO hg2 hog2 ho1 ho2)
                  | ((with_reducible refine at_slot 117 ?_); refine wl_ld1 (v := .int .i64 an) rfl rfl rfl k12 Try.underlying3 rfl rfl ?_)
                  | ((with_reducible refine at_slot 118 ?_); refine wl_call rfl rfl Try.func9 (by kernel_rfl) rfl (i_put HOLD.out hrm2 an) rfl ?_; intro V6 hR; obtain ⟨o5, _, hc5, _⟩ := hR; replace HJ := Lib.hid (HJ.out.other hc5 HS5.out.1 HS5.out.2 HQ.out.1 HQ.out.2.1 HQ.out.2.2.1 (fun q hq e => HQ.out.2.2.2 q e hq) HS1.out HS2.out HS3.out HS4.out); clear hc5))
                obtain ⟨X, hX⟩ : ∃ X, X = atX L at_ := ⟨_, rfl⟩
                obtain ⟨Bv, hBv⟩ : ∃ Bv, Bv = atB L at_ := ⟨_, rfl⟩
                have hL16 : L.length ≤ 65536 := Nat.le_trans HJ.out.rb.ri.le.1 hrm2
                have HAT1 := fun W (hb : Below _ _ W) => r_at rm lost v L at_ hL16 W (HJ.out.lst.keep hb)
                have HAT2 := fun W (hb : Below _ _ W) => i_at (HJ.out.rb.ri.keep hb) hrm2 at_ hat0 hat1
                rw [← hX, ← hBv] at HAT1 HAT2
                replace HAT1 := Lib.hid HAT1
                replace HAT2 := Lib.hid HAT2
                clear hX hBv
                go_upto_region 32 with (first
                  | ((with_reducible refine at_slot 120 ?_); refine wl_ld0 rfl rfl rfl HJ.out.k9 Try.underlying31 rfl rf_size ?_)
                  | ((with_reducible refine at_slot 122 ?_); refine wl_call rfl rfl Try.func13 (by kernel_rfl) rfl (HAT1.out _ (Below.refl _ _)) rfl ?_; intro V hb; have HBA := Lib.hid hb; clear hb)
                  | ((with_reducible refine at_slot 128 ?_); refine wl_call rfl rfl Try.func14 (by kernel_rfl) rfl (HAT2.out _ HBA.out) rfl ?_; intro V2 hb; replace HJ := Lib.hid (HJ.out.keep (below_tr HBA.out hb)); clear hb HBA HAT1 HAT2))
                refine wp_region_held_drew (S := fun w' => Below V2.heap.size V2 w') (by kernel_rfl) (Below.refl _ _).drew (fun hS => ?_)
                refine wpAnyH_take (i := 0) (oi := ⟨some 131, _, _, _, _, _⟩) (v := .int .i64 X) rfl (by kernel_rfl) (by kernel_rfl) (by kernel_rfl) (fun _ _ _ h => h) (yi_mv (Or.inl rfl) rfl rfl) hS ?_
                simp only [Act.put, List.setIfInBounds_toArray, List.set_cons_zero, List.set_cons_succ]
                refine wpAnyH_take (i := 1) (oi := ⟨some 132, _, _, _, _, _⟩) (v := .int .i64 X) rfl (by kernel_rfl) (by kernel_rfl) (by kernel_rfl) (fun _ _ _ h => h) (yi_mv (Or.inl rfl) rfl rfl) hS ?_
                simp only [Act.put, List.setIfInBounds_toArray, List.set_cons_zero, List.set_cons_succ]
                refine wpAnyH_take (i := 2) (oi := ⟨some 133, _, _, _, _, _⟩) (v := .bool false) rfl (by kernel_rfl) (by kernel_rfl) (by kernel_rfl) (fun _ _ _ h => h) (yi_ok rfl (fun _ => by go_simp)) hS ?_
                simp only [Act.put, List.setIfInBounds_toArray, List.set_cons_zero, List.set_cons_succ]
                refine wpAnyH_take (i := 3) (oi := ⟨some 134, _, _, _, _, _⟩) (v := .bool false) rfl (by kernel_rfl) (by kernel_rfl) (by kernel_rfl) (fun _ _ _ h => h) (yi_mv (Or.inl rfl) rfl rfl) hS ?_
                simp only [Act.put, List.setIfInBounds_toArray, List.set_cons_zero, List.set_cons_succ]
                refine wpAnyH_take (i := 4) (oi := ⟨some 135, _, _, _, _, _⟩) (v := .bool Bv) rfl (by kernel_rfl) (by kernel_rfl) (by kernel_rfl) (fun _ _ _ h => h) (yi_mv (Or.inl rfl) (by kernel_rfl) rfl) hS ?_
                simp only [Act.put, List.setIfInBounds_toArray, List.set_cons_zero, List.set_cons_succ]
                refine wpAnyH_take (i := 5) (oi := ⟨some 136, _, _, _, _, _⟩) (v := .bool Bv) rfl (by kernel_rfl) (by kernel_rfl) (by kernel_rfl) (fun _ _ _ h => h) (yi_mv (Or.inl rfl) (by kernel_rfl) rfl) hS ?_
                simp only [Act.put, List.setIfInBounds_toArray, List.set_cons_zero, List.set_cons_succ]
                refine wpAnyH_take (i := 6) (oi := ⟨some 137, _, _, _, _, _⟩) (v := .bool false) rfl (by kernel_rfl) (by kernel_rfl) (by kernel_rfl) (fun _ _ _ h => h) (yi_ok (by kernel_rfl) (fun _ => by go_simp)) hS ?_
                simp only [Act.put, List.setIfInBounds_toArray, List.set_cons_zero, List.set_cons_succ]
                refine wpAnyH_take (i := 7) (oi := ⟨some 138, _, _, _, _, _⟩) (v := .bool false) rfl (by kernel_rfl) (by kernel_rfl) (by kernel_rfl) (fun _ _ _ h => h) (yi_pick0 rfl rfl rfl rfl) hS ?_
                simp only [Act.put, List.setIfInBounds_toArray, List.set_cons_zero, List.set_cons_succ]
                refine wpAnyH_take (i := 8) (oi := ⟨some 139, _, _, _, _, _⟩) (v := .bool false) rfl (by kernel_rfl) (by kernel_rfl) (by kernel_rfl) (fun _ _ _ h => h) (yi_mv (Or.inl rfl) rfl rfl) hS ?_
                simp only [Act.put, List.setIfInBounds_toArray, List.set_cons_zero, List.set_cons_succ]
                refine wpAnyH_take (i := 9) (oi := ⟨some 140, _, _, _, _, _⟩) (v := .pointer (some ⟨g2, 0, none⟩)) rfl (by kernel_rfl) (by kernel_rfl) (by kernel_rfl) (fun _ _ _ h => h) (yi_mv (Or.inl rfl) (by kernel_rfl) rfl) hS ?_
                simp only [Act.put, List.setIfInBounds_toArray, List.set_cons_zero, List.set_cons_succ]
                refine wpAnyH_take (i := 11) (oi := ⟨some 142, _, _, _, _, _⟩) (v := .pointer (some ⟨g9, 2, none⟩)) rfl (by kernel_rfl) (by kernel_rfl) (by kernel_rfl) (fun _ _ _ h => h) (yi_ok (by kernel_rfl) (fun _ => by go_simp)) hS ?_
                simp only [Act.put, List.setIfInBounds_toArray, List.set_cons_zero, List.set_cons_succ]
                refine wpAnyH_take (i := 12) (oi := ⟨some 143, _, _, _, _, _⟩) (v := v) rfl (by kernel_rfl) (by kernel_rfl) (by kernel_rfl) (fun _ _ _ h => h) (yi_ld1 (v := v) rfl (by kernel_rfl) rfl (fun w' h => HJ.out.k9.keep h) Try.underlying29 rfl rfl) hS ?_
                simp only [Act.put, List.setIfInBounds_toArray, List.set_cons_zero, List.set_cons_succ]
                refine wpAnyH_take (i := 13) (oi := ⟨some 144, _, _, _, _, _⟩) (v := .int .i64 L.length) rfl (by kernel_rfl) (by kernel_rfl) (by kernel_rfl) (fun _ _ _ h => h) (yi_lenL rfl (by kernel_rfl) rfl Try.underlying29 HJ.out.lst.sl) hS ?_
                simp only [Act.put, List.setIfInBounds_toArray, List.set_cons_zero, List.set_cons_succ]
                refine anyH_call (i := 10) (op := ⟨some 141, _, _, _, _, _⟩) (by kernel_rfl) rfl rfl (by kernel_rfl) Try.func15 (by kernel_rfl) rfl (i_len (HJ.out.rb.ri.keep hS)) rfl (fun w' hb => below_tr hS hb) (fun w' hb hS2 => ?_)
                simp only [Act.put, List.setIfInBounds_toArray, List.set_cons_zero, List.set_cons_succ]
                clear hb
                replace hS := hS2
                clear hS2
                refine wpAnyH_take (i := 14) (oi := ⟨some 145, _, _, _, _, _⟩) (v := .bool false) rfl (by kernel_rfl) (by kernel_rfl) (by kernel_rfl) (fun _ _ _ h => h) (yi_ok (by kernel_rfl) (fun _ => by go_simp)) hS ?_
                simp only [Act.put, List.setIfInBounds_toArray, List.set_cons_zero, List.set_cons_succ]
                refine wpAnyH_take (i := 15) (oi := ⟨some 146, _, _, _, _, _⟩) (v := .bool false) rfl (by kernel_rfl) (by kernel_rfl) (by kernel_rfl) (fun _ _ _ h => h) (yi_pick0 rfl rfl rfl rfl) hS ?_
                simp only [Act.put, List.setIfInBounds_toArray, List.set_cons_zero, List.set_cons_succ]
                refine wpAnyH_take (i := 16) (oi := ⟨some 147, _, _, _, _, _⟩) (v := .bool false) rfl (by kernel_rfl) (by kernel_rfl) (by kernel_rfl) (fun _ _ _ h => h) (yi_mv (Or.inl rfl) rfl rfl) hS ?_
                simp only [Act.put, List.setIfInBounds_toArray, List.set_cons_zero, List.set_cons_succ]
                refine wpAnyH_take (i := 17) (oi := ⟨some 148, _, _, _, _, _⟩) (v := .pointer (some ⟨g2, 0, none⟩)) rfl (by kernel_rfl) (by kernel_rfl) (by kernel_rfl) (fun _ _ _ h => h) (yi_mv (Or.inl rfl) (by kernel_rfl) rfl) hS ?_
                simp only [Act.put, List.setIfInBounds_toArray, List.set_cons_zero, List.set_cons_succ]
                refine wpAnyH_take (i := 19) (oi := ⟨some 150, _, _, _, _, _⟩) (v := .pointer (some ⟨g9, 1, none⟩)) rfl (by kernel_rfl) (by kernel_rfl) (by kernel_rfl) (fun _ _ _ h => h) (yi_ok (by kernel_rfl) (fun _ => by go_simp)) hS ?_
                simp only [Act.put, List.setIfInBounds_toArray, List.set_cons_zero, List.set_cons_succ]
                refine wpAnyH_take (i := 20) (oi := ⟨some 151, _, _, _, _, _⟩) (v := .int .u64 lost) rfl (by kernel_rfl) (by kernel_rfl) (by kernel_rfl) (fun _ _ _ h => h) (yi_ld1 (v := .int .u64 lost) rfl (by kernel_rfl) rfl (fun w' h => HJ.out.k9.keep h) Try.underlying28 rfl rfl) hS ?_
                simp only [Act.put, List.setIfInBounds_toArray, List.set_cons_zero, List.set_cons_succ]
                refine anyH_call (i := 18) (op := ⟨some 149, _, _, _, _, _⟩) (by kernel_rfl) rfl rfl (by kernel_rfl) Try.func16 (by kernel_rfl) rfl (i_lost (HJ.out.rb.ri.keep hS)) rfl (fun w' hb => below_tr hS hb) (fun w' hb hS2 => ?_)
                simp only [Act.put, List.setIfInBounds_toArray, List.set_cons_zero, List.set_cons_succ]
                clear hb
                replace hS := hS2
                clear hS2
                refine wpAnyH_take (i := 21) (oi := ⟨some 152, _, _, _, _, _⟩) (v := .bool false) rfl (by kernel_rfl) (by kernel_rfl) (by kernel_rfl) (fun _ _ _ h => h) (yi_ok (by kernel_rfl) (fun _ => by go_simp)) hS ?_
                simp only [Act.put, List.setIfInBounds_toArray, List.set_cons_zero, List.set_cons_succ]
                refine wpAnyH_take (i := 22) (oi := ⟨some 153, _, _, _, _, _⟩) (v := .bool false) rfl (by kernel_rfl) (by kernel_rfl) (by kernel_rfl) (fun _ _ _ h => h) (yi_pick0 rfl rfl rfl rfl) hS ?_
                simp only [Act.put, List.setIfInBounds_toArray, List.set_cons_zero, List.set_cons_succ]
                refine wpAnyH_take (i := 23) (oi := ⟨some 154, _, _, _, _, _⟩) (v := .bool false) rfl (by kernel_rfl) (by kernel_rfl) (by kernel_rfl) (fun _ _ _ h => h) (yi_mv (Or.inl rfl) rfl rfl) hS ?_
                simp only [Act.put, List.setIfInBounds_toArray, List.set_cons_zero, List.set_cons_succ]
                refine wpAnyH_take (i := 24) (oi := ⟨some 155, _, _, _, _, _⟩) (v := .pointer (some ⟨g2, 0, none⟩)) rfl (by kernel_rfl) (by kernel_rfl) (by kernel_rfl) (fun _ _ _ h => h) (yi_mv (Or.inl rfl) (by kernel_rfl) rfl) hS ?_
                simp only [Act.put, List.setIfInBounds_toArray, List.set_cons_zero, List.set_cons_succ]
                refine wpAnyH_take (i := 26) (oi := ⟨some 157, _, _, _, _, _⟩) (v := .pointer (some ⟨g9, 2, none⟩)) rfl (by kernel_rfl) (by kernel_rfl) (by kernel_rfl) (fun _ _ _ h => h) (yi_ok (by kernel_rfl) (fun _ => by go_simp)) hS ?_
                simp only [Act.put, List.setIfInBounds_toArray, List.set_cons_zero, List.set_cons_succ]
                refine wpAnyH_take (i := 27) (oi := ⟨some 158, _, _, _, _, _⟩) (v := v) rfl (by kernel_rfl) (by kernel_rfl) (by kernel_rfl) (fun _ _ _ h => h) (yi_ld1 (v := v) rfl (by kernel_rfl) rfl (fun w' h => HJ.out.k9.keep h) Try.underlying29 rfl rfl) hS ?_
                simp only [Act.put, List.setIfInBounds_toArray, List.set_cons_zero, List.set_cons_succ]
                refine anyH_callx (i := 25) (op := ⟨some 156, _, _, _, _, _⟩) (by kernel_rfl) rfl rfl (by kernel_rfl) Try.func18 (by kernel_rfl) rfl (i_all (HJ.out.rb.ri.keep hS) hrm2) rfl (fun x w' hR => below_tr hS hR.2) (fun v8 w' hR hS2 => ?_)
                simp only [Act.put, List.setIfInBounds_toArray, List.set_cons_zero, List.set_cons_succ]
                have HL8 := Lib.hid (own_lst (xs := L) ci_len hR.1 rfl)
                clear hR
                replace hS := hS2
                clear hS2
                refine anyH_call (i := 28) (op := ⟨some 159, _, _, _, _, _⟩) (by kernel_rfl) rfl rfl (by kernel_rfl) Try.func17 (by kernel_rfl) rfl (same_yes v8 v L (by omega) _ HL8.out (HJ.out.lst.keep hS)) rfl (fun w' hb => below_tr hS hb) (fun w' hb hS2 => ?_)
                simp only [Act.put, List.setIfInBounds_toArray, List.set_cons_zero, List.set_cons_succ]
                clear hb
                replace hS := hS2
                clear hS2
                refine wpAnyH_take (i := 29) (oi := ⟨some 160, _, _, _, _, _⟩) (v := .bool false) rfl (by kernel_rfl) (by kernel_rfl) (by kernel_rfl) (fun _ _ _ h => h) (yi_not rfl (by kernel_rfl) rfl rfl) hS ?_
                simp only [Act.put, List.setIfInBounds_toArray, List.set_cons_zero, List.set_cons_succ]
                refine wpAnyH_take (i := 30) (oi := ⟨some 161, _, _, _, _, _⟩) (v := .bool false) rfl (by kernel_rfl) (by kernel_rfl) (by kernel_rfl) (fun _ _ _ h => h) (yi_pick0 rfl rfl rfl rfl) hS ?_
                simp only [Act.put, List.setIfInBounds_toArray, List.set_cons_zero, List.set_cons_succ]
                refine wpAnyH_done (by kernel_rfl) ?_ _
                replace HJ := Lib.hid (HJ.out.keep hS)
                clear hS
                go_wp2_with fail
                go_roundw
                case rel => exact ⟨k + 1, _, _, _, _, _, HJ.out, rfl, by go_num, hlt⟩
                case measure => simp [intOf]; omega
              · have d0 : (ak == 0) = false := by simpa using hk0
                have d1 : (ak == 1) = false := by simpa using hk1
                have d2 : (ak == 2) = false := by simpa using hk2
                clear hk0 hk1 hk2
                go_upto_region 30 with (first
                  | ((with_reducible refine at_slot 62 ?_); refine wl_ixo rfl rfl rfl rfl Try.underlying22 rfl hlt HMM ?_)
                  | ((with_reducible refine at_slot 63 ?_); refine wl_ldr (B := #[.int .i64 ak, .int .i64 an]) rfl rfl rfl KX.out Try.underlying35 rfl act_size ?_)
                  | ((with_reducible refine at_slot 12 ?_); refine wl_alloc (A := #[.int .i64 0, .int .i64 0]) rfl rfl act_zero rfl ?_; intro W1 g12 k12 hb hle; replace HJ := Lib.hid (HJ.out.keep hb); have HG12 := Lib.hid (show g12 ≠ g ∧ o ≠ some g12 ∧ g12 ≠ g9 ∧ v.ownBlock ≠ some g12 ∧ w.heap.size ≤ g12 from ⟨by have := HJ0.out.rb.ri.lt; omega, fun e => by have := HJ0.out.rb.ri.o_lt _ e; omega, by have := HJ0.out.k9.lt; omega, fun e => by have := HJ0.out.vlt _ e; omega, by have := HJ0.out.rb.below.size; omega⟩); clear hb hle)
                  | ((with_reducible refine at_store 12 ?_); refine wl_st0 (A' := #[.int .i64 ak, .int .i64 an]) rfl rfl rfl rfl k12 rfl act_size (act_one _ _) ?_; intro W2 kn hu; replace HJ := Lib.hid (HJ.out.upd hu HG12.out.2.2.2.2 HG12.out.1 HG12.out.2.1 HG12.out.2.2.1 HG12.out.2.2.2.1); clear k12; have k12 := kn; clear kn hu)
                  | ((with_reducible refine at_slot 65 ?_); refine wl_ld1 (v := .int .i64 ak) rfl rfl rfl k12 Try.underlying3 rfl rfl ?_))
                obtain ⟨X, hX⟩ : ∃ X, X = atX L at_ := ⟨_, rfl⟩
                obtain ⟨Bv, hBv⟩ : ∃ Bv, Bv = atB L at_ := ⟨_, rfl⟩
                have hL16 : L.length ≤ 65536 := Nat.le_trans HJ.out.rb.ri.le.1 hrm2
                have HAT1 := fun W (hb : Below _ _ W) => r_at rm lost v L at_ hL16 W (HJ.out.lst.keep hb)
                have HAT2 := fun W (hb : Below _ _ W) => i_at (HJ.out.rb.ri.keep hb) hrm2 at_ hat0 hat1
                rw [← hX, ← hBv] at HAT1 HAT2
                replace HAT1 := Lib.hid HAT1
                replace HAT2 := Lib.hid HAT2
                clear hX hBv
                go_upto_region 32 with (first
                  | ((with_reducible refine at_slot 120 ?_); refine wl_ld0 rfl rfl rfl HJ.out.k9 Try.underlying31 rfl rf_size ?_)
                  | ((with_reducible refine at_slot 122 ?_); refine wl_call rfl rfl Try.func13 (by kernel_rfl) rfl (HAT1.out _ (Below.refl _ _)) rfl ?_; intro V hb; have HBA := Lib.hid hb; clear hb)
                  | ((with_reducible refine at_slot 128 ?_); refine wl_call rfl rfl Try.func14 (by kernel_rfl) rfl (HAT2.out _ HBA.out) rfl ?_; intro V2 hb; replace HJ := Lib.hid (HJ.out.keep (below_tr HBA.out hb)); clear hb HBA HAT1 HAT2))
                refine wp_region_held_drew (S := fun w' => Below V2.heap.size V2 w') (by kernel_rfl) (Below.refl _ _).drew (fun hS => ?_)
                refine wpAnyH_take (i := 0) (oi := ⟨some 131, _, _, _, _, _⟩) (v := .int .i64 X) rfl (by kernel_rfl) (by kernel_rfl) (by kernel_rfl) (fun _ _ _ h => h) (yi_mv (Or.inl rfl) rfl rfl) hS ?_
                simp only [Act.put, List.setIfInBounds_toArray, List.set_cons_zero, List.set_cons_succ]
                refine wpAnyH_take (i := 1) (oi := ⟨some 132, _, _, _, _, _⟩) (v := .int .i64 X) rfl (by kernel_rfl) (by kernel_rfl) (by kernel_rfl) (fun _ _ _ h => h) (yi_mv (Or.inl rfl) rfl rfl) hS ?_
                simp only [Act.put, List.setIfInBounds_toArray, List.set_cons_zero, List.set_cons_succ]
                refine wpAnyH_take (i := 2) (oi := ⟨some 133, _, _, _, _, _⟩) (v := .bool false) rfl (by kernel_rfl) (by kernel_rfl) (by kernel_rfl) (fun _ _ _ h => h) (yi_ok rfl (fun _ => by go_simp)) hS ?_
                simp only [Act.put, List.setIfInBounds_toArray, List.set_cons_zero, List.set_cons_succ]
                refine wpAnyH_take (i := 3) (oi := ⟨some 134, _, _, _, _, _⟩) (v := .bool false) rfl (by kernel_rfl) (by kernel_rfl) (by kernel_rfl) (fun _ _ _ h => h) (yi_mv (Or.inl rfl) rfl rfl) hS ?_
                simp only [Act.put, List.setIfInBounds_toArray, List.set_cons_zero, List.set_cons_succ]
                refine wpAnyH_take (i := 4) (oi := ⟨some 135, _, _, _, _, _⟩) (v := .bool Bv) rfl (by kernel_rfl) (by kernel_rfl) (by kernel_rfl) (fun _ _ _ h => h) (yi_mv (Or.inl rfl) (by kernel_rfl) rfl) hS ?_
                simp only [Act.put, List.setIfInBounds_toArray, List.set_cons_zero, List.set_cons_succ]
                refine wpAnyH_take (i := 5) (oi := ⟨some 136, _, _, _, _, _⟩) (v := .bool Bv) rfl (by kernel_rfl) (by kernel_rfl) (by kernel_rfl) (fun _ _ _ h => h) (yi_mv (Or.inl rfl) (by kernel_rfl) rfl) hS ?_
                simp only [Act.put, List.setIfInBounds_toArray, List.set_cons_zero, List.set_cons_succ]
                refine wpAnyH_take (i := 6) (oi := ⟨some 137, _, _, _, _, _⟩) (v := .bool false) rfl (by kernel_rfl) (by kernel_rfl) (by kernel_rfl) (fun _ _ _ h => h) (yi_ok (by kernel_rfl) (fun _ => by go_simp)) hS ?_
                simp only [Act.put, List.setIfInBounds_toArray, List.set_cons_zero, List.set_cons_succ]
                refine wpAnyH_take (i := 7) (oi := ⟨some 138, _, _, _, _, _⟩) (v := .bool false) rfl (by kernel_rfl) (by kernel_rfl) (by kernel_rfl) (fun _ _ _ h => h) (yi_pick0 rfl rfl rfl rfl) hS ?_
                simp only [Act.put, List.setIfInBounds_toArray, List.set_cons_zero, List.set_cons_succ]
                refine wpAnyH_take (i := 8) (oi := ⟨some 139, _, _, _, _, _⟩) (v := .bool false) rfl (by kernel_rfl) (by kernel_rfl) (by kernel_rfl) (fun _ _ _ h => h) (yi_mv (Or.inl rfl) rfl rfl) hS ?_
                simp only [Act.put, List.setIfInBounds_toArray, List.set_cons_zero, List.set_cons_succ]
                refine wpAnyH_take (i := 9) (oi := ⟨some 140, _, _, _, _, _⟩) (v := .pointer (some ⟨g, 0, none⟩)) rfl (by kernel_rfl) (by kernel_rfl) (by kernel_rfl) (fun _ _ _ h => h) (yi_mv (Or.inl rfl) (by kernel_rfl) rfl) hS ?_
                simp only [Act.put, List.setIfInBounds_toArray, List.set_cons_zero, List.set_cons_succ]
                refine wpAnyH_take (i := 11) (oi := ⟨some 142, _, _, _, _, _⟩) (v := .pointer (some ⟨g9, 2, none⟩)) rfl (by kernel_rfl) (by kernel_rfl) (by kernel_rfl) (fun _ _ _ h => h) (yi_ok (by kernel_rfl) (fun _ => by go_simp)) hS ?_
                simp only [Act.put, List.setIfInBounds_toArray, List.set_cons_zero, List.set_cons_succ]
                refine wpAnyH_take (i := 12) (oi := ⟨some 143, _, _, _, _, _⟩) (v := v) rfl (by kernel_rfl) (by kernel_rfl) (by kernel_rfl) (fun _ _ _ h => h) (yi_ld1 (v := v) rfl (by kernel_rfl) rfl (fun w' h => HJ.out.k9.keep h) Try.underlying29 rfl rfl) hS ?_
                simp only [Act.put, List.setIfInBounds_toArray, List.set_cons_zero, List.set_cons_succ]
                refine wpAnyH_take (i := 13) (oi := ⟨some 144, _, _, _, _, _⟩) (v := .int .i64 L.length) rfl (by kernel_rfl) (by kernel_rfl) (by kernel_rfl) (fun _ _ _ h => h) (yi_lenL rfl (by kernel_rfl) rfl Try.underlying29 HJ.out.lst.sl) hS ?_
                simp only [Act.put, List.setIfInBounds_toArray, List.set_cons_zero, List.set_cons_succ]
                refine anyH_call (i := 10) (op := ⟨some 141, _, _, _, _, _⟩) (by kernel_rfl) rfl rfl (by kernel_rfl) Try.func15 (by kernel_rfl) rfl (i_len (HJ.out.rb.ri.keep hS)) rfl (fun w' hb => below_tr hS hb) (fun w' hb hS2 => ?_)
                simp only [Act.put, List.setIfInBounds_toArray, List.set_cons_zero, List.set_cons_succ]
                clear hb
                replace hS := hS2
                clear hS2
                refine wpAnyH_take (i := 14) (oi := ⟨some 145, _, _, _, _, _⟩) (v := .bool false) rfl (by kernel_rfl) (by kernel_rfl) (by kernel_rfl) (fun _ _ _ h => h) (yi_ok (by kernel_rfl) (fun _ => by go_simp)) hS ?_
                simp only [Act.put, List.setIfInBounds_toArray, List.set_cons_zero, List.set_cons_succ]
                refine wpAnyH_take (i := 15) (oi := ⟨some 146, _, _, _, _, _⟩) (v := .bool false) rfl (by kernel_rfl) (by kernel_rfl) (by kernel_rfl) (fun _ _ _ h => h) (yi_pick0 rfl rfl rfl rfl) hS ?_
                simp only [Act.put, List.setIfInBounds_toArray, List.set_cons_zero, List.set_cons_succ]
                refine wpAnyH_take (i := 16) (oi := ⟨some 147, _, _, _, _, _⟩) (v := .bool false) rfl (by kernel_rfl) (by kernel_rfl) (by kernel_rfl) (fun _ _ _ h => h) (yi_mv (Or.inl rfl) rfl rfl) hS ?_
                simp only [Act.put, List.setIfInBounds_toArray, List.set_cons_zero, List.set_cons_succ]
                refine wpAnyH_take (i := 17) (oi := ⟨some 148, _, _, _, _, _⟩) (v := .pointer (some ⟨g, 0, none⟩)) rfl (by kernel_rfl) (by kernel_rfl) (by kernel_rfl) (fun _ _ _ h => h) (yi_mv (Or.inl rfl) (by kernel_rfl) rfl) hS ?_
                simp only [Act.put, List.setIfInBounds_toArray, List.set_cons_zero, List.set_cons_succ]
                refine wpAnyH_take (i := 19) (oi := ⟨some 150, _, _, _, _, _⟩) (v := .pointer (some ⟨g9, 1, none⟩)) rfl (by kernel_rfl) (by kernel_rfl) (by kernel_rfl) (fun _ _ _ h => h) (yi_ok (by kernel_rfl) (fun _ => by go_simp)) hS ?_
                simp only [Act.put, List.setIfInBounds_toArray, List.set_cons_zero, List.set_cons_succ]
                refine wpAnyH_take (i := 20) (oi := ⟨some 151, _, _, _, _, _⟩) (v := .int .u64 lost) rfl (by kernel_rfl) (by kernel_rfl) (by kernel_rfl) (fun _ _ _ h => h) (yi_ld1 (v := .int .u64 lost) rfl (by kernel_rfl) rfl (fun w' h => HJ.out.k9.keep h) Try.underlying28 rfl rfl) hS ?_
                simp only [Act.put, List.setIfInBounds_toArray, List.set_cons_zero, List.set_cons_succ]
                refine anyH_call (i := 18) (op := ⟨some 149, _, _, _, _, _⟩) (by kernel_rfl) rfl rfl (by kernel_rfl) Try.func16 (by kernel_rfl) rfl (i_lost (HJ.out.rb.ri.keep hS)) rfl (fun w' hb => below_tr hS hb) (fun w' hb hS2 => ?_)
                simp only [Act.put, List.setIfInBounds_toArray, List.set_cons_zero, List.set_cons_succ]
                clear hb
                replace hS := hS2
                clear hS2
                refine wpAnyH_take (i := 21) (oi := ⟨some 152, _, _, _, _, _⟩) (v := .bool false) rfl (by kernel_rfl) (by kernel_rfl) (by kernel_rfl) (fun _ _ _ h => h) (yi_ok (by kernel_rfl) (fun _ => by go_simp)) hS ?_
                simp only [Act.put, List.setIfInBounds_toArray, List.set_cons_zero, List.set_cons_succ]
                refine wpAnyH_take (i := 22) (oi := ⟨some 153, _, _, _, _, _⟩) (v := .bool false) rfl (by kernel_rfl) (by kernel_rfl) (by kernel_rfl) (fun _ _ _ h => h) (yi_pick0 rfl rfl rfl rfl) hS ?_
                simp only [Act.put, List.setIfInBounds_toArray, List.set_cons_zero, List.set_cons_succ]
                refine wpAnyH_take (i := 23) (oi := ⟨some 154, _, _, _, _, _⟩) (v := .bool false) rfl (by kernel_rfl) (by kernel_rfl) (by kernel_rfl) (fun _ _ _ h => h) (yi_mv (Or.inl rfl) rfl rfl) hS ?_
                simp only [Act.put, List.setIfInBounds_toArray, List.set_cons_zero, List.set_cons_succ]
                refine wpAnyH_take (i := 24) (oi := ⟨some 155, _, _, _, _, _⟩) (v := .pointer (some ⟨g, 0, none⟩)) rfl (by kernel_rfl) (by kernel_rfl) (by kernel_rfl) (fun _ _ _ h => h) (yi_mv (Or.inl rfl) (by kernel_rfl) rfl) hS ?_
                simp only [Act.put, List.setIfInBounds_toArray, List.set_cons_zero, List.set_cons_succ]
                refine wpAnyH_take (i := 26) (oi := ⟨some 157, _, _, _, _, _⟩) (v := .pointer (some ⟨g9, 2, none⟩)) rfl (by kernel_rfl) (by kernel_rfl) (by kernel_rfl) (fun _ _ _ h => h) (yi_ok (by kernel_rfl) (fun _ => by go_simp)) hS ?_
                simp only [Act.put, List.setIfInBounds_toArray, List.set_cons_zero, List.set_cons_succ]
                refine wpAnyH_take (i := 27) (oi := ⟨some 158, _, _, _, _, _⟩) (v := v) rfl (by kernel_rfl) (by kernel_rfl) (by kernel_rfl) (fun _ _ _ h => h) (yi_ld1 (v := v) rfl (by kernel_rfl) rfl (fun w' h => HJ.out.k9.keep h) Try.underlying29 rfl rfl) hS ?_
                simp only [Act.put, List.setIfInBounds_toArray, List.set_cons_zero, List.set_cons_succ]
                refine anyH_callx (i := 25) (op := ⟨some 156, _, _, _, _, _⟩) (by kernel_rfl) rfl rfl (by kernel_rfl) Try.func18 (by kernel_rfl) rfl (i_all (HJ.out.rb.ri.keep hS) hrm2) rfl (fun x w' hR => below_tr hS hR.2) (fun v8 w' hR hS2 => ?_)
                simp only [Act.put, List.setIfInBounds_toArray, List.set_cons_zero, List.set_cons_succ]
                have HL8 := Lib.hid (own_lst (xs := L) ci_len hR.1 rfl)
                clear hR
                replace hS := hS2
                clear hS2
                refine anyH_call (i := 28) (op := ⟨some 159, _, _, _, _, _⟩) (by kernel_rfl) rfl rfl (by kernel_rfl) Try.func17 (by kernel_rfl) rfl (same_yes v8 v L (by omega) _ HL8.out (HJ.out.lst.keep hS)) rfl (fun w' hb => below_tr hS hb) (fun w' hb hS2 => ?_)
                simp only [Act.put, List.setIfInBounds_toArray, List.set_cons_zero, List.set_cons_succ]
                clear hb
                replace hS := hS2
                clear hS2
                refine wpAnyH_take (i := 29) (oi := ⟨some 160, _, _, _, _, _⟩) (v := .bool false) rfl (by kernel_rfl) (by kernel_rfl) (by kernel_rfl) (fun _ _ _ h => h) (yi_not rfl (by kernel_rfl) rfl rfl) hS ?_
                simp only [Act.put, List.setIfInBounds_toArray, List.set_cons_zero, List.set_cons_succ]
                refine wpAnyH_take (i := 30) (oi := ⟨some 161, _, _, _, _, _⟩) (v := .bool false) rfl (by kernel_rfl) (by kernel_rfl) (by kernel_rfl) (fun _ _ _ h => h) (yi_pick0 rfl rfl rfl rfl) hS ?_
                simp only [Act.put, List.setIfInBounds_toArray, List.set_cons_zero, List.set_cons_succ]
                refine wpAnyH_done (by kernel_rfl) ?_ _
                replace HJ := Lib.hid (HJ.out.keep hS)
                clear hS
                go_wp2_with fail
                go_roundw
                case rel => exact ⟨k + 1, _, _, _, _, _, HJ.out, rfl, by go_num, hlt⟩
                case measure => simp [intOf]; omega
        · go_wp2_with fail
          go_ret
          exact ⟨rfl, HJ.out.rb.below⟩
end Go.Proofs.Ythiiclekdikndaa
