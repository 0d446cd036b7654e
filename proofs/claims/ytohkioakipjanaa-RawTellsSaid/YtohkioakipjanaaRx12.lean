/-
  Both answer alike: Put, Range, Last of raw events, the program's and the document's.
-/
import Derived.Test.YtohkioakipjanaaRu12
namespace Go.Proofs.Ytohkioakipjanaa
open Go Go.RowKit

theorem lst_none (w : World) : Lst 4 cE w (.slice none 0 0) ([] : List Ev) := ⟨none, 0, 0, 0, rfl, fun h => absurd h (by simp), fun i x hx => by simp at hx⟩
theorem put_both (lost mark : Int) (v : Value) (l : List Ev) (hl : l.length ≤ 1000000) (hin : AllIn l) (room : Int) (e : Ev) (hie : EvIn e) :
    ∃ (lo mk c : Int) (L : List Ev), L.length ≤ 1000001 ∧ (∀ w, Lst 4 cE w v l → Calls Try.prog 8 #[.agg #[.int .i64 lost, .int .i64 mark, v], .int .i64 room, .agg (evA e)] w fun r w' => ∃ v', r = .returned (.tuple #[.agg #[.int .i64 lo, .int .i64 mk, v'], .int .i64 c]) ∧ Lst 4 cE w' v' L ∧ Below w.heap.size w w') ∧ (∀ w, Lst 4 cE w v l → Calls Try.prog 9 #[.agg #[.int .i64 lost, .int .i64 mark, v], .int .i64 room, .agg (evA e)] w fun r w' => ∃ v', r = .returned (.tuple #[.agg #[.int .i64 lo, .int .i64 mk, v'], .int .i64 c]) ∧ Lst 4 cE w' v' L ∧ Below w.heap.size w w') := by
  by_cases hok : RawOk lost mark l room
  · by_cases he : EvOk e
    · obtain ⟨rm, rfl⟩ : ∃ rm : Nat, room = rm := ⟨room.toNat, by have := hok.r1; omega⟩
      rcases hc : l.length with _ | j
      · have hr : l.length < rm := by have := hok.r1; omega
        exact ⟨lost, mark, 0, l ++ [e], by simp; omega, fun w h => (put_first lost mark v l hl hin rm e hie w h hok he hc hr).mono (fun e w' h => by obtain ⟨v', h1, h2, h3⟩ := h; exact ⟨v', h1, h2.1, h3⟩), fun w h => rput_first lost mark v l hl hin rm e hie w h hok he hc hr⟩
      · have hx : l[j]? = some l[j] := List.getElem?_eq_getElem (by omega)
        generalize l[j] = x at hx
        by_cases hlt : x.t < e.t
        · by_cases hr : l.length = rm
          · by_cases hm : lost = 70368744177664
            · exact ⟨0, 0, 1, [], by simp, fun w h => (put_range lost mark v l hl hin rm e hie w h hok he j x hc hx hlt hm (by omega)).mono (fun e w' h => ⟨_, h.1, lst_none _, h.2⟩), fun w h => (rput_range lost mark v l hl hin rm e hie w h hok he j x hc hx hlt hm (by omega)).mono (fun e w' h => ⟨_, h.1, lst_none _, h.2⟩)⟩
            · have hm2 : lost < 70368744177664 := by rcases hok.rl with h | h; omega; have := h.2.2.1; omega
              have hx0 : l[0]? = some l[0] := List.getElem?_eq_getElem (by omega)
              exact ⟨lost + 1, _, 0, l.tail ++ [e], by simp; omega, fun w h => (put_full lost mark v l hl hin rm e hie w h hok he j x hc hx hlt hr hm2 _ hx0).mono (fun e w' h => by obtain ⟨v', h1, h2, h3⟩ := h; exact ⟨v', h1, h2.1, h3⟩), fun w h => rput_full lost mark v l hl hin rm e hie w h hok he j x hc hx hlt hr hm2 _ hx0⟩
          · have hr2 : l.length < rm := by have := hok.len; omega
            exact ⟨lost, mark, 0, l ++ [e], by simp; omega, fun w h => (put_more lost mark v l hl hin rm e hie w h hok he j x hc hx hlt hr2).mono (fun e w' h => by obtain ⟨v', h1, h2, h3⟩ := h; exact ⟨v', h1, h2.1, h3⟩), fun w h => rput_more lost mark v l hl hin rm e hie w h hok he j x hc hx hlt hr2⟩
        · exact ⟨0, 0, 9, [], by simp, fun w h => (put_time lost mark v l hl hin rm e hie w h hok he j x hc hx hlt).mono (fun e w' h => ⟨_, h.1, lst_none _, h.2⟩), fun w h => (rput_time lost mark v l hl hin rm e hie w h hok he j x hc hx hlt).mono (fun e w' h => ⟨_, h.1, lst_none _, h.2⟩)⟩
    · exact ⟨0, 0, 2, [], by simp, fun w h => (put_ev lost mark v l hl hin room e hie w h hok he).mono (fun e w' h => ⟨_, h.1, lst_none _, h.2⟩), fun w h => (rput_ev lost mark v l hl hin room e hie w h hok he).mono (fun e w' h => ⟨_, h.1, lst_none _, h.2⟩)⟩
  · exact ⟨0, 0, 2, [], by simp, fun w h => (put_form lost mark v l hl hin room e hie w h hok).mono (fun e w' h => ⟨_, h.1, lst_none _, h.2⟩), fun w h => (rput_form lost mark v l hl hin room e hie w h hok).mono (fun e w' h => ⟨_, h.1, lst_none _, h.2⟩)⟩
theorem range_both (lost mark : Int) (v : Value) (l : List Ev) (hl : l.length ≤ 1000000) (a b : Int) :
    ∃ (c : Int) (L : List Ev), L.length ≤ 1000000 ∧ (∀ w, Lst 4 cE w v l → Calls Try.prog 10 #[.agg #[.int .i64 lost, .int .i64 mark, v], .int .i64 a, .int .i64 b] w fun r w' => ∃ v', r = .returned (.tuple #[v', .int .i64 c]) ∧ Lst 4 cE w' v' L ∧ Below w.heap.size w w') ∧ (∀ w, Lst 4 cE w v l → Calls Try.prog 11 #[.agg #[.int .i64 lost, .int .i64 mark, v], .int .i64 a, .int .i64 b] w fun r w' => ∃ v', r = .returned (.tuple #[v', .int .i64 c]) ∧ Lst 4 cE w' v' L ∧ Below w.heap.size w w') := by
  by_cases hab : a < b
  · by_cases h1 : 0 < lost ∧ a ≤ mark
    · exact ⟨11, [], by simp, fun w _ => (rg_old lost mark v a b hab h1.1 h1.2 w).mono (fun e w' h => ⟨_, h.1, lst_none _, h.2⟩), fun w _ => (rr_old lost mark v a b hab h1.1 h1.2 w).mono (fun e w' h => ⟨_, h.1, lst_none _, h.2⟩)⟩
    · exact ⟨0, l.filter (inB a b), Nat.le_trans (List.length_filter_le _ _) hl, fun w h => (rg_ok lost mark v l hl a b hab h1 w h).mono (fun e w' h => by obtain ⟨v', h1, h2, h3⟩ := h; exact ⟨v', h1, own_lst cE_len h2 rfl, h3⟩), fun w h => (rr_ok lost mark v l hl a b hab h1 w h).mono (fun e w' h => by obtain ⟨v', h1, h2, h3⟩ := h; exact ⟨v', h1, own_lst cE_len h2 rfl, h3⟩)⟩
  · exact ⟨1, [], by simp, fun w _ => (rg_range lost mark v a b (by omega) w).mono (fun e w' h => ⟨_, h.1, lst_none _, h.2⟩), fun w _ => (rr_range lost mark v a b (by omega) w).mono (fun e w' h => ⟨_, h.1, lst_none _, h.2⟩)⟩
theorem last_both (lost mark : Int) (v : Value) (l : List Ev) (hl : l.length ≤ 1000000) :
    ∃ (x : Ev) (c : Int), (∀ w, Lst 4 cE w v l → Calls Try.prog 12 #[.agg #[.int .i64 lost, .int .i64 mark, v]] w fun r w' => r = .returned (.tuple #[.agg (evA x), .int .i64 c]) ∧ Below w.heap.size w w') ∧ (∀ w, Lst 4 cE w v l → Calls Try.prog 13 #[.agg #[.int .i64 lost, .int .i64 mark, v]] w fun r w' => r = .returned (.tuple #[.agg (evA x), .int .i64 c]) ∧ Below w.heap.size w w') := by
  rcases hc : l.length with _ | j
  · obtain rfl := List.eq_nil_of_length_eq_zero hc
    exact ⟨zeroEv, 3, fun w h => la_nil lost mark v w h, fun w h => rla_nil lost mark v w h⟩
  · have hx : l[j]? = some l[j] := List.getElem?_eq_getElem (by omega)
    exact ⟨_, 0, fun w h => la_some lost mark v l j _ hc (by omega) hx w h, fun w h => rla_some lost mark v l j _ hc (by omega) hx w h⟩
end Go.Proofs.Ytohkioakipjanaa
