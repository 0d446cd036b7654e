/-
  WALKS: law 12: RawAll.
-/
import Derived.Test.YtohkioakipjanaaLv12
import Derived.Test.YtohkioakipjanaaTr6
namespace Go.Proofs.Ytohkioakipjanaa
open Go Go.RowKit

theorem join_cons {D L : List Ev} {x0 y : Ev} (h : L = x0 :: L.tail) : D ++ L ++ [y] = (D ++ [x0]) ++ (L.tail ++ [y]) := by
  cases L with
  | nil => cases h
  | cons a r =>
    simp at h
    subst h
    simp
theorem sub_n {a b c : Nat} (h : a = b + c) (ha : a ≤ 1000) : IntKind.i64.wrap ((a : Int) - b) = c := by rw [IntKind.wrap_i64]; omega
/-- What holds at a round's head: raw events L beside all that were put (D ahead of L). -/
structure AlJ (w wr : World) (g13 rm k : Nat) (P D L : List Ev) (n : Nat) (mk : Int) (v vp : Value) : Prop where
  below : Below w.heap.size w wr
  k13 : Blk wr g13 24 #[.int .i64 n, .int .i64 mk, v]
  lst : Lst 4 cE wr v L
  own : wr.ownsRow w.heap.size 27 4 vp P.length (fl cE P)
  cat : P = D ++ L
  s1 : v.ownBlock ≠ some g13
  s2 : vp.ownBlock ≠ some g13
  s3 : ∀ q, v.ownBlock = some q → vp.ownBlock ≠ some q
  vlt : ∀ q, v.ownBlock = some q → q < wr.heap.size
  h13 : w.heap.size ≤ g13
  ok : RawOk n mk L rm
  ain : AllIn L
  nD : n = D.length
  ord : ∀ x ∈ D, x.t ≤ mk
  le : P.length ≤ k
section
variable {w wr W : World} {g13 rm k : Nat} {P D L : List Ev} {n : Nat} {mk : Int} {v vp : Value}
theorem AlJ.keep (h : AlJ w wr g13 rm k P D L n mk v vp) (hb : Below wr.heap.size wr W) : AlJ w W g13 rm k P D L n mk v vp :=
  ⟨below_tr h.below hb, h.k13.keep hb, h.lst.keep hb, own_keep h.own hb, h.cat, h.s1, h.s2, h.s3, fun q hq => Nat.lt_of_lt_of_le (h.vlt q hq) hb.size, h.h13, h.ok, h.ain, h.nD, h.ord, h.le⟩
theorem AlJ.upd {q : Nat} (h : AlJ w wr g13 rm k P D L n mk v vp) (hu : Upd q wr W) (hq : w.heap.size ≤ q) (h1 : q ≠ g13) (h2 : v.ownBlock ≠ some q) (h3 : vp.ownBlock ≠ some q) : AlJ w W g13 rm k P D L n mk v vp :=
  ⟨upd_below h.below hu hq, h.k13.upd hu (Ne.symm h1), h.lst.chg (Chg.upd (o := none) hu) h2 (by simp), own_same h.own (fun p hp => hu.block p (h.own.lt p hp).2 (fun e => h3 (by rw [hp, e]))), h.cat, h.s1, h.s2, h.s3, fun p hp => Nat.lt_of_lt_of_le (h.vlt p hp) hu.size, h.h13, h.ok, h.ain, h.nD, h.ord, h.le⟩
theorem AlJ.fresh (h : AlJ w wr g13 rm k P D L n mk v vp) {q : Nat} (hq : wr.heap.size ≤ q) : w.heap.size ≤ q ∧ q ≠ g13 ∧ v.ownBlock ≠ some q ∧ vp.ownBlock ≠ some q :=
  ⟨Nat.le_trans h.below.size hq, by have := h.k13.lt; omega, fun e => by have := h.vlt _ e; omega, fun e => by have := (h.own.lt _ e).2; omega⟩
theorem AlJ.next (h : AlJ w wr g13 rm k P D L n mk v vp) (k2 : Nat) (hk : k ≤ k2) : AlJ w wr g13 rm k2 P D L n mk v vp :=
  ⟨h.below, h.k13, h.lst, h.own, h.cat, h.s1, h.s2, h.s3, h.vlt, h.h13, h.ok, h.ain, h.nD, h.ord, Nat.le_trans h.le hk⟩
/-- How many there are. -/
theorem AlJ.min (h : AlJ w wr g13 rm k P D L n mk v vp) : (if (rm : Int) < P.length then (rm : Int) else (P.length : Int)) = L.length := by
  have h1 := h.nD
  have h2 := h.ok.len
  rw [h.cat, List.length_append]
  rcases h.ok.rl with h3 | h3
  · have : D.length = 0 := by have := h3.1; omega
    split <;> omega
  · have := h3.2.2.2.1
    split <;> omega
/-- What is told of a range is all of it. -/
theorem AlJ.fil (h : AlJ w wr g13 rm k P D L n mk v vp) {a b : Int} (hr : ¬ (0 < (n : Int) ∧ a ≤ mk)) : P.filter (inB a b) = L.filter (inB a b) := by
  rw [h.cat, List.filter_append]
  have : D.filter (inB a b) = [] := by
    rw [List.filter_eq_nil_iff]
    intro x hx
    have h1 := h.ord x hx
    have h2 : 0 < D.length := List.length_pos_of_mem hx
    have h3 := h.nD
    unfold inB
    simp
    omega
  rw [this, List.nil_append]
end
set_option maxHeartbeats 4000000 in
set_option maxRecDepth 100000 in
theorem all_any (room : Int) (ao : Option Addr) (cap : Nat) (l : List Ev) (a b c d : Int) (hm : l.length ≤ maxLen) (hin : AllIn l) (w : World) (h : Lst 4 cE w (.slice ao l.length cap) l) :
    Calls Try.prog 4 #[.int .i64 room, (.slice ao l.length cap), .int .i64 a, .int .i64 b, .int .i64 c, .int .i64 d] w fun e w' => e = .returned (.bool true) ∧ Below w.heap.size w w' := by
  obtain ⟨ao2, bb, off, cap2, hv2, h1, h2⟩ := h.ex
  obtain ⟨rfl, rfl⟩ : ao = ao2 ∧ cap = cap2 := by simpa using hv2
  have H1 := Lib.hid h1
  have H2 := Lib.hid h2
  have HIN := Lib.hid hin
  have hmm : l.length ≤ 9223372036854775807 := by unfold maxLen at hm; omega
  clear h h1 h2 hv2 hm hin
  by_cases hl1 : 100 < l.length
  · have hl2 : (l.length : Int) > 100 := by omega
    go_enter Try.func4, Try.ntmps4
    go_wp2_with (first
      | ((with_reducible refine at_slot 26 ?_); refine wl_call rfl rfl Try.func7 (by kernel_rfl) rfl (lives12 _) rfl ?_; intro V26 hb; have HB := Lib.hid hb; clear hb))
    go_ret
    exact ⟨rfl, HB.out⟩
  · have hl2 : ¬ (l.length : Int) > 100 := by omega
    by_cases hr1 : room < 1
    · skip
      go_enter Try.func4, Try.ntmps4
      go_wp2_with (first
        | ((with_reducible refine at_slot 26 ?_); refine wl_call rfl rfl Try.func7 (by kernel_rfl) rfl (lives12 _) rfl ?_; intro V26 hb; have HB := Lib.hid hb; clear hb))
      go_ret
      exact ⟨rfl, HB.out⟩
    · by_cases hr2 : 4096 < room
      · have hr3 : room > 4096 := hr2
        go_enter Try.func4, Try.ntmps4
        go_wp2_with (first
          | ((with_reducible refine at_slot 26 ?_); refine wl_call rfl rfl Try.func7 (by kernel_rfl) rfl (lives12 _) rfl ?_; intro V26 hb; have HB := Lib.hid hb; clear hb))
        go_ret
        exact ⟨rfl, HB.out⟩
      · have hr3 : ¬ room > 4096 := hr2
        obtain ⟨rm, rfl⟩ : ∃ rm : Nat, room = rm := ⟨room.toNat, by omega⟩
        have hrm1 : 1 ≤ rm := by omega
        have hrm0 : rm ≤ 4096 := by omega
        have HOK0 := Lib.hid (show RawOk (0 : Nat) 0 [] (rm : Int) from ⟨by omega, by omega, by simp, rt_nil, Or.inl ⟨rfl, rfl⟩⟩)
        have HLE100 := Lib.hid (show l.length ≤ 100 by omega)
        obtain ⟨i0, hi, hz, hs, hby⟩ := infoE
        have HI0 := Lib.hid (show _ ∧ _ ∧ _ ∧ _ from ⟨hi, hz, hs, hby⟩)
        clear hl1 hr2 hi hz hs hby
        go_enter Try.func4, Try.ntmps4
        go_wp2_with (first
          | ((with_reducible refine at_slot 26 ?_); refine wl_call rfl rfl Try.func7 (by kernel_rfl) rfl (lives12 _) rfl ?_; intro V26 hb; have HB := Lib.hid hb; clear hb)
          | ((with_reducible refine at_slot 13 ?_); refine wl_alloc (A := #[.int .i64 0, .int .i64 0, .slice none 0 0]) rfl rfl rw_zero rfl ?_; intro W13 g13 k13 hb hle; have HJ : Hid (AlJ w W13 g13 rm 0 [] [] [] 0 0 (.slice none 0 0) (.slice none 0 0)) := Lib.hid ⟨below_tr HB.out hb, k13, Lst.nil _ _ _, World.ownsRow_nil _ _ _ _, rfl, by simp [Value.ownBlock], by simp [Value.ownBlock], by simp [Value.ownBlock], by simp [Value.ownBlock], Nat.le_trans HB.out.size hle, HOK0.out, fun i h => by simp at h, rfl, fun x hx => by simp at hx, Nat.le_refl _⟩; clear hb hle))
        clear HB
        go_loopw [14, 41] (fun vp i wr => ∃ (k : Nat) (P D L : List Ev) (n : Nat) (mk : Int) (v : Value), AlJ w wr g13 rm k P D L n mk v vp ∧ i = .int .i64 (k : Nat) ∧ k ≤ l.length) (fun _ i _ => l.length - (intOf i).toNat)
        case atStart => exact ⟨0, [], [], [], 0, 0, _, HJ.out, rfl, Nat.zero_le _⟩
        case round =>
          clear HJ k13
          obtain ⟨k, P, D, L, n, mk, v, hK, rfl, hk⟩ := hrel
          have HJ := Lib.hid hK
          have HOK := Lib.hid hK.ok
          have HAI := Lib.hid hK.ain
          have HPL : Hid (P.length ≤ 100) := Lib.hid (by have := hK.le; have := HLE100.out; omega)
          have hL6 : L.length ≤ 1000000 := by have := HPL.out; rw [hK.cat, List.length_append] at this; omega
          have hn1 : n ≤ 100 := by have := HPL.out; rw [hK.cat, List.length_append] at this; have := hK.nD; omega
          clear hK
          by_cases hlt : k < l.length
          · obtain ⟨rfl, hq1⟩ := H1.out (by omega)
            have hgx : l[k]? = some l[k] := List.getElem?_eq_getElem hlt
            have HKX := Lib.hid (range_keep (H2.out k _ hgx) (HJ.out.below.block bb hq1))
            have HYI := Lib.hid (HIN.out k hlt)
            generalize l[k] = y at hgx HKX HYI
            clear hgx
            by_cases he : EvOk y
            · have HE := Lib.hid he
              have hai : AllIn (L ++ [y]) := fun i hi => by
                rcases Nat.lt_or_ge i L.length with h' | h'
                · rw [List.getElem_append_left h']; exact HAI.out i h'
                · rw [List.getElem_append_right h']; simp; exact HYI.out
              have HAI2 := Lib.hid hai
              clear hai he
              by_cases ht : ∀ j x, L.length = j + 1 → L[j]? = some x → x.t < y.t
              · have HT := Lib.hid ht
                clear ht
                by_cases hf : L.length = rm
                · obtain ⟨x0, hx0⟩ : ∃ x0, L[0]? = some x0 := ⟨L[0]'(by omega), List.getElem?_eq_getElem (by omega)⟩
                  obtain ⟨j, hj⟩ : ∃ j, L.length = j + 1 := ⟨L.length - 1, by omega⟩
                  have hxl : L[j]? = some (L[j]'(by omega)) := List.getElem?_eq_getElem (by omega)
                  have hxt := HT.out j _ hj hxl
                  generalize L[j]'(by omega) = xl at hxl hxt
                  have hn5 : (n : Int) < 70368744177664 := by omega
                  have HPF := Lib.hid (fun W (hL : Lst 4 cE W v L) => put_full n mk v L hL6 HAI.out rm y HYI.out W hL HOK.out HE.out j xl hj hxl hxt hf hn5 x0 hx0)
                  have hcons : L = x0 :: L.tail := by cases L with | nil => simp at hx0 | cons a r => simp at hx0; simp [hx0]
                  have HDL : Hid (P ++ [y] = (D ++ [x0]) ++ (L.tail ++ [y])) := Lib.hid (by rw [HJ.out.cat]; exact join_cons hcons)
                  have HNOK : Hid (RawOk ((n + 1 : Nat) : Int) x0.t (L.tail ++ [y]) rm) := Lib.hid (by have := ok_full HOK.out HE.out HT.out (by omega) hx0 (by omega) hn5; simpa using this)
                  have HNAI : Hid (AllIn (L.tail ++ [y])) := Lib.hid (fun i hi => by
                    have e : L.tail ++ [y] = (L ++ [y]).tail := by rw [hcons]; rfl
                    have h2 : i + 1 < (L ++ [y]).length := by simp at hi ⊢; omega
                    have h3 := HAI2.out (i + 1) h2
                    have h4 : (L.tail ++ [y])[i]? = (L ++ [y])[i + 1]? := by rw [e, List.getElem?_tail]
                    rw [List.getElem?_eq_getElem hi, List.getElem?_eq_getElem h2] at h4
                    rw [Option.some.inj h4]
                    exact h3)
                  have HND : Hid (n + 1 = (D ++ [x0]).length) := Lib.hid (by have := HJ.out.nD; simp; omega)
                  have HNORD : Hid (∀ x ∈ D ++ [x0], x.t ≤ x0.t) := Lib.hid (fun x hx => by
                    rcases List.mem_append.1 hx with h' | h'
                    · have h1 := HJ.out.ord x h'
                      have h2 := List.length_pos_of_mem h'
                      have h3 := HJ.out.nD
                      rcases HOK.out.rl with h4 | h4
                      · have := h4.1; omega
                      · obtain ⟨_, _, _, _, _, e, he', hlt'⟩ := h4
                        rw [hx0] at he'
                        cases he'
                        omega
                    · simp at h'; subst h'; exact Int.le_refl _)
                  clear hf hx0 hj hxl hxt hn5 hcons
                  go_upto_region 12 with (first
                    | ((with_reducible refine at_slot 43 ?_); refine wl_ixo rfl rfl rfl rfl Try.underlying22 rfl hlt hmm ?_)
                    | ((with_reducible refine at_slot 44 ?_); refine wl_ldr (B := evA y) rfl rfl rfl HKX.out Try.underlying27 rfl evInfo ?_)
                    | ((with_reducible refine at_slot 16 ?_); refine wl_alloc (A := evA zeroEv) rfl rfl ev_zero rfl ?_; intro W_g16 g16 k16 hb hle; have HN_g16 := Lib.hid (HJ.out.fresh hle); replace HJ := Lib.hid (HJ.out.keep hb); clear hb hle)
                    | ((with_reducible refine at_store 16 ?_); refine wl_st0 (A' := evA y) rfl rfl rfl rfl k16 rfl evInfo (evA_one _) ?_; intro V_ kn hu; replace HJ := Lib.hid (HJ.out.upd hu HN_g16.out.1 HN_g16.out.2.1 HN_g16.out.2.2.1 HN_g16.out.2.2.2); clear k16; have k16 := kn; clear kn hu)
                    | ((with_reducible refine at_slot 46 ?_); refine wl_ld0 rfl rfl rfl HJ.out.k13 Try.underlying24 rfl rw_size ?_)
                    | ((with_reducible refine at_slot 48 ?_); refine wl_ld0 rfl rfl rfl k16 Try.underlying27 rfl evInfo ?_)
                    | ((with_reducible refine at_slot 49 ?_); refine wl_callx rfl rfl Try.func8 (by kernel_rfl) rfl (HPF.out _ HJ.out.lst) rfl ?_; intro v2 V49 hR; have HQ2 := Lib.hid (fun q (hq : v2.ownBlock = some q) => show q ≠ g13 ∧ u14.ownBlock ≠ some q ∧ q ≠ g16 ∧ q < V49.heap.size from by have h1 := (hR.1.2 q hq).1; have h3 := HJ.out.k13.lt; have h4 := k16.lt; exact ⟨by omega, fun e => by have := (HJ.out.own.lt _ e).2; omega, by omega, (hR.1.2 q hq).2⟩); have HL2 := Lib.hid hR.1.1; replace HJ := Lib.hid (HJ.out.keep hR.2); replace k16 := k16.keep hR.2; clear hR)
                    | ((with_reducible refine at_slot 17 ?_); refine wl_alloc (A := #[.int .i64 0, .int .i64 0, .slice none 0 0]) rfl rfl rw_zero rfl ?_; intro W_g17 g17 k17 hb hle; have HN_g17 := Lib.hid (HJ.out.fresh hle); have nk16_g17 := Lib.hid (k16.ne_of_le hle); replace HJ := Lib.hid (HJ.out.keep hb); replace k16 := k16.keep hb; have HQ17 := Lib.hid (fun q (hq : v2.ownBlock = some q) => show q ≠ g17 ∧ q < W_g17.heap.size from by have := (HQ2.out q hq).2.2.2; have := hb.size; exact ⟨by omega, by omega⟩); replace HL2 := Lib.hid (HL2.out.keep hb); clear hb hle)
                    | ((with_reducible refine at_store 17 ?_); refine wl_st0 (A' := #[.int .i64 (n + 1), .int .i64 x0.t, v2]) rfl rfl rfl rfl k17 rfl rw_size (rw_one _ _ _ (lst_one HL2.out).1) ?_; intro V_ kn hu; replace HJ := Lib.hid (HJ.out.upd hu HN_g17.out.1 HN_g17.out.2.1 HN_g17.out.2.2.1 HN_g17.out.2.2.2); replace k16 := k16.upd hu nk16_g17.out; replace HL2 := Lib.hid (HL2.out.chg (Chg.upd (o := none) hu) (fun e => (HQ17.out _ e).1 rfl) (by simp)); have HS17 := Lib.hid hu.size; clear k17; have k17 := kn; clear kn hu))
                  have hn17 := HN_g17.out
                  have hn16 := HN_g16.out
                  have hgx : u14.ownBlock ≠ some g17 := hn17.2.2.2
                  have hgy : u14.ownBlock ≠ some g16 := hn16.2.2.2
                  refine wp_region_held_drew (S := fun w' => Blk w' g17 24 #[.int .i64 (n + 1), .int .i64 x0.t, v2] ∧ Blk w' g16 27 (evA y)) (by kernel_rfl) ⟨k17.drew, k16.drew⟩ (fun hS => ?_)
                  refine wpAnyH_take (i := 0) (oi := ⟨some 54, _, _, _, _, _⟩) (v := .agg #[.int .i64 (n + 1), .int .i64 x0.t, v2]) rfl (by kernel_rfl) (by kernel_rfl) (by kernel_rfl) (fun _ _ _ h => h) (yi_ld0 rfl rfl rfl (fun w' h => h.1) Try.underlying24 rfl rw_size) hS ?_
                  simp only [Act.put, List.setIfInBounds_toArray, List.set_cons_zero, List.set_cons_succ]
                  refine wpAnyH_take (i := 1) (oi := ⟨some 55, _, _, _, _, _⟩) (v := u14) rfl (by kernel_rfl) (by kernel_rfl) (by kernel_rfl) (fun _ _ _ h => h) (yi_mv (Or.inl rfl) rfl rfl) hS ?_
                  simp only [Act.put, List.setIfInBounds_toArray, List.set_cons_zero, List.set_cons_succ]
                  refine wpAnyH_take (i := 2) (oi := ⟨some 56, _, _, _, _, _⟩) (v := .agg (evA y)) rfl (by kernel_rfl) (by kernel_rfl) (by kernel_rfl) (fun _ _ _ h => h) (yi_ld0 rfl rfl rfl (fun w' h => h.2) Try.underlying27 rfl evInfo) hS ?_
                  simp only [Act.put, List.setIfInBounds_toArray, List.set_cons_zero, List.set_cons_succ]
                  refine anyH_one (i := 3) (by kernel_rfl) rfl (fun K' hK => ?_)
                  have hba := (Below.refl V_.drew.heap.size V_.drew).alloc (Nat.le_refl _) (.cells (evA y) 27)
                  have kb := Blk.new V_.drew 27 (evA y)
                  refine wq_bslice rfl rfl (e_bs y _) rfl (hK _ _ ⟨hS.1.alloc _, hS.2.alloc _⟩ (fun hS3 => ?_))
                  simp only [Act.put, List.setIfInBounds_toArray]
                  have hbv : Below V_.heap.size V_ (V_.drew.alloc (.cells (evA y) 27)) := ⟨hba.os, hba.tape, hba.output, hba.size, hba.block⟩
                  have HJ3 := Lib.hid (HJ.out.keep hbv)
                  have HL3 := Lib.hid (HL2.out.keep hbv)
                  have HQ3 := Lib.hid (fun q (hq : v2.ownBlock = some q) => Nat.lt_of_lt_of_le (Nat.lt_of_lt_of_le (HQ17.out q hq).2 HS17.out) hbv.size)
                  clear hK hba hS hbv HJ HL2 k16 k17
                  obtain ⟨gb, hgbd⟩ : ∃ gb, gb = V_.drew.heap.size := ⟨_, rfl⟩
                  rw [← hgbd] at kb ⊢
                  clear hgbd
                  generalize V_.drew.alloc (.cells (evA y) 27) = W3 at *
                  refine anyH_one (i := 4) (by kernel_rfl) rfl (fun K' hK => ?_)
                  refine step_append_lies _ rfl _ _ 22 rfl w.heap.size 27 i0 _ 4 32 Try.underlying22 HI0.out.1 HI0.out.2.1 HI0.out.2.2.1 HI0.out.2.2.2 rfl (by decide) u14 P.length (fl cE P) rfl HJ3.out.own ⟨gb, 0, none⟩ 1 1 (cE y) rfl rfl (World.news_of_block (cs := evA y) kb) (cE_one y) (by omega) (by unfold maxLen; have := HPL.out; omega) (by have := HPL.out; omega) HJ3.out.below.size _ rfl ?_
                  intro g2 cap2 W4 hown2 hgrow hat hlt4
                  have hg2 : g2 ≠ g13 := by
                    rcases hat with e | e
                    · intro e2; rw [e2] at e; exact HJ3.out.s2 e
                    · have := HJ3.out.k13.lt; omega
                  have hgv : ∀ q, v2.ownBlock = some q → g2 ≠ q := fun q hq => by
                    rcases hat with e | e
                    · intro e2; rw [e2] at e; exact (HQ2.out q hq).2.1 e
                    · have := HQ3.out q hq; omega
                  have k134 := Blk.keep_chg HJ3.out.k13 hgrow HJ3.out.s2
                  have HL4 := Lib.hid (HL3.out.same hgrow.size (fun q hq hlt => hgrow.block q hlt (fun e => (HQ2.out q hq).2.1 e.symm)))
                  have HB4 := Lib.hid (HJ3.out.below.grown hgrow HJ3.out.below.size (fun q hq => (HJ3.out.own.lt q hq).1))
                  have HQ4 := Lib.hid (fun q (hq : v2.ownBlock = some q) => Nat.lt_of_lt_of_le (HQ3.out q hq) hgrow.size)
                  have HO4 := Lib.hid hown2
                  refine hK _ _ ⟨Blk.keep_chg hS3.1 hgrow hgx, Blk.keep_chg hS3.2 hgrow hgy⟩ (fun hS => ?_)
                  simp only [Act.put]
                  clear hK hS3 hown2 hgrow hat kb HL3 HQ3
                  refine anyH_one (i := 5) (by kernel_rfl) rfl (fun K' hK => ?_)
                  refine wq_st (k := 3) (v := .agg #[.int .i64 (n + 1), .int .i64 x0.t, v2]) rfl rfl rfl rfl k134 rfl rfl (rw_one _ _ _ (lst_one HL4.out).1) (by show 0 + 3 ≤ 3; omega) ?_
                  intro W5 B k135 hs1 hb1 hb2 hu
                  refine hK _ _ ⟨hS.1.upd hu hn17.2.1, hS.2.upd hu hn16.2.1⟩ (fun hS2 => ?_)
                  simp only [Act.put]
                  have hBe : B = #[.int .i64 (n + 1), .int .i64 x0.t, v2] := blk_whole (n := 3) rfl hs1 hb2
                  subst hBe
                  have HN : Hid (AlJ w W5 g13 rm (k + 1) (P ++ [y]) (D ++ [x0]) (L.tail ++ [y]) (n + 1) x0.t v2 (.slice (some ⟨g2, 0, none⟩) (P.length + 1) cap2)) := Lib.hid (by
                    refine ⟨upd_below HB4.out hu HJ3.out.h13, k135, HL4.out.chg (Chg.upd (o := none) hu) (fun e => (HQ2.out _ e).1 rfl) (by simp), ?_, HDL.out, fun e => (HQ2.out _ e).1 rfl, by intro e; cases e; exact hg2 rfl, fun q hq e => by cases e; exact hgv _ hq rfl, fun q hq => Nat.lt_of_lt_of_le (HQ4.out q hq) hu.size, HJ3.out.h13, HNOK.out, HNAI.out, HND.out, HNORD.out, by rw [List.length_append]; have := HJ3.out.le; simp; omega⟩
                    rw [List.length_append, fl_append, fl_one]
                    exact own_same HO4.out (fun q hq => hu.block q (HO4.out.lt q hq).2 (fun e => by cases hq; exact hg2 e)))
                  clear hK hS hs1 hb1 hb2 hu k134 k135
                  have hS := hS2
                  clear hS2
                  refine wpAnyH_take (i := 6) (oi := ⟨some 14, _, _, _, _, _⟩) (v := .slice (some ⟨g2, 0, none⟩) (P.length + 1) cap2) rfl (by kernel_rfl) (by kernel_rfl) (by kernel_rfl) (fun _ _ _ h => h) (yi_mv (Or.inr rfl) rfl rfl) hS ?_
                  simp only [Act.put, List.setIfInBounds_toArray]
                  refine wpAnyH_done (by kernel_rfl) ?_ _
                  clear hS
                  go_wp2_with fail
                  go_roundw
                  case rel => exact ⟨k + 1, _, _, _, _, _, _, HN.out, by go_num, hlt⟩
                  case measure => simp [intOf]; omega
                · have hr4 : L.length < rm := by have := HOK.out.len; omega
                  have HDL : Hid (P ++ [y] = D ++ (L ++ [y])) := Lib.hid (by rw [HJ.out.cat, List.append_assoc])
                  have HNOK : Hid (RawOk n mk (L ++ [y]) rm) := Lib.hid (ok_more HOK.out HE.out HT.out (by omega))
                  have HNAI := HAI2
                  have HND := Lib.hid HJ.out.nD
                  have HNORD := Lib.hid HJ.out.ord
                  have HPM : Hid (∀ W, Lst 4 cE W v L → Calls Try.prog 8 #[.agg #[.int .i64 n, .int .i64 mk, v], .int .i64 rm, .agg (evA y)] W fun r w' => ∃ v', r = .returned (.tuple #[.agg #[.int .i64 n, .int .i64 mk, v'], .int .i64 0]) ∧ (Lst 4 cE w' v' (L ++ [y]) ∧ ∀ q, v'.ownBlock = some q → W.heap.size ≤ q ∧ q < w'.heap.size) ∧ Below W.heap.size W w') := Lib.hid (fun W hL => by
                    rcases Nat.eq_zero_or_pos L.length with h0 | h0
                    · exact put_first n mk v L hL6 HAI.out rm y HYI.out W hL HOK.out HE.out h0 hr4
                    · obtain ⟨j, hj⟩ : ∃ j, L.length = j + 1 := ⟨L.length - 1, by omega⟩
                      have hxl : L[j]? = some (L[j]'(by omega)) := List.getElem?_eq_getElem (by omega)
                      exact put_more n mk v L hL6 HAI.out rm y HYI.out W hL HOK.out HE.out j _ hj hxl (HT.out j _ hj hxl) hr4)
                  clear hf hr4
                  go_upto_region 12 with (first
                    | ((with_reducible refine at_slot 43 ?_); refine wl_ixo rfl rfl rfl rfl Try.underlying22 rfl hlt hmm ?_)
                    | ((with_reducible refine at_slot 44 ?_); refine wl_ldr (B := evA y) rfl rfl rfl HKX.out Try.underlying27 rfl evInfo ?_)
                    | ((with_reducible refine at_slot 16 ?_); refine wl_alloc (A := evA zeroEv) rfl rfl ev_zero rfl ?_; intro W_g16 g16 k16 hb hle; have HN_g16 := Lib.hid (HJ.out.fresh hle); replace HJ := Lib.hid (HJ.out.keep hb); clear hb hle)
                    | ((with_reducible refine at_store 16 ?_); refine wl_st0 (A' := evA y) rfl rfl rfl rfl k16 rfl evInfo (evA_one _) ?_; intro V_ kn hu; replace HJ := Lib.hid (HJ.out.upd hu HN_g16.out.1 HN_g16.out.2.1 HN_g16.out.2.2.1 HN_g16.out.2.2.2); clear k16; have k16 := kn; clear kn hu)
                    | ((with_reducible refine at_slot 46 ?_); refine wl_ld0 rfl rfl rfl HJ.out.k13 Try.underlying24 rfl rw_size ?_)
                    | ((with_reducible refine at_slot 48 ?_); refine wl_ld0 rfl rfl rfl k16 Try.underlying27 rfl evInfo ?_)
                    | ((with_reducible refine at_slot 49 ?_); refine wl_callx rfl rfl Try.func8 (by kernel_rfl) rfl (HPM.out _ HJ.out.lst) rfl ?_; intro v2 V49 hR; have HQ2 := Lib.hid (fun q (hq : v2.ownBlock = some q) => show q ≠ g13 ∧ u14.ownBlock ≠ some q ∧ q ≠ g16 ∧ q < V49.heap.size from by have h1 := (hR.1.2 q hq).1; have h3 := HJ.out.k13.lt; have h4 := k16.lt; exact ⟨by omega, fun e => by have := (HJ.out.own.lt _ e).2; omega, by omega, (hR.1.2 q hq).2⟩); have HL2 := Lib.hid hR.1.1; replace HJ := Lib.hid (HJ.out.keep hR.2); replace k16 := k16.keep hR.2; clear hR)
                    | ((with_reducible refine at_slot 17 ?_); refine wl_alloc (A := #[.int .i64 0, .int .i64 0, .slice none 0 0]) rfl rfl rw_zero rfl ?_; intro W_g17 g17 k17 hb hle; have HN_g17 := Lib.hid (HJ.out.fresh hle); have nk16_g17 := Lib.hid (k16.ne_of_le hle); replace HJ := Lib.hid (HJ.out.keep hb); replace k16 := k16.keep hb; have HQ17 := Lib.hid (fun q (hq : v2.ownBlock = some q) => show q ≠ g17 ∧ q < W_g17.heap.size from by have := (HQ2.out q hq).2.2.2; have := hb.size; exact ⟨by omega, by omega⟩); replace HL2 := Lib.hid (HL2.out.keep hb); clear hb hle)
                    | ((with_reducible refine at_store 17 ?_); refine wl_st0 (A' := #[.int .i64 n, .int .i64 mk, v2]) rfl rfl rfl rfl k17 rfl rw_size (rw_one _ _ _ (lst_one HL2.out).1) ?_; intro V_ kn hu; replace HJ := Lib.hid (HJ.out.upd hu HN_g17.out.1 HN_g17.out.2.1 HN_g17.out.2.2.1 HN_g17.out.2.2.2); replace k16 := k16.upd hu nk16_g17.out; replace HL2 := Lib.hid (HL2.out.chg (Chg.upd (o := none) hu) (fun e => (HQ17.out _ e).1 rfl) (by simp)); have HS17 := Lib.hid hu.size; clear k17; have k17 := kn; clear kn hu))
                  have hn17 := HN_g17.out
                  have hn16 := HN_g16.out
                  have hgx : u14.ownBlock ≠ some g17 := hn17.2.2.2
                  have hgy : u14.ownBlock ≠ some g16 := hn16.2.2.2
                  refine wp_region_held_drew (S := fun w' => Blk w' g17 24 #[.int .i64 n, .int .i64 mk, v2] ∧ Blk w' g16 27 (evA y)) (by kernel_rfl) ⟨k17.drew, k16.drew⟩ (fun hS => ?_)
                  refine wpAnyH_take (i := 0) (oi := ⟨some 54, _, _, _, _, _⟩) (v := .agg #[.int .i64 n, .int .i64 mk, v2]) rfl (by kernel_rfl) (by kernel_rfl) (by kernel_rfl) (fun _ _ _ h => h) (yi_ld0 rfl rfl rfl (fun w' h => h.1) Try.underlying24 rfl rw_size) hS ?_
                  simp only [Act.put, List.setIfInBounds_toArray, List.set_cons_zero, List.set_cons_succ]
                  refine wpAnyH_take (i := 1) (oi := ⟨some 55, _, _, _, _, _⟩) (v := u14) rfl (by kernel_rfl) (by kernel_rfl) (by kernel_rfl) (fun _ _ _ h => h) (yi_mv (Or.inl rfl) rfl rfl) hS ?_
                  simp only [Act.put, List.setIfInBounds_toArray, List.set_cons_zero, List.set_cons_succ]
                  refine wpAnyH_take (i := 2) (oi := ⟨some 56, _, _, _, _, _⟩) (v := .agg (evA y)) rfl (by kernel_rfl) (by kernel_rfl) (by kernel_rfl) (fun _ _ _ h => h) (yi_ld0 rfl rfl rfl (fun w' h => h.2) Try.underlying27 rfl evInfo) hS ?_
                  simp only [Act.put, List.setIfInBounds_toArray, List.set_cons_zero, List.set_cons_succ]
                  refine anyH_one (i := 3) (by kernel_rfl) rfl (fun K' hK => ?_)
                  have hba := (Below.refl V_.drew.heap.size V_.drew).alloc (Nat.le_refl _) (.cells (evA y) 27)
                  have kb := Blk.new V_.drew 27 (evA y)
                  refine wq_bslice rfl rfl (e_bs y _) rfl (hK _ _ ⟨hS.1.alloc _, hS.2.alloc _⟩ (fun hS3 => ?_))
                  simp only [Act.put, List.setIfInBounds_toArray]
                  have hbv : Below V_.heap.size V_ (V_.drew.alloc (.cells (evA y) 27)) := ⟨hba.os, hba.tape, hba.output, hba.size, hba.block⟩
                  have HJ3 := Lib.hid (HJ.out.keep hbv)
                  have HL3 := Lib.hid (HL2.out.keep hbv)
                  have HQ3 := Lib.hid (fun q (hq : v2.ownBlock = some q) => Nat.lt_of_lt_of_le (Nat.lt_of_lt_of_le (HQ17.out q hq).2 HS17.out) hbv.size)
                  clear hK hba hS hbv HJ HL2 k16 k17
                  obtain ⟨gb, hgbd⟩ : ∃ gb, gb = V_.drew.heap.size := ⟨_, rfl⟩
                  rw [← hgbd] at kb ⊢
                  clear hgbd
                  generalize V_.drew.alloc (.cells (evA y) 27) = W3 at *
                  refine anyH_one (i := 4) (by kernel_rfl) rfl (fun K' hK => ?_)
                  refine step_append_lies _ rfl _ _ 22 rfl w.heap.size 27 i0 _ 4 32 Try.underlying22 HI0.out.1 HI0.out.2.1 HI0.out.2.2.1 HI0.out.2.2.2 rfl (by decide) u14 P.length (fl cE P) rfl HJ3.out.own ⟨gb, 0, none⟩ 1 1 (cE y) rfl rfl (World.news_of_block (cs := evA y) kb) (cE_one y) (by omega) (by unfold maxLen; have := HPL.out; omega) (by have := HPL.out; omega) HJ3.out.below.size _ rfl ?_
                  intro g2 cap2 W4 hown2 hgrow hat hlt4
                  have hg2 : g2 ≠ g13 := by
                    rcases hat with e | e
                    · intro e2; rw [e2] at e; exact HJ3.out.s2 e
                    · have := HJ3.out.k13.lt; omega
                  have hgv : ∀ q, v2.ownBlock = some q → g2 ≠ q := fun q hq => by
                    rcases hat with e | e
                    · intro e2; rw [e2] at e; exact (HQ2.out q hq).2.1 e
                    · have := HQ3.out q hq; omega
                  have k134 := Blk.keep_chg HJ3.out.k13 hgrow HJ3.out.s2
                  have HL4 := Lib.hid (HL3.out.same hgrow.size (fun q hq hlt => hgrow.block q hlt (fun e => (HQ2.out q hq).2.1 e.symm)))
                  have HB4 := Lib.hid (HJ3.out.below.grown hgrow HJ3.out.below.size (fun q hq => (HJ3.out.own.lt q hq).1))
                  have HQ4 := Lib.hid (fun q (hq : v2.ownBlock = some q) => Nat.lt_of_lt_of_le (HQ3.out q hq) hgrow.size)
                  have HO4 := Lib.hid hown2
                  refine hK _ _ ⟨Blk.keep_chg hS3.1 hgrow hgx, Blk.keep_chg hS3.2 hgrow hgy⟩ (fun hS => ?_)
                  simp only [Act.put]
                  clear hK hS3 hown2 hgrow hat kb HL3 HQ3
                  refine anyH_one (i := 5) (by kernel_rfl) rfl (fun K' hK => ?_)
                  refine wq_st (k := 3) (v := .agg #[.int .i64 n, .int .i64 mk, v2]) rfl rfl rfl rfl k134 rfl rfl (rw_one _ _ _ (lst_one HL4.out).1) (by show 0 + 3 ≤ 3; omega) ?_
                  intro W5 B k135 hs1 hb1 hb2 hu
                  refine hK _ _ ⟨hS.1.upd hu hn17.2.1, hS.2.upd hu hn16.2.1⟩ (fun hS2 => ?_)
                  simp only [Act.put]
                  have hBe : B = #[.int .i64 n, .int .i64 mk, v2] := blk_whole (n := 3) rfl hs1 hb2
                  subst hBe
                  have HN : Hid (AlJ w W5 g13 rm (k + 1) (P ++ [y]) D (L ++ [y]) n mk v2 (.slice (some ⟨g2, 0, none⟩) (P.length + 1) cap2)) := Lib.hid (by
                    refine ⟨upd_below HB4.out hu HJ3.out.h13, k135, HL4.out.chg (Chg.upd (o := none) hu) (fun e => (HQ2.out _ e).1 rfl) (by simp), ?_, HDL.out, fun e => (HQ2.out _ e).1 rfl, by intro e; cases e; exact hg2 rfl, fun q hq e => by cases e; exact hgv _ hq rfl, fun q hq => Nat.lt_of_lt_of_le (HQ4.out q hq) hu.size, HJ3.out.h13, HNOK.out, HNAI.out, HND.out, HNORD.out, by rw [List.length_append]; have := HJ3.out.le; simp; omega⟩
                    rw [List.length_append, fl_append, fl_one]
                    exact own_same HO4.out (fun q hq => hu.block q (HO4.out.lt q hq).2 (fun e => by cases hq; exact hg2 e)))
                  clear hK hS hs1 hb1 hb2 hu k134 k135
                  have hS := hS2
                  clear hS2
                  refine wpAnyH_take (i := 6) (oi := ⟨some 14, _, _, _, _, _⟩) (v := .slice (some ⟨g2, 0, none⟩) (P.length + 1) cap2) rfl (by kernel_rfl) (by kernel_rfl) (by kernel_rfl) (fun _ _ _ h => h) (yi_mv (Or.inr rfl) rfl rfl) hS ?_
                  simp only [Act.put, List.setIfInBounds_toArray]
                  refine wpAnyH_done (by kernel_rfl) ?_ _
                  clear hS
                  go_wp2_with fail
                  go_roundw
                  case rel => exact ⟨k + 1, _, _, _, _, _, _, HN.out, by go_num, hlt⟩
                  case measure => simp [intOf]; omega
              · have HTN : Hid (∃ j x, L.length = j + 1 ∧ L[j]? = some x ∧ ¬ x.t < y.t) := Lib.hid (by
                  by_cases h0 : L.length = 0
                  · exact absurd (fun j x hj _ => by omega) ht
                  · obtain ⟨j, hj⟩ : ∃ j, L.length = j + 1 := ⟨L.length - 1, by omega⟩
                    have hxl : L[j]? = some (L[j]'(by omega)) := List.getElem?_eq_getElem (by omega)
                    refine ⟨j, _, hj, hxl, fun hlt' => ht (fun j' x hj' hx' => ?_)⟩
                    obtain rfl : j' = j := by omega
                    rw [hxl] at hx'
                    cases hx'
                    exact hlt')
                clear ht
                have HPR : Hid (∀ W, Lst 4 cE W v L → Calls Try.prog 8 #[.agg #[.int .i64 n, .int .i64 mk, v], .int .i64 rm, .agg (evA y)] W fun r w' => r = .returned (.tuple #[.agg #[.int .i64 0, .int .i64 0, .slice none 0 0], .int .i64 9]) ∧ Below W.heap.size W w') := Lib.hid (fun W hL => by
                  obtain ⟨j, x, hj, hx, hno⟩ := HTN.out
                  exact put_time n mk v L hL6 HAI.out rm y HYI.out W hL HOK.out HE.out j x hj hx hno)
                go_wp2_with (first
                  | ((with_reducible refine at_slot 43 ?_); refine wl_ixo rfl rfl rfl rfl Try.underlying22 rfl hlt hmm ?_)
                  | ((with_reducible refine at_slot 44 ?_); refine wl_ldr (B := evA y) rfl rfl rfl HKX.out Try.underlying27 rfl evInfo ?_)
                  | ((with_reducible refine at_slot 16 ?_); refine wl_alloc (A := evA zeroEv) rfl rfl ev_zero rfl ?_; intro W_g16 g16 k16 hb hle; have HN_g16 := Lib.hid (HJ.out.fresh hle); replace HJ := Lib.hid (HJ.out.keep hb); clear hb hle)
                  | ((with_reducible refine at_store 16 ?_); refine wl_st0 (A' := evA y) rfl rfl rfl rfl k16 rfl evInfo (evA_one _) ?_; intro V_ kn hu; replace HJ := Lib.hid (HJ.out.upd hu HN_g16.out.1 HN_g16.out.2.1 HN_g16.out.2.2.1 HN_g16.out.2.2.2); clear k16; have k16 := kn; clear kn hu)
                  | ((with_reducible refine at_slot 46 ?_); refine wl_ld0 rfl rfl rfl HJ.out.k13 Try.underlying24 rfl rw_size ?_)
                  | ((with_reducible refine at_slot 48 ?_); refine wl_ld0 rfl rfl rfl k16 Try.underlying27 rfl evInfo ?_)
                  | ((with_reducible refine at_slot 49 ?_); refine wl_call rfl rfl Try.func8 (by kernel_rfl) rfl (HPR.out _ HJ.out.lst) rfl ?_; intro V49 hb; replace HJ := Lib.hid (HJ.out.keep hb); replace k16 := k16.keep hb; clear hb)
                  | ((with_reducible refine at_slot 17 ?_); refine wl_alloc (A := #[.int .i64 0, .int .i64 0, .slice none 0 0]) rfl rfl rw_zero rfl ?_; intro W_g17 g17 k17 hb hle; have HN_g17 := Lib.hid (HJ.out.fresh hle); have nk16_g17 := Lib.hid (k16.ne_of_le hle); replace HJ := Lib.hid (HJ.out.keep hb); replace k16 := k16.keep hb; clear hb hle)
                  | ((with_reducible refine at_store 17 ?_); refine wl_st0 (A' := #[.int .i64 0, .int .i64 0, .slice none 0 0]) rfl rfl rfl rfl k17 rfl rw_size (rw_one _ _ _ rfl) ?_; intro V_ kn hu; replace HJ := Lib.hid (HJ.out.upd hu HN_g17.out.1 HN_g17.out.2.1 HN_g17.out.2.2.1 HN_g17.out.2.2.2); replace k16 := k16.upd hu nk16_g17.out; clear k17; have k17 := kn; clear kn hu))
                go_roundw
                case rel => exact ⟨k + 1, P, D, L, n, _, v, HJ.out.next _ (by omega), by go_num, hlt⟩
                case measure => simp [intOf]; omega
            · have HNE := Lib.hid he
              clear he
              go_wp2_with (first
                | ((with_reducible refine at_slot 43 ?_); refine wl_ixo rfl rfl rfl rfl Try.underlying22 rfl hlt hmm ?_)
                | ((with_reducible refine at_slot 44 ?_); refine wl_ldr (B := evA y) rfl rfl rfl HKX.out Try.underlying27 rfl evInfo ?_)
                | ((with_reducible refine at_slot 16 ?_); refine wl_alloc (A := evA zeroEv) rfl rfl ev_zero rfl ?_; intro W_g16 g16 k16 hb hle; have HN_g16 := Lib.hid (HJ.out.fresh hle); replace HJ := Lib.hid (HJ.out.keep hb); clear hb hle)
                | ((with_reducible refine at_store 16 ?_); refine wl_st0 (A' := evA y) rfl rfl rfl rfl k16 rfl evInfo (evA_one _) ?_; intro V_ kn hu; replace HJ := Lib.hid (HJ.out.upd hu HN_g16.out.1 HN_g16.out.2.1 HN_g16.out.2.2.1 HN_g16.out.2.2.2); clear k16; have k16 := kn; clear kn hu)
                | ((with_reducible refine at_slot 46 ?_); refine wl_ld0 rfl rfl rfl HJ.out.k13 Try.underlying24 rfl rw_size ?_)
                | ((with_reducible refine at_slot 48 ?_); refine wl_ld0 rfl rfl rfl k16 Try.underlying27 rfl evInfo ?_)
                | ((with_reducible refine at_slot 49 ?_); refine wl_call rfl rfl Try.func8 (by kernel_rfl) rfl (put_ev n mk v L hL6 HAI.out rm y HYI.out _ HJ.out.lst HOK.out HNE.out) rfl ?_; intro V49 hb; replace HJ := Lib.hid (HJ.out.keep hb); replace k16 := k16.keep hb; clear hb)
                | ((with_reducible refine at_slot 17 ?_); refine wl_alloc (A := #[.int .i64 0, .int .i64 0, .slice none 0 0]) rfl rfl rw_zero rfl ?_; intro W_g17 g17 k17 hb hle; have HN_g17 := Lib.hid (HJ.out.fresh hle); have nk16_g17 := Lib.hid (k16.ne_of_le hle); replace HJ := Lib.hid (HJ.out.keep hb); replace k16 := k16.keep hb; clear hb hle)
                | ((with_reducible refine at_store 17 ?_); refine wl_st0 (A' := #[.int .i64 0, .int .i64 0, .slice none 0 0]) rfl rfl rfl rfl k17 rfl rw_size (rw_one _ _ _ rfl) ?_; intro V_ kn hu; replace HJ := Lib.hid (HJ.out.upd hu HN_g17.out.1 HN_g17.out.2.1 HN_g17.out.2.2.1 HN_g17.out.2.2.2); replace k16 := k16.upd hu nk16_g17.out; clear k17; have k17 := kn; clear kn hu))
              go_roundw
              case rel => exact ⟨k + 1, P, D, L, n, _, v, HJ.out.next _ (by omega), by go_num, hlt⟩
              case measure => simp [intOf]; omega
          · obtain rfl : k = l.length := by omega
            have HCK := Lib.hid (fun W (hL : Lst 4 cE W v L) => ck_any n mk v L (by omega) HAI.out rm W hL)
            rw [ckE_yes HOK.out] at HCK
            have HMN := Lib.hid HJ.out.min
            have HSB : Hid (IntKind.i64.wrap ((P.length : Int) - L.length) = (n : Nat)) := Lib.hid (sub_n (by rw [HJ.out.cat, List.length_append, HJ.out.nD]; omega) (by have := HPL.out; omega))
            by_cases hba : b ≤ a
            · skip
              go_wp2_with (first
                | ((with_reducible refine at_slot 60 ?_); refine wl_ld0 rfl rfl rfl HJ.out.k13 Try.underlying24 rfl rw_size ?_)
                | ((with_reducible refine at_slot 62 ?_); refine wl_call rfl rfl Try.func14 (by kernel_rfl) rfl (HCK.out _ HJ.out.lst) rfl ?_; intro V62 hb; replace HJ := Lib.hid (HJ.out.keep hb); clear hb)
                | ((with_reducible refine at_slot 66 ?_); refine wl_ld1 (v := v) rfl rfl rfl HJ.out.k13 Try.underlying22 rfl rfl ?_)
                | ((with_reducible refine at_slot 67 ?_); refine wl_lenL rfl rfl rfl Try.underlying22 HJ.out.lst.sl ?_)
                | ((with_reducible refine at_slot 69 ?_); refine wl_lenL rfl rfl rfl Try.underlying22 (own_sl HJ.out.own) ?_)
                | ((with_reducible refine at_slot 71 ?_); refine wl_mn rfl rfl rfl rfl HMN.out ?_)
                | ((with_reducible refine at_slot 76 ?_); refine wl_ld1 (v := .int .i64 n) rfl rfl rfl HJ.out.k13 Try.underlying2 rfl rfl ?_)
                | ((with_reducible refine at_slot 78 ?_); refine wl_lenL rfl rfl rfl Try.underlying22 (own_sl HJ.out.own) ?_)
                | ((with_reducible refine at_slot 80 ?_); refine wl_ld1 (v := v) rfl rfl rfl HJ.out.k13 Try.underlying22 rfl rfl ?_)
                | ((with_reducible refine at_slot 81 ?_); refine wl_lenL rfl rfl rfl Try.underlying22 HJ.out.lst.sl ?_)
                | ((with_reducible refine at_slot 82 ?_); refine wl_bin (v := .int .i64 (n : Nat)) rfl rfl rfl (sub_is HSB.out) ?_)
                | ((with_reducible refine at_slot 86 ?_); refine wl_ld0 rfl rfl rfl HJ.out.k13 Try.underlying24 rfl rw_size ?_)
                | ((with_reducible refine at_slot 89 ?_); refine wl_call rfl rfl Try.func10 (by kernel_rfl) rfl (rg_range n mk v a b hba _) rfl ?_; intro V89 hb; replace HJ := Lib.hid (HJ.out.keep hb); clear hb))
              go_ret
              exact ⟨rfl, HJ.out.below⟩
            · have hab : a < b := by omega
              by_cases hold : 0 < (n : Int) ∧ a ≤ mk
              · have HOLD := Lib.hid hold
                clear hold
                go_wp2_with (first
                  | ((with_reducible refine at_slot 60 ?_); refine wl_ld0 rfl rfl rfl HJ.out.k13 Try.underlying24 rfl rw_size ?_)
                  | ((with_reducible refine at_slot 62 ?_); refine wl_call rfl rfl Try.func14 (by kernel_rfl) rfl (HCK.out _ HJ.out.lst) rfl ?_; intro V62 hb; replace HJ := Lib.hid (HJ.out.keep hb); clear hb)
                  | ((with_reducible refine at_slot 66 ?_); refine wl_ld1 (v := v) rfl rfl rfl HJ.out.k13 Try.underlying22 rfl rfl ?_)
                  | ((with_reducible refine at_slot 67 ?_); refine wl_lenL rfl rfl rfl Try.underlying22 HJ.out.lst.sl ?_)
                  | ((with_reducible refine at_slot 69 ?_); refine wl_lenL rfl rfl rfl Try.underlying22 (own_sl HJ.out.own) ?_)
                  | ((with_reducible refine at_slot 71 ?_); refine wl_mn rfl rfl rfl rfl HMN.out ?_)
                  | ((with_reducible refine at_slot 76 ?_); refine wl_ld1 (v := .int .i64 n) rfl rfl rfl HJ.out.k13 Try.underlying2 rfl rfl ?_)
                  | ((with_reducible refine at_slot 78 ?_); refine wl_lenL rfl rfl rfl Try.underlying22 (own_sl HJ.out.own) ?_)
                  | ((with_reducible refine at_slot 80 ?_); refine wl_ld1 (v := v) rfl rfl rfl HJ.out.k13 Try.underlying22 rfl rfl ?_)
                  | ((with_reducible refine at_slot 81 ?_); refine wl_lenL rfl rfl rfl Try.underlying22 HJ.out.lst.sl ?_)
                  | ((with_reducible refine at_slot 82 ?_); refine wl_bin (v := .int .i64 (n : Nat)) rfl rfl rfl (sub_is HSB.out) ?_)
                  | ((with_reducible refine at_slot 86 ?_); refine wl_ld0 rfl rfl rfl HJ.out.k13 Try.underlying24 rfl rw_size ?_)
                  | ((with_reducible refine at_slot 89 ?_); refine wl_call rfl rfl Try.func10 (by kernel_rfl) rfl (rg_old n mk v a b hab HOLD.out.1 HOLD.out.2 _) rfl ?_; intro V89 hb; replace HJ := Lib.hid (HJ.out.keep hb); clear hb))
                go_ret
                exact ⟨rfl, HJ.out.below⟩
              · have HNB := Lib.hid hold
                have HFL := Lib.hid (HJ.out.fil (b := b) hold)
                have HFL2 := Lib.hid (Nat.le_trans (List.length_filter_le (inB a b) L) hL6)
                clear hold
                go_upto_region 20 with (first
                  | ((with_reducible refine at_slot 60 ?_); refine wl_ld0 rfl rfl rfl HJ.out.k13 Try.underlying24 rfl rw_size ?_)
                  | ((with_reducible refine at_slot 62 ?_); refine wl_call rfl rfl Try.func14 (by kernel_rfl) rfl (HCK.out _ HJ.out.lst) rfl ?_; intro V62 hb; replace HJ := Lib.hid (HJ.out.keep hb); clear hb)
                  | ((with_reducible refine at_slot 66 ?_); refine wl_ld1 (v := v) rfl rfl rfl HJ.out.k13 Try.underlying22 rfl rfl ?_)
                  | ((with_reducible refine at_slot 67 ?_); refine wl_lenL rfl rfl rfl Try.underlying22 HJ.out.lst.sl ?_)
                  | ((with_reducible refine at_slot 69 ?_); refine wl_lenL rfl rfl rfl Try.underlying22 (own_sl HJ.out.own) ?_)
                  | ((with_reducible refine at_slot 71 ?_); refine wl_mn rfl rfl rfl rfl HMN.out ?_)
                  | ((with_reducible refine at_slot 76 ?_); refine wl_ld1 (v := .int .i64 n) rfl rfl rfl HJ.out.k13 Try.underlying2 rfl rfl ?_)
                  | ((with_reducible refine at_slot 78 ?_); refine wl_lenL rfl rfl rfl Try.underlying22 (own_sl HJ.out.own) ?_)
                  | ((with_reducible refine at_slot 80 ?_); refine wl_ld1 (v := v) rfl rfl rfl HJ.out.k13 Try.underlying22 rfl rfl ?_)
                  | ((with_reducible refine at_slot 81 ?_); refine wl_lenL rfl rfl rfl Try.underlying22 HJ.out.lst.sl ?_)
                  | ((with_reducible refine at_slot 82 ?_); refine wl_bin (v := .int .i64 (n : Nat)) rfl rfl rfl (sub_is HSB.out) ?_)
                  | ((with_reducible refine at_slot 86 ?_); refine wl_ld0 rfl rfl rfl HJ.out.k13 Try.underlying24 rfl rw_size ?_)
                  | ((with_reducible refine at_slot 89 ?_); refine wl_callx rfl rfl Try.func10 (by kernel_rfl) rfl (rg_ok n mk v L hL6 a b hab HNB.out _ HJ.out.lst) rfl ?_; intro vg V89 hR; have HG := Lib.hid hR.1; replace HJ := Lib.hid (HJ.out.keep hR.2); clear hR))
                have HGL := Lib.hid (own_lst (xs := L.filter (inB a b)) cE_len HG.out rfl)
                obtain ⟨aoP, bP, offP, capP, hvP, hP1, hP2⟩ := (own_lst (xs := P) cE_len HJ.out.own rfl).ex
                subst hvP
                have HP1 := Lib.hid hP1
                have HP2 := Lib.hid hP2
                have hmm2 : P.length ≤ 9223372036854775807 := by have := HPL.out; omega
                have HPJ : Hid (PkJ V89 V89 P a b 0 (.slice none 0 0)) := Lib.hid ⟨Nat.zero_le _, World.ownsRow_nil _ _ _ _, Below.refl _ _⟩
                clear hP1 hP2 HG
                go_wp2_with fail
                go_loopw [21, 99] (fun v i wr => ∃ m : Nat, PkJ V89 wr P a b m v ∧ i = .int .i64 m) (fun _ i _ => P.length - (intOf i).toNat)
                case atStart => exact ⟨0, HPJ.out, rfl⟩
                case round =>
                  clear HPJ
                  obtain ⟨m, hPJ, rfl⟩ := hrel
                  have hm' := hPJ.le
                  have HB := Lib.hid hPJ.below
                  have HO := Lib.hid hPJ.own
                  clear hPJ
                  by_cases hlt2 : m < P.length
                  · obtain ⟨rfl, hqP⟩ := HP1.out (by omega)
                    have hgy : P[m]? = some P[m] := List.getElem?_eq_getElem hlt2
                    have HTK := Lib.hid (List.take_succ_eq_append_getElem hlt2)
                    have HKY := Lib.hid (range_keep (HP2.out m _ hgy) (HB.out.block bP hqP))
                    have HFM := Lib.hid (show ((P.take m).filter (inB a b)).length ≤ 1000000 from Nat.le_trans (List.length_filter_le _ _) (by rw [List.length_take]; have := HPL.out; omega))
                    generalize P[m] = y at hgy HTK HKY
                    clear hgy
                    by_cases hy1 : a ≤ y.t
                    · have hy1' : y.t ≥ a := hy1
                      by_cases hy2 : y.t < b
                      · skip
                        have hiy : inB a b y = true := by unfold inB; simp; omega
                        have HTF : Hid ((P.take (m + 1)).filter (inB a b) = (P.take m).filter (inB a b) ++ [y]) := Lib.hid (by rw [HTK.out, List.filter_append]; simp [hiy])
                        clear hiy
                        go_wp2_with (first
                          | ((with_reducible refine at_slot 101 ?_); refine wl_ixo rfl rfl rfl rfl Try.underlying22 rfl hlt2 hmm2 ?_)
                          | ((with_reducible refine at_slot 102 ?_); refine wl_ldr (B := evA y) rfl rfl rfl HKY.out Try.underlying27 rfl evInfo ?_)
                          | ((with_reducible refine at_slot 23 ?_); refine wl_alloc (A := evA zeroEv) rfl rfl ev_zero rfl ?_; intro W23 g23 k23 hb hle; have HLE7 := Lib.hid (Nat.le_trans HB.out.size hle); have HN7 := Lib.hid (fun q (hq : u21.ownBlock = some q) => show q ≠ g23 from by have := (HO.out.lt q hq).2; omega); replace HO := Lib.hid (own_keep HO.out hb); replace HB := Lib.hid (below_tr HB.out hb); clear hb hle)
                          | ((with_reducible refine at_store 23 ?_); refine wl_st0 (A' := evA y) rfl rfl rfl rfl k23 rfl evInfo (evA_one _) ?_; intro W24 kn hu; replace HO := Lib.hid (own_same HO.out (fun q hq => hu.block q (HO.out.lt q hq).2 (HN7.out q hq))); replace HB := Lib.hid (upd_below HB.out hu HLE7.out); clear k23; have k23 := kn; clear kn hu)
                          | ((with_reducible refine at_slot 104 ?_); refine wl_ld1 (v := .int .i64 y.t) rfl rfl rfl k23 Try.underlying2 rfl rfl ?_)
                          | ((with_reducible refine at_slot 109 ?_); refine wl_ld1 (v := .int .i64 y.t) rfl rfl rfl k23 Try.underlying2 rfl rfl ?_)
                          | ((with_reducible refine at_slot 114 ?_); refine wl_ld0 rfl rfl rfl k23 Try.underlying27 rfl evInfo ?_)
                          | ((with_reducible refine at_slot 115 ?_); refine wl_bslice (A := evA y) rfl rfl (e_bs y _) rfl ?_; intro W25 gc kc hb hle; replace HO := Lib.hid (own_keep HO.out hb); replace HB := Lib.hid (below_tr HB.out hb); clear hb hle)
                          | (at_builtin; refine wpList_append_lies _ rfl _ _ 22 rfl V89.heap.size 27 i0 _ 4 32 Try.underlying22 HI0.out.1 HI0.out.2.1 HI0.out.2.2.1 HI0.out.2.2.2 rfl (by decide) u21 ((P.take m).filter (inB a b)).length (fl cE ((P.take m).filter (inB a b))) rfl HO.out ⟨gc, 0, none⟩ 1 1 (cE y) rfl rfl (World.news_of_block (cs := evA y) kc) (cE_one y) (by omega) (by unfold maxLen; have := HFM.out; omega) (by have := HFM.out; omega) HB.out.size _ rfl ?_; intro g2 cap2 W4 hown2 hgrow hat hlt4; have HN : Hid (PkJ V89 W4 P a b (m + 1) (.slice (some ⟨g2, 0, none⟩) (((P.take m).filter (inB a b)).length + 1) cap2)) := Lib.hid ⟨hlt2, by rw [HTF.out, fl_append, fl_one, List.length_append]; exact hown2, HB.out.grown hgrow HB.out.size (fun q' hq' => (HO.out.lt q' hq').1)⟩; clear hown2 hgrow hat))
                        go_roundw
                        case rel => exact ⟨m + 1, HN.out, by go_num⟩
                        case measure => simp [intOf]; omega
                      · skip
                        have hiy : inB a b y = false := by unfold inB; simp; omega
                        have HTF : Hid ((P.take (m + 1)).filter (inB a b) = (P.take m).filter (inB a b)) := Lib.hid (by rw [HTK.out, List.filter_append]; simp [hiy])
                        clear hiy
                        go_wp2_with (first
                          | ((with_reducible refine at_slot 101 ?_); refine wl_ixo rfl rfl rfl rfl Try.underlying22 rfl hlt2 hmm2 ?_)
                          | ((with_reducible refine at_slot 102 ?_); refine wl_ldr (B := evA y) rfl rfl rfl HKY.out Try.underlying27 rfl evInfo ?_)
                          | ((with_reducible refine at_slot 23 ?_); refine wl_alloc (A := evA zeroEv) rfl rfl ev_zero rfl ?_; intro W23 g23 k23 hb hle; have HLE7 := Lib.hid (Nat.le_trans HB.out.size hle); have HN7 := Lib.hid (fun q (hq : u21.ownBlock = some q) => show q ≠ g23 from by have := (HO.out.lt q hq).2; omega); replace HO := Lib.hid (own_keep HO.out hb); replace HB := Lib.hid (below_tr HB.out hb); clear hb hle)
                          | ((with_reducible refine at_store 23 ?_); refine wl_st0 (A' := evA y) rfl rfl rfl rfl k23 rfl evInfo (evA_one _) ?_; intro W24 kn hu; replace HO := Lib.hid (own_same HO.out (fun q hq => hu.block q (HO.out.lt q hq).2 (HN7.out q hq))); replace HB := Lib.hid (upd_below HB.out hu HLE7.out); clear k23; have k23 := kn; clear kn hu)
                          | ((with_reducible refine at_slot 104 ?_); refine wl_ld1 (v := .int .i64 y.t) rfl rfl rfl k23 Try.underlying2 rfl rfl ?_)
                          | ((with_reducible refine at_slot 109 ?_); refine wl_ld1 (v := .int .i64 y.t) rfl rfl rfl k23 Try.underlying2 rfl rfl ?_))
                        go_roundw
                        case rel => exact ⟨m + 1, ⟨hlt2, by rw [HTF.out]; exact HO.out, HB.out⟩, by go_num⟩
                        case measure => simp [intOf]; omega
                    · have hy1' : ¬ y.t ≥ a := hy1
                      have hiy : inB a b y = false := by unfold inB; simp; omega
                      have HTF : Hid ((P.take (m + 1)).filter (inB a b) = (P.take m).filter (inB a b)) := Lib.hid (by rw [HTK.out, List.filter_append]; simp [hiy])
                      clear hiy
                      go_wp2_with (first
                        | ((with_reducible refine at_slot 101 ?_); refine wl_ixo rfl rfl rfl rfl Try.underlying22 rfl hlt2 hmm2 ?_)
                        | ((with_reducible refine at_slot 102 ?_); refine wl_ldr (B := evA y) rfl rfl rfl HKY.out Try.underlying27 rfl evInfo ?_)
                        | ((with_reducible refine at_slot 23 ?_); refine wl_alloc (A := evA zeroEv) rfl rfl ev_zero rfl ?_; intro W23 g23 k23 hb hle; have HLE7 := Lib.hid (Nat.le_trans HB.out.size hle); have HN7 := Lib.hid (fun q (hq : u21.ownBlock = some q) => show q ≠ g23 from by have := (HO.out.lt q hq).2; omega); replace HO := Lib.hid (own_keep HO.out hb); replace HB := Lib.hid (below_tr HB.out hb); clear hb hle)
                        | ((with_reducible refine at_store 23 ?_); refine wl_st0 (A' := evA y) rfl rfl rfl rfl k23 rfl evInfo (evA_one _) ?_; intro W24 kn hu; replace HO := Lib.hid (own_same HO.out (fun q hq => hu.block q (HO.out.lt q hq).2 (HN7.out q hq))); replace HB := Lib.hid (upd_below HB.out hu HLE7.out); clear k23; have k23 := kn; clear kn hu)
                        | ((with_reducible refine at_slot 104 ?_); refine wl_ld1 (v := .int .i64 y.t) rfl rfl rfl k23 Try.underlying2 rfl rfl ?_)
                        | ((with_reducible refine at_slot 109 ?_); refine wl_ld1 (v := .int .i64 y.t) rfl rfl rfl k23 Try.underlying2 rfl rfl ?_))
                      go_roundw
                      case rel => exact ⟨m + 1, ⟨hlt2, by rw [HTF.out]; exact HO.out, HB.out⟩, by go_num⟩
                      case measure => simp [intOf]; omega
                  · obtain rfl : m = P.length := by omega
                    have ho := HO.out
                    rw [List.take_length, HFL.out] at ho
                    have HW2 := Lib.hid (own_lst (xs := L.filter (inB a b)) cE_len ho rfl)
                    replace HJ := Lib.hid (HJ.out.keep HB.out)
                    replace HGL := Lib.hid (HGL.out.keep HB.out)
                    clear ho HO
                    by_cases hcd : c < d
                    · by_cases hold : 0 < (n : Int) ∧ c ≤ mk
                      · have hca : c < a := by have := HNB.out; omega
                        have HOLD := Lib.hid hold
                        clear hold
                        go_wp2_with (first
                          | ((with_reducible refine at_slot 119 ?_); refine wl_ld0 rfl rfl rfl HJ.out.k13 Try.underlying24 rfl rw_size ?_)
                          | ((with_reducible refine at_slot 122 ?_); refine wl_call rfl rfl Try.func10 (by kernel_rfl) rfl (rg_old n mk v c d hcd HOLD.out.1 HOLD.out.2 _) rfl ?_; intro V122 hb; replace HJ := Lib.hid (HJ.out.keep hb); replace HGL := Lib.hid (HGL.out.keep hb); replace HW2 := Lib.hid (HW2.out.keep hb); clear hb)
                          | ((with_reducible refine at_slot 127 ?_); refine wl_call rfl rfl Try.func17 (by kernel_rfl) rfl (sl_yes vg _ (L.filter (inB a b)) (Nat.le_trans HFL2.out (by omega)) _ HGL.out HW2.out) rfl ?_; intro V127 hb; replace HJ := Lib.hid (HJ.out.keep hb); clear hb))
                        go_ret
                        exact ⟨rfl, HJ.out.below⟩
                      · have HNC := Lib.hid hold
                        clear hold
                        go_wp2_with (first
                          | ((with_reducible refine at_slot 119 ?_); refine wl_ld0 rfl rfl rfl HJ.out.k13 Try.underlying24 rfl rw_size ?_)
                          | ((with_reducible refine at_slot 122 ?_); refine wl_callx rfl rfl Try.func10 (by kernel_rfl) rfl (rg_ok n mk v L hL6 c d hcd HNC.out _ HJ.out.lst) rfl ?_; intro vz V122 hR; replace HJ := Lib.hid (HJ.out.keep hR.2); replace HGL := Lib.hid (HGL.out.keep hR.2); replace HW2 := Lib.hid (HW2.out.keep hR.2); clear hR)
                          | ((with_reducible refine at_slot 127 ?_); refine wl_call rfl rfl Try.func17 (by kernel_rfl) rfl (sl_yes vg _ (L.filter (inB a b)) (Nat.le_trans HFL2.out (by omega)) _ HGL.out HW2.out) rfl ?_; intro V127 hb; replace HJ := Lib.hid (HJ.out.keep hb); clear hb))
                        go_ret
                        exact ⟨rfl, HJ.out.below⟩
                    · have hcd2 : d ≤ c := by omega
                      have hcd3 : c ≥ d := hcd2
                      by_cases hca : c < a
                      · skip
                        go_wp2_with (first
                          | ((with_reducible refine at_slot 119 ?_); refine wl_ld0 rfl rfl rfl HJ.out.k13 Try.underlying24 rfl rw_size ?_)
                          | ((with_reducible refine at_slot 122 ?_); refine wl_call rfl rfl Try.func10 (by kernel_rfl) rfl (rg_range n mk v c d hcd2 _) rfl ?_; intro V122 hb; replace HJ := Lib.hid (HJ.out.keep hb); replace HGL := Lib.hid (HGL.out.keep hb); replace HW2 := Lib.hid (HW2.out.keep hb); clear hb)
                          | ((with_reducible refine at_slot 127 ?_); refine wl_call rfl rfl Try.func17 (by kernel_rfl) rfl (sl_yes vg _ (L.filter (inB a b)) (Nat.le_trans HFL2.out (by omega)) _ HGL.out HW2.out) rfl ?_; intro V127 hb; replace HJ := Lib.hid (HJ.out.keep hb); clear hb))
                        go_ret
                        exact ⟨rfl, HJ.out.below⟩
                      · by_cases hbd : d > b
                        · skip
                          go_wp2_with (first
                            | ((with_reducible refine at_slot 119 ?_); refine wl_ld0 rfl rfl rfl HJ.out.k13 Try.underlying24 rfl rw_size ?_)
                            | ((with_reducible refine at_slot 122 ?_); refine wl_call rfl rfl Try.func10 (by kernel_rfl) rfl (rg_range n mk v c d hcd2 _) rfl ?_; intro V122 hb; replace HJ := Lib.hid (HJ.out.keep hb); replace HGL := Lib.hid (HGL.out.keep hb); replace HW2 := Lib.hid (HW2.out.keep hb); clear hb)
                            | ((with_reducible refine at_slot 127 ?_); refine wl_call rfl rfl Try.func17 (by kernel_rfl) rfl (sl_yes vg _ (L.filter (inB a b)) (Nat.le_trans HFL2.out (by omega)) _ HGL.out HW2.out) rfl ?_; intro V127 hb; replace HJ := Lib.hid (HJ.out.keep hb); clear hb))
                          go_ret
                          exact ⟨rfl, HJ.out.below⟩
                        · skip
                          go_wp2_with (first
                            | ((with_reducible refine at_slot 119 ?_); refine wl_ld0 rfl rfl rfl HJ.out.k13 Try.underlying24 rfl rw_size ?_)
                            | ((with_reducible refine at_slot 122 ?_); refine wl_call rfl rfl Try.func10 (by kernel_rfl) rfl (rg_range n mk v c d hcd2 _) rfl ?_; intro V122 hb; replace HJ := Lib.hid (HJ.out.keep hb); replace HGL := Lib.hid (HGL.out.keep hb); replace HW2 := Lib.hid (HW2.out.keep hb); clear hb)
                            | ((with_reducible refine at_slot 127 ?_); refine wl_call rfl rfl Try.func17 (by kernel_rfl) rfl (sl_yes vg _ (L.filter (inB a b)) (Nat.le_trans HFL2.out (by omega)) _ HGL.out HW2.out) rfl ?_; intro V127 hb; replace HJ := Lib.hid (HJ.out.keep hb); clear hb))
                          go_ret
                          exact ⟨rfl, HJ.out.below⟩
end Go.Proofs.Ytohkioakipjanaa
