/-
  WALKS: law 11: RingLast.
-/
import Derived.Test.YthiiclekdikndaaRji
namespace Go.Proofs.Ythiiclekdikndaa
open Go Go.RowKit

/-- What holds at a round's head. -/
structure LaJ (w wr : World) (g : Nat) (room : Nat) (l : List Int) (k : Nat) (v : Value) (o : Option Nat) (L G : List Int) : Prop where
  rb : RgB 56 3 1 ci w wr g o room L G.length
  own : wr.ownsRow w.heap.size 3 1 v G.length (fl ci G)
  cat : G ++ L = l.take k
  kl : k ≤ l.length
  way : G = [] ∨ L.length = room
  sep1 : v.ownBlock ≠ some g
  sep2 : ∀ q, v.ownBlock = some q → o ≠ some q
theorem LaJ.len {w wr : World} {g room k : Nat} {l L G : List Int} {v : Value} {o : Option Nat} (h : LaJ w wr g room l k v o L G) : G.length + L.length = k := by
  have := congrArg List.length h.cat
  rw [List.length_append, List.length_take] at this
  have := h.kl
  omega
theorem conv_u64 (n : Nat) (h : n ≤ 1000) (w : World) : (convert 3 28 (.int .i64 n)).run Try.prog w = .ok (.int .u64 n) w := by
  have e : IntKind.u64.wrap (n : Int) = n := by rw [IntKind.wrap_u64]; omega
  go_simp
theorem la_tail {a : Int} {L : List Int} (h : L ≠ []) : L.headD a :: L.tail = L := by
  cases L with
  | nil => exact absurd rfl h
  | cons x r => rfl
set_option maxHeartbeats 4000000 in
set_option maxRecDepth 100000 in
theorem last_any (room : Int) (hr0 : -9223372036854775808 ≤ room) (hr1 : room ≤ 9223372036854775807) (ao : Option Addr) (cap : Nat) (l : List Int) (hm : l.length ≤ maxLen) (w : World) (h : Lst 1 ci w (.slice ao l.length cap) l) :
    Calls Try.prog 4 #[.int .i64 room, (.slice ao l.length cap)] w fun e w' => e = .returned (.bool true) ∧ Below w.heap.size w w' := by
  have HL := Lib.hid h
  have HM : Hid (l.length ≤ 9223372036854775807) := Lib.hid (by unfold maxLen at hm; omega)
  have HB := Lib.hid (Below.refl w.heap.size w)
  clear h hm
  by_cases hbad : room < 1 ∨ 65536 < room
  · have HBD := Lib.hid hbad
    have hrA := Lib.hid hr0
    have hrB := Lib.hid hr1
    clear hbad hr0 hr1
    go_enter Try.func4, Try.ntmps4
    go_wp2_with (first
      | ((with_reducible refine at_slot 13 ?_); refine wl_call rfl rfl Try.func5 (by kernel_rfl) rfl (lives11 _) rfl ?_; intro V hb; replace HB := Lib.hid (below_tr HB.out hb); clear hb)
      | ((with_reducible refine at_slot 17 ?_); refine wl_call rfl rfl Try.func6 (by kernel_rfl) rfl (i_new_no room HBD.out hrA.out hrB.out _) rfl ?_; intro V hb; replace HB := Lib.hid (below_tr HB.out hb); clear hb))
    go_ret
    exact ⟨rfl, HB.out⟩
  · obtain ⟨rm, rfl⟩ : ∃ rm : Nat, room = rm := ⟨room.toNat, by omega⟩
    have hrm1 : 1 ≤ rm := by omega
    have hrm2 : rm ≤ 65536 := by omega
    clear hbad hr0 hr1
    by_cases hbig : 500 < l.length
    · have hbi : (500 : Int) < l.length := by omega
      clear hbig
      go_enter Try.func4, Try.ntmps4
      go_wp2_with (first
        | ((with_reducible refine at_slot 13 ?_); refine wl_call rfl rfl Try.func5 (by kernel_rfl) rfl (lives11 _) rfl ?_; intro V hb; replace HB := Lib.hid (below_tr HB.out hb); clear hb)
        | ((with_reducible refine at_slot 17 ?_); refine wl_callx rfl rfl Try.func6 (by kernel_rfl) rfl (i_new rm hrm1 hrm2 _) rfl ?_; intro g V hR; replace HB := Lib.hid (below_tr HB.out hR.2.1); clear hR))
      go_ret
      exact ⟨rfl, HB.out⟩
    · have hl5 : (l.length : Int) ≤ 500 := by omega
      have HBG := Lib.hid (show l.length ≤ 500 by omega)
      clear hbig
      obtain ⟨i0, hi, hz, hs, hby⟩ := infoi
      have HI0 := Lib.hid (show _ ∧ _ ∧ _ ∧ _ from ⟨hi, hz, hs, hby⟩)
      clear hi hz hs hby
      go_enter Try.func4, Try.ntmps4
      go_wp2_with (first
        | ((with_reducible refine at_slot 13 ?_); refine wl_call rfl rfl Try.func5 (by kernel_rfl) rfl (lives11 _) rfl ?_; intro V hb; replace HB := Lib.hid (below_tr HB.out hb); clear hb)
        | ((with_reducible refine at_slot 17 ?_); refine wl_callx rfl rfl Try.func6 (by kernel_rfl) rfl (i_new rm hrm1 hrm2 _) rfl ?_; intro g V hR; obtain ⟨hr1, hr2, hr3⟩ := hR; have HJ : Hid (LaJ w _ g rm l 0 (.slice none 0 0) none [] []) := Lib.hid ⟨⟨hr1, below_tr HB.out hr2, Nat.le_trans HB.out.size hr3, fun q hq => by cases hq⟩, World.ownsRow_nil _ _ _ _, by simp, Nat.zero_le _, Or.inl rfl, by simp [Value.ownBlock], by simp [Value.ownBlock]⟩; clear hr1 hr2 hr3))
      clear HB
      go_loopw [7, 39] (fun v i wr => ∃ k o L G, LaJ w wr g rm l k v o L G ∧ i = .int .i64 (k : Nat)) (fun _ i _ => l.length - (intOf i).toNat)
      case atStart => exact ⟨0, _, _, _, HJ.out, rfl⟩
      case round =>
        clear HJ
        obtain ⟨k, o, L, G, hJ, rfl⟩ := hrel
        have hk := hJ.kl
        have HJ := Lib.hid hJ
        clear hJ
        by_cases hlt : k < l.length
        · have hle := HJ.out.rb.ri.le
          have hlen := HJ.out.len
          have hl500 := HBG.out
          have hgx : l[k]? = some l[k] := List.getElem?_eq_getElem hlt
          have HTK := Lib.hid (List.take_succ_eq_append_getElem hlt)
          generalize l[k] = x at hgx HTK
          obtain ⟨ao2, b, off, cap2, hv2, h1, h2⟩ := HL.out.ex
          obtain ⟨rfl, hq1⟩ := h1 (by omega)
          obtain ⟨rfl, rfl⟩ : ao = some ⟨b, off, none⟩ ∧ cap = cap2 := by simpa using hv2
          have kx : World.cell? wr ⟨b, off + k * 1, none⟩ = some (.int .i64 x) := (HJ.out.rb.below.cell (p := ⟨b, off + k * 1, none⟩) hq1).trans (h2 k x hgx 0 _ rfl)
          have KX := Lib.hid kx
          have HMM := HM.out
          have HPT := Lib.hid (i_put HJ.out.rb.ri hrm2 x)
          clear hv2 h1 h2 kx
          by_cases hf : L.length = rm
          · have HF := Lib.hid hf
            rw [putB_yes hf, putX_yes hf, putL_yes hf, putN_yes hf] at HPT
            have HNE := Lib.hid (show L ≠ [] from fun e => by rw [e] at hf; simp at hf; omega)
            obtain ⟨y, hy⟩ : ∃ y, y = L.headD 0 := ⟨_, rfl⟩
            rw [← hy] at HPT
            have HY := Lib.hid hy
            clear hf hy
            go_wp2_with (first
              | ((with_reducible refine at_slot 41 ?_); refine wl_ixo rfl rfl rfl rfl Try.underlying29 rfl hlt HMM ?_)
              | ((with_reducible refine at_slot 42 ?_); refine wl_ldc rfl rfl rfl KX.out Try.underlying3 rfl ?_)
              | ((with_reducible refine at_slot 46 ?_); refine wl_call rfl rfl Try.func9 (by kernel_rfl) rfl HPT.out rfl ?_; intro V hR; obtain ⟨o2, hp1, hp2, hp3⟩ := hR; have hown := own_same HJ.out.own (fun q hq => hp2.block q (HJ.out.own.lt q hq).2 (fun e => HJ.out.sep1 (by rw [hq, e])) (HJ.out.sep2 q hq)); have hRB : RgB 56 3 1 ci w _ g o2 rm _ _ := ⟨hp1, HJ.out.rb.below.trans (hp2.below HJ.out.rb.below.size HJ.out.rb.hg HJ.out.rb.ho), HJ.out.rb.hg, hp3.ge HJ.out.rb.below.size HJ.out.rb.ho⟩; have HS2 : Hid (∀ q, u7.ownBlock = some q → o2 ≠ some q) := Lib.hid (fun q hq => hp3.ne (HJ.out.own.lt q hq).2 (HJ.out.sep2 q hq)); have HRB := Lib.hid hRB; have HO := Lib.hid hown; clear hp1 hp2 hp3 hown hRB)
              | ((with_reducible refine at_slot 52 ?_); refine wl_bslice (A := #[.int .i64 y]) rfl rfl (i_bs _ _) rfl ?_; intro W3 gb kb hb hle3; have HRB3 := Lib.hid (HRB.out.stay hb); have HO3 := Lib.hid (own_keep HO.out hb); clear hb)
              | (at_builtin; refine wpList_append_lies _ rfl _ _ 29 rfl w.heap.size 3 i0 _ 1 8 Try.underlying29 HI0.out.1 HI0.out.2.1 HI0.out.2.2.1 HI0.out.2.2.2 rfl (by decide) u7 G.length (fl ci G) rfl HO3.out ⟨gb, 0, none⟩ 1 1 [.int .i64 y] rfl rfl (World.news_of_block (cs := #[.int .i64 y]) kb) (by intro y hy; rw [List.mem_singleton] at hy; subst hy; rfl) (by omega) (by unfold maxLen; omega) (by omega) HRB3.out.below.size _ rfl ?_; intro g2 cap2 W4 hown2 hgrow hat hlt4; have HN : Hid (LaJ w W4 g rm l (k + 1) (.slice (some ⟨g2, 0, none⟩) (G.length + 1) cap2) o2 (L.tail ++ [x]) (G ++ [y])) := (by
                  have s1 := HJ.out.sep1
                  have s2 := HS2.out
                  have hg2 : g2 ≠ g := by
                    rcases hat with e | e
                    · intro e2; rw [e2] at e; exact s1 e
                    · have := HRB3.out.ri.lt; omega
                  have ho2 : o2 ≠ some g2 := by
                    rcases hat with e | e
                    · exact s2 g2 e
                    · intro e2; have := HRB3.out.ri.o_lt g2 e2; omega
                  refine Lib.hid ⟨⟨?_, HRB3.out.below.grown hgrow HRB3.out.below.size (fun q hq => (HO3.out.lt q hq).1), HRB3.out.hg, HRB3.out.ho⟩, by rw [fl_append, List.length_append]; exact hown2, ?_, hlt, Or.inr (by rw [List.length_append, List.length_tail, HF.out]; simp; omega), by simp [Value.ownBlock]; exact hg2, fun q hq => by cases hq; exact ho2⟩
                  · have e1 : IntKind.u64.wrap ((G.length : Int) + 1) = ((G ++ [y]).length : Int) := by rw [IntKind.wrap_u64, List.length_append]; simp; omega
                    rw [← e1]
                    exact HRB3.out.ri.grown hgrow s1 (fun k hk e => s2 k e hk)
                  · rw [HTK.out, ← HJ.out.cat, ← la_tail (a := 0) HNE.out, ← HY.out]
                    simp); clear hown2 hgrow hat))
            go_roundw
            case rel => exact ⟨k + 1, _, _, _, HN.out, by go_num⟩
            case measure => simp [intOf]; omega
          · have HF := Lib.hid hf
            rw [putB_no hf, putX_no hf, putL_no hf, putN_no hf] at HPT
            clear hf
            go_wp2_with (first
              | ((with_reducible refine at_slot 41 ?_); refine wl_ixo rfl rfl rfl rfl Try.underlying29 rfl hlt HMM ?_)
              | ((with_reducible refine at_slot 42 ?_); refine wl_ldc rfl rfl rfl KX.out Try.underlying3 rfl ?_)
              | ((with_reducible refine at_slot 46 ?_); refine wl_call rfl rfl Try.func9 (by kernel_rfl) rfl HPT.out rfl ?_; intro V hR; obtain ⟨o2, hp1, hp2, hp3⟩ := hR; have hown := own_same HJ.out.own (fun q hq => hp2.block q (HJ.out.own.lt q hq).2 (fun e => HJ.out.sep1 (by rw [hq, e])) (HJ.out.sep2 q hq)); have hRB : RgB 56 3 1 ci w _ g o2 rm _ _ := ⟨hp1, HJ.out.rb.below.trans (hp2.below HJ.out.rb.below.size HJ.out.rb.hg HJ.out.rb.ho), HJ.out.rb.hg, hp3.ge HJ.out.rb.below.size HJ.out.rb.ho⟩; have HN : Hid (LaJ w _ g rm l (k + 1) u7 o2 (L ++ [x]) G) := Lib.hid ⟨hRB, hown, by rw [HTK.out, ← HJ.out.cat, List.append_assoc], hlt, (by rcases HJ.out.way with e | e; exact Or.inl e; exact absurd e HF.out), HJ.out.sep1, fun q hq => hp3.ne (HJ.out.own.lt q hq).2 (HJ.out.sep2 q hq)⟩; clear hp1 hp2 hp3 hown hRB))
            go_roundw
            case rel => exact ⟨k + 1, _, _, _, HN.out, by go_num⟩
            case measure => simp [intOf]; omega
        · obtain rfl : k = l.length := by omega
          have hlen := HJ.out.len
          have hle := HJ.out.rb.ri.le
          have hl500 := HBG.out
          have hmn : (if (rm : Int) < l.length then (rm : Int) else l.length) = (L.length : Int) := by
            rcases HJ.out.way with e | e
            · have hg0 : G.length = 0 := by rw [e]; rfl
              split <;> omega
            · split <;> omega
          have HMN := Lib.hid hmn
          have HRB := Lib.hid HJ.out.rb
          have HO := Lib.hid HJ.out.own
          have HC : Hid (G ++ L = l) := Lib.hid (by have := HJ.out.cat; rwa [List.take_length] at this)
          have hG5 : G.length ≤ 1000 := by omega
          have hsl := own_sl HO.out
          have HSL := Lib.hid hsl
          have hci1 := ci_one
          clear hmn hsl
          go_wp2_with (first
            | ((with_reducible refine at_slot 58 ?_); refine wl_mn rfl rfl rfl rfl HMN.out ?_)
            | ((with_reducible refine at_slot 60 ?_); refine wl_call rfl rfl Try.func15 (by kernel_rfl) rfl (i_len HRB.out.ri) rfl ?_; intro V hb; replace HRB := Lib.hid (HRB.out.stay hb); replace HO := Lib.hid (own_keep HO.out hb); clear hb)
            | ((with_reducible refine at_slot 65 ?_); refine wl_call rfl rfl Try.func16 (by kernel_rfl) rfl (i_lost HRB.out.ri) rfl ?_; intro V hb; replace HRB := Lib.hid (HRB.out.stay hb); replace HO := Lib.hid (own_keep HO.out hb); clear hb)
            | ((with_reducible refine at_slot 67 ?_); refine wl_lenL rfl rfl rfl Try.underlying29 HSL.out ?_)
            | ((with_reducible refine at_slot 68 ?_); refine wl_conv rfl rfl rfl (conv_u64 _ hG5 _) ?_)
            | ((with_reducible refine at_slot 74 ?_); refine wl_callx rfl rfl Try.func18 (by kernel_rfl) rfl (i_all HRB.out.ri hrm2) rfl ?_; intro v8 V hR; have HRB2 := Lib.hid (HRB.out.below.trans (hR.2.mono HRB.out.below.size)); have HO2 := Lib.hid (own_keep HO.out hR.2); have HL8 := Lib.hid (own_lst (xs := L) ci_len hR.1 rfl); clear hR HRB HO)
            | ((with_reducible refine at_slot 75 ?_); refine wl_app (c := ci) (xs := G) (ys := L) rfl rfl ci_len (by decide) ci_one w.heap.size 3 i0 _ 8 Try.underlying29 HI0.out.1 HI0.out.2.1 HI0.out.2.2.1 HI0.out.2.2.2 rfl rfl rfl HO2.out HL8.out (by unfold maxLen; omega) (by omega) HRB2.out.size ?_; intro v9 W9 ho9 hg9 hat9; have HB9 := Lib.hid (HRB2.out.grown hg9 HRB2.out.size (fun q hq => (HO2.out.lt q hq).1)); have HL9 : Hid (Lst 1 ci W9 v9 l) := Lib.hid (by have := own_lst (xs := G ++ L) ci_len ho9 (by rw [List.length_append]); rwa [HC.out] at this); have HLL := Lib.hid (HL.out.same HB9.out.size (fun q hq hlt => HB9.out.block q hlt)); clear ho9 hg9 hat9 HO2 HL8)
            | ((with_reducible refine at_slot 77 ?_); refine wl_call rfl rfl Try.func17 (by kernel_rfl) rfl (same_yes _ _ l (by omega) _ HL9.out HLL.out) rfl ?_; intro V hb; have HBF := Lib.hid (below_tr HB9.out hb); clear hb))
          go_ret
          exact ⟨rfl, HBF.out⟩
end Go.Proofs.Ythiiclekdikndaa
