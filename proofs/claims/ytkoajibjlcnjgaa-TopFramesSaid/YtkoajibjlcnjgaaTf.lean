/-
  THE LAW plimsolltop.TopFrames: the walk: it answers true, of any texts, any kind, any place, and any byte.
-/
import Derived.Test.YtkoajibjlcnjgaaBg2
import Derived.Test.YtkoajibjlcnjgaaFr3
import Derived.Test.YtkoajibjlcnjgaaSf
import Derived.LoopTactic
import Derived.OwnWalk
namespace Go.Proofs.Ytkoajibjlcnjgaa
open Go Go.RowKit

/-! ### Frames, one of them turned. -/
def kk (k i : Nat) : Nat := (k + i) % 256
theorem kk_lt (k i : Nat) : kk k i < 256 := Nat.mod_lt _ (by omega)
def frm (l : List (List UInt8)) (k i : Nat) : List UInt8 := fr (kk k i) (l.getD i [])
def frms (l : List (List UInt8)) (k n : Nat) : List (List UInt8) := (List.range n).map (frm l k)
theorem frms_len (l : List (List UInt8)) (k n : Nat) : (frms l k n).length = n := by simp [frms]
theorem frms_succ (l : List (List UInt8)) (k n : Nat) : frms l k (n + 1) = frms l k n ++ [frm l k n] := by simp [frms, List.range_succ]
theorem frms_at (l : List (List UInt8)) (k n i : Nat) (h : i < (frms l k n).length) : (frms l k n)[i] = frm l k i := by simp [frms]
theorem fr_parts (k : Nat) (t : List UInt8) : fr k t = UInt8.ofNat (k % 256) :: ((ub t.length ++ t) ++ fxF 4 (revN (sumN (hd k t)))) := by
  rw [fr, hd_cons]; rfl
theorem fr_ge (k : Nat) (t : List UInt8) : 6 ≤ (fr k t).length := by
  have h1 := (ub_len t.length).1
  have h2 := fxF_len 4 (revN (sumN (hd k t)))
  rw [fr_parts]
  simp only [List.length_cons, List.length_append]
  omega
theorem fxF_snoc (m n : Nat) : fxF (m + 1) n = fxF m (n / 256) ++ [UInt8.ofNat (n % 256)] := rfl

/-- The kind is another one: the sum is wrong. -/
theorem kind_bad {k j : Nat} (hk : k < 256) (hj : j < 256) (hne : j ≠ k) (t : List UInt8) : bev (fxF 4 (revN (sumN (hd k t)))) ≠ revN (sumN (hd j t)) := by
  rw [sums_open]
  intro h
  have e := revN_inj (sumN_lt _) (sumN_lt _) h
  rw [hd_cons, hd_cons] at e
  have := sum_found1 [] (ub t.length ++ t) _ _ e
  have h2 := congrArg UInt8.toNat this
  rw [tn (by omega), tn (by omega)] at h2
  omega
/-- The sum's last byte is another one. -/
theorem last_bad {k : Nat} (t : List UInt8) (c : List UInt8) (b : UInt8) (hc : c ++ [b] ≠ fxF 4 (revN (sumN (hd k t)))) (hl : c = fxF 3 (revN (sumN (hd k t)) / 256)) : bev (c ++ [b]) ≠ revN (sumN (hd k t)) := by
  rw [← sums_open (k := k) (t := t), fxF_snoc, hl, bev_snoc, bev_snoc]
  intro h
  apply hc
  have h1 : b.toNat = (UInt8.ofNat (revN (sumN (hd k t)) % 256)).toNat := by omega
  rw [hl, UInt8.toNat_inj.1 h1]
  rfl

/-- A string that is no frame, whatever is behind it. -/
def NoFrame (x : List UInt8) : Prop := ∀ (r : List UInt8) (w : World), r.length ≤ 1073741824 →
  Calls Try.prog 33 #[.string (bs (x ++ r))] w fun e w' => e = .returned (.tuple #[.int .u8 0, .string (bs []), .string (bs []), .int .i64 4]) ∧ Below w.heap.size w w'
theorem noframe_kind {k : Nat} (hk : k < 256) (t : List UInt8) (ht : t.length ≤ 4194304) (b : Nat) (hb : b < 256) (h0 : b ≠ 0) :
    NoFrame ((fr k t).set 0 (UInt8.ofNat (((fr k t).getD 0 0).toNat ^^^ b))) := by
  intro r w hr
  have hx : k ^^^ b < 256 := Nat.xor_lt_two_pow (n := 8) hk hb
  have e : (fr k t).set 0 (UInt8.ofNat (((fr k t).getD 0 0).toNat ^^^ b)) = hd (k ^^^ b) t ++ fxF 4 (revN (sumN (hd k t))) := by
    rw [fr_parts]
    simp only [List.set_cons_zero, List.getD_cons_zero]
    rw [tn (by omega), hd_cons (k ^^^ b), Nat.mod_eq_of_lt hk, Nat.mod_eq_of_lt hx]
    rfl
  rw [e, List.append_assoc]
  refine open_bad (k ^^^ b) hx t _ r ht (fxF_len _ _) hr (kind_bad hk hx ?_ t) w
  intro h
  have h2 : k ^^^ b ^^^ k = k ^^^ k := by rw [h]
  rw [Nat.xor_self, Nat.xor_comm, ← Nat.xor_assoc, Nat.xor_self, Nat.zero_xor] at h2
  exact h0 h2
theorem fr_last (k : Nat) (t : List UInt8) : fr k t = (hd k t ++ fxF 3 (revN (sumN (hd k t)) / 256)) ++ [UInt8.ofNat (revN (sumN (hd k t)) % 256)] := by
  rw [fr, fxF_snoc, List.append_assoc]
theorem noframe_last {k : Nat} (hk : k < 256) (t : List UInt8) (ht : t.length ≤ 4194304) (b : Nat) (hb : b < 256) (h0 : b ≠ 0) (n : Nat) (hn : n + 1 = (fr k t).length) :
    NoFrame ((fr k t).set n (UInt8.ofNat (((fr k t).getD n 0).toNat ^^^ b))) := by
  intro r w hr
  have hl := fr_last k t
  have hn2 : n = (hd k t ++ fxF 3 (revN (sumN (hd k t)) / 256)).length := by
    have := congrArg List.length hl
    rw [List.length_append] at this
    simp at this
    simp
    omega
  have e : (fr k t).set n (UInt8.ofNat (((fr k t).getD n 0).toNat ^^^ b)) = hd k t ++ (fxF 3 (revN (sumN (hd k t)) / 256) ++ [UInt8.ofNat ((UInt8.ofNat (revN (sumN (hd k t)) % 256)).toNat ^^^ b)]) := by
    rw [hl, hn2]
    simp [List.set_append, List.getD]
  rw [e, List.append_assoc]
  refine open_bad k hk t _ r ht (by simp [fxF_len]) hr (last_bad t _ _ ?_ rfl) w
  intro h
  rw [fxF_snoc] at h
  have h1 := List.append_cancel_left h
  simp only [List.cons.injEq, and_true] at h1
  have := xor_byte (a := UInt8.ofNat (revN (sumN (hd k t)) % 256)) hb h1
  exact h0 this

/-! ### Rows of strings. -/
def strV (x : List UInt8) : Value := .string (bs x)
structure SRow (w : World) (g : Nat) (L : List (List UInt8)) : Prop where
  row : ∃ cur : Array Value, w.heap[g]? = some (.cells cur 9 (0, 0)) ∧ L.length ≤ cur.size ∧ cur.toList.take L.length = L.map strV
section
variable {w : World} {g : Nat} {L : List (List UInt8)}
theorem SRow.lt (h : SRow w g L) : g < w.heap.size := by obtain ⟨_, h, _⟩ := h.row; exact lt_blk h
theorem SRow.cell (h : SRow w g L) {i : Nat} (hi : i < L.length) : w.cell? ⟨g, i, none⟩ = some (.string (bs L[i])) := by
  obtain ⟨cur, h1, h2, h3⟩ := h.row
  rw [cell_blk h1]
  have := congrArg (fun x => x[i]?) h3
  simp only [List.getElem?_take, hi, if_true, List.getElem?_map, List.getElem?_eq_getElem hi, Option.map_some] at this
  simpa [strV] using this
theorem SRow.free (h : SRow w g L) (i : Nat) : w.frozen? ⟨g, i, none⟩ = false := by obtain ⟨_, h, _⟩ := h.row; exact free_blk h i
theorem SRow.set (h : SRow w g L) {i : Nat} (hi : i < L.length) (x : List UInt8) : SRow (w.setCell ⟨g, i, none⟩ (.string (bs x))) g (L.set i x) := by
  obtain ⟨cur, h1, h2, h3⟩ := h.row
  refine ⟨cur.set! i (.string (bs x)), set_blk h1 _, by simpa using h2, ?_⟩
  rw [List.length_set, List.map_set, ← h3]
  simp [List.take_set, strV]
theorem SRow.step {S : Nat → Prop} {w' : World} (h : SRow w g L) (hs : Step S w w') (hn : ¬ S g) : SRow w' g L := by
  have hl := h.lt
  obtain ⟨cur, h1, r⟩ := h.row
  exact ⟨cur, (hs.block g hl hn).trans h1, r⟩
end
structure PartsAt (w : World) (po : Option Addr) (g : Nat) (L : List (List UInt8)) : Prop where
  at_ : 0 < L.length → po = some ⟨g, 0, none⟩ ∧ SRow w g L
theorem parts_of {w : World} {B : Nat} {v : Value} {L : List (List UInt8)} (h : w.ownsRow B 9 1 v L.length (L.map strV)) : ∃ po g cap, v = .slice po L.length cap ∧ PartsAt w po g L ∧ (0 < L.length → B ≤ g) := by
  obtain ⟨h1, h2 | ⟨g, cap, cur, rfl, hb, hg, hc, hm, hz, ht⟩⟩ := h
  · exact ⟨none, 0, 0, by rw [h2.1, h2.2], ⟨fun h => by omega⟩, fun h => by omega⟩
  · exact ⟨some ⟨g, 0, none⟩, g, cap, rfl, ⟨fun _ => ⟨rfl, ⟨cur, hg, by omega, by simpa using ht⟩⟩⟩, fun _ => hb⟩
theorem info_str : (Try.prog.info? 9).map (fun i => (i.zero, i.size, i.bytes)) = some (some (.string ⟨#[]⟩), 1, 16) := by kernel_rfl

theorem flat_len {L : List (List UInt8)} {n m : Nat} (h : ∀ x ∈ L, x.length ≤ n) (hm : L.length ≤ m) : L.flatten.length ≤ n * m := by
  have h1 : L.flatten.length ≤ n * L.length := by
    clear hm
    induction L with
    | nil => simp
    | cons x t ih =>
      have a := h x (by simp)
      have b := ih (fun y hy => h y (by simp [hy]))
      simp only [List.flatten_cons, List.length_append, List.length_cons, Nat.mul_succ]
      omega
  exact Nat.le_trans h1 (Nat.mul_le_mul_left _ hm)
theorem frms_len4 {l : List (List UInt8)} {k : Nat} (h : ∀ (j : Nat) (hj : j < l.length), l[j].length ≤ 4096) : ∀ x ∈ frms l k l.length, x.length ≤ 4111 := by
  intro x hx
  obtain ⟨i, hi, rfl⟩ := List.mem_iff_getElem.1 hx
  rw [frms_at]
  rw [frms_len] at hi
  have h1 := fr_len (kk k i) (l.getD i [])
  have h2 : l.getD i [] = l[i] := by simp [List.getD, List.getElem?_eq_getElem hi]
  have h3 := h i hi
  rw [h2] at h1
  unfold frm
  rw [h2]
  omega
structure FInv (w wr : World) (l : List (List UInt8)) (kd n : Nat) (v : Value) : Prop where
  le : n ≤ l.length
  short : ∀ (j : Nat) (h : j < l.length), j < n → l[j].length ≤ 4096
  own : wr.ownsRow w.heap.size 9 1 v n ((frms l kd n).map strV)
  below : Below w.heap.size w wr

set_option maxHeartbeats 8000000 in
set_option maxRecDepth 100000 in
theorem frames_long (ao : Option Addr) (cap : Nat) (l : List (List UInt8)) (kd : Nat) (at_ : Int) (b : Nat) (hl : 20 < l.length) (hm : l.length ≤ maxLen) (w : World) :
    Calls Try.prog 8 #[.slice ao l.length cap, .int .u8 kd, .int .i64 at_, .int .u8 b] w fun e w' => e = .returned (.bool true) ∧ Below w.heap.size w w' := by
  unfold maxLen at hm
  go_enter Try.func8, Try.ntmps8
  go_wp2_with (go_at_call 31; refine (begins2_any _).mono ?_; rintro e w1 ⟨rfl, hb⟩)
  go_ret
  exact ⟨rfl, hb⟩

set_option maxHeartbeats 8000000 in
set_option maxRecDepth 100000 in
theorem frames_in (ao : Option Addr) (b0 off cap : Nat) (l : List (List UInt8)) (kd : Nat) (hkd : kd < 256) (at_ : Int) (ha1 : -9223372036854775808 ≤ at_) (ha2 : at_ ≤ 9223372036854775807) (b : Nat) (hb : b < 256) (hl : l.length ≤ 20) (w : World) (hst : StrsAt w ao b0 off l) :
    Calls Try.prog 8 #[.slice ao l.length cap, .int .u8 kd, .int .i64 at_, .int .u8 b] w fun e w' => e = .returned (.bool true) ∧ Below w.heap.size w w' := by
  have HA := Lib.hid hst
  clear hst
  obtain ⟨i0, hi, hz0, hz1, hz2⟩ := info_parts info_str
  have hl' : (l.length : Int) ≤ 20 := by omega
  have hkd' : (kd : Int) ≤ 255 := by omega
  have hb' : (b : Int) ≤ 255 := by omega
  go_enter Try.func8, Try.ntmps8
  go_wp2_with (go_at_call 31; refine (begins2_any _).mono ?_; rintro e w1 ⟨rfl, hbl⟩)
  have HI : Hid (FInv w w1 l kd 0 (.slice none 0 0)) := ⟨Nat.zero_le _, fun j h h0 => by omega, World.ownsRow_nil _ _ _ _, hbl⟩
  clear hbl
  go_loopw [9, 33] (fun v i wr => ∃ k : Nat, FInv w wr l kd k v ∧ i = .int .i64 k) (fun _ i _ => l.length - (intOf i).toNat)
  case atStart => exact ⟨0, HI.out, rfl⟩
  case round =>
    obtain ⟨k, hI, rfl⟩ := hrel
    clear HI
    have HI := Lib.hid hI
    have hown := hI.own
    have hk := hI.le
    clear hI
    by_cases hlt : k < l.length
    · obtain ⟨rfl, hbw⟩ := HA.out.at_ (by omega)
      have c0 := HA.out.cell k hlt
      have d0 := (HI.out.below.cell (p := ⟨b0, off + k, none⟩) hbw).trans c0
      have hlk : l.getD k [] = l[k] := by simp [List.getD, List.getElem?_eq_getElem hlt]
      have HLK := Lib.hid hlk
      clear c0 hlk
      generalize htt : l[k] = t at d0
      have HT : Hid (t = l[k]) := htt.symm
      clear htt
      have hzt := bs_size t
      by_cases hlong : 4096 < t.length
      · go_wp2_with fail
        go_ret
        exact ⟨rfl, HI.out.below⟩
      · have HTL : Hid (t.length ≤ 4096) := by show _ ≤ _; omega
        have hq : ((kd : Int) + (k : Int)) % 256 = ((kk kd k : Nat) : Int) := by unfold kk; omega
        have hfe : fr (kk kd k) t = frm l kd k := by rw [frm, HLK.out, ← HT.out]
        have HFE := Lib.hid hfe
        clear hfe
        go_wp2_with fail
        refine (frame_ok (kk kd k) (kk_lt _ _) t (by have := HTL.out; omega) _).mono ?_
        rintro e w2 ⟨rfl, hb2⟩
        rw [HFE.out]
        have hown2 : w2.ownsRow w.heap.size 9 1 u9 k ((frms l kd k).map strV) :=
          hown.kept (row := none) ⟨hb2.os, hb2.tape, hb2.output, hb2.size, fun k hk _ => hb2.block k hk⟩ (by cases h : u9.ownBlock <;> simp)
        have HB2 : Hid (Below w.heap.size w w2) := HI.out.below.trans (hb2.mono HI.out.below.size)
        have hge : 6 ≤ (frm l kd k).length := by rw [← HFE.out]; exact fr_ge _ _
        have hzf := bs_size (frm l kd k)
        have hle : (frm l kd k).length ≤ 4111 := by rw [← HFE.out]; have := fr_len (kk kd k) t; have := HTL.out; omega
        clear hb2 hown
        go_wp2_with (at_builtin; refine wpList_append_own _ rfl _ _ 57 rfl w.heap.size 9 i0 (.string ⟨#[]⟩) 1 16 Try.underlying57 hi hz0 hz1 hz2 rfl (by decide) _ _ _ rfl (hown2.alloc _) ⟨w2.heap.size, 0, none⟩ 1 1 [.string (bs (frm l kd k))] rfl rfl ?c1 ?c2 ?c3 ?c4 ?c5 ?_)
        case c1 => intro j u hj; match j, hj with | 0, hj => simp at hj; subst hj; simp [Addr.add]
        case c2 => intro u hu; simp at hu; subst hu; rfl
        case c3 => unfold maxLen; omega
        case c4 => omega
        case c5 => have := HB2.out.size; simp; omega
        intro v' w3 hown3 hgrow _
        have HO := Lib.hid hown3
        have HB3 : Hid (Below w.heap.size w w3) := ((HB2.out.alloc HB2.out.size _).grown hgrow (by have := HB2.out.size; simp; omega) (fun k hk => (hown2.lt k hk).1))
        clear hown2 hown3 hgrow
        go_wp2_with fail
        go_roundw
        case rel =>
          refine ⟨k + 1, ⟨by omega, ?_, ?_, HB3.out⟩, by go_num⟩
          · intro j hj hjk
            rcases Nat.lt_or_ge j k with h | h
            · exact HI.out.short j hj h
            · have e : j = k := by omega
              subst e
              rw [← HT.out]; exact HTL.out
          · have := HO.out
            rw [frms_succ, List.map_append]
            exact this
        case measure => simp [intOf]; omega
    · obtain rfl : k = l.length := by omega
      have hsh : ∀ (j : Nat) (h : j < l.length), l[j].length ≤ 4096 := fun j h => HI.out.short j h h
      have HSH := Lib.hid hsh
      have hlen := frms_len l kd l.length
      obtain ⟨po, g, cap2, hv, hP, hBg⟩ := parts_of (L := frms l kd l.length) (by rw [hlen]; exact hown)
      have HP := Lib.hid hP
      have HBG := Lib.hid hBg
      have HB := Lib.hid HI.out.below
      rw [hlen] at hv
      subst hv
      clear hown hP hBg hsh HI
      by_cases hin : 0 ≤ at_ ∧ at_ < l.length
      · obtain ⟨p, rfl⟩ := Int.eq_ofNat_of_zero_le hin.1
        have hp : p < l.length := by omega
        have hp' : (p : Int) < l.length := by omega
        obtain ⟨rfl, hrow⟩ := HP.out.at_ (by rw [hlen]; omega)
        have hgB := HBG.out (by rw [hlen]; omega)
        have cg := hrow.cell (i := p) (by rw [hlen]; exact hp)
        have fg := hrow.free p
        have hgl := hrow.lt
        rw [frms_at] at cg
        obtain ⟨f, hf⟩ : ∃ f, f = frm l kd p := ⟨_, rfl⟩
        rw [← hf] at cg
        have hlp : l.getD p [] = l[p] := by simp [List.getD, List.getElem?_eq_getElem hp]
        have hff : f = fr (kk kd p) l[p] := by rw [hf, frm, hlp]
        have h6 : 6 ≤ f.length := by rw [hff]; exact fr_ge _ _
        have hfl : f.length ≤ 4111 := by rw [hff]; have := fr_len (kk kd p) l[p]; have := HSH.out p hp; omega
        obtain ⟨C, W1, hcv, hrw, hbw, hCl, hCm⟩ := conv_rowW wr f (by omega)
        have cg1 := (hbw.cell (p := ⟨g, p, none⟩) hgl).trans cg
        have fg1 := (hbw.frozen (p := ⟨g, p, none⟩) hgl).trans fg
        have hr1 : SRow W1 g (frms l kd l.length) := hrow.step (S := fun _ => False) (Step.of_below hbw) (fun h => h)
        have HB1 : Hid (Below w.heap.size w W1) := HB.out.trans (hbw.mono HB.out.size)
        have hg2 : g ≠ wr.heap.size := by omega
        have hg2' : wr.heap.size ≠ g := by omega
        have hwg : w.heap.size ≤ wr.heap.size := HB.out.size
        have hf0 : f[0]'(by omega) = f.getD 0 0 := by simp [List.getD, List.getElem?_eq_getElem (show 0 < f.length by omega)]
        have c0 := hrw.toRow.cell (j := 0) (by omega)
        rw [hf0] at c0
        have f0 := hrw.free (i := 0) (by omega)
        obtain ⟨ch, hche⟩ : ∃ ch, ch = (f.getD 0 0).toNat := ⟨_, rfl⟩
        rw [← hche] at c0
        have hch : ch < 256 := by rw [hche]; exact UInt8.toNat_lt _
        have hx : bits .xor .u8 (ch : Int) (b : Int) = ((ch ^^^ b : Nat) : Int) := u8_xor_nat _ _ hch hb
        have hx8 : ch ^^^ b < 256 := Nat.xor_lt_two_pow (n := 8) hch hb
        have HCH := Lib.hid hche
        have HF := Lib.hid hff
        have HF0 := Lib.hid hf
        have HR1 := Lib.hid hr1
        have HRW := Lib.hid hrw
        have hzf := bs_size f
        unfold maxLen at hCm
        have HHL := Lib.hid hlen
        clear hf hff hlp hf0 hrow hr1 hrw hbw hin HP HB fg hche hlen
        generalize wr.heap.size = g2 at *
        by_cases hodd : b % 2 = 1
        · have t1 : ((b : Int) % 2 == 0) = false := by simp; omega
          obtain ⟨f1, hf1⟩ : ∃ f1, f1 = f.set 0 (UInt8.ofNat (ch ^^^ b)) := ⟨_, rfl⟩
          have hf1l : f1.length = f.length := by rw [hf1, List.length_set]
          have hw2 : RowW (W1.setCell ⟨g2, 0, none⟩ (.int .u8 ((ch ^^^ b : Nat) : Int))) g2 C f1 := by
            have := HRW.out.set (i := 0) (by omega) (UInt8.ofNat (ch ^^^ b))
            rwa [u8v_of hx8, ← hf1] at this
          have hcv2 : ∀ c : Nat, (convert 54 9 (.slice (some ⟨g2, 0, none⟩) f.length c)).run Try.prog (W1.setCell ⟨g2, 0, none⟩ (.int .u8 ((ch ^^^ b : Nat) : Int))) = .ok (.string (bs f1)) (W1.setCell ⟨g2, 0, none⟩ (.int .u8 ((ch ^^^ b : Nat) : Int))) := fun c => by
            have := run_convert_bytes_back (W1.setCell ⟨g2, 0, none⟩ (.int .u8 ((ch ^^^ b : Nat) : Int))) _ _ 5 ⟨g2, 0, none⟩ c f1 Try.underlying54 Try.underlying5 Try.underlying9 (fun j hj => by rw [Addr.add_lit, Nat.zero_add]; exact hw2.toRow.cell hj)
            rwa [hf1l] at this
          have HF1 := Lib.hid hf1
          have HF1L := Lib.hid hf1l
          clear hw2 hf1 hf1l
          go_wp2_with fail
          have hL : ((frms l kd l.length).set p f1).length = l.length := by rw [List.length_set]; exact HHL.out
          have HP : Hid (PartsAt ((W1.setCell ⟨g2, 0, none⟩ (.int .u8 ((ch ^^^ b : Nat) : Int))).setCell ⟨g, p, none⟩ (.string (bs f1))) (some ⟨g, 0, none⟩) g ((frms l kd l.length).set p f1)) := ⟨fun _ => ⟨rfl, (HR1.out.step (S := fun k => k = g2) ((Step.refl _ _).own _) (fun h => hg2 h)).set (by rw [HHL.out]; exact hp) _⟩⟩
          have HB : Hid (Below w.heap.size w ((W1.setCell ⟨g2, 0, none⟩ (.int .u8 ((ch ^^^ b : Nat) : Int))).setCell ⟨g, p, none⟩ (.string (bs f1)))) := (HB1.out.setCell (p := ⟨g2, 0, none⟩) hwg _).setCell (p := ⟨g, p, none⟩) hgB _
          have HG : Hid (∀ (i : Nat), i < l.length → ¬ ((i : Int) = (p : Int) ∧ b ≠ 0) → ((frms l kd l.length).set p f1)[i]? = some (frm l kd i)) := fun i h hn => by
            have hne : p ≠ i := fun e => hn ⟨by omega, by omega⟩
            rw [List.getElem?_set_ne hne, List.getElem?_eq_getElem (by rw [HHL.out]; exact h), frms_at]
          have HBAD : Hid (∀ (i : Nat), i < l.length → (i : Int) = (p : Int) → b ≠ 0 → ∃ x, ((frms l kd l.length).set p f1)[i]? = some x ∧ NoFrame x) := fun i h e h0 => by
            obtain rfl : i = p := by omega
            refine ⟨f1, by rw [List.getElem?_set_self (by rw [HHL.out]; exact hp)], ?_⟩
            rw [HF1.out, HCH.out, HF.out]
            exact noframe_kind (kk_lt _ _) _ (by have := HSH.out i h; omega) b hb h0
          have HLEN : Hid (∀ x ∈ (frms l kd l.length).set p f1, x.length ≤ 4111) := fun x hx => by
            rcases List.mem_or_eq_of_mem_set hx with h | h
            · exact frms_len4 HSH.out x h
            · rw [h, HF1L.out]; exact hfl
          have hLl := hL
          clear hL hcv hcv2 cg cg1 fg1 c0 f0 hx t1 HR1 HRW HB1 HCH HF HF0 
          generalize (frms l kd l.length).set p f1 = L at *
          generalize (W1.setCell ⟨g2, 0, none⟩ (.int .u8 ((ch ^^^ b : Nat) : Int))).setCell ⟨g, p, none⟩ (.string (bs f1)) = wm at *
          clear hgl hg2 hg2'
          have HLL : Hid (L.length = l.length) := hLl
          go_wp2_with fail
          go_loop [15, 106] (fun s i => ∃ k : Nat, k ≤ l.length ∧ i = .int .i64 k ∧ s = .string (bs (L.take k).flatten)) (fun _ i => l.length - (intOf i).toNat)
          case atStart => exact ⟨0, Nat.zero_le _, rfl, rfl⟩
          case round =>
            obtain ⟨k, hk, rfl, rfl⟩ := hrel
            have hfl : (L.take k).flatten.length ≤ 4111 * 20 := flat_len (fun x hx => HLEN.out x (List.mem_of_mem_take hx)) (by rw [List.length_take]; omega)
            by_cases hlt : k < l.length
            · obtain ⟨_, hrow⟩ := HP.out.at_ (by omega)
              have c := hrow.cell (i := k) (by omega)
              have hLk := HLEN.out (L[k]'(by omega)) (List.getElem_mem _)
              have hft : (L.take (k + 1)).flatten = (L.take k).flatten ++ L[k]'(by omega) := by
                rw [List.take_succ_eq_append_getElem (by omega), List.flatten_append]
                simp
              have HFT := Lib.hid hft
              clear hft hrow
              generalize (L.take k).flatten = X at hfl HFT
              generalize L[k]'(by omega) = y at c hLk HFT
              have hzx := bs_size X
              have hzy := bs_size y
              have hap := bs_append X y
              go_wp2_with fail
              go_round
              case rel => exact ⟨k + 1, by omega, by go_num, by rw [HFT.out]⟩
              case measure => simp [intOf]; omega
            · obtain rfl : k = l.length := by omega
              have e1 : L.take l.length = L := List.take_of_length_le (by omega)
              rw [e1]
              clear e1 hfl
              go_wp2_with fail
              go_loopw [15, 116] (fun s i wr => ∃ k : Nat, k ≤ l.length ∧ s = .string (bs (L.drop k).flatten) ∧ i = .int .i64 k ∧ Below w.heap.size w wr ∧ PartsAt wr (some ⟨g, 0, none⟩) g L ∧ (b ≠ 0 → 0 ≤ (p : Int) → (p : Int) < l.length → (k : Int) ≤ (p : Int))) (fun _ i _ => l.length - (intOf i).toNat)
              case atStart => exact ⟨0, Nat.zero_le _, rfl, rfl, HB.out, HP.out, fun _ h _ => h⟩
              case round =>
                obtain ⟨k, hk, rfl, rfl, hB, hP, hka⟩ := hrel
                clear HB HP
                have HB := Lib.hid hB
                have HP := Lib.hid hP
                have HKA := Lib.hid hka
                clear hB hP hka
                have hfl : (L.drop k).flatten.length ≤ 4111 * 20 := flat_len (fun x hx => HLEN.out x (List.mem_of_mem_drop hx)) (by rw [List.length_drop]; omega)
                by_cases hlt : k < l.length
                · obtain ⟨rfl, hbw⟩ := HA.out.at_ (by omega)
                  obtain ⟨_, hrow⟩ := HP.out.at_ (by omega)
                  have HROW := Lib.hid hrow
                  have c0 := HA.out.cell k hlt
                  have d0 := (HB.out.cell (p := ⟨b0, off + k, none⟩) hbw).trans c0
                  have hlk : l.getD k [] = l[k] := by simp [List.getD, List.getElem?_eq_getElem hlt]
                  have hTL := HSH.out k hlt
                  have HGk := Lib.hid (HG.out k hlt)
                  have HBk := Lib.hid (HBAD.out k hlt)
                  have hq : ((kd : Int) + (k : Int)) % 256 = ((kk kd k : Nat) : Int) := by unfold kk; omega
                  have hfd : (L.drop k).flatten = (L[k]'(by omega)) ++ (L.drop (k + 1)).flatten := by
                    rw [List.drop_eq_getElem_cons (by omega), List.flatten_cons]
                  have hLe : L[k]? = some (L[k]'(by omega)) := List.getElem?_eq_getElem (by omega)
                  have cg := hrow.cell (i := k) (by omega)
                  rw [hfd] at hfl
                  rw [hfd]
                  have hfe : frm l kd k = fr (kk kd k) (l[k]) := by rw [frm, hlk]
                  have HFE := Lib.hid hfe
                  have HLE := Lib.hid hLe
                  clear c0 hlk hrow hfd hfe hLe
                  generalize l[k] = t at d0 hTL HFE
                  generalize L[k]'(by omega) = x at hfl cg HLE
                  have HTL := Lib.hid hTL
                  have HFL := Lib.hid hfl
                  have hzr := bs_size (L.drop (k + 1)).flatten
                  generalize hRR : (L.drop (k + 1)).flatten = r at hfl HFL hzr
                  have HRR := Lib.hid hRR
                  clear hTL hRR
                  have hrl : r.length ≤ 82220 := by rw [List.length_append] at hfl; omega
                  have HRL := Lib.hid hrl
                  by_cases hbad : (k : Int) = (p : Int) ∧ b ≠ 0
                  · obtain ⟨y, hy, hnf⟩ := HBk.out hbad.1 hbad.2
                    have hxy : x = y := Option.some.inj (HLE.out.symm.trans hy)
                    subst hxy
                    have HNF := Lib.hid hnf
                    have t1 : ((k : Int) == (p : Int)) = true := by simp; exact hbad.1
                    have t2 : ((b : Int) != 0) = true := by simp; exact hbad.2
                    clear hnf hy hbad hfl hrl
                    go_wp2_with fail
                    refine (HNF.out r _ (by have := HRL.out; omega)).mono ?_
                    rintro e w4 ⟨rfl, hb4⟩
                    have HB4 : Hid (Below w.heap.size w w4) := HB.out.trans (hb4.mono HB.out.size)
                    have cg4 := (HROW.out.step (S := fun _ => False) (Step.of_below hb4) (fun h => h)).cell (i := k) (by rw [HLL.out]; exact hlt)
                    have hLx : L[k]'(by rw [HLL.out]; exact hlt) = x := by
                      have := HLE.out
                      rw [List.getElem?_eq_getElem (by rw [HLL.out]; exact hlt)] at this
                      exact Option.some.inj this
                    rw [hLx] at cg4
                    have q0 := bs_toList []
                    have hnf0 := HNF.out [] w4 (by simp)
                    rw [List.append_nil] at hnf0
                    have HN0 := Lib.hid hnf0
                    clear hb4 hLx hnf0
                    go_wp2_with fail
                    refine (only_err (k := kk kd k) _ HN0.out).mono ?_
                    rintro e w5 ⟨rfl, hb5⟩
                    have HB5 : Hid (Below w.heap.size w w5) := HB4.out.trans (hb5.mono HB4.out.size)
                    clear hb5
                    go_wp2_with fail
                    go_ret
                    exact ⟨rfl, HB5.out⟩
                  · have hxf : x = fr (kk kd k) t := by
                      have := HGk.out hbad
                      rw [← HFE.out]
                      exact Option.some.inj (HLE.out.symm.trans this)
                    have HXF := Lib.hid hxf
                    have hzx := bs_size x
                    have hza := bs_size (x ++ r)
                    have hap : (x ++ r).length = x.length + r.length := List.length_append
                    have hxl : (x.length : Int) ≤ 82220 := by rw [List.length_append] at hfl; omega
                    have hrl' : (r.length : Int) ≤ 82220 := by omega
                    have HNB := Lib.hid hbad
                    have hkb : ((k : Int) == (p : Int)) = false ∨ (((k : Int) == (p : Int)) = true ∧ ((b : Int) != 0) = false) := by
                      by_cases h1 : (k : Int) = (p : Int)
                      · right
                        refine ⟨by simp; exact h1, ?_⟩
                        simp
                        exact Decidable.byContradiction fun h2 => hbad ⟨h1, h2⟩
                      · left; simp; exact h1
                    clear hbad hxf hfl hrl
                    rcases hkb with t1 | ⟨t1, t2⟩
                    · skip
                      go_wp2_with fail
                      refine (open_frE HXF.out (kk_lt _ _) r (by have := HTL.out; omega) (by have := HRL.out; omega) _).mono ?_
                      rintro e w4 ⟨rfl, hb4⟩
                      have HB4 : Hid (Below w.heap.size w w4) := HB.out.trans (hb4.mono HB.out.size)
                      have hr4 := HROW.out.step (S := fun _ => False) (Step.of_below hb4) (fun h => h)
                      have cg4 := hr4.cell (i := k) (by rw [HLL.out]; exact hlt)
                      have hLx : L[k]'(by rw [HLL.out]; exact hlt) = x := by
                        have := HLE.out
                        rw [List.getElem?_eq_getElem (by rw [HLL.out]; exact hlt)] at this
                        exact Option.some.inj this
                      rw [hLx] at cg4
                      have HR4 := Lib.hid hr4
                      clear hb4 hr4 hLx
                      go_wp2_with fail
                      go_roundw
                      case rel =>
                        refine ⟨k + 1, by omega, by rw [HRR.out], by go_num, HB4.out, ⟨fun _ => ⟨rfl, HR4.out⟩⟩, fun h1 h2 h3 => ?_⟩
                        have h4 := HKA.out h1 h2 h3
                        have h5 : ¬ (k : Int) = (p : Int) := fun h => HNB.out ⟨h, h1⟩
                        omega
                      case measure => simp [intOf]; omega
                    · exfalso
                      simp at t2
                      omega
                · obtain rfl : k = l.length := by omega
                  have e2 : (L.drop l.length).flatten = [] := by rw [List.drop_of_length_le (by omega)]; rfl
                  have q0 := bs_toList []
                  rw [e2]
                  clear e2 hfl
                  go_wp2_with fail
                  go_ret
                  exact ⟨rfl, HB.out⟩
        · have t1 : ((b : Int) % 2 == 0) = true := by simp; omega
          obtain ⟨n, hn⟩ : ∃ n, n + 1 = f.length := ⟨f.length - 1, by omega⟩
          obtain ⟨cl, hcle⟩ : ∃ cl, cl = (f.getD n 0).toNat := ⟨_, rfl⟩
          have hcl : cl < 256 := by rw [hcle]; exact UInt8.toNat_lt _
          have hy : bits .xor .u8 (cl : Int) (b : Int) = ((cl ^^^ b : Nat) : Int) := u8_xor_nat _ _ hcl hb
          have hy8 : cl ^^^ b < 256 := Nat.xor_lt_two_pow (n := 8) hcl hb
          have hx2 : bits .xor .u8 ((ch ^^^ b : Nat) : Int) (b : Int) = (ch : Int) := by rw [u8_xor_nat _ _ hx8 hb, Nat.xor_assoc, Nat.xor_self, Nat.xor_zero]
          have hn1 : f.length - 1 = n := by omega
          have hn2 : (f.length : Int) - 1 = (n : Int) := by omega
          have hn6 : 5 ≤ n := by omega
          have cl0 := HRW.out.toRow.cell (j := n) (by omega)
          have hfn : f[n]'(by omega) = f.getD n 0 := by simp [List.getD, List.getElem?_eq_getElem (show n < f.length by omega)]
          rw [hfn, ← hcle] at cl0
          have fl0 := HRW.out.free (i := n) (by omega)
          obtain ⟨f1, hf1⟩ : ∃ f1, f1 = f.set n (UInt8.ofNat (cl ^^^ b)) := ⟨_, rfl⟩
          have hf1l : f1.length = f.length := by rw [hf1, List.length_set]
          have HF1 := Lib.hid hf1
          have HF1L := Lib.hid hf1l
          have HCL := Lib.hid hcle
          have HNN := Lib.hid hn
          have hlist : ((f.set 0 (UInt8.ofNat (ch ^^^ b))).set 0 (UInt8.ofNat ch)).set n (UInt8.ofNat (cl ^^^ b)) = f1 := by
            rw [List.set_set, hf1]
            congr 1
            have e0 : UInt8.ofNat ch = f[0]'(by omega) := by
              have : f[0]'(by omega) = f.getD 0 0 := by simp [List.getD, List.getElem?_eq_getElem (show 0 < f.length by omega)]
              rw [HCH.out, this]
              simp
            rw [e0, List.set_getElem_self]
          have hw2 : RowW (((W1.setCell ⟨g2, 0, none⟩ (.int .u8 ((ch ^^^ b : Nat) : Int))).setCell ⟨g2, 0, none⟩ (.int .u8 (ch : Int))).setCell ⟨g2, n, none⟩ (.int .u8 ((cl ^^^ b : Nat) : Int))) g2 C f1 := by
            have h1 := HRW.out.set (i := 0) (by omega) (UInt8.ofNat (ch ^^^ b))
            have h2 := h1.set (i := 0) (by rw [List.length_set]; omega) (UInt8.ofNat ch)
            have h3 := h2.set (i := n) (by rw [List.length_set, List.length_set]; omega) (UInt8.ofNat (cl ^^^ b))
            rwa [u8v_of hx8, u8v_of hch, u8v_of hy8, hlist] at h3
          have hcv2 : ∀ c : Nat, (convert 54 9 (.slice (some ⟨g2, 0, none⟩) f.length c)).run Try.prog (((W1.setCell ⟨g2, 0, none⟩ (.int .u8 ((ch ^^^ b : Nat) : Int))).setCell ⟨g2, 0, none⟩ (.int .u8 (ch : Int))).setCell ⟨g2, n, none⟩ (.int .u8 ((cl ^^^ b : Nat) : Int))) = .ok (.string (bs f1)) (((W1.setCell ⟨g2, 0, none⟩ (.int .u8 ((ch ^^^ b : Nat) : Int))).setCell ⟨g2, 0, none⟩ (.int .u8 (ch : Int))).setCell ⟨g2, n, none⟩ (.int .u8 ((cl ^^^ b : Nat) : Int))) := fun c => by
            have := run_convert_bytes_back (((W1.setCell ⟨g2, 0, none⟩ (.int .u8 ((ch ^^^ b : Nat) : Int))).setCell ⟨g2, 0, none⟩ (.int .u8 (ch : Int))).setCell ⟨g2, n, none⟩ (.int .u8 ((cl ^^^ b : Nat) : Int))) _ _ 5 ⟨g2, 0, none⟩ c f1 Try.underlying54 Try.underlying5 Try.underlying9 (fun j hj => by rw [Addr.add_lit, Nat.zero_add]; exact hw2.toRow.cell hj)
            rwa [hf1l] at this
          clear hfn hf1 hcle hn hf1l hlist hw2
          go_wp2_with fail
          have hL : ((frms l kd l.length).set p f1).length = l.length := by rw [List.length_set]; exact HHL.out
          have HP : Hid (PartsAt ((((W1.setCell ⟨g2, 0, none⟩ (.int .u8 ((ch ^^^ b : Nat) : Int))).setCell ⟨g2, 0, none⟩ (.int .u8 (ch : Int))).setCell ⟨g2, n, none⟩ (.int .u8 ((cl ^^^ b : Nat) : Int))).setCell ⟨g, p, none⟩ (.string (bs f1))) (some ⟨g, 0, none⟩) g ((frms l kd l.length).set p f1)) := ⟨fun _ => ⟨rfl, (HR1.out.step (S := fun k => k = g2) ((((Step.refl _ _).own _).own _).own _) (fun h => hg2 h)).set (by rw [HHL.out]; exact hp) _⟩⟩
          have HB : Hid (Below w.heap.size w ((((W1.setCell ⟨g2, 0, none⟩ (.int .u8 ((ch ^^^ b : Nat) : Int))).setCell ⟨g2, 0, none⟩ (.int .u8 (ch : Int))).setCell ⟨g2, n, none⟩ (.int .u8 ((cl ^^^ b : Nat) : Int))).setCell ⟨g, p, none⟩ (.string (bs f1)))) := (((HB1.out.setCell (p := ⟨g2, 0, none⟩) hwg _).setCell (p := ⟨g2, 0, none⟩) hwg _).setCell (p := ⟨g2, n, none⟩) hwg _).setCell (p := ⟨g, p, none⟩) hgB _
          have HG : Hid (∀ (i : Nat), i < l.length → ¬ ((i : Int) = (p : Int) ∧ b ≠ 0) → ((frms l kd l.length).set p f1)[i]? = some (frm l kd i)) := fun i h hn => by
            by_cases hpi : p = i
            · subst hpi
              have hb0 : b = 0 := Decidable.byContradiction fun h0 => hn ⟨rfl, h0⟩
              rw [List.getElem?_set_self (by rw [HHL.out]; exact hp), HF1.out, hb0, Nat.xor_zero, HCL.out]
              have e0 : UInt8.ofNat (f.getD n 0).toNat = f[n]'(by have := HNN.out; omega) := by
                have : f[n]'(by have := HNN.out; omega) = f.getD n 0 := by simp [List.getD, List.getElem?_eq_getElem (show n < f.length by have := HNN.out; omega)]
                rw [this]
                simp
              rw [e0, List.set_getElem_self, HF0.out]
            · rw [List.getElem?_set_ne hpi, List.getElem?_eq_getElem (by rw [HHL.out]; exact h), frms_at]
          have HBAD : Hid (∀ (i : Nat), i < l.length → (i : Int) = (p : Int) → b ≠ 0 → ∃ x, ((frms l kd l.length).set p f1)[i]? = some x ∧ NoFrame x) := fun i h e h0 => by
            obtain rfl : i = p := by omega
            refine ⟨f1, by rw [List.getElem?_set_self (by rw [HHL.out]; exact hp)], ?_⟩
            rw [HF1.out, HCL.out, HF.out]
            exact noframe_last (kk_lt _ _) _ (by have := HSH.out i h; omega) b hb h0 n (by have := HNN.out; rw [HF.out] at this; exact this)
          have HLEN : Hid (∀ x ∈ (frms l kd l.length).set p f1, x.length ≤ 4111) := fun x hx => by
            rcases List.mem_or_eq_of_mem_set hx with h | h
            · exact frms_len4 HSH.out x h
            · rw [h, HF1L.out]; exact hfl
          have hLl := hL
          clear hL hcv hcv2 cg cg1 fg1 c0 f0 hx t1 hx2 hy hn1 hn2 cl0 fl0 HR1 HRW HB1 HCH HF HF0 HCL HNN 
          generalize (frms l kd l.length).set p f1 = L at *
          generalize (((W1.setCell ⟨g2, 0, none⟩ (.int .u8 ((ch ^^^ b : Nat) : Int))).setCell ⟨g2, 0, none⟩ (.int .u8 (ch : Int))).setCell ⟨g2, n, none⟩ (.int .u8 ((cl ^^^ b : Nat) : Int))).setCell ⟨g, p, none⟩ (.string (bs f1)) = wm at *
          clear hgl hg2 hg2'
          have HLL : Hid (L.length = l.length) := hLl
          go_wp2_with fail
          go_loop [15, 106] (fun s i => ∃ k : Nat, k ≤ l.length ∧ i = .int .i64 k ∧ s = .string (bs (L.take k).flatten)) (fun _ i => l.length - (intOf i).toNat)
          case atStart => exact ⟨0, Nat.zero_le _, rfl, rfl⟩
          case round =>
            obtain ⟨k, hk, rfl, rfl⟩ := hrel
            have hfl : (L.take k).flatten.length ≤ 4111 * 20 := flat_len (fun x hx => HLEN.out x (List.mem_of_mem_take hx)) (by rw [List.length_take]; omega)
            by_cases hlt : k < l.length
            · obtain ⟨_, hrow⟩ := HP.out.at_ (by omega)
              have c := hrow.cell (i := k) (by omega)
              have hLk := HLEN.out (L[k]'(by omega)) (List.getElem_mem _)
              have hft : (L.take (k + 1)).flatten = (L.take k).flatten ++ L[k]'(by omega) := by
                rw [List.take_succ_eq_append_getElem (by omega), List.flatten_append]
                simp
              have HFT := Lib.hid hft
              clear hft hrow
              generalize (L.take k).flatten = X at hfl HFT
              generalize L[k]'(by omega) = y at c hLk HFT
              have hzx := bs_size X
              have hzy := bs_size y
              have hap := bs_append X y
              go_wp2_with fail
              go_round
              case rel => exact ⟨k + 1, by omega, by go_num, by rw [HFT.out]⟩
              case measure => simp [intOf]; omega
            · obtain rfl : k = l.length := by omega
              have e1 : L.take l.length = L := List.take_of_length_le (by omega)
              rw [e1]
              clear e1 hfl
              go_wp2_with fail
              go_loopw [15, 116] (fun s i wr => ∃ k : Nat, k ≤ l.length ∧ s = .string (bs (L.drop k).flatten) ∧ i = .int .i64 k ∧ Below w.heap.size w wr ∧ PartsAt wr (some ⟨g, 0, none⟩) g L ∧ (b ≠ 0 → 0 ≤ (p : Int) → (p : Int) < l.length → (k : Int) ≤ (p : Int))) (fun _ i _ => l.length - (intOf i).toNat)
              case atStart => exact ⟨0, Nat.zero_le _, rfl, rfl, HB.out, HP.out, fun _ h _ => h⟩
              case round =>
                obtain ⟨k, hk, rfl, rfl, hB, hP, hka⟩ := hrel
                clear HB HP
                have HB := Lib.hid hB
                have HP := Lib.hid hP
                have HKA := Lib.hid hka
                clear hB hP hka
                have hfl : (L.drop k).flatten.length ≤ 4111 * 20 := flat_len (fun x hx => HLEN.out x (List.mem_of_mem_drop hx)) (by rw [List.length_drop]; omega)
                by_cases hlt : k < l.length
                · obtain ⟨rfl, hbw⟩ := HA.out.at_ (by omega)
                  obtain ⟨_, hrow⟩ := HP.out.at_ (by omega)
                  have HROW := Lib.hid hrow
                  have c0 := HA.out.cell k hlt
                  have d0 := (HB.out.cell (p := ⟨b0, off + k, none⟩) hbw).trans c0
                  have hlk : l.getD k [] = l[k] := by simp [List.getD, List.getElem?_eq_getElem hlt]
                  have hTL := HSH.out k hlt
                  have HGk := Lib.hid (HG.out k hlt)
                  have HBk := Lib.hid (HBAD.out k hlt)
                  have hq : ((kd : Int) + (k : Int)) % 256 = ((kk kd k : Nat) : Int) := by unfold kk; omega
                  have hfd : (L.drop k).flatten = (L[k]'(by omega)) ++ (L.drop (k + 1)).flatten := by
                    rw [List.drop_eq_getElem_cons (by omega), List.flatten_cons]
                  have hLe : L[k]? = some (L[k]'(by omega)) := List.getElem?_eq_getElem (by omega)
                  have cg := hrow.cell (i := k) (by omega)
                  rw [hfd] at hfl
                  rw [hfd]
                  have hfe : frm l kd k = fr (kk kd k) (l[k]) := by rw [frm, hlk]
                  have HFE := Lib.hid hfe
                  have HLE := Lib.hid hLe
                  clear c0 hlk hrow hfd hfe hLe
                  generalize l[k] = t at d0 hTL HFE
                  generalize L[k]'(by omega) = x at hfl cg HLE
                  have HTL := Lib.hid hTL
                  have HFL := Lib.hid hfl
                  have hzr := bs_size (L.drop (k + 1)).flatten
                  generalize hRR : (L.drop (k + 1)).flatten = r at hfl HFL hzr
                  have HRR := Lib.hid hRR
                  clear hTL hRR
                  have hrl : r.length ≤ 82220 := by rw [List.length_append] at hfl; omega
                  have HRL := Lib.hid hrl
                  by_cases hbad : (k : Int) = (p : Int) ∧ b ≠ 0
                  · obtain ⟨y, hy, hnf⟩ := HBk.out hbad.1 hbad.2
                    have hxy : x = y := Option.some.inj (HLE.out.symm.trans hy)
                    subst hxy
                    have HNF := Lib.hid hnf
                    have t1 : ((k : Int) == (p : Int)) = true := by simp; exact hbad.1
                    have t2 : ((b : Int) != 0) = true := by simp; exact hbad.2
                    clear hnf hy hbad hfl hrl
                    go_wp2_with fail
                    refine (HNF.out r _ (by have := HRL.out; omega)).mono ?_
                    rintro e w4 ⟨rfl, hb4⟩
                    have HB4 : Hid (Below w.heap.size w w4) := HB.out.trans (hb4.mono HB.out.size)
                    have cg4 := (HROW.out.step (S := fun _ => False) (Step.of_below hb4) (fun h => h)).cell (i := k) (by rw [HLL.out]; exact hlt)
                    have hLx : L[k]'(by rw [HLL.out]; exact hlt) = x := by
                      have := HLE.out
                      rw [List.getElem?_eq_getElem (by rw [HLL.out]; exact hlt)] at this
                      exact Option.some.inj this
                    rw [hLx] at cg4
                    have q0 := bs_toList []
                    have hnf0 := HNF.out [] w4 (by simp)
                    rw [List.append_nil] at hnf0
                    have HN0 := Lib.hid hnf0
                    clear hb4 hLx hnf0
                    go_wp2_with fail
                    refine (only_err (k := kk kd k) _ HN0.out).mono ?_
                    rintro e w5 ⟨rfl, hb5⟩
                    have HB5 : Hid (Below w.heap.size w w5) := HB4.out.trans (hb5.mono HB4.out.size)
                    clear hb5
                    go_wp2_with fail
                    go_ret
                    exact ⟨rfl, HB5.out⟩
                  · have hxf : x = fr (kk kd k) t := by
                      have := HGk.out hbad
                      rw [← HFE.out]
                      exact Option.some.inj (HLE.out.symm.trans this)
                    have HXF := Lib.hid hxf
                    have hzx := bs_size x
                    have hza := bs_size (x ++ r)
                    have hap : (x ++ r).length = x.length + r.length := List.length_append
                    have hxl : (x.length : Int) ≤ 82220 := by rw [List.length_append] at hfl; omega
                    have hrl' : (r.length : Int) ≤ 82220 := by omega
                    have HNB := Lib.hid hbad
                    have hkb : ((k : Int) == (p : Int)) = false ∨ (((k : Int) == (p : Int)) = true ∧ ((b : Int) != 0) = false) := by
                      by_cases h1 : (k : Int) = (p : Int)
                      · right
                        refine ⟨by simp; exact h1, ?_⟩
                        simp
                        exact Decidable.byContradiction fun h2 => hbad ⟨h1, h2⟩
                      · left; simp; exact h1
                    clear hbad hxf hfl hrl
                    rcases hkb with t1 | ⟨t1, t2⟩
                    all_goals
                      go_wp2_with fail
                      refine (open_frE HXF.out (kk_lt _ _) r (by have := HTL.out; omega) (by have := HRL.out; omega) _).mono ?_
                      rintro e w4 ⟨rfl, hb4⟩
                      have HB4 : Hid (Below w.heap.size w w4) := HB.out.trans (hb4.mono HB.out.size)
                      have hr4 := HROW.out.step (S := fun _ => False) (Step.of_below hb4) (fun h => h)
                      have cg4 := hr4.cell (i := k) (by rw [HLL.out]; exact hlt)
                      have hLx : L[k]'(by rw [HLL.out]; exact hlt) = x := by
                        have := HLE.out
                        rw [List.getElem?_eq_getElem (by rw [HLL.out]; exact hlt)] at this
                        exact Option.some.inj this
                      rw [hLx] at cg4
                      have HR4 := Lib.hid hr4
                      clear hb4 hr4 hLx
                      go_wp2_with fail
                      go_roundw
                      case rel =>
                        refine ⟨k + 1, by omega, by rw [HRR.out], by go_num, HB4.out, ⟨fun _ => ⟨rfl, HR4.out⟩⟩, fun h1 h2 h3 => ?_⟩
                        have h4 := HKA.out h1 h2 h3
                        have h5 : ¬ (k : Int) = (p : Int) := fun h => HNB.out ⟨h, h1⟩
                        omega
                      case measure => simp [intOf]; omega
                · obtain rfl : k = l.length := by omega
                  have e2 : (L.drop l.length).flatten = [] := by rw [List.drop_of_length_le (by omega)]; rfl
                  have q0 := bs_toList []
                  rw [e2]
                  clear e2 hfl
                  go_wp2_with fail
                  go_ret
                  exact ⟨rfl, HB.out⟩
      · have HNI := Lib.hid hin
        have hG : ∀ (i : Nat), i < l.length → ¬ ((i : Int) = at_ ∧ b ≠ 0) → (frms l kd l.length)[i]? = some (frm l kd i) := fun i h _ => by
          rw [List.getElem?_eq_getElem (by rw [hlen]; exact h), frms_at]
        have HG := Lib.hid hG
        have HBAD : Hid (∀ (i : Nat), i < l.length → (i : Int) = at_ → b ≠ 0 → ∃ x, (frms l kd l.length)[i]? = some x ∧ NoFrame x) := fun i h e _ => by
          exfalso
          exact HNI.out ⟨by omega, by omega⟩
        have HLEN : Hid (∀ x ∈ frms l kd l.length, x.length ≤ 4111) := frms_len4 HSH.out
        have hLl : (frms l kd l.length).length = l.length := hlen
        clear hG hlen
        generalize frms l kd l.length = L at *
        by_cases hneg : at_ < 0
        · clear hin
          have HLL : Hid (L.length = l.length) := hLl
          go_wp2_with fail
          go_loop [15, 106] (fun s i => ∃ k : Nat, k ≤ l.length ∧ i = .int .i64 k ∧ s = .string (bs (L.take k).flatten)) (fun _ i => l.length - (intOf i).toNat)
          case atStart => exact ⟨0, Nat.zero_le _, rfl, rfl⟩
          case round =>
            obtain ⟨k, hk, rfl, rfl⟩ := hrel
            have hfl : (L.take k).flatten.length ≤ 4111 * 20 := flat_len (fun x hx => HLEN.out x (List.mem_of_mem_take hx)) (by rw [List.length_take]; omega)
            by_cases hlt : k < l.length
            · obtain ⟨rfl, hrow⟩ := HP.out.at_ (by omega)
              have c := hrow.cell (i := k) (by omega)
              have hLk := HLEN.out (L[k]'(by omega)) (List.getElem_mem _)
              have hft : (L.take (k + 1)).flatten = (L.take k).flatten ++ L[k]'(by omega) := by
                rw [List.take_succ_eq_append_getElem (by omega), List.flatten_append]
                simp
              have HFT := Lib.hid hft
              clear hft hrow
              generalize (L.take k).flatten = X at hfl HFT
              generalize L[k]'(by omega) = y at c hLk HFT
              have hzx := bs_size X
              have hzy := bs_size y
              have hap := bs_append X y
              go_wp2_with fail
              go_round
              case rel => exact ⟨k + 1, by omega, by go_num, by rw [HFT.out]⟩
              case measure => simp [intOf]; omega
            · obtain rfl : k = l.length := by omega
              have e1 : L.take l.length = L := List.take_of_length_le (by omega)
              rw [e1]
              clear e1 hfl
              go_wp2_with fail
              go_loopw [15, 116] (fun s i wr => ∃ k : Nat, k ≤ l.length ∧ s = .string (bs (L.drop k).flatten) ∧ i = .int .i64 k ∧ Below w.heap.size w wr ∧ PartsAt wr po g L ∧ (b ≠ 0 → 0 ≤ at_ → at_ < l.length → (k : Int) ≤ at_)) (fun _ i _ => l.length - (intOf i).toNat)
              case atStart => exact ⟨0, Nat.zero_le _, rfl, rfl, HB.out, HP.out, fun _ h _ => h⟩
              case round =>
                obtain ⟨k, hk, rfl, rfl, hB, hP, hka⟩ := hrel
                clear HB HP
                have HB := Lib.hid hB
                have HP := Lib.hid hP
                have HKA := Lib.hid hka
                clear hB hP hka
                have hfl : (L.drop k).flatten.length ≤ 4111 * 20 := flat_len (fun x hx => HLEN.out x (List.mem_of_mem_drop hx)) (by rw [List.length_drop]; omega)
                by_cases hlt : k < l.length
                · obtain ⟨rfl, hbw⟩ := HA.out.at_ (by omega)
                  obtain ⟨rfl, hrow⟩ := HP.out.at_ (by omega)
                  have HROW := Lib.hid hrow
                  have c0 := HA.out.cell k hlt
                  have d0 := (HB.out.cell (p := ⟨b0, off + k, none⟩) hbw).trans c0
                  have hlk : l.getD k [] = l[k] := by simp [List.getD, List.getElem?_eq_getElem hlt]
                  have hTL := HSH.out k hlt
                  have HGk := Lib.hid (HG.out k hlt)
                  have HBk := Lib.hid (HBAD.out k hlt)
                  have hq : ((kd : Int) + (k : Int)) % 256 = ((kk kd k : Nat) : Int) := by unfold kk; omega
                  have hfd : (L.drop k).flatten = (L[k]'(by omega)) ++ (L.drop (k + 1)).flatten := by
                    rw [List.drop_eq_getElem_cons (by omega), List.flatten_cons]
                  have hLe : L[k]? = some (L[k]'(by omega)) := List.getElem?_eq_getElem (by omega)
                  have cg := hrow.cell (i := k) (by omega)
                  rw [hfd] at hfl
                  rw [hfd]
                  have hfe : frm l kd k = fr (kk kd k) (l[k]) := by rw [frm, hlk]
                  have HFE := Lib.hid hfe
                  have HLE := Lib.hid hLe
                  clear c0 hlk hrow hfd hfe hLe
                  generalize l[k] = t at d0 hTL HFE
                  generalize L[k]'(by omega) = x at hfl cg HLE
                  have HTL := Lib.hid hTL
                  have HFL := Lib.hid hfl
                  have hzr := bs_size (L.drop (k + 1)).flatten
                  generalize hRR : (L.drop (k + 1)).flatten = r at hfl HFL hzr
                  have HRR := Lib.hid hRR
                  clear hTL hRR
                  have hrl : r.length ≤ 82220 := by rw [List.length_append] at hfl; omega
                  have HRL := Lib.hid hrl
                  by_cases hbad : (k : Int) = at_ ∧ b ≠ 0
                  · obtain ⟨y, hy, hnf⟩ := HBk.out hbad.1 hbad.2
                    have hxy : x = y := Option.some.inj (HLE.out.symm.trans hy)
                    subst hxy
                    have HNF := Lib.hid hnf
                    have t1 : ((k : Int) == at_) = true := by simp; exact hbad.1
                    have t2 : ((b : Int) != 0) = true := by simp; exact hbad.2
                    clear hnf hy hbad hfl hrl
                    go_wp2_with fail
                    refine (HNF.out r _ (by have := HRL.out; omega)).mono ?_
                    rintro e w4 ⟨rfl, hb4⟩
                    have HB4 : Hid (Below w.heap.size w w4) := HB.out.trans (hb4.mono HB.out.size)
                    have cg4 := (HROW.out.step (S := fun _ => False) (Step.of_below hb4) (fun h => h)).cell (i := k) (by rw [HLL.out]; exact hlt)
                    have hLx : L[k]'(by rw [HLL.out]; exact hlt) = x := by
                      have := HLE.out
                      rw [List.getElem?_eq_getElem (by rw [HLL.out]; exact hlt)] at this
                      exact Option.some.inj this
                    rw [hLx] at cg4
                    have q0 := bs_toList []
                    have hnf0 := HNF.out [] w4 (by simp)
                    rw [List.append_nil] at hnf0
                    have HN0 := Lib.hid hnf0
                    clear hb4 hLx hnf0
                    go_wp2_with fail
                    refine (only_err (k := kk kd k) _ HN0.out).mono ?_
                    rintro e w5 ⟨rfl, hb5⟩
                    have HB5 : Hid (Below w.heap.size w w5) := HB4.out.trans (hb5.mono HB4.out.size)
                    clear hb5
                    go_wp2_with fail
                    go_ret
                    exact ⟨rfl, HB5.out⟩
                  · have hxf : x = fr (kk kd k) t := by
                      have := HGk.out hbad
                      rw [← HFE.out]
                      exact Option.some.inj (HLE.out.symm.trans this)
                    have HXF := Lib.hid hxf
                    have hzx := bs_size x
                    have hza := bs_size (x ++ r)
                    have hap : (x ++ r).length = x.length + r.length := List.length_append
                    have hxl : (x.length : Int) ≤ 82220 := by rw [List.length_append] at hfl; omega
                    have hrl' : (r.length : Int) ≤ 82220 := by omega
                    have HNB := Lib.hid hbad
                    have hkb : ((k : Int) == at_) = false ∨ (((k : Int) == at_) = true ∧ ((b : Int) != 0) = false) := by
                      by_cases h1 : (k : Int) = at_
                      · right
                        refine ⟨by simp; exact h1, ?_⟩
                        simp
                        exact Decidable.byContradiction fun h2 => hbad ⟨h1, h2⟩
                      · left; simp; exact h1
                    clear hbad hxf hfl hrl
                    rcases hkb with t1 | ⟨t1, t2⟩
                    · skip
                      go_wp2_with fail
                      refine (open_frE HXF.out (kk_lt _ _) r (by have := HTL.out; omega) (by have := HRL.out; omega) _).mono ?_
                      rintro e w4 ⟨rfl, hb4⟩
                      have HB4 : Hid (Below w.heap.size w w4) := HB.out.trans (hb4.mono HB.out.size)
                      have hr4 := HROW.out.step (S := fun _ => False) (Step.of_below hb4) (fun h => h)
                      have cg4 := hr4.cell (i := k) (by rw [HLL.out]; exact hlt)
                      have hLx : L[k]'(by rw [HLL.out]; exact hlt) = x := by
                        have := HLE.out
                        rw [List.getElem?_eq_getElem (by rw [HLL.out]; exact hlt)] at this
                        exact Option.some.inj this
                      rw [hLx] at cg4
                      have HR4 := Lib.hid hr4
                      clear hb4 hr4 hLx
                      go_wp2_with fail
                      go_roundw
                      case rel =>
                        refine ⟨k + 1, by omega, by rw [HRR.out], by go_num, HB4.out, ⟨fun _ => ⟨rfl, HR4.out⟩⟩, fun h1 h2 h3 => ?_⟩
                        have h4 := HKA.out h1 h2 h3
                        have h5 : ¬ (k : Int) = at_ := fun h => HNB.out ⟨h, h1⟩
                        omega
                      case measure => simp [intOf]; omega
                    · exfalso
                      simp at t1
                      omega
                · obtain rfl : k = l.length := by omega
                  have e2 : (L.drop l.length).flatten = [] := by rw [List.drop_of_length_le (by omega)]; rfl
                  have q0 := bs_toList []
                  rw [e2]
                  clear e2 hfl
                  go_wp2_with fail
                  go_ret
                  exact ⟨rfl, HB.out⟩
        · have hge : (l.length : Int) ≤ at_ := by omega
          clear hin
          have HLL : Hid (L.length = l.length) := hLl
          go_wp2_with fail
          go_loop [15, 106] (fun s i => ∃ k : Nat, k ≤ l.length ∧ i = .int .i64 k ∧ s = .string (bs (L.take k).flatten)) (fun _ i => l.length - (intOf i).toNat)
          case atStart => exact ⟨0, Nat.zero_le _, rfl, rfl⟩
          case round =>
            obtain ⟨k, hk, rfl, rfl⟩ := hrel
            have hfl : (L.take k).flatten.length ≤ 4111 * 20 := flat_len (fun x hx => HLEN.out x (List.mem_of_mem_take hx)) (by rw [List.length_take]; omega)
            by_cases hlt : k < l.length
            · obtain ⟨rfl, hrow⟩ := HP.out.at_ (by omega)
              have c := hrow.cell (i := k) (by omega)
              have hLk := HLEN.out (L[k]'(by omega)) (List.getElem_mem _)
              have hft : (L.take (k + 1)).flatten = (L.take k).flatten ++ L[k]'(by omega) := by
                rw [List.take_succ_eq_append_getElem (by omega), List.flatten_append]
                simp
              have HFT := Lib.hid hft
              clear hft hrow
              generalize (L.take k).flatten = X at hfl HFT
              generalize L[k]'(by omega) = y at c hLk HFT
              have hzx := bs_size X
              have hzy := bs_size y
              have hap := bs_append X y
              go_wp2_with fail
              go_round
              case rel => exact ⟨k + 1, by omega, by go_num, by rw [HFT.out]⟩
              case measure => simp [intOf]; omega
            · obtain rfl : k = l.length := by omega
              have e1 : L.take l.length = L := List.take_of_length_le (by omega)
              rw [e1]
              clear e1 hfl
              go_wp2_with fail
              go_loopw [15, 116] (fun s i wr => ∃ k : Nat, k ≤ l.length ∧ s = .string (bs (L.drop k).flatten) ∧ i = .int .i64 k ∧ Below w.heap.size w wr ∧ PartsAt wr po g L ∧ (b ≠ 0 → 0 ≤ at_ → at_ < l.length → (k : Int) ≤ at_)) (fun _ i _ => l.length - (intOf i).toNat)
              case atStart => exact ⟨0, Nat.zero_le _, rfl, rfl, HB.out, HP.out, fun _ h _ => h⟩
              case round =>
                obtain ⟨k, hk, rfl, rfl, hB, hP, hka⟩ := hrel
                clear HB HP
                have HB := Lib.hid hB
                have HP := Lib.hid hP
                have HKA := Lib.hid hka
                clear hB hP hka
                have hfl : (L.drop k).flatten.length ≤ 4111 * 20 := flat_len (fun x hx => HLEN.out x (List.mem_of_mem_drop hx)) (by rw [List.length_drop]; omega)
                by_cases hlt : k < l.length
                · obtain ⟨rfl, hbw⟩ := HA.out.at_ (by omega)
                  obtain ⟨rfl, hrow⟩ := HP.out.at_ (by omega)
                  have HROW := Lib.hid hrow
                  have c0 := HA.out.cell k hlt
                  have d0 := (HB.out.cell (p := ⟨b0, off + k, none⟩) hbw).trans c0
                  have hlk : l.getD k [] = l[k] := by simp [List.getD, List.getElem?_eq_getElem hlt]
                  have hTL := HSH.out k hlt
                  have HGk := Lib.hid (HG.out k hlt)
                  have HBk := Lib.hid (HBAD.out k hlt)
                  have hq : ((kd : Int) + (k : Int)) % 256 = ((kk kd k : Nat) : Int) := by unfold kk; omega
                  have hfd : (L.drop k).flatten = (L[k]'(by omega)) ++ (L.drop (k + 1)).flatten := by
                    rw [List.drop_eq_getElem_cons (by omega), List.flatten_cons]
                  have hLe : L[k]? = some (L[k]'(by omega)) := List.getElem?_eq_getElem (by omega)
                  have cg := hrow.cell (i := k) (by omega)
                  rw [hfd] at hfl
                  rw [hfd]
                  have hfe : frm l kd k = fr (kk kd k) (l[k]) := by rw [frm, hlk]
                  have HFE := Lib.hid hfe
                  have HLE := Lib.hid hLe
                  clear c0 hlk hrow hfd hfe hLe
                  generalize l[k] = t at d0 hTL HFE
                  generalize L[k]'(by omega) = x at hfl cg HLE
                  have HTL := Lib.hid hTL
                  have HFL := Lib.hid hfl
                  have hzr := bs_size (L.drop (k + 1)).flatten
                  generalize hRR : (L.drop (k + 1)).flatten = r at hfl HFL hzr
                  have HRR := Lib.hid hRR
                  clear hTL hRR
                  have hrl : r.length ≤ 82220 := by rw [List.length_append] at hfl; omega
                  have HRL := Lib.hid hrl
                  by_cases hbad : (k : Int) = at_ ∧ b ≠ 0
                  · obtain ⟨y, hy, hnf⟩ := HBk.out hbad.1 hbad.2
                    have hxy : x = y := Option.some.inj (HLE.out.symm.trans hy)
                    subst hxy
                    have HNF := Lib.hid hnf
                    have t1 : ((k : Int) == at_) = true := by simp; exact hbad.1
                    have t2 : ((b : Int) != 0) = true := by simp; exact hbad.2
                    clear hnf hy hbad hfl hrl
                    go_wp2_with fail
                    refine (HNF.out r _ (by have := HRL.out; omega)).mono ?_
                    rintro e w4 ⟨rfl, hb4⟩
                    have HB4 : Hid (Below w.heap.size w w4) := HB.out.trans (hb4.mono HB.out.size)
                    have cg4 := (HROW.out.step (S := fun _ => False) (Step.of_below hb4) (fun h => h)).cell (i := k) (by rw [HLL.out]; exact hlt)
                    have hLx : L[k]'(by rw [HLL.out]; exact hlt) = x := by
                      have := HLE.out
                      rw [List.getElem?_eq_getElem (by rw [HLL.out]; exact hlt)] at this
                      exact Option.some.inj this
                    rw [hLx] at cg4
                    have q0 := bs_toList []
                    have hnf0 := HNF.out [] w4 (by simp)
                    rw [List.append_nil] at hnf0
                    have HN0 := Lib.hid hnf0
                    clear hb4 hLx hnf0
                    go_wp2_with fail
                    refine (only_err (k := kk kd k) _ HN0.out).mono ?_
                    rintro e w5 ⟨rfl, hb5⟩
                    have HB5 : Hid (Below w.heap.size w w5) := HB4.out.trans (hb5.mono HB4.out.size)
                    clear hb5
                    go_wp2_with fail
                    go_ret
                    exact ⟨rfl, HB5.out⟩
                  · have hxf : x = fr (kk kd k) t := by
                      have := HGk.out hbad
                      rw [← HFE.out]
                      exact Option.some.inj (HLE.out.symm.trans this)
                    have HXF := Lib.hid hxf
                    have hzx := bs_size x
                    have hza := bs_size (x ++ r)
                    have hap : (x ++ r).length = x.length + r.length := List.length_append
                    have hxl : (x.length : Int) ≤ 82220 := by rw [List.length_append] at hfl; omega
                    have hrl' : (r.length : Int) ≤ 82220 := by omega
                    have HNB := Lib.hid hbad
                    have hkb : ((k : Int) == at_) = false ∨ (((k : Int) == at_) = true ∧ ((b : Int) != 0) = false) := by
                      by_cases h1 : (k : Int) = at_
                      · right
                        refine ⟨by simp; exact h1, ?_⟩
                        simp
                        exact Decidable.byContradiction fun h2 => hbad ⟨h1, h2⟩
                      · left; simp; exact h1
                    clear hbad hxf hfl hrl
                    rcases hkb with t1 | ⟨t1, t2⟩
                    · skip
                      go_wp2_with fail
                      refine (open_frE HXF.out (kk_lt _ _) r (by have := HTL.out; omega) (by have := HRL.out; omega) _).mono ?_
                      rintro e w4 ⟨rfl, hb4⟩
                      have HB4 : Hid (Below w.heap.size w w4) := HB.out.trans (hb4.mono HB.out.size)
                      have hr4 := HROW.out.step (S := fun _ => False) (Step.of_below hb4) (fun h => h)
                      have cg4 := hr4.cell (i := k) (by rw [HLL.out]; exact hlt)
                      have hLx : L[k]'(by rw [HLL.out]; exact hlt) = x := by
                        have := HLE.out
                        rw [List.getElem?_eq_getElem (by rw [HLL.out]; exact hlt)] at this
                        exact Option.some.inj this
                      rw [hLx] at cg4
                      have HR4 := Lib.hid hr4
                      clear hb4 hr4 hLx
                      go_wp2_with fail
                      go_roundw
                      case rel =>
                        refine ⟨k + 1, by omega, by rw [HRR.out], by go_num, HB4.out, ⟨fun _ => ⟨rfl, HR4.out⟩⟩, fun h1 h2 h3 => ?_⟩
                        have h4 := HKA.out h1 h2 h3
                        have h5 : ¬ (k : Int) = at_ := fun h => HNB.out ⟨h, h1⟩
                        omega
                      case measure => simp [intOf]; omega
                    · exfalso
                      simp at t1
                      omega
                · obtain rfl : k = l.length := by omega
                  have e2 : (L.drop l.length).flatten = [] := by rw [List.drop_of_length_le (by omega)]; rfl
                  have q0 := bs_toList []
                  rw [e2]
                  clear e2 hfl
                  go_wp2_with fail
                  go_ret
                  exact ⟨rfl, HB.out⟩

theorem frames_any (ao : Option Addr) (b0 off cap : Nat) (l : List (List UInt8)) (kd : Nat) (hkd : kd < 256) (at_ : Int) (ha1 : -9223372036854775808 ≤ at_) (ha2 : at_ ≤ 9223372036854775807) (b : Nat) (hb : b < 256) (hm : l.length ≤ maxLen) (w : World) (hst : StrsAt w ao b0 off l) :
    Calls Try.prog 8 #[.slice ao l.length cap, .int .u8 kd, .int .i64 at_, .int .u8 b] w fun e w' => e = .returned (.bool true) ∧ Below w.heap.size w w' := by
  by_cases hl : 20 < l.length
  · exact frames_long ao cap l kd at_ b hl hm w
  · exact frames_in ao b0 off cap l kd hkd at_ ha1 ha2 b hb (by omega) w hst
end Go.Proofs.Ytkoajibjlcnjgaa
