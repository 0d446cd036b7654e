/-
  THE LAW plimsolltop.TopWritten: the walk: it answers true, of any texts, and any numbers.
-/
import Derived.Test.YtkoajibjlcnjgaaBg2
import Derived.Test.YtkoajibjlcnjgaaFr3
import Derived.LoopTactic
import Derived.Deep.RegionHeld3
namespace Go.Proofs.Ytkoajibjlcnjgaa
open Go Go.RowKit

/-! ### What is written. -/
def txt (t : List UInt8) : List UInt8 := ub t.length ++ t
def num (n : Int) : List UInt8 := ub (zz n)
def itm (a : Option (List UInt8)) (b : Option Int) : List UInt8 := (match a with | some t => txt t | none => []) ++ (match b with | some n => num n | none => [])
def wrt : List (List UInt8) → List Int → List UInt8
  | [], [] => []
  | t :: ts, [] => itm (some t) none ++ wrt ts []
  | [], n :: ns => itm none (some n) ++ wrt [] ns
  | t :: ts, n :: ns => itm (some t) (some n) ++ wrt ts ns
theorem wrt_drop (k : Nat) : ∀ (ts : List (List UInt8)) (ns : List Int), (k < ts.length ∨ k < ns.length) → wrt (ts.drop k) (ns.drop k) = itm ts[k]? ns[k]? ++ wrt (ts.drop (k + 1)) (ns.drop (k + 1)) := by
  induction k with
  | zero =>
    intro ts ns h
    cases ts <;> cases ns <;> simp_all [wrt]
  | succ k ih =>
    intro ts ns h
    cases ts with
    | nil =>
      cases ns with
      | nil => simp at h
      | cons n ns => have := ih [] ns (by simpa using h); simpa using this
    | cons t ts =>
      cases ns with
      | nil => have := ih ts [] (by simpa using h); simpa using this
      | cons n ns => have := ih ts ns (by simpa using h); simpa using this
theorem wrt_take (k : Nat) : ∀ (ts : List (List UInt8)) (ns : List Int), (k < ts.length ∨ k < ns.length) → wrt (ts.take (k + 1)) (ns.take (k + 1)) = wrt (ts.take k) (ns.take k) ++ itm ts[k]? ns[k]? := by
  induction k with
  | zero =>
    intro ts ns h
    cases ts <;> cases ns <;> simp_all [wrt]
  | succ k ih =>
    intro ts ns h
    cases ts with
    | nil =>
      cases ns with
      | nil => simp at h
      | cons n ns => have := ih [] ns (by simpa using h); simp only [List.take_nil] at this; simp only [List.take_nil, List.take_succ_cons, wrt, List.getElem?_nil, List.getElem?_cons_succ]; rw [this]; simp
    | cons t ts =>
      cases ns with
      | nil => have := ih ts [] (by simpa using h); simp only [List.take_nil] at this; simp only [List.take_nil, List.take_succ_cons, wrt, List.getElem?_nil, List.getElem?_cons_succ]; rw [this]; simp
      | cons n ns => have := ih ts ns (by simpa using h); simp only [List.take_succ_cons, wrt, List.getElem?_cons_succ]; rw [this]; simp
theorem itm_len {a : Option (List UInt8)} {b : Option Int} (h : ∀ t, a = some t → t.length ≤ 1000) : (itm a b).length ≤ 1020 := by
  have h2 : ∀ n, (num n).length ≤ 10 := fun n => (ub_len _).2
  unfold itm
  rw [List.length_append]
  cases a with
  | none => cases b with
    | none => simp
    | some n => have := h2 n; simp; omega
  | some t =>
    have h1 : (txt t).length ≤ 1010 := by have := h t rfl; have := (ub_len t.length).2; unfold txt; rw [List.length_append]; omega
    cases b with
    | none => simp; omega
    | some n => have := h2 n; simp; omega
theorem wrt_len (ts : List (List UInt8)) : ∀ (ns : List Int), (∀ t ∈ ts, t.length ≤ 1000) → (wrt ts ns).length ≤ 1020 * (ts.length + ns.length) := by
  induction ts with
  | nil =>
    intro ns
    induction ns with
    | nil => intro _; simp [wrt]
    | cons n ns ih => intro h; have := ih h; have := itm_len (a := none) (b := some n) (by simp); simp only [wrt, List.length_append, List.length_cons, List.length_nil] at *; omega
  | cons t ts ih =>
    intro ns h
    have h1 : ∀ u ∈ ts, u.length ≤ 1000 := fun u hu => h u (by simp [hu])
    cases ns with
    | nil => have := ih [] h1; have := itm_len (a := some t) (b := none) (by intro u hu; cases hu; exact h _ (by simp)); simp only [wrt, List.length_append, List.length_cons, List.length_nil] at *; omega
    | cons n ns => have := ih ns h1; have := itm_len (a := some t) (b := some n) (by intro u hu; cases hu; exact h _ (by simp)); simp only [wrt, List.length_append, List.length_cons] at *; omega

/-! ### Two writers side by side. -/
def Two (B : Nat) (W : World) (P A : Nat) (l m : List UInt8) : Prop :=
  ∃ o1 o2 : Nat → Prop, Wr W P o1 l ∧ Wr W A o2 m ∧ (∀ k, o1 k → ¬ o2 k) ∧ (∀ k, o1 k → B ≤ k ∧ k < W.heap.size) ∧ (∀ k, o2 k → B ≤ k ∧ k < W.heap.size)
theorem Two.symm {B : Nat} {W : World} {P A : Nat} {l m : List UInt8} (h : Two B W P A l m) : Two B W A P m l := by
  obtain ⟨o1, o2, h1, h2, h3, h4, h5⟩ := h
  exact ⟨o2, o1, h2, h1, fun k a b => h3 k b a, h5, h4⟩
theorem two_first {B : Nat} {W : World} {P A : Nat} {l m l' : List UInt8} {f : FuncId} {args : Array Value} {E : Ending} (h : Two B W P A l m) (hB : B ≤ W.heap.size)
    (hc : ∀ own : Nat → Prop, Wr W P own l → (∀ k, W.heap.size ≤ k → own k) → Calls Try.prog f args W fun e w' => e = E ∧ Wr w' P own l' ∧ Step own W w') :
    Calls Try.prog f args W fun e w' => e = E ∧ Two B w' P A l' m ∧ Step (from_ B) W w' := by
  obtain ⟨o1, o2, h1, h2, h3, h4, h5⟩ := h
  refine (hc (fun k => o1 k ∨ W.heap.size ≤ k) (h1.shrink (fun k a _ => Or.inl a)) (fun k hk => Or.inr hk)).mono fun e w' ⟨a, b, c⟩ => ?_
  refine ⟨a, ⟨fun k => (o1 k ∨ W.heap.size ≤ k) ∧ k < w'.heap.size, o2, b.shrink (fun k x y => ⟨x, y⟩), ?_, ?_, ?_, ?_⟩, c.mono ?_⟩
  · refine h2.step c ?_
    rintro k hk _ (hk1 | hk1)
    · exact h3 k hk1 hk
    · have := (h5 k hk).2; omega
  · rintro k ⟨hk | hk, _⟩ hk2
    · exact h3 k hk hk2
    · have := (h5 k hk2).2; omega
  · rintro k ⟨hk | hk, hk2⟩
    · exact ⟨(h4 k hk).1, hk2⟩
    · exact ⟨by omega, hk2⟩
  · intro k hk
    have := h5 k hk
    have := c.size
    exact ⟨by omega, by omega⟩
  · rintro k (hk | hk)
    · exact (h4 k hk).1
    · exact Nat.le_trans hB hk
theorem two_second {B : Nat} {W : World} {P A : Nat} {l m m' : List UInt8} {f : FuncId} {args : Array Value} {E : Ending} (h : Two B W P A l m) (hB : B ≤ W.heap.size)
    (hc : ∀ own : Nat → Prop, Wr W A own m → (∀ k, W.heap.size ≤ k → own k) → Calls Try.prog f args W fun e w' => e = E ∧ Wr w' A own m' ∧ Step own W w') :
    Calls Try.prog f args W fun e w' => e = E ∧ Two B w' P A l m' ∧ Step (from_ B) W w' :=
  (two_first h.symm hB hc).mono fun _ _ ⟨a, b, c⟩ => ⟨a, b.symm, c⟩
theorem Two.start {B : Nat} {W : World} {P : Nat} {l : List UInt8} (h : Wr W P (from_ B) l) (hB : B ≤ W.heap.size) :
    Two B (W.alloc (.cells #[.pointer none, .int .i64 0] 26)) P W.heap.size l [] := by
  refine ⟨fun k => B ≤ k ∧ k < W.heap.size, (· = W.heap.size), ?_, Wr.made W, ?_, ?_, ?_⟩
  · exact (h.shrink (fun k a b => ⟨a, b⟩)).step (S := fun _ => False) ((Step.refl _ _).alloc _) (fun _ _ _ h => h)
  · rintro k ⟨_, h1⟩ h2; omega
  · rintro k ⟨h1, h2⟩; exact ⟨h1, by simp; omega⟩
  · rintro k rfl; exact ⟨hB, by simp⟩
theorem Two.fst {B : Nat} {W : World} {P A : Nat} {l m : List UInt8} (h : Two B W P A l m) : Wr W P (from_ B) l := by
  obtain ⟨o1, o2, h1, h2, h3, h4, h5⟩ := h
  exact h1.shrink (fun k a _ => (h4 k a).1)
theorem Two.snd {B : Nat} {W : World} {P A : Nat} {l m : List UInt8} (h : Two B W P A l m) : Wr W A (from_ B) m := h.symm.fst
theorem Two.drn {B : Nat} {W W' : World} {P A : Nat} {l m : List UInt8} (h : Two B W P A l m) (hd : Drn W W') : Two B W' P A l m := by
  obtain ⟨o1, o2, h1, h2, h3, h4, h5⟩ := h
  have hz : W'.heap.size = W.heap.size := by rw [hd.heap]
  exact ⟨o1, o2, h1.step (S := fun _ => False) hd.step (fun _ _ _ h => h), h2.step (S := fun _ => False) hd.step (fun _ _ _ h => h), h3, fun k a => by rw [hz]; exact h4 k a, fun k a => by rw [hz]; exact h5 k a⟩

/-- What holds at the head of the writing loop's round. -/
structure VInv (w wr : World) (P k : Nat) (ts : List (List UInt8)) (ns : List Int) : Prop where
  le : k ≤ max ts.length ns.length
  short : ∀ (j : Nat) (h : j < ts.length), j < k → ts[j].length ≤ 1000
  has : Wr wr P (from_ w.heap.size) (wrt (ts.take k) (ns.take k))
  step : Step (from_ w.heap.size) w wr
theorem VInv.len {w wr : World} {P k : Nat} {ts : List (List UInt8)} {ns : List Int} (h : VInv w wr P k ts ns) (h1 : ts.length ≤ 40) (h2 : ns.length ≤ 40) : (wrt (ts.take k) (ns.take k)).length ≤ 81600 := by
  have := wrt_len (ts.take k) (ns.take k) (fun t ht => by
    obtain ⟨j, hj, rfl⟩ := List.mem_take_iff_getElem.1 ht
    exact h.short j (by omega) (by omega))
  have a1 : (ts.take k).length ≤ 40 := by rw [List.length_take]; omega
  have a2 : (ns.take k).length ≤ 40 := by rw [List.length_take]; omega
  omega

set_option maxHeartbeats 4000000 in
set_option maxRecDepth 100000 in
theorem written_long (ao : Option Addr) (cap : Nat) (ts : List (List UInt8)) (ao' : Option Addr) (cap' : Nat) (ns : List Int) (hl : 40 < ts.length ∨ 40 < ns.length) (hm : ts.length ≤ maxLen) (hm' : ns.length ≤ maxLen) (w : World) :
    Calls Try.prog 9 #[.slice ao ts.length cap, .slice ao' ns.length cap'] w fun e w' => e = .returned (.bool true) ∧ Below w.heap.size w w' := by
  unfold maxLen at hm hm'
  by_cases h1 : 40 < ts.length
  · go_enter Try.func9, Try.ntmps9
    go_wp2_with (go_at_call 31; refine (begins2_any _).mono ?_; rintro e w1 ⟨rfl, hb⟩)
    go_ret
    exact ⟨rfl, hb⟩
  · have h2 : 40 < ns.length := by omega
    go_enter Try.func9, Try.ntmps9
    go_wp2_with (go_at_call 31; refine (begins2_any _).mono ?_; rintro e w1 ⟨rfl, hb⟩)
    go_ret
    exact ⟨rfl, hb⟩

set_option maxHeartbeats 4000000 in
set_option maxRecDepth 100000 in
theorem written_in1 (ao : Option Addr) (b off cap : Nat) (ts : List (List UInt8)) (ao' : Option Addr) (b' off' cap' : Nat) (ns : List Int) (h1 : ts.length ≤ 40) (h2 : ns.length ≤ 40) (hM : ts.length < ns.length) (w : World) (ha : StrsAt w ao b off ts) (hn : NumsAt w ao' b' off' ns) :
    Calls Try.prog 9 #[.slice ao ts.length cap, .slice ao' ns.length cap'] w fun e w' => e = .returned (.bool true) ∧ Below w.heap.size w w' := by
  have HA := Lib.hid ha
  have HN := Lib.hid hn
  clear ha hn
  have h1' : (ts.length : Int) ≤ 40 := by omega
  have h2' : (ns.length : Int) ≤ 40 := by omega
  go_enter Try.func9, Try.ntmps9
  go_wp2_with (go_at_call 31; refine (begins2_any _).mono ?_; rintro e w1 ⟨rfl, hb⟩)
  have hI : VInv w (w1.alloc (.cells #[.pointer none, .int .i64 0] 26)) w1.heap.size 0 ts ns :=
    ⟨Nat.zero_le _, fun j h h0 => by omega, (by rw [show wrt (ts.take 0) (ns.take 0) = [] by simp [wrt]]; exact (Wr.made w1).shrink (own2 := from_ w.heap.size) (fun k h _ => by rw [h]; exact hb.size)), (Step.of_below hb).alloc _⟩
  have HI := Lib.hid hI
  clear hI hb
  generalize (w1.alloc (.cells #[.pointer none, .int .i64 0] 26)) = w2 at *
  generalize w1.heap.size = P at *
  go_loopw [6, 30] (fun n i wr => ∃ k : Nat, VInv w wr P k ts ns ∧ n = .int .i64 (wrt (ts.take k) (ns.take k)).length ∧ i = .int .i64 k) (fun _ i _ => ns.length - (intOf i).toNat)
  case atStart => exact ⟨0, HI.out, by rw [show wrt (ts.take 0) (ns.take 0) = [] by simp [wrt]]; rfl, rfl⟩
  case round =>
    obtain ⟨k, hI, rfl, rfl⟩ := hrel
    clear HI
    have HI := Lib.hid hI
    have hk : k ≤ ns.length := by have := hI.le; omega
    have hcl := hI.len h1 h2
    clear hI
    by_cases hlt : k < ns.length
    · have hcn : k < ns.length := hlt
      by_cases hct : k < ts.length
      · obtain ⟨rfl, hbw⟩ := HA.out.at_ (by omega)
        have c1 := HA.out.cell k hct
        have gt : ts[k]? = some ts[k] := List.getElem?_eq_getElem hct
        generalize htk : ts[k] = t at c1 gt
        have HTK := Lib.hid htk
        clear htk
        have hzt := bs_size t
        obtain ⟨rfl, hbw'⟩ := HN.out.at_ (by omega)
        have c2 := HN.out.cell k hcn
        have gn : ns[k]? = some ns[k] := List.getElem?_eq_getElem hcn
        have hnb := HN.out.fits k hcn
        generalize ns[k] = n at c2 gn hnb
        have HNB := Lib.hid hnb
        clear hnb
        have HGT := Lib.hid gt
        have HGN := Lib.hid gn
        clear gt gn
        have hcl' : ((wrt (ts.take k) (ns.take k)).length : Int) ≤ 81600 := by omega
        have HCL := Lib.hid hcl
        have hS0 : Step (from_ w.heap.size) w (wr.alloc (.cells #[.pointer none, .int .i64 0] 26)) := HI.out.step.alloc _
        have hT0 := Two.start HI.out.has HI.out.step.size
        have HS0 := Lib.hid hS0
        have HT0 := Lib.hid hT0
        clear hS0 hT0
        have HSZ : Hid ((wr.alloc (.cells #[.pointer none, .int .i64 0] 26)).heap.size = wr.heap.size + 1) := by show _ = _; simp
        by_cases hlong : 1000 < t.length
        · have d1 := (HS0.out.toBelow.cell (p := ⟨b, off + k, none⟩) hbw).trans c1
          go_wp2_with fail
          go_ret
          exact ⟨rfl, HS0.out.toBelow⟩
        have HTL : Hid (t.length ≤ 1000) := by show _ ≤ _; omega
        have d1 := (HS0.out.toBelow.cell (p := ⟨b, off + k, none⟩) hbw).trans c1
        have d2 := (HS0.out.toBelow.cell (p := ⟨b', off' + k, none⟩) hbw').trans c2
        go_wp2_with fail
        clear d1
        clear d2
        generalize (wr.alloc (.cells #[.pointer none, .int .i64 0] 26)) = v0 at *
        generalize wr.heap.size = A at *
        refine (two_first HT0.out HS0.out.size (fun own h hn => wtext_any t (by have := HCL.out; have := HTL.out; have := (ub_len t.length).2; (try simp only [List.length_append, List.length_nil]); omega) h hn)).mono ?_
        rintro e v1 ⟨rfl, hT, hS⟩
        have HT1 := Lib.hid hT
        have HS1 : Hid (Step (from_ w.heap.size) w v1) := HS0.out.trans hS
        clear hT hS HT0 HS0
        have d1 := (HS1.out.toBelow.cell (p := ⟨b, off + k, none⟩) hbw).trans c1
        have d2 := (HS1.out.toBelow.cell (p := ⟨b', off' + k, none⟩) hbw').trans c2
        go_wp2_with fail
        clear d1
        clear d2
        refine (two_second HT1.out HS1.out.size (fun own h hn => wtext_any t (by have := HCL.out; have := HTL.out; have := (ub_len t.length).2; (try simp only [List.length_append, List.length_nil]); omega) h hn)).mono ?_
        rintro e v2 ⟨rfl, hT, hS⟩
        have HT2 := Lib.hid hT
        have HS2 : Hid (Step (from_ w.heap.size) w v2) := HS1.out.trans hS
        clear hT hS HT1 HS1
        have d1 := (HS2.out.toBelow.cell (p := ⟨b, off + k, none⟩) hbw).trans c1
        have d2 := (HS2.out.toBelow.cell (p := ⟨b', off' + k, none⟩) hbw').trans c2
        go_wp2_with fail
        clear d1
        clear d2
        refine (two_first HT2.out HS2.out.size (fun own h hn => wint_any (by have := HCL.out; have := HTL.out; have := (ub_len t.length).2; (try simp only [List.length_append, List.length_nil]); omega) HNB.out.1 HNB.out.2 h hn)).mono ?_
        rintro e v3 ⟨rfl, hT, hS⟩
        have HT3 := Lib.hid hT
        have HS3 : Hid (Step (from_ w.heap.size) w v3) := HS2.out.trans hS
        clear hT hS HT2 HS2
        have d1 := (HS3.out.toBelow.cell (p := ⟨b, off + k, none⟩) hbw).trans c1
        have d2 := (HS3.out.toBelow.cell (p := ⟨b', off' + k, none⟩) hbw').trans c2
        go_wp2_with fail
        clear d1
        clear d2
        refine (two_second HT3.out HS3.out.size (fun own h hn => wint_any (by have := HCL.out; have := HTL.out; have := (ub_len t.length).2; (try simp only [List.length_append, List.length_nil]); omega) HNB.out.1 HNB.out.2 h hn)).mono ?_
        rintro e v4 ⟨rfl, hT, hS⟩
        have HT4 := Lib.hid hT
        have HS4 : Hid (Step (from_ w.heap.size) w v4) := HS3.out.trans hS
        clear hT hS HT3 HS3
        go_wp2_with fail
        obtain ⟨I, hI⟩ : ∃ I, I = itm ts[k]? ns[k]? := ⟨_, rfl⟩
        have HEI := Lib.hid hI
        have hO : Two w.heap.size v4 P A (wrt (ts.take k) (ns.take k) ++ I) I := by
          have := HT4.out
          rw [hI, HGT.out, HGN.out]
          simpa [itm, txt, num, List.append_assoc] using this
        have HO := Lib.hid hO
        clear hO
        have hil : I.length ≤ 1020 := by rw [hI]; exact itm_len (by intro u hu; rw [HGT.out] at hu; cases hu; exact HTL.out)
        clear hI
        refine (out_any (by omega) HO.out.snd).mono ?_
        rintro e u1 ⟨rfl, hd⟩
        have hz2 := bs_size I
        have hil' : (I.length : Int) ≤ 1020 := by omega
        have HU : Hid (Wr u1 P (from_ w.heap.size) (wrt (ts.take k) (ns.take k) ++ I)) := (HO.out.drn hd).fst
        have HSU : Hid (Step (from_ w.heap.size) w u1) := HS4.out.trans hd.step
        clear hd
        go_wp2_with fail
        go_roundw
        case rel =>
          refine ⟨k + 1, ⟨by omega, ?_, ?_, HSU.out⟩, ?_, by go_num⟩
          · intro j hj hjk
            rcases Nat.lt_or_ge j k with h | h
            · exact HI.out.short j hj h
            · have e : j = k := by omega
              subst e
              rw [HTK.out]; exact HTL.out
          · rw [wrt_take k ts ns (by omega), ← HEI.out]; exact HU.out
          · rw [wrt_take k ts ns (by omega), ← HEI.out, List.length_append]; simp
        case measure => simp [intOf]; omega
      · have gt : ts[k]? = none := List.getElem?_eq_none (by omega)
        obtain ⟨rfl, hbw'⟩ := HN.out.at_ (by omega)
        have c2 := HN.out.cell k hcn
        have gn : ns[k]? = some ns[k] := List.getElem?_eq_getElem hcn
        have hnb := HN.out.fits k hcn
        generalize ns[k] = n at c2 gn hnb
        have HNB := Lib.hid hnb
        clear hnb
        have HGT := Lib.hid gt
        have HGN := Lib.hid gn
        clear gt gn
        have hcl' : ((wrt (ts.take k) (ns.take k)).length : Int) ≤ 81600 := by omega
        have HCL := Lib.hid hcl
        have hS0 : Step (from_ w.heap.size) w (wr.alloc (.cells #[.pointer none, .int .i64 0] 26)) := HI.out.step.alloc _
        have hT0 := Two.start HI.out.has HI.out.step.size
        have HS0 := Lib.hid hS0
        have HT0 := Lib.hid hT0
        clear hS0 hT0
        have HSZ : Hid ((wr.alloc (.cells #[.pointer none, .int .i64 0] 26)).heap.size = wr.heap.size + 1) := by show _ = _; simp
        have d2 := (HS0.out.toBelow.cell (p := ⟨b', off' + k, none⟩) hbw').trans c2
        go_wp2_with fail
        clear d2
        generalize (wr.alloc (.cells #[.pointer none, .int .i64 0] 26)) = v0 at *
        generalize wr.heap.size = A at *
        refine (two_first HT0.out HS0.out.size (fun own h hn => wint_any (by have := HCL.out; (try simp only [List.length_append, List.length_nil]); omega) HNB.out.1 HNB.out.2 h hn)).mono ?_
        rintro e v1 ⟨rfl, hT, hS⟩
        have HT1 := Lib.hid hT
        have HS1 : Hid (Step (from_ w.heap.size) w v1) := HS0.out.trans hS
        clear hT hS HT0 HS0
        have d2 := (HS1.out.toBelow.cell (p := ⟨b', off' + k, none⟩) hbw').trans c2
        go_wp2_with fail
        clear d2
        refine (two_second HT1.out HS1.out.size (fun own h hn => wint_any (by have := HCL.out; (try simp only [List.length_append, List.length_nil]); omega) HNB.out.1 HNB.out.2 h hn)).mono ?_
        rintro e v2 ⟨rfl, hT, hS⟩
        have HT2 := Lib.hid hT
        have HS2 : Hid (Step (from_ w.heap.size) w v2) := HS1.out.trans hS
        clear hT hS HT1 HS1
        go_wp2_with fail
        obtain ⟨I, hI⟩ : ∃ I, I = itm ts[k]? ns[k]? := ⟨_, rfl⟩
        have HEI := Lib.hid hI
        have hO : Two w.heap.size v2 P A (wrt (ts.take k) (ns.take k) ++ I) I := by
          have := HT2.out
          rw [hI, HGT.out, HGN.out]
          simpa [itm, txt, num, List.append_assoc] using this
        have HO := Lib.hid hO
        clear hO
        have hil : I.length ≤ 1020 := by rw [hI]; exact itm_len (by intro u hu; rw [HGT.out] at hu; cases hu)
        clear hI
        refine (out_any (by omega) HO.out.snd).mono ?_
        rintro e u1 ⟨rfl, hd⟩
        have hz2 := bs_size I
        have hil' : (I.length : Int) ≤ 1020 := by omega
        have HU : Hid (Wr u1 P (from_ w.heap.size) (wrt (ts.take k) (ns.take k) ++ I)) := (HO.out.drn hd).fst
        have HSU : Hid (Step (from_ w.heap.size) w u1) := HS2.out.trans hd.step
        clear hd
        go_wp2_with fail
        go_roundw
        case rel =>
          refine ⟨k + 1, ⟨by omega, ?_, ?_, HSU.out⟩, ?_, by go_num⟩
          · intro j hj hjk
            rcases Nat.lt_or_ge j k with h | h
            · exact HI.out.short j hj h
            · have e : j = k := by omega
              subst e
              omega
          · rw [wrt_take k ts ns (by omega), ← HEI.out]; exact HU.out
          · rw [wrt_take k ts ns (by omega), ← HEI.out, List.length_append]; simp
        case measure => simp [intOf]; omega
    · obtain rfl : k = ns.length := by omega
      have hW := HI.out.has
      have e1 : ts.take ns.length = ts := List.take_of_length_le (by omega)
      have e2 : ns.take ns.length = ns := List.take_of_length_le (by omega)
      rw [e1, e2] at hW hcl
      rw [e1, e2]
      have hsh : ∀ (j : Nat) (h : j < ts.length), ts[j].length ≤ 1000 := fun j h => HI.out.short j h (by omega)
      have HSH := Lib.hid hsh
      have HW := Lib.hid hW
      have HS := Lib.hid HI.out.step
      have HCL := Lib.hid hcl
      have hzc := bs_size (wrt ts ns)
      clear hW hsh HI hcl e1 e2
      go_wp2_with fail
      refine (out_any (by have := HCL.out; omega) HW.out).mono ?_
      rintro e v1 ⟨rfl, hd⟩
      have HS1 : Hid (Step (from_ w.heap.size) w v1) := HS.out.trans hd.step
      clear hd HW HS
      go_wp2_with fail
      refine (frame_ok 1 (by decide) (wrt ts ns) (by have := HCL.out; omega) _).mono ?_
      rintro e v2 ⟨rfl, hb⟩
      have HS2 : Hid (Step (from_ w.heap.size) w v2) := HS1.out.then_below hb
      clear hb HS1
      go_wp2_with fail
      refine (only_ok (k := 1) (t := wrt ts ns) _ (open_fr0 1 (by decide) (wrt ts ns) (by have := HCL.out; omega) _)).mono ?_
      rintro e v3 ⟨rfl, hb⟩
      have HS3 : Hid (Step (from_ w.heap.size) w v3) := HS2.out.then_below hb
      clear hb HS2
      go_wp2_with fail
      refine (ropen_any _ _).mono ?_
      rintro e v4 ⟨rfl, rfl⟩
      have HR := Lib.hid (Rd.new v3 (wrt ts ns))
      have HS4 : Hid (Step (from_ w.heap.size) w (v3.alloc (.cells #[.string (bs (wrt ts ns)), .bool false] 72))) := HS3.out.alloc _
      have hq : w.heap.size ≤ v3.heap.size := HS3.out.size
      have HQ := Lib.hid hq
      clear hq HS3
      generalize (v3.alloc (.cells #[.string (bs (wrt ts ns)), .bool false] 72)) = v4 at *
      generalize v3.heap.size = R at *
      go_wp2_with fail
      go_loopw [103] (fun i wr => ∃ k : Nat, k ≤ ns.length ∧ Rd wr R (wrt (ts.drop k) (ns.drop k)) false ∧ Step (from_ w.heap.size) w wr ∧ i = .int .i64 k) (fun i _ => ns.length - (intOf i).toNat)
      case atStart => exact ⟨0, Nat.zero_le _, HR.out, HS4.out, rfl⟩
      case round =>
        obtain ⟨k, hk, hR, hS, rfl⟩ := hrel
        clear HR HS4
        have HR := Lib.hid hR
        have HS := Lib.hid hS
        clear hR hS
        have hdl : (wrt (ts.drop k) (ns.drop k)).length ≤ 81600 := by
          have := wrt_len (ts.drop k) (ns.drop k) (fun t ht => by
            obtain ⟨j, hj, rfl⟩ := List.mem_iff_getElem.1 ht
            rw [List.getElem_drop]
            exact HSH.out _ _)
          have h2 : (ts.drop k).length ≤ 40 := by rw [List.length_drop]; omega
          have h3 : (ns.drop k).length ≤ 40 := by rw [List.length_drop]; omega
          omega
        by_cases hlt : k < ns.length
        · have hd := wrt_drop k ts ns (by omega)
          rw [hd] at hdl
          have HD := Lib.hid hd
          have HDL := Lib.hid hdl
          clear hd hdl
          have hcn : k < ns.length := hlt
          by_cases hct : k < ts.length
          · obtain ⟨rfl, hbw⟩ := HA.out.at_ (by omega)
            have c1 := HA.out.cell k hct
            have gt : ts[k]? = some ts[k] := List.getElem?_eq_getElem hct
            have hth := HSH.out k hct
            generalize ts[k] = t at c1 gt hth
            have HTL := Lib.hid hth
            clear hth
            obtain ⟨rfl, hbw'⟩ := HN.out.at_ (by omega)
            have c2 := HN.out.cell k hcn
            have gn : ns[k]? = some ns[k] := List.getElem?_eq_getElem hcn
            have hnb := HN.out.fits k hcn
            generalize ns[k] = n at c2 gn hnb
            have HNB := Lib.hid hnb
            clear hnb
            have hR1 : Rd wr R ((ub t.length ++ t) ++ (ub (zz n) ++ wrt (ts.drop (k + 1)) (ns.drop (k + 1)))) false := by
              have := HR.out
              rw [HD.out, gt, gn] at this
              simpa [itm, txt, num, List.append_assoc] using this
            have hl1 : ((ub t.length ++ t) ++ (ub (zz n) ++ wrt (ts.drop (k + 1)) (ns.drop (k + 1)))).length ≤ 81600 := by
              have := HDL.out
              rw [gt, gn] at this
              simpa [itm, txt, num, List.append_assoc] using this
            have HR1 := Lib.hid hR1
            have HL1 : Hid (((ub t.length ++ t) ++ (ub (zz n) ++ wrt (ts.drop (k + 1)) (ns.drop (k + 1)))).length ≤ 140737488355328) := by show _ ≤ _; omega
            have HL2 : Hid ((ub (zz n) ++ wrt (ts.drop (k + 1)) (ns.drop (k + 1))).length ≤ 140737488355328) := by show _ ≤ _; simp only [List.length_append] at hl1 ⊢; omega
            clear gt gn hR1 hl1 HR
            have d1 := (HS.out.toBelow.cell (p := ⟨b, off + k, none⟩) hbw).trans c1
            go_wp2_with fail
            go_region_held3 (fun w' => w'.cell? ⟨b, off + k, none⟩ = some (.string (bs t))) (first | assumption | go_keep) (first
              | (go_at_call 27; refine (cb3 (m := 1000) (by decide) HTL.out HL1.out HR1.out.drew').mono ?_; rintro e x1 ⟨rfl, hr1, hs1⟩; have HR2 := Lib.hid hr1; have HS2 : Hid (Step (from_ w.heap.size) w x1) := HS.out.drew'.trans (hs1.mono (fun k hk => by rw [hk]; exact HQ.out)); have d2x := (HS2.out.toBelow.cell (p := ⟨b, off + k, none⟩) hbw).trans c1; clear hr1 hs1))
            have d2 := (HS2.out.toBelow.cell (p := ⟨b', off' + k, none⟩) hbw').trans c2
            go_wp2_with fail
            go_region_held3 (fun w' => w'.cell? ⟨b', off' + k, none⟩ = some (.int .i64 n)) (first | assumption | go_keep) (first
              | (go_at_call 26; refine (cb2 HNB.out HL2.out HR2.out.drew').mono ?_; rintro e x2 ⟨rfl, hr2, hs2⟩; have HR3 := Lib.hid hr2; have HS3 : Hid (Step (from_ w.heap.size) w x2) := HS2.out.drew'.trans (hs2.mono (fun k hk => by rw [hk]; exact HQ.out)); have d3x := (HS3.out.toBelow.cell (p := ⟨b', off' + k, none⟩) hbw').trans c2; clear hr2 hs2))
            go_wp2_with fail
            go_roundw
            case rel => exact ⟨k + 1, by omega, HR3.out, HS3.out, by go_num⟩
            case measure => simp [intOf]; omega
          · have gt : ts[k]? = none := List.getElem?_eq_none (by omega)
            obtain ⟨rfl, hbw'⟩ := HN.out.at_ (by omega)
            have c2 := HN.out.cell k hcn
            have gn : ns[k]? = some ns[k] := List.getElem?_eq_getElem hcn
            have hnb := HN.out.fits k hcn
            generalize ns[k] = n at c2 gn hnb
            have HNB := Lib.hid hnb
            clear hnb
            have hR1 : Rd wr R (ub (zz n) ++ wrt (ts.drop (k + 1)) (ns.drop (k + 1))) false := by
              have := HR.out
              rw [HD.out, gt, gn] at this
              simpa [itm, txt, num, List.append_assoc] using this
            have hl1 : (ub (zz n) ++ wrt (ts.drop (k + 1)) (ns.drop (k + 1))).length ≤ 81600 := by
              have := HDL.out
              rw [gt, gn] at this
              simpa [itm, txt, num, List.append_assoc] using this
            have HR1 := Lib.hid hR1
            have HL1 : Hid ((ub (zz n) ++ wrt (ts.drop (k + 1)) (ns.drop (k + 1))).length ≤ 140737488355328) := by show _ ≤ _; omega
            clear gt gn hR1 hl1 HR
            go_wp2_with fail
            go_quiet (fail)
            have HS2 : Hid (Step (from_ w.heap.size) w (wr.drewN nq)) := HS.out.drewN nq
            have HR2 : Hid (Rd (wr.drewN nq) R (ub (zz n) ++ wrt (ts.drop (k + 1)) (ns.drop (k + 1))) false) := ⟨HR1.out.blk⟩
            generalize wr.drewN nq = x1 at *
            have d2 := (HS2.out.toBelow.cell (p := ⟨b', off' + k, none⟩) hbw').trans c2
            go_wp2_with fail
            go_region_held3 (fun w' => w'.cell? ⟨b', off' + k, none⟩ = some (.int .i64 n)) (first | assumption | go_keep) (first
              | (go_at_call 26; refine (cb2 HNB.out HL1.out HR2.out.drew').mono ?_; rintro e x2 ⟨rfl, hr2, hs2⟩; have HR3 := Lib.hid hr2; have HS3 : Hid (Step (from_ w.heap.size) w x2) := HS2.out.drew'.trans (hs2.mono (fun k hk => by rw [hk]; exact HQ.out)); have d3x := (HS3.out.toBelow.cell (p := ⟨b', off' + k, none⟩) hbw').trans c2; clear hr2 hs2))
            go_wp2_with fail
            go_roundw
            case rel => exact ⟨k + 1, by omega, HR3.out, HS3.out, by go_num⟩
            case measure => simp [intOf]; omega
        · obtain rfl : k = ns.length := by omega
          have hRe : Rd wr R [] false := by
            have := HR.out
            rw [List.drop_of_length_le (by omega), List.drop_of_length_le (by omega)] at this
            simpa [wrt] using this
          have HRe := Lib.hid hRe
          clear HR hRe hdl
          go_wp2_with fail
          refine (left_good R [] _ HRe.out).mono ?_
          rintro e x2 ⟨rfl, rfl⟩
          go_wp2_with fail
          refine (bad_any R [] false _ HRe.out).mono ?_
          rintro e x1 ⟨rfl, rfl⟩
          go_wp2_with fail
          go_ret
          exact ⟨rfl, HS.out.toBelow⟩

set_option maxHeartbeats 4000000 in
set_option maxRecDepth 100000 in
theorem written_in2 (ao : Option Addr) (b off cap : Nat) (ts : List (List UInt8)) (ao' : Option Addr) (b' off' cap' : Nat) (ns : List Int) (h1 : ts.length ≤ 40) (h2 : ns.length ≤ 40) (hM : ns.length ≤ ts.length) (w : World) (ha : StrsAt w ao b off ts) (hn : NumsAt w ao' b' off' ns) :
    Calls Try.prog 9 #[.slice ao ts.length cap, .slice ao' ns.length cap'] w fun e w' => e = .returned (.bool true) ∧ Below w.heap.size w w' := by
  have HA := Lib.hid ha
  have HN := Lib.hid hn
  clear ha hn
  have h1' : (ts.length : Int) ≤ 40 := by omega
  have h2' : (ns.length : Int) ≤ 40 := by omega
  go_enter Try.func9, Try.ntmps9
  go_wp2_with (go_at_call 31; refine (begins2_any _).mono ?_; rintro e w1 ⟨rfl, hb⟩)
  have hI : VInv w (w1.alloc (.cells #[.pointer none, .int .i64 0] 26)) w1.heap.size 0 ts ns :=
    ⟨Nat.zero_le _, fun j h h0 => by omega, (by rw [show wrt (ts.take 0) (ns.take 0) = [] by simp [wrt]]; exact (Wr.made w1).shrink (own2 := from_ w.heap.size) (fun k h _ => by rw [h]; exact hb.size)), (Step.of_below hb).alloc _⟩
  have HI := Lib.hid hI
  clear hI hb
  generalize (w1.alloc (.cells #[.pointer none, .int .i64 0] 26)) = w2 at *
  generalize w1.heap.size = P at *
  go_loopw [6, 30] (fun n i wr => ∃ k : Nat, VInv w wr P k ts ns ∧ n = .int .i64 (wrt (ts.take k) (ns.take k)).length ∧ i = .int .i64 k) (fun _ i _ => ts.length - (intOf i).toNat)
  case atStart => exact ⟨0, HI.out, by rw [show wrt (ts.take 0) (ns.take 0) = [] by simp [wrt]]; rfl, rfl⟩
  case round =>
    obtain ⟨k, hI, rfl, rfl⟩ := hrel
    clear HI
    have HI := Lib.hid hI
    have hk : k ≤ ts.length := by have := hI.le; omega
    have hcl := hI.len h1 h2
    clear hI
    by_cases hlt : k < ts.length
    · have hct : k < ts.length := hlt
      by_cases hcn : k < ns.length
      · obtain ⟨rfl, hbw⟩ := HA.out.at_ (by omega)
        have c1 := HA.out.cell k hct
        have gt : ts[k]? = some ts[k] := List.getElem?_eq_getElem hct
        generalize htk : ts[k] = t at c1 gt
        have HTK := Lib.hid htk
        clear htk
        have hzt := bs_size t
        obtain ⟨rfl, hbw'⟩ := HN.out.at_ (by omega)
        have c2 := HN.out.cell k hcn
        have gn : ns[k]? = some ns[k] := List.getElem?_eq_getElem hcn
        have hnb := HN.out.fits k hcn
        generalize ns[k] = n at c2 gn hnb
        have HNB := Lib.hid hnb
        clear hnb
        have HGT := Lib.hid gt
        have HGN := Lib.hid gn
        clear gt gn
        have hcl' : ((wrt (ts.take k) (ns.take k)).length : Int) ≤ 81600 := by omega
        have HCL := Lib.hid hcl
        have hS0 : Step (from_ w.heap.size) w (wr.alloc (.cells #[.pointer none, .int .i64 0] 26)) := HI.out.step.alloc _
        have hT0 := Two.start HI.out.has HI.out.step.size
        have HS0 := Lib.hid hS0
        have HT0 := Lib.hid hT0
        clear hS0 hT0
        have HSZ : Hid ((wr.alloc (.cells #[.pointer none, .int .i64 0] 26)).heap.size = wr.heap.size + 1) := by show _ = _; simp
        by_cases hlong : 1000 < t.length
        · have d1 := (HS0.out.toBelow.cell (p := ⟨b, off + k, none⟩) hbw).trans c1
          go_wp2_with fail
          go_ret
          exact ⟨rfl, HS0.out.toBelow⟩
        have HTL : Hid (t.length ≤ 1000) := by show _ ≤ _; omega
        have d1 := (HS0.out.toBelow.cell (p := ⟨b, off + k, none⟩) hbw).trans c1
        have d2 := (HS0.out.toBelow.cell (p := ⟨b', off' + k, none⟩) hbw').trans c2
        go_wp2_with fail
        clear d1
        clear d2
        generalize (wr.alloc (.cells #[.pointer none, .int .i64 0] 26)) = v0 at *
        generalize wr.heap.size = A at *
        refine (two_first HT0.out HS0.out.size (fun own h hn => wtext_any t (by have := HCL.out; have := HTL.out; have := (ub_len t.length).2; (try simp only [List.length_append, List.length_nil]); omega) h hn)).mono ?_
        rintro e v1 ⟨rfl, hT, hS⟩
        have HT1 := Lib.hid hT
        have HS1 : Hid (Step (from_ w.heap.size) w v1) := HS0.out.trans hS
        clear hT hS HT0 HS0
        have d1 := (HS1.out.toBelow.cell (p := ⟨b, off + k, none⟩) hbw).trans c1
        have d2 := (HS1.out.toBelow.cell (p := ⟨b', off' + k, none⟩) hbw').trans c2
        go_wp2_with fail
        clear d1
        clear d2
        refine (two_second HT1.out HS1.out.size (fun own h hn => wtext_any t (by have := HCL.out; have := HTL.out; have := (ub_len t.length).2; (try simp only [List.length_append, List.length_nil]); omega) h hn)).mono ?_
        rintro e v2 ⟨rfl, hT, hS⟩
        have HT2 := Lib.hid hT
        have HS2 : Hid (Step (from_ w.heap.size) w v2) := HS1.out.trans hS
        clear hT hS HT1 HS1
        have d1 := (HS2.out.toBelow.cell (p := ⟨b, off + k, none⟩) hbw).trans c1
        have d2 := (HS2.out.toBelow.cell (p := ⟨b', off' + k, none⟩) hbw').trans c2
        go_wp2_with fail
        clear d1
        clear d2
        refine (two_first HT2.out HS2.out.size (fun own h hn => wint_any (by have := HCL.out; have := HTL.out; have := (ub_len t.length).2; (try simp only [List.length_append, List.length_nil]); omega) HNB.out.1 HNB.out.2 h hn)).mono ?_
        rintro e v3 ⟨rfl, hT, hS⟩
        have HT3 := Lib.hid hT
        have HS3 : Hid (Step (from_ w.heap.size) w v3) := HS2.out.trans hS
        clear hT hS HT2 HS2
        have d1 := (HS3.out.toBelow.cell (p := ⟨b, off + k, none⟩) hbw).trans c1
        have d2 := (HS3.out.toBelow.cell (p := ⟨b', off' + k, none⟩) hbw').trans c2
        go_wp2_with fail
        clear d1
        clear d2
        refine (two_second HT3.out HS3.out.size (fun own h hn => wint_any (by have := HCL.out; have := HTL.out; have := (ub_len t.length).2; (try simp only [List.length_append, List.length_nil]); omega) HNB.out.1 HNB.out.2 h hn)).mono ?_
        rintro e v4 ⟨rfl, hT, hS⟩
        have HT4 := Lib.hid hT
        have HS4 : Hid (Step (from_ w.heap.size) w v4) := HS3.out.trans hS
        clear hT hS HT3 HS3
        go_wp2_with fail
        obtain ⟨I, hI⟩ : ∃ I, I = itm ts[k]? ns[k]? := ⟨_, rfl⟩
        have HEI := Lib.hid hI
        have hO : Two w.heap.size v4 P A (wrt (ts.take k) (ns.take k) ++ I) I := by
          have := HT4.out
          rw [hI, HGT.out, HGN.out]
          simpa [itm, txt, num, List.append_assoc] using this
        have HO := Lib.hid hO
        clear hO
        have hil : I.length ≤ 1020 := by rw [hI]; exact itm_len (by intro u hu; rw [HGT.out] at hu; cases hu; exact HTL.out)
        clear hI
        refine (out_any (by omega) HO.out.snd).mono ?_
        rintro e u1 ⟨rfl, hd⟩
        have hz2 := bs_size I
        have hil' : (I.length : Int) ≤ 1020 := by omega
        have HU : Hid (Wr u1 P (from_ w.heap.size) (wrt (ts.take k) (ns.take k) ++ I)) := (HO.out.drn hd).fst
        have HSU : Hid (Step (from_ w.heap.size) w u1) := HS4.out.trans hd.step
        clear hd
        go_wp2_with fail
        go_roundw
        case rel =>
          refine ⟨k + 1, ⟨by omega, ?_, ?_, HSU.out⟩, ?_, by go_num⟩
          · intro j hj hjk
            rcases Nat.lt_or_ge j k with h | h
            · exact HI.out.short j hj h
            · have e : j = k := by omega
              subst e
              rw [HTK.out]; exact HTL.out
          · rw [wrt_take k ts ns (by omega), ← HEI.out]; exact HU.out
          · rw [wrt_take k ts ns (by omega), ← HEI.out, List.length_append]; simp
        case measure => simp [intOf]; omega
      · obtain ⟨rfl, hbw⟩ := HA.out.at_ (by omega)
        have c1 := HA.out.cell k hct
        have gt : ts[k]? = some ts[k] := List.getElem?_eq_getElem hct
        generalize htk : ts[k] = t at c1 gt
        have HTK := Lib.hid htk
        clear htk
        have hzt := bs_size t
        have gn : ns[k]? = none := List.getElem?_eq_none (by omega)
        have HGT := Lib.hid gt
        have HGN := Lib.hid gn
        clear gt gn
        have hcl' : ((wrt (ts.take k) (ns.take k)).length : Int) ≤ 81600 := by omega
        have HCL := Lib.hid hcl
        have hS0 : Step (from_ w.heap.size) w (wr.alloc (.cells #[.pointer none, .int .i64 0] 26)) := HI.out.step.alloc _
        have hT0 := Two.start HI.out.has HI.out.step.size
        have HS0 := Lib.hid hS0
        have HT0 := Lib.hid hT0
        clear hS0 hT0
        have HSZ : Hid ((wr.alloc (.cells #[.pointer none, .int .i64 0] 26)).heap.size = wr.heap.size + 1) := by show _ = _; simp
        by_cases hlong : 1000 < t.length
        · have d1 := (HS0.out.toBelow.cell (p := ⟨b, off + k, none⟩) hbw).trans c1
          go_wp2_with fail
          go_ret
          exact ⟨rfl, HS0.out.toBelow⟩
        have HTL : Hid (t.length ≤ 1000) := by show _ ≤ _; omega
        have d1 := (HS0.out.toBelow.cell (p := ⟨b, off + k, none⟩) hbw).trans c1
        go_wp2_with fail
        clear d1
        generalize (wr.alloc (.cells #[.pointer none, .int .i64 0] 26)) = v0 at *
        generalize wr.heap.size = A at *
        refine (two_first HT0.out HS0.out.size (fun own h hn => wtext_any t (by have := HCL.out; have := HTL.out; have := (ub_len t.length).2; (try simp only [List.length_append, List.length_nil]); omega) h hn)).mono ?_
        rintro e v1 ⟨rfl, hT, hS⟩
        have HT1 := Lib.hid hT
        have HS1 : Hid (Step (from_ w.heap.size) w v1) := HS0.out.trans hS
        clear hT hS HT0 HS0
        have d1 := (HS1.out.toBelow.cell (p := ⟨b, off + k, none⟩) hbw).trans c1
        go_wp2_with fail
        clear d1
        refine (two_second HT1.out HS1.out.size (fun own h hn => wtext_any t (by have := HCL.out; have := HTL.out; have := (ub_len t.length).2; (try simp only [List.length_append, List.length_nil]); omega) h hn)).mono ?_
        rintro e v2 ⟨rfl, hT, hS⟩
        have HT2 := Lib.hid hT
        have HS2 : Hid (Step (from_ w.heap.size) w v2) := HS1.out.trans hS
        clear hT hS HT1 HS1
        go_wp2_with fail
        obtain ⟨I, hI⟩ : ∃ I, I = itm ts[k]? ns[k]? := ⟨_, rfl⟩
        have HEI := Lib.hid hI
        have hO : Two w.heap.size v2 P A (wrt (ts.take k) (ns.take k) ++ I) I := by
          have := HT2.out
          rw [hI, HGT.out, HGN.out]
          simpa [itm, txt, num, List.append_assoc] using this
        have HO := Lib.hid hO
        clear hO
        have hil : I.length ≤ 1020 := by rw [hI]; exact itm_len (by intro u hu; rw [HGT.out] at hu; cases hu; exact HTL.out)
        clear hI
        refine (out_any (by omega) HO.out.snd).mono ?_
        rintro e u1 ⟨rfl, hd⟩
        have hz2 := bs_size I
        have hil' : (I.length : Int) ≤ 1020 := by omega
        have HU : Hid (Wr u1 P (from_ w.heap.size) (wrt (ts.take k) (ns.take k) ++ I)) := (HO.out.drn hd).fst
        have HSU : Hid (Step (from_ w.heap.size) w u1) := HS2.out.trans hd.step
        clear hd
        go_wp2_with fail
        go_roundw
        case rel =>
          refine ⟨k + 1, ⟨by omega, ?_, ?_, HSU.out⟩, ?_, by go_num⟩
          · intro j hj hjk
            rcases Nat.lt_or_ge j k with h | h
            · exact HI.out.short j hj h
            · have e : j = k := by omega
              subst e
              rw [HTK.out]; exact HTL.out
          · rw [wrt_take k ts ns (by omega), ← HEI.out]; exact HU.out
          · rw [wrt_take k ts ns (by omega), ← HEI.out, List.length_append]; simp
        case measure => simp [intOf]; omega
    · obtain rfl : k = ts.length := by omega
      have hW := HI.out.has
      have e1 : ts.take ts.length = ts := List.take_of_length_le (by omega)
      have e2 : ns.take ts.length = ns := List.take_of_length_le (by omega)
      rw [e1, e2] at hW hcl
      rw [e1, e2]
      have hsh : ∀ (j : Nat) (h : j < ts.length), ts[j].length ≤ 1000 := fun j h => HI.out.short j h (by omega)
      have HSH := Lib.hid hsh
      have HW := Lib.hid hW
      have HS := Lib.hid HI.out.step
      have HCL := Lib.hid hcl
      have hzc := bs_size (wrt ts ns)
      clear hW hsh HI hcl e1 e2
      go_wp2_with fail
      refine (out_any (by have := HCL.out; omega) HW.out).mono ?_
      rintro e v1 ⟨rfl, hd⟩
      have HS1 : Hid (Step (from_ w.heap.size) w v1) := HS.out.trans hd.step
      clear hd HW HS
      go_wp2_with fail
      refine (frame_ok 1 (by decide) (wrt ts ns) (by have := HCL.out; omega) _).mono ?_
      rintro e v2 ⟨rfl, hb⟩
      have HS2 : Hid (Step (from_ w.heap.size) w v2) := HS1.out.then_below hb
      clear hb HS1
      go_wp2_with fail
      refine (only_ok (k := 1) (t := wrt ts ns) _ (open_fr0 1 (by decide) (wrt ts ns) (by have := HCL.out; omega) _)).mono ?_
      rintro e v3 ⟨rfl, hb⟩
      have HS3 : Hid (Step (from_ w.heap.size) w v3) := HS2.out.then_below hb
      clear hb HS2
      go_wp2_with fail
      refine (ropen_any _ _).mono ?_
      rintro e v4 ⟨rfl, rfl⟩
      have HR := Lib.hid (Rd.new v3 (wrt ts ns))
      have HS4 : Hid (Step (from_ w.heap.size) w (v3.alloc (.cells #[.string (bs (wrt ts ns)), .bool false] 72))) := HS3.out.alloc _
      have hq : w.heap.size ≤ v3.heap.size := HS3.out.size
      have HQ := Lib.hid hq
      clear hq HS3
      generalize (v3.alloc (.cells #[.string (bs (wrt ts ns)), .bool false] 72)) = v4 at *
      generalize v3.heap.size = R at *
      go_wp2_with fail
      go_loopw [103] (fun i wr => ∃ k : Nat, k ≤ ts.length ∧ Rd wr R (wrt (ts.drop k) (ns.drop k)) false ∧ Step (from_ w.heap.size) w wr ∧ i = .int .i64 k) (fun i _ => ts.length - (intOf i).toNat)
      case atStart => exact ⟨0, Nat.zero_le _, HR.out, HS4.out, rfl⟩
      case round =>
        obtain ⟨k, hk, hR, hS, rfl⟩ := hrel
        clear HR HS4
        have HR := Lib.hid hR
        have HS := Lib.hid hS
        clear hR hS
        have hdl : (wrt (ts.drop k) (ns.drop k)).length ≤ 81600 := by
          have := wrt_len (ts.drop k) (ns.drop k) (fun t ht => by
            obtain ⟨j, hj, rfl⟩ := List.mem_iff_getElem.1 ht
            rw [List.getElem_drop]
            exact HSH.out _ _)
          have h2 : (ts.drop k).length ≤ 40 := by rw [List.length_drop]; omega
          have h3 : (ns.drop k).length ≤ 40 := by rw [List.length_drop]; omega
          omega
        by_cases hlt : k < ts.length
        · have hd := wrt_drop k ts ns (by omega)
          rw [hd] at hdl
          have HD := Lib.hid hd
          have HDL := Lib.hid hdl
          clear hd hdl
          have hct : k < ts.length := hlt
          by_cases hcn : k < ns.length
          · obtain ⟨rfl, hbw⟩ := HA.out.at_ (by omega)
            have c1 := HA.out.cell k hct
            have gt : ts[k]? = some ts[k] := List.getElem?_eq_getElem hct
            have hth := HSH.out k hct
            generalize ts[k] = t at c1 gt hth
            have HTL := Lib.hid hth
            clear hth
            obtain ⟨rfl, hbw'⟩ := HN.out.at_ (by omega)
            have c2 := HN.out.cell k hcn
            have gn : ns[k]? = some ns[k] := List.getElem?_eq_getElem hcn
            have hnb := HN.out.fits k hcn
            generalize ns[k] = n at c2 gn hnb
            have HNB := Lib.hid hnb
            clear hnb
            have hR1 : Rd wr R ((ub t.length ++ t) ++ (ub (zz n) ++ wrt (ts.drop (k + 1)) (ns.drop (k + 1)))) false := by
              have := HR.out
              rw [HD.out, gt, gn] at this
              simpa [itm, txt, num, List.append_assoc] using this
            have hl1 : ((ub t.length ++ t) ++ (ub (zz n) ++ wrt (ts.drop (k + 1)) (ns.drop (k + 1)))).length ≤ 81600 := by
              have := HDL.out
              rw [gt, gn] at this
              simpa [itm, txt, num, List.append_assoc] using this
            have HR1 := Lib.hid hR1
            have HL1 : Hid (((ub t.length ++ t) ++ (ub (zz n) ++ wrt (ts.drop (k + 1)) (ns.drop (k + 1)))).length ≤ 140737488355328) := by show _ ≤ _; omega
            have HL2 : Hid ((ub (zz n) ++ wrt (ts.drop (k + 1)) (ns.drop (k + 1))).length ≤ 140737488355328) := by show _ ≤ _; simp only [List.length_append] at hl1 ⊢; omega
            clear gt gn hR1 hl1 HR
            have d1 := (HS.out.toBelow.cell (p := ⟨b, off + k, none⟩) hbw).trans c1
            go_wp2_with fail
            go_region_held3 (fun w' => w'.cell? ⟨b, off + k, none⟩ = some (.string (bs t))) (first | assumption | go_keep) (first
              | (go_at_call 27; refine (cb3 (m := 1000) (by decide) HTL.out HL1.out HR1.out.drew').mono ?_; rintro e x1 ⟨rfl, hr1, hs1⟩; have HR2 := Lib.hid hr1; have HS2 : Hid (Step (from_ w.heap.size) w x1) := HS.out.drew'.trans (hs1.mono (fun k hk => by rw [hk]; exact HQ.out)); have d2x := (HS2.out.toBelow.cell (p := ⟨b, off + k, none⟩) hbw).trans c1; clear hr1 hs1))
            have d2 := (HS2.out.toBelow.cell (p := ⟨b', off' + k, none⟩) hbw').trans c2
            go_wp2_with fail
            go_region_held3 (fun w' => w'.cell? ⟨b', off' + k, none⟩ = some (.int .i64 n)) (first | assumption | go_keep) (first
              | (go_at_call 26; refine (cb2 HNB.out HL2.out HR2.out.drew').mono ?_; rintro e x2 ⟨rfl, hr2, hs2⟩; have HR3 := Lib.hid hr2; have HS3 : Hid (Step (from_ w.heap.size) w x2) := HS2.out.drew'.trans (hs2.mono (fun k hk => by rw [hk]; exact HQ.out)); have d3x := (HS3.out.toBelow.cell (p := ⟨b', off' + k, none⟩) hbw').trans c2; clear hr2 hs2))
            go_wp2_with fail
            go_roundw
            case rel => exact ⟨k + 1, by omega, HR3.out, HS3.out, by go_num⟩
            case measure => simp [intOf]; omega
          · obtain ⟨rfl, hbw⟩ := HA.out.at_ (by omega)
            have c1 := HA.out.cell k hct
            have gt : ts[k]? = some ts[k] := List.getElem?_eq_getElem hct
            have hth := HSH.out k hct
            generalize ts[k] = t at c1 gt hth
            have HTL := Lib.hid hth
            clear hth
            have gn : ns[k]? = none := List.getElem?_eq_none (by omega)
            have hR1 : Rd wr R ((ub t.length ++ t) ++ (wrt (ts.drop (k + 1)) (ns.drop (k + 1)))) false := by
              have := HR.out
              rw [HD.out, gt, gn] at this
              simpa [itm, txt, num, List.append_assoc] using this
            have hl1 : ((ub t.length ++ t) ++ (wrt (ts.drop (k + 1)) (ns.drop (k + 1)))).length ≤ 81600 := by
              have := HDL.out
              rw [gt, gn] at this
              simpa [itm, txt, num, List.append_assoc] using this
            have HR1 := Lib.hid hR1
            have HL1 : Hid (((ub t.length ++ t) ++ (wrt (ts.drop (k + 1)) (ns.drop (k + 1)))).length ≤ 140737488355328) := by show _ ≤ _; omega
            clear gt gn hR1 hl1 HR
            have d1 := (HS.out.toBelow.cell (p := ⟨b, off + k, none⟩) hbw).trans c1
            go_wp2_with fail
            go_region_held3 (fun w' => w'.cell? ⟨b, off + k, none⟩ = some (.string (bs t))) (first | assumption | go_keep) (first
              | (go_at_call 27; refine (cb3 (m := 1000) (by decide) HTL.out HL1.out HR1.out.drew').mono ?_; rintro e x1 ⟨rfl, hr1, hs1⟩; have HR2 := Lib.hid hr1; have HS2 : Hid (Step (from_ w.heap.size) w x1) := HS.out.drew'.trans (hs1.mono (fun k hk => by rw [hk]; exact HQ.out)); have d2x := (HS2.out.toBelow.cell (p := ⟨b, off + k, none⟩) hbw).trans c1; clear hr1 hs1))
            go_wp2_with fail
            go_quiet (fail)
            have HS3 : Hid (Step (from_ w.heap.size) w (x1.drewN nq)) := HS2.out.drewN nq
            have HR3 : Hid (Rd (x1.drewN nq) R (wrt (ts.drop (k + 1)) (ns.drop (k + 1))) false) := ⟨HR2.out.blk⟩
            go_wp2_with fail
            go_roundw
            case rel => exact ⟨k + 1, by omega, HR3.out, HS3.out, by go_num⟩
            case measure => simp [intOf]; omega
        · obtain rfl : k = ts.length := by omega
          have hRe : Rd wr R [] false := by
            have := HR.out
            rw [List.drop_of_length_le (by omega), List.drop_of_length_le (by omega)] at this
            simpa [wrt] using this
          have HRe := Lib.hid hRe
          clear HR hRe hdl
          go_wp2_with fail
          refine (left_good R [] _ HRe.out).mono ?_
          rintro e x2 ⟨rfl, rfl⟩
          go_wp2_with fail
          refine (bad_any R [] false _ HRe.out).mono ?_
          rintro e x1 ⟨rfl, rfl⟩
          go_wp2_with fail
          go_ret
          exact ⟨rfl, HS.out.toBelow⟩

theorem written_any (ao : Option Addr) (b off cap : Nat) (ts : List (List UInt8)) (ao' : Option Addr) (b' off' cap' : Nat) (ns : List Int) (hm : ts.length ≤ maxLen) (hm' : ns.length ≤ maxLen) (w : World) (ha : StrsAt w ao b off ts) (hn : NumsAt w ao' b' off' ns) :
    Calls Try.prog 9 #[.slice ao ts.length cap, .slice ao' ns.length cap'] w fun e w' => e = .returned (.bool true) ∧ Below w.heap.size w w' := by
  by_cases h : 40 < ts.length ∨ 40 < ns.length
  · exact written_long ao cap ts ao' cap' ns h hm hm' w
  · by_cases hM : ts.length < ns.length
    · exact written_in1 ao b off cap ts ao' b' off' cap' ns (by omega) (by omega) hM w ha hn
    · exact written_in2 ao b off cap ts ao' b' off' cap' ns (by omega) (by omega) (by omega) w ha hn

end Go.Proofs.Ytkoajibjlcnjgaa
