/-
  AN ABSTRACT MACHINE, 3: operations upon memory: boxes, loads, stores, slices of one's own.
-/
import Derived.Test.YtkoiogfhbipmjaaAm2
namespace Go.Proofs.Ytkoiogfhbipmjaa
open Go Go.RowKit

def decEv : List GV → Option D.Ev
  | [.v (.int .i64 t), .v (.int .u64 v), .v (.int .i64 c), .v (.bool s)] => some ⟨t, v, c, s⟩
  | _ => none
def decCe : List GV → Option D.Ce
  | [.v (.int .i64 n), .v (.int .i64 t), .v (.int .u64 v), .v (.int .i64 c), .v (.bool s), .v (.int .i64 t'), .v (.int .u64 v'), .v (.int .i64 c'), .v (.bool s'), .v (.int .u64 hi), .v (.int .u64 lo), .v (.int .i64 r), .v (.int .i64 g), .v (.int .i64 q)] => some ⟨n, ⟨t, v, c, s⟩, ⟨t', v', c', s'⟩, hi, lo, r, g, q⟩
  | _ => none
def decWd : List GV → Option D.Wd
  | [.v (.int .u64 h), .v (.int .u64 l)] => some ⟨h, l⟩
  | _ => none
theorem decWd_eq {l : List GV} {x : D.Wd} (h : decWd l = some x) : l = wdG x := by
  unfold decWd at h
  split at h
  · cases h; rfl
  · cases h
def decSlot : List GV → Option D.Slot
  | .v (.int .i64 w) :: l => (decCe l).map fun c => ⟨w, c⟩
  | _ => none
def decLab : List GV → Option D.Lab
  | [.v (.string n), .v (.string v)] => some ⟨n, v⟩
  | _ => none
def decMat : List GV → Option D.Mat
  | [.v (.int .u8 k), .v (.string n), .v (.string v)] => some ⟨k, n, v⟩
  | _ => none
theorem decEv_eq {l : List GV} {x : D.Ev} (h : decEv l = some x) : l = evG x := by
  unfold decEv at h
  split at h
  · cases h; rfl
  · cases h
theorem decCe_eq {l : List GV} {x : D.Ce} (h : decCe l = some x) : l = ceG x := by
  unfold decCe at h
  split at h
  · cases h; rfl
  · cases h
theorem decSlot_eq {l : List GV} {x : D.Slot} (h : decSlot l = some x) : l = slotG x := by
  unfold decSlot at h
  split at h
  · rename_i w l
    cases h1 : decCe l with
    | none => simp [h1] at h
    | some c => simp [h1] at h; subst h; rw [decCe_eq h1]; rfl
  · cases h
theorem decLab_eq {l : List GV} {x : D.Lab} (h : decLab l = some x) : l = labG x := by
  unfold decLab at h
  split at h
  · cases h; rfl
  · cases h
theorem decMat_eq {l : List GV} {x : D.Mat} (h : decMat l = some x) : l = matG x := by
  unfold decMat at h
  split at h
  · cases h; rfl
  · cases h
def decInt (k : IntKind) : List GV → Option Int
  | [.v (.int k' n)] => if k = k' then some n else none
  | _ => none
theorem decInt_eq {k : IntKind} {l : List GV} {x : Int} (h : decInt k l = some x) : l = [.v (.int k x)] := by
  unfold decInt at h
  split at h
  · split at h
    · rename_i e; cases h; subst e; rfl
    · cases h
  · cases h
def decStr : List GV → Option ByteArray
  | [.v (.string s)] => some s
  | _ => none
theorem decStr_eq {l : List GV} {x : ByteArray} (h : decStr l = some x) : l = [.v (.string x)] := by
  unfold decStr at h
  split at h
  · cases h; rfl
  · cases h
def decInts (k : IntKind) : List GV → Option (List Int)
  | [.sl (.int k' l)] => if k = k' then some l else none
  | _ => none
theorem decInts_eq {k : IntKind} {l : List GV} {x : List Int} (h : decInts k l = some x) : l = [.sl (.int k x)] := by
  unfold decInts at h
  split at h
  · split at h
    · rename_i e; cases h; subst e; rfl
    · cases h
  · cases h
def decLabs : List GV → Option (List D.Lab)
  | [.sl (.lab l)] => some l
  | _ => none
theorem decLabs_eq {l : List GV} {x : List D.Lab} (h : decLabs l = some x) : l = [.sl (.lab x)] := by
  unfold decLabs at h
  split at h
  · cases h; rfl
  · cases h
/-- The cells of the i-th thing, if there is one. -/
def SL.get : SL → Nat → List GV
  | .ev l, i => evG (l.getD i ⟨0, 0, 0, false⟩)
  | .wd l, i => wdG (l.getD i ⟨0, 0⟩)
  | .ce l, i => ceG (l.getD i ⟨0, ⟨0, 0, 0, false⟩, ⟨0, 0, 0, false⟩, 0, 0, 0, 0, 0⟩)
  | .slot l, i => slotG (l.getD i ⟨0, ⟨0, ⟨0, 0, 0, false⟩, ⟨0, 0, 0, false⟩, 0, 0, 0, 0, 0⟩⟩)
  | .lab l, i => labG (l.getD i ⟨⟨#[]⟩, ⟨#[]⟩⟩)
  | .mat l, i => matG (l.getD i ⟨0, ⟨#[]⟩, ⟨#[]⟩⟩)
  | .int k l, i => [.v (.int k (l.getD i 0))]
  | .str l, i => [.v (.string (l.getD i ⟨#[]⟩))]
  | .ints k l, i => [.sl (.int k (l.getD i []))]
  | .labs l, i => [.sl (.lab (l.getD i []))]
theorem SL.at_get {s : SL} {i : Nat} (h : i < s.len) : s.at i = some (s.get i) := by
  cases s <;> simp only [SL.len] at h <;> simp [SL.at, SL.get, List.getElem?_eq_getElem h]
/-- Another thing in its place. -/
def SL.put : SL → Nat → List GV → Option SL
  | .ev l, i, cs => (decEv cs).map fun x => .ev (l.set i x)
  | .wd l, i, cs => (decWd cs).map fun x => .wd (l.set i x)
  | .ce l, i, cs => (decCe cs).map fun x => .ce (l.set i x)
  | .slot l, i, cs => (decSlot cs).map fun x => .slot (l.set i x)
  | .lab l, i, cs => (decLab cs).map fun x => .lab (l.set i x)
  | .mat l, i, cs => (decMat cs).map fun x => .mat (l.set i x)
  | .int k l, i, cs => (decInt k cs).map fun x => .int k (l.set i x)
  | .str l, i, cs => (decStr cs).map fun x => .str (l.set i x)
  | .ints k l, i, cs => (decInts k cs).map fun x => .ints k (l.set i x)
  | .labs l, i, cs => (decLabs cs).map fun x => .labs (l.set i x)
theorem SL.put_spec {s s' : SL} {i : Nat} {cs : List GV} (h : s.put i cs = some s') : s'.len = s.len ∧ s'.k = s.k ∧ cs.length = s.k ∧ (∀ j, j ≠ i → s'.at j = s.at j) ∧ (i < s.len → s'.at i = some cs) := by
  cases s <;> simp only [SL.put, Option.map_eq_some_iff] at h <;> obtain ⟨x, hx, rfl⟩ := h <;>
    first
      | rw [decEv_eq hx] | rw [decWd_eq hx] | rw [decCe_eq hx] | rw [decSlot_eq hx] | rw [decLab_eq hx] | rw [decMat_eq hx] | rw [decInt_eq hx] | rw [decStr_eq hx] | rw [decInts_eq hx] | rw [decLabs_eq hx]
  all_goals
    refine ⟨by simp [SL.len], rfl, rfl, fun j hj => ?_, fun hi => ?_⟩
    · simp only [SL.at]; rw [List.getElem?_set_ne (Ne.symm hj)]
    · simp only [SL.len] at hi; simp [SL.at, List.getElem?_set_self hi]

section
variable {P : Program} {c : Cx} {ρ : Rho} {S : St} {a : Act} {w : World}
/-- What an operation upon memory has to do. -/
def MemS (P : Program) (m : Sem Value) (c : Cx) (ρ : Rho) (S : St) (a : Act) (w : World) (r : Out) : Prop := r.p → ∃ v w' ρ', m.run P w = .ok v w' ∧ SR c ρ' ⟨S.t, r.u ++ S.o⟩ a w' ∧ Rep c.X ρ' (St.ob ⟨S.t, r.u ++ S.o⟩) w' r.x v
theorem ValS.mem {m : Sem Value} {r : Out} (h : ValS P m c.X ρ S.ob w r) (hs : SR c ρ S a w) : MemS P m c ρ S a w r := fun hp => by
  obtain ⟨hu, v, h1, h2⟩ := h hp
  rw [hu]
  exact ⟨v, w, ρ, h1, hs, h2⟩
theorem MemS.fail {m : Sem Value} : MemS P m c ρ S a w .fail := fun h => h.elim
def upd (ρ : Rho) (id : Nat) (l : Lo) : Rho := fun j => if j = id then l else ρ j
theorem upd_self {id : Nat} {l : Lo} : upd ρ id l id = l := by simp [upd]
theorem upd_ne {id j : Nat} {l : Lo} (h : j ≠ id) : upd ρ id l j = ρ j := by simp [upd, h]
theorem ob_self {t : List (Nat × TV)} {o : List (Nat × Ob)} {id : Nat} {x : Ob} : St.ob ⟨t, (id, x) :: o⟩ id = x := by
  simp [St.ob, look]
theorem ob_ne {t : List (Nat × TV)} {o : List (Nat × Ob)} {id j : Nat} {x : Ob} (h : j ≠ id) : St.ob ⟨t, (id, x) :: o⟩ j = look .no o j := by
  have : Nat.beq id j = false := by
    cases hq : Nat.beq id j with
    | false => rfl
    | true => exact absurd (Nat.eq_of_beq_eq_true hq).symm h
  simp [St.ob, look, this]
/-- One object changes, or comes up. -/
theorem SR.one (h : SR c ρ S a w) {w' : World} (id : Nat) (l : Lo) (x : Ob) (hbl : ∀ b, l.block = some b → (ρ id).block = some b ∨ (w.heap.size ≤ b ∧ b < w'.heap.size))
    (hos : w'.os = w.os) (hta : w'.tape = w.tape) (hou : w'.output = w.output) (hsz : w.heap.size ≤ w'.heap.size) (hk : ∀ b, b < w.heap.size → (ρ id).block ≠ some b → w'.heap[b]? = w.heap[b]?)
    (hs : ObStep c.X ρ (upd ρ id l) w' id (S.ob id) x) (hi : inO c.X (upd ρ id l) w' id x) : SR c (upd ρ id l) ⟨S.t, (id, x) :: S.o⟩ a w' ∧ Chg ρ (upd ρ id l) (fun j => j = id) w w' := by
  have hc : Chg ρ (upd ρ id l) (fun j => j = id) w w' := ⟨fun j hj => upd_ne hj, fun j b hj hb => by subst hj; rw [upd_self] at hb; exact hbl b hb, hos, hta, hou, hsz, fun b hb h1 => hk b hb (h1 id rfl)⟩
  refine ⟨h.step hc rfl (fun j hj => ob_ne hj) (fun j hj => ?_) (fun j hj => ?_) (fun j j' b hj hj' _ _ => hj.trans hj'.symm), hc⟩
  · subst hj; rw [ob_self]; exact hs
  · subst hj; rw [ob_self]; exact hi
theorem drop_take_get {xs : List Value} {i k : Nat} {j : Nat} : ((xs.drop i).take k)[j]? = if j < k then xs[i + j]? else none := by
  rw [List.getElem?_take]
  split <;> simp [List.getElem?_drop, *]
/-- A slice of one's own, read only. -/
theorem row_g {X W : Nat → Prop} {id : Nat} {T : TypeId} {s : SL} {v : Value} (h : inO X ρ w id (.row T s)) (hv : ρ id = .cur v) (hW : ∀ b, b < w.heap.size → W b → Wr X ρ b) (hb : ∀ b, v.ownBlock = some b → ¬ W b) : GRep w W (.sl s) v := by
  obtain ⟨v', xs, e, h1, h2⟩ := h
  rw [hv] at e
  cases e
  obtain ⟨hl, h3⟩ := h1
  have hcell : ∀ (j : Nat) (r : List GV) (d : Nat) (g : GV), s.at j = some r → r[d]? = some g → ∃ u, xs[j * s.k + d]? = some u ∧ GRep w W g u := fun j r d g hr hg => by
    obtain ⟨hj, hk⟩ := SL.at_lt hr
    obtain ⟨u, hu, hg'⟩ := (h2 j r hr).get hg
    have hd : d < s.k := by rw [← hk]; exact (List.getElem?_eq_some_iff.1 hg).1
    rw [drop_take_get, if_pos hd] at hu
    exact ⟨u, hu, hg'.mono hW fun _ _ _ => rfl⟩
  have hval : ∀ (j : Nat) (r : List GV) (d : Nat) (g : GV), s.at j = some r → r[d]? = some g → GRep w W g (xs.getD (j * s.k + d) undef) ∧ xs[j * s.k + d]? = some (xs.getD (j * s.k + d) undef) := fun j r d g hr hg => by
    obtain ⟨u, hu, hg'⟩ := hcell j r d g hr hg
    rw [List.getD_eq_getElem?_getD, hu]
    exact ⟨hg', rfl⟩
  rcases h3 with ⟨rfl, hn⟩ | ⟨g, cap, cur, rfl, _, hg, hle, _, hcs, htk⟩
  · have e0 : (Value.slice none 0 0) = .slice none s.len 0 := by rw [hn]
    rw [e0]
    refine .sl s none 0 (fun j d => xs.getD (j * s.k + d) undef) (by omega) (fun _ => rfl) (fun j r d g hr hg => ?_) fun j r d g hr hg => (hval j r d g hr hg).1
    have := (SL.at_lt hr).1
    omega
  · refine .sl s _ cap (fun j d => xs.getD (j * s.k + d) undef) hle (fun hh => by cases hh) (fun j r d q hr hq => ?_) fun j r d q hr hq => (hval j r d q hr hq).1
    refine ⟨g, 0, rfl, hb g rfl, ?_⟩
    have h5 := (hval j r d q hr hq).2
    rw [← htk] at h5
    have h6 : j * s.k + d < s.len * s.k := by
      rcases Nat.lt_or_ge (j * s.k + d) (s.len * s.k) with h | h
      · exact h
      · rw [List.getElem?_take, if_neg (by omega)] at h5; cases h5
    rw [List.getElem?_take, if_pos h6] at h5
    rw [← htk]
    simp only [World.cell?, hg, Nat.zero_add]
    simpa using h5
/-- What is no longer written. -/
def frz (ob : Nat → Ob) : AV → List (Nat × Ob) × Prop
  | .row id n => match ob id with
    | .row _ s => ([(id, .fz s)], n = s.len)
    | .fz s => ([], n = s.len)
    | _ => ([], False)
  | _ => ([], True)
theorem SR.freeze (h : SR c ρ S a w) {id : Nat} {T : TypeId} {s : SL} (ho : S.ob id = .row T s) : SR c (upd ρ id .none) ⟨S.t, (id, .fz s) :: S.o⟩ a w := by
  have hi := h.ob id
  rw [ho] at hi
  refine (h.one id .none (.fz s) (fun b hb => by cases hb) rfl rfl rfl (Nat.le_refl _) (fun _ _ _ => rfl) ?_ upd_self).1
  rw [ho]
  refine ⟨rfl, fun v hv => row_g hi hv (fun b _ hb => ?_) fun b hb => ?_⟩
  · rcases hb with hb | ⟨j, hj⟩
    · exact .inl hb
    · by_cases e : j = id
      · subst e; rw [upd_self] at hj; cases hj
      · rw [upd_ne e] at hj; exact .inr ⟨j, hj⟩
  · have hbl : (ρ id).block = some b := by rw [hv]; exact hb
    rintro (hx | ⟨j, hj⟩)
    · exact h.xo id b hbl hx
    · by_cases e : j = id
      · subst e; rw [upd_self] at hj; cases hj
      · rw [upd_ne e] at hj; exact e (h.ij _ _ _ hj hbl)
theorem frz_sound (h : SR c ρ S a w) (x : AV) (hp : (frz S.ob x).2) : ∃ ρ', SR c ρ' ⟨S.t, (frz S.ob x).1 ++ S.o⟩ a w := by
  unfold frz at hp ⊢
  split
  · rename_i id n
    split
    · rename_i T s hs; exact ⟨_, h.freeze hs⟩
    · exact ⟨ρ, h⟩
    · exact ⟨ρ, h⟩
  · exact ⟨ρ, h⟩
/-- Each of some. -/
def frzL (o : List (Nat × Ob)) : List AV → List (Nat × Ob) × Prop
  | [] => ([], True)
  | x :: xs => let r := frz (look .no o) x; let q := frzL (r.1 ++ o) xs; (q.1 ++ r.1, r.2 ∧ q.2)
theorem frzL_sound : ∀ (xs : List AV) {ρ : Rho} {S : St}, SR c ρ S a w → (frzL S.o xs).2 → ∃ ρ', SR c ρ' ⟨S.t, (frzL S.o xs).1 ++ S.o⟩ a w
  | [], ρ, S, h, _ => ⟨ρ, h⟩
  | x :: xs, ρ, S, h, hp => by
    obtain ⟨ρ1, h1⟩ := frz_sound h x hp.1
    obtain ⟨ρ2, h2⟩ := frzL_sound xs h1 hp.2
    refine ⟨ρ2, ?_⟩
    simp only [frzL, List.append_assoc]
    exact h2
/-- A value, as cells; a slice of one's own that is no longer written, too. -/
def gC (ob : Nat → Ob) : AV → Option (List GV × Prop)
  | .g x => some ([x], True)
  | .agg cs => some (cs, True)
  | .row id n => match ob id with
    | .fz s => some ([.sl s], n = s.len)
    | _ => none
  | _ => none
theorem gC_sound {X : Nat → Prop} {ob : Nat → Ob} {x : AV} {v : Value} {cs : List GV} {p : Prop} (h : Rep1 X ρ ob w x v) (hg : gC ob x = some (cs, p)) (hp : p) : ∃ vs : List Value, v.cells = vs.toArray ∧ GRepL w (Wr X ρ) cs vs := by
  unfold gC at hg
  split at hg
  · cases hg
    have h1 := GRep.one (show GRep w _ _ _ from h)
    refine ⟨[v], ?_, h, trivial⟩
    cases v <;> simp_all [Value.oneCell', Value.cells]
  · cases hg
    obtain ⟨vs, rfl, h1⟩ := h
    exact ⟨vs, rfl, h1⟩
  · rename_i id n
    split at hg
    · rename_i s hs
      cases hg
      simp only [Rep1, hs] at h
      have h2 := h hp
      have h1 := GRep.one h2
      refine ⟨[v], ?_, h2, trivial⟩
      cases v <;> simp_all [Value.oneCell', Value.cells]
    · cases hg
  · cases hg
theorem alloc_chg (o : Obj) : (w.alloc o).os = w.os ∧ (w.alloc o).tape = w.tape ∧ (w.alloc o).output = w.output ∧ w.heap.size < (w.alloc o).heap.size ∧ ∀ b, b < w.heap.size → (w.alloc o).heap[b]? = w.heap[b]? := by
  have h := (Below.refl w.heap.size w).alloc (Nat.le_refl _) o
  refine ⟨h.os, h.tape, h.output, ?_, h.block⟩
  show w.heap.size < (w.heap.push o).size
  simp
theorem new_block (A : Array Value) (T : TypeId) : (w.alloc (.cells A T)).heap[w.heap.size]? = some (.cells A T (0, 0)) := by
  show (w.heap.push _)[w.heap.size]? = _
  simp
/-- A new block of these cells. -/
theorem SR.newbox (h : SR c ρ S a w) {nid : Nat} (hn : S.ob nid = .no) (T : TypeId) (cs : List GV) (vs : List Value) (hg : GRepL w (Wr c.X ρ) cs vs) :
    SR c (upd ρ nid (.blk w.heap.size)) ⟨S.t, (nid, .box T cs) :: S.o⟩ a (w.alloc (.cells vs.toArray T)) := by
  obtain ⟨h1, h2, h3, h4, h5⟩ := alloc_chg (w := w) (.cells vs.toArray T)
  have hno : ρ nid = .none := by have := h.ob nid; rw [hn] at this; exact this
  have hbl : ∀ b, (Lo.blk w.heap.size).block = some b → (ρ nid).block = some b ∨ (w.heap.size ≤ b ∧ b < (w.alloc (.cells vs.toArray T)).heap.size) := fun b hb => by cases hb; exact .inr ⟨Nat.le_refl _, h4⟩
  have hc : Chg ρ (upd ρ nid (.blk w.heap.size)) (fun j => j = nid) w (w.alloc (.cells vs.toArray T)) := ⟨fun j hj => upd_ne hj, fun j b hj hb => by subst hj; rw [upd_self] at hb; exact hbl b hb, h1, h2, h3, Nat.le_of_lt h4, fun b hb _ => h5 b hb⟩
  refine (h.one nid _ (.box T cs) hbl h1 h2 h3 (Nat.le_of_lt h4) (fun b hb _ => h5 b hb) ?_ ?_).1
  · rw [hn]; trivial
  · exact ⟨w.heap.size, vs, upd_self, new_block _ _, hc.gl hg⟩
def boxE (ob : Nat → Ob) (T : TypeId) (nid : Nat) (x : AV) : Out :=
  match gC ob x with
  | some (cs, p) => ⟨.one (.ptr nid 0), [(nid, .box T cs)], p⟩
  | none => .fail
theorem boxE_sound (h : SR c ρ S a w) {nid : Nat} (hn : S.ob nid = .no) {T : TypeId} {x : AV} {v : Value} (hx : Rep1 c.X ρ S.ob w x v) : MemS P (Instr.box T v) c ρ S a w (boxE S.ob T nid x) := by
  unfold boxE
  split
  · rename_i cs p hg
    intro hp
    obtain ⟨vs, e, h1⟩ := gC_sound hx hg hp
    refine ⟨.pointer (some ⟨w.heap.size, 0, none⟩), w.alloc (.cells vs.toArray T), _, ?_, h.newbox hn T cs vs h1, ?_⟩
    · simp [Instr.box, newVar, newRow, Sem.run_bind, e]
    · show Rep1 c.X _ _ (w.alloc (.cells vs.toArray T)) (.ptr nid 0) _
      simp only [Rep1]
      rw [show St.ob ⟨S.t, [(nid, Ob.box T cs)] ++ S.o⟩ nid = .box T cs from ob_self]
      exact ⟨w.heap.size, upd_self, rfl⟩
  · exact MemS.fail
def zeroG (P : Program) (t : TypeId) : Option (List GV) :=
  match (P.info? t).map (·.zero) with
  | some (some z) => bif z.cells.toList.all (·.oneCell') then some (z.cells.toList.map .v) else none
  | _ => none
theorem gl_v {W : Nat → Prop} : ∀ {l : List Value}, l.all (·.oneCell') = true → GRepL w W (l.map .v) l
  | [], _ => trivial
  | x :: l, h => by
    simp only [List.all_cons, Bool.and_eq_true] at h
    exact ⟨.v x h.1, gl_v h.2⟩
theorem run_zero {t : TypeId} {z : Value} (hz : (P.info? t).map (·.zero) = some (some z)) (w : World) : (zeroValue t).run P w = .ok z w := by
  cases hq : P.info? t with
  | none => simp [hq] at hz
  | some i =>
    have hi : i.zero = some z := by simpa [hq] using hz
    simp [zeroValue, typeInfo, Sem.run_bind, hq, hi]
def allocE (P : Program) (T : TypeId) (nid : Nat) : Out :=
  match zeroG P T with
  | some cs => ⟨.one (.ptr nid 0), [(nid, .box T cs)], True⟩
  | none => .fail
theorem allocE_sound (h : SR c ρ S a w) {nid : Nat} (hn : S.ob nid = .no) {T : TypeId} : MemS P (Instr.alloc T true (.tuple #[])) c ρ S a w (allocE P T nid) := by
  unfold allocE
  split
  · rename_i cs hg
    intro _
    unfold zeroG at hg
    split at hg
    · rename_i z hz
      cases hb : z.cells.toList.all (·.oneCell') with
      | false => rw [hb] at hg; cases hg
      | true =>
        rw [hb] at hg; cases hg
        refine ⟨.pointer (some ⟨w.heap.size, 0, none⟩), w.alloc (.cells z.cells T), _, ?_, by simpa using h.newbox hn T _ z.cells.toList (gl_v hb), ?_⟩
        · simp [Instr.alloc, newVar, newRow, Sem.run_bind, run_zero hz]
        · show Rep1 c.X _ _ (w.alloc (.cells z.cells T)) (.ptr nid 0) _
          simp only [Rep1]
          rw [show St.ob ⟨S.t, [(nid, Ob.box T _)] ++ S.o⟩ nid = .box T _ from ob_self]
          exact ⟨w.heap.size, upd_self, rfl⟩
    · cases hg
  · exact MemS.fail
end
end Go.Proofs.Ytkoiogfhbipmjaa
