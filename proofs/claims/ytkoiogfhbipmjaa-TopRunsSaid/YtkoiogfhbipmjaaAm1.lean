/-
  AN ABSTRACT MACHINE, 1: what values are apart from memory (GV, AV), and when a value of the model, in a world, is one of them (GRep, Rep); states (SR).
-/
import Derived.Test.YtkoiogfhbipmjaaChecked
import Derived.WalkKit
import Derived.Handy
import Derived.Lib.Hide
import Derived.Deep.MidRow
import Derived.Laws.IdiomCopy
import Derived.Deep.AppendLies
import Derived.OwnWalk
import Derived.Orders
namespace Go.Proofs.Ytkoiogfhbipmjaa
open Go Go.RowKit

namespace D
structure Ev where
  t : Int
  v : Int
  c : Int
  s : Bool
structure Ce where
  n : Int
  f : Ev
  l : Ev
  hi : Int
  lo : Int
  r : Int
  g : Int
  s : Int
structure Slot where
  w : Int
  c : Ce
structure Wd where
  hi : Int
  lo : Int
structure Lab where
  n : ByteArray
  v : ByteArray
structure Mat where
  k : Int
  n : ByteArray
  v : ByteArray
end D

/-- What a slice has: a typed list. -/
inductive SL where
  | ev (l : List D.Ev)
  | ce (l : List D.Ce)
  | wd (l : List D.Wd)
  | slot (l : List D.Slot)
  | lab (l : List D.Lab)
  | mat (l : List D.Mat)
  | int (k : IntKind) (l : List Int)
  | str (l : List ByteArray)
  | ints (k : IntKind) (l : List (List Int))
  | labs (l : List (List D.Lab))

/-- A value of one cell, apart from memory. -/
inductive GV where
  | v (x : Value)
  | sl (s : SL)
abbrev GV.i64 (n : Int) : GV := .v (.int .i64 n)
abbrev GV.u64 (n : Int) : GV := .v (.int .u64 n)
def evG (e : D.Ev) : List GV := [.i64 e.t, .u64 e.v, .i64 e.c, .v (.bool e.s)]
def ceG (x : D.Ce) : List GV := [.i64 x.n, .i64 x.f.t, .u64 x.f.v, .i64 x.f.c, .v (.bool x.f.s), .i64 x.l.t, .u64 x.l.v, .i64 x.l.c, .v (.bool x.l.s), .u64 x.hi, .u64 x.lo, .i64 x.r, .i64 x.g, .i64 x.s]
def slotG (x : D.Slot) : List GV := .i64 x.w :: ceG x.c
def wdG (x : D.Wd) : List GV := [.u64 x.hi, .u64 x.lo]
def labG (x : D.Lab) : List GV := [.v (.string x.n), .v (.string x.v)]
def matG (x : D.Mat) : List GV := [.v (.int .u8 x.k), .v (.string x.n), .v (.string x.v)]
def SL.k : SL → Nat
  | .ev _ => 4 | .ce _ => 14 | .wd _ => 2 | .slot _ => 15 | .lab _ => 2 | .mat _ => 3 | .int _ _ => 1 | .str _ => 1 | .ints _ _ => 1 | .labs _ => 1
def SL.len : SL → Nat
  | .ev l => l.length | .ce l => l.length | .wd l => l.length | .slot l => l.length | .lab l => l.length | .mat l => l.length | .int _ l => l.length | .str l => l.length | .ints _ l => l.length | .labs l => l.length
/-- The cells of the i-th thing. -/
def SL.at : SL → Nat → Option (List GV)
  | .ev l, i => l[i]?.map evG
  | .ce l, i => l[i]?.map ceG
  | .wd l, i => l[i]?.map wdG
  | .slot l, i => l[i]?.map slotG
  | .lab l, i => l[i]?.map labG
  | .mat l, i => l[i]?.map matG
  | .int k l, i => l[i]?.map fun n => [.v (.int k n)]
  | .str l, i => l[i]?.map fun s => [.v (.string s)]
  | .ints k l, i => l[i]?.map fun s => [.sl (.int k s)]
  | .labs l, i => l[i]?.map fun s => [.sl (.lab s)]
theorem SL.at_lt {s : SL} {i : Nat} {r : List GV} (h : s.at i = some r) : i < s.len ∧ r.length = s.k := by
  cases s <;> simp only [SL.at, Option.map_eq_some_iff] at h <;> obtain ⟨x, hx, rfl⟩ := h <;> exact ⟨(List.getElem?_eq_some_iff.1 hx).1, rfl⟩
theorem SL.at_some {s : SL} {i : Nat} (h : i < s.len) : ∃ r, s.at i = some r := by
  cases s <;> simp only [SL.len] at h <;> simp [SL.at, List.getElem?_eq_getElem h]

/-- A value, in a world, is this one; what it has lies nowhere in W. -/
inductive GRep (w : World) (W : Nat → Prop) : GV → Value → Prop where
  | v (x : Value) (h1 : x.oneCell' = true) : GRep w W (.v x) x
  | sl (s : SL) (ao : Option Addr) (cap : Nat) (val : Nat → Nat → Value) (hcap : s.len ≤ cap)
      (hn : ao = none → cap = 0)
      (hc : ∀ (j : Nat) (r : List GV) (c : Nat) (g : GV), s.at j = some r → r[c]? = some g → ∃ b o, ao = some ⟨b, o, none⟩ ∧ ¬ W b ∧ w.cell? ⟨b, o + j * s.k + c, none⟩ = some (val j c))
      (hr : ∀ (j : Nat) (r : List GV) (c : Nat) (g : GV), s.at j = some r → r[c]? = some g → GRep w W g (val j c)) : GRep w W (.sl s) (.slice ao s.len cap)

theorem GRep.one {w : World} {W : Nat → Prop} {g : GV} {x : Value} (h : GRep w W g x) : x.oneCell' = true := by
  cases h with
  | v _ h1 => exact h1
  | sl => rfl
/-- All that lies apart from W and S stands in w'. -/
theorem GRep.mono {w w' : World} {W W' : Nat → Prop} {g : GV} {x : Value} (h : GRep w W g x) (hW : ∀ b, b < w.heap.size → W' b → W b) (hk : ∀ b, b < w.heap.size → ¬ W b → w'.heap[b]? = w.heap[b]?) : GRep w' W' g x := by
  induction h with
  | v x h1 => exact .v x h1
  | sl s ao cap val hcap hn hc hr ih =>
    refine .sl s ao cap val hcap hn (fun j r c g h1 h2 => ?_) (fun j r c g h1 h2 => ih j r c g h1 h2)
    obtain ⟨b, o, e, hb, hv⟩ := hc j r c g h1 h2
    have hlt : b < w.heap.size := World.block_lt_of_cell? w _ hv
    exact ⟨b, o, e, fun h => hb (hW b hlt h), (World.cell?_of_block (w := w) (a := ⟨b, _, none⟩) (hk b hlt hb)).trans hv⟩
/-- Pointwise. -/
def GRepL (w : World) (W : Nat → Prop) : List GV → List Value → Prop
  | [], [] => True
  | g :: gs, x :: xs => GRep w W g x ∧ GRepL w W gs xs
  | _, _ => False
theorem GRepL.length {w : World} {W : Nat → Prop} : ∀ {gs : List GV} {xs : List Value}, GRepL w W gs xs → gs.length = xs.length
  | [], [], _ => rfl
  | _ :: _, _ :: _, h => by simp [GRepL.length h.2]
  | [], _ :: _, h => h.elim
  | _ :: _, [], h => h.elim
theorem GRepL.get {w : World} {W : Nat → Prop} : ∀ {gs : List GV} {xs : List Value}, GRepL w W gs xs → ∀ {i : Nat} {g : GV}, gs[i]? = some g → ∃ x, xs[i]? = some x ∧ GRep w W g x
  | [], [], _, i, g, hg => by simp at hg
  | _ :: _, x :: _, h, 0, g, hg => ⟨x, rfl, by simp at hg; exact hg ▸ h.1⟩
  | _ :: _, _ :: _, h, i + 1, g, hg => by
    obtain ⟨x, a, b⟩ := GRepL.get h.2 (i := i) (by simpa using hg)
    exact ⟨x, by simpa using a, b⟩
  | [], _ :: _, h, _, _, _ => h.elim
  | _ :: _, [], h, _, _, _ => h.elim
theorem GRepL.of {w : World} {W : Nat → Prop} : ∀ {gs : List GV} {xs : List Value}, gs.length = xs.length → (∀ (i : Nat) (g : GV) (x : Value), gs[i]? = some g → xs[i]? = some x → GRep w W g x) → GRepL w W gs xs
  | [], [], _, _ => trivial
  | g :: gs, x :: xs, hl, h => ⟨h 0 g x rfl rfl, GRepL.of (by simpa using hl) fun i g x a b => h (i + 1) g x (by simpa using a) (by simpa using b)⟩
  | [], _ :: _, hl, _ => by simp at hl
  | _ :: _, [], hl, _ => by simp at hl
theorem GRepL.mono {w w' : World} {W W' : Nat → Prop} (hW : ∀ b, b < w.heap.size → W' b → W b) (hk : ∀ b, b < w.heap.size → ¬ W b → w'.heap[b]? = w.heap[b]?) : ∀ {gs : List GV} {xs : List Value}, GRepL w W gs xs → GRepL w' W' gs xs
  | [], [], _ => trivial
  | _ :: _, _ :: _, h => ⟨h.1.mono hW hk, GRepL.mono hW hk h.2⟩
  | [], _ :: _, h => h.elim
  | _ :: _, [], h => h.elim
theorem GRepL.drop {w : World} {W : Nat → Prop} : ∀ {gs : List GV} {xs : List Value} (n : Nat), GRepL w W gs xs → GRepL w W (gs.drop n) (xs.drop n)
  | _, _, 0, h => h
  | [], [], _ + 1, _ => trivial
  | _ :: _, _ :: _, n + 1, h => GRepL.drop n h.2
  | [], _ :: _, _ + 1, h => h.elim
  | _ :: _, [], _ + 1, h => h.elim
theorem GRepL.take {w : World} {W : Nat → Prop} : ∀ {gs : List GV} {xs : List Value} (n : Nat), GRepL w W gs xs → GRepL w W (gs.take n) (xs.take n)
  | _, _, 0, _ => by simp [GRepL]
  | [], [], _ + 1, _ => trivial
  | _ :: _, _ :: _, n + 1, h => ⟨h.1, GRepL.take n h.2⟩
  | [], _ :: _, _ + 1, h => h.elim
  | _ :: _, [], _ + 1, h => h.elim
theorem GRepL.app {w : World} {W : Nat → Prop} : ∀ {gs gs' : List GV} {xs xs' : List Value}, GRepL w W gs xs → GRepL w W gs' xs' → GRepL w W (gs ++ gs') (xs ++ xs')
  | [], _, [], _, _, h' => h'
  | _ :: _, _, _ :: _, _, h, h' => ⟨h.1, GRepL.app h.2 h'⟩
  | [], _, _ :: _, _, h, _ => h.elim
  | _ :: _, _, [], _, h, _ => h.elim
theorem GRepL.one {w : World} {W : Nat → Prop} : ∀ {gs : List GV} {xs : List Value}, GRepL w W gs xs → ∀ x ∈ xs, x.oneCell' = true
  | [], [], _, x, hx => by simp at hx
  | _ :: _, _ :: _, h, x, hx => by
    rcases List.mem_cons.1 hx with rfl | hx
    · exact h.1.one
    · exact GRepL.one h.2 x hx
  | [], _ :: _, h, _, _ => h.elim
  | _ :: _, [], h, _, _ => h.elim

/-- A value of a temporary, apart from memory: 'ptr id off': into a variable of this call; 'row id n': a slice of this call's own, n things; 'rp id n j c': into one of its things, while it has n; 'el cs': into memory that is only read. -/
inductive AV where
  | any
  | g (x : GV)
  | agg (cs : List GV)
  | ptr (id off : Nat)
  | row (id n : Nat)
  | rp (id n j c : Nat)
  | el (cs : List GV)
abbrev AV.v (x : Value) : AV := .g (.v x)
abbrev AV.i64 (n : Int) : AV := .g (.v (.int .i64 n))
abbrev AV.b (b : Bool) : AV := .g (.v (.bool b))
inductive TV where
  | one (x : AV)
  | tup (xs : List AV)
/-- A variable of this call, or a slice of its own; 'fz': a slice that is no longer written. -/
inductive Ob where
  | no
  | dead
  | box (T : TypeId) (cs : List GV)
  | row (T : TypeId) (s : SL)
  | fz (s : SL)
/-- Where it is: a block; a slice as it is now. -/
inductive Lo where
  | none
  | blk (b : Nat)
  | cur (v : Value)
def Lo.block : Lo → Option Nat
  | .none => Option.none
  | .blk b => some b
  | .cur v => v.ownBlock
abbrev Rho := Nat → Lo
/-- What may be written to, or must not be met. -/
def Wr (X : Nat → Prop) (ρ : Rho) (b : Nat) : Prop := X b ∨ ∃ id, (ρ id).block = some b
def Rep1 (X : Nat → Prop) (ρ : Rho) (o : Nat → Ob) (w : World) : AV → Value → Prop
  | .any, _ => True
  | .g x, v => GRep w (Wr X ρ) x v
  | .agg cs, v => ∃ vs : List Value, v = .agg vs.toArray ∧ GRepL w (Wr X ρ) cs vs
  | .ptr id off, v => match o id with
    | .box _ _ => ∃ b, ρ id = .blk b ∧ v = .pointer (some ⟨b, off, none⟩)
    | .dead => True
    | _ => False
  | .row id n, v => match o id with
    | .row _ s => n ≤ s.len ∧ (n = s.len → ρ id = .cur v)
    | .fz s => n = s.len → GRep w (Wr X ρ) (.sl s) v
    | .dead => True
    | _ => False
  | .rp id n j c, v => match o id with
    | .row _ s => n ≤ s.len ∧ (n = s.len → ∃ b cap, ρ id = .cur (.slice (some ⟨b, 0, none⟩) n cap) ∧ v = .pointer (some ⟨b, j * s.k + c, none⟩))
    | .fz _ => True
    | .dead => True
    | _ => False
  | .el cs, v => ∃ b off vs, v = .pointer (some ⟨b, off, none⟩) ∧ GRepL w (Wr X ρ) cs vs ∧ ∀ (i : Nat) (u : Value), vs[i]? = some u → ¬ Wr X ρ b ∧ w.cell? ⟨b, off + i, none⟩ = some u
def Rep1L (X : Nat → Prop) (ρ : Rho) (o : Nat → Ob) (w : World) : List AV → List Value → Prop
  | [], [] => True
  | x :: xs, v :: vs => Rep1 X ρ o w x v ∧ Rep1L X ρ o w xs vs
  | _, _ => False
def Rep (X : Nat → Prop) (ρ : Rho) (o : Nat → Ob) (w : World) : TV → Value → Prop
  | .one x, v => Rep1 X ρ o w x v
  | .tup xs, v => ∃ vs : List Value, v = .tuple vs.toArray ∧ Rep1L X ρ o w xs vs
/-- What an object is, in a world. -/
def inO (X : Nat → Prop) (ρ : Rho) (w : World) (id : Nat) : Ob → Prop
  | .box T cs => ∃ b vs, ρ id = .blk b ∧ w.heap[b]? = some (.cells (List.toArray vs) T (0, 0)) ∧ GRepL w (Wr X ρ) cs vs
  | .row T s => ∃ v xs, ρ id = .cur v ∧ w.ownsRow 0 T s.k v s.len xs ∧ ∀ (j : Nat) (r : List GV), s.at j = some r → GRepL w (Wr X ρ) r ((xs.drop (j * s.k)).take s.k)
  | _ => ρ id = .none
/-- The state of a call, apart from memory. -/
structure St where
  t : List (Nat × TV)
  o : List (Nat × Ob)
def look {α : Type} (d : α) : List (Nat × α) → Nat → α
  | [], _ => d
  | (i, x) :: l, j => bif Nat.beq i j then x else look d l j
def St.tmp (S : St) (i : Nat) : TV := look (.one .any) S.t i
def St.ob (S : St) (i : Nat) : Ob := look .no S.o i
/-- What stands during a call: what must not be met, the blocks handed in to be written, the world it began in, how many temporaries. -/
structure Cx where
  X : Nat → Prop
  R : Nat → Prop
  w0 : World
  nt : Nat
/-- All but the blocks in R is as it was. -/
structure Fr (R : Nat → Prop) (w w' : World) : Prop where
  os : w'.os = w.os
  tape : w'.tape = w.tape
  output : w'.output = w.output
  size : w.heap.size ≤ w'.heap.size
  block : ∀ k, k < w.heap.size → ¬ R k → w'.heap[k]? = w.heap[k]?
theorem Fr.refl (R : Nat → Prop) (w : World) : Fr R w w := ⟨rfl, rfl, rfl, Nat.le_refl _, fun _ _ _ => rfl⟩
/-- The state, in memory. -/
structure SR (c : Cx) (ρ : Rho) (S : St) (a : Act) (w : World) : Prop where
  tm : ∀ i, Rep c.X ρ S.ob w (S.tmp i) (a.tmps.getD i undef)
  sz : a.tmps.size = c.nt
  df : a.defers = []
  ob : ∀ id, inO c.X ρ w id (S.ob id)
  lv : ∀ id b, (ρ id).block = some b → (c.w0.heap.size ≤ b ∨ c.R b) ∧ b < w.heap.size
  ij : ∀ id id' b, (ρ id).block = some b → (ρ id').block = some b → id = id'
  fr : Fr c.R c.w0 w
  xo : ∀ id b, (ρ id).block = some b → ¬ c.X b
  xl : ∀ b, c.X b → b < c.w0.heap.size
/-- How an object may go on, so that what speaks of it goes on doing so. -/
def ObStep (X : Nat → Prop) (ρ ρ' : Rho) (w' : World) (id : Nat) : Ob → Ob → Prop
  | .no, _ => True
  | _, .dead => True
  | .box _ _, .box _ _ => ρ' id = ρ id
  | .row _ s, .row _ s' => s.len ≤ s'.len ∧ (s.len = s'.len → s'.k = s.k ∧ ρ' id = ρ id)
  | .row _ s, .fz s' => s' = s ∧ ∀ v, ρ id = .cur v → GRep w' (Wr X ρ') (.sl s) v
  | _, _ => False
section
variable {c : Cx} {ρ ρ' : Rho} {S S' : St} {a : Act} {w w' : World} {I : Nat → Prop}
/-- What changes: the objects in I alone. -/
structure Chg (ρ ρ' : Rho) (I : Nat → Prop) (w w' : World) : Prop where
  same : ∀ id, ¬ I id → ρ' id = ρ id
  bl : ∀ id b, I id → (ρ' id).block = some b → (ρ id).block = some b ∨ (w.heap.size ≤ b ∧ b < w'.heap.size)
  os : w'.os = w.os
  tape : w'.tape = w.tape
  output : w'.output = w.output
  size : w.heap.size ≤ w'.heap.size
  block : ∀ b, b < w.heap.size → (∀ id, I id → (ρ id).block ≠ some b) → w'.heap[b]? = w.heap[b]?
theorem Chg.wr (h : Chg ρ ρ' I w w') {X : Nat → Prop} {b : Nat} (hb : b < w.heap.size) (hw : Wr X ρ' b) : Wr X ρ b := by
  rcases hw with hx | ⟨id, hid⟩
  · exact .inl hx
  · by_cases hI : I id
    · rcases h.bl id b hI hid with h1 | h1
      · exact .inr ⟨id, h1⟩
      · omega
    · exact .inr ⟨id, by rw [← h.same id hI]; exact hid⟩
theorem Chg.keep (h : Chg ρ ρ' I w w') {X : Nat → Prop} {b : Nat} (hb : b < w.heap.size) (hw : ¬ Wr X ρ b) : w'.heap[b]? = w.heap[b]? :=
  h.block b hb fun id _ hid => hw (.inr ⟨id, hid⟩)
theorem Chg.g (h : Chg ρ ρ' I w w') {X : Nat → Prop} {g : GV} {v : Value} (hg : GRep w (Wr X ρ) g v) : GRep w' (Wr X ρ') g v :=
  hg.mono (fun _ hb => h.wr hb) (fun _ hb => h.keep hb)
theorem Chg.gl (h : Chg ρ ρ' I w w') {X : Nat → Prop} {g : List GV} {v : List Value} (hg : GRepL w (Wr X ρ) g v) : GRepL w' (Wr X ρ') g v :=
  hg.mono (fun _ hb => h.wr hb) (fun _ hb => h.keep hb)
theorem Chg.rep1 (h : Chg ρ ρ' I w w') {X : Nat → Prop} {o o' : Nat → Ob} (ho : ∀ id, ¬ I id → o' id = o id) (hs : ∀ id, I id → ObStep X ρ ρ' w' id (o id) (o' id)) {x : AV} {v : Value} (hx : Rep1 X ρ o w x v) : Rep1 X ρ' o' w' x v := by
  cases x with
  | any => trivial
  | g x => exact h.g hx
  | agg cs => obtain ⟨vs, e, h1⟩ := hx; exact ⟨vs, e, h.gl h1⟩
  | el cs =>
    obtain ⟨b, off, vs, e, h1, h2⟩ := hx
    refine ⟨b, off, vs, e, h.gl h1, fun i u hu => ?_⟩
    obtain ⟨h3, h4⟩ := h2 i u hu
    have hlt : b < w.heap.size := World.block_lt_of_cell? w _ h4
    exact ⟨fun hw => h3 (h.wr hlt hw), (World.cell?_of_block (w := w) (a := ⟨b, _, none⟩) (h.keep hlt h3)).trans h4⟩
  | ptr id off =>
    by_cases hI : I id
    · have h1 := hs id hI
      revert hx h1
      simp only [Rep1]
      cases o id <;> cases o' id <;> simp [ObStep]
      rintro b hb rfl he
      exact ⟨b, he.trans hb, rfl⟩
    · simp only [Rep1, ho id hI, h.same id hI] at hx ⊢; exact hx
  | row id n =>
    by_cases hI : I id
    · have h1 := hs id hI
      revert hx h1
      simp only [Rep1]
      cases o id <;> cases o' id <;> simp [ObStep]
      · intro h1 h2 h3 h4
        refine ⟨by omega, fun h5 => ?_⟩
        rw [(h4 (by omega)).2]
        exact h2 (by omega)
      · rintro h1 h2 rfl h4 h5
        exact h4 _ (h2 h5)
    · simp only [Rep1, ho id hI, h.same id hI] at hx ⊢
      cases ho2 : o id <;> simp only [ho2] at hx ⊢ <;> first | exact hx | exact fun hn => h.g (hx hn)
  | rp id n j d =>
    by_cases hI : I id
    · have h1 := hs id hI
      revert hx h1
      simp only [Rep1]
      cases o id <;> cases o' id <;> simp [ObStep]
      intro h1 h2 h3 h4
      refine ⟨by omega, fun h5 => ?_⟩
      obtain ⟨b, ⟨cap, h6⟩, h7⟩ := h2 (by omega)
      obtain ⟨h8, h9⟩ := h4 (by omega)
      exact ⟨b, ⟨cap, by rw [h9]; exact h6⟩, by rw [h8]; exact h7⟩
    · simp only [Rep1, ho id hI, h.same id hI] at hx ⊢; exact hx
theorem Chg.rep1l (h : Chg ρ ρ' I w w') {X : Nat → Prop} {o o' : Nat → Ob} (ho : ∀ id, ¬ I id → o' id = o id) (hs : ∀ id, I id → ObStep X ρ ρ' w' id (o id) (o' id)) : ∀ {xs : List AV} {vs : List Value}, Rep1L X ρ o w xs vs → Rep1L X ρ' o' w' xs vs
  | [], [], _ => trivial
  | _ :: _, _ :: _, hx => ⟨h.rep1 ho hs hx.1, Chg.rep1l h ho hs hx.2⟩
  | [], _ :: _, hx => hx.elim
  | _ :: _, [], hx => hx.elim
theorem Chg.rep (h : Chg ρ ρ' I w w') {X : Nat → Prop} {o o' : Nat → Ob} (ho : ∀ id, ¬ I id → o' id = o id) (hs : ∀ id, I id → ObStep X ρ ρ' w' id (o id) (o' id)) {x : TV} {v : Value} (hx : Rep X ρ o w x v) : Rep X ρ' o' w' x v := by
  cases x with
  | one x => exact h.rep1 ho hs hx
  | tup xs => obtain ⟨vs, e, h1⟩ := hx; exact ⟨vs, e, h.rep1l ho hs h1⟩
theorem ownsRow_keep {b : Nat} {T : TypeId} {k : Nat} {v : Value} {n : Nat} {xs : List Value} (h : w.ownsRow b T k v n xs) (hk : ∀ g, v.ownBlock = some g → w'.heap[g]? = w.heap[g]?) : w'.ownsRow b T k v n xs := by
  refine ⟨h.1, ?_⟩
  rcases h.2 with h1 | ⟨g, cap, cur, rfl, h2, h3, h4⟩
  · exact .inl h1
  · exact .inr ⟨g, cap, cur, rfl, h2, (hk g rfl).trans h3, h4⟩
/-- THE STEP: all else stands. -/
theorem SR.step (h : SR c ρ S a w) (hc : Chg ρ ρ' I w w') (ht : S'.t = S.t) (ho : ∀ id, ¬ I id → S'.ob id = S.ob id) (hs : ∀ id, I id → ObStep c.X ρ ρ' w' id (S.ob id) (S'.ob id))
    (hi : ∀ id, I id → inO c.X ρ' w' id (S'.ob id)) (hij : ∀ id id' b, I id → I id' → (ρ' id).block = some b → (ρ' id').block = some b → id = id') : SR c ρ' S' a w' where
  tm := fun i => by
    have : S'.tmp i = S.tmp i := by unfold St.tmp; rw [ht]
    rw [this]
    exact hc.rep ho hs (h.tm i)
  sz := h.sz
  df := h.df
  ob := fun id => by
    by_cases hI : I id
    · exact hi id hI
    · have h1 := h.ob id
      have hk : ∀ b, (ρ id).block = some b → w'.heap[b]? = w.heap[b]? := fun b hb => hc.block b (h.lv id b hb).2 fun id' hI' hb' => hI (h.ij id id' b hb hb' ▸ hI')
      rw [ho id hI]
      cases hq : S.ob id <;> rw [hq] at h1 <;> simp only [inO, hc.same id hI] at h1 ⊢
      · exact h1
      · exact h1
      · obtain ⟨b, vs, e, h2, h3⟩ := h1
        exact ⟨b, vs, e, (hk b (by rw [e]; rfl)).trans h2, hc.gl h3⟩
      · obtain ⟨v, xs, e, h2, h3⟩ := h1
        exact ⟨v, xs, e, ownsRow_keep h2 fun g hg => hk g (by rw [e]; exact hg), fun j r hj => hc.gl (h3 j r hj)⟩
      · exact h1
  lv := fun id b hb => by
    by_cases hI : I id
    · rcases hc.bl id b hI hb with h1 | h1
      · exact ⟨(h.lv id b h1).1, Nat.lt_of_lt_of_le (h.lv id b h1).2 hc.size⟩
      · exact ⟨.inl (Nat.le_trans h.fr.size h1.1), h1.2⟩
    · rw [hc.same id hI] at hb
      exact ⟨(h.lv id b hb).1, Nat.lt_of_lt_of_le (h.lv id b hb).2 hc.size⟩
  ij := fun id id' b hb hb' => by
    have key : ∀ id id', I id → ¬ I id' → (ρ' id).block = some b → (ρ' id').block = some b → False := fun id id' hI hI' hb hb' => by
      rw [hc.same id' hI'] at hb'
      rcases hc.bl id b hI hb with h1 | h1
      · exact hI' (h.ij id id' b h1 hb' ▸ hI)
      · have := (h.lv id' b hb').2; omega
    by_cases hI : I id <;> by_cases hI' : I id'
    · exact hij id id' b hI hI' hb hb'
    · exact (key id id' hI hI' hb hb').elim
    · exact (key id' id hI' hI hb' hb).elim
    · rw [hc.same id hI] at hb; rw [hc.same id' hI'] at hb'; exact h.ij id id' b hb hb'
  fr := ⟨hc.os.trans h.fr.os, hc.tape.trans h.fr.tape, hc.output.trans h.fr.output, Nat.le_trans h.fr.size hc.size, fun k hk hR => by
    refine (hc.block k (Nat.lt_of_lt_of_le hk h.fr.size) fun id _ hb => ?_).trans (h.fr.block k hk hR)
    rcases (h.lv id k hb).1 with h1 | h1
    · omega
    · exact hR h1⟩
  xo := fun id b hb => by
    by_cases hI : I id
    · rcases hc.bl id b hI hb with h1 | h1
      · exact h.xo id b h1
      · exact fun hx => by have := h.xl b hx; have := h.fr.size; omega
    · rw [hc.same id hI] at hb; exact h.xo id b hb
  xl := h.xl
/-- A value is put. -/
theorem SR.put (h : SR c ρ S a w) {d : Nat} {x : TV} {v : Value} (hx : Rep c.X ρ S.ob w x v) (hd : d < c.nt) : SR c ρ ⟨(d, x) :: S.t, S.o⟩ (a.put (some d) v) w where
  tm := fun i => by
    show Rep c.X ρ S.ob w (look _ ((d, x) :: S.t) i) _
    simp only [look, Act.put]
    by_cases hi : d = i
    · subst hi
      rw [Nat.beq_refl]
      simpa [h.sz, hd] using hx
    · rw [show Nat.beq d i = false from by cases hq : Nat.beq d i with
        | false => rfl
        | true => exact absurd (Nat.eq_of_beq_eq_true hq) hi]
      have := h.tm i
      simp only [cond_false]
      rw [Array.getD_eq_getD_getElem?, Array.getElem?_setIfInBounds_ne hi, ← Array.getD_eq_getD_getElem?]
      exact this
  sz := by simp [Act.put, h.sz]
  df := h.df
  ob := h.ob
  lv := h.lv
  ij := h.ij
  fr := h.fr
  xo := h.xo
  xl := h.xl
end
end Go.Proofs.Ytkoiogfhbipmjaa
