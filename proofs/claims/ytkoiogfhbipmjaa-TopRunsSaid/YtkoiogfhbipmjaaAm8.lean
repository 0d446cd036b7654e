/-
  AN ABSTRACT MACHINE, 8: slices that are made, copied, cut; how long a slice is.
-/
import Derived.Test.YtkoiogfhbipmjaaAm7
namespace Go.Proofs.Ytkoiogfhbipmjaa
open Go Go.RowKit

/-- So many of the first one. -/
def SL.rep : SL → Nat → Option SL
  | .ev [x], n => some (.ev (List.replicate n x))
  | .ce [x], n => some (.ce (List.replicate n x))
  | .slot [x], n => some (.slot (List.replicate n x))
  | .lab [x], n => some (.lab (List.replicate n x))
  | .mat [x], n => some (.mat (List.replicate n x))
  | .int k [x], n => some (.int k (List.replicate n x))
  | .str [x], n => some (.str (List.replicate n x))
  | _, _ => none
theorem SL.rep_spec {s s' : SL} {n : Nat} (h : s.rep n = some s') : s'.len = n ∧ s'.k = s.k ∧ ∀ j, j < n → s'.at j = s.at 0 := by
  unfold SL.rep at h
  split at h
  all_goals first
    | (cases h; done)
    | (cases h
       refine ⟨by simp [SL.len], rfl, fun j hj => ?_⟩
       simp [SL.at, List.getElem?_replicate, hj])
/-- From the l-th one on, ahead of the h-th. -/
def SL.cut : SL → Nat → Nat → SL
  | .ev s, l, h => .ev ((s.drop l).take (h - l))
  | .wd s, l, h => .wd ((s.drop l).take (h - l))
  | .ce s, l, h => .ce ((s.drop l).take (h - l))
  | .slot s, l, h => .slot ((s.drop l).take (h - l))
  | .lab s, l, h => .lab ((s.drop l).take (h - l))
  | .mat s, l, h => .mat ((s.drop l).take (h - l))
  | .int k s, l, h => .int k ((s.drop l).take (h - l))
  | .str s, l, h => .str ((s.drop l).take (h - l))
  | .ints k s, l, h => .ints k ((s.drop l).take (h - l))
  | .labs s, l, h => .labs ((s.drop l).take (h - l))
theorem SL.cut_spec {s : SL} {l h : Nat} (h1 : l ≤ h) (h2 : h ≤ s.len) : (s.cut l h).len = h - l ∧ (s.cut l h).k = s.k ∧ ∀ j r, (s.cut l h).at j = some r → s.at (l + j) = some r := by
  cases s <;> simp only [SL.len] at h2 <;>
    refine ⟨by simp [SL.cut, SL.len]; omega, rfl, fun j r hj => ?_⟩ <;>
    simp only [SL.cut, SL.at, List.getElem?_take, List.getElem?_drop] at hj ⊢ <;>
    (split at hj
     · exact hj
     · simp at hj)
section
variable {P : Program} {c : Cx} {ρ : Rho} {S : St} {a : Act} {w : World}
def makeE (P : Program) (K : TypeId → Option SL) (t : TypeId) (nid : Nat) (x y : AV) : Out :=
  match x, y, P.underlying t with
  | .g (.v (.int _ n)), .g (.v (.int _ m)), some (.slice e) => match P.info? e, zeroG P e, K e with
    | some ie, some zs, some e0 => bif Nat.blt 0 ie.size && Nat.beq zs.length ie.size then
      (match e0.cons zs with
      | some s1 => bif Nat.beq s1.k ie.size then (match s1.rep n.toNat with
        | some s => ⟨.one (.row nid n.toNat), [(nid, .row e s)], 0 ≤ n ∧ m = n ∧ ie.bytes * n.toNat ≤ 281474976710656 ∧ n.toNat ≤ maxLen⟩
        | none => .fail) else .fail
      | none => .fail) else .fail
    | _, _, _ => .fail
  | _, _, _ => .fail
theorem makeE_sound (h : SR c ρ S a w) {K : TypeId → Option SL} {t : TypeId} {nid : Nat} (hn : S.ob nid = .no) {x y : AV} {vx vy : Value} (hx : Rep1 c.X ρ S.ob w x vx) (hy : Rep1 c.X ρ S.ob w y vy) : MemS P (Instr.makeSlice t vx vy) c ρ S a w (makeE P K t nid x y) := by
  unfold makeE
  split
  · rename_i k1 n k2 m e hu
    obtain ⟨rfl, -⟩ := rep_v hx
    obtain ⟨rfl, -⟩ := rep_v hy
    split
    · rename_i ie zs e0 hie hzs hK
      cases hb : Nat.blt 0 ie.size && Nat.beq zs.length ie.size with
      | false => exact MemS.fail
      | true =>
        simp only [Bool.and_eq_true] at hb
        obtain ⟨q1, q2⟩ := hb
        replace q1 : 0 < ie.size := Nat.le_of_ble_eq_true q1
        replace q2 := Nat.eq_of_beq_eq_true q2
        simp only [cond_true]
        split
        · rename_i s1 hs1
          cases hb : Nat.beq s1.k ie.size with
          | false => exact MemS.fail
          | true =>
            replace hb := Nat.eq_of_beq_eq_true hb
            simp only [cond_true]
            split
            · rename_i s hs
              intro ⟨h0, hmn, hby, h63⟩
              subst hmn
              obtain ⟨N, rfl⟩ : ∃ N : Nat, m = N := ⟨m.toNat, by omega⟩
              simp only [Int.toNat_natCast] at hby h63 hs ⊢
              obtain ⟨z, hz, rfl, hall⟩ := zero_some hzs
              have hz' : ie.zero = some z := by simpa [hie] using hz
              obtain ⟨w', hr, ho, hg⟩ := run_make_full (P := P) w 0 t e ie z ie.size hu hie hz' rfl k1 k2 N hby h63 (Nat.zero_le _)
              obtain ⟨r1, r2, r3⟩ := SL.rep_spec hs
              obtain ⟨c1, c2, c3, c4, c5⟩ := SL.cons_spec hs1
              refine ⟨_, w', _, hr, h.newrow hn (v := .slice (some ⟨w.heap.size, 0, none⟩) N N) (ys := (madeCells z.cells (N * ie.size)).toList) hg ?_ (fun b hb => by cases hb; exact Nat.le_refl _) fun j r hj => ?_, ?_⟩
              · rw [r1, r2, hb]; exact ho
              · have hjn : j < N := by have := (SL.at_lt hj).1; omega
                rw [r3 j hjn, c4] at hj
                cases hj
                rw [r2, hb]
                have hz0 : 0 < z.cells.size := by have : z.cells.size = ie.size := by simpa using q2
                                                  omega
                have hzl : z.cells.size = ie.size := by simpa using q2
                have hmul : j * ie.size + ie.size ≤ N * ie.size := by
                  have := Nat.mul_le_mul_right ie.size (show j + 1 ≤ N from hjn)
                  rw [Nat.add_mul, Nat.one_mul] at this
                  exact this
                refine GRepL.of (by simp [madeCells]; omega) fun i g x hg' hx' => ?_
                have hi : i < ie.size := by have := (List.getElem?_eq_some_iff.1 hg').1; simpa [hzl] using this
                rw [drop_take_get, if_pos hi] at hx'
                have e1 : (j * ie.size + i) % z.cells.size = i := by rw [hzl, Nat.mul_comm, Nat.mul_add_mod, Nat.mod_eq_of_lt hi]
                have e2 : j * ie.size + i < N * ie.size := by omega
                simp only [madeCells, Array.toList_map, Array.toList_range, List.getElem?_map, List.getElem?_range e2] at hx'
                simp only [Option.map_some, e1, Option.some.injEq] at hx'
                rw [List.getElem?_map] at hg'
                rw [Array.getElem?_toList, Array.getElem?_eq_getElem (by omega)] at hg'
                cases hg'
                rw [getElem!_pos z.cells i (by omega)] at hx'
                subst hx'
                exact .v _ (List.all_eq_true.1 hall _ (by simp))
              · show Rep1 c.X (upd ρ nid (.cur (.slice (some ⟨w.heap.size, 0, none⟩) N N))) (St.ob ⟨S.t, [(nid, Ob.row e s)] ++ S.o⟩) w' (.row nid N) (.slice (some ⟨w.heap.size, 0, none⟩) N N)
                simp only [Rep1]
                rw [show St.ob ⟨S.t, [(nid, Ob.row e s)] ++ S.o⟩ nid = .row e s from ob_self]
                exact ⟨by omega, fun _ => upd_self⟩
            · exact MemS.fail
        · exact MemS.fail
    · exact MemS.fail
  · exact MemS.fail
/-- How long. -/
def lenE' (P : Program) (t : TypeId) (x : AV) (q : Option (SL × Prop)) : Out :=
  match P.underlying t, x with
  | some (.slice _), .g (.v (.slice none 0 0)) => .val (.i64 0)
  | some (.slice _), _ => match q with
    | some (s, p) => .valP (.i64 s.len) p
    | none => .fail
  | some .string, .g (.v (.string s)) => .val (.i64 s.size)
  | some (.array n _), _ => .val (.i64 n)
  | _, _ => .fail
def lenE (P : Program) (ob : Nat → Ob) (t : TypeId) (x : AV) : Out := lenE' P t x (slE ob x)
theorem lenE_sound (h : SR c ρ S a w) {t ty : TypeId} {x : AV} {v : Value} (hx : Rep1 c.X ρ S.ob w x v) : ValS P (Builtin.len_ #[t] ty #[v]) c.X ρ S.ob w (lenE P S.ob t x) := by
  unfold lenE lenE'
  split
  · rename_i e hu
    obtain ⟨rfl, -⟩ := rep_v hx
    exact ValS.run (v := .int .i64 0) (fun _ => by simp [Builtin.len_, run_underlying hu, goInt]) fun _ => rep_of rfl
  · rename_i e hu _
    split
    · rename_i s p hs
      refine fun hp => ?_
      obtain ⟨ys, hrd⟩ := sl_sound h hx hs hp
      obtain ⟨ao, cap, rfl, -, -⟩ := hrd.at_
      exact ⟨rfl, .int .i64 s.len, by simp [Builtin.len_, run_underlying hu, goInt], rep_of (o := S.ob) rfl⟩
    · exact ValS.fail
  · rename_i s hu
    obtain ⟨rfl, -⟩ := rep_v hx
    exact ValS.run (v := .int .i64 s.size) (fun _ => by simp [Builtin.len_, run_underlying hu, goInt]) fun _ => rep_of rfl
  · rename_i n e hu
    exact ValS.run (v := .int .i64 n) (fun _ => by simp [Builtin.len_, run_underlying hu, goInt]) fun _ => rep_of rfl
  · exact ValS.fail
/-- A part of a slice, read only. -/
def sliceE (P : Program) (t : TypeId) (x : AV) (lo hi : Option AV) (mx : Bool) : Out :=
  match P.underlying t, x, mx with
  | some (.slice e), .g (.sl s), false => match lay P e with
    | some (k, _) => bif Nat.beq k s.k then
      (match lo, hi with
      | none, none => .val (.g (.sl s))
      | some (.g (.v (.int _ l))), none => .valP (.g (.sl (s.cut l.toNat s.len))) (0 ≤ l ∧ l ≤ s.len)
      | none, some (.g (.v (.int _ h))) => .valP (.g (.sl (s.cut 0 h.toNat))) (0 ≤ h ∧ h ≤ s.len)
      | some (.g (.v (.int _ l))), some (.g (.v (.int _ h))) => .valP (.g (.sl (s.cut l.toNat h.toNat))) (0 ≤ l ∧ l ≤ h ∧ h ≤ s.len)
      | _, _ => .fail) else .fail
    | none => .fail
  | _, _, _ => .fail
theorem cut_g {W : Nat → Prop} {s : SL} {v : Value} {l h : Nat} (hg : GRep w W (.sl s) v) (h1 : l ≤ h) (h2 : h ≤ s.len) : ∃ ao cap, v = .slice ao s.len cap ∧ s.len ≤ cap ∧ (ao = none → cap = 0) ∧ ∀ n, n = h - l → GRep w W (.sl (s.cut l h)) (.slice (if cap = l then ao else ao.map (·.add (l * s.k))) n (cap - l)) := by
  cases hg with
  | sl _ ao cap val hcap hn hc hr =>
    refine ⟨ao, cap, rfl, hcap, hn, ?_⟩
    rintro n rfl
    obtain ⟨a1, a2, a3⟩ := SL.cut_spec (s := s) h1 h2
    rw [← a1]
    refine .sl _ _ _ (fun j d => val (l + j) d) (by rw [a1]; omega) (fun hh => ?_) (fun j r d g hj hg => ?_) fun j r d g hj hg => hr _ _ _ _ (a3 j r hj) hg
    · split at hh
      · omega
      · cases ao with
        | none => have := hn rfl; omega
        | some a => cases hh
    · obtain ⟨b, o, rfl, hb, hcell⟩ := hc _ _ _ _ (a3 j r hj) hg
      have hjl := (SL.at_lt hj).1
      refine ⟨b, o + l * s.k, ?_, hb, ?_⟩
      · rw [if_neg (by omega)]
        simp [Addr.add_mid]
      · rw [a2, ← hcell, Nat.add_mul]
        congr 2
        omega
theorem sliceE_sound {X : Nat → Prop} {ob : Nat → Ob} {t : TypeId} {x : AV} {lo hi : Option AV} {vlo vhi vmx : Option Value} {v : Value} (hx : Rep1 X ρ ob w x v)
    (hlo : ∀ y, lo = some y → ∃ u, vlo = some u ∧ Rep1 X ρ ob w y u) (hlo' : lo = none → vlo = none) (hhi : ∀ y, hi = some y → ∃ u, vhi = some u ∧ Rep1 X ρ ob w y u) (hhi' : hi = none → vhi = none) :
    ValS P (Instr.sliceAt t v vlo vhi vmx) X ρ ob w (sliceE P t x lo hi vmx.isSome) := by
  unfold sliceE
  split
  · rename_i e s hu hmx
    obtain rfl : vmx = none := by cases vmx <;> simp_all
    split
    · rename_i k bb hl
      obtain ⟨d, inf, h1, h2, rfl, h3⟩ := lay_some hl
      cases hk : Nat.beq inf.size s.k with
      | false => exact ValS.fail
      | true =>
        replace hk := Nat.eq_of_beq_eq_true hk
        simp only [cond_true]
        have hsz := run_sizeOf' (P := P) h2 w
        split
        · rw [hlo' rfl, hhi' rfl]
          refine fun _ => ⟨rfl, ?_⟩
          obtain ⟨ao, cap, rfl, hcap, -, -⟩ := cut_g hx (Nat.zero_le 0) (Nat.zero_le _)
          refine ⟨.slice ao s.len cap, ?_, hx⟩
          simp [Instr.sliceAt, Instr.slice, Instr.sliceBounds, Sem.run_bind, run_underlying hu, hsz]
          cases ao <;> simp [Addr.add]
        · rename_i kd l
          obtain ⟨u, hu1, hu2⟩ := hlo _ rfl
          obtain ⟨rfl, -⟩ := rep_v hu2
          rw [hu1, hhi' rfl]
          refine fun ⟨p1, p2⟩ => ⟨rfl, ?_⟩
          obtain ⟨ao, cap, rfl, hcap, -, hcut⟩ := cut_g (l := l.toNat) (h := s.len) hx (by omega) (Nat.le_refl _)
          refine ⟨_, ?_, hcut _ rfl⟩
          simp [Instr.sliceAt, Instr.slice, Instr.sliceBounds, Instr.sliceBound, asIntOf, Sem.run_bind, run_underlying hu, hsz, p1, p2, hk]
        · rename_i kd l
          obtain ⟨u, hu1, hu2⟩ := hhi _ rfl
          obtain ⟨rfl, -⟩ := rep_v hu2
          rw [hu1, hlo' rfl]
          refine fun ⟨p1, p2⟩ => ⟨rfl, ?_⟩
          obtain ⟨ao, cap, rfl, hcap, -, hcut⟩ := cut_g (l := 0) (h := l.toNat) hx (by omega) (by omega)
          refine ⟨_, ?_, hcut _ rfl⟩
          have p3 : l ≤ cap := by omega
          simp [Instr.sliceAt, Instr.slice, Instr.sliceBounds, Instr.sliceBound, asIntOf, Sem.run_bind, run_underlying hu, hsz, p1, p3, hk]
        · rename_i k1 l k2 hh
          obtain ⟨u, hu1, hu2⟩ := hlo _ rfl
          obtain ⟨rfl, -⟩ := rep_v hu2
          obtain ⟨u', hu3, hu4⟩ := hhi _ rfl
          obtain ⟨rfl, -⟩ := rep_v hu4
          rw [hu1, hu3]
          refine fun ⟨p1, p2, p4⟩ => ⟨rfl, ?_⟩
          obtain ⟨ao, cap, rfl, hcap, -, hcut⟩ := cut_g (l := l.toNat) (h := hh.toNat) hx (by omega) (by omega)
          refine ⟨_, ?_, hcut _ rfl⟩
          have p3 : 0 ≤ hh ∧ hh ≤ cap := by omega
          have p5 : l ≤ max hh 0 := by omega
          simp [Instr.sliceAt, Instr.slice, Instr.sliceBounds, Instr.sliceBound, asIntOf, Sem.run_bind, run_underlying hu, hsz, p1, p3, p5, hk]
        · exact ValS.fail
    · exact ValS.fail
  · exact ValS.fail
end
end Go.Proofs.Ytkoiogfhbipmjaa
