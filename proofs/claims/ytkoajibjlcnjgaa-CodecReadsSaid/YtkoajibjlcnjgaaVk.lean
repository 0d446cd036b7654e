/-
  WALKS: the law's own reads: one call of each reader.
-/
import Derived.Test.YtkoajibjlcnjgaaVp
namespace Go.Proofs.Ytkoajibjlcnjgaa
open Go Go.RowKit

structure RS (w wr : World) (ga gr : Nat) (s : List UInt8) (bad : Bool) (k n wd : Int) (t : List UInt8) : Prop where
  b : Below w.heap.size w wr
  v : wr.heap[w.heap.size]? = some (.cells #[.string (bs s), .bool bad] 43 (0, 0))
  a : wr.heap[ga]? = some (.cells #[.int .i64 k, .int .u64 n, .int .i64 wd, .string (bs t)] 29 (0, 0))
  r : wr.heap[gr]? = some (.cells #[.string (bs []), .bool false] 43 (0, 0))
section
variable {w wr : World} {ga gr : Nat} {s : List UInt8} {bad : Bool} {k n wd : Int} {t : List UInt8}
theorem RS.c0 (h : RS w wr ga gr s bad k n wd t) : wr.cell? ⟨w.heap.size, 0, none⟩ = some (.string (bs s)) := by rw [cell_blk h.v]; rfl
theorem RS.c1 (h : RS w wr ga gr s bad k n wd t) : wr.cell? ⟨w.heap.size, 1, none⟩ = some (.bool bad) := by rw [cell_blk h.v]; rfl
theorem RS.a0 (h : RS w wr ga gr s bad k n wd t) : wr.cell? ⟨ga, 0, none⟩ = some (.int .i64 k) := by rw [cell_blk h.a]; rfl
theorem RS.a2 (h : RS w wr ga gr s bad k n wd t) : wr.cell? ⟨ga, 2, none⟩ = some (.int .i64 wd) := by rw [cell_blk h.a]; rfl
theorem RS.d0 (h : RS w wr ga gr s bad k n wd t) : wr.cell? ⟨gr, 0, none⟩ = some (.string (bs [])) := by rw [cell_blk h.r]; rfl
theorem RS.d1 (h : RS w wr ga gr s bad k n wd t) : wr.cell? ⟨gr, 1, none⟩ = some (.bool false) := by rw [cell_blk h.r]; rfl
theorem RS.keep {w' : World} (h : RS w wr ga gr s bad k n wd t) (hb : Below wr.heap.size wr w') : RS w w' ga gr s bad k n wd t :=
  ⟨below_of h.b hb, (hb.block _ (lt_blk h.v)).trans h.v, (hb.block _ (lt_blk h.a)).trans h.a, (hb.block _ (lt_blk h.r)).trans h.r⟩
end
theorem blk2_0 {w : World} {g : Nat} {a b : Value} {ty : TypeId} (h : w.heap[g]? = some (.cells #[a, b] ty (0, 0))) : w.cell? ⟨g, 0, none⟩ = some a := by rw [cell_blk h]; rfl
theorem blk2_1 {w : World} {g : Nat} {a b : Value} {ty : TypeId} (h : w.heap[g]? = some (.cells #[a, b] ty (0, 0))) : w.cell? ⟨g, 1, none⟩ = some b := by rw [cell_blk h]; rfl
theorem blk4_2 {w : World} {g : Nat} {a b c d : Value} {ty : TypeId} (h : w.heap[g]? = some (.cells #[a, b, c, d] ty (0, 0))) : w.cell? ⟨g, 2, none⟩ = some c := by rw [cell_blk h]; rfl
theorem keep2n {w0 : World} {g g1 i : Nat} {v x y : Value} (h : w0.cell? ⟨g, i, none⟩ = some v) (hne : g ≠ g1) : ((w0.setCell ⟨g1, 0, none⟩ x).setCell ⟨g1, 1, none⟩ y).cell? ⟨g, i, none⟩ = some v := keep2 h hne
theorem rs_start {w w0 : World} {ga gr : Nat} {s : List UInt8} {bad : Bool} {k n wd : Int} {t : List UInt8}
    (h : w0 = (((w.alloc (Obj.cells #[Value.string (bs s), Value.bool bad] 43)).alloc (Obj.cells #[Value.int .i64 k, Value.int .u64 n, Value.int .i64 wd, Value.string (bs t)] 29)).alloc (Obj.cells #[Value.string { data := #[] }, Value.bool false] 43)))
    (hga : ga = w.heap.size + 1) (hgr : gr = w.heap.size + 1 + 1) : RS w w0 ga gr s bad k n wd t := by
  subst h hga hgr
  refine ⟨by go_grown, alloc_old (alloc_old (alloc_blk _ _) _) _, ?_, ?_⟩
  · have e : w.heap.size + 1 = (w.alloc (Obj.cells #[Value.string (bs s), Value.bool bad] 43)).heap.size := by simp
    rw [e]; exact alloc_old (alloc_blk _ _) _
  · have e : w.heap.size + 1 + 1 = ((w.alloc (Obj.cells #[Value.string (bs s), Value.bool bad] 43)).alloc (Obj.cells #[Value.int .i64 k, Value.int .u64 n, Value.int .i64 wd, Value.string (bs t)] 29)).heap.size := by simp
    rw [e]; exact alloc_blk _ _

set_option maxHeartbeats 4000000 in
set_option maxRecDepth 100000 in
theorem reads_0 {P : Nat} {s t s' : List UInt8} {bad bad' : Bool} {n : Nat} {wd : Int} {x : Nat} (hp : Pair0 36 25 P s bad s' bad' (.int .u64 x)) (w : World) (h : Rd w P s bad) :
    Calls Try.prog 22 #[.pointer (some ⟨P, 0, none⟩), .agg #[.string (bs s), .bool bad], .agg #[.int .i64 0, .int .u64 n, .int .i64 wd, .string (bs t)]] w fun e w' => e = .returned (.tuple #[.agg #[.string (bs s'), .bool bad'], .bool true]) ∧ Rd w' P s' bad' ∧ Step (fun k => k = P ∨ w.heap.size ≤ k) w w' := by
  have HR := Lib.hid h
  have HP := Lib.hid hp
  have HPL := Lib.hid h.lt
  clear h hp
  go_enter Try.func22, Try.ntmps22
  go_upto_region 1 with fail
  obtain ⟨w0, hw0⟩ : ∃ w0, w0 = (((w.alloc (Obj.cells #[Value.string (bs s), Value.bool bad] 43)).alloc (Obj.cells #[Value.int .i64 0, Value.int .u64 n, Value.int .i64 wd, Value.string (bs t)] 29)).alloc (Obj.cells #[Value.string { data := #[] }, Value.bool false] 43)) := ⟨_, rfl⟩
  rw [← hw0]
  obtain ⟨gr, hgr⟩ : ∃ g, g = w.heap.size + 1 + 1 := ⟨_, rfl⟩
  obtain ⟨ga, hga⟩ : ∃ g, g = w.heap.size + 1 := ⟨_, rfl⟩
  have HS := Lib.hid (rs_start hw0 hga hgr)
  rw [← hgr, ← hga]
  have hgP : gr ≠ P := by have := HPL.out; omega
  have hle : w.heap.size ≤ gr := by omega
  have HGP := Lib.hid hgP
  have HGA : Hid (w.heap.size ≤ ga ∧ ga < gr) := Lib.hid ⟨by omega, by omega⟩
  clear hw0 hgr hga
  have c0 := HS.out.c0
  have c1 := HS.out.c1
  have a0 := HS.out.a0
  have a2 := HS.out.a2
  have f0 := free_blk HS.out.r 0
  have f1 := free_blk HS.out.r 1
  have d0 := HS.out.d0
  have d1 := HS.out.d1
  go_wp2_with fail
  refine (HP.out.V _).mono ?_
  rintro e w1 ⟨rfl, hb⟩
  have HS1 := Lib.hid (HS.out.keep hb)
  clear c0 c1 a0 a2 f0 f1 d0 d1 hb HS
  have c0 := HS1.out.c0
  have c1 := HS1.out.c1
  have a0 := HS1.out.a0
  have a2 := HS1.out.a2
  have f0 := free_blk HS1.out.r 0
  have f1 := free_blk HS1.out.r 1
  have d0 := HS1.out.d0
  have d1 := HS1.out.d1
  go_upto_region 4 with fail
  obtain ⟨w2, hw2⟩ : ∃ w2, w2 = w1.alloc (Obj.cells #[Value.string (bs s'), Value.bool bad'] 43) := ⟨_, rfl⟩
  rw [← hw2]
  obtain ⟨C, hC⟩ : ∃ C, C = w1.heap.size := ⟨_, rfl⟩
  have hCb : w2.heap[C]? = some (.cells #[.string (bs s'), .bool bad'] 43 (0, 0)) := by rw [hw2, hC]; exact alloc_blk _ _
  have hb2 : Below w1.heap.size w1 w2 := by rw [hw2]; go_grown
  have HS2 := Lib.hid (HS1.out.keep hb2)
  have HR2 : Hid (Rd w2 P s bad) := HR.out.step (S := fun _ => False) (Step.of_below HS2.out.b) (fun h => h)
  rw [← hC]
  have hCr : C ≠ gr := by have := lt_blk HS1.out.r; omega
  have hCP : C ≠ P := by have := HS1.out.b.size; have := HPL.out; omega
  have hgag : ga ≠ gr := by have h := HGA.out; omega
  have hgaP : ga ≠ P := by have h := HGA.out; have := HPL.out; omega
  have HCB := Lib.hid hCb
  clear c0 c1 a0 a2 f0 f1 d0 d1 hb2 hw2 hC HS1 hCb
  have c0 := HS2.out.c0
  have c1 := HS2.out.c1
  have a0 := HS2.out.a0
  have a2 := HS2.out.a2
  have f0 := free_blk HS2.out.r 0
  have f1 := free_blk HS2.out.r 1
  have d0 := HS2.out.d0
  have d1 := HS2.out.d1
  have q0 : w2.cell? ⟨C, 0, none⟩ = some (.string (bs s')) := by rw [cell_blk HCB.out]; rfl
  have q1 : w2.cell? ⟨C, 1, none⟩ = some (.bool bad') := by rw [cell_blk HCB.out]; rfl
  clear c0 c1 a0
  go_region_held3 (fun w' => w'.cell? ⟨C, 0, none⟩ = some (.string (bs s')) ∧ w'.cell? ⟨C, 1, none⟩ = some (.bool bad') ∧ w'.cell? ⟨ga, 2, none⟩ = some (.int .i64 wd))
    (first | exact ⟨by assumption, by assumption, by assumption⟩ | exact ⟨keep2 (by assumption) (by assumption), keep2 (by assumption) (by assumption), keep2 (by assumption) (by assumption)⟩ | exact ⟨keep2n (by assumption) (by assumption), keep2n (by assumption) (by assumption), keep2n (by assumption) (by assumption)⟩)
    ((go_at_call 25; refine (HP.out.R _ HR2.out.drew').mono ?_; rintro e w3 ⟨rfl, hr3, hs3⟩; have kC := (hs3.block C (lt_blk HCB.out) hCP).trans HCB.out; have kr := (hs3.block gr (lt_blk HS2.out.r) HGP.out).trans HS2.out.r; have ka := (hs3.block ga (lt_blk HS2.out.a) hgaP).trans HS2.out.a; have p0 := blk2_0 kC; have p1 := blk2_1 kC; have p2 := blk4_2 ka; have g0 := free_blk kr 0; have g1 := free_blk kr 1; have e0 := blk2_0 kr; have e1 := blk2_1 kr))
  all_goals
    have u0 := fin0 kr (.string (bs s'))
    have u1 := fin1 kr (.string (bs s')) (.bool bad')
    go_wp2_with fail
    refine bodyPost_ret (v := .tuple #[.agg #[.string (bs s'), .bool bad'], .bool true]) (by simp [results, Try.results22, go_sem, u0, u1]) rfl ?_
    exact ⟨rfl, hr3.step (S := (· = gr)) (((Step.refl (· = gr) _).setCell (p := ⟨gr, 0, none⟩) rfl _).setCell (p := ⟨gr, 1, none⟩) rfl _) (fun h => HGP.out h.symm),
      (((Step.of_below HS2.out.b).drew.trans (hs3.mono (fun k h => Or.inl h))).setCell (p := ⟨gr, 0, none⟩) (Or.inr hle) _).setCell (p := ⟨gr, 1, none⟩) (Or.inr hle) _⟩

set_option maxHeartbeats 4000000 in
set_option maxRecDepth 100000 in
theorem reads_1 {P : Nat} {s t s' : List UInt8} {bad bad' : Bool} {n : Nat} {wd : Int} {x : Int} (hp : Pair0 37 26 P s bad s' bad' (.int .i64 x)) (w : World) (h : Rd w P s bad) :
    Calls Try.prog 22 #[.pointer (some ⟨P, 0, none⟩), .agg #[.string (bs s), .bool bad], .agg #[.int .i64 1, .int .u64 n, .int .i64 wd, .string (bs t)]] w fun e w' => e = .returned (.tuple #[.agg #[.string (bs s'), .bool bad'], .bool true]) ∧ Rd w' P s' bad' ∧ Step (fun k => k = P ∨ w.heap.size ≤ k) w w' := by
  have HR := Lib.hid h
  have HP := Lib.hid hp
  have HPL := Lib.hid h.lt
  clear h hp
  go_enter Try.func22, Try.ntmps22
  go_upto_region 1 with fail
  obtain ⟨w0, hw0⟩ : ∃ w0, w0 = (((w.alloc (Obj.cells #[Value.string (bs s), Value.bool bad] 43)).alloc (Obj.cells #[Value.int .i64 1, Value.int .u64 n, Value.int .i64 wd, Value.string (bs t)] 29)).alloc (Obj.cells #[Value.string { data := #[] }, Value.bool false] 43)) := ⟨_, rfl⟩
  rw [← hw0]
  obtain ⟨gr, hgr⟩ : ∃ g, g = w.heap.size + 1 + 1 := ⟨_, rfl⟩
  obtain ⟨ga, hga⟩ : ∃ g, g = w.heap.size + 1 := ⟨_, rfl⟩
  have HS := Lib.hid (rs_start hw0 hga hgr)
  rw [← hgr, ← hga]
  have hgP : gr ≠ P := by have := HPL.out; omega
  have hle : w.heap.size ≤ gr := by omega
  have HGP := Lib.hid hgP
  have HGA : Hid (w.heap.size ≤ ga ∧ ga < gr) := Lib.hid ⟨by omega, by omega⟩
  clear hw0 hgr hga
  have c0 := HS.out.c0
  have c1 := HS.out.c1
  have a0 := HS.out.a0
  have a2 := HS.out.a2
  have f0 := free_blk HS.out.r 0
  have f1 := free_blk HS.out.r 1
  have d0 := HS.out.d0
  have d1 := HS.out.d1
  go_wp2_with fail
  refine (HP.out.V _).mono ?_
  rintro e w1 ⟨rfl, hb⟩
  have HS1 := Lib.hid (HS.out.keep hb)
  clear c0 c1 a0 a2 f0 f1 d0 d1 hb HS
  have c0 := HS1.out.c0
  have c1 := HS1.out.c1
  have a0 := HS1.out.a0
  have a2 := HS1.out.a2
  have f0 := free_blk HS1.out.r 0
  have f1 := free_blk HS1.out.r 1
  have d0 := HS1.out.d0
  have d1 := HS1.out.d1
  go_upto_region 7 with fail
  obtain ⟨w2, hw2⟩ : ∃ w2, w2 = w1.alloc (Obj.cells #[Value.string (bs s'), Value.bool bad'] 43) := ⟨_, rfl⟩
  rw [← hw2]
  obtain ⟨C, hC⟩ : ∃ C, C = w1.heap.size := ⟨_, rfl⟩
  have hCb : w2.heap[C]? = some (.cells #[.string (bs s'), .bool bad'] 43 (0, 0)) := by rw [hw2, hC]; exact alloc_blk _ _
  have hb2 : Below w1.heap.size w1 w2 := by rw [hw2]; go_grown
  have HS2 := Lib.hid (HS1.out.keep hb2)
  have HR2 : Hid (Rd w2 P s bad) := HR.out.step (S := fun _ => False) (Step.of_below HS2.out.b) (fun h => h)
  rw [← hC]
  have hCr : C ≠ gr := by have := lt_blk HS1.out.r; omega
  have hCP : C ≠ P := by have := HS1.out.b.size; have := HPL.out; omega
  have hgag : ga ≠ gr := by have h := HGA.out; omega
  have hgaP : ga ≠ P := by have h := HGA.out; have := HPL.out; omega
  have HCB := Lib.hid hCb
  clear c0 c1 a0 a2 f0 f1 d0 d1 hb2 hw2 hC HS1 hCb
  have c0 := HS2.out.c0
  have c1 := HS2.out.c1
  have a0 := HS2.out.a0
  have a2 := HS2.out.a2
  have f0 := free_blk HS2.out.r 0
  have f1 := free_blk HS2.out.r 1
  have d0 := HS2.out.d0
  have d1 := HS2.out.d1
  have q0 : w2.cell? ⟨C, 0, none⟩ = some (.string (bs s')) := by rw [cell_blk HCB.out]; rfl
  have q1 : w2.cell? ⟨C, 1, none⟩ = some (.bool bad') := by rw [cell_blk HCB.out]; rfl
  clear c0 c1 a0
  go_region_held3 (fun w' => w'.cell? ⟨C, 0, none⟩ = some (.string (bs s')) ∧ w'.cell? ⟨C, 1, none⟩ = some (.bool bad') ∧ w'.cell? ⟨ga, 2, none⟩ = some (.int .i64 wd))
    (first | exact ⟨by assumption, by assumption, by assumption⟩ | exact ⟨keep2 (by assumption) (by assumption), keep2 (by assumption) (by assumption), keep2 (by assumption) (by assumption)⟩ | exact ⟨keep2n (by assumption) (by assumption), keep2n (by assumption) (by assumption), keep2n (by assumption) (by assumption)⟩)
    ((go_at_call 26; refine (HP.out.R _ HR2.out.drew').mono ?_; rintro e w3 ⟨rfl, hr3, hs3⟩; have kC := (hs3.block C (lt_blk HCB.out) hCP).trans HCB.out; have kr := (hs3.block gr (lt_blk HS2.out.r) HGP.out).trans HS2.out.r; have ka := (hs3.block ga (lt_blk HS2.out.a) hgaP).trans HS2.out.a; have p0 := blk2_0 kC; have p1 := blk2_1 kC; have p2 := blk4_2 ka; have g0 := free_blk kr 0; have g1 := free_blk kr 1; have e0 := blk2_0 kr; have e1 := blk2_1 kr))
  all_goals
    have u0 := fin0 kr (.string (bs s'))
    have u1 := fin1 kr (.string (bs s')) (.bool bad')
    go_wp2_with fail
    refine bodyPost_ret (v := .tuple #[.agg #[.string (bs s'), .bool bad'], .bool true]) (by simp [results, Try.results22, go_sem, u0, u1]) rfl ?_
    exact ⟨rfl, hr3.step (S := (· = gr)) (((Step.refl (· = gr) _).setCell (p := ⟨gr, 0, none⟩) rfl _).setCell (p := ⟨gr, 1, none⟩) rfl _) (fun h => HGP.out h.symm),
      (((Step.of_below HS2.out.b).drew.trans (hs3.mono (fun k h => Or.inl h))).setCell (p := ⟨gr, 0, none⟩) (Or.inr hle) _).setCell (p := ⟨gr, 1, none⟩) (Or.inr hle) _⟩

set_option maxHeartbeats 4000000 in
set_option maxRecDepth 100000 in
theorem reads_2 {P : Nat} {s t s' : List UInt8} {bad bad' : Bool} {n : Nat} {wd : Int} {x : Nat} (hp : Pair1 38 28 P wd s bad s' bad' (.int .u64 x)) (w : World) (h : Rd w P s bad) :
    Calls Try.prog 22 #[.pointer (some ⟨P, 0, none⟩), .agg #[.string (bs s), .bool bad], .agg #[.int .i64 2, .int .u64 n, .int .i64 wd, .string (bs t)]] w fun e w' => e = .returned (.tuple #[.agg #[.string (bs s'), .bool bad'], .bool true]) ∧ Rd w' P s' bad' ∧ Step (fun k => k = P ∨ w.heap.size ≤ k) w w' := by
  have HR := Lib.hid h
  have HP := Lib.hid hp
  have HPL := Lib.hid h.lt
  clear h hp
  go_enter Try.func22, Try.ntmps22
  go_upto_region 1 with fail
  obtain ⟨w0, hw0⟩ : ∃ w0, w0 = (((w.alloc (Obj.cells #[Value.string (bs s), Value.bool bad] 43)).alloc (Obj.cells #[Value.int .i64 2, Value.int .u64 n, Value.int .i64 wd, Value.string (bs t)] 29)).alloc (Obj.cells #[Value.string { data := #[] }, Value.bool false] 43)) := ⟨_, rfl⟩
  rw [← hw0]
  obtain ⟨gr, hgr⟩ : ∃ g, g = w.heap.size + 1 + 1 := ⟨_, rfl⟩
  obtain ⟨ga, hga⟩ : ∃ g, g = w.heap.size + 1 := ⟨_, rfl⟩
  have HS := Lib.hid (rs_start hw0 hga hgr)
  rw [← hgr, ← hga]
  have hgP : gr ≠ P := by have := HPL.out; omega
  have hle : w.heap.size ≤ gr := by omega
  have HGP := Lib.hid hgP
  have HGA : Hid (w.heap.size ≤ ga ∧ ga < gr) := Lib.hid ⟨by omega, by omega⟩
  clear hw0 hgr hga
  have c0 := HS.out.c0
  have c1 := HS.out.c1
  have a0 := HS.out.a0
  have a2 := HS.out.a2
  have f0 := free_blk HS.out.r 0
  have f1 := free_blk HS.out.r 1
  have d0 := HS.out.d0
  have d1 := HS.out.d1
  go_wp2_with fail
  refine (HP.out.V _).mono ?_
  rintro e w1 ⟨rfl, hb⟩
  have HS1 := Lib.hid (HS.out.keep hb)
  clear c0 c1 a0 a2 f0 f1 d0 d1 hb HS
  have c0 := HS1.out.c0
  have c1 := HS1.out.c1
  have a0 := HS1.out.a0
  have a2 := HS1.out.a2
  have f0 := free_blk HS1.out.r 0
  have f1 := free_blk HS1.out.r 1
  have d0 := HS1.out.d0
  have d1 := HS1.out.d1
  go_upto_region 10 with fail
  obtain ⟨w2, hw2⟩ : ∃ w2, w2 = w1.alloc (Obj.cells #[Value.string (bs s'), Value.bool bad'] 43) := ⟨_, rfl⟩
  rw [← hw2]
  obtain ⟨C, hC⟩ : ∃ C, C = w1.heap.size := ⟨_, rfl⟩
  have hCb : w2.heap[C]? = some (.cells #[.string (bs s'), .bool bad'] 43 (0, 0)) := by rw [hw2, hC]; exact alloc_blk _ _
  have hb2 : Below w1.heap.size w1 w2 := by rw [hw2]; go_grown
  have HS2 := Lib.hid (HS1.out.keep hb2)
  have HR2 : Hid (Rd w2 P s bad) := HR.out.step (S := fun _ => False) (Step.of_below HS2.out.b) (fun h => h)
  rw [← hC]
  have hCr : C ≠ gr := by have := lt_blk HS1.out.r; omega
  have hCP : C ≠ P := by have := HS1.out.b.size; have := HPL.out; omega
  have hgag : ga ≠ gr := by have h := HGA.out; omega
  have hgaP : ga ≠ P := by have h := HGA.out; have := HPL.out; omega
  have HCB := Lib.hid hCb
  clear c0 c1 a0 a2 f0 f1 d0 d1 hb2 hw2 hC HS1 hCb
  have c0 := HS2.out.c0
  have c1 := HS2.out.c1
  have a0 := HS2.out.a0
  have a2 := HS2.out.a2
  have f0 := free_blk HS2.out.r 0
  have f1 := free_blk HS2.out.r 1
  have d0 := HS2.out.d0
  have d1 := HS2.out.d1
  have q0 : w2.cell? ⟨C, 0, none⟩ = some (.string (bs s')) := by rw [cell_blk HCB.out]; rfl
  have q1 : w2.cell? ⟨C, 1, none⟩ = some (.bool bad') := by rw [cell_blk HCB.out]; rfl
  clear c0 c1 a0
  go_region_held3 (fun w' => w'.cell? ⟨C, 0, none⟩ = some (.string (bs s')) ∧ w'.cell? ⟨C, 1, none⟩ = some (.bool bad') ∧ w'.cell? ⟨ga, 2, none⟩ = some (.int .i64 wd))
    (first | exact ⟨by assumption, by assumption, by assumption⟩ | exact ⟨keep2 (by assumption) (by assumption), keep2 (by assumption) (by assumption), keep2 (by assumption) (by assumption)⟩ | exact ⟨keep2n (by assumption) (by assumption), keep2n (by assumption) (by assumption), keep2n (by assumption) (by assumption)⟩)
    ((go_at_call 28; refine (HP.out.R _ HR2.out.drew').mono ?_; rintro e w3 ⟨rfl, hr3, hs3⟩; have kC := (hs3.block C (lt_blk HCB.out) hCP).trans HCB.out; have kr := (hs3.block gr (lt_blk HS2.out.r) HGP.out).trans HS2.out.r; have ka := (hs3.block ga (lt_blk HS2.out.a) hgaP).trans HS2.out.a; have p0 := blk2_0 kC; have p1 := blk2_1 kC; have p2 := blk4_2 ka; have g0 := free_blk kr 0; have g1 := free_blk kr 1; have e0 := blk2_0 kr; have e1 := blk2_1 kr))
  all_goals
    have u0 := fin0 kr (.string (bs s'))
    have u1 := fin1 kr (.string (bs s')) (.bool bad')
    go_wp2_with fail
    refine bodyPost_ret (v := .tuple #[.agg #[.string (bs s'), .bool bad'], .bool true]) (by simp [results, Try.results22, go_sem, u0, u1]) rfl ?_
    exact ⟨rfl, hr3.step (S := (· = gr)) (((Step.refl (· = gr) _).setCell (p := ⟨gr, 0, none⟩) rfl _).setCell (p := ⟨gr, 1, none⟩) rfl _) (fun h => HGP.out h.symm),
      (((Step.of_below HS2.out.b).drew.trans (hs3.mono (fun k h => Or.inl h))).setCell (p := ⟨gr, 0, none⟩) (Or.inr hle) _).setCell (p := ⟨gr, 1, none⟩) (Or.inr hle) _⟩

set_option maxHeartbeats 4000000 in
set_option maxRecDepth 100000 in
theorem reads_3 {P : Nat} {s t s' : List UInt8} {bad bad' : Bool} {n : Nat} {wd : Int} {x : List UInt8} (hp : Pair1 39 27 P wd s bad s' bad' (.string (bs x))) (w : World) (h : Rd w P s bad) :
    Calls Try.prog 22 #[.pointer (some ⟨P, 0, none⟩), .agg #[.string (bs s), .bool bad], .agg #[.int .i64 3, .int .u64 n, .int .i64 wd, .string (bs t)]] w fun e w' => e = .returned (.tuple #[.agg #[.string (bs s'), .bool bad'], .bool true]) ∧ Rd w' P s' bad' ∧ Step (fun k => k = P ∨ w.heap.size ≤ k) w w' := by
  have HR := Lib.hid h
  have HP := Lib.hid hp
  have HPL := Lib.hid h.lt
  clear h hp
  go_enter Try.func22, Try.ntmps22
  go_upto_region 1 with fail
  obtain ⟨w0, hw0⟩ : ∃ w0, w0 = (((w.alloc (Obj.cells #[Value.string (bs s), Value.bool bad] 43)).alloc (Obj.cells #[Value.int .i64 3, Value.int .u64 n, Value.int .i64 wd, Value.string (bs t)] 29)).alloc (Obj.cells #[Value.string { data := #[] }, Value.bool false] 43)) := ⟨_, rfl⟩
  rw [← hw0]
  obtain ⟨gr, hgr⟩ : ∃ g, g = w.heap.size + 1 + 1 := ⟨_, rfl⟩
  obtain ⟨ga, hga⟩ : ∃ g, g = w.heap.size + 1 := ⟨_, rfl⟩
  have HS := Lib.hid (rs_start hw0 hga hgr)
  rw [← hgr, ← hga]
  have hgP : gr ≠ P := by have := HPL.out; omega
  have hle : w.heap.size ≤ gr := by omega
  have HGP := Lib.hid hgP
  have HGA : Hid (w.heap.size ≤ ga ∧ ga < gr) := Lib.hid ⟨by omega, by omega⟩
  clear hw0 hgr hga
  have c0 := HS.out.c0
  have c1 := HS.out.c1
  have a0 := HS.out.a0
  have a2 := HS.out.a2
  have f0 := free_blk HS.out.r 0
  have f1 := free_blk HS.out.r 1
  have d0 := HS.out.d0
  have d1 := HS.out.d1
  go_wp2_with fail
  refine (HP.out.V _).mono ?_
  rintro e w1 ⟨rfl, hb⟩
  have HS1 := Lib.hid (HS.out.keep hb)
  clear c0 c1 a0 a2 f0 f1 d0 d1 hb HS
  have c0 := HS1.out.c0
  have c1 := HS1.out.c1
  have a0 := HS1.out.a0
  have a2 := HS1.out.a2
  have f0 := free_blk HS1.out.r 0
  have f1 := free_blk HS1.out.r 1
  have d0 := HS1.out.d0
  have d1 := HS1.out.d1
  go_upto_region 13 with fail
  obtain ⟨w2, hw2⟩ : ∃ w2, w2 = w1.alloc (Obj.cells #[Value.string (bs s'), Value.bool bad'] 43) := ⟨_, rfl⟩
  rw [← hw2]
  obtain ⟨C, hC⟩ : ∃ C, C = w1.heap.size := ⟨_, rfl⟩
  have hCb : w2.heap[C]? = some (.cells #[.string (bs s'), .bool bad'] 43 (0, 0)) := by rw [hw2, hC]; exact alloc_blk _ _
  have hb2 : Below w1.heap.size w1 w2 := by rw [hw2]; go_grown
  have HS2 := Lib.hid (HS1.out.keep hb2)
  have HR2 : Hid (Rd w2 P s bad) := HR.out.step (S := fun _ => False) (Step.of_below HS2.out.b) (fun h => h)
  rw [← hC]
  have hCr : C ≠ gr := by have := lt_blk HS1.out.r; omega
  have hCP : C ≠ P := by have := HS1.out.b.size; have := HPL.out; omega
  have hgag : ga ≠ gr := by have h := HGA.out; omega
  have hgaP : ga ≠ P := by have h := HGA.out; have := HPL.out; omega
  have HCB := Lib.hid hCb
  clear c0 c1 a0 a2 f0 f1 d0 d1 hb2 hw2 hC HS1 hCb
  have c0 := HS2.out.c0
  have c1 := HS2.out.c1
  have a0 := HS2.out.a0
  have a2 := HS2.out.a2
  have f0 := free_blk HS2.out.r 0
  have f1 := free_blk HS2.out.r 1
  have d0 := HS2.out.d0
  have d1 := HS2.out.d1
  have q0 : w2.cell? ⟨C, 0, none⟩ = some (.string (bs s')) := by rw [cell_blk HCB.out]; rfl
  have q1 : w2.cell? ⟨C, 1, none⟩ = some (.bool bad') := by rw [cell_blk HCB.out]; rfl
  clear c0 c1 a0
  go_region_held3 (fun w' => w'.cell? ⟨C, 0, none⟩ = some (.string (bs s')) ∧ w'.cell? ⟨C, 1, none⟩ = some (.bool bad') ∧ w'.cell? ⟨ga, 2, none⟩ = some (.int .i64 wd))
    (first | exact ⟨by assumption, by assumption, by assumption⟩ | exact ⟨keep2 (by assumption) (by assumption), keep2 (by assumption) (by assumption), keep2 (by assumption) (by assumption)⟩ | exact ⟨keep2n (by assumption) (by assumption), keep2n (by assumption) (by assumption), keep2n (by assumption) (by assumption)⟩)
    ((go_at_call 27; refine (HP.out.R _ HR2.out.drew').mono ?_; rintro e w3 ⟨rfl, hr3, hs3⟩; have kC := (hs3.block C (lt_blk HCB.out) hCP).trans HCB.out; have kr := (hs3.block gr (lt_blk HS2.out.r) HGP.out).trans HS2.out.r; have ka := (hs3.block ga (lt_blk HS2.out.a) hgaP).trans HS2.out.a; have p0 := blk2_0 kC; have p1 := blk2_1 kC; have p2 := blk4_2 ka; have g0 := free_blk kr 0; have g1 := free_blk kr 1; have e0 := blk2_0 kr; have e1 := blk2_1 kr))
  all_goals
    have u0 := fin0 kr (.string (bs s'))
    have u1 := fin1 kr (.string (bs s')) (.bool bad')
    go_wp2_with fail
    refine bodyPost_ret (v := .tuple #[.agg #[.string (bs s'), .bool bad'], .bool true]) (by simp [results, Try.results22, go_sem, u0, u1]) rfl ?_
    exact ⟨rfl, hr3.step (S := (· = gr)) (((Step.refl (· = gr) _).setCell (p := ⟨gr, 0, none⟩) rfl _).setCell (p := ⟨gr, 1, none⟩) rfl _) (fun h => HGP.out h.symm),
      (((Step.of_below HS2.out.b).drew.trans (hs3.mono (fun k h => Or.inl h))).setCell (p := ⟨gr, 0, none⟩) (Or.inr hle) _).setCell (p := ⟨gr, 1, none⟩) (Or.inr hle) _⟩

set_option maxHeartbeats 4000000 in
set_option maxRecDepth 100000 in
theorem reads_4 {P : Nat} {s t s' : List UInt8} {bad bad' : Bool} {n : Nat} {wd : Int} {x : List UInt8} (hp : Pair1 40 41 P wd s bad s' bad' (.string (bs x))) (w : World) (h : Rd w P s bad) :
    Calls Try.prog 22 #[.pointer (some ⟨P, 0, none⟩), .agg #[.string (bs s), .bool bad], .agg #[.int .i64 4, .int .u64 n, .int .i64 wd, .string (bs t)]] w fun e w' => e = .returned (.tuple #[.agg #[.string (bs s'), .bool bad'], .bool true]) ∧ Rd w' P s' bad' ∧ Step (fun k => k = P ∨ w.heap.size ≤ k) w w' := by
  have HR := Lib.hid h
  have HP := Lib.hid hp
  have HPL := Lib.hid h.lt
  clear h hp
  go_enter Try.func22, Try.ntmps22
  go_upto_region 1 with fail
  obtain ⟨w0, hw0⟩ : ∃ w0, w0 = (((w.alloc (Obj.cells #[Value.string (bs s), Value.bool bad] 43)).alloc (Obj.cells #[Value.int .i64 4, Value.int .u64 n, Value.int .i64 wd, Value.string (bs t)] 29)).alloc (Obj.cells #[Value.string { data := #[] }, Value.bool false] 43)) := ⟨_, rfl⟩
  rw [← hw0]
  obtain ⟨gr, hgr⟩ : ∃ g, g = w.heap.size + 1 + 1 := ⟨_, rfl⟩
  obtain ⟨ga, hga⟩ : ∃ g, g = w.heap.size + 1 := ⟨_, rfl⟩
  have HS := Lib.hid (rs_start hw0 hga hgr)
  rw [← hgr, ← hga]
  have hgP : gr ≠ P := by have := HPL.out; omega
  have hle : w.heap.size ≤ gr := by omega
  have HGP := Lib.hid hgP
  have HGA : Hid (w.heap.size ≤ ga ∧ ga < gr) := Lib.hid ⟨by omega, by omega⟩
  clear hw0 hgr hga
  have c0 := HS.out.c0
  have c1 := HS.out.c1
  have a0 := HS.out.a0
  have a2 := HS.out.a2
  have f0 := free_blk HS.out.r 0
  have f1 := free_blk HS.out.r 1
  have d0 := HS.out.d0
  have d1 := HS.out.d1
  go_wp2_with fail
  refine (HP.out.V _).mono ?_
  rintro e w1 ⟨rfl, hb⟩
  have HS1 := Lib.hid (HS.out.keep hb)
  clear c0 c1 a0 a2 f0 f1 d0 d1 hb HS
  have c0 := HS1.out.c0
  have c1 := HS1.out.c1
  have a0 := HS1.out.a0
  have a2 := HS1.out.a2
  have f0 := free_blk HS1.out.r 0
  have f1 := free_blk HS1.out.r 1
  have d0 := HS1.out.d0
  have d1 := HS1.out.d1
  go_upto_region 16 with fail
  obtain ⟨w2, hw2⟩ : ∃ w2, w2 = w1.alloc (Obj.cells #[Value.string (bs s'), Value.bool bad'] 43) := ⟨_, rfl⟩
  rw [← hw2]
  obtain ⟨C, hC⟩ : ∃ C, C = w1.heap.size := ⟨_, rfl⟩
  have hCb : w2.heap[C]? = some (.cells #[.string (bs s'), .bool bad'] 43 (0, 0)) := by rw [hw2, hC]; exact alloc_blk _ _
  have hb2 : Below w1.heap.size w1 w2 := by rw [hw2]; go_grown
  have HS2 := Lib.hid (HS1.out.keep hb2)
  have HR2 : Hid (Rd w2 P s bad) := HR.out.step (S := fun _ => False) (Step.of_below HS2.out.b) (fun h => h)
  rw [← hC]
  have hCr : C ≠ gr := by have := lt_blk HS1.out.r; omega
  have hCP : C ≠ P := by have := HS1.out.b.size; have := HPL.out; omega
  have hgag : ga ≠ gr := by have h := HGA.out; omega
  have hgaP : ga ≠ P := by have h := HGA.out; have := HPL.out; omega
  have HCB := Lib.hid hCb
  clear c0 c1 a0 a2 f0 f1 d0 d1 hb2 hw2 hC HS1 hCb
  have c0 := HS2.out.c0
  have c1 := HS2.out.c1
  have a0 := HS2.out.a0
  have a2 := HS2.out.a2
  have f0 := free_blk HS2.out.r 0
  have f1 := free_blk HS2.out.r 1
  have d0 := HS2.out.d0
  have d1 := HS2.out.d1
  have q0 : w2.cell? ⟨C, 0, none⟩ = some (.string (bs s')) := by rw [cell_blk HCB.out]; rfl
  have q1 : w2.cell? ⟨C, 1, none⟩ = some (.bool bad') := by rw [cell_blk HCB.out]; rfl
  clear c0 c1 a0
  go_region_held3 (fun w' => w'.cell? ⟨C, 0, none⟩ = some (.string (bs s')) ∧ w'.cell? ⟨C, 1, none⟩ = some (.bool bad') ∧ w'.cell? ⟨ga, 2, none⟩ = some (.int .i64 wd))
    (first | exact ⟨by assumption, by assumption, by assumption⟩ | exact ⟨keep2 (by assumption) (by assumption), keep2 (by assumption) (by assumption), keep2 (by assumption) (by assumption)⟩ | exact ⟨keep2n (by assumption) (by assumption), keep2n (by assumption) (by assumption), keep2n (by assumption) (by assumption)⟩)
    ((go_at_call 41; refine (HP.out.R _ HR2.out.drew').mono ?_; rintro e w3 ⟨rfl, hr3, hs3⟩; have kC := (hs3.block C (lt_blk HCB.out) hCP).trans HCB.out; have kr := (hs3.block gr (lt_blk HS2.out.r) HGP.out).trans HS2.out.r; have ka := (hs3.block ga (lt_blk HS2.out.a) hgaP).trans HS2.out.a; have p0 := blk2_0 kC; have p1 := blk2_1 kC; have p2 := blk4_2 ka; have g0 := free_blk kr 0; have g1 := free_blk kr 1; have e0 := blk2_0 kr; have e1 := blk2_1 kr))
  all_goals
    have u0 := fin0 kr (.string (bs s'))
    have u1 := fin1 kr (.string (bs s')) (.bool bad')
    go_wp2_with fail
    refine bodyPost_ret (v := .tuple #[.agg #[.string (bs s'), .bool bad'], .bool true]) (by simp [results, Try.results22, go_sem, u0, u1]) rfl ?_
    exact ⟨rfl, hr3.step (S := (· = gr)) (((Step.refl (· = gr) _).setCell (p := ⟨gr, 0, none⟩) rfl _).setCell (p := ⟨gr, 1, none⟩) rfl _) (fun h => HGP.out h.symm),
      (((Step.of_below HS2.out.b).drew.trans (hs3.mono (fun k h => Or.inl h))).setCell (p := ⟨gr, 0, none⟩) (Or.inr hle) _).setCell (p := ⟨gr, 1, none⟩) (Or.inr hle) _⟩

set_option maxHeartbeats 4000000 in
set_option maxRecDepth 100000 in
theorem reads_other {P : Nat} {s t : List UInt8} {bad : Bool} {n : Nat} {wd kk : Int} (h0 : kk ≠ 0) (h1 : kk ≠ 1) (h2 : kk ≠ 2) (h3 : kk ≠ 3) (h4 : kk ≠ 4) (w : World) (h : Rd w P s bad) :
    Calls Try.prog 22 #[.pointer (some ⟨P, 0, none⟩), .agg #[.string (bs s), .bool bad], .agg #[.int .i64 kk, .int .u64 n, .int .i64 wd, .string (bs t)]] w fun e w' => e = .returned (.tuple #[.agg #[.string (bs s), .bool bad], .bool true]) ∧ Rd w' P s bad ∧ Step (fun k => k = P ∨ w.heap.size ≤ k) w w' := by
  have HR := Lib.hid h
  have HPL := Lib.hid h.lt
  have t0 : (kk == 0) = false := by simp; omega
  have t1 : (kk == 1) = false := by simp; omega
  have t2 : (kk == 2) = false := by simp; omega
  have t3 : (kk == 3) = false := by simp; omega
  have t4 : (kk == 4) = false := by simp; omega
  clear h h0 h1 h2 h3 h4
  go_enter Try.func22, Try.ntmps22
  go_upto_region 1 with fail
  obtain ⟨w0, hw0⟩ : ∃ w0, w0 = (((w.alloc (Obj.cells #[Value.string (bs s), Value.bool bad] 43)).alloc (Obj.cells #[Value.int .i64 kk, Value.int .u64 n, Value.int .i64 wd, Value.string (bs t)] 29)).alloc (Obj.cells #[Value.string { data := #[] }, Value.bool false] 43)) := ⟨_, rfl⟩
  rw [← hw0]
  obtain ⟨gr, hgr⟩ : ∃ g, g = w.heap.size + 1 + 1 := ⟨_, rfl⟩
  obtain ⟨ga, hga⟩ : ∃ g, g = w.heap.size + 1 := ⟨_, rfl⟩
  have HS := Lib.hid (rs_start hw0 hga hgr)
  rw [← hgr, ← hga]
  have hgP : gr ≠ P := by have := HPL.out; omega
  have hle : w.heap.size ≤ gr := by omega
  have HGP := Lib.hid hgP
  clear hw0 hgr hga
  have c0 := HS.out.c0
  have c1 := HS.out.c1
  have a0 := HS.out.a0
  have a2 := HS.out.a2
  have f0 := free_blk HS.out.r 0
  have f1 := free_blk HS.out.r 1
  have d0 := HS.out.d0
  have d1 := HS.out.d1
  go_wp2_with fail
  have u0 := fin0 HS.out.r (.string (bs s))
  have u1 := fin1 HS.out.r (.string (bs s)) (.bool bad)
  have HR2 : Hid (Rd w0 P s bad) := HR.out.step (S := fun _ => False) (Step.of_below HS.out.b) (fun h => h)
  refine bodyPost_ret (v := .tuple #[.agg #[.string (bs s), .bool bad], .bool true]) (by simp [results, Try.results22, go_sem, u0, u1]) rfl ?_
  exact ⟨rfl, HR2.out.step (S := (· = gr)) (((Step.refl (· = gr) _).setCell (p := ⟨gr, 0, none⟩) rfl _).setCell (p := ⟨gr, 1, none⟩) rfl _) (fun h => HGP.out h.symm),
    ((Step.of_below HS.out.b).setCell (p := ⟨gr, 0, none⟩) (Or.inr hle) _).setCell (p := ⟨gr, 1, none⟩) (Or.inr hle) _⟩

/-- reads, of any act: both readers answer alike, and are left alike. -/
theorem reads_any (P : Nat) {s : List UInt8} {bad : Bool} (hb : bad = true → s = []) (hs : s.length ≤ 140737488355328) (kk : Int) (n : Nat) (wd : Int) (t : List UInt8) (hw : wd ≤ 9223372036854775807) :
    ∃ (s' : List UInt8) (bad' : Bool), (bad' = true → s' = []) ∧ s'.length ≤ s.length ∧ ∀ w : World, Rd w P s bad →
      Calls Try.prog 22 #[.pointer (some ⟨P, 0, none⟩), .agg #[.string (bs s), .bool bad], .agg #[.int .i64 kk, .int .u64 n, .int .i64 wd, .string (bs t)]] w fun e w' => e = .returned (.tuple #[.agg #[.string (bs s'), .bool bad'], .bool true]) ∧ Rd w' P s' bad' ∧ Step (fun k => k = P ∨ w.heap.size ≤ k) w w' := by
  by_cases h0 : kk = 0
  · subst h0; obtain ⟨s', bad', x, hp⟩ := pair_uint P hb hs; exact ⟨s', bad', hp.e, hp.l, fun w h => reads_0 hp w h⟩
  by_cases h1 : kk = 1
  · subst h1; obtain ⟨s', bad', x, hp⟩ := pair_int P hb hs; exact ⟨s', bad', hp.e, hp.l, fun w h => reads_1 hp w h⟩
  by_cases h2 : kk = 2
  · subst h2; obtain ⟨s', bad', x, hp⟩ := pair_fixed P wd hb hs; exact ⟨s', bad', hp.e, hp.l, fun w h => reads_2 hp w h⟩
  by_cases h3 : kk = 3
  · subst h3; obtain ⟨s', bad', x, hp⟩ := pair_text P wd hw hb hs; exact ⟨s', bad', hp.e, hp.l, fun w h => reads_3 hp w h⟩
  by_cases h4 : kk = 4
  · subst h4; obtain ⟨s', bad', x, hp⟩ := pair_raw P wd hb hs; exact ⟨s', bad', hp.e, hp.l, fun w h => reads_4 hp w h⟩
  exact ⟨s, bad, hb, Nat.le_refl _, fun w h => reads_other h0 h1 h2 h3 h4 w h⟩

end Go.Proofs.Ytkoajibjlcnjgaa
