/-
  No cell of these rows narrows 'for every input' (looked for: loops, veiled, ifaces, maps, wideKeys, modest, calm, conditions, laid).
  DERIVED. THE GIVEN ROWS OF THIS SEAT. 4 by the template 'for every input the law returns true; each argument reads behind the call as it read before'; 0 by the template 'total and deterministic' (their statements: YtohkioakipjanaaTotals.lean).
  GIVEN WITH THE SEED: the statements are not yours to turn. If you find one false, say at which input.
  Laid BY PROGRAM, IN A SANDBOX (cutbox-rows.mjs): the forced cells as the released guide's own fill.sh prints them over the translation cd4c529ea2f6b4dc… (all of the seat's roots in one cut). By AI agents, Wed Nov 11 2026. No macro, syntax, notation, axiom, sorry.
-/
import Derived.Test.YtohkioakipjanaaChecked
import GoSem.Claim
import GoSem.ClaimJoined
import GoSem.ClaimMapViews
import Derived.JoinedTies
import Derived.KernelRfl
namespace Go.Proofs.Ytohkioakipjanaa
/- THE CELL 'sum', in the pinned program and in every row, IS THE sha256 OF THE DUMP (.gsa) THAT YtohkioakipjanaaProg.lean LOADS. Nothing in Lean hashes anything: it is a label: what it is worth is what the hold of that sum in a sandbox is worth. -/
noncomputable def Try.pinned : Pinned := { name := "ytohkioakipjanaa", sum := "cd4c529ea2f6b4dc9fae788887d54cd7fa64768ed5116ffbb3a006a7a4ad3d8a", checked := Try.checked }
namespace Rows
def none {H : Type} : Left H := { results := [], args := [] }

/-- 'plimsolllaw12.RawTells': WHATEVER THE INPUT: true; the input reads as it did. -/
def rawTellsSpec : ChangeSpec := { name := "rawTells", fn := fun _ => fun
  | [d1, d2, d3, d4, d5, d6] => { results := [.lit (.bool true)], args := [d1, d2, d3, d4, d5, d6] }
  | _ => none }
def rawTellsRow : OpenClaim := { program := "ytohkioakipjanaa", sum := "cd4c529ea2f6b4dc9fae788887d54cd7fa64768ed5116ffbb3a006a7a4ad3d8a", func := "plimsoll/plimsolllaw12.RawTells", spec := "rawTells", unfollowed := true, recurses := true, apart := false }
def RawTellsSaid : Prop := rawTellsRow.holds Try.pinned (OpenSpec.ofChange rawTellsSpec)

/-- ITS FALSE NEIGHBOUR: 'it returns false'. Refute it at one input. -/
def rawTellsWrong : ChangeSpec := { name := "rawTells", fn := fun _ => fun
  | [d1, d2, d3, d4, d5, d6] => { results := [.lit (.bool false)], args := [d1, d2, d3, d4, d5, d6] }
  | _ => none }
def RawTellsWrongFalsely : Prop := rawTellsRow.holds Try.pinned (OpenSpec.ofChange rawTellsWrong)

/-- 'plimsolllaw12.RawAll': WHATEVER THE INPUT: true; the input reads as it did. -/
def rawAllSpec : ChangeSpec := { name := "rawAll", fn := fun _ => fun
  | [d1, d2, d3, d4, d5, d6] => { results := [.lit (.bool true)], args := [d1, d2, d3, d4, d5, d6] }
  | _ => none }
def rawAllRow : OpenClaim := { program := "ytohkioakipjanaa", sum := "cd4c529ea2f6b4dc9fae788887d54cd7fa64768ed5116ffbb3a006a7a4ad3d8a", func := "plimsoll/plimsolllaw12.RawAll", spec := "rawAll", unfollowed := true, recurses := true, apart := false }
def RawAllSaid : Prop := rawAllRow.holds Try.pinned (OpenSpec.ofChange rawAllSpec)

/-- ITS FALSE NEIGHBOUR: 'it returns false'. Refute it at one input. -/
def rawAllWrong : ChangeSpec := { name := "rawAll", fn := fun _ => fun
  | [d1, d2, d3, d4, d5, d6] => { results := [.lit (.bool false)], args := [d1, d2, d3, d4, d5, d6] }
  | _ => none }
def RawAllWrongFalsely : Prop := rawAllRow.holds Try.pinned (OpenSpec.ofChange rawAllWrong)

/-- 'plimsolltop.TopRing': WHATEVER THE INPUT: true; the input reads as it did. -/
def topRingSpec : ChangeSpec := { name := "topRing", fn := fun _ => fun
  | [d1, d2] => { results := [.lit (.bool true)], args := [d1, d2] }
  | _ => none }
def topRingRow : OpenClaim := { program := "ytohkioakipjanaa", sum := "cd4c529ea2f6b4dc9fae788887d54cd7fa64768ed5116ffbb3a006a7a4ad3d8a", func := "plimsoll/plimsolltop.TopRing", spec := "topRing", apart := false }
def TopRingSaid : Prop := topRingRow.holds Try.pinned (OpenSpec.ofChange topRingSpec)

/-- ITS FALSE NEIGHBOUR: 'it returns false'. Refute it at one input. -/
def topRingWrong : ChangeSpec := { name := "topRing", fn := fun _ => fun
  | [d1, d2] => { results := [.lit (.bool false)], args := [d1, d2] }
  | _ => none }
def TopRingWrongFalsely : Prop := topRingRow.holds Try.pinned (OpenSpec.ofChange topRingWrong)

/-- 'plimsolltop.TopJoined': WHATEVER THE INPUT: true; the input reads as it did. -/
def topJoinedSpec : ChangeSpec := { name := "topJoined", fn := fun _ => fun
  | [d1, d2, d3, d4] => { results := [.lit (.bool true)], args := [d1, d2, d3, d4] }
  | _ => none }
def topJoinedRow : OpenClaim := { program := "ytohkioakipjanaa", sum := "cd4c529ea2f6b4dc9fae788887d54cd7fa64768ed5116ffbb3a006a7a4ad3d8a", func := "plimsoll/plimsolltop.TopJoined", spec := "topJoined", unfollowed := true, recurses := true, apart := false }
def TopJoinedSaid : Prop := topJoinedRow.holds Try.pinned (OpenSpec.ofChange topJoinedSpec)

/-- ITS FALSE NEIGHBOUR: 'it returns false'. Refute it at one input. -/
def topJoinedWrong : ChangeSpec := { name := "topJoined", fn := fun _ => fun
  | [d1, d2, d3, d4] => { results := [.lit (.bool false)], args := [d1, d2, d3, d4] }
  | _ => none }
def TopJoinedWrongFalsely : Prop := topJoinedRow.holds Try.pinned (OpenSpec.ofChange topJoinedWrong)

/- THE SECOND FORM. 'bulk': how many values and letters a reading holds, each counted each time it is reached (what is shared counts as often as it is met; a slice's spare places count too). A statement '..UptoSaid' is the law's where the arguments, and the package variables that the reading takes, are together of bulk at most 1048576: NARROWER than '..Said'. Prove '..Said' where nothing that the law and all that it calls make is longer than what came in: it says more and counts as full. Else prove '..UptoSaid'. A law counts once. -/
mutual
def uptoBulk {H : Type} : DataW H → Nat
  | .lit (.string bytes) => bytes.length + 1
  | .lit _ => 1
  | .nil => 1
  | .ptr d => uptoBulk d + 1
  | .slice elems spare => uptoBulkAll elems + uptoBulkAll spare + 1
  | .agg parts => uptoBulkAll parts + 1
  | .iface _ d => uptoBulk d + 1
  | .map entries => uptoBulkEntries entries + 1
  | .held _ => 1
def uptoBulkAll {H : Type} : List (DataW H) → Nat
  | [] => 0
  | d :: r => uptoBulk d + uptoBulkAll r
def uptoBulkEntries {H : Type} : List (Lit × DataW H) → Nat
  | [] => 0
  | x :: r => uptoBulkEntry x + uptoBulkEntries r
def uptoBulkEntry {H : Type} : Lit × DataW H → Nat
  | (.string bytes, d) => bytes.length + uptoBulk d + 1
  | (_, d) => uptoBulk d + 1
 end
def uptoSmall : (H : Type) → List (DataW H) → Bool := fun _ ds => decide (uptoBulkAll ds ≤ 1048576)
def OpenSpec.upto (s : _root_.Go.ChangeSpec) : _root_.Go.OpenSpec := { _root_.Go.OpenSpec.ofChange s with cond := some uptoSmall }

/-- 'plimsolllaw12.RawTells', WHERE WHAT IT READS IS OF BULK AT MOST 1048576: true; the input reads as it did. -/
def rawTellsUptoRow : OpenClaim := { program := "ytohkioakipjanaa", sum := "cd4c529ea2f6b4dc9fae788887d54cd7fa64768ed5116ffbb3a006a7a4ad3d8a", func := "plimsoll/plimsolllaw12.RawTells", spec := "rawTells", unfollowed := true, recurses := true, apart := false, narrowed := true }
def RawTellsUptoSaid : Prop := rawTellsUptoRow.holds Try.pinned (OpenSpec.upto rawTellsSpec)

/-- 'plimsolllaw12.RawAll', WHERE WHAT IT READS IS OF BULK AT MOST 1048576: true; the input reads as it did. -/
def rawAllUptoRow : OpenClaim := { program := "ytohkioakipjanaa", sum := "cd4c529ea2f6b4dc9fae788887d54cd7fa64768ed5116ffbb3a006a7a4ad3d8a", func := "plimsoll/plimsolllaw12.RawAll", spec := "rawAll", unfollowed := true, recurses := true, apart := false, narrowed := true }
def RawAllUptoSaid : Prop := rawAllUptoRow.holds Try.pinned (OpenSpec.upto rawAllSpec)

/-- 'plimsolltop.TopRing', WHERE WHAT IT READS IS OF BULK AT MOST 1048576: true; the input reads as it did. -/
def topRingUptoRow : OpenClaim := { program := "ytohkioakipjanaa", sum := "cd4c529ea2f6b4dc9fae788887d54cd7fa64768ed5116ffbb3a006a7a4ad3d8a", func := "plimsoll/plimsolltop.TopRing", spec := "topRing", apart := false, narrowed := true }
def TopRingUptoSaid : Prop := topRingUptoRow.holds Try.pinned (OpenSpec.upto topRingSpec)

/-- 'plimsolltop.TopJoined', WHERE WHAT IT READS IS OF BULK AT MOST 1048576: true; the input reads as it did. -/
def topJoinedUptoRow : OpenClaim := { program := "ytohkioakipjanaa", sum := "cd4c529ea2f6b4dc9fae788887d54cd7fa64768ed5116ffbb3a006a7a4ad3d8a", func := "plimsoll/plimsolltop.TopJoined", spec := "topJoined", unfollowed := true, recurses := true, apart := false, narrowed := true }
def TopJoinedUptoSaid : Prop := topJoinedUptoRow.holds Try.pinned (OpenSpec.upto topJoinedSpec)

end Rows
end Go.Proofs.Ytohkioakipjanaa
