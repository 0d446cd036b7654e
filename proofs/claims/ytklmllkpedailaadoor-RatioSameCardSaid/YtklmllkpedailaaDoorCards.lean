/-
  DERIVED. GIVEN WITH THE SEED: THE CARDS: each row of YtklmllkpedailaaDoorRows.lean that lists a variable, with what it lists TIED to the program's text (the seventh form; the later family's looks); each row that meets fmt, with fmt's text TOLD by the authors' own Lean function (tested against real Go, not proved from fmt's source: count such statements apart). THE CARD IS WHAT COUNTS. Prove the row's statement (the work); the ties are given (YtklmllkpedailaaDoorTie.lean); close each card by the builder's one call (the guide's Derived/Test/ToyasCard.lean, 'card_holds'). Laid BY PROGRAM, IN A SANDBOX (cutbox-door.mjs). By AI agents, Wed Nov 11 2026. No macro, syntax, notation, axiom, sorry.
-/
import Derived.Test.YtklmllkpedailaaDoorRows
import GoSem.ClaimSeven
namespace Go.Proofs.YtklmllkpedailaaDoor
namespace Rows

/-- THE TIED CARD OF 'plimsolllaw01.WideTells'. -/
def wideTellsCard : Claim7 := { stood := { row := wideTellsRow, standIns := [], harness := (true, "2f519e9b8c25abe59a94292bc31178694e67e1ec9e748aae46b3f97c8b9d6fba"), looks := false }, kinds := [], alts := [], laidByText := true, laidKinds := [.data, .data, .data], laidTests := true, laidLooks := .later }
def WideTellsCardSaid : Prop := Claim7.holds Tryd.pinned (.plain (OpenSpec.ofChange wideTellsSpec)) wideTellsCard

/-- THE TIED CARD OF 'plimsolllaw01.WideTexts'. -/
def wideTextsCard : Claim7 := { stood := { row := wideTextsRow, standIns := [], harness := (true, "2f519e9b8c25abe59a94292bc31178694e67e1ec9e748aae46b3f97c8b9d6fba"), looks := false }, kinds := [], alts := [], laidByText := true, laidKinds := [.data, .data, .data], laidTests := true, laidLooks := .later }
def WideTextsCardSaid : Prop := Claim7.holds Tryd.pinned (.plain (OpenSpec.ofChange wideTextsSpec)) wideTextsCard

/-- THE TIED CARD OF 'plimsolllaw01.WideBack'. -/
def wideBackCard : Claim7 := { stood := { row := wideBackRow, standIns := [], harness := (true, "2f519e9b8c25abe59a94292bc31178694e67e1ec9e748aae46b3f97c8b9d6fba"), looks := false }, kinds := [], alts := [], laidByText := true, laidKinds := [.data, .data, .data], laidTests := true, laidLooks := .later }
def WideBackCardSaid : Prop := Claim7.holds Tryd.pinned (.plain (OpenSpec.ofChange wideBackSpec)) wideBackCard

/-- THE TIED CARD OF 'plimsolllaw01.WideOrder'. -/
def wideOrderCard : Claim7 := { stood := { row := wideOrderRow, standIns := [], harness := (true, "2f519e9b8c25abe59a94292bc31178694e67e1ec9e748aae46b3f97c8b9d6fba"), looks := false }, kinds := [], alts := [], laidByText := true, laidKinds := [.data, .data, .data], laidTests := true, laidLooks := .later }
def WideOrderCardSaid : Prop := Claim7.holds Tryd.pinned (.plain (OpenSpec.ofChange wideOrderSpec)) wideOrderCard

/-- THE TIED CARD OF 'plimsolllaw02.RatioTells'. -/
def ratioTellsCard : Claim7 := { stood := { row := ratioTellsRow, standIns := [], harness := (true, "2f519e9b8c25abe59a94292bc31178694e67e1ec9e748aae46b3f97c8b9d6fba"), looks := false }, kinds := [], alts := [], laidByText := true, laidKinds := [.data, .data, .data, .data], laidTests := true, laidLooks := .later }
def RatioTellsCardSaid : Prop := Claim7.holds Tryd.pinned (.plain (OpenSpec.ofChange ratioTellsSpec)) ratioTellsCard

/-- THE TIED CARD OF 'plimsolllaw02.RatioLess'. -/
def ratioLessCard : Claim7 := { stood := { row := ratioLessRow, standIns := [], harness := (true, "2f519e9b8c25abe59a94292bc31178694e67e1ec9e748aae46b3f97c8b9d6fba"), looks := false }, kinds := [], alts := [], laidByText := true, laidKinds := [.data, .data, .data, .data], laidTests := true, laidLooks := .later }
def RatioLessCardSaid : Prop := Claim7.holds Tryd.pinned (.plain (OpenSpec.ofChange ratioLessSpec)) ratioLessCard

/-- THE TIED CARD OF 'plimsolllaw02.RatioSame'. -/
def ratioSameCard : Claim7 := { stood := { row := ratioSameRow, standIns := [], harness := (true, "2f519e9b8c25abe59a94292bc31178694e67e1ec9e748aae46b3f97c8b9d6fba"), looks := false }, kinds := [], alts := [], laidByText := true, laidKinds := [.data, .data, .data], laidTests := true, laidLooks := .later }
def RatioSameCardSaid : Prop := Claim7.holds Tryd.pinned (.plain (OpenSpec.ofChange ratioSameSpec)) ratioSameCard

/-- THE TIED CARD OF 'plimsolllaw02.RatioOrder'. -/
def ratioOrderCard : Claim7 := { stood := { row := ratioOrderRow, standIns := [], harness := (true, "2f519e9b8c25abe59a94292bc31178694e67e1ec9e748aae46b3f97c8b9d6fba"), looks := false }, kinds := [], alts := [], laidByText := true, laidKinds := [.data, .data, .data], laidTests := true, laidLooks := .later }
def RatioOrderCardSaid : Prop := Claim7.holds Tryd.pinned (.plain (OpenSpec.ofChange ratioOrderSpec)) ratioOrderCard

/-- THE TIED CARD OF 'plimsolltop.TopDigits'. -/
def topDigitsCard : Claim7 := { stood := { row := topDigitsRow, standIns := [], harness := (true, "2f519e9b8c25abe59a94292bc31178694e67e1ec9e748aae46b3f97c8b9d6fba"), looks := false }, kinds := [], alts := [], laidByText := true, laidKinds := [.data, .data, .data], laidTests := true, laidLooks := .later }
def TopDigitsCardSaid : Prop := Claim7.holds Tryd.pinned (.plain (OpenSpec.ofChange topDigitsSpec)) topDigitsCard

/-- THE TIED CARD OF 'plimsolltop.TopBetween'. -/
def topBetweenCard : Claim7 := { stood := { row := topBetweenRow, standIns := [], harness := (true, "2f519e9b8c25abe59a94292bc31178694e67e1ec9e748aae46b3f97c8b9d6fba"), looks := false }, kinds := [], alts := [], laidByText := true, laidKinds := [.data, .data, .data], laidTests := true, laidLooks := .later }
def TopBetweenCardSaid : Prop := Claim7.holds Tryd.pinned (.plain (OpenSpec.ofChange topBetweenSpec)) topBetweenCard

/-- THE SECOND FORM's CARD OF 'plimsolllaw01.WideTells'. -/
def wideTellsUptoCard : Claim7 := { stood := { row := wideTellsUptoRow, standIns := [], harness := (true, "2f519e9b8c25abe59a94292bc31178694e67e1ec9e748aae46b3f97c8b9d6fba"), looks := false }, kinds := [], alts := [], laidByText := true, laidKinds := [.data, .data, .data], laidTests := true, laidLooks := .later }
def WideTellsUptoCardSaid : Prop := Claim7.holds Tryd.pinned (.plain (OpenSpec.upto wideTellsSpec)) wideTellsUptoCard

/-- THE SECOND FORM's CARD OF 'plimsolllaw01.WideTexts'. -/
def wideTextsUptoCard : Claim7 := { stood := { row := wideTextsUptoRow, standIns := [], harness := (true, "2f519e9b8c25abe59a94292bc31178694e67e1ec9e748aae46b3f97c8b9d6fba"), looks := false }, kinds := [], alts := [], laidByText := true, laidKinds := [.data, .data, .data], laidTests := true, laidLooks := .later }
def WideTextsUptoCardSaid : Prop := Claim7.holds Tryd.pinned (.plain (OpenSpec.upto wideTextsSpec)) wideTextsUptoCard

/-- THE SECOND FORM's CARD OF 'plimsolllaw01.WideBack'. -/
def wideBackUptoCard : Claim7 := { stood := { row := wideBackUptoRow, standIns := [], harness := (true, "2f519e9b8c25abe59a94292bc31178694e67e1ec9e748aae46b3f97c8b9d6fba"), looks := false }, kinds := [], alts := [], laidByText := true, laidKinds := [.data, .data, .data], laidTests := true, laidLooks := .later }
def WideBackUptoCardSaid : Prop := Claim7.holds Tryd.pinned (.plain (OpenSpec.upto wideBackSpec)) wideBackUptoCard

/-- THE SECOND FORM's CARD OF 'plimsolllaw01.WideOrder'. -/
def wideOrderUptoCard : Claim7 := { stood := { row := wideOrderUptoRow, standIns := [], harness := (true, "2f519e9b8c25abe59a94292bc31178694e67e1ec9e748aae46b3f97c8b9d6fba"), looks := false }, kinds := [], alts := [], laidByText := true, laidKinds := [.data, .data, .data], laidTests := true, laidLooks := .later }
def WideOrderUptoCardSaid : Prop := Claim7.holds Tryd.pinned (.plain (OpenSpec.upto wideOrderSpec)) wideOrderUptoCard

/-- THE SECOND FORM's CARD OF 'plimsolllaw02.RatioTells'. -/
def ratioTellsUptoCard : Claim7 := { stood := { row := ratioTellsUptoRow, standIns := [], harness := (true, "2f519e9b8c25abe59a94292bc31178694e67e1ec9e748aae46b3f97c8b9d6fba"), looks := false }, kinds := [], alts := [], laidByText := true, laidKinds := [.data, .data, .data, .data], laidTests := true, laidLooks := .later }
def RatioTellsUptoCardSaid : Prop := Claim7.holds Tryd.pinned (.plain (OpenSpec.upto ratioTellsSpec)) ratioTellsUptoCard

/-- THE SECOND FORM's CARD OF 'plimsolllaw02.RatioLess'. -/
def ratioLessUptoCard : Claim7 := { stood := { row := ratioLessUptoRow, standIns := [], harness := (true, "2f519e9b8c25abe59a94292bc31178694e67e1ec9e748aae46b3f97c8b9d6fba"), looks := false }, kinds := [], alts := [], laidByText := true, laidKinds := [.data, .data, .data, .data], laidTests := true, laidLooks := .later }
def RatioLessUptoCardSaid : Prop := Claim7.holds Tryd.pinned (.plain (OpenSpec.upto ratioLessSpec)) ratioLessUptoCard

/-- THE SECOND FORM's CARD OF 'plimsolllaw02.RatioSame'. -/
def ratioSameUptoCard : Claim7 := { stood := { row := ratioSameUptoRow, standIns := [], harness := (true, "2f519e9b8c25abe59a94292bc31178694e67e1ec9e748aae46b3f97c8b9d6fba"), looks := false }, kinds := [], alts := [], laidByText := true, laidKinds := [.data, .data, .data], laidTests := true, laidLooks := .later }
def RatioSameUptoCardSaid : Prop := Claim7.holds Tryd.pinned (.plain (OpenSpec.upto ratioSameSpec)) ratioSameUptoCard

/-- THE SECOND FORM's CARD OF 'plimsolllaw02.RatioOrder'. -/
def ratioOrderUptoCard : Claim7 := { stood := { row := ratioOrderUptoRow, standIns := [], harness := (true, "2f519e9b8c25abe59a94292bc31178694e67e1ec9e748aae46b3f97c8b9d6fba"), looks := false }, kinds := [], alts := [], laidByText := true, laidKinds := [.data, .data, .data], laidTests := true, laidLooks := .later }
def RatioOrderUptoCardSaid : Prop := Claim7.holds Tryd.pinned (.plain (OpenSpec.upto ratioOrderSpec)) ratioOrderUptoCard

/-- THE SECOND FORM's CARD OF 'plimsolltop.TopDigits'. -/
def topDigitsUptoCard : Claim7 := { stood := { row := topDigitsUptoRow, standIns := [], harness := (true, "2f519e9b8c25abe59a94292bc31178694e67e1ec9e748aae46b3f97c8b9d6fba"), looks := false }, kinds := [], alts := [], laidByText := true, laidKinds := [.data, .data, .data], laidTests := true, laidLooks := .later }
def TopDigitsUptoCardSaid : Prop := Claim7.holds Tryd.pinned (.plain (OpenSpec.upto topDigitsSpec)) topDigitsUptoCard

/-- THE SECOND FORM's CARD OF 'plimsolltop.TopBetween'. -/
def topBetweenUptoCard : Claim7 := { stood := { row := topBetweenUptoRow, standIns := [], harness := (true, "2f519e9b8c25abe59a94292bc31178694e67e1ec9e748aae46b3f97c8b9d6fba"), looks := false }, kinds := [], alts := [], laidByText := true, laidKinds := [.data, .data, .data], laidTests := true, laidLooks := .later }
def TopBetweenUptoCardSaid : Prop := Claim7.holds Tryd.pinned (.plain (OpenSpec.upto topBetweenSpec)) topBetweenUptoCard
end Rows
end Go.Proofs.YtklmllkpedailaaDoor
