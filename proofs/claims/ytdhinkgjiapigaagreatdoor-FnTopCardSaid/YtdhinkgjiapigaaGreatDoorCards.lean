/-
  DERIVED. GIVEN WITH THE SEED: THE CARDS: each row of YtdhinkgjiapigaaGreatDoorRows.lean that lists a variable, with what it lists TIED to the program's text (the seventh form; the later family's looks); each row that meets fmt, with fmt's text TOLD by the authors' own Lean function (tested against real Go, not proved from fmt's source: count such statements apart). THE CARD IS WHAT COUNTS. Prove the row's statement (the work); the ties are given (YtdhinkgjiapigaaGreatDoorTie.lean); close each card by the builder's one call (the guide's Derived/Test/ToyasCard.lean, 'card_holds'). Laid BY PROGRAM, IN A SANDBOX (cutbox-door.mjs). By AI agents, Wed Nov 11 2026. No macro, syntax, notation, axiom, sorry.
-/
import Derived.Test.YtdhinkgjiapigaaGreatDoorRows
import GoSem.ClaimSeven
namespace Go.Proofs.YtdhinkgjiapigaaGreatDoor
namespace Rows

/-- THE TIED CARD OF 'laws.FnTop'. -/
def fnTopCard : Claim7 := { stood := { row := fnTopRow, standIns := [], harness := (true, "e7fea3b20bea3901fbb90c18c798628ab9801fb743bf527e1006a3294009e006"), looks := true }, kinds := [], alts := [], laidByText := true, laidKinds := [.data, .data, .data, .handle, .data], laidTests := true, laidLooks := .later }
def FnTopCardSaid : Prop := Claim7.holds Tryz.pinned (.plain (OpenSpec.ofChange fnTopSpec)) fnTopCard

/-- THE TIED CARD OF 'laws.FnBars'. -/
def fnBarsCard : Claim7 := { stood := { row := fnBarsRow, standIns := [], harness := (true, "e7fea3b20bea3901fbb90c18c798628ab9801fb743bf527e1006a3294009e006"), looks := true }, kinds := [], alts := [], laidByText := true, laidKinds := [.handle], laidTests := true, laidLooks := .later }
def FnBarsCardSaid : Prop := Claim7.holds Tryz.pinned (.plain (OpenSpec.ofChange fnBarsSpec)) fnBarsCard

/-- THE TIED CARD OF 'laws.FnStill'. -/
def fnStillCard : Claim7 := { stood := { row := fnStillRow, standIns := [], harness := (true, "e7fea3b20bea3901fbb90c18c798628ab9801fb743bf527e1006a3294009e006"), looks := true }, kinds := [], alts := [], laidByText := true, laidKinds := [.handle], laidTests := true, laidLooks := .later }
def FnStillCardSaid : Prop := Claim7.holds Tryz.pinned (.plain (OpenSpec.ofChange fnStillSpec)) fnStillCard

/-- THE TIED CARD OF 'laws.FnClear'. -/
def fnClearCard : Claim7 := { stood := { row := fnClearRow, standIns := [], harness := (true, "e7fea3b20bea3901fbb90c18c798628ab9801fb743bf527e1006a3294009e006"), looks := true }, kinds := [], alts := [], laidByText := true, laidKinds := [.handle], laidTests := true, laidLooks := .later }
def FnClearCardSaid : Prop := Claim7.holds Tryz.pinned (.plain (OpenSpec.ofChange fnClearSpec)) fnClearCard

/-- THE TIED CARD OF 'laws.FnHeld'. -/
def fnHeldCard : Claim7 := { stood := { row := fnHeldRow, standIns := [], harness := (true, "e7fea3b20bea3901fbb90c18c798628ab9801fb743bf527e1006a3294009e006"), looks := true }, kinds := [], alts := [], laidByText := true, laidKinds := [.handle], laidTests := true, laidLooks := .later }
def FnHeldCardSaid : Prop := Claim7.holds Tryz.pinned (.plain (OpenSpec.ofChange fnHeldSpec)) fnHeldCard

/-- THE TIED CARD OF 'laws.FnPass'. -/
def fnPassCard : Claim7 := { stood := { row := fnPassRow, standIns := [], harness := (true, "e7fea3b20bea3901fbb90c18c798628ab9801fb743bf527e1006a3294009e006"), looks := true }, kinds := [], alts := [], laidByText := true, laidKinds := [.handle], laidTests := true, laidLooks := .later }
def FnPassCardSaid : Prop := Claim7.holds Tryz.pinned (.plain (OpenSpec.ofChange fnPassSpec)) fnPassCard

/-- THE TIED CARD OF 'laws.FnBack'. -/
def fnBackCard : Claim7 := { stood := { row := fnBackRow, standIns := [], harness := (true, "e7fea3b20bea3901fbb90c18c798628ab9801fb743bf527e1006a3294009e006"), looks := true }, kinds := [], alts := [], laidByText := true, laidKinds := [.handle], laidTests := true, laidLooks := .later }
def FnBackCardSaid : Prop := Claim7.holds Tryz.pinned (.plain (OpenSpec.ofChange fnBackSpec)) fnBackCard

/-- THE TIED CARD OF 'laws.FnWhy'. -/
def fnWhyCard : Claim7 := { stood := { row := fnWhyRow, standIns := [], harness := (true, "e7fea3b20bea3901fbb90c18c798628ab9801fb743bf527e1006a3294009e006"), looks := true }, kinds := [], alts := [], laidByText := true, laidKinds := [.handle], laidTests := true, laidLooks := .later }
def FnWhyCardSaid : Prop := Claim7.holds Tryz.pinned (.plain (OpenSpec.ofChange fnWhySpec)) fnWhyCard

/-- THE TIED CARD OF 'laws.FnSpoilt'. -/
def fnSpoiltCard : Claim7 := { stood := { row := fnSpoiltRow, standIns := [], harness := (true, "e7fea3b20bea3901fbb90c18c798628ab9801fb743bf527e1006a3294009e006"), looks := true }, kinds := [], alts := [], laidByText := true, laidKinds := [.data, .data, .data, .handle, .data], laidTests := true, laidLooks := .later }
def FnSpoiltCardSaid : Prop := Claim7.holds Tryz.pinned (.plain (OpenSpec.ofChange fnSpoiltSpec)) fnSpoiltCard

/-- THE SECOND FORM's CARD OF 'laws.FnTop'. -/
def fnTopUptoCard : Claim7 := { stood := { row := fnTopUptoRow, standIns := [], harness := (true, "e7fea3b20bea3901fbb90c18c798628ab9801fb743bf527e1006a3294009e006"), looks := true }, kinds := [], alts := [], laidByText := true, laidKinds := [.data, .data, .data, .handle, .data], laidTests := true, laidLooks := .later }
def FnTopUptoCardSaid : Prop := Claim7.holds Tryz.pinned (.plain (OpenSpec.upto fnTopSpec)) fnTopUptoCard

/-- THE SECOND FORM's CARD OF 'laws.FnBars'. -/
def fnBarsUptoCard : Claim7 := { stood := { row := fnBarsUptoRow, standIns := [], harness := (true, "e7fea3b20bea3901fbb90c18c798628ab9801fb743bf527e1006a3294009e006"), looks := true }, kinds := [], alts := [], laidByText := true, laidKinds := [.handle], laidTests := true, laidLooks := .later }
def FnBarsUptoCardSaid : Prop := Claim7.holds Tryz.pinned (.plain (OpenSpec.upto fnBarsSpec)) fnBarsUptoCard

/-- THE SECOND FORM's CARD OF 'laws.FnStill'. -/
def fnStillUptoCard : Claim7 := { stood := { row := fnStillUptoRow, standIns := [], harness := (true, "e7fea3b20bea3901fbb90c18c798628ab9801fb743bf527e1006a3294009e006"), looks := true }, kinds := [], alts := [], laidByText := true, laidKinds := [.handle], laidTests := true, laidLooks := .later }
def FnStillUptoCardSaid : Prop := Claim7.holds Tryz.pinned (.plain (OpenSpec.upto fnStillSpec)) fnStillUptoCard

/-- THE SECOND FORM's CARD OF 'laws.FnClear'. -/
def fnClearUptoCard : Claim7 := { stood := { row := fnClearUptoRow, standIns := [], harness := (true, "e7fea3b20bea3901fbb90c18c798628ab9801fb743bf527e1006a3294009e006"), looks := true }, kinds := [], alts := [], laidByText := true, laidKinds := [.handle], laidTests := true, laidLooks := .later }
def FnClearUptoCardSaid : Prop := Claim7.holds Tryz.pinned (.plain (OpenSpec.upto fnClearSpec)) fnClearUptoCard

/-- THE SECOND FORM's CARD OF 'laws.FnHeld'. -/
def fnHeldUptoCard : Claim7 := { stood := { row := fnHeldUptoRow, standIns := [], harness := (true, "e7fea3b20bea3901fbb90c18c798628ab9801fb743bf527e1006a3294009e006"), looks := true }, kinds := [], alts := [], laidByText := true, laidKinds := [.handle], laidTests := true, laidLooks := .later }
def FnHeldUptoCardSaid : Prop := Claim7.holds Tryz.pinned (.plain (OpenSpec.upto fnHeldSpec)) fnHeldUptoCard

/-- THE SECOND FORM's CARD OF 'laws.FnPass'. -/
def fnPassUptoCard : Claim7 := { stood := { row := fnPassUptoRow, standIns := [], harness := (true, "e7fea3b20bea3901fbb90c18c798628ab9801fb743bf527e1006a3294009e006"), looks := true }, kinds := [], alts := [], laidByText := true, laidKinds := [.handle], laidTests := true, laidLooks := .later }
def FnPassUptoCardSaid : Prop := Claim7.holds Tryz.pinned (.plain (OpenSpec.upto fnPassSpec)) fnPassUptoCard

/-- THE SECOND FORM's CARD OF 'laws.FnBack'. -/
def fnBackUptoCard : Claim7 := { stood := { row := fnBackUptoRow, standIns := [], harness := (true, "e7fea3b20bea3901fbb90c18c798628ab9801fb743bf527e1006a3294009e006"), looks := true }, kinds := [], alts := [], laidByText := true, laidKinds := [.handle], laidTests := true, laidLooks := .later }
def FnBackUptoCardSaid : Prop := Claim7.holds Tryz.pinned (.plain (OpenSpec.upto fnBackSpec)) fnBackUptoCard

/-- THE SECOND FORM's CARD OF 'laws.FnWhy'. -/
def fnWhyUptoCard : Claim7 := { stood := { row := fnWhyUptoRow, standIns := [], harness := (true, "e7fea3b20bea3901fbb90c18c798628ab9801fb743bf527e1006a3294009e006"), looks := true }, kinds := [], alts := [], laidByText := true, laidKinds := [.handle], laidTests := true, laidLooks := .later }
def FnWhyUptoCardSaid : Prop := Claim7.holds Tryz.pinned (.plain (OpenSpec.upto fnWhySpec)) fnWhyUptoCard

/-- THE SECOND FORM's CARD OF 'laws.FnSpoilt'. -/
def fnSpoiltUptoCard : Claim7 := { stood := { row := fnSpoiltUptoRow, standIns := [], harness := (true, "e7fea3b20bea3901fbb90c18c798628ab9801fb743bf527e1006a3294009e006"), looks := true }, kinds := [], alts := [], laidByText := true, laidKinds := [.data, .data, .data, .handle, .data], laidTests := true, laidLooks := .later }
def FnSpoiltUptoCardSaid : Prop := Claim7.holds Tryz.pinned (.plain (OpenSpec.upto fnSpoiltSpec)) fnSpoiltUptoCard
end Rows
end Go.Proofs.YtdhinkgjiapigaaGreatDoor
