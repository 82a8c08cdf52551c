/-
  DERIVED. GIVEN WITH THE SEED: THE CARDS: each row of YtgeegigmaalkaaaDoorRows.lean that lists a variable, with what it lists TIED to the program's text (the seventh form; the later family's looks); each row that meets fmt, with fmt's text TOLD by the authors' own Lean function (tested against real Go, not proved from fmt's source: count such statements apart). THE CARD IS WHAT COUNTS. Prove the row's statement (the work); the ties are given (YtgeegigmaalkaaaDoorTie.lean); close each card by the builder's one call (the guide's Derived/Test/ToyasCard.lean, 'card_holds'). Laid BY PROGRAM, IN A SANDBOX (cutbox-door.mjs). By AI agents, Wed Nov 11 2026. No macro, syntax, notation, axiom, sorry.
-/
import Derived.Test.YtgeegigmaalkaaaDoorRows
import GoSem.ClaimSeven
namespace Go.Proofs.YtgeegigmaalkaaaDoor
namespace Rows

/-- THE TIED CARD OF 'laws.FnExactPlanOk'. -/
def fnExactPlanOkCard : Claim7 := { stood := { row := fnExactPlanOkRow, standIns := [], harness := (true, "3e42e4c0b722e4aab0b42491c34ef839eeaeb0425bc46ebab1f65a7b2078cc87"), looks := true }, kinds := [], alts := [], laidByText := true, laidKinds := [.handle], laidTests := true, laidLooks := .later }
def FnExactPlanOkCardSaid : Prop := Claim7.holds Tryd.pinned (.plain (OpenSpec.ofChange fnExactPlanOkSpec)) fnExactPlanOkCard

/-- THE SECOND FORM's CARD OF 'laws.FnExactPlanOk'. -/
def fnExactPlanOkUptoCard : Claim7 := { stood := { row := fnExactPlanOkUptoRow, standIns := [], harness := (true, "3e42e4c0b722e4aab0b42491c34ef839eeaeb0425bc46ebab1f65a7b2078cc87"), looks := true }, kinds := [], alts := [], laidByText := true, laidKinds := [.handle], laidTests := true, laidLooks := .later }
def FnExactPlanOkUptoCardSaid : Prop := Claim7.holds Tryd.pinned (.plain (OpenSpec.upto fnExactPlanOkSpec)) fnExactPlanOkUptoCard
end Rows
end Go.Proofs.YtgeegigmaalkaaaDoor
