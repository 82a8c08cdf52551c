/-
  DERIVED. GIVEN WITH THE SEED: THE CARDS: each row of YtdhinkgjiapigabGreatDoorRows.lean that lists a variable, with what it lists TIED to the program's text (the seventh form; the later family's looks); each row that meets fmt, with fmt's text TOLD by the authors' own Lean function (tested against real Go, not proved from fmt's source: count such statements apart). THE CARD IS WHAT COUNTS. Prove the row's statement (the work); the ties are given (YtdhinkgjiapigabGreatDoorTie.lean); close each card by the builder's one call (the guide's Derived/Test/ToyasCard.lean, 'card_holds'). Laid BY PROGRAM, IN A SANDBOX (cutbox-door.mjs). By AI agents, Wed Nov 11 2026. No macro, syntax, notation, axiom, sorry.
-/
import Derived.Test.YtdhinkgjiapigabGreatDoorRows
import GoSem.ClaimSeven
namespace Go.Proofs.YtdhinkgjiapigabGreatDoor
namespace Rows

/-- THE TIED CARD OF 'laws.FnExactFrameOk'. -/
def fnExactFrameOkCard : Claim7 := { stood := { row := fnExactFrameOkRow, standIns := [], harness := (true, "04729658a2f6e82ad3017d8bf4f8878a99c9b6571e94c2cc34347bf95b8ce708"), looks := true }, kinds := [], alts := [], laidByText := true, laidKinds := [.handle], laidTests := true, laidLooks := .later }
def FnExactFrameOkCardSaid : Prop := Claim7.holds Tryz.pinned (.plain (OpenSpec.ofChange fnExactFrameOkSpec)) fnExactFrameOkCard

/-- THE TIED CARD OF 'laws.FnExactDo'. -/
def fnExactDoCard : Claim7 := { stood := { row := fnExactDoRow, standIns := [], harness := (true, "04729658a2f6e82ad3017d8bf4f8878a99c9b6571e94c2cc34347bf95b8ce708"), looks := true }, kinds := [], alts := [], laidByText := true, laidKinds := [.handle], laidTests := true, laidLooks := .later }
def FnExactDoCardSaid : Prop := Claim7.holds Tryz.pinned (.plain (OpenSpec.ofChange fnExactDoSpec)) fnExactDoCard

/-- THE TIED CARD OF 'laws.FnExactRun'. -/
def fnExactRunCard : Claim7 := { stood := { row := fnExactRunRow, standIns := [], harness := (true, "04729658a2f6e82ad3017d8bf4f8878a99c9b6571e94c2cc34347bf95b8ce708"), looks := true }, kinds := [], alts := [], laidByText := true, laidKinds := [.handle], laidTests := true, laidLooks := .later }
def FnExactRunCardSaid : Prop := Claim7.holds Tryz.pinned (.plain (OpenSpec.ofChange fnExactRunSpec)) fnExactRunCard

/-- THE TIED CARD OF 'laws.FnExactProved'. -/
def fnExactProvedCard : Claim7 := { stood := { row := fnExactProvedRow, standIns := [], harness := (true, "04729658a2f6e82ad3017d8bf4f8878a99c9b6571e94c2cc34347bf95b8ce708"), looks := true }, kinds := [], alts := [], laidByText := true, laidKinds := [.handle], laidTests := true, laidLooks := .later }
def FnExactProvedCardSaid : Prop := Claim7.holds Tryz.pinned (.plain (OpenSpec.ofChange fnExactProvedSpec)) fnExactProvedCard

/-- THE TIED CARD OF 'laws.FnExactLockedBy'. -/
def fnExactLockedByCard : Claim7 := { stood := { row := fnExactLockedByRow, standIns := [], harness := (true, "04729658a2f6e82ad3017d8bf4f8878a99c9b6571e94c2cc34347bf95b8ce708"), looks := true }, kinds := [], alts := [], laidByText := true, laidKinds := [.handle], laidTests := true, laidLooks := .later }
def FnExactLockedByCardSaid : Prop := Claim7.holds Tryz.pinned (.plain (OpenSpec.ofChange fnExactLockedBySpec)) fnExactLockedByCard

/-- THE TIED CARD OF 'laws.FnExactPointLock'. -/
def fnExactPointLockCard : Claim7 := { stood := { row := fnExactPointLockRow, standIns := [], harness := (true, "04729658a2f6e82ad3017d8bf4f8878a99c9b6571e94c2cc34347bf95b8ce708"), looks := true }, kinds := [], alts := [], laidByText := true, laidKinds := [.handle], laidTests := true, laidLooks := .later }
def FnExactPointLockCardSaid : Prop := Claim7.holds Tryz.pinned (.plain (OpenSpec.ofChange fnExactPointLockSpec)) fnExactPointLockCard

/-- THE TIED CARD OF 'laws.FnExactWhyNot'. -/
def fnExactWhyNotCard : Claim7 := { stood := { row := fnExactWhyNotRow, standIns := [], harness := (true, "04729658a2f6e82ad3017d8bf4f8878a99c9b6571e94c2cc34347bf95b8ce708"), looks := true }, kinds := [], alts := [], laidByText := true, laidKinds := [.handle], laidTests := true, laidLooks := .later }
def FnExactWhyNotCardSaid : Prop := Claim7.holds Tryz.pinned (.plain (OpenSpec.ofChange fnExactWhyNotSpec)) fnExactWhyNotCard

/-- THE TIED CARD OF 'laws.FnExactBlocked'. -/
def fnExactBlockedCard : Claim7 := { stood := { row := fnExactBlockedRow, standIns := [], harness := (true, "04729658a2f6e82ad3017d8bf4f8878a99c9b6571e94c2cc34347bf95b8ce708"), looks := true }, kinds := [], alts := [], laidByText := true, laidKinds := [.handle], laidTests := true, laidLooks := .later }
def FnExactBlockedCardSaid : Prop := Claim7.holds Tryz.pinned (.plain (OpenSpec.ofChange fnExactBlockedSpec)) fnExactBlockedCard

/-- THE TIED CARD OF 'laws.FnExactShown'. -/
def fnExactShownCard : Claim7 := { stood := { row := fnExactShownRow, standIns := [], harness := (true, "04729658a2f6e82ad3017d8bf4f8878a99c9b6571e94c2cc34347bf95b8ce708"), looks := true }, kinds := [], alts := [], laidByText := true, laidKinds := [.handle, .data], laidTests := true, laidLooks := .later }
def FnExactShownCardSaid : Prop := Claim7.holds Tryz.pinned (.plain (OpenSpec.ofChange fnExactShownSpec)) fnExactShownCard

/-- THE TIED CARD OF 'laws.FnExactAnswer'. -/
def fnExactAnswerCard : Claim7 := { stood := { row := fnExactAnswerRow, standIns := [], harness := (true, "04729658a2f6e82ad3017d8bf4f8878a99c9b6571e94c2cc34347bf95b8ce708"), looks := true }, kinds := [], alts := [], laidByText := true, laidKinds := [.data, .data, .data, .handle, .data], laidTests := true, laidLooks := .later }
def FnExactAnswerCardSaid : Prop := Claim7.holds Tryz.pinned (.plain (OpenSpec.ofChange fnExactAnswerSpec)) fnExactAnswerCard

/-- THE SECOND FORM's CARD OF 'laws.FnExactFrameOk'. -/
def fnExactFrameOkUptoCard : Claim7 := { stood := { row := fnExactFrameOkUptoRow, standIns := [], harness := (true, "04729658a2f6e82ad3017d8bf4f8878a99c9b6571e94c2cc34347bf95b8ce708"), looks := true }, kinds := [], alts := [], laidByText := true, laidKinds := [.handle], laidTests := true, laidLooks := .later }
def FnExactFrameOkUptoCardSaid : Prop := Claim7.holds Tryz.pinned (.plain (OpenSpec.upto fnExactFrameOkSpec)) fnExactFrameOkUptoCard

/-- THE SECOND FORM's CARD OF 'laws.FnExactDo'. -/
def fnExactDoUptoCard : Claim7 := { stood := { row := fnExactDoUptoRow, standIns := [], harness := (true, "04729658a2f6e82ad3017d8bf4f8878a99c9b6571e94c2cc34347bf95b8ce708"), looks := true }, kinds := [], alts := [], laidByText := true, laidKinds := [.handle], laidTests := true, laidLooks := .later }
def FnExactDoUptoCardSaid : Prop := Claim7.holds Tryz.pinned (.plain (OpenSpec.upto fnExactDoSpec)) fnExactDoUptoCard

/-- THE SECOND FORM's CARD OF 'laws.FnExactRun'. -/
def fnExactRunUptoCard : Claim7 := { stood := { row := fnExactRunUptoRow, standIns := [], harness := (true, "04729658a2f6e82ad3017d8bf4f8878a99c9b6571e94c2cc34347bf95b8ce708"), looks := true }, kinds := [], alts := [], laidByText := true, laidKinds := [.handle], laidTests := true, laidLooks := .later }
def FnExactRunUptoCardSaid : Prop := Claim7.holds Tryz.pinned (.plain (OpenSpec.upto fnExactRunSpec)) fnExactRunUptoCard

/-- THE SECOND FORM's CARD OF 'laws.FnExactProved'. -/
def fnExactProvedUptoCard : Claim7 := { stood := { row := fnExactProvedUptoRow, standIns := [], harness := (true, "04729658a2f6e82ad3017d8bf4f8878a99c9b6571e94c2cc34347bf95b8ce708"), looks := true }, kinds := [], alts := [], laidByText := true, laidKinds := [.handle], laidTests := true, laidLooks := .later }
def FnExactProvedUptoCardSaid : Prop := Claim7.holds Tryz.pinned (.plain (OpenSpec.upto fnExactProvedSpec)) fnExactProvedUptoCard

/-- THE SECOND FORM's CARD OF 'laws.FnExactLockedBy'. -/
def fnExactLockedByUptoCard : Claim7 := { stood := { row := fnExactLockedByUptoRow, standIns := [], harness := (true, "04729658a2f6e82ad3017d8bf4f8878a99c9b6571e94c2cc34347bf95b8ce708"), looks := true }, kinds := [], alts := [], laidByText := true, laidKinds := [.handle], laidTests := true, laidLooks := .later }
def FnExactLockedByUptoCardSaid : Prop := Claim7.holds Tryz.pinned (.plain (OpenSpec.upto fnExactLockedBySpec)) fnExactLockedByUptoCard

/-- THE SECOND FORM's CARD OF 'laws.FnExactPointLock'. -/
def fnExactPointLockUptoCard : Claim7 := { stood := { row := fnExactPointLockUptoRow, standIns := [], harness := (true, "04729658a2f6e82ad3017d8bf4f8878a99c9b6571e94c2cc34347bf95b8ce708"), looks := true }, kinds := [], alts := [], laidByText := true, laidKinds := [.handle], laidTests := true, laidLooks := .later }
def FnExactPointLockUptoCardSaid : Prop := Claim7.holds Tryz.pinned (.plain (OpenSpec.upto fnExactPointLockSpec)) fnExactPointLockUptoCard

/-- THE SECOND FORM's CARD OF 'laws.FnExactWhyNot'. -/
def fnExactWhyNotUptoCard : Claim7 := { stood := { row := fnExactWhyNotUptoRow, standIns := [], harness := (true, "04729658a2f6e82ad3017d8bf4f8878a99c9b6571e94c2cc34347bf95b8ce708"), looks := true }, kinds := [], alts := [], laidByText := true, laidKinds := [.handle], laidTests := true, laidLooks := .later }
def FnExactWhyNotUptoCardSaid : Prop := Claim7.holds Tryz.pinned (.plain (OpenSpec.upto fnExactWhyNotSpec)) fnExactWhyNotUptoCard

/-- THE SECOND FORM's CARD OF 'laws.FnExactBlocked'. -/
def fnExactBlockedUptoCard : Claim7 := { stood := { row := fnExactBlockedUptoRow, standIns := [], harness := (true, "04729658a2f6e82ad3017d8bf4f8878a99c9b6571e94c2cc34347bf95b8ce708"), looks := true }, kinds := [], alts := [], laidByText := true, laidKinds := [.handle], laidTests := true, laidLooks := .later }
def FnExactBlockedUptoCardSaid : Prop := Claim7.holds Tryz.pinned (.plain (OpenSpec.upto fnExactBlockedSpec)) fnExactBlockedUptoCard

/-- THE SECOND FORM's CARD OF 'laws.FnExactShown'. -/
def fnExactShownUptoCard : Claim7 := { stood := { row := fnExactShownUptoRow, standIns := [], harness := (true, "04729658a2f6e82ad3017d8bf4f8878a99c9b6571e94c2cc34347bf95b8ce708"), looks := true }, kinds := [], alts := [], laidByText := true, laidKinds := [.handle, .data], laidTests := true, laidLooks := .later }
def FnExactShownUptoCardSaid : Prop := Claim7.holds Tryz.pinned (.plain (OpenSpec.upto fnExactShownSpec)) fnExactShownUptoCard

/-- THE SECOND FORM's CARD OF 'laws.FnExactAnswer'. -/
def fnExactAnswerUptoCard : Claim7 := { stood := { row := fnExactAnswerUptoRow, standIns := [], harness := (true, "04729658a2f6e82ad3017d8bf4f8878a99c9b6571e94c2cc34347bf95b8ce708"), looks := true }, kinds := [], alts := [], laidByText := true, laidKinds := [.data, .data, .data, .handle, .data], laidTests := true, laidLooks := .later }
def FnExactAnswerUptoCardSaid : Prop := Claim7.holds Tryz.pinned (.plain (OpenSpec.upto fnExactAnswerSpec)) fnExactAnswerUptoCard
end Rows
end Go.Proofs.YtdhinkgjiapigabGreatDoor
