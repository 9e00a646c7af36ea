/-
  No cell of these rows narrows 'for every input' (looked for: loops, veiled, ifaces, maps, wideKeys, modest, calm, conditions, laid).
  DERIVED. THE GIVEN ROWS OF THIS SEAT. 12 by the template 'for every input the law returns true; each argument reads behind the call as it read before'; 0 by the template 'total and deterministic' (their statements: YtpapdkhjdelfcaaGreatTotals.lean).
  GIVEN WITH THE SEED: the statements are not yours to turn. If you find one false, say at which input.
  Laid BY PROGRAM, IN A SANDBOX (cutbox-rows.mjs): the forced cells as the released guide's own fill.sh prints them over the translation 0161c872967abc6c… (all of the seat's roots in one cut). By AI agents, Wed Nov 11 2026. No macro, syntax, notation, axiom, sorry.
-/
import Derived.Test.YtpapdkhjdelfcaaGreatChecked
import GoSem.Claim
import GoSem.ClaimJoined
import GoSem.ClaimMapViews
import Derived.JoinedTies
import Derived.KernelRfl
namespace Go.Proofs.YtpapdkhjdelfcaaGreat
/- THE CELL 'sum', in the pinned program and in every row, IS THE sha256 OF THE DUMP (.gsa) THAT YtpapdkhjdelfcaaGreatProg.lean LOADS. Nothing in Lean hashes anything: it is a label: what it is worth is what the hold of that sum in a sandbox is worth. -/
noncomputable def Tryz.pinned : Pinned := { name := "ytpapdkhjdelfcaagreat", sum := "0161c872967abc6c30507d0d95f62286ca4dcbc74df8232cd91b097858a1ea9f", checked := Tryz.checked }
namespace Rows
def none {H : Type} : Left H := { results := [], args := [] }

/-- 'spreadlaw.News': WHATEVER THE INPUT: true; the input reads as it did. -/
def newsSpec : ChangeSpec := { name := "news", fn := fun _ => fun
  | [d] => { results := [.lit (.bool true)], args := [d] }
  | _ => none }
def newsRow : OpenClaim := { program := "ytpapdkhjdelfcaagreat", sum := "0161c872967abc6c30507d0d95f62286ca4dcbc74df8232cd91b097858a1ea9f", func := "spread/spreadlaw.News", spec := "news", apart := false }
def NewsSaid : Prop := newsRow.holds Tryz.pinned (OpenSpec.ofChange newsSpec)

/-- ITS FALSE NEIGHBOUR: 'it returns false'. Refute it at one input. -/
def newsWrong : ChangeSpec := { name := "news", fn := fun _ => fun
  | [d] => { results := [.lit (.bool false)], args := [d] }
  | _ => none }
def NewsWrongFalsely : Prop := newsRow.holds Tryz.pinned (OpenSpec.ofChange newsWrong)

/-- 'spreadlaw.Changes': WHATEVER THE INPUT: true; the input reads as it did. -/
def changesSpec : ChangeSpec := { name := "changes", fn := fun _ => fun
  | [d] => { results := [.lit (.bool true)], args := [d] }
  | _ => none }
def changesRow : OpenClaim := { program := "ytpapdkhjdelfcaagreat", sum := "0161c872967abc6c30507d0d95f62286ca4dcbc74df8232cd91b097858a1ea9f", func := "spread/spreadlaw.Changes", spec := "changes", apart := false }
def ChangesSaid : Prop := changesRow.holds Tryz.pinned (OpenSpec.ofChange changesSpec)

/-- ITS FALSE NEIGHBOUR: 'it returns false'. Refute it at one input. -/
def changesWrong : ChangeSpec := { name := "changes", fn := fun _ => fun
  | [d] => { results := [.lit (.bool false)], args := [d] }
  | _ => none }
def ChangesWrongFalsely : Prop := changesRow.holds Tryz.pinned (OpenSpec.ofChange changesWrong)

/-- 'spreadlaw.Owners': WHATEVER THE INPUT: true; the input reads as it did. -/
def ownersSpec : ChangeSpec := { name := "owners", fn := fun _ => fun
  | [d] => { results := [.lit (.bool true)], args := [d] }
  | _ => none }
def ownersRow : OpenClaim := { program := "ytpapdkhjdelfcaagreat", sum := "0161c872967abc6c30507d0d95f62286ca4dcbc74df8232cd91b097858a1ea9f", func := "spread/spreadlaw.Owners", spec := "owners", apart := false }
def OwnersSaid : Prop := ownersRow.holds Tryz.pinned (OpenSpec.ofChange ownersSpec)

/-- ITS FALSE NEIGHBOUR: 'it returns false'. Refute it at one input. -/
def ownersWrong : ChangeSpec := { name := "owners", fn := fun _ => fun
  | [d] => { results := [.lit (.bool false)], args := [d] }
  | _ => none }
def OwnersWrongFalsely : Prop := ownersRow.holds Tryz.pinned (OpenSpec.ofChange ownersWrong)

/-- 'spreadlaw.Locals': WHATEVER THE INPUT: true; the input reads as it did. -/
def localsSpec : ChangeSpec := { name := "locals", fn := fun _ => fun
  | [d] => { results := [.lit (.bool true)], args := [d] }
  | _ => none }
def localsRow : OpenClaim := { program := "ytpapdkhjdelfcaagreat", sum := "0161c872967abc6c30507d0d95f62286ca4dcbc74df8232cd91b097858a1ea9f", func := "spread/spreadlaw.Locals", spec := "locals", apart := false }
def LocalsSaid : Prop := localsRow.holds Tryz.pinned (OpenSpec.ofChange localsSpec)

/-- ITS FALSE NEIGHBOUR: 'it returns false'. Refute it at one input. -/
def localsWrong : ChangeSpec := { name := "locals", fn := fun _ => fun
  | [d] => { results := [.lit (.bool false)], args := [d] }
  | _ => none }
def LocalsWrongFalsely : Prop := localsRow.holds Tryz.pinned (OpenSpec.ofChange localsWrong)

/-- 'spreadlaw.Images': WHATEVER THE INPUT: true; the input reads as it did. -/
def imagesSpec : ChangeSpec := { name := "images", fn := fun _ => fun
  | [d] => { results := [.lit (.bool true)], args := [d] }
  | _ => none }
def imagesRow : OpenClaim := { program := "ytpapdkhjdelfcaagreat", sum := "0161c872967abc6c30507d0d95f62286ca4dcbc74df8232cd91b097858a1ea9f", func := "spread/spreadlaw.Images", spec := "images", apart := false }
def ImagesSaid : Prop := imagesRow.holds Tryz.pinned (OpenSpec.ofChange imagesSpec)

/-- ITS FALSE NEIGHBOUR: 'it returns false'. Refute it at one input. -/
def imagesWrong : ChangeSpec := { name := "images", fn := fun _ => fun
  | [d] => { results := [.lit (.bool false)], args := [d] }
  | _ => none }
def ImagesWrongFalsely : Prop := imagesRow.holds Tryz.pinned (OpenSpec.ofChange imagesWrong)

/-- 'spreadlaw.Decodes': WHATEVER THE INPUT: true; the input reads as it did. -/
def decodesSpec : ChangeSpec := { name := "decodes", fn := fun _ => fun
  | [d] => { results := [.lit (.bool true)], args := [d] }
  | _ => none }
def decodesRow : OpenClaim := { program := "ytpapdkhjdelfcaagreat", sum := "0161c872967abc6c30507d0d95f62286ca4dcbc74df8232cd91b097858a1ea9f", func := "spread/spreadlaw.Decodes", spec := "decodes", apart := false }
def DecodesSaid : Prop := decodesRow.holds Tryz.pinned (OpenSpec.ofChange decodesSpec)

/-- ITS FALSE NEIGHBOUR: 'it returns false'. Refute it at one input. -/
def decodesWrong : ChangeSpec := { name := "decodes", fn := fun _ => fun
  | [d] => { results := [.lit (.bool false)], args := [d] }
  | _ => none }
def DecodesWrongFalsely : Prop := decodesRow.holds Tryz.pinned (OpenSpec.ofChange decodesWrong)

/-- 'spreadlaw.Patches': WHATEVER THE INPUT: true; the input reads as it did. -/
def patchesSpec : ChangeSpec := { name := "patches", fn := fun _ => fun
  | [d] => { results := [.lit (.bool true)], args := [d] }
  | _ => none }
def patchesRow : OpenClaim := { program := "ytpapdkhjdelfcaagreat", sum := "0161c872967abc6c30507d0d95f62286ca4dcbc74df8232cd91b097858a1ea9f", func := "spread/spreadlaw.Patches", spec := "patches", apart := false }
def PatchesSaid : Prop := patchesRow.holds Tryz.pinned (OpenSpec.ofChange patchesSpec)

/-- ITS FALSE NEIGHBOUR: 'it returns false'. Refute it at one input. -/
def patchesWrong : ChangeSpec := { name := "patches", fn := fun _ => fun
  | [d] => { results := [.lit (.bool false)], args := [d] }
  | _ => none }
def PatchesWrongFalsely : Prop := patchesRow.holds Tryz.pinned (OpenSpec.ofChange patchesWrong)

/-- 'spreadlaw.Applies': WHATEVER THE INPUT: true; the input reads as it did. -/
def appliesSpec : ChangeSpec := { name := "applies", fn := fun _ => fun
  | [d] => { results := [.lit (.bool true)], args := [d] }
  | _ => none }
def appliesRow : OpenClaim := { program := "ytpapdkhjdelfcaagreat", sum := "0161c872967abc6c30507d0d95f62286ca4dcbc74df8232cd91b097858a1ea9f", func := "spread/spreadlaw.Applies", spec := "applies", apart := false }
def AppliesSaid : Prop := appliesRow.holds Tryz.pinned (OpenSpec.ofChange appliesSpec)

/-- ITS FALSE NEIGHBOUR: 'it returns false'. Refute it at one input. -/
def appliesWrong : ChangeSpec := { name := "applies", fn := fun _ => fun
  | [d] => { results := [.lit (.bool false)], args := [d] }
  | _ => none }
def AppliesWrongFalsely : Prop := appliesRow.holds Tryz.pinned (OpenSpec.ofChange appliesWrong)

/-- 'spreadlaw.Joins': WHATEVER THE INPUT: true; the input reads as it did. -/
def joinsSpec : ChangeSpec := { name := "joins", fn := fun _ => fun
  | [d] => { results := [.lit (.bool true)], args := [d] }
  | _ => none }
def joinsRow : OpenClaim := { program := "ytpapdkhjdelfcaagreat", sum := "0161c872967abc6c30507d0d95f62286ca4dcbc74df8232cd91b097858a1ea9f", func := "spread/spreadlaw.Joins", spec := "joins", apart := false }
def JoinsSaid : Prop := joinsRow.holds Tryz.pinned (OpenSpec.ofChange joinsSpec)

/-- ITS FALSE NEIGHBOUR: 'it returns false'. Refute it at one input. -/
def joinsWrong : ChangeSpec := { name := "joins", fn := fun _ => fun
  | [d] => { results := [.lit (.bool false)], args := [d] }
  | _ => none }
def JoinsWrongFalsely : Prop := joinsRow.holds Tryz.pinned (OpenSpec.ofChange joinsWrong)

/-- 'spreadlaw.Questions': WHATEVER THE INPUT: true; the input reads as it did. -/
def questionsSpec : ChangeSpec := { name := "questions", fn := fun _ => fun
  | [d] => { results := [.lit (.bool true)], args := [d] }
  | _ => none }
def questionsRow : OpenClaim := { program := "ytpapdkhjdelfcaagreat", sum := "0161c872967abc6c30507d0d95f62286ca4dcbc74df8232cd91b097858a1ea9f", func := "spread/spreadlaw.Questions", spec := "questions", apart := false }
def QuestionsSaid : Prop := questionsRow.holds Tryz.pinned (OpenSpec.ofChange questionsSpec)

/-- ITS FALSE NEIGHBOUR: 'it returns false'. Refute it at one input. -/
def questionsWrong : ChangeSpec := { name := "questions", fn := fun _ => fun
  | [d] => { results := [.lit (.bool false)], args := [d] }
  | _ => none }
def QuestionsWrongFalsely : Prop := questionsRow.holds Tryz.pinned (OpenSpec.ofChange questionsWrong)

/-- 'spreadlaw.Answers': WHATEVER THE INPUT: true; the input reads as it did. -/
def answersSpec : ChangeSpec := { name := "answers", fn := fun _ => fun
  | [d] => { results := [.lit (.bool true)], args := [d] }
  | _ => none }
def answersRow : OpenClaim := { program := "ytpapdkhjdelfcaagreat", sum := "0161c872967abc6c30507d0d95f62286ca4dcbc74df8232cd91b097858a1ea9f", func := "spread/spreadlaw.Answers", spec := "answers", apart := false }
def AnswersSaid : Prop := answersRow.holds Tryz.pinned (OpenSpec.ofChange answersSpec)

/-- ITS FALSE NEIGHBOUR: 'it returns false'. Refute it at one input. -/
def answersWrong : ChangeSpec := { name := "answers", fn := fun _ => fun
  | [d] => { results := [.lit (.bool false)], args := [d] }
  | _ => none }
def AnswersWrongFalsely : Prop := answersRow.holds Tryz.pinned (OpenSpec.ofChange answersWrong)

/-- 'spreadlaw.Holds': WHATEVER THE INPUT: true; the input reads as it did. -/
def holdsSpec : ChangeSpec := { name := "holds", fn := fun _ => fun
  | [d] => { results := [.lit (.bool true)], args := [d] }
  | _ => none }
def holdsRow : OpenClaim := { program := "ytpapdkhjdelfcaagreat", sum := "0161c872967abc6c30507d0d95f62286ca4dcbc74df8232cd91b097858a1ea9f", func := "spread/spreadlaw.Holds", spec := "holds", apart := false }
def HoldsSaid : Prop := holdsRow.holds Tryz.pinned (OpenSpec.ofChange holdsSpec)

/-- ITS FALSE NEIGHBOUR: 'it returns false'. Refute it at one input. -/
def holdsWrong : ChangeSpec := { name := "holds", fn := fun _ => fun
  | [d] => { results := [.lit (.bool false)], args := [d] }
  | _ => none }
def HoldsWrongFalsely : Prop := holdsRow.holds Tryz.pinned (OpenSpec.ofChange holdsWrong)

/- THE SECOND FORM. 'bulk': how many values and letters a reading holds, each counted each time it is reached (what is shared counts as often as it is met; a slice's spare places count too). A statement '..UptoSaid' is the law's where the arguments, and the package variables that the reading takes, are together of bulk at most 1048576: NARROWER than '..Said'. Prove '..Said' where nothing that the law and all that it calls make is longer than what came in: it says more and counts as full. Else prove '..UptoSaid'. A law counts once. -/
mutual
def uptoBulk {H : Type} : DataW H → Nat
  | .lit (.string bytes) => bytes.length + 1
  | .lit _ => 1
  | .nil => 1
  | .ptr d => uptoBulk d + 1
  | .slice elems spare => uptoBulkAll elems + uptoBulkAll spare + 1
  | .agg parts => uptoBulkAll parts + 1
  | .iface _ d => uptoBulk d + 1
  | .map entries => uptoBulkEntries entries + 1
  | .held _ => 1
def uptoBulkAll {H : Type} : List (DataW H) → Nat
  | [] => 0
  | d :: r => uptoBulk d + uptoBulkAll r
def uptoBulkEntries {H : Type} : List (Lit × DataW H) → Nat
  | [] => 0
  | x :: r => uptoBulkEntry x + uptoBulkEntries r
def uptoBulkEntry {H : Type} : Lit × DataW H → Nat
  | (.string bytes, d) => bytes.length + uptoBulk d + 1
  | (_, d) => uptoBulk d + 1
 end
def uptoSmall : (H : Type) → List (DataW H) → Bool := fun _ ds => decide (uptoBulkAll ds ≤ 1048576)
def OpenSpec.upto (s : _root_.Go.ChangeSpec) : _root_.Go.OpenSpec := { _root_.Go.OpenSpec.ofChange s with cond := some uptoSmall }

/-- 'spreadlaw.News', WHERE WHAT IT READS IS OF BULK AT MOST 1048576: true; the input reads as it did. -/
def newsUptoRow : OpenClaim := { program := "ytpapdkhjdelfcaagreat", sum := "0161c872967abc6c30507d0d95f62286ca4dcbc74df8232cd91b097858a1ea9f", func := "spread/spreadlaw.News", spec := "news", apart := false, narrowed := true }
def NewsUptoSaid : Prop := newsUptoRow.holds Tryz.pinned (OpenSpec.upto newsSpec)

/-- 'spreadlaw.Changes', WHERE WHAT IT READS IS OF BULK AT MOST 1048576: true; the input reads as it did. -/
def changesUptoRow : OpenClaim := { program := "ytpapdkhjdelfcaagreat", sum := "0161c872967abc6c30507d0d95f62286ca4dcbc74df8232cd91b097858a1ea9f", func := "spread/spreadlaw.Changes", spec := "changes", apart := false, narrowed := true }
def ChangesUptoSaid : Prop := changesUptoRow.holds Tryz.pinned (OpenSpec.upto changesSpec)

/-- 'spreadlaw.Owners', WHERE WHAT IT READS IS OF BULK AT MOST 1048576: true; the input reads as it did. -/
def ownersUptoRow : OpenClaim := { program := "ytpapdkhjdelfcaagreat", sum := "0161c872967abc6c30507d0d95f62286ca4dcbc74df8232cd91b097858a1ea9f", func := "spread/spreadlaw.Owners", spec := "owners", apart := false, narrowed := true }
def OwnersUptoSaid : Prop := ownersUptoRow.holds Tryz.pinned (OpenSpec.upto ownersSpec)

/-- 'spreadlaw.Locals', WHERE WHAT IT READS IS OF BULK AT MOST 1048576: true; the input reads as it did. -/
def localsUptoRow : OpenClaim := { program := "ytpapdkhjdelfcaagreat", sum := "0161c872967abc6c30507d0d95f62286ca4dcbc74df8232cd91b097858a1ea9f", func := "spread/spreadlaw.Locals", spec := "locals", apart := false, narrowed := true }
def LocalsUptoSaid : Prop := localsUptoRow.holds Tryz.pinned (OpenSpec.upto localsSpec)

/-- 'spreadlaw.Images', WHERE WHAT IT READS IS OF BULK AT MOST 1048576: true; the input reads as it did. -/
def imagesUptoRow : OpenClaim := { program := "ytpapdkhjdelfcaagreat", sum := "0161c872967abc6c30507d0d95f62286ca4dcbc74df8232cd91b097858a1ea9f", func := "spread/spreadlaw.Images", spec := "images", apart := false, narrowed := true }
def ImagesUptoSaid : Prop := imagesUptoRow.holds Tryz.pinned (OpenSpec.upto imagesSpec)

/-- 'spreadlaw.Decodes', WHERE WHAT IT READS IS OF BULK AT MOST 1048576: true; the input reads as it did. -/
def decodesUptoRow : OpenClaim := { program := "ytpapdkhjdelfcaagreat", sum := "0161c872967abc6c30507d0d95f62286ca4dcbc74df8232cd91b097858a1ea9f", func := "spread/spreadlaw.Decodes", spec := "decodes", apart := false, narrowed := true }
def DecodesUptoSaid : Prop := decodesUptoRow.holds Tryz.pinned (OpenSpec.upto decodesSpec)

/-- 'spreadlaw.Patches', WHERE WHAT IT READS IS OF BULK AT MOST 1048576: true; the input reads as it did. -/
def patchesUptoRow : OpenClaim := { program := "ytpapdkhjdelfcaagreat", sum := "0161c872967abc6c30507d0d95f62286ca4dcbc74df8232cd91b097858a1ea9f", func := "spread/spreadlaw.Patches", spec := "patches", apart := false, narrowed := true }
def PatchesUptoSaid : Prop := patchesUptoRow.holds Tryz.pinned (OpenSpec.upto patchesSpec)

/-- 'spreadlaw.Applies', WHERE WHAT IT READS IS OF BULK AT MOST 1048576: true; the input reads as it did. -/
def appliesUptoRow : OpenClaim := { program := "ytpapdkhjdelfcaagreat", sum := "0161c872967abc6c30507d0d95f62286ca4dcbc74df8232cd91b097858a1ea9f", func := "spread/spreadlaw.Applies", spec := "applies", apart := false, narrowed := true }
def AppliesUptoSaid : Prop := appliesUptoRow.holds Tryz.pinned (OpenSpec.upto appliesSpec)

/-- 'spreadlaw.Joins', WHERE WHAT IT READS IS OF BULK AT MOST 1048576: true; the input reads as it did. -/
def joinsUptoRow : OpenClaim := { program := "ytpapdkhjdelfcaagreat", sum := "0161c872967abc6c30507d0d95f62286ca4dcbc74df8232cd91b097858a1ea9f", func := "spread/spreadlaw.Joins", spec := "joins", apart := false, narrowed := true }
def JoinsUptoSaid : Prop := joinsUptoRow.holds Tryz.pinned (OpenSpec.upto joinsSpec)

/-- 'spreadlaw.Questions', WHERE WHAT IT READS IS OF BULK AT MOST 1048576: true; the input reads as it did. -/
def questionsUptoRow : OpenClaim := { program := "ytpapdkhjdelfcaagreat", sum := "0161c872967abc6c30507d0d95f62286ca4dcbc74df8232cd91b097858a1ea9f", func := "spread/spreadlaw.Questions", spec := "questions", apart := false, narrowed := true }
def QuestionsUptoSaid : Prop := questionsUptoRow.holds Tryz.pinned (OpenSpec.upto questionsSpec)

/-- 'spreadlaw.Answers', WHERE WHAT IT READS IS OF BULK AT MOST 1048576: true; the input reads as it did. -/
def answersUptoRow : OpenClaim := { program := "ytpapdkhjdelfcaagreat", sum := "0161c872967abc6c30507d0d95f62286ca4dcbc74df8232cd91b097858a1ea9f", func := "spread/spreadlaw.Answers", spec := "answers", apart := false, narrowed := true }
def AnswersUptoSaid : Prop := answersUptoRow.holds Tryz.pinned (OpenSpec.upto answersSpec)

/-- 'spreadlaw.Holds', WHERE WHAT IT READS IS OF BULK AT MOST 1048576: true; the input reads as it did. -/
def holdsUptoRow : OpenClaim := { program := "ytpapdkhjdelfcaagreat", sum := "0161c872967abc6c30507d0d95f62286ca4dcbc74df8232cd91b097858a1ea9f", func := "spread/spreadlaw.Holds", spec := "holds", apart := false, narrowed := true }
def HoldsUptoSaid : Prop := holdsUptoRow.holds Tryz.pinned (OpenSpec.upto holdsSpec)

end Rows
end Go.Proofs.YtpapdkhjdelfcaaGreat
