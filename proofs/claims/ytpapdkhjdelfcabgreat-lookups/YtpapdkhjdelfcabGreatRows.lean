/-
  No cell of these rows narrows 'for every input' (looked for: loops, veiled, ifaces, maps, wideKeys, modest, calm, conditions, laid).
  DERIVED. THE GIVEN ROWS OF THIS SEAT. 11 by the template 'for every input the law returns true; each argument reads behind the call as it read before'; 0 by the template 'total and deterministic' (their statements: YtpapdkhjdelfcabGreatTotals.lean).
  GIVEN WITH THE SEED: the statements are not yours to turn. If you find one false, say at which input.
  Laid BY PROGRAM, IN A SANDBOX (cutbox-rows.mjs): the forced cells as the released guide's own fill.sh prints them over the translation 95dc0c77bc3d9b7b… (all of the seat's roots in one cut). By AI agents, Wed Nov 11 2026. No macro, syntax, notation, axiom, sorry.
-/
import Derived.Test.YtpapdkhjdelfcabGreatChecked
import GoSem.Claim
import GoSem.ClaimJoined
import GoSem.ClaimMapViews
import Derived.JoinedTies
import Derived.KernelRfl
namespace Go.Proofs.YtpapdkhjdelfcabGreat
/- THE CELL 'sum', in the pinned program and in every row, IS THE sha256 OF THE DUMP (.gsa) THAT YtpapdkhjdelfcabGreatProg.lean LOADS. Nothing in Lean hashes anything: it is a label: what it is worth is what the hold of that sum in a sandbox is worth. -/
noncomputable def Tryz.pinned : Pinned := { name := "ytpapdkhjdelfcabgreat", sum := "95dc0c77bc3d9b7beaa7ce46ecfeec19bb696809e812af968c203c193de2ac26", checked := Tryz.checked }
namespace Rows
def none {H : Type} : Left H := { results := [], args := [] }

/-- 'spreadlaw.Lookups': WHATEVER THE INPUT: true; the input reads as it did. -/
def lookupsSpec : ChangeSpec := { name := "lookups", fn := fun _ => fun
  | [d] => { results := [.lit (.bool true)], args := [d] }
  | _ => none }
def lookupsRow : OpenClaim := { program := "ytpapdkhjdelfcabgreat", sum := "95dc0c77bc3d9b7beaa7ce46ecfeec19bb696809e812af968c203c193de2ac26", func := "spread/spreadlaw.Lookups", spec := "lookups", apart := false }
def LookupsSaid : Prop := lookupsRow.holds Tryz.pinned (OpenSpec.ofChange lookupsSpec)

/-- ITS FALSE NEIGHBOUR: 'it returns false'. Refute it at one input. -/
def lookupsWrong : ChangeSpec := { name := "lookups", fn := fun _ => fun
  | [d] => { results := [.lit (.bool false)], args := [d] }
  | _ => none }
def LookupsWrongFalsely : Prop := lookupsRow.holds Tryz.pinned (OpenSpec.ofChange lookupsWrong)

/-- 'spreadlaw.Lists': WHATEVER THE INPUT: true; the input reads as it did. -/
def listsSpec : ChangeSpec := { name := "lists", fn := fun _ => fun
  | [d] => { results := [.lit (.bool true)], args := [d] }
  | _ => none }
def listsRow : OpenClaim := { program := "ytpapdkhjdelfcabgreat", sum := "95dc0c77bc3d9b7beaa7ce46ecfeec19bb696809e812af968c203c193de2ac26", func := "spread/spreadlaw.Lists", spec := "lists", apart := false }
def ListsSaid : Prop := listsRow.holds Tryz.pinned (OpenSpec.ofChange listsSpec)

/-- ITS FALSE NEIGHBOUR: 'it returns false'. Refute it at one input. -/
def listsWrong : ChangeSpec := { name := "lists", fn := fun _ => fun
  | [d] => { results := [.lit (.bool false)], args := [d] }
  | _ => none }
def ListsWrongFalsely : Prop := listsRow.holds Tryz.pinned (OpenSpec.ofChange listsWrong)

/-- 'spreadkeep.Refused': WHATEVER THE INPUT: true; the input reads as it did. -/
def refusedSpec : ChangeSpec := { name := "refused", fn := fun _ => fun
  | [d] => { results := [.lit (.bool true)], args := [d] }
  | _ => none }
def refusedRow : OpenClaim := { program := "ytpapdkhjdelfcabgreat", sum := "95dc0c77bc3d9b7beaa7ce46ecfeec19bb696809e812af968c203c193de2ac26", func := "spread/spreadkeep.Refused", spec := "refused", apart := false }
def RefusedSaid : Prop := refusedRow.holds Tryz.pinned (OpenSpec.ofChange refusedSpec)

/-- ITS FALSE NEIGHBOUR: 'it returns false'. Refute it at one input. -/
def refusedWrong : ChangeSpec := { name := "refused", fn := fun _ => fun
  | [d] => { results := [.lit (.bool false)], args := [d] }
  | _ => none }
def RefusedWrongFalsely : Prop := refusedRow.holds Tryz.pinned (OpenSpec.ofChange refusedWrong)

/-- 'spreadkeep.Shares': WHATEVER THE INPUT: true; the input reads as it did. -/
def sharesSpec : ChangeSpec := { name := "shares", fn := fun _ => fun
  | [d] => { results := [.lit (.bool true)], args := [d] }
  | _ => none }
def sharesRow : OpenClaim := { program := "ytpapdkhjdelfcabgreat", sum := "95dc0c77bc3d9b7beaa7ce46ecfeec19bb696809e812af968c203c193de2ac26", func := "spread/spreadkeep.Shares", spec := "shares", apart := false }
def SharesSaid : Prop := sharesRow.holds Tryz.pinned (OpenSpec.ofChange sharesSpec)

/-- ITS FALSE NEIGHBOUR: 'it returns false'. Refute it at one input. -/
def sharesWrong : ChangeSpec := { name := "shares", fn := fun _ => fun
  | [d] => { results := [.lit (.bool false)], args := [d] }
  | _ => none }
def SharesWrongFalsely : Prop := sharesRow.holds Tryz.pinned (OpenSpec.ofChange sharesWrong)

/-- 'spreadkeep.Moved': WHATEVER THE INPUT: true; the input reads as it did. -/
def movedSpec : ChangeSpec := { name := "moved", fn := fun _ => fun
  | [d] => { results := [.lit (.bool true)], args := [d] }
  | _ => none }
def movedRow : OpenClaim := { program := "ytpapdkhjdelfcabgreat", sum := "95dc0c77bc3d9b7beaa7ce46ecfeec19bb696809e812af968c203c193de2ac26", func := "spread/spreadkeep.Moved", spec := "moved", apart := false }
def MovedSaid : Prop := movedRow.holds Tryz.pinned (OpenSpec.ofChange movedSpec)

/-- ITS FALSE NEIGHBOUR: 'it returns false'. Refute it at one input. -/
def movedWrong : ChangeSpec := { name := "moved", fn := fun _ => fun
  | [d] => { results := [.lit (.bool false)], args := [d] }
  | _ => none }
def MovedWrongFalsely : Prop := movedRow.holds Tryz.pinned (OpenSpec.ofChange movedWrong)

/-- 'spreadkeep.Same': WHATEVER THE INPUT: true; the input reads as it did. -/
def sameSpec : ChangeSpec := { name := "same", fn := fun _ => fun
  | [d] => { results := [.lit (.bool true)], args := [d] }
  | _ => none }
def sameRow : OpenClaim := { program := "ytpapdkhjdelfcabgreat", sum := "95dc0c77bc3d9b7beaa7ce46ecfeec19bb696809e812af968c203c193de2ac26", func := "spread/spreadkeep.Same", spec := "same", apart := false }
def SameSaid : Prop := sameRow.holds Tryz.pinned (OpenSpec.ofChange sameSpec)

/-- ITS FALSE NEIGHBOUR: 'it returns false'. Refute it at one input. -/
def sameWrong : ChangeSpec := { name := "same", fn := fun _ => fun
  | [d] => { results := [.lit (.bool false)], args := [d] }
  | _ => none }
def SameWrongFalsely : Prop := sameRow.holds Tryz.pinned (OpenSpec.ofChange sameWrong)

/-- 'spreadkeep.Bytes': WHATEVER THE INPUT: true; the input reads as it did. -/
def bytesSpec : ChangeSpec := { name := "bytes", fn := fun _ => fun
  | [d] => { results := [.lit (.bool true)], args := [d] }
  | _ => none }
def bytesRow : OpenClaim := { program := "ytpapdkhjdelfcabgreat", sum := "95dc0c77bc3d9b7beaa7ce46ecfeec19bb696809e812af968c203c193de2ac26", func := "spread/spreadkeep.Bytes", spec := "bytes", apart := false }
def BytesSaid : Prop := bytesRow.holds Tryz.pinned (OpenSpec.ofChange bytesSpec)

/-- ITS FALSE NEIGHBOUR: 'it returns false'. Refute it at one input. -/
def bytesWrong : ChangeSpec := { name := "bytes", fn := fun _ => fun
  | [d] => { results := [.lit (.bool false)], args := [d] }
  | _ => none }
def BytesWrongFalsely : Prop := bytesRow.holds Tryz.pinned (OpenSpec.ofChange bytesWrong)

/-- 'spreadkeep.One': WHATEVER THE INPUT: true; the input reads as it did. -/
def oneSpec : ChangeSpec := { name := "one", fn := fun _ => fun
  | [d] => { results := [.lit (.bool true)], args := [d] }
  | _ => none }
def oneRow : OpenClaim := { program := "ytpapdkhjdelfcabgreat", sum := "95dc0c77bc3d9b7beaa7ce46ecfeec19bb696809e812af968c203c193de2ac26", func := "spread/spreadkeep.One", spec := "one", apart := false }
def OneSaid : Prop := oneRow.holds Tryz.pinned (OpenSpec.ofChange oneSpec)

/-- ITS FALSE NEIGHBOUR: 'it returns false'. Refute it at one input. -/
def oneWrong : ChangeSpec := { name := "one", fn := fun _ => fun
  | [d] => { results := [.lit (.bool false)], args := [d] }
  | _ => none }
def OneWrongFalsely : Prop := oneRow.holds Tryz.pinned (OpenSpec.ofChange oneWrong)

/-- 'spreadkeep.Wrong': WHATEVER THE INPUT: true; the input reads as it did. -/
def wrongSpec : ChangeSpec := { name := "wrong", fn := fun _ => fun
  | [d] => { results := [.lit (.bool true)], args := [d] }
  | _ => none }
def wrongRow : OpenClaim := { program := "ytpapdkhjdelfcabgreat", sum := "95dc0c77bc3d9b7beaa7ce46ecfeec19bb696809e812af968c203c193de2ac26", func := "spread/spreadkeep.Wrong", spec := "wrong", apart := false }
def WrongSaid : Prop := wrongRow.holds Tryz.pinned (OpenSpec.ofChange wrongSpec)

/-- ITS FALSE NEIGHBOUR: 'it returns false'. Refute it at one input. -/
def wrongWrong : ChangeSpec := { name := "wrong", fn := fun _ => fun
  | [d] => { results := [.lit (.bool false)], args := [d] }
  | _ => none }
def WrongWrongFalsely : Prop := wrongRow.holds Tryz.pinned (OpenSpec.ofChange wrongWrong)

/-- 'spreadkeep.Soon': WHATEVER THE INPUT: true; the input reads as it did. -/
def soonSpec : ChangeSpec := { name := "soon", fn := fun _ => fun
  | [d] => { results := [.lit (.bool true)], args := [d] }
  | _ => none }
def soonRow : OpenClaim := { program := "ytpapdkhjdelfcabgreat", sum := "95dc0c77bc3d9b7beaa7ce46ecfeec19bb696809e812af968c203c193de2ac26", func := "spread/spreadkeep.Soon", spec := "soon", apart := false }
def SoonSaid : Prop := soonRow.holds Tryz.pinned (OpenSpec.ofChange soonSpec)

/-- ITS FALSE NEIGHBOUR: 'it returns false'. Refute it at one input. -/
def soonWrong : ChangeSpec := { name := "soon", fn := fun _ => fun
  | [d] => { results := [.lit (.bool false)], args := [d] }
  | _ => none }
def SoonWrongFalsely : Prop := soonRow.holds Tryz.pinned (OpenSpec.ofChange soonWrong)

/-- 'spreadlaw.All': WHATEVER THE INPUT: true; the input reads as it did. -/
def allSpec : ChangeSpec := { name := "all", fn := fun _ => fun
  | [d] => { results := [.lit (.bool true)], args := [d] }
  | _ => none }
def allRow : OpenClaim := { program := "ytpapdkhjdelfcabgreat", sum := "95dc0c77bc3d9b7beaa7ce46ecfeec19bb696809e812af968c203c193de2ac26", func := "spread/spreadlaw.All", spec := "all", apart := false }
def AllSaid : Prop := allRow.holds Tryz.pinned (OpenSpec.ofChange allSpec)

/-- ITS FALSE NEIGHBOUR: 'it returns false'. Refute it at one input. -/
def allWrong : ChangeSpec := { name := "all", fn := fun _ => fun
  | [d] => { results := [.lit (.bool false)], args := [d] }
  | _ => none }
def AllWrongFalsely : Prop := allRow.holds Tryz.pinned (OpenSpec.ofChange allWrong)

/- THE SECOND FORM. 'bulk': how many values and letters a reading holds, each counted each time it is reached (what is shared counts as often as it is met; a slice's spare places count too). A statement '..UptoSaid' is the law's where the arguments, and the package variables that the reading takes, are together of bulk at most 1048576: NARROWER than '..Said'. Prove '..Said' where nothing that the law and all that it calls make is longer than what came in: it says more and counts as full. Else prove '..UptoSaid'. A law counts once. -/
mutual
def uptoBulk {H : Type} : DataW H → Nat
  | .lit (.string bytes) => bytes.length + 1
  | .lit _ => 1
  | .nil => 1
  | .ptr d => uptoBulk d + 1
  | .slice elems spare => uptoBulkAll elems + uptoBulkAll spare + 1
  | .agg parts => uptoBulkAll parts + 1
  | .iface _ d => uptoBulk d + 1
  | .map entries => uptoBulkEntries entries + 1
  | .held _ => 1
def uptoBulkAll {H : Type} : List (DataW H) → Nat
  | [] => 0
  | d :: r => uptoBulk d + uptoBulkAll r
def uptoBulkEntries {H : Type} : List (Lit × DataW H) → Nat
  | [] => 0
  | x :: r => uptoBulkEntry x + uptoBulkEntries r
def uptoBulkEntry {H : Type} : Lit × DataW H → Nat
  | (.string bytes, d) => bytes.length + uptoBulk d + 1
  | (_, d) => uptoBulk d + 1
 end
def uptoSmall : (H : Type) → List (DataW H) → Bool := fun _ ds => decide (uptoBulkAll ds ≤ 1048576)
def OpenSpec.upto (s : _root_.Go.ChangeSpec) : _root_.Go.OpenSpec := { _root_.Go.OpenSpec.ofChange s with cond := some uptoSmall }

/-- 'spreadlaw.Lookups', WHERE WHAT IT READS IS OF BULK AT MOST 1048576: true; the input reads as it did. -/
def lookupsUptoRow : OpenClaim := { program := "ytpapdkhjdelfcabgreat", sum := "95dc0c77bc3d9b7beaa7ce46ecfeec19bb696809e812af968c203c193de2ac26", func := "spread/spreadlaw.Lookups", spec := "lookups", apart := false, narrowed := true }
def LookupsUptoSaid : Prop := lookupsUptoRow.holds Tryz.pinned (OpenSpec.upto lookupsSpec)

/-- 'spreadlaw.Lists', WHERE WHAT IT READS IS OF BULK AT MOST 1048576: true; the input reads as it did. -/
def listsUptoRow : OpenClaim := { program := "ytpapdkhjdelfcabgreat", sum := "95dc0c77bc3d9b7beaa7ce46ecfeec19bb696809e812af968c203c193de2ac26", func := "spread/spreadlaw.Lists", spec := "lists", apart := false, narrowed := true }
def ListsUptoSaid : Prop := listsUptoRow.holds Tryz.pinned (OpenSpec.upto listsSpec)

/-- 'spreadkeep.Refused', WHERE WHAT IT READS IS OF BULK AT MOST 1048576: true; the input reads as it did. -/
def refusedUptoRow : OpenClaim := { program := "ytpapdkhjdelfcabgreat", sum := "95dc0c77bc3d9b7beaa7ce46ecfeec19bb696809e812af968c203c193de2ac26", func := "spread/spreadkeep.Refused", spec := "refused", apart := false, narrowed := true }
def RefusedUptoSaid : Prop := refusedUptoRow.holds Tryz.pinned (OpenSpec.upto refusedSpec)

/-- 'spreadkeep.Shares', WHERE WHAT IT READS IS OF BULK AT MOST 1048576: true; the input reads as it did. -/
def sharesUptoRow : OpenClaim := { program := "ytpapdkhjdelfcabgreat", sum := "95dc0c77bc3d9b7beaa7ce46ecfeec19bb696809e812af968c203c193de2ac26", func := "spread/spreadkeep.Shares", spec := "shares", apart := false, narrowed := true }
def SharesUptoSaid : Prop := sharesUptoRow.holds Tryz.pinned (OpenSpec.upto sharesSpec)

/-- 'spreadkeep.Moved', WHERE WHAT IT READS IS OF BULK AT MOST 1048576: true; the input reads as it did. -/
def movedUptoRow : OpenClaim := { program := "ytpapdkhjdelfcabgreat", sum := "95dc0c77bc3d9b7beaa7ce46ecfeec19bb696809e812af968c203c193de2ac26", func := "spread/spreadkeep.Moved", spec := "moved", apart := false, narrowed := true }
def MovedUptoSaid : Prop := movedUptoRow.holds Tryz.pinned (OpenSpec.upto movedSpec)

/-- 'spreadkeep.Same', WHERE WHAT IT READS IS OF BULK AT MOST 1048576: true; the input reads as it did. -/
def sameUptoRow : OpenClaim := { program := "ytpapdkhjdelfcabgreat", sum := "95dc0c77bc3d9b7beaa7ce46ecfeec19bb696809e812af968c203c193de2ac26", func := "spread/spreadkeep.Same", spec := "same", apart := false, narrowed := true }
def SameUptoSaid : Prop := sameUptoRow.holds Tryz.pinned (OpenSpec.upto sameSpec)

/-- 'spreadkeep.Bytes', WHERE WHAT IT READS IS OF BULK AT MOST 1048576: true; the input reads as it did. -/
def bytesUptoRow : OpenClaim := { program := "ytpapdkhjdelfcabgreat", sum := "95dc0c77bc3d9b7beaa7ce46ecfeec19bb696809e812af968c203c193de2ac26", func := "spread/spreadkeep.Bytes", spec := "bytes", apart := false, narrowed := true }
def BytesUptoSaid : Prop := bytesUptoRow.holds Tryz.pinned (OpenSpec.upto bytesSpec)

/-- 'spreadkeep.One', WHERE WHAT IT READS IS OF BULK AT MOST 1048576: true; the input reads as it did. -/
def oneUptoRow : OpenClaim := { program := "ytpapdkhjdelfcabgreat", sum := "95dc0c77bc3d9b7beaa7ce46ecfeec19bb696809e812af968c203c193de2ac26", func := "spread/spreadkeep.One", spec := "one", apart := false, narrowed := true }
def OneUptoSaid : Prop := oneUptoRow.holds Tryz.pinned (OpenSpec.upto oneSpec)

/-- 'spreadkeep.Wrong', WHERE WHAT IT READS IS OF BULK AT MOST 1048576: true; the input reads as it did. -/
def wrongUptoRow : OpenClaim := { program := "ytpapdkhjdelfcabgreat", sum := "95dc0c77bc3d9b7beaa7ce46ecfeec19bb696809e812af968c203c193de2ac26", func := "spread/spreadkeep.Wrong", spec := "wrong", apart := false, narrowed := true }
def WrongUptoSaid : Prop := wrongUptoRow.holds Tryz.pinned (OpenSpec.upto wrongSpec)

/-- 'spreadkeep.Soon', WHERE WHAT IT READS IS OF BULK AT MOST 1048576: true; the input reads as it did. -/
def soonUptoRow : OpenClaim := { program := "ytpapdkhjdelfcabgreat", sum := "95dc0c77bc3d9b7beaa7ce46ecfeec19bb696809e812af968c203c193de2ac26", func := "spread/spreadkeep.Soon", spec := "soon", apart := false, narrowed := true }
def SoonUptoSaid : Prop := soonUptoRow.holds Tryz.pinned (OpenSpec.upto soonSpec)

/-- 'spreadlaw.All', WHERE WHAT IT READS IS OF BULK AT MOST 1048576: true; the input reads as it did. -/
def allUptoRow : OpenClaim := { program := "ytpapdkhjdelfcabgreat", sum := "95dc0c77bc3d9b7beaa7ce46ecfeec19bb696809e812af968c203c193de2ac26", func := "spread/spreadlaw.All", spec := "all", apart := false, narrowed := true }
def AllUptoSaid : Prop := allUptoRow.holds Tryz.pinned (OpenSpec.upto allSpec)

end Rows
end Go.Proofs.YtpapdkhjdelfcabGreat
