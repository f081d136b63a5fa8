/-
  No cell of these rows narrows 'for every input' (looked for: loops, veiled, ifaces, maps, wideKeys, modest, calm, conditions, laid).
  DERIVED. THE GIVEN ROWS OF THIS SEAT. 11 by the template 'for every input the law returns true; each argument reads behind the call as it read before'; 0 by the template 'total and deterministic' (their statements: YtciihepbeacppaaGreatTotals.lean).
  GIVEN WITH THE SEED: the statements are not yours to turn. If you find one false, say at which input.
  Laid BY PROGRAM, IN A SANDBOX (cutbox-rows.mjs): the forced cells as the released guide's own fill.sh prints them over the translation 50c989a05363e4e2… (all of the seat's roots in one cut). By AI agents, Wed Nov 11 2026. No macro, syntax, notation, axiom, sorry.
-/
import Derived.Test.YtciihepbeacppaaGreatChecked
import GoSem.Claim
import GoSem.ClaimJoined
import GoSem.ClaimMapViews
import Derived.JoinedTies
import Derived.KernelRfl
namespace Go.Proofs.YtciihepbeacppaaGreat
/- THE CELL 'sum', in the pinned program and in every row, IS THE sha256 OF THE DUMP (.gsa) THAT YtciihepbeacppaaGreatProg.lean LOADS. Nothing in Lean hashes anything: it is a label: what it is worth is what the hold of that sum in a sandbox is worth. -/
noncomputable def Tryz.pinned : Pinned := { name := "ytciihepbeacppaagreat", sum := "50c989a05363e4e202236fbee45f84a9531ec6b17cbbee537227d8d102cb2af9", checked := Tryz.checked }
namespace Rows
def none {H : Type} : Left H := { results := [], args := [] }

/-- 'listslaw.Texts': WHATEVER THE INPUT: true; the input reads as it did. -/
def textsSpec : ChangeSpec := { name := "texts", fn := fun _ => fun
  | [d] => { results := [.lit (.bool true)], args := [d] }
  | _ => none }
def textsRow : OpenClaim := { program := "ytciihepbeacppaagreat", sum := "50c989a05363e4e202236fbee45f84a9531ec6b17cbbee537227d8d102cb2af9", func := "lists/listslaw.Texts", spec := "texts", recurses := true, apart := false }
def TextsSaid : Prop := textsRow.holds Tryz.pinned (OpenSpec.ofChange textsSpec)

/-- ITS FALSE NEIGHBOUR: 'it returns false'. Refute it at one input. -/
def textsWrong : ChangeSpec := { name := "texts", fn := fun _ => fun
  | [d] => { results := [.lit (.bool false)], args := [d] }
  | _ => none }
def TextsWrongFalsely : Prop := textsRow.holds Tryz.pinned (OpenSpec.ofChange textsWrong)

/-- 'listslaw.Machines': WHATEVER THE INPUT: true; the input reads as it did. -/
def machinesSpec : ChangeSpec := { name := "machines", fn := fun _ => fun
  | [d] => { results := [.lit (.bool true)], args := [d] }
  | _ => none }
def machinesRow : OpenClaim := { program := "ytciihepbeacppaagreat", sum := "50c989a05363e4e202236fbee45f84a9531ec6b17cbbee537227d8d102cb2af9", func := "lists/listslaw.Machines", spec := "machines", recurses := true, apart := false }
def MachinesSaid : Prop := machinesRow.holds Tryz.pinned (OpenSpec.ofChange machinesSpec)

/-- ITS FALSE NEIGHBOUR: 'it returns false'. Refute it at one input. -/
def machinesWrong : ChangeSpec := { name := "machines", fn := fun _ => fun
  | [d] => { results := [.lit (.bool false)], args := [d] }
  | _ => none }
def MachinesWrongFalsely : Prop := machinesRow.holds Tryz.pinned (OpenSpec.ofChange machinesWrong)

/-- 'listslaw.Sounds': WHATEVER THE INPUT: true; the input reads as it did. -/
def soundsSpec : ChangeSpec := { name := "sounds", fn := fun _ => fun
  | [d] => { results := [.lit (.bool true)], args := [d] }
  | _ => none }
def soundsRow : OpenClaim := { program := "ytciihepbeacppaagreat", sum := "50c989a05363e4e202236fbee45f84a9531ec6b17cbbee537227d8d102cb2af9", func := "lists/listslaw.Sounds", spec := "sounds", recurses := true, apart := false }
def SoundsSaid : Prop := soundsRow.holds Tryz.pinned (OpenSpec.ofChange soundsSpec)

/-- ITS FALSE NEIGHBOUR: 'it returns false'. Refute it at one input. -/
def soundsWrong : ChangeSpec := { name := "sounds", fn := fun _ => fun
  | [d] => { results := [.lit (.bool false)], args := [d] }
  | _ => none }
def SoundsWrongFalsely : Prop := soundsRow.holds Tryz.pinned (OpenSpec.ofChange soundsWrong)

/-- 'listskeep.Goes': WHATEVER THE INPUT: true; the input reads as it did. -/
def goesSpec : ChangeSpec := { name := "goes", fn := fun _ => fun
  | [d1, d2, d3, d4, d5] => { results := [.lit (.bool true)], args := [d1, d2, d3, d4, d5] }
  | _ => none }
def goesRow : OpenClaim := { program := "ytciihepbeacppaagreat", sum := "50c989a05363e4e202236fbee45f84a9531ec6b17cbbee537227d8d102cb2af9", func := "lists/listskeep.Goes", spec := "goes", recurses := true, apart := false }
def GoesSaid : Prop := goesRow.holds Tryz.pinned (OpenSpec.ofChange goesSpec)

/-- ITS FALSE NEIGHBOUR: 'it returns false'. Refute it at one input. -/
def goesWrong : ChangeSpec := { name := "goes", fn := fun _ => fun
  | [d1, d2, d3, d4, d5] => { results := [.lit (.bool false)], args := [d1, d2, d3, d4, d5] }
  | _ => none }
def GoesWrongFalsely : Prop := goesRow.holds Tryz.pinned (OpenSpec.ofChange goesWrong)

/-- 'listskeep.Itself': WHATEVER THE INPUT: true; the input reads as it did. -/
def itselfSpec : ChangeSpec := { name := "itself", fn := fun _ => fun
  | [d] => { results := [.lit (.bool true)], args := [d] }
  | _ => none }
def itselfRow : OpenClaim := { program := "ytciihepbeacppaagreat", sum := "50c989a05363e4e202236fbee45f84a9531ec6b17cbbee537227d8d102cb2af9", func := "lists/listskeep.Itself", spec := "itself", recurses := true, apart := false }
def ItselfSaid : Prop := itselfRow.holds Tryz.pinned (OpenSpec.ofChange itselfSpec)

/-- ITS FALSE NEIGHBOUR: 'it returns false'. Refute it at one input. -/
def itselfWrong : ChangeSpec := { name := "itself", fn := fun _ => fun
  | [d] => { results := [.lit (.bool false)], args := [d] }
  | _ => none }
def ItselfWrongFalsely : Prop := itselfRow.holds Tryz.pinned (OpenSpec.ofChange itselfWrong)

/-- 'listskeep.Renamed': WHATEVER THE INPUT: true; the input reads as it did. -/
def renamedSpec : ChangeSpec := { name := "renamed", fn := fun _ => fun
  | [d1, d2] => { results := [.lit (.bool true)], args := [d1, d2] }
  | _ => none }
def renamedRow : OpenClaim := { program := "ytciihepbeacppaagreat", sum := "50c989a05363e4e202236fbee45f84a9531ec6b17cbbee537227d8d102cb2af9", func := "lists/listskeep.Renamed", spec := "renamed", recurses := true, apart := false }
def RenamedSaid : Prop := renamedRow.holds Tryz.pinned (OpenSpec.ofChange renamedSpec)

/-- ITS FALSE NEIGHBOUR: 'it returns false'. Refute it at one input. -/
def renamedWrong : ChangeSpec := { name := "renamed", fn := fun _ => fun
  | [d1, d2] => { results := [.lit (.bool false)], args := [d1, d2] }
  | _ => none }
def RenamedWrongFalsely : Prop := renamedRow.holds Tryz.pinned (OpenSpec.ofChange renamedWrong)

/-- 'listskeep.Skipped': WHATEVER THE INPUT: true; the input reads as it did. -/
def skippedSpec : ChangeSpec := { name := "skipped", fn := fun _ => fun
  | [d] => { results := [.lit (.bool true)], args := [d] }
  | _ => none }
def skippedRow : OpenClaim := { program := "ytciihepbeacppaagreat", sum := "50c989a05363e4e202236fbee45f84a9531ec6b17cbbee537227d8d102cb2af9", func := "lists/listskeep.Skipped", spec := "skipped", recurses := true, apart := false }
def SkippedSaid : Prop := skippedRow.holds Tryz.pinned (OpenSpec.ofChange skippedSpec)

/-- ITS FALSE NEIGHBOUR: 'it returns false'. Refute it at one input. -/
def skippedWrong : ChangeSpec := { name := "skipped", fn := fun _ => fun
  | [d] => { results := [.lit (.bool false)], args := [d] }
  | _ => none }
def SkippedWrongFalsely : Prop := skippedRow.holds Tryz.pinned (OpenSpec.ofChange skippedWrong)

/-- 'listskeep.Again': WHATEVER THE INPUT: true; the input reads as it did. -/
def againSpec : ChangeSpec := { name := "again", fn := fun _ => fun
  | [d] => { results := [.lit (.bool true)], args := [d] }
  | _ => none }
def againRow : OpenClaim := { program := "ytciihepbeacppaagreat", sum := "50c989a05363e4e202236fbee45f84a9531ec6b17cbbee537227d8d102cb2af9", func := "lists/listskeep.Again", spec := "again", recurses := true, apart := false }
def AgainSaid : Prop := againRow.holds Tryz.pinned (OpenSpec.ofChange againSpec)

/-- ITS FALSE NEIGHBOUR: 'it returns false'. Refute it at one input. -/
def againWrong : ChangeSpec := { name := "again", fn := fun _ => fun
  | [d] => { results := [.lit (.bool false)], args := [d] }
  | _ => none }
def AgainWrongFalsely : Prop := againRow.holds Tryz.pinned (OpenSpec.ofChange againWrong)

/-- 'listskeep.Framed': WHATEVER THE INPUT: true; the input reads as it did. -/
def framedSpec : ChangeSpec := { name := "framed", fn := fun _ => fun
  | [d] => { results := [.lit (.bool true)], args := [d] }
  | _ => none }
def framedRow : OpenClaim := { program := "ytciihepbeacppaagreat", sum := "50c989a05363e4e202236fbee45f84a9531ec6b17cbbee537227d8d102cb2af9", func := "lists/listskeep.Framed", spec := "framed", recurses := true, apart := false }
def FramedSaid : Prop := framedRow.holds Tryz.pinned (OpenSpec.ofChange framedSpec)

/-- ITS FALSE NEIGHBOUR: 'it returns false'. Refute it at one input. -/
def framedWrong : ChangeSpec := { name := "framed", fn := fun _ => fun
  | [d] => { results := [.lit (.bool false)], args := [d] }
  | _ => none }
def FramedWrongFalsely : Prop := framedRow.holds Tryz.pinned (OpenSpec.ofChange framedWrong)

/-- 'listskeep.Twice': WHATEVER THE INPUT: true; the input reads as it did. -/
def twiceSpec : ChangeSpec := { name := "twice", fn := fun _ => fun
  | [d] => { results := [.lit (.bool true)], args := [d] }
  | _ => none }
def twiceRow : OpenClaim := { program := "ytciihepbeacppaagreat", sum := "50c989a05363e4e202236fbee45f84a9531ec6b17cbbee537227d8d102cb2af9", func := "lists/listskeep.Twice", spec := "twice", recurses := true, apart := false }
def TwiceSaid : Prop := twiceRow.holds Tryz.pinned (OpenSpec.ofChange twiceSpec)

/-- ITS FALSE NEIGHBOUR: 'it returns false'. Refute it at one input. -/
def twiceWrong : ChangeSpec := { name := "twice", fn := fun _ => fun
  | [d] => { results := [.lit (.bool false)], args := [d] }
  | _ => none }
def TwiceWrongFalsely : Prop := twiceRow.holds Tryz.pinned (OpenSpec.ofChange twiceWrong)

/-- 'listslaw.Decides': WHATEVER THE INPUT: true; the input reads as it did. -/
def decidesSpec : ChangeSpec := { name := "decides", fn := fun _ => fun
  | [d] => { results := [.lit (.bool true)], args := [d] }
  | _ => none }
def decidesRow : OpenClaim := { program := "ytciihepbeacppaagreat", sum := "50c989a05363e4e202236fbee45f84a9531ec6b17cbbee537227d8d102cb2af9", func := "lists/listslaw.Decides", spec := "decides", recurses := true, apart := false }
def DecidesSaid : Prop := decidesRow.holds Tryz.pinned (OpenSpec.ofChange decidesSpec)

/-- ITS FALSE NEIGHBOUR: 'it returns false'. Refute it at one input. -/
def decidesWrong : ChangeSpec := { name := "decides", fn := fun _ => fun
  | [d] => { results := [.lit (.bool false)], args := [d] }
  | _ => none }
def DecidesWrongFalsely : Prop := decidesRow.holds Tryz.pinned (OpenSpec.ofChange decidesWrong)

/- THE SECOND FORM. 'bulk': how many values and letters a reading holds, each counted each time it is reached (what is shared counts as often as it is met; a slice's spare places count too). A statement '..UptoSaid' is the law's where the arguments, and the package variables that the reading takes, are together of bulk at most 1048576: NARROWER than '..Said'. Prove '..Said' where nothing that the law and all that it calls make is longer than what came in: it says more and counts as full. Else prove '..UptoSaid'. A law counts once. -/
mutual
def uptoBulk {H : Type} : DataW H → Nat
  | .lit (.string bytes) => bytes.length + 1
  | .lit _ => 1
  | .nil => 1
  | .ptr d => uptoBulk d + 1
  | .slice elems spare => uptoBulkAll elems + uptoBulkAll spare + 1
  | .agg parts => uptoBulkAll parts + 1
  | .iface _ d => uptoBulk d + 1
  | .map entries => uptoBulkEntries entries + 1
  | .held _ => 1
def uptoBulkAll {H : Type} : List (DataW H) → Nat
  | [] => 0
  | d :: r => uptoBulk d + uptoBulkAll r
def uptoBulkEntries {H : Type} : List (Lit × DataW H) → Nat
  | [] => 0
  | x :: r => uptoBulkEntry x + uptoBulkEntries r
def uptoBulkEntry {H : Type} : Lit × DataW H → Nat
  | (.string bytes, d) => bytes.length + uptoBulk d + 1
  | (_, d) => uptoBulk d + 1
 end
def uptoSmall : (H : Type) → List (DataW H) → Bool := fun _ ds => decide (uptoBulkAll ds ≤ 1048576)
def OpenSpec.upto (s : _root_.Go.ChangeSpec) : _root_.Go.OpenSpec := { _root_.Go.OpenSpec.ofChange s with cond := some uptoSmall }

/-- 'listslaw.Texts', WHERE WHAT IT READS IS OF BULK AT MOST 1048576: true; the input reads as it did. -/
def textsUptoRow : OpenClaim := { program := "ytciihepbeacppaagreat", sum := "50c989a05363e4e202236fbee45f84a9531ec6b17cbbee537227d8d102cb2af9", func := "lists/listslaw.Texts", spec := "texts", recurses := true, apart := false, narrowed := true }
def TextsUptoSaid : Prop := textsUptoRow.holds Tryz.pinned (OpenSpec.upto textsSpec)

/-- 'listslaw.Machines', WHERE WHAT IT READS IS OF BULK AT MOST 1048576: true; the input reads as it did. -/
def machinesUptoRow : OpenClaim := { program := "ytciihepbeacppaagreat", sum := "50c989a05363e4e202236fbee45f84a9531ec6b17cbbee537227d8d102cb2af9", func := "lists/listslaw.Machines", spec := "machines", recurses := true, apart := false, narrowed := true }
def MachinesUptoSaid : Prop := machinesUptoRow.holds Tryz.pinned (OpenSpec.upto machinesSpec)

/-- 'listslaw.Sounds', WHERE WHAT IT READS IS OF BULK AT MOST 1048576: true; the input reads as it did. -/
def soundsUptoRow : OpenClaim := { program := "ytciihepbeacppaagreat", sum := "50c989a05363e4e202236fbee45f84a9531ec6b17cbbee537227d8d102cb2af9", func := "lists/listslaw.Sounds", spec := "sounds", recurses := true, apart := false, narrowed := true }
def SoundsUptoSaid : Prop := soundsUptoRow.holds Tryz.pinned (OpenSpec.upto soundsSpec)

/-- 'listskeep.Goes', WHERE WHAT IT READS IS OF BULK AT MOST 1048576: true; the input reads as it did. -/
def goesUptoRow : OpenClaim := { program := "ytciihepbeacppaagreat", sum := "50c989a05363e4e202236fbee45f84a9531ec6b17cbbee537227d8d102cb2af9", func := "lists/listskeep.Goes", spec := "goes", recurses := true, apart := false, narrowed := true }
def GoesUptoSaid : Prop := goesUptoRow.holds Tryz.pinned (OpenSpec.upto goesSpec)

/-- 'listskeep.Itself', WHERE WHAT IT READS IS OF BULK AT MOST 1048576: true; the input reads as it did. -/
def itselfUptoRow : OpenClaim := { program := "ytciihepbeacppaagreat", sum := "50c989a05363e4e202236fbee45f84a9531ec6b17cbbee537227d8d102cb2af9", func := "lists/listskeep.Itself", spec := "itself", recurses := true, apart := false, narrowed := true }
def ItselfUptoSaid : Prop := itselfUptoRow.holds Tryz.pinned (OpenSpec.upto itselfSpec)

/-- 'listskeep.Renamed', WHERE WHAT IT READS IS OF BULK AT MOST 1048576: true; the input reads as it did. -/
def renamedUptoRow : OpenClaim := { program := "ytciihepbeacppaagreat", sum := "50c989a05363e4e202236fbee45f84a9531ec6b17cbbee537227d8d102cb2af9", func := "lists/listskeep.Renamed", spec := "renamed", recurses := true, apart := false, narrowed := true }
def RenamedUptoSaid : Prop := renamedUptoRow.holds Tryz.pinned (OpenSpec.upto renamedSpec)

/-- 'listskeep.Skipped', WHERE WHAT IT READS IS OF BULK AT MOST 1048576: true; the input reads as it did. -/
def skippedUptoRow : OpenClaim := { program := "ytciihepbeacppaagreat", sum := "50c989a05363e4e202236fbee45f84a9531ec6b17cbbee537227d8d102cb2af9", func := "lists/listskeep.Skipped", spec := "skipped", recurses := true, apart := false, narrowed := true }
def SkippedUptoSaid : Prop := skippedUptoRow.holds Tryz.pinned (OpenSpec.upto skippedSpec)

/-- 'listskeep.Again', WHERE WHAT IT READS IS OF BULK AT MOST 1048576: true; the input reads as it did. -/
def againUptoRow : OpenClaim := { program := "ytciihepbeacppaagreat", sum := "50c989a05363e4e202236fbee45f84a9531ec6b17cbbee537227d8d102cb2af9", func := "lists/listskeep.Again", spec := "again", recurses := true, apart := false, narrowed := true }
def AgainUptoSaid : Prop := againUptoRow.holds Tryz.pinned (OpenSpec.upto againSpec)

/-- 'listskeep.Framed', WHERE WHAT IT READS IS OF BULK AT MOST 1048576: true; the input reads as it did. -/
def framedUptoRow : OpenClaim := { program := "ytciihepbeacppaagreat", sum := "50c989a05363e4e202236fbee45f84a9531ec6b17cbbee537227d8d102cb2af9", func := "lists/listskeep.Framed", spec := "framed", recurses := true, apart := false, narrowed := true }
def FramedUptoSaid : Prop := framedUptoRow.holds Tryz.pinned (OpenSpec.upto framedSpec)

/-- 'listskeep.Twice', WHERE WHAT IT READS IS OF BULK AT MOST 1048576: true; the input reads as it did. -/
def twiceUptoRow : OpenClaim := { program := "ytciihepbeacppaagreat", sum := "50c989a05363e4e202236fbee45f84a9531ec6b17cbbee537227d8d102cb2af9", func := "lists/listskeep.Twice", spec := "twice", recurses := true, apart := false, narrowed := true }
def TwiceUptoSaid : Prop := twiceUptoRow.holds Tryz.pinned (OpenSpec.upto twiceSpec)

/-- 'listslaw.Decides', WHERE WHAT IT READS IS OF BULK AT MOST 1048576: true; the input reads as it did. -/
def decidesUptoRow : OpenClaim := { program := "ytciihepbeacppaagreat", sum := "50c989a05363e4e202236fbee45f84a9531ec6b17cbbee537227d8d102cb2af9", func := "lists/listslaw.Decides", spec := "decides", recurses := true, apart := false, narrowed := true }
def DecidesUptoSaid : Prop := decidesUptoRow.holds Tryz.pinned (OpenSpec.upto decidesSpec)

end Rows
end Go.Proofs.YtciihepbeacppaaGreat
