/-
  No cell of these rows narrows 'for every input' (looked for: loops, veiled, ifaces, maps, wideKeys, modest, calm, conditions, laid).
  DERIVED. THE GIVEN ROWS OF THIS SEAT. 3 by the template 'for every input the law returns true; each argument reads behind the call as it read before'; 0 by the template 'total and deterministic' (their statements: YtcnhfffgbamonabTotals.lean).
  GIVEN WITH THE SEED: the statements are not yours to turn. If you find one false, say at which input.
  Laid BY PROGRAM, IN A SANDBOX (cutbox-rows.mjs): the forced cells as the released guide's own fill.sh prints them over the translation de487957614c512b… (all of the seat's roots in one cut). By AI agents, Wed Nov 11 2026. No macro, syntax, notation, axiom, sorry.
-/
import Derived.Test.YtcnhfffgbamonabChecked
import GoSem.Claim
import GoSem.ClaimJoined
import GoSem.ClaimMapViews
import Derived.JoinedTies
import Derived.KernelRfl
namespace Go.Proofs.Ytcnhfffgbamonab
/- THE CELL 'sum', in the pinned program and in every row, IS THE sha256 OF THE DUMP (.gsa) THAT YtcnhfffgbamonabProg.lean LOADS. Nothing in Lean hashes anything: it is a label: what it is worth is what the hold of that sum in a sandbox is worth. -/
noncomputable def Try.pinned : Pinned := { name := "ytcnhfffgbamonab", sum := "de487957614c512b6a3b3e31aefecd45839cb716df14bd25dc2dfd76bd3eea35", checked := Try.checked }
namespace Rows
def none {H : Type} : Left H := { results := [], args := [] }

/-- 'netplansays.None': WHATEVER THE INPUT: true; the input reads as it did. -/
def noneSpec : ChangeSpec := { name := "none", fn := fun _ => fun
  | [d1, d2, d3] => { results := [.lit (.bool true)], args := [d1, d2, d3] }
  | _ => none }
def noneRow : OpenClaim := { program := "ytcnhfffgbamonab", sum := "de487957614c512b6a3b3e31aefecd45839cb716df14bd25dc2dfd76bd3eea35", func := "netplan/netplansays.None", spec := "none", apart := false }
def NoneSaid : Prop := noneRow.holds Try.pinned (OpenSpec.ofChange noneSpec)

/-- ITS FALSE NEIGHBOUR: 'it returns false'. Refute it at one input. -/
def noneWrong : ChangeSpec := { name := "none", fn := fun _ => fun
  | [d1, d2, d3] => { results := [.lit (.bool false)], args := [d1, d2, d3] }
  | _ => none }
def NoneWrongFalsely : Prop := noneRow.holds Try.pinned (OpenSpec.ofChange noneWrong)

/-- 'netplansays.Chain': WHATEVER THE INPUT: true; the input reads as it did. -/
def chainSpec : ChangeSpec := { name := "chain", fn := fun _ => fun
  | [d1, d2, d3] => { results := [.lit (.bool true)], args := [d1, d2, d3] }
  | _ => none }
def chainRow : OpenClaim := { program := "ytcnhfffgbamonab", sum := "de487957614c512b6a3b3e31aefecd45839cb716df14bd25dc2dfd76bd3eea35", func := "netplan/netplansays.Chain", spec := "chain", apart := false }
def ChainSaid : Prop := chainRow.holds Try.pinned (OpenSpec.ofChange chainSpec)

/-- ITS FALSE NEIGHBOUR: 'it returns false'. Refute it at one input. -/
def chainWrong : ChangeSpec := { name := "chain", fn := fun _ => fun
  | [d1, d2, d3] => { results := [.lit (.bool false)], args := [d1, d2, d3] }
  | _ => none }
def ChainWrongFalsely : Prop := chainRow.holds Try.pinned (OpenSpec.ofChange chainWrong)

/-- 'netplansays.Bytes': WHATEVER THE INPUT: true; the input reads as it did. -/
def bytesSpec : ChangeSpec := { name := "bytes", fn := fun _ => fun
  | [d1, d2] => { results := [.lit (.bool true)], args := [d1, d2] }
  | _ => none }
def bytesRow : OpenClaim := { program := "ytcnhfffgbamonab", sum := "de487957614c512b6a3b3e31aefecd45839cb716df14bd25dc2dfd76bd3eea35", func := "netplan/netplansays.Bytes", spec := "bytes", apart := false }
def BytesSaid : Prop := bytesRow.holds Try.pinned (OpenSpec.ofChange bytesSpec)

/-- ITS FALSE NEIGHBOUR: 'it returns false'. Refute it at one input. -/
def bytesWrong : ChangeSpec := { name := "bytes", fn := fun _ => fun
  | [d1, d2] => { results := [.lit (.bool false)], args := [d1, d2] }
  | _ => none }
def BytesWrongFalsely : Prop := bytesRow.holds Try.pinned (OpenSpec.ofChange bytesWrong)

/- THE SECOND FORM. 'bulk': how many values and letters a reading holds, each counted each time it is reached (what is shared counts as often as it is met; a slice's spare places count too). A statement '..UptoSaid' is the law's where the arguments, and the package variables that the reading takes, are together of bulk at most 1048576: NARROWER than '..Said'. Prove '..Said' where nothing that the law and all that it calls make is longer than what came in: it says more and counts as full. Else prove '..UptoSaid'. A law counts once. -/
mutual
def uptoBulk {H : Type} : DataW H → Nat
  | .lit (.string bytes) => bytes.length + 1
  | .lit _ => 1
  | .nil => 1
  | .ptr d => uptoBulk d + 1
  | .slice elems spare => uptoBulkAll elems + uptoBulkAll spare + 1
  | .agg parts => uptoBulkAll parts + 1
  | .iface _ d => uptoBulk d + 1
  | .map entries => uptoBulkEntries entries + 1
  | .held _ => 1
def uptoBulkAll {H : Type} : List (DataW H) → Nat
  | [] => 0
  | d :: r => uptoBulk d + uptoBulkAll r
def uptoBulkEntries {H : Type} : List (Lit × DataW H) → Nat
  | [] => 0
  | x :: r => uptoBulkEntry x + uptoBulkEntries r
def uptoBulkEntry {H : Type} : Lit × DataW H → Nat
  | (.string bytes, d) => bytes.length + uptoBulk d + 1
  | (_, d) => uptoBulk d + 1
 end
def uptoSmall : (H : Type) → List (DataW H) → Bool := fun _ ds => decide (uptoBulkAll ds ≤ 1048576)
def OpenSpec.upto (s : _root_.Go.ChangeSpec) : _root_.Go.OpenSpec := { _root_.Go.OpenSpec.ofChange s with cond := some uptoSmall }

/-- 'netplansays.None', WHERE WHAT IT READS IS OF BULK AT MOST 1048576: true; the input reads as it did. -/
def noneUptoRow : OpenClaim := { program := "ytcnhfffgbamonab", sum := "de487957614c512b6a3b3e31aefecd45839cb716df14bd25dc2dfd76bd3eea35", func := "netplan/netplansays.None", spec := "none", apart := false, narrowed := true }
def NoneUptoSaid : Prop := noneUptoRow.holds Try.pinned (OpenSpec.upto noneSpec)

/-- 'netplansays.Chain', WHERE WHAT IT READS IS OF BULK AT MOST 1048576: true; the input reads as it did. -/
def chainUptoRow : OpenClaim := { program := "ytcnhfffgbamonab", sum := "de487957614c512b6a3b3e31aefecd45839cb716df14bd25dc2dfd76bd3eea35", func := "netplan/netplansays.Chain", spec := "chain", apart := false, narrowed := true }
def ChainUptoSaid : Prop := chainUptoRow.holds Try.pinned (OpenSpec.upto chainSpec)

/-- 'netplansays.Bytes', WHERE WHAT IT READS IS OF BULK AT MOST 1048576: true; the input reads as it did. -/
def bytesUptoRow : OpenClaim := { program := "ytcnhfffgbamonab", sum := "de487957614c512b6a3b3e31aefecd45839cb716df14bd25dc2dfd76bd3eea35", func := "netplan/netplansays.Bytes", spec := "bytes", apart := false, narrowed := true }
def BytesUptoSaid : Prop := bytesUptoRow.holds Try.pinned (OpenSpec.upto bytesSpec)

end Rows
end Go.Proofs.Ytcnhfffgbamonab
