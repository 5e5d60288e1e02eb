/-
  No cell of these rows narrows 'for every input' (looked for: loops, veiled, ifaces, maps, wideKeys, modest, calm, conditions, laid).
  DERIVED. THE GIVEN ROWS OF THIS SEAT. 12 by the template 'for every input the law returns true; each argument reads behind the call as it read before'; 0 by the template 'total and deterministic' (their statements: YtcnhfffgbamonaaGreatTotals.lean).
  GIVEN WITH THE SEED: the statements are not yours to turn. If you find one false, say at which input.
  Laid BY PROGRAM, IN A SANDBOX (cutbox-rows.mjs): the forced cells as the released guide's own fill.sh prints them over the translation bd20f30052e79116… (all of the seat's roots in one cut). By AI agents, Wed Nov 11 2026. No macro, syntax, notation, axiom, sorry.
-/
import Derived.Test.YtcnhfffgbamonaaGreatChecked
import GoSem.Claim
import GoSem.ClaimJoined
import GoSem.ClaimMapViews
import Derived.JoinedTies
import Derived.KernelRfl
namespace Go.Proofs.YtcnhfffgbamonaaGreat
/- THE CELL 'sum', in the pinned program and in every row, IS THE sha256 OF THE DUMP (.gsa) THAT YtcnhfffgbamonaaGreatProg.lean LOADS. Nothing in Lean hashes anything: it is a label: what it is worth is what the hold of that sum in a sandbox is worth. -/
noncomputable def Tryz.pinned : Pinned := { name := "ytcnhfffgbamonaagreat", sum := "bd20f30052e79116f59594d25f1686e6fb6b2fb74ee8b4632f0d49483de7335f", checked := Tryz.checked }
namespace Rows
def none {H : Type} : Left H := { results := [], args := [] }

/-- 'netplanlaw.Compiles': WHATEVER THE INPUT: true; the input reads as it did. -/
def compilesSpec : ChangeSpec := { name := "compiles", fn := fun _ => fun
  | [d] => { results := [.lit (.bool true)], args := [d] }
  | _ => none }
def compilesRow : OpenClaim := { program := "ytcnhfffgbamonaagreat", sum := "bd20f30052e79116f59594d25f1686e6fb6b2fb74ee8b4632f0d49483de7335f", func := "netplan/netplanlaw.Compiles", spec := "compiles", apart := false }
def CompilesSaid : Prop := compilesRow.holds Tryz.pinned (OpenSpec.ofChange compilesSpec)

/-- ITS FALSE NEIGHBOUR: 'it returns false'. Refute it at one input. -/
def compilesWrong : ChangeSpec := { name := "compiles", fn := fun _ => fun
  | [d] => { results := [.lit (.bool false)], args := [d] }
  | _ => none }
def CompilesWrongFalsely : Prop := compilesRow.holds Tryz.pinned (OpenSpec.ofChange compilesWrong)

/-- 'netplanlaw.Runs': WHATEVER THE INPUT: true; the input reads as it did. -/
def runsSpec : ChangeSpec := { name := "runs", fn := fun _ => fun
  | [d] => { results := [.lit (.bool true)], args := [d] }
  | _ => none }
def runsRow : OpenClaim := { program := "ytcnhfffgbamonaagreat", sum := "bd20f30052e79116f59594d25f1686e6fb6b2fb74ee8b4632f0d49483de7335f", func := "netplan/netplanlaw.Runs", spec := "runs", apart := false }
def RunsSaid : Prop := runsRow.holds Tryz.pinned (OpenSpec.ofChange runsSpec)

/-- ITS FALSE NEIGHBOUR: 'it returns false'. Refute it at one input. -/
def runsWrong : ChangeSpec := { name := "runs", fn := fun _ => fun
  | [d] => { results := [.lit (.bool false)], args := [d] }
  | _ => none }
def RunsWrongFalsely : Prop := runsRow.holds Tryz.pinned (OpenSpec.ofChange runsWrong)

/-- 'netplanlaw.Tells': WHATEVER THE INPUT: true; the input reads as it did. -/
def tellsSpec : ChangeSpec := { name := "tells", fn := fun _ => fun
  | [d] => { results := [.lit (.bool true)], args := [d] }
  | _ => none }
def tellsRow : OpenClaim := { program := "ytcnhfffgbamonaagreat", sum := "bd20f30052e79116f59594d25f1686e6fb6b2fb74ee8b4632f0d49483de7335f", func := "netplan/netplanlaw.Tells", spec := "tells", apart := false }
def TellsSaid : Prop := tellsRow.holds Tryz.pinned (OpenSpec.ofChange tellsSpec)

/-- ITS FALSE NEIGHBOUR: 'it returns false'. Refute it at one input. -/
def tellsWrong : ChangeSpec := { name := "tells", fn := fun _ => fun
  | [d] => { results := [.lit (.bool false)], args := [d] }
  | _ => none }
def TellsWrongFalsely : Prop := tellsRow.holds Tryz.pinned (OpenSpec.ofChange tellsWrong)

/-- 'netplanlaw.Raw': WHATEVER THE INPUT: true; the input reads as it did. -/
def rawSpec : ChangeSpec := { name := "raw", fn := fun _ => fun
  | [d1, d2] => { results := [.lit (.bool true)], args := [d1, d2] }
  | _ => none }
def rawRow : OpenClaim := { program := "ytcnhfffgbamonaagreat", sum := "bd20f30052e79116f59594d25f1686e6fb6b2fb74ee8b4632f0d49483de7335f", func := "netplan/netplanlaw.Raw", spec := "raw", apart := false }
def RawSaid : Prop := rawRow.holds Tryz.pinned (OpenSpec.ofChange rawSpec)

/-- ITS FALSE NEIGHBOUR: 'it returns false'. Refute it at one input. -/
def rawWrong : ChangeSpec := { name := "raw", fn := fun _ => fun
  | [d1, d2] => { results := [.lit (.bool false)], args := [d1, d2] }
  | _ => none }
def RawWrongFalsely : Prop := rawRow.holds Tryz.pinned (OpenSpec.ofChange rawWrong)

/-- 'netplansays.Fuse': WHATEVER THE INPUT: true; the input reads as it did. -/
def fuseSpec : ChangeSpec := { name := "fuse", fn := fun _ => fun
  | [d1, d2, d3] => { results := [.lit (.bool true)], args := [d1, d2, d3] }
  | _ => none }
def fuseRow : OpenClaim := { program := "ytcnhfffgbamonaagreat", sum := "bd20f30052e79116f59594d25f1686e6fb6b2fb74ee8b4632f0d49483de7335f", func := "netplan/netplansays.Fuse", spec := "fuse", apart := false }
def FuseSaid : Prop := fuseRow.holds Tryz.pinned (OpenSpec.ofChange fuseSpec)

/-- ITS FALSE NEIGHBOUR: 'it returns false'. Refute it at one input. -/
def fuseWrong : ChangeSpec := { name := "fuse", fn := fun _ => fun
  | [d1, d2, d3] => { results := [.lit (.bool false)], args := [d1, d2, d3] }
  | _ => none }
def FuseWrongFalsely : Prop := fuseRow.holds Tryz.pinned (OpenSpec.ofChange fuseWrong)

/-- 'netplansays.Known': WHATEVER THE INPUT: true; the input reads as it did. -/
def knownSpec : ChangeSpec := { name := "known", fn := fun _ => fun
  | [d1, d2, d3] => { results := [.lit (.bool true)], args := [d1, d2, d3] }
  | _ => none }
def knownRow : OpenClaim := { program := "ytcnhfffgbamonaagreat", sum := "bd20f30052e79116f59594d25f1686e6fb6b2fb74ee8b4632f0d49483de7335f", func := "netplan/netplansays.Known", spec := "known", apart := false }
def KnownSaid : Prop := knownRow.holds Tryz.pinned (OpenSpec.ofChange knownSpec)

/-- ITS FALSE NEIGHBOUR: 'it returns false'. Refute it at one input. -/
def knownWrong : ChangeSpec := { name := "known", fn := fun _ => fun
  | [d1, d2, d3] => { results := [.lit (.bool false)], args := [d1, d2, d3] }
  | _ => none }
def KnownWrongFalsely : Prop := knownRow.holds Tryz.pinned (OpenSpec.ofChange knownWrong)

/-- 'netplansays.Dead': WHATEVER THE INPUT: true; the input reads as it did. -/
def deadSpec : ChangeSpec := { name := "dead", fn := fun _ => fun
  | [d1, d2, d3] => { results := [.lit (.bool true)], args := [d1, d2, d3] }
  | _ => none }
def deadRow : OpenClaim := { program := "ytcnhfffgbamonaagreat", sum := "bd20f30052e79116f59594d25f1686e6fb6b2fb74ee8b4632f0d49483de7335f", func := "netplan/netplansays.Dead", spec := "dead", apart := false }
def DeadSaid : Prop := deadRow.holds Tryz.pinned (OpenSpec.ofChange deadSpec)

/-- ITS FALSE NEIGHBOUR: 'it returns false'. Refute it at one input. -/
def deadWrong : ChangeSpec := { name := "dead", fn := fun _ => fun
  | [d1, d2, d3] => { results := [.lit (.bool false)], args := [d1, d2, d3] }
  | _ => none }
def DeadWrongFalsely : Prop := deadRow.holds Tryz.pinned (OpenSpec.ofChange deadWrong)

/-- 'netplansays.Pad': WHATEVER THE INPUT: true; the input reads as it did. -/
def padSpec : ChangeSpec := { name := "pad", fn := fun _ => fun
  | [d1, d2, d3] => { results := [.lit (.bool true)], args := [d1, d2, d3] }
  | _ => none }
def padRow : OpenClaim := { program := "ytcnhfffgbamonaagreat", sum := "bd20f30052e79116f59594d25f1686e6fb6b2fb74ee8b4632f0d49483de7335f", func := "netplan/netplansays.Pad", spec := "pad", apart := false }
def PadSaid : Prop := padRow.holds Tryz.pinned (OpenSpec.ofChange padSpec)

/-- ITS FALSE NEIGHBOUR: 'it returns false'. Refute it at one input. -/
def padWrong : ChangeSpec := { name := "pad", fn := fun _ => fun
  | [d1, d2, d3] => { results := [.lit (.bool false)], args := [d1, d2, d3] }
  | _ => none }
def PadWrongFalsely : Prop := padRow.holds Tryz.pinned (OpenSpec.ofChange padWrong)

/-- 'netplansays.Dense': WHATEVER THE INPUT: true; the input reads as it did. -/
def denseSpec : ChangeSpec := { name := "dense", fn := fun _ => fun
  | [d1, d2, d3] => { results := [.lit (.bool true)], args := [d1, d2, d3] }
  | _ => none }
def denseRow : OpenClaim := { program := "ytcnhfffgbamonaagreat", sum := "bd20f30052e79116f59594d25f1686e6fb6b2fb74ee8b4632f0d49483de7335f", func := "netplan/netplansays.Dense", spec := "dense", apart := false }
def DenseSaid : Prop := denseRow.holds Tryz.pinned (OpenSpec.ofChange denseSpec)

/-- ITS FALSE NEIGHBOUR: 'it returns false'. Refute it at one input. -/
def denseWrong : ChangeSpec := { name := "dense", fn := fun _ => fun
  | [d1, d2, d3] => { results := [.lit (.bool false)], args := [d1, d2, d3] }
  | _ => none }
def DenseWrongFalsely : Prop := denseRow.holds Tryz.pinned (OpenSpec.ofChange denseWrong)

/-- 'netplansays.Depth': WHATEVER THE INPUT: true; the input reads as it did. -/
def depthSpec : ChangeSpec := { name := "depth", fn := fun _ => fun
  | [d1, d2, d3] => { results := [.lit (.bool true)], args := [d1, d2, d3] }
  | _ => none }
def depthRow : OpenClaim := { program := "ytcnhfffgbamonaagreat", sum := "bd20f30052e79116f59594d25f1686e6fb6b2fb74ee8b4632f0d49483de7335f", func := "netplan/netplansays.Depth", spec := "depth", apart := false }
def DepthSaid : Prop := depthRow.holds Tryz.pinned (OpenSpec.ofChange depthSpec)

/-- ITS FALSE NEIGHBOUR: 'it returns false'. Refute it at one input. -/
def depthWrong : ChangeSpec := { name := "depth", fn := fun _ => fun
  | [d1, d2, d3] => { results := [.lit (.bool false)], args := [d1, d2, d3] }
  | _ => none }
def DepthWrongFalsely : Prop := depthRow.holds Tryz.pinned (OpenSpec.ofChange depthWrong)

/-- 'netplansays.Shape': WHATEVER THE INPUT: true; the input reads as it did. -/
def shapeSpec : ChangeSpec := { name := "shape", fn := fun _ => fun
  | [d1, d2, d3] => { results := [.lit (.bool true)], args := [d1, d2, d3] }
  | _ => none }
def shapeRow : OpenClaim := { program := "ytcnhfffgbamonaagreat", sum := "bd20f30052e79116f59594d25f1686e6fb6b2fb74ee8b4632f0d49483de7335f", func := "netplan/netplansays.Shape", spec := "shape", apart := false }
def ShapeSaid : Prop := shapeRow.holds Tryz.pinned (OpenSpec.ofChange shapeSpec)

/-- ITS FALSE NEIGHBOUR: 'it returns false'. Refute it at one input. -/
def shapeWrong : ChangeSpec := { name := "shape", fn := fun _ => fun
  | [d1, d2, d3] => { results := [.lit (.bool false)], args := [d1, d2, d3] }
  | _ => none }
def ShapeWrongFalsely : Prop := shapeRow.holds Tryz.pinned (OpenSpec.ofChange shapeWrong)

/-- 'netplansays.Pool': WHATEVER THE INPUT: true; the input reads as it did. -/
def poolSpec : ChangeSpec := { name := "pool", fn := fun _ => fun
  | [d1, d2, d3] => { results := [.lit (.bool true)], args := [d1, d2, d3] }
  | _ => none }
def poolRow : OpenClaim := { program := "ytcnhfffgbamonaagreat", sum := "bd20f30052e79116f59594d25f1686e6fb6b2fb74ee8b4632f0d49483de7335f", func := "netplan/netplansays.Pool", spec := "pool", apart := false }
def PoolSaid : Prop := poolRow.holds Tryz.pinned (OpenSpec.ofChange poolSpec)

/-- ITS FALSE NEIGHBOUR: 'it returns false'. Refute it at one input. -/
def poolWrong : ChangeSpec := { name := "pool", fn := fun _ => fun
  | [d1, d2, d3] => { results := [.lit (.bool false)], args := [d1, d2, d3] }
  | _ => none }
def PoolWrongFalsely : Prop := poolRow.holds Tryz.pinned (OpenSpec.ofChange poolWrong)

/- THE SECOND FORM. 'bulk': how many values and letters a reading holds, each counted each time it is reached (what is shared counts as often as it is met; a slice's spare places count too). A statement '..UptoSaid' is the law's where the arguments, and the package variables that the reading takes, are together of bulk at most 1048576: NARROWER than '..Said'. Prove '..Said' where nothing that the law and all that it calls make is longer than what came in: it says more and counts as full. Else prove '..UptoSaid'. A law counts once. -/
mutual
def uptoBulk {H : Type} : DataW H → Nat
  | .lit (.string bytes) => bytes.length + 1
  | .lit _ => 1
  | .nil => 1
  | .ptr d => uptoBulk d + 1
  | .slice elems spare => uptoBulkAll elems + uptoBulkAll spare + 1
  | .agg parts => uptoBulkAll parts + 1
  | .iface _ d => uptoBulk d + 1
  | .map entries => uptoBulkEntries entries + 1
  | .held _ => 1
def uptoBulkAll {H : Type} : List (DataW H) → Nat
  | [] => 0
  | d :: r => uptoBulk d + uptoBulkAll r
def uptoBulkEntries {H : Type} : List (Lit × DataW H) → Nat
  | [] => 0
  | x :: r => uptoBulkEntry x + uptoBulkEntries r
def uptoBulkEntry {H : Type} : Lit × DataW H → Nat
  | (.string bytes, d) => bytes.length + uptoBulk d + 1
  | (_, d) => uptoBulk d + 1
 end
def uptoSmall : (H : Type) → List (DataW H) → Bool := fun _ ds => decide (uptoBulkAll ds ≤ 1048576)
def OpenSpec.upto (s : _root_.Go.ChangeSpec) : _root_.Go.OpenSpec := { _root_.Go.OpenSpec.ofChange s with cond := some uptoSmall }

/-- 'netplanlaw.Compiles', WHERE WHAT IT READS IS OF BULK AT MOST 1048576: true; the input reads as it did. -/
def compilesUptoRow : OpenClaim := { program := "ytcnhfffgbamonaagreat", sum := "bd20f30052e79116f59594d25f1686e6fb6b2fb74ee8b4632f0d49483de7335f", func := "netplan/netplanlaw.Compiles", spec := "compiles", apart := false, narrowed := true }
def CompilesUptoSaid : Prop := compilesUptoRow.holds Tryz.pinned (OpenSpec.upto compilesSpec)

/-- 'netplanlaw.Runs', WHERE WHAT IT READS IS OF BULK AT MOST 1048576: true; the input reads as it did. -/
def runsUptoRow : OpenClaim := { program := "ytcnhfffgbamonaagreat", sum := "bd20f30052e79116f59594d25f1686e6fb6b2fb74ee8b4632f0d49483de7335f", func := "netplan/netplanlaw.Runs", spec := "runs", apart := false, narrowed := true }
def RunsUptoSaid : Prop := runsUptoRow.holds Tryz.pinned (OpenSpec.upto runsSpec)

/-- 'netplanlaw.Tells', WHERE WHAT IT READS IS OF BULK AT MOST 1048576: true; the input reads as it did. -/
def tellsUptoRow : OpenClaim := { program := "ytcnhfffgbamonaagreat", sum := "bd20f30052e79116f59594d25f1686e6fb6b2fb74ee8b4632f0d49483de7335f", func := "netplan/netplanlaw.Tells", spec := "tells", apart := false, narrowed := true }
def TellsUptoSaid : Prop := tellsUptoRow.holds Tryz.pinned (OpenSpec.upto tellsSpec)

/-- 'netplanlaw.Raw', WHERE WHAT IT READS IS OF BULK AT MOST 1048576: true; the input reads as it did. -/
def rawUptoRow : OpenClaim := { program := "ytcnhfffgbamonaagreat", sum := "bd20f30052e79116f59594d25f1686e6fb6b2fb74ee8b4632f0d49483de7335f", func := "netplan/netplanlaw.Raw", spec := "raw", apart := false, narrowed := true }
def RawUptoSaid : Prop := rawUptoRow.holds Tryz.pinned (OpenSpec.upto rawSpec)

/-- 'netplansays.Fuse', WHERE WHAT IT READS IS OF BULK AT MOST 1048576: true; the input reads as it did. -/
def fuseUptoRow : OpenClaim := { program := "ytcnhfffgbamonaagreat", sum := "bd20f30052e79116f59594d25f1686e6fb6b2fb74ee8b4632f0d49483de7335f", func := "netplan/netplansays.Fuse", spec := "fuse", apart := false, narrowed := true }
def FuseUptoSaid : Prop := fuseUptoRow.holds Tryz.pinned (OpenSpec.upto fuseSpec)

/-- 'netplansays.Known', WHERE WHAT IT READS IS OF BULK AT MOST 1048576: true; the input reads as it did. -/
def knownUptoRow : OpenClaim := { program := "ytcnhfffgbamonaagreat", sum := "bd20f30052e79116f59594d25f1686e6fb6b2fb74ee8b4632f0d49483de7335f", func := "netplan/netplansays.Known", spec := "known", apart := false, narrowed := true }
def KnownUptoSaid : Prop := knownUptoRow.holds Tryz.pinned (OpenSpec.upto knownSpec)

/-- 'netplansays.Dead', WHERE WHAT IT READS IS OF BULK AT MOST 1048576: true; the input reads as it did. -/
def deadUptoRow : OpenClaim := { program := "ytcnhfffgbamonaagreat", sum := "bd20f30052e79116f59594d25f1686e6fb6b2fb74ee8b4632f0d49483de7335f", func := "netplan/netplansays.Dead", spec := "dead", apart := false, narrowed := true }
def DeadUptoSaid : Prop := deadUptoRow.holds Tryz.pinned (OpenSpec.upto deadSpec)

/-- 'netplansays.Pad', WHERE WHAT IT READS IS OF BULK AT MOST 1048576: true; the input reads as it did. -/
def padUptoRow : OpenClaim := { program := "ytcnhfffgbamonaagreat", sum := "bd20f30052e79116f59594d25f1686e6fb6b2fb74ee8b4632f0d49483de7335f", func := "netplan/netplansays.Pad", spec := "pad", apart := false, narrowed := true }
def PadUptoSaid : Prop := padUptoRow.holds Tryz.pinned (OpenSpec.upto padSpec)

/-- 'netplansays.Dense', WHERE WHAT IT READS IS OF BULK AT MOST 1048576: true; the input reads as it did. -/
def denseUptoRow : OpenClaim := { program := "ytcnhfffgbamonaagreat", sum := "bd20f30052e79116f59594d25f1686e6fb6b2fb74ee8b4632f0d49483de7335f", func := "netplan/netplansays.Dense", spec := "dense", apart := false, narrowed := true }
def DenseUptoSaid : Prop := denseUptoRow.holds Tryz.pinned (OpenSpec.upto denseSpec)

/-- 'netplansays.Depth', WHERE WHAT IT READS IS OF BULK AT MOST 1048576: true; the input reads as it did. -/
def depthUptoRow : OpenClaim := { program := "ytcnhfffgbamonaagreat", sum := "bd20f30052e79116f59594d25f1686e6fb6b2fb74ee8b4632f0d49483de7335f", func := "netplan/netplansays.Depth", spec := "depth", apart := false, narrowed := true }
def DepthUptoSaid : Prop := depthUptoRow.holds Tryz.pinned (OpenSpec.upto depthSpec)

/-- 'netplansays.Shape', WHERE WHAT IT READS IS OF BULK AT MOST 1048576: true; the input reads as it did. -/
def shapeUptoRow : OpenClaim := { program := "ytcnhfffgbamonaagreat", sum := "bd20f30052e79116f59594d25f1686e6fb6b2fb74ee8b4632f0d49483de7335f", func := "netplan/netplansays.Shape", spec := "shape", apart := false, narrowed := true }
def ShapeUptoSaid : Prop := shapeUptoRow.holds Tryz.pinned (OpenSpec.upto shapeSpec)

/-- 'netplansays.Pool', WHERE WHAT IT READS IS OF BULK AT MOST 1048576: true; the input reads as it did. -/
def poolUptoRow : OpenClaim := { program := "ytcnhfffgbamonaagreat", sum := "bd20f30052e79116f59594d25f1686e6fb6b2fb74ee8b4632f0d49483de7335f", func := "netplan/netplansays.Pool", spec := "pool", apart := false, narrowed := true }
def PoolUptoSaid : Prop := poolUptoRow.holds Tryz.pinned (OpenSpec.upto poolSpec)

end Rows
end Go.Proofs.YtcnhfffgbamonaaGreat
