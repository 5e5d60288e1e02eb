/-
  What the landed code reckons, in plain functions: reading a model's bytes and checking it. No Go text, no dump.
-/
namespace Go.Proofs.YtcnhfffgbamonaaGreat
namespace M

/-- The reader: where it stands, and whether it is bad. -/
structure RS where
  pos : Nat
  bad : Bool

structure Tn where
  kind : Int
  h : Int
  w : Int
  c : Int
  zero : Int
  data : List Int

structure Sc where
  mult : Int
  shift : Int

structure Op where
  kind : Int
  a : Int
  b : Int
  weights : Int
  biases : Int
  to : Int
  size : Int
  stride : Int
  same : Bool
  scales : List Sc
  lo : Int
  hi : Int
  above : Int
  below : Int
  left : Int
  right : Int

structure Md where
  tensors : List Tn
  ops : List Op
  outs : List Int

def bt (s : ByteArray) (i : Nat) : Int := ((s.data.toList.getD i 0).toNat : Int)

def plain (s : ByteArray) (r : RS) : Int × RS :=
  if (r.bad || decide (s.size ≤ r.pos)) = true then (0, ⟨r.pos, true⟩) else (bt s r.pos, ⟨r.pos + 1, false⟩)

def within (s : ByteArray) (lo hi : Int) (r : RS) : Int × RS :=
  let p := plain s r
  if (decide (p.1 < lo) || decide (hi < p.1)) = true then (0, ⟨p.2.pos, true⟩) else p

def signed (s : ByteArray) (r : RS) : Int × RS :=
  let p := plain s r
  (if 127 < p.1 then p.1 - 256 else p.1, p.2)

def word (s : ByteArray) (r : RS) : Int × RS :=
  let p := plain s r
  let q := plain s p.2
  let t := plain s q.2
  let u := signed s t.2
  (u.1 * 16777216 + t.1 * 65536 + q.1 * 256 + p.1, u.2)

/-- k times, whatever comes. -/
def rep {α : Type} (f : RS → α × RS) : Nat → RS → List α × RS
  | 0, r => ([], r)
  | k + 1, r => ((rep f k r).1 ++ [(f (rep f k r).2).1], (f (rep f k r).2).2)

/-- k times, or till the reader is bad. -/
def repOk {α : Type} (f : RS → α × RS) : Nat → RS → List α × RS
  | 0, r => ([], r)
  | k + 1, r => if (repOk f k r).2.bad = true then repOk f k r else ((repOk f k r).1 ++ [(f (repOk f k r).2).1], (f (repOk f k r).2).2)

def cellsOf (t : Tn) : Int := t.h * t.w * t.c

def has (s : ByteArray) (n : Int) (r : RS) : Bool × RS :=
  if (s.size : Int) - r.pos < n then (false, ⟨r.pos, true⟩) else (!r.bad, r)

def cells (s : ByteArray) (n : Int) (r : RS) : List Int × RS :=
  if (has s n r).1 = true then rep (signed s) n.toNat (has s n r).2 else ([], (has s n r).2)

def words (s : ByteArray) (n : Int) (r : RS) : List Int × RS :=
  if (has s (4 * n) r).1 = true then rep (word s) n.toNat (has s (4 * n) r).2 else ([], (has s (4 * n) r).2)

def tensor (s : ByteArray) (r : RS) : Tn × RS :=
  let k := within s 0 3 r
  let h := plain s k.2
  let w := plain s h.2
  let c := plain s w.2
  let z := signed s c.2
  let n := h.1 * w.1 * c.1
  let d := if k.1 = 1 then cells s n z.2 else if k.1 = 2 then words s n z.2 else ([], z.2)
  (⟨k.1, h.1, w.1, c.1, z.1, d.1⟩, d.2)

def tensors (s : ByteArray) (r : RS) : List Tn × RS :=
  repOk (tensor s) (plain s r).1.toNat (plain s r).2

def scale (s : ByteArray) (r : RS) : Sc × RS :=
  let m := word s r
  let h := signed s m.2
  (⟨m.1, h.1⟩, h.2)

def hasWeights (k : Int) : Bool := k == 1 || k == 2 || k == 3
def readsTwo (k : Int) : Bool := k == 4 || k == 10

/-- What stands behind the tensors' numbers. -/
def ownNumbers (s : ByteArray) (o : Op) (r : RS) : Op × RS :=
  let p : Op × RS :=
    if o.kind = 1 ∨ o.kind = 2 then
      let st := plain s r
      let sm := within s 0 1 st.2
      ({ o with stride := st.1, same := sm.1 == 1 }, sm.2)
    else if o.kind = 5 ∨ o.kind = 6 then
      let sz := plain s r
      let st := plain s sz.2
      ({ o with size := sz.1, stride := st.1 }, st.2)
    else if o.kind = 8 then
      let a := plain s r
      let b := plain s a.2
      let l := plain s b.2
      let g := plain s l.2
      ({ o with above := a.1, below := b.1, left := l.1, right := g.1 }, g.2)
    else (o, r)
  let q : Op × RS :=
    if hasWeights o.kind = true then ({ p.1 with scales := (rep (scale s) 1 p.2).1 }, (rep (scale s) 1 p.2).2) else p
  let t : Op × RS :=
    if o.kind = 4 then ({ q.1 with scales := (rep (scale s) 3 q.2).1 }, (rep (scale s) 3 q.2).2) else q
  if 1 ≤ o.kind ∧ o.kind ≤ 7 then
    let lo := signed s t.2
    let hi := signed s lo.2
    ({ t.1 with lo := lo.1, hi := hi.1 }, hi.2)
  else t

def op (s : ByteArray) (r : RS) : Op × RS :=
  let k := within s 1 10 r
  let a := plain s k.2
  let w : (Int × Int) × RS := if hasWeights k.1 = true then (((plain s a.2).1, (plain s (plain s a.2).2).1), (plain s (plain s a.2).2).2) else ((0, 0), a.2)
  let b : Int × RS := if readsTwo k.1 = true then plain s w.2 else (0, w.2)
  let t := plain s b.2
  ownNumbers s { kind := k.1, a := a.1, b := b.1, weights := w.1.1, biases := w.1.2, to := t.1, size := 0, stride := 0, same := false, scales := [], lo := 0, hi := 0, above := 0, below := 0, left := 0, right := 0 } t.2

def ops (s : ByteArray) (r : RS) : List Op × RS :=
  repOk (op s) (plain s r).1.toNat (plain s r).2

def outs (s : ByteArray) (r : RS) : List Int × RS :=
  let n := plain s r
  if (has s n.1 n.2).1 = true then rep (plain s) n.1.toNat (has s n.1 n.2).2 else ([], (has s n.1 n.2).2)

def headL : List UInt8 := [116, 102, 108, 49]

def skipHead (s : ByteArray) : RS :=
  if (decide (s.size < 4) || decide (s.data.toList.take 4 ≠ headL)) = true then ⟨0, true⟩ else ⟨4, false⟩

/-- The model, and whether its form holds. -/
def readAll (s : ByteArray) : Md × RS :=
  let t := tensors s (skipHead s)
  let o := ops s t.2
  let u := outs s o.2
  (⟨t.1, o.1, u.1⟩, u.2)

def parse (s : ByteArray) : Int :=
  if 4096 < s.size then 1
  else if ((readAll s).2.bad || decide ((readAll s).2.pos ≠ s.size)) = true then 2 else 0

-- P4
def sumTo : List Tn → Int
  | [] => 0
  | t :: l => (if t.kind = 0 ∨ t.kind = 3 then cellsOf t else 0) + sumTo l

def cellsHold (t : Tn) : Bool := !(decide (cellsOf t < 1) || decide (512 < cellsOf t))

def limits (m : Md) : Bool :=
  !(decide (24 < m.tensors.length) || decide (16 < m.ops.length) || m.outs.isEmpty) && m.tensors.all cellsHold && decide (sumTo m.tensors ≤ 2048)

-- P5
def isCells (m : Md) (n : Int) : Bool :=
  decide (0 ≤ n) && decide (n < m.tensors.length) && (m.tensors.map (·.kind)).getD n.toNat 0 != 2
def isKind (m : Md) (n k : Int) : Bool :=
  decide (0 ≤ n) && decide (n < m.tensors.length) && (m.tensors.map (·.kind)).getD n.toNat 0 == k

/-- Who makes what, behind the first k operators; none: it does not hold. -/
def makersTo (m : Md) : Nat → Option (List Int)
  | 0 => some (List.replicate m.tensors.length (-1))
  | k + 1 => match makersTo m k, m.ops[k]? with
    | some by_, some o => if (!isKind m o.to 3 || decide (0 ≤ by_.getD o.to.toNat 0)) = true then none else some (by_.set o.to.toNat k)
    | some by_, none => some by_
    | none, _ => none

def madeAll (ts : List Tn) (by_ : List Int) : Bool :=
  (List.range ts.length).all fun n => !((ts.map (·.kind)).getD n 0 == 3 && decide (by_.getD n 0 < 0))

def makers (m : Md) : Option (List Int) :=
  match makersTo m m.ops.length with
  | some by_ => if madeAll m.tensors by_ = true then some by_ else none
  | none => none

def isReady (m : Md) (by_ : List Int) (i n : Int) : Bool := isCells m n && decide (n < by_.length) && decide (by_.getD n.toNat 0 < i)

def readsHold (m : Md) (by_ : List Int) (i : Int) (o : Op) : Bool :=
  isReady m by_ i o.a && (if readsTwo o.kind = true then isReady m by_ i o.b else if hasWeights o.kind = false then true else isKind m o.weights 1 && isKind m o.biases 2)

def graph (m : Md) : Bool :=
  match makers m with
  | none => false
  | some by_ => ((List.range m.ops.length).all fun i => match m.ops[i]? with | some o => readsHold m by_ i o | none => true) && m.outs.all (isCells m)

-- P6
def noTn : Tn := ⟨0, 0, 0, 0, 0, []⟩
def tensorAt (m : Md) (n : Int) : Tn := if n < 0 ∨ (m.tensors.length : Int) ≤ n then noTn else m.tensors.getD n.toNat noTn
def alike (a z : Tn) : Bool := a.h == z.h && a.w == z.w && a.c == z.c
def isRow (t : Tn) (n : Int) : Bool := t.h == 1 && t.w == 1 && t.c == n
def windows (n length stride : Int) (same : Bool) : Int :=
  if stride < 1 ∨ n < 1 then 0 else if same = true then (length + stride - 1) / stride else if length < n then 0 else (length - n) / stride + 1
def convHolds (o : Op) (a w b z : Tn) : Bool :=
  if z.h ≠ windows w.h a.h o.stride o.same ∨ z.w ≠ windows w.w a.w o.stride o.same ∨ isRow b z.c = false then false
  else if o.kind = 2 then w.c == a.c && z.c == a.c else w.c == a.c * z.c
def denseHolds (a w b z : Tn) : Bool := isRow z w.h && isRow b w.h && w.w == 1 && w.c == cellsOf a
def poolHolds (o : Op) (a z : Tn) : Bool := z.h == windows o.size a.h o.stride false && z.w == windows o.size a.w o.stride false && z.c == a.c
def shape (m : Md) (o : Op) : Bool :=
  let a := tensorAt m o.a
  let z := tensorAt m o.to
  if o.kind = 1 ∨ o.kind = 2 then convHolds o a (tensorAt m o.weights) (tensorAt m o.biases) z
  else if o.kind = 3 then denseHolds a (tensorAt m o.weights) (tensorAt m o.biases) z
  else if o.kind = 4 then alike a z && alike (tensorAt m o.b) z
  else if o.kind = 7 then alike a z
  else if o.kind = 5 ∨ o.kind = 6 then poolHolds o a z
  else if o.kind = 8 then z.h == a.h + o.above + o.below && z.w == a.w + o.left + o.right && z.c == a.c
  else if o.kind = 9 then cellsOf a == cellsOf z
  else if o.kind = 10 then let b := tensorAt m o.b; a.h == b.h && a.w == b.w && z.h == a.h && z.w == a.w && z.c == a.c + b.c
  else false
def shapes (m : Md) : Bool := m.ops.all (shape m)

-- P7
def biasesHold (t : Tn) : Bool :=
  if t.kind ≠ 2 then true else t.data.all (fun v => !(decide (1073741824 < v) || decide (v < -1073741824))) && t.zero == 0
def scaleHolds (c : Sc) : Bool := !(decide (c.mult < 1073741824) || decide (2147483647 < c.mult) || decide (c.shift < -31) || decide (30 < c.shift))
def zerosHold (m : Md) (o : Op) : Bool :=
  if hasWeights o.kind = true then (tensorAt m o.weights).zero == 0
  else if o.kind = 4 then true
  else let a := tensorAt m o.a; let z := tensorAt m o.to
    if readsTwo o.kind = true then a.zero == z.zero && (tensorAt m o.b).zero == z.zero else a.zero == z.zero
def quantOp (m : Md) (o : Op) : Bool := !(decide (o.hi < o.lo)) && o.scales.all scaleHolds && zerosHold m o
def quants (m : Md) : Bool := m.tensors.all biasesHold && m.ops.all (quantOp m)

def check (m : Md) : Int :=
  if limits m = false then 3 else if graph m = false then 4 else if shapes m = false then 5 else if quants m = false then 6 else 0

def read (s : ByteArray) : Int := if parse s ≠ 0 then parse s else check (readAll s).1

end M
end Go.Proofs.YtcnhfffgbamonaaGreat
