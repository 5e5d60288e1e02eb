import Derived.Test.YtcnhfffgbamonabGreatChecked
import Derived.WalkKit
import Derived.WalkSpells
import Derived.WalkLawsBesides
import Derived.BigQuiet
import Derived.Deep.QuietTactic
import Derived.OneCell
set_option maxRecDepth 100000
set_option maxHeartbeats 6400000
namespace Go.Proofs.YtcnhfffgbamonabGreat
open Go.Proofs.Tryz
open Go
abbrev aT:=@List.getElem?_eq_getElem
abbrev aQ:=@World.grownBy_alloc
abbrev bV:=@List.mem_of_getElem?
abbrev cX:=@List.getElem?_eq_none
abbrev bj:=@Nat.le_refl
abbrev cS:=@IntKind.wrap_i64
abbrev bK:=@Nat.zero_le
abbrev fR:=@Int.eq_ofNat_of_zero_le
abbrev dY:=@List.getElem?_map
abbrev ey:=@Int.toNat_natCast
abbrev cF:=@Nat.lt_or_ge
abbrev fh:=@Bool.and_eq_true
abbrev gL:=@World.grownBy.refl
abbrev Ac:=@List.mem_append
abbrev nU:=@List.getD_eq_getElem?_getD
abbrev jd:=@World.ownsRow.lt
abbrev jg:=@List.all_eq_true
abbrev oL:=@List.getElem?_append_right
abbrev jo:=@List.take_length
abbrev jh:=@List.length_map
abbrev j4:=@List.append_assoc
abbrev lP:=@World.ownsRow.alloc
abbrev nH:=@List.getElem?_toArray
abbrev kq:=@World.ownsRow_nil
abbrev mM:=@List.getElem?_of_mem
abbrev mQ:=@Calls.quiet_of_same
abbrev pY:=@World.block_lt_of_cell?
abbrev rn:=@List.getElem?_append_left
abbrev nC:=@List.length_append
abbrev kG:=@List.length_set
abbrev nF:=@List.ext_getElem?
abbrev lH:=@List.map_append
abbrev oe:=@List.getElem?_set
abbrev jK:=@Nat.le_trans
abbrev pq:=@List.mem_cons_self
abbrev tV:=@List.getElem?_replicate
abbrev nK:=@Bool.eq_iff_iff
abbrev qB:=@Nat.lt_of_lt_of_le
abbrev sL:=@List.mem_cons_of_mem
abbrev qe:=@List.length_cons
abbrev vF:=@List.length_replicate
abbrev uc:=@Int.toNat_of_nonneg
abbrev ak:=@if_neg
abbrev ay:=@if_pos
abbrev aN:=@absurd
abbrev eD:=@decide_eq_false
abbrev eG:=@decide_eq_true
abbrev dj:=@wpList_load_row
abbrev ng:=@wpList_append_own
abbrev pU:=@wpList_make_full
abbrev aaY:=@wpList_store_row
abbrev yi:=@World.size_setCell
abbrev Bo:=@List.take_of_length_le
abbrev j8:=@Option.some.injEq
abbrev oI:=@Addr.mk.injEq
abbrev kX:=@Int.mul_nonneg
abbrev wG:=@Nat.not_lt_zero
abbrev Ae:=@List.length_take
abbrev R4:=@List.zipWith_append
abbrev aa7:=@List.getElem?_zipWith
abbrev aa8:=@List.length_zipWith
abbrev IX:=@Array.getElem?_setIfInBounds
abbrev E7:=@Int.emod_nonneg
abbrev E8:=@Int.emod_lt_of_pos
abbrev abc:=@Nat.mod_lt
abbrev abd:=@List.nodup_append
abbrev WO:=@List.mem_singleton
abbrev abf:=@List.mem_map
namespace M
structure RS where
 bG:Nat
 fX:Bool
structure Tn where
 af:Int
 h:Int
 w:Int
 c:Int
 zero:Int
 data:List Int
structure Sc where
 eE:Int
 shift:Int
structure Op where
 af:Int
 a:Int
 b:Int
 aP:Int
 bA:Int
 to:Int
 size:Int
 aE:Int
 same:Bool
 bM:List Sc
 lo:Int
 hi:Int
 aS:Int
 below:Int
 left:Int
 right:Int
structure Md where
 au:List Tn
 ag:List Op
 aJ:List Int
def bt(s:ByteArray)(i:Nat):Int:=((s.data.toList.getD i 0).toNat:Int)
def plain(s:ByteArray)(r:RS):Int×RS:=
 if (r.fX||decide (s.size<=r.bG))=true then (0,⟨r.bG,true⟩) else (bt s r.bG,⟨r.bG+1,false⟩)
def iZ(s:ByteArray)(lo hi:Int)(r:RS):Int×RS:=
 let p:=plain s r
 if (decide (p.1<lo)||decide (hi<p.1))=true then (0,⟨p.2.bG,true⟩) else p
def dK(s:ByteArray)(r:RS):Int×RS:=
 let p:=plain s r
 (if 127<p.1 then p.1-256 else p.1,p.2)
def kU(s:ByteArray)(r:RS):Int×RS:=
 let p:=plain s r
 let q:=plain s p.2
 let t:=plain s q.2
 let u:=dK s t.2
 (u.1*16777216+t.1*65536+q.1*256+p.1,u.2)
def rep{α:Type}(f:RS->α×RS):Nat->RS->List α×RS
 | 0,r=>([],r)
 | k+1,r=>((rep f k r).1++[(f (rep f k r).2).1],(f (rep f k r).2).2)
def eY{α:Type}(f:RS->α×RS):Nat->RS->List α×RS
 | 0,r=>([],r)
 | k+1,r=>if (eY f k r).2.fX=true then eY f k r else ((eY f k r).1++[(f (eY f k r).2).1],(f (eY f k r).2).2)
def cellsOf(t:Tn):Int:=t.h*t.w*t.c
def de(s:ByteArray)(n:Int)(r:RS):Bool×RS:=
 if (s.size:Int)-r.bG<n then (false,⟨r.bG,true⟩) else (!r.fX,r)
def cells(s:ByteArray)(n:Int)(r:RS):List Int×RS:=
 if (de s n r).1=true then rep (dK s) n.toNat (de s n r).2 else ([],(de s n r).2)
def sA(s:ByteArray)(n:Int)(r:RS):List Int×RS:=
 if (de s (4*n) r).1=true then rep (kU s) n.toNat (de s (4*n) r).2 else ([],(de s (4*n) r).2)
def fF(s:ByteArray)(r:RS):Tn×RS:=
 let k:=iZ s 0 3 r
 let h:=plain s k.2
 let w:=plain s h.2
 let c:=plain s w.2
 let z:=dK s c.2
 let n:=h.1*w.1*c.1
 let d:=if k.1=1 then cells s n z.2 else if k.1=2 then sA s n z.2 else ([],z.2)
 (⟨k.1,h.1,w.1,c.1,z.1,d.1⟩,d.2)
def au(s:ByteArray)(r:RS):List Tn×RS:=
 eY (fF s) (plain s r).1.toNat (plain s r).2
def gT(s:ByteArray)(r:RS):Sc×RS:=
 let m:=kU s r
 let h:=dK s m.2
 (⟨m.1,h.1⟩,h.2)
def cm(k:Int):Bool:=k==1||k==2||k==3
def dr(k:Int):Bool:=k==4||k==10
def jZ(s:ByteArray)(o:Op)(r:RS):Op×RS:=
 let p:Op×RS:=
  if o.af=1\/o.af=2 then
   let st:=plain s r
   let sm:=iZ s 0 1 st.2
   ({ o with aE:=st.1,same:=sm.1==1 },sm.2)
  else if o.af=5\/o.af=6 then
   let sz:=plain s r
   let st:=plain s sz.2
   ({ o with size:=sz.1,aE:=st.1 },st.2)
  else if o.af=8 then
   let a:=plain s r
   let b:=plain s a.2
   let l:=plain s b.2
   let g:=plain s l.2
   ({ o with aS:=a.1,below:=b.1,left:=l.1,right:=g.1 },g.2)
  else (o,r)
 let q:Op×RS:=
  if cm o.af=true then ({ p.1 with bM:=(rep (gT s) 1 p.2).1 },(rep (gT s) 1 p.2).2) else p
 let t:Op×RS:=
  if o.af=4 then ({ q.1 with bM:=(rep (gT s) 3 q.2).1 },(rep (gT s) 3 q.2).2) else q
 if 1<=o.af/\o.af<=7 then
  let lo:=dK s t.2
  let hi:=dK s lo.2
  ({ t.1 with lo:=lo.1,hi:=hi.1 },hi.2)
 else t
def op(s:ByteArray)(r:RS):Op×RS:=
 let k:=iZ s 1 10 r
 let a:=plain s k.2
 let w:(Int×Int)×RS:=if cm k.1=true then (((plain s a.2).1,(plain s (plain s a.2).2).1),(plain s (plain s a.2).2).2) else ((0,0),a.2)
 let b:Int×RS:=if dr k.1=true then plain s w.2 else (0,w.2)
 let t:=plain s b.2
 jZ s { af:=k.1,a:=a.1,b:=b.1,aP:=w.1.1,bA:=w.1.2,to:=t.1,size:=0,aE:=0,same:=false,bM:=[],lo:=0,hi:=0,aS:=0,below:=0,left:=0,right:=0 } t.2
def ag(s:ByteArray)(r:RS):List Op×RS:=
 eY (op s) (plain s r).1.toNat (plain s r).2
def aJ(s:ByteArray)(r:RS):List Int×RS:=
 let n:=plain s r
 if (de s n.1 n.2).1=true then rep (plain s) n.1.toNat (de s n.1 n.2).2 else ([],(de s n.1 n.2).2)
def Dm:List UInt8:=[116,102,108,49]
def sB(s:ByteArray):RS:=
 if (decide (s.size<4)||decide (s.data.toList.take 4≠Dm))=true then ⟨0,true⟩ else ⟨4,false⟩
def gm(s:ByteArray):Md×RS:=
 let t:=au s (sB s)
 let o:=ag s t.2
 let u:=aJ s o.2
 (⟨t.1,o.1,u.1⟩,u.2)
def nQ(s:ByteArray):Int:=
 if 4096<s.size then 1
 else if ((gm s).2.fX||decide ((gm s).2.bG≠s.size))=true then 2 else 0
def sumTo:List Tn->Int
 | []=>0
 | t::l=>(if t.af=0\/t.af=3 then cellsOf t else 0)+sumTo l
def uX(t:Tn):Bool:=!(decide (cellsOf t<1)||decide (512<cellsOf t))
def m6(m:Md):Bool:=
 !(decide (24<m.au.length)||decide (16<m.ag.length)||m.aJ.isEmpty)&&m.au.all uX&&decide (sumTo m.au<=2048)
def m7(m:Md)(n:Int):Bool:=
 decide (0<=n)&&decide (n<m.au.length)&&(m.au.map (·.af)).getD n.toNat 0 != 2
def jJ(m:Md)(n k:Int):Bool:=
 decide (0<=n)&&decide (n<m.au.length)&&(m.au.map (·.af)).getD n.toNat 0==k
def makersTo(m:Md):Nat->Option (List Int)
 | 0=>some (List.replicate m.au.length (-1))
 | k+1=>match makersTo m k,m.ag[k]? with
  | some by_,some o=>if (!jJ m o.to 3||decide (0<=by_.getD o.to.toNat 0))=true then none else some (by_.set o.to.toNat k)
  | some by_,none=>some by_
  | none,_=>none
def zH(ts:List Tn)(by_:List Int):Bool:=
 (List.range ts.length).all fun n=>!((ts.map (·.af)).getD n 0==3&&decide (by_.getD n 0<0))
def my(m:Md):Option (List Int):=
 match makersTo m m.ag.length with
 | some by_=>if zH m.au by_=true then some by_ else none
 | none=>none
def nR(m:Md)(by_:List Int)(i n:Int):Bool:=m7 m n&&decide (n<by_.length)&&decide (by_.getD n.toNat 0<i)
def m8(m:Md)(by_:List Int)(i:Int)(o:Op):Bool:=
 nR m by_ i o.a&&(if dr o.af=true then nR m by_ i o.b else if cm o.af=false then true else jJ m o.aP 1&&jJ m o.bA 2)
def lF(m:Md):Bool:=
 match my m with
 | none=>false
 | some by_=>((List.range m.ag.length).all fun i=>match m.ag[i]? with|some o=>m8 m by_ i o|none=>true)&&m.aJ.all (m7 m)
def uY:Tn:=⟨0,0,0,0,0,[]⟩
def aq(m:Md)(n:Int):Tn:=if n<0\/(m.au.length:Int)<=n then uY else m.au.getD n.toNat uY
def kV(a z:Tn):Bool:=a.h==z.h&&a.w==z.w&&a.c==z.c
def isRow(t:Tn)(n:Int):Bool:=t.h==1&&t.w==1&&t.c==n
def dP(n length aE:Int)(same:Bool):Int:=
 if aE<1\/n<1 then 0 else if same=true then (length+aE-1)/aE else if length<n then 0 else (length-n)/aE+1
def pS(o:Op)(a w b z:Tn):Bool:=
 if z.h≠dP w.h a.h o.aE o.same\/z.w≠dP w.w a.w o.aE o.same\/isRow b z.c=false then false
 else if o.af=2 then w.c==a.c&&z.c==a.c else w.c==a.c*z.c
def qz(a w b z:Tn):Bool:=isRow z w.h&&isRow b w.h&&w.w==1&&w.c==cellsOf a
def ri(o:Op)(a z:Tn):Bool:=z.h==dP o.size a.h o.aE false&&z.w==dP o.size a.w o.aE false&&z.c==a.c
def bT(m:Md)(o:Op):Bool:=
 let a:=aq m o.a
 let z:=aq m o.to
 if o.af=1\/o.af=2 then pS o a (aq m o.aP) (aq m o.bA) z
 else if o.af=3 then qz a (aq m o.aP) (aq m o.bA) z
 else if o.af=4 then kV a z&&kV (aq m o.b) z
 else if o.af=7 then kV a z
 else if o.af=5\/o.af=6 then ri o a z
 else if o.af=8 then z.h==a.h+o.aS+o.below&&z.w==a.w+o.left+o.right&&z.c==a.c
 else if o.af=9 then cellsOf a==cellsOf z
 else if o.af=10 then let b:=aq m o.b;a.h==b.h&&a.w==b.w&&z.h==a.h&&z.w==a.w&&z.c==a.c+b.c
 else false
def zI(m:Md):Bool:=m.ag.all (bT m)
def qA(t:Tn):Bool:=
 if t.af≠2 then true else t.data.all (fun v=>!(decide (1073741824<v)||decide (v < -1073741824)))&&t.zero==0
def rj(c:Sc):Bool:=!(decide (c.eE<1073741824)||decide (2147483647<c.eE)||decide (c.shift < -31)||decide (30<c.shift))
def jS(m:Md)(o:Op):Bool:=
 if cm o.af=true then (aq m o.aP).zero==0
 else if o.af=4 then true
 else let a:=aq m o.a;let z:=aq m o.to
  if dr o.af=true then a.zero==z.zero&&(aq m o.b).zero==z.zero else a.zero==z.zero
def lG(m:Md)(o:Op):Bool:=!(decide (o.hi<o.lo))&&o.bM.all rj&&jS m o
def sC(m:Md):Bool:=m.au.all qA&&m.ag.all (lG m)
def check(m:Md):Int:=
 if m6 m=false then 3 else if lF m=false then 4 else if zI m=false then 5 else if sC m=false then 6 else 0
def ff(s:ByteArray):Int:=if nQ s≠0 then nQ s else check (gm s).1
end M
open Go.RowKit
def aj(w:World)(b:Nat)(t:TypeId)(cs:Array Value):Prop:=w.heap[b]?=some (.cells cs t (0,0))
theorem aj.lt{w:World}{b:Nat}{t:TypeId}{cs:Array Value}(h:aj w b t cs):b<w.heap.size:=lt_of_block h
theorem aj.cell{w:World}{b:Nat}{t:TypeId}{cs:Array Value}(h:aj w b t cs)(i:Nat):w.cell? ⟨b,i,none⟩=cs[i]?:=cell_of_row w b i cs t (0,0) h
theorem aj.free{w:World}{b:Nat}{t:TypeId}{cs:Array Value}(h:aj w b t cs)(i:Nat):w.frozen? ⟨b,i,none⟩=false:=by
 unfold aj at h;simp[World.frozen?,h]
theorem aj.set{w:World}{b:Nat}{t:TypeId}{cs:Array Value}(h:aj w b t cs)(i:Nat)(v:Value):aj (w.setCell ⟨b,i,none⟩ v) b t (cs.setIfInBounds i v):=by
 have aK:=h.lt;unfold aj at h ⊢;have h':w.heap[b]=.cells cs t (0,0):=by simpa[Array.getElem?_eq_getElem aK] using h
 show(w.heap.modify b _)[b]?=_;rw[Array.getElem?_eq_getElem (by simpa using aK),Array.getElem_modify_self,h']
 rfl
theorem aj.yf{w:World}{b:Nat}{t:TypeId}{cs:Array Value}(h:aj w b t cs){a:Addr}(ha:b≠a.block)(v:Value):aj (w.setCell a v) b t cs:=by
 unfold aj at h ⊢;rw[Below.heap_setCell _ _ _ _ ha];exact h
theorem aj.alloc{w:World}{b:Nat}{t:TypeId}{cs:Array Value}(h:aj w b t cs)(o:Obj):aj (w.alloc o) b t cs:=by
 have aK:=h.lt;unfold aj at h ⊢;rw[Below.heap_alloc _ _ _ aK];exact h
theorem aj.bB(w:World)(t:TypeId)(cs:Array Value):aj (w.alloc (.cells cs t)) w.heap.size t cs:=heap_alloc_new w _
theorem aj.yg(w:World)(o:Obj)(t:TypeId)(cs:Array Value):aj ((w.alloc o).alloc (.cells cs t)) (w.heap.size+1) t cs:=by
 have h:=aj.bB (w.alloc o) t cs
 rwa [World.size_alloc] at h
theorem wQ(g j:Nat):(⟨g,0,none⟩:Addr).add j=⟨g,j,none⟩:=by unfold Addr.add;split<;>simp_all
theorem VB(w:World)(o:Obj)(T:TypeId)(cs:Array Value):∀j u,cs.toList[j]?=some u->((w.alloc o).alloc (.cells cs T)).cell? ((⟨w.heap.size+1,0,none⟩:Addr).add j)=some u:=by
 intro j u hu;rw[wQ,(aj.yg w o T cs).cell j]
 simpa using hu
theorem aj.drew{w:World}{b:Nat}{t:TypeId}{cs:Array Value}(h:aj w b t cs):aj w.drew b t cs:=h
theorem aj.drewN{w:World}{b:Nat}{t:TypeId}{cs:Array Value}(h:aj w b t cs)(n:Nat):aj (w.drewN n) b t cs:=h
theorem aj.kept{w w':World}{b:Nat}{t:TypeId}{cs:Array Value}{row:Option Nat}(h:aj w b t cs)(hg:w.grownBy w' row)(eF:some b≠row):aj w' b t cs:=by
 have aK:=h.lt;unfold aj at h ⊢;rw[hg.block b aK eF];exact h
theorem bF(w:World)(n:Nat)(row:Option Nat):w.grownBy (w.drewN n) row:=⟨rfl,rfl,rfl,bj _,fun _ _ _=>rfl⟩
theorem gH(w:World)(row:Option Nat):w.grownBy w.drew row:=⟨rfl,rfl,rfl,bj _,fun _ _ _=>rfl⟩
theorem bD(w:World)(b i:Nat)(v:Value):w.grownBy (w.setCell ⟨b,i,none⟩ v) (some b):=
 ⟨rfl,rfl,rfl,by simp,fun k _ hk=>Below.heap_setCell _ _ _ _ (by intro e;exact hk (by simp[e]))⟩
theorem nT(w:World)(o o':Obj)(row:Option Nat):w.grownBy ((w.alloc o).alloc o') row:=
 ⟨rfl,rfl,rfl,by simp;omega,fun k hk _=>(Below.heap_alloc _ _ _ (by simp;omega)).trans (Below.heap_alloc _ _ _ hk)⟩
theorem aC{a w w':World}{row:Option Nat}(h:a.grownBy w row)(k:w.grownBy w' row):a.grownBy w' row:=
 ⟨k.os.trans h.os,k.tape.trans h.tape,k.output.trans h.output,jK h.size k.size,fun i hi eF=>(k.block i (qB hi h.size) eF).trans (h.block i hi eF)⟩
theorem pd{a w:World}{row:Option Nat}(h:a.grownBy w none):a.grownBy w row:=⟨h.os,h.tape,h.output,h.size,fun i hi _=>h.block i hi (by simp)⟩
theorem dF{a w w':World}{row:Option Nat}{g:Nat}(h:a.grownBy w row)(k:w.grownBy w' (some g))(hg:a.heap.size<=g):a.grownBy w' row:=
 ⟨k.os.trans h.os,k.tape.trans h.tape,k.output.trans h.output,jK h.size k.size,
  fun i hi eF=>(k.block i (qB hi h.size) (by intro e;injection e with e;omega)).trans (h.block i hi eF)⟩
theorem mA{a w w':World}{row VC:Option Nat}(h:a.grownBy w row)(k:w.grownBy w' VC)(hg:∀g,VC=some g->a.heap.size<=g):a.grownBy w' row:=
 ⟨k.os.trans h.os,k.tape.trans h.tape,k.output.trans h.output,jK h.size k.size,
  fun i hi eF=>(k.block i (qB hi h.size) (by intro e;have:=hg i e.symm;omega)).trans (h.block i hi eF)⟩
theorem GD{w w':World}(h:w.grownBy w' none):Below w.heap.size w w':=⟨h.os,h.tape,h.output,h.size,fun k hk=>h.block k hk (by simp)⟩
theorem Bn{w w':World}(h:Below w.heap.size w w'):w.grownBy w' none:=⟨h.os,h.tape,h.output,h.size,fun k hk _=>h.block k hk⟩
theorem ae{p:Prop}(h:p):Hid p:=h
theorem EU{p:Prop}(h:Hid p):p:=h
theorem cE{k:IntKind}{a b:Int}(h:a=b):Ending.returned (.int k a)=.returned (.int k b):=by rw[h]
theorem bq{a b:Bool}(h:a=b):Ending.returned (.bool a)=.returned (.bool b):=by rw[h]
def Rd(w:World)(b:Nat)(s:ByteArray)(r:M.RS):Prop:=aj w b 154 #[.string s,.int .i64 r.bG,.bool r.fX]
theorem Rd.cells{w:World}{b:Nat}{s:ByteArray}{r:M.RS}(h:Rd w b s r) :
  w.cell? ⟨b,0,none⟩=some (.string s)/\w.cell? ⟨b,1,none⟩=some (.int .i64 r.bG)/\w.cell? ⟨b,2,none⟩=some (.bool r.fX)/\w.frozen? ⟨b,1,none⟩=false/\w.frozen? ⟨b,2,none⟩=false:=
 ⟨aj.cell h 0,aj.cell h 1,aj.cell h 2,aj.free h 1,aj.free h 2⟩
theorem Rd.fX{w:World}{b:Nat}{s:ByteArray}{p:Nat}{q:Bool}(h:Rd w b s ⟨p,q⟩)(n:Nat):Rd ((w.drewN n).setCell ⟨b,2,none⟩ (.bool true)) b s ⟨p,true⟩/\w.grownBy ((w.drewN n).setCell ⟨b,2,none⟩ (.bool true)) (some b):=
 ⟨aj.set (aj.drewN h n) 2 _,aC (bF w n _) (bD _ _ _ _)⟩
theorem agz(s:ByteArray)(p:Nat)(hp:p<s.size):M.bt s p=(s[p].toNat:Int):=by
 unfold M.bt;have h:s.data.toList.getD p 0=s[p]:=by
  have h1:s.data.toList[p]?=some s[p]:=by
   rw[aT (by simpa using hp)];rfl
  rw[nU,h1];rfl
 rw[h]
theorem agA(c:UInt8):wrap64 (c.toNat:Int)=(c.toNat:Int):=by
 have:=c.toNat_lt;unfold wrap64;omega
theorem agB(b:Nat)(s:ByteArray)(p:Nat)(w:World)(h:Rd w b s ⟨p,true⟩) :
  Calls prog 124 #[.pointer (some ⟨b,0,none⟩)] w fun e w'=>e=.returned (.int .i64 0)/\Rd w' b s ⟨p,true⟩/\w.grownBy w' (some b):=by
 have H:Hid (Rd w b s ⟨p,true⟩):=h;obtain⟨c0,c1,c2,f1,f2⟩:=h.cells;clear h;go_enter func124,ntmps124;go_wp2;go_quiet (fail);go_wp2;go_ret;exact⟨rfl,H.out.fX _⟩
theorem agC(b:Nat)(s:ByteArray)(p:Nat)(w:World)(h:Rd w b s ⟨p,false⟩)(hp:s.size<=p)(_hs:s.size<=140737488351232)(_hq:p<=s.size) :
  Calls prog 124 #[.pointer (some ⟨b,0,none⟩)] w fun e w'=>e=.returned (.int .i64 0)/\Rd w' b s ⟨p,true⟩/\w.grownBy w' (some b):=by
 have H:Hid (Rd w b s ⟨p,false⟩):=h;obtain⟨c0,c1,c2,f1,f2⟩:=h.cells;clear h;have hd:decide ((s.size:Int)<=(p:Int))=true:=by simp;omega
 go_enter func124,ntmps124;go_wp2;go_quiet (fail);go_wp2;go_ret;exact⟨rfl,H.out.fX _⟩
theorem agD(b:Nat)(s:ByteArray)(p:Nat)(w:World)(h:Rd w b s ⟨p,false⟩)(hp:p<s.size)(hs:s.size<=140737488351232) :
  Calls prog 124 #[.pointer (some ⟨b,0,none⟩)] w fun e w'=>e=.returned (.int .i64 (M.bt s p))/\Rd w' b s ⟨p+1,false⟩/\w.grownBy w' (some b):=by
 have H:Hid (Rd w b s ⟨p,false⟩):=h;obtain⟨c0,c1,c2,f1,f2⟩:=h.cells;clear h;have hd:decide ((s.size:Int)<=(p:Int))=false:=by simp;omega
 go_enter func124,ntmps124;go_wp2;go_quiet (fail);go_wp2;go_quiet (fail);go_wp2;go_ret;exact⟨cE (by rw[agA,agz s p hp]),(aj.set (aj.drewN H.out _) 1 _:aj _ _ _ _),aC (bF w _ _) (bD _ _ _ _)⟩
theorem Dn(s:ByteArray)(r:M.RS)(hp:r.bG<=s.size):(M.plain s r).2.bG<=s.size/\0<=(M.plain s r).1/\(M.plain s r).1<=255:=by
 unfold M.plain
 split
 ·exact⟨hp,by omega,by omega⟩
 ·rename_i h
  simp only[Bool.or_eq_true,decide_eq_true_eq,not_or] at h;refine⟨by simp;omega,?_,?_⟩
  ·simp[M.bt]
  ·simp only[M.bt];have:=(s.data.toList.getD r.bG 0).toNat_lt;omega
theorem jL(b:Nat)(s:ByteArray)(r:M.RS)(w:World)(h:Rd w b s r)(hp:r.bG<=s.size)(hs:s.size<=140737488351232) :
  Calls prog 124 #[.pointer (some ⟨b,0,none⟩)] w fun e w'=>∃x r',Hid (M.plain s r=(x,r'))/\0<=x/\x<=255/\r'.bG<=s.size/\e=.returned (.int .i64 x)/\Rd w' b s r'/\w.grownBy w' (some b):=by
 have hl:=Dn s r hp
 suffices hx:Calls prog 124 #[.pointer (some ⟨b,0,none⟩)] w fun e w'=>e=.returned (.int .i64 (M.plain s r).1)/\Rd w' b s (M.plain s r).2/\w.grownBy w' (some b) from
  hx.mono fun e w' ⟨h1,h2,h3⟩=>⟨_,_,rfl,hl.2.1,hl.2.2,hl.1,h1,h2,h3⟩
 obtain⟨p,q⟩:=r
 cases q with
 | true=>
  have e:M.plain s ⟨p,true⟩=(0,⟨p,true⟩):=by simp[M.plain]
  rw[e];exact agB b s p w h
 | false=>
  by_cases aK:p<s.size
  ·have e:M.plain s ⟨p,false⟩=(M.bt s p,⟨p+1,false⟩):=by simp[M.plain];omega
   rw[e];exact agD b s p w h aK hs
  ·have e:M.plain s ⟨p,false⟩=(0,⟨p,true⟩):=by simp[M.plain];omega
   rw[e];exact agC b s p w h (by omega) hs hp
theorem pe(b:Nat)(s:ByteArray)(r:M.RS)(w:World)(h:Rd w b s r)(hp:r.bG<=s.size)(hs:s.size<=140737488351232) :
  Calls prog 159 #[.pointer (some ⟨b,0,none⟩)] w fun e w'=>∃x r',Hid (M.dK s r=(x,r'))/\-128<=x/\x<=127/\r'.bG<=s.size/\e=.returned (.int .i64 x)/\Rd w' b s r'/\w.grownBy w' (some b):=by
 go_enter func159,ntmps159;go_wp2_with fail;refine(jL b s r _ h hp hs).mono ?_;rintro e w1⟨x,r1,hx,h0,h1,eV,rfl,hR,hg⟩;by_cases hc:127<x
 ·go_wp2
  go_ret;exact⟨_,_,by simp only[Hid,M.dK,hx.out,ay hc],by omega,by omega,eV,rfl,hR,hg⟩
 ·go_wp2
  go_ret;exact⟨_,_,by simp only[Hid,M.dK,hx.out,ak (Int.not_lt.2 hc)],by omega,by omega,eV,rfl,hR,hg⟩
theorem EV(b:Nat)(s:ByteArray)(r:M.RS)(lo hi:Int)(w:World)(h:Rd w b s r)(hp:r.bG<=s.size)(hs:s.size<=140737488351232)(_hl:0<=lo)(_hh:lo<=hi)(_h2:hi<=255):
  Calls prog 158 #[.pointer (some ⟨b,0,none⟩),.int .i64 lo,.int .i64 hi] w fun e w'=>∃x r',Hid (M.iZ s lo hi r=(x,r'))/\0<=x/\x<=hi/\r'.bG<=s.size/\e=.returned (.int .i64 x)/\Rd w' b s r'/\w.grownBy w' (some b):=by
 go_enter func158,ntmps158;go_wp2_with fail;refine(jL b s r _ h hp hs).mono ?_;rintro e w1⟨x,r1,hx,h0,h1,eV,rfl,hR,hg⟩;obtain⟨c0,c1,c2,f1,f2⟩:=hR.cells;by_cases hc:x<lo
 ·go_wp2
  go_ret;refine⟨0,⟨r1.bG,true⟩,by simp[Hid,M.iZ,hx.out,hc],by omega,by omega,eV,rfl,?_⟩;exact⟨aj.set hR 2 _,aC hg (bD _ _ _ _)⟩
 ·by_cases hd:hi<x
  ·go_wp2
   go_ret;refine⟨0,⟨r1.bG,true⟩,by simp[Hid,M.iZ,hx.out,hd],by omega,by omega,eV,rfl,?_⟩;exact⟨aj.set hR 2 _,aC hg (bD _ _ _ _)⟩
  ·go_wp2
   go_ret;exact⟨x,r1,by simp only[Hid,M.iZ,hx.out];rw[ak (by simp;omega)],by omega,by omega,eV,rfl,hR,hg⟩
theorem VD(b:Nat)(s:ByteArray)(r:M.RS)(w:World)(h:Rd w b s r)(hp:r.bG<=s.size)(hs:s.size<=140737488351232) :
  Calls prog 172 #[.pointer (some ⟨b,0,none⟩)] w fun e w'=>∃x r',Hid (M.kU s r=(x,r'))/\-2147483648<=x/\x<=2147483647/\r'.bG<=s.size/\e=.returned (.int .i64 x)/\Rd w' b s r'/\w.grownBy w' (some b):=by
 go_enter func172,ntmps172;go_wp2_with fail;refine(jL b s r _ h hp hs).mono ?_;rintro e w1⟨x1,r1,df,l1,u1,eV,rfl,gI,aH⟩;go_wp2_with fail;refine(jL b s r1 _ gI eV hs).mono ?_;rintro e w2⟨x2,r2,dL,l2,u2,fY,rfl,gK,aM⟩;go_wp2_with fail;refine(jL b s r2 _ gK fY hs).mono ?_;rintro e w3⟨x3,r3,im,l3,u3,qC,rfl,kW,aU⟩;go_wp2_with fail;refine(pe b s r3 _ kW qC hs).mono ?_;rintro e w4⟨x4,r4,gU,l4,u4,mB,rfl,jb,bm⟩;go_wp2;go_ret;exact⟨_,_,by simp only[Hid,M.kU,df.out,dL.out,im.out,gU.out],by omega,by omega,mB,rfl,jb,aC aH (aC aM (aC aU bm))⟩
theorem agE{s:ByteArray}{n:Int}{r:M.RS}(h:(s.size:Int)-r.bG<n):M.de s n r=(false,⟨r.bG,true⟩):=by simp[M.de,h]
theorem agF{s:ByteArray}{n:Int}{r:M.RS}(h:n<=(s.size:Int)-r.bG):M.de s n r=(!r.fX,r):=by unfold M.de;rw[ak (by omega)]
theorem PB(b:Nat)(s:ByteArray)(r:M.RS)(n:Int)(w:World)(h:Rd w b s r)(hp:r.bG<=s.size)(_hs:s.size<=140737488351232)(_h0:0<=n)(_h1:n<=140737488351232) :
  Calls prog 127 #[.pointer (some ⟨b,0,none⟩),.int .i64 n] w fun e w'=>∃x r',Hid (M.de s n r=(x,r'))/\r'.bG<=s.size/\e=.returned (.bool x)/\Rd w' b s r'/\w.grownBy w' (some b):=by
 obtain⟨c0,c1,c2,f1,f2⟩:=h.cells;have H:Hid (Rd w b s r):=h;clear h;by_cases hc:(s.size:Int)-r.bG<n
 ·have bE:decide ((s.size:Int)-(r.bG:Int)<n)=true:=by simpa using hc
  go_enter func127,ntmps127;go_wp2;go_quiet (fail);go_wp2;go_ret;exact⟨_,_,agE hc,hp,rfl,aj.set (aj.drewN H.out _) 2 _,aC (bF w _ _) (bD _ _ _ _)⟩
 ·have bE:decide ((s.size:Int)-(r.bG:Int)<n)=false:=by simpa using hc
  go_enter func127,ntmps127;go_wp2;go_quiet (fail);go_wp2;go_ret;exact⟨_,_,agF (by omega),hp,rfl,aj.drewN H.out _,bF w _ _⟩
theorem Tryz.oH:(prog.info? 3).map (fun i=>(i.zero,i.size,i.bytes))=some (some (.int .i64 0),1,8):=by kernel_rfl
def aZ(w:World)(base:Nat)(v:Value)(xs:List Int):Prop:=w.ownsRow base 3 1 v xs.length (xs.map (Value.int .i64))
theorem aZ.mono{w:World}{base base':Nat}{v:Value}{xs:List Int}(h:aZ w base v xs)(hb:base'<=base):aZ w base' v xs:=by
 refine⟨h.1,?_⟩;rcases h.2 with h2|⟨g,cap,dV,h1,h2,h3⟩
 ·exact .inl h2
 ·exact .inr ⟨g,cap,dV,h1,jK hb h2,h3⟩
theorem aZ.nil(w:World)(base:Nat):aZ w base (.slice none 0 0) []:=kq _ _ _ _
theorem aZ.kept{w w':World}{base b:Nat}{v:Value}{xs:List Int}(h:aZ w base v xs)(hg:w.grownBy w' (some b))(hb:b<base):aZ w' base v xs:=by
 refine World.ownsRow.kept h hg ?_
 cases hv:v.ownBlock with
 | none=>exact .inl rfl
 | some g=>exact .inr (by have:=(jd h g hv).1;intro e;injection e with e;omega)
theorem aZ.Z{w w':World}{base:Nat}{v:Value}{xs:List Int}(h:aZ w base v xs)(hg:w.grownBy w' none):aZ w' base v xs:=by
 refine World.ownsRow.kept h hg ?_
 cases hv:v.ownBlock with
 | none=>exact .inl rfl
 | some g=>exact .inr (by simp)
theorem aZ.tM{w:World}{base g n:Nat}{xs:List Int}(hb:base<=g)(hn:xs.length=n)(hm:n<=maxLen)(h:aj w g 3 (xs.map (Value.int .i64)).toArray):aZ w base (.slice (some ⟨g,0,none⟩) n n) xs:=by
 subst hn;exact⟨by simp,.inr ⟨g,_,_,rfl,hb,h,bj _,hm,by simp,Bo (by simp)⟩⟩
theorem PC{s:ByteArray}{n:Int}{r r':M.RS}(h:M.de s n r=(true,r')):n<=(s.size:Int)-r.bG/\r'=r:=by
 unfold M.de at h
 split at h
 ·simp at h
 ·simp only[Prod.mk.injEq] at h;exact⟨by omega,h.2.symm⟩
def pT(f:M.RS->Int×M.RS)(n k:Nat)(r:M.RS):Array Value:=(((M.rep f k r).1++List.replicate (n-k) 0).map (Value.int .i64)).toArray
theorem Bp{α:Type}(f:M.RS->α×M.RS)(k:Nat)(r:M.RS):(M.rep f k r).1.length=k:=by
 induction k with
 | zero=>rfl
 | succ k ih=>simp[M.rep,ih]
theorem PD(f:M.RS->Int×M.RS)(n k:Nat)(r:M.RS)(h:k<n)(x:Int)(hx:(f (M.rep f k r).2).1=x):(pT f n k r).setIfInBounds k (.int .i64 x)=pT f n (k+1) r:=by
 have hl:=Bp f k r;have e:n-k=(n-(k+1))+1:=by omega
 unfold pT;rw[e,List.replicate_succ]
 apply Array.toList_inj.1
 rw[Array.toList_setIfInBounds];simp only[M.rep,lH,List.map_cons,List.map_nil,j4,hx];rw[List.set_append_right _ _ (by simp[hl])];simp[hl]
theorem agG(f:M.RS->Int×M.RS)(n k:Nat)(r:M.RS)(h:k<=n):(pT f n k r).size=n:=by
 have hl:=Bp f k r;simp[pT,hl];omega
theorem PE(f:M.RS->Int×M.RS)(n k j:Nat)(r:M.RS)(h:k<=n)(hj:j<n):∃x,(pT f n k r)[j]?=some (.int .i64 x):=by
 have hl:=Bp f k r;have hz:=agG f n k r h;rw[Array.getElem?_eq_getElem (by omega)];unfold pT;rw[List.getElem_toArray,List.getElem_map];exact⟨_,rfl⟩
theorem PF(f:M.RS->Int×M.RS)(n:Nat)(r:M.RS):pT f n 0 r=(List.replicate n (Value.int .i64 0)).toArray:=by simp[pT,M.rep]
theorem PG(f:M.RS->Int×M.RS)(n:Nat)(r:M.RS):pT f n n r=((M.rep f n r).1.map (Value.int .i64)).toArray:=by simp[pT]
theorem wR{w:World}{base g n:Nat}(h:w.ownsRow base 3 1 (.slice (some ⟨g,0,none⟩) n n) n (madeCells #[Value.int .i64 0] n).toList):aj w g 3 (List.replicate n (Value.int .i64 0)).toArray:=by
 rcases h.2 with⟨h',_⟩|⟨g',Ll,dV,h',_,hg,_,_,hz,ht⟩
 ·simp at h'
 ·simp only[Value.slice.injEq,j8,oI,and_true,true_and] at h'
  obtain⟨rfl,rfl⟩:=h';unfold aj;rw[hg];have e:dV.toList=List.replicate n (Value.int .i64 0):=by
   rw[Bo (by simp[hz])] at ht;rw[ht];exact toList_madeCells_one _ _
  rw[<-e]
theorem VE(s:ByteArray)(r:M.RS)(h:r.bG<=s.size):(M.dK s r).2.bG<=s.size:=(Dn s r h).1
theorem agH(s:ByteArray)(r:M.RS)(h:r.bG<=s.size):(M.plain s r).2.bG<=s.size:=(Dn s r h).1
theorem agI(s:ByteArray)(r:M.RS)(h:r.bG<=s.size):(M.kU s r).2.bG<=s.size:=
 VE s _ (Dn s _ (Dn s _ (Dn s r h).1).1).1
theorem PH{α:Type}{f:M.RS->α×M.RS}{s:ByteArray}(hf:∀r,r.bG<=s.size->(f r).2.bG<=s.size)(k:Nat)(r:M.RS)(h:r.bG<=s.size):(M.rep f k r).2.bG<=s.size:=by
 induction k with
 | zero=>exact h
 | succ k ih=>exact hf _ ih
theorem agJ(b:Nat)(s:ByteArray)(r:M.RS)(n:Nat)(w:World)(h:Rd w b s r)(hp:r.bG<=s.size)(hs:s.size<=4096)(hn:n<=16777216) :
  Calls prog 160 #[.pointer (some ⟨b,0,none⟩),.int .i64 n] w fun e w'=>∃v l r',Hid (M.cells s n r=(l,r'))/\r'.bG<=s.size/\e=.returned v/\aZ w' w.heap.size v l/\Rd w' b s r'/\w.grownBy w' (some b):=by
 obtain⟨i0,hi,cQ,cR,cZ⟩:=info_parts Tryz.oH;have dh:=h.lt;go_enter func160,ntmps160;go_wp2_with fail;refine(PB b s r n _ h hp (by omega) (by omega) (by omega)).mono ?_;rintro e w1⟨x,r1,hx,eV,rfl,gI,aH⟩
 cases x with
 | false=>
  go_wp2;go_ret;exact⟨_,[],r1,by simp[Hid,M.cells,hx.out],eV,rfl,aZ.nil _ _,gI,aH⟩
 | true=>
  have tN:=PC hx.out;obtain⟨tN,rfl⟩:=tN;go_wp2_with (at_make;refine pU _ rfl _ _ 32 rfl w1.heap.size 3 i0 (.int .i64 0) 1 underlying32 hi cQ cR _ _ _ _ n rfl rfl rfl rfl ?c1 ?c2 ?c3 ?_)
  case c1=>rw[cZ];omega
  case c2=>unfold maxLen;omega
  case c3=>exact bj _
  intro w2 cB aM;have hB:=wR cB;have gK:Rd w2 b s r1:=aj.kept gI aM (by simp);have uZ:w.grownBy w2 (some b):=aC aH (pd aM);have jm:w.heap.size<=w1.heap.size:=aH.size;have PI:b<w1.heap.size:=qB dh jm;rw[<-PF (M.dK s) n r1] at hB;clear cB;go_wp2;go_loopw[15] (fun i wr=>∃k:Nat,k<=n/\i=.int .i64 k/\Rd wr b s (M.rep (M.dK s) k r1).2/\aj wr w1.heap.size 3 (pT (M.dK s) n k r1)/\w.grownBy wr (some b)) (fun i _=>n-(intOf i).toNat)
  case atStart=>exact⟨0,bK _,rfl,gK,hB,uZ⟩
  case round=>
   obtain⟨k,hk,rfl,jn,bU,aF⟩:=hrel;have oJ:(M.rep (M.dK s) k r1).2.bG<=s.size:=PH (fun r hr=>(VE s r hr)) k r1 eV;by_cases aK:k<n
   ·have cC:=fun x hx=>PD (M.dK s) n k r1 aK x hx
    generalize Bs:(M.rep (M.dK s) k r1).2=rk at *;have GF:=ae cC;have GG:=ae Bs;clear cC Bs;go_wp2_with fail;refine(pe b s rk _ jn oJ (by omega)).mono ?_;rintro e w3⟨x,r3,im,l3,u3,qC,rfl,kW,aU⟩;have iA:aj w3 w1.heap.size 3 (pT (M.dK s) n k r1):=bU.kept aU (by simp;omega);obtain⟨y,hy⟩:=PE (M.dK s) n k k r1 hk aK;have hc:=iA.cell k;rw[hy] at hc;have hf:=iA.free k;go_wp2;go_roundw
    case rel=>
     refine⟨k+1,by omega,by go_num,?_,?_,?_⟩
     ·have e:(M.rep (M.dK s) (k+1) r1).2=r3:=by simp only[M.rep];rw[EU GG,im.out]
      rw[e];exact aj.yf kW (by simp;omega) _
     ·rw[<-EU GF x (by rw[im.out])];exact aj.set iA k _
     ·exact dF (aC aF aU) (bD _ _ _ _) jm
    case measure=>simp[intOf];omega
   ·obtain rfl:k=n:=by omega
    go_wp2;go_ret;refine⟨_,_,_,by simp only[Hid,M.cells,hx.out];rfl,by simpa using oJ,rfl,?_,by simpa using jn,aF⟩;rw[PG] at bU;exact aZ.tM jm (by simp[Bp]) (by unfold maxLen;omega) (by simpa using bU)
theorem agK(b:Nat)(s:ByteArray)(r:M.RS)(n:Nat)(w:World)(h:Rd w b s r)(hp:r.bG<=s.size)(hs:s.size<=4096)(hn:n<=16777216) :
  Calls prog 161 #[.pointer (some ⟨b,0,none⟩),.int .i64 n] w fun e w'=>∃v l r',Hid (M.sA s n r=(l,r'))/\r'.bG<=s.size/\e=.returned v/\aZ w' w.heap.size v l/\Rd w' b s r'/\w.grownBy w' (some b):=by
 obtain⟨i0,hi,cQ,cR,cZ⟩:=info_parts Tryz.oH;have dh:=h.lt;go_enter func161,ntmps161;go_wp2_with fail;refine(PB b s r (4*n) _ h hp (by omega) (by omega) (by omega)).mono ?_;rintro e w1⟨x,r1,hx,eV,rfl,gI,aH⟩
 cases x with
 | false=>
  go_wp2;go_ret;exact⟨_,[],r1,by simp[Hid,M.sA,hx.out],eV,rfl,aZ.nil _ _,gI,aH⟩
 | true=>
  have tN:=PC hx.out;obtain⟨tN,rfl⟩:=tN;go_wp2_with (at_make;refine pU _ rfl _ _ 32 rfl w1.heap.size 3 i0 (.int .i64 0) 1 underlying32 hi cQ cR _ _ _ _ n rfl rfl rfl rfl ?c1 ?c2 ?c3 ?_)
  case c1=>rw[cZ];omega
  case c2=>unfold maxLen;omega
  case c3=>exact bj _
  intro w2 cB aM;have hB:=wR cB;have gK:Rd w2 b s r1:=aj.kept gI aM (by simp);have uZ:w.grownBy w2 (some b):=aC aH (pd aM);have jm:w.heap.size<=w1.heap.size:=aH.size;have PI:b<w1.heap.size:=qB dh jm;rw[<-PF (M.kU s) n r1] at hB;clear cB;go_wp2;go_loopw[16] (fun i wr=>∃k:Nat,k<=n/\i=.int .i64 k/\Rd wr b s (M.rep (M.kU s) k r1).2/\aj wr w1.heap.size 3 (pT (M.kU s) n k r1)/\w.grownBy wr (some b)) (fun i _=>n-(intOf i).toNat)
  case atStart=>exact⟨0,bK _,rfl,gK,hB,uZ⟩
  case round=>
   obtain⟨k,hk,rfl,jn,bU,aF⟩:=hrel;have oJ:(M.rep (M.kU s) k r1).2.bG<=s.size:=PH (fun r hr=>(agI s r hr)) k r1 eV;by_cases aK:k<n
   ·have cC:=fun x hx=>PD (M.kU s) n k r1 aK x hx
    generalize Bs:(M.rep (M.kU s) k r1).2=rk at *;have GF:=ae cC;have GG:=ae Bs;clear cC Bs;go_wp2_with fail;refine(VD b s rk _ jn oJ (by omega)).mono ?_;rintro e w3⟨x,r3,im,l3,u3,qC,rfl,kW,aU⟩;have iA:aj w3 w1.heap.size 3 (pT (M.kU s) n k r1):=bU.kept aU (by simp;omega);obtain⟨y,hy⟩:=PE (M.kU s) n k k r1 hk aK;have hc:=iA.cell k;rw[hy] at hc;have hf:=iA.free k;go_wp2;go_roundw
    case rel=>
     refine⟨k+1,by omega,by go_num,?_,?_,?_⟩
     ·have e:(M.rep (M.kU s) (k+1) r1).2=r3:=by simp only[M.rep];rw[EU GG,im.out]
      rw[e];exact aj.yf kW (by simp;omega) _
     ·rw[<-EU GF x (by rw[im.out])];exact aj.set iA k _
     ·exact dF (aC aF aU) (bD _ _ _ _) jm
    case measure=>simp[intOf];omega
   ·obtain rfl:k=n:=by omega
    go_wp2;go_ret;refine⟨_,_,_,by simp only[Hid,M.sA,hx.out];rfl,by simpa using oJ,rfl,?_,by simpa using jn,aF⟩;rw[PG] at bU;exact aZ.tM jm (by simp[Bp]) (by unfold maxLen;omega) (by simpa using bU)
theorem agL(b:Nat)(s:ByteArray)(r:M.RS)(w:World)(h:Rd w b s r)(hp:r.bG<=s.size)(hs:s.size<=4096) :
  Calls prog 87 #[.pointer (some ⟨b,0,none⟩)] w fun e w'=>∃v l r',Hid (M.aJ s r=(l,r'))/\r'.bG<=s.size/\e=.returned v/\aZ w' w.heap.size v l/\Rd w' b s r'/\w.grownBy w' (some b):=by
 obtain⟨i0,hi,cQ,cR,cZ⟩:=info_parts Tryz.oH;have dh:=h.lt;go_enter func87,ntmps87;go_wp2_with fail;refine(jL b s r _ h hp (by omega)).mono ?_;rintro e w0⟨x0,r0,mC,l0,u0,EW,rfl,EX,wS⟩;obtain⟨n,rfl⟩:=fR l0;have hn:n<=255:=by omega
 go_wp2_with fail;refine(PB b s r0 n _ EX EW (by omega) (by omega) (by omega)).mono ?_;rintro e w1⟨x,r1,hx,eV,rfl,gI,agM⟩;have aH:w.grownBy w1 (some b):=aC wS agM
 cases x with
 | false=>
  go_wp2;go_ret;exact⟨_,[],r1,by simp[Hid,M.aJ,mC.out,hx.out],eV,rfl,aZ.nil _ _,gI,aH⟩
 | true=>
  have tN:=PC hx.out;obtain⟨tN,rfl⟩:=tN;go_wp2_with (at_make;refine pU _ rfl _ _ 32 rfl w1.heap.size 3 i0 (.int .i64 0) 1 underlying32 hi cQ cR _ _ _ _ n rfl rfl rfl rfl ?c1 ?c2 ?c3 ?_)
  case c1=>rw[cZ];omega
  case c2=>unfold maxLen;omega
  case c3=>exact bj _
  intro w2 cB aM;have hB:=wR cB;have gK:Rd w2 b s r1:=aj.kept gI aM (by simp);have uZ:w.grownBy w2 (some b):=aC aH (pd aM);have jm:w.heap.size<=w1.heap.size:=aH.size;have PI:b<w1.heap.size:=qB dh jm;rw[<-PF (M.plain s) n r1] at hB;clear cB;go_wp2;go_loopw[16] (fun i wr=>∃k:Nat,k<=n/\i=.int .i64 k/\Rd wr b s (M.rep (M.plain s) k r1).2/\aj wr w1.heap.size 3 (pT (M.plain s) n k r1)/\w.grownBy wr (some b)) (fun i _=>n-(intOf i).toNat)
  case atStart=>exact⟨0,bK _,rfl,gK,hB,uZ⟩
  case round=>
   obtain⟨k,hk,rfl,jn,bU,aF⟩:=hrel;have oJ:(M.rep (M.plain s) k r1).2.bG<=s.size:=PH (fun r hr=>(agH s r hr)) k r1 eV;by_cases aK:k<n
   ·have cC:=fun x hx=>PD (M.plain s) n k r1 aK x hx
    generalize Bs:(M.rep (M.plain s) k r1).2=rk at *;have GF:=ae cC;have GG:=ae Bs;clear cC Bs;go_wp2_with fail;refine(jL b s rk _ jn oJ (by omega)).mono ?_;rintro e w3⟨x,r3,im,l3,u3,qC,rfl,kW,aU⟩;have iA:aj w3 w1.heap.size 3 (pT (M.plain s) n k r1):=bU.kept aU (by simp;omega);obtain⟨y,hy⟩:=PE (M.plain s) n k k r1 hk aK;have hc:=iA.cell k;rw[hy] at hc;have hf:=iA.free k;go_wp2;go_roundw
    case rel=>
     refine⟨k+1,by omega,by go_num,?_,?_,?_⟩
     ·have e:(M.rep (M.plain s) (k+1) r1).2=r3:=by simp only[M.rep];rw[EU GG,im.out]
      rw[e];exact aj.yf kW (by simp;omega) _
     ·rw[<-EU GF x (by rw[im.out])];exact aj.set iA k _
     ·exact dF (aC aF aU) (bD _ _ _ _) jm
    case measure=>simp[intOf];omega
   ·obtain rfl:k=n:=by omega
    go_wp2;go_ret;refine⟨_,_,_,by simp only[Hid,M.aJ,mC.out,hx.out,ey];rfl,by simpa using oJ,rfl,?_,by simpa using jn,aF⟩;rw[PG] at bU;exact aZ.tM jm (by simp[Bp]) (by unfold maxLen;omega) (by simpa using bU)
theorem aZ.bT{w:World}{base:Nat}{v:Value}{xs:List Int}(h:aZ w base v xs):∃ao m c,v=.slice ao m c:=by
 rcases h.2 with⟨rfl,_⟩|⟨g,cap,dV,rfl,_⟩
 ·exact⟨_,_,_,rfl⟩
 ·exact⟨_,_,_,rfl⟩
theorem agN(b:Nat)(s:ByteArray)(r:M.RS)(n:Nat)(w:World)(h:Rd w b s r)(hp:r.bG<=s.size)(hs:s.size<=4096)(hn:n<=16777216) :
  Calls prog 160 #[.pointer (some ⟨b,0,none⟩),.int .i64 n] w fun e w'=>∃ao m c l r',Hid (M.cells s n r=(l,r'))/\r'.bG<=s.size/\e=.returned (.slice ao m c)/\aZ w' w.heap.size (.slice ao m c) l/\Rd w' b s r'/\w.grownBy w' (some b):=
 (agJ b s r n w h hp hs hn).mono fun e w' ⟨v,l,r',h1,h2,h3,h4,h5,h6⟩=>by
  obtain⟨ao,m,c,rfl⟩:=h4.bT;exact⟨ao,m,c,l,r',h1,h2,h3,h4,h5,h6⟩
theorem agO(b:Nat)(s:ByteArray)(r:M.RS)(n:Nat)(w:World)(h:Rd w b s r)(hp:r.bG<=s.size)(hs:s.size<=4096)(hn:n<=16777216) :
  Calls prog 161 #[.pointer (some ⟨b,0,none⟩),.int .i64 n] w fun e w'=>∃ao m c l r',Hid (M.sA s n r=(l,r'))/\r'.bG<=s.size/\e=.returned (.slice ao m c)/\aZ w' w.heap.size (.slice ao m c) l/\Rd w' b s r'/\w.grownBy w' (some b):=
 (agK b s r n w h hp hs hn).mono fun e w' ⟨v,l,r',h1,h2,h3,h4,h5,h6⟩=>by
  obtain⟨ao,m,c,rfl⟩:=h4.bT;exact⟨ao,m,c,l,r',h1,h2,h3,h4,h5,h6⟩
def bg(t:M.Tn)(dv:Value):Array Value:=#[.int .i64 t.af,.int .i64 t.h,.int .i64 t.w,.int .i64 t.c,.int .i64 t.zero,dv]
structure dW(t:M.Tn):Prop where
 k0:0<=t.af
 k1:t.af<=3
 h0:0<=t.h
 h1:t.h<=255
 w0:0<=t.w
 w1:t.w<=255
 c0:0<=t.c
 c1:t.c<=255
 z0:-128<=t.zero
 z1:t.zero<=127
theorem wT{h w c:Int}(h0:0<=h)(h1:h<=255)(w0:0<=w)(w1:w<=255)(c0:0<=c)(c1:c<=255):0<=h*w/\h*w<=65025/\0<=h*w*c/\h*w*c<=16581375:=by
 have a0:0<=h*w:=kX h0 w0;have a1:h*w<=255*255:=Int.mul_le_mul h1 w1 w0 (by omega);have b0:0<=h*w*c:=kX a0 c0;have b1:h*w*c<=65025*255:=Int.mul_le_mul (by omega) c1 c0 (by omega);exact⟨a0,by omega,b0,by omega⟩
theorem Lm(k h w c z:Int)(dv:Value)(W:World)(h0:0<=h)(h1:h<=255)(w0:0<=w)(w1:w<=255)(c0:0<=c)(c1:c<=255) :
  Calls prog 67 #[.agg #[.int .i64 k,.int .i64 h,.int .i64 w,.int .i64 c,.int .i64 z,dv]] W fun e W'=>e=.returned (.int .i64 (h*w*c))/\W.grownBy W' none:=by
 obtain⟨a0,a1,b0,b1⟩:=wT h0 h1 w0 w1 c0 c1;go_enter func67,ntmps67;go_wp2;go_ret;exact⟨rfl,aQ _ _ _⟩
abbrev t6(k h w c z:Int)(dv:Value):Array Value:=#[.int .i64 k,.int .i64 h,.int .i64 w,.int .i64 c,.int .i64 z,dv]
structure fU(T:TypeId)(z:Array Value)(w0 w1:World)(b:Nat)(s:ByteArray)(r:M.RS)(cs:Array Value):Prop where
 R:Rd w1 b s r
 L:aj w1 (w0.heap.size+1) T cs
 G:aj w1 w0.heap.size T z
 g:w0.grownBy w1 (some b)
 hb:b<w0.heap.size
theorem fU.start{T:TypeId}{z:Array Value}{w:World}{b:Nat}{s:ByteArray}{r:M.RS}(h:Rd w b s r):fU T z w ((w.alloc (.cells z T)).alloc (.cells z T)) b s r z:=
 ⟨aj.alloc (aj.alloc h _) _,aj.yg w _ _ _,aj.alloc (aj.bB w _ _) _,nT w _ _ _,h.lt⟩
theorem fU.call{T:TypeId}{z:Array Value}{w0 w1 w2:World}{b:Nat}{s:ByteArray}{r r':M.RS}{cs:Array Value}(h:fU T z w0 w1 b s r cs)(hR:Rd w2 b s r')(hg:w1.grownBy w2 (some b)):fU T z w0 w2 b s r' cs:=
 have hb:=h.hb
 ⟨hR,h.L.kept hg (by simp;omega),h.G.kept hg (by simp;omega),aC h.g hg,hb⟩
theorem fU.gV{T:TypeId}{z:Array Value}{w0 w1 w2:World}{b:Nat}{s:ByteArray}{r:M.RS}{cs:Array Value}(h:fU T z w0 w1 b s r cs)(hg:w1.grownBy w2 none):fU T z w0 w2 b s r cs:=
 ⟨aj.kept h.R hg (by simp),h.L.kept hg (by simp),h.G.kept hg (by simp),aC h.g (pd hg),h.hb⟩
theorem fU.put{T:TypeId}{z:Array Value}{w0 w1:World}{b:Nat}{s:ByteArray}{r:M.RS}{cs:Array Value}(h:fU T z w0 w1 b s r cs)(i:Nat)(v:Value):fU T z w0 (w1.setCell ⟨w0.heap.size+1,i,none⟩ v) b s r (cs.setIfInBounds i v):=
 have hb:=h.hb
 ⟨aj.yf h.R (by simp;omega) _,aj.set h.L i v,h.G.yf (by simp) _,dF h.g (bD _ _ _ _) (by omega),hb⟩
theorem mD{w:World}{L T:Nat}{k h v c z:Int}{dv:Value}(hL:aj w L T (t6 k h v c z dv)):w.cell? ⟨L,0,none⟩=some (.int .i64 k)/\w.cell? ⟨L,1,none⟩=some (.int .i64 h)/\w.cell? ⟨L,2,none⟩=some (.int .i64 v)/\w.cell? ⟨L,3,none⟩=some (.int .i64 c)/\w.cell? ⟨L,4,none⟩=some (.int .i64 z)/\w.cell? ⟨L,5,none⟩=some dv:=
 ⟨hL.cell 0,hL.cell 1,hL.cell 2,hL.cell 3,hL.cell 4,hL.cell 5⟩
theorem wU{w:World}{L T:Nat}{cs:Array Value}(hL:aj w L T cs):w.frozen? ⟨L,0,none⟩=false/\w.frozen? ⟨L,1,none⟩=false/\w.frozen? ⟨L,2,none⟩=false/\w.frozen? ⟨L,3,none⟩=false/\w.frozen? ⟨L,4,none⟩=false/\w.frozen? ⟨L,5,none⟩=false:=
 ⟨hL.free 0,hL.free 1,hL.free 2,hL.free 3,hL.free 4,hL.free 5⟩
theorem PJ{w0 w1:World}{b:Nat}{s:ByteArray}{r:M.RS}{k h v c z:Int}{dv:Value}{cs:Array Value}(h:fU 106 (t6 k h v c z dv) w0 w1 b s r cs)(v0 v1 v2 v3 v4 v5:Value) :
  Rd ((((((w1.setCell ⟨w0.heap.size,0,none⟩ v0).setCell ⟨w0.heap.size,1,none⟩ v1).setCell ⟨w0.heap.size,2,none⟩ v2).setCell ⟨w0.heap.size,3,none⟩ v3).setCell ⟨w0.heap.size,4,none⟩ v4).setCell ⟨w0.heap.size,5,none⟩ v5) b s r /\
  w1.grownBy ((((((w1.setCell ⟨w0.heap.size,0,none⟩ v0).setCell ⟨w0.heap.size,1,none⟩ v1).setCell ⟨w0.heap.size,2,none⟩ v2).setCell ⟨w0.heap.size,3,none⟩ v3).setCell ⟨w0.heap.size,4,none⟩ v4).setCell ⟨w0.heap.size,5,none⟩ v5) (some w0.heap.size) /\
  aj ((((((w1.setCell ⟨w0.heap.size,0,none⟩ v0).setCell ⟨w0.heap.size,1,none⟩ v1).setCell ⟨w0.heap.size,2,none⟩ v2).setCell ⟨w0.heap.size,3,none⟩ v3).setCell ⟨w0.heap.size,4,none⟩ v4).setCell ⟨w0.heap.size,5,none⟩ v5) w0.heap.size 106 #[v0,v1,v2,v3,v4,v5]:=by
 have hb:=h.hb;have hg:=aC (bD w1 w0.heap.size 0 v0) (aC (bD _ w0.heap.size 1 v1) (aC (bD _ w0.heap.size 2 v2) (aC (bD _ w0.heap.size 3 v3) (aC (bD _ w0.heap.size 4 v4) (bD _ w0.heap.size 5 v5)))));exact⟨aj.kept h.R hg (by simp;omega),hg,(((((h.G.set 0 v0).set 1 v1).set 2 v2).set 3 v3).set 4 v4).set 5 v5⟩
theorem PK{W:World}{G:Nat}{v0 v1 v2 v3 v4 v5:Value}(hB:aj W G 106 #[v0,v1,v2,v3,v4,v5])(tmps:Array Value)(ht:tmps[2]?.getD undef=.pointer (some ⟨G,0,none⟩)):(results Tryz.f125 tmps).run prog W=.ok (.agg #[v0,v1,v2,v3,v4,v5]) W:=by
 have q0:W.cell? ⟨G,0,none⟩=some v0:=hB.cell 0;have q1:W.cell? ⟨G,1,none⟩=some v1:=hB.cell 1;have q2:W.cell? ⟨G,2,none⟩=some v2:=hB.cell 2;have q3:W.cell? ⟨G,3,none⟩=some v3:=hB.cell 3;have q4:W.cell? ⟨G,4,none⟩=some v4:=hB.cell 4;have q5:W.cell? ⟨G,5,none⟩=some v5:=hB.cell 5;simp[results,Tryz.results125,go_sem,ht,q0,q1,q2,q3,q4,q5]
theorem agP{s:ByteArray}{r r1 r2 r3 r4 r5:M.RS}{x1 x2 x3 x4 x5:Int}(h1:M.iZ s 0 3 r=(x1,r1))(h2:M.plain s r1=(x2,r2))(h3:M.plain s r2=(x3,r3))(h4:M.plain s r3=(x4,r4))(h5:M.dK s r4=(x5,r5)) :
  M.fF s r=(⟨x1,x2,x3,x4,x5,(if x1=1 then M.cells s (x2*x3*x4) r5 else if x1=2 then M.sA s (x2*x3*x4) r5 else ([],r5)).1⟩,(if x1=1 then M.cells s (x2*x3*x4) r5 else if x1=2 then M.sA s (x2*x3*x4) r5 else ([],r5)).2):=by
 simp only[M.fF,h1,h2,h3,h4,h5]
theorem agQ(b:Nat)(s:ByteArray)(r:M.RS)(w:World)(h:Rd w b s r)(hp:r.bG<=s.size)(hs:s.size<=4096) :
  Calls prog 125 #[.pointer (some ⟨b,0,none⟩)] w fun e w'=>∃t dv r',Hid (M.fF s r=(t,r'))/\dW t/\r'.bG<=s.size/\e=.returned (.agg (bg t dv))/\aZ w' w.heap.size dv t.data/\Rd w' b s r'/\w.grownBy w' (some b):=by
 have I0:=fU.start (T:=106) (z:=t6 0 0 0 0 0 (.slice none 0 0)) h;go_enter func125,ntmps125;go_wp2_with fail;refine(EV b s r 0 3 _ I0.R hp (by omega) (by omega) (by omega) (by omega)).mono ?_;rintro e w1⟨x1,r1,df,l1,u1,eV,rfl,gI,aH⟩;have I1:=I0.call gI aH;have a1:w1.cell? ⟨w.heap.size+1,0,none⟩=some (.int .i64 0):=I1.L.cell 0;have b1:=I1.L.free 0;clear aH gI I0;go_wp2_with fail;refine(jL b s r1 _ (I1.put 0 (.int .i64 x1)).R eV (by omega)).mono ?_;rintro e w2⟨x2,r2,dL,l2,u2,fY,rfl,gK,aM⟩;have I2:=(I1.put 0 (.int .i64 x1)).call gK aM;clear aM gK I1 a1 b1;have a2:w2.cell? ⟨w.heap.size+1,1,none⟩=some (.int .i64 0):=I2.L.cell 1;have b2:=I2.L.free 1;go_wp2_with fail;refine(jL b s r2 _ (I2.put 1 (.int .i64 x2)).R fY (by omega)).mono ?_;rintro e w3⟨x3,r3,im,l3,u3,qC,rfl,kW,aU⟩;have I3:=(I2.put 1 (.int .i64 x2)).call kW aU;clear aU kW I2 a2 b2;have a3:w3.cell? ⟨w.heap.size+1,2,none⟩=some (.int .i64 0):=I3.L.cell 2;have b3:=I3.L.free 2;go_wp2_with fail;refine(jL b s r3 _ (I3.put 2 (.int .i64 x3)).R qC (by omega)).mono ?_;rintro e w4⟨x4,r4,gU,l4,u4,mB,rfl,jb,bm⟩;have I4:=(I3.put 2 (.int .i64 x3)).call jb bm;clear bm jb I3 a3 b3;have a4:w4.cell? ⟨w.heap.size+1,3,none⟩=some (.int .i64 0):=I4.L.cell 3;have b4:=I4.L.free 3;go_wp2_with fail;refine(pe b s r4 _ (I4.put 3 (.int .i64 x4)).R mB (by omega)).mono ?_;rintro e w5⟨x5,r5,qD,l5,u5,pV,rfl,j5,cJ⟩;have I5:=(I4.put 3 (.int .i64 x4)).call j5 cJ;clear cJ j5 I4 a4 b4;have VF:fU 106 _ w (w5.setCell ⟨w.heap.size+1,4,none⟩ (.int .i64 x5)) b s r5 (t6 x1 x2 x3 x4 x5 (.slice none 0 0)):=I5.put 4 (.int .i64 x5);have a5:w5.cell? ⟨w.heap.size+1,4,none⟩=some (.int .i64 0):=I5.L.cell 4;have b5:=I5.L.free 4;have d0:w5.cell? ⟨w.heap.size+1,0,none⟩=some (.int .i64 x1):=I5.L.cell 0
 have d1:w5.cell? ⟨w.heap.size+1,1,none⟩=some (.int .i64 x2):=I5.L.cell 1;have d2:w5.cell? ⟨w.heap.size+1,2,none⟩=some (.int .i64 x3):=I5.L.cell 2;have d3:w5.cell? ⟨w.heap.size+1,3,none⟩=some (.int .i64 x4):=I5.L.cell 3;have d5:w5.cell? ⟨w.heap.size+1,5,none⟩=some (.slice none 0 0):=I5.L.cell 5;go_wp2_with fail;refine(Lm x1 x2 x3 x4 x5 _ _ l2 u2 l3 u3 l4 u4).mono ?_;rintro e w6⟨rfl,fD⟩;have I6:=VF.gV fD;clear fD I5 VF a5 b5 d0 d1 d2 d3 d5;obtain⟨m0,m1,n0,n1⟩:=wT l2 u2 l3 u3 l4 u4;have HT:=ae (agP df.out dL.out im.out gU.out qD.out);have wf:∀l,dW ⟨x1,x2,x3,x4,x5,l⟩:=fun l=>⟨l1,u1,l2,u2,l3,u3,l4,u4,l5,u5⟩;clear df dL im gU qD;generalize x2*x3*x4=n at *;obtain⟨n,rfl⟩:=fR n0;have d0:w6.cell? ⟨w.heap.size+1,0,none⟩=some (.int .i64 x1):=I6.L.cell 0;have d1:w6.cell? ⟨w.heap.size+1,1,none⟩=some (.int .i64 x2):=I6.L.cell 1;have d2:w6.cell? ⟨w.heap.size+1,2,none⟩=some (.int .i64 x3):=I6.L.cell 2;have d3:w6.cell? ⟨w.heap.size+1,3,none⟩=some (.int .i64 x4):=I6.L.cell 3;have d4:w6.cell? ⟨w.heap.size+1,4,none⟩=some (.int .i64 x5):=I6.L.cell 4;have d5:w6.cell? ⟨w.heap.size+1,5,none⟩=some (.slice none 0 0):=I6.L.cell 5;by_cases k1:x1=1
 ·subst k1
  have PL:=I6.L.lt;go_wp2_with fail;refine(agN b s r5 n w6 I6.R pV hs (by omega)).mono ?_;rintro e w7⟨ao,m,cp,l,r7,zJ,zK,rfl,PM,sD,dJ⟩;have I7:=I6.call sD dJ;have jm:=I6.g.size;clear dJ sD I6 d0 d1 d2 d3 d4 d5;obtain⟨d0,d1,d2,d3,d4,d5⟩:=mD I7.L;obtain⟨g0,g1,g2,g3,g4,g5⟩:=mD I7.G;obtain⟨f0,f1,f2,f3,f4,f5⟩:=wU I7.G;have fL:=I7.L.free 5;go_wp2;have I8:=I7.put 5 (.slice ao m cp);obtain⟨sE,fV,gX⟩:=PJ I8 (.int .i64 1) (.int .i64 x2) (.int .i64 x3) (.int .i64 x4) (.int .i64 x5) (.slice ao m cp);have eC:=I7.hb;refine bodyPost_ret (PK gX _ rfl) rfl ?_;refine⟨⟨1,x2,x3,x4,x5,l⟩,_,r7,?_,wf l,zK,rfl,?_,sE,dF I8.g fV (bj _)⟩
  ·have e:=HT.out;rw[e];simp[Hid,zJ.out]
  ·have qE:w.heap.size+1<w6.heap.size:=Nat.lt_of_succ_le (by have:=PL;omega)
   exact((PM.kept (bD _ _ _ _) qE).kept fV (by omega)).mono jm
 ·by_cases k2:x1=2
  ·subst k2
   have PL:=I6.L.lt;go_wp2_with fail;refine(agO b s r5 n w6 I6.R pV hs (by omega)).mono ?_;rintro e w7⟨ao,m,cp,l,r7,zJ,zK,rfl,PM,sD,dJ⟩;have I7:=I6.call sD dJ;have jm:=I6.g.size;clear dJ sD I6 d0 d1 d2 d3 d4 d5;obtain⟨d0,d1,d2,d3,d4,d5⟩:=mD I7.L;obtain⟨g0,g1,g2,g3,g4,g5⟩:=mD I7.G;obtain⟨f0,f1,f2,f3,f4,f5⟩:=wU I7.G;have fL:=I7.L.free 5;go_wp2;have I8:=I7.put 5 (.slice ao m cp);obtain⟨sE,fV,gX⟩:=PJ I8 (.int .i64 2) (.int .i64 x2) (.int .i64 x3) (.int .i64 x4) (.int .i64 x5) (.slice ao m cp);have eC:=I7.hb;refine bodyPost_ret (PK gX _ rfl) rfl ?_;refine⟨⟨2,x2,x3,x4,x5,l⟩,_,r7,?_,wf l,zK,rfl,?_,sE,dF I8.g fV (bj _)⟩
   ·have e:=HT.out;rw[e];simp[Hid,zJ.out]
   ·have qE:w.heap.size+1<w6.heap.size:=Nat.lt_of_succ_le (by have:=PL;omega)
    exact((PM.kept (bD _ _ _ _) qE).kept fV (by omega)).mono jm
  ·have iq:(x1==1)=false:=by simp[k1]
   have j9:(x1==2)=false:=by simp[k2]
   have k1':=ae k1;have k2':=ae k2;clear k1 k2;obtain⟨g0,g1,g2,g3,g4,g5⟩:=mD I6.G;obtain⟨f0,f1,f2,f3,f4,f5⟩:=wU I6.G;go_wp2;obtain⟨sE,fV,gX⟩:=PJ I6 (.int .i64 x1) (.int .i64 x2) (.int .i64 x3) (.int .i64 x4) (.int .i64 x5) (.slice none 0 0);refine bodyPost_ret (PK gX _ rfl) rfl ?_;refine⟨⟨x1,x2,x3,x4,x5,[]⟩,_,r5,?_,wf _,pV,rfl,aZ.nil _ _,sE,dF I6.g fV (bj _)⟩;have e:=HT.out;rw[e];simp[Hid,k1'.out,k2'.out]
end Go.Proofs.YtcnhfffgbamonabGreat
