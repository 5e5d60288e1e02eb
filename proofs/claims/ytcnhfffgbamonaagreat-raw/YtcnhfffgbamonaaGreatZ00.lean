import Derived.Test.YtcnhfffgbamonaaGreatChecked
import Derived.WalkKit
import Derived.WalkSpells
import Derived.WalkLawsBesides
import Derived.BigQuiet
import Derived.Deep.QuietTactic
import Derived.OneCell
set_option maxRecDepth 100000
set_option maxHeartbeats 6400000
namespace Go.Proofs.YtcnhfffgbamonaaGreat
open Go.Proofs.Tryz
open Go
abbrev aS:=@List.getElem?_eq_getElem
abbrev aQ:=@World.grownBy_alloc
abbrev bU:=@List.mem_of_getElem?
abbrev db:=@List.getElem?_eq_none
abbrev bj:=@Nat.le_refl
abbrev cU:=@IntKind.wrap_i64
abbrev bK:=@Nat.zero_le
abbrev fT:=@Int.eq_ofNat_of_zero_le
abbrev dV:=@List.getElem?_map
abbrev eC:=@Int.toNat_natCast
abbrev cE:=@Nat.lt_or_ge
abbrev eX:=@Bool.and_eq_true
abbrev fZ:=@World.grownBy.refl
abbrev Ax:=@List.mem_append
abbrev oa:=@List.getD_eq_getElem?_getD
abbrev iL:=@World.ownsRow.lt
abbrev jn:=@List.all_eq_true
abbrev og:=@List.getElem?_append_right
abbrev jm:=@List.take_length
abbrev jb:=@List.length_map
abbrev j8:=@List.append_assoc
abbrev lB:=@World.ownsRow.alloc
abbrev nP:=@List.getElem?_toArray
abbrev ki:=@World.ownsRow_nil
abbrev mQ:=@List.getElem?_of_mem
abbrev mU:=@Calls.quiet_of_same
abbrev ql:=@World.block_lt_of_cell?
abbrev qT:=@List.getElem?_append_left
abbrev nJ:=@List.length_append
abbrev kK:=@List.length_set
abbrev nM:=@List.ext_getElem?
abbrev lK:=@List.map_append
abbrev ox:=@List.getElem?_set
abbrev jN:=@Nat.le_trans
abbrev pC:=@List.mem_cons_self
abbrev ui:=@List.getElem?_replicate
abbrev nR:=@Bool.eq_iff_iff
abbrev qN:=@Nat.lt_of_lt_of_le
abbrev sZ:=@List.mem_cons_of_mem
abbrev pN:=@List.length_cons
abbrev vT:=@List.length_replicate
abbrev uw:=@Int.toNat_of_nonneg
abbrev ak:=@if_neg
abbrev ay:=@if_pos
abbrev aN:=@absurd
abbrev eE:=@decide_eq_false
abbrev eG:=@decide_eq_true
abbrev dj:=@wpList_load_row
abbrev nD:=@wpList_append_own
abbrev qg:=@wpList_make_full
abbrev aaY:=@wpList_store_row
abbrev yC:=@World.size_setCell
abbrev BF:=@List.take_of_length_le
abbrev kj:=@Option.some.injEq
abbrev oP:=@Addr.mk.injEq
abbrev lg:=@Int.mul_nonneg
abbrev wT:=@Nat.not_lt_zero
abbrev xE:=@List.length_take
abbrev SL:=@List.zipWith_append
abbrev aa7:=@List.getElem?_zipWith
abbrev aa8:=@List.length_zipWith
abbrev JB:=@Array.getElem?_setIfInBounds
abbrev DS:=@Int.emod_nonneg
abbrev DU:=@Int.emod_lt_of_pos
abbrev abc:=@Nat.mod_lt
abbrev abd:=@List.nodup_append
abbrev XI:=@List.mem_singleton
abbrev abf:=@List.mem_map
namespace M
structure RS where
 bG:Nat
 gg:Bool
structure Tn where
 af:Int
 h:Int
 w:Int
 c:Int
 zero:Int
 data:List Int
structure Sc where
 eF:Int
 shift:Int
structure Op where
 af:Int
 a:Int
 b:Int
 aP:Int
 bC:Int
 to:Int
 size:Int
 aE:Int
 same:Bool
 bM:List Sc
 lo:Int
 hi:Int
 aT:Int
 below:Int
 left:Int
 right:Int
structure Md where
 au:List Tn
 ag:List Op
 aK:List Int
def bt(s:ByteArray)(i:Nat):Int:=((s.data.toList.getD i 0).toNat:Int)
def plain(s:ByteArray)(r:RS):Int×RS :=
 if (r.gg||decide (s.size<=r.bG))=true then (0,⟨r.bG,true⟩) else (bt s r.bG,⟨r.bG+1,false⟩)
def ji(s:ByteArray)(lo hi:Int)(r:RS):Int×RS :=
 let p:=plain s r
 if (decide (p.1<lo)||decide (hi<p.1))=true then (0,⟨p.2.bG,true⟩) else p
def dK(s:ByteArray)(r:RS):Int×RS :=
 let p:=plain s r
 (if 127<p.1 then p.1-256 else p.1,p.2)
def kX(s:ByteArray)(r:RS):Int×RS :=
 let p:=plain s r
 let q:=plain s p.2
 let t:=plain s q.2
 let u:=dK s t.2
 (u.1*16777216+t.1*65536+q.1*256+p.1,u.2)
def rep{α:Type}(f:RS->α×RS):Nat->RS->List α×RS
 | 0,r=>([],r)
 | k+1,r=>((rep f k r).1++[(f (rep f k r).2).1],(f (rep f k r).2).2)
def eZ{α:Type}(f:RS->α×RS):Nat->RS->List α×RS
 | 0,r=>([],r)
 | k+1,r=>if (eZ f k r).2.gg=true then eZ f k r else ((eZ f k r).1++[(f (eZ f k r).2).1],(f (eZ f k r).2).2)
def cellsOf(t:Tn):Int:=t.h*t.w*t.c
def df(s:ByteArray)(n:Int)(r:RS):Bool×RS :=
 if (s.size:Int)-r.bG<n then (false,⟨r.bG,true⟩) else (!r.gg,r)
def cells(s:ByteArray)(n:Int)(r:RS):List Int×RS :=
 if (df s n r).1=true then rep (dK s) n.toNat (df s n r).2 else ([],(df s n r).2)
def sL(s:ByteArray)(n:Int)(r:RS):List Int×RS :=
 if (df s (4*n) r).1=true then rep (kX s) n.toNat (df s (4*n) r).2 else ([],(df s (4*n) r).2)
def fH(s:ByteArray)(r:RS):Tn×RS :=
 let k:=ji s 0 3 r
 let h:=plain s k.2
 let w:=plain s h.2
 let c:=plain s w.2
 let z:=dK s c.2
 let n:=h.1*w.1*c.1
 let d:=if k.1=1 then cells s n z.2 else if k.1=2 then sL s n z.2 else ([],z.2)
 (⟨k.1,h.1,w.1,c.1,z.1,d.1⟩,d.2)
def au(s:ByteArray)(r:RS):List Tn×RS :=
 eZ (fH s) (plain s r).1.toNat (plain s r).2
def gX(s:ByteArray)(r:RS):Sc×RS :=
 let m:=kX s r
 let h:=dK s m.2
 (⟨m.1,h.1⟩,h.2)
def cm(k:Int):Bool:=k==1||k==2||k==3
def dr(k:Int):Bool:=k==4||k==10
def j7(s:ByteArray)(o:Op)(r:RS):Op×RS :=
 let p:Op×RS :=
  if o.af=1\/o.af=2 then
   let st:=plain s r
   let sm:=ji s 0 1 st.2
   ({ o with aE:=st.1,same:=sm.1==1 },sm.2)
  else if o.af=5\/o.af=6 then
   let sz:=plain s r
   let st:=plain s sz.2
   ({ o with size:=sz.1,aE:=st.1 },st.2)
  else if o.af=8 then
   let a:=plain s r
   let b:=plain s a.2
   let l:=plain s b.2
   let g:=plain s l.2
   ({ o with aT:=a.1,below:=b.1,left:=l.1,right:=g.1 },g.2)
  else (o,r)
 let q:Op×RS :=
  if cm o.af=true then ({ p.1 with bM:=(rep (gX s) 1 p.2).1 },(rep (gX s) 1 p.2).2) else p
 let t:Op×RS :=
  if o.af=4 then ({ q.1 with bM:=(rep (gX s) 3 q.2).1 },(rep (gX s) 3 q.2).2) else q
 if 1<=o.af/\o.af<=7 then
  let lo:=dK s t.2
  let hi:=dK s lo.2
  ({ t.1 with lo:=lo.1,hi:=hi.1 },hi.2)
 else t
def op(s:ByteArray)(r:RS):Op×RS :=
 let k:=ji s 1 10 r
 let a:=plain s k.2
 let w:(Int×Int)×RS:=if cm k.1=true then (((plain s a.2).1,(plain s (plain s a.2).2).1),(plain s (plain s a.2).2).2) else ((0,0),a.2)
 let b:Int×RS:=if dr k.1=true then plain s w.2 else (0,w.2)
 let t:=plain s b.2
 j7 s { af:=k.1,a:=a.1,b:=b.1,aP:=w.1.1,bC:=w.1.2,to:=t.1,size:=0,aE:=0,same:=false,bM:=[],lo:=0,hi:=0,aT:=0,below:=0,left:=0,right:=0 } t.2
def ag(s:ByteArray)(r:RS):List Op×RS :=
 eZ (op s) (plain s r).1.toNat (plain s r).2
def aK(s:ByteArray)(r:RS):List Int×RS :=
 let n:=plain s r
 if (df s n.1 n.2).1=true then rep (plain s) n.1.toNat (df s n.1 n.2).2 else ([],(df s n.1 n.2).2)
def DD:List UInt8:=[116,102,108,49]
def sM(s:ByteArray):RS :=
 if (decide (s.size<4)||decide (s.data.toList.take 4≠DD))=true then ⟨0,true⟩ else ⟨4,false⟩
def gD(s:ByteArray):Md×RS :=
 let t:=au s (sM s)
 let o:=ag s t.2
 let u:=aK s o.2
 (⟨t.1,o.1,u.1⟩,u.2)
def nY(s:ByteArray):Int :=
 if 4096<s.size then 1
 else if ((gD s).2.gg||decide ((gD s).2.bG≠s.size))=true then 2 else 0
def sumTo:List Tn->Int
 | []=>0
 | t::l=>(if t.af=0\/t.af=3 then cellsOf t else 0)+sumTo l
def vu(t:Tn):Bool:=!(decide (cellsOf t<1)||decide (512<cellsOf t))
def nj(m:Md):Bool :=
 !(decide (24<m.au.length)||decide (16<m.ag.length)||m.aK.isEmpty)&&m.au.all vu&&decide (sumTo m.au<=2048)
def lZ(m:Md)(n:Int):Bool :=
 decide (0<=n)&&decide (n<m.au.length)&&(m.au.map (·.af)).getD n.toNat 0!=2
def jM(m:Md)(n k:Int):Bool :=
 decide (0<=n)&&decide (n<m.au.length)&&(m.au.map (·.af)).getD n.toNat 0==k
def makersTo(m:Md):Nat->Option (List Int)
 | 0=>some (List.replicate m.au.length (-1))
 | k+1=>match makersTo m k,m.ag[k]? with
  | some by_,some o=>if (!jM m o.to 3||decide (0<=by_.getD o.to.toNat 0))=true then none else some (by_.set o.to.toNat k)
  | some by_,none=>some by_
  | none,_=>none
def zZ(ts:List Tn)(by_:List Int):Bool :=
 (List.range ts.length).all fun n=>!((ts.map (·.af)).getD n 0==3&&decide (by_.getD n 0<0))
def mF(m:Md):Option (List Int) :=
 match makersTo m m.ag.length with
 | some by_=>if zZ m.au by_=true then some by_ else none
 | none=>none
def ny(m:Md)(by_:List Int)(i n:Int):Bool:=lZ m n&&decide (n<by_.length)&&decide (by_.getD n.toNat 0<i)
def lI(m:Md)(by_:List Int)(i:Int)(o:Op):Bool :=
 ny m by_ i o.a&&(if dr o.af=true then ny m by_ i o.b else if cm o.af=false then true else jM m o.aP 1&&jM m o.bC 2)
def lJ(m:Md):Bool :=
 match mF m with
 | none=>false
 | some by_=>((List.range m.ag.length).all fun i=>match m.ag[i]? with|some o=>lI m by_ i o|none=>true)&&m.aK.all (lZ m)
def vx:Tn:=⟨0,0,0,0,0,[]⟩
def aq(m:Md)(n:Int):Tn:=if n<0\/(m.au.length:Int)<=n then vx else m.au.getD n.toNat vx
def kY(a z:Tn):Bool:=a.h==z.h&&a.w==z.w&&a.c==z.c
def isRow(t:Tn)(n:Int):Bool:=t.h==1&&t.w==1&&t.c==n
def dP(n length aE:Int)(same:Bool):Int :=
 if aE<1\/n<1 then 0 else if same=true then (length+aE-1)/aE else if length<n then 0 else (length-n)/aE+1
def qe(o:Op)(a w b z:Tn):Bool :=
 if z.h≠dP w.h a.h o.aE o.same\/z.w≠dP w.w a.w o.aE o.same\/isRow b z.c=false then false
 else if o.af=2 then w.c==a.c&&z.c==a.c else w.c==a.c*z.c
def qL(a w b z:Tn):Bool:=isRow z w.h&&isRow b w.h&&w.w==1&&w.c==cellsOf a
def rG(o:Op)(a z:Tn):Bool:=z.h==dP o.size a.h o.aE false&&z.w==dP o.size a.w o.aE false&&z.c==a.c
def bT(m:Md)(o:Op):Bool :=
 let a:=aq m o.a
 let z:=aq m o.to
 if o.af=1\/o.af=2 then qe o a (aq m o.aP) (aq m o.bC) z
 else if o.af=3 then qL a (aq m o.aP) (aq m o.bC) z
 else if o.af=4 then kY a z&&kY (aq m o.b) z
 else if o.af=7 then kY a z
 else if o.af=5\/o.af=6 then rG o a z
 else if o.af=8 then z.h==a.h+o.aT+o.below&&z.w==a.w+o.left+o.right&&z.c==a.c
 else if o.af=9 then cellsOf a==cellsOf z
 else if o.af=10 then let b:=aq m o.b;a.h==b.h&&a.w==b.w&&z.h==a.h&&z.w==a.w&&z.c==a.c+b.c
 else false
def z6(m:Md):Bool:=m.ag.all (bT m)
def qM(t:Tn):Bool :=
 if t.af≠2 then true else t.data.all (fun v=>!(decide (1073741824<v)||decide (v < -1073741824)))&&t.zero==0
def rH(c:Sc):Bool:=!(decide (c.eF<1073741824)||decide (2147483647<c.eF)||decide (c.shift < -31)||decide (30<c.shift))
def jV(m:Md)(o:Op):Bool :=
 if cm o.af=true then (aq m o.aP).zero==0
 else if o.af=4 then true
 else let a:=aq m o.a;let z:=aq m o.to
  if dr o.af=true then a.zero==z.zero&&(aq m o.b).zero==z.zero else a.zero==z.zero
def kB(m:Md)(o:Op):Bool:=!(decide (o.hi<o.lo))&&o.bM.all rH&&jV m o
def sN(m:Md):Bool:=m.au.all qM&&m.ag.all (kB m)
def check(m:Md):Int :=
 if nj m=false then 3 else if lJ m=false then 4 else if z6 m=false then 5 else if sN m=false then 6 else 0
def fh(s:ByteArray):Int:=if nY s≠0 then nY s else check (gD s).1
end M
open Go.RowKit
def aj(w:World)(b:Nat)(t:TypeId)(cs:Array Value):Prop:=w.heap[b]?=some (.cells cs t (0,0))
theorem aj.lt{w:World}{b:Nat}{t:TypeId}{cs:Array Value}(h:aj w b t cs):b<w.heap.size:=lt_of_block h
theorem aj.cell{w:World}{b:Nat}{t:TypeId}{cs:Array Value}(h:aj w b t cs)(i:Nat):w.cell? ⟨b,i,none⟩=cs[i]?:=cell_of_row w b i cs t (0,0) h
theorem aj.free{w:World}{b:Nat}{t:TypeId}{cs:Array Value}(h:aj w b t cs)(i:Nat):w.frozen? ⟨b,i,none⟩=false:=by
 unfold aj at h;simp[World.frozen?,h]
theorem aj.set{w:World}{b:Nat}{t:TypeId}{cs:Array Value}(h:aj w b t cs)(i:Nat)(v:Value):aj (w.setCell ⟨b,i,none⟩ v) b t (cs.setIfInBounds i v):=by
 have aJ:=h.lt;unfold aj at h ⊢;have h':w.heap[b]=.cells cs t (0,0):=by simpa[Array.getElem?_eq_getElem aJ] using h
 show(w.heap.modify b _)[b]?=_;rw[Array.getElem?_eq_getElem (by simpa using aJ),Array.getElem_modify_self,h']
 rfl
theorem aj.yz{w:World}{b:Nat}{t:TypeId}{cs:Array Value}(h:aj w b t cs){a:Addr}(ha:b≠a.block)(v:Value):aj (w.setCell a v) b t cs:=by
 unfold aj at h ⊢;rw[Below.heap_setCell _ _ _ _ ha];exact h
theorem aj.alloc{w:World}{b:Nat}{t:TypeId}{cs:Array Value}(h:aj w b t cs)(o:Obj):aj (w.alloc o) b t cs:=by
 have aJ:=h.lt;unfold aj at h ⊢;rw[Below.heap_alloc _ _ _ aJ];exact h
theorem aj.bA(w:World)(t:TypeId)(cs:Array Value):aj (w.alloc (.cells cs t)) w.heap.size t cs:=heap_alloc_new w _
theorem aj.yA(w:World)(o:Obj)(t:TypeId)(cs:Array Value):aj ((w.alloc o).alloc (.cells cs t)) (w.heap.size+1) t cs:=by
 have h:=aj.bA (w.alloc o) t cs
 rwa [World.size_alloc] at h
theorem vy(g j:Nat):(⟨g,0,none⟩:Addr).add j=⟨g,j,none⟩:=by unfold Addr.add;split<;>simp_all
theorem Wr(w:World)(o:Obj)(T:TypeId)(cs:Array Value):∀j u,cs.toList[j]?=some u->((w.alloc o).alloc (.cells cs T)).cell? ((⟨w.heap.size+1,0,none⟩:Addr).add j)=some u:=by
 intro j u hu;rw[vy,(aj.yA w o T cs).cell j]
 simpa using hu
theorem aj.drew{w:World}{b:Nat}{t:TypeId}{cs:Array Value}(h:aj w b t cs):aj w.drew b t cs:=h
theorem aj.drewN{w:World}{b:Nat}{t:TypeId}{cs:Array Value}(h:aj w b t cs)(n:Nat):aj (w.drewN n) b t cs:=h
theorem aj.kept{w w':World}{b:Nat}{t:TypeId}{cs:Array Value}{row:Option Nat}(h:aj w b t cs)(hg:w.grownBy w' row)(ey:some b≠row):aj w' b t cs:=by
 have aJ:=h.lt;unfold aj at h ⊢;rw[hg.block b aJ ey];exact h
theorem bE(w:World)(n:Nat)(row:Option Nat):w.grownBy (w.drewN n) row:=⟨rfl,rfl,rfl,bj _,fun _ _ _=>rfl⟩
theorem gE(w:World)(row:Option Nat):w.grownBy w.drew row:=⟨rfl,rfl,rfl,bj _,fun _ _ _=>rfl⟩
theorem bD(w:World)(b i:Nat)(v:Value):w.grownBy (w.setCell ⟨b,i,none⟩ v) (some b) :=
 ⟨rfl,rfl,rfl,by simp,fun k _ hk=>Below.heap_setCell _ _ _ _ (by intro e;exact hk (by simp[e]))⟩
theorem nZ(w:World)(o o':Obj)(row:Option Nat):w.grownBy ((w.alloc o).alloc o') row :=
 ⟨rfl,rfl,rfl,by simp;omega,fun k hk _=>(Below.heap_alloc _ _ _ (by simp;omega)).trans (Below.heap_alloc _ _ _ hk)⟩
theorem aC{a w w':World}{row:Option Nat}(h:a.grownBy w row)(k:w.grownBy w' row):a.grownBy w' row :=
 ⟨k.os.trans h.os,k.tape.trans h.tape,k.output.trans h.output,jN h.size k.size,fun i hi ey=>(k.block i (qN hi h.size) ey).trans (h.block i hi ey)⟩
theorem pr{a w:World}{row:Option Nat}(h:a.grownBy w none):a.grownBy w row:=⟨h.os,h.tape,h.output,h.size,fun i hi _=>h.block i hi (by simp)⟩
theorem dF{a w w':World}{row:Option Nat}{g:Nat}(h:a.grownBy w row)(k:w.grownBy w' (some g))(hg:a.heap.size<=g):a.grownBy w' row :=
 ⟨k.os.trans h.os,k.tape.trans h.tape,k.output.trans h.output,jN h.size k.size,
  fun i hi ey=>(k.block i (qN hi h.size) (by intro e;injection e with e;omega)).trans (h.block i hi ey)⟩
theorem l8{a w w':World}{row Ws:Option Nat}(h:a.grownBy w row)(k:w.grownBy w' Ws)(hg:∀g,Ws=some g->a.heap.size<=g):a.grownBy w' row :=
 ⟨k.os.trans h.os,k.tape.trans h.tape,k.output.trans h.output,jN h.size k.size,
  fun i hi ey=>(k.block i (qN hi h.size) (by intro e;have:=hg i e.symm;omega)).trans (h.block i hi ey)⟩
theorem xj{w w':World}(h:w.grownBy w' none):Below w.heap.size w w':=⟨h.os,h.tape,h.output,h.size,fun k hk=>h.block k hk (by simp)⟩
theorem BE{w w':World}(h:Below w.heap.size w w'):w.grownBy w' none:=⟨h.os,h.tape,h.output,h.size,fun k hk _=>h.block k hk⟩
theorem ae{p:Prop}(h:p):Hid p:=h
theorem Fl{p:Prop}(h:Hid p):p:=h
theorem cH{k:IntKind}{a b:Int}(h:a=b):Ending.returned (.int k a)=.returned (.int k b):=by rw[h]
theorem bB{a b:Bool}(h:a=b):Ending.returned (.bool a)=.returned (.bool b):=by rw[h]
def Rd(w:World)(b:Nat)(s:ByteArray)(r:M.RS):Prop:=aj w b 187 #[.string s,.int .i64 r.bG,.bool r.gg]
theorem Rd.cells{w:World}{b:Nat}{s:ByteArray}{r:M.RS}(h:Rd w b s r) :
  w.cell? ⟨b,0,none⟩=some (.string s)/\w.cell? ⟨b,1,none⟩=some (.int .i64 r.bG)/\w.cell? ⟨b,2,none⟩=some (.bool r.gg)/\w.frozen? ⟨b,1,none⟩=false/\w.frozen? ⟨b,2,none⟩=false :=
 ⟨aj.cell h 0,aj.cell h 1,aj.cell h 2,aj.free h 1,aj.free h 2⟩
theorem Rd.gg{w:World}{b:Nat}{s:ByteArray}{p:Nat}{q:Bool}(h:Rd w b s ⟨p,q⟩)(n:Nat):Rd ((w.drewN n).setCell ⟨b,2,none⟩ (.bool true)) b s ⟨p,true⟩/\w.grownBy ((w.drewN n).setCell ⟨b,2,none⟩ (.bool true)) (some b) :=
 ⟨aj.set (aj.drewN h n) 2 _,aC (bE w n _) (bD _ _ _ _)⟩
theorem ahz(s:ByteArray)(p:Nat)(hp:p<s.size):M.bt s p=(s[p].toNat:Int):=by
 unfold M.bt;have h:s.data.toList.getD p 0=s[p]:=by
  have h1:s.data.toList[p]?=some s[p]:=by
   rw[aS (by simpa using hp)];rfl
  rw[oa,h1];rfl
 rw[h]
theorem ahA(c:UInt8):wrap64 (c.toNat:Int)=(c.toNat:Int):=by
 have:=c.toNat_lt;unfold wrap64;omega
theorem ahB(b:Nat)(s:ByteArray)(p:Nat)(w:World)(h:Rd w b s ⟨p,true⟩) :
  Calls prog 161 #[.pointer (some ⟨b,0,none⟩)] w fun e w'=>e=.returned (.int .i64 0)/\Rd w' b s ⟨p,true⟩/\w.grownBy w' (some b):=by
 have H:Hid (Rd w b s ⟨p,true⟩):=h;obtain⟨c0,c1,c2,f1,f2⟩:=h.cells;clear h;go_enter func161,ntmps161;go_wp2;go_quiet (fail);go_wp2;go_ret;exact⟨rfl,H.out.gg _⟩
theorem ahC(b:Nat)(s:ByteArray)(p:Nat)(w:World)(h:Rd w b s ⟨p,false⟩)(hp:s.size<=p)(_hs:s.size<=140737488351232)(_hq:p<=s.size) :
  Calls prog 161 #[.pointer (some ⟨b,0,none⟩)] w fun e w'=>e=.returned (.int .i64 0)/\Rd w' b s ⟨p,true⟩/\w.grownBy w' (some b):=by
 have H:Hid (Rd w b s ⟨p,false⟩):=h;obtain⟨c0,c1,c2,f1,f2⟩:=h.cells;clear h;have hd:decide ((s.size:Int)<=(p:Int))=true:=by simp;omega
 go_enter func161,ntmps161;go_wp2;go_quiet (fail);go_wp2;go_ret;exact⟨rfl,H.out.gg _⟩
theorem ahD(b:Nat)(s:ByteArray)(p:Nat)(w:World)(h:Rd w b s ⟨p,false⟩)(hp:p<s.size)(hs:s.size<=140737488351232) :
  Calls prog 161 #[.pointer (some ⟨b,0,none⟩)] w fun e w'=>e=.returned (.int .i64 (M.bt s p))/\Rd w' b s ⟨p+1,false⟩/\w.grownBy w' (some b):=by
 have H:Hid (Rd w b s ⟨p,false⟩):=h;obtain⟨c0,c1,c2,f1,f2⟩:=h.cells;clear h;have hd:decide ((s.size:Int)<=(p:Int))=false:=by simp;omega
 go_enter func161,ntmps161;go_wp2;go_quiet (fail);go_wp2;go_quiet (fail);go_wp2;go_ret;exact⟨cH (by rw[ahA,ahz s p hp]),(aj.set (aj.drewN H.out _) 1 _:aj _ _ _ _),aC (bE w _ _) (bD _ _ _ _)⟩
theorem DE(s:ByteArray)(r:M.RS)(hp:r.bG<=s.size):(M.plain s r).2.bG<=s.size/\0<=(M.plain s r).1/\(M.plain s r).1<=255:=by
 unfold M.plain
 split
 ·exact⟨hp,by omega,by omega⟩
 ·rename_i h
  simp only[Bool.or_eq_true,decide_eq_true_eq,not_or] at h;refine⟨by simp;omega,?_,?_⟩
  ·simp[M.bt]
  ·simp only[M.bt];have:=(s.data.toList.getD r.bG 0).toNat_lt;omega
theorem jO(b:Nat)(s:ByteArray)(r:M.RS)(w:World)(h:Rd w b s r)(hp:r.bG<=s.size)(hs:s.size<=140737488351232) :
  Calls prog 161 #[.pointer (some ⟨b,0,none⟩)] w fun e w'=>∃x r',Hid (M.plain s r=(x,r'))/\0<=x/\x<=255/\r'.bG<=s.size/\e=.returned (.int .i64 x)/\Rd w' b s r'/\w.grownBy w' (some b):=by
 have hl:=DE s r hp
 suffices hx:Calls prog 161 #[.pointer (some ⟨b,0,none⟩)] w fun e w'=>e=.returned (.int .i64 (M.plain s r).1)/\Rd w' b s (M.plain s r).2/\w.grownBy w' (some b) from
  hx.mono fun e w' ⟨h1,h2,h3⟩=>⟨_,_,rfl,hl.2.1,hl.2.2,hl.1,h1,h2,h3⟩
 obtain⟨p,q⟩:=r
 cases q with
 | true =>
  have e:M.plain s ⟨p,true⟩=(0,⟨p,true⟩):=by simp[M.plain]
  rw[e];exact ahB b s p w h
 | false =>
  by_cases aJ:p<s.size
  ·have e:M.plain s ⟨p,false⟩=(M.bt s p,⟨p+1,false⟩):=by simp[M.plain];omega
   rw[e];exact ahD b s p w h aJ hs
  ·have e:M.plain s ⟨p,false⟩=(0,⟨p,true⟩):=by simp[M.plain];omega
   rw[e];exact ahC b s p w h (by omega) hs hp
theorem pt(b:Nat)(s:ByteArray)(r:M.RS)(w:World)(h:Rd w b s r)(hp:r.bG<=s.size)(hs:s.size<=140737488351232) :
  Calls prog 182 #[.pointer (some ⟨b,0,none⟩)] w fun e w'=>∃x r',Hid (M.dK s r=(x,r'))/\-128<=x/\x<=127/\r'.bG<=s.size/\e=.returned (.int .i64 x)/\Rd w' b s r'/\w.grownBy w' (some b):=by
 go_enter func182,ntmps182;go_wp2_with fail;refine(jO b s r _ h hp hs).mono ?_;rintro e w1 ⟨x,r1,hx,h0,h1,eW,rfl,hR,hg⟩;by_cases hc:127<x
 ·go_wp2
  go_ret;exact⟨_,_,by simp only[Hid,M.dK,hx.out,ay hc],by omega,by omega,eW,rfl,hR,hg⟩
 ·go_wp2
  go_ret;exact⟨_,_,by simp only[Hid,M.dK,hx.out,ak (Int.not_lt.2 hc)],by omega,by omega,eW,rfl,hR,hg⟩
theorem Fm(b:Nat)(s:ByteArray)(r:M.RS)(lo hi:Int)(w:World)(h:Rd w b s r)(hp:r.bG<=s.size)(hs:s.size<=140737488351232)(_hl:0<=lo)(_hh:lo<=hi)(_h2:hi<=255):
  Calls prog 181 #[.pointer (some ⟨b,0,none⟩),.int .i64 lo,.int .i64 hi] w fun e w'=>∃x r',Hid (M.ji s lo hi r=(x,r'))/\0<=x/\x<=hi/\r'.bG<=s.size/\e=.returned (.int .i64 x)/\Rd w' b s r'/\w.grownBy w' (some b):=by
 go_enter func181,ntmps181;go_wp2_with fail;refine(jO b s r _ h hp hs).mono ?_;rintro e w1 ⟨x,r1,hx,h0,h1,eW,rfl,hR,hg⟩;obtain⟨c0,c1,c2,f1,f2⟩:=hR.cells;by_cases hc:x<lo
 ·go_wp2
  go_ret;refine⟨0,⟨r1.bG,true⟩,by simp[Hid,M.ji,hx.out,hc],by omega,by omega,eW,rfl,?_⟩;exact⟨aj.set hR 2 _,aC hg (bD _ _ _ _)⟩
 ·by_cases hd:hi<x
  ·go_wp2
   go_ret;refine⟨0,⟨r1.bG,true⟩,by simp[Hid,M.ji,hx.out,hd],by omega,by omega,eW,rfl,?_⟩;exact⟨aj.set hR 2 _,aC hg (bD _ _ _ _)⟩
  ·go_wp2
   go_ret;exact⟨x,r1,by simp only[Hid,M.ji,hx.out];rw[ak (by simp;omega)],by omega,by omega,eW,rfl,hR,hg⟩
theorem Wt(b:Nat)(s:ByteArray)(r:M.RS)(w:World)(h:Rd w b s r)(hp:r.bG<=s.size)(hs:s.size<=140737488351232) :
  Calls prog 193 #[.pointer (some ⟨b,0,none⟩)] w fun e w'=>∃x r',Hid (M.kX s r=(x,r'))/\-2147483648<=x/\x<=2147483647/\r'.bG<=s.size/\e=.returned (.int .i64 x)/\Rd w' b s r'/\w.grownBy w' (some b):=by
 go_enter func193,ntmps193;go_wp2_with fail;refine(jO b s r _ h hp hs).mono ?_;rintro e w1 ⟨x1,r1,dg,l1,u1,eW,rfl,gK,aH⟩;go_wp2_with fail;refine(jO b s r1 _ gK eW hs).mono ?_;rintro e w2 ⟨x2,r2,dL,l2,u2,gj,rfl,gN,aM⟩;go_wp2_with fail;refine(jO b s r2 _ gN gj hs).mono ?_;rintro e w3 ⟨x3,r3,im,l3,u3,qO,rfl,kZ,aU⟩;go_wp2_with fail;refine(pt b s r3 _ kZ qO hs).mono ?_;rintro e w4 ⟨x4,r4,gY,l4,u4,mG,rfl,jk,bm⟩;go_wp2;go_ret;exact⟨_,_,by simp only[Hid,M.kX,dg.out,dL.out,im.out,gY.out],by omega,by omega,mG,rfl,jk,aC aH (aC aM (aC aU bm))⟩
theorem ahE{s:ByteArray}{n:Int}{r:M.RS}(h:(s.size:Int)-r.bG<n):M.df s n r=(false,⟨r.bG,true⟩):=by simp[M.df,h]
theorem ahF{s:ByteArray}{n:Int}{r:M.RS}(h:n<=(s.size:Int)-r.bG):M.df s n r=(!r.gg,r):=by unfold M.df;rw[ak (by omega)]
theorem Qd(b:Nat)(s:ByteArray)(r:M.RS)(n:Int)(w:World)(h:Rd w b s r)(hp:r.bG<=s.size)(_hs:s.size<=140737488351232)(_h0:0<=n)(_h1:n<=140737488351232) :
  Calls prog 164 #[.pointer (some ⟨b,0,none⟩),.int .i64 n] w fun e w'=>∃x r',Hid (M.df s n r=(x,r'))/\r'.bG<=s.size/\e=.returned (.bool x)/\Rd w' b s r'/\w.grownBy w' (some b):=by
 obtain⟨c0,c1,c2,f1,f2⟩:=h.cells;have H:Hid (Rd w b s r):=h;clear h;by_cases hc:(s.size:Int)-r.bG<n
 ·have bF:decide ((s.size:Int)-(r.bG:Int)<n)=true:=by simpa using hc
  go_enter func164,ntmps164;go_wp2;go_quiet (fail);go_wp2;go_ret;exact⟨_,_,ahE hc,hp,rfl,aj.set (aj.drewN H.out _) 2 _,aC (bE w _ _) (bD _ _ _ _)⟩
 ·have bF:decide ((s.size:Int)-(r.bG:Int)<n)=false:=by simpa using hc
  go_enter func164,ntmps164;go_wp2;go_quiet (fail);go_wp2;go_ret;exact⟨_,_,ahF (by omega),hp,rfl,aj.drewN H.out _,bE w _ _⟩
theorem Tryz.oO:(prog.info? 3).map (fun i=>(i.zero,i.size,i.bytes))=some (some (.int .i64 0),1,8):=by kernel_rfl
def aZ(w:World)(base:Nat)(v:Value)(xs:List Int):Prop:=w.ownsRow base 3 1 v xs.length (xs.map (Value.int .i64))
theorem aZ.mono{w:World}{base base':Nat}{v:Value}{xs:List Int}(h:aZ w base v xs)(hb:base'<=base):aZ w base' v xs:=by
 refine⟨h.1,?_⟩;rcases h.2 with h2|⟨g,cap,dY,h1,h2,h3⟩
 ·exact .inl h2
 ·exact .inr ⟨g,cap,dY,h1,jN hb h2,h3⟩
theorem aZ.nil(w:World)(base:Nat):aZ w base (.slice none 0 0) []:=ki _ _ _ _
theorem aZ.kept{w w':World}{base b:Nat}{v:Value}{xs:List Int}(h:aZ w base v xs)(hg:w.grownBy w' (some b))(hb:b<base):aZ w' base v xs:=by
 refine World.ownsRow.kept h hg ?_
 cases hv:v.ownBlock with
 | none=>exact .inl rfl
 | some g=>exact .inr (by have:=(iL h g hv).1;intro e;injection e with e;omega)
theorem aZ.Z{w w':World}{base:Nat}{v:Value}{xs:List Int}(h:aZ w base v xs)(hg:w.grownBy w' none):aZ w' base v xs:=by
 refine World.ownsRow.kept h hg ?_
 cases hv:v.ownBlock with
 | none=>exact .inl rfl
 | some g=>exact .inr (by simp)
theorem aZ.sO{w:World}{base g n:Nat}{xs:List Int}(hb:base<=g)(hn:xs.length=n)(hm:n<=maxLen)(h:aj w g 3 (xs.map (Value.int .i64)).toArray):aZ w base (.slice (some ⟨g,0,none⟩) n n) xs:=by
 subst hn;exact⟨by simp,.inr ⟨g,_,_,rfl,hb,h,bj _,hm,by simp,BF (by simp)⟩⟩
theorem Qe{s:ByteArray}{n:Int}{r r':M.RS}(h:M.df s n r=(true,r')):n<=(s.size:Int)-r.bG/\r'=r:=by
 unfold M.df at h
 split at h
 ·simp at h
 ·simp only[Prod.mk.injEq] at h;exact⟨by omega,h.2.symm⟩
def qf(f:M.RS->Int×M.RS)(n k:Nat)(r:M.RS):Array Value:=(((M.rep f k r).1++List.replicate (n-k) 0).map (Value.int .i64)).toArray
theorem BG{α:Type}(f:M.RS->α×M.RS)(k:Nat)(r:M.RS):(M.rep f k r).1.length=k:=by
 induction k with
 | zero=>rfl
 | succ k ih=>simp[M.rep,ih]
theorem Qf(f:M.RS->Int×M.RS)(n k:Nat)(r:M.RS)(h:k<n)(x:Int)(hx:(f (M.rep f k r).2).1=x):(qf f n k r).setIfInBounds k (.int .i64 x)=qf f n (k+1) r:=by
 have hl:=BG f k r;have e:n-k=(n-(k+1))+1:=by omega
 unfold qf;rw[e,List.replicate_succ]
 apply Array.toList_inj.1
 rw[Array.toList_setIfInBounds];simp only[M.rep,lK,List.map_cons,List.map_nil,j8,hx];rw[List.set_append_right _ _ (by simp[hl])];simp[hl]
theorem ahG(f:M.RS->Int×M.RS)(n k:Nat)(r:M.RS)(h:k<=n):(qf f n k r).size=n:=by
 have hl:=BG f k r;simp[qf,hl];omega
theorem Qg(f:M.RS->Int×M.RS)(n k j:Nat)(r:M.RS)(h:k<=n)(hj:j<n):∃x,(qf f n k r)[j]?=some (.int .i64 x):=by
 have hl:=BG f k r;have hz:=ahG f n k r h;rw[Array.getElem?_eq_getElem (by omega)];unfold qf;rw[List.getElem_toArray,List.getElem_map];exact⟨_,rfl⟩
theorem Qh(f:M.RS->Int×M.RS)(n:Nat)(r:M.RS):qf f n 0 r=(List.replicate n (Value.int .i64 0)).toArray:=by simp[qf,M.rep]
theorem Qi(f:M.RS->Int×M.RS)(n:Nat)(r:M.RS):qf f n n r=((M.rep f n r).1.map (Value.int .i64)).toArray:=by simp[qf]
theorem xl{w:World}{base g n:Nat}(h:w.ownsRow base 3 1 (.slice (some ⟨g,0,none⟩) n n) n (madeCells #[Value.int .i64 0] n).toList):aj w g 3 (List.replicate n (Value.int .i64 0)).toArray:=by
 rcases h.2 with⟨h',_⟩|⟨g',LV,dY,h',_,hg,_,_,hz,ht⟩
 ·simp at h'
 ·simp only[Value.slice.injEq,kj,oP,and_true,true_and] at h'
  obtain⟨rfl,rfl⟩:=h';unfold aj;rw[hg];have e:dY.toList=List.replicate n (Value.int .i64 0):=by
   rw[BF (by simp[hz])] at ht;rw[ht];exact toList_madeCells_one _ _
  rw[<-e]
theorem Wu(s:ByteArray)(r:M.RS)(h:r.bG<=s.size):(M.dK s r).2.bG<=s.size:=(DE s r h).1
theorem ahH(s:ByteArray)(r:M.RS)(h:r.bG<=s.size):(M.plain s r).2.bG<=s.size:=(DE s r h).1
theorem ahI(s:ByteArray)(r:M.RS)(h:r.bG<=s.size):(M.kX s r).2.bG<=s.size :=
 Wu s _ (DE s _ (DE s _ (DE s r h).1).1).1
theorem Qj{α:Type}{f:M.RS->α×M.RS}{s:ByteArray}(hf:∀r,r.bG<=s.size->(f r).2.bG<=s.size)(k:Nat)(r:M.RS)(h:r.bG<=s.size):(M.rep f k r).2.bG<=s.size:=by
 induction k with
 | zero=>exact h
 | succ k ih=>exact hf _ ih
theorem ahJ(b:Nat)(s:ByteArray)(r:M.RS)(n:Nat)(w:World)(h:Rd w b s r)(hp:r.bG<=s.size)(hs:s.size<=4096)(hn:n<=16777216) :
  Calls prog 183 #[.pointer (some ⟨b,0,none⟩),.int .i64 n] w fun e w'=>∃v l r',Hid (M.cells s n r=(l,r'))/\r'.bG<=s.size/\e=.returned v/\aZ w' w.heap.size v l/\Rd w' b s r'/\w.grownBy w' (some b):=by
 obtain⟨i0,hi,cP,cQ,cZ⟩:=info_parts Tryz.oO;have dh:=h.lt;go_enter func183,ntmps183;go_wp2_with fail;refine(Qd b s r n _ h hp (by omega) (by omega) (by omega)).mono ?_;rintro e w1 ⟨x,r1,hx,eW,rfl,gK,aH⟩
 cases x with
 | false =>
  go_wp2;go_ret;exact⟨_,[],r1,by simp[Hid,M.cells,hx.out],eW,rfl,aZ.nil _ _,gK,aH⟩
 | true =>
  have sP:=Qe hx.out;obtain⟨sP,rfl⟩:=sP;go_wp2_with (at_make;refine qg _ rfl _ _ 33 rfl w1.heap.size 3 i0 (.int .i64 0) 1 underlying33 hi cP cQ _ _ _ _ n rfl rfl rfl rfl ?c1 ?c2 ?c3 ?_)
  case c1=>rw[cZ];omega
  case c2=>unfold maxLen;omega
  case c3=>exact bj _
  intro w2 cB aM;have hB:=xl cB;have gN:Rd w2 b s r1:=aj.kept gK aM (by simp);have vz:w.grownBy w2 (some b):=aC aH (pr aM);have ju:w.heap.size<=w1.heap.size:=aH.size;have Qk:b<w1.heap.size:=qN dh ju;rw[<-Qh (M.dK s) n r1] at hB;clear cB;go_wp2;go_loopw[15] (fun i wr=>∃k:Nat,k<=n/\i=.int .i64 k/\Rd wr b s (M.rep (M.dK s) k r1).2/\aj wr w1.heap.size 3 (qf (M.dK s) n k r1)/\w.grownBy wr (some b)) (fun i _=>n-(intOf i).toNat)
  case atStart=>exact⟨0,bK _,rfl,gN,hB,vz⟩
  case round =>
   obtain⟨k,hk,rfl,jw,bV,aF⟩:=hrel;have oQ:(M.rep (M.dK s) k r1).2.bG<=s.size:=Qj (fun r hr=>(Wu s r hr)) k r1 eW;by_cases aJ:k<n
   ·have cC:=fun x hx=>Qf (M.dK s) n k r1 aJ x hx
    generalize BH:(M.rep (M.dK s) k r1).2=rk at *;have Ie:=ae cC;have Ig:=ae BH;clear cC BH;go_wp2_with fail;refine(pt b s rk _ jw oQ (by omega)).mono ?_;rintro e w3 ⟨x,r3,im,l3,u3,qO,rfl,kZ,aU⟩;have iA:aj w3 w1.heap.size 3 (qf (M.dK s) n k r1):=bV.kept aU (by simp;omega);obtain⟨y,hy⟩:=Qg (M.dK s) n k k r1 hk aJ;have hc:=iA.cell k;rw[hy] at hc;have hf:=iA.free k;go_wp2;go_roundw
    case rel =>
     refine⟨k+1,by omega,by go_num,?_,?_,?_⟩
     ·have e:(M.rep (M.dK s) (k+1) r1).2=r3:=by simp only[M.rep];rw[Fl Ig,im.out]
      rw[e];exact aj.yz kZ (by simp;omega) _
     ·rw[<-Fl Ie x (by rw[im.out])];exact aj.set iA k _
     ·exact dF (aC aF aU) (bD _ _ _ _) ju
    case measure=>simp[intOf];omega
   ·obtain rfl:k=n:=by omega
    go_wp2;go_ret;refine⟨_,_,_,by simp only[Hid,M.cells,hx.out];rfl,by simpa using oQ,rfl,?_,by simpa using jw,aF⟩;rw[Qi] at bV;exact aZ.sO ju (by simp[BG]) (by unfold maxLen;omega) (by simpa using bV)
theorem ahK(b:Nat)(s:ByteArray)(r:M.RS)(n:Nat)(w:World)(h:Rd w b s r)(hp:r.bG<=s.size)(hs:s.size<=4096)(hn:n<=16777216) :
  Calls prog 184 #[.pointer (some ⟨b,0,none⟩),.int .i64 n] w fun e w'=>∃v l r',Hid (M.sL s n r=(l,r'))/\r'.bG<=s.size/\e=.returned v/\aZ w' w.heap.size v l/\Rd w' b s r'/\w.grownBy w' (some b):=by
 obtain⟨i0,hi,cP,cQ,cZ⟩:=info_parts Tryz.oO;have dh:=h.lt;go_enter func184,ntmps184;go_wp2_with fail;refine(Qd b s r (4*n) _ h hp (by omega) (by omega) (by omega)).mono ?_;rintro e w1 ⟨x,r1,hx,eW,rfl,gK,aH⟩
 cases x with
 | false =>
  go_wp2;go_ret;exact⟨_,[],r1,by simp[Hid,M.sL,hx.out],eW,rfl,aZ.nil _ _,gK,aH⟩
 | true =>
  have sP:=Qe hx.out;obtain⟨sP,rfl⟩:=sP;go_wp2_with (at_make;refine qg _ rfl _ _ 33 rfl w1.heap.size 3 i0 (.int .i64 0) 1 underlying33 hi cP cQ _ _ _ _ n rfl rfl rfl rfl ?c1 ?c2 ?c3 ?_)
  case c1=>rw[cZ];omega
  case c2=>unfold maxLen;omega
  case c3=>exact bj _
  intro w2 cB aM;have hB:=xl cB;have gN:Rd w2 b s r1:=aj.kept gK aM (by simp);have vz:w.grownBy w2 (some b):=aC aH (pr aM);have ju:w.heap.size<=w1.heap.size:=aH.size;have Qk:b<w1.heap.size:=qN dh ju;rw[<-Qh (M.kX s) n r1] at hB;clear cB;go_wp2;go_loopw[16] (fun i wr=>∃k:Nat,k<=n/\i=.int .i64 k/\Rd wr b s (M.rep (M.kX s) k r1).2/\aj wr w1.heap.size 3 (qf (M.kX s) n k r1)/\w.grownBy wr (some b)) (fun i _=>n-(intOf i).toNat)
  case atStart=>exact⟨0,bK _,rfl,gN,hB,vz⟩
  case round =>
   obtain⟨k,hk,rfl,jw,bV,aF⟩:=hrel;have oQ:(M.rep (M.kX s) k r1).2.bG<=s.size:=Qj (fun r hr=>(ahI s r hr)) k r1 eW;by_cases aJ:k<n
   ·have cC:=fun x hx=>Qf (M.kX s) n k r1 aJ x hx
    generalize BH:(M.rep (M.kX s) k r1).2=rk at *;have Ie:=ae cC;have Ig:=ae BH;clear cC BH;go_wp2_with fail;refine(Wt b s rk _ jw oQ (by omega)).mono ?_;rintro e w3 ⟨x,r3,im,l3,u3,qO,rfl,kZ,aU⟩;have iA:aj w3 w1.heap.size 3 (qf (M.kX s) n k r1):=bV.kept aU (by simp;omega);obtain⟨y,hy⟩:=Qg (M.kX s) n k k r1 hk aJ;have hc:=iA.cell k;rw[hy] at hc;have hf:=iA.free k;go_wp2;go_roundw
    case rel =>
     refine⟨k+1,by omega,by go_num,?_,?_,?_⟩
     ·have e:(M.rep (M.kX s) (k+1) r1).2=r3:=by simp only[M.rep];rw[Fl Ig,im.out]
      rw[e];exact aj.yz kZ (by simp;omega) _
     ·rw[<-Fl Ie x (by rw[im.out])];exact aj.set iA k _
     ·exact dF (aC aF aU) (bD _ _ _ _) ju
    case measure=>simp[intOf];omega
   ·obtain rfl:k=n:=by omega
    go_wp2;go_ret;refine⟨_,_,_,by simp only[Hid,M.sL,hx.out];rfl,by simpa using oQ,rfl,?_,by simpa using jw,aF⟩;rw[Qi] at bV;exact aZ.sO ju (by simp[BG]) (by unfold maxLen;omega) (by simpa using bV)
theorem ahL(b:Nat)(s:ByteArray)(r:M.RS)(w:World)(h:Rd w b s r)(hp:r.bG<=s.size)(hs:s.size<=4096) :
  Calls prog 138 #[.pointer (some ⟨b,0,none⟩)] w fun e w'=>∃v l r',Hid (M.aK s r=(l,r'))/\r'.bG<=s.size/\e=.returned v/\aZ w' w.heap.size v l/\Rd w' b s r'/\w.grownBy w' (some b):=by
 obtain⟨i0,hi,cP,cQ,cZ⟩:=info_parts Tryz.oO;have dh:=h.lt;go_enter func138,ntmps138;go_wp2_with fail;refine(jO b s r _ h hp (by omega)).mono ?_;rintro e w0 ⟨x0,r0,mH,l0,u0,Fo,rfl,Fp,xm⟩;obtain⟨n,rfl⟩:=fT l0;have hn:n<=255:=by omega
 go_wp2_with fail;refine(Qd b s r0 n _ Fp Fo (by omega) (by omega) (by omega)).mono ?_;rintro e w1 ⟨x,r1,hx,eW,rfl,gK,ahM⟩;have aH:w.grownBy w1 (some b):=aC xm ahM
 cases x with
 | false =>
  go_wp2;go_ret;exact⟨_,[],r1,by simp[Hid,M.aK,mH.out,hx.out],eW,rfl,aZ.nil _ _,gK,aH⟩
 | true =>
  have sP:=Qe hx.out;obtain⟨sP,rfl⟩:=sP;go_wp2_with (at_make;refine qg _ rfl _ _ 33 rfl w1.heap.size 3 i0 (.int .i64 0) 1 underlying33 hi cP cQ _ _ _ _ n rfl rfl rfl rfl ?c1 ?c2 ?c3 ?_)
  case c1=>rw[cZ];omega
  case c2=>unfold maxLen;omega
  case c3=>exact bj _
  intro w2 cB aM;have hB:=xl cB;have gN:Rd w2 b s r1:=aj.kept gK aM (by simp);have vz:w.grownBy w2 (some b):=aC aH (pr aM);have ju:w.heap.size<=w1.heap.size:=aH.size;have Qk:b<w1.heap.size:=qN dh ju;rw[<-Qh (M.plain s) n r1] at hB;clear cB;go_wp2;go_loopw[16] (fun i wr=>∃k:Nat,k<=n/\i=.int .i64 k/\Rd wr b s (M.rep (M.plain s) k r1).2/\aj wr w1.heap.size 3 (qf (M.plain s) n k r1)/\w.grownBy wr (some b)) (fun i _=>n-(intOf i).toNat)
  case atStart=>exact⟨0,bK _,rfl,gN,hB,vz⟩
  case round =>
   obtain⟨k,hk,rfl,jw,bV,aF⟩:=hrel;have oQ:(M.rep (M.plain s) k r1).2.bG<=s.size:=Qj (fun r hr=>(ahH s r hr)) k r1 eW;by_cases aJ:k<n
   ·have cC:=fun x hx=>Qf (M.plain s) n k r1 aJ x hx
    generalize BH:(M.rep (M.plain s) k r1).2=rk at *;have Ie:=ae cC;have Ig:=ae BH;clear cC BH;go_wp2_with fail;refine(jO b s rk _ jw oQ (by omega)).mono ?_;rintro e w3 ⟨x,r3,im,l3,u3,qO,rfl,kZ,aU⟩;have iA:aj w3 w1.heap.size 3 (qf (M.plain s) n k r1):=bV.kept aU (by simp;omega);obtain⟨y,hy⟩:=Qg (M.plain s) n k k r1 hk aJ;have hc:=iA.cell k;rw[hy] at hc;have hf:=iA.free k;go_wp2;go_roundw
    case rel =>
     refine⟨k+1,by omega,by go_num,?_,?_,?_⟩
     ·have e:(M.rep (M.plain s) (k+1) r1).2=r3:=by simp only[M.rep];rw[Fl Ig,im.out]
      rw[e];exact aj.yz kZ (by simp;omega) _
     ·rw[<-Fl Ie x (by rw[im.out])];exact aj.set iA k _
     ·exact dF (aC aF aU) (bD _ _ _ _) ju
    case measure=>simp[intOf];omega
   ·obtain rfl:k=n:=by omega
    go_wp2;go_ret;refine⟨_,_,_,by simp only[Hid,M.aK,mH.out,hx.out,eC];rfl,by simpa using oQ,rfl,?_,by simpa using jw,aF⟩;rw[Qi] at bV;exact aZ.sO ju (by simp[BG]) (by unfold maxLen;omega) (by simpa using bV)
theorem aZ.bT{w:World}{base:Nat}{v:Value}{xs:List Int}(h:aZ w base v xs):∃ao m c,v=.slice ao m c:=by
 rcases h.2 with⟨rfl,_⟩|⟨g,cap,dY,rfl,_⟩
 ·exact⟨_,_,_,rfl⟩
 ·exact⟨_,_,_,rfl⟩
theorem ahN(b:Nat)(s:ByteArray)(r:M.RS)(n:Nat)(w:World)(h:Rd w b s r)(hp:r.bG<=s.size)(hs:s.size<=4096)(hn:n<=16777216) :
  Calls prog 183 #[.pointer (some ⟨b,0,none⟩),.int .i64 n] w fun e w'=>∃ao m c l r',Hid (M.cells s n r=(l,r'))/\r'.bG<=s.size/\e=.returned (.slice ao m c)/\aZ w' w.heap.size (.slice ao m c) l/\Rd w' b s r'/\w.grownBy w' (some b) :=
 (ahJ b s r n w h hp hs hn).mono fun e w' ⟨v,l,r',h1,h2,h3,h4,h5,h6⟩=>by
  obtain⟨ao,m,c,rfl⟩:=h4.bT;exact⟨ao,m,c,l,r',h1,h2,h3,h4,h5,h6⟩
theorem ahO(b:Nat)(s:ByteArray)(r:M.RS)(n:Nat)(w:World)(h:Rd w b s r)(hp:r.bG<=s.size)(hs:s.size<=4096)(hn:n<=16777216) :
  Calls prog 184 #[.pointer (some ⟨b,0,none⟩),.int .i64 n] w fun e w'=>∃ao m c l r',Hid (M.sL s n r=(l,r'))/\r'.bG<=s.size/\e=.returned (.slice ao m c)/\aZ w' w.heap.size (.slice ao m c) l/\Rd w' b s r'/\w.grownBy w' (some b) :=
 (ahK b s r n w h hp hs hn).mono fun e w' ⟨v,l,r',h1,h2,h3,h4,h5,h6⟩=>by
  obtain⟨ao,m,c,rfl⟩:=h4.bT;exact⟨ao,m,c,l,r',h1,h2,h3,h4,h5,h6⟩
def bg(t:M.Tn)(dv:Value):Array Value:=#[.int .i64 t.af,.int .i64 t.h,.int .i64 t.w,.int .i64 t.c,.int .i64 t.zero,dv]
structure dZ(t:M.Tn):Prop where
 k0:0<=t.af
 k1:t.af<=3
 h0:0<=t.h
 h1:t.h<=255
 w0:0<=t.w
 w1:t.w<=255
 c0:0<=t.c
 c1:t.c<=255
 z0:-128<=t.zero
 z1:t.zero<=127
theorem xn{h w c:Int}(h0:0<=h)(h1:h<=255)(w0:0<=w)(w1:w<=255)(c0:0<=c)(c1:c<=255):0<=h*w/\h*w<=65025/\0<=h*w*c/\h*w*c<=16581375:=by
 have a0:0<=h*w:=lg h0 w0;have a1:h*w<=255*255:=Int.mul_le_mul h1 w1 w0 (by omega);have b0:0<=h*w*c:=lg a0 c0;have b1:h*w*c<=65025*255:=Int.mul_le_mul (by omega) c1 c0 (by omega);exact⟨a0,by omega,b0,by omega⟩
theorem LX(k h w c z:Int)(dv:Value)(W:World)(h0:0<=h)(h1:h<=255)(w0:0<=w)(w1:w<=255)(c0:0<=c)(c1:c<=255) :
  Calls prog 123 #[.agg #[.int .i64 k,.int .i64 h,.int .i64 w,.int .i64 c,.int .i64 z,dv]] W fun e W'=>e=.returned (.int .i64 (h*w*c))/\W.grownBy W' none:=by
 obtain⟨a0,a1,b0,b1⟩:=xn h0 h1 w0 w1 c0 c1;go_enter func123,ntmps123;go_wp2;go_ret;exact⟨rfl,aQ _ _ _⟩
abbrev t6(k h w c z:Int)(dv:Value):Array Value:=#[.int .i64 k,.int .i64 h,.int .i64 w,.int .i64 c,.int .i64 z,dv]
structure fX(T:TypeId)(z:Array Value)(w0 w1:World)(b:Nat)(s:ByteArray)(r:M.RS)(cs:Array Value):Prop where
 R:Rd w1 b s r
 L:aj w1 (w0.heap.size+1) T cs
 G:aj w1 w0.heap.size T z
 g:w0.grownBy w1 (some b)
 hb:b<w0.heap.size
theorem fX.start{T:TypeId}{z:Array Value}{w:World}{b:Nat}{s:ByteArray}{r:M.RS}(h:Rd w b s r):fX T z w ((w.alloc (.cells z T)).alloc (.cells z T)) b s r z :=
 ⟨aj.alloc (aj.alloc h _) _,aj.yA w _ _ _,aj.alloc (aj.bA w _ _) _,nZ w _ _ _,h.lt⟩
theorem fX.call{T:TypeId}{z:Array Value}{w0 w1 w2:World}{b:Nat}{s:ByteArray}{r r':M.RS}{cs:Array Value}(h:fX T z w0 w1 b s r cs)(hR:Rd w2 b s r')(hg:w1.grownBy w2 (some b)):fX T z w0 w2 b s r' cs :=
 have hb:=h.hb
 ⟨hR,h.L.kept hg (by simp;omega),h.G.kept hg (by simp;omega),aC h.g hg,hb⟩
theorem fX.gZ{T:TypeId}{z:Array Value}{w0 w1 w2:World}{b:Nat}{s:ByteArray}{r:M.RS}{cs:Array Value}(h:fX T z w0 w1 b s r cs)(hg:w1.grownBy w2 none):fX T z w0 w2 b s r cs :=
 ⟨aj.kept h.R hg (by simp),h.L.kept hg (by simp),h.G.kept hg (by simp),aC h.g (pr hg),h.hb⟩
theorem fX.put{T:TypeId}{z:Array Value}{w0 w1:World}{b:Nat}{s:ByteArray}{r:M.RS}{cs:Array Value}(h:fX T z w0 w1 b s r cs)(i:Nat)(v:Value):fX T z w0 (w1.setCell ⟨w0.heap.size+1,i,none⟩ v) b s r (cs.setIfInBounds i v) :=
 have hb:=h.hb
 ⟨aj.yz h.R (by simp;omega) _,aj.set h.L i v,h.G.yz (by simp) _,dF h.g (bD _ _ _ _) (by omega),hb⟩
theorem mI{w:World}{L T:Nat}{k h v c z:Int}{dv:Value}(hL:aj w L T (t6 k h v c z dv)):w.cell? ⟨L,0,none⟩=some (.int .i64 k)/\w.cell? ⟨L,1,none⟩=some (.int .i64 h)/\w.cell? ⟨L,2,none⟩=some (.int .i64 v)/\w.cell? ⟨L,3,none⟩=some (.int .i64 c)/\w.cell? ⟨L,4,none⟩=some (.int .i64 z)/\w.cell? ⟨L,5,none⟩=some dv :=
 ⟨hL.cell 0,hL.cell 1,hL.cell 2,hL.cell 3,hL.cell 4,hL.cell 5⟩
theorem xo{w:World}{L T:Nat}{cs:Array Value}(hL:aj w L T cs):w.frozen? ⟨L,0,none⟩=false/\w.frozen? ⟨L,1,none⟩=false/\w.frozen? ⟨L,2,none⟩=false/\w.frozen? ⟨L,3,none⟩=false/\w.frozen? ⟨L,4,none⟩=false/\w.frozen? ⟨L,5,none⟩=false :=
 ⟨hL.free 0,hL.free 1,hL.free 2,hL.free 3,hL.free 4,hL.free 5⟩
theorem Ql{w0 w1:World}{b:Nat}{s:ByteArray}{r:M.RS}{k h v c z:Int}{dv:Value}{cs:Array Value}(h:fX 158 (t6 k h v c z dv) w0 w1 b s r cs)(v0 v1 v2 v3 v4 v5:Value) :
  Rd ((((((w1.setCell ⟨w0.heap.size,0,none⟩ v0).setCell ⟨w0.heap.size,1,none⟩ v1).setCell ⟨w0.heap.size,2,none⟩ v2).setCell ⟨w0.heap.size,3,none⟩ v3).setCell ⟨w0.heap.size,4,none⟩ v4).setCell ⟨w0.heap.size,5,none⟩ v5) b s r /\
  w1.grownBy ((((((w1.setCell ⟨w0.heap.size,0,none⟩ v0).setCell ⟨w0.heap.size,1,none⟩ v1).setCell ⟨w0.heap.size,2,none⟩ v2).setCell ⟨w0.heap.size,3,none⟩ v3).setCell ⟨w0.heap.size,4,none⟩ v4).setCell ⟨w0.heap.size,5,none⟩ v5) (some w0.heap.size) /\
  aj ((((((w1.setCell ⟨w0.heap.size,0,none⟩ v0).setCell ⟨w0.heap.size,1,none⟩ v1).setCell ⟨w0.heap.size,2,none⟩ v2).setCell ⟨w0.heap.size,3,none⟩ v3).setCell ⟨w0.heap.size,4,none⟩ v4).setCell ⟨w0.heap.size,5,none⟩ v5) w0.heap.size 158 #[v0,v1,v2,v3,v4,v5]:=by
 have hb:=h.hb;have hg:=aC (bD w1 w0.heap.size 0 v0) (aC (bD _ w0.heap.size 1 v1) (aC (bD _ w0.heap.size 2 v2) (aC (bD _ w0.heap.size 3 v3) (aC (bD _ w0.heap.size 4 v4) (bD _ w0.heap.size 5 v5)))));exact⟨aj.kept h.R hg (by simp;omega),hg,(((((h.G.set 0 v0).set 1 v1).set 2 v2).set 3 v3).set 4 v4).set 5 v5⟩
theorem Qm{W:World}{G:Nat}{v0 v1 v2 v3 v4 v5:Value}(hB:aj W G 158 #[v0,v1,v2,v3,v4,v5])(tmps:Array Value)(ht:tmps[2]?.getD undef=.pointer (some ⟨G,0,none⟩)):(results Tryz.f162 tmps).run prog W=.ok (.agg #[v0,v1,v2,v3,v4,v5]) W:=by
 have q0:W.cell? ⟨G,0,none⟩=some v0:=hB.cell 0;have q1:W.cell? ⟨G,1,none⟩=some v1:=hB.cell 1;have q2:W.cell? ⟨G,2,none⟩=some v2:=hB.cell 2;have q3:W.cell? ⟨G,3,none⟩=some v3:=hB.cell 3;have q4:W.cell? ⟨G,4,none⟩=some v4:=hB.cell 4;have q5:W.cell? ⟨G,5,none⟩=some v5:=hB.cell 5;simp[results,Tryz.results162,go_sem,ht,q0,q1,q2,q3,q4,q5]
theorem ahP{s:ByteArray}{r r1 r2 r3 r4 r5:M.RS}{x1 x2 x3 x4 x5:Int}(h1:M.ji s 0 3 r=(x1,r1))(h2:M.plain s r1=(x2,r2))(h3:M.plain s r2=(x3,r3))(h4:M.plain s r3=(x4,r4))(h5:M.dK s r4=(x5,r5)) :
  M.fH s r=(⟨x1,x2,x3,x4,x5,(if x1=1 then M.cells s (x2*x3*x4) r5 else if x1=2 then M.sL s (x2*x3*x4) r5 else ([],r5)).1⟩,(if x1=1 then M.cells s (x2*x3*x4) r5 else if x1=2 then M.sL s (x2*x3*x4) r5 else ([],r5)).2):=by
 simp only[M.fH,h1,h2,h3,h4,h5]
theorem ahQ(b:Nat)(s:ByteArray)(r:M.RS)(w:World)(h:Rd w b s r)(hp:r.bG<=s.size)(hs:s.size<=4096) :
  Calls prog 162 #[.pointer (some ⟨b,0,none⟩)] w fun e w'=>∃t dv r',Hid (M.fH s r=(t,r'))/\dZ t/\r'.bG<=s.size/\e=.returned (.agg (bg t dv))/\aZ w' w.heap.size dv t.data/\Rd w' b s r'/\w.grownBy w' (some b):=by
 have I0:=fX.start (T:=158) (z:=t6 0 0 0 0 0 (.slice none 0 0)) h;go_enter func162,ntmps162;go_wp2_with fail;refine(Fm b s r 0 3 _ I0.R hp (by omega) (by omega) (by omega) (by omega)).mono ?_;rintro e w1 ⟨x1,r1,dg,l1,u1,eW,rfl,gK,aH⟩;have I1:=I0.call gK aH;have a1:w1.cell? ⟨w.heap.size+1,0,none⟩=some (.int .i64 0):=I1.L.cell 0;have b1:=I1.L.free 0;clear aH gK I0;go_wp2_with fail;refine(jO b s r1 _ (I1.put 0 (.int .i64 x1)).R eW (by omega)).mono ?_;rintro e w2 ⟨x2,r2,dL,l2,u2,gj,rfl,gN,aM⟩;have I2:=(I1.put 0 (.int .i64 x1)).call gN aM;clear aM gN I1 a1 b1;have a2:w2.cell? ⟨w.heap.size+1,1,none⟩=some (.int .i64 0):=I2.L.cell 1;have b2:=I2.L.free 1;go_wp2_with fail;refine(jO b s r2 _ (I2.put 1 (.int .i64 x2)).R gj (by omega)).mono ?_;rintro e w3 ⟨x3,r3,im,l3,u3,qO,rfl,kZ,aU⟩;have I3:=(I2.put 1 (.int .i64 x2)).call kZ aU;clear aU kZ I2 a2 b2;have a3:w3.cell? ⟨w.heap.size+1,2,none⟩=some (.int .i64 0):=I3.L.cell 2;have b3:=I3.L.free 2;go_wp2_with fail;refine(jO b s r3 _ (I3.put 2 (.int .i64 x3)).R qO (by omega)).mono ?_;rintro e w4 ⟨x4,r4,gY,l4,u4,mG,rfl,jk,bm⟩;have I4:=(I3.put 2 (.int .i64 x3)).call jk bm;clear bm jk I3 a3 b3;have a4:w4.cell? ⟨w.heap.size+1,3,none⟩=some (.int .i64 0):=I4.L.cell 3;have b4:=I4.L.free 3;go_wp2_with fail;refine(pt b s r4 _ (I4.put 3 (.int .i64 x4)).R mG (by omega)).mono ?_;rintro e w5 ⟨x5,r5,qP,l5,u5,qh,rfl,j9,cK⟩;have I5:=(I4.put 3 (.int .i64 x4)).call j9 cK;clear cK j9 I4 a4 b4;have Wv:fX 158 _ w (w5.setCell ⟨w.heap.size+1,4,none⟩ (.int .i64 x5)) b s r5 (t6 x1 x2 x3 x4 x5 (.slice none 0 0)):=I5.put 4 (.int .i64 x5);have a5:w5.cell? ⟨w.heap.size+1,4,none⟩=some (.int .i64 0):=I5.L.cell 4;have b5:=I5.L.free 4;have d0:w5.cell? ⟨w.heap.size+1,0,none⟩=some (.int .i64 x1):=I5.L.cell 0
 have d1:w5.cell? ⟨w.heap.size+1,1,none⟩=some (.int .i64 x2):=I5.L.cell 1;have d2:w5.cell? ⟨w.heap.size+1,2,none⟩=some (.int .i64 x3):=I5.L.cell 2;have d3:w5.cell? ⟨w.heap.size+1,3,none⟩=some (.int .i64 x4):=I5.L.cell 3;have d5:w5.cell? ⟨w.heap.size+1,5,none⟩=some (.slice none 0 0):=I5.L.cell 5;go_wp2_with fail;refine(LX x1 x2 x3 x4 x5 _ _ l2 u2 l3 u3 l4 u4).mono ?_;rintro e w6 ⟨rfl,fE⟩;have I6:=Wv.gZ fE;clear fE I5 Wv a5 b5 d0 d1 d2 d3 d5;obtain⟨m0,m1,n0,n1⟩:=xn l2 u2 l3 u3 l4 u4;have HT:=ae (ahP dg.out dL.out im.out gY.out qP.out);have wf:∀l,dZ ⟨x1,x2,x3,x4,x5,l⟩:=fun l=>⟨l1,u1,l2,u2,l3,u3,l4,u4,l5,u5⟩;clear dg dL im gY qP;generalize x2*x3*x4=n at *;obtain⟨n,rfl⟩:=fT n0;have d0:w6.cell? ⟨w.heap.size+1,0,none⟩=some (.int .i64 x1):=I6.L.cell 0;have d1:w6.cell? ⟨w.heap.size+1,1,none⟩=some (.int .i64 x2):=I6.L.cell 1;have d2:w6.cell? ⟨w.heap.size+1,2,none⟩=some (.int .i64 x3):=I6.L.cell 2;have d3:w6.cell? ⟨w.heap.size+1,3,none⟩=some (.int .i64 x4):=I6.L.cell 3;have d4:w6.cell? ⟨w.heap.size+1,4,none⟩=some (.int .i64 x5):=I6.L.cell 4;have d5:w6.cell? ⟨w.heap.size+1,5,none⟩=some (.slice none 0 0):=I6.L.cell 5;by_cases k1:x1=1
 ·subst k1
  have Qn:=I6.L.lt;go_wp2_with fail;refine(ahN b s r5 n w6 I6.R qh hs (by omega)).mono ?_;rintro e w7 ⟨ao,m,cp,l,r7,z7,z9,rfl,Qo,sQ,dJ⟩;have I7:=I6.call sQ dJ;have ju:=I6.g.size;clear dJ sQ I6 d0 d1 d2 d3 d4 d5;obtain⟨d0,d1,d2,d3,d4,d5⟩:=mI I7.L;obtain⟨g0,g1,g2,g3,g4,g5⟩:=mI I7.G;obtain⟨f0,f1,f2,f3,f4,f5⟩:=xo I7.G;have fL:=I7.L.free 5;go_wp2;have I8:=I7.put 5 (.slice ao m cp);obtain⟨sR,fY,g6⟩:=Ql I8 (.int .i64 1) (.int .i64 x2) (.int .i64 x3) (.int .i64 x4) (.int .i64 x5) (.slice ao m cp);have eD:=I7.hb;refine bodyPost_ret (Qm g6 _ rfl) rfl ?_;refine⟨⟨1,x2,x3,x4,x5,l⟩,_,r7,?_,wf l,z9,rfl,?_,sR,dF I8.g fY (bj _)⟩
  ·have e:=HT.out;rw[e];simp[Hid,z7.out]
  ·have qi:w.heap.size+1<w6.heap.size:=Nat.lt_of_succ_le (by have:=Qn;omega)
   exact((Qo.kept (bD _ _ _ _) qi).kept fY (by omega)).mono ju
 ·by_cases k2:x1=2
  ·subst k2
   have Qn:=I6.L.lt;go_wp2_with fail;refine(ahO b s r5 n w6 I6.R qh hs (by omega)).mono ?_;rintro e w7 ⟨ao,m,cp,l,r7,z7,z9,rfl,Qo,sQ,dJ⟩;have I7:=I6.call sQ dJ;have ju:=I6.g.size;clear dJ sQ I6 d0 d1 d2 d3 d4 d5;obtain⟨d0,d1,d2,d3,d4,d5⟩:=mI I7.L;obtain⟨g0,g1,g2,g3,g4,g5⟩:=mI I7.G;obtain⟨f0,f1,f2,f3,f4,f5⟩:=xo I7.G;have fL:=I7.L.free 5;go_wp2;have I8:=I7.put 5 (.slice ao m cp);obtain⟨sR,fY,g6⟩:=Ql I8 (.int .i64 2) (.int .i64 x2) (.int .i64 x3) (.int .i64 x4) (.int .i64 x5) (.slice ao m cp);have eD:=I7.hb;refine bodyPost_ret (Qm g6 _ rfl) rfl ?_;refine⟨⟨2,x2,x3,x4,x5,l⟩,_,r7,?_,wf l,z9,rfl,?_,sR,dF I8.g fY (bj _)⟩
   ·have e:=HT.out;rw[e];simp[Hid,z7.out]
   ·have qi:w.heap.size+1<w6.heap.size:=Nat.lt_of_succ_le (by have:=Qn;omega)
    exact((Qo.kept (bD _ _ _ _) qi).kept fY (by omega)).mono ju
  ·have iq:(x1==1)=false:=by simp[k1]
   have kl:(x1==2)=false:=by simp[k2]
   have k1':=ae k1;have k2':=ae k2;clear k1 k2;obtain⟨g0,g1,g2,g3,g4,g5⟩:=mI I6.G;obtain⟨f0,f1,f2,f3,f4,f5⟩:=xo I6.G;go_wp2;obtain⟨sR,fY,g6⟩:=Ql I6 (.int .i64 x1) (.int .i64 x2) (.int .i64 x3) (.int .i64 x4) (.int .i64 x5) (.slice none 0 0);refine bodyPost_ret (Qm g6 _ rfl) rfl ?_;refine⟨⟨x1,x2,x3,x4,x5,[]⟩,_,r5,?_,wf _,qh,rfl,aZ.nil _ _,sR,dF I6.g fY (bj _)⟩;have e:=HT.out;rw[e];simp[Hid,k1'.out,k2'.out]
end Go.Proofs.YtcnhfffgbamonaaGreat
