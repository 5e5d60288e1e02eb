import Derived.Test.YtcnhfffgbamonabGreatZ00
set_option maxRecDepth 100000
set_option maxHeartbeats 6400000
namespace Go.Proofs.YtcnhfffgbamonabGreat
open Go.Proofs.Tryz
namespace R
def held(x:Int):Int:=if 2147483648<=x then 2147483647 else if x < -2147483648 then -2147483648 else x
def oN(x s:Int):Int:=if 0<s then held (x*2 ^ s.toNat) else x
def rD(x m:Int):Int:=held ((x*m+1073741824)/2147483648)
def sJ(h s:Int):Int:=if 0<=s then h else if h<0 then -((2 ^ (-s).toNat-2*h)/(2*2 ^ (-s).toNat)) else (2 ^ (-s).toNat+2*h)/(2*2 ^ (-s).toNat)
def iL(x m s:Int):Int:=sJ (rD (oN x s) m) s
def cU(x lo hi:Int):Int:=if x<lo then lo else if hi<x then hi else x
theorem BI(x:Int):-2147483648<=held x/\held x<=2147483647:=by unfold held;split<;>(try split)<;>omega
def placesFrom(length n aE:Int)(same:Bool):Nat->Int->Int
 | 0,_=>0
 | f+1,p=>if p<length then (if (same||decide (p+n<=length))=true then 1 else 0)+placesFrom length n aE same f (p+aE) else 0
def gC(length n aE:Int)(same:Bool):Int:=placesFrom length n aE same length.toNat 0
def kI(length n aE:Int)(same:Bool):Int:=
 let vj:=(gC length n aE same-1)*aE+n-length
 if same=false\/vj<0 then 0 else vj/2
def val:List UInt8->Int
 | []=>0
 | b::r=>(b.toNat:Int)+256*val r
def sK(l:List UInt8)(n:Nat)(cW:Bool):Bool:=cW&&decide (128<=(l.getD (n-1) 0).toNat)
def take(l:List UInt8)(n:Nat)(cW:Bool):Int×List UInt8×Bool:=
 if l.length<n then (0,l,false) else (if sK l n cW=true then val (l.take n)-256 ^ n else val (l.take n),l.drop n,true)
def list(l:List UInt8)(n:Nat)(cW:Bool):Nat->Option (List Int×List UInt8)
 | 0=>some ([],l)
 | k+1=>match list l n cW k with
  | some (xs,r)=>if (take r n cW).2.2=true then some (xs++[(take r n cW).1],(take r n cW).2.1) else none
  | none=>none
end R
namespace D
def S(f:Nat->Int):Nat->Int
 | 0=>0
 | n+1=>S f n+f n
def kI(length n aE:Int)(same:Bool):Int:=
 let vj:=(M.dP n length aE same-1)*aE+n-length
 if same=false\/vj<0 then 0 else vj/2
def get(l:List Int)(i:Int):Int:=if i<0 then 0 else l.getD i.toNat 0
def bN(t:M.Tn)(l:List Int)(y x c:Int):Int:=get l ((y*t.w+x)*t.c+c)
def oc(t:M.Tn)(y x:Int):Bool:=decide (0<=y)&&decide (y<t.h)&&decide (0<=x)&&decide (x<t.w)
structure gD where
 a:M.Tn
 la:List Int
 b:M.Tn
 lb:List Int
 w:M.Tn
 lw:List Int
 mH:List Int
 z:M.Tn
def xg(o:M.Op)(r:gD)(u v c:Int)(i j:Nat):Int:=
 if oc r.a u v=true then
  (if o.af=2 then (bN r.a r.la u v c-r.a.zero)*bN r.w r.lw i j c
  else S (fun k=>(bN r.a r.la u v k-r.a.zero)*bN r.w r.lw i j (c*r.a.c+k)) r.a.c.toNat)
 else 0
def tS(o:M.Op)(r:gD)(y x c:Int):Int:=
 get r.mH c+S (fun i=>S (fun j=>xg o r (y*o.aE-kI r.a.h r.w.h o.aE o.same+i) (x*o.aE-kI r.a.w r.w.w o.aE o.same+j) c i j) r.w.w.toNat) r.w.h.toNat
def E3(r:gD)(c:Int):Int:=
 get r.mH c+S (fun i=>(get r.la i-r.a.zero)*bN r.w r.lw c 0 i) (M.cellsOf r.a).toNat
def BJ(o:M.Op)(k:Nat):M.Sc:=o.bM.getD k ⟨0,0⟩
def jC(x:Int)(s:M.Sc):Int:=R.iL x s.eE s.shift
def zX(o:M.Op)(r:gD)(y x c:Int):Int:=
 R.held (jC ((bN r.a r.la y x c-r.a.zero)*1048576) (BJ o 0)+jC ((bN r.b r.lb y x c-r.b.zero)*1048576) (BJ o 1))
def iT(o:M.Op)(r:gD)(y x c:Int)(k:Nat):Int:=bN r.a r.la (y*o.aE+k/o.size) (x*o.aE+k%o.size) c
def yu(o:M.Op):Nat:=(o.size*o.size).toNat
def mI(f:Nat->Int):Nat->Int
 | 0=>0
 | n+1=>if n=0 then f 0 else if mI f n<f n then f n else mI f n
def zY(s n:Int):Int:=if s<0 then -((-(2*s)+n)/(2*n)) else (2*s+n)/(2*n)
def tT(o:M.Op)(r:gD)(s:Int)(k:Nat):Int:=R.cU (jC s (BJ o k)+r.z.zero) o.lo o.hi
def cell(o:M.Op)(r:gD)(y x c:Int):Int:=
 if o.af=1\/o.af=2 then tT o r (tS o r y x c) 0
 else if o.af=3 then tT o r (E3 r c) 0
 else if o.af=4 then tT o r (zX o r y x c) 2
 else if o.af=5 then R.cU (mI (iT o r y x c) (yu o)) o.lo o.hi
 else if o.af=6 then R.cU (zY (S (iT o r y x c) (yu o)) (o.size*o.size)) o.lo o.hi
 else if o.af=7 then R.cU (bN r.a r.la y x c) o.lo o.hi
 else if o.af=8 then (if oc r.a (y-o.aS) (x-o.left)=true then bN r.a r.la (y-o.aS) (x-o.left) c else r.z.zero)
 else if o.af=9 then get r.la ((y*r.z.w+x)*r.z.c+c)
 else if c<r.a.c then bN r.a r.la y x c else bN r.b r.lb y x (c-r.a.c)
theorem LN{o:M.Op}(r:gD)(y x c:Int)(h:o.af=1\/o.af=2):cell o r y x c=tT o r (tS o r y x c) 0:=by
 unfold cell;rw[ay h]
theorem LO{o:M.Op}(r:gD)(y x c:Int)(h:o.af=3):cell o r y x c=tT o r (E3 r c) 0:=by
 unfold cell;rw[ak (by omega),ay h]
theorem LP{o:M.Op}(r:gD)(y x c:Int)(h:o.af=4):cell o r y x c=tT o r (zX o r y x c) 2:=by
 unfold cell;rw[ak (by omega),ak (by omega),ay h]
theorem LQ{o:M.Op}(r:gD)(y x c:Int)(h:o.af=5):cell o r y x c=R.cU (mI (iT o r y x c) (yu o)) o.lo o.hi:=by
 unfold cell;rw[ak (by omega),ak (by omega),ak (by omega),ay h]
theorem LR{o:M.Op}(r:gD)(y x c:Int)(h:o.af=6):cell o r y x c=R.cU (zY (S (iT o r y x c) (yu o)) (o.size*o.size)) o.lo o.hi:=by
 unfold cell;rw[ak (by omega),ak (by omega),ak (by omega),ak (by omega),ay h]
theorem E4{o:M.Op}(r:gD)(y x c:Int)(h:o.af=7):cell o r y x c=R.cU (bN r.a r.la y x c) o.lo o.hi:=by
 unfold cell;rw[ak (by omega),ak (by omega),ak (by omega),ak (by omega),ak (by omega),ay h]
theorem LS{o:M.Op}(r:gD)(y x c:Int)(h:o.af=8):cell o r y x c=if oc r.a (y-o.aS) (x-o.left)=true then bN r.a r.la (y-o.aS) (x-o.left) c else r.z.zero:=by
 unfold cell;rw[ak (by omega),ak (by omega),ak (by omega),ak (by omega),ak (by omega),ak (by omega),ay h]
theorem LU{o:M.Op}(r:gD)(y x c:Int)(h:o.af=9):cell o r y x c=get r.la ((y*r.z.w+x)*r.z.c+c):=by
 unfold cell;rw[ak (by omega),ak (by omega),ak (by omega),ak (by omega),ak (by omega),ak (by omega),ak (by omega),ay h]
theorem LV{o:M.Op}(r:gD)(y x c:Int)(h:o.af=10):cell o r y x c=if c<r.a.c then bN r.a r.la y x c else bN r.b r.lb y x (c-r.a.c):=by
 unfold cell;rw[ak (by omega),ak (by omega),ak (by omega),ak (by omega),ak (by omega),ak (by omega),ak (by omega),ak (by omega)]
def pZ(t:M.Tn)(f:Int->Int->Int->Int):List Int:=
 (List.range (M.cellsOf t).toNat).map fun(q:Nat)=>f ((q:Int)/(t.w*t.c)) ((q:Int)/t.c%t.w) ((q:Int)%t.c)
def bW(fK:List (List Int))(n:Int):List Int:=if n<0 then [] else fK.getD n.toNat []
def DD(m:M.Md)(fK:List (List Int))(o:M.Op):gD:=
 ⟨M.aq m o.a,bW fK o.a,M.aq m o.b,bW fK o.b,M.aq m o.aP,bW fK o.aP,bW fK o.bA,M.aq m o.to⟩
def dM(m:M.Md)(fK:List (List Int))(o:M.Op):List Int:=pZ (M.aq m o.to) (cell o (DD m fK o))
def step(m:M.Md)(fK:List (List Int))(o:M.Op):List (List Int):=fK.set o.to.toNat (dM m fK o)
def start:List M.Tn->List (List Int)->List (List Int)
 | [],_=>[]
 | t::ts,ins=>if t.af=0 then ins.headD []::start ts ins.tail else if t.af=3 then []::start ts ins else t.data::start ts ins
def fK(m:M.Md)(ins:List (List Int)):List (List Int):=m.ag.foldl (step m) (start m.au ins)
def run(m:M.Md)(ins:List (List Int)):List (List Int):=m.aJ.map (bW (fK m ins))
def BK(m:M.Md):List Int:=(m.au.filter fun t=>t.af==0).map M.cellsOf
def lg(v:Int):Bool:=decide (-128<=v)&&decide (v<=127)
def jM(m:M.Md)(ins:List (List Int)):Bool:=(ins.map fun l=>(l.length:Int))==BK m&&ins.all fun l=>l.all lg
theorem E5{f g:Nat->Int}{n:Nat}(h:∀i,i<n->f i=g i):S f n=S g n:=by
 induction n with
 | zero=>rfl
 | succ n ih=>unfold S;rw[ih fun i hi=>h i (by omega),h n (by omega)]
theorem ai0(n:Nat):S (fun _=>0) n=0:=by
 induction n with
 | zero=>rfl
 | succ n ih=>unfold S;rw[ih];rfl
theorem ai1{f:Nat->Int}{n:Nat}{k:Int}(h:∀i,i<n->f i<=k):S f n<=n*k:=by
 induction n with
 | zero=>simp[S]
 | succ n ih=>
  unfold S;have:=ih fun i hi=>h i (by omega);have h2:=h n (by omega);have e:((n+1:Nat):Int)*k=n*k+k:=by rw[Int.natCast_add,Int.add_mul];simp
  omega
theorem ai2{f:Nat->Int}{n:Nat}{k:Int}(h:∀i,i<n->k<=f i):n*k<=S f n:=by
 induction n with
 | zero=>simp[S]
 | succ n ih=>
  unfold S;have:=ih fun i hi=>h i (by omega);have h2:=h n (by omega);have e:((n+1:Nat):Int)*k=n*k+k:=by rw[Int.natCast_add,Int.add_mul];simp
  omega
def kJ(l:List Int):Prop:=∀v∈l,-128<=v/\v<=127
theorem Ie{l:List Int}(h:kJ l)(i:Int):-128<=get l i/\get l i<=127:=by
 unfold get
 split
 ·omega
 ·rw[List.getD]
  cases e:l[i.toNat]? with
  | none=>simp
  | some v=>simpa using h v (bV e)
theorem BL{x lo hi:Int}(h:lo<=hi):lo<=R.cU x lo hi/\R.cU x lo hi<=hi:=by
 unfold R.cU;split<;>(try split)<;>omega
theorem ai3(o:M.Op)(r:gD)(y x c:Int)(ha:kJ r.la)(hb:o.af=10->kJ r.lb)(rE:1<=o.af)(xh:o.af<=10)(hz:-128<=r.z.zero/\r.z.zero<=127)(lX:-128<=o.lo)(hh:o.lo<=o.hi)(Ig:o.hi<=127) :
  -128<=cell o r y x c/\cell o r y x c<=127:=by
 have B:∀v,-128<=R.cU v o.lo o.hi/\R.cU v o.lo o.hi<=127:=fun v=>by have:=BL (x:=v) hh;omega
 unfold cell tT
 split
 ·exact B _
 ·split
  ·exact B _
  ·split
   ·exact B _
   ·split
    ·exact B _
    ·split
     ·exact B _
     ·split
      ·exact B _
      ·split
       ·split
        ·exact Ie ha _
        ·exact hz
       ·split
        ·exact Ie ha _
        ·split
         ·exact Ie ha _
         ·exact Ie (hb (by omega)) _
theorem ai4{t:M.Tn}{f:Int->Int->Int->Int}(h:∀y x c,-128<=f y x c/\f y x c<=127):kJ (pZ t f):=by
 intro v hv;obtain⟨q,-,rfl⟩:=List.mem_map.mp hv;exact h _ _ _
theorem ai5(t:M.Tn)(f:Int->Int->Int->Int):(pZ t f).length=(M.cellsOf t).toNat:=by unfold pZ;simp
theorem LX{t:M.Tn}{f g:Int->Int->Int->Int}(h:∀y x c,0<=y->y<t.h->0<=x->x<t.w->0<=c->c<t.c->f y x c=g y x c)(hw:0<=t.w)(hc:0<=t.c):pZ t f=pZ t g:=by
 unfold pZ
 apply List.map_congr_left
 intro q hq;have E6:(q:Int)<M.cellsOf t:=by have:=List.mem_range.mp hq;omega
 unfold M.cellsOf at E6;have h0:(0:Int)<=q:=Int.natCast_nonneg q;by_cases vc:t.c=0
 ·rw[vc,Int.mul_zero] at E6;omega
 ·by_cases LY:t.w=0
  ·rw[LY,Int.mul_zero,Int.zero_mul] at E6;omega
  ·have Ih:0<t.w*t.c:=Int.mul_pos (by omega) (by omega)
   refine h _ _ _ (Int.ediv_nonneg h0 (by omega)) (Int.ediv_lt_of_lt_mul Ih (by rw[<-Int.mul_assoc];exact E6)) (E7 _ LY) (E8 _ (by omega)) (E7 _ vc) (E8 _ (by omega))
end D
namespace M
structure awt{α:Type}(f g:RS->α×RS):Prop where
 gZ:∀r,r.fX=true->(f r).2.fX=true
 same:∀r,(f r).2.fX=false->g r=f r
def bd{α β:Type}(f:RS->α×RS)(k:α->RS->β×RS)(r:RS):β×RS:=k (f r).1 (f r).2
theorem ai6{s:ByteArray}(h:ff s=0):nQ s=0:=by
 unfold ff at h;by_cases c:nQ s≠0
 ·rw[ay c] at h;exact h
 ·exact Classical.not_not.mp c
end M
end Go.Proofs.YtcnhfffgbamonabGreat
