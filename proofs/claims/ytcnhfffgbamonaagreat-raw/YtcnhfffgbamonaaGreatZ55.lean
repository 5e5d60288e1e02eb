import Derived.Test.YtcnhfffgbamonaaGreatZ00
set_option maxRecDepth 100000
set_option maxHeartbeats 6400000
namespace Go.Proofs.YtcnhfffgbamonaaGreat
open Go.Proofs.Tryz
namespace R
def held(x:Int):Int:=if 2147483648<=x then 2147483647 else if x < -2147483648 then -2147483648 else x
def oS(x s:Int):Int:=if 0<s then held (x*2 ^ s.toNat) else x
def rM(x m:Int):Int:=held ((x*m+1073741824)/2147483648)
def sX(h s:Int):Int:=if 0<=s then h else if h<0 then -((2 ^ (-s).toNat-2*h)/(2*2 ^ (-s).toNat)) else (2 ^ (-s).toNat+2*h)/(2*2 ^ (-s).toNat)
def iN(x m s:Int):Int:=sX (rM (oS x s) m) s
def cW(x lo hi:Int):Int:=if x<lo then lo else if hi<x then hi else x
theorem BX(x:Int):-2147483648<=held x/\held x<=2147483647:=by unfold held;split<;>(try split)<;>omega
def placesFrom(length n aE:Int)(same:Bool):Nat->Int->Int
 | 0,_=>0
 | f+1,p=>if p<length then (if (same||decide (p+n<=length))=true then 1 else 0)+placesFrom length n aE same f (p+aE) else 0
def gG(length n aE:Int)(same:Bool):Int:=placesFrom length n aE same length.toNat 0
def kM(length n aE:Int)(same:Bool):Int:=
 let vH:=(gG length n aE same-1)*aE+n-length
 if same=false\/vH<0 then 0 else vH/2
def val:List UInt8->Int
 | []=>0
 | b::r=>(b.toNat:Int)+256*val r
def sY(l:List UInt8)(n:Nat)(cX:Bool):Bool:=cX&&decide (128<=(l.getD (n-1) 0).toNat)
def take(l:List UInt8)(n:Nat)(cX:Bool):Int×List UInt8×Bool:=
 if l.length<n then (0,l,false) else (if sY l n cX=true then val (l.take n)-256 ^ n else val (l.take n),l.drop n,true)
def list(l:List UInt8)(n:Nat)(cX:Bool):Nat->Option (List Int×List UInt8)
 | 0=>some ([],l)
 | k+1=>match list l n cX k with
  | some (xs,r)=>if (take r n cX).2.2=true then some (xs++[(take r n cX).1],(take r n cX).2.1) else none
  | none=>none
end R
namespace D
def S(f:Nat->Int):Nat->Int
 | 0=>0
 | n+1=>S f n+f n
def kM(length n aE:Int)(same:Bool):Int:=
 let vH:=(M.dP n length aE same-1)*aE+n-length
 if same=false\/vH<0 then 0 else vH/2
def get(l:List Int)(i:Int):Int:=if i<0 then 0 else l.getD i.toNat 0
def bN(t:M.Tn)(l:List Int)(y x c:Int):Int:=get l ((y*t.w+x)*t.c+c)
def oq(t:M.Tn)(y x:Int):Bool:=decide (0<=y)&&decide (y<t.h)&&decide (0<=x)&&decide (x<t.w)
structure gH where
 a:M.Tn
 la:List Int
 b:M.Tn
 lb:List Int
 w:M.Tn
 lw:List Int
 mM:List Int
 z:M.Tn
def xy(o:M.Op)(r:gH)(u v c:Int)(i j:Nat):Int:=
 if oq r.a u v=true then
  (if o.af=2 then (bN r.a r.la u v c-r.a.zero)*bN r.w r.lw i j c
  else S (fun k=>(bN r.a r.la u v k-r.a.zero)*bN r.w r.lw i j (c*r.a.c+k)) r.a.c.toNat)
 else 0
def uf(o:M.Op)(r:gH)(y x c:Int):Int:=
 get r.mM c+S (fun i=>S (fun j=>xy o r (y*o.aE-kM r.a.h r.w.h o.aE o.same+i) (x*o.aE-kM r.a.w r.w.w o.aE o.same+j) c i j) r.w.w.toNat) r.w.h.toNat
def Fy(r:gH)(c:Int):Int:=
 get r.mM c+S (fun i=>(get r.la i-r.a.zero)*bN r.w r.lw c 0 i) (M.cellsOf r.a).toNat
def BY(o:M.Op)(k:Nat):M.Sc:=o.bM.getD k ⟨0,0⟩
def jD(x:Int)(s:M.Sc):Int:=R.iN x s.eF s.shift
def Ap(o:M.Op)(r:gH)(y x c:Int):Int:=
 R.held (jD ((bN r.a r.la y x c-r.a.zero)*1048576) (BY o 0)+jD ((bN r.b r.lb y x c-r.b.zero)*1048576) (BY o 1))
def iY(o:M.Op)(r:gH)(y x c:Int)(k:Nat):Int:=bN r.a r.la (y*o.aE+k/o.size) (x*o.aE+k%o.size) c
def yM(o:M.Op):Nat:=(o.size*o.size).toNat
def lp(f:Nat->Int):Nat->Int
 | 0=>0
 | n+1=>if n=0 then f 0 else if lp f n<f n then f n else lp f n
def Aq(s n:Int):Int:=if s<0 then -((-(2*s)+n)/(2*n)) else (2*s+n)/(2*n)
def ug(o:M.Op)(r:gH)(s:Int)(k:Nat):Int:=R.cW (jD s (BY o k)+r.z.zero) o.lo o.hi
def cell(o:M.Op)(r:gH)(y x c:Int):Int:=
 if o.af=1\/o.af=2 then ug o r (uf o r y x c) 0
 else if o.af=3 then ug o r (Fy r c) 0
 else if o.af=4 then ug o r (Ap o r y x c) 2
 else if o.af=5 then R.cW (lp (iY o r y x c) (yM o)) o.lo o.hi
 else if o.af=6 then R.cW (Aq (S (iY o r y x c) (yM o)) (o.size*o.size)) o.lo o.hi
 else if o.af=7 then R.cW (bN r.a r.la y x c) o.lo o.hi
 else if o.af=8 then (if oq r.a (y-o.aT) (x-o.left)=true then bN r.a r.la (y-o.aT) (x-o.left) c else r.z.zero)
 else if o.af=9 then get r.la ((y*r.z.w+x)*r.z.c+c)
 else if c<r.a.c then bN r.a r.la y x c else bN r.b r.lb y x (c-r.a.c)
theorem Mt{o:M.Op}(r:gH)(y x c:Int)(h:o.af=1\/o.af=2):cell o r y x c=ug o r (uf o r y x c) 0:=by
 unfold cell;rw[ay h]
theorem Mu{o:M.Op}(r:gH)(y x c:Int)(h:o.af=3):cell o r y x c=ug o r (Fy r c) 0:=by
 unfold cell;rw[ak (by omega),ay h]
theorem Mv{o:M.Op}(r:gH)(y x c:Int)(h:o.af=4):cell o r y x c=ug o r (Ap o r y x c) 2:=by
 unfold cell;rw[ak (by omega),ak (by omega),ay h]
theorem Mw{o:M.Op}(r:gH)(y x c:Int)(h:o.af=5):cell o r y x c=R.cW (lp (iY o r y x c) (yM o)) o.lo o.hi:=by
 unfold cell;rw[ak (by omega),ak (by omega),ak (by omega),ay h]
theorem Mx{o:M.Op}(r:gH)(y x c:Int)(h:o.af=6):cell o r y x c=R.cW (Aq (S (iY o r y x c) (yM o)) (o.size*o.size)) o.lo o.hi:=by
 unfold cell;rw[ak (by omega),ak (by omega),ak (by omega),ak (by omega),ay h]
theorem Fz{o:M.Op}(r:gH)(y x c:Int)(h:o.af=7):cell o r y x c=R.cW (bN r.a r.la y x c) o.lo o.hi:=by
 unfold cell;rw[ak (by omega),ak (by omega),ak (by omega),ak (by omega),ak (by omega),ay h]
theorem My{o:M.Op}(r:gH)(y x c:Int)(h:o.af=8):cell o r y x c=if oq r.a (y-o.aT) (x-o.left)=true then bN r.a r.la (y-o.aT) (x-o.left) c else r.z.zero:=by
 unfold cell;rw[ak (by omega),ak (by omega),ak (by omega),ak (by omega),ak (by omega),ak (by omega),ay h]
theorem Mz{o:M.Op}(r:gH)(y x c:Int)(h:o.af=9):cell o r y x c=get r.la ((y*r.z.w+x)*r.z.c+c):=by
 unfold cell;rw[ak (by omega),ak (by omega),ak (by omega),ak (by omega),ak (by omega),ak (by omega),ak (by omega),ay h]
theorem MA{o:M.Op}(r:gH)(y x c:Int)(h:o.af=10):cell o r y x c=if c<r.a.c then bN r.a r.la y x c else bN r.b r.lb y x (c-r.a.c):=by
 unfold cell;rw[ak (by omega),ak (by omega),ak (by omega),ak (by omega),ak (by omega),ak (by omega),ak (by omega),ak (by omega)]
def oT(t:M.Tn)(f:Int->Int->Int->Int):List Int:=
 (List.range (M.cellsOf t).toNat).map fun(q:Nat)=>f ((q:Int)/(t.w*t.c)) ((q:Int)/t.c%t.w) ((q:Int)%t.c)
def bW(fM:List (List Int))(n:Int):List Int:=if n<0 then [] else fM.getD n.toNat []
def DR(m:M.Md)(fM:List (List Int))(o:M.Op):gH:=
 ⟨M.aq m o.a,bW fM o.a,M.aq m o.b,bW fM o.b,M.aq m o.aP,bW fM o.aP,bW fM o.bC,M.aq m o.to⟩
def dM(m:M.Md)(fM:List (List Int))(o:M.Op):List Int:=oT (M.aq m o.to) (cell o (DR m fM o))
def step(m:M.Md)(fM:List (List Int))(o:M.Op):List (List Int):=fM.set o.to.toNat (dM m fM o)
def start:List M.Tn->List (List Int)->List (List Int)
 | [],_=>[]
 | t::ts,ins=>if t.af=0 then ins.headD []::start ts ins.tail else if t.af=3 then []::start ts ins else t.data::start ts ins
def fM(m:M.Md)(ins:List (List Int)):List (List Int):=m.ag.foldl (step m) (start m.au ins)
def run(m:M.Md)(ins:List (List Int)):List (List Int):=m.aK.map (bW (fM m ins))
def BZ(m:M.Md):List Int:=(m.au.filter fun t=>t.af==0).map M.cellsOf
def lq(v:Int):Bool:=decide (-128<=v)&&decide (v<=127)
def jP(m:M.Md)(ins:List (List Int)):Bool:=(ins.map fun l=>(l.length:Int))==BZ m&&ins.all fun l=>l.all lq
theorem FA{f g:Nat->Int}{n:Nat}(h:∀i,i<n->f i=g i):S f n=S g n:=by
 induction n with
 | zero=>rfl
 | succ n ih=>unfold S;rw[ih fun i hi=>h i (by omega),h n (by omega)]
theorem aj0(n:Nat):S (fun _=>0) n=0:=by
 induction n with
 | zero=>rfl
 | succ n ih=>unfold S;rw[ih];rfl
theorem aj1{f:Nat->Int}{n:Nat}{k:Int}(h:∀i,i<n->f i<=k):S f n<=n*k:=by
 induction n with
 | zero=>simp[S]
 | succ n ih=>
  unfold S;have:=ih fun i hi=>h i (by omega);have h2:=h n (by omega);have e:((n+1:Nat):Int)*k=n*k+k:=by rw[Int.natCast_add,Int.add_mul];simp
  omega
theorem aj2{f:Nat->Int}{n:Nat}{k:Int}(h:∀i,i<n->k<=f i):n*k<=S f n:=by
 induction n with
 | zero=>simp[S]
 | succ n ih=>
  unfold S;have:=ih fun i hi=>h i (by omega);have h2:=h n (by omega);have e:((n+1:Nat):Int)*k=n*k+k:=by rw[Int.natCast_add,Int.add_mul];simp
  omega
theorem axA{f:Nat->Int}{n:Nat}(h:0<n):∃i,i<n/\lp f n=f i:=by
 induction n with
 | zero=>omega
 | succ n ih=>
  unfold lp;by_cases h0:n=0
  ·rw[ay h0];exact⟨0,by omega,rfl⟩
  ·rw[ak h0]
   by_cases c:lp f n<f n
   ·rw[ay c];exact⟨n,by omega,rfl⟩
   ·rw[ak c];obtain⟨i,hi,e⟩:=ih (by omega);exact⟨i,by omega,e⟩
def kq(l:List Int):Prop:=∀v∈l,-128<=v/\v<=127
theorem IH{l:List Int}(h:kq l)(i:Int):-128<=get l i/\get l i<=127:=by
 unfold get
 split
 ·omega
 ·rw[List.getD]
  cases e:l[i.toNat]? with
  | none=>simp
  | some v=>simpa using h v (bU e)
theorem B6{x lo hi:Int}(h:lo<=hi):lo<=R.cW x lo hi/\R.cW x lo hi<=hi:=by
 unfold R.cW;split<;>(try split)<;>omega
theorem Xj(o:M.Op)(r:gH)(y x c:Int)(ha:kq r.la)(hb:o.af=10->kq r.lb)(rN:1<=o.af)(xz:o.af<=10)(hz:-128<=r.z.zero/\r.z.zero<=127)(me:-128<=o.lo)(hh:o.lo<=o.hi)(II:o.hi<=127) :
  -128<=cell o r y x c/\cell o r y x c<=127:=by
 have B:∀v,-128<=R.cW v o.lo o.hi/\R.cW v o.lo o.hi<=127:=fun v=>by have:=B6 (x:=v) hh;omega
 unfold cell ug
 split
 ·exact B _
 ·split
  ·exact B _
  ·split
   ·exact B _
   ·split
    ·exact B _
    ·split
     ·exact B _
     ·split
      ·exact B _
      ·split
       ·split
        ·exact IH ha _
        ·exact hz
       ·split
        ·exact IH ha _
        ·split
         ·exact IH ha _
         ·exact IH (hb (by omega)) _
theorem Xk{t:M.Tn}{f:Int->Int->Int->Int}(h:∀y x c,-128<=f y x c/\f y x c<=127):kq (oT t f):=by
 intro v hv;obtain⟨q,-,rfl⟩:=List.mem_map.mp hv;exact h _ _ _
theorem aj3(t:M.Tn)(f:Int->Int->Int->Int):(oT t f).length=(M.cellsOf t).toNat:=by unfold oT;simp
theorem axB{t:M.Tn}{f:Int->Int->Int->Int}(q:Nat)(h:(q:Int)<M.cellsOf t):get (oT t f) q=f ((q:Int)/(t.w*t.c)) ((q:Int)/t.c%t.w) ((q:Int)%t.c):=by
 unfold get oT;rw[ak (by omega),eC,List.getD,dV,List.getElem?_range (by omega)]
 rfl
theorem MB{t:M.Tn}{f g:Int->Int->Int->Int}(h:∀y x c,0<=y->y<t.h->0<=x->x<t.w->0<=c->c<t.c->f y x c=g y x c)(hw:0<=t.w)(hc:0<=t.c):oT t f=oT t g:=by
 unfold oT
 apply List.map_congr_left
 intro q hq;have FB:(q:Int)<M.cellsOf t:=by have:=List.mem_range.mp hq;omega
 unfold M.cellsOf at FB;have h0:(0:Int)<=q:=Int.natCast_nonneg q;by_cases vC:t.c=0
 ·rw[vC,Int.mul_zero] at FB;omega
 ·by_cases MC:t.w=0
  ·rw[MC,Int.mul_zero,Int.zero_mul] at FB;omega
  ·have IJ:0<t.w*t.c:=Int.mul_pos (by omega) (by omega)
   refine h _ _ _ (Int.ediv_nonneg h0 (by omega)) (Int.ediv_lt_of_lt_mul IJ (by rw[<-Int.mul_assoc];exact FB)) (DS _ MC) (DU _ (by omega)) (DS _ vC) (DU _ (by omega))
end D
namespace M
structure B8{α:Type}(f g:RS->α×RS):Prop where
 hZ:∀r,r.gg=true->(f r).2.gg=true
 same:∀r,(f r).2.gg=false->g r=f r
def bd{α β:Type}(f:RS->α×RS)(k:α->RS->β×RS)(r:RS):β×RS:=k (f r).1 (f r).2
theorem aj4{s:ByteArray}(h:fh s=0):nY s=0:=by
 unfold fh at h;by_cases c:nY s≠0
 ·rw[ay c] at h;exact h
 ·exact Classical.not_not.mp c
end M
end Go.Proofs.YtcnhfffgbamonaaGreat
