import Derived.Test.YtcnhfffgbamonaaGreatZ30
import Derived.Test.YtcnhfffgbamonaaGreatZ19
set_option maxRecDepth 100000
set_option maxHeartbeats 6400000
namespace Go.Proofs.YtcnhfffgbamonaaGreat
open Go.Proofs.Tryz
namespace R
def idxTo(ts:List M.Tn):Nat->List Int
 |0=>[]
 |k+1=>match ts[k]? with
  |some t=>if t.af=0 then idxTo ts k++[(k:Int)] else idxTo ts k
  |none=>idxTo ts k
def jT(ts:List M.Tn):List Int:=idxTo ts ts.length
theorem Uj{ts:List M.Tn}{k:Nat}{t:M.Tn}(h:ts[k]?=some t)(h0:t.af=0):idxTo ts (k+1)=idxTo ts k++[(k:Int)]:=by rw[idxTo,h];exact ay h0
theorem Uk{ts:List M.Tn}{k:Nat}{t:M.Tn}(h:ts[k]?=some t)(h0:t.af≠0):idxTo ts (k+1)=idxTo ts k:=by rw[idxTo,h];exact ak h0
theorem GH(ts:List M.Tn):∀k,k<=ts.length->(idxTo ts k).length=H.cy ts k
 |0,_=>by simp[idxTo,H.cy]
 |k+1,hk=>by
  have hx:ts[k]?=some ts[k]:=aS (by omega);have ih:=GH ts k (by omega);by_cases h0:(ts[k]).af=0
  ·rw[Uj hx h0,nJ,H.Rv hx h0,ih];rfl
  ·rw[Uk hx h0,H.M8 hx h0,ih]
theorem KR(ts:List M.Tn):∀k,k<=ts.length->∀(i:Nat) x,(idxTo ts k)[i]?=some x->∃(n:Nat) (t:M.Tn),x=n/\n<k/\ts[n]?=some t/\t.af=0/\H.cy ts n=i
 |0,_,i,x,h=>aN h (by simp[idxTo])
 |k+1,hk,i,x,h=>by
  have hx:ts[k]?=some ts[k]:=aS (by omega);by_cases h0:(ts[k]).af=0
  ·rw[Uj hx h0] at h
   rcases cE i (idxTo ts k).length with c|c
   ·rw[qT c] at h
    obtain⟨n,t,e,hn,ht,k0,hc⟩:=KR ts k (by omega) i x h;exact⟨n,t,e,by omega,ht,k0,hc⟩
   ·rw[og c] at h
    have hi:i-(idxTo ts k).length=0:=by
     rcases Nat.eq_zero_or_pos (i-(idxTo ts k).length) with e|e
     ·exact e
     ·rw[db (by simp;omega)] at h;exact aN h (by simp)
    rw[hi] at h;simp at h;refine⟨k,_,h.symm,by omega,hx,h0,?_⟩;have:=GH ts k (by omega);omega
  ·rw[Uk hx h0] at h
   obtain⟨n,t,e,hn,ht,k0,hc⟩:=KR ts k (by omega) i x h;exact⟨n,t,e,by omega,ht,k0,hc⟩
def qE(ts:List M.Tn)(ins:List (List Int))(i t:Nat):List (List Int):=(List.range ts.length).map fun n=>match ts[n]? with
 |some u=>if u.af=0 then (if H.cy ts n<i then ins.getD (H.cy ts n) [] else []) else if (u.af=1\/u.af=2)/\n<t then u.data else []
 |none=>[]
theorem zN(ts:List M.Tn)(ins:List (List Int))(i t:Nat):(qE ts ins i t).length=ts.length:=by simp[qE]
theorem wR{ts:List M.Tn}{ins:List (List Int)}{i t n:Nat}{u:M.Tn}(h:ts[n]?=some u):(qE ts ins i t)[n]?=some (if u.af=0 then (if H.cy ts n<i then ins.getD (H.cy ts n) [] else []) else if (u.af=1\/u.af=2)/\n<t then u.data else []):=by
 unfold qE;rw[dV,List.getElem?_range (M.bP h),Option.map_some,h]
theorem arS(ts:List M.Tn)(ins:List (List Int)):qE ts ins 0 0=List.replicate ts.length []:=by
 apply nM
 intro n;rcases cE n ts.length with h|h
 ·rw[wR (aS h),ui,ay h]
  simp
 ·rw[db (by rw[zN];exact h),db (by simp;exact h)]
theorem arT{ts:List M.Tn}{ins:List (List Int)}{i n:Nat}{u:M.Tn}{l:List Int}(h:ts[n]?=some u)(h0:u.af=0)(hc:H.cy ts n=i)(hl:ins[i]?=some l):(qE ts ins i 0).set n l=qE ts ins (i+1) 0:=by
 have hn:=M.bP h
 apply nM
 intro m;rw[ox];by_cases e:n=m
 ·subst e
  rw[ay rfl,zN,ay hn,wR h,ay h0,ay (by omega),hc,List.getD,hl]
  rfl
 ·rw[ak e]
  rcases cE m ts.length with hm|hm
  ·have hx:=aS hm
   rw[wR hx,wR hx];by_cases k0:(ts[m]).af=0
   ·rw[ay k0,ay k0]
    have:H.cy ts m≠i:=fun e'=>e (H.akX h h0 hx k0 (by omega));by_cases c:H.cy ts m<i
    ·rw[ay c,ay (by omega)]
    ·rw[ak c,ak (by omega)]
   ·rw[ak k0,ak k0]
  ·rw[db (by rw[zN];exact hm),db (by rw[zN];exact hm)]
theorem arU{ts:List M.Tn}{ins:List (List Int)}{i n:Nat}{u:M.Tn}(h:ts[n]?=some u)(hk:u.af=1\/u.af=2):(qE ts ins i n).set n u.data=qE ts ins i (n+1):=by
 have hn:=M.bP h
 apply nM
 intro m;rw[ox];by_cases e:n=m
 ·subst e
  rw[ay rfl,zN,ay hn,wR h,ak (by omega),ay ⟨hk,by omega⟩]
 ·rw[ak e]
  rcases cE m ts.length with hm|hm
  ·have hx:=aS hm
   rw[wR hx,wR hx];by_cases c:m<n
   ·have c':m<n+1:=by omega
    simp only[c,c',and_true]
   ·have c':¬m<n+1:=by omega
    simp only[c,c',and_false]
  ·rw[db (by rw[zN];exact hm),db (by rw[zN];exact hm)]
theorem arV{ts:List M.Tn}{ins:List (List Int)}{i n:Nat}{u:M.Tn}(h:ts[n]?=some u)(hk:¬(u.af=1\/u.af=2)):qE ts ins i (n+1)=qE ts ins i n:=by
 apply nM
 intro m;rcases cE m ts.length with hm|hm
 ·have hx:=aS hm
  rw[wR hx,wR hx];by_cases e:n=m
  ·subst e
   rw[hx] at h;injection h with h;rw[<-h] at hk;simp only[hk,false_and]
  ·by_cases c:m<n
   ·have c':m<n+1:=by omega
    simp only[c,c',and_true]
   ·have c':¬m<n+1:=by omega
    simp only[c,c',and_false]
 ·rw[db (by rw[zN];exact hm),db (by rw[zN];exact hm)]
theorem Pe:∀(ts:List M.Tn) (ins:List (List Int)) (n:Nat) t,ts[n]?=some t->(D.start ts ins)[n]?=some (if t.af=0 then ins.getD (H.cy ts n) [] else if t.af=3 then [] else t.data)
 | [],_,n,t,h=>aN h (by simp)
 |u::ts,ins,0,t,h=>by
  simp at h;subst h;unfold D.start;by_cases c:u.af=0
  ·rw[ay c,ay c];cases ins<;>simp[H.cy]
  ·rw[ak c,ak c]
   by_cases c3:u.af=3
   ·rw[ay c3,ay c3];rfl
   ·rw[ak c3,ak c3];rfl
 |u::ts,ins,n+1,t,h=>by
  have h':ts[n]?=some t:=by simpa using h
  unfold D.start;by_cases c:u.af=0
  ·rw[ay c]
   have e:H.cy (u::ts) (n+1)=H.cy ts n+1:=by unfold H.cy;rw[List.take_succ_cons,List.filter_cons];simp[H.qu,c]
   rw[e,List.getElem?_cons_succ,Pe ts ins.tail n t h']
   congr 2
   cases ins<;>simp
  ·rw[ak c]
   have e:H.cy (u::ts) (n+1)=H.cy ts n:=by unfold H.cy;rw[List.take_succ_cons,List.filter_cons];simp[H.qu,c]
   rw[e]
   split
   ·rw[List.getElem?_cons_succ];exact Pe ts ins n t h'
   ·rw[List.getElem?_cons_succ];exact Pe ts ins n t h'
theorem arW{ts:List M.Tn}(hk:∀t∈ts,0<=t.af/\t.af<=3)(ins:List (List Int)):qE ts ins (H.cy ts ts.length) ts.length=D.start ts ins:=by
 apply nM
 intro n;rcases cE n ts.length with h|h
 ·have hx:=aS h
  rw[wR hx,Pe ts ins n _ hx];have:=hk _ (List.getElem_mem h);by_cases c:(ts[n]).af=0
  ·rw[ay c,ay c,ay (H.FG hx c h)]
  ·rw[ak c,ak c]
   by_cases c3:(ts[n]).af=3
   ·rw[ay c3,ak (by omega)]
   ·rw[ak c3,ay ⟨by omega,h⟩]
 ·rw[db (by rw[zN];exact h),db (by rw[O.Q7];exact h)]
end R
namespace R
theorem aef{l:List Int}(h:D.kq l)(i:Int):-128<=D.get l i/\D.get l i<=127:=by
 unfold D.get
 split
 ·omega
 ·rw[List.getD]
  cases e:l[i.toNat]? with
  |none=>simp
  |some v=>exact h v (bU e)
theorem uW{t:M.Tn}{l:List Int}(h:D.kq l)(y x c:Int):-128<=D.bN t l y x c/\D.bN t l y x c<=127:=aef h _
structure Dk(r:D.gH):Prop where
 za:-128<=r.a.zero/\r.a.zero<=127
 ca:D.kq r.la
 cw:D.kq r.lw
 c1:r.a.c<=255
 bi:∀v∈r.mM,-1073741824<=v/\v<=1073741824
theorem aeg{r:D.gH}(h:Dk r)(c:Int):-1073741824<=D.get r.mM c/\D.get r.mM c<=1073741824:=by
 unfold D.get
 split
 ·omega
 ·rw[List.getD]
  cases e:r.mM[c.toNat]? with
  |none=>simp
  |some v=>exact h.bi v (bU e)
def iO(r:D.gH)(u v c:Int)(i j:Nat)(k:Nat):Int:=(D.bN r.a r.la u v k-r.a.zero)*D.bN r.w r.lw i j (c*r.a.c+k)
theorem arX{r:D.gH}(h:Dk r)(u v c:Int)(i j k:Nat):-32640<=iO r u v c i j k/\iO r u v c i j k<=32640:=
 O.yS (uW h.ca _ _ _) h.za (uW h.cw _ _ _)
theorem aeh{r:D.gH}(h:Dk r)(u v c:Int)(i j n:Nat)(hn:n<=255):-8323200<=D.S (iO r u v c i j) n/\D.S (iO r u v c i j) n<=8323200:=by
 have:=O.yR (N:=255) (B:=32640) hn (by decide) fun k _=>arX h u v c i j k;omega
theorem arY{o:M.Op}{r:D.gH}(h:Dk r)(u v c:Int)(i j:Nat):-8323200<=D.xy o r u v c i j/\D.xy o r u v c i j<=8323200:=by
 unfold D.xy
 split
 ·split
  ·have:=O.yS (uW (t:=r.a) h.ca u v c) h.za (uW (t:=r.w) h.cw i j c)
   omega
  ·exact aeh h u v c i j _ (by have:=h.c1;omega)
 ·omega
def ru(o:M.Op)(r:D.gH)(y:Int)(i:Nat):Int:=y*o.aE-D.kM r.a.h r.w.h o.aE o.same+i
def rv(o:M.Op)(r:D.gH)(x:Int)(j:Nat):Int:=x*o.aE-D.kM r.a.w r.w.w o.aE o.same+j
def tp(o:M.Op)(r:D.gH)(y x c:Int)(i j:Nat):Int:=D.xy o r (ru o r y i) (rv o r x j) c i j
def ws(o:M.Op)(r:D.gH)(y x c:Int)(i j:Nat):Int:=D.get r.mM c+D.S (fun i=>D.S (tp o r y x c i) r.w.w.toNat) i+D.S (tp o r y x c i) j
theorem arZ(o:M.Op)(r:D.gH)(y x c:Int):ws o r y x c 0 0=D.get r.mM c:=by unfold ws D.S;omega
theorem ar0(o:M.Op)(r:D.gH)(y x c:Int)(i j:Nat):ws o r y x c i (j+1)=ws o r y x c i j+tp o r y x c i j:=by
 unfold ws
 conv=>lhs;rhs;unfold D.S
 omega
theorem ar1(o:M.Op)(r:D.gH)(y x c:Int)(i:Nat):ws o r y x c (i+1) 0=ws o r y x c i r.w.w.toNat:=by
 show D.get r.mM c+(D.S (fun i=>D.S (tp o r y x c i) r.w.w.toNat) i+D.S (tp o r y x c i) r.w.w.toNat)+0=D.get r.mM c+D.S (fun i=>D.S (tp o r y x c i) r.w.w.toNat) i+D.S (tp o r y x c i) r.w.w.toNat;omega
theorem ar2(o:M.Op)(r:D.gH)(y x c:Int):ws o r y x c r.w.h.toNat 0=D.uf o r y x c:=by
 unfold ws D.uf;show _+D.S _ _+0=_;rw[Int.add_zero]
 rfl
theorem ar3{o:M.Op}{r:D.gH}(h:Dk r)(y x c:Int){i j:Nat}(hi:i<=255)(hj:j<=255)(hw:r.w.w<=255):-1000000000000<=ws o r y x c i j/\ws o r y x c i j<=1000000000000:=by
 have b:=aeg h c;have row:∀i n,n<=255->-2122416000<=D.S (tp o r y x c i) n/\D.S (tp o r y x c i) n<=2122416000:=by
  intro i n hn;have:=O.yR (N:=255) (B:=8323200) hn (by decide) fun k _=>arY (o:=o) h (ru o r y i) (rv o r x k) c i k
  constructor
  ·exact this.1
  ·exact this.2
 have r1:=row i j hj;have r2:=O.yR (N:=255) (B:=2122416000) hi (by decide) fun k _=>row k r.w.w.toNat (by omega);unfold ws;omega
theorem ar4{o:M.Op}{r:D.gH}{y x c:Int}{i j:Nat}(h:D.oq r.a (ru o r y i) (rv o r x j)=false):tp o r y x c i j=0:=by
 unfold tp D.xy;rw[ak (by rw[h];decide)]
theorem ar5{o:M.Op}{r:D.gH}{y x c:Int}{i j:Nat}(h:D.oq r.a (ru o r y i) (rv o r x j)=true)(h2:o.af=2):tp o r y x c i j=(D.bN r.a r.la (ru o r y i) (rv o r x j) c-r.a.zero)*D.bN r.w r.lw i j c:=by
 unfold tp D.xy;rw[ay h,ay h2]
theorem ar6{o:M.Op}{r:D.gH}{y x c:Int}{i j:Nat}(h:D.oq r.a (ru o r y i) (rv o r x j)=true)(h2:o.af≠2):tp o r y x c i j=D.S (iO r (ru o r y i) (rv o r x j) c i j) r.a.c.toNat:=by
 unfold tp D.xy;rw[ay h,ak h2];rfl
def ds(r:D.gH)(c:Int)(i:Nat):Int:=D.get r.mM c+D.S (fun i=>(D.get r.la i-r.a.zero)*D.bN r.w r.lw c 0 i) i
theorem ar7(r:D.gH)(c:Int)(i:Nat):ds r c (i+1)=ds r c i+(D.get r.la i-r.a.zero)*D.bN r.w r.lw c 0 i:=by
 unfold ds
 conv=>lhs;rhs;unfold D.S
 omega
theorem ar8{r:D.gH}(h:Dk r)(c:Int){i:Nat}(hi:i<=512):-1090453504<=ds r c i/\ds r c i<=1090453504:=by
 have b:=aeg h c;have:=O.yR (f:=fun i:Nat=>(D.get r.la i-r.a.zero)*D.bN r.w r.lw c 0 i) (N:=512) (B:=32640) hi (by decide) fun k _=>O.yS (aef h.ca _) h.za (uW h.cw _ _ _);unfold ds;omega
theorem aei{m:M.Md}{o:M.Op}{la lb:List Int}(F:O.jQ m o la lb)(hk:M.cm o.af=true):Dk (O.dd m o la lb):=
 ⟨⟨F.a.z0,F.a.z1⟩,F.ca,F.cw hk,F.a.c1,F.ci hk⟩
end R
open RowKit
theorem Ul(b:Nat)(g:R.bX)(w:World)(h:lF w b g)(hn:g.ts.length<=255) :
  Calls prog 40 #[.pointer (some ⟨b,0,none⟩)] w fun e w'=>(∃ao c,e=.returned (.slice ao (R.jT g.ts).length c)/\aZ w' w.heap.size (.slice ao (R.jT g.ts).length c) (R.jT g.ts))/\w.grownBy w' none:=by
 obtain⟨i0,hi,cP,cQ,cZ⟩:=info_parts Tryz.oO;obtain⟨a1,c1,a2,c2,a3,c3,hB,hT,-,-⟩:=h;have q0:w.cell? ⟨b,0,none⟩=some (.slice a1 g.ts.length c1):=hB.cell 0;have Q0:=ae q0;have HT:=ae hT;clear hB hT;go_enter func40,ntmps40;go_wp2;clear q0;go_loopw[3,4] (fun v i wr=>∃(k:Nat) (ao:Option Addr) (c:Nat),k<=g.ts.length/\v=.slice ao (R.idxTo g.ts k).length c/\i=.int .i64 k/\Hid (aZ wr w.heap.size (.slice ao (R.idxTo g.ts k).length c) (R.idxTo g.ts k))/\w.grownBy wr none) (fun _ i _=>g.ts.length-(intOf i).toNat)
 case atStart=>exact⟨0,none,0,bK _,rfl,rfl,aZ.nil _ _,fZ _ _⟩
 case round=>
  obtain⟨k,ao,c,hk,rfl,rfl,HI,aF⟩:=hrel;have q0:=aG aF Q0.out;by_cases aJ:k<g.ts.length
  ·obtain⟨t,ht⟩:∃t,g.ts[k]?=some t:=⟨_,aS aJ⟩
   obtain⟨ga,ad,cd,rfl,-,-,-,d0,-⟩:=(HT.out.Z aF).get k t ht;have iX:(R.idxTo g.ts k).length<=255:=by
    have h1:=R.GH g.ts k hk;have h2:H.cy g.ts k<=k:=by unfold H.cy;exact jN (List.length_filter_le _ _) (by simp;omega)
    omega
   by_cases h0:t.af=0
   ·have b0:(t.af==0)=true:=by simp[h0]
    have He:=ae (R.Uj ht h0);have HG:=ae aF;clear ht h0 aF;generalize R.idxTo g.ts k=L at *;go_wp2_with(at_builtin;refine nD _ rfl _ _ 33 rfl w.heap.size 3 i0 (.int .i64 0) 1 8 underlying33 hi cP cQ cZ rfl (by decide) _ _ _ rfl (lB HI.out _) ⟨wr.heap.size,0,none⟩ 1 1 [.int .i64 k] rfl rfl ?c1 ?c2 ?c3 ?c4 ?c5 ?_)
    case c1=>exact kb wr 3 #[.int .i64 k]
    case c2=>intro u hu;simp at hu;subst hu;rfl
    case c3=>unfold maxLen;omega
    case c4=>omega
    case c5=>have:=HG.out.size;simp;omega
    intro v' w9 cB cR _;have bq:wr.grownBy w9 (Value.slice ao L.length c).ownBlock:=aC (aQ wr _ _) cR;have dR:=mJ HI.out;have I9:aZ w9 w.heap.size v' (L++[(k:Int)]):=by unfold aZ;simpa using cB
    obtain⟨AL,c',hv⟩:=gP I9;subst hv;have lD:=ae I9;have jh:=ae (l8 HG.out bq (fun g hg=>by have:=dR g hg;omega));clear cB cR bq dR I9 HI HG;go_wp2;go_roundw
    case rel=>exact⟨k+1,AL,c',by omega,by rw[He.out],by go_num,by rw[He.out];exact lD.out,jh.out⟩
    case measure=>simp[intOf];omega
   ·have b0:(t.af==0)=false:=by simp[h0]
    have He:=ae (R.Uk ht h0);have HG:=ae aF;clear ht h0 aF;go_wp2;go_roundw
    case rel=>exact⟨k+1,ao,c,by omega,by rw[He.out],by go_num,by rw[He.out];exact HI.out,HG.out⟩
    case measure=>simp[intOf];omega
  ·obtain rfl:k=g.ts.length:=by omega
   have HG:=ae aF;clear aF;go_wp2;go_ret;exact⟨⟨ao,c,rfl,HI.out⟩,HG.out⟩
theorem ar9(p:Nat)(md:M.Md)(w:World)(hP:Pl w p md) :
  Calls prog 78 #[.pointer (some ⟨p,0,none⟩),.int .i64 (gC md.au).length] w fun e w'=>e=.returned (.int .i64 0)/\w'=w:=by
 obtain⟨m,an,cn,ab,cb,-,-,hB,-,-,hF,-,h1⟩:=hP;have ok:=AV h1;have q1:w.cell? ⟨p,1,none⟩=some (.int .i64 (H.fO (pM md))):=hB.cell 1;have kl:=ok.2.2.2.2;rw[CF h1] at q1 kl;clear hB h1 hF ok;go_enter func78,ntmps78;go_wp2;go_ret;exact⟨rfl,rfl⟩
theorem asa(p:Nat)(w:World) :
  Calls prog 78 #[.pointer (some ⟨p,0,none⟩),.int .i64 (-1)] w fun e w'=>e=.returned (.int .i64 0)/\w'=w:=by
 go_enter func78,ntmps78;go_wp2;go_ret;exact⟨rfl,rfl⟩
end Go.Proofs.YtcnhfffgbamonaaGreat
