import Derived.Test.YtcnhfffgbamonaaGreatZ55
set_option maxRecDepth 100000
set_option maxHeartbeats 6400000
namespace Go.Proofs.YtcnhfffgbamonaaGreat
open Go.Proofs.Tryz
def b8(v:Int):UInt8:=UInt8.ofNat (v%256).toNat
theorem aj5(v:Int):((b8 v).toNat:Int)=v%256:=by
 have h0:0<=v%256:=DS _ (by decide);have h1:v%256<256:=DU _ (by decide);unfold b8;rw[UInt8.toNat_ofNat'];omega
def S8(l:List UInt8):ByteArray:=⟨l.toArray⟩
def w4(v:Int):List UInt8:=[b8 v,b8 (v/256),b8 (v/65536),b8 (v/16777216)]
theorem aj6(a:List UInt8):(S8 a).size=a.length:=by
 unfold S8;simp[ByteArray.size]
def sq{α β:Type}(f:ByteArray->M.RS->α×M.RS)(k:α->ByteArray->M.RS->β×M.RS)(s:ByteArray)(r:M.RS):β×M.RS:=k (f s r).1 s (f s r).2
structure yN(t:M.Tn):Prop where
 k0:0<=t.af
 k1:t.af<=3
 h0:0<=t.h
 h1:t.h<=255
 w0:0<=t.w
 w1:t.w<=255
 c0:0<=t.c
 c1:t.c<=255
 z0:-128<=t.zero
 z1:t.zero<=127
 Xl:t.af≠1->t.af≠2->t.data=[]
 lr:t.af=1->t.h*t.w*t.c=t.data.length/\∀x∈t.data,-128<=x/\x<=127
 MD:t.af=2->t.h*t.w*t.c=t.data.length/\∀x∈t.data,-2147483648<=x/\x<=2147483647
structure uh(c:M.Sc):Prop where
 m0:-2147483648<=c.eF
 m1:c.eF<=2147483647
 s0:-128<=c.shift
 s1:c.shift<=127
def pA(o:M.Op):List Int:=
 o.a::((if M.cm o.af=true then [o.aP,o.bC] else [])++(if M.dr o.af=true then [o.b] else []))
def fQ(v:Int):Prop:=0<=v/\v<=255
def qU(v:Int):Prop:=-128<=v/\v<=127
structure kN(o:M.Op):Prop where
 k0:1<=o.af
 k1:o.af<=10
 a:fQ o.a
 b:fQ o.b
 ws:fQ o.aP
 bs:fQ o.bC
 to:fQ o.to
 QP:M.cm o.af=false->o.aP=0/\o.bC=0
 aV:M.dr o.af=false->o.b=0
 size:fQ o.size
 aE:fQ o.aE
 aT:fQ o.aT
 below:fQ o.below
 left:fQ o.left
 right:fQ o.right
 lo:qU o.lo
 hi:qU o.hi
 ME:¬(o.af=5\/o.af=6)->o.size=0
 IK:¬(o.af=1\/o.af=2\/o.af=5\/o.af=6)->o.aE=0
 MF:¬(o.af=1\/o.af=2)->o.same=false
 MG:o.af≠8->o.aT=0/\o.below=0/\o.left=0/\o.right=0
 QQ:¬(1<=o.af/\o.af<=7)->o.lo=0/\o.hi=0
 bM:o.bM.length=if M.cm o.af=true then 1 else if o.af=4 then 3 else 0
 gI:∀c∈o.bM,uh c
theorem ku(k:Int):M.cm k=true↔k=1\/k=2\/k=3:=by unfold M.cm;simp[or_assoc]
theorem nH(k:Int):M.dr k=true↔k=4\/k=10:=by unfold M.dr;simp
structure ow(m:M.Md):Prop where
 nt:m.au.length<=255
 no:m.ag.length<=255
 nu:m.aK.length<=255
 ts:∀t∈m.au,yN t
 os:∀o∈m.ag,kN o
 us:∀u∈m.aK,fQ u
namespace M
structure bL{α:Type}(f:RS->α×RS)(P:α->Prop):Prop where
 hZ:∀r,(f r).2.gg=false->r.gg=false
 ok:∀r,(f r).2.gg=false->P (f r).1
theorem bL.bind{α β:Type}{f:RS->α×RS}{k:α->RS->β×RS}{P:α->Prop}{Q:β->Prop}(h:bL f P)(hk:∀x,bL (k x) fun y=>P x->Q y):bL (bd f k) Q:=
 ⟨fun r hr=>h.hZ r ((hk _).hZ _ hr),fun r hr=>(hk _).ok _ hr (h.ok r ((hk _).hZ _ hr))⟩
theorem bL.pure{α:Type}{x:α}{P:α->Prop}(h:P x):bL (fun r=>(x,r)) P:=⟨fun _ hr=>hr,fun _ _=>h⟩
theorem bL.mono{α:Type}{f:RS->α×RS}{P Q:α->Prop}(h:bL f P)(hq:∀x,P x->Q x):bL f Q:=⟨h.hZ,fun r hr=>hq _ (h.ok r hr)⟩
theorem bL.ite{α:Type}{f g:RS->α×RS}{P:α->Prop}(c:Prop)[Decidable c](h:c->bL f P)(h':¬c->bL g P):bL (fun r=>if c then f r else g r) P:=by
 by_cases hc:c
 ·simpa only[ay hc] using h hc
 ·simpa only[ak hc] using h' hc
theorem Xm(s:ByteArray)(i:Nat):fQ (bt s i):=by
 unfold bt fQ;have:=UInt8.toNat_lt (s.data.toList.getD i 0);omega
theorem bL.plain(s:ByteArray):bL (plain s) fQ:=by
 refine⟨fun r hr=>?_,fun r hr=>?_⟩
 ·unfold M.plain at hr
  by_cases c:(r.gg||decide (s.size<=r.bG))=true
  ·rw[ay c] at hr;exact aN hr (by simp)
  ·cases hb:r.gg with
   | false=>rfl
   | true=>rw[hb] at c;simp at c
 ·unfold M.plain at hr ⊢
  split
  ·unfold fQ;omega
  ·exact Xm _ _
theorem bL.ji(s:ByteArray)(lo hi:Int):bL (ji s lo hi) fun v=>fQ v/\lo<=v/\v<=hi:=by
 have h:bL (bd (M.plain s) fun x r=>if (decide (x<lo)||decide (hi<x))=true then ((0:Int),(⟨r.bG,true⟩:RS)) else (x,r)) (fun v=>fQ v/\lo<=v/\v<=hi):=by
  refine(bL.plain s).bind fun x=>?_;by_cases c:(decide (x<lo)||decide (hi<x))=true
  ·simp only[ay c]
   exact⟨fun r hr=>aN hr (by simp),fun r hr=>aN hr (by simp)⟩
  ·simp only[ak c]
   have c':lo<=x/\x<=hi:=by simpa using c
   exact bL.pure fun hx=>⟨hx,c'⟩
 exact h
theorem bL.dK(s:ByteArray):bL (dK s) qU:=by
 have h:bL (bd (M.plain s) fun x r=>(if 127<x then x-256 else x,r)) qU:=by
  refine(bL.plain s).bind fun x=>bL.pure fun hx=>?_;unfold fQ at hx;unfold qU
  split<;>omega
 exact h
def MH(v:Int):Prop:=-2147483648<=v/\v<=2147483647
theorem bL.kX(s:ByteArray):bL (kX s) MH:=by
 have h:bL (bd (M.plain s) fun a=>bd (M.plain s) fun b=>bd (M.plain s) fun c=>bd (M.dK s) fun d r=>(d*16777216+c*65536+b*256+a,r)) MH:=by
  refine(bL.plain s).bind fun a=>(bL.plain s).bind fun b=>(bL.plain s).bind fun c=>(bL.dK s).bind fun d=>bL.pure ?_;unfold fQ qU MH
  intros;omega
 exact h
theorem bL.rep{α:Type}{f:RS->α×RS}{P:α->Prop}(h:bL f P):∀n,bL (rep f n) fun l=>l.length=n/\∀x∈l,P x
 | 0=>bL.pure ⟨rfl,by simp⟩
 | n+1=>(bL.rep h n).bind (k:=fun l=>bd f fun x r=>(l++[x],r)) fun l=>h.bind fun x=>bL.pure fun hx hl=>by
   refine⟨by rw[nJ,hl.1];rfl,fun y hy=>?_⟩;rcases List.mem_append.mp hy with hy|hy
   ·exact hl.2 y hy
   ·rw[List.mem_singleton.mp hy];exact hx
theorem bL.eZ{α:Type}{f:RS->α×RS}{P:α->Prop}(h:bL f P):∀n,bL (eZ f n) fun l=>l.length=n/\∀x∈l,P x
 | 0=>bL.pure ⟨rfl,by simp⟩
 | n+1=>(bL.eZ h n).bind (k:=fun l r=>if r.gg=true then (l,r) else (l++[(f r).1],(f r).2)) fun l=>by
   refine⟨fun r hr=>?_,fun r hr=>?_⟩
   ·by_cases hb:r.gg=true
    ·rw[ay hb] at hr;exact hr
    ·simpa using hb
   ·by_cases hb:r.gg=true
    ·rw[ay hb] at hr;rw[hb] at hr;exact aN hr (by decide)
    ·rw[ak hb] at hr ⊢
     intro hl;refine⟨by rw[nJ,hl.1];rfl,fun y hy=>?_⟩;rcases List.mem_append.mp hy with hy|hy
     ·exact hl.2 y hy
     ·rw[List.mem_singleton.mp hy];exact h.ok r hr
theorem bL.df{α:Type}(s:ByteArray)(n:Int)(z:α){f:RS->α×RS}{P:α->Prop}(h:bL f P) :
  bL (fun r=>if (M.df s n r).1=true then f (M.df s n r).2 else (z,(M.df s n r).2)) P:=by
 have cF:∀r,((fun r=>if (M.df s n r).1=true then f (M.df s n r).2 else (z,(M.df s n r).2)) r).2.gg=false->r.gg=false/\(M.df s n r)=(true,r):=by
  intro r hr
  dsimp only at hr
  unfold M.df at hr ⊢;by_cases c:(s.size:Int)-r.bG<n
  ·rw[ay c] at hr;simp at hr
  ·rw[ak c] at hr ⊢
   cases hb:r.gg with
   | true=>rw[hb] at hr;simp[hb] at hr
   | false=>exact⟨rfl,by simp⟩
 refine⟨fun r hr=>(cF r hr).1,fun r hr=>?_⟩;have k:=(cF r hr).2;rw[k] at hr ⊢;exact h.ok r hr
theorem bL.fH(s:ByteArray):bL (fH s) yN:=by
 have h:bL (bd (M.ji s 0 3) fun k=>bd (M.plain s) fun a=>bd (M.plain s) fun b=>bd (M.plain s) fun c=>bd (M.dK s) fun z=>
   bd (fun r=>if k=1 then M.cells s (a*b*c) r else if k=2 then M.sL s (a*b*c) r else ([],r)) fun d r=>((⟨k,a,b,c,z,d⟩:Tn),r)) yN:=by
  refine(bL.ji s 0 3).bind fun k=>(bL.plain s).bind fun a=>(bL.plain s).bind fun b=>(bL.plain s).bind fun c=>(bL.dK s).bind fun z=>?_;have hd:bL (fun r=>if k=1 then M.cells s (a*b*c) r else if k=2 then M.sL s (a*b*c) r else ([],r)) fun d=>
    (k=1->d.length=(a*b*c).toNat/\∀x∈d,qU x)/\(k=2->d.length=(a*b*c).toNat/\∀x∈d,MH x)/\(k≠1->k≠2->d=[]):=by
   refine bL.ite _ (fun h1=>?_) (fun h1=>bL.ite _ (fun h2=>?_) (fun h2=>?_))
   ·exact(bL.df s _ [] (bL.rep (bL.dK s) _)).mono fun d hd=>⟨fun _=>hd,fun h=>aN h (by omega),fun h=>aN h1 h⟩
   ·exact(bL.df s _ [] (bL.rep (bL.kX s) _)).mono fun d hd=>⟨fun h=>aN h h1,fun _=>hd,fun _ h=>aN h2 h⟩
   ·exact bL.pure ⟨fun h=>aN h h1,fun h=>aN h h2,fun _ _=>rfl⟩
  refine hd.bind fun d=>bL.pure ?_;intro hd hz hc hb ha hk;unfold fQ at ha hb hc hk;unfold qU at hz;have hp:0<=a*b*c:=lg (lg ha.1 hb.1) hc.1;exact⟨hk.2.1,hk.2.2,ha.1,ha.2,hb.1,hb.2,hc.1,hc.2,hz.1,hz.2,hd.2.2,fun h1=>⟨by have:=(hd.1 h1).1;dsimp only;omega,(hd.1 h1).2⟩,fun h2=>⟨by have:=(hd.2.1 h2).1;dsimp only;omega,(hd.2.1 h2).2⟩⟩
 exact h
theorem bL.gX(s:ByteArray):bL (gX s) uh:=by
 have h:bL (bd (M.kX s) fun m=>bd (M.dK s) fun v r=>((⟨m,v⟩:Sc),r)) uh:=
  (bL.kX s).bind fun m=>(bL.dK s).bind fun v=>bL.pure fun hv hm=>⟨hm.1,hm.2,hv.1,hv.2⟩
 exact h
structure QR(o:Op):Prop where
 k0:1<=o.af
 k1:o.af<=10
 a:fQ o.a
 b:fQ o.b
 ws:fQ o.aP
 bs:fQ o.bC
 to:fQ o.to
 QP:cm o.af=false->o.aP=0/\o.bC=0
 aV:dr o.af=false->o.b=0
 size:fQ o.size
 aE:fQ o.aE
 aT:fQ o.aT
 below:fQ o.below
 left:fQ o.left
 right:fQ o.right
 ME:¬(o.af=5\/o.af=6)->o.size=0
 IK:¬(o.af=1\/o.af=2\/o.af=5\/o.af=6)->o.aE=0
 MF:¬(o.af=1\/o.af=2)->o.same=false
 MG:o.af≠8->o.aT=0/\o.below=0/\o.left=0/\o.right=0
 bM:o.bM=[]
 lo:o.lo=0
 hi:o.hi=0
theorem bL.cT(s:ByteArray)(o:Op):bL (j7 s o) fun o'=>QR o/\o.size=0/\o.aE=0/\o.same=false/\o.aT=0/\o.below=0/\o.left=0/\o.right=0->kN o':=by
 have e:M.j7 s o=bd (fun r=>if o.af=1\/o.af=2 then bd (M.plain s) (fun st=>bd (M.ji s 0 1) fun sm r=>({ o with aE:=st,same:=sm==1 },r)) r
   else if o.af=5\/o.af=6 then bd (M.plain s) (fun sz=>bd (M.plain s) fun st r=>({ o with size:=sz,aE:=st },r)) r
   else if o.af=8 then bd (M.plain s) (fun a=>bd (M.plain s) fun b=>bd (M.plain s) fun l=>bd (M.plain s) fun g r=>({ o with aT:=a,below:=b,left:=l,right:=g },r)) r
   else (o,r))
  (fun o1=>bd (fun r=>if cm o.af=true then bd (M.rep (M.gX s) 1) (fun l r=>({ o1 with bM:=l },r)) r else (o1,r))
   fun o2=>bd (fun r=>if o.af=4 then bd (M.rep (M.gX s) 3) (fun l r=>({ o2 with bM:=l },r)) r else (o2,r))
   fun o3 r=>if 1<=o.af/\o.af<=7 then bd (M.dK s) (fun lo=>bd (M.dK s) fun hi r=>({ o3 with lo:=lo,hi:=hi },r)) r else (o3,r)):=rfl
 rw[e];have h1:bL (fun r=>if o.af=1\/o.af=2 then bd (M.plain s) (fun st=>bd (M.ji s 0 1) fun sm r=>({ o with aE:=st,same:=sm==1 },r)) r
   else if o.af=5\/o.af=6 then bd (M.plain s) (fun sz=>bd (M.plain s) fun st r=>({ o with size:=sz,aE:=st },r)) r
   else if o.af=8 then bd (M.plain s) (fun a=>bd (M.plain s) fun b=>bd (M.plain s) fun l=>bd (M.plain s) fun g r=>({ o with aT:=a,below:=b,left:=l,right:=g },r)) r
   else (o,r)) fun o1=>o1.af=o.af/\(QR o/\o.size=0/\o.aE=0/\o.same=false/\o.aT=0/\o.below=0/\o.left=0/\o.right=0->QR o1):=by
  refine bL.ite _ (fun k1=>?_) (fun k1=>bL.ite _ (fun k2=>?_) (fun k2=>bL.ite _ (fun k3=>?_) (fun k3=>?_)))
  ·refine(bL.plain s).bind fun st=>(bL.ji s 0 1).bind fun sm=>bL.pure fun Ca cC=>⟨rfl,fun⟨h,_⟩=>?_⟩
   exact { h with aE:=cC,IK:=fun hn=>aN k1 (by simp only at hn;omega),MF:=fun hn=>aN k1 hn }
  ·refine(bL.plain s).bind fun sz=>(bL.plain s).bind fun st=>bL.pure fun cC ju=>⟨rfl,fun⟨h,_⟩=>?_⟩
   exact { h with size:=ju,aE:=cC,ME:=fun hn=>aN k2 hn,IK:=fun hn=>aN k2 (by simp only at hn;omega) }
  ·refine(bL.plain s).bind fun a=>(bL.plain s).bind fun b=>(bL.plain s).bind fun l=>(bL.plain s).bind fun g=>bL.pure fun hg hl hb ha=>⟨rfl,fun⟨h,_⟩=>?_⟩
   exact { h with aT:=ha,below:=hb,left:=hl,right:=hg,MG:=fun hn=>aN k3 hn }
  ·exact bL.pure ⟨rfl,fun h=>h.1⟩
 refine h1.bind fun o1=>?_;have h2:bL (fun r=>if cm o.af=true then bd (M.rep (M.gX s) 1) (fun l r=>({ o1 with bM:=l },r)) r else (o1,r))
   fun o2=>(cm o.af=true->∃l,o2={ o1 with bM:=l }/\l.length=1/\∀c∈l,uh c)/\(cm o.af=false->o2=o1):=by
  refine bL.ite _ (fun k=>?_) (fun k=>bL.pure ⟨fun h=>aN h k,fun _=>rfl⟩);exact(bL.rep (bL.gX s) 1).bind fun l=>bL.pure fun hl=>⟨fun _=>⟨l,rfl,hl⟩,fun h=>by rw[k] at h;exact aN h (by decide)⟩
 refine h2.bind fun o2=>?_;have h3:bL (fun r=>if o.af=4 then bd (M.rep (M.gX s) 3) (fun l r=>({ o2 with bM:=l },r)) r else (o2,r))
   fun o3=>(o.af=4->∃l,o3={ o2 with bM:=l }/\l.length=3/\∀c∈l,uh c)/\(o.af≠4->o3=o2):=by
  refine bL.ite _ (fun k=>?_) (fun k=>bL.pure ⟨fun h=>aN h k,fun _=>rfl⟩);exact(bL.rep (bL.gX s) 3).bind fun l=>bL.pure fun hl=>⟨fun _=>⟨l,rfl,hl⟩,fun h=>aN k h⟩
 refine h3.bind fun o3=>?_;have h4:bL (fun r=>if 1<=o.af/\o.af<=7 then bd (M.dK s) (fun lo=>bd (M.dK s) fun hi r=>({ o3 with lo:=lo,hi:=hi },r)) r else (o3,r))
   fun o4=>(1<=o.af/\o.af<=7->∃lo hi,o4={ o3 with lo:=lo,hi:=hi }/\qU lo/\qU hi)/\(¬(1<=o.af/\o.af<=7)->o4=o3):=by
  refine bL.ite _ (fun k=>?_) (fun k=>bL.pure ⟨fun h=>aN h k,fun _=>rfl⟩);exact(bL.dK s).bind fun lo=>(bL.dK s).bind fun hi=>bL.pure fun II me=>⟨fun _=>⟨lo,hi,rfl,me,II⟩,fun h=>aN k h⟩
 refine h4.mono fun o4 g4 g3 g2 g1 hA=>?_;obtain⟨hk,g1⟩:=g1;have h:=g1 hA;have hs:∃l:List Sc,o3={ o1 with bM:=l }/\(l.length=if cm o.af=true then 1 else if o.af=4 then 3 else 0)/\∀c∈l,uh c:=by
  by_cases kw:cm o.af=true
  ·have k4:o.af≠4:=by have:=(ku _).mp kw;omega
   obtain⟨l,e1,e2,e3⟩:=g2.1 kw;exact⟨l,by rw[g3.2 k4,e1],by rw[ay kw,e2],e3⟩
  ·have e1:=g2.2 (by simpa using kw)
   by_cases k4:o.af=4
   ·obtain⟨l,e2,e3,e4⟩:=g3.1 k4
    exact⟨l,by rw[e2,e1],by rw[ak kw,ay k4,e3],e4⟩
   ·refine⟨[],?_,by rw[ak kw,ak k4];rfl,by simp⟩
    rw[g3.2 k4,e1,<-h.bM]
 obtain⟨l,e3,hl,hf⟩:=hs;have ml:∃lo hi,o4={ o3 with lo:=lo,hi:=hi }/\qU lo/\qU hi/\(¬(1<=o.af/\o.af<=7)->lo=0/\hi=0):=by
  by_cases k:1<=o.af/\o.af<=7
  ·obtain⟨lo,hi,e,a,b⟩:=g4.1 k
   exact⟨lo,hi,e,a,b,fun hn=>aN k hn⟩
  ·refine⟨0,0,?_,by unfold qU;omega,by unfold qU;omega,fun _=>⟨rfl,rfl⟩⟩
   rw[g4.2 k,e3];have e1:=h.lo;have e2:=h.hi
   cases o1
   simp only at e1 e2;rw[e1,e2]
 obtain⟨lo,hi,e4,c1,c2,c3⟩:=ml;rw[e4,e3];rw[<-hk] at hl c3;exact⟨h.k0,h.k1,h.a,h.b,h.ws,h.bs,h.to,h.QP,h.aV,h.size,h.aE,h.aT,h.below,h.left,h.right,c1,c2,h.ME,h.IK,h.MF,h.MG,c3,hl,hf⟩
theorem bL.op(s:ByteArray):bL (op s) kN:=by
 have e:M.op s=bd (M.ji s 1 10) fun k=>bd (M.plain s) fun a=>
   bd (fun r=>if cm k=true then bd (M.plain s) (fun u=>bd (M.plain s) fun v r=>((u,v),r)) r else (((0:Int),(0:Int)),r)) fun w=>
   bd (fun r=>if dr k=true then M.plain s r else (0,r)) fun b=>bd (M.plain s) fun t=>
   M.j7 s { af:=k,a:=a,b:=b,aP:=w.1,bC:=w.2,to:=t,size:=0,aE:=0,same:=false,bM:=[],lo:=0,hi:=0,aT:=0,below:=0,left:=0,right:=0 }:=rfl
 rw[e];refine(bL.ji s 1 10).bind fun k=>(bL.plain s).bind fun a=>?_;have hw:bL (fun r=>if cm k=true then bd (M.plain s) (fun u=>bd (M.plain s) fun v r=>((u,v),r)) r else (((0:Int),(0:Int)),r))
   fun w=>fQ w.1/\fQ w.2/\(cm k=false->w.1=0/\w.2=0):=by
  refine bL.ite _ (fun hk=>?_) (fun hk=>bL.pure ⟨by unfold fQ;omega,by unfold fQ;omega,fun _=>⟨rfl,rfl⟩⟩);exact(bL.plain s).bind fun u=>(bL.plain s).bind fun v=>bL.pure fun hv hu=>⟨hu,hv,fun h=>by rw[hk] at h;exact aN h (by decide)⟩
 refine hw.bind fun w=>?_;have hb:bL (fun r=>if dr k=true then M.plain s r else (0,r)) fun b=>fQ b/\(dr k=false->b=0):=by
  refine bL.ite _ (fun hk=>?_) (fun hk=>bL.pure ⟨by unfold fQ;omega,fun _=>rfl⟩);exact(bL.plain s).mono fun b hb=>⟨hb,fun h=>by rw[hk] at h;exact aN h (by decide)⟩
 refine hb.bind fun b=>(bL.plain s).bind fun t=>(bL.cT s _).mono fun o' ho ht hb hw ha hk=>ho ⟨?_,rfl,rfl,rfl,rfl,rfl,rfl,rfl⟩;have z:fQ 0:=by unfold fQ;omega
 exact⟨hk.2.1,hk.2.2,ha,hb.1,hw.1,hw.2.1,ht,hw.2.2,hb.2,z,z,z,z,z,z,fun _=>rfl,fun _=>rfl,fun _=>rfl,fun _=>⟨rfl,rfl,rfl,rfl⟩,rfl,rfl,rfl⟩
theorem Xn(s:ByteArray)(hb:(gD s).2.gg=false):ow (gD s).1:=by
 have ht:bL (M.au s) fun l=>l.length<=255/\∀t∈l,yN t:=
  (bL.plain s).bind (k:=fun n:Int=>M.eZ (M.fH s) n.toNat) fun n=>(bL.eZ (bL.fH s) n.toNat).mono fun l hl hn=>⟨by unfold fQ at hn;omega,hl.2⟩
 have ho:bL (M.ag s) fun l=>l.length<=255/\∀t∈l,kN t:=
  (bL.plain s).bind (k:=fun n:Int=>M.eZ (M.op s) n.toNat) fun n=>(bL.eZ (bL.op s) n.toNat).mono fun l hl hn=>⟨by unfold fQ at hn;omega,hl.2⟩
 have hu:bL (M.aK s) fun l=>l.length<=255/\∀t∈l,fQ t:=
  (bL.plain s).bind (k:=fun n r=>if (M.df s n r).1=true then M.rep (M.plain s) n.toNat (M.df s n r).2 else ([],(M.df s n r).2))
   fun n=>(bL.df s n [] (bL.rep (bL.plain s) n.toNat)).mono fun l hl hn=>⟨by unfold fQ at hn;omega,hl.2⟩
 have H:bL (bd (M.au s) fun t=>bd (M.ag s) fun o=>bd (M.aK s) fun u r=>((⟨t,o,u⟩:Md),r)) ow:=
  ht.bind fun t=>ho.bind fun o=>hu.bind fun u=>bL.pure fun h3 h2 h1=>⟨h1.1,h2.1,h3.1,h1.2,h2.2,h3.2⟩
 exact H.ok (M.sM s) hb
theorem aj7(s:ByteArray)(h:fh s=0):ow (gD s).1:=by
 apply Xn
 have hp:=aj4 h;unfold nY at hp
 split at hp
 ·exact aN hp (by decide)
 ·split at hp
  ·exact aN hp (by decide)
  ·rename_i c
   cases hb:(gD s).2.gg with
   | false=>rfl
   | true=>rw[hb] at c;simp at c
end M
namespace D
theorem aj8{m:M.Md}(h:M.check m=0):M.nj m=true/\M.lJ m=true/\M.z6 m=true/\M.sN m=true:=by
 unfold M.check at h;by_cases h1:M.nj m=false
 ·rw[ay h1] at h;exact aN h (by decide)
 ·rw[ak h1] at h
  by_cases h2:M.lJ m=false
  ·rw[ay h2] at h;exact aN h (by decide)
  ·rw[ak h2] at h
   by_cases h3:M.z6 m=false
   ·rw[ay h3] at h;exact aN h (by decide)
   ·rw[ak h3] at h
    by_cases h4:M.sN m=false
    ·rw[ay h4] at h;exact aN h (by decide)
    ·exact⟨by simpa using h1,by simpa using h2,by simpa using h3,by simpa using h4⟩
theorem QS{m:M.Md}(h:M.lJ m=true):∃by_,M.mF m=some by_/\(∀(i:Nat) o,m.ag[i]?=some o->M.lI m by_ i o=true)/\∀u∈m.aK,M.lZ m u=true:=by
 unfold M.lJ at h
 cases hm:M.mF m with
 | none=>rw[hm] at h;exact Bool.noConfusion h
 | some by_=>
  rw[hm] at h;simp only[eX,jn] at h;refine⟨by_,rfl,fun i o hi=>?_,h.2⟩;have:=h.1 i (List.mem_range.mpr (by
   rcases cE i m.ag.length with hl|hl
   ·exact hl
   ·rw[db hl] at hi;exact aN hi (by simp)))
  rw[hi] at this;exact this
def IL(m:M.Md)(e:List (List Int)):Prop:=∀n:Nat,n<m.au.length->(m.au.map (·.af)).getD n 0≠2->kq (e.getD n [])
theorem MI:kq []:=by intro v hv;exact aN hv (by simp)
theorem aj9(ts:List M.Tn):∀(ins:List (List Int)),(∀l∈ins,kq l)->(∀t∈ts,t.af≠0->t.af≠3->t.af≠2->kq t.data) ->
  ∀n:Nat,(ts.map (·.af)).getD n 0≠2->kq ((start ts ins).getD n []):=by
 induction ts with
 | nil=>intro ins _ _ n _;exact MI
 | cons t ts ih=>
  intro ins hi ht n hn;have ij:∀t∈ts,t.af≠0->t.af≠3->t.af≠2->kq t.data:=fun u hu=>ht u (sZ _ hu);unfold start
  cases n with
  | zero=>
   have oU:t.af≠2:=by simpa using hn
   split
   ·cases ins with
    | nil=>exact MI
    | cons l ls=>exact hi l pC
   ·split
    ·exact MI
    ·rename_i h0 h3
     exact ht t pC h0 h3 oU
  | succ n=>
   have oU:(ts.map (·.af)).getD n 0≠2:=by simpa using hn
   split
   ·simpa using ih ins.tail (fun l hl=>hi l (List.mem_of_mem_tail hl)) ij n oU
   ·split
    ·simpa using ih ins hi ij n oU
    ·simpa using ih ins hi ij n oU
theorem Xo{m:M.Md}{e:List (List Int)}(h:IL m e){n:Int}(hn:M.lZ m n=true):kq (bW e n):=by
 unfold M.lZ at hn;simp only[eX,decide_eq_true_eq,bne_iff_ne] at hn;unfold bW;rw[ak (by omega)];exact h n.toNat (by omega) hn.2
theorem aka{m:M.Md}(h:ow m)(n:Int):-128<=(M.aq m n).zero/\(M.aq m n).zero<=127:=by
 unfold M.aq
 split
 ·exact⟨by decide,by decide⟩
 ·rename_i c
  have hl:n.toNat<m.au.length:=by omega
  rw[List.getD,aS hl];have:=h.ts _ (List.getElem_mem hl);exact⟨this.z0,this.z1⟩
theorem yO{α:Type}(l:List α)(i n:Nat)(x d:α):(l.set i x).getD n d=if i=n/\n<l.length then x else l.getD n d:=by
 rw[List.getD,List.getD,ox];by_cases h:i=n
 ·subst h
  by_cases hl:i<l.length
  ·simp[hl]
  ·simp[hl]
 ·simp[h]
theorem akb{m:M.Md}{by_:List Int}{i:Int}{o:M.Op}{e:List (List Int)}(hF:ow m)(ho:o∈m.ag)(hr:M.lI m by_ i o=true)(hq:M.kB m o=true)(h:IL m e):IL m (step m e o):=by
 intro n hn hk;unfold step;rw[yO]
 split
 ·have fo:=hF.os o ho
  unfold M.lI M.ny at hr;simp only[eX] at hr;unfold M.kB at hq;simp only[eX,Bool.not_eq_true',decide_eq_false_iff_not] at hq
  apply Xk
  intro y x c;refine Xj o _ y x c (Xo h hr.1.1.1) (fun DW=>Xo h ?_) fo.k0 fo.k1 (aka hF _) fo.lo.1 (by have:=hq.1.1;omega) fo.hi.2;have h2:=hr.2;rw[ay (by rw[nH];exact .inr DW)] at h2;simp only[eX] at h2;exact h2.1.1
 ·exact h n hn hk
theorem axC{m:M.Md}(hF:ow m){by_:List Int}(hr:∀(i:Nat) o,m.ag[i]?=some o->M.lI m by_ i o=true)(hq:∀o∈m.ag,M.kB m o=true) :
  ∀k,k<=m.ag.length->∀e,IL m e->IL m ((m.ag.take k).foldl (step m) e):=by
 intro k
 induction k with
 | zero=>intro _ e h;exact h
 | succ k ih=>
  intro hk e h;have hx:m.ag[k]?=some m.ag[k]:=aS (by omega);rw[List.take_add_one,hx,List.foldl_append];exact akb hF (List.getElem_mem _) (hr k _ hx) (hq _ (List.getElem_mem _)) (ih (by omega) e h)
end D
namespace D
theorem akc{d s:Int}(hs:1<=s):(d+s-1)/s=1+(d-1)/s:=by
 have:d+s-1=(d-1)+1*s:=by omega
 rw[this,Int.add_mul_ediv_right _ _ (by omega)];omega
theorem Xp{length n s:Int}(hs:1<=s):∀(f:Nat) (p:Int),length-p<=f->R.placesFrom length n s true f p=if p<length then (length-p+s-1)/s else 0
 | 0,p,h=>by unfold R.placesFrom;rw[ak (by omega)]
 | f+1,p,h=>by
  unfold R.placesFrom;by_cases c:p<length
  ·rw[ay c,ay c,ay (by simp),Xp hs f (p+s) (by omega)]
   have hd:(length-p+s-1)/s=1+(length-p-1)/s:=akc hs;rw[hd];by_cases c2:p+s<length
   ·rw[ay c2]
    have:length-(p+s)+s-1=length-p-1:=by omega
    rw[this]
   ·rw[ak c2,Int.ediv_eq_zero_of_lt (by omega) (by omega)]
  ·rw[ak c,ak c]
theorem Xq{length n s:Int}(hs:1<=s)(hn:1<=n):∀(f:Nat) (p:Int),length-p<=f->R.placesFrom length n s false f p=if p+n<=length then (length-n-p)/s+1 else 0
 | 0,p,h=>by unfold R.placesFrom;rw[ak (by omega)]
 | f+1,p,h=>by
  unfold R.placesFrom;by_cases c:p<length
  ·rw[ay c,Xq hs hn f (p+s) (by omega)]
   by_cases c2:p+n<=length
   ·rw[ay (by simpa using c2),ay c2]
    by_cases c3:p+s+n<=length
    ·rw[ay c3]
     have:length-n-p=(length-n-(p+s))+1*s:=by omega
     rw[this,Int.add_mul_ediv_right _ _ (by omega)];omega
    ·rw[ak c3,Int.ediv_eq_zero_of_lt (by omega) (by omega)];omega
   ·rw[ak (by simpa using c2),ak c2,ak (by omega)];rfl
  ·rw[ak c,ak (by omega)]
theorem IM{length n s:Int}(same:Bool)(h0:0<=length)(hs:1<=s)(hn:1<=n):R.gG length n s same=M.dP n length s same:=by
 unfold R.gG M.dP;rw[ak (by omega)]
 cases same with
 | true=>
  rw[Xp hs _ _ (by omega),ay rfl];by_cases c:(0:Int)<length
  ·rw[ay c];congr 1;omega
  ·rw[ak c]
   have:length=0:=by omega
   subst this;exact(Int.ediv_eq_zero_of_lt (by omega) (by omega)).symm
 | false=>
  rw[Xq hs hn _ _ (by omega),ak (show ¬(false=true) by decide)];by_cases c:0+n<=length
  ·rw[ay c,ak (by omega)];congr 2;omega
  ·rw[ak c,ay (by omega)]
theorem QT{length n s:Int}(same:Bool)(h0:0<=length)(hs:1<=s)(hn:1<=n):R.kM length n s same=kM length n s same:=by
 unfold R.kM kM;rw[IM same h0 hs hn]
theorem akd(s n:Int):Aq s n=(if s<0 then -1 else 1)*((2*(if s<0 then -1 else 1)*s+n)/(2*n)):=by
 unfold Aq;by_cases h:s<0
 ·rw[ay h,ay h,Int.neg_mul,Int.one_mul]
  have:2*-1*s = -(2*s):=by omega
  rw[this]
 ·rw[ak h,ak h,Int.one_mul]
  have:2*1*s=2*s:=by omega
  rw[this]
end D
namespace M
structure DX(m:Md)(k:Nat):Prop where
 Cb:∀(i:Nat) o,i<k->m.ag[i]?=some o->jM m o.to 3=true
 apart:∀(i j:Nat) o p,i<j->j<k->m.ag[i]?=some o->m.ag[j]?=some p->o.to≠p.to
structure Made(m:Md)(k:Nat)(by_:List Int):Prop where
 len:by_.length=m.au.length
 IN:∀(i:Nat) o,i<k->m.ag[i]?=some o->by_.getD o.to.toNat 0=i
 no:∀t:Nat,t<m.au.length->(∀(i:Nat) o,i<k->m.ag[i]?=some o->o.to≠t)->by_.getD t 0 = -1
theorem yP{m:Md}{n k:Int}(h:jM m n k=true):0<=n/\n<m.au.length/\(m.au.map (·.af)).getD n.toNat 0=k:=by
 unfold jM at h;simp only[eX,decide_eq_true_eq,beq_iff_eq] at h;exact⟨h.1.1,h.1.2,h.2⟩
theorem QU(l:List Int)(i n:Nat)(x d:Int):(l.set i x).getD n d=if i=n/\n<l.length then x else l.getD n d:=by
 rw[List.getD,List.getD,ox];by_cases h:i=n
 ·subst h
  by_cases hl:i<l.length
  ·simp[hl]
  ·simp[hl]
 ·simp[h]
theorem Xr(m:Md):∀k,k<=m.ag.length->(∀by_,makersTo m k=some by_->DX m k/\Made m k by_)/\(makersTo m k=none->¬DX m k)
 | 0,_=>by
  refine⟨fun by_ h=>?_,fun h=>by simp[makersTo] at h⟩;simp only[makersTo,kj] at h;subst h;refine⟨⟨fun i o hi=>aN hi (by omega),fun i j o p _ hj=>aN hj (by omega)⟩,⟨by simp,fun i o hi=>aN hi (by omega),fun t ht _=>?_⟩⟩;rw[List.getD,ui,ay ht];rfl
 | k+1,hk=>by
  obtain⟨ih1,ih2⟩:=Xr m k (by omega);have hx:m.ag[k]?=some m.ag[k]:=aS (by omega);generalize m.ag[k]=o at hx
  cases hm:makersTo m k with
  | none=>
   refine⟨fun by_ h=>by unfold makersTo at h;rw[hm] at h;simp at h,fun _ hO=>ih2 hm ⟨fun i o hi=>hO.Cb i o (by omega),fun i j o p rO hj=>hO.apart i j o p rO (by omega)⟩⟩
  | some b0=>
   obtain⟨hO,hM⟩:=ih1 b0 hm;have e:makersTo m (k+1)=if (!jM m o.to 3||decide (0<=b0.getD o.to.toNat 0))=true then none else some (b0.set o.to.toNat k):=by
    rw[makersTo,hm,hx]
   by_cases hK:jM m o.to 3=true
   ·obtain⟨t0,t1,-⟩:=yP hK
    by_cases hB:0<=b0.getD o.to.toNat 0
    ·refine⟨fun by_ h=>by rw[e,ay (by rw[eG hB];exact Bool.or_true _)] at h;simp at h,fun _ Cd=>?_⟩
     have:=hM.no o.to.toNat (by omega) (fun i p hi hp he=>Cd.apart i k p o hi (by omega) hp hx (by omega));omega
    ·refine⟨fun by_ h=>?_,fun h=>by rw[e,ak (by rw[hK,eE hB];decide)] at h;simp at h⟩
     rw[e,ak (by rw[hK,eE hB];decide)] at h;simp only[kj] at h;subst h;have ey:∀(i:Nat) p,i<k->m.ag[i]?=some p->p.to≠o.to:=fun i p hi hp he=>by
      have:=hM.IN i p hi hp;rw[he] at this;omega
     refine⟨⟨fun i p hi hp=>?_,fun i j p q rO hj hp hq=>?_⟩,⟨by rw[kK];exact hM.len,fun i p hi hp=>?_,fun t ht hn=>?_⟩⟩
     ·rcases(show i<k\/i=k by omega) with aJ|rfl
      ·exact hO.Cb i p aJ hp
      ·rw[hx] at hp;simp only[kj] at hp;subst hp;exact hK
     ·rcases(show j<k\/j=k by omega) with aJ|rfl
      ·exact hO.apart i j p q rO aJ hp hq
      ·rw[hx] at hq;simp only[kj] at hq;subst hq;exact ey i p rO hp
     ·rw[QU]
      rcases(show i<k\/i=k by omega) with aJ|rfl
      ·have h1:=ey i p aJ hp
       have h2:=yP (hO.Cb i p aJ hp);rw[ak (by omega)];exact hM.IN i p aJ hp
      ·rw[hx] at hp;simp only[kj] at hp;subst hp
       rw[ay ⟨rfl,by rw[hM.len];omega⟩]
     ·rw[QU,ak (fun hc=>hn k o (by omega) hx (by omega))]
      exact hM.no t ht fun i p hi hp=>hn i p (by omega) hp
   ·refine⟨fun by_ h=>by rw[e,ay (by simp[hK])] at h;simp at h,fun _ Cd=>hK (Cd.Cb k o (by omega) hx)⟩
def IP(m:Md):Prop:=∀t:Nat,t<m.au.length->(m.au.map (·.af)).getD t 0=3->∃(i:Nat) (o:Op),m.ag[i]?=some o/\o.to=t
theorem bP{α:Type}{l:List α}{i:Nat}{x:α}(h:l[i]?=some x):i<l.length:=by
 rcases cE i l.length with hl|hl
 ·exact hl
 ·rw[db hl] at h;exact aN h (by simp)
theorem QV(m:Md):(∀by_,mF m=some by_->DX m m.ag.length/\Made m m.ag.length by_/\IP m)/\(mF m=none->¬(DX m m.ag.length/\IP m)):=by
 obtain⟨h1,h2⟩:=Xr m m.ag.length (bj _)
 cases hm:makersTo m m.ag.length with
 | none=>
  refine⟨fun by_ h=>by unfold mF at h;rw[hm] at h;simp at h,fun _ hc=>h2 hm hc.1⟩
 | some b=>
  obtain⟨hO,hM⟩:=h1 b hm;have e:mF m=if zZ m.au b=true then some b else none:=by unfold mF;rw[hm]
  by_cases hA:zZ m.au b=true
  ·refine⟨fun by_ h=>?_,fun h=>by rw[e,ay hA] at h;simp at h⟩
   rw[e,ay hA] at h;simp only[kj] at h;subst h;refine⟨hO,hM,fun t ht hk=>?_⟩;unfold zZ at hA;rw[jn] at hA;have:=hA t (List.mem_range.mpr ht);rw[hk] at this;simp only[beq_self_eq_true,Bool.true_and,Bool.not_eq_true',decide_eq_false_iff_not] at this
   apply Classical.byContradiction
   intro hn;have:=hM.no t ht fun i o _ ho he=>hn ⟨i,o,ho,he⟩;omega
  ·refine⟨fun by_ h=>by rw[e,ak hA] at h;simp at h,fun _ hc=>hA ?_⟩
   unfold zZ;rw[jn];intro t ht;have ij:=List.mem_range.mp ht;by_cases hk:(m.au.map (·.af)).getD t 0=3
   ·obtain⟨i,o,ho,he⟩:=hc.2 t ij hk
    have:=hM.IN i o (bP ho) ho;rw[he,eC] at this;rw[hk,eE (by omega)]
    rfl
   ·have:((m.au.map (·.af)).getD t 0==3)=false:=by simpa using hk
    rw[this];rfl
def uj(m:Md)(t i:Int):Prop:=0<=t/\t<m.au.length/\(m.au.map (·.af)).getD t.toNat 0≠2/\((m.au.map (·.af)).getD t.toNat 0=3->∃(j:Nat) (o:Op),(j:Int)<i/\m.ag[j]?=some o/\o.to=t)
theorem MJ{m:Md}{by_:List Int}(hO:DX m m.ag.length)(hM:Made m m.ag.length by_)(hA:IP m)(t i:Int)(hi:0<=i):ny m by_ i t=true↔uj m t i:=by
 unfold ny lZ uj;simp only[eX,decide_eq_true_eq,bne_iff_ne]
 constructor
 ·rintro ⟨⟨⟨⟨h1,h2⟩,h3⟩,h4⟩,h5⟩
  refine⟨h1,h2,h3,fun hk=>?_⟩;obtain⟨j,o,hj,he⟩:=hA t.toNat (by omega) hk;have:=hM.IN j o (bP hj) hj;rw[he,eC] at this;exact⟨j,o,by omega,hj,by omega⟩
 ·rintro ⟨h1,h2,h3,h4⟩
  refine⟨⟨⟨⟨h1,h2⟩,h3⟩,by rw[hM.len];exact h2⟩,?_⟩;by_cases hk:(m.au.map (·.af)).getD t.toNat 0=3
  ·obtain⟨j,o,hj,ho,he⟩:=h4 hk
   have:=hM.IN j o (bP ho) ho;rw[he] at this;omega
  ·have:=hM.no t.toNat (by omega) fun j o _ ho he=>by
    have h5:=(yP (hO.Cb j o (bP ho) ho)).2.2;rw[he,eC] at h5;exact hk h5
   omega
end M
namespace O
structure G where
 h:Int
 w:Int
 c:Int
 zero:Int
 cells:List Int
def jZ(g:G)(i:Int):Int:=if i<0\/(g.cells.length:Int)<=i then g.zero else g.cells.getD i.toNat 0
abbrev off(g:G)(y x k:Int):Prop:=y<0\/g.h<=y\/x<0\/g.w<=x\/k<0\/g.c<=k
def bN(g:G)(y x k:Int):Int:=if off g y x k then g.zero else jZ g ((y*g.w+x)*g.c+k)
def fg(t:M.Tn)(l:List Int):G:=⟨t.h,t.w,t.c,t.zero,l⟩
def xA:G:=⟨0,0,0,0,[]⟩
structure J where
 op:M.Op
 a:G
 b:G
 aP:G
 bC:G
 dM:M.Tn
def start(m:M.Md)(o:M.Op)(a b:List Int):J:=
 ⟨o,fg (M.aq m o.a) a,if M.dr o.af=true then fg (M.aq m o.b) b else xA,
  if M.cm o.af=true then fg (M.aq m o.aP) (M.aq m o.aP).data else xA,
  if M.cm o.af=true then fg (M.aq m o.bC) (M.aq m o.bC).data else xA,
  M.aq m o.to⟩
def held(x:Int):Int:=R.cW x (-2147483648) 2147483647
def oV(x n:Int):Int:=if n<1 then x else if x<0 then -((-x+n/2)/n) else (x+n/2)/n
def oS(x s:Int):Int:=if 0<s then held (x*2 ^ s.toNat) else x
def rM(x m:Int):Int:=held ((x*m+1073741824)/2147483648)
def iN(x:Int)(c:M.Sc):Int:=if c.shift<0 then oV (rM (oS x c.shift) c.eF) (2 ^ (-c.shift).toNat) else rM (oS x c.shift) c.eF
def jD(j:J)(x:Int)(k:Nat):Int:=match j.op.bM[k]? with|some c=>iN x c|none=>0
def uk(j:J)(x:Int):Int:=R.cW x j.op.lo j.op.hi
def out(j:J)(x:Int)(k:Nat):Int:=uk j (jD j x k+j.dM.zero)
def iZ(lR dP n length aE:Int):Int:=
 lR*aE-(if (dP-1)*aE+n-length<0 then 0 else (dP-1)*aE+n-length)/2
def um(j:J)(y:Int):Int:=iZ y j.dM.h j.aP.h j.a.h j.op.aE
def left(j:J)(x:Int):Int:=iZ x j.dM.w j.aP.w j.a.w j.op.aE
def iO(j:J)(u v shift first:Int)(i p k:Nat):Int:=(bN j.a (u+i) (v+p) (first+k)-j.a.zero)*bN j.aP i p (shift+(first+k))
def part(j:J)(u v o shift first:Int)(n i p k:Nat):Int:=
 jZ j.bC o+D.S (fun i=>D.S (fun p=>D.S (iO j u v shift first i p) n) j.aP.w.toNat) i+D.S (fun p=>D.S (iO j u v shift first i p) n) p+D.S (iO j u v shift first i p) k
def Ar(j:J)(y x o first kO shift:Int):Int:=part j (um j y) (left j x) o shift first (kO-first).toNat j.aP.h.toNat 0 0
def vI(j:J)(y x o first kO shift:Int):Int:=out j (Ar j y x o first kO shift) 0
def kE(j:J)(o:Int)(n:Nat):Int:=jZ j.bC o+D.S (fun i=>(j.a.cells.getD i 0-j.a.zero)*bN j.aP o 0 i) n
def MK(j:J)(o:Int):Int:=out j (kE j o j.a.cells.length) 0
def Ap(j:J)(y x k:Int):Int:=held (jD j ((bN j.a y x k-j.a.zero)*1048576) 0+jD j ((bN j.b y x k-j.b.zero)*1048576) 1)
def add(j:J)(y x k:Int):Int:=out j (Ap j y x k) 2
def iY(j:J)(y x k:Int)(q:Nat):Int:=bN j.a (y*j.op.aE+q/j.op.size) (x*j.op.aE+q%j.op.size) k
def oW(f:Nat->Int):Nat->Int
 | 0=>-128
 | n+1=>if oW f n<f n then f n else oW f n
def As(j:J)(y x k:Int):Int:=
 if j.op.af=5 then uk j (oW (iY j y x k) (j.op.size*j.op.size).toNat) else uk j (oV (D.S (iY j y x k) (j.op.size*j.op.size).toNat) (j.op.size*j.op.size))
def cell(j:J)(y x k:Int):Int:=
 if j.op.af=1 then vI j y x k 0 j.a.c (k*j.a.c)
 else if j.op.af=2 then vI j y x k k (k+1) 0
 else if j.op.af=3 then MK j k
 else if j.op.af=4 then add j y x k
 else if j.op.af=5\/j.op.af=6 then As j y x k
 else if j.op.af=7 then uk j (bN j.a y x k)
 else if j.op.af=8 then bN j.a (y-j.op.aT) (x-j.op.left) k
 else if j.op.af=9 then jZ j.a ((y*j.dM.w+x)*j.dM.c+k)
 else if j.op.af=10 then (if k<j.a.c then bN j.a y x k else bN j.b y x (k-j.a.c))
 else j.dM.zero
def qV(t:M.Tn)(f:Int->Int->Int->Int)(n:Nat):List Int:=
 (List.range n).map fun(q:Nat)=>f ((q:Int)/(t.w*t.c)) ((q:Int)/t.c%t.w) ((q:Int)%t.c)
def iu(m:M.Md)(o:M.Op)(a b:List Int):List Int:=D.oT (M.aq m o.to) (cell (start m o a b))
def mN:List M.Tn->List (List Int)->List (List Int)
 | [],_=>[]
 | t::ts,ins=>if t.af=0 then ins.headD []::mN ts ins.tail else if t.af=1 then t.data::mN ts ins else []::mN ts ins
def step(m:M.Md)(fM:List (List Int))(o:M.Op):List (List Int):=fM.set o.to.toNat (iu m o (D.bW fM o.a) (D.bW fM o.b))
def fM(m:M.Md)(ins:List (List Int)):List (List Int):=m.ag.foldl (step m) (mN m.au ins)
def run(m:M.Md)(ins:List (List Int)):List (List Int):=m.aK.map (D.bW (fM m ins))
theorem QW(x:Int):held x=R.held x:=by
 unfold held R.cW R.held
 split<;>split<;>(try split)<;>omega
theorem Xs(k:Nat):(0:Int)<2 ^ k:=Int.pow_pos (by decide)
theorem akg{h s:Int}(hs:s<0):oV h (2 ^ (-s).toNat)=R.sX h s:=by
 obtain⟨k,hk⟩:∃k:Nat,(-s).toNat=k+1:=⟨(-s).toNat-1,by omega⟩;unfold oV R.sX;rw[hk];have hp:=Xs k;have e2:(2:Int) ^ (k+1)=2*2 ^ k:=by rw[Int.pow_succ,Int.mul_comm]
 have eh:(2:Int) ^ (k+1)/2=2 ^ k:=by rw[e2];exact Int.mul_ediv_cancel_left _ (by decide)
 rw[ak (by rw[e2];omega),ak (show ¬0<=s by omega)];by_cases c:h<0
 ·rw[ay c,ay c,eh]
  congr 1
  rw[e2,show 2*(2:Int) ^ k-2*h=2*(-h+2 ^ k) by omega,Int.mul_ediv_mul_of_pos _ _ (by decide)]
 ·rw[ak c,ak c,eh,e2,show 2*(2:Int) ^ k+2*h=2*(h+2 ^ k) by omega,Int.mul_ediv_mul_of_pos _ _ (by decide)]
theorem ML(x:Int)(c:M.Sc):iN x c=R.iN x c.eF c.shift:=by
 unfold iN R.iN;have e1:oS x c.shift=R.oS x c.shift:=by unfold oS R.oS;rw[QW]
 have e2:rM (oS x c.shift) c.eF=R.rM (R.oS x c.shift) c.eF:=by unfold rM R.rM;rw[QW,e1]
 rw[e2];by_cases h:c.shift<0
 ·rw[ay h,akg h]
 ·rw[ak h];unfold R.sX;rw[ay (by omega)]
theorem QX{j:J}{x:Int}{k:Nat}(h:k<j.op.bM.length):jD j x k=D.jD x (D.BY j.op k):=by
 unfold jD D.jD D.BY;rw[aS h,List.getD,aS h];exact ML _ _
theorem akh{s n:Int}(hn:1<=n):oV s n=D.Aq s n:=by
 have cF:∀t:Int,(t+n/2)/n=(2*t+n)/(2*n):=by
  intro t;rw[<-Int.ediv_ediv_of_nonneg (by decide)]
  congr 1
  omega
 unfold oV D.Aq;rw[ak (by omega)];by_cases c:s<0
 ·rw[ay c,ay c,cF,show 2*-s = -(2*s) by omega]
 ·rw[ak c,ak c,cF]
theorem Xt{f:Nat->Int}:∀n,0<n->(∀i,i<n->-128<=f i)->oW f n=D.lp f n
 | 0,h,_=>aN h (by omega)
 | n+1,_,h=>by
  unfold oW D.lp;by_cases h0:n=0
  ·subst h0
   have:=h 0 (by omega);rw[ay rfl];show(if -128<f 0 then f 0 else -128)=f 0
   split<;>omega
  ·rw[ak h0,Xt n (by omega) fun i hi=>h i (by omega)]
theorem Xu{lR n length aE:Int}{same:Bool}(hs:1<=aE)(hn:1<=n)(hl:same=false->n<=length) :
  iZ lR (M.dP n length aE same) n length aE=lR*aE-D.kM length n aE same:=by
 unfold iZ D.kM
 congr 1
 cases same with
 | true=>
  simp only[Bool.true_eq_false,false_or]
  split<;>simp
 | false=>
  simp only[true_or,if_true];have hl:=hl rfl;have e:M.dP n length aE false=(length-n)/aE+1:=by
   unfold M.dP;rw[ak (by omega),ak (by decide),ak (by omega)]
  rw[e];have h1:(length-n)/aE*aE<=length-n:=Int.ediv_mul_le _ (by omega);rw[Int.add_sub_cancel]
  split
  ·rfl
  ·rename_i c
   have:(length-n)/aE*aE+n-length=0:=by omega
   rw[this];rfl
theorem MM{g:G}{i:Int}(h0:0<=i)(h1:i<g.cells.length):jZ g i=D.get g.cells i:=by
 unfold jZ D.get;rw[ak (by omega),ak (by omega)]
theorem MN{H W C y x k:Int}(hy:0<=y)(qq:y<H)(hx:0<=x)(dg:x<W)(hk:0<=k)(xz:k<C):0<=(y*W+x)*C+k/\(y*W+x)*C+k<H*W*C:=by
 have h1:0<=y*W:=lg hy (by omega);have h2:(y+1)*W<=H*W:=Int.mul_le_mul_of_nonneg_right (by omega) (by omega);rw[Int.add_mul,Int.one_mul] at h2;have h3:0<=(y*W+x)*C:=lg (by omega) (by omega);have h4:(y*W+x+1)*C<=H*W*C:=Int.mul_le_mul_of_nonneg_right (by omega) (by omega);rw[Int.add_mul,Int.one_mul] at h4;omega
theorem yQ{t:M.Tn}{l:List Int}{y x k:Int}(hl:(l.length:Int)=M.cellsOf t)(hy:0<=y)(qq:y<t.h)(hx:0<=x)(dg:x<t.w)(hk:0<=k)(xz:k<t.c):bN (fg t l) y x k=D.bN t l y x k:=by
 have hp:=MN hy qq hx dg hk xz;unfold bN D.bN;rw[ak (by unfold off fg;simp only;omega)];exact MM (g:=fg t l) hp.1 (by show _<(l.length:Int);rw[hl];exact hp.2)
theorem aki{t:M.Tn}{l:List Int}{y x k:Int}(h:y<0\/t.h<=y\/x<0\/t.w<=x):bN (fg t l) y x k=t.zero:=by
 unfold bN;rw[ay (by unfold off fg;simp only;omega)]
 rfl
theorem s8(t:M.Tn)(y x:Int):D.oq t y x=true↔0<=y/\y<t.h/\0<=x/\x<t.w:=by
 unfold D.oq;simp[and_assoc]
theorem Xv{t:M.Tn}{l:List Int}{y x k:Int}(hl:(l.length:Int)=M.cellsOf t)(hk:0<=k)(xz:k<t.c):bN (fg t l) y x k=if D.oq t y x=true then D.bN t l y x k else t.zero:=by
 by_cases h:D.oq t y x=true
 ·rw[ay h]
  obtain⟨a,b,c,d⟩:=(s8 t y x).mp h;exact yQ hl a b c d hk xz
 ·rw[ak h]
  apply aki
  rw[s8] at h;omega
end O
end Go.Proofs.YtcnhfffgbamonaaGreat
