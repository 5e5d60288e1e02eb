import Derived.Test.YtcnhfffgbamonaaGreatZ26
import Derived.Test.YtcnhfffgbamonaaGreatZ06
set_option maxRecDepth 100000
set_option maxHeartbeats 6400000
namespace Go.Proofs.YtcnhfffgbamonaaGreat
open Go.Proofs.Tryz
namespace R
def Gs(l:List M.Sc):List Int:=l.flatMap fun c=>[c.eF,c.shift]
def iH(o:M.Op):List Int:=
 ((if o.af=1\/o.af=2 then [o.aE,if o.same=true then 1 else 0]
 else if o.af=5\/o.af=6 then [o.size,o.aE]
 else if o.af=8 then [o.aT,o.below,o.left,o.right] else [])++Gs o.bM) ++
 (if 1<=o.af/\o.af<=7 then [o.lo,o.hi] else [])
def bJ(o:M.Op):Op:=⟨o.af,pA o,o.to,iH o⟩
theorem KE{α β:Type}(f:List UInt8->fW α)(h:List α->List UInt8->fW β):nx (many f 1) h=nx f fun a=>h [a]:=by
 have e:many f 1=nx f fun a=>R.ok [a]:=rfl;rw[e,wL];rfl
theorem TU{α β:Type}(f:List UInt8->fW α)(h:List α->List UInt8->fW β):nx (many f 2) h=nx f fun a=>nx f fun b=>h [a,b]:=by
 have e:many f 2=nx (many f 1) fun xs=>nx f fun x=>R.ok (xs++[x]):=rfl;rw[e,wL,KE]
 congr 1;funext a
 rw[wL];rfl
theorem TV{α β:Type}(f:List UInt8->fW α)(h:List α->List UInt8->fW β):nx (many f 3) h=nx f fun a=>nx f fun b=>nx f fun c=>h [a,b,c]:=by
 have e:many f 3=nx (many f 2) fun xs=>nx f fun x=>R.ok (xs++[x]):=rfl;rw[e,wL,TU]
 congr 1;funext a
 congr 1;funext b
 rw[wL];rfl
theorem Bi{β:Type}(h:List Int->List UInt8->fW β):nx (aW []) h=h []:=rfl
theorem C8{β:Type}(c:Char)(cs:List Char)(h:List Int->List UInt8->fW β):nx (aW (c::cs)) h=nx (cO c) fun v=>nx (aW cs) fun vs=>h (v::vs):=by
 have e:aW (c::cs)=nx (cO c) fun v=>nx (aW cs) fun vs=>R.ok (v::vs):=rfl;rw[e,wL]
 congr 1;funext v
 rw[wL];rfl
theorem TW:cO (Char.ofNat 117)=tk 1 false:=by
 funext l;show nx (tk 1 false) _ l=_
 unfold nx
 cases tk 1 false l with
 | none=>rfl
 | some p=>dsimp only;rw[ak (fun h=>aN h.1 (by decide))]
theorem KF:cO (Char.ofNat 115)=tk 1 true:=by
 funext l;show nx (tk 1 true) _ l=_
 unfold nx
 cases tk 1 true l with
 | none=>rfl
 | some p=>dsimp only;rw[ak (fun h=>aN h.1 (by decide))]
theorem TX:cO (Char.ofNat 119)=tk 4 true:=by
 funext l;show nx (tk 4 true) _ l=_
 unfold nx
 cases tk 4 true l with
 | none=>rfl
 | some p=>dsimp only;rw[ak (fun h=>aN h.1 (by decide))]
theorem aY.aqG:aY (fun s=>M.ji s 0 1) (cO (Char.ofNat 98)) id:=by
 have e:(fun s=>M.ji s 0 1)=sq M.plain fun k s r=>if (decide (k<0)||decide (1<k))=true then (0,⟨r.bG,true⟩) else (k,r):=rfl;rw[e];show aY _ (nx (tk 1 false) _) _;refine aY.plain.Bh (P:=fun k=>0<=k) C7 fun k hk=>?_;by_cases c:1<k
 ·have c1:(decide (k<0)||decide (1<k))=true:=by simp;omega
  rw[show(fun(_:ByteArray) (r:M.RS)=>if (decide (k<0)||decide (1<k))=true then ((0:Int),(⟨r.bG,true⟩:M.RS)) else (k,r))=fun _ r=>(0,⟨r.bG,true⟩) from by funext s r;rw[ay c1]];have e2:(fun l:List UInt8=>if (Char.ofNat 98)=(Char.ofNat 98)/\¬(id k:Int)<2 then none else some ((id k:Int),l))=fun _=>none:=by
   funext l;rw[ay ⟨rfl,by simp;omega⟩]
  rw[e2];exact aY.fail 0 id
 ·have c1:¬(decide (k<0)||decide (1<k))=true:=by simp;omega
  rw[show(fun(_:ByteArray) (r:M.RS)=>if (decide (k<0)||decide (1<k))=true then ((0:Int),(⟨r.bG,true⟩:M.RS)) else (k,r))=fun _ r=>(k,r) from by funext s r;rw[ak c1]];have e2:(fun l:List UInt8=>if (Char.ofNat 98)=(Char.ofNat 98)/\¬(id k:Int)<2 then none else some ((id k:Int),l))=R.ok k:=by
   funext l;rw[ak (by simp;omega)];rfl
  rw[e2];exact aY.pure k id
theorem aY.gX{β:Type}{γ:Type}{k:M.Sc->ByteArray->M.RS->β×M.RS}{h:Int->Int->List UInt8->fW γ}{ψ:β->γ}(H:∀c:M.Sc,aY (k c) (h c.eF c.shift) ψ) :
  aY (sq M.gX k) (nx (tk 4 true) fun m=>nx (tk 1 true) fun s=>h m s) ψ:=by
 have e:sq M.gX k=sq M.kX fun m=>sq M.dK fun v=>k ⟨m,v⟩:=rfl;rw[e];exact aY.kX.seq fun m=>aY.dK.seq fun v=>H ⟨m,v⟩
def rest(k:Int):ByteArray->M.RS->M.Op×M.RS:=sq M.plain fun a=>
 sq (fun s r=>if M.cm k=true then sq M.plain (fun u=>sq M.plain fun v _ r=>((u,v),r)) s r else (((0:Int),(0:Int)),r)) fun w=>
 sq (fun s r=>if M.dr k=true then M.plain s r else (0,r)) fun b=>sq M.plain fun t s=>
 M.j7 s { af:=k,a:=a,b:=b,aP:=w.1,bC:=w.2,to:=t,size:=0,aE:=0,same:=false,bM:=[],lo:=0,hi:=0,aT:=0,below:=0,left:=0,right:=0 }
theorem aqH:M.op=sq (fun s=>M.ji s 1 10) rest:=rfl
theorem aqI(s:ByteArray)(r:M.RS):(M.ji s 0 1 r).1=0\/(M.ji s 0 1 r).1=1:=by
 unfold M.ji
 dsimp only
 split
 ·exact .inl rfl
 ·rename_i c
  simp at c;have:=C7 s r;omega
theorem adv(k:Int)(hk:k=1\/k=2):aY (rest k) (nx (many (tk 1 false) 3) (fun ins=>nx (tk 1 false) fun out=>nx (aW [(Char.ofNat 117),(Char.ofNat 98),(Char.ofNat 119),(Char.ofNat 115),(Char.ofNat 115),(Char.ofNat 115)]) fun v=>R.ok ⟨k,ins,out,v⟩)) bJ:=by
 simp only[TV,C8,Bi,TW,KF,TX];have H:aY (sq M.plain fun a=>sq M.plain fun u=>sq M.plain fun v=>sq M.plain fun t=>sq M.plain fun st=>sq (fun s=>M.ji s 0 1) fun sm=>sq M.gX fun c=>sq M.dK fun lo=>sq M.dK fun hi _ r=>
   (({ af:=k,a:=a,b:=0,aP:=u,bC:=v,to:=t,size:=0,aE:=st,same:=sm==1,bM:=[c],lo:=lo,hi:=hi,aT:=0,below:=0,left:=0,right:=0 }:M.Op),r))
   (nx (tk 1 false) fun a=>nx (tk 1 false) fun b=>nx (tk 1 false) fun c=>nx (tk 1 false) fun out=>nx (tk 1 false) fun v=>nx (cO (Char.ofNat 98)) fun v_1=>nx (tk 4 true) fun yd=>nx (tk 1 true) fun ye=>nx (tk 1 true) fun uO=>nx (tk 1 true) fun uP=>R.ok ⟨k,[a,b,c],out,[v,v_1,yd,ye,uO,uP]⟩) bJ:=by
  refine aY.plain.seq fun a=>aY.plain.seq fun u=>aY.plain.seq fun v=>aY.plain.seq fun t=>aY.plain.seq fun st=>aY.aqG.Bh (P:=fun v=>v=0\/v=1) aqI fun sm Ca=>aY.gX fun c=>aY.dK.seq fun lo=>aY.dK.seq fun hi=>?_;have e:bJ { af:=k,a:=a,b:=0,aP:=u,bC:=v,to:=t,size:=0,aE:=st,same:=sm==1,bM:=[c],lo:=lo,hi:=hi,aT:=0,below:=0,left:=0,right:=0 }=⟨k,[a,u,v],t,[st,sm,c.eF,c.shift,lo,hi]⟩:=by
   rcases hk with rfl|rfl<;>rcases Ca with rfl|rfl<;>rfl
  have:=aY.pure ({ af:=k,a:=a,b:=0,aP:=u,bC:=v,to:=t,size:=0,aE:=st,same:=sm==1,bM:=[c],lo:=lo,hi:=hi,aT:=0,below:=0,left:=0,right:=0 }:M.Op) bJ;rw[e] at this;exact this
 rcases hk with rfl|rfl
 ·exact H
 ·exact H
theorem aqK:aY (rest 3) (nx (many (tk 1 false) 3) (fun ins=>nx (tk 1 false) fun out=>nx (aW [(Char.ofNat 119),(Char.ofNat 115),(Char.ofNat 115),(Char.ofNat 115)]) fun v=>R.ok ⟨3,ins,out,v⟩)) bJ:=by
 simp only[TV,C8,Bi,KF,TX];have H:aY (sq M.plain fun a=>sq M.plain fun u=>sq M.plain fun v=>sq M.plain fun t=>sq M.gX fun c=>sq M.dK fun lo=>sq M.dK fun hi _ r=>
   (({ af:=3,a:=a,b:=0,aP:=u,bC:=v,to:=t,size:=0,aE:=0,same:=false,bM:=[c],lo:=lo,hi:=hi,aT:=0,below:=0,left:=0,right:=0 }:M.Op),r))
   (nx (tk 1 false) fun a=>nx (tk 1 false) fun b=>nx (tk 1 false) fun c=>nx (tk 1 false) fun out=>nx (tk 4 true) fun yd=>nx (tk 1 true) fun ye=>nx (tk 1 true) fun uO=>nx (tk 1 true) fun uP=>R.ok ⟨3,[a,b,c],out,[yd,ye,uO,uP]⟩) bJ:=
  aY.plain.seq fun a=>aY.plain.seq fun u=>aY.plain.seq fun v=>aY.plain.seq fun t=>aY.gX fun c=>aY.dK.seq fun lo=>aY.dK.seq fun hi=>
   aY.pure ({ af:=3,a:=a,b:=0,aP:=u,bC:=v,to:=t,size:=0,aE:=0,same:=false,bM:=[c],lo:=lo,hi:=hi,aT:=0,below:=0,left:=0,right:=0 }:M.Op) bJ
 exact H
theorem aqL:aY (rest 4) (nx (many (tk 1 false) 2) (fun ins=>nx (tk 1 false) fun out=>nx (aW [(Char.ofNat 119),(Char.ofNat 115),(Char.ofNat 119),(Char.ofNat 115),(Char.ofNat 119),(Char.ofNat 115),(Char.ofNat 115),(Char.ofNat 115)]) fun v=>R.ok ⟨4,ins,out,v⟩)) bJ:=by
 simp only[TU,C8,Bi,KF,TX];have H:aY (sq M.plain fun a=>sq M.plain fun b=>sq M.plain fun t=>sq M.gX fun c=>sq M.gX fun d=>sq M.gX fun e=>sq M.dK fun lo=>sq M.dK fun hi _ r=>
   (({ af:=4,a:=a,b:=b,aP:=0,bC:=0,to:=t,size:=0,aE:=0,same:=false,bM:=[c,d,e],lo:=lo,hi:=hi,aT:=0,below:=0,left:=0,right:=0 }:M.Op),r))
   (nx (tk 1 false) fun a=>nx (tk 1 false) fun b=>nx (tk 1 false) fun out=>nx (tk 4 true) fun yd=>nx (tk 1 true) fun ye=>nx (tk 4 true) fun u_2=>nx (tk 1 true) fun u_3=>nx (tk 4 true) fun t_2=>nx (tk 1 true) fun t_3=>nx (tk 1 true) fun uO=>nx (tk 1 true) fun uP=>R.ok ⟨4,[a,b],out,[yd,ye,u_2,u_3,t_2,t_3,uO,uP]⟩) bJ:=
  aY.plain.seq fun a=>aY.plain.seq fun b=>aY.plain.seq fun t=>aY.gX fun c=>aY.gX fun d=>aY.gX fun e=>aY.dK.seq fun lo=>aY.dK.seq fun hi=>
   aY.pure ({ af:=4,a:=a,b:=b,aP:=0,bC:=0,to:=t,size:=0,aE:=0,same:=false,bM:=[c,d,e],lo:=lo,hi:=hi,aT:=0,below:=0,left:=0,right:=0 }:M.Op) bJ
 exact H
theorem adw(k:Int)(hk:k=5\/k=6):aY (rest k) (nx (many (tk 1 false) 1) (fun ins=>nx (tk 1 false) fun out=>nx (aW [(Char.ofNat 117),(Char.ofNat 117),(Char.ofNat 115),(Char.ofNat 115)]) fun v=>R.ok ⟨k,ins,out,v⟩)) bJ:=by
 simp only[KE,C8,Bi,TW,KF];rcases hk with rfl|rfl
 ·have H:aY (sq M.plain fun a=>sq M.plain fun t=>sq M.plain fun n=>sq M.plain fun st=>sq M.dK fun lo=>sq M.dK fun hi _ r=>
    (({ af:=5,a:=a,b:=0,aP:=0,bC:=0,to:=t,size:=n,aE:=st,same:=false,bM:=[],lo:=lo,hi:=hi,aT:=0,below:=0,left:=0,right:=0 }:M.Op),r))
    (nx (tk 1 false) fun a=>nx (tk 1 false) fun out=>nx (tk 1 false) fun yd=>nx (tk 1 false) fun ye=>nx (tk 1 true) fun uO=>nx (tk 1 true) fun uP=>R.ok ⟨5,[a],out,[yd,ye,uO,uP]⟩) bJ:=
   aY.plain.seq fun a=>aY.plain.seq fun t=>aY.plain.seq fun n=>aY.plain.seq fun st=>aY.dK.seq fun lo=>aY.dK.seq fun hi=>
    aY.pure ({ af:=5,a:=a,b:=0,aP:=0,bC:=0,to:=t,size:=n,aE:=st,same:=false,bM:=[],lo:=lo,hi:=hi,aT:=0,below:=0,left:=0,right:=0 }:M.Op) bJ
  exact H
 ·have H:aY (sq M.plain fun a=>sq M.plain fun t=>sq M.plain fun n=>sq M.plain fun st=>sq M.dK fun lo=>sq M.dK fun hi _ r=>
    (({ af:=6,a:=a,b:=0,aP:=0,bC:=0,to:=t,size:=n,aE:=st,same:=false,bM:=[],lo:=lo,hi:=hi,aT:=0,below:=0,left:=0,right:=0 }:M.Op),r))
    (nx (tk 1 false) fun a=>nx (tk 1 false) fun out=>nx (tk 1 false) fun yd=>nx (tk 1 false) fun ye=>nx (tk 1 true) fun uO=>nx (tk 1 true) fun uP=>R.ok ⟨6,[a],out,[yd,ye,uO,uP]⟩) bJ:=
   aY.plain.seq fun a=>aY.plain.seq fun t=>aY.plain.seq fun n=>aY.plain.seq fun st=>aY.dK.seq fun lo=>aY.dK.seq fun hi=>
    aY.pure ({ af:=6,a:=a,b:=0,aP:=0,bC:=0,to:=t,size:=n,aE:=st,same:=false,bM:=[],lo:=lo,hi:=hi,aT:=0,below:=0,left:=0,right:=0 }:M.Op) bJ
  exact H
theorem aqQ:aY (rest 7) (nx (many (tk 1 false) 1) (fun ins=>nx (tk 1 false) fun out=>nx (aW [(Char.ofNat 115),(Char.ofNat 115)]) fun v=>R.ok ⟨7,ins,out,v⟩)) bJ:=by
 simp only[KE,C8,Bi,KF];have H:aY (sq M.plain fun a=>sq M.plain fun t=>sq M.dK fun lo=>sq M.dK fun hi _ r=>
   (({ af:=7,a:=a,b:=0,aP:=0,bC:=0,to:=t,size:=0,aE:=0,same:=false,bM:=[],lo:=lo,hi:=hi,aT:=0,below:=0,left:=0,right:=0 }:M.Op),r))
   (nx (tk 1 false) fun a=>nx (tk 1 false) fun out=>nx (tk 1 true) fun uO=>nx (tk 1 true) fun uP=>R.ok ⟨7,[a],out,[uO,uP]⟩) bJ:=
  aY.plain.seq fun a=>aY.plain.seq fun t=>aY.dK.seq fun lo=>aY.dK.seq fun hi=>
   aY.pure ({ af:=7,a:=a,b:=0,aP:=0,bC:=0,to:=t,size:=0,aE:=0,same:=false,bM:=[],lo:=lo,hi:=hi,aT:=0,below:=0,left:=0,right:=0 }:M.Op) bJ
 exact H
theorem aqR:aY (rest 8) (nx (many (tk 1 false) 1) (fun ins=>nx (tk 1 false) fun out=>nx (aW [(Char.ofNat 117),(Char.ofNat 117),(Char.ofNat 117),(Char.ofNat 117)]) fun v=>R.ok ⟨8,ins,out,v⟩)) bJ:=by
 simp only[KE,C8,Bi,TW];have H:aY (sq M.plain fun a=>sq M.plain fun t=>sq M.plain fun p=>sq M.plain fun q=>sq M.plain fun u=>sq M.plain fun v _ r=>
   (({ af:=8,a:=a,b:=0,aP:=0,bC:=0,to:=t,size:=0,aE:=0,same:=false,bM:=[],lo:=0,hi:=0,aT:=p,below:=q,left:=u,right:=v }:M.Op),r))
   (nx (tk 1 false) fun a=>nx (tk 1 false) fun out=>nx (tk 1 false) fun yd=>nx (tk 1 false) fun ye=>nx (tk 1 false) fun uO=>nx (tk 1 false) fun uP=>R.ok ⟨8,[a],out,[yd,ye,uO,uP]⟩) bJ:=
  aY.plain.seq fun a=>aY.plain.seq fun t=>aY.plain.seq fun p=>aY.plain.seq fun q=>aY.plain.seq fun u=>aY.plain.seq fun v=>
   aY.pure ({ af:=8,a:=a,b:=0,aP:=0,bC:=0,to:=t,size:=0,aE:=0,same:=false,bM:=[],lo:=0,hi:=0,aT:=p,below:=q,left:=u,right:=v }:M.Op) bJ
 exact H
theorem aqS:aY (rest 9) (nx (many (tk 1 false) 1) (fun ins=>nx (tk 1 false) fun out=>nx (aW []) fun v=>R.ok ⟨9,ins,out,v⟩)) bJ:=by
 simp only[KE,Bi];have H:aY (sq M.plain fun a=>sq M.plain fun t _ r=>
   (({ af:=9,a:=a,b:=0,aP:=0,bC:=0,to:=t,size:=0,aE:=0,same:=false,bM:=[],lo:=0,hi:=0,aT:=0,below:=0,left:=0,right:=0 }:M.Op),r))
   (nx (tk 1 false) fun a=>nx (tk 1 false) fun out=>R.ok ⟨9,[a],out,[]⟩) bJ:=
  aY.plain.seq fun a=>aY.plain.seq fun t=>
   aY.pure ({ af:=9,a:=a,b:=0,aP:=0,bC:=0,to:=t,size:=0,aE:=0,same:=false,bM:=[],lo:=0,hi:=0,aT:=0,below:=0,left:=0,right:=0 }:M.Op) bJ
 exact H
theorem aqT:aY (rest 10) (nx (many (tk 1 false) 2) (fun ins=>nx (tk 1 false) fun out=>nx (aW []) fun v=>R.ok ⟨10,ins,out,v⟩)) bJ:=by
 simp only[TU,Bi];have H:aY (sq M.plain fun a=>sq M.plain fun b=>sq M.plain fun t _ r=>
   (({ af:=10,a:=a,b:=b,aP:=0,bC:=0,to:=t,size:=0,aE:=0,same:=false,bM:=[],lo:=0,hi:=0,aT:=0,below:=0,left:=0,right:=0 }:M.Op),r))
   (nx (tk 1 false) fun a=>nx (tk 1 false) fun b=>nx (tk 1 false) fun out=>R.ok ⟨10,[a,b],out,[]⟩) bJ:=
  aY.plain.seq fun a=>aY.plain.seq fun b=>aY.plain.seq fun t=>
   aY.pure ({ af:=10,a:=a,b:=b,aP:=0,bC:=0,to:=t,size:=0,aE:=0,same:=false,bM:=[],lo:=0,hi:=0,aT:=0,below:=0,left:=0,right:=0 }:M.Op) bJ
 exact H
theorem aY.op:aY M.op R.op bJ:=by
 have e:M.op=sq M.plain fun k s r=>if (decide (k<1)||decide (10<k))=true then rest 0 s ⟨r.bG,true⟩ else rest k s r:=by
  rw[aqH]
  funext s r
  unfold sq M.ji
  dsimp only
  split<;>rfl
 rw[e];unfold R.op;refine aY.plain.Bh (P:=fun k=>0<=k) C7 fun k hk=>?_;simp only[id];by_cases c:k<1\/10<k
 ·have c1:(decide (k<1)||decide (10<k))=true:=by simpa using c
  simp only[ay c1];have e2:bT k=none:=by
   unfold bT;rw[ak (by omega),ak (by omega),ak (by omega),ak (by omega),ak (by omega),ak (by omega),ak (by omega),ak (by omega)]
  rw[e2];refine aY.adu bJ fun s r hr=>?_;exact aY.plain.hZ s _ (aY.plain.hZ s r hr)
 ·have c1:¬(decide (k<1)||decide (10<k))=true:=by simpa using c
  simp only[ak c1];rcases(show k=1\/k=2\/k=3\/k=4\/k=5\/k=6\/k=7\/k=8\/k=9\/k=10 by omega) with rfl|rfl|rfl|rfl|rfl|rfl|rfl|rfl|rfl|rfl
  ·exact adv 1 (.inl rfl)
  ·exact adv 2 (.inr rfl)
  ·exact aqK
  ·exact aqL
  ·exact adw 5 (.inl rfl)
  ·exact adw 6 (.inr rfl)
  ·exact aqQ
  ·exact aqR
  ·exact aqS
  ·exact aqT
def dp(m:M.Md):bX:=⟨m.au,m.ag.map bJ,m.aK⟩
theorem aY.aK(n:Int)(hn:0<=n):aY (fun s r=>if (M.df s n r).1=true then M.rep (M.plain s) n.toNat (M.df s n r).2 else ([],(M.df s n r).2)) (many (tk 1 false) n.toNat) id:=by
 have h:=aY.rep aY.plain n.toNat;rw[show List.map (id:Int->Int)=id from funext fun l=>List.map_id l] at h;exact aY.df n h fun l x r e=>by have:=OW (n:=1) (fun l x r=>TT l x r) _ _ _ _ e;omega
theorem aY.all:aY (sq M.au fun t=>sq M.ag fun o=>sq M.aK fun u _ r=>((⟨t,o,u⟩:M.Md),r))
  (nx (tk 1 false) fun n=>nx (many R.fH n.toNat) fun ts=>nx (tk 1 false) fun n=>nx (many R.op n.toNat) fun os=>nx (tk 1 false) fun n=>nx (many (tk 1 false) n.toNat) fun us=>R.ok (⟨ts,os,us⟩:bX)) dp:=by
 have H:aY (sq M.plain fun n=>sq (fun s=>M.eZ (M.fH s) n.toNat) fun t=>sq M.plain fun n=>sq (fun s=>M.eZ (M.op s) n.toNat) fun o=>sq M.plain fun n=>sq (fun s r=>if (M.df s n r).1=true then M.rep (M.plain s) n.toNat (M.df s n r).2 else ([],(M.df s n r).2)) fun u _ r=>((⟨t,o,u⟩:M.Md),r))
   (nx (tk 1 false) fun n=>nx (many R.fH n.toNat) fun ts=>nx (tk 1 false) fun n=>nx (many R.op n.toNat) fun os=>nx (tk 1 false) fun n=>nx (many (tk 1 false) n.toNat) fun us=>R.ok (⟨ts,os,us⟩:bX)) dp:=by
  refine aY.plain.seq fun n=>?_;have ht:=aY.eZ aY.fH n.toNat;rw[show List.map (id:M.Tn->M.Tn)=id from funext fun l=>List.map_id l] at ht;refine ht.seq fun t=>aY.plain.seq fun n2=>(aY.eZ aY.op n2.toNat).seq fun o=>aY.plain.Bh (P:=fun n=>0<=n) C7 fun n3 h3=>(aY.aK n3 h3).seq fun u=>?_;exact aY.pure (⟨t,o,u⟩:M.Md) dp
 exact H
theorem adx(s:ByteArray):R.fh s.data.toList=if ((M.gD s).2.gg||decide ((M.gD s).2.bG≠s.size))=true then none else some (dp (M.gD s).1):=by
 have hl:s.data.toList.length=s.size:=Array.length_toList;unfold R.fh;have e:M.gD s=(sq M.au fun t=>sq M.ag fun o=>sq M.aK fun u _ r=>((⟨t,o,u⟩:M.Md),r)) s (M.sM s):=rfl;by_cases c:s.data.toList.length<4\/s.data.toList.take 4≠M.DD
 ·rw[ay c]
  have hb:M.sM s=⟨0,true⟩:=by unfold M.sM;rw[ay (by rw[hl] at c;simpa using c)]
  have:=aY.all.hZ s (M.sM s) (by rw[hb]);rw[e,this]
  rfl
 ·rw[ak c]
  have c':4<=s.size:=by rw[hl] at c;omega
  have hb:M.sM s=⟨4,false⟩:=by unfold M.sM;rw[ak (by rw[hl] at c;simpa using c)]
  rw[e,hb]
  cases h:((sq M.au fun t=>sq M.ag fun o=>sq M.aK fun u _ r=>((⟨t,o,u⟩:M.Md),r)) s ⟨4,false⟩).2.gg with
  | true=>
   rw[aY.all.no s 4 c' h]
   rfl
  | false=>
   obtain⟨h1,h2⟩:=aY.all.ok s 4 c' h;rw[h2];by_cases hp:((sq M.au fun t=>sq M.ag fun o=>sq M.aK fun u _ r=>((⟨t,o,u⟩:M.Md),r)) s ⟨4,false⟩).2.bG=s.size
   ·rw[ak (by simp[hp]),TS (by omega)]
   ·rw[ay (by simp[hp]),TR (by omega)]
end R
namespace R
theorem aqU{α β:Type}(f:List UInt8->fW α)(h:List α->List UInt8->fW β):nx (many f 4) h=nx f fun a=>nx f fun b=>nx f fun c=>nx f fun d=>h [a,b,c,d]:=by
 show nx (nx (many f 3) fun xs=>nx f fun x=>ok (xs++[x])) h=_;rw[wL,TV];simp only[wL]
 rfl
def wM(k h w c:Int)(l:List UInt8):fW M.Tn:=
 if 3<k then none else nx (tk 1 true) (fun z l=>
   if k=0\/k=3 then some (⟨k,h,w,c,z,[]⟩,l) else nx (many (tk (if k=2 then 4 else 1) true) (h*w*c).toNat) (fun d=>ok ⟨k,h,w,c,z,d⟩) l) l
theorem ady(l:List UInt8):fH l=nx (many (tk 1 false) 4) (fun xs=>wM (xs.getD 0 0) (xs.getD 1 0) (xs.getD 2 0) (xs.getD 3 0)) l:=by
 rw[aqU];rfl
theorem aqV{l:List UInt8}(h:list l 1 false 4=none):fH l=none:=by
 rw[ady,nx,<-ES,h]
theorem aqW{l r:List UInt8}{k h w c:Int}(hl:list l 1 false 4=some ([k,h,w,c],r)):fH l=wM k h w c r:=by
 rw[ady,nx,<-ES,hl];rfl
def Bd(n:Nat)(cX:Bool)(x:Int):Prop:=if n=1 then (if cX=true then -128<=x/\x<=127 else 0<=x/\x<=255) else -2147483648<=x/\x<=2147483647
theorem aqX(a b c d:UInt8):val [a,b,c,d]=(a.toNat:Int)+256*(b.toNat+256*(c.toNat+256*(d.toNat+256*0))):=rfl
theorem ET(l:List UInt8)(cX:Bool):Bd 1 cX (take l 1 cX).1:=by
 unfold Bd take;rw[ay rfl]
 match l with
 | []=>cases cX<;>simp
 | a::r=>
  have ha:=a.toNat_lt;have e:(a::r).take 1=[a]:=rfl;have ev:val [a]=(a.toNat:Int):=by simp[val]
  rw[ak (show ¬(a::r).length<1 by simp),e,ev];have es:sY (a::r) 1 cX=(cX&&decide (128<=a.toNat)):=rfl;rw[es]
  cases cX with
  | false=>
   rw[ak (show ¬(false=true) by decide)]
   dsimp only[Bool.false_and]
   rw[ak (show ¬((false&&decide (128<=a.toNat))=true) by simp)];omega
  | true=>
   rw[ay rfl]
   dsimp only[Bool.true_and]
   by_cases h:128<=a.toNat
   ·rw[ay (show(true&&decide (128<=a.toNat))=true by simp[h])];omega
   ·rw[ak (show ¬((true&&decide (128<=a.toNat))=true) by simp[h])];omega
theorem aqY(l:List UInt8):Bd 4 true (take l 4 true).1:=by
 unfold Bd take;rw[ak (by decide)]
 split
 ·simp
 ·rename_i h
  match l,h with
  | a::b::c::d::r,_=>
   have:=a.toNat_lt;have:=b.toNat_lt;have:=c.toNat_lt;have:=d.toNat_lt;unfold sY;simp only[Bool.true_and,decide_eq_true_eq];show -2147483648<=(if 128<=d.toNat then val [a,b,c,d] - 256 ^ 4 else val [a,b,c,d])/\(if 128<=d.toNat then val [a,b,c,d] - 256 ^ 4 else val [a,b,c,d])<=2147483647;rw[aqX]
   split<;>omega
  | [],h=>exact aN (show([]:List UInt8).length<4 by decide) h
  | [_],h=>exact aN (show 1<4 by decide) h
  | [_,_],h=>exact aN (show 2<4 by decide) h
  | [_,_,_],h=>exact aN (show 3<4 by decide) h
theorem KG(l:List UInt8)(n:Nat)(cX:Bool)(h:n=1\/n=4/\cX=true):Bd n cX (take l n cX).1:=by
 rcases h with rfl|⟨rfl,rfl⟩
 ·exact ET l cX
 ·exact aqY l
theorem adz(l:List UInt8)(n:Nat)(cX:Bool)(hn:n=1\/n=4/\cX=true):∀k xs r,list l n cX k=some (xs,r)->∀x∈xs,Bd n cX x
 | 0,xs,r,h=>by simp[list] at h;obtain⟨rfl,rfl⟩:=h;simp
 | k+1,xs,r,h=>by
  unfold list at h
  cases hk:list l n cX k with
  | none=>rw[hk] at h;simp at h
  | some p=>
   obtain⟨ys,q⟩:=p;rw[hk] at h;simp only at h;have ih:=adz l n cX hn k ys q hk
   split at h
   ·injection h with h
    injection h with h1 h2;subst h1;intro x hx;rcases List.mem_append.1 hx with h' | h'
    ·exact ih x h'
    ·simp at h';subst h';exact KG q n cX hn
   ·simp at h
theorem sA{l r:List UInt8}{n:Nat}{cX:Bool}{x:Int}(h:take l n cX=(x,r,true)):tk n cX l=some (x,r):=by
 unfold tk;rw[h];rfl
theorem qC{l r:List UInt8}{n:Nat}{cX:Bool}{x:Int}(h:take l n cX=(x,r,false)):tk n cX l=none:=by
 unfold tk;rw[h];rfl
theorem aqZ{k h w c:Int}{l:List UInt8}(hk:3<k):wM k h w c l=none:=by unfold wM;rw[ay hk]
theorem aq0{k h w c:Int}{l:List UInt8}(hk:¬3<k)(ht:tk 1 true l=none):wM k h w c l=none:=by unfold wM;rw[ak hk,nx,ht]
theorem aq1{k h w c z:Int}{l r:List UInt8}(hk:k=0\/k=3)(ht:tk 1 true l=some (z,r)):wM k h w c l=some (⟨k,h,w,c,z,[]⟩,r):=by
 unfold wM;rw[ak (by omega),nx,ht];show(if _ then _ else _)=_;rw[ay hk]
theorem aq2{k h w c z:Int}{l r:List UInt8}{n:Nat}(hk:k=1\/k=2)(hn:n=if k=2 then 4 else 1)(ht:tk 1 true l=some (z,r)):wM k h w c l=match list r n true (h*w*c).toNat with|some (d,r')=>some (⟨k,h,w,c,z,d⟩,r')|none=>none:=by
 unfold wM;rw[ak (by omega),nx,ht];show(if _ then _ else _)=_;rw[ak (by omega),nx,ES,hn];cases many (tk (if k=2 then 4 else 1) true) (h*w*c).toNat r<;>rfl
end R
open Go.RowKit
structure yf(T:TypeId)(z:Array Value)(w0 w1:World)(cs:Array Value):Prop where
 L:aj w1 (w0.heap.size+1) T cs
 G:aj w1 w0.heap.size T z
 g:w0.grownBy w1 none
theorem yf.start{T:TypeId}{z:Array Value}(w:World):yf T z w ((w.alloc (.cells z T)).alloc (.cells z T)) z:=
 ⟨aj.yA w _ _ _,aj.alloc (aj.bA w _ _) _,nZ w _ _ _⟩
theorem yf.gZ{T:TypeId}{z:Array Value}{w0 w1 w2:World}{cs:Array Value}(h:yf T z w0 w1 cs)(hg:w1.grownBy w2 none):yf T z w0 w2 cs:=
 ⟨h.L.kept hg (by simp),h.G.kept hg (by simp),aC h.g hg⟩
theorem yf.put{T:TypeId}{z:Array Value}{w0 w1:World}{cs:Array Value}(h:yf T z w0 w1 cs)(i:Nat)(v:Value):yf T z w0 (w1.setCell ⟨w0.heap.size+1,i,none⟩ v) (cs.setIfInBounds i v):=
 ⟨aj.set h.L i v,h.G.yz (by simp) _,dF h.g (bD _ _ _ _) (by omega)⟩
abbrev adB(w1:World)(G:Nat)(v0 v1 v2 v3 v4 v5:Value):World:=(((((w1.setCell ⟨G,0,none⟩ v0).setCell ⟨G,1,none⟩ v1).setCell ⟨G,2,none⟩ v2).setCell ⟨G,3,none⟩ v3).setCell ⟨G,4,none⟩ v4).setCell ⟨G,5,none⟩ v5
theorem Db{w1:World}{G:Nat}{T:TypeId}{u0 u1 u2 u3 u4 u5:Value}(h:aj w1 G T #[u0,u1,u2,u3,u4,u5])(v0 v1 v2 v3 v4 v5:Value) :
  w1.grownBy (adB w1 G v0 v1 v2 v3 v4 v5) (some G)/\aj (adB w1 G v0 v1 v2 v3 v4 v5) G T #[v0,v1,v2,v3,v4,v5]:=by
 have hg:=aC (bD w1 G 0 v0) (aC (bD _ G 1 v1) (aC (bD _ G 2 v2) (aC (bD _ G 3 v3) (aC (bD _ G 4 v4) (bD _ G 5 v5)))));exact⟨hg,(((((h.set 0 v0).set 1 v1).set 2 v2).set 3 v3).set 4 v4).set 5 v5⟩
theorem Dc{W:World}{G:Nat}{v0 v1 v2 v3 v4 v5 x y:Value}(hB:aj W G 66 #[v0,v1,v2,v3,v4,v5])(tmps:Array Value)(ht:tmps[2]?.getD undef=.pointer (some ⟨G,0,none⟩))(h3:tmps[3]?.getD undef=x)(h4:tmps[4]?.getD undef=y):(results Tryz.f67 tmps).run prog W=.ok (.tuple #[.agg #[v0,v1,v2,v3,v4,v5],x,y]) W:=by
 have q0:W.cell? ⟨G,0,none⟩=some v0:=hB.cell 0;have q1:W.cell? ⟨G,1,none⟩=some v1:=hB.cell 1;have q2:W.cell? ⟨G,2,none⟩=some v2:=hB.cell 2;have q3:W.cell? ⟨G,3,none⟩=some v3:=hB.cell 3;have q4:W.cell? ⟨G,4,none⟩=some v4:=hB.cell 4;have q5:W.cell? ⟨G,5,none⟩=some v5:=hB.cell 5;subst h3 h4;simp[results,Tryz.results67,go_sem,ht,q0,q1,q2,q3,q4,q5]
theorem OX{α:Type}{l:List α}(h:l.length=4):∃a b c d,l=[a,b,c,d]:=by
 match l,h with
 | [a,b,c,d],_=>exact⟨a,b,c,d,rfl⟩
theorem aq3(l:List UInt8)(w:World)(hl:l.length<=1000000) :
  Calls prog 67 #[.string (S9 l)] w fun e w'=>w.grownBy w' none /\
   ((∃(k h v c z:Int) (ao:Option Addr) (n cp:Nat) (r:List UInt8),Hid (R.fH l=none)/\e=.returned (.tuple #[.agg (t6 k h v c z (.slice ao n cp)),.string (S9 r),.bool false])) \/
    ∃(t:M.Tn) (ao:Option Addr) (cp:Nat) (r:List UInt8),Hid (R.fH l=some (t,r))/\r.length<=l.length/\dZ t/\e=.returned (.tuple #[.agg (bg t (.slice ao t.data.length cp)),.string (S9 r),.bool true])/\aZ w' w.heap.size (.slice ao t.data.length cp) t.data):=by
 have I0:=ae (yf.start (T:=66) (z:=t6 0 0 0 0 0 (.slice none 0 0)) w);go_enter func67,ntmps67;go_wp2_with fail;refine(KD l 4 1 false _ (by decide) (by decide) hl (by decide)).mono ?_;rintro e w1⟨g1,⟨r1,hn,xV,rfl⟩|⟨a1,c1,xs,r1,HL,rfl,lQ⟩⟩
 ·have I1:=I0.out.gZ g1
  have HN:=ae (R.aqV hn);obtain⟨d0,d1,d2,d3,d4,d5⟩:=mI I1.L;obtain⟨g0,rJ,g2,g3,g4,g5⟩:=mI I1.G;obtain⟨f0,f1,f2,f3,f4,f5⟩:=xo I1.G;have HI:=ae I1;clear g1 hn I1 I0;go_wp2;obtain⟨fY,g6⟩:=Db HI.out.G (.int .i64 0) (.int .i64 0) (.int .i64 0) (.int .i64 0) (.int .i64 0) (.slice none 0 0);refine bodyPost_ret (Dc g6 _ rfl rfl rfl) rfl ?_;exact⟨dF HI.out.g fY (bj _),.inl ⟨0,0,0,0,0,none,0,0,r1,HN.out,rfl⟩⟩
 ·obtain⟨uH,gJ⟩:=Gp l 1 false 4 xs r1 HL.out
  have mZ:=R.adz l 1 false (.inl rfl) 4 xs r1 HL.out;obtain⟨k,h,v,c,rfl⟩:=OX uH;have bk:0<=k/\k<=255:=mZ k (by simp);have bh:0<=h/\h<=255:=mZ h (by simp);have bv:0<=v/\v<=255:=mZ v (by simp);have bc:0<=c/\c<=255:=mZ c (by simp);have HT:=ae (R.aqW HL.out);have I1:=I0.out.gZ g1;have Gt:aZ w1 (w.heap.size+2) (.slice a1 4 c1) [k,h,v,c]:=by
   have e:=lQ;rw[World.size_alloc,World.size_alloc] at e;exact e
  obtain⟨ga,e1,bq,-,x0⟩:=Gt.get 0 k rfl;subst e1;obtain⟨_,e1,_,-,x1⟩:=Gt.get 1 h rfl;injection e1 with e1;injection e1 with e1 _ _;subst e1;obtain⟨_,e1,_,-,x2⟩:=Gt.get 2 v rfl;injection e1 with e1;injection e1 with e1 _ _;subst e1;obtain⟨_,e1,_,-,x3⟩:=Gt.get 3 c rfl;injection e1 with e1;injection e1 with e1 _ _;subst e1;have HI:=ae I1;have HJ:=ae Gt;have hln:=gJ;clear lQ Gt I1 I0 g1 mZ uH;obtain⟨d0,d1,d2,d3,d4,d5⟩:=mI HI.out.L;by_cases DO:3<k
  ·have HN:=ae (show R.fH l=none by rw[HT.out];exact R.aqZ DO)
   obtain⟨g0,rJ,g2,g3,g4,g5⟩:=mI HI.out.G;obtain⟨f0,f1,f2,f3,f4,f5⟩:=xo HI.out.G;have aq4:decide (k > 3)=true:=eG DO;go_wp2;obtain⟨fY,g6⟩:=Db HI.out.G (.int .i64 0) (.int .i64 0) (.int .i64 0) (.int .i64 0) (.int .i64 0) (.slice none 0 0);refine bodyPost_ret (Dc g6 _ rfl rfl rfl) rfl ?_;exact⟨dF HI.out.g fY (bj _),.inl ⟨0,0,0,0,0,none,0,0,r1,HN.out,rfl⟩⟩
  ·have aq4:decide (k > 3)=false:=eE DO
   have hk4:k<=3:=by omega
   go_wp2_with fail;refine(yc r1 1 true w1 (by decide) (by decide) (by omega)).mono ?_;rintro e w2⟨rfl,g2⟩;have OY:=R.ET r1 true;have wH:=(wK r1 1 true).1;obtain⟨⟨z,r2,ok⟩,yg⟩:∃p,Hid (R.take r1 1 true=p):=⟨_,rfl⟩;rw[yg.out] at OY wH ⊢;have bz:-128<=z/\z<=127:=OY;have zt:r2.length<=r1.length:=wH;have I2:=HI.out.gZ g2;have KH:=HJ.out.Z g2;obtain⟨gx,e1,hgx,-,x0⟩:=KH.get 0 k rfl;injection e1 with e1;injection e1 with e1 _ _;subst e1;obtain⟨_,e1,_,-,x1⟩:=KH.get 1 h rfl;injection e1 with e1;injection e1 with e1 _ _;subst e1;obtain⟨_,e1,_,-,x2⟩:=KH.get 2 v rfl;injection e1 with e1;injection e1 with e1 _ _;subst e1;obtain⟨_,e1,_,-,x3⟩:=KH.get 3 c rfl;injection e1 with e1;injection e1 with e1 _ _;subst e1;clear d0 d1 d2 d3 d4 d5;obtain⟨d0,d1,d2,d3,d4,d5⟩:=mI I2.L;obtain⟨Gu,Gv,Gw,Bj,OZ,Dd⟩:=xo I2.L;obtain⟨g0,rJ,xq,g3,g4,g5⟩:=mI I2.G;obtain⟨f0,f1,f2,f3,f4,f5⟩:=xo I2.G;have jF:Hid (yf 66 _ w (((((w2.setCell ⟨w.heap.size+1,0,none⟩ (.int .i64 k)).setCell ⟨w.heap.size+1,1,none⟩ (.int .i64 h)).setCell ⟨w.heap.size+1,2,none⟩ (.int .i64 v)).setCell ⟨w.heap.size+1,3,none⟩ (.int .i64 c)).setCell ⟨w.heap.size+1,4,none⟩ (.int .i64 z)) (t6 k h v c z (.slice none 0 0))):=((((I2.put 0 (.int .i64 k)).put 1 (.int .i64 h)).put 2 (.int .i64 v)).put 3 (.int .i64 c)).put 4 (.int .i64 z);clear g2 HI HJ KH I2
   cases ok with
   | false=>
    have HN:=ae (show R.fH l=none by rw[HT.out];exact R.aq0 (by omega) (R.qC yg.out));go_wp2;obtain⟨fY,g6⟩:=Db jF.out.G (.int .i64 k) (.int .i64 h) (.int .i64 v) (.int .i64 c) (.int .i64 z) (.slice none 0 0);refine bodyPost_ret (Dc g6 _ rfl rfl rfl) rfl ?_;exact⟨dF jF.out.g fY (bj _),.inl ⟨k,h,v,c,z,none,0,0,r2,HN.out,rfl⟩⟩
   | true=>
    have HK:=ae (R.sA yg.out);have wf:∀l,dZ ⟨k,h,v,c,z,l⟩:=fun l=>⟨bk.1,hk4,bh.1,bh.2,bv.1,bv.2,bc.1,bc.2,bz.1,bz.2⟩;by_cases rN:k=0\/k=3
    ·have HN:=ae (show R.fH l=some (⟨k,h,v,c,z,[]⟩,r2) by rw[HT.out];exact R.aq1 rN HK.out)
     have O4:=ae (wf []);clear wf;rcases rN with rfl|rfl
     all_goals
      go_wp2;obtain⟨fY,g6⟩:=Db jF.out.G _ (.int .i64 h) (.int .i64 v) (.int .i64 c) (.int .i64 z) (.slice none 0 0);refine bodyPost_ret (Dc g6 _ rfl rfl rfl) rfl ?_;exact⟨dF jF.out.g fY (bj _),.inr ⟨⟨_,h,v,c,z,[]⟩,none,0,r2,HN.out,by omega,O4.out,rfl,aZ.nil _ _⟩⟩
    ·obtain⟨m0,m1,n0,n1⟩:=xn bh.1 bh.2 bv.1 bv.2 bc.1 bc.2
     have O4:=ae wf;have adC:k=1\/k=2:=by omega
     have HD:=ae (R.aq2 (h:=h) (w:=v) (c:=c) adC rfl HK.out);clear wf rN;obtain⟨n,Hn⟩:∃n:Nat,Hid (h*v*c=(n:Int)):=⟨(h*v*c).toNat,by unfold Hid;omega⟩;rw[Hn.out,eC] at HD;have fP:n<=16777216:=by have:=Hn.out;omega
     obtain⟨w3,O5⟩:∃w3,Hid ((((((w2.setCell ⟨w.heap.size+1,0,none⟩ (.int .i64 k)).setCell ⟨w.heap.size+1,1,none⟩ (.int .i64 h)).setCell ⟨w.heap.size+1,2,none⟩ (.int .i64 v)).setCell ⟨w.heap.size+1,3,none⟩ (.int .i64 c)).setCell ⟨w.heap.size+1,4,none⟩ (.int .i64 z))=w3):=⟨_,rfl⟩;rcases adC with rfl|rfl
     ·have HE:=ae (show R.wM 1 h v c r1=match R.list r2 1 true n with|some (d,r')=>some (⟨1,h,v,c,z,d⟩,r')|none=>none from HD.out)
      rw[O5.out] at jF;go_wp2_with fail;rw[Hn.out,O5.out];refine(KD r2 n 1 true w3 (by decide) (by decide) (by omega) fP).mono ?_;rintro e w4⟨g4,⟨r4,tN,De,rfl⟩|⟨a4,c4,xs,r4,pb,rfl,lS⟩⟩
      ·have HN:=ae (show R.fH l=none by rw[HT.out,HE.out,tN])
       have I4:=jF.out.gZ g4;clear d0 d1 d2 d3 d4 d5 Gu Gv Gw Bj OZ Dd g0 rJ xq g3 g4 g5 f0 f1 f2 f3 f4 f5 x0 x1 x2 x3;obtain⟨d0,d1,d2,d3,d4,d5⟩:=mI I4.L;have Dd:=I4.L.free 5;obtain⟨g0,rJ,xq,g3,g4,g5⟩:=mI I4.G;obtain⟨f0,f1,f2,f3,f4,f5⟩:=xo I4.G;have ky:=ae (I4.put 5 (.slice none 0 0));clear I4 jF HD HE tN;go_wp2;obtain⟨fY,g6⟩:=Db ky.out.G (.int .i64 1) (.int .i64 h) (.int .i64 v) (.int .i64 c) (.int .i64 z) (.slice none 0 0);refine bodyPost_ret (Dc g6 _ rfl rfl rfl) rfl ?_;exact⟨dF ky.out.g fY (bj _),.inl ⟨1,h,v,c,z,none,0,0,r4,HN.out,rfl⟩⟩
      ·have HN:=ae (show R.fH l=some (⟨1,h,v,c,z,xs⟩,r4) by rw[HT.out,HE.out,pb.out])
       have De:=(Gp r2 1 true n xs r4 pb.out).2;have I4:=jF.out.gZ g4;have eD:=jF.out.L.lt;clear d0 d1 d2 d3 d4 d5 Gu Gv Gw Bj OZ Dd g0 rJ xq g3 g4 g5 f0 f1 f2 f3 f4 f5 x0 x1 x2 x3;obtain⟨d0,d1,d2,d3,d4,d5⟩:=mI I4.L;have Dd:=I4.L.free 5;obtain⟨g0,rJ,xq,g3,g4,g5⟩:=mI I4.G;obtain⟨f0,f1,f2,f3,f4,f5⟩:=xo I4.G;have ky:=ae (I4.put 5 (.slice a4 xs.length c4));have Je:=ae ((lS.kept (bD w4 (w.heap.size+1) 5 (.slice a4 xs.length c4)) eD));have F7:=ae De;have C6:=ae eD;clear I4 jF HD HE lS De eD;go_wp2;obtain⟨fY,g6⟩:=Db ky.out.G (.int .i64 1) (.int .i64 h) (.int .i64 v) (.int .i64 c) (.int .i64 z) (.slice a4 xs.length c4);refine bodyPost_ret (Dc g6 _ rfl rfl rfl) rfl ?_;refine⟨dF ky.out.g fY (bj _),.inr ⟨⟨1,h,v,c,z,xs⟩,a4,c4,r4,HN.out,by have:=F7.out;omega,O4.out xs,rfl,?_⟩⟩;exact(Je.out.kept fY (by have:=C6.out;omega)).mono (by have:=C6.out;omega)
     ·have HE:=ae (show R.wM 2 h v c r1=match R.list r2 4 true n with|some (d,r')=>some (⟨2,h,v,c,z,d⟩,r')|none=>none from HD.out)
      rw[O5.out] at jF;go_wp2_with fail;rw[Hn.out,O5.out];refine(KD r2 n 4 true w3 (by decide) (by decide) (by omega) fP).mono ?_;rintro e w4⟨g4,⟨r4,tN,De,rfl⟩|⟨a4,c4,xs,r4,pb,rfl,lS⟩⟩
      ·have HN:=ae (show R.fH l=none by rw[HT.out,HE.out,tN])
       have I4:=jF.out.gZ g4;clear d0 d1 d2 d3 d4 d5 Gu Gv Gw Bj OZ Dd g0 rJ xq g3 g4 g5 f0 f1 f2 f3 f4 f5 x0 x1 x2 x3;obtain⟨d0,d1,d2,d3,d4,d5⟩:=mI I4.L;have Dd:=I4.L.free 5;obtain⟨g0,rJ,xq,g3,g4,g5⟩:=mI I4.G;obtain⟨f0,f1,f2,f3,f4,f5⟩:=xo I4.G;have ky:=ae (I4.put 5 (.slice none 0 0));clear I4 jF HD HE tN;go_wp2;obtain⟨fY,g6⟩:=Db ky.out.G (.int .i64 2) (.int .i64 h) (.int .i64 v) (.int .i64 c) (.int .i64 z) (.slice none 0 0);refine bodyPost_ret (Dc g6 _ rfl rfl rfl) rfl ?_;exact⟨dF ky.out.g fY (bj _),.inl ⟨2,h,v,c,z,none,0,0,r4,HN.out,rfl⟩⟩
      ·have HN:=ae (show R.fH l=some (⟨2,h,v,c,z,xs⟩,r4) by rw[HT.out,HE.out,pb.out])
       have De:=(Gp r2 4 true n xs r4 pb.out).2;have I4:=jF.out.gZ g4;have eD:=jF.out.L.lt;clear d0 d1 d2 d3 d4 d5 Gu Gv Gw Bj OZ Dd g0 rJ xq g3 g4 g5 f0 f1 f2 f3 f4 f5 x0 x1 x2 x3;obtain⟨d0,d1,d2,d3,d4,d5⟩:=mI I4.L;have Dd:=I4.L.free 5;obtain⟨g0,rJ,xq,g3,g4,g5⟩:=mI I4.G;obtain⟨f0,f1,f2,f3,f4,f5⟩:=xo I4.G;have ky:=ae (I4.put 5 (.slice a4 xs.length c4));have Je:=ae ((lS.kept (bD w4 (w.heap.size+1) 5 (.slice a4 xs.length c4)) eD));have F7:=ae De;have C6:=ae eD;clear I4 jF HD HE lS De eD;go_wp2;obtain⟨fY,g6⟩:=Db ky.out.G (.int .i64 2) (.int .i64 h) (.int .i64 v) (.int .i64 c) (.int .i64 z) (.slice a4 xs.length c4);refine bodyPost_ret (Dc g6 _ rfl rfl rfl) rfl ?_;refine⟨dF ky.out.g fY (bj _),.inr ⟨⟨2,h,v,c,z,xs⟩,a4,c4,r4,HN.out,by have:=F7.out;omega,O4.out xs,rfl,?_⟩⟩;exact(Je.out.kept fY (by have:=C6.out;omega)).mono (by have:=C6.out;omega)
namespace R
def uQ(g:bX):Bool:=
 g.ts.all (fun t=>!(decide (M.cellsOf t=0)||decide (512<M.cellsOf t)))&&(decide (g.ts.length<=24)&&decide (g.ag.length<=16)&&decide (M.sumTo g.ts<=2048)&&decide (0<g.aK.length))
def oK(g:bX)(t:Int):Int:=(g.ts.map (·.af)).getD t.toNat 0
def Df(g:bX)(n:Nat)(t:Int):Bool:=(List.range n).any fun i=>match g.ag[i]? with|some o=>o.out==t|none=>false
def there(g:bX)(t:Int)(n:Nat)(ws bs:Bool):Bool:=
 if (g.ts.length:Int)<=t then false
 else if (ws||bs)=true then (ws&&oK g t==1)||(bs&&oK g t==2)
 else if oK g t≠3 then oK g t !=2 else Df g n t
def count(g:bX)(t:Int):Nat:=(g.ag.filter fun o=>o.out==t).length
def Dg(g:bX)(i:Nat)(o:Op):Bool:=
 decide (o.out<g.ts.length)&&(List.range o.ins.length).all fun k=>there g (o.ins.getD k 0) i (o.ins.length==3&&k==1) (o.ins.length==3&&k==2)
def pT(g:bX):Bool:=
 (List.range g.ts.length).all (fun t=>((oK g t==3)==(count g t==1))&&!decide (1<count g t)) &&
 (List.range g.ag.length).all (fun i=>match g.ag[i]? with|some o=>Dg g i o|none=>true) &&
 g.aK.all (fun u=>there g u g.ag.length false false)
theorem aq6(m:M.Md)(h:ow m):uQ (dp m)=M.nj m:=by
 have e:m.au.all (fun t=>!(decide (M.cellsOf t=0)||decide (512<M.cellsOf t)))=m.au.all M.vu:=by
  rw[nR,jn,jn];refine forall_congr' fun t=>forall_congr' fun ht=>?_;have ft:=h.ts t ht;have h0:0<=M.cellsOf t:=lg (lg ft.h0 ft.w0) ft.c0;unfold M.vu;simp;omega
 show(m.au.all _&&(decide (m.au.length<=24)&&decide ((m.ag.map bJ).length<=16)&&decide (M.sumTo m.au<=2048)&&decide (0<m.aK.length)))=_;rw[e,jb];unfold M.nj;rw[nR];simp only[eX,decide_eq_true_eq,Bool.not_eq_true',Bool.or_eq_false_iff,decide_eq_false_iff_not]
 cases m.aK with
 | nil=>simp
 | cons a l=>simp only[pN,List.isEmpty_cons];constructor<;>(intro hh;simp_all)
theorem TY{α:Type}(p:α->Bool)(l:List α):0<(l.filter p).length↔∃(i:Nat) (x:α),l[i]?=some x/\p x=true:=by
 rw[List.length_pos_iff_exists_mem]
 constructor
 ·rintro ⟨x,hx⟩
  obtain⟨h1,h2⟩:=List.mem_filter.mp hx;obtain⟨i,hi⟩:=mQ h1;exact⟨i,x,hi,h2⟩
 ·rintro ⟨i,x,hi,hp⟩
  exact⟨x,List.mem_filter.mpr ⟨bU hi,hp⟩⟩
theorem adD{α:Type}(p:α->Bool):∀(l:List α) (i j:Nat) (x y:α),i<j->l[i]?=some x->l[j]?=some y->p x=true->p y=true->2<=(l.filter p).length
 | [],i,j,x,y,_,hi,_,_,_=>by simp at hi
 | a::l,0,j+1,x,y,_,hi,hj,hx,hy=>by
  simp only[List.getElem?_cons_zero,kj] at hi;subst hi;rw[List.filter_cons,ay hx,pN];have:=(TY p l).mpr ⟨j,y,by simpa using hj,hy⟩;omega
 | a::l,i+1,j+1,x,y,rO,hi,hj,hx,hy=>by
  have:=adD p l i j x y (by omega) (by simpa using hi) (by simpa using hj) hx hy;rw[List.filter_cons]
  split
  ·rw[pN];omega
  ·exact this
theorem adE{α:Type}(p:α->Bool):∀(l:List α),(∀(i j:Nat) (x y:α),i<j->l[i]?=some x->l[j]?=some y->p x=true->p y=true->False)->(l.filter p).length<=1
 | [],_=>by simp
 | a::l,h=>by
  rw[List.filter_cons];have ih:=adE p l fun i j x y rO hi hj=>h (i+1) (j+1) x y (by omega) (by simpa using hi) (by simpa using hj)
  split
  ·rename_i ha
   rw[pN];have:¬0<(l.filter p).length:=fun hp=>by
    obtain⟨j,y,hj,hy⟩:=(TY p l).mp hp;exact h 0 (j+1) a y (by omega) rfl (by simpa using hj) ha hy
   omega
  ·exact ih
theorem zI(m:M.Md)(i:Nat)(o:Op):(dp m).ag[i]?=some o↔∃o',m.ag[i]?=some o'/\bJ o'=o:=by
 show(m.ag.map bJ)[i]?=some o↔_;rw[dV]
 cases m.ag[i]? with
 | none=>simp
 | some a=>simp
theorem O6(m:M.Md)(t:Int):0<count (dp m) t↔∃(i:Nat) (o:M.Op),m.ag[i]?=some o/\o.to=t:=by
 unfold count;rw[TY]
 constructor
 ·rintro ⟨i,x,hi,hx⟩
  obtain⟨o,ho,rfl⟩:=(zI m i x).mp hi;exact⟨i,o,ho,by simpa[bJ] using hx⟩
 ·rintro ⟨i,o,ho,he⟩
  exact⟨i,bJ o,(zI m i _).mpr ⟨o,ho,rfl⟩,by simpa[bJ] using he⟩
theorem adF(m:M.Md)(hF:ow m):((∀t:Nat,t<m.au.length->((oK (dp m) t=3)↔count (dp m) t=1)/\count (dp m) t<=1)/\(∀(i:Nat) o,m.ag[i]?=some o->o.to<m.au.length))↔(M.DX m m.ag.length/\M.IP m):=by
 constructor
 ·rintro ⟨h1,h2⟩
  refine⟨⟨fun i o _ ho=>?_,fun i j o p rO _ ho hp he=>?_⟩,fun t ht hk=>?_⟩
  ·have fo:=hF.os o (bU ho)
   have aJ:=h2 i o ho;have h0:=fo.to.1;have hc:0<count (dp m) (o.to.toNat:Nat):=(O6 m _).mpr ⟨i,o,ho,by omega⟩;have:=h1 o.to.toNat (by omega);have hk:=this.1.mpr (by omega);unfold M.jM;simp only[eX,decide_eq_true_eq,beq_iff_eq];refine⟨⟨h0,aJ⟩,?_⟩;unfold oK at hk;rw[eC] at hk;exact hk
  ·have fo:=hF.os o (bU ho)
   have aJ:=h2 i o ho;have h0:=fo.to.1;have:=(h1 o.to.toNat (by omega)).2;have h3:2<=count (dp m) (o.to.toNat:Nat):=adD _ _ i j (bJ o) (bJ p) rO ((zI m i _).mpr ⟨o,ho,rfl⟩) ((zI m j _).mpr ⟨p,hp,rfl⟩)
    (by show(o.to==((o.to.toNat:Nat):Int))=true;simp;omega) (by show(p.to==((o.to.toNat:Nat):Int))=true;simp;omega)
   omega
  ·have h3:=(h1 t ht).1.mp (by unfold oK;rw[eC];exact hk)
   obtain⟨i,o,ho,he⟩:=(O6 m t).mp (by omega);exact⟨i,o,ho,he⟩
 ·rintro ⟨hO,hA⟩
  have cY:∀(i:Nat) o,m.ag[i]?=some o->M.jM m o.to 3=true:=fun i o ho=>hO.Cb i o (M.bP ho) ho;refine⟨fun t ht=>?_,fun i o ho=>(M.yP (cY i o ho)).2.1⟩;have sP:count (dp m) t<=1:=adE _ _ fun i j x y rO hi hj hx hy=>by
   obtain⟨o,ho,rfl⟩:=(zI m i x).mp hi;obtain⟨p,hp,rfl⟩:=(zI m j y).mp hj;have e1:o.to=t:=by simpa[bJ] using hx
   have e2:p.to=t:=by simpa[bJ] using hy
   exact hO.apart i j o p rO (M.bP hp) ho hp (by rw[e1,e2])
  refine⟨⟨fun hk=>?_,fun hc=>?_⟩,sP⟩
  ·obtain⟨i,o,ho,he⟩:=hA t ht (by unfold oK at hk;rw[eC] at hk;exact hk)
   have:=(O6 m t).mpr ⟨i,o,ho,he⟩;omega
  ·obtain⟨i,o,ho,he⟩:=(O6 m t).mp (by omega)
   have:=(M.yP (cY i o ho)).2.2;rw[he] at this;exact this
theorem aq7(m:M.Md)(n:Nat)(t:Int):Df (dp m) n t=true↔∃(j:Nat) (o:M.Op),(j:Int)<n/\m.ag[j]?=some o/\o.to=t:=by
 unfold Df;rw[List.any_eq_true]
 constructor
 ·rintro ⟨i,hi,h⟩
  have hi:=List.mem_range.mp hi
  cases e:(dp m).ag[i]? with
  | none=>rw[e] at h;simp at h
  | some x=>
   obtain⟨o,ho,rfl⟩:=(zI m i x).mp e;rw[e] at h;exact⟨i,o,by omega,ho,by simpa[bJ] using h⟩
 ·rintro ⟨j,o,hj,ho,he⟩
  refine⟨j,List.mem_range.mpr (by omega),?_⟩;rw[(zI m j _).mpr ⟨o,ho,rfl⟩]
  simpa[bJ] using he
theorem O7(m:M.Md)(t:Int)(n:Nat)(h0:0<=t):there (dp m) t n false false=true↔M.uj m t n:=by
 unfold there M.uj;have e:(dp m).ts=m.au:=rfl;rw[e];have ek:oK (dp m) t=(m.au.map (·.af)).getD t.toNat 0:=rfl;rw[ek];by_cases hl:(m.au.length:Int)<=t
 ·rw[ay hl]
  exact⟨fun h=>aN h (by decide),fun h=>by omega⟩
 ·rw[ak hl,ak (by decide)]
  by_cases hk:(m.au.map (·.af)).getD t.toNat 0=3
  ·rw[ak (fun h=>h hk),aq7]
   exact⟨fun h=>⟨h0,by omega,by omega,fun _=>h⟩,fun h=>h.2.2.2 hk⟩
  ·rw[ay hk,bne_iff_ne]
   exact⟨fun h=>⟨h0,by omega,h,fun h3=>aN h3 hk⟩,fun h=>h.2.2.1⟩
theorem adG(m:M.Md)(t:Int)(n:Nat)(h0:0<=t):(there (dp m) t n true false=true↔M.jM m t 1=true)/\(there (dp m) t n false true=true↔M.jM m t 2=true):=by
 unfold there M.jM;have e:(dp m).ts=m.au:=rfl;rw[e];have ek:oK (dp m) t=(m.au.map (·.af)).getD t.toNat 0:=rfl;rw[ek];generalize (m.au.map (·.af)).getD t.toNat 0=k;by_cases hl:(m.au.length:Int)<=t
 ·rw[ay hl,ay hl]
  have:¬t<m.au.length:=by omega
  constructor<;>simp[this]
 ·rw[ak hl,ak hl]
  have:t<m.au.length:=by omega
  constructor<;>simp[this,h0]
theorem adH(m:M.Md)(i:Nat)(o:M.Op)(fo:kN o)(uF:o.to<m.au.length){by_:List Int}(hr:∀t,M.ny m by_ i t=true↔M.uj m t i) :
  Dg (dp m) i (bJ o)=true↔M.lI m by_ i o=true:=by
 unfold Dg;have ht:decide ((bJ o).out<(dp m).ts.length)=true:=eG uF;rw[ht,Bool.true_and];have ei:(bJ o).ins=pA o:=rfl;rw[ei];unfold M.lI;have ha:=fun n=>O7 m o.a n fo.a.1;have hb:=fun n=>O7 m o.b n fo.b.1;rw[eX,hr o.a,<-ha i];by_cases h2:M.dr o.af=true
 ·have hW:M.cm o.af=false:=by
   cases h:M.cm o.af with
   | false=>rfl
   | true=>rw[ku] at h;rw[nH] at h2;omega
  rw[ay h2,hr o.b,<-hb i];have e:pA o=[o.a,o.b]:=by unfold pA;rw[hW,h2];rfl
  rw[e];show((List.range 2).all fun k=>there (dp m) ([o.a,o.b].getD k 0) i (2==3&&k==1) (2==3&&k==2))=true↔_;rw[show List.range 2=[0,1] from rfl];simp
 ·rw[ak h2]
  by_cases hW:M.cm o.af=true
  ·rw[ak (by rw[hW];decide),eX,<-(adG m o.aP i fo.ws.1).1,<-(adG m o.bC i fo.bs.1).2]
   have e:pA o=[o.a,o.aP,o.bC]:=by unfold pA;rw[hW,ak h2];rfl
   rw[e];show((List.range 3).all fun k=>there (dp m) ([o.a,o.aP,o.bC].getD k 0) i (3==3&&k==1) (3==3&&k==2))=true↔_;rw[show List.range 3=[0,1,2] from rfl];simp
  ·have pU:M.cm o.af=false:=by simpa using hW
   rw[ay pU];have e:pA o=[o.a]:=by unfold pA;rw[pU,ak h2];rfl
   rw[e];show((List.range 1).all fun k=>there (dp m) ([o.a].getD k 0) i (1==3&&k==1) (1==3&&k==2))=true↔_;rw[show List.range 1=[0] from rfl];simp
theorem aq8(m:M.Md)(hF:ow m):pT (dp m)=M.lJ m:=by
 rw[nR];have h1:pT (dp m)=true↔(∀t:Nat,t<m.au.length->((oK (dp m) t=3)↔count (dp m) t=1)/\count (dp m) t<=1) /\
   (∀(i:Nat) o,m.ag[i]?=some o->Dg (dp m) i (bJ o)=true)/\(∀u∈m.aK,there (dp m) u m.ag.length false false=true):=by
  unfold pT;have e1:(dp m).ts=m.au:=rfl;have e2:(dp m).aK=m.aK:=rfl;have e3:(dp m).ag.length=m.ag.length:=jb _;rw[e1,e2,e3];simp only[eX,jn,List.mem_range,and_assoc];refine and_congr (forall_congr' fun t=>forall_congr' fun ht=>?_) (and_congr ⟨fun h i o ho=>?_,fun h i hi=>?_⟩ Iff.rfl)
  ·simp only[beq_iff_eq,Bool.not_eq_true',decide_eq_false_iff_not,Nat.not_lt]
   refine and_congr ?_ Iff.rfl;rw[nR,beq_iff_eq,beq_iff_eq]
  ·have:=h i (M.bP ho)
   rw[(zI m i _).mpr ⟨o,ho,rfl⟩] at this;exact this
  ·have hx:m.ag[i]?=some m.ag[i]:=aS hi
   rw[(zI m i _).mpr ⟨_,hx,rfl⟩];exact h i _ hx
 rw[h1];obtain⟨k1,k2⟩:=M.QV m
 constructor
 ·rintro ⟨a1,a2,a3⟩
  have uF:∀(i:Nat) o,m.ag[i]?=some o->o.to<m.au.length:=fun i o ho=>by
   have:=a2 i o ho;unfold Dg at this;simp only[eX,decide_eq_true_eq] at this;exact this.1
  have hOA:=(adF m hF).mp ⟨a1,uF⟩;unfold M.lJ
  cases hm:M.mF m with
  | none=>exact aN hOA (k2 hm)
  | some by_=>
   obtain⟨hO,hM,hA⟩:=k1 by_ hm;simp only[eX,jn,List.mem_range];refine⟨fun i hi=>?_,fun u hu=>?_⟩
   ·have hx:m.ag[i]?=some m.ag[i]:=aS hi
    rw[hx];exact(adH m i _ (hF.os _ (List.getElem_mem hi)) (uF i _ hx) fun t=>M.MJ hO hM hA t i (by omega)).mp (a2 i _ hx)
   ·have:=(O7 m u _ (hF.us u hu).1).mp (a3 u hu)
    unfold M.lZ;simp only[eX,decide_eq_true_eq,bne_iff_ne];exact⟨⟨this.1,this.2.1⟩,this.2.2.1⟩
 ·intro h
  unfold M.lJ at h
  cases hm:M.mF m with
  | none=>rw[hm] at h;exact Bool.noConfusion h
  | some by_=>
   rw[hm] at h;obtain⟨hO,hM,hA⟩:=k1 by_ hm;simp only[eX,jn,List.mem_range] at h;obtain⟨b1,b2⟩:=(adF m hF).mpr ⟨hO,hA⟩;refine⟨b1,fun i o ho=>?_,fun u hu=>?_⟩
   ·have:=h.1 i (M.bP ho)
    rw[ho] at this;exact(adH m i _ (hF.os _ (bU ho)) (b2 i _ ho) fun t=>M.MJ hO hM hA t i (by omega)).mpr this
   ·rw[O7 m u _ (hF.us u hu).1]
    have:=h.2 u hu;unfold M.lZ at this;simp only[eX,decide_eq_true_eq,bne_iff_ne] at this;refine⟨this.1.1,this.1.2,this.2,fun hk=>?_⟩;obtain⟨j,o,hj,he⟩:=hA u.toNat (by omega) hk;exact⟨j,o,by have:=M.bP hj;omega,hj,by omega⟩
end R
end Go.Proofs.YtcnhfffgbamonaaGreat
