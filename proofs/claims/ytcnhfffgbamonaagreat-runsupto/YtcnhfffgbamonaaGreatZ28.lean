import Derived.Test.YtcnhfffgbamonaaGreatZ27
set_option maxRecDepth 100000
set_option maxHeartbeats 6400000
namespace Go.Proofs.YtcnhfffgbamonaaGreat
open Go.Proofs.Tryz
namespace R
def pV(g:bX)(n:Int):M.Tn:=g.ts.getD n.toNat M.vx
def iV(t:M.Tn)(h w c:Int):Bool:=t.h==h&&t.w==w&&t.c==c
def ik(o:Op)(k:Nat):Int:=o.ins.getD k 0
def fy(o:Op)(k:Nat):Int:=o.cO.getD k 0
def gI(g:bX)(o:Op):Bool:=
 let a:=pV g (ik o 0)
 let z:=pV g o.out
 let b:=if 1<o.ins.length then pV g (ik o 1) else a
 if o.af=1\/o.af=2 then
  let v:=pV g (ik o 2)
  if fy o 0=0\/v.h≠1\/v.w≠1 then false else
   iV z (gG a.h b.h (fy o 0) (fy o 1==1)) (gG a.w b.w (fy o 0) (fy o 1==1)) v.c &&
    (b.c==(if o.af=1 then a.c*v.c else a.c))&&(o.af==1||v.c==a.c)
 else if o.af=3 then iV b b.h 1 (M.cellsOf a)&&iV (pV g (ik o 2)) 1 1 b.h&&iV z 1 1 b.h
 else if o.af=4 then iV b a.h a.w a.c&&iV z a.h a.w a.c
 else if o.af=5\/o.af=6 then
  if fy o 0=0\/fy o 1=0 then false else iV z (gG a.h (fy o 0) (fy o 1) false) (gG a.w (fy o 0) (fy o 1) false) a.c
 else if o.af=8 then iV z (a.h+fy o 0+fy o 1) (a.w+fy o 2+fy o 3) a.c
 else if o.af=9 then M.cellsOf a==M.cellsOf z
 else if o.af=10 then a.h==b.h&&a.w==b.w&&iV z a.h a.w (a.c+b.c)
 else iV z a.h a.w a.c
theorem mD(m:M.Md){n:Int}(h0:0<=n):pV (dp m) n=M.aq m n:=by
 unfold pV M.aq;show m.au.getD n.toNat M.vx=_;by_cases h:n<0\/(m.au.length:Int)<=n
 ·rw[ay h,List.getD,db (by omega)];rfl
 ·rw[ak h]
structure ara(t:M.Tn):Prop where
 h:1<=t.h
 w:1<=t.w
 c:1<=t.c
theorem KI{m:M.Md}(hF:ow m)(hl:M.nj m=true){n:Int}(h0:0<=n)(h1:n<m.au.length):ara (M.aq m n):=by
 have hm:M.aq m n∈m.au:=by
  unfold M.aq;rw[ak (by omega),List.getD,aS (by omega)];exact List.getElem_mem _
 have ft:=hF.ts _ hm;unfold M.nj at hl;simp only[eX,jn] at hl;have hc:=hl.1.2 _ hm;unfold M.vu at hc;simp only[Bool.not_eq_true',Bool.or_eq_false_iff,decide_eq_false_iff_not] at hc;have yL:=hc.1;unfold M.cellsOf at yL;generalize M.aq m n=t at *;have a0:=ft.h0;have b0:=ft.w0;have c0:=ft.c0;refine⟨?_,?_,?_⟩
 ·apply Classical.byContradiction
  intro hn;have:t.h=0:=by omega
  rw[this,Int.zero_mul,Int.zero_mul] at yL;omega
 ·apply Classical.byContradiction
  intro hn;have:t.w=0:=by omega
  rw[this,Int.mul_zero,Int.zero_mul] at yL;omega
 ·apply Classical.byContradiction
  intro hn;have:t.c=0:=by omega
  rw[this,Int.mul_zero] at yL;omega
structure arb(m:M.Md)(o:M.Op):Prop where
 a:o.a<m.au.length
 to:o.to<m.au.length
 b:M.dr o.af=true->o.b<m.au.length
 ws:M.cm o.af=true->o.aP<m.au.length/\o.bC<m.au.length
theorem TZ{m:M.Md}(hg:M.lJ m=true){o:M.Op}(ho:o∈m.ag):arb m o:=by
 obtain⟨by_,hm,hr,-⟩:=D.QS hg;obtain⟨i,hi⟩:=mQ ho;have h:=hr i o hi;obtain⟨hO,-,-⟩:=(M.QV m).1 by_ hm;have uF:=M.yP (hO.Cb i o (M.bP hi) hi);unfold M.lI at h;rw[eX] at h;have hc:∀{t:Int},M.ny m by_ i t=true->t<m.au.length:=by
  intro t ht;unfold M.ny M.lZ at ht;simp only[eX,decide_eq_true_eq] at ht;exact ht.1.1.1.2
 refine⟨hc h.1,uF.2.1,fun h2=>?_,fun hW=>?_⟩
 ·have:=h.2;rw[ay h2] at this;exact hc this
 ·have h2:¬M.dr o.af=true:=by rw[nH];rw[ku] at hW;omega
  have:=h.2;rw[ak h2,ak (by rw[hW];decide),eX] at this;exact⟨(M.yP this.1).2.1,(M.yP this.2).2.1⟩
theorem zJ{o:M.Op}(h:M.cm o.af=true):(bJ o).ins=[o.a,o.aP,o.bC]:=by
 have h2:¬M.dr o.af=true:=by rw[nH];rw[ku] at h;omega
 show pA o=_;unfold pA;rw[h,ak h2];rfl
theorem Dh{o:M.Op}(h:M.dr o.af=true):(bJ o).ins=[o.a,o.b]:=by
 have h2:¬M.cm o.af=true:=by rw[ku];rw[nH] at h;omega
 show pA o=_;unfold pA;rw[h,ak h2];rfl
theorem Di{o:M.Op}(h:¬M.dr o.af=true)(h2:¬M.cm o.af=true):(bJ o).ins=[o.a]:=by
 show pA o=_;unfold pA;rw[ak h,ak h2];rfl
theorem Gx(t:M.Tn)(h w c:Int):iV t h w c=true↔t.h=h/\t.w=w/\t.c=c:=by unfold iV;simp[and_assoc]
theorem DY(t:M.Tn)(n:Int):M.isRow t n=true↔t.h=1/\t.w=1/\t.c=n:=by unfold M.isRow;simp[and_assoc]
theorem At(a z:M.Tn):M.kY a z=true↔a.h=z.h/\a.w=z.w/\a.c=z.c:=by unfold M.kY;simp[and_assoc]
theorem arc(n length s:Int)(same:Bool)(h:s<1):M.dP n length s same=0:=by unfold M.dP;rw[ay (.inl h)]
theorem T0{m:M.Md}(hF:ow m)(hl:M.nj m=true)(hg:M.lJ m=true){o:M.Op}(ho:o∈m.ag)(k:o.af=1\/o.af=2):gI (dp m) (bJ o)=M.bT m o:=by
 have fo:=hF.os o ho;have nr:=TZ hg ho;have hW:M.cm o.af=true:=by rw[ku];omega
 have fa:=KI hF hl fo.a.1 nr.a;have fz:=KI hF hl fo.to.1 nr.to;have fw:=KI hF hl fo.ws.1 (nr.ws hW).1;have ea:=mD m fo.a.1;have ez:=mD m fo.to.1;have ew:=mD m fo.ws.1;have eb:=mD m fo.bs.1;have s0:=fo.aE.1;unfold gI M.bT;have ek:(bJ o).af=o.af:=rfl;have eo:(bJ o).out=o.to:=rfl;have en:(bJ o).cO=[o.aE,if o.same=true then 1 else 0]++Gs o.bM++[o.lo,o.hi]:=by
  show iH o=_;unfold iH;rw[ay k,ay (show 1<=o.af/\o.af<=7 by omega)]
 have e1:fy (bJ o) 0=o.aE:=by unfold fy;rw[en];rfl
 have e2:(fy (bJ o) 1==1)=o.same:=by unfold fy;rw[en];cases o.same<;>rfl
 have i0:ik (bJ o) 0=o.a:=by unfold ik;rw[zJ hW];rfl
 have i1:ik (bJ o) 1=o.aP:=by unfold ik;rw[zJ hW];rfl
 have i2:ik (bJ o) 2=o.bC:=by unfold ik;rw[zJ hW];rfl
 have il:1<(bJ o).ins.length:=by rw[zJ hW];exact Nat.lt_of_sub_eq_succ rfl
 rw[ek,eo,e1,e2,i0,i1,i2,ea,ez,ew,eb];simp only[ay k,ay il];generalize M.aq m o.a=a at *;generalize M.aq m o.to=z at *;generalize M.aq m o.aP=w at *;generalize M.aq m o.bC=v at *;unfold M.qe;by_cases hs:o.aE=0
 ·rw[ay (.inl hs),ay (.inl (by rw[arc _ _ _ _ (by omega)];have:=fz.h;omega))]
 ·rw[D.IM o.same (by have:=fa.h;omega) (by omega) fw.h,D.IM o.same (by have:=fa.w;omega) (by omega) fw.w]
  generalize M.dP w.h a.h o.aE o.same=p;generalize M.dP w.w a.w o.aE o.same=q;have Gy:M.isRow v z.c=false↔¬(v.h=1/\v.w=1/\v.c=z.c):=by rw[<-DY];simp
  rw[nR];by_cases c1:o.aE=0\/v.h≠1\/v.w≠1
  ·rw[ay c1,ay (.inr (.inr (Gy.mpr (by omega))))]
  ·rw[ak c1]
   by_cases c2:z.h≠p\/z.w≠q\/M.isRow v z.c=false
   ·rw[ay c2]
    rw[Gy] at c2;simp only[eX,Gx]
    constructor
    ·rintro ⟨⟨h1,-⟩,-⟩;omega
    ·intro h;exact aN h (by decide)
   ·rw[ak c2]
    rw[Gy] at c2;have hvc:v.c=z.c:=by omega
    have ht:iV z p q v.c=true:=by rw[Gx];omega
    rw[ht,hvc];rcases k with k|k
    ·rw[k];simp
    ·rw[k];simp
theorem are{m:M.Md}(hF:ow m)(hl:M.nj m=true)(hg:M.lJ m=true){o:M.Op}(ho:o∈m.ag):gI (dp m) (bJ o)=M.bT m o:=by
 by_cases kc:o.af=1\/o.af=2
 ·exact T0 hF hl hg ho kc
 have fo:=hF.os o ho;have nr:=TZ hg ho;have fa:=KI hF hl fo.a.1 nr.a;have fz:=KI hF hl fo.to.1 nr.to;have ea:=mD m fo.a.1;have ez:=mD m fo.to.1;have k0:=fo.k0;have k1:=fo.k1;have s0:=fo.aE.1;have n0:=fo.size.1;unfold gI M.bT;have ek:(bJ o).af=o.af:=rfl;have eo:(bJ o).out=o.to:=rfl;have i0:ik (bJ o) 0=o.a:=rfl;rw[ek,eo,i0,ea,ez];simp only[ak kc];rcases(show o.af=3\/o.af=4\/(o.af=5\/o.af=6)\/o.af=7\/o.af=8\/o.af=9\/o.af=10 by omega) with k|k|k|k|k|k|k
 ·have hW:M.cm o.af=true:=by rw[ku];omega
  have i1:ik (bJ o) 1=o.aP:=by unfold ik;rw[zJ hW];rfl
  have i2:ik (bJ o) 2=o.bC:=by unfold ik;rw[zJ hW];rfl
  have il:1<(bJ o).ins.length:=by rw[zJ hW];exact Nat.lt_of_sub_eq_succ rfl
  simp only[ay k,ay il,i1,i2,mD m fo.ws.1,mD m fo.bs.1];unfold M.qL;rw[nR];simp only[eX,Gx,DY,beq_iff_eq]
  constructor
  ·rintro ⟨⟨h1,h2⟩,h3⟩;exact⟨⟨⟨h3,h2⟩,h1.2.1⟩,h1.2.2⟩
  ·rintro ⟨⟨⟨h3,h2⟩,h1⟩,h4⟩;exact⟨⟨⟨trivial,h1,h4⟩,h2⟩,h3⟩
 ·have h2:M.dr o.af=true:=by rw[nH];omega
  have i1:ik (bJ o) 1=o.b:=by unfold ik;rw[Dh h2];rfl
  have il:1<(bJ o).ins.length:=by rw[Dh h2];exact Nat.lt_of_sub_eq_succ rfl
  have n3:¬o.af=3:=by omega
  simp only[ak n3,ay k,ay il,i1,mD m fo.b.1];rw[nR];simp only[eX,Gx,At];omega
 ·have n3:¬o.af=3:=by omega
  have n4:¬o.af=4:=by omega
  have n7:¬o.af=7:=by omega
  have en:(bJ o).cO=[o.size,o.aE]++Gs o.bM++[o.lo,o.hi]:=by
   show iH o=_;unfold iH;rw[ak kc,ay k,ay (by omega)]
  have e1:fy (bJ o) 0=o.size:=by unfold fy;rw[en];rfl
  have e2:fy (bJ o) 1=o.aE:=by unfold fy;rw[en];rfl
  simp only[ak n3,ak n4,ak n7,ay k,e1,e2];unfold M.rG;generalize M.aq m o.a=a at *;generalize M.aq m o.to=z at *;by_cases hs:o.size=0\/o.aE=0
  ·rw[ay hs]
   have:M.dP o.size a.h o.aE false=0:=by unfold M.dP;rw[ay (by omega)]
   rw[this];have hz:¬z.h=0:=by have:=fz.h;omega
   have xM:(z.h==0)=false:=by simpa using hz
   rw[xM];rfl
  ·rw[ak hs,D.IM false (by have:=fa.h;omega) (by omega) (by omega),D.IM false (by have:=fa.w;omega) (by omega) (by omega)]
   rfl
 ·have n3:¬o.af=3:=by omega
  have n4:¬o.af=4:=by omega
  have n5:¬(o.af=5\/o.af=6):=by omega
  have n8:¬o.af=8:=by omega
  have n9:¬o.af=9:=by omega
  have n10:¬o.af=10:=by omega
  simp only[ak n3,ak n4,ak n5,ak n8,ak n9,ak n10,ay k];rw[nR,Gx,At];omega
 ·have n3:¬o.af=3:=by omega
  have n4:¬o.af=4:=by omega
  have n5:¬(o.af=5\/o.af=6):=by omega
  have n7:¬o.af=7:=by omega
  have hs:o.bM=[]:=List.eq_nil_of_length_eq_zero (by rw[fo.bM,ak (by rw[ku];omega),ak n4]);have en:(bJ o).cO=[o.aT,o.below,o.left,o.right]:=by
   show iH o=_;unfold iH;rw[ak kc,ak n5,ay k,ak (by omega),hs];rfl
  have e0:fy (bJ o) 0=o.aT:=by unfold fy;rw[en];rfl
  have e1:fy (bJ o) 1=o.below:=by unfold fy;rw[en];rfl
  have e2:fy (bJ o) 2=o.left:=by unfold fy;rw[en];rfl
  have e3:fy (bJ o) 3=o.right:=by unfold fy;rw[en];rfl
  simp only[ak n3,ak n4,ak n5,ak n7,ay k,e0,e1,e2,e3]
  rfl
 ·have n3:¬o.af=3:=by omega
  have n4:¬o.af=4:=by omega
  have n5:¬(o.af=5\/o.af=6):=by omega
  have n7:¬o.af=7:=by omega
  have n8:¬o.af=8:=by omega
  simp only[ak n3,ak n4,ak n5,ak n7,ak n8,ay k]
 ·have h2:M.dr o.af=true:=by rw[nH];omega
  have i1:ik (bJ o) 1=o.b:=by unfold ik;rw[Dh h2];rfl
  have il:1<(bJ o).ins.length:=by rw[Dh h2];exact Nat.lt_of_sub_eq_succ rfl
  have n3:¬o.af=3:=by omega
  have n4:¬o.af=4:=by omega
  have n5:¬(o.af=5\/o.af=6):=by omega
  have n7:¬o.af=7:=by omega
  have n8:¬o.af=8:=by omega
  have n9:¬o.af=9:=by omega
  simp only[ak n3,ak n4,ak n5,ak n7,ak n8,ak n9,ay k,ay il,i1,mD m fo.b.1];rw[nR];simp only[eX,Gx,beq_iff_eq,and_assoc]
end R
namespace R
def iz(k:Int):List Char:=match bT k with|some p=>p.2|none=>[]
def wO(o:Op):Bool:=
 (List.range (iz o.af).length).all fun k=>!((iz o.af).getD k (Char.ofNat 32)==(Char.ofNat 119)&&(decide (fy o k<1073741824)||decide (fy o (k+1) < -31)||decide (30<fy o (k+1))))
def m6(o:Op):Bool:=!(decide (0<o.cO.length)&&o.af !=8&&decide (fy o (o.cO.length-1)<fy o (o.cO.length-2)))
def pW(g:bX)(o:Op):Bool:=
 (List.range o.ins.length).all fun k=>!(o.ins.length==3&&decide (0<k)&&(pV g (ik o k)).zero !=0)&&!(decide (o.ins.length<3)&&o.af !=4&&(pV g (ik o k)).zero !=(pV g o.out).zero)
def uR(t:M.Tn):Bool:=t.data.all (fun v=>!(decide (1073741824<v)||decide (v < -1073741824)))&&!(t.af==2&&t.zero !=0)
def yh(g:bX):Bool:=g.ts.all uR&&g.ag.all (fun o=>wO o&&m6 o&&pW g o)
def sB(g:bX):Int:=
 if uQ g=false then 3 else if pT g=false then 4 else if g.ag.all (gI g)=false then 5 else if yh g=false then 6 else 0
theorem arf{t:M.Tn}(h:yN t):uR t=M.qM t:=by
 unfold uR M.qM;by_cases k2:t.af=2
 ·rw[ak (fun h=>h k2),k2]
  congr 1
  cases hz:(t.zero==0)<;>simp_all
 ·rw[ay k2]
  have e:(t.af==2)=false:=by simpa using k2
  rw[e];by_cases k1:t.af=1
  ·have:t.data.all (fun v=>!(decide (1073741824<v)||decide (v < -1073741824)))=true:=by
    rw[jn];intro v hv;have:=(h.lr k1).2 v hv;simp;omega
   rw[this];rfl
  ·rw[h.Xl k1 k2];rfl
theorem Gz{c:M.Sc}(h:uh c):M.rH c=true↔¬(c.eF<1073741824\/c.shift < -31\/30<c.shift):=by
 unfold M.rH;have:=h.m1;simp;omega
theorem Ms{m:M.Md}{o:M.Op}(fo:kN o)(hW:M.cm o.af=true)(hb:(M.aq m o.bC).zero=0):pW (dp m) (bJ o)=M.jV m o:=by
 unfold pW M.jV ik;rw[zJ hW,ay hW];show((List.range 3).all _)=_;rw[show List.range 3=[0,1,2] from rfl];rw[nR];simp[mD m fo.ws.1,mD m fo.bs.1,hb]
theorem adK{α:Type}{l:List α}(h:l.length=3):∃a b c,l=[a,b,c]:=by
 match l,h with
 | [a,b,c],_=>exact⟨a,b,c,rfl⟩
theorem arh{m:M.Md}(hF:ow m)(hg:M.lJ m=true)(OY:∀t∈m.au,M.qM t=true){o:M.Op}(ho:o∈m.ag) :
  (wO (bJ o)&&m6 (bJ o)&&pW (dp m) (bJ o))=M.kB m o:=by
 have fo:=hF.os o ho;have nr:=TZ hg ho;have k0:=fo.k0;have k1:=fo.k1;have pS:=fo.bM;have ek:(bJ o).af=o.af:=rfl;have adL:M.cm o.af=true->(M.aq m o.bC).zero=0:=by
  intro hW;obtain⟨by_,hm,hr,-⟩:=D.QS hg;obtain⟨i,hi⟩:=mQ ho;have h:=hr i o hi;unfold M.lI at h;have h2:¬M.dr o.af=true:=by rw[nH];rw[ku] at hW;omega
  rw[ak h2,ak (by rw[hW];decide),eX,eX] at h;obtain⟨t0,t1,t2⟩:=M.yP h.2.2;have e:M.aq m o.bC=m.au[o.bC.toNat]:=by
   unfold M.aq;rw[ak (by omega),List.getD,aS (by omega)];rfl
  have e2:m.au[o.bC.toNat].af=2:=by
   rw[List.getD,dV,aS (by omega)] at t2;exact t2
  have:=OY _ (List.getElem_mem (by omega:o.bC.toNat<m.au.length));unfold M.qM at this;rw[ak (fun h=>h e2),eX] at this;rw[e];simpa using this.2
 unfold M.kB;rcases(show(o.af=1\/o.af=2)\/o.af=3\/o.af=4\/(o.af=5\/o.af=6)\/o.af=7\/o.af=8\/o.af=9\/o.af=10 by omega) with k|k|k|k|k|k|k|k
 ·have hW:M.cm o.af=true:=by rw[ku];omega
  rw[ay hW] at pS;obtain⟨c,hc⟩:=List.length_eq_one_iff.mp pS;have fc:=fo.gI c (by rw[hc];simp);have en:(bJ o).cO=[o.aE,if o.same=true then 1 else 0,c.eF,c.shift,o.lo,o.hi]:=by
   show iH o=_;unfold iH;rw[ay k,ay (show 1<=o.af/\o.af<=7 by omega),hc];rfl
  have es:iz o.af=[(Char.ofNat 117),(Char.ofNat 98),(Char.ofNat 119),(Char.ofNat 115),(Char.ofNat 115),(Char.ofNat 115)]:=by unfold iz bT;rw[ay k]
  rw[Ms fo hW (adL hW),hc]
  congr 1
  unfold wO m6 fy;rw[ek,es,en];show(((List.range 6).all _)&&_)=_;rw[show List.range 6=[0,1,2,3,4,5] from rfl,nR];have k8:o.af≠8:=by omega
  simp[Gz fc,k8];omega
 ·have hW:M.cm o.af=true:=by rw[ku];omega
  rw[ay hW] at pS;obtain⟨c,hc⟩:=List.length_eq_one_iff.mp pS;have fc:=fo.gI c (by rw[hc];simp);have en:(bJ o).cO=[c.eF,c.shift,o.lo,o.hi]:=by
   show iH o=_;unfold iH;rw[ak (by omega),ak (by omega),ak (by omega),ay (show 1<=o.af/\o.af<=7 by omega),hc];rfl
  have es:iz o.af=[(Char.ofNat 119),(Char.ofNat 115),(Char.ofNat 115),(Char.ofNat 115)]:=by unfold iz bT;rw[ak (by omega),ay k]
  rw[Ms fo hW (adL hW),hc]
  congr 1
  unfold wO m6 fy;rw[ek,es,en];show(((List.range 4).all _)&&_)=_;rw[show List.range 4=[0,1,2,3] from rfl,nR];have k8:o.af≠8:=by omega
  simp[Gz fc,k8];omega
 ·have hW:¬M.cm o.af=true:=by rw[ku];omega
  have h2:M.dr o.af=true:=by rw[nH];omega
  rw[ak hW,ay k] at pS;obtain⟨c,d,e,hc⟩:=adK pS;have fc:=fo.gI c (by rw[hc];simp);have fd:=fo.gI d (by rw[hc];simp);have fe:=fo.gI e (by rw[hc];simp);have en:(bJ o).cO=[c.eF,c.shift,d.eF,d.shift,e.eF,e.shift,o.lo,o.hi]:=by
   show iH o=_;unfold iH;rw[ak (by omega),ak (by omega),ak (by omega),ay (show 1<=o.af/\o.af<=7 by omega),hc];rfl
  have es:iz o.af=[(Char.ofNat 119),(Char.ofNat 115),(Char.ofNat 119),(Char.ofNat 115),(Char.ofNat 119),(Char.ofNat 115),(Char.ofNat 115),(Char.ofNat 115)]:=by unfold iz bT;rw[ak (by omega),ak (by omega),ay k]
  have ez:pW (dp m) (bJ o)=M.jV m o:=by
   unfold pW M.jV ik;rw[Dh h2,ak hW,ay k,ek];show((List.range 2).all _)=_;rw[show List.range 2=[0,1] from rfl];simp[k]
  rw[ez,hc]
  congr 1
  unfold wO m6 fy;rw[ek,es,en];show(((List.range 8).all _)&&_)=_;rw[show List.range 8=[0,1,2,3,4,5,6,7] from rfl,nR];have k8:o.af≠8:=by omega
  simp[Gz fc,Gz fd,Gz fe,k8];omega
 all_goals
  have hW:¬M.cm o.af=true:=by rw[ku];omega
  have n4:¬o.af=4:=by omega
  rw[ak hW,ak n4] at pS;have hc:o.bM=[]:=List.eq_nil_of_length_eq_zero pS
 ·have h2:¬M.dr o.af=true:=by rw[nH];omega
  have en:(bJ o).cO=[o.size,o.aE,o.lo,o.hi]:=by
   show iH o=_;unfold iH;rw[ak (by omega),ay k,ay (show 1<=o.af/\o.af<=7 by omega),hc];rfl
  have es:iz o.af=[(Char.ofNat 117),(Char.ofNat 117),(Char.ofNat 115),(Char.ofNat 115)]:=by unfold iz bT;rw[ak (by omega),ak (by omega),ak (by omega),ay k]
  have ez:pW (dp m) (bJ o)=M.jV m o:=by
   unfold pW M.jV ik;rw[Di h2 hW,ak hW,ak n4,ek];show((List.range 1).all _)=_;rw[show List.range 1=[0] from rfl,nR];have e1:(bJ o).out=o.to:=rfl;simp[n4,h2,e1,mD m fo.a.1,mD m fo.to.1]
  rw[ez,hc]
  congr 1
  unfold wO m6 fy;rw[ek,es,en];show(((List.range 4).all _)&&_)=_;rw[show List.range 4=[0,1,2,3] from rfl,nR];have k8:o.af≠8:=by omega
  simp[k8]
 ·have h2:¬M.dr o.af=true:=by rw[nH];omega
  have en:(bJ o).cO=[o.lo,o.hi]:=by
   show iH o=_;unfold iH;rw[ak (by omega),ak (by omega),ak (by omega),ay (show 1<=o.af/\o.af<=7 by omega),hc];rfl
  have es:iz o.af=[(Char.ofNat 115),(Char.ofNat 115)]:=by unfold iz bT;rw[ak (by omega),ak (by omega),ak (by omega),ak (by omega),ay k]
  have ez:pW (dp m) (bJ o)=M.jV m o:=by
   unfold pW M.jV ik;rw[Di h2 hW,ak hW,ak n4,ek];show((List.range 1).all _)=_;rw[show List.range 1=[0] from rfl,nR];have e1:(bJ o).out=o.to:=rfl;simp[n4,h2,e1,mD m fo.a.1,mD m fo.to.1]
  rw[ez,hc]
  congr 1
  unfold wO m6 fy;rw[ek,es,en];show(((List.range 2).all _)&&_)=_;rw[show List.range 2=[0,1] from rfl,nR];have k8:o.af≠8:=by omega
  simp[k8]
 ·have h2:¬M.dr o.af=true:=by rw[nH];omega
  have ml:=fo.QQ (by omega);have es:iz o.af=[(Char.ofNat 117),(Char.ofNat 117),(Char.ofNat 117),(Char.ofNat 117)]:=by unfold iz bT;rw[ak (by omega),ak (by omega),ak (by omega),ak (by omega),ak (by omega),ay k]
  have ez:pW (dp m) (bJ o)=M.jV m o:=by
   unfold pW M.jV ik;rw[Di h2 hW,ak hW,ak n4,ek];show((List.range 1).all _)=_;rw[show List.range 1=[0] from rfl,nR];have e1:(bJ o).out=o.to:=rfl;simp[n4,h2,e1,mD m fo.a.1,mD m fo.to.1]
  rw[ez,hc,ml.1,ml.2]
  congr 1
  unfold wO m6;rw[ek,es,k];show(((List.range 4).all _)&&_)=_;rw[show List.range 4=[0,1,2,3] from rfl,nR];simp
 ·have h2:¬M.dr o.af=true:=by rw[nH];omega
  have ml:=fo.QQ (by omega);have en:(bJ o).cO=[]:=by
   show iH o=_;unfold iH;rw[ak (by omega),ak (by omega),ak (by omega),ak (by omega),hc];rfl
  have es:iz o.af=[]:=by unfold iz bT;rw[ak (by omega),ak (by omega),ak (by omega),ak (by omega),ak (by omega),ak (by omega),ay k]
  have ez:pW (dp m) (bJ o)=M.jV m o:=by
   unfold pW M.jV ik;rw[Di h2 hW,ak hW,ak n4,ek];show((List.range 1).all _)=_;rw[show List.range 1=[0] from rfl,nR];have e1:(bJ o).out=o.to:=rfl;simp[n4,h2,e1,mD m fo.a.1,mD m fo.to.1]
  rw[ez,hc,ml.1,ml.2]
  congr 1
  unfold wO m6;rw[ek,es,en]
  rfl
 ·have h2:M.dr o.af=true:=by rw[nH];omega
  have ml:=fo.QQ (by omega);have en:(bJ o).cO=[]:=by
   show iH o=_;unfold iH;rw[ak (by omega),ak (by omega),ak (by omega),ak (by omega),hc];rfl
  have es:iz o.af=[]:=by unfold iz bT;rw[ak (by omega),ak (by omega),ak (by omega),ak (by omega),ak (by omega),ak (by omega),ak (by omega),ay k]
  have ez:pW (dp m) (bJ o)=M.jV m o:=by
   unfold pW M.jV ik;rw[Dh h2,ak hW,ak n4,ek];show((List.range 2).all _)=_;rw[show List.range 2=[0,1] from rfl,nR];have e1:(bJ o).out=o.to:=rfl;simp[n4,h2,e1,mD m fo.a.1,mD m fo.b.1,mD m fo.to.1]
  rw[ez,hc,ml.1,ml.2]
  congr 1
  unfold wO m6;rw[ek,es,en]
  rfl
theorem T6{α:Type}{l:List α}{p q:α->Bool}(h:∀x∈l,p x=q x):l.all p=l.all q:=by
 rw[nR,jn,jn];exact forall_congr' fun x=>forall_congr' fun hx=>by rw[h x hx]
theorem ML{m:M.Md}(hF:ow m)(hg:M.lJ m=true):yh (dp m)=M.sN m:=by
 unfold yh M.sN;show(m.au.all uR&&(m.ag.map bJ).all _)=_;rw[T6 fun t ht=>arf (hF.ts t ht),List.all_map]
 cases hb:m.au.all M.qM with
 | false=>rfl
 | true=>
  rw[jn] at hb;rw[Bool.true_and,Bool.true_and];exact T6 fun o ho=>arh hF hg hb ho
theorem ari{m:M.Md}(hF:ow m):sB (dp m)=M.check m:=by
 unfold sB M.check;rw[aq6 m hF,aq8 m hF]
 cases hl:M.nj m with
 | false=>rfl
 | true=>
  cases hg:M.lJ m with
  | false=>rfl
  | true=>
   have e:(dp m).ag.all (gI (dp m))=M.z6 m:=by
    show(m.ag.map bJ).all _=m.ag.all _;rw[List.all_map];exact T6 fun o ho=>are hF hl hg ho
   rw[e,ML hF hg]
end R
open Go.RowKit
namespace R
theorem arj{α:Type}(f:List UInt8->fW α):nx f ok=f:=by
 funext l
 unfold nx
 cases f l<;>rfl
theorem adM(us bs:List Char):aW (us++bs)=nx (aW us) fun xs=>nx (aW bs) fun ys=>ok (xs++ys):=by
 induction us with
 | nil=>
  rw[Bi];show aW bs=nx (aW bs) fun ys=>ok ys;exact(arj (aW bs)).symm
 | cons c cs ih=>
  rw[C8];show nx (cO c) (fun v=>nx (aW (cs++bs)) fun vs=>ok (v::vs))=_;refine congrArg (nx (cO c)) ?_
  funext v
  rw[ih,wL];refine congrArg (nx (aW cs)) ?_
  funext xs
  rw[wL]
  rfl
theorem ark(c:Char):aW [c]=nx (cO c) fun v=>ok [v]:=rfl
theorem arl{cs:List Char}{c:Char}{l r r':List UInt8}{vs:List Int}{v:Int}(h:aW cs l=some (vs,r))(h':cO c r=some (v,r')):aW (cs++[c]) l=some (vs++[v],r'):=by
 rw[adM,nx,h];show nx (aW [c]) (fun ys=>ok (vs++ys)) r=_;rw[ark,wL,nx,h']
 rfl
theorem arn{cs ds:List Char}{c:Char}{l r:List UInt8}{vs:List Int}(h:aW cs l=some (vs,r))(h':cO c r=none):aW (cs++c::ds) l=none:=by
 rw[adM,nx,h];show nx (aW (c::ds)) (fun ys=>ok (vs++ys)) r=_;rw[C8,nx,h']
theorem O8{c:Char}{r r':List UInt8}{v:Int}(ht:take r (if c=(Char.ofNat 119) then 4 else 1) (c==(Char.ofNat 115)||c==(Char.ofNat 119))=(v,r',true))(h:¬(c=(Char.ofNat 98)/\¬v<2)):cO c r=some (v,r'):=by
 unfold cO;rw[nx,sA ht];show(if _ then _ else _)=_;rw[ak h]
theorem O9{c:Char}{r r':List UInt8}{v:Int}(ht:take r (if c=(Char.ofNat 119) then 4 else 1) (c==(Char.ofNat 115)||c==(Char.ofNat 119))=(v,r',false)):cO c r=none:=by
 unfold cO;rw[nx,qC ht]
theorem aro{c:Char}{r r':List UInt8}{v:Int}(ht:take r (if c=(Char.ofNat 119) then 4 else 1) (c==(Char.ofNat 115)||c==(Char.ofNat 119))=(v,r',true))(h:c=(Char.ofNat 98)/\¬v<2):cO c r=none:=by
 unfold cO;rw[nx,sA ht];show(if _ then _ else _)=_;rw[ay h]
def dd(k:Int):Int:=match bT k with|some p=>p.1|none=>-1
def pX(c:Char):UInt8:=c.toNat.toUInt8
def adN(c:Char):Prop:=c=(Char.ofNat 117)\/c=(Char.ofNat 115)\/c=(Char.ofNat 98)\/c=(Char.ofNat 119)
theorem KJ(k:Int)(h:bT k≠none):k=1\/k=2\/k=3\/k=4\/k=5\/k=6\/k=7\/k=8\/k=9\/k=10:=by
 rcases Decidable.em (k=1\/k=2\/k=3\/k=4\/k=5\/k=6\/k=7\/k=8\/k=9\/k=10) with h' | h'
 ·exact h'
 ·refine aN ?_ h
  unfold bT;rw[ak (by omega),ak (by omega),ak (by omega),ak (by omega),ak (by omega),ak (by omega),ak (by omega),ak (by omega)]
theorem KK(k:Int)(h:bT k≠none):(1<=dd k/\dd k<=3)/\(iz k).length<=8/\∀c∈iz k,adN c:=by
 rcases KJ k h with rfl|rfl|rfl|rfl|rfl|rfl|rfl|rfl|rfl|rfl
 all_goals
  exact⟨by decide,by decide,by unfold adN;decide⟩
end R
theorem adO(k:Int)(w:World) :
  Calls prog 111 #[.int .i64 k] w fun e w'=>e=.returned (.tuple #[.int .i64 (R.dd k),.string (S9 ((R.iz k).map R.pX))])/\w'=w:=by
 by_cases h:R.bT k=none
 ·have h1:¬(k=1\/k=2\/k=3\/k=4\/k=5\/k=6\/k=7\/k=8\/k=9\/k=10):=by
   intro hk;rcases hk with rfl|rfl|rfl|rfl|rfl|rfl|rfl|rfl|rfl|rfl<;>exact aN h (by decide)
  have hr:=ae (show R.dd k = -1 by unfold R.dd;rw[h]);have hs:=ae (show(R.iz k).map R.pX=[] by unfold R.iz;rw[h];rfl);have n1:(k==1)=false:=by simp;omega
  have n2:(k==2)=false:=by simp;omega
  have n3:(k==3)=false:=by simp;omega
  have n4:(k==4)=false:=by simp;omega
  have n5:(k==5)=false:=by simp;omega
  have n6:(k==6)=false:=by simp;omega
  have n7:(k==7)=false:=by simp;omega
  have n8:(k==8)=false:=by simp;omega
  have n9:(k==9)=false:=by simp;omega
  have n10:(k==10)=false:=by simp;omega
  clear h1 h;go_enter func111,ntmps111;go_wp2
  go_ret2
  exact⟨by rw[hr.out,hs.out];rfl,rfl⟩
 ·rcases R.KJ k h with rfl|rfl|rfl|rfl|rfl|rfl|rfl|rfl|rfl|rfl
  all_goals
   clear h;go_enter func111,ntmps111;go_wp2
   go_ret2
   exact⟨rfl,rfl⟩
end Go.Proofs.YtcnhfffgbamonaaGreat
